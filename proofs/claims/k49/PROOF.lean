import PyProof.Rows.All
import Wide.All
import OpenK.AllK
import Wide.FinOn
import Lean
import PyProof.EqAt
import PyProof.EqKinds
import PyProof.TupleCall
import PySem.Challenge.RW_closepoints_k49_whole_farthest_and_middl
set_option compiler.extract_closed false
-- CHANGE: your row's module here,as the last of these rows
set_option Elab.async false
set_option linter.all false
set_option maxRecDepth 100000
namespace L2
open PySem PySem.Spec PyProof.Rows

noncomputable abbrev Key:=Sum Int Str
noncomputable def keyIs:Key -> Value -> Bool
  | .inl k,v=>Value.isInt k v
  | .inr x,v=>Value.isStrOf x v
noncomputable def keyH (w:World):Key -> Int
  | .inl k=>hashInt k
  | .inr x=>hashStr w x
theorem keyIs_shape:∀ {k:Key} {v:Value},keyIs k v = true -> (∃ i t,k = Sum.inl i /\ v = Value.int i t) \/ (∃ x t,k = Sum.inr x /\ v = Value.str x t)
  | .inl i,v,h=>by
    obtain ⟨t,e⟩:=Value.isInt_shape (k:=i) (v:=v) h
    exact .inl ⟨i,t,rfl,e⟩
  | .inr x,v,h=>by
    obtain ⟨t,e⟩:=Value.isStrOf_shape (x:=x) (v:=v) h
    exact .inr ⟨x,t,rfl,e⟩
theorem key_ll (a b:Int):decide ((Sum.inl a:Key) = Sum.inl b) = (a == b):=by
  by_cases e:a = b
  · subst e;simp
  · have h:¬ (Sum.inl a:Key) = Sum.inl b:=fun q=>e (Sum.inl.inj q)
    rw [decide_eq_false h]
    exact (beq_eq_false_iff_ne.mpr e).symm
theorem key_rr (a b:Str):decide ((Sum.inr a:Key) = Sum.inr b) = decide (a = b):=by
  by_cases e:a = b
  · subst e;simp
  · have h:¬ (Sum.inr a:Key) = Sum.inr b:=fun q=>e (Sum.inr.inj q)
    rw [decide_eq_false h,decide_eq_false e]
theorem key_lr (a:Int) (b:Str):decide ((Sum.inl a:Key) = Sum.inr b) = false:=decide_eq_false (fun q=>nomatch q)
theorem key_rl (a:Str) (b:Int):decide ((Sum.inr a:Key) = Sum.inl b) = false:=decide_eq_false (fun q=>nomatch q)

noncomputable def mixKind (prog:Program) (w:World):PySem.KeyKind prog w Key where
  is:=keyIs
  hash:=keyH w
  inj:=fun v a b ha hb=>by
    rcases keyIs_shape ha with ⟨i,t,rfl,rfl⟩ | ⟨x,t,rfl,rfl⟩
    · rcases keyIs_shape hb with ⟨j,u,rfl,e⟩ | ⟨y,u,rfl,e⟩
      · injection e with e1 _;rw [e1]
      · exact nomatch e
    · rcases keyIs_shape hb with ⟨j,u,rfl,e⟩ | ⟨y,u,rfl,e⟩
      · exact nomatch e
      · injection e with e1 _;rw [e1]
  byValue:=fun k v h=>by
    rcases keyIs_shape h with ⟨i,t,rfl,rfl⟩ | ⟨x,t,rfl,rfl⟩<;>rfl
  pyHash:=fun hv h=>by
    rcases keyIs_shape hv with ⟨i,t,rfl,rfl⟩ | ⟨x,t,rfl,rfl⟩
    · exact wpAny_pyHash_int h
    · exact wpAny_pyHash_str h
  eqBool:=fun hu hv h=>by
    rcases keyIs_shape hu with ⟨i,t,rfl,rfl⟩ | ⟨x,t,rfl,rfl⟩
    · rcases keyIs_shape hv with ⟨j,u,rfl,rfl⟩ | ⟨y,u,rfl,rfl⟩
      · rw [key_ll] at h;exact wpAny_eqBool_int h
      · rw [key_lr] at h;exact SeqAt.EqAt.int_str i t y u _ _ _ _ h
    · rcases keyIs_shape hv with ⟨j,u,rfl,rfl⟩ | ⟨y,u,rfl,rfl⟩
      · rw [key_rl] at h;exact SeqAt.EqAt.str_int x t j u _ _ _ _ h
      · rw [key_rr] at h;exact wpAny_eqBool_str h
  «strs»:=fun k x t v h=>by
    rcases keyIs_shape h with ⟨i,u,rfl,e⟩ | ⟨y,u,rfl,e⟩
    · exact nomatch e
    · injection e with e1 _
      subst e1
      cases v<;>rfl

end L2

namespace L2
open PySem PySem.Spec PyProof.Rows

inductive V where
  | non | bl (b:Bool) | int (i:Int) | str (x:Str) | byt (b:Array UInt8) | flt (b:UInt64) | ref (a:Addr) | ty (n:String)
  deriving DecidableEq

noncomputable def RelV:V -> Value -> Prop
  | .non,u=>u = Value.none
  | .bl b,u=>u = Value.bool b
  | .int i,u=>∃ t,u = Value.int i t
  | .str x,u=>∃ t,u = Value.str x t
  | .byt b,u=>∃ t,u = Value.bytes b t
  | .flt b,u=>∃ t,u = Value.float b t
  | .ref a,u=>u = Value.ref a
  | .ty n,u=>u = Value.type n

noncomputable abbrev Vals:List V -> List Value -> Prop:=Paired RelV
theorem Vals.length {xs:List V} {us:List Value} (r:Vals xs us):xs.length = us.length:=Paired.length r
theorem Vals.get:∀ {xs:List V} {us:List Value} {i:Nat} {x:V},Vals xs us -> xs[i]? = some x -> ∃ u,us[i]? = some u /\ RelV x u
  | _,_,_,_,.nil,e=>by simp at e
  | _,_,0,_,.cons r _,e=>by simp at e;subst e;exact ⟨_,rfl,r⟩
  | _,_,i + 1,x,.cons _ t,e=>by
    obtain ⟨u,h1,h2⟩:=Vals.get (i:=i) (x:=x) t (by simpa using e)
    exact ⟨u,by simpa using h1,h2⟩
theorem Vals.set {x:V} {u:Value} (r:RelV x u):∀ {xs:List V} {us:List Value} (i:Nat),Vals xs us -> Vals (xs.set i x) (us.set i u)
  | _,_,_,.nil=>.nil
  | _,_,0,.cons _ t=>.cons r t
  | _,_,i + 1,.cons q t=>.cons q (Vals.set r i t)
theorem Vals.append:∀ {xs ys:List V} {us ws:List Value},Vals xs us -> Vals ys ws -> Vals (xs ++ ys) (us ++ ws)
  | _,_,_,_,.nil,s=>s
  | _,_,_,_,.cons r t,s=>.cons r (Vals.append t s)
theorem Vals.take:∀ {xs:List V} {us:List Value} (n:Nat),Vals xs us -> Vals (xs.take n) (us.take n)
  | _,_,0,_=>.nil
  | _,_,_ + 1,.nil=>.nil
  | _,_,n + 1,.cons r t=>.cons r (Vals.take n t)
theorem Vals.drop:∀ {xs:List V} {us:List Value} (n:Nat),Vals xs us -> Vals (xs.drop n) (us.drop n)
  | _,_,0,r=>r
  | _,_,_ + 1,.nil=>.nil
  | _,_,n + 1,.cons _ t=>Vals.drop n t
noncomputable def RelO:Option V -> Option Value -> Prop
  | some v,some u=>RelV v u
  | none,none=>True
  | _,_=>False
noncomputable def KV {κ:Type}:List (κ × V) -> List (κ × Value) -> Prop:=Paired fun (p:κ × V) (q:κ × Value)=>p.1 = q.1 /\ RelV p.2 q.2

noncomputable def kV:Key -> V
  | .inl i=>.int i
  | .inr x=>.str x

inductive HO where
  /-- a list -/
  | lst (xs:List V)
  /-- a tuple (never changes) -/
  | tup (xs:List V)
  /-- a dict whose keys are ints and texts;one whose keys are tuples of ints and texts (the empty one is both) -/
  | dK (kvs:List (Key × V)) | dT (kvs:List (List Key × V))
  /-- a set of ints: its members,its size -/
  | set (S:Int -> Bool) (n:Nat)
  /-- an instance of the class at C,its dict at dx,its attributes -/
  | ins (C dx:Addr) (fs:List (Str × V))
  /-- the dict of the instance at x -/
  | own (x:Addr)
  /-- the dict of an exception -/
  | xd (fs:List (Str × V))
  /-- a bound method,f of x -/
  | met (f x:Addr)
  /-- a range object lo,lo + 1,.. below hi -/
  | rng (lo hi:Int)
  /-- a thing that is known to the object (the script;a dict while a loop walks it): read,never written while it is so -/
  | frz (o:Obj) (u:HO)
  /-- a code object's table -/
  | tbl (ps:Array Value)
  /-- the same,and it may grow by the code of one lambda: as it was,the lambda's place,its name -/
  | lam (ps:Array Value) (pos:Pos) (qual:Str)
  /-- any other thing,by what is true of its one object (a def of one's own: SetO a S n:=HO.ext fun h=>..) -/
  | ext (φ:Heap -> Prop)

noncomputable abbrev Hp:=Addr -> Option HO
noncomputable def upd (H:Hp) (a:Addr) (o:HO):Hp:=fun b=>if b = a then some o else H b
theorem upd_same {H:Hp} {a:Addr} {o:HO}:upd H a o a = some o:=by unfold upd;rw [if_pos rfl]
theorem upd_ne {H:Hp} {a b:Addr} {o:HO} (h:b ≠ a):upd H a o b = H b:=by unfold upd;rw [if_neg h]
theorem ne_of_none {H:Hp} {a b:Addr} {o:HO} (h:H a = some o) (h':H b = none):a ≠ b:=by
  intro e;subst e;rw [h] at h';cases h'

section
variable (P:Program) (w:World)
noncomputable def ObjOk (H:Hp) (h:Heap) (a:Addr):HO -> Prop
  | .lst xs=>xs.length <= sizeLine /\ ∃ (its:List Value) (n:Nat),Vals xs its /\ h.get? a = some { cls:=.type "list",data:=.seq its.toArray n }
  | .tup xs=>xs.length <= sizeLine /\ ∃ its:List Value,Vals xs its /\ IsTup h a its.toArray
  | .dK kvs=>kvs.length <= sizeLine /\ (a == sysModules) = false /\ ∃ vs,KV kvs vs /\ h.DictOf (mixKind P w) a vs
  | .dT kvs=>kvs.length <= sizeLine /\ (a == sysModules) = false /\ ∃ xs:List (List Key × Addr × Value),
      Paired (fun (p:List Key × V) (q:List Key × Addr × Value)=>p.1 = q.1 /\ H q.2.1 = some (.tup (p.1.map kV)) /\ RelV p.2 q.2.2) kvs xs /\
      ∃ o es ep,h.get? a = some o /\ o.ExactDict /\ o.data = .dict es ep /\ es.toList = xs.map (entryOfKey (tupleKind (mixKind P w))) /\ (xs.map (·.1)).Nodup
  | .set S n=>h.SetOf (intKind P w) a S n
  | .ins C dx fs=>H dx = some (.own a) /\ fs.length <= 1000 /\ dx ≠ a /\ h.get? a = some (PySem.W.instObj C dx) /\
      ∃ mA,h.Ns1 dx mA /\ (∀ f,RelO (fs.lookup f) (mA f)) /\ PySem.Within mA (fs.map (·.1))
  | .own _=>∃ o,h.get? a = some o
  | .xd fs=>∃ mA,h.Ns1 a mA /\ ∀ f,RelO (fs.lookup f) (mA f)
  | .rng lo hi=>∃ t u v,h.get? a = some { cls:=.type "range",data:=.fields #[.int lo t,.int hi u,.int 1 v] }
  | .frz o u=>h.get? a = some o /\ ObjOk H h a u
  | .tbl ps=>h.get? a = some { cls:=.none,data:=.fields ps }
  | .lam ps pos qual=>∃ more,h.get? a = some { cls:=.none,data:=.fields (ps ++ more) } /\ TriplesOk (ps ++ more).toList /\ (codeAmong pos (ps ++ more).toList = none \/ ∃ c' o vs t,codeAmong pos (ps ++ more).toList = some (.ref c') /\ H c' = some (.frz o (.own a)) /\ o.data = .fields vs /\ vs[1]? = some (.str qual t))
  | .met f x=>h.get? a = some (PySem.W.methodObj (.ref f) (.ref x))
  | .ext φ=>φ h /\ (∃ o,h.get? a = some o) /\ ∀ h1 h2:Heap,φ h1 -> (∀ o,h1.get? a = some o -> h2.get? a = some o) -> φ h2
noncomputable def HOk (H:Hp) (h:Heap):Prop:=∀ a o,H a = some o -> ObjOk P w H h a o
end

section
variable {P:Program} {w:World} {H H':Hp} {h h':Heap} {a:Addr} {o:HO}
theorem ObjOk.lt (x:ObjOk P w H h a o):a < h.objs.size:=by
  cases o with
  | lst xs=>obtain ⟨_,_,_,_,e⟩:=x;exact Heap.lt_size e
  | tup xs=>obtain ⟨_,_,_,p⟩:=x;exact p.lt
  | dK kvs=>obtain ⟨_,_,_,_,o,_,_,e,_⟩:=x;exact Heap.lt_size e
  | dT kvs=>obtain ⟨_,_,_,_,o,_,_,e,_⟩:=x;exact Heap.lt_size e
  | set S n=>obtain ⟨o,_,_,_,e,_⟩:=x;exact Heap.lt_size e
  | ins C dx fs=>obtain ⟨_,_,_,e,_⟩:=x;exact Heap.lt_size e
  | own y=>obtain ⟨_,e⟩:=x;exact Heap.lt_size e
  | xd fs=>obtain ⟨_,⟨_,_,_,e,_⟩,_⟩:=x;exact Heap.lt_size e
  | rng lo hi=>obtain ⟨_,_,_,e⟩:=x;exact Heap.lt_size e
  | frz ob u=>obtain ⟨e,_⟩:=x;exact Heap.lt_size e
  | tbl ps=>exact Heap.lt_size (show h.get? a = some _ from x)
  | lam ps pos qual=>obtain ⟨_,e,_⟩:=x;exact Heap.lt_size e
  | met f y=>exact Heap.lt_size (show h.get? a = some _ from x)
  | ext φ=>obtain ⟨_,⟨_,e⟩,_⟩:=x;exact Heap.lt_size e
theorem Paired.mapP {α β:Type} {F G:α -> β -> Prop}:∀ {l₁:List α} {l₂:List β},Paired F l₁ l₂ -> (∀ a b,F a b -> G a b) -> Paired G l₁ l₂
  | _,_,.nil,_=>.nil
  | _,_,.cons r t,f=>.cons (f _ _ r) (Paired.mapP t f)
theorem ObjOk.stay (x:ObjOk P w H h a o) (k:∀ b u,(b = a \/ H b = some (.own a)) -> h.get? b = some u -> h'.get? b = some u)
    (ho:∀ b,H b = some (.own a) -> H' b = some (.own a)) (ht:∀ b xs,H b = some (.tup xs) -> H' b = some (.tup xs)) (hf:∀ b o u,H b = some (.frz o u) -> H' b = some (.frz o u):=by exact fun _ _ _ q=>q):ObjOk P w H' h' a o:=by
  induction o with
  | lst xs=>obtain ⟨z,its,n,r,e⟩:=x;exact ⟨z,its,n,r,k _ _ (.inl rfl) e⟩
  | tup xs=>obtain ⟨z,its,r,ob,e,c⟩:=x;exact ⟨z,its,r,ob,k _ _ (.inl rfl) e,c⟩
  | dK kvs=>obtain ⟨z,y,vs,r,ob,es,ep,e,c⟩:=x;exact ⟨z,y,vs,r,ob,es,ep,k _ _ (.inl rfl) e,c⟩
  | dT kvs =>
    obtain ⟨z,y,xs,r,ob,es,ep,e,c⟩:=x
    exact ⟨z,y,xs,Paired.mapP r fun p q z=>⟨z.1,ht _ _ z.2.1,z.2.2⟩,ob,es,ep,k _ _ (.inl rfl) e,c⟩
  | set S n=>obtain ⟨ob,es,ep,t,e,c⟩:=x;exact ⟨ob,es,ep,t,k _ _ (.inl rfl) e,c⟩
  | ins C dx fs =>
    obtain ⟨d,z,ne,e,mA,⟨od,es,ep,e2,c⟩,r⟩:=x
    exact ⟨ho _ d,z,ne,k _ _ (.inl rfl) e,mA,⟨od,es,ep,k _ _ (.inr d) e2,c⟩,r⟩
  | own y=>obtain ⟨ob,e⟩:=x;exact ⟨ob,k _ _ (.inl rfl) e⟩
  | xd fs=>obtain ⟨mA,⟨od,es,ep,e,c⟩,r⟩:=x;exact ⟨mA,⟨od,es,ep,k _ _ (.inl rfl) e,c⟩,r⟩
  | rng lo hi=>obtain ⟨t,u,v,e⟩:=x;exact ⟨t,u,v,k _ _ (.inl rfl) e⟩
  | frz ob u ih=>obtain ⟨e,q⟩:=x;exact ⟨k _ _ (.inl rfl) e,ih q⟩
  | lam ps pos qual =>
    obtain ⟨more,e,tr,c⟩:=x
    refine ⟨more,k _ _ (.inl rfl) e,tr,?_⟩
    rcases c with c | ⟨c',o,vs,t,c1,c2,c3⟩
    · exact .inl c
    · exact .inr ⟨c',o,vs,t,c1,hf _ _ _ c2,c3⟩
  | tbl ps =>
    have e:h.get? a = some { cls:=.none,data:=.fields ps }:=x
    show h'.get? a = some { cls:=.none,data:=.fields ps }
    exact k a _ (.inl rfl) e
  | met f y =>
    have e:h.get? a = some (PySem.W.methodObj (.ref f) (.ref y)):=x
    show h'.get? a = some (PySem.W.methodObj (.ref f) (.ref y))
    exact k a _ (.inl rfl) e
  | ext φ=>obtain ⟨p,⟨o,e⟩,st⟩:=x;exact ⟨st _ _ p fun o q=>k _ _ (.inl rfl) q,⟨o,k _ _ (.inl rfl) e⟩,st⟩
theorem HOk.lt (x:HOk P w H h) (e:H a = some o):a < h.objs.size:=(x a o e).lt
theorem HOk.fresh (x:HOk P w H h) (e:h.objs.size <= a):H a = none:=by
  cases q:H a with
  | none=>rfl
  | some u=>exact absurd (Nat.lt_of_lt_of_le (x.lt q) e) (Nat.lt_irrefl _)
theorem HOk.kept (x:HOk P w H h) (k:∀ b u,h.get? b = some u -> h'.get? b = some u):HOk P w H h':=fun a o e =>
  (x a o e).stay (fun b u _ q=>k b u q) (fun _ q=>q) fun _ _ q=>q
theorem HOk.laid (x:HOk P w H h) (k:∀ b u,h.get? b = some u -> h'.get? b = some u) (hp:h.objs.size <= a) (new:ObjOk P w (upd H a o) h' a o):HOk P w (upd H a o) h':=fun b u e=>by
  have hn:=x.fresh hp
  by_cases hb:b = a
  · subst hb;rw [upd_same] at e;cases e;exact new
  · rw [upd_ne hb] at e
    exact (x b u e).stay (fun c v _ q=>k c v q) (fun c q=>by rw [upd_ne (ne_of_none q hn)];exact q) (fun c xs q=>by rw [upd_ne (ne_of_none q hn)];exact q) fun c o u q=>by rw [upd_ne (ne_of_none q hn)];exact q
end

noncomputable def Rd (H:Hp) (a:Addr) (u:HO):Prop:=H a = some u \/ ∃ o,H a = some (.frz o u)
theorem Rd.ok {P:Program} {w:World} {H:Hp} {h:Heap} {a:Addr} {u:HO} (r:Rd H a u) (x:HOk P w H h):ObjOk P w H h a u:=by
  rcases r with r | ⟨o,r⟩
  · exact x a u r
  · obtain ⟨_,q⟩:=x a _ r
    exact q
noncomputable def Mut:Option HO -> Prop
  | some (.lst _)=>True
  | some (.dK _)=>True
  | some (.dT _)=>True
  | some (.set _ _)=>True
  | some (.ins _ _ _)=>True
  | some (.ext _)=>True
  | some (.lam _ _ _)=>True
  | _=>False
section
variable {P:Program} {w:World} {H:Hp} {h h':Heap} {x e:Addr} {o':HO}
theorem HOk.write (ok:HOk P w H h) (mu:Mut (H x)) (he:e = x \/ H e = some (.own x)) (k:∀ b u,b ≠ e -> h.get? b = some u -> h'.get? b = some u) (heo:∃ u,h'.get? e = some u)
    (new:ObjOk P w (upd H x o') h' x o'):HOk P w (upd H x o') h':=fun b u q=>by
  have nown:∀ c y,H c = some (.own y) -> c ≠ x:=fun c y r z=>by subst z;rw [r] at mu;exact mu
  have ntup:∀ c xs,H c = some (.tup xs) -> c ≠ x:=fun c xs r z=>by subst z;rw [r] at mu;exact mu
  by_cases hb:b = x
  · subst hb;rw [upd_same] at q;cases q;exact new
  · rw [upd_ne hb] at q
    by_cases hbe:b = e
    · have q':H b = some (.own x):=by
        rcases he with z | z
        · exact absurd (hbe.trans z) hb
        · rw [hbe];exact z
      rw [q] at q';cases q'
      obtain ⟨v,hv⟩:=heo
      exact ⟨v,by rw [hbe];exact hv⟩
    · refine (ok b u q).stay (fun c v hc r=>k c v ?_ r) (fun c r=>by rw [upd_ne (nown c b r)];exact r) (fun c xs r=>by rw [upd_ne (ntup c xs r)];exact r) fun c o u r=>by rw [upd_ne (fun z=>by subst z;rw [r] at mu;exact mu)];exact r
      rcases hc with rfl | hc
      · exact hbe
      · rintro rfl
        rcases he with z | z
        · exact nown c b hc z
        · rw [hc] at z;cases z;exact hb rfl
end

structure Un (fs ex:List Addr) (H H':Hp) (h h':Heap):Prop where
  keep:∀ b o,h.get? b = some o -> H b = none -> b ∉ fs -> b ∉ ex -> h'.get? b = some o
  slot:∀ b o,h.get? b = some o -> H b = none -> b ∈ fs -> b ∉ ex -> ∃ sl,h'.get? b = some { o with slots:=sl }
  free:∀ b o,h.get? b = some o -> H b = none -> b ∉ ex -> H' b = none
  there:∀ b o,h.get? b = some o -> b ∉ ex -> ∃ o',h'.get? b = some o'
  tups:∀ b xs,H b = some (.tup xs) -> H' b = some (.tup xs)
  frzs:∀ b o u,H b = some (.frz o u) -> H' b = some (.frz o u)
  tbls:∀ b ps,H b = some (.tbl ps) -> ∃ more,H' b = some (.tbl (ps ++ more))
section
variable {fs fs' ex ex':List Addr} {H H1 H2:Hp} {h h1 h2 h':Heap} {a x e:Addr} {o:HO}
theorem Un.any (u:Un fs ex H H1 h h1) {b:Addr} {ob:Obj} (q:h.get? b = some ob) (n:H b = none) (hx:b ∉ ex):∃ sl,h1.get? b = some { ob with slots:=sl }:=by
  by_cases hb:b ∈ fs
  · exact u.slot b ob q n hb hx
  · exact ⟨ob.slots,u.keep b ob q n hb hx⟩
theorem Un.kept (k:∀ b u,h.get? b = some u -> h'.get? b = some u):Un fs ex H H h h' :=
  ⟨fun b ob q _ _ _=>k b ob q,fun b ob q _ _ _=>⟨ob.slots,k b ob q⟩,fun _ _ _ n _=>n,fun b ob q _=>⟨ob,k b ob q⟩,fun _ _ q=>q,fun _ _ _ q=>q,fun _ ps q=>⟨#[],by rw [q];simp⟩⟩
theorem Un.refl:Un fs ex H H h h:=Un.kept fun _ _ q=>q
theorem Un.laid (k:∀ b u,h.get? b = some u -> h'.get? b = some u) (hp:h.objs.size <= a) (hn:H a = none):Un fs ex H (upd H a o) h h' where
  keep:=fun b u q _ _ _=>k b u q
  slot:=fun b u q _ _ _=>⟨u.slots,k b u q⟩
  free:=fun b u q n _=>by rw [upd_ne (Nat.ne_of_lt (Nat.lt_of_lt_of_le (Heap.lt_size q) hp))];exact n
  there:=fun b u q _=>⟨u,k b u q⟩
  tups:=fun b xs q=>by rw [upd_ne (ne_of_none q hn)];exact q
  frzs:=fun b u xs q=>by rw [upd_ne (ne_of_none q hn)];exact q
  tbls:=fun b ps q=>⟨#[],by rw [upd_ne (ne_of_none q hn),q];simp⟩
theorem Un.write (mu:Mut (H x)) (he:e = x \/ H e = some (.own x)) (k:∀ b u,b ≠ e -> h.get? b = some u -> h'.get? b = some u) (heo:∃ u,h'.get? e = some u):Un fs ex H (upd H x o) h h':=by
  have hx:∀ b,H b = none -> b ≠ x:=fun b n z=>by subst z;rw [n] at mu;exact mu
  have hb:∀ b,H b = none -> b ≠ e:=fun b n z=>by
    subst z
    rcases he with r | r
    · exact hx b n r
    · rw [n] at r;cases r
  have hm:∀ b u,H b = some u -> ¬ Mut (some u) -> b ≠ x:=fun b u q nm z=>by subst z;rw [q] at mu;exact nm mu
  refine ⟨fun b u q n _ _=>k b u (hb b n) q,fun b u q n _ _=>⟨u.slots,k b u (hb b n) q⟩,fun b u q n _=>by rw [upd_ne (hx b n)];exact n,fun b u q _=>?_,
    fun b xs q=>by rw [upd_ne (hm b _ q fun z=>z)];exact q,fun b u xs q=>by rw [upd_ne (hm b _ q fun z=>z)];exact q,fun b ps q=>⟨#[],by rw [upd_ne (hm b _ q fun z=>z),q];simp⟩⟩
  by_cases hbe:b = e
  · subst hbe;exact heo
  · exact ⟨u,k b u hbe q⟩
end

noncomputable def trk (h:Heap) (H:Hp):List Addr:=(List.range h.objs.size).filter fun a=>(H a).isSome
noncomputable def hidT (h:Heap) (H:Hp):Heap:=PySem.W.hideAll h (trk h H)
theorem hidT_size (h:Heap) (H:Hp):(hidT h H).objs.size = h.objs.size:=PySem.W.hideAll_size _ _
theorem hidT_get {h:Heap} {H:Hp} {b:Addr} {o:Obj} (e:h.get? b = some o) (n:H b = none):(hidT h H).get? b = some o :=
  PySem.W.hideAll_get _ e fun hm=>by
    have q:(H b).isSome = true:=(List.mem_filter.mp hm).2
    rw [n] at q;simp at q
theorem of_hidT {h:Heap} {H:Hp} {b:Addr} {o:Obj} (e:(hidT h H).get? b = some o):h.get? b = some o /\ H b = none:=by
  have e':h.get? b = some o:=PySem.W.of_hideAll (trk h H) e
  refine ⟨e',?_⟩
  cases q:H b with
  | none=>rfl
  | some x =>
    have hm:b ∈ trk h H:=List.mem_filter.mpr ⟨List.mem_range.mpr (Heap.lt_size e'),by simp [q]⟩
    have z:(hidT h H).get? b = none:=PySem.W.hideAll_none (trk h H) hm
    rw [z] at e;cases e

noncomputable def allNews (g h:Heap) (L:Addr):List (Addr × Obj):=(List.range h.objs.size).filterMap fun a=>if a = L \/ (g.get? a).isSome = true then none else (h.get? a).map fun o=>(a,o)
noncomputable def rest (g h:Heap) (L d:Addr):List (Addr × Obj):=(allNews g h L).filter fun p=>decide (p.1 ≠ d)
end L2

namespace L2
open PySem PySem.Spec PyProof.Rows

structure Mod (K:PySem.W.Frag) (mg:Str -> Option Value) (base:Heap):Prop where
  kin:K.In base
  glob:base.Ns mainGlobals mg
  blt:∃ mb,base.Ns builtinsNs mb /\ ∀ x:Str,x ≠ "__name__" -> mb x = bootBuiltins x
  nolimit:base.NoLimit

structure Cx where
  prog:Program
  w:World
  K:PySem.W.Frag
  mg:Str -> Option Value
  base:Heap
  A:Around
  N:List Str
  s₀:Shared
  H₀:Hp
  env:Env
  outer:List Env
  stack:List Env
  ex:List Addr
  fn:Str -> Bool
  calm:Bool
  pn:List (Addr × Obj)
  xe:Value -> Shared -> Prop
noncomputable def frs (l:List Env):List Addr:=l.filterMap (·.frame)
noncomputable abbrev Cx.fs (X:Cx):List Addr:=frs X.outer

noncomputable def Vis (sc:Scope) (x:Str):Prop:=sc.names.lookup x = some .local \/ sc.names.lookup x = some .cell \/ sc.names.lookup x = some .free
noncomputable def Loc (sc:Scope) (x:Str):Prop:=sc.names.lookup x = some .local \/ sc.names.lookup x = some .cell
noncomputable def Look (env:Env) (h:Heap) (m:Str -> Option Value) (x:Str) (u:Value):Prop :=
  (env.kindOf x = some .local /\ m x = some u) \/ ((env.kindOf x = some .cell \/ env.kindOf x = some .free) /\ ∃ c,env.cells.lookup x = some c /\ h.IsCell c (some u))

structure Cx.Ok (X:Cx):Prop where
  mod:Mod X.K X.mg X.base
  kind:X.env.scope.kind = .function
  glob:X.env.globals = mainGlobals
  blt:X.env.builtins = builtinsNs
  above:X.s₀.heap.objs.size <= X.env.locals
  inj:∀ x y c,X.env.cells.lookup x = some c -> X.env.cells.lookup y = some c -> x = y
  has:∀ x,(X.env.kindOf x = some .cell \/ X.env.kindOf x = some .free) -> ∃ c,X.env.cells.lookup x = some c
  cab:∀ x c,X.fn x = true -> X.env.cells.lookup x = some c -> X.s₀.heap.objs.size <= c
  hd:X.calm = true -> X.A.handled = none
  frames:X.A.frames = some X.stack
  stk:X.stack = X.outer \/ (X.stack = X.env :: X.outer /\ X.env.frame = some X.env.locals)
  exf:∀ b ∈ X.ex,b ≠ X.env.locals /\ ∀ x c,X.env.cells.lookup x = some c -> c ≠ b
  bs:∀ b o,X.base.get? b = some o -> X.s₀.heap.get? b = some o /\ X.H₀ b = none
  bsz:X.base.objs.size <= X.s₀.heap.objs.size
  noex:∀ b o,X.base.get? b = some o -> b ∉ X.ex
  exfs:∀ b ∈ X.ex,b ∉ X.fs
  funs:X.s₀.heap.FunFrames X.base X.outer
  frf:∀ b ∈ X.fs,X.H₀ b = none

structure Inv (X:Cx) (pins:List (Addr × Obj)) (σ:List (Option V)) (H:Hp) (s:Shared):Prop where
  ok:X.Ok
  os:s.os = X.s₀.os
  bare:AllBare s.gens
  base:Un X.fs X.ex X.H₀ H X.s₀.heap s.heap
  loc:∃ m,s.heap.Ns X.env.locals m /\ ∀ (i:Nat) (x:Str) (v:V),X.N[i]? = some x -> σ[i]? = some (some v) -> Vis X.env.scope x -> ∃ u,RelV v u /\ Look X.env s.heap m x u
  cell:∀ x c,X.env.cells.lookup x = some c -> ∃ v,s.heap.IsCell c v
  free:H X.env.locals = none
  freeC:∀ x c,X.env.cells.lookup x = some c -> H c = none
  pin:∀ p ∈ X.pn ++ pins,s.heap.get? p.1 = some p.2 /\ H p.1 = none /\ p.1 ≠ X.env.locals /\ p.1 ∉ X.fs /\ ∀ v,p.2.data ≠ .cell v
  hok:HOk X.prog X.w H s.heap
  len:σ.length = X.N.length

section
variable {X:Cx} {pins:List (Addr × Obj)} {σ:List (Option V)} {H H':Hp} {s:Shared} {h':Heap}

theorem Cx.Ok.nofr (ok:X.Ok) {b:Addr} {o:Obj} (e:X.base.get? b = some o):b ∉ X.fs:=fun hb=>by
  have:=(ok.funs.mem hb).1
  rw [e] at this;cases this
theorem Inv.bs (I:Inv X pins σ H s):∀ b o,X.base.get? b = some o -> s.heap.get? b = some o /\ H b = none:=fun b o e =>
  ⟨I.base.keep b o (I.ok.bs b o e).1 (I.ok.bs b o e).2 (I.ok.nofr e) (I.ok.noex b o e),I.base.free b o (I.ok.bs b o e).1 (I.ok.bs b o e).2 (I.ok.noex b o e)⟩
theorem Inv.bk (I:Inv X pins σ H s):∀ b o,X.base.get? b = some o -> s.heap.get? b = some o:=fun b o e=>(I.bs b o e).1
theorem Inv.mod (I:Inv X pins σ H s):Mod X.K X.mg X.base:=I.ok.mod
theorem Inv.kIn (I:Inv X pins σ H s):X.K.In s.heap:=I.ok.mod.kin.keeps I.bk
theorem Inv.nolimit (I:Inv X pins σ H s):s.heap.NoLimit:=I.ok.mod.nolimit.keeps I.bk
theorem Inv.fr (I:Inv X pins σ H s):∃ m,Fr X.base X.env.locals s.heap m :=
  let ⟨m,hn,_⟩:=I.loc
  ⟨m,hn,I.bk,Nat.le_trans I.ok.bsz I.ok.above⟩
theorem Inv.lt (I:Inv X pins σ H s):X.env.locals < s.heap.objs.size:=let ⟨_,hn,_⟩:=I.loc;hn.lt
theorem Inv.sz (I:Inv X pins σ H s):X.s₀.heap.objs.size <= s.heap.objs.size:=Nat.le_trans I.ok.above (Nat.le_of_lt I.lt)
theorem Inv.nofs (I:Inv X pins σ H s) {a:Addr} (h:s.heap.objs.size <= a):a ∉ X.fs:=fun hb=>by
  obtain ⟨_,o,ho,_⟩:=I.ok.funs.mem hb
  exact absurd (Nat.lt_of_lt_of_le (Heap.lt_size ho) (Nat.le_trans I.sz h)) (Nat.lt_irrefl _)
theorem Inv.cne (I:Inv X pins σ H s):∀ x c,X.env.cells.lookup x = some c -> c ≠ X.env.locals:=fun x c e z=>by
  obtain ⟨v,o,ho,hd⟩:=I.cell x c e
  obtain ⟨m,⟨o',es,ep,ho',hd',_⟩,_⟩:=I.loc
  rw [z,ho'] at ho;cases ho;rw [hd'] at hd;cases hd
theorem Inv.funs (I:Inv X pins σ H s):s.heap.FunFrames X.base X.outer:=by
  have all:∀ (l:List Env),(∀ b ∈ frs l,b ∈ X.fs) -> X.s₀.heap.FunFrames X.base l -> s.heap.FunFrames X.base l:=by
    intro l
    induction l with
    | nil=>intro _ _;trivial
    | cons env r ih =>
      intro hs hl
      obtain ⟨hk,⟨L,o,hf,hn,ho,hd⟩,hr⟩:=hl
      have hL:L ∈ X.fs:=hs L (by unfold frs;rw [List.filterMap_cons,hf];exact List.mem_cons_self)
      obtain ⟨sl,e⟩:=I.base.slot L o ho (I.ok.frf L hL) hL fun z=>I.ok.exfs L z hL
      exact ⟨hk,⟨L,_,hf,hn,e,hd⟩,ih (fun b hb=>hs b (by unfold frs;rw [List.filterMap_cons,hf];exact List.mem_cons_of_mem _ hb)) hr⟩
  exact all X.outer (fun _ hb=>hb) I.ok.funs

theorem Inv.stack (I:Inv X pins σ H s):s.heap.FunFrames X.base X.stack:=by
  rcases I.ok.stk with e | ⟨e,hf⟩
  · rw [e];exact I.funs
  · rw [e]
    obtain ⟨m,hn,_⟩:=I.loc
    refine .cons (by rw [I.ok.kind];decide) hf hn ?_ I.funs
    exact Heap.get?_none_of_le (Nat.le_trans I.ok.bsz I.ok.above)
theorem Inv.stkSub (I:Inv X pins σ H s):∀ b ∈ frs X.stack,b ∈ X.env.locals :: X.fs:=fun b hb=>by
  rcases I.ok.stk with e | ⟨e,hf⟩
  · rw [e] at hb;exact List.mem_cons_of_mem _ hb
  · rw [e] at hb
    unfold frs at hb
    rw [List.filterMap_cons,hf] at hb
    exact hb
theorem Inv.stkFree (I:Inv X pins σ H s):∀ b ∈ frs X.stack,H b = none:=fun b hb=>by
  rcases List.mem_cons.mp (I.stkSub b hb) with e | hb
  · rw [e];exact I.free
  · obtain ⟨_,o,ho,_⟩:=I.ok.funs.mem hb
    exact I.base.free b o ho (I.ok.frf b hb) fun z=>I.ok.exfs b z hb

theorem Inv.step {g':Array GenState} {t':Nat} {d':Drawn} {ch:List Addr} (I:Inv X pins σ H s)
    (hch:∀ b ∈ ch,(b ∈ X.ex \/ X.s₀.heap.get? b = none) /\ b ≠ X.env.locals /\ (∀ x c,X.env.cells.lookup x = some c -> c ≠ b) /\ ∀ p ∈ X.pn ++ pins,p.1 ≠ b)
    (keep:∀ b o,b ≠ X.env.locals -> b ∉ X.fs -> b ∉ ch -> s.heap.get? b = some o -> H b = none -> h'.get? b = some o)
    (slot:∀ b o,b ≠ X.env.locals -> b ∈ X.fs -> b ∉ ch -> s.heap.get? b = some o -> H b = none -> ∃ sl,h'.get? b = some { o with slots:=sl }) (free:∀ b o,b ∉ ch -> s.heap.get? b = some o -> H b = none -> H' b = none)
    (there:∀ b o,b ∉ ch -> s.heap.get? b = some o -> ∃ o',h'.get? b = some o')
    (tups:∀ b xs,H b = some (.tup xs) -> H' b = some (.tup xs)) (frzs:∀ b o u,H b = some (.frz o u) -> H' b = some (.frz o u)) (tbls:∀ b ps,H b = some (.tbl ps) -> ∃ more,H' b = some (.tbl (ps ++ more)))
    (ns:∀ m,s.heap.Ns X.env.locals m -> h'.Ns X.env.locals m) (hok:HOk X.prog X.w H' h') (hg:AllBare g') :
    Inv X pins σ H' { s with heap:=h',gens:=g',drawn:=d',toks:=t' }:=by
  have neL:∀ b o,X.s₀.heap.get? b = some o -> b ≠ X.env.locals:=fun b o e=>Nat.ne_of_lt (Nat.lt_of_lt_of_le (Heap.lt_size e) I.ok.above)
  have neC:∀ b o,X.s₀.heap.get? b = some o -> b ∉ X.ex -> b ∉ ch:=fun b o e hx hb=>by
    rcases (hch b hb).1 with z | z
    · exact hx z
    · rw [e] at z;cases z
  have cellK:∀ x c,X.env.cells.lookup x = some c -> ∀ v,s.heap.IsCell c v -> h'.IsCell c v:=fun x c e v ⟨o,ho,hd⟩=>by
    have nch:c ∉ ch:=fun z=>(hch c z).2.2.1 x c e rfl
    by_cases hc:c ∈ X.fs
    · obtain ⟨sl,q⟩:=slot c o (I.cne x c e) hc nch ho (I.freeC x c e)
      exact ⟨_,q,hd⟩
    · exact ⟨o,keep c o (I.cne x c e) hc nch ho (I.freeC x c e),hd⟩
  refine ⟨I.ok,I.os,hg,⟨fun b o e n hb hx=>?_,fun b o e n hb hx=>?_,fun b o e n hx=>?_,fun b o e hx=>?_,fun b xs e=>tups b xs (I.base.tups b xs e),fun b o xs e=>frzs b o xs (I.base.frzs b o xs e),fun b ps e=>?_⟩,?_,fun x c e=>?_,?_,fun x c e=>?_,fun p hp=>?_,hok,I.len⟩
  · exact keep b o (neL b o e) hb (neC b o e hx) (I.base.keep b o e n hb hx) (I.base.free b o e n hx)
  · obtain ⟨sl,e1⟩:=I.base.slot b o e n hb hx
    obtain ⟨sl',e2⟩:=slot b _ (neL b o e) hb (neC b o e hx) e1 (I.base.free b o e n hx)
    exact ⟨sl',e2⟩
  · obtain ⟨o',e1⟩:=I.base.there b o e hx
    exact free b o' (neC b o e hx) e1 (I.base.free b o e n hx)
  · obtain ⟨o',e1⟩:=I.base.there b o e hx
    exact there b o' (neC b o e hx) e1
  · obtain ⟨m1,e1⟩:=I.base.tbls b ps e
    obtain ⟨m2,e2⟩:=tbls b _ e1
    exact ⟨m1 ++ m2,by rw [e2,Array.append_assoc]⟩
  · obtain ⟨m,hn,hl⟩:=I.loc
    refine ⟨m,ns m hn,fun i x v e1 e2 e3=>?_⟩
    obtain ⟨u,r,l⟩:=hl i x v e1 e2 e3
    refine ⟨u,r,?_⟩
    rcases l with l | ⟨k,c,e,z⟩
    · exact .inl l
    · exact .inr ⟨k,c,e,cellK x c e _ z⟩
  · obtain ⟨v,z⟩:=I.cell x c e
    exact ⟨v,cellK x c e v z⟩
  · obtain ⟨m,⟨o,_,_,ho,_⟩,_⟩:=I.loc
    exact free _ o (fun z=>(hch _ z).2.1 rfl) ho I.free
  · obtain ⟨v,o,ho,hd⟩:=I.cell x c e
    exact free c o (fun z=>(hch c z).2.2.1 x c e rfl) ho (I.freeC x c e)
  · obtain ⟨e,n,ne,nf,d⟩:=I.pin p hp
    have nch:p.1 ∉ ch:=fun z=>(hch p.1 z).2.2.2 p hp rfl
    exact ⟨keep p.1 p.2 ne nf nch e n,free p.1 p.2 nch e n,ne,nf,d⟩
theorem Inv.un {t':Nat} (I:Inv X pins σ H s) (u:Un X.fs [] H H' s.heap h') (hok:HOk X.prog X.w H' h'):Inv X pins σ H' { s with heap:=h',toks:=t' }:=by
  obtain ⟨m,⟨o,es,ep,ho,r⟩,_⟩:=id I.loc
  obtain ⟨sl,hL⟩:=u.any ho I.free (by simp)
  exact I.step (g':=s.gens) (d':=s.drawn) (ch:=[]) (fun _ z=>nomatch z) (fun b o _ hb _ e n=>u.keep b o e n hb (by simp)) (fun b o _ hb _ e n=>u.slot b o e n hb (by simp)) (fun b o _ e n=>u.free b o e n (by simp)) (fun b o _ e=>u.there b o e (by simp)) u.tups u.frzs u.tbls (fun m' hm=>by
    obtain ⟨o',es',ep',ho',r'⟩:=hm
    rw [ho] at ho';cases ho'
    exact ⟨_,es',ep',hL,r'⟩) hok I.bare
theorem Inv.call {g':Array GenState} {t':Nat} {d':Drawn} {ch:List Addr} (I:Inv X pins σ H s) (u:Un (frs X.stack) ch H H' s.heap h') (hok:HOk X.prog X.w H' h') (hg:AllBare g')
    (hch:∀ b ∈ ch,(b ∈ X.ex \/ X.s₀.heap.get? b = none) /\ b ≠ X.env.locals /\ (∀ x c,X.env.cells.lookup x = some c -> c ≠ b) /\ ∀ p ∈ X.pn ++ pins,p.1 ≠ b) :
    Inv X pins σ H' { s with heap:=h',gens:=g',drawn:=d',toks:=t' }:=by
  obtain ⟨m,⟨o,es,ep,ho,r⟩,_⟩:=id I.loc
  obtain ⟨sl,hL⟩:=u.any ho I.free fun z=>(hch _ z).2.1 rfl
  exact I.step (ch:=ch) hch (fun b o hL hb hc e n=>u.keep b o e n (fun z=>(List.mem_cons.mp (I.stkSub b z)).elim hL hb) hc) (fun b o _ _ hc e n=>u.any e n hc) (fun b o hc e n=>u.free b o e n hc) (fun b o hc e=>u.there b o e hc) u.tups u.frzs u.tbls (fun m' hm=>by
    obtain ⟨o',es',ep',ho',r'⟩:=hm
    rw [ho] at ho';cases ho'
    exact ⟨_,es',ep',hL,r'⟩) hok hg
theorem Inv.turned {t':Nat} {it:Addr} (I:Inv X pins σ H s) (k:∀ b o,b ≠ it -> s.heap.get? b = some o -> h'.get? b = some o) (hn:H it = none) (hL:it ≠ X.env.locals)
    (h1:it ∈ X.ex \/ X.s₀.heap.objs.size <= it) (h2:∀ x c,X.env.cells.lookup x = some c -> c ≠ it) (h3:∀ p ∈ X.pn ++ pins,p.1 ≠ it):Inv X pins σ H { s with heap:=h',toks:=t' }:=by
  have nit:∀ b u,H b = some u -> b ≠ it:=fun b u e z=>by rw [z,hn] at e;cases e
  refine I.step (g':=s.gens) (d':=s.drawn) (ch:=[it]) (fun b hb=>?_) (fun b o _ _ hc e _=>k b o (fun z=>hc (by simp [z])) e) (fun b o _ _ hc e _=>⟨o.slots,k b o (fun z=>hc (by simp [z])) e⟩) (fun _ _ _ _ n=>n)
    (fun b o hc e=>⟨o,k b o (fun z=>hc (by simp [z])) e⟩) (fun _ _ e=>e) (fun _ _ _ e=>e) (fun b ps e=>⟨#[],by rw [e];simp⟩) (fun m hm=>?_) (fun b u e=>?_) I.bare
  · have e:b = it:=by simpa using hb
    subst e
    exact ⟨h1.imp id fun z=>Heap.get?_none_of_le z,hL,h2,h3⟩
  · obtain ⟨o,es,ep,ho,r⟩:=hm
    exact ⟨o,es,ep,k _ o (Ne.symm hL) ho,r⟩
  · refine (I.hok b u e).stay (fun c v hc q=>k c v ?_ q) (fun _ q=>q) fun _ _ q=>q
    rcases hc with z | z
    · rw [z];exact nit b u e
    · exact nit c _ z
theorem Inv.tok (I:Inv X pins σ H s) (t:Nat):Inv X pins σ H { s with toks:=t }:=I.un (h':=s.heap) (t':=t) Un.refl I.hok
theorem Inv.kept {t':Nat} (I:Inv X pins σ H s) (k:∀ b u,s.heap.get? b = some u -> h'.get? b = some u):Inv X pins σ H { s with heap:=h',toks:=t' }:=I.un (Un.kept k) (I.hok.kept k)
theorem Inv.laid {a:Addr} {o:HO} {t':Nat} (I:Inv X pins σ H s) (k:∀ b u,s.heap.get? b = some u -> h'.get? b = some u) (hp:s.heap.objs.size <= a) (new:ObjOk X.prog X.w (upd H a o) h' a o) :
    Inv X pins σ (upd H a o) { s with heap:=h',toks:=t' }:=I.un (Un.laid k hp (I.hok.fresh hp)) (I.hok.laid k hp new)
theorem Inv.write {x e:Addr} {o:HO} {t':Nat} (I:Inv X pins σ H s) (mu:Mut (H x)) (he:e = x \/ H e = some (.own x)) (k:∀ b u,b ≠ e -> s.heap.get? b = some u -> h'.get? b = some u) (heo:∃ u,h'.get? e = some u)
    (new:ObjOk X.prog X.w (upd H x o) h' x o):Inv X pins σ (upd H x o) { s with heap:=h',toks:=t' }:=I.un (Un.write mu he k heo) (I.hok.write mu he k heo new)
theorem Inv.pins_of {pins':List (Addr × Obj)} (I:Inv X pins σ H s) (h:∀ p ∈ pins',s.heap.get? p.1 = some p.2 /\ H p.1 = none /\ p.1 ≠ X.env.locals /\ p.1 ∉ X.fs /\ ∀ v,p.2.data ≠ .cell v):Inv X pins' σ H s :=
  ⟨I.ok,I.os,I.bare,I.base,I.loc,I.cell,I.free,I.freeC,fun p hp=>(List.mem_append.mp hp).elim (fun z=>I.pin p (List.mem_append_left _ z)) (h p),I.hok,I.len⟩

theorem nodup_ix {N:List Str} (hN:N.Nodup) {i j:Nat} {x:Str} (a:N[i]? = some x) (b:N[j]? = some x):i = j:=by
  obtain ⟨h1,e1⟩:=List.getElem?_eq_some_iff.mp a
  obtain ⟨h2,e2⟩:=List.getElem?_eq_some_iff.mp b
  exact (List.getElem_inj hN).mp (e1.trans e2.symm)

theorem store_ok2 {M:Model} {A:Around} {E:Value -> Shared -> Prop} {i:Nat} {x:Str} {v:V} {u:Value} {Q:Unit -> Shared -> Prop} (I:Inv X pins σ H s) (hN:X.N.Nodup) (hi:X.N[i]? = some x) (hx:Loc X.env.scope x) (r:RelV v u)
    (h:∀ s',Inv X pins (σ.set i (some v)) H s' -> (∃ a,Heap.SameBut a s.heap s'.heap /\ (a = X.env.locals \/ X.env.cells.lookup x = some a)) -> Q () s') (hf:X.fn x = true \/ X.env.scope.names.lookup x = some .local:=by first | exact .inl rfl | exact .inr rfl | assumption):wpAny M A (storeName X.env x u) Q E s:=by
  obtain ⟨m,hn,hl⟩:=id I.loc
  have hcls:(X.env.scope.kind == .class || (X.env.scope.kind == .module && X.env.locals != X.env.globals)) = false:=by rw [I.ok.kind];rfl
  have hiσ:i < σ.length:=by rw [I.len];exact (List.getElem?_eq_some_iff.mp hi).1
  have cne:=I.cne
  have tracked:∀ {a:Addr} {h':Heap},(∃ o,s.heap.get? a = some o /\ H a = none) -> Heap.SameBut a s.heap h' -> HOk X.prog X.w H h':=fun {a h'} ha hs b ob e=>by
    obtain ⟨_,_,hfree⟩:=ha
    refine (I.hok b ob e).stay (fun c w' hc q=>(hs.2 c ?_).trans q) (fun _ q=>q) fun _ _ q=>q
    rintro rfl
    rcases hc with rfl | hc
    · rw [hfree] at e;cases e
    · rw [hfree] at hc;cases hc
  rcases hx with hk | hk
  · refine wpAny_storeName_local hk hn (fun h' hn' hs=>?_) hcls
    obtain ⟨oL,_,_,hoL,_⟩:=id hn
    refine h _ ⟨I.ok,I.os,I.bare,⟨fun b o e n hb hx=>?_,fun b o e n hb hx=>?_,I.base.free,fun b o e hx=>?_,I.base.tups,I.base.frzs,I.base.tbls⟩,⟨_,hn',fun j y v' e1 e2 e3=>?_⟩,fun y c e=>?_,I.free,I.freeC,fun p hp=>?_,tracked ⟨oL,hoL,I.free⟩ hs,by simpa using I.len⟩ ⟨_,hs,.inl rfl⟩
    · exact (hs.2 b (Nat.ne_of_lt (Nat.lt_of_lt_of_le (Heap.lt_size e) I.ok.above))).trans (I.base.keep b o e n hb hx)
    · obtain ⟨sl,e1⟩:=I.base.slot b o e n hb hx
      exact ⟨sl,(hs.2 b (Nat.ne_of_lt (Nat.lt_of_lt_of_le (Heap.lt_size e) I.ok.above))).trans e1⟩
    · obtain ⟨o',e1⟩:=I.base.there b o e hx
      exact ⟨o',(hs.2 b (Nat.ne_of_lt (Nat.lt_of_lt_of_le (Heap.lt_size e) I.ok.above))).trans e1⟩
    · by_cases hj:j = i
      · subst hj
        rw [hi] at e1;cases e1
        rw [List.getElem?_set_self hiσ] at e2
        cases e2
        exact ⟨u,r,.inl ⟨hk,by simp⟩⟩
      · rw [List.getElem?_set_ne (Ne.symm hj)] at e2
        obtain ⟨u',r',q⟩:=hl j y v' e1 e2 e3
        refine ⟨u',r',?_⟩
        rcases q with ⟨k,e⟩ | ⟨k,c,e,z⟩
        · refine .inl ⟨k,?_⟩
          have:y ≠ x:=fun e=>hj (nodup_ix hN e1 (e ▸ hi))
          simp [this,e]
        · exact .inr ⟨k,c,e,z.sameBut hs (cne y c e)⟩
    · obtain ⟨w',z⟩:=I.cell y c e
      exact ⟨w',z.sameBut hs (cne y c e)⟩
    · obtain ⟨e,n,ne,nf,d⟩:=I.pin p hp
      exact ⟨(hs.2 p.1 ne).trans e,n,ne,nf,d⟩
  · have hfn:X.fn x = true:=by
      rcases hf with z | z
      · exact z
      · rw [z] at hk;cases hk
    obtain ⟨c,hc⟩:=I.ok.has x (.inl hk)
    obtain ⟨w',z⟩:=I.cell x c hc
    refine wpAny_storeName_cell I.ok.kind hk hc z (fun h' hc' hs=>?_)
    obtain ⟨oc,hoc,hocd⟩:=id z
    refine h { s with heap:=h' } ⟨I.ok,I.os,I.bare,⟨fun b o e n hb hx=>?_,fun b o e n hb hx=>?_,I.base.free,fun b o e hx=>?_,I.base.tups,I.base.frzs,I.base.tbls⟩,⟨m,hn.sameBut hs (Ne.symm (cne x c hc)),fun j y v' e1 e2 e3=>?_⟩,fun y c' e=>?_,I.free,I.freeC,fun p hp=>?_,tracked ⟨oc,hoc,I.freeC x c hc⟩ hs,by simpa using I.len⟩ ⟨c,hs,.inr hc⟩
    · exact (hs.2 b (Nat.ne_of_lt (Nat.lt_of_lt_of_le (Heap.lt_size e) (I.ok.cab x c hfn hc)))).trans (I.base.keep b o e n hb hx)
    · obtain ⟨sl,e1⟩:=I.base.slot b o e n hb hx
      exact ⟨sl,(hs.2 b (Nat.ne_of_lt (Nat.lt_of_lt_of_le (Heap.lt_size e) (I.ok.cab x c hfn hc)))).trans e1⟩
    · obtain ⟨o',e1⟩:=I.base.there b o e hx
      exact ⟨o',(hs.2 b (Nat.ne_of_lt (Nat.lt_of_lt_of_le (Heap.lt_size e) (I.ok.cab x c hfn hc)))).trans e1⟩
    · by_cases hj:j = i
      · subst hj
        rw [hi] at e1;cases e1
        rw [List.getElem?_set_self hiσ] at e2
        cases e2
        exact ⟨u,r,.inr ⟨.inl hk,c,hc,hc'⟩⟩
      · rw [List.getElem?_set_ne (Ne.symm hj)] at e2
        obtain ⟨u',r',q⟩:=hl j y v' e1 e2 e3
        refine ⟨u',r',?_⟩
        rcases q with q | ⟨k,c',e,z'⟩
        · exact .inl q
        · refine .inr ⟨k,c',e,z'.sameBut hs ?_⟩
          rintro rfl
          exact hj (nodup_ix hN e1 (I.ok.inj _ _ _ e hc ▸ hi))
    · by_cases hcc:c' = c
      · subst hcc;exact ⟨_,hc'⟩
      · obtain ⟨w2,z2⟩:=I.cell y c' e
        exact ⟨w2,z2.sameBut hs hcc⟩
    · obtain ⟨e,n,ne,nf,d⟩:=I.pin p hp
      refine ⟨(hs.2 p.1 ?_).trans e,n,ne,nf,d⟩
      intro q
      rw [q,hoc] at e
      have q':oc = p.2:=Option.some.inj e
      exact d w' (by rw [<- q'];exact hocd)
theorem store_ok {M:Model} {A:Around} {E:Value -> Shared -> Prop} {i:Nat} {x:Str} {v:V} {u:Value} {Q:Unit -> Shared -> Prop} (I:Inv X pins σ H s) (hN:X.N.Nodup) (hi:X.N[i]? = some x) (hx:Loc X.env.scope x) (r:RelV v u)
    (h:∀ s',Inv X pins (σ.set i (some v)) H s' -> Q () s') (hf:X.fn x = true \/ X.env.scope.names.lookup x = some .local:=by first | exact .inl rfl | exact .inr rfl | assumption):wpAny M A (storeName X.env x u) Q E s :=
  store_ok2 I hN hi hx r (fun s' I' _=>h s' I') hf
theorem Inv.call' {s':Shared} {ch:List Addr} (I:Inv X pins σ H s) (ho:s'.os = s.os) (u:Un (frs X.stack) ch H H' s.heap s'.heap) (hok:HOk X.prog X.w H' s'.heap) (hg:AllBare s'.gens)
    (hch:∀ b ∈ ch,(b ∈ X.ex \/ X.s₀.heap.get? b = none) /\ b ≠ X.env.locals /\ (∀ x c,X.env.cells.lookup x = some c -> c ≠ b) /\ ∀ p ∈ X.pn ++ pins,p.1 ≠ b):Inv X pins σ H' s':=by
  obtain ⟨h',g',d',t',o'⟩:=s'
  have e:o' = s.os:=ho
  subst e
  exact I.call (g':=g') (t':=t') (d':=d') u hok hg hch
end

noncomputable abbrev XK:=Value -> Option Addr -> Hp -> Prop
noncomputable abbrev St:=List (Option V)
noncomputable abbrev VK:=V -> Hp -> Prop
noncomputable abbrev TE:=St -> Hp -> VK -> Prop
noncomputable abbrev TT:=St -> Hp -> (Bool -> Hp -> Prop) -> Prop
noncomputable abbrev TA:=St -> Hp -> (List V -> Hp -> Prop) -> Prop
structure Ends where
  nx:St -> Hp -> Prop
  rt:VK
  bk:St -> Hp -> Prop:=fun _ _=>False
  ct:St -> Hp -> Prop:=fun _ _=>False
noncomputable abbrev TS:=Ends -> St -> Hp -> Prop

noncomputable def EP (X:Cx) (pins:List (Addr × Obj)) (σ:St) (Q:VK) (u:Value) (s':Shared):Prop:=∃ v H',Inv X pins σ H' s' /\ RelV v u /\ Q v H'
noncomputable def TP (X:Cx) (pins:List (Addr × Obj)) (σ:St) (Q:Bool -> Hp -> Prop) (b:Bool) (s':Shared):Prop:=∃ H',Inv X pins σ H' s' /\ Q b H'
noncomputable def AP (X:Cx) (pins:List (Addr × Obj)) (σ:St) (Q:List V -> Hp -> Prop) (us:List Value) (s':Shared):Prop:=∃ vs H',Inv X pins σ H' s' /\ Vals vs us /\ Q vs H'
noncomputable def SP (X:Cx) (pins:List (Addr × Obj)) (D:Ends) (f:Flow) (s':Shared):Prop :=
  match f with
  | .next=>∃ σ' H',Inv X pins σ' H' s' /\ D.nx σ' H'
  | .brk=>∃ σ' H',Inv X pins σ' H' s' /\ D.bk σ' H'
  | .cont=>∃ σ' H',Inv X pins σ' H' s' /\ D.ct σ' H'
  | .ret u=>∃ v σ' H',Inv X pins σ' H' s' /\ RelV v u /\ D.rt v H'

noncomputable def PE (X:Cx) (e:Expr) (t:TE):Prop :=
  ∀ (pins:List (Addr × Obj)) (s:Shared) (σ:St) (H:Hp) (Q:VK),Inv X pins σ H s -> t σ H Q -> wpAny (model X.prog X.w) X.A (eval e X.env) (EP X pins σ Q) X.xe s
noncomputable def PT (X:Cx) (e:Expr) (t:TT):Prop :=
  ∀ (pins:List (Addr × Obj)) (s:Shared) (σ:St) (H:Hp) (Q:Bool -> Hp -> Prop),Inv X pins σ H s -> t σ H Q -> wpAny (model X.prog X.w) X.A (isTrue e X.env (eval e X.env)) (TP X pins σ Q) X.xe s
noncomputable def PW (X:Cx) (e:Expr) (t:TT):Prop :=
  ∀ (whole:Sem Value) (pins:List (Addr × Obj)) (s:Shared) (σ:St) (H:Hp) (Q:Bool -> Hp -> Prop),Inv X pins σ H s -> t σ H Q -> wpAny (model X.prog X.w) X.A (isTrue e X.env whole) (TP X pins σ Q) X.xe s
theorem PW.pt {X:Cx} {e:Expr} {t:TT} (h:PW X e t):PT X e t:=h _
noncomputable def PA (X:Cx) (es:List Expr) (t:TA):Prop :=
  ∀ (pos:Pos) (pins:List (Addr × Obj)) (s:Shared) (σ:St) (H:Hp) (Q:List V -> Hp -> Prop),Inv X pins σ H s -> t σ H Q -> wpAny (model X.prog X.w) X.A (spliced (backTo pos (starEach es X.env))) (AP X pins σ Q) X.xe s
noncomputable def PS (X:Cx) (st:Stmt) (t:TS):Prop :=
  ∀ (pins:List (Addr × Obj)) (s:Shared) (σ:St) (H:Hp) (D:Ends),Inv X pins σ H s -> t D σ H -> wpAny (model X.prog X.w) X.A (exec st X.env) (SP X pins D) X.xe s
noncomputable def PSs (X:Cx) (st:List Stmt) (t:TS):Prop :=
  ∀ (pins:List (Addr × Obj)) (s:Shared) (σ:St) (H:Hp) (D:Ends),Inv X pins σ H s -> t D σ H -> wpAny (model X.prog X.w) X.A (execs st X.env) (SP X pins D) X.xe s
theorem thn {α:Type} {t:Sem α} {Q Q':α -> Shared -> Prop} {M:Model} {A:Around} {E:Value -> Shared -> Prop} {s:Shared} (h:wpAny M A t Q E s) (hQ:∀ a s,Q a s -> Q' a s):wpAny M A t Q' E s:=wpAny_mono h hQ fun _ _ x=>x
end L2

namespace L2
open PySem PySem.Spec PyProof.Rows
section
variable {X:Cx}

noncomputable def tVar (i:Nat):TE:=fun σ H Q=>∃ v,σ[i]? = some (some v) /\ Q v H
noncomputable def tC (v:V):TE:=fun _ H Q=>Q v H
theorem pe_var {i:Nat} {x:Str} {pos:Pos} (hN:X.N[i]? = some x) (hv:Vis X.env.scope x) (hd:(x == ("__debug__":Str)) = false:=by decide) (hcd:(x == ("__classdict__":Str)) = false:=by decide):PE X (.Name x pos) (tVar i):=by
  intro pins s σ H Q I h
  obtain ⟨v,e,h⟩:=h
  obtain ⟨m,hn,hl⟩:=I.loc
  obtain ⟨u,r,l⟩:=hl i x v hN e hv
  have fin:EP X pins σ Q u s:=⟨v,H,I,r,h⟩
  rcases l with ⟨hk,hm⟩ | ⟨hk,c,hc,hcell⟩
  · exact wpAny_Name (wpAny_loadName_local I.ok.kind hk hn hm fin) hd
  · rcases hk with hk | hk
    · exact wpAny_Name (wpAny_loadName_cell I.ok.kind hk hc hcell fin) hd
    · exact wpAny_Name (wpAny_loadName_free I.ok.kind hk hc hcell fin hcd) hd
theorem pe_int {i j pos}:PE X (.Constant (.int i) j pos) (tC (.int i)):=fun _ _ _ H _ I h=>wpAny_Constant_int ⟨.int i,H,I.tok _,⟨_,rfl⟩,h⟩
theorem pe_bl {b j pos}:PE X (.Constant (.bool b) j pos) (tC (.bl b)):=fun _ _ _ H _ I h=>Constant_bool ⟨.bl b,H,I,rfl,h⟩
theorem pe_non {j pos}:PE X (.Constant .none j pos) (tC .non):=fun _ _ _ H _ I h=>Constant_none ⟨.non,H,I,rfl,h⟩
theorem pe_str {x j pos}:PE X (.Constant (.str x) j pos) (tC (.str x)):=fun _ _ _ H _ I h=>Calls.Constant_str ⟨.str x,H,I.tok _,⟨_,rfl⟩,h⟩

noncomputable def Gl (X:Cx) (x:Str):Prop:=X.env.kindOf x = some .globalImplicit
theorem ld_glob {E:Value -> Shared -> Prop} {pins:List (Addr × Obj)} {s:Shared} {σ:St} {H:Hp} {x:Str} {u:Value} {pos:Pos} {Q:Value -> Shared -> Prop} (I:Inv X pins σ H s) (hg:Gl X x) (hm:X.mg x = some u) (h:Q u s)
    (hd:(x == ("__debug__":Str)) = false:=by decide):wpAny (model X.prog X.w) X.A (eval (.Name x pos) X.env) Q E s :=
  Calls.Name_function_global I.ok.kind hg (Calls.loadGlobal_global (by rw [I.ok.glob];exact I.mod.glob.keeps I.bk) hm h) hd
theorem ld_blt {E:Value -> Shared -> Prop} {pins:List (Addr × Obj)} {s:Shared} {σ:St} {H:Hp} {x:Str} {u:Value} {pos:Pos} {Q:Value -> Shared -> Prop} (I:Inv X pins σ H s) (hg:Gl X x) (hm:X.mg x = none) (hv:bootBuiltins x = some u) (h:Q u s)
    (hn:x ≠ "__name__":=by decide) (hd:(x == ("__debug__":Str)) = false:=by decide):wpAny (model X.prog X.w) X.A (eval (.Name x pos) X.env) Q E s:=by
  obtain ⟨mb,h1,h2⟩:=I.mod.blt
  exact Calls.Name_function_global I.ok.kind hg (Calls.loadGlobal_builtin (by rw [I.ok.glob];exact I.mod.glob.keeps I.bk) hm (by rw [I.ok.blt];exact h1.keeps I.bk) ((h2 x hn).trans hv) h) hd
theorem pe_glob {x:Str} {v:V} {u:Value} {pos:Pos} (hg:Gl X x) (hm:X.mg x = some u) (r:RelV v u) (hd:(x == ("__debug__":Str)) = false:=by decide):PE X (.Name x pos) (tC v) :=
  fun _ _ _ H _ I h=>ld_glob I hg hm ⟨v,H,I,r,h⟩ hd
variable {a b:Expr} {ta tb:TE} {pos:Pos}
variable {tA tB':TT} {rest:List Expr}
noncomputable def tAnd (t u:TT):TT:=fun σ H Q=>t σ H fun c H1=>if c = true then u σ H1 Q else Q false H1
noncomputable def tOr (t u:TT):TT:=fun σ H Q=>t σ H fun c H1=>if c = true then Q true H1 else u σ H1 Q
noncomputable def tNot (t:TT):TT:=fun σ H Q=>t σ H fun c H1=>Q (!c) H1
theorem pw_and1 (ha:PT X a tA):PW X (.BoolOp .And [a] pos) tA:=by
  intro wh pins s σ H Q I h
  refine isTrue_and (thn (ha pins s σ H Q I h) fun c s1 e=>?_)
  cases c with
  | true=>exact isTrue_and_nil e
  | false=>exact e
theorem pw_or1 (ha:PT X a tA):PW X (.BoolOp .Or [a] pos) tA:=by
  intro wh pins s σ H Q I h
  refine isTrue_or (thn (ha pins s σ H Q I h) fun c s1 e=>?_)
  cases c with
  | false=>exact isTrue_or_nil e
  | true=>exact e
theorem pw_and (ha:PT X a tA) (hb:PW X (.BoolOp .And (b :: rest) pos) tB'):PW X (.BoolOp .And (a :: b :: rest) pos) (tAnd tA tB'):=by
  intro wh pins s σ H Q I h
  refine isTrue_and (thn (ha pins s σ H _ I h) fun c s1 ⟨H1,I1,q1⟩=>?_)
  cases c with
  | true=>exact hb wh pins s1 σ H1 Q I1 q1
  | false=>exact ⟨H1,I1,q1⟩
theorem pw_or (ha:PT X a tA) (hb:PW X (.BoolOp .Or (b :: rest) pos) tB'):PW X (.BoolOp .Or (a :: b :: rest) pos) (tOr tA tB'):=by
  intro wh pins s σ H Q I h
  refine isTrue_or (thn (ha pins s σ H _ I h) fun c s1 ⟨H1,I1,q1⟩=>?_)
  cases c with
  | true=>exact ⟨H1,I1,q1⟩
  | false=>exact hb wh pins s1 σ H1 Q I1 q1
theorem pt_not (ha:PT X a tA):PT X (.UnaryOp .Not a pos) (tNot tA):=by
  intro pins s σ H Q I h
  exact isTrue_not (ha pins s σ H (fun c H1=>Q (!c) H1) I h)
noncomputable def tAndV (ta tb:TE):TE:=fun σ H Q=>ta σ H fun x H1=>∃ c,x = .bl c /\ if c = true then tb σ H1 Q else Q (.bl false) H1
theorem pe_one {op} {t:TE} (h:PE X a t):PE X (.BoolOp op [a] pos) t:=fun pins s σ H Q I hw=>BoolOp_one (h pins s σ H Q I hw)
theorem pe_and (ha:PE X a ta) (hb:PE X (.BoolOp .And (b :: rest) pos) tb):PE X (.BoolOp .And (a :: b :: rest) pos) (tAndV ta tb):=by
  intro pins s σ H Q I h
  refine BoolOp_and (thn (ha pins s σ H _ I h) fun v s1 ⟨x,H1,I1,r1,q1⟩=>?_)
  obtain ⟨c,rfl,q1⟩:=q1
  cases r1
  refine wpAny_truthy_bool ?_
  cases c with
  | true=>exact hb pins s1 σ H1 Q I1 q1
  | false=>exact ⟨.bl false,H1,I1,rfl,q1⟩
end
end L2

namespace L2
open PySem PySem.Spec PyProof.Rows

noncomputable def SqL (K:PySem.W.Frag) (H:Hp) (a:Addr) (xs:List V):Prop :=
  Rd H a (.lst xs) \/
    ∃ (o:Obj) (its:Array Value) (n:Nat),K.lookup a = some o /\ o.cls = .type "list" /\ o.dict = none /\ o.data = .seq its n /\ its.size <= sizeLine /\ Vals xs its.toList
noncomputable def SqT (K:PySem.W.Frag) (H:Hp) (a:Addr) (xs:List V):Prop :=
  Rd H a (.tup xs) \/
    ∃ (o:Obj) (its:Array Value) (n:Nat),K.lookup a = some o /\ o.cls = .type "tuple" /\ o.data = .seq its n /\ its.size <= sizeLine /\ Vals xs its.toList
noncomputable def absV:Value -> Option V
  | .none=>some .non
  | .bool b=>some (.bl b)
  | .int i _=>some (.int i)
  | .str x _=>some (.str x)
  | .bytes b _=>some (.byt b)
  | .float b _=>some (.flt b)
  | .ref a=>some (.ref a)
  | .type n=>some (.ty n)
  | _=>none
theorem RelV.abs {x:V} {u:Value} (r:RelV x u):absV u = some x:=by
  cases x with
  | non=>cases r;rfl
  | bl _=>cases r;rfl
  | int _=>obtain ⟨t,rfl⟩:=r;rfl
  | str _=>obtain ⟨t,rfl⟩:=r;rfl
  | byt _=>obtain ⟨t,rfl⟩:=r;rfl
  | flt _=>obtain ⟨t,rfl⟩:=r;rfl
  | ref _=>cases r;rfl
  | ty _=>cases r;rfl
theorem RelV.inj {x y:V} {u:Value} (r:RelV x u) (q:RelV y u):x = y:=Option.some.inj (r.abs.symm.trans q.abs)
theorem Vals.inj:∀ {xs ys:List V} {us:List Value},Vals xs us -> Vals ys us -> xs = ys
  | _,_,_,.nil,.nil=>rfl
  | _,_,_,.cons r t,.cons r' t'=>by rw [r.inj r',Vals.inj t t']
section
variable {X:Cx} {pins:List (Addr × Obj)} {σ:St} {H:Hp} {s:Shared} {a:Addr} {xs ys:List V}
theorem SqL.of {K:PySem.W.Frag} (h:H a = some (.lst xs)):SqL K H a xs:=.inl (.inl h)
theorem SqT.of {K:PySem.W.Frag} (h:H a = some (.tup xs)):SqT K H a xs:=.inl (.inl h)
theorem Inv.list (I:Inv X pins σ H s) (h:SqL X.K H a xs):∃ its:List Value,Vals xs its /\ PlainL s.heap a its.toArray /\ xs.length <= sizeLine:=by
  rcases h with h | ⟨o,its,n,hk,hc,hd,hs,hz,r⟩
  · obtain ⟨z,its,n,r,e⟩:=h.ok I.hok
    exact ⟨its,r,⟨_,n,e,rfl,rfl,rfl⟩,z⟩
  · refine ⟨its.toList,r,⟨o,n,I.kIn a o hk,hc,hd,by simpa using hs⟩,?_⟩
    have e:=r.length
    simp only [Array.length_toList] at e
    omega
theorem Inv.tuple (I:Inv X pins σ H s) (h:SqT X.K H a xs):∃ its:List Value,Vals xs its /\ IsTup s.heap a its.toArray /\ xs.length <= sizeLine:=by
  rcases h with h | ⟨o,its,n,hk,hc,hs,hz,r⟩
  · obtain ⟨z,its,r,p⟩:=h.ok I.hok
    exact ⟨its,r,p,z⟩
  · refine ⟨its.toList,r,⟨o,I.kIn a o hk,hc,n,by simpa using hs⟩,?_⟩
    have e:=r.length
    simp only [Array.length_toList] at e
    omega
theorem Inv.list_inj (I:Inv X pins σ H s) (h:SqL X.K H a xs) (h':SqL X.K H a ys):xs = ys:=by
  obtain ⟨its,r,⟨o,n,e,_,_,d⟩,_⟩:=I.list h
  obtain ⟨its',r',⟨o',n',e',_,_,d'⟩,_⟩:=I.list h'
  rw [e] at e';cases e'
  rw [d] at d'
  injection d' with d1 _
  have:its = its':=by simpa using congrArg Array.toList d1
  subst this
  exact r.inj r'
theorem Inv.tuple_inj (I:Inv X pins σ H s) (h:SqT X.K H a xs) (h':SqT X.K H a ys):xs = ys:=by
  obtain ⟨its,r,⟨o,e,_,n,d⟩,_⟩:=I.tuple h
  obtain ⟨its',r',⟨o',e',_,n',d'⟩,_⟩:=I.tuple h'
  rw [e] at e';cases e'
  rw [d] at d'
  injection d' with d1 _
  have:its = its':=by simpa using congrArg Array.toList d1
  subst this
  exact r.inj r'
end

noncomputable abbrev Cx.wish (X:Cx) (E:Value -> Shared -> Prop):Cx:={ X with xe:=E }
noncomputable abbrev Cx.nox (X:Cx):Cx:=X.wish fun _ _=>False
theorem Cx.Ok.wish {X:Cx} (ok:X.Ok) (E:Value -> Shared -> Prop):(X.wish E).Ok :=
  ⟨ok.mod,ok.kind,ok.glob,ok.blt,ok.above,ok.inj,ok.has,ok.cab,ok.hd,ok.frames,ok.stk,ok.exf,ok.bs,ok.bsz,ok.noex,ok.exfs,ok.funs,ok.frf⟩
theorem Cx.Ok.unwish {X:Cx} {E:Value -> Shared -> Prop} (ok:(X.wish E).Ok):X.Ok :=
  ⟨ok.mod,ok.kind,ok.glob,ok.blt,ok.above,ok.inj,ok.has,ok.cab,ok.hd,ok.frames,ok.stk,ok.exf,ok.bs,ok.bsz,ok.noex,ok.exfs,ok.funs,ok.frf⟩
section
variable {X:Cx} {pins:List (Addr × Obj)} {σ:St} {H:Hp} {s:Shared} {E:Value -> Shared -> Prop}
theorem Inv.wish (I:Inv X pins σ H s) (E:Value -> Shared -> Prop):Inv (X.wish E) pins σ H s:=⟨I.ok.wish E,I.os,I.bare,I.base,I.loc,I.cell,I.free,I.freeC,I.pin,I.hok,I.len⟩
theorem Inv.unwish (I:Inv (X.wish E) pins σ H s):Inv X pins σ H s:=⟨I.ok.unwish,I.os,I.bare,I.base,I.loc,I.cell,I.free,I.freeC,I.pin,I.hok,I.len⟩
theorem SP.unwish {D:Ends} {f:Flow} {s':Shared} (h:SP (X.wish E) pins D f s'):SP X pins D f s':=by
  cases f with
  | next=>obtain ⟨σ',H',I,q⟩:=h;exact ⟨σ',H',I.unwish,q⟩
  | brk=>obtain ⟨σ',H',I,q⟩:=h;exact ⟨σ',H',I.unwish,q⟩
  | cont=>obtain ⟨σ',H',I,q⟩:=h;exact ⟨σ',H',I.unwish,q⟩
  | ret u=>obtain ⟨v,σ',H',I,r,q⟩:=h;exact ⟨v,σ',H',I.unwish,r,q⟩
theorem PSs.nox {st:List Stmt} {t:TS} (h:PSs X.nox st t):PSs X st t:=fun pins s σ H D I hw =>
  wpAny_mono (h pins s σ H D (I.wish _) hw) (fun _ _ q=>q.unwish) fun _ _ z=>False.elim z
end

section
variable {X:Cx} {st:Stmt} {rest:List Stmt} {t u:TS} {e:Expr} {te:TE} {pos:Pos}
noncomputable def tNext:TS:=fun D σ H=>D.nx σ H
noncomputable def tSeq (t u:TS):TS:=fun D σ H=>t { D with nx:=u D } σ H
theorem pss_nil:PSs X [] tNext:=fun _ _ σ H _ I h=>wpAny_execs_nil ⟨σ,H,I,h⟩
theorem pss_cons (h1:PS X st t) (h2:PSs X rest u):PSs X (st :: rest) (tSeq t u):=by
  intro pins s σ H D I h
  refine wpAny_execs_cons (thn (h1 pins s σ H { D with nx:=u D } I h) fun f s1 q=>?_)
  cases f with
  | next =>
    obtain ⟨σ',H',I',q⟩:=q
    exact h2 pins s1 σ' H' D I' q
  | ret v=>exact q
  | brk=>exact q
  | cont=>exact q
theorem pss_one (h1:PS X st t):PSs X [st] t:=by
  intro pins s σ H D I h
  refine wpAny_execs_cons (thn (h1 pins s σ H D I h) fun f s1 q=>?_)
  cases f with
  | next=>exact wpAny_execs_nil q
  | ret v=>exact q
  | brk=>exact q
  | cont=>exact q
theorem Inv.quiet {pins:List (Addr × Obj)} {σ:St} {H:Hp} {s:Shared} (I:Inv X pins σ H s):interactive X.env = false:=by simp [interactive,I.ok.kind]
noncomputable def tDrop (te:TE):TS:=fun D σ H=>te σ H fun _ H1=>D.nx σ H1
theorem ps_expr (he:PE X e te) (hs:swapsWith e none pos.line X.env = pure false:=by rfl):PS X (.Expr e pos) (tDrop te):=by
  intro pins s σ H D I h
  exact wpAny_Expr_any (thn (he pins s σ H _ I h) fun v s1 ⟨x,H1,I1,r1,q1⟩=>⟨σ,H1,I1,q1⟩) I.quiet hs
noncomputable def tRet (te:TE):TS:=fun D σ H=>te σ H D.rt
theorem ps_ret (he:PE X e te):PS X (.Return (some e) pos) (tRet te):=by
  intro pins s σ H D I h
  exact wpAny_Return_some (thn (he pins s σ H _ I h) fun v s1 ⟨x,H1,I1,r1,q1⟩=>⟨x,σ,H1,I1,r1,q1⟩)
noncomputable def tIfS (c:TT) (t u:TS):TS:=fun D σ H=>c σ H fun b H1=>if b = true then t D σ H1 else u D σ H1
theorem ps_if {c:Expr} {a b:List Stmt} {tc:TT} (hc:PT X c tc) (ha:PSs X a t) (hb:PSs X b u):PS X (.If c a b pos) (tIfS tc t u):=by
  intro pins s σ H D I h
  refine wpAny_If (thn (hc pins s σ H _ I h) fun d s1 ⟨H1,I1,q1⟩=>?_)
  cases d with
  | true=>exact ha pins s1 σ H1 D I1 q1
  | false=>exact hb pins s1 σ H1 D I1 q1
noncomputable def tNever:TS:=fun _ _ _=>False
theorem ps_never:PS X st tNever:=fun _ _ _ _ _ _ h=>h.elim
end

noncomputable abbrev TG:=V -> St -> Hp -> (St -> Hp -> Prop) -> Prop
noncomputable abbrev TGs:=List V -> St -> Hp -> (St -> Hp -> Prop) -> Prop
noncomputable def PG (X:Cx) (target:Expr) (t:TG):Prop :=
  ∀ (pins:List (Addr × Obj)) (s:Shared) (σ:St) (H:Hp) (v:V) (u:Value) (Q:St -> Hp -> Prop),Inv X pins σ H s -> RelV v u -> t v σ H Q ->
    wpAny (model X.prog X.w) X.A (assign target X.env u) (fun _ s'=>∃ σ' H',Inv X pins σ' H' s' /\ Q σ' H') X.xe s
noncomputable def PGs (X:Cx) (ts:List Expr) (t:TGs):Prop :=
  ∀ (pins:List (Addr × Obj)) (s:Shared) (σ:St) (H:Hp) (vs:List V) (us:List Value) (Q:St -> Hp -> Prop),Inv X pins σ H s -> Vals vs us -> t vs σ H Q ->
    wpAny (model X.prog X.w) X.A (assignInOrder ((assignEach ts X.env).map (·.2)) us) (fun _ s'=>∃ σ' H',Inv X pins σ' H' s' /\ Q σ' H') X.xe s
noncomputable abbrev TSet:=V -> V -> V -> Hp -> (Hp -> Prop) -> Prop
noncomputable def PSet (X:Cx) (t:TSet):Prop :=
  ∀ (pins:List (Addr × Obj)) (s:Shared) (σ:St) (H:Hp) (o i v:V) (ov iv u:Value) (Q:Hp -> Prop),Inv X pins σ H s -> RelV o ov -> RelV i iv -> RelV v u -> t o i v H Q ->
    wpAny (model X.prog X.w) X.A (setItem ov iv u) (fun _ s'=>∃ H',Inv X pins σ H' s' /\ Q H') X.xe s
noncomputable abbrev TIp:=V -> V -> Hp -> VK -> Prop
noncomputable def PIp (X:Cx) (op:Operator) (t:TIp):Prop :=
  ∀ (pins:List (Addr × Obj)) (s:Shared) (σ:St) (H:Hp) (x y:V) (v u:Value) (Q:VK),Inv X pins σ H s -> RelV x v -> RelV y u -> t x y H Q ->
    wpAny (model X.prog X.w) X.A (inplaceOp op v u) (EP X pins σ Q) X.xe s
section
variable {X:Cx} {pos:Pos}
noncomputable def gName (i:Nat):TG:=fun v σ H Q=>Q (σ.set i (some v)) H
theorem pg_name {i:Nat} {x:Str} (hN:X.N.Nodup) (hi:X.N[i]? = some x) (hx:Loc X.env.scope x) (hf:X.fn x = true \/ X.env.scope.names.lookup x = some .local:=by first | exact .inl rfl | exact .inr rfl | assumption):PG X (.Name x pos) (gName i):=by
  intro pins s σ H v u Q I r h
  exact wpAny_assign_Name (store_ok I hN hi hx r (fun s' I'=>⟨_,H,I',h⟩) hf)
noncomputable def gNil:TGs:=fun vs σ H Q=>vs = [] /\ Q σ H
noncomputable def gCons (t:TG) (u:TGs):TGs:=fun vs σ H Q=>∃ v r,vs = v :: r /\ t v σ H fun σ' H'=>u r σ' H' Q
theorem pgs_nil:PGs X [] gNil:=by
  intro pins s σ H vs us Q I r h
  obtain ⟨e,h⟩:=h
  subst e
  cases r
  exact assignInOrder_nil ⟨σ,H,I,h⟩
theorem pgs_cons {e:Expr} {es:List Expr} {t:TG} {u:TGs} (h1:PG X e t) (h2:PGs X es u)
    (hs:(assignEach (e :: es) X.env).map (·.2) = assign e X.env :: (assignEach es X.env).map (·.2):=by rfl):PGs X (e :: es) (gCons t u):=by
  intro pins s σ H vs us Q I r h
  obtain ⟨v,vr,e1,h⟩:=h
  subst e1
  cases r with
  | cons r rr =>
    rw [hs]
    refine assignInOrder_cons (thn (h1 pins s σ H _ _ _ I r h) fun _ s1 ⟨σ1,H1,I1,q1⟩=>?_)
    exact h2 pins s1 σ1 H1 _ _ Q I1 rr q1
noncomputable def gTup (K:PySem.W.Frag) (n:Nat) (t:TGs):TG:=fun v σ H Q=>∃ a xs,v = .ref a /\ SqT K H a xs /\ xs.length = n /\ t xs σ H Q
theorem pg_tup {es:List Expr} {k:Nat} {t:TGs} {n:Nat} (hc:X.calm = true) (h:PGs X es t)
    (hn:(assignEach es X.env).length = n:=by rfl) (hst:(assignEach es X.env).findIdx? (·.1) = none:=by rfl):PG X (.Tuple es k pos) (gTup X.K n t):=by
  intro pins s σ H v u Q I r hw
  obtain ⟨a,xs,e1,hq,hl,hw⟩:=hw
  subst e1
  cases r
  obtain ⟨its,rv,ht,hz⟩:=I.tuple hq
  refine assign_Tuple_tuple (I.ok.hd hc) ht (by simp [hn,<- hl,rv.length]) hst fun h' hx=>?_
  have I1:Inv X pins σ H { s with heap:=h' }:=I.kept (t':=s.toks) fun b o e=>hx b o (Nat.ne_of_lt (Heap.lt_size e)) e
  exact h pins _ σ H xs _ Q I1 (by simpa using rv) hw
noncomputable def tAsg (te:TE) (g:TG):TS:=fun D σ H=>te σ H fun x H1=>g x σ H1 D.nx
theorem ps_asg {tg e:Expr} {te:TE} {g:TG} (he:PE X e te) (hg:PG X tg g) (hs:swapsWithSole [tg] e pos.line X.env = pure false:=by rfl) (hw:swappedStores [tg] e X.env = pure none:=by rfl)
    (h1:(assignEach [tg] X.env).map (·.2) = [assign tg X.env]:=by rfl):PS X (.Assign [tg] e pos) (tAsg te g):=by
  intro pins s σ H D I h
  refine wpAny_Assign_stores (thn (he pins s σ H _ I h) fun v s1 ⟨x,H1,I1,r1,q1⟩=>?_) hs hw
  rw [h1]
  exact thn (hg pins s1 σ H1 x v _ I1 r1 q1) fun _ s2 q=>q
theorem ps_set {i:Nat} {x:Str} {e:Expr} {te:TE} {pos':Pos} (hN:X.N.Nodup) (hi:X.N[i]? = some x) (hx:Loc X.env.scope x) (he:PE X e te) (hs:swapsWith e (some (.Name x pos')) pos.line X.env = pure false:=by rfl) (hf:X.fn x = true \/ X.env.scope.names.lookup x = some .local:=by first | exact .inl rfl | exact .inr rfl | assumption) :
    PS X (.Assign [.Name x pos'] e pos) (tAsg te (gName i)):=by
  intro pins s σ H D I h
  refine wpAny_Assign_Name (thn (he pins s σ H _ I h) fun v s1 ⟨y,H1,I1,r1,q1⟩=>?_) hs
  exact store_ok I1 hN hi hx r1 (fun s2 I2=>⟨_,H1,I2,q1⟩) hf
noncomputable def tPar (i j:Nat) (ta:TA):TS:=fun D σ H=>ta σ H fun vs H1=>∃ v w,vs = [v,w] /\ D.nx ((σ.set i (some v)).set j (some w)) H1
theorem ps_par {i j:Nat} {x y:Str} {a b:Expr} {ta:TA} {px py pt:Pos} {kt k2 pt2} (hc:X.calm = true) (hN:X.N.Nodup) (hi:X.N[i]? = some x) (hj:X.N[j]? = some y) (hij:i ≠ j)
    (hx:X.env.scope.names.lookup x = some .local) (hy:X.env.scope.names.lookup y = some .local) (ha:PA X [a,b] ta)
    (hw:swappedStores [.Tuple [.Name x px,.Name y py] kt pt] (.Tuple [a,b] k2 pt2) X.env = pure (some [x,y]))
    (hs:swapsWithSole [.Tuple [.Name x px,.Name y py] kt pt] (.Tuple [a,b] k2 pt2) pos.line X.env = pure false:=by rfl) :
    PS X (.Assign [.Tuple [.Name x px,.Name y py] kt pt] (.Tuple [a,b] k2 pt2) pos) (tPar i j ta):=by
  intro pins s σ H D I h
  rw [exec_Assign_arm]
  refine wpAny_bind (wpAny_standAt ?_)
  rw [hs]
  refine wpAny_bind (wpAny_pure ?_)
  rw [if_neg (by decide)]
  refine wpAny_bind (Tuple_ (thn (ha _ pins s σ H _ I h) fun us s1 ⟨vs,H1,I1,r1,q1⟩=>?_))
  obtain ⟨v,w,e1,q1⟩:=q1
  subst e1
  obtain ⟨u1,u2,rfl,rv,rw'⟩:∃ u1 u2,us = [u1,u2] /\ RelV v u1 /\ RelV w u2:=by
    cases r1 with
    | cons p q =>
      cases q with
      | cons p' q' =>
        cases q'
        exact ⟨_,_,rfl,p,p'⟩
  refine wpAny_newObj_type ?_ (by show 2 <= sizeLine;decide)
  have I2:Inv X pins σ H1 { s1 with heap:=s1.heap.push { cls:=.type "tuple",data:=.seq [u1,u2].toArray } }:=I1.kept (t':=s1.toks) fun b o e=>Heap.get?_push_of_some _ e
  rw [hw]
  refine wpAny_bind (wpAny_pure ?_)
  show wpAny (model X.prog X.w) X.A (do rule "assign.swapped-stores";let items <- unpackItems (.ref s1.heap.objs.size) 2 none;assignInOrder [fun v=>bindName X.env y v,fun v=>bindName X.env x v] items.reverse;pure Flow.next) _ _ _
  refine wpAny_bind (wpAny_rule (wpAny_bind (unpackItems_tuple (items:=#[u1,u2]) (I.ok.hd hc) (IsTup.new s1.heap _) fun h' hx'=>?_)))
  have I3:=I2.kept (h':=h') (t':=s1.toks) fun b o e=>hx' b o (Nat.ne_of_lt (Heap.lt_size e)) e
  show wpAny _ _ (assignInOrder [fun v=>bindName X.env y v,fun v=>bindName X.env x v] [u2,u1] >>= fun _=>pure Flow.next) _ _ _
  refine wpAny_bind (assignInOrder_cons (wpAny_bindName (store_ok I3 hN hj (.inl hy) rw' (fun s2 I4=>?_) (.inr hy))))
  refine assignInOrder_cons (wpAny_bindName (store_ok I4 hN hi (.inl hx) rv (fun s3 I5=>assignInOrder_nil (wpAny_pure ?_)) (.inr hx)))
  rw [List.set_comm _ _ (Ne.symm hij)] at I5
  exact ⟨_,H1,I5,q1⟩
noncomputable def tAug (i:Nat) (te:TE) (ti:TIp):TS:=fun D σ H=>∃ x,σ[i]? = some (some x) /\ te σ H fun y H1=>ti x y H1 fun z H2=>D.nx (σ.set i (some z)) H2
noncomputable def tAugS (to ti te:TE) (tget:V -> V -> Hp -> VK -> Prop) (tip:TIp) (tset:TSet):TS:=fun D σ H=>to σ H fun o H1=>ti σ H1 fun i H2=>tget o i H2 fun x H3=>te σ H3 fun y H4=>tip x y H4 fun z H5=>tset o i z H5 fun H6=>D.nx σ H6
noncomputable def PGet (X:Cx) (t:V -> V -> Hp -> VK -> Prop):Prop :=
  ∀ (pins:List (Addr × Obj)) (s:Shared) (σ:St) (H:Hp) (o i:V) (ov iv:Value) (Q:VK),Inv X pins σ H s -> RelV o ov -> RelV i iv -> t o i H Q ->
    wpAny (model X.prog X.w) X.A (getItem ov iv) (EP X pins σ Q) X.xe s
theorem ps_augS {o i e:Expr} {to ti te:TE} {tget:V -> V -> Hp -> VK -> Prop} {tip:TIp} {tset:TSet} {op:Operator} {tpos:Pos} (ho:PE X o to) (hi:PE X i ti) (hg:PGet X tget) (he:PE X e te) (hp:PIp X op tip) (hs:PSet X tset)
    (ha:∀ ov iv new,augStore i ov iv new = (do holding [new,ov,iv] (setItem ov iv new);release [new,ov,iv] [];pure .next):=by intros;rfl):PS X (.AugAssign (.Subscript o i tpos) op e pos) (tAugS to ti te tget tip tset):=by
  intro pins s σ H D I h
  refine wpAny_AugAssign_SubscriptAny (thn (ho pins s σ H _ I h) fun ov s1 ⟨x1,H1,I1,r1,q1⟩=>?_) ha
  refine thn (hi pins s1 σ H1 _ I1 q1) fun iv s2 ⟨x2,H2,I2,r2,q2⟩=>?_
  refine thn (hg pins s2 σ H2 x1 x2 ov iv _ I2 r1 r2 q2) fun old s3 ⟨x3,H3,I3,r3,q3⟩=>?_
  refine thn (he pins s3 σ H3 _ I3 q3) fun v s4 ⟨x4,H4,I4,r4,q4⟩=>?_
  refine thn (hp pins s4 σ H4 x3 x4 old v _ I4 r3 r4 q4) fun new s5 ⟨x5,H5,I5,r5,q5⟩=>?_
  exact thn (hs pins s5 σ H5 x1 x2 x5 ov iv new _ I5 r1 r2 r5 q5) fun _ s6 ⟨H6,I6,q6⟩=>⟨σ,H6,I6,q6⟩
noncomputable def ipI (f:Int -> Int -> Int):TIp:=fun x y H Q=>∃ i j,x = .int i /\ y = .int j /\ Q (.int (f i j)) H
theorem ip_add:PIp X .Add (ipI fun i j=>i + j):=by
  intro pins s σ H x y v u Q I r1 r2 h
  obtain ⟨i,j,e1,e2,q⟩:=h
  subst e1;subst e2
  obtain ⟨t,rfl⟩:=r1
  obtain ⟨t',rfl⟩:=r2
  exact iadd_int ⟨.int _,H,I.tok _,⟨_,rfl⟩,q⟩
end

section
variable {X:Cx} {pos:Pos}
end

structure It where
  go:Nat -> Hp -> Prop
  yld:Nat -> Hp -> V -> Hp -> Prop
  stop:Nat -> Hp -> Prop
noncomputable def FpOk (X:Cx) (pins:List (Addr × Obj)) (H:Hp) (b:Addr):Prop :=
  H b = none /\ b ≠ X.env.locals /\ b ∉ X.fs /\ (b ∈ X.ex \/ X.s₀.heap.objs.size <= b) /\ (∀ x c,X.env.cells.lookup x = some c -> c ≠ b) /\ ∀ p ∈ X.pn ++ pins,p.1 ≠ b
theorem Inv.fpOk {X:Cx} {pins:List (Addr × Obj)} {σ:St} {H H':Hp} {s:Shared} {b:Addr} (I:Inv X pins σ H s) (hb:s.heap.objs.size <= b) (hn:H' b = none):FpOk X pins H' b:=by
  refine ⟨hn,Nat.ne_of_gt (Nat.lt_of_lt_of_le I.lt hb),I.nofs hb,.inr (Nat.le_trans I.sz hb),fun x c e z=>?_,fun p hp z=>?_⟩
  · obtain ⟨v,q⟩:=I.cell x c e
    exact absurd (Nat.lt_of_lt_of_le q.lt (by rw [z];exact hb)) (Nat.lt_irrefl _)
  · exact absurd (Nat.lt_of_lt_of_le (Heap.lt_size (I.pin p hp).1) (by rw [z];exact hb)) (Nat.lt_irrefl _)
structure Turn (P:Program) (w:World) (K:PySem.W.Frag) (tg:Expr) (J:It) (fp:List Addr) (it:Addr) (tn:Nat -> Heap -> Prop):Prop where
  mem:it ∈ fp
  obj:∀ i h,tn i h -> ∀ b ∈ fp,∃ o,h.get? b = some o /\ ∀ v,o.data ≠ .cell v
  keep:∀ i h h',tn i h -> (∀ b ∈ fp,∀ o,h.get? b = some o -> h'.get? b = some o) -> tn i h'
  item:∀ (X:Cx),X.prog = P -> X.w = w -> X.K = K -> X.calm = true -> ∀ (i:Nat) (pins:List (Addr × Obj)) (s:Shared) (σ:St) (H:Hp) (E:Value -> Shared -> Prop),Inv X pins σ H s -> (∀ b ∈ fp,FpOk X pins H b) -> tn i s.heap -> J.go i H ->
    wpAny (model P w) X.A (pyNext (.ref it)) (fun r s1=>∃ u,r = some u /\
      wpAny (model P w) X.A (letOwnedTupleGo tg (.ref it) u) (fun _ s2=>∃ x H',Inv X pins σ H' s2 /\ RelV x u /\ J.yld i H x H' /\ tn (i + 1) s2.heap /\ ∀ b ∈ fp,H' b = none) E s1) E s
  done:∀ (X:Cx),X.prog = P -> X.w = w -> X.K = K -> X.calm = true -> ∀ (i:Nat) (pins:List (Addr × Obj)) (s:Shared) (σ:St) (H:Hp) (E:Value -> Shared -> Prop),Inv X pins σ H s -> (∀ b ∈ fp,FpOk X pins H b) -> tn i s.heap -> J.stop i H ->
    wpAny (model P w) X.A (pyNext (.ref it)) (fun r s1=>r = none /\ Inv X pins σ H s1) E s
  self:∀ (A:Around) (i:Nat) (s:Shared) (Q:Value -> Shared -> Prop) (E:Value -> Shared -> Prop),tn i s.heap -> Q (.ref it) s -> wpAny (model P w) A (pyIter (.ref it)) Q E s
noncomputable abbrev TI:=St -> Hp -> (It -> Hp -> Prop) -> Prop
noncomputable def PIE (X:Cx) (pins:List (Addr × Obj)) (σ:St) (tg:Expr) (R:It -> Hp -> Prop) (itv:Value) (s2:Shared):Prop :=
  ∃ (it:Addr) (fp:List Addr) (tn:Nat -> Heap -> Prop) (J:It) (H':Hp),itv = .ref it /\ Inv X pins σ H' s2 /\ Turn X.prog X.w X.K tg J fp it tn /\ tn 0 s2.heap /\ (∀ b ∈ fp,FpOk X pins H' b) /\ R J H'
noncomputable def PI (X:Cx) (tg iter:Expr) (wi:TI):Prop :=
  ∀ (pins:List (Addr × Obj)) (s:Shared) (σ:St) (H:Hp) (R:It -> Hp -> Prop),Inv X pins σ H s -> wi σ H R ->
    wpAny (model X.prog X.w) X.A (eval iter X.env) (fun v s1=>wpAny (model X.prog X.w) X.A (pyIter v) (PIE X pins σ tg R) X.xe s1) X.xe s

theorem go_of {M:Model} {A:Around} {E:Value -> Shared -> Prop} {s:Shared} {tg:Expr} {it:Addr} {u:Value} {o:Obj} {n:String} {vs:Array Value} {Q:Unit -> Shared -> Prop} (ho:s.heap.get? it = some o) (hc:o.cls = .type n) (hd:o.data = .fields vs)
    (hn:["enumerate","zip","dict_itemiterator","dict_reverseitemiterator","odict_iterator","itertools.zip_longest","itertools.pairwise"].contains n = false) (hQ:Q () s):wpAny M A (letOwnedTupleGo tg (.ref it) u) Q E s:=by
  unfold letOwnedTupleGo
  cases tg<;>first
    | exact wpAny_pure hQ
    | (cases u<;>first
        | exact wpAny_pure hQ
        | (refine wpAny_bind (wpAny_load ho ?_)
           rw [hc,hd]
           show wpAny M A (if (["enumerate","zip","dict_itemiterator","dict_reverseitemiterator","odict_iterator","itertools.zip_longest","itertools.pairwise"].contains n && vs[0]? == some (rawInt _)) = true then _ else _) Q E s
           rw [if_neg (by intro h;rw [hn,Bool.false_and] at h;cases h)]
           exact wpAny_pure hQ))

noncomputable def Itl (K:PySem.W.Frag) (a:Addr):It :=
  ⟨fun i H=>∃ xs x,SqL K H a xs /\ xs[i]? = some x,fun i H x H'=>H' = H /\ ∀ xs,SqL K H a xs -> xs[i]? = some x,fun i H=>∃ xs,SqL K H a xs /\ xs.length <= i⟩
noncomputable def Itt (K:PySem.W.Frag) (a:Addr):It :=
  ⟨fun i H=>∃ xs x,SqT K H a xs /\ xs[i]? = some x,fun i H x H'=>H' = H /\ ∀ xs,SqT K H a xs -> xs[i]? = some x,fun i H=>∃ xs,SqT K H a xs /\ xs.length <= i⟩
noncomputable def Itr (lo:Int) (n:Nat):It:=⟨fun i _=>i < n,fun i H x H'=>H' = H /\ x = .int (lo + i),fun i _=>n <= i⟩
theorem turn_list {P:Program} {w:World} {K:PySem.W.Frag} {tg:Expr} (a it:Addr):Turn P w K tg (Itl K a) [it] it (fun i h=>h.IsListIter it a i) where
  mem:=by simp
  obj:=fun i h st b hb=>by
    have e:b = it:=by simpa using hb
    subst e
    obtain ⟨o,e,c,d⟩:=st
    exact ⟨o,e,fun v z=>by rw [d] at z;cases z⟩
  keep:=fun i h h' st k=>st.at fun o e=>k it (by simp) o e
  item:=by
    intro X hP hw hK hc i pins s σ H E I hf st hg
    subst hP hw hK
    obtain ⟨xs,x,hq,hx⟩:=hg
    obtain ⟨its,rv,p,hz⟩:=I.list hq
    obtain ⟨u,hu,ru⟩:=rv.get hx
    obtain ⟨f0,f1,f2,f3,f4,f5⟩:=hf it (by simp)
    refine wpAny_pyNext_list_item st p.isList (x:=u) (by simpa using hu) fun h' st' sb=>?_
    have I1:Inv X pins σ H { s with heap:=h' }:=I.turned (t':=s.toks) (fun b o hb e=>(sb.2 b hb).trans e) f0 f1 f3 f4 f5
    obtain ⟨o,e,c,d⟩:=id st'
    exact ⟨u,rfl,go_of (s:={ s with heap:=h' }) e c d (by decide) ⟨x,H,I1,ru,⟨rfl,fun ys hy=>by rw [I.list_inj hy hq];exact hx⟩,st',fun b hb=>(hf b hb).1⟩⟩
  done:=by
    intro X hP hw hK hc i pins s σ H E I hf st hg
    subst hP hw hK
    obtain ⟨xs,hq,hx⟩:=hg
    obtain ⟨its,rv,p,hz⟩:=I.list hq
    obtain ⟨f0,f1,f2,f3,f4,f5⟩:=hf it (by simp)
    have hl:=rv.length
    exact wpAny_pyNext_list_end (I.ok.hd hc) st p.isList (by simp;omega) fun h' eb=>⟨rfl,I.turned (t':=s.toks) (fun b o hb e=>eb b o hb e) f0 f1 f3 f4 f5⟩
  self:=fun _ _ _ _ _ st h=>wpAny_pyIter_listiter st h
theorem turn_tuple {P:Program} {w:World} {K:PySem.W.Frag} {tg:Expr} (a it:Addr):Turn P w K tg (Itt K a) [it] it (fun i h=>h.IsTupleIter it a i) where
  mem:=by simp
  obj:=fun i h st b hb=>by
    have e:b = it:=by simpa using hb
    subst e
    obtain ⟨o,e,c,d⟩:=st
    exact ⟨o,e,fun v z=>by rw [d] at z;cases z⟩
  keep:=fun i h h' st k=>st.at fun o e=>k it (by simp) o e
  item:=by
    intro X hP hw hK hc i pins s σ H E I hf st hg
    subst hP hw hK
    obtain ⟨xs,x,hq,hx⟩:=hg
    obtain ⟨its,rv,p,hz⟩:=I.tuple hq
    obtain ⟨u,hu,ru⟩:=rv.get hx
    obtain ⟨f0,f1,f2,f3,f4,f5⟩:=hf it (by simp)
    refine wpAny_pyNext_tuple_item st (show s.heap.IsTuple a its.toArray from p) (x:=u) (by simpa using hu) fun h' st' sb=>?_
    have I1:Inv X pins σ H { s with heap:=h' }:=I.turned (t':=s.toks) (fun b o hb e=>(sb.2 b hb).trans e) f0 f1 f3 f4 f5
    obtain ⟨o,e,c,d⟩:=id st'
    exact ⟨u,rfl,go_of (s:={ s with heap:=h' }) e c d (by decide) ⟨x,H,I1,ru,⟨rfl,fun ys hy=>by rw [I.tuple_inj hy hq];exact hx⟩,st',fun b hb=>(hf b hb).1⟩⟩
  done:=by
    intro X hP hw hK hc i pins s σ H E I hf st hg
    subst hP hw hK
    obtain ⟨xs,hq,hx⟩:=hg
    obtain ⟨its,rv,p,hz⟩:=I.tuple hq
    obtain ⟨f0,f1,f2,f3,f4,f5⟩:=hf it (by simp)
    have hl:=rv.length
    exact wpAny_pyNext_tuple_end (I.ok.hd hc) st (show s.heap.IsTuple a its.toArray from p) (by simp;omega) fun h' eb=>⟨rfl,I.turned (t':=s.toks) (fun b o hb e=>eb b o hb e) f0 f1 f3 f4 f5⟩
  self:=fun _ _ _ _ _ st h=>wpAny_pyIter_tupleiter st h
theorem turn_range {P:Program} {w:World} {K:PySem.W.Frag} {tg:Expr} (it:Addr) (lo:Int) (n:Nat):Turn P w K tg (Itr lo n) [it] it (fun i h=>IsRangeIter h it (lo + (i:Nat) * 1) ((n:Int) - (i:Nat)) 1) where
  mem:=by simp
  obj:=fun i h st b hb=>by
    have e:b = it:=by simpa using hb
    subst e
    exact ⟨_,st,fun v z=>by
      have z':Data.fields _ = Data.cell v:=z
      cases z'⟩
  keep:=fun i h h' st k=>k it (by simp) _ st
  item:=by
    intro X hP hw hK hc i pins s σ H E I hf st hg
    subst hP hw hK
    obtain ⟨f0,f1,f2,f3,f4,f5⟩:=hf it (by simp)
    have W:=Walks.range (prog:=X.prog) (w:=X.w) (I.ok.hd hc) it lo 1 n
    refine W.item i s _ _ hg st fun v h' tk hv st' kk=>?_
    obtain ⟨t,rfl⟩:=hv
    have I1:Inv X pins σ H { s with heap:=h',toks:=tk }:=I.turned (fun b o hb e=>kk b o (by simpa using hb) e) f0 f1 f3 f4 f5
    refine ⟨_,rfl,go_of (s:={ s with heap:=h',toks:=tk }) (n:="range_iterator") st' rfl rfl (by decide) ⟨.int (lo + i),H,I1,⟨t,?_⟩,⟨rfl,rfl⟩,st',fun b hb=>(hf b hb).1⟩⟩
    rw [Int.mul_one]
  done:=by
    intro X hP hw hK hc i pins s σ H E I hf st hg
    subst hP hw hK
    obtain ⟨f0,f1,f2,f3,f4,f5⟩:=hf it (by simp)
    exact wpAny_pyNext_range_end (I.ok.hd hc) st (by have:n <= i:=hg;omega) fun h' eb=>⟨rfl,I.turned (t':=s.toks) (fun b o hb e=>eb b o hb e) f0 f1 f3 f4 f5⟩
  self:=fun _ _ _ _ _ st h=>wpAny_pyIter_rangeiter st h
end L2

namespace L2
open PySem PySem.Spec PyProof.Rows
section
variable {X:Cx} {tg:Expr}
theorem range_it {pins:List (Addr × Obj)} {σ:St} {H:Hp} {s:Shared} {R:It -> Hp -> Prop} {E:Value -> Shared -> Prop} {lo hi:Int} {t u v:Tok} {tk:Nat} (I:Inv X pins σ H s) (h1:-(2 ^ 62) <= lo) (h2:lo < 2 ^ 62) (h3:-(2 ^ 62) <= hi) (h4:hi < 2 ^ 62)
    (q:R (Itr lo (hi - lo).toNat) H):wpAny (model X.prog X.w) X.A (pyIter (.ref s.heap.objs.size)) (PIE X pins σ tg R) E { s with heap:=s.heap.push { cls:=.type "range",data:=.fields #[.int lo t,.int hi u,.int 1 v] },toks:=tk }:=by
  refine wpAny_pyIter_range (IsRange.new ..) (small_one h1 h2 h3 h4) ?_
  have I1:Inv X pins σ H { s with heap:=s.heap.push { cls:=.type "range",data:=.fields #[.int lo t,.int hi u,.int 1 v] },toks:=tk }:=I.kept fun b o e=>Heap.get?_push_of_some _ e
  refine ⟨(s.heap.push { cls:=.type "range",data:=.fields #[.int lo t,.int hi u,.int 1 v] }).objs.size,[(s.heap.push { cls:=.type "range",data:=.fields #[.int lo t,.int hi u,.int 1 v] }).objs.size],_,_,H,rfl,
    I1.kept (t':=tk) fun b o e=>Heap.get?_push_of_some _ e,turn_range _ lo (hi - lo).toNat,?_,fun b hb=>?_,q⟩
  · have e1:lo + ((0:Nat):Int) * 1 = lo:=by simp
    have e2:(((hi - lo).toNat:Nat):Int) - ((0:Nat):Int) = Builtin.Range.rangeSize lo hi 1:=by rw [rangeSize_one];split<;>omega
    show IsRangeIter _ _ (lo + ((0:Nat):Int) * 1) ((((hi - lo).toNat:Nat):Int) - ((0:Nat):Int)) 1
    rw [e1,e2]
    exact Heap.get?_push_size _ rfl
  · have e:b = (s.heap.push { cls:=.type "range",data:=.fields #[.int lo t,.int hi u,.int 1 v] }).objs.size:=by simpa using hb
    subst e
    exact I1.fpOk (Nat.le_refl _) (I1.hok.fresh (Nat.le_refl _))
noncomputable def iRng1 (ta:TA):TI:=fun σ H R=>ta σ H fun vs H1=>∃ j:Int,vs = [.int j] /\ -(2 ^ 62) <= j /\ j < 2 ^ 62 /\ R (Itr 0 j.toNat) H1
noncomputable def iRng2 (ta:TA):TI:=fun σ H R=>ta σ H fun vs H1=>∃ i j:Int,vs = [.int i,.int j] /\ (-(2 ^ 62) <= i /\ i < 2 ^ 62 /\ -(2 ^ 62) <= j /\ j < 2 ^ 62) /\ R (Itr i (j - i).toNat) H1
theorem pi_range1 {a:Expr} {ta:TA} {p pos:Pos} (hg:Gl X "range") (hm:X.mg "range" = none) (ha:PA X [a] ta) (hs:starEach [a] X.env = [(false,eval a X.env)]:=by rfl):PI X tg (.Call (.Name "range" p) [a] [] pos) (iRng1 ta):=by
  intro pins s σ H R I h
  refine Call_ (ld_blt I hg hm boot_range (PyProof.Rows.callWith_type1 (thn (ha pos pins s σ H _ I h) fun us s1 ⟨vs,H1,I1,r1,q1⟩=>?_) hs rfl))
  obtain ⟨j,e,q1,q2,q⟩:=q1
  subst e
  cases r1 with
  | cons r rr =>
    cases rr
    obtain ⟨t,rfl⟩:=r
    exact call_range_1 (range_it I1 (by omega) (by omega) q1 q2 (by simpa using q))
theorem pi_range2 {a b:Expr} {ta:TA} {p pos:Pos} (hg:Gl X "range") (hm:X.mg "range" = none) (ha:PA X [a,b] ta) (hs:starEach [a,b] X.env = [(false,eval a X.env),(false,eval b X.env)]:=by rfl) (hs2:starEach [b] X.env = [(false,eval b X.env)]:=by rfl) :
    PI X tg (.Call (.Name "range" p) [a,b] [] pos) (iRng2 ta):=by
  intro pins s σ H R I h
  refine Call_ (ld_blt I hg hm boot_range (PyProof.Rows.callWith_type1 (thn (ha pos pins s σ H _ I h) fun us s1 ⟨vs,H1,I1,r1,q1⟩=>?_) (by rw [hs,hs2]) (by rw [hs2];rfl)))
  obtain ⟨i,j,e,⟨q1,q2,q3,q4⟩,q⟩:=q1
  subst e
  cases r1 with
  | cons r rr =>
    cases rr with
    | cons r' rr =>
      cases rr
      obtain ⟨t,rfl⟩:=r
      obtain ⟨t',rfl⟩:=r'
      exact call_range_2 (range_it I1 q1 q2 q3 q4 q)

noncomputable def tFor (wi:TI) (g:TG) (tb:TS):TS:=fun D σ H=>wi σ H fun J H1=>∃ W:Nat -> Nat -> St -> Hp -> Prop,(∃ m,W 0 m σ H1) /\ ∀ i m σ H,W i m σ H ->
  (J.stop i H /\ D.nx σ H) \/ (J.go i H /\ ∃ N:St -> Hp -> Prop,(∀ σ' H',N σ' H' -> ∃ m',m' < m /\ W (i + 1) m' σ' H') /\ ∀ x H',J.yld i H x H' -> g x σ H' fun σ2 H2=>tb { D with nx:=N,ct:=N,bk:=D.nx } σ2 H2)
noncomputable def pinsAt (fp:List Addr) (h:Heap):List (Addr × Obj):=fp.filterMap fun b=>(h.get? b).map fun o=>(b,o)
theorem mem_pinsAt {fp:List Addr} {h:Heap} {b:Addr} {o:Obj} (hb:b ∈ fp) (e:h.get? b = some o):(b,o) ∈ pinsAt fp h:=List.mem_filterMap.mpr ⟨b,hb,by rw [e];rfl⟩
theorem of_pinsAt {fp:List Addr} {h:Heap} {p:Addr × Obj} (hp:p ∈ pinsAt fp h):p.1 ∈ fp /\ h.get? p.1 = some p.2:=by
  obtain ⟨b,hb,e⟩:=List.mem_filterMap.mp hp
  cases q:h.get? b with
  | none=>rw [q] at e;cases e
  | some o =>
    rw [q] at e
    have e':(b,o) = p:=Option.some.inj e
    subst e'
    exact ⟨hb,q⟩
theorem Inv.pinned {pins:List (Addr × Obj)} {σ:St} {H:Hp} {s:Shared} {fp:List Addr} (I:Inv X pins σ H s) (hf:∀ b ∈ fp,FpOk X pins H b) (ho:∀ b ∈ fp,∃ o,s.heap.get? b = some o /\ ∀ v,o.data ≠ .cell v):Inv X (pins ++ pinsAt fp s.heap) σ H s :=
  I.pins_of fun p hp=>(List.mem_append.mp hp).elim (fun z=>I.pin p (List.mem_append_right _ z)) fun z=>by
    obtain ⟨hb,e⟩:=of_pinsAt z
    obtain ⟨f0,f1,f2,_⟩:=hf p.1 hb
    obtain ⟨o,e',d⟩:=ho p.1 hb
    rw [e] at e';cases e'
    exact ⟨e,f0,f1,f2,d⟩
theorem Inv.unpinned {pins pl:List (Addr × Obj)} {σ:St} {H:Hp} {s:Shared} (I:Inv X (pins ++ pl) σ H s):Inv X pins σ H s:=I.pins_of fun p hp=>I.pin p (List.mem_append_right _ (List.mem_append_left _ hp))
theorem ps_for {iter:Expr} {body:List Stmt} {wi:TI} {g:TG} {tb:TS} {pos:Pos} (hp:PassesOwn (model X.prog X.w) X.A X.env X.xe) (hc:X.calm = true) (hi:PI X tg iter wi) (hg:PG X tg g) (hb:PSs X body tb)
    (hs:∀ x,foldedSetIterable iter X.env x = pure x:=by intro _;rfl):PS X (.For tg iter body [] pos) (tFor wi g tb):=by
  intro pins s σ H D I h
  refine wpAny_For (thn (hi pins s σ H _ I h) fun v s1 h1=>thn h1 fun itv s2 h2=>?_) hs
  obtain ⟨it,fp,tn,J,H2,e,I2,T,st2,f2,W,⟨m0,w0⟩,turn⟩:=h2
  subst e
  -- what stays true of the iterator's objects through the loop
  have stat:∀ {H':Hp},(∀ b ∈ fp,H' b = none) -> ∀ b ∈ fp,FpOk X pins H' b:=fun hn b hb=>⟨hn b hb,(f2 b hb).2⟩
  refine codeAny_forLoop_any (fun n s'=>∃ i σ' H',Inv X pins σ' H' s' /\ tn i s'.heap /\ (∀ b ∈ fp,H' b = none) /\ W i n σ' H') ?_ m0 ⟨0,σ,H2,I2,st2,fun b hb=>(f2 b hb).1,w0⟩
  rintro n s3 ⟨i,σ3,H3,I3,st3,fr3,w3⟩
  rcases turn i n σ3 H3 w3 with ⟨stop,qn⟩ | ⟨go,N,hN,step⟩
  · refine wpAny_passesOwn hp (thn (T.done X rfl rfl rfl hc i pins s3 σ3 H3 X.xe I3 (stat fr3) st3 stop) fun r s4 ⟨hr,I4⟩=>?_)
    subst hr
    exact wpAny_execs_nil ⟨σ3,H3,I4,qn⟩
  · refine wpAny_passesOwn hp (thn (T.item X rfl rfl rfl hc i pins s3 σ3 H3 X.xe I3 (stat fr3) st3 go) fun r s4 ⟨u,hr,h4⟩=>?_)
    subst hr
    refine wpAny_passesOwn hp (thn h4 fun _ s5 ⟨x,H5,I5,r5,y5,st5,fr5⟩=>?_)
    have I5':=I5.pinned (stat fr5) (T.obj _ _ st5)
    refine wpAny_passesOwn hp (thn (hg _ s5 σ3 H5 x u _ I5' r5 (step x H5 y5)) fun _ s6 ⟨σ6,H6,I6,q6⟩=>?_)
    refine wpAny_passesOwn hp (thn (hb _ s6 σ6 H6 _ I6 q6) fun f s7 q7=>?_)
    have again:∀ {σ7:St} {H7:Hp},Inv X (pins ++ pinsAt fp s5.heap) σ7 H7 s7 -> N σ7 H7 -> ∃ m,m < n /\ ∃ i σ' H',Inv X pins σ' H' s7 /\ tn i s7.heap /\ (∀ b ∈ fp,H' b = none) /\ W i m σ' H':=fun {σ7 H7} I7 n7=>by
      obtain ⟨m',hm,w7⟩:=hN σ7 H7 n7
      refine ⟨m',hm,i + 1,σ7,H7,I7.unpinned,T.keep _ _ _ st5 fun b hb o e=>(I7.pin (b,o) (List.mem_append_right _ (List.mem_append_right _ (mem_pinsAt hb e)))).1,fun b hb=>?_,w7⟩
      obtain ⟨o,e,d⟩:=T.obj _ _ st5 b hb
      exact (I7.pin (b,o) (List.mem_append_right _ (List.mem_append_right _ (mem_pinsAt hb e)))).2.1
    cases f with
    | next=>obtain ⟨σ7,H7,I7,n7⟩:=q7;exact again I7 n7
    | cont=>obtain ⟨σ7,H7,I7,n7⟩:=q7;exact again I7 n7
    | brk=>obtain ⟨σ7,H7,I7,q7⟩:=q7;exact ⟨σ7,H7,I7.unpinned,q7⟩
    | ret v=>obtain ⟨x7,σ7,H7,I7,r7,q7⟩:=q7;exact ⟨x7,σ7,H7,I7.unpinned,r7,q7⟩
end

end L2

namespace L2
open PySem PySem.Spec PyProof.Rows

noncomputable abbrev R2:=V -> V -> Hp -> VK -> Prop
noncomputable def OpR (X:Cx) (f:Value -> Value -> Sem Value) (r:R2):Prop :=
  ∀ (pins:List (Addr × Obj)) (s:Shared) (σ:St) (H:Hp) (x y:V) (v u:Value) (Q:VK),Inv X pins σ H s -> RelV x v -> RelV y u -> r x y H Q ->
    wpAny (model X.prog X.w) X.A (f v u) (EP X pins σ Q) X.xe s
noncomputable def UnR (X:Cx) (f:Value -> Sem Value) (r:V -> Hp -> VK -> Prop):Prop :=
  ∀ (pins:List (Addr × Obj)) (s:Shared) (σ:St) (H:Hp) (x:V) (v:Value) (Q:VK),Inv X pins σ H s -> RelV x v -> r x H Q ->
    wpAny (model X.prog X.w) X.A (f v) (EP X pins σ Q) X.xe s
noncomputable def CallR (X:Cx) (f:Value) (r:List V -> Hp -> VK -> Prop):Prop :=
  ∀ (pins:List (Addr × Obj)) (s:Shared) (σ:St) (H:Hp) (xs:List V) (us:List Value) (Q:VK),Inv X pins σ H s -> Vals xs us -> r xs H Q ->
    wpAny (model X.prog X.w) X.A (call f us) (EP X pins σ Q) X.xe s
noncomputable def TruR (X:Cx) (r:V -> Hp -> (Bool -> Hp -> Prop) -> Prop):Prop :=
  ∀ (pins:List (Addr × Obj)) (s:Shared) (σ:St) (H:Hp) (x:V) (v:Value) (Q:Bool -> Hp -> Prop),Inv X pins σ H s -> RelV x v -> r x H Q ->
    wpAny (model X.prog X.w) X.A (truthy v) (TP X pins σ Q) X.xe s

noncomputable def tOp (r:R2) (ta tb:TE):TE:=fun σ H Q=>ta σ H fun x H1=>tb σ H1 fun y H2=>r x y H2 Q
noncomputable def tUn (r:V -> Hp -> VK -> Prop) (ta:TE):TE:=fun σ H Q=>ta σ H fun x H1=>r x H1 Q
noncomputable def rI (C:Int -> Int -> Prop) (g:Int -> Int -> V):R2:=fun x y H Q=>∃ i j,x = .int i /\ y = .int j /\ C i j /\ Q (g i j) H
noncomputable def rI0 (g:Int -> Int -> V):R2:=fun x y H Q=>∃ i j,x = .int i /\ y = .int j /\ Q (g i j) H
noncomputable def rU (g:Int -> V):V -> Hp -> VK -> Prop:=fun x H Q=>∃ i,x = .int i /\ Q (g i) H

section
variable {X:Cx} {a b c:Expr} {ta tb tc:TE} {pos:Pos}

theorem binT (ha:PE X a ta) (hb:PE X b tb) {pins:List (Addr × Obj)} {s:Shared} {σ:St} {H:Hp} {R:V -> V -> Hp -> Prop} (I:Inv X pins σ H s)
    (h:ta σ H fun x H1=>tb σ H1 fun y H2=>R x y H2) {Q:Value -> Shared -> Prop} {f:Value -> Value -> Sem Value}
    (hf:∀ v u s2 x y H2,Inv X pins σ H2 s2 -> RelV x v -> RelV y u -> R x y H2 -> wpAny (model X.prog X.w) X.A (f v u) Q X.xe s2) :
    wpAny (model X.prog X.w) X.A (eval a X.env) (fun v s₁=>wpAny (model X.prog X.w) X.A (eval b X.env) (fun u s₂=>wpAny (model X.prog X.w) X.A (f v u) Q X.xe s₂) X.xe s₁) X.xe s:=by
  refine thn (ha pins s σ H _ I h) fun v s1 ⟨x,H1,I1,r1,q1⟩=>?_
  refine thn (hb pins s1 σ H1 _ I1 q1) fun u s2 ⟨y,H2,I2,r2,q2⟩=>?_
  exact hf v u s2 x y H2 I2 r1 r2 q2

theorem pe_op {op:Operator} {r:R2} (ho:OpR X (binaryOp op) r) (ha:PE X a ta) (hb:PE X b tb):PE X (.BinOp a op b pos) (tOp r ta tb):=by
  intro pins s σ H Q I h
  exact wpAny_BinOp (binT ha hb I h fun v u s2 x y H2 I2 rx ry q=>ho pins s2 σ H2 x y v u Q I2 rx ry q)
theorem pe_un {op:UnaryOp} {r:V -> Hp -> VK -> Prop} (ho:UnR X (unaryOp op) r) (ha:PE X a ta):PE X (.UnaryOp op a pos) (tUn r ta):=by
  intro pins s σ H Q I h
  exact UnaryOp_ (thn (ha pins s σ H _ I h) fun v s1 ⟨x,H1,I1,r1,q1⟩=>ho pins s1 σ H1 x v Q I1 r1 q1)
theorem opI {f:Value -> Value -> Sem Value} {C:Int -> Int -> Prop} {g:Int -> Int -> Int}
    (rule:∀ (i j:Int) (t u:Tok) (s:Shared) (Q:Value -> Shared -> Prop) (E:Value -> Shared -> Prop),C i j -> Q (.int (g i j) s.toks) { s with toks:=s.toks + 1 } -> wpAny (model X.prog X.w) X.A (f (.int i t) (.int j u)) Q E s) :
    OpR X f (rI C fun i j=>.int (g i j)):=by
  intro pins s σ H x y v u Q I rx ry h
  obtain ⟨i,j,rfl,rfl,hc,q⟩:=h
  obtain ⟨t,rfl⟩:=rx
  obtain ⟨t',rfl⟩:=ry
  exact rule i j t t' s _ _ hc ⟨.int (g i j),H,I.tok _,⟨_,rfl⟩,q⟩
theorem opI0 {f:Value -> Value -> Sem Value} {g:Int -> Int -> Int}
    (rule:∀ (i j:Int) (t u:Tok) (s:Shared) (Q:Value -> Shared -> Prop) (E:Value -> Shared -> Prop),Q (.int (g i j) s.toks) { s with toks:=s.toks + 1 } -> wpAny (model X.prog X.w) X.A (f (.int i t) (.int j u)) Q E s) :
    OpR X f (rI0 fun i j=>.int (g i j)):=by
  intro pins s σ H x y v u Q I rx ry h
  obtain ⟨i,j,rfl,rfl,q⟩:=h
  obtain ⟨t,rfl⟩:=rx
  obtain ⟨t',rfl⟩:=ry
  exact rule i j t t' s _ _ ⟨.int (g i j),H,I.tok _,⟨_,rfl⟩,q⟩
theorem opB0 {f:Value -> Value -> Sem Value} {g:Int -> Int -> Bool}
    (rule:∀ (i j:Int) (t u:Tok) (s:Shared) (Q:Value -> Shared -> Prop) (E:Value -> Shared -> Prop),Q (.bool (g i j)) s -> wpAny (model X.prog X.w) X.A (f (.int i t) (.int j u)) Q E s) :
    OpR X f (rI0 fun i j=>.bl (g i j)):=by
  intro pins s σ H x y v u Q I rx ry h
  obtain ⟨i,j,rfl,rfl,q⟩:=h
  obtain ⟨t,rfl⟩:=rx
  obtain ⟨t',rfl⟩:=ry
  exact rule i j t t' s _ _ ⟨.bl (g i j),H,I,rfl,q⟩

noncomputable def CDiv (i j:Int):Prop:=0 < j /\ j < 1073741824
noncomputable def CPow (i j:Int):Prop:=0 <= j /\ j <= 1000000 /\ i.natAbs < 2 ^ 64
noncomputable def CMul (i j:Int):Prop:=(-(2 ^ 64) < i /\ i < 2 ^ 64) \/ (-(2 ^ 64) < j /\ j < 2 ^ 64)
theorem CMul.ok {i j:Int} (h:CMul i j):IntMulOk i j:=by
  rcases h with ⟨h1,h2⟩ | ⟨h1,h2⟩
  · exact .of_left (intBits_le_64 h1 h2)
  · exact .of_right (intBits_le_64 h1 h2)
theorem two_pow_nn (k:Nat):(0:Int) <= 2 ^ k:=by
  rw [two_pow_cast]
  exact Int.natCast_nonneg _

theorem op_add:OpR X (binaryOp .Add) (rI0 fun i j=>.int (i + j)):=opI0 fun _ _ _ _ _ _ _ q=>add_int q
theorem op_sub:OpR X (binaryOp .Sub) (rI0 fun i j=>.int (i - j)):=opI0 fun _ _ _ _ _ _ _ q=>sub_int q
theorem op_mul:OpR X (binaryOp .Mult) (rI CMul fun i j=>.int (i * j)):=opI fun _ _ _ _ _ _ _ hc q=>mul_int q hc.ok
theorem op_fdiv:OpR X (binaryOp .FloorDiv) (rI CDiv fun i j=>.int (i / j)):=opI fun i j _ _ _ _ _ hc q=>by
  have h1:(0:Int) < j:=hc.1
  have h2:j < 1073741824:=hc.2
  exact floordiv_int (by omega) (by rw [Int.fdiv_eq_ediv_of_nonneg i (by omega)];exact q) (.inl (PyProof.noPylong_small (by omega)))
theorem op_mod:OpR X (binaryOp .Mod) (rI (fun _ j=>0 < j) fun i j=>.int (i % j)):=opI fun i j _ _ _ _ _ hc q=>by
  have h1:(0:Int) < j:=hc
  exact mod_int' (by omega) (by rw [Int.fmod_eq_emod_of_nonneg i (by omega)];exact q)
theorem op_pow:OpR X (binaryOp .Pow) (rI CPow fun i j=>.int (i ^ j.toNat)):=opI fun _ _ _ _ _ _ _ hc q=>pow_int_small hc.1 hc.2.1 hc.2.2 q
theorem op_shr:OpR X (binaryOp .RShift) (rI (fun _ j=>0 <= j) fun i j=>.int (i / 2 ^ j.toNat)):=opI fun i j _ _ _ _ _ hc q =>
  rshift_int hc (by rw [Int.fdiv_eq_ediv_of_nonneg i (two_pow_nn _)];exact q)
theorem unI {f:Value -> Sem Value} {g:Int -> Int}
    (rule:∀ (i:Int) (t:Tok) (s:Shared) (Q:Value -> Shared -> Prop) (E:Value -> Shared -> Prop),Q (.int (g i) s.toks) { s with toks:=s.toks + 1 } -> wpAny (model X.prog X.w) X.A (f (.int i t)) Q E s) :
    UnR X f (rU fun i=>.int (g i)):=by
  intro pins s σ H x v Q I rx h
  obtain ⟨i,rfl,q⟩:=h
  obtain ⟨t,rfl⟩:=rx
  exact rule i t s _ _ ⟨.int (g i),H,I.tok _,⟨_,rfl⟩,q⟩
theorem un_neg:UnR X (unaryOp .USub) (rU fun i=>.int (-i)):=unI fun _ _ _ _ _ q=>neg_int q
end

section
variable {X:Cx} {a b c:Expr} {ta tb tc:TE} {pos:Pos}
theorem fin_bl {pins:List (Addr × Obj)} {σ:St} {H:Hp} {s:Shared} {Q:VK} {k k':Bool} (I:Inv X pins σ H s) (q:Q (.bl k) H) (e:k = k'):EP X pins σ Q (.bool k') s:=by
  subst e
  exact ⟨.bl k,H,I,rfl,q⟩
theorem op_lt:OpR X (compareOp .Lt) (rI0 fun i j=>.bl (decide (i < j))):=opB0 fun _ _ _ _ _ _ _ q=>lt_int q
theorem op_le:OpR X (compareOp .LtE) (rI0 fun i j=>.bl (decide (i <= j))):=opB0 fun _ _ _ _ _ _ _ q=>le_int q
theorem op_gt:OpR X (compareOp .Gt) (rI0 fun i j=>.bl (decide (j < i))):=opB0 fun _ _ _ _ _ _ _ q=>gt_int q
theorem op_ge:OpR X (compareOp .GtE) (rI0 fun i j=>.bl (decide (j <= i))):=opB0 fun _ _ _ _ _ _ _ q=>ge_int q
theorem op_isN:OpR X (compareOp .Is) (fun x y H Q=>y = .non /\ Q (.bl (decide (x = .non))) H):=by
  intro pins s σ H x y v u Q I rx ry h
  obtain ⟨rfl,q⟩:=h
  cases ry
  refine is_none_gen (fin_bl I q ?_)
  cases x<;>first
    | (cases rx;rfl)
    | (obtain ⟨t,rfl⟩:=rx;rfl)
theorem OpR.or {f:Value -> Value -> Sem Value} {r r':R2} (h:OpR X f r) (h':OpR X f r'):OpR X f (fun x y H Q=>r x y H Q \/ r' x y H Q):=by
  intro pins s σ H x y v u Q I rx ry q
  rcases q with q | q
  · exact h pins s σ H x y v u Q I rx ry q
  · exact h' pins s σ H x y v u Q I rx ry q

theorem nomark (b:Expr) {op:CmpOp} (h:op ≠ .In:=by decide) (h2:op ≠ .NotIn:=by decide):behindInMarks op b = false:=by
  have e1:(op == CmpOp.In) = false:=by cases op<;>first | rfl | exact absurd rfl h
  have e2:(op == CmpOp.NotIn) = false:=by cases op<;>first | rfl | exact absurd rfl h2
  cases b<;>simp [behindInMarks,e1,e2]
theorem pe_cmpR {op:CmpOp} {r:R2} (ho:OpR X (compareOp op) r) (ha:PE X a ta) (hb:PE X b tb) (hm:behindInMarks op b = false):PE X (.Compare a [op] [b] pos) (tOp r ta tb):=by
  intro pins s σ H Q I h
  exact wpAny_Compare1 (binT ha hb I h fun v u s2 x y H2 I2 rx ry q=>ho pins s2 σ H2 x y v u Q I2 rx ry q) hm
noncomputable def tTest (t:TE):TT:=fun σ H Q=>t σ H fun x H'=>∃ k,x = .bl k /\ Q k H'
theorem pt_cmpR {op:CmpOp} {r:R2} (ho:OpR X (compareOp op) r) (ha:PE X a ta) (hb:PE X b tb) (hm:behindInMarks op b = false):PT X (.Compare a [op] [b] pos) (tTest (tOp r ta tb)):=by
  intro pins s σ H Q I h
  refine wpAny_isTrue_Compare1 (thn (ha pins s σ H _ I h) fun v s1 ⟨x,H1,I1,r1,q1⟩=>thn (hb pins s1 σ H1 _ I1 q1) fun u s2 ⟨y,H2,I2,r2,q2⟩ =>
    thn (ho pins s2 σ H2 x y v u _ I2 r1 r2 q2) fun c s3 ⟨z,H3,I3,r3,k,e,q3⟩=>?_) hm
  subst e
  cases r3
  exact wpAny_truthy_bool ⟨H3,I3,q3⟩
noncomputable def TruV (K:PySem.W.Frag) (x:V) (H:Hp) (k:Bool):Prop :=
  match x with
  | .non=>k = false
  | .bl b=>k = b
  | .int i=>k = (i != 0)
  | .str y=>y.length <= sizeLine /\ k = ((y.length:Int) != 0)
  | .byt y=>y.size <= sizeLine /\ k = ((y.size:Int) != 0)
  | .ref p=>(∃ xs,SqL K H p xs /\ k = !xs.isEmpty) \/ (∃ xs,SqT K H p xs /\ k = !xs.isEmpty) \/ ∃ kvs,H p = some (.dK kvs) /\ k = !kvs.isEmpty
  | _=>False
theorem isEmpty_kv {κ:Type} {kvs:List (κ × V)} {vs:List (κ × Value)} (r:KV kvs vs):(!vs.isEmpty) = !kvs.isEmpty:=by
  cases r<;>rfl
theorem isEmpty_of {xs:List V} {its:List Value} (r:Vals xs its):(!its.toArray.isEmpty) = !xs.isEmpty:=by
  cases r<;>simp
theorem line63:(sizeLine:Nat) < 2 ^ 63:=by rw [sizeLine_eq];decide
theorem tru_ok:TruR X (fun x H Q=>∃ k,TruV X.K x H k /\ Q k H):=by
  intro pins s σ H x v Q I rx h
  obtain ⟨k,e,q⟩:=h
  have hl:=line63
  have hs:sizeLine = 16777216:=sizeLine_eq
  cases x with
  | non =>
    cases rx
    have e':k = false:=e
    subst e'
    exact truthy_none ⟨H,I,q⟩
  | bl b =>
    cases rx
    have e':k = b:=e
    subst e'
    exact wpAny_truthy_bool ⟨H,I,q⟩
  | int i =>
    obtain ⟨t,rfl⟩:=rx
    have e':k = (i != 0):=e
    subst e'
    exact PySem.P.truthy_int ⟨H,I,q⟩
  | str y =>
    obtain ⟨t,rfl⟩:=rx
    obtain ⟨hy,e'⟩:y.length <= sizeLine /\ k = ((y.length:Int) != 0):=e
    subst e'
    exact PySem.P.truthy_str (by omega) ⟨H,I.tok _,q⟩
  | byt y =>
    obtain ⟨t,rfl⟩:=rx
    obtain ⟨hy,e'⟩:y.size <= sizeLine /\ k = ((y.size:Int) != 0):=e
    subst e'
    exact PySem.W.truthy_bytes (by omega) ⟨H,I.tok _,q⟩
  | ref p =>
    cases rx
    have e':(∃ xs,SqL X.K H p xs /\ k = !xs.isEmpty) \/ (∃ xs,SqT X.K H p xs /\ k = !xs.isEmpty) \/ ∃ kvs,H p = some (.dK kvs) /\ k = !kvs.isEmpty:=e
    rcases e' with ⟨xs,hx,e'⟩ | ⟨xs,hx,e'⟩ | ⟨kvs,hx,e'⟩
    · subst e'
      obtain ⟨its,r,pl,hz⟩:=I.list hx
      have hlen:=r.length
      exact wpAny_truthy_list pl.isList (by simp only [List.size_toArray];omega) ⟨H,I.tok _,by rw [isEmpty_of r];exact q⟩
    · subst e'
      obtain ⟨its,r,pl,hz⟩:=I.tuple hx
      have hlen:=r.length
      exact truthy_tuple pl (by simp only [List.size_toArray];omega) ⟨H,I.tok _,by rw [isEmpty_of r];exact q⟩
    · subst e'
      obtain ⟨hz,hS,vs,r,m⟩:kvs.length <= sizeLine /\ (p == sysModules) = false /\ ∃ vs,KV kvs vs /\ s.heap.DictOf (mixKind X.prog X.w) p vs:=I.hok p _ hx
      have hlen:kvs.length = vs.length:=Paired.length r
      exact wpAny_truthy_dict hS m (by omega) ⟨H,I.tok _,by rw [isEmpty_kv r];exact q⟩
  | _=>exact (show False from e).elim
theorem pt_truth (ha:PE X a ta) (he:∀ whole,isTrue a X.env whole = (do let v <- whole;standAt a.pos;holding [v] (truthy v))) :
    PT X a (fun σ H Q=>ta σ H fun x H'=>∃ k,TruV X.K x H' k /\ Q k H'):=by
  intro pins s σ H Q I h
  exact isTrue_plain (thn (ha pins s σ H _ I h) fun v s1 ⟨x,H1,I1,r1,q1⟩=>tru_ok pins s1 σ H1 x v Q I1 r1 q1) (he _)

theorem op_add_str:OpR X (binaryOp .Add) (fun x y H Q=>∃ i j,x = .str i /\ y = .str j /\ i.length + j.length <= sizeLine /\ Q (.str (i ++ j)) H):=by
  intro pins s σ H x y v u Q I rx ry h
  obtain ⟨i,j,rfl,rfl,hz,q⟩:=h
  obtain ⟨t,rfl⟩:=rx
  obtain ⟨t',rfl⟩:=ry
  exact add_str (fun t' tk=>⟨.str (i ++ j),H,I.tok _,⟨_,rfl⟩,q⟩) hz
theorem vals1 {x:V} {us:List Value} (r:Vals [x] us):∃ u,us = [u] /\ RelV x u:=by
  cases r with
  | cons r1 r2=>cases r2;exact ⟨_,rfl,r1⟩
theorem vals2 {x y:V} {us:List Value} (r:Vals [x,y] us):∃ u w',us = [u,w'] /\ RelV x u /\ RelV y w':=by
  cases r with
  | cons r1 r2 =>
    cases r2 with
    | cons r3 r4=>cases r4;exact ⟨_,_,rfl,r1,r3⟩
theorem call_abs:CallR X (.builtin "abs") (fun xs H Q=>∃ i,xs = [.int i] /\ Q (.int (if i < 0 then -i else i)) H):=by
  intro pins s σ H xs us Q I r h
  obtain ⟨i,rfl,q⟩:=h
  obtain ⟨u,rfl,t,rfl⟩:=vals1 r
  exact call_abs_int fun u tk=>⟨.int (if i < 0 then -i else i),H,I.tok _,⟨_,rfl⟩,q⟩
theorem call_max2 (hc:X.calm = true):CallR X (.builtin "max") (fun xs H Q=>∃ i j,xs = [.int i,.int j] /\ Q (.int (if j > i then j else i)) H):=by
  intro pins s σ H xs us Q I r h
  obtain ⟨i,j,rfl,q⟩:=h
  obtain ⟨u,w',rfl,⟨t,rfl⟩,⟨t',rfl⟩⟩:=vals2 r
  refine max_two_ints (I.ok.hd hc) fun h' tk k=>⟨_,H,I.kept k,?_,q⟩
  by_cases hj:j > i
  · rw [if_pos hj,if_pos hj];exact ⟨_,rfl⟩
  · rw [if_neg hj,if_neg hj];exact ⟨_,rfl⟩
theorem call_min2 (hc:X.calm = true):CallR X (.builtin "min") (fun xs H Q=>∃ i j,xs = [.int i,.int j] /\ Q (.int (if j < i then j else i)) H):=by
  intro pins s σ H xs us Q I r h
  obtain ⟨i,j,rfl,q⟩:=h
  obtain ⟨u,w',rfl,⟨t,rfl⟩,⟨t',rfl⟩⟩:=vals2 r
  refine min_two_ints (I.ok.hd hc) fun h' tk k=>⟨_,H,I.kept k,?_,q⟩
  by_cases hj:j < i
  · rw [if_pos hj,if_pos hj];exact ⟨_,rfl⟩
  · rw [if_neg hj,if_neg hj];exact ⟨_,rfl⟩
theorem call_int1:CallR X (.type "int") (fun xs H Q=>(∃ i,xs = [.int i] /\ Q (.int i) H) \/ ∃ k,xs = [.bl k] /\ Q (.int (if k then 1 else 0)) H):=by
  intro pins s σ H xs us Q I r h
  rcases h with ⟨i,rfl,q⟩ | ⟨k,rfl,q⟩
  · obtain ⟨u,rfl,t,rfl⟩:=vals1 r
    exact call_int_int ⟨.int i,H,I,⟨_,rfl⟩,q⟩
  · obtain ⟨u,rfl,r1⟩:=vals1 r
    cases r1
    exact call_int_bool ⟨.int (if k then 1 else 0),H,I.tok _,⟨_,rfl⟩,q⟩
end
end L2

namespace L2
open PySem PySem.Spec PyProof.Rows

structure ObjM (h:Heap) (x dx C:Addr) (mA:Str -> Option Value):Prop where
  obj:h.get? x = some (PySem.W.instObj C dx)
  ns:h.Ns1 dx mA
  ne:dx ≠ x

section
variable {prog:Program} {w:World} {A:Around} {E:Value -> Shared -> Prop} {s:Shared} {K:PySem.W.Frag} {x dx C f:Addr} {mA:Str -> Option Value} {name:Str} {v:Value}

end

section
variable {P:Program} {w:World} {H H':Hp} {h h':Heap} {a C dx:Addr} {fs fs':List (Str × V)}
end

structure Cls (K:PySem.W.Frag) (C:Addr):Prop where
  pg:PySem.W.plainGet K C Str.empty = true
  hd:PySem.W.hasDictIn K C = true
  po:PySem.W.plainOver K C = true
  sa:PySem.W.findIn K (.ref C) "__setattr__" = some (some (.builtin "object.__setattr__"))
structure Con (K:PySem.W.Frag) (C:Addr) (f:Str) (v:V) (u:Value):Prop where
  at_:PySem.W.findIn K (.ref C) f = some (some u)
  rel:RelV v u
  get:PySem.W.specialIn K u "__get__" = some none
  cp:PySem.W.copiedNames.contains f = false
structure Meth (K:PySem.W.Frag) (C:Addr) (m:Str) (f:Addr):Prop where
  at_:PySem.W.findIn K (.ref C) m = some (some (.ref f))
  fn:PySem.W.isFn K (.ref f) = true
  kp:PySem.W.keepIn K (.ref f) = true

section
variable {X:Cx} {pins:List (Addr × Obj)} {σ:St} {H:Hp} {s:Shared} {a C dx:Addr} {fs:List (Str × V)} {f:Str} {v:V} {A:Around} {E:Value -> Shared -> Prop}

end

section
variable {X:Cx} {o e value:Expr} {f:Str} {pos pos' tpos:Pos} {ta tv:TE}
noncomputable def rAdd:V -> V -> Hp -> VK -> Prop:=fun x y H Q=>∃ i j,x = .int i /\ y = .int j /\ Q (.int (i + j)) H
end

section
variable {X:Cx} {pins:List (Addr × Obj)} {σ:St} {H:Hp} {s:Shared} {A:Around} {E:Value -> Shared -> Prop} {Q:Value -> Shared -> Prop} {c:Value} {b:Bool}
inductive TyOf (K:PySem.W.Frag) (H:Hp):V -> Value -> Prop where
  | non:TyOf K H .non (.type "NoneType")
  | bl (x:Bool):TyOf K H (.bl x) (.type "bool")
  | int (i:Int):TyOf K H (.int i) (.type "int")
  | str (x:Str):TyOf K H (.str x) (.type "str")
  | flt (x:UInt64):TyOf K H (.flt x) (.type "float")
  | lst {a:Addr} {xs:List V} (e:H a = some (.lst xs)):TyOf K H (.ref a) (.type "list")
  | frz {a:Addr} {o:Obj} {xs:List V} (e:H a = some (.frz o (.lst xs))):TyOf K H (.ref a) (.type "list")
  | tup {a:Addr} {xs:List V} (e:H a = some (.tup xs)):TyOf K H (.ref a) (.type "tuple")
  | dK {a:Addr} {kvs:List (Key × V)} (e:H a = some (.dK kvs)):TyOf K H (.ref a) (.type "dict")
  | dT {a:Addr} {kvs:List (List Key × V)} (e:H a = some (.dT kvs)):TyOf K H (.ref a) (.type "dict")
  | ins {a C dx:Addr} {fs:List (Str × V)} (e:H a = some (.ins C dx fs)) (cl:Cls K C) (ha:PySem.W.findIn K (.ref C) "__class__" = some (some (.builtin "object.__class__")))
      (hn:PySem.W.specialIn K (.builtin "object.__class__") "__get__" = some (some (.builtin "getset_descriptor.__get__"))) (htk:PySem.W.takesIn K (.builtin "object.__class__") = some true)
      (hm:PySem.W.mroIn K C (.type "object") = some true):TyOf K H (.ref a) (.ref C)
end
end L2

namespace L2
open PySem PySem.Spec PyProof.Rows

structure Room (k:Nat) (A:Around):Prop where
  hd:A.handled = none
  dp:A.depth + 3 * k + 5 < recursionLimit
  un:A.units + 16 * k + 200 < cLine
theorem Room.mono {j k:Nat} {A:Around} (r:Room k A) (h:j <= k):Room j A:=⟨r.hd,by have:=r.dp;omega,by have:=r.un;omega⟩
theorem Room.deeper {k:Nat} {A:Around} (r:Room (k + 1) A) (env:Env):Room k (A.deeper env) :=
  ⟨r.hd,by have:=r.dp;show A.depth + 1 + 3 * k + 5 < _;omega,by have:=r.un;show A.units + 3 + 16 * k + 200 < _;omega⟩
theorem Room.depth {k:Nat} {A:Around} (r:Room k A):A.depth < recursionLimit:=by have:=r.dp;omega
noncomputable def tNil:TA:=fun _ H Q=>Q [] H
noncomputable def tCons (ta:TE) (tr:TA):TA:=fun σ H Q=>ta σ H fun x H1=>tr σ H1 fun xs H2=>Q (x :: xs) H2
section
variable {X:Cx} {e:Expr} {es:List Expr} {te:TE} {t:TA} {pos:Pos}
theorem pa_nil:PA X [] tNil:=fun _ _ _ _ H Q I h=>Calls.spliced_nil ⟨[],H,I,.nil,h⟩
theorem pa_cons (ha:PE X e te) (hr:PA X es t) (hs:starEach (e :: es) X.env = (false,eval e X.env) :: starEach es X.env:=by rfl):PA X (e :: es) (tCons te t):=by
  intro pos pins s σ H Q I h
  rw [hs]
  show wpAny _ _ (spliced ((false,eval e X.env) :: backTo pos (starEach es X.env))) _ _ s
  refine Calls.spliced_cons (thn (ha pins s σ H _ I h) fun u s1 ⟨x,H1,I1,r1,q1⟩=>?_)
  exact thn (hr pos pins s1 σ H1 _ I1 q1) fun us s2 ⟨xs,H2,I2,r2,q2⟩=>⟨x :: xs,H2,I2,.cons r1 r2,q2⟩

noncomputable def tTup (t:TA):TE:=fun σ H Q=>t σ H fun xs H1=>xs.length <= sizeLine /\ ∀ p,H1 p = none -> Q (.ref p) (upd H1 p (.tup xs))
noncomputable def tLst (t:TA):TE:=fun σ H Q=>t σ H fun xs H1=>xs.length <= sizeLine /\ ∀ p,H1 p = none -> Q (.ref p) (upd H1 p (.lst xs))
theorem pe_tup {x1} (h:PA X es t):PE X (.Tuple es x1 pos) (tTup t):=by
  intro pins s σ H Q I hq
  refine wpAny_Tuple_spliced (thn (h pos pins s σ H _ I hq) fun us s1 ⟨xs,H1,I1,r,z,q⟩=>⟨by rw [<- r.length];exact z,?_⟩)
  have hf:H1 s1.heap.objs.size = none:=I1.hok.fresh (Nat.le_refl _)
  refine ⟨.ref s1.heap.objs.size,upd H1 s1.heap.objs.size (.tup xs),I1.laid (t':=s1.toks) (fun b u e=>Heap.get?_push_of_some _ e) (Nat.le_refl _) ?_,rfl,q _ hf⟩
  exact ⟨z,us,r,⟨_,Heap.get?_push_size _ rfl,rfl,_,rfl⟩⟩
theorem pe_lst (h:PA X es t):PE X (.List es pos) (tLst t):=by
  intro pins s σ H Q I hq
  refine wpAny_List_spliced (thn (h pos pins s σ H _ I hq) fun us s1 ⟨xs,H1,I1,r,z,q⟩=>⟨by rw [<- r.length];exact z,?_⟩)
  have hf:H1 s1.heap.objs.size = none:=I1.hok.fresh (Nat.le_refl _)
  refine ⟨.ref s1.heap.objs.size,upd H1 s1.heap.objs.size (.lst xs),I1.laid (t':=s1.toks) (fun b u e=>Heap.get?_push_of_some _ e) (Nat.le_refl _) ?_,rfl,q _ hf⟩
  exact ⟨z,us,0,r,Heap.get?_push_size _ rfl⟩
end

noncomputable abbrev Sp:=List V -> Hp -> VK -> XK -> Prop
noncomputable abbrev CXT:=List Env -> Hp -> Shared -> XK -> Value -> Shared -> Prop

structure Env0 (P:Program) (w:World) (K:PySem.W.Frag) (mg:Str -> Option Value) (base:Heap) (A:Around) (outer:List Env) (s:Shared) (H:Hp):Prop where
  frames:A.frames = some outer
  mod:Mod K mg base
  bs:∀ b o,base.get? b = some o -> s.heap.get? b = some o /\ H b = none
  bsz:base.objs.size <= s.heap.objs.size
  funs:s.heap.FunFrames base outer
  frf:∀ b ∈ frs outer,H b = none
  hok:HOk P w H s.heap
  bare:AllBare s.gens
noncomputable def CE (outer:List Env) (P:Program) (w:World) (H:Hp) (s:Shared) (Q:VK) (u:Value) (s':Shared):Prop :=
  ∃ v H',s'.os = s.os /\ AllBare s'.gens /\ Un (frs outer) [] H H' s.heap s'.heap /\ HOk P w H' s'.heap /\ RelV v u /\ Q v H'
noncomputable def CR (CX:CXT) (outer:List Env) (P:Program) (w:World) (H:Hp) (s:Shared) (Q:VK) (E:XK) (r:Result) (s':Shared):Prop :=
  match r with
  | .ok (.ret u)=>CE outer P w H s Q u s'
  | .ok _=>False
  | .error e=>CX outer H s E e s'
structure FnOk (P:Program) (w:World) (K:PySem.W.Frag) (mg:Str -> Option Value) (base:Heap) (CX:CXT) (k:Nat) (f:Addr) (fd:FuncData) (ps:List Str) (sp:Sp):Prop where
  len:∀ vs H Q E,sp vs H Q E -> vs.length = ps.length
  run:∀ (A:Around) (outer:List Env) (s:Shared) (H:Hp) (args:Args) (us:List Value) (vs:List V) (Q:VK) (E:XK),Room k A -> Env0 P w K mg base A outer s H -> BindsTo s fd args (ps.zip us) -> Vals vs us -> sp vs H Q E ->
    codeAny (model P w) A (.call (.ref f) args) (CR CX outer P w H s Q E) s
theorem FnOk.mono {P:Program} {w:World} {K:PySem.W.Frag} {mg:Str -> Option Value} {base:Heap} {CX:CXT} {j k:Nat} {f:Addr} {fd:FuncData} {ps:List Str} {sp:Sp} (F:FnOk P w K mg base CX j f fd ps sp) (h:j <= k) :
    FnOk P w K mg base CX k f fd ps sp:=⟨F.len,fun A outer s H args us vs Q E hr=>F.run A outer s H args us vs Q E (hr.mono h)⟩
theorem FnOk.imp {P:Program} {w:World} {K:PySem.W.Frag} {mg:Str -> Option Value} {base:Heap} {CX:CXT} {k:Nat} {f:Addr} {fd:FuncData} {ps:List Str} {sp sp':Sp} (F:FnOk P w K mg base CX k f fd ps sp)
    (h:∀ vs H Q E,sp' vs H Q E -> sp vs H Q E):FnOk P w K mg base CX k f fd ps sp' :=
  ⟨fun vs H Q E q=>F.len vs H Q E (h _ _ _ _ q),fun A outer s H args us vs Q E hr he hb hv hs=>F.run A outer s H args us vs Q E hr he hb hv (h _ _ _ _ hs)⟩

section
variable {X:Cx} {pins:List (Addr × Obj)} {σ:St} {H:Hp} {s s':Shared}
theorem Inv.env0 (I:Inv X pins σ H s):Env0 X.prog X.w X.K X.mg X.base X.A X.stack s H :=
  ⟨I.ok.frames,I.ok.mod,I.bs,Nat.le_trans I.ok.bsz I.sz,I.stack,I.stkFree,I.hok,I.bare⟩
theorem Inv.after {Q:VK} {u:Value} (I:Inv X pins σ H s) (h:CE X.stack X.prog X.w H s Q u s'):EP X pins σ Q u s':=by
  obtain ⟨v,H',os,bare,un,hok,r,q⟩:=h
  obtain ⟨hh,g,d,t,os'⟩:=s'
  obtain rfl:os' = s.os:=os
  exact ⟨v,H',I.call (h':=hh) (g':=g) (d':=d) (t':=t) (ch:=[]) un hok bare (fun b z=>absurd z (by simp)),r,q⟩
end

noncomputable def tCall (sp:Sp) (dvs:List V) (E:XK) (t:TA):TE:=fun σ H Q=>t σ H fun vs H1=>sp (vs ++ dvs) H1 Q E
noncomputable def Binds (K:PySem.W.Frag) (fd:FuncData) (ps:List Str) (ds:List Value):Prop :=
  ∀ (s:Shared) (us:List Value),K.In s.heap -> (us ++ ds).length = ps.length -> BindsTo s fd ⟨us,[]⟩ (ps.zip (us ++ ds))
theorem Binds.all {K:PySem.W.Frag} {fd:FuncData} {ps:List Str} (h:∀ us:List Value,us.length = ps.length -> bindArgs fd ⟨us,[]⟩ = pure (ps.zip us)):Binds K fd ps []:=fun s us _ hl=>by
  rw [List.append_nil] at hl ⊢
  exact .of_eq (h us hl)

noncomputable def Passes (CX:CXT) (X:Cx) (E:XK):Prop:=∀ (pins:List (Addr × Obj)) (σ:St) (H:Hp) (s:Shared) (e:Value) (s':Shared),Inv X pins σ H s -> CX X.stack H s E e s' -> X.xe e s'

section
variable {X:Cx} {CX:CXT} {k:Nat} {f C:Addr} {fd:FuncData} {ps:List Str} {sp:Sp} {dvs:List V} {ds:List Value} {E:XK} {x m:Str} {p pos apos:Pos} {e o:Expr} {es:List Expr} {ta:TE} {t:TA}

theorem run_fn {pins:List (Addr × Obj)} {σ:St} {H:Hp} {s:Shared} {Q:VK} {us:List Value} {vs:List V} (F:FnOk X.prog X.w X.K X.mg X.base CX k f fd ps sp) (hr:Room k X.A) (hb:Binds X.K fd ps ds) (hd:Vals dvs ds) (hx:Passes CX X E)
    (I:Inv X pins σ H s) (r:Vals vs us) (h:sp (vs ++ dvs) H Q E):wpAny (model X.prog X.w) X.A (call (.ref f) us) (EP X pins σ Q) X.xe s:=by
  have r2:Vals (vs ++ dvs) (us ++ ds):=r.append hd
  have hl:(us ++ ds).length = ps.length:=by rw [<- r2.length];exact F.len _ _ _ _ h
  refine wpAny_call (codeAny_mono (F.run X.A X.stack s H ⟨us,[]⟩ (us ++ ds) (vs ++ dvs) Q E hr I.env0 (hb s us I.kIn hl) r2 h) fun r s' hq=>?_)
  cases r with
  | error e=>exact hx pins σ H s e s' I hq
  | ok fl =>
    cases fl with
    | ret u=>exact I.after hq
    | next=>exact False.elim hq
    | brk=>exact False.elim hq
    | cont=>exact False.elim hq

theorem pe_call (F:FnOk X.prog X.w X.K X.mg X.base CX k f fd ps sp) (hr:Room k X.A) (hg:Gl X x) (hm:X.mg x = some (.ref f)) (hk:PySem.W.keepIn X.K (.ref f) = true) (hb:Binds X.K fd ps ds) (hd:Vals dvs ds) (hx:Passes CX X E)
    (ha:PA X (e :: es) t) (hdb:(x == ("__debug__":Str)) = false:=by decide) (he:starEach (e :: es) X.env = (false,eval e X.env) :: starEach es X.env:=by rfl) (hpl:(backTo pos (starEach es X.env)).any (·.1) = false:=by rfl) :
    PE X (.Call (.Name x p) (e :: es) [] pos) (tCall sp dvs E t):=by
  intro pins s σ H Q I h
  refine wpAny_Call_Name_kw (ld_glob I hg hm ?_ hdb)
  refine PySem.W.callWith_K (h₀:=X.base) I.ok.mod.kin hk (thn (ha pos pins s σ H _ I h) fun us s1 ⟨vs,H1,I1,r,q⟩=>⟨I1.kIn,?_⟩) he hpl
  exact run_fn F hr hb hd hx I1 r q
structure Mk (K:PySem.W.Frag) (C f:Addr):Prop where
  makes:PySem.W.makesIn K C = true
  init:PySem.W.findIn K (.ref C) "__init__" = some (some (.ref f))
  fn:PySem.W.isFn K (.ref f) = true
  kp:PySem.W.keepIn K (.ref C) = true

end

noncomputable def PK (X:Cx) (kws:List Keyword) (t:TA):Prop :=
  ∀ (pos:Pos) (pins:List (Addr × Obj)) (s:Shared) (σ:St) (H:Hp) (Q:List V -> Hp -> Prop),Inv X pins σ H s -> t σ H Q -> wpAny (model X.prog X.w) X.A (evalAll ((backToKw pos (keywordEach kws X.env)).map (·.2))) (AP X pins σ Q) X.xe s
section
variable {X:Cx} {CX:CXT} {k:Nat} {f C:Addr} {fd:FuncData} {ps ks:List Str} {sp:Sp} {E:XK} {x m:Str} {p pos apos kpos:Pos} {e o:Expr} {es:List Expr} {kws:List Keyword} {te ta:TE} {t tk:TA} {nm:Option Str}
theorem pk_nil:PK X [] tNil:=fun _ _ _ _ H Q I h=>wpAny_evalAll_nil ⟨[],H,I,.nil,h⟩
theorem pk_cons (ha:PE X e te) (hr:PK X kws t):PK X (⟨nm,e,kpos⟩ :: kws) (tCons te t):=by
  intro pos pins s σ H Q I h
  show wpAny _ _ (evalAll ((do let v <- eval e X.env;standAt pos;pure v) :: (backToKw pos (keywordEach kws X.env)).map (·.2))) _ _ s
  refine wpAny_evalAll_cons (wpAny_bind (thn (ha pins s σ H _ I h) fun u s1 ⟨x,H1,I1,r1,q1⟩=>wpAny_bind (wpAny_standAt (wpAny_pure ?_))))
  exact thn (hr pos pins s1 σ H1 _ I1 q1) fun us s2 ⟨xs,H2,I2,r2,q2⟩=>⟨x :: xs,H2,I2,.cons r1 r2,q2⟩

structure KBinds (K:PySem.W.Frag) (fd:FuncData) (ps ks:List Str) (g:List Value -> List Value -> List Value) (gV:List V -> List V -> List V):Prop where
  to:∀ (s:Shared) (us ws:List Value),K.In s.heap -> (g us ws).length = ps.length -> BindsTo s fd ⟨us,ks.zip ws⟩ (ps.zip (g us ws))
  rel:∀ {vs:List V} {us:List Value} {zs:List V} {ws:List Value},Vals vs us -> Vals zs ws -> Vals (gV vs zs) (g us ws)
variable {g:List Value -> List Value -> List Value} {gV:List V -> List V -> List V}
end

structure FnScope (N P:List Str) (sc:Scope):Prop where
  kind:sc.kind = .function
  co:sc.isCoroutine = false
  gen:sc.isGenerator = false
  nd:N.Nodup
  pre:N.take P.length = P
  par:∀ x ∈ P,sc.names.lookup x = some .local \/ sc.names.lookup x = some .cell
  nofree:∀ y ∈ sc.names,y.2 ≠ .free

theorem bindL_out {kindOf:Str -> Option NameKind} {x:Str}:∀ {binds:List (Str × Value)} {m:Str -> Option Value},(∀ v,(x,v) ∉ binds) -> bindL kindOf binds m x = m x
  | [],_,_=>rfl
  | (n,v) :: r,m,h=>by
    unfold bindL
    rw [bindL_out fun w hw=>h w (List.mem_cons_of_mem _ hw)]
    split
    · have:x ≠ n:=by rintro rfl;exact h v List.mem_cons_self
      simp [this]
    · rfl
theorem bindC_out {kindOf:Str -> Option NameKind} {x:Str}:∀ {binds:List (Str × Value)} {m:Str -> Option Value},(∀ v,(x,v) ∉ binds) -> bindC kindOf binds m x = m x
  | [],_,_=>rfl
  | (n,v) :: r,m,h=>by
    unfold bindC
    rw [bindC_out fun w hw=>h w (List.mem_cons_of_mem _ hw)]
    split
    · rfl
    · have:x ≠ n:=by rintro rfl;exact h v List.mem_cons_self
      simp [this]
theorem bindL_get {kindOf:Str -> Option NameKind} {x:Str} {v:Value}:∀ {P:List Str} {vs:List Value} {i:Nat} {m:Str -> Option Value},P.Nodup -> P[i]? = some x -> vs[i]? = some v -> kindOf x = some .local ->
    bindL kindOf (P.zip vs) m x = some v
  | [],_,_,_,_,h,_,_=>by simp at h
  | _ :: _,[],_,_,_,_,h,_=>by simp at h
  | p :: P,w :: vs,0,m,nd,h1,h2,hk=>by
    simp at h1 h2;subst h1;subst h2
    show bindL kindOf ((p,w) :: P.zip vs) m p = _
    unfold bindL
    rw [bindL_out fun v hv=>(List.nodup_cons.mp nd).1 (List.of_mem_zip hv).1,if_pos hk]
    simp
  | p :: P,w :: vs,i + 1,m,nd,h1,h2,hk=>by
    show bindL kindOf ((p,w) :: P.zip vs) m x = _
    unfold bindL
    exact bindL_get (i:=i) (List.nodup_cons.mp nd).2 (by simpa using h1) (by simpa using h2) hk
theorem bindC_get {kindOf:Str -> Option NameKind} {x:Str} {v:Value}:∀ {P:List Str} {vs:List Value} {i:Nat} {m:Str -> Option Value},P.Nodup -> P[i]? = some x -> vs[i]? = some v -> kindOf x ≠ some .local ->
    bindC kindOf (P.zip vs) m x = some v
  | [],_,_,_,_,h,_,_=>by simp at h
  | _ :: _,[],_,_,_,_,h,_=>by simp at h
  | p :: P,w :: vs,0,m,nd,h1,h2,hk=>by
    simp at h1 h2;subst h1;subst h2
    show bindC kindOf ((p,w) :: P.zip vs) m p = _
    unfold bindC
    rw [bindC_out fun v hv=>(List.nodup_cons.mp nd).1 (List.of_mem_zip hv).1,if_neg hk]
    simp
  | p :: P,w :: vs,i + 1,m,nd,h1,h2,hk=>by
    show bindC kindOf ((p,w) :: P.zip vs) m x = _
    unfold bindC
    exact bindC_get (i:=i) (List.nodup_cons.mp nd).2 (by simpa using h1) (by simpa using h2) hk

noncomputable def start (N:List Str) (vs:List V):St:=vs.map some ++ List.replicate (N.length - vs.length) none

noncomputable def cxOf (CX:CXT) (P:Program) (w:World) (K:PySem.W.Frag) (mg:Str -> Option Value) (base:Heap) (N:List Str) (qual:Str) (scope:Scope) (f:Addr) (cd:Value) (A:Around) (outer:List Env) (s:Shared) (H:Hp) (E:XK):Cx where
  prog:=P
  w:=w
  K:=K
  mg:=mg
  base:=base
  A:=A.deeper (envOfC qual scope s.heap.objs.size f cd)
  N:=N
  s₀:=s
  H₀:=H
  env:=envOfC qual scope s.heap.objs.size f cd
  outer:=outer
  stack:=envOfC qual scope s.heap.objs.size f cd :: outer
  ex:=[]
  calm:=true
  fn:=fun _=>true
  pn:=[]
  xe:=fun e s'=>wpAny (model P w) (A.deeper (envOfC qual scope s.heap.objs.size f cd)) (leaving (envOfC qual scope s.heap.objs.size f cd) e) (fun _ s''=>CX outer H s E e s'') (fun e' s''=>CX outer H s E e' s'') s'

theorem cell_has {sc:Scope} {n:Nat} {x:Str} (h:sc.names.lookup x = some .cell):∃ c,(cellsFrom n sc.names []).lookup x = some c:=by
  have q:=PySem.W.cellsFrom_some sc.names n [] (.inl h)
  exact Option.isSome_iff_exists.mp q

theorem inv_start {CX:CXT} {P:Program} {w:World} {K:PySem.W.Frag} {mg:Str -> Option Value} {base:Heap} {N ps:List Str} {qual:Str} {scope:Scope} {f:Addr} {cd:Value} {A:Around} {outer:List Env} {s s1:Shared} {H:Hp} {E:XK} {us:List Value} {vs:List V}
    (S:FnScope N ps scope) (hd:A.handled = none) (e0:Env0 P w K mg base A outer s H) (hl:vs.length = ps.length) (r:Vals vs us)
    (x:InCallC s s.heap.objs.size (bindL (envOfC qual scope s.heap.objs.size f cd).kindOf (ps.zip us) fun _=>none) (cellsFrom (s.heap.objs.size + 1) scope.names []) (bindC (envOfC qual scope s.heap.objs.size f cd).kindOf (ps.zip us) fun _=>none) s1) :
    Inv (cxOf CX P w K mg base N qual scope f cd A outer s H E) [] (start N vs) H s1:=by
  have hpl:ps.length <= N.length:=by have:=congrArg List.length S.pre;rw [List.length_take] at this;omega
  obtain ⟨h1,tk,rfl,hk⟩:=x.done
  have noA:∀ b:Addr,b ∉ (cxOf CX P w K mg base N qual scope f cd A outer s H E).ex:=fun b z=>absurd (show b ∈ ([]:List Addr) from z) (by simp)
  refine ⟨⟨e0.mod,S.kind,rfl,rfl,Nat.le_refl _,fun y z c h1 h2=>?_,fun y hy=>?_,fun y c _ h=>?_,fun _=>hd,Around.frames_deeper e0.frames,.inr ⟨rfl,rfl⟩,fun b z=>absurd z (noA b),e0.bs,e0.bsz,fun b _ _=>noA b,fun b z=>absurd z (noA b),e0.funs,e0.frf⟩,
    rfl,e0.bare,Un.kept hk,⟨_,x.toInCall.ns,fun i y v h1 h2 h3=>?_⟩,fun y c h=>⟨_,x.cell y c h⟩,e0.hok.fresh (Nat.le_refl _),fun y c h=>?_,fun p hp=>absurd (show p ∈ ([]:List (Addr × Obj)) from hp) (by simp),e0.hok.kept hk,?_⟩
  · exact name_of_addr x.apart (PySem.mem_of_lookup h1) (PySem.mem_of_lookup h2)
  · have hy:scope.names.lookup y = some .cell \/ scope.names.lookup y = some .free:=hy
    rcases hy with hy | hy
    · exact cell_has hy
    · exact absurd rfl (S.nofree _ (PySem.mem_of_lookup hy))
  · exact Nat.le_of_lt (x.above y c (PySem.mem_of_lookup h))
  · have hi:i < vs.length:=by
      unfold start at h2
      by_cases hi:i < vs.length
      · exact hi
      · rw [List.getElem?_append_right (by simpa using hi)] at h2
        rw [List.getElem?_replicate] at h2
        split at h2<;>cases h2
    have ha:vs[i]? = some v:=by
      unfold start at h2
      rw [List.getElem?_append_left (by simpa using hi),List.getElem?_map] at h2
      cases e:vs[i]? with
      | none=>rw [e] at h2;cases h2
      | some a=>rw [e] at h2;cases h2;rfl
    obtain ⟨u,hu,rv⟩:=r.get ha
    have hp:ps[i]? = some y:=by
      rw [<- S.pre,List.getElem?_take_of_lt (by omega)];exact h1
    have ndP:ps.Nodup:=by rw [<- S.pre];exact S.nd.sublist (List.take_sublist _ _)
    refine ⟨u,rv,?_⟩
    rcases S.par y (List.mem_of_getElem? hp) with k | k
    · exact .inl ⟨k,bindL_get ndP hp hu k⟩
    · obtain ⟨c,e⟩:=cell_has (n:=s.heap.objs.size + 1) k
      refine .inr ⟨.inl k,c,e,?_⟩
      have q:=x.cell y c e
      rw [bindC_get ndP hp hu (by show scope.names.lookup y ≠ _;rw [k];decide)] at q
      exact q
  · exact e0.hok.fresh (Nat.le_of_lt (x.above y c (PySem.mem_of_lookup h)))
  · unfold start
    show _ = N.length
    rw [List.length_append,List.length_map,List.length_replicate]
    omega

theorem fn_of {CX:CXT} {P:Program} {w:World} {K:PySem.W.Frag} {mg:Str -> Option Value} {base:Heap} {k:Nat} {f:Addr} {name qual:Str} {params:Arguments} {body:List Stmt} {scope:Scope} {dV kV doc pm cdv ct oc:Value} {an od:Option Addr}
    {osl:Array (Option Value)} {N ps:List Str} {sp:Sp} (lk:K.lookup f = some ⟨oc,od,.func (PySem.W.fnOf name qual params body scope dV kV doc pm an cdv ct),osl⟩) (hcd:PySem.W.codeIn K cdv qual = true) (S:FnScope N ps scope)
    (len:∀ vs H Q E,sp vs H Q E -> vs.length = ps.length)
    (hbody:∀ (A:Around) (outer:List Env) (s:Shared) (H:Hp) (vs:List V) (Q:VK) (E:XK),Room k (A.deeper (envOfC qual scope s.heap.objs.size f cdv)) -> sp vs H Q E ->
      ∃ t,PSs (cxOf CX P w K mg base N qual scope f cdv A outer s H E) body t /\ t { nx:=fun _ H'=>Q .non H',rt:=Q } (start N vs) H) :
    FnOk P w K mg base CX (k + 1) f (PySem.W.fnOf name qual params body scope dV kV doc pm an cdv ct) ps sp:=by
  refine ⟨len,fun A outer s H args us vs Q E hr e0 hb r hsp=>?_⟩
  have hl:=len _ _ _ _ hsp
  have KX:K.In s.heap:=e0.mod.kin.keeps fun b o e=>(e0.bs b o e).1
  have lim:s.heap.NoLimit:=e0.mod.nolimit.keeps fun b o e=>(e0.bs b o e).1
  have hkind:∀ y ∈ ps.zip us,scope.names.lookup y.1 = some .local \/ (scope.names.lookup y.1 = some .cell /\ ((cellsFrom (s.heap.objs.size + 1) scope.names []).lookup y.1).isSome = true):=fun ⟨n,v⟩ hy=>by
    rcases S.par n (List.of_mem_zip hy).1 with q | q
    · exact .inl q
    · exact .inr ⟨q,PySem.W.cellsFrom_some _ _ _ (.inl q)⟩
  refine codeAny_call_function hr.depth (KX _ _ lk) rfl S.co S.gen rfl (PySem.W.codeRec_of KX hcd) (hb _ _ _ _ ?_)
  refine wpAny_newFunctionEnv_cells S.kind hkind fun env he s1 x=>?_
  subst he
  refine ⟨lim.keeps x.toInCall.keep,codeAny_func ?_⟩
  obtain ⟨t,ht,hq⟩:=hbody A outer s H vs Q E (hr.deeper _) hsp
  have I:Inv (cxOf CX P w K mg base N qual scope f cdv A outer s H E) [] (start N vs) H s1:=inv_start S hr.hd e0 hl r x
  refine wpAny_mono (ht [] s1 (start N vs) H _ I hq) (fun fl s' hs=>?_) fun e s' hs=>hs
  have fin:∀ {σ':St} {H':Hp} {v:V} {u:Value},Inv (cxOf CX P w K mg base N qual scope f cdv A outer s H E) [] σ' H' s' -> RelV v u -> Q v H' -> CE outer P w H s Q u s' :=
    fun {σ' H' v u} J rv q=>⟨v,H',J.os,J.bare,J.base,J.hok,rv,q⟩
  cases fl with
  | ret u =>
    obtain ⟨v,σ',H',J,rv,q⟩:=hs
    exact fin J rv q
  | next =>
    obtain ⟨σ',H',J,q⟩:=hs
    exact fin (v:=V.non) (u:=Value.none) J rfl q
  | brk =>
    obtain ⟨_,_,_,q⟩:=hs
    exact False.elim q
  | cont =>
    obtain ⟨_,_,_,q⟩:=hs
    exact False.elim q
end L2

namespace L2
open PySem PySem.Spec PyProof.Rows
section
variable {X:Cx} {x:Str} {p pos:Pos} {e:Expr} {es:List Expr} {t:TA} {id T:String} {r:List V -> Hp -> VK -> Prop}

noncomputable def tCB (r:List V -> Hp -> VK -> Prop) (t:TA):TE:=fun σ H Q=>t σ H fun vs H1=>r vs H1 Q
theorem pe_callB (hc:CallR X (.builtin id) r) (hg:Gl X x) (hm:X.mg x = none) (hv:bootBuiltins x = some (.builtin id)) (ha:PA X (e :: es) t) (hn:x ≠ "__name__":=by decide) (hdb:(x == ("__debug__":Str)) = false:=by decide)
    (he:starEach (e :: es) X.env = (false,eval e X.env) :: starEach es X.env:=by rfl) (hpl:(backTo pos (starEach es X.env)).any (·.1) = false:=by rfl):PE X (.Call (.Name x p) (e :: es) [] pos) (tCB r t):=by
  intro pins s σ H Q I h
  refine wpAny_Call_Name_kw (ld_blt I hg hm hv ?_ hn hdb)
  exact PyProof.Rows.callWith_builtin1 (thn (ha pos pins s σ H _ I h) fun us s1 ⟨vs,H1,I1,r1,q1⟩=>hc pins s1 σ H1 vs us Q I1 r1 q1) he hpl
theorem pe_callTy (hc:CallR X (.type T) r) (hg:Gl X x) (hm:X.mg x = none) (hv:bootBuiltins x = some (.type T)) (ha:PA X (e :: es) t) (hn:x ≠ "__name__":=by decide) (hdb:(x == ("__debug__":Str)) = false:=by decide)
    (he:starEach (e :: es) X.env = (false,eval e X.env) :: starEach es X.env:=by rfl) (hpl:(backTo pos (starEach es X.env)).any (·.1) = false:=by rfl):PE X (.Call (.Name x p) (e :: es) [] pos) (tCB r t):=by
  intro pins s σ H Q I h
  refine wpAny_Call_Name_kw (ld_blt I hg hm hv ?_ hn hdb)
  exact PyProof.Rows.callWith_type1 (thn (ha pos pins s σ H _ I h) fun us s1 ⟨vs,H1,I1,r1,q1⟩=>hc pins s1 σ H1 vs us Q I1 r1 q1) he hpl
end
end L2

namespace HT
open PySem PyProof.Rows

noncomputable def lexLt:List Int -> List Int -> Bool
  | [],[]=>false
  | [],_ :: _=>true
  | _ :: _,[]=>false
  | x :: xs,y :: ys=>if x = y then lexLt xs ys else decide (x < y)
theorem lexLt_cons (x y:Int) (xs ys:List Int):lexLt (x :: xs) (y :: ys) = if x = y then lexLt xs ys else decide (x < y):=rfl
theorem lexLt_nil_nil:lexLt [] [] = false:=rfl
theorem lexLt_nil_cons (y:Int) (ys:List Int):lexLt [] (y :: ys) = true:=rfl
theorem lexLt_cons_nil (x:Int) (xs:List Int):lexLt (x :: xs) [] = false:=rfl

theorem eqAt_int (A:Around) (s:Shared) (a:Int) (t:Tok) (c:Int) (u:Tok):∃ e,SeqAt.EqAt A s (.int a t) (.int c u) e /\ (e = true ↔ a = c) :=
  ⟨(a == c),SeqAt.EqAt.int_int a t c u,by simp⟩
theorem rcLt_int (A:Around) (s:Shared) (a:Int) (t:Tok) (c:Int) (u:Tok) (prog:Program) (w:World) (E:Value -> Shared -> Prop) (Q:Value -> Shared -> Prop) (h:Q (.bool (decide (a < c))) s) :
    wpAny (model prog w) A (richCompare .Lt (.int a t) (.int c u)) Q E s :=
  (PyProof.Rows.lt_int h:wpAny (model prog w) A (compareOp .Lt (.int a t) (.int c u)) Q E s)

section
open PySem.SeqAt
open PySem.AutoSeq1 (wpAny_loadPart')
open PySem.MeetsSeq PySem.MeetsSeq2 PySem.MeetsSeq3

theorem tuple_lt_ints (l b:Addr) (items items2:Array Value) (n n2:Nat) (dd dd2:Option Addr) (sl sl2:Array (Option Value)) (ns ms:List Int) (hi:IntsAre items.toList ns) (hj:IntsAre items2.toList ms) :
    Meets (Builtin.«tuple.__lt__» ⟨[.ref l,.ref b],[]⟩)
      (fun _ R s=>s.heap.get? l = some { cls:=.type "tuple",dict:=dd,data:=.seq items n,slots:=sl } /\ s.heap.get? b = some { cls:=.type "tuple",dict:=dd2,data:=.seq items2 n2,slots:=sl2 } /\
        R (.ok (.ret (.bool (lexLt ns ms)))) s) :=
  .of_wp fun prog w A R s h=>by
    obtain ⟨hp,g,d,tk,os⟩:=s;obtain ⟨hl,hb,h⟩:=h
    have f2:=AutoSeq1.sub_tuple_tuple
    have z1:items.size = ns.length:=by rw [<- hi.length];simp
    have z2:items2.size = ms.length:=by rw [<- hj.length];simp
    wp_walk using wpAny_loadPart' hl,wpAny_loadPart' hb,wpAny_forIn_list _ (fun rest b s'=>b.1 = none /\ s' = ⟨hp,g,d,tk,os⟩ /\ ∃ (vs ws:List Value) (ns' ms':List Int),rest = vs.zip ws /\
      IntsAre vs ns' /\ IntsAre ws ms' /\ ns'.length + items2.size = ms'.length + items.size /\ R (.ok (.ret (.bool (lexLt ns' ms')))) ⟨hp,g,d,tk,os⟩) _
    case turn =>
      rintro ⟨y,x⟩ rest b s' ⟨hb',rfl,vs,ws,ns',ms',hz,hvi,hwi,hlen,hR⟩
      cases hvi with
      | nil=>rw [List.zip_nil_left] at hz;cases hz
      | cons a t hvi' =>
        cases hwi with
        | nil=>rw [List.zip_nil_right] at hz;cases hz
        | cons c u hwi' =>
          rw [List.zip_cons_cons] at hz
          injection hz with hyx hrest
          injection hyx with hy hx
          subst hy hx
          rw [lexLt_cons] at hR
          simp only [List.length_cons] at hlen
          obtain ⟨e,he,hiff⟩:=eqAt_int A.in1 ⟨hp,g,d,tk,os⟩ a t c u
          refine wpAny_bind (he prog w _ _ ?_)
          cases e with
          | true =>
            rw [if_pos (hiff.mp rfl)] at hR
            wp_walk
            exact ⟨rfl,rfl,_,_,_,_,hrest,hvi',hwi',by omega,hR⟩
          | false =>
            rw [if_neg (fun q=>absurd (hiff.mpr q) Bool.false_ne_true)] at hR
            have hri:=rcLt_int A.in1 ⟨hp,g,d,tk,os⟩ a t c u prog w
            wp_walk using hri
            exact ⟨_,rfl,by simpa using hR⟩
    case fin =>
      rintro ⟨b1,b2⟩ s' ⟨hb',rfl,vs,ws,ns',ms',hz,hvi,hwi,hlen,hR⟩
      simp only at hb'
      subst hb'
      have hv:lexLt ns' ms' = decide (items.size < items2.size):=by
        cases hvi with
        | nil =>
          cases hwi with
          | nil =>
            simp only [List.length_nil] at hlen
            rw [lexLt_nil_nil]
            exact (decide_eq_false (by omega)).symm
          | cons c u hw =>
            simp only [List.length_nil,List.length_cons] at hlen
            rw [lexLt_nil_cons]
            exact (decide_eq_true (by omega)).symm
        | cons a t hv =>
          cases hwi with
          | nil =>
            simp only [List.length_nil,List.length_cons] at hlen
            rw [lexLt_cons_nil]
            exact (decide_eq_false (by omega)).symm
          | cons c u hw =>
            rw [List.zip_cons_cons] at hz
            cases hz
      rw [hv] at hR
      wp_walk
      exact ⟨_,rfl,by simpa [Builtin.Tuple.tupleCompareSizes] using hR⟩
    case h =>
      exact ⟨rfl,rfl,items.toList,items2.toList,ns,ms,rfl,hi,hj,by omega,h⟩
end

section
variable {prog:Program} {w:World} {A:Around} {E:Value -> Shared -> Prop} {s:Shared}

theorem lt_tupInts {l b:Addr} {items items2:Array Value} {ns ms:List Int} {Q:Value -> Shared -> Prop} (hl:IsTup s.heap l items) (hb:IsTup s.heap b items2) (hi:IntsAre items.toList ns) (hj:IntsAre items2.toList ms)
    (hu:A.units < cLine) (h:Q (.bool (lexLt ns ms)) s):wpAny (model prog w) A (compareOp .Lt (.ref l) (.ref b)) Q E s:=by
  obtain ⟨⟨cls,dd,data,sl⟩,ho,hc,n,hd⟩:=id hl
  obtain ⟨⟨cls2,dd2,data2,sl2⟩,ho2,hc2,n2,hd2⟩:=id hb
  simp only at hc hd hc2 hd2
  subst hc hd hc2 hd2
  exact richCompare_meets_room (op:=.Lt) ⟨_,ho,rfl⟩ ⟨_,ho2,rfl⟩ PySem.F.slot_tuple_lt PySem.F.entry_tuple_lt (PySem.F.args_tuple_lt_2 _ _) (tuple_lt_ints l b items items2 n n2 dd dd2 sl sl2 ns ms hi hj)
    ⟨ho,ho2,show Value.bool (lexLt ns ms) ≠ Value.notImplemented /\ Q (.bool (lexLt ns ms)) s from ⟨(fun x=>nomatch x),h⟩⟩ hu

theorem cat_tup {t b:Addr} {vs ws:List Value} {Q:Value -> Shared -> Prop} (ht:IsTup s.heap t vs.toArray) (hb:IsTup s.heap b ws.toArray) (hv:vs ≠ [])
    (h1:ws = [] -> Q (.ref t) s) (h2:ws ≠ [] -> Q (.ref s.heap.objs.size) { s with heap:=s.heap.push { cls:=.type "tuple",data:=.seq (vs ++ ws).toArray } })
    (hsz:vs.length + ws.length <= sizeLine):wpAny (model prog w) A (binaryOp .Add (.ref t) (.ref b)) Q E s:=by
  obtain ⟨⟨cls,dd,data,sl⟩,ho,hc,n,hd⟩:=id ht
  obtain ⟨⟨cls2,dd2,data2,sl2⟩,ho2,hc2,n2,hd2⟩:=id hb
  simp only at hc hd hc2 hd2
  subst hc hd hc2 hd2
  have e:vs.toArray ++ ws.toArray = (vs ++ ws).toArray:=by simp
  by_cases hw:ws = []
  · exact concat_meets ⟨_,ho,rfl⟩ ⟨_,ho2,rfl⟩ noFill_tuple_add seq_tuple_add PySem.F.slot_tuple_add PySem.F.entry_tuple_add (PySem.F.args_tuple_add_2 _ _)
      (tuple_addW1 t b vs.toArray ws.toArray n n2 dd dd2 sl sl2 (by simpa using hv) (by simp [hw])) ⟨ho,ho2,h1 hw⟩
  · refine concat_meets ⟨_,ho,rfl⟩ ⟨_,ho2,rfl⟩ noFill_tuple_add seq_tuple_add PySem.F.slot_tuple_add PySem.F.entry_tuple_add (PySem.F.args_tuple_add_2 _ _)
      (tuple_addW2 t b vs.toArray ws.toArray n n2 dd dd2 sl sl2 (by simpa using hv) (by simpa using hw) (by rw [List.size_toArray,List.size_toArray];exact hsz)) ⟨ho,ho2,?_⟩
    rw [e]
    exact h2 hw

noncomputable def sIx (n d:Nat):Option Int -> Nat
  | none=>d
  | some v=>if v < 0 then (v + (n:Int)).toNat else min v.toNat n
theorem sIx_le (n d:Nat) (hd:d <= n) (o:Option Int):sIx n d o <= n:=by
  cases o with
  | none=>exact hd
  | some v =>
    show (if v < 0 then (v + (n:Int)).toNat else min v.toNat n) <= n
    by_cases hv:v < 0
    · rw [if_pos hv];omega
    · rw [if_neg hv];exact Nat.min_le_right _ _
theorem clip_eq (v:Int) (n d:Nat):(if v < 0 then max (v + (n:Int)) 0 else min v (n:Int)) = ((sIx n d (some v):Nat):Int):=by
  show (if v < 0 then max (v + (n:Int)) 0 else min v (n:Int)) = (((if v < 0 then (v + (n:Int)).toNat else min v.toNat n):Nat):Int)
  by_cases hv:v < 0
  · simp only [if_pos hv];omega
  · simp only [if_neg hv];omega
theorem adjust_gen (lo hi:Option Int) (n:Nat):Builtin.Slice.sliceAdjust lo hi 1 (n:Int) = (((sIx n 0 lo:Nat):Int),((sIx n n hi:Nat):Int)):=by
  have h1:¬ ((1:Int) < 0):=by omega
  unfold Builtin.Slice.sliceAdjust
  simp only [h1,if_false]
  refine Prod.ext ?_ ?_
  · cases lo with
    | none=>rfl
    | some v=>exact clip_eq v n 0
  · cases hi with
    | none=>rfl
    | some v=>exact clip_eq v n n
theorem places_gen (i j:Nat):Builtin.Slice.slicePlaces (i:Int) (j:Int) 1 = j - i:=by
  unfold Builtin.Slice.slicePlaces
  have h1:(1:Int) > 0:=by omega
  simp only [h1,if_true,Int.ediv_one]
  split<;>omega
theorem slicePart_ {v:Value} {o:Option Int} {Q:Option Int -> Shared -> Prop} (p:IsPart v o) (h:Q o s):wpAny (model prog w) A (Builtin.Slice.slicePartIndex v) Q E s:=by
  cases p with
  | none=>exact slicePart_none h
  | int i t=>exact slicePart_int h
theorem sliceApplied_gen {sl:Addr} {vl vu:Value} {lo hi:Option Int} {n:Nat} {Q:Int × Int × Nat -> Shared -> Prop} (hs:s.heap.IsSliceOf sl vl vu .none) (pl:IsPart vl lo) (pu:IsPart vu hi)
    (h:Q (((sIx n 0 lo:Nat):Int),1,sIx n n hi - sIx n 0 lo) s):wpAny (model prog w) A (Builtin.Slice.sliceApplied (.ref sl) (pure (n:Int))) Q E s:=by
  obtain ⟨os,hos,hcs,hds⟩:=id hs
  unfold Builtin.Slice.sliceApplied Builtin.Slice.sliceFields
  refine wpAny_bind (wpAny_bind (wpAny_field hos hds (x:=vl) rfl (wpAny_bind (wpAny_field hos hds (x:=vu) rfl (wpAny_bind (wpAny_field hos hds (x:=.none) rfl (wpAny_pure ?_)))))))
  refine wpAny_bind (slicePart_none ?_)
  show wpAny _ _ (if ((1:Int) == 0) = true then _ else _) _ _ s
  rw [if_neg (by decide)]
  refine wpAny_bind (slicePart_ pl (wpAny_bind (slicePart_ pu (wpAny_bind (wpAny_pure ?_)))))
  show wpAny _ _ (match Builtin.Slice.sliceAdjust lo hi 1 (n:Int) with | (lo,hi)=>pure (lo,(1:Int),Builtin.Slice.slicePlaces lo hi 1)) _ _ s
  rw [adjust_gen lo hi n]
  show wpAny _ _ (pure (((sIx n 0 lo:Nat):Int),(1:Int),Builtin.Slice.slicePlaces ((sIx n 0 lo:Nat):Int) ((sIx n n hi:Nat):Int) 1)) _ _ s
  rw [places_gen]
  exact wpAny_pure h
theorem pick_gen (xs:Array Value) (i k:Nat):((List.range k).filterMap fun (m:Nat)=>xs[((i:Int) + (m:Int) * 1).toNat]?).toArray = ((xs.toList.drop i).take k).toArray:=by
  have e:(fun (m:Nat)=>xs[((i:Int) + (m:Int) * 1).toNat]?) = fun m=>xs[i + m]?:=by
    funext m
    have:((i:Int) + (m:Int) * 1).toNat = i + m:=by omega
    rw [this]
  rw [e]
  have:=pick_run xs i k
  rw [List.filterMap_map] at this
  have e2:((fun x=>xs[x]?) ∘ fun x=>i + x) = fun m=>xs[i + m]?:=rfl
  rw [e2] at this
  rw [this]

theorem getItem_tuple_cut {t sl:Addr} {items:Array Value} {vl vu:Value} {lo hi:Option Int} {Q:Value -> Shared -> Prop} (ht:IsTup s.heap t items) (hs:s.heap.IsSliceOf sl vl vu .none) (pl:IsPart vl lo) (pu:IsPart vu hi)
    (hw:¬ (sIx items.size 0 lo = 0 /\ sIx items.size items.size hi = items.size))
    (h:Q (.ref s.heap.objs.size) { s with heap:=s.heap.push { cls:=.type "tuple",data:=.seq ((items.toList.drop (sIx items.size 0 lo)).take (sIx items.size items.size hi - sIx items.size 0 lo)).toArray } })
    (hsz:items.size <= sizeLine):wpAny (model prog w) A (getItem (.ref t) (.ref sl)) Q E s:=by
  have htake:sizeOk (.seq ((items.toList.drop (sIx items.size 0 lo)).take (sIx items.size items.size hi - sIx items.size 0 lo)).toArray):=by
    show ((items.toList.drop (sIx items.size 0 lo)).take (sIx items.size items.size hi - sIx items.size 0 lo)).toArray.size <= sizeLine
    rw [List.size_toArray,List.length_take,List.length_drop,Array.length_toList]
    omega
  have hj:sIx items.size items.size hi <= items.size:=sIx_le _ _ (Nat.le_refl _) hi
  obtain ⟨os,hos,hcs,hds⟩:=id hs
  have hTs:s.TypeIs (.ref sl) "slice":=⟨os,hos,hcs⟩
  unfold getItem
  try with_reducible refine wpAny_holding ?_
  first | refine wpAny_bind (wpAny_pure ?_) | skip
  refine wpAny_bind (wpAny_sequenceKey ht.typeIs (by decide) ?_)
  refine wpAny_bind (wpAny_callSpecial?_slot (name:=Str.ofString "__getitem__") ht.typeIs PyProof.Rows.slot_tuple_getitem
    (wpAny_call_entry PyProof.Rows.slot_tuple_getitem ht.typeIs entry_tuple_getitem ?_ (args_tuple_getitem _ _)))
  show wpAny _ _ (Builtin.Tuple.tupleItemsOf (.ref t) >>= _) _ _ s
  refine wpAny_bind (tupleItemsOf_ ht ?_)
  refine wpAny_bind (wpAny_typeOf hTs ?_)
  rw [if_pos (by decide)]
  refine wpAny_bind (sliceApplied_gen hs pl pu ?_)
  have hno:¬ ((((sIx items.size 0 lo:Nat):Int) == 0 && (1:Int) == 1 && (sIx items.size items.size hi - sIx items.size 0 lo) == items.size) = true):=by
    intro q
    rw [Bool.and_eq_true,Bool.and_eq_true] at q
    have q1:((sIx items.size 0 lo:Nat):Int) = 0:=eq_of_beq q.1.1
    have q2:sIx items.size items.size hi - sIx items.size 0 lo = items.size:=eq_of_beq q.2
    exact hw ⟨by omega,by omega⟩
  show wpAny _ _ (if (((sIx items.size 0 lo:Nat):Int) == 0 && (1:Int) == 1 && (sIx items.size items.size hi - sIx items.size 0 lo) == items.size) = true then _ else _) _ _ s
  rw [if_neg hno,pick_gen]
  first
    | exact wpAny_bind (m:=Builtin.Tuple.tupleExact _) (wpAny_newObj_type (wpAny_pure ⟨_,rfl,wpAny_pure h⟩) htake)
    | exact wpAny_bind (m:=Builtin.Tuple.tupleExact _) (wpAny_newObj_type (wpAny_bind (wpAny_pure (wpAny_pure ⟨_,rfl,wpAny_pure h⟩))) htake)
    | exact wpAny_bind (wpAny_bind (m:=Builtin.Tuple.tupleExact _) (wpAny_newObj_type (wpAny_pure (wpAny_pure ⟨_,rfl,wpAny_pure h⟩)) htake))
    | exact wpAny_bind (wpAny_bind (m:=Builtin.Tuple.tupleExact _) (wpAny_newObj_type (wpAny_pure ⟨_,rfl,wpAny_pure h⟩) htake))
end
end HT

namespace L2
open PySem PySem.Spec PyProof.Rows

noncomputable abbrev TO:=St -> Hp -> (Option Int -> Hp -> Prop) -> Prop
noncomputable def PO (X:Cx) (e:Option Expr) (t:TO):Prop :=
  ∀ (pins:List (Addr × Obj)) (s:Shared) (σ:St) (H:Hp) (Q:Option Int -> Hp -> Prop),Inv X pins σ H s -> t σ H Q ->
    wpAny (model X.prog X.w) X.A (evalPart e X.env) (fun u s'=>∃ o H',Inv X pins σ H' s' /\ IsPart u o /\ Q o H') X.xe s
noncomputable def tNoPart:TO:=fun _ H Q=>Q none H
noncomputable def tPart (t:TE):TO:=fun σ H Q=>t σ H fun x H1=>∃ i,x = .int i /\ Q (some i) H1

theorem intsAre_of {ns:List Int}:∀ {us:List Value},Vals (ns.map V.int) us -> IntsAre us ns:=by
  induction ns with
  | nil=>intro us r;rw [List.map_nil] at r;cases r;exact .nil
  | cons n ns ih =>
    intro us r
    rw [List.map_cons] at r
    cases r with
    | cons r1 r2 =>
      obtain ⟨t,e⟩:=r1
      subst e
      exact .cons n t (ih r2)

section
variable {X:Cx} {e:Expr} {te:TE} {lo hi:Option Expr} {tl th:TO} {pos p2:Pos}

theorem po_none:PO X none tNoPart:=by
  intro pins s σ H Q I h
  rw [evalPart_none]
  exact wpAny_pure ⟨none,H,I,.none,h⟩
theorem po_some (h:PE X e te):PO X (some e) (tPart te):=by
  intro pins s σ H Q I hw
  rw [evalPart_some]
  refine thn (h pins s σ H _ I hw) fun u s1 ⟨x,H1,I1,r1,q1⟩=>?_
  obtain ⟨i,rfl,q⟩:=q1
  obtain ⟨t,rfl⟩:=r1
  exact ⟨some i,H1,I1,.int i t,q⟩

noncomputable def SlR (X:Cx) (r:V -> Option Int -> Option Int -> Hp -> VK -> Prop):Prop :=
  ∀ (pins:List (Addr × Obj)) (s:Shared) (σ:St) (H:Hp) (x:V) (v vl vu:Value) (lo hi:Option Int) (sl:Addr) (Q:VK),Inv X pins σ H s -> RelV x v -> s.heap.IsSliceOf sl vl vu .none -> IsPart vl lo -> IsPart vu hi -> r x lo hi H Q ->
    ∃ T id,typeLookup (.type T) "__getitem__" = pure (some (.builtin id)) /\ s.TypeIs v T /\ wpAny (model X.prog X.w) X.A (getItem v (.ref sl)) (EP X pins σ Q) X.xe s
theorem SlR.or {r r':V -> Option Int -> Option Int -> Hp -> VK -> Prop} (h:SlR X r) (h':SlR X r'):SlR X (fun x lo hi H Q=>r x lo hi H Q \/ r' x lo hi H Q):=by
  intro pins s σ H x v vl vu lo hi sl Q I rx hs pl pu q
  rcases q with q | q
  · exact h pins s σ H x v vl vu lo hi sl Q I rx hs pl pu q
  · exact h' pins s σ H x v vl vu lo hi sl Q I rx hs pl pu q
noncomputable def tSl (r:V -> Option Int -> Option Int -> Hp -> VK -> Prop) (te:TE) (tl th:TO):TE:=fun σ H Q=>te σ H fun x H1=>tl σ H1 fun l H2=>th σ H2 fun u H3=>r x l u H3 Q
theorem pe_slice {r:V -> Option Int -> Option Int -> Hp -> VK -> Prop} (hr:SlR X r) (he:PE X e te) (hl:PO X lo tl) (hu:PO X hi th):PE X (.Subscript e (.Slice lo hi none p2) pos) (tSl r te tl th):=by
  intro pins s σ H Q I h
  refine Subscript_ (thn (he pins s σ H _ I h) fun v s1 ⟨x,H1,I1,r1,q1⟩=>?_)
  refine wpAny_Slice (thn (hl pins s1 σ H1 _ I1 q1) fun vl s2 ⟨l,H2,I2,pl,q2⟩=>thn (hu pins s2 σ H2 _ I2 q2) fun vu s3 ⟨u,H3,I3,pu,q3⟩=>?_)
  rw [evalPart_none]
  refine wpAny_pure ?_
  have I4:Inv X pins σ H3 { s3 with heap:=s3.heap.push { cls:=.type "slice",data:=.fields #[vl,vu,.none] } }:=I3.kept (t':=s3.toks) fun b ob q=>Heap.get?_push_of_some _ q
  obtain ⟨T,id,hT,ht,hg⟩:=hr pins { s3 with heap:=s3.heap.push { cls:=.type "slice",data:=.fields #[vl,vu,.none] } } σ H3 x v vl vu l u s3.heap.objs.size Q I4 r1 (Heap.IsSliceOf.new ..) pl pu q3
  show wpAny (model X.prog X.w) X.A (subscriptTail e (.Slice lo hi none p2) v (.ref s3.heap.objs.size)) (EP X pins σ Q) X.xe { s3 with heap:=s3.heap.push { cls:=.type "slice",data:=.fields #[vl,vu,.none] } }
  exact tail_any (ops:=[.ref s3.heap.objs.size,v]) ht hT hg (by with_unfolding_all rfl)

noncomputable def cutV (xs:List V) (lo hi:Option Int):List V:=(xs.drop (HT.sIx xs.length 0 lo)).take (HT.sIx xs.length xs.length hi - HT.sIx xs.length 0 lo)
theorem cutV_length (xs:List V) (lo hi:Option Int):(cutV xs lo hi).length <= xs.length:=by
  unfold cutV
  rw [List.length_take,List.length_drop]
  omega
noncomputable def rSlT (K:PySem.W.Frag):V -> Option Int -> Option Int -> Hp -> VK -> Prop:=fun x lo hi H Q=>∃ a xs,x = .ref a /\ SqT K H a xs /\
  ¬ (HT.sIx xs.length 0 lo = 0 /\ HT.sIx xs.length xs.length hi = xs.length) /\ ∀ p,H p = none -> Q (.ref p) (upd H p (.tup (cutV xs lo hi)))
theorem sl_tup:SlR X (rSlT X.K):=by
  intro pins s σ H x v vl vu lo hi sl Q I rx hs pl pu h
  obtain ⟨a,xs,rfl,hx,hw,q⟩:=h
  cases rx
  obtain ⟨its,r,ht,hz⟩:=I.tuple hx
  have hlen:its.toArray.size = xs.length:=by rw [List.size_toArray];exact r.length.symm
  refine ⟨"tuple",_,PyProof.Rows.slot_tuple_getitem.lookup,ht.typeIs,?_⟩
  refine HT.getItem_tuple_cut ht hs pl pu (by rw [hlen];exact hw) ?_ (by rw [hlen];exact hz)
  rw [hlen]
  refine ⟨.ref s.heap.objs.size,_,I.laid (t':=s.toks) (o:=.tup (cutV xs lo hi)) (fun b ob q=>Heap.get?_push_of_some _ q) (Nat.le_refl _) ?_,rfl,q _ (I.hok.fresh (Nat.le_refl _))⟩
  exact ⟨Nat.le_trans (cutV_length xs lo hi) hz,_,(r.drop (HT.sIx xs.length 0 lo)).take (HT.sIx xs.length xs.length hi - HT.sIx xs.length 0 lo),IsTup.new _ _⟩

noncomputable def rCatT (K:PySem.W.Frag):R2:=fun x y H Q=>∃ a b xs ys,x = .ref a /\ y = .ref b /\ SqT K H a xs /\ SqT K H b ys /\ xs ≠ [] /\ xs.length + ys.length <= sizeLine /\
  (ys = [] -> Q (.ref a) H) /\ (ys ≠ [] -> ∀ p,H p = none -> Q (.ref p) (upd H p (.tup (xs ++ ys))))
theorem Vals.nil_iff {xs:List V} {us:List Value} (r:Vals xs us):us = [] ↔ xs = []:=by
  cases r with
  | nil=>simp
  | cons _ _=>simp
theorem op_catT:OpR X (binaryOp .Add) (rCatT X.K):=by
  intro pins s σ H x y v u Q I rx ry h
  obtain ⟨a,b,xs,ys,rfl,rfl,ha,hb,hx,hz,q1,q2⟩:=h
  cases rx
  cases ry
  obtain ⟨its,r1,p1,_⟩:=I.tuple ha
  obtain ⟨its2,r2,p2,_⟩:=I.tuple hb
  refine HT.cat_tup p1 p2 (fun z=>hx (r1.nil_iff.mp z)) (fun z=>⟨.ref a,H,I,rfl,q1 (r2.nil_iff.mp z)⟩) (fun z=>?_) (by rw [<- r1.length,<- r2.length];exact hz)
  refine ⟨.ref s.heap.objs.size,_,I.laid (t':=s.toks) (o:=.tup (xs ++ ys)) (fun b ob q=>Heap.get?_push_of_some _ q) (Nat.le_refl _) ?_,rfl,q2 (fun w=>z (r2.nil_iff.mpr w)) _ (I.hok.fresh (Nat.le_refl _))⟩
  exact ⟨by rw [List.length_append];exact hz,_,r1.append r2,IsTup.new _ _⟩
end
end L2

namespace L2
open PySem PySem.Spec PyProof.Rows

noncomputable def ixN (n:Nat) (i:Int):Option Nat:=if 0 <= i then (if i < n then some i.toNat else none) else if -(n:Int) <= i then some (i + n).toNat else none
noncomputable def atI {α:Type} (xs:List α) (i:Int):Option α:=(ixN xs.length i).bind fun j=>xs[j]?
theorem ixN_seq {n:Nat} {i:Int} {j:Nat} (h:ixN n i = some j):seqIndex? i n = some j /\ j < n /\ -(n:Int) <= i /\ i < n:=by
  unfold ixN at h
  by_cases h0:0 <= i
  · rw [if_pos h0] at h
    by_cases h1:i < n
    · rw [if_pos h1] at h
      have e:i.toNat = j:=Option.some.inj h
      exact ⟨by rw [seqIndex_of h0 h1,e],by omega,by omega,h1⟩
    · rw [if_neg h1] at h;cases h
  · rw [if_neg h0] at h
    by_cases h1:-(n:Int) <= i
    · rw [if_pos h1] at h
      have e:(i + n).toNat = j:=Option.some.inj h
      exact ⟨by rw [seqIndex_neg (by omega) h1,e],by omega,h1,by omega⟩
    · rw [if_neg h1] at h;cases h
theorem atI_get {α:Type} {xs:List α} {i:Int} {v:α} (h:atI xs i = some v):∃ j,seqIndex? i xs.length = some j /\ xs[j]? = some v /\ j < xs.length /\ -(xs.length:Int) <= i /\ i < xs.length:=by
  unfold atI at h
  cases e:ixN xs.length i with
  | none=>rw [e] at h;cases h
  | some j =>
    rw [e] at h
    obtain ⟨h1,h2,h3,h4⟩:=ixN_seq e
    exact ⟨j,h1,h,h2,h3,h4⟩
noncomputable def PlainIx (b:Expr):Prop:=∀ o i,subscripted b false o i = operate [o,i] (getItem o i)
noncomputable def IxR (X:Cx) (r:R2):Prop :=
  ∀ (value slice:Expr) (pins:List (Addr × Obj)) (s:Shared) (σ:St) (H:Hp) (x y:V) (v u:Value) (Q:VK),Inv X pins σ H s -> RelV x v -> RelV y u -> r x y H Q ->
    subscripted slice false v u = operate [v,u] (getItem v u) -> wpAny (model X.prog X.w) X.A (subscriptTail value slice v u) (EP X pins σ Q) X.xe s
noncomputable def MtR (X:Cx) (id:String) (r:V -> List V -> Hp -> VK -> Prop):Prop :=
  ∀ (pins:List (Addr × Obj)) (s:Shared) (σ:St) (H:Hp) (x:V) (xs:List V) (v:Value) (us:List Value) (Q:VK),Inv X pins σ H s -> RelV x v -> Vals xs us -> r x xs H Q ->
    wpAny (model X.prog X.w) X.A (call (.builtin id) (v :: us)) (EP X pins σ Q) X.xe s
section
variable {X:Cx} {a b:Expr} {ta tb:TE} {pos:Pos}
theorem IxR.or {r r':R2} (h:IxR X r) (h':IxR X r'):IxR X (fun x y H Q=>r x y H Q \/ r' x y H Q):=by
  intro value slice pins s σ H x y v u Q I rx ry q hs
  rcases q with q | q
  · exact h value slice pins s σ H x y v u Q I rx ry q hs
  · exact h' value slice pins s σ H x y v u Q I rx ry q hs
theorem pe_ix {r:R2} (hr:IxR X r) (ha:PE X a ta) (hb:PE X b tb) (hs:PlainIx b):PE X (.Subscript a b pos) (tOp r ta tb):=by
  intro pins s σ H Q I h
  exact Subscript_ (binT ha hb I h fun v u s2 x y H2 I2 rx ry q=>hr a b pins s2 σ H2 x y v u Q I2 rx ry q (hs _ _))

noncomputable def rIxL (K:PySem.W.Frag):R2:=fun x y H Q=>∃ p xs i v,x = .ref p /\ y = .int i /\ SqL K H p xs /\ atI xs i = some v /\ Q v H
noncomputable def rIxT (K:PySem.W.Frag):R2:=fun x y H Q=>∃ p xs i v,x = .ref p /\ y = .int i /\ SqT K H p xs /\ atI xs i = some v /\ Q v H
noncomputable def rIxS:R2:=fun x y H Q=>∃ z i c,x = .str z /\ y = .int i /\ z.length <= sizeLine /\ atI z.cps.toList i = some c /\ Q (.str ⟨#[c]⟩) H
theorem ix_list:IxR X (rIxL X.K):=by
  intro value slice pins s σ H x y v u Q I rx ry h hs
  obtain ⟨p,xs,i,z,rfl,rfl,hq,he,q⟩:=h
  cases rx
  obtain ⟨t,rfl⟩:=ry
  obtain ⟨its,r,pl,hz⟩:=I.list hq
  obtain ⟨j,h1,h2,h3,h4,h5⟩:=atI_get he
  obtain ⟨w,ew,rw'⟩:=r.get h2
  have hl:=r.length
  have hn:=line63
  have fin:EP X pins σ Q w s:=⟨z,H,I,rw',q⟩
  by_cases h0:0 <= i
  · have hj:i.toNat = j:=by
      rw [seqIndex_of h0 h5] at h1
      exact Option.some.inj h1
    exact item_listR pl.isList h0 (by omega) (by rw [hj];simpa using ew) fin hs
  · have hj:(i + (its.toArray.size:Int)).toNat = j:=by
      rw [seqIndex_neg (by omega) h4] at h1
      rw [List.size_toArray,<- hl]
      exact Option.some.inj h1
    exact subscriptTail_builtinR (x:=w) pl.isList.typeIs slot_list_getitem.lookup
      (wpAny_getItem_list_neg (Q:=fun r s'=>r = w /\ EP X pins σ Q r s') pl.isList (by omega) (by rw [List.size_toArray]<;>omega) (by omega) (by rw [hj];simpa using ew) ⟨rfl,fin⟩) hs
theorem ix_tup:IxR X (rIxT X.K):=by
  intro value slice pins s σ H x y v u Q I rx ry h hs
  obtain ⟨p,xs,i,z,rfl,rfl,hq,he,q⟩:=h
  cases rx
  obtain ⟨t,rfl⟩:=ry
  obtain ⟨its,r,pl,hz⟩:=I.tuple hq
  obtain ⟨j,h1,h2,h3,h4,h5⟩:=atI_get he
  obtain ⟨w,ew,rw'⟩:=r.get h2
  have hl:=r.length
  have hn:=line63
  have fin:EP X pins σ Q w s:=⟨z,H,I,rw',q⟩
  exact subscriptTail_builtinR (x:=w) pl.typeIs slot_tuple_getitem.lookup
    (getItem_tuple (j:=j) (Q:=fun r s'=>r = w /\ EP X pins σ Q r s') pl (by omega) (by omega) (by rw [List.size_toArray,<- hl];exact h1) (by simpa using ew) ⟨rfl,fin⟩) hs
theorem ix_str:IxR X rIxS:=by
  intro value slice pins s σ H x y v u Q I rx ry h hs
  obtain ⟨z,i,c,rfl,rfl,hz,he,q⟩:=h
  obtain ⟨t,rfl⟩:=rx
  obtain ⟨t',rfl⟩:=ry
  obtain ⟨j,h1,h2,h3,h4,h5⟩:=atI_get he
  have hl:z.cps.toList.length = z.length:=by simp [Str.length]
  rw [hl] at h1 h4 h5
  have hn:=line63
  exact tail_any (typeIs_str s z t) slot_str_getitem.lookup (getItem_str (c:=c) (by
    have e1:decide (i < -(2 ^ 63:Int)) = false:=decide_eq_false (by omega)
    have e2:decide (i >= 2 ^ 63) = false:=decide_eq_false (by omega)
    rw [e1,e2,Bool.or_false]) (by rw [h1];simpa using h2) ⟨.str ⟨#[c]⟩,H,I.tok _,⟨_,rfl⟩,q⟩) hs
noncomputable def rIx (K:PySem.W.Frag):R2:=fun x y H Q=>rIxL K x y H Q \/ rIxT K x y H Q \/ rIxS x y H Q
theorem ix_seq:IxR X (rIx X.K):=ix_list.or (ix_tup.or ix_str)

theorem mapSeq_set (its:List Value) (n j:Nat) (u:Value):Obj.mapSeq (·.setIfInBounds j u) { cls:=.type "list",data:=.seq its.toArray n } = { cls:=.type "list",data:=.seq (its.set j u).toArray n }:=by
  simp [Obj.mapSeq]
theorem Inv.lst {pins:List (Addr × Obj)} {σ:St} {H:Hp} {s:Shared} {p:Addr} {xs:List V} (I:Inv X pins σ H s) (h:H p = some (.lst xs)) :
    ∃ (its:List Value) (n:Nat),Vals xs its /\ s.heap.get? p = some { cls:=.type "list",data:=.seq its.toArray n } /\ xs.length <= sizeLine:=by
  obtain ⟨z,its,n,r,e⟩:=I.hok p _ h
  exact ⟨its,n,r,e,z⟩
theorem Inv.lstUpd {pins:List (Addr × Obj)} {σ:St} {H:Hp} {s:Shared} {p:Addr} {xs ys:List V} {its its':List Value} {n n':Nat} {f:Obj -> Obj} (I:Inv X pins σ H s) (h:H p = some (.lst xs))
    (ho:s.heap.get? p = some { cls:=.type "list",data:=.seq its.toArray n }) (hf:f { cls:=.type "list",data:=.seq its.toArray n } = { cls:=.type "list",data:=.seq its'.toArray n' }) (r:Vals ys its') (hz:ys.length <= sizeLine) (t:Nat) :
    Inv X pins σ (upd H p (.lst ys)) { s with heap:=s.heap.update p f,toks:=t }:=by
  have e:(s.heap.update p f).get? p = some { cls:=.type "list",data:=.seq its'.toArray n' }:=by
    rw [Heap.get?_update_self f ho (by rw [hf]<;>rfl),hf]
  refine I.write (x:=p) (e:=p) (by rw [h];trivial) (.inl rfl) (fun b u hb q=>(Heap.get?_update_other _ _ (Ne.symm hb)).trans q) ⟨_,e⟩ ?_
  exact ⟨hz,its',n',r,e⟩
noncomputable def rSetL:V -> V -> V -> Hp -> (Hp -> Prop) -> Prop:=fun o i v H Q=>∃ p xs k j,o = .ref p /\ i = .int k /\ H p = some (.lst xs) /\ ixN xs.length k = some j /\ Q (upd H p (.lst (xs.set j v)))
theorem set_list:PSet X rSetL:=by
  intro pins s σ H o i v ov iv u Q I ro ri rv h
  obtain ⟨p,xs,k,j,rfl,rfl,hp,hj,q⟩:=h
  cases ro
  obtain ⟨t,rfl⟩:=ri
  obtain ⟨its,n,r,ho,hz⟩:=I.lst hp
  obtain ⟨h1,h2,h3,h4⟩:=ixN_seq hj
  have hl:=r.length
  have hn:=line63
  have I':Inv X pins σ (upd H p (.lst (xs.set j v))) { s with heap:=s.heap.update p (Obj.mapSeq (·.setIfInBounds j u)) } :=
    I.lstUpd hp ho (mapSeq_set its n j u) (r.set rv j) (by rw [List.length_set];exact hz) s.toks
  by_cases h0:0 <= k
  · have hk:k.toNat = j:=by
      rw [seqIndex_of h0 h4] at h1
      exact Option.some.inj h1
    exact PySem.W.ki_setAt ho h0 (by omega) (by rw [List.size_toArray,<- hl];exact h4) (by rw [hk];exact ⟨_,I',q⟩)
  · have hk:(k + (its.toArray.size:Int)).toNat = j:=by
      rw [seqIndex_neg (by omega) h3] at h1
      rw [List.size_toArray,<- hl]
      exact Option.some.inj h1
    exact PySem.W.ki_setBack ho (by omega) (by rw [List.size_toArray,<- hl];exact h3) (by omega) (by rw [hk];exact ⟨_,I',q⟩)

theorem slice_bounds (lo hi:Option Int) (n:Nat):(sliceBounds lo hi none n).1 = ((HT.sIx n 0 lo:Nat):Int) /\ (sliceBounds lo hi none n).2.1 = ((HT.sIx n n hi:Nat):Int) /\ (sliceBounds lo hi none n).2.2 = 1:=by
  refine ⟨?_,?_,rfl⟩
  · cases lo with
    | none=>simp [sliceBounds,HT.sIx]
    | some i =>
      simp only [sliceBounds,HT.sIx,Option.getD_none,show (1:Int) > 0 by decide,if_true]
      by_cases h:i < 0
      · simp only [h,if_true]<;>omega
      · simp only [h,if_false]<;>omega
  · cases hi with
    | none=>simp [sliceBounds,HT.sIx]
    | some i =>
      simp only [sliceBounds,HT.sIx,Option.getD_none,show (1:Int) > 0 by decide,if_true]
      by_cases h:i < 0
      · simp only [h,if_true]<;>omega
      · simp only [h,if_false]<;>omega
theorem slicePick_cut (its:List Value) (lo hi:Option Int):slicePick its.toArray lo hi none = ((its.drop (HT.sIx its.length 0 lo)).take (HT.sIx its.length its.length hi - HT.sIx its.length 0 lo)).toArray:=by
  obtain ⟨h1,h2,h3⟩:=slice_bounds lo hi its.toArray.size
  unfold slicePick
  rw [h1,h2,h3]
  simp only [sliceRange_one,pick_run,List.size_toArray]<;>rfl
noncomputable def rSlL (K:PySem.W.Frag):V -> Option Int -> Option Int -> Hp -> VK -> Prop:=fun x lo hi H Q=>∃ a xs,x = .ref a /\ SqL K H a xs /\ ∀ p,H p = none -> Q (.ref p) (upd H p (.lst (cutV xs lo hi)))
theorem sl_list:SlR X (rSlL X.K):=by
  intro pins s σ H x v vl vu lo hi sl Q I rx hs pl pu h
  obtain ⟨a,xs,rfl,hx,q⟩:=h
  cases rx
  obtain ⟨its,r,ht,hz⟩:=I.list hx
  have hlen:=r.length
  refine ⟨"list",_,slot_list_getitem.lookup,ht.isList.typeIs,?_⟩
  refine wpAny_getItem_list_slice ht.isList hs pl pu .none (by simp) ?_ (by rw [List.size_toArray]<;>omega)
  rw [slicePick_cut,<- hlen]
  refine ⟨.ref s.heap.objs.size,_,I.laid (t':=s.toks) (o:=.lst (cutV xs lo hi)) (fun b ob q=>Heap.get?_push_of_some _ q) (Nat.le_refl _) ?_,rfl,q _ (I.hok.fresh (Nat.le_refl _))⟩
  exact ⟨Nat.le_trans (cutV_length xs lo hi) hz,_,0,(r.drop (HT.sIx xs.length 0 lo)).take (HT.sIx xs.length xs.length hi - HT.sIx xs.length 0 lo),Heap.get?_push_size _ rfl⟩

theorem call_len_seq:CallR X (.builtin "len") (fun xs H Q=>∃ p ys,xs = [.ref p] /\ (SqL X.K H p ys \/ SqT X.K H p ys) /\ Q (.int ys.length) H):=by
  intro pins s σ H xs us Q I r h
  obtain ⟨p,ys,rfl,hq,q⟩:=h
  obtain ⟨u,rfl,rx⟩:=vals1 r
  cases rx
  have hn:=line63
  rcases hq with hq | hq
  · obtain ⟨its,r',pl,hz⟩:=I.list hq
    have hlen:=r'.length
    exact Calls.call_len_list pl.isList (by simp only [List.size_toArray]<;>omega) ⟨.int ys.length,H,I.tok _,⟨s.toks + 1,by rw [List.size_toArray,hlen]⟩,q⟩
  · obtain ⟨its,r',pl,hz⟩:=I.tuple hq
    have hlen:=r'.length
    exact len_tuple pl (by simp only [List.size_toArray]<;>omega) ⟨.int ys.length,H,I.tok _,⟨s.toks + 1,by rw [List.size_toArray,hlen]⟩,q⟩
theorem call_len_str:CallR X (.builtin "len") (fun xs H Q=>∃ z,xs = [.str z] /\ z.length <= sizeLine /\ Q (.int z.length) H):=by
  intro pins s σ H xs us Q I r h
  obtain ⟨z,rfl,hz,q⟩:=h
  obtain ⟨u,rfl,t,rfl⟩:=vals1 r
  have hn:=line63
  exact len_str (by omega) ⟨.int z.length,H,I.tok _,⟨_,rfl⟩,q⟩
theorem CallR.or {f:Value} {r r':List V -> Hp -> VK -> Prop} (h:CallR X f r) (h':CallR X f r'):CallR X f (fun xs H Q=>r xs H Q \/ r' xs H Q):=by
  intro pins s σ H xs us Q I rs q
  rcases q with q | q
  · exact h pins s σ H xs us Q I rs q
  · exact h' pins s σ H xs us Q I rs q
theorem call_tuple_of:CallR X (.type "tuple") (fun xs H Q=>∃ p ys,xs = [.ref p] /\ ((SqL X.K H p ys /\ ∀ l,H l = none -> Q (.ref l) (upd H l (.tup ys))) \/ (SqT X.K H p ys /\ Q (.ref p) H))):=by
  intro pins s σ H xs us Q I r h
  obtain ⟨p,ys,rfl,h⟩:=h
  obtain ⟨u,rfl,rx⟩:=vals1 r
  cases rx
  rcases h with ⟨hq,q⟩ | ⟨hq,q⟩
  · obtain ⟨its,r',pl,hz⟩:=I.list hq
    have hlen:=r'.length
    refine call_tuple_list pl.isList (fun h' kp=>?_) (by simp only [List.size_toArray]<;>omega)
    have I1:Inv X pins σ H { s with heap:=h' }:=I.kept (t':=s.toks) kp
    have I2:Inv X pins σ (upd H h'.objs.size (.tup ys)) { s with heap:=h'.push { cls:=.type "tuple",data:=.seq its.toArray } } :=
      I1.laid (t':=s.toks) (fun b o e=>Heap.get?_push_of_some _ e) (Nat.le_refl _) (show ObjOk X.prog X.w _ _ _ (.tup ys) from ⟨hz,its,r',IsTup.new _ _⟩)
    exact ⟨.ref h'.objs.size,_,I2,rfl,q _ (I1.hok.fresh (Nat.le_refl _))⟩
  · obtain ⟨its,r',pl,hz⟩:=I.tuple hq
    exact call_tuple_same pl ⟨.ref p,H,I,rfl,q⟩

noncomputable def tyV (K:PySem.W.Frag) (T:String) (x:V) (H:Hp):Prop:=match x with
  | .str _=>T = "str"
  | .int _=>T = "int"
  | .ref p=>(T = "list" /\ ∃ xs,SqL K H p xs) \/ (T = "tuple" /\ ∃ o,K.lookup p = some o /\ o.cls = .type "tuple" /\ o.dict = none) \/
      (T = "dict" /\ ((∃ kvs,H p = some (.dK kvs)) \/ ∃ kvs,H p = some (.dT kvs))) \/ (T = "set" /\ ∃ S n,H p = some (.set S n))
  | _=>False
theorem tyV_is {pins:List (Addr × Obj)} {σ:St} {H:Hp} {s:Shared} {T:String} {x:V} {v:Value} (I:Inv X pins σ H s) (r:RelV x v) (ty:tyV X.K T x H) :
    s.TypeIs v T /\ ∀ a,v = .ref a -> ∃ ob,s.heap.get? a = some ob /\ ob.dict = none:=by
  cases x with
  | str z =>
    obtain ⟨t,rfl⟩:=r
    cases (show T = "str" from ty)
    exact ⟨typeIs_str s z t,fun _ e=>nomatch e⟩
  | int i =>
    obtain ⟨t,rfl⟩:=r
    cases (show T = "int" from ty)
    exact ⟨typeIs_int s i t,fun _ e=>nomatch e⟩
  | ref p =>
    cases r
    rcases ty with ⟨rfl,xs,hq⟩ | ⟨rfl,o,hk,hc,hd⟩ | ⟨rfl,hk⟩ | ⟨rfl,S,n,hk⟩
    · obtain ⟨its,_,pl,_⟩:=I.list hq
      refine ⟨pl.isList.typeIs,fun a e=>?_⟩
      cases e
      obtain ⟨o,n,e,c,hd,_⟩:=pl
      exact ⟨o,e,hd⟩
    · refine ⟨⟨o,I.kIn p o hk,hc⟩,fun a e=>?_⟩
      cases e
      exact ⟨o,I.kIn _ o hk,hd⟩
    · have z:∃ o,s.heap.get? p = some o /\ o.ExactDict:=by
        rcases hk with ⟨kvs,hk⟩ | ⟨kvs,hk⟩
        · obtain ⟨_,_,_,_,o,_,_,e,ex,_⟩:=I.hok p _ hk
          exact ⟨o,e,ex⟩
        · obtain ⟨_,_,_,_,o,_,_,e,ex,_⟩:=I.hok p _ hk
          exact ⟨o,e,ex⟩
      obtain ⟨o,e,ex⟩:=z
      refine ⟨⟨o,e,ex.1⟩,fun a e2=>?_⟩
      cases e2
      exact ⟨o,e,ex.2.1⟩
    · obtain ⟨o,_,_,_,e,ex,_⟩:=I.hok p _ hk
      refine ⟨⟨o,e,ex.1⟩,fun a e2=>?_⟩
      cases e2
      exact ⟨o,e,ex.2.1⟩
  | _=>exact False.elim ty
noncomputable def tBM (K:PySem.W.Frag) (T:String) (r:V -> List V -> Hp -> VK -> Prop) (to:TE) (t:TA):TE:=fun σ H Q=>to σ H fun x H1=>tyV K T x H1 /\ t σ H1 fun xs H2=>r x xs H2 Q
variable {o e:Expr} {es:List Expr} {to:TE} {t:TA} {name:Str} {apos cpos:Pos} {T id:String} {r:V -> List V -> Hp -> VK -> Prop}
theorem pe_bm (pa:PlainAttrs T) (slot:Slot T name id) (hty:typeOf (.builtin id) = pure (.type "method_descriptor")) (hm:MtR X id r) (ho:PE X o to) (ha:PA X (e :: es) t)
    (hbase:attributeBase o name X.env (eval o X.env) = eval o X.env:=by rfl)
    (hfew:((backTo cpos (starEach (e :: es) X.env)).all (fun x=>!x.1) && (backToKw cpos (keywordEach [] X.env)).all (fun x=>x.1.isSome)
      && decide ((e :: es).length + ([]:List Keyword).length + (if ([]:List Keyword).isEmpty then 0 else 1) < 30)) = true:=by rfl)
    (hline:(apos.endLine == cpos.line) = true:=by rfl) (hs:starEach (e :: es) X.env = (false,eval e X.env) :: starEach es X.env:=by rfl) (hplain:(backTo cpos (starEach es X.env)).any (·.1) = false:=by rfl) :
    PE X (.Call (.Attribute o name apos) (e :: es) [] cpos) (tBM X.K T r to t):=by
  intro pins s σ H Q I h
  refine wpAny_Call_method_late hbase hfew hline rfl (thn (ho pins s σ H _ I h) fun v s1 ⟨x,H1,I1,r1,ty,q1⟩=>?_)
  obtain ⟨h1,h2⟩:=tyV_is I1 r1 ty
  refine ⟨T,id,pa,slot,hty,h1,h2,?_⟩
  have hA:=ha cpos pins s1 σ H1 _ I1 q1
  rw [hs] at hA ⊢
  refine Calls.callWith_builtin (by show (false || (backTo cpos (starEach es X.env)).any (·.1)) = false;rw [hplain]<;>rfl) (Calls.evalArgs_plain ?_)
  exact thn hA fun us s2 ⟨vs,H2,I2,r2,q2⟩=>hm pins s2 σ H2 x vs v us Q I2 r1 r2 q2
end
end L2

namespace L2
open PySem PySem.Spec PyProof.Rows

noncomputable def MtM (X:Cx) (id:String) (r:V -> List V -> Hp -> VK -> Prop):Prop :=
  ∀ (pins:List (Addr × Obj)) (s:Shared) (σ:St) (H:Hp) (x:V) (xs:List V) (v:Value) (us:List Value) (Q:VK),Inv X pins σ H s -> RelV x v -> Vals xs us -> r x xs H Q ->
    wpAny (model X.prog X.w) X.A (call (.builtin id) (v :: us)) (EP X pins σ Q) X.xe s

theorem Vals.one:∀ {x:V} {us:List Value},Vals [x] us -> ∃ u,us = [u] /\ RelV x u
  | _,_,.cons r .nil=>⟨_,rfl,r⟩
theorem Vals.reverse {xs:List V} {us:List Value} (h:Vals xs us):Vals xs.reverse us.reverse:=by
  induction h with
  | nil=>exact .nil
  | cons r t ih=>rw [List.reverse_cons,List.reverse_cons];exact Vals.append ih (.cons r .nil)
theorem Vals.rep {xs:List V} {us:List Value} (h:Vals xs us):∀ k:Nat,Vals (List.replicate k xs).flatten (List.replicate k us).flatten
  | 0=>.nil
  | k + 1=>by
    rw [List.replicate_succ,List.replicate_succ,List.flatten_cons,List.flatten_cons]
    exact Vals.append h (Vals.rep h k)
theorem foldl_rep (its:List Value):∀ (k:Nat) (acc:List Value),
    List.foldl (fun x1 x2=>x1 ++ x2) acc.toArray (List.replicate k its.toArray) = (acc ++ (List.replicate k its).flatten).toArray
  | 0,acc=>by simp
  | k + 1,acc=>by
    have e:acc.toArray ++ its.toArray = (acc ++ its).toArray:=by simp
    have e2:(acc ++ its) ++ (List.replicate k its).flatten = acc ++ (List.replicate (k + 1) its).flatten:=by
      rw [List.replicate_succ,List.flatten_cons,List.append_assoc]
    rw [<- e2,<- foldl_rep its k (acc ++ its),<- e,List.replicate_succ,List.foldl_cons]

section
variable {X:Cx} {pins:List (Addr × Obj)} {σ:St} {H:Hp} {s:Shared} {l b:Addr} {xs ys zs:List V}

theorem Inv.lset {its its':List Value} {n:Nat} {f:Array Value -> Array Value} {t':Nat} (I:Inv X pins σ H s) (hH:H l = some (.lst xs))
    (e:s.heap.get? l = some { cls:=.type "list",data:=.seq its.toArray n }) (hf:f its.toArray = its'.toArray) (hv:Vals ys its') (hz:ys.length <= sizeLine) :
    Inv X pins σ (upd H l (.lst ys)) { s with heap:=s.heap.update l (Obj.mapSeq f),toks:=t' }:=by
  have q:=PySem.IsL.update e f
  rw [hf] at q
  refine I.write (x:=l) (e:=l) (by rw [hH];exact trivial) (.inl rfl) (fun b' u hb hu=>(Heap.get?_update_other s.heap (Obj.mapSeq f) (Ne.symm hb)).trans hu) ⟨_,q⟩ ?_
  exact ⟨hz,its',_,hv,q⟩
theorem Inv.lnew {its:List Value} {t':Nat} (I:Inv X pins σ H s) (hv:Vals ys its) (hz:ys.length <= sizeLine) :
    Inv X pins σ (upd H s.heap.objs.size (.lst ys)) { s with heap:=s.heap.push { cls:=.type "list",data:=.seq its.toArray },toks:=t' } :=
  I.laid (fun _ _ q=>Heap.get?_push_of_some _ q) (Nat.le_refl _) ⟨hz,its,0,hv,Heap.get?_push_size _ rfl⟩
theorem Inv.fresh (I:Inv X pins σ H s):H s.heap.objs.size = none:=I.hok.fresh (Nat.le_refl _)
theorem Inv.lstM (I:Inv X pins σ H s) (hH:H l = some (.lst xs)):xs.length <= sizeLine /\ ∃ (its:List Value) (n:Nat),Vals xs its /\ xs.length = its.length /\ s.heap.get? l = some { cls:=.type "list",data:=.seq its.toArray n }:=by
  obtain ⟨z,its,n,r,e⟩:=I.hok l _ hH
  exact ⟨z,its,n,r,r.length,e⟩

theorem notLongL {n:Nat} (h:n <= sizeLine):Builtin.List.listTooLong n = false:=by
  unfold Builtin.List.listTooLong
  exact decide_eq_false (by omega)
end

section
variable {X:Cx}

noncomputable def rAppend:V -> List V -> Hp -> VK -> Prop:=fun x vs H Q=>∃ l xs y,x = .ref l /\ vs = [y] /\ H l = some (.lst xs) /\ xs.length < sizeLine /\ Q .non (upd H l (.lst (xs ++ [y])))
theorem mt_append:MtM X "list.append" rAppend:=by
  intro pins s σ H x vs v us Q I rx rv h
  obtain ⟨l,xs,y,rfl,rfl,hH,hz,q⟩:=h
  cases rx
  obtain ⟨u,rfl,ru⟩:=rv.one
  obtain ⟨z,its,n,r,hl,e⟩:=I.lstM hH
  refine call_meets F.slot_list_append ⟨_,e,rfl⟩ F.entry_list_append (F.args_list_append_2 _ _) (PySem.list_append l its.toArray n u (by rw [List.size_toArray];omega)) ⟨e,?_⟩
  refine ⟨.non,_,I.lset (its':=its ++ [u]) hH e (by simp) (r.append (.cons ru .nil)) ?_,rfl,q⟩
  rw [List.length_append,List.length_singleton]
  omega

theorem len_rep {α:Type} (xs:List α) (k:Nat):(List.replicate k xs).flatten.length = k * xs.length:=by
  induction k with
  | zero=>simp
  | succ k ih=>rw [List.replicate_succ,List.flatten_cons,List.length_append,ih,Nat.succ_mul,Nat.add_comm]
end

section
variable {prog:Program} {w:World} {A:Around} {E:Value -> Shared -> Prop} {s:Shared}
set_option maxRecDepth 100000 in
end

section
variable {X:Cx}
end
end L2

namespace Att
open PySem PySem.W PySem.Calls PyProof.Rows

theorem ints_of_wellAll {P:Params} {h:Heap}:∀ (ns:List Int) (vs:List Value),WellAll P h vs (ns.map WData.int) -> IntsAre vs ns:=by
  intro ns
  induction ns with
  | nil =>
    intro vs w
    rw [List.map_nil] at w
    cases w
    exact .nil
  | cons n ns ih =>
    intro vs w
    rw [List.map_cons] at w
    cases w with
    | cons a b =>
      cases a
      exact .cons _ _ (ih _ b)

theorem script_of {l:OpenLaw} {n:Nat} (hn:l.most = some n) {P:Params} {h:Heap} {args:List WData} {vals:List Value}
    (hpre:l.row.toRowW.claim.pre args = true) (hwl:WellAll P h vals args) :
    ∃ a vs ns,vals = [Value.ref a] /\ args = [WData.list (ns.map WData.int)] /\ h.get? a = some { cls:=.type "list",data:=.seq vs.toArray } /\ IntsAre vs ns /\ ns.length <= n:=by
  have hsh:WShape.hasAll [] args [.list .int] = true:=(pre_splitW hpre).1
  have hc:l.pre.holds [] { args:=args } = true:=(pre_splitW hpre).2
  obtain ⟨d,r,rfl,h1,h2⟩:=hasAllW_cons hsh
  obtain rfl:=hasAllW_nil h2
  obtain ⟨xs,rfl,h3⟩:=hasW_list h1
  obtain ⟨ns,rfl⟩:=items_int h3
  have hlen:ns.length <= n:=by
    unfold OpenLaw.pre at hc
    have h4:(WTm.not (.lt (.lit (.int (n:Int))) (.len (.arg 0)))).holds [] { args:=[.list (ns.map .int)] } = true:=by
      have h4:=(holds_andW hc).1
      rw [hn] at h4
      exact h4
    have h5:=condW_of h4 (w_not (w_lt w_lit (w_len_list (w_arg rfl))))
    rw [List.length_map] at h5
    refine Nat.le_of_not_lt fun q=>?_
    have q':(n:Int) < ((ns.length:Nat):Int):=by omega
    first
      | (rw [decide_eq_true q'] at h5;exact absurd h5 (by decide))
      | (simp at h5;omega)
  cases hwl with
  | cons w1 w2 =>
    cases w2
    cases w1 with
    | list ho hall=>exact ⟨_,_,ns,rfl,rfl,ho,ints_of_wellAll ns _ hall,hlen⟩

theorem post_true (l:OpenLaw) (args:List WData):l.row.toRowW.claim.post args (.bool true) args = true :=
  postW_of (r:=l.row.toRowW) (X:=(true == true))
    (show WShape.has [] (.bool true) .bool = true by first | rfl | decide | simp [WShape.has,WShape.arms,WShape.armsAll])
    (show (WTm.eq .res (.lit (.bool true))).value [] { args:=args,res:=some (.bool true),after:=args } = some (.bool (true == true)) from w_eq_bool (w_res rfl) w_lit) rfl

theorem attach_call {l:OpenLaw} {n:Nat} {q:Program} {loose:List Str} {XP:(Str -> Option Value) -> Heap -> Prop} {YP:World -> Heap -> Prop} {d:DefRec}
    (hn:l.most = some n) (hdf:d.params.defaults = [])
    (call:∀ (w:World) (s₀ s₁:Shared) (mg mb:Str -> Option Value) (fa:Addr) (o:Obj) (pm cd doc:Value) (a:Addr) (vs:List Value) (ns:List Int),
      Ground q loose [] XP w s₀ mg mb s₁.heap -> YP w s₁.heap ->
      s₁.heap.get? fa = some o -> o.data = .func (docDef d.name d.params d.body d.scope pm cd doc) -> s₁.heap.CodeRec cd d.name -> mg d.name = some (.ref fa) ->
      s₁.heap.get? a = some { cls:=.type "list",data:=.seq vs.toArray } -> IntsAre vs ns -> ns.length <= n -> s₁.gens = #[] ->
      codeAny (model l.prog w) callerA (.call (.ref fa) ⟨[.ref a],[]⟩) (fun r s'=>r = .ok (.ret (.bool true)) /\ OldK s₁.heap s'.heap /\ s'.os = s₁.os /\ AllBare s'.gens) s₁) :
    WalkO q loose XP YP l.row.toRowW d [] (fun f vs=>PySem.call f vs):=by
  intro w s₀ s₁ mg mb G Y fa o pm cd doc dV kV ho hd hcd hD hmg hg args vals as hpre hlay hrd hwl hlo
  obtain rfl:dV = .none:=Dflts.none hD hdf
  obtain rfl:kV = .none:=Dflts.noKw hD
  obtain ⟨a,vs,ns,rfl,rfl,hobj,hints,hlen⟩:=script_of hn hpre hwl
  refine enter_call (codeAny_mono (call w s₀ s₁ mg mb fa o pm cd doc a vs ns G Y ho (fd_plain hd) hcd hmg hobj hints hlen hg) fun r s' hq=>?_)
  obtain ⟨rfl,h2,h3,h4⟩:=hq
  exact ⟨.inl ⟨.bool true,.bool true,[],rfl,fun _=>rfl,.bool true,post_true l _,fun _=>⟨List.Pairwise.nil,fun _ hm=>(nomatch hm)⟩⟩,h2,h3,h4⟩

section
variable {prog:Program} {w:World} {A:Around} {E:Value -> Shared -> Prop} {s:Shared} {K:Frag}

end
end Att

namespace L2
open PySem PySem.Spec PyProof.Rows

theorem vals_ints:∀ {vs:List Value} {ns:List Int},IntsAre vs ns -> Vals (ns.map V.int) vs
  | _,_,.nil=>.nil
  | _,_,.cons n t h=>.cons ⟨t,rfl⟩ (vals_ints h)

end L2

namespace L2
open PySem PySem.Spec PyProof.Rows

end L2

namespace L2
open PySem PySem.Spec PyProof.Rows

noncomputable def defArgs (s:Stmt):Arguments:=match s with
  | .FunctionDef _ a _ _ _ _ _ _ _ _=>a
  | _=>{ posonlyargs:=[],args:=[],vararg:=none,kwonlyargs:=[],kw_defaults:=[],kwarg:=none,defaults:=[] }
noncomputable def defBody (s:Stmt):List Stmt:=match s with
  | .FunctionDef _ _ b _ _ _ _ _ _ _=>b
  | _=>[]
noncomputable def defScope (s:Stmt):Scope:=match s with
  | .FunctionDef _ _ _ _ _ _ sc _ _ _=>sc
  | _=>{ kind:=.function,names:=[],isGenerator:=false,isCoroutine:=false }

noncomputable abbrev CX0:CXT:=fun _ _ _ _ _ _=>False
noncomputable abbrev E0:XK:=fun _ _ _=>False
theorem pass0 {X:Cx}:Passes CX0 X E0:=fun _ _ _ _ _ _ _ h=>h.elim

structure Fun (K:PySem.W.Frag) (x qual:Str) (st:Stmt) (f:Addr) (fd:FuncData):Prop where
  ex:∃ (oc:Value) (od:Option Addr) (kV doc pm:Value) (an:Option Addr) (cdv ct:Value) (osl:Array (Option Value)),
    fd = PySem.W.fnOf x qual (defArgs st) (defBody st) (defScope st) .none kV doc pm an cdv ct /\ K.lookup f = some ⟨oc,od,.func fd,osl⟩ /\ PySem.W.codeIn K cdv qual = true
  kp:PySem.W.keepIn K (.ref f) = true
section
variable {P:Program} {w:World} {K:PySem.W.Frag} {mg:Str -> Option Value} {base:Heap}
theorem Fun.ok {x qual:Str} {st:Stmt} {f:Addr} {fd:FuncData} {N ps:List Str} {k:Nat} {sp:Sp} (F:Fun K x qual st f fd) (S:FnScope N ps (defScope st)) (len:∀ vs H Q E,sp vs H Q E -> vs.length = ps.length)
    (hbody:∀ (cdv:Value) (A:Around) (outer:List Env) (s:Shared) (H:Hp) (vs:List V) (Q:VK) (E:XK),Room k (A.deeper (envOfC qual (defScope st) s.heap.objs.size f cdv)) -> sp vs H Q E ->
      ∃ t,PSs (cxOf CX0 P w K mg base N qual (defScope st) f cdv A outer s H E).nox (defBody st) t /\ t { nx:=fun _ H'=>Q .non H',rt:=Q } (start N vs) H):FnOk P w K mg base CX0 (k + 1) f fd ps sp:=by
  obtain ⟨oc,od,kV,doc,pm,an,cdv,ct,osl,rfl,lk,hcd⟩:=F.ex
  refine fn_of lk hcd S len fun A outer s H vs Q E hr hsp=>?_
  obtain ⟨t,h,q⟩:=hbody cdv A outer s H vs Q E hr hsp
  exact ⟨t,h.nox,q⟩
theorem Fun.binds {x qual:Str} {st:Stmt} {f:Addr} {fd:FuncData} {ps:List Str} (F:Fun K x qual st f fd)
    (h:∀ (kV doc pm:Value) (an:Option Addr) (cdv ct:Value) (us:List Value),us.length = ps.length -> bindArgs (PySem.W.fnOf x qual (defArgs st) (defBody st) (defScope st) .none kV doc pm an cdv ct) ⟨us,[]⟩ = pure (ps.zip us)):Binds K fd ps []:=by
  obtain ⟨oc,od,kV,doc,pm,an,cdv,ct,osl,rfl,lk,hcd⟩:=F.ex
  exact .all (h kV doc pm an cdv ct)
theorem fun_mk {x qual:Str} {st:Stmt} {f:Addr} {oc:Value} {od an:Option Addr} {osl:Array (Option Value)} {kV doc pm cdv ct:Value} (l:K.lookup f = some ⟨oc,od,.func (PySem.W.fnOf x qual (defArgs st) (defBody st) (defScope st) .none kV doc pm an cdv ct),osl⟩)
    (c:PySem.W.codeIn K cdv qual = true) (k:PySem.W.keepIn K (.ref f) = true):Fun K x qual st f (PySem.W.fnOf x qual (defArgs st) (defBody st) (defScope st) .none kV doc pm an cdv ct):=⟨⟨oc,od,kV,doc,pm,an,cdv,ct,osl,rfl,l,c⟩,k⟩
end
section
variable {X:Cx}
end

noncomputable def Same (H H':Hp):Prop:=∀ b o,H b = some o -> H' b = some o
theorem Same.refl (H:Hp):Same H H:=fun _ _ h=>h
theorem Same.trans {H H1 H2:Hp} (a:Same H H1) (b:Same H1 H2):Same H H2:=fun c o h=>b c o (a c o h)
theorem Same.free {H H':Hp} (e:Same H H') {l:Addr} (h:H' l = Option.none):H l = Option.none:=by
  cases q:H l with
  | none=>rfl
  | some o =>
    rw [e l o q] at h
    cases h
theorem Same.seq {K:PySem.W.Frag} {H H':Hp} {a:Addr} {xs:List V} (e:Same H H') (h:SqL K H a xs):SqL K H' a xs:=by
  rcases h with (h | ⟨o,h⟩) | h
  · exact .inl (.inl (e _ _ h))
  · exact .inl (.inr ⟨o,e _ _ h⟩)
  · exact .inr h

end L2

set_option Elab.async false
set_option linter.all false
set_option maxRecDepth 100000
namespace L2
open PySem PySem.Spec PyProof.Rows

section
variable {κ:Type} [DecidableEq κ]
end


section
variable {P:Program} {w:World} {H:Hp} {h:Heap} {a:Addr}
end

section
variable {X:Cx} {pins:List (Addr × Obj)} {σ:St} {H:Hp} {s:Shared} {a:Addr} {y v:V} {u r:Value} {o:Option V} {A:Around} {E:Value -> Shared -> Prop}

end

section
variable {X:Cx} {pins:List (Addr × Obj)} {σ:St} {H:Hp} {s:Shared} {a:Addr} {kvs:List (Key × V)} {k:Key} {u:Value} {A:Around} {E:Value -> Shared -> Prop}
end


section
variable {X:Cx} {o i e value:Expr} {pos pos' tpos:Pos} {td ty tv:TE}
end


section
variable {X:Cx} {pos:Pos}
end

noncomputable def tPairs:List (TE × TE) -> St -> Hp -> (List (V × V) -> Hp -> Prop) -> Prop
  | [],_,H,Q=>Q [] H
  | (tk,tv) :: r,σ,H,Q=>tk σ H fun x H1=>tv σ H1 fun y H2=>tPairs r σ H2 fun ps H3=>Q ((x,y) :: ps) H3
structure M1 (X:Cx) (o:Expr) (m:Str) (apos:Pos) (e:Expr) (cpos:Pos):Prop where
  base:attributeBase o m X.env (eval o X.env) = eval o X.env
  few:((backTo cpos (starEach [e] X.env)).all (fun x=>!x.1) && (backToKw cpos (keywordEach [] X.env)).all (fun x=>x.1.isSome)
    && decide (([e]:List Expr).length + ([]:List Keyword).length + (if ([]:List Keyword).isEmpty then 0 else 1) < 30)) = true
  line:(apos.endLine == cpos.line) = true
  trees:backTo cpos (starEach [e] X.env) = [(false,eval e X.env)]
structure M2 (X:Cx) (o:Expr) (m:Str) (apos:Pos) (e f:Expr) (cpos:Pos):Prop where
  base:attributeBase o m X.env (eval o X.env) = eval o X.env
  few:((backTo cpos (starEach [e,f] X.env)).all (fun x=>!x.1) && (backToKw cpos (keywordEach [] X.env)).all (fun x=>x.1.isSome)
    && decide (([e,f]:List Expr).length + ([]:List Keyword).length + (if ([]:List Keyword).isEmpty then 0 else 1) < 30)) = true
  line:(apos.endLine == cpos.line) = true
  trees:backTo cpos (starEach [e,f] X.env) = [(false,eval e X.env),(false,eval f X.env)]

section
variable {X:Cx} {pins:List (Addr × Obj)} {σ:St} {H:Hp} {s:Shared} {a:Addr} {y d:V} {u r:Value} {o:Option V} {A:Around} {E:Value -> Shared -> Prop}
end

section
variable {X:Cx} {o e f:Expr} {apos cpos:Pos} {td ty tx:TE}
end

section
variable {X:Cx} {pins:List (Addr × Obj)} {σ:St} {H:Hp} {s:Shared} {a:Addr} {kvs:List (Key × V)} {A:Around} {E:Value -> Shared -> Prop}
end


section
variable {X:Cx} {pins:List (Addr × Obj)} {σ:St} {H:Hp} {s:Shared} {a:Addr} {y:V} {u:Value} {A:Around} {E:Value -> Shared -> Prop}
end
end L2

set_option Elab.async false
set_option linter.all false
set_option maxRecDepth 100000

namespace Vc
open PySem L2

class KF where
  K:PySem.W.Frag
  /-- where the classes of exceptions stand -/
  cls:Str -> Addr:=fun _=>0
  /-- the code tables that a lambda fills: where,as they were,the lambda's place,its name -/
  tabs:List (Addr × Array Value × Pos × Str):=[]
variable [KF]
inductive D where
  | non | bl (b:Bool) | int (i:Int) | str (x:Str) | tup (xs:List D) | lst (xs:List D) | dct (kvs:List (D × D)) | exc (c:Str)
  /-- the law's own list: read,never changed -/
  | scr (ns:List Int)

noncomputable def excO (a:Addr) (c:Str):HO:=.ext fun h=>∃ o,h.get? a = some o /\ o.cls = .ref (KF.cls c)
noncomputable def kD:Key -> D
  | .inl i=>.int i
  | .inr x=>.str x
mutual
inductive Rep (F:Hp):V -> D -> Prop where
  | non:Rep F .non .non
  | bl (b:Bool):Rep F (.bl b) (.bl b)
  | int (i:Int):Rep F (.int i) (.int i)
  | str (x:Str):Rep F (.str x) (.str x)
  | tup {a:Addr} {vs:List V} {ds:List D}:F a = some (.tup vs) -> RepL F vs ds -> Rep F (.ref a) (.tup ds)
  | lst {a:Addr} {vs:List V} {ds:List D}:Rd F a (.lst vs) -> RepL F vs ds -> Rep F (.ref a) (.lst ds)
  | scr {a:Addr} {ns:List Int}:SqL KF.K F a (ns.map V.int) -> Rep F (.ref a) (.scr ns)
  | exc {a:Addr} {c:Str}:F a = some (excO a c) -> Rep F (.ref a) (.exc c)
  | dctT {a:Addr} {ks:List (List Key × V)} {kvs:List (D × D)}:F a = some (.dT ks) -> RepT F ks kvs -> Rep F (.ref a) (.dct kvs)
inductive RepK (F:Hp):List (Key × V) -> List (D × D) -> Prop where
  | nil:RepK F [] []
  | cons {k:Key} {v:V} {d:D} {ks:List (Key × V)} {kvs:List (D × D)}:Rep F v d -> RepK F ks kvs -> RepK F ((k,v) :: ks) ((kD k,d) :: kvs)
inductive RepT (F:Hp):List (List Key × V) -> List (D × D) -> Prop where
  | nil:RepT F [] []
  | cons {k:List Key} {v:V} {d:D} {ks:List (List Key × V)} {kvs:List (D × D)}:Rep F v d -> RepT F ks kvs -> RepT F ((k,v) :: ks) ((.tup (k.map kD),d) :: kvs)
inductive RepL (F:Hp):List V -> List D -> Prop where
  | nil:RepL F [] []
  | cons {v:V} {d:D} {vs:List V} {ds:List D}:Rep F v d -> RepL F vs ds -> RepL F (v :: vs) (d :: ds)
end

theorem Rd.mono {F F':Hp} (s:Same F F') {a:Addr} {u:HO} (h:Rd F a u):Rd F' a u:=by
  rcases h with h | ⟨o,h⟩
  · exact .inl (s a _ h)
  · exact .inr ⟨o,s a _ h⟩
mutual
theorem Rep.mono {F F':Hp} (s:Same F F') {v:V} {d:D}:Rep F v d -> Rep F' v d
  | .non=>.non
  | .bl b=>.bl b
  | .int i=>.int i
  | .str x=>.str x
  | .tup h r=>.tup (s _ _ h) (RepL.mono s r)
  | .lst h r=>.lst (Rd.mono s h) (RepL.mono s r)
  | .scr h=>.scr (s.seq h)
  | .exc h=>.exc (s _ _ h)
  | .dctT h r=>.dctT (s _ _ h) (RepT.mono s r)
theorem RepK.mono {F F':Hp} (s:Same F F') {ks:List (Key × V)} {kvs:List (D × D)}:RepK F ks kvs -> RepK F' ks kvs
  | .nil=>.nil
  | .cons h r=>.cons (Rep.mono s h) (RepK.mono s r)
theorem RepT.mono {F F':Hp} (s:Same F F') {ks:List (List Key × V)} {kvs:List (D × D)}:RepT F ks kvs -> RepT F' ks kvs
  | .nil=>.nil
  | .cons h r=>.cons (Rep.mono s h) (RepT.mono s r)
theorem RepL.mono {F F':Hp} (s:Same F F') {vs:List V} {ds:List D}:RepL F vs ds -> RepL F' vs ds
  | .nil=>.nil
  | .cons h r=>.cons (Rep.mono s h) (RepL.mono s r)
end
theorem RepL.length {F:Hp}:∀ {vs:List V} {ds:List D},RepL F vs ds -> vs.length = ds.length
  | _,_,.nil=>rfl
  | _,_,.cons _ r=>by simp [RepL.length r]
theorem RepL.append {F:Hp}:∀ {vs ws:List V} {ds es:List D},RepL F vs ds -> RepL F ws es -> RepL F (vs ++ ws) (ds ++ es)
  | _,_,_,_,.nil,s=>s
  | _,_,_,_,.cons h r,s=>.cons h (RepL.append r s)
theorem RepL.get {F:Hp}:∀ {vs:List V} {ds:List D} {i:Nat} {d:D},RepL F vs ds -> ds[i]? = some d -> ∃ v,vs[i]? = some v /\ Rep F v d
  | _,_,_,_,.nil,e=>by simp at e
  | _,_,0,_,.cons h _,e=>by simp at e;subst e;exact ⟨_,by simp,h⟩
  | _,_,i + 1,_,.cons _ r,e=>by
    obtain ⟨v,h1,h2⟩:=RepL.get (i:=i) r (by simpa using e)
    exact ⟨v,by simpa using h1,h2⟩
theorem RepL.get' {F:Hp}:∀ {vs:List V} {ds:List D} {i:Nat} {v:V},RepL F vs ds -> vs[i]? = some v -> ∃ d,ds[i]? = some d /\ Rep F v d
  | _,_,_,_,.nil,e=>by simp at e
  | _,_,0,_,.cons h _,e=>by simp at e;subst e;exact ⟨_,by simp,h⟩
  | _,_,i + 1,_,.cons _ r,e=>by
    obtain ⟨v,h1,h2⟩:=RepL.get' (i:=i) r (by simpa using e)
    exact ⟨v,by simpa using h1,h2⟩
theorem RepL.set {F:Hp} {v:V} {d:D} (h:Rep F v d):∀ {vs:List V} {ds:List D} (i:Nat),RepL F vs ds -> RepL F (vs.set i v) (ds.set i d)
  | _,_,_,.nil=>.nil
  | _,_,0,.cons _ t=>.cons h t
  | _,_,i + 1,.cons q t=>.cons q (RepL.set h i t)
theorem RepL.take {F:Hp}:∀ {vs:List V} {ds:List D} (n:Nat),RepL F vs ds -> RepL F (vs.take n) (ds.take n)
  | _,_,0,_=>.nil
  | _,_,_ + 1,.nil=>.nil
  | _,_,n + 1,.cons h r=>.cons h (RepL.take n r)
theorem RepL.drop {F:Hp}:∀ {vs:List V} {ds:List D} (n:Nat),RepL F vs ds -> RepL F (vs.drop n) (ds.drop n)
  | _,_,0,r=>r
  | _,_,_ + 1,.nil=>.nil
  | _,_,n + 1,.cons _ r=>RepL.drop n r
theorem RepL.reverse {F:Hp}:∀ {vs:List V} {ds:List D},RepL F vs ds -> RepL F vs.reverse ds.reverse
  | _,_,.nil=>.nil
  | _,_,.cons h r=>by
    rw [List.reverse_cons,List.reverse_cons]
    exact (RepL.reverse r).append (.cons h .nil)
theorem RepL.rep {F:Hp} {vs:List V} {ds:List D} (r:RepL F vs ds):∀ n:Nat,RepL F (List.replicate n vs).flatten (List.replicate n ds).flatten
  | 0=>.nil
  | n + 1=>by
    rw [List.replicate_succ,List.replicate_succ,List.flatten_cons,List.flatten_cons]
    exact r.append (RepL.rep r n)

structure O where
  fp:Addr -> List Addr
  rep:Hp -> Hp -> Addr -> Prop
  self:∀ a,a ∈ fp a
  solid:∀ {F H:Hp} {a b:Addr} {φ:Heap -> Prop},rep F H a -> b ∈ fp a -> H b ≠ some (.ext φ)
  mono:∀ {F F' H H':Hp} {a:Addr},Same F F' -> (∀ b ∈ fp a,H' b = H b) -> rep F H a -> rep F' H' a
inductive B where
  | sh (d:D)
  | own (xs:List D)
  | obj (o:O)
noncomputable abbrev Sd:=List (Option B)
structure Dyn where
  H0:Hp
  F0:Hp
  io:List (Nat × Addr)
  /-- the addresses of things that were handed in to be changed -/
  ob:List Addr
noncomputable def Dyn.ioL (Y:Dyn):List Addr:=Y.io.map (·.2)
noncomputable def Dyn.ioA (Y:Dyn):List Addr:=Y.io.map (·.2) ++ Y.ob
theorem Dyn.ioL_sub {Y:Dyn} {a:Addr} (h:a ∉ Y.ioA):a ∉ Y.ioL:=fun z=>h (List.mem_append_left _ z)
noncomputable def Owned (σd:Sd) (σ:St) (b:Addr):Prop:=∃ (i:Nat) (o:O) (a:Addr),σd[i]? = some (some (.obj o)) /\ σ[i]? = some (some (.ref a)) /\ b ∈ o.fp a
noncomputable def TabsIn (F:Hp):Prop:=∀ q ∈ KF.tabs,F q.1 = some (.lam q.2.1 q.2.2.1 q.2.2.2)
theorem TabsIn.mono {F F':Hp} (h:TabsIn F) (s:Same F F'):TabsIn F':=fun q hq=>s _ _ (h q hq)
noncomputable def SameT (F H:Hp):Prop:=Same F H /\ TabsIn F
structure Obs (Y:Dyn) (F:Hp) (σd:Sd) (σ:St) (H:Hp):Prop where
  obj:∀ (i:Nat) (o:O),σd[i]? = some (some (.obj o)) -> ∃ a,σ[i]? = some (some (.ref a)) /\ o.rep F H a /\ ∀ b ∈ o.fp a,F b = none /\ H b ≠ none /\ (Y.H0 b = none \/ b ∈ Y.ob)
  dso:∀ (i j:Nat) (o p:O) (a b:Addr),σd[i]? = some (some (.obj o)) -> σd[j]? = some (some (.obj p)) -> σ[i]? = some (some (.ref a)) -> σ[j]? = some (some (.ref b)) -> i ≠ j -> ∀ c ∈ o.fp a,c ∉ p.fp b
  dsx:∀ (j:Nat) (xs:List D) (b:Addr),σd[j]? = some (some (.own xs)) -> σ[j]? = some (some (.ref b)) -> ¬ Owned σd σ b
  there:∀ b ∈ Y.ob,H b ≠ none
  thz:∀ b ∈ Y.ob,Y.H0 b ≠ none
  tab:TabsIn F
theorem Obs.owned {Y:Dyn} {F:Hp} {σd:Sd} {σ:St} {H:Hp} (X:Obs Y F σd σ H) {b:Addr} (h:Owned σd σ b):F b = none /\ H b ≠ none /\ (Y.H0 b = none \/ b ∈ Y.ob):=by
  obtain ⟨i,o,a,e1,e2,hb⟩:=h
  obtain ⟨a',e3,_,h3⟩:=X.obj i o e1
  rw [e2] at e3;cases e3
  exact h3 b hb
theorem Obs.step {Y Y':Dyn} {F F':Hp} {σd σd':Sd} {σ σ':St} {H H':Hp} (X:Obs Y F σd σ H) (hs:Same F F')
    (hσ:∀ (i:Nat) (o:O),σd'[i]? = some (some (.obj o)) -> σd[i]? = some (some (.obj o)) /\ σ'[i]? = σ[i]?)
    (hb:∀ b,Owned σd σ b -> H' b = H b /\ F' b = none /\ (Y'.H0 b = none \/ b ∈ Y'.ob))
    (hown:∀ (j:Nat) (ys:List D) (b:Addr),σd'[j]? = some (some (.own ys)) -> σ'[j]? = some (some (.ref b)) -> ¬ Owned σd σ b)
    (hth:∀ b ∈ Y'.ob,H' b ≠ none) (hz:∀ b ∈ Y'.ob,b ∈ Y.ob /\ (Y.H0 b ≠ none -> Y'.H0 b ≠ none):=by exact fun b hb=>⟨hb,id⟩):Obs Y' F' σd' σ' H' where
  obj:=fun i o e=>by
    obtain ⟨e1,e2⟩:=hσ i o e
    obtain ⟨a,h1,h2,h3⟩:=X.obj i o e1
    have ow:∀ b ∈ o.fp a,Owned σd σ b:=fun b z=>⟨i,o,a,e1,h1,z⟩
    refine ⟨a,by rw [e2];exact h1,o.mono hs (fun b z=>(hb b (ow b z)).1) h2,fun b z=>⟨(hb b (ow b z)).2.1,?_,(hb b (ow b z)).2.2⟩⟩
    rw [(hb b (ow b z)).1];exact (h3 b z).2.1
  dso:=fun i j o p a b e1 e2 e3 e4=>by
    obtain ⟨q1,q2⟩:=hσ i o e1
    obtain ⟨q3,q4⟩:=hσ j p e2
    rw [q2] at e3;rw [q4] at e4
    exact X.dso i j o p a b q1 q3 e3 e4
  dsx:=fun j xs b e1 e2 ⟨i,o,a,e3,e4,hm⟩=>by
    obtain ⟨q1,q2⟩:=hσ i o e3
    rw [q2] at e4
    exact hown j xs b e1 e2 ⟨i,o,a,q1,e4,hm⟩
  there:=hth
  thz:=fun b hb=>(hz b hb).2 (X.thz b (hz b hb).1)
  tab:=X.tab.mono hs
theorem Obs.put {Y:Dyn} {F:Hp} {σd:Sd} {σ σ':St} {H:Hp} {i:Nat} {b':Option B} (X:Obs Y F σd σ H) (h1:∀ j,j ≠ i -> σ'[j]? = σ[j]?) (hn:∀ o,b' ≠ some (.obj o))
    (hw:∀ ys a,b' = some (.own ys) -> σ'[i]? = some (some (.ref a)) -> ¬ Owned σd σ a):Obs Y F (σd.set i b') σ' H:=by
  have gs:∀ {j:Nat} {y:Option B},(σd.set i b')[j]? = some y -> (j = i /\ y = b') \/ (j ≠ i /\ σd[j]? = some y):=fun {j y} h=>by
    by_cases hj:j = i
    · subst hj
      by_cases hl:j < σd.length
      · rw [List.getElem?_set_self hl] at h;exact .inl ⟨rfl,(Option.some.inj h).symm⟩
      · have:(σd.set j b')[j]? = none:=by rw [List.getElem?_eq_none_iff];simp;omega
        rw [this] at h;cases h
    · rw [List.getElem?_set_ne (Ne.symm hj)] at h;exact .inr ⟨hj,h⟩
  refine X.step (Same.refl _) (fun j o e=>?_) (fun b hb=>⟨rfl,(X.owned hb).1,(X.owned hb).2.2⟩) (fun j ys b e1 e2=>?_) X.there
  · rcases gs e with ⟨_,z⟩ | ⟨hj,z⟩
    · exact absurd z.symm (hn o)
    · exact ⟨z,h1 j hj⟩
  · rcases gs e1 with ⟨rfl,z⟩ | ⟨hj,z⟩
    · exact hw ys b z.symm e2
    · rw [h1 j hj] at e2;exact X.dsx j ys b z e2
theorem Obs.none {Y:Dyn} {F:Hp} {σd:Sd} {σ:St} {H:Hp} (h:∀ (i:Nat) (o:O),σd[i]? ≠ some (some (.obj o))) (htab:TabsIn F) (hth:∀ b ∈ Y.ob,H b ≠ none) (hz:∀ b ∈ Y.ob,Y.H0 b ≠ none:=by intro b hb;cases hb):Obs Y F σd σ H where
  thz:=hz
  tab:=htab
  obj:=fun i o e=>absurd e (h i o)
  dso:=fun i _ o _ _ _ e=>absurd e (h i o)
  dsx:=fun _ _ _ _ _ ⟨i,o,_,e,_⟩=>h i o e
  there:=hth
structure RS (Y:Dyn) (F:Hp) (σd:Sd) (σ:St) (H:Hp):Prop where
  len:σd.length = σ.length
  lo:Same Y.F0 F
  fr:Same F H
  fro:∀ b o,F b = some o -> Y.F0 b = some o \/ Y.H0 b = none
  old:∀ b o,Y.H0 b = some o -> b ∉ Y.ioA -> H b = some o
  sh:∀ (i:Nat) (d:D),σd[i]? = some (some (.sh d)) -> ∃ v,σ[i]? = some (some v) /\ Rep F v d
  own:∀ (i:Nat) (xs:List D),σd[i]? = some (some (.own xs)) -> ∃ a vs,σ[i]? = some (some (.ref a)) /\ H a = some (.lst vs) /\ RepL F vs xs /\ F a = none /\ (Y.H0 a = none \/ a ∈ Y.ioL)
  dis:∀ (i j:Nat) (xs ys:List D) (a:Addr),σd[i]? = some (some (.own xs)) -> σd[j]? = some (some (.own ys)) -> σ[i]? = some (some (.ref a)) -> σ[j]? = some (some (.ref a)) -> i = j
  io:∀ p ∈ Y.io,σ[p.1]? = some (some (.ref p.2)) /\ ∃ xs,σd[p.1]? = some (some (.own xs))
  ob:Obs Y F σd σ H

theorem same_alloc {H:Hp} {p:Addr} {o:HO} (h:H p = none):Same H (upd H p o):=fun b u e=>by
  rw [upd_ne (ne_of_none e h)];exact e
theorem same_upd {F H:Hp} {p:Addr} {o:HO} (s:Same F H):Same (upd F p o) (upd H p o):=fun b u e=>by
  by_cases hb:b = p
  · subst hb;rw [upd_same] at e ⊢;exact e
  · rw [upd_ne hb] at e ⊢;exact s b u e
theorem same_none {F H:Hp} (s:Same F H) {p:Addr} (h:H p = none):F p = none:=s.free h

theorem RS.fresh0 {Y:Dyn} {F:Hp} {σd:Sd} {σ:St} {H:Hp} {p:Addr} (R:RS Y F σd σ H) (h:H p = none):Y.H0 p = none /\ p ∉ Y.ioA:=by
  have hio:p ∉ Y.ioA:=fun hm=>by
    rcases List.mem_append.mp hm with hm | hm
    case inr=>exact R.ob.there p hm h
    obtain ⟨q,hq,e⟩:=List.mem_map.mp hm
    obtain ⟨h1,xs,h2⟩:=R.io q hq
    obtain ⟨a,vs,h3,h4,_⟩:=R.own _ _ h2
    rw [h1] at h3;cases h3
    rw [e,h] at h4;cases h4
  refine ⟨?_,hio⟩
  cases e:Y.H0 p with
  | none=>rfl
  | some o=>rw [R.old p o e hio] at h;cases h

theorem RS.alloc {Y:Dyn} {F:Hp} {σd:Sd} {σ:St} {H:Hp} {p:Addr} {o:HO} (R:RS Y F σd σ H) (h:H p = none):RS Y (upd F p o) σd σ (upd H p o) where
  len:=R.len
  lo:=R.lo.trans (same_alloc (same_none R.fr h))
  fr:=same_upd R.fr
  fro:=fun b u e=>by
    by_cases hb:b = p
    · subst hb;exact .inr (R.fresh0 h).1
    · rw [upd_ne hb] at e;exact R.fro b u e
  old:=fun b u e n=>by
    have:=R.old b u e n
    rw [upd_ne (ne_of_none this h)];exact this
  sh:=fun i d e=>by
    obtain ⟨v,h1,h2⟩:=R.sh i d e
    exact ⟨v,h1,h2.mono (same_alloc (same_none R.fr h))⟩
  own:=fun i xs e=>by
    obtain ⟨a,vs,h1,h2,h3,h4,h5⟩:=R.own i xs e
    have hne:=ne_of_none h2 h
    exact ⟨a,vs,h1,by rw [upd_ne hne];exact h2,h3.mono (same_alloc (same_none R.fr h)),by rw [upd_ne hne];exact h4,h5⟩
  dis:=R.dis
  io:=R.io
  ob:=R.ob.step (same_alloc (same_none R.fr h)) (fun i o e=>⟨e,rfl⟩) (fun b hb=>by
    obtain ⟨w1,w2,w3⟩:=R.ob.owned hb
    have hne:b ≠ p:=fun z=>w2 (z ▸ h)
    exact ⟨upd_ne hne,by rw [upd_ne hne];exact w1,w3⟩) (fun j ys b e1 e2=>R.ob.dsx j ys b e1 e2) fun b hb=>by
    have hne:b ≠ p:=fun z=>R.ob.there b hb (z ▸ h)
    rw [upd_ne hne];exact R.ob.there b hb
theorem RS.alloc0 {Y:Dyn} {F:Hp} {σd:Sd} {σ:St} {H:Hp} {p:Addr} {o:HO} (R:RS Y F σd σ H) (h:H p = none):RS Y F σd σ (upd H p o) where
  len:=R.len
  lo:=R.lo
  fr:=R.fr.trans (same_alloc h)
  fro:=R.fro
  old:=fun b u e n=>same_alloc h b u (R.old b u e n)
  sh:=R.sh
  own:=fun i xs e=>by
    obtain ⟨a,vs,h1,h2,h3,h4,h5⟩:=R.own i xs e
    exact ⟨a,vs,h1,same_alloc h a _ h2,h3,h4,h5⟩
  dis:=R.dis
  io:=R.io
  ob:=R.ob.step (Same.refl _) (fun i o e=>⟨e,rfl⟩) (fun b hb=>by
    obtain ⟨w1,w2,w3⟩:=R.ob.owned hb
    have hne:b ≠ p:=fun z=>w2 (z ▸ h)
    exact ⟨upd_ne hne,w1,w3⟩) (fun j ys b e1 e2=>R.ob.dsx j ys b e1 e2) fun b hb=>by
    have hne:b ≠ p:=fun z=>R.ob.there b hb (z ▸ h)
    rw [upd_ne hne];exact R.ob.there b hb
inductive EV where
  | val (d:D) | var (i:Nat) | own (xs:List D) | obj (o:O) | any
inductive OV where
  | val (d:D) | var (i:Nat) | any
noncomputable abbrev TX:=Sd -> (EV -> Sd -> Prop) -> Prop
noncomputable abbrev TV:=Sd -> (OV -> Sd -> Prop) -> Prop
noncomputable abbrev TD:=Sd -> (D -> Sd -> Prop) -> Prop
noncomputable abbrev TB:=Sd -> (Bool -> Sd -> Prop) -> Prop
noncomputable abbrev TDs:=Sd -> (List D -> Sd -> Prop) -> Prop

structure NoOwn (σd:Sd) (σ:St) (a:Addr):Prop where
  own:∀ (j:Nat) (ys:List D),σd[j]? = some (some (.own ys)) -> σ[j]? ≠ some (some (.ref a))
  nob:¬ Owned σd σ a
instance {σd:Sd} {σ:St} {a:Addr}:CoeFun (NoOwn σd σ a) fun _=>∀ (j:Nat) (ys:List D),σd[j]? = some (some (.own ys)) -> σ[j]? ≠ some (some (.ref a)):=⟨NoOwn.own⟩
theorem RS.noFresh {Y:Dyn} {F:Hp} {σd:Sd} {σ:St} {H:Hp} (R:RS Y F σd σ H) {a:Addr} (h:H a = none):NoOwn σd σ a:=by
  refine ⟨fun j ys e z=>?_,fun z=>(R.ob.owned z).2.1 h⟩
  obtain ⟨b,us,e1,e2,_⟩:=R.own j ys e
  rw [e1] at z;cases z
  rw [h] at e2;cases e2
noncomputable def RepO (F:Hp) (σ:St) (v:V):OV -> Prop
  | .val d=>Rep F v d
  | .var i=>σ[i]? = some (some v)
  | .any=>True
noncomputable def RepX (Y:Dyn) (F H:Hp) (σd:Sd) (σ:St) (v:V):EV -> Prop
  | .val d=>Rep F v d
  | .var i=>σ[i]? = some (some v)
  | .own xs=>∃ a vs,v = .ref a /\ H a = some (.lst vs) /\ RepL F vs xs /\ F a = none /\ Y.H0 a = none /\ NoOwn σd σ a
  | .obj o=>∃ a,v = .ref a /\ o.rep F H a /\ ∀ b ∈ o.fp a,F b = none /\ H b ≠ none /\ Y.H0 b = none /\ NoOwn σd σ b
  | .any=>True

noncomputable def lX (Y:Dyn) (t:TX):TE:=fun σ H Q=>∃ F σd Qd,RS Y F σd σ H /\ t σd Qd /\ ∀ v H' F' x σd',Same F F' -> RS Y F' σd' σ H' -> RepX Y F' H' σd' σ v x -> Qd x σd' -> Q v H'
noncomputable def lO (Y:Dyn) (t:TV):TE:=fun σ H Q=>∃ F σd Qd,RS Y F σd σ H /\ t σd Qd /\ ∀ v H' F' x σd',Same F F' -> RS Y F' σd' σ H' -> RepO F' σ v x -> Qd x σd' -> Q v H'
noncomputable def lD (Y:Dyn) (t:TD):TE:=fun σ H Q=>∃ F σd Qd,RS Y F σd σ H /\ t σd Qd /\ ∀ v H' F' x σd',Same F F' -> RS Y F' σd' σ H' -> Rep F' v x -> Qd x σd' -> Q v H'
noncomputable def lB (Y:Dyn) (t:TB):TT:=fun σ H Q=>∃ F σd Qd,RS Y F σd σ H /\ t σd Qd /\ ∀ b H' F' σd',Same F F' -> RS Y F' σd' σ H' -> Qd b σd' -> Q b H'
noncomputable def lDs (Y:Dyn) (t:TDs):TA:=fun σ H Q=>∃ F σd Qd,RS Y F σd σ H /\ t σd Qd /\ ∀ vs H' F' xs σd',Same F F' -> RS Y F' σd' σ H' -> RepL F' vs xs -> Qd xs σd' -> Q vs H'

structure GE where
  P:Program
  w:World
  K:PySem.W.Frag
  mg:Str -> Option Value
  base:Heap
structure Stat where
  N:List Str
  sc:List (Str × NameKind)
  ios:List Nat:=[]
  blk:Bool:=false
  /-- within an except suite -/
  hot:Bool:=false
  /-- a raise may stand here -/
  rs:Bool:=false
  /-- what is wanted where an exception of a class leaves -/
  ex:Str -> Sd -> Prop:=fun _ _=>False
noncomputable def flyO (a T:Addr) (c:Str):HO:=.ext fun h=>∃ o vs a0,h.get? a = some o /\ o.cls = .ref (KF.cls c) /\ o.data = .fields vs /\ vs[0]? = some a0 /\ vs[1]? = some (.ref T)
noncomputable def tbO (T:Addr):HO:=.ext fun h=>∃ o ts,h.get? T = some o /\ o.data = .fields ts /\ ts[3]? = some .none
structure Flies (X:Cx) (Y:Dyn) (F H:Hp) (a T:Addr) (c:Str):Prop where
  fa:F a = none
  fT:F T = none
  ha:H a = some (flyO a T c)
  hT:H T = some (tbO T)
  ne:a ≠ T
  na:Y.H0 a = none
  nT:Y.H0 T = none
  la:X.s₀.heap.get? a = none
  lT:X.s₀.heap.get? T = none
noncomputable def newO (a:Addr) (c:Str):HO:=.ext fun h=>∃ o vs a0,h.get? a = some o /\ o.cls = .ref (KF.cls c) /\ o.data = .fields vs /\ vs[0]? = some a0 /\ vs[1]? = some .none
structure XOk (X:Cx) (G:GE) (k:Nat) (S:Stat) (Y:Dyn):Prop where
  P:X.prog = G.P
  w:X.w = G.w
  K:X.K = G.K
  kf:X.K = KF.K
  mg:X.mg = G.mg
  base:X.base = G.base
  N:X.N = S.N
  sc:X.env.scope.names = S.sc
  nd:S.N.Nodup
  ios:∀ p ∈ Y.io,p.1 ∈ S.ios
  obs:S.blk = false -> S.ios = [] -> Y.ob = []
  calm:S.hot = false -> X.calm = true
  kind:X.env.scope.kind = .function
  fn:S.blk = false -> ∀ x,S.sc.lookup x = some .cell -> X.fn x = true
  hd:S.hot = false -> X.A.handled = none
  dp:X.A.depth + 3 * k + 5 < recursionLimit
  un:X.A.units + 16 * k + 200 < cLine
  po:S.hot = false -> PassesOwn (model X.prog X.w) X.A X.env X.xe
  nx:S.blk = false -> X.ex = [] /\ X.stack = X.env :: X.outer /\ X.env.frame = some X.env.locals
  exc:∀ c σd,S.ex c σd -> ∀ pins σ H F s a T,L2.Inv X pins σ H s -> RS Y F σd σ H -> Flies X Y F H a T c -> X.xe (.ref a) s
  made:S.rs = true -> ∀ c σd,S.ex c σd -> ∀ pins σ H F s a,L2.Inv X pins σ H s -> RS Y F σd σ H -> H a = some (newO a c) -> Y.H0 a = none -> X.s₀.heap.get? a = none -> X.xe (.ref a) s
theorem XOk.room {X:Cx} {G:GE} {k:Nat} {S:Stat} {Y:Dyn} (ok:XOk X G k S Y) (h:S.hot = false):Room k X.A:=⟨ok.hd h,ok.dp,ok.un⟩
theorem XOk.units {X:Cx} {G:GE} {k:Nat} {S:Stat} {Y:Dyn} (ok:XOk X G k S Y):X.A.units + 64 < cLine:=by have:=ok.un;omega

variable {G:GE} {k:Nat} {S:Stat}
structure EX (G:GE) (k:Nat) (S:Stat) (e:Expr) (t:TX) :Prop where
  run:∀ X Y,XOk X G k S Y -> PE X e (lX Y t)
instance {G:GE} {k:Nat} {S:Stat} {e:Expr} {t:TX} :CoeFun (EX G k S e t) fun _=>∀ X Y,XOk X G k S Y -> PE X e (lX Y t):=⟨EX.run⟩
structure EO (G:GE) (k:Nat) (S:Stat) (e:Expr) (t:TV) :Prop where
  run:∀ X Y,XOk X G k S Y -> PE X e (lO Y t)
instance {G:GE} {k:Nat} {S:Stat} {e:Expr} {t:TV} :CoeFun (EO G k S e t) fun _=>∀ X Y,XOk X G k S Y -> PE X e (lO Y t):=⟨EO.run⟩
structure ED (G:GE) (k:Nat) (S:Stat) (e:Expr) (t:TD) :Prop where
  run:∀ X Y,XOk X G k S Y -> PE X e (lD Y t)
instance {G:GE} {k:Nat} {S:Stat} {e:Expr} {t:TD} :CoeFun (ED G k S e t) fun _=>∀ X Y,XOk X G k S Y -> PE X e (lD Y t):=⟨ED.run⟩
structure EB (G:GE) (k:Nat) (S:Stat) (e:Expr) (t:TB) :Prop where
  run:∀ X Y,XOk X G k S Y -> PT X e (lB Y t)
instance {G:GE} {k:Nat} {S:Stat} {e:Expr} {t:TB} :CoeFun (EB G k S e t) fun _=>∀ X Y,XOk X G k S Y -> PT X e (lB Y t):=⟨EB.run⟩
structure EDs (G:GE) (k:Nat) (S:Stat) (es:List Expr) (t:TDs) :Prop where
  run:∀ X Y,XOk X G k S Y -> PA X es (lDs Y t)
instance {G:GE} {k:Nat} {S:Stat} {es:List Expr} {t:TDs} :CoeFun (EDs G k S es t) fun _=>∀ X Y,XOk X G k S Y -> PA X es (lDs Y t):=⟨EDs.run⟩

noncomputable def plainE:Expr -> Bool
  | .Starred _ _=>false
  | _=>true
theorem se_cons {e:Expr} {es:List Expr} {env:Env} (h:plainE e = true):starEach (e :: es) env = (false,eval e env) :: starEach es env:=by
  cases e<;>first | rfl | cases h
theorem pe_imp {X:Cx} {e:Expr} {t t':TE} (h:PE X e t) (i:∀ σ H Q,t' σ H Q -> t σ H Q):PE X e t':=fun pins s σ H Q I q=>h pins s σ H Q I (i σ H Q q)
theorem pt_imp {X:Cx} {e:Expr} {t t':TT} (h:PT X e t) (i:∀ σ H Q,t' σ H Q -> t σ H Q):PT X e t':=fun pins s σ H Q I q=>h pins s σ H Q I (i σ H Q q)
theorem pa_imp {X:Cx} {e:List Expr} {t t':TA} (h:PA X e t) (i:∀ σ H Q,t' σ H Q -> t σ H Q):PA X e t':=fun pos pins s σ H Q I q=>h pos pins s σ H Q I (i σ H Q q)
theorem ps_imp {X:Cx} {e:Stmt} {t t':TS} (h:PS X e t) (i:∀ D σ H,t' D σ H -> t D σ H):PS X e t':=fun pins s σ H D I q=>h pins s σ H D I (i D σ H q)
theorem pss_imp {X:Cx} {e:List Stmt} {t t':TS} (h:PSs X e t) (i:∀ D σ H,t' D σ H -> t D σ H):PSs X e t':=fun pins s σ H D I q=>h pins s σ H D I (i D σ H q)

theorem RS.freezeNew {Y:Dyn} {F:Hp} {σd:Sd} {σ:St} {H:Hp} {a:Addr} {vs:List V} (R:RS Y F σd σ H) (h1:H a = some (.lst vs)) (h2:F a = none) (h3:NoOwn σd σ a) (h4:Y.H0 a = none):RS Y (upd F a (.lst vs)) σd σ H where
  len:=R.len
  lo:=R.lo.trans (same_alloc h2)
  fr:=fun b o e=>by
    by_cases hb:b = a
    · subst hb;rw [upd_same] at e;cases e;exact h1
    · rw [upd_ne hb] at e;exact R.fr b o e
  fro:=fun b u e=>by
    by_cases hb:b = a
    · subst hb;exact .inr h4
    · rw [upd_ne hb] at e;exact R.fro b u e
  old:=R.old
  sh:=fun i d e=>by
    obtain ⟨v,q1,q2⟩:=R.sh i d e
    exact ⟨v,q1,q2.mono (same_alloc h2)⟩
  own:=fun i xs e=>by
    obtain ⟨b,us,q1,q2,q3,q4,q5⟩:=R.own i xs e
    have hne:b ≠ a:=fun z=>h3 i xs e (by rw [q1,z])
    exact ⟨b,us,q1,q2,q3.mono (same_alloc h2),by rw [upd_ne hne];exact q4,q5⟩
  dis:=R.dis
  io:=R.io
  ob:=R.ob.step (same_alloc h2) (fun i o e=>⟨e,rfl⟩) (fun b hb=>by
    obtain ⟨w1,w2,w3⟩:=R.ob.owned hb
    have hne:b ≠ a:=fun z=>h3.nob (z ▸ hb)
    exact ⟨rfl,by rw [upd_ne hne];exact w1,w3⟩) (fun j ys b e1 e2=>R.ob.dsx j ys b e1 e2) R.ob.there

noncomputable def fzV:EV -> OV
  | .val d=>.val d
  | .var i=>.var i
  | .own xs=>.val (.lst xs)
  | .obj _=>.any
  | .any=>.any
noncomputable def tFz (t:TX):TV:=fun σ Q=>t σ fun x σ1=>Q (fzV x) σ1
theorem r_o {e:Expr} {t:TX} (h:EX G k S e t):EO G k S e (tFz t):=.mk fun X Y ok=>pe_imp (h X Y ok) fun σ H Q q=>by
  obtain ⟨F,σd,Qd,R,q,K⟩:=q
  refine ⟨F,σd,_,R,q,fun v H' F' x σd' s R' r q'=>?_⟩
  cases x with
  | val d=>exact K v H' F' (.val d) σd' s R' r q'
  | var i=>exact K v H' F' (.var i) σd' s R' r q'
  | own xs =>
    obtain ⟨a,vs,rfl,h1,h2,h3,h4,h5⟩:=r
    exact K _ H' _ (.val (.lst xs)) σd' (s.trans (same_alloc h3)) (R'.freezeNew h1 h3 h5 h4) (.lst (.inl upd_same) (h2.mono (same_alloc h3))) q'
  | obj o=>exact K v H' F' .any σd' s R' trivial q'
  | any=>exact K v H' F' .any σd' s R' trivial q'
noncomputable def oxV:OV -> EV
  | .val d=>.val d
  | .var i=>.var i
  | .any=>.any
noncomputable def oX (t:TV):TX:=fun σ Q=>t σ fun x σ1=>Q (oxV x) σ1
theorem r_x {e:Expr} {t:TV} (h:EO G k S e t):EX G k S e (oX t):=.mk fun X Y ok=>pe_imp (h X Y ok) fun σ H Q q=>by
  obtain ⟨F,σd,Qd,R,q,K⟩:=q
  refine ⟨F,σd,_,R,q,fun v H' F' x σd' s R' r q'=>?_⟩
  cases x with
  | val d=>exact K v H' F' (.val d) σd' s R' r q'
  | var i=>exact K v H' F' (.var i) σd' s R' r q'
  | any=>exact K v H' F' .any σd' s R' trivial q'

theorem set_get_self {α:Type} {l:List (Option α)} {i:Nat} {x:α} {y:Option α} (h:l[i]? = some (some x)):(l.set i y)[i]? = some y:=by
  have:=(List.getElem?_eq_some_iff.mp h).1
  rw [List.getElem?_set_self this]
theorem set_get_ne {α:Type} {l:List (Option α)} {i j:Nat} {y:Option α} (h:j ≠ i):(l.set i y)[j]? = l[j]?:=by
  rw [List.getElem?_set_ne (Ne.symm h)]

theorem RS.freezeVar {Y:Dyn} {F:Hp} {σd:Sd} {σ:St} {H:Hp} {i:Nat} {xs:List D} (R:RS Y F σd σ H) (h:σd[i]? = some (some (.own xs))) (hio:∀ p ∈ Y.io,p.1 ≠ i) :
    ∃ F' v,Same F F' /\ RS Y F' (σd.set i (some (.sh (.lst xs)))) σ H /\ σ[i]? = some (some v) /\ Rep F' v (.lst xs):=by
  obtain ⟨a,vs,q1,q2,q3,q4,q5⟩:=R.own i xs h
  have sm:=same_alloc (o:=.lst vs) q4
  have rep:Rep (upd F a (.lst vs)) (.ref a) (.lst xs):=.lst (.inl upd_same) (q3.mono sm)
  have nio:Y.H0 a = none:=by
    rcases q5 with q5 | q5
    · exact q5
    · obtain ⟨p,hp,e⟩:=List.mem_map.mp q5
      obtain ⟨w1,ys,w2⟩:=R.io p hp
      exact absurd (R.dis p.1 i ys xs a w2 h (by rw [w1,e]) q1) (hio p hp)
  have obF:Obs Y (upd F a (.lst vs)) (σd.set i (some (.sh (.lst xs)))) σ H:=R.ob.step sm (fun j o e=>by
    have hj:j ≠ i:=fun z=>by subst z;rw [set_get_self h] at e;cases e
    rw [set_get_ne hj] at e
    exact ⟨e,rfl⟩) (fun b hb=>by
    obtain ⟨w1,w2,w3⟩:=R.ob.owned hb
    have hne:b ≠ a:=fun z=>R.ob.dsx i xs a h q1 (z ▸ hb)
    exact ⟨rfl,by rw [upd_ne hne];exact w1,w3⟩) (fun j ys b e1 e2=>by
    have hj:j ≠ i:=fun z=>by subst z;rw [set_get_self h] at e1;cases e1
    rw [set_get_ne hj] at e1
    exact R.ob.dsx j ys b e1 e2) R.ob.there
  refine ⟨upd F a (.lst vs),.ref a,sm,⟨by simpa using R.len,R.lo.trans sm,fun b o e=>?_,fun b o e=>?_,R.old,fun j d e=>?_,fun j ys e=>?_,fun j l ys zs b e1 e2 e3 e4=>?_,fun p hp=>?_,obF⟩,q1,rep⟩
  · by_cases hb:b = a
    · subst hb;rw [upd_same] at e;cases e;exact q2
    · rw [upd_ne hb] at e;exact R.fr b o e
  · by_cases hb:b = a
    · subst hb;exact .inr nio
    · rw [upd_ne hb] at e;exact R.fro b o e
  · by_cases hj:j = i
    · subst hj
      rw [set_get_self h] at e;cases e
      exact ⟨_,q1,rep⟩
    · rw [set_get_ne hj] at e
      obtain ⟨v,w1,w2⟩:=R.sh j d e
      exact ⟨v,w1,w2.mono sm⟩
  · have hj:j ≠ i:=fun z=>by subst z;rw [set_get_self h] at e;cases e
    rw [set_get_ne hj] at e
    obtain ⟨b,us,w1,w2,w3,w4,w5⟩:=R.own j ys e
    have hne:b ≠ a:=fun z=>hj (R.dis j i ys xs a e h (z ▸ w1) q1)
    exact ⟨b,us,w1,w2,w3.mono sm,by rw [upd_ne hne];exact w4,w5⟩
  · have hj:j ≠ i:=fun z=>by subst z;rw [set_get_self h] at e1;cases e1
    have hl:l ≠ i:=fun z=>by subst z;rw [set_get_self h] at e2;cases e2
    rw [set_get_ne hj] at e1;rw [set_get_ne hl] at e2
    exact R.dis j l ys zs b e1 e2 e3 e4
  · obtain ⟨w1,ys,w2⟩:=R.io p hp
    exact ⟨w1,ys,by rw [set_get_ne (hio p hp)];exact w2⟩

noncomputable def valQ (ios:List Nat) (x:OV) (σ1:Sd) (Q:D -> Sd -> Prop):Prop:=match x with
  | .val d=>Q d σ1
  | .any=>False
  | .var i=>match σ1[i]? with
    | some (some (.own xs))=>i ∉ ios /\ Q (.lst xs) (σ1.set i (some (.sh (.lst xs))))
    | some (some (.sh d))=>Q d σ1
    | _=>False
theorem valQ_val {ios:List Nat} {d:D} {σ1:Sd} {Q:D -> Sd -> Prop}:valQ ios (.val d) σ1 Q = Q d σ1:=rfl
theorem valQ_var {ios:List Nat} {i:Nat} {σ1:Sd} {Q:D -> Sd -> Prop}:valQ ios (.var i) σ1 Q = (match σ1[i]? with
    | some (some (.own xs))=>i ∉ ios /\ Q (.lst xs) (σ1.set i (some (.sh (.lst xs))))
    | some (some (.sh d))=>Q d σ1
    | _=>False):=rfl
noncomputable def tVal (ios:List Nat) (t:TV):TD:=fun σ Q=>t σ fun x σ1=>valQ ios x σ1 Q
theorem r_d {e:Expr} {t:TV} (h:EO G k S e t):ED G k S e (tVal S.ios t):=.mk fun X Y ok=>pe_imp (h X Y ok) fun σ H Q q=>by
  obtain ⟨F,σd,Qd,R,q,K⟩:=q
  refine ⟨F,σd,_,R,q,fun v H' F' x σd' s R' r q'=>?_⟩
  cases x with
  | val d=>exact K v H' F' d σd' s R' r q'
  | any=>exact False.elim q'
  | var i =>
    have r:σ[i]? = some (some v):=r
    rw [valQ_var] at q'
    split at q'
    · rename_i xs e
      obtain ⟨hi,q'⟩:=q'
      obtain ⟨F2,v2,s2,R2,e2,r2⟩:=R'.freezeVar e fun p hp z=>hi (z ▸ ok.ios p hp)
      rw [r] at e2;cases e2
      exact K v H' F2 _ _ (s.trans s2) R2 r2 q'
    · rename_i d e
      obtain ⟨v2,e2,r2⟩:=R'.sh i d e
      rw [r] at e2;cases e2
      exact K v H' F' d σd' s R' r2 q'
    · exact q'.elim

noncomputable def tVarD (i:Nat):TV:=fun σ Q=>match σ[i]? with
  | some (some (.sh d))=>Q (.val d) σ
  | some (some (.own _))=>Q (.var i) σ
  | _=>False
theorem r_var (i:Nat) {x:Str} {pos:Pos} (hN:S.N[i]? = some x:=by rfl) (hv:S.sc.lookup x = some .local \/ S.sc.lookup x = some .cell \/ S.sc.lookup x = some .free:=by first | exact Or.inl rfl | exact Or.inr (Or.inl rfl) | exact Or.inr (Or.inr rfl))
    (hd:(x == ("__debug__":Str)) = false:=by decide) (hcd:(x == ("__classdict__":Str)) = false:=by decide):EO G k S (.Name x pos) (tVarD i):=.mk fun X Y ok =>
  pe_imp (pe_var (X:=X) (i:=i) (by rw [ok.N];exact hN) (by unfold Vis;rw [ok.sc];exact hv) hd hcd) fun σ H Q q=>by
    obtain ⟨F,σd,Qd,R,q,K⟩:=q
    unfold tVarD at q
    split at q
    · rename_i d e
      obtain ⟨v,e2,r2⟩:=R.sh i d e
      exact ⟨v,e2,K v H F (.val d) σd (Same.refl _) R r2 q⟩
    · rename_i xs e
      obtain ⟨a,vs,e2,_⟩:=R.own i xs e
      exact ⟨_,e2,K _ H F (.var i) σd (Same.refl _) R e2 q⟩
    · exact q.elim
noncomputable def tCD (d:D):TV:=fun σ Q=>Q (.val d) σ
theorem lO_con {Y:Dyn} {v:V} {d:D} (r:∀ F,Rep F v d) (σ:St) (H:Hp) (Q:VK) (q:lO Y (tCD d) σ H Q):tC v σ H Q:=by
  obtain ⟨F,σd,Qd,R,q,K⟩:=q
  exact K v H F (.val d) σd (Same.refl _) R (r F) q
theorem r_int {i j pos}:EO G k S (.Constant (.int i) j pos) (tCD (.int i)):=.mk fun _ _ _=>pe_imp pe_int (lO_con fun _=>.int i)
theorem r_bl {b j pos}:EO G k S (.Constant (.bool b) j pos) (tCD (.bl b)):=.mk fun _ _ _=>pe_imp pe_bl (lO_con fun _=>.bl b)
theorem r_non {j pos}:EO G k S (.Constant .none j pos) (tCD .non):=.mk fun _ _ _=>pe_imp pe_non (lO_con fun _=>.non)
theorem r_str {x j pos}:EO G k S (.Constant (.str x) j pos) (tCD (.str x)):=.mk fun _ _ _=>pe_imp pe_str (lO_con fun _=>.str x)
noncomputable def ConG (G:GE) (x:Str) (d:D):Prop:=∃ u v,G.mg x = some u /\ RelV v u /\ ∀ F,Rep F v d
theorem gl_of {X:Cx} {Y:Dyn} (ok:XOk X G k S Y) {x:Str} (h:S.sc.lookup x = some .globalImplicit):Gl X x:=by
  unfold Gl
  show X.env.scope.names.lookup x = _
  rw [ok.sc];exact h
theorem r_con {x:Str} {d:D} {pos:Pos} (h:ConG G x d) (hg:S.sc.lookup x = some .globalImplicit:=by rfl) (hd:(x == ("__debug__":Str)) = false:=by decide):EO G k S (.Name x pos) (tCD d):=.mk fun X Y ok=>by
  obtain ⟨u,v,h1,h2,h3⟩:=h
  exact pe_imp (pe_glob (gl_of ok hg) (by rw [ok.mg];exact h1) h2 hd) (lO_con h3)

noncomputable def RepH (F H:Hp) (v:V) (d:D):Prop:=match d with
  | .lst xs=>∃ a vs,v = .ref a /\ Rd H a (.lst vs) /\ RepL F vs xs
  | d=>Rep F v d
noncomputable def drf (σ:Sd):OV -> Option D
  | .val d=>some d
  | .any=>none
  | .var i=>match σ[i]? with
    | some (some (.sh d))=>some d
    | some (some (.own xs))=>some (.lst xs)
    | _=>none
theorem Rep.h {F H:Hp} (s:Same F H) {v:V} {d:D} (r:Rep F v d):RepH F H v d:=by
  cases d with
  | lst xs =>
    cases r with
    | lst h r=>exact ⟨_,_,rfl,Rd.mono s h,r⟩
  | _=>exact r
theorem RS.drf {Y:Dyn} {F:Hp} {σd:Sd} {σ:St} {H:Hp} (R:RS Y F σd σ H) {v:V} {x:OV} {d:D} (r:RepO F σ v x) (e:drf σd x = some d):RepH F H v d:=by
  cases x with
  | val d'=>cases e;exact Rep.h R.fr r
  | any=>cases e
  | var i =>
    have r:σ[i]? = some (some v):=r
    have e:(match σd[i]? with | some (some (.sh d))=>some d | some (some (.own xs))=>some (.lst xs) | _=>none) = some d:=e
    split at e
    · rename_i d' q
      cases e
      obtain ⟨v2,e2,r2⟩:=R.sh i d q
      rw [r] at e2;cases e2
      exact Rep.h R.fr r2
    · rename_i xs q
      cases e
      obtain ⟨a,vs,e2,h2,h3,_⟩:=R.own i xs q
      rw [r] at e2;cases e2
      exact ⟨a,vs,rfl,.inl h2,h3⟩
    · cases e
theorem RepH.int {F H:Hp} {v:V} {i:Int} (r:RepH F H v (.int i)):v = .int i:=by cases (show Rep F v (.int i) from r);rfl
theorem RepH.bl {F H:Hp} {v:V} {i:Bool} (r:RepH F H v (.bl i)):v = .bl i:=by cases (show Rep F v (.bl i) from r);rfl
theorem RepH.str {F H:Hp} {v:V} {i:Str} (r:RepH F H v (.str i)):v = .str i:=by cases (show Rep F v (.str i) from r);rfl
theorem RepH.non {F H:Hp} {v:V} (r:RepH F H v .non):v = .non:=by cases (show Rep F v .non from r);rfl
theorem RepH.tup {F H:Hp} (s:Same F H) {v:V} {xs:List D} (r:RepH F H v (.tup xs)):∃ a vs,v = .ref a /\ H a = some (.tup vs) /\ RepL F vs xs:=by
  cases (show Rep F v (.tup xs) from r) with
  | tup h r=>exact ⟨_,_,rfl,s _ _ h,r⟩
theorem RepH.lst {F H:Hp} {v:V} {xs:List D} (r:RepH F H v (.lst xs)):∃ a vs,v = .ref a /\ Rd H a (.lst vs) /\ RepL F vs xs:=r

noncomputable def Goes (Y:Dyn) (F:Hp) (σd:Sd) (σ:St) (Qd:EV -> Prop) (Q:VK):Prop:=∀ v H' F' r,Same F F' -> RS Y F' σd σ H' -> RepX Y F' H' σd σ v r -> Qd r -> Q v H'
theorem Goes.val {Y:Dyn} {F:Hp} {σd:Sd} {σ:St} {Qd:EV -> Prop} {Q:VK} (g:Goes Y F σd σ Qd Q) {H:Hp} (R:RS Y F σd σ H) {v:V} {d:D} (r:Rep F v d) (q:Qd (.val d)):Q v H:=g v H F (.val d) (Same.refl _) R r q
theorem Goes.own {Y:Dyn} {F:Hp} {σd:Sd} {σ:St} {Qd:EV -> Prop} {Q:VK} (g:Goes Y F σd σ Qd Q) {H:Hp} (R:RS Y F σd σ H) {vs:List V} {xs:List D} (r:RepL F vs xs) (q:Qd (.own xs)):∀ p,H p = none -> Q (.ref p) (upd H p (.lst vs)):=fun p hp=>by
  refine g (.ref p) _ F (.own xs) (Same.refl _) (R.alloc0 hp) ⟨p,vs,rfl,upd_same,r,same_none R.fr hp,(R.fresh0 hp).1,⟨fun j ys e z=>?_,fun z=>(R.ob.owned z).2.1 hp⟩⟩ q
  obtain ⟨a,us,e1,e2,_⟩:=R.own j ys e
  rw [e1] at z;cases z
  rw [hp] at e2;cases e2
theorem Goes.tup {Y:Dyn} {F:Hp} {σd:Sd} {σ:St} {Qd:EV -> Prop} {Q:VK} (g:Goes Y F σd σ Qd Q) {H:Hp} (R:RS Y F σd σ H) {vs:List V} {xs:List D} (r:RepL F vs xs) (q:Qd (.val (.tup xs))):∀ p,H p = none -> Q (.ref p) (upd H p (.tup vs)):=fun p hp=>by
  have sm:=same_alloc (o:=.tup vs) (same_none R.fr hp)
  exact g (.ref p) _ _ (.val (.tup xs)) sm (R.alloc hp) (.tup upd_same (r.mono sm)) q
noncomputable def OpSound (r:R2) (f:D -> D -> (EV -> Prop) -> Prop):Prop :=
  ∀ Y F H σd σ v u x y Qd Q,RS Y F σd σ H -> RepH F H v x -> RepH F H u y -> f x y Qd -> Goes Y F σd σ Qd Q -> r v u H Q
noncomputable def tBin (f:D -> D -> (EV -> Prop) -> Prop) (ta tb:TV):TX:=fun σ Q=>ta σ fun x σ1=>tb σ1 fun y σ2=>match drf σ2 x,drf σ2 y with
  | some a,some b=>f a b fun r=>Q r σ2
  | _,_=>False
theorem RepO.mono {F F':Hp} (s:Same F F') {σ:St} {v:V} {x:OV} (r:RepO F σ v x):RepO F' σ v x:=by
  cases x with
  | val d=>exact Rep.mono s r
  | var i=>exact r
  | any=>trivial
theorem tBin_sound {Y:Dyn} {r:R2} {f:D -> D -> (EV -> Prop) -> Prop} (hs:OpSound r f) {ta tb:TV} {σ:St} {H:Hp} {Q:VK} (q:lX Y (tBin f ta tb) σ H Q):tOp r (lO Y ta) (lO Y tb) σ H Q:=by
  obtain ⟨F,σd,Qd,R,q,K⟩:=q
  refine ⟨F,σd,_,R,q,fun v1 H1 F1 x σ1 s1 R1 r1 q1=>?_⟩
  refine ⟨F1,σ1,_,R1,q1,fun v2 H2 F2 y σ2 s2 R2 r2 q2=>?_⟩
  split at q2
  · rename_i a b ea eb
    exact hs Y F2 H2 σ2 σ v1 v2 a b _ Q R2 (R2.drf (r1.mono s2) ea) (R2.drf r2 eb) q2 fun v H' F' r s R' rr qq=>K v H' F' r σ2 ((s1.trans s2).trans s) R' rr qq
  · exact q2.elim
theorem r_bin {op:Operator} {f:D -> D -> (EV -> Prop) -> Prop} {r:PySem.W.Frag -> R2} (ho:∀ X,OpR X (binaryOp op) (r X.K)) (hs:∀ K,OpSound (r K) f) {a b:Expr} {ta tb:TV} {pos:Pos} (ha:EO G k S a ta) (hb:EO G k S b tb) :
    EX G k S (.BinOp a op b pos) (tBin f ta tb):=.mk fun X Y ok=>pe_imp (pe_op (ho X) (ha X Y ok) (hb X Y ok)) fun σ H Q q=>tBin_sound (hs X.K) q

noncomputable def addD:D -> D -> (EV -> Prop) -> Prop
  | .int i,.int j,Q=>Q (.val (.int (i + j)))
  | .str a,.str b,Q=>a.length + b.length <= sizeLine /\ Q (.val (.str (a ++ b)))
  | .lst a,.lst b,Q=>a.length + b.length <= sizeLine /\ Q (.own (a ++ b))
  | .tup a,.tup b,Q=>(a ≠ [] /\ a.length + b.length <= sizeLine) /\ Q (.val (.tup (a ++ b)))
  | _,_,_=>False
noncomputable def rCatS:R2:=fun x y H Q=>∃ l b xs zs,x = .ref l /\ y = .ref b /\ Rd H l (.lst xs) /\ Rd H b (.lst zs) /\ xs.length + zs.length <= sizeLine /\ ∀ p,H p = none -> Q (.ref p) (upd H p (.lst (xs ++ zs)))
theorem Inv.rdL {X:Cx} {pins:List (Addr × Obj)} {σ:St} {H:Hp} {s:Shared} {l:Addr} {xs:List V} (I:L2.Inv X pins σ H s) (h:Rd H l (.lst xs)) :
    xs.length <= sizeLine /\ ∃ (its:List Value) (n:Nat),Vals xs its /\ xs.length = its.length /\ s.heap.get? l = some { cls:=.type "list",data:=.seq its.toArray n }:=by
  obtain ⟨z,its,n,r,e⟩:=L2.Rd.ok h I.hok
  exact ⟨z,its,n,r,r.length,e⟩
theorem op_catS {X:Cx}:OpR X (binaryOp .Add) rCatS:=by
  intro pins s σ H x y v u Q I rx ry h
  obtain ⟨l,b,xs,zs,rfl,rfl,hH,hB,hz,q⟩:=h
  cases rx
  cases ry
  obtain ⟨z,its,n,r,hl,e⟩:=Inv.rdL I hH
  obtain ⟨z2,its2,n2,r2,hl2,e2⟩:=Inv.rdL I hB
  refine PySem.P.add_list e e2 ?_ (by rw [List.size_toArray,List.size_toArray];omega)
  have ea:its.toArray ++ its2.toArray = (its ++ its2).toArray:=by simp
  rw [ea]
  exact ⟨.ref _,_,I.lnew (t':=s.toks) (r.append r2) (by rw [List.length_append];omega),rfl,q _ I.fresh⟩
noncomputable def rAdd (K:PySem.W.Frag):R2:=fun x y H Q=>(∃ i j,x = .int i /\ y = .int j /\ Q (.int (i + j)) H) \/ (∃ i j,x = .str i /\ y = .str j /\ i.length + j.length <= sizeLine /\ Q (.str (i ++ j)) H) \/ rCatS x y H Q \/ rCatT K x y H Q
theorem op_addAll {X:Cx}:OpR X (binaryOp .Add) (rAdd X.K):=op_add.or (op_add_str.or (op_catS.or op_catT))
theorem add_sound (K:PySem.W.Frag):OpSound (rAdd K) addD:=by
  intro Y F H σd σ v u x y Qd Q R rx ry q g
  unfold addD at q
  split at q
  · obtain rfl:=rx.int;obtain rfl:=ry.int
    exact .inl ⟨_,_,rfl,rfl,g.val R (.int _) q⟩
  · obtain rfl:=rx.str;obtain rfl:=ry.str
    exact .inr (.inl ⟨_,_,rfl,rfl,q.1,g.val R (.str _) q.2⟩)
  · obtain ⟨a,vs,rfl,h1,r1⟩:=rx.lst;obtain ⟨b,us,rfl,h2,r2⟩:=ry.lst
    exact .inr (.inr (.inl ⟨a,b,vs,us,rfl,rfl,h1,h2,by rw [r1.length,r2.length];exact q.1,g.own R (r1.append r2) q.2⟩))
  · have rx':=rx
    obtain ⟨a,vs,rfl,h1,r1⟩:=rx.tup R.fr;obtain ⟨b,us,rfl,h2,r2⟩:=ry.tup R.fr
    refine .inr (.inr (.inr ⟨a,b,vs,us,rfl,rfl,.of h1,.of h2,fun z=>?_,by rw [r1.length,r2.length];exact q.1.2,fun z=>?_,fun _=>g.tup R (r1.append r2) q.2⟩))
    · subst z
      cases r1
      exact q.1.1 rfl
    · subst z
      cases r2
      rw [List.append_nil] at q
      exact g.val R rx' q.2
  · exact q.elim
theorem r_add {a b:Expr} {ta tb:TV} {pos:Pos} (ha:EO G k S a ta) (hb:EO G k S b tb):EX G k S (.BinOp a .Add b pos) (tBin addD ta tb):=r_bin (r:=rAdd) (fun _=>op_addAll) add_sound ha hb
noncomputable def iiD (C:Int -> Int -> Prop) (g:Int -> Int -> Int):D -> D -> (EV -> Prop) -> Prop
  | .int i,.int j,Q=>C i j /\ Q (.val (.int (g i j)))
  | _,_,_=>False
theorem ii_sound {C:Int -> Int -> Prop} {g:Int -> Int -> Int}:OpSound (rI C fun i j=>.int (g i j)) (iiD C g):=by
  intro Y F H σd σ v u x y Qd Q R rx ry q gg
  unfold iiD at q
  split at q
  · obtain rfl:=rx.int;obtain rfl:=ry.int
    exact ⟨_,_,rfl,rfl,q.1,gg.val R (.int _) q.2⟩
  · exact q.elim
noncomputable def iiD0 (g:Int -> Int -> Int):D -> D -> (EV -> Prop) -> Prop
  | .int i,.int j,Q=>Q (.val (.int (g i j)))
  | _,_,_=>False
theorem ii0_sound {g:Int -> Int -> Int}:OpSound (rI0 fun i j=>.int (g i j)) (iiD0 g):=by
  intro Y F H σd σ v u x y Qd Q R rx ry q gg
  unfold iiD0 at q
  split at q
  · obtain rfl:=rx.int;obtain rfl:=ry.int
    exact ⟨_,_,rfl,rfl,gg.val R (.int _) q⟩
  · exact q.elim
section
variable {a b:Expr} {ta tb:TV} {pos:Pos}
noncomputable def subD:=iiD0 fun i j=>i - j
noncomputable def fdivD:=iiD CDiv fun i j=>i / j
noncomputable def modD:=iiD (fun _ j=>0 < j) fun i j=>i % j
noncomputable def powD:=iiD CPow fun i j=>i ^ j.toNat
noncomputable def shrD:=iiD (fun _ j=>0 <= j) fun i j=>i / 2 ^ j.toNat
theorem r_sub (ha:EO G k S a ta) (hb:EO G k S b tb):EX G k S (.BinOp a .Sub b pos) (tBin subD ta tb):=r_bin (r:=fun _=>_) (fun _=>op_sub) (fun _=>ii0_sound) ha hb
theorem r_fdiv (ha:EO G k S a ta) (hb:EO G k S b tb):EX G k S (.BinOp a .FloorDiv b pos) (tBin fdivD ta tb):=r_bin (r:=fun _=>_) (fun _=>op_fdiv) (fun _=>ii_sound) ha hb
theorem r_mod (ha:EO G k S a ta) (hb:EO G k S b tb):EX G k S (.BinOp a .Mod b pos) (tBin modD ta tb):=r_bin (r:=fun _=>_) (fun _=>op_mod) (fun _=>ii_sound) ha hb
theorem r_pow (ha:EO G k S a ta) (hb:EO G k S b tb):EX G k S (.BinOp a .Pow b pos) (tBin powD ta tb):=r_bin (r:=fun _=>_) (fun _=>op_pow) (fun _=>ii_sound) ha hb
theorem r_shr (ha:EO G k S a ta) (hb:EO G k S b tb):EX G k S (.BinOp a .RShift b pos) (tBin shrD ta tb):=r_bin (r:=fun _=>_) (fun _=>op_shr) (fun _=>ii_sound) ha hb
end
noncomputable def mulD:D -> D -> (EV -> Prop) -> Prop
  | .int i,.int j,Q=>CMul i j /\ Q (.val (.int (i * j)))
  | .lst xs,.int j,Q=>(-(2 ^ 63) <= j /\ j < 2 ^ 63 /\ xs.length * j.toNat <= sizeLine) /\ Q (.own (List.replicate j.toNat xs).flatten)
  | _,_,_=>False
noncomputable def rRepS:R2:=fun x y H Q=>∃ l k xs,x = .ref l /\ y = .int k /\ Rd H l (.lst xs) /\ -(2 ^ 63) <= k /\ k < 2 ^ 63 /\ xs.length * k.toNat <= sizeLine /\
  ∀ p,H p = none -> Q (.ref p) (upd H p (.lst (List.replicate k.toNat xs).flatten))
theorem op_repS {X:Cx}:OpR X (binaryOp .Mult) rRepS:=by
  intro pins s σ H x y v u Q I rx ry h
  obtain ⟨l,k,xs,rfl,rfl,hH,h1,h2,hz,q⟩:=h
  cases rx
  obtain ⟨t,rfl⟩:=ry
  obtain ⟨z,its,n,r,hl,e⟩:=Inv.rdL I hH
  have hlen:its.toArray.size * k.toNat <= sizeLine:=by rw [List.size_toArray,<- hl];exact hz
  have hcap:¬ its.toArray.size * k.toNat > (2 ^ 63 - 1) / 8:=by
    have:(sizeLine:Nat) <= (2 ^ 63 - 1) / 8:=by decide
    omega
  have hfit:¬ (!Builtin.List.listFitsIndex k) = true:=by
    rw [fitsIndex_both h1 h2]
    exact Bool.false_ne_true
  have hlong:¬ Builtin.List.listTooLong (its.toArray.size * k.toNat) = true:=by
    rw [notLongL hlen]
    exact Bool.false_ne_true
  have hnew:List.foldl (fun x1 x2=>x1 ++ x2) #[] (List.replicate (if its.toArray.isEmpty = true then 0 else k.toNat) its.toArray) = (List.replicate k.toNat its).flatten.toArray:=by
    have f0:∀ m:Nat,List.foldl (fun x1 x2=>x1 ++ x2) #[] (List.replicate m its.toArray) = (List.replicate m its).flatten.toArray:=fun m=>by
      have:=foldl_rep its m []
      rw [List.nil_append] at this
      exact this
    rw [f0]
    cases its with
    | nil=>simp
    | cons a r'=>rw [if_neg (by simp)]
  refine wpAny_binaryOp_repeat_ref (T:="list") (U:="int") (by decide) ⟨_,e,rfl⟩ (fun s'=>typeIs_int s' k t) noFill_list_mul F.fills_int_mul F.slot_int_rmul repeat_list F.slot_int_index.lookup
    (call_meets F.slot_int_rmul (typeIs_int s k t) F.entry_int_rmul (F.args_int_rmul_2 _ _) (int___rmul___int_list k t l its.toArray n)
      ⟨e,rfl,⟨_,e,rfl⟩,call_meets F.slot_list_mul ⟨_,e,rfl⟩ F.entry_list_mul (F.args_list_mul_2 _ _) (AutoListH.list___mul___list_int_3 l its.toArray n k t hfit hcap hlong) ⟨e,?_⟩⟩)
  rw [hnew]
  exact ⟨.ref _,_,I.lnew (t':=s.toks) (r.rep k.toNat) (by rw [len_rep,Nat.mul_comm];exact hz),rfl,q _ I.fresh⟩
noncomputable def rMul:R2:=fun x y H Q=>rI CMul (fun i j=>.int (i * j)) x y H Q \/ rRepS x y H Q
theorem mul_sound:OpSound rMul mulD:=by
  intro Y F H σd σ v u x y Qd Q R rx ry q g
  unfold mulD at q
  split at q
  · obtain rfl:=rx.int;obtain rfl:=ry.int
    exact .inl ⟨_,_,rfl,rfl,q.1,g.val R (.int _) q.2⟩
  · obtain ⟨a,vs,rfl,h1,r1⟩:=rx.lst;obtain rfl:=ry.int
    exact .inr ⟨a,_,vs,rfl,rfl,h1,q.1.1,q.1.2.1,by rw [r1.length];exact q.1.2.2,g.own R (r1.rep _) q.2⟩
  · exact q.elim
theorem r_mul {a b:Expr} {ta tb:TV} {pos:Pos} (ha:EO G k S a ta) (hb:EO G k S b tb):EX G k S (.BinOp a .Mult b pos) (tBin mulD ta tb):=r_bin (r:=fun _=>rMul) (fun _=>op_mul.or op_repS) (fun _=>mul_sound) ha hb
noncomputable def tNeg (t:TV):TV:=fun σ Q=>t σ fun x σ1=>match drf σ1 x with
  | some (.int i)=>Q (.val (.int (-i))) σ1
  | _=>False
theorem r_neg {a:Expr} {ta:TV} {pos:Pos} (ha:EO G k S a ta):EO G k S (.UnaryOp .USub a pos) (tNeg ta):=.mk fun X Y ok=>pe_imp (pe_un un_neg (ha X Y ok)) fun σ H Q q=>by
  obtain ⟨F,σd,Qd,R,q,K⟩:=q
  refine ⟨F,σd,_,R,q,fun v1 H1 F1 x σ1 s1 R1 r1 q1=>?_⟩
  split at q1
  · rename_i i e
    obtain rfl:=(R1.drf r1 e).int
    exact ⟨i,rfl,K _ H1 F1 (.val (.int (-i))) σ1 s1 R1 (.int _) q1⟩
  · exact q1.elim
end Vc

set_option Elab.async false
set_option linter.all false
set_option maxRecDepth 100000

namespace Vc
open PySem L2
variable [KF]
variable {G:GE} {k:Nat} {S:Stat}

mutual
noncomputable def eqD:D -> D -> Bool
  | .non,.non=>true
  | .bl a,.bl b=>a == b
  | .bl a,.int j=>(if a then 1 else 0) == j
  | .int i,.bl b=>i == (if b then 1 else 0)
  | .int i,.int j=>i == j
  | .str x,.str y=>x == y
  | .lst xs,.lst ys=>eqDs xs ys
  | .tup xs,.tup ys=>eqDs xs ys
  | _,_=>false
noncomputable def eqDs:List D -> List D -> Bool
  | [],[]=>true
  | x :: xs,y :: ys=>eqD x y && eqDs xs ys
  | _,_=>false
end
noncomputable def okD:Nat -> D -> Bool
  | _,.non=>true
  | _,.bl _=>true
  | _,.int _=>true
  | _,.str x=>x.cps.all (· < 0x110000)
  | n + 1,.tup xs=>xs.all (okD n)
  | n + 1,.lst xs=>xs.all (okD n)
  | _,_=>false
mutual
noncomputable def toPy:D -> PyData
  | .non=>.none
  | .bl b=>.bool b
  | .int i=>.int i
  | .str x=>.str x
  | .tup xs=>.tuple (toPys xs)
  | .lst xs=>.list (toPys xs)
  | _=>.none
noncomputable def toPys:List D -> List PyData
  | []=>[]
  | x :: xs=>toPy x :: toPys xs
end

theorem eqDs_py {n m:Nat} (ih:∀ x y,okD n x = true -> okD m y = true -> eqD x y = PyData.eqv (toPy x) (toPy y)):∀ xs ys:List D,xs.all (okD n) = true -> ys.all (okD m) = true -> eqDs xs ys = PyData.eqvAll (toPys xs) (toPys ys)
  | [],[],_,_=>rfl
  | [],_ :: _,_,_=>rfl
  | _ :: _,[],_,_=>rfl
  | x :: xs,y :: ys,h1,h2=>by
    rw [List.all_cons,Bool.and_eq_true] at h1 h2
    show (eqD x y && eqDs xs ys) = (PyData.eqv (toPy x) (toPy y) && PyData.eqvAll (toPys xs) (toPys ys))
    rw [ih x y h1.1 h2.1,eqDs_py ih xs ys h1.2 h2.2]
theorem eqD_py:∀ (n m:Nat) (x y:D),okD n x = true -> okD m y = true -> eqD x y = PyData.eqv (toPy x) (toPy y):=by
  intro n
  induction n with
  | zero =>
    intro m x y h1 h2
    cases x with
    | tup _=>exact absurd h1 (by simp [okD])
    | lst _=>exact absurd h1 (by simp [okD])
    | dct _=>exact absurd h1 (by simp [okD])
    | exc _=>exact absurd h1 (by simp [okD])
    | scr _=>exact absurd h1 (by simp [okD])
    | _=>cases y<;>first | rfl | (cases m<;>exact absurd h2 (by simp [okD]))
  | succ n ih =>
    intro m x y h1 h2
    cases x with
    | tup xs =>
      cases y with
      | tup ys =>
        cases m with
        | zero=>exact absurd h2 (by simp [okD])
        | succ m=>exact eqDs_py (ih m) xs ys h1 h2
      | _=>first | rfl | (cases m<;>exact absurd h2 (by simp [okD]))
    | lst xs =>
      cases y with
      | lst ys =>
        cases m with
        | zero=>exact absurd h2 (by simp [okD])
        | succ m=>exact eqDs_py (ih m) xs ys h1 h2
      | _=>first | rfl | (cases m<;>exact absurd h2 (by simp [okD]))
    | dct _=>exact absurd h1 (by simp [okD])
    | exc _=>exact absurd h1 (by simp [okD])
    | scr _=>exact absurd h1 (by simp [okD])
    | _=>cases y<;>first | rfl | (cases m<;>exact absurd h2 (by simp [okD]))
theorem okD_layAll {n:Nat} (ih:∀ x,okD n x = true -> (toPy x).canLay0 = true /\ (toPy x).depth <= n):∀ xs:List D,xs.all (okD n) = true -> PyData.canLayAll0 (toPys xs) = true /\ PyData.depthAll (toPys xs) <= n
  | [],_=>⟨rfl,Nat.zero_le _⟩
  | x :: xs,h=>by
    rw [List.all_cons,Bool.and_eq_true] at h
    have h1:=ih x h.1
    have h2:=okD_layAll ih xs h.2
    refine ⟨?_,?_⟩
    · show ((toPy x).canLay0 && PyData.canLayAll0 (toPys xs)) = true
      rw [h1.1,h2.1];rfl
    · show max (toPy x).depth (PyData.depthAll (toPys xs)) <= n
      exact Nat.max_le.mpr ⟨h1.2,h2.2⟩
theorem okD_lay:∀ (n:Nat) (x:D),okD n x = true -> (toPy x).canLay0 = true /\ (toPy x).depth <= n:=by
  intro n
  induction n with
  | zero =>
    intro x h
    cases x with
    | tup _=>exact absurd h (by simp [okD])
    | lst _=>exact absurd h (by simp [okD])
    | dct _=>exact absurd h (by simp [okD])
    | exc _=>exact absurd h (by simp [okD])
    | scr _=>exact absurd h (by simp [okD])
    | _=>first | exact ⟨rfl,Nat.zero_le _⟩ | (exact ⟨by simpa [okD,toPy,PyData.canLay0,PyData.strOk] using h,Nat.zero_le _⟩)
  | succ n ih =>
    intro x h
    cases x with
    | tup xs =>
      have:=okD_layAll ih xs h
      exact ⟨this.1,Nat.succ_le_succ this.2⟩
    | lst xs =>
      have:=okD_layAll ih xs h
      exact ⟨this.1,Nat.succ_le_succ this.2⟩
    | dct _=>exact absurd h (by simp [okD])
    | exc _=>exact absurd h (by simp [okD])
    | scr _=>exact absurd h (by simp [okD])
    | _=>first | exact ⟨rfl,Nat.zero_le _⟩ | (exact ⟨by simpa [okD,toPy,PyData.canLay0,PyData.strOk] using h,Nat.zero_le _⟩)
section
variable {P:Program} {w:World} {F H:Hp} {h:Heap}
mutual
theorem Rep.reads (ok:HOk P w H h) (s:Same F H):∀ {v:V} {d:D} {u:Value} (n:Nat),Rep F v d -> RelV v u -> okD n d = true -> ∃ as,Reads h u (toPy d) as
  | _,_,_,_,.non,e,_=>by cases e;exact ⟨_,.none⟩
  | _,_,_,_,.bl b,e,_=>by cases e;exact ⟨_,.bool b⟩
  | _,_,_,_,.int i,e,_=>by obtain ⟨t,rfl⟩:=e;exact ⟨_,.int i t⟩
  | _,_,_,_,.str x,e,_=>by obtain ⟨t,rfl⟩:=e;exact ⟨_,.str x t⟩
  | _,_,_,0,.tup _ _,_,o=>by exact absurd o (by simp [okD])
  | _,_,_,0,.lst _ _,_,o=>by exact absurd o (by simp [okD])
  | _,_,_,n + 1,.tup (a:=a) (vs:=vs) hf r,e,o=>by
    cases e
    obtain ⟨_,its,rv,ob,ho,hc,m,hd⟩:=ok a _ (s a _ hf)
    obtain ⟨as,q⟩:=RepL.reads ok s n r rv o
    exact ⟨as,.tuple ho hc hd q⟩
  | _,_,_,n + 1,.lst (a:=a) (vs:=vs) hf r,e,o=>by
    cases e
    obtain ⟨_,its,m,rv,ho⟩:=L2.Rd.ok (Rd.mono s hf) ok
    obtain ⟨as,q⟩:=RepL.reads ok s n r rv o
    exact ⟨_,.list ho rfl rfl q⟩
  | _,_,_,n,.scr _,_,o=>by cases n<;>exact absurd o (by simp [okD])
  | _,_,_,n,.exc _,_,o=>by cases n<;>exact absurd o (by simp [okD])
  | _,_,_,n,.dctT _ _,_,o=>by cases n<;>exact absurd o (by simp [okD])
theorem RepL.reads (ok:HOk P w H h) (s:Same F H):∀ {vs:List V} {ds:List D} {us:List Value} (n:Nat),RepL F vs ds -> Vals vs us -> ds.all (okD n) = true -> ∃ as,ReadsAll h us (toPys ds) as
  | _,_,_,_,.nil,.nil,_=>⟨_,.nil⟩
  | _,_,_,n,.cons r t,.cons e f,o=>by
    rw [List.all_cons,Bool.and_eq_true] at o
    obtain ⟨as,h1⟩:=Rep.reads ok s n r e o.1
    obtain ⟨bs,h2⟩:=RepL.reads ok s n t f o.2
    exact ⟨_,.cons h1 h2⟩
end
theorem RepH.reads (ok:HOk P w H h) (s:Same F H) {v:V} {d:D} {u:Value} (r:RepH F H v d) (e:RelV v u) (o:okD 8 d = true):∃ as,Reads h u (toPy d) as:=by
  cases d with
  | lst xs =>
    obtain ⟨a,vs,rfl,hf,r⟩:=r
    cases e
    obtain ⟨_,its,n,rv,ho⟩:=L2.Rd.ok hf ok
    obtain ⟨as,q⟩:=RepL.reads ok s 7 r rv o
    exact ⟨_,.list ho rfl rfl q⟩
  | _=>exact Rep.reads ok s 8 r e o
end
theorem shaped_ok {x:D} (h:okD 8 x = true):PySem.SeqAt.shaped (toPy x) = true:=by
  obtain ⟨h1,h2⟩:=okD_lay 8 x h
  unfold PySem.SeqAt.shaped
  rw [h1,decide_eq_true (by omega)];rfl

noncomputable def rEqD (neg:Bool):R2:=fun v u H Q=>∃ F x y,Same F H /\ RepH F H v x /\ RepH F H u y /\ okD 8 x = true /\ okD 8 y = true /\ Q (.bl (if neg then !eqD x y else eqD x y)) H
theorem op_eqD {X:Cx} (hu:X.A.units + 64 < cLine):OpR X (compareOp .Eq) (rEqD false):=by
  intro pins s σ H v u v' u' Q I rv ru h
  obtain ⟨F,x,y,sm,rx,ry,ox,oy,q⟩:=h
  obtain ⟨as,r1⟩:=rx.reads I.hok sm rv ox
  obtain ⟨bs,r2⟩:=ry.reads I.hok sm ru oy
  refine PyProof.Rows.eq_dataH r1 r2 (shaped_ok ox) (shaped_ok oy) hu ⟨.bl (eqD x y),H,I,?_,q⟩
  rw [eqD_py 8 8 x y ox oy];rfl
theorem op_neD {X:Cx} (hu:X.A.units + 64 < cLine):OpR X (compareOp .NotEq) (rEqD true):=by
  intro pins s σ H v u v' u' Q I rv ru h
  obtain ⟨F,x,y,sm,rx,ry,ox,oy,q⟩:=h
  obtain ⟨as,r1⟩:=rx.reads I.hok sm rv ox
  obtain ⟨bs,r2⟩:=ry.reads I.hok sm ru oy
  refine PyProof.Rows.ne_dataH r1 r2 (shaped_ok ox) (shaped_ok oy) hu ⟨.bl (!eqD x y),H,I,?_,q⟩
  rw [eqD_py 8 8 x y ox oy];rfl
end Vc

set_option Elab.async false
set_option linter.all false
set_option maxRecDepth 100000

namespace Vc
open PySem L2
variable [KF]
variable {G:GE} {k:Nat} {S:Stat}

noncomputable def CmpSound (r:R2) (f:D -> D -> (Bool -> Prop) -> Prop):Prop :=
  ∀ Y F H σd σ v u x y (Qd:Bool -> Prop) (Q:VK),RS Y F σd σ H -> RepH F H v x -> RepH F H u y -> f x y Qd -> (∀ b,Qd b -> Q (.bl b) H) -> r v u H Q
noncomputable def tCmp2 (f:D -> D -> (Bool -> Prop) -> Prop) (ta tb:TV):TB:=fun σ Q=>ta σ fun x σ1=>tb σ1 fun y σ2=>match drf σ2 x,drf σ2 y with
  | some a,some b=>f a b fun r=>Q r σ2
  | _,_=>False
noncomputable def bV (t:TB):TV:=fun σ Q=>t σ fun b σ1=>Q (.val (.bl b)) σ1
theorem cmp_sound {Y:Dyn} {r:R2} {f:D -> D -> (Bool -> Prop) -> Prop} (hs:CmpSound r f) {ta tb:TV} {σ:St} {H:Hp} {Q:VK} {F:Hp} {σd:Sd} {Qd:Bool -> Sd -> Prop} (R:RS Y F σd σ H) (q:tCmp2 f ta tb σd Qd)
    (K:∀ b H' F' σd',Same F F' -> RS Y F' σd' σ H' -> Qd b σd' -> Q (.bl b) H'):tOp r (lO Y ta) (lO Y tb) σ H Q:=by
  refine ⟨F,σd,_,R,q,fun v1 H1 F1 x σ1 s1 R1 r1 q1=>?_⟩
  refine ⟨F1,σ1,_,R1,q1,fun v2 H2 F2 y σ2 s2 R2 r2 q2=>?_⟩
  split at q2
  · rename_i a b ea eb
    exact hs Y F2 H2 σ2 σ v1 v2 a b _ Q R2 (R2.drf (r1.mono s2) ea) (R2.drf r2 eb) q2 fun c qc=>K c H2 F2 σ2 (s1.trans s2) R2 qc
  · exact q2.elim
noncomputable def CmpR (G:GE) (k:Nat) (S:Stat) (op:CmpOp) (f:D -> D -> (Bool -> Prop) -> Prop):Prop:=∃ r:R2,(∀ X Y,XOk X G k S Y -> OpR X (compareOp op) r) /\ CmpSound r f
theorem r_tcmp {op:CmpOp} {f:D -> D -> (Bool -> Prop) -> Prop} (h:CmpR G k S op f) {a b:Expr} {ta tb:TV} {pos:Pos} (ha:EO G k S a ta) (hb:EO G k S b tb) (hm:behindInMarks op b = false:=by first | exact nomark _ | with_unfolding_all rfl) :
    EB G k S (.Compare a [op] [b] pos) (tCmp2 f ta tb):=.mk fun X Y ok=>by
  obtain ⟨r,ho,hs⟩:=h
  refine pt_imp (pt_cmpR (ho X Y ok) (ha X Y ok) (hb X Y ok) hm) fun σ H Q q=>?_
  obtain ⟨F,σd,Qd,R,q,K⟩:=q
  exact cmp_sound hs R q fun b H' F' σd' s R' qq=>⟨b,rfl,K b H' F' σd' s R' qq⟩
theorem r_cmp {op:CmpOp} {f:D -> D -> (Bool -> Prop) -> Prop} (h:CmpR G k S op f) {a b:Expr} {ta tb:TV} {pos:Pos} (ha:EO G k S a ta) (hb:EO G k S b tb) (hm:behindInMarks op b = false:=by first | exact nomark _ | with_unfolding_all rfl) :
    EO G k S (.Compare a [op] [b] pos) (bV (tCmp2 f ta tb)):=.mk fun X Y ok=>by
  obtain ⟨r,ho,hs⟩:=h
  refine pe_imp (pe_cmpR (ho X Y ok) (ha X Y ok) (hb X Y ok) hm) fun σ H Q q=>?_
  obtain ⟨F,σd,Qd,R,q,K⟩:=q
  exact cmp_sound hs R q fun b H' F' σd' s R' qq=>K _ H' F' (.val (.bl b)) σd' s R' (.bl b) qq
noncomputable def eqT (x y:D) (Q:Bool -> Prop):Prop:=(okD 8 x = true /\ okD 8 y = true) /\ Q (eqD x y)
noncomputable def neT (x y:D) (Q:Bool -> Prop):Prop:=(okD 8 x = true /\ okD 8 y = true) /\ Q (!eqD x y)
theorem c_eq:CmpR G k S .Eq eqT:=⟨rEqD false,fun X Y ok=>op_eqD ok.units,fun Y F H σd σ v u x y Qd Q R rx ry q K=>⟨F,x,y,R.fr,rx,ry,q.1.1,q.1.2,K _ q.2⟩⟩
theorem c_ne:CmpR G k S .NotEq neT:=⟨rEqD true,fun X Y ok=>op_neD ok.units,fun Y F H σd σ v u x y Qd Q R rx ry q K=>⟨F,x,y,R.fr,rx,ry,q.1.1,q.1.2,K _ q.2⟩⟩
noncomputable def iiT (p:Int -> Int -> Bool):D -> D -> (Bool -> Prop) -> Prop
  | .int i,.int j,Q=>Q (p i j)
  | _,_,_=>False
theorem iiT_sound {p:Int -> Int -> Bool}:CmpSound (rI0 fun i j=>.bl (p i j)) (iiT p):=fun Y F H σd σ v u x y Qd Q R rx ry q K=>by
  unfold iiT at q
  split at q
  · obtain rfl:=rx.int;obtain rfl:=ry.int
    exact ⟨_,_,rfl,rfl,K _ q⟩
  · exact q.elim
noncomputable def ltT:=iiT fun i j=>decide (i < j)
noncomputable def leT:=iiT fun i j=>decide (i <= j)
noncomputable def gtT:=iiT fun i j=>decide (j < i)
noncomputable def geT:=iiT fun i j=>decide (j <= i)
theorem c_lt:CmpR G k S .Lt ltT:=⟨_,fun _ _ _=>op_lt,iiT_sound⟩
theorem c_le:CmpR G k S .LtE leT:=⟨_,fun _ _ _=>op_le,iiT_sound⟩
theorem c_gt:CmpR G k S .Gt gtT:=⟨_,fun _ _ _=>op_gt,iiT_sound⟩
theorem c_ge:CmpR G k S .GtE geT:=⟨_,fun _ _ _=>op_ge,iiT_sound⟩
noncomputable def isNone:D -> Bool
  | .non=>true
  | _=>false
noncomputable def isT (x y:D) (Q:Bool -> Prop):Prop:=isNone y = true /\ Q (isNone x)
theorem RepH.isNone {F H:Hp} {v:V} {x:D} (r:RepH F H v x):decide (v = .non) = isNone x:=by
  cases x with
  | lst xs=>obtain ⟨a,vs,rfl,_⟩:=r;rfl
  | dct _=>cases (show Rep F v (.dct _) from r);rfl
  | exc _=>cases (show Rep F v (.exc _) from r);rfl
  | scr _=>cases (show Rep F v (.scr _) from r);rfl
  | non=>obtain rfl:=r.non;rfl
  | bl _=>obtain rfl:=r.bl;rfl
  | int _=>obtain rfl:=r.int;rfl
  | str _=>obtain rfl:=r.str;rfl
  | tup _=>cases (show Rep F v (.tup _) from r);rfl
theorem RepH.noneEq {F H:Hp} {v:V} {x:D} (r:RepH F H v x) (h:Vc.isNone x = true):v = .non:=by
  cases x<;>first | exact r.non | cases h
theorem c_is:CmpR G k S .Is isT:=⟨_,fun _ _ _=>op_isN,fun Y F H σd σ v u x y Qd Q R rx ry q K=>⟨ry.noneEq q.1,by rw [rx.isNone];exact K _ q.2⟩⟩
noncomputable def truD:D -> (Bool -> Prop) -> Prop
  | .non,Q=>Q false
  | .bl b,Q=>Q b
  | .int i,Q=>Q (i != 0)
  | .lst xs,Q=>Q (!xs.isEmpty)
  | .tup xs,Q=>Q (!xs.isEmpty)
  | _,_=>False
noncomputable def tTru (t:TV):TB:=fun σ Q=>t σ fun x σ1=>match drf σ1 x with
  | some d=>truD d fun b=>Q b σ1
  | none=>False
theorem isEmpty_repL {F:Hp} {vs:List V} {xs:List D} (r:RepL F vs xs):(!xs.isEmpty) = !vs.isEmpty:=by cases r<;>rfl
theorem r_ttru {e:Expr} {t:TV} (h:EO G k S e t) (he:∀ env whole,isTrue e env whole = (do let v <- whole;standAt e.pos;holding [v] (truthy v)):=by intro _ _;rfl):EB G k S e (tTru t):=.mk fun X Y ok=>by
  refine pt_imp (pt_truth (h X Y ok) (he _)) fun σ H Q q=>?_
  obtain ⟨F,σd,Qd,R,q,K⟩:=q
  refine ⟨F,σd,_,R,q,fun v1 H1 F1 x σ1 s1 R1 r1 q1=>?_⟩
  split at q1
  · rename_i d ed
    have r:=R1.drf r1 ed
    unfold truD at q1
    split at q1
    · obtain rfl:=r.non;exact ⟨false,rfl,K _ H1 F1 σ1 s1 R1 q1⟩
    · rename_i b;obtain rfl:=r.bl;exact ⟨b,rfl,K _ H1 F1 σ1 s1 R1 q1⟩
    · rename_i i;obtain rfl:=r.int;exact ⟨_,rfl,K _ H1 F1 σ1 s1 R1 q1⟩
    · rename_i xs;obtain ⟨a,vs,rfl,h1,h2⟩:=r.lst
      exact ⟨!xs.isEmpty,.inl ⟨vs,.inl h1,isEmpty_repL h2⟩,K _ H1 F1 σ1 s1 R1 q1⟩
    · rename_i xs;obtain ⟨a,vs,rfl,h1,h2⟩:=r.tup R1.fr
      exact ⟨!xs.isEmpty,.inr (.inl ⟨vs,.inl (.inl h1),isEmpty_repL h2⟩),K _ H1 F1 σ1 s1 R1 q1⟩
    · exact q1.elim
  · exact q1.elim
noncomputable def tAndB (t u:TB):TB:=fun σ Q=>t σ fun c σ1=>if c = true then u σ1 Q else Q false σ1
noncomputable def tOrB (t u:TB):TB:=fun σ Q=>t σ fun c σ1=>if c = true then Q true σ1 else u σ1 Q
noncomputable def tNotB (t:TB):TB:=fun σ Q=>t σ fun c σ1=>Q (!c) σ1
structure EW (G:GE) (k:Nat) (S:Stat) (e:Expr) (t:TB) :Prop where
  run:∀ X Y,XOk X G k S Y -> PW X e (lB Y t)
instance {G:GE} {k:Nat} {S:Stat} {e:Expr} {t:TB} :CoeFun (EW G k S e t) fun _=>∀ X Y,XOk X G k S Y -> PW X e (lB Y t):=⟨EW.run⟩
theorem pw_imp {X:Cx} {e:Expr} {t t':TT} (h:PW X e t) (i:∀ σ H Q,t' σ H Q -> t σ H Q):PW X e t':=fun wh pins s σ H Q I q=>h wh pins s σ H Q I (i σ H Q q)
section
variable {a b:Expr} {rest:List Expr} {ta tb:TB} {pos:Pos}
theorem r_w (h:EW G k S a ta):EB G k S a ta:=.mk fun X Y ok=>(h X Y ok).pt
theorem r_and1 (ha:EB G k S a ta):EW G k S (.BoolOp .And [a] pos) ta:=.mk fun X Y ok=>pw_and1 (ha X Y ok)
theorem r_or1 (ha:EB G k S a ta):EW G k S (.BoolOp .Or [a] pos) ta:=.mk fun X Y ok=>pw_or1 (ha X Y ok)
theorem r_and (ha:EB G k S a ta) (hb:EW G k S (.BoolOp .And (b :: rest) pos) tb):EW G k S (.BoolOp .And (a :: b :: rest) pos) (tAndB ta tb):=.mk fun X Y ok=>pw_imp (pw_and (ha X Y ok) (hb X Y ok)) fun σ H Q q=>by
  obtain ⟨F,σd,Qd,R,q,K⟩:=q
  refine ⟨F,σd,_,R,q,fun c H1 F1 σ1 s1 R1 q1=>?_⟩
  cases c with
  | true=>exact ⟨F1,σ1,Qd,R1,q1,fun b H' F' σd' s R' qq=>K b H' F' σd' (s1.trans s) R' qq⟩
  | false=>exact K false H1 F1 σ1 s1 R1 q1
theorem r_or (ha:EB G k S a ta) (hb:EW G k S (.BoolOp .Or (b :: rest) pos) tb):EW G k S (.BoolOp .Or (a :: b :: rest) pos) (tOrB ta tb):=.mk fun X Y ok=>pw_imp (pw_or (ha X Y ok) (hb X Y ok)) fun σ H Q q=>by
  obtain ⟨F,σd,Qd,R,q,K⟩:=q
  refine ⟨F,σd,_,R,q,fun c H1 F1 σ1 s1 R1 q1=>?_⟩
  cases c with
  | false=>exact ⟨F1,σ1,Qd,R1,q1,fun b H' F' σd' s R' qq=>K b H' F' σd' (s1.trans s) R' qq⟩
  | true=>exact K true H1 F1 σ1 s1 R1 q1
theorem r_tnot (ha:EB G k S a ta):EB G k S (.UnaryOp .Not a pos) (tNotB ta):=.mk fun X Y ok=>pt_imp (pt_not (ha X Y ok)) fun σ H Q q=>by
  obtain ⟨F,σd,Qd,R,q,K⟩:=q
  exact ⟨F,σd,_,R,q,fun c H1 F1 σ1 s1 R1 q1=>K _ H1 F1 σ1 s1 R1 q1⟩
end
structure EV' (G:GE) (k:Nat) (S:Stat) (e:Expr) (t:TB) :Prop where
  run:∀ X Y,XOk X G k S Y -> PE X e (fun σ H Q=>lB Y t σ H fun b H'=>Q (.bl b) H')
instance {G:GE} {k:Nat} {S:Stat} {e:Expr} {t:TB} :CoeFun (EV' G k S e t) fun _=>∀ X Y,XOk X G k S Y -> PE X e (fun σ H Q=>lB Y t σ H fun b H'=>Q (.bl b) H'):=⟨EV'.run⟩
section
variable {a b:Expr} {rest:List Expr} {ta tb:TB} {pos:Pos}
noncomputable def tBool (t:TV):TB:=fun σ Q=>t σ fun x σ1=>match drf σ1 x with
  | some (.bl b)=>Q b σ1
  | _=>False
theorem v_of {t:TV} (h:EO G k S a t):EV' G k S a (tBool t):=.mk fun X Y ok=>pe_imp (h X Y ok) fun σ H Q q=>by
  obtain ⟨F,σd,Qd,R,q,K⟩:=q
  refine ⟨F,σd,_,R,q,fun v1 H1 F1 x σ1 s1 R1 r1 q1=>?_⟩
  split at q1
  · rename_i b eb
    obtain rfl:=(R1.drf r1 eb).bl
    exact K b H1 F1 σ1 s1 R1 q1
  · exact q1.elim
theorem v_one {op:BoolOp} (h:EV' G k S a ta):EV' G k S (.BoolOp op [a] pos) ta:=.mk fun X Y ok=>pe_one (h X Y ok)
theorem v_and (ha:EV' G k S a ta) (hb:EV' G k S (.BoolOp .And (b :: rest) pos) tb):EV' G k S (.BoolOp .And (a :: b :: rest) pos) (tAndB ta tb):=.mk fun X Y ok=>pe_imp (pe_and (ha X Y ok) (hb X Y ok)) fun σ H Q q=>by
  obtain ⟨F,σd,Qd,R,q,K⟩:=q
  refine ⟨F,σd,_,R,q,fun c H1 F1 σ1 s1 R1 q1=>⟨c,rfl,?_⟩⟩
  cases c with
  | true=>exact ⟨F1,σ1,Qd,R1,q1,fun b H' F' σd' s R' qq=>K b H' F' σd' (s1.trans s) R' qq⟩
  | false=>exact K false H1 F1 σ1 s1 R1 q1
theorem r_bv (h:EV' G k S a ta):EO G k S a (bV ta):=.mk fun X Y ok=>pe_imp (h X Y ok) fun σ H Q q=>by
  obtain ⟨F,σd,Qd,R,q,K⟩:=q
  exact ⟨F,σd,_,R,q,fun b H1 F1 σ1 s1 R1 q1=>K _ H1 F1 (.val (.bl b)) σ1 s1 R1 (.bl b) q1⟩
end
end Vc

set_option Elab.async false
set_option linter.all false
set_option maxRecDepth 100000

namespace Vc
open PySem L2
variable [KF]
variable {G:GE} {k:Nat} {S:Stat}

theorem RepL.atI {F:Hp} {vs:List V} {xs:List D} {i:Int} {d:D} (r:RepL F vs xs) (h:L2.atI xs i = some d):∃ v,L2.atI vs i = some v /\ Rep F v d:=by
  unfold L2.atI at h ⊢
  rw [r.length]
  cases e:ixN xs.length i with
  | none=>rw [e] at h;cases h
  | some j =>
    rw [e] at h
    exact r.get (i:=j) h
noncomputable def ixD:D -> D -> (D -> Prop) -> Prop
  | .lst xs,.int i,Q=>match atI xs i with
    | some d=>Q d
    | none=>False
  | .tup xs,.int i,Q=>match atI xs i with
    | some d=>Q d
    | none=>False
  | .str z,.int i,Q=>z.length <= sizeLine /\ match atI z.cps.toList i with
    | some c=>Q (.str ⟨#[c]⟩)
    | none=>False
  | .scr ns,.int i,Q=>match atI ns i with
    | some n=>Q (.int n)
    | none=>False
  | _,_,_=>False
theorem atI_map {α β:Type} (f:α -> β) {xs:List α} {i:Int} {a:α} (h:L2.atI xs i = some a):L2.atI (xs.map f) i = some (f a):=by
  unfold L2.atI at h ⊢
  rw [List.length_map]
  cases e:ixN xs.length i with
  | none=>rw [e] at h;cases h
  | some j =>
    rw [e] at h
    have h:xs[j]? = some a:=h
    show (xs.map f)[j]? = _
    rw [List.getElem?_map,h];rfl
noncomputable def tIx (ta tb:TV):TV:=fun σ Q=>ta σ fun x σ1=>tb σ1 fun y σ2=>match drf σ2 x,drf σ2 y with
  | some a,some b=>ixD a b fun r=>Q (.val r) σ2
  | _,_=>False
theorem r_ix {a b:Expr} {ta tb:TV} {pos:Pos} (ha:EO G k S a ta) (hb:EO G k S b tb) (hs:PlainIx b:=by intro _ _;rfl):EO G k S (.Subscript a b pos) (tIx ta tb):=.mk fun X Y ok =>
  pe_imp (pe_ix ix_seq (ha X Y ok) (hb X Y ok) hs) fun σ H Q q=>by
    obtain ⟨F,σd,Qd,R,q,K⟩:=q
    refine ⟨F,σd,_,R,q,fun v1 H1 F1 x σ1 s1 R1 r1 q1=>?_⟩
    refine ⟨F1,σ1,_,R1,q1,fun v2 H2 F2 y σ2 s2 R2 r2 q2=>?_⟩
    split at q2
    · rename_i a b ea eb
      have rx:=R2.drf (r1.mono s2) ea
      have ry:=R2.drf r2 eb
      have fin:∀ {v d},Rep F2 v d -> Qd (.val d) σ2 -> Q v H2:=fun r qq=>K _ H2 F2 (.val _) σ2 (s1.trans s2) R2 r qq
      unfold ixD at q2
      split at q2
      · obtain ⟨p,vs,rfl,h1,r1⟩:=rx.lst;obtain rfl:=ry.int
        split at q2
        · rename_i d e
          obtain ⟨v,ev,rv⟩:=r1.atI e
          exact .inl ⟨p,vs,_,v,rfl,rfl,.inl h1,ev,fin rv q2⟩
        · exact q2.elim
      · obtain ⟨p,vs,rfl,h1,r1⟩:=rx.tup R2.fr;obtain rfl:=ry.int
        split at q2
        · rename_i d e
          obtain ⟨v,ev,rv⟩:=r1.atI e
          exact .inr (.inl ⟨p,vs,_,v,rfl,rfl,.of h1,ev,fin rv q2⟩)
        · exact q2.elim
      · obtain rfl:=rx.str;obtain rfl:=ry.int
        obtain ⟨hz,q2⟩:=q2
        split at q2
        · rename_i c e
          exact .inr (.inr ⟨_,_,c,rfl,rfl,hz,e,fin (.str _) q2⟩)
        · exact q2.elim
      · rename_i ns i
        have rx:Rep F2 v1 (.scr ns):=rx
        obtain rfl:=ry.int
        cases rx with
        | scr h =>
          split at q2
          · rename_i n e
            exact .inl ⟨_,ns.map V.int,_,.int n,rfl,rfl,by rw [ok.kf];exact R2.fr.seq h,atI_map V.int e,fin (.int _) q2⟩
          · exact q2.elim
      · exact q2.elim
    · exact q2.elim

theorem repl_ints {F:Hp}:∀ ns:List Int,RepL F (ns.map V.int) (ns.map D.int)
  | []=>.nil
  | n :: ns=>.cons (.int n) (repl_ints ns)
theorem RepH.scr {F H:Hp} (s:Same F H) {v:V} {ns:List Int} (r:RepH F H v (.scr ns)):∃ a,v = .ref a /\ SqL KF.K H a (ns.map V.int):=by
  cases (show Rep F v (.scr ns) from r) with
  | scr h=>exact ⟨_,rfl,s.seq h⟩
noncomputable abbrev TP':=Sd -> (Option Int -> Sd -> Prop) -> Prop
noncomputable def lP (Y:Dyn) (t:TP'):TO:=fun σ H Q=>∃ F σd Qd,RS Y F σd σ H /\ t σd Qd /\ ∀ o H' F' σd',Same F F' -> RS Y F' σd' σ H' -> Qd o σd' -> Q o H'
structure EPt (G:GE) (k:Nat) (S:Stat) (e:Option Expr) (t:TP') :Prop where
  run:∀ X Y,XOk X G k S Y -> PO X e (lP Y t)
instance {G:GE} {k:Nat} {S:Stat} {e:Option Expr} {t:TP'} :CoeFun (EPt G k S e t) fun _=>∀ X Y,XOk X G k S Y -> PO X e (lP Y t):=⟨EPt.run⟩
theorem po_imp {X:Cx} {e:Option Expr} {t t':TO} (h:PO X e t) (i:∀ σ H Q,t' σ H Q -> t σ H Q):PO X e t':=fun pins s σ H Q I q=>h pins s σ H Q I (i σ H Q q)
noncomputable def tP0:TP':=fun σ Q=>Q none σ
noncomputable def tP1 (t:TV):TP':=fun σ Q=>t σ fun x σ1=>match drf σ1 x with
  | some (.int i)=>Q (some i) σ1
  | _=>False
theorem p_none:EPt G k S none tP0:=.mk fun X Y ok=>po_imp po_none fun σ H Q q=>by
  obtain ⟨F,σd,Qd,R,q,K⟩:=q
  exact K none H F σd (Same.refl _) R q
theorem p_some {e:Expr} {t:TV} (h:EO G k S e t):EPt G k S (some e) (tP1 t):=.mk fun X Y ok=>po_imp (po_some (h X Y ok)) fun σ H Q q=>by
  obtain ⟨F,σd,Qd,R,q,K⟩:=q
  refine ⟨F,σd,_,R,q,fun v1 H1 F1 x σ1 s1 R1 r1 q1=>?_⟩
  split at q1
  · rename_i i e
    obtain rfl:=(R1.drf r1 e).int
    exact ⟨i,rfl,K _ H1 F1 σ1 s1 R1 q1⟩
  · exact q1.elim
noncomputable def cut {α:Type} (xs:List α) (lo hi:Option Int):List α:=(xs.drop (HT.sIx xs.length 0 lo)).take (HT.sIx xs.length xs.length hi - HT.sIx xs.length 0 lo)
theorem RepL.cut {F:Hp} {vs:List V} {xs:List D} (r:RepL F vs xs) (lo hi:Option Int):RepL F (cutV vs lo hi) (cut xs lo hi):=by
  unfold cutV Vc.cut
  rw [r.length]
  exact (r.drop _).take _
noncomputable def slD:D -> Option Int -> Option Int -> (EV -> Prop) -> Prop
  | .lst xs,lo,hi,Q=>Q (.own (cut xs lo hi))
  | .scr ns,lo,hi,Q=>Q (.own (cut (ns.map D.int) lo hi))
  | .tup xs,lo,hi,Q=>¬ (HT.sIx xs.length 0 lo = 0 /\ HT.sIx xs.length xs.length hi = xs.length) /\ Q (.val (.tup (cut xs lo hi)))
  | _,_,_,_=>False
noncomputable def tSlD (t:TV) (tl th:TP'):TX:=fun σ Q=>t σ fun x σ1=>tl σ1 fun l σ2=>th σ2 fun u σ3=>match drf σ3 x with
  | some d=>slD d l u fun r=>Q r σ3
  | none=>False
theorem r_sl {e:Expr} {lo hi:Option Expr} {t:TV} {tl th:TP'} {p2 pos:Pos} (h:EO G k S e t) (hl:EPt G k S lo tl) (hh:EPt G k S hi th):EX G k S (.Subscript e (.Slice lo hi none p2) pos) (tSlD t tl th):=.mk fun X Y ok =>
  pe_imp (pe_slice (SlR.or sl_list sl_tup) (h X Y ok) (hl X Y ok) (hh X Y ok)) fun σ H Q q=>by
    obtain ⟨F,σd,Qd,R,q,K⟩:=q
    refine ⟨F,σd,_,R,q,fun v1 H1 F1 x σ1 s1 R1 r1 q1=>?_⟩
    refine ⟨F1,σ1,_,R1,q1,fun l H2 F2 σ2 s2 R2 q2=>?_⟩
    refine ⟨F2,σ2,_,R2,q2,fun u H3 F3 σ3 s3 R3 q3=>?_⟩
    split at q3
    · rename_i d e
      have rx:=R3.drf (r1.mono (s2.trans s3)) e
      have g:Goes Y F3 σ3 σ (fun r=>Qd r σ3) Q:=fun v H' F' r s R' rr qq=>K v H' F' r σ3 (((s1.trans s2).trans s3).trans s) R' rr qq
      unfold slD at q3
      split at q3
      · obtain ⟨p,vs,rfl,h1,r1⟩:=rx.lst
        exact .inl ⟨p,vs,rfl,.inl h1,g.own R3 (r1.cut _ _) q3⟩
      · obtain ⟨p,rfl,h1⟩:=rx.scr R3.fr
        exact .inl ⟨p,_,rfl,by rw [ok.kf];exact h1,g.own R3 ((repl_ints _).cut _ _) q3⟩
      · obtain ⟨p,vs,rfl,h1,r1⟩:=rx.tup R3.fr
        exact .inr ⟨p,vs,rfl,.of h1,by rw [r1.length];exact q3.1,g.tup R3 (r1.cut _ _) q3.2⟩
      · exact q3.elim
    · exact q3.elim

noncomputable def tN:TDs:=fun σ Q=>Q [] σ
noncomputable def tCo (t:TD) (u:TDs):TDs:=fun σ Q=>t σ fun x σ1=>u σ1 fun xs σ2=>Q (x :: xs) σ2
theorem a_nil:EDs G k S [] tN:=.mk fun X Y ok=>pa_imp pa_nil fun σ H Q q=>by
  obtain ⟨F,σd,Qd,R,q,K⟩:=q
  exact K [] H F [] σd (Same.refl _) R .nil q
theorem a_cons {e:Expr} {es:List Expr} {t:TD} {u:TDs} (h:ED G k S e t) (hs:EDs G k S es u) (he:∀ env,starEach (e :: es) env = (false,eval e env) :: starEach es env:=by exact fun _=>Vc.se_cons rfl):EDs G k S (e :: es) (tCo t u):=.mk fun X Y ok =>
  pa_imp (pa_cons (h X Y ok) (hs X Y ok) (he _)) fun σ H Q q=>by
    obtain ⟨F,σd,Qd,R,q,K⟩:=q
    refine ⟨F,σd,_,R,q,fun v1 H1 F1 x σ1 s1 R1 r1 q1=>?_⟩
    exact ⟨F1,σ1,_,R1,q1,fun vs H2 F2 xs σ2 s2 R2 r2 q2=>K _ H2 F2 (x :: xs) σ2 (s1.trans s2) R2 (.cons (r1.mono s2) r2) q2⟩
noncomputable def tLs (t:TDs):TX:=fun σ Q=>t σ fun xs σ1=>xs.length <= sizeLine /\ Q (.own xs) σ1
noncomputable def tTu (t:TDs):TV:=fun σ Q=>t σ fun xs σ1=>xs.length <= sizeLine /\ Q (.val (.tup xs)) σ1
theorem r_lst {es:List Expr} {t:TDs} {pos:Pos} (h:EDs G k S es t):EX G k S (.List es pos) (tLs t):=.mk fun X Y ok=>pe_imp (pe_lst (h X Y ok)) fun σ H Q q=>by
  obtain ⟨F,σd,Qd,R,q,K⟩:=q
  refine ⟨F,σd,_,R,q,fun vs H1 F1 xs σ1 s1 R1 r1 q1=>⟨by rw [r1.length];exact q1.1,?_⟩⟩
  have g:Goes Y F1 σ1 σ (fun r=>Qd r σ1) Q:=fun v H' F' r s R' rr qq=>K v H' F' r σ1 (s1.trans s) R' rr qq
  exact g.own R1 r1 q1.2
theorem r_tup {es:List Expr} {t:TDs} {x1} {pos:Pos} (h:EDs G k S es t):EO G k S (.Tuple es x1 pos) (tTu t):=.mk fun X Y ok=>pe_imp (pe_tup (h X Y ok)) fun σ H Q q=>by
  obtain ⟨F,σd,Qd,R,q,K⟩:=q
  refine ⟨F,σd,_,R,q,fun vs H1 F1 xs σ1 s1 R1 r1 q1=>⟨by rw [r1.length];exact q1.1,fun p hp=>?_⟩⟩
  have sm:=same_alloc (o:=.tup vs) (same_none R1.fr hp)
  exact K _ _ _ (.val (.tup xs)) σ1 (s1.trans sm) (R1.alloc hp) (.tup upd_same (r1.mono sm)) q1.2

noncomputable abbrev TVs:=Sd -> (List OV -> Sd -> Prop) -> Prop
inductive RepOs (F:Hp) (σ:St):List V -> List OV -> Prop where
  | nil:RepOs F σ [] []
  | cons {v:V} {x:OV} {vs:List V} {xs:List OV}:RepO F σ v x -> RepOs F σ vs xs -> RepOs F σ (v :: vs) (x :: xs)
noncomputable def lOs (Y:Dyn) (t:TVs):TA:=fun σ H Q=>∃ F σd Qd,RS Y F σd σ H /\ t σd Qd /\ ∀ vs H' F' xs σd',Same F F' -> RS Y F' σd' σ H' -> RepOs F' σ vs xs -> Qd xs σd' -> Q vs H'
structure EOs (G:GE) (k:Nat) (S:Stat) (es:List Expr) (t:TVs) :Prop where
  run:∀ X Y,XOk X G k S Y -> PA X es (lOs Y t)
instance {G:GE} {k:Nat} {S:Stat} {es:List Expr} {t:TVs} :CoeFun (EOs G k S es t) fun _=>∀ X Y,XOk X G k S Y -> PA X es (lOs Y t):=⟨EOs.run⟩
noncomputable def tNo:TVs:=fun σ Q=>Q [] σ
noncomputable def tCoo (t:TV) (u:TVs):TVs:=fun σ Q=>t σ fun x σ1=>u σ1 fun xs σ2=>Q (x :: xs) σ2
theorem o_nil:EOs G k S [] tNo:=.mk fun X Y ok=>pa_imp pa_nil fun σ H Q q=>by
  obtain ⟨F,σd,Qd,R,q,K⟩:=q
  exact K [] H F [] σd (Same.refl _) R .nil q
theorem o_cons {e:Expr} {es:List Expr} {t:TV} {u:TVs} (h:EO G k S e t) (hs:EOs G k S es u) (he:∀ env,starEach (e :: es) env = (false,eval e env) :: starEach es env:=by exact fun _=>Vc.se_cons rfl):EOs G k S (e :: es) (tCoo t u):=.mk fun X Y ok =>
  pa_imp (pa_cons (h X Y ok) (hs X Y ok) (he _)) fun σ H Q q=>by
    obtain ⟨F,σd,Qd,R,q,K⟩:=q
    refine ⟨F,σd,_,R,q,fun v1 H1 F1 x σ1 s1 R1 r1 q1=>?_⟩
    exact ⟨F1,σ1,_,R1,q1,fun vs H2 F2 xs σ2 s2 R2 r2 q2=>K _ H2 F2 (x :: xs) σ2 (s1.trans s2) R2 (.cons (r1.mono s2) r2) q2⟩
noncomputable def drfs (σ:Sd):List OV -> Option (List D)
  | []=>some []
  | x :: xs=>match drf σ x,drfs σ xs with
    | some d,some ds=>some (d :: ds)
    | _,_=>none
inductive RepHs (F H:Hp):List V -> List D -> Prop where
  | nil:RepHs F H [] []
  | cons {v:V} {x:D} {vs:List V} {xs:List D}:RepH F H v x -> RepHs F H vs xs -> RepHs F H (v :: vs) (x :: xs)
theorem RS.drfs {Y:Dyn} {F:Hp} {σd:Sd} {σ:St} {H:Hp} (R:RS Y F σd σ H):∀ {vs:List V} {xs:List OV} {ds:List D},RepOs F σ vs xs -> Vc.drfs σd xs = some ds -> RepHs F H vs ds
  | _,_,_,.nil,e=>by cases e;exact .nil
  | _,_,_,.cons (x:=x) (xs:=xs) r t,e=>by
    have e:(match Vc.drf σd x,Vc.drfs σd xs with | some d,some ds=>some (d :: ds) | _,_=>none) = some _:=e
    split at e
    · rename_i d ds e1 e2
      cases e
      exact .cons (R.drf r e1) (RS.drfs R t e2)
    · cases e
theorem RepHs.one {F H:Hp} {vs:List V} {d:D} (r:RepHs F H vs [d]):∃ v,vs = [v] /\ RepH F H v d:=by
  cases r with
  | cons r t=>cases t;exact ⟨_,rfl,r⟩
theorem RepHs.two {F H:Hp} {vs:List V} {d e:D} (r:RepHs F H vs [d,e]):∃ v u,vs = [v,u] /\ RepH F H v d /\ RepH F H u e:=by
  cases r with
  | cons r t =>
    obtain ⟨u,rfl,q⟩:=t.one
    exact ⟨_,u,rfl,r,q⟩
noncomputable def CallSound (r:List V -> Hp -> VK -> Prop) (f:List D -> (EV -> Prop) -> Prop):Prop :=
  ∀ Y F H σd σ vs ds (Qd:EV -> Prop) (Q:VK),RS Y F σd σ H -> RepHs F H vs ds -> f ds Qd -> Goes Y F σd σ Qd Q -> r vs H Q
noncomputable def tCl (f:List D -> (EV -> Prop) -> Prop) (t:TVs):TX:=fun σ Q=>t σ fun xs σ1=>match drfs σ1 xs with
  | some ds=>f ds fun r=>Q r σ1
  | none=>False
theorem tCl_sound {Y:Dyn} {r:List V -> Hp -> VK -> Prop} {f:List D -> (EV -> Prop) -> Prop} (hs:CallSound r f) {t:TVs} {σ:St} {H:Hp} {Q:VK} (q:lX Y (tCl f t) σ H Q):tCB r (lOs Y t) σ H Q:=by
  obtain ⟨F,σd,Qd,R,q,K⟩:=q
  refine ⟨F,σd,_,R,q,fun vs H1 F1 xs σ1 s1 R1 r1 q1=>?_⟩
  split at q1
  · rename_i ds e
    exact hs Y F1 H1 σ1 σ vs ds _ Q R1 (R1.drfs r1 e) q1 fun v H' F' r s R' rr qq=>K v H' F' r σ1 (s1.trans s) R' rr qq
  · exact q1.elim
noncomputable def ClR (G:GE) (k:Nat) (S:Stat) (f:Value) (g:List D -> (EV -> Prop) -> Prop):Prop:=∃ r:PySem.W.Frag -> List V -> Hp -> VK -> Prop,(∀ X Y,XOk X G k S Y -> CallR X f (r X.K)) /\ CallSound (r KF.K) g
section
variable {x:Str} {p pos:Pos} {e:Expr} {es:List Expr} {t:TVs} {id T:String} {g:List D -> (EV -> Prop) -> Prop}
theorem r_bf (h:ClR G k S (.builtin id) g) (hm:G.mg x = none) (ha:EOs G k S (e :: es) t) (hv:bootBuiltins x = some (.builtin id)) (hg:S.sc.lookup x = some .globalImplicit:=by rfl) (hn:x ≠ "__name__":=by decide) (hdb:(x == ("__debug__":Str)) = false:=by decide)
    (he:∀ env,starEach (e :: es) env = (false,eval e env) :: starEach es env:=by exact fun _=>Vc.se_cons rfl) (hpl:∀ env,(backTo pos (starEach es env)).any (·.1) = false:=by intro _;rfl):EX G k S (.Call (.Name x p) (e :: es) [] pos) (tCl g t):=.mk fun X Y ok=>by
  obtain ⟨r,hc,hs⟩:=h
  exact pe_imp (pe_callB (hc X Y ok) (gl_of ok hg) (by rw [ok.mg];exact hm) hv (ha X Y ok) hn hdb (he _) (hpl _)) fun σ H Q q=>tCl_sound (by rw [ok.kf];exact hs) q
theorem r_bt (h:ClR G k S (.type T) g) (hm:G.mg x = none) (ha:EOs G k S (e :: es) t) (hv:bootBuiltins x = some (.type T)) (hg:S.sc.lookup x = some .globalImplicit:=by rfl) (hn:x ≠ "__name__":=by decide) (hdb:(x == ("__debug__":Str)) = false:=by decide)
    (he:∀ env,starEach (e :: es) env = (false,eval e env) :: starEach es env:=by exact fun _=>Vc.se_cons rfl) (hpl:∀ env,(backTo pos (starEach es env)).any (·.1) = false:=by intro _;rfl):EX G k S (.Call (.Name x p) (e :: es) [] pos) (tCl g t):=.mk fun X Y ok=>by
  obtain ⟨r,hc,hs⟩:=h
  exact pe_imp (pe_callTy (hc X Y ok) (gl_of ok hg) (by rw [ok.mg];exact hm) hv (ha X Y ok) hn hdb (he _) (hpl _)) fun σ H Q q=>tCl_sound (by rw [ok.kf];exact hs) q
end
noncomputable def lenF:List D -> (EV -> Prop) -> Prop
  | [.lst xs],Q=>Q (.val (.int xs.length))
  | [.tup xs],Q=>Q (.val (.int xs.length))
  | [.scr ns],Q=>Q (.val (.int ns.length))
  | [.str z],Q=>z.length <= sizeLine /\ Q (.val (.int z.length))
  | _,_=>False
theorem f_len:ClR G k S (.builtin "len") lenF:=⟨fun K xs H Q=>(∃ p ys,xs = [V.ref p] /\ (SqL K H p ys \/ SqT K H p ys) /\ Q (V.int ys.length) H) \/ ∃ z,xs = [V.str z] /\ z.length <= sizeLine /\ Q (V.int z.length) H,fun _ _ _=>call_len_seq.or call_len_str,fun Y F H σd σ vs ds Qd Q R r q g=>by
  unfold lenF at q
  split at q
  · obtain ⟨v,rfl,rv⟩:=r.one
    obtain ⟨p,us,rfl,h1,h2⟩:=rv.lst
    exact .inl ⟨p,us,rfl,.inl (.inl h1),by rw [h2.length];exact g.val R (.int _) q⟩
  · obtain ⟨v,rfl,rv⟩:=r.one
    obtain ⟨p,us,rfl,h1,h2⟩:=rv.tup R.fr
    exact .inl ⟨p,us,rfl,.inr (.of h1),by rw [h2.length];exact g.val R (.int _) q⟩
  · obtain ⟨v,rfl,rv⟩:=r.one
    obtain ⟨p,rfl,h1⟩:=rv.scr R.fr
    exact .inl ⟨p,_,rfl,.inl h1,by rw [List.length_map];exact g.val R (.int _) q⟩
  · obtain ⟨v,rfl,rv⟩:=r.one
    obtain rfl:=rv.str
    exact .inr ⟨_,rfl,q.1,g.val R (.int _) q.2⟩
  · exact q.elim⟩
noncomputable def absF:List D -> (EV -> Prop) -> Prop
  | [.int i],Q=>Q (.val (.int (if i < 0 then -i else i)))
  | _,_=>False
theorem f_abs:ClR G k S (.builtin "abs") absF:=⟨fun _=>_,fun _ _ _=>call_abs,fun Y F H σd σ vs ds Qd Q R r q g=>by
  unfold absF at q
  split at q
  · obtain ⟨v,rfl,rv⟩:=r.one
    obtain rfl:=rv.int
    exact ⟨_,rfl,g.val R (.int _) q⟩
  · exact q.elim⟩
noncomputable def max2F:List D -> (EV -> Prop) -> Prop
  | [.int i,.int j],Q=>Q (.val (.int (if j > i then j else i)))
  | _,_=>False
noncomputable def min2F:List D -> (EV -> Prop) -> Prop
  | [.int i,.int j],Q=>Q (.val (.int (if j < i then j else i)))
  | _,_=>False
theorem f_max2 (hh:S.hot = false:=by rfl):ClR G k S (.builtin "max") max2F:=⟨fun _=>_,fun _ _ ok=>call_max2 (ok.calm hh),fun Y F H σd σ vs ds Qd Q R r q g=>by
  unfold max2F at q
  split at q
  · obtain ⟨v,u,rfl,rv,ru⟩:=r.two
    obtain rfl:=rv.int;obtain rfl:=ru.int
    exact ⟨_,_,rfl,g.val R (.int _) q⟩
  · exact q.elim⟩
theorem f_min2 (hh:S.hot = false:=by rfl):ClR G k S (.builtin "min") min2F:=⟨fun _=>_,fun _ _ ok=>call_min2 (ok.calm hh),fun Y F H σd σ vs ds Qd Q R r q g=>by
  unfold min2F at q
  split at q
  · obtain ⟨v,u,rfl,rv,ru⟩:=r.two
    obtain rfl:=rv.int;obtain rfl:=ru.int
    exact ⟨_,_,rfl,g.val R (.int _) q⟩
  · exact q.elim⟩
noncomputable def intF:List D -> (EV -> Prop) -> Prop
  | [.int i],Q=>Q (.val (.int i))
  | [.bl b],Q=>Q (.val (.int (if b then 1 else 0)))
  | _,_=>False
theorem f_int:ClR G k S (.type "int") intF:=⟨fun _=>_,fun _ _ ok=>call_int1,fun Y F H σd σ vs ds Qd Q R r q g=>by
  unfold intF at q
  split at q
  · obtain ⟨v,rfl,rv⟩:=r.one
    obtain rfl:=rv.int
    exact .inl ⟨_,rfl,g.val R (.int _) q⟩
  · obtain ⟨v,rfl,rv⟩:=r.one
    obtain rfl:=rv.bl
    exact .inr ⟨_,rfl,g.val R (.int _) q⟩
  · exact q.elim⟩
noncomputable def tupleF:List D -> (EV -> Prop) -> Prop
  | [.lst xs],Q=>Q (.val (.tup xs))
  | [.tup xs],Q=>Q (.val (.tup xs))
  | _,_=>False
theorem f_tuple:ClR G k S (.type "tuple") tupleF:=⟨fun K xs H Q=>∃ p ys,xs = [V.ref p] /\ ((SqL K H p ys /\ ∀ l,H l = none -> Q (.ref l) (upd H l (.tup ys))) \/ (SqT K H p ys /\ Q (.ref p) H)),fun _ _ ok=>call_tuple_of,fun Y F H σd σ vs ds Qd Q R r q g=>by
  unfold tupleF at q
  split at q
  · obtain ⟨v,rfl,rv⟩:=r.one
    obtain ⟨p,us,rfl,h1,h2⟩:=rv.lst
    exact ⟨p,us,rfl,.inl ⟨.inl h1,g.tup R h2 q⟩⟩
  · obtain ⟨v,rfl,rv⟩:=r.one
    have rv':=rv
    obtain ⟨p,us,rfl,h1,h2⟩:=rv.tup R.fr
    exact ⟨p,us,rfl,.inr ⟨.of h1,g.val R rv' q⟩⟩
  · exact q.elim⟩
end Vc

set_option Elab.async false
set_option linter.all false
set_option maxRecDepth 100000

namespace Vc
open PySem L2
variable [KF]
variable {G:GE} {k:Nat} {S:Stat}

structure EndsD where
  nx:Sd -> Prop
  rt:B -> Sd -> Prop
  bk:Sd -> Prop:=fun _=>False
  ct:Sd -> Prop:=fun _=>False
noncomputable abbrev TSd:=EndsD -> Sd -> Prop
noncomputable def RepB (Y:Dyn) (F H:Hp) (σd:Sd) (σ:St) (v:V):B -> Prop
  | .sh d=>Rep F v d
  | .own xs=>∃ a vs,v = .ref a /\ H a = some (.lst vs) /\ RepL F vs xs /\ F a = none /\ Y.H0 a = none /\ NoOwn σd σ a
  | .obj o=>∃ a,v = .ref a /\ o.rep F H a /\ ∀ b ∈ o.fp a,F b = none /\ H b ≠ none /\ Y.H0 b = none /\ NoOwn σd σ b
structure EndOk (Y:Dyn) (F:Hp) (De:EndsD) (Dn:Ends):Prop where
  nx:∀ σ H F' σd,Same F F' -> RS Y F' σd σ H -> De.nx σd -> Dn.nx σ H
  rt:∀ v σ H F' σd b,Same F F' -> RS Y F' σd σ H -> RepB Y F' H σd σ v b -> De.rt b σd -> Dn.rt v H
  bk:∀ σ H F' σd,Same F F' -> RS Y F' σd σ H -> De.bk σd -> Dn.bk σ H
  ct:∀ σ H F' σd,Same F F' -> RS Y F' σd σ H -> De.ct σd -> Dn.ct σ H
theorem EndOk.mono {Y:Dyn} {F F':Hp} {De:EndsD} {Dn:Ends} (h:EndOk Y F De Dn) (s:Same F F'):EndOk Y F' De Dn :=
  ⟨fun σ H F2 σd s2=>h.nx σ H F2 σd (s.trans s2),fun v σ H F2 σd b s2=>h.rt v σ H F2 σd b (s.trans s2),fun σ H F2 σd s2=>h.bk σ H F2 σd (s.trans s2),fun σ H F2 σd s2=>h.ct σ H F2 σd (s.trans s2)⟩
noncomputable def lS (Y:Dyn) (t:TSd):TS:=fun Dn σ H=>∃ F σd De,RS Y F σd σ H /\ t De σd /\ EndOk Y F De Dn
structure ES (G:GE) (k:Nat) (S:Stat) (st:Stmt) (t:TSd) :Prop where
  run:∀ X Y,XOk X G k S Y -> PS X st (lS Y t)
instance {G:GE} {k:Nat} {S:Stat} {st:Stmt} {t:TSd} :CoeFun (ES G k S st t) fun _=>∀ X Y,XOk X G k S Y -> PS X st (lS Y t):=⟨ES.run⟩
structure ESs (G:GE) (k:Nat) (S:Stat) (st:List Stmt) (t:TSd) :Prop where
  run:∀ X Y,XOk X G k S Y -> PSs X st (lS Y t)
instance {G:GE} {k:Nat} {S:Stat} {st:List Stmt} {t:TSd} :CoeFun (ESs G k S st t) fun _=>∀ X Y,XOk X G k S Y -> PSs X st (lS Y t):=⟨ESs.run⟩
section
variable {st:Stmt} {rest:List Stmt} {t u:TSd} {pos:Pos}
noncomputable def tNx:TSd:=fun De σ=>De.nx σ
noncomputable def tSq (t u:TSd):TSd:=fun De σ=>t { De with nx:=u De } σ
theorem s_nil:ESs G k S [] tNx:=.mk fun X Y ok=>pss_imp pss_nil fun Dn σ H q=>by
  obtain ⟨F,σd,De,R,q,K⟩:=q
  exact K.nx σ H F σd (Same.refl _) R q
theorem s_cons (h1:ES G k S st t) (h2:ESs G k S rest u):ESs G k S (st :: rest) (tSq t u):=.mk fun X Y ok=>pss_imp (pss_cons (h1 X Y ok) (h2 X Y ok)) fun Dn σ H q=>by
  obtain ⟨F,σd,De,R,q,K⟩:=q
  refine ⟨F,σd,_,R,q,⟨fun σ' H' F' σd' s R' q'=>?_,K.rt,K.bk,K.ct⟩⟩
  exact ⟨F',σd',De,R',q',K.mono s⟩
theorem s_one (h1:ES G k S st t):ESs G k S [st] t:=.mk fun X Y ok=>pss_one (h1 X Y ok)
noncomputable def tNev:TSd:=fun _ _=>False
theorem s_never:ES G k S st tNev:=.mk fun X Y ok=>ps_imp ps_never fun Dn σ H q=>by
  obtain ⟨F,σd,De,R,q,K⟩:=q
  exact q
noncomputable def tIfD (c:TB) (t u:TSd):TSd:=fun De σ=>c σ fun b σ1=>if b = true then t De σ1 else u De σ1
theorem s_if {c:Expr} {a b:List Stmt} {tc:TB} (hc:EB G k S c tc) (ha:ESs G k S a t) (hb:ESs G k S b u):ES G k S (.If c a b pos) (tIfD tc t u):=.mk fun X Y ok=>ps_imp (ps_if (hc X Y ok) (ha X Y ok) (hb X Y ok)) fun Dn σ H q=>by
  obtain ⟨F,σd,De,R,q,K⟩:=q
  refine ⟨F,σd,_,R,q,fun b H1 F1 σ1 s1 R1 q1=>?_⟩
  cases b with
  | true=>exact ⟨F1,σ1,De,R1,q1,K.mono s1⟩
  | false=>exact ⟨F1,σ1,De,R1,q1,K.mono s1⟩
noncomputable def tDp (t:TX):TSd:=fun De σ=>t σ fun _ σ1=>De.nx σ1
theorem s_expr {e:Expr} {te:TX} (he:EX G k S e te) (hs:∀ line env,swapsWith e none line env = pure false:=by intro _ _;rfl):ES G k S (.Expr e pos) (tDp te):=.mk fun X Y ok=>ps_imp (ps_expr (he X Y ok) (hs _ _)) fun Dn σ H q=>by
  obtain ⟨F,σd,De,R,q,K⟩:=q
  exact ⟨F,σd,_,R,q,fun v H1 F1 x σ1 s1 R1 r1 q1=>K.nx σ H1 F1 σ1 s1 R1 q1⟩
noncomputable def tRt (ios:List Nat) (t:TX):TSd:=fun De σ=>t σ fun x σ1=>match x with
  | .val d=>De.rt (.sh d) σ1
  | .own xs=>De.rt (.own xs) σ1
  | .obj o=>De.rt (.obj o) σ1
  | .any=>False
  | .var i=>match σ1[i]? with
    | some (some (.own xs))=>i ∉ ios /\ De.rt (.own xs) (σ1.set i none)
    | some (some (.sh d))=>De.rt (.sh d) σ1
    | some (some (.obj o))=>ios = [] /\ De.rt (.obj o) (σ1.set i none)
    | _=>False
theorem RS.forget {Y:Dyn} {F:Hp} {σd:Sd} {σ:St} {H:Hp} {i:Nat} {b:B} (R:RS Y F σd σ H) (e:σd[i]? = some (some b)) (hio:∀ p ∈ Y.io,p.1 ≠ i):RS Y F (σd.set i none) σ H where
  len:=by simpa using R.len
  lo:=R.lo
  fr:=R.fr
  fro:=R.fro
  old:=R.old
  sh:=fun j d q=>by
    by_cases hj:j = i
    · subst hj;rw [set_get_self e] at q;cases q
    · rw [set_get_ne hj] at q;exact R.sh j d q
  own:=fun j xs q=>by
    by_cases hj:j = i
    · subst hj;rw [set_get_self e] at q;cases q
    · rw [set_get_ne hj] at q;exact R.own j xs q
  dis:=fun j l xs ys a q1 q2 q3 q4=>by
    have hj:j ≠ i:=fun z=>by subst z;rw [set_get_self e] at q1;cases q1
    have hl:l ≠ i:=fun z=>by subst z;rw [set_get_self e] at q2;cases q2
    rw [set_get_ne hj] at q1;rw [set_get_ne hl] at q2
    exact R.dis j l xs ys a q1 q2 q3 q4
  io:=fun p hp=>by
    obtain ⟨w1,ys,w2⟩:=R.io p hp
    exact ⟨w1,ys,by rw [set_get_ne (hio p hp)];exact w2⟩
  ob:=R.ob.put (fun _ _=>rfl) (fun _ z=>nomatch z) fun _ _ z=>nomatch z
theorem RS.nio {Y:Dyn} {F:Hp} {σd:Sd} {σ:St} {H:Hp} {i:Nat} {xs:List D} (R:RS Y F σd σ H) (h:σd[i]? = some (some (.own xs))) (hio:∀ p ∈ Y.io,p.1 ≠ i) {a:Addr} (q1:σ[i]? = some (some (.ref a))):Y.H0 a = none /\ a ∉ Y.ioL:=by
  obtain ⟨b,vs,w1,w2,w3,w4,w5⟩:=R.own i xs h
  rw [q1] at w1;cases w1
  have nin:a ∉ Y.ioL:=fun q5=>by
    obtain ⟨p,hp,e⟩:=List.mem_map.mp q5
    obtain ⟨z1,ys,z2⟩:=R.io p hp
    exact absurd (R.dis p.1 i ys xs a z2 h (by rw [z1,e]) q1) (hio p hp)
  rcases w5 with w5 | w5
  · exact ⟨w5,nin⟩
  · exact absurd w5 nin
theorem s_ret {e:Expr} {te:TX} (he:EX G k S e te) (hblk:S.blk = false:=by rfl):ES G k S (.Return (some e) pos) (tRt S.ios te):=.mk fun X Y ok=>ps_imp (ps_ret (he X Y ok)) fun Dn σ H q=>by
  obtain ⟨F,σd,De,R,q,K⟩:=q
  refine ⟨F,σd,_,R,q,fun v H1 F1 x σ1 s1 R1 r1 q1=>?_⟩
  cases x with
  | val d=>exact K.rt v σ H1 F1 σ1 (.sh d) s1 R1 r1 q1
  | own xs=>exact K.rt v σ H1 F1 σ1 (.own xs) s1 R1 r1 q1
  | obj o=>exact K.rt v σ H1 F1 σ1 (.obj o) s1 R1 r1 q1
  | any=>exact False.elim q1
  | var i =>
    have r1:σ[i]? = some (some v):=r1
    dsimp only at q1
    split at q1
    · rename_i xs e
      obtain ⟨a,vs,w1,w2,w3,w4,w5⟩:=R1.own i xs e
      rw [r1] at w1;cases w1
      have hio:∀ p ∈ Y.io,p.1 ≠ i:=fun p hp z=>q1.1 (z ▸ ok.ios p hp)
      refine K.rt _ σ H1 F1 _ (.own xs) s1 (R1.forget e hio) ⟨a,vs,rfl,w2,w3,w4,(R1.nio e hio r1).1,⟨fun j ys e2 z=>?_,fun ⟨j,o,c,e2,e3,hm⟩=>?_⟩⟩ q1.2
      · by_cases hj:j = i
        · subst hj;rw [set_get_self e] at e2;cases e2
        · rw [set_get_ne hj] at e2
          exact hj (R1.dis j i ys xs a e2 e z r1)
      · have hj:j ≠ i:=fun z=>by subst z;rw [set_get_self e] at e2;cases e2
        rw [set_get_ne hj] at e2
        exact R1.ob.dsx i xs a e r1 ⟨j,o,c,e2,e3,hm⟩
    · rename_i d e
      obtain ⟨v2,e2,r2⟩:=R1.sh i d e
      rw [r1] at e2;cases e2
      exact K.rt v σ H1 F1 σ1 (.sh d) s1 R1 r2 q1
    · rename_i o e
      obtain ⟨a,w1,w2,w3⟩:=R1.ob.obj i o e
      rw [r1] at w1;cases w1
      have hob:=ok.obs hblk q1.1
      have hio:∀ p ∈ Y.io,p.1 ≠ i:=fun p hp z=>by
        have:=ok.ios p hp
        rw [q1.1] at this;cases this
      refine K.rt _ σ H1 F1 _ (.obj o) s1 (R1.forget e hio) ⟨a,rfl,w2,fun b hb=>⟨(w3 b hb).1,(w3 b hb).2.1,?_,⟨fun j ys e2 z=>?_,fun ⟨j,o2,c,e2,e3,hm⟩=>?_⟩⟩⟩ q1.2
      · rcases (w3 b hb).2.2 with z | z
        · exact z
        · rw [hob] at z;cases z
      · have hj:j ≠ i:=fun z=>by subst z;rw [set_get_self e] at e2;cases e2
        rw [set_get_ne hj] at e2
        exact R1.ob.dsx j ys b e2 z ⟨i,o,a,e,r1,hb⟩
      · have hj:j ≠ i:=fun z=>by subst z;rw [set_get_self e] at e2;cases e2
        rw [set_get_ne hj] at e2
        exact R1.ob.dso j i o2 o c a e2 e e3 r1 hj b hm hb
    · exact q1.elim
end

theorem gs {α:Type} {l:List α} {i j:Nat} {x y:α} (h:(l.set i x)[j]? = some y):(j = i /\ y = x) \/ (j ≠ i /\ l[j]? = some y):=by
  by_cases hj:j = i
  · subst hj
    by_cases hl:j < l.length
    · rw [List.getElem?_set_self hl] at h;exact .inl ⟨rfl,(Option.some.inj h).symm⟩
    · have:(l.set j x)[j]? = none:=by rw [List.getElem?_eq_none_iff];simp;omega
      rw [this] at h;cases h
  · rw [List.getElem?_set_ne (Ne.symm hj)] at h;exact .inr ⟨hj,h⟩
theorem gs_ne {α:Type} {l:List α} {i j:Nat} {x:α} (h:j ≠ i):(l.set i x)[j]? = l[j]?:=List.getElem?_set_ne (Ne.symm h)
theorem gs_eq {α:Type} {l:List α} {i:Nat} {x:α} (h:i < l.length):(l.set i x)[i]? = some x:=List.getElem?_set_self h
theorem gs_lt {α:Type} {l:List α} {i j:Nat} {x y:α} (h:(l.set i x)[j]? = some y):j < l.length:=by
  have:=(List.getElem?_eq_some_iff.mp h).1
  simpa using this
theorem RS.setSh {Y:Dyn} {F:Hp} {σd:Sd} {σ:St} {H:Hp} {i:Nat} {d:D} {v:V} (R:RS Y F σd σ H) (r:Rep F v d) (hio:∀ p ∈ Y.io,p.1 ≠ i):RS Y F (σd.set i (some (.sh d))) (σ.set i (some v)) H where
  len:=by simpa using R.len
  lo:=R.lo
  fr:=R.fr
  fro:=R.fro
  old:=R.old
  sh:=fun j e q=>by
    rcases gs q with ⟨rfl,z⟩ | ⟨hj,q'⟩
    · cases z
      exact ⟨v,gs_eq (by rw [<- R.len];exact gs_lt q),r⟩
    · obtain ⟨u,w1,w2⟩:=R.sh j e q'
      exact ⟨u,by rw [gs_ne hj];exact w1,w2⟩
  own:=fun j xs q=>by
    rcases gs q with ⟨_,z⟩ | ⟨hj,q'⟩
    · cases z
    · obtain ⟨a,vs,w1,w2⟩:=R.own j xs q'
      exact ⟨a,vs,by rw [gs_ne hj];exact w1,w2⟩
  dis:=fun j l xs ys a q1 q2 q3 q4=>by
    rcases gs q1 with ⟨_,z⟩ | ⟨hj,q1⟩
    · cases z
    rcases gs q2 with ⟨_,z⟩ | ⟨hl,q2⟩
    · cases z
    rw [gs_ne hj] at q3;rw [gs_ne hl] at q4
    exact R.dis j l xs ys a q1 q2 q3 q4
  io:=fun p hp=>by
    obtain ⟨w1,ys,w2⟩:=R.io p hp
    exact ⟨by rw [gs_ne (hio p hp)];exact w1,ys,by rw [gs_ne (hio p hp)];exact w2⟩
  ob:=R.ob.put (fun _ hj=>gs_ne hj) (fun _ z=>nomatch z) fun _ _ z=>nomatch z
theorem RS.setOwn {Y:Dyn} {F:Hp} {σd:Sd} {σ:St} {H:Hp} {i:Nat} {xs:List D} {a:Addr} {vs:List V} (R:RS Y F σd σ H) (h1:H a = some (.lst vs)) (h2:RepL F vs xs) (h3:F a = none) (h4:Y.H0 a = none) (h5:NoOwn σd σ a)
    (hio:∀ p ∈ Y.io,p.1 ≠ i):RS Y F (σd.set i (some (.own xs))) (σ.set i (some (.ref a))) H where
  len:=by simpa using R.len
  lo:=R.lo
  fr:=R.fr
  fro:=R.fro
  old:=R.old
  sh:=fun j e q=>by
    rcases gs q with ⟨_,z⟩ | ⟨hj,q'⟩
    · cases z
    · obtain ⟨u,w1,w2⟩:=R.sh j e q'
      exact ⟨u,by rw [gs_ne hj];exact w1,w2⟩
  own:=fun j ys q=>by
    rcases gs q with ⟨rfl,z⟩ | ⟨hj,q'⟩
    · cases z
      exact ⟨a,vs,gs_eq (by rw [<- R.len];exact gs_lt q),h1,h2,h3,.inl h4⟩
    · obtain ⟨b,us,w1,w2⟩:=R.own j ys q'
      exact ⟨b,us,by rw [gs_ne hj];exact w1,w2⟩
  dis:=fun j l ys zs b q1 q2 q3 q4=>by
    rcases gs q1 with ⟨rfl,z⟩ | ⟨hj,q1⟩
    · rcases gs q2 with ⟨e,z⟩ | ⟨hl,q2⟩
      · exact e.symm
      · rw [gs_ne hl] at q4
        rcases gs q3 with ⟨_,z3⟩ | ⟨hc,_⟩
        · cases z3
          exact absurd q4 (h5 l zs q2)
        · exact absurd rfl hc
    · rw [gs_ne hj] at q3
      rcases gs q2 with ⟨e2,z⟩ | ⟨hl,q2⟩
      · rcases gs q4 with ⟨_,z4⟩ | ⟨hc,_⟩
        · cases z4
          exact absurd q3 (h5 j ys (by assumption))
        · exact absurd e2 hc
      · rw [gs_ne hl] at q4
        exact R.dis j l ys zs b (by assumption) q2 q3 q4
  io:=fun p hp=>by
    obtain ⟨w1,ys,w2⟩:=R.io p hp
    exact ⟨by rw [gs_ne (hio p hp)];exact w1,ys,by rw [gs_ne (hio p hp)];exact w2⟩
  ob:=R.ob.put (fun _ hj=>gs_ne hj) (fun _ z=>nomatch z) fun ys b _ z=>by
    rcases gs z with ⟨_,z2⟩ | ⟨hc,_⟩
    · cases z2;exact h5.nob
    · exact absurd rfl hc
theorem RS.setObj {Y:Dyn} {F:Hp} {σd:Sd} {σ:St} {H:Hp} {i:Nat} {o:O} {a:Addr} (R:RS Y F σd σ H) (h1:o.rep F H a) (h2:∀ b ∈ o.fp a,F b = none /\ H b ≠ none /\ Y.H0 b = none /\ NoOwn σd σ b)
    (hio:∀ p ∈ Y.io,p.1 ≠ i):RS Y F (σd.set i (some (.obj o))) (σ.set i (some (.ref a))) H where
  len:=by simpa using R.len
  lo:=R.lo
  fr:=R.fr
  fro:=R.fro
  old:=R.old
  sh:=fun j e q=>by
    rcases gs q with ⟨_,z⟩ | ⟨hj,q'⟩
    · cases z
    · obtain ⟨u,w1,w2⟩:=R.sh j e q'
      exact ⟨u,by rw [gs_ne hj];exact w1,w2⟩
  own:=fun j ys q=>by
    rcases gs q with ⟨_,z⟩ | ⟨hj,q'⟩
    · cases z
    · obtain ⟨b,us,w1,w2⟩:=R.own j ys q'
      exact ⟨b,us,by rw [gs_ne hj];exact w1,w2⟩
  dis:=fun j l ys zs b q1 q2 q3 q4=>by
    rcases gs q1 with ⟨_,z⟩ | ⟨hj,q1⟩
    · cases z
    rcases gs q2 with ⟨_,z⟩ | ⟨hl,q2⟩
    · cases z
    rw [gs_ne hj] at q3;rw [gs_ne hl] at q4
    exact R.dis j l ys zs b q1 q2 q3 q4
  io:=fun p hp=>by
    obtain ⟨w1,ys,w2⟩:=R.io p hp
    exact ⟨by rw [gs_ne (hio p hp)];exact w1,ys,by rw [gs_ne (hio p hp)];exact w2⟩
  ob:=by
    have at':∀ {j:Nat} {c:Addr},j = i -> (σ.set i (some (.ref a)))[j]? = some (some (.ref c)) -> c = a:=fun {j c} e z=>by
      subst e
      rcases gs z with ⟨_,z2⟩ | ⟨hc,_⟩
      · cases z2;rfl
      · exact absurd rfl hc
    refine ⟨fun j p q=>?_,fun j l p p2 c d q1 q2 q3 q4 hne x hx hx2=>?_,fun j ys b q1 q2 ⟨l,p,c,q3,q4,hm⟩=>?_,R.ob.there,R.ob.thz,R.ob.tab⟩
    · rcases gs q with ⟨rfl,z⟩ | ⟨hj,q'⟩
      · cases z
        exact ⟨a,gs_eq (by rw [<- R.len];exact gs_lt q),h1,fun b hb=>⟨(h2 b hb).1,(h2 b hb).2.1,.inl (h2 b hb).2.2.1⟩⟩
      · obtain ⟨c,w1,w2⟩:=R.ob.obj j p q'
        exact ⟨c,by rw [gs_ne hj];exact w1,w2⟩
    · rcases gs q1 with ⟨e1,z⟩ | ⟨hj,q1'⟩
      · cases z
        rcases gs q2 with ⟨e2,z⟩ | ⟨hl,q2'⟩
        · exact hne (e1.trans e2.symm)
        · rw [gs_ne hl] at q4
          have:=at' e1 q3
          subst this
          exact (h2 x hx).2.2.2.nob ⟨l,p2,d,q2',q4,hx2⟩
      · rw [gs_ne hj] at q3
        rcases gs q2 with ⟨e2,z⟩ | ⟨hl,q2'⟩
        · cases z
          have:=at' e2 q4
          subst this
          exact (h2 x hx2).2.2.2.nob ⟨j,p,c,q1',q3,hx⟩
        · rw [gs_ne hl] at q4
          exact R.ob.dso j l p p2 c d q1' q2' q3 q4 hne x hx hx2
    · rcases gs q1 with ⟨_,z⟩ | ⟨hj,q1'⟩
      · cases z
      rw [gs_ne hj] at q2
      rcases gs q3 with ⟨e3,z⟩ | ⟨hl,q3'⟩
      · cases z
        have:=at' e3 q4
        subst this
        exact (h2 b hm).2.2.2 j ys q1' q2
      · rw [gs_ne hl] at q4
        exact R.ob.dsx j ys b q1' q2 ⟨l,p,c,q3',q4,hm⟩
noncomputable def stD (ios:List Nat) (i:Nat) (x:EV) (σ:Sd) (Q:Sd -> Prop):Prop:=match x with
  | .val d=>Q (σ.set i (some (.sh d)))
  | .own xs=>Q (σ.set i (some (.own xs)))
  | .obj o=>Q (σ.set i (some (.obj o)))
  | .any=>False
  | .var j=>match σ[j]? with
    | some (some (.own xs))=>j ∉ ios /\ Q ((σ.set j (some (.sh (.lst xs)))).set i (some (.sh (.lst xs))))
    | some (some (.sh d))=>Q (σ.set i (some (.sh d)))
    | _=>False
theorem stD_sound {Y:Dyn} {F:Hp} {σd:Sd} {σ:St} {H:Hp} {i:Nat} {v:V} {x:EV} {ios:List Nat} {Q:Sd -> Prop} (R:RS Y F σd σ H) (r:RepX Y F H σd σ v x) (hi:i ∉ ios) (hio:∀ p ∈ Y.io,p.1 ∈ ios) (q:stD ios i x σd Q) :
    ∃ F' σd',Same F F' /\ RS Y F' σd' (σ.set i (some v)) H /\ Q σd':=by
  have h0:∀ p ∈ Y.io,p.1 ≠ i:=fun p hp z=>hi (z ▸ hio p hp)
  cases x with
  | val d=>exact ⟨F,_,Same.refl _,R.setSh r h0,q⟩
  | own xs =>
    obtain ⟨a,vs,rfl,h1,h2,h3,h4,h5⟩:=r
    exact ⟨F,_,Same.refl _,R.setOwn h1 h2 h3 h4 h5 h0,q⟩
  | obj o =>
    obtain ⟨a,rfl,h1,h2⟩:=r
    exact ⟨F,_,Same.refl _,R.setObj h1 h2 h0,q⟩
  | any=>exact False.elim q
  | var j =>
    have r:σ[j]? = some (some v):=r
    unfold stD at q
    dsimp only at q
    split at q
    · rename_i xs e
      obtain ⟨F2,v2,s2,R2,e2,r2⟩:=R.freezeVar e fun p hp z=>q.1 (z ▸ hio p hp)
      rw [r] at e2;cases e2
      exact ⟨F2,_,s2,R2.setSh r2 h0,q.2⟩
    · rename_i d e
      obtain ⟨v2,e2,r2⟩:=R.sh j d e
      rw [r] at e2;cases e2
      exact ⟨F,_,Same.refl _,R.setSh r2 h0,q⟩
    · exact q.elim
noncomputable def tSt (ios:List Nat) (i:Nat) (t:TX):TSd:=fun De σ=>t σ fun x σ1=>stD ios i x σ1 De.nx
theorem loc_of {X:Cx} {Y:Dyn} (ok:XOk X G k S Y) {x:Str} (h:S.sc.lookup x = some .local \/ (S.sc.lookup x = some .cell /\ S.blk = false)):L2.Loc X.env.scope x:=by
  unfold L2.Loc;rw [ok.sc];exact h.imp id (·.1)
theorem fn_of' {X:Cx} {Y:Dyn} (ok:XOk X G k S Y) {x:Str} (h:S.sc.lookup x = some .local \/ (S.sc.lookup x = some .cell /\ S.blk = false)):X.fn x = true \/ X.env.scope.names.lookup x = some .local:=by
  rcases h with h | h
  · right;rw [ok.sc];exact h
  · left;exact ok.fn h.2 x h.1
theorem s_set (i:Nat) {x:Str} {e:Expr} {te:TX} {pos pos':Pos} (he:EX G k S e te) (hi:S.N[i]? = some x:=by rfl) (hx:S.sc.lookup x = some .local \/ (S.sc.lookup x = some .cell /\ S.blk = false):=by first | exact Or.inl rfl | exact Or.inr ⟨rfl,rfl⟩) (hn:i ∉ S.ios:=by first | decide | exact List.not_mem_nil)
    (hs:∀ line env,swapsWith e (some (.Name x pos')) line env = pure false:=by intro _ _;rfl):ES G k S (.Assign [.Name x pos'] e pos) (tSt S.ios i te):=.mk fun X Y ok =>
  ps_imp (L2.ps_set (i:=i) (by rw [ok.N];exact ok.nd) (by rw [ok.N];exact hi) (loc_of ok hx) (he X Y ok) (hs _ _) (fn_of' ok hx)) fun Dn σ H q=>by
    obtain ⟨F,σd,De,R,q,K⟩:=q
    refine ⟨F,σd,_,R,q,fun v H1 F1 y σ1 s1 R1 r1 q1=>?_⟩
    obtain ⟨F2,σ2,s2,R2,q2⟩:=stD_sound R1 r1 hn ok.ios q1
    exact K.nx _ H1 F2 σ2 (s1.trans s2) R2 q2
theorem RS.write {Y:Dyn} {F:Hp} {σd:Sd} {σ:St} {H:Hp} {i:Nat} {xs ys:List D} {a:Addr} {us:List V} (R:RS Y F σd σ H) (e:σd[i]? = some (some (.own xs))) (h:σ[i]? = some (some (.ref a))) (r:RepL F us ys) :
    RS Y F (σd.set i (some (.own ys))) σ (upd H a (.lst us)):=by
  obtain ⟨b,vs,w1,w2,w3,w4,w5⟩:=R.own i xs e
  rw [h] at w1;cases w1
  have hl:i < σd.length:=(List.getElem?_eq_some_iff.mp e).1
  have hob:Obs Y F (σd.set i (some (.own ys))) σ (upd H a (.lst us)):=R.ob.step (Same.refl _) (fun j o q=>by
    rcases gs q with ⟨_,z⟩ | ⟨hj,q⟩
    · cases z
    · exact ⟨q,rfl⟩) (fun b hb=>by
    obtain ⟨z1,z2,z3⟩:=R.ob.owned hb
    have hne:b ≠ a:=fun z=>R.ob.dsx i xs a e h (z ▸ hb)
    exact ⟨upd_ne hne,z1,z3⟩) (fun j zs b q1 q2=>by
    rcases gs q1 with ⟨e1,_⟩ | ⟨hj,q1⟩
    · subst e1
      rw [h] at q2;cases q2
      exact R.ob.dsx j xs a e h
    · exact R.ob.dsx j zs b q1 q2) fun b hb=>by
    by_cases hne:b = a
    · rw [hne,upd_same];exact fun z=>nomatch z
    · rw [upd_ne hne];exact R.ob.there b hb
  refine ⟨by simpa using R.len,R.lo,fun b o q=>?_,R.fro,fun b o q n=>?_,fun j d q=>?_,fun j zs q=>?_,fun j l zs qs b q1 q2 q3 q4=>?_,fun p hp=>?_,hob⟩
  · have:b ≠ a:=fun z=>by rw [z,w4] at q;cases q
    rw [upd_ne this];exact R.fr b o q
  · have:b ≠ a:=fun z=>by
      subst z
      rcases w5 with w5 | w5
      · rw [w5] at q;cases q
      · exact Dyn.ioL_sub n w5
    rw [upd_ne this];exact R.old b o q n
  · rcases gs q with ⟨_,z⟩ | ⟨hj,q⟩
    · cases z
    · exact R.sh j d q
  · rcases gs q with ⟨rfl,z⟩ | ⟨hj,q⟩
    · cases z
      exact ⟨a,us,h,upd_same,r,w4,w5⟩
    · obtain ⟨b,ws,z1,z2,z3,z4,z5⟩:=R.own j zs q
      have:b ≠ a:=fun z=>hj (R.dis j i zs xs a q e (z ▸ z1) h)
      exact ⟨b,ws,z1,by rw [upd_ne this];exact z2,z3,z4,z5⟩
  · have f:∀ {m:Nat} {ms:List D},(σd.set i (some (B.own ys)))[m]? = some (some (B.own ms)) -> ∃ ms',σd[m]? = some (some (B.own ms')):=fun {m ms} q=>by
      rcases gs q with ⟨rfl,z⟩ | ⟨hj,q⟩
      · exact ⟨xs,e⟩
      · exact ⟨_,q⟩
    obtain ⟨_,q1⟩:=f q1
    obtain ⟨_,q2⟩:=f q2
    exact R.dis j l _ _ b q1 q2 q3 q4
  · obtain ⟨z1,zs,z2⟩:=R.io p hp
    refine ⟨z1,?_⟩
    by_cases hp':p.1 = i
    · exact ⟨ys,by rw [hp',gs_eq hl]⟩
    · exact ⟨zs,by rw [gs_ne hp'];exact z2⟩
noncomputable def isOwn (σ:Sd) (i:Nat):Prop:=∃ xs,σ[i]? = some (some (B.own xs))
noncomputable def appQ (i:Nat) (d:D) (σ:Sd) (Q:Sd -> Prop):Prop:=match σ[i]? with
  | some (some (.own xs))=>xs.length < sizeLine /\ Q (σ.set i (some (.own (xs ++ [d]))))
  | _=>False
noncomputable def tApp (to:TV) (te:TD):TX:=fun σ Q=>to σ fun x σ1=>match x with
  | .var i=>isOwn σ1 i /\ te σ1 fun d σ2=>appQ i d σ2 fun σ3=>Q (.val .non) σ3
  | _=>False
theorem r_append {o e:Expr} {to:TV} {te:TD} {apos cpos:Pos} (ho:EO G k S o to) (he:ED G k S e te) (hb:∀ env,attributeBase o "append" env (eval o env) = eval o env:=by intro _;rfl)
    (hfew:∀ env,((backTo cpos (starEach [e] env)).all (fun x=>!x.1) && (backToKw cpos (keywordEach [] env)).all (fun x=>x.1.isSome) && decide (([e]:List Expr).length + ([]:List Keyword).length + (if ([]:List Keyword).isEmpty then 0 else 1) < 30)) = true:=by intro _;rfl)
    (hline:(apos.endLine == cpos.line) = true:=by rfl) (hs:∀ env,starEach [e] env = [(false,eval e env)]:=by intro _;rfl):EX G k S (.Call (.Attribute o "append" apos) [e] [] cpos) (tApp to te):=.mk fun X Y ok=>by
  have ha:PA X [e] (tCons (lD Y te) tNil):=pa_cons (he X Y ok) pa_nil (by rw [hs];rfl)
  refine pe_imp (pe_bm F.plainAttrs_list F.slot_list_append F.type_list_append mt_append (ho X Y ok) ha (hb _) (hfew _) hline (by rw [hs];rfl) (by rfl)) fun σ H Q q=>?_
  obtain ⟨F,σd,Qd,R,q,K⟩:=q
  refine ⟨F,σd,_,R,q,fun v1 H1 F1 x σ1 s1 R1 r1 q1=>?_⟩
  cases x with
  | val d=>exact q1.elim
  | any=>exact q1.elim
  | var i =>
    obtain ⟨⟨ys,e0⟩,q1⟩:=q1
    have r1:σ[i]? = some (some v1):=r1
    obtain ⟨a,vs,w1,w2,w3,w4,w5⟩:=R1.own i ys e0
    rw [r1] at w1;cases w1
    refine ⟨.inl ⟨rfl,vs,.of w2⟩,F1,σ1,_,R1,q1,fun v2 H2 F2 d σ2 s2 R2 r2 q2=>?_⟩
    unfold appQ at q2
    split at q2
    · rename_i xs e2
      obtain ⟨b,us,z1,z2,z3,z4,z5⟩:=R2.own i xs e2
      rw [r1] at z1;cases z1
      exact ⟨a,us,v2,rfl,rfl,z2,by rw [z3.length];exact q2.1,K .non _ F2 (.val .non) _ (s1.trans s2) (R2.write e2 r1 (z3.append (.cons r2 .nil))) .non q2.2⟩
    · exact q2.elim
end Vc

set_option Elab.async false
set_option linter.all false
set_option maxRecDepth 100000

namespace Vc
open PySem L2
variable [KF]
variable {G:GE} {k:Nat} {S:Stat}

noncomputable abbrev FSp:=List D -> (B -> Prop) -> Prop
noncomputable def RepR (H F H':Hp) (v:V):B -> Prop
  | .sh d=>Rep F v d
  | .own xs=>∃ a vs,v = .ref a /\ H' a = some (.lst vs) /\ RepL F vs xs /\ F a = none /\ H a = none
  | .obj o=>∃ a,v = .ref a /\ o.rep F H' a /\ ∀ b ∈ o.fp a,F b = none /\ H' b ≠ none /\ H b = none
noncomputable def spOf (sp:FSp):Sp:=fun vs H Q _=>∃ F ds Qd,SameT F H /\ RepL F vs ds /\ sp ds Qd /\
  ∀ v H' F' b,Same F F' -> Same F' H' -> Same H H' -> (∀ c o,F' c = some o -> F c = some o \/ H c = none) -> RepR H F' H' v b -> Qd b -> Q v H'
theorem RS.call {Y:Dyn} {F F':Hp} {σd:Sd} {σ:St} {H H':Hp} (R:RS Y F σd σ H) (s1:Same F F') (s2:Same F' H') (s3:Same H H') (fr:∀ c o,F' c = some o -> F c = some o \/ H c = none):RS Y F' σd σ H' where
  len:=R.len
  lo:=R.lo.trans s1
  fr:=s2
  fro:=fun b o e=>by
    rcases fr b o e with h | h
    · exact R.fro b o h
    · exact .inr (R.fresh0 h).1
  old:=fun b o e n=>s3 b o (R.old b o e n)
  sh:=fun i d e=>by
    obtain ⟨v,h1,h2⟩:=R.sh i d e
    exact ⟨v,h1,h2.mono s1⟩
  own:=fun i xs e=>by
    obtain ⟨a,vs,h1,h2,h3,h4,h5⟩:=R.own i xs e
    refine ⟨a,vs,h1,s3 a _ h2,h3.mono s1,?_,h5⟩
    cases q:F' a with
    | none=>rfl
    | some o =>
      rcases fr a o q with h | h
      · rw [h4] at h;cases h
      · rw [h2] at h;cases h
  dis:=R.dis
  io:=R.io
  ob:=by
    have up:∀ b,H b ≠ none -> H' b = H b:=fun b hb=>by
      cases q:H b with
      | none=>exact absurd q hb
      | some o=>exact s3 b o q
    refine R.ob.step s1 (fun _ _ e=>⟨e,rfl⟩) (fun b hb=>?_) R.ob.dsx fun b hb=>by rw [up b (R.ob.there b hb)];exact R.ob.there b hb
    obtain ⟨w1,w2,w3⟩:=R.ob.owned hb
    refine ⟨up b w2,?_,w3⟩
    cases q:F' b with
    | none=>rfl
    | some o =>
      rcases fr b o q with h | h
      · rw [w1] at h;cases h
      · exact absurd h w2
noncomputable def FnG (G:GE) (k:Nat) (x:Str) (sp:FSp):Prop:=∃ f fd ps,FnOk G.P G.w G.K G.mg G.base CX0 k f fd ps (spOf sp) /\ G.mg x = some (.ref f) /\ PySem.W.keepIn G.K (.ref f) = true /\ Binds G.K fd ps []
theorem FnG.mono {x:Str} {sp:FSp} {j:Nat} (h:FnG G j x sp) (l:j <= k):FnG G k x sp:=by
  obtain ⟨f,fd,ps,h1,h2,h3,h4⟩:=h
  exact ⟨f,fd,ps,h1.mono l,h2,h3,h4⟩
noncomputable def bE:B -> EV
  | .sh d=>.val d
  | .own xs=>.own xs
  | .obj o=>.obj o
noncomputable def Cl (sp:FSp) (ds:List D) (Q:B -> Prop):Prop:=sp ds Q
noncomputable def tCa (sp:FSp) (t:TDs):TX:=fun σ Q=>t σ fun ds σ1=>Cl sp ds fun b=>Q (bE b) σ1
theorem r_call {x:Str} {sp:FSp} {e:Expr} {es:List Expr} {t:TDs} {p pos:Pos} (h:FnG G k x sp) (ha:EDs G k S (e :: es) t) (hg:S.sc.lookup x = some .globalImplicit:=by rfl) (hdb:(x == ("__debug__":Str)) = false:=by decide)
    (he:∀ env,starEach (e :: es) env = (false,eval e env) :: starEach es env:=by exact fun _=>Vc.se_cons rfl) (hpl:∀ env,(backTo pos (starEach es env)).any (·.1) = false:=by intro _;rfl) (hh:S.hot = false:=by rfl):EX G k S (.Call (.Name x p) (e :: es) [] pos) (tCa sp t):=.mk fun X Y ok=>by
  obtain ⟨f,fd,ps,h1,h2,h3,h4⟩:=h
  have h1':FnOk X.prog X.w X.K X.mg X.base CX0 k f fd ps (spOf sp):=by rw [ok.P,ok.w,ok.K,ok.mg,ok.base];exact h1
  refine pe_imp (pe_call (E:=E0) (dvs:=[]) (ds:=[]) h1' (ok.room hh) (gl_of ok hg) (by rw [ok.mg];exact h2) (by rw [ok.K];exact h3) (by rw [ok.K];exact h4) .nil pass0 (ha X Y ok) hdb (he _) (hpl _)) fun σ H Q q=>?_
  obtain ⟨F,σd,Qd,R,q,K⟩:=q
  refine ⟨F,σd,_,R,q,fun vs H1 F1 ds σ1 s1 R1 r1 q1=>?_⟩
  show spOf sp (vs ++ []) H1 Q E0
  rw [List.append_nil]
  refine ⟨F1,ds,_,⟨R1.fr,R1.ob.tab⟩,r1,q1,fun v H' F' b s2 s3 s4 fr r2 q2=>?_⟩
  have R2:=R1.call s2 s3 s4 fr
  cases b with
  | sh d=>exact K v H' F' (.val d) σ1 (s1.trans s2) R2 r2 q2
  | own xs =>
    obtain ⟨a,us,rfl,w1,w2,w3,w4⟩:=r2
    refine K _ H' F' (.own xs) σ1 (s1.trans s2) R2 ⟨a,us,rfl,w1,w2,w3,(R1.fresh0 w4).1,R1.noFresh w4⟩ q2
  | obj o =>
    obtain ⟨a,rfl,w1,w2⟩:=r2
    exact K _ H' F' (.obj o) σ1 (s1.trans s2) R2 ⟨a,rfl,w1,fun b hb=>⟨(w2 b hb).1,(w2 b hb).2.1,(R1.fresh0 (w2 b hb).2.2).1,R1.noFresh (w2 b hb).2.2⟩⟩ q2

noncomputable def startD (n:Nat) (ds:List D):Sd:=ds.map (fun d=>some (.sh d)) ++ List.replicate (n - ds.length) none
theorem start_sh {F:Hp}:∀ {vs:List V} {ds:List D} (m:Nat) {i:Nat} {d:D},RepL F vs ds -> (ds.map (fun d=>some (B.sh d)) ++ List.replicate m none)[i]? = some (some (.sh d)) -> ∃ v,(vs.map some ++ List.replicate m none)[i]? = some (some v) /\ Rep F v d
  | [],[],m,i,d,.nil,e=>by
    simp only [List.map_nil,List.nil_append,List.getElem?_replicate] at e
    split at e<;>cases e
  | v :: vs,x :: ds,m,0,d,.cons r t,e=>by
    simp at e;subst e
    exact ⟨v,by simp,r⟩
  | v :: vs,x :: ds,m,i + 1,d,.cons r t,e=>by
    obtain ⟨u,h1,h2⟩:=start_sh (i:=i) m t (by simpa using e)
    exact ⟨u,by simpa using h1,h2⟩
theorem start_own:∀ (ds:List D) (m i:Nat) (xs:List D),(ds.map (fun d=>some (B.sh d)) ++ List.replicate m none)[i]? ≠ some (some (.own xs))
  | [],m,i,xs=>by
    simp only [List.map_nil,List.nil_append,List.getElem?_replicate]
    intro e
    split at e<;>cases e
  | x :: ds,m,0,xs=>by simp
  | x :: ds,m,i + 1,xs=>by
    have:=start_own ds m i xs
    simpa using this
theorem start_obj:∀ (ds:List D) (m i:Nat) (o:O),(ds.map (fun d=>some (B.sh d)) ++ List.replicate m none)[i]? ≠ some (some (.obj o))
  | [],m,i,o=>by
    simp only [List.map_nil,List.nil_append,List.getElem?_replicate]
    intro e
    split at e<;>cases e
  | x :: ds,m,0,o=>by simp
  | x :: ds,m,i + 1,o=>by
    have:=start_obj ds m i o
    simpa using this
theorem RS.start {F H:Hp} {vs:List V} {ds:List D} (n:Nat) (s:SameT F H) (r:RepL F vs ds):RS ⟨H,F,[],[]⟩ F (startD n ds) (vs.map some ++ List.replicate (n - vs.length) none) H where
  len:=by unfold startD;simp [r.length]
  lo:=Same.refl _
  fr:=s.1
  fro:=fun b o e=>.inl e
  old:=fun b o e _=>e
  sh:=fun i d e=>by
    rw [r.length]
    exact start_sh _ r e
  own:=fun i xs e=>absurd e (start_own _ _ _ _)
  dis:=fun i j xs ys a e=>absurd e (start_own _ _ _ _)
  io:=fun p hp=>absurd hp (by simp)
  ob:=.none (fun i o=>start_obj _ _ _ _) s.2 fun b hb=>by cases hb
theorem fn_ok {x qual:Str} {st:Stmt} {f:Addr} {fd:FuncData} {N ps:List Str} {sp:FSp} {t:TSd} (hK:G.K = KF.K) (Fn:Fun G.K x qual st f fd) (Sc:FnScope N ps (defScope st)) (ht:ESs G k ⟨N,(defScope st).names,[],false,false,false,fun _ _=>False⟩ (defBody st) t)
    (len:∀ ds Q,sp ds Q -> ds.length = ps.length)
    (body:∀ ds Q,sp ds Q -> t { nx:=fun _=>Q (.sh .non),rt:=fun b _=>Q b } (startD N.length ds)):FnOk G.P G.w G.K G.mg G.base CX0 (k + 1) f fd ps (spOf sp):=by
  refine Fn.ok Sc (fun vs H Q E h=>?_) (fun cdv A outer s H vs Q E hr h=>?_)
  · obtain ⟨F,ds,Qd,s,r,q,K⟩:=h
    rw [r.length];exact len _ _ q
  · obtain ⟨F,ds,Qd,sm,r,q,K⟩:=h
    refine ⟨_,ht (cxOf CX0 G.P G.w G.K G.mg G.base N qual (defScope st) f cdv A outer s H E).nox ⟨H,F,[],[]⟩ ⟨rfl,rfl,rfl,hK,rfl,rfl,rfl,rfl,Sc.nd,fun p hp=>absurd hp (by simp),fun _ _=>rfl,fun _=>rfl,Sc.kind,fun _ _ _=>rfl,fun _=>hr.hd,hr.dp,hr.un,fun _=>PassesOwn.never,fun _=>⟨rfl,rfl,rfl⟩,fun _ _ h=>h.elim,fun h=>nomatch h⟩,F,startD N.length ds,_,RS.start _ sm r,body ds Qd q,?_⟩
    have same:∀ {F':Hp} {σd:Sd} {σ:St} {H':Hp},RS ⟨H,F,[],[]⟩ F' σd σ H' -> Same H H':=fun R b o e=>R.old b o e (by simp [Dyn.ioA])
    refine ⟨fun σ H' F' σd s' R' q'=>?_,fun v σ H' F' σd b s' R' r' q'=>?_,fun _ _ _ _ _ _ h=>h.elim,fun _ _ _ _ _ _ h=>h.elim⟩
    · exact K .non H' F' (.sh .non) s' R'.fr (same R') R'.fro .non q'
    · refine K v H' F' b s' R'.fr (same R') R'.fro ?_ q'
      cases b with
      | sh d=>exact r'
      | own xs =>
        obtain ⟨a,us,rfl,w1,w2,w3,w4,w5⟩:=r'
        exact ⟨a,us,rfl,w1,w2,w3,w4⟩
      | obj o =>
        obtain ⟨a,rfl,w1,w2⟩:=r'
        exact ⟨a,rfl,w1,fun b hb=>⟨(w2 b hb).1,(w2 b hb).2.1,(w2 b hb).2.2.1⟩⟩
end Vc

set_option Elab.async false
set_option linter.all false
set_option maxRecDepth 100000

namespace Vc
open PySem L2
variable [KF]
variable {G:GE} {k:Nat} {S:Stat}

noncomputable abbrev TGd:=D -> Sd -> (Sd -> Prop) -> Prop
noncomputable def lG (Y:Dyn) (g:TGd):TG:=fun v σ H Q=>∃ F σd d Qd,RS Y F σd σ H /\ Rep F v d /\ g d σd Qd /\ ∀ σ' H' F' σd',Same F F' -> RS Y F' σd' σ' H' -> Qd σd' -> Q σ' H'
structure EG (G:GE) (k:Nat) (S:Stat) (tg:Expr) (g:TGd) :Prop where
  run:∀ X Y,XOk X G k S Y -> PG X tg (lG Y g)
instance {G:GE} {k:Nat} {S:Stat} {tg:Expr} {g:TGd} :CoeFun (EG G k S tg g) fun _=>∀ X Y,XOk X G k S Y -> PG X tg (lG Y g):=⟨EG.run⟩
theorem pg_imp {X:Cx} {e:Expr} {t t':TG} (h:PG X e t) (i:∀ v σ H Q,t' v σ H Q -> t v σ H Q):PG X e t':=fun pins s σ H v u Q I r q=>h pins s σ H v u Q I r (i v σ H Q q)
noncomputable def gNm (i:Nat):TGd:=fun d σ Q=>Q (σ.set i (some (.sh d)))
theorem g_name (i:Nat) {x:Str} {pos:Pos} (hi:S.N[i]? = some x:=by rfl) (hx:S.sc.lookup x = some .local \/ (S.sc.lookup x = some .cell /\ S.blk = false):=by first | exact Or.inl rfl | exact Or.inr ⟨rfl,rfl⟩) (hn:i ∉ S.ios:=by first | decide | exact List.not_mem_nil):EG G k S (.Name x pos) (gNm i):=.mk fun X Y ok =>
  pg_imp (pg_name (i:=i) (by rw [ok.N];exact ok.nd) (by rw [ok.N];exact hi) (loc_of ok hx) (fn_of' ok hx)) fun v σ H Q q=>by
    obtain ⟨F,σd,d,Qd,R,r,q,K⟩:=q
    exact K _ H F _ (Same.refl _) (R.setSh r fun p hp z=>hn (z ▸ ok.ios p hp)) q
noncomputable abbrev TGsd:=List D -> Sd -> (Sd -> Prop) -> Prop
noncomputable def lGs (Y:Dyn) (g:TGsd):TGs:=fun vs σ H Q=>∃ F σd ds Qd,RS Y F σd σ H /\ RepL F vs ds /\ g ds σd Qd /\ ∀ σ' H' F' σd',Same F F' -> RS Y F' σd' σ' H' -> Qd σd' -> Q σ' H'
structure EGs (G:GE) (k:Nat) (S:Stat) (ts:List Expr) (g:TGsd) :Prop where
  run:∀ X Y,XOk X G k S Y -> PGs X ts (lGs Y g)
instance {G:GE} {k:Nat} {S:Stat} {ts:List Expr} {g:TGsd} :CoeFun (EGs G k S ts g) fun _=>∀ X Y,XOk X G k S Y -> PGs X ts (lGs Y g):=⟨EGs.run⟩
noncomputable def gN0:TGsd:=fun ds σ Q=>match ds with
  | []=>Q σ
  | _=>False
noncomputable def gC (g:TGd) (u:TGsd):TGsd:=fun ds σ Q=>match ds with
  | d :: r=>g d σ fun σ1=>u r σ1 Q
  | []=>False
theorem gs_nil:EGs G k S [] gN0:=.mk fun X Y ok pins s σ H vs us Q I r q=>pgs_nil pins s σ H vs us Q I r (by
  obtain ⟨F,σd,ds,Qd,R,rr,q,K⟩:=q
  cases rr with
  | nil=>exact ⟨rfl,K σ H F σd (Same.refl _) R q⟩
  | cons _ _=>exact q.elim)
theorem gs_cons {e:Expr} {es:List Expr} {g:TGd} {u:TGsd} (h1:EG G k S e g) (h2:EGs G k S es u) (hs:∀ env,(assignEach (e :: es) env).map (·.2) = assign e env :: (assignEach es env).map (·.2):=by intro _;rfl):EGs G k S (e :: es) (gC g u):=.mk fun X Y ok pins s σ H vs us Q I r q =>
  pgs_cons (h1 X Y ok) (h2 X Y ok) (hs _) pins s σ H vs us Q I r (by
    obtain ⟨F,σd,ds,Qd,R,rr,q,K⟩:=q
    cases rr with
    | nil=>exact q.elim
    | cons r1 rs =>
      refine ⟨_,_,rfl,F,σd,_,_,R,r1,q,fun σ1 H1 F1 σd1 s1 R1 q1=>?_⟩
      exact ⟨F1,σd1,_,_,R1,rs.mono s1,q1,fun σ2 H2 F2 σd2 s2 R2 q2=>K σ2 H2 F2 σd2 (s1.trans s2) R2 q2⟩)
noncomputable def gTu (n:Nat) (u:TGsd):TGd:=fun d σ Q=>match d with
  | .tup xs=>xs.length = n /\ u xs σ Q
  | _=>False
theorem g_tup {es:List Expr} {kk:Nat} {u:TGsd} {n:Nat} {pos:Pos} (h:EGs G k S es u) (hn:∀ env,(assignEach es env).length = n:=by intro _;rfl) (hst:∀ env,(assignEach es env).findIdx? (·.1) = none:=by intro _;rfl) (hh:S.hot = false:=by rfl):EG G k S (.Tuple es kk pos) (gTu n u):=.mk fun X Y ok =>
  pg_imp (pg_tup (ok.calm hh) (h X Y ok) (hn _) (hst _)) fun v σ H Q q=>by
    obtain ⟨F,σd,d,Qd,R,r,q,K⟩:=q
    cases d with
    | tup xs =>
      cases r with
      | tup hf rl =>
        exact ⟨_,_,rfl,.of (R.fr _ _ hf),by rw [rl.length];exact q.1,F,σd,xs,Qd,R,rl,q.2,K⟩
    | _=>exact q.elim

noncomputable def Grow (F1 H1 F2 H2:Hp):Prop:=(F2 = F1 /\ H2 = H1) \/ ∃ p o,H1 p = none /\ F2 = upd F1 p o /\ H2 = upd H1 p o
theorem Grow.same {F1 H1 F2 H2:Hp} (g:Grow F1 H1 F2 H2) (s:Same F1 H1):Same F1 F2:=by
  rcases g with ⟨rfl,rfl⟩ | ⟨p,o,h,rfl,rfl⟩
  · exact Same.refl _
  · exact same_alloc (same_none s h)
theorem Grow.rs {Y:Dyn} {F1 H1 F2 H2:Hp} {σd:Sd} {σ:St} (g:Grow F1 H1 F2 H2) (R:RS Y F1 σd σ H1):RS Y F2 σd σ H2:=by
  rcases g with ⟨rfl,rfl⟩ | ⟨p,o,h,rfl,rfl⟩
  · exact R
  · exact R.alloc h
noncomputable def ItRep (F:Hp) (J:It) (items:List D):Prop:=∀ F1 H1,Same F F1 -> Same F1 H1 -> ∀ i:Nat,
  (∀ x,items[i]? = some x -> J.go i H1 /\ ∀ v H2,J.yld i H1 v H2 -> ∃ F2,Grow F1 H1 F2 H2 /\ Rep F2 v x) /\ (i = items.length -> J.stop i H1)
theorem ItRep.mono {F F':Hp} {J:It} {items:List D} (h:ItRep F J items) (s:Same F F'):ItRep F' J items:=fun F1 H1 s1=>h F1 H1 (s.trans s1)
noncomputable def lI (Y:Dyn) (t:TDs):TI:=fun σ H R=>∃ F σd Qd,RS Y F σd σ H /\ t σd Qd /\ ∀ H' F' σd' J items,Same F F' -> RS Y F' σd' σ H' -> ItRep F' J items -> Qd items σd' -> R J H'
structure EI (G:GE) (k:Nat) (S:Stat) (tg iter:Expr) (t:TDs) :Prop where
  run:∀ X Y,XOk X G k S Y -> PI X tg iter (lI Y t)
instance {G:GE} {k:Nat} {S:Stat} {tg iter:Expr} {t:TDs} :CoeFun (EI G k S tg iter t) fun _=>∀ X Y,XOk X G k S Y -> PI X tg iter (lI Y t):=⟨EI.run⟩
theorem pi_imp {X:Cx} {tg e:Expr} {t t':TI} (h:PI X tg e t) (i:∀ σ H Q,t' σ H Q -> t σ H Q):PI X tg e t':=fun pins s σ H Q I q=>h pins s σ H Q I (i σ H Q q)
theorem pi_seq {X:Cx} {tg l:Expr} {tl:TE} (hl:PE X l tl):PI X tg l (fun σ H R=>tl σ H fun x H1=>(∃ a,x = .ref a /\ (∃ xs,SqL X.K H1 a xs) /\ R (Itl X.K a) H1) \/ (∃ a,x = .ref a /\ (∃ xs,SqT X.K H1 a xs) /\ R (Itt X.K a) H1)):=by
  intro pins s σ H R I h
  refine thn (hl pins s σ H _ I h) fun v s1 ⟨x,H1,I1,r1,q1⟩=>?_
  rcases q1 with ⟨a,e,⟨xs,hq⟩,q⟩ | ⟨a,e,⟨xs,hq⟩,q⟩
  · subst e
    cases r1
    obtain ⟨its,rv,p,hz⟩:=I1.list hq
    refine wpAny_pyIter_list p.isList ?_
    refine ⟨s1.heap.objs.size,[s1.heap.objs.size],_,_,H1,rfl,I1.kept (t':=s1.toks) fun b o e=>Heap.get?_push_of_some _ e,turn_list a _,⟨_,Heap.get?_push_size _ rfl,rfl,rfl⟩,fun b hb=>?_,q⟩
    have e:b = s1.heap.objs.size:=by simpa using hb
    subst e
    exact I1.fpOk (Nat.le_refl _) (I1.hok.fresh (Nat.le_refl _))
  · subst e
    cases r1
    obtain ⟨its,rv,p,hz⟩:=I1.tuple hq
    refine wpAny_pyIter_tuple (show s1.heap.IsTuple a its.toArray from p) ?_
    refine ⟨s1.heap.objs.size,[s1.heap.objs.size],_,_,H1,rfl,I1.kept (t':=s1.toks) fun b o e=>Heap.get?_push_of_some _ e,turn_tuple a _,⟨_,Heap.get?_push_size _ rfl,rfl,rfl⟩,fun b hb=>?_,q⟩
    have e:b = s1.heap.objs.size:=by simpa using hb
    subst e
    exact I1.fpOk (Nat.le_refl _) (I1.hok.fresh (Nat.le_refl _))
theorem itl_rep {K:PySem.W.Frag} {F:Hp} {a:Addr} {vs:List V} {xs:List D} (h:Rd F a (.lst vs)) (r:RepL F vs xs):ItRep F (Itl K a) xs:=fun F1 H1 s1 s2 i=>by
  have hs:SqL K H1 a vs:=.inl (Rd.mono (s1.trans s2) h)
  refine ⟨fun x e=>?_,fun hl=>⟨vs,hs,by rw [r.length,hl];exact Nat.le_refl _⟩⟩
  obtain ⟨v,e1,r1⟩:=r.get e
  refine ⟨⟨vs,v,hs,e1⟩,fun v2 H2 y=>?_⟩
  obtain ⟨rfl,y⟩:=y
  have:=y vs hs
  rw [e1] at this;cases this
  exact ⟨F1,.inl ⟨rfl,rfl⟩,r1.mono s1⟩
theorem itt_rep {K:PySem.W.Frag} {F:Hp} {a:Addr} {vs:List V} {xs:List D} (h:F a = some (.tup vs)) (r:RepL F vs xs):ItRep F (Itt K a) xs:=fun F1 H1 s1 s2 i=>by
  have hs:SqT K H1 a vs:=.of (s2 _ _ (s1 _ _ h))
  refine ⟨fun x e=>?_,fun hl=>⟨vs,hs,by rw [r.length,hl];exact Nat.le_refl _⟩⟩
  obtain ⟨v,e1,r1⟩:=r.get e
  refine ⟨⟨vs,v,hs,e1⟩,fun v2 H2 y=>?_⟩
  obtain ⟨rfl,y⟩:=y
  have:=y vs hs
  rw [e1] at this;cases this
  exact ⟨F1,.inl ⟨rfl,rfl⟩,r1.mono s1⟩
noncomputable def itemsD (t:TD):TDs:=fun σ Q=>t σ fun d σ1=>match d with
  | .lst xs=>Q xs σ1
  | .tup xs=>Q xs σ1
  | _=>False
theorem i_seq {tg l:Expr} {t:TD} (h:ED G k S l t):EI G k S tg l (itemsD t):=.mk fun X Y ok=>pi_imp (pi_seq (h X Y ok)) fun σ H Q q=>by
  obtain ⟨F,σd,Qd,R,q,K⟩:=q
  refine ⟨F,σd,_,R,q,fun v H1 F1 d σ1 s1 R1 r1 q1=>?_⟩
  cases d with
  | lst xs =>
    cases r1 with
    | lst hf rl=>exact .inl ⟨_,rfl,⟨_,.inl (Rd.mono R1.fr hf)⟩,K H1 F1 σ1 _ xs s1 R1 (itl_rep hf rl) q1⟩
  | tup xs =>
    cases r1 with
    | tup hf rl=>exact .inr ⟨_,rfl,⟨_,.of (R1.fr _ _ hf)⟩,K H1 F1 σ1 _ xs s1 R1 (itt_rep hf rl) q1⟩
  | _=>exact q1.elim
noncomputable def rngD (lo:Int) (n:Nat):List D:=(List.range n).map fun i=>.int (lo + (i:Nat))
theorem itr_rep {F:Hp} (lo:Int) (n:Nat):ItRep F (Itr lo n) (rngD lo n):=fun F1 H1 s1 s2 i=>by
  refine ⟨fun x e=>?_,fun hl=>?_⟩
  · unfold rngD at e
    rw [List.getElem?_map] at e
    have hi:i < n:=by
      by_cases hi:i < n
      · exact hi
      · rw [List.getElem?_eq_none_iff.mpr (by simpa using hi)] at e;cases e
    rw [List.getElem?_range hi] at e
    cases e
    refine ⟨hi,fun v H2 y=>?_⟩
    obtain ⟨rfl,rfl⟩:=y
    exact ⟨F1,.inl ⟨rfl,rfl⟩,.int _⟩
  · unfold rngD at hl
    rw [List.length_map,List.length_range] at hl
    exact Nat.le_of_eq hl.symm
noncomputable def rng1 (t:TVs):TDs:=fun σ Q=>t σ fun xs σ1=>match drfs σ1 xs with
  | some [.int j]=>(-(2 ^ 62) <= j /\ j < 2 ^ 62) /\ Q (rngD 0 j.toNat) σ1
  | _=>False
noncomputable def rng2 (t:TVs):TDs:=fun σ Q=>t σ fun xs σ1=>match drfs σ1 xs with
  | some [.int i,.int j]=>(-(2 ^ 62) <= i /\ i < 2 ^ 62 /\ -(2 ^ 62) <= j /\ j < 2 ^ 62) /\ Q (rngD i (j - i).toNat) σ1
  | _=>False
theorem i_rng1 {tg a:Expr} {t:TVs} {p pos:Pos} (h:EOs G k S [a] t) (hm:G.mg "range" = none) (hg:S.sc.lookup ("range":Str) = some .globalImplicit:=by rfl) (hs:∀ env,starEach [a] env = [(false,eval a env)]:=by intro _;rfl):EI G k S tg (.Call (.Name "range" p) [a] [] pos) (rng1 t):=.mk fun X Y ok =>
  pi_imp (pi_range1 (gl_of ok hg) (by rw [ok.mg];exact hm) (h X Y ok) (hs _)) fun σ H Q q=>by
    obtain ⟨F,σd,Qd,R,q,K⟩:=q
    refine ⟨F,σd,_,R,q,fun vs H1 F1 xs σ1 s1 R1 r1 q1=>?_⟩
    split at q1
    · rename_i j e
      obtain ⟨v,rfl,rv⟩:=(R1.drfs r1 e).one
      obtain rfl:=rv.int
      exact ⟨j,rfl,q1.1.1,q1.1.2,K H1 F1 σ1 _ _ s1 R1 (itr_rep 0 _) q1.2⟩
    · exact q1.elim
theorem i_rng2 {tg a b:Expr} {t:TVs} {p pos:Pos} (h:EOs G k S [a,b] t) (hm:G.mg "range" = none) (hg:S.sc.lookup ("range":Str) = some .globalImplicit:=by rfl) (hs:∀ env,starEach [a,b] env = [(false,eval a env),(false,eval b env)]:=by intro _;rfl) (hs2:∀ env,starEach [b] env = [(false,eval b env)]:=by intro _;rfl):EI G k S tg (.Call (.Name "range" p) [a,b] [] pos) (rng2 t):=.mk fun X Y ok =>
  pi_imp (pi_range2 (gl_of ok hg) (by rw [ok.mg];exact hm) (h X Y ok) (hs _) (hs2 _)) fun σ H Q q=>by
    obtain ⟨F,σd,Qd,R,q,K⟩:=q
    refine ⟨F,σd,_,R,q,fun vs H1 F1 xs σ1 s1 R1 r1 q1=>?_⟩
    split at q1
    · rename_i i j e
      obtain ⟨v,u,rfl,rv,ru⟩:=(R1.drfs r1 e).two
      obtain rfl:=rv.int;obtain rfl:=ru.int
      exact ⟨i,j,rfl,q1.1,K H1 F1 σ1 _ _ s1 R1 (itr_rep i _) q1.2⟩
    · exact q1.elim

noncomputable def forD (g:TGd) (tb:TSd) (De:EndsD):List D -> Sd -> Prop
  | [],σ=>De.nx σ
  | x :: xs,σ=>g x σ fun σ1=>tb { De with nx:=forD g tb De xs,ct:=forD g tb De xs,bk:=De.nx } σ1
noncomputable def tForD (ti:TDs) (g:TGd) (tb:TSd):TSd:=fun De σ=>ti σ fun items σ1=>forD g tb De items σ1
theorem s_for {tg iter:Expr} {body:List Stmt} {ti:TDs} {g:TGd} {tb:TSd} {pos:Pos} (hi:EI G k S tg iter ti) (hg:EG G k S tg g) (hb:ESs G k S body tb) (hs:∀ env x,foldedSetIterable iter env x = pure x:=by intro _ _;rfl) (hh:S.hot = false:=by rfl) :
    ES G k S (.For tg iter body [] pos) (tForD ti g tb):=.mk fun X Y ok=>ps_imp (ps_for (ok.po hh) (ok.calm hh) (hi X Y ok) (hg X Y ok) (hb X Y ok) (hs _)) fun Dn σ H q=>by
  obtain ⟨F,σd,De,R,q,K⟩:=q
  refine ⟨F,σd,_,R,q,fun H1 F1 σd1 J items s1 R1 it q1=>?_⟩
  refine ⟨fun i m σ' H'=>∃ F' σd',Same F1 F' /\ RS Y F' σd' σ' H' /\ forD g tb De (items.drop i) σd' /\ m = items.length - i /\ i <= items.length,⟨items.length,F1,σd1,Same.refl _,R1,q1,rfl,Nat.zero_le _⟩,?_⟩
  rintro i m σ' H' ⟨F',σd',s',R',q',rfl,hi⟩
  have itr:=it F' H' s' R'.fr i
  by_cases hl:i < items.length
  · right
    have hd:items.drop i = items[i] :: items.drop (i + 1):=by rw [List.drop_eq_getElem_cons hl]
    rw [hd] at q'
    obtain ⟨go,yl⟩:=itr.1 items[i] (by rw [List.getElem?_eq_getElem hl])
    refine ⟨go,fun σ2 H2=>∃ F2 σd2,Same F1 F2 /\ RS Y F2 σd2 σ2 H2 /\ forD g tb De (items.drop (i + 1)) σd2,fun σ2 H2 ⟨F2,σd2,s2,R2,q2⟩=>⟨items.length - (i + 1),by omega,F2,σd2,s2,R2,q2,rfl,hl⟩,fun v H2 y=>?_⟩
    obtain ⟨F2,gr,rep⟩:=yl v H2 y
    have s2:Same F1 F2:=s'.trans (gr.same R'.fr)
    refine ⟨F2,σd',items[i],_,gr.rs R',rep,q',fun σ3 H3 F3 σd3 s3 R3 q3=>⟨F3,σd3,_,R3,q3,?_⟩⟩
    refine ⟨fun σ4 H4 F4 σd4 s4 R4 q4=>⟨F4,σd4,(s2.trans s3).trans s4,R4,q4⟩,fun v4 σ4 H4 F4 σd4 b s4 R4 r4 q4=>K.rt v4 σ4 H4 F4 σd4 b (((s1.trans s2).trans s3).trans s4) R4 r4 q4,
      fun σ4 H4 F4 σd4 s4 R4 q4=>K.nx σ4 H4 F4 σd4 (((s1.trans s2).trans s3).trans s4) R4 q4,fun σ4 H4 F4 σd4 s4 R4 q4=>⟨F4,σd4,(s2.trans s3).trans s4,R4,q4⟩⟩
  · left
    have e:i = items.length:=by omega
    subst e
    rw [List.drop_length] at q'
    exact ⟨itr.2 rfl,K.nx σ' H' F' σd' (s1.trans s') R' q'⟩
end Vc

set_option Elab.async false
set_option linter.all false
set_option maxRecDepth 100000

namespace Vc
open PySem L2
variable [KF]

theorem codeAny_comp {prog:Program} {w:World} {A:Around} {R:Result -> Shared -> Prop} {s:Shared} {elt target iter:Expr} {ifs:List Expr} {scope:Scope} {pos:Pos} {it acc:Value} {env:Env} (I:Nat -> Shared -> Prop)
    (turn:∀ n s,I n s -> wpAny (model prog w) A (pyNext it) (fun r s₁=>match r with
      | none=>R (.ok .next) s₁
      | some v=>wpAny (model prog w) A (letOwnedTupleGo target it v) (fun _ s₁'=>wpAny (model prog w) A (assign target env v) (fun _ s₂ =>
          wpAny (model prog w) A (forIn ifs true fun c r=>if r = true then do let ok <- isTrue c env (eval c env);pure (ForInStep.yield ok) else pure (ForInStep.yield r)) (fun ok s₃ =>
            if ok = true then wpAny (model prog w) A (eval elt env) (fun x s₄ =>
              wpAny (model prog w) A (call (.builtin "list.append") [acc,x]) (fun _ s₅=>∃ m,m < n /\ I m s₅) (fun _ _=>False) s₄) (fun _ _=>False) s₃
            else ∃ m,m < n /\ I m s₃) (fun _ _=>False) s₂) (fun _ _=>False) s₁') (fun _ _=>False) s₁) (fun _ _=>False) s)
    (n:Nat) (h:I n s):codeAny (model prog w) A (.compLoop (.ListComp elt [⟨target,iter,ifs,0⟩] scope pos) 0 it acc env) R s:=by
  refine codeAny_loop rfl I (fun n s hI=>?_) n h
  show wpAny _ A ((compTurn (.ListComp elt [⟨target,iter,ifs,0⟩] scope pos) 0 it acc env).onRaise (fun x=>do noteFrame x env;theTreesLotGoes x)) _ _ s
  refine wpAny_noted ?_
  rw [compTurn_list]
  refine wpAny_bind (wpAny_standAt (wpAny_bind (wpAny_mono (turn n s hI) (fun r s₁ h₁=>?_) fun _ _ h'=>h'.elim)))
  cases r with
  | none=>exact wpAny_pure h₁
  | some v =>
    refine wpAny_bind (wpAny_mono h₁ (fun _ s₁' h₁'=>?_) fun _ _ h'=>h'.elim)
    refine wpAny_bind (wpAny_mono h₁' (fun _ s₂ h₂=>wpAny_bind (wpAny_mono h₂ (fun ok s₃ h₃=>?_) fun _ _ h'=>h'.elim)) fun _ _ h'=>h'.elim)
    cases ok with
    | false=>exact wpAny_pure ⟨rfl,h₃⟩
    | true =>
      exact wpAny_bind (wpAny_bind (wpAny_mono h₃ (fun x s₄ h₄=>wpAny_bind (wpAny_mono h₄ (fun _ s₅ h₅=>wpAny_pure (wpAny_pure ⟨rfl,h₅⟩)) fun _ _ h'=>h'.elim)) fun _ _ h'=>h'.elim))

noncomputable def clOf (env:Env):List (Str × NameKind) -> List (Str × Addr) -> List (Str × Addr)
  | [],cs=>cs
  | (n,k) :: r,cs=>if k == .free then clOf env r ((n,(env.cells.lookup n).getD 0) :: cs) else clOf env r cs
theorem closure_of {env:Env} {scope:Scope} (h:∀ x ∈ scope.names,x.2 = .free -> ∃ c,env.cells.lookup x.1 = some c):closureFor scope env = pure (clOf env scope.names []):=by
  have all:∀ (l:List (Str × NameKind)) (cs:List (Str × Addr)),(∀ x ∈ l,x.2 = .free -> ∃ c,env.cells.lookup x.1 = some c) ->
      (forIn l cs fun x cs=>if (x.2 == NameKind.free) = true then (do let a <- cellOf env x.1;pure (ForInStep.yield ((x.1,a) :: cs))) else pure (ForInStep.yield cs):Sem (List (Str × Addr))) = pure (clOf env l cs):=by
    intro l
    induction l with
    | nil=>intro cs _;rfl
    | cons x l ih =>
      intro cs hl
      obtain ⟨n,k⟩:=x
      rw [List.forIn_cons]
      unfold clOf
      by_cases hk:k = .free
      · subst hk
        obtain ⟨c,e⟩:=hl (n,.free) List.mem_cons_self rfl
        have e':env.cells.lookup n = some c:=e
        simp only [beq_self_eq_true,if_true,cellOf,e',Option.getD_some,pure_bind]
        exact ih _ fun y hy=>hl y (List.mem_cons_of_mem _ hy)
      · have hb:(k == NameKind.free) = false:=by simpa using hk
        simp only [hb,Bool.false_eq_true,if_false,pure_bind]
        exact ih _ fun y hy=>hl y (List.mem_cons_of_mem _ hy)
  have h1:=all scope.names [] h
  have h2:closureFor scope env = ((forIn scope.names ([]:List (Str × Addr)) fun x cs=>if (x.2 == NameKind.free) = true then (do let a <- cellOf env x.1;pure (ForInStep.yield ((x.1,a) :: cs))) else pure (ForInStep.yield cs):Sem (List (Str × Addr))) >>= fun cs=>pure cs):=rfl
  rw [h2,h1,pure_bind]
theorem clOf_lookup {env:Env}:∀ (l:List (Str × NameKind)) (cs:List (Str × Addr)) (x:Str) (c:Addr),(∀ y ∈ l,y.2 = .free -> ∃ c,env.cells.lookup y.1 = some c) -> (clOf env l cs).lookup x = some c -> env.cells.lookup x = some c \/ cs.lookup x = some c
  | [],cs,x,c,_,h=>.inr h
  | (n,k) :: r,cs,x,c,hl,h=>by
    unfold clOf at h
    by_cases hk:k = .free
    · subst hk
      simp only [beq_self_eq_true,if_true] at h
      obtain ⟨c',e⟩:=hl (n,.free) List.mem_cons_self rfl
      have e':env.cells.lookup n = some c':=e
      rcases clOf_lookup r _ x c (fun y hy=>hl y (List.mem_cons_of_mem _ hy)) h with q | q
      · exact .inl q
      · rw [List.lookup_cons] at q
        cases hx:x == n with
        | true =>
          rw [hx] at q
          have:=eq_of_beq hx
          subst this
          rw [e',Option.getD_some] at q
          exact .inl (e'.trans q)
        | false=>rw [hx] at q;exact .inr q
    · have hb:(k == NameKind.free) = false:=by simpa using hk
      simp only [hb,Bool.false_eq_true,if_false] at h
      exact clOf_lookup r cs x c (fun y hy=>hl y (List.mem_cons_of_mem _ hy)) h
theorem clOf_keep {env:Env}:∀ (l:List (Str × NameKind)) (cs:List (Str × Addr)) (x:Str),(cs.lookup x).isSome = true -> ((clOf env l cs).lookup x).isSome = true
  | [],cs,x,h=>h
  | (n,k) :: r,cs,x,h=>by
    unfold clOf
    by_cases hk:k = .free
    · subst hk
      simp only [beq_self_eq_true,if_true]
      refine clOf_keep r _ x ?_
      rw [List.lookup_cons]
      cases hx:x == n with
      | true=>rfl
      | false=>exact h
    · have hb:(k == NameKind.free) = false:=by simpa using hk
      simp only [hb,Bool.false_eq_true,if_false]
      exact clOf_keep r cs x h
theorem clOf_has {env:Env}:∀ (l:List (Str × NameKind)) (cs:List (Str × Addr)) (x:Str),(x,NameKind.free) ∈ l -> ((clOf env l cs).lookup x).isSome = true
  | (n,k) :: r,cs,x,h=>by
    unfold clOf
    rcases List.mem_cons.mp h with e | e
    · cases e
      simp only [beq_self_eq_true,if_true]
      refine clOf_keep r _ _ ?_
      rw [List.lookup_cons,beq_self_eq_true];rfl
    · split
      · exact clOf_has r _ x e
      · exact clOf_has r cs x e
structure CompX (X X':Cx) (scope:Scope) (N':List Str):Prop where
  P:X'.prog = X.prog
  w:X'.w = X.w
  K:X'.K = X.K
  mg:X'.mg = X.mg
  base:X'.base = X.base
  A:X'.A = X.A
  N:X'.N = N'
  sc:X'.env.scope = relabel scope X.env
  calm:X'.calm = true
  xe:X'.xe = fun _ _=>False
noncomputable def PTs (X:Cx) (ifs:List Expr) (t:TT):Prop:=∀ (pins:List (Addr × Obj)) (s:Shared) (σ:St) (H:Hp) (Q:Bool -> Hp -> Prop),L2.Inv X pins σ H s -> t σ H Q ->
  wpAny (model X.prog X.w) X.A (forIn ifs true fun c r=>if r = true then do let ok <- isTrue c X.env (eval c X.env);pure (ForInStep.yield ok) else pure (ForInStep.yield r)) (TP X pins σ Q) X.xe s
theorem pts_nil {X:Cx}:PTs X [] (fun _ H Q=>Q true H):=fun pins s σ H Q I h=>wpAny_tests_nil ⟨H,I,h⟩
theorem pts_one {X:Cx} {c:Expr} {t:TT} (h:PT X c t):PTs X [c] t:=fun pins s σ H Q I q=>wpAny_tests_one (h pins s σ H Q I q)
noncomputable def capSt (caps:List (Option Nat)) (σ:St):St:=caps.map fun c=>match c with
  | some j=>(σ[j]?).join
  | none=>none
noncomputable def tCompL (wi:TI) (caps:List (Option Nat)) (g:TG) (tc:TT) (te:TE):TE:=fun σ H Q=>wi σ H fun J H1=>∀ acc,H1 acc = none -> ∃ W:Nat -> Nat -> St -> Hp -> Prop,(∃ m,W 0 m (capSt caps σ) (upd H1 acc (.lst []))) /\ ∀ i m σ1 H,W i m σ1 H ->
  (J.stop i H /\ Q (.ref acc) H) \/ (J.go i H /\ ∀ x H',J.yld i H x H' -> g x σ1 H' fun σ2 H2=>tc σ2 H2 fun b H3=>if b = true then te σ2 H3 fun v H4=>∃ ys m',H4 acc = some (.lst ys) /\ ys.length < sizeLine /\ m' < m /\ W (i + 1) m' σ2 (upd H4 acc (.lst (ys ++ [v]))) else ∃ m',m' < m /\ W (i + 1) m' σ2 H3)

theorem relabel_back {env:Env}:∀ {names:List (Str × NameKind)} {x:Str} {k:NameKind},(names.map fun (n,k)=>if (k == NameKind.free && env.scope.kind == .function && env.kindOf n == some .cell) then (n,NameKind.cell) else (n,k)).lookup x = some k ->
    names.lookup x = some k \/ (k = .cell /\ names.lookup x = some .free)
  | [],_,_,h=>by simp at h
  | (n,k') :: r,x,k,h=>by
    have ih:=@relabel_back env r x k
    have h:List.lookup x ((if (k' == NameKind.free && env.scope.kind == .function && env.kindOf n == some .cell) = true then (n,NameKind.cell) else (n,k')) :: _) = some k:=h
    cases hx:x == n with
    | true =>
      by_cases hc:(k' == NameKind.free && env.scope.kind == .function && env.kindOf n == some .cell) = true
      · rw [if_pos hc] at h
        simp only [List.lookup_cons,hx] at h ⊢
        cases h
        simp only [Bool.and_eq_true,beq_iff_eq] at hc
        exact .inr ⟨rfl,by rw [hc.1.1]⟩
      · rw [if_neg hc] at h
        simp only [List.lookup_cons,hx] at h ⊢
        exact .inl h
    | false =>
      by_cases hc:(k' == NameKind.free && env.scope.kind == .function && env.kindOf n == some .cell) = true
      · rw [if_pos hc] at h
        simp only [List.lookup_cons,hx] at h ⊢
        exact ih h
      · rw [if_neg hc] at h
        simp only [List.lookup_cons,hx] at h ⊢
        exact ih h
theorem relabel_free {env:Env}:∀ {names:List (Str × NameKind)} {x:Str},names.lookup x = some .free ->
    (names.map fun (n,k)=>if (k == NameKind.free && env.scope.kind == .function && env.kindOf n == some .cell) then (n,NameKind.cell) else (n,k)).lookup x = some .cell \/
    (names.map fun (n,k)=>if (k == NameKind.free && env.scope.kind == .function && env.kindOf n == some .cell) then (n,NameKind.cell) else (n,k)).lookup x = some .free
  | [],_,h=>by simp at h
  | (n,k') :: r,x,h=>by
    have ih:=@relabel_free env r x
    show List.lookup x ((if (k' == NameKind.free && env.scope.kind == .function && env.kindOf n == some .cell) = true then (n,NameKind.cell) else (n,k')) :: _) = some .cell \/ List.lookup x ((if (k' == NameKind.free && env.scope.kind == .function && env.kindOf n == some .cell) = true then (n,NameKind.cell) else (n,k')) :: _) = some .free
    cases hx:x == n with
    | true =>
      simp only [List.lookup_cons,hx] at h
      by_cases hc:(k' == NameKind.free && env.scope.kind == .function && env.kindOf n == some .cell) = true
      · rw [if_pos hc];left;simp only [List.lookup_cons,hx]
      · rw [if_neg hc];right;simp only [List.lookup_cons,hx];exact h
    | false =>
      simp only [List.lookup_cons,hx] at h
      by_cases hc:(k' == NameKind.free && env.scope.kind == .function && env.kindOf n == some .cell) = true
      · rw [if_pos hc];simp only [List.lookup_cons,hx];exact ih h
      · rw [if_neg hc];simp only [List.lookup_cons,hx];exact ih h
structure CompSc (X:Cx) (scope:Scope) (N':List Str) (caps:List (Option Nat)):Prop where
  kind:scope.kind = .function
  nocell:∀ y ∈ scope.names,y.2 ≠ .cell
  names:∀ y ∈ scope.names,y.2 = .local -> scope.names.lookup y.1 = some .local
  free:∀ y ∈ scope.names,y.2 = .free -> X.env.kindOf y.1 = some .cell \/ X.env.kindOf y.1 = some .free
  len:caps.length = N'.length
  cap:∀ (i:Nat) (j:Nat),caps[i]? = some (some j) -> ∃ x,N'[i]? = some x /\ X.N[j]? = some x /\ scope.names.lookup x = some .free
section
variable {X:Cx} {pins:List (Addr × Obj)} {σ:St} {H:Hp} {s:Shared} {elt target iter:Expr} {ifs:List Expr} {scope:Scope} {pos:Pos} {N':List Str} {caps:List (Option Nat)}
theorem CompSc.cells (SC:CompSc X scope N' caps) (ok:X.Ok):∀ x ∈ scope.names,x.2 = .free -> ∃ c,X.env.cells.lookup x.1 = some c:=fun x hx hf=>ok.has x.1 (SC.free x hx hf)
noncomputable def cxB (X:Cx) (scope:Scope) (N':List Str) (s₀:Shared) (H₀:Hp) (C:Addr) (fp:List Addr):Cx :=
  { X with N:=N',s₀:=s₀,H₀:=H₀,env:=compEnvC scope (clOf X.env scope.names []) C X.env,outer:=X.stack,ex:=fp,fn:=fun _=>false,calm:=true,pn:=[],xe:=fun _ _=>False }
theorem cxB_ok (I:L2.Inv X pins σ H s) (SC:CompSc X scope N' caps) (hc:X.calm = true) {fp:List Addr} (hf:∀ b ∈ fp,FpOk X pins H b) (hlt:∀ b ∈ fp,b < s.heap.objs.size):(cxB X scope N' s H s.heap.objs.size fp).Ok where
  mod:=I.ok.mod
  kind:=SC.kind
  glob:=I.ok.glob
  blt:=I.ok.blt
  above:=Nat.le_refl _
  inj:=fun x y c h1 h2=>by
    have f:∀ z,(clOf X.env scope.names []).lookup z = some c -> X.env.cells.lookup z = some c:=fun z h=>by
      rcases clOf_lookup scope.names [] z c (SC.cells I.ok) h with q | q
      · exact q
      · cases q
    exact I.ok.inj x y c (f x h1) (f y h2)
  has:=fun x hx=>by
    have hx:(relabel scope X.env).names.lookup x = some .cell \/ (relabel scope X.env).names.lookup x = some .free:=hx
    have hfree:scope.names.lookup x = some .free:=by
      rcases hx with hx | hx
      · rcases relabel_back hx with q | ⟨_,q⟩
        · exact absurd rfl (SC.nocell _ (PySem.mem_of_lookup q))
        · exact q
      · rcases relabel_back hx with q | ⟨q,_⟩
        · exact q
        · cases q
    exact Option.isSome_iff_exists.mp (clOf_has scope.names [] x (PySem.mem_of_lookup hfree))
  cab:=fun x c h=>by cases h
  hd:=fun _=>I.ok.hd hc
  frames:=I.ok.frames
  stk:=.inl rfl
  exf:=fun b hb=>⟨Nat.ne_of_lt (hlt b hb),fun x c h=>by
    rcases clOf_lookup scope.names [] x c (SC.cells I.ok) h with q | q
    · exact (hf b hb).2.2.2.2.1 x c q
    · cases q⟩
  bs:=I.bs
  bsz:=Nat.le_trans I.ok.bsz I.sz
  noex:=fun b o e hb=>by
    rcases (hf b hb).2.2.2.1 with q | q
    · exact I.ok.noex b o e q
    · exact absurd (Nat.lt_of_lt_of_le (Heap.lt_size e) (Nat.le_trans I.ok.bsz q)) (Nat.lt_irrefl _)
  exfs:=fun b hb z=>by
    rcases List.mem_cons.mp (I.stkSub b z) with q | q
    · exact (hf b hb).2.1 q
    · exact (hf b hb).2.2.1 q
  funs:=I.stack
  frf:=I.stkFree
theorem cxB_inv (I:L2.Inv X pins σ H s) (SC:CompSc X scope N' caps) (hc:X.calm = true) {fp:List Addr} (hf:∀ b ∈ fp,FpOk X pins H b) (hlt:∀ b ∈ fp,b < s.heap.objs.size) {h1:Heap} {t1:Nat} (hn:h1.Ns s.heap.objs.size (fun _=>none)) (hk:∀ b o,s.heap.get? b = some o -> h1.get? b = some o) :
    L2.Inv (cxB X scope N' s H s.heap.objs.size fp) [] (capSt caps σ) H { s with heap:=h1,toks:=t1 } where
  ok:=cxB_ok I SC hc hf hlt
  os:=rfl
  bare:=I.bare
  base:=Un.kept hk
  loc:=by
    refine ⟨_,hn,fun i x v e1 e2 _=>?_⟩
    have e2:(caps.map fun c=>match c with | some j=>(σ[j]?).join | none=>none)[i]? = some (some v):=e2
    rw [List.getElem?_map] at e2
    cases ec:caps[i]? with
    | none=>rw [ec] at e2;cases e2
    | some c =>
      rw [ec] at e2
      cases c with
      | none=>cases e2
      | some j =>
        have e2:(σ[j]?).join = some v:=Option.some.inj e2
        have e3:σ[j]? = some (some v):=by
          cases q:σ[j]? with
          | none=>rw [q] at e2;cases e2
          | some w =>
            rw [q] at e2
            cases w with
            | none=>cases e2
            | some z=>cases e2;rfl
        obtain ⟨y,w1,w2,w3⟩:=SC.cap i j ec
        have e1:N'[i]? = some x:=e1
        rw [w1] at e1;cases e1
        have hk':=SC.free (x,.free) (PySem.mem_of_lookup w3) rfl
        obtain ⟨m,hm,hl⟩:=I.loc
        obtain ⟨u,r,l⟩:=hl j x v w2 e3 (.inr hk')
        refine ⟨u,r,?_⟩
        rcases l with ⟨k1,_⟩ | ⟨_,c,hc',hcell⟩
        · have hk':X.env.kindOf x = some .cell \/ X.env.kindOf x = some .free:=hk'
          rw [k1] at hk'
          rcases hk' with z | z<;>cases z
        · right
          refine ⟨relabel_free w3,c,?_,?_⟩
          · obtain ⟨c',e'⟩:=Option.isSome_iff_exists.mp (clOf_has (env:=X.env) scope.names [] x (PySem.mem_of_lookup w3))
            rcases clOf_lookup scope.names [] x c' (SC.cells I.ok) e' with q | q
            · rw [hc'] at q;cases q
              exact e'
            · cases q
          · obtain ⟨o,ho,hd⟩:=hcell
            exact ⟨o,hk _ _ ho,hd⟩
  cell:=fun x c h=>by
    rcases clOf_lookup scope.names [] x c (SC.cells I.ok) h with q | q
    · obtain ⟨v,o,ho,hd⟩:=I.cell x c q
      exact ⟨v,o,hk _ _ ho,hd⟩
    · cases q
  free:=I.hok.fresh (Nat.le_refl _)
  freeC:=fun x c h=>by
    rcases clOf_lookup scope.names [] x c (SC.cells I.ok) h with q | q
    · exact I.freeC x c q
    · cases q
  pin:=fun p hp=>absurd (show p ∈ ([]:List (Addr × Obj)) from hp) (by simp)
  hok:=I.hok.kept hk
  len:=by
    show (caps.map _).length = N'.length
    rw [List.length_map];exact SC.len
theorem comp_run (I:L2.Inv X pins σ H s) (SC:CompSc X scope N' caps) (hc:X.calm = true) {it:Addr} {fp:List Addr} {tn:Nat -> Heap -> Prop} {J:It} (T:Turn X.prog X.w X.K target J fp it tn) (t0:tn 0 s.heap) (hf:∀ b ∈ fp,FpOk X pins H b)
    {g:TG} {tc:TT} {te:TE} (hin:∀ X',CompX X X' scope N' -> PG X' target g /\ PTs X' ifs tc /\ PE X' elt te) {Q:VK}
    (q:∀ acc,H acc = none -> ∃ W:Nat -> Nat -> St -> Hp -> Prop,(∃ m,W 0 m (capSt caps σ) (upd H acc (.lst []))) /\ ∀ i m σ1 H,W i m σ1 H ->
      (J.stop i H /\ Q (.ref acc) H) \/ (J.go i H /\ ∀ x H',J.yld i H x H' -> g x σ1 H' fun σ2 H2=>tc σ2 H2 fun b H3=>if b = true then te σ2 H3 fun v H4=>∃ ys m',H4 acc = some (.lst ys) /\ ys.length < sizeLine /\ m' < m /\ W (i + 1) m' σ2 (upd H4 acc (.lst (ys ++ [v]))) else ∃ m',m' < m /\ W (i + 1) m' σ2 H3))
    {E:Value -> Shared -> Prop} {RR:Value -> Addr -> Result -> Shared -> Prop}
    (hRR:∀ acc C H' s',L2.Inv X pins σ H' s' -> FpOk X pins H' C -> (∃ m,s'.heap.Ns C m) -> Q (.ref acc) H' -> RR (.ref acc) C (.ok .next) s') :
    wpAny (model X.prog X.w) X.A (newList []) (fun acc s₃=>wpAny (model X.prog X.w) X.A (newFunctionEnv scope X.env.globals (clOf X.env scope.names []) [] X.env.qual none .none (some X.env)) (fun cenv s₄ =>
      codeAny (model X.prog X.w) X.A (.compStart (.ListComp elt [⟨target,iter,ifs,0⟩] scope pos) 0 (.ref it) acc { cenv with scope:=relabel scope X.env }) (RR acc cenv.locals) s₄) E s₃) E s:=by
  refine wpAny_newObj_type ?_
  have hacc:H s.heap.objs.size = none:=I.hok.fresh (Nat.le_refl _)
  have I3:L2.Inv X pins σ (upd H s.heap.objs.size (.lst [])) { s with heap:=s.heap.push { cls:=.type "list",dict:=none,data:=.seq ([]:List Value).toArray } }:=I.lnew (t':=s.toks) (its:=[]) (ys:=[]) .nil (Nat.zero_le _)
  obtain ⟨W,⟨m0,w0⟩,step⟩:=q _ hacc
  generalize hs3:({ s with heap:=s.heap.push { cls:=.type "list",dict:=none,data:=.seq ([]:List Value).toArray } }:Shared) = s3 at I3 ⊢
  generalize hH3:upd H s.heap.objs.size (.lst []) = H3 at I3 w0
  generalize hacc':s.heap.objs.size = acc at *
  have up3:∀ b o,s.heap.get? b = some o -> s3.heap.get? b = some o:=fun b o e=>by rw [<- hs3];exact Heap.get?_push_of_some _ e
  have fplt:∀ b ∈ fp,b < s3.heap.objs.size:=fun b hb=>by
    obtain ⟨o,e,_⟩:=T.obj 0 _ t0 b hb
    exact Heap.lt_size (up3 b o e)
  have hf3:∀ b ∈ fp,FpOk X pins H3 b:=fun b hb=>by
    obtain ⟨f0,f⟩:=hf b hb
    refine ⟨?_,f⟩
    obtain ⟨o,e,_⟩:=T.obj 0 _ t0 b hb
    have:b ≠ acc:=by rw [<- hacc'];exact Nat.ne_of_lt (Heap.lt_size e)
    rw [<- hH3,upd_ne this];exact f0
  have t3:tn 0 s3.heap:=T.keep 0 _ _ t0 fun b _ o e=>up3 b o e
  refine wpAny_newFunctionEnv SC.nocell (by intro y hy;simp at hy) (fun h1 hn1 sb1=>?_) SC.kind
  have hk1:∀ b o,s3.heap.get? b = some o -> h1.get? b = some o:=fun b o e=>sb1.extBut b o (Nat.ne_of_lt (Heap.lt_size e)) (Heap.get?_push_of_some _ e)
  have cx:CompX X (cxB X scope N' s3 H3 s3.heap.objs.size fp) scope N':=⟨rfl,rfl,rfl,rfl,rfl,rfl,rfl,rfl,rfl,rfl⟩
  obtain ⟨hg,ht,he⟩:=hin _ cx
  have hn1':h1.Ns s3.heap.objs.size (fun _=>none):=by simpa using hn1
  have fpB:∀ {H':Hp},(∀ b ∈ fp,H' b = none) -> ∀ b ∈ fp,FpOk (cxB X scope N' s3 H3 s3.heap.objs.size fp) [] H' b:=fun {H'} hn b hb=>by
    obtain ⟨f0,f1,f2,f3,f4,f5⟩:=hf3 b hb
    refine ⟨hn b hb,Nat.ne_of_lt (fplt b hb),?_,.inl hb,fun x c h=>?_,fun p hp=>absurd (show p ∈ ([]:List (Addr × Obj)) from hp) (by simp)⟩
    · intro z
      rcases List.mem_cons.mp (I3.stkSub b z) with q | q
      · exact f1 q
      · exact f2 q
    · rcases clOf_lookup scope.names [] x c (SC.cells I.ok) h with q | q
      · exact f4 x c q
      · cases q
  have loop:∀ s4:Shared,L2.Inv (cxB X scope N' s3 H3 s3.heap.objs.size fp) [] (capSt caps σ) H3 s4 -> tn 0 s4.heap -> codeAny (model X.prog X.w) X.A (.compLoop (.ListComp elt [⟨target,iter,ifs,0⟩] scope pos) 0 (.ref it) (.ref acc) (compEnvC scope (clOf X.env scope.names []) s3.heap.objs.size X.env)) (RR (.ref acc) s3.heap.objs.size) s4:=by
    intro s4 I4 t4
    refine codeAny_comp (fun n s'=>∃ i σ1 H',L2.Inv (cxB X scope N' s3 H3 s3.heap.objs.size fp) [] σ1 H' s' /\ tn i s'.heap /\ (∀ b ∈ fp,H' b = none) /\ W i n σ1 H') ?_ m0 ⟨0,_,H3,I4,t4,fun b hb=>(hf3 b hb).1,w0⟩
    rintro n s5 ⟨i,σ1,H5,I5,st5,fr5,w5⟩
    rcases step i n σ1 H5 w5 with ⟨stop,qn⟩ | ⟨go,body⟩
    · refine thn (T.done (cxB X scope N' s3 H3 s3.heap.objs.size fp) rfl rfl rfl rfl i [] s5 σ1 H5 _ I5 (fpB fr5) st5 stop) fun r s6 ⟨hr,I6⟩=>?_
      subst hr
      have u:=I6.base
      refine hRR acc _ H5 s6 (I3.call' (ch:=fp) I6.os u I6.hok I6.bare fun b hb=>?_) (I3.fpOk (Nat.le_refl _) I6.free) ?_ qn
      · obtain ⟨f0,f1,f2,f3,f4,f5⟩:=hf3 b hb
        exact ⟨f3.imp id fun z=>Heap.get?_none_of_le z,f1,f4,f5⟩
      · obtain ⟨m,hm,_⟩:=I6.loc
        exact ⟨m,hm⟩
    · refine thn (T.item (cxB X scope N' s3 H3 s3.heap.objs.size fp) rfl rfl rfl rfl i [] s5 σ1 H5 _ I5 (fpB fr5) st5 go) fun r s6 ⟨u,hr,h6⟩=>?_
      subst hr
      refine thn h6 fun _ s7 ⟨x,H7,I7,r7,y7,st7,fr7⟩=>?_
      have I7':=I7.pinned (fpB fr7) (T.obj _ _ st7)
      have back:∀ {σ8:St} {H8:Hp} {s8:Shared},L2.Inv (cxB X scope N' s3 H3 s3.heap.objs.size fp) ([] ++ pinsAt fp s7.heap) σ8 H8 s8 -> L2.Inv (cxB X scope N' s3 H3 s3.heap.objs.size fp) [] σ8 H8 s8 /\ tn (i + 1) s8.heap /\ ∀ b ∈ fp,H8 b = none:=fun {σ8 H8 s8} I8=>by
        refine ⟨I8.unpinned,T.keep _ _ _ st7 fun b hb o e=>(I8.pin (b,o) (List.mem_append_right _ (List.mem_append_right _ (mem_pinsAt hb e)))).1,fun b hb=>?_⟩
        obtain ⟨o,e,d⟩:=T.obj _ _ st7 b hb
        exact (I8.pin (b,o) (List.mem_append_right _ (List.mem_append_right _ (mem_pinsAt hb e)))).2.1
      refine thn (hg _ s7 σ1 H7 x u _ I7' r7 (body x H7 y7)) fun _ s8 ⟨σ8,H8,I8,q8⟩=>?_
      refine thn (ht _ s8 σ8 H8 _ I8 q8) fun b s9 ⟨H9,I9,q9⟩=>?_
      cases b with
      | false =>
        obtain ⟨m',hm,w9⟩:=q9
        obtain ⟨J1,J2,J3⟩:=back I9
        exact ⟨m',hm,i + 1,σ8,H9,J1,J2,J3,w9⟩
      | true =>
        refine thn (he _ s9 σ8 H9 _ I9 q9) fun y s10 ⟨v,H10,I10,r10,ys,m',e10,hz,hm,w10⟩=>?_
        refine thn (mt_append _ s10 σ8 H10 (.ref acc) [v] (.ref acc) [y] (fun z H11=>z = .non /\ W (i + 1) m' σ8 H11) I10 rfl (.cons r10 .nil) ⟨acc,ys,v,rfl,rfl,e10,hz,rfl,w10⟩) fun _ s11 ⟨_,H11,I11,_,_,w11⟩=>?_
        obtain ⟨J1,J2,J3⟩:=back I11
        exact ⟨m',hm,i + 1,σ8,H11,J1,J2,J3,w11⟩
  have I4:=cxB_inv (caps:=caps) (N':=N') I3 SC hc hf3 fplt (t1:=s3.toks + ([]:List (Str × Value)).length) hn1' hk1
  have t4:tn 0 h1:=T.keep 0 _ _ t3 fun b _ o e=>hk1 b o e
  exact codeAny_compStart_list (loop _ I4 t4) (T.self X.A 0 _ _ _ t4 (loop _ I4 t4))
end
end Vc

set_option Elab.async false
set_option linter.all false
set_option maxRecDepth 100000

namespace Vc
open PySem L2
variable [KF]
section
variable {X:Cx} {elt target iter:Expr} {ifs:List Expr} {scope:Scope} {pos:Pos} {N':List Str} {caps:List (Option Nat)} {wi:TI} {g:TG} {tc:TT} {te:TE}
theorem fp_turn {pins:List (Addr × Obj)} {σ:St} {H:Hp} {s:Shared} {C:Addr} {h':Heap} (f:FpOk X pins H C) (I:L2.Inv X pins σ H s) (hs:Heap.SameBut C s.heap h'):L2.Inv X pins σ H { s with heap:=h' }:=by
  obtain ⟨f0,f1,f2,f3,f4,f5⟩:=f
  exact I.turned (t':=s.toks) (fun b o hb e=>hs.extBut b o hb e) f0 f1 f3 f4 f5
theorem pe_comp (hc:X.calm = true) (hi:PI X target iter wi) (SC:CompSc X scope N' caps) (hin:∀ X',CompX X X' scope N' -> PG X' target g /\ PTs X' ifs tc /\ PE X' elt te) (hs:∀ x,foldedSetIterable iter X.env x = pure x) :
    PE X (.ListComp elt [⟨target,iter,ifs,0⟩] scope pos) (tCompL wi caps g tc te):=by
  intro pins s σ H Q I h
  rw [eval_ListComp]
  refine wpAny_comprehension_free (use:=none) rfl hs (closure_of (SC.cells I.ok)) SC.kind SC.names (thn (hi pins s σ H _ I h) fun v s1 h1=>thn h1 fun itv s2 h2=>?_)
  obtain ⟨it,fp,tn,J,H2,rfl,I2,T,t0,f2,q2⟩:=h2
  exact comp_run I2 SC hc T t0 f2 hin q2 (RR:=fun acc C=>compPost (model X.prog X.w) X.A X.xe none (EP X pins σ Q) acc C) fun acc C H' s' I' f' ⟨m,hm⟩ q'=>⟨m,hm,fun h' hs'=>⟨.ref acc,H',fp_turn f' I' hs',rfl,q'⟩⟩
theorem ps_comp {i:Nat} {y:Str} {py spos:Pos} (hc:X.calm = true) (hi:PI X target iter wi) (SC:CompSc X scope N' caps) (hin:∀ X',CompX X X' scope N' -> PG X' target g /\ PTs X' ifs tc /\ PE X' elt te) (hs:∀ x,foldedSetIterable iter X.env x = pure x)
    (hN:X.N.Nodup) (hy:X.N[i]? = some y) (hx:X.env.scope.names.lookup y = some .local) (hsw:swapsWith (.ListComp elt [⟨target,iter,ifs,0⟩] scope pos) (some (.Name y py)) spos.line X.env = pure true) :
    PS X (.Assign [.Name y py] (.ListComp elt [⟨target,iter,ifs,0⟩] scope pos) spos) (tAsg (tCompL wi caps g tc te) (gName i)):=by
  intro pins s σ H D I h
  rw [exec_Assign_Name_used _ _ _ _ hsw]
  refine wpAny_bind (wpAny_standAt (wpAny_bind ?_))
  show wpAny _ X.A (do let _ <- comprehension (.ListComp elt [⟨target,iter,ifs,0⟩] scope pos) scope X.env _ (newList []) false (eval iter X.env) (some (assign (.Name y py) X.env))) _ _ s
  refine wpAny_bind (wpAny_mono (wpAny_comprehension_free (use:=some (assign (.Name y py) X.env)) (Q:=fun _ s'=>SP X pins D .next s') rfl hs (closure_of (SC.cells I.ok)) SC.kind SC.names (thn (hi pins s σ H _ I h) fun v s1 h1=>thn h1 fun itv s2 h2=>?_))
    (fun _ s' hq=>wpAny_pure (wpAny_pure hq)) fun _ _ e=>e)
  obtain ⟨it,fp,tn,J,H2,rfl,I2,T,t0,f2,q2⟩:=h2
  refine comp_run (Q:=fun x H1=>gName i x σ H1 D.nx) I2 SC hc T t0 f2 hin q2 (RR:=fun acc C=>compPost (model X.prog X.w) X.A X.xe (some (assign (.Name y py) X.env)) (fun _ s'=>SP X pins D .next s') acc C) fun acc C H' s' I' f' ⟨m,hm⟩ q'=>?_
  show wpAny _ X.A (assign (.Name y py) X.env (.ref acc)) _ _ s'
  obtain ⟨o,es,ep,ho,hd,r⟩:=id hm
  have Ip:L2.Inv X (pins ++ pinsAt [C] s'.heap) σ H' s':=I'.pinned (fp:=[C]) (fun b hb=>(show b = C by simpa using hb) ▸ f') (fun b hb=>by
    have e:b = C:=by simpa using hb
    subst e
    exact ⟨o,ho,fun v z=>by rw [hd] at z;cases z⟩)
  refine wpAny_assign_Name (store_ok Ip hN hy (.inl hx) (show RelV (.ref acc) (.ref acc) from rfl) (fun s'' I''=>?_) (.inr hx))
  have hC:s''.heap.get? C = some o:=(I''.pin (C,o) (List.mem_append_right _ (List.mem_append_right _ (mem_pinsAt (by simp) ho)))).1
  exact ⟨m,⟨o,es,ep,hC,hd,r⟩,fun h' hs'=>⟨_,H',fp_turn f' I''.unpinned hs',q'⟩⟩
end

variable {G:GE} {k:Nat} {S:Stat}
noncomputable def relabelD (names sc:List (Str × NameKind)):List (Str × NameKind):=names.map fun (n,k)=>if (k == .free && sc.lookup n == some .cell) then (n,.cell) else (n,k)
noncomputable def blkS (S:Stat) (scope:Scope) (N':List Str):Stat:=⟨N',relabelD scope.names S.sc,[],true,false,false,fun _ _=>False⟩
structure BlkOk (S:Stat) (scope:Scope) (N':List Str) (caps:List (Option Nat)):Prop where
  kind:scope.kind = .function
  nd:N'.Nodup
  nocell:scope.names.all (fun y=>y.2 != .cell) = true
  names:scope.names.all (fun y=>y.2 != .local || scope.names.lookup y.1 == some .local) = true
  free:scope.names.all (fun y=>y.2 != .free || S.sc.lookup y.1 == some .cell || S.sc.lookup y.1 == some .free) = true
  len:caps.length = N'.length
  cap:(caps.zip N').all (fun p=>match p.1 with | some j=>S.N[j]? == some p.2 && scope.names.lookup p.2 == some .free | none=>true) = true
theorem BlkOk.sc {scope:Scope} {N':List Str} {caps:List (Option Nat)} (b:BlkOk S scope N' caps) {X:Cx} {Y:Dyn} (ok:XOk X G k S Y):CompSc X scope N' caps where
  kind:=b.kind
  nocell:=fun y hy z=>by
    have:=List.all_eq_true.mp b.nocell y hy
    rw [z] at this;cases this
  names:=fun y hy z=>by
    have:=List.all_eq_true.mp b.names y hy
    rw [z] at this
    simpa using this
  free:=fun y hy z=>by
    have:=List.all_eq_true.mp b.free y hy
    rw [z] at this
    have kd:X.env.kindOf y.1 = S.sc.lookup y.1:=by
      show X.env.scope.names.lookup y.1 = _
      rw [ok.sc]
    rw [kd]
    simpa using this
  len:=b.len
  cap:=fun i j e=>by
    have hl:i < caps.length:=(List.getElem?_eq_some_iff.mp e).1
    have hl':i < N'.length:=by rw [<- b.len];exact hl
    have hz:(caps.zip N')[i]? = some (some j,N'[i]):=by
      rw [List.getElem?_zip_eq_some]
      exact ⟨e,by rw [List.getElem?_eq_getElem hl']⟩
    have:=List.all_eq_true.mp b.cap _ (List.mem_of_getElem? hz)
    simp only [Bool.and_eq_true,beq_iff_eq] at this
    exact ⟨N'[i],by rw [List.getElem?_eq_getElem hl'],by rw [ok.N];exact this.1,this.2⟩
theorem comp_xok {X X':Cx} {Y:Dyn} {scope:Scope} {N':List Str} {caps:List (Option Nat)} (hh:S.hot = false) (ok:XOk X G k S Y) (b:BlkOk S scope N' caps) (c:CompX X X' scope N') (Y':Dyn) (hio:Y'.io = []):XOk X' G k (blkS S scope N') Y' where
  P:=c.P.trans ok.P
  w:=c.w.trans ok.w
  K:=c.K.trans ok.K
  kf:=c.K.trans ok.kf
  mg:=c.mg.trans ok.mg
  obs:=fun h=>nomatch h
  base:=c.base.trans ok.base
  N:=c.N
  sc:=by
    rw [c.sc]
    show scope.names.map _ = relabelD scope.names S.sc
    unfold relabelD
    refine List.map_congr_left fun y _=>?_
    obtain ⟨n,kk⟩:=y
    have kd:X.env.kindOf n = S.sc.lookup n:=by
      show X.env.scope.names.lookup n = _
      rw [ok.sc]
    simp only [ok.kind,kd,beq_self_eq_true,Bool.and_true]
  nd:=b.nd
  ios:=fun p hp=>by rw [hio] at hp;cases hp
  calm:=fun _=>c.calm
  kind:=by rw [c.sc];exact b.kind
  fn:=fun h=>by cases h
  hd:=fun _=>by rw [c.A];exact ok.hd hh
  dp:=by rw [c.A];exact ok.dp
  un:=by rw [c.A];exact ok.un
  po:=fun _=>by rw [c.xe];exact PassesOwn.never
  nx:=fun h=>nomatch h
  exc:=fun _ _ h=>h.elim
  made:=fun h=>nomatch h
noncomputable def leS:Sd -> Sd -> Prop
  | [],[]=>True
  | none :: r,_ :: s=>leS r s
  | some b :: r,c :: s=>c = some b /\ leS r s
  | _,_=>False
theorem leS_get:∀ {a b:Sd} {i:Nat} {x:B},leS a b -> a[i]? = some (some x) -> b[i]? = some (some x)
  | [],[],_,_,_,e=>by simp at e
  | none :: r,c :: s,0,_,h,e=>by simp at e
  | none :: r,c :: s,i + 1,x,h,e=>by
    have h:leS r s:=h
    simpa using leS_get (i:=i) h (by simpa using e)
  | some b :: r,c :: s,0,x,h,e=>by
    obtain ⟨h1,h2⟩:c = some b /\ leS r s:=h
    simp at e;subst e;simp [h1]
  | some b :: r,c :: s,i + 1,x,h,e=>by
    obtain ⟨h1,h2⟩:c = some b /\ leS r s:=h
    simpa using leS_get (i:=i) h2 (by simpa using e)
  | [],_ :: _,_,_,h,_=>h.elim
  | none :: _,[],_,_,h,_=>h.elim
  | some _ :: _,[],_,_,h,_=>h.elim
theorem leS_len:∀ {a b:Sd},leS a b -> a.length = b.length
  | [],[],_=>rfl
  | none :: r,c :: s,h=>by
    have h:leS r s:=h
    simp [leS_len h]
  | some b :: r,c :: s,h=>by
    obtain ⟨_,h2⟩:c = some b /\ leS r s:=h
    simp [leS_len h2]
  | [],_ :: _,h=>h.elim
  | none :: _,[],h=>h.elim
  | some _ :: _,[],h=>h.elim
noncomputable def frzC (ios:List Nat):List (Option Nat) -> Sd -> (Sd -> Prop) -> Prop
  | [],σ,Q=>Q σ
  | none :: r,σ,Q=>frzC ios r σ Q
  | some j :: r,σ,Q=>match σ[j]? with
    | some (some (.own xs))=>j ∉ ios /\ frzC ios r (σ.set j (some (.sh (.lst xs)))) Q
    | _=>frzC ios r σ Q
noncomputable def capD (caps:List (Option Nat)) (σ:Sd):Sd:=caps.map fun c=>match c with
  | some j=>match σ[j]? with
    | some (some (.sh d))=>some (.sh d)
    | _=>none
  | none=>none
noncomputable def compD (g:TGd) (tc:TB) (te:TD) (σ0:Sd):List D -> List D -> (List D -> Prop) -> Prop
  | [],acc,Q=>Q acc
  | x :: xs,acc,Q=>g x σ0 fun σ1=>tc σ1 fun b σ2=>if b = true then te σ2 fun d σ3=>leS σ0 σ3 /\ acc.length < sizeLine /\ compD g tc te σ0 xs (acc ++ [d]) Q else leS σ0 σ2 /\ compD g tc te σ0 xs acc Q
noncomputable def tComp (ios:List Nat) (caps:List (Option Nat)) (ti:TDs) (g:TGd) (tc:TB) (te:TD):TX:=fun σ Q=>ti σ fun items σ1=>frzC ios caps σ1 fun σ2=>compD g tc te (capD caps σ2) items [] fun ds=>Q (.own ds) σ2
theorem frzC_sound {ios:List Nat} {Y:Dyn} (hio:∀ p ∈ Y.io,p.1 ∈ ios):∀ {caps:List (Option Nat)} {F:Hp} {σd:Sd} {σ:St} {H:Hp} {Q:Sd -> Prop},RS Y F σd σ H -> frzC ios caps σd Q -> ∃ F' σd',Same F F' /\ RS Y F' σd' σ H /\ Q σd'
  | [],F,σd,σ,H,Q,R,q=>⟨F,σd,Same.refl _,R,q⟩
  | none :: r,F,σd,σ,H,Q,R,q=>frzC_sound hio (caps:=r) R q
  | some j :: r,F,σd,σ,H,Q,R,q=>by
    unfold frzC at q
    split at q
    · rename_i xs e
      obtain ⟨F2,v2,s2,R2,e2,r2⟩:=R.freezeVar e fun p hp z=>q.1 (z ▸ hio p hp)
      obtain ⟨F3,σ3,s3,R3,q3⟩:=frzC_sound hio (caps:=r) R2 q.2
      exact ⟨F3,σ3,s2.trans s3,R3,q3⟩
    · exact frzC_sound hio (caps:=r) R q
theorem capD_noobj (caps:List (Option Nat)) (σd:Sd):∀ (i:Nat) (o:O),(capD caps σd)[i]? ≠ some (some (.obj o)):=fun i o e=>by
  unfold capD at e
  rw [List.getElem?_map] at e
  cases ec:caps[i]? with
  | none=>rw [ec] at e;cases e
  | some c =>
    rw [ec] at e
    cases c with
    | none=>cases e
    | some j =>
      have e:(match σd[j]? with | some (some (.sh d))=>some (B.sh d) | _=>none) = some (.obj o):=Option.some.inj e
      split at e<;>cases e

theorem capD_rs {Y:Dyn} {F:Hp} {σd:Sd} {σ:St} {H:Hp} (R:RS Y F σd σ H) (caps:List (Option Nat)) {F' H':Hp} (s1:Same F F') (s2:Same F' H'):RS ⟨H',F',[],[]⟩ F' (capD caps σd) (capSt caps σ) H' where
  len:=by unfold capD capSt;simp
  lo:=Same.refl _
  fr:=s2
  fro:=fun b o e=>.inl e
  old:=fun b o e _=>e
  sh:=fun i d e=>by
    unfold capD at e
    rw [List.getElem?_map] at e
    unfold capSt
    rw [List.getElem?_map]
    cases ec:caps[i]? with
    | none=>rw [ec] at e;cases e
    | some c =>
      rw [ec] at e
      cases c with
      | none=>cases e
      | some j =>
        have e:(match σd[j]? with | some (some (.sh d))=>some (B.sh d) | _=>none) = some (.sh d):=Option.some.inj e
        split at e
        · rename_i d' q
          cases e
          obtain ⟨v,h1,h2⟩:=R.sh j d q
          exact ⟨v,by show some ((σ[j]?).join) = _;rw [h1];rfl,h2.mono s1⟩
        · cases e
  own:=fun i xs e=>by
    unfold capD at e
    rw [List.getElem?_map] at e
    cases ec:caps[i]? with
    | none=>rw [ec] at e;cases e
    | some c =>
      rw [ec] at e
      cases c with
      | none=>cases e
      | some j =>
        have e:(match σd[j]? with | some (some (.sh d))=>some (B.sh d) | _=>none) = some (.own xs):=Option.some.inj e
        split at e<;>cases e
  dis:=fun i j xs ys a e=>by
    exfalso
    unfold capD at e
    rw [List.getElem?_map] at e
    cases ec:caps[i]? with
    | none=>rw [ec] at e;cases e
    | some c =>
      rw [ec] at e
      cases c with
      | none=>cases e
      | some j =>
        have e:(match σd[j]? with | some (some (.sh d))=>some (B.sh d) | _=>none) = some (.own xs):=Option.some.inj e
        split at e<;>cases e
  io:=fun p hp=>by cases hp
  ob:=.none (capD_noobj _ _) (R.ob.tab.mono s1) fun b hb=>by cases hb
theorem RS.less {Y:Dyn} {F:Hp} {σ0 σd:Sd} {σ:St} {H:Hp} (R:RS Y F σd σ H) (l:leS σ0 σd) (noown:∀ (i:Nat) (xs:List D),σ0[i]? ≠ some (some (.own xs))) (noobj:∀ (i:Nat) (o:O),σ0[i]? ≠ some (some (.obj o))) {H':Hp} (s:Same F H'):RS ⟨H',F,[],[]⟩ F σ0 σ H' where
  len:=(leS_len l).trans R.len
  lo:=Same.refl _
  fr:=s
  fro:=fun b o e=>.inl e
  old:=fun b o e _=>e
  sh:=fun i d e=>R.sh i d (leS_get l e)
  own:=fun i xs e=>absurd e (noown i xs)
  dis:=fun i j xs ys a e=>absurd e (noown i xs)
  io:=fun p hp=>by cases hp
  ob:=.none noobj R.ob.tab fun b hb=>by cases hb
theorem capD_noown (caps:List (Option Nat)) (σd:Sd):∀ (i:Nat) (xs:List D),(capD caps σd)[i]? ≠ some (some (.own xs)):=fun i xs e=>by
  unfold capD at e
  rw [List.getElem?_map] at e
  cases ec:caps[i]? with
  | none=>rw [ec] at e;cases e
  | some c =>
    rw [ec] at e
    cases c with
    | none=>cases e
    | some j =>
      have e:(match σd[j]? with | some (some (.sh d))=>some (B.sh d) | _=>none) = some (.own xs):=Option.some.inj e
      split at e<;>cases e

theorem leS_refl:∀ a:Sd,leS a a
  | []=>trivial
  | none :: r=>leS_refl r
  | some b :: r=>⟨rfl,leS_refl r⟩
theorem RS.other {Y:Dyn} {F:Hp} {σd:Sd} {σ:St} {H:Hp} {a:Addr} {o:HO} (R:RS Y F σd σ H) (h1:F a = none) (h2:Y.H0 a = none) (h3:NoOwn σd σ a):RS Y F σd σ (upd H a o) where
  len:=R.len
  lo:=R.lo
  fr:=fun b u e=>by
    have:b ≠ a:=fun z=>by rw [z,h1] at e;cases e
    rw [upd_ne this];exact R.fr b u e
  fro:=R.fro
  old:=fun b u e n=>by
    have:b ≠ a:=fun z=>by rw [z,h2] at e;cases e
    rw [upd_ne this];exact R.old b u e n
  sh:=R.sh
  own:=fun i xs e=>by
    obtain ⟨b,vs,w1,w2,w3⟩:=R.own i xs e
    have:b ≠ a:=fun z=>h3 i xs e (by rw [w1,z])
    exact ⟨b,vs,w1,by rw [upd_ne this];exact w2,w3⟩
  dis:=R.dis
  io:=R.io
  ob:=R.ob.step (Same.refl _) (fun _ _ e=>⟨e,rfl⟩) (fun b hb=>by
    obtain ⟨w1,w2,w3⟩:=R.ob.owned hb
    have hne:b ≠ a:=fun z=>h3.nob (z ▸ hb)
    exact ⟨upd_ne hne,w1,w3⟩) R.ob.dsx fun b hb=>by
    by_cases hne:b = a
    · rw [hne,upd_same];exact fun z=>nomatch z
    · rw [upd_ne hne];exact R.ob.there b hb
noncomputable def lGe (g:TGd):TG:=fun v σ H Q=>∃ Y:Dyn,Y.io = [] /\ lG Y g v σ H Q
noncomputable def lBe (t:TB):TT:=fun σ H Q=>∃ Y:Dyn,Y.io = [] /\ lB Y t σ H Q
noncomputable def lDe (t:TD):TE:=fun σ H Q=>∃ Y:Dyn,Y.io = [] /\ lD Y t σ H Q
structure EBs (G:GE) (k:Nat) (S:Stat) (ifs:List Expr) (t:TB) :Prop where
  run:∀ X Y,XOk X G k S Y -> PTs X ifs (lB Y t)
instance {G:GE} {k:Nat} {S:Stat} {ifs:List Expr} {t:TB} :CoeFun (EBs G k S ifs t) fun _=>∀ X Y,XOk X G k S Y -> PTs X ifs (lB Y t):=⟨EBs.run⟩
noncomputable def tTrue:TB:=fun σ Q=>Q true σ
theorem b_nil:EBs G k S [] tTrue:=.mk fun X Y ok pins s σ H Q I q=>pts_nil pins s σ H Q I (by
  obtain ⟨F,σd,Qd,R,q,K⟩:=q
  exact K true H F σd (Same.refl _) R q)
theorem b_one {c:Expr} {t:TB} (h:EB G k S c t):EBs G k S [c] t:=.mk fun X Y ok=>pts_one (h X Y ok)
section
variable {elt target iter:Expr} {ifs:List Expr} {scope:Scope} {pos:Pos} {N':List Str} {caps:List (Option Nat)} {ti:TDs} {g:TGd} {tc:TB} {te:TD}
theorem comp_in {X:Cx} {Y:Dyn} (hh:S.hot = false) (ok:XOk X G k S Y) (b:BlkOk S scope N' caps) (hg:EG G k (blkS S scope N') target g) (ht:EBs G k (blkS S scope N') ifs tc) (he:ED G k (blkS S scope N') elt te) :
    ∀ X',CompX X X' scope N' -> PG X' target (lGe g) /\ PTs X' ifs (lBe tc) /\ PE X' elt (lDe te):=fun X' c =>
  ⟨fun pins s σ H v u Q I r ⟨Y',hio,q⟩=>hg X' Y' (comp_xok hh ok b c Y' hio) pins s σ H v u Q I r q,fun pins s σ H Q I ⟨Y',hio,q⟩=>ht X' Y' (comp_xok hh ok b c Y' hio) pins s σ H Q I q,fun pins s σ H Q I ⟨Y',hio,q⟩=>he X' Y' (comp_xok hh ok b c Y' hio) pins s σ H Q I q⟩
theorem comp_sound {Y:Dyn} {ios:List Nat} (hio:∀ p ∈ Y.io,p.1 ∈ ios) {σ:St} {H:Hp} {Q:VK} (q:lX Y (tComp ios caps ti g tc te) σ H Q):tCompL (lI Y ti) caps (lGe g) (lBe tc) (lDe te) σ H Q:=by
  obtain ⟨F,σd,Qd,R,q,K⟩:=q
  refine ⟨F,σd,_,R,q,fun H1 F1 σd1 J items s1 R1 it q1 acc hacc=>?_⟩
  obtain ⟨F2,σd2,s2,R2,q2⟩:=frzC_sound hio R1 q1
  have it2:=it.mono s2
  have a0:Y.H0 acc = none:=(R2.fresh0 hacc).1
  have aF:F2 acc = none:=same_none R2.fr hacc
  have aN:NoOwn σd2 σ acc:=R2.noFresh hacc
  have sw:∀ {F5 H5:Hp} {o:HO},Same F5 H5 -> F5 acc = none -> Same F5 (upd H5 acc o):=fun {F5 H5 o} s5 h b u e=>by
    have:b ≠ acc:=fun z=>by rw [z,h] at e;cases e
    rw [upd_ne this];exact s5 b u e
  refine ⟨fun i m σ1 H'=>∃ Fi ds ys,Same F2 Fi /\ RS Y Fi σd2 σ H' /\ H' acc = some (.lst ys) /\ RepL Fi ys ds /\ Fi acc = none /\ RS ⟨H',Fi,[],[]⟩ Fi (capD caps σd2) σ1 H' /\ compD g tc te (capD caps σd2) (items.drop i) ds (fun ds=>Qd (.own ds) σd2) /\ m = items.length - i /\ i <= items.length,
    ⟨items.length,F2,[],[],Same.refl _,R2.other aF a0 aN,upd_same,.nil,aF,capD_rs R2 caps (Same.refl _) (sw R2.fr aF),q2,rfl,Nat.zero_le _⟩,?_⟩
  rintro i m σ1 Hi ⟨Fi,ds,ys,si,Ri,hacci,ri,fi,Rin,qi,rfl,hi⟩
  have itr:=it2 Fi Hi si Ri.fr i
  by_cases hl:i < items.length
  · right
    have hd:items.drop i = items[i] :: items.drop (i + 1):=by rw [List.drop_eq_getElem_cons hl]
    rw [hd] at qi
    obtain ⟨go,yl⟩:=itr.1 items[i] (by rw [List.getElem?_eq_getElem hl])
    refine ⟨go,fun v H' y=>?_⟩
    obtain ⟨F3,gr,rep⟩:=yl v H' y
    have sF:Same Fi F3:=gr.same Ri.fr
    have R3:=gr.rs Rin
    have R3':RS ⟨H',F3,[],[]⟩ F3 (capD caps σd2) σ1 H':=R3.less (leS_refl _) (capD_noown _ _) (capD_noobj _ _) R3.fr
    have sH:Same Hi H':=by
      rcases gr with ⟨_,rfl⟩ | ⟨p,o,hp,_,rfl⟩
      · exact Same.refl _
      · exact same_alloc hp
    have fr3:∀ c o,F3 c = some o -> Fi c = some o \/ Hi c = none:=fun c o e=>by
      rcases gr with ⟨rfl,_⟩ | ⟨p,o',hp,rfl,_⟩
      · exact .inl e
      · by_cases hc:c = p
        · subst hc;exact .inr hp
        · rw [upd_ne hc] at e;exact .inl e
    -- behind the turn
    have back:∀ {F5 H5:Hp} {σd5:Sd} {σ5:St},Same F3 F5 -> RS ⟨H',F3,[],[]⟩ F5 σd5 σ5 H5 -> RS Y F5 σd2 σ H5 /\ H5 acc = some (.lst ys) /\ F5 acc = none /\ Same Fi F5:=fun {F5 H5 σd5 σ5} s5 R5=>by
      have s35:Same Hi H5:=sH.trans fun b o e=>R5.old b o e (by simp [Dyn.ioA])
      have fr5:∀ c o,F5 c = some o -> Fi c = some o \/ Hi c = none:=fun c o e=>by
        rcases R5.fro c o e with z | z
        · exact fr3 c o z
        · exact .inr (sH.free z)
      refine ⟨Ri.call (sF.trans s5) R5.fr s35 fr5,s35 _ _ hacci,?_,sF.trans s5⟩
      cases e:F5 acc with
      | none=>rfl
      | some o =>
        rcases fr5 acc o e with z | z
        · rw [fi] at z;cases z
        · rw [hacci] at z;cases z
    refine ⟨⟨H',F3,[],[]⟩,rfl,F3,_,items[i],_,R3',rep,qi,fun σ4 H4 F4 σd4 s4 R4 q4=>?_⟩
    refine ⟨⟨H',F3,[],[]⟩,rfl,F4,σd4,_,R4,q4,fun b H5 F5 σd5 s5 R5 q5=>?_⟩
    cases b with
    | false =>
      obtain ⟨le,q5⟩:=q5
      obtain ⟨w1,w2,w3,w4⟩:=back (s4.trans s5) R5
      exact ⟨items.length - (i + 1),by omega,F5,ds,ys,si.trans w4,w1,w2,ri.mono w4,w3,R5.less le (capD_noown _ _) (capD_noobj _ _) R5.fr,q5,rfl,hl⟩
    | true =>
      refine ⟨⟨H',F3,[],[]⟩,rfl,F5,σd5,_,R5,q5,fun v6 H6 F6 d σd6 s6 R6 r6 q6=>?_⟩
      obtain ⟨le,hz,q6⟩:=q6
      obtain ⟨w1,w2,w3,w4⟩:=back ((s4.trans s5).trans s6) R6
      exact ⟨ys,items.length - (i + 1),w2,by rw [ri.length];exact hz,by omega,F6,ds ++ [d],ys ++ [v6],si.trans w4,w1.other w3 a0 aN,upd_same,(ri.mono w4).append (.cons r6 .nil),w3,R6.less le (capD_noown _ _) (capD_noobj _ _) (sw R6.fr w3),q6,rfl,hl⟩
  · left
    have e:i = items.length:=by omega
    subst e
    rw [List.drop_length] at qi
    exact ⟨itr.2 rfl,K _ Hi Fi (.own ds) σd2 ((s1.trans s2).trans si) Ri ⟨acc,ys,rfl,hacci,ri,fi,a0,aN⟩ qi⟩
theorem r_comp (hi:EI G k S target iter ti) (b:BlkOk S scope N' caps) (hg:EG G k (blkS S scope N') target g) (ht:EBs G k (blkS S scope N') ifs tc) (he:ED G k (blkS S scope N') elt te) (hs:∀ env x,foldedSetIterable iter env x = pure x:=by intro _ _;rfl) (hh:S.hot = false:=by rfl) :
    EX G k S (.ListComp elt [⟨target,iter,ifs,0⟩] scope pos) (tComp S.ios caps ti g tc te):=.mk fun X Y ok =>
  pe_imp (pe_comp (ok.calm hh) (hi X Y ok) (b.sc ok) (comp_in hh ok b hg ht he) (hs _)) fun σ H Q q=>comp_sound ok.ios q
theorem s_comp (i:Nat) {y:Str} {py spos:Pos} (hi:EI G k S target iter ti) (b:BlkOk S scope N' caps) (hg:EG G k (blkS S scope N') target g) (ht:EBs G k (blkS S scope N') ifs tc) (he:ED G k (blkS S scope N') elt te)
    (hy:S.N[i]? = some y:=by rfl) (hx:S.sc.lookup y = some .local \/ (S.sc.lookup y = some .cell /\ S.blk = false):=by first | exact Or.inl rfl | exact Or.inr ⟨rfl,rfl⟩) (hn:i ∉ S.ios:=by first | decide | exact List.not_mem_nil) (hl:(py.line == pos.line) = true:=by rfl) (hsn:(scope.names.any fun (n,k)=>n == y && (k == .local || k == .cell)) = false:=by decide +kernel)
    (hs:∀ env x,foldedSetIterable iter env x = pure x:=by intro _ _;rfl) (hh:S.hot = false:=by rfl):ES G k S (.Assign [.Name y py] (.ListComp elt [⟨target,iter,ifs,0⟩] scope pos) spos) (tSt S.ios i (tComp S.ios caps ti g tc te)):=.mk fun X Y ok=>by
  have sw:swapsWith (.ListComp elt [⟨target,iter,ifs,0⟩] scope pos) (some (.Name y py)) spos.line X.env = pure (S.sc.lookup y == some .local):=by
    have e:swapsWith (.ListComp elt [⟨target,iter,ifs,0⟩] scope pos) (some (.Name y py)) spos.line X.env = pure (X.env.blockKind == .function && X.env.kindOf y == some .local && py.line == pos.line && !(scope.names.any fun (n,k)=>n == y && (k == .local || k == .cell))):=rfl
    have kb:X.env.blockKind = .function:=by unfold Env.blockKind;rw [ok.kind];rfl
    have kd:X.env.kindOf y = S.sc.lookup y:=by
      show X.env.scope.names.lookup y = _
      rw [ok.sc]
    rw [e,kb,kd,hl,hsn]
    simp
  have fin:∀ Dn σ H,lS Y (tSt S.ios i (tComp S.ios caps ti g tc te)) Dn σ H -> tAsg (tCompL (lI Y ti) caps (lGe g) (lBe tc) (lDe te)) (gName i) Dn σ H:=fun Dn σ H q=>by
    obtain ⟨F,σd,De,R,q,K⟩:=q
    refine comp_sound ok.ios ⟨F,σd,_,R,q,fun v H1 F1 y σ1 s1 R1 r1 q1=>?_⟩
    obtain ⟨F2,σ2,s2,R2,q2⟩:=stD_sound R1 r1 hn ok.ios q1
    exact K.nx _ H1 F2 σ2 (s1.trans s2) R2 q2
  rcases hx with hx | hx
  · refine ps_imp (ps_comp (i:=i) (ok.calm hh) (hi X Y ok) (b.sc ok) (comp_in hh ok b hg ht he) (hs _) (by rw [ok.N];exact ok.nd) (by rw [ok.N];exact hy) (by rw [ok.sc];exact hx) (by rw [sw,hx];rfl)) fin
  · refine ps_imp (L2.ps_set (i:=i) (by rw [ok.N];exact ok.nd) (by rw [ok.N];exact hy) (loc_of ok (.inr hx)) (pe_comp (ok.calm hh) (hi X Y ok) (b.sc ok) (comp_in hh ok b hg ht he) (hs _)) (by rw [sw,hx.1];rfl) (fn_of' ok (.inr hx))) fin
end
end Vc

set_option Elab.async false
set_option linter.all false
set_option maxRecDepth 100000

namespace Vc
open PySem L2
variable [KF]

section
variable {prog:Program} {w:World} {A:Around} {E:Value -> Shared -> Prop} {s:Shared}
theorem draw_tup {j t:Addr} {i:Nat} {xs:Array Value} {x:Value} {Q:Value -> Shared -> Prop} (hj:s.heap.IsTupleIter j t i) (ht:s.heap.IsTuple t xs) (hx:xs[i]? = some x)
    (q:∀ g,g.IsTupleIter j t (i + 1) -> Heap.SameBut j s.heap g -> Q x { s with heap:=g }):wpAny (model prog w) A (Builtin.SmallTypes.nextOf (.ref j)) Q E s:=by
  obtain ⟨ob,h1,h2,h3⟩:=id hj
  obtain ⟨ot,h4,_,nt,h5⟩:=ht
  unfold Builtin.SmallTypes.nextOf
  refine wpAny_bind (wpAny_callSpecial?_slot (name:=Str.ofString "__next__") hj.typeIs F.slot_tuple_iterator_next (wpAny_call_entry F.slot_tuple_iterator_next hj.typeIs F.entry_tuple_iterator_next ?_ (F.args_tuple_iterator_next_1 _)))
  show wpAny _ _ (field (.ref j) 0 >>= _) _ _ s
  refine wpAny_bind (wpAny_field h1 h3 (x:=.ref t) rfl ?_)
  show wpAny _ _ (if (Value.ref t == Value.none) = true then _ else _) _ _ s
  rw [if_neg (by intro z;exact absurd z Bool.false_ne_true)]
  show wpAny _ _ (field (.ref j) 1 >>= _) _ _ s
  refine wpAny_bind (wpAny_field h1 h3 (x:=.int i 0) rfl ?_)
  show wpAny _ _ (seqItems? (.ref t) >>= _) _ _ s
  refine wpAny_bind (wpAny_seqItems h4 h5 ?_)
  simp only [Int.toNat_natCast,hx]
  refine wpAny_bind (wpAny_setField h1 h3 (by simp) (wpAny_pure ⟨x,rfl,wpAny_pure (q _ ?_ (Heap.SameBut.update ..))⟩))
  refine ⟨_,Heap.get?_update_self _ h1 (Obj.isFreed_of_fields (Obj.data_mapFields h3 _)),(Obj.cls_mapFields ..).trans h2,?_⟩
  rw [Obj.data_mapFields h3]
  simp [rawInt]
theorem draw_tup_end {j t:Addr} {i:Nat} {xs:Array Value} {Q:Value -> Shared -> Prop} (hh:A.handled = none) (hj:s.heap.IsTupleIter j t i) (ht:s.heap.IsTuple t xs) (hx:xs[i]? = none)
    (q:∀ g e,Heap.ExtBut j s.heap g -> (∃ o,g.get? e = some o /\ o.cls = .type "StopIteration") -> E (.ref e) { s with heap:=g }):wpAny (model prog w) A (Builtin.SmallTypes.nextOf (.ref j)) Q E s:=by
  obtain ⟨ob,h1,h2,h3⟩:=id hj
  obtain ⟨ot,h4,_,nt,h5⟩:=ht
  unfold Builtin.SmallTypes.nextOf
  refine wpAny_bind (wpAny_callSpecial?_slot (name:=Str.ofString "__next__") hj.typeIs F.slot_tuple_iterator_next (wpAny_call_entry F.slot_tuple_iterator_next hj.typeIs F.entry_tuple_iterator_next ?_ (F.args_tuple_iterator_next_1 _)))
  show wpAny _ _ (field (.ref j) 0 >>= _) _ _ s
  refine wpAny_bind (wpAny_field h1 h3 (x:=.ref t) rfl ?_)
  show wpAny _ _ (if (Value.ref t == Value.none) = true then _ else _) _ _ s
  rw [if_neg (by intro z;exact absurd z Bool.false_ne_true)]
  show wpAny _ _ (field (.ref j) 1 >>= _) _ _ s
  refine wpAny_bind (wpAny_field h1 h3 (x:=.int i 0) rfl ?_)
  show wpAny _ _ (seqItems? (.ref t) >>= _) _ _ s
  refine wpAny_bind (wpAny_seqItems h4 h5 ?_)
  simp only [Int.toNat_natCast,hx]
  refine wpAny_bind (wpAny_rule (wpAny_bind (wpAny_setField h1 h3 (by simp) ?_)))
  show wpAny _ _ (newExc (.type "StopIteration") [] >>= _) _ _ _
  refine wpAny_bind ?_
  simp only [newExc,newTuple]
  refine wpAny_bind (wpAny_newObj_type ?_ (by size_fits))
  refine wpAny_bind (m:=firstArgMember _ _) (wpAny_of_eq (a:=Value.none) (by first | rfl | (simp only [firstArgMember];rfl)) ?_)
  refine wpAny_newObj_type ?_ (by size_fits)
  simp only [raiseNew]
  refine wpAny_bind (wpAny_handled ?_)
  first | rw [show A.in1.handled = none from hh] | rw [hh]
  refine wpAny_bind (wpAny_pure (wpAny_throw ?_))
  exact q _ _ (((Heap.SameBut.update ..).extBut.push _).push _) ⟨_,Heap.get?_push_size _ rfl,rfl⟩
end
noncomputable def SqI (tp:Bool) (h:Heap) (j a:Addr) (i:Nat):Prop:=if tp = true then h.IsTupleIter j a i else h.IsListIter j a i
noncomputable def SqA (tp:Bool) (h:Heap) (a:Addr) (xs:Array Value):Prop:=if tp = true then h.IsTuple a xs else h.IsList a xs
theorem SqI.live {tp:Bool} {h:Heap} {j a:Addr} {i:Nat} (q:SqI tp h j a i):∃ o,h.get? j = some o /\ ∀ v,o.data ≠ .cell v:=by
  cases tp with
  | true=>obtain ⟨o,e,c,d⟩:=(show h.IsTupleIter j a i from q);exact ⟨o,e,fun v z=>by rw [d] at z;cases z⟩
  | false=>obtain ⟨o,e,c,d⟩:=(show h.IsListIter j a i from q);exact ⟨o,e,fun v z=>by rw [d] at z;cases z⟩
theorem SqI.at {tp:Bool} {h h':Heap} {j a:Addr} {i:Nat} (q:SqI tp h j a i) (k:∀ o,h.get? j = some o -> h'.get? j = some o):SqI tp h' j a i:=by
  cases tp with
  | true=>obtain ⟨o,e,r⟩:=(show h.IsTupleIter j a i from q);exact (show h'.IsTupleIter j a i from ⟨o,k o e,r⟩)
  | false=>obtain ⟨o,e,r⟩:=(show h.IsListIter j a i from q);exact (show h'.IsListIter j a i from ⟨o,k o e,r⟩)
theorem SqA.at {tp:Bool} {h h':Heap} {a:Addr} {xs:Array Value} (q:SqA tp h a xs) (k:∀ o,h.get? a = some o -> h'.get? a = some o):SqA tp h' a xs:=by
  cases tp with
  | true=>obtain ⟨o,e,r⟩:=(show h.IsTuple a xs from q);exact (show h'.IsTuple a xs from ⟨o,k o e,r⟩)
  | false=>obtain ⟨o,e,r⟩:=(show h.IsList a xs from q);exact (show h'.IsList a xs from ⟨o,k o e,r⟩)
section
variable {prog:Program} {w:World} {A:Around} {E:Value -> Shared -> Prop} {s:Shared}
theorem draw {tp:Bool} {j a:Addr} {i:Nat} {xs:Array Value} {x:Value} {Q:Value -> Shared -> Prop} (hj:SqI tp s.heap j a i) (ha:SqA tp s.heap a xs) (hx:xs[i]? = some x)
    (q:∀ g,SqI tp g j a (i + 1) -> Heap.SameBut j s.heap g -> Q x { s with heap:=g }):wpAny (model prog w) A (Builtin.SmallTypes.nextOf (.ref j)) Q E s:=by
  cases tp with
  | true=>exact draw_tup hj ha hx q
  | false=>exact wpAny_nextOf_list_item hj ha hx q
theorem draw_end {tp:Bool} {j a:Addr} {i:Nat} {xs:Array Value} {Q:Value -> Shared -> Prop} (hh:A.handled = none) (hj:SqI tp s.heap j a i) (ha:SqA tp s.heap a xs) (hx:xs[i]? = none)
    (q:∀ g e,Heap.ExtBut j s.heap g -> (∃ o,g.get? e = some o /\ o.cls = .type "StopIteration") -> E (.ref e) { s with heap:=g }):wpAny (model prog w) A (Builtin.SmallTypes.nextOf (.ref j)) Q E s:=by
  cases tp with
  | true=>exact draw_tup_end hh hj ha hx q
  | false=>exact wpAny_nextOf_list_end hh hj ha hx q
structure ZAp (z U V i j:Addr):Prop where
  uz:U ≠ z
  vz:V ≠ z
  iz:i ≠ z
  jz:j ≠ z
  uv:U ≠ V
  ui:U ≠ i
  uj:U ≠ j
  vi:V ≠ i
  vj:V ≠ j
  ij:i ≠ j
theorem zip_one {tp tq:Bool} {z U V i j l m:Addr} {n:Nat} {xs ys:Array Value} {x y a b:Value} {Q:Option Value -> Shared -> Prop} (D:ZAp z U V i j) (lz:l ≠ z /\ l ≠ V /\ l ≠ i /\ l ≠ j) (mz:m ≠ z /\ m ≠ V /\ m ≠ i /\ m ≠ j)
    (hz:IsZip s.heap z U V .none) (hU:IsPair s.heap U (.ref i) (.ref j)) (hV:IsPair s.heap V a b) (h1:SqI tp s.heap i l n) (h2:SqI tq s.heap j m n) (hl:SqA tp s.heap l xs) (hm:SqA tq s.heap m ys) (hx:xs[n]? = some x) (hy:ys[n]? = some y)
    (q:∀ g,IsZip g z U V (rawInt s.heap.objs.size) -> IsPair g V x y -> SqI tp g i l (n + 1) -> SqI tq g j m (n + 1) -> IsPair g s.heap.objs.size x y -> g.objs.size = s.heap.objs.size + 1 ->
      (∀ c o,c ≠ z -> c ≠ V -> c ≠ i -> c ≠ j -> s.heap.get? c = some o -> g.get? c = some o) -> Q (some (.ref s.heap.objs.size)) { s with heap:=g }):wpAny (model prog w) A (pyNext (.ref z)) Q E s:=by
  have hT:s.TypeIs (.ref z) "zip":=⟨_,hz,rfl⟩
  unfold pyNext
  refine wpAny_bind (wpAny_attempt (wpAny_callSpecial?_slot (name:=Str.ofString "__next__") hT F.slot_zip_next (wpAny_call_entry F.slot_zip_next hT F.entry_zip_next ?_ (F.args_zip_next_1 _))))
  show wpAny _ _ (field (.ref z) 2 >>= _) _ _ _
  refine wpAny_bind (wpAny_field hz rfl (x:=.bool false) rfl ?_)
  show wpAny _ _ (field (.ref z) 3 >>= _) _ _ _
  refine wpAny_bind (wpAny_field hz rfl (x:=.ref U) rfl (wpAny_bind (wpAny_seqItems hU rfl ?_)))
  show wpAny _ _ (Builtin.SmallTypes.ownedTupleIsFree (.ref z) >>= _) _ _ _
  refine wpAny_bind ?_
  unfold Builtin.SmallTypes.ownedTupleIsFree
  refine wpAny_bind (wpAny_field hz rfl (x:=.none) rfl (wpAny_pure ?_))
  simp only [if_true]
  refine wpAny_bind (wpAny_rule (wpAny_bind (wpAny_field hz rfl (x:=.ref V) rfl (wpAny_bind (wpAny_setField_rec hz (by simp) fun g1 z1 e1=>?_)))))
  replace z1:IsZip g1 z U V .ellipsis:=z1
  refine wpAny_bind ?_
  simp only [List.zipIdx_cons,List.zipIdx_nil,List.forIn_cons,List.forIn_nil]
  refine wpAny_bind (wpAny_bind (wpAny_onRaise ?_))
  show wpAny _ _ (Builtin.SmallTypes.nextOf (.ref i) >>= _) _ _ _
  refine wpAny_bind (draw (s:={ s with heap:=g1 }) (h1.at fun o e=>e1.extBut _ _ D.iz e) (hl.at fun o e=>e1.extBut _ _ lz.1 e) hx fun g2 w2 e2=>wpAny_pure ?_)
  have v2:IsPair g2 V a b:=e2.extBut _ _ D.vi (e1.extBut _ _ D.vz hV)
  refine wpAny_bind (wpAny_seqItems v2 rfl (wpAny_bind (wpAny_updateSeq_pair v2 fun g3 v3 e3=>?_)))
  replace v3:IsPair g3 V x b:=v3
  refine wpAny_bind (wpAny_letGo (wpAny_pure (wpAny_bind (wpAny_bind (wpAny_onRaise ?_)))))
  show wpAny _ _ (Builtin.SmallTypes.nextOf (.ref j) >>= _) _ _ _
  have to3:∀ c o,c ≠ z -> c ≠ i -> c ≠ V -> s.heap.get? c = some o -> g3.get? c = some o:=fun c o c1 c2 c3 e=>e3.extBut _ _ c3 (e2.extBut _ _ c2 (e1.extBut _ _ c1 e))
  refine wpAny_bind (draw (s:={ s with heap:=g3 }) (h2.at fun o e=>to3 j o D.jz D.ij.symm D.vj.symm e) (hm.at fun o e=>to3 m o mz.1 mz.2.2.1 mz.2.1 e) hy fun g4 w4 e4=>wpAny_pure ?_)
  have v4:IsPair g4 V x b:=e4.extBut _ _ D.vj v3
  refine wpAny_bind (wpAny_seqItems v4 rfl (wpAny_bind (wpAny_updateSeq_pair v4 fun g5 v5 e5=>?_)))
  replace v5:IsPair g5 V x y:=v5
  refine wpAny_bind (wpAny_letGo (wpAny_pure (wpAny_pure (wpAny_bind (wpAny_seqItems v5 rfl (wpAny_bind (wpAny_newTuple ?_)))))))
  have sz:g5.objs.size = s.heap.objs.size:=by rw [e5.1,e4.1,e3.1,e2.1,e1.1]
  have z5:IsZip g5 z U V .ellipsis:=e5.extBut _ _ D.vz.symm (e4.extBut _ _ D.jz.symm (e3.extBut _ _ D.vz.symm (e2.extBut _ _ D.iz.symm z1)))
  have k5:∀ c o,c ≠ z -> c ≠ V -> c ≠ i -> c ≠ j -> s.heap.get? c = some o -> g5.get? c = some o:=fun c o c1 c2 c3 c4 e=>e5.extBut _ _ c2 (e4.extBut _ _ c4 (to3 c o c1 c3 c2 e))
  have i5:SqI tp g5 i l (n + 1):=w2.at fun o e=>e5.extBut _ _ D.vi.symm (e4.extBut _ _ D.ij (e3.extBut _ _ D.vi.symm e))
  have j5:SqI tq g5 j m (n + 1):=w4.at fun o e=>e5.extBut _ _ D.vj.symm e
  have zlt:z < g5.objs.size:=Heap.lt_size z5
  show wpAny _ _ (Builtin.SmallTypes.ownedTupleHandOut (.ref z) (.ref g5.objs.size) >>= _) _ _ _
  refine wpAny_bind ?_
  unfold Builtin.SmallTypes.ownedTupleHandOut
  have z6:IsZip (g5.push { cls:=.type "tuple",data:=.seq #[x,y] }) z U V .ellipsis:=Heap.get?_push_of_some _ z5
  refine wpAny_bind (wpAny_setField_rec z6 (by simp) fun g7 z7 e7=>?_)
  replace z7:IsZip g7 z U V (rawInt g5.objs.size):=z7
  refine wpAny_setField_rec z7 (by simp) fun g8 z8 e8=>?_
  replace z8:IsZip g8 z U V (rawInt g5.objs.size):=z8
  have up:∀ c o,c ≠ z -> g5.get? c = some o -> g8.get? c = some o:=fun c o c1 e=>e8.extBut _ _ c1 (e7.extBut _ _ c1 (Heap.get?_push_of_some _ e))
  have t8:IsPair g8 g5.objs.size x y:=e8.extBut _ _ (Nat.ne_of_gt zlt) (e7.extBut _ _ (Nat.ne_of_gt zlt) (Heap.get?_push_size _ rfl))
  have s8:g8.objs.size = g5.objs.size + 1:=by rw [e8.1,e7.1,Heap.size_push]
  rw [sz] at z8 t8 s8
  refine wpAny_pure ⟨_,rfl,wpAny_pure ?_⟩
  show Q (some (.ref g5.objs.size)) _
  rw [sz]
  exact q g8 z8 (up _ _ D.vz v5) (i5.at fun o e=>up _ o D.iz e) (j5.at fun o e=>up _ o D.jz e) t8 s8 fun c o c1 c2 c3 c4 e=>up c o c1 (k5 c o c1 c2 c3 c4 e)
end
end Vc

set_option Elab.async false
set_option linter.all false
set_option maxRecDepth 100000

namespace Vc
open PySem L2
variable [KF]
noncomputable abbrev itN (tp:Bool):String:=if tp = true then "tuple_iterator" else "list_iterator"
noncomputable abbrev zA (tp:Bool) (h:Heap) (l:Addr):Heap:=h.push { cls:=.type (itN tp),data:=.fields #[.ref l,.int 0 0] }
noncomputable abbrev zB (tp tq:Bool) (h:Heap) (l m:Addr):Heap:=zA tq (zA tp h l) m
noncomputable abbrev zC (tp tq:Bool) (h:Heap) (l m:Addr):Heap:=(zB tp tq h l m).push { cls:=.type "tuple",data:=.seq #[.ref h.objs.size,.ref (zA tp h l).objs.size] }
noncomputable abbrev zD (tp tq:Bool) (h:Heap) (l m:Addr):Heap:=(zC tp tq h l m).push { cls:=.type "tuple",data:=.seq #[.none,.none] }
noncomputable abbrev zE (tp tq:Bool) (h:Heap) (l m:Addr):Heap:=(zD tp tq h l m).push { cls:=.type "zip",data:=.fields #[.none,.bool false,.bool false,.ref (zB tp tq h l m).objs.size,.ref (zC tp tq h l m).objs.size] }
set_option maxHeartbeats 4000000 in
theorem zip_made (tp tq:Bool) (l m:Addr) (xs ys:Array Value) :
    Meets (Builtin.«zip.__new__» ⟨[.type "zip",.ref l,.ref m],[]⟩) (fun _ R s=>SqA tp s.heap l xs /\ SqA tq s.heap m ys /\ R (.ok (.ret (.ref (zD tp tq s.heap l m).objs.size))) { s with heap:=zE tp tq s.heap l m }) :=
  .of_wp fun prog w A R s h=>by
    obtain ⟨hp,g,d,tk,os⟩:=s
    obtain ⟨hl,hm,h⟩:=h
    have sub:=sub_zip
    cases tp with
    | true =>
      have L1:Heap.IsTuple (Shared.heap ⟨hp,g,d,tk,os⟩) l xs:=hl
      cases tq with
      | true =>
        have L2:Heap.IsTuple (Shared.heap ⟨hp.push { cls:=.type "tuple_iterator",data:=.fields #[.ref l,.int 0 0] },g,d,tk,os⟩) m ys:=by
          obtain ⟨o,e,r⟩:=(show hp.IsTuple m ys from hm);exact ⟨o,Heap.get?_push_of_some _ e,r⟩
        wp_walk using wpAny_pyIter_tuple L1,wpAny_pyIter_tuple L2
        exact ⟨_,rfl,h⟩
      | false =>
        have L2:Heap.IsList (Shared.heap ⟨hp.push { cls:=.type "tuple_iterator",data:=.fields #[.ref l,.int 0 0] },g,d,tk,os⟩) m ys:=by
          obtain ⟨o,e,r⟩:=(show hp.IsList m ys from hm);exact ⟨o,Heap.get?_push_of_some _ e,r⟩
        wp_walk using wpAny_pyIter_tuple L1,wpAny_pyIter_list L2
        exact ⟨_,rfl,h⟩
    | false =>
      have L1:Heap.IsList (Shared.heap ⟨hp,g,d,tk,os⟩) l xs:=hl
      cases tq with
      | true =>
        have L2:Heap.IsTuple (Shared.heap ⟨hp.push { cls:=.type "list_iterator",data:=.fields #[.ref l,.int 0 0] },g,d,tk,os⟩) m ys:=by
          obtain ⟨o,e,r⟩:=(show hp.IsTuple m ys from hm);exact ⟨o,Heap.get?_push_of_some _ e,r⟩
        wp_walk using wpAny_pyIter_list L1,wpAny_pyIter_tuple L2
        exact ⟨_,rfl,h⟩
      | false =>
        have L2:Heap.IsList (Shared.heap ⟨hp.push { cls:=.type "list_iterator",data:=.fields #[.ref l,.int 0 0] },g,d,tk,os⟩) m ys:=by
          obtain ⟨o,e,r⟩:=(show hp.IsList m ys from hm);exact ⟨o,Heap.get?_push_of_some _ e,r⟩
        wp_walk using wpAny_pyIter_list L1,wpAny_pyIter_list L2
        exact ⟨_,rfl,h⟩
theorem sqi_new {tp:Bool} {h:Heap} {j a:Addr} (e:h.get? j = some { cls:=.type (itN tp),data:=.fields #[.ref a,.int 0 0] }):SqI tp h j a 0:=by
  cases tp with
  | true=>exact ⟨_,e,rfl,rfl⟩
  | false=>exact ⟨_,e,rfl,rfl⟩
section
variable {prog:Program} {w:World} {A:Around} {E:Value -> Shared -> Prop} {s:Shared}
theorem zip_call {tp tq:Bool} {l m:Addr} {xs ys:Array Value} {Q:Value -> Shared -> Prop} (hl:SqA tp s.heap l xs) (hm:SqA tq s.heap m ys)
    (q:∀ g,IsZip g (s.heap.objs.size + 4) (s.heap.objs.size + 2) (s.heap.objs.size + 3) .none -> IsPair g (s.heap.objs.size + 2) (.ref s.heap.objs.size) (.ref (s.heap.objs.size + 1)) -> IsPair g (s.heap.objs.size + 3) .none .none ->
      SqI tp g s.heap.objs.size l 0 -> SqI tq g (s.heap.objs.size + 1) m 0 -> (∀ c o,s.heap.get? c = some o -> g.get? c = some o) -> Q (.ref (s.heap.objs.size + 4)) { s with heap:=g }) :
    wpAny (model prog w) A (call (.type "zip") [.ref l,.ref m]) Q E s:=by
  refine callType_new F.called_zip (by decide) (F.typeCall_zip_2 _ _) (F.newCall_zip_2 _ _) (fun ob=>F.args_object_init_3 ob _ _) F.entry_zip_new (zip_made tp tq l m xs ys) ⟨hl,hm,?_⟩
  have n1:(zA tp s.heap l).objs.size = s.heap.objs.size + 1:=Heap.size_push ..
  have n2:(zB tp tq s.heap l m).objs.size = s.heap.objs.size + 2:=by rw [Heap.size_push,n1]
  have n3:(zC tp tq s.heap l m).objs.size = s.heap.objs.size + 3:=by rw [Heap.size_push,n2]
  have n4:(zD tp tq s.heap l m).objs.size = s.heap.objs.size + 4:=by rw [Heap.size_push,n3]
  have p5:(zE tp tq s.heap l m).get? (zD tp tq s.heap l m).objs.size = some _:=Heap.get?_push_size _ rfl
  have p4:(zE tp tq s.heap l m).get? (zC tp tq s.heap l m).objs.size = some _:=Heap.get?_push_of_some _ (Heap.get?_push_size _ rfl)
  have p3:(zE tp tq s.heap l m).get? (zB tp tq s.heap l m).objs.size = some _:=Heap.get?_push_of_some _ (Heap.get?_push_of_some _ (Heap.get?_push_size _ rfl))
  have p2:(zE tp tq s.heap l m).get? (zA tp s.heap l).objs.size = some _:=Heap.get?_push_of_some _ (Heap.get?_push_of_some _ (Heap.get?_push_of_some _ (Heap.get?_push_size _ rfl)))
  have p1:(zE tp tq s.heap l m).get? s.heap.objs.size = some _:=Heap.get?_push_of_some _ (Heap.get?_push_of_some _ (Heap.get?_push_of_some _ (Heap.get?_push_of_some _ (Heap.get?_push_size _ rfl))))
  show _ /\ _
  rw [n2,n3,n4] at p5
  rw [n1,n2] at p3
  rw [n3] at p4
  rw [n1] at p2
  rw [n4]
  refine ⟨⟨_,p5,rfl⟩,q _ p5 p3 p4 (sqi_new p1) (sqi_new p2) fun c o x=>?_⟩
  exact Heap.get?_push_of_some _ (Heap.get?_push_of_some _ (Heap.get?_push_of_some _ (Heap.get?_push_of_some _ (Heap.get?_push_of_some _ x))))
theorem zip_none {tp tq:Bool} {z U V i j l m:Addr} {n:Nat} {xs ys:Array Value} {a b:Value} {Q:Option Value -> Shared -> Prop} (hh:A.handled = none) (D:ZAp z U V i j) (lz:l ≠ z /\ l ≠ V /\ l ≠ i /\ l ≠ j) (mz:m ≠ z /\ m ≠ V /\ m ≠ i /\ m ≠ j)
    (hz:IsZip s.heap z U V .none) (hU:IsPair s.heap U (.ref i) (.ref j)) (hV:IsPair s.heap V a b) (h1:SqI tp s.heap i l n) (h2:SqI tq s.heap j m n) (hl:SqA tp s.heap l xs) (hm:SqA tq s.heap m ys) (hend:xs[n]? = none \/ ys[n]? = none)
    (q:∀ g,(∀ c o,c ≠ z -> c ≠ V -> c ≠ i -> c ≠ j -> s.heap.get? c = some o -> g.get? c = some o) -> Q none { s with heap:=g }):wpAny (model prog w) A (pyNext (.ref z)) Q E s:=by
  have hT:s.TypeIs (.ref z) "zip":=⟨_,hz,rfl⟩
  unfold pyNext
  refine wpAny_bind (wpAny_attempt (wpAny_callSpecial?_slot (name:=Str.ofString "__next__") hT F.slot_zip_next (wpAny_call_entry F.slot_zip_next hT F.entry_zip_next ?_ (F.args_zip_next_1 _))))
  show wpAny _ _ (field (.ref z) 2 >>= _) _ _ _
  refine wpAny_bind (wpAny_field hz rfl (x:=.bool false) rfl ?_)
  show wpAny _ _ (field (.ref z) 3 >>= _) _ _ _
  refine wpAny_bind (wpAny_field hz rfl (x:=.ref U) rfl (wpAny_bind (wpAny_seqItems hU rfl ?_)))
  show wpAny _ _ (Builtin.SmallTypes.ownedTupleIsFree (.ref z) >>= _) _ _ _
  refine wpAny_bind ?_
  unfold Builtin.SmallTypes.ownedTupleIsFree
  refine wpAny_bind (wpAny_field hz rfl (x:=.none) rfl (wpAny_pure ?_))
  simp only [if_true]
  refine wpAny_bind (wpAny_rule (wpAny_bind (wpAny_field hz rfl (x:=.ref V) rfl (wpAny_bind (wpAny_setField_rec hz (by simp) fun g1 z1 e1=>?_)))))
  replace z1:IsZip g1 z U V .ellipsis:=z1
  refine wpAny_bind ?_
  simp only [List.zipIdx_cons,List.zipIdx_nil,List.forIn_cons,List.forIn_nil]
  refine wpAny_bind (wpAny_bind (wpAny_onRaise ?_))
  show wpAny _ _ (Builtin.SmallTypes.nextOf (.ref i) >>= _) _ _ _
  cases hx:xs[n]? with
  | none =>
    refine wpAny_bind (draw_end (s:={ s with heap:=g1 }) hh (h1.at fun o e=>e1.extBut _ _ D.iz e) (hl.at fun o e=>e1.extBut _ _ lz.1 e) hx fun g2 e x2 he=>?_)
    obtain ⟨oe,he1,he2⟩:=he
    have z2:IsZip g2 z U V .ellipsis:=x2 _ _ D.iz.symm z1
    have ez:e ≠ z:=fun x=>by subst x;rw [z2] at he1;cases he1;simp at he2
    refine wpAny_setField_rec z2 (by simp) fun g3 _ e3=>?_
    refine wpAny_bind (wpAny_isInstance (T:="StopIteration") (b:=true) ⟨oe,e3.extBut _ _ ez he1,he2⟩ isSubtype_stop (wpAny_pure (q _ fun c o c1 _ c3 _ x=>?_)))
    exact e3.extBut _ _ c1 (x2 _ _ c3 (e1.extBut _ _ c1 x))
  | some x =>
    have hy:ys[n]? = none:=by
      rcases hend with h | h
      · rw [hx] at h;cases h
      · exact h
    refine wpAny_bind (draw (s:={ s with heap:=g1 }) (h1.at fun o e=>e1.extBut _ _ D.iz e) (hl.at fun o e=>e1.extBut _ _ lz.1 e) hx fun g2 w2 e2=>wpAny_pure ?_)
    have v2:IsPair g2 V a b:=e2.extBut _ _ D.vi (e1.extBut _ _ D.vz hV)
    refine wpAny_bind (wpAny_seqItems v2 rfl (wpAny_bind (wpAny_updateSeq_pair v2 fun g3 v3 e3=>?_)))
    refine wpAny_bind (wpAny_letGo (wpAny_pure (wpAny_bind (wpAny_bind (wpAny_onRaise ?_)))))
    show wpAny _ _ (Builtin.SmallTypes.nextOf (.ref j) >>= _) _ _ _
    have to3:∀ c o,c ≠ z -> c ≠ i -> c ≠ V -> s.heap.get? c = some o -> g3.get? c = some o:=fun c o c1 c2 c3 e=>e3.extBut _ _ c3 (e2.extBut _ _ c2 (e1.extBut _ _ c1 e))
    refine wpAny_bind (draw_end (s:={ s with heap:=g3 }) hh (h2.at fun o e=>to3 j o D.jz D.ij.symm D.vj.symm e) (hm.at fun o e=>to3 m o mz.1 mz.2.2.1 mz.2.1 e) hy fun g4 e x4 he=>?_)
    obtain ⟨oe,he1,he2⟩:=he
    have z4:IsZip g4 z U V .ellipsis:=x4 _ _ D.jz.symm (e3.extBut _ _ D.vz.symm (e2.extBut _ _ D.iz.symm z1))
    have ez:e ≠ z:=fun x=>by subst x;rw [z4] at he1;cases he1;simp at he2
    refine wpAny_setField_rec z4 (by simp) fun g5 _ e5=>?_
    refine wpAny_bind (wpAny_isInstance (T:="StopIteration") (b:=true) ⟨oe,e5.extBut _ _ ez he1,he2⟩ isSubtype_stop (wpAny_pure (q _ fun c o c1 c2 c3 c4 x=>?_)))
    exact e5.extBut _ _ c1 (x4 _ _ c4 (to3 c o c1 c3 c2 x))
end
end Vc

set_option Elab.async false
set_option linter.all false
set_option maxRecDepth 100000

namespace Vc
open PySem L2
variable [KF]
section
variable {X:Cx} {pins:List (Addr × Obj)} {σ:St} {H:Hp} {s:Shared}
theorem turnLay (I:L2.Inv X pins σ H s) {ch:List Addr} (hf:∀ b ∈ ch,FpOk X pins H b) {h':Heap} {t':Nat} (kp:∀ b o,b ∉ ch -> s.heap.get? b = some o -> h'.get? b = some o) {T:Addr} {o:HO} (hT:s.heap.objs.size <= T) (new:ObjOk X.prog X.w (upd H T o) h' T o) :
    L2.Inv X pins σ (upd H T o) { s with heap:=h',toks:=t' }:=by
  have ltT:∀ {b u},s.heap.get? b = some u -> b ≠ T:=fun e=>Nat.ne_of_lt (Nat.lt_of_lt_of_le (Heap.lt_size e) hT)
  have trT:∀ {b u},H b = some u -> b ≠ T:=fun e=>Nat.ne_of_lt (Nat.lt_of_lt_of_le (I.hok.lt e) hT)
  have nch:∀ {b u},H b = some u -> b ∉ ch:=fun {b u} e z=>by rw [(hf b z).1] at e;cases e
  refine I.step (g':=s.gens) (d':=s.drawn) (ch:=ch) (fun b hb=>?_) (fun b u _ _ hc e _=>kp b u hc e) (fun b u _ _ hc e _=>⟨u.slots,kp b u hc e⟩) (fun b u hc e n=>by rw [upd_ne (ltT e)];exact n) (fun b u hc e=>⟨u,kp b u hc e⟩)
    (fun b xs e=>by rw [upd_ne (trT e)];exact e) (fun b u w e=>by rw [upd_ne (trT e)];exact e) (fun b ps e=>⟨#[],by rw [upd_ne (trT e),e];simp⟩) (fun m hm=>?_) (fun b u e=>?_) I.bare
  · obtain ⟨f0,f1,f2,f3,f4,f5⟩:=hf b hb
    exact ⟨f3.imp id fun z=>Heap.get?_none_of_le z,f1,f4,f5⟩
  · obtain ⟨ob,es,ep,ho,r⟩:=hm
    refine ⟨ob,es,ep,kp _ ob (fun z=>?_) ho,r⟩
    exact (hf _ z).2.1 rfl
  · by_cases hb:b = T
    · subst hb;rw [upd_same] at e;cases e;exact new
    · rw [upd_ne hb] at e
      refine (I.hok b u e).stay (fun c v hc q=>?_) (fun c q=>by rw [upd_ne (trT q)];exact q) (fun c xs q=>by rw [upd_ne (trT q)];exact q) fun c o u q=>by rw [upd_ne (trT q)];exact q
      rcases hc with z | z
      · subst z;exact kp _ v (nch e) q
      · exact kp _ v (nch z) q
theorem turnAll (I:L2.Inv X pins σ H s) {ch:List Addr} (hf:∀ b ∈ ch,FpOk X pins H b) {h':Heap} {t':Nat} (kp:∀ b o,b ∉ ch -> s.heap.get? b = some o -> h'.get? b = some o):L2.Inv X pins σ H { s with heap:=h',toks:=t' }:=by
  have nch:∀ {b u},H b = some u -> b ∉ ch:=fun {b u} e z=>by rw [(hf b z).1] at e;cases e
  refine I.step (g':=s.gens) (d':=s.drawn) (ch:=ch) (fun b hb=>?_) (fun b u _ _ hc e _=>kp b u hc e) (fun b u _ _ hc e _=>⟨u.slots,kp b u hc e⟩) (fun b u hc e n=>n) (fun b u hc e=>⟨u,kp b u hc e⟩)
    (fun b xs e=>e) (fun b u w e=>e) (fun b ps e=>⟨#[],by rw [e];simp⟩) (fun m hm=>?_) (fun b u e=>?_) I.bare
  · obtain ⟨f0,f1,f2,f3,f4,f5⟩:=hf b hb
    exact ⟨f3.imp id fun z=>Heap.get?_none_of_le z,f1,f4,f5⟩
  · obtain ⟨ob,es,ep,ho,r⟩:=hm
    refine ⟨ob,es,ep,kp _ ob (fun z=>?_) ho,r⟩
    exact (hf _ z).2.1 rfl
  · refine (I.hok b u e).stay (fun c v hc q=>?_) (fun c q=>q) fun c xs q=>q
    rcases hc with z | z
    · subst z;exact kp _ v (nch e) q
    · exact kp _ v (nch z) q
end
noncomputable def Sq (tp:Bool) (K:PySem.W.Frag) (H:Hp) (a:Addr) (xs:List V):Prop:=if tp = true then SqT K H a xs else SqL K H a xs
theorem Sq.is {tp:Bool} {X:Cx} {pins:List (Addr × Obj)} {σ:St} {H:Hp} {s:Shared} {a:Addr} {xs:List V} (I:L2.Inv X pins σ H s) (h:Sq tp X.K H a xs):∃ its:List Value,Vals xs its /\ SqA tp s.heap a its.toArray /\ a < s.heap.objs.size:=by
  cases tp with
  | true =>
    obtain ⟨its,r,p,_⟩:=I.tuple (show SqT X.K H a xs from h)
    exact ⟨its,r,p,by obtain ⟨o,e,_⟩:=p;exact Heap.lt_size e⟩
  | false =>
    obtain ⟨its,r,p,_⟩:=I.list (show SqL X.K H a xs from h)
    exact ⟨its,r,p.isList,p.lt⟩
theorem Sq.inj {tp:Bool} {X:Cx} {pins:List (Addr × Obj)} {σ:St} {H:Hp} {s:Shared} {a:Addr} {xs ys:List V} (I:L2.Inv X pins σ H s) (h:Sq tp X.K H a xs) (h':Sq tp X.K H a ys):xs = ys:=by
  cases tp with
  | true=>exact I.tuple_inj h h'
  | false=>exact I.list_inj h h'
noncomputable def Itz (tp tq:Bool) (K:PySem.W.Frag) (l m:Addr):It :=
  ⟨fun n H=>∃ xs ys x y,Sq tp K H l xs /\ Sq tq K H m ys /\ xs[n]? = some x /\ ys[n]? = some y,
   fun n H v H'=>∃ p x y,H p = none /\ v = .ref p /\ H' = upd H p (.tup [x,y]) /\ (∀ xs,Sq tp K H l xs -> xs[n]? = some x) /\ ∀ ys,Sq tq K H m ys -> ys[n]? = some y,
   fun n H=>∃ xs ys,Sq tp K H l xs /\ Sq tq K H m ys /\ (xs.length <= n \/ ys.length <= n)⟩
theorem turn_zip {P:Program} {w:World} {K:PySem.W.Frag} {elts:List Expr} {kk:Nat} {tpos:Pos} (tp tq:Bool) (z U V i j l m:Addr) (D:ZAp z U V i j) (lz:l ≠ z /\ l ≠ V /\ l ≠ i /\ l ≠ j) (mz:m ≠ z /\ m ≠ V /\ m ≠ i /\ m ≠ j) :
    Turn P w K (.Tuple elts kk tpos) (Itz tp tq K l m) [z,U,V,i,j] z (fun n h=>IsZip h z U V .none /\ IsPair h U (.ref i) (.ref j) /\ (∃ a b,IsPair h V a b) /\ SqI tp h i l n /\ SqI tq h j m n) where
  mem:=by simp
  obj:=fun n h st b hb=>by
    obtain ⟨h1,h2,⟨a,c,h3⟩,h4,h5⟩:=st
    simp only [List.mem_cons,List.not_mem_nil,or_false] at hb
    rcases hb with rfl | rfl | rfl | rfl | rfl
    · exact ⟨_,h1,fun v q=>by cases q⟩
    · exact ⟨_,h2,fun v q=>by cases q⟩
    · exact ⟨_,h3,fun v q=>by cases q⟩
    · exact h4.live
    · exact h5.live
  keep:=fun n h h' st kp=>by
    obtain ⟨h1,h2,⟨a,c,h3⟩,h4,h5⟩:=st
    exact ⟨kp z (by simp) _ h1,kp U (by simp) _ h2,⟨a,c,kp V (by simp) _ h3⟩,h4.at fun o e=>kp i (by simp) o e,h5.at fun o e=>kp j (by simp) o e⟩
  item:=by
    intro X hP hw hK hc n pins s σ H E I hf st hg
    subst hP hw hK
    obtain ⟨h1,h2,⟨a,c,h3⟩,h4,h5⟩:=st
    obtain ⟨xs,ys,x,y,q1,q2,e1,e2⟩:=hg
    obtain ⟨its,r1,p1,_⟩:=q1.is I
    obtain ⟨jts,r2,p2,_⟩:=q2.is I
    obtain ⟨u,hu,ru⟩:=r1.get e1
    obtain ⟨v,hv,rv⟩:=r2.get e2
    refine zip_one D lz mz h1 h2 h3 h4 h5 p1 p2 (x:=u) (y:=v) (by simpa using hu) (by simpa using hv) fun g z1 v1 i1 j1 t1 s1 k1=>⟨_,rfl,?_⟩
    refine wpAny_letOwnedTupleGo_zip z1 fun g' z2 e2'=>?_
    have kp:∀ b o,b ∉ [z,V,i,j] -> s.heap.get? b = some o -> g'.get? b = some o:=fun b o hb e=>by
      simp only [List.mem_cons,List.not_mem_nil,or_false,not_or] at hb
      exact e2'.extBut _ _ hb.1 (k1 b o hb.1 hb.2.1 hb.2.2.1 hb.2.2.2 e)
    have zT:s.heap.objs.size ≠ z:=Nat.ne_of_gt (Heap.lt_size h1)
    have hf':∀ b ∈ [z,V,i,j],FpOk X pins H b:=fun b hb=>hf b (by
      simp only [List.mem_cons,List.not_mem_nil,or_false] at hb ⊢
      rcases hb with e | e | e | e<;>simp [e])
    have t2:IsPair g' s.heap.objs.size u v:=e2'.extBut _ _ zT t1
    have I':=turnLay (t':=s.toks) (o:=.tup [x,y]) I hf' kp (Nat.le_refl _) ⟨by show 2 <= sizeLine;decide,[u,v],.cons ru (.cons rv .nil),⟨_,t2,rfl,_,rfl⟩⟩
    have hfr:H s.heap.objs.size = none:=I.hok.fresh (Nat.le_refl _)
    refine ⟨.ref s.heap.objs.size,upd H s.heap.objs.size (.tup [x,y]),I',rfl,⟨_,x,y,hfr,rfl,rfl,fun zs hz=>by rw [hz.inj I q1];exact e1,fun zs hz=>by rw [hz.inj I q2];exact e2⟩,⟨z2,e2'.extBut _ _ D.uz (k1 _ _ D.uz D.uv D.ui D.uj h2),⟨u,v,e2'.extBut _ _ D.vz v1⟩,i1.at fun o e=>e2'.extBut _ _ D.iz e,j1.at fun o e=>e2'.extBut _ _ D.jz e⟩,fun b hb=>?_⟩
    have hb':=(hf b hb).1
    have:b ≠ s.heap.objs.size:=by
      obtain ⟨o,e,_⟩:∃ o,s.heap.get? b = some o /\ True:=by
        simp only [List.mem_cons,List.not_mem_nil,or_false] at hb
        rcases hb with rfl | rfl | rfl | rfl | rfl
        · exact ⟨_,h1,trivial⟩
        · exact ⟨_,h2,trivial⟩
        · exact ⟨_,h3,trivial⟩
        · obtain ⟨o,e,_⟩:=h4.live;exact ⟨o,e,trivial⟩
        · obtain ⟨o,e,_⟩:=h5.live;exact ⟨o,e,trivial⟩
      exact Nat.ne_of_lt (Heap.lt_size e)
    rw [upd_ne this];exact hb'
  done:=by
    intro X hP hw hK hc n pins s σ H E I hf st hg
    subst hP hw hK
    obtain ⟨h1,h2,⟨a,c,h3⟩,h4,h5⟩:=st
    obtain ⟨xs,ys,q1,q2,hl⟩:=hg
    obtain ⟨its,r1,p1,_⟩:=q1.is I
    obtain ⟨jts,r2,p2,_⟩:=q2.is I
    have n1:=r1.length
    have n2:=r2.length
    refine zip_none (I.ok.hd hc) D lz mz h1 h2 h3 h4 h5 p1 p2 (hl.imp (fun q=>by simp;omega) fun q=>by simp;omega) fun g k1=>⟨rfl,?_⟩
    refine turnAll (t':=s.toks) (ch:=[z,V,i,j]) I (fun b hb=>hf b ?_) fun b o hb e=>?_
    · simp only [List.mem_cons,List.not_mem_nil,or_false] at hb ⊢
      rcases hb with e | e | e | e<;>simp [e]
    · simp only [List.mem_cons,List.not_mem_nil,or_false,not_or] at hb
      exact k1 b o hb.1 hb.2.1 hb.2.2.1 hb.2.2.2 e
  self:=fun _ _ _ _ _ st h=>wpAny_pyIter_zip st.1 h
theorem zap_new (n:Nat):ZAp (n + 4) (n + 2) (n + 3) n (n + 1) :=
  ⟨show (n + 2:Nat) ≠ n + 4 by omega,show (n + 3:Nat) ≠ n + 4 by omega,show (n:Nat) ≠ n + 4 by omega,show (n + 1:Nat) ≠ n + 4 by omega,show (n + 2:Nat) ≠ n + 3 by omega,
   show (n + 2:Nat) ≠ n by omega,show (n + 2:Nat) ≠ n + 1 by omega,show (n + 3:Nat) ≠ n by omega,show (n + 3:Nat) ≠ n + 1 by omega,show (n:Nat) ≠ n + 1 by omega⟩
theorem below_new {l n:Nat} (h:l < n):l ≠ n + 4 /\ l ≠ n + 3 /\ l ≠ n /\ l ≠ n + 1:=by omega
noncomputable def iZip (K:PySem.W.Frag) (ta:TA):TI:=fun σ H R=>ta σ H fun vs H1=>∃ tp tq l m xs ys,vs = [.ref l,.ref m] /\ Sq tp K H1 l xs /\ Sq tq K H1 m ys /\ R (Itz tp tq K l m) H1
theorem pi_zip {X:Cx} {elts:List Expr} {kk:Nat} {tpos:Pos} {a b:Expr} {ta:TA} {p pos:Pos} (hg:Gl X "zip") (hm:X.mg "zip" = none) (ha:PA X [a,b] ta) (hs:starEach [a,b] X.env = [(false,eval a X.env),(false,eval b X.env)]) (hs2:starEach [b] X.env = [(false,eval b X.env)]) :
    PI X (.Tuple elts kk tpos) (.Call (.Name "zip" p) [a,b] [] pos) (iZip X.K ta):=by
  intro pins s σ H R I h
  refine PyProof.Rows.Call_ (ld_blt I hg hm PyProof.Rows.boot_zip (PyProof.Rows.callWith_type1 (thn (ha pos pins s σ H _ I h) fun us s1 ⟨vs,H1,I1,r1,q1⟩=>?_) (by rw [hs,hs2]) (by rw [hs2];rfl)))
  obtain ⟨tp,tq,l,m,xs,ys,e,q1,q2,q⟩:=q1
  subst e
  obtain ⟨u,v,rfl,ru,rv⟩:=vals2 r1
  cases ru
  cases rv
  obtain ⟨its,_,p1,ll⟩:=q1.is I1
  obtain ⟨jts,_,p2,lm⟩:=q2.is I1
  refine zip_call p1 p2 fun g z1 u1 v1 i1 j1 k1=>?_
  refine wpAny_pyIter_zip z1 ?_
  have N:∀ n:Nat,s1.heap.objs.size <= s1.heap.objs.size + n:=fun n=>Nat.le_add_right _ _
  refine ⟨s1.heap.objs.size + 4,[s1.heap.objs.size + 4,s1.heap.objs.size + 2,s1.heap.objs.size + 3,s1.heap.objs.size,s1.heap.objs.size + 1],_,_,H1,rfl,I1.kept (t':=s1.toks) k1,
    turn_zip tp tq _ _ _ _ _ l m (zap_new _) (below_new ll) (below_new lm),⟨z1,u1,⟨_,_,v1⟩,i1,j1⟩,fun b hb=>?_,q⟩
  have hb':s1.heap.objs.size <= b:=by
    simp only [List.mem_cons,List.not_mem_nil,or_false] at hb
    rcases hb with rfl | rfl | rfl | rfl | rfl
    · exact N 4
    · exact N 2
    · exact N 3
    · exact N 0
    · exact N 1
  exact I1.fpOk hb' (I1.hok.fresh hb')
end Vc

set_option Elab.async false
set_option linter.all false
set_option maxRecDepth 100000

namespace Vc
open PySem L2
variable [KF]
theorem draws_sq {prog:Program} {w:World} {A:Around} (hh:A.handled = none) (tp:Bool) (j a:Addr) (hne:a ≠ j) (xs:Array Value) :
    Draws prog w A j [j,a] xs.size (fun i v=>xs[i]? = some v) (fun i h=>SqI tp h j a i /\ SqA tp h a xs) where
  live:=fun _ _ st=>let ⟨o,e,_⟩:=st.1.live;⟨o,e⟩
  frame:=fun _ _ _ st kp=>⟨st.1.at fun o e=>kp j (by simp) o e,st.2.at fun o e=>kp a (by simp) o e⟩
  item:=fun i s Q E hi st q=>by
    refine draw st.1 st.2 (x:=xs[i]) (by simp [hi]) fun g w1 e1=>?_
    exact q _ g s.toks (by simp [hi]) ⟨w1,st.2.at fun o e=>e1.extBut _ _ hne e⟩ e1
  done:=fun s Q E st q=>draw_end hh st.1 st.2 (by simp) q
noncomputable def Ite (tp:Bool) (K:PySem.W.Frag) (a:Addr):It :=
  ⟨fun n H=>∃ xs x,Sq tp K H a xs /\ xs[n]? = some x,fun n H v H'=>∃ p x,H p = none /\ v = .ref p /\ H' = upd H p (.tup [.int n,x]) /\ ∀ xs,Sq tp K H a xs -> xs[n]? = some x,fun n H=>∃ xs,Sq tp K H a xs /\ xs.length = n⟩
theorem turn_enum {P:Program} {w:World} {K:PySem.W.Frag} {elts:List Expr} {kk:Nat} {tpos:Pos} (tp:Bool) (e j a:Addr) (ej:e ≠ j) (ae:a ≠ e) (aj:a ≠ j) :
    Turn P w K (.Tuple elts kk tpos) (Ite tp K a) [e,j] e (fun n h=>(∃ old,IsEnum h e j n old) /\ SqI tp h j a n) where
  mem:=by simp
  obj:=fun n h st b hb=>by
    obtain ⟨⟨old,h1⟩,h2⟩:=st
    simp only [List.mem_cons,List.not_mem_nil,or_false] at hb
    rcases hb with rfl | rfl
    · exact ⟨_,h1,fun v q=>by cases q⟩
    · exact h2.live
  keep:=fun n h h' st kp=>by
    obtain ⟨⟨old,h1⟩,h2⟩:=st
    exact ⟨⟨old,kp e (by simp) _ h1⟩,h2.at fun o q=>kp j (by simp) o q⟩
  item:=by
    intro X hP hw hK hc n pins s σ H E I hf st hg
    subst hP hw hK
    obtain ⟨⟨old,h1⟩,h2⟩:=st
    obtain ⟨xs,x,q1,e1⟩:=hg
    obtain ⟨its,r1,p1,_⟩:=q1.is I
    obtain ⟨u,hu,ru⟩:=r1.get e1
    have hn:n < its.toArray.size:=by
      have:=(List.getElem?_eq_some_iff.mp hu).1
      simpa using this
    have Dr:=draws_sq (prog:=X.prog) (w:=X.w) (A:=X.A.in1) (show X.A.in1.handled = none from I.ok.hd hc) tp j a aj its.toArray
    refine wpAny_pyNext_enum_itemD Dr h1 ⟨h2,p1⟩ hn ej (by simp only [List.mem_cons,List.not_mem_nil,or_false,not_or];exact ⟨ej,ae.symm⟩) fun x' g tk hx' ho st' t1 s1 k1=>⟨_,rfl,?_⟩
    have hxu:x' = u:=by
      have:its.toArray[n]? = some u:=by simpa using hu
      rw [this] at hx';exact (Option.some.inj hx').symm
    subst hxu
    refine wpAny_letOwnedTupleGo_enum ho fun g' he' es'=>?_
    have kp:∀ b o,b ∉ [e,j] -> s.heap.get? b = some o -> g'.get? b = some o:=fun b o hb q=>by
      simp only [List.mem_cons,List.not_mem_nil,or_false,not_or] at hb
      exact es'.extBut _ _ hb.1 (k1 b o hb.1 hb.2 q)
    have eT:s.heap.objs.size ≠ e:=Nat.ne_of_gt (Heap.lt_size h1)
    have t2:=es'.extBut _ _ eT t1
    have I':=turnLay (t':=tk + 1) (o:=.tup [.int n,x]) I hf kp (Nat.le_refl _) ⟨by show 2 <= sizeLine;decide,[.int n tk,x'],.cons ⟨tk,rfl⟩ (.cons ru .nil),⟨_,t2,rfl,_,rfl⟩⟩
    have hfr:H s.heap.objs.size = none:=I.hok.fresh (Nat.le_refl _)
    refine ⟨.ref s.heap.objs.size,upd H s.heap.objs.size (.tup [.int n,x]),I',rfl,⟨_,x,hfr,rfl,rfl,fun zs hz=>by rw [hz.inj I q1];exact e1⟩,⟨⟨x',by simpa using he'⟩,st'.1.at fun o q=>es'.extBut _ _ ej.symm q⟩,fun b hb=>?_⟩
    have hb':=(hf b hb).1
    have:b ≠ s.heap.objs.size:=by
      simp only [List.mem_cons,List.not_mem_nil,or_false] at hb
      rcases hb with rfl | rfl
      · exact eT.symm
      · obtain ⟨o,q,_⟩:=h2.live;exact Nat.ne_of_lt (Heap.lt_size q)
    rw [upd_ne this];exact hb'
  done:=by
    intro X hP hw hK hc n pins s σ H E I hf st hg
    subst hP hw hK
    obtain ⟨⟨old,h1⟩,h2⟩:=st
    obtain ⟨xs,q1,hl⟩:=hg
    obtain ⟨its,r1,p1,_⟩:=q1.is I
    have n1:=r1.length
    have Dr:=draws_sq (prog:=X.prog) (w:=X.w) (A:=X.A.in1) (show X.A.in1.handled = none from I.ok.hd hc) tp j a aj its.toArray
    have hn:its.toArray.size = n:=by rw [List.size_toArray,<- n1,hl]
    rw [hn] at Dr
    refine wpAny_pyNext_enum_endD Dr h1 ⟨h2,p1⟩ fun g x1=>⟨rfl,?_⟩
    refine turnAll (t':=s.toks) (ch:=[e,j]) I hf fun b o hb q=>?_
    simp only [List.mem_cons,List.not_mem_nil,or_false,not_or] at hb
    exact x1 b o hb.2 q
  self:=fun _ _ _ _ _ st h=>by
    obtain ⟨⟨old,h1⟩,_⟩:=st
    exact wpAny_pyIter_enum h1 h
variable {G:GE} {k:Nat} {S:Stat}
noncomputable def sq?:D -> Option (List D)
  | .lst xs=>some xs
  | .tup xs=>some xs
  | _=>none
noncomputable def zipD (xs ys:List D):List D:=(xs.zip ys).map fun p=>.tup [p.1,p.2]
noncomputable def enumD (xs:List D):List D:=xs.mapIdx fun i x=>.tup [.int i,x]
noncomputable def tZip (t:TDs):TDs:=fun σ Q=>t σ fun ds σ1=>match ds with
  | [a,b]=>match sq? a,sq? b with
    | some xs,some ys=>Q (zipD xs ys) σ1
    | _,_=>False
  | _=>False
theorem Rep.sq {F:Hp} {v:V} {d:D} {xs:List D} (r:Rep F v d) (e:sq? d = some xs) (K:PySem.W.Frag):∃ tp a vs,v = .ref a /\ (∀ H,Same F H -> Sq tp K H a vs) /\ RepL F vs xs:=by
  cases d with
  | lst ys =>
    cases e
    cases r with
    | lst h r=>exact ⟨false,_,_,rfl,fun H s=>(show SqL K H _ _ from .inl (Rd.mono s h)),r⟩
  | tup ys =>
    cases e
    cases r with
    | tup h r=>exact ⟨true,_,_,rfl,fun H s=>(show SqT K H _ _ from .of (s _ _ h)),r⟩
  | _=>cases e
theorem zipD_get {xs ys:List D} {i:Nat} {d:D} (h:(zipD xs ys)[i]? = some d):∃ x y,xs[i]? = some x /\ ys[i]? = some y /\ d = .tup [x,y]:=by
  unfold zipD at h
  rw [List.getElem?_map] at h
  cases e:(xs.zip ys)[i]? with
  | none=>rw [e] at h;cases h
  | some p =>
    rw [e] at h
    obtain ⟨e1,e2⟩:=List.getElem?_zip_eq_some.mp e
    exact ⟨p.1,p.2,e1,e2,(Option.some.inj h).symm⟩
theorem itz_rep {K:PySem.W.Frag} {F:Hp} {tp tq:Bool} {l m:Addr} {vs us:List V} {xs ys:List D} (h1:∀ H,Same F H -> Sq tp K H l vs) (h2:∀ H,Same F H -> Sq tq K H m us) (r1:RepL F vs xs) (r2:RepL F us ys):ItRep F (Itz tp tq K l m) (zipD xs ys):=fun F1 H1 s1 s2 i=>by
  have a1:=h1 H1 (s1.trans s2)
  have a2:=h2 H1 (s1.trans s2)
  refine ⟨fun d e=>?_,fun hl=>⟨vs,us,a1,a2,?_⟩⟩
  · obtain ⟨x,y,e1,e2,rfl⟩:=zipD_get e
    obtain ⟨v,w1,q1⟩:=r1.get e1
    obtain ⟨u,w2,q2⟩:=r2.get e2
    refine ⟨⟨vs,us,v,u,a1,a2,w1,w2⟩,fun z H2 yl=>?_⟩
    obtain ⟨p,v',u',hp,rfl,rfl,f1,f2⟩:=yl
    have e1':=f1 vs a1
    have e2':=f2 us a2
    rw [w1] at e1';cases e1'
    rw [w2] at e2';cases e2'
    have sm:=same_alloc (o:=.tup [v,u]) (same_none s2 hp)
    exact ⟨upd F1 p (.tup [v,u]),.inr ⟨p,_,hp,rfl,rfl⟩,.tup upd_same (.cons ((q1.mono s1).mono sm) (.cons ((q2.mono s1).mono sm) .nil))⟩
  · have:(zipD xs ys).length = min xs.length ys.length:=by unfold zipD;simp
    have n1:=r1.length
    have n2:=r2.length
    omega
theorem i_zip {elts:List Expr} {kk:Nat} {tpos:Pos} {a b:Expr} {t:TDs} {p pos:Pos} (h:EDs G k S [a,b] t) (hm:G.mg "zip" = none) (hg:S.sc.lookup ("zip":Str) = some .globalImplicit:=by rfl) (hs:∀ env,starEach [a,b] env = [(false,eval a env),(false,eval b env)]:=by intro _;rfl) (hs2:∀ env,starEach [b] env = [(false,eval b env)]:=by intro _;rfl) :
    EI G k S (.Tuple elts kk tpos) (.Call (.Name "zip" p) [a,b] [] pos) (tZip t):=.mk fun X Y ok=>pi_imp (pi_zip (gl_of ok hg) (by rw [ok.mg];exact hm) (h X Y ok) (hs _) (hs2 _)) fun σ H Q q=>by
  obtain ⟨F,σd,Qd,R,q,K⟩:=q
  refine ⟨F,σd,_,R,q,fun vs H1 F1 ds σ1 s1 R1 r1 q1=>?_⟩
  split at q1
  · rename_i x y
    split at q1
    · rename_i xs ys ex ey
      cases r1 with
      | cons rx r1 =>
        cases r1 with
        | cons ry r1 =>
          cases r1
          obtain ⟨tp,l,us,rfl,a1,b1⟩:=rx.sq ex X.K
          obtain ⟨tq,m,ws,rfl,a2,b2⟩:=ry.sq ey X.K
          exact ⟨tp,tq,l,m,us,ws,rfl,a1 H1 R1.fr,a2 H1 R1.fr,K H1 F1 σ1 _ _ s1 R1 (itz_rep a1 a2 b1 b2) q1⟩
    · exact q1.elim
  · exact q1.elim
theorem ite_rep {K:PySem.W.Frag} {F:Hp} {tp:Bool} {l:Addr} {vs:List V} {xs:List D} (h1:∀ H,Same F H -> Sq tp K H l vs) (r1:RepL F vs xs):ItRep F (Ite tp K l) (enumD xs):=fun F1 H1 s1 s2 i=>by
  have a1:=h1 H1 (s1.trans s2)
  refine ⟨fun d e=>?_,fun hl=>⟨vs,a1,?_⟩⟩
  · unfold enumD at e
    rw [List.getElem?_mapIdx] at e
    cases ex:xs[i]? with
    | none=>rw [ex] at e;cases e
    | some x =>
      rw [ex] at e
      cases e
      obtain ⟨v,w1,q1⟩:=r1.get ex
      refine ⟨⟨vs,v,a1,w1⟩,fun z H2 yl=>?_⟩
      obtain ⟨p,v',hp,rfl,rfl,f1⟩:=yl
      have e1':=f1 vs a1
      rw [w1] at e1';cases e1'
      have sm:=same_alloc (o:=.tup [.int i,v]) (same_none s2 hp)
      exact ⟨upd F1 p (.tup [.int i,v]),.inr ⟨p,_,hp,rfl,rfl⟩,.tup upd_same (.cons (.int _) (.cons ((q1.mono s1).mono sm) .nil))⟩
  · rw [r1.length,hl];unfold enumD;simp
end Vc

set_option Elab.async false
set_option linter.all false
set_option maxRecDepth 100000

namespace Vc
open PySem L2
variable [KF]
section
variable {prog:Program} {w:World} {A:Around} {R:Result -> Shared -> Prop}
noncomputable def bestI (bt:Nat -> Nat -> Bool):Nat -> Nat
  | 0=>0
  | n + 1=>if bt (n + 1) (bestI bt n) = true then n + 1 else bestI bt n
noncomputable def CmpIn (prog:Program) (w:World) (A:Around) (op:CmpOp) (h0:Heap) (its:Array Value) (bt:Nat -> Nat -> Bool):Prop :=
  ∀ (i j:Nat) (x y:Value) (s:Shared) (Q:Value -> Shared -> Prop) (E:Value -> Shared -> Prop),its[i]? = some x -> its[j]? = some y -> (∀ b o,h0.get? b = some o -> s.heap.get? b = some o) -> Q (.bool (bt i j)) s -> wpAny (model prog w) A (richCompare op x y) Q E s
theorem min_on {h0:Heap} {its:Array Value} {bt:Nat -> Nat -> Bool} (hh:A.handled = none) (hc:CmpIn prog w A.in1 .Lt h0 its bt) {I l S:Addr} (hl0:h0.IsList l its) (IS:I ≠ S) (n0:h0.get? I = none) (n1:h0.get? S = none) (kw:List (Str × Value)) :
    ∀ (d j:Nat) (s:Shared) (v:Value) (c:Nat),its.size - (j + 1) = d -> j + 1 <= its.size -> s.heap.IsListIter I l (j + 1) -> its[bestI bt j]? = some v -> s.heap.get? S = some { cls:=.type "list",dict:=none,data:=.seq #[v,v] c,slots:=#[] } ->
    (∀ b o,h0.get? b = some o -> s.heap.get? b = some o) ->
    (∀ v g tk,its[bestI bt (its.size - 1)]? = some v -> (∀ b o,h0.get? b = some o -> g.get? b = some o) -> R (.ok (.ret v)) { s with heap:=g,toks:=tk }) ->
    codeAny (model prog w) A (.builtin "min.loop" ⟨[.ref I,.none,.ref S],kw⟩) R s:=by
  have nm:(toString "min" ++ toString ".loop":String) = "min.loop":=by decide
  have lI:l ≠ I:=fun z=>by obtain ⟨o,e,_⟩:=hl0;rw [z,n0] at e;cases e
  have lS:l ≠ S:=fun z=>by obtain ⟨o,e,_⟩:=hl0;rw [z,n1] at e;cases e
  have nI:∀ {b o},h0.get? b = some o -> b ≠ I:=fun e z=>by rw [z,n0] at e;cases e
  have nS:∀ {b o},h0.get? b = some o -> b ≠ S:=fun e z=>by rw [z,n1] at e;cases e
  intro d
  induction d with
  | zero =>
    intro j s v c hd hj hI hv hS k0 hR
    have e1:j + 1 = its.size:=by omega
    have hl:s.heap.IsList l its:=by obtain ⟨o,e,r⟩:=hl0;exact ⟨o,k0 _ _ e,r⟩
    refine codeAny_builtin F.entry_min_loop ?_
    rw [Around.under_plainId F.plain_min_loop _]
    show wpAny _ A.in1 (seqItems? (.ref S) >>= _) _ _ s
    refine wpAny_bind (wpAny_seqItems hS rfl ?_)
    show wpAny _ A.in1 (tryCatch (pyNext (.ref I)) _ >>= _) _ _ s
    refine wpAny_bind (wpAny_tryCatch (wpAny_pyNext_list_end (show A.in1.handled = none from hh) hI hl (by simp;omega) fun g x1=>?_))
    have S1:=x1 S _ IS.symm hS
    show wpAny _ A.in1 (updateSeq S (fun _=>#[]) >>= _) _ _ _
    refine wpAny_bind (wpAny_updateSeq (s:={ s with heap:=g }) S1 rfl (wpAny_bind (wpAny_letGo (wpAny_pure ?_))))
    have e2:its.size - 1 = j:=by omega
    refine hR v _ s.toks (by rw [e2];exact hv) fun b o e=>?_
    exact (Heap.get?_update_other _ _ (Ne.symm (nS e))).trans (x1 b o (nI e) (k0 b o e))
  | succ d ih =>
    intro j s v c hd hj hI hv hS k0 hR
    have hlt:j + 1 < its.size:=by omega
    have hl:s.heap.IsList l its:=by obtain ⟨o,e,r⟩:=hl0;exact ⟨o,k0 _ _ e,r⟩
    refine codeAny_builtin F.entry_min_loop ?_
    rw [Around.under_plainId F.plain_min_loop _]
    show wpAny _ A.in1 (seqItems? (.ref S) >>= _) _ _ s
    refine wpAny_bind (wpAny_seqItems hS rfl ?_)
    show wpAny _ A.in1 (tryCatch (pyNext (.ref I)) _ >>= _) _ _ s
    have hx:its[j + 1]? = some its[j + 1]:=by simp [hlt]
    refine wpAny_bind (wpAny_tryCatch (wpAny_pyNext_list_item hI hl hx fun g I1 x1=>?_))
    have S1:=x1.extBut S _ IS.symm hS
    have k1:∀ b o,h0.get? b = some o -> g.get? b = some o:=fun b o e=>x1.extBut b o (nI e) (k0 b o e)
    show wpAny _ A.in1 (tryCatch (holding [its[j + 1],its[j + 1]] (richCompare .Lt its[j + 1] v >>= _)) _ >>= _) _ _ _
    refine wpAny_bind (wpAny_tryCatch (wpAny_holding (wpAny_bind (hc (j + 1) (bestI bt j) _ v { s with heap:=g } _ _ hx hv k1 ?_))))
    refine wpAny_bind (wpAny_holding (wpAny_truthy_bool (wpAny_bind (wpAny_letGo (wpAny_pure ?_)))))
    cases hb:bt (j + 1) (bestI bt j) with
    | true =>
      simp only [if_true]
      refine wpAny_bind (wpAny_updateSeq (s:={ s with heap:=g }) S1 rfl (wpAny_bind (wpAny_letGo ?_)))
      rw [nm]
      refine wpAny_pure ⟨plainId_quiet F.plain_min_loop _,ih (j + 1) _ its[j + 1] _ (by omega) hlt ?_ (by simp only [bestI,hb,if_true];exact hx) (Heap.get?_update_self _ S1 rfl) (fun b o e=>(Heap.get?_update_other _ _ (Ne.symm (nS e))).trans (k1 b o e)) fun v' g' tk hv' k'=>?_⟩
      · obtain ⟨o,e,r⟩:=I1;exact ⟨o,(Heap.get?_update_other _ _ (Ne.symm IS)).trans e,r⟩
      · exact hR v' g' tk hv' k'
    | false =>
      simp only [Bool.false_eq_true,if_false]
      refine wpAny_bind (wpAny_letGo ?_)
      rw [nm]
      refine wpAny_pure ⟨plainId_quiet F.plain_min_loop _,ih (j + 1) _ v c (by omega) hlt I1 (by simp only [bestI,hb,Bool.false_eq_true,if_false];exact hv) S1 k1 fun v' g' tk hv' k'=>?_⟩
      exact hR v' g' tk hv' k'
theorem args_min_d (a v:Value):argsOk "min" ⟨[a],[(Str.ofString "default",v)]⟩:=by unfold argsOk;kernel_rfl
theorem min_default {E:Value -> Shared -> Prop} {s:Shared} {its:Array Value} {bt:Nat -> Nat -> Bool} (hh:A.handled = none) (hc:CmpIn prog w A.in1 .Lt s.heap its bt) {l:Addr} (hl:s.heap.IsList l its) {dv:Value} {Q:Value -> Shared -> Prop}
    (q0:its.size = 0 -> ∀ g tk,(∀ b o,s.heap.get? b = some o -> g.get? b = some o) -> Q dv { s with heap:=g,toks:=tk })
    (q1:∀ v g tk,its[bestI bt (its.size - 1)]? = some v -> (∀ b o,s.heap.get? b = some o -> g.get? b = some o) -> Q v { s with heap:=g,toks:=tk }) :
    wpAny (model prog w) A (call (.builtin "min") [.ref l] [(Str.ofString "default",dv)]) Q E s:=by
  have nm:(toString "min" ++ toString ".loop":String) = "min.loop":=by decide
  refine wpAny_call (codeAny_call_builtin F.plain_min F.entry_min ?_)
  have run:wpAny (model prog w) A.in1 (Builtin.«min» ⟨[.ref l],[(Str.ofString "default",dv)]⟩) (fun fin s'=>match fin with
      | .done f=>(match (Except.ok f:Result) with | .ok (.ret v)=>Q v s' | .ok _=>False | .error e=>E e s')
      | .again c'=>c'.quiet = true /\ codeAny (model prog w) A c' (fun r s'=>match r with | .ok (.ret v)=>Q v s' | .ok _=>False | .error e=>E e s') s') E s:=by
    show wpAny _ A.in1 (Builtin.Builtins.bindParams "min" ["key","default"] 0 ⟨[],[(Str.ofString "default",dv)]⟩ >>= _) _ _ s
    refine wpAny_bind (wpAny_of_eq (show Builtin.Builtins.bindParams "min" ["key","default"] 0 ⟨[],[(Str.ofString "default",dv)]⟩ = pure [none,some dv] from rfl) (wpAny_bind (wpAny_pure ?_)))
    refine wpAny_bind (wpAny_pyIter_list hl (wpAny_bind (wpAny_newObj_type ?_)))
    generalize hg1:s.heap.push { cls:=.type "list_iterator",data:=.fields #[.ref l,.int 0 0] } = g1
    have n1:g1.objs.size = s.heap.objs.size + 1:=by rw [<- hg1];exact Heap.size_push ..
    have I0:(g1.push { cls:=.type "list",dict:=none,data:=.seq ([]:List Value).toArray }).IsListIter s.heap.objs.size l 0:=⟨_,Heap.get?_push_of_some _ (by rw [<- hg1];exact Heap.get?_push_size _ rfl),rfl,rfl⟩
    have S0:=Heap.get?_push_size g1 (o:={ cls:=.type "list",dict:=none,data:=.seq ([]:List Value).toArray }) rfl
    have k0:∀ b o,s.heap.get? b = some o -> (g1.push { cls:=.type "list",dict:=none,data:=.seq ([]:List Value).toArray }).get? b = some o:=fun b o e=>Heap.get?_push_of_some _ (by rw [<- hg1];exact Heap.get?_push_of_some _ e)
    have fr:∀ a,s.heap.objs.size <= a -> s.heap.get? a = none:=fun a ha=>by
      cases e:s.heap.get? a with
      | none=>rfl
      | some o=>exact absurd (Heap.lt_size e) (Nat.not_lt.mpr ha)
    have nI:s.heap.get? s.heap.objs.size = none:=fr _ (Nat.le_refl _)
    have nS:s.heap.get? g1.objs.size = none:=fr _ (by rw [n1];exact Nat.le_succ _)
    have IS:s.heap.objs.size ≠ g1.objs.size:=by rw [n1];exact Nat.ne_of_lt (Nat.lt_succ_self _)
    rw [nm]
    refine wpAny_pure ⟨plainId_quiet F.plain_min_loop _,?_⟩
    generalize hg2:g1.push { cls:=.type "list",dict:=none,data:=.seq ([]:List Value).toArray } = g2 at I0 S0 k0
    have hl2:g2.IsList l its:=by obtain ⟨o,e,r⟩:=hl;exact ⟨o,k0 _ _ e,r⟩
    refine codeAny_builtin F.entry_min_loop ?_
    rw [Around.under_plainId F.plain_min_loop _]
    show wpAny _ A.in1 (seqItems? (.ref g1.objs.size) >>= _) _ _ _
    refine wpAny_bind (wpAny_seqItems (s:={ s with heap:=g2 }) S0 rfl ?_)
    show wpAny _ A.in1 (tryCatch (pyNext (.ref s.heap.objs.size)) _ >>= _) _ _ _
    by_cases hz:its.size = 0
    · refine wpAny_bind (wpAny_tryCatch (wpAny_pyNext_list_end (show A.in1.handled = none from hh) I0 hl2 (by simp [hz]) fun g x1=>?_))
      refine wpAny_bind (wpAny_rule (wpAny_pure ?_))
      exact q0 hz g s.toks fun b o e=>x1 b o (fun z=>by rw [z,nI] at e;cases e) (k0 b o e)
    · have hx:its[0]? = some its[0]:=by simp [Nat.pos_of_ne_zero hz]
      refine wpAny_bind (wpAny_tryCatch (wpAny_pyNext_list_item I0 hl2 hx fun g I1 x1=>?_))
      have S1:=x1.extBut _ _ IS.symm S0
      have k1:∀ b o,s.heap.get? b = some o -> g.get? b = some o:=fun b o e=>x1.extBut b o (fun z=>by rw [z,nI] at e;cases e) (k0 b o e)
      show wpAny _ A.in1 (updateSeq g1.objs.size (fun _=>#[its[0],its[0]]) >>= _) _ _ _
      refine wpAny_bind (wpAny_updateSeq (s:={ s with heap:=g }) S1 rfl ?_)
      rw [nm]
      refine wpAny_pure ⟨plainId_quiet F.plain_min_loop _,min_on hh hc hl IS nI nS _ _ 0 _ its[0] _ rfl (Nat.pos_of_ne_zero hz) ?_ hx (Heap.get?_update_self _ S1 rfl) (fun b o e=>(Heap.get?_update_other _ _ (fun z=>by rw [<- z,nS] at e;cases e)).trans (k1 b o e)) fun v g' tk hv k'=>q1 v g' tk hv k'⟩
      obtain ⟨o,e,r⟩:=I1
      exact ⟨o,(Heap.get?_update_other _ _ (Ne.symm IS)).trans e,r⟩
  simp only [checkBuiltinCall,F.kind_min]
  cases hsig:Manifest.signature? "min" with
  | none=>exact wpAny_pure run
  | some sig =>
    have ha:argsOk "min" ⟨[.ref l],[(Str.ofString "default",dv)]⟩:=args_min_d _ _
    have ha':Bind.checkArgs "min" sig ⟨[.ref l],[(Str.ofString "default",dv)]⟩ = pure ():=by simpa only [argsOk,hsig] using ha
    simp only [ha']
    exact wpAny_pure run
end
end Vc

set_option Elab.async false
set_option linter.all false
set_option maxRecDepth 100000

namespace Vc
open PySem L2
variable [KF]
variable {G:GE} {k:Nat} {S:Stat}
noncomputable def isInt:D -> Bool
  | .int _=>true
  | _=>false
noncomputable def intV:D -> Int
  | .int i=>i
  | _=>0
theorem RepL.ints {F:Hp}:∀ {vs:List V} {xs:List D},RepL F vs xs -> xs.all isInt = true -> vs = (xs.map intV).map V.int
  | _,_,.nil,_=>rfl
  | _,_,.cons (d:=d) r t,h=>by
    rw [List.all_cons,Bool.and_eq_true] at h
    cases d with
    | int i =>
      cases r
      rw [RepL.ints t h.2];rfl
    | _=>exact absurd h.1 (by simp [isInt])
theorem call_sum {X:Cx} (hc:X.calm = true):CallR X (.builtin "sum") (fun xs H Q=>∃ (a:Addr) (ns:List Int),xs = [.ref a] /\ SqL X.K H a (ns.map V.int) /\ Q (.int ns.sum) H):=by
  intro pins s σ H xs us Q I r h
  obtain ⟨a,ns,rfl,hq,q⟩:=h
  obtain ⟨u,rfl,ru⟩:=vals1 r
  cases ru
  obtain ⟨its,rv,p,_⟩:=I.list hq
  obtain ⟨m,F⟩:=I.fr
  have hi:=L2.intsAre_of rv
  obtain ⟨ys,e⟩:=(hi.allInts).items
  have pl:=p.isList
  rw [e] at pl
  refine sum_intListG (I.ok.hd hc) pl fun g tk t' kp=>⟨.int ns.sum,H,I.kept kp,⟨t',?_⟩,q⟩
  have e1:preSum (numAt ys) ys.size = (PySem.numsOf its.toArray.toList).sum:=by
    rw [e,nums_intItems,preSum_eq,List.take_of_length_le (by simp)]
  rw [e1,show its.toArray.toList = its from rfl,hi.numsOf]
noncomputable def sumF:List D -> (EV -> Prop) -> Prop
  | [.lst xs],Q=>xs.all isInt = true /\ Q (.val (.int (xs.map intV).sum))
  | _,_=>False
theorem f_sum (hh:S.hot = false:=by rfl):ClR G k S (.builtin "sum") sumF:=⟨fun K xs H Q=>∃ (a:Addr) (ns:List Int),xs = [V.ref a] /\ SqL K H a (ns.map V.int) /\ Q (.int ns.sum) H,fun _ _ ok=>call_sum (ok.calm hh),fun Y F H σd σ vs ds Qd Q R r q g=>by
  unfold sumF at q
  split at q
  · obtain ⟨v,rfl,rv⟩:=r.one
    obtain ⟨p,us,rfl,h1,h2⟩:=rv.lst
    refine ⟨p,_,rfl,?_,g.val R (.int _) q.2⟩
    rw [<- h2.ints q.1]
    exact .inl h1
  · exact q.elim⟩

end Vc

set_option Elab.async false
set_option linter.all false
set_option maxRecDepth 100000

namespace Vc
open PySem L2
variable [KF]
variable {G:GE} {k:Nat} {S:Stat}
noncomputable def intTup:D -> Bool
  | .tup xs=>xs.all isInt
  | _=>false
noncomputable def ltI:D -> D -> Bool
  | .int i,.int j=>decide (i < j)
  | .tup xs,.tup ys=>HT.lexLt (xs.map intV) (ys.map intV)
  | _,_=>false
noncomputable def bestD:List D -> Option D
  | []=>none
  | x :: xs=>some (xs.foldl (fun b y=>if ltI y b = true then y else b) x)
noncomputable def btD (xs:List D) (i j:Nat):Bool:=ltI (xs.getD i .non) (xs.getD j .non)
theorem bestI_fold (xs:List D) (x:D):∀ n,n < (x :: xs).length -> (x :: xs).getD (bestI (btD (x :: xs)) n) .non = (xs.take n).foldl (fun b y=>if ltI y b = true then y else b) x
  | 0,_=>rfl
  | n + 1,h=>by
    have ih:=bestI_fold xs x n (by simp at h ⊢;omega)
    have hl:n < xs.length:=by simpa using h
    have gx:(x :: xs).getD (n + 1) .non = xs[n]:=by
      rw [List.getD_eq_getElem?_getD,List.getElem?_cons_succ,List.getElem?_eq_getElem hl];rfl
    rw [List.take_add_one,List.getElem?_eq_getElem hl,Option.toList_some,List.foldl_append,List.foldl_cons,List.foldl_nil,<- ih]
    have e:btD (x :: xs) (n + 1) (bestI (btD (x :: xs)) n) = ltI xs[n] ((x :: xs).getD (bestI (btD (x :: xs)) n) .non):=by
      unfold btD
      rw [gx]
    show (x :: xs).getD (if btD (x :: xs) (n + 1) (bestI (btD (x :: xs)) n) = true then n + 1 else bestI (btD (x :: xs)) n) .non = _
    rw [e]
    split
    · exact gx
    · rfl
theorem best_is {xs:List D} (h:xs ≠ []):bestD xs = some (xs.getD (bestI (btD xs) (xs.length - 1)) .non):=by
  cases xs with
  | nil=>exact absurd rfl h
  | cons x xs =>
    have:=bestI_fold xs x xs.length (by simp)
    have e:(x :: xs).length - 1 = xs.length:=by simp
    rw [e,this,List.take_length];rfl
theorem cmp_in {X:Cx} {pins:List (Addr × Obj)} {σ:St} {H F:Hp} {s:Shared} (I:L2.Inv X pins σ H s) (sm:Same F H) (hu:X.A.in1.units < cLine) {vs:List V} {xs:List D} {its:List Value} (rl:RepL F vs xs) (rv:Vals vs its) (hc:xs.all isInt = true \/ xs.all intTup = true) :
    CmpIn X.prog X.w X.A.in1 .Lt s.heap its.toArray (btD xs):=by
  intro i j x y s' Q E ex ey kp q
  have ex':its[i]? = some x:=by simpa using ex
  have ey':its[j]? = some y:=by simpa using ey
  have back:∀ {n z},its[n]? = some z -> ∃ v d,vs[n]? = some v /\ xs[n]? = some d /\ RelV v z /\ Rep F v d:=fun {n z} e=>by
    have hl:n < vs.length:=by rw [rv.length];exact (List.getElem?_eq_some_iff.mp e).1
    have ev:vs[n]? = some vs[n]:=List.getElem?_eq_getElem hl
    obtain ⟨d,e1,e2⟩:=rl.get' ev
    obtain ⟨u,e3,e4⟩:=rv.get ev
    rw [e] at e3;cases e3
    exact ⟨_,d,ev,e1,e4,e2⟩
  obtain ⟨v,d,_,hd,r1,p1⟩:=back ex'
  obtain ⟨u,e,_,he,r2,p2⟩:=back ey'
  have bt:btD xs i j = ltI d e:=by
    unfold btD
    rw [List.getD_eq_getElem?_getD,List.getD_eq_getElem?_getD,hd,he];rfl
  rw [bt] at q
  have md:d ∈ xs:=List.mem_of_getElem? hd
  have me:e ∈ xs:=List.mem_of_getElem? he
  show wpAny _ _ (compareOp .Lt x y) _ _ _
  rcases hc with hc | hc
  · have h1:=List.all_eq_true.mp hc d md
    have h2:=List.all_eq_true.mp hc e me
    cases d with
    | int a =>
      cases e with
      | int b =>
        cases p1;cases p2
        obtain ⟨t,rfl⟩:=r1
        obtain ⟨t',rfl⟩:=r2
        exact PyProof.Rows.lt_int q
      | _=>exact absurd h2 (by simp [isInt])
    | _=>exact absurd h1 (by simp [isInt])
  · have h1:=List.all_eq_true.mp hc d md
    have h2:=List.all_eq_true.mp hc e me
    cases d with
    | tup as =>
      cases e with
      | tup bs =>
        cases p1 with
        | tup hf rf =>
          cases p2 with
          | tup hg rg =>
            cases r1;cases r2
            rename_i va vas vb vbs
            obtain ⟨_,ia,wa,oa,ga,ca⟩:=I.hok _ _ (sm _ _ hf)
            obtain ⟨_,ib,wb,ob,gb,cb⟩:=I.hok _ _ (sm _ _ hg)
            rw [rf.ints h1] at wa
            rw [rg.ints h2] at wb
            exact HT.lt_tupInts ⟨oa,kp _ _ ga,ca⟩ ⟨ob,kp _ _ gb,cb⟩ (L2.intsAre_of wa) (L2.intsAre_of wb) hu q
      | _=>exact absurd h2 (by simp [intTup])
    | _=>exact absurd h1 (by simp [intTup])
noncomputable def tMin (t:TV) (td:TD):TV:=fun σ Q=>t σ fun x σ1=>td σ1 fun dv σ2=>match drf σ2 x with
  | some (.lst xs)=>(xs.all isInt = true \/ xs.all intTup = true) /\ Q (.val ((bestD xs).getD dv)) σ2
  | _=>False
theorem r_min {e d:Expr} {t:TV} {td:TD} {p kp pos:Pos} (h:EO G k S e t) (hd:ED G k S d td) (hm:G.mg "min" = none) (hg:S.sc.lookup ("min":Str) = some .globalImplicit:=by rfl)
    (he:∀ env,starEach [e] env = [(false,eval e env)]:=by intro _;rfl) (hh:S.hot = false:=by rfl):EO G k S (.Call (.Name "min" p) [e] [⟨some "default",d,kp⟩] pos) (tMin t td):=.mk fun X Y ok=>by
  intro pins s σ H Q I q
  obtain ⟨F,σd,Qd,R,q,K⟩:=q
  refine wpAny_Call_Name_kw (ld_blt (u:=.builtin "min") I (gl_of ok hg) (by rw [ok.mg];exact hm) (by decide +kernel) ?_ (by decide) (by decide))
  have ha:PA X [e] (tCons (lO Y t) tNil):=pa_cons (h X Y ok) pa_nil (by rw [he];rfl)
  have hk:PK X [⟨some "default",d,kp⟩] (tCons (lD Y td) tNil):=pk_cons (hd X Y ok) pk_nil
  have hA:=ha pos pins s σ H (fun vs H1=>∃ v1 F1 x σ1,vs = [v1] /\ Same F F1 /\ RS Y F1 σ1 σ H1 /\ RepO F1 σ v1 x /\ td σ1 (fun dv σ2=>match drf σ2 x with
      | some (.lst xs)=>(xs.all isInt = true \/ xs.all intTup = true) /\ Qd (.val ((bestD xs).getD dv)) σ2
      | _=>False)) I ⟨F,σd,_,R,q,fun v1 H1 F1 x σ1 s1 R1 r1 q1=>⟨v1,F1,x,σ1,rfl,s1,R1,r1,q1⟩⟩
  refine PyProof.Rows.callWith_kw (env:=X.env) (thn hA fun us s1 h1=>?_) (by rw [he];rfl) (by rw [he];rfl) rfl rfl
  obtain ⟨vs,H1,I1,rvs,v1,F1,x,σ1,rfl,sm1,R1,r1,q1⟩:=h1
  obtain ⟨u1,rfl,ru1⟩:=vals1 rvs
  refine thn (hk pos pins s1 σ H1 (fun vs H2=>∃ v2 F2 dv σ2,vs = [v2] /\ Same F1 F2 /\ RS Y F2 σ2 σ H2 /\ Rep F2 v2 dv /\ (match drf σ2 x with
      | some (.lst xs)=>(xs.all isInt = true \/ xs.all intTup = true) /\ Qd (.val ((bestD xs).getD dv)) σ2
      | _=>False)) I1 ⟨F1,σ1,_,R1,q1,fun v2 H2 F2 dv σ2 s2 R2 r2 q2=>⟨v2,F2,dv,σ2,rfl,s2,R2,r2,q2⟩⟩) fun ws s2 h2=>?_
  obtain ⟨vs2,H2,I2,rvs2,v2,F2,dv,σ2,rfl,sm2,R2,r2,q2⟩:=h2
  obtain ⟨u2,rfl,ru2⟩:=vals1 rvs2
  split at q2
  · rename_i xs ex
    obtain ⟨hc,q2⟩:=q2
    obtain ⟨a,vs,rfl,hrd,rl⟩:=(R2.drf (r1.mono sm2) ex).lst
    cases ru1
    obtain ⟨its,rv,pl,_⟩:=I2.list (show SqL X.K H2 a vs from .inl hrd)
    have hu:X.A.in1.units < cLine:=by
      have:=ok.units
      show X.A.units + 1 < cLine
      omega
    have hc':=cmp_in I2 R2.fr hu rl rv hc
    have len:its.toArray.size = xs.length:=by rw [List.size_toArray,<- rv.length,rl.length]
    refine min_default (I2.ok.hd (ok.calm hh)) hc' pl.isList (fun hz g tk kp=>?_) fun z g tk hz kp=>?_
    · have:xs = []:=List.length_eq_zero_iff.mp (by rw [<- len];exact hz)
      subst this
      exact ⟨v2,H2,I2.kept kp,ru2,K v2 H2 F2 (.val dv) σ2 (sm1.trans sm2) R2 r2 q2⟩
    · have hz':its[bestI (btD xs) (xs.length - 1)]? = some z:=by rw [len] at hz;simpa using hz
      have hne:xs ≠ []:=fun e=>by
        subst e
        have:its = []:=List.length_eq_zero_iff.mp (by rw [<- rv.length,rl.length];rfl)
        rw [this] at hz';simp at hz'
      have hl:bestI (btD xs) (xs.length - 1) < vs.length:=by rw [rv.length];exact (List.getElem?_eq_some_iff.mp hz').1
      have ev:vs[bestI (btD xs) (xs.length - 1)]? = some vs[bestI (btD xs) (xs.length - 1)]:=List.getElem?_eq_getElem hl
      obtain ⟨dd,e1,e2⟩:=rl.get' ev
      obtain ⟨zz,e3,e4⟩:=rv.get ev
      rw [hz'] at e3;cases e3
      have eb:bestD xs = some dd:=by rw [best_is hne,List.getD_eq_getElem?_getD,e1];rfl
      rw [eb] at q2
      exact ⟨_,H2,I2.kept kp,e4,K _ H2 F2 (.val dd) σ2 (sm1.trans sm2) R2 e2 q2⟩
  · exact q2.elim
end Vc

set_option Elab.async false
set_option linter.all false
set_option maxRecDepth 100000

namespace Vc
open PySem L2
variable [KF]
variable {G:GE} {k:Nat} {S:Stat}
theorem forD_ind {g:TGd} {tb:TSd} {De:EndsD} {items:List D} (I:Nat -> Sd -> Prop)
    (hstep:∀ i x σ (N:Sd -> Prop),items[i]? = some x -> I i σ -> (∀ σ',I (i + 1) σ' -> N σ') -> g x σ fun σ1=>tb { nx:=N,rt:=De.rt,bk:=De.nx,ct:=N } σ1)
    (hend:∀ σ,I items.length σ -> De.nx σ) {σ:Sd} (h0:I 0 σ):forD g tb De items σ:=by
  have key:∀ (xs:List D) (i:Nat) (σ:Sd),items.drop i = xs -> i <= items.length -> I i σ -> forD g tb De xs σ:=by
    intro xs
    induction xs with
    | nil =>
      intro i σ e l h
      have:items.length <= i:=List.drop_eq_nil_iff.mp e
      exact hend σ ((Nat.le_antisymm l this) ▸ h)
    | cons x r ih =>
      intro i σ e l h
      have hx:items[i]? = some x:=by
        have:=congrArg (·[0]?) e
        simpa using this
      have hr:items.drop (i + 1) = r:=by rw [<- List.drop_drop,e];rfl
      have hl:i < items.length:=(List.getElem?_eq_some_iff.mp hx).1
      exact hstep i x σ _ hx h fun σ' h'=>ih (i + 1) σ' hr hl h'
  exact key items 0 σ rfl (Nat.zero_le _) h0
theorem compD_on {α:Type} {g:TGd} {tc:TB} {te:TD} {σ0:Sd} {Q:List D -> Prop} (gi:α -> D) (f:α -> Option D) (l:List α)
    (h:∀ a ∈ l,∀ (A:D -> Prop) (Bn:Prop),(match f a with | some d=>A d | none=>Bn) -> g (gi a) σ0 fun σ1=>tc σ1 fun b σ2=>if b = true then te σ2 fun d σ3=>leS σ0 σ3 /\ A d else leS σ0 σ2 /\ Bn)
    (hl:l.length <= sizeLine) (q:Q (l.filterMap f)):compD g tc te σ0 (l.map gi) [] Q:=by
  have key:∀ (l:List α) (acc:List D),(∀ a ∈ l,∀ (A:D -> Prop) (Bn:Prop),(match f a with | some d=>A d | none=>Bn) -> g (gi a) σ0 fun σ1=>tc σ1 fun b σ2=>if b = true then te σ2 fun d σ3=>leS σ0 σ3 /\ A d else leS σ0 σ2 /\ Bn) ->
      acc.length + l.length <= sizeLine -> Q (acc ++ l.filterMap f) -> compD g tc te σ0 (l.map gi) acc Q:=by
    intro l
    induction l with
    | nil=>intro acc _ _ q;simpa [compD] using q
    | cons a l ih =>
      intro acc h hl q
      rw [List.length_cons] at hl
      rw [List.map_cons]
      refine h a (List.mem_cons_self ..) (fun d=>acc.length < sizeLine /\ compD g tc te σ0 (l.map gi) (acc ++ [d]) Q) (compD g tc te σ0 (l.map gi) acc Q) ?_
      have hr:=fun y hy=>h y (List.mem_cons_of_mem _ hy)
      cases e:f a with
      | some d =>
        refine ⟨by omega,ih _ hr (by rw [List.length_append,List.length_singleton];omega) ?_⟩
        rw [List.filterMap_cons_some e] at q
        rwa [List.append_assoc]
      | none =>
        refine ih acc hr (by omega) ?_
        rwa [List.filterMap_cons_none e] at q
  exact key l [] h (by simpa using hl) q
theorem compD_onM {α:Type} {g:TGd} {te:TD} {σ0:Sd} {Q:List D -> Prop} (gi f:α -> D) (l:List α)
    (h:∀ a ∈ l,∀ (A:D -> Prop),A (f a) -> g (gi a) σ0 fun σ1=>te σ1 fun d σ3=>leS σ0 σ3 /\ A d)
    (hl:l.length <= sizeLine) (q:Q (l.map f)):compD g tTrue te σ0 (l.map gi) [] Q :=
  compD_on gi (fun x=>some (f x)) l (fun x hx A Bn ha=>h x hx A ha) hl (by simpa using q)
theorem forD_on {α:Type} {g:TGd} {tb:TSd} {De:EndsD} (gi:α -> D) (l:List α) (I:Nat -> Sd -> Prop)
    (hstep:∀ i a σ (N:Sd -> Prop),l[i]? = some a -> I i σ -> (∀ σ',I (i + 1) σ' -> N σ') -> g (gi a) σ fun σ1=>tb { nx:=N,rt:=De.rt,bk:=De.nx,ct:=N } σ1)
    (hend:∀ σ,I l.length σ -> De.nx σ) {σ:Sd} (h0:I 0 σ):forD g tb De (l.map gi) σ:=by
  refine forD_ind I (fun i x σ N hx hI hN=>?_) (fun σ h=>hend σ (by rwa [List.length_map] at h)) h0
  rw [List.getElem?_map] at hx
  cases e:l[i]? with
  | none=>rw [e] at hx;cases hx
  | some a=>rw [e] at hx;cases hx;exact hstep i a σ N e hI hN
theorem rngD_map (lo:Int) (n:Nat):rngD lo n = (List.range n).map fun i=>.int (lo + (i:Nat)):=rfl
theorem zipD_map {α β:Type} (f:α -> D) (g:β -> D) (xs:List α) (ys:List β):zipD (xs.map f) (ys.map g) = (xs.zip ys).map fun p=>.tup [f p.1,g p.2]:=by
  unfold zipD
  rw [List.zip_map,List.map_map];rfl
theorem enumD_map {α:Type} (f:α -> D) (xs:List α):enumD (xs.map f) = (xs.mapIdx fun i x=>(i,x)).map fun p=>.tup [.int (p.1:Nat),f p.2]:=by
  unfold enumD
  apply List.ext_getElem?
  intro i
  simp only [List.getElem?_mapIdx,List.getElem?_map]
  cases xs[i]?<;>rfl
theorem atI_nat {α:Type} {xs:List α} {n:Nat} {d:α} (h:xs[n]? = some d):L2.atI xs (n:Int) = some d:=by
  have hn:=(List.getElem?_eq_some_iff.mp h).1
  unfold L2.atI L2.ixN
  rw [if_pos (Int.natCast_nonneg n),if_pos (by omega)]
  show xs[(n:Int).toNat]? = some d
  rw [Int.toNat_natCast];exact h
theorem ix_lst_at {xs:List D} {n:Nat} {i:Int} {d:D} {Q:D -> Prop} (e:i = (n:Int)) (h:xs[n]? = some d) (q:Q d):ixD (.lst xs) (.int i) Q:=by
  subst e
  show (match L2.atI xs (n:Int) with | some d=>Q d | none=>False)
  rw [atI_nat h]
  exact q
theorem ix_tup_at {xs:List D} {n:Nat} {i:Int} {d:D} {Q:D -> Prop} (e:i = (n:Int)) (h:xs[n]? = some d) (q:Q d):ixD (.tup xs) (.int i) Q:=by
  subst e
  show (match L2.atI xs (n:Int) with | some d=>Q d | none=>False)
  rw [atI_nat h]
  exact q
theorem ix_lst_all {xs:List D} {i:Int} {Q:D -> Prop} (h0:0 <= i) (h1:i < xs.length) (h:∀ d ∈ xs,Q d):ixD (.lst xs) (.int i) Q:=by
  have hn:i.toNat < xs.length:=by omega
  exact ix_lst_at (n:=i.toNat) (by omega) (List.getElem?_eq_getElem hn) (h _ (List.getElem_mem hn))
structure FnD (G:GE) (x:Str) (st:Stmt) (ps:List Str) (f:Addr) (fd:FuncData):Prop where
  F:Fun G.K x x st f fd
  m:G.mg x = some (.ref f)
  b:Binds G.K fd ps []
theorem FnD.fg {x:Str} {st:Stmt} {ps N:List Str} {f:Addr} {fd:FuncData} {t:TSd} {sp:FSp} (d:FnD G x st ps f fd) (hK:G.K = KF.K) (Sc:FnScope N ps (defScope st)) (ht:ESs G k ⟨N,(defScope st).names,[],false,false,false,fun _ _=>False⟩ (defBody st) t)
    (len:∀ ds Q,sp ds Q -> ds.length = ps.length) (body:∀ ds Q,sp ds Q -> t { nx:=fun _=>Q (.sh .non),rt:=fun b _=>Q b } (startD N.length ds)):FnG G (k + 1) x sp :=
  ⟨f,fd,ps,fn_ok hK d.F Sc ht len body,d.m,d.F.kp,d.b⟩
theorem tSq_step {t u:TSd} {De:EndsD} {σ:Sd} (h:∀ N,N = u De -> t { nx:=N,rt:=De.rt,bk:=De.bk,ct:=De.ct } σ):tSq t u De σ:=h _ rfl
end Vc

set_option Elab.async false
set_option linter.all false
set_option maxRecDepth 100000

namespace Vc
open PySem L2
variable [KF]
section
open AutoSeq1 (wpAny_loadPart')
theorem meets_enumT (l:Addr) (items:Array Value) (n:Nat) (dct:Option Addr) (sl:Array (Option Value)) :
    Meets (Builtin.«enumerate.__new__» ⟨[.type "enumerate",.ref l],[]⟩) (fun _ R s=>s.heap.get? l = some { cls:=.type "tuple",dict:=dct,data:=.seq items n,slots:=sl } /\
      R (.ok (.ret (.ref (s.heap.push { cls:=.type "tuple_iterator",data:=.fields #[.ref l,.int 0 0] }).objs.size)))
        { s with heap:=(s.heap.push { cls:=.type "tuple_iterator",data:=.fields #[.ref l,.int 0 0] }).push { cls:=.type "enumerate",data:=.fields #[.none,.bool false,.ref s.heap.objs.size,rawInt 0,.none,.none] } }) :=
  .of_wp fun prog w A R s h=>by
    obtain ⟨hp,g,d,tk,os⟩:=s;obtain ⟨hl,h⟩:=h
    have hsub:=sub_enumerate
    have hL:Heap.IsTuple (Shared.heap ⟨hp,g,d,tk,os⟩) l items:=⟨_,hl,rfl,n,rfl⟩
    wp_walk using wpAny_loadPart' hl
    refine wpAny_stack_any fun st=>wpAny_pure ?_
    split
    · rename_i c _ _ _ _ _
      cases (c == Value.type "enumerate")
      · wp_walk using wpAny_loadPart' hl,wpAny_pyIter_tuple hL
        exact ⟨_,rfl,h⟩
      · wp_walk using wpAny_loadPart' hl,wpAny_pyIter_tuple hL
        exact ⟨_,rfl,h⟩
    · wp_walk using wpAny_loadPart' hl,wpAny_pyIter_tuple hL
      exact ⟨_,rfl,h⟩
theorem call_enumT {prog:Program} {w:World} {A:Around} {E:Value -> Shared -> Prop} {s:Shared} {l:Addr} {items:Array Value} {Q:Value -> Shared -> Prop} (hL:s.heap.IsTuple l items)
    (h:∀ h',IsEnum h' (s.heap.objs.size + 1) s.heap.objs.size 0 .none -> SqI true h' s.heap.objs.size l 0 -> h'.objs.size = s.heap.objs.size + 2 ->
      (∀ b o,s.heap.get? b = some o -> h'.get? b = some o) -> Q (.ref (s.heap.objs.size + 1)) { s with heap:=h' }) :
    wpAny (model prog w) A (call (.type "enumerate") [.ref l]) Q E s:=by
  obtain ⟨⟨c,dct,dt,sl⟩,hl,hc,n,hd⟩:=hL
  replace hc:c = .type "tuple":=hc
  replace hd:dt = .seq items n:=hd
  subst hc hd
  refine callType_new F.called_enumerate (by decide) (F.typeCall_enumerate_1 _) (F.newCall_enumerate_1 _) (fun obj=>F.args_object_init_2 obj _) F.entry_enumerate_new
    (meets_enumT l items n dct sl) ⟨hl,?_⟩
  have hz:(s.heap.push { cls:=.type "tuple_iterator",data:=.fields #[.ref l,.int 0 0] }).objs.size = s.heap.objs.size + 1:=Heap.size_push ..
  show _ /\ _
  rw [hz]
  have he:IsEnum ((s.heap.push { cls:=.type "tuple_iterator",data:=.fields #[.ref l,.int 0 0] }).push
      { cls:=.type "enumerate",data:=.fields #[.none,.bool false,.ref s.heap.objs.size,rawInt 0,.none,.none] }) (s.heap.objs.size + 1) s.heap.objs.size 0 .none:=by
    have:=Heap.get?_push_size (s.heap.push { cls:=.type "tuple_iterator",data:=.fields #[.ref l,.int 0 0] })
      (o:={ cls:=.type "enumerate",data:=.fields #[.none,.bool false,.ref s.heap.objs.size,rawInt 0,.none,.none] }) rfl
    rw [hz] at this;exact this
  refine ⟨⟨_,he,rfl⟩,h _ he ⟨_,Heap.get?_push_of_some _ (Heap.get?_push_size _ rfl),rfl,rfl⟩ (by rw [Heap.size_push,hz]) fun b o x=>Heap.get?_push_of_some _ (Heap.get?_push_of_some _ x)⟩
end
noncomputable def iEnumT (K:PySem.W.Frag) (ta:TA):TI:=fun σ H R=>ta σ H fun vs H1=>∃ tp a xs,vs = [.ref a] /\ Sq tp K H1 a xs /\ R (Ite tp K a) H1
theorem pi_enumT {X:Cx} {elts:List Expr} {kk:Nat} {tpos:Pos} {a:Expr} {ta:TA} {p pos:Pos} (hg:Gl X "enumerate") (hm:X.mg "enumerate" = none) (hv:bootBuiltins "enumerate" = some (.type "enumerate")) (ha:PA X [a] ta) (hs:starEach [a] X.env = [(false,eval a X.env)]) :
    PI X (.Tuple elts kk tpos) (.Call (.Name "enumerate" p) [a] [] pos) (iEnumT X.K ta):=by
  intro pins s σ H R I h
  refine PyProof.Rows.Call_ (ld_blt I hg hm hv (PyProof.Rows.callWith_type1 (thn (ha pos pins s σ H _ I h) fun us s1 ⟨vs,H1,I1,r1,q1⟩=>?_) hs rfl))
  obtain ⟨tp,l,xs,e,q1,q⟩:=q1
  subst e
  obtain ⟨u,rfl,ru⟩:=vals1 r1
  cases ru
  obtain ⟨its,_,p1,ll⟩:=q1.is I1
  have fin:∀ h',IsEnum h' (s1.heap.objs.size + 1) s1.heap.objs.size 0 .none -> SqI tp h' s1.heap.objs.size l 0 -> h'.objs.size = s1.heap.objs.size + 2 ->
      (∀ b o,s1.heap.get? b = some o -> h'.get? b = some o) -> wpAny (model X.prog X.w) X.A (pyIter (.ref (s1.heap.objs.size + 1))) (PIE X pins σ (.Tuple elts kk tpos) R) X.xe { s1 with heap:=h' }:=fun g e1 i1 n1 k1=>by
    refine wpAny_pyIter_enum e1 ?_
    refine ⟨s1.heap.objs.size + 1,[s1.heap.objs.size + 1,s1.heap.objs.size],_,_,H1,rfl,I1.kept (t':=s1.toks) k1,
      turn_enum tp _ _ l (show (s1.heap.objs.size + 1:Nat) ≠ s1.heap.objs.size by omega) (Nat.ne_of_lt (Nat.lt_succ_of_lt ll)) (Nat.ne_of_lt ll),⟨⟨_,e1⟩,i1⟩,fun b hb=>?_,q⟩
    have hb':s1.heap.objs.size <= b:=by
      simp only [List.mem_cons,List.not_mem_nil,or_false] at hb
      rcases hb with rfl | rfl
      · exact Nat.le_succ _
      · exact Nat.le_refl _
    exact I1.fpOk hb' (I1.hok.fresh hb')
  cases tp with
  | true=>exact call_enumT p1 fin
  | false=>exact call_enumerate_list p1 fin
variable {G:GE} {k:Nat} {S:Stat}
noncomputable def tEnumS (t:TDs):TDs:=fun σ Q=>t σ fun ds σ1=>match ds with
  | [.lst xs]=>Q (enumD xs) σ1
  | [.tup xs]=>Q (enumD xs) σ1
  | _=>False
theorem i_enumS {elts:List Expr} {kk:Nat} {tpos:Pos} {a:Expr} {t:TDs} {p pos:Pos} (h:EDs G k S [a] t) (hm:G.mg "enumerate" = none) (hg:S.sc.lookup ("enumerate":Str) = some .globalImplicit:=by rfl) (hs:∀ env,starEach [a] env = [(false,eval a env)]:=by intro _;rfl) :
    EI G k S (.Tuple elts kk tpos) (.Call (.Name "enumerate" p) [a] [] pos) (tEnumS t):=.mk fun X Y ok=>pi_imp (pi_enumT (gl_of ok hg) (by rw [ok.mg];exact hm) (by decide +kernel) (h X Y ok) (hs _)) fun σ H Q q=>by
  obtain ⟨F,σd,Qd,R,q,K⟩:=q
  refine ⟨F,σd,_,R,q,fun vs H1 F1 ds σ1 s1 R1 r1 q1=>?_⟩
  have go:∀ d xs,sq? d = some xs -> RepL F1 vs [d] -> Qd (enumD xs) σ1 -> ∃ tp a us,vs = [.ref a] /\ Sq tp X.K H1 a us /\ Q (Ite tp X.K a) H1:=fun d xs ex r1 q1=>by
    cases r1 with
    | cons rx r1 =>
      cases r1
      obtain ⟨tp,l,us,rfl,a1,b1⟩:=rx.sq ex X.K
      exact ⟨tp,l,us,rfl,a1 H1 R1.fr,K H1 F1 σ1 _ _ s1 R1 (ite_rep a1 b1) q1⟩
  split at q1
  · exact go _ _ rfl r1 q1
  · exact go _ _ rfl r1 q1
  · exact q1.elim

end Vc

set_option Elab.async false
set_option linter.all false
set_option maxRecDepth 100000
namespace Vs
open PySem PyProof.Rows
noncomputable def R (ρ:Keyed -> Nat) (xs:Array Keyed) (i:Nat):Nat:=match xs[i]? with
  | some p=>ρ p
  | none=>0
structure SI (kd:SortKind) (a₀:Array Keyed) (st:SortSt):Prop where
  perm:(arrOf st).Perm a₀
  kind:kindOf st = kd
  failed:failedOf st = none
structure Fw (kd:SortKind) (a₀:Array Keyed) (lo:Nat) (st st':SortSt):Prop where
  si:SI kd a₀ st'
  same:∀ k,k < lo -> (arrOf st')[k]? = (arrOf st)[k]?
  pend:pendingOf st' = pendingOf st
section
variable {M:Model} {A:Around} {E:Value -> Shared -> Prop} {s:Shared} {ρ:Keyed -> Nat} {kd:SortKind} {P:Keyed -> Prop} {a₀:Array Keyed}
end
end Vs

set_option Elab.async false
set_option linter.all false
set_option maxRecDepth 100000
namespace Vs
open PySem PyProof.Rows
section
variable {M:Model} {A:Around} {E:Value -> Shared -> Prop} {s:Shared} {ρ:Keyed -> Nat} {kd:SortKind} {P:Keyed -> Prop} {a₀:Array Keyed}
end
end Vs

set_option Elab.async false
set_option linter.all false
set_option maxRecDepth 100000
namespace Vs
open PySem PyProof.Rows
section
variable {M:Model} {A:Around} {E:Value -> Shared -> Prop} {s:Shared} {ρ:Keyed -> Nat} {kd:SortKind} {P:Keyed -> Prop} {a₀:Array Keyed}
end
end Vs

set_option Elab.async false
set_option linter.all false
set_option maxRecDepth 100000
namespace Vs
open PySem PyProof.Rows
noncomputable def So (ρ:Keyed -> Nat) (l:List Keyed):Prop:=l.Pairwise fun x y=>ρ x <= ρ y
structure J (ρ:Keyed -> Nat) (L O A B:List Keyed):Prop where
  o:So ρ O
  a:So ρ A
  b:So ρ B
  oa:∀ x ∈ O,∀ y ∈ A,ρ x <= ρ y
  ob:∀ x ∈ O,∀ y ∈ B,ρ x <= ρ y
  p:(O ++ (A ++ B)).Perm L
noncomputable def Good (ρ:Keyed -> Nat) (L r:List Keyed):Prop:=So ρ r /\ r.Perm L
section
variable {ρ:Keyed -> Nat} {L O A B X:List Keyed} {x z:Keyed}
end
structure Kp (st st':SortSt):Prop where
  a:arrOf st' = arrOf st
  k:kindOf st' = kindOf st
  p:pendingOf st' = pendingOf st
  f:failedOf st' = failedOf st
section
variable {M:Model} {A:Around} {E:Value -> Shared -> Prop} {s:Shared} {ρ:Keyed -> Nat} {kd:SortKind} {P:Keyed -> Prop}
end
end Vs

set_option Elab.async false
set_option linter.all false
set_option maxRecDepth 100000
namespace Vs
open PySem PyProof.Rows
section
variable {M:Model} {Ar:Around} {E:Value -> Shared -> Prop} {s:Shared} {ρ:Keyed -> Nat} {kd:SortKind} {P:Keyed -> Prop} {a b out:Array Keyed} {L:List Keyed} {ia ib:Nat}
noncomputable abbrev GS:=Option (Array Keyed) × Array Keyed × Nat × Nat × Nat × Nat × Nat
noncomputable def V (ρ:Keyed -> Nat) (L:List Keyed) (a b out:Array Keyed) (ia ib:Nat):Prop:=J ρ L out.toList (a.toList.drop ia) (b.toList.drop ib)
noncomputable def Left (ρ:Keyed -> Nat) (L:List Keyed) (a b:Array Keyed) (t:Nat) (out:Array Keyed) (ia ib:Nat):Prop:=V ρ L a b out ia ib /\ ia + 1 < a.size /\ ib < b.size /\ t <= ia + ib
noncomputable def PG (ρ:Keyed -> Nat) (L:List Keyed) (a b:Array Keyed) (t:Nat) (st0:SortSt) (r:ForInStep GS) (st:SortSt):Prop:=Kp st0 st /\ match r with
  | .done c=>(∃ arr,c.1 = some arr /\ Good ρ L arr.toList) \/ (c.1 = none /\ Left ρ L a b t c.2.1 c.2.2.1 c.2.2.2.1)
  | .yield c=>c.1 = none /\ Left ρ L a b t c.2.1 c.2.2.1 c.2.2.2.1
structure Two (ρ:Keyed -> Nat) (P:Keyed -> Prop) (a b:Array Keyed):Prop where
  pa:∀ x ∈ a.toList,P x
  pb:∀ x ∈ b.toList,P x
  sa:So ρ a.toList
  sb:So ρ b.toList
  a1:1 <= a.size
  b1:1 <= b.size
  z:∀ y ∈ b.toList,∀ z,a[a.size - 1]? = some z -> ρ y <= ρ z
  y:∀ y ∈ a.toList,∀ z,b[0]? = some z -> ρ z <= ρ y
noncomputable abbrev IS:=Option (Array Keyed) × Array Keyed × Nat × Nat × Nat × Nat
noncomputable abbrev OS:=Option (Array Keyed) × Array Keyed × Nat × Nat × Nat
noncomputable def PO (ρ:Keyed -> Nat) (L:List Keyed) (a b:Array Keyed) (t:Nat) (st0:SortSt) (r:ForInStep OS) (st:SortSt):Prop:=match r with
  | .done c=>Kp st0 st /\ ∃ arr,c.1 = some arr /\ Good ρ L arr.toList
  | .yield c=>Kp st0 st /\ c.1 = none /\ Left ρ L a b t c.2.1 c.2.2.1 c.2.2.2.1
end
end Vs

set_option Elab.async false
set_option linter.all false
set_option maxRecDepth 100000
namespace Vs
open PySem PyProof.Rows
structure H (ρ:Keyed -> Nat) (L O A B:List Keyed):Prop where
  o:So ρ O
  a:So ρ A
  b:So ρ B
  oa:∀ x ∈ A,∀ y ∈ O,ρ x <= ρ y
  ob:∀ x ∈ B,∀ y ∈ O,ρ x <= ρ y
  p:(A ++ (B ++ O)).Perm L
section
variable {ρ:Keyed -> Nat} {L O A B X:List Keyed} {x z:Keyed}
end
section
variable {M:Model} {Ar:Around} {E:Value -> Shared -> Prop} {s:Shared} {ρ:Keyed -> Nat} {kd:SortKind} {P:Keyed -> Prop} {a b out:Array Keyed} {L:List Keyed} {na nb:Nat}
noncomputable def W (ρ:Keyed -> Nat) (L:List Keyed) (a b out:Array Keyed) (na nb:Nat):Prop:=H ρ L out.toList.reverse (a.toList.take na) (b.toList.take nb)
end
end Vs

set_option Elab.async false
set_option linter.all false
set_option maxRecDepth 100000
namespace Vs
open PySem PyProof.Rows
section
variable {M:Model} {Ar:Around} {E:Value -> Shared -> Prop} {s:Shared} {ρ:Keyed -> Nat} {kd:SortKind} {P:Keyed -> Prop} {a₀:Array Keyed}
end
end Vs

set_option Elab.async false
set_option linter.all false
set_option maxRecDepth 100000
namespace Vs
open PySem PyProof.Rows
section
variable {M:Model} {Ar:Around} {E:Value -> Shared -> Prop} {s:Shared} {ρ:Keyed -> Nat} {kd:SortKind} {P:Keyed -> Prop} {a₀:Array Keyed}
end
end Vs

set_option Elab.async false
set_option linter.all false
set_option maxRecDepth 100000
namespace Vs
open PySem PyProof.Rows PySem.W
section
variable {prog:Program} {w:World} {A:Around} {E:Value -> Shared -> Prop} {s:Shared}
end
end Vs

set_option Elab.async false
set_option linter.all false
set_option maxRecDepth 100000
namespace Vc
open PySem L2
variable [KF]
variable {G:GE} {k:Nat} {S:Stat}
end Vc

set_option Elab.async false
set_option linter.all false
set_option maxRecDepth 100000
namespace Vc
open PySem L2
variable [KF]
variable {G:GE} {k:Nat} {S:Stat}
theorem ps_imp' {X:Cx} {st:Stmt} {t t':TS} (h:PS X st t) (i:∀ Dn σ H,t' Dn σ H -> t Dn σ H):PS X st t':=fun pins s σ H Dn I q=>h pins s σ H Dn I (i Dn σ H q)
end Vc

set_option Elab.async false
set_option linter.all false
set_option maxRecDepth 100000
namespace Vc
open PySem L2
variable [KF]
variable {G:GE} {k:Nat} {S:Stat}
section
variable {elt target iter:Expr} {ifs:List Expr} {scope:Scope} {pos:Pos} {N':List Str} {caps:List (Option Nat)} {ti:TDs} {g:TGd} {tc:TB} {te:TD} {j m:Nat}
end
end Vc

set_option Elab.async false
set_option linter.all false
set_option maxRecDepth 100000
namespace Vc
open PySem L2
variable [KF]
variable {G:GE} {k:Nat} {S:Stat}
end Vc

set_option Elab.async false
set_option linter.all false
set_option maxRecDepth 100000
namespace Vc
open PySem L2
variable [KF]
variable {G:GE} {k:Nat} {S:Stat}
noncomputable def rGetL:V -> V -> Hp -> VK -> Prop:=fun o i H Q=>∃ p xs j z,o = .ref p /\ i = .int j /\ 0 <= j /\ H p = some (.lst xs) /\ xs[j.toNat]? = some z /\ Q z H
theorem get_list {X:Cx}:PGet X rGetL:=by
  intro pins s σ H o i ov iv Q I ro ri h
  obtain ⟨p,xs,j,z,rfl,rfl,h0,hp,hz,q⟩:=h
  cases ro
  obtain ⟨t,rfl⟩:=ri
  obtain ⟨hsz,its,n,r,hl,e⟩:=I.lstM hp
  obtain ⟨w,ew,rw'⟩:=r.get hz
  have hj:j.toNat < xs.length:=(List.getElem?_eq_some_iff.mp hz).1
  have h24:(sizeLine:Nat) = 2 ^ 24:=rfl
  exact wpAny_getItem_list (items:=its.toArray) ⟨_,e,rfl,n,rfl⟩ h0 (by omega) (by simpa using ew) ⟨z,H,I,rw',q⟩
noncomputable def augQ (i:Nat) (j e:Int) (σ:Sd) (Q:Sd -> Prop):Prop:=match σ[i]? with
  | some (some (.own xs))=>match xs[j.toNat]? with
    | some (.int z)=>0 <= j /\ Q (σ.set i (some (.own (xs.set j.toNat (.int (z + e))))))
    | _=>False
  | _=>False
noncomputable def tAug (i:Nat) (tx:TV) (c:Int):TSd:=fun De σ=>isOwn σ i /\ tx σ fun y σ1=>match drf σ1 y with
  | some (.int j)=>augQ i j c σ1 De.nx
  | _=>False
theorem s_aug (i:Nat) {x:Str} {ix:Expr} {tx:TV} {c:Int} {pos spos npos cpos:Pos} {cj:Nat} (ho:EO G k S (.Name x npos) (tVarD i)) (hx:EO G k S ix tx) (he:EO G k S (.Constant (.int c) cj cpos) (tCD (.int c)))
    (ha:∀ ov iv new,augStore ix ov iv new = (do holding [new,ov,iv] (setItem ov iv new);release [new,ov,iv] [];pure .next):=by intros;rfl):ES G k S (.AugAssign (.Subscript (.Name x npos) ix spos) .Add (.Constant (.int c) cj cpos) pos) (tAug i tx c):=.mk fun X Y ok =>
  ps_imp' (ps_augS (ho X Y ok) (hx X Y ok) get_list (he X Y ok) ip_add set_list ha) fun Dn σ H q=>by
    obtain ⟨F,σd,De,R,⟨⟨ys,e0⟩,q⟩,K⟩:=q
    refine ⟨F,σd,fun ov σ2=>ov = .var i /\ σ2 = σd,R,?_,fun v2 H2 F2 ov σ2 s2 R2 r2 q2=>?_⟩
    · unfold tVarD;rw [e0];exact ⟨rfl,rfl⟩
    obtain ⟨rfl,rfl⟩:=q2
    have r2:σ[i]? = some (some v2):=r2
    refine ⟨F2,σ2,_,R2,q,fun v3 H3 F3 y σ3 s3 R3 r3 q3=>?_⟩
    split at q3
    · rename_i j ej
      unfold augQ at q3
      split at q3
      · rename_i xs ex
        split at q3
        · rename_i z ez
          obtain ⟨a,vs,w1,w2,w3,w4,w5⟩:=R3.own i xs ex
          rw [r2] at w1;cases w1
          have rj:=(R3.drf r3 ej).int
          subst rj
          obtain ⟨u,eu,ru⟩:=w3.get ez
          cases ru
          refine ⟨a,vs,j,_,rfl,rfl,q3.1,w2,eu,F3,σ3,fun ov σ4=>ov = .val (.int c) /\ σ4 = σ3,R3,⟨rfl,rfl⟩,fun v4 H4 F4 ov σ4 s4 R4 r4 q4=>?_⟩
          obtain ⟨rfl,rfl⟩:=q4
          have r4:Rep F4 v4 (.int c):=r4
          cases r4
          refine ⟨z,c,rfl,rfl,?_⟩
          obtain ⟨a',vs',y1,y2,y3,y4,y5⟩:=R4.own i xs ex
          rw [r2] at y1;cases y1
          have hjl:j.toNat < xs.length:=(List.getElem?_eq_some_iff.mp ez).1
          refine ⟨a,vs',j,j.toNat,rfl,rfl,y2,?_,?_⟩
          · unfold ixN
            rw [if_pos q3.1,if_pos (by rw [y3.length];omega)]
          · exact K.nx _ _ F4 _ ((s2.trans s3).trans s4) (R4.write ex r2 (RepL.set (.int _) j.toNat y3)) q3.2
        · exact q3.elim
      · exact q3.elim
    · exact q3.elim
end Vc

set_option Elab.async false
set_option linter.all false
set_option maxRecDepth 100000

namespace Vc
open PySem L2
variable [KF]
variable {G:GE} {k:Nat} {S:Stat}

structure Apt (Y:Dyn) (F:Hp) (σd:Sd) (σ:St) (H:Hp) (b:Addr) (o:HO):Prop where
  h:H b = some o
  f:F b = none
  no:NoOwn σd σ b
  z:Y.H0 b = none
  nb:b ∉ Y.ob
structure Pots (H H':Hp) (p:Addr) (as:List Addr) (cs:List Int):Prop where
  same:Same H H'
  list:H' p = some (.lst (as.map V.ref))
  fresh:∀ b ∈ p :: as,H b = none
  nd:(p :: as).Nodup
  len:as.length = cs.length
  pot:∀ (i:Nat) (a:Addr) (c:Int),as[i]? = some a -> cs[i]? = some c -> H' a = some (.lst [.int c,.int 0])
end Vc

set_option Elab.async false
set_option linter.all false
set_option maxRecDepth 100000

namespace Vc
open PySem L2
variable [KF]
variable {G:GE} {k:Nat} {S:Stat}
noncomputable def lPots (Y:Dyn):TS:=fun Dn σ H=>∃ F ns,RS Y F [some (.sh (.lst (List.map D.int ns)))] σ H /\ Y.H0 = H /\ (Y.io = [] /\ Y.ob = []) /\ ns.length <= 63 /\ ∀ p as cs H',Pots H H' p as cs -> Dn.rt (.ref p) H'
structure EPots (G:GE) (k:Nat) (S:Stat) (b:List Stmt) :Prop where
  run:∀ X Y,XOk X G k S Y -> PSs X b (lPots Y)
instance {G:GE} {k:Nat} {S:Stat} {b:List Stmt} :CoeFun (EPots G k S b) fun _=>∀ X Y,XOk X G k S Y -> PSs X b (lPots Y):=⟨EPots.run⟩
section
variable {c:Expr} {zs es:List Expr} {tg iter:Expr} {scope:Scope} {N':List Str} {p1 p2 p3 p4 p5 p6 p7:Pos}
end
end Vc

set_option Elab.async false
set_option linter.all false
set_option maxRecDepth 100000

namespace Vc
open PySem L2
variable [KF]
variable {G:GE} {k:Nat} {S:Stat}
theorem ix2_0 (a b:D) (Q:D -> Prop):ixD (.lst [a,b]) (.int 0) Q = Q a:=rfl
theorem ix2_1 (a b:D) (Q:D -> Prop):ixD (.lst [a,b]) (.int 1) Q = Q b:=rfl
theorem ixN2_0:ixN 2 0 = some 0:=rfl
theorem ixN2_1:ixN 2 1 = some 1:=rfl
end Vc

set_option Elab.async false
set_option linter.all false
set_option maxRecDepth 100000

namespace Vc
open PySem L2
variable [KF]
section
variable {prog:Program} {w:World} {A:Around} {R:Result -> Shared -> Prop}
theorem args_min_p (a:Value):argsOk "min" ⟨[a],[]⟩:=by unfold argsOk;kernel_rfl
theorem min_plain {E:Value -> Shared -> Prop} {s:Shared} {its:Array Value} {bt:Nat -> Nat -> Bool} (hh:A.handled = none) (hc:CmpIn prog w A.in1 .Lt s.heap its bt) {l:Addr} (hl:s.heap.IsList l its) {Q:Value -> Shared -> Prop}
    (q0:its.size ≠ 0)
    (q1:∀ v g tk,its[bestI bt (its.size - 1)]? = some v -> (∀ b o,s.heap.get? b = some o -> g.get? b = some o) -> Q v { s with heap:=g,toks:=tk }) :
    wpAny (model prog w) A (call (.builtin "min") [.ref l] []) Q E s:=by
  have nm:(toString "min" ++ toString ".loop":String) = "min.loop":=by decide
  refine wpAny_call (codeAny_call_builtin F.plain_min F.entry_min ?_)
  have run:wpAny (model prog w) A.in1 (Builtin.«min» ⟨[.ref l],[]⟩) (fun fin s'=>match fin with
      | .done f=>(match (Except.ok f:Result) with | .ok (.ret v)=>Q v s' | .ok _=>False | .error e=>E e s')
      | .again c'=>c'.quiet = true /\ codeAny (model prog w) A c' (fun r s'=>match r with | .ok (.ret v)=>Q v s' | .ok _=>False | .error e=>E e s') s') E s:=by
    show wpAny _ A.in1 (Builtin.Builtins.bindParams "min" ["key","default"] 0 ⟨[],[]⟩ >>= _) _ _ s
    refine wpAny_bind (wpAny_of_eq (show Builtin.Builtins.bindParams "min" ["key","default"] 0 ⟨[],[]⟩ = pure [none,none] from rfl) (wpAny_bind (wpAny_pure ?_)))
    refine wpAny_bind (wpAny_pyIter_list hl (wpAny_bind (wpAny_newObj_type ?_)))
    generalize hg1:s.heap.push { cls:=.type "list_iterator",data:=.fields #[.ref l,.int 0 0] } = g1
    have n1:g1.objs.size = s.heap.objs.size + 1:=by rw [<- hg1];exact Heap.size_push ..
    have I0:(g1.push { cls:=.type "list",dict:=none,data:=.seq ([]:List Value).toArray }).IsListIter s.heap.objs.size l 0:=⟨_,Heap.get?_push_of_some _ (by rw [<- hg1];exact Heap.get?_push_size _ rfl),rfl,rfl⟩
    have S0:=Heap.get?_push_size g1 (o:={ cls:=.type "list",dict:=none,data:=.seq ([]:List Value).toArray }) rfl
    have k0:∀ b o,s.heap.get? b = some o -> (g1.push { cls:=.type "list",dict:=none,data:=.seq ([]:List Value).toArray }).get? b = some o:=fun b o e=>Heap.get?_push_of_some _ (by rw [<- hg1];exact Heap.get?_push_of_some _ e)
    have fr:∀ a,s.heap.objs.size <= a -> s.heap.get? a = none:=fun a ha=>by
      cases e:s.heap.get? a with
      | none=>rfl
      | some o=>exact absurd (Heap.lt_size e) (Nat.not_lt.mpr ha)
    have nI:s.heap.get? s.heap.objs.size = none:=fr _ (Nat.le_refl _)
    have nS:s.heap.get? g1.objs.size = none:=fr _ (by rw [n1];exact Nat.le_succ _)
    have IS:s.heap.objs.size ≠ g1.objs.size:=by rw [n1];exact Nat.ne_of_lt (Nat.lt_succ_self _)
    rw [nm]
    refine wpAny_pure ⟨plainId_quiet F.plain_min_loop _,?_⟩
    generalize hg2:g1.push { cls:=.type "list",dict:=none,data:=.seq ([]:List Value).toArray } = g2 at I0 S0 k0
    have hl2:g2.IsList l its:=by obtain ⟨o,e,r⟩:=hl;exact ⟨o,k0 _ _ e,r⟩
    refine codeAny_builtin F.entry_min_loop ?_
    rw [Around.under_plainId F.plain_min_loop _]
    show wpAny _ A.in1 (seqItems? (.ref g1.objs.size) >>= _) _ _ _
    refine wpAny_bind (wpAny_seqItems (s:={ s with heap:=g2 }) S0 rfl ?_)
    show wpAny _ A.in1 (tryCatch (pyNext (.ref s.heap.objs.size)) _ >>= _) _ _ _
    have hz:=q0
    · have hx:its[0]? = some its[0]:=by simp [Nat.pos_of_ne_zero hz]
      refine wpAny_bind (wpAny_tryCatch (wpAny_pyNext_list_item I0 hl2 hx fun g I1 x1=>?_))
      have S1:=x1.extBut _ _ IS.symm S0
      have k1:∀ b o,s.heap.get? b = some o -> g.get? b = some o:=fun b o e=>x1.extBut b o (fun z=>by rw [z,nI] at e;cases e) (k0 b o e)
      show wpAny _ A.in1 (updateSeq g1.objs.size (fun _=>#[its[0],its[0]]) >>= _) _ _ _
      refine wpAny_bind (wpAny_updateSeq (s:={ s with heap:=g }) S1 rfl ?_)
      rw [nm]
      refine wpAny_pure ⟨plainId_quiet F.plain_min_loop _,min_on hh hc hl IS nI nS _ _ 0 _ its[0] _ rfl (Nat.pos_of_ne_zero hz) ?_ hx (Heap.get?_update_self _ S1 rfl) (fun b o e=>(Heap.get?_update_other _ _ (fun z=>by rw [<- z,nS] at e;cases e)).trans (k1 b o e)) fun v g' tk hv k'=>q1 v g' tk hv k'⟩
      obtain ⟨o,e,r⟩:=I1
      exact ⟨o,(Heap.get?_update_other _ _ (Ne.symm IS)).trans e,r⟩
  simp only [checkBuiltinCall,F.kind_min]
  cases hsig:Manifest.signature? "min" with
  | none=>exact wpAny_pure run
  | some sig =>
    have ha:argsOk "min" ⟨[.ref l],[]⟩:=args_min_p _
    have ha':Bind.checkArgs "min" sig ⟨[.ref l],[]⟩ = pure ():=by simpa only [argsOk,hsig] using ha
    simp only [ha']
    exact wpAny_pure run
theorem max_on {h0:Heap} {its:Array Value} {bt:Nat -> Nat -> Bool} (hh:A.handled = none) (hc:CmpIn prog w A.in1 .Gt h0 its bt) {I l S:Addr} (hl0:h0.IsList l its) (IS:I ≠ S) (n0:h0.get? I = none) (n1:h0.get? S = none) (kw:List (Str × Value)) :
    ∀ (d j:Nat) (s:Shared) (v:Value) (c:Nat),its.size - (j + 1) = d -> j + 1 <= its.size -> s.heap.IsListIter I l (j + 1) -> its[bestI bt j]? = some v -> s.heap.get? S = some { cls:=.type "list",dict:=none,data:=.seq #[v,v] c,slots:=#[] } ->
    (∀ b o,h0.get? b = some o -> s.heap.get? b = some o) ->
    (∀ v g tk,its[bestI bt (its.size - 1)]? = some v -> (∀ b o,h0.get? b = some o -> g.get? b = some o) -> R (.ok (.ret v)) { s with heap:=g,toks:=tk }) ->
    codeAny (model prog w) A (.builtin "max.loop" ⟨[.ref I,.none,.ref S],kw⟩) R s:=by
  have nm:(toString "max" ++ toString ".loop":String) = "max.loop":=by decide
  have lI:l ≠ I:=fun z=>by obtain ⟨o,e,_⟩:=hl0;rw [z,n0] at e;cases e
  have lS:l ≠ S:=fun z=>by obtain ⟨o,e,_⟩:=hl0;rw [z,n1] at e;cases e
  have nI:∀ {b o},h0.get? b = some o -> b ≠ I:=fun e z=>by rw [z,n0] at e;cases e
  have nS:∀ {b o},h0.get? b = some o -> b ≠ S:=fun e z=>by rw [z,n1] at e;cases e
  intro d
  induction d with
  | zero =>
    intro j s v c hd hj hI hv hS k0 hR
    have e1:j + 1 = its.size:=by omega
    have hl:s.heap.IsList l its:=by obtain ⟨o,e,r⟩:=hl0;exact ⟨o,k0 _ _ e,r⟩
    refine codeAny_builtin F.entry_max_loop ?_
    rw [Around.under_plainId F.plain_max_loop _]
    show wpAny _ A.in1 (seqItems? (.ref S) >>= _) _ _ s
    refine wpAny_bind (wpAny_seqItems hS rfl ?_)
    show wpAny _ A.in1 (tryCatch (pyNext (.ref I)) _ >>= _) _ _ s
    refine wpAny_bind (wpAny_tryCatch (wpAny_pyNext_list_end (show A.in1.handled = none from hh) hI hl (by simp;omega) fun g x1=>?_))
    have S1:=x1 S _ IS.symm hS
    show wpAny _ A.in1 (updateSeq S (fun _=>#[]) >>= _) _ _ _
    refine wpAny_bind (wpAny_updateSeq (s:={ s with heap:=g }) S1 rfl (wpAny_bind (wpAny_letGo (wpAny_pure ?_))))
    have e2:its.size - 1 = j:=by omega
    refine hR v _ s.toks (by rw [e2];exact hv) fun b o e=>?_
    exact (Heap.get?_update_other _ _ (Ne.symm (nS e))).trans (x1 b o (nI e) (k0 b o e))
  | succ d ih =>
    intro j s v c hd hj hI hv hS k0 hR
    have hlt:j + 1 < its.size:=by omega
    have hl:s.heap.IsList l its:=by obtain ⟨o,e,r⟩:=hl0;exact ⟨o,k0 _ _ e,r⟩
    refine codeAny_builtin F.entry_max_loop ?_
    rw [Around.under_plainId F.plain_max_loop _]
    show wpAny _ A.in1 (seqItems? (.ref S) >>= _) _ _ s
    refine wpAny_bind (wpAny_seqItems hS rfl ?_)
    show wpAny _ A.in1 (tryCatch (pyNext (.ref I)) _ >>= _) _ _ s
    have hx:its[j + 1]? = some its[j + 1]:=by simp [hlt]
    refine wpAny_bind (wpAny_tryCatch (wpAny_pyNext_list_item hI hl hx fun g I1 x1=>?_))
    have S1:=x1.extBut S _ IS.symm hS
    have k1:∀ b o,h0.get? b = some o -> g.get? b = some o:=fun b o e=>x1.extBut b o (nI e) (k0 b o e)
    show wpAny _ A.in1 (tryCatch (holding [its[j + 1],its[j + 1]] (richCompare .Gt its[j + 1] v >>= _)) _ >>= _) _ _ _
    refine wpAny_bind (wpAny_tryCatch (wpAny_holding (wpAny_bind (hc (j + 1) (bestI bt j) _ v { s with heap:=g } _ _ hx hv k1 ?_))))
    refine wpAny_bind (wpAny_holding (wpAny_truthy_bool (wpAny_bind (wpAny_letGo (wpAny_pure ?_)))))
    cases hb:bt (j + 1) (bestI bt j) with
    | true =>
      simp only [if_true]
      refine wpAny_bind (wpAny_updateSeq (s:={ s with heap:=g }) S1 rfl (wpAny_bind (wpAny_letGo ?_)))
      rw [nm]
      refine wpAny_pure ⟨plainId_quiet F.plain_max_loop _,ih (j + 1) _ its[j + 1] _ (by omega) hlt ?_ (by simp only [bestI,hb,if_true];exact hx) (Heap.get?_update_self _ S1 rfl) (fun b o e=>(Heap.get?_update_other _ _ (Ne.symm (nS e))).trans (k1 b o e)) fun v' g' tk hv' k'=>?_⟩
      · obtain ⟨o,e,r⟩:=I1;exact ⟨o,(Heap.get?_update_other _ _ (Ne.symm IS)).trans e,r⟩
      · exact hR v' g' tk hv' k'
    | false =>
      simp only [Bool.false_eq_true,if_false]
      refine wpAny_bind (wpAny_letGo ?_)
      rw [nm]
      refine wpAny_pure ⟨plainId_quiet F.plain_max_loop _,ih (j + 1) _ v c (by omega) hlt I1 (by simp only [bestI,hb,Bool.false_eq_true,if_false];exact hv) S1 k1 fun v' g' tk hv' k'=>?_⟩
      exact hR v' g' tk hv' k'
theorem args_max_p (a:Value):argsOk "max" ⟨[a],[]⟩:=by unfold argsOk;kernel_rfl
theorem max_plain {E:Value -> Shared -> Prop} {s:Shared} {its:Array Value} {bt:Nat -> Nat -> Bool} (hh:A.handled = none) (hc:CmpIn prog w A.in1 .Gt s.heap its bt) {l:Addr} (hl:s.heap.IsList l its) {Q:Value -> Shared -> Prop}
    (q0:its.size ≠ 0)
    (q1:∀ v g tk,its[bestI bt (its.size - 1)]? = some v -> (∀ b o,s.heap.get? b = some o -> g.get? b = some o) -> Q v { s with heap:=g,toks:=tk }) :
    wpAny (model prog w) A (call (.builtin "max") [.ref l] []) Q E s:=by
  have nm:(toString "max" ++ toString ".loop":String) = "max.loop":=by decide
  refine wpAny_call (codeAny_call_builtin F.plain_max F.entry_max ?_)
  have run:wpAny (model prog w) A.in1 (Builtin.«max» ⟨[.ref l],[]⟩) (fun fin s'=>match fin with
      | .done f=>(match (Except.ok f:Result) with | .ok (.ret v)=>Q v s' | .ok _=>False | .error e=>E e s')
      | .again c'=>c'.quiet = true /\ codeAny (model prog w) A c' (fun r s'=>match r with | .ok (.ret v)=>Q v s' | .ok _=>False | .error e=>E e s') s') E s:=by
    show wpAny _ A.in1 (Builtin.Builtins.bindParams "max" ["key","default"] 0 ⟨[],[]⟩ >>= _) _ _ s
    refine wpAny_bind (wpAny_of_eq (show Builtin.Builtins.bindParams "max" ["key","default"] 0 ⟨[],[]⟩ = pure [none,none] from rfl) (wpAny_bind (wpAny_pure ?_)))
    refine wpAny_bind (wpAny_pyIter_list hl (wpAny_bind (wpAny_newObj_type ?_)))
    generalize hg1:s.heap.push { cls:=.type "list_iterator",data:=.fields #[.ref l,.int 0 0] } = g1
    have n1:g1.objs.size = s.heap.objs.size + 1:=by rw [<- hg1];exact Heap.size_push ..
    have I0:(g1.push { cls:=.type "list",dict:=none,data:=.seq ([]:List Value).toArray }).IsListIter s.heap.objs.size l 0:=⟨_,Heap.get?_push_of_some _ (by rw [<- hg1];exact Heap.get?_push_size _ rfl),rfl,rfl⟩
    have S0:=Heap.get?_push_size g1 (o:={ cls:=.type "list",dict:=none,data:=.seq ([]:List Value).toArray }) rfl
    have k0:∀ b o,s.heap.get? b = some o -> (g1.push { cls:=.type "list",dict:=none,data:=.seq ([]:List Value).toArray }).get? b = some o:=fun b o e=>Heap.get?_push_of_some _ (by rw [<- hg1];exact Heap.get?_push_of_some _ e)
    have fr:∀ a,s.heap.objs.size <= a -> s.heap.get? a = none:=fun a ha=>by
      cases e:s.heap.get? a with
      | none=>rfl
      | some o=>exact absurd (Heap.lt_size e) (Nat.not_lt.mpr ha)
    have nI:s.heap.get? s.heap.objs.size = none:=fr _ (Nat.le_refl _)
    have nS:s.heap.get? g1.objs.size = none:=fr _ (by rw [n1];exact Nat.le_succ _)
    have IS:s.heap.objs.size ≠ g1.objs.size:=by rw [n1];exact Nat.ne_of_lt (Nat.lt_succ_self _)
    rw [nm]
    refine wpAny_pure ⟨plainId_quiet F.plain_max_loop _,?_⟩
    generalize hg2:g1.push { cls:=.type "list",dict:=none,data:=.seq ([]:List Value).toArray } = g2 at I0 S0 k0
    have hl2:g2.IsList l its:=by obtain ⟨o,e,r⟩:=hl;exact ⟨o,k0 _ _ e,r⟩
    refine codeAny_builtin F.entry_max_loop ?_
    rw [Around.under_plainId F.plain_max_loop _]
    show wpAny _ A.in1 (seqItems? (.ref g1.objs.size) >>= _) _ _ _
    refine wpAny_bind (wpAny_seqItems (s:={ s with heap:=g2 }) S0 rfl ?_)
    show wpAny _ A.in1 (tryCatch (pyNext (.ref s.heap.objs.size)) _ >>= _) _ _ _
    have hz:=q0
    · have hx:its[0]? = some its[0]:=by simp [Nat.pos_of_ne_zero hz]
      refine wpAny_bind (wpAny_tryCatch (wpAny_pyNext_list_item I0 hl2 hx fun g I1 x1=>?_))
      have S1:=x1.extBut _ _ IS.symm S0
      have k1:∀ b o,s.heap.get? b = some o -> g.get? b = some o:=fun b o e=>x1.extBut b o (fun z=>by rw [z,nI] at e;cases e) (k0 b o e)
      show wpAny _ A.in1 (updateSeq g1.objs.size (fun _=>#[its[0],its[0]]) >>= _) _ _ _
      refine wpAny_bind (wpAny_updateSeq (s:={ s with heap:=g }) S1 rfl ?_)
      rw [nm]
      refine wpAny_pure ⟨plainId_quiet F.plain_max_loop _,max_on hh hc hl IS nI nS _ _ 0 _ its[0] _ rfl (Nat.pos_of_ne_zero hz) ?_ hx (Heap.get?_update_self _ S1 rfl) (fun b o e=>(Heap.get?_update_other _ _ (fun z=>by rw [<- z,nS] at e;cases e)).trans (k1 b o e)) fun v g' tk hv k'=>q1 v g' tk hv k'⟩
      obtain ⟨o,e,r⟩:=I1
      exact ⟨o,(Heap.get?_update_other _ _ (Ne.symm IS)).trans e,r⟩
  simp only [checkBuiltinCall,F.kind_max]
  cases hsig:Manifest.signature? "max" with
  | none=>exact wpAny_pure run
  | some sig =>
    have ha:argsOk "max" ⟨[.ref l],[]⟩:=args_max_p _
    have ha':Bind.checkArgs "max" sig ⟨[.ref l],[]⟩ = pure ():=by simpa only [argsOk,hsig] using ha
    simp only [ha']
    exact wpAny_pure run
end
end Vc

set_option Elab.async false
set_option linter.all false
set_option maxRecDepth 100000

namespace Vc
open PySem L2
variable [KF]
variable {G:GE} {k:Nat} {S:Stat}
noncomputable def tUnp (te:TD) (g:TGd):TSd:=fun De σ=>te σ fun d σ1=>g d σ1 De.nx
theorem s_unp {tg e:Expr} {te:TD} {g:TGd} {pos:Pos} (he:ED G k S e te) (hg:EG G k S tg g) (hs:∀ line env,swapsWithSole [tg] e line env = pure false:=by intro _ _;rfl) (hw:∀ env,swappedStores [tg] e env = pure none:=by intro _;rfl)
    (h1:∀ env,(assignEach [tg] env).map (·.2) = [assign tg env]:=by intro _;rfl):ES G k S (.Assign [tg] e pos) (tUnp te g):=.mk fun X Y ok=>ps_imp (L2.ps_asg (he X Y ok) (hg X Y ok) (hs _ _) (hw _) (h1 _)) fun Dn σ H q=>by
  obtain ⟨F,σd,De,R,q,K⟩:=q
  refine ⟨F,σd,_,R,q,fun v1 H1 F1 d σ1 s1 R1 r1 q1=>⟨F1,σ1,d,_,R1,r1,q1,fun σ' H' F' σd' s' R' q'=>K.nx σ' H' F' σd' (s1.trans s') R' q'⟩⟩
noncomputable def rMin1 (K:PySem.W.Frag):List V -> Hp -> VK -> Prop:=fun xs H Q=>∃ F p us ds,xs = [.ref p] /\ Same F H /\ SqL K H p us /\ RepL F us ds /\ (ds.all isInt = true \/ ds.all intTup = true) /\ ds ≠ [] /\ ∀ v d,Rep F v d -> bestD ds = some d -> Q v H
theorem call_min1 {X:Cx} (hc:X.calm = true) (hu:X.A.in1.units < cLine):CallR X (.builtin "min") (rMin1 X.K):=by
  intro pins s σ H xs us0 Q I rv0 h
  obtain ⟨F,p,us,ds,rfl,sm,hq,rl,hi,hne,q⟩:=h
  obtain ⟨u,rfl,ru⟩:=vals1 rv0
  cases ru
  obtain ⟨its,rv,pl,_⟩:=I.list hq
  have len:its.toArray.size = ds.length:=by rw [List.size_toArray,<- rv.length,rl.length]
  refine min_plain (I.ok.hd hc) (cmp_in I sm hu rl rv hi) pl.isList (by rw [len];exact fun z=>hne (List.length_eq_zero_iff.mp z)) fun z g tk hz kp=>?_
  have hz':its[bestI (btD ds) (ds.length - 1)]? = some z:=by rw [len] at hz;simpa using hz
  have hl:bestI (btD ds) (ds.length - 1) < us.length:=by rw [rv.length];exact (List.getElem?_eq_some_iff.mp hz').1
  have ev:us[bestI (btD ds) (ds.length - 1)]? = some us[bestI (btD ds) (ds.length - 1)]:=List.getElem?_eq_getElem hl
  obtain ⟨dd,e1,e2⟩:=rl.get' ev
  obtain ⟨zz,e3,e4⟩:=rv.get ev
  rw [hz'] at e3;cases e3
  have eb:bestD ds = some dd:=by rw [best_is hne,List.getD_eq_getElem?_getD,e1];rfl
  exact ⟨_,H,I.kept kp,e4,q _ dd e2 eb⟩
noncomputable def min1F:List D -> (EV -> Prop) -> Prop
  | [.lst xs],Q=>((xs.all isInt = true \/ xs.all intTup = true) /\ xs ≠ []) /\ Q (.val ((bestD xs).getD .non))
  | _,_=>False
theorem units1 {X:Cx} {Y:Dyn} (ok:XOk X G k S Y):X.A.in1.units < cLine:=by
  have:=ok.units
  show X.A.units + 1 < cLine
  omega
theorem f_min1 (hh:S.hot = false:=by rfl):ClR G k S (.builtin "min") min1F:=⟨rMin1,fun X Y ok=>call_min1 (ok.calm hh) (units1 ok),fun Y F H σd σ vs ds Qd Q R r q g=>by
  unfold min1F at q
  split at q
  · obtain ⟨v,rfl,rv⟩:=r.one
    obtain ⟨a,us,rfl,h1,h2⟩:=rv.lst
    refine ⟨F,a,us,_,rfl,R.fr,.inl h1,h2,q.1.1,q.1.2,fun v d rd e=>?_⟩
    have q2:=q.2
    rw [e] at q2
    exact g.val R rd q2
  · exact q.elim⟩
noncomputable def maxB:List D -> Option D
  | []=>none
  | x :: xs=>some (xs.foldl (fun b y=>if ltI b y = true then y else b) x)
noncomputable def btG (xs:List D) (i j:Nat):Bool:=ltI (xs.getD j .non) (xs.getD i .non)
theorem maxI_fold (xs:List D) (x:D):∀ n,n < (x :: xs).length -> (x :: xs).getD (bestI (btG (x :: xs)) n) .non = (xs.take n).foldl (fun b y=>if ltI b y = true then y else b) x
  | 0,_=>rfl
  | n + 1,h=>by
    have ih:=maxI_fold xs x n (by simp at h ⊢;omega)
    have hl:n < xs.length:=by simpa using h
    have gx:(x :: xs).getD (n + 1) .non = xs[n]:=by
      rw [List.getD_eq_getElem?_getD,List.getElem?_cons_succ,List.getElem?_eq_getElem hl];rfl
    rw [List.take_add_one,List.getElem?_eq_getElem hl,Option.toList_some,List.foldl_append,List.foldl_cons,List.foldl_nil,<- ih]
    have e:btG (x :: xs) (n + 1) (bestI (btG (x :: xs)) n) = ltI ((x :: xs).getD (bestI (btG (x :: xs)) n) .non) xs[n]:=by
      unfold btG
      rw [gx]
    show (x :: xs).getD (if btG (x :: xs) (n + 1) (bestI (btG (x :: xs)) n) = true then n + 1 else bestI (btG (x :: xs)) n) .non = _
    rw [e]
    split
    · exact gx
    · rfl
theorem maxB_is {xs:List D} (h:xs ≠ []):maxB xs = some (xs.getD (bestI (btG xs) (xs.length - 1)) .non):=by
  cases xs with
  | nil=>exact absurd rfl h
  | cons x xs =>
    have:=maxI_fold xs x xs.length (by simp)
    have e:(x :: xs).length - 1 = xs.length:=by simp
    rw [e,this,List.take_length];rfl
theorem cmp_inG {X:Cx} {pins:List (Addr × Obj)} {σ:St} {H F:Hp} {s:Shared} (I:L2.Inv X pins σ H s) {vs:List V} {xs:List D} {its:List Value} (rl:RepL F vs xs) (rv:Vals vs its) (hc:xs.all isInt = true) :
    CmpIn X.prog X.w X.A.in1 .Gt s.heap its.toArray (btG xs):=by
  intro i j x y s' Q E ex ey kp q
  have ex':its[i]? = some x:=by simpa using ex
  have ey':its[j]? = some y:=by simpa using ey
  have back:∀ {n z},its[n]? = some z -> ∃ v d,vs[n]? = some v /\ xs[n]? = some d /\ RelV v z /\ Rep F v d:=fun {n z} e=>by
    have hl:n < vs.length:=by rw [rv.length];exact (List.getElem?_eq_some_iff.mp e).1
    have ev:vs[n]? = some vs[n]:=List.getElem?_eq_getElem hl
    obtain ⟨d,e1,e2⟩:=rl.get' ev
    obtain ⟨u,e3,e4⟩:=rv.get ev
    rw [e] at e3;cases e3
    exact ⟨_,d,ev,e1,e4,e2⟩
  obtain ⟨v,d,_,hd,r1,p1⟩:=back ex'
  obtain ⟨u,e,_,he,r2,p2⟩:=back ey'
  have bt:btG xs i j = ltI e d:=by
    unfold btG
    rw [List.getD_eq_getElem?_getD,List.getD_eq_getElem?_getD,hd,he];rfl
  rw [bt] at q
  have h1:=List.all_eq_true.mp hc d (List.mem_of_getElem? hd)
  have h2:=List.all_eq_true.mp hc e (List.mem_of_getElem? he)
  show wpAny _ _ (compareOp .Gt x y) _ _ _
  cases d with
  | int a =>
    cases e with
    | int b =>
      cases p1;cases p2
      obtain ⟨t,rfl⟩:=r1
      obtain ⟨t',rfl⟩:=r2
      exact PyProof.Rows.gt_int q
    | _=>exact absurd h2 (by simp [isInt])
  | _=>exact absurd h1 (by simp [isInt])
noncomputable def rMax1 (K:PySem.W.Frag):List V -> Hp -> VK -> Prop:=fun xs H Q=>∃ F p us ds,xs = [.ref p] /\ Same F H /\ SqL K H p us /\ RepL F us ds /\ ds.all isInt = true /\ ds ≠ [] /\ ∀ v d,Rep F v d -> maxB ds = some d -> Q v H
theorem call_max1 {X:Cx} (hc:X.calm = true):CallR X (.builtin "max") (rMax1 X.K):=by
  intro pins s σ H xs us0 Q I rv0 h
  obtain ⟨F,p,us,ds,rfl,sm,hq,rl,hi,hne,q⟩:=h
  obtain ⟨u,rfl,ru⟩:=vals1 rv0
  cases ru
  obtain ⟨its,rv,pl,_⟩:=I.list hq
  have len:its.toArray.size = ds.length:=by rw [List.size_toArray,<- rv.length,rl.length]
  refine max_plain (I.ok.hd hc) (cmp_inG I rl rv hi) pl.isList (by rw [len];exact fun z=>hne (List.length_eq_zero_iff.mp z)) fun z g tk hz kp=>?_
  have hz':its[bestI (btG ds) (ds.length - 1)]? = some z:=by rw [len] at hz;simpa using hz
  have hl:bestI (btG ds) (ds.length - 1) < us.length:=by rw [rv.length];exact (List.getElem?_eq_some_iff.mp hz').1
  have ev:us[bestI (btG ds) (ds.length - 1)]? = some us[bestI (btG ds) (ds.length - 1)]:=List.getElem?_eq_getElem hl
  obtain ⟨dd,e1,e2⟩:=rl.get' ev
  obtain ⟨zz,e3,e4⟩:=rv.get ev
  rw [hz'] at e3;cases e3
  have eb:maxB ds = some dd:=by rw [maxB_is hne,List.getD_eq_getElem?_getD,e1];rfl
  exact ⟨_,H,I.kept kp,e4,q _ dd e2 eb⟩
noncomputable def max1F:List D -> (EV -> Prop) -> Prop
  | [.lst xs],Q=>(xs.all isInt = true /\ xs ≠ []) /\ Q (.val ((maxB xs).getD .non))
  | _,_=>False
theorem f_max1 (hh:S.hot = false:=by rfl):ClR G k S (.builtin "max") max1F:=⟨rMax1,fun X Y ok=>call_max1 (ok.calm hh),fun Y F H σd σ vs ds Qd Q R r q g=>by
  unfold max1F at q
  split at q
  · obtain ⟨v,rfl,rv⟩:=r.one
    obtain ⟨a,us,rfl,h1,h2⟩:=rv.lst
    refine ⟨F,a,us,_,rfl,R.fr,.inl h1,h2,q.1.1,q.1.2,fun v d rd e=>?_⟩
    have q2:=q.2
    rw [e] at q2
    exact g.val R rd q2
  · exact q.elim⟩
end Vc

set_option Elab.async false
set_option linter.all false
set_option maxRecDepth 100000

namespace Vc
open PySem L2
variable [KF]
variable {G:GE} {k:Nat} {S:Stat}
theorem repl_reads {P:Program} {w:World} {F H:Hp} {h:Heap} (ok:HOk P w H h) (s:Same F H) {vs:List V} {ds:List D} {us:List Value} (r:RepL F vs ds) (rv:Vals vs us) (o:ds.all (okD 7) = true):∃ as,ReadsAll h us (toPys ds) as:=RepL.reads ok s 7 r rv o
end Vc

set_option Elab.async false
set_option linter.all false
set_option maxRecDepth 100000

namespace Vc
open PySem L2 PySem.Spec PyProof.Rows
theorem fm_congr {α β:Type} {f g:α -> Option β}:∀ {xs:List α},(∀ x ∈ xs,f x = g x) -> xs.filterMap f = xs.filterMap g
  | [],_=>rfl
  | x :: xs,h=>by
    rw [List.filterMap_cons,List.filterMap_cons,h x (List.mem_cons_self ..),fm_congr fun y hy=>h y (List.mem_cons_of_mem _ hy)]
theorem rev_take {α:Type} (xs:List α):∀ m:Nat,m <= xs.length -> (List.range m).filterMap (fun k=>xs[xs.length - 1 - k]?) = xs.reverse.take m
  | 0,_=>by simp
  | m + 1,h=>by
    rw [List.range_succ,List.filterMap_append,rev_take xs m (by omega),List.take_add_one]
    congr 1
    rw [List.getElem?_reverse (by omega)]
    cases h2:xs[xs.length - 1 - m]?<;>simp [h2]
theorem rev_pick {α:Type} (xs:List α):(List.range xs.length).filterMap (fun k=>xs[xs.length - 1 - k]?) = xs.reverse:=by
  rw [rev_take xs xs.length (Nat.le_refl _)]
  exact List.take_of_length_le (by rw [List.length_reverse];exact Nat.le_refl _)
theorem slicePick_rev (its:List Value):slicePick its.toArray none none (some (-1)) = its.reverse.toArray:=by
  have hb:sliceBounds none none (some (-1)) its.toArray.size = ((its.length:Int) - 1,-1,-1):=by rw [List.size_toArray];rfl
  unfold slicePick
  rw [hb]
  show ((sliceRange ((its.length:Int) - 1) (-1) (-1)).filterMap (its.toArray[·]?)).toArray = _
  unfold sliceRange
  dsimp only
  rw [if_neg (show ¬ ((-1:Int) > 0) by decide)]
  have e:(if (its.length:Int) - 1 > -1 then ((its.length:Int) - 1 - -1 - -1 - 1) / (- -1) else 0).toNat = its.length:=by
    have:(- -1:Int) = 1:=by decide
    rw [this,Int.ediv_one]
    split<;>omega
  rw [e,List.filterMap_map]
  congr 1
  refine Eq.trans ?_ (rev_pick its)
  refine fm_congr fun k hk=>?_
  show its.toArray[((its.length:Int) - 1 + -1 * (k:Int)).toNat]? = its[its.length - 1 - k]?
  rw [List.getElem?_toArray]
  congr 1
  have:=List.mem_range.mp hk
  omega
section
variable {prog:Program} {w:World} {A:Around} {E:Value -> Shared -> Prop} {s:Shared}
theorem sliceApplied_rev {sl:Addr} {u:Tok} {n:Nat} {Q:Int × Int × Nat -> Shared -> Prop} (hs:s.heap.IsSliceOf sl .none .none (.int (-1) u))
    (h:Q ((n:Int) - 1,-1,n) s):wpAny (model prog w) A (Builtin.Slice.sliceApplied (.ref sl) (pure (n:Int))) Q E s:=by
  obtain ⟨os,hos,hcs,hds⟩:=id hs
  unfold Builtin.Slice.sliceApplied Builtin.Slice.sliceFields
  refine wpAny_bind (wpAny_bind (wpAny_field hos hds (x:=.none) rfl (wpAny_bind (wpAny_field hos hds (x:=.none) rfl (wpAny_bind (wpAny_field hos hds (x:=.int (-1) u) rfl (wpAny_pure ?_)))))))
  refine wpAny_bind (slicePart_int ?_)
  show wpAny _ _ (if ((-1:Int) == 0) = true then _ else _) _ _ s
  rw [if_neg (by decide)]
  refine wpAny_bind (slicePart_none (wpAny_bind (slicePart_none (wpAny_bind (wpAny_pure ?_)))))
  have e:Builtin.Slice.slicePlaces ((n:Int) - 1) (-1) (-1) = n:=by
    unfold Builtin.Slice.slicePlaces
    rw [if_neg (by decide)]
    have:(- -1:Int) = 1:=by decide
    rw [this,Int.ediv_one]
    split<;>omega
  show wpAny _ _ (pure ((n:Int) - 1,(-1:Int),Builtin.Slice.slicePlaces ((n:Int) - 1) (-1) (-1))) _ _ s
  rw [e]
  exact wpAny_pure h
theorem pickT_rev (xs:Array Value):((List.range xs.size).filterMap fun (m:Nat)=>xs[((xs.size:Int) - 1 + (m:Int) * (-1)).toNat]?).toArray = xs.toList.reverse.toArray:=by
  congr 1
  refine Eq.trans ?_ (rev_pick xs.toList)
  rw [Array.length_toList]
  refine fm_congr fun k hk=>?_
  rw [Array.getElem?_toList]
  congr 1
  have:=List.mem_range.mp hk
  omega
theorem getItem_tuple_rev {t sl:Addr} {items:Array Value} {u:Tok} {Q:Value -> Shared -> Prop} (ht:IsTup s.heap t items) (hs:s.heap.IsSliceOf sl .none .none (.int (-1) u))
    (h:Q (.ref s.heap.objs.size) { s with heap:=s.heap.push { cls:=.type "tuple",data:=.seq items.toList.reverse.toArray } })
    (hsz:items.size <= sizeLine):wpAny (model prog w) A (getItem (.ref t) (.ref sl)) Q E s:=by
  have htake:sizeOk (.seq items.toList.reverse.toArray):=by
    show items.toList.reverse.toArray.size <= sizeLine
    rw [List.size_toArray,List.length_reverse,Array.length_toList]
    omega
  obtain ⟨os,hos,hcs,hds⟩:=id hs
  have hTs:s.TypeIs (.ref sl) "slice":=⟨os,hos,hcs⟩
  unfold getItem
  try with_reducible refine wpAny_holding ?_
  first | refine wpAny_bind (wpAny_pure ?_) | skip
  refine wpAny_bind (wpAny_sequenceKey ht.typeIs (by decide) ?_)
  refine wpAny_bind (wpAny_callSpecial?_slot (name:=Str.ofString "__getitem__") ht.typeIs PyProof.Rows.slot_tuple_getitem
    (wpAny_call_entry PyProof.Rows.slot_tuple_getitem ht.typeIs entry_tuple_getitem ?_ (args_tuple_getitem _ _)))
  show wpAny _ _ (Builtin.Tuple.tupleItemsOf (.ref t) >>= _) _ _ s
  refine wpAny_bind (tupleItemsOf_ ht ?_)
  refine wpAny_bind (wpAny_typeOf hTs ?_)
  rw [if_pos (by decide)]
  refine wpAny_bind (sliceApplied_rev hs ?_)
  have hno:¬ ((((items.size:Int) - 1) == 0 && (-1:Int) == 1 && items.size == items.size) = true):=by
    intro q
    rw [Bool.and_eq_true,Bool.and_eq_true] at q
    exact absurd q.1.2 (by decide)
  show wpAny _ _ (if (((items.size:Int) - 1) == 0 && (-1:Int) == 1 && items.size == items.size) = true then _ else _) _ _ s
  rw [if_neg hno,pickT_rev]
  first
    | exact wpAny_bind (m:=Builtin.Tuple.tupleExact _) (wpAny_newObj_type (wpAny_pure ⟨_,rfl,wpAny_pure h⟩) htake)
    | exact wpAny_bind (m:=Builtin.Tuple.tupleExact _) (wpAny_newObj_type (wpAny_bind (wpAny_pure (wpAny_pure ⟨_,rfl,wpAny_pure h⟩))) htake)
    | exact wpAny_bind (wpAny_bind (m:=Builtin.Tuple.tupleExact _) (wpAny_newObj_type (wpAny_pure (wpAny_pure ⟨_,rfl,wpAny_pure h⟩)) htake))
    | exact wpAny_bind (wpAny_bind (m:=Builtin.Tuple.tupleExact _) (wpAny_newObj_type (wpAny_pure ⟨_,rfl,wpAny_pure h⟩) htake))
end
section
variable {X:Cx} {e:Expr} {te:TE} {st:Expr} {ts:TO} {pos p2:Pos}
noncomputable def SlS (X:Cx) (r:V -> Hp -> VK -> Prop):Prop :=
  ∀ (pins:List (Addr × Obj)) (s:Shared) (σ:L2.St) (H:Hp) (x:V) (v:Value) (u:Tok) (sl:Addr) (Q:VK),Inv X pins σ H s -> RelV x v -> s.heap.IsSliceOf sl .none .none (.int (-1) u) -> r x H Q ->
    ∃ T id,typeLookup (.type T) "__getitem__" = pure (some (.builtin id)) /\ s.TypeIs v T /\ wpAny (model X.prog X.w) X.A (getItem v (.ref sl)) (EP X pins σ Q) X.xe s
theorem SlS.or {r r':V -> Hp -> VK -> Prop} (h:SlS X r) (h':SlS X r'):SlS X (fun x H Q=>r x H Q \/ r' x H Q):=by
  intro pins s σ H x v u sl Q I rx hs q
  rcases q with q | q
  · exact h pins s σ H x v u sl Q I rx hs q
  · exact h' pins s σ H x v u sl Q I rx hs q
noncomputable def tSlR (r:V -> Hp -> VK -> Prop) (te:TE) (ts:TO):TE:=fun σ H Q=>te σ H fun x H1=>ts σ H1 fun l H2=>l = some (-1) /\ r x H2 Q
theorem pe_rev {r:V -> Hp -> VK -> Prop} (hr:SlS X r) (he:PE X e te) (hs:PO X (some st) ts):PE X (.Subscript e (.Slice none none (some st) p2) pos) (tSlR r te ts):=by
  intro pins s σ H Q I h
  refine Subscript_ (thn (he pins s σ H _ I h) fun v s1 ⟨x,H1,I1,r1,q1⟩=>?_)
  refine wpAny_Slice ?_
  rw [evalPart_none]
  refine wpAny_pure (wpAny_pure ?_)
  refine thn (hs pins s1 σ H1 _ I1 q1) fun vs s3 ⟨l,H3,I3,pl,el,q3⟩=>?_
  subst el
  cases pl with
  | int _ u =>
  have I4:Inv X pins σ H3 { s3 with heap:=s3.heap.push { cls:=.type "slice",data:=.fields #[.none,.none,.int (-1) u] } }:=I3.kept (t':=s3.toks) fun b ob q=>Heap.get?_push_of_some _ q
  obtain ⟨T,id,hT,ht,hg⟩:=hr pins { s3 with heap:=s3.heap.push { cls:=.type "slice",data:=.fields #[.none,.none,.int (-1) u] } } σ H3 x v u s3.heap.objs.size Q I4 r1 (Heap.IsSliceOf.new ..) q3
  show wpAny (model X.prog X.w) X.A (subscriptTail e (.Slice none none (some st) p2) v (.ref s3.heap.objs.size)) (EP X pins σ Q) X.xe { s3 with heap:=s3.heap.push { cls:=.type "slice",data:=.fields #[.none,.none,.int (-1) u] } }
  exact tail_any (ops:=[v,.ref s3.heap.objs.size]) ht hT hg (by with_unfolding_all rfl)
theorem rev_tup:SlS X (fun x H Q=>∃ a xs,x = .ref a /\ SqT X.K H a xs /\ ∀ p,H p = none -> Q (.ref p) (upd H p (.tup xs.reverse))):=by
  intro pins s σ H x v u sl Q I rx hs h
  obtain ⟨a,xs,rfl,hx,q⟩:=h
  cases rx
  obtain ⟨its,r,ht,hz⟩:=I.tuple hx
  have hlen:its.toArray.size = xs.length:=by rw [List.size_toArray];exact r.length.symm
  refine ⟨"tuple",_,PyProof.Rows.slot_tuple_getitem.lookup,ht.typeIs,?_⟩
  refine getItem_tuple_rev ht hs ?_ (by rw [hlen];exact hz)
  refine ⟨.ref s.heap.objs.size,_,I.laid (t':=s.toks) (o:=.tup xs.reverse) (fun b ob q=>Heap.get?_push_of_some _ q) (Nat.le_refl _) ?_,rfl,q _ (I.hok.fresh (Nat.le_refl _))⟩
  exact ⟨by rw [List.length_reverse];exact hz,_,r.reverse,IsTup.new _ _⟩
theorem rev_list:SlS X (fun x H Q=>∃ a xs,x = .ref a /\ SqL X.K H a xs /\ ∀ p,H p = none -> Q (.ref p) (upd H p (.lst xs.reverse))):=by
  intro pins s σ H x v u sl Q I rx hs h
  obtain ⟨a,xs,rfl,hx,q⟩:=h
  cases rx
  obtain ⟨its,r,ht,hz⟩:=I.list hx
  have hlen:=r.length
  refine ⟨"list",_,slot_list_getitem.lookup,ht.isList.typeIs,?_⟩
  refine wpAny_getItem_list_slice ht.isList hs .none .none (.int (-1) u) (by decide) ?_ (by rw [List.size_toArray]<;>omega)
  rw [slicePick_rev]
  refine ⟨.ref s.heap.objs.size,_,I.laid (t':=s.toks) (o:=.lst xs.reverse) (fun b ob q=>Heap.get?_push_of_some _ q) (Nat.le_refl _) ?_,rfl,q _ (I.hok.fresh (Nat.le_refl _))⟩
  exact ⟨by rw [List.length_reverse];exact hz,_,0,r.reverse,Heap.get?_push_size _ rfl⟩
end
variable [KF]
variable {G:GE} {k:Nat} {S:Stat}
noncomputable def revD:D -> (EV -> Prop) -> Prop
  | .lst xs,Q=>Q (.own xs.reverse)
  | .scr ns,Q=>Q (.own (ns.map D.int).reverse)
  | .tup xs,Q=>Q (.val (.tup xs.reverse))
  | _,_=>False
noncomputable def tRev (t:TV) (ts:TP'):TX:=fun σ Q=>t σ fun x σ1=>ts σ1 fun l σ2=>l = some (-1) /\ match drf σ2 x with
  | some d=>revD d fun r=>Q r σ2
  | none=>False
theorem r_rev {e:Expr} {st:Expr} {t:TV} {ts:TP'} {p2 pos:Pos} (h:EO G k S e t) (hl:EPt G k S (some st) ts):EX G k S (.Subscript e (.Slice none none (some st) p2) pos) (tRev t ts):=.mk fun X Y ok =>
  pe_imp (pe_rev (SlS.or rev_list rev_tup) (h X Y ok) (hl X Y ok)) fun σ H Q q=>by
    obtain ⟨F,σd,Qd,R,q,K⟩:=q
    refine ⟨F,σd,_,R,q,fun v1 H1 F1 x σ1 s1 R1 r1 q1=>?_⟩
    refine ⟨F1,σ1,_,R1,q1,fun l H2 F2 σ2 s2 R2 q2=>?_⟩
    refine ⟨q2.1,?_⟩
    replace q2:=q2.2
    split at q2
    · rename_i d e
      have rx:=R2.drf (r1.mono s2) e
      have g:Goes Y F2 σ2 σ (fun r=>Qd r σ2) Q:=fun v H' F' r s R' rr qq=>K v H' F' r σ2 ((s1.trans s2).trans s) R' rr qq
      unfold revD at q2
      split at q2
      · obtain ⟨p,vs,rfl,h1,r1⟩:=rx.lst
        exact .inl ⟨p,vs,rfl,.inl h1,g.own R2 r1.reverse q2⟩
      · obtain ⟨p,rfl,h1⟩:=rx.scr R2.fr
        exact .inl ⟨p,_,rfl,by rw [ok.kf];exact h1,g.own R2 (repl_ints _).reverse q2⟩
      · obtain ⟨p,vs,rfl,h1,r1⟩:=rx.tup R2.fr
        exact .inr ⟨p,vs,rfl,.of h1,g.tup R2 r1.reverse q2⟩
      · exact q2.elim
    · exact q2.elim
end Vc

set_option Elab.async false
set_option linter.all false
set_option maxRecDepth 100000

namespace Vc
open PySem L2 PySem.Spec PyProof.Rows PySem.SeqAt PySem.MeetsSeq PySem.MeetsSeq2 PySem.MeetsSeq3
section
variable {prog:Program} {w:World} {A:Around} {E:Value -> Shared -> Prop} {s:Shared}
end
section
variable {X:Cx}
end
variable [KF]
variable {G:GE} {k:Nat} {S:Stat}
end Vc

set_option Elab.async false
set_option linter.all false
set_option maxRecDepth 100000

namespace Vc
open PySem L2
variable [KF]

structure Fly (h:Heap) (a T:Addr) (c:Str):Prop where
  ex:∃ o vs a0,h.get? a = some o /\ o.cls = .ref (KF.cls c) /\ o.data = .fields vs /\ vs[0]? = some a0 /\ vs[1]? = some (.ref T)
  tb:∃ o ts,h.get? T = some o /\ o.data = .fields ts /\ ts[3]? = some .none
structure Moved (fs:List Addr) (a T:Addr) (h h':Heap) (T':Addr):Prop where
  keep:∀ b o,h.get? b = some o -> b ≠ a -> b ≠ T -> b ∉ fs -> h'.get? b = some o
  slot:∀ b o,h.get? b = some o -> b ∈ fs -> ∃ sl,h'.get? b = some { o with slots:=sl }
  ne:T' ≠ a
  new:h.get? T' = none \/ T' = T
section
variable {M:Model} {A:Around} {E:Value -> Shared -> Prop} {s:Shared} {base:Heap} {env:Env} {outer:List Env} {L a T:Addr} {c:Str} {Q:Unit -> Shared -> Prop}
end
theorem there_of {P:Program} {w:World} {H:Hp} {h:Heap} {a:Addr} {o:HO} (x:ObjOk P w H h a o):∃ u,h.get? a = some u:=by
  cases o with
  | lst xs=>obtain ⟨_,_,_,_,e⟩:=x;exact ⟨_,e⟩
  | tup xs=>obtain ⟨_,_,_,o,e,_⟩:=x;exact ⟨_,e⟩
  | dK kvs=>obtain ⟨_,_,_,_,o,_,_,e,_⟩:=x;exact ⟨_,e⟩
  | dT kvs=>obtain ⟨_,_,_,_,o,_,_,e,_⟩:=x;exact ⟨_,e⟩
  | set S n=>obtain ⟨o,_,_,_,e,_⟩:=x;exact ⟨_,e⟩
  | ins C dx fs=>obtain ⟨_,_,_,e,_⟩:=x;exact ⟨_,e⟩
  | own y=>exact x
  | xd fs=>obtain ⟨mA,⟨o,es,ep,e,_⟩,_⟩:=x;exact ⟨_,e⟩
  | rng lo hi=>obtain ⟨_,_,_,e⟩:=x;exact ⟨_,e⟩
  | frz o u=>exact ⟨_,x.1⟩
  | tbl ps=>exact ⟨_,x⟩
  | lam ps pos qual=>obtain ⟨_,e,_⟩:=x;exact ⟨_,e⟩
  | met f y=>exact ⟨_,x⟩
  | ext φ=>exact x.2.1
end Vc

set_option Elab.async false
set_option linter.all false
set_option maxRecDepth 100000

namespace Vc
open PySem L2
variable [KF]
variable {G:GE} {k:Nat} {S:Stat}

end Vc

set_option Elab.async false
set_option linter.all false
set_option maxRecDepth 100000

namespace Vc
open PySem L2
variable [KF]
variable {G:GE} {k:Nat} {S:Stat}

noncomputable def bmV:List Value:=[.type "ValueError",.type "Exception",.type "BaseException",.type "object"]
noncomputable def mroIn (K:PySem.W.Frag) (C:Addr):List Value:=match K.lookup C with
  | some ⟨_,_,.cls cd,_⟩=>cd.mro
  | _=>[]
structure ClsX (G:GE) (x:Str):Prop where
  mg:G.mg x = some (.ref (KF.cls x))
  exc:PySem.W.excIn G.K (KF.cls x) bmV "ValueError.__new__" = true
end Vc

set_option Elab.async false
set_option linter.all false
set_option maxRecDepth 100000

namespace Vc
open PySem L2
variable [KF]
variable {G:GE} {k:Nat} {S:Stat}

structure XCls (G:GE) (L:List Str):Prop where
  cls:∀ c ∈ L,ClsX G c
  mro:∀ c ∈ L,mroIn G.K (KF.cls c) = .ref (KF.cls c) :: ((if c = "NearError" then [] else [.ref (KF.cls "NearError")]) ++ bmV)
  inj:∀ c ∈ L,∀ d ∈ L,KF.cls c = KF.cls d -> c = d
  near:("NearError":Str) ∈ L
section
variable {M:Model} {A:Around} {E:Value -> Shared -> Prop} {h:Heap} {g:Array GenState} {d:Drawn} {t:Nat} {os:OsState}
end
end Vc

set_option Elab.async false
set_option linter.all false
set_option maxRecDepth 100000

namespace Vc
open PySem L2
variable [KF]
variable {G:GE} {k:Nat} {S:Stat}

section
variable {X:Cx} {pins:List (Addr × Obj)} {σ:St} {H:Hp} {s:Shared} {a:Addr} {xe:Value -> Shared -> Prop}
end
end Vc

set_option Elab.async false
set_option linter.all false
set_option maxRecDepth 100000

namespace Vc
open PySem L2
variable [KF]
variable {G:GE} {k:Nat} {S:Stat}

end Vc

set_option Elab.async false
set_option linter.all false
set_option maxRecDepth 100000

namespace Vx
open PySem PySem.W PySem.Calls PySem.Spec PyProof.Rows Builtin Builtin.ObjectAttr Builtin.Getset_descriptor

noncomputable def lookX (K:PySem.W.Frag) (C:Addr):Bool :=
  PySem.W.findIn K (.ref C) "__getattribute__" == some (some (.builtin "BaseException.__getattribute__")) && PySem.W.findIn K (.ref C) "__getattr__" == some none && PySem.W.findIn K (.ref C) "__class__" == some (some (.builtin "object.__class__")) &&
  PySem.W.mroIn K C (.type "object") == some true && PySem.W.mroIn K C (.type "BaseException") == some true && PySem.W.typeIn K (.ref C) == some (.type "type")
section
variable {prog:Program} {w:World} {A:Around} {E:Value -> Shared -> Prop} {h:Heap} {g:Array GenState} {d:Drawn} {t:Nat} {os:OsState} {K:PySem.W.Frag} {x C:Addr} {o:Obj}
end
end Vx

set_option Elab.async false
set_option linter.all false
set_option maxRecDepth 100000

namespace Vc
open PySem L2
variable [KF]
variable {G:GE} {k:Nat} {S:Stat}

structure XClsI (G:GE) (L:List Str):Prop extends XCls G L where
  look:∀ c ∈ L,Vx.lookX G.K (KF.cls c) = true
end Vc

set_option Elab.async false
set_option linter.all false
set_option maxRecDepth 100000

namespace Vc
open PySem L2
variable [KF]
variable {G:GE} {k:Nat} {S:Stat}

structure FnOkH (P:Program) (w:World) (K:PySem.W.Frag) (mg:Str -> Option Value) (base:Heap) (k:Nat) (f:Addr) (fd:FuncData) (ps:List Str) (sp:Sp):Prop where
  len:∀ vs H Q E,sp vs H Q E -> vs.length = ps.length
  run:∀ (A:Around) (outer:List Env) (s:Shared) (H:Hp) (args:Args) (us:List Value) (vs:List V) (Q:VK) (E:XK),A.depth + 3 * k + 5 < recursionLimit -> A.units + 16 * k + 200 < cLine -> Env0 P w K mg base A outer s H ->
    BindsTo s fd args (ps.zip us) -> Vals vs us -> sp vs H Q E -> codeAny (model P w) A (.call (.ref f) args) (CR CX0 outer P w H s Q E) s
end Vc

set_option Elab.async false
set_option linter.all false
set_option maxRecDepth 100000

namespace Vx
open PySem PySem.Spec PySem.Calls PyProof.Rows Builtin
end Vx
namespace Vc
open PySem L2
variable [KF]
variable {G:GE} {k:Nat} {S:Stat}
end Vc
namespace Vc
end Vc

set_option Elab.async false
set_option linter.all false
set_option maxRecDepth 100000

namespace Vc
open PySem L2
section
variable {X:Cx}
end
variable [KF]
variable {G:GE} {k:Nat} {S:Stat}
end Vc

set_option maxHeartbeats 0
set_option Elab.async false
set_option linter.all false
namespace Vc
open PySem PySem.W
@[elab_as_elim] theorem len1 {α:Type} {P:List α -> Prop} (h:∀ a,P [a]):∀ us:List α,us.length = 1 -> P us
  | [a],_=>h a
@[elab_as_elim] theorem len2 {α:Type} {P:List α -> Prop} (h:∀ a b,P [a,b]):∀ us:List α,us.length = 2 -> P us
  | [a,b],_=>h a b
@[elab_as_elim] theorem len3 {α:Type} {P:List α -> Prop} (h:∀ a b c,P [a,b,c]):∀ us:List α,us.length = 3 -> P us
  | [a,b,c],_=>h a b c
@[elab_as_elim] theorem len4 {α:Type} {P:List α -> Prop} (h:∀ a b c d,P [a,b,c,d]):∀ us:List α,us.length = 4 -> P us
  | [a,b,c,d],_=>h a b c d
@[elab_as_elim] theorem len5 {α:Type} {P:List α -> Prop} (h:∀ a b c d e,P [a,b,c,d,e]):∀ us:List α,us.length = 5 -> P us
  | [a,b,c,d,e],_=>h a b c d e
theorem x_of_o {q:Program} {loose:List Str} {XP:(Str -> Option Value) -> Heap -> Prop} {K:Params -> Frag} {as:List Addr} {n t:Nat} {r:RowW} {d:DefRec} {kwd:List (Str × Expr)} {run:Value -> List Value -> Sem Value}
    (e:∀ P,as = (K P).map (·.1)) (h:WalkO q loose XP (fun w h=>(K w.params).In h) r d kwd run):WalkX q loose XP (X.obsZ as) (X.valZ K n t) r d kwd run :=
  fun w s₀ s₁ mg mb G y a o pm cd doc dV kV ho hd hcd hD hmg hg args vals as' L hpre hlay hrd hwl hlo =>
    h w s₀ s₁ mg mb G (InK.keeps w _ _ (X.z_facts e y).2.1 L.keeps) a o pm cd doc dV kV ho hd hcd hD hmg hg args vals as' hpre hlay hrd hwl hlo
end Vc

set_option Elab.async false
set_option linter.all false
set_option maxRecDepth 100000

namespace Vc
open PySem L2
variable [KF]
variable {G:GE} {k:Nat} {S:Stat}
end Vc

set_option Elab.async false
set_option linter.all false
set_option maxRecDepth 100000

namespace Vc
open PySem L2
variable [KF]
variable {G:GE} {k:Nat} {S:Stat}
end Vc

set_option Elab.async false
set_option linter.all false
set_option maxRecDepth 100000

namespace Vc
open PySem L2
variable [KF]
variable {G:GE} {k:Nat} {S:Stat}
end Vc

set_option Elab.async false
set_option linter.all false
set_option maxRecDepth 100000

namespace Vc
open PySem L2
variable [KF]
variable {G:GE} {k:Nat} {S:Stat}
end Vc

set_option Elab.async false
set_option linter.all false
set_option maxRecDepth 100000

namespace Vc
open PySem L2
variable [KF]
variable {G:GE} {k:Nat} {S:Stat}
end Vc

set_option Elab.async false
set_option linter.all false
set_option maxRecDepth 100000

namespace Vc
open PySem L2
variable [KF]
variable {G:GE} {k:Nat} {S:Stat}
end Vc

set_option Elab.async false
set_option linter.all false
set_option maxRecDepth 100000
namespace Vx
open PySem PySem.Spec PyProof.Rows PySem.Builtin L2
end Vx
namespace Vc
open PySem L2
variable [KF]
variable {G:GE} {k:Nat} {S:Stat}
end Vc

set_option Elab.async false
set_option linter.all false
set_option maxRecDepth 100000

namespace Vc
open PySem L2
variable [KF]
variable {G:GE} {k:Nat} {S:Stat}
end Vc

set_option Elab.async false
set_option linter.all false
set_option maxRecDepth 100000

namespace Vc
open PySem PyProof.Rows
section
variable {prog:Program} {w:World} {A:Around} {R:Result -> Shared -> Prop}
noncomputable def Kp (h g:Heap):Prop:=∀ b o,h.get? b = some o -> g.get? b = some o
theorem Kp.trans {a b c:Heap} (x:Kp a b) (y:Kp b c):Kp a c:=fun p o e=>y p o (x p o e)
noncomputable def KeyIn (prog:Program) (w:World) (A:Around) (h0:Heap) (s0:Shared) (q:Value) (its:Array Value) (kf:Nat -> Int):Prop :=
  ∀ (i:Nat) (v:Value) (h:Heap) (tk:Nat),its[i]? = some v -> Kp h0 h -> ∀ (Q:Value -> Shared -> Prop) (E:Value -> Shared -> Prop),(∀ t g tk',Kp h g -> Q (.int (kf i) t) { s0 with heap:=g,toks:=tk' }) ->
    wpAny (model prog w) A (call q [v]) Q E { s0 with heap:=h,toks:=tk }
noncomputable def bestK (kf:Nat -> Int):Nat -> Nat:=bestI fun i j=>decide (kf j < kf i)
theorem maxK_on {h0:Heap} {s0:Shared} {its:Array Value} {kf:Nat -> Int} {q:Addr} (hh:A.handled = none) (hc:KeyIn prog w A.in1 h0 s0 (.ref q) its kf) {I l S:Addr} (hl0:h0.IsList l its) (IS:I ≠ S) (n0:h0.get? I = none) (n1:h0.get? S = none) (kw:List (Str × Value))
    (hR:∀ v g tk,its[bestK kf (its.size - 1)]? = some v -> Kp h0 g -> R (.ok (.ret v)) { s0 with heap:=g,toks:=tk }) :
    ∀ (d j:Nat) (h:Heap) (tk:Nat) (v:Value) (t:Tok) (c:Nat),its.size - (j + 1) = d -> j + 1 <= its.size -> h.IsListIter I l (j + 1) -> its[bestK kf j]? = some v -> h.get? S = some { cls:=.type "list",dict:=none,data:=.seq #[v,.int (kf (bestK kf j)) t] c,slots:=#[] } ->
    Kp h0 h -> codeAny (model prog w) A (.builtin "max.loop" ⟨[.ref I,.ref q,.ref S],kw⟩) R { s0 with heap:=h,toks:=tk }:=by
  have nm:(toString "max" ++ toString ".loop":String) = "max.loop":=by decide
  have lI:l ≠ I:=fun z=>by obtain ⟨o,e,_⟩:=hl0;rw [z,n0] at e;cases e
  have lS:l ≠ S:=fun z=>by obtain ⟨o,e,_⟩:=hl0;rw [z,n1] at e;cases e
  have nI:∀ {b o},h0.get? b = some o -> b ≠ I:=fun e z=>by rw [z,n0] at e;cases e
  have nS:∀ {b o},h0.get? b = some o -> b ≠ S:=fun e z=>by rw [z,n1] at e;cases e
  intro d
  induction d with
  | zero =>
    intro j h tk v t c hd hj hI hv hS k0
    have e1:j + 1 = its.size:=by omega
    have hl:h.IsList l its:=by obtain ⟨o,e,r⟩:=hl0;exact ⟨o,k0 _ _ e,r⟩
    refine codeAny_builtin F.entry_max_loop ?_
    rw [Around.under_plainId F.plain_max_loop _]
    show wpAny _ A.in1 (seqItems? (.ref S) >>= _) _ _ _
    refine wpAny_bind (wpAny_seqItems (s:={ s0 with heap:=h,toks:=tk }) hS rfl ?_)
    show wpAny _ A.in1 (tryCatch (pyNext (.ref I)) _ >>= _) _ _ _
    refine wpAny_bind (wpAny_tryCatch (wpAny_pyNext_list_end (s:={ s0 with heap:=h,toks:=tk }) (show A.in1.handled = none from hh) hI hl (by simp;omega) fun g x1=>?_))
    have S1:=x1 S _ IS.symm hS
    show wpAny _ A.in1 (updateSeq S (fun _=>#[]) >>= _) _ _ _
    refine wpAny_bind (wpAny_updateSeq (s:={ s0 with heap:=g,toks:=tk }) S1 rfl (wpAny_bind (wpAny_letGo (wpAny_pure ?_))))
    have e2:its.size - 1 = j:=by omega
    refine hR v _ tk (by rw [e2];exact hv) fun b o e=>?_
    exact (Heap.get?_update_other _ _ (Ne.symm (nS e))).trans (x1 b o (nI e) (k0 b o e))
  | succ d ih =>
    intro j h tk v t c hd hj hI hv hS k0
    have hlt:j + 1 < its.size:=by omega
    have hl:h.IsList l its:=by obtain ⟨o,e,r⟩:=hl0;exact ⟨o,k0 _ _ e,r⟩
    refine codeAny_builtin F.entry_max_loop ?_
    rw [Around.under_plainId F.plain_max_loop _]
    show wpAny _ A.in1 (seqItems? (.ref S) >>= _) _ _ _
    refine wpAny_bind (wpAny_seqItems (s:={ s0 with heap:=h,toks:=tk }) hS rfl ?_)
    show wpAny _ A.in1 (tryCatch (pyNext (.ref I)) _ >>= _) _ _ _
    have hx:its[j + 1]? = some its[j + 1]:=by simp [hlt]
    refine wpAny_bind (wpAny_tryCatch (wpAny_pyNext_list_item (s:={ s0 with heap:=h,toks:=tk }) hI hl hx fun g I1 x1=>?_))
    have S1:=x1.extBut S _ IS.symm hS
    have k1:Kp h0 g:=fun b o e=>x1.extBut b o (nI e) (k0 b o e)
    show wpAny _ A.in1 (tryCatch (holding [its[j + 1]] (call (.ref q) [its[j + 1]])) _ >>= _) _ _ _
    refine wpAny_bind (wpAny_tryCatch (wpAny_holding (hc (j + 1) _ g tk hx k1 _ _ fun t2 g2 tk2 k2=>?_)))
    have S2:=k2 S _ S1
    have I2:g2.IsListIter I l (j + 1 + 1):=by obtain ⟨o,e,r⟩:=I1;exact ⟨o,k2 _ _ e,r⟩
    show wpAny _ A.in1 (tryCatch (holding [its[j + 1],.int (kf (j + 1)) t2] (richCompare .Gt (.int (kf (j + 1)) t2) (.int (kf (bestK kf j)) t) >>= _)) _ >>= _) _ _ _
    refine wpAny_bind (wpAny_tryCatch (wpAny_holding (wpAny_bind (CmpOf.ints_gt (prog:=prog) (w:=w) (A:=A.in1) (P:=fun i v=>∃ t,v = .int (kf i) t) kf (fun i v h=>h) (j + 1) (bestK kf j) _ _ _ _ _ ⟨t2,rfl⟩ ⟨t,rfl⟩ ?_))))
    refine wpAny_bind (wpAny_holding (wpAny_truthy_bool ?_))
    refine wpAny_bind (wpAny_letGo (wpAny_pure ?_))
    by_cases hb:kf (j + 1) > kf (bestK kf j)
    · have eb:bestK kf (j + 1) = j + 1:=by
        show (if decide (kf (bestK kf j) < kf (j + 1)) = true then j + 1 else bestK kf j) = _
        rw [if_pos (decide_eq_true hb)]
      simp only [hb,decide_true,if_true]
      refine wpAny_bind (wpAny_updateSeq (s:={ s0 with heap:=g2,toks:=tk2 }) S2 rfl (wpAny_bind (wpAny_letGo ?_)))
      rw [nm]
      refine wpAny_pure ⟨plainId_quiet F.plain_max_loop _,ih (j + 1) _ _ its[j + 1] t2 _ (by omega) hlt ?_ (by rw [eb];exact hx) (by rw [eb];exact Heap.get?_update_self _ S2 rfl) (fun b o e=>(Heap.get?_update_other _ _ (Ne.symm (nS e))).trans (k2 b o (k1 b o e)))⟩
      obtain ⟨o,e,r⟩:=I2;exact ⟨o,(Heap.get?_update_other _ _ (Ne.symm IS)).trans e,r⟩
    · have eb:bestK kf (j + 1) = bestK kf j:=by
        show (if decide (kf (bestK kf j) < kf (j + 1)) = true then j + 1 else bestK kf j) = _
        rw [if_neg (by rw [decide_eq_false hb];decide)]
      simp only [hb,decide_false,Bool.false_eq_true,if_false]
      refine wpAny_bind (wpAny_letGo ?_)
      rw [nm]
      exact wpAny_pure ⟨plainId_quiet F.plain_max_loop _,ih (j + 1) _ _ v t c (by omega) hlt I2 (by rw [eb];exact hv) (by rw [eb];exact S2) (k1.trans k2)⟩
theorem args_max_kd (a k v:Value):argsOk "max" ⟨[a],[(Str.ofString "key",k),(Str.ofString "default",v)]⟩:=by unfold argsOk;kernel_rfl
theorem max_key {E:Value -> Shared -> Prop} {s:Shared} {its:Array Value} {kf:Nat -> Int} {q:Addr} (hh:A.handled = none) (hc:KeyIn prog w A.in1 s.heap s (.ref q) its kf) {l:Addr} (hl:s.heap.IsList l its) {dv:Value} {Q:Value -> Shared -> Prop}
    (q0:its.size = 0 -> ∀ g tk,Kp s.heap g -> Q dv { s with heap:=g,toks:=tk })
    (q1:∀ v g tk,its[bestK kf (its.size - 1)]? = some v -> Kp s.heap g -> Q v { s with heap:=g,toks:=tk }) :
    wpAny (model prog w) A (call (.builtin "max") [.ref l] [(Str.ofString "key",.ref q),(Str.ofString "default",dv)]) Q E s:=by
  have nm:(toString "max" ++ toString ".loop":String) = "max.loop":=by decide
  refine wpAny_call (codeAny_call_builtin F.plain_max F.entry_max ?_)
  have run:wpAny (model prog w) A.in1 (Builtin.«max» ⟨[.ref l],[(Str.ofString "key",.ref q),(Str.ofString "default",dv)]⟩) (fun fin s'=>match fin with
      | .done f=>(match (Except.ok f:Result) with | .ok (.ret v)=>Q v s' | .ok _=>False | .error e=>E e s')
      | .again c'=>c'.quiet = true /\ codeAny (model prog w) A c' (fun r s'=>match r with | .ok (.ret v)=>Q v s' | .ok _=>False | .error e=>E e s') s') E s:=by
    show wpAny _ A.in1 (Builtin.Builtins.bindParams "max" ["key","default"] 0 ⟨[],[(Str.ofString "key",.ref q),(Str.ofString "default",dv)]⟩ >>= _) _ _ s
    refine wpAny_bind (wpAny_of_eq (show Builtin.Builtins.bindParams "max" ["key","default"] 0 ⟨[],[(Str.ofString "key",.ref q),(Str.ofString "default",dv)]⟩ = pure [some (.ref q),some dv] from rfl) (wpAny_bind (wpAny_pure ?_)))
    refine wpAny_bind (wpAny_pyIter_list hl (wpAny_bind (wpAny_newObj_type ?_)))
    generalize hg1:s.heap.push { cls:=.type "list_iterator",data:=.fields #[.ref l,.int 0 0] } = g1
    have n1:g1.objs.size = s.heap.objs.size + 1:=by rw [<- hg1];exact Heap.size_push ..
    have I0:(g1.push { cls:=.type "list",dict:=none,data:=.seq ([]:List Value).toArray }).IsListIter s.heap.objs.size l 0:=⟨_,Heap.get?_push_of_some _ (by rw [<- hg1];exact Heap.get?_push_size _ rfl),rfl,rfl⟩
    have S0:=Heap.get?_push_size g1 (o:={ cls:=.type "list",dict:=none,data:=.seq ([]:List Value).toArray }) rfl
    have k0:∀ b o,s.heap.get? b = some o -> (g1.push { cls:=.type "list",dict:=none,data:=.seq ([]:List Value).toArray }).get? b = some o:=fun b o e=>Heap.get?_push_of_some _ (by rw [<- hg1];exact Heap.get?_push_of_some _ e)
    have fr:∀ a,s.heap.objs.size <= a -> s.heap.get? a = none:=fun a ha=>by
      cases e:s.heap.get? a with
      | none=>rfl
      | some o=>exact absurd (Heap.lt_size e) (Nat.not_lt.mpr ha)
    have nI:s.heap.get? s.heap.objs.size = none:=fr _ (Nat.le_refl _)
    have nS:s.heap.get? g1.objs.size = none:=fr _ (by rw [n1];exact Nat.le_succ _)
    have IS:s.heap.objs.size ≠ g1.objs.size:=by rw [n1];exact Nat.ne_of_lt (Nat.lt_succ_self _)
    rw [nm]
    refine wpAny_pure ⟨plainId_quiet F.plain_max_loop _,?_⟩
    generalize hg2:g1.push { cls:=.type "list",dict:=none,data:=.seq ([]:List Value).toArray } = g2 at I0 S0 k0
    have hl2:g2.IsList l its:=by obtain ⟨o,e,r⟩:=hl;exact ⟨o,k0 _ _ e,r⟩
    refine codeAny_builtin F.entry_max_loop ?_
    rw [Around.under_plainId F.plain_max_loop _]
    show wpAny _ A.in1 (seqItems? (.ref g1.objs.size) >>= _) _ _ _
    refine wpAny_bind (wpAny_seqItems (s:={ s with heap:=g2 }) S0 rfl ?_)
    show wpAny _ A.in1 (tryCatch (pyNext (.ref s.heap.objs.size)) _ >>= _) _ _ _
    by_cases hz:its.size = 0
    · refine wpAny_bind (wpAny_tryCatch (wpAny_pyNext_list_end (show A.in1.handled = none from hh) I0 hl2 (by simp [hz]) fun g x1=>?_))
      refine wpAny_bind (wpAny_rule (wpAny_pure ?_))
      exact q0 hz g s.toks fun b o e=>x1 b o (fun z=>by rw [z,nI] at e;cases e) (k0 b o e)
    · have hx:its[0]? = some its[0]:=by simp [Nat.pos_of_ne_zero hz]
      refine wpAny_bind (wpAny_tryCatch (wpAny_pyNext_list_item I0 hl2 hx fun g I1 x1=>?_))
      have S1:=x1.extBut _ _ IS.symm S0
      have k1:Kp s.heap g:=fun b o e=>x1.extBut b o (fun z=>by rw [z,nI] at e;cases e) (k0 b o e)
      show wpAny _ A.in1 (tryCatch (holding [its[0]] (call (.ref q) [its[0]])) _ >>= _) _ _ _
      refine wpAny_bind (wpAny_tryCatch (wpAny_holding (hc 0 _ g s.toks hx k1 _ _ fun t2 h2 tk2 k2=>?_)))
      have S2:=k2 _ _ S1
      show wpAny _ A.in1 (updateSeq g1.objs.size (fun _=>#[its[0],.int (kf 0) t2]) >>= _) _ _ _
      refine wpAny_bind (wpAny_updateSeq (s:={ s with heap:=h2,toks:=tk2 }) S2 rfl ?_)
      rw [nm]
      refine wpAny_pure ⟨plainId_quiet F.plain_max_loop _,maxK_on hh hc hl IS nI nS _ (fun v g' tk hv k'=>q1 v g' tk hv k') _ 0 _ _ its[0] t2 _ rfl (Nat.pos_of_ne_zero hz) ?_ hx (Heap.get?_update_self _ S2 rfl) (fun b o e=>(Heap.get?_update_other _ _ (fun z=>by rw [<- z,nS] at e;cases e)).trans (k2 b o (k1 b o e)))⟩
      obtain ⟨o,e,r⟩:=I1
      exact ⟨o,(Heap.get?_update_other _ _ (Ne.symm IS)).trans (k2 _ _ e),r⟩
  simp only [checkBuiltinCall,F.kind_max]
  cases hsig:Manifest.signature? "max" with
  | none=>exact wpAny_pure run
  | some sig =>
    have ha:argsOk "max" ⟨[.ref l],[(Str.ofString "key",.ref q),(Str.ofString "default",dv)]⟩:=args_max_kd _ _ _
    have ha':Bind.checkArgs "max" sig ⟨[.ref l],[(Str.ofString "key",.ref q),(Str.ofString "default",dv)]⟩ = pure ():=by simpa only [argsOk,hsig] using ha
    simp only [ha']
    exact wpAny_pure run
end
end Vc

set_option Elab.async false
set_option linter.all false
set_option maxRecDepth 100000
namespace Vc
open PySem PySem.Spec PyProof.Rows L2
section
variable {prog:Program} {w:World} {A:Around}
noncomputable def lamP (x:Str) (p:Pos):Arguments:={ posonlyargs:=[],args:=[{ arg:=x,annotation:=none,pos:=p }],vararg:=none,kwonlyargs:=[],kw_defaults:=[],kwarg:=none,defaults:=[] }
noncomputable def lamB (x:Str) (n:Nat) (p1 p2 p3:Pos):Expr:=.Subscript (.Name x p1) (.Constant (.int 0) n p2) p3
theorem lam_call {s:Shared} {f c':Addr} {x qual:Str} {p p1 p2 p3:Pos} {n:Nat} {scope:Scope} {pm ctv:Value} {a:Addr} {its:Array Value} {k:Int} {t:Tok} {Q:Value -> Shared -> Prop} {E:Value -> Shared -> Prop}
    (hroom:A.depth < recursionLimit) (ho:s.heap.get? f = some (PySem.W.kla_obj "<lambda>" qual (lamP x p) (lamB x n p1 p2 p3) scope [] pm c' ctv)) (hcd:s.heap.CodeRec (.ref c') qual) (hlim:s.heap.NoLimit)
    (hco:scope.isCoroutine = false) (hgen:scope.isGenerator = false) (hk:scope.kind = .function) (hx:scope.names.lookup x = some .local) (hcell:∀ y ∈ scope.names,y.2 ≠ .cell) (hd:(x == Str.ofString "__debug__") = false)
    (hb:bindArgs (PySem.W.kla_fn "<lambda>" qual (lamP x p) (lamB x n p1 p2 p3) scope [] pm (.ref c') ctv) ⟨[.ref a],[]⟩ = pure [(x,Value.ref a)])
    (htup:IsTup s.heap a its) (h0:its[0]? = some (.int k t)) (q:∀ g tk',Kp s.heap g -> Q (.int k t) { s with heap:=g,toks:=tk' }) :
    wpAny (model prog w) A (call (.ref f) [.ref a]) Q E s:=by
  refine wpAny_call (PySem.W.kla_callFunE (fd:=PySem.W.kla_fn "<lambda>" qual (lamP x p) (lamB x n p1 p2 p3) scope [] pm (.ref c') ctv) hroom ho rfl hco hgen rfl hcd ?_)
  refine wpAny_of_eq hb (wpAny_newFunctionEnv hcell (fun y hy=>?_) (fun h₁ hns hsb=>⟨?_,?_⟩) hk)
  · cases List.mem_singleton.mp hy
    exact hx
  · exact hlim.fresh _ hsb
  · have hkp:Kp s.heap h₁:=fun b o e=>hsb.extBut b o (Nat.ne_of_lt (Heap.lt_size e)) (Heap.get?_push_of_some _ e)
    refine PySem.W.kla_codeExpr ?_
    unfold lamB
    refine Subscript_ (wpAny_Name (wpAny_loadName_local hk hx hns (v:=.ref a) ?_ (wpAny_Constant_int ?_)) hd)
    · show List.lookup x [(x,Value.ref a)] = _
      simp [List.lookup]
    · obtain ⟨o,e1,e2,e3⟩:=htup
      refine subscriptTail_builtinR (x:=.int k t) (IsTup.typeIs (s:={ s with heap:=h₁,toks:=_ }) ⟨o,hkp _ _ e1,e2,e3⟩) slot_tuple_getitem.lookup (getItem_tuple (j:=0) ⟨o,hkp _ _ e1,e2,e3⟩ (by decide) (by decide) ?_ h0 ⟨rfl,?_⟩) ?_
      · have hz:0 < its.size:=(Array.getElem?_eq_some_iff.mp h0).1
        unfold seqIndex?
        simp [hz]
      · exact q _ _ hkp
      · rfl
example {qual:Str} {p p1 p2 p3:Pos} {n:Nat} {scope:Scope} {pm ctv:Value} {a c':Addr}:bindArgs (PySem.W.kla_fn "<lambda>" qual (lamP "one" p) (lamB "one" n p1 p2 p3) scope [] pm (.ref c') ctv) ⟨[.ref a],[]⟩ = pure [(("one":Str),Value.ref a)]:=rfl
end
end Vc

set_option Elab.async false
set_option linter.all false
set_option maxRecDepth 100000
namespace Vc
open PySem PySem.Spec PyProof.Rows L2
section
variable {M:Model} {A:Around} {E:Value -> Shared -> Prop} {s:Shared} {params:Arguments} {body:Expr} {scope:Scope} {env:Env} {c P:Addr} {ps more:Array Value} {pos:Pos} {mg:Str -> Option Value} {Q:Value -> Shared -> Prop}
theorem lam_make (hdef:defaultsOf params env = ([],[])) (hcl:closureFor scope env = pure []) (hge0:env.globals = mainGlobals) (hg:s.heap.Ns mainGlobals mg) (hcode:env.code = .ref c) (C:PySem.W.CodeHd s.heap c P)
    (hP:s.heap.get? P = some (PySem.W.tabObj (ps ++ more))) (ht:TriplesOk (ps ++ more).toList) (hgP:mainGlobals ≠ P) (hb:s.heap.BuiltinsAt mg P)
    (hc:codeAmong pos (ps ++ more).toList = none \/ ∃ c' o vs t,codeAmong pos (ps ++ more).toList = some (.ref c') /\ s.heap.get? c' = some o /\ o.data = .fields vs /\ vs[1]? = some (.str (env.qual ++ "<lambda>") t))
    (h:∀ (f c':Addr) (oc:Obj) (vs:Array Value) (t:Tok) (pm ctv:Value) (more':Array Value) (h':Heap) (tk:Nat),Heap.ExtBut P s.heap h' -> h'.get? P = some (PySem.W.tabObj (ps ++ more')) -> TriplesOk (ps ++ more').toList -> codeAmong pos (ps ++ more').toList = some (.ref c') ->
      h'.get? c' = some oc -> oc.data = .fields vs -> vs[1]? = some (.str (env.qual ++ "<lambda>") t) -> (s.heap.get? c' = some oc /\ codeAmong pos (ps ++ more).toList = some (.ref c') \/ s.heap.get? c' = none) ->
      h'.get? f = some (PySem.W.kla_obj "<lambda>" (env.qual ++ "<lambda>") params body scope [] pm c' ctv) -> s.heap.get? f = none -> f ≠ c' -> f ≠ P -> Q (.ref f) { s with heap:=h',toks:=tk }) :
    wpAny M A (eval (.Lambda params body scope pos) env) Q E s:=by
  refine PySem.W.kla_eval hdef ?_
  have fr:∀ a,s.heap.objs.size <= a -> s.heap.get? a = none:=fun a ha=>Heap.get?_none_of_le ha
  rcases hc with hn | ⟨c',o,vs,t,hf,ho,hd,hv⟩
  · refine PySem.W.kla_makeFunction hcl hge0 hg hcode C hP ht hn hgP hb fun c' ctv h' tk hx hge hlt hrec htb=>?_
    obtain ⟨c₂,oc,vs,t,e2,hoc,hd,hv⟩:=hrec
    cases e2
    have hPs:P < s.heap.objs.size:=Heap.lt_size hP
    have hsz:s.heap.objs.size <= h'.objs.size:=Nat.le_of_lt (Nat.lt_of_le_of_lt hge hlt)
    refine h h'.objs.size c' oc vs t _ ctv (more ++ #[rawInt pos.line,rawInt pos.col,.ref c']) _ tk (fun b o hb e=>Heap.get?_push_of_some _ (hx b o hb e)) ?_ ?_ ?_ (Heap.get?_push_of_some _ hoc) hd hv (.inr (fr _ hge)) (Heap.get?_push_size _ rfl) (fr _ hsz) (Nat.ne_of_gt hlt) (Nat.ne_of_gt (Nat.lt_of_lt_of_le hPs hsz))
    · rw [<- Array.append_assoc];exact Heap.get?_push_of_some _ htb
    · rw [<- Array.append_assoc]
      have:=TriplesOk_snoc pos.line pos.col (.ref c') (ps ++ more).toList ht
      rw [Array.toList_append]
      exact this
    · rw [<- Array.append_assoc]
      have:=codeAmong_snoc (pos:=pos) (c:=.ref c') (ps ++ more).toList ht hn
      rw [Array.toList_append]
      exact this
  · refine PySem.W.kla_makeFunctionHit hcl hge0 hg hcode C hP ht hf hb fun ctv h' tk hk hsz=>?_
    have hPs:P < s.heap.objs.size:=Heap.lt_size hP
    have hcs:c' < s.heap.objs.size:=Heap.lt_size ho
    exact h h'.objs.size c' o vs t _ ctv more _ tk (fun b o hb e=>Heap.get?_push_of_some _ (hk b o e)) (Heap.get?_push_of_some _ (hk _ _ hP)) ht hf (Heap.get?_push_of_some _ (hk _ _ ho)) hd hv (.inl ⟨ho,hf⟩) (Heap.get?_push_size _ rfl) (fr _ hsz) (Nat.ne_of_gt (Nat.lt_of_lt_of_le hcs hsz)) (Nat.ne_of_gt (Nat.lt_of_lt_of_le hPs hsz))
end
end Vc

set_option Elab.async false
set_option linter.all false
set_option maxRecDepth 100000
namespace Vc
open PySem PySem.Spec PyProof.Rows L2
section
variable [KF] {X:Cx} {pins:List (Addr × Obj)} {σ:L2.St} {H H1:Hp} {s:Shared} {P f c':Addr} {ps more':Array Value} {pos:Pos} {qual:Str} {oc fo:Obj} {vs:Array Value} {t:Tok} {h':Heap} {t':Nat}
theorem inv_lam (I:L2.Inv X pins σ H s) (hPH:H P = some (.lam ps pos qual)) (hx:Heap.ExtBut P s.heap h') (hP:h'.get? P = some (PySem.W.tabObj (ps ++ more'))) (ht:TriplesOk (ps ++ more').toList) (hc:codeAmong pos (ps ++ more').toList = some (.ref c'))
    (hoc:h'.get? c' = some oc) (hd:oc.data = .fields vs) (hv:vs[1]? = some (.str qual t)) (hH1:(H c' = some (.frz oc (.own P)) /\ H1 = H) \/ (s.heap.get? c' = none /\ H1 = upd H c' (.frz oc (.own P))))
    (hf:h'.get? f = some fo) (hfn:s.heap.get? f = none) (hfc:f ≠ c') (hfP:f ≠ P):L2.Inv X pins σ (upd H1 f (.frz fo (.own 0))) { s with heap:=h',toks:=t' }:=by
  have lt:∀ {b u},H b = some u -> ∃ o,s.heap.get? b = some o:=fun {b u} e=>there_of (I.hok b u e)
  have up:∀ {b u},H b = some u -> (upd H1 f (.frz fo (.own 0))) b = some u:=fun {b u} e=>by
    obtain ⟨o,ho⟩:=lt e
    rw [upd_ne (fun z=>by rw [z,hfn] at ho;cases ho)]
    rcases hH1 with ⟨_,rfl⟩ | ⟨hn,rfl⟩
    · exact e
    · rw [upd_ne (fun z=>by rw [z,hn] at ho;cases ho)];exact e
  have fr:∀ {b o},s.heap.get? b = some o -> H b = none -> (upd H1 f (.frz fo (.own 0))) b = none:=fun {b o} ho e=>by
    rw [upd_ne (fun z=>by rw [z,hfn] at ho;cases ho)]
    rcases hH1 with ⟨_,rfl⟩ | ⟨hn,rfl⟩
    · exact e
    · rw [upd_ne (fun z=>by rw [z,hn] at ho;cases ho)];exact e
  have c1:(upd H1 f (.frz fo (.own 0))) c' = some (.frz oc (.own P)):=by
    rw [upd_ne hfc.symm]
    rcases hH1 with ⟨e,rfl⟩ | ⟨_,rfl⟩
    · exact e
    · exact upd_same
  have neP:∀ {b u},H b = some u -> u ≠ .lam ps pos qual -> b ≠ P:=fun e n z=>by rw [z,hPH] at e;exact n (Option.some.inj e).symm
  refine I.step (g':=s.gens) (d':=s.drawn) (ch:=[]) (fun b hb=>by cases hb) (fun b o _ _ _ e n=>hx b o (fun z=>by rw [z,hPH] at n;cases n) e) (fun b o _ _ _ e n=>⟨o.slots,hx b o (fun z=>by rw [z,hPH] at n;cases n) e⟩) (fun b o _ e n=>fr e n) (fun b o _ e=>?_)
    (fun b xs e=>up e) (fun b o u e=>up e) (fun b qs e=>⟨#[],by rw [up e];simp⟩) (fun m hm=>?_) (fun b u e=>?_) I.bare
  · by_cases hb:b = P
    · exact ⟨_,hb ▸ hP⟩
    · exact ⟨o,hx b o hb e⟩
  · obtain ⟨ob,es,ep,ho,hdd,r⟩:=hm
    refine ⟨ob,es,ep,hx _ ob (fun z=>?_) ho,hdd,r⟩
    obtain ⟨mo,ez,_⟩:=I.hok P _ hPH
    rw [z,ez] at ho;cases ho;cases hdd
  · by_cases hbf:b = f
    · subst hbf;rw [upd_same] at e;cases e
      exact ⟨hf,⟨_,hf⟩⟩
    by_cases hbc:b = c'
    · subst hbc;rw [c1] at e;cases e
      exact ⟨hoc,⟨_,hoc⟩⟩
    have e0:H b = some u:=by
      rw [upd_ne hbf] at e
      rcases hH1 with ⟨_,rfl⟩ | ⟨_,rfl⟩
      · exact e
      · rw [upd_ne hbc] at e;exact e
    by_cases hbP:b = P
    · subst hbP
      rw [hPH] at e0;cases e0
      exact ⟨more',hP,ht,.inr ⟨c',oc,vs,t,hc,c1,hd,hv⟩⟩
    · refine (I.hok b u e0).stay (fun d v hd' q=>hx d v ?_ q) (fun _ q=>up q) (fun _ _ q=>up q) fun _ _ _ q=>up q
      rcases hd' with rfl | hd'
      · exact hbP
      · exact neP hd' (fun z=>by cases z)
end
end Vc

set_option Elab.async false
set_option linter.all false
set_option maxRecDepth 100000
namespace Vc
open PySem PySem.Spec PyProof.Rows L2
noncomputable def lscope (x:Str):Scope:={ kind:=.function,names:=[(x,.local)],isGenerator:=false,isCoroutine:=false,more:=[] }
structure LamAt (X:Cx) (c P:Addr):Prop where
  code:X.env.code = .ref c
  hd:PySem.W.CodeHd X.base c P
  gP:mainGlobals ≠ P
  bm:X.base.BuiltinsAt X.mg P
section
variable [KF] {X:Cx} {c P:Addr} {ps:Array Value} {lpos:Pos} {params:Arguments} {body:Expr} {scope:Scope}
noncomputable def tLam (P:Addr) (ps:Array Value) (lpos:Pos) (qual:Str) (params:Arguments) (body:Expr) (scope:Scope):TE:=fun _ H Q=>H P = some (.lam ps lpos qual) /\
  ∀ (f c':Addr) (oc:Obj) (vs:Array Value) (t:Tok) (pm ctv:Value) (H1:Hp),(H1 = H \/ H c' = none /\ H1 = upd H c' (.frz oc (.own P))) -> H1 c' = some (.frz oc (.own P)) -> oc.data = .fields vs -> vs[1]? = some (.str qual t) -> H1 f = none -> f ≠ c' ->
    Q (.ref f) (upd H1 f (.frz (PySem.W.kla_obj "<lambda>" qual params body scope [] pm c' ctv) (.own 0)))
theorem pe_lam (L:LamAt X c P) (hdef:defaultsOf params X.env = ([],[])) (hcl:closureFor scope X.env = pure []):PE X (.Lambda params body scope lpos) (tLam P ps lpos (X.env.qual ++ "<lambda>") params body scope):=by
  intro pins s σ H Q I q
  obtain ⟨hPH,q⟩:=q
  obtain ⟨more,hP,ht,hc⟩:=I.hok P _ hPH
  have hc':codeAmong lpos (ps ++ more).toList = none \/ ∃ c' o vs t,codeAmong lpos (ps ++ more).toList = some (.ref c') /\ s.heap.get? c' = some o /\ o.data = .fields vs /\ vs[1]? = some (.str (X.env.qual ++ "<lambda>") t):=by
    rcases hc with hc | ⟨c',o,vs,t,e1,e2,e3,e4⟩
    · exact .inl hc
    · exact .inr ⟨c',o,vs,t,e1,(I.hok c' _ e2).1,e3,e4⟩
  have nn:∀ {b},s.heap.get? b = none -> H b = none:=fun {b} e=>by
    cases q:H b with
    | none=>rfl
    | some u =>
      obtain ⟨o,z⟩:=there_of (I.hok b u q)
      rw [e] at z;cases z
  refine lam_make (c:=c) (P:=P) (ps:=ps) (more:=more) (mg:=X.mg) hdef hcl I.ok.glob (I.mod.glob.keeps I.bk) L.code (L.hd.keeps I.bk) hP ht L.gP (L.bm.keeps I.bk) hc' fun f c' oc vs t pm ctv more' h' tk hx hP' ht' hf' hoc hd hv hor ho hfn hfc hfP=>?_
  rcases hor with ⟨h1,h2⟩ | h1
  · have hH:H c' = some (.frz oc (.own P)):=by
      rcases hc with hc | ⟨c2,o2,vs2,t2,e1,e2,e3,e4⟩
      · rw [hc] at h2;cases h2
      · rw [h2] at e1;cases e1
        have:=(I.hok _ _ e2).1
        rw [h1] at this;cases this
        exact e2
    exact ⟨.ref f,_,inv_lam I hPH hx hP' ht' hf' hoc hd hv (.inl ⟨hH,rfl⟩) ho hfn hfc hfP,rfl,q f c' oc vs t pm ctv H (.inl rfl) hH hd hv (nn hfn) hfc⟩
  · exact ⟨.ref f,_,inv_lam I hPH hx hP' ht' hf' hoc hd hv (.inr ⟨h1,rfl⟩) ho hfn hfc hfP,rfl,q f c' oc vs t pm ctv _ (.inr ⟨nn h1,rfl⟩) upd_same hd hv (by rw [upd_ne hfc];exact nn hfn) hfc⟩
end
section
variable [KF] {G:GE} {k:Nat} {S:Stat}
noncomputable def headed:D -> Bool
  | .tup (.int _ :: _)=>true
  | _=>false
noncomputable def firstI:D -> Int
  | .tup (.int i :: _)=>i
  | _=>0
noncomputable def bestF:List D -> D
  | []=>.non
  | x :: xs=>xs.foldl (fun b y=>if decide (firstI b < firstI y) = true then y else b) x
noncomputable def kfD (xs:List D) (i:Nat):Int:=firstI (xs.getD i .non)
theorem bestF_fold (xs:List D) (x:D):∀ n,n < (x :: xs).length -> (x :: xs).getD (bestK (kfD (x :: xs)) n) .non = (xs.take n).foldl (fun b y=>if decide (firstI b < firstI y) = true then y else b) x
  | 0,_=>rfl
  | n + 1,h=>by
    have ih:=bestF_fold xs x n (by simp at h ⊢;omega)
    have hl:n < xs.length:=by simpa using h
    have gx:(x :: xs).getD (n + 1) .non = xs[n]:=by
      rw [List.getD_eq_getElem?_getD,List.getElem?_cons_succ,List.getElem?_eq_getElem hl];rfl
    rw [List.take_add_one,List.getElem?_eq_getElem hl,Option.toList_some,List.foldl_append,List.foldl_cons,List.foldl_nil,<- ih]
    show (x :: xs).getD (if decide (kfD (x :: xs) (bestK (kfD (x :: xs)) n) < kfD (x :: xs) (n + 1)) = true then n + 1 else bestK (kfD (x :: xs)) n) .non = _
    have e:kfD (x :: xs) (n + 1) = firstI xs[n]:=by unfold kfD;rw [gx]
    rw [e]
    show (x :: xs).getD (if decide (firstI ((x :: xs).getD (bestK (kfD (x :: xs)) n) .non) < firstI xs[n]) = true then n + 1 else bestK (kfD (x :: xs)) n) .non = _
    split
    · exact gx
    · rfl
theorem bestF_is {xs:List D} (h:xs ≠ []):bestF xs = xs.getD (bestK (kfD xs) (xs.length - 1)) .non:=by
  cases xs with
  | nil=>exact absurd rfl h
  | cons x xs =>
    have:=bestF_fold xs x xs.length (by simp)
    have e:(x :: xs).length - 1 = xs.length:=by simp
    rw [e,this,List.take_length];rfl
noncomputable def tMaxK (t:TV):TV:=fun σ Q=>t σ fun x σ1=>match drf σ1 x with
  | some (.lst xs)=>xs.all headed = true /\ Q (.val (bestF xs)) σ1
  | _=>False
theorem pe_maxK {X:Cx} {Y:Dyn} {c P:Addr} {ps:Array Value} {e:Expr} {t:TV} {p p0 p1 p2 p3 kp dp kp2 lpos pos:Pos} {n j:Nat} {x:Str} (ok:XOk X G k S Y) (h:EO G k S e t) (L:LamAt X c P) (htab:(P,ps,lpos,X.env.qual ++ "<lambda>") ∈ KF.tabs)
    (hm:G.mg "max" = none) (hbind:∀ (qual:Str) (pm ctv:Value) (a c':Addr),bindArgs (PySem.W.kla_fn "<lambda>" qual (lamP x p0) (lamB x n p1 p2 p3) (lscope x) [] pm (.ref c') ctv) ⟨[.ref a],[]⟩ = pure [(x,Value.ref a)]) (hxd:(x == Str.ofString "__debug__") = false) (hg:S.sc.lookup ("max":Str) = some .globalImplicit:=by rfl)
    (he:∀ env,starEach [e] env = [(false,eval e env)]:=by intro _;rfl) (hh:S.hot = false:=by rfl) :
    PE X (.Call (.Name "max" p) [e] [⟨some "key",.Lambda (lamP x p0) (lamB x n p1 p2 p3) (lscope x) lpos,kp⟩,⟨some "default",.Constant .none j dp,kp2⟩] pos) (lO Y (tMaxK t)):=by
  intro pins s σ H Q I q
  obtain ⟨F,σd,Qd,R,q,K⟩:=q
  refine wpAny_Call_Name_kw (ld_blt (u:=.builtin "max") I (gl_of ok hg) (by rw [ok.mg];exact hm) (by decide +kernel) ?_ (by decide) (by decide))
  have ha:PA X [e] (tCons (lO Y t) tNil):=pa_cons (h X Y ok) pa_nil (by rw [he];rfl)
  have hk:PK X [⟨some "key",.Lambda (lamP x p0) (lamB x n p1 p2 p3) (lscope x) lpos,kp⟩,⟨some "default",.Constant .none j dp,kp2⟩] (tCons (tLam P ps lpos (X.env.qual ++ "<lambda>") (lamP x p0) (lamB x n p1 p2 p3) (lscope x)) (tCons (tC .non) tNil)):=pk_cons (pe_lam L rfl rfl) (pk_cons pe_non pk_nil)
  have hA:=ha pos pins s σ H (fun vs H1=>∃ v1 F1 x σ1,vs = [v1] /\ Same F F1 /\ RS Y F1 σ1 σ H1 /\ RepO F1 σ v1 x /\ (match drf σ1 x with
      | some (.lst xs)=>xs.all headed = true /\ Qd (.val (bestF xs)) σ1
      | _=>False)) I ⟨F,σd,_,R,q,fun v1 H1 F1 x σ1 s1 R1 r1 q1=>⟨v1,F1,x,σ1,rfl,s1,R1,r1,q1⟩⟩
  refine PyProof.Rows.callWith_kw (env:=X.env) (thn hA fun us s1 h1=>?_) (by rw [he];rfl) (by rw [he];rfl) rfl rfl
  obtain ⟨vs,H1,I1,rvs,v1,F1,y,σ1,rfl,sm1,R1,r1,q1⟩:=h1
  obtain ⟨u1,rfl,ru1⟩:=vals1 rvs
  refine thn (hk pos pins s1 σ H1 (fun vs H2=>∃ f c' oc vo to pm ctv,vs = [.ref f,.non] /\ RS Y F1 σ1 σ H2 /\ H2 f = some (.frz (PySem.W.kla_obj "<lambda>" (X.env.qual ++ "<lambda>") (lamP x p0) (lamB x n p1 p2 p3) (lscope x) [] pm c' ctv) (.own 0)) /\ H2 c' = some (.frz oc (.own P)) /\ oc.data = .fields vo /\ vo[1]? = some (.str (X.env.qual ++ "<lambda>") to))
    I1 ⟨R1.fr _ _ (R1.ob.tab _ htab),fun f c' oc vo to pm ctv H3 h3 hc3 hd hv hf hfc=>⟨f,c',oc,vo,to,pm,ctv,rfl,?_,upd_same,by rw [upd_ne hfc.symm];exact hc3,hd,hv⟩⟩) fun ws s2 h2=>?_
  · have R3:RS Y F1 σ1 σ H3:=by
      rcases h3 with rfl | ⟨z,rfl⟩
      · exact R1
      · exact R1.alloc0 z
    exact R3.alloc0 hf
  obtain ⟨vs2,H2,I2,rvs2,f,c',oc,vo,to,pm,ctv,rfl,R2,hf,hc,hd,hv⟩:=h2
  cases rvs2 with
  | cons ru2 rr =>
  cases rr with
  | cons ru3 rr =>
  cases rr
  cases ru2
  cases ru3
  split at q1
  · rename_i xs ex
    obtain ⟨hc0,q2⟩:=q1
    obtain ⟨a,vs,rfl,hrd,rl⟩:=(R2.drf r1 ex).lst
    cases ru1
    obtain ⟨its,rv,pl,_⟩:=I2.list (show SqL X.K H2 a vs from .inl hrd)
    have len:its.toArray.size = xs.length:=by rw [List.size_toArray,<- rv.length,rl.length]
    have hkey:KeyIn X.prog X.w X.A.in1 s2.heap s2 (.ref f) its.toArray (kfD xs):=by
      intro i v h tk hi kp Q' E' q'
      have hi':its[i]? = some v:=by simpa using hi
      have hl:i < vs.length:=by rw [rv.length];exact (List.getElem?_eq_some_iff.mp hi').1
      have ev:vs[i]? = some vs[i]:=List.getElem?_eq_getElem hl
      obtain ⟨d,e1,e2⟩:=rl.get' ev
      obtain ⟨u,e3,e4⟩:=rv.get ev
      rw [hi'] at e3;cases e3
      have md:d ∈ xs:=List.mem_of_getElem? e1
      have hd1:=List.all_eq_true.mp hc0 d md
      have ek:kfD xs i = firstI d:=by unfold kfD;rw [List.getD_eq_getElem?_getD,e1];rfl
      rw [ek] at q'
      unfold headed at hd1
      split at hd1
      · rename_i k0 ds
        generalize vs[i] = vi at *
        cases e2 with
        | tup hfa rfa =>
          cases e4
          cases rfa with
          | cons w1 w2 =>
          cases w1
          obtain ⟨_,ia,wa,oa,ga,ca⟩:=I2.hok _ _ (R2.fr _ _ hfa)
          cases wa with
          | cons ra wa =>
          obtain ⟨tt,rfl⟩:=ra
          have hcr:(h:Heap).CodeRec (.ref c') (X.env.qual ++ "<lambda>"):=⟨c',oc,vo,to,rfl,kp _ _ (I2.hok _ _ hc).1,hd,hv⟩
          refine lam_call (A:=X.A.in1) (s:={ s2 with heap:=h,toks:=tk }) (n:=n) (p:=p0) (p1:=p1) (p2:=p2) (p3:=p3) (x:=x) ?_ (kp _ _ (I2.hok _ _ hf).1) hcr (I2.nolimit.keeps kp) rfl rfl rfl ?_ ?_ hxd (hbind _ _ _ _ _) ⟨oa,kp _ _ ga,ca⟩ ?_ fun g tk' kg=>q' tt g tk' kg
          · have:=ok.dp
            show X.A.depth < _
            omega
          · show List.lookup x [(x,NameKind.local)] = _
            simp [List.lookup]
          · intro y hy
            cases List.mem_singleton.mp hy
            exact fun z=>nomatch z
          · rfl
      · cases hd1
    refine max_key (I2.ok.hd (ok.calm hh)) hkey pl.isList (fun hz g tk kp=>?_) fun z g tk hz kp=>?_
    · have:xs = []:=List.length_eq_zero_iff.mp (by rw [<- len];exact hz)
      subst this
      exact ⟨.non,H2,I2.kept kp,rfl,K .non H2 F1 (.val .non) σ1 sm1 R2 .non q2⟩
    · have hz':its[bestK (kfD xs) (xs.length - 1)]? = some z:=by rw [len] at hz;simpa using hz
      have hne:xs ≠ []:=fun e=>by
        subst e
        have:its = []:=List.length_eq_zero_iff.mp (by rw [<- rv.length,rl.length];rfl)
        rw [this] at hz';simp at hz'
      have hl:bestK (kfD xs) (xs.length - 1) < vs.length:=by rw [rv.length];exact (List.getElem?_eq_some_iff.mp hz').1
      have ev:vs[bestK (kfD xs) (xs.length - 1)]? = some vs[bestK (kfD xs) (xs.length - 1)]:=List.getElem?_eq_getElem hl
      obtain ⟨dd,e1,e2⟩:=rl.get' ev
      obtain ⟨zz,e3,e4⟩:=rv.get ev
      rw [hz'] at e3;cases e3
      have eb:bestF xs = dd:=by rw [bestF_is hne,List.getD_eq_getElem?_getD,e1];rfl
      rw [eb] at q2
      exact ⟨_,H2,I2.kept kp,e4,K _ H2 F1 (.val dd) σ1 sm1 R2 e2 q2⟩
  · exact q1.elim
end
end Vc

set_option Elab.async false
set_option linter.all false
set_option maxRecDepth 100000
namespace Vc
open PySem PySem.W L2
noncomputable def dropT (P:Addr) (K:Frag):Frag:=K.filter fun x=>x.1 != P
theorem drop_self (P:Addr):∀ K:Frag,(dropT P K).lookup P = none
  | []=>rfl
  | (b,o) :: K=>by
    unfold dropT
    rw [List.filter_cons]
    by_cases h:b = P
    · rw [if_neg (by simp [h])];exact drop_self P K
    · rw [if_pos (by simp [h]),List.lookup_cons,(by simpa using fun z=>h z.symm:(P == b) = false)];exact drop_self P K
theorem drop_ne {P b:Addr} (h:b ≠ P):∀ K:Frag,(dropT P K).lookup b = K.lookup b
  | []=>rfl
  | (a,o) :: K=>by
    unfold dropT
    rw [List.filter_cons]
    by_cases ha:a = P
    · rw [if_neg (by simp [ha]),List.lookup_cons,(by simpa [ha] using h:(b == a) = false)];exact drop_ne h K
    · rw [if_pos (by simp [ha]),List.lookup_cons,List.lookup_cons]
      cases b == a with
      | true=>rfl
      | false=>exact drop_ne h K
theorem drop_in {P:Addr} {K:Frag} {h:Heap} (X:K.In h):(dropT P K).In h:=fun b o e=>by
  by_cases hb:b = P
  · rw [hb,drop_self] at e;cases e
  · rw [drop_ne hb] at e;exact X b o e
section
variable {P:Addr} {K:Frag} (hP:K.lookup P = some (tabObj #[]))
include hP
theorem drop_or (b:Addr):(dropT P K).lookup b = K.lookup b \/ ((dropT P K).lookup b = none /\ K.lookup b = some (tabObj #[])):=by
  by_cases hb:b = P
  · subst hb;exact .inr ⟨drop_self _ _,hP⟩
  · exact .inl (drop_ne hb K)
theorem drop_fun {f:Addr} {oc:Value} {od:Option Addr} {fd:FuncData} {sl:Array (Option Value)} (l:K.lookup f = some ⟨oc,od,.func fd,sl⟩):(dropT P K).lookup f = some ⟨oc,od,.func fd,sl⟩:=by
  rcases drop_or hP f with e | ⟨_,e⟩
  · rw [e];exact l
  · rw [l] at e;cases e
theorem drop_keep {f:Addr} {oc:Value} {od:Option Addr} {fd:FuncData} {sl:Array (Option Value)} (l:K.lookup f = some ⟨oc,od,.func fd,sl⟩):keepIn (dropT P K) (.ref f) = true:=by
  unfold keepIn
  dsimp only
  rw [drop_fun hP l]
theorem drop_code {cd:Value} {x:Str} (h:codeIn K cd x = true):codeIn (dropT P K) cd x = true:=by
  cases cd with
  | ref c =>
    unfold codeIn at h ⊢
    rcases drop_or hP c with e | ⟨_,e⟩
    · simp only [e];exact h
    · simp only [e] at h;cases h
  | _=>cases h
theorem drop_hd {c P':Addr} (h:codeHdIn K c P' = true):codeHdIn (dropT P K) c P' = true:=by
  unfold codeHdIn at h ⊢
  rcases drop_or hP c with e | ⟨_,e⟩
  · simp only [e];exact h
  · simp only [e] at h;cases h
end
theorem law_callT {P:Program} {w:World} {K:PySem.W.Frag} {mg mb:Str -> Option Value} {CX:CXT} {k:Nat} {fa a T:Addr} {fd:FuncData} {x:Str} {sp:Sp} {s₁:Shared} {vs:List Value} {ns:List Int} {lpos:Pos} {qual:Str}
    (KX:K.In s₁.heap) (hns:s₁.heap.Ns mainGlobals mg) (hb:s₁.heap.Ns builtinsNs mb) (hbb:∀ x:Str,x ≠ "__name__" -> mb x = bootBuiltins x) (hlim:s₁.heap.NoLimit) (hg:s₁.gens = #[])
    (ha:s₁.heap.get? a = some { cls:=.type "list",data:=.seq vs.toArray }) (hi:PyProof.Rows.IntsAre vs ns) (hl:ns.length <= sizeLine) (hr:Room k callerA)
    (hT:s₁.heap.get? T = some (tabObj #[])) (hct:isCodeTable s₁.heap T) (hTK:K.lookup T = none)
    (F:∀ base:Heap,K.In base -> base.Ns mainGlobals mg -> FnOk P w K mg base CX k fa fd [x] sp) (hbind:∀ (s:Shared) (u:Value),BindsTo s fd ⟨[u],[]⟩ [(x,u)])
    (hsp:∀ H:Hp,H T = some (.lam #[] lpos qual) -> SqL K H a (ns.map V.int) -> sp [.ref a] H (fun v H'=>v = .bl true /\ Same H H') fun _ _ _=>False)
    (hCX:∀ H e s',CX [] H s₁ (fun _ _ _=>False) e s' -> False) :
    codeAny (model P w) callerA (.call (.ref fa) ⟨[.ref a],[]⟩) (fun r s'=>r = .ok (.ret (.bool true)) /\ OldK s₁.heap s'.heap /\ s'.os = s₁.os /\ PyProof.Rows.AllBare s'.gens) s₁:=by
  have rv:=vals_ints hi
  have lenV:=hi.length
  have haT:a ≠ T:=fun z=>by rw [z,hT] at ha;cases ha
  have core:∀ H:Hp,H T = some (.lam #[] lpos qual) -> SqL K H a (ns.map V.int) -> HOk P w H s₁.heap -> (∀ b,H b ≠ none -> b = a \/ b = T) -> (H a ≠ none -> K.lookup a = none /\ ∃ o xs,H a = some (.frz o (.lst xs))) ->
      codeAny (model P w) callerA (.call (.ref fa) ⟨[.ref a],[]⟩) (fun r s'=>r = .ok (.ret (.bool true)) /\ OldK s₁.heap s'.heap /\ s'.os = s₁.os /\ PyProof.Rows.AllBare s'.gens) s₁:=by
    intro H hO hS hok hA hK
    have base_of:∀ {b:Addr} {o:Obj},s₁.heap.get? b = some o -> H b = none -> (hidT s₁.heap H).get? b = some o:=fun e n=>hidT_get e n
    have noA:∀ {b:Addr} {o:Obj} {es:Array DictEntry} {ep:Nat},s₁.heap.get? b = some o -> o.data = .dict es ep -> H b = none:=fun {b o es ep} e d=>by
      cases q:H b with
      | none=>rfl
      | some u =>
        rcases hA b (by rw [q];simp) with e' | e'
        · subst e'
          rw [ha] at e;cases e
          have d':Data.seq vs.toArray _ = Data.dict es ep:=d
          cases d'
        · subst e'
          rw [hT] at e;cases e
          have d':Data.fields #[] = Data.dict es ep:=d
          cases d'
    have nsK:∀ {b:Addr} {m:Str -> Option Value},s₁.heap.Ns b m -> (hidT s₁.heap H).Ns b m:=fun {b m} ⟨o,es,ep,e,d,r⟩=>⟨o,es,ep,base_of e (noA e d),d,r⟩
    have hKb:K.In (hidT s₁.heap H):=fun b o e=>base_of (KX b o e) (by
      cases q:H b with
      | none=>rfl
      | some u =>
        rcases hA b (by rw [q];simp) with e' | e'
        · subst e'
          rw [(hK (by rw [q];simp)).1] at e;cases e
        · subst e'
          rw [hTK] at e;cases e)
    have hM:Mod K mg (hidT s₁.heap H):=⟨hKb,nsK hns,⟨mb,nsK hb,hbb⟩,let ⟨mc,h1,h2⟩:=hlim;⟨mc,nsK h1,h2⟩⟩
    have e0:Env0 P w K mg (hidT s₁.heap H) callerA [] s₁ H:=⟨rfl,hM,fun b o e=>of_hidT e,Nat.le_of_eq (hidT_size _ _),trivial,fun b hb=>absurd (show b ∈ ([]:List Addr) from hb) (by simp),hok,.of_eq hg⟩
    refine codeAny_mono ((F _ hKb (nsK hns)).run callerA [] s₁ H ⟨[.ref a],[]⟩ [.ref a] [.ref a] _ _ hr e0 (hbind s₁ (.ref a)) (.cons rfl .nil) (hsp H hO hS)) fun r s' h=>?_
    cases r with
    | error e=>exact (hCX H e s' h).elim
    | ok fl =>
      cases fl with
      | next=>exact False.elim h
      | brk=>exact False.elim h
      | cont=>exact False.elim h
      | ret u =>
        obtain ⟨v,H',os,bare,un,hok',r',q⟩:=h
        have q':v = .bl true /\ Same H H':=q
        obtain ⟨q',sm⟩:=q'
        subst q'
        obtain rfl:u = Value.bool true:=r'
        refine ⟨rfl,⟨fun b o e=>?_,fun b o e=>un.there b o e (by simp)⟩,os,bare⟩
        cases q:H b with
        | none=>exact .inl (un.keep b o e q (by intro z;exact absurd (show b ∈ ([]:List Addr) from z) (by simp)) (by simp))
        | some u =>
          rcases hA b (by rw [q];simp) with z | z
          · subst z
            obtain ⟨_,ob,xs,z⟩:=hK (by rw [q];simp)
            have z2:=sm _ _ z
            obtain ⟨e1,_⟩:=hok _ _ z
            obtain ⟨e2,_⟩:=hok' _ _ z2
            rw [e] at e1;cases e1
            exact .inl e2
          · subst z
            obtain ⟨more,e2,_⟩:=hok' _ _ (sm _ _ hO)
            rw [hT] at e;cases e
            exact .inr (.inl ⟨hct,rfl,#[],more,rfl,e2⟩)
  have okT:∀ H:Hp,ObjOk P w H s₁.heap T (.lam #[] lpos qual):=fun H=>⟨#[],hT,trivial,.inl rfl⟩
  cases hk:K.lookup a with
  | some o =>
    have e:=KX a o hk
    rw [ha] at e
    cases e
    refine core (fun b=>if b = T then some (.lam #[] lpos qual) else none) (if_pos rfl) (.inr ⟨_,vs.toArray,_,hk,rfl,rfl,rfl,by rw [List.size_toArray,lenV];exact hl,by simpa using rv⟩) (fun b u z=>?_) (fun b z=>?_) fun z=>absurd (if_neg haT) z
    · by_cases hb:b = T
      · have z':=(if_pos hb).symm.trans z
        cases z'
        subst hb
        exact okT _
      · have z':=(if_neg hb).symm.trans z
        cases z'
    · by_cases hb:b = T
      · exact .inr hb
      · exact absurd (if_neg hb) z
  | none =>
    refine core (fun b=>if b = T then some (.lam #[] lpos qual) else if b = a then some (.frz { cls:=.type "list",data:=.seq vs.toArray } (.lst (ns.map V.int))) else none) (if_pos rfl) (.inl (.inr ⟨{ cls:=.type "list",data:=.seq vs.toArray },(if_neg haT).trans (if_pos rfl)⟩)) (fun b u z=>?_) (fun b z=>?_) fun _=>⟨hk,_,_,(if_neg haT).trans (if_pos rfl)⟩
    · by_cases hb:b = T
      · have z':=(if_pos hb).symm.trans z
        cases z'
        subst hb
        exact okT _
      · by_cases hba:b = a
        · have z':=((if_neg hb).trans (if_pos hba)).symm.trans z
          cases z'
          subst hba
          exact ⟨ha,by rw [List.length_map];exact hl,vs,_,rv,ha⟩
        · have z':=((if_neg hb).trans (if_neg hba)).symm.trans z
          cases z'
    · by_cases hb:b = T
      · exact .inr hb
      · by_cases hba:b = a
        · exact .inl hba
        · exact absurd ((if_neg hb).trans (if_neg hba)) z
theorem walk_ofT {l:PySem.W.OpenLaw} {n k:Nat} {q:Program} {loose:List Str} {XP:(Str -> Option Value) -> Heap -> Prop} {YP:World -> Heap -> Prop} {d:DefRec} {K:Params -> PySem.W.Frag} {sp:PySem.W.Frag -> Addr -> Sp} {x:Str} {lpos:Pos} {qual:Str}
    (hn:l.most = some n) (hn2:n <= sizeLine) (hdf:d.params.defaults = []) (hr:Room k callerA)
    (hY:∀ (w:World) (h:Heap),YP w h -> (K w.params).In h)
    (F:∀ (w:World) (mg:Str -> Option Value) (fa:Addr) (h:Heap),(K w.params).In h -> h.Ns mainGlobals mg -> mg d.name = some (.ref fa) ->
      ∃ (c T:Addr) (fd:FuncData),(K w.params).lookup T = some (tabObj #[]) /\ codeHdIn (K w.params) c T = true /\ (∀ (s:Shared) (u:Value),BindsTo s fd ⟨[u],[]⟩ [(x,u)]) /\
        ∀ base:Heap,(dropT T (K w.params)).In base -> base.Ns mainGlobals mg -> FnOk l.prog w (dropT T (K w.params)) mg base CX0 k fa fd [x] (sp (dropT T (K w.params)) T))
    (hsp:∀ (K:PySem.W.Frag) (T:Addr) (H:Hp) (a:Addr) (ns:List Int),ns.length <= n -> H T = some (.lam #[] lpos qual) -> SqL K H a (ns.map V.int) -> sp K T [.ref a] H (fun v H'=>v = .bl true /\ Same H H') fun _ _ _=>False) :
    PySem.W.WalkO q loose XP YP l.row.toRowW d [] (fun f vs=>PySem.call f vs):=by
  refine Att.attach_call hn hdf fun w s₀ s₁ mg mb fa o pm cd doc a vs ns G Y ho hd hcd hmg hobj hints hlen hg=>?_
  have KX:=hY w _ Y
  obtain ⟨c,T,fd,hT,hc,hb,hF⟩:=F w mg fa _ KX G.T.g hmg
  have C:=codeHd_of_K KX hc
  refine law_callT (lpos:=lpos) (qual:=qual) (T:=T) (drop_in KX) G.T.g G.T.b G.T.builtins G.T.nolimit hg hobj hints (Nat.le_trans hlen hn2) hr (KX _ _ hT) ?_ (drop_self _ _) hF hb (fun H hO hS=>hsp _ T H a ns hlen hO hS) fun H e s' z=>z
  exact (C.tab (KX _ _ hT)).1.elim fun o ⟨vs,e1,e2,e3,e4⟩=>⟨c,o,vs,e1,e2,e3,e4⟩
end Vc

set_option Elab.async false
set_option linter.all false
set_option maxRecDepth 100000
namespace Vc
open PySem PySem.Spec PyProof.Rows L2
section
variable [KF] {G:GE} {k:Nat}
structure LamG (G:GE) (fd:FuncData) (lpos:Pos) (x:Str):Prop where
  ex:∃ (c P bm:Addr) (sl:Array (Option Value)),fd.code = .ref c /\ PySem.W.codeHdIn G.K c P = true /\ (P,#[],lpos,x ++ ".<locals>." ++ "<lambda>") ∈ KF.tabs /\ mainGlobals ≠ P /\ G.mg "__builtins__" = some (.ref bm) /\ bm ≠ builtinsNs /\ bm ≠ mainGlobals /\ bm ≠ P /\ G.K.lookup bm = some ⟨.type "module",some builtinsNs,.plain,sl⟩
noncomputable abbrev maxKE (told y:Str) (p p' p0 p1 p2 p3 kp dp kp2 lpos pos:Pos) (n j:Nat):Expr:=.Call (.Name "max" p) [.Name told p'] [⟨some "key",.Lambda (lamP y p0) (lamB y n p1 p2 p3) (lscope y) lpos,kp⟩,⟨some "default",.Constant .none j dp,kp2⟩] pos
noncomputable def spG:FSp:=fun ds Q=>∃ xs,ds = [.lst xs] /\ xs.all headed = true /\ Q (.sh (bestF xs))
theorem fn_maxK {x told y:Str} {st:Stmt} {f:Addr} {fd:FuncData} {p p' p0 p1 p2 p3 kp dp kp2 lpos pos rpos:Pos} {n j:Nat} (hK:G.K = KF.K) (Fn:Fun G.K x x st f fd) (Sc:FnScope [told] [told] (defScope st))
    (hb:defBody st = [.Return (some (maxKE told y p p' p0 p1 p2 p3 kp dp kp2 lpos pos n j)) rpos])
    (h1:(defScope st).names.lookup told = some .local) (h2:(defScope st).names.lookup ("max":Str) = some .globalImplicit) (hm:G.mg "max" = none) (L:LamG G fd lpos x)
    (hbind:∀ (qual:Str) (pm ctv:Value) (a c':Addr),bindArgs (PySem.W.kla_fn "<lambda>" qual (lamP y p0) (lamB y n p1 p2 p3) (lscope y) [] pm (.ref c') ctv) ⟨[.ref a],[]⟩ = pure [(y,Value.ref a)]) (hyd:(y == Str.ofString "__debug__") = false)
    (hd:(told == ("__debug__":Str)) = false) (hcd:(told == ("__classdict__":Str)) = false):FnOk G.P G.w G.K G.mg G.base CX0 (k + 1) f fd [told] (spOf spG):=by
  obtain ⟨c,P,bm,slb,e1,e2,e3,e4,e5,e6,e7,e8,e9⟩:=L.ex
  obtain ⟨oc,od,kV,doc,pm,an,cdv,ct,osl,rfl,lk,hcode⟩:=Fn.ex
  have e1:cdv = .ref c:=e1
  subst e1
  have len:∀ vs H Q E,spOf spG vs H Q E -> vs.length = [told].length:=fun vs H Q E h=>by
    obtain ⟨F,ds,Qd,s,r,⟨xs,z,_⟩,K⟩:=h
    rw [r.length,z];rfl
  refine fn_of lk hcode Sc len fun A outer s H vs Q E hr h=>?_
  obtain ⟨F,ds,Qd,sm,r,⟨xs,z,hh,q⟩,K⟩:=h
  subst z
  have ok:XOk (cxOf CX0 G.P G.w G.K G.mg G.base [told] x (defScope st) f (.ref c) A outer s H E).nox G k ⟨[told],(defScope st).names,[],false,false,false,fun _ _=>False⟩ ⟨H,F,[],[]⟩ :=
    ⟨rfl,rfl,rfl,hK,rfl,rfl,rfl,rfl,Sc.nd,fun p hp=>absurd hp (by simp),fun _ _=>rfl,fun _=>rfl,Sc.kind,fun _ _ _=>rfl,fun _=>hr.hd,hr.dp,hr.un,fun _=>PassesOwn.never,fun _=>⟨rfl,rfl,rfl⟩,fun _ _ h=>h.elim,fun h=>nomatch h⟩
  rw [hb]
  have same:∀ {F':Hp} {σd:Sd} {σ:L2.St} {H':Hp},RS ⟨H,F,[],[]⟩ F' σd σ H' -> Same H H':=fun R b o e=>R.old b o e (by simp [Dyn.ioA])
  have pe:PE (cxOf CX0 G.P G.w G.K G.mg G.base [told] x (defScope st) f (.ref c) A outer s H E).nox (maxKE told y p p' p0 p1 p2 p3 kp dp kp2 lpos pos n j) (fun σ H1 Q'=>G.K.In G.base /\ lO ⟨H,F,[],[]⟩ (tMaxK (tVarD 0)) σ H1 Q'):=fun pins s' σ H1 Q' I q=>by
    have L:LamAt (cxOf CX0 G.P G.w G.K G.mg G.base [told] x (defScope st) f (.ref c) A outer s H E).nox c P :=
      ⟨rfl,PySem.W.codeHd_of_K q.1 e2,e4,⟨bm,_,e5,e6,e7,e8,q.1 _ _ e9,rfl,rfl,rfl⟩⟩
    exact pe_maxK ok (r_var 0 rfl (.inl h1) hd hcd) L e3 hm hbind hyd h2 (by intro _;rfl) rfl pins s' σ H1 Q' I q.2
  have pe2:PE (cxOf CX0 G.P G.w G.K G.mg G.base [told] x (defScope st) f (.ref c) A outer s H E).nox (maxKE told y p p' p0 p1 p2 p3 kp dp kp2 lpos pos n j) (lO ⟨H,F,[],[]⟩ (tMaxK (tVarD 0))):=fun pins s' σ H1 Q' I q=>pe pins s' σ H1 Q' I ⟨I.mod.kin,q⟩
  refine ⟨_,(pss_one (ps_ret pe2)).nox,F,startD 1 [.lst xs],fun d σ1=>d = .val (bestF xs),RS.start _ sm r,⟨hh,rfl⟩,fun v H1 F1 y σ1 s1 R1 r1 q1=>?_⟩
  subst q1
  exact K v H1 F1 (.sh (bestF xs)) s1 R1.fr (same R1) R1.fro r1 q
end
end Vc

set_option Elab.async false
set_option linter.all false
set_option maxRecDepth 100000
namespace Vc
open PySem L2
variable [KF]
structure CompSc1 (X:Cx) (scope:Scope) (N':List Str) (caps:List (Option Nat)) (z:Str):Prop where
  kind:scope.kind = .function
  names:∀ y ∈ scope.names,y.2 = .local -> scope.names.lookup y.1 = some .local
  free:∀ y ∈ scope.names,y.2 = .free -> X.env.kindOf y.1 = some .cell \/ X.env.kindOf y.1 = some .free
  len:caps.length = N'.length
  cap:∀ (i:Nat) (j:Nat),caps[i]? = some (some j) -> ∃ x,N'[i]? = some x /\ X.N[j]? = some x /\ scope.names.lookup x = some .free
  cz:scope.names.lookup z = some .cell
  one:∀ y ∈ scope.names,y.2 = .cell -> y.1 = z
  lay:∀ h:Heap,pushCells h scope.names = h.push { cls:=.type "cell",data:=.cell none }
  frm:∀ n acc,cellsFrom n scope.names acc = (z,n) :: acc
section
variable {X:Cx} {pins:List (Addr × Obj)} {σ:St} {H:Hp} {s:Shared} {elt target iter:Expr} {ifs:List Expr} {scope:Scope} {pos:Pos} {N':List Str} {caps:List (Option Nat)} {z:Str}
end
section
variable {X:Cx} {elt iter:Expr} {ifs:List Expr} {scope:Scope} {pos:Pos} {N':List Str} {caps:List (Option Nat)} {wi:TI} {tc:TT} {te:TE}
end
variable {G:GE} {k:Nat} {S:Stat}
structure BlkC (S:Stat) (scope:Scope) (N':List Str) (caps:List (Option Nat)) (z:Str):Prop where
  kind:scope.kind = .function
  nd:N'.Nodup
  names:scope.names.all (fun y=>y.2 != .local || scope.names.lookup y.1 == some .local) = true
  free:scope.names.all (fun y=>y.2 != .free || S.sc.lookup y.1 == some .cell || S.sc.lookup y.1 == some .free) = true
  len:caps.length = N'.length
  cap:(caps.zip N').all (fun p=>match p.1 with | some j=>S.N[j]? == some p.2 && scope.names.lookup p.2 == some .free | none=>true) = true
  cz:scope.names.lookup z = some .cell
  one:scope.names.all (fun y=>y.2 != .cell || y.1 == z) = true
  lay:∀ h:Heap,pushCells h scope.names = h.push { cls:=.type "cell",data:=.cell none }
  frm:∀ n acc,cellsFrom n scope.names acc = (z,n) :: acc
  idx:N'[0]? = some z
end Vc

set_option Elab.async false
set_option linter.all false
set_option maxRecDepth 100000
namespace Vc
open PySem L2
variable [KF]
section
variable {X:Cx}
end
end Vc

set_option Elab.async false
set_option linter.all false
set_option maxRecDepth 100000
namespace Vc
open PySem L2
variable [KF]
variable {G:GE} {k:Nat} {S:Stat}
end Vc

set_option Elab.async false
set_option linter.all false
set_option maxRecDepth 100000
namespace Vc
open PySem L2
variable [KF]
variable {G:GE} {k:Nat} {S:Stat}
end Vc

set_option maxHeartbeats 400000
set_option Elab.async false
set_option linter.all false
set_option maxRecDepth 100000
namespace Vc
open PySem L2
variable [KF]
variable {G:GE} {k:Nat} {S:Stat}
noncomputable def tParD (i j:Nat) (t:TDs):TSd:=fun De σ=>t σ fun ds σ1=>match ds with
  | [d,e]=>De.nx ((σ1.set i (some (.sh d))).set j (some (.sh e)))
  | _=>False
theorem s_par (i j:Nat) {x y:Str} {a b:Expr} {t:TDs} {px py pt pt2 pos:Pos} {kt k2} (h:EDs G k S [a,b] t) (hh:S.hot = false:=by rfl) (hi:S.N[i]? = some x:=by rfl) (hj:S.N[j]? = some y:=by rfl) (hij:i ≠ j:=by decide)
    (hx:S.sc.lookup x = some .local:=by rfl) (hy:S.sc.lookup y = some .local:=by rfl) (ni:i ∉ S.ios:=by first | decide | exact List.not_mem_nil) (nj:j ∉ S.ios:=by first | decide | exact List.not_mem_nil)
    (hw:∀ env:Env,env.kindOf x = some .local -> env.kindOf y = some .local -> env.blockKind = .function -> swappedStores [.Tuple [.Name x px,.Name y py] kt pt] (.Tuple [a,b] k2 pt2) env = pure (some [x,y]):=by intro env h1 h2 h3;unfold swappedStores;dsimp only;rw [h3];simp only [List.filterMap_cons,List.filterMap_nil,h1,h2];rfl)
    (hs:∀ line env,swapsWithSole [.Tuple [.Name x px,.Name y py] kt pt] (.Tuple [a,b] k2 pt2) line env = pure false:=by intro _ _;rfl) :
    ES G k S (.Assign [.Tuple [.Name x px,.Name y py] kt pt] (.Tuple [a,b] k2 pt2) pos) (tParD i j t):=.mk fun X Y ok=>by
  have kx:X.env.kindOf x = some .local:=by show X.env.scope.names.lookup x = _;rw [ok.sc];exact hx
  have ky:X.env.kindOf y = some .local:=by show X.env.scope.names.lookup y = _;rw [ok.sc];exact hy
  have bk:X.env.blockKind = .function:=by unfold Env.blockKind;rw [ok.kind];rfl
  refine ps_imp (L2.ps_par (i:=i) (j:=j) (ok.calm hh) (by rw [ok.N];exact ok.nd) (by rw [ok.N];exact hi) (by rw [ok.N];exact hj) hij (by rw [ok.sc];exact hx) (by rw [ok.sc];exact hy) (h X Y ok) (hw _ kx ky bk) (hs _ _)) fun Dn σ H q=>?_
  obtain ⟨F,σd,De,R,q,K⟩:=q
  refine ⟨F,σd,_,R,q,fun vs H1 F1 xs σ1 s1 R1 r1 q1=>?_⟩
  split at q1
  · rename_i d e
    cases r1 with
    | cons p r =>
      cases r with
      | cons p' r' =>
        cases r'
        refine ⟨_,_,rfl,K.nx _ H1 F1 _ s1 ((R1.setSh (i:=i) p fun q hq z=>ni (z ▸ ok.ios q hq)).setSh (i:=j) p' fun q hq z=>nj (z ▸ ok.ios q hq)) q1⟩
  · exact q1.elim
end Vc

set_option maxHeartbeats 400000
set_option Elab.async false
set_option linter.all false
set_option maxRecDepth 100000
namespace Vc
open PySem L2
variable [KF]
variable {G:GE} {k:Nat} {S:Stat}
noncomputable def cntD (x:D) (xs:List D):Nat:=xs.countP fun y=>eqD y x
noncomputable def rCnt (K:PySem.W.Frag):V -> List V -> Hp -> VK -> Prop:=fun o vs H Q=>∃ F v x xs,vs = [v] /\ Same F H /\ RepH F H o (.lst xs) /\ RepH F H v x /\ okD 8 x = true /\ okD 8 (.lst xs) = true /\ Q (.int (cntD x xs:Nat)) H
theorem count_map {x:D} (hx:okD 8 x = true) (h:Heap):∀ (xs:List D) (us:List Value) (as:List Addr),xs.all (okD 7) = true -> ReadsAll h us (toPys xs) as -> us.countP (fun u=>PyData.eqv (SeqAt.readOf h u) (toPy x)) = cntD x xs
  | [],_,_,_,r=>by cases r;rfl
  | y :: xs,us,as,ho,r=>by
    rw [List.all_cons,Bool.and_eq_true] at ho
    cases r with
    | cons r1 r2 =>
      have e:SeqAt.readOf h _ = toPy y:=SeqAt.readOf_eq (okD_lay 7 y ho.1).1 r1
      have ih:=count_map hx h xs _ _ ho.2 r2
      unfold cntD at ih ⊢
      rw [List.countP_cons,List.countP_cons,e,<- eqD_py 7 8 y x ho.1 hx,ih]
theorem mt_count {X:Cx} (hu:X.A.units + 64 < cLine):MtM X "list.count" (rCnt X.K):=by
  intro pins s σ H o vs ov us Q I ro rv h
  obtain ⟨F,v,x,xs,rfl,sm,r1,r2,o1,o2,q⟩:=h
  obtain ⟨a,ws,rfl,h1,h2⟩:=r1.lst
  cases ro
  obtain ⟨u,rfl,ru⟩:=rv.one
  obtain ⟨z,its,n,rw',e⟩:=L2.Rd.ok h1 I.hok
  obtain ⟨as,ra⟩:=r2.reads I.hok sm ru o1
  have o2':xs.all (okD 7) = true:=o2
  obtain ⟨bs,rb⟩:=repl_reads I.hok sm h2 rw' o2'
  have hl:=okD_layAll (n:=7) (okD_lay 7) xs o2'
  have hx:=okD_lay 8 x o1
  have hf:=count_map o1 s.heap xs its bs o2' rb
  refine call_meets PySem.F.slot_list_count ⟨_,e,rfl⟩ PySem.F.entry_list_count (PySem.F.args_list_count_2 _ _) (SeqAt.list_countAt a its.toArray n none #[] u (fun y=>PyData.eqv (SeqAt.readOf s.heap y) (toPy x))) ⟨e,SeqAt.items_eqAt (vs:=its.toArray) (by simpa using rb) ra hl.1 hx.1 (by have:=Nat.min_le_right (PyData.depthAll (toPys xs)) (toPy x).depth;omega),?_⟩
  rw [show its.toArray.toList = its from rfl,hf]
  exact ⟨.int _,H,I.tok _,⟨_,rfl⟩,q⟩
noncomputable def tCnL (to:TV) (te:TD):TV:=fun σ Q=>to σ fun o σ1=>(∃ ys,drf σ1 o = some (.lst ys)) /\ te σ1 fun x σ2=>match drf σ2 o with
  | some (.lst xs)=>(okD 8 x = true /\ okD 8 (.lst xs) = true) /\ Q (.val (.int (cntD x xs:Nat))) σ2
  | _=>False
theorem r_cnL {o e:Expr} {to:TV} {te:TD} {apos cpos:Pos} (ho:EO G k S o to) (he:ED G k S e te) (hb:∀ env,attributeBase o "count" env (eval o env) = eval o env:=by intro _;rfl)
    (hfew:∀ env,((backTo cpos (starEach [e] env)).all (fun x=>!x.1) && (backToKw cpos (keywordEach [] env)).all (fun x=>x.1.isSome) && decide (([e]:List Expr).length + ([]:List Keyword).length + (if ([]:List Keyword).isEmpty then 0 else 1) < 30)) = true:=by intro _;rfl)
    (hline:(apos.endLine == cpos.line) = true:=by rfl) (hs:∀ env,starEach [e] env = [(false,eval e env)]:=by intro _;rfl):EO G k S (.Call (.Attribute o "count" apos) [e] [] cpos) (tCnL to te):=.mk fun X Y ok=>by
  have ha:PA X [e] (tCons (lD Y te) tNil):=pa_cons (he X Y ok) pa_nil (by rw [hs];rfl)
  refine pe_imp (pe_bm PySem.F.plainAttrs_list PySem.F.slot_list_count PySem.F.type_list_count (mt_count ok.units) (ho X Y ok) ha (hb _) (hfew _) hline (by rw [hs];rfl) (by rfl)) fun σ H Q q=>?_
  obtain ⟨F,σd,Qd,R,q,K⟩:=q
  refine ⟨F,σd,_,R,q,fun v1 H1 F1 x σ1 s1 R1 r1 q1=>?_⟩
  obtain ⟨⟨ys,e0⟩,q1⟩:=q1
  obtain ⟨a,ws,e1,h1,_⟩:=(R1.drf r1 e0).lst
  refine ⟨by rw [e1];exact .inl ⟨rfl,ws,.inl h1⟩,F1,σ1,_,R1,q1,fun v2 H2 F2 d σ2 s2 R2 r2 q2=>?_⟩
  split at q2
  · rename_i xs e2
    obtain ⟨⟨o1,o2⟩,q2⟩:=q2
    exact ⟨F2,v2,d,xs,rfl,R2.fr,R2.drf (r1.mono s2) e2,Rep.h R2.fr r2,o1,o2,K _ H2 F2 (.val (.int _)) σ2 (s1.trans s2) R2 (.int _) q2⟩
  · exact q2.elim
end Vc

set_option Elab.async false
set_option linter.all false
set_option maxRecDepth 100000
namespace Vc
open PySem L2
section
variable {prog:Program} {w:World} {K:Type} [DecidableEq K] {kn:HeapKind prog w K} {A:Around} {E:Value -> Shared -> Prop} {s:Shared}
end
end Vc

set_option Elab.async false
set_option linter.all false
set_option maxRecDepth 100000
namespace Vc
open PySem L2
section
variable {prog:Program} {w:World} {A:Around} {E:Value -> Shared -> Prop} {s:Shared} {d it:Addr} {en:Array DictEntry} {c i:Nat}
end
end Vc

set_option maxHeartbeats 0
set_option Elab.async false
set_option linter.all false
set_option maxRecDepth 100000
namespace K49
open PySem L2 Vc

section
noncomputable def top (i:Nat):Stmt:=PySem.Challenge.pw_closepoints_k49_whole_farthest_and_middl.main.body.getD i (.Pass ⟨0,0,0,0⟩)
variable [KF]
structure Gl (G:GE):Prop where
  z_abs:G.mg "abs" = none
  z_enumerate:G.mg "enumerate" = none
  z_int:G.mg "int" = none
  z_len:G.mg "len" = none
  z_max:G.mg "max" = none
  z_min:G.mg "min" = none
  z_range:G.mg "range" = none
  z_sum:G.mg "sum" = none
  z_tuple:G.mg "tuple" = none
  z_zip:G.mg "zip" = none
  c_SQUARES:ConG G "SQUARES" (.str "squares")
  c_STREETS:ConG G "STREETS" (.str "streets")
variable {G:GE} {k:Nat}
noncomputable abbrev s_q15:Stmt:=top 9
noncomputable abbrev N_q15:List Str:=["count"]
theorem sc_q15:FnScope N_q15 ["count"] (defScope s_q15):=⟨rfl,rfl,rfl,by decide +kernel,rfl,by decide +kernel,by decide +kernel⟩
noncomputable def t_q15:TSd:=(tIfD (tOrB (tCmp2 ltT (tVarD 0) (tCD (.int 1))) (tCmp2 gtT (tVarD 0) (tCD (.int 3)))) tNev tNx)
theorem e_q15 (E:Gl G):ESs G k ⟨N_q15,(defScope s_q15).names,[],false,false,false,fun _ _=>False⟩ (defBody s_q15) (t_q15):=(s_one (s_if (r_w (r_or (r_tcmp c_lt (r_var 0) r_int) (r_or1 (r_tcmp c_gt (r_var 0) r_int)))) (s_one s_never) s_nil))
noncomputable abbrev s_q0:Stmt:=top 10
noncomputable abbrev N_q0:List Str:=["point","count"]
theorem sc_q0:FnScope N_q0 ["point","count"] (defScope s_q0):=⟨rfl,rfl,rfl,by decide +kernel,rfl,by decide +kernel,by decide +kernel⟩
noncomputable def t_q0:TSd:=(tIfD (tCmp2 neT (tFz (tCl lenF (tCoo (tVarD 0) tNo))) (tVarD 1)) tNev tNx)
theorem e_q0 (E:Gl G):ESs G k ⟨N_q0,(defScope s_q0).names,[],false,false,false,fun _ _=>False⟩ (defBody s_q0) (t_q0):=(s_one (s_if (r_tcmp c_ne (r_o (r_bf f_len E.z_len (o_cons (r_var 0) o_nil) (by decide +kernel))) (r_var 1)) (s_one s_never) s_nil))
noncomputable abbrev s_q11:Stmt:=top 11
noncomputable abbrev N_q11:List Str:=["points","point"]
theorem sc_q11:FnScope N_q11 ["points"] (defScope s_q11):=⟨rfl,rfl,rfl,by decide +kernel,rfl,by decide +kernel,by decide +kernel⟩
noncomputable def t_q11 (sp_q15:FSp) (sp_q0:FSp):TSd:=(tForD (itemsD (tVal [] (tVarD 0))) (gNm 1) (tSq (tDp (tCa sp_q15 (tCo (tVal [] (tFz (tCl lenF (tCoo (tVarD 1) tNo)))) tN))) (tDp (tCa sp_q0 (tCo (tVal [] (tVarD 1)) (tCo (tVal [] (tFz (tCl lenF (tCoo (tIx (tVarD 0) (tCD (.int 0))) tNo)))) tN))))))
theorem e_q11 (E:Gl G) {sp_q15:FSp} (h_q15:FnG G k "need_count" sp_q15) {sp_q0:FSp} (h_q0:FnG G k "need_as_many_numbers" sp_q0):ESs G k ⟨N_q11,(defScope s_q11).names,[],false,false,false,fun _ _=>False⟩ (defBody s_q11) (t_q11 sp_q15 sp_q0):=(s_one (s_for (i_seq (r_d (r_var 0))) (g_name 1) (s_cons (s_expr (r_call h_q15 (a_cons (r_d (r_o (r_bf f_len E.z_len (o_cons (r_var 1) o_nil) (by decide +kernel)))) a_nil))) (s_one (s_expr (r_call h_q0 (a_cons (r_d (r_var 1)) (a_cons (r_d (r_o (r_bf f_len E.z_len (o_cons (r_ix (r_var 0) r_int) o_nil) (by decide +kernel)))) a_nil))))))))
noncomputable abbrev s_q21:Stmt:=top 12
noncomputable abbrev N_q21:List Str:=["way"]
theorem sc_q21:FnScope N_q21 ["way"] (defScope s_q21):=⟨rfl,rfl,rfl,by decide +kernel,rfl,by decide +kernel,by decide +kernel⟩
noncomputable def t_q21:TSd:=(tIfD (tAndB (tCmp2 neT (tVarD 0) (tCD (.str "streets"))) (tCmp2 neT (tVarD 0) (tCD (.str "squares")))) tNev tNx)
theorem e_q21 (E:Gl G):ESs G k ⟨N_q21,(defScope s_q21).names,[],false,false,false,fun _ _=>False⟩ (defBody s_q21) (t_q21):=(s_one (s_if (r_w (r_and (r_tcmp c_ne (r_var 0) (r_con E.c_STREETS)) (r_and1 (r_tcmp c_ne (r_var 0) (r_con E.c_SQUARES))))) (s_one s_never) s_nil))
noncomputable abbrev s_q2:Stmt:=top 13
noncomputable abbrev N_q2:List Str:=["points","way"]
theorem sc_q2:FnScope N_q2 ["points","way"] (defScope s_q2):=⟨rfl,rfl,rfl,by decide +kernel,rfl,by decide +kernel,by decide +kernel⟩
noncomputable def t_q2 (sp_q11:FSp) (sp_q21:FSp):TSd:=(tSq (tDp (tCa sp_q11 (tCo (tVal [] (tVarD 0)) tN))) (tDp (tCa sp_q21 (tCo (tVal [] (tVarD 1)) tN))))
theorem e_q2 (E:Gl G) {sp_q11:FSp} (h_q11:FnG G k "need_points" sp_q11) {sp_q21:FSp} (h_q21:FnG G k "need_way" sp_q21):ESs G k ⟨N_q2,(defScope s_q2).names,[],false,false,false,fun _ _=>False⟩ (defBody s_q2) (t_q2 sp_q11 sp_q21):=(s_cons (s_expr (r_call h_q11 (a_cons (r_d (r_var 0)) a_nil))) (s_one (s_expr (r_call h_q21 (a_cons (r_d (r_var 1)) a_nil)))))
noncomputable abbrev s_q16:Stmt:=top 14
noncomputable abbrev N_q16:List Str:=["points","place"]
theorem sc_q16:FnScope N_q16 ["points","place"] (defScope s_q16):=⟨rfl,rfl,rfl,by decide +kernel,rfl,by decide +kernel,by decide +kernel⟩
noncomputable def t_q16:TSd:=(tIfD (tOrB (tCmp2 ltT (tVarD 1) (tCD (.int 0))) (tCmp2 geT (tVarD 1) (tFz (tCl lenF (tCoo (tVarD 0) tNo))))) tNev tNx)
theorem e_q16 (E:Gl G):ESs G k ⟨N_q16,(defScope s_q16).names,[],false,false,false,fun _ _=>False⟩ (defBody s_q16) (t_q16):=(s_one (s_if (r_w (r_or (r_tcmp c_lt (r_var 1) r_int) (r_or1 (r_tcmp c_ge (r_var 1) (r_o (r_bf f_len E.z_len (o_cons (r_var 0) o_nil) (by decide +kernel))))))) (s_one s_never) s_nil))
noncomputable abbrev s_q14:Stmt:=top 15
noncomputable abbrev N_q14:List Str:=["bound"]
theorem sc_q14:FnScope N_q14 ["bound"] (defScope s_q14):=⟨rfl,rfl,rfl,by decide +kernel,rfl,by decide +kernel,by decide +kernel⟩
noncomputable def t_q14:TSd:=(tIfD (tCmp2 ltT (tVarD 0) (tCD (.int 0))) tNev tNx)
theorem e_q14 (E:Gl G):ESs G k ⟨N_q14,(defScope s_q14).names,[],false,false,false,fun _ _=>False⟩ (defBody s_q14) (t_q14):=(s_one (s_if (r_tcmp c_lt (r_var 0) r_int) (s_one s_never) s_nil))
noncomputable abbrev s_q8:Stmt:=top 17
noncomputable abbrev N_q8:List Str:=["way","point","other","differences"]
theorem sc_q8:FnScope N_q8 ["way","point","other"] (defScope s_q8):=⟨rfl,rfl,rfl,by decide +kernel,rfl,by decide +kernel,by decide +kernel⟩
noncomputable def t_q8:TSd:=(tSq (tSt [] 3 (tComp [] [none,none] (tZip (tCo (tVal [] (tVarD 1)) (tCo (tVal [] (tVarD 2)) tN))) (gTu 2 (gC (gNm 0) (gC (gNm 1) gN0))) tTrue (tVal [] (tFz (tCl absF (tCoo (tFz (tBin subD (tVarD 0) (tVarD 1))) tNo)))))) (tSq (tIfD (tCmp2 eqT (tVarD 0) (tCD (.str "streets"))) (tRt [] (tCl sumF (tCoo (tVarD 3) tNo))) tNx) (tRt [] (tCl sumF (tCoo (tFz (tComp [] [none] (itemsD (tVal [] (tVarD 3))) (gNm 0) tTrue (tVal [] (tFz (tBin mulD (tVarD 0) (tVarD 0)))))) tNo)))))
theorem e_q8 (E:Gl G):ESs G k ⟨N_q8,(defScope s_q8).names,[],false,false,false,fun _ _=>False⟩ (defBody s_q8) (t_q8):=(s_cons (s_comp 3 (N':=["here","there"]) (i_zip (a_cons (r_d (r_var 1)) (a_cons (r_d (r_var 2)) a_nil)) E.z_zip) ⟨rfl,by decide +kernel,by decide +kernel,by decide +kernel,by decide +kernel,rfl,by decide +kernel⟩ (g_tup (gs_cons (g_name 0) (gs_cons (g_name 1) gs_nil))) b_nil (r_d (r_o (r_bf f_abs E.z_abs (o_cons (r_o (r_sub (r_var 0) (r_var 1))) o_nil) (by decide +kernel))))) (s_cons (s_if (r_tcmp c_eq (r_var 0) (r_con E.c_STREETS)) (s_one (s_ret (r_bf f_sum E.z_sum (o_cons (r_var 3) o_nil) (by decide +kernel)))) s_nil) (s_one (s_ret (r_bf f_sum E.z_sum (o_cons (r_o (r_comp (N':=["difference"]) (i_seq (r_d (r_var 3))) ⟨rfl,by decide +kernel,by decide +kernel,by decide +kernel,by decide +kernel,rfl,by decide +kernel⟩ (g_name 0) b_nil (r_d (r_o (r_mul (r_var 0) (r_var 0)))))) o_nil) (by decide +kernel))))))
noncomputable abbrev s_q4:Stmt:=top 18
noncomputable abbrev N_q4:List Str:=["points","way","pairs","i","j"]
theorem sc_q4:FnScope N_q4 ["points","way"] (defScope s_q4):=⟨rfl,rfl,rfl,by decide +kernel,rfl,by decide +kernel,by decide +kernel⟩
noncomputable def t_q4 (sp_q8:FSp):TSd:=(tSq (tSt [] 2 (tLs tN)) (tSq (tForD (rng1 (tCoo (tFz (tCl lenF (tCoo (tVarD 0) tNo))) tNo)) (gNm 3) (tForD (rng2 (tCoo (tFz (tBin addD (tVarD 3) (tCD (.int 1)))) (tCoo (tFz (tCl lenF (tCoo (tVarD 0) tNo))) tNo))) (gNm 4) (tDp (tApp (tVarD 2) (tVal [] (tTu (tCo (tVal [] (tFz (tCa sp_q8 (tCo (tVal [] (tVarD 1)) (tCo (tVal [] (tIx (tVarD 0) (tVarD 3))) (tCo (tVal [] (tIx (tVarD 0) (tVarD 4))) tN)))))) (tCo (tVal [] (tVarD 3)) (tCo (tVal [] (tVarD 4)) tN))))))))) (tRt [] (oX (tVarD 2)))))
theorem e_q4 (E:Gl G) {sp_q8:FSp} (h_q8:FnG G k "far_between" sp_q8):ESs G k ⟨N_q4,(defScope s_q4).names,[],false,false,false,fun _ _=>False⟩ (defBody s_q4) (t_q4 sp_q8):=(s_cons (s_set 2 (r_lst a_nil)) (s_cons (s_for (i_rng1 (o_cons (r_o (r_bf f_len E.z_len (o_cons (r_var 0) o_nil) (by decide +kernel))) o_nil) E.z_range) (g_name 3) (s_one (s_for (i_rng2 (o_cons (r_o (r_add (r_var 3) r_int)) (o_cons (r_o (r_bf f_len E.z_len (o_cons (r_var 0) o_nil) (by decide +kernel))) o_nil)) E.z_range) (g_name 4) (s_one (s_expr (r_append (r_var 2) (r_d (r_tup (a_cons (r_d (r_o (r_call h_q8 (a_cons (r_d (r_var 1)) (a_cons (r_d (r_ix (r_var 0) (r_var 3))) (a_cons (r_d (r_ix (r_var 0) (r_var 4))) a_nil)))))) (a_cons (r_d (r_var 3)) (a_cons (r_d (r_var 4)) a_nil))))))))))) (s_one (s_ret (r_x (r_var 2))))))
noncomputable abbrev s_q23:Stmt:=top 19
noncomputable abbrev N_q23:List Str:=["points","way","one","other"]
theorem sc_q23:FnScope N_q23 ["points","way","one","other"] (defScope s_q23):=⟨rfl,rfl,rfl,by decide +kernel,rfl,by decide +kernel,by decide +kernel⟩
noncomputable def t_q23 (sp_q2:FSp) (sp_q16:FSp) (sp_q8:FSp):TSd:=(tSq (tDp (tCa sp_q2 (tCo (tVal [] (tVarD 0)) (tCo (tVal [] (tVarD 1)) tN)))) (tSq (tDp (tCa sp_q16 (tCo (tVal [] (tVarD 0)) (tCo (tVal [] (tVarD 2)) tN)))) (tSq (tDp (tCa sp_q16 (tCo (tVal [] (tVarD 0)) (tCo (tVal [] (tVarD 3)) tN)))) (tRt [] (tCa sp_q8 (tCo (tVal [] (tVarD 1)) (tCo (tVal [] (tIx (tVarD 0) (tVarD 2))) (tCo (tVal [] (tIx (tVarD 0) (tVarD 3))) tN))))))))
theorem e_q23 (E:Gl G) {sp_q2:FSp} (h_q2:FnG G k "need_points_and_way" sp_q2) {sp_q16:FSp} (h_q16:FnG G k "need_place" sp_q16) {sp_q8:FSp} (h_q8:FnG G k "far_between" sp_q8):ESs G k ⟨N_q23,(defScope s_q23).names,[],false,false,false,fun _ _=>False⟩ (defBody s_q23) (t_q23 sp_q2 sp_q16 sp_q8):=(s_cons (s_expr (r_call h_q2 (a_cons (r_d (r_var 0)) (a_cons (r_d (r_var 1)) a_nil)))) (s_cons (s_expr (r_call h_q16 (a_cons (r_d (r_var 0)) (a_cons (r_d (r_var 2)) a_nil)))) (s_cons (s_expr (r_call h_q16 (a_cons (r_d (r_var 0)) (a_cons (r_d (r_var 3)) a_nil)))) (s_one (s_ret (r_call h_q8 (a_cons (r_d (r_var 1)) (a_cons (r_d (r_ix (r_var 0) (r_var 2))) (a_cons (r_d (r_ix (r_var 0) (r_var 3))) a_nil)))))))))
noncomputable abbrev s_q13:Stmt:=top 21
noncomputable abbrev N_q13:List Str:=["points","way","bound"]
theorem sc_q13:FnScope N_q13 ["points","way","bound"] (defScope s_q13):=⟨rfl,rfl,rfl,by decide +kernel,rfl,by decide +kernel,by decide +kernel⟩
noncomputable def t_q13 (sp_q2:FSp) (sp_q14:FSp) (sp_q4:FSp):TSd:=(tSq (tDp (tCa sp_q2 (tCo (tVal [] (tVarD 0)) (tCo (tVal [] (tVarD 1)) tN)))) (tSq (tDp (tCa sp_q14 (tCo (tVal [] (tVarD 2)) tN))) (tRt [] (tComp [] [none,none,none,some 2] (itemsD (tVal [] (tFz (tCa sp_q4 (tCo (tVal [] (tVarD 0)) (tCo (tVal [] (tVarD 1)) tN)))))) (gTu 3 (gC (gNm 0) (gC (gNm 1) (gC (gNm 2) gN0)))) (tCmp2 leT (tVarD 0) (tVarD 3)) (tVal [] (tTu (tCo (tVal [] (tVarD 1)) (tCo (tVal [] (tVarD 2)) tN))))))))
theorem e_q13 (E:Gl G) {sp_q2:FSp} (h_q2:FnG G k "need_points_and_way" sp_q2) {sp_q14:FSp} (h_q14:FnG G k "need_bound" sp_q14) {sp_q4:FSp} (h_q4:FnG G k "pairs_by_places" sp_q4):ESs G k ⟨N_q13,(defScope s_q13).names,[],false,false,false,fun _ _=>False⟩ (defBody s_q13) (t_q13 sp_q2 sp_q14 sp_q4):=(s_cons (s_expr (r_call h_q2 (a_cons (r_d (r_var 0)) (a_cons (r_d (r_var 1)) a_nil)))) (s_cons (s_expr (r_call h_q14 (a_cons (r_d (r_var 2)) a_nil))) (s_one (s_ret (r_comp (N':=["far","i","j","bound"]) (i_seq (r_d (r_o (r_call h_q4 (a_cons (r_d (r_var 0)) (a_cons (r_d (r_var 1)) a_nil)))))) ⟨rfl,by decide +kernel,by decide +kernel,by decide +kernel,by decide +kernel,rfl,by decide +kernel⟩ (g_tup (gs_cons (g_name 0) (gs_cons (g_name 1) (gs_cons (g_name 2) gs_nil)))) (b_one (r_tcmp c_le (r_var 0) (r_var 3))) (r_d (r_tup (a_cons (r_d (r_var 1)) (a_cons (r_d (r_var 2)) a_nil)))))))))
noncomputable abbrev s_q10:Stmt:=top 22
noncomputable abbrev N_q10:List Str:=["points","way","bound","counts","i","j"]
theorem sc_q10:FnScope N_q10 ["points","way","bound"] (defScope s_q10):=⟨rfl,rfl,rfl,by decide +kernel,rfl,by decide +kernel,by decide +kernel⟩
noncomputable def t_q10 (sp_q13:FSp):TSd:=(tSq (tSt [] 3 (tComp [] [none] (itemsD (tVal [] (tVarD 0))) (gNm 0) tTrue (tVal [] (tCD (.int 0))))) (tSq (tForD (itemsD (tVal [] (tFz (tCa sp_q13 (tCo (tVal [] (tVarD 0)) (tCo (tVal [] (tVarD 1)) (tCo (tVal [] (tVarD 2)) tN))))))) (gTu 2 (gC (gNm 4) (gC (gNm 5) gN0))) (tSq (tAug 3 (tVarD 4) (1)) (tAug 3 (tVarD 5) (1)))) (tRt [] (oX (tVarD 3)))))
theorem e_q10 (E:Gl G) {sp_q13:FSp} (h_q13:FnG G k "near_pairs" sp_q13):ESs G k ⟨N_q10,(defScope s_q10).names,[],false,false,false,fun _ _=>False⟩ (defBody s_q10) (t_q10 sp_q13):=(s_cons (s_comp 3 (N':=["point"]) (i_seq (r_d (r_var 0))) ⟨rfl,by decide +kernel,by decide +kernel,by decide +kernel,by decide +kernel,rfl,by decide +kernel⟩ (g_name 0) b_nil (r_d r_int)) (s_cons (s_for (i_seq (r_d (r_o (r_call h_q13 (a_cons (r_d (r_var 0)) (a_cons (r_d (r_var 1)) (a_cons (r_d (r_var 2)) a_nil))))))) (g_tup (gs_cons (g_name 4) (gs_cons (g_name 5) gs_nil))) (s_cons (s_aug 3 (r_var 3) (r_var 4) r_int) (s_one (s_aug 3 (r_var 3) (r_var 5) r_int)))) (s_one (s_ret (r_x (r_var 3))))))
noncomputable abbrev s_q5:Stmt:=top 24
noncomputable abbrev N_q5:List Str:=["told"]
theorem sc_q5:FnScope N_q5 ["told"] (defScope s_q5):=⟨rfl,rfl,rfl,by decide +kernel,rfl,by decide +kernel,by decide +kernel⟩
theorem e_q5 (E:Gl G) (hK:G.K = KF.K) {f:Addr} {fd:FuncData} (Fn:L2.Fun G.K "greatest_first" "greatest_first" s_q5 f fd) (L:LamG G fd ⟨67,25,67,43⟩ "greatest_first"):FnOk G.P G.w G.K G.mg G.base CX0 (k + 1) f fd ["told"] (spOf spG):=fn_maxK hK Fn sc_q5 rfl rfl rfl E.z_max L (fun _ _ _ _ _=>rfl) (by decide) (by decide) (by decide)
noncomputable abbrev s_q22:Stmt:=top 25
noncomputable abbrev N_q22:List Str:=["points","way","place"]
theorem sc_q22:FnScope N_q22 ["points","way","place"] (defScope s_q22):=⟨rfl,rfl,rfl,by decide +kernel,rfl,by decide +kernel,by decide +kernel⟩
noncomputable def t_q22 (sp_q8:FSp):TSd:=(tRt [] (tComp [] [none,some 1,some 0,some 2] (itemsD (tVal [] (tVarD 0))) (gNm 0) tTrue (tVal [] (tFz (tCa sp_q8 (tCo (tVal [] (tVarD 1)) (tCo (tVal [] (tIx (tVarD 2) (tVarD 3))) (tCo (tVal [] (tVarD 0)) tN))))))))
theorem e_q22 (E:Gl G) {sp_q8:FSp} (h_q8:FnG G k "far_between" sp_q8):ESs G k ⟨N_q22,(defScope s_q22).names,[],false,false,false,fun _ _=>False⟩ (defBody s_q22) (t_q22 sp_q8):=(s_one (s_ret (r_comp (N':=["other","way","points","place"]) (i_seq (r_d (r_var 0))) ⟨rfl,by decide +kernel,by decide +kernel,by decide +kernel,by decide +kernel,rfl,by decide +kernel⟩ (g_name 0) b_nil (r_d (r_o (r_call h_q8 (a_cons (r_d (r_var 1)) (a_cons (r_d (r_ix (r_var 2) (r_var 3))) (a_cons (r_d (r_var 0)) a_nil)))))))))
noncomputable abbrev s_q7:Stmt:=top 26
noncomputable abbrev N_q7:List Str:=["points","way"]
theorem sc_q7:FnScope N_q7 ["points","way"] (defScope s_q7):=⟨rfl,rfl,rfl,by decide +kernel,rfl,by decide +kernel,by decide +kernel⟩
noncomputable def t_q7 (sp_q2:FSp) (sp_q5:FSp) (sp_q4:FSp):TSd:=(tSq (tDp (tCa sp_q2 (tCo (tVal [] (tVarD 0)) (tCo (tVal [] (tVarD 1)) tN)))) (tRt [] (tCa sp_q5 (tCo (tVal [] (tFz (tCa sp_q4 (tCo (tVal [] (tVarD 0)) (tCo (tVal [] (tVarD 1)) tN))))) tN))))
theorem e_q7 (E:Gl G) {sp_q2:FSp} (h_q2:FnG G k "need_points_and_way" sp_q2) {sp_q5:FSp} (h_q5:FnG G k "greatest_first" sp_q5) {sp_q4:FSp} (h_q4:FnG G k "pairs_by_places" sp_q4):ESs G k ⟨N_q7,(defScope s_q7).names,[],false,false,false,fun _ _=>False⟩ (defBody s_q7) (t_q7 sp_q2 sp_q5 sp_q4):=(s_cons (s_expr (r_call h_q2 (a_cons (r_d (r_var 0)) (a_cons (r_d (r_var 1)) a_nil)))) (s_one (s_ret (r_call h_q5 (a_cons (r_d (r_o (r_call h_q4 (a_cons (r_d (r_var 0)) (a_cons (r_d (r_var 1)) a_nil))))) a_nil)))))
noncomputable abbrev s_q9:Stmt:=top 27
noncomputable abbrev N_q9:List Str:=["points","way","place","fars"]
theorem sc_q9:FnScope N_q9 ["points","way","place"] (defScope s_q9):=⟨rfl,rfl,rfl,by decide +kernel,rfl,by decide +kernel,by decide +kernel⟩
noncomputable def t_q9 (sp_q2:FSp) (sp_q16:FSp) (sp_q22:FSp) (sp_q5:FSp):TSd:=(tSq (tDp (tCa sp_q2 (tCo (tVal [] (tVarD 0)) (tCo (tVal [] (tVarD 1)) tN)))) (tSq (tDp (tCa sp_q16 (tCo (tVal [] (tVarD 0)) (tCo (tVal [] (tVarD 2)) tN)))) (tSq (tSt [] 3 (tCa sp_q22 (tCo (tVal [] (tVarD 0)) (tCo (tVal [] (tVarD 1)) (tCo (tVal [] (tVarD 2)) tN))))) (tRt [] (tCa sp_q5 (tCo (tVal [] (tFz (tComp [] [none,none,some 2] (tEnumS (tCo (tVal [] (tVarD 3)) tN)) (gTu 2 (gC (gNm 0) (gC (gNm 1) gN0))) (tCmp2 neT (tVarD 0) (tVarD 2)) (tVal [] (tTu (tCo (tVal [] (tVarD 1)) (tCo (tVal [] (tVarD 0)) tN))))))) tN))))))
theorem e_q9 (E:Gl G) {sp_q2:FSp} (h_q2:FnG G k "need_points_and_way" sp_q2) {sp_q16:FSp} (h_q16:FnG G k "need_place" sp_q16) {sp_q22:FSp} (h_q22:FnG G k "fars_of" sp_q22) {sp_q5:FSp} (h_q5:FnG G k "greatest_first" sp_q5):ESs G k ⟨N_q9,(defScope s_q9).names,[],false,false,false,fun _ _=>False⟩ (defBody s_q9) (t_q9 sp_q2 sp_q16 sp_q22 sp_q5):=(s_cons (s_expr (r_call h_q2 (a_cons (r_d (r_var 0)) (a_cons (r_d (r_var 1)) a_nil)))) (s_cons (s_expr (r_call h_q16 (a_cons (r_d (r_var 0)) (a_cons (r_d (r_var 2)) a_nil)))) (s_cons (s_set 3 (r_call h_q22 (a_cons (r_d (r_var 0)) (a_cons (r_d (r_var 1)) (a_cons (r_d (r_var 2)) a_nil))))) (s_one (s_ret (r_call h_q5 (a_cons (r_d (r_o (r_comp (N':=["other","far","place"]) (i_enumS (a_cons (r_d (r_var 3)) a_nil) E.z_enumerate) ⟨rfl,by decide +kernel,by decide +kernel,by decide +kernel,by decide +kernel,rfl,by decide +kernel⟩ (g_tup (gs_cons (g_name 0) (gs_cons (g_name 1) gs_nil))) (b_one (r_tcmp c_ne (r_var 0) (r_var 2))) (r_d (r_tup (a_cons (r_d (r_var 1)) (a_cons (r_d (r_var 0)) a_nil))))))) a_nil)))))))
noncomputable abbrev s_q25:Stmt:=top 28
noncomputable abbrev N_q25:List Str:=["points","way"]
theorem sc_q25:FnScope N_q25 ["points","way"] (defScope s_q25):=⟨rfl,rfl,rfl,by decide +kernel,rfl,by decide +kernel,by decide +kernel⟩
noncomputable def t_q25 (sp_q2:FSp) (sp_q22:FSp):TSd:=(tSq (tDp (tCa sp_q2 (tCo (tVal [] (tVarD 0)) (tCo (tVal [] (tVarD 1)) tN)))) (tRt [] (oX (tMin (tFz (tComp [] [none,some 0,some 1] (rng1 (tCoo (tFz (tCl lenF (tCoo (tVarD 0) tNo))) tNo)) (gNm 0) tTrue (tVal [] (tTu (tCo (tVal [] (tFz (tCl max1F (tCoo (tFz (tCa sp_q22 (tCo (tVal [] (tVarD 1)) (tCo (tVal [] (tVarD 2)) (tCo (tVal [] (tVarD 0)) tN))))) tNo)))) (tCo (tVal [] (tVarD 0)) tN)))))) (tVal [] (tCD .non))))))
theorem e_q25 (E:Gl G) {sp_q2:FSp} (h_q2:FnG G k "need_points_and_way" sp_q2) {sp_q22:FSp} (h_q22:FnG G k "fars_of" sp_q22):ESs G k ⟨N_q25,(defScope s_q25).names,[],false,false,false,fun _ _=>False⟩ (defBody s_q25) (t_q25 sp_q2 sp_q22):=(s_cons (s_expr (r_call h_q2 (a_cons (r_d (r_var 0)) (a_cons (r_d (r_var 1)) a_nil)))) (s_one (s_ret (r_x (r_min (r_o (r_comp (N':=["place","points","way"]) (i_rng1 (o_cons (r_o (r_bf f_len E.z_len (o_cons (r_var 0) o_nil) (by decide +kernel))) o_nil) E.z_range) ⟨rfl,by decide +kernel,by decide +kernel,by decide +kernel,by decide +kernel,rfl,by decide +kernel⟩ (g_name 0) b_nil (r_d (r_tup (a_cons (r_d (r_o (r_bf f_max1 E.z_max (o_cons (r_o (r_call h_q22 (a_cons (r_d (r_var 1)) (a_cons (r_d (r_var 2)) (a_cons (r_d (r_var 0)) a_nil))))) o_nil) (by decide +kernel)))) (a_cons (r_d (r_var 0)) a_nil)))))) (r_d r_non) E.z_min)))))
noncomputable abbrev s_q17:Stmt:=top 29
noncomputable abbrev N_q17:List Str:=["points","way"]
theorem sc_q17:FnScope N_q17 ["points","way"] (defScope s_q17):=⟨rfl,rfl,rfl,by decide +kernel,rfl,by decide +kernel,by decide +kernel⟩
noncomputable def t_q17 (sp_q2:FSp) (sp_q22:FSp):TSd:=(tSq (tDp (tCa sp_q2 (tCo (tVal [] (tVarD 0)) (tCo (tVal [] (tVarD 1)) tN)))) (tRt [] (oX (tMin (tFz (tComp [] [none,some 0,some 1] (rng1 (tCoo (tFz (tCl lenF (tCoo (tVarD 0) tNo))) tNo)) (gNm 0) tTrue (tVal [] (tTu (tCo (tVal [] (tFz (tCl sumF (tCoo (tFz (tCa sp_q22 (tCo (tVal [] (tVarD 1)) (tCo (tVal [] (tVarD 2)) (tCo (tVal [] (tVarD 0)) tN))))) tNo)))) (tCo (tVal [] (tVarD 0)) tN)))))) (tVal [] (tCD .non))))))
theorem e_q17 (E:Gl G) {sp_q2:FSp} (h_q2:FnG G k "need_points_and_way" sp_q2) {sp_q22:FSp} (h_q22:FnG G k "fars_of" sp_q22):ESs G k ⟨N_q17,(defScope s_q17).names,[],false,false,false,fun _ _=>False⟩ (defBody s_q17) (t_q17 sp_q2 sp_q22):=(s_cons (s_expr (r_call h_q2 (a_cons (r_d (r_var 0)) (a_cons (r_d (r_var 1)) a_nil)))) (s_one (s_ret (r_x (r_min (r_o (r_comp (N':=["place","points","way"]) (i_rng1 (o_cons (r_o (r_bf f_len E.z_len (o_cons (r_var 0) o_nil) (by decide +kernel))) o_nil) E.z_range) ⟨rfl,by decide +kernel,by decide +kernel,by decide +kernel,by decide +kernel,rfl,by decide +kernel⟩ (g_name 0) b_nil (r_d (r_tup (a_cons (r_d (r_o (r_bf f_sum E.z_sum (o_cons (r_o (r_call h_q22 (a_cons (r_d (r_var 1)) (a_cons (r_d (r_var 2)) (a_cons (r_d (r_var 0)) a_nil))))) o_nil) (by decide +kernel)))) (a_cons (r_d (r_var 0)) a_nil)))))) (r_d r_non) E.z_min)))))
noncomputable abbrev s_q19:Stmt:=top 30
noncomputable abbrev N_q19:List Str:=["points","way","bound","counts"]
theorem sc_q19:FnScope N_q19 ["points","way","bound"] (defScope s_q19):=⟨rfl,rfl,rfl,by decide +kernel,rfl,by decide +kernel,by decide +kernel⟩
noncomputable def t_q19 (sp_q10:FSp) (sp_q5:FSp):TSd:=(tSq (tSt [] 3 (tCa sp_q10 (tCo (tVal [] (tVarD 0)) (tCo (tVal [] (tVarD 1)) (tCo (tVal [] (tVarD 2)) tN))))) (tRt [] (tCa sp_q5 (tCo (tVal [] (tFz (tComp [] [none,none] (tEnumS (tCo (tVal [] (tVarD 3)) tN)) (gTu 2 (gC (gNm 0) (gC (gNm 1) gN0))) tTrue (tVal [] (tTu (tCo (tVal [] (tVarD 1)) (tCo (tVal [] (tVarD 0)) tN))))))) tN))))
theorem e_q19 (E:Gl G) {sp_q10:FSp} (h_q10:FnG G k "near_counts" sp_q10) {sp_q5:FSp} (h_q5:FnG G k "greatest_first" sp_q5):ESs G k ⟨N_q19,(defScope s_q19).names,[],false,false,false,fun _ _=>False⟩ (defBody s_q19) (t_q19 sp_q10 sp_q5):=(s_cons (s_set 3 (r_call h_q10 (a_cons (r_d (r_var 0)) (a_cons (r_d (r_var 1)) (a_cons (r_d (r_var 2)) a_nil))))) (s_one (s_ret (r_call h_q5 (a_cons (r_d (r_o (r_comp (N':=["place","many"]) (i_enumS (a_cons (r_d (r_var 3)) a_nil) E.z_enumerate) ⟨rfl,by decide +kernel,by decide +kernel,by decide +kernel,by decide +kernel,rfl,by decide +kernel⟩ (g_tup (gs_cons (g_name 0) (gs_cons (g_name 1) gs_nil))) b_nil (r_d (r_tup (a_cons (r_d (r_var 1)) (a_cons (r_d (r_var 0)) a_nil))))))) a_nil)))))
noncomputable abbrev s_q20:Stmt:=top 32
noncomputable abbrev N_q20:List Str:=["cell","k","number"]
theorem sc_q20:FnScope N_q20 ["cell","k"] (defScope s_q20):=⟨rfl,rfl,rfl,by decide +kernel,rfl,by decide +kernel,by decide +kernel⟩
noncomputable def t_q20:TSd:=(tSq (tIfD (tCmp2 geT (tVarD 0) (tFz (tBin powD (tCD (.int 10)) (tCD (.int 18))))) (tRt [] (tBin modD (tFz (tBin shrD (tFz (tBin subD (tVarD 0) (tFz (tBin powD (tCD (.int 10)) (tCD (.int 18)))))) (tFz (tBin mulD (tCD (.int 28)) (tVarD 1))))) (tCD (.int 268435456)))) tNx) (tSq (tSt [] 2 (tBin modD (tFz (tBin mulD (tFz (tBin addD (tFz (tBin addD (tFz (tBin modD (tVarD 0) (tCD (.int 2147483629)))) (tFz (tBin mulD (tCD (.int 1013)) (tVarD 1))))) (tCD (.int 1)))) (tCD (.int 16807)))) (tCD (.int 2147483647)))) (tSq (tSt [] 2 (tBin modD (tFz (tBin mulD (tVarD 2) (tVarD 2))) (tCD (.int 2147483629)))) (tRt [] (tBin fdivD (tFz (tBin modD (tFz (tBin mulD (tVarD 2) (tCD (.int 39373)))) (tCD (.int 2147483587)))) (tCD (.int 8)))))))
theorem e_q20 (E:Gl G):ESs G k ⟨N_q20,(defScope s_q20).names,[],false,false,false,fun _ _=>False⟩ (defBody s_q20) (t_q20):=(s_cons (s_if (r_tcmp c_ge (r_var 0) (r_o (r_pow r_int r_int))) (s_one (s_ret (r_mod (r_o (r_shr (r_o (r_sub (r_var 0) (r_o (r_pow r_int r_int)))) (r_o (r_mul r_int (r_var 1))))) r_int))) s_nil) (s_cons (s_set 2 (r_mod (r_o (r_mul (r_o (r_add (r_o (r_add (r_o (r_mod (r_var 0) r_int)) (r_o (r_mul r_int (r_var 1))))) r_int)) r_int)) r_int)) (s_cons (s_set 2 (r_mod (r_o (r_mul (r_var 2) (r_var 2))) r_int)) (s_one (s_ret (r_fdiv (r_o (r_mod (r_o (r_mul (r_var 2) r_int)) r_int)) r_int))))))
noncomputable abbrev s_q18:Stmt:=top 33
noncomputable abbrev N_q18:List Str:=["script","many"]
theorem sc_q18:FnScope N_q18 ["script","many"] (defScope s_q18):=⟨rfl,rfl,rfl,by decide +kernel,rfl,by decide +kernel,by decide +kernel⟩
noncomputable def t_q18:TSd:=(tRt [] (tSlD (tFz (tBin addD (tFz (tSlD (tVarD 0) tP0 (tP1 (tVarD 1)))) (tFz (tLs (tCo (tVal [] (tCD (.int 0))) tN))))) tP0 (tP1 (tFz (tCl max2F (tCoo (tCD (.int 1)) (tCoo (tFz (tCl min2F (tCoo (tVarD 1) (tCoo (tFz (tCl lenF (tCoo (tVarD 0) tNo))) tNo)))) tNo)))))))
theorem e_q18 (E:Gl G):ESs G k ⟨N_q18,(defScope s_q18).names,[],false,false,false,fun _ _=>False⟩ (defBody s_q18) (t_q18):=(s_one (s_ret (r_sl (r_o (r_add (r_o (r_sl (r_var 0) p_none (p_some (r_var 1)))) (r_o (r_lst (a_cons (r_d r_int) a_nil))))) p_none (p_some (r_o (r_bf f_max2 E.z_max (o_cons r_int (o_cons (r_o (r_bf f_min2 E.z_min (o_cons (r_var 1) (o_cons (r_o (r_bf f_len E.z_len (o_cons (r_var 0) o_nil) (by decide +kernel))) o_nil)) (by decide +kernel))) o_nil)) (by decide +kernel)))))))
noncomputable abbrev s_q12:Stmt:=top 34
noncomputable abbrev N_q12:List Str:=["cell","most","count","many","kind","step","found","k","point","c","one","far","some"]
theorem sc_q12:FnScope N_q12 ["cell","most"] (defScope s_q12):=⟨rfl,rfl,rfl,by decide +kernel,rfl,by decide +kernel,by decide +kernel⟩
noncomputable def t_q12 (sp_q20:FSp):TSd:=(tSq (tSt [] 2 (tBin addD (tCD (.int 1)) (tFz (tBin modD (tFz (tCa sp_q20 (tCo (tVal [] (tVarD 0)) (tCo (tVal [] (tCD (.int 0))) tN)))) (tCD (.int 3)))))) (tSq (tSt [] 3 (oX (tIx (tFz (tLs (tCo (tVal [] (tFz (tBin modD (tFz (tCa sp_q20 (tCo (tVal [] (tVarD 0)) (tCo (tVal [] (tCD (.int 2))) tN)))) (tCD (.int 5))))) (tCo (tVal [] (tFz (tBin modD (tFz (tCa sp_q20 (tCo (tVal [] (tVarD 0)) (tCo (tVal [] (tCD (.int 2))) tN)))) (tFz (tBin addD (tVarD 1) (tCD (.int 1))))))) (tCo (tVal [] (tVarD 1)) tN))))) (tFz (tBin modD (tFz (tCa sp_q20 (tCo (tVal [] (tVarD 0)) (tCo (tVal [] (tCD (.int 3))) tN)))) (tCD (.int 3))))))) (tSq (tSt [] 4 (tBin modD (tFz (tCa sp_q20 (tCo (tVal [] (tVarD 0)) (tCo (tVal [] (tCD (.int 4))) tN)))) (tCD (.int 7)))) (tSq (tSt [] 5 (tBin addD (tCD (.int 1)) (tFz (tBin modD (tFz (tCa sp_q20 (tCo (tVal [] (tVarD 0)) (tCo (tVal [] (tCD (.int 5))) tN)))) (tFz (tBin powD (tCD (.int 10)) (tCD (.int 6)))))))) (tSq (tSt [] 6 (tLs tN)) (tSq (tForD (rng1 (tCoo (tFz (tCl min2F (tCoo (tVarD 1) (tCoo (tVarD 3) tNo)))) tNo)) (gNm 7) (tSq (tSt [] 8 (tLs tN)) (tSq (tForD (rng1 (tCoo (tVarD 2) tNo)) (gNm 9) (tSq (tSt [] 10 (tCa sp_q20 (tCo (tVal [] (tVarD 0)) (tCo (tVal [] (tFz (tBin addD (tFz (tBin addD (tCD (.int 10)) (tFz (tBin mulD (tCD (.int 3)) (tVarD 7))))) (tVarD 9)))) tN)))) (tSq (tSt [] 11 (tBin addD (tFz (tBin mulD (tFz (tBin subD (tVarD 10) (tCD (.int 134217728)))) (tCD (.int 7450580)))) (tFz (tBin modD (tVarD 10) (tCD (.int 1000)))))) (tSq (tSt [] 12 (tLs (tCo (tVal [] (tFz (tBin subD (tFz (tBin modD (tVarD 10) (tCD (.int 7)))) (tCD (.int 3))))) (tCo (tVal [] (tFz (tBin subD (tFz (tBin modD (tVarD 10) (tCD (.int 101)))) (tCD (.int 50))))) (tCo (tVal [] (tVarD 11)) (tCo (tVal [] (tFz (tBin subD (tFz (tBin modD (tFz (tCa sp_q20 (tCo (tVal [] (tVarD 0)) (tCo (tVal [] (tFz (tBin addD (tCD (.int 10)) (tVarD 9)))) tN)))) (tCD (.int 201)))) (tCD (.int 100))))) tN)))))) (tSq (tSt [] 12 (tBin addD (tVarD 12) (tFz (tLs (tCo (tVal [] (tFz (tBin subD (tFz (tBin addD (tFz (tBin mulD (tFz (tBin modD (tVarD 10) (tCD (.int 4)))) (tFz (tBin powD (tCD (.int 10)) (tCD (.int 14)))))) (tFz (tBin modD (tFz (tBin fdivD (tVarD 10) (tCD (.int 4)))) (tCD (.int 3)))))) (tCD (.int 1))))) (tCo (tVal [] (tFz (tBin addD (tFz (tBin mulD (tVarD 7) (tVarD 5))) (tFz (tBin modD (tVarD 10) (tCD (.int 2))))))) (tCo (tVal [] (tFz (tBin modD (tFz (tBin fdivD (tVarD 7) (tIx (tFz (tLs (tCo (tVal [] (tCD (.int 1))) (tCo (tVal [] (tCD (.int 5))) (tCo (tVal [] (tCD (.int 25))) tN))))) (tVarD 9)))) (tCD (.int 5))))) tN))))))) (tDp (tApp (tVarD 8) (tVal [] (tIx (tVarD 12) (tVarD 4)))))))))) (tDp (tApp (tVarD 6) (tVal [] (tFz (tCl tupleF (tCoo (tVarD 8) tNo))))))))) (tRt [] (oX (tVarD 6)))))))))
theorem e_q12 (E:Gl G) {sp_q20:FSp} (h_q20:FnG G k "_law_stir" sp_q20):ESs G k ⟨N_q12,(defScope s_q12).names,[],false,false,false,fun _ _=>False⟩ (defBody s_q12) (t_q12 sp_q20):=(s_cons (s_set 2 (r_add r_int (r_o (r_mod (r_o (r_call h_q20 (a_cons (r_d (r_var 0)) (a_cons (r_d r_int) a_nil)))) r_int)))) (s_cons (s_set 3 (r_x (r_ix (r_o (r_lst (a_cons (r_d (r_o (r_mod (r_o (r_call h_q20 (a_cons (r_d (r_var 0)) (a_cons (r_d r_int) a_nil)))) r_int))) (a_cons (r_d (r_o (r_mod (r_o (r_call h_q20 (a_cons (r_d (r_var 0)) (a_cons (r_d r_int) a_nil)))) (r_o (r_add (r_var 1) r_int))))) (a_cons (r_d (r_var 1)) a_nil))))) (r_o (r_mod (r_o (r_call h_q20 (a_cons (r_d (r_var 0)) (a_cons (r_d r_int) a_nil)))) r_int))))) (s_cons (s_set 4 (r_mod (r_o (r_call h_q20 (a_cons (r_d (r_var 0)) (a_cons (r_d r_int) a_nil)))) r_int)) (s_cons (s_set 5 (r_add r_int (r_o (r_mod (r_o (r_call h_q20 (a_cons (r_d (r_var 0)) (a_cons (r_d r_int) a_nil)))) (r_o (r_pow r_int r_int)))))) (s_cons (s_set 6 (r_lst a_nil)) (s_cons (s_for (i_rng1 (o_cons (r_o (r_bf f_min2 E.z_min (o_cons (r_var 1) (o_cons (r_var 3) o_nil)) (by decide +kernel))) o_nil) E.z_range) (g_name 7) (s_cons (s_set 8 (r_lst a_nil)) (s_cons (s_for (i_rng1 (o_cons (r_var 2) o_nil) E.z_range) (g_name 9) (s_cons (s_set 10 (r_call h_q20 (a_cons (r_d (r_var 0)) (a_cons (r_d (r_o (r_add (r_o (r_add r_int (r_o (r_mul r_int (r_var 7))))) (r_var 9)))) a_nil)))) (s_cons (s_set 11 (r_add (r_o (r_mul (r_o (r_sub (r_var 10) r_int)) r_int)) (r_o (r_mod (r_var 10) r_int)))) (s_cons (s_set 12 (r_lst (a_cons (r_d (r_o (r_sub (r_o (r_mod (r_var 10) r_int)) r_int))) (a_cons (r_d (r_o (r_sub (r_o (r_mod (r_var 10) r_int)) r_int))) (a_cons (r_d (r_var 11)) (a_cons (r_d (r_o (r_sub (r_o (r_mod (r_o (r_call h_q20 (a_cons (r_d (r_var 0)) (a_cons (r_d (r_o (r_add r_int (r_var 9)))) a_nil)))) r_int)) r_int))) a_nil)))))) (s_cons (s_set 12 (r_add (r_var 12) (r_o (r_lst (a_cons (r_d (r_o (r_sub (r_o (r_add (r_o (r_mul (r_o (r_mod (r_var 10) r_int)) (r_o (r_pow r_int r_int)))) (r_o (r_mod (r_o (r_fdiv (r_var 10) r_int)) r_int)))) r_int))) (a_cons (r_d (r_o (r_add (r_o (r_mul (r_var 7) (r_var 5))) (r_o (r_mod (r_var 10) r_int))))) (a_cons (r_d (r_o (r_mod (r_o (r_fdiv (r_var 7) (r_ix (r_o (r_lst (a_cons (r_d r_int) (a_cons (r_d r_int) (a_cons (r_d r_int) a_nil))))) (r_var 9)))) r_int))) a_nil))))))) (s_one (s_expr (r_append (r_var 8) (r_d (r_ix (r_var 12) (r_var 4))))))))))) (s_one (s_expr (r_append (r_var 6) (r_d (r_o (r_bt f_tuple E.z_tuple (o_cons (r_var 8) o_nil) (by decide +kernel)))))))))) (s_one (s_ret (r_x (r_var 6))))))))))
noncomputable abbrev s_q24:Stmt:=top 35
noncomputable abbrev N_q24:List Str:=["cell"]
theorem sc_q24:FnScope N_q24 ["cell"] (defScope s_q24):=⟨rfl,rfl,rfl,by decide +kernel,rfl,by decide +kernel,by decide +kernel⟩
noncomputable def t_q24 (sp_q20:FSp):TSd:=(tRt [] (oX (tIx (tFz (tLs (tCo (tVal [] (tCD (.str "streets"))) (tCo (tVal [] (tCD (.str "squares"))) tN)))) (tFz (tBin modD (tFz (tCa sp_q20 (tCo (tVal [] (tVarD 0)) (tCo (tVal [] (tCD (.int 1))) tN)))) (tCD (.int 2)))))))
theorem e_q24 (E:Gl G) {sp_q20:FSp} (h_q20:FnG G k "_law_stir" sp_q20):ESs G k ⟨N_q24,(defScope s_q24).names,[],false,false,false,fun _ _=>False⟩ (defBody s_q24) (t_q24 sp_q20):=(s_one (s_ret (r_x (r_ix (r_o (r_lst (a_cons (r_d r_str) (a_cons (r_d r_str) a_nil)))) (r_o (r_mod (r_o (r_call h_q20 (a_cons (r_d (r_var 0)) (a_cons (r_d r_int) a_nil)))) r_int))))))
noncomputable abbrev s_q3:Stmt:=top 36
noncomputable abbrev N_q3:List Str:=["points","way","many","two","each","least","total","place"]
theorem sc_q3:FnScope N_q3 ["points","way"] (defScope s_q3):=⟨rfl,rfl,rfl,by decide +kernel,rfl,by decide +kernel,by decide +kernel⟩
noncomputable def t_q3 (sp_q7:FSp) (sp_q25:FSp) (sp_q9:FSp) (sp_q23:FSp) (sp_q17:FSp) (sp_q19:FSp) (sp_q10:FSp):TSd:=(tSq (tSt [] 2 (tCl lenF (tCoo (tVarD 0) tNo))) (tSq (tIfD (tCmp2 ltT (tVarD 2) (tCD (.int 2))) (tRt [] (oX (bV (tAndB (tBool (bV (tCmp2 isT (tFz (tCa sp_q7 (tCo (tVal [] (tVarD 0)) (tCo (tVal [] (tVarD 1)) tN)))) (tCD .non)))) (tBool (bV (tCmp2 eqT (tFz (tCa sp_q25 (tCo (tVal [] (tVarD 0)) (tCo (tVal [] (tVarD 1)) tN)))) (tIx (tFz (tLs (tCo (tVal [] (tCD .non)) (tCo (tVal [] (tTu (tCo (tVal [] (tCD (.int 0))) (tCo (tVal [] (tCD (.int 0))) tN)))) tN)))) (tVarD 2))))))))) tNx) (tSq (tSt [] 3 (tCa sp_q7 (tCo (tVal [] (tVarD 0)) (tCo (tVal [] (tVarD 1)) tN)))) (tSq (tSt [] 4 (tComp [] [none,some 0,some 1] (rng1 (tCoo (tVarD 2) tNo)) (gNm 0) tTrue (tVal [] (tFz (tCa sp_q9 (tCo (tVal [] (tVarD 1)) (tCo (tVal [] (tVarD 2)) (tCo (tVal [] (tVarD 0)) tN)))))))) (tSq (tIfD (tOrB (tCmp2 neT (tIx (tVarD 3) (tCD (.int 0))) (tFz (tCl max1F (tCoo (tFz (tComp [] [none] (itemsD (tVal [] (tVarD 4))) (gNm 0) tTrue (tVal [] (tIx (tVarD 0) (tCD (.int 0)))))) tNo)))) (tCmp2 neT (tIx (tVarD 4) (tIx (tVarD 3) (tCD (.int 1)))) (tTu (tCo (tVal [] (tIx (tVarD 3) (tCD (.int 0)))) (tCo (tVal [] (tIx (tVarD 3) (tCD (.int 2)))) tN))))) (tRt [] (oX (tCD (.bl false)))) tNx) (tSq (tIfD (tCmp2 neT (tFz (tComp [] [none,none,some 0,some 1] (tEnumS (tCo (tVal [] (tVarD 4)) tN)) (gTu 2 (gC (gNm 0) (gC (gNm 1) gN0))) (tCmp2 neT (tFz (tCa sp_q23 (tCo (tVal [] (tVarD 2)) (tCo (tVal [] (tVarD 3)) (tCo (tVal [] (tVarD 0)) (tCo (tVal [] (tIx (tVarD 1) (tCD (.int 1)))) tN)))))) (tIx (tVarD 1) (tCD (.int 0)))) (tVal [] (tVarD 0)))) (tFz (tLs tN))) (tRt [] (oX (tCD (.bl false)))) tNx) (tSq (tSt [] 5 (tCa sp_q25 (tCo (tVal [] (tVarD 0)) (tCo (tVal [] (tVarD 1)) tN)))) (tSq (tIfD (tOrB (tCmp2 neT (tIx (tVarD 5) (tCD (.int 0))) (tFz (tCl min1F (tCoo (tFz (tComp [] [none] (itemsD (tVal [] (tVarD 4))) (gNm 0) tTrue (tVal [] (tIx (tVarD 0) (tCD (.int 0)))))) tNo)))) (tCmp2 neT (tIx (tIx (tVarD 4) (tIx (tVarD 5) (tCD (.int 1)))) (tCD (.int 0))) (tIx (tVarD 5) (tCD (.int 0))))) (tRt [] (oX (tCD (.bl false)))) tNx) (tSq (tIfD (tCmp2 gtT (tIx (tVarD 3) (tCD (.int 0))) (tFz (tBin mulD (tIx (tVarD 5) (tCD (.int 0))) (tIx (tFz (tLs (tCo (tVal [] (tCD (.int 2))) (tCo (tVal [] (tCD (.int 4))) tN)))) (tFz (tCl intF (tCoo (bV (tCmp2 eqT (tVarD 1) (tCD (.str "squares")))) tNo))))))) (tRt [] (oX (tCD (.bl false)))) tNx) (tSq (tUnp (tVal [] (tFz (tCa sp_q17 (tCo (tVal [] (tVarD 0)) (tCo (tVal [] (tVarD 1)) tN))))) (gTu 2 (gC (gNm 6) (gC (gNm 7) gN0)))) (tSq (tIfD (tCmp2 neT (tVarD 6) (tFz (tCl sumF (tCoo (tFz (tComp [] [none,some 0,some 1,some 7] (rng1 (tCoo (tVarD 2) tNo)) (gNm 0) tTrue (tVal [] (tFz (tCa sp_q23 (tCo (tVal [] (tVarD 1)) (tCo (tVal [] (tVarD 2)) (tCo (tVal [] (tVarD 3)) (tCo (tVal [] (tVarD 0)) tN))))))))) tNo)))) (tRt [] (oX (tCD (.bl false)))) tNx) (tSq (tIfD (tCmp2 neT (tFz (tCa sp_q19 (tCo (tVal [] (tVarD 0)) (tCo (tVal [] (tVarD 1)) (tCo (tVal [] (tIx (tVarD 3) (tCD (.int 0)))) tN))))) (tTu (tCo (tVal [] (tFz (tBin subD (tVarD 2) (tCD (.int 1))))) (tCo (tVal [] (tCD (.int 0))) tN)))) (tRt [] (oX (tCD (.bl false)))) tNx) (tSq (tIfD (tCmp2 neT (tFz (tCl max1F (tCoo (tFz (tCa sp_q10 (tCo (tVal [] (tVarD 0)) (tCo (tVal [] (tVarD 1)) (tCo (tVal [] (tIx (tVarD 5) (tCD (.int 0)))) tN))))) tNo))) (tFz (tBin subD (tVarD 2) (tCD (.int 1))))) (tRt [] (oX (tCD (.bl false)))) tNx) (tRt [] (oX (bV (tCmp2 eqT (tIx (tFz (tCa sp_q19 (tCo (tVal [] (tVarD 0)) (tCo (tVal [] (tVarD 1)) (tCo (tVal [] (tCD (.int 0))) tN))))) (tCD (.int 0))) (tFz (tCl max1F (tCoo (tFz (tComp [] [none,some 0] (itemsD (tVal [] (tVarD 0))) (gNm 0) tTrue (tVal [] (tFz (tBin subD (tCnL (tVarD 1) (tVal [] (tVarD 0))) (tCD (.int 1))))))) tNo))))))))))))))))))))
theorem e_q3 (E:Gl G) {sp_q7:FSp} (h_q7:FnG G k "farthest_two" sp_q7) {sp_q25:FSp} (h_q25:FnG G k "middle" sp_q25) {sp_q9:FSp} (h_q9:FnG G k "farthest_of" sp_q9) {sp_q23:FSp} (h_q23:FnG G k "how_far" sp_q23) {sp_q17:FSp} (h_q17:FnG G k "sums_place" sp_q17) {sp_q19:FSp} (h_q19:FnG G k "most_near" sp_q19) {sp_q10:FSp} (h_q10:FnG G k "near_counts" sp_q10):ESs G k ⟨N_q3,(defScope s_q3).names,[],false,false,false,fun _ _=>False⟩ (defBody s_q3) (t_q3 sp_q7 sp_q25 sp_q9 sp_q23 sp_q17 sp_q19 sp_q10):=(s_cons (s_set 2 (r_bf f_len E.z_len (o_cons (r_var 0) o_nil) (by decide +kernel))) (s_cons (s_if (r_tcmp c_lt (r_var 2) r_int) (s_one (s_ret (r_x (r_bv (v_and (v_of (r_cmp c_is (r_o (r_call h_q7 (a_cons (r_d (r_var 0)) (a_cons (r_d (r_var 1)) a_nil)))) r_non)) (v_one (v_of (r_cmp c_eq (r_o (r_call h_q25 (a_cons (r_d (r_var 0)) (a_cons (r_d (r_var 1)) a_nil)))) (r_ix (r_o (r_lst (a_cons (r_d r_non) (a_cons (r_d (r_tup (a_cons (r_d r_int) (a_cons (r_d r_int) a_nil)))) a_nil)))) (r_var 2)))))))))) s_nil) (s_cons (s_set 3 (r_call h_q7 (a_cons (r_d (r_var 0)) (a_cons (r_d (r_var 1)) a_nil)))) (s_cons (s_comp 4 (N':=["place","points","way"]) (i_rng1 (o_cons (r_var 2) o_nil) E.z_range) ⟨rfl,by decide +kernel,by decide +kernel,by decide +kernel,by decide +kernel,rfl,by decide +kernel⟩ (g_name 0) b_nil (r_d (r_o (r_call h_q9 (a_cons (r_d (r_var 1)) (a_cons (r_d (r_var 2)) (a_cons (r_d (r_var 0)) a_nil))))))) (s_cons (s_if (r_w (r_or (r_tcmp c_ne (r_ix (r_var 3) r_int) (r_o (r_bf f_max1 E.z_max (o_cons (r_o (r_comp (N':=["told"]) (i_seq (r_d (r_var 4))) ⟨rfl,by decide +kernel,by decide +kernel,by decide +kernel,by decide +kernel,rfl,by decide +kernel⟩ (g_name 0) b_nil (r_d (r_ix (r_var 0) r_int)))) o_nil) (by decide +kernel)))) (r_or1 (r_tcmp c_ne (r_ix (r_var 4) (r_ix (r_var 3) r_int)) (r_tup (a_cons (r_d (r_ix (r_var 3) r_int)) (a_cons (r_d (r_ix (r_var 3) r_int)) a_nil))))))) (s_one (s_ret (r_x r_bl))) s_nil) (s_cons (s_if (r_tcmp c_ne (r_o (r_comp (N':=["place","told","points","way"]) (i_enumS (a_cons (r_d (r_var 4)) a_nil) E.z_enumerate) ⟨rfl,by decide +kernel,by decide +kernel,by decide +kernel,by decide +kernel,rfl,by decide +kernel⟩ (g_tup (gs_cons (g_name 0) (gs_cons (g_name 1) gs_nil))) (b_one (r_tcmp c_ne (r_o (r_call h_q23 (a_cons (r_d (r_var 2)) (a_cons (r_d (r_var 3)) (a_cons (r_d (r_var 0)) (a_cons (r_d (r_ix (r_var 1) r_int)) a_nil)))))) (r_ix (r_var 1) r_int))) (r_d (r_var 0)))) (r_o (r_lst a_nil))) (s_one (s_ret (r_x r_bl))) s_nil) (s_cons (s_set 5 (r_call h_q25 (a_cons (r_d (r_var 0)) (a_cons (r_d (r_var 1)) a_nil)))) (s_cons (s_if (r_w (r_or (r_tcmp c_ne (r_ix (r_var 5) r_int) (r_o (r_bf f_min1 E.z_min (o_cons (r_o (r_comp (N':=["told"]) (i_seq (r_d (r_var 4))) ⟨rfl,by decide +kernel,by decide +kernel,by decide +kernel,by decide +kernel,rfl,by decide +kernel⟩ (g_name 0) b_nil (r_d (r_ix (r_var 0) r_int)))) o_nil) (by decide +kernel)))) (r_or1 (r_tcmp c_ne (r_ix (r_ix (r_var 4) (r_ix (r_var 5) r_int)) r_int) (r_ix (r_var 5) r_int))))) (s_one (s_ret (r_x r_bl))) s_nil) (s_cons (s_if (r_tcmp c_gt (r_ix (r_var 3) r_int) (r_o (r_mul (r_ix (r_var 5) r_int) (r_ix (r_o (r_lst (a_cons (r_d r_int) (a_cons (r_d r_int) a_nil)))) (r_o (r_bt f_int E.z_int (o_cons (r_cmp c_eq (r_var 1) r_str) o_nil) (by decide +kernel))))))) (s_one (s_ret (r_x r_bl))) s_nil) (s_cons (s_unp (r_d (r_o (r_call h_q17 (a_cons (r_d (r_var 0)) (a_cons (r_d (r_var 1)) a_nil))))) (g_tup (gs_cons (g_name 6) (gs_cons (g_name 7) gs_nil)))) (s_cons (s_if (r_tcmp c_ne (r_var 6) (r_o (r_bf f_sum E.z_sum (o_cons (r_o (r_comp (N':=["other","points","way","place"]) (i_rng1 (o_cons (r_var 2) o_nil) E.z_range) ⟨rfl,by decide +kernel,by decide +kernel,by decide +kernel,by decide +kernel,rfl,by decide +kernel⟩ (g_name 0) b_nil (r_d (r_o (r_call h_q23 (a_cons (r_d (r_var 1)) (a_cons (r_d (r_var 2)) (a_cons (r_d (r_var 3)) (a_cons (r_d (r_var 0)) a_nil))))))))) o_nil) (by decide +kernel)))) (s_one (s_ret (r_x r_bl))) s_nil) (s_cons (s_if (r_tcmp c_ne (r_o (r_call h_q19 (a_cons (r_d (r_var 0)) (a_cons (r_d (r_var 1)) (a_cons (r_d (r_ix (r_var 3) r_int)) a_nil))))) (r_tup (a_cons (r_d (r_o (r_sub (r_var 2) r_int))) (a_cons (r_d r_int) a_nil)))) (s_one (s_ret (r_x r_bl))) s_nil) (s_cons (s_if (r_tcmp c_ne (r_o (r_bf f_max1 E.z_max (o_cons (r_o (r_call h_q10 (a_cons (r_d (r_var 0)) (a_cons (r_d (r_var 1)) (a_cons (r_d (r_ix (r_var 5) r_int)) a_nil))))) o_nil) (by decide +kernel))) (r_o (r_sub (r_var 2) r_int))) (s_one (s_ret (r_x r_bl))) s_nil) (s_one (s_ret (r_x (r_cmp c_eq (r_ix (r_o (r_call h_q19 (a_cons (r_d (r_var 0)) (a_cons (r_d (r_var 1)) (a_cons (r_d r_int) a_nil))))) r_int) (r_o (r_bf f_max1 E.z_max (o_cons (r_o (r_comp (N':=["point","points"]) (i_seq (r_d (r_var 0))) ⟨rfl,by decide +kernel,by decide +kernel,by decide +kernel,by decide +kernel,rfl,by decide +kernel⟩ (g_name 0) b_nil (r_d (r_o (r_sub (r_cnL (r_var 1) (r_d (r_var 0))) r_int))))) o_nil) (by decide +kernel))))))))))))))))))))
noncomputable abbrev s_q1:Stmt:=top 37
noncomputable abbrev N_q1:List Str:=["cell","points","way","step","factor","told","others","other","wider","more","turned","longer"]
theorem sc_q1:FnScope N_q1 ["cell","points","way"] (defScope s_q1):=⟨rfl,rfl,rfl,by decide +kernel,rfl,by decide +kernel,by decide +kernel⟩
noncomputable def t_q1 (sp_q20:FSp) (sp_q7:FSp) (sp_q25:FSp) (sp_q17:FSp):TSd:=(tSq (tSt [] 3 (tBin subD (tFz (tBin modD (tFz (tCa sp_q20 (tCo (tVal [] (tVarD 0)) (tCo (tVal [] (tCD (.int 470))) tN)))) (tCD (.int 2001)))) (tCD (.int 1000)))) (tSq (tSt [] 4 (tBin addD (tCD (.int 2)) (tFz (tBin modD (tFz (tCa sp_q20 (tCo (tVal [] (tVarD 0)) (tCo (tVal [] (tCD (.int 471))) tN)))) (tCD (.int 9)))))) (tSq (tSt [] 5 (tLs (tCo (tVal [] (tFz (tCa sp_q7 (tCo (tVal [] (tVarD 1)) (tCo (tVal [] (tVarD 2)) tN))))) (tCo (tVal [] (tFz (tCa sp_q25 (tCo (tVal [] (tVarD 1)) (tCo (tVal [] (tVarD 2)) tN))))) (tCo (tVal [] (tFz (tCa sp_q17 (tCo (tVal [] (tVarD 1)) (tCo (tVal [] (tVarD 2)) tN))))) tN))))) (tSq (tSt [] 6 (tLs (tCo (tVal [] (tFz (tComp [] [none,some 3] (itemsD (tVal [] (tVarD 1))) (gNm 0) tTrue (tVal [] (tFz (tCl tupleF (tCoo (tFz (tComp [] [none,some 1] (itemsD (tVal [] (tVarD 0))) (gNm 0) tTrue (tVal [] (tFz (tBin addD (tVarD 0) (tVarD 1)))))) tNo))))))) tN))) (tSq (tDp (tApp (tVarD 6) (tVal [] (tFz (tComp [] [none] (itemsD (tVal [] (tVarD 1))) (gNm 0) tTrue (tVal [] (tFz (tCl tupleF (tCoo (tFz (tComp [] [none] (itemsD (tVal [] (tVarD 0))) (gNm 0) tTrue (tVal [] (tFz (tBin subD (tCD (.int 0)) (tVarD 0)))))) tNo))))))))) (tSq (tDp (tApp (tVarD 6) (tVal [] (tFz (tComp [] [none] (itemsD (tVal [] (tVarD 1))) (gNm 0) tTrue (tVal [] (tFz (tRev (tVarD 0) (tP1 (tNeg (tCD (.int 1)))))))))))) (tSq (tForD (itemsD (tVal [] (tVarD 6))) (gNm 7) (tIfD (tCmp2 neT (tFz (tLs (tCo (tVal [] (tFz (tCa sp_q7 (tCo (tVal [] (tVarD 7)) (tCo (tVal [] (tVarD 2)) tN))))) (tCo (tVal [] (tFz (tCa sp_q25 (tCo (tVal [] (tVarD 7)) (tCo (tVal [] (tVarD 2)) tN))))) (tCo (tVal [] (tFz (tCa sp_q17 (tCo (tVal [] (tVarD 7)) (tCo (tVal [] (tVarD 2)) tN))))) tN))))) (tVarD 5)) (tRt [] (oX (tCD (.bl false)))) tNx)) (tSq (tSt [] 8 (tComp [] [none,some 4] (itemsD (tVal [] (tVarD 1))) (gNm 0) tTrue (tVal [] (tFz (tCl tupleF (tCoo (tFz (tComp [] [none,some 1] (itemsD (tVal [] (tVarD 0))) (gNm 0) tTrue (tVal [] (tFz (tBin mulD (tVarD 1) (tVarD 0)))))) tNo)))))) (tSq (tSt [] 9 (oX (tIx (tFz (tLs (tCo (tVal [] (tVarD 4)) (tCo (tVal [] (tFz (tBin mulD (tVarD 4) (tVarD 4)))) tN)))) (tFz (tCl intF (tCoo (bV (tCmp2 eqT (tVarD 2) (tCD (.str "squares")))) tNo)))))) (tSq (tIfD (tCmp2 neT (tFz (tCa sp_q7 (tCo (tVal [] (tVarD 8)) (tCo (tVal [] (tVarD 2)) tN)))) (tTu (tCo (tVal [] (tFz (tBin mulD (tVarD 9) (tIx (tIx (tVarD 5) (tCD (.int 0))) (tCD (.int 0)))))) (tCo (tVal [] (tIx (tIx (tVarD 5) (tCD (.int 0))) (tCD (.int 1)))) (tCo (tVal [] (tIx (tIx (tVarD 5) (tCD (.int 0))) (tCD (.int 2)))) tN))))) (tRt [] (oX (tCD (.bl false)))) tNx) (tSq (tIfD (tOrB (tCmp2 neT (tFz (tCa sp_q25 (tCo (tVal [] (tVarD 8)) (tCo (tVal [] (tVarD 2)) tN)))) (tTu (tCo (tVal [] (tFz (tBin mulD (tVarD 9) (tIx (tIx (tVarD 5) (tCD (.int 1))) (tCD (.int 0)))))) (tCo (tVal [] (tIx (tIx (tVarD 5) (tCD (.int 1))) (tCD (.int 1)))) tN)))) (tCmp2 neT (tIx (tFz (tCa sp_q17 (tCo (tVal [] (tVarD 8)) (tCo (tVal [] (tVarD 2)) tN)))) (tCD (.int 0))) (tFz (tBin mulD (tVarD 9) (tIx (tIx (tVarD 5) (tCD (.int 2))) (tCD (.int 0))))))) (tRt [] (oX (tCD (.bl false)))) tNx) (tSq (tSt [] 10 (tRev (tVarD 1) (tP1 (tNeg (tCD (.int 1)))))) (tSq (tIfD (tOrB (tCmp2 neT (tIx (tFz (tCa sp_q7 (tCo (tVal [] (tVarD 10)) (tCo (tVal [] (tVarD 2)) tN)))) (tCD (.int 0))) (tIx (tIx (tVarD 5) (tCD (.int 0))) (tCD (.int 0)))) (tCmp2 neT (tIx (tFz (tCa sp_q25 (tCo (tVal [] (tVarD 10)) (tCo (tVal [] (tVarD 2)) tN)))) (tCD (.int 0))) (tIx (tIx (tVarD 5) (tCD (.int 1))) (tCD (.int 0))))) (tRt [] (oX (tCD (.bl false)))) tNx) (tSq (tSt [] 11 (tBin addD (tVarD 1) (tFz (tLs (tCo (tVal [] (tFz (tCl tupleF (tCoo (tFz (tComp [] [none,some 0] (rng1 (tCoo (tFz (tCl lenF (tCoo (tIx (tVarD 1) (tCD (.int 0))) tNo))) tNo)) (gNm 0) tTrue (tVal [] (tFz (tBin subD (tFz (tBin modD (tFz (tCa sp_q20 (tCo (tVal [] (tVarD 1)) (tCo (tVal [] (tFz (tBin addD (tCD (.int 472)) (tVarD 0)))) tN)))) (tCD (.int 2001)))) (tCD (.int 1000))))))) tNo)))) tN))))) (tRt [] (oX (bV (tCmp2 geT (tIx (tFz (tCa sp_q7 (tCo (tVal [] (tVarD 11)) (tCo (tVal [] (tVarD 2)) tN)))) (tCD (.int 0))) (tIx (tIx (tVarD 5) (tCD (.int 0))) (tCD (.int 0)))))))))))))))))))))
theorem e_q1 (E:Gl G) {sp_q20:FSp} (h_q20:FnG G k "_law_stir" sp_q20) {sp_q7:FSp} (h_q7:FnG G k "farthest_two" sp_q7) {sp_q25:FSp} (h_q25:FnG G k "middle" sp_q25) {sp_q17:FSp} (h_q17:FnG G k "sums_place" sp_q17):ESs G k ⟨N_q1,(defScope s_q1).names,[],false,false,false,fun _ _=>False⟩ (defBody s_q1) (t_q1 sp_q20 sp_q7 sp_q25 sp_q17):=(s_cons (s_set 3 (r_sub (r_o (r_mod (r_o (r_call h_q20 (a_cons (r_d (r_var 0)) (a_cons (r_d r_int) a_nil)))) r_int)) r_int)) (s_cons (s_set 4 (r_add r_int (r_o (r_mod (r_o (r_call h_q20 (a_cons (r_d (r_var 0)) (a_cons (r_d r_int) a_nil)))) r_int)))) (s_cons (s_set 5 (r_lst (a_cons (r_d (r_o (r_call h_q7 (a_cons (r_d (r_var 1)) (a_cons (r_d (r_var 2)) a_nil))))) (a_cons (r_d (r_o (r_call h_q25 (a_cons (r_d (r_var 1)) (a_cons (r_d (r_var 2)) a_nil))))) (a_cons (r_d (r_o (r_call h_q17 (a_cons (r_d (r_var 1)) (a_cons (r_d (r_var 2)) a_nil))))) a_nil))))) (s_cons (s_set 6 (r_lst (a_cons (r_d (r_o (r_comp (N':=["point","step"]) (i_seq (r_d (r_var 1))) ⟨rfl,by decide +kernel,by decide +kernel,by decide +kernel,by decide +kernel,rfl,by decide +kernel⟩ (g_name 0) b_nil (r_d (r_o (r_bt f_tuple E.z_tuple (o_cons (r_o (r_comp (N':=["number","step"]) (i_seq (r_d (r_var 0))) ⟨rfl,by decide +kernel,by decide +kernel,by decide +kernel,by decide +kernel,rfl,by decide +kernel⟩ (g_name 0) b_nil (r_d (r_o (r_add (r_var 0) (r_var 1)))))) o_nil) (by decide +kernel))))))) a_nil))) (s_cons (s_expr (r_append (r_var 6) (r_d (r_o (r_comp (N':=["point"]) (i_seq (r_d (r_var 1))) ⟨rfl,by decide +kernel,by decide +kernel,by decide +kernel,by decide +kernel,rfl,by decide +kernel⟩ (g_name 0) b_nil (r_d (r_o (r_bt f_tuple E.z_tuple (o_cons (r_o (r_comp (N':=["number"]) (i_seq (r_d (r_var 0))) ⟨rfl,by decide +kernel,by decide +kernel,by decide +kernel,by decide +kernel,rfl,by decide +kernel⟩ (g_name 0) b_nil (r_d (r_o (r_sub r_int (r_var 0)))))) o_nil) (by decide +kernel))))))))) (s_cons (s_expr (r_append (r_var 6) (r_d (r_o (r_comp (N':=["point"]) (i_seq (r_d (r_var 1))) ⟨rfl,by decide +kernel,by decide +kernel,by decide +kernel,by decide +kernel,rfl,by decide +kernel⟩ (g_name 0) b_nil (r_d (r_o (r_rev (r_var 0) (p_some (r_neg r_int)))))))))) (s_cons (s_for (i_seq (r_d (r_var 6))) (g_name 7) (s_one (s_if (r_tcmp c_ne (r_o (r_lst (a_cons (r_d (r_o (r_call h_q7 (a_cons (r_d (r_var 7)) (a_cons (r_d (r_var 2)) a_nil))))) (a_cons (r_d (r_o (r_call h_q25 (a_cons (r_d (r_var 7)) (a_cons (r_d (r_var 2)) a_nil))))) (a_cons (r_d (r_o (r_call h_q17 (a_cons (r_d (r_var 7)) (a_cons (r_d (r_var 2)) a_nil))))) a_nil))))) (r_var 5)) (s_one (s_ret (r_x r_bl))) s_nil))) (s_cons (s_comp 8 (N':=["point","factor"]) (i_seq (r_d (r_var 1))) ⟨rfl,by decide +kernel,by decide +kernel,by decide +kernel,by decide +kernel,rfl,by decide +kernel⟩ (g_name 0) b_nil (r_d (r_o (r_bt f_tuple E.z_tuple (o_cons (r_o (r_comp (N':=["number","factor"]) (i_seq (r_d (r_var 0))) ⟨rfl,by decide +kernel,by decide +kernel,by decide +kernel,by decide +kernel,rfl,by decide +kernel⟩ (g_name 0) b_nil (r_d (r_o (r_mul (r_var 1) (r_var 0)))))) o_nil) (by decide +kernel))))) (s_cons (s_set 9 (r_x (r_ix (r_o (r_lst (a_cons (r_d (r_var 4)) (a_cons (r_d (r_o (r_mul (r_var 4) (r_var 4)))) a_nil)))) (r_o (r_bt f_int E.z_int (o_cons (r_cmp c_eq (r_var 2) r_str) o_nil) (by decide +kernel)))))) (s_cons (s_if (r_tcmp c_ne (r_o (r_call h_q7 (a_cons (r_d (r_var 8)) (a_cons (r_d (r_var 2)) a_nil)))) (r_tup (a_cons (r_d (r_o (r_mul (r_var 9) (r_ix (r_ix (r_var 5) r_int) r_int)))) (a_cons (r_d (r_ix (r_ix (r_var 5) r_int) r_int)) (a_cons (r_d (r_ix (r_ix (r_var 5) r_int) r_int)) a_nil))))) (s_one (s_ret (r_x r_bl))) s_nil) (s_cons (s_if (r_w (r_or (r_tcmp c_ne (r_o (r_call h_q25 (a_cons (r_d (r_var 8)) (a_cons (r_d (r_var 2)) a_nil)))) (r_tup (a_cons (r_d (r_o (r_mul (r_var 9) (r_ix (r_ix (r_var 5) r_int) r_int)))) (a_cons (r_d (r_ix (r_ix (r_var 5) r_int) r_int)) a_nil)))) (r_or1 (r_tcmp c_ne (r_ix (r_o (r_call h_q17 (a_cons (r_d (r_var 8)) (a_cons (r_d (r_var 2)) a_nil)))) r_int) (r_o (r_mul (r_var 9) (r_ix (r_ix (r_var 5) r_int) r_int))))))) (s_one (s_ret (r_x r_bl))) s_nil) (s_cons (s_set 10 (r_rev (r_var 1) (p_some (r_neg r_int)))) (s_cons (s_if (r_w (r_or (r_tcmp c_ne (r_ix (r_o (r_call h_q7 (a_cons (r_d (r_var 10)) (a_cons (r_d (r_var 2)) a_nil)))) r_int) (r_ix (r_ix (r_var 5) r_int) r_int)) (r_or1 (r_tcmp c_ne (r_ix (r_o (r_call h_q25 (a_cons (r_d (r_var 10)) (a_cons (r_d (r_var 2)) a_nil)))) r_int) (r_ix (r_ix (r_var 5) r_int) r_int))))) (s_one (s_ret (r_x r_bl))) s_nil) (s_cons (s_set 11 (r_add (r_var 1) (r_o (r_lst (a_cons (r_d (r_o (r_bt f_tuple E.z_tuple (o_cons (r_o (r_comp (N':=["c","cell"]) (i_rng1 (o_cons (r_o (r_bf f_len E.z_len (o_cons (r_ix (r_var 1) r_int) o_nil) (by decide +kernel))) o_nil) E.z_range) ⟨rfl,by decide +kernel,by decide +kernel,by decide +kernel,by decide +kernel,rfl,by decide +kernel⟩ (g_name 0) b_nil (r_d (r_o (r_sub (r_o (r_mod (r_o (r_call h_q20 (a_cons (r_d (r_var 1)) (a_cons (r_d (r_o (r_add r_int (r_var 0)))) a_nil)))) r_int)) r_int))))) o_nil) (by decide +kernel)))) a_nil))))) (s_one (s_ret (r_x (r_cmp c_ge (r_ix (r_o (r_call h_q7 (a_cons (r_d (r_var 11)) (a_cons (r_d (r_var 2)) a_nil)))) r_int) (r_ix (r_ix (r_var 5) r_int) r_int)))))))))))))))))))
noncomputable abbrev s_q6:Stmt:=top 38
noncomputable abbrev N_q6:List Str:=["cell","way","many","step","points","ends","half","total"]
theorem sc_q6:FnScope N_q6 ["cell","way"] (defScope s_q6):=⟨rfl,rfl,rfl,by decide +kernel,rfl,by decide +kernel,by decide +kernel⟩
noncomputable def t_q6 (sp_q20:FSp) (sp_q7:FSp) (sp_q25:FSp) (sp_q17:FSp):TSd:=(tSq (tSt [] 2 (tBin addD (tCD (.int 2)) (tFz (tBin modD (tFz (tCa sp_q20 (tCo (tVal [] (tVarD 0)) (tCo (tVal [] (tCD (.int 476))) tN)))) (tCD (.int 149)))))) (tSq (tSt [] 3 (tBin addD (tCD (.int 1)) (tFz (tBin modD (tFz (tCa sp_q20 (tCo (tVal [] (tVarD 0)) (tCo (tVal [] (tCD (.int 477))) tN)))) (tCD (.int 1000)))))) (tSq (tSt [] 4 (tComp [] [none,some 3] (rng1 (tCoo (tVarD 2) tNo)) (gNm 0) tTrue (tVal [] (tTu (tCo (tVal [] (tFz (tBin subD (tCD (.int 5)) (tFz (tBin mulD (tVarD 1) (tVarD 0)))))) (tCo (tVal [] (tCD (.int 9))) tN)))))) (tSq (tSt [] 5 (tBin mulD (tVarD 3) (tFz (tBin subD (tVarD 2) (tCD (.int 1)))))) (tSq (tSt [] 6 (tBin mulD (tVarD 3) (tFz (tBin fdivD (tVarD 2) (tCD (.int 2)))))) (tSq (tSt [] 7 (tBin mulD (tVarD 3) (tFz (tCl sumF (tCoo (tFz (tComp [] [none,some 2] (rng1 (tCoo (tVarD 2) tNo)) (gNm 0) tTrue (tVal [] (tFz (tCl max2F (tCoo (tFz (tBin subD (tVarD 0) (tFz (tBin fdivD (tFz (tBin subD (tVarD 1) (tCD (.int 1)))) (tCD (.int 2)))))) (tCoo (tFz (tBin subD (tFz (tBin fdivD (tFz (tBin subD (tVarD 1) (tCD (.int 1)))) (tCD (.int 2)))) (tVarD 0))) tNo))))))) tNo))))) (tSq (tIfD (tCmp2 eqT (tVarD 1) (tCD (.str "squares"))) (tSq (tParD 5 6 (tCo (tVal [] (tFz (tBin mulD (tVarD 5) (tVarD 5)))) (tCo (tVal [] (tFz (tBin mulD (tVarD 6) (tVarD 6)))) tN))) (tSt [] 7 (tBin mulD (tFz (tBin mulD (tVarD 3) (tVarD 3))) (tFz (tCl sumF (tCoo (tFz (tComp [] [none,some 2] (rng1 (tCoo (tVarD 2) tNo)) (gNm 0) tTrue (tVal [] (tFz (tBin mulD (tFz (tBin subD (tVarD 0) (tFz (tBin fdivD (tFz (tBin subD (tVarD 1) (tCD (.int 1)))) (tCD (.int 2)))))) (tFz (tBin subD (tVarD 0) (tFz (tBin fdivD (tFz (tBin subD (tVarD 1) (tCD (.int 1)))) (tCD (.int 2))))))))))) tNo)))))) tNx) (tSq (tIfD (tOrB (tCmp2 neT (tFz (tCa sp_q7 (tCo (tVal [] (tVarD 4)) (tCo (tVal [] (tVarD 1)) tN)))) (tTu (tCo (tVal [] (tVarD 5)) (tCo (tVal [] (tCD (.int 0))) (tCo (tVal [] (tFz (tBin subD (tVarD 2) (tCD (.int 1))))) tN))))) (tCmp2 neT (tFz (tCa sp_q25 (tCo (tVal [] (tVarD 4)) (tCo (tVal [] (tVarD 1)) tN)))) (tTu (tCo (tVal [] (tVarD 6)) (tCo (tVal [] (tFz (tBin fdivD (tFz (tBin subD (tVarD 2) (tCD (.int 1)))) (tCD (.int 2))))) tN))))) (tRt [] (oX (tCD (.bl false)))) tNx) (tRt [] (oX (bV (tCmp2 eqT (tFz (tCa sp_q17 (tCo (tVal [] (tVarD 4)) (tCo (tVal [] (tVarD 1)) tN)))) (tTu (tCo (tVal [] (tVarD 7)) (tCo (tVal [] (tFz (tBin fdivD (tFz (tBin subD (tVarD 2) (tCD (.int 1)))) (tCD (.int 2))))) tN)))))))))))))))
theorem e_q6 (E:Gl G) {sp_q20:FSp} (h_q20:FnG G k "_law_stir" sp_q20) {sp_q7:FSp} (h_q7:FnG G k "farthest_two" sp_q7) {sp_q25:FSp} (h_q25:FnG G k "middle" sp_q25) {sp_q17:FSp} (h_q17:FnG G k "sums_place" sp_q17):ESs G k ⟨N_q6,(defScope s_q6).names,[],false,false,false,fun _ _=>False⟩ (defBody s_q6) (t_q6 sp_q20 sp_q7 sp_q25 sp_q17):=(s_cons (s_set 2 (r_add r_int (r_o (r_mod (r_o (r_call h_q20 (a_cons (r_d (r_var 0)) (a_cons (r_d r_int) a_nil)))) r_int)))) (s_cons (s_set 3 (r_add r_int (r_o (r_mod (r_o (r_call h_q20 (a_cons (r_d (r_var 0)) (a_cons (r_d r_int) a_nil)))) r_int)))) (s_cons (s_comp 4 (N':=["k","step"]) (i_rng1 (o_cons (r_var 2) o_nil) E.z_range) ⟨rfl,by decide +kernel,by decide +kernel,by decide +kernel,by decide +kernel,rfl,by decide +kernel⟩ (g_name 0) b_nil (r_d (r_tup (a_cons (r_d (r_o (r_sub r_int (r_o (r_mul (r_var 1) (r_var 0)))))) (a_cons (r_d r_int) a_nil))))) (s_cons (s_set 5 (r_mul (r_var 3) (r_o (r_sub (r_var 2) r_int)))) (s_cons (s_set 6 (r_mul (r_var 3) (r_o (r_fdiv (r_var 2) r_int)))) (s_cons (s_set 7 (r_mul (r_var 3) (r_o (r_bf f_sum E.z_sum (o_cons (r_o (r_comp (N':=["k","many"]) (i_rng1 (o_cons (r_var 2) o_nil) E.z_range) ⟨rfl,by decide +kernel,by decide +kernel,by decide +kernel,by decide +kernel,rfl,by decide +kernel⟩ (g_name 0) b_nil (r_d (r_o (r_bf f_max2 E.z_max (o_cons (r_o (r_sub (r_var 0) (r_o (r_fdiv (r_o (r_sub (r_var 1) r_int)) r_int)))) (o_cons (r_o (r_sub (r_o (r_fdiv (r_o (r_sub (r_var 1) r_int)) r_int)) (r_var 0))) o_nil)) (by decide +kernel)))))) o_nil) (by decide +kernel))))) (s_cons (s_if (r_tcmp c_eq (r_var 1) r_str) (s_cons (s_par 5 6 (a_cons (r_d (r_o (r_mul (r_var 5) (r_var 5)))) (a_cons (r_d (r_o (r_mul (r_var 6) (r_var 6)))) a_nil))) (s_one (s_set 7 (r_mul (r_o (r_mul (r_var 3) (r_var 3))) (r_o (r_bf f_sum E.z_sum (o_cons (r_o (r_comp (N':=["k","many"]) (i_rng1 (o_cons (r_var 2) o_nil) E.z_range) ⟨rfl,by decide +kernel,by decide +kernel,by decide +kernel,by decide +kernel,rfl,by decide +kernel⟩ (g_name 0) b_nil (r_d (r_o (r_mul (r_o (r_sub (r_var 0) (r_o (r_fdiv (r_o (r_sub (r_var 1) r_int)) r_int)))) (r_o (r_sub (r_var 0) (r_o (r_fdiv (r_o (r_sub (r_var 1) r_int)) r_int))))))))) o_nil) (by decide +kernel))))))) s_nil) (s_cons (s_if (r_w (r_or (r_tcmp c_ne (r_o (r_call h_q7 (a_cons (r_d (r_var 4)) (a_cons (r_d (r_var 1)) a_nil)))) (r_tup (a_cons (r_d (r_var 5)) (a_cons (r_d r_int) (a_cons (r_d (r_o (r_sub (r_var 2) r_int))) a_nil))))) (r_or1 (r_tcmp c_ne (r_o (r_call h_q25 (a_cons (r_d (r_var 4)) (a_cons (r_d (r_var 1)) a_nil)))) (r_tup (a_cons (r_d (r_var 6)) (a_cons (r_d (r_o (r_fdiv (r_o (r_sub (r_var 2) r_int)) r_int))) a_nil))))))) (s_one (s_ret (r_x r_bl))) s_nil) (s_one (s_ret (r_x (r_cmp c_eq (r_o (r_call h_q17 (a_cons (r_d (r_var 4)) (a_cons (r_d (r_var 1)) a_nil)))) (r_tup (a_cons (r_d (r_var 7)) (a_cons (r_d (r_o (r_fdiv (r_o (r_sub (r_var 2) r_int)) r_int))) a_nil)))))))))))))))
noncomputable abbrev s_q26:Stmt:=top 39
noncomputable abbrev N_q26:List Str:=["script","cell","points","way"]
theorem sc_q26:FnScope N_q26 ["script"] (defScope s_q26):=⟨rfl,rfl,rfl,by decide +kernel,rfl,by decide +kernel,by decide +kernel⟩
noncomputable def t_q26 (sp_q18:FSp) (sp_q12:FSp) (sp_q24:FSp) (sp_q3:FSp) (sp_q6:FSp) (sp_q1:FSp):TSd:=(tSq (tForD (itemsD (tVal [] (tFz (tCa sp_q18 (tCo (tVal [] (tVarD 0)) (tCo (tVal [] (tCD (.int 3))) tN)))))) (gNm 1) (tSq (tSt [] 2 (tComp [] [none] (itemsD (tVal [] (tFz (tCa sp_q12 (tCo (tVal [] (tVarD 1)) (tCo (tVal [] (tCD (.int 30))) tN)))))) (gNm 0) tTrue (tVal [] (tFz (tCl tupleF (tCoo (tFz (tComp [] [none] (itemsD (tVal [] (tVarD 0))) (gNm 0) tTrue (tVal [] (tFz (tBin subD (tFz (tBin modD (tVarD 0) (tFz (tBin powD (tCD (.int 10)) (tCD (.int 13)))))) (tFz (tBin powD (tCD (.int 10)) (tCD (.int 9))))))))) tNo)))))) (tSq (tSt [] 3 (tCa sp_q24 (tCo (tVal [] (tVarD 1)) tN))) (tSq (tIfD (tOrB (tNotB (tTru (tFz (tCa sp_q3 (tCo (tVal [] (tVarD 2)) (tCo (tVal [] (tVarD 3)) tN)))))) (tNotB (tTru (tFz (tCa sp_q6 (tCo (tVal [] (tVarD 1)) (tCo (tVal [] (tVarD 3)) tN))))))) (tRt [] (oX (tCD (.bl false)))) tNx) (tIfD (tAndB (tCmp2 gtT (tFz (tCl lenF (tCoo (tVarD 2) tNo))) (tCD (.int 1))) (tNotB (tTru (tFz (tCa sp_q1 (tCo (tVal [] (tVarD 1)) (tCo (tVal [] (tVarD 2)) (tCo (tVal [] (tVarD 3)) tN)))))))) (tRt [] (oX (tCD (.bl false)))) tNx))))) (tRt [] (oX (tCD (.bl true)))))
theorem e_q26 (E:Gl G) {sp_q18:FSp} (h_q18:FnG G k "_law_cells" sp_q18) {sp_q12:FSp} (h_q12:FnG G k "_law_points" sp_q12) {sp_q24:FSp} (h_q24:FnG G k "_law_way" sp_q24) {sp_q3:FSp} (h_q3:FnG G k "_law_together_right" sp_q3) {sp_q6:FSp} (h_q6:FnG G k "_law_line_right" sp_q6) {sp_q1:FSp} (h_q1:FnG G k "_law_otherwise_right" sp_q1):ESs G k ⟨N_q26,(defScope s_q26).names,[],false,false,false,fun _ _=>False⟩ (defBody s_q26) (t_q26 sp_q18 sp_q12 sp_q24 sp_q3 sp_q6 sp_q1):=(s_cons (s_for (i_seq (r_d (r_o (r_call h_q18 (a_cons (r_d (r_var 0)) (a_cons (r_d r_int) a_nil)))))) (g_name 1) (s_cons (s_comp 2 (N':=["point"]) (i_seq (r_d (r_o (r_call h_q12 (a_cons (r_d (r_var 1)) (a_cons (r_d r_int) a_nil)))))) ⟨rfl,by decide +kernel,by decide +kernel,by decide +kernel,by decide +kernel,rfl,by decide +kernel⟩ (g_name 0) b_nil (r_d (r_o (r_bt f_tuple E.z_tuple (o_cons (r_o (r_comp (N':=["number"]) (i_seq (r_d (r_var 0))) ⟨rfl,by decide +kernel,by decide +kernel,by decide +kernel,by decide +kernel,rfl,by decide +kernel⟩ (g_name 0) b_nil (r_d (r_o (r_sub (r_o (r_mod (r_var 0) (r_o (r_pow r_int r_int)))) (r_o (r_pow r_int r_int))))))) o_nil) (by decide +kernel))))) (s_cons (s_set 3 (r_call h_q24 (a_cons (r_d (r_var 1)) a_nil))) (s_cons (s_if (r_w (r_or (r_tnot (r_ttru (r_o (r_call h_q3 (a_cons (r_d (r_var 2)) (a_cons (r_d (r_var 3)) a_nil)))))) (r_or1 (r_tnot (r_ttru (r_o (r_call h_q6 (a_cons (r_d (r_var 1)) (a_cons (r_d (r_var 3)) a_nil))))))))) (s_one (s_ret (r_x r_bl))) s_nil) (s_one (s_if (r_w (r_and (r_tcmp c_gt (r_o (r_bf f_len E.z_len (o_cons (r_var 2) o_nil) (by decide +kernel))) r_int) (r_and1 (r_tnot (r_ttru (r_o (r_call h_q1 (a_cons (r_d (r_var 1)) (a_cons (r_d (r_var 2)) (a_cons (r_d (r_var 3)) a_nil)))))))))) (s_one (s_ret (r_x r_bl))) s_nil)))))) (s_one (s_ret (r_x r_bl))))

end
section
set_option hygiene false
local macro_rules | `(tactic| walk_at "vx")=>`(tactic| ((try simp only [startD,List.map_cons,List.map_nil,List.length_cons,List.length_nil,List.replicate_succ,List.replicate_zero,List.cons_append,List.nil_append,Nat.reduceAdd,Nat.reduceSub]);(try dsimp only [tSq,tUnp,min1F,max1F,tNx,tNev,tIfD,tDp,tRt,tSt,stD,tApp,appQ,isOwn,tFz,oX,fzV,oxV,valQ_val,valQ_var,tVal,tVarD,tCD,drf,drfs,tBin,addD,subD,mulD,fdivD,modD,powD,shrD,iiD,iiD0,tNeg,tCmp2,bV,eqT,neT,iiT,ltT,leT,gtT,geT,isNone,isT,truD,tTru,tAndB,tOrB,tNotB,tBool,tIx,tP0,tP1,slD,tSlD,tRev,revD,tN,tCo,tLs,tTu,tNo,tCoo,tCl,lenF,absF,max2F,min2F,intF,tupleF,bE,tCa,gNm,gN0,gC,gTu,itemsD,rng1,rng2,tForD,tTrue,tComp,frzC,capD,leS,sq?,tZip,tEnumS,Vc.tAug,Vc.augQ,Vc.ix2_0,Vc.ix2_1,Vc.ixN2_0,Vc.ixN2_1,sumF,tMin,startD,List.getElem?_cons_zero,List.getElem?_cons_succ,List.getElem?_nil,List.set_cons_zero,List.set_cons_succ,List.map_cons,List.map_nil,List.length_cons,List.length_nil,List.replicate_succ,List.replicate_zero,List.cons_append,List.nil_append,Nat.reduceAdd,Nat.reduceSub]);try simp only [List.append_nil,Nat.add_sub_cancel,Nat.zero_add,List.not_mem_nil,not_false_eq_true,true_and,and_true,decide_eq_true_eq,ite_true,ite_false,Bool.not_eq_true',decide_eq_false_iff_not,List.getElem?_cons_zero,List.getElem?_cons_succ]))
local macro_rules | `(tactic| walk_at "vc")=>`(tactic| repeat (refine And.intro (by first | assumption | decide | omega | (unfold CMul;omega) | (unfold CDiv;omega) | (unfold CPow;omega)) ?_))
local macro_rules | `(tactic| walk_at "vg")=>`(tactic| simp only [gNm,gTu,gC,gN0,List.length_cons,List.length_nil,Nat.reduceAdd,Nat.zero_add,true_and,List.set_cons_zero,List.set_cons_succ,Int.zero_add])
local macro_rules | `(tactic| walk_at "vd")=>`(tactic| walk_at "vx")
set_option hygiene true

variable [KF]
noncomputable def stirI (c k:Int):Int:=if 10 ^ 18 <= c then (c - 10 ^ 18) / 2 ^ (28 * k).toNat % 268435456 else
  ((c % 2147483629 + 1013 * k + 1) * 16807 % 2147483647 * ((c % 2147483629 + 1013 * k + 1) * 16807 % 2147483647) % 2147483629) * 39373 % 2147483587 / 8
theorem stir_bd (c k:Int):0 <= stirI c k /\ stirI c k < 268435456:=by
  unfold stirI
  split<;>omega
noncomputable def sp_stir:FSp
  | [.int c,.int k],Q=>(0 <= k /\ k <= 1000) /\ Q (.sh (.int (stirI c k)))
  | _,_=>False
theorem p_stir (ds:List D) (Q:B -> Prop) (h:sp_stir ds Q):t_q20 { nx:=fun _=>Q (.sh .non),rt:=fun b _=>Q b } (startD N_q20.length ds):=by
  unfold sp_stir at h
  split at h
  · rename_i c k
    obtain ⟨⟨h1,h2⟩,q⟩:=h
    unfold stirI at q
    unfold t_q20
    walk_at "vx"
    refine ⟨by unfold CPow;decide,?_⟩
    split
    · rename_i hc
      rw [if_pos (show 10 ^ 18 <= c from hc)] at q
      refine ⟨by unfold CPow;decide,?_⟩
      walk_at "vc"
      exact q
    · rename_i hc
      rw [if_neg (show ¬ 10 ^ 18 <= c from hc)] at q
      walk_at "vc"
      exact q
  · exact h.elim
noncomputable def cellsI (ns:List Int) (many:Nat):List Int:=cut (cut ns none (some (many:Int)) ++ [0]) none (some (if (if (ns.length:Int) < many then (ns.length:Int) else many) > 1 then (if (ns.length:Int) < many then (ns.length:Int) else many) else 1))
theorem cut_map {α β:Type} (f:α -> β) (xs:List α) (lo hi:Option Int):cut (xs.map f) lo hi = (cut xs lo hi).map f:=by
  unfold cut
  rw [List.length_map,List.map_take,List.map_drop]
noncomputable def sp_cells:FSp:=fun ds Q=>∃ (ns:List Int) (many:Nat),ds = [.scr ns,.int many] /\ ns.length <= 63 /\ many <= 10 /\ Q (.own ((cellsI ns many).map D.int))
theorem cut_len {α:Type} (xs:List α) (lo hi:Option Int):(cut xs lo hi).length <= xs.length:=by
  unfold cut
  rw [List.length_take,List.length_drop];omega
theorem p_cells (ds:List D) (Q:B -> Prop) (h:sp_cells ds Q):t_q18 { nx:=fun _=>Q (.sh .non),rt:=fun b _=>Q b } (startD N_q18.length ds):=by
  obtain ⟨ns,many,rfl,hl,hm,q⟩:=h
  unfold t_q18
  walk_at "vx"
  have e:cut (ns.map D.int) none (some (many:Int)) ++ [D.int 0] = (cut ns none (some (many:Int)) ++ [0]).map D.int:=by rw [cut_map,List.map_append];rfl
  have hz:=cut_len (ns.map D.int) none (some (many:Int))
  rw [List.length_map] at hz
  refine ⟨by decide,?_,?_⟩
  · have:(sizeLine:Nat) = 2 ^ 24:=rfl
    omega
  · rw [e,cut_map];exact q
noncomputable def wayS (b:Bool):Str:=if b = true then "squares" else "streets"
noncomputable def wayD (b:Bool):D:=.str (wayS b)
noncomputable def ptD (p:List Int):D:=.tup (p.map D.int)
noncomputable def sp_way:FSp
  | [.int _],Q=>∀ b,Q (.sh (wayD b))
  | _,_=>False
theorem p_way (ds:List D) (Q:B -> Prop) (h:sp_way ds Q):t_q24 sp_stir { nx:=fun _=>Q (.sh .non),rt:=fun b _=>Q b } (startD N_q24.length ds):=by
  unfold sp_way at h
  split at h
  · rename_i c
    unfold t_q24
    walk_at "vx"
    refine ⟨by decide,?_⟩
    unfold sp_stir
    refine ⟨by decide,?_⟩
    walk_at "vx"
    refine ⟨by decide,?_⟩
    have hb:=stir_bd c 1
    refine ix_lst_all (by omega) (by simp only [List.length_cons,List.length_nil];omega) fun d hd=>?_
    rcases List.mem_cons.mp hd with rfl | hd
    · exact h false
    · rcases List.mem_cons.mp hd with rfl | hd
      · exact h true
      · cases hd
  · exact h.elim
noncomputable def Bd (p:List Int):Prop:=p.length <= 3 /\ ∀ x ∈ p,-(2 ^ 60) < x /\ x < 2 ^ 60
noncomputable def absI (x:Int):Int:=if x < 0 then -x else x
noncomputable def stepI (b:Bool) (x y:Int):Int:=if b = true then absI (x - y) * absI (x - y) else absI (x - y)
noncomputable def farI (b:Bool) (p q:List Int):Int:=((p.zip q).map fun xy=>stepI b xy.1 xy.2).sum
noncomputable def sp_far:FSp:=fun ds Q=>∃ b p q,ds = [wayD b,ptD p,ptD q] /\ Bd p /\ Bd q /\ Q (.sh (.int (farI b p q)))
theorem way_ok (b:Bool):okD 8 (wayD b) = true:=by cases b<;>decide +kernel
theorem ok_streets:okD 8 (.str "streets") = true:=by decide +kernel
theorem ok_squares:okD 8 (.str "squares") = true:=by decide +kernel
theorem way_streets (b:Bool):eqD (wayD b) (.str "streets") = !b:=by cases b<;>decide +kernel
theorem way_squares (b:Bool):eqD (wayD b) (.str "squares") = b:=by cases b<;>decide +kernel
theorem sz:sizeLine = 2 ^ 24:=rfl
theorem zip_len {p q:List Int} (h:Bd p):(p.zip q).length <= 3:=by
  rw [List.length_zip];have:=h.1;omega
theorem all_int {α:Type} (l:List α) (f:α -> Int):(l.map fun a=>D.int (f a)).all isInt = true:=by
  rw [List.all_map];exact List.all_eq_true.mpr fun _ _=>rfl
theorem map_intV {α:Type} (l:List α) (f:α -> Int):(l.map fun a=>D.int (f a)).map intV = l.map f:=by
  rw [List.map_map];rfl
theorem p_far (ds:List D) (Q:B -> Prop) (h:sp_far ds Q):t_q8 { nx:=fun _=>Q (.sh .non),rt:=fun b _=>Q b } (startD N_q8.length ds):=by
  obtain ⟨b,p,q,rfl,hp,hq,h⟩:=h
  unfold t_q8 ptD
  walk_at "vx"
  rw [zipD_map]
  refine compD_onM (fun p=>.tup [.int p.1,.int p.2]) (fun xy:Int × Int=>D.int (absI (xy.1 - xy.2))) _ (fun xy hxy A ha=>?_) (by have:=zip_len (q:=q) hp;rw [sz];omega) ?_
  · walk_at "vx"
    exact ha
  · walk_at "vx"
    rw [way_streets]
    refine ⟨⟨way_ok b,ok_streets⟩,?_⟩
    cases b with
    | false =>
      refine (if_pos rfl).mpr ?_
      refine ⟨all_int _ _,?_⟩
      rw [map_intV]
      exact h
    | true =>
      refine (if_neg (by decide)).mpr ?_
      rw [show (List.map (fun xy:Int × Int=>D.int (absI (xy.1 - xy.2))) (p.zip q)) = (List.map (fun xy:Int × Int=>(absI (xy.1 - xy.2))) (p.zip q)).map D.int from by rw [List.map_map];rfl]
      refine compD_onM D.int (fun d:Int=>D.int (d * d)) _ (fun d hd A ha=>?_) (by have:=zip_len (q:=q) hp;rw [sz,List.length_map];omega) ?_
      · walk_at "vx"
        refine ⟨?_,ha⟩
        obtain ⟨xy,hxy,rfl⟩:=List.mem_map.mp hd
        have h1:=hp.2 _ (List.of_mem_zip hxy).1
        have h2:=hq.2 _ (List.of_mem_zip hxy).2
        unfold CMul absI
        left
        split<;>omega
      · walk_at "vx"
        refine ⟨all_int _ _,?_⟩
        rw [map_intV,List.map_map]
        exact h
noncomputable def Good (n:Nat) (pts:List (List Int)):Prop:=(1 <= n /\ n <= 3) /\ ∀ p ∈ pts,p.length = n /\ ∀ x ∈ p,-(2 ^ 59) < x /\ x < 2 ^ 59
theorem Good.bd {n:Nat} {pts:List (List Int)} (g:Good n pts) {p:List Int} (h:p ∈ pts):Bd p:=⟨by have:=(g.2 p h).1;have:=g.1.2;omega,fun x hx=>by have:=(g.2 p h).2 x hx;omega⟩
noncomputable def sp_points:FSp:=fun ds Q=>∃ (c:Int) (m:Nat),ds = [.int c,.int m] /\ m <= 150 /\ ∀ pts n,Good n pts -> pts.length <= m -> Q (.own (pts.map ptD))
theorem range_get {n i a:Nat} (h:(List.range n)[i]? = some a):a = i /\ i < n:=by
  have hi:i < n:=by
    have:=(List.getElem?_eq_some_iff.mp h).1
    rwa [List.length_range] at this
  rw [List.getElem?_range hi] at h
  cases h
  exact ⟨rfl,hi⟩
theorem p_points (ds:List D) (Q:B -> Prop) (h:sp_points ds Q):t_q12 sp_stir { nx:=fun _=>Q (.sh .non),rt:=fun b _=>Q b } (startD N_q12.length ds):=by
  obtain ⟨cell,m,rfl,hm,h⟩:=h
  unfold t_q12
  have hb0:=stir_bd cell 0
  have hb2:=stir_bd cell 2
  have hb3:=stir_bd cell 3
  have hb4:=stir_bd cell 4
  have hb5:=stir_bd cell 5
  -- count
  refine tSq_step fun N hN=>?_
  walk_at "vx"
  refine ⟨by decide,by decide,?_⟩
  subst hN
  -- many
  refine tSq_step fun N hN=>?_
  walk_at "vx"
  refine ⟨by decide,by decide,by decide,by omega,by decide,by decide,by decide,?_⟩
  refine ix_lst_all (by omega) (by simp only [List.length_cons,List.length_nil];omega) fun d hd=>?_
  obtain ⟨many,rfl,hv⟩:∃ v,d = .int v /\ 0 <= v:=by
    simp only [List.mem_cons,List.not_mem_nil,or_false] at hd
    rcases hd with rfl | rfl | rfl
    · exact ⟨_,rfl,by omega⟩
    · exact ⟨_,rfl,Int.emod_nonneg _ (by omega)⟩
    · exact ⟨_,rfl,by omega⟩
  walk_at "vx"
  subst hN
  -- kind
  refine tSq_step fun N hN=>?_
  walk_at "vx"
  refine ⟨by decide,by decide,?_⟩
  subst hN
  -- step
  refine tSq_step fun N hN=>?_
  walk_at "vx"
  refine ⟨by decide,by unfold CPow;decide,by decide,?_⟩
  subst hN
  -- found
  refine tSq_step fun N hN=>?_
  walk_at "vx"
  refine ⟨by decide,?_⟩
  subst hN
  -- the loop
  obtain ⟨cnt,hc1,hc3,ec⟩:∃ n:Nat,1 <= n /\ n <= 3 /\ 1 + stirI cell 0 % 3 = (n:Int):=⟨(1 + stirI cell 0 % 3).toNat,by omega,by omega,by omega⟩
  obtain ⟨kind,hk0,hk7,ek⟩:∃ v:Int,0 <= v /\ v < 7 /\ stirI cell 4 % 7 = v:=⟨_,by omega,by omega,rfl⟩
  obtain ⟨step,hs0,hs1,es⟩:∃ v:Int,1 <= v /\ v <= 10 ^ 6 /\ 1 + stirI cell 5 % 10 ^ Int.toNat 6 = v:=⟨_,by rw [show (10:Int) ^ Int.toNat 6 = 1000000 from rfl];omega,by rw [show (10:Int) ^ Int.toNat 6 = 1000000 from rfl];omega,rfl⟩
  rw [ec,ek,es]
  refine tSq_step fun N hN=>?_
  walk_at "vx"
  obtain ⟨n,hn,en⟩:∃ n:Nat,n <= m /\ (if many < (m:Int) then many else (m:Int)) = (n:Int):=⟨(if many < (m:Int) then many else (m:Int)).toNat,by split<;>omega,by split<;>omega⟩
  rw [en,Int.toNat_natCast,rngD_map]
  refine ⟨by omega,forD_on (fun i:Nat=>.int (0 + (i:Nat))) (List.range n) (fun i σ=>∃ pts k pt c one far some',σ = [some (.sh (.int cell)),some (.sh (.int m)),some (.sh (.int cnt)),some (.sh (.int many)),some (.sh (.int kind)),some (.sh (.int step)),some (.own (pts.map ptD)),k,pt,c,one,far,some'] /\ pts.length = i /\ Good cnt pts) (fun i a σ N' hx hI hN'=>?_) (fun σ hI=>?_) ⟨[],none,none,none,none,none,none,rfl,rfl,⟨⟨hc1,hc3⟩,fun p hp=>by cases hp⟩⟩⟩
  · obtain ⟨rfl,hi⟩:=range_get hx
    obtain ⟨pts,k0,pt0,c0,one0,far0,some0,rfl,hl,hg⟩:=hI
    walk_at "vx"
    rw [show (0:Int) + (a:Int) = a from Int.zero_add _]
    refine ⟨by decide,?_⟩
    rw [Int.toNat_natCast,rngD_map]
    refine ⟨by omega,forD_on (fun i:Nat=>.int (0 + (i:Nat))) (List.range cnt) (fun j σ=>∃ (p:List Int) (c one far some':Option B),σ = [some (.sh (.int cell)),some (.sh (.int m)),some (.sh (.int cnt)),some (.sh (.int many)),some (.sh (.int kind)),some (.sh (.int step)),some (.own (pts.map ptD)),some (.sh (.int a)),some (.own (p.map D.int)),c,one,far,some'] /\ p.length = j /\ ∀ x ∈ p,-(2 ^ 59) < x /\ x < 2 ^ 59) (fun j b σ N2 hy hJ hN2=>?_) (fun σ hJ=>?_) ⟨[],_,_,_,_,rfl,rfl,fun x hx=>by cases hx⟩⟩
    · obtain ⟨rfl,hj⟩:=range_get hy
      obtain ⟨p,c1,one1,far1,some1,rfl,hpl,hpb⟩:=hJ
      walk_at "vg"
      have hone:=stir_bd cell (10 + 3 * (a:Int) + (b:Int))
      have htwo:=stir_bd cell (10 + (b:Int))
      -- one
      refine tSq_step fun N3 hN3=>?_
      walk_at "vx"
      refine ⟨by unfold CMul;omega,by omega,?_⟩
      subst hN3
      generalize stirI cell (10 + 3 * (a:Int) + (b:Int)) = one at hone ⊢
      -- far
      refine tSq_step fun N3 hN3=>?_
      walk_at "vx"
      refine ⟨by unfold CMul;omega,by decide,?_⟩
      subst hN3
      obtain ⟨far,hf1,hf2,ef⟩:∃ v:Int,-(2 ^ 59) < v /\ v < 2 ^ 59 /\ (one - 134217728) * 7450580 + one % 1000 = v:=⟨_,by omega,by omega,rfl⟩
      rw [ef]
      -- some
      refine tSq_step fun N3 hN3=>?_
      walk_at "vx"
      refine ⟨by decide,by decide,by omega,by decide,by decide,?_⟩
      subst hN3
      refine tSq_step fun N3 hN3=>?_
      walk_at "vx"
      refine ⟨by decide,by unfold CPow;decide,by unfold CMul;omega,by unfold CDiv;omega,by decide,by unfold CMul;omega,by decide,by decide,?_⟩
      refine ix_lst_all (by omega) (by simp only [List.length_cons,List.length_nil];omega) fun d hd=>?_
      obtain ⟨v,rfl,hv1,hv2⟩:∃ v,d = .int v /\ 0 < v /\ v < 100:=by
        simp only [List.mem_cons,List.not_mem_nil,or_false] at hd
        rcases hd with rfl | rfl | rfl
        · exact ⟨_,rfl,by omega,by omega⟩
        · exact ⟨_,rfl,by omega,by omega⟩
        · exact ⟨_,rfl,by omega,by omega⟩
      walk_at "vx"
      refine ⟨by unfold CDiv;omega,by decide,by decide,by decide,?_⟩
      subst hN3
      -- append
      walk_at "vx"
      refine ⟨⟨_,rfl⟩,?_⟩
      have hst:0 <= (a:Int) * step /\ (a:Int) * step <= 150 * 10 ^ 6:=⟨Int.mul_nonneg (by omega) (by omega),Int.mul_le_mul (by omega) hs1 (by omega) (by omega)⟩
      refine ix_lst_all hk0 (by simp only [List.length_cons,List.length_nil];omega) fun d hd=>?_
      obtain ⟨x,rfl,hx1,hx2⟩:∃ x,d = .int x /\ -(2 ^ 59) < x /\ x < 2 ^ 59:=by
        simp only [List.mem_cons,List.not_mem_nil,or_false] at hd
        rw [show (10:Int) ^ Int.toNat 14 = 100000000000000 from rfl] at hd
        rcases hd with rfl | rfl | rfl | rfl | rfl | rfl | rfl
        · exact ⟨_,rfl,by omega,by omega⟩
        · exact ⟨_,rfl,by omega,by omega⟩
        · exact ⟨_,rfl,by omega,by omega⟩
        · exact ⟨_,rfl,by omega,by omega⟩
        · exact ⟨_,rfl,by omega,by omega⟩
        · exact ⟨_,rfl,by omega,by omega⟩
        · exact ⟨_,rfl,by omega,by omega⟩
      walk_at "vx"
      refine ⟨by rw [sz,List.length_map];omega,hN2 _ ⟨p ++ [x],_,_,_,_,by rw [List.map_append];rfl,by simp [hpl],fun y hy=>?_⟩⟩
      rcases List.mem_append.mp hy with hy | hy
      · exact hpb y hy
      · rw [List.mem_singleton.mp hy];exact ⟨hx1,hx2⟩
    · obtain ⟨p,c1,one1,far1,some1,rfl,hpl,hpb⟩:=hJ
      rw [List.length_range] at hpl
      walk_at "vx"
      refine ⟨⟨_,rfl⟩,by rw [sz,List.length_map];omega,hN' _ ⟨pts ++ [p],_,_,_,_,_,_,by rw [List.map_append];rfl,by simp [hl],hg.1,fun q hq=>?_⟩⟩
      rcases List.mem_append.mp hq with hq | hq
      · exact hg.2 q hq
      · rw [List.mem_singleton.mp hq];exact ⟨hpl,hpb⟩
  · obtain ⟨pts,k0,pt0,c0,one0,far0,some0,rfl,hl,hg⟩:=hI
    subst hN
    walk_at "vx"
    rw [List.length_range] at hl
    exact h pts cnt hg (by omega)

noncomputable def ptsD (pts:List (List Int)):D:=.lst (pts.map ptD)
theorem pts_get {pts:List (List Int)} {j:Nat} (h:j < pts.length):(pts.map ptD)[j]? = some (ptD (pts.getD j [])):=by
  rw [List.getElem?_map,List.getD_eq_getElem?_getD,List.getElem?_eq_getElem h];rfl
theorem getD_mem {pts:List (List Int)} {j:Nat} (h:j < pts.length):pts.getD j [] ∈ pts:=by
  rw [List.getD_eq_getElem?_getD,List.getElem?_eq_getElem h];exact List.getElem_mem h
theorem enum_get {α:Type} {xs:List α} {i:Nat} {q:Nat × α} (h:(xs.mapIdx fun i x=>(i,x))[i]? = some q):q.1 = i /\ xs[i]? = some q.2:=by
  rw [List.getElem?_mapIdx] at h
  cases e:xs[i]? with
  | none=>rw [e] at h;cases h
  | some x=>rw [e] at h;cases h;exact ⟨rfl,rfl⟩

noncomputable def Shape (n:Nat) (pts:List (List Int)):Prop:=(1 <= n /\ n <= 3) /\ ∀ p ∈ pts,p.length = n
theorem Good.shape {n:Nat} {pts:List (List Int)} (g:Good n pts):Shape n pts:=⟨g.1,fun p hp=>(g.2 p hp).1⟩
noncomputable def sp_ncount:FSp:=fun ds Q=>∃ c:Int,ds = [.int c] /\ 1 <= c /\ c <= 3 /\ Q (.sh .non)
theorem p_ncount (ds:List D) (Q:B -> Prop) (h:sp_ncount ds Q):t_q15 { nx:=fun _=>Q (.sh .non),rt:=fun b _=>Q b } (startD N_q15.length ds):=by
  obtain ⟨c,rfl,h1,h2,h⟩:=h
  unfold t_q15
  walk_at "vx"
  rw [if_neg (by omega),if_neg (by omega)]
  exact h
noncomputable def sp_nas:FSp:=fun ds Q=>∃ (p:List Int) (c:Int),ds = [ptD p,.int c] /\ (p.length:Int) = c /\ Q (.sh .non)
theorem p_nas (ds:List D) (Q:B -> Prop) (h:sp_nas ds Q):t_q0 { nx:=fun _=>Q (.sh .non),rt:=fun b _=>Q b } (startD N_q0.length ds):=by
  obtain ⟨p,c,rfl,rfl,h⟩:=h
  unfold t_q0 ptD
  walk_at "vx"
  rw [List.length_map]
  refine ⟨⟨rfl,rfl⟩,?_⟩
  have e:eqD (.int (p.length:Nat)) (.int (p.length:Nat)) = true:=by simp [eqD]
  rw [if_neg (by rw [e];decide)]
  exact h
noncomputable def sp_npts:FSp:=fun ds Q=>∃ n pts,ds = [ptsD pts] /\ Shape n pts /\ Q (.sh .non)
theorem p_npts (ds:List D) (Q:B -> Prop) (h:sp_npts ds Q):t_q11 sp_ncount sp_nas { nx:=fun _=>Q (.sh .non),rt:=fun b _=>Q b } (startD N_q11.length ds):=by
  obtain ⟨n,pts,rfl,hg,h⟩:=h
  unfold t_q11 ptsD
  walk_at "vx"
  refine forD_on ptD pts (fun i σ=>∃ x,σ = [some (.sh (.lst (pts.map ptD))),x]) (fun i p σ N' hx hI hN'=>?_) (fun σ hI=>h) ⟨none,rfl⟩
  obtain ⟨x,rfl⟩:=hI
  have hp:=hg.2 p (List.mem_of_getElem? hx)
  have h1:=hg.1
  have h0:0 < pts.length:=Nat.lt_of_le_of_lt (Nat.zero_le _) (List.getElem?_eq_some_iff.mp hx).1
  have h00:=hg.2 _ (getD_mem h0)
  walk_at "vg"
  refine tSq_step fun N2 hN2=>?_
  rw [show ptD p = .tup (p.map D.int) from rfl]
  walk_at "vx"
  rw [List.length_map]
  refine ⟨_,rfl,by omega,by omega,?_⟩
  walk_at "vx"
  subst hN2
  walk_at "vx"
  refine ix_lst_at (n:=0) rfl (pts_get h0) ?_
  rw [show ptD (pts.getD 0 []) = .tup ((pts.getD 0 []).map D.int) from rfl]
  walk_at "vx"
  rw [List.length_map]
  refine ⟨p,_,rfl,by rw [hp,h00],?_⟩
  exact hN' _ ⟨_,rfl⟩
noncomputable def sp_nway:FSp:=fun ds Q=>∃ b,ds = [wayD b] /\ Q (.sh .non)
theorem p_nway (ds:List D) (Q:B -> Prop) (h:sp_nway ds Q):t_q21 { nx:=fun _=>Q (.sh .non),rt:=fun b _=>Q b } (startD N_q21.length ds):=by
  obtain ⟨b,rfl,h⟩:=h
  unfold t_q21
  walk_at "vx"
  refine ⟨⟨way_ok b,ok_streets⟩,?_⟩
  rw [way_streets]
  cases b with
  | false=>exact h
  | true =>
    refine (if_pos rfl).mpr ⟨⟨way_ok true,ok_squares⟩,?_⟩
    rw [way_squares]
    exact h
noncomputable def sp_npw:FSp:=fun ds Q=>∃ n b pts,ds = [ptsD pts,wayD b] /\ Shape n pts /\ Q (.sh .non)
theorem p_npw (ds:List D) (Q:B -> Prop) (h:sp_npw ds Q):t_q2 sp_npts sp_nway { nx:=fun _=>Q (.sh .non),rt:=fun b _=>Q b } (startD N_q2.length ds):=by
  obtain ⟨n,b,pts,rfl,hg,h⟩:=h
  unfold t_q2
  walk_at "vx"
  refine ⟨n,pts,rfl,hg,?_⟩
  walk_at "vx"
  exact ⟨b,rfl,h⟩

noncomputable def okS:Nat -> D -> Bool
  | _,.non=>true
  | _,.int _=>true
  | n + 1,.tup xs=>decide (xs.length <= 1000000) && xs.all (okS n)
  | n + 1,.lst xs=>decide (xs.length <= 1000000) && xs.all (okS n)
  | _,_=>false
noncomputable def sp_same:Nat -> FSp
  | 0=>fun _ _=>False
  | n + 1=>fun ds Q=>∃ x,ds = [x,x] /\ okS n x = true /\ Q (.sh (.bl true))
theorem ok_pts (pts:List (List Int)):okD 8 (.lst (pts.map ptD)) = true:=by
  show (pts.map ptD).all (okD 7) = true
  rw [List.all_map]
  refine List.all_eq_true.mpr fun p _=>?_
  show (p.map D.int).all (okD 6) = true
  rw [List.all_map]
  exact List.all_eq_true.mpr fun _ _=>rfl
noncomputable def pairD (b:Bool) (pts:List (List Int)) (i j:Nat):D:=.tup [.int (farI b (pts.getD i []) (pts.getD j [])),.int i,.int j]
noncomputable def rowD (b:Bool) (pts:List (List Int)) (i m:Nat):List D:=(List.range m).map fun t=>pairD b pts i (i + 1 + t)
noncomputable def rowsD (b:Bool) (pts:List (List Int)):Nat -> List D
  | 0=>[]
  | i + 1=>rowsD b pts i ++ rowD b pts i (pts.length - (i + 1))
noncomputable def pairsD (b:Bool) (pts:List (List Int)):List D:=rowsD b pts pts.length
theorem rowD_len (b:Bool) (pts:List (List Int)) (i m:Nat):(rowD b pts i m).length = m:=by unfold rowD;rw [List.length_map,List.length_range]
theorem rowD_succ (b:Bool) (pts:List (List Int)) (i m:Nat):rowD b pts i (m + 1) = rowD b pts i m ++ [pairD b pts i (i + 1 + m)]:=by unfold rowD;rw [List.range_succ,List.map_append];rfl
theorem rowsD_len (b:Bool) (pts:List (List Int)):∀ i,(rowsD b pts i).length <= i * pts.length
  | 0=>Nat.zero_le _
  | i + 1=>by
    have ih:=rowsD_len b pts i
    show (rowsD b pts i ++ rowD b pts i (pts.length - (i + 1))).length <= _
    rw [List.length_append,rowD_len,Nat.succ_mul]
    omega
theorem rows_le {b:Bool} {pts:List (List Int)} {i:Nat} (hl:pts.length <= 1000) (hi:i <= pts.length):(rowsD b pts i).length <= 1000000 :=
  Nat.le_trans (rowsD_len b pts i) (Nat.mul_le_mul (show i <= 1000 by omega) hl)
theorem pairs_le {b:Bool} {pts:List (List Int)} (hl:pts.length <= 1000):(pairsD b pts).length <= 1000000:=rows_le hl (Nat.le_refl _)
theorem rows_mem {b:Bool} {pts:List (List Int)}:∀ {i:Nat} {d:D},d ∈ rowsD b pts i -> ∃ p q,p < i /\ p < q /\ (i <= pts.length -> q < pts.length) /\ d = pairD b pts p q
  | i + 1,d,h=>by
    rcases List.mem_append.mp (show d ∈ rowsD b pts i ++ rowD b pts i (pts.length - (i + 1)) from h) with h | h
    · obtain ⟨p,q,h1,h2,h3,h4⟩:=rows_mem h
      exact ⟨p,q,by omega,h2,fun z=>h3 (by omega),h4⟩
    · obtain ⟨t,ht,rfl⟩:=List.mem_map.mp h
      have ht:=List.mem_range.mp ht
      exact ⟨i,i + 1 + t,by omega,by omega,fun z=>by omega,rfl⟩
theorem pairs_mem {b:Bool} {pts:List (List Int)} {d:D} (h:d ∈ pairsD b pts):∃ p q,p < q /\ q < pts.length /\ d = pairD b pts p q:=by
  obtain ⟨p,q,h1,h2,h3,h4⟩:=rows_mem h
  exact ⟨p,q,h2,h3 (Nat.le_refl _),h4⟩
noncomputable def sp_pairs:FSp:=fun ds Q=>∃ b n pts,ds = [ptsD pts,wayD b] /\ Good n pts /\ pts.length <= 1000 /\ Q (.own (pairsD b pts))
noncomputable def tPairs (sp:FSp) (rest:TSd):TSd:=(tSq (tSt [] 2 (tLs tN)) (tSq (tForD (rng1 (tCoo (tFz (tCl lenF (tCoo (tVarD 0) tNo))) tNo)) (gNm 3) (tForD (rng2 (tCoo (tFz (tBin addD (tVarD 3) (tCD (.int 1)))) (tCoo (tFz (tCl lenF (tCoo (tVarD 0) tNo))) tNo))) (gNm 4) (tDp (tApp (tVarD 2) (tVal [] (tTu (tCo (tVal [] (tFz (tCa sp (tCo (tVal [] (tVarD 1)) (tCo (tVal [] (tIx (tVarD 0) (tVarD 3))) (tCo (tVal [] (tIx (tVarD 0) (tVarD 4))) tN)))))) (tCo (tVal [] (tVarD 3)) (tCo (tVal [] (tVarD 4)) tN))))))))) rest))
theorem p_tPairs {b:Bool} {n:Nat} {pts:List (List Int)} {rest:TSd} {De:EndsD} (hg:Good n pts) (hl:pts.length <= 1000) (h:∀ x3 x4,rest De [some (.sh (ptsD pts)),some (.sh (wayD b)),some (.own (pairsD b pts)),x3,x4]) :
    tPairs sp_far rest De [some (.sh (ptsD pts)),some (.sh (wayD b)),none,none,none]:=by
  unfold tPairs
  refine tSq_step fun N hN=>?_
  walk_at "vx"
  refine ⟨by decide,?_⟩
  subst hN
  refine tSq_step fun N hN=>?_
  rw [show ptsD pts = .lst (pts.map ptD) from rfl]
  walk_at "vx"
  rw [List.length_map,Int.toNat_natCast,rngD_map]
  refine ⟨by omega,forD_on (fun i:Nat=>.int (0 + (i:Nat))) (List.range pts.length) (fun i σ=>∃ x3 x4,σ = [some (.sh (.lst (pts.map ptD))),some (.sh (wayD b)),some (.own (rowsD b pts i)),x3,x4]) (fun i a σ N' hx hI hN'=>?_) (fun σ hI=>?_) ⟨none,none,rfl⟩⟩
  · obtain ⟨rfl,hi⟩:=range_get hx
    obtain ⟨x3,x4,rfl⟩:=hI
    walk_at "vg"
    walk_at "vx"
    rw [List.length_map,rngD_map]
    refine ⟨by omega,?_⟩
    rw [show ((pts.length:Int) - ((a:Int) + 1)).toNat = pts.length - (a + 1) by omega]
    refine forD_on (fun t:Nat=>.int ((a:Int) + 1 + (t:Nat))) (List.range (pts.length - (a + 1))) (fun m σ=>∃ x4,σ = [some (.sh (.lst (pts.map ptD))),some (.sh (wayD b)),some (.own (rowsD b pts a ++ rowD b pts a m)),some (.sh (.int a)),x4]) (fun m t σ N2 hx2 hI2 hN2=>?_) (fun σ hI2=>?_) ⟨x4,by rw [show rowD b pts a 0 = [] from rfl,List.append_nil]⟩
    · obtain ⟨rfl,ht⟩:=range_get hx2
      obtain ⟨x4,rfl⟩:=hI2
      walk_at "vx"
      have hj:a + 1 + t < pts.length:=by omega
      refine ⟨⟨_,rfl⟩,?_⟩
      refine ix_lst_at (n:=a) rfl (pts_get hi) ?_
      refine ix_lst_at (n:=a + 1 + t) (by omega) (pts_get hj) ?_
      walk_at "vx"
      refine ⟨b,_,_,rfl,hg.bd (getD_mem hi),hg.bd (getD_mem hj),?_⟩
      walk_at "vx"
      have hz:=rows_le (b:=b) hl (show a <= pts.length by omega)
      refine ⟨by decide,by rw [sz,List.length_append,rowD_len];omega,hN2 _ ⟨some (.sh (.int ((a:Int) + 1 + (t:Int)))),?_⟩⟩
      rw [rowD_succ,List.append_assoc]
      unfold pairD
      rw [show ((a + 1 + t:Nat):Int) = (a:Int) + 1 + (t:Int) by omega]
    · obtain ⟨x4,rfl⟩:=hI2
      rw [List.length_range]
      exact hN' _ ⟨some (.sh (.int a)),x4,rfl⟩
  · obtain ⟨x3,x4,rfl⟩:=hI
    subst hN
    rw [List.length_range]
    exact h x3 x4
theorem p_pairs (ds:List D) (Q:B -> Prop) (h:sp_pairs ds Q):t_q4 sp_far { nx:=fun _=>Q (.sh .non),rt:=fun b _=>Q b } (startD N_q4.length ds):=by
  obtain ⟨b,n,pts,rfl,hg,hl,h⟩:=h
  exact p_tPairs hg hl fun x3 x4=>by walk_at "vx";exact h

theorem farI_nil (b:Bool):farI b [] [] = 0:=rfl
theorem farI_cons (b:Bool) (x y:Int) (p q:List Int):farI b (x :: p) (y :: q) = stepI b x y + farI b p q:=rfl
theorem step_of {b:Bool} {x y x' y':Int} (h:x' - y' = x - y \/ x' - y' = y - x):stepI b x' y' = stepI b x y:=by
  unfold stepI
  rcases h with h | h
  · rw [h]
  · rw [h,show y - x = -(x - y) by omega]
    rw [show absI (-(x - y)) = absI (x - y) by unfold absI;split<;>split<;>omega]
theorem far_map {b:Bool} {f:Int -> Int} (h:∀ x y,f x - f y = x - y \/ f x - f y = y - x):∀ p q:List Int,farI b (p.map f) (q.map f) = farI b p q
  | [],_=>rfl
  | _ :: _,[]=>rfl
  | x :: p,y :: q=>by
    rw [List.map_cons,List.map_cons,farI_cons,farI_cons,step_of (h x y),far_map h p q]
theorem far_append (b:Bool):∀ p q p' q':List Int,p.length = q.length -> farI b (p ++ p') (q ++ q') = farI b p q + farI b p' q'
  | [],[],p',q',_=>by rw [List.nil_append,List.nil_append,farI_nil,Int.zero_add]
  | x :: p,y :: q,p',q',h=>by
    rw [List.cons_append,List.cons_append,farI_cons,farI_cons,far_append b p q p' q' (by simpa using h),Int.add_assoc]
theorem far_rev (b:Bool):∀ p q:List Int,p.length = q.length -> farI b p.reverse q.reverse = farI b p q
  | [],[],_=>rfl
  | x :: p,y :: q,h=>by
    have h':p.length = q.length:=by simpa using h
    rw [List.reverse_cons,List.reverse_cons,far_append b _ _ _ _ (by rw [List.length_reverse,List.length_reverse,h']),far_rev b p q h',farI_cons b x y p q]
    show _ + (stepI b x y + 0) = _
    omega
theorem abs_mul {f:Int} (h:0 <= f) (x:Int):absI (f * x) = f * absI x:=by
  unfold absI
  by_cases hx:x < 0
  · rw [if_pos hx]
    by_cases hf:f = 0
    · subst hf
      rw [Int.zero_mul,Int.zero_mul,if_neg (by decide)]
    · rw [if_pos (Int.mul_neg_of_pos_of_neg (by omega) hx),Int.mul_neg]
  · rw [if_neg hx,if_neg (by have:=Int.mul_nonneg h (show 0 <= x by omega);omega)]
noncomputable def moreI (b:Bool) (f:Int):Int:=if b then f * f else f
theorem far_times {b:Bool} {f:Int} (h:0 <= f):∀ p q:List Int,farI b (p.map (f * ·)) (q.map (f * ·)) = moreI b f * farI b p q
  | [],_=>by rw [List.map_nil];exact (Int.mul_zero _).symm
  | _ :: _,[]=>by rw [List.map_nil];exact (Int.mul_zero _).symm
  | x :: p,y :: q=>by
    rw [List.map_cons,List.map_cons,farI_cons,farI_cons,far_times h p q,Int.mul_add]
    congr 1
    cases b
    · show absI (f * x - f * y) = f * absI (x - y)
      rw [<- Int.mul_sub,abs_mul h]
    · show absI (f * x - f * y) * absI (f * x - f * y) = f * f * (absI (x - y) * absI (x - y))
      rw [<- Int.mul_sub,abs_mul h]
      ac_rfl
theorem step_sym (b:Bool) (x y:Int):stepI b y x = stepI b x y:=step_of (.inr rfl)
theorem far_sym (b:Bool):∀ p q:List Int,farI b q p = farI b p q
  | [],[]=>rfl
  | [],_ :: _=>rfl
  | _ :: _,[]=>rfl
  | x :: p,y :: q=>by rw [farI_cons,farI_cons,step_sym,far_sym b p q]
theorem far_self (b:Bool):∀ p:List Int,farI b p p = 0
  | []=>rfl
  | x :: p=>by
    rw [farI_cons,far_self b p]
    cases b
    · show absI (x - x) + 0 = 0
      rw [Int.sub_self];rfl
    · show absI (x - x) * absI (x - x) + 0 = 0
      rw [Int.sub_self];rfl
theorem sq_nonneg (x:Int):0 <= x * x:=by
  rcases Int.le_total 0 x with h | h
  · exact Int.mul_nonneg h h
  · have:=Int.mul_nonneg_of_nonpos_of_nonpos h h
    exact this
theorem step_nonneg (b:Bool) (x y:Int):0 <= stepI b x y:=by
  cases b
  · show 0 <= absI (x - y)
    unfold absI;split<;>omega
  · exact sq_nonneg _
theorem far_nonneg (b:Bool):∀ p q:List Int,0 <= farI b p q
  | [],_=>Int.le_refl _
  | _ :: _,[]=>Int.le_refl _
  | x :: p,y :: q=>by
    rw [farI_cons]
    have:=step_nonneg b x y
    have:=far_nonneg b p q
    omega
theorem abs_sq (x:Int):absI x * absI x = x * x:=by
  unfold absI
  split
  · rw [Int.neg_mul_neg]
  · rfl
theorem sq_le_far:∀ p q:List Int,farI true p q <= farI false p q * farI false p q
  | [],_=>Int.le_refl _
  | _ :: _,[]=>Int.le_refl _
  | x :: p,y :: q=>by
    rw [farI_cons,farI_cons]
    have ih:=sq_le_far p q
    have ha:=step_nonneg false x y
    have hb:=far_nonneg false p q
    have e:stepI false x y * stepI false x y = stepI true x y:=rfl
    generalize stepI false x y = a at *
    generalize farI false p q = c at *
    have hac:=Int.mul_nonneg ha hb
    have:(a + c) * (a + c) = a * a + 2 * (a * c) + c * c:=by
      rw [Int.add_mul,Int.mul_add,Int.mul_add,Int.mul_comm c a]
      omega
    omega
theorem far_zero:∀ p q:List Int,p.length = q.length -> farI true p q = 0 -> p = q
  | [],[],_,_=>rfl
  | x :: p,y :: q,h,z=>by
    rw [farI_cons] at z
    have h1:=step_nonneg true x y
    have h2:=far_nonneg true p q
    have s:absI (x - y) * absI (x - y) = 0:=show stepI true x y = 0 by omega
    rw [abs_sq] at s
    have:x - y = 0:=by rcases Int.mul_eq_zero.mp s with h | h<;>exact h
    rw [show x = y by omega,far_zero p q (by simpa using h) (by omega)]

noncomputable def aminN (f:Nat -> Int):Nat -> Int × Nat
  | 0=>(f 0,0)
  | n + 1=>if f (n + 1) < (aminN f n).1 then (f (n + 1),n + 1) else aminN f n
noncomputable def amaxN (f:Nat -> Int):Nat -> Int × Nat
  | 0=>(f 0,0)
  | n + 1=>if (amaxN f n).1 < f (n + 1) then (f (n + 1),n + 1) else amaxN f n
theorem amin_succ (f:Nat -> Int) (n:Nat):aminN f (n + 1) = if f (n + 1) < (aminN f n).1 then (f (n + 1),n + 1) else aminN f n:=rfl
theorem amax_succ (f:Nat -> Int) (n:Nat):amaxN f (n + 1) = if (amaxN f n).1 < f (n + 1) then (f (n + 1),n + 1) else amaxN f n:=rfl
theorem amin_is (f:Nat -> Int):∀ n,(aminN f n).2 <= n /\ (aminN f n).1 = f (aminN f n).2 /\ (∀ i,i <= n -> (aminN f n).1 <= f i) /\ ∀ i,i < (aminN f n).2 -> (aminN f n).1 < f i
  | 0=>⟨Nat.le_refl _,rfl,fun i hi=>by rw [Nat.le_zero.mp hi];exact Int.le_refl _,fun i hi=>absurd hi (Nat.not_lt_zero _)⟩
  | n + 1=>by
    obtain ⟨h1,h2,h3,h4⟩:=amin_is f n
    rw [amin_succ]
    split
    · rename_i hlt
      refine ⟨Nat.le_refl _,rfl,fun i hi=>?_,fun i hi=>?_⟩
      · by_cases e:i = n + 1
        · rw [e];exact Int.le_refl _
        · have:=h3 i (by omega);show f (n + 1) <= f i;omega
      · have hi:i < n + 1:=hi
        have:=h3 i (by omega);show f (n + 1) < f i;omega
    · rename_i hlt
      refine ⟨by omega,h2,fun i hi=>?_,h4⟩
      by_cases e:i = n + 1
      · rw [e];omega
      · exact h3 i (by omega)
theorem amax_is (f:Nat -> Int):∀ n,(amaxN f n).2 <= n /\ (amaxN f n).1 = f (amaxN f n).2 /\ (∀ i,i <= n -> f i <= (amaxN f n).1) /\ ∀ i,i < (amaxN f n).2 -> f i < (amaxN f n).1
  | 0=>⟨Nat.le_refl _,rfl,fun i hi=>by rw [Nat.le_zero.mp hi];exact Int.le_refl _,fun i hi=>absurd hi (Nat.not_lt_zero _)⟩
  | n + 1=>by
    obtain ⟨h1,h2,h3,h4⟩:=amax_is f n
    rw [amax_succ]
    split
    · rename_i hlt
      refine ⟨Nat.le_refl _,rfl,fun i hi=>?_,fun i hi=>?_⟩
      · by_cases e:i = n + 1
        · rw [e];exact Int.le_refl _
        · have:=h3 i (by omega);show f i <= f (n + 1);omega
      · have hi:i < n + 1:=hi
        have:=h3 i (by omega);show f i < f (n + 1);omega
    · rename_i hlt
      refine ⟨by omega,h2,fun i hi=>?_,h4⟩
      by_cases e:i = n + 1
      · rw [e];omega
      · exact h3 i (by omega)
noncomputable def seqI (f:Nat -> Int) (n:Nat):List D:=(List.range n).map fun i=>.int (f i)
theorem seqI_get {f:Nat -> Int} {n i:Nat} (h:i < n):(seqI f n)[i]? = some (.int (f i)):=by
  unfold seqI
  rw [List.getElem?_map,List.getElem?_range h];rfl
theorem seqI_len (f:Nat -> Int) (n:Nat):(seqI f n).length = n:=by unfold seqI;rw [List.length_map,List.length_range]
theorem seqI_isInt (f:Nat -> Int) (n:Nat):(seqI f n).all isInt = true:=by unfold seqI;rw [List.all_map];exact List.all_eq_true.mpr fun _ _=>rfl
theorem ltI_int (a b:Int):ltI (.int a) (.int b) = decide (a < b):=rfl
theorem seqI_succ (f:Nat -> Int) (n:Nat):seqI f (n + 1) = seqI f n ++ [.int (f n)]:=by unfold seqI;rw [List.range_succ,List.map_append];rfl
theorem best_snoc {xs:List D} {y m:D} (h:bestD xs = some m):bestD (xs ++ [y]) = some (if ltI y m = true then y else m):=by
  cases xs with
  | nil=>cases h
  | cons x xs =>
    have h:some (xs.foldl (fun b y=>if ltI y b = true then y else b) x) = some m:=h
    show some ((xs ++ [y]).foldl (fun b y=>if ltI y b = true then y else b) x) = _
    rw [List.foldl_append,Option.some.inj h];rfl
theorem maxB_snoc {xs:List D} {y m:D} (h:maxB xs = some m):maxB (xs ++ [y]) = some (if ltI m y = true then y else m):=by
  cases xs with
  | nil=>cases h
  | cons x xs =>
    have h:some (xs.foldl (fun b y=>if ltI b y = true then y else b) x) = some m:=h
    show some ((xs ++ [y]).foldl (fun b y=>if ltI b y = true then y else b) x) = _
    rw [List.foldl_append,Option.some.inj h];rfl
theorem best_seq (f:Nat -> Int):∀ n,bestD (seqI f (n + 1)) = some (.int (aminN f n).1)
  | 0=>rfl
  | n + 1=>by
    rw [seqI_succ,best_snoc (best_seq f n),ltI_int,amin_succ]
    by_cases e:f (n + 1) < (aminN f n).1
    · rw [if_pos (decide_eq_true e),if_pos e]
    · rw [if_neg (by rw [decide_eq_false e];decide),if_neg e]
theorem max_seq (f:Nat -> Int):∀ n,maxB (seqI f (n + 1)) = some (.int (amaxN f n).1)
  | 0=>rfl
  | n + 1=>by
    rw [seqI_succ,maxB_snoc (max_seq f n),ltI_int,amax_succ]
    by_cases e:(amaxN f n).1 < f (n + 1)
    · rw [if_pos (decide_eq_true e),if_pos e]
    · rw [if_neg (by rw [decide_eq_false e];decide),if_neg e]
theorem eqD_di (a b:Int):eqD (.int a) (.int b) = decide (a = b):=by
  unfold eqD
  by_cases h:a = b
  · simp [h]
  · simp [h]
noncomputable def seqP (f:Nat -> Int) (n:Nat):List D:=(List.range n).map fun i:Nat=>.tup [.int (f i),.int (i:Nat)]
theorem seqP_succ (f:Nat -> Int) (n:Nat):seqP f (n + 1) = seqP f n ++ [.tup [.int (f n),.int (n:Nat)]]:=by unfold seqP;rw [List.range_succ,List.map_append];rfl
theorem best_seqP (f:Nat -> Int):∀ n,bestD (seqP f (n + 1)) = some (.tup [.int (aminN f n).1,.int ((aminN f n).2:Nat)])
  | 0=>rfl
  | n + 1=>by
    rw [seqP_succ,best_snoc (best_seqP f n)]
    have hj:=(amin_is f n).1
    have e:ltI (.tup [.int (f (n + 1)),.int ((n + 1:Nat):Int)]) (.tup [.int (aminN f n).1,.int ((aminN f n).2:Nat)]) = decide (f (n + 1) < (aminN f n).1):=by
      show HT.lexLt [f (n + 1),((n + 1:Nat):Int)] [(aminN f n).1,((aminN f n).2:Int)] = _
      rw [HT.lexLt_cons,HT.lexLt_cons]
      by_cases e:f (n + 1) = (aminN f n).1
      · rw [if_pos e,if_neg (by omega),decide_eq_false (by omega),decide_eq_false (by omega)]
      · rw [if_neg e]
    rw [e,amin_succ]
    by_cases e:f (n + 1) < (aminN f n).1
    · rw [if_pos (decide_eq_true e),if_pos e]
    · rw [if_neg (by rw [decide_eq_false e];decide),if_neg e]

noncomputable def trD (t:Int × Nat × Nat):D:=.tup [.int t.1,.int (t.2.1:Nat),.int (t.2.2:Nat)]
theorem tr_ex {b:Bool} {pts:List (List Int)}:∀ l:List D,(∀ d ∈ l,∃ i j,d = pairD b pts i j) -> ∃ ts:List (Int × Nat × Nat),l = ts.map trD
  | [],_=>⟨[],rfl⟩
  | d :: l,h=>by
    obtain ⟨i,j,rfl⟩:=h d (List.mem_cons_self ..)
    obtain ⟨ts,e⟩:=tr_ex l fun x hx=>h x (List.mem_cons_of_mem _ hx)
    exact ⟨(_,i,j) :: ts,by rw [e];rfl⟩
theorem pairs_tr (b:Bool) (pts:List (List Int)):∃ ts:List (Int × Nat × Nat),pairsD b pts = ts.map trD:=tr_ex (b:=b) (pts:=pts) _ fun d hd=>by
  obtain ⟨p,q,_,_,h⟩:=pairs_mem hd
  exact ⟨p,q,h⟩
noncomputable def nearF (bound:Int):D -> Option D
  | .tup [.int f,.int i,.int j]=>if f <= bound then some (.tup [.int i,.int j]) else none
  | _=>none
theorem nearF_tr (bound:Int) (t:Int × Nat × Nat):nearF bound (trD t) = if decide (t.1 <= bound) = true then some (.tup [.int (t.2.1:Nat),.int (t.2.2:Nat)]) else none:=by
  show (if t.1 <= bound then _ else _) = _
  by_cases h:t.1 <= bound
  · rw [if_pos h,if_pos (decide_eq_true h)]
  · rw [if_neg h,if_neg (by rw [decide_eq_false h];decide)]
noncomputable def nearL (b:Bool) (pts:List (List Int)) (bound:Int):List D:=(pairsD b pts).filterMap (nearF bound)
noncomputable def ByPl (b:Bool) (pts:List (List Int)) (d d':D):Prop:=∃ i j i' j':Nat,d = pairD b pts i j /\ d' = pairD b pts i' j' /\ (i < i' \/ (i = i' /\ j < j'))
noncomputable def sp_nbound:FSp:=fun ds Q=>∃ j:Int,ds = [.int j] /\ 0 <= j /\ Q (.sh .non)
theorem p_nbound (ds:List D) (Q:B -> Prop) (h:sp_nbound ds Q):t_q14 { nx:=fun _=>Q (.sh .non),rt:=fun b _=>Q b } (startD N_q14.length ds):=by
  obtain ⟨j,rfl,hj,h⟩:=h
  unfold t_q14
  walk_at "vx"
  rw [if_neg (by omega)]
  exact h
noncomputable def sp_near:FSp:=fun ds Q=>∃ b n pts j,ds = [ptsD pts,wayD b,.int j] /\ Good n pts /\ pts.length <= 1000 /\ 0 <= j /\ Q (.own (nearL b pts j))
theorem p_near (ds:List D) (Q:B -> Prop) (h:sp_near ds Q):t_q13 sp_npw sp_nbound sp_pairs { nx:=fun _=>Q (.sh .non),rt:=fun b _=>Q b } (startD N_q13.length ds):=by
  obtain ⟨b,n,pts,j,rfl,hg,hl,hj,h⟩:=h
  unfold t_q13
  refine tSq_step fun N hN=>?_
  walk_at "vx"
  refine ⟨n,b,pts,rfl,hg.shape,?_⟩
  walk_at "vx"
  subst hN
  refine tSq_step fun N hN=>?_
  walk_at "vx"
  refine ⟨j,rfl,hj,?_⟩
  walk_at "vx"
  subst hN
  walk_at "vx"
  refine ⟨b,n,pts,rfl,hg,hl,?_⟩
  walk_at "vx"
  have hz:=pairs_le (b:=b) hl
  obtain ⟨ts,e⟩:=pairs_tr b pts
  unfold nearL at h
  rw [e] at h hz ⊢
  rw [List.length_map] at hz
  refine compD_on trD (fun t=>nearF j (trD t)) ts (fun t ht A Bn ha=>?_) (by rw [sz];omega) ?_
  · rw [nearF_tr] at ha
    unfold trD
    walk_at "vx"
    by_cases hb:t.1 <= j
    · rw [if_pos (decide_eq_true hb)] at ha
      refine (if_pos hb).mpr ⟨by decide,ha⟩
    · rw [if_neg (by rw [decide_eq_false hb];decide)] at ha
      exact (if_neg hb).mpr ha
  · rw [List.filterMap_map] at h
    exact h

noncomputable def hasK (k:Nat):D -> Bool
  | .tup [.int i,.int j]=>decide (i = k) || decide (j = k)
  | _=>false
noncomputable def nearK (bound:Int) (k:Nat) (d:D):Bool:=((nearF bound d).map (hasK k)).getD false
noncomputable def cntL (n:Nat) (c:Nat -> Nat):List D:=(List.range n).map fun k=>.int (c k:Nat)
theorem cntL_len (n:Nat) (c:Nat -> Nat):(cntL n c).length = n:=by unfold cntL;rw [List.length_map,List.length_range]
theorem cntL_get {n k:Nat} (c:Nat -> Nat) (h:k < n):(cntL n c)[k]? = some (.int (c k:Nat)):=by
  unfold cntL;rw [List.getElem?_map,List.getElem?_range h];rfl
theorem cntL_set {n k:Nat} (c:Nat -> Nat) (m:Nat) (h:k < n):(cntL n c).set k (.int (m:Nat)) = cntL n fun x=>if x = k then m else c x:=by
  apply List.ext_getElem?
  intro i
  by_cases hi:i < n
  · rw [cntL_get _ hi]
    by_cases e:i = k
    · subst e
      rw [List.getElem?_set_self (by rw [cntL_len];exact hi),if_pos rfl]
    · rw [List.getElem?_set_ne (Ne.symm e),cntL_get _ hi,if_neg e]
  · rw [List.getElem?_eq_none (by rw [List.length_set,cntL_len];omega),List.getElem?_eq_none (by rw [cntL_len];omega)]
theorem cntL_congr {n:Nat} {c c':Nat -> Nat} (h:∀ k,k < n -> c k = c' k):cntL n c = cntL n c':=by
  unfold cntL
  refine List.map_congr_left fun k hk=>?_
  rw [h k (List.mem_range.mp hk)]
noncomputable def countsD (b:Bool) (pts:List (List Int)) (bound:Int):List D:=cntL pts.length fun k=>(pairsD b pts).countP (nearK bound k)
theorem cnt_two {n i j:Nat} (c:Nat -> Nat) (hi:i < n) (hj:j < n) (hij:i ≠ j) (e:Nat) :
    ((cntL n c).set i (.int ((c i + e:Nat):Int))).set j (.int ((c j + e:Nat):Int)) = cntL n fun x=>c x + if x = i \/ x = j then e else 0:=by
  rw [cntL_set c _ hi,cntL_set _ _ hj]
  refine cntL_congr fun k _=>?_
  by_cases h1:k = j
  · subst h1;rw [if_pos rfl,if_pos (.inr rfl)]
  · rw [if_neg h1]
    by_cases h2:k = i
    · subst h2;rw [if_pos rfl,if_pos (.inl rfl)]
    · rw [if_neg h2,if_neg (by omega),Nat.add_zero]
noncomputable def sp_counts:FSp:=fun ds Q=>∃ b n pts j,ds = [ptsD pts,wayD b,.int j] /\ Good n pts /\ pts.length <= 1000 /\ 0 <= j /\ Q (.own (countsD b pts j))
theorem near_pr (b:Bool) (pts:List (List Int)) (bound:Int):∃ ps:List (Nat × Nat),nearL b pts bound = ps.map (fun p=>D.tup [.int (p.1:Nat),.int (p.2:Nat)]) /\ ∀ p ∈ ps,p.1 < p.2 /\ p.2 < pts.length:=by
  have:∀ l:List D,(∀ d ∈ l,∃ p:Nat × Nat,d = .tup [.int (p.1:Nat),.int (p.2:Nat)] /\ p.1 < p.2 /\ p.2 < pts.length) -> ∃ ps:List (Nat × Nat),l = ps.map (fun p=>D.tup [.int (p.1:Nat),.int (p.2:Nat)]) /\ ∀ p ∈ ps,p.1 < p.2 /\ p.2 < pts.length:=by
    intro l
    induction l with
    | nil=>intro _;exact ⟨[],rfl,fun p hp=>by cases hp⟩
    | cons d l ih =>
      intro h
      obtain ⟨p,rfl,hp⟩:=h d (List.mem_cons_self ..)
      obtain ⟨ps,e,hps⟩:=ih fun x hx=>h x (List.mem_cons_of_mem _ hx)
      refine ⟨p :: ps,by rw [e];rfl,fun x hx=>?_⟩
      rcases List.mem_cons.mp hx with rfl | hx
      · exact hp
      · exact hps x hx
  refine this _ fun d hd=>?_
  obtain ⟨x,hx,h⟩:=List.mem_filterMap.mp hd
  obtain ⟨p,q,h1,h2,rfl⟩:=pairs_mem hx
  have:(if farI b (pts.getD p []) (pts.getD q []) <= bound then some (D.tup [.int (p:Nat),.int (q:Nat)]) else none) = some d:=h
  split at this
  · exact ⟨(p,q),(Option.some.inj this).symm,h1,h2⟩
  · cases this
theorem near_count (b:Bool) (pts:List (List Int)) (bound:Int) (k:Nat):(nearL b pts bound).countP (hasK k) = (pairsD b pts).countP (nearK bound k):=by
  unfold nearL
  rw [List.countP_filterMap]
  rfl
theorem hasK_pr (k i j:Nat):hasK k (.tup [.int (i:Nat),.int (j:Nat)]) = decide (k = i \/ k = j):=by
  show (decide ((i:Int) = (k:Int)) || decide ((j:Int) = (k:Int))) = _
  by_cases h1:k = i
  · subst h1;rw [decide_eq_true rfl,Bool.true_or,decide_eq_true (.inl rfl)]
  · rw [decide_eq_false (by omega),Bool.false_or]
    by_cases h2:k = j
    · subst h2;rw [decide_eq_true rfl,decide_eq_true (.inr rfl)]
    · rw [decide_eq_false (by omega),decide_eq_false (by omega)]
theorem p_counts (ds:List D) (Q:B -> Prop) (h:sp_counts ds Q):t_q10 sp_near { nx:=fun _=>Q (.sh .non),rt:=fun b _=>Q b } (startD N_q10.length ds):=by
  obtain ⟨b,n,pts,bd,rfl,hg,hl,hj,h⟩:=h
  unfold t_q10
  refine tSq_step fun N hN=>?_
  rw [show ptsD pts = .lst (pts.map ptD) from rfl]
  walk_at "vx"
  refine compD_onM ptD (fun _=>.int 0) pts (fun p hp A ha=>?_) (by rw [sz];omega) ?_
  · walk_at "vx"
    exact ha
  rw [show pts.map (fun _=>D.int 0) = cntL pts.length fun _=>0 from by unfold cntL;rw [List.map_const',List.map_const',List.length_range];rfl]
  subst hN
  try dsimp only
  refine tSq_step fun N hN=>?_
  walk_at "vx"
  refine ⟨b,n,pts,bd,rfl,hg,hl,hj,?_⟩
  obtain ⟨ps,e,hps⟩:=near_pr b pts bd
  have hc:=near_count b pts bd
  rw [e] at hc ⊢
  walk_at "vx"
  refine forD_on (fun p:Nat × Nat=>D.tup [.int (p.1:Nat),.int (p.2:Nat)]) ps (fun i σ=>∃ x4 x5,σ = [some (.sh (.lst (pts.map ptD))),some (.sh (wayD b)),some (.sh (.int bd)),some (.own (cntL pts.length fun k=>((ps.take i).map fun p:Nat × Nat=>D.tup [.int (p.1:Nat),.int (p.2:Nat)]).countP (hasK k))),x4,x5]) (fun i p σ N' hx hI hN'=>?_) (fun σ hI=>?_) ⟨none,none,rfl⟩
  · obtain ⟨x4,x5,rfl⟩:=hI
    obtain ⟨h1,h2⟩:=hps p (List.mem_of_getElem? hx)
    obtain ⟨p1,p2⟩:=p
    have h1:p1 < p2:=h1
    have h2:p2 < pts.length:=h2
    walk_at "vg"
    walk_at "vx"
    have hs:∀ k,((ps.take (i + 1)).map fun p:Nat × Nat=>D.tup [.int (p.1:Nat),.int (p.2:Nat)]).countP (hasK k) = ((ps.take i).map fun p:Nat × Nat=>D.tup [.int (p.1:Nat),.int (p.2:Nat)]).countP (hasK k) + if k = p1 \/ k = p2 then 1 else 0:=fun k=>by
      rw [List.take_add_one,hx,List.map_append,List.countP_append]
      congr 1
      show [D.tup [.int (p1:Nat),.int (p2:Nat)]].countP (hasK k) = _
      rw [List.countP_singleton,hasK_pr]
      by_cases hk:k = p1 \/ k = p2
      · rw [if_pos hk,if_pos (decide_eq_true hk)]
      · rw [if_neg hk,if_neg (by rw [decide_eq_false hk];decide)]
    obtain ⟨c,ec⟩:∃ c:Nat -> Nat,c = fun k=>((ps.take i).map fun p:Nat × Nat=>D.tup [.int (p.1:Nat),.int (p.2:Nat)]).countP (hasK k):=⟨_,rfl⟩
    have hs':(cntL pts.length fun k=>((ps.take (i + 1)).map fun p:Nat × Nat=>D.tup [.int (p.1:Nat),.int (p.2:Nat)]).countP (hasK k)) = cntL pts.length fun k=>c k + if k = p1 \/ k = p2 then 1 else 0:=cntL_congr fun k _=>by rw [hs k,ec]
    rw [<- ec]
    rw [Int.toNat_natCast,Int.toNat_natCast,cntL_get _ (show p1 < pts.length by omega)]
    dsimp only
    rw [List.getElem?_set_ne (by omega),cntL_get _ h2]
    dsimp only
    refine ⟨⟨_,rfl⟩,by omega,⟨_,rfl⟩,by omega,hN' _ ⟨some (.sh (.int (p1:Nat))),some (.sh (.int (p2:Nat))),?_⟩⟩
    rw [hs',<- cnt_two c (show p1 < pts.length by omega) h2 (by omega) 1]
    rfl
  · obtain ⟨x4,x5,rfl⟩:=hI
    subst hN
    walk_at "vx"
    unfold countsD at h
    rw [List.take_length]
    rw [cntL_congr fun k _=>hc k]
    exact h

noncomputable def sp_nplace:FSp:=fun ds Q=>∃ pts j,ds = [ptsD pts,.int (j:Nat)] /\ j < pts.length /\ Q (.sh .non)
theorem p_nplace (ds:List D) (Q:B -> Prop) (h:sp_nplace ds Q):t_q16 { nx:=fun _=>Q (.sh .non),rt:=fun b _=>Q b } (startD N_q16.length ds):=by
  obtain ⟨pts,j,rfl,hj,h⟩:=h
  unfold t_q16 ptsD
  walk_at "vx"
  rw [List.length_map]
  rw [if_neg (by omega),if_neg (by omega)]
  exact h
noncomputable def sp_how:FSp:=fun ds Q=>∃ b n pts i j,ds = [ptsD pts,wayD b,.int (i:Nat),.int (j:Nat)] /\ Good n pts /\ i < pts.length /\ j < pts.length /\ Q (.sh (.int (farI b (pts.getD i []) (pts.getD j []))))
theorem p_how (ds:List D) (Q:B -> Prop) (h:sp_how ds Q):t_q23 sp_npw sp_nplace sp_far { nx:=fun _=>Q (.sh .non),rt:=fun b _=>Q b } (startD N_q23.length ds):=by
  obtain ⟨b,n,pts,i,j,rfl,hg,hi,hj,h⟩:=h
  unfold t_q23
  walk_at "vx"
  refine ⟨n,b,pts,rfl,hg.shape,?_⟩
  walk_at "vx"
  refine ⟨pts,i,rfl,hi,?_⟩
  walk_at "vx"
  refine ⟨pts,j,rfl,hj,?_⟩
  rw [show ptsD pts = .lst (pts.map ptD) from rfl]
  walk_at "vx"
  refine ix_lst_at (n:=i) rfl (pts_get hi) ?_
  refine ix_lst_at (n:=j) rfl (pts_get hj) ?_
  walk_at "vx"
  exact ⟨b,_,_,rfl,hg.bd (getD_mem hi),hg.bd (getD_mem hj),h⟩

theorem eqD_nat (i k:Nat):eqD (.int (i:Int)) (.int (k:Int)) = decide (i = k):=by
  by_cases h:i = k
  · subst h;simp [eqD]
  · have:¬ ((i:Int) = (k:Int)):=by omega
    simp [eqD,h,this]
noncomputable def stepF:D -> D -> D
  | .non,y=>y
  | b,y=>if decide (firstI b < firstI y) = true then y else b
noncomputable def fbD (xs:List D):D:=xs.foldl stepF .non
theorem fb_snoc (xs:List D) (y:D):fbD (xs ++ [y]) = stepF (fbD xs) y:=by unfold fbD;rw [List.foldl_append];rfl
theorem step_head {b y:D} (h:headed b = true):stepF b y = if decide (firstI b < firstI y) = true then y else b:=by
  cases b with
  | non=>cases h
  | _=>rfl
theorem fb_best {xs:List D} (h:xs.all headed = true):fbD xs = bestF xs:=by
  have key:∀ (l:List D) (b:D),headed b = true -> l.all headed = true -> l.foldl stepF b = l.foldl (fun b y=>if decide (firstI b < firstI y) = true then y else b) b:=by
    intro l
    induction l with
    | nil=>intro b _ _;rfl
    | cons y l ih =>
      intro b hb hl
      rw [List.all_cons,Bool.and_eq_true] at hl
      rw [List.foldl_cons,List.foldl_cons,step_head hb]
      refine ih _ ?_ hl.2
      split
      · exact hl.1
      · exact hb
  cases xs with
  | nil=>rfl
  | cons x xs =>
    rw [List.all_cons,Bool.and_eq_true] at h
    exact key xs x h.1 h.2
noncomputable def tupD (q:Nat × Int):D:=.tup [.int q.2,.int (q.1:Nat)]
theorem headed_tup (l:List (Nat × Int)):(l.map tupD).all headed = true:=List.all_eq_true.mpr fun d hd=>by
  obtain ⟨q,_,rfl⟩:=List.mem_map.mp hd
  rfl
noncomputable def offD (own:Nat) (q:Nat × Int):Option (Nat × Int):=if q.1 ≠ own then some q else none
noncomputable def foD (ns:List Int) (own:Nat):D:=fbD (((ns.mapIdx fun i x=>(i,x)).filterMap (offD own)).map tupD)
noncomputable def farsI (b:Bool) (pts:List (List Int)) (p:List Int):List Int:=pts.map fun q=>farI b p q
noncomputable def sp_fars:FSp:=fun ds Q=>∃ b n pts,∃ i:Nat,ds = [ptsD pts,wayD b,.int (i:Int)] /\ Good n pts /\ pts.length <= 1000 /\ i < pts.length /\ Q (.own ((farsI b pts (pts.getD i [])).map D.int))
theorem p_fars (ds:List D) (Q:B -> Prop) (h:sp_fars ds Q):t_q22 sp_far { nx:=fun _=>Q (.sh .non),rt:=fun b _=>Q b } (startD N_q22.length ds):=by
  obtain ⟨b,n,pts,i,rfl,hg,hl,hi,h⟩:=h
  unfold t_q22
  rw [show ptsD pts = .lst (pts.map ptD) from rfl]
  walk_at "vx"
  refine compD_onM ptD (fun p=>.int (farI b (pts.getD i []) p)) pts (fun p hp A ha=>?_) (by rw [sz];omega) ?_
  · walk_at "vx"
    refine ix_lst_at (n:=i) rfl (pts_get hi) ?_
    walk_at "vx"
    refine ⟨b,_,_,rfl,hg.bd (getD_mem hi),hg.bd hp,?_⟩
    walk_at "vx"
    exact ha
  · unfold farsI at h
    rw [List.map_map] at h
    exact h
theorem pairs_headed (b:Bool) (pts:List (List Int)):(pairsD b pts).all headed = true:=List.all_eq_true.mpr fun d hd=>by
  obtain ⟨p,q,_,_,rfl⟩:=pairs_mem hd
  rfl
noncomputable def sp_f2:FSp:=fun ds Q=>∃ b n pts,ds = [ptsD pts,wayD b] /\ Good n pts /\ pts.length <= 1000 /\ Q (.sh (fbD (pairsD b pts)))
theorem p_f2 (ds:List D) (Q:B -> Prop) (h:sp_f2 ds Q):t_q7 sp_npw spG sp_pairs { nx:=fun _=>Q (.sh .non),rt:=fun b _=>Q b } (startD N_q7.length ds):=by
  obtain ⟨b,n,pts,rfl,hg,hl,h⟩:=h
  unfold t_q7
  refine tSq_step fun N hN=>?_
  walk_at "vx"
  refine ⟨n,b,pts,rfl,hg.shape,?_⟩
  walk_at "vx"
  subst hN
  walk_at "vx"
  refine ⟨b,n,pts,rfl,hg,hl,?_⟩
  walk_at "vx"
  rw [fb_best (pairs_headed b pts)] at h
  exact ⟨_,rfl,pairs_headed b pts,h⟩
noncomputable def sp_fo:FSp:=fun ds Q=>∃ b n pts,∃ i:Nat,ds = [ptsD pts,wayD b,.int (i:Int)] /\ Good n pts /\ pts.length <= 1000 /\ i < pts.length /\ Q (.sh (foD (farsI b pts (pts.getD i [])) i))
theorem p_fo (ds:List D) (Q:B -> Prop) (h:sp_fo ds Q):t_q9 sp_npw sp_nplace sp_fars spG { nx:=fun _=>Q (.sh .non),rt:=fun b _=>Q b } (startD N_q9.length ds):=by
  obtain ⟨b,n,pts,i,rfl,hg,hl,hi,h⟩:=h
  unfold t_q9
  refine tSq_step fun N hN=>?_
  walk_at "vx"
  refine ⟨n,b,pts,rfl,hg.shape,?_⟩
  walk_at "vx"
  subst hN
  refine tSq_step fun N hN=>?_
  walk_at "vx"
  refine ⟨pts,i,rfl,hi,?_⟩
  walk_at "vx"
  subst hN
  refine tSq_step fun N hN=>?_
  walk_at "vx"
  refine ⟨b,n,pts,i,rfl,hg,hl,hi,?_⟩
  walk_at "vx"
  subst hN
  walk_at "vx"
  rw [enumD_map]
  refine compD_on (fun q:Nat × Int=>.tup [.int (q.1:Nat),.int q.2]) (fun q=>(offD i q).map tupD) _ (fun q _ A Bn ha=>?_) (by rw [List.length_mapIdx];unfold farsI;rw [List.length_map,sz];omega) ?_
  · obtain ⟨j,f⟩:=q
    walk_at "vg"
    walk_at "vx"
    refine ⟨⟨rfl,rfl⟩,?_⟩
    rw [eqD_nat]
    unfold offD at ha
    dsimp only at ha
    by_cases e:j = i
    · rw [if_neg (by simp [e])] at ha
      exact (if_neg (by rw [decide_eq_true e];decide)).mpr ha
    · rw [if_pos e] at ha
      exact (if_pos (by rw [decide_eq_false e])).mpr ⟨by decide,ha⟩
  · walk_at "vx"
    rw [<- List.map_filterMap]
    unfold foD at h
    rw [fb_best (headed_tup _)] at h
    exact ⟨_,rfl,headed_tup _,h⟩

noncomputable def fF (b:Bool) (pts:List (List Int)) (i j:Nat):Int:=farI b (pts.getD i []) (pts.getD j [])
theorem map_seq {α:Type} [Inhabited α] (f:α -> Int) (d:α) (l:List α):(l.map fun x=>D.int (f x)) = seqI (fun i=>f (l.getD i d)) l.length:=by
  apply List.ext_getElem?
  intro i
  by_cases h:i < l.length
  · rw [seqI_get h,List.getElem?_map,List.getD_eq_getElem?_getD,List.getElem?_eq_getElem h];rfl
  · rw [List.getElem?_eq_none (by rw [List.length_map];omega),List.getElem?_eq_none (by rw [seqI_len];omega)]
theorem fars_seq (b:Bool) (pts:List (List Int)) (i:Nat):(farsI b pts (pts.getD i [])).map D.int = seqI (fF b pts i) pts.length:=by
  unfold farsI
  rw [List.map_map]
  exact map_seq (fun q=>farI b (pts.getD i []) q) [] pts
theorem nearK_pair (b:Bool) (pts:List (List Int)) (bd:Int) (k i j:Nat):nearK bd k (pairD b pts i j) = (decide (fF b pts i j <= bd) && decide (k = i \/ k = j)):=by
  unfold nearK
  have e:nearF bd (pairD b pts i j) = if fF b pts i j <= bd then some (.tup [.int (i:Nat),.int (j:Nat)]) else none:=rfl
  rw [e]
  by_cases h:fF b pts i j <= bd
  · rw [if_pos h,decide_eq_true h,Bool.true_and]
    rw [Option.map_some,Option.getD_some]
    exact hasK_pr k i j
  · rw [if_neg h,decide_eq_false h,Bool.false_and];rfl
theorem count_one (P:Nat -> Bool) (t0:Nat):∀ m,(List.range m).countP (fun t=>P t && decide (t = t0)) = if t0 < m /\ P t0 = true then 1 else 0
  | 0=>by simp
  | m + 1=>by
    rw [List.range_succ,List.countP_append,count_one P t0 m,List.countP_singleton]
    by_cases h:m = t0
    · subst h
      rw [if_neg (by omega),decide_eq_true rfl,Bool.and_true]
      by_cases hp:P m = true
      · rw [if_pos hp,if_pos ⟨Nat.lt_succ_self _,hp⟩]
      · rw [if_neg hp,if_neg (fun z=>hp z.2)]
    · rw [decide_eq_false h,Bool.and_false,if_neg (show ¬ false = true by decide),Nat.add_zero]
      by_cases hc:t0 < m /\ P t0 = true
      · rw [if_pos hc,if_pos ⟨by omega,hc.2⟩]
      · rw [if_neg hc,if_neg (fun z=>hc ⟨by omega,z.2⟩)]
theorem row_count (b:Bool) (pts:List (List Int)) (bd:Int) (k i:Nat) (hk:k < pts.length):(rowD b pts i (pts.length - (i + 1))).countP (nearK bd k) =
    if i < k then (if fF b pts i k <= bd then 1 else 0) else if i = k then (List.range (pts.length - (k + 1))).countP (fun t=>decide (fF b pts k (k + 1 + t) <= bd)) else 0:=by
  unfold rowD
  rw [List.countP_map]
  have e:((nearK bd k) ∘ fun t=>pairD b pts i (i + 1 + t)) = fun t=>decide (fF b pts i (i + 1 + t) <= bd) && decide (k = i \/ k = i + 1 + t):=funext fun t=>nearK_pair b pts bd k i _
  rw [e]
  by_cases h1:i < k
  · rw [if_pos h1]
    have e2:(fun t=>decide (fF b pts i (i + 1 + t) <= bd) && decide (k = i \/ k = i + 1 + t)) = fun t=>decide (fF b pts i (i + 1 + t) <= bd) && decide (t = k - (i + 1)):=funext fun t=>by
      congr 1
      exact decide_eq_decide.mpr ⟨fun z=>by omega,fun z=>by omega⟩
    rw [e2,count_one (fun t=>decide (fF b pts i (i + 1 + t) <= bd))]
    by_cases hf:fF b pts i k <= bd
    · rw [if_pos hf,if_pos ⟨by omega,by rw [show i + 1 + (k - (i + 1)) = k by omega];exact decide_eq_true hf⟩]
    · rw [if_neg hf,if_neg (fun z=>hf (by have:=z.2;rw [show i + 1 + (k - (i + 1)) = k by omega] at this;exact of_decide_eq_true this))]
  · rw [if_neg h1]
    by_cases h2:i = k
    · subst h2
      rw [if_pos rfl]
      refine congrArg (fun g=>List.countP g _) (funext fun t=>?_)
      rw [decide_eq_true (p:=i = i \/ i = i + 1 + t) (.inl rfl),Bool.and_true]
    · rw [if_neg h2]
      rw [List.countP_eq_zero]
      intro t _
      rw [decide_eq_false (p:=k = i \/ k = i + 1 + t) (by omega),Bool.and_false]
      decide
theorem rows_count (b:Bool) (pts:List (List Int)) (bd:Int) (k:Nat) (hk:k < pts.length):∀ i,(rowsD b pts i).countP (nearK bd k) =
    (List.range i).countP (fun p=>decide (p < k) && decide (fF b pts p k <= bd)) + if k < i then (List.range (pts.length - (k + 1))).countP (fun t=>decide (fF b pts k (k + 1 + t) <= bd)) else 0
  | 0=>rfl
  | i + 1=>by
    show (rowsD b pts i ++ rowD b pts i (pts.length - (i + 1))).countP _ = _
    rw [List.countP_append,rows_count b pts bd k hk i,row_count b pts bd k i hk,List.range_succ,List.countP_append,List.countP_singleton]
    by_cases h1:i < k
    · rw [if_pos h1,if_neg (show ¬ k < i by omega),if_neg (show ¬ k < i + 1 by omega),decide_eq_true h1,Bool.true_and]
      by_cases hf:fF b pts i k <= bd
      · rw [if_pos hf,if_pos (decide_eq_true hf)]
      · rw [if_neg hf,if_neg (by rw [decide_eq_false hf];decide)]
    · rw [if_neg h1,decide_eq_false h1,Bool.false_and,if_neg (show ¬ false = true by decide)]
      by_cases h2:i = k
      · subst h2
        rw [if_pos rfl,if_neg (Nat.lt_irrefl _),if_pos (Nat.lt_succ_self _)]
      · rw [if_neg h2,if_pos (show k < i by omega),if_pos (show k < i + 1 by omega)];omega
theorem count_split (f:Nat -> Bool) (k n:Nat) (hk:k < n):(List.range n).countP f = (List.range k).countP f + (if f k = true then 1 else 0) + (List.range (n - (k + 1))).countP (fun t=>f (k + 1 + t)):=by
  have e:n = (k + 1) + (n - (k + 1)):=by omega
  have h:List.range n = List.range (k + 1) ++ (List.range (n - (k + 1))).map (fun t=>k + 1 + t):=by
    conv=>lhs;rw [e]
    rw [List.range_add]
  rw [h,List.countP_append,List.countP_map,List.range_succ,List.countP_append,List.countP_singleton]
  rfl
theorem cnt_row (b:Bool) (pts:List (List Int)) {bd:Int} (h0:0 <= bd) {k:Nat} (hk:k < pts.length):(pairsD b pts).countP (nearK bd k) + 1 = (List.range pts.length).countP (fun j=>decide (fF b pts k j <= bd)):=by
  unfold pairsD
  rw [rows_count b pts bd k hk,if_pos hk,count_split _ k _ hk,count_split _ k _ hk]
  have e1:(List.range k).countP (fun p=>decide (p < k) && decide (fF b pts p k <= bd)) = (List.range k).countP (fun j=>decide (fF b pts k j <= bd)):=by
    refine List.countP_congr fun p hp=>?_
    rw [decide_eq_true (List.mem_range.mp hp),Bool.true_and]
    unfold fF
    rw [far_sym]
  have e2:(List.range (pts.length - (k + 1))).countP (fun t=>decide (k + 1 + t < k) && decide (fF b pts (k + 1 + t) k <= bd)) = 0:=by
    rw [List.countP_eq_zero]
    intro t _
    rw [decide_eq_false (p:=k + 1 + t < k) (by omega),Bool.false_and]
    decide
  rw [e1,e2,decide_eq_false (p:=k < k) (by omega),Bool.false_and,if_neg (show ¬ false = true by decide),if_pos (decide_eq_true (show fF b pts k k <= bd by unfold fF;rw [far_self];exact h0))]
  omega
noncomputable def rowMax (b:Bool) (pts:List (List Int)) (i:Nat):Int:=(amaxN (fF b pts i) (pts.length - 1)).1
noncomputable def rowSum (b:Bool) (pts:List (List Int)) (i:Nat):Int:=((seqI (fF b pts i) pts.length).map intV).sum
noncomputable def leastD (f:Nat -> Int) (n:Nat):D:=if n = 0 then .non else .tup [.int (aminN f (n - 1)).1,.int ((aminN f (n - 1)).2:Nat)]
noncomputable def mostD (f:Nat -> Int) (n:Nat):D:=if n = 0 then .non else .tup [.int (amaxN f (n - 1)).1,.int ((amaxN f (n - 1)).2:Nat)]
theorem best_least (f:Nat -> Int) (n:Nat):(bestD (seqP f n)).getD .non = leastD f n:=by
  unfold leastD
  cases n with
  | zero=>rfl
  | succ n=>rw [best_seqP,if_neg (Nat.succ_ne_zero n)];rfl
theorem seqP_headed (f:Nat -> Int) (n:Nat):(seqP f n).all headed = true:=List.all_eq_true.mpr fun d hd=>by
  obtain ⟨i,_,rfl⟩:=List.mem_map.mp hd
  rfl
theorem seqP_intTup (f:Nat -> Int) (n:Nat):(seqP f n).all intTup = true:=List.all_eq_true.mpr fun d hd=>by
  obtain ⟨i,_,rfl⟩:=List.mem_map.mp hd
  rfl
theorem fb_seqP (f:Nat -> Int):∀ n,fbD (seqP f (n + 1)) = .tup [.int (amaxN f n).1,.int ((amaxN f n).2:Nat)]
  | 0=>rfl
  | n + 1=>by
    rw [seqP_succ,fb_snoc,fb_seqP f n,step_head rfl,amax_succ]
    show (if decide ((amaxN f n).1 < f (n + 1)) = true then _ else _) = _
    by_cases e:(amaxN f n).1 < f (n + 1)
    · rw [if_pos (decide_eq_true e),if_pos e]
    · rw [if_neg (by rw [decide_eq_false e];decide),if_neg e]
theorem best_most (f:Nat -> Int) (n:Nat):bestF (seqP f n) = mostD f n:=by
  rw [<- fb_best (seqP_headed f n)]
  unfold mostD
  cases n with
  | zero=>rfl
  | succ n=>rw [fb_seqP,if_neg (Nat.succ_ne_zero n)];rfl
theorem max_row {f:Nat -> Int} {n:Nat} (h:0 < n):(maxB (seqI f n)).getD .non = .int (amaxN f (n - 1)).1:=by
  obtain ⟨m,rfl⟩:∃ m,n = m + 1:=⟨n - 1,by omega⟩
  rw [max_seq];rfl
theorem min_row {f:Nat -> Int} {n:Nat} (h:0 < n):(bestD (seqI f n)).getD .non = .int (aminN f (n - 1)).1:=by
  obtain ⟨m,rfl⟩:∃ m,n = m + 1:=⟨n - 1,by omega⟩
  rw [best_seq];rfl
theorem seq_ne {f:Nat -> Int} {n:Nat} (h:0 < n):seqI f n ≠ []:=fun z=>by
  have:=seqI_len f n
  rw [z] at this
  exact absurd this (by show ¬ 0 = n;omega)
noncomputable def sp_mid:FSp:=fun ds Q=>∃ b n pts,ds = [ptsD pts,wayD b] /\ Good n pts /\ pts.length <= 1000 /\ Q (.sh (leastD (rowMax b pts) pts.length))
theorem p_mid (ds:List D) (Q:B -> Prop) (h:sp_mid ds Q):t_q25 sp_npw sp_fars { nx:=fun _=>Q (.sh .non),rt:=fun b _=>Q b } (startD N_q25.length ds):=by
  obtain ⟨b,n,pts,rfl,hg,hl,h⟩:=h
  unfold t_q25
  refine tSq_step fun N hN=>?_
  walk_at "vx"
  refine ⟨n,b,pts,rfl,hg.shape,?_⟩
  walk_at "vx"
  subst hN
  rw [show ptsD pts = .lst (pts.map ptD) from rfl]
  walk_at "vx"
  rw [List.length_map,Int.toNat_natCast,rngD_map]
  refine ⟨by omega,compD_onM (fun i:Nat=>D.int (0 + (i:Nat))) (fun i:Nat=>.tup [.int (rowMax b pts i),.int (i:Nat)]) _ (fun i hm A ha=>?_) (by rw [List.length_range,sz];omega) ?_⟩
  · have hi:=List.mem_range.mp hm
    walk_at "vg"
    walk_at "vx"
    refine ⟨b,n,pts,i,rfl,hg,hl,hi,?_⟩
    rw [fars_seq]
    walk_at "vx"
    rw [max_row (by omega)]
    exact ⟨⟨seqI_isInt _ _,seq_ne (by omega)⟩,by decide,ha⟩
  · walk_at "vx"
    refine ⟨.inr (seqP_intTup (rowMax b pts) pts.length),?_⟩
    have e:=best_least (rowMax b pts) pts.length
    unfold seqP at e
    rw [e]
    exact h
noncomputable def sp_sums:FSp:=fun ds Q=>∃ b n pts,ds = [ptsD pts,wayD b] /\ Good n pts /\ pts.length <= 1000 /\ Q (.sh (leastD (rowSum b pts) pts.length))
theorem p_sums (ds:List D) (Q:B -> Prop) (h:sp_sums ds Q):t_q17 sp_npw sp_fars { nx:=fun _=>Q (.sh .non),rt:=fun b _=>Q b } (startD N_q17.length ds):=by
  obtain ⟨b,n,pts,rfl,hg,hl,h⟩:=h
  unfold t_q17
  refine tSq_step fun N hN=>?_
  walk_at "vx"
  refine ⟨n,b,pts,rfl,hg.shape,?_⟩
  walk_at "vx"
  subst hN
  rw [show ptsD pts = .lst (pts.map ptD) from rfl]
  walk_at "vx"
  rw [List.length_map,Int.toNat_natCast,rngD_map]
  refine ⟨by omega,compD_onM (fun i:Nat=>D.int (0 + (i:Nat))) (fun i:Nat=>.tup [.int (rowSum b pts i),.int (i:Nat)]) _ (fun i hm A ha=>?_) (by rw [List.length_range,sz];omega) ?_⟩
  · have hi:=List.mem_range.mp hm
    walk_at "vg"
    walk_at "vx"
    refine ⟨b,n,pts,i,rfl,hg,hl,hi,?_⟩
    rw [fars_seq]
    walk_at "vx"
    exact ⟨seqI_isInt _ _,by decide,ha⟩
  · walk_at "vx"
    refine ⟨.inr (seqP_intTup (rowSum b pts) pts.length),?_⟩
    have e:=best_least (rowSum b pts) pts.length
    unfold seqP at e
    rw [e]
    exact h
noncomputable def cntF (b:Bool) (pts:List (List Int)) (bd:Int) (k:Nat):Int:=(((pairsD b pts).countP (nearK bd k):Nat):Int)
theorem counts_seq (b:Bool) (pts:List (List Int)) (bd:Int):countsD b pts bd = seqI (cntF b pts bd) pts.length:=rfl
noncomputable def sp_most:FSp:=fun ds Q=>∃ b n pts j,ds = [ptsD pts,wayD b,.int j] /\ Good n pts /\ pts.length <= 1000 /\ 0 <= j /\ Q (.sh (mostD (cntF b pts j) pts.length))
theorem enum_seq (f:Nat -> Int) (n:Nat):enumD (seqI f n) = (List.range n).map fun i:Nat=>.tup [.int (i:Nat),.int (f i)]:=by
  unfold seqI
  rw [enumD_map]
  apply List.ext_getElem?
  intro i
  by_cases h:i < n
  · rw [List.getElem?_map,List.getElem?_mapIdx,List.getElem?_map,List.getElem?_range h];rfl
  · rw [List.getElem?_eq_none (by rw [List.length_map,List.length_mapIdx,List.length_range];omega),List.getElem?_eq_none (by rw [List.length_map,List.length_range];omega)]
theorem p_most (ds:List D) (Q:B -> Prop) (h:sp_most ds Q):t_q19 sp_counts spG { nx:=fun _=>Q (.sh .non),rt:=fun b _=>Q b } (startD N_q19.length ds):=by
  obtain ⟨b,n,pts,j,rfl,hg,hl,hj,h⟩:=h
  unfold t_q19
  refine tSq_step fun N hN=>?_
  walk_at "vx"
  refine ⟨b,n,pts,j,rfl,hg,hl,hj,?_⟩
  walk_at "vx"
  subst hN
  walk_at "vx"
  rw [counts_seq,enum_seq]
  refine compD_onM (fun i:Nat=>.tup [.int (i:Nat),.int (cntF b pts j i)]) (fun i:Nat=>.tup [.int (cntF b pts j i),.int (i:Nat)]) _ (fun i _ A ha=>?_) (by rw [List.length_range,sz];omega) ?_
  · walk_at "vg"
    walk_at "vx"
    exact ⟨by decide,ha⟩
  · walk_at "vx"
    refine ⟨seqP (cntF b pts j) pts.length,rfl,seqP_headed _ _,?_⟩
    rw [best_most]
    exact h
noncomputable abbrev Tr9:=Int × Nat × Nat
theorem fb_amax (ts:List Tr9):∀ n,n < ts.length -> fbD ((ts.take (n + 1)).map trD) = trD (ts.getD (amaxN (fun m=>(ts.getD m (0,0,0)).1) n).2 (0,0,0))
  | 0,h=>by
    cases ts with
    | nil=>simp at h
    | cons t r=>rfl
  | n + 1,h=>by
    have e:ts.take (n + 1 + 1) = ts.take (n + 1) ++ [ts.getD (n + 1) (0,0,0)]:=by
      rw [List.take_add_one,List.getElem?_eq_getElem h,List.getD_eq_getElem?_getD,List.getElem?_eq_getElem h];rfl
    rw [e,List.map_append,List.map_cons,List.map_nil,fb_snoc,fb_amax ts n (by omega),amax_succ]
    have a2:=(amax_is (fun m=>(ts.getD m (0,0,0)).1) n).2.1
    show (if decide ((ts.getD (amaxN (fun m=>(ts.getD m (0,0,0)).1) n).2 (0,0,0)).1 < (ts.getD (n + 1) (0,0,0)).1) = true then _ else _) = _
    by_cases l:(amaxN (fun m=>(ts.getD m (0,0,0)).1) n).1 < (ts.getD (n + 1) (0,0,0)).1
    · rw [if_pos (decide_eq_true (by omega)),if_pos l]
    · rw [if_neg (by rw [decide_eq_false (by omega)];decide),if_neg l]
noncomputable def pT (b:Bool) (pts:List (List Int)) (i j:Nat):Tr9:=(fF b pts i j,i,j)
noncomputable def rowT (b:Bool) (pts:List (List Int)) (i m:Nat):List Tr9:=(List.range m).map fun t=>pT b pts i (i + 1 + t)
noncomputable def rowsT (b:Bool) (pts:List (List Int)):Nat -> List Tr9
  | 0=>[]
  | i + 1=>rowsT b pts i ++ rowT b pts i (pts.length - (i + 1))
theorem rowsT_is (b:Bool) (pts:List (List Int)):∀ i,rowsD b pts i = (rowsT b pts i).map trD
  | 0=>rfl
  | i + 1=>by
    show rowsD b pts i ++ rowD b pts i (pts.length - (i + 1)) = (rowsT b pts i ++ _).map trD
    rw [rowsT_is b pts i,List.map_append]
    congr 1
    unfold rowD rowT
    rw [List.map_map];rfl
theorem rowsT_mem {b:Bool} {pts:List (List Int)}:∀ {n:Nat} {t:Tr9},t ∈ rowsT b pts n ↔ ∃ i j,i < n /\ i < j /\ j < pts.length /\ t = pT b pts i j
  | 0,t=>⟨(fun h=>by cases h),(fun ⟨i,j,h,_⟩=>by omega)⟩
  | n + 1,t=>by
    show t ∈ rowsT b pts n ++ rowT b pts n (pts.length - (n + 1)) ↔ _
    rw [List.mem_append,rowsT_mem,rowT,List.mem_map]
    constructor
    · rintro (⟨i,j,h1,h2,h3,h4⟩ | ⟨m,h1,h2⟩)
      · exact ⟨i,j,by omega,h2,h3,h4⟩
      · have:=List.mem_range.mp h1
        exact ⟨n,n + 1 + m,by omega,by omega,by omega,h2.symm⟩
    · rintro ⟨i,j,h1,h2,h3,h4⟩
      by_cases h:i < n
      · exact .inl ⟨i,j,h,h2,h3,h4⟩
      · have:i = n:=by omega
        subst this
        exact .inr ⟨j - (i + 1),List.mem_range.mpr (by omega),by rw [h4,show i + 1 + (j - (i + 1)) = j by omega]⟩
noncomputable def Bef (x y:Tr9):Prop:=x.2.1 < y.2.1 \/ (x.2.1 = y.2.1 /\ x.2.2 < y.2.2)
theorem rowT_pw (b:Bool) (pts:List (List Int)) (i:Nat):∀ m,(rowT b pts i m).Pairwise Bef
  | 0=>List.Pairwise.nil
  | m + 1=>by
    have e:rowT b pts i (m + 1) = rowT b pts i m ++ [pT b pts i (i + 1 + m)]:=by unfold rowT;rw [List.range_succ,List.map_append];rfl
    rw [e]
    refine List.pairwise_append.mpr ⟨rowT_pw b pts i m,List.pairwise_singleton ..,fun x hx y hy=>?_⟩
    rw [List.mem_singleton.mp hy]
    obtain ⟨t,ht,rfl⟩:=List.mem_map.mp hx
    have:=List.mem_range.mp ht
    exact .inr ⟨rfl,by show i + 1 + t < i + 1 + m;omega⟩
theorem rowsT_pw (b:Bool) (pts:List (List Int)):∀ i,(rowsT b pts i).Pairwise Bef
  | 0=>List.Pairwise.nil
  | i + 1=>by
    refine List.pairwise_append.mpr ⟨rowsT_pw b pts i,rowT_pw b pts i _,fun x hx y hy=>?_⟩
    obtain ⟨p,q,h1,_,_,rfl⟩:=rowsT_mem.mp hx
    obtain ⟨t,_,rfl⟩:=List.mem_map.mp hy
    exact .inl h1
theorem f2_is (b:Bool) (pts:List (List Int)) (h:2 <= pts.length):∃ i j,i < j /\ j < pts.length /\ fbD (pairsD b pts) = trD (pT b pts i j) /\ (∀ p q,p < q -> q < pts.length -> fF b pts p q <= fF b pts i j) /\ ∀ p q,p < q -> q < pts.length -> (p < i \/ (p = i /\ q < j)) -> fF b pts p q < fF b pts i j:=by
  have hm:pT b pts 0 1 ∈ rowsT b pts pts.length:=rowsT_mem.mpr ⟨0,1,by omega,by omega,by omega,rfl⟩
  have hz:0 < (rowsT b pts pts.length).length:=List.length_pos_of_mem hm
  have e:=fb_amax (rowsT b pts pts.length) ((rowsT b pts pts.length).length - 1) (by omega)
  rw [show (rowsT b pts pts.length).length - 1 + 1 = (rowsT b pts pts.length).length by omega,List.take_length,<- rowsT_is] at e
  obtain ⟨a1,a2,a3,a4⟩:=amax_is (fun m=>((rowsT b pts pts.length).getD m (0,0,0)).1) ((rowsT b pts pts.length).length - 1)
  generalize (amaxN (fun m=>((rowsT b pts pts.length).getD m (0,0,0)).1) ((rowsT b pts pts.length).length - 1)).1 = M at *
  generalize (amaxN (fun m=>((rowsT b pts pts.length).getD m (0,0,0)).1) ((rowsT b pts pts.length).length - 1)).2 = k at *
  have gd:∀ m,(hm:m < (rowsT b pts pts.length).length) -> (rowsT b pts pts.length).getD m (0,0,0) = (rowsT b pts pts.length)[m]:=fun m hm=>by
    rw [List.getD_eq_getElem?_getD,List.getElem?_eq_getElem hm];rfl
  have hk:k < (rowsT b pts pts.length).length:=by omega
  obtain ⟨i,j,_,h2,h3,h4⟩:=rowsT_mem.mp (List.getElem_mem hk)
  have ek:(rowsT b pts pts.length).getD k (0,0,0) = pT b pts i j:=by rw [gd k hk,h4]
  have eM:M = fF b pts i j:=by rw [a2];show ((rowsT b pts pts.length).getD k (0,0,0)).1 = _;rw [ek];rfl
  have pos:∀ p q,p < q -> q < pts.length -> ∃ m,∃ hm:m < (rowsT b pts pts.length).length,(rowsT b pts pts.length)[m] = pT b pts p q:=fun p q h1 h2=>by
    obtain ⟨m,hm,e⟩:=List.getElem_of_mem (rowsT_mem.mpr ⟨p,q,by omega,h1,h2,rfl⟩:pT b pts p q ∈ rowsT b pts pts.length)
    exact ⟨m,hm,e⟩
  refine ⟨i,j,h2,h3,by rw [<- ek];exact e,fun p q h1 h2=>?_,fun p q h1 h2 hb=>?_⟩
  · obtain ⟨m,hm,em⟩:=pos p q h1 h2
    have:=a3 m (by omega)
    have this:((rowsT b pts pts.length).getD m (0,0,0)).1 <= M:=this
    rw [gd m hm,em,eM] at this
    exact this
  · obtain ⟨m,hm,em⟩:=pos p q h1 h2
    have hmk:m < k:=by
      rcases Nat.lt_trichotomy m k with h | h | h
      · exact h
      · subst h
        rw [h4] at em
        have e1:i = p:=congrArg (fun t:Tr9=>t.2.1) em
        have e2:j = q:=congrArg (fun t:Tr9=>t.2.2) em
        omega
      · have:=List.pairwise_iff_getElem.mp (rowsT_pw b pts pts.length) k m hk hm h
        rw [h4,em] at this
        have this:i < p \/ (i = p /\ j < q):=this
        omega
    have:=a4 m hmk
    have this:((rowsT b pts pts.length).getD m (0,0,0)).1 < M:=this
    rw [gd m hm,em,eM] at this
    exact this

theorem fb_amaxG {α:Type} (d:α) (g:α -> D) (key:α -> Int) (hg:∀ u t,stepF (g u) (g t) = if key u < key t then g t else g u) (hn:∀ t,stepF .non (g t) = g t) (l:List α):∀ n,n < l.length -> fbD ((l.take (n + 1)).map g) = g (l.getD (amaxN (fun m=>key (l.getD m d)) n).2 d)
  | 0,h=>by
    cases l with
    | nil=>simp at h
    | cons t r=>exact hn t
  | n + 1,h=>by
    have e:l.take (n + 1 + 1) = l.take (n + 1) ++ [l.getD (n + 1) d]:=by
      rw [List.take_add_one,List.getElem?_eq_getElem h,List.getD_eq_getElem?_getD,List.getElem?_eq_getElem h];rfl
    rw [e,List.map_append,List.map_cons,List.map_nil,fb_snoc,fb_amaxG d g key hg hn l n (by omega),amax_succ,hg]
    have a2:=(amax_is (fun m=>key (l.getD m d)) n).2.1
    by_cases z:(amaxN (fun m=>key (l.getD m d)) n).1 < key (l.getD (n + 1) d)
    · rw [if_pos (by omega),if_pos z]
    · rw [if_neg (by omega),if_neg z]
theorem off_list (ns:List Int) (own:Nat):(ns.mapIdx fun i x=>(i,x)).filterMap (offD own) = ((List.range ns.length).filter fun j=>decide (j ≠ own)).map fun j=>(j,ns.getD j 0):=by
  have e:(ns.mapIdx fun i x=>(i,x)) = (List.range ns.length).map fun j=>(j,ns.getD j 0):=by
    refine List.ext_getElem (by simp) fun j h1 h2=>?_
    have hj:j < ns.length:=by simpa using h1
    simp [List.getD_eq_getElem?_getD,List.getElem?_eq_getElem hj]
  rw [e,List.filterMap_map]
  generalize List.range ns.length = l
  induction l with
  | nil=>rfl
  | cons j l ih =>
    by_cases h:j = own
    · rw [List.filterMap_cons_none (by show (if j ≠ own then _ else _) = none;rw [if_neg (by simpa using h)]),ih,List.filter_cons_of_neg (by simp [h])]
    · rw [List.filterMap_cons_some (b:=(j,ns.getD j 0)) (by show (if j ≠ own then some (j,ns.getD j 0) else none) = some (j,ns.getD j 0);rw [if_pos h]),ih,List.filter_cons_of_pos (by simp [h])];rfl
theorem range_pw (n:Nat):(List.range n).Pairwise (· < ·):=List.pairwise_lt_range
theorem fo_is (ns:List Int) (own:Nat) (ho:own < ns.length) (h:2 <= ns.length):∃ j,j ≠ own /\ j < ns.length /\ foD ns own = .tup [.int (ns.getD j 0),.int (j:Nat)] /\ (∀ q,q < ns.length -> q ≠ own -> ns.getD q 0 <= ns.getD j 0) /\ ∀ q,q < j -> q ≠ own -> ns.getD q 0 < ns.getD j 0:=by
  unfold foD
  rw [off_list]
  generalize hL:((List.range ns.length).filter fun j=>decide (j ≠ own)) = L
  have mem:∀ q,q ∈ L ↔ q < ns.length /\ q ≠ own:=fun q=>by rw [<- hL,List.mem_filter,List.mem_range];simp
  have pw:L.Pairwise (· < ·):=by rw [<- hL];exact (range_pw _).filter _
  have hz:0 < L.length:=by
    by_cases z:own = 0
    · exact List.length_pos_of_mem ((mem 1).mpr ⟨by omega,by omega⟩)
    · exact List.length_pos_of_mem ((mem 0).mpr ⟨by omega,by omega⟩)
  have e:=fb_amaxG (0:Nat) (fun j:Nat=>tupD (j,ns.getD j 0)) (fun j=>ns.getD j 0) (fun u t=>by
    show (if decide (ns.getD u 0 < ns.getD t 0) = true then _ else _) = _
    by_cases l:ns.getD u 0 < ns.getD t 0
    · rw [if_pos (decide_eq_true l),if_pos l]
    · rw [if_neg (by rw [decide_eq_false l];decide),if_neg l]) (fun _=>rfl) L (L.length - 1) (by omega)
  rw [show L.length - 1 + 1 = L.length by omega,List.take_length] at e
  rw [List.map_map,show (tupD ∘ fun j=>(j,ns.getD j 0)) = (fun j:Nat=>tupD (j,ns.getD j 0)) from rfl,e]
  obtain ⟨a1,a2,a3,a4⟩:=amax_is (fun m=>ns.getD (L.getD m 0) 0) (L.length - 1)
  generalize (amaxN (fun m=>ns.getD (L.getD m 0) 0) (L.length - 1)).1 = M at *
  generalize (amaxN (fun m=>ns.getD (L.getD m 0) 0) (L.length - 1)).2 = k at *
  have gd:∀ m,(hm:m < L.length) -> L.getD m 0 = L[m]:=fun m hm=>by
    rw [List.getD_eq_getElem?_getD,List.getElem?_eq_getElem hm];rfl
  have hk:k < L.length:=by omega
  have mk:=(mem _).mp (List.getElem_mem hk)
  rw [gd k hk]
  have eM:M = ns.getD L[k] 0:=by rw [a2];show ns.getD (L.getD k 0) 0 = _;rw [gd k hk]
  refine ⟨L[k],mk.2,mk.1,rfl,fun q hq hn=>?_,fun q hq hn=>?_⟩
  · obtain ⟨m,hm,em⟩:=List.getElem_of_mem ((mem q).mpr ⟨hq,hn⟩)
    have:=a3 m (by omega)
    have this:ns.getD (L.getD m 0) 0 <= M:=this
    rw [gd m hm,em,eM] at this
    exact this
  · obtain ⟨m,hm,em⟩:=List.getElem_of_mem ((mem q).mpr ⟨by omega,hn⟩)
    have hmk:m < k:=by
      rcases Nat.lt_trichotomy m k with h | h | h
      · exact h
      · subst h;omega
      · have:=List.pairwise_iff_getElem.mp pw k m hk hm h
        omega
    have:=a4 m hmk
    have this:ns.getD (L.getD m 0) 0 < M:=this
    rw [gd m hm,em,eM] at this
    exact this

theorem fars_get (b:Bool) (pts:List (List Int)) (i:Nat) {q:Nat} (h:q < pts.length):(farsI b pts (pts.getD i [])).getD q 0 = fF b pts i q:=by
  unfold farsI fF
  rw [List.getD_eq_getElem?_getD,List.getElem?_map,List.getElem?_eq_getElem h,List.getD_eq_getElem?_getD (l:=pts) (i:=q),List.getElem?_eq_getElem h];rfl
theorem fars_len (b:Bool) (pts:List (List Int)) (p:List Int):(farsI b pts p).length = pts.length:=List.length_map ..
theorem fF_self (b:Bool) (pts:List (List Int)) (i:Nat):fF b pts i i = 0:=far_self b _
theorem fF_sym (b:Bool) (pts:List (List Int)) (i j:Nat):fF b pts i j = fF b pts j i:=far_sym b _ _
theorem fF_nn (b:Bool) (pts:List (List Int)) (i j:Nat):0 <= fF b pts i j:=far_nonneg b _ _
theorem fo_pts (b:Bool) (pts:List (List Int)) {i:Nat} (hi:i < pts.length) (h:2 <= pts.length):∃ j,j ≠ i /\ j < pts.length /\ foD (farsI b pts (pts.getD i [])) i = .tup [.int (fF b pts i j),.int (j:Nat)] /\ (∀ q,q < pts.length -> fF b pts i q <= fF b pts i j) /\ (∀ q,q < j -> q ≠ i -> fF b pts i q < fF b pts i j) /\ rowMax b pts i = fF b pts i j:=by
  obtain ⟨j,h1,h2,h3,h4,h5⟩:=fo_is (farsI b pts (pts.getD i [])) i (by rw [fars_len];exact hi) (by rw [fars_len];exact h)
  rw [fars_len] at h2 h4
  rw [fars_get b pts i h2] at h3 h4 h5
  have g4:∀ q,q < pts.length -> fF b pts i q <= fF b pts i j:=fun q hq=>by
    by_cases e:q = i
    · subst e;rw [fF_self];exact fF_nn b pts q j
    · have:=h4 q hq e
      rw [fars_get b pts i hq] at this
      exact this
  refine ⟨j,h1,h2,h3,g4,fun q hq hn=>?_,?_⟩
  · have:=h5 q hq hn
    rw [fars_get b pts i (by omega)] at this
    exact this
  · unfold rowMax
    obtain ⟨a1,a2,a3,_⟩:=amax_is (fF b pts i) (pts.length - 1)
    have x1:=a3 j (by omega)
    have x2:=g4 _ (show (amaxN (fF b pts i) (pts.length - 1)).2 < pts.length by omega)
    omega
theorem two_row (b:Bool) (pts:List (List Int)) (h:2 <= pts.length):∃ i j,i < j /\ j < pts.length /\ fbD (pairsD b pts) = .tup [.int (fF b pts i j),.int (i:Nat),.int (j:Nat)] /\ (∀ p q,p < pts.length -> q < pts.length -> fF b pts p q <= fF b pts i j) /\ foD (farsI b pts (pts.getD i [])) i = .tup [.int (fF b pts i j),.int (j:Nat)]:=by
  obtain ⟨i,j,h1,h2,h3,h4,h5⟩:=f2_is b pts h
  have g4:∀ p q,p < pts.length -> q < pts.length -> fF b pts p q <= fF b pts i j:=fun p q hp hq=>by
    rcases Nat.lt_trichotomy p q with z | z | z
    · exact h4 p q z hq
    · subst z;rw [fF_self];exact fF_nn b pts i j
    · rw [fF_sym];exact h4 q p z hp
  refine ⟨i,j,h1,h2,h3,g4,?_⟩
  obtain ⟨q,n1,n2,n3,n4,n5,_⟩:=fo_pts b pts (show i < pts.length by omega) h
  have e:fF b pts i q = fF b pts i j:=by
    have:=n4 j h2
    have:=g4 i q (by omega) n2
    omega
  have:q = j:=by
    rcases Nat.lt_trichotomy q j with z | z | z
    · by_cases l:q < i
      · have:=h5 q i l (by omega) (.inl l)
        rw [fF_sym] at this
        omega
      · have:=h5 i q (by omega) n2 (.inr ⟨rfl,z⟩)
        omega
    · exact z
    · have:=n5 j z (by omega)
      omega
  rw [n3,this]
noncomputable def wide (b:Bool):Int:=if b = true then 4 else 2
theorem step_tri (b:Bool) (x y z:Int):stepI b x y <= (if b = true then 2 else 1) * (stepI b x z + stepI b z y):=by
  unfold stepI
  have key:absI (x - y) <= absI (x - z) + absI (z - y):=by unfold absI;split<;>split<;>split<;>omega
  have n1:0 <= absI (x - y):=by unfold absI;split<;>omega
  have n2:0 <= absI (x - z):=by unfold absI;split<;>omega
  have n3:0 <= absI (z - y):=by unfold absI;split<;>omega
  cases b with
  | false=>show absI (x - y) <= 1 * (absI (x - z) + absI (z - y));omega
  | true =>
    show absI (x - y) * absI (x - y) <= 2 * (absI (x - z) * absI (x - z) + absI (z - y) * absI (z - y))
    generalize absI (x - y) = a at *
    generalize absI (x - z) = u at *
    generalize absI (z - y) = v at *
    have s1:a * a <= (u + v) * (u + v):=Int.mul_le_mul key key n1 (by omega)
    have s2:0 <= (u - v) * (u - v):=by
      by_cases c:0 <= u - v
      · exact Int.mul_nonneg c c
      · have:=Int.mul_nonneg (show 0 <= -(u - v) by omega) (show 0 <= -(u - v) by omega)
        rwa [Int.neg_mul_neg] at this
    have e1:(u + v) * (u + v) = u * u + 2 * (u * v) + v * v:=by
      rw [Int.add_mul,Int.mul_add,Int.mul_add,Int.mul_comm v u];omega
    have e2:(u - v) * (u - v) = u * u - 2 * (u * v) + v * v:=by
      rw [Int.sub_mul,Int.mul_sub,Int.mul_sub,Int.mul_comm v u];omega
    omega
theorem far_tri9 (b:Bool):∀ p q r:List Int,p.length = r.length -> q.length = r.length -> farI b p q <= (if b = true then 2 else 1) * (farI b p r + farI b r q)
  | [],[],[],_,_=>by cases b<;>decide
  | x :: p,y :: q,z :: r,h1,h2=>by
    have ih:=far_tri9 b p q r (by simpa using h1) (by simpa using h2)
    have st:=step_tri b x y z
    have c1:farI b (x :: p) (y :: q) = stepI b x y + farI b p q:=rfl
    have c2:farI b (x :: p) (z :: r) = stepI b x z + farI b p r:=rfl
    have c3:farI b (z :: r) (y :: q) = stepI b z y + farI b r q:=rfl
    rw [c1,c2,c3]
    cases b with
    | false=>simp only [Bool.false_eq_true,if_false] at *;omega
    | true=>simp only [if_true] at *;omega
  | [],_ :: _,[],_,h=>by simp at h
  | _ :: _,_,[],h,_=>by simp at h
  | [],_,_ :: _,h,_=>by simp at h
  | _ :: _,[],_ :: _,_,h=>by simp at h
theorem fF_wide {b:Bool} {n:Nat} {pts:List (List Int)} (g:Good n pts) {c:Nat} (hc:c < pts.length) {M:Int} (h:∀ q,q < pts.length -> fF b pts c q <= M) {i j:Nat} (hi:i < pts.length) (hj:j < pts.length):fF b pts i j <= M * wide b:=by
  have l:∀ k,k < pts.length -> (pts.getD k []).length = n:=fun k hk=>(g.2 _ (getD_mem hk)).1
  have t:=far_tri9 b (pts.getD i []) (pts.getD j []) (pts.getD c []) (by rw [l i hi,l c hc]) (by rw [l j hj,l c hc])
  have t:fF b pts i j <= (if b = true then 2 else 1) * (fF b pts i c + fF b pts c j):=t
  have h1:=h i hi
  have h2:=h j hj
  rw [fF_sym b pts i c] at t
  unfold wide
  cases b with
  | false=>simp only [Bool.false_eq_true,if_false] at *;omega
  | true=>simp only [if_true] at *;omega

theorem eqD_self:∀ (n:Nat) (x:D),okD n x = true -> eqD x x = true
  | _,.non,_=>rfl
  | _,.bl b,_=>by simp [eqD]
  | _,.int i,_=>by simp [eqD]
  | _,.str s,_=>by simp [eqD]
  | 0,.tup _,h=>by simp [okD] at h
  | 0,.lst _,h=>by simp [okD] at h
  | n + 1,.tup xs,h=>by
    have h':xs.all (okD n) = true:=h
    show eqDs xs xs = true
    induction xs with
    | nil=>rfl
    | cons x r ih =>
      rw [List.all_cons,Bool.and_eq_true] at h'
      show (eqD x x && eqDs r r) = true
      rw [eqD_self n x h'.1,ih (by show r.all (okD n) = true;exact h'.2) h'.2];rfl
  | n + 1,.lst xs,h=>by
    have h':xs.all (okD n) = true:=h
    show eqDs xs xs = true
    induction xs with
    | nil=>rfl
    | cons x r ih =>
      rw [List.all_cons,Bool.and_eq_true] at h'
      show (eqD x x && eqDs r r) = true
      rw [eqD_self n x h'.1,ih (by show r.all (okD n) = true;exact h'.2) h'.2];rfl
  | 0,.dct _,h=>by simp [okD] at h
  | 0,.exc _,h=>by simp [okD] at h
  | 0,.scr _,h=>by simp [okD] at h
  | n + 1,.dct _,h=>by simp [okD] at h
  | n + 1,.exc _,h=>by simp [okD] at h
  | n + 1,.scr _,h=>by simp [okD] at h

theorem okD_pt9 (p:List Int):okD 8 (ptD p) = true:=List.all_eq_true.mpr fun x hx=>by
  obtain ⟨k,_,rfl⟩:=List.mem_map.mp hx
  rfl
theorem eqD_ints9:∀ p q:List Int,eqDs (p.map D.int) (q.map D.int) = decide (p = q)
  | [],[]=>rfl
  | [],_ :: _=>rfl
  | _ :: _,[]=>rfl
  | x :: p,y :: q=>by
    show (eqD (.int x) (.int y) && eqDs (p.map D.int) (q.map D.int)) = _
    rw [eqD_di,eqD_ints9 p q]
    by_cases e:x = y<;>by_cases f:p = q<;>simp [e,f]
theorem far_nil9 {b:Bool} {p q:List Int} (h:p.length = q.length):farI b p q <= 0 ↔ q = p:=by
  constructor
  · intro z
    cases b with
    | true=>exact (far_zero p q h (by have:=far_nonneg true p q;omega)).symm
    | false =>
      have z0:farI false p q = 0:=by have:=far_nonneg false p q;omega
      have:=sq_le_far p q
      rw [z0] at this
      exact (far_zero p q h (by have:=far_nonneg true p q;omega)).symm
  · intro e
    subst e
    rw [far_self];exact Int.le_refl _
theorem cnt_same {b:Bool} {n:Nat} {pts:List (List Int)} (hg:Good n pts) {i:Nat} (hi:i < pts.length):cntD (ptD (pts.getD i [])) (pts.map ptD) = (List.range pts.length).countP fun j=>decide (fF b pts i j <= 0):=by
  unfold cntD
  generalize hp:pts.getD i [] = p
  have er:pts = (List.range pts.length).map fun j=>pts.getD j []:=by
    refine List.ext_getElem (by simp) fun j h1 h2=>?_
    simp [List.getD_eq_getElem?_getD,List.getElem?_eq_getElem h1]
  rw [List.countP_map]
  conv=>lhs;rw [er]
  rw [List.countP_map]
  refine List.countP_congr fun j hj=>?_
  have hj:=List.mem_range.mp hj
  have l1:p.length = (pts.getD j []).length:=by rw [<- hp,(hg.2 _ (getD_mem hi)).1,(hg.2 _ (getD_mem hj)).1]
  show eqDs ((pts.getD j []).map D.int) (p.map D.int) = true ↔ _
  rw [eqD_ints9,decide_eq_true_iff,decide_eq_true_iff]
  unfold fF
  rw [hp]
  exact (far_nil9 (b:=b) l1).symm
theorem fm_none9 {α β:Type}:∀ l:List α,l.filterMap (fun _=>(none:Option β)) = []
  | []=>rfl
  | x :: l=>by rw [List.filterMap_cons_none rfl,fm_none9 l]
noncomputable def sp_tog:FSp:=fun ds Q=>∃ b n pts,ds = [ptsD pts,wayD b] /\ Good n pts /\ pts.length <= 900 /\ Q (.sh (.bl true))
theorem p_tog (ds:List D) (Q:B -> Prop) (h:sp_tog ds Q):t_q3 sp_f2 sp_mid sp_fo sp_how sp_sums sp_most sp_counts { nx:=fun _=>Q (.sh .non),rt:=fun b _=>Q b } (startD N_q3.length ds):=by
  obtain ⟨b,n,pts,rfl,hg,hl,h⟩:=h
  have hl':pts.length <= 1000:=by omega
  unfold t_q3
  rw [show ptsD pts = .lst (pts.map ptD) from rfl]
  refine tSq_step fun N hN=>?_
  walk_at "vx"
  rw [List.length_map]
  subst hN
  refine tSq_step fun N hN=>?_
  walk_at "vx"
  by_cases c2:pts.length < 2
  · refine (if_pos (by omega)).mpr ⟨b,n,pts,rfl,hg,hl',?_⟩
    have ef:fbD (pairsD b pts) = .non:=by
      match pts,c2 with
      | [],_=>rfl
      | [p],_=>rfl
    rw [ef]
    walk_at "vx"
    refine ⟨b,n,pts,rfl,hg,hl',?_⟩
    walk_at "vx"
    match pts,c2 with
    | [],_=>exact ⟨by decide,by decide,ix_lst_at (n:=0) rfl rfl ⟨⟨rfl,rfl⟩,h⟩⟩
    | [p],_ =>
      have el:leastD (rowMax b [p]) 1 = .tup [.int 0,.int 0]:=by
        show D.tup [.int (farI b p p),.int 0] = _
        rw [far_self]
      refine ⟨by decide,by decide,ix_lst_at (n:=1) rfl rfl ?_⟩
      rw [show ([p]:List (List Int)).length = 1 from rfl,el]
      exact ⟨⟨rfl,rfl⟩,h⟩
  have h2:2 <= pts.length:=by omega
  refine (if_neg (by omega)).mpr ?_
  subst hN
  obtain ⟨i0,j0,ij,hj0,e0,top0,row0⟩:=two_row b pts h2
  -- two
  refine tSq_step fun N hN=>?_
  walk_at "vx"
  refine ⟨b,n,pts,rfl,hg,hl',?_⟩
  rw [e0]
  walk_at "vx"
  subst hN
  -- each
  refine tSq_step fun N hN=>?_
  walk_at "vx"
  rw [Int.toNat_natCast,rngD_map]
  refine ⟨by omega,compD_onM (fun i:Nat=>.int (0 + (i:Nat))) (fun i=>foD (farsI b pts (pts.getD i [])) i) _ (fun i hi A ha=>?_) (by rw [sz,List.length_range];omega) ?_⟩
  · have hi:=List.mem_range.mp hi
    rw [Int.zero_add]
    walk_at "vx"
    refine ⟨b,n,pts,i,rfl,hg,hl',hi,?_⟩
    walk_at "vx"
    exact ha
  subst hN
  obtain ⟨fo,hfo⟩:∃ fo:Nat -> Nat,∀ i,i < pts.length -> fo i ≠ i /\ fo i < pts.length /\ foD (farsI b pts (pts.getD i [])) i = .tup [.int (fF b pts i (fo i)),.int (fo i:Nat)] /\ (∀ q,q < pts.length -> fF b pts i q <= fF b pts i (fo i)) /\ rowMax b pts i = fF b pts i (fo i):=by
    have:∀ i,∃ j,i < pts.length -> j ≠ i /\ j < pts.length /\ foD (farsI b pts (pts.getD i [])) i = .tup [.int (fF b pts i j),.int (j:Nat)] /\ (∀ q,q < pts.length -> fF b pts i q <= fF b pts i j) /\ rowMax b pts i = fF b pts i j:=fun i=>by
      by_cases hi:i < pts.length
      · obtain ⟨j,a,a2,a3,a4,_,a6⟩:=fo_pts b pts hi h2
        exact ⟨j,fun _=>⟨a,a2,a3,a4,a6⟩⟩
      · exact ⟨0,fun z=>absurd z hi⟩
    exact Classical.axiomOfChoice this
  rw [show ((List.range pts.length).map fun i=>foD (farsI b pts (pts.getD i [])) i) = (List.range pts.length).map fun i=>D.tup [.int (rowMax b pts i),.int (fo i:Nat)] from List.map_congr_left fun i hi=>by rw [(hfo i (List.mem_range.mp hi)).2.2.1,(hfo i (List.mem_range.mp hi)).2.2.2.2]]
  have hi0:i0 < pts.length:=by omega
  have fo0:fo i0 = j0:=by
    have:=(hfo i0 hi0).2.2.1
    rw [row0] at this
    have:=congrArg (fun d=>match d with | D.tup [_,.int x]=>x | _=>0) this
    have this:(j0:Int) = (fo i0:Int):=this
    omega
  have rm0:rowMax b pts i0 = fF b pts i0 j0:=by rw [(hfo i0 hi0).2.2.2.2,fo0]
  have gM:(amaxN (rowMax b pts) (pts.length - 1)).1 = fF b pts i0 j0:=by
    obtain ⟨a1,a2,a3,_⟩:=amax_is (rowMax b pts) (pts.length - 1)
    have x1:=a3 i0 (by omega)
    have hk:(amaxN (rowMax b pts) (pts.length - 1)).2 < pts.length:=by omega
    have x2:=top0 _ _ hk (hfo _ hk).2.1
    rw [a2,(hfo _ hk).2.2.2.2] at *
    omega
  have firsts:∀ R:List D -> Prop,R (seqI (rowMax b pts) pts.length) -> compD (gNm 0) tTrue (tVal [] (tIx (tVarD 0) (tCD (D.int 0)))) [none] ((List.range pts.length).map fun i=>D.tup [.int (rowMax b pts i),.int (fo i:Nat)]) [] R:=fun R hR=>by
    refine compD_onM (fun i=>D.tup [.int (rowMax b pts i),.int (fo i:Nat)]) (fun i=>D.int (rowMax b pts i)) _ (fun i _ A ha=>?_) (by rw [sz,List.length_range];omega) hR
    walk_at "vg"
    walk_at "vx"
    exact ix_tup_at (n:=0) rfl rfl ha
  have eget:∀ i,i < pts.length -> ((List.range pts.length).map fun i=>D.tup [.int (rowMax b pts i),.int (fo i:Nat)])[i]? = some (D.tup [.int (rowMax b pts i),.int (fo i:Nat)]):=fun i hi=>by
    rw [List.getElem?_map,List.getElem?_range hi];rfl
  -- the greatest
  refine tSq_step fun N hN=>?_
  walk_at "vx"
  refine ix_tup_at (n:=0) rfl rfl ?_
  refine firsts _ ?_
  rw [max_row (by omega),gM]
  refine ⟨⟨seqI_isInt _ _,seq_ne (by omega)⟩,⟨rfl,rfl⟩,?_⟩
  rw [eqD_self 8 _ rfl]
  refine (if_neg (by decide)).mpr ?_
  refine ix_tup_at (n:=1) rfl rfl ?_
  refine ix_lst_at (n:=i0) rfl (eget i0 hi0) ?_
  refine ix_tup_at (n:=0) rfl rfl ?_
  refine ix_tup_at (n:=2) rfl rfl ?_
  rw [rm0,fo0]
  refine ⟨by decide,⟨rfl,rfl⟩,?_⟩
  rw [eqD_self 8 _ rfl]
  refine (if_neg (by decide)).mpr ?_
  subst hN
  -- how far each
  refine tSq_step fun N hN=>?_
  walk_at "vx"
  rw [enumD_map]
  refine compD_on (fun p:Nat × Nat=>D.tup [D.int (p.1:Nat),D.tup [D.int (rowMax b pts p.2),D.int (fo p.2:Nat)]]) (fun _=>none) _ (fun p hp A Bn ha=>?_) (by rw [sz,List.length_mapIdx,List.length_range];omega) ?_
  · obtain ⟨m,hm⟩:=List.mem_iff_getElem?.mp hp
    obtain ⟨p1,p2⟩:=p
    obtain ⟨e3,e4⟩:=enum_get hm
    have e3:p1 = m:=e3
    have e4:(List.range pts.length)[m]? = some p2:=e4
    obtain ⟨e5,hi⟩:=range_get e4
    subst e5
    subst e3
    walk_at "vg"
    walk_at "vx"
    refine ix_tup_at (n:=1) rfl rfl ?_
    refine ⟨b,n,pts,p1,fo p1,rfl,hg,hi,(hfo p1 hi).2.1,?_⟩
    walk_at "vx"
    refine ix_tup_at (n:=0) rfl rfl ?_
    rw [(hfo p1 hi).2.2.2.2,show farI b (pts.getD p1 []) (pts.getD (fo p1) []) = fF b pts p1 (fo p1) from rfl]
    refine ⟨⟨rfl,rfl⟩,?_⟩
    rw [eqD_self 8 _ rfl]
    exact (if_neg (by decide)).mpr ha
  rw [fm_none9]
  refine ⟨by decide,⟨rfl,rfl⟩,(if_neg (by decide)).mpr ?_⟩
  subst hN
  -- the middle
  refine tSq_step fun N hN=>?_
  walk_at "vx"
  refine ⟨b,n,pts,rfl,hg,hl',?_⟩
  rw [show leastD (rowMax b pts) pts.length = .tup [.int (aminN (rowMax b pts) (pts.length - 1)).1,.int ((aminN (rowMax b pts) (pts.length - 1)).2:Nat)] by unfold leastD;rw [if_neg (by omega)]]
  obtain ⟨m1,m2,m3,_⟩:=amin_is (rowMax b pts) (pts.length - 1)
  have hc:(aminN (rowMax b pts) (pts.length - 1)).2 < pts.length:=by omega
  have mr:(bestD (seqI (rowMax b pts) pts.length)).getD .non = .int (aminN (rowMax b pts) (pts.length - 1)).1:=min_row (by omega)
  generalize (aminN (rowMax b pts) (pts.length - 1)).1 = L at *
  generalize (aminN (rowMax b pts) (pts.length - 1)).2 = c at *
  walk_at "vx"
  subst hN
  refine tSq_step fun N hN=>?_
  walk_at "vx"
  refine ix_tup_at (n:=0) rfl rfl ?_
  refine firsts _ ?_
  rw [mr]
  refine ⟨⟨.inl (seqI_isInt _ _),seq_ne (by omega)⟩,⟨rfl,rfl⟩,?_⟩
  rw [eqD_self 8 _ rfl]
  refine (if_neg (by decide)).mpr ?_
  refine ix_tup_at (n:=1) rfl rfl ?_
  refine ix_lst_at (n:=c) rfl (eget c hc) ?_
  refine ix_tup_at (n:=0) rfl rfl ?_
  refine ix_tup_at (n:=0) rfl rfl ?_
  rw [<- m2]
  refine ⟨⟨rfl,rfl⟩,?_⟩
  rw [eqD_self 8 _ rfl]
  refine (if_neg (by decide)).mpr ?_
  subst hN
  -- at most so much wider
  refine tSq_step fun N hN=>?_
  walk_at "vx"
  rw [show (Str.ofString "squares") = "squares" from rfl,way_squares]
  have hix:∀ P:D -> Prop,P (.int (wide b)) -> ixD (D.lst [D.int 2,D.int 4]) (D.int (if b = true then 1 else 0)) P:=fun P hP=>by
    cases b with
    | false=>exact ix_lst_at (n:=0) rfl rfl hP
    | true=>exact ix_lst_at (n:=1) rfl rfl hP
  have hcM:∀ q,q < pts.length -> fF b pts c q <= L:=fun q hq=>by rw [m2,(hfo c hc).2.2.2.2];exact (hfo c hc).2.2.2.1 q hq
  refine ix_tup_at (n:=0) rfl rfl ?_
  refine ix_tup_at (n:=0) rfl rfl ⟨by decide,⟨way_ok b,ok_squares⟩,hix _ ?_⟩
  walk_at "vx"
  refine ⟨by unfold CMul wide;right;split<;>omega,?_⟩
  have hw:=fF_wide hg hc hcM hi0 hj0
  refine (if_neg (by omega)).mpr ?_
  subst hN
  -- the least sum
  refine tSq_step fun N hN=>?_
  walk_at "vx"
  refine ⟨b,n,pts,rfl,hg,hl',?_⟩
  rw [show leastD (rowSum b pts) pts.length = .tup [.int (aminN (rowSum b pts) (pts.length - 1)).1,.int ((aminN (rowSum b pts) (pts.length - 1)).2:Nat)] by unfold leastD;rw [if_neg (by omega)]]
  obtain ⟨s1,s2,_,_⟩:=amin_is (rowSum b pts) (pts.length - 1)
  have hs:(aminN (rowSum b pts) (pts.length - 1)).2 < pts.length:=by omega
  generalize (aminN (rowSum b pts) (pts.length - 1)).1 = T at *
  generalize (aminN (rowSum b pts) (pts.length - 1)).2 = s at *
  walk_at "vx"
  subst hN
  refine tSq_step fun N hN=>?_
  walk_at "vx"
  rw [Int.toNat_natCast,rngD_map]
  refine ⟨by omega,compD_onM (fun i:Nat=>.int (0 + (i:Nat))) (fun q=>D.int (fF b pts s q)) _ (fun q hq A ha=>?_) (by rw [sz,List.length_range];omega) ?_⟩
  · have hq:=List.mem_range.mp hq
    rw [Int.zero_add]
    walk_at "vx"
    refine ⟨b,n,pts,s,q,rfl,hg,hs,hq,?_⟩
    walk_at "vx"
    exact ha
  rw [show (List.map intV (List.map (fun q=>D.int (fF b pts s q)) (List.range pts.length))).sum = T from s2.symm]
  refine ⟨all_int _ _,⟨rfl,rfl⟩,?_⟩
  rw [eqD_self 8 _ rfl]
  refine (if_neg (by decide)).mpr ?_
  subst hN
  -- as near as the farthest two
  have cn:∀ (bd:Int) (k:Nat),0 <= bd -> k < pts.length -> cntF b pts bd k + 1 = (((List.range pts.length).countP fun j=>decide (fF b pts k j <= bd):Nat):Int):=fun bd k hb hk=>by
    have:=cnt_row b pts hb hk
    unfold cntF
    omega
  have cle:∀ (bd:Int) (k:Nat),0 <= bd -> k < pts.length -> cntF b pts bd k <= (pts.length:Int) - 1:=fun bd k hb hk=>by
    have:=cn bd k hb hk
    have:=List.countP_le_length (p:=fun j=>decide (fF b pts k j <= bd)) (l:=List.range pts.length)
    rw [List.length_range] at this
    omega
  have cfull:∀ (bd:Int) (k:Nat),0 <= bd -> k < pts.length -> (∀ q,q < pts.length -> fF b pts k q <= bd) -> cntF b pts bd k = (pts.length:Int) - 1:=fun bd k hb hk hq=>by
    have:=cn bd k hb hk
    have e:(List.range pts.length).countP (fun j=>decide (fF b pts k j <= bd)) = pts.length:=by
      rw [List.countP_eq_length.mpr fun q hq'=>decide_eq_true (hq q (List.mem_range.mp hq')),List.length_range]
    omega
  have M0:=fF_nn b pts i0 j0
  have L0':0 <= L:=by have:=hcM 0 (by omega);have:=fF_nn b pts c 0;omega
  have mo:mostD (cntF b pts (fF b pts i0 j0)) pts.length = .tup [.int ((pts.length:Int) - 1),.int 0]:=by
    unfold mostD
    rw [if_neg (by omega)]
    obtain ⟨a1,a2,a3,a4⟩:=amax_is (cntF b pts (fF b pts i0 j0)) (pts.length - 1)
    have full:∀ k,k < pts.length -> cntF b pts (fF b pts i0 j0) k = (pts.length:Int) - 1:=fun k hk=>cfull _ k M0 hk fun q hq=>top0 k q hk hq
    have z:(amaxN (cntF b pts (fF b pts i0 j0)) (pts.length - 1)).2 = 0:=by
      apply Nat.eq_zero_of_not_pos
      intro hp
      have:=a4 0 hp
      rw [a2,full _ (by omega),full _ (by omega)] at this
      omega
    rw [a2,full _ (by omega),z];rfl
  refine tSq_step fun N hN=>?_
  walk_at "vx"
  refine ix_tup_at (n:=0) rfl rfl ?_
  refine ⟨b,n,pts,fF b pts i0 j0,rfl,hg,hl',M0,?_⟩
  rw [mo]
  walk_at "vx"
  refine ⟨by decide,⟨rfl,rfl⟩,?_⟩
  rw [eqD_self 8 _ rfl]
  refine (if_neg (by decide)).mpr ?_
  subst hN
  -- as near as the middle's farthest
  refine tSq_step fun N hN=>?_
  walk_at "vx"
  refine ix_tup_at (n:=0) rfl rfl ?_
  refine ⟨b,n,pts,L,rfl,hg,hl',L0',?_⟩
  rw [counts_seq]
  walk_at "vx"
  have ma:(amaxN (cntF b pts L) (pts.length - 1)).1 = (pts.length:Int) - 1:=by
    obtain ⟨a1,a2,a3,a4⟩:=amax_is (cntF b pts L) (pts.length - 1)
    have x1:=a3 c (by omega)
    rw [cfull L c L0' hc hcM] at x1
    have x2:=cle L _ L0' (show (amaxN (cntF b pts L) (pts.length - 1)).2 < pts.length by omega)
    omega
  rw [max_row (by omega),ma]
  refine ⟨⟨seqI_isInt _ _,seq_ne (by omega)⟩,⟨rfl,rfl⟩,?_⟩
  rw [eqD_self 8 _ rfl]
  refine (if_neg (by decide)).mpr ?_
  subst hN
  -- one on the other
  walk_at "vx"
  refine ⟨b,n,pts,0,rfl,hg,hl',by decide,?_⟩
  rw [show mostD (cntF b pts 0) pts.length = .tup [.int (amaxN (cntF b pts 0) (pts.length - 1)).1,.int ((amaxN (cntF b pts 0) (pts.length - 1)).2:Nat)] by unfold mostD;rw [if_neg (by omega)]]
  walk_at "vx"
  refine ix_tup_at (n:=0) rfl rfl ?_
  refine compD_onM ptD (fun p=>D.int ((cntD (ptD p) (pts.map ptD):Nat) - 1)) _ (fun p hp A ha=>?_) (by rw [sz];omega) ?_
  · unfold tCnL
    walk_at "vg"
    walk_at "vx"
    exact ⟨⟨_,rfl⟩,⟨okD_pt9 p,ok_pts pts⟩,ha⟩
  rw [map_seq (fun p=>((cntD (ptD p) (pts.map ptD):Nat):Int) - 1) ([]:List Int) pts]
  have sq:seqI (fun i=>((cntD (ptD (pts.getD i [])) (pts.map ptD):Nat):Int) - 1) pts.length = seqI (cntF b pts 0) pts.length:=by
    unfold seqI
    refine List.map_congr_left fun i hi=>?_
    have hi:=List.mem_range.mp hi
    have:=cn 0 i (by decide) hi
    show D.int (((cntD (ptD (pts.getD i [])) (pts.map ptD):Nat):Int) - 1) = _
    rw [cnt_same (b:=b) hg hi]
    congr 1
    omega
  rw [sq,max_row (by omega)]
  refine ⟨⟨seqI_isInt _ _,seq_ne (by omega)⟩,⟨rfl,rfl⟩,?_⟩
  rw [eqD_self 8 _ rfl]
  exact h

noncomputable def lineP (s:Int) (m:Nat):List (List Int):=(List.range m).map fun k:Nat=>[5 - s * (k:Int),9]
theorem line_len (s:Int) (m:Nat):(lineP s m).length = m:=by unfold lineP;rw [List.length_map,List.length_range]
theorem line_get (s:Int) {m i:Nat} (h:i < m):(lineP s m).getD i [] = [5 - s * (i:Int),9]:=by
  unfold lineP
  rw [List.getD_eq_getElem?_getD,List.getElem?_map,List.getElem?_range h];rfl
noncomputable def gapI (i j:Nat):Int:=absI ((i:Int) - j)
noncomputable def lineF (b:Bool) (s d:Int):Int:=if b = true then (s * d) * (s * d) else s * d
theorem line_far (b:Bool) {s:Int} (h0:0 <= s) {m i j:Nat} (hi:i < m) (hj:j < m):fF b (lineP s m) i j = lineF b s (gapI i j):=by
  unfold fF
  rw [line_get s hi,line_get s hj]
  show stepI b (5 - s * (i:Int)) (5 - s * (j:Int)) + (stepI b 9 9 + 0) = _
  have e9:stepI b 9 9 = 0:=by cases b<;>decide
  have ea:absI (5 - s * (i:Int) - (5 - s * (j:Int))) = s * gapI i j:=by
    unfold gapI
    rw [show 5 - s * (i:Int) - (5 - s * (j:Int)) = -(s * ((i:Int) - j)) by rw [Int.mul_sub];omega,<- abs_mul h0]
    unfold absI
    split<;>split<;>omega
  rw [e9]
  unfold stepI lineF
  rw [ea]
  split<;>omega
theorem lineF_lt {b:Bool} {s:Int} (h:1 <= s) {d e:Int} (hd:0 <= d) (he:d < e):lineF b s d < lineF b s e:=by
  have h1:s * d < s * e:=Int.mul_lt_mul_of_pos_left he (by omega)
  have h0:0 <= s * d:=Int.mul_nonneg (by omega) hd
  unfold lineF
  split
  · exact Int.mul_lt_mul' (by omega) h1 h0 (by omega)
  · exact h1
theorem lineF_le {b:Bool} {s:Int} (h:1 <= s) {d e:Int} (hd:0 <= d) (he:d <= e):lineF b s d <= lineF b s e:=by
  rcases Int.lt_or_eq_of_le he with z | z
  · exact Int.le_of_lt (lineF_lt h hd z)
  · rw [z];exact Int.le_refl _
theorem gap_nn (i j:Nat):0 <= gapI i j:=by unfold gapI absI;split<;>omega
theorem line_two (b:Bool) {s:Int} (h:1 <= s) {m:Nat} (hm:2 <= m):fbD (pairsD b (lineP s m)) = .tup [.int (lineF b s ((m:Int) - 1)),.int 0,.int ((m:Int) - 1)]:=by
  obtain ⟨i,j,ij,hj,e,top,_⟩:=two_row b (lineP s m) (by rw [line_len];exact hm)
  rw [line_len] at hj top
  have t:=top 0 (m - 1) (by omega) (by omega)
  rw [line_far b (by omega) (by omega) (by omega),line_far b (by omega) (by omega) hj] at t
  have hz:i = 0 /\ j = m - 1:=by
    by_cases c:gapI i j < gapI 0 (m - 1)
    · have:=lineF_lt (b:=b) h (gap_nn i j) c
      omega
    · unfold gapI absI at c
      split at c<;>split at c<;>omega
  rw [e,line_far b (by omega) (by omega) hj,hz.1,hz.2]
  have g:gapI 0 (m - 1) = (m:Int) - 1:=by unfold gapI absI;split<;>omega
  rw [g,show ((m - 1:Nat):Int) = (m:Int) - 1 by omega];rfl
theorem line_row (b:Bool) {s:Int} (h:1 <= s) {m i:Nat} (hi:i < m):rowMax b (lineP s m) i = lineF b s (if m - 1 - i <= i then (i:Int) else ((m - 1 - i:Nat):Int)):=by
  unfold rowMax
  rw [line_len]
  obtain ⟨a1,a2,a3,_⟩:=amax_is (fF b (lineP s m) i) (m - 1)
  have hk:(amaxN (fF b (lineP s m) i) (m - 1)).2 < m:=by omega
  have x0:=a3 0 (by omega)
  have x1:=a3 (m - 1) (by omega)
  rw [a2] at x0 x1 ⊢
  rw [line_far b (by omega) hi (by omega),line_far b (by omega) hi hk] at x0 x1
  rw [line_far b (by omega) hi hk]
  generalize (amaxN (fF b (lineP s m) i) (m - 1)).2 = k at *
  have g0:gapI i 0 = (i:Int):=by unfold gapI absI;split<;>omega
  have g1:gapI i (m - 1) = ((m - 1 - i:Nat):Int):=by unfold gapI absI;split<;>omega
  rw [g0] at x0
  rw [g1] at x1
  have gk:gapI i k <= (if m - 1 - i <= i then (i:Int) else ((m - 1 - i:Nat):Int)):=by
    unfold gapI absI
    split<;>split<;>omega
  have up:=lineF_le (b:=b) h (gap_nn i k) gk
  split at up<;>split<;>omega
theorem line_mid (b:Bool) {s:Int} (h:1 <= s) {m:Nat} (hm:2 <= m):leastD (rowMax b (lineP s m)) m = .tup [.int (lineF b s ((m / 2:Nat):Int)),.int (((m - 1) / 2:Nat):Int)]:=by
  unfold leastD
  rw [if_neg (by omega)]
  obtain ⟨a1,a2,a3,a4⟩:=amin_is (rowMax b (lineP s m)) (m - 1)
  have ec:rowMax b (lineP s m) ((m - 1) / 2) = lineF b s ((m / 2:Nat):Int):=by
    rw [line_row b h (by omega)]
    congr 1
    split<;>omega
  have lo:∀ i,i < m -> lineF b s ((m / 2:Nat):Int) <= rowMax b (lineP s m) i:=fun i hi=>by
    rw [line_row b h hi]
    exact lineF_le h (by omega) (by split<;>omega)
  have up:∀ i,i < (m - 1) / 2 -> lineF b s ((m / 2:Nat):Int) < rowMax b (lineP s m) i:=fun i hi=>by
    rw [line_row b h (by omega)]
    exact lineF_lt h (by omega) (by split<;>omega)
  have hk:(aminN (rowMax b (lineP s m)) (m - 1)).2 < m:=by omega
  have l1:=a3 ((m - 1) / 2) (by omega)
  have l2:=lo _ hk
  have e2:(aminN (rowMax b (lineP s m)) (m - 1)).2 = (m - 1) / 2:=by
    rcases Nat.lt_trichotomy (aminN (rowMax b (lineP s m)) (m - 1)).2 ((m - 1) / 2) with z | z | z
    · have:=up _ z
      omega
    · exact z
    · have:=a4 _ z
      omega
  rw [a2,e2,ec]

noncomputable def sumN (f:Nat -> Int):Nat -> Int
  | 0=>0
  | n + 1=>sumN f n + f n
theorem sum_seq (f:Nat -> Int):∀ n,((seqI f n).map intV).sum = sumN f n
  | 0=>rfl
  | n + 1=>by
    rw [seqI_succ,List.map_append,List.sum_append,sum_seq f n]
    show _ + (f n + 0) = sumN f n + f n
    omega
theorem sumN_congr {f g:Nat -> Int}:∀ {n:Nat},(∀ i,i < n -> f i = g i) -> sumN f n = sumN g n
  | 0,_=>rfl
  | n + 1,h=>by
    show sumN f n + f n = sumN g n + g n
    rw [sumN_congr fun i hi=>h i (by omega),h n (by omega)]
theorem sumN_mul (c:Int) (f:Nat -> Int):∀ n,sumN (fun j=>c * f j) n = c * sumN f n
  | 0=>by show (0:Int) = c * 0;rw [Int.mul_zero]
  | n + 1=>by
    show sumN (fun j=>c * f j) n + c * f n = c * (sumN f n + f n)
    rw [sumN_mul c f n,Int.mul_add]
noncomputable def gapF (b:Bool) (i j:Nat):Int:=if b = true then ((i:Int) - j) * ((i:Int) - j) else gapI i j
noncomputable def facI (b:Bool) (s:Int):Int:=if b = true then s * s else s
theorem line_sum (b:Bool) {s:Int} (h:1 <= s) {m i:Nat} (hi:i < m):rowSum b (lineP s m) i = facI b s * sumN (gapF b i) m:=by
  unfold rowSum
  rw [line_len,sum_seq,<- sumN_mul]
  refine sumN_congr fun j hj=>?_
  rw [line_far b (by omega) hi hj]
  unfold lineF facI gapF
  cases b with
  | false=>rfl
  | true =>
    show s * gapI i j * (s * gapI i j) = s * s * (((i:Int) - j) * ((i:Int) - j))
    rw [<- abs_sq ((i:Int) - j)]
    show s * gapI i j * (s * gapI i j) = s * s * (gapI i j * gapI i j)
    simp only [Int.mul_assoc,Int.mul_left_comm]
theorem gap_up (i:Nat):∀ m,sumN (gapF false (i + 1)) m - sumN (gapF false i) m = if m <= i + 1 then (m:Int) else 2 * ((i:Int) + 1) - m
  | 0=>by rw [if_pos (by omega)];rfl
  | m + 1=>by
    have ih:=gap_up i m
    have e:gapF false (i + 1) m - gapF false i m = if m <= i then 1 else -1:=by
      show gapI (i + 1) m - gapI i m = _
      unfold gapI absI
      split<;>split<;>split<;>omega
    show sumN (gapF false (i + 1)) m + gapF false (i + 1) m - (sumN (gapF false i) m + gapF false i m) = _
    split at ih<;>split at e<;>split<;>omega
theorem gap_upT (i:Nat):∀ m:Nat,sumN (gapF true (i + 1)) m - sumN (gapF true i) m = (m:Int) * (2 * (i:Int) + 2 - m)
  | 0=>by rw [show ((0:Nat):Int) = 0 from rfl,Int.zero_mul];rfl
  | m + 1=>by
    have ih:=gap_upT i m
    have e:gapF true (i + 1) m - gapF true i m = 2 * ((i:Int) - m) + 1:=by
      show (((i + 1:Nat):Int) - m) * (((i + 1:Nat):Int) - m) - ((i:Int) - m) * ((i:Int) - m) = _
      rw [show ((i + 1:Nat):Int) - m = ((i:Int) - m) + 1 by omega]
      generalize (i:Int) - m = d
      rw [Int.add_mul,Int.mul_add];omega
    show sumN (gapF true (i + 1)) m + gapF true (i + 1) m - (sumN (gapF true i) m + gapF true i m) = ((m + 1:Nat):Int) * (2 * (i:Int) + 2 - ((m + 1:Nat):Int))
    have e2:((m + 1:Nat):Int) * (2 * (i:Int) + 2 - ((m + 1:Nat):Int)) = (m:Int) * (2 * (i:Int) + 2 - m) - m + (2 * (i:Int) + 2 - ((m:Int) + 1)):=by
      rw [show ((m + 1:Nat):Int) = (m:Int) + 1 by omega,Int.add_mul,Int.one_mul,show 2 * (i:Int) + 2 - ((m:Int) + 1) = (2 * (i:Int) + 2 - m) - 1 by omega,Int.mul_sub (m:Int) _ 1,Int.mul_one]
    omega
theorem gap_step (b:Bool) (i m:Nat) (hm:0 < m):(2 * i + 2 < m -> sumN (gapF b (i + 1)) m < sumN (gapF b i) m) /\ (m <= 2 * i + 2 -> sumN (gapF b i) m <= sumN (gapF b (i + 1)) m):=by
  cases b with
  | false =>
    have:=gap_up i m
    exact ⟨fun h=>by split at this<;>omega,fun h=>by split at this<;>omega⟩
  | true =>
    have:=gap_upT i m
    refine ⟨fun h=>?_,fun h=>?_⟩
    · have:=Int.mul_neg_of_pos_of_neg (show (0:Int) < m by omega) (show 2 * (i:Int) + 2 - m < 0 by omega)
      omega
    · have:=Int.mul_nonneg (show (0:Int) <= m by omega) (show 0 <= 2 * (i:Int) + 2 - m by omega)
      omega
theorem gap_low (b:Bool) (m:Nat) (hm:0 < m):∀ d,sumN (gapF b ((m - 1) / 2)) m <= sumN (gapF b ((m - 1) / 2 + d)) m
  | 0=>Int.le_refl _
  | d + 1=>Int.le_trans (gap_low b m hm d) ((gap_step b ((m - 1) / 2 + d) m hm).2 (by omega))
theorem gap_high (b:Bool) (m:Nat) (hm:0 < m):∀ d i,i + d + 1 = (m - 1) / 2 -> sumN (gapF b ((m - 1) / 2)) m < sumN (gapF b i) m
  | 0,i,h=>by rw [<- h];exact (gap_step b i m hm).1 (by omega)
  | d + 1,i,h=>Int.lt_trans (gap_high b m hm d (i + 1) (by omega)) ((gap_step b i m hm).1 (by omega))
theorem line_least (b:Bool) {s:Int} (h:1 <= s) {m:Nat} (hm:2 <= m):leastD (rowSum b (lineP s m)) m = .tup [.int (facI b s * sumN (gapF b ((m - 1) / 2)) m),.int (((m - 1) / 2:Nat):Int)]:=by
  unfold leastD
  rw [if_neg (by omega)]
  obtain ⟨a1,a2,a3,a4⟩:=amin_is (rowSum b (lineP s m)) (m - 1)
  have fp:0 < facI b s:=by unfold facI;split;exact Int.mul_pos (by omega) (by omega);omega
  have hk:(aminN (rowSum b (lineP s m)) (m - 1)).2 < m:=by omega
  have l1:=a3 ((m - 1) / 2) (by omega)
  rw [a2,line_sum b h hk,line_sum b h (show (m - 1) / 2 < m by omega)] at l1
  have e2:(aminN (rowSum b (lineP s m)) (m - 1)).2 = (m - 1) / 2:=by
    rcases Nat.lt_trichotomy (aminN (rowSum b (lineP s m)) (m - 1)).2 ((m - 1) / 2) with z | z | z
    · have:=gap_high b m (by omega) ((m - 1) / 2 - (aminN (rowSum b (lineP s m)) (m - 1)).2 - 1) (aminN (rowSum b (lineP s m)) (m - 1)).2 (by omega)
      have:=Int.mul_lt_mul_of_pos_left this fp
      omega
    · exact z
    · have q:=a4 _ z
      rw [a2,line_sum b h hk,line_sum b h (show (m - 1) / 2 < m by omega)] at q
      have g:=gap_low b m (by omega) ((aminN (rowSum b (lineP s m)) (m - 1)).2 - (m - 1) / 2)
      rw [show (m - 1) / 2 + ((aminN (rowSum b (lineP s m)) (m - 1)).2 - (m - 1) / 2) = (aminN (rowSum b (lineP s m)) (m - 1)).2 by omega] at g
      have:=Int.mul_le_mul_of_nonneg_left g (Int.le_of_lt fp)
      omega
  rw [a2,e2,line_sum b h (show (m - 1) / 2 < m by omega)]

theorem line_good {s:Int} {m:Nat} (h1:1 <= s) (h2:s <= 1000) (hm:m <= 900):Good 2 (lineP s m):=⟨by decide,fun p hp=>by
  obtain ⟨k,hk,rfl⟩:=List.mem_map.mp hp
  have hk:=List.mem_range.mp hk
  refine ⟨rfl,fun x hx=>?_⟩
  have a:=Int.mul_nonneg (show 0 <= s by omega) (show (0:Int) <= (k:Int) by omega)
  have c:=Int.mul_le_mul h2 (show (k:Int) <= 900 by omega) (by omega) (by decide)
  simp only [List.mem_cons,List.not_mem_nil,or_false] at hx
  rcases hx with rfl | rfl<;>omega⟩
noncomputable def sp_line:FSp:=fun ds Q=>∃ (c:Int) (b:Bool),ds = [.int c,wayD b] /\ Q (.sh (.bl true))
theorem p_line (ds:List D) (Q:B -> Prop) (h:sp_line ds Q):t_q6 sp_stir sp_f2 sp_mid sp_sums { nx:=fun _=>Q (.sh .non),rt:=fun b _=>Q b } (startD N_q6.length ds):=by
  obtain ⟨c,b,rfl,h⟩:=h
  unfold t_q6
  refine tSq_step fun N hN=>?_
  walk_at "vx"
  refine ⟨by decide,?_⟩
  walk_at "vx"
  refine ⟨by decide,?_⟩
  have sb:=stir_bd c 476
  obtain ⟨m,m1,m2,em⟩:∃ m:Nat,2 <= m /\ m <= 150 /\ 2 + stirI c 476 % 149 = (m:Int):=⟨(2 + stirI c 476 % 149).toNat,by omega,by omega,by omega⟩
  rw [em]
  subst hN
  refine tSq_step fun N hN=>?_
  walk_at "vx"
  refine ⟨by decide,?_⟩
  walk_at "vx"
  refine ⟨by decide,?_⟩
  have sb2:=stir_bd c 477
  obtain ⟨s,s1,s2,es⟩:∃ s:Int,1 <= s /\ s <= 1000 /\ 1 + stirI c 477 % 1000 = s:=⟨_,by omega,by omega,rfl⟩
  rw [es]
  subst hN
  -- points
  refine tSq_step fun N hN=>?_
  walk_at "vx"
  rw [Int.toNat_natCast,rngD_map]
  have cm:∀ x:Int,CMul s x:=fun x=>by unfold CMul;left;omega
  refine ⟨by omega,compD_onM (fun i:Nat=>.int (0 + (i:Nat))) (fun k:Nat=>ptD [5 - s * (k:Int),9]) _ (fun k hk A ha=>?_) (by rw [sz,List.length_range];omega) ?_⟩
  · rw [Int.zero_add]
    walk_at "vx"
    exact ⟨cm _,by decide,ha⟩
  rw [show ((List.range m).map fun k:Nat=>ptD [5 - s * (k:Int),9]) = (lineP s m).map ptD by unfold lineP;rw [List.map_map];rfl]
  subst hN
  -- ends,half,total
  refine tSq_step fun N hN=>?_
  walk_at "vx"
  refine ⟨cm _,?_⟩
  subst hN
  refine tSq_step fun N hN=>?_
  walk_at "vx"
  refine ⟨⟨by decide,by decide⟩,cm _,?_⟩
  subst hN
  refine tSq_step fun N hN=>?_
  walk_at "vx"
  rw [Int.toNat_natCast,rngD_map]
  have hmid:((m:Int) - 1) / 2 = (((m - 1) / 2:Nat):Int):=by omega
  refine ⟨by omega,compD_onM (fun i:Nat=>.int (0 + (i:Nat))) (fun k:Nat=>D.int (gapF false ((m - 1) / 2) k)) _ (fun k hk A ha=>?_) (by rw [sz,List.length_range];omega) ?_⟩
  · rw [Int.zero_add]
    walk_at "vx"
    rw [hmid]
    refine ⟨⟨by decide,by decide⟩,⟨by decide,by decide⟩,?_⟩
    rw [show (if (((m - 1) / 2:Nat):Int) - (k:Int) > (k:Int) - (((m - 1) / 2:Nat):Int) then (((m - 1) / 2:Nat):Int) - (k:Int) else (k:Int) - (((m - 1) / 2:Nat):Int)) = gapF false ((m - 1) / 2) k by
      show _ = gapI ((m - 1) / 2) k
      unfold gapI absI
      split<;>split<;>omega]
    exact ha
  rw [show ((List.range m).map fun k:Nat=>D.int (gapF false ((m - 1) / 2) k)) = seqI (gapF false ((m - 1) / 2)) m from rfl,sum_seq]
  refine ⟨seqI_isInt _ _,cm _,?_⟩
  subst hN
  -- by squares
  refine tSq_step fun N hN=>?_
  have fin:∀ x4:B,(x4 = .own ((lineP s m).map ptD) \/ x4 = .sh (.lst ((lineP s m).map ptD))) -> N [some (.sh (.int c)),some (.sh (wayD b)),some (.sh (.int (m:Nat))),some (.sh (.int s)),some x4,some (.sh (.int (lineF b s ((m:Int) - 1)))),some (.sh (.int (lineF b s ((m / 2:Nat):Int)))),some (.sh (.int (facI b s * sumN (gapF b ((m - 1) / 2)) m)))]:=by
    intro x4 hx4
    subst hN
    refine tSq_step fun N hN=>?_
    have hl:(lineP s m).length <= 1000:=by rw [line_len];omega
    have hg:=line_good (s:=s) (m:=m) s1 s2 (by omega)
    rcases hx4 with rfl | rfl
    all_goals
      walk_at "vx"
      refine ⟨b,2,lineP s m,rfl,hg,hl,?_⟩
      rw [line_two b s1 m1]
      walk_at "vx"
      refine ⟨by decide,⟨rfl,rfl⟩,?_⟩
      rw [eqD_self 8 _ rfl]
      refine (if_neg (by decide)).mpr ?_
      refine ⟨b,2,lineP s m,rfl,hg,hl,?_⟩
      rw [line_len,line_mid b s1 m1]
      walk_at "vx"
      rw [hmid]
      refine ⟨⟨by decide,by decide⟩,by decide,⟨rfl,rfl⟩,?_⟩
      rw [eqD_self 8 _ rfl]
      refine (if_neg (by decide)).mpr ?_
      subst hN
      walk_at "vx"
      refine ⟨b,2,lineP s m,rfl,hg,hl,?_⟩
      rw [line_len,line_least b s1 m1]
      walk_at "vx"
      rw [hmid]
      refine ⟨⟨by decide,by decide⟩,by decide,⟨rfl,rfl⟩,?_⟩
      rw [eqD_self 8 _ rfl]
      exact h
  unfold tParD
  walk_at "vx"
  rw [show (Str.ofString "squares") = "squares" from rfl,way_squares,show (m:Int) / 2 = ((m / 2:Nat):Int) by omega]
  refine ⟨⟨way_ok b,ok_squares⟩,?_⟩
  cases b with
  | false =>
    refine (if_neg (by decide)).mpr ?_
    exact fin _ (.inl rfl)
  | true =>
    refine (if_pos rfl).mpr ?_
    have p1:=Int.mul_nonneg (show 0 <= s by omega) (show (0:Int) <= (m:Int) - 1 by omega)
    have p2:=Int.mul_le_mul s2 (show (m:Int) - 1 <= 150 by omega) (by omega) (by decide)
    have p3:=Int.mul_nonneg (show 0 <= s by omega) (show (0:Int) <= ((m / 2:Nat):Int) by omega)
    have p4:=Int.mul_le_mul s2 (show ((m / 2:Nat):Int) <= 150 by omega) (by omega) (by decide)
    have p5:=Int.mul_le_mul s2 s2 (by omega) (by decide)
    have p6:=Int.mul_nonneg (show 0 <= s by omega) (show 0 <= s by omega)
    rw [Int.toNat_natCast,rngD_map]
    refine ⟨by unfold CMul;left;omega,by unfold CMul;left;omega,cm _,by omega,compD_onM (fun i:Nat=>.int (0 + (i:Nat))) (fun k:Nat=>D.int (gapF true ((m - 1) / 2) k)) _ (fun k hk A ha=>?_) (by rw [sz,List.length_range];omega) ?_⟩
    · have hk:=List.mem_range.mp hk
      rw [Int.zero_add]
      walk_at "vx"
      rw [hmid]
      refine ⟨⟨by decide,by decide⟩,⟨by decide,by decide⟩,by unfold CMul;left;omega,?_⟩
      rw [show ((k:Int) - (((m - 1) / 2:Nat):Int)) * ((k:Int) - (((m - 1) / 2:Nat):Int)) = gapF true ((m - 1) / 2) k by
        show _ = ((((m - 1) / 2:Nat):Int) - (k:Int)) * ((((m - 1) / 2:Nat):Int) - (k:Int))
        rw [<- Int.neg_sub (((m - 1) / 2:Nat):Int) (k:Int),Int.neg_mul_neg]]
      exact ha
    rw [show ((List.range m).map fun k:Nat=>D.int (gapF true ((m - 1) / 2) k)) = seqI (gapF true ((m - 1) / 2)) m from rfl,sum_seq]
    refine ⟨seqI_isInt _ _,by unfold CMul;left;omega,?_⟩
    exact fin _ (.inl rfl)

structure Alike9 (b:Bool) (pts pts':List (List Int)):Prop where
  len:pts.length = pts'.length
  far:∀ i j,fF b pts i j = fF b pts' i j
theorem Alike9.pairs {b:Bool} {pts pts':List (List Int)} (h:Alike9 b pts pts'):pairsD b pts = pairsD b pts':=by
  have hp:∀ i j,pairD b pts i j = pairD b pts' i j:=fun i j=>by
    unfold pairD
    rw [show farI b (pts.getD i []) (pts.getD j []) = farI b (pts'.getD i []) (pts'.getD j []) from h.far i j]
  have hr:∀ i,rowsD b pts i = rowsD b pts' i:=fun i=>by
    induction i with
    | zero=>rfl
    | succ i ih =>
      show rowsD b pts i ++ rowD b pts i (pts.length - (i + 1)) = rowsD b pts' i ++ rowD b pts' i (pts'.length - (i + 1))
      rw [ih,h.len]
      unfold rowD
      congr 1
      exact List.map_congr_left fun t _=>hp _ _
  unfold pairsD
  rw [hr,h.len]
noncomputable def told9 (b:Bool) (pts:List (List Int)):List D:=[fbD (pairsD b pts),leastD (rowMax b pts) pts.length,leastD (rowSum b pts) pts.length]
theorem Alike9.told {b:Bool} {pts pts':List (List Int)} (h:Alike9 b pts pts'):told9 b pts = told9 b pts':=by
  have hf:∀ i,fF b pts i = fF b pts' i:=fun i=>funext (h.far i)
  have h1:rowMax b pts = rowMax b pts':=funext fun i=>by unfold rowMax;rw [hf,h.len]
  have h2:rowSum b pts = rowSum b pts':=funext fun i=>by unfold rowSum;rw [hf,h.len]
  unfold told9
  rw [h1,h2,h.pairs,h.len]
theorem getD_map9 {f:List Int -> List Int} (h0:f [] = []) (pts:List (List Int)) (i:Nat):(pts.map f).getD i [] = f (pts.getD i []):=by
  rw [List.getD_eq_getElem?_getD,List.getElem?_map,List.getD_eq_getElem?_getD]
  cases pts[i]? with
  | none=>exact h0.symm
  | some p=>rfl
theorem good_or9 {n:Nat} {pts:List (List Int)} (g:Good n pts) (i:Nat):pts.getD i [] = [] \/ (pts.getD i []).length = n:=by
  by_cases h:i < pts.length
  · exact .inr (g.2 _ (getD_mem h)).1
  · left
    rw [List.getD_eq_getElem?_getD,List.getElem?_eq_none (by omega)];rfl
theorem alike_map {b:Bool} {f:Int -> Int} (h:∀ x y,f x - f y = x - y \/ f x - f y = y - x) (pts:List (List Int)):Alike9 b (pts.map fun p=>p.map f) pts:=⟨List.length_map ..,fun i j=>by
  unfold fF
  rw [getD_map9 rfl,getD_map9 rfl]
  exact far_map h _ _⟩
theorem far_empty (b:Bool) (p:List Int):farI b p [] = 0:=by unfold farI;rw [List.zip_nil_right];rfl
theorem alike_rev {b:Bool} {n:Nat} {pts:List (List Int)} (g:Good n pts):Alike9 b (pts.map List.reverse) pts:=⟨List.length_map ..,fun i j=>by
  unfold fF
  rw [getD_map9 rfl,getD_map9 rfl]
  rcases good_or9 g i with h1 | h1
  · rw [h1];rfl
  · rcases good_or9 g j with h2 | h2
    · rw [h2,List.reverse_nil,far_empty,far_empty]
    · exact far_rev b _ _ (by rw [h1,h2])⟩
theorem wider_far {b:Bool} {f:Int} (h:0 <= f) (pts:List (List Int)) (i j:Nat):fF b (pts.map fun p=>p.map (f * ·)) i j = moreI b f * fF b pts i j:=by
  unfold fF
  rw [getD_map9 rfl,getD_map9 rfl]
  exact far_times h _ _
theorem more_pos {b:Bool} {f:Int} (h:1 <= f):0 < moreI b f:=by
  unfold moreI
  split
  · exact Int.mul_pos (by omega) (by omega)
  · omega
theorem wider_two {b:Bool} {f:Int} (h:1 <= f) {pts:List (List Int)} (h2:2 <= pts.length):∃ (M:Int) (i j:Nat),fbD (pairsD b pts) = .tup [.int M,.int (i:Nat),.int (j:Nat)] /\ fbD (pairsD b (pts.map fun p=>p.map (f * ·))) = .tup [.int (moreI b f * M),.int (i:Nat),.int (j:Nat)]:=by
  have l:(pts.map fun p=>p.map (f * ·)).length = pts.length:=List.length_map ..
  obtain ⟨i,j,a1,a2,a3,a4,a5⟩:=f2_is b pts h2
  obtain ⟨p,q,c1,c2,c3,c4,c5⟩:=f2_is b (pts.map fun p=>p.map (f * ·)) (by rw [l];exact h2)
  rw [l] at c2 c4 c5
  have mp:=more_pos (b:=b) h
  have wf:=fun i j=>wider_far (b:=b) (show 0 <= f by omega) pts i j
  have e1:=c4 i j a1 a2
  rw [wf,wf] at e1
  have e1:fF b pts i j <= fF b pts p q:=Int.le_of_mul_le_mul_left e1 mp
  have e2:=a4 p q c1 c2
  have same:p = i /\ q = j:=by
    by_cases z:p < i \/ (p = i /\ q < j)
    · have:=a5 p q c1 c2 z
      omega
    · by_cases y:i < p \/ (i = p /\ j < q)
      · have:=c5 i j a1 a2 y
        rw [wf,wf] at this
        have:=Int.lt_of_mul_lt_mul_left this (Int.le_of_lt mp)
        omega
      · omega
  refine ⟨fF b pts i j,i,j,a3,?_⟩
  rw [c3,same.1,same.2]
  show D.tup [.int (fF b (pts.map fun p=>p.map (f * ·)) i j),_,_] = _
  rw [wf];rfl
theorem amin_mul {c:Int} (hc:0 < c) (f:Nat -> Int):∀ n,aminN (fun i=>c * f i) n = (c * (aminN f n).1,(aminN f n).2)
  | 0=>rfl
  | n + 1=>by
    rw [amin_succ,amin_succ,amin_mul hc f n]
    by_cases l:f (n + 1) < (aminN f n).1
    · rw [if_pos l,if_pos (Int.mul_lt_mul_of_pos_left l hc)]
    · rw [if_neg l,if_neg (fun z=>l (Int.lt_of_mul_lt_mul_left z (Int.le_of_lt hc)))]
theorem amax_mul {c:Int} (hc:0 < c) (f:Nat -> Int):∀ n,amaxN (fun i=>c * f i) n = (c * (amaxN f n).1,(amaxN f n).2)
  | 0=>rfl
  | n + 1=>by
    rw [amax_succ,amax_succ,amax_mul hc f n]
    by_cases l:(amaxN f n).1 < f (n + 1)
    · rw [if_pos l,if_pos (Int.mul_lt_mul_of_pos_left l hc)]
    · rw [if_neg l,if_neg (fun z=>l (Int.lt_of_mul_lt_mul_left z (Int.le_of_lt hc)))]
theorem wider_row {b:Bool} {f:Int} (h:1 <= f) (pts:List (List Int)):rowMax b (pts.map fun p=>p.map (f * ·)) = fun i=>moreI b f * rowMax b pts i:=funext fun i=>by
  unfold rowMax
  rw [show fF b (pts.map fun p=>p.map (f * ·)) i = fun j=>moreI b f * fF b pts i j from funext fun j=>wider_far (by omega) pts i j,List.length_map,amax_mul (more_pos h)]
theorem wider_sum {b:Bool} {f:Int} (h:1 <= f) (pts:List (List Int)):rowSum b (pts.map fun p=>p.map (f * ·)) = fun i=>moreI b f * rowSum b pts i:=funext fun i=>by
  unfold rowSum
  rw [show fF b (pts.map fun p=>p.map (f * ·)) i = fun j=>moreI b f * fF b pts i j from funext fun j=>wider_far (by omega) pts i j,List.length_map,sum_seq,sum_seq,sumN_mul]
theorem least_mul {c:Int} (hc:0 < c) (f:Nat -> Int) {n:Nat} (hn:0 < n):leastD (fun i=>c * f i) n = .tup [.int (c * (aminN f (n - 1)).1),.int ((aminN f (n - 1)).2:Nat)]:=by
  unfold leastD
  rw [if_neg (by omega),amin_mul hc]

theorem rev_get {pts:List (List Int)} {i:Nat} (h:i < pts.length):pts.reverse.getD i [] = pts.getD (pts.length - 1 - i) []:=by
  rw [List.getD_eq_getElem?_getD,List.getD_eq_getElem?_getD,List.getElem?_reverse h]
theorem rev_far {b:Bool} {pts:List (List Int)} {i j:Nat} (hi:i < pts.length) (hj:j < pts.length):fF b pts.reverse i j = fF b pts (pts.length - 1 - i) (pts.length - 1 - j):=by
  unfold fF
  rw [rev_get hi,rev_get hj]
theorem two_le {b:Bool} {pts pts':List (List Int)} (h:2 <= pts.length) (h':2 <= pts'.length) (hs:∀ i j,i < pts.length -> j < pts.length -> ∃ i' j',i' < pts'.length /\ j' < pts'.length /\ fF b pts i j = fF b pts' i' j'):∃ (M M':Int) (i j i' j':Nat),fbD (pairsD b pts) = .tup [.int M,.int (i:Nat),.int (j:Nat)] /\ fbD (pairsD b pts') = .tup [.int M',.int (i':Nat),.int (j':Nat)] /\ M <= M':=by
  obtain ⟨i,j,a1,a2,a3,a4,_⟩:=two_row b pts h
  obtain ⟨p,q,c1,c2,c3,c4,_⟩:=two_row b pts' h'
  refine ⟨_,_,i,j,p,q,a3,c3,?_⟩
  obtain ⟨i',j',x1,x2,e⟩:=hs i j (by omega) a2
  rw [e]
  exact c4 i' j' x1 x2
theorem rev_two {b:Bool} {pts:List (List Int)} (h:2 <= pts.length):∃ (M:Int) (i j i' j':Nat),fbD (pairsD b pts) = .tup [.int M,.int (i:Nat),.int (j:Nat)] /\ fbD (pairsD b pts.reverse) = .tup [.int M,.int (i':Nat),.int (j':Nat)]:=by
  have l:pts.reverse.length = pts.length:=List.length_reverse ..
  obtain ⟨i,j,a1,a2,a3,a4,_⟩:=two_row b pts h
  obtain ⟨p,q,c1,c2,c3,c4,_⟩:=two_row b pts.reverse (by rw [l];exact h)
  rw [l] at c2 c4
  have e1:=c4 (pts.length - 1 - i) (pts.length - 1 - j) (by omega) (by omega)
  rw [rev_far (by omega) (by omega),show pts.length - 1 - (pts.length - 1 - i) = i by omega,show pts.length - 1 - (pts.length - 1 - j) = j by omega] at e1
  have e2:=a4 (pts.length - 1 - p) (pts.length - 1 - q) (by omega) (by omega)
  rw [<- rev_far (by omega) c2] at e2
  refine ⟨fF b pts i j,i,j,p,q,a3,?_⟩
  rw [c3,show fF b pts.reverse p q = fF b pts i j by omega]
theorem row_top {b:Bool} {pts:List (List Int)} {i:Nat} (hi:i < pts.length):(∀ q,q < pts.length -> fF b pts i q <= rowMax b pts i) /\ ∃ q,q < pts.length /\ rowMax b pts i = fF b pts i q:=by
  unfold rowMax
  obtain ⟨a1,a2,a3,_⟩:=amax_is (fF b pts i) (pts.length - 1)
  exact ⟨fun q hq=>a3 q (by omega),_,by omega,a2⟩
theorem rev_row {b:Bool} {pts:List (List Int)} {i:Nat} (hi:i < pts.length):rowMax b pts.reverse i = rowMax b pts (pts.length - 1 - i):=by
  have l:pts.reverse.length = pts.length:=List.length_reverse ..
  obtain ⟨t1,q1,h1,e1⟩:=row_top (b:=b) (pts:=pts.reverse) (i:=i) (by rw [l];exact hi)
  obtain ⟨t2,q2,h2,e2⟩:=row_top (b:=b) (pts:=pts) (i:=pts.length - 1 - i) (by omega)
  rw [l] at t1 h1
  have x1:=t2 (pts.length - 1 - q1) (by omega)
  rw [<- rev_far hi h1,<- e1] at x1
  have x2:=t1 (pts.length - 1 - q2) (by omega)
  rw [rev_far hi (by omega),show pts.length - 1 - (pts.length - 1 - q2) = q2 by omega,<- e2] at x2
  omega
theorem rev_mid {b:Bool} {pts:List (List Int)} (h:0 < pts.length):(aminN (rowMax b pts.reverse) (pts.length - 1)).1 = (aminN (rowMax b pts) (pts.length - 1)).1:=by
  obtain ⟨a1,a2,a3,_⟩:=amin_is (rowMax b pts) (pts.length - 1)
  obtain ⟨c1,c2,c3,_⟩:=amin_is (rowMax b pts.reverse) (pts.length - 1)
  have x1:=c3 (pts.length - 1 - (aminN (rowMax b pts) (pts.length - 1)).2) (by omega)
  rw [rev_row (by omega),show pts.length - 1 - (pts.length - 1 - (aminN (rowMax b pts) (pts.length - 1)).2) = (aminN (rowMax b pts) (pts.length - 1)).2 by omega,<- a2] at x1
  have x2:=a3 (pts.length - 1 - (aminN (rowMax b pts.reverse) (pts.length - 1)).2) (by omega)
  rw [<- rev_row (by omega),<- c2] at x2
  omega

noncomputable def Near9 (v:Int):Prop:=-(10 ^ 14) <= v /\ v <= 10 ^ 14
noncomputable def sp_oth:FSp:=fun ds Q=>∃ (c:Int) (b:Bool) (n:Nat) (pts:List (List Int)),ds = [.int c,ptsD pts,wayD b] /\ Good n pts /\ (∀ p ∈ pts,∀ v ∈ p,Near9 v) /\ 2 <= pts.length /\ pts.length <= 100 /\ Q (.sh (.bl true))
theorem map_good {n:Nat} {pts:List (List Int)} {f:Int -> Int} (g:Good n pts) (hf:∀ p ∈ pts,∀ v ∈ p,Near9 v) (h:∀ v,Near9 v -> -(2 ^ 59) < f v /\ f v < 2 ^ 59):Good n (pts.map fun p=>p.map f):=⟨g.1,fun p hp=>by
  obtain ⟨q,hq,rfl⟩:=List.mem_map.mp hp
  refine ⟨by rw [List.length_map];exact (g.2 q hq).1,fun x hx=>?_⟩
  obtain ⟨v,hv,rfl⟩:=List.mem_map.mp hx
  exact h v (hf q hq v hv)⟩
theorem rev_good {n:Nat} {pts:List (List Int)} (g:Good n pts):Good n (pts.map List.reverse):=⟨g.1,fun p hp=>by
  obtain ⟨q,hq,rfl⟩:=List.mem_map.mp hp
  exact ⟨by rw [List.length_reverse];exact (g.2 q hq).1,fun x hx=>(g.2 q hq).2 x (List.mem_reverse.mp hx)⟩⟩
theorem p_oth (ds:List D) (Q:B -> Prop) (h:sp_oth ds Q):t_q1 sp_stir sp_f2 sp_mid sp_sums { nx:=fun _=>Q (.sh .non),rt:=fun b _=>Q b } (startD N_q1.length ds):=by
  obtain ⟨c,b,n,pts,rfl,hg,hf,h2,hl,h⟩:=h
  have hl':pts.length <= 1000:=by omega
  unfold t_q1
  rw [show ptsD pts = .lst (pts.map ptD) from rfl]
  refine tSq_step fun N hN=>?_
  walk_at "vx"
  refine ⟨by decide,?_⟩
  walk_at "vx"
  refine ⟨by decide,?_⟩
  have sb:=stir_bd c 470
  obtain ⟨s,s1,s2,es⟩:∃ s:Int,-1000 <= s /\ s <= 1000 /\ stirI c 470 % 2001 - 1000 = s:=⟨_,by omega,by omega,rfl⟩
  rw [es]
  subst hN
  refine tSq_step fun N hN=>?_
  walk_at "vx"
  refine ⟨by decide,?_⟩
  walk_at "vx"
  refine ⟨by decide,?_⟩
  have sb2:=stir_bd c 471
  obtain ⟨f,f1,f2,ef⟩:∃ f:Int,1 <= f /\ f <= 10 /\ 2 + stirI c 471 % 9 = f:=⟨_,by omega,by omega,rfl⟩
  rw [ef]
  subst hN
  -- told
  refine tSq_step fun N hN=>?_
  walk_at "vx"
  refine ⟨b,n,pts,rfl,hg,hl',?_⟩
  walk_at "vx"
  refine ⟨b,n,pts,rfl,hg,hl',?_⟩
  walk_at "vx"
  refine ⟨b,n,pts,rfl,hg,hl',?_⟩
  walk_at "vx"
  refine ⟨by decide,?_⟩
  subst hN
  -- others
  refine tSq_step fun N hN=>?_
  walk_at "vx"
  have n3:=hg.1.2
  have ln:∀ p ∈ pts,p.length <= 3:=fun p hp=>by rw [(hg.2 p hp).1];exact n3
  have tup:∀ (p:List Int) (g:Int -> Int),D.tup (p.map fun x=>D.int (g x)) = ptD (p.map g):=fun p g=>by
    show _ = D.tup ((p.map g).map D.int)
    rw [List.map_map];rfl
  refine compD_onM ptD (fun p=>ptD (p.map (· + s))) _ (fun p hp A ha=>?_) (by rw [sz];omega) ?_
  · have:=ln p hp
    rw [show ptD p = .tup (p.map D.int) from rfl]
    walk_at "vx"
    refine compD_onM D.int (fun x:Int=>D.int (x + s)) _ (fun x _ A ha=>?_) (by rw [sz];omega) ?_
    · walk_at "vx"
      exact ha
    rw [tup p (· + s)]
    walk_at "vx"
    exact ha
  refine ⟨by decide,?_⟩
  subst hN
  refine tSq_step fun N hN=>?_
  walk_at "vx"
  refine ⟨⟨_,rfl⟩,compD_onM ptD (fun p=>ptD (p.map (0 - ·))) _ (fun p hp A ha=>?_) (by rw [sz];omega) ?_⟩
  · have:=ln p hp
    rw [show ptD p = .tup (p.map D.int) from rfl]
    walk_at "vx"
    refine compD_onM D.int (fun x:Int=>D.int (0 - x)) _ (fun x _ A ha=>?_) (by rw [sz];omega) ?_
    · walk_at "vx"
      exact ha
    rw [tup p (0 - ·)]
    walk_at "vx"
    exact ha
  refine ⟨by decide,?_⟩
  subst hN
  refine tSq_step fun N hN=>?_
  walk_at "vx"
  refine ⟨⟨_,rfl⟩,compD_onM ptD (fun p=>ptD p.reverse) _ (fun p hp A ha=>?_) (by rw [sz];omega) ?_⟩
  · have:=ln p hp
    rw [show ptD p = .tup (p.map D.int) from rfl]
    walk_at "vx"
    rw [<- List.map_reverse]
    exact ha
  refine ⟨by decide,?_⟩
  have gs:Good n (pts.map fun p=>p.map (· + s)):=map_good hg hf fun v hv=>by unfold Near9 at hv;omega
  have g0:Good n (pts.map fun p=>p.map (0 - ·)):=map_good hg hf fun v hv=>by unfold Near9 at hv;omega
  rw [show [D.lst (pts.map fun p=>ptD (p.map (· + s))),D.lst (pts.map fun p=>ptD (p.map (0 - ·))),D.lst (pts.map fun p=>ptD p.reverse)] = [pts.map (fun p=>p.map (· + s)),pts.map (fun p=>p.map (0 - ·)),pts.map List.reverse].map ptsD by
    show _ = [D.lst ((pts.map fun p=>p.map (· + s)).map ptD),D.lst ((pts.map fun p=>p.map (0 - ·)).map ptD),D.lst ((pts.map List.reverse).map ptD)]
    rw [List.map_map,List.map_map,List.map_map];rfl]
  have hL:∀ l ∈ [pts.map (fun p=>p.map (· + s)),pts.map (fun p=>p.map (0 - ·)),pts.map List.reverse],Good n l /\ Alike9 b l pts:=fun l hl=>by
    simp only [List.mem_cons,List.not_mem_nil,or_false] at hl
    rcases hl with rfl | rfl | rfl
    · exact ⟨gs,alike_map (fun x y=>.inl (by omega)) pts⟩
    · exact ⟨g0,alike_map (fun x y=>.inr (by omega)) pts⟩
    · exact ⟨rev_good hg,alike_rev hg⟩
  generalize [pts.map (fun p=>p.map (· + s)),pts.map (fun p=>p.map (0 - ·)),pts.map List.reverse] = LL at hL
  subst hN
  -- each as told
  refine tSq_step fun N hN=>?_
  show tForD _ _ _ _ _
  generalize ht:tIfD _ (tRt [] _) tNx = tb
  walk_at "vx"
  have okt:okD 8 (.lst (told9 b pts)) = true:=by
    obtain ⟨i,j,_,_,e,_⟩:=two_row b pts h2
    unfold told9 leastD
    rw [e,if_neg (by omega),if_neg (by omega)];rfl
  refine forD_on ptsD LL (fun _ σ=>∃ x7,σ = [some (.sh (.int c)),some (.sh (.lst (pts.map ptD))),some (.sh (wayD b)),some (.sh (.int s)),some (.sh (.int f)),some (.own (told9 b pts)),some (.sh (.lst (LL.map ptsD))),x7,none,none,none,none]) (fun i l σ M hx hI hM=>?_) (fun σ hI=>?_) ⟨_,rfl⟩
  · obtain ⟨x7,rfl⟩:=hI
    obtain ⟨gl,al⟩:=hL l (List.mem_of_getElem? hx)
    have ll:l.length <= 1000:=by rw [al.len];omega
    subst ht
    walk_at "vg"
    walk_at "vx"
    refine ⟨b,n,l,rfl,gl,ll,?_⟩
    walk_at "vx"
    refine ⟨b,n,l,rfl,gl,ll,?_⟩
    walk_at "vx"
    refine ⟨b,n,l,rfl,gl,ll,?_⟩
    walk_at "vx"
    rw [show [fbD (pairsD b l),leastD (rowMax b l) l.length,leastD (rowSum b l) l.length] = told9 b pts from al.told]
    refine ⟨by decide,⟨okt,okt⟩,?_⟩
    rw [eqD_self 8 _ okt]
    exact (if_neg (by decide)).mpr (hM _ ⟨_,rfl⟩)
  obtain ⟨x7,rfl⟩:=hI
  show N _
  subst hN
  clear ht
  -- wider
  refine tSq_step fun N hN=>?_
  walk_at "vx"
  refine compD_onM ptD (fun p=>ptD (p.map (f * ·))) _ (fun p hp A ha=>?_) (by rw [sz];omega) ?_
  · have:=ln p hp
    rw [show ptD p = .tup (p.map D.int) from rfl]
    walk_at "vx"
    refine compD_onM D.int (fun x:Int=>D.int (f * x)) _ (fun x _ A ha=>?_) (by rw [sz];omega) ?_
    · walk_at "vx"
      exact ⟨by unfold CMul;left;omega,ha⟩
    rw [tup p (f * ·)]
    walk_at "vx"
    exact ha
  rw [show (pts.map fun p=>ptD (p.map (f * ·))) = (pts.map fun p=>p.map (f * ·)).map ptD by rw [List.map_map];rfl]
  have gw:Good n (pts.map fun p=>p.map (f * ·)):=map_good hg hf fun v hv=>by
    unfold Near9 at hv
    have a1:=Int.mul_le_mul_of_nonneg_left hv.1 (show 0 <= f by omega)
    have a2:=Int.mul_le_mul_of_nonneg_left hv.2 (show 0 <= f by omega)
    omega
  have lw:(pts.map fun p=>p.map (f * ·)).length = pts.length:=List.length_map ..
  subst hN
  -- more
  refine tSq_step fun N hN=>?_
  walk_at "vx"
  rw [show (Str.ofString "squares") = "squares" from rfl,way_squares]
  have hix:∀ P:D -> Prop,P (.int (moreI b f)) -> ixD (D.lst [D.int f,D.int (f * f)]) (D.int (if b = true then 1 else 0)) P:=fun P hP=>by
    cases b with
    | false=>exact ix_lst_at (n:=0) rfl rfl hP
    | true=>exact ix_lst_at (n:=1) rfl rfl hP
  refine ⟨by unfold CMul;left;omega,by decide,⟨way_ok b,ok_squares⟩,hix _ ?_⟩
  subst hN
  obtain ⟨M,i0,j0,w1,w2⟩:=wider_two (b:=b) f1 h2
  have mb:0 < moreI b f /\ moreI b f <= 100:=⟨more_pos f1,by
    unfold moreI
    split
    · have:=Int.mul_le_mul f2 f2 (by omega) (by decide)
      omega
    · omega⟩
  have cm:∀ x:Int,CMul (moreI b f) x:=fun x=>by unfold CMul;left;omega
  have et:told9 b pts = [.tup [.int M,.int (i0:Nat),.int (j0:Nat)],.tup [.int (aminN (rowMax b pts) (pts.length - 1)).1,.int ((aminN (rowMax b pts) (pts.length - 1)).2:Nat)],.tup [.int (aminN (rowSum b pts) (pts.length - 1)).1,.int ((aminN (rowSum b pts) (pts.length - 1)).2:Nat)]]:=by
    unfold told9 leastD
    rw [w1,if_neg (by omega),if_neg (by omega)]
  rw [et]
  refine tSq_step fun N hN=>?_
  walk_at "vx"
  refine ⟨b,n,_,rfl,gw,by rw [lw];exact hl',?_⟩
  rw [w2]
  walk_at "vx"
  generalize hmi:(aminN (rowMax b pts) (pts.length - 1)).2 = mi
  generalize hmv:(aminN (rowMax b pts) (pts.length - 1)).1 = mv
  generalize hsi:(aminN (rowSum b pts) (pts.length - 1)).2 = si
  generalize hsv:(aminN (rowSum b pts) (pts.length - 1)).1 = sv
  refine ix_lst_at (n:=0) rfl rfl ?_
  refine ix_tup_at (n:=0) rfl rfl ?_
  walk_at "vx"
  refine ⟨cm _,?_⟩
  refine ix_lst_at (n:=0) rfl rfl ?_
  refine ix_tup_at (n:=1) rfl rfl ?_
  refine ix_lst_at (n:=0) rfl rfl ?_
  refine ix_tup_at (n:=2) rfl rfl ?_
  refine ⟨by decide,⟨rfl,rfl⟩,?_⟩
  rw [eqD_self 8 _ rfl]
  refine (if_neg (by decide)).mpr ?_
  subst hN
  -- the middle,the sums
  refine tSq_step fun N hN=>?_
  walk_at "vx"
  refine ⟨b,n,_,rfl,gw,by rw [lw];exact hl',?_⟩
  rw [lw,wider_row f1,least_mul mb.1 _ (by omega),hmv,hmi]
  walk_at "vx"
  refine ix_lst_at (n:=1) rfl rfl ?_
  refine ix_tup_at (n:=0) rfl rfl ?_
  walk_at "vx"
  refine ⟨cm _,?_⟩
  refine ix_lst_at (n:=1) rfl rfl ?_
  refine ix_tup_at (n:=1) rfl rfl ?_
  refine ⟨by decide,⟨rfl,rfl⟩,?_⟩
  rw [eqD_self 8 _ rfl]
  refine (if_neg (by decide)).mpr ?_
  refine ⟨b,n,_,rfl,gw,by rw [lw];exact hl',?_⟩
  rw [lw,wider_sum f1,least_mul mb.1 _ (by omega),hsv,hsi]
  walk_at "vx"
  refine ix_tup_at (n:=0) rfl rfl ?_
  refine ix_lst_at (n:=2) rfl rfl ?_
  refine ix_tup_at (n:=0) rfl rfl ?_
  walk_at "vx"
  refine ⟨cm _,⟨rfl,rfl⟩,?_⟩
  rw [eqD_self 8 _ rfl]
  refine (if_neg (by decide)).mpr ?_
  subst hN
  -- turned
  refine tSq_step fun N hN=>?_
  walk_at "vx"
  rw [<- List.map_reverse]
  subst hN
  have gr:Good n pts.reverse:=⟨hg.1,fun p hp=>hg.2 p (List.mem_reverse.mp hp)⟩
  have lr:pts.reverse.length = pts.length:=List.length_reverse ..
  obtain ⟨M',i1,j1,i2,j2,v1,v2⟩:=rev_two (b:=b) h2
  have eM:M' = M:=by
    rw [w1] at v1
    have:=congrArg (fun d=>match d with | D.tup [.int x,_,_]=>x | _=>0) v1
    exact this.symm
  rw [eM] at v2
  refine tSq_step fun N hN=>?_
  walk_at "vx"
  refine ⟨b,n,pts.reverse,rfl,gr,by rw [lr];exact hl',?_⟩
  rw [v2]
  walk_at "vx"
  refine ix_tup_at (n:=0) rfl rfl ?_
  refine ix_lst_at (n:=0) rfl rfl ?_
  refine ix_tup_at (n:=0) rfl rfl ?_
  refine ⟨⟨rfl,rfl⟩,?_⟩
  rw [eqD_self 8 _ rfl]
  refine (if_neg (by decide)).mpr ?_
  refine ⟨b,n,pts.reverse,rfl,gr,by rw [lr];exact hl',?_⟩
  rw [lr,show leastD (rowMax b pts.reverse) pts.length = .tup [.int mv,.int ((aminN (rowMax b pts.reverse) (pts.length - 1)).2:Nat)] by unfold leastD;rw [if_neg (by omega),rev_mid (by omega),hmv]]
  walk_at "vx"
  refine ix_tup_at (n:=0) rfl rfl ?_
  refine ix_lst_at (n:=1) rfl rfl ?_
  refine ix_tup_at (n:=0) rfl rfl ?_
  refine ⟨⟨rfl,rfl⟩,?_⟩
  rw [eqD_self 8 _ rfl]
  refine (if_neg (by decide)).mpr ?_
  subst hN
  -- longer
  refine tSq_step fun N hN=>?_
  walk_at "vx"
  refine ix_lst_at (n:=0) rfl (pts_get (by omega)) ?_
  rw [show ptD (pts.getD 0 []) = .tup ((pts.getD 0 []).map D.int) from rfl]
  walk_at "vx"
  rw [List.length_map,(hg.2 _ (getD_mem (show 0 < pts.length by omega))).1,Int.toNat_natCast,rngD_map]
  refine ⟨by omega,compD_onM (fun i:Nat=>.int (0 + (i:Nat))) (fun k:Nat=>D.int (stirI c (472 + (k:Int)) % 2001 - 1000)) _ (fun k hk A ha=>?_) (by rw [sz,List.length_range];omega) ?_⟩
  · have hk:=List.mem_range.mp hk
    rw [Int.zero_add]
    walk_at "vx"
    refine ⟨by omega,?_⟩
    walk_at "vx"
    exact ⟨by decide,ha⟩
  have hq:∃ q:List Int,D.tup ((List.range n).map fun k:Nat=>D.int (stirI c (472 + (k:Int)) % 2001 - 1000)) = ptD q /\ q.length = n /\ ∀ v ∈ q,Near9 v:=⟨(List.range n).map fun k:Nat=>stirI c (472 + (k:Int)) % 2001 - 1000,by
    show _ = D.tup (((List.range n).map fun k:Nat=>stirI c (472 + (k:Int)) % 2001 - 1000).map D.int)
    rw [List.map_map];rfl,by rw [List.length_map,List.length_range],fun v hv=>by
    obtain ⟨k,_,rfl⟩:=List.mem_map.mp hv
    unfold Near9
    omega⟩
  obtain ⟨q,eq,lq,nq⟩:=hq
  rw [eq,List.length_map,show pts.map ptD ++ [ptD q] = (pts ++ [q]).map ptD by rw [List.map_append];rfl]
  refine ⟨by decide,by rw [sz];omega,?_⟩
  have la:(pts ++ [q]).length = pts.length + 1:=by rw [List.length_append];rfl
  have ga:Good n (pts ++ [q]):=⟨hg.1,fun p hp=>by
    rcases List.mem_append.mp hp with hp | hp
    · exact hg.2 p hp
    · rw [List.mem_singleton.mp hp]
      exact ⟨lq,fun x hx=>by have:=nq x hx;unfold Near9 at this;omega⟩⟩
  obtain ⟨A,A',k1,k2,k3,k4,t1,t2,t3⟩:=two_le (b:=b) (pts:=pts) (pts':=pts ++ [q]) h2 (by omega) fun i j hi hj=>⟨i,j,by omega,by omega,by
    unfold fF
    rw [List.getD_eq_getElem?_getD (l:=pts ++ [q]),List.getD_eq_getElem?_getD (l:=pts ++ [q]),List.getElem?_append_left hi,List.getElem?_append_left hj,<- List.getD_eq_getElem?_getD,<- List.getD_eq_getElem?_getD]⟩
  have eA:A = M:=by
    rw [w1] at t1
    have:=congrArg (fun d=>match d with | D.tup [.int x,_,_]=>x | _=>0) t1
    exact this.symm
  subst hN
  walk_at "vx"
  refine ⟨b,n,pts ++ [q],rfl,ga,by omega,?_⟩
  rw [t2]
  walk_at "vx"
  refine ix_tup_at (n:=0) rfl rfl ?_
  refine ix_lst_at (n:=0) rfl rfl ?_
  refine ix_tup_at (n:=0) rfl rfl ?_
  walk_at "vx"
  rw [decide_eq_true (by omega)]
  exact h

noncomputable def md9 (v:Int):Int:=v % 10 ^ 13 - 10 ^ 9
theorem md9_near (v:Int):Near9 (md9 v):=by
  unfold Near9 md9
  have h1:=Int.emod_nonneg v (b:=10 ^ 13) (by decide)
  have h2:=Int.emod_lt_of_pos v (b:=10 ^ 13) (by decide)
  omega
theorem md9_good {n:Nat} {pts:List (List Int)} (g:Good n pts):Good n (pts.map fun p=>p.map md9):=⟨g.1,fun p hp=>by
  obtain ⟨q,hq,rfl⟩:=List.mem_map.mp hp
  refine ⟨by rw [List.length_map];exact (g.2 q hq).1,fun x hx=>?_⟩
  obtain ⟨v,_,rfl⟩:=List.mem_map.mp hx
  have:=md9_near v
  unfold Near9 at this
  omega⟩
noncomputable def sp_q26:FSp:=fun ds Q=>∃ ns:List Int,ds = [.scr ns] /\ ns.length <= 63 /\ Q (.sh (.bl true))
theorem p_q26 (ds:List D) (Q:B -> Prop) (h:sp_q26 ds Q):t_q26 sp_cells sp_points sp_way sp_tog sp_line sp_oth { nx:=fun _=>Q (.sh .non),rt:=fun b _=>Q b } (startD N_q26.length ds):=by
  obtain ⟨ns,rfl,hns,h⟩:=h
  unfold t_q26
  refine tSq_step fun N hN=>?_
  show tForD _ _ _ _ _
  generalize ht:tSq (tSt [] 2 _) _ = tb
  walk_at "vx"
  refine ⟨ns,3,rfl,hns,by decide,?_⟩
  walk_at "vx"
  refine forD_on D.int _ (fun i σ=>∃ x1 x2 x3,σ = [some (.sh (.scr ns)),x1,x2,x3]) (fun i c σ N' hx hI hN'=>?_) (fun σ hI=>?_) ⟨none,none,none,rfl⟩
  · obtain ⟨x1,x2,x3,rfl⟩:=hI
    walk_at "vg"
    subst ht
    refine tSq_step fun N1 hN1=>?_
    walk_at "vx"
    refine ⟨c,30,rfl,by decide,fun pts n hg hl=>?_⟩
    walk_at "vx"
    refine compD_onM ptD (fun p=>ptD (p.map md9)) _ (fun p hp A ha=>?_) (by rw [sz];omega) ?_
    · walk_at "vg"
      walk_at "vx"
      refine compD_onM D.int (fun x:Int=>D.int (md9 x)) _ (fun x hx A ha=>?_) (by rw [sz];have:=(hg.2 p hp).1;have:=hg.1;omega) ?_
      · walk_at "vg"
        walk_at "vx"
        exact ⟨by unfold CPow;decide,by decide,by unfold CPow;decide,ha⟩
      walk_at "vx"
      rw [show D.tup (p.map fun x:Int=>D.int (md9 x)) = ptD (p.map md9) by unfold ptD;rw [List.map_map];rfl]
      exact ha
    walk_at "vx"
    subst hN1
    refine tSq_step fun N1 hN1=>?_
    walk_at "vx"
    intro b
    walk_at "vx"
    subst hN1
    obtain ⟨pp,epp⟩:∃ pp,pp = pts.map fun p=>p.map md9:=⟨_,rfl⟩
    have eq1:(pts.map fun p=>ptD (p.map md9)) = pp.map ptD:=by rw [epp,List.map_map];rfl
    have g9:Good n pp:=by rw [epp];exact md9_good hg
    have l9:pp.length <= 30:=by rw [epp,List.length_map];exact hl
    have n9:∀ p ∈ pp,∀ v ∈ p,Near9 v:=fun p hp v hv=>by
      rw [epp] at hp
      obtain ⟨q,hq,rfl⟩:=List.mem_map.mp hp
      obtain ⟨w,_,rfl⟩:=List.mem_map.mp hv
      exact md9_near w
    rw [eq1]
    refine tSq_step fun N1 hN1=>?_
    walk_at "vx"
    refine ⟨b,n,pp,rfl,g9,by omega,?_⟩
    walk_at "vx"
    refine ⟨c,b,rfl,?_⟩
    walk_at "vx"
    subst hN1
    walk_at "vx"
    refine (if_neg (by decide)).mpr ?_
    by_cases e:(1:Int) < ((pp.map ptD).length:Nat)
    · refine (if_pos e).mpr ?_
      rw [List.length_map] at e
      refine ⟨c,b,n,pp,rfl,g9,n9,by omega,by omega,?_⟩
      walk_at "vx"
      exact hN' _ ⟨_,_,_,rfl⟩
    · refine (if_neg e).mpr ?_
      exact (if_neg (by decide)).mpr (hN' _ ⟨_,_,_,rfl⟩)
  · obtain ⟨x1,x2,x3,rfl⟩:=hI
    subst hN
    walk_at "vx"
    exact h

end
noncomputable def spLaw (K:PySem.W.Frag) (T:Addr):Sp:=fun vs H Q _=>∃ (a:Addr) (ns:List Int),vs = [.ref a] /\ SqL K H a (ns.map V.int) /\ ns.length <= 63 /\ H T = some (.lam #[] ⟨67,25,67,43⟩ (("greatest_first":Str) ++ ".<locals>." ++ "<lambda>")) /\ ∀ H',Same H H' -> Q (.bl true) H'
-- level 7
section
variable [KF] {G:GE} {k:Nat}
theorem ok_q26 (hK:G.K = KF.K) {T:Addr} (hT:KF.tabs = [(T,#[],⟨67,25,67,43⟩,(("greatest_first":Str) ++ ".<locals>." ++ "<lambda>"))]) (E:Gl G)
    {f_q15:Addr} {fd_q15:FuncData} (d_q15:FnD G "need_count" s_q15 ["count"] f_q15 fd_q15)
    {f_q0:Addr} {fd_q0:FuncData} (d_q0:FnD G "need_as_many_numbers" s_q0 ["point","count"] f_q0 fd_q0)
    {f_q11:Addr} {fd_q11:FuncData} (d_q11:FnD G "need_points" s_q11 ["points"] f_q11 fd_q11)
    {f_q21:Addr} {fd_q21:FuncData} (d_q21:FnD G "need_way" s_q21 ["way"] f_q21 fd_q21)
    {f_q2:Addr} {fd_q2:FuncData} (d_q2:FnD G "need_points_and_way" s_q2 ["points","way"] f_q2 fd_q2)
    {f_q16:Addr} {fd_q16:FuncData} (d_q16:FnD G "need_place" s_q16 ["points","place"] f_q16 fd_q16)
    {f_q14:Addr} {fd_q14:FuncData} (d_q14:FnD G "need_bound" s_q14 ["bound"] f_q14 fd_q14)
    {f_q8:Addr} {fd_q8:FuncData} (d_q8:FnD G "far_between" s_q8 ["way","point","other"] f_q8 fd_q8)
    {f_q4:Addr} {fd_q4:FuncData} (d_q4:FnD G "pairs_by_places" s_q4 ["points","way"] f_q4 fd_q4)
    {f_q23:Addr} {fd_q23:FuncData} (d_q23:FnD G "how_far" s_q23 ["points","way","one","other"] f_q23 fd_q23)
    {f_q13:Addr} {fd_q13:FuncData} (d_q13:FnD G "near_pairs" s_q13 ["points","way","bound"] f_q13 fd_q13)
    {f_q10:Addr} {fd_q10:FuncData} (d_q10:FnD G "near_counts" s_q10 ["points","way","bound"] f_q10 fd_q10)
    {f_q5:Addr} {fd_q5:FuncData} (d_q5:FnD G "greatest_first" s_q5 ["told"] f_q5 fd_q5)
    {f_q22:Addr} {fd_q22:FuncData} (d_q22:FnD G "fars_of" s_q22 ["points","way","place"] f_q22 fd_q22)
    {f_q7:Addr} {fd_q7:FuncData} (d_q7:FnD G "farthest_two" s_q7 ["points","way"] f_q7 fd_q7)
    {f_q9:Addr} {fd_q9:FuncData} (d_q9:FnD G "farthest_of" s_q9 ["points","way","place"] f_q9 fd_q9)
    {f_q25:Addr} {fd_q25:FuncData} (d_q25:FnD G "middle" s_q25 ["points","way"] f_q25 fd_q25)
    {f_q17:Addr} {fd_q17:FuncData} (d_q17:FnD G "sums_place" s_q17 ["points","way"] f_q17 fd_q17)
    {f_q19:Addr} {fd_q19:FuncData} (d_q19:FnD G "most_near" s_q19 ["points","way","bound"] f_q19 fd_q19)
    {f_q20:Addr} {fd_q20:FuncData} (d_q20:FnD G "_law_stir" s_q20 ["cell","k"] f_q20 fd_q20)
    {f_q18:Addr} {fd_q18:FuncData} (d_q18:FnD G "_law_cells" s_q18 ["script","many"] f_q18 fd_q18)
    {f_q12:Addr} {fd_q12:FuncData} (d_q12:FnD G "_law_points" s_q12 ["cell","most"] f_q12 fd_q12)
    {f_q24:Addr} {fd_q24:FuncData} (d_q24:FnD G "_law_way" s_q24 ["cell"] f_q24 fd_q24)
    {f_q3:Addr} {fd_q3:FuncData} (d_q3:FnD G "_law_together_right" s_q3 ["points","way"] f_q3 fd_q3)
    {f_q1:Addr} {fd_q1:FuncData} (d_q1:FnD G "_law_otherwise_right" s_q1 ["cell","points","way"] f_q1 fd_q1)
    {f_q6:Addr} {fd_q6:FuncData} (d_q6:FnD G "_law_line_right" s_q6 ["cell","way"] f_q6 fd_q6)
    {f_q26:Addr} {fd_q26:FuncData} (d_q26:FnD G "law" s_q26 ["script"] f_q26 fd_q26)
    (lg:LamG G fd_q5 ⟨67,25,67,43⟩ "greatest_first")
   :FnOk G.P G.w G.K G.mg G.base CX0 8 f_q26 fd_q26 ["script"] (spLaw G.K T):=by
  have h_q18:FnG G 1 "_law_cells" sp_cells:=d_q18.fg (k:=0) hK sc_q18 (e_q18 E) (fun ds Q h=>by first | (unfold sp_cells at h;split at h<;>first | rfl | exact h.elim) | (obtain ⟨e,_⟩:=h;rw [e];rfl) | (obtain ⟨_,e,_⟩:=h;rw [e];rfl) | (obtain ⟨_,_,e,_⟩:=h;rw [e];rfl) | (obtain ⟨_,_,_,e,_⟩:=h;rw [e];rfl) | (obtain ⟨_,_,_,_,e,_⟩:=h;rw [e];rfl) | (obtain ⟨_,_,_,_,_,e,_⟩:=h;rw [e];rfl) | (obtain ⟨_,_,_,_,_,_,e,_⟩:=h;rw [e];rfl) | (obtain ⟨_,_,_,_,_,_,_,e,_⟩:=h;rw [e];rfl)) p_cells
  have h_q20:FnG G 1 "_law_stir" sp_stir:=d_q20.fg (k:=0) hK sc_q20 (e_q20 E) (fun ds Q h=>by first | (unfold sp_stir at h;split at h<;>first | rfl | exact h.elim) | (obtain ⟨e,_⟩:=h;rw [e];rfl) | (obtain ⟨_,e,_⟩:=h;rw [e];rfl) | (obtain ⟨_,_,e,_⟩:=h;rw [e];rfl) | (obtain ⟨_,_,_,e,_⟩:=h;rw [e];rfl) | (obtain ⟨_,_,_,_,e,_⟩:=h;rw [e];rfl) | (obtain ⟨_,_,_,_,_,e,_⟩:=h;rw [e];rfl) | (obtain ⟨_,_,_,_,_,_,e,_⟩:=h;rw [e];rfl) | (obtain ⟨_,_,_,_,_,_,_,e,_⟩:=h;rw [e];rfl)) p_stir
  have h_q12:FnG G 2 "_law_points" sp_points:=d_q12.fg (k:=1) hK sc_q12 (e_q12 E (h_q20.mono (by decide))) (fun ds Q h=>by first | (unfold sp_points at h;split at h<;>first | rfl | exact h.elim) | (obtain ⟨e,_⟩:=h;rw [e];rfl) | (obtain ⟨_,e,_⟩:=h;rw [e];rfl) | (obtain ⟨_,_,e,_⟩:=h;rw [e];rfl) | (obtain ⟨_,_,_,e,_⟩:=h;rw [e];rfl) | (obtain ⟨_,_,_,_,e,_⟩:=h;rw [e];rfl) | (obtain ⟨_,_,_,_,_,e,_⟩:=h;rw [e];rfl) | (obtain ⟨_,_,_,_,_,_,e,_⟩:=h;rw [e];rfl) | (obtain ⟨_,_,_,_,_,_,_,e,_⟩:=h;rw [e];rfl)) p_points
  have h_q24:FnG G 2 "_law_way" sp_way:=d_q24.fg (k:=1) hK sc_q24 (e_q24 E (h_q20.mono (by decide))) (fun ds Q h=>by first | (unfold sp_way at h;split at h<;>first | rfl | exact h.elim) | (obtain ⟨e,_⟩:=h;rw [e];rfl) | (obtain ⟨_,e,_⟩:=h;rw [e];rfl) | (obtain ⟨_,_,e,_⟩:=h;rw [e];rfl) | (obtain ⟨_,_,_,e,_⟩:=h;rw [e];rfl) | (obtain ⟨_,_,_,_,e,_⟩:=h;rw [e];rfl) | (obtain ⟨_,_,_,_,_,e,_⟩:=h;rw [e];rfl) | (obtain ⟨_,_,_,_,_,_,e,_⟩:=h;rw [e];rfl) | (obtain ⟨_,_,_,_,_,_,_,e,_⟩:=h;rw [e];rfl)) p_way
  have h_q15:FnG G 1 "need_count" sp_ncount:=d_q15.fg (k:=0) hK sc_q15 (e_q15 E) (fun ds Q h=>by first | (unfold sp_ncount at h;split at h<;>first | rfl | exact h.elim) | (obtain ⟨e,_⟩:=h;rw [e];rfl) | (obtain ⟨_,e,_⟩:=h;rw [e];rfl) | (obtain ⟨_,_,e,_⟩:=h;rw [e];rfl) | (obtain ⟨_,_,_,e,_⟩:=h;rw [e];rfl) | (obtain ⟨_,_,_,_,e,_⟩:=h;rw [e];rfl) | (obtain ⟨_,_,_,_,_,e,_⟩:=h;rw [e];rfl) | (obtain ⟨_,_,_,_,_,_,e,_⟩:=h;rw [e];rfl) | (obtain ⟨_,_,_,_,_,_,_,e,_⟩:=h;rw [e];rfl)) p_ncount
  have h_q0:FnG G 1 "need_as_many_numbers" sp_nas:=d_q0.fg (k:=0) hK sc_q0 (e_q0 E) (fun ds Q h=>by first | (unfold sp_nas at h;split at h<;>first | rfl | exact h.elim) | (obtain ⟨e,_⟩:=h;rw [e];rfl) | (obtain ⟨_,e,_⟩:=h;rw [e];rfl) | (obtain ⟨_,_,e,_⟩:=h;rw [e];rfl) | (obtain ⟨_,_,_,e,_⟩:=h;rw [e];rfl) | (obtain ⟨_,_,_,_,e,_⟩:=h;rw [e];rfl) | (obtain ⟨_,_,_,_,_,e,_⟩:=h;rw [e];rfl) | (obtain ⟨_,_,_,_,_,_,e,_⟩:=h;rw [e];rfl) | (obtain ⟨_,_,_,_,_,_,_,e,_⟩:=h;rw [e];rfl)) p_nas
  have h_q11:FnG G 2 "need_points" sp_npts:=d_q11.fg (k:=1) hK sc_q11 (e_q11 E (h_q15.mono (by decide)) (h_q0.mono (by decide))) (fun ds Q h=>by first | (unfold sp_npts at h;split at h<;>first | rfl | exact h.elim) | (obtain ⟨e,_⟩:=h;rw [e];rfl) | (obtain ⟨_,e,_⟩:=h;rw [e];rfl) | (obtain ⟨_,_,e,_⟩:=h;rw [e];rfl) | (obtain ⟨_,_,_,e,_⟩:=h;rw [e];rfl) | (obtain ⟨_,_,_,_,e,_⟩:=h;rw [e];rfl) | (obtain ⟨_,_,_,_,_,e,_⟩:=h;rw [e];rfl) | (obtain ⟨_,_,_,_,_,_,e,_⟩:=h;rw [e];rfl) | (obtain ⟨_,_,_,_,_,_,_,e,_⟩:=h;rw [e];rfl)) p_npts
  have h_q21:FnG G 1 "need_way" sp_nway:=d_q21.fg (k:=0) hK sc_q21 (e_q21 E) (fun ds Q h=>by first | (unfold sp_nway at h;split at h<;>first | rfl | exact h.elim) | (obtain ⟨e,_⟩:=h;rw [e];rfl) | (obtain ⟨_,e,_⟩:=h;rw [e];rfl) | (obtain ⟨_,_,e,_⟩:=h;rw [e];rfl) | (obtain ⟨_,_,_,e,_⟩:=h;rw [e];rfl) | (obtain ⟨_,_,_,_,e,_⟩:=h;rw [e];rfl) | (obtain ⟨_,_,_,_,_,e,_⟩:=h;rw [e];rfl) | (obtain ⟨_,_,_,_,_,_,e,_⟩:=h;rw [e];rfl) | (obtain ⟨_,_,_,_,_,_,_,e,_⟩:=h;rw [e];rfl)) p_nway
  have h_q2:FnG G 3 "need_points_and_way" sp_npw:=d_q2.fg (k:=2) hK sc_q2 (e_q2 E (h_q11.mono (by decide)) (h_q21.mono (by decide))) (fun ds Q h=>by first | (unfold sp_npw at h;split at h<;>first | rfl | exact h.elim) | (obtain ⟨e,_⟩:=h;rw [e];rfl) | (obtain ⟨_,e,_⟩:=h;rw [e];rfl) | (obtain ⟨_,_,e,_⟩:=h;rw [e];rfl) | (obtain ⟨_,_,_,e,_⟩:=h;rw [e];rfl) | (obtain ⟨_,_,_,_,e,_⟩:=h;rw [e];rfl) | (obtain ⟨_,_,_,_,_,e,_⟩:=h;rw [e];rfl) | (obtain ⟨_,_,_,_,_,_,e,_⟩:=h;rw [e];rfl) | (obtain ⟨_,_,_,_,_,_,_,e,_⟩:=h;rw [e];rfl)) p_npw
  have h_q5:FnG G 1 "greatest_first" spG:=⟨f_q5,fd_q5,_,e_q5 (k:=0) E hK d_q5.F lg,d_q5.m,d_q5.F.kp,d_q5.b⟩
  have h_q8:FnG G 1 "far_between" sp_far:=d_q8.fg (k:=0) hK sc_q8 (e_q8 E) (fun ds Q h=>by first | (unfold sp_far at h;split at h<;>first | rfl | exact h.elim) | (obtain ⟨e,_⟩:=h;rw [e];rfl) | (obtain ⟨_,e,_⟩:=h;rw [e];rfl) | (obtain ⟨_,_,e,_⟩:=h;rw [e];rfl) | (obtain ⟨_,_,_,e,_⟩:=h;rw [e];rfl) | (obtain ⟨_,_,_,_,e,_⟩:=h;rw [e];rfl) | (obtain ⟨_,_,_,_,_,e,_⟩:=h;rw [e];rfl) | (obtain ⟨_,_,_,_,_,_,e,_⟩:=h;rw [e];rfl) | (obtain ⟨_,_,_,_,_,_,_,e,_⟩:=h;rw [e];rfl)) p_far
  have h_q4:FnG G 2 "pairs_by_places" sp_pairs:=d_q4.fg (k:=1) hK sc_q4 (e_q4 E (h_q8.mono (by decide))) (fun ds Q h=>by first | (unfold sp_pairs at h;split at h<;>first | rfl | exact h.elim) | (obtain ⟨e,_⟩:=h;rw [e];rfl) | (obtain ⟨_,e,_⟩:=h;rw [e];rfl) | (obtain ⟨_,_,e,_⟩:=h;rw [e];rfl) | (obtain ⟨_,_,_,e,_⟩:=h;rw [e];rfl) | (obtain ⟨_,_,_,_,e,_⟩:=h;rw [e];rfl) | (obtain ⟨_,_,_,_,_,e,_⟩:=h;rw [e];rfl) | (obtain ⟨_,_,_,_,_,_,e,_⟩:=h;rw [e];rfl) | (obtain ⟨_,_,_,_,_,_,_,e,_⟩:=h;rw [e];rfl)) p_pairs
  have h_q7:FnG G 4 "farthest_two" sp_f2:=d_q7.fg (k:=3) hK sc_q7 (e_q7 E (h_q2.mono (by decide)) (h_q5.mono (by decide)) (h_q4.mono (by decide))) (fun ds Q h=>by first | (unfold sp_f2 at h;split at h<;>first | rfl | exact h.elim) | (obtain ⟨e,_⟩:=h;rw [e];rfl) | (obtain ⟨_,e,_⟩:=h;rw [e];rfl) | (obtain ⟨_,_,e,_⟩:=h;rw [e];rfl) | (obtain ⟨_,_,_,e,_⟩:=h;rw [e];rfl) | (obtain ⟨_,_,_,_,e,_⟩:=h;rw [e];rfl) | (obtain ⟨_,_,_,_,_,e,_⟩:=h;rw [e];rfl) | (obtain ⟨_,_,_,_,_,_,e,_⟩:=h;rw [e];rfl) | (obtain ⟨_,_,_,_,_,_,_,e,_⟩:=h;rw [e];rfl)) p_f2
  have h_q22:FnG G 2 "fars_of" sp_fars:=d_q22.fg (k:=1) hK sc_q22 (e_q22 E (h_q8.mono (by decide))) (fun ds Q h=>by first | (unfold sp_fars at h;split at h<;>first | rfl | exact h.elim) | (obtain ⟨e,_⟩:=h;rw [e];rfl) | (obtain ⟨_,e,_⟩:=h;rw [e];rfl) | (obtain ⟨_,_,e,_⟩:=h;rw [e];rfl) | (obtain ⟨_,_,_,e,_⟩:=h;rw [e];rfl) | (obtain ⟨_,_,_,_,e,_⟩:=h;rw [e];rfl) | (obtain ⟨_,_,_,_,_,e,_⟩:=h;rw [e];rfl) | (obtain ⟨_,_,_,_,_,_,e,_⟩:=h;rw [e];rfl) | (obtain ⟨_,_,_,_,_,_,_,e,_⟩:=h;rw [e];rfl)) p_fars
  have h_q25:FnG G 4 "middle" sp_mid:=d_q25.fg (k:=3) hK sc_q25 (e_q25 E (h_q2.mono (by decide)) (h_q22.mono (by decide))) (fun ds Q h=>by first | (unfold sp_mid at h;split at h<;>first | rfl | exact h.elim) | (obtain ⟨e,_⟩:=h;rw [e];rfl) | (obtain ⟨_,e,_⟩:=h;rw [e];rfl) | (obtain ⟨_,_,e,_⟩:=h;rw [e];rfl) | (obtain ⟨_,_,_,e,_⟩:=h;rw [e];rfl) | (obtain ⟨_,_,_,_,e,_⟩:=h;rw [e];rfl) | (obtain ⟨_,_,_,_,_,e,_⟩:=h;rw [e];rfl) | (obtain ⟨_,_,_,_,_,_,e,_⟩:=h;rw [e];rfl) | (obtain ⟨_,_,_,_,_,_,_,e,_⟩:=h;rw [e];rfl)) p_mid
  have h_q16:FnG G 1 "need_place" sp_nplace:=d_q16.fg (k:=0) hK sc_q16 (e_q16 E) (fun ds Q h=>by first | (unfold sp_nplace at h;split at h<;>first | rfl | exact h.elim) | (obtain ⟨e,_⟩:=h;rw [e];rfl) | (obtain ⟨_,e,_⟩:=h;rw [e];rfl) | (obtain ⟨_,_,e,_⟩:=h;rw [e];rfl) | (obtain ⟨_,_,_,e,_⟩:=h;rw [e];rfl) | (obtain ⟨_,_,_,_,e,_⟩:=h;rw [e];rfl) | (obtain ⟨_,_,_,_,_,e,_⟩:=h;rw [e];rfl) | (obtain ⟨_,_,_,_,_,_,e,_⟩:=h;rw [e];rfl) | (obtain ⟨_,_,_,_,_,_,_,e,_⟩:=h;rw [e];rfl)) p_nplace
  have h_q9:FnG G 4 "farthest_of" sp_fo:=d_q9.fg (k:=3) hK sc_q9 (e_q9 E (h_q2.mono (by decide)) (h_q16.mono (by decide)) (h_q22.mono (by decide)) (h_q5.mono (by decide))) (fun ds Q h=>by first | (unfold sp_fo at h;split at h<;>first | rfl | exact h.elim) | (obtain ⟨e,_⟩:=h;rw [e];rfl) | (obtain ⟨_,e,_⟩:=h;rw [e];rfl) | (obtain ⟨_,_,e,_⟩:=h;rw [e];rfl) | (obtain ⟨_,_,_,e,_⟩:=h;rw [e];rfl) | (obtain ⟨_,_,_,_,e,_⟩:=h;rw [e];rfl) | (obtain ⟨_,_,_,_,_,e,_⟩:=h;rw [e];rfl) | (obtain ⟨_,_,_,_,_,_,e,_⟩:=h;rw [e];rfl) | (obtain ⟨_,_,_,_,_,_,_,e,_⟩:=h;rw [e];rfl)) p_fo
  have h_q23:FnG G 4 "how_far" sp_how:=d_q23.fg (k:=3) hK sc_q23 (e_q23 E (h_q2.mono (by decide)) (h_q16.mono (by decide)) (h_q8.mono (by decide))) (fun ds Q h=>by first | (unfold sp_how at h;split at h<;>first | rfl | exact h.elim) | (obtain ⟨e,_⟩:=h;rw [e];rfl) | (obtain ⟨_,e,_⟩:=h;rw [e];rfl) | (obtain ⟨_,_,e,_⟩:=h;rw [e];rfl) | (obtain ⟨_,_,_,e,_⟩:=h;rw [e];rfl) | (obtain ⟨_,_,_,_,e,_⟩:=h;rw [e];rfl) | (obtain ⟨_,_,_,_,_,e,_⟩:=h;rw [e];rfl) | (obtain ⟨_,_,_,_,_,_,e,_⟩:=h;rw [e];rfl) | (obtain ⟨_,_,_,_,_,_,_,e,_⟩:=h;rw [e];rfl)) p_how
  have h_q17:FnG G 4 "sums_place" sp_sums:=d_q17.fg (k:=3) hK sc_q17 (e_q17 E (h_q2.mono (by decide)) (h_q22.mono (by decide))) (fun ds Q h=>by first | (unfold sp_sums at h;split at h<;>first | rfl | exact h.elim) | (obtain ⟨e,_⟩:=h;rw [e];rfl) | (obtain ⟨_,e,_⟩:=h;rw [e];rfl) | (obtain ⟨_,_,e,_⟩:=h;rw [e];rfl) | (obtain ⟨_,_,_,e,_⟩:=h;rw [e];rfl) | (obtain ⟨_,_,_,_,e,_⟩:=h;rw [e];rfl) | (obtain ⟨_,_,_,_,_,e,_⟩:=h;rw [e];rfl) | (obtain ⟨_,_,_,_,_,_,e,_⟩:=h;rw [e];rfl) | (obtain ⟨_,_,_,_,_,_,_,e,_⟩:=h;rw [e];rfl)) p_sums
  have h_q14:FnG G 1 "need_bound" sp_nbound:=d_q14.fg (k:=0) hK sc_q14 (e_q14 E) (fun ds Q h=>by first | (unfold sp_nbound at h;split at h<;>first | rfl | exact h.elim) | (obtain ⟨e,_⟩:=h;rw [e];rfl) | (obtain ⟨_,e,_⟩:=h;rw [e];rfl) | (obtain ⟨_,_,e,_⟩:=h;rw [e];rfl) | (obtain ⟨_,_,_,e,_⟩:=h;rw [e];rfl) | (obtain ⟨_,_,_,_,e,_⟩:=h;rw [e];rfl) | (obtain ⟨_,_,_,_,_,e,_⟩:=h;rw [e];rfl) | (obtain ⟨_,_,_,_,_,_,e,_⟩:=h;rw [e];rfl) | (obtain ⟨_,_,_,_,_,_,_,e,_⟩:=h;rw [e];rfl)) p_nbound
  have h_q13:FnG G 4 "near_pairs" sp_near:=d_q13.fg (k:=3) hK sc_q13 (e_q13 E (h_q2.mono (by decide)) (h_q14.mono (by decide)) (h_q4.mono (by decide))) (fun ds Q h=>by first | (unfold sp_near at h;split at h<;>first | rfl | exact h.elim) | (obtain ⟨e,_⟩:=h;rw [e];rfl) | (obtain ⟨_,e,_⟩:=h;rw [e];rfl) | (obtain ⟨_,_,e,_⟩:=h;rw [e];rfl) | (obtain ⟨_,_,_,e,_⟩:=h;rw [e];rfl) | (obtain ⟨_,_,_,_,e,_⟩:=h;rw [e];rfl) | (obtain ⟨_,_,_,_,_,e,_⟩:=h;rw [e];rfl) | (obtain ⟨_,_,_,_,_,_,e,_⟩:=h;rw [e];rfl) | (obtain ⟨_,_,_,_,_,_,_,e,_⟩:=h;rw [e];rfl)) p_near
  have h_q10:FnG G 5 "near_counts" sp_counts:=d_q10.fg (k:=4) hK sc_q10 (e_q10 E (h_q13.mono (by decide))) (fun ds Q h=>by first | (unfold sp_counts at h;split at h<;>first | rfl | exact h.elim) | (obtain ⟨e,_⟩:=h;rw [e];rfl) | (obtain ⟨_,e,_⟩:=h;rw [e];rfl) | (obtain ⟨_,_,e,_⟩:=h;rw [e];rfl) | (obtain ⟨_,_,_,e,_⟩:=h;rw [e];rfl) | (obtain ⟨_,_,_,_,e,_⟩:=h;rw [e];rfl) | (obtain ⟨_,_,_,_,_,e,_⟩:=h;rw [e];rfl) | (obtain ⟨_,_,_,_,_,_,e,_⟩:=h;rw [e];rfl) | (obtain ⟨_,_,_,_,_,_,_,e,_⟩:=h;rw [e];rfl)) p_counts
  have h_q19:FnG G 6 "most_near" sp_most:=d_q19.fg (k:=5) hK sc_q19 (e_q19 E (h_q10.mono (by decide)) (h_q5.mono (by decide))) (fun ds Q h=>by first | (unfold sp_most at h;split at h<;>first | rfl | exact h.elim) | (obtain ⟨e,_⟩:=h;rw [e];rfl) | (obtain ⟨_,e,_⟩:=h;rw [e];rfl) | (obtain ⟨_,_,e,_⟩:=h;rw [e];rfl) | (obtain ⟨_,_,_,e,_⟩:=h;rw [e];rfl) | (obtain ⟨_,_,_,_,e,_⟩:=h;rw [e];rfl) | (obtain ⟨_,_,_,_,_,e,_⟩:=h;rw [e];rfl) | (obtain ⟨_,_,_,_,_,_,e,_⟩:=h;rw [e];rfl) | (obtain ⟨_,_,_,_,_,_,_,e,_⟩:=h;rw [e];rfl)) p_most
  have h_q3:FnG G 7 "_law_together_right" sp_tog:=d_q3.fg (k:=6) hK sc_q3 (e_q3 E (h_q7.mono (by decide)) (h_q25.mono (by decide)) (h_q9.mono (by decide)) (h_q23.mono (by decide)) (h_q17.mono (by decide)) (h_q19.mono (by decide)) (h_q10.mono (by decide))) (fun ds Q h=>by first | (unfold sp_tog at h;split at h<;>first | rfl | exact h.elim) | (obtain ⟨e,_⟩:=h;rw [e];rfl) | (obtain ⟨_,e,_⟩:=h;rw [e];rfl) | (obtain ⟨_,_,e,_⟩:=h;rw [e];rfl) | (obtain ⟨_,_,_,e,_⟩:=h;rw [e];rfl) | (obtain ⟨_,_,_,_,e,_⟩:=h;rw [e];rfl) | (obtain ⟨_,_,_,_,_,e,_⟩:=h;rw [e];rfl) | (obtain ⟨_,_,_,_,_,_,e,_⟩:=h;rw [e];rfl) | (obtain ⟨_,_,_,_,_,_,_,e,_⟩:=h;rw [e];rfl)) p_tog
  have h_q6:FnG G 5 "_law_line_right" sp_line:=d_q6.fg (k:=4) hK sc_q6 (e_q6 E (h_q20.mono (by decide)) (h_q7.mono (by decide)) (h_q25.mono (by decide)) (h_q17.mono (by decide))) (fun ds Q h=>by first | (unfold sp_line at h;split at h<;>first | rfl | exact h.elim) | (obtain ⟨e,_⟩:=h;rw [e];rfl) | (obtain ⟨_,e,_⟩:=h;rw [e];rfl) | (obtain ⟨_,_,e,_⟩:=h;rw [e];rfl) | (obtain ⟨_,_,_,e,_⟩:=h;rw [e];rfl) | (obtain ⟨_,_,_,_,e,_⟩:=h;rw [e];rfl) | (obtain ⟨_,_,_,_,_,e,_⟩:=h;rw [e];rfl) | (obtain ⟨_,_,_,_,_,_,e,_⟩:=h;rw [e];rfl) | (obtain ⟨_,_,_,_,_,_,_,e,_⟩:=h;rw [e];rfl)) p_line
  have h_q1:FnG G 5 "_law_otherwise_right" sp_oth:=d_q1.fg (k:=4) hK sc_q1 (e_q1 E (h_q20.mono (by decide)) (h_q7.mono (by decide)) (h_q25.mono (by decide)) (h_q17.mono (by decide))) (fun ds Q h=>by first | (unfold sp_oth at h;split at h<;>first | rfl | exact h.elim) | (obtain ⟨e,_⟩:=h;rw [e];rfl) | (obtain ⟨_,e,_⟩:=h;rw [e];rfl) | (obtain ⟨_,_,e,_⟩:=h;rw [e];rfl) | (obtain ⟨_,_,_,e,_⟩:=h;rw [e];rfl) | (obtain ⟨_,_,_,_,e,_⟩:=h;rw [e];rfl) | (obtain ⟨_,_,_,_,_,e,_⟩:=h;rw [e];rfl) | (obtain ⟨_,_,_,_,_,_,e,_⟩:=h;rw [e];rfl) | (obtain ⟨_,_,_,_,_,_,_,e,_⟩:=h;rw [e];rfl)) p_oth
  refine (fn_ok (k:=7) (sp:=sp_q26) hK d_q26.F sc_q26 (e_q26 E (h_q18.mono (by decide)) (h_q12.mono (by decide)) (h_q24.mono (by decide)) (h_q3.mono (by decide)) (h_q6.mono (by decide)) (h_q1.mono (by decide))) (fun ds Q h=>by first | (unfold sp_q26 at h;split at h<;>first | rfl | exact h.elim) | (obtain ⟨e,_⟩:=h;rw [e];rfl) | (obtain ⟨_,e,_⟩:=h;rw [e];rfl) | (obtain ⟨_,_,e,_⟩:=h;rw [e];rfl) | (obtain ⟨_,_,_,e,_⟩:=h;rw [e];rfl) | (obtain ⟨_,_,_,_,e,_⟩:=h;rw [e];rfl) | (obtain ⟨_,_,_,_,_,e,_⟩:=h;rw [e];rfl) | (obtain ⟨_,_,_,_,_,_,e,_⟩:=h;rw [e];rfl) | (obtain ⟨_,_,_,_,_,_,_,e,_⟩:=h;rw [e];rfl)) p_q26).imp fun vs H Q E' h=>?_
  obtain ⟨a,ns,rfl,hS,hl,hTH,q⟩:=h
  refine ⟨H,[.scr ns],fun b=>b = .sh (.bl true),⟨Same.refl _,fun q hq=>by rw [hT] at hq;cases List.mem_singleton.mp hq;exact hTH⟩,.cons (.scr (by rw [<- hK];exact hS)) .nil,⟨ns,rfl,hl,rfl⟩,fun v H' F' b _ _ sm _ r e=>?_⟩
  subst e
  have r:Rep F' v (.bl true):=r
  cases r
  exact q H' sm
end

theorem all_mk {l:PySem.W.OpenLaw} {w:World} {K:PySem.W.Frag} {h:Heap} {mg:Str -> Option Value} {fa:Addr} (X:K.In h) (Gs:h.Ns mainGlobals mg) (hfa:mg "law" = some (.ref fa))
    {f_q15:Addr} {od_q15 an_q15:Option Addr} {sl_q15:Array (Option Value)} {oc_q15 kV_q15 dc_q15 pm_q15 cd_q15 ct_q15:Value}
    {f_q0:Addr} {od_q0 an_q0:Option Addr} {sl_q0:Array (Option Value)} {oc_q0 kV_q0 dc_q0 pm_q0 cd_q0 ct_q0:Value}
    {f_q11:Addr} {od_q11 an_q11:Option Addr} {sl_q11:Array (Option Value)} {oc_q11 kV_q11 dc_q11 pm_q11 cd_q11 ct_q11:Value}
    {f_q21:Addr} {od_q21 an_q21:Option Addr} {sl_q21:Array (Option Value)} {oc_q21 kV_q21 dc_q21 pm_q21 cd_q21 ct_q21:Value}
    {f_q2:Addr} {od_q2 an_q2:Option Addr} {sl_q2:Array (Option Value)} {oc_q2 kV_q2 dc_q2 pm_q2 cd_q2 ct_q2:Value}
    {f_q16:Addr} {od_q16 an_q16:Option Addr} {sl_q16:Array (Option Value)} {oc_q16 kV_q16 dc_q16 pm_q16 cd_q16 ct_q16:Value}
    {f_q14:Addr} {od_q14 an_q14:Option Addr} {sl_q14:Array (Option Value)} {oc_q14 kV_q14 dc_q14 pm_q14 cd_q14 ct_q14:Value}
    {f_q8:Addr} {od_q8 an_q8:Option Addr} {sl_q8:Array (Option Value)} {oc_q8 kV_q8 dc_q8 pm_q8 cd_q8 ct_q8:Value}
    {f_q4:Addr} {od_q4 an_q4:Option Addr} {sl_q4:Array (Option Value)} {oc_q4 kV_q4 dc_q4 pm_q4 cd_q4 ct_q4:Value}
    {f_q23:Addr} {od_q23 an_q23:Option Addr} {sl_q23:Array (Option Value)} {oc_q23 kV_q23 dc_q23 pm_q23 cd_q23 ct_q23:Value}
    {f_q13:Addr} {od_q13 an_q13:Option Addr} {sl_q13:Array (Option Value)} {oc_q13 kV_q13 dc_q13 pm_q13 cd_q13 ct_q13:Value}
    {f_q10:Addr} {od_q10 an_q10:Option Addr} {sl_q10:Array (Option Value)} {oc_q10 kV_q10 dc_q10 pm_q10 cd_q10 ct_q10:Value}
    {f_q5:Addr} {od_q5 an_q5:Option Addr} {sl_q5:Array (Option Value)} {oc_q5 kV_q5 dc_q5 pm_q5 ct_q5:Value}
    {c_lam T_lam b_lam:Addr} {oc_lam:Value} {od_lam:Option Addr} {vs_lam:Array Value} {sl_lam sb_lam:Array (Option Value)}
    {f_q22:Addr} {od_q22 an_q22:Option Addr} {sl_q22:Array (Option Value)} {oc_q22 kV_q22 dc_q22 pm_q22 cd_q22 ct_q22:Value}
    {f_q7:Addr} {od_q7 an_q7:Option Addr} {sl_q7:Array (Option Value)} {oc_q7 kV_q7 dc_q7 pm_q7 cd_q7 ct_q7:Value}
    {f_q9:Addr} {od_q9 an_q9:Option Addr} {sl_q9:Array (Option Value)} {oc_q9 kV_q9 dc_q9 pm_q9 cd_q9 ct_q9:Value}
    {f_q25:Addr} {od_q25 an_q25:Option Addr} {sl_q25:Array (Option Value)} {oc_q25 kV_q25 dc_q25 pm_q25 cd_q25 ct_q25:Value}
    {f_q17:Addr} {od_q17 an_q17:Option Addr} {sl_q17:Array (Option Value)} {oc_q17 kV_q17 dc_q17 pm_q17 cd_q17 ct_q17:Value}
    {f_q19:Addr} {od_q19 an_q19:Option Addr} {sl_q19:Array (Option Value)} {oc_q19 kV_q19 dc_q19 pm_q19 cd_q19 ct_q19:Value}
    {f_q20:Addr} {od_q20 an_q20:Option Addr} {sl_q20:Array (Option Value)} {oc_q20 kV_q20 dc_q20 pm_q20 cd_q20 ct_q20:Value}
    {f_q18:Addr} {od_q18 an_q18:Option Addr} {sl_q18:Array (Option Value)} {oc_q18 kV_q18 dc_q18 pm_q18 cd_q18 ct_q18:Value}
    {f_q12:Addr} {od_q12 an_q12:Option Addr} {sl_q12:Array (Option Value)} {oc_q12 kV_q12 dc_q12 pm_q12 cd_q12 ct_q12:Value}
    {f_q24:Addr} {od_q24 an_q24:Option Addr} {sl_q24:Array (Option Value)} {oc_q24 kV_q24 dc_q24 pm_q24 cd_q24 ct_q24:Value}
    {f_q3:Addr} {od_q3 an_q3:Option Addr} {sl_q3:Array (Option Value)} {oc_q3 kV_q3 dc_q3 pm_q3 cd_q3 ct_q3:Value}
    {f_q1:Addr} {od_q1 an_q1:Option Addr} {sl_q1:Array (Option Value)} {oc_q1 kV_q1 dc_q1 pm_q1 cd_q1 ct_q1:Value}
    {f_q6:Addr} {od_q6 an_q6:Option Addr} {sl_q6:Array (Option Value)} {oc_q6 kV_q6 dc_q6 pm_q6 cd_q6 ct_q6:Value}
    {f_q26:Addr} {od_q26 an_q26:Option Addr} {sl_q26:Array (Option Value)} {oc_q26 kV_q26 dc_q26 pm_q26 cd_q26 ct_q26:Value}
    {tk_SQUARES:Tok}
    {tk_STREETS:Tok}
    (a_q15:PySem.W.nsIn K mainGlobals "need_count" = some (some (.ref f_q15)))
    (l_q15:K.lookup f_q15 = some ⟨oc_q15,od_q15,.func (PySem.W.fnOf "need_count" "need_count" (defArgs s_q15) (defBody s_q15) (defScope s_q15) .none kV_q15 dc_q15 pm_q15 an_q15 cd_q15 ct_q15),sl_q15⟩)
    (c_q15:PySem.W.codeIn K cd_q15 "need_count" = true) (k_q15:PySem.W.keepIn K (.ref f_q15) = true)
    (a_q0:PySem.W.nsIn K mainGlobals "need_as_many_numbers" = some (some (.ref f_q0)))
    (l_q0:K.lookup f_q0 = some ⟨oc_q0,od_q0,.func (PySem.W.fnOf "need_as_many_numbers" "need_as_many_numbers" (defArgs s_q0) (defBody s_q0) (defScope s_q0) .none kV_q0 dc_q0 pm_q0 an_q0 cd_q0 ct_q0),sl_q0⟩)
    (c_q0:PySem.W.codeIn K cd_q0 "need_as_many_numbers" = true) (k_q0:PySem.W.keepIn K (.ref f_q0) = true)
    (a_q11:PySem.W.nsIn K mainGlobals "need_points" = some (some (.ref f_q11)))
    (l_q11:K.lookup f_q11 = some ⟨oc_q11,od_q11,.func (PySem.W.fnOf "need_points" "need_points" (defArgs s_q11) (defBody s_q11) (defScope s_q11) .none kV_q11 dc_q11 pm_q11 an_q11 cd_q11 ct_q11),sl_q11⟩)
    (c_q11:PySem.W.codeIn K cd_q11 "need_points" = true) (k_q11:PySem.W.keepIn K (.ref f_q11) = true)
    (a_q21:PySem.W.nsIn K mainGlobals "need_way" = some (some (.ref f_q21)))
    (l_q21:K.lookup f_q21 = some ⟨oc_q21,od_q21,.func (PySem.W.fnOf "need_way" "need_way" (defArgs s_q21) (defBody s_q21) (defScope s_q21) .none kV_q21 dc_q21 pm_q21 an_q21 cd_q21 ct_q21),sl_q21⟩)
    (c_q21:PySem.W.codeIn K cd_q21 "need_way" = true) (k_q21:PySem.W.keepIn K (.ref f_q21) = true)
    (a_q2:PySem.W.nsIn K mainGlobals "need_points_and_way" = some (some (.ref f_q2)))
    (l_q2:K.lookup f_q2 = some ⟨oc_q2,od_q2,.func (PySem.W.fnOf "need_points_and_way" "need_points_and_way" (defArgs s_q2) (defBody s_q2) (defScope s_q2) .none kV_q2 dc_q2 pm_q2 an_q2 cd_q2 ct_q2),sl_q2⟩)
    (c_q2:PySem.W.codeIn K cd_q2 "need_points_and_way" = true) (k_q2:PySem.W.keepIn K (.ref f_q2) = true)
    (a_q16:PySem.W.nsIn K mainGlobals "need_place" = some (some (.ref f_q16)))
    (l_q16:K.lookup f_q16 = some ⟨oc_q16,od_q16,.func (PySem.W.fnOf "need_place" "need_place" (defArgs s_q16) (defBody s_q16) (defScope s_q16) .none kV_q16 dc_q16 pm_q16 an_q16 cd_q16 ct_q16),sl_q16⟩)
    (c_q16:PySem.W.codeIn K cd_q16 "need_place" = true) (k_q16:PySem.W.keepIn K (.ref f_q16) = true)
    (a_q14:PySem.W.nsIn K mainGlobals "need_bound" = some (some (.ref f_q14)))
    (l_q14:K.lookup f_q14 = some ⟨oc_q14,od_q14,.func (PySem.W.fnOf "need_bound" "need_bound" (defArgs s_q14) (defBody s_q14) (defScope s_q14) .none kV_q14 dc_q14 pm_q14 an_q14 cd_q14 ct_q14),sl_q14⟩)
    (c_q14:PySem.W.codeIn K cd_q14 "need_bound" = true) (k_q14:PySem.W.keepIn K (.ref f_q14) = true)
    (a_q8:PySem.W.nsIn K mainGlobals "far_between" = some (some (.ref f_q8)))
    (l_q8:K.lookup f_q8 = some ⟨oc_q8,od_q8,.func (PySem.W.fnOf "far_between" "far_between" (defArgs s_q8) (defBody s_q8) (defScope s_q8) .none kV_q8 dc_q8 pm_q8 an_q8 cd_q8 ct_q8),sl_q8⟩)
    (c_q8:PySem.W.codeIn K cd_q8 "far_between" = true) (k_q8:PySem.W.keepIn K (.ref f_q8) = true)
    (a_q4:PySem.W.nsIn K mainGlobals "pairs_by_places" = some (some (.ref f_q4)))
    (l_q4:K.lookup f_q4 = some ⟨oc_q4,od_q4,.func (PySem.W.fnOf "pairs_by_places" "pairs_by_places" (defArgs s_q4) (defBody s_q4) (defScope s_q4) .none kV_q4 dc_q4 pm_q4 an_q4 cd_q4 ct_q4),sl_q4⟩)
    (c_q4:PySem.W.codeIn K cd_q4 "pairs_by_places" = true) (k_q4:PySem.W.keepIn K (.ref f_q4) = true)
    (a_q23:PySem.W.nsIn K mainGlobals "how_far" = some (some (.ref f_q23)))
    (l_q23:K.lookup f_q23 = some ⟨oc_q23,od_q23,.func (PySem.W.fnOf "how_far" "how_far" (defArgs s_q23) (defBody s_q23) (defScope s_q23) .none kV_q23 dc_q23 pm_q23 an_q23 cd_q23 ct_q23),sl_q23⟩)
    (c_q23:PySem.W.codeIn K cd_q23 "how_far" = true) (k_q23:PySem.W.keepIn K (.ref f_q23) = true)
    (a_q13:PySem.W.nsIn K mainGlobals "near_pairs" = some (some (.ref f_q13)))
    (l_q13:K.lookup f_q13 = some ⟨oc_q13,od_q13,.func (PySem.W.fnOf "near_pairs" "near_pairs" (defArgs s_q13) (defBody s_q13) (defScope s_q13) .none kV_q13 dc_q13 pm_q13 an_q13 cd_q13 ct_q13),sl_q13⟩)
    (c_q13:PySem.W.codeIn K cd_q13 "near_pairs" = true) (k_q13:PySem.W.keepIn K (.ref f_q13) = true)
    (a_q10:PySem.W.nsIn K mainGlobals "near_counts" = some (some (.ref f_q10)))
    (l_q10:K.lookup f_q10 = some ⟨oc_q10,od_q10,.func (PySem.W.fnOf "near_counts" "near_counts" (defArgs s_q10) (defBody s_q10) (defScope s_q10) .none kV_q10 dc_q10 pm_q10 an_q10 cd_q10 ct_q10),sl_q10⟩)
    (c_q10:PySem.W.codeIn K cd_q10 "near_counts" = true) (k_q10:PySem.W.keepIn K (.ref f_q10) = true)
    (a_q5:PySem.W.nsIn K mainGlobals "greatest_first" = some (some (.ref f_q5)))
    (l_q5:K.lookup f_q5 = some ⟨oc_q5,od_q5,.func (PySem.W.fnOf "greatest_first" "greatest_first" (defArgs s_q5) (defBody s_q5) (defScope s_q5) .none kV_q5 dc_q5 pm_q5 an_q5 (.ref c_lam) ct_q5),sl_q5⟩)
    (c_q5:PySem.W.codeIn K (.ref c_lam) "greatest_first" = true) (k_q5:PySem.W.keepIn K (.ref f_q5) = true)
    (t_lam:K.lookup c_lam = some ⟨oc_lam,od_lam,.fields vs_lam,sl_lam⟩) (v_lam:(vs_lam[11]?:Option Value) = some (.ref T_lam)) (p_lam:K.lookup T_lam = some (PySem.W.tabObj #[])) (h_lam:PySem.W.codeHdIn K c_lam T_lam = true)
    (b_lam':PySem.W.nsIn K mainGlobals "__builtins__" = some (some (.ref b_lam))) (o_lam:K.lookup b_lam = some ⟨.type "module",some builtinsNs,.plain,sb_lam⟩) (n_lam:mainGlobals ≠ T_lam /\ b_lam ≠ builtinsNs /\ b_lam ≠ mainGlobals /\ b_lam ≠ T_lam)
    (a_q22:PySem.W.nsIn K mainGlobals "fars_of" = some (some (.ref f_q22)))
    (l_q22:K.lookup f_q22 = some ⟨oc_q22,od_q22,.func (PySem.W.fnOf "fars_of" "fars_of" (defArgs s_q22) (defBody s_q22) (defScope s_q22) .none kV_q22 dc_q22 pm_q22 an_q22 cd_q22 ct_q22),sl_q22⟩)
    (c_q22:PySem.W.codeIn K cd_q22 "fars_of" = true) (k_q22:PySem.W.keepIn K (.ref f_q22) = true)
    (a_q7:PySem.W.nsIn K mainGlobals "farthest_two" = some (some (.ref f_q7)))
    (l_q7:K.lookup f_q7 = some ⟨oc_q7,od_q7,.func (PySem.W.fnOf "farthest_two" "farthest_two" (defArgs s_q7) (defBody s_q7) (defScope s_q7) .none kV_q7 dc_q7 pm_q7 an_q7 cd_q7 ct_q7),sl_q7⟩)
    (c_q7:PySem.W.codeIn K cd_q7 "farthest_two" = true) (k_q7:PySem.W.keepIn K (.ref f_q7) = true)
    (a_q9:PySem.W.nsIn K mainGlobals "farthest_of" = some (some (.ref f_q9)))
    (l_q9:K.lookup f_q9 = some ⟨oc_q9,od_q9,.func (PySem.W.fnOf "farthest_of" "farthest_of" (defArgs s_q9) (defBody s_q9) (defScope s_q9) .none kV_q9 dc_q9 pm_q9 an_q9 cd_q9 ct_q9),sl_q9⟩)
    (c_q9:PySem.W.codeIn K cd_q9 "farthest_of" = true) (k_q9:PySem.W.keepIn K (.ref f_q9) = true)
    (a_q25:PySem.W.nsIn K mainGlobals "middle" = some (some (.ref f_q25)))
    (l_q25:K.lookup f_q25 = some ⟨oc_q25,od_q25,.func (PySem.W.fnOf "middle" "middle" (defArgs s_q25) (defBody s_q25) (defScope s_q25) .none kV_q25 dc_q25 pm_q25 an_q25 cd_q25 ct_q25),sl_q25⟩)
    (c_q25:PySem.W.codeIn K cd_q25 "middle" = true) (k_q25:PySem.W.keepIn K (.ref f_q25) = true)
    (a_q17:PySem.W.nsIn K mainGlobals "sums_place" = some (some (.ref f_q17)))
    (l_q17:K.lookup f_q17 = some ⟨oc_q17,od_q17,.func (PySem.W.fnOf "sums_place" "sums_place" (defArgs s_q17) (defBody s_q17) (defScope s_q17) .none kV_q17 dc_q17 pm_q17 an_q17 cd_q17 ct_q17),sl_q17⟩)
    (c_q17:PySem.W.codeIn K cd_q17 "sums_place" = true) (k_q17:PySem.W.keepIn K (.ref f_q17) = true)
    (a_q19:PySem.W.nsIn K mainGlobals "most_near" = some (some (.ref f_q19)))
    (l_q19:K.lookup f_q19 = some ⟨oc_q19,od_q19,.func (PySem.W.fnOf "most_near" "most_near" (defArgs s_q19) (defBody s_q19) (defScope s_q19) .none kV_q19 dc_q19 pm_q19 an_q19 cd_q19 ct_q19),sl_q19⟩)
    (c_q19:PySem.W.codeIn K cd_q19 "most_near" = true) (k_q19:PySem.W.keepIn K (.ref f_q19) = true)
    (a_q20:PySem.W.nsIn K mainGlobals "_law_stir" = some (some (.ref f_q20)))
    (l_q20:K.lookup f_q20 = some ⟨oc_q20,od_q20,.func (PySem.W.fnOf "_law_stir" "_law_stir" (defArgs s_q20) (defBody s_q20) (defScope s_q20) .none kV_q20 dc_q20 pm_q20 an_q20 cd_q20 ct_q20),sl_q20⟩)
    (c_q20:PySem.W.codeIn K cd_q20 "_law_stir" = true) (k_q20:PySem.W.keepIn K (.ref f_q20) = true)
    (a_q18:PySem.W.nsIn K mainGlobals "_law_cells" = some (some (.ref f_q18)))
    (l_q18:K.lookup f_q18 = some ⟨oc_q18,od_q18,.func (PySem.W.fnOf "_law_cells" "_law_cells" (defArgs s_q18) (defBody s_q18) (defScope s_q18) .none kV_q18 dc_q18 pm_q18 an_q18 cd_q18 ct_q18),sl_q18⟩)
    (c_q18:PySem.W.codeIn K cd_q18 "_law_cells" = true) (k_q18:PySem.W.keepIn K (.ref f_q18) = true)
    (a_q12:PySem.W.nsIn K mainGlobals "_law_points" = some (some (.ref f_q12)))
    (l_q12:K.lookup f_q12 = some ⟨oc_q12,od_q12,.func (PySem.W.fnOf "_law_points" "_law_points" (defArgs s_q12) (defBody s_q12) (defScope s_q12) .none kV_q12 dc_q12 pm_q12 an_q12 cd_q12 ct_q12),sl_q12⟩)
    (c_q12:PySem.W.codeIn K cd_q12 "_law_points" = true) (k_q12:PySem.W.keepIn K (.ref f_q12) = true)
    (a_q24:PySem.W.nsIn K mainGlobals "_law_way" = some (some (.ref f_q24)))
    (l_q24:K.lookup f_q24 = some ⟨oc_q24,od_q24,.func (PySem.W.fnOf "_law_way" "_law_way" (defArgs s_q24) (defBody s_q24) (defScope s_q24) .none kV_q24 dc_q24 pm_q24 an_q24 cd_q24 ct_q24),sl_q24⟩)
    (c_q24:PySem.W.codeIn K cd_q24 "_law_way" = true) (k_q24:PySem.W.keepIn K (.ref f_q24) = true)
    (a_q3:PySem.W.nsIn K mainGlobals "_law_together_right" = some (some (.ref f_q3)))
    (l_q3:K.lookup f_q3 = some ⟨oc_q3,od_q3,.func (PySem.W.fnOf "_law_together_right" "_law_together_right" (defArgs s_q3) (defBody s_q3) (defScope s_q3) .none kV_q3 dc_q3 pm_q3 an_q3 cd_q3 ct_q3),sl_q3⟩)
    (c_q3:PySem.W.codeIn K cd_q3 "_law_together_right" = true) (k_q3:PySem.W.keepIn K (.ref f_q3) = true)
    (a_q1:PySem.W.nsIn K mainGlobals "_law_otherwise_right" = some (some (.ref f_q1)))
    (l_q1:K.lookup f_q1 = some ⟨oc_q1,od_q1,.func (PySem.W.fnOf "_law_otherwise_right" "_law_otherwise_right" (defArgs s_q1) (defBody s_q1) (defScope s_q1) .none kV_q1 dc_q1 pm_q1 an_q1 cd_q1 ct_q1),sl_q1⟩)
    (c_q1:PySem.W.codeIn K cd_q1 "_law_otherwise_right" = true) (k_q1:PySem.W.keepIn K (.ref f_q1) = true)
    (a_q6:PySem.W.nsIn K mainGlobals "_law_line_right" = some (some (.ref f_q6)))
    (l_q6:K.lookup f_q6 = some ⟨oc_q6,od_q6,.func (PySem.W.fnOf "_law_line_right" "_law_line_right" (defArgs s_q6) (defBody s_q6) (defScope s_q6) .none kV_q6 dc_q6 pm_q6 an_q6 cd_q6 ct_q6),sl_q6⟩)
    (c_q6:PySem.W.codeIn K cd_q6 "_law_line_right" = true) (k_q6:PySem.W.keepIn K (.ref f_q6) = true)
    (a_q26:PySem.W.nsIn K mainGlobals "law" = some (some (.ref f_q26)))
    (l_q26:K.lookup f_q26 = some ⟨oc_q26,od_q26,.func (PySem.W.fnOf "law" "law" (defArgs s_q26) (defBody s_q26) (defScope s_q26) .none kV_q26 dc_q26 pm_q26 an_q26 cd_q26 ct_q26),sl_q26⟩)
    (c_q26:PySem.W.codeIn K cd_q26 "law" = true) (k_q26:PySem.W.keepIn K (.ref f_q26) = true)
    (z_abs:PySem.W.nsIn K mainGlobals "abs" = some none)
    (z_enumerate:PySem.W.nsIn K mainGlobals "enumerate" = some none)
    (z_int:PySem.W.nsIn K mainGlobals "int" = some none)
    (z_len:PySem.W.nsIn K mainGlobals "len" = some none)
    (z_max:PySem.W.nsIn K mainGlobals "max" = some none)
    (z_min:PySem.W.nsIn K mainGlobals "min" = some none)
    (z_range:PySem.W.nsIn K mainGlobals "range" = some none)
    (z_sum:PySem.W.nsIn K mainGlobals "sum" = some none)
    (z_tuple:PySem.W.nsIn K mainGlobals "tuple" = some none)
    (z_zip:PySem.W.nsIn K mainGlobals "zip" = some none)
    (u_SQUARES:PySem.W.nsIn K mainGlobals "SQUARES" = some (some (.str "squares" tk_SQUARES)))
    (u_STREETS:PySem.W.nsIn K mainGlobals "STREETS" = some (some (.str "streets" tk_STREETS))) :
    ∃ (c T:Addr) (fd:FuncData),K.lookup T = some (PySem.W.tabObj #[]) /\ PySem.W.codeHdIn K c T = true /\ (∀ (s:Shared) (v:Value),BindsTo s fd ⟨[v],[]⟩ [("script",v)]) /\ ∀ base:Heap,(dropT T K).In base -> base.Ns mainGlobals mg -> FnOk l.prog w (dropT T K) mg base CX0 8 fa fd ["script"] (spLaw (dropT T K) T):=by
  have e:=hfa.symm.trans (PySem.W.mg_of X Gs a_q26)
  cases e
  refine ⟨c_lam,T_lam,PySem.W.fnOf "law" "law" (defArgs s_q26) (defBody s_q26) (defScope s_q26) .none kV_q26 dc_q26 pm_q26 an_q26 cd_q26 ct_q26,p_lam,h_lam,fun s v=>.of_eq rfl,fun base _ _=>?_⟩
  letI:KF:=⟨(dropT T_lam K),fun _=>0,[(T_lam,#[],⟨67,25,67,43⟩,("greatest_first":Str) ++ ".<locals>." ++ "<lambda>")]⟩
  have E:Gl ⟨l.prog,w,(dropT T_lam K),mg,base⟩:=⟨PySem.W.mg_none_of X Gs z_abs,PySem.W.mg_none_of X Gs z_enumerate,PySem.W.mg_none_of X Gs z_int,PySem.W.mg_none_of X Gs z_len,PySem.W.mg_none_of X Gs z_max,PySem.W.mg_none_of X Gs z_min,PySem.W.mg_none_of X Gs z_range,PySem.W.mg_none_of X Gs z_sum,PySem.W.mg_none_of X Gs z_tuple,PySem.W.mg_none_of X Gs z_zip,⟨_,.str "squares",PySem.W.mg_of X Gs u_SQUARES,⟨_,rfl⟩,fun F=>.str _⟩,⟨_,.str "streets",PySem.W.mg_of X Gs u_STREETS,⟨_,rfl⟩,fun F=>.str _⟩⟩
  have F_q15:=fun_mk (K:=(dropT T_lam K)) (st:=s_q15) (drop_fun p_lam l_q15) (drop_code p_lam c_q15) (drop_keep p_lam l_q15)
  have d_q15:FnD ⟨l.prog,w,(dropT T_lam K),mg,base⟩ "need_count" s_q15 ["count"] _ _:=⟨F_q15,PySem.W.mg_of X Gs a_q15,F_q15.binds fun _ _ _ _ _ _ us hl=>len1 (fun _=>rfl) us hl⟩
  have F_q0:=fun_mk (K:=(dropT T_lam K)) (st:=s_q0) (drop_fun p_lam l_q0) (drop_code p_lam c_q0) (drop_keep p_lam l_q0)
  have d_q0:FnD ⟨l.prog,w,(dropT T_lam K),mg,base⟩ "need_as_many_numbers" s_q0 ["point","count"] _ _:=⟨F_q0,PySem.W.mg_of X Gs a_q0,F_q0.binds fun _ _ _ _ _ _ us hl=>len2 (fun _ _=>rfl) us hl⟩
  have F_q11:=fun_mk (K:=(dropT T_lam K)) (st:=s_q11) (drop_fun p_lam l_q11) (drop_code p_lam c_q11) (drop_keep p_lam l_q11)
  have d_q11:FnD ⟨l.prog,w,(dropT T_lam K),mg,base⟩ "need_points" s_q11 ["points"] _ _:=⟨F_q11,PySem.W.mg_of X Gs a_q11,F_q11.binds fun _ _ _ _ _ _ us hl=>len1 (fun _=>rfl) us hl⟩
  have F_q21:=fun_mk (K:=(dropT T_lam K)) (st:=s_q21) (drop_fun p_lam l_q21) (drop_code p_lam c_q21) (drop_keep p_lam l_q21)
  have d_q21:FnD ⟨l.prog,w,(dropT T_lam K),mg,base⟩ "need_way" s_q21 ["way"] _ _:=⟨F_q21,PySem.W.mg_of X Gs a_q21,F_q21.binds fun _ _ _ _ _ _ us hl=>len1 (fun _=>rfl) us hl⟩
  have F_q2:=fun_mk (K:=(dropT T_lam K)) (st:=s_q2) (drop_fun p_lam l_q2) (drop_code p_lam c_q2) (drop_keep p_lam l_q2)
  have d_q2:FnD ⟨l.prog,w,(dropT T_lam K),mg,base⟩ "need_points_and_way" s_q2 ["points","way"] _ _:=⟨F_q2,PySem.W.mg_of X Gs a_q2,F_q2.binds fun _ _ _ _ _ _ us hl=>len2 (fun _ _=>rfl) us hl⟩
  have F_q16:=fun_mk (K:=(dropT T_lam K)) (st:=s_q16) (drop_fun p_lam l_q16) (drop_code p_lam c_q16) (drop_keep p_lam l_q16)
  have d_q16:FnD ⟨l.prog,w,(dropT T_lam K),mg,base⟩ "need_place" s_q16 ["points","place"] _ _:=⟨F_q16,PySem.W.mg_of X Gs a_q16,F_q16.binds fun _ _ _ _ _ _ us hl=>len2 (fun _ _=>rfl) us hl⟩
  have F_q14:=fun_mk (K:=(dropT T_lam K)) (st:=s_q14) (drop_fun p_lam l_q14) (drop_code p_lam c_q14) (drop_keep p_lam l_q14)
  have d_q14:FnD ⟨l.prog,w,(dropT T_lam K),mg,base⟩ "need_bound" s_q14 ["bound"] _ _:=⟨F_q14,PySem.W.mg_of X Gs a_q14,F_q14.binds fun _ _ _ _ _ _ us hl=>len1 (fun _=>rfl) us hl⟩
  have F_q8:=fun_mk (K:=(dropT T_lam K)) (st:=s_q8) (drop_fun p_lam l_q8) (drop_code p_lam c_q8) (drop_keep p_lam l_q8)
  have d_q8:FnD ⟨l.prog,w,(dropT T_lam K),mg,base⟩ "far_between" s_q8 ["way","point","other"] _ _:=⟨F_q8,PySem.W.mg_of X Gs a_q8,F_q8.binds fun _ _ _ _ _ _ us hl=>len3 (fun _ _ _=>rfl) us hl⟩
  have F_q4:=fun_mk (K:=(dropT T_lam K)) (st:=s_q4) (drop_fun p_lam l_q4) (drop_code p_lam c_q4) (drop_keep p_lam l_q4)
  have d_q4:FnD ⟨l.prog,w,(dropT T_lam K),mg,base⟩ "pairs_by_places" s_q4 ["points","way"] _ _:=⟨F_q4,PySem.W.mg_of X Gs a_q4,F_q4.binds fun _ _ _ _ _ _ us hl=>len2 (fun _ _=>rfl) us hl⟩
  have F_q23:=fun_mk (K:=(dropT T_lam K)) (st:=s_q23) (drop_fun p_lam l_q23) (drop_code p_lam c_q23) (drop_keep p_lam l_q23)
  have d_q23:FnD ⟨l.prog,w,(dropT T_lam K),mg,base⟩ "how_far" s_q23 ["points","way","one","other"] _ _:=⟨F_q23,PySem.W.mg_of X Gs a_q23,F_q23.binds fun _ _ _ _ _ _ us hl=>len4 (fun _ _ _ _=>rfl) us hl⟩
  have F_q13:=fun_mk (K:=(dropT T_lam K)) (st:=s_q13) (drop_fun p_lam l_q13) (drop_code p_lam c_q13) (drop_keep p_lam l_q13)
  have d_q13:FnD ⟨l.prog,w,(dropT T_lam K),mg,base⟩ "near_pairs" s_q13 ["points","way","bound"] _ _:=⟨F_q13,PySem.W.mg_of X Gs a_q13,F_q13.binds fun _ _ _ _ _ _ us hl=>len3 (fun _ _ _=>rfl) us hl⟩
  have F_q10:=fun_mk (K:=(dropT T_lam K)) (st:=s_q10) (drop_fun p_lam l_q10) (drop_code p_lam c_q10) (drop_keep p_lam l_q10)
  have d_q10:FnD ⟨l.prog,w,(dropT T_lam K),mg,base⟩ "near_counts" s_q10 ["points","way","bound"] _ _:=⟨F_q10,PySem.W.mg_of X Gs a_q10,F_q10.binds fun _ _ _ _ _ _ us hl=>len3 (fun _ _ _=>rfl) us hl⟩
  have F_q5:=fun_mk (K:=(dropT T_lam K)) (st:=s_q5) (drop_fun p_lam l_q5) (drop_code p_lam c_q5) (drop_keep p_lam l_q5)
  have d_q5:FnD ⟨l.prog,w,(dropT T_lam K),mg,base⟩ "greatest_first" s_q5 ["told"] _ _:=⟨F_q5,PySem.W.mg_of X Gs a_q5,F_q5.binds fun _ _ _ _ _ _ us hl=>len1 (fun _=>rfl) us hl⟩
  have F_q22:=fun_mk (K:=(dropT T_lam K)) (st:=s_q22) (drop_fun p_lam l_q22) (drop_code p_lam c_q22) (drop_keep p_lam l_q22)
  have d_q22:FnD ⟨l.prog,w,(dropT T_lam K),mg,base⟩ "fars_of" s_q22 ["points","way","place"] _ _:=⟨F_q22,PySem.W.mg_of X Gs a_q22,F_q22.binds fun _ _ _ _ _ _ us hl=>len3 (fun _ _ _=>rfl) us hl⟩
  have F_q7:=fun_mk (K:=(dropT T_lam K)) (st:=s_q7) (drop_fun p_lam l_q7) (drop_code p_lam c_q7) (drop_keep p_lam l_q7)
  have d_q7:FnD ⟨l.prog,w,(dropT T_lam K),mg,base⟩ "farthest_two" s_q7 ["points","way"] _ _:=⟨F_q7,PySem.W.mg_of X Gs a_q7,F_q7.binds fun _ _ _ _ _ _ us hl=>len2 (fun _ _=>rfl) us hl⟩
  have F_q9:=fun_mk (K:=(dropT T_lam K)) (st:=s_q9) (drop_fun p_lam l_q9) (drop_code p_lam c_q9) (drop_keep p_lam l_q9)
  have d_q9:FnD ⟨l.prog,w,(dropT T_lam K),mg,base⟩ "farthest_of" s_q9 ["points","way","place"] _ _:=⟨F_q9,PySem.W.mg_of X Gs a_q9,F_q9.binds fun _ _ _ _ _ _ us hl=>len3 (fun _ _ _=>rfl) us hl⟩
  have F_q25:=fun_mk (K:=(dropT T_lam K)) (st:=s_q25) (drop_fun p_lam l_q25) (drop_code p_lam c_q25) (drop_keep p_lam l_q25)
  have d_q25:FnD ⟨l.prog,w,(dropT T_lam K),mg,base⟩ "middle" s_q25 ["points","way"] _ _:=⟨F_q25,PySem.W.mg_of X Gs a_q25,F_q25.binds fun _ _ _ _ _ _ us hl=>len2 (fun _ _=>rfl) us hl⟩
  have F_q17:=fun_mk (K:=(dropT T_lam K)) (st:=s_q17) (drop_fun p_lam l_q17) (drop_code p_lam c_q17) (drop_keep p_lam l_q17)
  have d_q17:FnD ⟨l.prog,w,(dropT T_lam K),mg,base⟩ "sums_place" s_q17 ["points","way"] _ _:=⟨F_q17,PySem.W.mg_of X Gs a_q17,F_q17.binds fun _ _ _ _ _ _ us hl=>len2 (fun _ _=>rfl) us hl⟩
  have F_q19:=fun_mk (K:=(dropT T_lam K)) (st:=s_q19) (drop_fun p_lam l_q19) (drop_code p_lam c_q19) (drop_keep p_lam l_q19)
  have d_q19:FnD ⟨l.prog,w,(dropT T_lam K),mg,base⟩ "most_near" s_q19 ["points","way","bound"] _ _:=⟨F_q19,PySem.W.mg_of X Gs a_q19,F_q19.binds fun _ _ _ _ _ _ us hl=>len3 (fun _ _ _=>rfl) us hl⟩
  have F_q20:=fun_mk (K:=(dropT T_lam K)) (st:=s_q20) (drop_fun p_lam l_q20) (drop_code p_lam c_q20) (drop_keep p_lam l_q20)
  have d_q20:FnD ⟨l.prog,w,(dropT T_lam K),mg,base⟩ "_law_stir" s_q20 ["cell","k"] _ _:=⟨F_q20,PySem.W.mg_of X Gs a_q20,F_q20.binds fun _ _ _ _ _ _ us hl=>len2 (fun _ _=>rfl) us hl⟩
  have F_q18:=fun_mk (K:=(dropT T_lam K)) (st:=s_q18) (drop_fun p_lam l_q18) (drop_code p_lam c_q18) (drop_keep p_lam l_q18)
  have d_q18:FnD ⟨l.prog,w,(dropT T_lam K),mg,base⟩ "_law_cells" s_q18 ["script","many"] _ _:=⟨F_q18,PySem.W.mg_of X Gs a_q18,F_q18.binds fun _ _ _ _ _ _ us hl=>len2 (fun _ _=>rfl) us hl⟩
  have F_q12:=fun_mk (K:=(dropT T_lam K)) (st:=s_q12) (drop_fun p_lam l_q12) (drop_code p_lam c_q12) (drop_keep p_lam l_q12)
  have d_q12:FnD ⟨l.prog,w,(dropT T_lam K),mg,base⟩ "_law_points" s_q12 ["cell","most"] _ _:=⟨F_q12,PySem.W.mg_of X Gs a_q12,F_q12.binds fun _ _ _ _ _ _ us hl=>len2 (fun _ _=>rfl) us hl⟩
  have F_q24:=fun_mk (K:=(dropT T_lam K)) (st:=s_q24) (drop_fun p_lam l_q24) (drop_code p_lam c_q24) (drop_keep p_lam l_q24)
  have d_q24:FnD ⟨l.prog,w,(dropT T_lam K),mg,base⟩ "_law_way" s_q24 ["cell"] _ _:=⟨F_q24,PySem.W.mg_of X Gs a_q24,F_q24.binds fun _ _ _ _ _ _ us hl=>len1 (fun _=>rfl) us hl⟩
  have F_q3:=fun_mk (K:=(dropT T_lam K)) (st:=s_q3) (drop_fun p_lam l_q3) (drop_code p_lam c_q3) (drop_keep p_lam l_q3)
  have d_q3:FnD ⟨l.prog,w,(dropT T_lam K),mg,base⟩ "_law_together_right" s_q3 ["points","way"] _ _:=⟨F_q3,PySem.W.mg_of X Gs a_q3,F_q3.binds fun _ _ _ _ _ _ us hl=>len2 (fun _ _=>rfl) us hl⟩
  have F_q1:=fun_mk (K:=(dropT T_lam K)) (st:=s_q1) (drop_fun p_lam l_q1) (drop_code p_lam c_q1) (drop_keep p_lam l_q1)
  have d_q1:FnD ⟨l.prog,w,(dropT T_lam K),mg,base⟩ "_law_otherwise_right" s_q1 ["cell","points","way"] _ _:=⟨F_q1,PySem.W.mg_of X Gs a_q1,F_q1.binds fun _ _ _ _ _ _ us hl=>len3 (fun _ _ _=>rfl) us hl⟩
  have F_q6:=fun_mk (K:=(dropT T_lam K)) (st:=s_q6) (drop_fun p_lam l_q6) (drop_code p_lam c_q6) (drop_keep p_lam l_q6)
  have d_q6:FnD ⟨l.prog,w,(dropT T_lam K),mg,base⟩ "_law_line_right" s_q6 ["cell","way"] _ _:=⟨F_q6,PySem.W.mg_of X Gs a_q6,F_q6.binds fun _ _ _ _ _ _ us hl=>len2 (fun _ _=>rfl) us hl⟩
  have F_q26:=fun_mk (K:=(dropT T_lam K)) (st:=s_q26) (drop_fun p_lam l_q26) (drop_code p_lam c_q26) (drop_keep p_lam l_q26)
  have d_q26:FnD ⟨l.prog,w,(dropT T_lam K),mg,base⟩ "law" s_q26 ["script"] _ _:=⟨F_q26,PySem.W.mg_of X Gs a_q26,F_q26.binds fun _ _ _ _ _ _ us hl=>len1 (fun _=>rfl) us hl⟩
  have lg:LamG ⟨l.prog,w,(dropT T_lam K),mg,base⟩ (PySem.W.fnOf "greatest_first" "greatest_first" (defArgs s_q5) (defBody s_q5) (defScope s_q5) .none kV_q5 dc_q5 pm_q5 an_q5 (.ref c_lam) ct_q5) ⟨67,25,67,43⟩ "greatest_first":=⟨c_lam,T_lam,b_lam,sb_lam,rfl,drop_hd p_lam h_lam,List.mem_singleton.mpr rfl,n_lam.1,PySem.W.mg_of X Gs b_lam',n_lam.2.1,n_lam.2.2.1,n_lam.2.2.2,by rw [drop_ne n_lam.2.2.2];exact o_lam⟩
  exact ok_q26 rfl rfl E d_q15 d_q0 d_q11 d_q21 d_q2 d_q16 d_q14 d_q8 d_q4 d_q23 d_q13 d_q10 d_q5 d_q22 d_q7 d_q9 d_q25 d_q17 d_q19 d_q20 d_q18 d_q12 d_q24 d_q3 d_q1 d_q6 d_q26 lg
theorem walk {l:PySem.W.OpenLaw} {q:Program} {loose:List Str} {XP:(Str -> Option Value) -> Heap -> Prop} {YP:World -> Heap -> Prop} {d:DefRec} {K:Params -> PySem.W.Frag} (hn:l.most = some 63) (hdf:d.params.defaults = [])
    (hY:∀ (w:World) (h:Heap),YP w h -> (K w.params).In h)
    (F:∀ (w:World) (mg:Str -> Option Value) (fa:Addr) (h:Heap),(K w.params).In h -> h.Ns mainGlobals mg -> mg d.name = some (.ref fa) ->
      ∃ (c T:Addr) (fd:FuncData),(K w.params).lookup T = some (PySem.W.tabObj #[]) /\ PySem.W.codeHdIn (K w.params) c T = true /\ (∀ (s:Shared) (u:Value),BindsTo s fd ⟨[u],[]⟩ [("script",u)]) /\ ∀ base:Heap,(dropT T (K w.params)).In base -> base.Ns mainGlobals mg -> FnOk l.prog w (dropT T (K w.params)) mg base CX0 8 fa fd ["script"] (spLaw (dropT T (K w.params)) T)) :
    PySem.W.WalkO q loose XP YP l.row.toRowW d [] (fun f vs=>PySem.call f vs) :=
  walk_ofT (n:=63) (k:=8) (x:="script") (lpos:=⟨67,25,67,43⟩) (qual:=("greatest_first":Str) ++ ".<locals>." ++ "<lambda>") (sp:=spLaw) hn (by decide) hdf ⟨rfl,by decide,by decide⟩ hY F (fun _ _ _ a ns hl hT hS=>⟨a,ns,rfl,hS,hl,hT,fun _ sm=>⟨rfl,sm⟩⟩)

end K49
theorem PySem.W.Fast.tw4188887973621622574:True:=trivial
theorem PySem.W.Fast.tw377413711703627163:True:=trivial
theorem PySem.W.Fast.tw10208903357051056322:True:=trivial
theorem PySem.W.Fast.tw16443064935987732858:True:=trivial
theorem PySem.W.Fast.tw13354615041532922125:True:=trivial
theorem PySem.W.Fast.tw2788521872900419243:True:=trivial
theorem PySem.W.Fast.tw4758941651162129538:True:=trivial
theorem PySem.W.Fast.tw9163164338312938241:True:=trivial
theorem PySem.W.Fast.tw1887676280531040701:True:=trivial
theorem PySem.W.Fast.tw13283772015596501882:True:=trivial
theorem PySem.W.Fast.tw17670046420975934268:True:=trivial
theorem PySem.W.Fast.tw7086466694384115104:True:=trivial
theorem PySem.W.Fast.tw3656575206590451438:True:=trivial
theorem PySem.W.Fast.tw8228722224736227155:True:=trivial
theorem PySem.W.Fast.tw11576864297079622610:True:=trivial
theorem PySem.W.Fast.tw6542650237712939176:True:=trivial
theorem PySem.W.Fast.tw16243005523443561869:True:=trivial
theorem PySem.W.Fast.tw11641423483718295682:True:=trivial
theorem PySem.W.Fast.tw6998094805679115521:True:=trivial
theorem PySem.W.Fast.tw3990430350631784070:True:=trivial
theorem PySem.W.Fast.tw14397759875932923190:True:=trivial
theorem PySem.W.Fast.tw7188037992246515189:True:=trivial
theorem PySem.W.Fast.tw3761299346331569282:True:=trivial
theorem PySem.W.Fast.tw4215270298536815105:True:=trivial
theorem PySem.W.Fast.tw12292138238976571175:True:=trivial
theorem PySem.W.Fast.tw392325139096792445:True:=trivial
theorem PySem.W.Fast.tw15856552552235509178:True:=trivial
theorem PySem.W.Fast.tw14872668306947929150:True:=trivial
theorem PySem.W.Fast.tw4627474667462134197:True:=trivial
theorem PySem.W.Fast.tw9171842246844040437:True:=trivial
theorem PySem.W.Fast.tw16950768292224064587:True:=trivial
theorem PySem.W.Fast.tw14410299586919244321:True:=trivial
theorem PySem.W.Fast.tw8967331842559799542:True:=trivial
theorem PySem.W.Fast.tw3434196841405454791:True:=trivial
theorem PySem.W.Fast.tw15848232303902964823:True:=trivial
theorem PySem.W.Fast.tw18249593482883061795:True:=trivial
theorem PySem.W.Fast.tw10541629225829115324:True:=trivial
theorem PySem.W.Fast.tw8116995208309029349:True:=trivial
open PySem PySem.W PyProof.Rows
set_option maxRecDepth 100000 in
set_option maxHeartbeats 0 in
theorem PySem.Challenge.cw_closepoints_k49_whole_farthest_and_middl_holds : PySem.Challenge.rw_closepoints_k49_whole_farthest_and_middl.Holds := by
  w_on;o_law;z_head;(case hw=>w_witness2)
  k_fill
  refine Vc.x_of_o (fun _=>by kernel_rfl) (K49.walk (l:=PySem.Challenge.rw_closepoints_k49_whole_farthest_and_middl) rfl rfl (fun w h Y=>Y) ?F)
  case F =>
    intro w mg fa h KX G hmg
    refine' K49.all_mk KX G hmg ?a_q15 ?l_q15 ?c_q15 ?k_q15 ?a_q0 ?l_q0 ?c_q0 ?k_q0 ?a_q11 ?l_q11 ?c_q11 ?k_q11 ?a_q21 ?l_q21 ?c_q21 ?k_q21 ?a_q2 ?l_q2 ?c_q2 ?k_q2 ?a_q16 ?l_q16 ?c_q16 ?k_q16 ?a_q14 ?l_q14 ?c_q14 ?k_q14 ?a_q8 ?l_q8 ?c_q8 ?k_q8 ?a_q4 ?l_q4 ?c_q4 ?k_q4 ?a_q23 ?l_q23 ?c_q23 ?k_q23 ?a_q13 ?l_q13 ?c_q13 ?k_q13 ?a_q10 ?l_q10 ?c_q10 ?k_q10 ?a_q5 ?l_q5 ?c_q5 ?k_q5 ?t_lam ?v_lam ?p_lam ?h_lam ?b_lam' ?o_lam ?n_lam ?a_q22 ?l_q22 ?c_q22 ?k_q22 ?a_q7 ?l_q7 ?c_q7 ?k_q7 ?a_q9 ?l_q9 ?c_q9 ?k_q9 ?a_q25 ?l_q25 ?c_q25 ?k_q25 ?a_q17 ?l_q17 ?c_q17 ?k_q17 ?a_q19 ?l_q19 ?c_q19 ?k_q19 ?a_q20 ?l_q20 ?c_q20 ?k_q20 ?a_q18 ?l_q18 ?c_q18 ?k_q18 ?a_q12 ?l_q12 ?c_q12 ?k_q12 ?a_q24 ?l_q24 ?c_q24 ?k_q24 ?a_q3 ?l_q3 ?c_q3 ?k_q3 ?a_q1 ?l_q1 ?c_q1 ?k_q1 ?a_q6 ?l_q6 ?c_q6 ?k_q6 ?a_q26 ?l_q26 ?c_q26 ?k_q26 ?z_abs ?z_enumerate ?z_int ?z_len ?z_max ?z_min ?z_range ?z_sum ?z_tuple ?z_zip ?u_SQUARES ?u_STREETS
    (case a_q15=>k_is)
    (case l_q15=>k_is)
    (case c_q15=>k_is)
    (case k_q15=>k_is)
    (case a_q0=>k_is)
    (case l_q0=>k_is)
    (case c_q0=>k_is)
    (case k_q0=>k_is)
    (case a_q11=>k_is)
    (case l_q11=>k_is)
    (case c_q11=>k_is)
    (case k_q11=>k_is)
    (case a_q21=>k_is)
    (case l_q21=>k_is)
    (case c_q21=>k_is)
    (case k_q21=>k_is)
    (case a_q2=>k_is)
    (case l_q2=>k_is)
    (case c_q2=>k_is)
    (case k_q2=>k_is)
    (case a_q16=>k_is)
    (case l_q16=>k_is)
    (case c_q16=>k_is)
    (case k_q16=>k_is)
    (case a_q14=>k_is)
    (case l_q14=>k_is)
    (case c_q14=>k_is)
    (case k_q14=>k_is)
    (case a_q8=>k_is)
    (case l_q8=>k_is)
    (case c_q8=>k_is)
    (case k_q8=>k_is)
    (case a_q4=>k_is)
    (case l_q4=>k_is)
    (case c_q4=>k_is)
    (case k_q4=>k_is)
    (case a_q23=>k_is)
    (case l_q23=>k_is)
    (case c_q23=>k_is)
    (case k_q23=>k_is)
    (case a_q13=>k_is)
    (case l_q13=>k_is)
    (case c_q13=>k_is)
    (case k_q13=>k_is)
    (case a_q10=>k_is)
    (case l_q10=>k_is)
    (case c_q10=>k_is)
    (case k_q10=>k_is)
    (case a_q5=>k_is)
    (case l_q5=>k_is)
    (case c_q5=>k_is)
    (case k_q5=>k_is)
    (case t_lam=>k_is)
    (case v_lam=>exact rfl)
    (case p_lam=>k_is)
    (case h_lam=>kernel_rfl)
    (case b_lam'=>k_is)
    (case o_lam=>k_is)
    (case n_lam=>decide)
    (case a_q22=>k_is)
    (case l_q22=>k_is)
    (case c_q22=>k_is)
    (case k_q22=>k_is)
    (case a_q7=>k_is)
    (case l_q7=>k_is)
    (case c_q7=>k_is)
    (case k_q7=>k_is)
    (case a_q9=>k_is)
    (case l_q9=>k_is)
    (case c_q9=>k_is)
    (case k_q9=>k_is)
    (case a_q25=>k_is)
    (case l_q25=>k_is)
    (case c_q25=>k_is)
    (case k_q25=>k_is)
    (case a_q17=>k_is)
    (case l_q17=>k_is)
    (case c_q17=>k_is)
    (case k_q17=>k_is)
    (case a_q19=>k_is)
    (case l_q19=>k_is)
    (case c_q19=>k_is)
    (case k_q19=>k_is)
    (case a_q20=>k_is)
    (case l_q20=>k_is)
    (case c_q20=>k_is)
    (case k_q20=>k_is)
    (case a_q18=>k_is)
    (case l_q18=>k_is)
    (case c_q18=>k_is)
    (case k_q18=>k_is)
    (case a_q12=>k_is)
    (case l_q12=>k_is)
    (case c_q12=>k_is)
    (case k_q12=>k_is)
    (case a_q24=>k_is)
    (case l_q24=>k_is)
    (case c_q24=>k_is)
    (case k_q24=>k_is)
    (case a_q3=>k_is)
    (case l_q3=>k_is)
    (case c_q3=>k_is)
    (case k_q3=>k_is)
    (case a_q1=>k_is)
    (case l_q1=>k_is)
    (case c_q1=>k_is)
    (case k_q1=>k_is)
    (case a_q6=>k_is)
    (case l_q6=>k_is)
    (case c_q6=>k_is)
    (case k_q6=>k_is)
    (case a_q26=>k_is)
    (case l_q26=>k_is)
    (case c_q26=>k_is)
    (case k_q26=>k_is)
    (case z_abs=>k_is)
    (case z_enumerate=>k_is)
    (case z_int=>k_is)
    (case z_len=>k_is)
    (case z_max=>k_is)
    (case z_min=>k_is)
    (case z_range=>k_is)
    (case z_sum=>k_is)
    (case z_tuple=>k_is)
    (case z_zip=>k_is)
    (case u_SQUARES=>k_is)
    (case u_STREETS=>k_is)

