import PyProof.Rows.All
import Wide.All
import OpenK.AllK
import Wide.FinOn
import Lean
import PyProof.EqAt
import PyProof.EqKinds
import PyProof.TupleCall
import PySem.Challenge.RW_closepoints_k31_kept_doing_by_doing
open PySem renaming wpAny_bind → acL
open PySem.Heap renaming get?_push_of_some → acM
open List renaming getElem?_eq_getElem → acN
open List renaming length_map → acO
open PySem renaming wpAny_pure → acP
open List renaming mem_cons_of_mem → acQ
open List renaming getElem?_eq_some_iff → acR
open Nat renaming le_refl → acS
open PySem.W renaming Frag → acT
open List renaming mem_singleton → acU
open List renaming mem_cons → acV
open PySem renaming starEach → acW
open List renaming mem_cons_self → acX
open PyProof.Rows renaming wpS_bind → acY
open PySem renaming sizeLine → acZ
open List renaming getElem?_map → ac0
open Bool renaming false_eq_true → ac1
open PySem renaming mainGlobals → ac2
open ForInStep renaming done → ac3
open List renaming all_eq_true → ac4
open List renaming size_toArray → ac5
open PyProof.Rows renaming pendingOf → ac6
open PyProof.Rows renaming wpS_pure → ac7
open List renaming not_mem_nil → ac8
open PySem.Heap renaming lt_size → ac9
open PySem.Heap renaming get?_push_size → ada
open Array renaming getElem?_eq_getElem → adb
open List renaming getD_eq_getElem?_getD → ade
open PySem renaming FuncData → adf
open List renaming mem_append_right → adg
open List renaming map_cons → adh
open List renaming length_cons → adi
open List renaming mem_append → adj
open List renaming mem_map → adk
open List renaming replicate → adl
open Bool renaming and_eq_true → adn
open ForInStep renaming yield → ado
open Option.some renaming inj → adp
open Nat renaming le_trans → adq
open Nat renaming lt_of_lt_of_le → ads
open List renaming length_append → adt
open List renaming length_range → adu
open PySem renaming Program → adv
open PySem.Value renaming ref → adw
open Array renaming toList_append → adx
open List renaming mem_of_getElem? → ady
open Nat renaming zero_le → adz
open List renaming append_assoc → adA
open Nat renaming ne_of_lt → adB
open PySem.Str renaming ofString → adC
open Int renaming toNat_natCast → adE
open List renaming nodup_nil → adF
open PySem.Heap renaming get?_update_other → adG
open List renaming append_nil → adH
open PySem.Builtin.SmallTypes renaming nextOf → adI
open Bool renaming false_ne_true → adJ
open List renaming range → adK
open PySem renaming NameKind → adL
open List renaming getElem?_cons_succ → adM
open List renaming map_map → adN
open List renaming lookup_cons → adO
open List renaming getElem?_set_self → adP
open List renaming pairwise_append → adQ
open PyProof.Rows renaming pairsOf → adR
open PySem renaming wpAny_newObj_type → adS
open Nat renaming le_of_lt → adU
open List renaming nodup_cons → adV
open List renaming getElem?_append_right → adW
open List renaming mem_range → adX
open PySem renaming sysModules → adY
open PySem renaming wpAny_call_entry → adZ
open List renaming mem_append_left → ad2
open List renaming pairwise_iff_getElem → ad3
open PyProof.Rows renaming wpS_forRange → ad4
open List renaming getElem_mem → ad5
open List renaming replicate_succ → ad6
open PySem renaming mem_of_lookup → ad7
open Array renaming getElem?_toList → ad8
open Bool renaming not_eq_true' → ad9
open PyProof.Rows renaming SortKind → aea
open PySem renaming wpAny_callSpecial?_slot → aeb
open Ne renaming symm → aec
open List renaming getElem?_set_ne → aed
open List renaming mem_iff_getElem → aee
open PySem renaming wpAny_seqItems → aef
open PySem.W renaming kia_one → aeg
open List renaming length_drop → aeh
open List renaming length_take → aei
open List.Perm renaming append_right → aej
open PySem renaming compareOp → aek
open PySem.F renaming plain_min_loop → ael
open List renaming drop_eq_getElem_cons → aem
open List renaming getElem?_append_left → aen
open PyProof.Rows renaming wpS_mono → aeo
open Array renaming length_toList → aep
open True renaming intro → aeq
open PySem renaming foldedSetIterable → aer
open PySem renaming wpAny_field → aes
open PySem.W renaming emptyDict → aet
open List renaming length_singleton → aeu
open PySem renaming attributeBase → aev
open PySem.Builtin.SmallTypes renaming ownedTupleIsFree → aew
open PySem.F renaming slot_dict_keyiterator_next → aex
open Sum renaming inl → aey
open False renaming elim → aez
open List renaming getElem?_cons_zero → aeA
open PySem renaming keywordEach → aeB
open List renaming all_cons → aeC
open PySem.Heap renaming SameBut → aeD
noncomputable section
set_option Elab.async false
set_option linter.all false
set_option hygiene false
local macro_rules | `(tactic| omega) => `(tactic| first | lia | omega +splitNatSub)
local macro_rules | `(⋯) => `((by omega))
local macro_rules | `(∅) => `((by decide))
set_option maxRecDepth 100000
local macro_rules|`(tactic| walk_at "9")=>`(tactic| first|k_is|kernel_rfl|decide)
local macro_rules | `(tactic| ac_rfl) => `(tactic| walk_at "9")
set_option compiler.extract_closed false
-- CHANGE: your row's module here,as the last of these rows
namespace L2
open PySem PySem.Spec PyProof.Rows
abbrev Key:=Sum Int Str
def n8:Key->Value->Bool
 | .inl k,v=>Value.isInt k v
 | .inr x,v=>Value.isStrOf x v
def ab6(w:World):Key->Int
 | .inl k=>hashInt k
 | .inr x=>hashStr w x
theorem bR:∀ {k:Key} {v:Value},n8 k v=true->(∃i t,k=aey i/\v=Value.int i t)\/(∃x t,k=Sum.inr x/\v=Value.str x t)
 | .inl i,v,h=>by
  obtain⟨t,e⟩:=Value.isInt_shape (k:=i) (v:=v) h;exact .inl ⟨i,t,rfl,e⟩
 | .inr x,v,h=>by
  obtain⟨t,e⟩:=Value.isStrOf_shape (x:=x) (v:=v) h;exact .inr ⟨x,t,rfl,e⟩
theorem A7(i:Int)(t:Tok):n8 (.inl i) (.int i t)=true:=by simp [n8,Value.isInt]
theorem A8(x:Str)(t:Tok):n8 (.inr x) (.str x t)=true:=by simp [n8,Value.isStrOf]
theorem Rc(a b:Int):decide ((aey a:Key)=aey b)=(a==b):=by
 by_cases e:a=b
 ·subst e;simp
 ·have h:¬(aey a:Key)=aey b:=λq=>e (aey.inj q)
  rw[decide_eq_false h];exact(beq_eq_false_iff_ne.mpr e).symm
theorem Rh(a b:Str):decide ((Sum.inr a:Key)=Sum.inr b)=decide (a=b):=by
 by_cases e:a=b
 ·subst e;simp
 ·have h:¬(Sum.inr a:Key)=Sum.inr b:=λq=>e (Sum.inr.inj q)
  rw[decide_eq_false h,decide_eq_false e]
theorem Rf(a:Int)(b:Str):decide ((aey a:Key)=Sum.inr b)=false:=decide_eq_false (λq=>nomatch q)
theorem Rg(a:Str)(b:Int):decide ((Sum.inr a:Key)=aey b)=false:=decide_eq_false (λq=>nomatch q)
def cc(prog:adv)(w:World):PySem.KeyKind prog w Key where
 is:=n8
 hash:=ab6 w
 inj:=λv a b ha hb=>by
  rcases bR ha with⟨i,t,rfl,rfl⟩|⟨x,t,rfl,rfl⟩
  ·rcases bR hb with⟨j,u,rfl,e⟩|⟨y,u,rfl,e⟩
   ·injection e with e1 _;rw[e1]
   ·exact nomatch e
  ·rcases bR hb with⟨j,u,rfl,e⟩|⟨y,u,rfl,e⟩
   ·exact nomatch e
   ·injection e with e1 _;rw[e1]
 byValue:=λk v h=>by
  rcases bR h with⟨i,t,rfl,rfl⟩|⟨x,t,rfl,rfl⟩<;>rfl
 pyHash:=λhv h=>by
  rcases bR hv with⟨i,t,rfl,rfl⟩|⟨x,t,rfl,rfl⟩
  ·exact wpAny_pyHash_int h
  ·exact wpAny_pyHash_str h
 eqBool:=λhu hv h=>by
  rcases bR hu with⟨i,t,rfl,rfl⟩|⟨x,t,rfl,rfl⟩
  ·rcases bR hv with⟨j,u,rfl,rfl⟩|⟨y,u,rfl,rfl⟩
   ·rw[Rc]at h;exact wpAny_eqBool_int h
   ·rw[Rf]at h;exact SeqAt.EqAt.int_str i t y u _ _ _ _ h
  ·rcases bR hv with⟨j,u,rfl,rfl⟩|⟨y,u,rfl,rfl⟩
   ·rw[Rg]at h;exact SeqAt.EqAt.str_int x t j u _ _ _ _ h
   ·rw[Rh]at h;exact wpAny_eqBool_str h
 «strs»:=λk x t v h=>by
  rcases bR h with⟨i,u,rfl,e⟩|⟨y,u,rfl,e⟩
  ·exact nomatch e
  ·injection e with e1 _
   subst e1;cases v<;>rfl
theorem vZ(prog:adv)(w:World)(i:Int)(t:Tok):(cc prog w).is (.inl i) (.int i t)=true:=A7 i t
theorem v7(prog:adv)(w:World)(x:Str)(t:Tok):(cc prog w).is (.inr x) (.str x t)=true:=A8 x t
end L2
namespace L2
open PySem PySem.Spec PyProof.Rows
inductive V where
 | aQ|bl (b:Bool)|int (i:Int)|str (x:Str)|V7 (b:Array UInt8)|L0 (b:UInt64)|ref (a:Addr)|ty (n:String)
 deriving DecidableEq
def RelV:V->Value->Prop
 | .aQ,u=>u=Value.none
 | .bl b,u=>u=Value.bool b
 | .int i,u=>∃t,u=Value.int i t
 | .str x,u=>∃t,u=Value.str x t
 | .V7 b,u=>∃t,u=Value.bytes b t
 | .L0 b,u=>∃t,u=Value.float b t
 | .ref a,u=>u=adw a
 | .ty n,u=>u=Value.type n
abbrev Vals:List V->List Value->Prop:=Paired RelV
theorem Vals.length{xs:List V}{us:List Value}(r:Vals xs us):xs.length=us.length:=Paired.length r
theorem Vals.get:∀ {xs:List V} {us:List Value} {i:Nat} {x:V},Vals xs us->xs[i]?=some x->∃u,us[i]?=some u/\RelV x u
 | _,_,_,_,.nil,e=>by simp at e
 | _,_,0,_,.cons r _,e=>by simp at e;subst e;exact⟨_,rfl,r⟩
 | _,_,i+1,x,.cons _ t,e=>by
  obtain⟨u,h1,h2⟩:=Vals.get (i:=i) (x:=x) t (by simpa using e)
  exact⟨u,by simpa using h1,h2⟩
theorem Vals.set{x:V}{u:Value}(r:RelV x u):∀ {xs:List V} {us:List Value} (i:Nat),Vals xs us->Vals (xs.set i x) (us.set i u)
 | _,_,_,.nil=>.nil
 | _,_,0,.cons _ t=>.cons r t
 | _,_,i+1,.cons q t=>.cons q (Vals.set r i t)
theorem Vals.append:∀ {xs ys:List V} {us ws:List Value},Vals xs us->Vals ys ws->Vals (xs++ys) (us++ws)
 | _,_,_,_,.nil,s=>s
 | _,_,_,_,.cons r t,s=>.cons r (Vals.append t s)
theorem Vals.take:∀ {xs:List V} {us:List Value} (n:Nat),Vals xs us->Vals (xs.take n) (us.take n)
 | _,_,0,_=>.nil
 | _,_,_+1,.nil=>.nil
 | _,_,n+1,.cons r t=>.cons r (Vals.take n t)
theorem Vals.drop:∀ {xs:List V} {us:List Value} (n:Nat),Vals xs us->Vals (xs.drop n) (us.drop n)
 | _,_,0,r=>r
 | _,_,_+1,.nil=>.nil
 | _,_,n+1,.cons _ t=>Vals.drop n t
def gL:Option V->Option Value->Prop
 | some v,some u=>RelV v u
 | none,none=>True
 | _,_=>False
def KV{κ:Type}:List (κ×V)->List (κ×Value)->Prop:=Paired λ(p:κ×V) (q:κ×Value)=>p.1=q.1/\RelV p.2 q.2
def kV:Key->V
 | .inl i=>.int i
 | .inr x=>.str x
inductive HO where
 /-- a list -/
 | lst (xs:List V)
 /-- a tuple (never changes) -/
 | tup (xs:List V)
 /-- a dict whose keys are ints and texts;one whose keys are tuples of ints and texts (the empty one is both) -/
 | dK (kvs:List (Key×V))|dT (kvs:List (List Key×V))
 /-- a set of ints: its members,its size -/
 | set (S:Int->Bool) (n:Nat)
 /-- an instance of the class at C,its dict at dx,its attributes -/
 | ins (C dx:Addr) (fs:List (Str×V))
 /-- the dict of the instance at x -/
 | own (x:Addr)
 /-- the dict of an exception -/
 | xd (fs:List (Str×V))
 /-- a bound method,f of x -/
 | met (f x:Addr)
 /-- a range object lo,lo+1,.. below hi -/
 | rng (lo hi:Int)
 /-- a thing that is known to the object (the script;a dict while a loop walks it): read,never written while it is so -/
 | qv (o:Obj) (u:HO)
 /-- a code object's table -/
 | VP (ps:Array Value)
 /-- the same,and it may grow by the code of one lambda: as it was,the lambda's place,its name -/
 | lam (ps:Array Value) (pos:Pos) (qual:Str)
 /-- any other thing,by what is true of its one object (a def of one's own: SetO a S n:=HO.ext λh=>..) -/
 | ext (φ:Heap->Prop)
abbrev Hp:=Addr->Option HO
def upd(H:Hp)(a:Addr)(o:HO):Hp:=λb=>if b=a then some o else H b
theorem ay{H:Hp}{a:Addr}{o:HO}:upd H a o a=some o:=by unfold upd;rw[if_pos rfl]
theorem au{H:Hp}{a b:Addr}{o:HO}(h:b≠a):upd H a o b=H b:=by unfold upd;rw[if_neg h]
theorem fE{H:Hp}{a b:Addr}{o u:HO}(h:H a=some o)(h':H b=some u)(d:o≠u):a≠b:=by
 intro e;subst e;rw[h]at h';exact d (adp h')
theorem bg{H:Hp}{a b:Addr}{o:HO}(h:H a=some o)(h':H b=none):a≠b:=by
 intro e;subst e;rw[h]at h';cases h'
section
variable (P:adv)(w:World)
def bU(H:Hp)(h:Heap)(a:Addr):HO->Prop
 | .lst xs=>xs.length<=acZ/\∃(its:List Value) (n:Nat),Vals xs its/\h.get? a=some {cls:=.type "list",data:=.seq its.toArray n}
 | .tup xs=>xs.length<=acZ/\∃its:List Value,Vals xs its/\IsTup h a its.toArray
 | .dK kvs=>kvs.length<=acZ/\(a==adY)=false/\∃vs,KV kvs vs/\h.DictOf (cc P w) a vs
 | .dT kvs=>kvs.length<=acZ/\(a==adY)=false/\∃xs:List (List Key×Addr×Value),
   Paired (λ(p:List Key×V) (q:List Key×Addr×Value)=>p.1=q.1/\H q.2.1=some (.tup (p.1.map kV))/\RelV p.2 q.2.2) kvs xs /\
   ∃o es ep,h.get? a=some o/\o.ExactDict/\o.data=.dict es ep/\es.toList=xs.map (entryOfKey (tupleKind (cc P w)))/\(xs.map (·.1)).Nodup
 | .set S n=>h.SetOf (intKind P w) a S n
 | .ins C dx fs=>H dx=some (.own a)/\fs.length<=1000/\dx≠a/\h.get? a=some (PySem.W.instObj C dx) /\
   ∃mA,h.Ns1 dx mA/\(∀f,gL (fs.lookup f) (mA f))/\PySem.Within mA (fs.map (·.1))
 | .own _=>∃o,h.get? a=some o
 | .xd fs=>∃mA,h.Ns1 a mA/\∀f,gL (fs.lookup f) (mA f)
 | .rng lo hi=>∃t u v,h.get? a=some {cls:=.type "range",data:=.fields #[.int lo t,.int hi u,.int 1 v]}
 | .qv o u=>h.get? a=some o/\bU H h a u
 | .VP ps=>h.get? a=some {cls:=.none,data:=.fields ps}
 | .lam ps pos qual=>∃more,h.get? a=some {cls:=.none,data:=.fields (ps++more)}/\TriplesOk (ps++more).toList/\(codeAmong pos (ps++more).toList=none\/∃c' o vs t,codeAmong pos (ps++more).toList=some (.ref c')/\H c'=some (.qv o (.own a))/\o.data=.fields vs/\vs[1]?=some (.str qual t))
 | .met f x=>h.get? a=some (PySem.W.methodObj (.ref f) (.ref x))
 | .ext φ=>φ h/\(∃o,h.get? a=some o)/\∀h1 h2:Heap,φ h1->(∀o,h1.get? a=some o->h2.get? a=some o)->φ h2
def ik(H:Hp)(h:Heap):Prop:=∀a o,H a=some o->bU P w H h a o
end
section
variable {P:adv}{w:World}{H H':Hp}{h h':Heap}{a:Addr}{o:HO}
theorem bU.lt(x:bU P w H h a o):a<h.objs.size:=by
 cases o with
 | lst xs=>obtain⟨_,_,_,_,e⟩:=x;exact ac9 e
 | tup xs=>obtain⟨_,_,_,p⟩:=x;exact p.lt
 | dK kvs=>obtain⟨_,_,_,_,o,_,_,e,_⟩:=x;exact ac9 e
 | dT kvs=>obtain⟨_,_,_,_,o,_,_,e,_⟩:=x;exact ac9 e
 | set S n=>obtain⟨o,_,_,_,e,_⟩:=x;exact ac9 e
 | ins C dx fs=>obtain⟨_,_,_,e,_⟩:=x;exact ac9 e
 | own y=>obtain⟨_,e⟩:=x;exact ac9 e
 | xd fs=>obtain⟨_,⟨_,_,_,e,_⟩,_⟩:=x;exact ac9 e
 | rng lo hi=>obtain⟨_,_,_,e⟩:=x;exact ac9 e
 | qv ob u=>obtain⟨e,_⟩:=x;exact ac9 e
 | VP ps=>exact ac9 (show h.get? a=some _ from x)
 | lam ps pos qual=>obtain⟨_,e,_⟩:=x;exact ac9 e
 | met f y=>exact ac9 (show h.get? a=some _ from x)
 | ext φ=>obtain⟨_,⟨_,e⟩,_⟩:=x;exact ac9 e
theorem Paired.Rp{α β:Type}{F G:α->β->Prop}:∀ {Zv:List α} {Zw:List β},Paired F Zv Zw->(∀a b,F a b->G a b)->Paired G Zv Zw
 | _,_,.nil,_=>.nil
 | _,_,.cons r t,f=>.cons (f _ _ r) (Paired.Rp t f)
theorem bU.yM(x:bU P w H h a o)(k:∀b u,(b=a\/H b=some (.own a))->h.get? b=some u->h'.get? b=some u)
  (ho:∀b,H b=some (.own a)->H' b=some (.own a)) (ht:∀b xs,H b=some (.tup xs)->H' b=some (.tup xs)) (hf:∀b o u,H b=some (.qv o u)->H' b=some (.qv o u):=by exactλ_ _ _ q=>q):bU P w H' h' a o:=by
 induction o with
 | lst xs=>obtain⟨z,its,n,r,e⟩:=x;exact⟨z,its,n,r,k _ _ (.inl rfl) e⟩
 | tup xs=>obtain⟨z,its,r,ob,e,c⟩:=x;exact⟨z,its,r,ob,k _ _ (.inl rfl) e,c⟩
 | dK kvs=>obtain⟨z,y,vs,r,ob,es,ep,e,c⟩:=x;exact⟨z,y,vs,r,ob,es,ep,k _ _ (.inl rfl) e,c⟩
 | dT kvs =>
  obtain⟨z,y,xs,r,ob,es,ep,e,c⟩:=x;exact⟨z,y,xs,Paired.Rp r λp q z=>⟨z.1,ht _ _ z.2.1,z.2.2⟩,ob,es,ep,k _ _ (.inl rfl) e,c⟩
 | set S n=>obtain⟨ob,es,ep,t,e,c⟩:=x;exact⟨ob,es,ep,t,k _ _ (.inl rfl) e,c⟩
 | ins C dx fs =>
  obtain⟨d,z,ne,e,mA,⟨od,es,ep,e2,c⟩,r⟩:=x;exact⟨ho _ d,z,ne,k _ _ (.inl rfl) e,mA,⟨od,es,ep,k _ _ (.inr d) e2,c⟩,r⟩
 | own y=>obtain⟨ob,e⟩:=x;exact⟨ob,k _ _ (.inl rfl) e⟩
 | xd fs=>obtain⟨mA,⟨od,es,ep,e,c⟩,r⟩:=x;exact⟨mA,⟨od,es,ep,k _ _ (.inl rfl) e,c⟩,r⟩
 | rng lo hi=>obtain⟨t,u,v,e⟩:=x;exact⟨t,u,v,k _ _ (.inl rfl) e⟩
 | qv ob u ih=>obtain⟨e,q⟩:=x;exact⟨k _ _ (.inl rfl) e,ih q⟩
 | lam ps pos qual =>
  obtain⟨more,e,tr,c⟩:=x;refine⟨more,k _ _ (.inl rfl) e,tr,?_⟩;rcases c with c|⟨c',o,vs,t,c1,c2,c3⟩
  ·exact .inl c
  ·exact .inr ⟨c',o,vs,t,c1,hf _ _ _ c2,c3⟩
 | VP ps =>
  have e:h.get? a=some {cls:=.none,data:=.fields ps}:=x;show h'.get? a=some {cls:=.none,data:=.fields ps};exact k a _ (.inl rfl) e
 | met f y =>
  have e:h.get? a=some (PySem.W.methodObj (.ref f) (.ref y)):=x;show h'.get? a=some (PySem.W.methodObj (.ref f) (.ref y));exact k a _ (.inl rfl) e
 | ext φ=>obtain⟨p,⟨o,e⟩,st⟩:=x;exact⟨st _ _ p λo q=>k _ _ (.inl rfl) q,⟨o,k _ _ (.inl rfl) e⟩,st⟩
theorem ik.lt(x:ik P w H h)(e:H a=some o):a<h.objs.size:=(x a o e).lt
theorem ik.fresh(x:ik P w H h)(e:h.objs.size<=a):H a=none:=by
 cases q:H a with
 | none=>rfl
 | some u=>exact absurd (ads (x.lt q) e) (Nat.lt_irrefl _)
theorem ik.kept(x:ik P w H h)(k:∀b u,h.get? b=some u->h'.get? b=some u):ik P w H h':=λa o e =>
 (x a o e).yM (λb u _ q=>k b u q) (λ_ q=>q) λ_ _ q=>q
theorem ik.laid(x:ik P w H h)(k:∀b u,h.get? b=some u->h'.get? b=some u)(hp:h.objs.size<=a)(new:bU P w (upd H a o) h' a o):ik P w (upd H a o) h':=λb u e=>by
 have hn:=x.fresh hp
 by_cases hb:b=a
 ·subst hb;rw[ay]at e;cases e;exact new
 ·rw[au hb]at e
  exact(x b u e).yM (λc v _ q=>k c v q) (λc q=>by rw[au (bg q hn)];exact q) (λc xs q=>by rw[au (bg q hn)];exact q) λc o u q=>by rw[au (bg q hn)];exact q
end
def Rd(H:Hp)(a:Addr)(u:HO):Prop:=H a=some u\/∃o,H a=some (.qv o u)
theorem Rd.ok{P:adv}{w:World}{H:Hp}{h:Heap}{a:Addr}{u:HO}(r:Rd H a u)(x:ik P w H h):bU P w H h a u:=by
 rcases r with r|⟨o,r⟩
 ·exact x a u r
 ·obtain⟨_,q⟩:=x a _ r
  exact q
def WW:Option HO->Prop
 | some (.lst _)=>True
 | some (.dK _)=>True
 | some (.dT _)=>True
 | some (.set _ _)=>True
 | some (.ins _ _ _)=>True
 | some (.ext _)=>True
 | some (.lam _ _ _)=>True
 | _=>False
section
variable {P:adv}{w:World}{H:Hp}{h h':Heap}{x e:Addr}{o':HO}
theorem ik.write(ok:ik P w H h)(mu:WW (H x))(he:e=x\/H e=some (.own x))(k:∀b u,b≠e->h.get? b=some u->h'.get? b=some u)(Wg:∃u,h'.get? e=some u)
  (new:bU P w (upd H x o') h' x o'):ik P w (upd H x o') h':=λb u q=>by
 have ZF:∀c y,H c=some (.own y)->c≠x:=λc y r z=>by subst z;rw[r]at mu;exact mu
 have acd:∀c xs,H c=some (.tup xs)->c≠x:=λc xs r z=>by subst z;rw[r]at mu;exact mu
 by_cases hb:b=x
 ·subst hb;rw[ay]at q;cases q;exact new
 ·rw[au hb]at q
  by_cases Qk:b=e
  ·have q':H b=some (.own x):=by
    rcases he with z|z
    ·exact absurd (Qk.trans z) hb
    ·rw[Qk];exact z
   rw[q]at q';cases q';obtain⟨v,hv⟩:=Wg;exact⟨v,by rw[Qk];exact hv⟩
  ·refine(ok b u q).yM (λc v hc r=>k c v ?_ r) (λc r=>by rw[au (ZF c b r)];exact r) (λc xs r=>by rw[au (acd c xs r)];exact r) λc o u r=>by rw[au (λz=>by subst z;rw[r]at mu;exact mu)];exact r
   rcases hc with rfl|hc
   ·exact Qk
   ·rintro rfl
    rcases he with z|z
    ·exact ZF c b hc z
    ·rw[hc]at z;cases z;exact hb rfl
end
structure Un(fs ex:List Addr)(H H':Hp)(h h':Heap):Prop where
 keep:∀b o,h.get? b=some o->H b=none->b∉fs->b∉ex->h'.get? b=some o
 slot:∀b o,h.get? b=some o->H b=none->b∈fs->b∉ex->∃sl,h'.get? b=some {o with slots:=sl}
 free:∀b o,h.get? b=some o->H b=none->b∉ex->H' b=none
 there:∀b o,h.get? b=some o->b∉ex->∃o',h'.get? b=some o'
 wW:∀b xs,H b=some (.tup xs)->H' b=some (.tup xs)
 rX:∀b o u,H b=some (.qv o u)->H' b=some (.qv o u)
 wR:∀b ps,H b=some (.VP ps)->∃more,H' b=some (.VP (ps++more))
section
variable {fs fs' ex mD:List Addr}{H H1 H2:Hp}{h h1 h2 h':Heap}{a x e:Addr}{o:HO}
theorem Un.any(u:Un fs ex H H1 h h1){b:Addr}{ob:Obj}(q:h.get? b=some ob)(n:H b=none)(hx:b∉ex):∃sl,h1.get? b=some {ob with slots:=sl}:=by
 by_cases hb:b∈fs
 ·exact u.slot b ob q n hb hx
 ·exact⟨ob.slots,u.keep b ob q n hb hx⟩
theorem Un.kept(k:∀b u,h.get? b=some u->h'.get? b=some u):Un fs ex H H h h':=
 ⟨λb ob q _ _ _=>k b ob q,λb ob q _ _ _=>⟨ob.slots,k b ob q⟩,λ_ _ _ n _=>n,λb ob q _=>⟨ob,k b ob q⟩,λ_ _ q=>q,λ_ _ _ q=>q,λ_ ps q=>⟨#[],by rw[q];simp⟩⟩
theorem Un.refl:Un fs ex H H h h:=Un.kept λ_ _ q=>q
theorem Un.laid(k:∀b u,h.get? b=some u->h'.get? b=some u)(hp:h.objs.size<=a)(hn:H a=none):Un fs ex H (upd H a o) h h' where
 keep:=λb u q _ _ _=>k b u q
 slot:=λb u q _ _ _=>⟨u.slots,k b u q⟩
 free:=λb u q n _=>by rw[au (adB (ads (ac9 q) hp))];exact n
 there:=λb u q _=>⟨u,k b u q⟩
 wW:=λb xs q=>by rw[au (bg q hn)];exact q
 rX:=λb u xs q=>by rw[au (bg q hn)];exact q
 wR:=λb ps q=>⟨#[],by rw[au (bg q hn),q];simp⟩
theorem Un.write(mu:WW (H x))(he:e=x\/H e=some (.own x))(k:∀b u,b≠e->h.get? b=some u->h'.get? b=some u)(Wg:∃u,h'.get? e=some u):Un fs ex H (upd H x o) h h':=by
 have hx:∀b,H b=none->b≠x:=λb n z=>by subst z;rw[n]at mu;exact mu
 have hb:∀b,H b=none->b≠e:=λb n z=>by
  subst z;rcases he with r|r
  ·exact hx b n r
  ·rw[n]at r;cases r
 have hm:∀b u,H b=some u->¬WW (some u)->b≠x:=λb u q nm z=>by subst z;rw[q]at mu;exact nm mu
 refine⟨λb u q n _ _=>k b u (hb b n) q,λb u q n _ _=>⟨u.slots,k b u (hb b n) q⟩,λb u q n _=>by rw[au (hx b n)];exact n,λb u q _=>?_,
  λb xs q=>by rw[au (hm b _ q λz=>z)];exact q,λb u xs q=>by rw[au (hm b _ q λz=>z)];exact q,λb ps q=>⟨#[],by rw[au (hm b _ q λz=>z),q];simp⟩⟩
 by_cases Qk:b=e
 ·subst Qk;exact Wg
 ·exact⟨u,k b u Qk q⟩
end
def trk(h:Heap)(H:Hp):List Addr:=(adK h.objs.size).filter λa=>(H a).isSome
def sg(h:Heap)(H:Hp):Heap:=PySem.W.hideAll h (trk h H)
theorem A2(h:Heap)(H:Hp):(sg h H).objs.size=h.objs.size:=PySem.W.hideAll_size _ _
theorem E2{h:Heap}{H:Hp}{b:Addr}{o:Obj}(e:h.get? b=some o)(n:H b=none):(sg h H).get? b=some o:=
 PySem.W.hideAll_get _ e λhm=>by
  have q:(H b).isSome=true:=(List.mem_filter.mp hm).2;rw[n]at q;simp at q
theorem JG{h:Heap}{H:Hp}{b:Addr}{o:Obj}(e:(sg h H).get? b=some o):h.get? b=some o/\H b=none:=by
 have e':h.get? b=some o:=PySem.W.of_hideAll (trk h H) e;refine⟨e',?_⟩;cases q:H b with
 | none=>rfl
 | some x =>
  have hm:b∈trk h H:=List.mem_filter.mpr ⟨adX.mpr (ac9 e'),by simp [q]⟩
  have z:(sg h H).get? b=none:=PySem.W.hideAll_none (trk h H) hm;rw[z]at e;cases e
def Ij(g h:Heap)(L:Addr):List (Addr×Obj):=(adK h.objs.size).filterMap λa=>if a=L\/(g.get? a).isSome=true then none else(h.get? a).map λo=>(a,o)
def rest(g h:Heap)(L d:Addr):List (Addr×Obj):=(Ij g h L).filter λp=>decide (p.1≠d)
end L2
namespace L2
open PySem PySem.Spec PyProof.Rows
structure Mod(K:acT)(mg:Str->Option Value)(base:Heap):Prop where
 Fl:K.In base
 glob:base.Ns ac2 mg
 blt:∃mb,base.Ns builtinsNs mb/\∀x:Str,x≠"__name__"->mb x=bootBuiltins x
 nolimit:base.NoLimit
structure Cx where
 prog:adv
 w:World
 K:acT
 mg:Str->Option Value
 base:Heap
 A:Around
 N:List Str
 c5:Shared
 xC:Hp
 env:Env
 outer:List Env
 stack:List Env
 ex:List Addr
 fn:Str->Bool
 calm:Bool
 pn:List (Addr×Obj)
 xe:Value->Shared->Prop
def Ek(l:List Env):List Addr:=l.filterMap (·.frame)
abbrev Cx.fs(X:Cx):List Addr:=Ek X.outer
def HF(sc:Scope)(x:Str):Prop:=sc.names.lookup x=some .local\/sc.names.lookup x=some .cell\/sc.names.lookup x=some .free
def Loc(sc:Scope)(x:Str):Prop:=sc.names.lookup x=some .local\/sc.names.lookup x=some .cell
def Look(env:Env)(h:Heap)(m:Str->Option Value)(x:Str)(u:Value):Prop:=
 (env.kindOf x=some .local/\m x=some u)\/((env.kindOf x=some .cell\/env.kindOf x=some .free)/\∃c,env.cells.lookup x=some c/\h.IsCell c (some u))
structure Cx.Ok(X:Cx):Prop where
 mod:Mod X.K X.mg X.base
 kind:X.env.scope.kind=.function
 glob:X.env.globals=ac2
 blt:X.env.builtins=builtinsNs
 above:X.c5.heap.objs.size<=X.env.locals
 inj:∀x y c,X.env.cells.lookup x=some c->X.env.cells.lookup y=some c->x=y
 has:∀x,(X.env.kindOf x=some .cell\/X.env.kindOf x=some .free)->∃c,X.env.cells.lookup x=some c
 V8:∀x c,X.fn x=true->X.env.cells.lookup x=some c->X.c5.heap.objs.size<=c
 hd:X.calm=true->X.A.handled=none
 frames:X.A.frames=some X.stack
 stk:X.stack=X.outer\/(X.stack=X.env::X.outer/\X.env.frame=some X.env.locals)
 exf:∀b∈X.ex,b≠X.env.locals/\∀x c,X.env.cells.lookup x=some c->c≠b
 bs:∀b o,X.base.get? b=some o->X.c5.heap.get? b=some o/\X.xC b=none
 CJ:X.base.objs.size<=X.c5.heap.objs.size
 Bj:∀b o,X.base.get? b=some o->b∉X.ex
 D6:∀b∈X.ex,b∉X.fs
 lx:X.c5.heap.FunFrames X.base X.outer
 L4:∀b∈X.fs,X.xC b=none
structure Inv(X:Cx)(pins:List (Addr×Obj))(σ:List (Option V))(H:Hp)(s:Shared):Prop where
 ok:X.Ok
 os:s.os=X.c5.os
 bare:AllBare s.gens
 base:Un X.fs X.ex X.xC H X.c5.heap s.heap
 loc:∃m,s.heap.Ns X.env.locals m/\∀(i:Nat) (x:Str) (v:V),X.N[i]?=some x->σ[i]?=some (some v)->HF X.env.scope x->∃u,RelV v u/\Look X.env s.heap m x u
 cell:∀x c,X.env.cells.lookup x=some c->∃v,s.heap.IsCell c v
 free:H X.env.locals=none
 gO:∀x c,X.env.cells.lookup x=some c->H c=none
 pin:∀p∈X.pn++pins,s.heap.get? p.1=some p.2/\H p.1=none/\p.1≠X.env.locals/\p.1∉X.fs/\∀v,p.2.data≠.cell v
 bI:ik X.prog X.w H s.heap
 len:σ.length=X.N.length
section
variable {X:Cx}{pins:List (Addr×Obj)}{σ:List (Option V)}{H H':Hp}{s:Shared}{h':Heap}
theorem Cx.Ok.aca(ok:X.Ok){b:Addr}{o:Obj}(e:X.base.get? b=some o):b∉X.fs:=λhb=>by
 have:=(ok.lx.mem hb).1;rw[e]at this;cases this
theorem Inv.bs(I:Inv X pins σ H s):∀b o,X.base.get? b=some o->s.heap.get? b=some o/\H b=none:=λb o e =>
 ⟨I.base.keep b o (I.ok.bs b o e).1 (I.ok.bs b o e).2 (I.ok.aca e) (I.ok.Bj b o e),I.base.free b o (I.ok.bs b o e).1 (I.ok.bs b o e).2 (I.ok.Bj b o e)⟩
theorem Inv.bk(I:Inv X pins σ H s):∀b o,X.base.get? b=some o->s.heap.get? b=some o:=λb o e=>(I.bs b o e).1
theorem Inv.mod(I:Inv X pins σ H s):Mod X.K X.mg X.base:=I.ok.mod
theorem Inv.mH(I:Inv X pins σ H s):X.K.In s.heap:=I.ok.mod.Fl.keeps I.bk
theorem Inv.fr(I:Inv X pins σ H s):∃m,Fr X.base X.env.locals s.heap m:=
 let ⟨m,hn,_⟩:=I.loc
 ⟨m,hn,I.bk,adq I.ok.CJ I.ok.above⟩
theorem Inv.lt(I:Inv X pins σ H s):X.env.locals<s.heap.objs.size:=let ⟨_,hn,_⟩:=I.loc;hn.lt
theorem Inv.sz(I:Inv X pins σ H s):X.c5.heap.objs.size<=s.heap.objs.size:=adq I.ok.above (adU I.lt)
theorem Inv.acb(I:Inv X pins σ H s){a:Addr}(h:s.heap.objs.size<=a):a∉X.fs:=λhb=>by
 obtain⟨_,o,ho,_⟩:=I.ok.lx.mem hb;exact absurd (ads (ac9 ho) (adq I.sz h)) (Nat.lt_irrefl _)
theorem Inv.NF(I:Inv X pins σ H s):∀x c,X.env.cells.lookup x=some c->c≠X.env.locals:=λx c e z=>by
 obtain⟨v,o,ho,hd⟩:=I.cell x c e;obtain⟨m,⟨o',es,ep,Qo,Wd,_⟩,_⟩:=I.loc;rw[z,Qo]at ho;cases ho;rw[Wd]at hd;cases hd
theorem Inv.lx(I:Inv X pins σ H s):s.heap.FunFrames X.base X.outer:=by
 have all:∀(l:List Env),(∀b∈Ek l,b∈X.fs)->X.c5.heap.FunFrames X.base l->s.heap.FunFrames X.base l:=by
  intro l
  induction l with
  | nil=>intro _ _;trivial
  | cons env r ih =>
   intro hs hl;obtain⟨hk,⟨L,o,hf,hn,ho,hd⟩,hr⟩:=hl;have hL:L∈X.fs:=hs L (by unfold Ek;rw[List.filterMap_cons,hf];exact acX)
   obtain⟨sl,e⟩:=I.base.slot L o ho (I.ok.L4 L hL) hL λz=>I.ok.D6 L z hL;exact⟨hk,⟨L,_,hf,hn,e,hd⟩,ih (λb hb=>hs b (by unfold Ek;rw[List.filterMap_cons,hf];exact acQ _ hb)) hr⟩
 exact all X.outer (λ_ hb=>hb) I.ok.lx
theorem Inv.stack(I:Inv X pins σ H s):s.heap.FunFrames X.base X.stack:=by
 rcases I.ok.stk with e|⟨e,hf⟩
 ·rw[e];exact I.lx
 ·rw[e]
  obtain⟨m,hn,_⟩:=I.loc;refine .cons (by rw[I.ok.kind];decide) hf hn ?_ I.lx
  exact Heap.get?_none_of_le (adq I.ok.CJ I.ok.above)
theorem Inv.uh(I:Inv X pins σ H s):∀b∈Ek X.stack,b∈X.env.locals::X.fs:=λb hb=>by
 rcases I.ok.stk with e|⟨e,hf⟩
 ·rw[e]at hb;exact acQ _ hb
 ·rw[e]at hb
  unfold Ek at hb;rw[List.filterMap_cons,hf]at hb;exact hb
theorem Inv.Av(I:Inv X pins σ H s):∀b∈Ek X.stack,H b=none:=λb hb=>by
 rcases acV.mp (I.uh b hb)with e|hb
 ·rw[e];exact I.free
 ·obtain⟨_,o,ho,_⟩:=I.ok.lx.mem hb
  exact I.base.free b o ho (I.ok.L4 b hb) λz=>I.ok.D6 b z hb
theorem Inv.step{g':Array GenState}{t':Nat}{d':Drawn}{ch:List Addr}(I:Inv X pins σ H s)
  (HK:∀b∈ch,(b∈X.ex\/X.c5.heap.get? b=none)/\b≠X.env.locals/\(∀x c,X.env.cells.lookup x=some c->c≠b)/\∀p∈X.pn++pins,p.1≠b)
  (keep:∀b o,b≠X.env.locals->b∉X.fs->b∉ch->s.heap.get? b=some o->H b=none->h'.get? b=some o)
  (slot:∀b o,b≠X.env.locals->b∈X.fs->b∉ch->s.heap.get? b=some o->H b=none->∃sl,h'.get? b=some {o with slots:=sl}) (free:∀b o,b∉ch->s.heap.get? b=some o->H b=none->H' b=none)
  (there:∀b o,b∉ch->s.heap.get? b=some o->∃o',h'.get? b=some o')
  (wW:∀b xs,H b=some (.tup xs)->H' b=some (.tup xs)) (rX:∀b o u,H b=some (.qv o u)->H' b=some (.qv o u)) (wR:∀b ps,H b=some (.VP ps)->∃more,H' b=some (.VP (ps++more)))
  (ns:∀m,s.heap.Ns X.env.locals m->h'.Ns X.env.locals m) (bI:ik X.prog X.w H' h') (hg:AllBare g'):
  Inv X pins σ H' {s with heap:=h',gens:=g',drawn:=d',toks:=t'}:=by
 have neL:∀b o,X.c5.heap.get? b=some o->b≠X.env.locals:=λb o e=>adB (ads (ac9 e) I.ok.above);have neC:∀b o,X.c5.heap.get? b=some o->b∉X.ex->b∉ch:=λb o e hx hb=>by
  rcases(HK b hb).1 with z|z
  ·exact hx z
  ·rw[e]at z;cases z
 have cellK:∀x c,X.env.cells.lookup x=some c->∀v,s.heap.IsCell c v->h'.IsCell c v:=λx c e v ⟨o,ho,hd⟩=>by
  have Fy:c∉ch:=λz=>(HK c z).2.2.1 x c e rfl
  by_cases hc:c∈X.fs
  ·obtain⟨sl,q⟩:=slot c o (I.NF x c e) hc Fy ho (I.gO x c e)
   exact⟨_,q,hd⟩
  ·exact⟨o,keep c o (I.NF x c e) hc Fy ho (I.gO x c e),hd⟩
 refine⟨I.ok,I.os,hg,⟨λb o e n hb hx=>?_,λb o e n hb hx=>?_,λb o e n hx=>?_,λb o e hx=>?_,λb xs e=>wW b xs (I.base.wW b xs e),λb o xs e=>rX b o xs (I.base.rX b o xs e),λb ps e=>?_⟩,?_,λx c e=>?_,?_,λx c e=>?_,λp hp=>?_,bI,I.len⟩
 ·exact keep b o (neL b o e) hb (neC b o e hx) (I.base.keep b o e n hb hx) (I.base.free b o e n hx)
 ·obtain⟨sl,e1⟩:=I.base.slot b o e n hb hx
  obtain⟨sl',e2⟩:=slot b _ (neL b o e) hb (neC b o e hx) e1 (I.base.free b o e n hx);exact⟨sl',e2⟩
 ·obtain⟨o',e1⟩:=I.base.there b o e hx
  exact free b o' (neC b o e hx) e1 (I.base.free b o e n hx)
 ·obtain⟨o',e1⟩:=I.base.there b o e hx
  exact there b o' (neC b o e hx) e1
 ·obtain⟨m1,e1⟩:=I.base.wR b ps e
  obtain⟨m2,e2⟩:=wR b _ e1;exact⟨m1++m2,by rw[e2,Array.append_assoc]⟩
 ·obtain⟨m,hn,hl⟩:=I.loc
  refine⟨m,ns m hn,λi x v e1 e2 e3=>?_⟩;obtain⟨u,r,l⟩:=hl i x v e1 e2 e3;refine⟨u,r,?_⟩;rcases l with l|⟨k,c,e,z⟩
  ·exact .inl l
  ·exact .inr ⟨k,c,e,cellK x c e _ z⟩
 ·obtain⟨v,z⟩:=I.cell x c e
  exact⟨v,cellK x c e v z⟩
 ·obtain⟨m,⟨o,_,_,ho,_⟩,_⟩:=I.loc
  exact free _ o (λz=>(HK _ z).2.1 rfl) ho I.free
 ·obtain⟨v,o,ho,hd⟩:=I.cell x c e
  exact free c o (λz=>(HK c z).2.2.1 x c e rfl) ho (I.gO x c e)
 ·obtain⟨e,n,ne,nf,d⟩:=I.pin p hp
  have Fy:p.1∉ch:=λz=>(HK p.1 z).2.2.2 p hp rfl;exact⟨keep p.1 p.2 ne nf Fy e n,free p.1 p.2 Fy e n,ne,nf,d⟩
theorem Inv.un{t':Nat}(I:Inv X pins σ H s)(u:Un X.fs [] H H' s.heap h')(bI:ik X.prog X.w H' h'):Inv X pins σ H' {s with heap:=h',toks:=t'}:=by
 obtain⟨m,⟨o,es,ep,ho,r⟩,_⟩:=id I.loc;obtain⟨sl,hL⟩:=u.any ho I.free (by simp)
 exact I.step (g':=s.gens) (d':=s.drawn) (ch:=[]) (λ_ z=>nomatch z) (λb o _ hb _ e n=>u.keep b o e n hb (by simp)) (λb o _ hb _ e n=>u.slot b o e n hb (by simp)) (λb o _ e n=>u.free b o e n (by simp)) (λb o _ e=>u.there b o e (by simp)) u.wW u.rX u.wR (λm' hm=>by
  obtain⟨o',Ph,Pg,Qo,r'⟩:=hm;rw[ho]at Qo;cases Qo;exact⟨_,Ph,Pg,hL,r'⟩) bI I.bare
theorem Inv.call{g':Array GenState}{t':Nat}{d':Drawn}{ch:List Addr}(I:Inv X pins σ H s)(u:Un (Ek X.stack) ch H H' s.heap h')(bI:ik X.prog X.w H' h')(hg:AllBare g')
  (HK:∀b∈ch,(b∈X.ex\/X.c5.heap.get? b=none)/\b≠X.env.locals/\(∀x c,X.env.cells.lookup x=some c->c≠b)/\∀p∈X.pn++pins,p.1≠b):
  Inv X pins σ H' {s with heap:=h',gens:=g',drawn:=d',toks:=t'}:=by
 obtain⟨m,⟨o,es,ep,ho,r⟩,_⟩:=id I.loc;obtain⟨sl,hL⟩:=u.any ho I.free λz=>(HK _ z).2.1 rfl;exact I.step (ch:=ch) HK (λb o hL hb hc e n=>u.keep b o e n (λz=>(acV.mp (I.uh b z)).elim hL hb) hc) (λb o _ _ hc e n=>u.any e n hc) (λb o hc e n=>u.free b o e n hc) (λb o hc e=>u.there b o e hc) u.wW u.rX u.wR (λm' hm=>by
  obtain⟨o',Ph,Pg,Qo,r'⟩:=hm;rw[ho]at Qo;cases Qo;exact⟨_,Ph,Pg,hL,r'⟩) bI hg
theorem Inv.turned{t':Nat}{it:Addr}(I:Inv X pins σ H s)(k:∀b o,b≠it->s.heap.get? b=some o->h'.get? b=some o)(hn:H it=none)(hL:it≠X.env.locals)
  (h1:it∈X.ex\/X.c5.heap.objs.size<=it) (h2:∀x c,X.env.cells.lookup x=some c->c≠it) (h3:∀p∈X.pn++pins,p.1≠it):Inv X pins σ H {s with heap:=h',toks:=t'}:=by
 have nit:∀b u,H b=some u->b≠it:=λb u e z=>by rw[z,hn]at e;cases e
 refine I.step (g':=s.gens) (d':=s.drawn) (ch:=[it]) (λb hb=>?_) (λb o _ _ hc e _=>k b o (λz=>hc (by simp [z])) e) (λb o _ _ hc e _=>⟨o.slots,k b o (λz=>hc (by simp [z])) e⟩) (λ_ _ _ _ n=>n)
  (λb o hc e=>⟨o,k b o (λz=>hc (by simp [z])) e⟩) (λ_ _ e=>e) (λ_ _ _ e=>e) (λb ps e=>⟨#[],by rw[e];simp⟩) (λm hm=>?_) (λb u e=>?_) I.bare
 ·have e:b=it:=by simpa using hb
  subst e;exact⟨h1.imp id λz=>Heap.get?_none_of_le z,hL,h2,h3⟩
 ·obtain⟨o,es,ep,ho,r⟩:=hm
  exact⟨o,es,ep,k _ o (aec hL) ho,r⟩
 ·refine(I.bI b u e).yM (λc v hc q=>k c v ?_ q) (λ_ q=>q) λ_ _ q=>q
  rcases hc with z|z
  ·rw[z];exact nit b u e
  ·exact nit c _ z
theorem Inv.tok(I:Inv X pins σ H s)(t:Nat):Inv X pins σ H {s with toks:=t}:=I.un (h':=s.heap) (t':=t) Un.refl I.bI
theorem Inv.kept{t':Nat}(I:Inv X pins σ H s)(k:∀b u,s.heap.get? b=some u->h'.get? b=some u):Inv X pins σ H {s with heap:=h',toks:=t'}:=I.un (Un.kept k) (I.bI.kept k)
theorem Inv.laid{a:Addr}{o:HO}{t':Nat}(I:Inv X pins σ H s)(k:∀b u,s.heap.get? b=some u->h'.get? b=some u)(hp:s.heap.objs.size<=a)(new:bU X.prog X.w (upd H a o) h' a o):
  Inv X pins σ (upd H a o) {s with heap:=h',toks:=t'}:=I.un (Un.laid k hp (I.bI.fresh hp)) (I.bI.laid k hp new)
theorem Inv.write{x e:Addr}{o:HO}{t':Nat}(I:Inv X pins σ H s)(mu:WW (H x))(he:e=x\/H e=some (.own x))(k:∀b u,b≠e->s.heap.get? b=some u->h'.get? b=some u)(Wg:∃u,h'.get? e=some u)
  (new:bU X.prog X.w (upd H x o) h' x o):Inv X pins σ (upd H x o) {s with heap:=h',toks:=t'}:=I.un (Un.write mu he k Wg) (I.bI.write mu he k Wg new)
theorem Inv.Ac{Mp:List (Addr×Obj)}(I:Inv X pins σ H s)(h:∀p∈Mp,s.heap.get? p.1=some p.2/\H p.1=none/\p.1≠X.env.locals/\p.1∉X.fs/\∀v,p.2.data≠.cell v):Inv X Mp σ H s:=
 ⟨I.ok,I.os,I.bare,I.base,I.loc,I.cell,I.free,I.gO,λp hp=>(adj.mp hp).elim (λz=>I.pin p (ad2 _ z)) (h p),I.bI,I.len⟩
theorem wj{N:List Str}(hN:N.Nodup){i j:Nat}{x:Str}(a:N[i]?=some x)(b:N[j]?=some x):i=j:=by
 obtain⟨h1,e1⟩:=acR.mp a;obtain⟨h2,e2⟩:=acR.mp b;exact(List.getElem_inj hN).mp (e1.trans e2.symm)
theorem BH{M:Model}{A:Around}{E:Value->Shared->Prop}{i:Nat}{x:Str}{v:V}{u:Value}{Q:Unit->Shared->Prop}(I:Inv X pins σ H s)(hN:X.N.Nodup)(hi:X.N[i]?=some x)(hx:Loc X.env.scope x)(r:RelV v u)
  (h:∀s',Inv X pins (σ.set i (some v)) H s'->(∃a,aeD a s.heap s'.heap/\(a=X.env.locals\/X.env.cells.lookup x=some a))->Q () s') (hf:X.fn x=true\/X.env.scope.names.lookup x=some .local:=by first|exact .inl rfl|exact .inr rfl|assumption):wpAny M A (storeName X.env x u) Q E s:=by
 obtain⟨m,hn,hl⟩:=id I.loc;have abL:(X.env.scope.kind==.class||(X.env.scope.kind==.module&&X.env.locals != X.env.globals))=false:=by rw[I.ok.kind];rfl
 have YN:i<σ.length:=by rw[I.len];exact(acR.mp hi).1
 have NF:=I.NF;have tracked:∀ {a:Addr} {h':Heap},(∃o,s.heap.get? a=some o/\H a=none)->aeD a s.heap h'->ik X.prog X.w H h':=λ{a h'} ha hs b ob e=>by
  obtain⟨_,_,zF⟩:=ha;refine(I.bI b ob e).yM (λc w' hc q=>(hs.2 c ?_).trans q) (λ_ q=>q) λ_ _ q=>q;rintro rfl;rcases hc with rfl|hc
  ·rw[zF]at e;cases e
  ·rw[zF]at hc;cases hc
 rcases hx with hk|hk
 ·refine wpAny_storeName_local hk hn (λh' hn' hs=>?_) abL
  obtain⟨oL,_,_,Qp,_⟩:=id hn;refine h _ ⟨I.ok,I.os,I.bare,⟨λb o e n hb hx=>?_,λb o e n hb hx=>?_,I.base.free,λb o e hx=>?_,I.base.wW,I.base.rX,I.base.wR⟩,⟨_,hn',λj y v' e1 e2 e3=>?_⟩,λy c e=>?_,I.free,I.gO,λp hp=>?_,tracked ⟨oL,Qp,I.free⟩ hs,by simpa using I.len⟩ ⟨_,hs,.inl rfl⟩
  ·exact(hs.2 b (adB (ads (ac9 e) I.ok.above))).trans (I.base.keep b o e n hb hx)
  ·obtain⟨sl,e1⟩:=I.base.slot b o e n hb hx
   exact⟨sl,(hs.2 b (adB (ads (ac9 e) I.ok.above))).trans e1⟩
  ·obtain⟨o',e1⟩:=I.base.there b o e hx
   exact⟨o',(hs.2 b (adB (ads (ac9 e) I.ok.above))).trans e1⟩
  ·by_cases hj:j=i
   ·subst hj
    rw[hi]at e1;cases e1;rw[adP YN]at e2;cases e2;exact⟨u,r,.inl ⟨hk,by simp⟩⟩
   ·rw[aed (aec hj)]at e2
    obtain⟨u',r',q⟩:=hl j y v' e1 e2 e3;refine⟨u',r',?_⟩;rcases q with⟨k,e⟩|⟨k,c,e,z⟩
    ·refine .inl ⟨k,?_⟩
     have:y≠x:=λe=>hj (wj hN e1 (e ▸ hi));simp [this,e]
    ·exact .inr ⟨k,c,e,z.sameBut hs (NF y c e)⟩
  ·obtain⟨w',z⟩:=I.cell y c e
   exact⟨w',z.sameBut hs (NF y c e)⟩
  ·obtain⟨e,n,ne,nf,d⟩:=I.pin p hp
   exact⟨(hs.2 p.1 ne).trans e,n,ne,nf,d⟩
 ·have hfn:X.fn x=true:=by
   rcases hf with z|z
   ·exact z
   ·rw[z]at hk;cases hk
  obtain⟨c,hc⟩:=I.ok.has x (.inl hk);obtain⟨w',z⟩:=I.cell x c hc;refine wpAny_storeName_cell I.ok.kind hk hc z (λh' Wc hs=>?_);obtain⟨oc,hoc,abT⟩:=id z;refine h {s with heap:=h'} ⟨I.ok,I.os,I.bare,⟨λb o e n hb hx=>?_,λb o e n hb hx=>?_,I.base.free,λb o e hx=>?_,I.base.wW,I.base.rX,I.base.wR⟩,⟨m,hn.sameBut hs (aec (NF x c hc)),λj y v' e1 e2 e3=>?_⟩,λy c' e=>?_,I.free,I.gO,λp hp=>?_,tracked ⟨oc,hoc,I.gO x c hc⟩ hs,by simpa using I.len⟩ ⟨c,hs,.inr hc⟩
  ·exact(hs.2 b (adB (ads (ac9 e) (I.ok.V8 x c hfn hc)))).trans (I.base.keep b o e n hb hx)
  ·obtain⟨sl,e1⟩:=I.base.slot b o e n hb hx
   exact⟨sl,(hs.2 b (adB (ads (ac9 e) (I.ok.V8 x c hfn hc)))).trans e1⟩
  ·obtain⟨o',e1⟩:=I.base.there b o e hx
   exact⟨o',(hs.2 b (adB (ads (ac9 e) (I.ok.V8 x c hfn hc)))).trans e1⟩
  ·by_cases hj:j=i
   ·subst hj
    rw[hi]at e1;cases e1;rw[adP YN]at e2;cases e2;exact⟨u,r,.inr ⟨.inl hk,c,hc,Wc⟩⟩
   ·rw[aed (aec hj)]at e2
    obtain⟨u',r',q⟩:=hl j y v' e1 e2 e3;refine⟨u',r',?_⟩;rcases q with q|⟨k,c',e,z'⟩
    ·exact .inl q
    ·refine .inr ⟨k,c',e,z'.sameBut hs ?_⟩
     rintro rfl;exact hj (wj hN e1 (I.ok.inj _ _ _ e hc ▸ hi))
  ·by_cases hcc:c'=c
   ·subst hcc;exact⟨_,Wc⟩
   ·obtain⟨w2,z2⟩:=I.cell y c' e
    exact⟨w2,z2.sameBut hs hcc⟩
  ·obtain⟨e,n,ne,nf,d⟩:=I.pin p hp
   refine⟨(hs.2 p.1 ?_).trans e,n,ne,nf,d⟩;intro q;rw[q,hoc]at e;have q':oc=p.2:=adp e;exact d w' (by rw[<- q'];exact abT)
theorem pd{M:Model}{A:Around}{E:Value->Shared->Prop}{i:Nat}{x:Str}{v:V}{u:Value}{Q:Unit->Shared->Prop}(I:Inv X pins σ H s)(hN:X.N.Nodup)(hi:X.N[i]?=some x)(hx:Loc X.env.scope x)(r:RelV v u)
  (h:∀s',Inv X pins (σ.set i (some v)) H s'->Q () s') (hf:X.fn x=true\/X.env.scope.names.lookup x=some .local:=by first|exact .inl rfl|exact .inr rfl|assumption):wpAny M A (storeName X.env x u) Q E s:=
 BH I hN hi hx r (λs' I' _=>h s' I') hf
theorem Inv.Xk{s':Shared}{ch:List Addr}(I:Inv X pins σ H s)(ho:s'.os=s.os)(u:Un (Ek X.stack) ch H H' s.heap s'.heap)(bI:ik X.prog X.w H' s'.heap)(hg:AllBare s'.gens)
  (HK:∀b∈ch,(b∈X.ex\/X.c5.heap.get? b=none)/\b≠X.env.locals/\(∀x c,X.env.cells.lookup x=some c->c≠b)/\∀p∈X.pn++pins,p.1≠b):Inv X pins σ H' s':=by
 obtain⟨h',g',d',t',o'⟩:=s';have e:o'=s.os:=ho;subst e;exact I.call (g':=g') (t':=t') (d':=d') u bI hg HK
end
abbrev XK:=Value->Option Addr->Hp->Prop
abbrev St:=List (Option V)
abbrev VK:=V->Hp->Prop
abbrev TE:=St->Hp->VK->Prop
abbrev TT:=St->Hp->(Bool->Hp->Prop)->Prop
abbrev TA:=St->Hp->(List V->Hp->Prop)->Prop
structure Ends where
 nx:St->Hp->Prop
 rt:VK
 bk:St->Hp->Prop:=λ_ _=>False
 ct:St->Hp->Prop:=λ_ _=>False
abbrev TS:=Ends->St->Hp->Prop
def EP(X:Cx)(pins:List (Addr×Obj))(σ:St)(Q:VK)(u:Value)(s':Shared):Prop:=∃v H',Inv X pins σ H' s'/\RelV v u/\Q v H'
def TP(X:Cx)(pins:List (Addr×Obj))(σ:St)(Q:Bool->Hp->Prop)(b:Bool)(s':Shared):Prop:=∃H',Inv X pins σ H' s'/\Q b H'
def AP(X:Cx)(pins:List (Addr×Obj))(σ:St)(Q:List V->Hp->Prop)(us:List Value)(s':Shared):Prop:=∃vs H',Inv X pins σ H' s'/\Vals vs us/\Q vs H'
def SP(X:Cx)(pins:List (Addr×Obj))(D:Ends)(f:Flow)(s':Shared):Prop:=
 match f with
 | .next=>∃b8 H',Inv X pins b8 H' s'/\D.nx b8 H'
 | .brk=>∃b8 H',Inv X pins b8 H' s'/\D.bk b8 H'
 | .cont=>∃b8 H',Inv X pins b8 H' s'/\D.ct b8 H'
 | .ret u=>∃v b8 H',Inv X pins b8 H' s'/\RelV v u/\D.rt v H'
def PE(X:Cx)(e:Expr)(t:TE):Prop:=
 ∀(pins:List (Addr×Obj)) (s:Shared) (σ:St) (H:Hp) (Q:VK),Inv X pins σ H s->t σ H Q->wpAny (model X.prog X.w) X.A (eval e X.env) (EP X pins σ Q) X.xe s
def PT(X:Cx)(e:Expr)(t:TT):Prop:=
 ∀(pins:List (Addr×Obj)) (s:Shared) (σ:St) (H:Hp) (Q:Bool->Hp->Prop),Inv X pins σ H s->t σ H Q->wpAny (model X.prog X.w) X.A (isTrue e X.env (eval e X.env)) (TP X pins σ Q) X.xe s
def PW(X:Cx)(e:Expr)(t:TT):Prop:=
 ∀(whole:Sem Value) (pins:List (Addr×Obj)) (s:Shared) (σ:St) (H:Hp) (Q:Bool->Hp->Prop),Inv X pins σ H s->t σ H Q->wpAny (model X.prog X.w) X.A (isTrue e X.env whole) (TP X pins σ Q) X.xe s
theorem PW.pt{X:Cx}{e:Expr}{t:TT}(h:PW X e t):PT X e t:=h _
def PA(X:Cx)(es:List Expr)(t:TA):Prop:=
 ∀(pos:Pos) (pins:List (Addr×Obj)) (s:Shared) (σ:St) (H:Hp) (Q:List V->Hp->Prop),Inv X pins σ H s->t σ H Q->wpAny (model X.prog X.w) X.A (spliced (backTo pos (acW es X.env))) (AP X pins σ Q) X.xe s
def PS(X:Cx)(st:Stmt)(t:TS):Prop:=
 ∀(pins:List (Addr×Obj)) (s:Shared) (σ:St) (H:Hp) (D:Ends),Inv X pins σ H s->t D σ H->wpAny (model X.prog X.w) X.A (exec st X.env) (SP X pins D) X.xe s
def rh(X:Cx)(st:List Stmt)(t:TS):Prop:=
 ∀(pins:List (Addr×Obj)) (s:Shared) (σ:St) (H:Hp) (D:Ends),Inv X pins σ H s->t D σ H->wpAny (model X.prog X.w) X.A (execs st X.env) (SP X pins D) X.xe s
theorem cB{α:Type}{t:Sem α}{Q Q':α->Shared->Prop}{M:Model}{A:Around}{E:Value->Shared->Prop}{s:Shared}(h:wpAny M A t Q E s)(hQ:∀a s,Q a s->Q' a s):wpAny M A t Q' E s:=wpAny_mono h hQ λ_ _ x=>x
end L2
namespace L2
open PySem PySem.Spec PyProof.Rows
section
variable {X:Cx}
def abj(i:Nat):TE:=λσ H Q=>∃v,σ[i]?=some (some v)/\Q v H
def tC(v:V):TE:=λ_ H Q=>Q v H
theorem gY{i:Nat}{x:Str}{pos:Pos}(hN:X.N[i]?=some x)(hv:HF X.env.scope x)(hd:(x==("__debug__":Str))=false:=by decide)(ly:(x==("__classdict__":Str))=false:=by decide):PE X (.Name x pos) (abj i):=by
 intro pins s σ H Q I h;obtain⟨v,e,h⟩:=h;obtain⟨m,hn,hl⟩:=I.loc;obtain⟨u,r,l⟩:=hl i x v hN e hv;have fin:EP X pins σ Q u s:=⟨v,H,I,r,h⟩;rcases l with⟨hk,hm⟩|⟨hk,c,hc,zv⟩
 ·exact wpAny_Name (wpAny_loadName_local I.ok.kind hk hn hm fin) hd
 ·rcases hk with hk|hk
  ·exact wpAny_Name (wpAny_loadName_cell I.ok.kind hk hc zv fin) hd
  ·exact wpAny_Name (wpAny_loadName_free I.ok.kind hk hc zv fin ly) hd
theorem Tq{i j pos}:PE X (.Constant (.int i) j pos) (tC (.int i)):=λ_ _ _ H _ I h=>wpAny_Constant_int ⟨.int i,H,I.tok _,⟨_,rfl⟩,h⟩
theorem aan{b j pos}:PE X (.Constant (.bool b) j pos) (tC (.bl b)):=λ_ _ _ H _ I h=>Constant_bool ⟨.bl b,H,I,rfl,h⟩
theorem Tr{j pos}:PE X (.Constant .none j pos) (tC .aQ):=λ_ _ _ H _ I h=>Constant_none ⟨.aQ,H,I,rfl,h⟩
theorem Tt{x j pos}:PE X (.Constant (.str x) j pos) (tC (.str x)):=λ_ _ _ H _ I h=>Calls.Constant_str ⟨.str x,H,I.tok _,⟨_,rfl⟩,h⟩
def Gl(X:Cx)(x:Str):Prop:=X.env.kindOf x=some .globalImplicit
theorem su{E:Value->Shared->Prop}{pins:List (Addr×Obj)}{s:Shared}{σ:St}{H:Hp}{x:Str}{u:Value}{pos:Pos}{Q:Value->Shared->Prop}(I:Inv X pins σ H s)(hg:Gl X x)(hm:X.mg x=some u)(h:Q u s)
  (hd:(x==("__debug__":Str))=false:=by decide):wpAny (model X.prog X.w) X.A (eval (.Name x pos) X.env) Q E s:=
 Calls.Name_function_global I.ok.kind hg (Calls.loadGlobal_global (by rw[I.ok.glob];exact I.mod.glob.keeps I.bk) hm h) hd
theorem jj{E:Value->Shared->Prop}{pins:List (Addr×Obj)}{s:Shared}{σ:St}{H:Hp}{x:Str}{u:Value}{pos:Pos}{Q:Value->Shared->Prop}(I:Inv X pins σ H s)(hg:Gl X x)(hm:X.mg x=none)(hv:bootBuiltins x=some u)(h:Q u s)
  (hn:x≠"__name__":=by decide) (hd:(x==("__debug__":Str))=false:=by decide):wpAny (model X.prog X.w) X.A (eval (.Name x pos) X.env) Q E s:=by
 obtain⟨mb,h1,h2⟩:=I.mod.blt;exact Calls.Name_function_global I.ok.kind hg (Calls.loadGlobal_builtin (by rw[I.ok.glob];exact I.mod.glob.keeps I.bk) hm (by rw[I.ok.blt];exact h1.keeps I.bk) ((h2 x hn).trans hv) h) hd
theorem JY{x:Str}{v:V}{u:Value}{pos:Pos}(hg:Gl X x)(hm:X.mg x=some u)(r:RelV v u)(hd:(x==("__debug__":Str))=false:=by decide):PE X (.Name x pos) (tC v):=
 λ_ _ _ H _ I h=>su I hg hm ⟨v,H,I,r,h⟩ hd
theorem sD{x:Str}{v:V}{u:Value}{pos:Pos}(hg:Gl X x)(hm:X.mg x=none)(hv:bootBuiltins x=some u)(r:RelV v u)(hn:x≠"__name__":=by decide)(hd:(x==("__debug__":Str))=false:=by decide):PE X (.Name x pos) (tC v):=
 λ_ _ _ H _ I h=>jj I hg hm hv ⟨v,H,I,r,h⟩ hn hd
variable {a b:Expr}{ta tb:TE}{pos:Pos}
variable {tA tB':TT}{rest:List Expr}
def acs(t u:TT):TT:=λσ H Q=>t σ H λc H1=>if c=true then u σ H1 Q else Q false H1
def tOr(t u:TT):TT:=λσ H Q=>t σ H λc H1=>if c=true then Q true H1 else u σ H1 Q
def acw(t:TT):TT:=λσ H Q=>t σ H λc H1=>Q (!c) H1
theorem pw_and1(ha:PT X a tA):PW X (.BoolOp .And [a] pos) tA:=by
 intro wh pins s σ H Q I h;refine isTrue_and (cB (ha pins s σ H Q I h) λc s1 e=>?_);cases c with
 | true=>exact isTrue_and_nil e
 | false=>exact e
theorem pw_or1(ha:PT X a tA):PW X (.BoolOp .Or [a] pos) tA:=by
 intro wh pins s σ H Q I h;refine isTrue_or (cB (ha pins s σ H Q I h) λc s1 e=>?_);cases c with
 | false=>exact isTrue_or_nil e
 | true=>exact e
theorem pw_and(ha:PT X a tA)(hb:PW X (.BoolOp .And (b::rest) pos) tB'):PW X (.BoolOp .And (a::b::rest) pos) (acs tA tB'):=by
 intro wh pins s σ H Q I h;refine isTrue_and (cB (ha pins s σ H _ I h) λc s1 ⟨H1,I1,q1⟩=>?_);cases c with
 | true=>exact hb wh pins s1 σ H1 Q I1 q1
 | false=>exact⟨H1,I1,q1⟩
theorem pw_or(ha:PT X a tA)(hb:PW X (.BoolOp .Or (b::rest) pos) tB'):PW X (.BoolOp .Or (a::b::rest) pos) (tOr tA tB'):=by
 intro wh pins s σ H Q I h;refine isTrue_or (cB (ha pins s σ H _ I h) λc s1 ⟨H1,I1,q1⟩=>?_);cases c with
 | true=>exact⟨H1,I1,q1⟩
 | false=>exact hb wh pins s1 σ H1 Q I1 q1
theorem Uk(ha:PT X a tA):PT X (.UnaryOp .Not a pos) (acw tA):=by
 intro pins s σ H Q I h;exact isTrue_not (ha pins s σ H (λc H1=>Q (!c) H1) I h)
def aa7(ta tb:TE):TE:=λσ H Q=>ta σ H λx H1=>∃c,x=.bl c/\if c=true then tb σ H1 Q else Q (.bl false) H1
theorem Ts{op}{t:TE}(h:PE X a t):PE X (.BoolOp op [a] pos) t:=λpins s σ H Q I hw=>BoolOp_one (h pins s σ H Q I hw)
theorem Tp(ha:PE X a ta)(hb:PE X (.BoolOp .And (b::rest) pos) tb):PE X (.BoolOp .And (a::b::rest) pos) (aa7 ta tb):=by
 intro pins s σ H Q I h;refine BoolOp_and (cB (ha pins s σ H _ I h) λv s1 ⟨x,H1,I1,r1,q1⟩=>?_);obtain⟨c,rfl,q1⟩:=q1;cases r1;refine wpAny_truthy_bool ?_;cases c with
 | true=>exact hb pins s1 σ H1 Q I1 q1
 | false=>exact⟨.bl false,H1,I1,rfl,q1⟩
end
end L2
namespace L2
open PySem PySem.Spec PyProof.Rows
def gp(K:acT)(H:Hp)(a:Addr)(xs:List V):Prop:=
 Rd H a (.lst xs) \/
  ∃(o:Obj) (its:Array Value) (n:Nat),K.lookup a=some o/\o.cls=.type "list"/\o.dict=none/\o.data=.seq its n/\its.size<=acZ/\Vals xs its.toList
def k8(K:acT)(H:Hp)(a:Addr)(xs:List V):Prop:=
 Rd H a (.tup xs) \/
  ∃(o:Obj) (its:Array Value) (n:Nat),K.lookup a=some o/\o.cls=.type "tuple"/\o.data=.seq its n/\its.size<=acZ/\Vals xs its.toList
def abr:Value->Option V
 | .none=>some .aQ
 | .bool b=>some (.bl b)
 | .int i _=>some (.int i)
 | .str x _=>some (.str x)
 | .bytes b _=>some (.V7 b)
 | .float b _=>some (.L0 b)
 | .ref a=>some (.ref a)
 | .type n=>some (.ty n)
 | _=>none
theorem RelV.abs{x:V}{u:Value}(r:RelV x u):abr u=some x:=by
 cases x with
 | aQ=>cases r;rfl
 | bl _=>cases r;rfl
 | int _=>obtain⟨t,rfl⟩:=r;rfl
 | str _=>obtain⟨t,rfl⟩:=r;rfl
 | V7 _=>obtain⟨t,rfl⟩:=r;rfl
 | L0 _=>obtain⟨t,rfl⟩:=r;rfl
 | ref _=>cases r;rfl
 | ty _=>cases r;rfl
theorem RelV.inj{x y:V}{u:Value}(r:RelV x u)(q:RelV y u):x=y:=adp (r.abs.symm.trans q.abs)
theorem Vals.inj:∀ {xs ys:List V} {us:List Value},Vals xs us->Vals ys us->xs=ys
 | _,_,_,.nil,.nil=>rfl
 | _,_,_,.cons r t,.cons r' t'=>by rw[r.inj r',Vals.inj t t']
section
variable {X:Cx}{pins:List (Addr×Obj)}{σ:St}{H:Hp}{s:Shared}{a:Addr}{xs ys:List V}
theorem gp.of{K:acT}(h:H a=some (.lst xs)):gp K H a xs:=.inl (.inl h)
theorem k8.of{K:acT}(h:H a=some (.tup xs)):k8 K H a xs:=.inl (.inl h)
theorem Inv.list(I:Inv X pins σ H s)(h:gp X.K H a xs):∃its:List Value,Vals xs its/\PlainL s.heap a its.toArray/\xs.length<=acZ:=by
 rcases h with h|⟨o,its,n,hk,hc,hd,hs,hz,r⟩
 ·obtain⟨z,its,n,r,e⟩:=h.ok I.bI
  exact⟨its,r,⟨_,n,e,rfl,rfl,rfl⟩,z⟩
 ·refine⟨its.toList,r,⟨o,n,I.mH a o hk,hc,hd,by simpa using hs⟩,?_⟩
  have e:=r.length;simp only[aep]at e;omega
theorem Inv.tuple(I:Inv X pins σ H s)(h:k8 X.K H a xs):∃its:List Value,Vals xs its/\IsTup s.heap a its.toArray/\xs.length<=acZ:=by
 rcases h with h|⟨o,its,n,hk,hc,hs,hz,r⟩
 ·obtain⟨z,its,r,p⟩:=h.ok I.bI
  exact⟨its,r,p,z⟩
 ·refine⟨its.toList,r,⟨o,I.mH a o hk,hc,n,by simpa using hs⟩,?_⟩
  have e:=r.length;simp only[aep]at e;omega
theorem Inv.vU(I:Inv X pins σ H s)(h:gp X.K H a xs)(h':gp X.K H a ys):xs=ys:=by
 obtain⟨its,r,⟨o,n,e,_,_,d⟩,_⟩:=I.list h;obtain⟨its',r',⟨o',n',e',_,_,d'⟩,_⟩:=I.list h';rw[e]at e';cases e';rw[d]at d'
 injection d' with d1 _
 have:its=its':=by simpa using congrArg Array.toList d1
 subst this;exact r.inj r'
theorem Inv.qU(I:Inv X pins σ H s)(h:k8 X.K H a xs)(h':k8 X.K H a ys):xs=ys:=by
 obtain⟨its,r,⟨o,e,_,n,d⟩,_⟩:=I.tuple h;obtain⟨its',r',⟨o',e',_,n',d'⟩,_⟩:=I.tuple h';rw[e]at e';cases e';rw[d]at d'
 injection d' with d1 _
 have:its=its':=by simpa using congrArg Array.toList d1
 subst this;exact r.inj r'
end
abbrev Cx.pQ(X:Cx)(E:Value->Shared->Prop):Cx:={X with xe:=E}
abbrev Cx.JF(X:Cx):Cx:=X.pQ λ_ _=>False
theorem Cx.Ok.pQ{X:Cx}(ok:X.Ok)(E:Value->Shared->Prop):(X.pQ E).Ok:=
 ⟨ok.mod,ok.kind,ok.glob,ok.blt,ok.above,ok.inj,ok.has,ok.V8,ok.hd,ok.frames,ok.stk,ok.exf,ok.bs,ok.CJ,ok.Bj,ok.D6,ok.lx,ok.L4⟩
theorem Cx.Ok.ic{X:Cx}{E:Value->Shared->Prop}(ok:(X.pQ E).Ok):X.Ok:=
 ⟨ok.mod,ok.kind,ok.glob,ok.blt,ok.above,ok.inj,ok.has,ok.V8,ok.hd,ok.frames,ok.stk,ok.exf,ok.bs,ok.CJ,ok.Bj,ok.D6,ok.lx,ok.L4⟩
section
variable {X:Cx}{pins:List (Addr×Obj)}{σ:St}{H:Hp}{s:Shared}{E:Value->Shared->Prop}
theorem Inv.pQ(I:Inv X pins σ H s)(E:Value->Shared->Prop):Inv (X.pQ E) pins σ H s:=⟨I.ok.pQ E,I.os,I.bare,I.base,I.loc,I.cell,I.free,I.gO,I.pin,I.bI,I.len⟩
theorem Inv.ic(I:Inv (X.pQ E) pins σ H s):Inv X pins σ H s:=⟨I.ok.ic,I.os,I.bare,I.base,I.loc,I.cell,I.free,I.gO,I.pin,I.bI,I.len⟩
theorem SP.ic{D:Ends}{f:Flow}{s':Shared}(h:SP (X.pQ E) pins D f s'):SP X pins D f s':=by
 cases f with
 | next=>obtain⟨b8,H',I,q⟩:=h;exact⟨b8,H',I.ic,q⟩
 | brk=>obtain⟨b8,H',I,q⟩:=h;exact⟨b8,H',I.ic,q⟩
 | cont=>obtain⟨b8,H',I,q⟩:=h;exact⟨b8,H',I.ic,q⟩
 | ret u=>obtain⟨v,b8,H',I,r,q⟩:=h;exact⟨v,b8,H',I.ic,r,q⟩
theorem rh.JF{st:List Stmt}{t:TS}(h:rh X.JF st t):rh X st t:=λpins s σ H D I hw =>
 wpAny_mono (h pins s σ H D (I.pQ _) hw) (λ_ _ q=>q.ic) λ_ _ z=>aez z
end
section
variable {X:Cx}{st:Stmt}{rest:List Stmt}{t u:TS}{e:Expr}{te:TE}{pos:Pos}
def abg:TS:=λD σ H=>D.nx σ H
def acy(t u:TS):TS:=λD σ H=>t {D with nx:=u D} σ H
theorem Ag:rh X [] abg:=λ_ _ σ H _ I h=>wpAny_execs_nil ⟨σ,H,I,h⟩
theorem wx(h1:PS X st t)(h2:rh X rest u):rh X (st::rest) (acy t u):=by
 intro pins s σ H D I h;refine wpAny_execs_cons (cB (h1 pins s σ H {D with nx:=u D} I h) λf s1 q=>?_)
 cases f with
 | next =>
  obtain⟨b8,H',I',q⟩:=q;exact h2 pins s1 b8 H' D I' q
 | ret v=>exact q
 | brk=>exact q
 | cont=>exact q
theorem sO(h1:PS X st t):rh X [st] t:=by
 intro pins s σ H D I h;refine wpAny_execs_cons (cB (h1 pins s σ H D I h) λf s1 q=>?_);cases f with
 | next=>exact wpAny_execs_nil q
 | ret v=>exact q
 | brk=>exact q
 | cont=>exact q
theorem Inv.quiet{pins:List (Addr×Obj)}{σ:St}{H:Hp}{s:Shared}(I:Inv X pins σ H s):interactive X.env=false:=by simp [interactive,I.ok.kind]
def abb(te:TE):TS:=λD σ H=>te σ H λ_ H1=>D.nx σ H1
theorem sL(he:PE X e te)(hs:swapsWith e none pos.line X.env=pure false:=by rfl):PS X (.Expr e pos) (abb te):=by
 intro pins s σ H D I h;exact wpAny_Expr_any (cB (he pins s σ H _ I h) λv s1 ⟨x,H1,I1,r1,q1⟩=>⟨σ,H1,I1,q1⟩) I.quiet hs
def acx(te:TE):TS:=λD σ H=>te σ H D.rt
theorem yv(he:PE X e te):PS X (.Return (some e) pos) (acx te):=by
 intro pins s σ H D I h;exact wpAny_Return_some (cB (he pins s σ H _ I h) λv s1 ⟨x,H1,I1,r1,q1⟩=>⟨x,σ,H1,I1,r1,q1⟩)
def acv(c:TT)(t u:TS):TS:=λD σ H=>c σ H λb H1=>if b=true then t D σ H1 else u D σ H1
theorem Mq{c:Expr}{a b:List Stmt}{tc:TT}(hc:PT X c tc)(ha:rh X a t)(hb:rh X b u):PS X (.If c a b pos) (acv tc t u):=by
 intro pins s σ H D I h;refine wpAny_If (cB (hc pins s σ H _ I h) λd s1 ⟨H1,I1,q1⟩=>?_);cases d with
 | true=>exact ha pins s1 σ H1 D I1 q1
 | false=>exact hb pins s1 σ H1 D I1 q1
def VB:TS:=λ_ _ _=>False
theorem F9:PS X st VB:=λ_ _ _ _ _ _ h=>h.elim
end
abbrev TG:=V->St->Hp->(St->Hp->Prop)->Prop
abbrev LK:=List V->St->Hp->(St->Hp->Prop)->Prop
def PG(X:Cx)(target:Expr)(t:TG):Prop:=
 ∀(pins:List (Addr×Obj)) (s:Shared) (σ:St) (H:Hp) (v:V) (u:Value) (Q:St->Hp->Prop),Inv X pins σ H s->RelV v u->t v σ H Q ->
  wpAny (model X.prog X.w) X.A (assign target X.env u) (λ_ s'=>∃b8 H',Inv X pins b8 H' s'/\Q b8 H') X.xe s
def V5(X:Cx)(ts:List Expr)(t:LK):Prop:=
 ∀(pins:List (Addr×Obj)) (s:Shared) (σ:St) (H:Hp) (vs:List V) (us:List Value) (Q:St->Hp->Prop),Inv X pins σ H s->Vals vs us->t vs σ H Q ->
  wpAny (model X.prog X.w) X.A (assignInOrder ((assignEach ts X.env).map (·.2)) us) (λ_ s'=>∃b8 H',Inv X pins b8 H' s'/\Q b8 H') X.xe s
abbrev MU:=V->V->V->Hp->(Hp->Prop)->Prop
def WX(X:Cx)(t:MU):Prop:=
 ∀(pins:List (Addr×Obj)) (s:Shared) (σ:St) (H:Hp) (o i v:V) (ov iv u:Value) (Q:Hp->Prop),Inv X pins σ H s->RelV o ov->RelV i iv->RelV v u->t o i v H Q ->
  wpAny (model X.prog X.w) X.A (setItem ov iv u) (λ_ s'=>∃H',Inv X pins σ H' s'/\Q H') X.xe s
section
variable {X:Cx}{pos:Pos}
def nV(i:Nat):TG:=λv σ H Q=>Q (σ.set i (some v)) H
theorem Ab{i:Nat}{x:Str}(hN:X.N.Nodup)(hi:X.N[i]?=some x)(hx:Loc X.env.scope x)(hf:X.fn x=true\/X.env.scope.names.lookup x=some .local:=by first|exact .inl rfl|exact .inr rfl|assumption):PG X (.Name x pos) (nV i):=by
 intro pins s σ H v u Q I r h;exact wpAny_assign_Name (pd I hN hi hx r (λs' I'=>⟨_,H,I',h⟩) hf)
def abH:LK:=λvs σ H Q=>vs=[]/\Q σ H
def Yw(t:TG)(u:LK):LK:=λvs σ H Q=>∃v r,vs=v::r/\t v σ H λb8 H'=>u r b8 H' Q
theorem J4:V5 X [] abH:=by
 intro pins s σ H vs us Q I r h;obtain⟨e,h⟩:=h;subst e;cases r;exact assignInOrder_nil ⟨σ,H,I,h⟩
theorem FT{e:Expr}{es:List Expr}{t:TG}{u:LK}(h1:PG X e t)(h2:V5 X es u)
  (hs:(assignEach (e::es) X.env).map (·.2)=assign e X.env::(assignEach es X.env).map (·.2):=by rfl):V5 X (e::es) (Yw t u):=by
 intro pins s σ H vs us Q I r h;obtain⟨v,vr,e1,h⟩:=h;subst e1;cases r with
 | cons r rr =>
  rw[hs];refine assignInOrder_cons (cB (h1 pins s σ H _ _ _ I r h) λ_ s1 ⟨aw,H1,I1,q1⟩=>?_);exact h2 pins s1 aw H1 _ _ Q I1 rr q1
def abJ(K:acT)(n:Nat)(t:LK):TG:=λv σ H Q=>∃a xs,v=.ref a/\k8 K H a xs/\xs.length=n/\t xs σ H Q
theorem Tw{es:List Expr}{k:Nat}{t:LK}{n:Nat}(hc:X.calm=true)(h:V5 X es t)
  (hn:(assignEach es X.env).length=n:=by rfl) (Fc:(assignEach es X.env).findIdx? (·.1)=none:=by rfl):PG X (.Tuple es k pos) (abJ X.K n t):=by
 intro pins s σ H v u Q I r hw;obtain⟨a,xs,e1,hq,hl,hw⟩:=hw;subst e1;cases r;obtain⟨its,rv,ht,hz⟩:=I.tuple hq;refine assign_Tuple_tuple (I.ok.hd hc) ht (by simp [hn,<- hl,rv.length]) Fc λh' hx=>?_
 have I1:Inv X pins σ H {s with heap:=h'}:=I.kept (t':=s.toks) λb o e=>hx b o (adB (ac9 e)) e
 exact h pins _ σ H xs _ Q I1 (by simpa using rv) hw
def abI(to ti:TE)(t:MU):TG:=λv σ H Q=>to σ H λo H1=>ti σ H1 λi H2=>t o i v H2 λH3=>Q σ H3
theorem Tv{o i:Expr}{to ti:TE}{t:MU}(ho:PE X o to)(hi:PE X i ti)(hs:WX X t)
  (ha:∀v,assign (.Subscript o i pos) X.env v=(do
   let ov <- holding [v] (eval o X.env)
   let iv <- holding [v,ov] (eval i X.env)
   standAt pos
   holding [v,ov,iv] (setItem ov iv v)
   release [v,ov,iv] []):=by intro _;rfl):PG X (.Subscript o i pos) (abI to ti t):=by
 intro pins s σ H v u Q I r h;rw[ha];refine acL (wpAny_holding (cB (ho pins s σ H _ I h) λov s1 ⟨x,H1,I1,r1,q1⟩=>?_));refine acL (wpAny_holding (cB (hi pins s1 σ H1 _ I1 q1) λiv s2 ⟨y,H2,I2,r2,q2⟩=>?_));refine acL (wpAny_standAt (acL (wpAny_holding (cB (hs pins s2 σ H2 x y v ov iv u _ I2 r1 r2 r q2) λ_ s3 ⟨H3,I3,q3⟩=>?_))));exact wpAny_release ⟨σ,H3,I3,q3⟩
def GI(te:TE)(g:TG):TS:=λD σ H=>te σ H λx H1=>g x σ H1 D.nx
theorem F7{tg e:Expr}{te:TE}{g:TG}(he:PE X e te)(hg:PG X tg g)(hs:swapsWithSole [tg] e pos.line X.env=pure false:=by rfl)(hw:swappedStores [tg] e X.env=pure none:=by rfl)
  (h1:(assignEach [tg] X.env).map (·.2)=[assign tg X.env]:=by rfl):PS X (.Assign [tg] e pos) (GI te g):=by
 intro pins s σ H D I h;refine wpAny_Assign_stores (cB (he pins s σ H _ I h) λv s1 ⟨x,H1,I1,r1,q1⟩=>?_) hs hw;rw[h1];exact cB (hg pins s1 σ H1 x v _ I1 r1 q1) λ_ s2 q=>q
theorem yw{i:Nat}{x:Str}{e:Expr}{te:TE}{pos':Pos}(hN:X.N.Nodup)(hi:X.N[i]?=some x)(hx:Loc X.env.scope x)(he:PE X e te)(hs:swapsWith e (some (.Name x pos')) pos.line X.env=pure false:=by rfl)(hf:X.fn x=true\/X.env.scope.names.lookup x=some .local:=by first|exact .inl rfl|exact .inr rfl|assumption):
  PS X (.Assign [.Name x pos'] e pos) (GI te (nV i)):=by
 intro pins s σ H D I h;refine wpAny_Assign_Name (cB (he pins s σ H _ I h) λv s1 ⟨y,H1,I1,r1,q1⟩=>?_) hs;exact pd I1 hN hi hx r1 (λs2 I2=>⟨_,H1,I2,q1⟩) hf
end
structure It where
 go:Nat->Hp->Prop
 WB:Nat->Hp->V->Hp->Prop
 stop:Nat->Hp->Prop
def iK(X:Cx)(pins:List (Addr×Obj))(H:Hp)(b:Addr):Prop:=
 H b=none/\b≠X.env.locals/\b∉X.fs/\(b∈X.ex\/X.c5.heap.objs.size<=b)/\(∀x c,X.env.cells.lookup x=some c->c≠b)/\∀p∈X.pn++pins,p.1≠b
theorem Inv.Ej{X:Cx}{pins:List (Addr×Obj)}{σ:St}{H H':Hp}{s:Shared}{b:Addr}(I:Inv X pins σ H s)(hb:s.heap.objs.size<=b)(hn:H' b=none):iK X pins H' b:=by
 refine⟨hn,Nat.ne_of_gt (ads I.lt hb),I.acb hb,.inr (adq I.sz hb),λx c e z=>?_,λp hp z=>?_⟩
 ·obtain⟨v,q⟩:=I.cell x c e
  exact absurd (ads q.lt (by rw[z];exact hb)) (Nat.lt_irrefl _)
 ·exact absurd (ads (ac9 (I.pin p hp).1) (by rw[z];exact hb)) (Nat.lt_irrefl _)
structure Turn(P:adv)(w:World)(K:acT)(tg:Expr)(J:It)(fp:List Addr)(it:Addr)(tn:Nat->Heap->Prop):Prop where
 mem:it∈fp
 obj:∀i h,tn i h->∀b∈fp,∃o,h.get? b=some o/\∀v,o.data≠.cell v
 keep:∀i h h',tn i h->(∀b∈fp,∀o,h.get? b=some o->h'.get? b=some o)->tn i h'
 item:∀(X:Cx),X.prog=P->X.w=w->X.K=K->X.calm=true->∀(i:Nat) (pins:List (Addr×Obj)) (s:Shared) (σ:St) (H:Hp) (E:Value->Shared->Prop),Inv X pins σ H s->(∀b∈fp,iK X pins H b)->tn i s.heap->J.go i H ->
  wpAny (model P w) X.A (pyNext (.ref it)) (λr s1=>∃u,r=some u /\
   wpAny (model P w) X.A (letOwnedTupleGo tg (.ref it) u) (λ_ s2=>∃x H',Inv X pins σ H' s2/\RelV x u/\J.WB i H x H'/\tn (i+1) s2.heap/\∀b∈fp,H' b=none) E s1) E s
 done:∀(X:Cx),X.prog=P->X.w=w->X.K=K->X.calm=true->∀(i:Nat) (pins:List (Addr×Obj)) (s:Shared) (σ:St) (H:Hp) (E:Value->Shared->Prop),Inv X pins σ H s->(∀b∈fp,iK X pins H b)->tn i s.heap->J.stop i H ->
  wpAny (model P w) X.A (pyNext (.ref it)) (λr s1=>r=none/\Inv X pins σ H s1) E s
 self:∀(A:Around) (i:Nat) (s:Shared) (Q:Value->Shared->Prop) (E:Value->Shared->Prop),tn i s.heap->Q (.ref it) s->wpAny (model P w) A (pyIter (.ref it)) Q E s
abbrev TI:=St->Hp->(It->Hp->Prop)->Prop
def PIE(X:Cx)(pins:List (Addr×Obj))(σ:St)(tg:Expr)(R:It->Hp->Prop)(itv:Value)(s2:Shared):Prop:=
 ∃(it:Addr) (fp:List Addr) (tn:Nat->Heap->Prop) (J:It) (H':Hp),itv=.ref it/\Inv X pins σ H' s2/\Turn X.prog X.w X.K tg J fp it tn/\tn 0 s2.heap/\(∀b∈fp,iK X pins H' b)/\R J H'
def PI(X:Cx)(tg iter:Expr)(wi:TI):Prop:=
 ∀(pins:List (Addr×Obj)) (s:Shared) (σ:St) (H:Hp) (R:It->Hp->Prop),Inv X pins σ H s->wi σ H R ->
  wpAny (model X.prog X.w) X.A (eval iter X.env) (λv s1=>wpAny (model X.prog X.w) X.A (pyIter v) (PIE X pins σ tg R) X.xe s1) X.xe s
theorem En{M:Model}{A:Around}{E:Value->Shared->Prop}{s:Shared}{tg:Expr}{it:Addr}{u:Value}{o:Obj}{n:String}{vs:Array Value}{Q:Unit->Shared->Prop}(ho:s.heap.get? it=some o)(hc:o.cls=.type n)(hd:o.data=.fields vs)
    (hn:["enumerate","zip","dict_itemiterator","dict_reverseitemiterator","odict_iterator","itertools.zip_longest","itertools.pairwise"].contains n=false) (hQ:Q () s):wpAny M A (letOwnedTupleGo tg (.ref it) u) Q E s:=by
  unfold letOwnedTupleGo;cases tg<;>first
    | exact acP hQ
    | (cases u<;>first
        | exact acP hQ
        | (refine acL (wpAny_load ho ?_)
           rw[hc,hd];show wpAny M A (if(["enumerate","zip","dict_itemiterator","dict_reverseitemiterator","odict_iterator","itertools.zip_longest","itertools.pairwise"].contains n&&vs[0]?==some (rawInt _))=true then _ else _) Q E s
           rw[if_neg (by intro h;rw[hn,Bool.false_and]at h;cases h)]
           exact acP hQ))
def Itl(K:acT)(a:Addr):It:=
 ⟨λi H=>∃xs x,gp K H a xs/\xs[i]?=some x,λi H x H'=>H'=H/\∀xs,gp K H a xs->xs[i]?=some x,λi H=>∃xs,gp K H a xs/\xs.length<=i⟩
def Itt(K:acT)(a:Addr):It:=
 ⟨λi H=>∃xs x,k8 K H a xs/\xs[i]?=some x,λi H x H'=>H'=H/\∀xs,k8 K H a xs->xs[i]?=some x,λi H=>∃xs,k8 K H a xs/\xs.length<=i⟩
def WV(lo:Int)(n:Nat):It:=⟨λi _=>i<n,λi H x H'=>H'=H/\x=.int (lo+i),λi _=>n<=i⟩
theorem BI{P:adv}{w:World}{K:acT}{tg:Expr}(a it:Addr):Turn P w K tg (Itl K a) [it] it (λi h=>h.IsListIter it a i) where
 mem:=by simp
 obj:=λi h st b hb=>by
  have e:b=it:=by simpa using hb
  subst e;obtain⟨o,e,c,d⟩:=st;exact⟨o,e,λv z=>by rw[d]at z;cases z⟩
 keep:=λi h h' st k=>st.at λo e=>k it (by simp) o e
 item:=by
  intro X hP hw hK hc i pins s σ H E I hf st hg;subst hP hw hK;obtain⟨xs,x,hq,hx⟩:=hg;obtain⟨its,rv,p,hz⟩:=I.list hq;obtain⟨u,hu,ru⟩:=rv.get hx;obtain⟨f0,f1,f2,f3,f4,f5⟩:=hf it (by simp)
  refine wpAny_pyNext_list_item st p.isList (x:=u) (by simpa using hu) λh' aA sb=>?_
  have I1:Inv X pins σ H {s with heap:=h'}:=I.turned (t':=s.toks) (λb o hb e=>(sb.2 b hb).trans e) f0 f1 f3 f4 f5
  obtain⟨o,e,c,d⟩:=id aA;exact⟨u,rfl,En (s:={s with heap:=h'}) e c d ∅ ⟨x,H,I1,ru,⟨rfl,λys hy=>by rw[I.vU hy hq];exact hx⟩,aA,λb hb=>(hf b hb).1⟩⟩
 done:=by
  intro X hP hw hK hc i pins s σ H E I hf st hg;subst hP hw hK;obtain⟨xs,hq,hx⟩:=hg;obtain⟨its,rv,p,hz⟩:=I.list hq;obtain⟨f0,f1,f2,f3,f4,f5⟩:=hf it (by simp)
  have hl:=rv.length;exact wpAny_pyNext_list_end (I.ok.hd hc) st p.isList (by simp;omega) λh' eb=>⟨rfl,I.turned (t':=s.toks) (λb o hb e=>eb b o hb e) f0 f1 f3 f4 f5⟩
 self:=λ_ _ _ _ _ st h=>wpAny_pyIter_listiter st h
theorem yW{P:adv}{w:World}{K:acT}{tg:Expr}(a it:Addr):Turn P w K tg (Itt K a) [it] it (λi h=>h.IsTupleIter it a i) where
 mem:=by simp
 obj:=λi h st b hb=>by
  have e:b=it:=by simpa using hb
  subst e;obtain⟨o,e,c,d⟩:=st;exact⟨o,e,λv z=>by rw[d]at z;cases z⟩
 keep:=λi h h' st k=>st.at λo e=>k it (by simp) o e
 item:=by
  intro X hP hw hK hc i pins s σ H E I hf st hg;subst hP hw hK;obtain⟨xs,x,hq,hx⟩:=hg;obtain⟨its,rv,p,hz⟩:=I.tuple hq;obtain⟨u,hu,ru⟩:=rv.get hx;obtain⟨f0,f1,f2,f3,f4,f5⟩:=hf it (by simp)
  refine wpAny_pyNext_tuple_item st (show s.heap.IsTuple a its.toArray from p) (x:=u) (by simpa using hu) λh' aA sb=>?_
  have I1:Inv X pins σ H {s with heap:=h'}:=I.turned (t':=s.toks) (λb o hb e=>(sb.2 b hb).trans e) f0 f1 f3 f4 f5
  obtain⟨o,e,c,d⟩:=id aA;exact⟨u,rfl,En (s:={s with heap:=h'}) e c d ∅ ⟨x,H,I1,ru,⟨rfl,λys hy=>by rw[I.qU hy hq];exact hx⟩,aA,λb hb=>(hf b hb).1⟩⟩
 done:=by
  intro X hP hw hK hc i pins s σ H E I hf st hg;subst hP hw hK;obtain⟨xs,hq,hx⟩:=hg;obtain⟨its,rv,p,hz⟩:=I.tuple hq;obtain⟨f0,f1,f2,f3,f4,f5⟩:=hf it (by simp)
  have hl:=rv.length;exact wpAny_pyNext_tuple_end (I.ok.hd hc) st (show s.heap.IsTuple a its.toArray from p) (by simp;omega) λh' eb=>⟨rfl,I.turned (t':=s.toks) (λb o hb e=>eb b o hb e) f0 f1 f3 f4 f5⟩
 self:=λ_ _ _ _ _ st h=>wpAny_pyIter_tupleiter st h
theorem yV{P:adv}{w:World}{K:acT}{tg:Expr}(it:Addr)(lo:Int)(n:Nat):Turn P w K tg (WV lo n) [it] it (λi h=>IsRangeIter h it (lo+(i:Nat)*1) ((n:Int)-(i:Nat)) 1) where
 mem:=by simp
 obj:=λi h st b hb=>by
  have e:b=it:=by simpa using hb
  subst e;exact⟨_,st,λv z=>by
   have z':Data.fields _=Data.cell v:=z;cases z'⟩
 keep:=λi h h' st k=>k it (by simp) _ st
 item:=by
  intro X hP hw hK hc i pins s σ H E I hf st hg;subst hP hw hK;obtain⟨f0,f1,f2,f3,f4,f5⟩:=hf it (by simp)
  have W:=Walks.range (prog:=X.prog) (w:=X.w) (I.ok.hd hc) it lo 1 n;refine W.item i s _ _ hg st λv h' tk hv aA kk=>?_;obtain⟨t,rfl⟩:=hv;have I1:Inv X pins σ H {s with heap:=h',toks:=tk}:=I.turned (λb o hb e=>kk b o (by simpa using hb) e) f0 f1 f3 f4 f5
  refine⟨_,rfl,En (s:={s with heap:=h',toks:=tk}) (n:="range_iterator") aA rfl rfl ∅ ⟨.int (lo+i),H,I1,⟨t,?_⟩,⟨rfl,rfl⟩,aA,λb hb=>(hf b hb).1⟩⟩
  rw[Int.mul_one]
 done:=by
  intro X hP hw hK hc i pins s σ H E I hf st hg;subst hP hw hK;obtain⟨f0,f1,f2,f3,f4,f5⟩:=hf it (by simp)
  exact wpAny_pyNext_range_end (I.ok.hd hc) st (by have:n<=i:=hg;omega) λh' eb=>⟨rfl,I.turned (t':=s.toks) (λb o hb e=>eb b o hb e) f0 f1 f3 f4 f5⟩
 self:=λ_ _ _ _ _ st h=>wpAny_pyIter_rangeiter st h
end L2
namespace L2
open PySem PySem.Spec PyProof.Rows
section
variable {X:Cx}{tg:Expr}
theorem wC{pins:List (Addr×Obj)}{σ:St}{H:Hp}{s:Shared}{R:It->Hp->Prop}{E:Value->Shared->Prop}{lo hi:Int}{t u v:Tok}{tk:Nat}(I:Inv X pins σ H s)(h1:-(2^62)<=lo)(h2:lo<2^62)(h3:-(2^62)<=hi)(h4:hi<2^62)
  (q:R (WV lo (hi-lo).toNat) H):wpAny (model X.prog X.w) X.A (pyIter (.ref s.heap.objs.size)) (PIE X pins σ tg R) E {s with heap:=s.heap.push {cls:=.type "range",data:=.fields #[.int lo t,.int hi u,.int 1 v]},toks:=tk}:=by
 refine wpAny_pyIter_range (IsRange.new ..) (small_one h1 h2 h3 h4) ?_;have I1:Inv X pins σ H {s with heap:=s.heap.push {cls:=.type "range",data:=.fields #[.int lo t,.int hi u,.int 1 v]},toks:=tk}:=I.kept λb o e=>acM _ e
 refine⟨(s.heap.push {cls:=.type "range",data:=.fields #[.int lo t,.int hi u,.int 1 v]}).objs.size,[(s.heap.push {cls:=.type "range",data:=.fields #[.int lo t,.int hi u,.int 1 v]}).objs.size],_,_,H,rfl,
  I1.kept (t':=tk) λb o e=>acM _ e,yV _ lo (hi-lo).toNat,?_,λb hb=>?_,q⟩
 ·have e1:lo+((0:Nat):Int)*1=lo:=by simp
  have e2:(((hi-lo).toNat:Nat):Int)-((0:Nat):Int)=Builtin.Range.rangeSize lo hi 1:=by rw[rangeSize_one];split<;>omega
  show IsRangeIter _ _ (lo+((0:Nat):Int)*1) ((((hi-lo).toNat:Nat):Int)-((0:Nat):Int)) 1;rw[e1,e2];exact ada _ rfl
 ·have e:b=(s.heap.push {cls:=.type "range",data:=.fields #[.int lo t,.int hi u,.int 1 v]}).objs.size:=by simpa using hb
  subst e;exact I1.Ej (acS _) (I1.bI.fresh (acS _))
def Y9(ta:TA):TI:=λσ H R=>ta σ H λvs H1=>∃j:Int,vs=[.int j]/\-(2^62)<=j/\j<2^62/\R (WV 0 j.toNat) H1
def Za(ta:TA):TI:=λσ H R=>ta σ H λvs H1=>∃i j:Int,vs=[.int i,.int j]/\(-(2^62)<=i/\i<2^62/\-(2^62)<=j/\j<2^62)/\R (WV i (j-i).toNat) H1
theorem Bw{a:Expr}{ta:TA}{p pos:Pos}(hg:Gl X "range")(hm:X.mg "range"=none)(ha:PA X [a] ta)(hs:acW [a] X.env=[(false,eval a X.env)]:=by rfl):PI X tg (.Call (.Name "range" p) [a] [] pos) (Y9 ta):=by
 intro pins s σ H R I h;refine Call_ (jj I hg hm boot_range (PyProof.Rows.callWith_type1 (cB (ha pos pins s σ H _ I h) λus s1 ⟨vs,H1,I1,r1,q1⟩=>?_) hs rfl));obtain⟨j,e,q1,q2,q⟩:=q1;subst e;cases r1 with
 | cons r rr =>
  cases rr;obtain⟨t,rfl⟩:=r;exact call_range_1 (wC I1 ⋯ ⋯ q1 q2 (by simpa using q))
theorem Bx{a b:Expr}{ta:TA}{p pos:Pos}(hg:Gl X "range")(hm:X.mg "range"=none)(ha:PA X [a,b] ta)(hs:acW [a,b] X.env=[(false,eval a X.env),(false,eval b X.env)]:=by rfl)(zJ:acW [b] X.env=[(false,eval b X.env)]:=by rfl):
  PI X tg (.Call (.Name "range" p) [a,b] [] pos) (Za ta):=by
 intro pins s σ H R I h;refine Call_ (jj I hg hm boot_range (PyProof.Rows.callWith_type1 (cB (ha pos pins s σ H _ I h) λus s1 ⟨vs,H1,I1,r1,q1⟩=>?_) (by rw[hs,zJ]) (by rw[zJ];rfl)))
 obtain⟨i,j,e,⟨q1,q2,q3,q4⟩,q⟩:=q1;subst e;cases r1 with
 | cons r rr =>
  cases rr with
  | cons r' rr =>
   cases rr;obtain⟨t,rfl⟩:=r;obtain⟨t',rfl⟩:=r';exact call_range_2 (wC I1 q1 q2 q3 q4 q)
def abd(wi:TI)(g:TG)(tb:TS):TS:=λD σ H=>wi σ H λJ H1=>∃W:Nat->Nat->St->Hp->Prop,(∃m,W 0 m σ H1)/\∀i m σ H,W i m σ H ->
 (J.stop i H/\D.nx σ H)\/(J.go i H/\∃N:St->Hp->Prop,(∀b8 H',N b8 H'->∃m',m'<m/\W (i+1) m' b8 H')/\∀x H',J.WB i H x H'->g x σ H' λaM H2=>tb {D with nx:=N,ct:=N,bk:=D.nx} aM H2)
def lR(fp:List Addr)(h:Heap):List (Addr×Obj):=fp.filterMap λb=>(h.get? b).map λo=>(b,o)
theorem eD{fp:List Addr}{h:Heap}{b:Addr}{o:Obj}(hb:b∈fp)(e:h.get? b=some o):(b,o)∈lR fp h:=List.mem_filterMap.mpr ⟨b,hb,by rw[e];rfl⟩
theorem Bl{fp:List Addr}{h:Heap}{p:Addr×Obj}(hp:p∈lR fp h):p.1∈fp/\h.get? p.1=some p.2:=by
 obtain⟨b,hb,e⟩:=List.mem_filterMap.mp hp;cases q:h.get? b with
 | none=>rw[q]at e;cases e
 | some o =>
  rw[q]at e;have e':(b,o)=p:=adp e;subst e';exact⟨hb,q⟩
theorem Inv.pinned{pins:List (Addr×Obj)}{σ:St}{H:Hp}{s:Shared}{fp:List Addr}(I:Inv X pins σ H s)(hf:∀b∈fp,iK X pins H b)(ho:∀b∈fp,∃o,s.heap.get? b=some o/\∀v,o.data≠.cell v):Inv X (pins++lR fp s.heap) σ H s:=
 I.Ac λp hp=>(adj.mp hp).elim (λz=>I.pin p (adg _ z)) λz=>by
  obtain⟨hb,e⟩:=Bl z;obtain⟨f0,f1,f2,_⟩:=hf p.1 hb;obtain⟨o,e',d⟩:=ho p.1 hb;rw[e]at e';cases e';exact⟨e,f0,f1,f2,d⟩
theorem Inv.h9{pins pl:List (Addr×Obj)}{σ:St}{H:Hp}{s:Shared}(I:Inv X (pins++pl) σ H s):Inv X pins σ H s:=I.Ac λp hp=>I.pin p (adg _ (ad2 _ hp))
theorem F8{iter:Expr}{body:List Stmt}{wi:TI}{g:TG}{tb:TS}{pos:Pos}(hp:PassesOwn (model X.prog X.w) X.A X.env X.xe)(hc:X.calm=true)(hi:PI X tg iter wi)(hg:PG X tg g)(hb:rh X body tb)
  (hs:∀x,aer iter X.env x=pure x:=by intro _;rfl):PS X (.For tg iter body [] pos) (abd wi g tb):=by
 intro pins s σ H D I h;refine wpAny_For (cB (hi pins s σ H _ I h) λv s1 h1=>cB h1 λitv s2 h2=>?_) hs;obtain⟨it,fp,tn,J,H2,e,I2,T,BG,f2,W,⟨m0,w0⟩,turn⟩:=h2;subst e
 -- what stays true of the iterator's objects through the loop
 have stat:∀ {H':Hp},(∀b∈fp,H' b=none)->∀b∈fp,iK X pins H' b:=λhn b hb=>⟨hn b hb,(f2 b hb).2⟩;refine codeAny_forLoop_any (λn s'=>∃i b8 H',Inv X pins b8 H' s'/\tn i s'.heap/\(∀b∈fp,H' b=none)/\W i n b8 H') ?_ m0 ⟨0,σ,H2,I2,BG,λb hb=>(f2 b hb).1,w0⟩;rintro n s3 ⟨i,fq,H3,I3,st3,IK,w3⟩;rcases turn i n fq H3 w3 with⟨stop,qn⟩|⟨go,N,hN,step⟩
 ·refine wpAny_passesOwn hp (cB (T.done X rfl rfl rfl hc i pins s3 fq H3 X.xe I3 (stat IK) st3 stop) λr s4 ⟨hr,I4⟩=>?_)
  subst hr;exact wpAny_execs_nil ⟨fq,H3,I4,qn⟩
 ·refine wpAny_passesOwn hp (cB (T.item X rfl rfl rfl hc i pins s3 fq H3 X.xe I3 (stat IK) st3 go) λr s4 ⟨u,hr,h4⟩=>?_)
  subst hr;refine wpAny_passesOwn hp (cB h4 λ_ s5 ⟨x,H5,I5,r5,y5,Wv,HH⟩=>?_);have I5':=I5.pinned (stat HH) (T.obj _ _ Wv);refine wpAny_passesOwn hp (cB (hg _ s5 fq H5 x u _ I5' r5 (step x H5 y5)) λ_ s6 ⟨σ6,H6,I6,q6⟩=>?_);refine wpAny_passesOwn hp (cB (hb _ s6 σ6 H6 _ I6 q6) λf s7 q7=>?_);have again:∀ {Hz:St} {H7:Hp},Inv X (pins++lR fp s5.heap) Hz H7 s7->N Hz H7->∃m,m<n/\∃i b8 H',Inv X pins b8 H' s7/\tn i s7.heap/\(∀b∈fp,H' b=none)/\W i m b8 H':=λ{Hz H7} I7 n7=>by
   obtain⟨m',hm,w7⟩:=hN Hz H7 n7;refine⟨m',hm,i+1,Hz,H7,I7.h9,T.keep _ _ _ Wv λb hb o e=>(I7.pin (b,o) (adg _ (adg _ (eD hb e)))).1,λb hb=>?_,w7⟩;obtain⟨o,e,d⟩:=T.obj _ _ Wv b hb;exact(I7.pin (b,o) (adg _ (adg _ (eD hb e)))).2.1
  cases f with
  | next=>obtain⟨Hz,H7,I7,n7⟩:=q7;exact again I7 n7
  | cont=>obtain⟨Hz,H7,I7,n7⟩:=q7;exact again I7 n7
  | brk=>obtain⟨Hz,H7,I7,q7⟩:=q7;exact⟨Hz,H7,I7.h9,q7⟩
  | ret v=>obtain⟨x7,Hz,H7,I7,r7,q7⟩:=q7;exact⟨x7,Hz,H7,I7.h9,r7,q7⟩
end
end L2
namespace L2
open PySem PySem.Spec PyProof.Rows
abbrev R2:=V->V->Hp->VK->Prop
def il(X:Cx)(f:Value->Value->Sem Value)(r:R2):Prop:=
 ∀(pins:List (Addr×Obj)) (s:Shared) (σ:St) (H:Hp) (x y:V) (v u:Value) (Q:VK),Inv X pins σ H s->RelV x v->RelV y u->r x y H Q ->
  wpAny (model X.prog X.w) X.A (f v u) (EP X pins σ Q) X.xe s
def UnR(X:Cx)(f:Value->Sem Value)(r:V->Hp->VK->Prop):Prop:=
 ∀(pins:List (Addr×Obj)) (s:Shared) (σ:St) (H:Hp) (x:V) (v:Value) (Q:VK),Inv X pins σ H s->RelV x v->r x H Q ->
  wpAny (model X.prog X.w) X.A (f v) (EP X pins σ Q) X.xe s
def cU(X:Cx)(f:Value)(r:List V->Hp->VK->Prop):Prop:=
 ∀(pins:List (Addr×Obj)) (s:Shared) (σ:St) (H:Hp) (xs:List V) (us:List Value) (Q:VK),Inv X pins σ H s->Vals xs us->r xs H Q ->
  wpAny (model X.prog X.w) X.A (call f us) (EP X pins σ Q) X.xe s
def abq(X:Cx)(r:V->Hp->(Bool->Hp->Prop)->Prop):Prop:=
 ∀(pins:List (Addr×Obj)) (s:Shared) (σ:St) (H:Hp) (x:V) (v:Value) (Q:Bool->Hp->Prop),Inv X pins σ H s->RelV x v->r x H Q ->
  wpAny (model X.prog X.w) X.A (truthy v) (TP X pins σ Q) X.xe s
def VC(r:R2)(ta tb:TE):TE:=λσ H Q=>ta σ H λx H1=>tb σ H1 λy H2=>r x y H2 Q
def tUn(r:V->Hp->VK->Prop)(ta:TE):TE:=λσ H Q=>ta σ H λx H1=>r x H1 Q
def rI(C:Int->Int->Prop)(g:Int->Int->V):R2:=λx y H Q=>∃i j,x=.int i/\y=.int j/\C i j/\Q (g i j) H
def HW(g:Int->Int->V):R2:=λx y H Q=>∃i j,x=.int i/\y=.int j/\Q (g i j) H
def rU(g:Int->V):V->Hp->VK->Prop:=λx H Q=>∃i,x=.int i/\Q (g i) H
section
variable {X:Cx}{a b c:Expr}{ta tb tc:TE}{pos:Pos}
theorem NA(ha:PE X a ta)(hb:PE X b tb){pins:List (Addr×Obj)}{s:Shared}{σ:St}{H:Hp}{R:V->V->Hp->Prop}(I:Inv X pins σ H s)
  (h:ta σ H λx H1=>tb σ H1 λy H2=>R x y H2) {Q:Value->Shared->Prop} {f:Value->Value->Sem Value}
  (hf:∀v u s2 x y H2,Inv X pins σ H2 s2->RelV x v->RelV y u->R x y H2->wpAny (model X.prog X.w) X.A (f v u) Q X.xe s2):
  wpAny (model X.prog X.w) X.A (eval a X.env) (λv bM=>wpAny (model X.prog X.w) X.A (eval b X.env) (λu uk=>wpAny (model X.prog X.w) X.A (f v u) Q X.xe uk) X.xe bM) X.xe s:=by
 refine cB (ha pins s σ H _ I h) λv s1 ⟨x,H1,I1,r1,q1⟩=>?_;refine cB (hb pins s1 σ H1 _ I1 q1) λu s2 ⟨y,H2,I2,r2,q2⟩=>?_;exact hf v u s2 x y H2 I2 r1 r2 q2
theorem aap{op:Operator}{r:R2}(ho:il X (binaryOp op) r)(ha:PE X a ta)(hb:PE X b tb):PE X (.BinOp a op b pos) (VC r ta tb):=by
 intro pins s σ H Q I h;exact wpAny_BinOp (NA ha hb I h λv u s2 x y H2 I2 rx ry q=>ho pins s2 σ H2 x y v u Q I2 rx ry q)
theorem aaq{op:UnaryOp}{r:V->Hp->VK->Prop}(ho:UnR X (unaryOp op) r)(ha:PE X a ta):PE X (.UnaryOp op a pos) (tUn r ta):=by
 intro pins s σ H Q I h;exact UnaryOp_ (cB (ha pins s σ H _ I h) λv s1 ⟨x,H1,I1,r1,q1⟩=>ho pins s1 σ H1 x v Q I1 r1 q1)
theorem opI{f:Value->Value->Sem Value}{C:Int->Int->Prop}{g:Int->Int->Int}
  (rule:∀(i j:Int) (t u:Tok) (s:Shared) (Q:Value->Shared->Prop) (E:Value->Shared->Prop),C i j->Q (.int (g i j) s.toks) {s with toks:=s.toks+1}->wpAny (model X.prog X.w) X.A (f (.int i t) (.int j u)) Q E s):
  il X f (rI C λi j=>.int (g i j)):=by
 intro pins s σ H x y v u Q I rx ry h;obtain⟨i,j,rfl,rfl,hc,q⟩:=h;obtain⟨t,rfl⟩:=rx;obtain⟨t',rfl⟩:=ry;exact rule i j t t' s _ _ hc ⟨.int (g i j),H,I.tok _,⟨_,rfl⟩,q⟩
theorem Z1{f:Value->Value->Sem Value}{g:Int->Int->Int}
  (rule:∀(i j:Int) (t u:Tok) (s:Shared) (Q:Value->Shared->Prop) (E:Value->Shared->Prop),Q (.int (g i j) s.toks) {s with toks:=s.toks+1}->wpAny (model X.prog X.w) X.A (f (.int i t) (.int j u)) Q E s):
  il X f (HW λi j=>.int (g i j)):=by
 intro pins s σ H x y v u Q I rx ry h;obtain⟨i,j,rfl,rfl,q⟩:=h;obtain⟨t,rfl⟩:=rx;obtain⟨t',rfl⟩:=ry;exact rule i j t t' s _ _ ⟨.int (g i j),H,I.tok _,⟨_,rfl⟩,q⟩
theorem JL{f:Value->Value->Sem Value}{g:Int->Int->Bool}
  (rule:∀(i j:Int) (t u:Tok) (s:Shared) (Q:Value->Shared->Prop) (E:Value->Shared->Prop),Q (.bool (g i j)) s->wpAny (model X.prog X.w) X.A (f (.int i t) (.int j u)) Q E s):
  il X f (HW λi j=>.bl (g i j)):=by
 intro pins s σ H x y v u Q I rx ry h;obtain⟨i,j,rfl,rfl,q⟩:=h;obtain⟨t,rfl⟩:=rx;obtain⟨t',rfl⟩:=ry;exact rule i j t t' s _ _ ⟨.bl (g i j),H,I,rfl,q⟩
def abn(i j:Int):Prop:=0<j/\j<1073741824
def nD(i j:Int):Prop:=0<=j/\j<=1000000/\i.natAbs<2^64
def jt(i j:Int):Prop:=(-(2^64)<i/\i<2^64)\/(-(2^64)<j/\j<2^64)
theorem jt.ok{i j:Int}(h:jt i j):IntMulOk i j:=by
 rcases h with⟨h1,h2⟩|⟨h1,h2⟩
 ·exact .of_left (intBits_le_64 h1 h2)
 ·exact .of_right (intBits_le_64 h1 h2)
theorem SV:il X (binaryOp .Add) (HW λi j=>.int (i+j)):=Z1 λ_ _ _ _ _ _ _ q=>add_int q
theorem S7:il X (binaryOp .Sub) (HW λi j=>.int (i-j)):=Z1 λ_ _ _ _ _ _ _ q=>sub_int q
theorem S3:il X (binaryOp .Mult) (rI jt λi j=>.int (i*j)):=opI λ_ _ _ _ _ _ _ hc q=>mul_int q hc.ok
theorem S2:il X (binaryOp .Mod) (rI (λ_ j=>0<j) λi j=>.int (i%j)):=opI λi j _ _ _ _ _ hc q=>by
 have h1:(0:Int)<j:=hc;exact mod_int' ⋯ (by rw[Int.fmod_eq_emod_of_nonneg i ⋯];exact q)
theorem S6:il X (binaryOp .Pow) (rI nD λi j=>.int (i^j.toNat)):=opI λ_ _ _ _ _ _ _ hc q=>pow_int_small hc.1 hc.2.1 hc.2.2 q
theorem unI{f:Value->Sem Value}{g:Int->Int}
  (rule:∀(i:Int) (t:Tok) (s:Shared) (Q:Value->Shared->Prop) (E:Value->Shared->Prop),Q (.int (g i) s.toks) {s with toks:=s.toks+1}->wpAny (model X.prog X.w) X.A (f (.int i t)) Q E s):
  UnR X f (rU λi=>.int (g i)):=by
 intro pins s σ H x v Q I rx h;obtain⟨i,rfl,q⟩:=h;obtain⟨t,rfl⟩:=rx;exact rule i t s _ _ ⟨.int (g i),H,I.tok _,⟨_,rfl⟩,q⟩
theorem VY:UnR X (unaryOp .USub) (rU λi=>.int (-i)):=unI λ_ _ _ _ _ q=>neg_int q
end
section
variable {X:Cx}{a b c:Expr}{ta tb tc:TE}{pos:Pos}
theorem Qb{pins:List (Addr×Obj)}{σ:St}{H:Hp}{s:Shared}{Q:VK}{k k':Bool}(I:Inv X pins σ H s)(q:Q (.bl k) H)(e:k=k'):EP X pins σ Q (.bool k') s:=by
 subst e;exact⟨.bl k,H,I,rfl,q⟩
theorem Z5:il X (aek .Lt) (HW λi j=>.bl (decide (i<j))):=JL λ_ _ _ _ _ _ _ q=>lt_int q
theorem Z4:il X (aek .LtE) (HW λi j=>.bl (decide (i<=j))):=JL λ_ _ _ _ _ _ _ q=>le_int q
theorem Z3:il X (aek .Gt) (HW λi j=>.bl (decide (j<i))):=JL λ_ _ _ _ _ _ _ q=>gt_int q
theorem Z2:il X (aek .GtE) (HW λi j=>.bl (decide (j<=i))):=JL λ_ _ _ _ _ _ _ q=>ge_int q
theorem SY:il X (aek .Is) (λx y H Q=>y=.aQ/\Q (.bl (decide (x=.aQ))) H):=by
 intro pins s σ H x y v u Q I rx ry h;obtain⟨rfl,q⟩:=h;cases ry;refine is_none_gen (Qb I q ?_);cases x<;>first
  | (cases rx;rfl)
  | (obtain⟨t,rfl⟩:=rx;rfl)
theorem il.or{f:Value->Value->Sem Value}{r r':R2}(h:il X f r)(h':il X f r'):il X f (λx y H Q=>r x y H Q\/r' x y H Q):=by
 intro pins s σ H x y v u Q I rx ry q;rcases q with q|q
 ·exact h pins s σ H x y v u Q I rx ry q
 ·exact h' pins s σ H x y v u Q I rx ry q
theorem oA(b:Expr){op:CmpOp}(h:op≠.In:=by decide)(h2:op≠.NotIn:=by decide):behindInMarks op b=false:=by
 have e1:(op==CmpOp.In)=false:=by cases op<;>first|rfl|exact absurd rfl h
 have e2:(op==CmpOp.NotIn)=false:=by cases op<;>first|rfl|exact absurd rfl h2
 cases b<;>simp [behindInMarks,e1,e2]
theorem z9{op:CmpOp}{r:R2}(ho:il X (aek op) r)(ha:PE X a ta)(hb:PE X b tb)(hm:behindInMarks op b=false):PE X (.Compare a [op] [b] pos) (VC r ta tb):=by
 intro pins s σ H Q I h;exact wpAny_Compare1 (NA ha hb I h λv u s2 x y H2 I2 rx ry q=>ho pins s2 σ H2 x y v u Q I2 rx ry q) hm
def abi(t:TE):TT:=λσ H Q=>t σ H λx H'=>∃k,x=.bl k/\Q k H'
theorem sP{op:CmpOp}{r:R2}(ho:il X (aek op) r)(ha:PE X a ta)(hb:PE X b tb)(hm:behindInMarks op b=false):PT X (.Compare a [op] [b] pos) (abi (VC r ta tb)):=by
 intro pins s σ H Q I h;refine wpAny_isTrue_Compare1 (cB (ha pins s σ H _ I h) λv s1 ⟨x,H1,I1,r1,q1⟩=>cB (hb pins s1 σ H1 _ I1 q1) λu s2 ⟨y,H2,I2,r2,q2⟩ =>
  cB (ho pins s2 σ H2 x y v u _ I2 r1 r2 q2) λc s3 ⟨z,H3,I3,r3,k,e,q3⟩=>?_) hm
 subst e;cases r3;exact wpAny_truthy_bool ⟨H3,I3,q3⟩
def W2(K:acT)(x:V)(H:Hp)(k:Bool):Prop:=
 match x with
 | .aQ=>k=false
 | .bl b=>k=b
 | .int i=>k=(i != 0)
 | .str y=>y.length<=acZ/\k=((y.length:Int) != 0)
 | .V7 y=>y.size<=acZ/\k=((y.size:Int) != 0)
 | .ref p=>(∃xs,gp K H p xs/\k=!xs.isEmpty)\/(∃xs,k8 K H p xs/\k=!xs.isEmpty)\/∃kvs,H p=some (.dK kvs)/\k=!kvs.isEmpty
 | _=>False
theorem yc{κ:Type}{kvs:List (κ×V)}{vs:List (κ×Value)}(r:KV kvs vs):(!vs.isEmpty)=!kvs.isEmpty:=by
 cases r<;>rfl
theorem n6{xs:List V}{its:List Value}(r:Vals xs its):(!its.toArray.isEmpty)=!xs.isEmpty:=by
 cases r<;>simp
theorem jk:(acZ:Nat)<2^63:=by rw[sizeLine_eq];decide
theorem VR:abq X (λx H Q=>∃k,W2 X.K x H k/\Q k H):=by
 intro pins s σ H x v Q I rx h;obtain⟨k,e,q⟩:=h;have hl:=jk;have hs:acZ=16777216:=sizeLine_eq;cases x with
 | aQ =>
  cases rx;have e':k=false:=e;subst e';exact truthy_none ⟨H,I,q⟩
 | bl b =>
  cases rx;have e':k=b:=e;subst e';exact wpAny_truthy_bool ⟨H,I,q⟩
 | int i =>
  obtain⟨t,rfl⟩:=rx;have e':k=(i != 0):=e;subst e';exact PySem.P.truthy_int ⟨H,I,q⟩
 | str y =>
  obtain⟨t,rfl⟩:=rx;obtain⟨hy,e'⟩:y.length<=acZ/\k=((y.length:Int) != 0):=e;subst e';exact PySem.P.truthy_str ⋯ ⟨H,I.tok _,q⟩
 | V7 y =>
  obtain⟨t,rfl⟩:=rx;obtain⟨hy,e'⟩:y.size<=acZ/\k=((y.size:Int) != 0):=e;subst e';exact PySem.W.truthy_bytes ⋯ ⟨H,I.tok _,q⟩
 | ref p =>
  cases rx;have e':(∃xs,gp X.K H p xs/\k=!xs.isEmpty)\/(∃xs,k8 X.K H p xs/\k=!xs.isEmpty)\/∃kvs,H p=some (.dK kvs)/\k=!kvs.isEmpty:=e;rcases e' with⟨xs,hx,e'⟩|⟨xs,hx,e'⟩|⟨kvs,hx,e'⟩
  ·subst e'
   obtain⟨its,r,pl,hz⟩:=I.list hx;have hlen:=r.length;exact wpAny_truthy_list pl.isList (by simp only[ac5];omega) ⟨H,I.tok _,by rw[n6 r];exact q⟩
  ·subst e'
   obtain⟨its,r,pl,hz⟩:=I.tuple hx;have hlen:=r.length;exact truthy_tuple pl (by simp only[ac5];omega) ⟨H,I.tok _,by rw[n6 r];exact q⟩
  ·subst e'
   obtain⟨hz,hS,vs,r,m⟩:kvs.length<=acZ/\(p==adY)=false/\∃vs,KV kvs vs/\s.heap.DictOf (cc X.prog X.w) p vs:=I.bI p _ hx;have hlen:kvs.length=vs.length:=Paired.length r;exact wpAny_truthy_dict hS m ⋯ ⟨H,I.tok _,by rw[yc r];exact q⟩
 | _=>exact(show False from e).elim
theorem Ga(ha:PE X a ta)(he:∀whole,isTrue a X.env whole=(do let v <- whole;standAt a.pos;holding [v] (truthy v))):
  PT X a (λσ H Q=>ta σ H λx H'=>∃k,W2 X.K x H' k/\Q k H'):=by
 intro pins s σ H Q I h;exact isTrue_plain (cB (ha pins s σ H _ I h) λv s1 ⟨x,H1,I1,r1,q1⟩=>VR pins s1 σ H1 x v Q I1 r1 q1) (he _)
theorem yo:il X (binaryOp .Add) (λx y H Q=>∃i j,x=.str i/\y=.str j/\i.length+j.length<=acZ/\Q (.str (i++j)) H):=by
 intro pins s σ H x y v u Q I rx ry h;obtain⟨i,j,rfl,rfl,hz,q⟩:=h;obtain⟨t,rfl⟩:=rx;obtain⟨t',rfl⟩:=ry;exact add_str (λt' tk=>⟨.str (i++j),H,I.tok _,⟨_,rfl⟩,q⟩) hz
theorem vals1{x:V}{us:List Value}(r:Vals [x] us):∃u,us=[u]/\RelV x u:=by
 cases r with
 | cons r1 r2=>cases r2;exact⟨_,rfl,r1⟩
theorem vals2{x y:V}{us:List Value}(r:Vals [x,y] us):∃u w',us=[u,w']/\RelV x u/\RelV y w':=by
 cases r with
 | cons r1 r2 =>
  cases r2 with
  | cons r3 r4=>cases r4;exact⟨_,_,rfl,r1,r3⟩
theorem CO:cU X (.builtin "abs") (λxs H Q=>∃i,xs=[.int i]/\Q (.int (if i<0 then -i else i)) H):=by
 intro pins s σ H xs us Q I r h;obtain⟨i,rfl,q⟩:=h;obtain⟨u,rfl,t,rfl⟩:=vals1 r;exact call_abs_int λu tk=>⟨.int (if i<0 then -i else i),H,I.tok _,⟨_,rfl⟩,q⟩
theorem AG(hc:X.calm=true):cU X (.builtin "max") (λxs H Q=>∃i j,xs=[.int i,.int j]/\Q (.int (if j>i then j else i)) H):=by
 intro pins s σ H xs us Q I r h;obtain⟨i,j,rfl,q⟩:=h;obtain⟨u,w',rfl,⟨t,rfl⟩,⟨t',rfl⟩⟩:=vals2 r;refine max_two_ints (I.ok.hd hc) λh' tk k=>⟨_,H,I.kept k,?_,q⟩
 by_cases hj:j>i
 ·rw[if_pos hj,if_pos hj];exact⟨_,rfl⟩
 ·rw[if_neg hj,if_neg hj];exact⟨_,rfl⟩
theorem AI(hc:X.calm=true):cU X (.builtin "min") (λxs H Q=>∃i j,xs=[.int i,.int j]/\Q (.int (if j<i then j else i)) H):=by
 intro pins s σ H xs us Q I r h;obtain⟨i,j,rfl,q⟩:=h;obtain⟨u,w',rfl,⟨t,rfl⟩,⟨t',rfl⟩⟩:=vals2 r;refine min_two_ints (I.ok.hd hc) λh' tk k=>⟨_,H,I.kept k,?_,q⟩
 by_cases hj:j<i
 ·rw[if_pos hj,if_pos hj];exact⟨_,rfl⟩
 ·rw[if_neg hj,if_neg hj];exact⟨_,rfl⟩
theorem AF:cU X (.type "int") (λxs H Q=>(∃i,xs=[.int i]/\Q (.int i) H)\/∃k,xs=[.bl k]/\Q (.int (if k then 1 else 0)) H):=by
 intro pins s σ H xs us Q I r h;rcases h with⟨i,rfl,q⟩|⟨k,rfl,q⟩
 ·obtain⟨u,rfl,t,rfl⟩:=vals1 r
  exact call_int_int ⟨.int i,H,I,⟨_,rfl⟩,q⟩
 ·obtain⟨u,rfl,r1⟩:=vals1 r
  cases r1;exact call_int_bool ⟨.int (if k then 1 else 0),H,I.tok _,⟨_,rfl⟩,q⟩
end
end L2
namespace L2
open PySem PySem.Spec PyProof.Rows
structure xD(h:Heap)(x dx C:Addr)(mA:Str->Option Value):Prop where
 obj:h.get? x=some (PySem.W.instObj C dx)
 ns:h.Ns1 dx mA
 ne:dx≠x
theorem Bc{h:Heap}{dx:Addr}{mA:Str->Option Value}(n:h.Ns1 dx mA):∃od,h.get? dx=some od/\∀name,PySem.W.lookIn name od=some (mA name):=by
 obtain⟨o,es,ep,ho,hd,hk,_,hm⟩:=n;refine⟨o,ho,λname=>?_⟩;have e:=hm name;unfold nsFind findBy at e;rw[<- Array.find?_toList]at e;unfold PySem.W.lookIn;rw[hd];dsimp only
 split
 ·rename_i y q
  rw[q]at e;exact congrArg some e
 ·rename_i q
  rw[q]at e;have a:es.toList.any (·.refKey)=false:=by
   rw[List.any_eq_false];intro y hy;obtain⟨z,t,abO⟩:=hk y (Array.mem_toList_iff.mp hy);simp [DictEntry.refKey,abO]
  have a':¬es.toList.any (·.refKey)=true:=by rw[a];exact adJ
  rw[if_neg a'];exact congrArg some e
theorem xD.look{h:Heap}{x dx C:Addr}{mA:Str->Option Value}(I:xD h x dx C mA):∃od,PySem.W.InstAt h x (PySem.W.instObj C dx) C (some od)/\∀name,PySem.W.lookIn name od=some (mA name):=
 let ⟨od,ho,hl⟩:=Bc I.ns
 ⟨od,⟨I.obj,rfl,rfl,ho⟩,hl⟩
section
variable {prog:adv}{w:World}{A:Around}{E:Value->Shared->Prop}{s:Shared}{K:acT}{x dx C f:Addr}{mA:Str->Option Value}{name:Str}{v:Value}
theorem get_map{expr:Bool}{Q:Value->Shared->Prop}(X:K.In s.heap)(I:xD s.heap x dx C mA)(hg:PySem.W.plainGet K C name=true)(hh:PySem.W.hasDictIn K C=true)
  (ha:PySem.W.findIn K (.ref C) name=some none) (hv:mA name=some v) (Y6:PySem.W.handedIn v=true) (h:Q v {s with toks:=s.toks+1}):
  wpAny (model prog w) A (getAttr (.ref x) name expr) Q E s:=by
 obtain⟨od,J,hl⟩:=I.look;exact PySem.W.get_value X J (PySem.W.plainGet_of hg).1 (PySem.W.findObj_own hh ha rfl (by rw[hl,hv])) Y6 h
theorem Em{pl:Sem Bool}{Q:Value×List Value->Shared->Prop}(X:K.In s.heap)(I:xD s.heap x dx C mA)(hg:PySem.W.plainGet K C name=true)
  (hf:PySem.W.findIn K (.ref C) name=some (some (.ref f))) (ht:PySem.W.isFn K (.ref f)=true) (hv:mA name=none) (h:Q (.ref f,[.ref x]) s):
  wpAny (model prog w) A (getMethod (.ref x) name pl) Q E s:=by
 obtain⟨od,J,hl⟩:=I.look;exact PySem.W.method_fn X J (PySem.W.plainGet_of hg).1 (PySem.W.plainGet_of hg).2 hf (beq_iff_eq.mp ht) (by show(PySem.W.lookIn name od).map (·.isSome)=some false;rw[hl,hv];rfl) h
theorem Kq{ns:List Str}{Q:Unit->Shared->Prop}(X:K.In s.heap)(I:xD s.heap x dx C mA)
  (hs:PySem.W.findIn K (.ref C) "__setattr__"=some (some (.builtin "object.__setattr__"))) (hp:PySem.W.plainOver K C=true) (ht:PySem.W.takerIn K C name=some none) (hh:PySem.W.hasDictIn K C=true)
  (hw:PySem.Within mA ns) (hsz:ns.length<=acZ)
  (h:∀h',xD h' x dx C (λy=>if y=name then some v else mA y)->aeD dx s.heap h'->Q () {s with heap:=h',toks:=s.toks+2}):
  wpAny (model prog w) A (setAttr (.ref x) name v) Q E s:=by
 obtain⟨od,J,hl⟩:=I.look;refine PySem.W.set_plain X J hs (PySem.W.osa_open (s:={s with toks:=s.toks+1}) (r:=none) X J hp ht λb=>?_)
 obtain⟨cd,hc,Wd⟩:=PySem.W.any_some hh;have hx:s.heap.get? x=some ⟨.ref C,some dx,.plain,#[]⟩:=I.obj;refine acL (acP (acL (acL (wpAny_loadPart hx (acL (PySem.W.Looks.here (s:={s with toks:=s.toks+1}) (PySem.W.looks_clsIn X hc) ?_))))))
 rw[Wd];refine acP (a:=some dx) (acL (acP (acL ?_)));refine wpAny_nsSet1 (s:={s with toks:=s.toks+1}) I.ns λh' E5 zJ=>?_
 obtain⟨oD,esD,epD,hoD,hdD,hcD⟩:=E5.count (PySem.Within.cons name v hw);refine acL (wpAny_lookBehind hoD (by rw[hdD];exact pastItsLine_dict (adq hcD (by rw[adi];omega))) ?_)
 exact acP (h _ ⟨(zJ.2 _ (aec I.ne)).trans I.obj,E5,I.ne⟩ zJ)
theorem Fu{R:Result->Shared->Prop}{vs:List Value}{kw:List (Str×Value)}(X:K.In s.heap)(hm:PySem.W.makesIn K C=true)
  (hi:PySem.W.findIn K (.ref C) "__init__"=some (some (.ref f))) (hf:PySem.W.typeIn K (.ref f)=some (.type "function"))
  (h:codeAny (model prog w) (A.under (.builtin "type.__call__" ⟨.ref C::vs,kw⟩)) (.call (.ref f) ⟨.ref (s.heap.objs.size+1)::vs,kw⟩) (PySem.W.InitBack (s.heap.objs.size+1) R)
   {s with heap:=(s.heap.push aet).push (PySem.W.instObj C s.heap.objs.size)}):
  codeAny (model prog w) A (.call (.ref C) ⟨vs,kw⟩) R s:=by
 obtain⟨hh,g,d,t,os⟩:=s;exact PySem.W.make_core (PySem.W.makes_of X hm) (PySem.W.looks_findIn X hi) (λself=>PySem.W.bind_fn X self hf) (.inl rfl) h
end
def cR(f:Str)(v:V):List (Str×V)->List (Str×V)
 | []=>[(f,v)]
 | (g,x)::r=>if g=f then(g,v)::r else(g,x)::cR f v r
theorem mM(f g:Str)(v:V):∀fs:List (Str×V),(cR f v fs).lookup g=if g=f then some v else fs.lookup g
 | []=>by
  show List.lookup g [(f,v)]=_
  by_cases h:g=f
  ·have hb:(g==f)=true:=beq_iff_eq.mpr h
   simp only[List.lookup,hb,if_pos h]
  ·have hb:(g==f)=false:=beq_eq_false_iff_ne.mpr h
   simp only[List.lookup,hb,if_neg h]
 | (k,x)::r=>by
  have ih:=mM f g v r;rw[show cR f v ((k,x)::r)=(if k=f then(k,v)::r else(k,x)::cR f v r)from rfl]
  by_cases hk:k=f
  ·rw[if_pos hk]
   by_cases h:g=k
   ·have hb:(g==k)=true:=beq_iff_eq.mpr h
    simp only[List.lookup,hb,if_pos (h.trans hk)]
   ·have hb:(g==k)=false:=beq_eq_false_iff_ne.mpr h
    simp only[List.lookup,hb,if_neg (λe:g=f=>h (e.trans hk.symm))]
  ·rw[if_neg hk]
   by_cases h:g=k
   ·have hb:(g==k)=true:=beq_iff_eq.mpr h
    simp only[List.lookup,hb,if_neg (λe:g=f=>hk (h.symm.trans e))]
   ·have hb:(g==k)=false:=beq_eq_false_iff_ne.mpr h
    simp only[List.lookup,hb];exact ih
theorem lH(f:Str)(v:V):∀fs:List (Str×V),f∈(cR f v fs).map (·.1)/\∀g,g∈fs.map (·.1)->g∈(cR f v fs).map (·.1)
 | []=>⟨by simp [cR],λg h=>by simp at h⟩
 | (k,x)::r=>by
  obtain⟨i1,i2⟩:=lH f v r;rw[show cR f v ((k,x)::r)=(if k=f then(k,v)::r else(k,x)::cR f v r)from rfl]
  by_cases hk:k=f
  ·rw[if_pos hk]
   subst hk;exact⟨by simp,λg h=>by simpa using h⟩
  ·rw[if_neg hk]
   refine⟨?_,λg h=>?_⟩
   ·rw[adh]
    exact acQ _ i1
   ·rw[adh]at h ⊢
    rcases acV.mp h with e|e
    ·exact acV.mpr (.inl e)
    ·exact acQ _ (i2 g e)
theorem mK(f:Str)(v:V):∀fs:List (Str×V),(cR f v fs).length<=fs.length+1
 | []=>by simp [cR]
 | (k,x)::r=>by
  have ih:=mK f v r;rw[show cR f v ((k,x)::r)=(if k=f then(k,v)::r else(k,x)::cR f v r)from rfl]
  by_cases hk:k=f
  ·rw[if_pos hk,adi,adi];omega
  ·rw[if_neg hk,adi,adi];omega
theorem gL.some_of{v:V}{o:Option Value}(r:gL (some v) o):∃u,o=some u/\RelV v u:=by
 cases o with
 | none=>exact(show False from r).elim
 | some u=>exact⟨u,rfl,r⟩
theorem gL.none_of{o:Option Value}(r:gL none o):o=none:=by
 cases o with
 | none=>rfl
 | some u=>exact(show False from r).elim
theorem A1{v:V}{u:Value}(r:RelV v u):PySem.W.handedIn u=true:=by
 cases v with
 | aQ=>cases(show u=Value.none from r);rfl
 | bl b=>cases(show u=Value.bool b from r);rfl
 | int i=>obtain⟨t,e⟩:=(show∃t,u=Value.int i t from r);cases e;rfl
 | str x=>obtain⟨t,e⟩:=(show∃t,u=Value.str x t from r);cases e;rfl
 | V7 b=>obtain⟨t,e⟩:=(show∃t,u=Value.bytes b t from r);cases e;rfl
 | L0 b=>obtain⟨t,e⟩:=(show∃t,u=Value.float b t from r);cases e;rfl
 | ref a=>cases(show u=adw a from r);rfl
 | ty n=>cases(show u=Value.type n from r);rfl
section
variable {P:adv}{w:World}{H H':Hp}{h h':Heap}{a C dx:Addr}{fs fs':List (Str×V)}
theorem ng(bI:ik P w H h)(e:H a=some (.ins C dx fs)):∃mA,xD h a dx C mA/\(∀f,gL (fs.lookup f) (mA f))/\PySem.Within mA (fs.map (·.1))/\fs.length<=1000/\H dx=some (.own a):=by
 obtain⟨d,z,ne,ob,mA,n,r,q⟩:=(show bU P w H h a (.ins C dx fs)from bI a _ e)
 exact⟨mA,⟨ob,n,ne⟩,r,q,z,d⟩
end
structure BW(K:acT)(C:Addr):Prop where
 pg:PySem.W.plainGet K C Str.empty=true
 hd:PySem.W.hasDictIn K C=true
 po:PySem.W.plainOver K C=true
 sa:PySem.W.findIn K (.ref C) "__setattr__"=some (some (.builtin "object.__setattr__"))
theorem BW.get{K:acT}{C:Addr}(c:BW K C)(f:Str):PySem.W.plainGet K C f=true:=c.pg
def ja(K:acT)(C:Addr)(f:Str):Prop:=PySem.W.findIn K (.ref C) f=some none
theorem ja.abl{K:acT}{C:Addr}{f:Str}(n:ja K C f):PySem.W.takerIn K C f=some none:=by
 unfold PySem.W.takerIn;rw[show PySem.W.findIn K (.ref C) f=some none from n]
 rfl
structure Meth(K:acT)(C:Addr)(m:Str)(f:Addr):Prop where
 at_:PySem.W.findIn K (.ref C) m=some (some (.ref f))
 fn:PySem.W.isFn K (.ref f)=true
 kp:PySem.W.keepIn K (.ref f)=true
section
variable {X:Cx}{pins:List (Addr×Obj)}{σ:St}{H:Hp}{s:Shared}{a C dx:Addr}{fs:List (Str×V)}{f:Str}{v:V}{A:Around}{E:Value->Shared->Prop}
theorem xT{b:Bool}{Q:Value->Shared->Prop}(I:Inv X pins σ H s)(e:H a=some (.ins C dx fs))(c:BW X.K C)(n:ja X.K C f)(l:fs.lookup f=some v)
  (h:∀u s',Inv X pins σ H s'->RelV v u->Q u s'):wpAny (model X.prog X.w) A (getAttr (.ref a) f b) Q E s:=by
 obtain⟨mA,O,r,_,_,_⟩:=ng I.bI e;obtain⟨u,hu,ru⟩:=gL.some_of (v:=v) (o:=mA f) (by rw[<- l];exact r f)
 exact get_map I.mH O (c.get f) c.hd n hu (A1 ru) (h u _ (I.tok _) ru)
theorem nW{m:Str}{g:Addr}{pl:Sem Bool}{Q:Value×List Value->Shared->Prop}(I:Inv X pins σ H s)(e:H a=some (.ins C dx fs))(c:BW X.K C)(k:Meth X.K C m g)(l:fs.lookup m=none)
  (h:Q (.ref g,[.ref a]) s):wpAny (model X.prog X.w) A (getMethod (.ref a) m pl) Q E s:=by
 obtain⟨mA,O,r,_,_,_⟩:=ng I.bI e;have hn:mA m=none:=gL.none_of (by rw[<- l];exact r m)
 exact Em I.mH O (c.get m) k.at_ k.fn hn h
theorem yB{y:V}{u:Value}{Q:Unit->Shared->Prop}(I:Inv X pins σ H s)(e:H a=some (.ins C dx fs))(c:BW X.K C)(n:ja X.K C f)(hl:fs.length<1000)(ry:RelV y u)
  (h:∀s',Inv X pins σ (upd H a (.ins C dx (cR f y fs))) s'->Q () s'):wpAny (model X.prog X.w) A (setAttr (.ref a) f u) Q E s:=by
 obtain⟨mA,O,r,wi,_,ho⟩:=ng I.bI e;have hz:(fs.map (·.1)).length<=acZ:=by rw[acO,sizeLine_eq];omega
 refine Kq I.mH O c.sa c.po n.abl c.hd wi hz λh' O' sb=>h _ ?_;have hd:∃o,h'.get? dx=some o:=let ⟨o,_,_,e',_⟩:=O'.ns;⟨o,e'⟩;refine I.write (x:=a) (e:=dx) (by rw[e];exact aeq) (.inr ho) (λb q hb z=>(sb.2 b hb).trans z) hd ?_
 refine⟨by rw[au O.ne];exact ho,?_,O.ne,O'.obj,_,O'.ns,λg=>?_,λg hg=>?_⟩
 ·have:=mK f y fs;omega
 ·show gL ((cR f y fs).lookup g) (if g=f then some u else mA g)
  rw[mM]
  by_cases q:g=f
  ·rw[if_pos q,if_pos q];exact ry
  ·rw[if_neg q,if_neg q];exact r g
 ·by_cases q:g=f
  ·rw[q];exact(lH f y fs).1
  ·refine(lH f y fs).2 g (wi g λz=>hg ?_)
   show(if g=f then some u else mA g)=none
   rw[if_neg q];exact z
theorem Inv.made(I:Inv X pins σ H s):Inv X pins σ (upd (upd H s.heap.objs.size (.own (s.heap.objs.size+1))) (s.heap.objs.size+1) (.ins C s.heap.objs.size []))
  {s with heap:=(s.heap.push aet).push (PySem.W.instObj C s.heap.objs.size)}:=by
 have e1:(s.heap.push aet).get? s.heap.objs.size=some aet:=ada s.heap rfl;have e2:((s.heap.push aet).push (PySem.W.instObj C s.heap.objs.size)).get? (s.heap.objs.size+1)=some (PySem.W.instObj C s.heap.objs.size):=by
  have:=ada (s.heap.push aet) (o:=PySem.W.instObj C s.heap.objs.size) rfl
  rwa [Heap.size_push]at this
 have e3:(s.heap.push aet).Ns s.heap.objs.size (λ_=>none):=⟨aet,#[],_,e1,rfl,(λe he=>absurd he (by simp)),λ_=>rfl⟩
 have I1:=I.laid (a:=s.heap.objs.size) (o:=.own (s.heap.objs.size+1)) (h':=s.heap.push aet) (t':=s.toks) (λb u q=>acM _ q) (acS _) ⟨_,e1⟩;refine I1.laid (a:=s.heap.objs.size+1) (o:=.ins C s.heap.objs.size []) (t':=s.toks) (λb u q=>acM _ q) (Nat.le_of_eq (Heap.size_push _ _)) ?_;have ne:s.heap.objs.size≠s.heap.objs.size+1:=adB (Nat.lt_succ_self _);refine⟨by rw[au ne,ay],adz _,ne,e2,λ_=>none,(Heap.Ns1.of_empty e3).at λo q=>acM _ q,λ_=>aeq,λy hy=>absurd rfl hy⟩
theorem Iq{prog:adv}{w:World}{env:Env}{e:Expr}{f:Str}{pos:Pos}{s:Shared}{Q:Value->Shared->Prop}(hb:aev e f env (eval e env)=eval e env)
  (h:wpAny (model prog w) A (eval e env) (λo bM=>wpAny (model prog w) A (getAttr o f true) Q E bM) E s):wpAny (model prog w) A (eval (.Attribute e f pos) env) Q E s:=
 Attribute_any_ h (by rw[arm_eval_Attribute,hb])
end
def acu(K:acT)(ta:TE)(f:Str):TE:=λσ H Q=>ta σ H λx H1=>∃a C dx fs v,x=.ref a/\H1 a=some (.ins C dx fs)/\BW K C/\ja K C f/\fs.lookup f=some v/\Q v H1
def acr(K:acT)(ta tv:TE)(f:Str):TS:=λD σ H=>tv σ H λy H1=>ta σ H1 λx H2=>∃a C dx fs,x=.ref a/\H2 a=some (.ins C dx fs)/\BW K C/\ja K C f/\fs.length<1000 /\
 D.nx σ (upd H2 a (.ins C dx (cR f y fs)))
section
variable {X:Cx}{o e value:Expr}{f:Str}{pos pos' yT:Pos}{ta tv:TE}
theorem sE(he:PE X e ta)(hb:aev e f X.env (eval e X.env)=eval e X.env):PE X (.Attribute e f pos) (acu X.K ta f):=by
 intro pins s σ H Q I h;refine Iq hb (cB (he pins s σ H _ I h) λu s1 ⟨x,H1,I1,rx,a,C,dx,fs,v,ex,ea,c,n,l,q⟩=>?_);subst ex;obtain rfl:u=adw a:=rx;exact xT I1 ea c n l λu' s2 I2 ru=>⟨v,H1,I2,ru,q⟩
theorem sM(ha:PE X o ta)(hv:PE X value tv)(hs:swapsWith value (some (.Attribute o f pos')) pos.line X.env=pure false):PS X (.Assign [.Attribute o f pos'] value pos) (acr X.K ta tv f):=by
 intro pins s σ H D I h;refine plainObj_wpAny_Assign_Attribute (cB (hv pins s σ H _ I h) λu s1 ⟨y,H1,I1,ry,q⟩=>cB (ha pins s1 σ H1 _ I1 q) λov s2 ⟨x,H2,I2,rx,a,C,dx,fs,ex,ea,c,n,l,q2⟩=>?_) hs;subst ex;obtain rfl:ov=adw a:=rx;exact yB I2 ea c n l ry λs3 I3=>⟨σ,_,I3,q2⟩
def Kb:V->V->Hp->VK->Prop:=λx y H Q=>∃i j,x=.int i/\y=.int j/\Q (.int (i+j)) H
end
section
variable {X:Cx}{pins:List (Addr×Obj)}{σ:St}{H:Hp}{s:Shared}{A:Around}{E:Value->Shared->Prop}{Q:Value->Shared->Prop}{c:Value}{b:Bool}
inductive jv (K:acT)(H:Hp):V->Value->Prop where
 | aQ:jv K H .aQ (.type "NoneType")
 | bl (x:Bool):jv K H (.bl x) (.type "bool")
 | int (i:Int):jv K H (.int i) (.type "int")
 | str (x:Str):jv K H (.str x) (.type "str")
 | L0 (x:UInt64):jv K H (.L0 x) (.type "float")
 | lst {a:Addr} {xs:List V} (e:H a=some (.lst xs)):jv K H (.ref a) (.type "list")
 | qv {a:Addr} {o:Obj} {xs:List V} (e:H a=some (.qv o (.lst xs))):jv K H (.ref a) (.type "list")
 | tup {a:Addr} {xs:List V} (e:H a=some (.tup xs)):jv K H (.ref a) (.type "tuple")
 | dK {a:Addr} {kvs:List (Key×V)} (e:H a=some (.dK kvs)):jv K H (.ref a) (.type "dict")
 | dT {a:Addr} {kvs:List (List Key×V)} (e:H a=some (.dT kvs)):jv K H (.ref a) (.type "dict")
 | ins {a C dx:Addr} {fs:List (Str×V)} (e:H a=some (.ins C dx fs)) (cl:BW K C) (ha:PySem.W.findIn K (.ref C) "__class__"=some (some (.builtin "object.__class__")))
   (hn:PySem.W.specialIn K (.builtin "object.__class__") "__get__"=some (some (.builtin "getset_descriptor.__get__"))) (htk:PySem.W.takesIn K (.builtin "object.__class__")=some true)
   (hm:PySem.W.mroIn K C (.type "object")=some true):jv K H (.ref a) (.ref C)
theorem A6{x:V}{u t:Value}(I:Inv X pins σ H s)(rx:RelV x u)(ty:jv X.K H x t)(e:PySem.W.kitOne X.K t c=some b)(h:∀tk,Q (.bool b) {s with toks:=tk}):
  wpAny (model X.prog X.w) A (call (.builtin "isinstance") [u,c]) Q E s:=by
 cases ty with
 | aQ=>cases(show u=Value.none from rx);exact aeg PySem.W.kitx_none I.mH aeq e (λz=>nomatch z) h
 | bl y=>cases(show u=Value.bool y from rx);exact aeg PySem.W.kitx_bool I.mH aeq e (λz=>nomatch z) h
 | int i=>obtain⟨t,q⟩:=(show∃t,u=Value.int i t from rx);cases q;exact aeg PySem.W.kitx_int I.mH aeq e (λz=>nomatch z) h
 | str y=>obtain⟨t,q⟩:=(show∃t,u=Value.str y t from rx);cases q;exact aeg PySem.W.kitx_str I.mH aeq e (λz=>nomatch z) h
 | L0 y=>obtain⟨t,q⟩:=(show∃t,u=Value.float y t from rx);cases q;exact aeg PySem.W.kitx_float I.mH aeq e (λz=>nomatch z) h
 | @lst a xs ea =>
  cases(show u=adw a from rx)
  obtain⟨_,_,n,_,h1⟩:=(show bU X.prog X.w H s.heap a (.lst xs)from I.bI a _ ea)
  exact aeg PySem.W.kitx_list I.mH ⟨_,h1,rfl⟩ e (λz=>nomatch z) h
 | @qv a ob xs ea =>
  cases(show u=adw a from rx)
  obtain⟨_,_,_,n,_,h1⟩:=(show bU X.prog X.w H s.heap a (.qv ob (.lst xs))from I.bI a _ ea)
  exact aeg PySem.W.kitx_list I.mH ⟨_,h1,rfl⟩ e (λz=>nomatch z) h
 | @tup a xs ea =>
  cases(show u=adw a from rx)
  obtain⟨_,_,_,p⟩:=(show bU X.prog X.w H s.heap a (.tup xs)from I.bI a _ ea)
  obtain⟨o,h1,h2,_⟩:=p;exact aeg PySem.W.kitx_tuple I.mH ⟨o,h1,h2⟩ e (λz=>nomatch z) h
 | @dK a kvs ea =>
  cases(show u=adw a from rx)
  obtain⟨_,_,vs,_,p⟩:=(show bU X.prog X.w H s.heap a (.dK kvs)from I.bI a _ ea)
  obtain⟨o,es,ep,h1,h2,_⟩:=p;exact aeg PySem.W.kitx_dict I.mH ⟨o,h1,h2.1⟩ e (λz=>nomatch z) h
 | @dT a kvs ea =>
  cases(show u=adw a from rx)
  obtain⟨_,_,xs,_,o,es,ep,h1,h2,_⟩:=(show bU X.prog X.w H s.heap a (.dT kvs)from I.bI a _ ea)
  exact aeg PySem.W.kitx_dict I.mH ⟨o,h1,h2.1⟩ e (λz=>nomatch z) h
 | @ins a C dx fs ea cl ha hn htk hm =>
  cases(show u=adw a from rx)
  obtain⟨mA,O,_⟩:=ng I.bI ea;obtain⟨od,J,_⟩:=O.look;exact aeg (PySem.W.kitx_own (cl.get _) cl.hd ha hn htk hm) I.mH J e (λz=>nomatch z) h
end
end L2
namespace L2
open PySem PySem.Spec PyProof.Rows
structure ei(k:Nat)(A:Around):Prop where
 hd:A.handled=none
 dp:A.depth+3*k+5<recursionLimit
 un:A.units+16*k+200<cLine
theorem ei.mono{j k:Nat}{A:Around}(r:ei k A)(h:j<=k):ei j A:=⟨r.hd,by have:=r.dp;omega,by have:=r.un;omega⟩
theorem ei.deeper{k:Nat}{A:Around}(r:ei (k+1) A)(env:Env):ei k (A.deeper env):=
 ⟨r.hd,by have:=r.dp;show A.depth+1+3*k+5<_;omega,by have:=r.un;show A.units+3+16*k+200<_;omega⟩
theorem yg{A:Around}{C:Addr}{us:List Value}{kw:List (Str×Value)}:(A.under (.builtin "type.__call__" ⟨.ref C::us,kw⟩)).depth=A.depth+1:=by
 first|rfl|simp [Around.under,Code.weight,Code.isCreation,Code.isGuard,Code.isCaller,Code.frames,Code.isFrame,guardIds]
theorem yh{A:Around}{C:Addr}{us:List Value}{kw:List (Str×Value)}:(A.under (.builtin "type.__call__" ⟨.ref C::us,kw⟩)).units=A.units+1:=by
 first|rfl|simp [Around.under,Code.cUnits,Code.frames,Code.isFrame]
theorem ei.make{k:Nat}{A:Around}(r:ei (k+1) A)(C:Addr)(us:List Value)(kw:List (Str×Value)):ei k (A.under (.builtin "type.__call__" ⟨.ref C::us,kw⟩)):=
 ⟨r.hd,by have:=r.dp;rw[yg];omega,by have:=r.un;rw[yh];omega⟩
theorem ei.depth{k:Nat}{A:Around}(r:ei k A):A.depth<recursionLimit:=by have:=r.dp;omega
def kU:TA:=λ_ H Q=>Q [] H
def d3(ta:TE)(tr:TA):TA:=λσ H Q=>ta σ H λx H1=>tr σ H1 λxs H2=>Q (x::xs) H2
section
variable {X:Cx}{e:Expr}{es:List Expr}{te:TE}{t:TA}{pos:Pos}
theorem dW:PA X [] kU:=λ_ _ _ _ H Q I h=>Calls.spliced_nil ⟨[],H,I,.nil,h⟩
theorem b5(ha:PE X e te)(hr:PA X es t)(hs:acW (e::es) X.env=(false,eval e X.env)::acW es X.env:=by rfl):PA X (e::es) (d3 te t):=by
 intro pos pins s σ H Q I h;rw[hs];show wpAny _ _ (spliced ((false,eval e X.env)::backTo pos (acW es X.env))) _ _ s;refine Calls.spliced_cons (cB (ha pins s σ H _ I h) λu s1 ⟨x,H1,I1,r1,q1⟩=>?_);exact cB (hr pos pins s1 σ H1 _ I1 q1) λus s2 ⟨xs,H2,I2,r2,q2⟩=>⟨x::xs,H2,I2,.cons r1 r2,q2⟩
def VE(t:TA):TE:=λσ H Q=>t σ H λxs H1=>xs.length<=acZ/\∀p,H1 p=none->Q (.ref p) (upd H1 p (.tup xs))
def abe(t:TA):TE:=λσ H Q=>t σ H λxs H1=>xs.length<=acZ/\∀p,H1 p=none->Q (.ref p) (upd H1 p (.lst xs))
theorem FQ{x1}(h:PA X es t):PE X (.Tuple es x1 pos) (VE t):=by
 intro pins s σ H Q I hq;refine wpAny_Tuple_spliced (cB (h pos pins s σ H _ I hq) λus s1 ⟨xs,H1,I1,r,z,q⟩=>⟨by rw[<- r.length];exact z,?_⟩)
 have hf:H1 s1.heap.objs.size=none:=I1.bI.fresh (acS _);refine⟨.ref s1.heap.objs.size,upd H1 s1.heap.objs.size (.tup xs),I1.laid (t':=s1.toks) (λb u e=>acM _ e) (acS _) ?_,rfl,q _ hf⟩;exact⟨z,us,r,⟨_,ada _ rfl,rfl,_,rfl⟩⟩
theorem sG(h:PA X es t):PE X (.List es pos) (abe t):=by
 intro pins s σ H Q I hq;refine wpAny_List_spliced (cB (h pos pins s σ H _ I hq) λus s1 ⟨xs,H1,I1,r,z,q⟩=>⟨by rw[<- r.length];exact z,?_⟩)
 have hf:H1 s1.heap.objs.size=none:=I1.bI.fresh (acS _);refine⟨.ref s1.heap.objs.size,upd H1 s1.heap.objs.size (.lst xs),I1.laid (t':=s1.toks) (λb u e=>acM _ e) (acS _) ?_,rfl,q _ hf⟩;exact⟨z,us,0,r,ada _ rfl⟩
end
abbrev Sp:=List V->Hp->VK->XK->Prop
abbrev Az:=List Env->Hp->Shared->XK->Value->Shared->Prop
structure xv(P:adv)(w:World)(K:acT)(mg:Str->Option Value)(base:Heap)(A:Around)(outer:List Env)(s:Shared)(H:Hp):Prop where
 frames:A.frames=some outer
 mod:Mod K mg base
 bs:∀b o,base.get? b=some o->s.heap.get? b=some o/\H b=none
 CJ:base.objs.size<=s.heap.objs.size
 lx:s.heap.FunFrames base outer
 L4:∀b∈Ek outer,H b=none
 bI:ik P w H s.heap
 bare:AllBare s.gens
def CE(outer:List Env)(P:adv)(w:World)(H:Hp)(s:Shared)(Q:VK)(u:Value)(s':Shared):Prop:=
 ∃v H',s'.os=s.os/\AllBare s'.gens/\Un (Ek outer) [] H H' s.heap s'.heap/\ik P w H' s'.heap/\RelV v u/\Q v H'
def CR(CX:Az)(outer:List Env)(P:adv)(w:World)(H:Hp)(s:Shared)(Q:VK)(E:XK)(r:Result)(s':Shared):Prop:=
 match r with
 | .ok (.ret u)=>CE outer P w H s Q u s'
 | .ok _=>False
 | .error e=>CX outer H s E e s'
structure cf(P:adv)(w:World)(K:acT)(mg:Str->Option Value)(base:Heap)(CX:Az)(k:Nat)(f:Addr)(fd:adf)(ps:List Str)(sp:Sp):Prop where
 len:∀vs H Q E,sp vs H Q E->vs.length=ps.length
 run:∀(A:Around) (outer:List Env) (s:Shared) (H:Hp) (args:Args) (us:List Value) (vs:List V) (Q:VK) (E:XK),ei k A->xv P w K mg base A outer s H->BindsTo s fd args (ps.zip us)->Vals vs us->sp vs H Q E ->
  codeAny (model P w) A (.call (.ref f) args) (CR CX outer P w H s Q E) s
theorem cf.mono{P:adv}{w:World}{K:acT}{mg:Str->Option Value}{base:Heap}{CX:Az}{j k:Nat}{f:Addr}{fd:adf}{ps:List Str}{sp:Sp}(F:cf P w K mg base CX j f fd ps sp)(h:j<=k):
  cf P w K mg base CX k f fd ps sp:=⟨F.len,λA outer s H args us vs Q E hr=>F.run A outer s H args us vs Q E (hr.mono h)⟩
theorem cf.imp{P:adv}{w:World}{K:acT}{mg:Str->Option Value}{base:Heap}{CX:Az}{k:Nat}{f:Addr}{fd:adf}{ps:List Str}{sp sp':Sp}(F:cf P w K mg base CX k f fd ps sp)
  (h:∀vs H Q E,sp' vs H Q E->sp vs H Q E):cf P w K mg base CX k f fd ps sp':=
 ⟨λvs H Q E q=>F.len vs H Q E (h _ _ _ _ q),λA outer s H args us vs Q E hr he hb hv hs=>F.run A outer s H args us vs Q E hr he hb hv (h _ _ _ _ hs)⟩
theorem xv.make{P:adv}{w:World}{K:acT}{mg:Str->Option Value}{base:Heap}{A:Around}{outer:List Env}{s:Shared}{H:Hp}(e:xv P w K mg base A outer s H)(C:Addr)(us:List Value)(kw:List (Str×Value)):
  xv P w K mg base (A.under (.builtin "type.__call__" ⟨.ref C::us,kw⟩)) outer s H:=⟨by first|exact e.frames | (simpa [Around.under,Code.envs,Code.isFrame,pushEnvs]using e.frames),e.mod,e.bs,e.CJ,e.lx,e.L4,e.bI,e.bare⟩
section
variable {X:Cx}{pins:List (Addr×Obj)}{σ:St}{H:Hp}{s s':Shared}
theorem Inv.Yg(I:Inv X pins σ H s):xv X.prog X.w X.K X.mg X.base X.A X.stack s H:=
 ⟨I.ok.frames,I.ok.mod,I.bs,adq I.ok.CJ I.sz,I.stack,I.Av,I.bI,I.bare⟩
theorem Inv.after{Q:VK}{u:Value}(I:Inv X pins σ H s)(h:CE X.stack X.prog X.w H s Q u s'):EP X pins σ Q u s':=by
 obtain⟨v,H',os,bare,un,bI,r,q⟩:=h;obtain⟨hh,g,d,t,os'⟩:=s';obtain rfl:os'=s.os:=os;exact⟨v,H',I.call (h':=hh) (g':=g) (d':=d) (t':=t) (ch:=[]) un bI bare (λb z=>absurd z (by simp)),r,q⟩
end
def aa8(sp:Sp)(dvs:List V)(E:XK)(t:TA):TE:=λσ H Q=>t σ H λvs H1=>sp (vs++dvs) H1 Q E
def qT(C:Addr)(m:Str)(sp:Sp)(dvs:List V)(E:XK)(ta:TE)(t:TA):TE:=λσ H Q=>ta σ H λx H1=>∃a dx fs,x=.ref a/\H1 a=some (.ins C dx fs)/\fs.lookup m=none /\
 t σ H1 λvs H2=>sp (x::(vs++dvs)) H2 Q E
def abf(C:Addr)(sp:Sp)(dvs:List V)(E:XK)(t:TA):TE:=λσ H Q=>t σ H λvs H1=>∀x dx,H1 x=none->H1 dx=none->dx≠x ->
 sp (.ref x::(vs++dvs)) (upd (upd H1 dx (.own x)) x (.ins C dx [])) (λv H2=>v=.aQ/\Q (.ref x) H2) E
def Binds(K:acT)(fd:adf)(ps:List Str)(ds:List Value):Prop:=
 ∀(s:Shared) (us:List Value),K.In s.heap->(us++ds).length=ps.length->BindsTo s fd ⟨us,[]⟩ (ps.zip (us++ds))
theorem Binds.all{K:acT}{fd:adf}{ps:List Str}(h:∀us:List Value,us.length=ps.length->bindArgs fd ⟨us,[]⟩=pure (ps.zip us)):Binds K fd ps []:=λs us _ hl=>by
 rw[adH]at hl ⊢;exact .of_eq (h us hl)
def Passes(CX:Az)(X:Cx)(E:XK):Prop:=∀(pins:List (Addr×Obj)) (σ:St) (H:Hp) (s:Shared) (e:Value) (s':Shared),Inv X pins σ H s->CX X.stack H s E e s'->X.xe e s'
section
variable {X:Cx}{CX:Az}{k:Nat}{f C:Addr}{fd:adf}{ps:List Str}{sp:Sp}{dvs:List V}{ds:List Value}{E:XK}{x m:Str}{p pos apos:Pos}{e o:Expr}{es:List Expr}{ta:TE}{t:TA}
theorem yy{pins:List (Addr×Obj)}{σ:St}{H:Hp}{s:Shared}{Q:VK}{us:List Value}{vs:List V}(F:cf X.prog X.w X.K X.mg X.base CX k f fd ps sp)(hr:ei k X.A)(hb:Binds X.K fd ps ds)(hd:Vals dvs ds)(hx:Passes CX X E)
  (I:Inv X pins σ H s) (r:Vals vs us) (h:sp (vs++dvs) H Q E):wpAny (model X.prog X.w) X.A (call (.ref f) us) (EP X pins σ Q) X.xe s:=by
 have r2:Vals (vs++dvs) (us++ds):=r.append hd;have hl:(us++ds).length=ps.length:=by rw[<- r2.length];exact F.len _ _ _ _ h
 refine wpAny_call (codeAny_mono (F.run X.A X.stack s H ⟨us,[]⟩ (us++ds) (vs++dvs) Q E hr I.Yg (hb s us I.mH hl) r2 h) λr s' hq=>?_);cases r with
 | error e=>exact hx pins σ H s e s' I hq
 | ok fl =>
  cases fl with
  | ret u=>exact I.after hq
  | next=>exact aez hq
  | brk=>exact aez hq
  | cont=>exact aez hq
theorem jP(F:cf X.prog X.w X.K X.mg X.base CX k f fd ps sp)(hr:ei k X.A)(hg:Gl X x)(hm:X.mg x=some (.ref f))(hk:PySem.W.keepIn X.K (.ref f)=true)(hb:Binds X.K fd ps ds)(hd:Vals dvs ds)(hx:Passes CX X E)
  (ha:PA X (e::es) t) (jE:(x==("__debug__":Str))=false:=by decide) (he:acW (e::es) X.env=(false,eval e X.env)::acW es X.env:=by rfl) (dJ:(backTo pos (acW es X.env)).any (·.1)=false:=by rfl):
  PE X (.Call (.Name x p) (e::es) [] pos) (aa8 sp dvs E t):=by
 intro pins s σ H Q I h;refine wpAny_Call_Name_kw (su I hg hm ?_ jE);refine PySem.W.callWith_K (h₀:=X.base) I.ok.mod.Fl hk (cB (ha pos pins s σ H _ I h) λus s1 ⟨vs,H1,I1,r,q⟩=>⟨I1.mH,?_⟩) he dJ;exact yy F hr hb hd hx I1 r q
theorem Aa{pl:Sem Bool}(he:PE X o ta)(c:BW X.K C)(hm:Meth X.K C m f)(F:cf X.prog X.w X.K X.mg X.base CX k f fd ps sp)(hr:ei k X.A)(hb:Binds X.K fd ps ds)(hd:Vals dvs ds)(hx:Passes CX X E)(ha:PA X (e::es) t)
  (Fc:acW (e::es) X.env=(false,eval e X.env)::acW es X.env:=by rfl) (dJ:(backTo pos (acW es X.env)).any (·.1)=false:=by rfl)
  (ht:eval (.Call (.Attribute o m apos) (e::es) [] pos) X.env=(do
   let ov <- eval o X.env
   standAt apos.atName
   let (f,first) <- holding [ov] (getMethod ov m pl)
   callWith pos f first (backTo pos (acW (e::es) X.env)) (backToKw pos (aeB [] X.env))):=by rfl):
  PE X (.Call (.Attribute o m apos) (e::es) [] pos) (qT C m sp dvs E ta t):=by
 intro pins s σ H Q I h;refine PySem.W.methodCall_KW (pl:=pl) (cB (he pins s σ H _ I h) λu s1 ⟨x,H1,I1,rx,a,dx,fs,ex,ea,l,q⟩=>?_) ht;subst ex;obtain rfl:u=adw a:=rx;refine nW I1 ea c hm l ?_;refine PySem.W.callWith_K (first:=[.ref a]) (h₀:=X.base) I.ok.mod.Fl hm.kp (cB (ha pos pins s1 σ H1 _ I1 q) λus s2 ⟨vs,H2,I2,r,q2⟩=>⟨I2.mH,?_⟩) Fc dJ
 exact yy (us:=.ref a::us) (vs:=.ref a::vs) F hr hb hd hx I2 (.cons rfl r) q2
theorem wu{pl:Sem Bool}(he:PE X o ta)(c:BW X.K C)(hm:Meth X.K C m f)(F:cf X.prog X.w X.K X.mg X.base CX k f fd ps sp)(hr:ei k X.A)(hb:Binds X.K fd ps ds)(hd:Vals dvs ds)(hx:Passes CX X E)
  (ht:eval (.Call (.Attribute o m apos) [] [] pos) X.env=(do
   let ov <- eval o X.env
   standAt apos.atName
   let (f,first) <- holding [ov] (getMethod ov m pl)
   callWith pos f first (backTo pos (acW [] X.env)) (backToKw pos (aeB [] X.env))):=by rfl):
  PE X (.Call (.Attribute o m apos) [] [] pos) (qT C m sp dvs E ta kU):=by
 intro pins s σ H Q I h;refine PySem.W.methodCall_KW (pl:=pl) (cB (he pins s σ H _ I h) λu s1 ⟨x,H1,I1,rx,a,dx,fs,ex,ea,l,q⟩=>?_) ht;subst ex;obtain rfl:u=adw a:=rx;refine nW I1 ea c hm l ?_;exact PySem.W.callWith_K0 (first:=[.ref a]) I1.mH hm.kp (yy (us:=[.ref a]) (vs:=[.ref a]) F hr hb hd hx I1 (.cons rfl .nil) q)
structure Mk(K:acT)(C f:Addr):Prop where
 makes:PySem.W.makesIn K C=true
 init:PySem.W.findIn K (.ref C) "__init__"=some (some (.ref f))
 fn:PySem.W.isFn K (.ref f)=true
 kp:PySem.W.keepIn K (.ref C)=true
theorem Gx{pins:List (Addr×Obj)}{σ:St}{H:Hp}{s:Shared}{Q:VK}{us:List Value}{vs:List V}(M:Mk X.K C f)(F:cf X.prog X.w X.K X.mg X.base CX k f fd ps sp)(hr:ei (k+1) X.A)(hb:Binds X.K fd ps ds)(hd:Vals dvs ds)
  (hx:Passes CX X E) (I:Inv X pins σ H s) (r:Vals vs us)
  (h:∀x dx,H x=none->H dx=none->dx≠x->sp (.ref x::(vs++dvs)) (upd (upd H dx (.own x)) x (.ins C dx [])) (λv H2=>v=.aQ/\Q (.ref x) H2) E):
  wpAny (model X.prog X.w) X.A (call (.ref C) us) (EP X pins σ Q) X.xe s:=by
 have hq:=h (s.heap.objs.size+1) s.heap.objs.size (I.bI.fresh (Nat.le_succ _)) (I.bI.fresh (acS _)) (adB (Nat.lt_succ_self _));have I2:=Inv.made (C:=C) I;have r2:Vals (V.ref (s.heap.objs.size+1)::(vs++dvs)) (adw (s.heap.objs.size+1)::(us++ds)):=.cons rfl (r.append hd);have hl:(adw (s.heap.objs.size+1)::us++ds).length=ps.length:=by
  have e:=r2.length;rw[F.len _ _ _ _ hq]at e;exact e.symm
 refine wpAny_call (Fu (f:=f) I.mH M.makes M.init (beq_iff_eq.mp M.fn) (codeAny_mono (F.run _ X.stack _ _ ⟨adw (s.heap.objs.size+1)::us,[]⟩ (adw (s.heap.objs.size+1)::(us++ds)) _ _ E (hr.make C us [])
  (I2.Yg.make C us []) (hb _ (adw (s.heap.objs.size+1)::us) I2.mH hl) r2 hq) λr s' Y3=>?_))
 cases r with
 | error e=>exact hx pins σ _ _ e s' I2 Y3
 | ok fl =>
  cases fl with
  | ret u =>
   obtain⟨v,H',I3,rv,ev,q3⟩:=I2.after Y3;subst ev;exact⟨rv,⟨V.ref (s.heap.objs.size+1),H',I3,rfl,q3⟩⟩
  | next=>exact aez Y3
  | brk=>exact aez Y3
  | cont=>exact aez Y3
theorem JZ(M:Mk X.K C f)(F:cf X.prog X.w X.K X.mg X.base CX k f fd ps sp)(hr:ei (k+1) X.A)(hg:Gl X x)(hm:X.mg x=some (.ref C))(hb:Binds X.K fd ps ds)(hd:Vals dvs ds)(hx:Passes CX X E)
  (ha:PA X (e::es) t) (jE:(x==("__debug__":Str))=false:=by decide) (he:acW (e::es) X.env=(false,eval e X.env)::acW es X.env:=by rfl) (dJ:(backTo pos (acW es X.env)).any (·.1)=false:=by rfl):
  PE X (.Call (.Name x p) (e::es) [] pos) (abf C sp dvs E t):=by
 intro pins s σ H Q I h;refine wpAny_Call_Name_kw (su I hg hm ?_ jE);refine PySem.W.callWith_K (h₀:=X.base) I.ok.mod.Fl M.kp (cB (ha pos pins s σ H _ I h) λus s1 ⟨vs,H1,I1,r,q⟩=>⟨I1.mH,?_⟩) he dJ;exact Gx M F hr hb hd hx I1 r q
end
def PK(X:Cx)(Zr:List Keyword)(t:TA):Prop:=
 ∀(pos:Pos) (pins:List (Addr×Obj)) (s:Shared) (σ:St) (H:Hp) (Q:List V->Hp->Prop),Inv X pins σ H s->t σ H Q->wpAny (model X.prog X.w) X.A (evalAll ((backToKw pos (aeB Zr X.env)).map (·.2))) (AP X pins σ Q) X.xe s
section
variable {X:Cx}{CX:Az}{k:Nat}{f C:Addr}{fd:adf}{ps ks:List Str}{sp:Sp}{E:XK}{x m:Str}{p pos apos ab7:Pos}{e o:Expr}{es:List Expr}{Zr:List Keyword}{te ta:TE}{t tk:TA}{nm:Option Str}
theorem Tz:PK X [] kU:=λ_ _ _ _ H Q I h=>wpAny_evalAll_nil ⟨[],H,I,.nil,h⟩
theorem J5(ha:PE X e te)(hr:PK X Zr t):PK X (⟨nm,e,ab7⟩::Zr) (d3 te t):=by
 intro pos pins s σ H Q I h;show wpAny _ _ (evalAll ((do let v <- eval e X.env;standAt pos;pure v)::(backToKw pos (aeB Zr X.env)).map (·.2))) _ _ s
 refine wpAny_evalAll_cons (acL (cB (ha pins s σ H _ I h) λu s1 ⟨x,H1,I1,r1,q1⟩=>acL (wpAny_standAt (acP ?_))));exact cB (hr pos pins s1 σ H1 _ I1 q1) λus s2 ⟨xs,H2,I2,r2,q2⟩=>⟨x::xs,H2,I2,.cons r1 r2,q2⟩
variable {g:List Value->List Value->List Value}{gV:List V->List V->List V}
end
structure aB(N P:List Str)(sc:Scope):Prop where
 kind:sc.kind=.function
 co:sc.isCoroutine=false
 gen:sc.isGenerator=false
 nd:N.Nodup
 pre:N.take P.length=P
 par:∀x∈P,sc.names.lookup x=some .local\/sc.names.lookup x=some .cell
 Ru:∀y∈sc.names,y.2≠.free
theorem pY{kindOf:Str->Option adL}{x:Str}:∀ {binds:List (Str×Value)} {m:Str->Option Value},(∀v,(x,v)∉binds)->bindL kindOf binds m x=m x
 | [],_,_=>rfl
 | (n,v)::r,m,h=>by
  unfold bindL;rw[pY λw hw=>h w (acQ _ hw)]
  split
  ·have:x≠n:=by rintro rfl;exact h v acX
   simp [this]
  ·rfl
theorem pW{kindOf:Str->Option adL}{x:Str}:∀ {binds:List (Str×Value)} {m:Str->Option Value},(∀v,(x,v)∉binds)->bindC kindOf binds m x=m x
 | [],_,_=>rfl
 | (n,v)::r,m,h=>by
  unfold bindC;rw[pW λw hw=>h w (acQ _ hw)]
  split
  ·rfl
  ·have:x≠n:=by rintro rfl;exact h v acX
   simp [this]
theorem pX{kindOf:Str->Option adL}{x:Str}{v:Value}:∀ {P:List Str} {vs:List Value} {i:Nat} {m:Str->Option Value},P.Nodup->P[i]?=some x->vs[i]?=some v->kindOf x=some .local ->
  bindL kindOf (P.zip vs) m x=some v
 | [],_,_,_,_,h,_,_=>by simp at h
 | _::_,[],_,_,_,_,h,_=>by simp at h
 | p::P,w::vs,0,m,nd,h1,h2,hk=>by
  simp at h1 h2;subst h1;subst h2;show bindL kindOf ((p,w)::P.zip vs) m p=_;unfold bindL;rw[pY λv hv=>(adV.mp nd).1 (List.of_mem_zip hv).1,if_pos hk];simp
 | p::P,w::vs,i+1,m,nd,h1,h2,hk=>by
  show bindL kindOf ((p,w)::P.zip vs) m x=_;unfold bindL;exact pX (i:=i) (adV.mp nd).2 (by simpa using h1) (by simpa using h2) hk
theorem pV{kindOf:Str->Option adL}{x:Str}{v:Value}:∀ {P:List Str} {vs:List Value} {i:Nat} {m:Str->Option Value},P.Nodup->P[i]?=some x->vs[i]?=some v->kindOf x≠some .local ->
  bindC kindOf (P.zip vs) m x=some v
 | [],_,_,_,_,h,_,_=>by simp at h
 | _::_,[],_,_,_,_,h,_=>by simp at h
 | p::P,w::vs,0,m,nd,h1,h2,hk=>by
  simp at h1 h2;subst h1;subst h2;show bindC kindOf ((p,w)::P.zip vs) m p=_;unfold bindC;rw[pW λv hv=>(adV.mp nd).1 (List.of_mem_zip hv).1,if_neg hk];simp
 | p::P,w::vs,i+1,m,nd,h1,h2,hk=>by
  show bindC kindOf ((p,w)::P.zip vs) m x=_;unfold bindC;exact pV (i:=i) (adV.mp nd).2 (by simpa using h1) (by simpa using h2) hk
def start(N:List Str)(vs:List V):St:=vs.map some++adl (N.length-vs.length) none
def nO(CX:Az)(P:adv)(w:World)(K:acT)(mg:Str->Option Value)(base:Heap)(N:List Str)(qual:Str)(scope:Scope)(f:Addr)(cd:Value)(A:Around)(outer:List Env)(s:Shared)(H:Hp)(E:XK):Cx where
 prog:=P
 w:=w
 K:=K
 mg:=mg
 base:=base
 A:=A.deeper (envOfC qual scope s.heap.objs.size f cd)
 N:=N
 c5:=s
 xC:=H
 env:=envOfC qual scope s.heap.objs.size f cd
 outer:=outer
 stack:=envOfC qual scope s.heap.objs.size f cd::outer
 ex:=[]
 calm:=true
 fn:=λ_=>true
 pn:=[]
 xe:=λe s'=>wpAny (model P w) (A.deeper (envOfC qual scope s.heap.objs.size f cd)) (leaving (envOfC qual scope s.heap.objs.size f cd) e) (λ_ s''=>CX outer H s E e s'') (λe' s''=>CX outer H s E e' s'') s'
theorem uL{sc:Scope}{n:Nat}{x:Str}(h:sc.names.lookup x=some .cell):∃c,(cellsFrom n sc.names []).lookup x=some c:=by
 have q:=PySem.W.cellsFrom_some sc.names n [] (.inl h);exact Option.isSome_iff_exists.mp q
theorem A5{CX:Az}{P:adv}{w:World}{K:acT}{mg:Str->Option Value}{base:Heap}{N ps:List Str}{qual:Str}{scope:Scope}{f:Addr}{cd:Value}{A:Around}{outer:List Env}{s s1:Shared}{H:Hp}{E:XK}{us:List Value}{vs:List V}
  (S:aB N ps scope) (hd:A.handled=none) (e0:xv P w K mg base A outer s H) (hl:vs.length=ps.length) (r:Vals vs us)
  (x:InCallC s s.heap.objs.size (bindL (envOfC qual scope s.heap.objs.size f cd).kindOf (ps.zip us) λ_=>none) (cellsFrom (s.heap.objs.size+1) scope.names []) (bindC (envOfC qual scope s.heap.objs.size f cd).kindOf (ps.zip us) λ_=>none) s1):
  Inv (nO CX P w K mg base N qual scope f cd A outer s H E) [] (start N vs) H s1:=by
 have dJ:ps.length<=N.length:=by have:=congrArg List.length S.pre;rw[aei]at this;omega
 obtain⟨h1,tk,rfl,hk⟩:=x.done;have ZA:∀b:Addr,b∉(nO CX P w K mg base N qual scope f cd A outer s H E).ex:=λb z=>absurd (show b∈([]:List Addr)from z) (by simp)
 refine⟨⟨e0.mod,S.kind,rfl,rfl,acS _,λy z c h1 h2=>?_,λy hy=>?_,λy c _ h=>?_,λ_=>hd,Around.frames_deeper e0.frames,.inr ⟨rfl,rfl⟩,λb z=>absurd z (ZA b),e0.bs,e0.CJ,λb _ _=>ZA b,λb z=>absurd z (ZA b),e0.lx,e0.L4⟩,
  rfl,e0.bare,Un.kept hk,⟨_,x.toInCall.ns,λi y v h1 h2 h3=>?_⟩,λy c h=>⟨_,x.cell y c h⟩,e0.bI.fresh (acS _),λy c h=>?_,λp hp=>absurd (show p∈([]:List (Addr×Obj))from hp) (by simp),e0.bI.kept hk,?_⟩
 ·exact name_of_addr x.apart (ad7 h1) (ad7 h2)
 ·have hy:scope.names.lookup y=some .cell\/scope.names.lookup y=some .free:=hy
  rcases hy with hy|hy
  ·exact uL hy
  ·exact absurd rfl (S.Ru _ (ad7 hy))
 ·exact adU (x.above y c (ad7 h))
 ·have hi:i<vs.length:=by
   unfold start at h2
   by_cases hi:i<vs.length
   ·exact hi
   ·rw[adW (by simpa using hi)]at h2
    rw[List.getElem?_replicate]at h2
    split at h2<;>cases h2
  have ha:vs[i]?=some v:=by
   unfold start at h2;rw[aen (by simpa using hi),ac0]at h2
   cases e:vs[i]? with
   | none=>rw[e]at h2;cases h2
   | some a=>rw[e]at h2;cases h2;rfl
  obtain⟨u,hu,rv⟩:=r.get ha;have hp:ps[i]?=some y:=by
   rw[<- S.pre,List.getElem?_take_of_lt ⋯];exact h1
  have ndP:ps.Nodup:=by rw[<- S.pre];exact S.nd.sublist (List.take_sublist _ _)
  refine⟨u,rv,?_⟩;rcases S.par y (ady hp)with k|k
  ·exact .inl ⟨k,pX ndP hp hu k⟩
  ·obtain⟨c,e⟩:=uL (n:=s.heap.objs.size+1) k
   refine .inr ⟨.inl k,c,e,?_⟩;have q:=x.cell y c e;rw[pV ndP hp hu (by show scope.names.lookup y≠_;rw[k];decide)]at q
   exact q
 ·exact e0.bI.fresh (adU (x.above y c (ad7 h)))
 ·unfold start
  show _=N.length;rw[adt,acO,List.length_replicate];omega
theorem Yu{CX:Az}{P:adv}{w:World}{K:acT}{mg:Str->Option Value}{base:Heap}{k:Nat}{f:Addr}{name qual:Str}{params:Arguments}{body:List Stmt}{scope:Scope}{dV kV doc pm iu ct oc:Value}{an od:Option Addr}
  {JP:Array (Option Value)} {N ps:List Str} {sp:Sp} (lk:K.lookup f=some ⟨oc,od,.func (PySem.W.fnOf name qual params body scope dV kV doc pm an iu ct),JP⟩) (ly:PySem.W.codeIn K iu qual=true) (S:aB N ps scope)
  (len:∀vs H Q E,sp vs H Q E->vs.length=ps.length)
  (EZ:∀(A:Around) (outer:List Env) (s:Shared) (H:Hp) (vs:List V) (Q:VK) (E:XK),ei k (A.deeper (envOfC qual scope s.heap.objs.size f iu))->sp vs H Q E ->
   ∃t,rh (nO CX P w K mg base N qual scope f iu A outer s H E) body t/\t {nx:=λ_ H'=>Q .aQ H',rt:=Q} (start N vs) H):
  cf P w K mg base CX (k+1) f (PySem.W.fnOf name qual params body scope dV kV doc pm an iu ct) ps sp:=by
 refine⟨len,λA outer s H args us vs Q E hr e0 hb r Mg=>?_⟩;have hl:=len _ _ _ _ Mg;have KX:K.In s.heap:=e0.mod.Fl.keeps λb o e=>(e0.bs b o e).1;have lim:s.heap.NoLimit:=e0.mod.nolimit.keeps λb o e=>(e0.bs b o e).1;have YS:∀y∈ps.zip us,scope.names.lookup y.1=some .local\/(scope.names.lookup y.1=some .cell/\((cellsFrom (s.heap.objs.size+1) scope.names []).lookup y.1).isSome=true):=λ⟨n,v⟩ hy=>by
  rcases S.par n (List.of_mem_zip hy).1 with q|q
  ·exact .inl q
  ·exact .inr ⟨q,PySem.W.cellsFrom_some _ _ _ (.inl q)⟩
 refine codeAny_call_function hr.depth (KX _ _ lk) rfl S.co S.gen rfl (PySem.W.codeRec_of KX ly) (hb _ _ _ _ ?_);refine wpAny_newFunctionEnv_cells S.kind YS λenv he s1 x=>?_;subst he;refine⟨lim.keeps x.toInCall.keep,codeAny_func ?_⟩;obtain⟨t,ht,hq⟩:=EZ A outer s H vs Q E (hr.deeper _) Mg;have I:Inv (nO CX P w K mg base N qual scope f iu A outer s H E) [] (start N vs) H s1:=A5 S hr.hd e0 hl r x;refine wpAny_mono (ht [] s1 (start N vs) H _ I hq) (λfl s' hs=>?_) λe s' hs=>hs;have fin:∀ {b8:St} {H':Hp} {v:V} {u:Value},Inv (nO CX P w K mg base N qual scope f iu A outer s H E) [] b8 H' s'->RelV v u->Q v H'->CE outer P w H s Q u s':=
  λ{b8 H' v u} J rv q=>⟨v,H',J.os,J.bare,J.base,J.bI,rv,q⟩
 cases fl with
 | ret u =>
  obtain⟨v,b8,H',J,rv,q⟩:=hs;exact fin J rv q
 | next =>
  obtain⟨b8,H',J,q⟩:=hs;exact fin (v:=V.aQ) (u:=Value.none) J rfl q
 | brk =>
  obtain⟨_,_,_,q⟩:=hs;exact aez q
 | cont =>
  obtain⟨_,_,_,q⟩:=hs;exact aez q
end L2
namespace L2
open PySem PySem.Spec PyProof.Rows
section
variable {X:Cx}{x:Str}{p pos:Pos}{e:Expr}{es:List Expr}{t:TA}{id T:String}{r:List V->Hp->VK->Prop}
def tCB(r:List V->Hp->VK->Prop)(t:TA):TE:=λσ H Q=>t σ H λvs H1=>r vs H1 Q
theorem oG(hc:cU X (.builtin id) r)(hg:Gl X x)(hm:X.mg x=none)(hv:bootBuiltins x=some (.builtin id))(ha:PA X (e::es) t)(hn:x≠"__name__":=by decide)(jE:(x==("__debug__":Str))=false:=by decide)
  (he:acW (e::es) X.env=(false,eval e X.env)::acW es X.env:=by rfl) (dJ:(backTo pos (acW es X.env)).any (·.1)=false:=by rfl):PE X (.Call (.Name x p) (e::es) [] pos) (tCB r t):=by
 intro pins s σ H Q I h;refine wpAny_Call_Name_kw (jj I hg hm hv ?_ hn jE);exact PyProof.Rows.callWith_builtin1 (cB (ha pos pins s σ H _ I h) λus s1 ⟨vs,H1,I1,r1,q1⟩=>hc pins s1 σ H1 vs us Q I1 r1 q1) he dJ
theorem Bv(hc:cU X (.type T) r)(hg:Gl X x)(hm:X.mg x=none)(hv:bootBuiltins x=some (.type T))(ha:PA X (e::es) t)(hn:x≠"__name__":=by decide)(jE:(x==("__debug__":Str))=false:=by decide)
  (he:acW (e::es) X.env=(false,eval e X.env)::acW es X.env:=by rfl) (dJ:(backTo pos (acW es X.env)).any (·.1)=false:=by rfl):PE X (.Call (.Name x p) (e::es) [] pos) (tCB r t):=by
 intro pins s σ H Q I h;refine wpAny_Call_Name_kw (jj I hg hm hv ?_ hn jE);exact PyProof.Rows.callWith_type1 (cB (ha pos pins s σ H _ I h) λus s1 ⟨vs,H1,I1,r1,q1⟩=>hc pins s1 σ H1 vs us Q I1 r1 q1) he dJ
end
end L2
namespace HT
open PySem PyProof.Rows
def lexLt:List Int->List Int->Bool
 | [],[]=>false
 | [],_::_=>true
 | _::_,[]=>false
 | x::xs,y::ys=>if x=y then lexLt xs ys else decide (x<y)
theorem bZ(x y:Int)(xs ys:List Int):lexLt (x::xs) (y::ys)=if x=y then lexLt xs ys else decide (x<y):=rfl
theorem pH:lexLt [] []=false:=rfl
theorem gS(y:Int)(ys:List Int):lexLt [] (y::ys)=true:=rfl
theorem gR(x:Int)(xs:List Int):lexLt (x::xs) []=false:=rfl
theorem D3(A:Around)(s:Shared)(a:Int)(t:Tok)(c:Int)(u:Tok):∃e,SeqAt.EqAt A s (.int a t) (.int c u) e/\(e=true ↔ a=c):=
 ⟨(a==c),SeqAt.EqAt.int_int a t c u,by simp⟩
theorem Gr(A:Around)(s:Shared)(a:Int)(t:Tok)(c:Int)(u:Tok)(prog:adv)(w:World)(E:Value->Shared->Prop)(Q:Value->Shared->Prop)(h:Q (.bool (decide (a<c))) s):
  wpAny (model prog w) A (richCompare .Lt (.int a t) (.int c u)) Q E s:=
 (PyProof.Rows.lt_int h:wpAny (model prog w) A (aek .Lt (.int a t) (.int c u)) Q E s)
section
open PySem.SeqAt
open PySem.AutoSeq1 (wpAny_loadPart')
open PySem.MeetsSeq PySem.MeetsSeq2 PySem.MeetsSeq3
theorem pP(l b:Addr)(items fh:Array Value)(n n2:Nat)(dd V9:Option Addr)(sl Wu:Array (Option Value))(ns ms:List Int)(hi:IntsAre items.toList ns)(hj:IntsAre fh.toList ms):
  Meets (Builtin.«tuple.__lt__» ⟨[.ref l,.ref b],[]⟩)
   (λ_ R s=>s.heap.get? l=some {cls:=.type "tuple",dict:=dd,data:=.seq items n,slots:=sl}/\s.heap.get? b=some {cls:=.type "tuple",dict:=V9,data:=.seq fh n2,slots:=Wu} /\
    R (.ok (.ret (.bool (lexLt ns ms)))) s):=
 .of_wp λprog w A R s h=>by
  obtain⟨hp,g,d,tk,os⟩:=s;obtain⟨hl,hb,h⟩:=h;have f2:=AutoSeq1.sub_tuple_tuple;have z1:items.size=ns.length:=by rw[<- hi.length];simp
  have z2:fh.size=ms.length:=by rw[<- hj.length];simp
  wp_walk using wpAny_loadPart' hl,wpAny_loadPart' hb,wpAny_forIn_list _ (λrest b s'=>b.1=none/\s'=⟨hp,g,d,tk,os⟩/\∃(vs ws:List Value) (Ws HR:List Int),rest=vs.zip ws /\
   IntsAre vs Ws/\IntsAre ws HR/\Ws.length+fh.size=HR.length+items.size/\R (.ok (.ret (.bool (lexLt Ws HR)))) ⟨hp,g,d,tk,os⟩) _
  case turn =>
   rintro⟨y,x⟩ rest b s' ⟨L6,rfl,vs,ws,Ws,HR,hz,hvi,hwi,hlen,hR⟩;cases hvi with
   | nil=>rw[List.zip_nil_left]at hz;cases hz
   | cons a t ab1 =>
    cases hwi with
    | nil=>rw[List.zip_nil_right]at hz;cases hz
    | cons c u ab2 =>
     rw[List.zip_cons_cons]at hz
     injection hz with hyx Y4
     injection hyx with hy hx
     subst hy hx;rw[bZ]at hR;simp only[adi]at hlen;obtain⟨e,he,YM⟩:=D3 A.in1 ⟨hp,g,d,tk,os⟩ a t c u;refine acL (he prog w _ _ ?_);cases e with
     | true =>
      rw[if_pos (YM.mp rfl)]at hR
      wp_walk
      exact⟨rfl,rfl,_,_,_,_,Y4,ab1,ab2,by omega,hR⟩
     | false =>
      rw[if_neg (λq=>absurd (YM.mpr q) adJ)]at hR;have hri:=Gr A.in1 ⟨hp,g,d,tk,os⟩ a t c u prog w
      wp_walk using hri
      exact⟨_,rfl,by simpa using hR⟩
  case fin =>
   rintro⟨b1,b2⟩ s' ⟨L6,rfl,vs,ws,Ws,HR,hz,hvi,hwi,hlen,hR⟩;simp only at L6;subst L6;have hv:lexLt Ws HR=decide (items.size<fh.size):=by
    cases hvi with
    | nil =>
     cases hwi with
     | nil =>
      simp only[List.length_nil]at hlen;rw[pH];exact(decide_eq_false ⋯).symm
     | cons c u hw =>
      simp only[List.length_nil,adi]at hlen;rw[gS];exact(decide_eq_true ⋯).symm
    | cons a t hv =>
     cases hwi with
     | nil =>
      simp only[List.length_nil,adi]at hlen;rw[gR];exact(decide_eq_false ⋯).symm
     | cons c u hw =>
      rw[List.zip_cons_cons]at hz;cases hz
   rw[hv]at hR
   wp_walk
   exact⟨_,rfl,by simpa [Builtin.Tuple.tupleCompareSizes]using hR⟩
  case h =>
   exact⟨rfl,rfl,items.toList,fh.toList,ns,ms,rfl,hi,hj,by omega,h⟩
end
section
variable {prog:adv}{w:World}{A:Around}{E:Value->Shared->Prop}{s:Shared}
theorem yf{l b:Addr}{items fh:Array Value}{ns ms:List Int}{Q:Value->Shared->Prop}(hl:IsTup s.heap l items)(hb:IsTup s.heap b fh)(hi:IntsAre items.toList ns)(hj:IntsAre fh.toList ms)
  (hu:A.units<cLine) (h:Q (.bool (lexLt ns ms)) s):wpAny (model prog w) A (aek .Lt (.ref l) (.ref b)) Q E s:=by
 obtain⟨⟨cls,dd,data,sl⟩,ho,hc,n,hd⟩:=id hl;obtain⟨⟨abu,V9,data2,Wu⟩,Ja,HJ,n2,hd2⟩:=id hb;simp only at hc hd HJ hd2;subst hc hd HJ hd2;exact richCompare_meets_room (op:=.Lt) ⟨_,ho,rfl⟩ ⟨_,Ja,rfl⟩ PySem.F.slot_tuple_lt PySem.F.entry_tuple_lt (PySem.F.args_tuple_lt_2 _ _) (pP l b items fh n n2 dd V9 sl Wu ns ms hi hj)
  ⟨ho,Ja,show Value.bool (lexLt ns ms)≠Value.notImplemented/\Q (.bool (lexLt ns ms)) s from⟨(λx=>nomatch x),h⟩⟩ hu
theorem Ir{t b:Addr}{vs ws:List Value}{Q:Value->Shared->Prop}(ht:IsTup s.heap t vs.toArray)(hb:IsTup s.heap b ws.toArray)(hv:vs≠[])
  (h1:ws=[]->Q (.ref t) s) (h2:ws≠[]->Q (.ref s.heap.objs.size) {s with heap:=s.heap.push {cls:=.type "tuple",data:=.seq (vs++ws).toArray}})
  (hsz:vs.length+ws.length<=acZ):wpAny (model prog w) A (binaryOp .Add (.ref t) (.ref b)) Q E s:=by
 obtain⟨⟨cls,dd,data,sl⟩,ho,hc,n,hd⟩:=id ht;obtain⟨⟨abu,V9,data2,Wu⟩,Ja,HJ,n2,hd2⟩:=id hb;simp only at hc hd HJ hd2;subst hc hd HJ hd2;have e:vs.toArray++ws.toArray=(vs++ws).toArray:=by simp
 by_cases hw:ws=[]
 ·exact concat_meets ⟨_,ho,rfl⟩ ⟨_,Ja,rfl⟩ noFill_tuple_add seq_tuple_add PySem.F.slot_tuple_add PySem.F.entry_tuple_add (PySem.F.args_tuple_add_2 _ _)
   (tuple_addW1 t b vs.toArray ws.toArray n n2 dd V9 sl Wu (by simpa using hv) (by simp [hw])) ⟨ho,Ja,h1 hw⟩
 ·refine concat_meets ⟨_,ho,rfl⟩ ⟨_,Ja,rfl⟩ noFill_tuple_add seq_tuple_add PySem.F.slot_tuple_add PySem.F.entry_tuple_add (PySem.F.args_tuple_add_2 _ _)
   (tuple_addW2 t b vs.toArray ws.toArray n n2 dd V9 sl Wu (by simpa using hv) (by simpa using hw) (by rw[ac5,ac5];exact hsz)) ⟨ho,Ja,?_⟩
  rw[e];exact h2 hw
def dy(n d:Nat):Option Int->Nat
 | none=>d
 | some v=>if v<0 then(v+(n:Int)).toNat else min v.toNat n
theorem Uq(n d:Nat)(hd:d<=n)(o:Option Int):dy n d o<=n:=by
 cases o with
 | none=>exact hd
 | some v =>
  show(if v<0 then(v+(n:Int)).toNat else min v.toNat n)<=n
  by_cases hv:v<0
  ·rw[if_pos hv];omega
  ·rw[if_neg hv];exact Nat.min_le_right _ _
theorem zm(v:Int)(n d:Nat):(if v<0 then max (v+(n:Int)) 0 else min v (n:Int))=((dy n d (some v):Nat):Int):=by
 show(if v<0 then max (v+(n:Int)) 0 else min v (n:Int))=(((if v<0 then(v+(n:Int)).toNat else min v.toNat n):Nat):Int)
 by_cases hv:v<0
 ·simp only[if_pos hv];omega
 ·simp only[if_neg hv];omega
theorem xG(lo hi:Option Int)(n:Nat):Builtin.Slice.sliceAdjust lo hi 1 (n:Int)=(((dy n 0 lo:Nat):Int),((dy n n hi:Nat):Int)):=by
 have h1:¬((1:Int)<0):=by omega
 unfold Builtin.Slice.sliceAdjust;simp only[h1,if_false];refine Prod.ext ?_ ?_
 ·cases lo with
  | none=>rfl
  | some v=>exact zm v n 0
 ·cases hi with
  | none=>rfl
  | some v=>exact zm v n n
theorem yt(i j:Nat):Builtin.Slice.slicePlaces (i:Int) (j:Int) 1=j-i:=by
 unfold Builtin.Slice.slicePlaces;have h1:(1:Int)>0:=by omega
 simp only[h1,if_true,Int.ediv_one]
 split<;>omega
theorem oU{v:Value}{o:Option Int}{Q:Option Int->Shared->Prop}(p:IsPart v o)(h:Q o s):wpAny (model prog w) A (Builtin.Slice.slicePartIndex v) Q E s:=by
 cases p with
 | none=>exact slicePart_none h
 | int i t=>exact slicePart_int h
theorem lV{sl:Addr}{vl vu:Value}{lo hi:Option Int}{n:Nat}{Q:Int×Int×Nat->Shared->Prop}(hs:s.heap.IsSliceOf sl vl vu .none)(pl:IsPart vl lo)(pu:IsPart vu hi)
  (h:Q (((dy n 0 lo:Nat):Int),1,dy n n hi-dy n 0 lo) s):wpAny (model prog w) A (Builtin.Slice.sliceApplied (.ref sl) (pure (n:Int))) Q E s:=by
 obtain⟨os,Y1,hcs,hds⟩:=id hs;unfold Builtin.Slice.sliceApplied Builtin.Slice.sliceFields;refine acL (acL (aes Y1 hds (x:=vl) rfl (acL (aes Y1 hds (x:=vu) rfl (acL (aes Y1 hds (x:=.none) rfl (acP ?_)))))));refine acL (slicePart_none ?_);show wpAny _ _ (if((1:Int)==0)=true then _ else _) _ _ s
 rw[if_neg ∅]
 refine acL (oU pl (acL (oU pu (acL (acP ?_)))));show wpAny _ _ (match Builtin.Slice.sliceAdjust lo hi 1 (n:Int)with | (lo,hi)=>pure (lo,(1:Int),Builtin.Slice.slicePlaces lo hi 1)) _ _ s
 rw[xG lo hi n];show wpAny _ _ (pure (((dy n 0 lo:Nat):Int),(1:Int),Builtin.Slice.slicePlaces ((dy n 0 lo:Nat):Int) ((dy n n hi:Nat):Int) 1)) _ _ s;rw[yt];exact acP h
theorem FV(xs:Array Value)(i k:Nat):((adK k).filterMap λ(m:Nat)=>xs[((i:Int)+(m:Int)*1).toNat]?).toArray=((xs.toList.drop i).take k).toArray:=by
 have e:(λ(m:Nat)=>xs[((i:Int)+(m:Int)*1).toNat]?)=λm=>xs[i+m]?:=by
  funext m;have:((i:Int)+(m:Int)*1).toNat=i+m:=by omega
  rw[this]
 rw[e];have:=pick_run xs i k;rw[List.filterMap_map]at this;have e2:((λx=>xs[x]?) ∘ λx=>i+x)=λm=>xs[i+m]?:=rfl;rw[e2]at this;rw[this]
theorem jD{t sl:Addr}{items:Array Value}{vl vu:Value}{lo hi:Option Int}{Q:Value->Shared->Prop}(ht:IsTup s.heap t items)(hs:s.heap.IsSliceOf sl vl vu .none)(pl:IsPart vl lo)(pu:IsPart vu hi)
  (hw:¬(dy items.size 0 lo=0/\dy items.size items.size hi=items.size))
  (h:Q (.ref s.heap.objs.size) {s with heap:=s.heap.push {cls:=.type "tuple",data:=.seq ((items.toList.drop (dy items.size 0 lo)).take (dy items.size items.size hi-dy items.size 0 lo)).toArray}})
  (hsz:items.size<=acZ):wpAny (model prog w) A (getItem (.ref t) (.ref sl)) Q E s:=by
 have zK:sizeOk (.seq ((items.toList.drop (dy items.size 0 lo)).take (dy items.size items.size hi-dy items.size 0 lo)).toArray):=by
  show((items.toList.drop (dy items.size 0 lo)).take (dy items.size items.size hi-dy items.size 0 lo)).toArray.size<=acZ;rw[ac5,aei,aeh,aep];omega
 have hj:dy items.size items.size hi<=items.size:=Uq _ _ (acS _) hi;obtain⟨os,Y1,hcs,hds⟩:=id hs;have hTs:s.TypeIs (.ref sl) "slice":=⟨os,Y1,hcs⟩;unfold getItem
 try with_reducible refine wpAny_holding ?_
 first|refine acL (acP ?_)|skip
 refine acL (wpAny_sequenceKey ht.typeIs ∅ ?_)
 refine acL (aeb (name:=adC "__getitem__") ht.typeIs PyProof.Rows.slot_tuple_getitem
  (adZ PyProof.Rows.slot_tuple_getitem ht.typeIs entry_tuple_getitem ?_ (args_tuple_getitem _ _)))
 show wpAny _ _ (Builtin.Tuple.tupleItemsOf (.ref t) >>= _) _ _ s;refine acL (tupleItemsOf_ ht ?_);refine acL (wpAny_typeOf hTs ?_);rw[if_pos ∅]
 refine acL (lV hs pl pu ?_);have Y0:¬((((dy items.size 0 lo:Nat):Int)==0&&(1:Int)==1&&(dy items.size items.size hi-dy items.size 0 lo)==items.size)=true):=by
  intro q;rw[adn,adn]at q;have q1:((dy items.size 0 lo:Nat):Int)=0:=eq_of_beq q.1.1;have q2:dy items.size items.size hi-dy items.size 0 lo=items.size:=eq_of_beq q.2;exact hw ⟨by omega,by omega⟩
 show wpAny _ _ (if(((dy items.size 0 lo:Nat):Int)==0&&(1:Int)==1&&(dy items.size items.size hi-dy items.size 0 lo)==items.size)=true then _ else _) _ _ s
 rw[if_neg Y0,FV]
 first
  | exact acL (m:=Builtin.Tuple.tupleExact _) (adS (acP ⟨_,rfl,acP h⟩) zK)
  | exact acL (m:=Builtin.Tuple.tupleExact _) (adS (acL (acP (acP ⟨_,rfl,acP h⟩))) zK)
  | exact acL (acL (m:=Builtin.Tuple.tupleExact _) (adS (acP (acP ⟨_,rfl,acP h⟩)) zK))
  | exact acL (acL (m:=Builtin.Tuple.tupleExact _) (adS (acP ⟨_,rfl,acP h⟩) zK))
end
end HT
namespace L2
open PySem PySem.Spec PyProof.Rows
abbrev TO:=St->Hp->(Option Int->Hp->Prop)->Prop
def PO(X:Cx)(e:Option Expr)(t:TO):Prop:=
 ∀(pins:List (Addr×Obj)) (s:Shared) (σ:St) (H:Hp) (Q:Option Int->Hp->Prop),Inv X pins σ H s->t σ H Q ->
  wpAny (model X.prog X.w) X.A (evalPart e X.env) (λu s'=>∃o H',Inv X pins σ H' s'/\IsPart u o/\Q o H') X.xe s
def KC:TO:=λ_ H Q=>Q none H
def abh(t:TE):TO:=λσ H Q=>t σ H λx H1=>∃i,x=.int i/\Q (some i) H1
theorem intsAre_of{ns:List Int}:∀ {us:List Value},Vals (ns.map V.int) us->IntsAre us ns:=by
 induction ns with
 | nil=>intro us r;rw[List.map_nil]at r;cases r;exact .nil
 | cons n ns ih =>
  intro us r;rw[adh]at r;cases r with
  | cons r1 r2 =>
   obtain⟨t,e⟩:=r1;subst e;exact .cons n t (ih r2)
section
variable {X:Cx}{e:Expr}{te:TE}{lo hi:Option Expr}{tl th:TO}{pos p2:Pos}
theorem J6:PO X none KC:=by
 intro pins s σ H Q I h;rw[evalPart_none];exact acP ⟨none,H,I,.none,h⟩
theorem J7(h:PE X e te):PO X (some e) (abh te):=by
 intro pins s σ H Q I hw;rw[evalPart_some];refine cB (h pins s σ H _ I hw) λu s1 ⟨x,H1,I1,r1,q1⟩=>?_;obtain⟨i,rfl,q⟩:=q1;obtain⟨t,rfl⟩:=r1;exact⟨some i,H1,I1,.int i t,q⟩
def LJ(X:Cx)(r:V->Option Int->Option Int->Hp->VK->Prop):Prop:=
 ∀(pins:List (Addr×Obj)) (s:Shared) (σ:St) (H:Hp) (x:V) (v vl vu:Value) (lo hi:Option Int) (sl:Addr) (Q:VK),Inv X pins σ H s->RelV x v->s.heap.IsSliceOf sl vl vu .none->IsPart vl lo->IsPart vu hi->r x lo hi H Q ->
  ∃T id,typeLookup (.type T) "__getitem__"=pure (some (.builtin id))/\s.TypeIs v T/\wpAny (model X.prog X.w) X.A (getItem v (.ref sl)) (EP X pins σ Q) X.xe s
theorem LJ.or{r r':V->Option Int->Option Int->Hp->VK->Prop}(h:LJ X r)(h':LJ X r'):LJ X (λx lo hi H Q=>r x lo hi H Q\/r' x lo hi H Q):=by
 intro pins s σ H x v vl vu lo hi sl Q I rx hs pl pu q;rcases q with q|q
 ·exact h pins s σ H x v vl vu lo hi sl Q I rx hs pl pu q
 ·exact h' pins s σ H x v vl vu lo hi sl Q I rx hs pl pu q
def tSl(r:V->Option Int->Option Int->Hp->VK->Prop)(te:TE)(tl th:TO):TE:=λσ H Q=>te σ H λx H1=>tl σ H1 λl H2=>th σ H2 λu H3=>r x l u H3 Q
theorem FP{r:V->Option Int->Option Int->Hp->VK->Prop}(hr:LJ X r)(he:PE X e te)(hl:PO X lo tl)(hu:PO X hi th):PE X (.Subscript e (.Slice lo hi none p2) pos) (tSl r te tl th):=by
 intro pins s σ H Q I h;refine Subscript_ (cB (he pins s σ H _ I h) λv s1 ⟨x,H1,I1,r1,q1⟩=>?_);refine wpAny_Slice (cB (hl pins s1 σ H1 _ I1 q1) λvl s2 ⟨l,H2,I2,pl,q2⟩=>cB (hu pins s2 σ H2 _ I2 q2) λvu s3 ⟨u,H3,I3,pu,q3⟩=>?_);rw[evalPart_none];refine acP ?_;have I4:Inv X pins σ H3 {s3 with heap:=s3.heap.push {cls:=.type "slice",data:=.fields #[vl,vu,.none]}}:=I3.kept (t':=s3.toks) λb ob q=>acM _ q
 obtain⟨T,id,hT,ht,hg⟩:=hr pins {s3 with heap:=s3.heap.push {cls:=.type "slice",data:=.fields #[vl,vu,.none]}} σ H3 x v vl vu l u s3.heap.objs.size Q I4 r1 (Heap.IsSliceOf.new ..) pl pu q3
 show wpAny (model X.prog X.w) X.A (subscriptTail e (.Slice lo hi none p2) v (.ref s3.heap.objs.size)) (EP X pins σ Q) X.xe {s3 with heap:=s3.heap.push {cls:=.type "slice",data:=.fields #[vl,vu,.none]}}
 exact tail_any (ops:=[.ref s3.heap.objs.size,v]) ht hT hg (by with_unfolding_all rfl)
def uP(xs:List V)(lo hi:Option Int):List V:=(xs.drop (HT.dy xs.length 0 lo)).take (HT.dy xs.length xs.length hi-HT.dy xs.length 0 lo)
theorem mB(xs:List V)(lo hi:Option Int):(uP xs lo hi).length<=xs.length:=by
 unfold uP;rw[aei,aeh];omega
def aco(K:acT):V->Option Int->Option Int->Hp->VK->Prop:=λx lo hi H Q=>∃a xs,x=.ref a/\k8 K H a xs /\
 ¬(HT.dy xs.length 0 lo=0/\HT.dy xs.length xs.length hi=xs.length)/\∀p,H p=none->Q (.ref p) (upd H p (.tup (uP xs lo hi)))
theorem Vv:LJ X (aco X.K):=by
 intro pins s σ H x v vl vu lo hi sl Q I rx hs pl pu h;obtain⟨a,xs,rfl,hx,hw,q⟩:=h;cases rx;obtain⟨its,r,ht,hz⟩:=I.tuple hx;have hlen:its.toArray.size=xs.length:=by rw[ac5];exact r.length.symm
 refine⟨"tuple",_,PyProof.Rows.slot_tuple_getitem.lookup,ht.typeIs,?_⟩;refine HT.jD ht hs pl pu (by rw[hlen];exact hw) ?_ (by rw[hlen];exact hz)
 rw[hlen];refine⟨.ref s.heap.objs.size,_,I.laid (t':=s.toks) (o:=.tup (uP xs lo hi)) (λb ob q=>acM _ q) (acS _) ?_,rfl,q _ (I.bI.fresh (acS _))⟩;exact⟨adq (mB xs lo hi) hz,_,(r.drop (HT.dy xs.length 0 lo)).take (HT.dy xs.length xs.length hi-HT.dy xs.length 0 lo),IsTup.new _ _⟩
def Ms(K:acT):R2:=λx y H Q=>∃a b xs ys,x=.ref a/\y=.ref b/\k8 K H a xs/\k8 K H b ys/\xs≠[]/\xs.length+ys.length<=acZ /\
 (ys=[]->Q (.ref a) H)/\(ys≠[]->∀p,H p=none->Q (.ref p) (upd H p (.tup (xs++ys))))
theorem Vals.sA{xs:List V}{us:List Value}(r:Vals xs us):us=[] ↔ xs=[]:=by
 cases r with
 | nil=>simp
 | cons _ _=>simp
theorem JN:il X (binaryOp .Add) (Ms X.K):=by
 intro pins s σ H x y v u Q I rx ry h;obtain⟨a,b,xs,ys,rfl,rfl,ha,hb,hx,hz,q1,q2⟩:=h;cases rx;cases ry;obtain⟨its,r1,p1,_⟩:=I.tuple ha;obtain⟨vO,r2,p2,_⟩:=I.tuple hb;refine HT.Ir p1 p2 (λz=>hx (r1.sA.mp z)) (λz=>⟨.ref a,H,I,rfl,q1 (r2.sA.mp z)⟩) (λz=>?_) (by rw[<- r1.length,<- r2.length];exact hz)
 refine⟨.ref s.heap.objs.size,_,I.laid (t':=s.toks) (o:=.tup (xs++ys)) (λb ob q=>acM _ q) (acS _) ?_,rfl,q2 (λw=>z (r2.sA.mpr w)) _ (I.bI.fresh (acS _))⟩;exact⟨by rw[adt];exact hz,_,r1.append r2,IsTup.new _ _⟩
end
end L2
namespace L2
open PySem PySem.Spec PyProof.Rows
def zR(n:Nat)(i:Int):Option Nat:=if 0<=i then(if i<n then some i.toNat else none)else if -(n:Int)<=i then some (i+n).toNat else none
def mZ{α:Type}(xs:List α)(i:Int):Option α:=(zR xs.length i).bind λj=>xs[j]?
theorem zS{n:Nat}{i:Int}{j:Nat}(h:zR n i=some j):seqIndex? i n=some j/\j<n/\-(n:Int)<=i/\i<n:=by
 unfold zR at h
 by_cases h0:0<=i
 ·rw[if_pos h0]at h
  by_cases h1:i<n
  ·rw[if_pos h1]at h
   have e:i.toNat=j:=adp h;exact⟨by rw[seqIndex_of h0 h1,e],by omega,by omega,h1⟩
  ·rw[if_neg h1]at h;cases h
 ·rw[if_neg h0]at h
  by_cases h1:-(n:Int)<=i
  ·rw[if_pos h1]at h
   have e:(i+n).toNat=j:=adp h;exact⟨by rw[seqIndex_neg ⋯ h1,e],by omega,h1,by omega⟩
  ·rw[if_neg h1]at h;cases h
theorem rA{α:Type}{xs:List α}{i:Int}{v:α}(h:mZ xs i=some v):∃j,seqIndex? i xs.length=some j/\xs[j]?=some v/\j<xs.length/\-(xs.length:Int)<=i/\i<xs.length:=by
 unfold mZ at h;cases e:zR xs.length i with
 | none=>rw[e]at h;cases h
 | some j =>
  rw[e]at h;obtain⟨h1,h2,h3,h4⟩:=zS e;exact⟨j,h1,h,h2,h3,h4⟩
def zb(b:Expr):Prop:=∀o i,subscripted b false o i=operate [o,i] (getItem o i)
def Ig(X:Cx)(r:R2):Prop:=
 ∀(value slice:Expr) (pins:List (Addr×Obj)) (s:Shared) (σ:St) (H:Hp) (x y:V) (v u:Value) (Q:VK),Inv X pins σ H s->RelV x v->RelV y u->r x y H Q ->
  subscripted slice false v u=operate [v,u] (getItem v u)->wpAny (model X.prog X.w) X.A (subscriptTail value slice v u) (EP X pins σ Q) X.xe s
def MtR(X:Cx)(id:String)(r:V->List V->Hp->VK->Prop):Prop:=
 ∀(pins:List (Addr×Obj)) (s:Shared) (σ:St) (H:Hp) (x:V) (xs:List V) (v:Value) (us:List Value) (Q:VK),Inv X pins σ H s->RelV x v->Vals xs us->r x xs H Q ->
  wpAny (model X.prog X.w) X.A (call (.builtin id) (v::us)) (EP X pins σ Q) X.xe s
section
variable {X:Cx}{a b:Expr}{ta tb:TE}{pos:Pos}
theorem Ig.or{r r':R2}(h:Ig X r)(h':Ig X r'):Ig X (λx y H Q=>r x y H Q\/r' x y H Q):=by
 intro value slice pins s σ H x y v u Q I rx ry q hs;rcases q with q|q
 ·exact h value slice pins s σ H x y v u Q I rx ry q hs
 ·exact h' value slice pins s σ H x y v u Q I rx ry q hs
theorem aao{r:R2}(hr:Ig X r)(ha:PE X a ta)(hb:PE X b tb)(hs:zb b):PE X (.Subscript a b pos) (VC r ta tb):=by
 intro pins s σ H Q I h;exact Subscript_ (NA ha hb I h λv u s2 x y H2 I2 rx ry q=>hr a b pins s2 σ H2 x y v u Q I2 rx ry q (hs _ _))
def aaD(K:acT):R2:=λx y H Q=>∃p xs i v,x=.ref p/\y=.int i/\gp K H p xs/\mZ xs i=some v/\Q v H
def aaF(K:acT):R2:=λx y H Q=>∃p xs i v,x=.ref p/\y=.int i/\k8 K H p xs/\mZ xs i=some v/\Q v H
def aaE:R2:=λx y H Q=>∃z i c,x=.str z/\y=.int i/\z.length<=acZ/\mZ z.cps.toList i=some c/\Q (.str ⟨#[c]⟩) H
theorem Jn:Ig X (aaD X.K):=by
 intro value slice pins s σ H x y v u Q I rx ry h hs;obtain⟨p,xs,i,z,rfl,rfl,hq,he,q⟩:=h;cases rx;obtain⟨t,rfl⟩:=ry;obtain⟨its,r,pl,hz⟩:=I.list hq;obtain⟨j,h1,h2,h3,h4,h5⟩:=rA he;obtain⟨w,ew,xr⟩:=r.get h2;have hl:=r.length;have hn:=jk;have fin:EP X pins σ Q w s:=⟨z,H,I,xr,q⟩
 by_cases h0:0<=i
 ·have hj:i.toNat=j:=by
   rw[seqIndex_of h0 h5]at h1;exact adp h1
  exact item_listR pl.isList h0 ⋯ (by rw[hj];simpa using ew) fin hs
 ·have hj:(i+(its.toArray.size:Int)).toNat=j:=by
   rw[seqIndex_neg ⋯ h4]at h1
   rw[ac5,<- hl];exact adp h1
  exact subscriptTail_builtinR (x:=w) pl.isList.typeIs slot_list_getitem.lookup
   (wpAny_getItem_list_neg (Q:=λr s'=>r=w/\EP X pins σ Q r s') pl.isList ⋯ (by rw[ac5]<;>omega) ⋯ (by rw[hj];simpa using ew) ⟨rfl,fin⟩) hs
theorem QF:Ig X (aaF X.K):=by
 intro value slice pins s σ H x y v u Q I rx ry h hs;obtain⟨p,xs,i,z,rfl,rfl,hq,he,q⟩:=h;cases rx;obtain⟨t,rfl⟩:=ry;obtain⟨its,r,pl,hz⟩:=I.tuple hq;obtain⟨j,h1,h2,h3,h4,h5⟩:=rA he;obtain⟨w,ew,xr⟩:=r.get h2;have hl:=r.length;have hn:=jk;have fin:EP X pins σ Q w s:=⟨z,H,I,xr,q⟩;exact subscriptTail_builtinR (x:=w) pl.typeIs slot_tuple_getitem.lookup
  (getItem_tuple (j:=j) (Q:=λr s'=>r=w/\EP X pins σ Q r s') pl ⋯ ⋯ (by rw[ac5,<- hl];exact h1) (by simpa using ew) ⟨rfl,fin⟩) hs
theorem QE:Ig X aaE:=by
 intro value slice pins s σ H x y v u Q I rx ry h hs;obtain⟨z,i,c,rfl,rfl,hz,he,q⟩:=h;obtain⟨t,rfl⟩:=rx;obtain⟨t',rfl⟩:=ry;obtain⟨j,h1,h2,h3,h4,h5⟩:=rA he;have hl:z.cps.toList.length=z.length:=by simp [Str.length]
 rw[hl]at h1 h4 h5;have hn:=jk;exact tail_any (typeIs_str s z t) slot_str_getitem.lookup (getItem_str (c:=c) (by
  have e1:decide (i < -(2^63:Int))=false:=decide_eq_false ⋯
  have e2:decide (i>=2^63)=false:=decide_eq_false ⋯
  rw[e1,e2,Bool.or_false]) (by rw[h1];simpa using h2) ⟨.str ⟨#[c]⟩,H,I.tok _,⟨_,rfl⟩,q⟩) hs
def rIx(K:acT):R2:=λx y H Q=>aaD K x y H Q\/aaF K x y H Q\/aaE x y H Q
theorem QD:Ig X (rIx X.K):=Jn.or (QF.or QE)
theorem yi(its:List Value)(n j:Nat)(u:Value):Obj.mapSeq (·.setIfInBounds j u) {cls:=.type "list",data:=.seq its.toArray n}={cls:=.type "list",data:=.seq (its.set j u).toArray n}:=by
 simp [Obj.mapSeq]
theorem Inv.lst{pins:List (Addr×Obj)}{σ:St}{H:Hp}{s:Shared}{p:Addr}{xs:List V}(I:Inv X pins σ H s)(h:H p=some (.lst xs)):
  ∃(its:List Value) (n:Nat),Vals xs its/\s.heap.get? p=some {cls:=.type "list",data:=.seq its.toArray n}/\xs.length<=acZ:=by
 obtain⟨z,its,n,r,e⟩:=I.bI p _ h;exact⟨its,n,r,e,z⟩
theorem Inv.Rn{pins:List (Addr×Obj)}{σ:St}{H:Hp}{s:Shared}{p:Addr}{xs ys:List V}{its its':List Value}{n n':Nat}{f:Obj->Obj}(I:Inv X pins σ H s)(h:H p=some (.lst xs))
  (ho:s.heap.get? p=some {cls:=.type "list",data:=.seq its.toArray n}) (hf:f {cls:=.type "list",data:=.seq its.toArray n}={cls:=.type "list",data:=.seq its'.toArray n'}) (r:Vals ys its') (hz:ys.length<=acZ) (t:Nat):
  Inv X pins σ (upd H p (.lst ys)) {s with heap:=s.heap.update p f,toks:=t}:=by
 have e:(s.heap.update p f).get? p=some {cls:=.type "list",data:=.seq its'.toArray n'}:=by
  rw[Heap.get?_update_self f ho (by rw[hf]<;>rfl),hf]
 refine I.write (x:=p) (e:=p) (by rw[h];trivial) (.inl rfl) (λb u hb q=>(adG _ _ (aec hb)).trans q) ⟨_,e⟩ ?_
 exact⟨hz,its',n',r,e⟩
def aaH:V->V->V->Hp->(Hp->Prop)->Prop:=λo i v H Q=>∃p xs k j,o=.ref p/\i=.int k/\H p=some (.lst xs)/\zR xs.length k=some j/\Q (upd H p (.lst (xs.set j v)))
theorem set_list:WX X aaH:=by
 intro pins s σ H o i v ov iv u Q I ro ri rv h;obtain⟨p,xs,k,j,rfl,rfl,hp,hj,q⟩:=h;cases ro;obtain⟨t,rfl⟩:=ri;obtain⟨its,n,r,ho,hz⟩:=I.lst hp;obtain⟨h1,h2,h3,h4⟩:=zS hj;have hl:=r.length;have hn:=jk;have I':Inv X pins σ (upd H p (.lst (xs.set j v))) {s with heap:=s.heap.update p (Obj.mapSeq (·.setIfInBounds j u))}:=
  I.Rn hp ho (yi its n j u) (r.set rv j) (by rw[List.length_set];exact hz) s.toks
 by_cases h0:0<=k
 ·have hk:k.toNat=j:=by
   rw[seqIndex_of h0 h4]at h1;exact adp h1
  exact PySem.W.ki_setAt ho h0 ⋯ (by rw[ac5,<- hl];exact h4) (by rw[hk];exact⟨_,I',q⟩)
 ·have hk:(k+(its.toArray.size:Int)).toNat=j:=by
   rw[seqIndex_neg ⋯ h3]at h1
   rw[ac5,<- hl];exact adp h1
  exact PySem.W.ki_setBack ho ⋯ (by rw[ac5,<- hl];exact h3) ⋯ (by rw[hk];exact⟨_,I',q⟩)
theorem tm(lo hi:Option Int)(n:Nat):(sliceBounds lo hi none n).1=((HT.dy n 0 lo:Nat):Int)/\(sliceBounds lo hi none n).2.1=((HT.dy n n hi:Nat):Int)/\(sliceBounds lo hi none n).2.2=1:=by
 refine⟨?_,?_,rfl⟩
 ·cases lo with
  | none=>simp [sliceBounds,HT.dy]
  | some i =>
   simp only[sliceBounds,HT.dy,Option.getD_none,show(1:Int)>0 by decide,if_true]
   by_cases h:i<0
   ·simp only[h,if_true]<;>omega
   ·simp only[h,if_false]<;>omega
 ·cases hi with
  | none=>simp [sliceBounds,HT.dy]
  | some i =>
   simp only[sliceBounds,HT.dy,Option.getD_none,show(1:Int)>0 by decide,if_true]
   by_cases h:i<0
   ·simp only[h,if_true]<;>omega
   ·simp only[h,if_false]<;>omega
theorem pM(its:List Value)(lo hi:Option Int):slicePick its.toArray lo hi none=((its.drop (HT.dy its.length 0 lo)).take (HT.dy its.length its.length hi-HT.dy its.length 0 lo)).toArray:=by
 obtain⟨h1,h2,h3⟩:=tm lo hi its.toArray.size;unfold slicePick;rw[h1,h2,h3];simp only[sliceRange_one,pick_run,ac5]<;>rfl
def acn(K:acT):V->Option Int->Option Int->Hp->VK->Prop:=λx lo hi H Q=>∃a xs,x=.ref a/\gp K H a xs/\∀p,H p=none->Q (.ref p) (upd H p (.lst (uP xs lo hi)))
theorem Kr:LJ X (acn X.K):=by
 intro pins s σ H x v vl vu lo hi sl Q I rx hs pl pu h;obtain⟨a,xs,rfl,hx,q⟩:=h;cases rx;obtain⟨its,r,ht,hz⟩:=I.list hx;have hlen:=r.length;refine⟨"list",_,slot_list_getitem.lookup,ht.isList.typeIs,?_⟩;refine wpAny_getItem_list_slice ht.isList hs pl pu .none (by simp) ?_ (by rw[ac5]<;>omega)
 rw[pM,<- hlen];refine⟨.ref s.heap.objs.size,_,I.laid (t':=s.toks) (o:=.lst (uP xs lo hi)) (λb ob q=>acM _ q) (acS _) ?_,rfl,q _ (I.bI.fresh (acS _))⟩;exact⟨adq (mB xs lo hi) hz,_,0,(r.drop (HT.dy xs.length 0 lo)).take (HT.dy xs.length xs.length hi-HT.dy xs.length 0 lo),ada _ rfl⟩
theorem rC:cU X (.builtin "len") (λxs H Q=>∃p ys,xs=[.ref p]/\(gp X.K H p ys\/k8 X.K H p ys)/\Q (.int ys.length) H):=by
 intro pins s σ H xs us Q I r h;obtain⟨p,ys,rfl,hq,q⟩:=h;obtain⟨u,rfl,rx⟩:=vals1 r;cases rx;have hn:=jk;rcases hq with hq|hq
 ·obtain⟨its,r',pl,hz⟩:=I.list hq
  have hlen:=r'.length;exact Calls.call_len_list pl.isList (by simp only[ac5]<;>omega) ⟨.int ys.length,H,I.tok _,⟨s.toks+1,by rw[ac5,hlen]⟩,q⟩
 ·obtain⟨its,r',pl,hz⟩:=I.tuple hq
  have hlen:=r'.length;exact len_tuple pl (by simp only[ac5]<;>omega) ⟨.int ys.length,H,I.tok _,⟨s.toks+1,by rw[ac5,hlen]⟩,q⟩
theorem rD:cU X (.builtin "len") (λxs H Q=>∃z,xs=[.str z]/\z.length<=acZ/\Q (.int z.length) H):=by
 intro pins s σ H xs us Q I r h;obtain⟨z,rfl,hz,q⟩:=h;obtain⟨u,rfl,t,rfl⟩:=vals1 r;have hn:=jk;exact len_str ⋯ ⟨.int z.length,H,I.tok _,⟨_,rfl⟩,q⟩
theorem cU.or{f:Value}{r r':List V->Hp->VK->Prop}(h:cU X f r)(h':cU X f r'):cU X f (λxs H Q=>r xs H Q\/r' xs H Q):=by
 intro pins s σ H xs us Q I rs q;rcases q with q|q
 ·exact h pins s σ H xs us Q I rs q
 ·exact h' pins s σ H xs us Q I rs q
theorem rE:cU X (.type "list") (λxs H Q=>∃p ys,xs=[.ref p]/\(gp X.K H p ys\/k8 X.K H p ys)/\∀l,H l=none->Q (.ref l) (upd H l (.lst ys))):=by
 intro pins s σ H xs us Q I r h;obtain⟨p,ys,rfl,hq,q⟩:=h;obtain⟨u,rfl,rx⟩:=vals1 r;cases rx;have fin:∀(its:List Value),Vals ys its->ys.length<=acZ->∀(h':Heap) (c':Nat),(∀b o',s.heap.get? b=some o'->h'.get? b=some o') ->
   h'.get? s.heap.objs.size=some {cls:=.type "list",dict:=none,data:=.seq its.toArray c',slots:=#[]}->EP X pins σ Q (.ref s.heap.objs.size) {s with heap:=h'}:=λits r' hz h' c' kp e =>
  ⟨.ref s.heap.objs.size,_,I.laid (t':=s.toks) kp (acS _) (show bU X.prog X.w _ h' _ (.lst ys)from⟨hz,its,c',r',e⟩),rfl,q _ (I.bI.fresh (acS _))⟩
 rcases hq with hq|hq
 ·obtain⟨its,r',pl,hz⟩:=I.list hq
  have hlen:=r'.length;obtain⟨o,ho,hc,n,hd⟩:=pl.isList;exact call_list_seq p (.inl rfl) ho hc hd (λh' c' kp e=>fin its r' hz h' c' kp e) (by simp only[ac5]<;>omega)
 ·obtain⟨its,r',pl,hz⟩:=I.tuple hq
  have hlen:=r'.length;obtain⟨o,ho,hc,n,hd⟩:=pl;exact call_list_seq p (.inr rfl) ho hc hd (λh' c' kp e=>fin its r' hz h' c' kp e) (by simp only[ac5]<;>omega)
theorem pF:cU X (.type "tuple") (λxs H Q=>∃p ys,xs=[.ref p]/\((gp X.K H p ys/\∀l,H l=none->Q (.ref l) (upd H l (.tup ys)))\/(k8 X.K H p ys/\Q (.ref p) H))):=by
 intro pins s σ H xs us Q I r h;obtain⟨p,ys,rfl,h⟩:=h;obtain⟨u,rfl,rx⟩:=vals1 r;cases rx;rcases h with⟨hq,q⟩|⟨hq,q⟩
 ·obtain⟨its,r',pl,hz⟩:=I.list hq
  have hlen:=r'.length;refine call_tuple_list pl.isList (λh' kp=>?_) (by simp only[ac5]<;>omega)
  have I1:Inv X pins σ H {s with heap:=h'}:=I.kept (t':=s.toks) kp
  have I2:Inv X pins σ (upd H h'.objs.size (.tup ys)) {s with heap:=h'.push {cls:=.type "tuple",data:=.seq its.toArray}}:=
   I1.laid (t':=s.toks) (λb o e=>acM _ e) (acS _) (show bU X.prog X.w _ _ _ (.tup ys)from⟨hz,its,r',IsTup.new _ _⟩)
  exact⟨.ref h'.objs.size,_,I2,rfl,q _ (I1.bI.fresh (acS _))⟩
 ·obtain⟨its,r',pl,hz⟩:=I.tuple hq
  exact call_tuple_same pl ⟨.ref p,H,I,rfl,q⟩
def tyV(K:acT)(T:String)(x:V)(H:Hp):Prop:=match x with
 | .str _=>T="str"
 | .int _=>T="int"
 | .ref p=>(T="list"/\∃xs,gp K H p xs)\/(T="tuple"/\∃o,K.lookup p=some o/\o.cls=.type "tuple"/\o.dict=none) \/
   (T="dict"/\((∃kvs,H p=some (.dK kvs))\/∃kvs,H p=some (.dT kvs)))\/(T="set"/\∃S n,H p=some (.set S n))
 | _=>False
theorem VX{pins:List (Addr×Obj)}{σ:St}{H:Hp}{s:Shared}{T:String}{x:V}{v:Value}(I:Inv X pins σ H s)(r:RelV x v)(ty:tyV X.K T x H):
  s.TypeIs v T/\∀a,v=.ref a->∃ob,s.heap.get? a=some ob/\ob.dict=none:=by
 cases x with
 | str z =>
  obtain⟨t,rfl⟩:=r;cases(show T="str" from ty)
  exact⟨typeIs_str s z t,λ_ e=>nomatch e⟩
 | int i =>
  obtain⟨t,rfl⟩:=r;cases(show T="int" from ty)
  exact⟨typeIs_int s i t,λ_ e=>nomatch e⟩
 | ref p =>
  cases r;rcases ty with⟨rfl,xs,hq⟩|⟨rfl,o,hk,hc,hd⟩|⟨rfl,hk⟩|⟨rfl,S,n,hk⟩
  ·obtain⟨its,_,pl,_⟩:=I.list hq
   refine⟨pl.isList.typeIs,λa e=>?_⟩;cases e;obtain⟨o,n,e,c,hd,_⟩:=pl;exact⟨o,e,hd⟩
  ·refine⟨⟨o,I.mH p o hk,hc⟩,λa e=>?_⟩
   cases e;exact⟨o,I.mH _ o hk,hd⟩
  ·have z:∃o,s.heap.get? p=some o/\o.ExactDict:=by
    rcases hk with⟨kvs,hk⟩|⟨kvs,hk⟩
    ·obtain⟨_,_,_,_,o,_,_,e,ex,_⟩:=I.bI p _ hk
     exact⟨o,e,ex⟩
    ·obtain⟨_,_,_,_,o,_,_,e,ex,_⟩:=I.bI p _ hk
     exact⟨o,e,ex⟩
   obtain⟨o,e,ex⟩:=z;refine⟨⟨o,e,ex.1⟩,λa e2=>?_⟩;cases e2;exact⟨o,e,ex.2.1⟩
  ·obtain⟨o,_,_,_,e,ex,_⟩:=I.bI p _ hk
   refine⟨⟨o,e,ex.1⟩,λa e2=>?_⟩;cases e2;exact⟨o,e,ex.2.1⟩
 | _=>exact aez ty
def tBM(K:acT)(T:String)(r:V->List V->Hp->VK->Prop)(to:TE)(t:TA):TE:=λσ H Q=>to σ H λx H1=>tyV K T x H1/\t σ H1 λxs H2=>r x xs H2 Q
variable {o e:Expr}{es:List Expr}{to:TE}{t:TA}{name:Str}{apos cn:Pos}{T id:String}{r:V->List V->Hp->VK->Prop}
theorem z0(pa:PlainAttrs T)(slot:Slot T name id)(hty:typeOf (.builtin id)=pure (.type "method_descriptor"))(hm:MtR X id r)(ho:PE X o to)(ha:PA X (e::es) t)
  (YD:aev o name X.env (eval o X.env)=eval o X.env:=by rfl)
  (sf:((backTo cn (acW (e::es) X.env)).all (λx=>!x.1)&&(backToKw cn (aeB [] X.env)).all (λx=>x.1.isSome)
  &&decide ((e::es).length+([]:List Keyword).length+(if([]:List Keyword).isEmpty then 0 else 1)<30))=true:=by rfl)
  (hline:(apos.endLine==cn.line)=true:=by rfl) (hs:acW (e::es) X.env=(false,eval e X.env)::acW es X.env:=by rfl) (Qr:(backTo cn (acW es X.env)).any (·.1)=false:=by rfl):
  PE X (.Call (.Attribute o name apos) (e::es) [] cn) (tBM X.K T r to t):=by
 intro pins s σ H Q I h;refine wpAny_Call_method_late YD sf hline rfl (cB (ho pins s σ H _ I h) λv s1 ⟨x,H1,I1,r1,ty,q1⟩=>?_);obtain⟨h1,h2⟩:=VX I1 r1 ty;refine⟨T,id,pa,slot,hty,h1,h2,?_⟩;have hA:=ha cn pins s1 σ H1 _ I1 q1;rw[hs]at hA ⊢;refine Calls.callWith_builtin (by show(false||(backTo cn (acW es X.env)).any (·.1))=false;rw[Qr]<;>rfl) (Calls.evalArgs_plain ?_)
 exact cB hA λus s2 ⟨vs,H2,I2,r2,q2⟩=>hm pins s2 σ H2 x vs v us Q I2 r1 r2 q2
end
end L2
namespace L2
open PySem PySem.Spec PyProof.Rows
def MtM(X:Cx)(id:String)(r:V->List V->Hp->VK->Prop):Prop:=
 ∀(pins:List (Addr×Obj)) (s:Shared) (σ:St) (H:Hp) (x:V) (xs:List V) (v:Value) (us:List Value) (Q:VK),Inv X pins σ H s->RelV x v->Vals xs us->r x xs H Q ->
  wpAny (model X.prog X.w) X.A (call (.builtin id) (v::us)) (EP X pins σ Q) X.xe s
theorem Vals.one:∀ {x:V} {us:List Value},Vals [x] us->∃u,us=[u]/\RelV x u
 | _,_,.cons r .nil=>⟨_,rfl,r⟩
theorem Vals.rep{xs:List V}{us:List Value}(h:Vals xs us):∀k:Nat,Vals (adl k xs).flatten (adl k us).flatten
 | 0=>.nil
 | k+1=>by
  rw[ad6,ad6,List.flatten_cons,List.flatten_cons];exact Vals.append h (Vals.rep h k)
theorem foldl_rep(its:List Value):∀(k:Nat) (acc:List Value),
  List.foldl (λx1 x2=>x1++x2) acc.toArray (adl k its.toArray)=(acc++(adl k its).flatten).toArray
 | 0,acc=>by simp
 | k+1,acc=>by
  have e:acc.toArray++its.toArray=(acc++its).toArray:=by simp
  have e2:(acc++its)++(adl k its).flatten=acc++(adl (k+1) its).flatten:=by
   rw[ad6,List.flatten_cons,adA]
  rw[<- e2,<- foldl_rep its k (acc++its),<- e,ad6,List.foldl_cons]
section
variable {X:Cx}{pins:List (Addr×Obj)}{σ:St}{H:Hp}{s:Shared}{l b:Addr}{xs ys zs:List V}
theorem Inv.Zu{its its':List Value}{n:Nat}{f:Array Value->Array Value}{t':Nat}(I:Inv X pins σ H s)(hH:H l=some (.lst xs))
  (e:s.heap.get? l=some {cls:=.type "list",data:=.seq its.toArray n}) (hf:f its.toArray=its'.toArray) (hv:Vals ys its') (hz:ys.length<=acZ):
  Inv X pins σ (upd H l (.lst ys)) {s with heap:=s.heap.update l (Obj.mapSeq f),toks:=t'}:=by
 have q:=PySem.IsL.update e f;rw[hf]at q;refine I.write (x:=l) (e:=l) (by rw[hH];exact trivial) (.inl rfl) (λb' u hb hu=>(adG s.heap (Obj.mapSeq f) (aec hb)).trans hu) ⟨_,q⟩ ?_
 exact⟨hz,its',_,hv,q⟩
theorem Inv.Rl{its:List Value}{t':Nat}(I:Inv X pins σ H s)(hv:Vals ys its)(hz:ys.length<=acZ):
  Inv X pins σ (upd H s.heap.objs.size (.lst ys)) {s with heap:=s.heap.push {cls:=.type "list",data:=.seq its.toArray},toks:=t'}:=
 I.laid (λ_ _ q=>acM _ q) (acS _) ⟨hz,its,0,hv,ada _ rfl⟩
theorem Inv.fresh(I:Inv X pins σ H s):H s.heap.objs.size=none:=I.bI.fresh (acS _)
theorem Inv.Rm(I:Inv X pins σ H s)(hH:H l=some (.lst xs)):xs.length<=acZ/\∃(its:List Value) (n:Nat),Vals xs its/\xs.length=its.length/\s.heap.get? l=some {cls:=.type "list",data:=.seq its.toArray n}:=by
 obtain⟨z,its,n,r,e⟩:=I.bI l _ hH;exact⟨z,its,n,r,r.length,e⟩
theorem wm{n:Nat}(h:n<=acZ):Builtin.List.listTooLong n=false:=by
 unfold Builtin.List.listTooLong;exact decide_eq_false ⋯
end
section
variable {X:Cx}
def Kc:V->List V->Hp->VK->Prop:=λx vs H Q=>∃l xs y,x=.ref l/\vs=[y]/\H l=some (.lst xs)/\xs.length<acZ/\Q .aQ (upd H l (.lst (xs++[y])))
theorem lN:MtM X "list.append" Kc:=by
 intro pins s σ H x vs v us Q I rx rv h;obtain⟨l,xs,y,rfl,rfl,hH,hz,q⟩:=h;cases rx;obtain⟨u,rfl,ru⟩:=rv.one;obtain⟨z,its,n,r,hl,e⟩:=I.Rm hH;refine call_meets F.slot_list_append ⟨_,e,rfl⟩ F.entry_list_append (F.args_list_append_2 _ _) (PySem.list_append l its.toArray n u (by rw[ac5];omega)) ⟨e,?_⟩
 refine⟨.aQ,_,I.Zu (its':=its++[u]) hH e (by simp) (r.append (.cons ru .nil)) ?_,rfl,q⟩
 rw[adt,aeu];omega
def Kf:V->List V->Hp->VK->Prop:=λx vs H Q=>∃l b xs zs,x=.ref l/\vs=[.ref b]/\H l=some (.lst xs)/\H b=some (.lst zs)/\xs.length+zs.length<=acZ/\Q .aQ (upd H l (.lst (xs++zs)))
theorem Bf:MtM X "list.extend" Kf:=by
 intro pins s σ H x vs v us Q I rx rv h;obtain⟨l,b,xs,zs,rfl,rfl,hH,hB,hz,q⟩:=h;cases rx;obtain⟨u,rfl,ru⟩:=rv.one;cases ru;obtain⟨z,its,n,r,hl,e⟩:=I.Rm hH;obtain⟨z2,vO,n2,r2,nc,e2⟩:=I.Rm hB;have hsz:its.toArray.size+vO.toArray.size<=acZ:=by rw[ac5,ac5];omega
 have E4:¬(!its.toArray.isEmpty&&Builtin.List.listTooLong (its.toArray.size+vO.toArray.size))=true:=by
  rw[wm hsz,Bool.and_false];exact adJ
 refine call_meets F.slot_list_extend ⟨_,e,rfl⟩ F.entry_list_extend (F.args_list_extend_2 _ _)
  (AutoSeq1.list_extend_list_list_0 l its.toArray n b vO.toArray n2 E4 (by rw[ac5];omega) ⋯) ⟨e,e2,?_⟩
 refine⟨.aQ,_,I.Zu (its':=its++vO) hH e (by simp) (r.append r2) ?_,rfl,q⟩
 rw[adt];omega
theorem len_rep{α:Type}(xs:List α)(k:Nat):(adl k xs).flatten.length=k*xs.length:=by
 induction k with
 | zero=>simp
 | succ k ih=>rw[ad6,List.flatten_cons,adt,ih,Nat.succ_mul,Nat.add_comm]
end
end L2
namespace Att
open PySem PySem.W PySem.Calls PyProof.Rows
theorem m6{P:Params}{h:Heap}:∀(ns:List Int) (vs:List Value),WellAll P h vs (ns.map WData.int)->IntsAre vs ns:=by
 intro ns
 induction ns with
 | nil =>
  intro vs w;rw[List.map_nil]at w;cases w;exact .nil
 | cons n ns ih =>
  intro vs w;rw[adh]at w;cases w with
  | cons a b =>
   cases a;exact .cons _ _ (ih _ b)
theorem BF{l:OpenLaw}{n:Nat}(hn:l.most=some n){P:Params}{h:Heap}{args:List WData}{vals:List Value}
  (A3:l.row.toRowW.claim.pre args=true) (Y7:WellAll P h vals args):
  ∃a vs ns,vals=[adw a]/\args=[WData.list (ns.map WData.int)]/\h.get? a=some {cls:=.type "list",data:=.seq vs.toArray}/\IntsAre vs ns/\ns.length<=n:=by
 have hsh:WShape.hasAll [] args [.list .int]=true:=(pre_splitW A3).1;have hc:l.pre.holds [] {args:=args}=true:=(pre_splitW A3).2;obtain⟨d,r,rfl,h1,h2⟩:=hasAllW_cons hsh;obtain rfl:=hasAllW_nil h2;obtain⟨xs,rfl,h3⟩:=hasW_list h1;obtain⟨ns,rfl⟩:=items_int h3;have hlen:ns.length<=n:=by
  unfold OpenLaw.pre at hc;have h4:(WTm.not (.lt (.lit (.int (n:Int))) (.len (.arg 0)))).holds [] {args:=[.list (ns.map .int)]}=true:=by
   have h4:=(holds_andW hc).1;rw[hn]at h4;exact h4
  have h5:=condW_of h4 (w_not (w_lt w_lit (w_len_list (w_arg rfl))));rw[acO]at h5;refine Nat.le_of_not_lt λq=>?_;have q':(n:Int)<((ns.length:Nat):Int):=by omega
  first
   | (rw[decide_eq_true q']at h5;exact absurd h5 ∅)
   | (simp at h5;omega)
 cases Y7 with
 | cons w1 w2 =>
  cases w2;cases w1 with
  | list ho iL=>exact⟨_,_,ns,rfl,rfl,ho,m6 ns _ iL,hlen⟩
theorem Bz(l:OpenLaw)(args:List WData):l.row.toRowW.claim.post args (.bool true) args=true:=
 postW_of (r:=l.row.toRowW) (X:=(true==true))
  (show WShape.has [] (.bool true) .bool=true by first|rfl|decide|simp [WShape.has,WShape.arms,WShape.armsAll])
  (show(WTm.eq .res (.lit (.bool true))).value [] {args:=args,res:=some (.bool true),after:=args}=some (.bool (true==true))from w_eq_bool (w_res rfl) w_lit) rfl
theorem uE{l:OpenLaw}{n:Nat}{q:adv}{loose:List Str}{XP:(Str->Option Value)->Heap->Prop}{YP:World->Heap->Prop}{d:DefRec}
  (hn:l.most=some n) (YH:d.params.defaults=[])
  (call:∀(w:World) (c5 bM:Shared) (mg mb:Str->Option Value) (fa:Addr) (o:Obj) (pm cd doc:Value) (a:Addr) (vs:List Value) (ns:List Int),
   Ground q loose [] XP w c5 mg mb bM.heap->YP w bM.heap ->
   bM.heap.get? fa=some o->o.data=.func (docDef d.name d.params d.body d.scope pm cd doc)->bM.heap.CodeRec cd d.name->mg d.name=some (.ref fa) ->
   bM.heap.get? a=some {cls:=.type "list",data:=.seq vs.toArray}->IntsAre vs ns->ns.length<=n->bM.gens=#[] ->
   codeAny (model l.prog w) callerA (.call (.ref fa) ⟨[.ref a],[]⟩) (λr s'=>r=.ok (.ret (.bool true))/\OldK bM.heap s'.heap/\s'.os=bM.os/\AllBare s'.gens) bM):
  WalkO q loose XP YP l.row.toRowW d [] (λf vs=>PySem.call f vs):=by
 intro w c5 bM mg mb G Y fa o pm cd doc dV kV ho hd ly hD hmg hg args vals as A3 YT hrd Y7 zI;obtain rfl:dV=.none:=Dflts.none hD YH;obtain rfl:kV=.none:=Dflts.noKw hD;obtain⟨a,vs,ns,rfl,rfl,Qq,hints,hlen⟩:=BF hn A3 Y7;refine enter_call (codeAny_mono (call w c5 bM mg mb fa o pm cd doc a vs ns G Y ho (fd_plain hd) ly hmg Qq hints hlen hg) λr s' hq=>?_);obtain⟨rfl,h2,h3,h4⟩:=hq;exact⟨.inl ⟨.bool true,.bool true,[],rfl,λ_=>rfl,.bool true,Bz l _,λ_=>⟨List.Pairwise.nil,λ_ hm=>(nomatch hm)⟩⟩,h2,h3,h4⟩
end Att
namespace L2
open PySem PySem.Spec PyProof.Rows
theorem fN:∀ {vs:List Value} {ns:List Int},IntsAre vs ns->Vals (ns.map V.int) vs
 | _,_,.nil=>.nil
 | _,_,.cons n t h=>.cons ⟨t,rfl⟩ (fN h)
def Only(H:Hp):Prop:=∀b,H b=none\/∃o xs,H b=some (.qv o (.lst xs))
theorem Fs{P:adv}{w:World}{K:acT}{mg mb:Str->Option Value}{CX:Az}{k:Nat}{fa a:Addr}{fd:adf}{x:Str}{sp:Sp}{bM:Shared}{vs:List Value}{ns:List Int}
  (KX:K.In bM.heap) (hns:bM.heap.Ns ac2 mg) (hb:bM.heap.Ns builtinsNs mb) (hbb:∀x:Str,x≠"__name__"->mb x=bootBuiltins x) (abQ:bM.heap.NoLimit) (hg:bM.gens=#[])
  (ha:bM.heap.get? a=some {cls:=.type "list",data:=.seq vs.toArray}) (hi:IntsAre vs ns) (hl:ns.length<=acZ) (hr:ei k callerA)
  (F:∀base:Heap,K.In base->base.Ns ac2 mg->cf P w K mg base CX k fa fd [x] sp) (YF:∀(s:Shared) (u:Value),BindsTo s fd ⟨[u],[]⟩ [(x,u)])
  (Mg:∀H:Hp,Only H->gp K H a (ns.map V.int)->sp [.ref a] H (λv _=>v=.bl true) λ_ _ _=>False)
  (hCX:∀H e s',CX [] H bM (λ_ _ _=>False) e s'->False):
  codeAny (model P w) callerA (.call (.ref fa) ⟨[.ref a],[]⟩) (λr s'=>r=.ok (.ret (.bool true))/\OldK bM.heap s'.heap/\s'.os=bM.os/\AllBare s'.gens) bM:=by
 have rv:=fN hi;have ab8:=hi.length
 -- from an abstract heap in which nothing but the script may be tracked
 have core:∀H:Hp,Only H->gp K H a (ns.map V.int)->ik P w H bM.heap->(∀b,H b≠none->b=a)->(H a≠none->K.lookup a=none) ->
   codeAny (model P w) callerA (.call (.ref fa) ⟨[.ref a],[]⟩) (λr s'=>r=.ok (.ret (.bool true))/\OldK bM.heap s'.heap/\s'.os=bM.os/\AllBare s'.gens) bM:=by
  intro H hO hS bI hA hK;have zk:∀ {b:Addr} {o:Obj},bM.heap.get? b=some o->H b=none->(sg bM.heap H).get? b=some o:=λe n=>E2 e n;have ZA:∀ {b:Addr} {o:Obj} {es:Array DictEntry} {ep:Nat},bM.heap.get? b=some o->o.data=.dict es ep->H b=none:=λ{b o es ep} e d=>by
   cases q:H b with
   | none=>rfl
   | some u =>
    have e':b=a:=hA b (by rw[q];simp)
    subst e';rw[ha]at e;cases e;have d':Data.seq vs.toArray _=Data.dict es ep:=d;cases d'
  have nsK:∀ {b:Addr} {m:Str->Option Value},bM.heap.Ns b m->(sg bM.heap H).Ns b m:=λ{b m} ⟨o,es,ep,e,d,r⟩=>⟨o,es,ep,zk e (ZA e d),d,r⟩;have hKb:K.In (sg bM.heap H):=λb o e=>zk (KX b o e) (by
   cases q:H b with
   | none=>rfl
   | some u =>
    have e':b=a:=hA b (by rw[q];simp)
    subst e';rw[hK (by rw[q];simp)]at e;cases e)
  have hM:Mod K mg (sg bM.heap H):=⟨hKb,nsK hns,⟨mb,nsK hb,hbb⟩,let ⟨mc,h1,h2⟩:=abQ;⟨mc,nsK h1,h2⟩⟩;have e0:xv P w K mg (sg bM.heap H) callerA [] bM H:=⟨rfl,hM,λb o e=>JG e,Nat.le_of_eq (A2 _ _),trivial,λb hb=>absurd (show b∈([]:List Addr)from hb) (by simp),bI,.of_eq hg⟩
  refine codeAny_mono ((F _ hKb (nsK hns)).run callerA [] bM H ⟨[.ref a],[]⟩ [.ref a] [.ref a] _ _ hr e0 (YF bM (.ref a)) (.cons rfl .nil) (Mg H hO hS)) λr s' h=>?_;cases r with
  | error e=>exact(hCX H e s' h).elim
  | ok fl =>
   cases fl with
   | next=>exact aez h
   | brk=>exact aez h
   | cont=>exact aez h
   | ret u =>
    obtain⟨v,H',os,bare,un,abU,r',q⟩:=h;have q':v=.bl true:=q;subst q';obtain rfl:u=Value.bool true:=r';refine⟨rfl,OldK.of_keep λb o e=>?_,os,bare⟩;cases q:H b with
    | none=>exact un.keep b o e q (by intro z;exact absurd (show b∈([]:List Addr)from z) (by simp)) (by simp)
    | some u =>
     rcases hO b with z|⟨ob,xs,z⟩
     ·rw[q]at z;cases z
     ·have z2:=un.rX b ob _ z
      obtain⟨e1,_⟩:=bI b _ z;obtain⟨e2,_⟩:=abU b _ z2;rw[e]at e1;cases e1;exact e2
 cases hk:K.lookup a with
 | some o =>
  -- the script is one of the module's own objects
  have e:=KX a o hk;rw[ha]at e;cases e;refine core (λ_=>none) (λ_=>.inl rfl) (.inr ⟨_,vs.toArray,_,hk,rfl,rfl,rfl,by rw[ac5,ab8];exact hl,by simpa using rv⟩) (λb u z=>by have z':(none:Option HO)=some u:=z;cases z') (λb z=>absurd rfl z) λz=>absurd rfl z
 | none =>
  refine core (λb=>if b=a then some (.qv {cls:=.type "list",data:=.seq vs.toArray} (.lst (ns.map V.int)))else none) (λb=>?_) (.inl (.inr ⟨{cls:=.type "list",data:=.seq vs.toArray},if_pos rfl⟩)) (λb u z=>?_) (λb z=>?_) λ_=>hk
  ·by_cases hb:b=a
   ·exact .inr ⟨_,_,if_pos hb⟩
   ·exact .inl (if_neg hb)
  ·by_cases hb:b=a
   ·have z':=(if_pos hb).symm.trans z
    cases z';subst hb;exact⟨ha,by rw[acO];exact hl,vs,_,rv,ha⟩
   ·have z':=(if_neg hb).symm.trans z
    cases z'
  ·by_cases hb:b=a
   ·exact hb
   ·exact absurd (if_neg hb) z
end L2
namespace L2
open PySem PySem.Spec PyProof.Rows
theorem KO{l:PySem.W.OpenLaw}{n k:Nat}{q:adv}{loose:List Str}{XP:(Str->Option Value)->Heap->Prop}{YP:World->Heap->Prop}{d:DefRec}{K:Params->acT}{CX:World->Az}{sp:World->Sp}{x:Str}
  (hn:l.most=some n) (E5:n<=acZ) (YH:d.params.defaults=[]) (hr:ei k callerA)
  (hY:∀(w:World) (h:Heap),YP w h->(K w.params).In h)
  (F:∀(w:World) (mg:Str->Option Value) (fa:Addr) (h:Heap),(K w.params).In h->h.Ns ac2 mg->mg d.name=some (.ref fa) ->
   ∃fd:adf,(∀(s:Shared) (u:Value),BindsTo s fd ⟨[u],[]⟩ [(x,u)]) /\
    ∀base:Heap,(K w.params).In base->base.Ns ac2 mg->cf l.prog w (K w.params) mg base (CX w) k fa fd [x] (sp w))
  (Mg:∀(w:World) (H:Hp) (a:Addr) (ns:List Int),ns.length<=n->Only H->gp (K w.params) H a (ns.map V.int)->sp w [.ref a] H (λv _=>v=.bl true) λ_ _ _=>False)
  (hCX:∀(w:World) (H:Hp) (s:Shared) (e:Value) (s':Shared),CX w [] H s (λ_ _ _=>False) e s'->False):
  PySem.W.WalkO q loose XP YP l.row.toRowW d [] (λf vs=>PySem.call f vs):=by
 refine Att.uE hn YH λw c5 bM mg mb fa o pm cd doc a vs ns G Y ho hd ly hmg Qq hints hlen hg=>?_;have KX:=hY w _ Y;obtain⟨fd,hb,hF⟩:=F w mg fa _ KX G.T.g hmg;exact Fs KX G.T.g G.T.b G.T.builtins G.T.nolimit hg Qq hints (adq hlen E5) hr hF hb (λH hO hS=>Mg w H a ns hlen hO hS) λH e s'=>hCX w H bM e s'
end L2
namespace L2
open PySem PySem.Spec PyProof.Rows
def inClass(s:Stmt)(j:Nat):Stmt:=match s with
 | .ClassDef _ _ _ body _ _ _ _ _ _ _=>body.getD j (.Pass ⟨0,0,0,0⟩)
 | _=>.Pass ⟨0,0,0,0⟩
def aI(s:Stmt):Arguments:=match s with
 | .FunctionDef _ a _ _ _ _ _ _ _ _=>a
 | _=>{posonlyargs:=[],args:=[],vararg:=none,kwonlyargs:=[],kw_defaults:=[],kwarg:=none,defaults:=[]}
def ak(s:Stmt):List Stmt:=match s with
 | .FunctionDef _ _ b _ _ _ _ _ _ _=>b
 | _=>[]
def ag(s:Stmt):Scope:=match s with
 | .FunctionDef _ _ _ _ _ _ sc _ _ _=>sc
 | _=>{kind:=.function,names:=[],isGenerator:=false,isCoroutine:=false}
abbrev ig:Az:=λ_ _ _ _ _ _=>False
abbrev E0:XK:=λ_ _ _=>False
theorem i7{X:Cx}:Passes ig X E0:=λ_ _ _ _ _ _ _ h=>h.elim
structure BL(K:acT)(x qual:Str)(st:Stmt)(f:Addr)(fd:adf):Prop where
 ex:∃(oc:Value) (od:Option Addr) (kV doc pm:Value) (an:Option Addr) (iu ct:Value) (JP:Array (Option Value)),
  fd=PySem.W.fnOf x qual (aI st) (ak st) (ag st) .none kV doc pm an iu ct/\K.lookup f=some ⟨oc,od,.func fd,JP⟩/\PySem.W.codeIn K iu qual=true
 kp:PySem.W.keepIn K (.ref f)=true
section
variable {P:adv}{w:World}{K:acT}{mg:Str->Option Value}{base:Heap}
theorem BL.ok{x qual:Str}{st:Stmt}{f:Addr}{fd:adf}{N ps:List Str}{k:Nat}{sp:Sp}(F:BL K x qual st f fd)(S:aB N ps (ag st))(len:∀vs H Q E,sp vs H Q E->vs.length=ps.length)
  (EZ:∀(iu:Value) (A:Around) (outer:List Env) (s:Shared) (H:Hp) (vs:List V) (Q:VK) (E:XK),ei k (A.deeper (envOfC qual (ag st) s.heap.objs.size f iu))->sp vs H Q E ->
   ∃t,rh (nO ig P w K mg base N qual (ag st) f iu A outer s H E).JF (ak st) t/\t {nx:=λ_ H'=>Q .aQ H',rt:=Q} (start N vs) H):cf P w K mg base ig (k+1) f fd ps sp:=by
 obtain⟨oc,od,kV,doc,pm,an,iu,ct,JP,rfl,lk,ly⟩:=F.ex;refine Yu lk ly S len λA outer s H vs Q E hr Mg=>?_;obtain⟨t,h,q⟩:=EZ iu A outer s H vs Q E hr Mg;exact⟨t,h.JF,q⟩
theorem BL.binds{x qual:Str}{st:Stmt}{f:Addr}{fd:adf}{ps:List Str}(F:BL K x qual st f fd)
  (h:∀(kV doc pm:Value) (an:Option Addr) (iu ct:Value) (us:List Value),us.length=ps.length->bindArgs (PySem.W.fnOf x qual (aI st) (ak st) (ag st) .none kV doc pm an iu ct) ⟨us,[]⟩=pure (ps.zip us)):Binds K fd ps []:=by
 obtain⟨oc,od,kV,doc,pm,an,iu,ct,JP,rfl,lk,ly⟩:=F.ex;exact .all (h kV doc pm an iu ct)
theorem aV{x qual:Str}{st:Stmt}{f:Addr}{oc:Value}{od an:Option Addr}{JP:Array (Option Value)}{kV doc pm iu ct:Value}(l:K.lookup f=some ⟨oc,od,.func (PySem.W.fnOf x qual (aI st) (ak st) (ag st) .none kV doc pm an iu ct),JP⟩)
  (c:PySem.W.codeIn K iu qual=true) (k:PySem.W.keepIn K (.ref f)=true):BL K x qual st f (PySem.W.fnOf x qual (aI st) (ak st) (ag st) .none kV doc pm an iu ct):=⟨⟨oc,od,kV,doc,pm,an,iu,ct,JP,rfl,l,c⟩,k⟩
end
def aq(H H':Hp):Prop:=∀b o,H b=some o->H' b=some o
theorem aq.refl(H:Hp):aq H H:=λ_ _ h=>h
theorem aq.trans{H H1 H2:Hp}(a:aq H H1)(b:aq H1 H2):aq H H2:=λc o h=>b c o (a c o h)
theorem aq.free{H H':Hp}(e:aq H H'){l:Addr}(h:H' l=Option.none):H l=Option.none:=by
 cases q:H l with
 | none=>rfl
 | some o =>
  rw[e l o q]at h;cases h
theorem aq.seq{K:acT}{H H':Hp}{a:Addr}{xs:List V}(e:aq H H')(h:gp K H a xs):gp K H' a xs:=by
 rcases h with(h|⟨o,h⟩)|h
 ·exact .inl (.inl (e _ _ h))
 ·exact .inl (.inr ⟨o,e _ _ h⟩)
 ·exact .inr h
end L2
namespace L2
open PySem PySem.Spec PyProof.Rows
section
variable {κ:Type}[DecidableEq κ]
def ie(kvs:List (κ×V))(k:κ):Option V:=(kvs.find? λkv=>decide (kv.1=k)).map (·.2)
def putK(kvs:List (κ×V))(k:κ)(v:V):List (κ×V):=
 if(kvs.any λkv=>decide (kv.1=k))=true then kvs.map (λkv=>if kv.1=k then(kv.1,v)else kv)else kvs++[(k,v)]
def mC(kvs:List (κ×V))(k:κ):List (κ×V):=kvs.filter λkv=>decide (kv.1≠k)
theorem k7{p:κ×V}{r:List (κ×V)}{k:κ}(e:p.1=k):ie (p::r) k=some p.2:=by simp [ie,List.find?_cons,e]
theorem k6{p:κ×V}{r:List (κ×V)}{k:κ}(e:¬p.1=k):ie (p::r) k=ie r k:=by simp [ie,List.find?_cons,e]
theorem wX(k:κ):∀kvs:List (κ×V),(kvs.any λkv=>decide (kv.1=k))=(ie kvs k).isSome
 | []=>rfl
 | p::r=>by
  rw[List.any_cons]
  by_cases e:p.1=k
  ·simp only[k7 e,decide_eq_true e,Bool.true_or,Option.isSome_some]
  ·rw[k6 e,decide_eq_false e,Bool.false_or];exact wX k r
theorem mL(kvs:List (κ×V))(k:κ)(v:V):(putK kvs k v).length<=kvs.length+1:=by
 unfold putK
 split
 ·rw[acO];omega
 ·rw[adt,adi,List.length_nil];omega
theorem gL.lF{o:Option V}{u:Option Value}(r:gL o u):o.isSome=u.isSome:=by
 cases o with
 | none=>cases u with
  | none=>rfl
  | some _=>exact(show False from r).elim
 | some _=>cases u with
  | none=>exact(show False from r).elim
  | some _=>rfl
theorem KV.val{kvs:List (κ×V)}{vs:List (κ×Value)}(r:KV kvs vs)(k:κ):gL (ie kvs k) (valueAt vs k):=by
 unfold KV at r
 induction r with
 | nil=>exact aeq
 | @cons p q ps qs h t ih =>
  obtain⟨h1,h2⟩:=h
  by_cases e:p.1=k
  ·have e':q.1=k:=h1.symm.trans e
   have b:valueAt (q::qs) k=some q.2:=by simp [valueAt,List.find?_cons,e']
   rw[k7 e,b];exact h2
  ·have e':¬q.1=k:=λz=>e (h1.trans z)
   have b:valueAt (q::qs) k=valueAt qs k:=by simp [valueAt,List.find?_cons,e']
   rw[k6 e,b];exact ih
theorem KV.any{kvs:List (κ×V)}{vs:List (κ×Value)}(r:KV kvs vs)(k:κ):(kvs.any λkv=>decide (kv.1=k))=vs.any λkv=>decide (kv.1=k):=by
 unfold KV at r
 induction r with
 | nil=>rfl
 | cons h t ih=>rw[List.any_cons,List.any_cons,ih,h.1]
theorem KV.repl{kvs:List (κ×V)}{vs:List (κ×Value)}(r:KV kvs vs)(k:κ){y:V}{u:Value}(ry:RelV y u):
  KV (kvs.map λkv=>if kv.1=k then(kv.1,y)else kv) (vs.map λkv=>if kv.1=k then(kv.1,u)else kv):=by
 unfold KV at r ⊢
 induction r with
 | nil=>exact .nil
 | @cons p q ps qs h t ih =>
  rw[adh,adh];refine .cons ?_ ih;obtain⟨h1,h2⟩:=h
  by_cases e:p.1=k
  ·rw[if_pos e,if_pos (h1.symm.trans e)];exact⟨h1,ry⟩
  ·rw[if_neg e,if_neg (λz=>e (h1.trans z))];exact⟨h1,h2⟩
theorem KV.put{kvs:List (κ×V)}{vs:List (κ×Value)}(r:KV kvs vs)(k:κ){y:V}{u:Value}(ry:RelV y u):KV (putK kvs k y) (stored vs k u):=by
 unfold putK stored;rw[r.any k]
 by_cases e:(vs.any λkv=>decide (kv.1=k))=true
 ·rw[if_pos e,if_pos e];exact r.repl k ry
 ·rw[if_neg e,if_neg e];exact Paired.snoc r ⟨rfl,ry⟩
theorem KV.drop{kvs:List (κ×V)}{vs:List (κ×Value)}(r:KV kvs vs)(k:κ):KV (mC kvs k) (without vs k):=by
 unfold KV at r ⊢;unfold mC without
 induction r with
 | nil=>exact .nil
 | @cons p q ps qs h t ih =>
  obtain⟨h1,h2⟩:=h;rw[List.filter_cons,List.filter_cons]
  by_cases e:p.1=k
  ·have a:¬decide (p.1≠k)=true:=by simp [e]
   have b:¬decide (q.1≠k)=true:=by simp [h1.symm.trans e]
   rw[if_neg a,if_neg b];exact ih
  ·have e':¬q.1=k:=λz=>e (h1.trans z)
   have a:decide (p.1≠k)=true:=by simp [e]
   have b:decide (q.1≠k)=true:=by simp [e']
   rw[if_pos a,if_pos b];exact .cons ⟨h1,h2⟩ ih
theorem KV.length{kvs:List (κ×V)}{vs:List (κ×Value)}(r:KV kvs vs):kvs.length=vs.length:=Paired.length r
theorem D0(kvs:List (κ×V))(k:κ):(mC kvs k).length<=kvs.length:=List.length_filter_le _ _
end
theorem vP{P:adv}{w:World}{k:Key}{u:Value}(r:RelV (kV k) u):(cc P w).is k u=true:=by
 cases k with
 | inl i=>obtain⟨t,e⟩:=(show∃t,u=Value.int i t from r);subst e;exact vZ P w i t
 | inr x=>obtain⟨t,e⟩:=(show∃t,u=Value.str x t from r);subst e;exact v7 P w x t
theorem qC{P:adv}{w:World}:∀ {ks:List Key} {us:List Value},Vals (ks.map kV) us->ItemsAre (cc P w) ks us
 | [],_,r=>by rw[List.map_nil]at r;cases r;exact .nil
 | k::ks,_,r=>by
  rw[adh]at r;cases r with
  | cons h t=>exact .cons (vP h) (qC t)
abbrev KT(H:Hp):List (List Key×V)->List (List Key×Addr×Value)->Prop:=Paired λp q=>p.1=q.1/\H q.2.1=some (.tup (p.1.map kV))/\RelV p.2 q.2.2
theorem KT.val{H:Hp}{kvs:List (List Key×V)}{xs:List (List Key×Addr×Value)}(r:KT H kvs xs)(k:List Key):gL (ie kvs k) ((atKey xs k).map (·.2)):=by
 induction r with
 | nil=>exact aeq
 | @cons p q ps qs h t ih =>
  obtain⟨h1,_,h2⟩:=h
  by_cases e:p.1=k
  ·have e':q.1=k:=h1.symm.trans e
   have b:atKey (q::qs) k=some q.2:=by simp [atKey,List.find?_cons,e']
   rw[k7 e,b];exact h2
  ·have e':¬q.1=k:=λz=>e (h1.trans z)
   have b:atKey (q::qs) k=atKey qs k:=by simp [atKey,List.find?_cons,e']
   rw[k6 e,b];exact ih
theorem KT.repl{H:Hp}{kvs:List (List Key×V)}{xs:List (List Key×Addr×Value)}(r:KT H kvs xs)(k:List Key){y:V}{u:Value}(ry:RelV y u):
  KT H (kvs.map λkv=>if kv.1=k then(kv.1,y)else kv) (xs.map (putAt k u)):=by
 induction r with
 | nil=>exact .nil
 | @cons p q ps qs h t ih =>
  rw[adh,adh];refine .cons ?_ ih;obtain⟨h1,h2,h3⟩:=h;unfold putAt
  by_cases e:p.1=k
  ·rw[if_pos e,if_pos (h1.symm.trans e)];exact⟨h1,h2,ry⟩
  ·rw[if_neg e,if_neg (λz=>e (h1.trans z))];exact⟨h1,h2,h3⟩
theorem KT.put{H:Hp}{kvs:List (List Key×V)}{xs:List (List Key×Addr×Value)}(r:KT H kvs xs)(k:List Key){b:Addr}{y:V}{u:Value}(hb:H b=some (.tup (k.map kV)))(ry:RelV y u):
  KT H (putK kvs k y) (storedH xs k b u):=by
 have e:(kvs.any λkv=>decide (kv.1=k))=(atKey xs k).isSome:=by
  rw[wX,(r.val k).lF,Option.isSome_map]
 unfold putK storedH;rw[e]
 by_cases q:(atKey xs k).isSome=true
 ·rw[if_pos q,if_pos q];exact r.repl k ry
 ·rw[if_neg q,if_neg q];exact Paired.snoc r ⟨rfl,hb,ry⟩
theorem KT.keeps{H H':Hp}{kvs:List (List Key×V)}{xs:List (List Key×Addr×Value)}(r:KT H kvs xs)(ht:∀b ys,H b=some (.tup ys)->H' b=some (.tup ys)):KT H' kvs xs:=
 Paired.Rp r λ_ _ z=>⟨z.1,ht _ _ z.2.1,z.2.2⟩
section
variable {P:adv}{w:World}{H:Hp}{h:Heap}{a:Addr}
theorem Mx{u:HO}(ok:ik P w H h)(e:Rd H a u):bU P w H h a u:=e.ok ok
theorem qh{kvs:List (Key×V)}(ok:ik P w H h)(e:Rd H a (.dK kvs)):kvs.length<=acZ/\(a==adY)=false/\∃vs,KV kvs vs/\h.DictOf (cc P w) a vs:=
 show bU P w H h a (.dK kvs)from Mx ok e
theorem nP{kvs:List (Key×V)}(ok:ik P w H h)(e:H a=some (.dK kvs)):kvs.length<=acZ/\(a==adY)=false/\∃vs,KV kvs vs/\h.DictOf (cc P w) a vs:=qh ok (.inl e)
theorem so{ks:List Key}(ok:ik P w H h)(e:H a=some (.tup (ks.map kV))):(tupleKind (cc P w)).is h ks a:=by
 obtain⟨_,its,r,o,h1,h2,n,h3⟩:=(show bU P w H h a (.tup (ks.map kV))from ok a _ e)
 exact⟨o,its.toArray,n,h1,h2,h3,by simpa using qC r⟩
theorem uU{kvs:List (List Key×V)}(ok:ik P w H h)(e:Rd H a (.dT kvs)):kvs.length<=acZ/\(a==adY)=false /\
  ∃xs,KT H kvs xs/\h.DictOfH (tupleKind (cc P w)) a xs:=by
 obtain⟨z,y,xs,r,o,es,ep,h1,h2,h3,h4,h5⟩:=(show bU P w H h a (.dT kvs)from Mx ok e)
 refine⟨z,y,xs,r,o,es,ep,h1,h2,h3,h4,λx hx=>?_,h5⟩;have all:∀ {l:List (List Key×V)} {m:List (List Key×Addr×Value)},KT H l m->∀x∈m,(tupleKind (cc P w)).is h x.1 x.2.1:=by
  intro l m q
  induction q with
  | nil=>intro x hx;exact nomatch hx
  | @cons p q ps qs hq t ih =>
   intro x hx;rcases acV.mp hx with e|hx
   ·subst e
    exact so ok (by rw[<- hq.1];exact hq.2.1)
   ·exact ih x hx
 exact all r x hx
theorem XI{kvs:List (List Key×V)}(ok:ik P w H h)(e:H a=some (.dT kvs)):kvs.length<=acZ/\(a==adY)=false /\
  ∃xs,KT H kvs xs/\h.DictOfH (tupleKind (cc P w)) a xs:=uU ok (.inl e)
end
def qY(H:Hp)(a:Addr)(y:V)(r:Option V):Prop:=
 (∃kvs k,Rd H a (.dK kvs)/\y=kV k/\r=ie kvs k)\/∃kvs k b,Rd H a (.dT kvs)/\y=.ref b/\H b=some (.tup (k.map kV))/\r=ie kvs k
def Ib(H:Hp)(a:Addr)(y v:V)(H':Hp):Prop:=
 (∃kvs k,H a=some (.dK kvs)/\y=kV k/\kvs.length<acZ/\H'=upd H a (.dK (putK kvs k v))) \/
 ∃kvs k b,H a=some (.dT kvs)/\y=.ref b/\H b=some (.tup (k.map kV))/\kvs.length<acZ/\H'=upd H a (.dT (putK kvs k v))
theorem qY.k{H:Hp}{a:Addr}{kvs:List (Key×V)}{k:Key}(e:H a=some (.dK kvs)):qY H a (kV k) (ie kvs k):=.inl ⟨kvs,k,.inl e,rfl,rfl⟩
theorem Ib.k{H:Hp}{a:Addr}{kvs:List (Key×V)}{k:Key}{v:V}(e:H a=some (.dK kvs))(hl:kvs.length<acZ):Ib H a (kV k) v (upd H a (.dK (putK kvs k v))):=.inl ⟨kvs,k,e,rfl,hl,rfl⟩
section
variable {X:Cx}{pins:List (Addr×Obj)}{σ:St}{H:Hp}{s:Shared}{a:Addr}{y v:V}{u r:Value}{o:Option V}{A:Around}{E:Value->Shared->Prop}
theorem Inv.big(I:Inv X pins σ H s):adY<s.heap.objs.size:=by
 have h:ac2<s.heap.objs.size:=(I.mod.glob.keeps I.bk).lt;exact Nat.lt_trans ∅ h
theorem AO{Q:Value->Shared->Prop}(hu:A.units+1<cLine)(I:Inv X pins σ H s)(g:qY H a y (some v))(ry:RelV y u)(h:∀w' s',Inv X pins σ H s'->RelV v w'->Q w' s'):
  wpAny (model X.prog X.w) A (getItem (.ref a) u) Q E s:=by
 rcases g with⟨kvs,k,e,ey,l⟩|⟨kvs,k,b,e,ey,eb,l⟩
 ·subst ey
  obtain⟨z,hd,vs,rel,dd⟩:=qh I.bI e;obtain⟨w',hw,xr⟩:=gL.some_of (v:=v) (o:=valueAt vs k) (by rw[l];exact rel.val k)
  exact wpAny_getItem_of (vP ry) dd.mapOf hw (h w' _ (I.tok _) xr)
 ·subst ey
  cases(show u=adw b from ry)
  obtain⟨z,hd,xs,rel,dd⟩:=uU I.bI e;obtain⟨w',hw,xr⟩:=gL.some_of (v:=v) (o:=(atKey xs k).map (·.2)) (by rw[l];exact rel.val k)
  obtain⟨p,hp,Wl⟩:=Option.map_eq_some_iff.mp hw;refine wpAny_getItem_heap (tupleKind_room_in1 hu) (so I.bI eb) dd hp ?_;rw[Wl];exact h w' _ (I.tok _) xr
theorem Iv{Q:Value->Shared->Prop}(hu:A.units+1<cLine)(I:Inv X pins σ H s)(g:qY H a y o)(ry:RelV y u)(h:∀s',Inv X pins σ H s'->Q (.bool (!o.isSome)) s'):
  wpAny (model X.prog X.w) A (aek .NotIn u (.ref a)) Q E s:=by
 rcases g with⟨kvs,k,e,ey,l⟩|⟨kvs,k,b,e,ey,eb,l⟩
 ·subst ey
  obtain⟨z,hd,vs,rel,dd⟩:=qh I.bI e;refine wpAny_notIn_of (vP ry) hd dd.mapOf ?_;rw[<- (rel.val k).lF,<- l];exact h _ (I.tok _)
 ·subst ey
  cases(show u=adw b from ry)
  obtain⟨z,hd,xs,rel,dd⟩:=uU I.bI e;refine wpAny_notIn_heap (tupleKind_room_in1 hu) (so I.bI eb) hd dd ?_;have q:=(rel.val k).lF;rw[Option.isSome_map]at q;rw[<- q,<- l];exact h _ (I.tok _)
theorem rL{h':Heap}{t':Nat}{ob:HO}(I:Inv X pins σ H s)(mu:WW (H a))(hs:aeD a s.heap h')(he:∃q,h'.get? a=some q)(new:bU X.prog X.w (upd H a ob) h' a ob):
  Inv X pins σ (upd H a ob) {s with heap:=h',toks:=t'}:=
 I.write (x:=a) (e:=a) mu (.inl rfl) (λb q hb z=>(hs.2 b hb).trans z) he new
theorem DY{P:adv}{w:World}{H':Hp}{h':Heap}{kvs:List (Key×V)}{vs:List (Key×Value)}(z:kvs.length<=acZ)(hd:(a==adY)=false)(rel:KV kvs vs)(dd:h'.DictOf (cc P w) a vs):
  bU P w H' h' a (.dK kvs):=⟨z,hd,vs,rel,dd⟩
theorem AQ{H':Hp}{Q:Unit->Shared->Prop}(hu:A.units+1<cLine)(I:Inv X pins σ H s)(g:Ib H a y v H')(ry:RelV y u)(rv:RelV v r)(h:∀s',Inv X pins σ H' s'->Q () s'):
  wpAny (model X.prog X.w) A (setItem (.ref a) u r) Q E s:=by
 rcases g with⟨kvs,k,e,ey,l,eH⟩|⟨kvs,k,b,e,ey,eb,l,eH⟩
 ·subst ey eH
  obtain⟨z,hd,vs,rel,dd⟩:=nP I.bI e;have hz:vs.length<=acZ:=by rw[<- rel.length];exact z
  have hl:(putK kvs k v).length<=acZ:=by have:=mL kvs k v;omega
  refine wpAny_setItem_pairs (hsz:=hz) (vP ry) dd λh' O9 hs=>h _ ?_;have he:∃q,h'.get? a=some q:=let ⟨q,_,_,hq,_⟩:=O9;⟨q,hq⟩;exact rL I (by rw[e];exact aeq) hs he (DY hl hd (rel.put k rv) O9)
 ·subst ey eH
  cases(show u=adw b from ry)
  obtain⟨z,hd,xs,rel,dd⟩:=XI I.bI e;have hz:xs.length<=acZ:=by rw[<- Paired.length rel];exact z
  have hl:(putK kvs k v).length<=acZ:=by have:=mL kvs k v;omega
  refine wpAny_setItem_heap (hsz:=hz) (tupleKind_room_in1 hu) (so I.bI eb) dd λh' O9 hs=>h _ ?_;obtain⟨q,es,ep,hq,h2,h3,h4,_,h5⟩:=O9;refine rL I (by rw[e];exact aeq) hs ⟨q,hq⟩ ⟨hl,hd,_,(rel.put k eb rv).keeps λc ys ec=>?_,q,es,ep,hq,h2,h3,h4,h5⟩
  rw[au (fE ec e (λz=>nomatch z))];exact ec
end
section
variable {X:Cx}{pins:List (Addr×Obj)}{σ:St}{H:Hp}{s:Shared}{a:Addr}{kvs:List (Key×V)}{k:Key}{u:Value}{A:Around}{E:Value->Shared->Prop}
theorem Xx{v:V}{more:List Value}{Q:Value->Shared->Prop}(I:Inv X pins σ H s)(e:H a=some (.dK kvs))(ry:RelV (kV k) u)(l:ie kvs k=some v)(hm:more=[]\/∃x,more=[x])
  (h:∀w' s',Inv X pins σ (upd H a (.dK (mC kvs k))) s'->RelV v w'->Q w' s'):wpAny (model X.prog X.w) A (call (.builtin "dict.pop") (.ref a::u::more)) Q E s:=by
 obtain⟨z,hd,vs,rel,dd⟩:=nP I.bI e;obtain⟨w',hw,xr⟩:=gL.some_of (v:=v) (o:=valueAt vs k) (by rw[<- l];exact rel.val k)
 have hp:(keyPart u).isSome=true:=by
  cases k with
  | inl i=>obtain⟨t,q⟩:=(show∃t,u=Value.int i t from ry);subst q;rfl
  | inr x=>obtain⟨t,q⟩:=(show∃t,u=Value.str x t from ry);subst q;rfl
 have ha:argsOk "dict.pop" ⟨.ref a::u::more,[]⟩:=by
  rcases hm with q|⟨x,q⟩
  ·subst q;exact PySem.F.args_dict_pop_2 _ _
  ·subst q;exact PySem.F.args_dict_pop_3 _ _ _
 refine call_meetsIn PySem.F.slot_dict_pop dd.typeIs PySem.F.entry_dict_pop ha (meets_dict_pop_there (cc X.prog X.w) a (vP ry) more hm hp)
  ⟨vs,w',dd,by rw[<- rel.length];exact z,hw,λh' O9 hs=>h w' _ ?_ xr⟩
 have he:∃q,h'.get? a=some q:=let ⟨q,_,_,hq,_⟩:=O9;⟨q,hq⟩;exact rL I (by rw[e];exact aeq) hs he (DY (adq (D0 kvs k) z) hd (rel.drop k) O9)
theorem Xw{Q:Value->Shared->Prop}(I:Inv X pins σ H s)(e:Rd H a (.dK kvs))(h:∀t s',Inv X pins σ H s'->Q (.int kvs.length t) s'):wpAny (model X.prog X.w) A (call (.builtin "len") [.ref a]) Q E s:=by
 obtain⟨z,hd,vs,rel,dd⟩:=qh I.bI e;refine call_len_dict hd dd (by rw[<- rel.length];rw[sizeLine_eq]at z;omega) ?_
 rw[<- rel.length];exact h _ _ (I.tok _)
end
def MS(i:Expr):Prop:=∀ov iv,subscripted i false ov iv=operate [ov,iv] (getItem ov iv)
theorem Ks{prog:adv}{w:World}{A:Around}{E:Value->Shared->Prop}{s:Shared}{env:Env}{value slice:Expr}{pos:Pos}{T id:String}{Q:Value->Shared->Prop}
  (hl:typeLookup (.type T) "__getitem__"=pure (some (.builtin id))) (hs:MS slice)
  (h:wpAny (model prog w) A (eval value env) (λo bM=>wpAny (model prog w) A (eval slice env) (λi uk=>uk.TypeIs o T/\wpAny (model prog w) A (getItem o i) Q E uk) E bM) E s):
  wpAny (model prog w) A (eval (.Subscript value slice pos) env) Q E s:=by
 refine Subscript_ (wpAny_mono h (λo bM Jd=>wpAny_mono Jd (λi uk Fe=>?_) λ_ _ x=>x) λ_ _ x=>x);obtain⟨hT,Fe⟩:=Fe;unfold subscriptTail;refine acL ?_;rw[getitemInPython_of_ne hT.not_modules];refine acL (wpAny_specialOf hT hl ?_);have fin:wpAny (model prog w) A (subscripted slice false o i) (λr wM=>wpAny (model prog w) A (letTemporaryGo value o r >>= λ_=>pure r) Q E wM) E uk:=by
  rw[hs o i];exact wpAny_operating (wpAny_mono Fe (λr wM Je=>acL (wpAny_letTemporaryGo (acP Je))) λ_ _ x=>x)
 first
  | exact acP (acL fin)
  | exact acL (acP (acL fin))
  | exact acL fin
theorem uS{X:Cx}{pins:List (Addr×Obj)}{σ:St}{H:Hp}{s:Shared}{a:Addr}{y:V}{o:Option V}(I:Inv X pins σ H s)(g:qY H a y o):s.TypeIs (.ref a) "dict":=by
 rcases g with⟨kvs,k,e,_,_⟩|⟨kvs,k,b,e,_,_,_⟩
 ·obtain⟨_,_,vs,_,dd⟩:=qh I.bI e
  exact dd.typeIs
 ·obtain⟨_,_,xs,_,dd⟩:=uU I.bI e
  exact dd.typeIs
def aa9(td ty:TE):TE:=λσ H Q=>td σ H λx H1=>ty σ H1 λy H2=>∃a v,x=.ref a/\qY H2 a y (some v)/\Q v H2
def aaL(td ty tv:TE):TS:=λD σ H=>tv σ H λv H1=>td σ H1 λx H2=>ty σ H2 λy H3=>∃a H4,x=.ref a/\Ib H3 a y v H4/\D.nx σ H4
section
variable {X:Cx}{o i e value:Expr}{pos pos' yT:Pos}{td ty tv:TE}
theorem JX(hu:X.A.units+1<cLine)(ho:PE X o td)(hi:PE X i ty)(hs:MS i):PE X (.Subscript o i pos) (aa9 td ty):=by
 intro pins s σ H Q I h;refine Ks PySem.F.slot_dict_getitem.lookup hs (cB (ho pins s σ H _ I h) λu s1 ⟨x,H1,I1,rx,q1⟩=>cB (hi pins s1 σ H1 _ I1 q1) λiv s2 ⟨y,H2,I2,ry,a,v,ex,g,q2⟩=>?_);subst ex;obtain rfl:u=adw a:=rx;exact⟨uS I2 g,AO hu I2 g ry λw' s3 I3 xr=>⟨v,H2,I3,xr,q2⟩⟩
theorem Af(hu:X.A.units+1<cLine)(ho:PE X o td)(hi:PE X i ty)(hv:PE X value tv)(hs:swapsWith value (some (.Subscript o i pos')) pos.line X.env=pure false):
  PS X (.Assign [.Subscript o i pos'] value pos) (aaL td ty tv):=by
 intro pins s σ H D I h;refine wpAny_Assign_Subscript (cB (hv pins s σ H _ I h) λr s1 ⟨v,H1,I1,rv,q1⟩=>cB (ho pins s1 σ H1 _ I1 q1) λu s2 ⟨x,H2,I2,rx,q2⟩=>cB (hi pins s2 σ H2 _ I2 q2) λiv s3 ⟨y,H3,I3,ry,a,H4,ex,g,q3⟩=>?_) hs;subst ex;obtain rfl:u=adw a:=rx;exact AQ hu I3 g ry rv λs4 I4=>⟨σ,H4,I4,q3⟩
end
theorem DX{P:adv}{w:World}{H:Hp}(h:Heap)(hb:adY<h.objs.size):bU P w H (h.push {cls:=.type "dict",data:=.dict #[]}) h.objs.size (.dK []):=
 ⟨adz _,beq_eq_false_iff_ne.mpr (aec (adB hb)),[],.nil,Heap.DictOf.new h⟩
def GJ:TE:=λ_ H Q=>∀p,H p=none->Q (.ref p) (upd H p (.dK []))
section
variable {X:Cx}{pos:Pos}
theorem gX:PE X (.Dict [] [] pos) GJ:=λpins s σ H Q I h =>
 wpAny_Dict_empty ⟨.ref s.heap.objs.size,_,I.laid (a:=s.heap.objs.size) (o:=.dK []) (t':=s.toks) (λ_ _ q=>acM _ q) (acS _) (DX s.heap I.big),rfl,h _ (I.bI.fresh (acS _))⟩
end
def uo:List (TE×TE)->St->Hp->(List (V×V)->Hp->Prop)->Prop
 | [],_,H,Q=>Q [] H
 | (tk,tv)::r,σ,H,Q=>tk σ H λx H1=>tv σ H1 λy H2=>uo r σ H2 λps H3=>Q ((x,y)::ps) H3
structure M1(X:Cx)(o:Expr)(m:Str)(apos:Pos)(e:Expr)(cn:Pos):Prop where
 base:aev o m X.env (eval o X.env)=eval o X.env
 few:((backTo cn (acW [e] X.env)).all (λx=>!x.1)&&(backToKw cn (aeB [] X.env)).all (λx=>x.1.isSome)
 &&decide (([e]:List Expr).length+([]:List Keyword).length+(if([]:List Keyword).isEmpty then 0 else 1)<30))=true
 line:(apos.endLine==cn.line)=true
 trees:backTo cn (acW [e] X.env)=[(false,eval e X.env)]
def IsD(H:Hp)(a:Addr):Prop:=(∃kvs,Rd H a (.dK kvs))\/∃kvs,Rd H a (.dT kvs)
theorem Qy{X:Cx}{pins:List (Addr×Obj)}{σ:St}{H:Hp}{s:Shared}{a:Addr}(I:Inv X pins σ H s)(d:IsD H a):
  s.TypeIs (.ref a) "dict"/\(∀b,adw a=.ref b->∃ob,s.heap.get? b=some ob/\ob.dict=none)/\(a==adY)=false:=by
 rcases d with⟨kvs,e⟩|⟨kvs,e⟩
 ·obtain⟨_,hd,vs,_,dd⟩:=qh I.bI e
  refine⟨dd.typeIs,λb q=>?_,hd⟩;cases q;obtain⟨ob,_,_,h1,h2,_⟩:=dd;exact⟨ob,h1,h2.2.1⟩
 ·obtain⟨_,hd,xs,_,dd⟩:=uU I.bI e
  refine⟨dd.typeIs,λb q=>?_,hd⟩;cases q;obtain⟨ob,_,_,h1,h2,_⟩:=dd;exact⟨ob,h1,h2.2.1⟩
def Vx(td ty:TE):TE:=λσ H Q=>td σ H λx H1=>∃a,x=.ref a/\IsD H1 a/\ty σ H1 λy H2=>∃kvs k v,H2 a=some (.dK kvs)/\y=kV k/\ie kvs k=some v/\Q v (upd H2 a (.dK (mC kvs k)))
section
variable {X:Cx}{o e f:Expr}{apos cn:Pos}{td ty tx:TE}
theorem wt(ho:PE X o td)(he:PE X e ty)(m:M1 X o "pop" apos e cn):PE X (.Call (.Attribute o "pop" apos) [e] [] cn) (Vx td ty):=by
 intro pins s σ H Q I h;refine wpAny_Call_method m.base m.few m.line PySem.F.plainAttrs_dict PySem.F.slot_dict_pop PySem.F.type_dict_pop (cB (ho pins s σ H _ I h) λu s1 ⟨x,H1,I1,rx,a,ex,d,q1⟩=>?_);subst ex;obtain rfl:u=adw a:=rx;obtain⟨t1,t2,_⟩:=Qy I1 d;refine⟨t1,t2,?_⟩;rw[m.trees];refine Calls.callWith_builtin rfl (Calls.evalArgs_plain (Calls.spliced_cons (cB (he pins s1 σ H1 _ I1 q1) λiv s2 ⟨y,H2,I2,ry,kvs,k,v,ea,ey,l,q2⟩=>Calls.spliced_nil ?_)));subst ey;exact Xx I2 ea ry l (.inl rfl) λw' s3 I3 xr=>⟨v,_,I3,xr,q2⟩
end
end L2
namespace Vc
open PySem L2
class KF where
 K:acT
 /-- where the classes of exceptions stand -/
 cls:Str->Addr:=λ_=>0
 /-- the code tables that a lambda fills: where,as they were,the lambda's place,its name -/
 tabs:List (Addr×Array Value×Pos×Str):=[]
variable [KF]
inductive D where
 | aQ|bl (b:Bool)|int (i:Int)|str (x:Str)|tup (xs:List D)|lst (xs:List D)|dct (kvs:List (D×D))|exc (c:Str)
 /-- the law's own list: read,never changed -/
 | jn (ns:List Int)
 /-- a dict with whole numbers for keys -/
 | dB (kvs:List (Int×D))
 /-- kept points: the word,the count,the next name,the points by their names -/
 | kp (w:Str) (c e:Int) (kvs:List (Int×D))
def abF(a:Addr)(c:Str):HO:=.ext λh=>∃o,h.get? a=some o/\o.cls=.ref (KF.cls c)
def kD:Key->D
 | .inl i=>.int i
 | .inr x=>.str x
def HP(w:Str)(c e:Int)(ad:Addr):List (Str×V):=[("way",.str w),("count",.int c),("points_by_name",.ref ad),("ever_put",.int e)]
mutual
inductive Rep (F:Hp):V->D->Prop where
 | aQ:Rep F .aQ .aQ
 | bl (b:Bool):Rep F (.bl b) (.bl b)
 | int (i:Int):Rep F (.int i) (.int i)
 | str (x:Str):Rep F (.str x) (.str x)
 | tup {a:Addr} {vs:List V} {ds:List D}:F a=some (.tup vs)->aE F vs ds->Rep F (.ref a) (.tup ds)
 | lst {a:Addr} {vs:List V} {ds:List D}:Rd F a (.lst vs)->aE F vs ds->Rep F (.ref a) (.lst ds)
 | jn {a:Addr} {ns:List Int}:gp KF.K F a (ns.map V.int)->Rep F (.ref a) (.jn ns)
 | exc {a:Addr} {c:Str}:F a=some (abF a c)->Rep F (.ref a) (.exc c)
 | Iz {a:Addr} {ks:List (List Key×V)} {kvs:List (D×D)}:F a=some (.dT ks)->rm F ks kvs->Rep F (.ref a) (.dct kvs)
 | dB {a:Addr} {ks:List (Key×V)} {kvs:List (Int×D)}:F a=some (.dK ks)->b9 F ks kvs->Rep F (.ref a) (.dB kvs)
 | kp {a dx ad:Addr} {w:Str} {c e:Int} {ks:List (Key×V)} {kvs:List (Int×D)}:F a=some (.ins (KF.cls "Kept") dx (HP w c e ad))->F ad=some (.dK ks)->b9 F ks kvs->Rep F (.ref a) (.kp w c e kvs)
inductive b9 (F:Hp):List (Key×V)->List (Int×D)->Prop where
 | nil:b9 F [] []
 | cons {i:Int} {v:V} {d:D} {ks:List (Key×V)} {kvs:List (Int×D)}:Rep F v d->b9 F ks kvs->b9 F ((.inl i,v)::ks) ((i,d)::kvs)
inductive xE (F:Hp):List (Key×V)->List (D×D)->Prop where
 | nil:xE F [] []
 | cons {k:Key} {v:V} {d:D} {ks:List (Key×V)} {kvs:List (D×D)}:Rep F v d->xE F ks kvs->xE F ((k,v)::ks) ((kD k,d)::kvs)
inductive rm (F:Hp):List (List Key×V)->List (D×D)->Prop where
 | nil:rm F [] []
 | cons {k:List Key} {v:V} {d:D} {ks:List (List Key×V)} {kvs:List (D×D)}:Rep F v d->rm F ks kvs->rm F ((k,v)::ks) ((.tup (k.map kD),d)::kvs)
inductive aE (F:Hp):List V->List D->Prop where
 | nil:aE F [] []
 | cons {v:V} {d:D} {vs:List V} {ds:List D}:Rep F v d->aE F vs ds->aE F (v::vs) (d::ds)
end
theorem Rd.mono{F F':Hp}(s:aq F F'){a:Addr}{u:HO}(h:Rd F a u):Rd F' a u:=by
 rcases h with h|⟨o,h⟩
 ·exact .inl (s a _ h)
 ·exact .inr ⟨o,s a _ h⟩
mutual
theorem Rep.mono{F F':Hp}(s:aq F F'){v:V}{d:D}:Rep F v d->Rep F' v d
 | .aQ=>.aQ
 | .bl b=>.bl b
 | .int i=>.int i
 | .str x=>.str x
 | .tup h r=>.tup (s _ _ h) (aE.mono s r)
 | .lst h r=>.lst (Rd.mono s h) (aE.mono s r)
 | .jn h=>.jn (s.seq h)
 | .exc h=>.exc (s _ _ h)
 | .Iz h r=>.Iz (s _ _ h) (rm.mono s r)
 | .dB h r=>.dB (s _ _ h) (b9.mono s r)
 | .kp h1 h2 r=>.kp (s _ _ h1) (s _ _ h2) (b9.mono s r)
theorem b9.mono{F F':Hp}(s:aq F F'){ks:List (Key×V)}{kvs:List (Int×D)}:b9 F ks kvs->b9 F' ks kvs
 | .nil=>.nil
 | .cons h r=>.cons (Rep.mono s h) (b9.mono s r)
theorem xE.mono{F F':Hp}(s:aq F F'){ks:List (Key×V)}{kvs:List (D×D)}:xE F ks kvs->xE F' ks kvs
 | .nil=>.nil
 | .cons h r=>.cons (Rep.mono s h) (xE.mono s r)
theorem rm.mono{F F':Hp}(s:aq F F'){ks:List (List Key×V)}{kvs:List (D×D)}:rm F ks kvs->rm F' ks kvs
 | .nil=>.nil
 | .cons h r=>.cons (Rep.mono s h) (rm.mono s r)
theorem aE.mono{F F':Hp}(s:aq F F'){vs:List V}{ds:List D}:aE F vs ds->aE F' vs ds
 | .nil=>.nil
 | .cons h r=>.cons (Rep.mono s h) (aE.mono s r)
end
theorem aE.length{F:Hp}:∀ {vs:List V} {ds:List D},aE F vs ds->vs.length=ds.length
 | _,_,.nil=>rfl
 | _,_,.cons _ r=>by simp [aE.length r]
theorem aE.append{F:Hp}:∀ {vs ws:List V} {ds es:List D},aE F vs ds->aE F ws es->aE F (vs++ws) (ds++es)
 | _,_,_,_,.nil,s=>s
 | _,_,_,_,.cons h r,s=>.cons h (aE.append r s)
theorem aE.get{F:Hp}:∀ {vs:List V} {ds:List D} {i:Nat} {d:D},aE F vs ds->ds[i]?=some d->∃v,vs[i]?=some v/\Rep F v d
 | _,_,_,_,.nil,e=>by simp at e
 | _,_,0,_,.cons h _,e=>by simp at e;subst e;exact⟨_,by simp,h⟩
 | _,_,i+1,_,.cons _ r,e=>by
  obtain⟨v,h1,h2⟩:=aE.get (i:=i) r (by simpa using e)
  exact⟨v,by simpa using h1,h2⟩
theorem aE.get'{F:Hp}:∀ {vs:List V} {ds:List D} {i:Nat} {v:V},aE F vs ds->vs[i]?=some v->∃d,ds[i]?=some d/\Rep F v d
 | _,_,_,_,.nil,e=>by simp at e
 | _,_,0,_,.cons h _,e=>by simp at e;subst e;exact⟨_,by simp,h⟩
 | _,_,i+1,_,.cons _ r,e=>by
  obtain⟨v,h1,h2⟩:=aE.get' (i:=i) r (by simpa using e)
  exact⟨v,by simpa using h1,h2⟩
theorem aE.set{F:Hp}{v:V}{d:D}(h:Rep F v d):∀ {vs:List V} {ds:List D} (i:Nat),aE F vs ds->aE F (vs.set i v) (ds.set i d)
 | _,_,_,.nil=>.nil
 | _,_,0,.cons _ t=>.cons h t
 | _,_,i+1,.cons q t=>.cons q (aE.set h i t)
theorem aE.take{F:Hp}:∀ {vs:List V} {ds:List D} (n:Nat),aE F vs ds->aE F (vs.take n) (ds.take n)
 | _,_,0,_=>.nil
 | _,_,_+1,.nil=>.nil
 | _,_,n+1,.cons h r=>.cons h (aE.take n r)
theorem aE.drop{F:Hp}:∀ {vs:List V} {ds:List D} (n:Nat),aE F vs ds->aE F (vs.drop n) (ds.drop n)
 | _,_,0,r=>r
 | _,_,_+1,.nil=>.nil
 | _,_,n+1,.cons _ r=>aE.drop n r
theorem aE.rep{F:Hp}{vs:List V}{ds:List D}(r:aE F vs ds):∀n:Nat,aE F (adl n vs).flatten (adl n ds).flatten
 | 0=>.nil
 | n+1=>by
  rw[ad6,ad6,List.flatten_cons,List.flatten_cons];exact r.append (aE.rep r n)
def bW(F H:Hp)(v:V)(d:D):Prop:=match d with
 | .lst xs=>∃a vs,v=.ref a/\Rd H a (.lst vs)/\aE F vs xs
 | .dB kvs=>∃a ks,v=.ref a/\H a=some (.dK ks)/\b9 F ks kvs
 | .kp w c e kvs=>∃a dx ad ks,v=.ref a/\H a=some (.ins (KF.cls "Kept") dx (HP w c e ad))/\H ad=some (.dK ks)/\b9 F ks kvs
 | d=>Rep F v d
theorem aJ{H:Hp}{p:Addr}{o:HO}(h:H p=none):aq H (upd H p o):=λb u e=>by
 rw[au (bg e h)];exact e
theorem dC{F H:Hp}(s:aq F H){a:Addr}{o:HO}(e:H a=some o):∃F',aq F F'/\aq F' H/\F' a=some o/\∀c u,F' c=some u->F c=some u\/(c=a/\u=o):=by
 cases ef:F a with
 | none =>
  refine⟨upd F a o,aJ ef,λb u q=>?_,ay,λc u q=>?_⟩
  ·by_cases hb:b=a
   ·subst hb;rw[ay]at q;cases q;exact e
   ·rw[au hb]at q;exact s b u q
  ·by_cases hb:c=a
   ·subst hb;rw[ay]at q;cases q;exact .inr ⟨rfl,rfl⟩
   ·rw[au hb]at q;exact .inl q
 | some u =>
  have:=s a u ef;rw[e]at this;cases this;exact⟨F,aq.refl _,s,ef,λ_ _ z=>.inl z⟩
def dl:HO->Bool
 | .dK _=>true
 | .ins _ _ _=>true
 | _=>false
structure O where
 fp:Addr->List Addr
 rep:Hp->Hp->Addr->Prop
 self:∀a,a∈fp a
 solid:∀ {F H:Hp} {a b:Addr} {φ:Heap->Prop},rep F H a->b∈fp a->H b≠some (.ext φ)
 nt:∀ {F H:Hp} {a b:Addr} {vs:List V},rep F H a->b∈fp a->H b≠some (.tup vs)
 mono:∀ {F F' H H':Hp} {a:Addr},aq F F'->(∀b∈fp a,H' b=H b)->rep F H a->rep F' H' a
 /-- what it is as data,where it is that -/
 view:Option D:=none
 sees:∀ {F H:Hp} {a:Addr} {d:D},rep F H a->view=some d->bW F H (.ref a) d:=by intro _ _ _ _ _ e;cases e
 lend:∀ {F H:Hp} {a:Addr} {d:D},aq F H->rep F H a->view=some d->∃F',aq F F'/\aq F' H/\Rep F' (.ref a) d/\∀c u,F' c=some u->F c=some u\/(dl u=true/\c∈fp a):=by intro _ _ _ _ _ _ e;cases e
 /-- where it stands -/
 loc:Option Addr:=none
 Jw:∀ {F H:Hp} {a b:Addr},rep F H a->loc=some b->a=b:=by intro _ _ _ _ _ e;cases e
inductive B where
 | sh (d:D)
 | own (xs:List D)
 | obj (o:O)
abbrev Sd:=List (Option B)
structure bz where
 H0:Hp
 F0:Hp
 io:List (Nat×Addr)
 /-- the addresses of things that were handed in to be changed -/
 ob:List Addr
def bz.Wn(Y:bz):List Addr:=Y.io.map (·.2)
def bz.zM(Y:bz):List Addr:=Y.io.map (·.2)++Y.ob
theorem bz.zN{Y:bz}{a:Addr}(h:a∉Y.zM):a∉Y.Wn:=λz=>h (ad2 _ z)
def iU(ai:Sd)(σ:St)(b:Addr):Prop:=∃(i:Nat) (o:O) (a:Addr),ai[i]?=some (some (.obj o))/\σ[i]?=some (some (.ref a))/\b∈o.fp a
def lb(F:Hp):Prop:=∀q∈KF.tabs,F q.1=some (.lam q.2.1 q.2.2.1 q.2.2.2)
theorem lb.mono{F F':Hp}(h:lb F)(s:aq F F'):lb F':=λq hq=>s _ _ (h q hq)
def mw(F H:Hp):Prop:=aq F H/\lb F
structure xm(Y:bz)(F:Hp)(ai:Sd)(σ:St)(H:Hp):Prop where
 obj:∀(i:Nat) (o:O),ai[i]?=some (some (.obj o))->∃a,σ[i]?=some (some (.ref a))/\o.rep F H a/\∀b∈o.fp a,F b=none/\H b≠none/\(Y.H0 b=none\/b∈Y.ob)
 pB:∀(i j:Nat) (o p:O) (a b:Addr),ai[i]?=some (some (.obj o))->ai[j]?=some (some (.obj p))->σ[i]?=some (some (.ref a))->σ[j]?=some (some (.ref b))->i≠j->∀c∈o.fp a,c∉p.fp b
 gA:∀(j:Nat) (xs:List D) (b:Addr),ai[j]?=some (some (.own xs))->σ[j]?=some (some (.ref b))->¬iU ai σ b
 there:∀b∈Y.ob,H b≠none
 MB:∀b∈Y.ob,Y.H0 b≠none
 tab:lb F
theorem xm.owned{Y:bz}{F:Hp}{ai:Sd}{σ:St}{H:Hp}(X:xm Y F ai σ H){b:Addr}(h:iU ai σ b):F b=none/\H b≠none/\(Y.H0 b=none\/b∈Y.ob):=by
 obtain⟨i,o,a,e1,e2,hb⟩:=h;obtain⟨a',e3,_,h3⟩:=X.obj i o e1;rw[e2]at e3;cases e3;exact h3 b hb
theorem xm.Mm{Y:bz}{F:Hp}{ai:Sd}{σ:St}{H:Hp}(X:xm Y F ai σ H){b:Addr}(h:iU ai σ b){vs:List V}:H b≠some (.tup vs):=by
 obtain⟨i,o,a,e1,e2,hb⟩:=h;obtain⟨a',e3,h2,_⟩:=X.obj i o e1;rw[e2]at e3;cases e3;exact o.nt h2 hb
theorem xm.step{Y Y':bz}{F F':Hp}{ai aC:Sd}{σ b8:St}{H H':Hp}(X:xm Y F ai σ H)(hs:aq F F')
  (hσ:∀(i:Nat) (o:O),aC[i]?=some (some (.obj o))->ai[i]?=some (some (.obj o))/\b8[i]?=σ[i]?)
  (hb:∀b,iU ai σ b->H' b=H b/\F' b=none/\(Y'.H0 b=none\/b∈Y'.ob))
  (abW:∀(j:Nat) (ys:List D) (b:Addr),aC[j]?=some (some (.own ys))->b8[j]?=some (some (.ref b))->¬iU ai σ b)
  (hth:∀b∈Y'.ob,H' b≠none) (hz:∀b∈Y'.ob,b∈Y.ob/\(Y.H0 b≠none->Y'.H0 b≠none):=by exactλb hb=>⟨hb,id⟩):xm Y' F' aC b8 H' where
 obj:=λi o e=>by
  obtain⟨e1,e2⟩:=hσ i o e;obtain⟨a,h1,h2,h3⟩:=X.obj i o e1;have ow:∀b∈o.fp a,iU ai σ b:=λb z=>⟨i,o,a,e1,h1,z⟩;refine⟨a,by rw[e2];exact h1,o.mono hs (λb z=>(hb b (ow b z)).1) h2,λb z=>⟨(hb b (ow b z)).2.1,?_,(hb b (ow b z)).2.2⟩⟩
  rw[(hb b (ow b z)).1];exact(h3 b z).2.1
 pB:=λi j o p a b e1 e2 e3 e4=>by
  obtain⟨q1,q2⟩:=hσ i o e1;obtain⟨q3,q4⟩:=hσ j p e2;rw[q2]at e3;rw[q4]at e4;exact X.pB i j o p a b q1 q3 e3 e4
 gA:=λj xs b e1 e2 ⟨i,o,a,e3,e4,hm⟩=>by
  obtain⟨q1,q2⟩:=hσ i o e3;rw[q2]at e4;exact abW j xs b e1 e2 ⟨i,o,a,q1,e4,hm⟩
 there:=hth
 MB:=λb hb=>(hz b hb).2 (X.MB b (hz b hb).1)
 tab:=X.tab.mono hs
theorem xm.put{Y:bz}{F:Hp}{ai:Sd}{σ b8:St}{H:Hp}{i:Nat}{b':Option B}(X:xm Y F ai σ H)(h1:∀j,j≠i->b8[j]?=σ[j]?)(hn:∀o,b'≠some (.obj o))
  (hw:∀ys a,b'=some (.own ys)->b8[i]?=some (some (.ref a))->¬iU ai σ a):xm Y F (ai.set i b') b8 H:=by
 have gs:∀ {j:Nat} {y:Option B},(ai.set i b')[j]?=some y->(j=i/\y=b')\/(j≠i/\ai[j]?=some y):=λ{j y} h=>by
  by_cases hj:j=i
  ·subst hj
   by_cases hl:j<ai.length
   ·rw[adP hl]at h;exact .inl ⟨rfl,(adp h).symm⟩
   ·have:(ai.set j b')[j]?=none:=by rw[List.getElem?_eq_none_iff];simp;omega
    rw[this]at h;cases h
  ·rw[aed (aec hj)]at h;exact .inr ⟨hj,h⟩
 refine X.step (aq.refl _) (λj o e=>?_) (λb hb=>⟨rfl,(X.owned hb).1,(X.owned hb).2.2⟩) (λj ys b e1 e2=>?_) X.there
 ·rcases gs e with⟨_,z⟩|⟨hj,z⟩
  ·exact absurd z.symm (hn o)
  ·exact⟨z,h1 j hj⟩
 ·rcases gs e1 with⟨rfl,z⟩|⟨hj,z⟩
  ·exact hw ys b z.symm e2
  ·rw[h1 j hj]at e2;exact X.gA j ys b z e2
theorem xm.none{Y:bz}{F:Hp}{ai:Sd}{σ:St}{H:Hp}(h:∀(i:Nat) (o:O),ai[i]?≠some (some (.obj o)))(ab0:lb F)(hth:∀b∈Y.ob,H b≠none)(hz:∀b∈Y.ob,Y.H0 b≠none:=by intro b hb;cases hb):xm Y F ai σ H where
 MB:=hz
 tab:=ab0
 obj:=λi o e=>absurd e (h i o)
 pB:=λi _ o _ _ _ e=>absurd e (h i o)
 gA:=λ_ _ _ _ _ ⟨i,o,_,e,_⟩=>h i o e
 there:=hth
def Nw(H:Hp)(b:Addr)(o:HO):Prop:=H b=none\/∃vs,o=.tup vs
structure RS(Y:bz)(F:Hp)(ai:Sd)(σ:St)(H:Hp):Prop where
 len:ai.length=σ.length
 lo:aq Y.F0 F
 fr:aq F H
 e9:∀b o,F b=some o->Y.F0 b=some o\/Nw Y.H0 b o
 old:∀b o,Y.H0 b=some o->b∉Y.zM->H b=some o
 sh:∀(i:Nat) (d:D),ai[i]?=some (some (.sh d))->∃v,σ[i]?=some (some v)/\Rep F v d
 own:∀(i:Nat) (xs:List D),ai[i]?=some (some (.own xs))->∃a vs,σ[i]?=some (some (.ref a))/\H a=some (.lst vs)/\aE F vs xs/\F a=none/\(Y.H0 a=none\/a∈Y.Wn)
 dis:∀(i j:Nat) (xs ys:List D) (a:Addr),ai[i]?=some (some (.own xs))->ai[j]?=some (some (.own ys))->σ[i]?=some (some (.ref a))->σ[j]?=some (some (.ref a))->i=j
 io:∀p∈Y.io,σ[p.1]?=some (some (.ref p.2))/\∃xs,ai[p.1]?=some (some (.own xs))
 ob:xm Y F ai σ H
theorem GB{F H:Hp}{p:Addr}{o:HO}(s:aq F H):aq (upd F p o) (upd H p o):=λb u e=>by
 by_cases hb:b=p
 ·subst hb;rw[ay]at e ⊢;exact e
 ·rw[au hb]at e ⊢;exact s b u e
theorem same_none{F H:Hp}(s:aq F H){p:Addr}(h:H p=none):F p=none:=s.free h
theorem RS.b6{Y:bz}{F:Hp}{ai:Sd}{σ:St}{H:Hp}{p:Addr}(R:RS Y F ai σ H)(h:H p=none):Y.H0 p=none/\p∉Y.zM:=by
 have cX:p∉Y.zM:=λhm=>by
  rcases adj.mp hm with hm|hm
  case inr=>exact R.ob.there p hm h
  obtain⟨q,hq,e⟩:=adk.mp hm;obtain⟨h1,xs,h2⟩:=R.io q hq;obtain⟨a,vs,h3,h4,_⟩:=R.own _ _ h2;rw[h1]at h3;cases h3;rw[e,h]at h4;cases h4
 refine⟨?_,cX⟩;cases e:Y.H0 p with
 | none=>rfl
 | some o=>rw[R.old p o e cX]at h;cases h
theorem RS.alloc{Y:bz}{F:Hp}{ai:Sd}{σ:St}{H:Hp}{p:Addr}{o:HO}(R:RS Y F ai σ H)(h:H p=none):RS Y (upd F p o) ai σ (upd H p o) where
 len:=R.len
 lo:=R.lo.trans (aJ (same_none R.fr h))
 fr:=GB R.fr
 e9:=λb u e=>by
  by_cases hb:b=p
  ·subst hb;exact .inr (.inl (R.b6 h).1)
  ·rw[au hb]at e;exact R.e9 b u e
 old:=λb u e n=>by
  have:=R.old b u e n;rw[au (bg this h)];exact this
 sh:=λi d e=>by
  obtain⟨v,h1,h2⟩:=R.sh i d e;exact⟨v,h1,h2.mono (aJ (same_none R.fr h))⟩
 own:=λi xs e=>by
  obtain⟨a,vs,h1,h2,h3,h4,h5⟩:=R.own i xs e;have cz:=bg h2 h;exact⟨a,vs,h1,by rw[au cz];exact h2,h3.mono (aJ (same_none R.fr h)),by rw[au cz];exact h4,h5⟩
 dis:=R.dis
 io:=R.io
 ob:=R.ob.step (aJ (same_none R.fr h)) (λi o e=>⟨e,rfl⟩) (λb hb=>by
  obtain⟨w1,w2,w3⟩:=R.ob.owned hb;have cz:b≠p:=λz=>w2 (z ▸ h);exact⟨au cz,by rw[au cz];exact w1,w3⟩) (λj ys b e1 e2=>R.ob.gA j ys b e1 e2) λb hb=>by
  have cz:b≠p:=λz=>R.ob.there b hb (z ▸ h);rw[au cz];exact R.ob.there b hb
theorem RS.nH{Y:bz}{F:Hp}{ai:Sd}{σ:St}{H:Hp}{p:Addr}{o:HO}(R:RS Y F ai σ H)(h:H p=none):RS Y F ai σ (upd H p o) where
 len:=R.len
 lo:=R.lo
 fr:=R.fr.trans (aJ h)
 e9:=R.e9
 old:=λb u e n=>aJ h b u (R.old b u e n)
 sh:=R.sh
 own:=λi xs e=>by
  obtain⟨a,vs,h1,h2,h3,h4,h5⟩:=R.own i xs e;exact⟨a,vs,h1,aJ h a _ h2,h3,h4,h5⟩
 dis:=R.dis
 io:=R.io
 ob:=R.ob.step (aq.refl _) (λi o e=>⟨e,rfl⟩) (λb hb=>by
  obtain⟨w1,w2,w3⟩:=R.ob.owned hb;have cz:b≠p:=λz=>w2 (z ▸ h);exact⟨au cz,w1,w3⟩) (λj ys b e1 e2=>R.ob.gA j ys b e1 e2) λb hb=>by
  have cz:b≠p:=λz=>R.ob.there b hb (z ▸ h);rw[au cz];exact R.ob.there b hb
inductive EV where
 | val (d:D)|var (i:Nat)|own (xs:List D)|obj (o:O)|any
inductive OV where
 | val (d:D)|var (i:Nat)|any
abbrev TX:=Sd->(EV->Sd->Prop)->Prop
abbrev TV:=Sd->(OV->Sd->Prop)->Prop
abbrev TD:=Sd->(D->Sd->Prop)->Prop
abbrev TB:=Sd->(Bool->Sd->Prop)->Prop
abbrev fu:=Sd->(List D->Sd->Prop)->Prop
structure dc(ai:Sd)(σ:St)(a:Addr):Prop where
 own:∀(j:Nat) (ys:List D),ai[j]?=some (some (.own ys))->σ[j]?≠some (some (.ref a))
 Rt:¬iU ai σ a
instance {ai:Sd} {σ:St} {a:Addr}:CoeFun (dc ai σ a) λ_=>∀(j:Nat) (ys:List D),ai[j]?=some (some (.own ys))->σ[j]?≠some (some (.ref a)):=⟨dc.own⟩
theorem RS.df{Y:bz}{F:Hp}{ai:Sd}{σ:St}{H:Hp}(R:RS Y F ai σ H){a:Addr}(h:H a=none):dc ai σ a:=by
 refine⟨λj ys e z=>?_,λz=>(R.ob.owned z).2.1 h⟩;obtain⟨b,us,e1,e2,_⟩:=R.own j ys e;rw[e1]at z;cases z;rw[h]at e2;cases e2
def xF(F:Hp)(σ:St)(v:V):OV->Prop
 | .val d=>Rep F v d
 | .var i=>σ[i]?=some (some v)
 | .any=>True
def Ih(Y:bz)(F H:Hp)(ai:Sd)(σ:St)(v:V):EV->Prop
 | .val d=>Rep F v d
 | .var i=>σ[i]?=some (some v)
 | .own xs=>∃a vs,v=.ref a/\H a=some (.lst vs)/\aE F vs xs/\F a=none/\Y.H0 a=none/\dc ai σ a
 | .obj o=>∃a,v=.ref a/\o.rep F H a/\∀b∈o.fp a,F b=none/\H b≠none/\Y.H0 b=none/\dc ai σ b
 | .any=>True
def lX(Y:bz)(t:TX):TE:=λσ H Q=>∃F ai Qd,RS Y F ai σ H/\t ai Qd/\∀v H' F' x aC,aq F F'->RS Y F' aC σ H'->Ih Y F' H' aC σ v x->Qd x aC->Q v H'
def lO(Y:bz)(t:TV):TE:=λσ H Q=>∃F ai Qd,RS Y F ai σ H/\t ai Qd/\∀v H' F' x aC,aq F F'->RS Y F' aC σ H'->xF F' σ v x->Qd x aC->Q v H'
def lD(Y:bz)(t:TD):TE:=λσ H Q=>∃F ai Qd,RS Y F ai σ H/\t ai Qd/\∀v H' F' x aC,aq F F'->RS Y F' aC σ H'->Rep F' v x->Qd x aC->Q v H'
def lB(Y:bz)(t:TB):TT:=λσ H Q=>∃F ai Qd,RS Y F ai σ H/\t ai Qd/\∀b H' F' aC,aq F F'->RS Y F' aC σ H'->Qd b aC->Q b H'
def lDs(Y:bz)(t:fu):TA:=λσ H Q=>∃F ai Qd,RS Y F ai σ H/\t ai Qd/\∀vs H' F' xs aC,aq F F'->RS Y F' aC σ H'->aE F' vs xs->Qd xs aC->Q vs H'
structure GE where
 P:adv
 w:World
 K:acT
 mg:Str->Option Value
 base:Heap
structure Stat where
 N:List Str
 sc:List (Str×adL)
 ios:List Nat:=[]
 CI:Bool:=false
 /-- within an except suite -/
 jh:Bool:=false
 /-- a raise may stand here -/
 rs:Bool:=false
 /-- what is wanted where an exception of a class leaves -/
 ex:Str->Sd->Prop:=λ_ _=>False
def abG(a T:Addr)(c:Str):HO:=.ext λh=>∃o vs a0,h.get? a=some o/\o.cls=.ref (KF.cls c)/\o.data=.fields vs/\vs[0]?=some a0/\vs[1]?=some (.ref T)
def tbO(T:Addr):HO:=.ext λh=>∃o ts,h.get? T=some o/\o.data=.fields ts/\ts[3]?=some .none
structure WU(X:Cx)(Y:bz)(F H:Hp)(a T:Addr)(c:Str):Prop where
 fa:F a=none
 fT:F T=none
 ha:H a=some (abG a T c)
 hT:H T=some (tbO T)
 ne:a≠T
 na:Y.H0 a=none
 nT:Y.H0 T=none
 la:X.c5.heap.get? a=none
 lT:X.c5.heap.get? T=none
def ab9(a:Addr)(c:Str):HO:=.ext λh=>∃o vs a0,h.get? a=some o/\o.cls=.ref (KF.cls c)/\o.data=.fields vs/\vs[0]?=some a0/\vs[1]?=some .none
structure dA(X:Cx)(G:GE)(k:Nat)(S:Stat)(Y:bz):Prop where
 P:X.prog=G.P
 w:X.w=G.w
 K:X.K=G.K
 kf:X.K=KF.K
 mg:X.mg=G.mg
 base:X.base=G.base
 N:X.N=S.N
 sc:X.env.scope.names=S.sc
 nd:S.N.Nodup
 ios:∀p∈Y.io,p.1∈S.ios
 obs:S.CI=false->S.ios=[]->Y.ob=[]
 calm:S.jh=false->X.calm=true
 kind:X.env.scope.kind=.function
 fn:S.CI=false->∀x,S.sc.lookup x=some .cell->X.fn x=true
 hd:S.jh=false->X.A.handled=none
 dp:X.A.depth+3*k+5<recursionLimit
 un:X.A.units+16*k+200<cLine
 po:S.jh=false->PassesOwn (model X.prog X.w) X.A X.env X.xe
 nx:S.CI=false->X.ex=[]/\X.stack=X.env::X.outer/\X.env.frame=some X.env.locals
 exc:∀c ai,S.ex c ai->∀pins σ H F s a T,L2.Inv X pins σ H s->RS Y F ai σ H->WU X Y F H a T c->X.xe (.ref a) s
 made:S.rs=true->∀c ai,S.ex c ai->∀pins σ H F s a,L2.Inv X pins σ H s->RS Y F ai σ H->H a=some (ab9 a c)->Y.H0 a=none->X.c5.heap.get? a=none->X.xe (.ref a) s
theorem dA.room{X:Cx}{G:GE}{k:Nat}{S:Stat}{Y:bz}(ok:dA X G k S Y)(h:S.jh=false):ei k X.A:=⟨ok.hd h,ok.dp,ok.un⟩
theorem dA.units{X:Cx}{G:GE}{k:Nat}{S:Stat}{Y:bz}(ok:dA X G k S Y):X.A.units+64<cLine:=by have:=ok.un;omega
variable {G:GE}{k:Nat}{S:Stat}
structure EX(G:GE)(k:Nat)(S:Stat)(e:Expr)(t:TX) :Prop where
 run:∀X Y,dA X G k S Y->PE X e (lX Y t)
instance {G:GE} {k:Nat} {S:Stat} {e:Expr} {t:TX} :CoeFun (EX G k S e t) λ_=>∀X Y,dA X G k S Y->PE X e (lX Y t):=⟨EX.run⟩
structure EO(G:GE)(k:Nat)(S:Stat)(e:Expr)(t:TV) :Prop where
 run:∀X Y,dA X G k S Y->PE X e (lO Y t)
instance {G:GE} {k:Nat} {S:Stat} {e:Expr} {t:TV} :CoeFun (EO G k S e t) λ_=>∀X Y,dA X G k S Y->PE X e (lO Y t):=⟨EO.run⟩
structure ED(G:GE)(k:Nat)(S:Stat)(e:Expr)(t:TD) :Prop where
 run:∀X Y,dA X G k S Y->PE X e (lD Y t)
instance {G:GE} {k:Nat} {S:Stat} {e:Expr} {t:TD} :CoeFun (ED G k S e t) λ_=>∀X Y,dA X G k S Y->PE X e (lD Y t):=⟨ED.run⟩
structure EB(G:GE)(k:Nat)(S:Stat)(e:Expr)(t:TB) :Prop where
 run:∀X Y,dA X G k S Y->PT X e (lB Y t)
instance {G:GE} {k:Nat} {S:Stat} {e:Expr} {t:TB} :CoeFun (EB G k S e t) λ_=>∀X Y,dA X G k S Y->PT X e (lB Y t):=⟨EB.run⟩
structure xu(G:GE)(k:Nat)(S:Stat)(es:List Expr)(t:fu) :Prop where
 run:∀X Y,dA X G k S Y->PA X es (lDs Y t)
instance {G:GE} {k:Nat} {S:Stat} {es:List Expr} {t:fu} :CoeFun (xu G k S es t) λ_=>∀X Y,dA X G k S Y->PA X es (lDs Y t):=⟨xu.run⟩
def TC:Expr->Bool
 | .Starred _ _=>false
 | _=>true
theorem cN{e:Expr}{es:List Expr}{env:Env}(h:TC e=true):acW (e::es) env=(false,eval e env)::acW es env:=by
 cases e<;>first|rfl|cases h
theorem aO{X:Cx}{e:Expr}{t t':TE}(h:PE X e t)(i:∀σ H Q,t' σ H Q->t σ H Q):PE X e t':=λpins s σ H Q I q=>h pins s σ H Q I (i σ H Q q)
theorem oI{X:Cx}{e:Expr}{t t':TT}(h:PT X e t)(i:∀σ H Q,t' σ H Q->t σ H Q):PT X e t':=λpins s σ H Q I q=>h pins s σ H Q I (i σ H Q q)
theorem gW{X:Cx}{e:List Expr}{t t':TA}(h:PA X e t)(i:∀σ H Q,t' σ H Q->t σ H Q):PA X e t':=λpos pins s σ H Q I q=>h pos pins s σ H Q I (i σ H Q q)
theorem cj{X:Cx}{e:Stmt}{t t':TS}(h:PS X e t)(i:∀D σ H,t' D σ H->t D σ H):PS X e t':=λpins s σ H D I q=>h pins s σ H D I (i D σ H q)
theorem sN{X:Cx}{e:List Stmt}{t t':TS}(h:rh X e t)(i:∀D σ H,t' D σ H->t D σ H):rh X e t':=λpins s σ H D I q=>h pins s σ H D I (i D σ H q)
theorem RS.AX{Y:bz}{F:Hp}{ai:Sd}{σ:St}{H:Hp}{a:Addr}{vs:List V}(R:RS Y F ai σ H)(h1:H a=some (.lst vs))(h2:F a=none)(h3:dc ai σ a)(h4:Y.H0 a=none):RS Y (upd F a (.lst vs)) ai σ H where
 len:=R.len
 lo:=R.lo.trans (aJ h2)
 fr:=λb o e=>by
  by_cases hb:b=a
  ·subst hb;rw[ay]at e;cases e;exact h1
  ·rw[au hb]at e;exact R.fr b o e
 e9:=λb u e=>by
  by_cases hb:b=a
  ·subst hb;exact .inr (.inl h4)
  ·rw[au hb]at e;exact R.e9 b u e
 old:=R.old
 sh:=λi d e=>by
  obtain⟨v,q1,q2⟩:=R.sh i d e;exact⟨v,q1,q2.mono (aJ h2)⟩
 own:=λi xs e=>by
  obtain⟨b,us,q1,q2,q3,q4,q5⟩:=R.own i xs e;have cz:b≠a:=λz=>h3 i xs e (by rw[q1,z])
  exact⟨b,us,q1,q2,q3.mono (aJ h2),by rw[au cz];exact q4,q5⟩
 dis:=R.dis
 io:=R.io
 ob:=R.ob.step (aJ h2) (λi o e=>⟨e,rfl⟩) (λb hb=>by
  obtain⟨w1,w2,w3⟩:=R.ob.owned hb;have cz:b≠a:=λz=>h3.Rt (z ▸ hb);exact⟨rfl,by rw[au cz];exact w1,w3⟩) (λj ys b e1 e2=>R.ob.gA j ys b e1 e2) R.ob.there
def fzV:EV->OV
 | .val d=>.val d
 | .var i=>.var i
 | .own xs=>.val (.lst xs)
 | .obj _=>.any
 | .any=>.any
def bu(t:TX):TV:=λσ Q=>t σ λx aw=>Q (fzV x) aw
theorem bB{e:Expr}{t:TX}(h:EX G k S e t):EO G k S e (bu t):=.mk λX Y ok=>aO (h X Y ok) λσ H Q q=>by
 obtain⟨F,ai,Qd,R,q,K⟩:=q;refine⟨F,ai,_,R,q,λv H' F' x aC s R' r q'=>?_⟩;cases x with
 | val d=>exact K v H' F' (.val d) aC s R' r q'
 | var i=>exact K v H' F' (.var i) aC s R' r q'
 | own xs =>
  obtain⟨a,vs,rfl,h1,h2,h3,h4,h5⟩:=r;exact K _ H' _ (.val (.lst xs)) aC (s.trans (aJ h3)) (R'.AX h1 h3 h5 h4) (.lst (.inl ay) (h2.mono (aJ h3))) q'
 | obj o=>exact K v H' F' .any aC s R' trivial q'
 | any=>exact K v H' F' .any aC s R' trivial q'
def oxV:OV->EV
 | .val d=>.val d
 | .var i=>.var i
 | .any=>.any
def oX(t:TV):TX:=λσ Q=>t σ λx aw=>Q (oxV x) aw
theorem gv{e:Expr}{t:TV}(h:EO G k S e t):EX G k S e (oX t):=.mk λX Y ok=>aO (h X Y ok) λσ H Q q=>by
 obtain⟨F,ai,Qd,R,q,K⟩:=q;refine⟨F,ai,_,R,q,λv H' F' x aC s R' r q'=>?_⟩;cases x with
 | val d=>exact K v H' F' (.val d) aC s R' r q'
 | var i=>exact K v H' F' (.var i) aC s R' r q'
 | any=>exact K v H' F' .any aC s R' trivial q'
theorem aZ{α:Type}{l:List (Option α)}{i:Nat}{x:α}{y:Option α}(h:l[i]?=some (some x)):(l.set i y)[i]?=some y:=by
 have:=(acR.mp h).1;rw[adP this]
theorem bq{α:Type}{l:List (Option α)}{i j:Nat}{y:Option α}(h:j≠i):(l.set i y)[j]?=l[j]?:=by
 rw[aed (aec h)]
theorem RS.lu{Y:bz}{F:Hp}{ai:Sd}{σ:St}{H:Hp}{i:Nat}{xs:List D}(R:RS Y F ai σ H)(h:ai[i]?=some (some (.own xs)))(cX:∀p∈Y.io,p.1≠i):
  ∃F' v,aq F F'/\RS Y F' (ai.set i (some (.sh (.lst xs)))) σ H/\σ[i]?=some (some v)/\Rep F' v (.lst xs):=by
 obtain⟨a,vs,q1,q2,q3,q4,q5⟩:=R.own i xs h;have sm:=aJ (o:=.lst vs) q4;have rep:Rep (upd F a (.lst vs)) (.ref a) (.lst xs):=.lst (.inl ay) (q3.mono sm);have Rq:Y.H0 a=none:=by
  rcases q5 with q5|q5
  ·exact q5
  ·obtain⟨p,hp,e⟩:=adk.mp q5
   obtain⟨w1,ys,w2⟩:=R.io p hp;exact absurd (R.dis p.1 i ys xs a w2 h (by rw[w1,e]) q1) (cX p hp)
 have obF:xm Y (upd F a (.lst vs)) (ai.set i (some (.sh (.lst xs)))) σ H:=R.ob.step sm (λj o e=>by
  have hj:j≠i:=λz=>by subst z;rw[aZ h]at e;cases e
  rw[bq hj]at e;exact⟨e,rfl⟩) (λb hb=>by
  obtain⟨w1,w2,w3⟩:=R.ob.owned hb;have cz:b≠a:=λz=>R.ob.gA i xs a h q1 (z ▸ hb);exact⟨rfl,by rw[au cz];exact w1,w3⟩) (λj ys b e1 e2=>by
  have hj:j≠i:=λz=>by subst z;rw[aZ h]at e1;cases e1
  rw[bq hj]at e1;exact R.ob.gA j ys b e1 e2) R.ob.there
 refine⟨upd F a (.lst vs),.ref a,sm,⟨by simpa using R.len,R.lo.trans sm,λb o e=>?_,λb o e=>?_,R.old,λj d e=>?_,λj ys e=>?_,λj l ys zs b e1 e2 e3 e4=>?_,λp hp=>?_,obF⟩,q1,rep⟩
 ·by_cases hb:b=a
  ·subst hb;rw[ay]at e;cases e;exact q2
  ·rw[au hb]at e;exact R.fr b o e
 ·by_cases hb:b=a
  ·subst hb;exact .inr (.inl Rq)
  ·rw[au hb]at e;exact R.e9 b o e
 ·by_cases hj:j=i
  ·subst hj
   rw[aZ h]at e;cases e;exact⟨_,q1,rep⟩
  ·rw[bq hj]at e
   obtain⟨v,w1,w2⟩:=R.sh j d e;exact⟨v,w1,w2.mono sm⟩
 ·have hj:j≠i:=λz=>by subst z;rw[aZ h]at e;cases e
  rw[bq hj]at e;obtain⟨b,us,w1,w2,w3,w4,w5⟩:=R.own j ys e;have cz:b≠a:=λz=>hj (R.dis j i ys xs a e h (z ▸ w1) q1);exact⟨b,us,w1,w2,w3.mono sm,by rw[au cz];exact w4,w5⟩
 ·have hj:j≠i:=λz=>by subst z;rw[aZ h]at e1;cases e1
  have hl:l≠i:=λz=>by subst z;rw[aZ h]at e2;cases e2
  rw[bq hj]at e1;rw[bq hl]at e2;exact R.dis j l ys zs b e1 e2 e3 e4
 ·obtain⟨w1,ys,w2⟩:=R.io p hp
  exact⟨w1,ys,by rw[bq (cX p hp)];exact w2⟩
def V0(ios:List Nat)(x:OV)(aw:Sd)(Q:D->Sd->Prop):Prop:=match x with
 | .val d=>Q d aw
 | .any=>False
 | .var i=>match aw[i]? with
  | some (some (.own xs))=>i∉ios/\Q (.lst xs) (aw.set i (some (.sh (.lst xs))))
  | some (some (.sh d))=>Q d aw
  | _=>False
theorem kZ{ios:List Nat}{d:D}{aw:Sd}{Q:D->Sd->Prop}:V0 ios (.val d) aw Q=Q d aw:=rfl
theorem k4{ios:List Nat}{i:Nat}{aw:Sd}{Q:D->Sd->Prop}:V0 ios (.var i) aw Q=(match aw[i]? with
  | some (some (.own xs))=>i∉ios/\Q (.lst xs) (aw.set i (some (.sh (.lst xs))))
  | some (some (.sh d))=>Q d aw
  | _=>False):=rfl
def aj(ios:List Nat)(t:TV):TD:=λσ Q=>t σ λx aw=>V0 ios x aw Q
theorem aH{e:Expr}{t:TV}(h:EO G k S e t):ED G k S e (aj S.ios t):=.mk λX Y ok=>aO (h X Y ok) λσ H Q q=>by
 obtain⟨F,ai,Qd,R,q,K⟩:=q;refine⟨F,ai,_,R,q,λv H' F' x aC s R' r q'=>?_⟩;cases x with
 | val d=>exact K v H' F' d aC s R' r q'
 | any=>exact aez q'
 | var i =>
  have r:σ[i]?=some (some v):=r;rw[k4]at q'
  split at q'
  ·rename_i xs e
   obtain⟨hi,q'⟩:=q';obtain⟨F2,v2,s2,R2,e2,r2⟩:=R'.lu e λp hp z=>hi (z ▸ ok.ios p hp);rw[r]at e2;cases e2;exact K v H' F2 _ _ (s.trans s2) R2 r2 q'
  ·rename_i d e
   obtain⟨v2,e2,r2⟩:=R'.sh i d e;rw[r]at e2;cases e2;exact K v H' F' d aC s R' r2 q'
  ·exact q'.elim
def af(i:Nat):TV:=λσ Q=>match σ[i]? with
 | some (some (.sh d))=>Q (.val d) σ
 | some (some (.own _))=>Q (.var i) σ
 | _=>False
theorem ae(i:Nat){x:Str}{pos:Pos}(hN:S.N[i]?=some x:=by rfl)(hv:S.sc.lookup x=some .local\/S.sc.lookup x=some .cell\/S.sc.lookup x=some .free:=by first|exact Or.inl rfl|exact Or.inr (Or.inl rfl)|exact Or.inr (Or.inr rfl))
  (hd:(x==("__debug__":Str))=false:=by decide) (ly:(x==("__classdict__":Str))=false:=by decide):EO G k S (.Name x pos) (af i):=.mk λX Y ok =>
 aO (gY (X:=X) (i:=i) (by rw[ok.N];exact hN) (by unfold HF;rw[ok.sc];exact hv) hd ly) λσ H Q q=>by
  obtain⟨F,ai,Qd,R,q,K⟩:=q;unfold af at q
  split at q
  ·rename_i d e
   obtain⟨v,e2,r2⟩:=R.sh i d e;exact⟨v,e2,K v H F (.val d) ai (aq.refl _) R r2 q⟩
  ·rename_i xs e
   obtain⟨a,vs,e2,_⟩:=R.own i xs e;exact⟨_,e2,K _ H F (.var i) ai (aq.refl _) R e2 q⟩
  ·exact q.elim
def bh(d:D):TV:=λσ Q=>Q (.val d) σ
theorem n9{Y:bz}{v:V}{d:D}(r:∀F,Rep F v d)(σ:St)(H:Hp)(Q:VK)(q:lO Y (bh d) σ H Q):tC v σ H Q:=by
 obtain⟨F,ai,Qd,R,q,K⟩:=q;exact K v H F (.val d) ai (aq.refl _) R (r F) q
theorem ax{i j pos}:EO G k S (.Constant (.int i) j pos) (bh (.int i)):=.mk λ_ _ _=>aO Tq (n9 λ_=>.int i)
theorem pK{b j pos}:EO G k S (.Constant (.bool b) j pos) (bh (.bl b)):=.mk λ_ _ _=>aO aan (n9 λ_=>.bl b)
theorem g0{j pos}:EO G k S (.Constant .none j pos) (bh .aQ):=.mk λ_ _ _=>aO Tr (n9 λ_=>.aQ)
theorem Gp{x j pos}:EO G k S (.Constant (.str x) j pos) (bh (.str x)):=.mk λ_ _ _=>aO Tt (n9 λ_=>.str x)
def MG(G:GE)(x:Str)(d:D):Prop:=∃u v,G.mg x=some u/\RelV v u/\∀F,Rep F v d
theorem du{X:Cx}{Y:bz}(ok:dA X G k S Y){x:Str}(h:S.sc.lookup x=some .globalImplicit):Gl X x:=by
 unfold Gl;show X.env.scope.names.lookup x=_;rw[ok.sc];exact h
theorem Gh{x:Str}{d:D}{pos:Pos}(h:MG G x d)(hg:S.sc.lookup x=some .globalImplicit:=by rfl)(hd:(x==("__debug__":Str))=false:=by decide):EO G k S (.Name x pos) (bh d):=.mk λX Y ok=>by
 obtain⟨u,v,h1,h2,h3⟩:=h;exact aO (JY (du ok hg) (by rw[ok.mg];exact h1) h2 hd) (n9 h3)
def cW(σ:Sd):OV->Option D
 | .val d=>some d
 | .any=>none
 | .var i=>match σ[i]? with
  | some (some (.sh d))=>some d
  | some (some (.own xs))=>some (.lst xs)
  | some (some (.obj o))=>o.view
  | _=>none
theorem Rep.h{F H:Hp}(s:aq F H){v:V}{d:D}(r:Rep F v d):bW F H v d:=by
 cases d with
 | lst xs =>
  cases r with
  | lst h r=>exact⟨_,_,rfl,Rd.mono s h,r⟩
 | dB kvs =>
  cases r with
  | dB h r=>exact⟨_,_,rfl,s _ _ h,r⟩
 | kp w c e kvs =>
  cases r with
  | kp h1 h2 r=>exact⟨_,_,_,_,rfl,s _ _ h1,s _ _ h2,r⟩
 | _=>exact r
theorem RS.cW{Y:bz}{F:Hp}{ai:Sd}{σ:St}{H:Hp}(R:RS Y F ai σ H){v:V}{x:OV}{d:D}(r:xF F σ v x)(e:cW ai x=some d):bW F H v d:=by
 cases x with
 | val d'=>cases e;exact Rep.h R.fr r
 | any=>cases e
 | var i =>
  have r:σ[i]?=some (some v):=r;have e:(match ai[i]? with|some (some (.sh d))=>some d|some (some (.own xs))=>some (.lst xs)|some (some (.obj o))=>o.view|_=>none)=some d:=e
  split at e
  ·rename_i d' q
   cases e;obtain⟨v2,e2,r2⟩:=R.sh i d q;rw[r]at e2;cases e2;exact Rep.h R.fr r2
  ·rename_i xs q
   cases e;obtain⟨a,vs,e2,h2,h3,_⟩:=R.own i xs q;rw[r]at e2;cases e2;exact⟨a,vs,rfl,.inl h2,h3⟩
  ·rename_i o q
   obtain⟨a,e2,h2,_⟩:=R.ob.obj i o q;rw[r]at e2;cases e2;exact o.sees h2 e
  ·cases e
theorem bW.int{F H:Hp}{v:V}{i:Int}(r:bW F H v (.int i)):v=.int i:=by cases(show Rep F v (.int i)from r);rfl
theorem bW.bl{F H:Hp}{v:V}{i:Bool}(r:bW F H v (.bl i)):v=.bl i:=by cases(show Rep F v (.bl i)from r);rfl
theorem bW.str{F H:Hp}{v:V}{i:Str}(r:bW F H v (.str i)):v=.str i:=by cases(show Rep F v (.str i)from r);rfl
theorem bW.aQ{F H:Hp}{v:V}(r:bW F H v .aQ):v=.aQ:=by cases(show Rep F v .aQ from r);rfl
theorem bW.tup{F H:Hp}(s:aq F H){v:V}{xs:List D}(r:bW F H v (.tup xs)):∃a vs,v=.ref a/\H a=some (.tup vs)/\aE F vs xs:=by
 cases(show Rep F v (.tup xs)from r)with
 | tup h r=>exact⟨_,_,rfl,s _ _ h,r⟩
theorem bW.lst{F H:Hp}{v:V}{xs:List D}(r:bW F H v (.lst xs)):∃a vs,v=.ref a/\Rd H a (.lst vs)/\aE F vs xs:=r
def Goes(Y:bz)(F:Hp)(ai:Sd)(σ:St)(Qd:EV->Prop)(Q:VK):Prop:=∀v H' F' r,aq F F'->RS Y F' ai σ H'->Ih Y F' H' ai σ v r->Qd r->Q v H'
theorem Goes.val{Y:bz}{F:Hp}{ai:Sd}{σ:St}{Qd:EV->Prop}{Q:VK}(g:Goes Y F ai σ Qd Q){H:Hp}(R:RS Y F ai σ H){v:V}{d:D}(r:Rep F v d)(q:Qd (.val d)):Q v H:=g v H F (.val d) (aq.refl _) R r q
theorem Goes.own{Y:bz}{F:Hp}{ai:Sd}{σ:St}{Qd:EV->Prop}{Q:VK}(g:Goes Y F ai σ Qd Q){H:Hp}(R:RS Y F ai σ H){vs:List V}{xs:List D}(r:aE F vs xs)(q:Qd (.own xs)):∀p,H p=none->Q (.ref p) (upd H p (.lst vs)):=λp hp=>by
 refine g (.ref p) _ F (.own xs) (aq.refl _) (R.nH hp) ⟨p,vs,rfl,ay,r,same_none R.fr hp,(R.b6 hp).1,⟨λj ys e z=>?_,λz=>(R.ob.owned z).2.1 hp⟩⟩ q;obtain⟨a,us,e1,e2,_⟩:=R.own j ys e;rw[e1]at z;cases z;rw[hp]at e2;cases e2
theorem Goes.tup{Y:bz}{F:Hp}{ai:Sd}{σ:St}{Qd:EV->Prop}{Q:VK}(g:Goes Y F ai σ Qd Q){H:Hp}(R:RS Y F ai σ H){vs:List V}{xs:List D}(r:aE F vs xs)(q:Qd (.val (.tup xs))):∀p,H p=none->Q (.ref p) (upd H p (.tup vs)):=λp hp=>by
 have sm:=aJ (o:=.tup vs) (same_none R.fr hp);exact g (.ref p) _ _ (.val (.tup xs)) sm (R.alloc hp) (.tup ay (r.mono sm)) q
def ip(r:R2)(f:D->D->(EV->Prop)->Prop):Prop:=
 ∀Y F H ai σ v u x y Qd Q,RS Y F ai σ H->bW F H v x->bW F H u y->f x y Qd->Goes Y F ai σ Qd Q->r v u H Q
def bF(f:D->D->(EV->Prop)->Prop)(ta tb:TV):TX:=λσ Q=>ta σ λx aw=>tb aw λy aM=>match cW aM x,cW aM y with
 | some a,some b=>f a b λr=>Q r aM
 | _,_=>False
theorem xF.mono{F F':Hp}(s:aq F F'){σ:St}{v:V}{x:OV}(r:xF F σ v x):xF F' σ v x:=by
 cases x with
 | val d=>exact Rep.mono s r
 | var i=>exact r
 | any=>trivial
theorem yN{Y:bz}{r:R2}{f:D->D->(EV->Prop)->Prop}(hs:ip r f){ta tb:TV}{σ:St}{H:Hp}{Q:VK}(q:lX Y (bF f ta tb) σ H Q):VC r (lO Y ta) (lO Y tb) σ H Q:=by
 obtain⟨F,ai,Qd,R,q,K⟩:=q;refine⟨F,ai,_,R,q,λv1 H1 F1 x aw s1 R1 r1 q1=>?_⟩;refine⟨F1,aw,_,R1,q1,λv2 H2 F2 y aM s2 R2 r2 q2=>?_⟩
 split at q2
 ·rename_i a b ea eb
  exact hs Y F2 H2 aM σ v1 v2 a b _ Q R2 (R2.cW (r1.mono s2) ea) (R2.cW r2 eb) q2 λv H' F' r s R' rr qq=>K v H' F' r aM ((s1.trans s2).trans s) R' rr qq
 ·exact q2.elim
theorem qK{op:Operator}{f:D->D->(EV->Prop)->Prop}{r:acT->R2}(ho:∀X,il X (binaryOp op) (r X.K))(hs:∀K,ip (r K) f){a b:Expr}{ta tb:TV}{pos:Pos}(ha:EO G k S a ta)(hb:EO G k S b tb):
  EX G k S (.BinOp a op b pos) (bF f ta tb):=.mk λX Y ok=>aO (aap (ho X) (ha X Y ok) (hb X Y ok)) λσ H Q q=>yN (hs X.K) q
def eZ:D->D->(EV->Prop)->Prop
 | .int i,.int j,Q=>Q (.val (.int (i+j)))
 | .str a,.str b,Q=>a.length+b.length<=acZ/\Q (.val (.str (a++b)))
 | .lst a,.lst b,Q=>a.length+b.length<=acZ/\Q (.own (a++b))
 | .tup a,.tup b,Q=>(a≠[]/\a.length+b.length<=acZ)/\Q (.val (.tup (a++b)))
 | _,_,_=>False
def Mr:R2:=λx y H Q=>∃l b xs zs,x=.ref l/\y=.ref b/\Rd H l (.lst xs)/\Rd H b (.lst zs)/\xs.length+zs.length<=acZ/\∀p,H p=none->Q (.ref p) (upd H p (.lst (xs++zs)))
theorem Inv.rdL{X:Cx}{pins:List (Addr×Obj)}{σ:St}{H:Hp}{s:Shared}{l:Addr}{xs:List V}(I:L2.Inv X pins σ H s)(h:Rd H l (.lst xs)):
  xs.length<=acZ/\∃(its:List Value) (n:Nat),Vals xs its/\xs.length=its.length/\s.heap.get? l=some {cls:=.type "list",data:=.seq its.toArray n}:=by
 obtain⟨z,its,n,r,e⟩:=L2.Rd.ok h I.bI;exact⟨z,its,n,r,r.length,e⟩
theorem JM{X:Cx}:il X (binaryOp .Add) Mr:=by
 intro pins s σ H x y v u Q I rx ry h;obtain⟨l,b,xs,zs,rfl,rfl,hH,hB,hz,q⟩:=h;cases rx;cases ry;obtain⟨z,its,n,r,hl,e⟩:=Inv.rdL I hH;obtain⟨z2,vO,n2,r2,nc,e2⟩:=Inv.rdL I hB;refine PySem.P.add_list e e2 ?_ (by rw[ac5,ac5];omega)
 have ea:its.toArray++vO.toArray=(its++vO).toArray:=by simp
 rw[ea];exact⟨.ref _,_,I.Rl (t':=s.toks) (r.append r2) (by rw[adt];omega),rfl,q _ I.fresh⟩
def Kb(K:acT):R2:=λx y H Q=>(∃i j,x=.int i/\y=.int j/\Q (.int (i+j)) H)\/(∃i j,x=.str i/\y=.str j/\i.length+j.length<=acZ/\Q (.str (i++j)) H)\/Mr x y H Q\/Ms K x y H Q
theorem Bs{X:Cx}:il X (binaryOp .Add) (Kb X.K):=SV.or (yo.or (JM.or JN))
theorem AA(K:acT):ip (Kb K) eZ:=by
 intro Y F H ai σ v u x y Qd Q R rx ry q g;unfold eZ at q
 split at q
 ·obtain rfl:=rx.int;obtain rfl:=ry.int
  exact .inl ⟨_,_,rfl,rfl,g.val R (.int _) q⟩
 ·obtain rfl:=rx.str;obtain rfl:=ry.str
  exact .inr (.inl ⟨_,_,rfl,rfl,q.1,g.val R (.str _) q.2⟩)
 ·obtain⟨a,vs,rfl,h1,r1⟩:=rx.lst;obtain⟨b,us,rfl,h2,r2⟩:=ry.lst
  exact .inr (.inr (.inl ⟨a,b,vs,us,rfl,rfl,h1,h2,by rw[r1.length,r2.length];exact q.1,g.own R (r1.append r2) q.2⟩))
 ·have rx':=rx
  obtain⟨a,vs,rfl,h1,r1⟩:=rx.tup R.fr;obtain⟨b,us,rfl,h2,r2⟩:=ry.tup R.fr;refine .inr (.inr (.inr ⟨a,b,vs,us,rfl,rfl,.of h1,.of h2,λz=>?_,by rw[r1.length,r2.length];exact q.1.2,λz=>?_,λ_=>g.tup R (r1.append r2) q.2⟩))
  ·subst z
   cases r1;exact q.1.1 rfl
  ·subst z
   cases r2;rw[adH]at q;exact g.val R rx' q.2
 ·exact q.elim
theorem dZ{a b:Expr}{ta tb:TV}{pos:Pos}(ha:EO G k S a ta)(hb:EO G k S b tb):EX G k S (.BinOp a .Add b pos) (bF eZ ta tb):=qK (r:=Kb) (λ_=>Bs) AA ha hb
def Wm(C:Int->Int->Prop)(g:Int->Int->Int):D->D->(EV->Prop)->Prop
 | .int i,.int j,Q=>C i j/\Q (.val (.int (g i j)))
 | _,_,_=>False
theorem nY{C:Int->Int->Prop}{g:Int->Int->Int}:ip (rI C λi j=>.int (g i j)) (Wm C g):=by
 intro Y F H ai σ v u x y Qd Q R rx ry q gg;unfold Wm at q
 split at q
 ·obtain rfl:=rx.int;obtain rfl:=ry.int
  exact⟨_,_,rfl,rfl,q.1,gg.val R (.int _) q.2⟩
 ·exact q.elim
def Jf(g:Int->Int->Int):D->D->(EV->Prop)->Prop
 | .int i,.int j,Q=>Q (.val (.int (g i j)))
 | _,_,_=>False
theorem A4{g:Int->Int->Int}:ip (HW λi j=>.int (g i j)) (Jf g):=by
 intro Y F H ai σ v u x y Qd Q R rx ry q gg;unfold Jf at q
 split at q
 ·obtain rfl:=rx.int;obtain rfl:=ry.int
  exact⟨_,_,rfl,rfl,gg.val R (.int _) q⟩
 ·exact q.elim
section
variable {a b:Expr}{ta tb:TV}{pos:Pos}
def pe:=Jf λi j=>i-j
def v9:=Wm (λ_ j=>0<j) λi j=>i%j
def pJ:=Wm nD λi j=>i^j.toNat
theorem jT(ha:EO G k S a ta)(hb:EO G k S b tb):EX G k S (.BinOp a .Sub b pos) (bF pe ta tb):=qK (r:=λ_=>_) (λ_=>S7) (λ_=>A4) ha hb
theorem qL(ha:EO G k S a ta)(hb:EO G k S b tb):EX G k S (.BinOp a .Mod b pos) (bF v9 ta tb):=qK (r:=λ_=>_) (λ_=>S2) (λ_=>nY) ha hb
theorem mQ(ha:EO G k S a ta)(hb:EO G k S b tb):EX G k S (.BinOp a .Pow b pos) (bF pJ ta tb):=qK (r:=λ_=>_) (λ_=>S6) (λ_=>nY) ha hb
end
def lQ:D->D->(EV->Prop)->Prop
 | .int i,.int j,Q=>jt i j/\Q (.val (.int (i*j)))
 | .lst xs,.int j,Q=>(-(2^63)<=j/\j<2^63/\xs.length*j.toNat<=acZ)/\Q (.own (adl j.toNat xs).flatten)
 | _,_,_=>False
def Mu:R2:=λx y H Q=>∃l k xs,x=.ref l/\y=.int k/\Rd H l (.lst xs)/\-(2^63)<=k/\k<2^63/\xs.length*k.toNat<=acZ /\
 ∀p,H p=none->Q (.ref p) (upd H p (.lst (adl k.toNat xs).flatten))
theorem JO{X:Cx}:il X (binaryOp .Mult) Mu:=by
 intro pins s σ H x y v u Q I rx ry h;obtain⟨l,k,xs,rfl,rfl,hH,h1,h2,hz,q⟩:=h;cases rx;obtain⟨t,rfl⟩:=ry;obtain⟨z,its,n,r,hl,e⟩:=Inv.rdL I hH;have hlen:its.toArray.size*k.toNat<=acZ:=by rw[ac5,<- hl];exact hz
 have xW:¬its.toArray.size*k.toNat>(2^63-1)/8:=by
  have:(acZ:Nat)<=(2^63-1)/8:=by decide
  omega
 have abM:¬(!Builtin.List.listFitsIndex k)=true:=by
  rw[fitsIndex_both h1 h2];exact adJ
 have E4:¬Builtin.List.listTooLong (its.toArray.size*k.toNat)=true:=by
  rw[wm hlen];exact adJ
 have E8:List.foldl (λx1 x2=>x1++x2) #[] (adl (if its.toArray.isEmpty=true then 0 else k.toNat) its.toArray)=(adl k.toNat its).flatten.toArray:=by
  have f0:∀m:Nat,List.foldl (λx1 x2=>x1++x2) #[] (adl m its.toArray)=(adl m its).flatten.toArray:=λm=>by
   have:=foldl_rep its m [];rw[List.nil_append]at this;exact this
  rw[f0];cases its with
  | nil=>simp
  | cons a r'=>rw[if_neg (by simp)]
 refine wpAny_binaryOp_repeat_ref (T:="list") (U:="int") ∅ ⟨_,e,rfl⟩ (λs'=>typeIs_int s' k t) noFill_list_mul F.fills_int_mul F.slot_int_rmul repeat_list F.slot_int_index.lookup
  (call_meets F.slot_int_rmul (typeIs_int s k t) F.entry_int_rmul (F.args_int_rmul_2 _ _) (int___rmul___int_list k t l its.toArray n)
   ⟨e,rfl,⟨_,e,rfl⟩,call_meets F.slot_list_mul ⟨_,e,rfl⟩ F.entry_list_mul (F.args_list_mul_2 _ _) (AutoListH.list___mul___list_int_3 l its.toArray n k t abM xW E4) ⟨e,?_⟩⟩)
 rw[E8];exact⟨.ref _,_,I.Rl (t':=s.toks) (r.rep k.toNat) (by rw[len_rep,Nat.mul_comm];exact hz),rfl,q _ I.fresh⟩
def aaG:R2:=λx y H Q=>rI jt (λi j=>.int (i*j)) x y H Q\/Mu x y H Q
theorem Bg:ip aaG lQ:=by
 intro Y F H ai σ v u x y Qd Q R rx ry q g;unfold lQ at q
 split at q
 ·obtain rfl:=rx.int;obtain rfl:=ry.int
  exact .inl ⟨_,_,rfl,rfl,q.1,g.val R (.int _) q.2⟩
 ·obtain⟨a,vs,rfl,h1,r1⟩:=rx.lst;obtain rfl:=ry.int
  exact .inr ⟨a,_,vs,rfl,rfl,h1,q.1.1,q.1.2.1,by rw[r1.length];exact q.1.2.2,g.own R (r1.rep _) q.2⟩
 ·exact q.elim
theorem jS{a b:Expr}{ta tb:TV}{pos:Pos}(ha:EO G k S a ta)(hb:EO G k S b tb):EX G k S (.BinOp a .Mult b pos) (bF lQ ta tb):=qK (r:=λ_=>aaG) (λ_=>S3.or JO) (λ_=>Bg) ha hb
def KA(t:TV):TV:=λσ Q=>t σ λx aw=>match cW aw x with
 | some (.int i)=>Q (.val (.int (-i))) aw
 | _=>False
theorem Mw{a:Expr}{ta:TV}{pos:Pos}(ha:EO G k S a ta):EO G k S (.UnaryOp .USub a pos) (KA ta):=.mk λX Y ok=>aO (aaq VY (ha X Y ok)) λσ H Q q=>by
 obtain⟨F,ai,Qd,R,q,K⟩:=q;refine⟨F,ai,_,R,q,λv1 H1 F1 x aw s1 R1 r1 q1=>?_⟩
 split at q1
 ·rename_i i e
  obtain rfl:=(R1.cW r1 e).int;exact⟨i,rfl,K _ H1 F1 (.val (.int (-i))) aw s1 R1 (.int _) q1⟩
 ·exact q1.elim
end Vc
namespace Vc
open PySem L2
variable [KF]
variable {G:GE}{k:Nat}{S:Stat}
mutual
def gG:D->D->Bool
 | .aQ,.aQ=>true
 | .bl a,.bl b=>a==b
 | .bl a,.int j=>(if a then 1 else 0)==j
 | .int i,.bl b=>i==(if b then 1 else 0)
 | .int i,.int j=>i==j
 | .str x,.str y=>x==y
 | .lst xs,.lst ys=>rR xs ys
 | .tup xs,.tup ys=>rR xs ys
 | _,_=>false
def rR:List D->List D->Bool
 | [],[]=>true
 | x::xs,y::ys=>gG x y&&rR xs ys
 | _,_=>false
end
def bK:Nat->D->Bool
 | _,.aQ=>true
 | _,.bl _=>true
 | _,.int _=>true
 | _,.str x=>x.cps.all (· < 0x110000)
 | n+1,.tup xs=>xs.all (bK n)
 | n+1,.lst xs=>xs.all (bK n)
 | _,_=>false
mutual
def toPy:D->PyData
 | .aQ=>.none
 | .bl b=>.bool b
 | .int i=>.int i
 | .str x=>.str x
 | .tup xs=>.tuple (di xs)
 | .lst xs=>.list (di xs)
 | _=>.none
def di:List D->List PyData
 | []=>[]
 | x::xs=>toPy x::di xs
end
theorem rS{n m:Nat}(ih:∀x y,bK n x=true->bK m y=true->gG x y=PyData.eqv (toPy x) (toPy y)):∀xs ys:List D,xs.all (bK n)=true->ys.all (bK m)=true->rR xs ys=PyData.eqvAll (di xs) (di ys)
 | [],[],_,_=>rfl
 | [],_::_,_,_=>rfl
 | _::_,[],_,_=>rfl
 | x::xs,y::ys,h1,h2=>by
  rw[aeC,adn]at h1 h2;show(gG x y&&rR xs ys)=(PyData.eqv (toPy x) (toPy y)&&PyData.eqvAll (di xs) (di ys));rw[ih x y h1.1 h2.1,rS ih xs ys h1.2 h2.2]
theorem rQ:∀(n m:Nat) (x y:D),bK n x=true->bK m y=true->gG x y=PyData.eqv (toPy x) (toPy y):=by
 intro n
 induction n with
 | zero =>
  intro m x y h1 h2;cases x with
  | tup _=>exact absurd h1 (by simp [bK])
  | lst _=>exact absurd h1 (by simp [bK])
  | dct _=>exact absurd h1 (by simp [bK])
  | exc _=>exact absurd h1 (by simp [bK])
  | jn _=>exact absurd h1 (by simp [bK])
  | dB _=>exact absurd h1 (by simp [bK])
  | kp _ _ _ _=>exact absurd h1 (by simp [bK])
  | _=>cases y<;>first|rfl | (cases m<;>exact absurd h2 (by simp [bK]))
 | succ n ih =>
  intro m x y h1 h2;cases x with
  | tup xs =>
   cases y with
   | tup ys =>
    cases m with
    | zero=>exact absurd h2 (by simp [bK])
    | succ m=>exact rS (ih m) xs ys h1 h2
   | _=>first|rfl | (cases m<;>exact absurd h2 (by simp [bK]))
  | lst xs =>
   cases y with
   | lst ys =>
    cases m with
    | zero=>exact absurd h2 (by simp [bK])
    | succ m=>exact rS (ih m) xs ys h1 h2
   | _=>first|rfl | (cases m<;>exact absurd h2 (by simp [bK]))
  | dct _=>exact absurd h1 (by simp [bK])
  | exc _=>exact absurd h1 (by simp [bK])
  | jn _=>exact absurd h1 (by simp [bK])
  | dB _=>exact absurd h1 (by simp [bK])
  | kp _ _ _ _=>exact absurd h1 (by simp [bK])
  | _=>cases y<;>first|rfl | (cases m<;>exact absurd h2 (by simp [bK]))
theorem dF{n:Nat}(ih:∀x,bK n x=true->(toPy x).canLay0=true/\(toPy x).depth<=n):∀xs:List D,xs.all (bK n)=true->PyData.canLayAll0 (di xs)=true/\PyData.depthAll (di xs)<=n
 | [],_=>⟨rfl,adz _⟩
 | x::xs,h=>by
  rw[aeC,adn]at h;have h1:=ih x h.1;have h2:=dF ih xs h.2;refine⟨?_,?_⟩
  ·show((toPy x).canLay0&&PyData.canLayAll0 (di xs))=true
   rw[h1.1,h2.1];rfl
  ·show max (toPy x).depth (PyData.depthAll (di xs))<=n
   exact Nat.max_le.mpr ⟨h1.2,h2.2⟩
theorem fX:∀(n:Nat) (x:D),bK n x=true->(toPy x).canLay0=true/\(toPy x).depth<=n:=by
 intro n
 induction n with
 | zero =>
  intro x h;cases x with
  | tup _=>exact absurd h (by simp [bK])
  | lst _=>exact absurd h (by simp [bK])
  | dct _=>exact absurd h (by simp [bK])
  | exc _=>exact absurd h (by simp [bK])
  | jn _=>exact absurd h (by simp [bK])
  | dB _=>exact absurd h (by simp [bK])
  | kp _ _ _ _=>exact absurd h (by simp [bK])
  | _=>first|exact⟨rfl,adz _⟩ | (exact⟨by simpa [bK,toPy,PyData.canLay0,PyData.strOk]using h,adz _⟩)
 | succ n ih =>
  intro x h;cases x with
  | tup xs =>
   have:=dF ih xs h;exact⟨this.1,Nat.succ_le_succ this.2⟩
  | lst xs =>
   have:=dF ih xs h;exact⟨this.1,Nat.succ_le_succ this.2⟩
  | dct _=>exact absurd h (by simp [bK])
  | exc _=>exact absurd h (by simp [bK])
  | jn _=>exact absurd h (by simp [bK])
  | dB _=>exact absurd h (by simp [bK])
  | kp _ _ _ _=>exact absurd h (by simp [bK])
  | _=>first|exact⟨rfl,adz _⟩ | (exact⟨by simpa [bK,toPy,PyData.canLay0,PyData.strOk]using h,adz _⟩)
section
variable {P:adv}{w:World}{F H:Hp}{h:Heap}
mutual
theorem Rep.reads(ok:ik P w H h)(s:aq F H):∀ {v:V} {d:D} {u:Value} (n:Nat),Rep F v d->RelV v u->bK n d=true->∃as,Reads h u (toPy d) as
 | _,_,_,_,.aQ,e,_=>by cases e;exact⟨_,.none⟩
 | _,_,_,_,.bl b,e,_=>by cases e;exact⟨_,.bool b⟩
 | _,_,_,_,.int i,e,_=>by obtain⟨t,rfl⟩:=e;exact⟨_,.int i t⟩
 | _,_,_,_,.str x,e,_=>by obtain⟨t,rfl⟩:=e;exact⟨_,.str x t⟩
 | _,_,_,0,.tup _ _,_,o=>by exact absurd o (by simp [bK])
 | _,_,_,0,.lst _ _,_,o=>by exact absurd o (by simp [bK])
 | _,_,_,n+1,.tup (a:=a) (vs:=vs) hf r,e,o=>by
  cases e;obtain⟨_,its,rv,ob,ho,hc,m,hd⟩:=ok a _ (s a _ hf);obtain⟨as,q⟩:=aE.reads ok s n r rv o;exact⟨as,.tuple ho hc hd q⟩
 | _,_,_,n+1,.lst (a:=a) (vs:=vs) hf r,e,o=>by
  cases e;obtain⟨_,its,m,rv,ho⟩:=L2.Rd.ok (Rd.mono s hf) ok;obtain⟨as,q⟩:=aE.reads ok s n r rv o;exact⟨_,.list ho rfl rfl q⟩
 | _,_,_,n,.jn _,_,o=>by cases n<;>exact absurd o (by simp [bK])
 | _,_,_,n,.exc _,_,o=>by cases n<;>exact absurd o (by simp [bK])
 | _,_,_,n,.Iz _ _,_,o=>by cases n<;>exact absurd o (by simp [bK])
 | _,_,_,n,.dB _ _,_,o=>by cases n<;>exact absurd o (by simp [bK])
 | _,_,_,n,.kp _ _ _,_,o=>by cases n<;>exact absurd o (by simp [bK])
theorem aE.reads(ok:ik P w H h)(s:aq F H):∀ {vs:List V} {ds:List D} {us:List Value} (n:Nat),aE F vs ds->Vals vs us->ds.all (bK n)=true->∃as,ReadsAll h us (di ds) as
 | _,_,_,_,.nil,.nil,_=>⟨_,.nil⟩
 | _,_,_,n,.cons r t,.cons e f,o=>by
  rw[aeC,adn]at o;obtain⟨as,h1⟩:=Rep.reads ok s n r e o.1;obtain⟨bs,h2⟩:=aE.reads ok s n t f o.2;exact⟨_,.cons h1 h2⟩
end
theorem bW.reads(ok:ik P w H h)(s:aq F H){v:V}{d:D}{u:Value}(r:bW F H v d)(e:RelV v u)(o:bK 8 d=true):∃as,Reads h u (toPy d) as:=by
 cases d with
 | lst xs =>
  obtain⟨a,vs,rfl,hf,r⟩:=r;cases e;obtain⟨_,its,n,rv,ho⟩:=L2.Rd.ok hf ok;obtain⟨as,q⟩:=aE.reads ok s 7 r rv o;exact⟨_,.list ho rfl rfl q⟩
 | dB _=>exact absurd o (by simp [bK])
 | kp _ _ _ _=>exact absurd o (by simp [bK])
 | _=>exact Rep.reads ok s 8 r e o
end
theorem iD{x:D}(h:bK 8 x=true):PySem.SeqAt.shaped (toPy x)=true:=by
 obtain⟨h1,h2⟩:=fX 8 x h;unfold PySem.SeqAt.shaped;rw[h1,decide_eq_true ⋯];rfl
def Ke(neg:Bool):R2:=λv u H Q=>∃F x y,aq F H/\bW F H v x/\bW F H u y/\bK 8 x=true/\bK 8 y=true/\Q (.bl (if neg then !gG x y else gG x y)) H
theorem SW{X:Cx}(hu:X.A.units+64<cLine):il X (aek .Eq) (Ke false):=by
 intro pins s σ H v u v' u' Q I rv ru h;obtain⟨F,x,y,sm,rx,ry,ox,oy,q⟩:=h;obtain⟨as,r1⟩:=rx.reads I.bI sm rv ox;obtain⟨bs,r2⟩:=ry.reads I.bI sm ru oy;refine PyProof.Rows.eq_dataH r1 r2 (iD ox) (iD oy) hu ⟨.bl (gG x y),H,I,?_,q⟩;rw[rQ 8 8 x y ox oy];rfl
theorem S4{X:Cx}(hu:X.A.units+64<cLine):il X (aek .NotEq) (Ke true):=by
 intro pins s σ H v u v' u' Q I rv ru h;obtain⟨F,x,y,sm,rx,ry,ox,oy,q⟩:=h;obtain⟨as,r1⟩:=rx.reads I.bI sm rv ox;obtain⟨bs,r2⟩:=ry.reads I.bI sm ru oy;refine PyProof.Rows.ne_dataH r1 r2 (iD ox) (iD oy) hu ⟨.bl (!gG x y),H,I,?_,q⟩;rw[rQ 8 8 x y ox oy];rfl
end Vc
namespace Vc
open PySem L2
variable [KF]
variable {G:GE}{k:Nat}{S:Stat}
def nF(r:R2)(f:D->D->(Bool->Prop)->Prop):Prop:=
 ∀Y F H ai σ v u x y (Qd:Bool->Prop) (Q:VK),RS Y F ai σ H->bW F H v x->bW F H u y->f x y Qd->(∀b,Qd b->Q (.bl b) H)->r v u H Q
def aW(f:D->D->(Bool->Prop)->Prop)(ta tb:TV):TB:=λσ Q=>ta σ λx aw=>tb aw λy aM=>match cW aM x,cW aM y with
 | some a,some b=>f a b λr=>Q r aM
 | _,_=>False
def bV(t:TB):TV:=λσ Q=>t σ λb aw=>Q (.val (.bl b)) aw
theorem p9{Y:bz}{r:R2}{f:D->D->(Bool->Prop)->Prop}(hs:nF r f){ta tb:TV}{σ:St}{H:Hp}{Q:VK}{F:Hp}{ai:Sd}{Qd:Bool->Sd->Prop}(R:RS Y F ai σ H)(q:aW f ta tb ai Qd)
  (K:∀b H' F' aC,aq F F'->RS Y F' aC σ H'->Qd b aC->Q (.bl b) H'):VC r (lO Y ta) (lO Y tb) σ H Q:=by
 refine⟨F,ai,_,R,q,λv1 H1 F1 x aw s1 R1 r1 q1=>?_⟩;refine⟨F1,aw,_,R1,q1,λv2 H2 F2 y aM s2 R2 r2 q2=>?_⟩
 split at q2
 ·rename_i a b ea eb
  exact hs Y F2 H2 aM σ v1 v2 a b _ Q R2 (R2.cW (r1.mono s2) ea) (R2.cW r2 eb) q2 λc qc=>K c H2 F2 aM (s1.trans s2) R2 qc
 ·exact q2.elim
def nE(G:GE)(k:Nat)(S:Stat)(op:CmpOp)(f:D->D->(Bool->Prop)->Prop):Prop:=∃r:R2,(∀X Y,dA X G k S Y->il X (aek op) r)/\nF r f
theorem aU{op:CmpOp}{f:D->D->(Bool->Prop)->Prop}(h:nE G k S op f){a b:Expr}{ta tb:TV}{pos:Pos}(ha:EO G k S a ta)(hb:EO G k S b tb)(hm:behindInMarks op b=false:=by first|exact oA _|with_unfolding_all rfl):
  EB G k S (.Compare a [op] [b] pos) (aW f ta tb):=.mk λX Y ok=>by
 obtain⟨r,ho,hs⟩:=h;refine oI (sP (ho X Y ok) (ha X Y ok) (hb X Y ok) hm) λσ H Q q=>?_;obtain⟨F,ai,Qd,R,q,K⟩:=q;exact p9 hs R q λb H' F' aC s R' qq=>⟨b,rfl,K b H' F' aC s R' qq⟩
theorem oK{op:CmpOp}{f:D->D->(Bool->Prop)->Prop}(h:nE G k S op f){a b:Expr}{ta tb:TV}{pos:Pos}(ha:EO G k S a ta)(hb:EO G k S b tb)(hm:behindInMarks op b=false:=by first|exact oA _|with_unfolding_all rfl):
  EO G k S (.Compare a [op] [b] pos) (bV (aW f ta tb)):=.mk λX Y ok=>by
 obtain⟨r,ho,hs⟩:=h;refine aO (z9 (ho X Y ok) (ha X Y ok) (hb X Y ok) hm) λσ H Q q=>?_;obtain⟨F,ai,Qd,R,q,K⟩:=q;exact p9 hs R q λb H' F' aC s R' qq=>K _ H' F' (.val (.bl b)) aC s R' (.bl b) qq
def eqT(x y:D)(Q:Bool->Prop):Prop:=(bK 8 x=true/\bK 8 y=true)/\Q (gG x y)
def neT(x y:D)(Q:Bool->Prop):Prop:=(bK 8 x=true/\bK 8 y=true)/\Q (!gG x y)
theorem fQ:nE G k S .Eq eqT:=⟨Ke false,λX Y ok=>SW ok.units,λY F H ai σ v u x y Qd Q R rx ry q K=>⟨F,x,y,R.fr,rx,ry,q.1.1,q.1.2,K _ q.2⟩⟩
theorem uJ:nE G k S .NotEq neT:=⟨Ke true,λX Y ok=>S4 ok.units,λY F H ai σ v u x y Qd Q R rx ry q K=>⟨F,x,y,R.fr,rx,ry,q.1.1,q.1.2,K _ q.2⟩⟩
def Qw(p:Int->Int->Bool):D->D->(Bool->Prop)->Prop
 | .int i,.int j,Q=>Q (p i j)
 | _,_,_=>False
theorem iw{p:Int->Int->Bool}:nF (HW λi j=>.bl (p i j)) (Qw p):=λY F H ai σ v u x y Qd Q R rx ry q K=>by
 unfold Qw at q
 split at q
 ·obtain rfl:=rx.int;obtain rfl:=ry.int
  exact⟨_,_,rfl,rfl,K _ q⟩
 ·exact q.elim
def Jz:=Qw λi j=>decide (i<j)
def leT:=Qw λi j=>decide (i<=j)
def Yy:=Qw λi j=>decide (j<i)
def geT:=Qw λi j=>decide (j<=i)
theorem CL:nE G k S .Lt Jz:=⟨_,λ_ _ _=>Z5,iw⟩
theorem Xj:nE G k S .LtE leT:=⟨_,λ_ _ _=>Z4,iw⟩
theorem NC:nE G k S .Gt Yy:=⟨_,λ_ _ _=>Z3,iw⟩
theorem Xi:nE G k S .GtE geT:=⟨_,λ_ _ _=>Z2,iw⟩
def isNone:D->Bool
 | .aQ=>true
 | _=>false
def QA(x y:D)(Q:Bool->Prop):Prop:=isNone y=true/\Q (isNone x)
theorem bW.isNone{F H:Hp}{v:V}{x:D}(r:bW F H v x):decide (v=.aQ)=isNone x:=by
 cases x with
 | lst xs=>obtain⟨a,vs,rfl,_⟩:=r;rfl
 | dct _=>cases(show Rep F v (.dct _)from r);rfl
 | exc _=>cases(show Rep F v (.exc _)from r);rfl
 | jn _=>cases(show Rep F v (.jn _)from r);rfl
 | dB _=>obtain⟨a,ks,rfl,_⟩:=r;rfl
 | kp _ _ _ _=>obtain⟨a,dx,ad,ks,rfl,_⟩:=r;rfl
 | aQ=>obtain rfl:=r.aQ;rfl
 | bl _=>obtain rfl:=r.bl;rfl
 | int _=>obtain rfl:=r.int;rfl
 | str _=>obtain rfl:=r.str;rfl
 | tup _=>cases(show Rep F v (.tup _)from r);rfl
theorem bW.Rv{F H:Hp}{v:V}{x:D}(r:bW F H v x)(h:Vc.isNone x=true):v=.aQ:=by
 cases x<;>first|exact r.aQ|cases h
theorem CK:nE G k S .Is QA:=⟨_,λ_ _ _=>SY,λY F H ai σ v u x y Qd Q R rx ry q K=>⟨ry.Rv q.1,by rw[rx.isNone];exact K _ q.2⟩⟩
def VQ:D->(Bool->Prop)->Prop
 | .aQ,Q=>Q false
 | .bl b,Q=>Q b
 | .int i,Q=>Q (i != 0)
 | .lst xs,Q=>Q (!xs.isEmpty)
 | .tup xs,Q=>Q (!xs.isEmpty)
 | _,_=>False
def pj(t:TV):TB:=λσ Q=>t σ λx aw=>match cW aw x with
 | some d=>VQ d λb=>Q b aw
 | none=>False
theorem jF{F:Hp}{vs:List V}{xs:List D}(r:aE F vs xs):(!xs.isEmpty)=!vs.isEmpty:=by cases r<;>rfl
theorem f6{e:Expr}{t:TV}(h:EO G k S e t)(he:∀env whole,isTrue e env whole=(do let v <- whole;standAt e.pos;holding [v] (truthy v)):=by intro _ _;rfl):EB G k S e (pj t):=.mk λX Y ok=>by
 refine oI (Ga (h X Y ok) (he _)) λσ H Q q=>?_;obtain⟨F,ai,Qd,R,q,K⟩:=q;refine⟨F,ai,_,R,q,λv1 H1 F1 x aw s1 R1 r1 q1=>?_⟩
 split at q1
 ·rename_i d ed
  have r:=R1.cW r1 ed;unfold VQ at q1
  split at q1
  ·obtain rfl:=r.aQ;exact⟨false,rfl,K _ H1 F1 aw s1 R1 q1⟩
  ·rename_i b;obtain rfl:=r.bl;exact⟨b,rfl,K _ H1 F1 aw s1 R1 q1⟩
  ·rename_i i;obtain rfl:=r.int;exact⟨_,rfl,K _ H1 F1 aw s1 R1 q1⟩
  ·rename_i xs;obtain⟨a,vs,rfl,h1,h2⟩:=r.lst
   exact⟨!xs.isEmpty,.inl ⟨vs,.inl h1,jF h2⟩,K _ H1 F1 aw s1 R1 q1⟩
  ·rename_i xs;obtain⟨a,vs,rfl,h1,h2⟩:=r.tup R1.fr
   exact⟨!xs.isEmpty,.inr (.inl ⟨vs,.inl (.inl h1),jF h2⟩),K _ H1 F1 aw s1 R1 q1⟩
  ·exact q1.elim
 ·exact q1.elim
def hJ(t u:TB):TB:=λσ Q=>t σ λc aw=>if c=true then u aw Q else Q false aw
def yO(t u:TB):TB:=λσ Q=>t σ λc aw=>if c=true then Q true aw else u aw Q
def i9(t:TB):TB:=λσ Q=>t σ λc aw=>Q (!c) aw
structure EW(G:GE)(k:Nat)(S:Stat)(e:Expr)(t:TB) :Prop where
 run:∀X Y,dA X G k S Y->PW X e (lB Y t)
instance {G:GE} {k:Nat} {S:Stat} {e:Expr} {t:TB} :CoeFun (EW G k S e t) λ_=>∀X Y,dA X G k S Y->PW X e (lB Y t):=⟨EW.run⟩
theorem pw_imp{X:Cx}{e:Expr}{t t':TT}(h:PW X e t)(i:∀σ H Q,t' σ H Q->t σ H Q):PW X e t':=λwh pins s σ H Q I q=>h wh pins s σ H Q I (i σ H Q q)
section
variable {a b:Expr}{rest:List Expr}{ta tb:TB}{pos:Pos}
theorem HX(h:EW G k S a ta):EB G k S a ta:=.mk λX Y ok=>(h X Y ok).pt
theorem oJ(ha:EB G k S a ta):EW G k S (.BoolOp .And [a] pos) ta:=.mk λX Y ok=>pw_and1 (ha X Y ok)
theorem wA(ha:EB G k S a ta):EW G k S (.BoolOp .Or [a] pos) ta:=.mk λX Y ok=>pw_or1 (ha X Y ok)
theorem wy(ha:EB G k S a ta)(hb:EW G k S (.BoolOp .And (b::rest) pos) tb):EW G k S (.BoolOp .And (a::b::rest) pos) (hJ ta tb):=.mk λX Y ok=>pw_imp (pw_and (ha X Y ok) (hb X Y ok)) λσ H Q q=>by
 obtain⟨F,ai,Qd,R,q,K⟩:=q;refine⟨F,ai,_,R,q,λc H1 F1 aw s1 R1 q1=>?_⟩;cases c with
 | true=>exact⟨F1,aw,Qd,R1,q1,λb H' F' aC s R' qq=>K b H' F' aC (s1.trans s) R' qq⟩
 | false=>exact K false H1 F1 aw s1 R1 q1
theorem Gn(ha:EB G k S a ta)(hb:EW G k S (.BoolOp .Or (b::rest) pos) tb):EW G k S (.BoolOp .Or (a::b::rest) pos) (yO ta tb):=.mk λX Y ok=>pw_imp (pw_or (ha X Y ok) (hb X Y ok)) λσ H Q q=>by
 obtain⟨F,ai,Qd,R,q,K⟩:=q;refine⟨F,ai,_,R,q,λc H1 F1 aw s1 R1 q1=>?_⟩;cases c with
 | false=>exact⟨F1,aw,Qd,R1,q1,λb H' F' aC s R' qq=>K b H' F' aC (s1.trans s) R' qq⟩
 | true=>exact K true H1 F1 aw s1 R1 q1
theorem g9(ha:EB G k S a ta):EB G k S (.UnaryOp .Not a pos) (i9 ta):=.mk λX Y ok=>oI (Uk (ha X Y ok)) λσ H Q q=>by
 obtain⟨F,ai,Qd,R,q,K⟩:=q;exact⟨F,ai,_,R,q,λc H1 F1 aw s1 R1 q1=>K _ H1 F1 aw s1 R1 q1⟩
end
structure Ie(G:GE)(k:Nat)(S:Stat)(e:Expr)(t:TB) :Prop where
 run:∀X Y,dA X G k S Y->PE X e (λσ H Q=>lB Y t σ H λb H'=>Q (.bl b) H')
instance {G:GE} {k:Nat} {S:Stat} {e:Expr} {t:TB} :CoeFun (Ie G k S e t) λ_=>∀X Y,dA X G k S Y->PE X e (λσ H Q=>lB Y t σ H λb H'=>Q (.bl b) H'):=⟨Ie.run⟩
section
variable {a b:Expr}{rest:List Expr}{ta tb:TB}{pos:Pos}
def ph(t:TV):TB:=λσ Q=>t σ λx aw=>match cW aw x with
 | some (.bl b)=>Q b aw
 | _=>False
theorem Hn{t:TV}(h:EO G k S a t):Ie G k S a (ph t):=.mk λX Y ok=>aO (h X Y ok) λσ H Q q=>by
 obtain⟨F,ai,Qd,R,q,K⟩:=q;refine⟨F,ai,_,R,q,λv1 H1 F1 x aw s1 R1 r1 q1=>?_⟩
 split at q1
 ·rename_i b eb
  obtain rfl:=(R1.cW r1 eb).bl;exact K b H1 F1 aw s1 R1 q1
 ·exact q1.elim
theorem ME{op:BoolOp}(h:Ie G k S a ta):Ie G k S (.BoolOp op [a] pos) ta:=.mk λX Y ok=>Ts (h X Y ok)
theorem v_and(ha:Ie G k S a ta)(hb:Ie G k S (.BoolOp .And (b::rest) pos) tb):Ie G k S (.BoolOp .And (a::b::rest) pos) (hJ ta tb):=.mk λX Y ok=>aO (Tp (ha X Y ok) (hb X Y ok)) λσ H Q q=>by
 obtain⟨F,ai,Qd,R,q,K⟩:=q;refine⟨F,ai,_,R,q,λc H1 F1 aw s1 R1 q1=>⟨c,rfl,?_⟩⟩;cases c with
 | true=>exact⟨F1,aw,Qd,R1,q1,λb H' F' aC s R' qq=>K b H' F' aC (s1.trans s) R' qq⟩
 | false=>exact K false H1 F1 aw s1 R1 q1
theorem aaI(h:Ie G k S a ta):EO G k S a (bV ta):=.mk λX Y ok=>aO (h X Y ok) λσ H Q q=>by
 obtain⟨F,ai,Qd,R,q,K⟩:=q;exact⟨F,ai,_,R,q,λb H1 F1 aw s1 R1 q1=>K _ H1 F1 (.val (.bl b)) aw s1 R1 (.bl b) q1⟩
end
end Vc
namespace Vc
open PySem L2
variable [KF]
variable {G:GE}{k:Nat}{S:Stat}
theorem aE.mZ{F:Hp}{vs:List V}{xs:List D}{i:Int}{d:D}(r:aE F vs xs)(h:L2.mZ xs i=some d):∃v,L2.mZ vs i=some v/\Rep F v d:=by
 unfold L2.mZ at h ⊢;rw[r.length];cases e:zR xs.length i with
 | none=>rw[e]at h;cases h
 | some j =>
  rw[e]at h;exact r.get (i:=j) h
def Mi:D->D->(D->Prop)->Prop
 | .lst xs,.int i,Q=>match mZ xs i with
  | some d=>Q d
  | none=>False
 | .tup xs,.int i,Q=>match mZ xs i with
  | some d=>Q d
  | none=>False
 | .str z,.int i,Q=>z.length<=acZ/\match mZ z.cps.toList i with
  | some c=>Q (.str ⟨#[c]⟩)
  | none=>False
 | .jn ns,.int i,Q=>match mZ ns i with
  | some n=>Q (.int n)
  | none=>False
 | _,_,_=>False
theorem Io{α β:Type}(f:α->β){xs:List α}{i:Int}{a:α}(h:L2.mZ xs i=some a):L2.mZ (xs.map f) i=some (f a):=by
 unfold L2.mZ at h ⊢;rw[acO];cases e:zR xs.length i with
 | none=>rw[e]at h;cases h
 | some j =>
  rw[e]at h;have h:xs[j]?=some a:=h;show(xs.map f)[j]?=_;rw[ac0,h];rfl
def hW(ta tb:TV):TV:=λσ Q=>ta σ λx aw=>tb aw λy aM=>match cW aM x,cW aM y with
 | some a,some b=>Mi a b λr=>Q (.val r) aM
 | _,_=>False
theorem cY{a b:Expr}{ta tb:TV}{pos:Pos}(ha:EO G k S a ta)(hb:EO G k S b tb)(hs:zb b:=by intro _ _;rfl):EO G k S (.Subscript a b pos) (hW ta tb):=.mk λX Y ok =>
 aO (aao QD (ha X Y ok) (hb X Y ok) hs) λσ H Q q=>by
  obtain⟨F,ai,Qd,R,q,K⟩:=q;refine⟨F,ai,_,R,q,λv1 H1 F1 x aw s1 R1 r1 q1=>?_⟩;refine⟨F1,aw,_,R1,q1,λv2 H2 F2 y aM s2 R2 r2 q2=>?_⟩
  split at q2
  ·rename_i a b ea eb
   have rx:=R2.cW (r1.mono s2) ea;have ry:=R2.cW r2 eb;have fin:∀ {v d},Rep F2 v d->Qd (.val d) aM->Q v H2:=λr qq=>K _ H2 F2 (.val _) aM (s1.trans s2) R2 r qq;unfold Mi at q2
   split at q2
   ·obtain⟨p,vs,rfl,h1,r1⟩:=rx.lst;obtain rfl:=ry.int
    split at q2
    ·rename_i d e
     obtain⟨v,ev,rv⟩:=r1.mZ e;exact .inl ⟨p,vs,_,v,rfl,rfl,.inl h1,ev,fin rv q2⟩
    ·exact q2.elim
   ·obtain⟨p,vs,rfl,h1,r1⟩:=rx.tup R2.fr;obtain rfl:=ry.int
    split at q2
    ·rename_i d e
     obtain⟨v,ev,rv⟩:=r1.mZ e;exact .inr (.inl ⟨p,vs,_,v,rfl,rfl,.of h1,ev,fin rv q2⟩)
    ·exact q2.elim
   ·obtain rfl:=rx.str;obtain rfl:=ry.int
    obtain⟨hz,q2⟩:=q2
    split at q2
    ·rename_i c e
     exact .inr (.inr ⟨_,_,c,rfl,rfl,hz,e,fin (.str _) q2⟩)
    ·exact q2.elim
   ·rename_i ns i
    have rx:Rep F2 v1 (.jn ns):=rx;obtain rfl:=ry.int;cases rx with
    | jn h =>
     split at q2
     ·rename_i n e
      exact .inl ⟨_,ns.map V.int,_,.int n,rfl,rfl,by rw[ok.kf];exact R2.fr.seq h,Io V.int e,fin (.int _) q2⟩
     ·exact q2.elim
   ·exact q2.elim
  ·exact q2.elim
theorem qO{F:Hp}:∀ns:List Int,aE F (ns.map V.int) (ns.map D.int)
 | []=>.nil
 | n::ns=>.cons (.int n) (qO ns)
theorem bW.jn{F H:Hp}(s:aq F H){v:V}{ns:List Int}(r:bW F H v (.jn ns)):∃a,v=.ref a/\gp KF.K H a (ns.map V.int):=by
 cases(show Rep F v (.jn ns)from r)with
 | jn h=>exact⟨_,rfl,s.seq h⟩
abbrev MT:=Sd->(Option Int->Sd->Prop)->Prop
def lP(Y:bz)(t:MT):TO:=λσ H Q=>∃F ai Qd,RS Y F ai σ H/\t ai Qd/\∀o H' F' aC,aq F F'->RS Y F' aC σ H'->Qd o aC->Q o H'
structure V3(G:GE)(k:Nat)(S:Stat)(e:Option Expr)(t:MT) :Prop where
 run:∀X Y,dA X G k S Y->PO X e (lP Y t)
instance {G:GE} {k:Nat} {S:Stat} {e:Option Expr} {t:MT} :CoeFun (V3 G k S e t) λ_=>∀X Y,dA X G k S Y->PO X e (lP Y t):=⟨V3.run⟩
theorem FX{X:Cx}{e:Option Expr}{t t':TO}(h:PO X e t)(i:∀σ H Q,t' σ H Q->t σ H Q):PO X e t':=λpins s σ H Q I q=>h pins s σ H Q I (i σ H Q q)
def tP0:MT:=λσ Q=>Q none σ
def tP1(t:TV):MT:=λσ Q=>t σ λx aw=>match cW aw x with
 | some (.int i)=>Q (some i) aw
 | _=>False
theorem FJ:V3 G k S none tP0:=.mk λX Y ok=>FX J6 λσ H Q q=>by
 obtain⟨F,ai,Qd,R,q,K⟩:=q;exact K none H F ai (aq.refl _) R q
theorem FL{e:Expr}{t:TV}(h:EO G k S e t):V3 G k S (some e) (tP1 t):=.mk λX Y ok=>FX (J7 (h X Y ok)) λσ H Q q=>by
 obtain⟨F,ai,Qd,R,q,K⟩:=q;refine⟨F,ai,_,R,q,λv1 H1 F1 x aw s1 R1 r1 q1=>?_⟩
 split at q1
 ·rename_i i e
  obtain rfl:=(R1.cW r1 e).int;exact⟨i,rfl,K _ H1 F1 aw s1 R1 q1⟩
 ·exact q1.elim
def cut{α:Type}(xs:List α)(lo hi:Option Int):List α:=(xs.drop (HT.dy xs.length 0 lo)).take (HT.dy xs.length xs.length hi-HT.dy xs.length 0 lo)
theorem aE.cut{F:Hp}{vs:List V}{xs:List D}(r:aE F vs xs)(lo hi:Option Int):aE F (uP vs lo hi) (cut xs lo hi):=by
 unfold uP Vc.cut;rw[r.length];exact(r.drop _).take _
def slD:D->Option Int->Option Int->(EV->Prop)->Prop
 | .lst xs,lo,hi,Q=>Q (.own (cut xs lo hi))
 | .jn ns,lo,hi,Q=>Q (.own (cut (ns.map D.int) lo hi))
 | .tup xs,lo,hi,Q=>¬(HT.dy xs.length 0 lo=0/\HT.dy xs.length xs.length hi=xs.length)/\Q (.val (.tup (cut xs lo hi)))
 | _,_,_,_=>False
def GK(t:TV)(tl th:MT):TX:=λσ Q=>t σ λx aw=>tl aw λl aM=>th aM λu fq=>match cW fq x with
 | some d=>slD d l u λr=>Q r fq
 | none=>False
theorem aaK{e:Expr}{lo hi:Option Expr}{t:TV}{tl th:MT}{p2 pos:Pos}(h:EO G k S e t)(hl:V3 G k S lo tl)(hh:V3 G k S hi th):EX G k S (.Subscript e (.Slice lo hi none p2) pos) (GK t tl th):=.mk λX Y ok =>
 aO (FP (LJ.or Kr Vv) (h X Y ok) (hl X Y ok) (hh X Y ok)) λσ H Q q=>by
  obtain⟨F,ai,Qd,R,q,K⟩:=q;refine⟨F,ai,_,R,q,λv1 H1 F1 x aw s1 R1 r1 q1=>?_⟩;refine⟨F1,aw,_,R1,q1,λl H2 F2 aM s2 R2 q2=>?_⟩;refine⟨F2,aM,_,R2,q2,λu H3 F3 fq s3 R3 q3=>?_⟩
  split at q3
  ·rename_i d e
   have rx:=R3.cW (r1.mono (s2.trans s3)) e;have g:Goes Y F3 fq σ (λr=>Qd r fq) Q:=λv H' F' r s R' rr qq=>K v H' F' r fq (((s1.trans s2).trans s3).trans s) R' rr qq;unfold slD at q3
   split at q3
   ·obtain⟨p,vs,rfl,h1,r1⟩:=rx.lst
    exact .inl ⟨p,vs,rfl,.inl h1,g.own R3 (r1.cut _ _) q3⟩
   ·obtain⟨p,rfl,h1⟩:=rx.jn R3.fr
    exact .inl ⟨p,_,rfl,by rw[ok.kf];exact h1,g.own R3 ((qO _).cut _ _) q3⟩
   ·obtain⟨p,vs,rfl,h1,r1⟩:=rx.tup R3.fr
    exact .inr ⟨p,vs,rfl,.of h1,by rw[r1.length];exact q3.1,g.tup R3 (r1.cut _ _) q3.2⟩
   ·exact q3.elim
  ·exact q3.elim
def tN:fu:=λσ Q=>Q [] σ
def aS(t:TD)(u:fu):fu:=λσ Q=>t σ λx aw=>u aw λxs aM=>Q (x::xs) aM
theorem aD:xu G k S [] tN:=.mk λX Y ok=>gW dW λσ H Q q=>by
 obtain⟨F,ai,Qd,R,q,K⟩:=q;exact K [] H F [] ai (aq.refl _) R .nil q
theorem ah{e:Expr}{es:List Expr}{t:TD}{u:fu}(h:ED G k S e t)(hs:xu G k S es u)(he:∀env,acW (e::es) env=(false,eval e env)::acW es env:=by exactλ_=>Vc.cN rfl):xu G k S (e::es) (aS t u):=.mk λX Y ok =>
 gW (b5 (h X Y ok) (hs X Y ok) (he _)) λσ H Q q=>by
  obtain⟨F,ai,Qd,R,q,K⟩:=q;refine⟨F,ai,_,R,q,λv1 H1 F1 x aw s1 R1 r1 q1=>?_⟩;exact⟨F1,aw,_,R1,q1,λvs H2 F2 xs aM s2 R2 r2 q2=>K _ H2 F2 (x::xs) aM (s1.trans s2) R2 (.cons (r1.mono s2) r2) q2⟩
def xt(t:fu):TX:=λσ Q=>t σ λxs aw=>xs.length<=acZ/\Q (.own xs) aw
def uq(t:fu):TV:=λσ Q=>t σ λxs aw=>xs.length<=acZ/\Q (.val (.tup xs)) aw
theorem fH{es:List Expr}{t:fu}{pos:Pos}(h:xu G k S es t):EX G k S (.List es pos) (xt t):=.mk λX Y ok=>aO (sG (h X Y ok)) λσ H Q q=>by
 obtain⟨F,ai,Qd,R,q,K⟩:=q;refine⟨F,ai,_,R,q,λvs H1 F1 xs aw s1 R1 r1 q1=>⟨by rw[r1.length];exact q1.1,?_⟩⟩
 have g:Goes Y F1 aw σ (λr=>Qd r aw) Q:=λv H' F' r s R' rr qq=>K v H' F' r aw (s1.trans s) R' rr qq;exact g.own R1 r1 q1.2
theorem d0{es:List Expr}{t:fu}{x1}{pos:Pos}(h:xu G k S es t):EO G k S (.Tuple es x1 pos) (uq t):=.mk λX Y ok=>aO (FQ (h X Y ok)) λσ H Q q=>by
 obtain⟨F,ai,Qd,R,q,K⟩:=q;refine⟨F,ai,_,R,q,λvs H1 F1 xs aw s1 R1 r1 q1=>⟨by rw[r1.length];exact q1.1,λp hp=>?_⟩⟩
 have sm:=aJ (o:=.tup vs) (same_none R1.fr hp);exact K _ _ _ (.val (.tup xs)) aw (s1.trans sm) (R1.alloc hp) (.tup ay (r1.mono sm)) q1.2
abbrev xn:=Sd->(List OV->Sd->Prop)->Prop
inductive uD (F:Hp)(σ:St):List V->List OV->Prop where
 | nil:uD F σ [] []
 | cons {v:V} {x:OV} {vs:List V} {xs:List OV}:xF F σ v x->uD F σ vs xs->uD F σ (v::vs) (x::xs)
def lOs(Y:bz)(t:xn):TA:=λσ H Q=>∃F ai Qd,RS Y F ai σ H/\t ai Qd/\∀vs H' F' xs aC,aq F F'->RS Y F' aC σ H'->uD F' σ vs xs->Qd xs aC->Q vs H'
structure HC(G:GE)(k:Nat)(S:Stat)(es:List Expr)(t:xn) :Prop where
 run:∀X Y,dA X G k S Y->PA X es (lOs Y t)
instance {G:GE} {k:Nat} {S:Stat} {es:List Expr} {t:xn} :CoeFun (HC G k S es t) λ_=>∀X Y,dA X G k S Y->PA X es (lOs Y t):=⟨HC.run⟩
def dX:xn:=λσ Q=>Q [] σ
def bH(t:TV)(u:xn):xn:=λσ Q=>t σ λx aw=>u aw λxs aM=>Q (x::xs) aM
theorem bx:HC G k S [] dX:=.mk λX Y ok=>gW dW λσ H Q q=>by
 obtain⟨F,ai,Qd,R,q,K⟩:=q;exact K [] H F [] ai (aq.refl _) R .nil q
theorem aL{e:Expr}{es:List Expr}{t:TV}{u:xn}(h:EO G k S e t)(hs:HC G k S es u)(he:∀env,acW (e::es) env=(false,eval e env)::acW es env:=by exactλ_=>Vc.cN rfl):HC G k S (e::es) (bH t u):=.mk λX Y ok =>
 gW (b5 (h X Y ok) (hs X Y ok) (he _)) λσ H Q q=>by
  obtain⟨F,ai,Qd,R,q,K⟩:=q;refine⟨F,ai,_,R,q,λv1 H1 F1 x aw s1 R1 r1 q1=>?_⟩;exact⟨F1,aw,_,R1,q1,λvs H2 F2 xs aM s2 R2 r2 q2=>K _ H2 F2 (x::xs) aM (s1.trans s2) R2 (.cons (r1.mono s2) r2) q2⟩
def je(σ:Sd):List OV->Option (List D)
 | []=>some []
 | x::xs=>match cW σ x,je σ xs with
  | some d,some ds=>some (d::ds)
  | _,_=>none
inductive iV (F H:Hp):List V->List D->Prop where
 | nil:iV F H [] []
 | cons {v:V} {x:D} {vs:List V} {xs:List D}:bW F H v x->iV F H vs xs->iV F H (v::vs) (x::xs)
theorem RS.je{Y:bz}{F:Hp}{ai:Sd}{σ:St}{H:Hp}(R:RS Y F ai σ H):∀ {vs:List V} {xs:List OV} {ds:List D},uD F σ vs xs->Vc.je ai xs=some ds->iV F H vs ds
 | _,_,_,.nil,e=>by cases e;exact .nil
 | _,_,_,.cons (x:=x) (xs:=xs) r t,e=>by
  have e:(match Vc.cW ai x,Vc.je ai xs with|some d,some ds=>some (d::ds)|_,_=>none)=some _:=e
  split at e
  ·rename_i d ds e1 e2
   cases e;exact .cons (R.cW r e1) (RS.je R t e2)
  ·cases e
theorem iV.one{F H:Hp}{vs:List V}{d:D}(r:iV F H vs [d]):∃v,vs=[v]/\bW F H v d:=by
 cases r with
 | cons r t=>cases t;exact⟨_,rfl,r⟩
theorem iV.two{F H:Hp}{vs:List V}{d e:D}(r:iV F H vs [d,e]):∃v u,vs=[v,u]/\bW F H v d/\bW F H u e:=by
 cases r with
 | cons r t =>
  obtain⟨u,rfl,q⟩:=t.one;exact⟨_,u,rfl,r,q⟩
def pS(r:List V->Hp->VK->Prop)(f:List D->(EV->Prop)->Prop):Prop:=
 ∀Y F H ai σ vs ds (Qd:EV->Prop) (Q:VK),RS Y F ai σ H->iV F H vs ds->f ds Qd->Goes Y F ai σ Qd Q->r vs H Q
def eN(f:List D->(EV->Prop)->Prop)(t:xn):TX:=λσ Q=>t σ λxs aw=>match je aw xs with
 | some ds=>f ds λr=>Q r aw
 | none=>False
theorem qS{Y:bz}{r:List V->Hp->VK->Prop}{f:List D->(EV->Prop)->Prop}(hs:pS r f){t:xn}{σ:St}{H:Hp}{Q:VK}(q:lX Y (eN f t) σ H Q):tCB r (lOs Y t) σ H Q:=by
 obtain⟨F,ai,Qd,R,q,K⟩:=q;refine⟨F,ai,_,R,q,λvs H1 F1 xs aw s1 R1 r1 q1=>?_⟩
 split at q1
 ·rename_i ds e
  exact hs Y F1 H1 aw σ vs ds _ Q R1 (R1.je r1 e) q1 λv H' F' r s R' rr qq=>K v H' F' r aw (s1.trans s) R' rr qq
 ·exact q1.elim
def yZ(G:GE)(k:Nat)(S:Stat)(f:Value)(g:List D->(EV->Prop)->Prop):Prop:=∃r:acT->List V->Hp->VK->Prop,(∀X Y,dA X G k S Y->cU X f (r X.K))/\pS (r KF.K) g
section
variable {x:Str}{p pos:Pos}{e:Expr}{es:List Expr}{t:xn}{id T:String}{g:List D->(EV->Prop)->Prop}
theorem dh(h:yZ G k S (.builtin id) g)(hm:G.mg x=none)(ha:HC G k S (e::es) t)(hv:bootBuiltins x=some (.builtin id))(hg:S.sc.lookup x=some .globalImplicit:=by rfl)(hn:x≠"__name__":=by decide)(jE:(x==("__debug__":Str))=false:=by decide)
  (he:∀env,acW (e::es) env=(false,eval e env)::acW es env:=by exactλ_=>Vc.cN rfl) (dJ:∀env,(backTo pos (acW es env)).any (·.1)=false:=by intro _;rfl):EX G k S (.Call (.Name x p) (e::es) [] pos) (eN g t):=.mk λX Y ok=>by
 obtain⟨r,hc,hs⟩:=h;exact aO (oG (hc X Y ok) (du ok hg) (by rw[ok.mg];exact hm) hv (ha X Y ok) hn jE (he _) (dJ _)) λσ H Q q=>qS (by rw[ok.kf];exact hs) q
theorem Gg(h:yZ G k S (.type T) g)(hm:G.mg x=none)(ha:HC G k S (e::es) t)(hv:bootBuiltins x=some (.type T))(hg:S.sc.lookup x=some .globalImplicit:=by rfl)(hn:x≠"__name__":=by decide)(jE:(x==("__debug__":Str))=false:=by decide)
  (he:∀env,acW (e::es) env=(false,eval e env)::acW es env:=by exactλ_=>Vc.cN rfl) (dJ:∀env,(backTo pos (acW es env)).any (·.1)=false:=by intro _;rfl):EX G k S (.Call (.Name x p) (e::es) [] pos) (eN g t):=.mk λX Y ok=>by
 obtain⟨r,hc,hs⟩:=h;exact aO (Bv (hc X Y ok) (du ok hg) (by rw[ok.mg];exact hm) hv (ha X Y ok) hn jE (he _) (dJ _)) λσ H Q q=>qS (by rw[ok.kf];exact hs) q
end
def gD:List D->(EV->Prop)->Prop
 | [.lst xs],Q=>Q (.val (.int xs.length))
 | [.tup xs],Q=>Q (.val (.int xs.length))
 | [.jn ns],Q=>Q (.val (.int ns.length))
 | [.str z],Q=>z.length<=acZ/\Q (.val (.int z.length))
 | _,_=>False
theorem f_len:yZ G k S (.builtin "len") gD:=⟨λK xs H Q=>(∃p ys,xs=[V.ref p]/\(gp K H p ys\/k8 K H p ys)/\Q (V.int ys.length) H)\/∃z,xs=[V.str z]/\z.length<=acZ/\Q (V.int z.length) H,λ_ _ _=>rC.or rD,λY F H ai σ vs ds Qd Q R r q g=>by
 unfold gD at q
 split at q
 ·obtain⟨v,rfl,rv⟩:=r.one
  obtain⟨p,us,rfl,h1,h2⟩:=rv.lst;exact .inl ⟨p,us,rfl,.inl (.inl h1),by rw[h2.length];exact g.val R (.int _) q⟩
 ·obtain⟨v,rfl,rv⟩:=r.one
  obtain⟨p,us,rfl,h1,h2⟩:=rv.tup R.fr;exact .inl ⟨p,us,rfl,.inr (.of h1),by rw[h2.length];exact g.val R (.int _) q⟩
 ·obtain⟨v,rfl,rv⟩:=r.one
  obtain⟨p,rfl,h1⟩:=rv.jn R.fr;exact .inl ⟨p,_,rfl,.inl h1,by rw[acO];exact g.val R (.int _) q⟩
 ·obtain⟨v,rfl,rv⟩:=r.one
  obtain rfl:=rv.str;exact .inr ⟨_,rfl,q.1,g.val R (.int _) q.2⟩
 ·exact q.elim⟩
def Ii:List D->(EV->Prop)->Prop
 | [.int i],Q=>Q (.val (.int (if i<0 then -i else i)))
 | _,_=>False
theorem Yh:yZ G k S (.builtin "abs") Ii:=⟨λ_=>_,λ_ _ _=>CO,λY F H ai σ vs ds Qd Q R r q g=>by
 unfold Ii at q
 split at q
 ·obtain⟨v,rfl,rv⟩:=r.one
  obtain rfl:=rv.int;exact⟨_,rfl,g.val R (.int _) q⟩
 ·exact q.elim⟩
def vV:List D->(EV->Prop)->Prop
 | [.int i,.int j],Q=>Q (.val (.int (if j>i then j else i)))
 | _,_=>False
def zX:List D->(EV->Prop)->Prop
 | [.int i,.int j],Q=>Q (.val (.int (if j<i then j else i)))
 | _,_=>False
theorem D7(hh:S.jh=false:=by rfl):yZ G k S (.builtin "max") vV:=⟨λ_=>_,λ_ _ ok=>AG (ok.calm hh),λY F H ai σ vs ds Qd Q R r q g=>by
 unfold vV at q
 split at q
 ·obtain⟨v,u,rfl,rv,ru⟩:=r.two
  obtain rfl:=rv.int;obtain rfl:=ru.int;exact⟨_,_,rfl,g.val R (.int _) q⟩
 ·exact q.elim⟩
theorem Pk(hh:S.jh=false:=by rfl):yZ G k S (.builtin "min") zX:=⟨λ_=>_,λ_ _ ok=>AI (ok.calm hh),λY F H ai σ vs ds Qd Q R r q g=>by
 unfold zX at q
 split at q
 ·obtain⟨v,u,rfl,rv,ru⟩:=r.two
  obtain rfl:=rv.int;obtain rfl:=ru.int;exact⟨_,_,rfl,g.val R (.int _) q⟩
 ·exact q.elim⟩
def Ff:List D->(EV->Prop)->Prop
 | [.int i],Q=>Q (.val (.int i))
 | [.bl b],Q=>Q (.val (.int (if b then 1 else 0)))
 | _,_=>False
theorem f_int:yZ G k S (.type "int") Ff:=⟨λ_=>_,λ_ _ ok=>AF,λY F H ai σ vs ds Qd Q R r q g=>by
 unfold Ff at q
 split at q
 ·obtain⟨v,rfl,rv⟩:=r.one
  obtain rfl:=rv.int;exact .inl ⟨_,rfl,g.val R (.int _) q⟩
 ·obtain⟨v,rfl,rv⟩:=r.one
  obtain rfl:=rv.bl;exact .inr ⟨_,rfl,g.val R (.int _) q⟩
 ·exact q.elim⟩
def og:List D->(EV->Prop)->Prop
 | [.lst xs],Q=>Q (.own xs)
 | [.tup xs],Q=>Q (.own xs)
 | _,_=>False
theorem f_list:yZ G k S (.type "list") og:=⟨λK xs H Q=>∃p ys,xs=[V.ref p]/\(gp K H p ys\/k8 K H p ys)/\∀l,H l=none->Q (.ref l) (upd H l (.lst ys)),λ_ _ ok=>rE,λY F H ai σ vs ds Qd Q R r q g=>by
 unfold og at q
 split at q
 ·obtain⟨v,rfl,rv⟩:=r.one
  obtain⟨p,us,rfl,h1,h2⟩:=rv.lst;exact⟨p,us,rfl,.inl (.inl h1),g.own R h2 q⟩
 ·obtain⟨v,rfl,rv⟩:=r.one
  obtain⟨p,us,rfl,h1,h2⟩:=rv.tup R.fr;exact⟨p,us,rfl,.inr (.of h1),g.own R h2 q⟩
 ·exact q.elim⟩
def pv:List D->(EV->Prop)->Prop
 | [.lst xs],Q=>Q (.val (.tup xs))
 | [.tup xs],Q=>Q (.val (.tup xs))
 | _,_=>False
theorem IG:yZ G k S (.type "tuple") pv:=⟨λK xs H Q=>∃p ys,xs=[V.ref p]/\((gp K H p ys/\∀l,H l=none->Q (.ref l) (upd H l (.tup ys)))\/(k8 K H p ys/\Q (.ref p) H)),λ_ _ ok=>pF,λY F H ai σ vs ds Qd Q R r q g=>by
 unfold pv at q
 split at q
 ·obtain⟨v,rfl,rv⟩:=r.one
  obtain⟨p,us,rfl,h1,h2⟩:=rv.lst;exact⟨p,us,rfl,.inl ⟨.inl h1,g.tup R h2 q⟩⟩
 ·obtain⟨v,rfl,rv⟩:=r.one
  have rv':=rv;obtain⟨p,us,rfl,h1,h2⟩:=rv.tup R.fr;exact⟨p,us,rfl,.inr ⟨.of h1,g.val R rv' q⟩⟩
 ·exact q.elim⟩
end Vc
namespace Vc
open PySem L2
variable [KF]
variable {G:GE}{k:Nat}{S:Stat}
structure iT where
 nx:Sd->Prop
 rt:B->Sd->Prop
 bk:Sd->Prop:=λ_=>False
 ct:Sd->Prop:=λ_=>False
abbrev b7:=iT->Sd->Prop
def abp(Y:bz)(F H:Hp)(ai:Sd)(σ:St)(v:V):B->Prop
 | .sh d=>Rep F v d
 | .own xs=>∃a vs,v=.ref a/\H a=some (.lst vs)/\aE F vs xs/\F a=none/\Y.H0 a=none/\dc ai σ a
 | .obj o=>∃a,v=.ref a/\o.rep F H a/\∀b∈o.fp a,F b=none/\H b≠none/\Y.H0 b=none/\dc ai σ b
structure za(Y:bz)(F:Hp)(De:iT)(Dn:Ends):Prop where
 nx:∀σ H F' ai,aq F F'->RS Y F' ai σ H->De.nx ai->Dn.nx σ H
 rt:∀v σ H F' ai b,aq F F'->RS Y F' ai σ H->abp Y F' H ai σ v b->De.rt b ai->Dn.rt v H
 bk:∀σ H F' ai,aq F F'->RS Y F' ai σ H->De.bk ai->Dn.bk σ H
 ct:∀σ H F' ai,aq F F'->RS Y F' ai σ H->De.ct ai->Dn.ct σ H
theorem za.mono{Y:bz}{F F':Hp}{De:iT}{Dn:Ends}(h:za Y F De Dn)(s:aq F F'):za Y F' De Dn:=
 ⟨λσ H F2 ai s2=>h.nx σ H F2 ai (s.trans s2),λv σ H F2 ai b s2=>h.rt v σ H F2 ai b (s.trans s2),λσ H F2 ai s2=>h.bk σ H F2 ai (s.trans s2),λσ H F2 ai s2=>h.ct σ H F2 ai (s.trans s2)⟩
def lS(Y:bz)(t:b7):TS:=λDn σ H=>∃F ai De,RS Y F ai σ H/\t De ai/\za Y F De Dn
structure ES(G:GE)(k:Nat)(S:Stat)(st:Stmt)(t:b7) :Prop where
 run:∀X Y,dA X G k S Y->PS X st (lS Y t)
instance {G:GE} {k:Nat} {S:Stat} {st:Stmt} {t:b7} :CoeFun (ES G k S st t) λ_=>∀X Y,dA X G k S Y->PS X st (lS Y t):=⟨ES.run⟩
structure dj(G:GE)(k:Nat)(S:Stat)(st:List Stmt)(t:b7) :Prop where
 run:∀X Y,dA X G k S Y->rh X st (lS Y t)
instance {G:GE} {k:Nat} {S:Stat} {st:List Stmt} {t:b7} :CoeFun (dj G k S st t) λ_=>∀X Y,dA X G k S Y->rh X st (lS Y t):=⟨dj.run⟩
section
variable {st:Stmt}{rest:List Stmt}{t u:b7}{pos:Pos}
def hZ:b7:=λDe σ=>De.nx σ
def bO(t u:b7):b7:=λDe σ=>t {De with nx:=u De} σ
theorem bP:dj G k S [] hZ:=.mk λX Y ok=>sN Ag λDn σ H q=>by
 obtain⟨F,ai,De,R,q,K⟩:=q;exact K.nx σ H F ai (aq.refl _) R q
theorem av(h1:ES G k S st t)(h2:dj G k S rest u):dj G k S (st::rest) (bO t u):=.mk λX Y ok=>sN (wx (h1 X Y ok) (h2 X Y ok)) λDn σ H q=>by
 obtain⟨F,ai,De,R,q,K⟩:=q;refine⟨F,ai,_,R,q,⟨λb8 H' F' aC s R' q'=>?_,K.rt,K.bk,K.ct⟩⟩;exact⟨F',aC,De,R',q',K.mono s⟩
theorem aG(h1:ES G k S st t):dj G k S [st] t:=.mk λX Y ok=>sO (h1 X Y ok)
def wO:b7:=λ_ _=>False
theorem iC:ES G k S st wO:=.mk λX Y ok=>cj F9 λDn σ H q=>by
 obtain⟨F,ai,De,R,q,K⟩:=q;exact q
def cA(c:TB)(t u:b7):b7:=λDe σ=>c σ λb aw=>if b=true then t De aw else u De aw
theorem cS{c:Expr}{a b:List Stmt}{tc:TB}(hc:EB G k S c tc)(ha:dj G k S a t)(hb:dj G k S b u):ES G k S (.If c a b pos) (cA tc t u):=.mk λX Y ok=>cj (Mq (hc X Y ok) (ha X Y ok) (hb X Y ok)) λDn σ H q=>by
 obtain⟨F,ai,De,R,q,K⟩:=q;refine⟨F,ai,_,R,q,λb H1 F1 aw s1 R1 q1=>?_⟩;cases b with
 | true=>exact⟨F1,aw,De,R1,q1,K.mono s1⟩
 | false=>exact⟨F1,aw,De,R1,q1,K.mono s1⟩
def nz(t:TX):b7:=λDe σ=>t σ λ_ aw=>De.nx aw
theorem ck{e:Expr}{te:TX}(he:EX G k S e te)(hs:∀line env,swapsWith e none line env=pure false:=by intro _ _;rfl):ES G k S (.Expr e pos) (nz te):=.mk λX Y ok=>cj (sL (he X Y ok) (hs _ _)) λDn σ H q=>by
 obtain⟨F,ai,De,R,q,K⟩:=q;exact⟨F,ai,_,R,q,λv H1 F1 x aw s1 R1 r1 q1=>K.nx σ H1 F1 aw s1 R1 q1⟩
def dH(ios:List Nat)(t:TX):b7:=λDe σ=>t σ λx aw=>match x with
 | .val d=>De.rt (.sh d) aw
 | .own xs=>De.rt (.own xs) aw
 | .obj o=>De.rt (.obj o) aw
 | .any=>False
 | .var i=>match aw[i]? with
  | some (some (.own xs))=>i∉ios/\De.rt (.own xs) (aw.set i none)
  | some (some (.sh d))=>De.rt (.sh d) aw
  | some (some (.obj o))=>ios=[]/\De.rt (.obj o) (aw.set i none)
  | _=>False
theorem RS.forget{Y:bz}{F:Hp}{ai:Sd}{σ:St}{H:Hp}{i:Nat}{b:B}(R:RS Y F ai σ H)(e:ai[i]?=some (some b))(cX:∀p∈Y.io,p.1≠i):RS Y F (ai.set i none) σ H where
 len:=by simpa using R.len
 lo:=R.lo
 fr:=R.fr
 e9:=R.e9
 old:=R.old
 sh:=λj d q=>by
  by_cases hj:j=i
  ·subst hj;rw[aZ e]at q;cases q
  ·rw[bq hj]at q;exact R.sh j d q
 own:=λj xs q=>by
  by_cases hj:j=i
  ·subst hj;rw[aZ e]at q;cases q
  ·rw[bq hj]at q;exact R.own j xs q
 dis:=λj l xs ys a q1 q2 q3 q4=>by
  have hj:j≠i:=λz=>by subst z;rw[aZ e]at q1;cases q1
  have hl:l≠i:=λz=>by subst z;rw[aZ e]at q2;cases q2
  rw[bq hj]at q1;rw[bq hl]at q2;exact R.dis j l xs ys a q1 q2 q3 q4
 io:=λp hp=>by
  obtain⟨w1,ys,w2⟩:=R.io p hp;exact⟨w1,ys,by rw[bq (cX p hp)];exact w2⟩
 ob:=R.ob.put (λ_ _=>rfl) (λ_ z=>nomatch z) λ_ _ z=>nomatch z
theorem RS.Rq{Y:bz}{F:Hp}{ai:Sd}{σ:St}{H:Hp}{i:Nat}{xs:List D}(R:RS Y F ai σ H)(h:ai[i]?=some (some (.own xs)))(cX:∀p∈Y.io,p.1≠i){a:Addr}(q1:σ[i]?=some (some (.ref a))):Y.H0 a=none/\a∉Y.Wn:=by
 obtain⟨b,vs,w1,w2,w3,w4,w5⟩:=R.own i xs h;rw[q1]at w1;cases w1;have nin:a∉Y.Wn:=λq5=>by
  obtain⟨p,hp,e⟩:=adk.mp q5;obtain⟨z1,ys,z2⟩:=R.io p hp;exact absurd (R.dis p.1 i ys xs a z2 h (by rw[z1,e]) q1) (cX p hp)
 rcases w5 with w5|w5
 ·exact⟨w5,nin⟩
 ·exact absurd w5 nin
theorem aX{e:Expr}{te:TX}(he:EX G k S e te)(abK:S.CI=false:=by rfl):ES G k S (.Return (some e) pos) (dH S.ios te):=.mk λX Y ok=>cj (yv (he X Y ok)) λDn σ H q=>by
 obtain⟨F,ai,De,R,q,K⟩:=q;refine⟨F,ai,_,R,q,λv H1 F1 x aw s1 R1 r1 q1=>?_⟩;cases x with
 | val d=>exact K.rt v σ H1 F1 aw (.sh d) s1 R1 r1 q1
 | own xs=>exact K.rt v σ H1 F1 aw (.own xs) s1 R1 r1 q1
 | obj o=>exact K.rt v σ H1 F1 aw (.obj o) s1 R1 r1 q1
 | any=>exact aez q1
 | var i =>
  have r1:σ[i]?=some (some v):=r1;dsimp only at q1
  split at q1
  ·rename_i xs e
   obtain⟨a,vs,w1,w2,w3,w4,w5⟩:=R1.own i xs e;rw[r1]at w1;cases w1;have cX:∀p∈Y.io,p.1≠i:=λp hp z=>q1.1 (z ▸ ok.ios p hp);refine K.rt _ σ H1 F1 _ (.own xs) s1 (R1.forget e cX) ⟨a,vs,rfl,w2,w3,w4,(R1.Rq e cX r1).1,⟨λj ys e2 z=>?_,λ⟨j,o,c,e2,e3,hm⟩=>?_⟩⟩ q1.2
   ·by_cases hj:j=i
    ·subst hj;rw[aZ e]at e2;cases e2
    ·rw[bq hj]at e2
     exact hj (R1.dis j i ys xs a e2 e z r1)
   ·have hj:j≠i:=λz=>by subst z;rw[aZ e]at e2;cases e2
    rw[bq hj]at e2;exact R1.ob.gA i xs a e r1 ⟨j,o,c,e2,e3,hm⟩
  ·rename_i d e
   obtain⟨v2,e2,r2⟩:=R1.sh i d e;rw[r1]at e2;cases e2;exact K.rt v σ H1 F1 aw (.sh d) s1 R1 r2 q1
  ·rename_i o e
   obtain⟨a,w1,w2,w3⟩:=R1.ob.obj i o e;rw[r1]at w1;cases w1;have xZ:=ok.obs abK q1.1;have cX:∀p∈Y.io,p.1≠i:=λp hp z=>by
    have:=ok.ios p hp;rw[q1.1]at this;cases this
   refine K.rt _ σ H1 F1 _ (.obj o) s1 (R1.forget e cX) ⟨a,rfl,w2,λb hb=>⟨(w3 b hb).1,(w3 b hb).2.1,?_,⟨λj ys e2 z=>?_,λ⟨j,o2,c,e2,e3,hm⟩=>?_⟩⟩⟩ q1.2
   ·rcases(w3 b hb).2.2 with z|z
    ·exact z
    ·rw[xZ]at z;cases z
   ·have hj:j≠i:=λz=>by subst z;rw[aZ e]at e2;cases e2
    rw[bq hj]at e2;exact R1.ob.gA j ys b e2 z ⟨i,o,a,e,r1,hb⟩
   ·have hj:j≠i:=λz=>by subst z;rw[aZ e]at e2;cases e2
    rw[bq hj]at e2;exact R1.ob.pB j i o2 o c a e2 e e3 r1 hj b hm hb
  ·exact q1.elim
end
theorem gs{α:Type}{l:List α}{i j:Nat}{x y:α}(h:(l.set i x)[j]?=some y):(j=i/\y=x)\/(j≠i/\l[j]?=some y):=by
 by_cases hj:j=i
 ·subst hj
  by_cases hl:j<l.length
  ·rw[adP hl]at h;exact .inl ⟨rfl,(adp h).symm⟩
  ·have:(l.set j x)[j]?=none:=by rw[List.getElem?_eq_none_iff];simp;omega
   rw[this]at h;cases h
 ·rw[aed (aec hj)]at h;exact .inr ⟨hj,h⟩
theorem bQ{α:Type}{l:List α}{i j:Nat}{x:α}(h:j≠i):(l.set i x)[j]?=l[j]?:=aed (aec h)
theorem mE{α:Type}{l:List α}{i:Nat}{x:α}(h:i<l.length):(l.set i x)[i]?=some x:=adP h
theorem Eo{α:Type}{l:List α}{i j:Nat}{x y:α}(h:(l.set i x)[j]?=some y):j<l.length:=by
 have:=(acR.mp h).1;simpa using this
theorem RS.An{Y:bz}{F:Hp}{ai:Sd}{σ:St}{H:Hp}{i:Nat}{d:D}{v:V}(R:RS Y F ai σ H)(r:Rep F v d)(cX:∀p∈Y.io,p.1≠i):RS Y F (ai.set i (some (.sh d))) (σ.set i (some v)) H where
 len:=by simpa using R.len
 lo:=R.lo
 fr:=R.fr
 e9:=R.e9
 old:=R.old
 sh:=λj e q=>by
  rcases gs q with⟨rfl,z⟩|⟨hj,q'⟩
  ·cases z
   exact⟨v,mE (by rw[<- R.len];exact Eo q),r⟩
  ·obtain⟨u,w1,w2⟩:=R.sh j e q'
   exact⟨u,by rw[bQ hj];exact w1,w2⟩
 own:=λj xs q=>by
  rcases gs q with⟨_,z⟩|⟨hj,q'⟩
  ·cases z
  ·obtain⟨a,vs,w1,w2⟩:=R.own j xs q'
   exact⟨a,vs,by rw[bQ hj];exact w1,w2⟩
 dis:=λj l xs ys a q1 q2 q3 q4=>by
  rcases gs q1 with⟨_,z⟩|⟨hj,q1⟩
  ·cases z
  rcases gs q2 with⟨_,z⟩|⟨hl,q2⟩
  ·cases z
  rw[bQ hj]at q3;rw[bQ hl]at q4;exact R.dis j l xs ys a q1 q2 q3 q4
 io:=λp hp=>by
  obtain⟨w1,ys,w2⟩:=R.io p hp;exact⟨by rw[bQ (cX p hp)];exact w1,ys,by rw[bQ (cX p hp)];exact w2⟩
 ob:=R.ob.put (λ_ hj=>bQ hj) (λ_ z=>nomatch z) λ_ _ z=>nomatch z
theorem RS.GC{Y:bz}{F:Hp}{ai:Sd}{σ:St}{H:Hp}{i:Nat}{xs:List D}{a:Addr}{vs:List V}(R:RS Y F ai σ H)(h1:H a=some (.lst vs))(h2:aE F vs xs)(h3:F a=none)(h4:Y.H0 a=none)(h5:dc ai σ a)
  (cX:∀p∈Y.io,p.1≠i):RS Y F (ai.set i (some (.own xs))) (σ.set i (some (.ref a))) H where
 len:=by simpa using R.len
 lo:=R.lo
 fr:=R.fr
 e9:=R.e9
 old:=R.old
 sh:=λj e q=>by
  rcases gs q with⟨_,z⟩|⟨hj,q'⟩
  ·cases z
  ·obtain⟨u,w1,w2⟩:=R.sh j e q'
   exact⟨u,by rw[bQ hj];exact w1,w2⟩
 own:=λj ys q=>by
  rcases gs q with⟨rfl,z⟩|⟨hj,q'⟩
  ·cases z
   exact⟨a,vs,mE (by rw[<- R.len];exact Eo q),h1,h2,h3,.inl h4⟩
  ·obtain⟨b,us,w1,w2⟩:=R.own j ys q'
   exact⟨b,us,by rw[bQ hj];exact w1,w2⟩
 dis:=λj l ys zs b q1 q2 q3 q4=>by
  rcases gs q1 with⟨rfl,z⟩|⟨hj,q1⟩
  ·rcases gs q2 with⟨e,z⟩|⟨hl,q2⟩
   ·exact e.symm
   ·rw[bQ hl]at q4
    rcases gs q3 with⟨_,z3⟩|⟨hc,_⟩
    ·cases z3
     exact absurd q4 (h5 l zs q2)
    ·exact absurd rfl hc
  ·rw[bQ hj]at q3
   rcases gs q2 with⟨e2,z⟩|⟨hl,q2⟩
   ·rcases gs q4 with⟨_,z4⟩|⟨hc,_⟩
    ·cases z4
     exact absurd q3 (h5 j ys (by assumption))
    ·exact absurd e2 hc
   ·rw[bQ hl]at q4
    exact R.dis j l ys zs b (by assumption) q2 q3 q4
 io:=λp hp=>by
  obtain⟨w1,ys,w2⟩:=R.io p hp;exact⟨by rw[bQ (cX p hp)];exact w1,ys,by rw[bQ (cX p hp)];exact w2⟩
 ob:=R.ob.put (λ_ hj=>bQ hj) (λ_ z=>nomatch z) λys b _ z=>by
  rcases gs z with⟨_,z2⟩|⟨hc,_⟩
  ·cases z2;exact h5.Rt
  ·exact absurd rfl hc
theorem RS.U0{Y:bz}{F:Hp}{ai:Sd}{σ:St}{H:Hp}{i:Nat}{o:O}{a:Addr}(R:RS Y F ai σ H)(h1:o.rep F H a)(h2:∀b∈o.fp a,F b=none/\H b≠none/\Y.H0 b=none/\dc ai σ b)
  (cX:∀p∈Y.io,p.1≠i):RS Y F (ai.set i (some (.obj o))) (σ.set i (some (.ref a))) H where
 len:=by simpa using R.len
 lo:=R.lo
 fr:=R.fr
 e9:=R.e9
 old:=R.old
 sh:=λj e q=>by
  rcases gs q with⟨_,z⟩|⟨hj,q'⟩
  ·cases z
  ·obtain⟨u,w1,w2⟩:=R.sh j e q'
   exact⟨u,by rw[bQ hj];exact w1,w2⟩
 own:=λj ys q=>by
  rcases gs q with⟨_,z⟩|⟨hj,q'⟩
  ·cases z
  ·obtain⟨b,us,w1,w2⟩:=R.own j ys q'
   exact⟨b,us,by rw[bQ hj];exact w1,w2⟩
 dis:=λj l ys zs b q1 q2 q3 q4=>by
  rcases gs q1 with⟨_,z⟩|⟨hj,q1⟩
  ·cases z
  rcases gs q2 with⟨_,z⟩|⟨hl,q2⟩
  ·cases z
  rw[bQ hj]at q3;rw[bQ hl]at q4;exact R.dis j l ys zs b q1 q2 q3 q4
 io:=λp hp=>by
  obtain⟨w1,ys,w2⟩:=R.io p hp;exact⟨by rw[bQ (cX p hp)];exact w1,ys,by rw[bQ (cX p hp)];exact w2⟩
 ob:=by
  have at':∀ {j:Nat} {c:Addr},j=i->(σ.set i (some (.ref a)))[j]?=some (some (.ref c))->c=a:=λ{j c} e z=>by
   subst e;rcases gs z with⟨_,z2⟩|⟨hc,_⟩
   ·cases z2;rfl
   ·exact absurd rfl hc
  refine⟨λj p q=>?_,λj l p p2 c d q1 q2 q3 q4 cz x hx zL=>?_,λj ys b q1 q2 ⟨l,p,c,q3,q4,hm⟩=>?_,R.ob.there,R.ob.MB,R.ob.tab⟩
  ·rcases gs q with⟨rfl,z⟩|⟨hj,q'⟩
   ·cases z
    exact⟨a,mE (by rw[<- R.len];exact Eo q),h1,λb hb=>⟨(h2 b hb).1,(h2 b hb).2.1,.inl (h2 b hb).2.2.1⟩⟩
   ·obtain⟨c,w1,w2⟩:=R.ob.obj j p q'
    exact⟨c,by rw[bQ hj];exact w1,w2⟩
  ·rcases gs q1 with⟨e1,z⟩|⟨hj,q1'⟩
   ·cases z
    rcases gs q2 with⟨e2,z⟩|⟨hl,q2'⟩
    ·exact cz (e1.trans e2.symm)
    ·rw[bQ hl]at q4
     have:=at' e1 q3;subst this;exact(h2 x hx).2.2.2.Rt ⟨l,p2,d,q2',q4,zL⟩
   ·rw[bQ hj]at q3
    rcases gs q2 with⟨e2,z⟩|⟨hl,q2'⟩
    ·cases z
     have:=at' e2 q4;subst this;exact(h2 x zL).2.2.2.Rt ⟨j,p,c,q1',q3,hx⟩
    ·rw[bQ hl]at q4
     exact R.ob.pB j l p p2 c d q1' q2' q3 q4 cz x hx zL
  ·rcases gs q1 with⟨_,z⟩|⟨hj,q1'⟩
   ·cases z
   rw[bQ hj]at q2;rcases gs q3 with⟨e3,z⟩|⟨hl,q3'⟩
   ·cases z
    have:=at' e3 q4;subst this;exact(h2 b hm).2.2.2 j ys q1' q2
   ·rw[bQ hl]at q4
    exact R.ob.gA j ys b q1' q2 ⟨l,p,c,q3',q4,hm⟩
def stD(ios:List Nat)(i:Nat)(x:EV)(σ:Sd)(Q:Sd->Prop):Prop:=match x with
 | .val d=>Q (σ.set i (some (.sh d)))
 | .own xs=>Q (σ.set i (some (.own xs)))
 | .obj o=>Q (σ.set i (some (.obj o)))
 | .any=>False
 | .var j=>match σ[j]? with
  | some (some (.own xs))=>j∉ios/\Q ((σ.set j (some (.sh (.lst xs)))).set i (some (.sh (.lst xs))))
  | some (some (.sh d))=>Q (σ.set i (some (.sh d)))
  | _=>False
theorem lZ{Y:bz}{F:Hp}{ai:Sd}{σ:St}{H:Hp}{i:Nat}{v:V}{x:EV}{ios:List Nat}{Q:Sd->Prop}(R:RS Y F ai σ H)(r:Ih Y F H ai σ v x)(hi:i∉ios)(cX:∀p∈Y.io,p.1∈ios)(q:stD ios i x ai Q):
  ∃F' aC,aq F F'/\RS Y F' aC (σ.set i (some v)) H/\Q aC:=by
 have h0:∀p∈Y.io,p.1≠i:=λp hp z=>hi (z ▸ cX p hp);cases x with
 | val d=>exact⟨F,_,aq.refl _,R.An r h0,q⟩
 | own xs =>
  obtain⟨a,vs,rfl,h1,h2,h3,h4,h5⟩:=r;exact⟨F,_,aq.refl _,R.GC h1 h2 h3 h4 h5 h0,q⟩
 | obj o =>
  obtain⟨a,rfl,h1,h2⟩:=r;exact⟨F,_,aq.refl _,R.U0 h1 h2 h0,q⟩
 | any=>exact aez q
 | var j =>
  have r:σ[j]?=some (some v):=r;unfold stD at q;dsimp only at q
  split at q
  ·rename_i xs e
   obtain⟨F2,v2,s2,R2,e2,r2⟩:=R.lu e λp hp z=>q.1 (z ▸ cX p hp);rw[r]at e2;cases e2;exact⟨F2,_,s2,R2.An r2 h0,q.2⟩
  ·rename_i d e
   obtain⟨v2,e2,r2⟩:=R.sh j d e;rw[r]at e2;cases e2;exact⟨F,_,aq.refl _,R.An r2 h0,q⟩
  ·exact q.elim
def eh(ios:List Nat)(i:Nat)(t:TX):b7:=λDe σ=>t σ λx aw=>stD ios i x aw De.nx
theorem oh{X:Cx}{Y:bz}(ok:dA X G k S Y){x:Str}(h:S.sc.lookup x=some .local\/(S.sc.lookup x=some .cell/\S.CI=false)):L2.Loc X.env.scope x:=by
 unfold L2.Loc;rw[ok.sc];exact h.imp id (·.1)
theorem nR{X:Cx}{Y:bz}(ok:dA X G k S Y){x:Str}(h:S.sc.lookup x=some .local\/(S.sc.lookup x=some .cell/\S.CI=false)):X.fn x=true\/X.env.scope.names.lookup x=some .local:=by
 rcases h with h|h
 ·right;rw[ok.sc];exact h
 ·left;exact ok.fn h.2 x h.1
theorem bS(i:Nat){x:Str}{e:Expr}{te:TX}{pos pos':Pos}(he:EX G k S e te)(hi:S.N[i]?=some x:=by rfl)(hx:S.sc.lookup x=some .local\/(S.sc.lookup x=some .cell/\S.CI=false):=by first|exact Or.inl rfl|exact Or.inr ⟨rfl,rfl⟩)(hn:i∉S.ios:=by first|decide|exact ac8 | (dsimp only;decide))
  (hs:∀line env,swapsWith e (some (.Name x pos')) line env=pure false:=by intro _ _;rfl):ES G k S (.Assign [.Name x pos'] e pos) (eh S.ios i te):=.mk λX Y ok =>
 cj (L2.yw (i:=i) (by rw[ok.N];exact ok.nd) (by rw[ok.N];exact hi) (oh ok hx) (he X Y ok) (hs _ _) (nR ok hx)) λDn σ H q=>by
  obtain⟨F,ai,De,R,q,K⟩:=q;refine⟨F,ai,_,R,q,λv H1 F1 y aw s1 R1 r1 q1=>?_⟩;obtain⟨F2,aM,s2,R2,q2⟩:=lZ R1 r1 hn ok.ios q1;exact K.nx _ H1 F2 aM (s1.trans s2) R2 q2
theorem RS.write{Y:bz}{F:Hp}{ai:Sd}{σ:St}{H:Hp}{i:Nat}{xs ys:List D}{a:Addr}{us:List V}(R:RS Y F ai σ H)(e:ai[i]?=some (some (.own xs)))(h:σ[i]?=some (some (.ref a)))(r:aE F us ys):
  RS Y F (ai.set i (some (.own ys))) σ (upd H a (.lst us)):=by
 obtain⟨b,vs,w1,w2,w3,w4,w5⟩:=R.own i xs e;rw[h]at w1;cases w1;have hl:i<ai.length:=(acR.mp e).1;have xZ:xm Y F (ai.set i (some (.own ys))) σ (upd H a (.lst us)):=R.ob.step (aq.refl _) (λj o q=>by
  rcases gs q with⟨_,z⟩|⟨hj,q⟩
  ·cases z
  ·exact⟨q,rfl⟩) (λb hb=>by
  obtain⟨z1,z2,z3⟩:=R.ob.owned hb;have cz:b≠a:=λz=>R.ob.gA i xs a e h (z ▸ hb);exact⟨au cz,z1,z3⟩) (λj zs b q1 q2=>by
  rcases gs q1 with⟨e1,_⟩|⟨hj,q1⟩
  ·subst e1
   rw[h]at q2;cases q2;exact R.ob.gA j xs a e h
  ·exact R.ob.gA j zs b q1 q2) λb hb=>by
  by_cases cz:b=a
  ·rw[cz,ay];exactλz=>nomatch z
  ·rw[au cz];exact R.ob.there b hb
 refine⟨by simpa using R.len,R.lo,λb o q=>?_,R.e9,λb o q n=>?_,λj d q=>?_,λj zs q=>?_,λj l zs qs b q1 q2 q3 q4=>?_,λp hp=>?_,xZ⟩
 ·have:b≠a:=λz=>by rw[z,w4]at q;cases q
  rw[au this];exact R.fr b o q
 ·have:b≠a:=λz=>by
   subst z;rcases w5 with w5|w5
   ·rw[w5]at q;cases q
   ·exact bz.zN n w5
  rw[au this];exact R.old b o q n
 ·rcases gs q with⟨_,z⟩|⟨hj,q⟩
  ·cases z
  ·exact R.sh j d q
 ·rcases gs q with⟨rfl,z⟩|⟨hj,q⟩
  ·cases z
   exact⟨a,us,h,ay,r,w4,w5⟩
  ·obtain⟨b,ws,z1,z2,z3,z4,z5⟩:=R.own j zs q
   have:b≠a:=λz=>hj (R.dis j i zs xs a q e (z ▸ z1) h);exact⟨b,ws,z1,by rw[au this];exact z2,z3,z4,z5⟩
 ·have f:∀ {m:Nat} {ms:List D},(ai.set i (some (B.own ys)))[m]?=some (some (B.own ms))->∃HR,ai[m]?=some (some (B.own HR)):=λ{m ms} q=>by
   rcases gs q with⟨rfl,z⟩|⟨hj,q⟩
   ·exact⟨xs,e⟩
   ·exact⟨_,q⟩
  obtain⟨_,q1⟩:=f q1;obtain⟨_,q2⟩:=f q2;exact R.dis j l _ _ b q1 q2 q3 q4
 ·obtain⟨z1,zs,z2⟩:=R.io p hp
  refine⟨z1,?_⟩
  by_cases Fb:p.1=i
  ·exact⟨ys,by rw[Fb,mE hl]⟩
  ·exact⟨zs,by rw[bQ Fb];exact z2⟩
def vN(σ:Sd)(i:Nat):Prop:=∃xs,σ[i]?=some (some (B.own xs))
def Nx(i:Nat)(d:D)(σ:Sd)(Q:Sd->Prop):Prop:=match σ[i]? with
 | some (some (.own xs))=>xs.length<acZ/\Q (σ.set i (some (.own (xs++[d]))))
 | _=>False
def GH(to:TV)(te:TD):TX:=λσ Q=>to σ λx aw=>match x with
 | .var i=>vN aw i/\te aw λd aM=>Nx i d aM λfq=>Q (.val .aQ) fq
 | _=>False
theorem wz{o e:Expr}{to:TV}{te:TD}{apos cn:Pos}(ho:EO G k S o to)(he:ED G k S e te)(hb:∀env,aev o "append" env (eval o env)=eval o env:=by intro _;rfl)
  (sf:∀env,((backTo cn (acW [e] env)).all (λx=>!x.1)&&(backToKw cn (aeB [] env)).all (λx=>x.1.isSome)&&decide (([e]:List Expr).length+([]:List Keyword).length+(if([]:List Keyword).isEmpty then 0 else 1)<30))=true:=by intro _;rfl)
  (hline:(apos.endLine==cn.line)=true:=by rfl) (hs:∀env,acW [e] env=[(false,eval e env)]:=by intro _;rfl):EX G k S (.Call (.Attribute o "append" apos) [e] [] cn) (GH to te):=.mk λX Y ok=>by
 have ha:PA X [e] (d3 (lD Y te) kU):=b5 (he X Y ok) dW (by rw[hs];rfl)
 refine aO (z0 F.plainAttrs_list F.slot_list_append F.type_list_append lN (ho X Y ok) ha (hb _) (sf _) hline (by rw[hs];rfl) (by rfl)) λσ H Q q=>?_
 obtain⟨F,ai,Qd,R,q,K⟩:=q;refine⟨F,ai,_,R,q,λv1 H1 F1 x aw s1 R1 r1 q1=>?_⟩;cases x with
 | val d=>exact q1.elim
 | any=>exact q1.elim
 | var i =>
  obtain⟨⟨ys,e0⟩,q1⟩:=q1;have r1:σ[i]?=some (some v1):=r1;obtain⟨a,vs,w1,w2,w3,w4,w5⟩:=R1.own i ys e0;rw[r1]at w1;cases w1;refine⟨.inl ⟨rfl,vs,.of w2⟩,F1,aw,_,R1,q1,λv2 H2 F2 d aM s2 R2 r2 q2=>?_⟩;unfold Nx at q2
  split at q2
  ·rename_i xs e2
   obtain⟨b,us,z1,z2,z3,z4,z5⟩:=R2.own i xs e2;rw[r1]at z1;cases z1;exact⟨a,us,v2,rfl,rfl,z2,by rw[z3.length];exact q2.1,K .aQ _ F2 (.val .aQ) _ (s1.trans s2) (R2.write e2 r1 (z3.append (.cons r2 .nil))) .aQ q2.2⟩
  ·exact q2.elim
end Vc
namespace Vc
open PySem L2
variable [KF]
variable {G:GE}{k:Nat}{S:Stat}
abbrev bw:=List D->(B->Prop)->Prop
def Cz(H F H':Hp)(v:V):B->Prop
 | .sh d=>Rep F v d
 | .own xs=>∃a vs,v=.ref a/\H' a=some (.lst vs)/\aE F vs xs/\F a=none/\H a=none
 | .obj o=>∃a,v=.ref a/\o.rep F H' a/\∀b∈o.fp a,F b=none/\H' b≠none/\H b=none
def yF(sp:bw):Sp:=λvs H Q _=>∃F ds Qd,mw F H/\aE F vs ds/\sp ds Qd /\
 ∀v H' F' b,aq F F'->aq F' H'->aq H H'->(∀c o,F' c=some o->F c=some o\/Nw H c o)->Cz H F' H' v b->Qd b->Q v H'
theorem RS.call{Y:bz}{F F':Hp}{ai:Sd}{σ:St}{H H':Hp}(R:RS Y F ai σ H)(s1:aq F F')(s2:aq F' H')(s3:aq H H')(fr:∀c o,F' c=some o->F c=some o\/Nw H c o):RS Y F' ai σ H' where
 len:=R.len
 lo:=R.lo.trans s1
 fr:=s2
 e9:=λb o e=>by
  rcases fr b o e with h|h
  ·exact R.e9 b o h
  ·exact .inr (h.imp (λh=>(R.b6 h).1) id)
 old:=λb o e n=>s3 b o (R.old b o e n)
 sh:=λi d e=>by
  obtain⟨v,h1,h2⟩:=R.sh i d e;exact⟨v,h1,h2.mono s1⟩
 own:=λi xs e=>by
  obtain⟨a,vs,h1,h2,h3,h4,h5⟩:=R.own i xs e;refine⟨a,vs,h1,s3 a _ h2,h3.mono s1,?_,h5⟩;cases q:F' a with
  | none=>rfl
  | some o =>
   rcases fr a o q with h|h
   ·rw[h4]at h;cases h
   ·rcases h with h|⟨ws,rfl⟩
    ·rw[h2]at h;cases h
    ·have z:=s2 a _ q;rw[s3 a _ h2]at z;cases z
 dis:=R.dis
 io:=R.io
 ob:=by
  have up:∀b,H b≠none->H' b=H b:=λb hb=>by
   cases q:H b with
   | none=>exact absurd q hb
   | some o=>exact s3 b o q
  refine R.ob.step s1 (λ_ _ e=>⟨e,rfl⟩) (λb hb=>?_) R.ob.gA λb hb=>by rw[up b (R.ob.there b hb)];exact R.ob.there b hb
  obtain⟨w1,w2,w3⟩:=R.ob.owned hb;refine⟨up b w2,?_,w3⟩;cases q:F' b with
  | none=>rfl
  | some o =>
   rcases fr b o q with h|h
   ·rw[w1]at h;cases h
   ·rcases h with h|⟨ws,rfl⟩
    ·exact absurd h w2
    ·exact absurd (by rw[<- up b w2];exact s2 b _ q) (R.ob.Mm hb)
def c9(G:GE)(k:Nat)(x:Str)(sp:bw):Prop:=∃f fd ps,cf G.P G.w G.K G.mg G.base ig k f fd ps (yF sp)/\G.mg x=some (.ref f)/\PySem.W.keepIn G.K (.ref f)=true/\Binds G.K fd ps []
theorem c9.mono{x:Str}{sp:bw}{j:Nat}(h:c9 G j x sp)(l:j<=k):c9 G k x sp:=by
 obtain⟨f,fd,ps,h1,h2,h3,h4⟩:=h;exact⟨f,fd,ps,h1.mono l,h2,h3,h4⟩
def bE:B->EV
 | .sh d=>.val d
 | .own xs=>.own xs
 | .obj o=>.obj o
def Cl(sp:bw)(ds:List D)(Q:B->Prop):Prop:=sp ds Q
def jo(sp:bw)(t:fu):TX:=λσ Q=>t σ λds aw=>Cl sp ds λb=>Q (bE b) aw
theorem bG{x:Str}{sp:bw}{e:Expr}{es:List Expr}{t:fu}{p pos:Pos}(h:c9 G k x sp)(ha:xu G k S (e::es) t)(hg:S.sc.lookup x=some .globalImplicit:=by rfl)(jE:(x==("__debug__":Str))=false:=by decide)
  (he:∀env,acW (e::es) env=(false,eval e env)::acW es env:=by exactλ_=>Vc.cN rfl) (dJ:∀env,(backTo pos (acW es env)).any (·.1)=false:=by intro _;rfl) (hh:S.jh=false:=by rfl):EX G k S (.Call (.Name x p) (e::es) [] pos) (jo sp t):=.mk λX Y ok=>by
 obtain⟨f,fd,ps,h1,h2,h3,h4⟩:=h;have rY:cf X.prog X.w X.K X.mg X.base ig k f fd ps (yF sp):=by rw[ok.P,ok.w,ok.K,ok.mg,ok.base];exact h1
 refine aO (jP (E:=E0) (dvs:=[]) (ds:=[]) rY (ok.room hh) (du ok hg) (by rw[ok.mg];exact h2) (by rw[ok.K];exact h3) (by rw[ok.K];exact h4) .nil i7 (ha X Y ok) jE (he _) (dJ _)) λσ H Q q=>?_
 obtain⟨F,ai,Qd,R,q,K⟩:=q;refine⟨F,ai,_,R,q,λvs H1 F1 ds aw s1 R1 r1 q1=>?_⟩;show yF sp (vs++[]) H1 Q E0;rw[adH];refine⟨F1,ds,_,⟨R1.fr,R1.ob.tab⟩,r1,q1,λv H' F' b s2 s3 s4 fr r2 q2=>?_⟩;have R2:=R1.call s2 s3 s4 fr;cases b with
 | sh d=>exact K v H' F' (.val d) aw (s1.trans s2) R2 r2 q2
 | own xs =>
  obtain⟨a,us,rfl,w1,w2,w3,w4⟩:=r2;refine K _ H' F' (.own xs) aw (s1.trans s2) R2 ⟨a,us,rfl,w1,w2,w3,(R1.b6 w4).1,R1.df w4⟩ q2
 | obj o =>
  obtain⟨a,rfl,w1,w2⟩:=r2;exact K _ H' F' (.obj o) aw (s1.trans s2) R2 ⟨a,rfl,w1,λb hb=>⟨(w2 b hb).1,(w2 b hb).2.1,(R1.b6 (w2 b hb).2.2).1,R1.df (w2 b hb).2.2⟩⟩ q2
def aR(n:Nat)(ds:List D):Sd:=ds.map (λd=>some (.sh d))++adl (n-ds.length) none
theorem o9{F:Hp}:∀ {vs:List V} {ds:List D} (m:Nat) {i:Nat} {d:D},aE F vs ds->(ds.map (λd=>some (B.sh d))++adl m none)[i]?=some (some (.sh d))->∃v,(vs.map some++adl m none)[i]?=some (some v)/\Rep F v d
 | [],[],m,i,d,.nil,e=>by
  simp only[List.map_nil,List.nil_append,List.getElem?_replicate]at e
  split at e<;>cases e
 | v::vs,x::ds,m,0,d,.cons r t,e=>by
  simp at e;subst e;exact⟨v,by simp,r⟩
 | v::vs,x::ds,m,i+1,d,.cons r t,e=>by
  obtain⟨u,h1,h2⟩:=o9 (i:=i) m t (by simpa using e)
  exact⟨u,by simpa using h1,h2⟩
theorem fM:∀(ds:List D) (m i:Nat) (xs:List D),(ds.map (λd=>some (B.sh d))++adl m none)[i]?≠some (some (.own xs))
 | [],m,i,xs=>by
  simp only[List.map_nil,List.nil_append,List.getElem?_replicate];intro e
  split at e<;>cases e
 | x::ds,m,0,xs=>by simp
 | x::ds,m,i+1,xs=>by
  have:=fM ds m i xs;simpa using this
theorem l0:∀(ds:List D) (m i:Nat) (o:O),(ds.map (λd=>some (B.sh d))++adl m none)[i]?≠some (some (.obj o))
 | [],m,i,o=>by
  simp only[List.map_nil,List.nil_append,List.getElem?_replicate];intro e
  split at e<;>cases e
 | x::ds,m,0,o=>by simp
 | x::ds,m,i+1,o=>by
  have:=l0 ds m i o;simpa using this
theorem RS.start{F H:Hp}{vs:List V}{ds:List D}(n:Nat)(s:mw F H)(r:aE F vs ds):RS ⟨H,F,[],[]⟩ F (aR n ds) (vs.map some++adl (n-vs.length) none) H where
 len:=by unfold aR;simp [r.length]
 lo:=aq.refl _
 fr:=s.1
 e9:=λb o e=>.inl e
 old:=λb o e _=>e
 sh:=λi d e=>by
  rw[r.length];exact o9 _ r e
 own:=λi xs e=>absurd e (fM _ _ _ _)
 dis:=λi j xs ys a e=>absurd e (fM _ _ _ _)
 io:=λp hp=>absurd hp (by simp)
 ob:=.none (λi o=>l0 _ _ _ _) s.2 λb hb=>by cases hb
theorem Eh{x qual:Str}{st:Stmt}{f:Addr}{fd:adf}{N ps:List Str}{sp:bw}{t:b7}(hK:G.K=KF.K)(Fn:BL G.K x qual st f fd)(Sc:aB N ps (ag st))(ht:dj G k ⟨N,(ag st).names,[],false,false,false,λ_ _=>False⟩ (ak st) t)
  (len:∀ds Q,sp ds Q->ds.length=ps.length)
  (body:∀ds Q,sp ds Q->t {nx:=λ_=>Q (.sh .aQ),rt:=λb _=>Q b} (aR N.length ds)):cf G.P G.w G.K G.mg G.base ig (k+1) f fd ps (yF sp):=by
 refine Fn.ok Sc (λvs H Q E h=>?_) (λiu A outer s H vs Q E hr h=>?_)
 ·obtain⟨F,ds,Qd,s,r,q,K⟩:=h
  rw[r.length];exact len _ _ q
 ·obtain⟨F,ds,Qd,sm,r,q,K⟩:=h
  refine⟨_,ht (nO ig G.P G.w G.K G.mg G.base N qual (ag st) f iu A outer s H E).JF ⟨H,F,[],[]⟩ ⟨rfl,rfl,rfl,hK,rfl,rfl,rfl,rfl,Sc.nd,λp hp=>absurd hp (by simp),λ_ _=>rfl,λ_=>rfl,Sc.kind,λ_ _ _=>rfl,λ_=>hr.hd,hr.dp,hr.un,λ_=>PassesOwn.never,λ_=>⟨rfl,rfl,rfl⟩,λ_ _ h=>h.elim,λh=>nomatch h⟩,F,aR N.length ds,_,RS.start _ sm r,body ds Qd q,?_⟩
  have same:∀ {F':Hp} {ai:Sd} {σ:St} {H':Hp},RS ⟨H,F,[],[]⟩ F' ai σ H'->aq H H':=λR b o e=>R.old b o e (by simp [bz.zM])
  refine⟨λσ H' F' ai s' R' q'=>?_,λv σ H' F' ai b s' R' r' q'=>?_,λ_ _ _ _ _ _ h=>h.elim,λ_ _ _ _ _ _ h=>h.elim⟩
  ·exact K .aQ H' F' (.sh .aQ) s' R'.fr (same R') R'.e9 .aQ q'
  ·refine K v H' F' b s' R'.fr (same R') R'.e9 ?_ q'
   cases b with
   | sh d=>exact r'
   | own xs =>
    obtain⟨a,us,rfl,w1,w2,w3,w4,w5⟩:=r';exact⟨a,us,rfl,w1,w2,w3,w4⟩
   | obj o =>
    obtain⟨a,rfl,w1,w2⟩:=r';exact⟨a,rfl,w1,λb hb=>⟨(w2 b hb).1,(w2 b hb).2.1,(w2 b hb).2.2.1⟩⟩
end Vc
namespace Vc
open PySem L2
variable [KF]
variable {G:GE}{k:Nat}{S:Stat}
abbrev mx:=D->Sd->(Sd->Prop)->Prop
def lG(Y:bz)(g:mx):TG:=λv σ H Q=>∃F ai d Qd,RS Y F ai σ H/\Rep F v d/\g d ai Qd/\∀b8 H' F' aC,aq F F'->RS Y F' aC b8 H'->Qd aC->Q b8 H'
structure EG(G:GE)(k:Nat)(S:Stat)(tg:Expr)(g:mx) :Prop where
 run:∀X Y,dA X G k S Y->PG X tg (lG Y g)
instance {G:GE} {k:Nat} {S:Stat} {tg:Expr} {g:mx} :CoeFun (EG G k S tg g) λ_=>∀X Y,dA X G k S Y->PG X tg (lG Y g):=⟨EG.run⟩
theorem FR{X:Cx}{e:Expr}{t t':TG}(h:PG X e t)(i:∀v σ H Q,t' v σ H Q->t v σ H Q):PG X e t':=λpins s σ H v u Q I r q=>h pins s σ H v u Q I r (i v σ H Q q)
def fb(i:Nat):mx:=λd σ Q=>Q (σ.set i (some (.sh d)))
theorem aY(i:Nat){x:Str}{pos:Pos}(hi:S.N[i]?=some x:=by rfl)(hx:S.sc.lookup x=some .local\/(S.sc.lookup x=some .cell/\S.CI=false):=by first|exact Or.inl rfl|exact Or.inr ⟨rfl,rfl⟩)(hn:i∉S.ios:=by first|decide|exact ac8 | (dsimp only;decide)):EG G k S (.Name x pos) (fb i):=.mk λX Y ok =>
 FR (Ab (i:=i) (by rw[ok.N];exact ok.nd) (by rw[ok.N];exact hi) (oh ok hx) (nR ok hx)) λv σ H Q q=>by
  obtain⟨F,ai,d,Qd,R,r,q,K⟩:=q;exact K _ H F _ (aq.refl _) (R.An r λp hp z=>hn (z ▸ ok.ios p hp)) q
abbrev rn:=List D->Sd->(Sd->Prop)->Prop
def lGs(Y:bz)(g:rn):LK:=λvs σ H Q=>∃F ai ds Qd,RS Y F ai σ H/\aE F vs ds/\g ds ai Qd/\∀b8 H' F' aC,aq F F'->RS Y F' aC b8 H'->Qd aC->Q b8 H'
structure V2(G:GE)(k:Nat)(S:Stat)(ts:List Expr)(g:rn) :Prop where
 run:∀X Y,dA X G k S Y->V5 X ts (lGs Y g)
instance {G:GE} {k:Nat} {S:Stat} {ts:List Expr} {g:rn} :CoeFun (V2 G k S ts g) λ_=>∀X Y,dA X G k S Y->V5 X ts (lGs Y g):=⟨V2.run⟩
def BM:rn:=λds σ Q=>match ds with
 | []=>Q σ
 | _=>False
def gC(g:mx)(u:rn):rn:=λds σ Q=>match ds with
 | d::r=>g d σ λaw=>u r aw Q
 | []=>False
theorem fU:V2 G k S [] BM:=.mk λX Y ok pins s σ H vs us Q I r q=>J4 pins s σ H vs us Q I r (by
 obtain⟨F,ai,ds,Qd,R,rr,q,K⟩:=q;cases rr with
 | nil=>exact⟨rfl,K σ H F ai (aq.refl _) R q⟩
 | cons _ _=>exact q.elim)
theorem bN{e:Expr}{es:List Expr}{g:mx}{u:rn}(h1:EG G k S e g)(h2:V2 G k S es u)(hs:∀env,(assignEach (e::es) env).map (·.2)=assign e env::(assignEach es env).map (·.2):=by intro _;rfl):V2 G k S (e::es) (gC g u):=.mk λX Y ok pins s σ H vs us Q I r q =>
 FT (h1 X Y ok) (h2 X Y ok) (hs _) pins s σ H vs us Q I r (by
  obtain⟨F,ai,ds,Qd,R,rr,q,K⟩:=q;cases rr with
  | nil=>exact q.elim
  | cons r1 rs =>
   refine⟨_,_,rfl,F,ai,_,_,R,r1,q,λaw H1 F1 yX s1 R1 q1=>?_⟩;exact⟨F1,yX,_,_,R1,rs.mono s1,q1,λaM H2 F2 cm s2 R2 q2=>K aM H2 F2 cm (s1.trans s2) R2 q2⟩)
def BO(n:Nat)(u:rn):mx:=λd σ Q=>match d with
 | .tup xs=>xs.length=n/\u xs σ Q
 | _=>False
theorem jC{es:List Expr}{kk:Nat}{u:rn}{n:Nat}{pos:Pos}(h:V2 G k S es u)(hn:∀env,(assignEach es env).length=n:=by intro _;rfl)(Fc:∀env,(assignEach es env).findIdx? (·.1)=none:=by intro _;rfl)(hh:S.jh=false:=by rfl):EG G k S (.Tuple es kk pos) (BO n u):=.mk λX Y ok =>
 FR (Tw (ok.calm hh) (h X Y ok) (hn _) (Fc _)) λv σ H Q q=>by
  obtain⟨F,ai,d,Qd,R,r,q,K⟩:=q;cases d with
  | tup xs =>
   cases r with
   | tup hf rl =>
    exact⟨_,_,rfl,.of (R.fr _ _ hf),by rw[rl.length];exact q.1,F,ai,xs,Qd,R,rl,q.2,K⟩
  | _=>exact q.elim
def Grow(F1 H1 F2 H2:Hp):Prop:=(F2=F1/\H2=H1)\/∃p o,H1 p=none/\F2=upd F1 p o/\H2=upd H1 p o
theorem Grow.same{F1 H1 F2 H2:Hp}(g:Grow F1 H1 F2 H2)(s:aq F1 H1):aq F1 F2:=by
 rcases g with⟨rfl,rfl⟩|⟨p,o,h,rfl,rfl⟩
 ·exact aq.refl _
 ·exact aJ (same_none s h)
theorem Grow.rs{Y:bz}{F1 H1 F2 H2:Hp}{ai:Sd}{σ:St}(g:Grow F1 H1 F2 H2)(R:RS Y F1 ai σ H1):RS Y F2 ai σ H2:=by
 rcases g with⟨rfl,rfl⟩|⟨p,o,h,rfl,rfl⟩
 ·exact R
 ·exact R.alloc h
def mv(F:Hp)(J:It)(items:List D):Prop:=∀F1 H1,aq F F1->aq F1 H1->∀i:Nat,
 (∀x,items[i]?=some x->J.go i H1/\∀v H2,J.WB i H1 v H2->∃F2,Grow F1 H1 F2 H2/\Rep F2 v x)/\(i=items.length->J.stop i H1)
theorem mv.mono{F F':Hp}{J:It}{items:List D}(h:mv F J items)(s:aq F F'):mv F' J items:=λF1 H1 s1=>h F1 H1 (s.trans s1)
def lI(Y:bz)(t:fu):TI:=λσ H R=>∃F ai Qd,RS Y F ai σ H/\t ai Qd/\∀H' F' aC J items,aq F F'->RS Y F' aC σ H'->mv F' J items->Qd items aC->R J H'
structure EI(G:GE)(k:Nat)(S:Stat)(tg iter:Expr)(t:fu) :Prop where
 run:∀X Y,dA X G k S Y->PI X tg iter (lI Y t)
instance {G:GE} {k:Nat} {S:Stat} {tg iter:Expr} {t:fu} :CoeFun (EI G k S tg iter t) λ_=>∀X Y,dA X G k S Y->PI X tg iter (lI Y t):=⟨EI.run⟩
theorem sI{X:Cx}{tg e:Expr}{t t':TI}(h:PI X tg e t)(i:∀σ H Q,t' σ H Q->t σ H Q):PI X tg e t':=λpins s σ H Q I q=>h pins s σ H Q I (i σ H Q q)
theorem FU{X:Cx}{tg l:Expr}{tl:TE}(hl:PE X l tl):PI X tg l (λσ H R=>tl σ H λx H1=>(∃a,x=.ref a/\(∃xs,gp X.K H1 a xs)/\R (Itl X.K a) H1)\/(∃a,x=.ref a/\(∃xs,k8 X.K H1 a xs)/\R (Itt X.K a) H1)):=by
 intro pins s σ H R I h;refine cB (hl pins s σ H _ I h) λv s1 ⟨x,H1,I1,r1,q1⟩=>?_;rcases q1 with⟨a,e,⟨xs,hq⟩,q⟩|⟨a,e,⟨xs,hq⟩,q⟩
 ·subst e
  cases r1;obtain⟨its,rv,p,hz⟩:=I1.list hq;refine wpAny_pyIter_list p.isList ?_;refine⟨s1.heap.objs.size,[s1.heap.objs.size],_,_,H1,rfl,I1.kept (t':=s1.toks) λb o e=>acM _ e,BI a _,⟨_,ada _ rfl,rfl,rfl⟩,λb hb=>?_,q⟩;have e:b=s1.heap.objs.size:=by simpa using hb
  subst e;exact I1.Ej (acS _) (I1.bI.fresh (acS _))
 ·subst e
  cases r1;obtain⟨its,rv,p,hz⟩:=I1.tuple hq;refine wpAny_pyIter_tuple (show s1.heap.IsTuple a its.toArray from p) ?_
  refine⟨s1.heap.objs.size,[s1.heap.objs.size],_,_,H1,rfl,I1.kept (t':=s1.toks) λb o e=>acM _ e,yW a _,⟨_,ada _ rfl,rfl,rfl⟩,λb hb=>?_,q⟩;have e:b=s1.heap.objs.size:=by simpa using hb
  subst e;exact I1.Ej (acS _) (I1.bI.fresh (acS _))
theorem Jj{K:acT}{F:Hp}{a:Addr}{vs:List V}{xs:List D}(h:Rd F a (.lst vs))(r:aE F vs xs):mv F (Itl K a) xs:=λF1 H1 s1 s2 i=>by
 have hs:gp K H1 a vs:=.inl (Rd.mono (s1.trans s2) h);refine⟨λx e=>?_,λhl=>⟨vs,hs,by rw[r.length,hl];exact acS _⟩⟩
 obtain⟨v,e1,r1⟩:=r.get e;refine⟨⟨vs,v,hs,e1⟩,λv2 H2 y=>?_⟩;obtain⟨rfl,y⟩:=y;have:=y vs hs;rw[e1]at this;cases this;exact⟨F1,.inl ⟨rfl,rfl⟩,r1.mono s1⟩
theorem Jk{K:acT}{F:Hp}{a:Addr}{vs:List V}{xs:List D}(h:F a=some (.tup vs))(r:aE F vs xs):mv F (Itt K a) xs:=λF1 H1 s1 s2 i=>by
 have hs:k8 K H1 a vs:=.of (s2 _ _ (s1 _ _ h));refine⟨λx e=>?_,λhl=>⟨vs,hs,by rw[r.length,hl];exact acS _⟩⟩
 obtain⟨v,e1,r1⟩:=r.get e;refine⟨⟨vs,v,hs,e1⟩,λv2 H2 y=>?_⟩;obtain⟨rfl,y⟩:=y;have:=y vs hs;rw[e1]at this;cases this;exact⟨F1,.inl ⟨rfl,rfl⟩,r1.mono s1⟩
def cQ(t:TD):fu:=λσ Q=>t σ λd aw=>match d with
 | .lst xs=>Q xs aw
 | .tup xs=>Q xs aw
 | _=>False
theorem fA{tg l:Expr}{t:TD}(h:ED G k S l t):EI G k S tg l (cQ t):=.mk λX Y ok=>sI (FU (h X Y ok)) λσ H Q q=>by
 obtain⟨F,ai,Qd,R,q,K⟩:=q;refine⟨F,ai,_,R,q,λv H1 F1 d aw s1 R1 r1 q1=>?_⟩;cases d with
 | lst xs =>
  cases r1 with
  | lst hf rl=>exact .inl ⟨_,rfl,⟨_,.inl (Rd.mono R1.fr hf)⟩,K H1 F1 aw _ xs s1 R1 (Jj hf rl) q1⟩
 | tup xs =>
  cases r1 with
  | tup hf rl=>exact .inr ⟨_,rfl,⟨_,.of (R1.fr _ _ hf)⟩,K H1 F1 aw _ xs s1 R1 (Jk hf rl) q1⟩
 | _=>exact q1.elim
def BD(lo:Int)(n:Nat):List D:=(adK n).map λi=>.int (lo+(i:Nat))
theorem zP{F:Hp}(lo:Int)(n:Nat):mv F (WV lo n) (BD lo n):=λF1 H1 s1 s2 i=>by
 refine⟨λx e=>?_,λhl=>?_⟩
 ·unfold BD at e
  rw[ac0]at e;have hi:i<n:=by
   by_cases hi:i<n
   ·exact hi
   ·rw[List.getElem?_eq_none_iff.mpr (by simpa using hi)]at e;cases e
  rw[List.getElem?_range hi]at e;cases e;refine⟨hi,λv H2 y=>?_⟩;obtain⟨rfl,rfl⟩:=y;exact⟨F1,.inl ⟨rfl,rfl⟩,.int _⟩
 ·unfold BD at hl
  rw[acO,adu]at hl;exact Nat.le_of_eq hl.symm
def pL(t:xn):fu:=λσ Q=>t σ λxs aw=>match je aw xs with
 | some [.int j]=>(-(2^62)<=j/\j<2^62)/\Q (BD 0 j.toNat) aw
 | _=>False
def Kk(t:xn):fu:=λσ Q=>t σ λxs aw=>match je aw xs with
 | some [.int i,.int j]=>(-(2^62)<=i/\i<2^62/\-(2^62)<=j/\j<2^62)/\Q (BD i (j-i).toNat) aw
 | _=>False
theorem ji{tg a:Expr}{t:xn}{p pos:Pos}(h:HC G k S [a] t)(hm:G.mg "range"=none)(hg:S.sc.lookup ("range":Str)=some .globalImplicit:=by rfl)(hs:∀env,acW [a] env=[(false,eval a env)]:=by intro _;rfl):EI G k S tg (.Call (.Name "range" p) [a] [] pos) (pL t):=.mk λX Y ok =>
 sI (Bw (du ok hg) (by rw[ok.mg];exact hm) (h X Y ok) (hs _)) λσ H Q q=>by
  obtain⟨F,ai,Qd,R,q,K⟩:=q;refine⟨F,ai,_,R,q,λvs H1 F1 xs aw s1 R1 r1 q1=>?_⟩
  split at q1
  ·rename_i j e
   obtain⟨v,rfl,rv⟩:=(R1.je r1 e).one;obtain rfl:=rv.int;exact⟨j,rfl,q1.1.1,q1.1.2,K H1 F1 aw _ _ s1 R1 (zP 0 _) q1.2⟩
  ·exact q1.elim
theorem Qu{tg a b:Expr}{t:xn}{p pos:Pos}(h:HC G k S [a,b] t)(hm:G.mg "range"=none)(hg:S.sc.lookup ("range":Str)=some .globalImplicit:=by rfl)(hs:∀env,acW [a,b] env=[(false,eval a env),(false,eval b env)]:=by intro _;rfl)(zJ:∀env,acW [b] env=[(false,eval b env)]:=by intro _;rfl):EI G k S tg (.Call (.Name "range" p) [a,b] [] pos) (Kk t):=.mk λX Y ok =>
 sI (Bx (du ok hg) (by rw[ok.mg];exact hm) (h X Y ok) (hs _) (zJ _)) λσ H Q q=>by
  obtain⟨F,ai,Qd,R,q,K⟩:=q;refine⟨F,ai,_,R,q,λvs H1 F1 xs aw s1 R1 r1 q1=>?_⟩
  split at q1
  ·rename_i i j e
   obtain⟨v,u,rfl,rv,ru⟩:=(R1.je r1 e).two;obtain rfl:=rv.int;obtain rfl:=ru.int;exact⟨i,j,rfl,q1.1,K H1 F1 aw _ _ s1 R1 (zP i _) q1.2⟩
  ·exact q1.elim
def vD(g:mx)(tb:b7)(De:iT):List D->Sd->Prop
 | [],σ=>De.nx σ
 | x::xs,σ=>g x σ λaw=>tb {De with nx:=vD g tb De xs,ct:=vD g tb De xs,bk:=De.nx} aw
def eY(ti:fu)(g:mx)(tb:b7):b7:=λDe σ=>ti σ λitems aw=>vD g tb De items aw
theorem oS{tg iter:Expr}{body:List Stmt}{ti:fu}{g:mx}{tb:b7}{pos:Pos}(hi:EI G k S tg iter ti)(hg:EG G k S tg g)(hb:dj G k S body tb)(hs:∀env x,aer iter env x=pure x:=by intro _ _;rfl)(hh:S.jh=false:=by rfl):
  ES G k S (.For tg iter body [] pos) (eY ti g tb):=.mk λX Y ok=>cj (F8 (ok.po hh) (ok.calm hh) (hi X Y ok) (hg X Y ok) (hb X Y ok) (hs _)) λDn σ H q=>by
 obtain⟨F,ai,De,R,q,K⟩:=q;refine⟨F,ai,_,R,q,λH1 F1 yX J items s1 R1 it q1=>?_⟩;refine⟨λi m b8 H'=>∃F' aC,aq F1 F'/\RS Y F' aC b8 H'/\vD g tb De (items.drop i) aC/\m=items.length-i/\i<=items.length,⟨items.length,F1,yX,aq.refl _,R1,q1,rfl,adz _⟩,?_⟩;rintro i m b8 H' ⟨F',aC,s',R',q',rfl,hi⟩;have zO:=it F' H' s' R'.fr i
 by_cases hl:i<items.length
 ·right
  have hd:items.drop i=items[i]::items.drop (i+1):=by rw[aem hl]
  rw[hd]at q';obtain⟨go,yl⟩:=zO.1 items[i] (by rw[acN hl])
  refine⟨go,λaM H2=>∃F2 cm,aq F1 F2/\RS Y F2 cm aM H2/\vD g tb De (items.drop (i+1)) cm,λaM H2 ⟨F2,cm,s2,R2,q2⟩=>⟨items.length-(i+1),by omega,F2,cm,s2,R2,q2,rfl,hl⟩,λv H2 y=>?_⟩
  obtain⟨F2,gr,rep⟩:=yl v H2 y;have s2:aq F1 F2:=s'.trans (gr.same R'.fr);refine⟨F2,aC,items[i],_,gr.rs R',rep,q',λfq H3 F3 acz s3 R3 q3=>⟨F3,acz,_,R3,q3,?_⟩⟩;refine⟨λqX H4 F4 eM s4 R4 q4=>⟨F4,eM,(s2.trans s3).trans s4,R4,q4⟩,λv4 qX H4 F4 eM b s4 R4 r4 q4=>K.rt v4 qX H4 F4 eM b (((s1.trans s2).trans s3).trans s4) R4 r4 q4,
   λqX H4 F4 eM s4 R4 q4=>K.nx qX H4 F4 eM (((s1.trans s2).trans s3).trans s4) R4 q4,λqX H4 F4 eM s4 R4 q4=>⟨F4,eM,(s2.trans s3).trans s4,R4,q4⟩⟩
 ·left
  have e:i=items.length:=by omega
  subst e;rw[List.drop_length]at q';exact⟨zO.2 rfl,K.nx b8 H' F' aC (s1.trans s') R' q'⟩
end Vc
namespace Vc
open PySem L2
variable [KF]
theorem rG{prog:adv}{w:World}{A:Around}{R:Result->Shared->Prop}{s:Shared}{elt target iter:Expr}{ifs:List Expr}{scope:Scope}{pos:Pos}{it acc:Value}{env:Env}(I:Nat->Shared->Prop)
  (turn:∀n s,I n s->wpAny (model prog w) A (pyNext it) (λr bM=>match r with
   | none=>R (.ok .next) bM
   | some v=>wpAny (model prog w) A (letOwnedTupleGo target it v) (λ_ Mz=>wpAny (model prog w) A (assign target env v) (λ_ uk =>
     wpAny (model prog w) A (forIn ifs true λc r=>if r=true then do let ok <- isTrue c env (eval c env);pure (ado ok)else pure (ado r)) (λok wM =>
      if ok=true then wpAny (model prog w) A (eval elt env) (λx Kt =>
       wpAny (model prog w) A (call (.builtin "list.append") [acc,x]) (λ_ aa6=>∃m,m<n/\I m aa6) (λ_ _=>False) Kt) (λ_ _=>False) wM
      else∃m,m<n/\I m wM) (λ_ _=>False) uk) (λ_ _=>False) Mz) (λ_ _=>False) bM) (λ_ _=>False) s)
  (n:Nat) (h:I n s):codeAny (model prog w) A (.compLoop (.ListComp elt [⟨target,iter,ifs,0⟩] scope pos) 0 it acc env) R s:=by
 refine codeAny_loop rfl I (λn s hI=>?_) n h;show wpAny _ A ((compTurn (.ListComp elt [⟨target,iter,ifs,0⟩] scope pos) 0 it acc env).onRaise (λx=>do noteFrame x env;theTreesLotGoes x)) _ _ s
 refine wpAny_noted ?_;rw[compTurn_list];refine acL (wpAny_standAt (acL (wpAny_mono (turn n s hI) (λr bM Jd=>?_) λ_ _ h'=>h'.elim)));cases r with
 | none=>exact acP Jd
 | some v =>
  refine acL (wpAny_mono Jd (λ_ Mz Y8=>?_) λ_ _ h'=>h'.elim);refine acL (wpAny_mono Y8 (λ_ uk Fe=>acL (wpAny_mono Fe (λok wM Je=>?_) λ_ _ h'=>h'.elim)) λ_ _ h'=>h'.elim);cases ok with
  | false=>exact acP ⟨rfl,Je⟩
  | true =>
   exact acL (acL (wpAny_mono Je (λx Kt ab3=>acL (wpAny_mono ab3 (λ_ aa6 ab4=>acP (acP ⟨rfl,ab4⟩)) λ_ _ h'=>h'.elim)) λ_ _ h'=>h'.elim))
def jb(env:Env):List (Str×adL)->List (Str×Addr)->List (Str×Addr)
 | [],cs=>cs
 | (n,k)::r,cs=>if k==.free then jb env r ((n,(env.cells.lookup n).getD 0)::cs)else jb env r cs
theorem nL{env:Env}{scope:Scope}(h:∀x∈scope.names,x.2=.free->∃c,env.cells.lookup x.1=some c):closureFor scope env=pure (jb env scope.names []):=by
 have all:∀(l:List (Str×adL)) (cs:List (Str×Addr)),(∀x∈l,x.2=.free->∃c,env.cells.lookup x.1=some c) ->
   (forIn l cs λx cs=>if(x.2==adL.free)=true then(do let a <- cellOf env x.1;pure (ado ((x.1,a)::cs)))else pure (ado cs):Sem (List (Str×Addr)))=pure (jb env l cs):=by
  intro l
  induction l with
  | nil=>intro cs _;rfl
  | cons x l ih =>
   intro cs hl;obtain⟨n,k⟩:=x;rw[List.forIn_cons];unfold jb
   by_cases hk:k=.free
   ·subst hk
    obtain⟨c,e⟩:=hl (n,.free) acX rfl;have e':env.cells.lookup n=some c:=e;simp only[beq_self_eq_true,if_true,cellOf,e',Option.getD_some,pure_bind];exact ih _ λy hy=>hl y (acQ _ hy)
   ·have hb:(k==adL.free)=false:=by simpa using hk
    simp only[hb,ac1,if_false,pure_bind];exact ih _ λy hy=>hl y (acQ _ hy)
 have h1:=all scope.names [] h;have h2:closureFor scope env=((forIn scope.names ([]:List (Str×Addr)) λx cs=>if(x.2==adL.free)=true then(do let a <- cellOf env x.1;pure (ado ((x.1,a)::cs)))else pure (ado cs):Sem (List (Str×Addr))) >>= λcs=>pure cs):=rfl
 rw[h2,h1,pure_bind]
theorem cq{env:Env}:∀(l:List (Str×adL)) (cs:List (Str×Addr)) (x:Str) (c:Addr),(∀y∈l,y.2=.free->∃c,env.cells.lookup y.1=some c)->(jb env l cs).lookup x=some c->env.cells.lookup x=some c\/cs.lookup x=some c
 | [],cs,x,c,_,h=>.inr h
 | (n,k)::r,cs,x,c,hl,h=>by
  unfold jb at h
  by_cases hk:k=.free
  ·subst hk
   simp only[beq_self_eq_true,if_true]at h;obtain⟨c',e⟩:=hl (n,.free) acX rfl;have e':env.cells.lookup n=some c':=e;rcases cq r _ x c (λy hy=>hl y (acQ _ hy)) h with q|q
   ·exact .inl q
   ·rw[adO]at q
    cases hx:x==n with
    | true =>
     rw[hx]at q;have:=eq_of_beq hx;subst this;rw[e',Option.getD_some]at q;exact .inl (e'.trans q)
    | false=>rw[hx]at q;exact .inr q
  ·have hb:(k==adL.free)=false:=by simpa using hk
   simp only[hb,ac1,if_false]at h;exact cq r cs x c (λy hy=>hl y (acQ _ hy)) h
theorem lj{env:Env}:∀(l:List (Str×adL)) (cs:List (Str×Addr)) (x:Str),(cs.lookup x).isSome=true->((jb env l cs).lookup x).isSome=true
 | [],cs,x,h=>h
 | (n,k)::r,cs,x,h=>by
  unfold jb
  by_cases hk:k=.free
  ·subst hk
   simp only[beq_self_eq_true,if_true];refine lj r _ x ?_;rw[adO];cases hx:x==n with
   | true=>rfl
   | false=>exact h
  ·have hb:(k==adL.free)=false:=by simpa using hk
   simp only[hb,ac1,if_false];exact lj r cs x h
theorem jx{env:Env}:∀(l:List (Str×adL)) (cs:List (Str×Addr)) (x:Str),(x,adL.free)∈l->((jb env l cs).lookup x).isSome=true
 | (n,k)::r,cs,x,h=>by
  unfold jb;rcases acV.mp h with e|e
  ·cases e
   simp only[beq_self_eq_true,if_true];refine lj r _ _ ?_;rw[adO,beq_self_eq_true];rfl
  ·split
   ·exact jx r _ x e
   ·exact jx r cs x e
structure ju(X X':Cx)(scope:Scope)(N':List Str):Prop where
 P:X'.prog=X.prog
 w:X'.w=X.w
 K:X'.K=X.K
 mg:X'.mg=X.mg
 base:X'.base=X.base
 A:X'.A=X.A
 N:X'.N=N'
 sc:X'.env.scope=relabel scope X.env
 calm:X'.calm=true
 xe:X'.xe=λ_ _=>False
def HE(X:Cx)(ifs:List Expr)(t:TT):Prop:=∀(pins:List (Addr×Obj)) (s:Shared) (σ:St) (H:Hp) (Q:Bool->Hp->Prop),L2.Inv X pins σ H s->t σ H Q ->
 wpAny (model X.prog X.w) X.A (forIn ifs true λc r=>if r=true then do let ok <- isTrue c X.env (eval c X.env);pure (ado ok)else pure (ado r)) (TP X pins σ Q) X.xe s
theorem J9{X:Cx}:HE X [] (λ_ H Q=>Q true H):=λpins s σ H Q I h=>wpAny_tests_nil ⟨H,I,h⟩
theorem Ka{X:Cx}{c:Expr}{t:TT}(h:PT X c t):HE X [c] t:=λpins s σ H Q I q=>wpAny_tests_one (h pins s σ H Q I q)
def gq(caps:List (Option Nat))(σ:St):St:=caps.map λc=>match c with
 | some j=>(σ[j]?).join
 | none=>none
def mh(wi:TI)(caps:List (Option Nat))(g:TG)(tc:TT)(te:TE):TE:=λσ H Q=>wi σ H λJ H1=>∀acc,H1 acc=none->∃W:Nat->Nat->St->Hp->Prop,(∃m,W 0 m (gq caps σ) (upd H1 acc (.lst [])))/\∀i m aw H,W i m aw H ->
 (J.stop i H/\Q (.ref acc) H)\/(J.go i H/\∀x H',J.WB i H x H'->g x aw H' λaM H2=>tc aM H2 λb H3=>if b=true then te aM H3 λv H4=>∃ys m',H4 acc=some (.lst ys)/\ys.length<acZ/\m'<m/\W (i+1) m' aM (upd H4 acc (.lst (ys++[v])))else∃m',m'<m/\W (i+1) m' aM H3)
theorem f7{env:Env}:∀ {names:List (Str×adL)} {x:Str} {k:adL},(names.map λ(n,k)=>if(k==adL.free&&env.scope.kind==.function&&env.kindOf n==some .cell)then(n,adL.cell)else(n,k)).lookup x=some k ->
  names.lookup x=some k\/(k=.cell/\names.lookup x=some .free)
 | [],_,_,h=>by simp at h
 | (n,k')::r,x,k,h=>by
  have ih:=@f7 env r x k;have h:List.lookup x ((if(k'==adL.free&&env.scope.kind==.function&&env.kindOf n==some .cell)=true then(n,adL.cell)else(n,k'))::_)=some k:=h
  cases hx:x==n with
  | true =>
   by_cases hc:(k'==adL.free&&env.scope.kind==.function&&env.kindOf n==some .cell)=true
   ·rw[if_pos hc]at h
    simp only[adO,hx]at h ⊢;cases h;simp only[adn,beq_iff_eq]at hc;exact .inr ⟨rfl,by rw[hc.1.1]⟩
   ·rw[if_neg hc]at h
    simp only[adO,hx]at h ⊢;exact .inl h
  | false =>
   by_cases hc:(k'==adL.free&&env.scope.kind==.function&&env.kindOf n==some .cell)=true
   ·rw[if_pos hc]at h
    simp only[adO,hx]at h ⊢;exact ih h
   ·rw[if_neg hc]at h
    simp only[adO,hx]at h ⊢;exact ih h
theorem jV{env:Env}:∀ {names:List (Str×adL)} {x:Str},names.lookup x=some .free ->
  (names.map λ(n,k)=>if(k==adL.free&&env.scope.kind==.function&&env.kindOf n==some .cell)then(n,adL.cell)else(n,k)).lookup x=some .cell \/
  (names.map λ(n,k)=>if(k==adL.free&&env.scope.kind==.function&&env.kindOf n==some .cell)then(n,adL.cell)else(n,k)).lookup x=some .free
 | [],_,h=>by simp at h
 | (n,k')::r,x,h=>by
  have ih:=@jV env r x;show List.lookup x ((if(k'==adL.free&&env.scope.kind==.function&&env.kindOf n==some .cell)=true then(n,adL.cell)else(n,k'))::_)=some .cell\/List.lookup x ((if(k'==adL.free&&env.scope.kind==.function&&env.kindOf n==some .cell)=true then(n,adL.cell)else(n,k'))::_)=some .free
  cases hx:x==n with
  | true =>
   simp only[adO,hx]at h
   by_cases hc:(k'==adL.free&&env.scope.kind==.function&&env.kindOf n==some .cell)=true
   ·rw[if_pos hc];left;simp only[adO,hx]
   ·rw[if_neg hc];right;simp only[adO,hx];exact h
  | false =>
   simp only[adO,hx]at h
   by_cases hc:(k'==adL.free&&env.scope.kind==.function&&env.kindOf n==some .cell)=true
   ·rw[if_pos hc];simp only[adO,hx];exact ih h
   ·rw[if_neg hc];simp only[adO,hx];exact ih h
structure gH(X:Cx)(scope:Scope)(N':List Str)(caps:List (Option Nat)):Prop where
 kind:scope.kind=.function
 oz:∀y∈scope.names,y.2≠.cell
 names:∀y∈scope.names,y.2=.local->scope.names.lookup y.1=some .local
 free:∀y∈scope.names,y.2=.free->X.env.kindOf y.1=some .cell\/X.env.kindOf y.1=some .free
 len:caps.length=N'.length
 cap:∀(i:Nat) (j:Nat),caps[i]?=some (some j)->∃x,N'[i]?=some x/\X.N[j]?=some x/\scope.names.lookup x=some .free
section
variable {X:Cx}{pins:List (Addr×Obj)}{σ:St}{H:Hp}{s:Shared}{elt target iter:Expr}{ifs:List Expr}{scope:Scope}{pos:Pos}{N':List Str}{caps:List (Option Nat)}
theorem gH.cells(SC:gH X scope N' caps)(ok:X.Ok):∀x∈scope.names,x.2=.free->∃c,X.env.cells.lookup x.1=some c:=λx hx hf=>ok.has x.1 (SC.free x hx hf)
def HG(X:Cx)(scope:Scope)(N':List Str)(c5:Shared)(xC:Hp)(C:Addr)(fp:List Addr):Cx:=
 {X with N:=N',c5:=c5,xC:=xC,env:=compEnvC scope (jb X.env scope.names []) C X.env,outer:=X.stack,ex:=fp,fn:=λ_=>false,calm:=true,pn:=[],xe:=λ_ _=>False}
theorem Oh(I:L2.Inv X pins σ H s)(SC:gH X scope N' caps)(hc:X.calm=true){fp:List Addr}(hf:∀b∈fp,iK X pins H b)(jr:∀b∈fp,b<s.heap.objs.size):(HG X scope N' s H s.heap.objs.size fp).Ok where
 mod:=I.ok.mod
 kind:=SC.kind
 glob:=I.ok.glob
 blt:=I.ok.blt
 above:=acS _
 inj:=λx y c h1 h2=>by
  have f:∀z,(jb X.env scope.names []).lookup z=some c->X.env.cells.lookup z=some c:=λz h=>by
   rcases cq scope.names [] z c (SC.cells I.ok) h with q|q
   ·exact q
   ·cases q
  exact I.ok.inj x y c (f x h1) (f y h2)
 has:=λx hx=>by
  have hx:(relabel scope X.env).names.lookup x=some .cell\/(relabel scope X.env).names.lookup x=some .free:=hx;have zF:scope.names.lookup x=some .free:=by
   rcases hx with hx|hx
   ·rcases f7 hx with q|⟨_,q⟩
    ·exact absurd rfl (SC.oz _ (ad7 q))
    ·exact q
   ·rcases f7 hx with q|⟨q,_⟩
    ·exact q
    ·cases q
  exact Option.isSome_iff_exists.mp (jx scope.names [] x (ad7 zF))
 V8:=λx c h=>by cases h
 hd:=λ_=>I.ok.hd hc
 frames:=I.ok.frames
 stk:=.inl rfl
 exf:=λb hb=>⟨adB (jr b hb),λx c h=>by
  rcases cq scope.names [] x c (SC.cells I.ok) h with q|q
  ·exact(hf b hb).2.2.2.2.1 x c q
  ·cases q⟩
 bs:=I.bs
 CJ:=adq I.ok.CJ I.sz
 Bj:=λb o e hb=>by
  rcases(hf b hb).2.2.2.1 with q|q
  ·exact I.ok.Bj b o e q
  ·exact absurd (ads (ac9 e) (adq I.ok.CJ q)) (Nat.lt_irrefl _)
 D6:=λb hb z=>by
  rcases acV.mp (I.uh b z)with q|q
  ·exact(hf b hb).2.1 q
  ·exact(hf b hb).2.2.1 q
 lx:=I.stack
 L4:=I.Av
theorem Iu(I:L2.Inv X pins σ H s)(SC:gH X scope N' caps)(hc:X.calm=true){fp:List Addr}(hf:∀b∈fp,iK X pins H b)(jr:∀b∈fp,b<s.heap.objs.size){h1:Heap}{t1:Nat}(hn:h1.Ns s.heap.objs.size (λ_=>none))(hk:∀b o,s.heap.get? b=some o->h1.get? b=some o):
  L2.Inv (HG X scope N' s H s.heap.objs.size fp) [] (gq caps σ) H {s with heap:=h1,toks:=t1} where
 ok:=Oh I SC hc hf jr
 os:=rfl
 bare:=I.bare
 base:=Un.kept hk
 loc:=by
  refine⟨_,hn,λi x v e1 e2 _=>?_⟩;have e2:(caps.map λc=>match c with|some j=>(σ[j]?).join|none=>none)[i]?=some (some v):=e2
  rw[ac0]at e2;cases ec:caps[i]? with
  | none=>rw[ec]at e2;cases e2
  | some c =>
   rw[ec]at e2;cases c with
   | none=>cases e2
   | some j =>
    have e2:(σ[j]?).join=some v:=adp e2;have e3:σ[j]?=some (some v):=by
     cases q:σ[j]? with
     | none=>rw[q]at e2;cases e2
     | some w =>
      rw[q]at e2;cases w with
      | none=>cases e2
      | some z=>cases e2;rfl
    obtain⟨y,w1,w2,w3⟩:=SC.cap i j ec;have e1:N'[i]?=some x:=e1;rw[w1]at e1;cases e1;have Ma:=SC.free (x,.free) (ad7 w3) rfl;obtain⟨m,hm,hl⟩:=I.loc;obtain⟨u,r,l⟩:=hl j x v w2 e3 (.inr Ma);refine⟨u,r,?_⟩;rcases l with⟨k1,_⟩|⟨_,c,Wc,zv⟩
    ·have Ma:X.env.kindOf x=some .cell\/X.env.kindOf x=some .free:=Ma
     rw[k1]at Ma;rcases Ma with z|z<;>cases z
    ·right
     refine⟨jV w3,c,?_,?_⟩
     ·obtain⟨c',e'⟩:=Option.isSome_iff_exists.mp (jx (env:=X.env) scope.names [] x (ad7 w3))
      rcases cq scope.names [] x c' (SC.cells I.ok) e' with q|q
      ·rw[Wc]at q;cases q
       exact e'
      ·cases q
     ·obtain⟨o,ho,hd⟩:=zv
      exact⟨o,hk _ _ ho,hd⟩
 cell:=λx c h=>by
  rcases cq scope.names [] x c (SC.cells I.ok) h with q|q
  ·obtain⟨v,o,ho,hd⟩:=I.cell x c q
   exact⟨v,o,hk _ _ ho,hd⟩
  ·cases q
 free:=I.bI.fresh (acS _)
 gO:=λx c h=>by
  rcases cq scope.names [] x c (SC.cells I.ok) h with q|q
  ·exact I.gO x c q
  ·cases q
 pin:=λp hp=>absurd (show p∈([]:List (Addr×Obj))from hp) (by simp)
 bI:=I.bI.kept hk
 len:=by
  show(caps.map _).length=N'.length;rw[acO];exact SC.len
theorem uO(I:L2.Inv X pins σ H s)(SC:gH X scope N' caps)(hc:X.calm=true){it:Addr}{fp:List Addr}{tn:Nat->Heap->Prop}{J:It}(T:Turn X.prog X.w X.K target J fp it tn)(t0:tn 0 s.heap)(hf:∀b∈fp,iK X pins H b)
  {g:TG} {tc:TT} {te:TE} (E3:∀X',ju X X' scope N'->PG X' target g/\HE X' ifs tc/\PE X' elt te) {Q:VK}
  (q:∀acc,H acc=none->∃W:Nat->Nat->St->Hp->Prop,(∃m,W 0 m (gq caps σ) (upd H acc (.lst [])))/\∀i m aw H,W i m aw H ->
   (J.stop i H/\Q (.ref acc) H)\/(J.go i H/\∀x H',J.WB i H x H'->g x aw H' λaM H2=>tc aM H2 λb H3=>if b=true then te aM H3 λv H4=>∃ys m',H4 acc=some (.lst ys)/\ys.length<acZ/\m'<m/\W (i+1) m' aM (upd H4 acc (.lst (ys++[v])))else∃m',m'<m/\W (i+1) m' aM H3))
  {E:Value->Shared->Prop} {RR:Value->Addr->Result->Shared->Prop}
  (hRR:∀acc C H' s',L2.Inv X pins σ H' s'->iK X pins H' C->(∃m,s'.heap.Ns C m)->Q (.ref acc) H'->RR (.ref acc) C (.ok .next) s'):
  wpAny (model X.prog X.w) X.A (newList []) (λacc wM=>wpAny (model X.prog X.w) X.A (newFunctionEnv scope X.env.globals (jb X.env scope.names []) [] X.env.qual none .none (some X.env)) (λXl Kt =>
   codeAny (model X.prog X.w) X.A (.compStart (.ListComp elt [⟨target,iter,ifs,0⟩] scope pos) 0 (.ref it) acc {Xl with scope:=relabel scope X.env}) (RR acc Xl.locals) Kt) E wM) E s:=by
 refine adS ?_;have gP:H s.heap.objs.size=none:=I.bI.fresh (acS _);have I3:L2.Inv X pins σ (upd H s.heap.objs.size (.lst [])) {s with heap:=s.heap.push {cls:=.type "list",dict:=none,data:=.seq ([]:List Value).toArray}}:=I.Rl (t':=s.toks) (its:=[]) (ys:=[]) .nil (adz _)
 obtain⟨W,⟨m0,w0⟩,step⟩:=q _ gP;generalize hs3:({s with heap:=s.heap.push {cls:=.type "list",dict:=none,data:=.seq ([]:List Value).toArray}}:Shared)=s3 at I3 ⊢
 generalize hH3:upd H s.heap.objs.size (.lst [])=H3 at I3 w0;generalize YB:s.heap.objs.size=acc at *;have up3:∀b o,s.heap.get? b=some o->s3.heap.get? b=some o:=λb o e=>by rw[<- hs3];exact acM _ e
 have Yv:∀b∈fp,b<s3.heap.objs.size:=λb hb=>by
  obtain⟨o,e,_⟩:=T.obj 0 _ t0 b hb;exact ac9 (up3 b o e)
 have hf3:∀b∈fp,iK X pins H3 b:=λb hb=>by
  obtain⟨f0,f⟩:=hf b hb;refine⟨?_,f⟩;obtain⟨o,e,_⟩:=T.obj 0 _ t0 b hb;have:b≠acc:=by rw[<- YB];exact adB (ac9 e)
  rw[<- hH3,au this];exact f0
 have t3:tn 0 s3.heap:=T.keep 0 _ _ t0 λb _ o e=>up3 b o e;refine wpAny_newFunctionEnv SC.oz (by intro y hy;simp at hy) (λh1 Mb sb1=>?_) SC.kind
 have sj:∀b o,s3.heap.get? b=some o->h1.get? b=some o:=λb o e=>sb1.extBut b o (adB (ac9 e)) (acM _ e);have cx:ju X (HG X scope N' s3 H3 s3.heap.objs.size fp) scope N':=⟨rfl,rfl,rfl,rfl,rfl,rfl,rfl,rfl,rfl,rfl⟩;obtain⟨hg,ht,he⟩:=E3 _ cx;have Qn:h1.Ns s3.heap.objs.size (λ_=>none):=by simpa using Mb
 have fpB:∀ {H':Hp},(∀b∈fp,H' b=none)->∀b∈fp,iK (HG X scope N' s3 H3 s3.heap.objs.size fp) [] H' b:=λ{H'} hn b hb=>by
  obtain⟨f0,f1,f2,f3,f4,f5⟩:=hf3 b hb;refine⟨hn b hb,adB (Yv b hb),?_,.inl hb,λx c h=>?_,λp hp=>absurd (show p∈([]:List (Addr×Obj))from hp) (by simp)⟩
  ·intro z
   rcases acV.mp (I3.uh b z)with q|q
   ·exact f1 q
   ·exact f2 q
  ·rcases cq scope.names [] x c (SC.cells I.ok) h with q|q
   ·exact f4 x c q
   ·cases q
 have loop:∀s4:Shared,L2.Inv (HG X scope N' s3 H3 s3.heap.objs.size fp) [] (gq caps σ) H3 s4->tn 0 s4.heap->codeAny (model X.prog X.w) X.A (.compLoop (.ListComp elt [⟨target,iter,ifs,0⟩] scope pos) 0 (.ref it) (.ref acc) (compEnvC scope (jb X.env scope.names []) s3.heap.objs.size X.env)) (RR (.ref acc) s3.heap.objs.size) s4:=by
  intro s4 I4 t4;refine rG (λn s'=>∃i aw H',L2.Inv (HG X scope N' s3 H3 s3.heap.objs.size fp) [] aw H' s'/\tn i s'.heap/\(∀b∈fp,H' b=none)/\W i n aw H') ?_ m0 ⟨0,_,H3,I4,t4,λb hb=>(hf3 b hb).1,w0⟩;rintro n s5 ⟨i,aw,H5,I5,Wv,HH,w5⟩;rcases step i n aw H5 w5 with⟨stop,qn⟩|⟨go,body⟩
  ·refine cB (T.done (HG X scope N' s3 H3 s3.heap.objs.size fp) rfl rfl rfl rfl i [] s5 aw H5 _ I5 (fpB HH) Wv stop) λr s6 ⟨hr,I6⟩=>?_
   subst hr;have u:=I6.base;refine hRR acc _ H5 s6 (I3.Xk (ch:=fp) I6.os u I6.bI I6.bare λb hb=>?_) (I3.Ej (acS _) I6.free) ?_ qn
   ·obtain⟨f0,f1,f2,f3,f4,f5⟩:=hf3 b hb
    exact⟨f3.imp id λz=>Heap.get?_none_of_le z,f1,f4,f5⟩
   ·obtain⟨m,hm,_⟩:=I6.loc
    exact⟨m,hm⟩
  ·refine cB (T.item (HG X scope N' s3 H3 s3.heap.objs.size fp) rfl rfl rfl rfl i [] s5 aw H5 _ I5 (fpB HH) Wv go) λr s6 ⟨u,hr,h6⟩=>?_
   subst hr;refine cB h6 λ_ s7 ⟨x,H7,I7,r7,y7,st7,fr7⟩=>?_;have I7':=I7.pinned (fpB fr7) (T.obj _ _ st7);have back:∀ {Ia:St} {H8:Hp} {s8:Shared},L2.Inv (HG X scope N' s3 H3 s3.heap.objs.size fp) ([]++lR fp s7.heap) Ia H8 s8->L2.Inv (HG X scope N' s3 H3 s3.heap.objs.size fp) [] Ia H8 s8/\tn (i+1) s8.heap/\∀b∈fp,H8 b=none:=λ{Ia H8 s8} I8=>by
    refine⟨I8.h9,T.keep _ _ _ st7 λb hb o e=>(I8.pin (b,o) (adg _ (adg _ (eD hb e)))).1,λb hb=>?_⟩;obtain⟨o,e,d⟩:=T.obj _ _ st7 b hb;exact(I8.pin (b,o) (adg _ (adg _ (eD hb e)))).2.1
   refine cB (hg _ s7 aw H7 x u _ I7' r7 (body x H7 y7)) λ_ s8 ⟨Ia,H8,I8,q8⟩=>?_;refine cB (ht _ s8 Ia H8 _ I8 q8) λb s9 ⟨H9,I9,q9⟩=>?_;cases b with
   | false =>
    obtain⟨m',hm,w9⟩:=q9;obtain⟨J1,J2,J3⟩:=back I9;exact⟨m',hm,i+1,Ia,H9,J1,J2,J3,w9⟩
   | true =>
    refine cB (he _ s9 Ia H9 _ I9 q9) λy s10 ⟨v,H10,I10,r10,ys,m',e10,hz,hm,w10⟩=>?_;refine cB (lN _ s10 Ia H10 (.ref acc) [v] (.ref acc) [y] (λz H11=>z=.aQ/\W (i+1) m' Ia H11) I10 rfl (.cons r10 .nil) ⟨acc,ys,v,rfl,rfl,e10,hz,rfl,w10⟩) λ_ s11 ⟨_,H11,I11,_,_,w11⟩=>?_;obtain⟨J1,J2,J3⟩:=back I11;exact⟨m',hm,i+1,Ia,H11,J1,J2,J3,w11⟩
 have I4:=Iu (caps:=caps) (N':=N') I3 SC hc hf3 Yv (t1:=s3.toks+([]:List (Str×Value)).length) Qn sj;have t4:tn 0 h1:=T.keep 0 _ _ t3 λb _ o e=>sj b o e;exact codeAny_compStart_list (loop _ I4 t4) (T.self X.A 0 _ _ _ t4 (loop _ I4 t4))
end
end Vc
namespace Vc
open PySem L2
variable [KF]
section
variable {X:Cx}{elt target iter:Expr}{ifs:List Expr}{scope:Scope}{pos:Pos}{N':List Str}{caps:List (Option Nat)}{wi:TI}{g:TG}{tc:TT}{te:TE}
theorem zt{pins:List (Addr×Obj)}{σ:St}{H:Hp}{s:Shared}{C:Addr}{h':Heap}(f:iK X pins H C)(I:L2.Inv X pins σ H s)(hs:aeD C s.heap h'):L2.Inv X pins σ H {s with heap:=h'}:=by
 obtain⟨f0,f1,f2,f3,f4,f5⟩:=f;exact I.turned (t':=s.toks) (λb o hb e=>hs.extBut b o hb e) f0 f1 f3 f4 f5
theorem nr(hc:X.calm=true)(hi:PI X target iter wi)(SC:gH X scope N' caps)(E3:∀X',ju X X' scope N'->PG X' target g/\HE X' ifs tc/\PE X' elt te)(hs:∀x,aer iter X.env x=pure x):
  PE X (.ListComp elt [⟨target,iter,ifs,0⟩] scope pos) (mh wi caps g tc te):=by
 intro pins s σ H Q I h;rw[eval_ListComp];refine wpAny_comprehension_free (use:=none) rfl hs (nL (SC.cells I.ok)) SC.kind SC.names (cB (hi pins s σ H _ I h) λv s1 h1=>cB h1 λitv s2 h2=>?_);obtain⟨it,fp,tn,J,H2,rfl,I2,T,t0,f2,q2⟩:=h2;exact uO I2 SC hc T t0 f2 E3 q2 (RR:=λacc C=>compPost (model X.prog X.w) X.A X.xe none (EP X pins σ Q) acc C) λacc C H' s' I' f' ⟨m,hm⟩ q'=>⟨m,hm,λh' k9=>⟨.ref acc,H',zt f' I' k9,rfl,q'⟩⟩
theorem Ae{i:Nat}{y:Str}{py gE:Pos}(hc:X.calm=true)(hi:PI X target iter wi)(SC:gH X scope N' caps)(E3:∀X',ju X X' scope N'->PG X' target g/\HE X' ifs tc/\PE X' elt te)(hs:∀x,aer iter X.env x=pure x)
  (hN:X.N.Nodup) (hy:X.N[i]?=some y) (hx:X.env.scope.names.lookup y=some .local) (hsw:swapsWith (.ListComp elt [⟨target,iter,ifs,0⟩] scope pos) (some (.Name y py)) gE.line X.env=pure true):
  PS X (.Assign [.Name y py] (.ListComp elt [⟨target,iter,ifs,0⟩] scope pos) gE) (GI (mh wi caps g tc te) (nV i)):=by
 intro pins s σ H D I h;rw[exec_Assign_Name_used _ _ _ _ hsw];refine acL (wpAny_standAt (acL ?_));show wpAny _ X.A (do let _ <- comprehension (.ListComp elt [⟨target,iter,ifs,0⟩] scope pos) scope X.env _ (newList []) false (eval iter X.env) (some (assign (.Name y py) X.env))) _ _ s
 refine acL (wpAny_mono (wpAny_comprehension_free (use:=some (assign (.Name y py) X.env)) (Q:=λ_ s'=>SP X pins D .next s') rfl hs (nL (SC.cells I.ok)) SC.kind SC.names (cB (hi pins s σ H _ I h) λv s1 h1=>cB h1 λitv s2 h2=>?_))
  (λ_ s' hq=>acP (acP hq)) λ_ _ e=>e)
 obtain⟨it,fp,tn,J,H2,rfl,I2,T,t0,f2,q2⟩:=h2;refine uO (Q:=λx H1=>nV i x σ H1 D.nx) I2 SC hc T t0 f2 E3 q2 (RR:=λacc C=>compPost (model X.prog X.w) X.A X.xe (some (assign (.Name y py) X.env)) (λ_ s'=>SP X pins D .next s') acc C) λacc C H' s' I' f' ⟨m,hm⟩ q'=>?_;show wpAny _ X.A (assign (.Name y py) X.env (.ref acc)) _ _ s';obtain⟨o,es,ep,ho,hd,r⟩:=id hm;have Ip:L2.Inv X (pins++lR [C] s'.heap) σ H' s':=I'.pinned (fp:=[C]) (λb hb=>(show b=C by simpa using hb) ▸ f') (λb hb=>by
  have e:b=C:=by simpa using hb
  subst e;exact⟨o,ho,λv z=>by rw[hd]at z;cases z⟩)
 refine wpAny_assign_Name (pd Ip hN hy (.inl hx) (show RelV (.ref acc) (.ref acc)from rfl) (λs'' I''=>?_) (.inr hx))
 have hC:s''.heap.get? C=some o:=(I''.pin (C,o) (adg _ (adg _ (eD (by simp) ho)))).1
 exact⟨m,⟨o,es,ep,hC,hd,r⟩,λh' k9=>⟨_,H',zt f' I''.h9 k9,q'⟩⟩
end
variable {G:GE}{k:Nat}{S:Stat}
def jU(names sc:List (Str×adL)):List (Str×adL):=names.map λ(n,k)=>if(k==.free&&sc.lookup n==some .cell)then(n,.cell)else(n,k)
def aK(S:Stat)(scope:Scope)(N':List Str):Stat:=⟨N',jU scope.names S.sc,[],true,false,false,λ_ _=>False⟩
structure iR(S:Stat)(scope:Scope)(N':List Str)(caps:List (Option Nat)):Prop where
 kind:scope.kind=.function
 nd:N'.Nodup
 oz:scope.names.all (λy=>y.2 != .cell)=true
 names:scope.names.all (λy=>y.2 != .local||scope.names.lookup y.1==some .local)=true
 free:scope.names.all (λy=>y.2 != .free||S.sc.lookup y.1==some .cell||S.sc.lookup y.1==some .free)=true
 len:caps.length=N'.length
 cap:(caps.zip N').all (λp=>match p.1 with|some j=>S.N[j]?==some p.2&&scope.names.lookup p.2==some .free|none=>true)=true
theorem iR.sc{scope:Scope}{N':List Str}{caps:List (Option Nat)}(b:iR S scope N' caps){X:Cx}{Y:bz}(ok:dA X G k S Y):gH X scope N' caps where
 kind:=b.kind
 oz:=λy hy z=>by
  have:=ac4.mp b.oz y hy;rw[z]at this;cases this
 names:=λy hy z=>by
  have:=ac4.mp b.names y hy;rw[z]at this;simpa using this
 free:=λy hy z=>by
  have:=ac4.mp b.free y hy;rw[z]at this;have kd:X.env.kindOf y.1=S.sc.lookup y.1:=by
   show X.env.scope.names.lookup y.1=_;rw[ok.sc]
  rw[kd];simpa using this
 len:=b.len
 cap:=λi j e=>by
  have hl:i<caps.length:=(acR.mp e).1;have hl':i<N'.length:=by rw[<- b.len];exact hl
  have hz:(caps.zip N')[i]?=some (some j,N'[i]):=by
   rw[List.getElem?_zip_eq_some];exact⟨e,by rw[acN hl']⟩
  have:=ac4.mp b.cap _ (ady hz);simp only[adn,beq_iff_eq]at this;exact⟨N'[i],by rw[acN hl'],by rw[ok.N];exact this.1,this.2⟩
theorem eA{X X':Cx}{Y:bz}{scope:Scope}{N':List Str}{caps:List (Option Nat)}(hh:S.jh=false)(ok:dA X G k S Y)(b:iR S scope N' caps)(c:ju X X' scope N')(Y':bz)(cX:Y'.io=[]):dA X' G k (aK S scope N') Y' where
 P:=c.P.trans ok.P
 w:=c.w.trans ok.w
 K:=c.K.trans ok.K
 kf:=c.K.trans ok.kf
 mg:=c.mg.trans ok.mg
 obs:=λh=>nomatch h
 base:=c.base.trans ok.base
 N:=c.N
 sc:=by
  rw[c.sc];show scope.names.map _=jU scope.names S.sc;unfold jU;refine List.map_congr_left λy _=>?_;obtain⟨n,kk⟩:=y;have kd:X.env.kindOf n=S.sc.lookup n:=by
   show X.env.scope.names.lookup n=_;rw[ok.sc]
  simp only[ok.kind,kd,beq_self_eq_true,Bool.and_true]
 nd:=b.nd
 ios:=λp hp=>by rw[cX]at hp;cases hp
 calm:=λ_=>c.calm
 kind:=by rw[c.sc];exact b.kind
 fn:=λh=>by cases h
 hd:=λ_=>by rw[c.A];exact ok.hd hh
 dp:=by rw[c.A];exact ok.dp
 un:=by rw[c.A];exact ok.un
 po:=λ_=>by rw[c.xe];exact PassesOwn.never
 nx:=λh=>nomatch h
 exc:=λ_ _ h=>h.elim
 made:=λh=>nomatch h
def lK:Sd->Sd->Prop
 | [],[]=>True
 | none::r,_::s=>lK r s
 | some b::r,c::s=>c=some b/\lK r s
 | _,_=>False
theorem ni:∀ {a b:Sd} {i:Nat} {x:B},lK a b->a[i]?=some (some x)->b[i]?=some (some x)
 | [],[],_,_,_,e=>by simp at e
 | none::r,c::s,0,_,h,e=>by simp at e
 | none::r,c::s,i+1,x,h,e=>by
  have h:lK r s:=h;simpa using ni (i:=i) h (by simpa using e)
 | some b::r,c::s,0,x,h,e=>by
  obtain⟨h1,h2⟩:c=some b/\lK r s:=h;simp at e;subst e;simp [h1]
 | some b::r,c::s,i+1,x,h,e=>by
  obtain⟨h1,h2⟩:c=some b/\lK r s:=h;simpa using ni (i:=i) h2 (by simpa using e)
 | [],_::_,_,_,h,_=>h.elim
 | none::_,[],_,_,h,_=>h.elim
 | some _::_,[],_,_,h,_=>h.elim
theorem nj:∀ {a b:Sd},lK a b->a.length=b.length
 | [],[],_=>rfl
 | none::r,c::s,h=>by
  have h:lK r s:=h;simp [nj h]
 | some b::r,c::s,h=>by
  obtain⟨_,h2⟩:c=some b/\lK r s:=h;simp [nj h2]
 | [],_::_,h=>h.elim
 | none::_,[],h=>h.elim
 | some _::_,[],h=>h.elim
def vH(ios:List Nat):List (Option Nat)->Sd->(Sd->Prop)->Prop
 | [],σ,Q=>Q σ
 | none::r,σ,Q=>vH ios r σ Q
 | some j::r,σ,Q=>match σ[j]? with
  | some (some (.own xs))=>j∉ios/\vH ios r (σ.set j (some (.sh (.lst xs)))) Q
  | _=>vH ios r σ Q
def dQ(caps:List (Option Nat))(σ:Sd):Sd:=caps.map λc=>match c with
 | some j=>match σ[j]? with
  | some (some (.sh d))=>some (.sh d)
  | _=>none
 | none=>none
def gN(g:mx)(tc:TB)(te:TD)(σ0:Sd):List D->List D->(List D->Prop)->Prop
 | [],acc,Q=>Q acc
 | x::xs,acc,Q=>g x σ0 λaw=>tc aw λb aM=>if b=true then te aM λd fq=>lK σ0 fq/\acc.length<acZ/\gN g tc te σ0 xs (acc++[d]) Q else lK σ0 aM/\gN g tc te σ0 xs acc Q
def dz(ios:List Nat)(caps:List (Option Nat))(ti:fu)(g:mx)(tc:TB)(te:TD):TX:=λσ Q=>ti σ λitems aw=>vH ios caps aw λaM=>gN g tc te (dQ caps aM) items [] λds=>Q (.own ds) aM
theorem eB{ios:List Nat}{Y:bz}(cX:∀p∈Y.io,p.1∈ios):∀ {caps:List (Option Nat)} {F:Hp} {ai:Sd} {σ:St} {H:Hp} {Q:Sd->Prop},RS Y F ai σ H->vH ios caps ai Q->∃F' aC,aq F F'/\RS Y F' aC σ H/\Q aC
 | [],F,ai,σ,H,Q,R,q=>⟨F,ai,aq.refl _,R,q⟩
 | none::r,F,ai,σ,H,Q,R,q=>eB cX (caps:=r) R q
 | some j::r,F,ai,σ,H,Q,R,q=>by
  unfold vH at q
  split at q
  ·rename_i xs e
   obtain⟨F2,v2,s2,R2,e2,r2⟩:=R.lu e λp hp z=>q.1 (z ▸ cX p hp);obtain⟨F3,fq,s3,R3,q3⟩:=eB cX (caps:=r) R2 q.2;exact⟨F3,fq,s2.trans s3,R3,q3⟩
  ·exact eB cX (caps:=r) R q
theorem cu(caps:List (Option Nat))(ai:Sd):∀(i:Nat) (o:O),(dQ caps ai)[i]?≠some (some (.obj o)):=λi o e=>by
 unfold dQ at e;rw[ac0]at e;cases ec:caps[i]? with
 | none=>rw[ec]at e;cases e
 | some c =>
  rw[ec]at e;cases c with
  | none=>cases e
  | some j =>
   have e:(match ai[j]? with|some (some (.sh d))=>some (B.sh d)|_=>none)=some (.obj o):=adp e
   split at e<;>cases e
theorem rF{Y:bz}{F:Hp}{ai:Sd}{σ:St}{H:Hp}(R:RS Y F ai σ H)(caps:List (Option Nat)){F' H':Hp}(s1:aq F F')(s2:aq F' H'):RS ⟨H',F',[],[]⟩ F' (dQ caps ai) (gq caps σ) H' where
 len:=by unfold dQ gq;simp
 lo:=aq.refl _
 fr:=s2
 e9:=λb o e=>.inl e
 old:=λb o e _=>e
 sh:=λi d e=>by
  unfold dQ at e;rw[ac0]at e;unfold gq;rw[ac0];cases ec:caps[i]? with
  | none=>rw[ec]at e;cases e
  | some c =>
   rw[ec]at e;cases c with
   | none=>cases e
   | some j =>
    have e:(match ai[j]? with|some (some (.sh d))=>some (B.sh d)|_=>none)=some (.sh d):=adp e
    split at e
    ·rename_i d' q
     cases e;obtain⟨v,h1,h2⟩:=R.sh j d q;exact⟨v,by show some ((σ[j]?).join)=_;rw[h1];rfl,h2.mono s1⟩
    ·cases e
 own:=λi xs e=>by
  unfold dQ at e;rw[ac0]at e;cases ec:caps[i]? with
  | none=>rw[ec]at e;cases e
  | some c =>
   rw[ec]at e;cases c with
   | none=>cases e
   | some j =>
    have e:(match ai[j]? with|some (some (.sh d))=>some (B.sh d)|_=>none)=some (.own xs):=adp e
    split at e<;>cases e
 dis:=λi j xs ys a e=>by
  exfalso;unfold dQ at e;rw[ac0]at e;cases ec:caps[i]? with
  | none=>rw[ec]at e;cases e
  | some c =>
   rw[ec]at e;cases c with
   | none=>cases e
   | some j =>
    have e:(match ai[j]? with|some (some (.sh d))=>some (B.sh d)|_=>none)=some (.own xs):=adp e
    split at e<;>cases e
 io:=λp hp=>by cases hp
 ob:=.none (cu _ _) (R.ob.tab.mono s1) λb hb=>by cases hb
theorem RS.less{Y:bz}{F:Hp}{σ0 ai:Sd}{σ:St}{H:Hp}(R:RS Y F ai σ H)(l:lK σ0 ai)(wk:∀(i:Nat) (xs:List D),σ0[i]?≠some (some (.own xs)))(FD:∀(i:Nat) (o:O),σ0[i]?≠some (some (.obj o))){H':Hp}(s:aq F H'):RS ⟨H',F,[],[]⟩ F σ0 σ H' where
 len:=(nj l).trans R.len
 lo:=aq.refl _
 fr:=s
 e9:=λb o e=>.inl e
 old:=λb o e _=>e
 sh:=λi d e=>R.sh i d (ni l e)
 own:=λi xs e=>absurd e (wk i xs)
 dis:=λi j xs ys a e=>absurd e (wk i xs)
 io:=λp hp=>by cases hp
 ob:=.none FD R.ob.tab λb hb=>by cases hb
theorem cv(caps:List (Option Nat))(ai:Sd):∀(i:Nat) (xs:List D),(dQ caps ai)[i]?≠some (some (.own xs)):=λi xs e=>by
 unfold dQ at e;rw[ac0]at e;cases ec:caps[i]? with
 | none=>rw[ec]at e;cases e
 | some c =>
  rw[ec]at e;cases c with
  | none=>cases e
  | some j =>
   have e:(match ai[j]? with|some (some (.sh d))=>some (B.sh d)|_=>none)=some (.own xs):=adp e
   split at e<;>cases e
theorem fB:∀a:Sd,lK a a
 | []=>trivial
 | none::r=>fB r
 | some b::r=>⟨rfl,fB r⟩
theorem RS.other{Y:bz}{F:Hp}{ai:Sd}{σ:St}{H:Hp}{a:Addr}{o:HO}(R:RS Y F ai σ H)(h1:F a=none)(h2:Y.H0 a=none)(h3:dc ai σ a):RS Y F ai σ (upd H a o) where
 len:=R.len
 lo:=R.lo
 fr:=λb u e=>by
  have:b≠a:=λz=>by rw[z,h1]at e;cases e
  rw[au this];exact R.fr b u e
 e9:=R.e9
 old:=λb u e n=>by
  have:b≠a:=λz=>by rw[z,h2]at e;cases e
  rw[au this];exact R.old b u e n
 sh:=R.sh
 own:=λi xs e=>by
  obtain⟨b,vs,w1,w2,w3⟩:=R.own i xs e;have:b≠a:=λz=>h3 i xs e (by rw[w1,z])
  exact⟨b,vs,w1,by rw[au this];exact w2,w3⟩
 dis:=R.dis
 io:=R.io
 ob:=R.ob.step (aq.refl _) (λ_ _ e=>⟨e,rfl⟩) (λb hb=>by
  obtain⟨w1,w2,w3⟩:=R.ob.owned hb;have cz:b≠a:=λz=>h3.Rt (z ▸ hb);exact⟨au cz,w1,w3⟩) R.ob.gA λb hb=>by
  by_cases cz:b=a
  ·rw[cz,ay];exactλz=>nomatch z
  ·rw[au cz];exact R.ob.there b hb
def lGe(g:mx):TG:=λv σ H Q=>∃Y:bz,Y.io=[]/\lG Y g v σ H Q
def lBe(t:TB):TT:=λσ H Q=>∃Y:bz,Y.io=[]/\lB Y t σ H Q
def lDe(t:TD):TE:=λσ H Q=>∃Y:bz,Y.io=[]/\lD Y t σ H Q
structure Ic(G:GE)(k:Nat)(S:Stat)(ifs:List Expr)(t:TB) :Prop where
 run:∀X Y,dA X G k S Y->HE X ifs (lB Y t)
instance {G:GE} {k:Nat} {S:Stat} {ifs:List Expr} {t:TB} :CoeFun (Ic G k S ifs t) λ_=>∀X Y,dA X G k S Y->HE X ifs (lB Y t):=⟨Ic.run⟩
def d4:TB:=λσ Q=>Q true σ
theorem jw:Ic G k S [] d4:=.mk λX Y ok pins s σ H Q I q=>J9 pins s σ H Q I (by
 obtain⟨F,ai,Qd,R,q,K⟩:=q;exact K true H F ai (aq.refl _) R q)
theorem nJ{c:Expr}{t:TB}(h:EB G k S c t):Ic G k S [c] t:=.mk λX Y ok=>Ka (h X Y ok)
section
variable {elt target iter:Expr}{ifs:List Expr}{scope:Scope}{pos:Pos}{N':List Str}{caps:List (Option Nat)}{ti:fu}{g:mx}{tc:TB}{te:TD}
theorem rH{X:Cx}{Y:bz}(hh:S.jh=false)(ok:dA X G k S Y)(b:iR S scope N' caps)(hg:EG G k (aK S scope N') target g)(ht:Ic G k (aK S scope N') ifs tc)(he:ED G k (aK S scope N') elt te):
  ∀X',ju X X' scope N'->PG X' target (lGe g)/\HE X' ifs (lBe tc)/\PE X' elt (lDe te):=λX' c =>
 ⟨λpins s σ H v u Q I r ⟨Y',cX,q⟩=>hg X' Y' (eA hh ok b c Y' cX) pins s σ H v u Q I r q,λpins s σ H Q I ⟨Y',cX,q⟩=>ht X' Y' (eA hh ok b c Y' cX) pins s σ H Q I q,λpins s σ H Q I ⟨Y',cX,q⟩=>he X' Y' (eA hh ok b c Y' cX) pins s σ H Q I q⟩
theorem nN{Y:bz}{ios:List Nat}(cX:∀p∈Y.io,p.1∈ios){σ:St}{H:Hp}{Q:VK}(q:lX Y (dz ios caps ti g tc te) σ H Q):mh (lI Y ti) caps (lGe g) (lBe tc) (lDe te) σ H Q:=by
 obtain⟨F,ai,Qd,R,q,K⟩:=q;refine⟨F,ai,_,R,q,λH1 F1 yX J items s1 R1 it q1 acc gP=>?_⟩;obtain⟨F2,cm,s2,R2,q2⟩:=eB cX R1 q1;have it2:=it.mono s2;have a0:Y.H0 acc=none:=(R2.b6 gP).1;have aF:F2 acc=none:=same_none R2.fr gP;have aN:dc cm σ acc:=R2.df gP;have sw:∀ {F5 H5:Hp} {o:HO},aq F5 H5->F5 acc=none->aq F5 (upd H5 acc o):=λ{F5 H5 o} s5 h b u e=>by
  have:b≠acc:=λz=>by rw[z,h]at e;cases e
  rw[au this];exact s5 b u e
 refine⟨λi m aw H'=>∃Fi ds ys,aq F2 Fi/\RS Y Fi cm σ H'/\H' acc=some (.lst ys)/\aE Fi ys ds/\Fi acc=none/\RS ⟨H',Fi,[],[]⟩ Fi (dQ caps cm) aw H'/\gN g tc te (dQ caps cm) (items.drop i) ds (λds=>Qd (.own ds) cm)/\m=items.length-i/\i<=items.length,
  ⟨items.length,F2,[],[],aq.refl _,R2.other aF a0 aN,ay,.nil,aF,rF R2 caps (aq.refl _) (sw R2.fr aF),q2,rfl,adz _⟩,?_⟩
 rintro i m aw Hi ⟨Fi,ds,ys,si,Ri,fy,ri,fi,W0,qi,rfl,hi⟩;have zO:=it2 Fi Hi si Ri.fr i
 by_cases hl:i<items.length
 ·right
  have hd:items.drop i=items[i]::items.drop (i+1):=by rw[aem hl]
  rw[hd]at qi;obtain⟨go,yl⟩:=zO.1 items[i] (by rw[acN hl])
  refine⟨go,λv H' y=>?_⟩;obtain⟨F3,gr,rep⟩:=yl v H' y;have sF:aq Fi F3:=gr.same Ri.fr;have R3:=gr.rs W0;have WZ:RS ⟨H',F3,[],[]⟩ F3 (dQ caps cm) aw H':=R3.less (fB _) (cv _ _) (cu _ _) R3.fr;have sH:aq Hi H':=by
   rcases gr with⟨_,rfl⟩|⟨p,o,hp,_,rfl⟩
   ·exact aq.refl _
   ·exact aJ hp
  have IK:∀c o,F3 c=some o->Fi c=some o\/Nw Hi c o:=λc o e=>by
   rcases gr with⟨rfl,_⟩|⟨p,o',hp,rfl,_⟩
   ·exact .inl e
   ·by_cases hc:c=p
    ·subst hc;exact .inr (.inl hp)
    ·rw[au hc]at e;exact .inl e
  -- behind the turn
  have back:∀ {F5 H5:Hp} {pz:Sd} {WC:St},aq F3 F5->RS ⟨H',F3,[],[]⟩ F5 pz WC H5->RS Y F5 cm σ H5/\H5 acc=some (.lst ys)/\F5 acc=none/\aq Fi F5:=λ{F5 H5 pz WC} s5 R5=>by
   have BE:aq Hi H5:=sH.trans λb o e=>R5.old b o e (by simp [bz.zM])
   have HH:∀c o,F5 c=some o->Fi c=some o\/Nw Hi c o:=λc o e=>by
    rcases R5.e9 c o e with z|z
    ·exact IK c o z
    ·exact .inr (z.imp sH.free id)
   refine⟨Ri.call (sF.trans s5) R5.fr BE HH,BE _ _ fy,?_,sF.trans s5⟩;cases e:F5 acc with
   | none=>rfl
   | some o =>
    rcases HH acc o e with z|z
    ·rw[fi]at z;cases z
    ·rcases z with z|⟨ws,rfl⟩
     ·rw[fy]at z;cases z
     ·have y:=R5.fr acc _ e;rw[BE _ _ fy]at y;cases y
  refine⟨⟨H',F3,[],[]⟩,rfl,F3,_,items[i],_,WZ,rep,qi,λqX H4 F4 eM s4 R4 q4=>?_⟩;refine⟨⟨H',F3,[],[]⟩,rfl,F4,eM,_,R4,q4,λb H5 F5 pz s5 R5 q5=>?_⟩;cases b with
  | false =>
   obtain⟨le,q5⟩:=q5;obtain⟨w1,w2,w3,w4⟩:=back (s4.trans s5) R5;exact⟨items.length-(i+1),by omega,F5,ds,ys,si.trans w4,w1,w2,ri.mono w4,w3,R5.less le (cv _ _) (cu _ _) R5.fr,q5,rfl,hl⟩
  | true =>
   refine⟨⟨H',F3,[],[]⟩,rfl,F5,pz,_,R5,q5,λv6 H6 F6 d abm s6 R6 r6 q6=>?_⟩;obtain⟨le,hz,q6⟩:=q6;obtain⟨w1,w2,w3,w4⟩:=back ((s4.trans s5).trans s6) R6;exact⟨ys,items.length-(i+1),w2,by rw[ri.length];exact hz,by omega,F6,ds++[d],ys++[v6],si.trans w4,w1.other w3 a0 aN,ay,(ri.mono w4).append (.cons r6 .nil),w3,R6.less le (cv _ _) (cu _ _) (sw R6.fr w3),q6,rfl,hl⟩
 ·left
  have e:i=items.length:=by omega
  subst e;rw[List.drop_length]at qi;exact⟨zO.2 rfl,K _ Hi Fi (.own ds) cm ((s1.trans s2).trans si) Ri ⟨acc,ys,rfl,fy,ri,fi,a0,aN⟩ qi⟩
theorem eI(hi:EI G k S target iter ti)(b:iR S scope N' caps)(hg:EG G k (aK S scope N') target g)(ht:Ic G k (aK S scope N') ifs tc)(he:ED G k (aK S scope N') elt te)(hs:∀env x,aer iter env x=pure x:=by intro _ _;rfl)(hh:S.jh=false:=by rfl):
  EX G k S (.ListComp elt [⟨target,iter,ifs,0⟩] scope pos) (dz S.ios caps ti g tc te):=.mk λX Y ok =>
 aO (nr (ok.calm hh) (hi X Y ok) (b.sc ok) (rH hh ok b hg ht he) (hs _)) λσ H Q q=>nN ok.ios q
theorem Gy(i:Nat){y:Str}{py gE:Pos}(hi:EI G k S target iter ti)(b:iR S scope N' caps)(hg:EG G k (aK S scope N') target g)(ht:Ic G k (aK S scope N') ifs tc)(he:ED G k (aK S scope N') elt te)
  (hy:S.N[i]?=some y:=by rfl) (hx:S.sc.lookup y=some .local\/(S.sc.lookup y=some .cell/\S.CI=false):=by first|exact Or.inl rfl|exact Or.inr ⟨rfl,rfl⟩) (hn:i∉S.ios:=by first|decide|exact ac8 | (dsimp only;decide)) (hl:(py.line==pos.line)=true:=by rfl) (Mf:(scope.names.any λ(n,k)=>n==y&&(k==.local||k==.cell))=false:=by decide +kernel)
  (hs:∀env x,aer iter env x=pure x:=by intro _ _;rfl) (hh:S.jh=false:=by rfl):ES G k S (.Assign [.Name y py] (.ListComp elt [⟨target,iter,ifs,0⟩] scope pos) gE) (eh S.ios i (dz S.ios caps ti g tc te)):=.mk λX Y ok=>by
 have sw:swapsWith (.ListComp elt [⟨target,iter,ifs,0⟩] scope pos) (some (.Name y py)) gE.line X.env=pure (S.sc.lookup y==some .local):=by
  have e:swapsWith (.ListComp elt [⟨target,iter,ifs,0⟩] scope pos) (some (.Name y py)) gE.line X.env=pure (X.env.blockKind==.function&&X.env.kindOf y==some .local&&py.line==pos.line&&!(scope.names.any λ(n,k)=>n==y&&(k==.local||k==.cell))):=rfl
  have kb:X.env.blockKind=.function:=by unfold Env.blockKind;rw[ok.kind];rfl
  have kd:X.env.kindOf y=S.sc.lookup y:=by
   show X.env.scope.names.lookup y=_;rw[ok.sc]
  rw[e,kb,kd,hl,Mf];simp
 have fin:∀Dn σ H,lS Y (eh S.ios i (dz S.ios caps ti g tc te)) Dn σ H->GI (mh (lI Y ti) caps (lGe g) (lBe tc) (lDe te)) (nV i) Dn σ H:=λDn σ H q=>by
  obtain⟨F,ai,De,R,q,K⟩:=q;refine nN ok.ios ⟨F,ai,_,R,q,λv H1 F1 y aw s1 R1 r1 q1=>?_⟩;obtain⟨F2,aM,s2,R2,q2⟩:=lZ R1 r1 hn ok.ios q1;exact K.nx _ H1 F2 aM (s1.trans s2) R2 q2
 rcases hx with hx|hx
 ·refine cj (Ae (i:=i) (ok.calm hh) (hi X Y ok) (b.sc ok) (rH hh ok b hg ht he) (hs _) (by rw[ok.N];exact ok.nd) (by rw[ok.N];exact hy) (by rw[ok.sc];exact hx) (by rw[sw,hx];rfl)) fin
 ·refine cj (L2.yw (i:=i) (by rw[ok.N];exact ok.nd) (by rw[ok.N];exact hy) (oh ok (.inr hx)) (nr (ok.calm hh) (hi X Y ok) (b.sc ok) (rH hh ok b hg ht he) (hs _)) (by rw[sw,hx.1];rfl) (nR ok (.inr hx))) fin
end
end Vc
namespace Vc
open PySem L2
variable [KF]
section
variable {prog:adv}{w:World}{A:Around}{E:Value->Shared->Prop}{s:Shared}
theorem DZ{j t:Addr}{i:Nat}{xs:Array Value}{x:Value}{Q:Value->Shared->Prop}(hj:s.heap.IsTupleIter j t i)(ht:s.heap.IsTuple t xs)(hx:xs[i]?=some x)
  (q:∀g,g.IsTupleIter j t (i+1)->aeD j s.heap g->Q x {s with heap:=g}):wpAny (model prog w) A (adI (.ref j)) Q E s:=by
 obtain⟨ob,h1,h2,h3⟩:=id hj;obtain⟨ot,h4,_,nt,h5⟩:=ht;unfold adI;refine acL (aeb (name:=adC "__next__") hj.typeIs F.slot_tuple_iterator_next (adZ F.slot_tuple_iterator_next hj.typeIs F.entry_tuple_iterator_next ?_ (F.args_tuple_iterator_next_1 _)));show wpAny _ _ (field (.ref j) 0 >>= _) _ _ s;refine acL (aes h1 h3 (x:=.ref t) rfl ?_);show wpAny _ _ (if(adw t==Value.none)=true then _ else _) _ _ s
 rw[if_neg (by intro z;exact absurd z adJ)]
 show wpAny _ _ (field (.ref j) 1 >>= _) _ _ s;refine acL (aes h1 h3 (x:=.int i 0) rfl ?_);show wpAny _ _ (seqItems? (.ref t) >>= _) _ _ s;refine acL (aef h4 h5 ?_);simp only[adE,hx];refine acL (wpAny_setField h1 h3 (by simp) (acP ⟨x,rfl,acP (q _ ?_ (aeD.update ..))⟩))
 refine⟨_,Heap.get?_update_self _ h1 (Obj.isFreed_of_fields (Obj.data_mapFields h3 _)),(Obj.cls_mapFields ..).trans h2,?_⟩;rw[Obj.data_mapFields h3];simp [rawInt]
theorem rO{j t:Addr}{i:Nat}{xs:Array Value}{Q:Value->Shared->Prop}(hh:A.handled=none)(hj:s.heap.IsTupleIter j t i)(ht:s.heap.IsTuple t xs)(hx:xs[i]?=none)
  (q:∀g e,Heap.ExtBut j s.heap g->(∃o,g.get? e=some o/\o.cls=.type "StopIteration")->E (.ref e) {s with heap:=g}):wpAny (model prog w) A (adI (.ref j)) Q E s:=by
 obtain⟨ob,h1,h2,h3⟩:=id hj;obtain⟨ot,h4,_,nt,h5⟩:=ht;unfold adI;refine acL (aeb (name:=adC "__next__") hj.typeIs F.slot_tuple_iterator_next (adZ F.slot_tuple_iterator_next hj.typeIs F.entry_tuple_iterator_next ?_ (F.args_tuple_iterator_next_1 _)));show wpAny _ _ (field (.ref j) 0 >>= _) _ _ s;refine acL (aes h1 h3 (x:=.ref t) rfl ?_);show wpAny _ _ (if(adw t==Value.none)=true then _ else _) _ _ s
 rw[if_neg (by intro z;exact absurd z adJ)]
 show wpAny _ _ (field (.ref j) 1 >>= _) _ _ s;refine acL (aes h1 h3 (x:=.int i 0) rfl ?_);show wpAny _ _ (seqItems? (.ref t) >>= _) _ _ s;refine acL (aef h4 h5 ?_);simp only[adE,hx];refine acL (wpAny_rule (acL (wpAny_setField h1 h3 (by simp) ?_)))
 show wpAny _ _ (newExc (.type "StopIteration") [] >>= _) _ _ _;refine acL ?_;simp only[newExc,newTuple];refine acL (adS ?_ (by size_fits))
 refine acL (m:=firstArgMember _ _) (wpAny_of_eq (a:=Value.none) (by first|rfl | (simp only[firstArgMember];rfl)) ?_)
 refine adS ?_ (by size_fits)
 simp only[raiseNew];refine acL (wpAny_handled ?_)
 first|rw[show A.in1.handled=none from hh]|rw[hh]
 refine acL (acP (wpAny_throw ?_));exact q _ _ (((aeD.update ..).extBut.push _).push _) ⟨_,ada _ rfl,rfl⟩
end
def pD(tp:Bool)(h:Heap)(j a:Addr)(i:Nat):Prop:=if tp=true then h.IsTupleIter j a i else h.IsListIter j a i
def zc(tp:Bool)(h:Heap)(a:Addr)(xs:Array Value):Prop:=if tp=true then h.IsTuple a xs else h.IsList a xs
theorem pD.live{tp:Bool}{h:Heap}{j a:Addr}{i:Nat}(q:pD tp h j a i):∃o,h.get? j=some o/\∀v,o.data≠.cell v:=by
 cases tp with
 | true=>obtain⟨o,e,c,d⟩:=(show h.IsTupleIter j a i from q);exact⟨o,e,λv z=>by rw[d]at z;cases z⟩
 | false=>obtain⟨o,e,c,d⟩:=(show h.IsListIter j a i from q);exact⟨o,e,λv z=>by rw[d]at z;cases z⟩
theorem pD.at{tp:Bool}{h h':Heap}{j a:Addr}{i:Nat}(q:pD tp h j a i)(k:∀o,h.get? j=some o->h'.get? j=some o):pD tp h' j a i:=by
 cases tp with
 | true=>obtain⟨o,e,r⟩:=(show h.IsTupleIter j a i from q);exact(show h'.IsTupleIter j a i from⟨o,k o e,r⟩)
 | false=>obtain⟨o,e,r⟩:=(show h.IsListIter j a i from q);exact(show h'.IsListIter j a i from⟨o,k o e,r⟩)
theorem zc.at{tp:Bool}{h h':Heap}{a:Addr}{xs:Array Value}(q:zc tp h a xs)(k:∀o,h.get? a=some o->h'.get? a=some o):zc tp h' a xs:=by
 cases tp with
 | true=>obtain⟨o,e,r⟩:=(show h.IsTuple a xs from q);exact(show h'.IsTuple a xs from⟨o,k o e,r⟩)
 | false=>obtain⟨o,e,r⟩:=(show h.IsList a xs from q);exact(show h'.IsList a xs from⟨o,k o e,r⟩)
section
variable {prog:adv}{w:World}{A:Around}{E:Value->Shared->Prop}{s:Shared}
theorem draw{tp:Bool}{j a:Addr}{i:Nat}{xs:Array Value}{x:Value}{Q:Value->Shared->Prop}(hj:pD tp s.heap j a i)(ha:zc tp s.heap a xs)(hx:xs[i]?=some x)
  (q:∀g,pD tp g j a (i+1)->aeD j s.heap g->Q x {s with heap:=g}):wpAny (model prog w) A (adI (.ref j)) Q E s:=by
 cases tp with
 | true=>exact DZ hj ha hx q
 | false=>exact wpAny_nextOf_list_item hj ha hx q
theorem uT{tp:Bool}{j a:Addr}{i:Nat}{xs:Array Value}{Q:Value->Shared->Prop}(hh:A.handled=none)(hj:pD tp s.heap j a i)(ha:zc tp s.heap a xs)(hx:xs[i]?=none)
  (q:∀g e,Heap.ExtBut j s.heap g->(∃o,g.get? e=some o/\o.cls=.type "StopIteration")->E (.ref e) {s with heap:=g}):wpAny (model prog w) A (adI (.ref j)) Q E s:=by
 cases tp with
 | true=>exact rO hh hj ha hx q
 | false=>exact wpAny_nextOf_list_end hh hj ha hx q
structure ZAp(z U V i j:Addr):Prop where
 uz:U≠z
 vz:V≠z
 iz:i≠z
 jz:j≠z
 uv:U≠V
 ui:U≠i
 uj:U≠j
 vi:V≠i
 vj:V≠j
 ij:i≠j
theorem K4{tp tq:Bool}{z U V i j l m:Addr}{n:Nat}{xs ys:Array Value}{x y a b:Value}{Q:Option Value->Shared->Prop}(D:ZAp z U V i j)(lz:l≠z/\l≠V/\l≠i/\l≠j)(mz:m≠z/\m≠V/\m≠i/\m≠j)
  (hz:IsZip s.heap z U V .none) (hU:IsPair s.heap U (.ref i) (.ref j)) (hV:IsPair s.heap V a b) (h1:pD tp s.heap i l n) (h2:pD tq s.heap j m n) (hl:zc tp s.heap l xs) (hm:zc tq s.heap m ys) (hx:xs[n]?=some x) (hy:ys[n]?=some y)
  (q:∀g,IsZip g z U V (rawInt s.heap.objs.size)->IsPair g V x y->pD tp g i l (n+1)->pD tq g j m (n+1)->IsPair g s.heap.objs.size x y->g.objs.size=s.heap.objs.size+1 ->
   (∀c o,c≠z->c≠V->c≠i->c≠j->s.heap.get? c=some o->g.get? c=some o)->Q (some (.ref s.heap.objs.size)) {s with heap:=g}):wpAny (model prog w) A (pyNext (.ref z)) Q E s:=by
 have hT:s.TypeIs (.ref z) "zip":=⟨_,hz,rfl⟩;unfold pyNext;refine acL (wpAny_attempt (aeb (name:=adC "__next__") hT F.slot_zip_next (adZ F.slot_zip_next hT F.entry_zip_next ?_ (F.args_zip_next_1 _))));show wpAny _ _ (field (.ref z) 2 >>= _) _ _ _;refine acL (aes hz rfl (x:=.bool false) rfl ?_);show wpAny _ _ (field (.ref z) 3 >>= _) _ _ _;refine acL (aes hz rfl (x:=.ref U) rfl (acL (aef hU rfl ?_)));show wpAny _ _ (aew (.ref z) >>= _) _ _ _;refine acL ?_;unfold aew;refine acL (aes hz rfl (x:=.none) rfl (acP ?_));simp only[if_true];refine acL (wpAny_rule (acL (aes hz rfl (x:=.ref V) rfl (acL (wpAny_setField_rec hz (by simp) λg1 z1 e1=>?_)))))
 replace z1:IsZip g1 z U V .ellipsis:=z1
 refine acL ?_;simp only[List.zipIdx_cons,List.zipIdx_nil,List.forIn_cons,List.forIn_nil];refine acL (acL (wpAny_onRaise ?_));show wpAny _ _ (adI (.ref i) >>= _) _ _ _;refine acL (draw (s:={s with heap:=g1}) (h1.at λo e=>e1.extBut _ _ D.iz e) (hl.at λo e=>e1.extBut _ _ lz.1 e) hx λg2 w2 e2=>acP ?_)
 have v2:IsPair g2 V a b:=e2.extBut _ _ D.vi (e1.extBut _ _ D.vz hV);refine acL (aef v2 rfl (acL (wpAny_updateSeq_pair v2 λg3 v3 e3=>?_)))
 replace v3:IsPair g3 V x b:=v3
 refine acL (wpAny_letGo (acP (acL (acL (wpAny_onRaise ?_)))));show wpAny _ _ (adI (.ref j) >>= _) _ _ _;have to3:∀c o,c≠z->c≠i->c≠V->s.heap.get? c=some o->g3.get? c=some o:=λc o c1 c2 c3 e=>e3.extBut _ _ c3 (e2.extBut _ _ c2 (e1.extBut _ _ c1 e));refine acL (draw (s:={s with heap:=g3}) (h2.at λo e=>to3 j o D.jz D.ij.symm D.vj.symm e) (hm.at λo e=>to3 m o mz.1 mz.2.2.1 mz.2.1 e) hy λg4 w4 e4=>acP ?_)
 have v4:IsPair g4 V x b:=e4.extBut _ _ D.vj v3;refine acL (aef v4 rfl (acL (wpAny_updateSeq_pair v4 λg5 v5 e5=>?_)))
 replace v5:IsPair g5 V x y:=v5
 refine acL (wpAny_letGo (acP (acP (acL (aef v5 rfl (acL (wpAny_newTuple ?_)))))));have sz:g5.objs.size=s.heap.objs.size:=by rw[e5.1,e4.1,e3.1,e2.1,e1.1]
 have z5:IsZip g5 z U V .ellipsis:=e5.extBut _ _ D.vz.symm (e4.extBut _ _ D.jz.symm (e3.extBut _ _ D.vz.symm (e2.extBut _ _ D.iz.symm z1)));have k5:∀c o,c≠z->c≠V->c≠i->c≠j->s.heap.get? c=some o->g5.get? c=some o:=λc o c1 c2 c3 c4 e=>e5.extBut _ _ c2 (e4.extBut _ _ c4 (to3 c o c1 c3 c2 e));have i5:pD tp g5 i l (n+1):=w2.at λo e=>e5.extBut _ _ D.vi.symm (e4.extBut _ _ D.ij (e3.extBut _ _ D.vi.symm e));have j5:pD tq g5 j m (n+1):=w4.at λo e=>e5.extBut _ _ D.vj.symm e;have zlt:z<g5.objs.size:=ac9 z5;show wpAny _ _ (Builtin.SmallTypes.ownedTupleHandOut (.ref z) (.ref g5.objs.size) >>= _) _ _ _;refine acL ?_;unfold Builtin.SmallTypes.ownedTupleHandOut;have z6:IsZip (g5.push {cls:=.type "tuple",data:=.seq #[x,y]}) z U V .ellipsis:=acM _ z5;refine acL (wpAny_setField_rec z6 (by simp) λg7 z7 e7=>?_)
 replace z7:IsZip g7 z U V (rawInt g5.objs.size):=z7
 refine wpAny_setField_rec z7 (by simp) λg8 z8 e8=>?_
 replace z8:IsZip g8 z U V (rawInt g5.objs.size):=z8
 have up:∀c o,c≠z->g5.get? c=some o->g8.get? c=some o:=λc o c1 e=>e8.extBut _ _ c1 (e7.extBut _ _ c1 (acM _ e));have t8:IsPair g8 g5.objs.size x y:=e8.extBut _ _ (Nat.ne_of_gt zlt) (e7.extBut _ _ (Nat.ne_of_gt zlt) (ada _ rfl));have s8:g8.objs.size=g5.objs.size+1:=by rw[e8.1,e7.1,Heap.size_push]
 rw[sz]at z8 t8 s8;refine acP ⟨_,rfl,acP ?_⟩;show Q (some (.ref g5.objs.size)) _;rw[sz];exact q g8 z8 (up _ _ D.vz v5) (i5.at λo e=>up _ o D.iz e) (j5.at λo e=>up _ o D.jz e) t8 s8 λc o c1 c2 c3 c4 e=>up c o c1 (k5 c o c1 c2 c3 c4 e)
end
end Vc
namespace Vc
open PySem L2
variable [KF]
abbrev itN(tp:Bool):String:=if tp=true then "tuple_iterator" else "list_iterator"
abbrev zA(tp:Bool)(h:Heap)(l:Addr):Heap:=h.push {cls:=.type (itN tp),data:=.fields #[.ref l,.int 0 0]}
abbrev zB(tp tq:Bool)(h:Heap)(l m:Addr):Heap:=zA tq (zA tp h l) m
abbrev zC(tp tq:Bool)(h:Heap)(l m:Addr):Heap:=(zB tp tq h l m).push {cls:=.type "tuple",data:=.seq #[.ref h.objs.size,.ref (zA tp h l).objs.size]}
abbrev zD(tp tq:Bool)(h:Heap)(l m:Addr):Heap:=(zC tp tq h l m).push {cls:=.type "tuple",data:=.seq #[.none,.none]}
abbrev zE(tp tq:Bool)(h:Heap)(l m:Addr):Heap:=(zD tp tq h l m).push {cls:=.type "zip",data:=.fields #[.none,.bool false,.bool false,.ref (zB tp tq h l m).objs.size,.ref (zC tp tq h l m).objs.size]}
set_option maxHeartbeats 4000000 in
theorem Hx(tp tq:Bool)(l m:Addr)(xs ys:Array Value):
  Meets (Builtin.«zip.__new__» ⟨[.type "zip",.ref l,.ref m],[]⟩) (λ_ R s=>zc tp s.heap l xs/\zc tq s.heap m ys/\R (.ok (.ret (.ref (zD tp tq s.heap l m).objs.size))) {s with heap:=zE tp tq s.heap l m}):=
 .of_wp λprog w A R s h=>by
  obtain⟨hp,g,d,tk,os⟩:=s;obtain⟨hl,hm,h⟩:=h;have sub:=sub_zip;cases tp with
  | true =>
   have L1:Heap.IsTuple (Shared.heap ⟨hp,g,d,tk,os⟩) l xs:=hl;cases tq with
   | true =>
    have L2:Heap.IsTuple (Shared.heap ⟨hp.push {cls:=.type "tuple_iterator",data:=.fields #[.ref l,.int 0 0]},g,d,tk,os⟩) m ys:=by
     obtain⟨o,e,r⟩:=(show hp.IsTuple m ys from hm);exact⟨o,acM _ e,r⟩
    wp_walk using wpAny_pyIter_tuple L1,wpAny_pyIter_tuple L2
    exact⟨_,rfl,h⟩
   | false =>
    have L2:Heap.IsList (Shared.heap ⟨hp.push {cls:=.type "tuple_iterator",data:=.fields #[.ref l,.int 0 0]},g,d,tk,os⟩) m ys:=by
     obtain⟨o,e,r⟩:=(show hp.IsList m ys from hm);exact⟨o,acM _ e,r⟩
    wp_walk using wpAny_pyIter_tuple L1,wpAny_pyIter_list L2
    exact⟨_,rfl,h⟩
  | false =>
   have L1:Heap.IsList (Shared.heap ⟨hp,g,d,tk,os⟩) l xs:=hl;cases tq with
   | true =>
    have L2:Heap.IsTuple (Shared.heap ⟨hp.push {cls:=.type "list_iterator",data:=.fields #[.ref l,.int 0 0]},g,d,tk,os⟩) m ys:=by
     obtain⟨o,e,r⟩:=(show hp.IsTuple m ys from hm);exact⟨o,acM _ e,r⟩
    wp_walk using wpAny_pyIter_list L1,wpAny_pyIter_tuple L2
    exact⟨_,rfl,h⟩
   | false =>
    have L2:Heap.IsList (Shared.heap ⟨hp.push {cls:=.type "list_iterator",data:=.fields #[.ref l,.int 0 0]},g,d,tk,os⟩) m ys:=by
     obtain⟨o,e,r⟩:=(show hp.IsList m ys from hm);exact⟨o,acM _ e,r⟩
    wp_walk using wpAny_pyIter_list L1,wpAny_pyIter_list L2
    exact⟨_,rfl,h⟩
theorem Au{tp:Bool}{h:Heap}{j a:Addr}(e:h.get? j=some {cls:=.type (itN tp),data:=.fields #[.ref a,.int 0 0]}):pD tp h j a 0:=by
 cases tp with
 | true=>exact⟨_,e,rfl,rfl⟩
 | false=>exact⟨_,e,rfl,rfl⟩
section
variable {prog:adv}{w:World}{A:Around}{E:Value->Shared->Prop}{s:Shared}
theorem Hw{tp tq:Bool}{l m:Addr}{xs ys:Array Value}{Q:Value->Shared->Prop}(hl:zc tp s.heap l xs)(hm:zc tq s.heap m ys)
  (q:∀g,IsZip g (s.heap.objs.size+4) (s.heap.objs.size+2) (s.heap.objs.size+3) .none->IsPair g (s.heap.objs.size+2) (.ref s.heap.objs.size) (.ref (s.heap.objs.size+1))->IsPair g (s.heap.objs.size+3) .none .none ->
   pD tp g s.heap.objs.size l 0->pD tq g (s.heap.objs.size+1) m 0->(∀c o,s.heap.get? c=some o->g.get? c=some o)->Q (.ref (s.heap.objs.size+4)) {s with heap:=g}):
  wpAny (model prog w) A (call (.type "zip") [.ref l,.ref m]) Q E s:=by
 refine callType_new F.called_zip ∅ (F.typeCall_zip_2 _ _) (F.newCall_zip_2 _ _) (λob=>F.args_object_init_3 ob _ _) F.entry_zip_new (Hx tp tq l m xs ys) ⟨hl,hm,?_⟩
 have n1:(zA tp s.heap l).objs.size=s.heap.objs.size+1:=Heap.size_push ..;have n2:(zB tp tq s.heap l m).objs.size=s.heap.objs.size+2:=by rw[Heap.size_push,n1]
 have n3:(zC tp tq s.heap l m).objs.size=s.heap.objs.size+3:=by rw[Heap.size_push,n2]
 have n4:(zD tp tq s.heap l m).objs.size=s.heap.objs.size+4:=by rw[Heap.size_push,n3]
 have p5:(zE tp tq s.heap l m).get? (zD tp tq s.heap l m).objs.size=some _:=ada _ rfl;have p4:(zE tp tq s.heap l m).get? (zC tp tq s.heap l m).objs.size=some _:=acM _ (ada _ rfl);have p3:(zE tp tq s.heap l m).get? (zB tp tq s.heap l m).objs.size=some _:=acM _ (acM _ (ada _ rfl));have p2:(zE tp tq s.heap l m).get? (zA tp s.heap l).objs.size=some _:=acM _ (acM _ (acM _ (ada _ rfl)));have p1:(zE tp tq s.heap l m).get? s.heap.objs.size=some _:=acM _ (acM _ (acM _ (acM _ (ada _ rfl))));show _/\_;rw[n2,n3,n4]at p5;rw[n1,n2]at p3;rw[n3]at p4;rw[n1]at p2;rw[n4];refine⟨⟨_,p5,rfl⟩,q _ p5 p3 p4 (Au p1) (Au p2) λc o x=>?_⟩;exact acM _ (acM _ (acM _ (acM _ (acM _ x))))
theorem Hy{tp tq:Bool}{z U V i j l m:Addr}{n:Nat}{xs ys:Array Value}{a b:Value}{Q:Option Value->Shared->Prop}(hh:A.handled=none)(D:ZAp z U V i j)(lz:l≠z/\l≠V/\l≠i/\l≠j)(mz:m≠z/\m≠V/\m≠i/\m≠j)
  (hz:IsZip s.heap z U V .none) (hU:IsPair s.heap U (.ref i) (.ref j)) (hV:IsPair s.heap V a b) (h1:pD tp s.heap i l n) (h2:pD tq s.heap j m n) (hl:zc tp s.heap l xs) (hm:zc tq s.heap m ys) (se:xs[n]?=none\/ys[n]?=none)
  (q:∀g,(∀c o,c≠z->c≠V->c≠i->c≠j->s.heap.get? c=some o->g.get? c=some o)->Q none {s with heap:=g}):wpAny (model prog w) A (pyNext (.ref z)) Q E s:=by
 have hT:s.TypeIs (.ref z) "zip":=⟨_,hz,rfl⟩;unfold pyNext;refine acL (wpAny_attempt (aeb (name:=adC "__next__") hT F.slot_zip_next (adZ F.slot_zip_next hT F.entry_zip_next ?_ (F.args_zip_next_1 _))));show wpAny _ _ (field (.ref z) 2 >>= _) _ _ _;refine acL (aes hz rfl (x:=.bool false) rfl ?_);show wpAny _ _ (field (.ref z) 3 >>= _) _ _ _;refine acL (aes hz rfl (x:=.ref U) rfl (acL (aef hU rfl ?_)));show wpAny _ _ (aew (.ref z) >>= _) _ _ _;refine acL ?_;unfold aew;refine acL (aes hz rfl (x:=.none) rfl (acP ?_));simp only[if_true];refine acL (wpAny_rule (acL (aes hz rfl (x:=.ref V) rfl (acL (wpAny_setField_rec hz (by simp) λg1 z1 e1=>?_)))))
 replace z1:IsZip g1 z U V .ellipsis:=z1
 refine acL ?_;simp only[List.zipIdx_cons,List.zipIdx_nil,List.forIn_cons,List.forIn_nil];refine acL (acL (wpAny_onRaise ?_));show wpAny _ _ (adI (.ref i) >>= _) _ _ _;cases hx:xs[n]? with
 | none =>
  refine acL (uT (s:={s with heap:=g1}) hh (h1.at λo e=>e1.extBut _ _ D.iz e) (hl.at λo e=>e1.extBut _ _ lz.1 e) hx λg2 e x2 he=>?_)
  obtain⟨oe,Ql,YK⟩:=he;have z2:IsZip g2 z U V .ellipsis:=x2 _ _ D.iz.symm z1;have ez:e≠z:=λx=>by subst x;rw[z2]at Ql;cases Ql;simp at YK
  refine wpAny_setField_rec z2 (by simp) λg3 _ e3=>?_
  refine acL (wpAny_isInstance (T:="StopIteration") (b:=true) ⟨oe,e3.extBut _ _ ez Ql,YK⟩ isSubtype_stop (acP (q _ λc o c1 _ c3 _ x=>?_)));exact e3.extBut _ _ c1 (x2 _ _ c3 (e1.extBut _ _ c1 x))
 | some x =>
  have hy:ys[n]?=none:=by
   rcases se with h|h
   ·rw[hx]at h;cases h
   ·exact h
  refine acL (draw (s:={s with heap:=g1}) (h1.at λo e=>e1.extBut _ _ D.iz e) (hl.at λo e=>e1.extBut _ _ lz.1 e) hx λg2 w2 e2=>acP ?_)
  have v2:IsPair g2 V a b:=e2.extBut _ _ D.vi (e1.extBut _ _ D.vz hV);refine acL (aef v2 rfl (acL (wpAny_updateSeq_pair v2 λg3 v3 e3=>?_)));refine acL (wpAny_letGo (acP (acL (acL (wpAny_onRaise ?_)))));show wpAny _ _ (adI (.ref j) >>= _) _ _ _;have to3:∀c o,c≠z->c≠i->c≠V->s.heap.get? c=some o->g3.get? c=some o:=λc o c1 c2 c3 e=>e3.extBut _ _ c3 (e2.extBut _ _ c2 (e1.extBut _ _ c1 e));refine acL (uT (s:={s with heap:=g3}) hh (h2.at λo e=>to3 j o D.jz D.ij.symm D.vj.symm e) (hm.at λo e=>to3 m o mz.1 mz.2.2.1 mz.2.1 e) hy λg4 e x4 he=>?_)
  obtain⟨oe,Ql,YK⟩:=he;have z4:IsZip g4 z U V .ellipsis:=x4 _ _ D.jz.symm (e3.extBut _ _ D.vz.symm (e2.extBut _ _ D.iz.symm z1));have ez:e≠z:=λx=>by subst x;rw[z4]at Ql;cases Ql;simp at YK
  refine wpAny_setField_rec z4 (by simp) λg5 _ e5=>?_
  refine acL (wpAny_isInstance (T:="StopIteration") (b:=true) ⟨oe,e5.extBut _ _ ez Ql,YK⟩ isSubtype_stop (acP (q _ λc o c1 c2 c3 c4 x=>?_)));exact e5.extBut _ _ c1 (x4 _ _ c4 (to3 c o c1 c3 c2 x))
end
end Vc
namespace Vc
open PySem L2
variable [KF]
section
variable {X:Cx}{pins:List (Addr×Obj)}{σ:St}{H:Hp}{s:Shared}
theorem KL(I:L2.Inv X pins σ H s){ch:List Addr}(hf:∀b∈ch,iK X pins H b){h':Heap}{t':Nat}(kp:∀b o,b∉ch->s.heap.get? b=some o->h'.get? b=some o){T:Addr}{o:HO}(hT:s.heap.objs.size<=T)(new:bU X.prog X.w (upd H T o) h' T o):
  L2.Inv X pins σ (upd H T o) {s with heap:=h',toks:=t'}:=by
 have Jz:∀ {b u},s.heap.get? b=some u->b≠T:=λe=>adB (ads (ac9 e) hT);have Wz:∀ {b u},H b=some u->b≠T:=λe=>adB (ads (I.bI.lt e) hT);have Fy:∀ {b u},H b=some u->b∉ch:=λ{b u} e z=>by rw[(hf b z).1]at e;cases e
 refine I.step (g':=s.gens) (d':=s.drawn) (ch:=ch) (λb hb=>?_) (λb u _ _ hc e _=>kp b u hc e) (λb u _ _ hc e _=>⟨u.slots,kp b u hc e⟩) (λb u hc e n=>by rw[au (Jz e)];exact n) (λb u hc e=>⟨u,kp b u hc e⟩)
  (λb xs e=>by rw[au (Wz e)];exact e) (λb u w e=>by rw[au (Wz e)];exact e) (λb ps e=>⟨#[],by rw[au (Wz e),e];simp⟩) (λm hm=>?_) (λb u e=>?_) I.bare
 ·obtain⟨f0,f1,f2,f3,f4,f5⟩:=hf b hb
  exact⟨f3.imp id λz=>Heap.get?_none_of_le z,f1,f4,f5⟩
 ·obtain⟨ob,es,ep,ho,r⟩:=hm
  refine⟨ob,es,ep,kp _ ob (λz=>?_) ho,r⟩;exact(hf _ z).2.1 rfl
 ·by_cases hb:b=T
  ·subst hb;rw[ay]at e;cases e;exact new
  ·rw[au hb]at e
   refine(I.bI b u e).yM (λc v hc q=>?_) (λc q=>by rw[au (Wz q)];exact q) (λc xs q=>by rw[au (Wz q)];exact q) λc o u q=>by rw[au (Wz q)];exact q
   rcases hc with z|z
   ·subst z;exact kp _ v (Fy e) q
   ·exact kp _ v (Fy z) q
theorem KJ(I:L2.Inv X pins σ H s){ch:List Addr}(hf:∀b∈ch,iK X pins H b){h':Heap}{t':Nat}(kp:∀b o,b∉ch->s.heap.get? b=some o->h'.get? b=some o):L2.Inv X pins σ H {s with heap:=h',toks:=t'}:=by
 have Fy:∀ {b u},H b=some u->b∉ch:=λ{b u} e z=>by rw[(hf b z).1]at e;cases e
 refine I.step (g':=s.gens) (d':=s.drawn) (ch:=ch) (λb hb=>?_) (λb u _ _ hc e _=>kp b u hc e) (λb u _ _ hc e _=>⟨u.slots,kp b u hc e⟩) (λb u hc e n=>n) (λb u hc e=>⟨u,kp b u hc e⟩)
  (λb xs e=>e) (λb u w e=>e) (λb ps e=>⟨#[],by rw[e];simp⟩) (λm hm=>?_) (λb u e=>?_) I.bare
 ·obtain⟨f0,f1,f2,f3,f4,f5⟩:=hf b hb
  exact⟨f3.imp id λz=>Heap.get?_none_of_le z,f1,f4,f5⟩
 ·obtain⟨ob,es,ep,ho,r⟩:=hm
  refine⟨ob,es,ep,kp _ ob (λz=>?_) ho,r⟩;exact(hf _ z).2.1 rfl
 ·refine(I.bI b u e).yM (λc v hc q=>?_) (λc q=>q) λc xs q=>q
  rcases hc with z|z
  ·subst z;exact kp _ v (Fy e) q
  ·exact kp _ v (Fy z) q
end
def Sq(tp:Bool)(K:acT)(H:Hp)(a:Addr)(xs:List V):Prop:=if tp=true then k8 K H a xs else gp K H a xs
theorem Sq.is{tp:Bool}{X:Cx}{pins:List (Addr×Obj)}{σ:St}{H:Hp}{s:Shared}{a:Addr}{xs:List V}(I:L2.Inv X pins σ H s)(h:Sq tp X.K H a xs):∃its:List Value,Vals xs its/\zc tp s.heap a its.toArray/\a<s.heap.objs.size:=by
 cases tp with
 | true =>
  obtain⟨its,r,p,_⟩:=I.tuple (show k8 X.K H a xs from h)
  exact⟨its,r,p,by obtain⟨o,e,_⟩:=p;exact ac9 e⟩
 | false =>
  obtain⟨its,r,p,_⟩:=I.list (show gp X.K H a xs from h)
  exact⟨its,r,p.isList,p.lt⟩
theorem Sq.inj{tp:Bool}{X:Cx}{pins:List (Addr×Obj)}{σ:St}{H:Hp}{s:Shared}{a:Addr}{xs ys:List V}(I:L2.Inv X pins σ H s)(h:Sq tp X.K H a xs)(h':Sq tp X.K H a ys):xs=ys:=by
 cases tp with
 | true=>exact I.qU h h'
 | false=>exact I.vU h h'
def Itz(tp tq:Bool)(K:acT)(l m:Addr):It:=
  ⟨λn H=>∃xs ys x y,Sq tp K H l xs/\Sq tq K H m ys/\xs[n]?=some x/\ys[n]?=some y,
   λn H v H'=>∃p x y,H p=none/\v=.ref p/\H'=upd H p (.tup [x,y])/\(∀xs,Sq tp K H l xs->xs[n]?=some x)/\∀ys,Sq tq K H m ys->ys[n]?=some y,
   λn H=>∃xs ys,Sq tp K H l xs/\Sq tq K H m ys/\(xs.length<=n\/ys.length<=n)⟩
theorem Hl{P:adv}{w:World}{K:acT}{elts:List Expr}{kk:Nat}{yT:Pos}(tp tq:Bool)(z U V i j l m:Addr)(D:ZAp z U V i j)(lz:l≠z/\l≠V/\l≠i/\l≠j)(mz:m≠z/\m≠V/\m≠i/\m≠j):
  Turn P w K (.Tuple elts kk yT) (Itz tp tq K l m) [z,U,V,i,j] z (λn h=>IsZip h z U V .none/\IsPair h U (.ref i) (.ref j)/\(∃a b,IsPair h V a b)/\pD tp h i l n/\pD tq h j m n) where
 mem:=by simp
 obj:=λn h st b hb=>by
  obtain⟨h1,h2,⟨a,c,h3⟩,h4,h5⟩:=st;simp only[acV,ac8,or_false]at hb;rcases hb with rfl|rfl|rfl|rfl|rfl
  ·exact⟨_,h1,λv q=>by cases q⟩
  ·exact⟨_,h2,λv q=>by cases q⟩
  ·exact⟨_,h3,λv q=>by cases q⟩
  ·exact h4.live
  ·exact h5.live
 keep:=λn h h' st kp=>by
  obtain⟨h1,h2,⟨a,c,h3⟩,h4,h5⟩:=st;exact⟨kp z (by simp) _ h1,kp U (by simp) _ h2,⟨a,c,kp V (by simp) _ h3⟩,h4.at λo e=>kp i (by simp) o e,h5.at λo e=>kp j (by simp) o e⟩
 item:=by
  intro X hP hw hK hc n pins s σ H E I hf st hg;subst hP hw hK;obtain⟨h1,h2,⟨a,c,h3⟩,h4,h5⟩:=st;obtain⟨xs,ys,x,y,q1,q2,e1,e2⟩:=hg;obtain⟨its,r1,p1,_⟩:=q1.is I;obtain⟨jts,r2,p2,_⟩:=q2.is I;obtain⟨u,hu,ru⟩:=r1.get e1;obtain⟨v,hv,rv⟩:=r2.get e2;refine K4 D lz mz h1 h2 h3 h4 h5 p1 p2 (x:=u) (y:=v) (by simpa using hu) (by simpa using hv) λg z1 v1 i1 j1 t1 s1 k1=>⟨_,rfl,?_⟩
  refine wpAny_letOwnedTupleGo_zip z1 λg' z2 IC=>?_;have kp:∀b o,b∉[z,V,i,j]->s.heap.get? b=some o->g'.get? b=some o:=λb o hb e=>by
   simp only[acV,ac8,or_false,not_or]at hb;exact IC.extBut _ _ hb.1 (k1 b o hb.1 hb.2.1 hb.2.2.1 hb.2.2.2 e)
  have zT:s.heap.objs.size≠z:=Nat.ne_of_gt (ac9 h1);have hf':∀b∈[z,V,i,j],iK X pins H b:=λb hb=>hf b (by
   simp only[acV,ac8,or_false]at hb ⊢;rcases hb with e|e|e|e<;>simp [e])
  have t2:IsPair g' s.heap.objs.size u v:=IC.extBut _ _ zT t1;have I':=KL (t':=s.toks) (o:=.tup [x,y]) I hf' kp (acS _) ⟨by show 2<=acZ;decide,[u,v],.cons ru (.cons rv .nil),⟨_,t2,rfl,_,rfl⟩⟩
  have hfr:H s.heap.objs.size=none:=I.bI.fresh (acS _);refine⟨.ref s.heap.objs.size,upd H s.heap.objs.size (.tup [x,y]),I',rfl,⟨_,x,y,hfr,rfl,rfl,λzs hz=>by rw[hz.inj I q1];exact e1,λzs hz=>by rw[hz.inj I q2];exact e2⟩,⟨z2,IC.extBut _ _ D.uz (k1 _ _ D.uz D.uv D.ui D.uj h2),⟨u,v,IC.extBut _ _ D.vz v1⟩,i1.at λo e=>IC.extBut _ _ D.iz e,j1.at λo e=>IC.extBut _ _ D.jz e⟩,λb hb=>?_⟩
  have L6:=(hf b hb).1;have:b≠s.heap.objs.size:=by
   obtain⟨o,e,_⟩:∃o,s.heap.get? b=some o/\True:=by
    simp only[acV,ac8,or_false]at hb;rcases hb with rfl|rfl|rfl|rfl|rfl
    ·exact⟨_,h1,trivial⟩
    ·exact⟨_,h2,trivial⟩
    ·exact⟨_,h3,trivial⟩
    ·obtain⟨o,e,_⟩:=h4.live;exact⟨o,e,trivial⟩
    ·obtain⟨o,e,_⟩:=h5.live;exact⟨o,e,trivial⟩
   exact adB (ac9 e)
  rw[au this];exact L6
 done:=by
  intro X hP hw hK hc n pins s σ H E I hf st hg;subst hP hw hK;obtain⟨h1,h2,⟨a,c,h3⟩,h4,h5⟩:=st;obtain⟨xs,ys,q1,q2,hl⟩:=hg;obtain⟨its,r1,p1,_⟩:=q1.is I;obtain⟨jts,r2,p2,_⟩:=q2.is I;have n1:=r1.length;have n2:=r2.length;refine Hy (I.ok.hd hc) D lz mz h1 h2 h3 h4 h5 p1 p2 (hl.imp (λq=>by simp;omega) λq=>by simp;omega) λg k1=>⟨rfl,?_⟩
  refine KJ (t':=s.toks) (ch:=[z,V,i,j]) I (λb hb=>hf b ?_) λb o hb e=>?_
  ·simp only[acV,ac8,or_false]at hb ⊢
   rcases hb with e|e|e|e<;>simp [e]
  ·simp only[acV,ac8,or_false,not_or]at hb
   exact k1 b o hb.1 hb.2.1 hb.2.2.1 hb.2.2.2 e
 self:=λ_ _ _ _ _ st h=>wpAny_pyIter_zip st.1 h
theorem K3(n:Nat):ZAp (n+4) (n+2) (n+3) n (n+1):=
  ⟨show(n+2:Nat)≠n+4 by omega,show(n+3:Nat)≠n+4 by omega,show(n:Nat)≠n+4 by omega,show(n+1:Nat)≠n+4 by omega,show(n+2:Nat)≠n+3 by omega,
   show(n+2:Nat)≠n by omega,show(n+2:Nat)≠n+1 by omega,show(n+3:Nat)≠n by omega,show(n+3:Nat)≠n+1 by omega,show(n:Nat)≠n+1 by omega⟩
theorem pT{l n:Nat}(h:l<n):l≠n+4/\l≠n+3/\l≠n/\l≠n+1:=by omega
def ab5(K:acT)(ta:TA):TI:=λσ H R=>ta σ H λvs H1=>∃tp tq l m xs ys,vs=[.ref l,.ref m]/\Sq tp K H1 l xs/\Sq tq K H1 m ys/\R (Itz tp tq K l m) H1
theorem Tx{X:Cx}{elts:List Expr}{kk:Nat}{yT:Pos}{a b:Expr}{ta:TA}{p pos:Pos}(hg:Gl X "zip")(hm:X.mg "zip"=none)(ha:PA X [a,b] ta)(hs:acW [a,b] X.env=[(false,eval a X.env),(false,eval b X.env)])(zJ:acW [b] X.env=[(false,eval b X.env)]):
  PI X (.Tuple elts kk yT) (.Call (.Name "zip" p) [a,b] [] pos) (ab5 X.K ta):=by
 intro pins s σ H R I h;refine PyProof.Rows.Call_ (jj I hg hm PyProof.Rows.boot_zip (PyProof.Rows.callWith_type1 (cB (ha pos pins s σ H _ I h) λus s1 ⟨vs,H1,I1,r1,q1⟩=>?_) (by rw[hs,zJ]) (by rw[zJ];rfl)))
 obtain⟨tp,tq,l,m,xs,ys,e,q1,q2,q⟩:=q1;subst e;obtain⟨u,v,rfl,ru,rv⟩:=vals2 r1;cases ru;cases rv;obtain⟨its,_,p1,ll⟩:=q1.is I1;obtain⟨jts,_,p2,lm⟩:=q2.is I1;refine Hw p1 p2 λg z1 u1 v1 i1 j1 k1=>?_;refine wpAny_pyIter_zip z1 ?_;have N:∀n:Nat,s1.heap.objs.size<=s1.heap.objs.size+n:=λn=>Nat.le_add_right _ _;refine⟨s1.heap.objs.size+4,[s1.heap.objs.size+4,s1.heap.objs.size+2,s1.heap.objs.size+3,s1.heap.objs.size,s1.heap.objs.size+1],_,_,H1,rfl,I1.kept (t':=s1.toks) k1,
  Hl tp tq _ _ _ _ _ l m (K3 _) (pT ll) (pT lm),⟨z1,u1,⟨_,_,v1⟩,i1,j1⟩,λb hb=>?_,q⟩
 have L6:s1.heap.objs.size<=b:=by
  simp only[acV,ac8,or_false]at hb;rcases hb with rfl|rfl|rfl|rfl|rfl
  ·exact N 4
  ·exact N 2
  ·exact N 3
  ·exact N 0
  ·exact N 1
 exact I1.Ej L6 (I1.bI.fresh L6)
end Vc
namespace Vc
open PySem L2
variable [KF]
variable {G:GE}{k:Nat}{S:Stat}
def sq?:D->Option (List D)
 | .lst xs=>some xs
 | .tup xs=>some xs
 | _=>none
def xk(xs ys:List D):List D:=(xs.zip ys).map λp=>.tup [p.1,p.2]
def KH(t:fu):fu:=λσ Q=>t σ λds aw=>match ds with
 | [a,b]=>match sq? a,sq? b with
  | some xs,some ys=>Q (xk xs ys) aw
  | _,_=>False
 | _=>False
theorem Rep.sq{F:Hp}{v:V}{d:D}{xs:List D}(r:Rep F v d)(e:sq? d=some xs)(K:acT):∃tp a vs,v=.ref a/\(∀H,aq F H->Sq tp K H a vs)/\aE F vs xs:=by
 cases d with
 | lst ys =>
  cases e;cases r with
  | lst h r=>exact⟨false,_,_,rfl,λH s=>(show gp K H _ _ from .inl (Rd.mono s h)),r⟩
 | tup ys =>
  cases e;cases r with
  | tup h r=>exact⟨true,_,_,rfl,λH s=>(show k8 K H _ _ from .of (s _ _ h)),r⟩
 | _=>cases e
theorem Hv{xs ys:List D}{i:Nat}{d:D}(h:(xk xs ys)[i]?=some d):∃x y,xs[i]?=some x/\ys[i]?=some y/\d=.tup [x,y]:=by
 unfold xk at h;rw[ac0]at h;cases e:(xs.zip ys)[i]? with
 | none=>rw[e]at h;cases h
 | some p =>
  rw[e]at h;obtain⟨e1,e2⟩:=List.getElem?_zip_eq_some.mp e;exact⟨p.1,p.2,e1,e2,(adp h).symm⟩
theorem Jl{K:acT}{F:Hp}{tp tq:Bool}{l m:Addr}{vs us:List V}{xs ys:List D}(h1:∀H,aq F H->Sq tp K H l vs)(h2:∀H,aq F H->Sq tq K H m us)(r1:aE F vs xs)(r2:aE F us ys):mv F (Itz tp tq K l m) (xk xs ys):=λF1 H1 s1 s2 i=>by
 have a1:=h1 H1 (s1.trans s2);have a2:=h2 H1 (s1.trans s2);refine⟨λd e=>?_,λhl=>⟨vs,us,a1,a2,?_⟩⟩
 ·obtain⟨x,y,e1,e2,rfl⟩:=Hv e
  obtain⟨v,w1,q1⟩:=r1.get e1;obtain⟨u,w2,q2⟩:=r2.get e2;refine⟨⟨vs,us,v,u,a1,a2,w1,w2⟩,λz H2 yl=>?_⟩;obtain⟨p,v',u',hp,rfl,rfl,f1,f2⟩:=yl;have e1':=f1 vs a1;have IC:=f2 us a2;rw[w1]at e1';cases e1';rw[w2]at IC;cases IC;have sm:=aJ (o:=.tup [v,u]) (same_none s2 hp);exact⟨upd F1 p (.tup [v,u]),.inr ⟨p,_,hp,rfl,rfl⟩,.tup ay (.cons ((q1.mono s1).mono sm) (.cons ((q2.mono s1).mono sm) .nil))⟩
 ·have:(xk xs ys).length=min xs.length ys.length:=by unfold xk;simp
  have n1:=r1.length;have n2:=r2.length;omega
theorem Mh{elts:List Expr}{kk:Nat}{yT:Pos}{a b:Expr}{t:fu}{p pos:Pos}(h:xu G k S [a,b] t)(hm:G.mg "zip"=none)(hg:S.sc.lookup ("zip":Str)=some .globalImplicit:=by rfl)(hs:∀env,acW [a,b] env=[(false,eval a env),(false,eval b env)]:=by intro _;rfl)(zJ:∀env,acW [b] env=[(false,eval b env)]:=by intro _;rfl):
  EI G k S (.Tuple elts kk yT) (.Call (.Name "zip" p) [a,b] [] pos) (KH t):=.mk λX Y ok=>sI (Tx (du ok hg) (by rw[ok.mg];exact hm) (h X Y ok) (hs _) (zJ _)) λσ H Q q=>by
 obtain⟨F,ai,Qd,R,q,K⟩:=q;refine⟨F,ai,_,R,q,λvs H1 F1 ds aw s1 R1 r1 q1=>?_⟩
 split at q1
 ·rename_i x y
  split at q1
  ·rename_i xs ys ex ey
   cases r1 with
   | cons rx r1 =>
    cases r1 with
    | cons ry r1 =>
     cases r1;obtain⟨tp,l,us,rfl,a1,b1⟩:=rx.sq ex X.K;obtain⟨tq,m,ws,rfl,a2,b2⟩:=ry.sq ey X.K;exact⟨tp,tq,l,m,us,ws,rfl,a1 H1 R1.fr,a2 H1 R1.fr,K H1 F1 aw _ _ s1 R1 (Jl a1 a2 b1 b2) q1⟩
  ·exact q1.elim
 ·exact q1.elim
end Vc
namespace Vc
open PySem L2
variable [KF]
section
variable {prog:adv}{w:World}{A:Around}{R:Result->Shared->Prop}
def cF(bt:Nat->Nat->Bool):Nat->Nat
 | 0=>0
 | n+1=>if bt (n+1) (cF bt n)=true then n+1 else cF bt n
def y9(prog:adv)(w:World)(A:Around)(op:CmpOp)(h0:Heap)(its:Array Value)(bt:Nat->Nat->Bool):Prop:=
 ∀(i j:Nat) (x y:Value) (s:Shared) (Q:Value->Shared->Prop) (E:Value->Shared->Prop),its[i]?=some x->its[j]?=some y->(∀b o,h0.get? b=some o->s.heap.get? b=some o)->Q (.bool (bt i j)) s->wpAny (model prog w) A (richCompare op x y) Q E s
theorem Fv{h0:Heap}{its:Array Value}{bt:Nat->Nat->Bool}(hh:A.handled=none)(hc:y9 prog w A.in1 .Lt h0 its bt){I l S:Addr}(hl0:h0.IsList l its)(IS:I≠S)(n0:h0.get? I=none)(n1:h0.get? S=none)(kw:List (Str×Value)):
  ∀(d j:Nat) (s:Shared) (v:Value) (c:Nat),its.size-(j+1)=d->j+1<=its.size->s.heap.IsListIter I l (j+1)->its[cF bt j]?=some v->s.heap.get? S=some {cls:=.type "list",dict:=none,data:=.seq #[v,v] c,slots:=#[]} ->
  (∀b o,h0.get? b=some o->s.heap.get? b=some o) ->
  (∀v g tk,its[cF bt (its.size-1)]?=some v->(∀b o,h0.get? b=some o->g.get? b=some o)->R (.ok (.ret v)) {s with heap:=g,toks:=tk}) ->
  codeAny (model prog w) A (.builtin "min.loop" ⟨[.ref I,.none,.ref S],kw⟩) R s:=by
 have nm:(toString "min"++toString ".loop":String)="min.loop":=by decide
 have lI:l≠I:=λz=>by obtain⟨o,e,_⟩:=hl0;rw[z,n0]at e;cases e
 have lS:l≠S:=λz=>by obtain⟨o,e,_⟩:=hl0;rw[z,n1]at e;cases e
 have nI:∀ {b o},h0.get? b=some o->b≠I:=λe z=>by rw[z,n0]at e;cases e
 have nS:∀ {b o},h0.get? b=some o->b≠S:=λe z=>by rw[z,n1]at e;cases e
 intro d
 induction d with
 | zero =>
  intro j s v c hd hj hI hv hS k0 hR;have e1:j+1=its.size:=by omega
  have hl:s.heap.IsList l its:=by obtain⟨o,e,r⟩:=hl0;exact⟨o,k0 _ _ e,r⟩
  refine codeAny_builtin F.entry_min_loop ?_;rw[Around.under_plainId ael _];show wpAny _ A.in1 (seqItems? (.ref S) >>= _) _ _ s;refine acL (aef hS rfl ?_);show wpAny _ A.in1 (tryCatch (pyNext (.ref I)) _ >>= _) _ _ s;refine acL (wpAny_tryCatch (wpAny_pyNext_list_end (show A.in1.handled=none from hh) hI hl (by simp;omega) λg x1=>?_))
  have S1:=x1 S _ IS.symm hS;show wpAny _ A.in1 (updateSeq S (λ_=>#[]) >>= _) _ _ _;refine acL (wpAny_updateSeq (s:={s with heap:=g}) S1 rfl (acL (wpAny_letGo (acP ?_))))
  have e2:its.size-1=j:=by omega
  refine hR v _ s.toks (by rw[e2];exact hv) λb o e=>?_
  exact(adG _ _ (aec (nS e))).trans (x1 b o (nI e) (k0 b o e))
 | succ d ih =>
  intro j s v c hd hj hI hv hS k0 hR;have jr:j+1<its.size:=by omega
  have hl:s.heap.IsList l its:=by obtain⟨o,e,r⟩:=hl0;exact⟨o,k0 _ _ e,r⟩
  refine codeAny_builtin F.entry_min_loop ?_;rw[Around.under_plainId ael _];show wpAny _ A.in1 (seqItems? (.ref S) >>= _) _ _ s;refine acL (aef hS rfl ?_);show wpAny _ A.in1 (tryCatch (pyNext (.ref I)) _ >>= _) _ _ s;have hx:its[j+1]?=some its[j+1]:=by simp [jr]
  refine acL (wpAny_tryCatch (wpAny_pyNext_list_item hI hl hx λg I1 x1=>?_));have S1:=x1.extBut S _ IS.symm hS;have k1:∀b o,h0.get? b=some o->g.get? b=some o:=λb o e=>x1.extBut b o (nI e) (k0 b o e);show wpAny _ A.in1 (tryCatch (holding [its[j+1],its[j+1]] (richCompare .Lt its[j+1] v >>= _)) _ >>= _) _ _ _;refine acL (wpAny_tryCatch (wpAny_holding (acL (hc (j+1) (cF bt j) _ v {s with heap:=g} _ _ hx hv k1 ?_))))
  refine acL (wpAny_holding (wpAny_truthy_bool (acL (wpAny_letGo (acP ?_)))));cases hb:bt (j+1) (cF bt j)with
  | true =>
   simp only[if_true];refine acL (wpAny_updateSeq (s:={s with heap:=g}) S1 rfl (acL (wpAny_letGo ?_)))
   rw[nm];refine acP ⟨plainId_quiet ael _,ih (j+1) _ its[j+1] _ ⋯ jr ?_ (by simp only[cF,hb,if_true];exact hx) (Heap.get?_update_self _ S1 rfl) (λb o e=>(adG _ _ (aec (nS e))).trans (k1 b o e)) λv' g' tk Y6 k'=>?_⟩
   ·obtain⟨o,e,r⟩:=I1;exact⟨o,(adG _ _ (aec IS)).trans e,r⟩
   ·exact hR v' g' tk Y6 k'
  | false =>
   simp only[ac1,if_false];refine acL (wpAny_letGo ?_);rw[nm];refine acP ⟨plainId_quiet ael _,ih (j+1) _ v c ⋯ jr I1 (by simp only[cF,hb,ac1,if_false];exact hv) S1 k1 λv' g' tk Y6 k'=>?_⟩
   exact hR v' g' tk Y6 k'
theorem xI(a v:Value):argsOk "min" ⟨[a],[(adC "default",v)]⟩:=by unfold argsOk;kernel_rfl
theorem vY{E:Value->Shared->Prop}{s:Shared}{its:Array Value}{bt:Nat->Nat->Bool}(hh:A.handled=none)(hc:y9 prog w A.in1 .Lt s.heap its bt){l:Addr}(hl:s.heap.IsList l its){dv:Value}{Q:Value->Shared->Prop}
  (q0:its.size=0->∀g tk,(∀b o,s.heap.get? b=some o->g.get? b=some o)->Q dv {s with heap:=g,toks:=tk})
  (q1:∀v g tk,its[cF bt (its.size-1)]?=some v->(∀b o,s.heap.get? b=some o->g.get? b=some o)->Q v {s with heap:=g,toks:=tk}):
  wpAny (model prog w) A (call (.builtin "min") [.ref l] [(adC "default",dv)]) Q E s:=by
 have nm:(toString "min"++toString ".loop":String)="min.loop":=by decide
 refine wpAny_call (codeAny_call_builtin F.plain_min F.entry_min ?_);have run:wpAny (model prog w) A.in1 (Builtin.«min» ⟨[.ref l],[(adC "default",dv)]⟩) (λfin s'=>match fin with
   | .done f=>(match(Except.ok f:Result)with|.ok (.ret v)=>Q v s'|.ok _=>False|.error e=>E e s')
   | .again c'=>c'.quiet=true/\codeAny (model prog w) A c' (λr s'=>match r with|.ok (.ret v)=>Q v s'|.ok _=>False|.error e=>E e s') s') E s:=by
  show wpAny _ A.in1 (Builtin.Builtins.bindParams "min" ["key","default"] 0 ⟨[],[(adC "default",dv)]⟩ >>= _) _ _ s;refine acL (wpAny_of_eq (show Builtin.Builtins.bindParams "min" ["key","default"] 0 ⟨[],[(adC "default",dv)]⟩=pure [none,some dv]from rfl) (acL (acP ?_)))
  refine acL (wpAny_pyIter_list hl (acL (adS ?_)));generalize Qm:s.heap.push {cls:=.type "list_iterator",data:=.fields #[.ref l,.int 0 0]}=g1;have n1:g1.objs.size=s.heap.objs.size+1:=by rw[<- Qm];exact Heap.size_push ..
  have I0:(g1.push {cls:=.type "list",dict:=none,data:=.seq ([]:List Value).toArray}).IsListIter s.heap.objs.size l 0:=⟨_,acM _ (by rw[<- Qm];exact ada _ rfl),rfl,rfl⟩
  have S0:=ada g1 (o:={cls:=.type "list",dict:=none,data:=.seq ([]:List Value).toArray}) rfl;have k0:∀b o,s.heap.get? b=some o->(g1.push {cls:=.type "list",dict:=none,data:=.seq ([]:List Value).toArray}).get? b=some o:=λb o e=>acM _ (by rw[<- Qm];exact acM _ e)
  have fr:∀a,s.heap.objs.size<=a->s.heap.get? a=none:=λa ha=>by
   cases e:s.heap.get? a with
   | none=>rfl
   | some o=>exact absurd (ac9 e) (Nat.not_lt.mpr ha)
  have nI:s.heap.get? s.heap.objs.size=none:=fr _ (acS _);have nS:s.heap.get? g1.objs.size=none:=fr _ (by rw[n1];exact Nat.le_succ _)
  have IS:s.heap.objs.size≠g1.objs.size:=by rw[n1];exact adB (Nat.lt_succ_self _)
  rw[nm];refine acP ⟨plainId_quiet ael _,?_⟩;generalize YL:g1.push {cls:=.type "list",dict:=none,data:=.seq ([]:List Value).toArray}=g2 at I0 S0 k0;have nc:g2.IsList l its:=by obtain⟨o,e,r⟩:=hl;exact⟨o,k0 _ _ e,r⟩
  refine codeAny_builtin F.entry_min_loop ?_;rw[Around.under_plainId ael _];show wpAny _ A.in1 (seqItems? (.ref g1.objs.size) >>= _) _ _ _;refine acL (aef (s:={s with heap:=g2}) S0 rfl ?_)
  show wpAny _ A.in1 (tryCatch (pyNext (.ref s.heap.objs.size)) _ >>= _) _ _ _
  by_cases hz:its.size=0
  ·refine acL (wpAny_tryCatch (wpAny_pyNext_list_end (show A.in1.handled=none from hh) I0 nc (by simp [hz]) λg x1=>?_))
   refine acL (wpAny_rule (acP ?_));exact q0 hz g s.toks λb o e=>x1 b o (λz=>by rw[z,nI]at e;cases e) (k0 b o e)
  ·have hx:its[0]?=some its[0]:=by simp [Nat.pos_of_ne_zero hz]
   refine acL (wpAny_tryCatch (wpAny_pyNext_list_item I0 nc hx λg I1 x1=>?_));have S1:=x1.extBut _ _ IS.symm S0;have k1:∀b o,s.heap.get? b=some o->g.get? b=some o:=λb o e=>x1.extBut b o (λz=>by rw[z,nI]at e;cases e) (k0 b o e)
   show wpAny _ A.in1 (updateSeq g1.objs.size (λ_=>#[its[0],its[0]]) >>= _) _ _ _;refine acL (wpAny_updateSeq (s:={s with heap:=g}) S1 rfl ?_)
   rw[nm];refine acP ⟨plainId_quiet ael _,Fv hh hc hl IS nI nS _ _ 0 _ its[0] _ rfl (Nat.pos_of_ne_zero hz) ?_ hx (Heap.get?_update_self _ S1 rfl) (λb o e=>(adG _ _ (λz=>by rw[<- z,nS]at e;cases e)).trans (k1 b o e)) λv g' tk hv k'=>q1 v g' tk hv k'⟩
   obtain⟨o,e,r⟩:=I1;exact⟨o,(adG _ _ (aec IS)).trans e,r⟩
 simp only[checkBuiltinCall,F.kind_min];cases Qs:Manifest.signature? "min" with
 | none=>exact acP run
 | some sig =>
  have ha:argsOk "min" ⟨[.ref l],[(adC "default",dv)]⟩:=xI _ _;have ha':Bind.checkArgs "min" sig ⟨[.ref l],[(adC "default",dv)]⟩=pure ():=by simpa only[argsOk,Qs]using ha
  simp only[ha'];exact acP run
end
end Vc
namespace Vc
open PySem L2
variable [KF]
variable {G:GE}{k:Nat}{S:Stat}
def isInt:D->Bool
 | .int _=>true
 | _=>false
def lE:D->Int
 | .int i=>i
 | _=>0
theorem aE.ints{F:Hp}:∀ {vs:List V} {xs:List D},aE F vs xs->xs.all isInt=true->vs=(xs.map lE).map V.int
 | _,_,.nil,_=>rfl
 | _,_,.cons (d:=d) r t,h=>by
  rw[aeC,adn]at h;cases d with
  | int i =>
   cases r;rw[aE.ints t h.2];rfl
  | _=>exact absurd h.1 (by simp [isInt])
theorem CP{X:Cx}(hc:X.calm=true):cU X (.builtin "sum") (λxs H Q=>∃(a:Addr) (ns:List Int),xs=[.ref a]/\gp X.K H a (ns.map V.int)/\Q (.int ns.sum) H):=by
 intro pins s σ H xs us Q I r h;obtain⟨a,ns,rfl,hq,q⟩:=h;obtain⟨u,rfl,ru⟩:=vals1 r;cases ru;obtain⟨its,rv,p,_⟩:=I.list hq;obtain⟨m,F⟩:=I.fr;have hi:=L2.intsAre_of rv;obtain⟨ys,e⟩:=(hi.allInts).items;have pl:=p.isList;rw[e]at pl;refine sum_intListG (I.ok.hd hc) pl λg tk t' kp=>⟨.int ns.sum,H,I.kept kp,⟨t',?_⟩,q⟩;have e1:preSum (numAt ys) ys.size=(PySem.numsOf its.toArray.toList).sum:=by
  rw[e,nums_intItems,preSum_eq,List.take_of_length_le (by simp)]
 rw[e1,show its.toArray.toList=its from rfl,hi.numsOf]
def sumF:List D->(EV->Prop)->Prop
 | [.lst xs],Q=>xs.all isInt=true/\Q (.val (.int (xs.map lE).sum))
 | _,_=>False
theorem LZ(hh:S.jh=false:=by rfl):yZ G k S (.builtin "sum") sumF:=⟨λK xs H Q=>∃(a:Addr) (ns:List Int),xs=[V.ref a]/\gp K H a (ns.map V.int)/\Q (.int ns.sum) H,λ_ _ ok=>CP (ok.calm hh),λY F H ai σ vs ds Qd Q R r q g=>by
 unfold sumF at q
 split at q
 ·obtain⟨v,rfl,rv⟩:=r.one
  obtain⟨p,us,rfl,h1,h2⟩:=rv.lst;refine⟨p,_,rfl,?_,g.val R (.int _) q.2⟩;rw[<- h2.ints q.1];exact .inl h1
 ·exact q.elim⟩
def VU:D->Option String
 | .aQ=>some "NoneType"
 | .bl _=>some "bool"
 | .int _=>some "int"
 | .str _=>some "str"
 | .lst _=>some "list"
 | .tup _=>some "tuple"
 | _=>none
def eO(T U:String):Bool:=T==U||(T=="bool"&&U=="int")
def d5(U:String):Prop:=∀K:acT,PySem.W.kitOne K (.type "NoneType") (.type U)=some (eO "NoneType" U)/\PySem.W.kitOne K (.type "bool") (.type U)=some (eO "bool" U)/\PySem.W.kitOne K (.type "int") (.type U)=some (eO "int" U) /\
 PySem.W.kitOne K (.type "str") (.type U)=some (eO "str" U)/\PySem.W.kitOne K (.type "list") (.type U)=some (eO "list" U)/\PySem.W.kitOne K (.type "tuple") (.type U)=some (eO "tuple" U)
theorem Js:d5 "int":=λK=>⟨by rfl,by rfl,by rfl,by rfl,by rfl,by rfl⟩
theorem vQ:d5 "bool":=λK=>⟨by rfl,by rfl,by rfl,by rfl,by rfl,by rfl⟩
theorem vR:d5 "list":=λK=>⟨by rfl,by rfl,by rfl,by rfl,by rfl,by rfl⟩
theorem kit_tuple:d5 "tuple":=λK=>⟨by rfl,by rfl,by rfl,by rfl,by rfl,by rfl⟩
theorem d5.of{U:String}(h:d5 U)(K:acT){d:D}{T:String}(e:VU d=some T):PySem.W.kitOne K (.type T) (.type U)=some (eO T U):=by
 obtain⟨h1,h2,h3,h4,h5,h6⟩:=h K;cases d<;>cases e<;>assumption
theorem bW.ty{F H:Hp}{v:V}{d:D}{T:String}(r:bW F H v d)(s:aq F H)(K:acT)(e:VU d=some T):jv K H v (.type T):=by
 cases d with
 | aQ=>cases e;obtain rfl:=r.aQ;exact .aQ
 | bl b=>cases e;obtain rfl:=r.bl;exact .bl b
 | int i=>cases e;obtain rfl:=r.int;exact .int i
 | str x=>cases e;obtain rfl:=r.str;exact .str x
 | lst xs =>
  cases e;obtain⟨a,vs,rfl,h,_⟩:=r.lst;rcases h with h|⟨o,h⟩
  ·exact .lst h
  ·exact .qv h
 | tup xs=>cases e;obtain⟨a,vs,rfl,h,_⟩:=r.tup s;exact .tup h
 | dct _=>cases e
 | exc _=>cases e
 | jn _=>cases e
 | dB _=>cases e
 | kp _ _ _ _=>cases e
theorem Jr{X:Cx}{pins:List (Addr×Obj)}{σ:St}{H:Hp}{s:Shared}{x:V}{u:Value}{T:String}(I:L2.Inv X pins σ H s)(rx:RelV x u)(ty:jv X.K H x (.type T))(cz:T≠"dict"):
  ∃Hp':Heap->Prop,PySem.W.KitX X.K u (.type T) Hp'/\Hp' s.heap/\u≠.builtin "__main__.__loader__#opaque":=by
 cases ty with
 | aQ=>cases(show u=Value.none from rx);exact⟨_,PySem.W.kitx_none,aeq,λz=>nomatch z⟩
 | bl y=>cases(show u=Value.bool y from rx);exact⟨_,PySem.W.kitx_bool,aeq,λz=>nomatch z⟩
 | int i=>obtain⟨t,q⟩:=(show∃t,u=Value.int i t from rx);cases q;exact⟨_,PySem.W.kitx_int,aeq,λz=>nomatch z⟩
 | str y=>obtain⟨t,q⟩:=(show∃t,u=Value.str y t from rx);cases q;exact⟨_,PySem.W.kitx_str,aeq,λz=>nomatch z⟩
 | L0 y=>obtain⟨t,q⟩:=(show∃t,u=Value.float y t from rx);cases q;exact⟨_,PySem.W.kitx_float,aeq,λz=>nomatch z⟩
 | @lst a xs ea =>
  cases(show u=adw a from rx)
  obtain⟨_,_,n,_,h1⟩:=(show bU X.prog X.w H s.heap a (.lst xs)from I.bI a _ ea)
  exact⟨_,PySem.W.kitx_list,⟨_,h1,rfl⟩,λz=>nomatch z⟩
 | @qv a ob xs ea =>
  cases(show u=adw a from rx)
  obtain⟨_,_,_,n,_,h1⟩:=(show bU X.prog X.w H s.heap a (.qv ob (.lst xs))from I.bI a _ ea)
  exact⟨_,PySem.W.kitx_list,⟨_,h1,rfl⟩,λz=>nomatch z⟩
 | @tup a xs ea =>
  cases(show u=adw a from rx)
  obtain⟨_,_,_,p⟩:=(show bU X.prog X.w H s.heap a (.tup xs)from I.bI a _ ea)
  obtain⟨o,h1,h2,_⟩:=p;exact⟨_,PySem.W.kitx_tuple,⟨o,h1,h2⟩,λz=>nomatch z⟩
 | dK _=>exact absurd rfl cz
 | dT _=>exact absurd rfl cz
theorem VW{d:D}{T:String}(e:VU d=some T):T≠"dict":=by cases d<;>cases e<;>decide
def Ji(Us:List String)(d:D)(Q:Bool->Prop):Prop:=match VU d with
 | some T=>Q (Us.any (eO T))
 | none=>False
def pN(Us:List String)(t:TV):TB:=λσ Q=>t σ λx aw=>match cW aw x with
 | some d=>Ji Us d λb=>Q b aw
 | none=>False
theorem oM{e:Expr}{t:TV}{u:Str}{U:String}{p p2 pos:Pos}(h:EO G k S e t)(kf:d5 U)(hm:G.mg "isinstance"=none)(lC:G.mg u=none)(hv2:bootBuiltins u=some (.type U))(E5:u≠"__name__":=by decide)(hd2:(u==("__debug__":Str))=false:=by decide)
  (hg:S.sc.lookup ("isinstance":Str)=some .globalImplicit:=by rfl) (YL:S.sc.lookup u=some .globalImplicit:=by rfl)
  (he:∀env,acW [e,.Name u p2] env=(false,eval e env)::acW [.Name u p2] env:=by intro _;rfl):EO G k S (.Call (.Name "isinstance" p) [e,.Name u p2] [] pos) (bV (pN [U] t)):=.mk λX Y ok=>by
 have ha:PA X [e,.Name u p2] (d3 (lO Y t) (d3 (tC (.ty U)) kU)):=b5 (h X Y ok) (b5 (sD (du ok YL) (by rw[ok.mg];exact lC) hv2 (show RelV (.ty U) (.type U)from rfl) E5 hd2) dW rfl) (he _)
 have hc:cU X (.builtin "isinstance") (λvs H Q=>∃F x d T,vs=[x,.ty U]/\aq F H/\bW F H x d/\VU d=some T/\Q (.bl (eO T U)) H):=by
  intro pins s σ H xs us Q I r q;obtain⟨F,x,d,T,rfl,sm,rx,et,q⟩:=q;obtain⟨a,b,rfl,ra,rb⟩:=vals2 r;cases rb;exact A6 I ra (rx.ty sm X.K et) (kf.of X.K et) λtk=>⟨.bl _,H,I.tok tk,rfl,q⟩
 refine aO (oG hc (du ok hg) (by rw[ok.mg];exact hm) (by decide +kernel) ha ∅ ∅ (he _) rfl) λσ H Q q=>?_
 obtain⟨F,ai,Qd,R,q,K⟩:=q;refine⟨F,ai,_,R,q,λv1 H1 F1 x aw s1 R1 r1 q1=>?_⟩
 split at q1
 ·rename_i d ed
  unfold Ji at q1
  split at q1
  ·rename_i T eT
   refine⟨F1,v1,d,T,rfl,R1.fr,R1.cW r1 ed,eT,?_⟩;have e1:([U].any (eO T))=eO T U:=by simp
   rw[e1]at q1;exact K _ H1 F1 (.val (.bl (eO T U))) aw s1 R1 (.bl _) q1
  ·exact q1.elim
 ·exact q1.elim
theorem Gk{e:Expr}{t:TV}{u w:Str}{U W:String}{p p2 p3 p4 pos:Pos}{kk:Nat}(h:EO G k S e t)(kf:d5 U)(kg:d5 W)(hm:G.mg "isinstance"=none)(lC:G.mg u=none)(hm3:G.mg w=none)(hv2:bootBuiltins u=some (.type U))(hv3:bootBuiltins w=some (.type W))(E5:u≠"__name__":=by decide)(hd2:(u==("__debug__":Str))=false:=by decide)(YY:w≠"__name__":=by decide)(hd3:(w==("__debug__":Str))=false:=by decide)
  (hg:S.sc.lookup ("isinstance":Str)=some .globalImplicit:=by rfl) (YL:S.sc.lookup u=some .globalImplicit:=by rfl) (hg3:S.sc.lookup w=some .globalImplicit:=by rfl)
  (he:∀env,acW [e,.Tuple [.Name u p2,.Name w p3] kk p4] env=(false,eval e env)::acW [.Tuple [.Name u p2,.Name w p3] kk p4] env:=by intro _;rfl):EO G k S (.Call (.Name "isinstance" p) [e,.Tuple [.Name u p2,.Name w p3] kk p4] [] pos) (bV (pN [U,W] t)):=.mk λX Y ok=>by
 have hT:PE X (.Tuple [.Name u p2,.Name w p3] kk p4) (VE (d3 (tC (.ty U)) (d3 (tC (.ty W)) kU))):=FQ (b5 (sD (du ok YL) (by rw[ok.mg];exact lC) hv2 (show RelV (.ty U) (.type U)from rfl) E5 hd2) (b5 (sD (du ok hg3) (by rw[ok.mg];exact hm3) hv3 (show RelV (.ty W) (.type W)from rfl) YY hd3) dW rfl) rfl)
 have ha:PA X [e,.Tuple [.Name u p2,.Name w p3] kk p4] (d3 (lO Y t) (d3 (VE (d3 (tC (.ty U)) (d3 (tC (.ty W)) kU))) kU)):=b5 (h X Y ok) (b5 hT dW rfl) (he _);have hc:cU X (.builtin "isinstance") (λvs H Q=>∃F x d T c,vs=[x,.ref c]/\H c=some (.tup [.ty U,.ty W])/\aq F H/\bW F H x d/\VU d=some T/\Q (.bl (eO T U||eO T W)) H):=by
  intro pins s σ H xs us Q I r q;obtain⟨F,x,d,T,c,rfl,hcc,sm,rx,et,q⟩:=q;obtain⟨a,b,rfl,ra,rb⟩:=vals2 r;cases rb;obtain⟨_,its,rv,o,ho,hcl,n,hd⟩:=I.bI c _ hcc;obtain⟨z1,z2,rfl,w1,w2⟩:=vals2 rv;cases w1;cases w2;obtain⟨oc,od,odt,JP⟩:=o;simp only at hcl hd;subst hcl hd;obtain⟨Hp',kx,Fb,nb⟩:=Jr I ra (rx.ty sm X.K et) (VW et);refine PySem.W.kia_tup (b:=eO T U||eO T W) kx I.mH Fb ho ?_ nb λtk=>⟨.bl _,H,I.tok tk,rfl,q⟩
  unfold PySem.W.kitAny;rw[kf.of X.K et];cases eO T U with
  | true=>rfl
  | false =>
   show PySem.W.kitAny X.K (.type T) [.type W]=_;unfold PySem.W.kitAny;rw[kg.of X.K et];cases eO T W with
   | true=>rfl
   | false=>rfl
 refine aO (oG hc (du ok hg) (by rw[ok.mg];exact hm) (by decide +kernel) ha ∅ ∅ (he _) rfl) λσ H Q q=>?_
 obtain⟨F,ai,Qd,R,q,K⟩:=q;refine⟨F,ai,_,R,q,λv1 H1 F1 x aw s1 R1 r1 q1=>⟨by show 2<=acZ;decide,λc hc=>?_⟩⟩
 split at q1
 ·rename_i d ed
  unfold Ji at q1
  split at q1
  ·rename_i T eT
   have R2:=R1.nH (o:=.tup [.ty U,.ty W]) hc;refine⟨F1,v1,d,T,c,rfl,ay,R2.fr,R2.cW r1 ed,eT,?_⟩;have e1:([U,W].any (eO T))=(eO T U||eO T W):=by simp
   rw[e1]at q1;exact K _ _ F1 (.val (.bl _)) aw s1 R2 (.bl _) q1
  ·exact q1.elim
 ·exact q1.elim
end Vc
namespace Vc
open PySem L2
variable [KF]
variable {G:GE}{k:Nat}{S:Stat}
def gQ:D->Bool
 | .tup xs=>xs.all isInt
 | _=>false
def ltI:D->D->Bool
 | .int i,.int j=>decide (i<j)
 | .tup xs,.tup ys=>HT.lexLt (xs.map lE) (ys.map lE)
 | _,_=>false
def dr:List D->Option D
 | []=>none
 | x::xs=>some (xs.foldl (λb y=>if ltI y b=true then y else b) x)
def pZ(xs:List D)(i j:Nat):Bool:=ltI (xs.getD i .aQ) (xs.getD j .aQ)
theorem nK(xs:List D)(x:D):∀n,n<(x::xs).length->(x::xs).getD (cF (pZ (x::xs)) n) .aQ=(xs.take n).foldl (λb y=>if ltI y b=true then y else b) x
 | 0,_=>rfl
 | n+1,h=>by
  have ih:=nK xs x n (by simp at h ⊢;omega)
  have hl:n<xs.length:=by simpa using h
  have gx:(x::xs).getD (n+1) .aQ=xs[n]:=by
   rw[ade,adM,acN hl];rfl
  rw[List.take_add_one,acN hl,Option.toList_some,List.foldl_append,List.foldl_cons,List.foldl_nil,<- ih];have e:pZ (x::xs) (n+1) (cF (pZ (x::xs)) n)=ltI xs[n] ((x::xs).getD (cF (pZ (x::xs)) n) .aQ):=by
   unfold pZ;rw[gx]
  show(x::xs).getD (if pZ (x::xs) (n+1) (cF (pZ (x::xs)) n)=true then n+1 else cF (pZ (x::xs)) n) .aQ=_
  rw[e]
  split
  ·exact gx
  ·rfl
theorem m9{xs:List D}(h:xs≠[]):dr xs=some (xs.getD (cF (pZ xs) (xs.length-1)) .aQ):=by
 cases xs with
 | nil=>exact absurd rfl h
 | cons x xs =>
  have:=nK xs x xs.length (by simp)
  have e:(x::xs).length-1=xs.length:=by simp
  rw[e,this,List.take_length];rfl
theorem Dq{X:Cx}{pins:List (Addr×Obj)}{σ:St}{H F:Hp}{s:Shared}(I:L2.Inv X pins σ H s)(sm:aq F H)(hu:X.A.in1.units<cLine){vs:List V}{xs:List D}{its:List Value}(rl:aE F vs xs)(rv:Vals vs its)(hc:xs.all isInt=true\/xs.all gQ=true):
  y9 X.prog X.w X.A.in1 .Lt s.heap its.toArray (pZ xs):=by
 intro i j x y s' Q E ex ey kp q;have mD:its[i]?=some x:=by simpa using ex
 have ey':its[j]?=some y:=by simpa using ey
 have back:∀ {n z},its[n]?=some z->∃v d,vs[n]?=some v/\xs[n]?=some d/\RelV v z/\Rep F v d:=λ{n z} e=>by
  have hl:n<vs.length:=by rw[rv.length];exact(acR.mp e).1
  have ev:vs[n]?=some vs[n]:=acN hl;obtain⟨d,e1,e2⟩:=rl.get' ev;obtain⟨u,e3,e4⟩:=rv.get ev;rw[e]at e3;cases e3;exact⟨_,d,ev,e1,e4,e2⟩
 obtain⟨v,d,_,hd,r1,p1⟩:=back mD;obtain⟨u,e,_,he,r2,p2⟩:=back ey';have bt:pZ xs i j=ltI d e:=by
  unfold pZ;rw[ade,ade,hd,he];rfl
 rw[bt]at q;have md:d∈xs:=ady hd;have me:e∈xs:=ady he;show wpAny _ _ (aek .Lt x y) _ _ _;rcases hc with hc|hc
 ·have h1:=ac4.mp hc d md
  have h2:=ac4.mp hc e me;cases d with
  | int a =>
   cases e with
   | int b =>
    cases p1;cases p2;obtain⟨t,rfl⟩:=r1;obtain⟨t',rfl⟩:=r2;exact PyProof.Rows.lt_int q
   | _=>exact absurd h2 (by simp [isInt])
  | _=>exact absurd h1 (by simp [isInt])
 ·have h1:=ac4.mp hc d md
  have h2:=ac4.mp hc e me;cases d with
  | tup as =>
   cases e with
   | tup bs =>
    cases p1 with
    | tup hf rf =>
     cases p2 with
     | tup hg rg =>
      cases r1;cases r2;rename_i va vas vb vbs;obtain⟨_,ia,wa,oa,ga,ca⟩:=I.bI _ _ (sm _ _ hf);obtain⟨_,ib,wb,ob,gb,cb⟩:=I.bI _ _ (sm _ _ hg);rw[rf.ints h1]at wa;rw[rg.ints h2]at wb;exact HT.yf ⟨oa,kp _ _ ga,ca⟩ ⟨ob,kp _ _ gb,cb⟩ (L2.intsAre_of wa) (L2.intsAre_of wb) hu q
   | _=>exact absurd h2 (by simp [gQ])
  | _=>exact absurd h1 (by simp [gQ])
def Ky(t:TV)(td:TD):TV:=λσ Q=>t σ λx aw=>td aw λdv aM=>match cW aM x with
 | some (.lst xs)=>(xs.all isInt=true\/xs.all gQ=true)/\Q (.val ((dr xs).getD dv)) aM
 | _=>False
theorem Mv{e d:Expr}{t:TV}{td:TD}{p kp pos:Pos}(h:EO G k S e t)(hd:ED G k S d td)(hm:G.mg "min"=none)(hg:S.sc.lookup ("min":Str)=some .globalImplicit:=by rfl)
  (he:∀env,acW [e] env=[(false,eval e env)]:=by intro _;rfl) (hh:S.jh=false:=by rfl):EO G k S (.Call (.Name "min" p) [e] [⟨some "default",d,kp⟩] pos) (Ky t td):=.mk λX Y ok=>by
 intro pins s σ H Q I q;obtain⟨F,ai,Qd,R,q,K⟩:=q;refine wpAny_Call_Name_kw (jj (u:=.builtin "min") I (du ok hg) (by rw[ok.mg];exact hm) (by decide +kernel) ?_ ∅ ∅)
 have ha:PA X [e] (d3 (lO Y t) kU):=b5 (h X Y ok) dW (by rw[he];rfl)
 have hk:PK X [⟨some "default",d,kp⟩] (d3 (lD Y td) kU):=J5 (hd X Y ok) Tz;have hA:=ha pos pins s σ H (λvs H1=>∃v1 F1 x aw,vs=[v1]/\aq F F1/\RS Y F1 aw σ H1/\xF F1 σ v1 x/\td aw (λdv aM=>match cW aM x with
   | some (.lst xs)=>(xs.all isInt=true\/xs.all gQ=true)/\Qd (.val ((dr xs).getD dv)) aM
   | _=>False)) I ⟨F,ai,_,R,q,λv1 H1 F1 x aw s1 R1 r1 q1=>⟨v1,F1,x,aw,rfl,s1,R1,r1,q1⟩⟩
 refine PyProof.Rows.callWith_kw (env:=X.env) (cB hA λus s1 h1=>?_) (by rw[he];rfl) (by rw[he];rfl) rfl rfl
 obtain⟨vs,H1,I1,rvs,v1,F1,x,aw,rfl,sm1,R1,r1,q1⟩:=h1;obtain⟨u1,rfl,ru1⟩:=vals1 rvs;refine cB (hk pos pins s1 σ H1 (λvs H2=>∃v2 F2 dv aM,vs=[v2]/\aq F1 F2/\RS Y F2 aM σ H2/\Rep F2 v2 dv/\(match cW aM x with
   | some (.lst xs)=>(xs.all isInt=true\/xs.all gQ=true)/\Qd (.val ((dr xs).getD dv)) aM
   | _=>False)) I1 ⟨F1,aw,_,R1,q1,λv2 H2 F2 dv aM s2 R2 r2 q2=>⟨v2,F2,dv,aM,rfl,s2,R2,r2,q2⟩⟩) λws s2 h2=>?_
 obtain⟨vs2,H2,I2,acq,v2,F2,dv,aM,rfl,sm2,R2,r2,q2⟩:=h2;obtain⟨u2,rfl,ru2⟩:=vals1 acq
 split at q2
 ·rename_i xs ex
  obtain⟨hc,q2⟩:=q2;obtain⟨a,vs,rfl,hrd,rl⟩:=(R2.cW (r1.mono sm2) ex).lst;cases ru1;obtain⟨its,rv,pl,_⟩:=I2.list (show gp X.K H2 a vs from .inl hrd)
  have hu:X.A.in1.units<cLine:=by
   have:=ok.units;show X.A.units+1<cLine;omega
  have Wc:=Dq I2 R2.fr hu rl rv hc;have len:its.toArray.size=xs.length:=by rw[ac5,<- rv.length,rl.length]
  refine vY (I2.ok.hd (ok.calm hh)) Wc pl.isList (λhz g tk kp=>?_) λz g tk hz kp=>?_
  ·have:xs=[]:=List.length_eq_zero_iff.mp (by rw[<- len];exact hz)
   subst this;exact⟨v2,H2,I2.kept kp,ru2,K v2 H2 F2 (.val dv) aM (sm1.trans sm2) R2 r2 q2⟩
  ·have Qt:its[cF (pZ xs) (xs.length-1)]?=some z:=by rw[len]at hz;simpa using hz
   have cz:xs≠[]:=λe=>by
    subst e;have:its=[]:=List.length_eq_zero_iff.mp (by rw[<- rv.length,rl.length];rfl)
    rw[this]at Qt;simp at Qt
   have hl:cF (pZ xs) (xs.length-1)<vs.length:=by rw[rv.length];exact(acR.mp Qt).1
   have ev:vs[cF (pZ xs) (xs.length-1)]?=some vs[cF (pZ xs) (xs.length-1)]:=acN hl;obtain⟨dd,e1,e2⟩:=rl.get' ev;obtain⟨zz,e3,e4⟩:=rv.get ev;rw[Qt]at e3;cases e3;have eb:dr xs=some dd:=by rw[m9 cz,ade,e1];rfl
   rw[eb]at q2;exact⟨_,H2,I2.kept kp,e4,K _ H2 F2 (.val dd) aM (sm1.trans sm2) R2 e2 q2⟩
 ·exact q2.elim
end Vc
namespace Vc
open PySem L2
variable [KF]
variable {G:GE}{k:Nat}{S:Stat}
def sJ:D->Bool
 | .aQ=>true
 | .bl _=>true
 | .int _=>true
 | .str _=>true
 | _=>false
theorem Rep.plain{F F':Hp}{v:V}{d:D}(r:Rep F v d)(h:sJ d=true):Rep F' v d:=by
 cases r with
 | aQ=>exact .aQ
 | bl b=>exact .bl b
 | int i=>exact .int i
 | str x=>exact .str x
 | _=>cases h
theorem vG{F H:Hp}(s:aq F H){v:V}{d:D}(r:bW F H v d):∃F',aq F F'/\aq F' H/\Rep F' v d:=by
 cases d with
 | lst xs =>
  obtain⟨a,vs,rfl,h,r⟩:=r;have key:∀o,H a=some o->∃F',aq F F'/\aq F' H/\F' a=some o:=λo e=>by
   cases ef:F a with
   | none =>
    refine⟨upd F a o,aJ ef,λb u q=>?_,ay⟩
    by_cases hb:b=a
    ·subst hb;rw[ay]at q;cases q;exact e
    ·rw[au hb]at q;exact s b u q
   | some u =>
    have:=s a u ef;rw[e]at this;cases this;exact⟨F,aq.refl _,s,ef⟩
  rcases h with h|⟨o,h⟩
  ·obtain⟨F',s1,s2,e⟩:=key _ h
   exact⟨F',s1,s2,.lst (.inl e) (r.mono s1)⟩
  ·obtain⟨F',s1,s2,e⟩:=key _ h
   exact⟨F',s1,s2,.lst (.inr ⟨o,e⟩) (r.mono s1)⟩
 | dB kvs =>
  obtain⟨a,ks,rfl,h,r⟩:=r;obtain⟨F',s1,s2,e,_⟩:=dC s h;exact⟨F',s1,s2,.dB e (r.mono s1)⟩
 | kp w c e kvs =>
  obtain⟨a,dx,ad,ks,rfl,h1,h2,r⟩:=r;obtain⟨F1,s1,s2,e1,_⟩:=dC s h1;obtain⟨F2,s3,s4,e2,_⟩:=dC s2 h2;exact⟨F2,s1.trans s3,s4,.kp (s3 _ _ e1) e2 (r.mono (s1.trans s3))⟩
 | _=>exact⟨F,aq.refl _,s,r⟩
theorem bW.mono{F F' H:Hp}(s:aq F F'){v:V}{d:D}(r:bW F H v d):bW F' H v d:=by
 cases d with
 | lst xs =>
  obtain⟨a,vs,rfl,h,r⟩:=r;exact⟨a,vs,rfl,h,r.mono s⟩
 | dB kvs =>
  obtain⟨a,ks,e,h,r⟩:=r;exact⟨a,ks,e,h,r.mono s⟩
 | kp w c e kvs =>
  obtain⟨a,dx,ad,ks,e,h1,h2,r⟩:=r;exact⟨a,dx,ad,ks,e,h1,h2,r.mono s⟩
 | _=>exact Rep.mono s r
theorem nU{F H:Hp}(s:aq F H):∀ {vs:List V} {ds:List D},iV F H vs ds->∃F',aq F F'/\aq F' H/\aE F' vs ds
 | _,_,.nil=>⟨F,aq.refl _,s,.nil⟩
 | _,_,.cons h r=>by
  obtain⟨F1,s1,s2,q⟩:=nU s r;obtain⟨F2,s3,s4,p⟩:=vG s2 (h.mono s1);exact⟨F2,s1.trans s3,s4,.cons p (q.mono s3)⟩
def tCb(sp:bw)(t:xn):TX:=λσ Q=>t σ λxs aw=>match je aw xs with
 | some ds=>Cl sp ds λb=>match b with
  | .sh d=>sJ d=true/\Q (.val d) aw
  | .own _=>False
  | .obj _=>False
 | none=>False
theorem Kg{x:Str}{sp:bw}{e:Expr}{es:List Expr}{t:xn}{p pos:Pos}(h:c9 G k x sp)(ha:HC G k S (e::es) t)(hg:S.sc.lookup x=some .globalImplicit:=by rfl)(jE:(x==("__debug__":Str))=false:=by decide)
  (he:∀env,acW (e::es) env=(false,eval e env)::acW es env:=by exactλ_=>Vc.cN rfl) (dJ:∀env,(backTo pos (acW es env)).any (·.1)=false:=by intro _;rfl) (hh:S.jh=false:=by rfl):EX G k S (.Call (.Name x p) (e::es) [] pos) (tCb sp t):=.mk λX Y ok=>by
 obtain⟨f,fd,ps,h1,h2,h3,h4⟩:=h;have rY:cf X.prog X.w X.K X.mg X.base ig k f fd ps (yF sp):=by rw[ok.P,ok.w,ok.K,ok.mg,ok.base];exact h1
 refine aO (jP (E:=E0) (dvs:=[]) (ds:=[]) rY (ok.room hh) (du ok hg) (by rw[ok.mg];exact h2) (by rw[ok.K];exact h3) (by rw[ok.K];exact h4) .nil i7 (ha X Y ok) jE (he _) (dJ _)) λσ H Q q=>?_
 obtain⟨F,ai,Qd,R,q,K⟩:=q;refine⟨F,ai,_,R,q,λvs H1 F1 xs aw s1 R1 r1 q1=>?_⟩;show yF sp (vs++[]) H1 Q E0;rw[adH]
 split at q1
 ·rename_i ds ed
  obtain⟨F2,s2,s3,r2⟩:=nU R1.fr (R1.je r1 ed);refine⟨F2,ds,_,⟨s3,R1.ob.tab.mono s2⟩,r2,q1,λv H' F' b w1 w2 w3 fr r3 q2=>?_⟩;cases b with
  | own ys=>exact q2.elim
  | obj o=>exact q2.elim
  | sh d =>
   have r3:Rep F' v d:=r3;have q2:sJ d=true/\Qd (.val d) aw:=q2;exact K v H' F1 (.val d) aw s1 (R1.call (aq.refl _) ((s2.trans w1).trans w2) w3 λc o z=>.inl z) (r3.plain q2.1) q2.2
 ·exact q1.elim
theorem Ei{g:mx}{tb:b7}{De:iT}{items:List D}(I:Nat->Sd->Prop)
  (Fd:∀i x σ (N:Sd->Prop),items[i]?=some x->I i σ->(∀b8,I (i+1) b8->N b8)->g x σ λaw=>tb {nx:=N,rt:=De.rt,bk:=De.nx,ct:=N} aw)
  (se:∀σ,I items.length σ->De.nx σ) {σ:Sd} (h0:I 0 σ):vD g tb De items σ:=by
 have key:∀(xs:List D) (i:Nat) (σ:Sd),items.drop i=xs->i<=items.length->I i σ->vD g tb De xs σ:=by
  intro xs
  induction xs with
  | nil =>
   intro i σ e l h;have:items.length<=i:=List.drop_eq_nil_iff.mp e;exact se σ ((Nat.le_antisymm l this) ▸ h)
  | cons x r ih =>
   intro i σ e l h;have hx:items[i]?=some x:=by
    have:=congrArg (·[0]?) e
    simpa using this
   have hr:items.drop (i+1)=r:=by rw[<- List.drop_drop,e];rfl
   have hl:i<items.length:=(acR.mp hx).1;exact Fd i x σ _ hx h λb8 h'=>ih (i+1) b8 hr hl h'
 exact key items 0 σ rfl (adz _) h0
theorem eu{α:Type}{g:mx}{tc:TB}{te:TD}{σ0:Sd}{Q:List D->Prop}(gi:α->D)(f:α->Option D)(l:List α)
  (h:∀a∈l,∀(A:D->Prop) (Bn:Prop),(match f a with|some d=>A d|none=>Bn)->g (gi a) σ0 λaw=>tc aw λb aM=>if b=true then te aM λd fq=>lK σ0 fq/\A d else lK σ0 aM/\Bn)
  (hl:l.length<=acZ) (q:Q (l.filterMap f)):gN g tc te σ0 (l.map gi) [] Q:=by
 have key:∀(l:List α) (acc:List D),(∀a∈l,∀(A:D->Prop) (Bn:Prop),(match f a with|some d=>A d|none=>Bn)->g (gi a) σ0 λaw=>tc aw λb aM=>if b=true then te aM λd fq=>lK σ0 fq/\A d else lK σ0 aM/\Bn) ->
   acc.length+l.length<=acZ->Q (acc++l.filterMap f)->gN g tc te σ0 (l.map gi) acc Q:=by
  intro l
  induction l with
  | nil=>intro acc _ _ q;simpa [gN]using q
  | cons a l ih =>
   intro acc h hl q;rw[adi]at hl;rw[adh];refine h a (acX ..) (λd=>acc.length<acZ/\gN g tc te σ0 (l.map gi) (acc++[d]) Q) (gN g tc te σ0 (l.map gi) acc Q) ?_;have hr:=λy hy=>h y (acQ _ hy);cases e:f a with
   | some d =>
    refine⟨by omega,ih _ hr (by rw[adt,aeu];omega) ?_⟩
    rw[List.filterMap_cons_some e]at q
    rwa [adA]
   | none =>
    refine ih acc hr ⋯ ?_
    rwa [List.filterMap_cons_none e]at q
 exact key l [] h (by simpa using hl) q
theorem d8{α:Type}{g:mx}{te:TD}{σ0:Sd}{Q:List D->Prop}(gi f:α->D)(l:List α)
  (h:∀a∈l,∀(A:D->Prop),A (f a)->g (gi a) σ0 λaw=>te aw λd fq=>lK σ0 fq/\A d)
  (hl:l.length<=acZ) (q:Q (l.map f)):gN g d4 te σ0 (l.map gi) [] Q:=
 eu gi (λx=>some (f x)) l (λx hx A Bn ha=>h x hx A ha) hl (by simpa using q)
theorem fS{α:Type}{g:mx}{tb:b7}{De:iT}(gi:α->D)(l:List α)(I:Nat->Sd->Prop)
  (Fd:∀i a σ (N:Sd->Prop),l[i]?=some a->I i σ->(∀b8,I (i+1) b8->N b8)->g (gi a) σ λaw=>tb {nx:=N,rt:=De.rt,bk:=De.nx,ct:=N} aw)
  (se:∀σ,I l.length σ->De.nx σ) {σ:Sd} (h0:I 0 σ):vD g tb De (l.map gi) σ:=by
 refine Ei I (λi x σ N hx hI hN=>?_) (λσ h=>se σ (by rwa [acO]at h)) h0
 rw[ac0]at hx;cases e:l[i]? with
 | none=>rw[e]at hx;cases hx
 | some a=>rw[e]at hx;cases hx;exact Fd i a σ N e hI hN
theorem dS(lo:Int)(n:Nat):BD lo n=(adK n).map λi=>.int (lo+(i:Nat)):=rfl
theorem xl{α β:Type}(f:α->D)(g:β->D)(xs:List α)(ys:List β):xk (xs.map f) (ys.map g)=(xs.zip ys).map λp=>.tup [f p.1,g p.2]:=by
 unfold xk;rw[List.zip_map,adN];rfl
theorem zi{α:Type}{xs:List α}{n:Nat}{d:α}(h:xs[n]?=some d):L2.mZ xs (n:Int)=some d:=by
 have hn:=(acR.mp h).1;unfold L2.mZ L2.zR;rw[if_pos (Int.natCast_nonneg n),if_pos ⋯]
 show xs[(n:Int).toNat]?=some d;rw[adE];exact h
theorem bo{xs:List D}{n:Nat}{i:Int}{d:D}{Q:D->Prop}(e:i=(n:Int))(h:xs[n]?=some d)(q:Q d):Mi (.lst xs) (.int i) Q:=by
 subst e;show(match L2.mZ xs (n:Int)with|some d=>Q d|none=>False)
 rw[zi h];exact q
theorem dD{xs:List D}{n:Nat}{i:Int}{d:D}{Q:D->Prop}(e:i=(n:Int))(h:xs[n]?=some d)(q:Q d):Mi (.tup xs) (.int i) Q:=by
 subst e;show(match L2.mZ xs (n:Int)with|some d=>Q d|none=>False)
 rw[zi h];exact q
theorem fV{xs:List D}{i:Int}{Q:D->Prop}(h0:0<=i)(h1:i<xs.length)(h:∀d∈xs,Q d):Mi (.lst xs) (.int i) Q:=by
 have hn:i.toNat<xs.length:=by omega
 exact bo (n:=i.toNat) ⋯ (acN hn) (h _ (ad5 hn))
structure cV(G:GE)(x:Str)(st:Stmt)(ps:List Str)(f:Addr)(fd:adf):Prop where
 F:BL G.K x x st f fd
 m:G.mg x=some (.ref f)
 b:Binds G.K fd ps []
theorem cV.fg{x:Str}{st:Stmt}{ps N:List Str}{f:Addr}{fd:adf}{t:b7}{sp:bw}(d:cV G x st ps f fd)(hK:G.K=KF.K)(Sc:aB N ps (ag st))(ht:dj G k ⟨N,(ag st).names,[],false,false,false,λ_ _=>False⟩ (ak st) t)
  (len:∀ds Q,sp ds Q->ds.length=ps.length) (body:∀ds Q,sp ds Q->t {nx:=λ_=>Q (.sh .aQ),rt:=λb _=>Q b} (aR N.length ds)):c9 G (k+1) x sp:=
 ⟨f,fd,ps,Eh hK d.F Sc ht len body,d.m,d.F.kp,d.b⟩
theorem ao{t u:b7}{De:iT}{σ:Sd}(h:∀N,N=u De->t {nx:=N,rt:=De.rt,bk:=De.bk,ct:=De.ct} σ):bO t u De σ:=h _ rfl
end Vc
namespace Vs
open PySem PyProof.Rows
def R(ρ:Keyed->Nat)(xs:Array Keyed)(i:Nat):Nat:=match xs[i]? with
 | some p=>ρ p
 | none=>0
theorem iq{ρ:Keyed->Nat}{xs ys:Array Keyed}{i j:Nat}(h:xs[i]?=ys[j]?):R ρ xs i=R ρ ys j:=by unfold R;rw[h]
theorem dm{ρ:Keyed->Nat}{xs:Array Keyed}{i:Nat}{p:Keyed}(h:xs[i]?=some p):R ρ xs i=ρ p:=by unfold R;rw[h]
theorem uC{ρ:Keyed->Nat}{xs:Array Keyed}{src d:Nat}(hs:src<xs.size)(hd:d<=src)(k:Nat):
  R ρ (bubble xs src d) k=if k=src-d then R ρ xs src else if src-d<k/\k<=src then R ρ xs (k-1)else R ρ xs k:=by
 have e:=getElem?_bubble hs d hd k
 repeat' split
 all_goals (rename_i h1;first | (rename_i h2;first|rw[if_neg h2,if_pos h1]at e|rw[if_neg h2,if_neg h1]at e)|rw[if_pos h1]at e)
 all_goals exact iq e
theorem nG{ρ:Keyed->Nat}{xs:Array Keyed}{i j:Nat}(hj:j<=xs.size)(k:Nat):
  R ρ (mirror xs i j ((j-i)/2)) k=if i<=k/\k<j then R ρ xs (i+j-1-k)else R ρ xs k:=by
 have e:=getElem?_mirror_all (i:=i) hj k
 split
 ·rename_i h1;rw[if_pos h1]at e;exact iq e
 ·rename_i h1;rw[if_neg h1]at e;exact iq e
theorem cI{ρ:Keyed->Nat}{xs:Array Keyed}{i j:Nat}(hj:j<=xs.size)(heq:∀k,i<=k->k<j->R ρ xs k=R ρ xs (j-1))(k:Nat):
  R ρ (mirror xs i j ((j-i)/2)) k=R ρ xs k:=by
 rw[nG hj]
 split
 ·rw[heq _ ⋯ ⋯,heq k ⋯ ⋯]
 ·rfl
def gF(M:Model)(A:Around)(E:Value->Shared->Prop)(s:Shared)(ρ:Keyed->Nat)(kd:aea)(P:Keyed->Prop):Prop:=
 ∀(x y:Keyed) (st:SortSt) (Q:Option Bool->SortSt->Prop),P x->P y->kindOf st=kd->Q (some (decide (ρ x<ρ y))) st->wpS M A E s (lt' x y) Q st
structure SI(kd:aea)(a₀:Array Keyed)(st:SortSt):Prop where
 perm:(arrOf st).Perm a₀
 kind:kindOf st=kd
 failed:failedOf st=none
theorem SI.size{kd:aea}{a₀:Array Keyed}{st:SortSt}(h:SI kd a₀ st):(arrOf st).size=a₀.size:=h.perm.size_eq
theorem SI.setArr{kd:aea}{a₀:Array Keyed}{st:SortSt}(h:SI kd a₀ st){xs:Array Keyed}(hp:xs.Perm (arrOf st)):SI kd a₀ (setArr st xs):=⟨hp.trans h.perm,h.kind,h.failed⟩
theorem SI.at{kd:aea}{a₀:Array Keyed}{st:SortSt}(h:SI kd a₀ st){P:Keyed->Prop}(h0:∀p∈a₀.toList,P p){i:Nat}(hi:i<a₀.size):∃p,(arrOf st)[i]?=some p/\P p:=by
 have xX:i<(arrOf st).size:=by rw[h.size];exact hi
 exact⟨(arrOf st)[i],getElem?_pos _ i xX,h0 _ ((Array.perm_iff_toList_perm.mp h.perm).mem_iff.mp (by simp))⟩
structure Fw(kd:aea)(a₀:Array Keyed)(lo:Nat)(st aA:SortSt):Prop where
 si:SI kd a₀ aA
 same:∀k,k<lo->(arrOf aA)[k]?=(arrOf st)[k]?
 pend:ac6 aA=ac6 st
theorem Fw.refl{kd:aea}{a₀:Array Keyed}{lo:Nat}{st:SortSt}(h:SI kd a₀ st):Fw kd a₀ lo st st:=⟨h,λ_ _=>rfl,rfl⟩
theorem Fw.mirror{kd:aea}{a₀:Array Keyed}{lo i j:Nat}{st aA:SortSt}(h:Fw kd a₀ lo st aA)(hi:lo<=i)(hj:j<=a₀.size):Fw kd a₀ lo st (setArr aA (mirror (arrOf aA) i j ((j-i)/2))):=
 ⟨h.si.setArr (mirror_perm _ _ _ _),λk hk=>by
  show(PyProof.Rows.mirror (arrOf aA) i j ((j-i)/2))[k]?=_;rw[getElem?_mirror_all (by rw[h.si.size];exact hj),if_neg ⋯];exact h.same k hk,h.pend⟩
theorem Fw.bubble{kd:aea}{a₀:Array Keyed}{lo src d:Nat}{st aA:SortSt}(h:Fw kd a₀ lo st aA)(hs:src<a₀.size)(hd:lo<=src-d)(hd2:d<=src):Fw kd a₀ lo st (setArr aA (bubble (arrOf aA) src d)):=
 ⟨h.si.setArr (bubble_perm _ _ _),λk hk=>by
  show(PyProof.Rows.bubble (arrOf aA) src d)[k]?=_;rw[getElem?_bubble (by rw[h.si.size];exact hs) d hd2,if_neg ⋯,if_neg ⋯];exact h.same k hk,h.pend⟩
section
variable {M:Model}{A:Around}{E:Value->Shared->Prop}{s:Shared}{ρ:Keyed->Nat}{kd:aea}{P:Keyed->Prop}{a₀:Array Keyed}
theorem bj{arr:Array Keyed}{i:Nat}{p:Keyed}{st:SortSt}{Q:Keyed->SortSt->Prop}(h:arr[i]?=some p)(q:Q p st):wpS M A E s (elem' arr i) Q st:=by
 rw[elem'_eq,h];exact ac7 q
theorem wpS_ltAt{st:SortSt}{i j:Nat}{Q:Option Bool->SortSt->Prop}(hL:gF M A E s ρ kd P)(h0:∀p∈a₀.toList,P p)(hB:SI kd a₀ st)(hi:i<a₀.size)(hj:j<a₀.size)
  (h:Q (some (decide (R ρ (arrOf st) i<R ρ (arrOf st) j))) st):wpS M A E s (ltAt' i j) Q st:=by
 obtain⟨p,e1,p1⟩:=hB.at h0 hi;obtain⟨q,e2,p2⟩:=hB.at h0 hj;rw[dm e1,dm e2]at h;rw[ltAt'_eq];refine acY (wpS_get ?_);show wpS _ _ _ _ (do let x <- elem' (arrOf st) i;let y <- elem' (arrOf st) j;lt' x y) Q st
 exact acY (bj e1 (acY (bj e2 (hL p q st Q p1 p2 hB.kind h))))
theorem wpS_reverse{st:SortSt}{i j:Nat}{Q:Unit->SortSt->Prop}(h:Q () (setArr st (mirror (arrOf st) i j ((j-i)/2)))):wpS M A E s (reverseSlice' i j) Q st:=by
 rw[reverseSlice'_eq];exact wpS_modify h
def Seg(ρ:Keyed->Nat)(xs:Array Keyed)(lo hi:Nat):Prop:=∀i j,lo<=i->i<=j->j<hi->R ρ xs i<=R ρ xs j
def Neg(ρ:Keyed->Nat)(xs:Array Keyed)(lo hi:Nat):Prop:=∀i j,lo<=i->i<=j->j<hi->R ρ xs j<=R ρ xs i
theorem Seg.one{xs:Array Keyed}{lo:Nat}:Seg ρ xs lo (lo+1):=λi j h1 h2 h3=>by
 have:i=j:=by omega
 subst this;exact acS _
theorem Seg.snoc{xs:Array Keyed}{lo hi:Nat}(h:Seg ρ xs lo hi)(hl:lo<hi)(hr:R ρ xs (hi-1)<=R ρ xs hi):Seg ρ xs lo (hi+1):=λi j h1 h2 h3=>by
 by_cases hj:j<hi
 ·exact h i j h1 h2 hj
 ·have:j=hi:=by omega
  subst this
  by_cases xX:i=j
  ·subst xX;exact acS _
  ·exact adq (h i (j-1) h1 ⋯ ⋯) hr
theorem Neg.snoc{xs:Array Keyed}{lo hi:Nat}(h:Neg ρ xs lo hi)(hl:lo<hi)(hr:R ρ xs hi<=R ρ xs (hi-1)):Neg ρ xs lo (hi+1):=λi j h1 h2 h3=>by
 by_cases hj:j<hi
 ·exact h i j h1 h2 hj
 ·have:j=hi:=by omega
  subst this
  by_cases xX:i=j
  ·subst xX;exact acS _
  ·exact adq hr (h i (j-1) h1 ⋯ ⋯)
def CG(lo a bT:Nat):StateT SortSt Sem (Option (Option Nat)×Nat):=
 forIn [a:bT] ((none,a):Option (Option Nat)×Nat) λ_ eo=>do
  let MV <- ltAt' (lo+eo.snd) (lo+eo.snd-1)
  match MV with
  | some tu=>if tu=true then pure (ac3 (none,eo.snd))else pure (ado (none,eo.snd+1))
  | _=>pure (ac3 (some none,eo.snd))
theorem wY{st:SortSt}{lo a bT:Nat}{Q:Option (Option Nat)×Nat->SortSt->Prop}(hL:gF M A E s ρ kd P)(h0:∀p∈a₀.toList,P p)(hn:lo+bT<=a₀.size)(ha:1<=a)(han:a<=bT)(hB:SI kd a₀ st)
  (hs:Seg ρ (arrOf st) lo (lo+a))
  (h:∀n,a<=n->n<=bT->Seg ρ (arrOf st) lo (lo+n)->(n=bT\/R ρ (arrOf st) (lo+n)<R ρ (arrOf st) (lo+n-1))->Q (none,n) st):wpS M A E s (CG lo a bT) Q st:=by
 unfold CG;refine ad4 (I:=λx c aA=>aA=st/\c=(none,x)/\Seg ρ (arrOf st) lo (lo+x)) ?step ?fin ⟨rfl,rfl,hs⟩
 case fin =>
  rintro c aA ⟨rfl,rfl,k9⟩;rw[show max a bT=bT by omega]at k9 ⊢
  exact h bT han (acS _) k9 (.inl rfl)
 case step =>
  rintro x c aA hax hxn ⟨rfl,rfl,k9⟩;dsimp only;refine acY (wpS_ltAt hL h0 hB ⋯ ⋯ ?_)
  by_cases hl:R ρ (arrOf aA) (lo+x)<R ρ (arrOf aA) (lo+x-1)
  ·simp only[hl,decide_true,if_true]
   exact ac7 (h x hax ⋯ k9 (.inr hl))
  ·simp only[hl,decide_false,ac1,if_false]
   refine ac7 ⟨rfl,rfl,?_⟩;exact k9.snoc ⋯ ⋯
def wQ(lo n bT:Nat):StateT SortSt Sem (Option Nat):=do
 reverseSlice' lo (lo+n)
 let eo <- CG lo n bT
 match eo.fst with
 | some r=>pure r
 | none=>pure (some eo.snd)
theorem qW{st cy:SortSt}{lo n bT:Nat}{Q:Option Nat->SortSt->Prop}(hL:gF M A E s ρ kd P)(h0:∀p∈a₀.toList,P p)(hn:lo+bT<=a₀.size)(h1:1<=n)(IZ:n<=bT)(hB:Fw kd a₀ lo cy st)
  (hs:Neg ρ (arrOf st) lo (lo+n)) (h:∀m aA,Fw kd a₀ lo cy aA->1<=m->m<=bT->Seg ρ (arrOf aA) lo (lo+m)->Q (some m) aA):wpS M A E s (wQ lo n bT) Q st:=by
 unfold wQ;have hsz:lo+n<=(arrOf st).size:=by rw[hB.si.size];omega
 refine acY (wpS_reverse ?_);have jg:=hB.mirror (i:=lo) (j:=lo+n) (acS _) ⋯
 refine acY (wY hL h0 hn h1 IZ jg.si ?_ λm hm1 lC hsm _=>ac7 (h m _ jg ⋯ lC hsm))
 intro i j hi lA hj;show R ρ (mirror (arrOf st) lo (lo+n) ((lo+n-lo)/2)) i<=R ρ (mirror (arrOf st) lo (lo+n) ((lo+n-lo)/2)) j;rw[nG hsz,nG hsz,if_pos ⋯,if_pos ⋯]
 exact hs _ _ ⋯ ⋯ ⋯
def zp(lo n bT:Nat):StateT SortSt Sem (Option (Option Nat)×Nat×Nat):=
 forIn [n:bT] ((none,n,0):Option (Option Nat)×Nat×Nat) λ_ eo=>do
  let MV <- ltAt' (lo+eo.snd.fst) (lo+eo.snd.fst-1)
  match MV with
  | some tu =>
   if tu=true then
    if eo.snd.snd>0 then do
     reverseSlice' (lo+eo.snd.fst-(eo.snd.snd+1)) (lo+eo.snd.fst)
     pure (ado (none,eo.snd.fst+1,0))
    else pure (ado (none,eo.snd.fst+1,0))
   else do
    let MV <- ltAt' (lo+eo.snd.fst-1) (lo+eo.snd.fst)
    match MV with
    | some Rj =>
     if Rj=true then pure (ac3 (none,eo.snd.fst,eo.snd.snd))
     else pure (ado (none,eo.snd.fst+1,eo.snd.snd+1))
    | _=>pure (ac3 (some none,eo.snd.fst,eo.snd.snd))
  | _=>pure (ac3 (some none,eo.snd.fst,eo.snd.snd))
theorem BK{st cy:SortSt}{lo n bT:Nat}{Q:Option (Option Nat)×Nat×Nat->SortSt->Prop}(hL:gF M A E s ρ kd P)(h0:∀p∈a₀.toList,P p)(hn:lo+bT<=a₀.size)(h1:1<=n)(IZ:n<=bT)(hB:Fw kd a₀ lo cy st)
  (hs:Neg ρ (arrOf st) lo (lo+n))
  (h:∀m ym aA,Fw kd a₀ lo cy aA->n<=m->m<=bT->Neg ρ (arrOf aA) lo (lo+m)->ym+1<=m->(∀i,lo+m-(ym+1)<=i->i<lo+m->R ρ (arrOf aA) i=R ρ (arrOf aA) (lo+m-1))->Q (none,m,ym) aA):
  wpS M A E s (zp lo n bT) Q st:=by
 unfold zp;refine ad4 (I:=λx c aA=>∃ym,c=(none,x,ym)/\Fw kd a₀ lo cy aA/\Neg ρ (arrOf aA) lo (lo+x)/\ym+1<=x /\
   (∀i,lo+x-(ym+1)<=i->i<lo+x->R ρ (arrOf aA) i=R ρ (arrOf aA) (lo+x-1))) ?step ?fin ⟨0,rfl,hB,hs,by omega,λi h1 h2=>by congr 1;omega⟩
 case fin =>
  rintro c aA ⟨ym,rfl,jg,k9,hq,he⟩;rw[show max n bT=bT by omega]at k9 hq he ⊢
  exact h bT ym aA jg IZ (acS _) k9 hq he
 case step =>
  rintro x c aA hax hxn ⟨ym,rfl,jg,k9,hq,he⟩;dsimp only;have hsz:lo+x<=(arrOf aA).size:=by rw[jg.si.size];omega
  refine acY (wpS_ltAt hL h0 jg.si ⋯ ⋯ ?_)
  by_cases hl:R ρ (arrOf aA) (lo+x)<R ρ (arrOf aA) (lo+x-1)
  ·simp only[hl,decide_true,if_true]
   have My:∀xs:Array Keyed,(∀k,R ρ xs k=R ρ (arrOf aA) k)->Neg ρ xs lo (lo+(x+1)):=λxs hk=>by
    have:=k9.snoc ⋯ (adU hl)
    intro i j h1 h2 h3;rw[hk,hk];exact this i j h1 h2 h3
   by_cases E7:ym>0
   ·rw[if_pos E7]
    refine acY (wpS_reverse (ac7 ⟨0,rfl,jg.mirror ⋯ ⋯,My _ (cI hsz he),by omega,λi h1 h2=>by congr 1;omega⟩))
   ·rw[if_neg E7]
    exact ac7 ⟨0,rfl,jg,My _ (λ_=>rfl),by omega,λi h1 h2=>by congr 1;omega⟩
  ·simp only[hl,decide_false,ac1,if_false]
   refine acY (wpS_ltAt hL h0 jg.si ⋯ ⋯ ?_)
   by_cases hg:R ρ (arrOf aA) (lo+x-1)<R ρ (arrOf aA) (lo+x)
   ·simp only[hg,decide_true,if_true]
    exact ac7 (h x ym aA jg hax ⋯ k9 hq he)
   ·simp only[hg,decide_false,ac1,if_false]
    have heq:R ρ (arrOf aA) (lo+x)=R ρ (arrOf aA) (lo+x-1):=by omega
    refine ac7 ⟨ym+1,rfl,jg,k9.snoc ⋯ ⋯,by omega,λi h1 h2=>?_⟩
    rw[show lo+(x+1)-1=lo+x by omega]
    by_cases hix:i=lo+x
    ·rw[hix]
    ·rw[heq];exact he i ⋯ ⋯
def uR(lo n bT:Nat):StateT SortSt Sem (Option Nat):=do
 liftM (rule "list.sort.descending-run")
 let eo <- zp lo (n+1) bT
 match eo.fst with
 | some r=>pure r
 | none =>
  if eo.snd.snd>0 then do
   reverseSlice' (lo+eo.snd.fst-(eo.snd.snd+1)) (lo+eo.snd.fst)
   wQ lo eo.snd.fst bT
  else wQ lo eo.snd.fst bT
theorem qV{st cy:SortSt}{lo n bT:Nat}{Q:Option Nat->SortSt->Prop}(hL:gF M A E s ρ kd P)(h0:∀p∈a₀.toList,P p)(hn:lo+bT<=a₀.size)(IZ:n+1<=bT)(hB:Fw kd a₀ lo cy st)
  (hs:Neg ρ (arrOf st) lo (lo+(n+1))) (h:∀m aA,Fw kd a₀ lo cy aA->1<=m->m<=bT->Seg ρ (arrOf aA) lo (lo+m)->Q (some m) aA):wpS M A E s (uR lo n bT) Q st:=by
 unfold uR;refine acY (wpS_lift (wpAny_rule ⟨rfl,?_⟩));refine acY (BK hL h0 hn ⋯ IZ hB hs λm ym aA jg hm1 lC k9 hq he=>?_)
 dsimp only;have hsz:lo+m<=(arrOf aA).size:=by rw[jg.si.size];omega
 by_cases E7:ym>0
 ·rw[if_pos E7]
  refine acY (wpS_reverse (qW hL h0 hn ⋯ lC (jg.mirror ⋯ ⋯) ?_ h))
  intro i j h1 h2 h3;show R ρ (mirror (arrOf aA) _ _ _) j<=R ρ (mirror (arrOf aA) _ _ _) i;rw[cI hsz he,cI hsz he];exact k9 i j h1 h2 h3
 ·rw[if_neg E7]
  exact qW hL h0 hn ⋯ lC jg k9 h
local macro_rules|`(tactic| walk_at "s_tail")=>`(tactic| (funext s3;obtain⟨r3,n3⟩:=s3;cases r3<;>rfl))
local macro_rules|`(tactic| walk_at "s_t3")=>`(tactic| (congr 1;funext _w;congr 1;walk_at "s_tail"))
local macro_rules|`(tactic| walk_at "s_desc")=>`(tactic| (congr 1;funext _u;congr 1;congr 1;funext s2;obtain⟨r2,n2,q2⟩:=s2;cases r2 with
  | some r2=>rfl
  | none=>(dsimp only;split;(congr 1;funext _v;walk_at "s_t3");walk_at "s_t3")))
theorem rK(lo bT:Nat):countRun' lo bT=(do
  let eo <- CG lo 1 bT
  match eo.fst with
  | some r=>pure r
  | none =>
   if(eo.snd==bT)=true then pure (some eo.snd)
   else if eo.snd>1 then do
    let MV <- ltAt' lo (lo+eo.snd-1)
    match MV with
    | some acp=>if acp=true then pure (some eo.snd)else do
      reverseSlice' lo (lo+eo.snd)
      uR lo eo.snd bT
    | _=>pure none
   else uR lo eo.snd bT):=by
 rw[countRun'_eq];dsimp only;unfold uR wQ zp CG;congr 1;funext eo;obtain⟨r,n⟩:=eo;cases r with
 | some r=>rfl
 | none =>
  dsimp only
  split
  ·rfl
  ·split
   ·congr 1
    funext x;cases x with
    | none=>rfl
    | some b =>
     dsimp only
     split
     ·rfl
     ·congr 1
      funext _z;walk_at "s_desc"
   ·walk_at "s_desc"
end
end Vs
namespace Vs
open PySem PyProof.Rows
section
variable {M:Model}{A:Around}{E:Value->Shared->Prop}{s:Shared}{ρ:Keyed->Nat}{kd:aea}{P:Keyed->Prop}{a₀:Array Keyed}
theorem wpS_countRun{st:SortSt}{lo bT:Nat}{Q:Option Nat->SortSt->Prop}(hL:gF M A E s ρ kd P)(h0:∀p∈a₀.toList,P p)(hn:lo+bT<=a₀.size)(h1:1<=bT)(hB:SI kd a₀ st)
  (h:∀m aA,Fw kd a₀ lo st aA->1<=m->m<=bT->Seg ρ (arrOf aA) lo (lo+m)->Q (some m) aA):wpS M A E s (countRun' lo bT) Q st:=by
 rw[rK];refine acY (wY hL h0 hn (acS 1) h1 hB Seg.one λn Mb E5 Mf hor=>?_);dsimp only
 by_cases IZ:n=bT
 ·rw[if_pos (by simpa using IZ)]
  exact ac7 (h n st (.refl hB) Mb E5 Mf)
 ·rw[if_neg (by simpa using IZ)]
  have jr:=hor.resolve_left IZ
  by_cases hgt:n>1
  ·rw[if_pos hgt]
   refine acY (wpS_ltAt hL h0 hB ⋯ ⋯ ?_)
   by_cases hr:R ρ (arrOf st) lo<R ρ (arrOf st) (lo+n-1)
   ·simp only[hr,decide_true,if_true]
    exact ac7 (h n st (.refl hB) Mb E5 Mf)
   ·simp only[hr,decide_false,ac1,if_false]
    have hsz:lo+n<=(arrOf st).size:=by rw[hB.size];omega
    have iL:∀k,lo<=k->k<lo+n->R ρ (arrOf st) k=R ρ (arrOf st) (lo+n-1):=λk sj YQ=>by
     have a1:=Mf lo k (acS _) sj YQ;have a2:=Mf k (lo+n-1) sj ⋯ ⋯
     omega
    refine acY (wpS_reverse (qV hL h0 hn ⋯ ((Fw.refl hB).mirror (acS _) ⋯) ?_ h))
    intro i j hi lA hj;show R ρ (mirror (arrOf st) _ _ _) j<=R ρ (mirror (arrOf st) _ _ _) i;rw[cI hsz iL,cI hsz iL]
    by_cases hjn:j<lo+n
    ·rw[iL i hi ⋯,iL j ⋯ hjn];exact acS _
    ·have HM:j=lo+n:=by omega
     subst HM
     by_cases xX:i=lo+n
     ·subst xX;exact acS _
     ·rw[iL i hi ⋯];exact adU jr
  ·rw[if_neg hgt]
   have Qn:n=1:=by omega
   subst Qn;refine qV hL h0 hn ⋯ (.refl hB) ?_ h
   intro i j hi lA hj
   by_cases xX:i=j
   ·subst xX;exact acS _
   ·have hi0:i=lo:=by omega
    have hj1:j=lo+1:=by omega
    subst hi0;subst hj1;exact adU jr
theorem wpS_binarySort{st:SortSt}{lo n ok:Nat}{Q:Bool->SortSt->Prop}(hL:gF M A E s ρ kd P)(h0:∀p∈a₀.toList,P p)(hn:lo+n<=a₀.size)(bI:ok<=n)(hB:SI kd a₀ st)(hs:Seg ρ (arrOf st) lo (lo+ok))
  (h:∀aA,Fw kd a₀ lo st aA->Seg ρ (arrOf aA) lo (lo+n)->Q true aA):wpS M A E s (binarySort' lo n ok) Q st:=by
 rw[binarySort'_eq];refine acY (aeo (ad4 (I:=λk c aA=>c=(none,())/\Fw kd a₀ lo st aA/\Seg ρ (arrOf aA) lo (lo+min k n))
  (Q:=λc aA=>c=(none,())/\Fw kd a₀ lo st aA/\Seg ρ (arrOf aA) lo (lo+n)) ?step ?fin ?init) ?post)
 case post =>
  rintro c aA ⟨rfl,jg,k9⟩;exact ac7 (h aA jg k9)
 case init =>
  refine⟨rfl,.refl hB,λi j hi lA hj=>?_⟩
  by_cases h1:ok=0
  ·have:i=j:=by omega
   subst this;exact acS _
  ·exact hs i j hi lA ⋯
 case fin =>
  rintro c aA ⟨hc,jg,k9⟩;refine⟨hc,jg,?_⟩
  rwa [show min (max (max ok 1) n) n=n by omega]at k9
 case step =>
  rintro k c aA hak hkn ⟨rfl,jg,k9⟩;rw[show min k n=k by omega]at k9
  have hk:lo+k<a₀.size:=by omega
  refine acY (aeo (ad4 (I:=λx c dn=>dn=aA/\∃l r,c=(none,l,r)/\l<=r/\r<=k/\r-l<=k-x /\
    (∀i,i<l->R ρ (arrOf aA) (lo+i)<=R ρ (arrOf aA) (lo+k))/\(∀i,r<=i->i<k->R ρ (arrOf aA) (lo+k)<R ρ (arrOf aA) (lo+i)))
   (Q:=λc dn=>dn=aA/\∃l r,c=(none,l,r)/\l<=k /\
    (∀i,i<l->R ρ (arrOf aA) (lo+i)<=R ρ (arrOf aA) (lo+k))/\(∀i,l<=i->i<k->R ρ (arrOf aA) (lo+k)<R ρ (arrOf aA) (lo+i))) ?istep ?ifin ?iinit) ?ipost)
  case iinit=>exact⟨rfl,0,k,rfl,by omega,by omega,by omega,λi hi=>by omega,λi h1 h2=>by omega⟩
  case ifin =>
   rintro c dn ⟨rfl,l,r,rfl,hlr,hrk,hm,zI,Wi⟩;have:l=r:=by omega
   subst this;exact⟨rfl,l,l,rfl,hrk,zI,Wi⟩
  case istep =>
   rintro x c dn _ hxk ⟨rfl,l,r,rfl,hlr,hrk,hm,zI,Wi⟩;dsimp only
   by_cases xq:l>=r
   ·rw[if_pos xq]
    have:l=r:=by omega
    subst this;exact ac7 ⟨rfl,l,l,rfl,hrk,zI,Wi⟩
   ·rw[if_neg xq]
    refine acY (wpS_ltAt hL h0 jg.si hk ⋯ ?_)
    by_cases zH:R ρ (arrOf dn) (lo+k)<R ρ (arrOf dn) (lo+(l+r)/2)
    ·simp only[zH,decide_true,if_true]
     refine ac7 ⟨rfl,l,(l+r)/2,rfl,by omega,by omega,by omega,zI,λi h1 h2=>?_⟩
     exact ads zH (k9 _ _ ⋯ ⋯ ⋯)
    ·simp only[zH,decide_false,ac1,if_false]
     refine ac7 ⟨rfl,(l+r)/2+1,r,rfl,by omega,by omega,by omega,λi h1=>?_,Wi⟩
     exact adq (k9 (lo+i) (lo+(l+r)/2) ⋯ ⋯ ⋯) (Nat.not_lt.mp zH)
  case ipost =>
   rintro c dn ⟨rfl,l,r,rfl,xY,zI,Wi⟩;show wpS _ _ _ _ (do moveDown' (lo+k) (lo+l);pure (ado (none,()))) _ _
   rw[moveDown'_eq];refine acY (wpS_modify (ac7 ⟨rfl,jg.bubble hk ⋯ ⋯,?_⟩))
   rw[show min (k+1) n=k+1 by omega]
   have hks:lo+k<(arrOf dn).size:=by rw[jg.si.size];exact hk
   intro i j hi lA hj;show R ρ (bubble (arrOf dn) (lo+k) (lo+k-(lo+l))) i<=R ρ (bubble (arrOf dn) (lo+k) (lo+k-(lo+l))) j;rw[uC hks ⋯,uC hks ⋯,show lo+k-(lo+k-(lo+l))=lo+l by omega]
   have abR:∀i,lo<=i->i<lo+l->R ρ (arrOf dn) i<=R ρ (arrOf dn) (lo+k):=λi h1 h2=>by
    have:=zI (i-lo) ⋯;rwa [show lo+(i-lo)=i by omega]at this
   have abN:∀i,lo+l<=i->i<lo+k->R ρ (arrOf dn) (lo+k)<R ρ (arrOf dn) i:=λi h1 h2=>by
    have:=Wi (i-lo) ⋯ ⋯;rwa [show lo+(i-lo)=i by omega]at this
   repeat' split
   all_goals first
    | (exfalso;omega)
    | exact acS _
    | exact abR _ ⋯ ⋯
    | exact adU (abN _ ⋯ ⋯)
    | exact k9 _ _ ⋯ ⋯ ⋯
def cG:Bool->Keyed->Array Keyed->Nat->Nat->Nat->StateT SortSt Sem (Option Nat):=sortPriv% PySem.Builtin.gallop
def fP(left:Bool)(key:Keyed)(arr:Array Keyed)(base i:Nat):StateT SortSt Sem (Option Bool):=do
 let x <- elem' arr (base+i)
 if left then lt' x key else return(<- lt' key x).map (!·)
theorem xS(left:Bool)(key:Keyed)(arr:Array Keyed)(base n hint:Nat):cG left key arr base n hint=(do
 let mut nh:=0
 let mut BU:=1
 let mut lo:=0
 let mut hi:=0
 let some right <- fP left key arr base hint|return none
 if right then
  let om:=n-hint
  for _ in [0:n]do
   if BU>=om then break
   let some more <- fP left key arr base (hint+BU)|return none
   if !more then break
   nh:=BU
   BU:=2*BU+1
  lo:=hint+nh+1
  hi:=hint+min BU om
 else
  let om:=hint+1
  for _ in [0:n]do
   if BU>=om then break
   let some found <- fP left key arr base (hint-BU)|return none
   if found then break
   nh:=BU
   BU:=2*BU+1
  lo:=hint+1-min BU om
  hi:=hint-nh
 for _ in [0:n]do
  if lo>=hi then break
  let m:=lo+(hi-lo)/2
  let some more <- fP left key arr base m|return none
  if more then lo:=m+1 else hi:=m
 return some hi):=rfl
end
end Vs
namespace Vs
open PySem PyProof.Rows
section
variable {M:Model}{A:Around}{E:Value->Shared->Prop}{s:Shared}{ρ:Keyed->Nat}{kd:aea}{P:Keyed->Prop}{a₀:Array Keyed}
def Yx(left:Bool)(key:Keyed)(arr:Array Keyed)(base n l h:Nat):StateT SortSt Sem (Option Nat):=do
 let mut lo:=l
 let mut hi:=h
 for _ in [0:n]do
  if lo>=hi then break
  let m:=lo+(hi-lo)/2
  let some more <- fP left key arr base m|return none
  if more then lo:=m+1 else hi:=m
 return some hi
def Tells(M:Model)(A:Around)(E:Value->Shared->Prop)(s:Shared)(left:Bool)(key:Keyed)(arr:Array Keyed)(base n:Nat)(st:SortSt)(p:Nat->Bool):Prop:=
 ∀i,i<n->∀Q:Option Bool->SortSt->Prop,Q (some (p i)) st->wpS M A E s (fP left key arr base i) Q st
theorem wZ{left:Bool}{key:Keyed}{arr:Array Keyed}{base n l h:Nat}{st:SortSt}{p:Nat->Bool}{Q:Option Nat->SortSt->Prop}(hT:Tells M A E s left key arr base n st p)(hp:∀i j,i<=j->j<n->p j=true->p i=true)
  (hlh:l<=h) (hh:h<=n) (h1:∀i,i<l->p i=true) (h2:∀i,h<=i->i<n->p i=false)
  (q:∀k,k<=n->(∀i,i<k->p i=true)->(∀i,k<=i->i<n->p i=false)->Q (some k) st):wpS M A E s (Yx left key arr base n l h) Q st:=by
 unfold Yx;dsimp only;refine acY (aeo (ad4 (I:=λx c aA=>aA=st/\∃l h,c=(none,l,h)/\l<=h/\h<=n/\h-l<=n-x/\(∀i,i<l->p i=true)/\(∀i,h<=i->i<n->p i=false))
  (Q:=λc aA=>aA=st/\∃k,c=(none,k,k)/\k<=n/\(∀i,i<k->p i=true)/\(∀i,k<=i->i<n->p i=false)) ?step ?fin ⟨rfl,l,h,rfl,hlh,hh,by omega,h1,h2⟩) ?post)
 case post =>
  rintro c aA ⟨rfl,k,rfl,hk,q1,q2⟩;exact ac7 (q k hk q1 q2)
 case fin =>
  rintro c aA ⟨rfl,l,h,rfl,a1,a2,a3,a4,a5⟩;have:l=h:=by omega
  subst this;exact⟨rfl,l,rfl,a2,a4,a5⟩
 case step =>
  rintro x c aA _ hx ⟨rfl,l,h,rfl,a1,a2,a3,a4,a5⟩;dsimp only
  by_cases xq:l>=h
  ·rw[if_pos xq]
   have:l=h:=by omega
   subst this;exact ac7 ⟨rfl,l,rfl,a2,a4,a5⟩
  ·rw[if_neg xq]
   refine acY (hT _ ⋯ _ ?_)
   cases hm:p (l+(h-l)/2)with
   | true =>
    simp only[if_true];exact ac7 ⟨rfl,_,_,rfl,by omega,a2,by omega,λi hi=>hp i _ ⋯ ⋯ hm,a5⟩
   | false =>
    simp only[ac1,if_false];refine ac7 ⟨rfl,_,_,rfl,by omega,by omega,by omega,a4,λi hi hn=>?_⟩
    cases e:p i with
    | false=>rfl
    | true=>rw[hp _ i hi hn e]at hm;cases hm
theorem dI{left:Bool}{key:Keyed}{arr:Array Keyed}{base n hint:Nat}{st:SortSt}{p:Nat->Bool}{Q:Option Nat->SortSt->Prop}(hT:Tells M A E s left key arr base n st p)(hp:∀i j,i<=j->j<n->p j=true->p i=true)(hn:hint<n)
  (q:∀k,k<=n->(∀i,i<k->p i=true)->(∀i,k<=i->i<n->p i=false)->Q (some k) st):wpS M A E s (cG left key arr base n hint) Q st:=by
 rw[xS];dsimp only;refine acY (hT hint hn _ ?_);have pf:∀i j,i<=j->j<n->p i=false->p j=false:=λi j h1 h2 h3=>by
  cases e:p j with
  | false=>rfl
  | true=>rw[hp i j h1 h2 e]at h3;cases h3
 cases h0:p hint with
 | true =>
  dsimp only;rw[if_pos rfl];refine acY (aeo (ad4 (I:=λx c aA=>aA=st/\∃l o,c=(none,l,o)/\l<o/\x+1<=o/\hint+l<n/\p (hint+l)=true)
   (Q:=λc aA=>aA=st/\∃l o,c=(none,l,o)/\l<o/\hint+l<n/\p (hint+l)=true/\(n-hint<=o\/(hint+o<n/\p (hint+o)=false))) ?step ?fin ⟨rfl,0,1,rfl,by omega,by omega,hn,h0⟩) ?post)
  case fin =>
   rintro c aA ⟨rfl,l,o,rfl,a1,a2,a3,a4⟩;exact⟨rfl,l,o,rfl,a1,a3,a4,.inl ⋯⟩
  case step =>
   rintro x c aA _ hx ⟨rfl,l,o,rfl,a1,a2,a3,a4⟩;dsimp only
   by_cases xq:o>=n-hint
   ·rw[if_pos xq]
    exact ac7 ⟨rfl,l,o,rfl,a1,a3,a4,.inl xq⟩
   ·rw[if_neg xq]
    refine acY (hT _ ⋯ _ ?_)
    cases hm:p (hint+o)with
    | true =>
     simp only[Bool.not_true,ac1,if_false];exact ac7 ⟨rfl,_,_,rfl,by omega,by omega,by omega,hm⟩
    | false =>
     simp only[Bool.not_false,if_true];exact ac7 ⟨rfl,_,_,rfl,a1,a3,a4,.inr ⟨by omega,hm⟩⟩
  case post =>
   rintro c aA ⟨rfl,l,o,rfl,a1,a3,a4,a5⟩;refine wZ (l:=hint+l+1) (h:=hint+min o (n-hint)) hT hp ⋯ ⋯ (λi hi=>hp i _ ⋯ a3 a4) (λi hi IX=>?_) q
   rcases a5 with a5|⟨a5,a6⟩
   ·omega
   ·exact pf (hint+o) i ⋯ IX a6
 | false =>
  dsimp only;rw[if_neg ∅]
  refine acY (aeo (ad4 (I:=λx c aA=>aA=st/\∃l o,c=(none,l,o)/\l<o/\x+1<=o/\l<=hint/\p (hint-l)=false)
   (Q:=λc aA=>aA=st/\∃l o,c=(none,l,o)/\l<o/\l<=hint/\p (hint-l)=false/\(hint+1<=o\/(o<=hint/\p (hint-o)=true))) ?step2 ?fin2 ⟨rfl,0,1,rfl,by omega,by omega,by omega,h0⟩) ?post2)
  case fin2 =>
   rintro c aA ⟨rfl,l,o,rfl,a1,a2,a3,a4⟩;exact⟨rfl,l,o,rfl,a1,a3,a4,.inl ⋯⟩
  case step2 =>
   rintro x c aA _ hx ⟨rfl,l,o,rfl,a1,a2,a3,a4⟩;dsimp only
   by_cases xq:o>=hint+1
   ·rw[if_pos xq]
    exact ac7 ⟨rfl,l,o,rfl,a1,a3,a4,.inl xq⟩
   ·rw[if_neg xq]
    refine acY (hT _ ⋯ _ ?_)
    cases hm:p (hint-o)with
    | true =>
     simp only[if_true];exact ac7 ⟨rfl,_,_,rfl,a1,a3,a4,.inr ⟨by omega,hm⟩⟩
    | false =>
     simp only[ac1,if_false];exact ac7 ⟨rfl,_,_,rfl,by omega,by omega,by omega,hm⟩
  case post2 =>
   rintro c aA ⟨rfl,l,o,rfl,a1,a3,a4,a5⟩;refine wZ (l:=hint+1-min o (hint+1)) (h:=hint-l) hT hp ⋯ ⋯ (λi hi=>?_) (λi hi IX=>pf (hint-l) i hi IX a4) q
   rcases a5 with a5|⟨a5,a6⟩
   ·omega
   ·exact hp i (hint-o) ⋯ ⋯ a6
def p0(ρ:Keyed->Nat)(left:Bool)(key:Keyed)(arr:Array Keyed)(base i:Nat):Bool:=if left=true then decide (R ρ arr (base+i)<ρ key)else !decide (ρ key<R ρ arr (base+i))
theorem tells{left:Bool}{key:Keyed}{arr:Array Keyed}{base n:Nat}{st:SortSt}(hL:gF M A E s ρ kd P)(hk:kindOf st=kd)(pk:P key)(pa:∀i,i<n->∃x,arr[base+i]?=some x/\P x):Tells M A E s left key arr base n st (p0 ρ left key arr base):=λi hi Q q=>by
 obtain⟨x,e,px⟩:=pa i hi;unfold fP;refine acY (bj e ?_);unfold p0 at q;rw[dm e]at q;cases left with
 | true =>
  simp only[if_true]at q ⊢;exact hL x key st Q px pk hk q
 | false =>
  simp only[ac1,if_false]at q ⊢;exact acY (hL key x st _ pk px hk (ac7 q))
end
end Vs
namespace Vs
open PySem PyProof.Rows
def oq:Array Keyed->Array Keyed->StateT SortSt Sem (Array Keyed):=sortPriv% PySem.Builtin.mergeLo
def oo:Array Keyed->Array Keyed->StateT SortSt Sem (Array Keyed):=sortPriv% PySem.Builtin.mergeHi
def eS:Nat->StateT SortSt Sem Unit:=sortPriv% PySem.Builtin.setMinGallop
theorem eJ(g:Nat):eS g=modify (λst=>SortSt.mk' (kindOf st) (arrOf st) (ac6 st) g (failedOf st)):=rfl
def So(ρ:Keyed->Nat)(l:List Keyed):Prop:=l.Pairwise λx y=>ρ x<=ρ y
structure J(ρ:Keyed->Nat)(L O A B:List Keyed):Prop where
 o:So ρ O
 a:So ρ A
 b:So ρ B
 oa:∀x∈O,∀y∈A,ρ x<=ρ y
 ob:∀x∈O,∀y∈B,ρ x<=ρ y
 p:(O++(A++B)).Perm L
def Good(ρ:Keyed->Nat)(L r:List Keyed):Prop:=So ρ r/\r.Perm L
theorem So.app{ρ:Keyed->Nat}{A B:List Keyed}(h1:So ρ A)(h2:So ρ B)(h:∀x∈A,∀y∈B,ρ x<=ρ y):So ρ (A++B):=adQ.mpr ⟨h1,h2,h⟩
section
variable {ρ:Keyed->Nat}{L O A B X:List Keyed}{x z:Keyed}
theorem J.jI(j:J ρ L O (X++A) B)(h:∀x∈X,∀y∈B,ρ x<=ρ y):J ρ L (O++X) A B:=by
 obtain⟨a1,a2,a3⟩:=adQ.mp j.a;refine⟨j.o.app a1 λx hx y hy=>j.oa x hx y (ad2 _ hy),a2,j.b,λx hx y hy=>?_,λx hx y hy=>?_,?_⟩
 ·rcases adj.mp hx with hx|hx
  ·exact j.oa x hx y (adg _ hy)
  ·exact a3 x hx y hy
 ·rcases adj.mp hx with hx|hx
  ·exact j.ob x hx y hy
  ·exact h x hx y hy
 ·have:=j.p
  simpa [adA]using this
theorem J.jJ(j:J ρ L O A (X++B))(h:∀x∈X,∀y∈A,ρ x<=ρ y):J ρ L (O++X) A B:=by
 obtain⟨a1,a2,a3⟩:=adQ.mp j.b;refine⟨j.o.app a1 λx hx y hy=>j.ob x hx y (ad2 _ hy),j.a,a2,λx hx y hy=>?_,λx hx y hy=>?_,?_⟩
 ·rcases adj.mp hx with hx|hx
  ·exact j.oa x hx y hy
  ·exact h x hx y hy
 ·rcases adj.mp hx with hx|hx
  ·exact j.ob x hx y (adg _ hy)
  ·exact a3 x hx y hy
 ·refine List.Perm.trans ?_ j.p
  rw[adA];refine List.Perm.append_left O ?_;rw[<- adA,<- adA];exact aej B List.perm_append_comm
theorem J.iY(j:J ρ L O A []):Good ρ L (O++A):=⟨j.o.app j.a j.oa,by simpa using j.p⟩
theorem J.iX(j:J ρ L O [] B):Good ρ L (O++B):=⟨j.o.app j.b j.ob,by simpa using j.p⟩
theorem J.last(j:J ρ L O [z] B)(h:∀y∈B,ρ y<=ρ z):Good ρ L (O++B++[z]):=by
 refine⟨(j.o.app j.b j.ob).app (List.pairwise_singleton ..) λx hx y hy=>?_,?_⟩
 ·rw[acU.mp hy]
  rcases adj.mp hx with hx|hx
  ·exact j.oa x hx z (acU.mpr rfl)
  ·exact h x hx
 ·refine List.Perm.trans ?_ j.p
  rw[adA];exact List.Perm.append_left O List.perm_append_comm
end
theorem kY{a:Array Keyed}{i:Nat}{x:Keyed}(h:a[i]?=some x):a.toList.drop i=x::a.toList.drop (i+1):=by
 have hi:i<a.toList.length:=by
  have:=(Array.getElem?_eq_some_iff.mp h).1;simpa using this
 rw[aem hi];have:a.toList[i]=x:=by
  have:=(Array.getElem?_eq_some_iff.mp h).2;simpa using this
 rw[this]
theorem ml(a:Array Keyed)(i:Nat):(a.extract i a.size).toList=a.toList.drop i:=by
 rw[Array.toList_extract];show(a.toList.drop i).take (a.size-i)=_;exact List.take_of_length_le (by rw[aeh];exact acS _)
theorem nB(a:Array Keyed)(i k:Nat):(a.extract i (i+k)).toList=(a.toList.drop i).take k:=by
 rw[Array.toList_extract];show(a.toList.drop i).take (i+k-i)=_;rw[Nat.add_sub_cancel_left]
theorem wV(a:Array Keyed)(i k:Nat):a.toList.drop i=(a.toList.drop i).take k++a.toList.drop (i+k):=by
 rw[<- List.drop_drop,List.take_append_drop]
theorem pq{a:Array Keyed}{i:Nat}(h:i=a.size):a.toList.drop i=[]:=by
 subst h;exact List.drop_length
theorem mS{a:Array Keyed}{i k:Nat}{x:Keyed}(h:x∈(a.toList.drop i).take k):∃m,m<k/\i+m<a.size/\a[i+m]?=some x:=by
 obtain⟨m,hm,e⟩:=aee.mp h;rw[aei,aeh]at hm;rw[List.getElem_take,List.getElem_drop]at e;have hs:i+m<a.size:=by have:a.toList.length=a.size:=rfl;omega
 exact⟨m,by omega,hs,by rw[adb hs];exact congrArg some (by simpa using e)⟩
theorem Hj{a:Array Keyed}{i:Nat}{x:Keyed}(h:x∈a.toList.drop i):∃m,i<=m/\m<a.size/\a[m]?=some x:=by
 obtain⟨m,hm,e⟩:=aee.mp h;rw[aeh]at hm;rw[List.getElem_drop]at e;have hs:i+m<a.size:=by have:a.toList.length=a.size:=rfl;omega
 exact⟨i+m,by omega,hs,by rw[adb hs];exact congrArg some (by simpa using e)⟩
theorem So.seg{ρ:Keyed->Nat}{a:Array Keyed}(h:So ρ a.toList):Seg ρ a 0 a.size:=λi j _ lA hj=>by
 by_cases e:i=j
 ·subst e;exact acS _
 ·have hi:i<a.size:=by omega
  rw[dm (adb hi),dm (adb hj)];have:=ad3.mp h i j (by simpa using hi) (by simpa using hj) ⋯
  simpa using this
structure Kp(st aA:SortSt):Prop where
 a:arrOf aA=arrOf st
 k:kindOf aA=kindOf st
 p:ac6 aA=ac6 st
 f:failedOf aA=failedOf st
theorem Kp.refl{st:SortSt}:Kp st st:=⟨rfl,rfl,rfl,rfl⟩
theorem Kp.min{st aA:SortSt}(h:Kp st aA)(g:Nat):Kp st (SortSt.mk' (kindOf aA) (arrOf aA) (ac6 aA) g (failedOf aA)):=⟨h.a,h.k,h.p,h.f⟩
section
variable {M:Model}{A:Around}{E:Value->Shared->Prop}{s:Shared}{ρ:Keyed->Nat}{kd:aea}{P:Keyed->Prop}
theorem dq{a:Array Keyed}(pa:∀x∈a.toList,P x){i:Nat}(h:i<a.size):∃x,a[i]?=some x/\P x:=
 ⟨a[i],adb h,pa _ (by simp)⟩
theorem Hs{key:Keyed}{arr:Array Keyed}{base:Nat}{st:SortSt}{Q:Option Nat->SortSt->Prop}(hL:gF M A E s ρ kd P)(hk:kindOf st=kd)(pk:P key)(pa:∀x∈arr.toList,P x)(hs:So ρ arr.toList)(hb:base<arr.size)
  (q:∀k,base+k<=arr.size->(∀x∈(arr.toList.drop base).take k,ρ x<=ρ key)->(∀x∈arr.toList.drop (base+k),ρ key<ρ x)->Q (some k) st):wpS M A E s (cG false key arr base (arr.size-base) 0) Q st:=by
 refine dI (tells hL hk pk λi hi=>dq pa ⋯) (λi j lA hj h=>?_) ⋯ λk sj h1 h2=>q k ⋯ (λx hx=>?_) λx hx=>?_
 ·have:=hs.seg (base+i) (base+j) (adz _) ⋯ ⋯
  simp only[p0,ac1,if_false,ad9,decide_eq_false_iff_not]at h ⊢;omega
 ·obtain⟨m,hm,lC,e⟩:=mS hx
  have:=h1 m hm;simp only[p0,ac1,if_false,ad9,decide_eq_false_iff_not,dm e]at this;omega
 ·obtain⟨m,hm,lC,e⟩:=Hj hx
  have:=h2 (m-base) ⋯ ⋯
  rw[show base+k=base+k from rfl]at hm
  simp only[p0,ac1,if_false,show base+(m-base)=m by omega,dm e,Bool.not_eq_false',decide_eq_true_eq]at this
  exact this
theorem Hr{key:Keyed}{arr:Array Keyed}{base:Nat}{st:SortSt}{Q:Option Nat->SortSt->Prop}(hL:gF M A E s ρ kd P)(hk:kindOf st=kd)(pk:P key)(pa:∀x∈arr.toList,P x)(hs:So ρ arr.toList)(hb:base<arr.size)
  (q:∀k,base+k<=arr.size->(∀x∈(arr.toList.drop base).take k,ρ x<ρ key)->(∀x∈arr.toList.drop (base+k),ρ key<=ρ x)->Q (some k) st):wpS M A E s (cG true key arr base (arr.size-base) 0) Q st:=by
 refine dI (tells hL hk pk λi hi=>dq pa ⋯) (λi j lA hj h=>?_) ⋯ λk sj h1 h2=>q k ⋯ (λx hx=>?_) λx hx=>?_
 ·have:=hs.seg (base+i) (base+j) (adz _) ⋯ ⋯
  simp only[p0,if_true,decide_eq_true_eq]at h ⊢;omega
 ·obtain⟨m,hm,lC,e⟩:=mS hx
  have:=h1 m hm;simp only[p0,if_true,decide_eq_true_eq,dm e]at this;omega
 ·obtain⟨m,hm,lC,e⟩:=Hj hx
  have:=h2 (m-base) ⋯ ⋯
  simp only[p0,if_true,show base+(m-base)=m by omega,dm e,decide_eq_false_iff_not]at this
  omega
end
end Vs
namespace Vs
open PySem PyProof.Rows
section
variable {M:Model}{Ar:Around}{E:Value->Shared->Prop}{s:Shared}{ρ:Keyed->Nat}{kd:aea}{P:Keyed->Prop}{a b out:Array Keyed}{L:List Keyed}{ia ib:Nat}
abbrev GS:=Option (Array Keyed)×Array Keyed×Nat×Nat×Nat×Nat×Nat
def IV(a b out:Array Keyed)(ia ib g k k1:Nat):StateT SortSt Sem (ForInStep GS):=do
 let y <- elem' a ia
 if(ia+1+1==a.size)=true then pure (ac3 (some (out.push y++b.extract ib b.size++a.extract (ia+1) a.size),out.push y,ia+1,ib,g,k,k1))
 else if(decide (k<7)&&decide (k1<7))=true then pure (ac3 (none,out.push y,ia+1,ib,g,k,k1))
 else pure (ado (none,out.push y,ia+1,ib,g,k,k1))
def IU(a b out:Array Keyed)(ia ib g k bc:Nat):StateT SortSt Sem (ForInStep GS):=do
 let x <- elem' b ib
 if(ib+1==b.size)=true then pure (ac3 (some (out.push x++a.extract ia a.size++b.extract (ib+1) b.size),out.push x,ia,ib+1,g,k,bc))
 else do
  let y <- elem' a ia
  let r <- cG true y b (ib+1) (b.size-(ib+1)) 0
  match r with
  | some k1 =>
   if k1>0 then
    if(ib+1+k1==b.size)=true then pure (ac3 (some (out.push x++b.extract (ib+1) (ib+1+k1)++a.extract ia a.size++b.extract (ib+1+k1) b.size),out.push x++b.extract (ib+1) (ib+1+k1),ia,ib+1+k1,g,k,k1))
    else IV a b (out.push x++b.extract (ib+1) (ib+1+k1)) ia (ib+1+k1) g k k1
   else IV a b (out.push x) ia (ib+1) g k k1
  | _=>pure (ac3 (some (out.push x++a.extract ia a.size++b.extract (ib+1) b.size),out.push x,ia,ib+1,g,k,bc))
def IQ(a b out:Array Keyed)(ia ib g ac bc:Nat):StateT SortSt Sem (ForInStep GS):=do
 let x <- elem' b ib
 let r <- cG false x a ia (a.size-ia) 0
 match r with
 | some k =>
  if k>0 then
   if(ia+k+1==a.size)=true then pure (ac3 (some (out++a.extract ia (ia+k)++b.extract ib b.size++a.extract (ia+k) a.size),out++a.extract ia (ia+k),ia+k,ib,g,k,bc))
   else if(ia+k==a.size)=true then pure (ac3 (some (out++a.extract ia (ia+k)++a.extract (ia+k) a.size++b.extract ib b.size),out++a.extract ia (ia+k),ia+k,ib,g,k,bc))
   else IU a b (out++a.extract ia (ia+k)) (ia+k) ib g k bc
  else IU a b out ia ib g k bc
 | _=>pure (ac3 (some (out++a.extract ia a.size++b.extract ib b.size),out,ia,ib,g,ac,bc))
def V(ρ:Keyed->Nat)(L:List Keyed)(a b out:Array Keyed)(ia ib:Nat):Prop:=J ρ L out.toList (a.toList.drop ia) (b.toList.drop ib)
theorem V.zV(j:V ρ L a b out ia ib)(e:ia+1=a.size)(hz:∀y∈b.toList,∀z,a[a.size-1]?=some z->ρ y<=ρ z):Good ρ L (out++b.extract ib b.size++a.extract ia a.size).toList:=by
 have ha:ia<a.size:=by omega
 have e1:a.toList.drop ia=[a[ia]]:=by rw[kY (adb ha),pq e]
 have j':J ρ L out.toList (a.toList.drop ia) (b.toList.drop ib):=j;rw[e1]at j';rw[adx,adx,ml,ml,e1];refine j'.last λy hy=>hz y (List.mem_of_mem_drop hy) _ ?_;rw[show a.size-1=ia by omega];exact adb ha
theorem V.iY(j:V ρ L a b out ia ib)(e:ib=b.size):Good ρ L (out++a.extract ia a.size++b.extract ib b.size).toList:=by
 have j':J ρ L out.toList (a.toList.drop ia) (b.toList.drop ib):=j;rw[pq e]at j';rw[adx,adx,ml,ml,pq e,adH];exact j'.iY
theorem V.iX(j:V ρ L a b out ia ib)(e:ia=a.size):Good ρ L (out++a.extract ia a.size++b.extract ib b.size).toList:=by
 have j':J ρ L out.toList (a.toList.drop ia) (b.toList.drop ib):=j;rw[pq e]at j';rw[adx,adx,ml,ml,pq e,adH];exact j'.iX
theorem V.qH{x:Keyed}(j:V ρ L a b out ia ib)(e:a[ia]?=some x)(h:∀y∈b.toList.drop ib,ρ x<=ρ y):V ρ L a b (out.push x) (ia+1) ib:=by
 have j':J ρ L out.toList (a.toList.drop ia) (b.toList.drop ib):=j;rw[kY e]at j';show J ρ L (out.push x).toList _ _;rw[Array.toList_push];exact J.jI (X:=[x]) j' λz hz y hy=>by rw[acU.mp hz];exact h y hy
theorem V.qI{x:Keyed}(j:V ρ L a b out ia ib)(e:b[ib]?=some x)(h:∀y∈a.toList.drop ia,ρ x<=ρ y):V ρ L a b (out.push x) ia (ib+1):=by
 have j':J ρ L out.toList (a.toList.drop ia) (b.toList.drop ib):=j;rw[kY e]at j';show J ρ L (out.push x).toList _ _;rw[Array.toList_push];exact J.jJ (X:=[x]) j' λz hz y hy=>by rw[acU.mp hz];exact h y hy
theorem V.jI{k:Nat}(j:V ρ L a b out ia ib)(h:∀x∈(a.toList.drop ia).take k,∀y∈b.toList.drop ib,ρ x<=ρ y):V ρ L a b (out++a.extract ia (ia+k)) (ia+k) ib:=by
 have j':J ρ L out.toList (a.toList.drop ia) (b.toList.drop ib):=j;rw[wV a ia k]at j';show J ρ L (out++a.extract ia (ia+k)).toList _ _;rw[adx,nB];exact J.jI j' h
theorem V.jJ{k:Nat}(j:V ρ L a b out ia ib)(h:∀x∈(b.toList.drop ib).take k,∀y∈a.toList.drop ia,ρ x<=ρ y):V ρ L a b (out++b.extract ib (ib+k)) ia (ib+k):=by
 have j':J ρ L out.toList (a.toList.drop ia) (b.toList.drop ib):=j;rw[wV b ib k]at j';show J ρ L (out++b.extract ib (ib+k)).toList _ _;rw[adx,nB];exact J.jJ j' h
theorem V.L8{x:Keyed}(j:V ρ L a b out ia ib)(e:a[ia]?=some x):∀y∈a.toList.drop ia,ρ x<=ρ y:=λy hy=>by
 have:=j.a;rw[kY e]at this hy;rcases acV.mp hy with rfl|hy
 ·exact acS _
 ·exact(List.pairwise_cons.mp this).1 y hy
theorem V.L9{x:Keyed}(j:V ρ L a b out ia ib)(e:b[ib]?=some x):∀y∈b.toList.drop ib,ρ x<=ρ y:=λy hy=>by
 have:=j.b;rw[kY e]at this hy;rcases acV.mp hy with rfl|hy
 ·exact acS _
 ·exact(List.pairwise_cons.mp this).1 y hy
def Left(ρ:Keyed->Nat)(L:List Keyed)(a b:Array Keyed)(t:Nat)(out:Array Keyed)(ia ib:Nat):Prop:=V ρ L a b out ia ib/\ia+1<a.size/\ib<b.size/\t<=ia+ib
def PG(ρ:Keyed->Nat)(L:List Keyed)(a b:Array Keyed)(t:Nat)(cy:SortSt)(r:ForInStep GS)(st:SortSt):Prop:=Kp cy st/\match r with
 | .done c=>(∃arr,c.1=some arr/\Good ρ L arr.toList)\/(c.1=none/\Left ρ L a b t c.2.1 c.2.2.1 c.2.2.2.1)
 | .yield c=>c.1=none/\Left ρ L a b t c.2.1 c.2.2.1 c.2.2.2.1
structure xo(ρ:Keyed->Nat)(P:Keyed->Prop)(a b:Array Keyed):Prop where
 pa:∀x∈a.toList,P x
 pb:∀x∈b.toList,P x
 sa:So ρ a.toList
 sb:So ρ b.toList
 a1:1<=a.size
 b1:1<=b.size
 z:∀y∈b.toList,∀z,a[a.size-1]?=some z->ρ y<=ρ z
 y:∀y∈a.toList,∀z,b[0]?=some z->ρ z<=ρ y
theorem xg{st cy:SortSt}{g k k1 t:Nat}(T:xo ρ P a b)(hK:Kp cy st)(j:V ρ L a b out ia ib)(h1:ia+1<a.size)(h2:ib<b.size)(ht:t<=ia+ib)
  (h:∀x,a[ia]?=some x->∀y∈b.toList.drop ib,ρ x<=ρ y):wpS M Ar E s (IV a b out ia ib g k k1) (PG ρ L a b t cy) st:=by
 unfold IV;obtain⟨y,ey,py⟩:=dq T.pa (show ia<a.size by omega)
 refine acY (bj ey ?_);have j':=j.qH ey (h y ey)
 by_cases e:ia+1+1=a.size
 ·rw[if_pos (by simpa using e)]
  exact ac7 ⟨hK,.inl ⟨_,rfl,j'.zV e T.z⟩⟩
 ·rw[if_neg (by simpa using e)]
  split
  ·exact ac7 ⟨hK,.inr ⟨rfl,j',by show ia+1+1<a.size;omega,h2,by show t<=ia+1+ib;omega⟩⟩
  ·exact ac7 ⟨hK,rfl,j',by show ia+1+1<a.size;omega,h2,by show t<=ia+1+ib;omega⟩
theorem xf{st cy:SortSt}{g k bc t:Nat}(hL:gF M Ar E s ρ kd P)(hk:kindOf cy=kd)(T:xo ρ P a b)(hK:Kp cy st)(j:V ρ L a b out ia ib)(h1:ia+1<a.size)(h2:ib<b.size)(ht:t<=ia+ib)
  (h:∀x,b[ib]?=some x->∀y∈a.toList.drop ia,ρ x<=ρ y):wpS M Ar E s (IU a b out ia ib g k bc) (PG ρ L a b t cy) st:=by
 unfold IU;obtain⟨x,ex,px⟩:=dq T.pb h2;obtain⟨y,ey,py⟩:=dq T.pa (show ia<a.size by omega)
 refine acY (bj ex ?_);have j':=j.qI ex (h x ex)
 by_cases e:ib+1=b.size
 ·rw[if_pos (by simpa using e)]
  exact ac7 ⟨hK,.inl ⟨_,rfl,j'.iY e⟩⟩
 ·rw[if_neg (by simpa using e)]
  refine acY (bj ey ?_);refine acY (Hr hL (hK.k.trans hk) py T.pb T.sb ⋯ λk1 sj q1 q2=>?_)
  dsimp only;have j2:=j'.jJ (k:=k1) λx hx z hz=>adq (adU (q1 x hx)) (j'.L8 ey z hz)
  by_cases zG:k1>0
  ·rw[if_pos zG]
   by_cases e2:ib+1+k1=b.size
   ·rw[if_pos (by simpa using e2)]
    exact ac7 ⟨hK,.inl ⟨_,rfl,j2.iY e2⟩⟩
   ·rw[if_neg (by simpa using e2)]
    exact xg T hK j2 h1 ⋯ ⋯ λx' mD z hz=>by rw[ey]at mD;cases mD;exact q2 z hz
  ·rw[if_neg zG]
   have:k1=0:=by omega
   subst this;exact xg T hK j' h1 ⋯ ⋯ λx' mD z hz=>by rw[ey]at mD;cases mD;exact q2 z hz
theorem xc{st cy:SortSt}{g ac bc t:Nat}(hL:gF M Ar E s ρ kd P)(hk:kindOf cy=kd)(T:xo ρ P a b)(hK:Kp cy st)(j:Left ρ L a b t out ia ib):wpS M Ar E s (IQ a b out ia ib g ac bc) (PG ρ L a b t cy) st:=by
 obtain⟨j,h1,h2,ht⟩:=j;unfold IQ;obtain⟨x,ex,px⟩:=dq T.pb h2;refine acY (bj ex ?_);refine acY (Hs hL (hK.k.trans hk) px T.pa T.sa ⋯ λk sj q1 q2=>?_)
 dsimp only;have j2:=j.jI (k:=k) λz hz y hy=>adq (q1 z hz) (j.L9 ex y hy)
 by_cases zG:k>0
 ·rw[if_pos zG]
  by_cases e:ia+k+1=a.size
  ·rw[if_pos (by simpa using e)]
   exact ac7 ⟨hK,.inl ⟨_,rfl,j2.zV e T.z⟩⟩
  ·rw[if_neg (by simpa using e)]
   by_cases e2:ia+k=a.size
   ·rw[if_pos (by simpa using e2)]
    exact ac7 ⟨hK,.inl ⟨_,rfl,j2.iX e2⟩⟩
   ·rw[if_neg (by simpa using e2)]
    exact xf hL hk T hK j2 ⋯ h2 ⋯ λx' mD z hz=>by rw[ex]at mD;cases mD;exact adU (q2 z hz)
 ·rw[if_neg zG]
  have:k=0:=by omega
  subst this;exact xf hL hk T hK j h1 h2 ht λx' mD z hz=>by rw[ex]at mD;cases mD;exact adU (q2 z hz)
abbrev IS:=Option (Array Keyed)×Array Keyed×Nat×Nat×Nat×Nat
abbrev OS:=Option (Array Keyed)×Array Keyed×Nat×Nat×Nat
def loI(a b:Array Keyed)(g:Nat)(c:IS):StateT SortSt Sem (ForInStep IS):=do
 let x <- elem' b c.2.2.2.1
 let y <- elem' a c.2.2.1
 let r <- lt' x y
 match r with
 | some w =>
  if w=true then do
   let x <- elem' b c.2.2.2.1
   if(c.2.2.2.1+1==b.size)=true then pure (ac3 (some (c.2.1.push x++a.extract c.2.2.1 a.size++b.extract (c.2.2.2.1+1) b.size),c.2.1.push x,c.2.2.1,c.2.2.2.1+1,0,c.2.2.2.2.2+1))
   else if c.2.2.2.2.2+1>=g then pure (ac3 (none,c.2.1.push x,c.2.2.1,c.2.2.2.1+1,0,c.2.2.2.2.2+1))
   else pure (ado (none,c.2.1.push x,c.2.2.1,c.2.2.2.1+1,0,c.2.2.2.2.2+1))
  else do
   let y <- elem' a c.2.2.1
   if(c.2.2.1+1+1==a.size)=true then pure (ac3 (some (c.2.1.push y++b.extract c.2.2.2.1 b.size++a.extract (c.2.2.1+1) a.size),c.2.1.push y,c.2.2.1+1,c.2.2.2.1,c.2.2.2.2.1+1,0))
   else if c.2.2.2.2.1+1>=g then pure (ac3 (none,c.2.1.push y,c.2.2.1+1,c.2.2.2.1,c.2.2.2.2.1+1,0))
   else pure (ado (none,c.2.1.push y,c.2.2.1+1,c.2.2.2.1,c.2.2.2.2.1+1,0))
 | _=>pure (ac3 (some (c.2.1++a.extract c.2.2.1 a.size++b.extract c.2.2.2.1 b.size),c.2.1,c.2.2.1,c.2.2.2.1,c.2.2.2.2.1,c.2.2.2.2.2))
def loG(a b:Array Keyed)(c:GS):StateT SortSt Sem (ForInStep GS):=
 if c.2.2.2.2.1>1 then do
  eS (c.2.2.2.2.1-1)
  IQ a b c.2.1 c.2.2.1 c.2.2.2.1 (c.2.2.2.2.1-1) c.2.2.2.2.2.1 c.2.2.2.2.2.2
 else do
  eS c.2.2.2.2.1
  IQ a b c.2.1 c.2.2.1 c.2.2.2.1 c.2.2.2.2.1 c.2.2.2.2.2.1 c.2.2.2.2.2.2
def loE(r:GS):StateT SortSt Sem (ForInStep OS):=
 match r.1 with
 | some arr=>pure (ac3 (some arr,r.2.1,r.2.2.1,r.2.2.2.1,r.2.2.2.2.1))
 | none=>do
  eS (r.2.2.2.2.1+1)
  pure (ado (none,r.2.1,r.2.2.1,r.2.2.2.1,r.2.2.2.2.1+1))
def loN(a b:Array Keyed)(g:Nat)(r:IS):StateT SortSt Sem (ForInStep OS):=
 match r.1 with
 | some arr=>pure (ac3 (some arr,r.2.1,r.2.2.1,r.2.2.2.1,g))
 | none=>do
  liftM (rule "list.sort.gallop")
  let r2 <- forIn [0:a.size+b.size] ((none,r.2.1,r.2.2.1,r.2.2.2.1,g+1,r.2.2.2.2.1,r.2.2.2.2.2):GS) λ_ t=>loG a b t
  loE r2
def loO(a b:Array Keyed)(c:OS):StateT SortSt Sem (ForInStep OS):=do
 let r <- forIn [0:a.size+b.size] ((none,c.2.1,c.2.2.1,c.2.2.2.1,0,0):IS) λ_ r=>loI a b c.2.2.2.2 r
 loN a b c.2.2.2.2 r
def loZ(r:OS):StateT SortSt Sem (Array Keyed):=
 match r.1 with
 | some arr=>pure arr
 | none=>unsupported "internal:list.sort.merge-bound"
theorem sx(a b:Array Keyed):oq a b=(do
 liftM (rule "list.sort.merge-lo")
 let x <- elem' b 0
 if(1==b.size)=true then pure (#[x]++a.extract 0 a.size++b.extract 1 b.size)
 else if(0+1==a.size)=true then pure (#[x]++b.extract 1 b.size++a.extract 0 a.size)
 else do
  let st <- get
  let r <- forIn [0:a.size+b.size] ((none,#[x],0,1,gallopOf st):OS) λ_ r=>loO a b r
  loZ r):=by kernel_rfl
theorem KY{cy st:SortSt}{g n m:Nat}{c:IS}(hL:gF M Ar E s ρ kd P)(hk:kindOf cy=kd)(T:xo ρ P a b)(hK:Kp cy st)(j:Left ρ L a b (n+1+min m 1) c.2.1 c.2.2.1 c.2.2.2.1):
  wpS M Ar E s (loI a b g c) (λr aA=>Kp cy aA/\match r with
   | .done c=>(∃arr,c.1=some arr/\Good ρ L arr.toList)\/(c.1=none/\Left ρ L a b (n+1+1) c.2.1 c.2.2.1 c.2.2.2.1)
   | .yield c=>c.1=none/\Left ρ L a b (n+1+min (m+1) 1) c.2.1 c.2.2.1 c.2.2.2.1) st:=by
 obtain⟨ret,out,ia,ib,ac,bc⟩:=c;obtain⟨j,l1,l2,l3⟩:=j;dsimp only at j l1 l2 l3;unfold loI;dsimp only;obtain⟨x,ex,px⟩:=dq T.pb l2;obtain⟨y,ey,py⟩:=dq T.pa (show ia<a.size by omega)
 refine acY (bj ex (acY (bj ey (acY (hL x y st _ px py (hK.k.trans hk) ?_)))))
 by_cases jr:ρ x<ρ y
 ·rw[decide_eq_true jr]
  refine acY (bj ex ?_);have j':=j.qI ex λz hz=>adq (adU jr) (j.L8 ey z hz)
  by_cases e:ib+1=b.size
  ·rw[if_pos (by simpa using e)]
   exact ac7 ⟨hK,.inl ⟨_,rfl,j'.iY e⟩⟩
  ·rw[if_neg (by simpa using e)]
   split
   ·exact ac7 ⟨hK,.inr ⟨rfl,j',by show ia+1<a.size;omega,by show ib+1<b.size;omega,by show n+1+1<=ia+(ib+1);omega⟩⟩
   ·exact ac7 ⟨hK,rfl,j',by show ia+1<a.size;omega,by show ib+1<b.size;omega,by show n+1+min (m+1) 1<=ia+(ib+1);omega⟩
 ·rw[decide_eq_false jr]
  refine acY (bj ey ?_);have j':=j.qH ey λz hz=>adq (Nat.not_lt.mp jr) (j.L9 ex z hz)
  by_cases e:ia+1+1=a.size
  ·rw[if_pos (by simpa using e)]
   exact ac7 ⟨hK,.inl ⟨_,rfl,j'.zV e T.z⟩⟩
  ·rw[if_neg (by simpa using e)]
   split
   ·exact ac7 ⟨hK,.inr ⟨rfl,j',by show ia+1+1<a.size;omega,by show ib<b.size;omega,by show n+1+1<=ia+1+ib;omega⟩⟩
   ·exact ac7 ⟨hK,rfl,j',by show ia+1+1<a.size;omega,by show ib<b.size;omega,by show n+1+min (m+1) 1<=ia+1+ib;omega⟩
theorem KW{cy st:SortSt}{t:Nat}{c:GS}(hL:gF M Ar E s ρ kd P)(hk:kindOf cy=kd)(T:xo ρ P a b)(hK:Kp cy st)(j:Left ρ L a b t c.2.1 c.2.2.1 c.2.2.2.1):wpS M Ar E s (loG a b c) (PG ρ L a b t cy) st:=by
 unfold loG
 split
 ·rw[eJ]
  exact acY (wpS_modify (xc hL hk T (hK.min _) j))
 ·rw[eJ]
  exact acY (wpS_modify (xc hL hk T (hK.min _) j))
def PO(ρ:Keyed->Nat)(L:List Keyed)(a b:Array Keyed)(t:Nat)(cy:SortSt)(r:ForInStep OS)(st:SortSt):Prop:=match r with
 | .done c=>Kp cy st/\∃arr,c.1=some arr/\Good ρ L arr.toList
 | .yield c=>Kp cy st/\c.1=none/\Left ρ L a b t c.2.1 c.2.2.1 c.2.2.2.1
theorem KZ{cy st:SortSt}{g n:Nat}{r:IS}(hL:gF M Ar E s ρ kd P)(hk:kindOf cy=kd)(T:xo ρ P a b)(hK:Kp cy st)
  (h:(∃arr,r.1=some arr/\Good ρ L arr.toList)\/(r.1=none/\Left ρ L a b (n+1+1) r.2.1 r.2.2.1 r.2.2.2.1)):wpS M Ar E s (loN a b g r) (PO ρ L a b (n+1+1) cy) st:=by
 obtain⟨ret,r⟩:=r;unfold loN;rcases h with⟨arr,h1,h2⟩|⟨h1,hl⟩
 ·dsimp only at h1
  subst h1;exact ac7 ⟨hK,arr,rfl,h2⟩
 ·dsimp only at h1 hl
  subst h1;refine acY (wpS_lift (wpAny_rule ⟨rfl,?_⟩));refine acY (aeo (ad4 (I:=λx c aA=>Kp cy aA/\c.1=none/\Left ρ L a b (n+1+1) c.2.1 c.2.2.1 c.2.2.2.1)
   (Q:=λc aA=>Kp cy aA/\((∃arr,c.1=some arr/\Good ρ L arr.toList)\/(c.1=none/\Left ρ L a b (n+1+1) c.2.1 c.2.2.1 c.2.2.2.1))) ?gstep ?gfin ⟨hK,rfl,hl⟩) ?gpost)
  case gfin =>
   rintro c aA ⟨hK,h1,hl⟩;exact⟨hK,.inr ⟨h1,hl⟩⟩
  case gstep =>
   rintro m c aA _ hm ⟨hK,h1,hl⟩;refine aeo (KW hL hk T hK hl) λr dn hr=>?_;obtain⟨k1,k2⟩:=hr;cases r with
   | done c=>exact⟨k1,k2⟩
   | yield c=>exact⟨k1,k2⟩
  case gpost =>
   rintro⟨ret,r⟩ aA ⟨hK,⟨arr,h1,h2⟩|⟨h1,hl⟩⟩
   ·dsimp only at h1
    subst h1;exact ac7 ⟨hK,arr,rfl,h2⟩
   ·dsimp only at h1 hl
    subst h1;unfold loE;rw[eJ];exact acY (wpS_modify (ac7 ⟨hK.min _,rfl,hl⟩))
theorem K0{cy st:SortSt}{n:Nat}{c:OS}(hL:gF M Ar E s ρ kd P)(hk:kindOf cy=kd)(T:xo ρ P a b)(hn:0<a.size+b.size)(hK:Kp cy st)(hl:Left ρ L a b (n+1) c.2.1 c.2.2.1 c.2.2.2.1):wpS M Ar E s (loO a b c) (PO ρ L a b (n+1+1) cy) st:=by
 unfold loO;refine acY (aeo (ad4 (I:=λx c aA=>Kp cy aA/\c.1=none/\Left ρ L a b (n+1+min x 1) c.2.1 c.2.2.1 c.2.2.2.1)
  (Q:=λc aA=>Kp cy aA/\((∃arr,c.1=some arr/\Good ρ L arr.toList)\/(c.1=none/\Left ρ L a b (n+1+1) c.2.1 c.2.2.1 c.2.2.2.1))) ?istep ?ifin ⟨hK,rfl,by simpa using hl⟩) ?ipost)
 case ifin =>
  rintro c aA ⟨hK,h1,hl⟩;rw[show min (max 0 (a.size+b.size)) 1=1 by omega]at hl
  exact⟨hK,.inr ⟨h1,hl⟩⟩
 case istep =>
  rintro m c aA _ hm ⟨hK,h1,hl⟩;refine aeo (KY hL hk T hK hl) λr dn hr=>?_;obtain⟨k1,k2⟩:=hr;cases r with
  | done c=>exact⟨k1,k2⟩
  | yield c=>exact⟨k1,k2⟩
 case ipost =>
  rintro r aA ⟨hK,h⟩;exact KZ hL hk T hK h
theorem xi{st:SortSt}{Q:Array Keyed->SortSt->Prop}(hL:gF M Ar E s ρ kd P)(hk:kindOf st=kd)(T:xo ρ P a b)
  (q:∀r aA,Kp st aA->Good ρ (a.toList++b.toList) r.toList->Q r aA):wpS M Ar E s (oq a b) Q st:=by
 rw[sx];refine acY (wpS_lift (wpAny_rule ⟨rfl,?_⟩));obtain⟨x,ex,px⟩:=dq T.pb (show 0<b.size from T.b1)
 refine acY (bj ex ?_);have j0:V ρ (a.toList++b.toList) a b #[] 0 0:=⟨List.Pairwise.nil,by simpa using T.sa,by simpa using T.sb,(λx hx=>by cases hx),(λx hx=>by cases hx),by simp⟩
 have j1:V ρ (a.toList++b.toList) a b #[x] 0 1:=by simpa using j0.qI ex λy hy=>T.y y (by simpa using hy) x ex
 by_cases e:1=b.size
 ·rw[if_pos (by simpa using e)]
  exact ac7 (q _ st .refl (j1.iY e))
 ·rw[if_neg (by simpa using e)]
  by_cases e2:0+1=a.size
  ·rw[if_pos (by simpa using e2)]
   exact ac7 (q _ st .refl (j1.zV e2 T.z))
  ·rw[if_neg (by simpa using e2)]
   have b1:=T.b1;have a1:=T.a1;refine acY (wpS_get ?_);refine acY (aeo (ad4 (I:=λx c aA=>Kp st aA/\c.1=none/\Left ρ (a.toList++b.toList) a b (x+1) c.2.1 c.2.2.1 c.2.2.2.1)
    (Q:=λc aA=>Kp st aA/\∃arr,c.1=some arr/\Good ρ (a.toList++b.toList) arr.toList) ?step ?fin ⟨.refl,rfl,j1,by show 0+1<a.size;omega,by show 1<b.size;omega,by show 0+1<=0+1;omega⟩) ?post)
   case fin =>
    rintro⟨ret,out,ia,ib,g⟩ aA ⟨hK,h1,j,h2,h3,h4⟩;dsimp only at h2 h3 h4;omega
   case post =>
    rintro⟨ret,r⟩ aA ⟨hK,arr,h1,h2⟩;dsimp only at h1;subst h1;exact ac7 (q arr aA hK h2)
   case step =>
    rintro n c aA _ hn ⟨hK,h1,hl⟩;refine aeo (K0 hL hk T ⋯ hK hl) λr dn hr=>?_
    cases r with
    | done c=>exact hr
    | yield c=>exact hr
end
end Vs
namespace Vs
open PySem PyProof.Rows
structure H(ρ:Keyed->Nat)(L O A B:List Keyed):Prop where
 o:So ρ O
 a:So ρ A
 b:So ρ B
 oa:∀x∈A,∀y∈O,ρ x<=ρ y
 ob:∀x∈B,∀y∈O,ρ x<=ρ y
 p:(A++(B++O)).Perm L
section
variable {ρ:Keyed->Nat}{L O A B X:List Keyed}{x z:Keyed}
theorem H.jJ(j:H ρ L O A (B++X))(h:∀x∈X,∀y∈A,ρ y<=ρ x):H ρ L (X++O) A B:=by
 obtain⟨a1,a2,a3⟩:=adQ.mp j.b;refine⟨So.app a2 j.o λx hx y hy=>j.ob x (adg _ hx) y hy,j.a,a1,λx hx y hy=>?_,λx hx y hy=>?_,?_⟩
 ·rcases adj.mp hy with hy|hy
  ·exact h y hy x hx
  ·exact j.oa x hx y hy
 ·rcases adj.mp hy with hy|hy
  ·exact a3 x hx y hy
  ·exact j.ob x (ad2 _ hx) y hy
 ·have:=j.p
  simpa [adA]using this
theorem H.jI(j:H ρ L O (A++X) B)(h:∀x∈X,∀y∈B,ρ y<=ρ x):H ρ L (X++O) A B:=by
 obtain⟨a1,a2,a3⟩:=adQ.mp j.a;refine⟨So.app a2 j.o λx hx y hy=>j.oa x (adg _ hx) y hy,a1,j.b,λx hx y hy=>?_,λx hx y hy=>?_,?_⟩
 ·rcases adj.mp hy with hy|hy
  ·exact a3 x hx y hy
  ·exact j.oa x (ad2 _ hx) y hy
 ·rcases adj.mp hy with hy|hy
  ·exact h y hy x hx
  ·exact j.ob x hx y hy
 ·refine List.Perm.trans ?_ j.p
  rw[adA];refine List.Perm.append_left A ?_;rw[<- adA,<- adA];exact aej O List.perm_append_comm
theorem H.iY(j:H ρ L O A []):Good ρ L (A++O):=⟨So.app j.a j.o j.oa,by simpa using j.p⟩
theorem H.iX(j:H ρ L O [] B):Good ρ L (B++O):=⟨So.app j.b j.o j.ob,by simpa using j.p⟩
theorem H.first(j:H ρ L O A [z])(h:∀y∈A,ρ z<=ρ y):Good ρ L ([z]++A++O):=by
 refine⟨So.app (So.app (List.pairwise_singleton ..) j.a λx hx y hy=>by rw[acU.mp hx];exact h y hy) j.o λx hx y hy=>?_,?_⟩
 ·rcases adj.mp hx with hx|hx
  ·exact j.ob x hx y hy
  ·exact j.oa x hx y hy
 ·refine List.Perm.trans ?_ j.p
  rw[<- adA];exact aej O List.perm_append_comm
end
theorem kX{a:Array Keyed}{n:Nat}{x:Keyed}(h1:1<=n)(h:a[n-1]?=some x):a.toList.take n=a.toList.take (n-1)++[x]:=by
 obtain⟨m,rfl⟩:∃m,n=m+1:=⟨n-1,by omega⟩
 rw[Nat.add_sub_cancel]at h ⊢;rw[List.take_add_one];have:a.toList[m]?=some x:=by simpa using h
 rw[this];rfl
theorem mj(a:Array Keyed)(n:Nat):(a.extract 0 n).toList=a.toList.take n:=by
 rw[Array.toList_extract];rfl
theorem nA(a:Array Keyed)(i n:Nat):(a.extract i n).toList=(a.toList.take n).drop i:=by
 rw[Array.toList_extract];show(a.toList.drop i).take (n-i)=_;rw[List.drop_take]
theorem wU(a:Array Keyed){i n:Nat}(h:i<=n):a.toList.take n=a.toList.take i++(a.toList.take n).drop i:=by
 have:=(List.take_append_drop i (a.toList.take n)).symm
 rwa [List.take_take,Nat.min_eq_left h]at this
theorem Hh{a:Array Keyed}{n:Nat}{x:Keyed}(h:x∈a.toList.take n):∃m,m<n/\m<a.size/\a[m]?=some x:=by
 obtain⟨m,hm,e⟩:=aee.mp h;rw[aei]at hm;rw[List.getElem_take]at e;have hs:m<a.size:=by have:a.toList.length=a.size:=rfl;omega
 exact⟨m,by omega,hs,by rw[adb hs];exact congrArg some (by simpa using e)⟩
theorem h8{a:Array Keyed}{i n:Nat}{x:Keyed}(h:x∈(a.toList.take n).drop i):∃m,i<=m/\m<n/\m<a.size/\a[m]?=some x:=by
 obtain⟨m,hm,e⟩:=aee.mp h;rw[aeh,aei]at hm;rw[List.getElem_drop,List.getElem_take]at e;have hs:i+m<a.size:=by have:a.toList.length=a.size:=rfl;omega
 exact⟨i+m,by omega,by omega,hs,by rw[adb hs];exact congrArg some (by simpa using e)⟩
section
variable {M:Model}{Ar:Around}{E:Value->Shared->Prop}{s:Shared}{ρ:Keyed->Nat}{kd:aea}{P:Keyed->Prop}{a b out:Array Keyed}{L:List Keyed}{na nb:Nat}
theorem Hu{key:Keyed}{arr:Array Keyed}{n:Nat}{st:SortSt}{Q:Option Nat->SortSt->Prop}(hL:gF M Ar E s ρ kd P)(hk:kindOf st=kd)(pk:P key)(pa:∀x∈arr.toList,P x)(hs:So ρ arr.toList)(hn:n<=arr.size)(h1:1<=n)
  (q:∀k,k<=n->(∀x∈arr.toList.take k,ρ x<=ρ key)->(∀x∈(arr.toList.take n).drop k,ρ key<ρ x)->Q (some k) st):wpS M Ar E s (cG false key arr 0 n (n-1)) Q st:=by
 refine dI (tells hL hk pk λi hi=>dq pa ⋯) (λi j lA hj h=>?_) ⋯ λk sj h1 h2=>q k ⋯ (λx hx=>?_) λx hx=>?_
 ·have:=hs.seg (0+i) (0+j) (adz _) ⋯ ⋯
  simp only[p0,ac1,if_false,ad9,decide_eq_false_iff_not]at h ⊢;omega
 ·obtain⟨m,hm,lC,e⟩:=Hh hx
  have:=h1 m hm;simp only[p0,ac1,if_false,ad9,decide_eq_false_iff_not,Nat.zero_add,dm e]at this;omega
 ·obtain⟨m,hm,lC,hm3,e⟩:=h8 hx
  have:=h2 m hm lC;simp only[p0,ac1,if_false,Nat.zero_add,dm e,Bool.not_eq_false',decide_eq_true_eq]at this;exact this
theorem Ht{key:Keyed}{arr:Array Keyed}{n:Nat}{st:SortSt}{Q:Option Nat->SortSt->Prop}(hL:gF M Ar E s ρ kd P)(hk:kindOf st=kd)(pk:P key)(pa:∀x∈arr.toList,P x)(hs:So ρ arr.toList)(hn:n<=arr.size)(h1:1<=n)
  (q:∀k,k<=n->(∀x∈arr.toList.take k,ρ x<ρ key)->(∀x∈(arr.toList.take n).drop k,ρ key<=ρ x)->Q (some k) st):wpS M Ar E s (cG true key arr 0 n (n-1)) Q st:=by
 refine dI (tells hL hk pk λi hi=>dq pa ⋯) (λi j lA hj h=>?_) ⋯ λk sj h1 h2=>q k ⋯ (λx hx=>?_) λx hx=>?_
 ·have:=hs.seg (0+i) (0+j) (adz _) ⋯ ⋯
  simp only[p0,if_true,decide_eq_true_eq]at h ⊢;omega
 ·obtain⟨m,hm,lC,e⟩:=Hh hx
  have:=h1 m hm;simp only[p0,if_true,decide_eq_true_eq,Nat.zero_add,dm e]at this;omega
 ·obtain⟨m,hm,lC,hm3,e⟩:=h8 hx
  have:=h2 m hm lC;simp only[p0,if_true,Nat.zero_add,dm e,decide_eq_false_iff_not]at this;omega
abbrev HS:=Option (Array Keyed)×Nat×Nat×Array Keyed×Nat×Nat×Nat
def IP(a b out:Array Keyed)(na nb g k k1:Nat):StateT SortSt Sem (ForInStep HS):=do
 let y <- elem' a (na-1)
 if(na-1==0)=true then pure (ac3 (some (a.extract 0 (na-1)++b.extract 0 nb++(out.push y).reverse),na-1,nb,out.push y,g,k,k1))
 else if(decide (k<7)&&decide (k1<7))=true then pure (ac3 (none,na-1,nb,out.push y,g,k,k1))
 else pure (ado (none,na-1,nb,out.push y,g,k,k1))
def IL(a b out:Array Keyed)(na nb g k bc:Nat):StateT SortSt Sem (ForInStep HS):=do
 let x <- elem' b (nb-1)
 if(nb-1==1)=true then pure (ac3 (some (b.extract 0 (nb-1)++a.extract 0 na++(out.push x).reverse),na,nb-1,out.push x,g,k,bc))
 else do
  let y <- elem' a (na-1)
  let r <- cG true y b 0 (nb-1) (nb-1-1)
  match r with
  | some at2 =>
   if nb-1-at2>0 then
    if(at2==1)=true then pure (ac3 (some (b.extract 0 at2++a.extract 0 na++(out.push x++(b.extract at2 (nb-1)).reverse).reverse),na,at2,out.push x++(b.extract at2 (nb-1)).reverse,g,k,nb-1-at2))
    else if(at2==0)=true then pure (ac3 (some (a.extract 0 na++b.extract 0 at2++(out.push x++(b.extract at2 (nb-1)).reverse).reverse),na,at2,out.push x++(b.extract at2 (nb-1)).reverse,g,k,nb-1-at2))
    else IP a b (out.push x++(b.extract at2 (nb-1)).reverse) na at2 g k (nb-1-at2)
   else IP a b (out.push x) na (nb-1) g k (nb-1-at2)
  | _=>pure (ac3 (some (a.extract 0 na++b.extract 0 (nb-1)++(out.push x).reverse),na,nb-1,out.push x,g,k,bc))
def El(a b out:Array Keyed)(na nb g ac bc:Nat):StateT SortSt Sem (ForInStep HS):=do
 let x <- elem' b (nb-1)
 let r <- cG false x a 0 na (na-1)
 match r with
 | some xK =>
  if na-xK>0 then
   if(xK==0)=true then pure (ac3 (some (a.extract 0 xK++b.extract 0 nb++(out++(a.extract xK na).reverse).reverse),xK,nb,out++(a.extract xK na).reverse,g,na-xK,bc))
   else IL a b (out++(a.extract xK na).reverse) xK nb g (na-xK) bc
  else IL a b out na nb g (na-xK) bc
 | _=>pure (ac3 (some (a.extract 0 na++b.extract 0 nb++out.reverse),na,nb,out,g,ac,bc))
def W(ρ:Keyed->Nat)(L:List Keyed)(a b out:Array Keyed)(na nb:Nat):Prop:=H ρ L out.toList.reverse (a.toList.take na) (b.toList.take nb)
theorem W.rT(j:W ρ L a b out na nb)(e:nb=1)(hb:1<=b.size)(hz:∀y∈a.toList,∀z,b[0]?=some z->ρ z<=ρ y):Good ρ L (b.extract 0 nb++a.extract 0 na++out.reverse).toList:=by
 subst e;have eb:b[0]?=some b[0]:=adb hb;have e1:b.toList.take 1=[b[0]]:=by rw[kX (acS 1) eb];rfl
 have j':H ρ L out.toList.reverse (a.toList.take na) (b.toList.take 1):=j;rw[e1]at j';rw[adx,adx,mj,mj,e1,Array.toList_reverse];exact j'.first λy hy=>hz y (List.mem_of_mem_take hy) _ eb
theorem W.iX(j:W ρ L a b out na nb)(e:na=0):Good ρ L (a.extract 0 na++b.extract 0 nb++out.reverse).toList:=by
 subst e;have j':H ρ L out.toList.reverse [] (b.toList.take nb):=j;rw[adx,adx,mj,mj,Array.toList_reverse];exact j'.iX
theorem W.iY(j:W ρ L a b out na nb)(e:nb=0):Good ρ L (a.extract 0 na++b.extract 0 nb++out.reverse).toList:=by
 subst e;have j':H ρ L out.toList.reverse (a.toList.take na) []:=j;rw[adx,adx,mj,mj,Array.toList_reverse,List.take_zero,adH];exact j'.iY
theorem W.qH{x:Keyed}(j:W ρ L a b out na nb)(h1:1<=na)(e:a[na-1]?=some x)(h:∀y∈b.toList.take nb,ρ y<=ρ x):W ρ L a b (out.push x) (na-1) nb:=by
 have j':H ρ L out.toList.reverse (a.toList.take na) (b.toList.take nb):=j;rw[kX h1 e]at j';show H ρ L (out.push x).toList.reverse _ _;rw[Array.toList_push,List.reverse_append];exact H.jI (X:=[x]) j' λz hz y hy=>by rw[acU.mp hz];exact h y hy
theorem W.qI{x:Keyed}(j:W ρ L a b out na nb)(h1:1<=nb)(e:b[nb-1]?=some x)(h:∀y∈a.toList.take na,ρ y<=ρ x):W ρ L a b (out.push x) na (nb-1):=by
 have j':H ρ L out.toList.reverse (a.toList.take na) (b.toList.take nb):=j;rw[kX h1 e]at j';show H ρ L (out.push x).toList.reverse _ _;rw[Array.toList_push,List.reverse_append];exact H.jJ (X:=[x]) j' λz hz y hy=>by rw[acU.mp hz];exact h y hy
theorem W.jI{k:Nat}(j:W ρ L a b out na nb)(hk:k<=na)(h:∀x∈(a.toList.take na).drop k,∀y∈b.toList.take nb,ρ y<=ρ x):W ρ L a b (out++(a.extract k na).reverse) k nb:=by
 have j':H ρ L out.toList.reverse (a.toList.take na) (b.toList.take nb):=j;rw[wU a hk]at j';show H ρ L (out++(a.extract k na).reverse).toList.reverse _ _;rw[adx,List.reverse_append,Array.toList_reverse,List.reverse_reverse,nA];exact H.jI j' h
theorem W.jJ{k:Nat}(j:W ρ L a b out na nb)(hk:k<=nb)(h:∀x∈(b.toList.take nb).drop k,∀y∈a.toList.take na,ρ y<=ρ x):W ρ L a b (out++(b.extract k nb).reverse) na k:=by
 have j':H ρ L out.toList.reverse (a.toList.take na) (b.toList.take nb):=j;rw[wU b hk]at j';show H ρ L (out++(b.extract k nb).reverse).toList.reverse _ _;rw[adx,List.reverse_append,Array.toList_reverse,List.reverse_reverse,nA];exact H.jJ j' h
theorem W.Ye{x:Keyed}(j:W ρ L a b out na nb)(h1:1<=na)(e:a[na-1]?=some x):∀y∈a.toList.take na,ρ y<=ρ x:=λy hy=>by
 have:=j.a;rw[kX h1 e]at this hy;rcases adj.mp hy with hy|hy
 ·exact(adQ.mp this).2.2 y hy x (acU.mpr rfl)
 ·rw[acU.mp hy];exact acS _
theorem W.Yf{x:Keyed}(j:W ρ L a b out na nb)(h1:1<=nb)(e:b[nb-1]?=some x):∀y∈b.toList.take nb,ρ y<=ρ x:=λy hy=>by
 have:=j.b;rw[kX h1 e]at this hy;rcases adj.mp hy with hy|hy
 ·exact(adQ.mp this).2.2 y hy x (acU.mpr rfl)
 ·rw[acU.mp hy];exact acS _
def dP(ρ:Keyed->Nat)(L:List Keyed)(a b:Array Keyed)(t:Nat)(out:Array Keyed)(na nb:Nat):Prop:=W ρ L a b out na nb/\1<=na/\2<=nb/\na<=a.size/\nb<=b.size/\na+nb+t<=a.size+b.size
def PH(ρ:Keyed->Nat)(L:List Keyed)(a b:Array Keyed)(t:Nat)(cy:SortSt)(r:ForInStep HS)(st:SortSt):Prop:=Kp cy st/\match r with
 | .done c=>(∃arr,c.1=some arr/\Good ρ L arr.toList)\/(c.1=none/\dP ρ L a b t c.2.2.2.1 c.2.1 c.2.2.1)
 | .yield c=>c.1=none/\dP ρ L a b t c.2.2.2.1 c.2.1 c.2.2.1
theorem xa{st cy:SortSt}{g k k1 t:Nat}(T:xo ρ P a b)(hK:Kp cy st)(j:W ρ L a b out na nb)(h1:1<=na)(h2:2<=nb)(h3:na<=a.size)(h4:nb<=b.size)(ht:na+nb+t<=a.size+b.size)
  (h:∀x,a[na-1]?=some x->∀y∈b.toList.take nb,ρ y<=ρ x):wpS M Ar E s (IP a b out na nb g k k1) (PH ρ L a b t cy) st:=by
 unfold IP;obtain⟨y,ey,py⟩:=dq T.pa (show na-1<a.size by omega)
 refine acY (bj ey ?_);have j':=j.qH h1 ey (h y ey)
 by_cases e:na-1=0
 ·rw[if_pos (by simpa using e)]
  exact ac7 ⟨hK,.inl ⟨_,rfl,j'.iX e⟩⟩
 ·rw[if_neg (by simpa using e)]
  have lf:dP ρ L a b t (out.push y) (na-1) nb:=⟨j',by omega,h2,by omega,h4,by omega⟩
  split
  ·exact ac7 ⟨hK,.inr ⟨rfl,lf⟩⟩
  ·exact ac7 ⟨hK,rfl,lf⟩
theorem w8{st cy:SortSt}{g k bc t:Nat}(hL:gF M Ar E s ρ kd P)(hk:kindOf cy=kd)(T:xo ρ P a b)(hK:Kp cy st)(j:W ρ L a b out na nb)(h1:1<=na)(h2:2<=nb)(h3:na<=a.size)(h4:nb<=b.size)(ht:na+nb+t<=a.size+b.size)
  (h:∀x,b[nb-1]?=some x->∀y∈a.toList.take na,ρ y<=ρ x):wpS M Ar E s (IL a b out na nb g k bc) (PH ρ L a b t cy) st:=by
 unfold IL;obtain⟨x,ex,px⟩:=dq T.pb (show nb-1<b.size by omega)
 obtain⟨y,ey,py⟩:=dq T.pa (show na-1<a.size by omega)
 refine acY (bj ex ?_);have j':=j.qI ⋯ ex (h x ex)
 by_cases e:nb-1=1
 ·rw[if_pos (by simpa using e)]
  exact ac7 ⟨hK,.inl ⟨_,rfl,j'.rT e T.b1 T.y⟩⟩
 ·rw[if_neg (by simpa using e)]
  refine acY (bj ey ?_);refine acY (Ht hL (hK.k.trans hk) py T.pb T.sb ⋯ ⋯ λk1 sj q1 q2=>?_)
  dsimp only;have j2:=j'.jJ sj λx hx z hz=>adq (j'.Ye h1 ey z hz) (q2 x hx)
  by_cases zG:nb-1-k1>0
  ·rw[if_pos zG]
   by_cases e2:k1=1
   ·rw[if_pos (by simpa using e2)]
    exact ac7 ⟨hK,.inl ⟨_,rfl,j2.rT e2 T.b1 T.y⟩⟩
   ·rw[if_neg (by simpa using e2)]
    by_cases e3:k1=0
    ·rw[if_pos (by simpa using e3)]
     exact ac7 ⟨hK,.inl ⟨_,rfl,j2.iY e3⟩⟩
    ·rw[if_neg (by simpa using e3)]
     exact xa T hK j2 h1 ⋯ h3 ⋯ ⋯ λx' mD z hz=>by rw[ey]at mD;cases mD;exact adU (q1 z hz)
  ·rw[if_neg zG]
   have:k1=nb-1:=by omega
   subst this;exact xa T hK j' h1 ⋯ h3 ⋯ ⋯ λx' mD z hz=>by rw[ey]at mD;cases mD;exact adU (q1 z hz)
theorem Hq{st cy:SortSt}{g ac bc t:Nat}(hL:gF M Ar E s ρ kd P)(hk:kindOf cy=kd)(T:xo ρ P a b)(hK:Kp cy st)(j:dP ρ L a b t out na nb):wpS M Ar E s (El a b out na nb g ac bc) (PH ρ L a b t cy) st:=by
 obtain⟨j,h1,h2,h3,h4,ht⟩:=j;unfold El;obtain⟨x,ex,px⟩:=dq T.pb (show nb-1<b.size by omega)
 refine acY (bj ex ?_);refine acY (Hu hL (hK.k.trans hk) px T.pa T.sa h3 h1 λk sj q1 q2=>?_);dsimp only;have j2:=j.jI sj λz hz y hy=>adq (j.Yf ⋯ ex y hy) (adU (q2 z hz))
 by_cases zG:na-k>0
 ·rw[if_pos zG]
  by_cases e:k=0
  ·rw[if_pos (by simpa using e)]
   exact ac7 ⟨hK,.inl ⟨_,rfl,j2.iX e⟩⟩
  ·rw[if_neg (by simpa using e)]
   exact w8 hL hk T hK j2 ⋯ h2 ⋯ h4 ⋯ λx' mD z hz=>by rw[ex]at mD;cases mD;exact q1 z hz
 ·rw[if_neg zG]
  have:k=na:=by omega
  subst this;exact w8 hL hk T hK j h1 h2 h3 h4 ht λx' mD z hz=>by rw[ex]at mD;cases mD;exact q1 z hz
abbrev HI:=Option (Array Keyed)×Nat×Nat×Array Keyed×Nat×Nat
abbrev HQ:=Option (Array Keyed)×Nat×Nat×Array Keyed×Nat
def hiI(a b:Array Keyed)(g:Nat)(c:HI):StateT SortSt Sem (ForInStep HI):=do
 let x <- elem' b (c.2.2.1-1)
 let y <- elem' a (c.2.1-1)
 let r <- lt' x y
 match r with
 | some w =>
  if w=true then do
   let y <- elem' a (c.2.1-1)
   if(c.2.1-1==0)=true then pure (ac3 (some (a.extract 0 (c.2.1-1)++b.extract 0 c.2.2.1++(c.2.2.2.1.push y).reverse),c.2.1-1,c.2.2.1,c.2.2.2.1.push y,c.2.2.2.2.1+1,0))
   else if c.2.2.2.2.1+1>=g then pure (ac3 (none,c.2.1-1,c.2.2.1,c.2.2.2.1.push y,c.2.2.2.2.1+1,0))
   else pure (ado (none,c.2.1-1,c.2.2.1,c.2.2.2.1.push y,c.2.2.2.2.1+1,0))
  else do
   let x <- elem' b (c.2.2.1-1)
   if(c.2.2.1-1==1)=true then pure (ac3 (some (b.extract 0 (c.2.2.1-1)++a.extract 0 c.2.1++(c.2.2.2.1.push x).reverse),c.2.1,c.2.2.1-1,c.2.2.2.1.push x,0,c.2.2.2.2.2+1))
   else if c.2.2.2.2.2+1>=g then pure (ac3 (none,c.2.1,c.2.2.1-1,c.2.2.2.1.push x,0,c.2.2.2.2.2+1))
   else pure (ado (none,c.2.1,c.2.2.1-1,c.2.2.2.1.push x,0,c.2.2.2.2.2+1))
 | _=>pure (ac3 (some (a.extract 0 c.2.1++b.extract 0 c.2.2.1++c.2.2.2.1.reverse),c.2.1,c.2.2.1,c.2.2.2.1,c.2.2.2.2.1,c.2.2.2.2.2))
def hiG(a b:Array Keyed)(c:HS):StateT SortSt Sem (ForInStep HS):=
 if c.2.2.2.2.1>1 then do
  eS (c.2.2.2.2.1-1)
  El a b c.2.2.2.1 c.2.1 c.2.2.1 (c.2.2.2.2.1-1) c.2.2.2.2.2.1 c.2.2.2.2.2.2
 else do
  eS c.2.2.2.2.1
  El a b c.2.2.2.1 c.2.1 c.2.2.1 c.2.2.2.2.1 c.2.2.2.2.2.1 c.2.2.2.2.2.2
def hiE(r:HS):StateT SortSt Sem (ForInStep HQ):=
 match r.1 with
 | some arr=>pure (ac3 (some arr,r.2.1,r.2.2.1,r.2.2.2.1,r.2.2.2.2.1))
 | none=>do
  eS (r.2.2.2.2.1+1)
  pure (ado (none,r.2.1,r.2.2.1,r.2.2.2.1,r.2.2.2.2.1+1))
def hiN(a b:Array Keyed)(g:Nat)(r:HI):StateT SortSt Sem (ForInStep HQ):=
 match r.1 with
 | some arr=>pure (ac3 (some arr,r.2.1,r.2.2.1,r.2.2.2.1,g))
 | none=>do
  liftM (rule "list.sort.gallop")
  let r2 <- forIn [0:a.size+b.size] ((none,r.2.1,r.2.2.1,r.2.2.2.1,g+1,r.2.2.2.2.1,r.2.2.2.2.2):HS) λ_ t=>hiG a b t
  hiE r2
def hiO(a b:Array Keyed)(c:HQ):StateT SortSt Sem (ForInStep HQ):=do
 let r <- forIn [0:a.size+b.size] ((none,c.2.1,c.2.2.1,c.2.2.2.1,0,0):HI) λ_ r=>hiI a b c.2.2.2.2 r
 hiN a b c.2.2.2.2 r
def hiZ(r:HQ):StateT SortSt Sem (Array Keyed):=
 match r.1 with
 | some arr=>pure arr
 | none=>unsupported "internal:list.sort.merge-bound"
theorem sv(a b:Array Keyed):oo a b=(do
 liftM (rule "list.sort.merge-hi")
 let x <- elem' a (a.size-1)
 if(a.size-1==0)=true then pure (a.extract 0 (a.size-1)++b.extract 0 b.size++(#[x]:Array Keyed).reverse)
 else if(b.size==1)=true then pure (b.extract 0 b.size++a.extract 0 (a.size-1)++(#[x]:Array Keyed).reverse)
 else do
  let st <- get
  let r <- forIn [0:a.size+b.size] ((none,a.size-1,b.size,#[x],gallopOf st):HQ) λ_ r=>hiO a b r
  hiZ r):=by kernel_rfl
theorem KR{cy st:SortSt}{g n m:Nat}{c:HI}(hL:gF M Ar E s ρ kd P)(hk:kindOf cy=kd)(T:xo ρ P a b)(hK:Kp cy st)(j:dP ρ L a b (n+1+min m 1) c.2.2.2.1 c.2.1 c.2.2.1):
  wpS M Ar E s (hiI a b g c) (λr aA=>Kp cy aA/\match r with
   | .done c=>(∃arr,c.1=some arr/\Good ρ L arr.toList)\/(c.1=none/\dP ρ L a b (n+1+1) c.2.2.2.1 c.2.1 c.2.2.1)
   | .yield c=>c.1=none/\dP ρ L a b (n+1+min (m+1) 1) c.2.2.2.1 c.2.1 c.2.2.1) st:=by
 obtain⟨ret,na,nb,out,ac,bc⟩:=c;obtain⟨j,l1,l2,l3,l4,l5⟩:=j;dsimp only at j l1 l2 l3 l4 l5;unfold hiI;dsimp only;obtain⟨x,ex,px⟩:=dq T.pb (show nb-1<b.size by omega)
 obtain⟨y,ey,py⟩:=dq T.pa (show na-1<a.size by omega)
 refine acY (bj ex (acY (bj ey (acY (hL x y st _ px py (hK.k.trans hk) ?_)))))
 by_cases jr:ρ x<ρ y
 ·rw[decide_eq_true jr]
  refine acY (bj ey ?_);have j':=j.qH l1 ey λz hz=>adq (j.Yf ⋯ ex z hz) (adU jr)
  by_cases e:na-1=0
  ·rw[if_pos (by simpa using e)]
   exact ac7 ⟨hK,.inl ⟨_,rfl,j'.iX e⟩⟩
  ·rw[if_neg (by simpa using e)]
   split
   ·exact ac7 ⟨hK,.inr ⟨rfl,j',by show 1<=na-1;omega,l2,by show na-1<=a.size;omega,l4,by show na-1+nb+(n+1+1)<=_;omega⟩⟩
   ·exact ac7 ⟨hK,rfl,j',by show 1<=na-1;omega,l2,by show na-1<=a.size;omega,l4,by show na-1+nb+(n+1+min (m+1) 1)<=_;omega⟩
 ·rw[decide_eq_false jr]
  refine acY (bj ex ?_);have j':=j.qI ⋯ ex λz hz=>adq (j.Ye l1 ey z hz) (Nat.not_lt.mp jr)
  by_cases e:nb-1=1
  ·rw[if_pos (by simpa using e)]
   exact ac7 ⟨hK,.inl ⟨_,rfl,j'.rT e T.b1 T.y⟩⟩
  ·rw[if_neg (by simpa using e)]
   split
   ·exact ac7 ⟨hK,.inr ⟨rfl,j',l1,by show 2<=nb-1;omega,l3,by show nb-1<=b.size;omega,by show na+(nb-1)+(n+1+1)<=_;omega⟩⟩
   ·exact ac7 ⟨hK,rfl,j',l1,by show 2<=nb-1;omega,l3,by show nb-1<=b.size;omega,by show na+(nb-1)+(n+1+min (m+1) 1)<=_;omega⟩
def PGH(ρ:Keyed->Nat)(L:List Keyed)(a b:Array Keyed)(t:Nat)(cy:SortSt)(r:ForInStep HQ)(st:SortSt):Prop:=match r with
 | .done c=>Kp cy st/\∃arr,c.1=some arr/\Good ρ L arr.toList
 | .yield c=>Kp cy st/\c.1=none/\dP ρ L a b t c.2.2.2.1 c.2.1 c.2.2.1
theorem KS{cy st:SortSt}{g n:Nat}{r:HI}(hL:gF M Ar E s ρ kd P)(hk:kindOf cy=kd)(T:xo ρ P a b)(hK:Kp cy st)
  (h:(∃arr,r.1=some arr/\Good ρ L arr.toList)\/(r.1=none/\dP ρ L a b (n+1+1) r.2.2.2.1 r.2.1 r.2.2.1)):wpS M Ar E s (hiN a b g r) (PGH ρ L a b (n+1+1) cy) st:=by
 obtain⟨ret,r⟩:=r;unfold hiN;rcases h with⟨arr,h1,h2⟩|⟨h1,hl⟩
 ·dsimp only at h1
  subst h1;exact ac7 ⟨hK,arr,rfl,h2⟩
 ·dsimp only at h1 hl
  subst h1;refine acY (wpS_lift (wpAny_rule ⟨rfl,?_⟩));refine acY (aeo (ad4 (I:=λx c aA=>Kp cy aA/\c.1=none/\dP ρ L a b (n+1+1) c.2.2.2.1 c.2.1 c.2.2.1)
   (Q:=λc aA=>Kp cy aA/\((∃arr,c.1=some arr/\Good ρ L arr.toList)\/(c.1=none/\dP ρ L a b (n+1+1) c.2.2.2.1 c.2.1 c.2.2.1))) ?gstep ?gfin ⟨hK,rfl,hl⟩) ?gpost)
  case gfin =>
   rintro c aA ⟨hK,h1,hl⟩;exact⟨hK,.inr ⟨h1,hl⟩⟩
  case gstep =>
   rintro m c aA _ hm ⟨hK,h1,hl⟩;have go:∀g,wpS M Ar E s (do eS g;El a b c.2.2.2.1 c.2.1 c.2.2.1 g c.2.2.2.2.2.1 c.2.2.2.2.2.2) (λr dn=>match r with
     | .done c=>Kp cy dn/\((∃arr,c.1=some arr/\Good ρ L arr.toList)\/(c.1=none/\dP ρ L a b (n+1+1) c.2.2.2.1 c.2.1 c.2.2.1))
     | .yield c=>Kp cy dn/\c.1=none/\dP ρ L a b (n+1+1) c.2.2.2.1 c.2.1 c.2.2.1) aA:=λg=>by
    rw[eJ];refine acY (wpS_modify (aeo (Hq hL hk T (hK.min g) hl) λr dn hr=>?_));obtain⟨k1,k2⟩:=hr;cases r with
    | done c=>exact⟨k1,k2⟩
    | yield c=>exact⟨k1,k2⟩
   unfold hiG
   split
   ·refine aeo (go _) λr dn hr=>?_
    cases r<;>exact hr
   ·refine aeo (go _) λr dn hr=>?_
    cases r<;>exact hr
  case gpost =>
   rintro⟨ret,r⟩ aA ⟨hK,⟨arr,h1,h2⟩|⟨h1,hl⟩⟩
   ·dsimp only at h1
    subst h1;exact ac7 ⟨hK,arr,rfl,h2⟩
   ·dsimp only at h1 hl
    subst h1;unfold hiE;rw[eJ];exact acY (wpS_modify (ac7 ⟨hK.min _,rfl,hl⟩))
theorem KU{cy st:SortSt}{n:Nat}{c:HQ}(hL:gF M Ar E s ρ kd P)(hk:kindOf cy=kd)(T:xo ρ P a b)(hn:0<a.size+b.size)(hK:Kp cy st)(hl:dP ρ L a b (n+1) c.2.2.2.1 c.2.1 c.2.2.1):wpS M Ar E s (hiO a b c) (PGH ρ L a b (n+1+1) cy) st:=by
 unfold hiO;refine acY (aeo (ad4 (I:=λx c aA=>Kp cy aA/\c.1=none/\dP ρ L a b (n+1+min x 1) c.2.2.2.1 c.2.1 c.2.2.1)
  (Q:=λc aA=>Kp cy aA/\((∃arr,c.1=some arr/\Good ρ L arr.toList)\/(c.1=none/\dP ρ L a b (n+1+1) c.2.2.2.1 c.2.1 c.2.2.1))) ?istep ?ifin ⟨hK,rfl,by simpa using hl⟩) ?ipost)
 case ifin =>
  rintro c aA ⟨hK,h1,hl⟩;rw[show min (max 0 (a.size+b.size)) 1=1 by omega]at hl
  exact⟨hK,.inr ⟨h1,hl⟩⟩
 case istep =>
  rintro m c aA _ hm ⟨hK,h1,hl⟩;refine aeo (KR hL hk T hK hl) λr dn hr=>?_;obtain⟨k1,k2⟩:=hr;cases r with
  | done c=>exact⟨k1,k2⟩
  | yield c=>exact⟨k1,k2⟩
 case ipost =>
  rintro r aA ⟨hK,h⟩;exact KS hL hk T hK h
theorem xh{st:SortSt}{Q:Array Keyed->SortSt->Prop}(hL:gF M Ar E s ρ kd P)(hk:kindOf st=kd)(T:xo ρ P a b)
  (q:∀r aA,Kp st aA->Good ρ (a.toList++b.toList) r.toList->Q r aA):wpS M Ar E s (oo a b) Q st:=by
 rw[sv];have b1:=T.b1;have a1:=T.a1;refine acY (wpS_lift (wpAny_rule ⟨rfl,?_⟩));obtain⟨x,ex,px⟩:=dq T.pa (show a.size-1<a.size by omega)
 refine acY (bj ex ?_);have j0:W ρ (a.toList++b.toList) a b #[] a.size b.size:=by
  have e1:a.toList.take a.size=a.toList:=List.take_of_length_le (acS _);have e2:b.toList.take b.size=b.toList:=List.take_of_length_le (acS _);unfold W;rw[e1,e2];exact⟨List.Pairwise.nil,T.sa,T.sb,(λx hx y hy=>by cases hy),(λx hx y hy=>by cases hy),by simp⟩
 have j1:W ρ (a.toList++b.toList) a b #[x] (a.size-1) b.size:=by simpa using j0.qH a1 ex λy hy=>T.z y (List.mem_of_mem_take hy) x ex
 by_cases e:a.size-1=0
 ·rw[if_pos (by simpa using e)]
  exact ac7 (q _ st .refl (by simpa using j1.iX e))
 ·rw[if_neg (by simpa using e)]
  by_cases e2:b.size=1
  ·rw[if_pos (by simpa using e2)]
   exact ac7 (q _ st .refl (by simpa using j1.rT e2 T.b1 T.y))
  ·rw[if_neg (by simpa using e2)]
   refine acY (wpS_get ?_);refine acY (aeo (ad4 (I:=λx c aA=>Kp st aA/\c.1=none/\dP ρ (a.toList++b.toList) a b (x+1) c.2.2.2.1 c.2.1 c.2.2.1)
    (Q:=λc aA=>Kp st aA/\∃arr,c.1=some arr/\Good ρ (a.toList++b.toList) arr.toList) ?step ?fin ⟨.refl,rfl,j1,by show 1<=a.size-1;omega,by show 2<=b.size;omega,by show a.size-1<=a.size;omega,by show b.size<=b.size;omega,by show a.size-1+b.size+(0+1)<=_;omega⟩) ?post)
   case fin =>
    rintro⟨ret,na,nb,out,g⟩ aA ⟨hK,h1,j,h2,h3,h4,h5,h6⟩;dsimp only at h2 h3 h4 h5 h6;omega
   case post =>
    rintro⟨ret,r⟩ aA ⟨hK,arr,h1,h2⟩;dsimp only at h1;subst h1;exact ac7 (q arr aA hK h2)
   case step =>
    rintro n c aA _ hn ⟨hK,h1,hl⟩;refine aeo (KU hL hk T ⋯ hK hl) λr dn hr=>?_
    cases r with
    | done c=>exact hr
    | yield c=>exact hr
end
end Vs
namespace Vs
open PySem PyProof.Rows
abbrev Run:=Nat×Nat×Nat
theorem vX(i:Nat):mergeAt' i=(do
 let s <- get
 let (some (sa,na,power),some (sb,nb,_)):=((ac6 s)[i]?,(ac6 s)[i+1]?)|unsupported "internal:list.sort.pending"
 set (setPending s (((ac6 s).setIfInBounds i (sa,na+nb,power)).eraseIdxIfInBounds (i+1)))
 let some k <- cG false (<- elem' (arrOf s) sb) (arrOf s) sa na 0|return false
 let (sa,na):=(sa+k,na-k)
 if na==0 then return true
 let some nb <- cG true (<- elem' (arrOf s) (sa+na-1)) (arrOf s) sb nb (nb-1)|return false
 if nb==0 then return true
 let x:=(arrOf s).extract sa sb
 let y:=(arrOf s).extract sb (sb+nb)
 let merged <- if na<=nb then oq x y else oo x y
 modify λs=>setArr s (merged.toList.zipIdx.foldl (λa (p,j)=>a.setIfInBounds (sa+j) p) (arrOf s))
 return(failedOf (<- get)).isNone):=rfl
def Ch(ρ:Keyed->Nat)(xs:Array Keyed):Nat->Nat->List Run->Prop
 | s,e,[]=>s=e
 | s,e,r::rs=>r.1=s/\1<=r.2.1/\Seg ρ xs s (s+r.2.1)/\Ch ρ xs (s+r.2.1) e rs
theorem Ch.app{ρ:Keyed->Nat}{xs:Array Keyed}:∀ {l m:List Run} {s e:Nat},Ch ρ xs s e (l++m) ↔ ∃t,Ch ρ xs s t l/\Ch ρ xs t e m
 | [],m,s,e=>⟨λh=>⟨s,rfl,h⟩,λ⟨t,h1,h2⟩=>by cases h1;exact h2⟩
 | r::l,m,s,e=>by
  constructor
  ·rintro⟨h1,h2,h3,h4⟩
   obtain⟨t,h5,h6⟩:=Ch.app.mp h4;exact⟨t,⟨h1,h2,h3,h5⟩,h6⟩
  ·rintro⟨t,⟨h1,h2,h3,h5⟩,h6⟩
   exact⟨h1,h2,h3,Ch.app.mpr ⟨t,h5,h6⟩⟩
theorem Ch.le{ρ:Keyed->Nat}{xs:Array Keyed}:∀ {l:List Run} {s e:Nat},Ch ρ xs s e l->s+l.length<=e
 | [],s,e,h=>by cases h;exact acS _
 | r::l,s,e,⟨_,h2,_,h4⟩=>by have:=Ch.le h4;simp only[adi];omega
theorem Seg.congr{ρ:Keyed->Nat}{xs ys:Array Keyed}{lo hi:Nat}(h:Seg ρ xs lo hi)(e:∀k,lo<=k->k<hi->ys[k]?=xs[k]?):Seg ρ ys lo hi:=λi j h1 h2 h3=>by
 rw[iq (e i h1 ⋯),iq (e j ⋯ h3)];exact h i j h1 h2 h3
theorem Ch.congr{ρ:Keyed->Nat}{xs ys:Array Keyed}:∀ {l:List Run} {s e:Nat},Ch ρ xs s e l->(∀k,s<=k->k<e->ys[k]?=xs[k]?)->Ch ρ ys s e l
 | [],s,e,h,_=>h
 | r::l,s,e,⟨h1,h2,h3,h4⟩,q=>by
  have:=Ch.le h4;exact⟨h1,h2,h3.congr λk a b=>q k a ⋯,Ch.congr h4 λk a b=>q k ⋯ b⟩
theorem sQ(off:Nat):∀(m:List Keyed) (n:Nat) (xs:Array Keyed),off+n+m.length<=xs.size->∀k:Nat,
  ((m.zipIdx n).foldl (λa (p,j)=>a.setIfInBounds (off+j) p) xs)[k]?=(if off+n<=k/\k<off+n+m.length then m[k-(off+n)]? else xs[k]?)/\((m.zipIdx n).foldl (λa (p,j)=>a.setIfInBounds (off+j) p) xs).size=xs.size
 | [],n,xs,h,k=>⟨by rw[if_neg (by simp only[List.length_nil];omega)];rfl,rfl⟩
 | p::m,n,xs,h,k=>by
  simp only[adi]at h;rw[List.zipIdx_cons,List.foldl_cons];have ih:=sQ off m (n+1) (xs.setIfInBounds (off+n) p) (by rw[Array.size_setIfInBounds];omega) k
  refine⟨?_,by rw[ih.2,Array.size_setIfInBounds]⟩
  rw[ih.1];simp only[adi]
  by_cases h1:off+(n+1)<=k/\k<off+(n+1)+m.length
  ·rw[if_pos h1,if_pos ⋯,show k-(off+n)=k-(off+(n+1))+1 by omega,adM]
  ·rw[if_neg h1]
   by_cases h2:k=off+n
   ·subst h2
    rw[if_pos ⋯,Nat.sub_self,aeA,Array.getElem?_setIfInBounds_self_of_lt ⋯]
   ·rw[if_neg ⋯,Array.getElem?_setIfInBounds_ne ⋯]
theorem Gb{off:Nat}{m:List Keyed}{xs:Array Keyed}(h:off+m.length<=xs.size)(hp:m.Perm ((xs.toList.drop off).take m.length)):(m.zipIdx.foldl (λa (p,j)=>a.setIfInBounds (off+j) p) xs).Perm xs:=by
 rw[Array.perm_iff_toList_perm];have e:(m.zipIdx.foldl (λa (p,j)=>a.setIfInBounds (off+j) p) xs).toList=xs.toList.take off++(m++xs.toList.drop (off+m.length)):=by
  apply List.ext_getElem?;intro k;have:=(sQ off m 0 xs (by simpa using h) k).1
  rw[Nat.add_zero]at this;rw[ad8,this];have hl:(xs.toList.take off).length=off:=by rw[aei];have:xs.toList.length=xs.size:=rfl;omega
  by_cases h1:k<off
  ·rw[if_neg ⋯,aen ⋯,List.getElem?_take_of_lt h1,ad8]
  ·rw[adW ⋯,hl]
   by_cases h2:k<off+m.length
   ·rw[if_pos ⋯,aen ⋯]
   ·rw[if_neg ⋯,adW ⋯,List.getElem?_drop,show off+m.length+(k-off-m.length)=k by omega,ad8]
 rw[e];have e2:xs.toList=xs.toList.take off++((xs.toList.drop off).take m.length++xs.toList.drop (off+m.length)):=by
  rw[<- List.drop_drop,List.take_append_drop,List.take_append_drop]
 exact(List.Perm.append_left _ (aej _ hp)).trans (by rw[<- e2])
theorem oV{ρ:Keyed->Nat}{xs:Array Keyed}{i j:Nat}(h:Seg ρ xs i j)(hj:j<=xs.size):So ρ (xs.extract i j).toList:=by
 refine ad3.mpr λp q hp hq hpq=>?_;rw[nA,aeh,aei]at hq;have hs:xs.toList.length=xs.size:=rfl;have:=h (i+p) (i+q) ⋯ ⋯ ⋯
 have e1:xs[i+p]?=some ((xs.extract i j).toList[p]):=by
  rw[adb ⋯];simp
 have e2:xs[i+q]?=some ((xs.extract i j).toList[q]):=by
  rw[adb ⋯];simp
 rw[dm e1,dm e2]at this;exact this
theorem D5{xs:Array Keyed}{i j m:Nat}(h:i+m<j)(hj:j<=xs.size):(xs.extract i j)[m]?=xs[i+m]?:=by
 rw[Array.getElem?_extract];rw[if_pos ⋯]
theorem jf{xs:Array Keyed}{i j:Nat}{x:Keyed}(h:x∈(xs.extract i j).toList):∃m,i<=m/\m<j/\m<xs.size/\xs[m]?=some x:=by
 rw[nA]at h;exact h8 h
section
variable {M:Model}{Ar:Around}{E:Value->Shared->Prop}{s:Shared}{ρ:Keyed->Nat}{kd:aea}{P:Keyed->Prop}{a₀:Array Keyed}
theorem KQ{key:Keyed}{arr:Array Keyed}{base n hint:Nat}{st:SortSt}{Q:Option Nat->SortSt->Prop}(hL:gF M Ar E s ρ kd P)(hk:kindOf st=kd)(pk:P key)(pa:∀i,i<n->∃x,arr[base+i]?=some x/\P x)(hs:Seg ρ arr base (base+n))(hn:hint<n)
  (q:∀k,k<=n->(∀i,base<=i->i<base+k->R ρ arr i<=ρ key)->(∀i,base+k<=i->i<base+n->ρ key<R ρ arr i)->Q (some k) st):wpS M Ar E s (cG false key arr base n hint) Q st:=by
 refine dI (tells hL hk pk pa) (λi j lA hj h=>?_) hn λk sj h1 h2=>q k sj (λi hi IX=>?_) λi hi IX=>?_
 ·have:=hs (base+i) (base+j) ⋯ ⋯ ⋯
  simp only[p0,ac1,if_false,ad9,decide_eq_false_iff_not]at h ⊢;omega
 ·have:=h1 (i-base) ⋯
  simp only[p0,ac1,if_false,ad9,decide_eq_false_iff_not,show base+(i-base)=i by omega]at this
  omega
 ·have:=h2 (i-base) ⋯ ⋯
  simp only[p0,ac1,if_false,show base+(i-base)=i by omega,Bool.not_eq_false',decide_eq_true_eq]at this
  exact this
theorem KP{key:Keyed}{arr:Array Keyed}{base n hint:Nat}{st:SortSt}{Q:Option Nat->SortSt->Prop}(hL:gF M Ar E s ρ kd P)(hk:kindOf st=kd)(pk:P key)(pa:∀i,i<n->∃x,arr[base+i]?=some x/\P x)(hs:Seg ρ arr base (base+n))(hn:hint<n)
  (q:∀k,k<=n->(∀i,base<=i->i<base+k->R ρ arr i<ρ key)->(∀i,base+k<=i->i<base+n->ρ key<=R ρ arr i)->Q (some k) st):wpS M Ar E s (cG true key arr base n hint) Q st:=by
 refine dI (tells hL hk pk pa) (λi j lA hj h=>?_) hn λk sj h1 h2=>q k sj (λi hi IX=>?_) λi hi IX=>?_
 ·have:=hs (base+i) (base+j) ⋯ ⋯ ⋯
  simp only[p0,if_true,decide_eq_true_eq]at h ⊢;omega
 ·have:=h1 (i-base) ⋯
  simp only[p0,if_true,decide_eq_true_eq,show base+(i-base)=i by omega]at this
  exact this
 ·have:=h2 (i-base) ⋯ ⋯
  simp only[p0,if_true,show base+(i-base)=i by omega,decide_eq_false_iff_not]at this
  omega
theorem K2{st aA:SortSt}{Q:PUnit->SortSt->Prop}(h:Q ⟨⟩ aA):wpS M Ar E s (set aA:StateT SortSt Sem PUnit) Q st:=by
 unfold wpS;rw[StateT.run_set];exact acP ⟨rfl,h⟩
theorem VS{l:List Run}{i:Nat}(h:i+1<l.length):∃pre x y post,l=pre++x::y::post/\pre.length=i:=by
 refine⟨l.take i,l[i],l[i+1],l.drop (i+2),?_,by rw[aei];omega⟩
 have e:=(List.take_append_drop i l).symm;rw[aem ⋯,aem h]at e
 exact e
theorem mW{st:SortSt}{i lo:Nat}{Q:Bool->SortSt->Prop}(hL:gF M Ar E s ρ kd P)(h0:∀p∈a₀.toList,P p)(hB:SI kd a₀ st)(zI:lo<=a₀.size)(hc:Ch ρ (arrOf st) 0 lo (ac6 st).toList)(hi:i+1<(ac6 st).size)
  (q:∀aA,SI kd a₀ aA->Ch ρ (arrOf aA) 0 lo (ac6 aA).toList->(ac6 aA).size+1=(ac6 st).size->(∀k,lo<=k->(arrOf aA)[k]?=(arrOf st)[k]?)->Q true aA):wpS M Ar E s (mergeAt' i) Q st:=by
 rw[vX];refine acY (wpS_get ?_);obtain⟨pre,⟨sa,na,pw⟩,⟨sb,nb,pw2⟩,post,el,dJ⟩:=VS (l:=(ac6 st).toList) (i:=i) (by simpa using hi)
 have e1:(ac6 st)[i]?=some (sa,na,pw):=by
  rw[<- ad8,el,adW ⋯,dJ,Nat.sub_self];rfl
 have e2:(ac6 st)[i+1]?=some (sb,nb,pw2):=by
  rw[<- ad8,el,adW ⋯,dJ,Nat.add_sub_cancel_left];rfl
 have E8:(((ac6 st).setIfInBounds i (sa,na+nb,pw)).eraseIdxIfInBounds (i+1)).toList=pre++(sa,na+nb,pw)::post:=by
  have hs:i+1<((ac6 st).setIfInBounds i (sa,na+nb,pw)).size:=by rw[Array.size_setIfInBounds];exact hi
  rw[Array.eraseIdxIfInBounds,dif_pos hs,Array.toList_eraseIdx,Array.toList_setIfInBounds,el,<- dJ];rw[List.set_append_right _ _ (acS _),Nat.sub_self,List.set_cons_zero,List.eraseIdx_append_of_length_le (Nat.le_succ _),show pre.length.succ-pre.length=1 by omega]
  rfl
 have Y5:(((ac6 st).setIfInBounds i (sa,na+nb,pw)).eraseIdxIfInBounds (i+1)).size+1=(ac6 st).size:=by
  have a1:(((ac6 st).setIfInBounds i (sa,na+nb,pw)).eraseIdxIfInBounds (i+1)).toList.length=(pre++(sa,na+nb,pw)::post).length:=by rw[E8]
  have a2:(ac6 st).toList.length=(pre++(sa,na,pw)::(sb,nb,pw2)::post).length:=by rw[el]
  simp only[adt,adi,aep]at a1 a2;omega
 rw[e1,e2];dsimp only;refine acY (K2 ?_);rw[el]at hc;obtain⟨t,c1,⟨rfl,c3,c4,rfl,c6,c7,c8⟩⟩:=Ch.app.mp hc;dsimp only at c1 c3 c4 c6 c7 c8 E8 e1 e2 Y5 ⊢;have hle:=Ch.le c8;have hsz:=hB.size;have Xh:∀k,k<a₀.size->∃x,(arrOf st)[k]?=some x/\P x:=λk hk=>hB.at h0 hk;obtain⟨b0,eb,pb⟩:=Xh (sa+na) ⋯
 refine acY (bj eb ?_);refine acY (KQ hL hB.kind pb (λi hi=>Xh _ ⋯) c4 ⋯ λk hk g1 g2=>?_)
 dsimp only
 -- the whole of both,from what becomes of the array
 have fin:∀(ys:Array Keyed) (aA:SortSt),arrOf aA=ys->ac6 aA=((ac6 st).setIfInBounds i (sa,na+nb,pw)).eraseIdxIfInBounds (i+1)->kindOf aA=kd->failedOf aA=none->ys.Perm (arrOf st) ->
   (∀k,k<sa\/sa+na+nb<=k->ys[k]?=(arrOf st)[k]?)->Seg ρ ys sa (sa+na+nb)->Q true aA:=λys aA h1 h2 h3 h4 h5 h6 h7=>by
  refine q aA ⟨by rw[h1];exact h5.trans hB.perm,h3,h4⟩ ?_ (by rw[h2];exact Y5) (λk hk=>by rw[h1];exact h6 k (.inr ⋯))
  rw[h1,h2,E8];refine Ch.app.mpr ⟨sa,c1.congr λk _ hk=>h6 k (.inl hk),rfl,?_,?_,?_⟩
  ·show 1<=na+nb;omega
  ·show Seg ρ ys sa (sa+(na+nb));rw[<- Nat.add_assoc];exact h7
  ·show Ch ρ ys (sa+(na+nb)) lo post
   rw[<- Nat.add_assoc];exact c8.congr λk hk _=>h6 k (.inr hk)
 have rb0:R ρ (arrOf st) (sa+na)=ρ b0:=dm eb
 by_cases zG:na-k=0
 ·rw[if_pos (by simpa using zG)]
  refine ac7 (fin (arrOf st) _ rfl rfl hB.kind hB.failed (Array.Perm.refl _) (λ_ _=>rfl) λi j h1 h2 h3=>?_)
  by_cases hj:j<sa+na
  ·exact c4 i j h1 h2 hj
  ·by_cases xX:i<sa+na
   ·have:=g1 i h1 ⋯
    have:=c7 (sa+na) j ⋯ ⋯ h3
    omega
   ·exact c7 i j ⋯ h2 h3
 ·rw[if_neg (by simpa using zG)]
  obtain⟨al,ea,pa⟩:=Xh (sa+k+(na-k)-1) ⋯
  have ral:R ρ (arrOf st) (sa+na-1)=ρ al:=by rw[show sa+na-1=sa+k+(na-k)-1 by omega];exact dm ea
  refine acY (bj ea ?_);refine acY (KP hL hB.kind pa (λi hi=>Xh _ ⋯) c7 ⋯ λk2 YQ g3 g4=>?_)
  dsimp only
  by_cases YR:k2=0
  ·subst YR
   rw[if_pos (by simp)]
   refine ac7 (fin (arrOf st) _ rfl rfl hB.kind hB.failed (Array.Perm.refl _) (λ_ _=>rfl) λi j h1 h2 h3=>?_)
   by_cases hj:j<sa+na
   ·exact c4 i j h1 h2 hj
   ·by_cases xX:i<sa+na
    ·have:=g4 j ⋯ h3
     have:=c4 i (sa+na-1) h1 ⋯ ⋯
     omega
    ·exact c7 i j ⋯ h2 h3
  ·rw[if_neg (by simpa using YR)]
   have hPx:∀i j,j<=a₀.size->∀x∈((arrOf st).extract i j).toList,P x:=λi j hj x hx=>by
    obtain⟨m,m1,m2,m3,m4⟩:=jf hx;obtain⟨y,ey,py⟩:=Xh m ⋯
    rw[m4]at ey;cases ey;exact py
   have zx:((arrOf st).extract (sa+k) (sa+na)).size=na-k:=by rw[Array.size_extract];omega
   have zy:((arrOf st).extract (sa+na) (sa+na+k2)).size=k2:=by rw[Array.size_extract];omega
   have T:xo ρ P ((arrOf st).extract (sa+k) (sa+na)) ((arrOf st).extract (sa+na) (sa+na+k2)):=
    ⟨hPx _ _ ⋯,hPx _ _ ⋯,oV (λi j h1 h2 h3=>c4 i j ⋯ h2 h3) ⋯,oV (λi j h1 h2 h3=>c7 i j h1 h2 ⋯) ⋯,by omega,by omega,
     λy hy z hz=>by
      obtain⟨m,m1,m2,m3,m4⟩:=jf hy;rw[zx,D5 ⋯ ⋯,show sa+k+(na-k-1)=sa+k+(na-k)-1 by omega,ea]at hz
      cases hz;have:=g3 m m1 m2;rw[dm m4]at this;omega,
     λy hy z hz=>by
      obtain⟨m,m1,m2,m3,m4⟩:=jf hy;rw[D5 ⋯ ⋯,Nat.add_zero,eb]at hz
      cases hz;have:=g2 m m1 m2;rw[dm m4]at this;omega⟩
   have done:∀(r:Array Keyed) (aA:SortSt),Kp (setPending st (((ac6 st).setIfInBounds i (sa,na+nb,pw)).eraseIdxIfInBounds (i+1))) aA->Good ρ (((arrOf st).extract (sa+k) (sa+na)).toList++((arrOf st).extract (sa+na) (sa+na+k2)).toList) r.toList ->
     wpS M Ar E s (do
      modify λs=>setArr s (r.toList.zipIdx.foldl (λa (p,j)=>a.setIfInBounds (sa+k+j) p) (arrOf s))
      let x <- get
      pure (failedOf x).isNone) Q aA:=λr aA hK hG=>by
    refine acY (wpS_modify (acY (wpS_get (ac7 ?_))));have ka:arrOf aA=arrOf st:=hK.a;have kp:ac6 aA=_:=hK.p;have kf:failedOf aA=none:=hK.f.trans hB.failed;have kk:kindOf aA=kd:=hK.k.trans hB.kind;show Q (failedOf aA).isNone _;rw[kf];have hlen:r.toList.length=na-k+k2:=by
     have:=hG.2.length_eq;simp only[adt,aep,zx,zy]at this ⊢;exact this
    have L7:sa+k+r.toList.length<=(arrOf st).size:=by omega
    have get:=λm=>(sQ (sa+k) r.toList 0 (arrOf st) (by simpa using L7) m).1
    simp only[Nat.add_zero]at get;have hX:((arrOf st).extract (sa+k) (sa+na)).toList++((arrOf st).extract (sa+na) (sa+na+k2)).toList=((arrOf st).toList.drop (sa+k)).take r.toList.length:=by
     rw[hlen,List.take_add,List.drop_drop,show sa+k+(na-k)=sa+na by omega]
     rw[show sa+na=sa+k+(na-k)by omega,nB,show sa+k+(na-k)=sa+na by omega,nB]
    refine fin _ _ (by show _=r.toList.zipIdx.foldl _ (arrOf st);rw[ka]) kp kk kf (Gb L7 (by rw[<- hX];exact hG.2)) (λm hm=>by rw[get m,if_neg ⋯]) ?_
    have ry:∀m,¬(sa+k<=m/\m<sa+k+r.toList.length)->R ρ (r.toList.zipIdx.foldl (λa (p,j)=>a.setIfInBounds (sa+k+j) p) (arrOf st)) m=R ρ (arrOf st) m:=λm hm=>iq (by rw[get m,if_neg hm])
    have rz:∀m (h:m-(sa+k)<r.toList.length),sa+k<=m->R ρ (r.toList.zipIdx.foldl (λa (p,j)=>a.setIfInBounds (sa+k+j) p) (arrOf st)) m=ρ (r.toList[m-(sa+k)]):=λm h hm=>by
     refine dm ?_;rw[get m,if_pos ⋯,acN h]
    have low:∀z∈r.toList,∀i,sa<=i->i<sa+k->R ρ (arrOf st) i<=ρ z:=λz hz i i1 i2=>by
     rcases adj.mp (hG.2.mem_iff.mp hz)with hz|hz
     ·obtain⟨m,m1,m2,m3,m4⟩:=jf hz
      rw[<- dm (ρ:=ρ) m4];exact c4 i m i1 ⋯ m2
     ·obtain⟨m,m1,m2,m3,m4⟩:=jf hz
      have:=g1 i i1 i2;have:=c7 (sa+na) m ⋯ m1 ⋯
      rw[<- dm (ρ:=ρ) m4];omega
    have high:∀z∈r.toList,∀j,sa+na+k2<=j->j<sa+na+nb->ρ z<=R ρ (arrOf st) j:=λz hz j j1 j2=>by
     rcases adj.mp (hG.2.mem_iff.mp hz)with hz|hz
     ·obtain⟨m,m1,m2,m3,m4⟩:=jf hz
      have:=g4 j j1 j2;have:=c4 m (sa+na-1) ⋯ ⋯ ⋯
      rw[<- dm (ρ:=ρ) m4];omega
     ·obtain⟨m,m1,m2,m3,m4⟩:=jf hz
      rw[<- dm (ρ:=ρ) m4];exact c7 m j m1 ⋯ j2
    intro i j h1 h2 h3
    by_cases i1:i<sa+k
    ·rw[ry i ⋯]
     by_cases j1:j<sa+k
     ·rw[ry j ⋯];exact c4 i j h1 h2 ⋯
     ·by_cases j2:j<sa+k+r.toList.length
      ·rw[rz j ⋯ ⋯];exact low _ (ad5 _) i h1 i1
      ·rw[ry j ⋯]
       have:=g1 i h1 i1;have:=c7 (sa+na) j ⋯ ⋯ h3
       omega
    ·by_cases i2:i<sa+k+r.toList.length
     ·rw[rz i ⋯ ⋯]
      by_cases j2:j<sa+k+r.toList.length
      ·rw[rz j ⋯ ⋯]
       by_cases e:i=j
       ·subst e;exact acS _
       ·exact ad3.mp hG.1 _ _ ⋯ ⋯ ⋯
      ·rw[ry j ⋯];exact high _ (ad5 _) j ⋯ h3
     ·rw[ry i ⋯,ry j ⋯];exact c7 i j ⋯ h2 h3
   by_cases YV:na-k<=k2
   ·rw[if_pos YV]
    exact acY (xi hL hB.kind T done)
   ·rw[if_neg YV]
    exact acY (xh hL hB.kind T done)
end
end Vs
namespace Vs
open PySem PyProof.Rows
theorem Ch.modify{ρ:Keyed->Nat}{xs:Array Keyed}{f:Run->Run}(hf:∀r,(f r).1=r.1/\(f r).2.1=r.2.1):∀(l:List Run) (i s e:Nat),Ch ρ xs s e l->Ch ρ xs s e (l.modify i f)
 | [],i,s,e,h=>by rw[List.modify_nil];exact h
 | r::l,0,s,e,⟨h1,h2,h3,h4⟩=>by
  rw[List.modify_zero_cons];exact⟨(hf r).1.trans h1,by rw[(hf r).2];exact h2,by rw[(hf r).2];exact h3,by rw[(hf r).2];exact h4⟩
 | r::l,i+1,s,e,⟨h1,h2,h3,h4⟩=>by
  rw[List.modify_succ_cons];exact⟨h1,h2,h3,Ch.modify hf l i _ _ h4⟩
section
variable {M:Model}{Ar:Around}{E:Value->Shared->Prop}{s:Shared}{ρ:Keyed->Nat}{kd:aea}{P:Keyed->Prop}{a₀:Array Keyed}
theorem SI.Am{st:SortSt}(h:SI kd a₀ st)(p:Array Run):SI kd a₀ (setPending st p):=⟨h.perm,h.kind,h.failed⟩
def jR(lo n:Nat):StateT SortSt Sem (ForInStep (Option Unit×Nat)):=do
 modify λs=>setPending s ((ac6 s).push (lo,n,0))
 pure (ado (none,lo+n))
def iy(size pw:Nat):StateT SortSt Sem (Option Unit×Unit):=
 forIn [:size] ((none,()):Option Unit×Unit) λ_ _=>do
  let x <- get
  match(if(ac6 x).size>1 then(ac6 x)[(ac6 x).size-2]? else none)with
  | some (_,_,Z0) =>
   if Z0<=pw then pure (ac3 (none,()))
   else do
    let r <- mergeAt' ((ac6 x).size-2)
    if(!r)=true then pure (ac3 (some (),()))else pure (ado (none,()))
  | _=>pure (ac3 (none,()))
def iB(size lo n:Nat):StateT SortSt Sem (ForInStep (Option Unit×Nat)):=do
 let x <- get
 match(ac6 x).back? with
 | some (s1,n1,_)=>do
  let r <- iy size (power' size (2*s1+n1) (2*s1+n1+n1+n) size)
  match r.fst with
  | some r=>pure (ac3 (some r,lo))
  | none=>do
   modify λs=>setPending s ((ac6 s).modify ((ac6 s).size-1) λx=>(x.fst,x.2.fst,power' size (2*s1+n1) (2*s1+n1+n1+n) size))
   jR lo n
 | _=>jR lo n
theorem mX{st:SortSt}{lo n:Nat}{Q:ForInStep (Option Unit×Nat)->SortSt->Prop}(hB:SI kd a₀ st)(hc:Ch ρ (arrOf st) 0 lo (ac6 st).toList)(hn:1<=n)(hs:Seg ρ (arrOf st) lo (lo+n))
  (q:∀aA,SI kd a₀ aA->Ch ρ (arrOf aA) 0 (lo+n) (ac6 aA).toList->Q (.yield (none,lo+n)) aA):wpS M Ar E s (jR lo n) Q st:=by
 unfold jR;refine acY (wpS_modify (ac7 (q _ (hB.Am _) ?_)));show Ch ρ (arrOf st) 0 (lo+n) ((ac6 st).push (lo,n,0)).toList;rw[Array.toList_push];exact Ch.app.mpr ⟨lo,hc,rfl,hn,hs,rfl⟩
theorem pR{st:SortSt}{pw lo n:Nat}{Q:Option Unit×Unit->SortSt->Prop}(hL:gF M Ar E s ρ kd P)(h0:∀p∈a₀.toList,P p)(hB:SI kd a₀ st)(zI:lo<=a₀.size)(hc:Ch ρ (arrOf st) 0 lo (ac6 st).toList)(hs:Seg ρ (arrOf st) lo (lo+n))
  (q:∀aA,SI kd a₀ aA->Ch ρ (arrOf aA) 0 lo (ac6 aA).toList->Seg ρ (arrOf aA) lo (lo+n)->Q (none,()) aA):wpS M Ar E s (iy a₀.size pw) Q st:=by
 unfold iy;refine ad4 (I:=λx c aA=>c=(none,())/\SI kd a₀ aA/\Ch ρ (arrOf aA) 0 lo (ac6 aA).toList/\Seg ρ (arrOf aA) lo (lo+n)) ?step ?fin ⟨rfl,hB,hc,hs⟩
 case fin =>
  rintro c aA ⟨rfl,h1,h2,h3⟩;exact q aA h1 h2 h3
 case step =>
  rintro x c aA _ hx ⟨rfl,h1,h2,h3⟩;refine acY (wpS_get ?_)
  by_cases hz:(ac6 aA).size>1
  ·rw[if_pos hz]
   have e:(ac6 aA)[(ac6 aA).size-2]?=some (ac6 aA)[(ac6 aA).size-2]:=adb ⋯
   rw[e];dsimp only
   split
   ·exact ac7 (q aA h1 h2 h3)
   ·refine acY (mW hL h0 h1 zI h2 ⋯ λBG b1 b2 b3 b4=>?_)
    simp only[Bool.not_true,ac1,if_false];exact ac7 ⟨rfl,b1,b2,h3.congr λk hk _=>b4 k hk⟩
  ·rw[if_neg hz]
   exact ac7 (q aA h1 h2 h3)
theorem xj{st:SortSt}{lo n:Nat}{Q:ForInStep (Option Unit×Nat)->SortSt->Prop}(hL:gF M Ar E s ρ kd P)(h0:∀p∈a₀.toList,P p)(hB:SI kd a₀ st)(zI:lo<=a₀.size)(hc:Ch ρ (arrOf st) 0 lo (ac6 st).toList)(hn:1<=n)(hs:Seg ρ (arrOf st) lo (lo+n))
  (q:∀aA,SI kd a₀ aA->Ch ρ (arrOf aA) 0 (lo+n) (ac6 aA).toList->Q (.yield (none,lo+n)) aA):wpS M Ar E s (iB a₀.size lo n) Q st:=by
 unfold iB;refine acY (wpS_get ?_)
 split
 ·refine acY (pR hL h0 hB zI hc hs λaA b1 b2 b3=>?_)
  dsimp only;refine acY (wpS_modify (mX (b1.Am _) ?_ hn b3 q));show Ch ρ (arrOf aA) 0 lo ((ac6 aA).modify _ _).toList;rw[Array.toList_modify];refine Ch.modify ?_ _ _ _ _ b2;intro r;exact⟨rfl,rfl⟩
 ·exact mX hB hc hn hs q
theorem Qv(c:Prop)[Decidable c]{n:Nat}(h:2<=n):(if c then n-2-1 else n-2)+1<n:=by split<;>omega
local macro_rules|`(tactic| walk_at "s_rest")=>`(tactic| (unfold iB iy jR;congr 1;funext x;cases e:(ac6 x).back? with
  | none=>rfl
  | some y=>(obtain⟨s1,n1,p1⟩:=y;dsimp only;congr 1;funext r;obtain⟨r1,r2⟩:=r;cases r1<;>rfl)))
theorem wpS_sortRuns{st:SortSt}{Q:Unit->SortSt->Prop}(hL:gF M Ar E s ρ kd P)(h0:∀p∈a₀.toList,P p)(hB:SI kd a₀ st)(hp:ac6 st=#[])(h2:2<=a₀.size)
  (h:∀aA,SI kd a₀ aA->Seg ρ (arrOf aA) 0 a₀.size->Q () aA):wpS M Ar E s sortRuns' Q st:=by
 rw[sortRuns'_eq];refine acY (wpS_get ?_);dsimp only;rw[hB.size];generalize minRun' a₀.size a₀.size 0=mr;refine acY (aeo (ad4 (I:=λx c aA=>SI kd a₀ aA/\∃lo,c=(none,lo)/\lo<=a₀.size/\(x<=lo\/lo=a₀.size)/\Ch ρ (arrOf aA) 0 lo (ac6 aA).toList)
  (Q:=λc aA=>SI kd a₀ aA/\c=(none,a₀.size)/\Ch ρ (arrOf aA) 0 a₀.size (ac6 aA).toList) ?step ?fin ⟨hB,0,rfl,adz _,.inl (acS _),by rw[hp];rfl⟩) ?post)
 case fin =>
  rintro c aA ⟨jg,lo,rfl,l1,l2,hc⟩;have:lo=a₀.size:=by omega
  subst this;exact⟨jg,rfl,hc⟩
 case step =>
  rintro x c aA _ hx ⟨jg,lo,rfl,l1,l2,hc⟩;dsimp only
  by_cases xq:lo>=a₀.size
  ·rw[if_pos xq]
   have:lo=a₀.size:=by omega
   subst this;exact ac7 ⟨jg,rfl,hc⟩
  ·rw[if_neg xq]
   refine acY (wpS_countRun hL h0 ⋯ ⋯ jg λm st1 f1 m1 m2 s1=>?_)
   dsimp only;have hc1:Ch ρ (arrOf st1) 0 lo (ac6 st1).toList:=by rw[f1.pend];exact hc.congr λk _ hk=>f1.same k hk
   have go:∀n BG,1<=n->lo+n<=a₀.size->SI kd a₀ BG->Ch ρ (arrOf BG) 0 lo (ac6 BG).toList->Seg ρ (arrOf BG) lo (lo+n)->wpS M Ar E s (iB a₀.size lo n) (λr aA =>
     match r with
     | ac3 c'=>SI kd a₀ aA/\c'=(none,a₀.size)/\Ch ρ (arrOf aA) 0 a₀.size (ac6 aA).toList
     | ado c'=>SI kd a₀ aA/\∃lo,c'=(none,lo)/\lo<=a₀.size/\(x+1<=lo\/lo=a₀.size)/\Ch ρ (arrOf aA) 0 lo (ac6 aA).toList) BG:=λn BG n1 n2 b1 b2 b3 =>
    xj hL h0 b1 l1 b2 n1 b3 λaA b1 b2=>⟨b1,lo+n,rfl,n2,by omega,b2⟩
   by_cases jr:m<mr
   ·rw[if_pos jr]
    refine acY (wpS_lift (wpAny_rule ⟨rfl,?_⟩));refine acY (wpS_binarySort hL h0 ⋯ ⋯ f1.si s1 λBG f2 s2=>?_)
    simp only[Bool.not_true,ac1,if_false];have z:=go (min (a₀.size-lo) mr) BG ⋯ ⋯ f2.si (by rw[f2.pend];exact hc1.congr λk _ hk=>f2.same k hk) s2
    refine aeo (Q:=_) (Eq.mpr (congrArg (λt=>wpS M Ar E s t _ BG) (?_:_=iB a₀.size lo (min (a₀.size-lo) mr))) z) ?_
    ·walk_at "s_rest"
    ·intro r dn hr
     cases r<;>exact hr
   ·rw[if_neg jr]
    have z:=go m st1 m1 ⋯ f1.si hc1 s1
    refine aeo (Q:=_) (Eq.mpr (congrArg (λt=>wpS M Ar E s t _ st1) (?_:_=iB a₀.size lo m)) z) ?_
    ·walk_at "s_rest"
    ·intro r dn hr
     cases r<;>exact hr
 case post =>
  rintro c aA ⟨jg,rfl,hc⟩;dsimp only;have dJ:(ac6 aA).size<=a₀.size:=by have:=Ch.le hc;simp only[aep]at this;omega
  refine acY (aeo (ad4 (I:=λx c aA=>c=(none,())/\SI kd a₀ aA/\Ch ρ (arrOf aA) 0 a₀.size (ac6 aA).toList/\((ac6 aA).size+x<=a₀.size\/(ac6 aA).size<=1))
   (Q:=λc aA=>c=(none,())/\SI kd a₀ aA/\Ch ρ (arrOf aA) 0 a₀.size (ac6 aA).toList/\(ac6 aA).size<=1) ?fstep ?ffin ⟨rfl,jg,hc,.inl ⋯⟩) ?fpost)
  case ffin =>
   rintro c aA ⟨rfl,b1,b2,b3⟩;exact⟨rfl,b1,b2,by omega⟩
  case fstep =>
   rintro x c aA _ hx ⟨rfl,b1,b2,b3⟩;refine acY (wpS_get ?_)
   try dsimp only
   by_cases hz:(ac6 aA).size<=1
   ·rw[if_pos hz]
    exact ac7 ⟨rfl,b1,b2,hz⟩
   ·rw[if_neg hz]
    refine acY (mW hL h0 b1 (acS _) b2 ?_ λBG c1 c2 c3 c4=>?_)
    ·exact Qv _ ⋯
    ·simp only[Bool.not_true,ac1,if_false]
     exact ac7 ⟨rfl,c1,c2,by omega⟩
  case fpost =>
   rintro c aA ⟨rfl,b1,b2,b3⟩;refine ac7 (h aA b1 ?_);have hl:(ac6 aA).toList.length<=1:=by simpa using b3
   generalize (ac6 aA).toList=l at b2 hl
   match l,b2,hl with
   | [],b2,_=>have:0=a₀.size:=b2;omega
   | [r],⟨_,_,h3,h4⟩,_ =>
    have h4:0+r.2.1=a₀.size:=h4;rw[h4]at h3;exact h3
   | _::_::_,_,hl=>simp at hl
end
end Vs
namespace Vs
open PySem PyProof.Rows PySem.W
theorem d9:∀a:List Int,HT.lexLt a a=false
 | []=>rfl
 | x::a=>by rw[HT.bZ,if_pos rfl];exact d9 a
theorem fC:∀a b c:List Int,HT.lexLt a b=true->HT.lexLt b c=true->HT.lexLt a c=true
 | [],[],_,h,_=>by cases h
 | [],_::_,[],_,h=>by cases h
 | [],_::_,_::_,_,_=>rfl
 | _::_,[],_,h,_=>by cases h
 | _::_,_::_,[],_,h=>by cases h
 | x::a,y::b,z::c,h1,h2=>by
  rw[HT.bZ]at h1 h2 ⊢
  by_cases e1:x=y
  ·rw[if_pos e1]at h1
   by_cases e2:y=z
   ·rw[if_pos e2]at h2
    rw[if_pos (e1.trans e2)];exact fC a b c h1 h2
   ·rw[if_neg e2]at h2
    have:=of_decide_eq_true h2;rw[if_neg ⋯];exact decide_eq_true ⋯
  ·rw[if_neg e1]at h1
   have h1:=of_decide_eq_true h1
   by_cases e2:y=z
   ·rw[if_neg ⋯];exact decide_eq_true ⋯
   ·rw[if_neg e2]at h2
    have:=of_decide_eq_true h2;rw[if_neg ⋯];exact decide_eq_true ⋯
theorem oi:∀a b:List Int,HT.lexLt a b=false->HT.lexLt b a=false->a=b
 | [],[],_,_=>rfl
 | [],_::_,h,_=>by cases h
 | _::_,[],_,h=>by cases h
 | x::a,y::b,h1,h2=>by
  rw[HT.bZ]at h1 h2
  by_cases e1:x=y
  ·rw[if_pos e1]at h1
   rw[if_pos e1.symm]at h2;rw[e1,oi a b h1 h2]
  ·rw[if_neg e1]at h1
   rw[if_neg (aec e1)]at h2;have:=of_decide_eq_false h1;have:=of_decide_eq_false h2;omega
def rk(d:Keyed->List Int)(l:List Keyed)(x:Keyed):Nat:=l.countP λp=>HT.lexLt (d p) (d x)
theorem qe{α:Type}{p q:α->Bool}:∀ {l:List α} {x:α},(∀y,p y=true->q y=true)->x∈l->p x=false->q x=true->l.countP p<l.countP q
 | y::l,x,h,hx,h1,h2=>by
  rcases acV.mp hx with rfl|hx
  ·rw[List.countP_cons_of_neg (by rw[h1];decide),List.countP_cons_of_pos h2]
   exact Nat.lt_succ_of_le (List.countP_mono_left λy _=>h y)
  ·have ih:=qe h hx h1 h2
   rw[List.countP_cons,List.countP_cons];cases e:p y with
   | true=>rw[h y e];simpa using ih
   | false=>split<;>split<;>first|omega | (exfalso;simp_all)
theorem Aj{d:Keyed->List Int}{l:List Keyed}{x y:Keyed}(hx:x∈l):decide (rk d l x<rk d l y)=HT.lexLt (d x) (d y):=by
 cases e:HT.lexLt (d x) (d y)with
 | true =>
  refine decide_eq_true (qe (x:=x) (λp hp=>fC _ _ _ hp e) hx (d9 _) e)
 | false =>
  refine decide_eq_false (Nat.not_lt.mpr (List.countP_mono_left λp _ hp=>?_));cases e2:HT.lexLt (d p) (d x)with
  | true=>rfl
  | false =>
   cases e3:HT.lexLt (d x) (d p)with
   | true=>rw[fC _ _ _ e3 hp]at e;cases e
   | false =>
    rw[oi _ _ e2 e3]at hp;rw[hp]at e;cases e
section
variable {prog:adv}{w:World}{A:Around}{E:Value->Shared->Prop}{s:Shared}
theorem mI{b:Bool}{Q:Bool->Shared->Prop}:∀ {vs ws:List Value} {ns ms:List Int} (i:Nat) (fin:Bool),IntsAre vs ns->IntsAre ws ms->fin=decide (vs.length<ws.length)->Q (HT.lexLt ns ms) s->KatLex prog w A b fin Q (vs.zip ws) i s
 | _,_,_,_,i,fin,.nil,.nil,e,q=>by subst e;exact kat_nil q
 | _,_,_,_,i,fin,.nil,.cons _ _ _,e,q=>by subst e;rw[HT.gS]at q;exact kat_nil (by simpa using q)
 | _,_,_,_,i,fin,.cons _ _ _,.nil,e,q=>by subst e;rw[HT.gR]at q;exact kat_nil (by simpa using q)
 | _,_,_,_,i,fin,.cons n t h1,.cons m u h2,e,q=>by
  rw[List.zip_cons_cons];refine kat_cons (wpAny_eqBool_int ?_);rw[HT.bZ]at q
  by_cases h:n=m
  ·rw[if_pos h]at q
   rw[show(n==m)=true from by simpa using h]
   exact kat_yes (mI (i+1) fin h1 h2 (by rw[e];simp) q)
  ·rw[if_neg h]at q
   rw[show(n==m)=false from by simpa using h]
   refine kat_no ?_;cases(b&&i==0)with
   | true=>exact oneLt_int q
   | false=>exact kat_one _ _ (lt_int q)
def rp(h:Heap)(v:Value)(ns:List Int):Prop:=∃a o xs n,v=.ref a/\h.get? a=some o/\o.cls=.type "tuple"/\o.data=.seq xs n/\IntsAre xs.toList ns
theorem rp.kept{h g:Heap}{v:Value}{ns:List Int}(t:rp h v ns)(k:∀b o,h.get? b=some o->g.get? b=some o):rp g v ns:=by
 obtain⟨a,o,xs,n,e,ho,r⟩:=t;exact⟨a,o,xs,n,e,k _ _ ho,r⟩
theorem A9{b:Bool}{v u:Value}{ns ms:List Int}{Q:Bool->Shared->Prop}(h1:rp s.heap v ns)(h2:rp s.heap u ms)(q:Q (HT.lexLt ns ms) s):wpAny (model prog w) A (keyLt' (tuples' b) v u) Q E s:=by
 obtain⟨a,o,xs,n,rfl,ho,hc,hd,hi⟩:=h1;obtain⟨a2,o2,xs2,n2,rfl,Ja,HJ,hd2,IX⟩:=h2;exact kat_lt ho hd Ja hd2 (mI 0 _ hi IX (by simp) q)
theorem Jy{b:Bool}{l:List Keyed}{d:Keyed->List Int}(h:∀x∈l,rp s.heap x.1 (d x)):gF (model prog w) A E s (rk d l) (tuples' b) (λx=>x∈l):=λx y st Q hx hy hk q=>by
 rw[Aj hx]at q;rw[lt'_eq];refine acY (wpS_get ?_);rw[hk];exact acY (wpS_lift (wpAny_attempt (A9 (h x hx) (h y hy) ⟨rfl,ac7 q⟩)))
theorem Fo{vs:List Value}{Q:aea->Shared->Prop}(hl:0<vs.length)(h:∀v∈vs,∃ns,rp s.heap v ns/\ns≠[])(q:Q (tuples' true) s):wpAny (model prog w) A (keyKind' vs.toArray) Q E s:=by
 have key:∀vs:List Value,(∀v∈vs,∃ns,rp s.heap v ns/\ns≠[])->∃fs,KatTups s.heap vs fs/\fs.length=vs.length/\∀v∈fs,∃n t,v=Value.int n t:=by
  intro vs
  induction vs with
  | nil=>intro _;exact⟨[],KatTups.nil,rfl,λv hv=>by cases hv⟩
  | cons v vs ih =>
   intro h;obtain⟨ns,⟨a,o,xs,n,rfl,ho,hc,hd,hi⟩,cz⟩:=h v (acX ..);obtain⟨fs,f1,f2,f3⟩:=ih λu hu=>h u (acQ _ hu);obtain⟨f,hf,hn⟩:∃f,xs[0]?=some f/\∃n t,f=Value.int n t:=by
    rw[<- ad8];generalize xs.toList=ys at hi;cases hi with
    | nil=>exact absurd rfl cz
    | cons n t _=>exact⟨_,rfl,n,t,rfl⟩
   refine⟨f::fs,KatTups.cons ho hc hd hf f1,by simp [f2],λv hv=>?_⟩
   rcases acV.mp hv with rfl|hv
   ·exact hn
   ·exact f3 v hv
 obtain⟨fs,f1,f2,f3⟩:=key vs h;refine kat_kind (T:=.type "int") f1 ⋯ (λv hv=>?_) rfl q
 obtain⟨n,t,rfl⟩:=f3 v hv;exact Looks.now
theorem i3{a:Addr}{vs:List Value}{n:Nat}{kd:aea}{ρ:Keyed->Nat}{P:Keyed->Prop}{Pf:PySem.Fin->Shared->Prop}(ho:s.heap.get? a=some (seqObj "list" vs.toArray n))(hz:vs.length<=acZ)(h0:∀p∈(pairsOf vs).toList,P p)
  (hk:2<=vs.length->∀g:Heap,(∀b o,b≠a->s.heap.get? b=some o->g.get? b=some o)->(∀Q:aea->Shared->Prop,Q kd {s with heap:=g}->wpAny (model prog w) A (keyKind' vs.toArray) Q E {s with heap:=g})/\gF (model prog w) A E {s with heap:=g} ρ kd P)
  (h:∀(xs:Array Keyed) (g:Heap) (c:Nat),xs.Perm (pairsOf vs)->Seg ρ xs 0 vs.length->(∀b o,b≠a->s.heap.get? b=some o->g.get? b=some o)->g.get? a=some (seqObj "list" (xs.map (·.2)) c)->Pf (.done (.ret .none)) {s with heap:=g}):
  wpAny (model prog w) A (Builtin.«list.sort» ⟨[.ref a],[]⟩) Pf E s:=by
 rw[list_sort_plain];have ha:a<s.heap.objs.size:=ac9 ho;have hsz:vs.toArray.size=vs.length:=by simp
 refine acL (listItems_at ho rfl ?_);refine acL (listUpdate_at ho rfl ?_ (by rw[hsz];exact hz) (adz _))
 obtain⟨e1,ho1⟩:∃e1,(s.heap.update a (Obj.mapSeq λ_=>#[])).get? a=some (seqObj "list" #[] e1):=⟨_,get?_update_seq ho (λ_=>#[])⟩;refine acL (seqEpoch_at ho1 rfl ?_);refine acL (wpAny_newTuple ?_ (by show vs.length<=_;exact hz))
 refine acL (wpAny_newList ?_ (adz _));refine wpAny_holding ?_;have keep:∀b o,b≠a->s.heap.get? b=some o->(((s.heap.update a (Obj.mapSeq λ_=>#[])).push (seqObj "tuple" vs.toArray 0)).push (seqObj "list" #[] 0)).get? b=some o:=λb o hb e =>
  acM _ (acM _ ((adG _ _ (aec hb)).trans e))
 have Wj:(((s.heap.update a (Obj.mapSeq λ_=>#[])).push (seqObj "tuple" vs.toArray 0)).push (seqObj "list" #[] 0)).get? a=some (seqObj "list" #[] e1):=acM _ (acM _ ho1);show wpAny (model prog w) A _ Pf E {s with heap:=((s.heap.update a (Obj.mapSeq λ_=>#[])).push (seqObj "tuple" vs.toArray 0)).push (seqObj "list" #[] 0)}
 dsimp only;generalize hg6:((s.heap.update a (Obj.mapSeq λ_=>#[])).push (seqObj "tuple" vs.toArray 0)).push (seqObj "list" #[] 0)=g6 at keep Wj;have fin:∀xs:Array Keyed,xs.Perm (pairsOf vs)->Seg ρ xs 0 vs.length->Pf (.done (.ret .none)) {s with heap:=g6.update a (Obj.mapSeq λ_=>xs.map (·.2))}:=λxs hp hs =>
  h xs _ _ hp hs (λb o hb e=>(adG _ _ (aec hb)).trans (keep b o hb e)) (get?_update_seq Wj λ_=>xs.map (·.2))
 by_cases h2:vs.toArray.size<2
 ·rw[if_pos h2,if_pos h2]
  refine acL (acP ?_);rw[StateT.run_pure];refine acL (acP ?_);dsimp only;refine acL (seqEpoch_at Wj rfl ?_);refine acL (listUpdate_at Wj rfl ?_ (adz _) (by rw[Array.size_map];show(pairsOf vs).size<=_;rw[pairsOf_size];exact Nat.le_succ_of_le hz))
  simp only[bne_self_eq_false,ac1,if_false];refine acP (fin _ (Array.Perm.refl _) λi j _ lA hj=>?_);have:i=j:=by omega
  subst this;exact acS _
 ·rw[if_neg h2,if_neg h2]
  obtain⟨k1,k2⟩:=hk ⋯ g6 keep
  refine acL (k1 _ ?_);refine acL (wpAny_mono (wpS_sortRuns (a₀:=pairsOf vs) (kd:=kd) (st:=SortSt.mk' kd (vs.toArray.zip vs.toArray) #[] 7 none)
   (Q:=λ_ aA=>SI kd (pairsOf vs) aA/\Seg ρ (arrOf aA) 0 (pairsOf vs).size) k2 h0 ⟨Array.Perm.refl _,rfl,rfl⟩ rfl (by rw[pairsOf_size];omega) λaA a1 a2=>⟨a1,a2⟩) ?_ λ_ _ e=>e)
  rintro⟨⟨⟩,aA⟩ s' ⟨rfl,hp,hs⟩;dsimp only;refine acL (seqEpoch_at Wj rfl ?_);refine acL (listUpdate_at Wj rfl ?_ (adz _) (by refine adq (Nat.le_of_eq ((Array.size_map ..).trans (hp.size.trans (pairsOf_size _)))) ?_;exact Nat.le_succ_of_le hz))
  rw[hp.failed];simp only[bne_self_eq_false,ac1,if_false];rw[pairsOf_size]at hs;exact acP (fin _ hp.perm hs)
theorem yD{l:Addr}{vs:List Value}{kd:aea}{ρ:Keyed->Nat}{P:Keyed->Prop}{Q:Value->Shared->Prop}(hl:s.heap.IsList l vs.toArray)(hz:vs.length<=acZ)(h0:∀p∈(pairsOf vs).toList,P p)
  (hk:2<=vs.length->∀(A':Around) (E':Value->Shared->Prop) (g:Heap),(∀b o,s.heap.get? b=some o->g.get? b=some o)->(∀Q:aea->Shared->Prop,Q kd {s with heap:=g}->wpAny (model prog w) A' (keyKind' vs.toArray) Q E' {s with heap:=g})/\gF (model prog w) A' E' {s with heap:=g} ρ kd P)
  (h:∀(xs:Array Keyed) (g:Heap) (c:Nat),xs.Perm (pairsOf vs)->Seg ρ xs 0 vs.length->(∀b o,s.heap.get? b=some o->g.get? b=some o)->g.get? (s.heap.objs.size+1)=some (seqObj "list" (xs.map (·.2)) c)->Q (.ref (s.heap.objs.size+1)) {s with heap:=g}):
  wpAny (model prog w) A (call (.builtin "sorted") [.ref l]) Q E s:=by
 refine Calls.call_function_entry kind_sorted plain_sorted entry_sorted (args_sorted1 _) ?_;unfold Builtin.«sorted»;refine acL (m:=checkCount "sorted" 1 1 _) (acP ?_);refine acL (collect_list hl ?_ hz);refine acL (wpAny_newList ?_ hz);have hsz:((s.heap.push (seqObj "list" #[] 0)).update s.heap.objs.size (Obj.mapSeq (·++vs.toArray))).objs.size=s.heap.objs.size+1:=by
  rw[Heap.size_update,size_push']
 have Qp:(((s.heap.push (seqObj "list" #[] 0)).update s.heap.objs.size (Obj.mapSeq (·++vs.toArray))).push (seqObj "list" vs.toArray 0)).get? (s.heap.objs.size+1)=some (seqObj "list" vs.toArray 0):=by
  rw[<- hsz];exact ada _ rfl
 have keep:∀b o,s.heap.get? b=some o->(((s.heap.push (seqObj "list" #[] 0)).update s.heap.objs.size (Obj.mapSeq (·++vs.toArray))).push (seqObj "list" vs.toArray 0)).get? b=some o:=λb o e=>by
  have jr:b<s.heap.objs.size:=ac9 e;exact acM _ ((adG _ _ (aec (adB jr))).trans (acM _ e))
 have ne:∀b o,s.heap.get? b=some o->b≠s.heap.objs.size+1:=λb o e=>adB (Nat.lt_succ_of_lt (ac9 e));show wpAny _ _ _ _ _ {s with heap:=((s.heap.push (seqObj "list" #[] 0)).update s.heap.objs.size (Obj.mapSeq (·++vs.toArray))).push (seqObj "list" vs.toArray 0)}
 rw[hsz];refine acL (wpAny_holding (adZ slot_list_sort ⟨_,Qp,rfl⟩ entry_list_sort (i3 (kd:=kd) (ρ:=ρ) (P:=P) Qp hz h0 (λh2 g kg=>hk h2 _ _ g λb o e=>kg b o (ne b o e) (keep b o e)) λxs g c a1 a2 a3 a4=>⟨_,rfl,?_⟩) (args_list_sort _)));exact acP ⟨_,rfl,h xs g c a1 a2 (λb o e=>a3 b o (ne b o e) (keep b o e)) a4⟩
end
end Vs
namespace Vc
open PySem L2
def toV:Value->V
 | .ref a=>.ref a
 | _=>.aQ
theorem Ho{us:List V}{its:List Value}(r:Vals us its)(h:∀u∈us,∃a,u=.ref a):us=its.map toV:=by
 induction r with
 | nil=>rfl
 | cons r _ ih =>
  obtain⟨a,rfl⟩:=h _ (acX ..);cases r;rw[adh,<- ih λu hu=>h u (acQ _ hu)];rfl
theorem KN{its:List Value}(h:∀v∈its,∃a,v=.ref a):Vals (its.map toV) its:=by
 induction its with
 | nil=>exact .nil
 | cons v its ih =>
  obtain⟨a,rfl⟩:=h _ (acX ..);exact .cons rfl (ih λu hu=>h u (acQ _ hu))
theorem fO{α:Type}:∀l:List α,l.zip l=l.map λx=>(x,x)
 | []=>rfl
 | x::l=>by rw[List.zip_cons_cons,adh,fO l]
theorem uK{X:Cx}:cU X (.builtin "sorted") (λxs H Q=>∃(p:Addr) (us:List V) (dd:V->List Int),xs=[.ref p]/\gp X.K H p us/\(∀u∈us,(∃a,u=.ref a/\k8 X.K H a ((dd u).map V.int))/\dd u≠[]) /\
  ∀(uy:List V),uy.Perm us->uy.Pairwise (λx y=>HT.lexLt (dd y) (dd x)=false)->∀l,H l=none->Q (.ref l) (upd H l (.lst uy))):=by
 intro pins s σ H xs MD Q I r h;obtain⟨p,us,dd,rfl,hq,hu,q⟩:=h;obtain⟨u,rfl,rx⟩:=vals1 r;cases rx;obtain⟨its,rv,pl,hz⟩:=I.list hq;have hlen:=rv.length;have eus:us=its.map toV:=Ho rv λu h=>by obtain⟨⟨a,e,_⟩,_⟩:=hu u h;exact⟨a,e⟩
 have zO:∀v∈its,∃a,v=.ref a:=λv hv=>by
  obtain⟨i,hi,e⟩:=aee.mp hv;obtain⟨u,hu1,ru⟩:=rv.get (i:=i) (x:=us[i]'⋯) (acN _)
  rw[acN hi]at hu1;cases hu1;obtain⟨⟨a,e2,_⟩,_⟩:=hu (us[i]'⋯) (ad5 _)
  rw[e2]at ru;exact⟨a,by rw[<- e];exact ru⟩
 have tup:∀v∈its,Vs.rp s.heap v (dd (toV v))/\dd (toV v)≠[]:=λv hv=>by
  obtain⟨a,rfl⟩:=zO v hv;have hm:toV (.ref a)∈us:=by rw[eus];exact adk.mpr ⟨_,hv,rfl⟩
  obtain⟨⟨b,e,hT⟩,cz⟩:=hu _ hm;cases e;obtain⟨ts,r1,⟨o,ho,hc,n,hd⟩,_⟩:=I.tuple hT;exact⟨⟨a,o,ts.toArray,n,rfl,ho,hc,hd,intsAre_of r1⟩,cz⟩
 have mem:∀x:PyProof.Rows.Keyed,x∈(adR its).toList->x.1∈its/\x.1=x.2:=λx hx=>by
  rw[PyProof.Rows.pairsOf_toList,fO]at hx;obtain⟨v,hv,rfl⟩:=adk.mp hx;exact⟨hv,rfl⟩
 refine Vs.yD (kd:=PyProof.Rows.tuples' true) (ρ:=Vs.rk (λx=>dd (toV x.1)) (adR its).toList) (P:=λx=>x∈(adR its).toList) pl.isList ⋯ (λ_ h=>h) (λh2 A' E' g kg=>⟨λQ hQ=>?_,?_⟩) λxs g c hp hs kg hg=>?_
 ·exact Vs.Fo (s:={s with heap:=g}) ⋯ (λv hv=>⟨_,(tup v hv).1.kept kg,(tup v hv).2⟩) hQ
 ·exact Vs.Jy (s:={s with heap:=g}) λx hx=>(tup x.1 (mem x hx).1).1.kept kg
 ·have dJ:xs.toList.Perm (adR its).toList:=Array.perm_iff_toList_perm.mp hp
  have hsz:xs.size=its.length:=by have:=hp.size_eq;rw[PyProof.Rows.pairsOf_size]at this;exact this
  have lC:∀x∈xs.toList,x.1∈its/\x.1=x.2:=λx hx=>mem x (dJ.mem_iff.mp hx);have perm:(xs.toList.map λx=>toV x.2).Perm us:=by
   rw[eus];refine(dJ.map λx=>toV x.2).trans ?_;rw[PyProof.Rows.pairsOf_toList,fO,adN];exact List.Perm.refl _
  have eq2:xs.toList.map (λx=>toV x.2)=(xs.map (·.2)).toList.map toV:=by
   rw[Array.toList_map,adN];rfl
  refine⟨.ref (s.heap.objs.size+1),_,I.laid (t':=s.toks) (o:=.lst (xs.toList.map λx=>toV x.2)) kg (Nat.le_succ _) ⟨?_,(xs.map (·.2)).toList,c,?_,hg⟩,rfl,q _ perm ?_ _ (I.bI.fresh (Nat.le_succ _))⟩
  ·rw[perm.length_eq];exact hz
  ·rw[eq2]
   refine KN λv hv=>?_;rw[Array.toList_map]at hv;obtain⟨x,hx,rfl⟩:=adk.mp hv;have:=lC x hx;exact zO _ (this.2 ▸ this.1)
  ·rw[List.pairwise_map]
   refine ad3.mpr λi j hi hj lA=>?_;have xX:i<xs.size:=by simpa using hi
   have HM:j<xs.size:=by simpa using hj
   have h1:=hs i j (adz _) (adU lA) ⋯
   rw[Vs.dm (adb xX),Vs.dm (adb HM)]at h1;have e1:xs.toList[i]=xs[i]:=rfl;have e2:xs.toList[j]=xs[j]:=rfl;rw[e1,e2];have m1:=lC xs[i] (by simp)
   have m2:=lC xs[j] (by simp)
   have:=Vs.Aj (d:=λx=>dd (toV x.1)) (l:=(adR its).toList) (x:=xs[j]) (y:=xs[i]) (dJ.mem_iff.mp (by simp))
   rw[decide_eq_false ⋯]at this
   rw[<- m1.2,<- m2.2];exact this.symm
variable [KF]
variable {G:GE}{k:Nat}{S:Stat}
def fj:D->List Int
 | .tup xs=>xs.map lE
 | .int i=>[i]
 | _=>[]
def mJ(x y:D):Bool:=!HT.lexLt (fj y) (fj x)
def fK(xs:List D):List D:=xs.mergeSort mJ
def fc:D->Bool
 | .tup xs=>xs.all isInt&&!xs.isEmpty
 | _=>false
theorem lJ(a b c:D)(h1:mJ a b=true)(h2:mJ b c=true):mJ a c=true:=by
 unfold mJ at *;simp only[ad9]at *;cases e:HT.lexLt (fj c) (fj a)with
 | false=>rfl
 | true =>
  cases e2:HT.lexLt (fj c) (fj b)with
  | true=>rw[h2]at e2;cases e2
  | false =>
   cases e3:HT.lexLt (fj b) (fj c)with
   | true=>rw[Vs.fC _ _ _ e3 e]at h1;cases h1
   | false=>rw[Vs.oi _ _ e2 e3]at e;rw[e]at h1;cases h1
theorem Ba(a b:D):(mJ a b||mJ b a)=true:=by
 unfold mJ;cases e:HT.lexLt (fj b) (fj a)with
 | false=>rfl
 | true =>
  cases e2:HT.lexLt (fj a) (fj b)with
  | false=>rfl
  | true=>have:=Vs.fC _ _ _ e e2;rw[Vs.d9]at this;cases this
theorem eK(xs:List D):(fK xs).Perm xs:=List.mergeSort_perm xs mJ
theorem gf(xs:List D):(fK xs).Pairwise λx y=>mJ x y=true:=List.pairwise_mergeSort lJ Ba xs
theorem ints_map:∀ {xs:List D},xs.all isInt=true->(xs.map lE).map D.int=xs
 | [],_=>rfl
 | x::xs,h=>by
  rw[aeC,adn]at h;cases x with
  | int i=>rw[adh,adh,ints_map h.2];rfl
  | _=>exact absurd h.1 (by simp [isInt])
theorem eR{d:D}(h:fc d=true):d=.tup ((fj d).map D.int):=by
 cases d with
 | tup xs =>
  unfold fc at h;rw[adn]at h;show D.tup xs=.tup ((xs.map lE).map D.int);rw[ints_map h.1]
 | _=>exact absurd h (by simp [fc])
theorem gZ{α:Type}{r:α->α->Prop}:∀ {l m:List α},l.Perm m->(∀a∈l,∀b∈l,r a b->r b a->a=b)->l.Pairwise r->m.Pairwise r->l=m
 | [],m,h,_,_,_=>(List.nil_perm.mp h).symm
 | a::l,[],h,_,_,_=>by have:=h.length_eq;simp at this
 | a::l,b::m,h,Xe,h1,h2=>by
  have hb:b∈a::l:=h.symm.mem_iff.mp (acX ..);have ha:a∈b::m:=h.mem_iff.mp (acX ..);rw[List.pairwise_cons]at h1 h2;have e:a=b:=by
   rcases acV.mp hb with e|hb
   ·exact e.symm
   ·rcases acV.mp ha with e|ha
    ·exact e
    ·exact Xe a (acX ..) b (acQ _ hb) (h1.1 b hb) (h2.1 a ha)
  subst e;rw[gZ h.cons_inv (λx hx y hy=>Xe x (acQ _ hx) y (acQ _ hy)) h1.2 h2.2]
theorem oW{xs ys:List D}(h:xs.all fc=true)(hp:ys.Perm xs)(hs:ys.Pairwise λx y=>mJ x y=true):ys=fK xs:=by
 refine gZ (hp.trans (eK xs).symm) (λa ha b hb h1 h2=>?_) hs (gf xs);have ia:=eR (ac4.mp h a (hp.mem_iff.mp ha));have ib:=eR (ac4.mp h b (hp.mem_iff.mp hb));unfold mJ at h1 h2;simp only[ad9]at h1 h2;rw[ia,ib,Vs.oi _ _ h2 h1]
def kM:List D->(EV->Prop)->Prop
 | [.lst xs],Q=>xs.all fc=true/\Q (.own (fK xs))
 | _,_=>False
def IA(F:Hp):V->List Int
 | .ref a=>match F a with
  | some (.tup vs)=>vs.map λv=>match v with|.int i=>i|_=>0
  | _=>[]
 | _=>[]
theorem rM{F:Hp}{v:V}{d:D}(r:Rep F v d)(h:fc d=true):IA F v=fj d/\∃a,v=.ref a/\F a=some (.tup ((fj d).map V.int)):=by
 cases r with
 | tup hf rl =>
  unfold fc at h;rw[adn]at h;have e:=rl.ints h.1;subst e;refine⟨?_,_,rfl,hf⟩;unfold IA;dsimp only;rw[hf];dsimp only;rw[adN];exact(List.map_congr_left (λx _=>rfl)).trans (List.map_id _)
 | _=>exact absurd h (by simp [fc])
theorem wF{F:Hp}:∀ {vs:List V} {xs:List D},aE F vs xs->xs.all fc=true->xs=vs.map λv=>.tup ((IA F v).map D.int)
 | _,_,.nil,_=>rfl
 | _,_,.cons r t,h=>by
  rw[aeC,adn]at h;rw[adh,<- wF t h.2,(rM r h.1).1,<- eR h.1]
theorem aE.mem{F:Hp}:∀ {vs:List V} {xs:List D},aE F vs xs->∀v∈vs,∃d∈xs,Rep F v d
 | _,_,.cons r t,v,hv=>by
  rcases acV.mp hv with rfl|hv
  ·exact⟨_,acX ..,r⟩
  ·obtain⟨d,hd,rd⟩:=aE.mem t v hv
   exact⟨d,acQ _ hd,rd⟩
theorem Ai{F:Hp}{f:V->D}:∀ {vs:List V},(∀v∈vs,Rep F v (f v))->aE F vs (vs.map f)
 | [],_=>.nil
 | v::vs,h=>.cons (h v (acX ..)) (Ai λu hu=>h u (acQ _ hu))
theorem vA:yZ G k S (.builtin "sorted") kM:=⟨λK xs H Q=>∃(p:Addr) (us:List V) (dd:V->List Int),xs=[.ref p]/\gp K H p us/\(∀u∈us,(∃a,u=.ref a/\k8 K H a ((dd u).map V.int))/\dd u≠[]) /\
  ∀(uy:List V),uy.Perm us->uy.Pairwise (λx y=>HT.lexLt (dd y) (dd x)=false)->∀l,H l=none->Q (.ref l) (upd H l (.lst uy)),λ_ _ ok=>uK,λY F H ai σ vs ds Qd Q R r q g=>by
 unfold kM at q
 split at q
 ·rename_i xs
  obtain⟨v,rfl,rv⟩:=r.one;obtain⟨p,us,rfl,h1,h2⟩:=rv.lst;have all:=ac4.mp q.1;refine⟨p,us,IA F,rfl,.inl h1,λu hu=>?_,λuy hp hs=>?_⟩
  ·obtain⟨d,hd,rd⟩:=h2.mem u hu
   obtain⟨e1,a,rfl,e2⟩:=rM rd (all d hd);refine⟨⟨a,rfl,.of (by rw[e1];exact R.fr _ _ e2)⟩,?_⟩
   rw[e1];have hi:=all d hd;cases d with
   | tup ys =>
    unfold fc at hi;rw[adn]at hi;intro z;have:ys=[]:=by simpa [fj]using z
    subst this;exact absurd hi.2 ∅
   | _=>exact absurd hi (by simp [fc])
  ·have ex:=wF h2 q.1
   have rep:∀v∈uy,Rep F v (.tup ((IA F v).map D.int)):=λv hv=>by
    obtain⟨d,hd,rd⟩:=h2.mem v (hp.mem_iff.mp hv);rw[(rM rd (all d hd)).1,<- eR (all d hd)];exact rd
   have key:∀v,fj (.tup ((IA F v).map D.int))=IA F v:=λv=>by
    show((IA F v).map D.int).map lE=_;rw[adN];exact(List.map_congr_left (λx _=>rfl)).trans (List.map_id _)
   have e:uy.map (λv=>D.tup ((IA F v).map D.int))=fK xs:=by
    refine oW q.1 (by rw[ex];exact hp.map _) ?_
    rw[List.pairwise_map];refine hs.imp λ{x y} h=>?_;unfold mJ;rw[key,key,h];rfl
   have rl:=Ai rep;rw[e]at rl;exact g.own R rl q.2
 ·exact q.elim⟩
end Vc
namespace Vc
open PySem L2
variable [KF]
variable {G:GE}{k:Nat}{S:Stat}
def Fh(i:Nat)(j:Int)(d:D)(σ:Sd)(Q:Sd->Prop):Prop:=match σ[i]? with
 | some (some (.own xs))=>match zR xs.length j with
  | some m=>Q (σ.set i (some (.own (xs.set m d))))
  | none=>False
 | _=>False
def wN(i:Nat)(tx:TV)(te:TD):b7:=λDe σ=>te σ λd aw=>vN aw i/\tx aw λy aM=>match cW aM y with
 | some (.int j)=>Fh i j d aM De.nx
 | _=>False
theorem J8{X:Cx}{st:Stmt}{t t':TS}(h:PS X st t)(i:∀Dn σ H,t' Dn σ H->t Dn σ H):PS X st t':=λpins s σ H Dn I q=>h pins s σ H Dn I (i Dn σ H q)
theorem yz(i:Nat){x:Str}{ix e:Expr}{tx:TV}{te:TD}{pos gE iM:Pos}(he:ED G k S e te)(hx:EO G k S ix tx)(ho:EO G k S (.Name x iM) (af i))
  (hs:∀line env,swapsWithSole [.Subscript (.Name x iM) ix gE] e line env=pure false:=by intro _ _;rfl) (hw:∀env,swappedStores [.Subscript (.Name x iM) ix gE] e env=pure none:=by intro _;rfl)
  (h1:∀env,(assignEach [.Subscript (.Name x iM) ix gE] env).map (·.2)=[assign (.Subscript (.Name x iM) ix gE) env]:=by intro _;rfl)
  (ha:∀env v,assign (.Subscript (.Name x iM) ix gE) env v=(do
   let ov <- holding [v] (eval (.Name x iM) env)
   let iv <- holding [v,ov] (eval ix env)
   standAt gE
   holding [v,ov,iv] (setItem ov iv v)
   release [v,ov,iv] []):=by intro _ _;rfl):ES G k S (.Assign [.Subscript (.Name x iM) ix gE] e pos) (wN i tx te):=.mk λX Y ok =>
 J8 (F7 (he X Y ok) (Tv (ho X Y ok) (hx X Y ok) set_list (ha _)) (hs _ _) (hw _) (h1 _)) λDn σ H q=>by
  obtain⟨F,ai,De,R,q,K⟩:=q;refine⟨F,ai,_,R,q,λv H1 F1 d aw s1 R1 r1 q1=>?_⟩;obtain⟨⟨ys,e0⟩,q1⟩:=q1;refine⟨F1,aw,λov aM=>ov=.var i/\aM=aw,R1,?_,λv2 H2 F2 ov aM s2 R2 r2 q2=>?_⟩
  ·unfold af;rw[e0];exact⟨rfl,rfl⟩
  ·obtain⟨rfl,rfl⟩:=q2
   have r2:σ[i]?=some (some v2):=r2;refine⟨F2,aM,_,R2,q1,λv3 H3 F3 y fq s3 R3 r3 q3=>?_⟩
   split at q3
   ·rename_i j ej
    unfold Fh at q3
    split at q3
    ·rename_i xs ex
     split at q3
     ·rename_i m em
      obtain⟨a,vs,w1,w2,w3,w4,w5⟩:=R3.own i xs ex;rw[r2]at w1;cases w1;have rj:=(R3.cW r3 ej).int;subst rj;refine⟨a,vs,j,m,rfl,rfl,w2,by rw[w3.length];exact em,?_⟩
      exact K.nx _ _ F3 _ ((s1.trans s2).trans s3) (R3.write ex r2 (aE.set ((r1.mono s2).mono s3) m w3)) q3
     ·exact q3.elim
    ·exact q3.elim
   ·exact q3.elim
abbrev fo:=List D->List D->(B->List D->Prop)->Prop
def tD(sp:fo):Sp:=λvs H Q _=>∃F xs ds a us rest Qd,vs=.ref a::rest/\mw F H/\H a=some (.lst us)/\aE F us xs/\F a=none/\aE F rest ds/\sp xs ds Qd /\
 ∀v H' F' b ys uy,aq F F'->aq F' H'->(∀c o,c≠a->H c=some o->H' c=some o)->H' a=some (.lst uy)->aE F' uy ys->F' a=none->(∀c o,F' c=some o->F c=some o\/Nw H c o)->Cz H F' H' v b->Qd b ys->Q v H'
def dN(G:GE)(k:Nat)(x:Str)(sp:fo):Prop:=∃f fd ps,cf G.P G.w G.K G.mg G.base ig k f fd ps (tD sp)/\G.mg x=some (.ref f)/\PySem.W.keepIn G.K (.ref f)=true/\Binds G.K fd ps []
theorem dN.mono{x:Str}{sp:fo}{j:Nat}(h:dN G j x sp)(l:j<=k):dN G k x sp:=by
 obtain⟨f,fd,ps,h1,h2,h3,h4⟩:=h;exact⟨f,fd,ps,h1.mono l,h2,h3,h4⟩
theorem dc.Gu{ai:Sd}{σ:St}{a:Addr}{i:Nat}{xs ys:List D}(h:dc ai σ a)(e:ai[i]?=some (some (.own xs))):dc (ai.set i (some (.own ys))) σ a:=by
 refine⟨λj js e1 z=>?_,λ⟨j,o,c,e1,e2,hm⟩=>?_⟩
 ·rcases gs e1 with⟨rfl,_⟩|⟨_,e1⟩
  ·exact h j xs e z
  ·exact h j js e1 z
 ·rcases gs e1 with⟨_,z⟩|⟨_,e1⟩
  ·cases z
  ·exact h.Rt ⟨j,o,c,e1,e2,hm⟩
theorem RS.CN{Y:bz}{F F':Hp}{ai:Sd}{σ:St}{H H':Hp}{i:Nat}{xs ys:List D}{a:Addr}{us:List V}(R:RS Y F ai σ H)(e:ai[i]?=some (some (.own xs)))(h:σ[i]?=some (some (.ref a)))(s1:aq F F')(s2:aq F' H')(s3:∀c o,c≠a->H c=some o->H' c=some o)
  (ha:H' a=some (.lst us)) (r:aE F' us ys) (fa:F' a=none) (fr:∀c o,F' c=some o->F c=some o\/Nw H c o):RS Y F' (ai.set i (some (.own ys))) σ H':=by
 obtain⟨b,vs,w1,w2,w3,w4,w5⟩:=R.own i xs e;rw[h]at w1;cases w1;have hl:i<ai.length:=(acR.mp e).1;have xZ:xm Y F' (ai.set i (some (.own ys))) σ H':=R.ob.step s1 (λj o q=>by
  rcases gs q with⟨_,z⟩|⟨hj,q⟩
  ·cases z
  ·exact⟨q,rfl⟩) (λb hb=>by
  obtain⟨z1,z2,z3⟩:=R.ob.owned hb;have cz:b≠a:=λz=>R.ob.gA i xs a e h (z ▸ hb);refine⟨?_,?_,z3⟩
  ·cases q:H b with
   | none=>exact absurd q z2
   | some o=>exact s3 b o cz q
  ·cases q:F' b with
   | none=>rfl
   | some o =>
    rcases fr b o q with w|w
    ·rw[z1]at w;cases w
    ·rcases w with w|⟨ws,rfl⟩
     ·exact absurd w z2
     ·cases q3:H b with
      | none=>exact absurd q3 z2
      | some o3 =>
       have y:=s2 b _ q;rw[s3 b o3 cz q3]at y;cases y;exact absurd q3 (R.ob.Mm hb)) (λj zs b q1 q2=>by
  rcases gs q1 with⟨e1,_⟩|⟨hj,q1⟩
  ·subst e1
   rw[h]at q2;cases q2;exact R.ob.gA j xs a e h
  ·exact R.ob.gA j zs b q1 q2) λb hb=>by
  by_cases cz:b=a
  ·rw[cz,ha];exactλz=>nomatch z
  ·cases q:H b with
   | none=>exact absurd q (R.ob.there b hb)
   | some o=>rw[s3 b o cz q];exactλz=>nomatch z
 refine⟨by simpa using R.len,R.lo.trans s1,s2,λb o q=>?_,λb o q n=>?_,λj d q=>?_,λj zs q=>?_,λj l zs qs b q1 q2 q3 q4=>?_,λp hp=>?_,xZ⟩
 ·rcases fr b o q with h|h
  ·exact R.e9 b o h
  ·exact .inr (h.imp (λh=>(R.b6 h).1) id)
 ·have:b≠a:=λz=>by
   subst z;rcases w5 with w5|w5
   ·rw[w5]at q;cases q
   ·exact bz.zN n w5
  exact s3 b o this (R.old b o q n)
 ·rcases gs q with⟨_,z⟩|⟨hj,q⟩
  ·cases z
  ·obtain⟨v,h1,h2⟩:=R.sh j d q
   exact⟨v,h1,h2.mono s1⟩
 ·rcases gs q with⟨rfl,z⟩|⟨hj,q⟩
  ·cases z
   exact⟨a,us,h,ha,r,fa,w5⟩
  ·obtain⟨b,ws,z1,z2,z3,z4,z5⟩:=R.own j zs q
   have:b≠a:=λz=>hj (R.dis j i zs xs a q e (z ▸ z1) h);refine⟨b,ws,z1,s3 b _ this z2,z3.mono s1,?_,z5⟩;cases q':F' b with
   | none=>rfl
   | some o =>
    rcases fr b o q' with h|h
    ·rw[z4]at h;cases h
    ·rcases h with h|⟨ws',rfl⟩
     ·rw[z2]at h;cases h
     ·have y:=s2 b _ q';rw[s3 b _ this z2]at y;cases y
 ·have f:∀ {m:Nat} {ms:List D},(ai.set i (some (B.own ys)))[m]?=some (some (B.own ms))->∃HR,ai[m]?=some (some (B.own HR)):=λ{m ms} q=>by
   rcases gs q with⟨rfl,z⟩|⟨hj,q⟩
   ·exact⟨xs,e⟩
   ·exact⟨_,q⟩
  obtain⟨_,q1⟩:=f q1;obtain⟨_,q2⟩:=f q2;exact R.dis j l _ _ b q1 q2 q3 q4
 ·obtain⟨z1,zs,z2⟩:=R.io p hp
  refine⟨z1,?_⟩
  by_cases Fb:p.1=i
  ·exact⟨ys,by rw[Fb,mE hl]⟩
  ·exact⟨zs,by rw[bQ Fb];exact z2⟩
def abo(sp:fo)(xs ds:List D)(Q:B->List D->Prop):Prop:=sp xs ds Q
def eP(sp:fo)(i:Nat)(t:fu):TX:=λσ Q=>vN σ i/\t σ λds aw=>match aw[i]? with
 | some (some (.own xs))=>abo sp xs ds λb ys=>Q (bE b) (aw.set i (some (.own ys)))
 | _=>False
theorem bC{x y:Str}{sp:fo}{i:Nat}{es:List Expr}{t:fu}{p pos iM:Pos}(h:dN G k x sp)(ho:EO G k S (.Name y iM) (af i))(ha:xu G k S es t)(hg:S.sc.lookup x=some .globalImplicit:=by rfl)(jE:(x==("__debug__":Str))=false:=by decide)
  (he:∀env,acW (.Name y iM::es) env=(false,eval (.Name y iM) env)::acW es env:=by intro _;rfl) (dJ:∀env,(backTo pos (acW es env)).any (·.1)=false:=by intro _;rfl) (hh:S.jh=false:=by rfl):EX G k S (.Call (.Name x p) (.Name y iM::es) [] pos) (eP sp i t):=.mk λX Y ok=>by
 obtain⟨f,fd,ps,h1,h2,h3,h4⟩:=h;have rY:cf X.prog X.w X.K X.mg X.base ig k f fd ps (tD sp):=by rw[ok.P,ok.w,ok.K,ok.mg,ok.base];exact h1
 refine aO (jP (E:=E0) (dvs:=[]) (ds:=[]) rY (ok.room hh) (du ok hg) (by rw[ok.mg];exact h2) (by rw[ok.K];exact h3) (by rw[ok.K];exact h4) .nil i7 (b5 (ho X Y ok) (ha X Y ok) (he _)) jE (he _) (dJ _)) λσ H Q q=>?_
 obtain⟨F,ai,Qd,R,⟨⟨ys,e0⟩,q⟩,K⟩:=q;refine⟨F,ai,λov aM=>ov=.var i/\aM=ai,R,?_,λv1 H1 F1 ov aw s1 R1 r1 q1=>?_⟩
 ·unfold af;rw[e0];exact⟨rfl,rfl⟩
 obtain⟨rfl,rfl⟩:=q1;have r1:σ[i]?=some (some v1):=r1;refine⟨F1,aw,_,R1,q,λvs H2 F2 ds aM s2 R2 r2 q2=>?_⟩
 split at q2
 ·rename_i xs ex
  obtain⟨a,us,w1,w2,w3,w4,w5⟩:=R2.own i xs ex;rw[r1]at w1;cases w1;show tD sp ((.ref a::vs)++[]) H2 Q E0;rw[adH];refine⟨F2,xs,ds,a,us,vs,_,rfl,⟨R2.fr,R2.ob.tab⟩,w2,w3,w4,r2,q2,λv H' F' b zs uy t1 t2 t3 t4 t5 t6 t7 t8 t9=>?_⟩;have R3:=R2.CN ex r1 t1 t2 t3 t4 t5 t6 t7;cases b with
  | sh d=>exact K v H' F' (.val d) _ ((s1.trans s2).trans t1) R3 t8 t9
  | own ws =>
   obtain⟨c,cs,rfl,z1,z2,z3,z4⟩:=t8;refine K _ H' F' (.own ws) _ ((s1.trans s2).trans t1) R3 ⟨c,cs,rfl,z1,z2,z3,(R2.b6 z4).1,(R2.df z4).Gu ex⟩ t9
  | obj o =>
   obtain⟨c,rfl,z1,z2⟩:=t8;exact K _ H' F' (.obj o) _ ((s1.trans s2).trans t1) R3 ⟨c,rfl,z1,λb hb=>⟨(z2 b hb).1,(z2 b hb).2.1,(R2.b6 (z2 b hb).2.2).1,(R2.df (z2 b hb).2.2).Gu ex⟩⟩ t9
 ·exact q2.elim
def a8(n:Nat)(xs ds:List D):Sd:=some (.own xs)::aR (n-1) ds
def pG(Q:B->List D->Prop)(b:B)(σ:Sd):Prop:=match σ[(0:Nat)]? with
 | some (some (.own ys))=>Q b ys
 | _=>False
theorem RS.a8{F H:Hp}{a:Addr}{us rest:List V}{xs ds:List D}(n:Nat)(hn:1<=n)(s:mw F H)(ha:H a=some (.lst us))(ru:aE F us xs)(fa:F a=none)(r:aE F rest ds):
  RS ⟨H,F,[(0,a)],[]⟩ F (a8 n xs ds) ((V.ref a::rest).map some++adl (n-(V.ref a::rest).length) none) H where
 len:=by unfold Vc.a8 aR;simp [r.length];omega
 lo:=aq.refl _
 fr:=s.1
 e9:=λb o e=>.inl e
 old:=λb o e _=>e
 sh:=λi d e=>by
  cases i with
  | zero=>unfold Vc.a8 at e;simp at e
  | succ i =>
   have e':(aR (n-1) ds)[i]?=some (some (.sh d)):=by unfold Vc.a8 at e;simpa using e
   obtain⟨v,h1,h2⟩:=o9 (n-1-ds.length) r e';refine⟨v,?_,h2⟩;have:n-(V.ref a::rest).length=n-1-ds.length:=by rw[adi,r.length];omega
   rw[this];simpa using h1
 own:=λi zs e=>by
  cases i with
  | zero =>
   unfold Vc.a8 at e;simp at e;subst e;exact⟨a,us,by simp,ha,ru,fa,.inr (by simp [bz.Wn])⟩
  | succ i =>
   have e':(aR (n-1) ds)[i]?=some (some (.own zs)):=by unfold Vc.a8 at e;simpa using e
   exact absurd e' (fM _ _ _ _)
 dis:=λi j zs ys b e1 e2 _ _=>by
  have z:∀ {i:Nat} {zs:List D},(Vc.a8 n xs ds)[i]?=some (some (.own zs))->i=0:=λ{i zs} e=>by
   cases i with
   | zero=>rfl
   | succ i =>
    have e':(aR (n-1) ds)[i]?=some (some (.own zs)):=by unfold Vc.a8 at e;simpa using e
    exact absurd e' (fM _ _ _ _)
  rw[z e1,z e2]
 io:=λp hp=>by
  have:p=(0,a):=by simpa using hp
  subst this;exact⟨by simp,xs,rfl⟩
 ob:=.none (λi o e=>by
  cases i with
  | zero=>unfold Vc.a8 at e;simp at e
  | succ i =>
   have e':(aR (n-1) ds)[i]?=some (some (.obj o)):=by unfold Vc.a8 at e;simpa using e
   exact absurd e' (l0 _ _ _ _)) s.2 λb hb=>by cases hb
theorem IJ{x qual:Str}{st:Stmt}{f:Addr}{fd:adf}{N ps:List Str}{sp:fo}{t:b7}(hK:G.K=KF.K)(Fn:BL G.K x qual st f fd)(Sc:aB N ps (ag st))(ht:dj G k ⟨N,(ag st).names,[0],false,false,false,λ_ _=>False⟩ (ak st) t)(hn:1<=N.length)
  (len:∀xs ds Q,sp xs ds Q->ds.length+1=ps.length)
  (body:∀xs ds Q,sp xs ds Q->t {nx:=pG Q (.sh .aQ),rt:=λb σ=>pG Q b σ} (a8 N.length xs ds)):cf G.P G.w G.K G.mg G.base ig (k+1) f fd ps (tD sp):=by
 refine Fn.ok Sc (λvs H Q E h=>?_) (λiu A outer s H vs Q E hr h=>?_)
 ·obtain⟨F,xs,ds,a,us,rest,Qd,rfl,s,h1,h2,h3,r,q,K⟩:=h
  rw[adi,r.length];exact len _ _ _ q
 ·obtain⟨F,xs,ds,a,us,rest,Qd,rfl,sm,h1,h2,h3,r,q,K⟩:=h
  refine⟨_,ht (nO ig G.P G.w G.K G.mg G.base N qual (ag st) f iu A outer s H E).JF ⟨H,F,[(0,a)],[]⟩ ⟨rfl,rfl,rfl,hK,rfl,rfl,rfl,rfl,Sc.nd,λp hp=>by
   have:p=(0,a):=by simpa using hp
   subst this;simp,(λ_ h=>nomatch h),λ_=>rfl,Sc.kind,λ_ _ _=>rfl,λ_=>hr.hd,hr.dp,hr.un,λ_=>PassesOwn.never,λ_=>⟨rfl,rfl,rfl⟩,λ_ _ h=>h.elim,λh=>nomatch h⟩,F,a8 N.length xs ds,_,RS.a8 _ hn sm h1 h2 h3 r,body xs ds Qd q,?_⟩
  have same:∀ {F':Hp} {ai:Sd} {σ:St} {H':Hp},RS ⟨H,F,[(0,a)],[]⟩ F' ai σ H'->∀c o,c≠a->H c=some o->H' c=some o:=λR c o hc e=>R.old c o e (by simpa [bz.zM]using hc)
  have fin:∀ {F':Hp} {ai:Sd} {σ:St} {H':Hp} {v:V} {b:B},aq F F'->RS ⟨H,F,[(0,a)],[]⟩ F' ai σ H'->Cz H F' H' v b->pG Qd b ai->Q v H':=λ{F' ai σ H' v b} s' R' r' q'=>by
   unfold pG at q'
   split at q'
   ·rename_i ys ey
    obtain⟨c,uy,w1,w2,w3,w4,w5⟩:=R'.own 0 ys ey;have i0:=(R'.io (0,a) (by simp)).1
    rw[i0]at w1;cases w1;exact K v H' F' b ys uy s' R'.fr (same R') w2 w3 w4 R'.e9 r' q'
   ·exact q'.elim
  refine⟨λσ H' F' ai s' R' q'=>?_,λv σ H' F' ai b s' R' r' q'=>?_,λ_ _ _ _ _ _ h=>h.elim,λ_ _ _ _ _ _ h=>h.elim⟩
  ·exact fin (b:=.sh .aQ) s' R' .aQ q'
  ·refine fin (b:=b) s' R' ?_ q'
   cases b with
   | sh d=>exact r'
   | own xs =>
    obtain⟨a,us,rfl,w1,w2,w3,w4,w5⟩:=r';exact⟨a,us,rfl,w1,w2,w3,w4⟩
   | obj o =>
    obtain⟨a,rfl,w1,w2⟩:=r';exact⟨a,rfl,w1,λb hb=>⟨(w2 b hb).1,(w2 b hb).2.1,(w2 b hb).2.2.1⟩⟩
theorem cV.Wb{x:Str}{st:Stmt}{ps N:List Str}{f:Addr}{fd:adf}{t:b7}{sp:fo}(d:cV G x st ps f fd)(hK:G.K=KF.K)(Sc:aB N ps (ag st))(ht:dj G k ⟨N,(ag st).names,[0],false,false,false,λ_ _=>False⟩ (ak st) t)(hn:1<=N.length)
  (len:∀xs ds Q,sp xs ds Q->ds.length+1=ps.length) (body:∀xs ds Q,sp xs ds Q->t {nx:=pG Q (.sh .aQ),rt:=λb σ=>pG Q b σ} (a8 N.length xs ds)):dN G (k+1) x sp:=
 ⟨f,fd,ps,IJ hK d.F Sc ht hn len body,d.m,d.F.kp,d.b⟩
end Vc
namespace Vc
open PySem L2
variable [KF]
variable {G:GE}{k:Nat}{S:Stat}
def az(S:Stat)(scope:Scope)(N':List Str)(m:Nat):Stat:=⟨N',jU scope.names S.sc,[m],true,false,false,λ_ _=>False⟩
theorem jd{X X':Cx}{Y:bz}{scope:Scope}{N':List Str}{caps:List (Option Nat)}{m:Nat}(hh:S.jh=false)(ok:dA X G k S Y)(b:iR S scope N' caps)(c:ju X X' scope N')(Y':bz)(cX:∀p∈Y'.io,p.1=m):dA X' G k (az S scope N' m) Y':=
 have z:=eA hh ok b c ⟨Y'.H0,Y'.F0,[],[]⟩ rfl
 ⟨z.P,z.w,z.K,z.kf,z.mg,z.base,z.N,z.sc,z.nd,λp hp=>by rw[cX p hp];exact acU.mpr rfl,(λh=>nomatch h),z.calm,z.kind,(λh=>by cases h),z.hd,z.dp,z.un,z.po,(λh=>nomatch h),(λ_ _ h=>h.elim),λh=>nomatch h⟩
def ownAt(m:Nat)(σ:Sd)(Q:List D->Prop):Prop:=match σ[m]? with
 | some (some (.own ys))=>Q ys
 | _=>False
def jc(g:mx)(tc:TB)(te:TD)(uA:Sd)(m:Nat):List D->List D->List D->(List D->List D->Prop)->Prop
 | [],acc,xs,Q=>Q acc xs
 | x::r,acc,xs,Q=>g x (uA.set m (some (.own xs))) λaw=>tc aw λb aM=>if b=true then te aM λd fq=>lK uA fq/\acc.length<acZ/\ownAt m fq λys=>jc g tc te uA m r (acc++[d]) ys Q
  else lK uA aM/\ownAt m aM λys=>jc g tc te uA m r acc ys Q
def iH(ios:List Nat)(caps:List (Option Nat))(j m:Nat)(ti:fu)(g:mx)(tc:TB)(te:TD):TX:=λσ Q=>ti σ λitems aw=>vH ios (caps.set m none) aw λaM=>ownAt j aM λxs=>jc g tc te (dQ (caps.set m none) aM) m items [] xs λds ys=>Q (.own ds) (aM.set j (some (.own ys)))
theorem CQ{Y:bz}{F:Hp}{ai:Sd}{σ:St}{H:Hp}(R:RS Y F ai σ H)(caps:List (Option Nat))(m:Nat){F' H':Hp}(s1:aq F F')(s2:aq F' H'):RS ⟨H',F',[],[]⟩ F' (dQ (caps.set m none) ai) (gq caps σ) H':=by
 have R0:=rF R (caps.set m none) s1 s2;refine⟨by unfold dQ gq;simp,R0.lo,R0.fr,R0.e9,R0.old,λi d e=>?_,λi xs e=>absurd e (cv _ _ _ _),λi j xs ys a e=>absurd e (cv _ _ _ _),λp hp=>(by cases hp),.none (cu _ _) R0.ob.tab λb hb=>by cases hb⟩
 obtain⟨v,h1,h2⟩:=R0.sh i d e;refine⟨v,?_,h2⟩
 by_cases hi:i=m
 ·subst hi
  unfold dQ at e;rw[ac0]at e
  by_cases hl:i<caps.length
  ·rw[adP hl]at e;cases e
  ·rw[List.getElem?_eq_none (by rw[List.length_set];omega)]at e;cases e
 ·unfold gq at h1 ⊢
  rw[ac0]at h1 ⊢;rw[aed (aec hi)]at h1;exact h1
theorem RS.inner{Y:bz}{F:Hp}{uA ai:Sd}{σ:St}{H:Hp}{m:Nat}{a:Addr}{us:List V}{xs:List D}(R:RS Y F ai σ H)(l:lK uA ai)(wk:∀(i:Nat) (xs:List D),uA[i]?≠some (some (.own xs)))(FD:∀(i:Nat) (o:O),uA[i]?≠some (some (.obj o)))(hm:m<uA.length)(h:σ[m]?=some (some (.ref a)))(r:aE F us xs)(fa:F a=none){H':Hp}(s:aq F H')(ha:H' a=some (.lst us)):
  RS ⟨H',F,[(m,a)],[]⟩ F (uA.set m (some (.own xs))) σ H' where
 len:=by rw[List.length_set];exact(nj l).trans R.len
 lo:=aq.refl _
 fr:=s
 e9:=λb o e=>.inl e
 old:=λb o e _=>e
 sh:=λi d e=>by
  rcases gs e with⟨_,z⟩|⟨_,e⟩
  ·cases z
  ·exact R.sh i d (ni l e)
 own:=λi zs e=>by
  rcases gs e with⟨rfl,z⟩|⟨_,e⟩
  ·cases z
   exact⟨a,us,h,ha,r,fa,.inr (by simp [bz.Wn])⟩
  ·exact absurd e (wk i zs)
 dis:=λi j zs ys b e1 e2 _ _=>by
  have z:∀ {i:Nat} {zs:List D},(uA.set m (some (B.own xs)))[i]?=some (some (.own zs))->i=m:=λ{i zs} e=>by
   rcases gs e with⟨rfl,_⟩|⟨_,e⟩
   ·rfl
   ·exact absurd e (wk i zs)
  rw[z e1,z e2]
 io:=λp hp=>by
  have:p=(m,a):=by simpa using hp
  subst this;exact⟨h,xs,by rw[mE hm]⟩
 ob:=.none (λi o e=>by
  rcases gs e with⟨_,z⟩|⟨_,e⟩
  ·cases z
  ·exact FD i o e) R.ob.tab λb hb=>by cases hb
def lGm(m:Nat)(g:mx):TG:=λv σ H Q=>∃Y:bz,(∀p∈Y.io,p.1=m)/\lG Y g v σ H Q
def lBm(m:Nat)(t:TB):TT:=λσ H Q=>∃Y:bz,(∀p∈Y.io,p.1=m)/\lB Y t σ H Q
def lDm(m:Nat)(t:TD):TE:=λσ H Q=>∃Y:bz,(∀p∈Y.io,p.1=m)/\lD Y t σ H Q
section
variable {elt target iter:Expr}{ifs:List Expr}{scope:Scope}{pos:Pos}{N':List Str}{caps:List (Option Nat)}{ti:fu}{g:mx}{tc:TB}{te:TD}{j m:Nat}
theorem qd{X:Cx}{Y:bz}(hh:S.jh=false)(ok:dA X G k S Y)(b:iR S scope N' caps)(hg:EG G k (az S scope N' m) target g)(ht:Ic G k (az S scope N' m) ifs tc)(he:ED G k (az S scope N' m) elt te):
  ∀X',ju X X' scope N'->PG X' target (lGm m g)/\HE X' ifs (lBm m tc)/\PE X' elt (lDm m te):=λX' c =>
 ⟨λpins s σ H v u Q I r ⟨Y',cX,q⟩=>hg X' Y' (jd hh ok b c Y' cX) pins s σ H v u Q I r q,λpins s σ H Q I ⟨Y',cX,q⟩=>ht X' Y' (jd hh ok b c Y' cX) pins s σ H Q I q,λpins s σ H Q I ⟨Y',cX,q⟩=>he X' Y' (jd hh ok b c Y' cX) pins s σ H Q I q⟩
theorem tj{α:Type}(l:List α)(i:Nat)(a b:α):(l.set i a).set i b=l.set i b:=by simp
theorem rJ{Y:bz}{ios:List Nat}(cX:∀p∈Y.io,p.1∈ios)(xW:caps[m]?=some (some j)){σ:St}{H:Hp}{Q:VK}(q:lX Y (iH ios caps j m ti g tc te) σ H Q):mh (lI Y ti) caps (lGm m g) (lBm m tc) (lDm m te) σ H Q:=by
 obtain⟨F,ai,Qd,R,q,K⟩:=q;refine⟨F,ai,_,R,q,λH1 F1 yX J items s1 R1 it q1 acc gP=>?_⟩;obtain⟨F2,cm,s2,R2,q2⟩:=eB cX R1 q1;unfold ownAt at q2
 split at q2
 ·rename_i MF e0
  have it2:=it.mono s2;have a0:Y.H0 acc=none:=(R2.b6 gP).1;have aF:F2 acc=none:=same_none R2.fr gP;obtain⟨a,MD,ha1,ha2,ha3,ha4,ha5⟩:=R2.own j MF e0;have V6:a≠acc:=λz=>by rw[z,gP]at ha2;cases ha2
  have hj:j<cm.length:=(acR.mp e0).1;have aN:∀(xs:List D),dc (cm.set j (some (.own xs))) σ acc:=λxs=>(R2.df gP).Gu e0;have sw:∀ {F5 H5:Hp} {o:HO},aq F5 H5->F5 acc=none->aq F5 (upd H5 acc o):=λ{F5 H5 o} s5 h b u e=>by
   have:b≠acc:=λz=>by rw[z,h]at e;cases e
   rw[au this];exact s5 b u e
  have hm:m<(dQ (caps.set m none) cm).length:=by
   unfold dQ;rw[acO,List.length_set];exact(acR.mp xW).1
  have YG:(gq caps σ)[m]?=some (some (.ref a)):=by
   unfold gq;rw[ac0,xW];show some ((σ[j]?).join)=_;rw[ha1];rfl
  have e00:cm.set j (some (.own MF))=cm:=by
   apply List.ext_getElem?;intro i
   by_cases hi:i=j
   ·subst hi;rw[mE hj,e0]
   ·rw[bQ hi]
  refine⟨λi mm aw H'=>∃Fi ds ys xs us,aq F2 Fi/\RS Y Fi (cm.set j (some (.own xs))) σ H'/\H' acc=some (.lst ys)/\aE Fi ys ds/\Fi acc=none/\H' a=some (.lst us)/\aE Fi us xs/\Fi a=none/\aw[m]?=some (some (.ref a))/\RS ⟨H',Fi,[(m,a)],[]⟩ Fi ((dQ (caps.set m none) cm).set m (some (.own xs))) aw H'/\jc g tc te (dQ (caps.set m none) cm) m (items.drop i) ds xs (λds ys=>Qd (.own ds) (cm.set j (some (.own ys))))/\mm=items.length-i/\i<=items.length,
   ⟨items.length,F2,[],[],MF,MD,aq.refl _,by rw[e00];exact R2.other aF a0 (e00 ▸ aN MF),ay,.nil,aF,by rw[au V6];exact ha2,ha3,ha4,YG,?_,q2,rfl,adz _⟩,?_⟩
  ·exact(CQ R2 caps m (aq.refl _) (sw (o:=.lst []) R2.fr aF)).inner (fB _) (cv _ _) (cu _ _) hm YG ha3 ha4 (sw R2.fr aF) (by rw[au V6];exact ha2)
  rintro i mm aw Hi ⟨Fi,ds,ys,xs,us,si,Ri,fy,ri,fi,hai,rui,fai,hmi,W0,qi,rfl,hi⟩;have zO:=it2 Fi Hi si Ri.fr i
  by_cases hl:i<items.length
  ·right
   have hd:items.drop i=items[i]::items.drop (i+1):=by rw[aem hl]
   rw[hd]at qi;obtain⟨go,yl⟩:=zO.1 items[i] (by rw[acN hl])
   refine⟨go,λv H' y=>?_⟩;obtain⟨F3,gr,rep⟩:=yl v H' y;have sF:aq Fi F3:=gr.same Ri.fr;have R3:=gr.rs W0;have sH:aq Hi H':=by
    rcases gr with⟨_,rfl⟩|⟨p,o,hp,_,rfl⟩
    ·exact aq.refl _
    ·exact aJ hp
   have IK:∀c o,F3 c=some o->Fi c=some o\/Nw Hi c o:=λc o e=>by
    rcases gr with⟨rfl,_⟩|⟨p,o',hp,rfl,_⟩
    ·exact .inl e
    ·by_cases hc:c=p
     ·subst hc;exact .inr (.inl hp)
     ·rw[au hc]at e;exact .inl e
   have fa3:F3 a=none:=by
    cases e:F3 a with
    | none=>rfl
    | some o =>
     rcases IK a o e with z|z
     ·rw[fai]at z;cases z
     ·rcases z with z|⟨ws,rfl⟩
      ·rw[hai]at z;cases z
      ·have y:=R3.fr a _ e;rw[sH a _ hai]at y;cases y
   have lec:lK (dQ (caps.set m none) cm) ((dQ (caps.set m none) cm).set m (some (.own xs))):=by
    have:∀(l:Sd) (n:Nat),l[n]?=some none->∀b,lK l (l.set n b):=by
     intro l
     induction l with
     | nil=>intro n h;cases h
     | cons c l ih =>
      intro n h b;cases n with
      | zero =>
       simp at h;subst h;exact fB l
      | succ n =>
       have h:l[n]?=some none:=by simpa using h
       cases c with
       | none=>exact ih n h b
       | some c=>exact⟨rfl,ih n h b⟩
    refine this _ m ?_ _;unfold dQ;rw[ac0,adP (acR.mp xW).1];rfl
   have WZ:RS ⟨H',F3,[(m,a)],[]⟩ F3 ((dQ (caps.set m none) cm).set m (some (.own xs))) aw H':=R3.inner lec (cv _ _) (cu _ _) hm hmi (rui.mono sF) fa3 R3.fr (sH _ _ hai)
   -- behind the turn
   have back:∀ {F5 H5:Hp} {pz:Sd} {WC:St} {zs:List D},aq F3 F5->RS ⟨H',F3,[(m,a)],[]⟩ F5 pz WC H5->pz[m]?=some (some (.own zs))->RS Y F5 (cm.set j (some (.own zs))) σ H5/\H5 acc=some (.lst ys)/\F5 acc=none/\aq Fi F5/\∃ws,H5 a=some (.lst ws)/\aE F5 ws zs/\F5 a=none/\WC[m]?=some (some (.ref a)):=λ{F5 H5 pz WC zs} s5 R5 ez=>by
    have i5:=(R5.io (m,a) (by simp)).1
    obtain⟨c,ws,w1,w2,w3,w4,_⟩:=R5.own m zs ez;rw[i5]at w1;cases w1;have BE:∀c o,c≠a->Hi c=some o->H5 c=some o:=λc o hc e=>R5.old c o (sH c o e) (by simpa [bz.zM]using hc)
    have HH:∀c o,F5 c=some o->Fi c=some o\/Nw Hi c o:=λc o e=>by
     rcases R5.e9 c o e with z|z
     ·exact IK c o z
     ·exact .inr (z.imp sH.free id)
    have Ro:=Ri.CN (i:=j) (xs:=xs) (ys:=zs) (by rw[mE hj]) ha1 (sF.trans s5) R5.fr BE w2 w3 w4 HH
    rw[tj]at Ro;refine⟨Ro,BE acc _ (aec V6) fy,?_,sF.trans s5,ws,w2,w3,w4,i5⟩;cases e:F5 acc with
    | none=>rfl
    | some o =>
     rcases HH acc o e with z|z
     ·rw[fi]at z;cases z
     ·rcases z with z|⟨ws,rfl⟩
      ·rw[fy]at z;cases z
      ·have y:=R5.fr acc _ e;rw[BE acc _ (aec V6) fy]at y;cases y
   refine⟨⟨H',F3,[(m,a)],[]⟩,λp hp=>by rw[acU.mp hp],F3,_,items[i],_,WZ,rep,qi,λqX H4 F4 eM s4 R4 q4=>?_⟩
   refine⟨⟨H',F3,[(m,a)],[]⟩,λp hp=>by rw[acU.mp hp],F4,eM,_,R4,q4,λb H5 F5 pz s5 R5 q5=>?_⟩
   cases b with
   | false =>
    obtain⟨le,q5⟩:=q5;unfold ownAt at q5
    split at q5
    ·rename_i zs ez
     obtain⟨w1,w2,w3,w4,ws,v1,v2,v3,v4⟩:=back (s4.trans s5) R5 ez;exact⟨items.length-(i+1),by omega,F5,ds,ys,zs,ws,si.trans w4,w1,w2,ri.mono w4,w3,v1,v2,v3,v4,R5.inner le (cv _ _) (cu _ _) hm v4 v2 v3 R5.fr v1,q5,rfl,hl⟩
    ·exact q5.elim
   | true =>
    refine⟨⟨H',F3,[(m,a)],[]⟩,λp hp=>by rw[acU.mp hp],F5,pz,_,R5,q5,λv6 H6 F6 d abm s6 R6 r6 q6=>?_⟩
    obtain⟨le,hz,q6⟩:=q6;unfold ownAt at q6
    split at q6
    ·rename_i zs ez
     obtain⟨w1,w2,w3,w4,ws,v1,v2,v3,v4⟩:=back ((s4.trans s5).trans s6) R6 ez;exact⟨ys,items.length-(i+1),w2,by rw[ri.length];exact hz,by omega,F6,ds++[d],ys++[v6],zs,ws,si.trans w4,w1.other w3 a0 (aN zs),ay,(ri.mono w4).append (.cons r6 .nil),w3,by rw[au V6];exact v1,v2,v3,v4,
      R6.inner le (cv _ _) (cu _ _) hm v4 v2 v3 (sw R6.fr w3) (by rw[au V6];exact v1),q6,rfl,hl⟩
    ·exact q6.elim
  ·left
   have e:i=items.length:=by omega
   subst e;rw[List.drop_length]at qi;exact⟨zO.2 rfl,K _ Hi Fi (.own ds) _ ((s1.trans s2).trans si) Ri ⟨acc,ys,rfl,fy,ri,fi,a0,aN xs⟩ qi⟩
 ·exact q2.elim
theorem wI(i j m:Nat){y:Str}{py gE:Pos}(hi:EI G k S target iter ti)(b:iR S scope N' caps)(hg:EG G k (az S scope N' m) target g)(ht:Ic G k (az S scope N' m) ifs tc)(he:ED G k (az S scope N' m) elt te)
  (xW:caps[m]?=some (some j):=by rfl) (hy:S.N[i]?=some y:=by rfl) (hx:S.sc.lookup y=some .local\/(S.sc.lookup y=some .cell/\S.CI=false):=by first|exact Or.inl rfl|exact Or.inr ⟨rfl,rfl⟩) (hn:i∉S.ios:=by first|decide|exact ac8 | (dsimp only;decide)) (hl:(py.line==pos.line)=true:=by rfl) (Mf:(scope.names.any λ(n,k)=>n==y&&(k==.local||k==.cell))=false:=by decide +kernel)
  (hs:∀env x,aer iter env x=pure x:=by intro _ _;rfl) (hh:S.jh=false:=by rfl):ES G k S (.Assign [.Name y py] (.ListComp elt [⟨target,iter,ifs,0⟩] scope pos) gE) (eh S.ios i (iH S.ios caps j m ti g tc te)):=.mk λX Y ok=>by
 have sw:swapsWith (.ListComp elt [⟨target,iter,ifs,0⟩] scope pos) (some (.Name y py)) gE.line X.env=pure (S.sc.lookup y==some .local):=by
  have e:swapsWith (.ListComp elt [⟨target,iter,ifs,0⟩] scope pos) (some (.Name y py)) gE.line X.env=pure (X.env.blockKind==.function&&X.env.kindOf y==some .local&&py.line==pos.line&&!(scope.names.any λ(n,k)=>n==y&&(k==.local||k==.cell))):=rfl
  have kb:X.env.blockKind=.function:=by unfold Env.blockKind;rw[ok.kind];rfl
  have kd:X.env.kindOf y=S.sc.lookup y:=by
   show X.env.scope.names.lookup y=_;rw[ok.sc]
  rw[e,kb,kd,hl,Mf];simp
 have fin:∀Dn σ H,lS Y (eh S.ios i (iH S.ios caps j m ti g tc te)) Dn σ H->GI (mh (lI Y ti) caps (lGm m g) (lBm m tc) (lDm m te)) (nV i) Dn σ H:=λDn σ H q=>by
  obtain⟨F,ai,De,R,q,K⟩:=q;refine rJ ok.ios xW ⟨F,ai,_,R,q,λv H1 F1 y aw s1 R1 r1 q1=>?_⟩;obtain⟨F2,aM,s2,R2,q2⟩:=lZ R1 r1 hn ok.ios q1;exact K.nx _ H1 F2 aM (s1.trans s2) R2 q2
 rcases hx with hx|hx
 ·refine cj (Ae (i:=i) (ok.calm hh) (hi X Y ok) (b.sc ok) (qd hh ok b hg ht he) (hs _) (by rw[ok.N];exact ok.nd) (by rw[ok.N];exact hy) (by rw[ok.sc];exact hx) (by rw[sw,hx];rfl)) fin
 ·refine cj (L2.yw (i:=i) (by rw[ok.N];exact ok.nd) (by rw[ok.N];exact hy) (oh ok (.inr hx)) (nr (ok.calm hh) (hi X Y ok) (b.sc ok) (qd hh ok b hg ht he) (hs _)) (by rw[sw,hx.1];rfl) (nR ok (.inr hx))) fin
end
end Vc
namespace Vc
open PySem L2
variable [KF]
variable {G:GE}{k:Nat}{S:Stat}
def IE(i:Nat)(ys:List D)(σ:Sd)(Q:Sd->Prop):Prop:=match σ[i]? with
 | some (some (.own xs))=>xs.length+ys.length<=acZ/\Q (σ.set i (some (.own (xs++ys))))
 | _=>False
def Kx(to:TV)(te:TX):TX:=λσ Q=>to σ λx aw=>match x with
 | .var i=>vN aw i/\te aw λd aM=>match d with
  | .own ys=>IE i ys aM λfq=>Q (.val .aQ) fq
  | _=>False
 | _=>False
theorem Gi{o e:Expr}{to:TV}{te:TX}{apos cn:Pos}(ho:EO G k S o to)(he:EX G k S e te)(hb:∀env,aev o "extend" env (eval o env)=eval o env:=by intro _;rfl)
  (sf:∀env,((backTo cn (acW [e] env)).all (λx=>!x.1)&&(backToKw cn (aeB [] env)).all (λx=>x.1.isSome)&&decide (([e]:List Expr).length+([]:List Keyword).length+(if([]:List Keyword).isEmpty then 0 else 1)<30))=true:=by intro _;rfl)
  (hline:(apos.endLine==cn.line)=true:=by rfl) (hs:∀env,acW [e] env=[(false,eval e env)]:=by intro _;rfl):EX G k S (.Call (.Attribute o "extend" apos) [e] [] cn) (Kx to te):=.mk λX Y ok=>by
 have ha:PA X [e] (d3 (lX Y te) kU):=b5 (he X Y ok) dW (by rw[hs];rfl)
 refine aO (z0 F.plainAttrs_list F.slot_list_extend F.type_list_extend Bf (ho X Y ok) ha (hb _) (sf _) hline (by rw[hs];rfl) (by rfl)) λσ H Q q=>?_
 obtain⟨F,ai,Qd,R,q,K⟩:=q;refine⟨F,ai,_,R,q,λv1 H1 F1 x aw s1 R1 r1 q1=>?_⟩;cases x with
 | val d=>exact q1.elim
 | any=>exact q1.elim
 | var i =>
  obtain⟨⟨ys,e0⟩,q1⟩:=q1;have r1:σ[i]?=some (some v1):=r1;obtain⟨a,vs,w1,w2,w3,w4,w5⟩:=R1.own i ys e0;rw[r1]at w1;cases w1;refine⟨.inl ⟨rfl,vs,.of w2⟩,F1,aw,_,R1,q1,λv2 H2 F2 d aM s2 R2 r2 q2=>?_⟩;cases d with
  | val _=>exact q2.elim
  | var _=>exact q2.elim
  | obj _=>exact q2.elim
  | any=>exact q2.elim
  | own zs =>
   have q2:IE i zs aM λfq=>Qd (.val .aQ) fq:=q2;unfold IE at q2
   split at q2
   ·rename_i xs e2
    obtain⟨b,us,z1,z2,z3,z4,z5⟩:=R2.own i xs e2;rw[r1]at z1;cases z1;obtain⟨c,cs,rfl,y1,y2,y3⟩:=r2;exact⟨a,c,us,cs,rfl,rfl,z2,y1,by rw[z3.length,y2.length];exact q2.1,K .aQ _ F2 (.val .aQ) _ (s1.trans s2) (R2.write e2 r1 (z3.append y2)) .aQ q2.2⟩
   ·exact q2.elim
def yY(i j:Int):Prop:=0<j/\j<2^200
theorem FG{X:Cx}:il X (binaryOp .FloorDiv) (rI yY λi j=>.int (i/j)):=opI λi j _ _ _ _ _ hc q=>by
 have h1:(0:Int)<j:=hc.1;have h2:j<2^200:=hc.2;refine PyProof.Rows.floordiv_int ⋯ (by rw[Int.fdiv_eq_ediv_of_nonneg i ⋯];exact q) (.inl (PyProof.noPylong_of_log2 ?_))
 have h3:j.natAbs<2^200:=by omega
 exact(Nat.log2_lt ⋯).mpr (ads h3 (Nat.pow_le_pow_right ∅ ∅))
def zq:=Wm yY λi j=>i/j
theorem Ah{a b:Expr}{ta tb:TV}{pos:Pos}(ha:EO G k S a ta)(hb:EO G k S b tb):EX G k S (.BinOp a .FloorDiv b pos) (bF zq ta tb):=qK (r:=λ_=>_) (λ_=>FG) (λ_=>nY) ha hb
end Vc
namespace Vc
open PySem L2
variable [KF]
variable {G:GE}{k:Nat}{S:Stat}
def bz.oH(Y:bz)(F H:Hp)(ps:List Addr):bz:=⟨λb=>if b∈ps then H b else Y.H0 b,F,Y.io,Y.ob⟩
structure nC(Y:bz)(F:Hp)(ai:Sd)(σ:St)(H:Hp)(b:Addr)(o:HO):Prop where
 h:H b=some o
 f:F b=none
 no:dc ai σ b
 z:Y.H0 b=none
 nb:b∉Y.ob
 nt:∀vs,o≠.tup vs
theorem RS.Ad{Y:bz}{F:Hp}{ai:Sd}{σ:St}{H:Hp}(R:RS Y F ai σ H)(ps:List Addr)(hP:∀b∈ps,∃o,nC Y F ai σ H b o):RS (Y.oH F H ps) F ai σ H where
 len:=R.len
 lo:=aq.refl _
 fr:=R.fr
 e9:=λb o e=>.inl e
 old:=λb o e n=>by
  have e:(if b∈ps then H b else Y.H0 b)=some o:=e
  split at e
  ·exact e
  ·exact R.old b o e n
 sh:=R.sh
 own:=λi xs e=>by
  obtain⟨a,vs,h1,h2,h3,h4,h5⟩:=R.own i xs e;refine⟨a,vs,h1,h2,h3,h4,?_⟩;rcases h5 with h5|h5
  ·left
   show(if a∈ps then H a else Y.H0 a)=none
   rw[if_neg λhp=>by obtain⟨o,ap⟩:=hP a hp;exact ap.no i xs e h1]
   exact h5
  ·exact .inr h5
 dis:=R.dis
 io:=R.io
 ob:=R.ob.step (aq.refl _) (λ_ _ e=>⟨e,rfl⟩) (λb hb=>by
  obtain⟨w1,w2,w3⟩:=R.ob.owned hb;refine⟨rfl,w1,w3.imp (λz=>?_) id⟩;show(if b∈ps then H b else Y.H0 b)=none
  rw[if_neg λhp=>by obtain⟨o,ap⟩:=hP b hp;exact ap.no.Rt hb]
  exact z) R.ob.gA R.ob.there λb hb=>⟨hb,λh=>by
  show(if b∈ps then H b else Y.H0 b)≠none
  split
  ·exact R.ob.there b hb
  ·exact h⟩
theorem RS.iI{Y:bz}{F F':Hp}{ai aC:Sd}{σ b8:St}{H H':Hp}(R0:RS Y F ai σ H){ps:List Addr}(hP:∀b∈ps,∃o,nC Y F ai σ H b o)(R:RS (Y.oH F H ps) F' aC b8 H'):
  RS Y F' aC b8 H'/\∀b o,b∈ps->nC Y F ai σ H b o->nC Y F' aC b8 H' b o:=by
 have at0:∀b,b∈ps->(Y.oH F H ps).H0 b=H b:=λb hb=>by show(if b∈ps then H b else Y.H0 b)=_;rw[if_pos hb]
 have xK:∀b,b∉ps->(Y.oH F H ps).H0 b=Y.H0 b:=λb hb=>by show(if b∈ps then H b else Y.H0 b)=_;rw[if_neg hb]
 have Rq:∀b,b∈ps->b∉Y.zM:=λb hb hm=>by
  obtain⟨o,ap⟩:=hP b hb;rcases adj.mp hm with hm|hm
  case inr=>exact ap.nb hm
  obtain⟨q,hq,e⟩:=adk.mp hm;obtain⟨h1,xs,h2⟩:=R0.io q hq;exact ap.no _ _ h2 (by rw[h1,e])
 have qG:∀b,(Y.oH F H ps).H0 b=none->b∉ps/\Y.H0 b=none:=λb e=>by
  by_cases hb:b∈ps
  ·obtain⟨o,ap⟩:=hP b hb
   rw[at0 b hb,ap.h]at e;cases e
  ·exact⟨hb,by rw[xK b hb]at e;exact e⟩
 refine⟨⟨R.len,R0.lo.trans R.lo,R.fr,λb o e=>?_,λb o e n=>?_,R.sh,λi xs e=>?_,R.dis,R.io,R.ob.step (aq.refl _) (λ_ _ e=>⟨e,rfl⟩) (λb hb=>⟨rfl,(R.ob.owned hb).1,(R.ob.owned hb).2.2.imp (λz=>(qG b z).2) id⟩) R.ob.gA R.ob.there (λb hb=>⟨hb,λh z=>h (by rw[xK b λhp=>by obtain⟨o',ap⟩:=hP b hp;exact ap.nb hb];exact z)⟩)⟩,λb o hb ap=>⟨?_,?_,⟨λj ys e z=>?_,λz=>?_⟩,ap.z,ap.nb,ap.nt⟩⟩
 ·rcases R.e9 b o e with h|h
  ·exact R0.e9 b o h
  ·exact .inr (h.imp (λh=>(qG b h).2) id)
 ·refine R.old b o ?_ n
  rw[xK b λhb=>by obtain⟨o',ap⟩:=hP b hb;rw[ap.z]at e;cases e]
  exact e
 ·obtain⟨a,vs,h1,h2,h3,h4,h5⟩:=R.own i xs e
  exact⟨a,vs,h1,h2,h3,h4,h5.elim (λh=>.inl (qG a h).2) .inr⟩
 ·exact R.old b o (by rw[at0 b hb];exact ap.h) (Rq b hb)
 ·cases q:F' b with
  | none=>rfl
  | some o' =>
   rcases R.e9 b o' q with h|h
   ·rw[show(Y.oH F H ps).F0 b=F b from rfl,ap.f]at h;cases h
   ·rcases h with h|⟨ws,rfl⟩
    ·exact absurd hb (qG b h).1
    ·have y:=R.fr b _ q;rw[R.old b o (by rw[at0 b hb];exact ap.h) (Rq b hb)]at y;cases y;exact absurd rfl (ap.nt _)
 ·obtain⟨a,vs,h1,h2,h3,h4,h5⟩:=R.own j ys e
  rw[z]at h1;cases h1;rcases h5 with h5|h5
  ·exact absurd hb (qG b h5).1
  ·exact Rq b hb (ad2 _ h5)
 ·rcases(R.ob.owned z).2.2 with w|w
  ·exact absurd hb (qG b w).1
  ·exact ap.nb w
structure WY(H H':Hp)(p:Addr)(as:List Addr)(cs:List Int):Prop where
 same:aq H H'
 list:H' p=some (.lst (as.map V.ref))
 fresh:∀b∈p::as,H b=none
 nd:(p::as).Nodup
 len:as.length=cs.length
 pot:∀(i:Nat) (a:Addr) (c:Int),as[i]?=some a->cs[i]?=some c->H' a=some (.lst [.int c,.int 0])
def yH:Sp:=λvs H Q _=>∃F ns,mw F H/\aE F vs [.lst (List.map D.int ns)]/\ns.length<=63/\∀p as cs H',WY H H' p as cs->Q (.ref p) H'
def gI(G:GE)(k:Nat)(x:Str):Prop:=∃f fd ps,cf G.P G.w G.K G.mg G.base ig k f fd ps yH/\G.mg x=some (.ref f)/\PySem.W.keepIn G.K (.ref f)=true/\Binds G.K fd ps []
theorem gI.mono{x:Str}{j:Nat}(h:gI G j x)(l:j<=k):gI G k x:=by
 obtain⟨f,fd,ps,h1,h2,h3,h4⟩:=h;exact⟨f,fd,ps,h1.mono l,h2,h3,h4⟩
def MA(Y:bz)(t:fu):TE:=λσ H Q=>∃F ai Qd,RS Y F ai σ H/\t ai Qd/\(∀ds aC,Qd ds aC->∃ns:List Int,ds=[.lst (ns.map D.int)]/\ns.length<=63) /\
 ∀(p:Addr) (as:List Addr) (cs:List Int) H' F' ds aC,aq F F'->RS Y F' aC σ H'->nC Y F' aC σ H' p (.lst (as.map V.ref))->(p::as).Nodup->as.length=cs.length ->
  (∀(i:Nat) (a:Addr) (c:Int),as[i]?=some a->cs[i]?=some c->nC Y F' aC σ H' a (.lst [.int c,.int 0]))->Qd ds aC->Q (.ref p) H'
theorem J0{x:Str}{e:Expr}{t:fu}{p pos:Pos}(hh:S.jh=false)(h:gI G k x)(ha:xu G k S [e] t)(hg:S.sc.lookup x=some .globalImplicit:=by rfl)(jE:(x==("__debug__":Str))=false:=by decide)
  (he:∀env,acW [e] env=(false,eval e env)::acW [] env:=by intro _;rfl) (dJ:∀env,(backTo pos (acW [] env)).any (·.1)=false:=by intro _;rfl) {X:Cx} {Y:bz} (ok:dA X G k S Y):PE X (.Call (.Name x p) [e] [] pos) (MA Y t):=by
 obtain⟨f,fd,ps,h1,h2,h3,h4⟩:=h;have rY:cf X.prog X.w X.K X.mg X.base ig k f fd ps yH:=by rw[ok.P,ok.w,ok.K,ok.mg,ok.base];exact h1
 refine aO (jP (E:=E0) (dvs:=[]) (ds:=[]) rY (ok.room hh) (du ok hg) (by rw[ok.mg];exact h2) (by rw[ok.K];exact h3) (by rw[ok.K];exact h4) .nil i7 (ha X Y ok) jE (he _) (dJ _)) λσ H Q q=>?_
 obtain⟨F,ai,Qd,R,q,sh,K⟩:=q;refine⟨F,ai,_,R,q,λvs H1 F1 ds aw s1 R1 r1 q1=>?_⟩;show yH (vs++[]) H1 Q E0;rw[adH];obtain⟨ns,rfl,hl⟩:=sh _ _ q1;refine⟨F1,ns,⟨R1.fr,R1.ob.tab⟩,r1,hl,λp as cs H' P=>?_⟩;have R2:RS Y F1 aw σ H':=R1.call (aq.refl _) (R1.fr.trans P.same) P.same λc o e=>.inl e;have apt:∀b∈p::as,∀o,H' b=some o->(∀vs,o≠.tup vs)->nC Y F1 aw σ H' b o:=λb hb o e nt=>by
  have hf:=P.fresh b hb;exact⟨e,same_none R1.fr hf,R1.df hf,(R1.b6 hf).1,λz=>(R1.b6 hf).2 (adg _ z),nt⟩
 exact K p as cs H' F1 _ aw s1 R2 (apt p (acX ..) _ P.list λ_ z=>nomatch z) P.nd P.len (λi a c e1 e2=>apt a (acQ _ (ady e1)) _ (P.pot i a c e1 e2) λ_ z=>nomatch z) q1
def vE(pre:Nat->Int->Sd->Sd)(tb:b7)(De:iT):Nat->Nat->Sd->Prop
 | 0,_,σ=>De.nx σ
 | n+1,i,σ=>∀c:Int,tb {De with nx:=vE pre tb De n (i+1),ct:=vE pre tb De n (i+1),bk:=De.nx} (pre i c σ)
def Aw(t:fu)(pre:Nat->Int->Sd->Sd)(tb:b7):b7:=λDe σ=>t σ λds aw=>(∃ns:List Int,ds=[.lst (ns.map D.int)]/\ns.length<=63)/\∀n,vE pre tb De n 0 aw
def Uj(j:Nat):Nat->Int->Sd->Sd:=λ_ c σ=>σ.set j (some (.own [.int c,.int 0]))
def lSP(Y:bz)(t:b7):TS:=λDn σ H=>∃Y':bz,(Y'.io=Y.io/\Y'.ob=Y.ob)/\lS Y' t Dn σ H
theorem NB{X:Cx}{Y:bz}{body:List Stmt}{tb:b7}(Jb:S.ex=λ_ _=>False)(ok:dA X G k S Y)(hb:dj G k S body tb):rh X body (lSP Y tb):=λpins s σ H Dn I ⟨Y',⟨cX,xZ⟩,q⟩ =>
 hb X Y' ⟨ok.P,ok.w,ok.K,ok.kf,ok.mg,ok.base,ok.N,ok.sc,ok.nd,λp hp=>ok.ios p (by rw[<- cX];exact hp),(λh1 h2=>xZ.trans (ok.obs h1 h2)),ok.calm,ok.kind,ok.fn,ok.hd,ok.dp,ok.un,ok.po,ok.nx,(λc ai h=>by rw[Jb]at h;exact h.elim),λ_ c ai h=>by rw[Jb]at h;exact h.elim⟩ pins s σ H Dn I q
theorem FZ{X:Cx}{Y:bz}{t:fu}{pre:Nat->Int->Sd->Sd}{tb:b7}{J:Addr->It}{g:TG}{Dn:Ends}{σ:St}{H:Hp}
  (hgo:∀(p:Addr) (as:List Addr) (i:Nat) (a:Addr) (H:Hp),H p=some (.lst (as.map V.ref))->as[i]?=some a->(J p).go i H)
  (Fc:∀(p:Addr) (as:List Addr) (H:Hp),H p=some (.lst (as.map V.ref))->(J p).stop as.length H)
  (hy:∀(p:Addr) (as:List Addr) (i:Nat) (a:Addr) (c:Int) (F H:Hp) (ai:Sd) (σ:St) (x:V) (H':Hp),RS Y F ai σ H->(p::as).Nodup->as[i]?=some a ->
   (∀b∈p::as.drop (i+1),∃o,nC Y F ai σ H b o)->H p=some (.lst (as.map V.ref))->nC Y F ai σ H a (.lst [.int c,.int 0])->(J p).WB i H x H' ->
   ∃F',aq F F'/\RS Y F' ai σ H'/\(∀b o,nC Y F ai σ H b o->nC Y F' ai σ H' b o)/\∀N:St->Hp->Prop,(∀aM,RS (Y.oH F' H' (p::as.drop (i+1))) F' (pre i c ai) aM H'->N aM H')->g x σ H' N)
  (q:lS Y (Aw t pre tb) Dn σ H):
  abd (λσ H R=>MA Y t σ H λx H1=>∃p as,x=.ref p/\H1 p=some (.lst (List.map V.ref as))/\R (J p) H1) g (lSP Y tb) Dn σ H:=by
 obtain⟨F,ai,De,R,q,K⟩:=q;refine⟨F,ai,_,R,q,λds aC h=>h.1,λp as cs H1 F1 ds yX s1 R1 ap nd len yu q1=>⟨p,as,rfl,ap.h,?_⟩⟩;have q1:=q1.2 as.length;refine⟨λi m b8 H'=>∃F' aC,aq F1 F'/\RS Y F' aC b8 H'/\nC Y F' aC b8 H' p (.lst (as.map V.ref))/\(∀(j:Nat) (a:Addr) (c:Int),i<=j->as[j]?=some a->cs[j]?=some c->nC Y F' aC b8 H' a (.lst [.int c,.int 0])) /\
  vE pre tb De (as.length-i) i aC/\m=as.length-i/\i<=as.length,⟨as.length,F1,yX,aq.refl _,R1,ap,λj a c _=>yu j a c,q1,rfl,adz _⟩,?_⟩
 rintro i m b8 H' ⟨F',aC,s',R',Xf,FY,q',rfl,hi⟩
 by_cases hl:i<as.length
 ·right
  have e1:as[i]?=some as[i]:=acN hl;have nc:i<cs.length:=by rw[<- len];exact hl
  have e2:cs[i]?=some cs[i]:=acN nc;refine⟨hgo p as i _ H' Xf.h e1,λaM H2=>∃F2 cm,aq F1 F2/\RS Y F2 cm aM H2/\nC Y F2 cm aM H2 p (.lst (as.map V.ref))/\(∀(j:Nat) (a:Addr) (c:Int),i+1<=j->as[j]?=some a->cs[j]?=some c->nC Y F2 cm aM H2 a (.lst [.int c,.int 0])) /\
   vE pre tb De (as.length-(i+1)) (i+1) cm,λaM H2 ⟨F2,cm,w1,w2,w3,w4,w5⟩=>⟨as.length-(i+1),by omega,F2,cm,w1,w2,w3,w4,w5,rfl,hl⟩,λx H2 y=>?_⟩
  have Qx:∀(j:Nat) (a:Addr),i+1<=j->as[j]?=some a->a∈p::as.drop (i+1):=λj a hj e=>by
   refine acQ _ (ady (i:=j-(i+1)) ?_);rw[List.getElem?_drop,show i+1+(j-(i+1))=j by omega];exact e
  have hP:∀b∈p::as.drop (i+1),∃o,nC Y F' aC b8 H' b o:=λb hb=>by
   rcases acV.mp hb with rfl|hb
   ·exact⟨_,Xf⟩
   ·obtain⟨j,hj,e⟩:=aee.mp hb
    rw[List.getElem_drop]at e;have HM:i+1+j<as.length:=by rw[aeh]at hj;omega
    have hj2:i+1+j<cs.length:=by rw[<- len];exact HM
    exact⟨_,FY (i+1+j) b cs[i+1+j] ⋯ (by rw[acN HM,e]) (acN hj2)⟩
  obtain⟨F2,sF,R2,keep,go⟩:=hy p as i _ cs[i] F' H' aC b8 x H2 R' nd e1 hP Xf.h (FY i _ _ (acS _) e1 e2) y;refine go _ λaM R3=>?_;have hn:as.length-i=(as.length-(i+1))+1:=by omega
  rw[hn]at q';have q2:=q' cs[i];have Yz:∀b∈p::as.drop (i+1),∃o,nC Y F2 aC b8 H2 b o:=λb hb=>by
   obtain⟨o,a⟩:=hP b hb;exact⟨o,keep b o a⟩
  have again:∀ {qX:St} {H4 F4:Hp} {eM:Sd},aq F2 F4->RS (Y.oH F2 H2 (p::as.drop (i+1))) F4 eM qX H4->vE pre tb De (as.length-(i+1)) (i+1) eM->∃F2 cm,aq F1 F2/\RS Y F2 cm qX H4/\nC Y F2 cm qX H4 p (.lst (as.map V.ref))/\(∀(j:Nat) (a:Addr) (c:Int),i+1<=j->as[j]?=some a->cs[j]?=some c->nC Y F2 cm qX H4 a (.lst [.int c,.int 0]))/\vE pre tb De (as.length-(i+1)) (i+1) cm:=λ{qX H4 F4 eM} s4 R4 q4=>by
   obtain⟨R5,k5⟩:=R2.iI Yz R4;exact⟨F4,eM,(s'.trans sF).trans s4,R5,k5 _ _ (acX ..) (keep _ _ Xf),λj a c hj ea ec=>k5 _ _ (Qx j a hj ea) (keep _ _ (FY j a c ⋯ ea ec)),q4⟩
  refine⟨Y.oH F2 H2 (p::as.drop (i+1)),⟨rfl,rfl⟩,F2,pre i cs[i] aC,_,R3,q2,⟨λqX H4 F4 eM s4 R4 q4=>again s4 R4 q4,λv4 qX H4 F4 eM b s4 R4 r4 q4=>?_,λqX H4 F4 eM s4 R4 q4=>?_,λqX H4 F4 eM s4 R4 q4=>again s4 R4 q4⟩⟩
  ·obtain⟨R5,k5⟩:=R2.iI Yz R4
   refine K.rt v4 qX H4 F4 eM b (((s1.trans s').trans sF).trans s4) R5 ?_ q4;cases b with
   | sh d=>exact r4
   | own xs =>
    obtain⟨a,vs,w1,w2,w3,w4,w5,w6⟩:=r4;refine⟨a,vs,w1,w2,w3,w4,?_,w6⟩;have w5:(if a∈p::as.drop (i+1)then H2 a else Y.H0 a)=none:=w5
    split at w5
    ·rename_i hm
     obtain⟨o,ap⟩:=Yz a hm;exact ap.z
    ·exact w5
   | obj o =>
    obtain⟨a,w1,w2,w3⟩:=r4;refine⟨a,w1,w2,λb hb=>⟨(w3 b hb).1,(w3 b hb).2.1,?_,(w3 b hb).2.2.2⟩⟩;have w5:(if b∈p::as.drop (i+1)then H2 b else Y.H0 b)=none:=(w3 b hb).2.2.1
    split at w5
    ·rename_i hm
     obtain⟨o,ap⟩:=Yz b hm;exact ap.z
    ·exact w5
  ·obtain⟨R5,k5⟩:=R2.iI Yz R4
   exact K.nx qX H4 F4 eM (((s1.trans s').trans sF).trans s4) R5 q4
 ·left
  have e:i=as.length:=by omega
  subst e;rw[Nat.sub_self]at q';exact⟨Fc p as H' Xf.h,K.nx b8 H' F' aC (s1.trans s') R' q'⟩
theorem RS.KI{Y:bz}{F:Hp}{ai:Sd}{σ:St}{H:Hp}{j:Nat}{a:Addr}{c:Int}{ps:List Addr}(R:RS Y F ai σ H)(hP:∀b∈ps,∃o,nC Y F ai σ H b o)(ha:nC Y F ai σ H a (.lst [.int c,.int 0]))(hn:a∉ps)(cX:∀p∈Y.io,p.1≠j):
  RS (Y.oH F H ps) F (ai.set j (some (.own [.int c,.int 0]))) (σ.set j (some (.ref a))) H:=
 (R.Ad ps hP).GC ha.h (.cons (.int _) (.cons (.int _) .nil)) ha.f (by show(if a∈ps then H a else Y.H0 a)=none;rw[if_neg hn];exact ha.z) ha.no cX
theorem JA{p:Addr}{as:List Addr}{i:Nat}{a:Addr}(nd:(p::as).Nodup)(e:as[i]?=some a):a∉p::as.drop (i+1):=by
 have hi:=(acR.mp e).1;have ea:as[i]=a:=(acR.mp e).2;intro h;rcases acV.mp h with h|h
 ·exact(adV.mp nd).1 (by rw[<- h];exact ady e)
 ·obtain⟨j,hj,e'⟩:=aee.mp h
  rw[List.getElem_drop]at e';have HM:i+1+j<as.length:=by rw[aeh]at hj;omega
  have:=(adV.mp nd).2;exact ad3.mp this i (i+1+j) hi HM ⋯ (by rw[ea,e'])
theorem Ur(j:Nat){x y:Str}{e:Expr}{t:fu}{tb:b7}{body:List Stmt}{p cn iM pos:Pos}(h:gI G k x)(ha:xu G k S [e] t)(hb:dj G k S body tb)(hj:S.N[j]?=some y:=by rfl)(hx:S.sc.lookup y=some .local\/(S.sc.lookup y=some .cell/\S.CI=false):=by first|exact Or.inl rfl|exact Or.inr ⟨rfl,rfl⟩)
  (hn:j∉S.ios:=by first|decide|exact ac8 | (dsimp only;decide)) (hg:S.sc.lookup x=some .globalImplicit:=by rfl) (jE:(x==("__debug__":Str))=false:=by decide)
  (he:∀env,acW [e] env=(false,eval e env)::acW [] env:=by intro _;rfl) (dJ:∀env,(backTo cn (acW [] env)).any (·.1)=false:=by intro _;rfl)
  (hs:∀env x',aer (.Call (.Name x p) [e] [] cn) env x'=pure x':=by intro _ _;rfl) (Jb:S.ex=λ_ _=>False:=by rfl) (hh:S.jh=false:=by rfl):
  ES G k S (.For (.Name y iM) (.Call (.Name x p) [e] [] cn) body [] pos) (Aw t (Uj j) tb):=.mk λX Y ok=>by
 have pi:=FU (tg:=.Name y iM) (J0 (p:=p) (pos:=cn) hh h ha hg jE he dJ ok);refine cj (F8 (ok.po hh) (ok.calm hh) pi (L2.Ab (i:=j) (by rw[ok.N];exact ok.nd) (by rw[ok.N];exact hj) (oh ok hx) (nR ok hx)) (NB Jb ok hb) (hs _)) λDn σ H q=>?_
 have r:=FZ (X:=X) (J:=λa=>Itl X.K a) (g:=nV j) (λp as i a H h e=>⟨as.map V.ref,.ref a,.of h,by rw[ac0,e];rfl⟩) (λp as H h=>⟨as.map V.ref,.of h,by rw[acO];exact acS _⟩)
  (λp as i a c F H ai σ x H' R nd e hP hp abY y=>by
   obtain⟨rfl,y⟩:=y;have hx:=y _ (.of hp);rw[ac0,e]at hx;cases hx;refine⟨F,aq.refl _,R,λ_ _ a=>a,λN hN=>hN _ (R.KI hP abY (JA nd e) λq hq z=>hn (by rw[<- z];exact ok.ios q hq))⟩) q
 obtain⟨F,ai,Qd,w1,w2,w3,w4⟩:=r;exact⟨F,ai,Qd,w1,w2,w3,λp as cs H' F' ds aC a1 a2 a3 a4 a5 a6 a7=>by
  obtain⟨p',as',e,z1,z2⟩:=w4 p as cs H' F' ds aC a1 a2 a3 a4 a5 a6 a7;exact .inl ⟨p',e,⟨_,.of z1⟩,z2⟩⟩
theorem vF{pre:Nat->Int->Sd->Sd}{tb:b7}{De:iT}(I:Sd->Prop)(hb:∀i c σ (N:Sd->Prop),I σ->(∀b8,I b8->N b8)->tb {De with nx:=N,ct:=N,bk:=De.nx} (pre i c σ))(hn:∀σ,I σ->De.nx σ):∀n i σ,I σ->vE pre tb De n i σ
 | 0,_,σ,h=>hn σ h
 | n+1,i,σ,h=>λc=>hb i c σ _ h λb8 h'=>vF I hb hn n (i+1) b8 h'
end Vc
namespace Vc
open PySem L2
variable [KF]
variable {G:GE}{k:Nat}{S:Stat}
def Ml(Y:bz):TS:=λDn σ H=>∃F ns,RS Y F [some (.sh (.lst (List.map D.int ns)))] σ H/\Y.H0=H/\(Y.io=[]/\Y.ob=[])/\ns.length<=63/\∀p as cs H',WY H H' p as cs->Dn.rt (.ref p) H'
structure uB(G:GE)(k:Nat)(S:Stat)(b:List Stmt) :Prop where
 run:∀X Y,dA X G k S Y->rh X b (Ml Y)
instance {G:GE} {k:Nat} {S:Stat} {b:List Stmt} :CoeFun (uB G k S b) λ_=>∀X Y,dA X G k S Y->rh X b (Ml Y):=⟨uB.run⟩
def lLe(t:fu):TE:=λσ H Q=>∃Y:bz,Y.io=[]/\abe (lDs Y t) σ H Q
abbrev Hf:TB:=aW eqT (bu (eN gD (bH (af 0) dX))) (bh (.int 0))
abbrev Hm:fu:=aS (aj [] (bh (.int 0))) (aS (aj [] (bh (.int 0))) tN)
abbrev Hg:fu:=cQ (aj [] (bu (GK (af 0) tP0 (tP1 (bh (.int 63))))))
abbrev yQ:fu:=aS (aj [] (af 0)) (aS (aj [] (bh (.int 0))) tN)
theorem zo{α:Type}(xs:List α)(lo hi:Option Int):(cut xs lo hi).length<=xs.length:=by
 unfold cut;rw[aei,aeh];omega
theorem uQ(ns:List Int)(lo hi:Option Int):cut (ns.map D.int) lo hi=(cut ns lo hi).map D.int:=by
 unfold cut;rw[acO,List.map_take,List.map_drop]
theorem aE.Zb{F:Hp}{vs:List V}{a b:Int}(r:aE F vs [.int a,.int b]):vs=[.int a,.int b]:=by
 cases r with
 | cons h r =>
  cases h;cases r with
  | cons h r=>cases h;cases r;rfl
section
variable {c:Expr}{zs es:List Expr}{tg iter:Expr}{scope:Scope}{N':List Str}{p1 p2 p3 p4 p5 p6 p7:Pos}
theorem Pa(acC:S.ios=[])(hc:EB G k S c Hf)(hz:xu G k S zs Hm)(hi:EI G k S tg iter Hg)(b:iR S scope N' [none])(hg:EG G k (aK S scope N') tg (fb 0))(he:xu G k (aK S scope N') es yQ)(hs:∀env x,aer iter env x=pure x:=by intro _ _;rfl) 
  (h1:∀env,acW [.List zs p1] env=(false,eval (.List zs p1) env)::acW [] env:=by intro _;rfl) (hh:S.jh=false:=by rfl):
  uB G k S [.If c [.Return (some (.List [.List zs p1] p2)) p3] [] p4,.Return (some (.ListComp (.List es p5) [⟨tg,iter,[],0⟩] scope p6)) p7]:=.mk λX Y ok=>by
 have E3:∀X',ju X X' scope N'->PG X' tg (lGe (fb 0))/\HE X' [] (lBe d4)/\PE X' (.List es p5) (lLe yQ):=λX' cx =>
  ⟨λpins s σ H v u Q I r ⟨Y',cX,q⟩=>hg X' Y' (eA hh ok b cx Y' cX) pins s σ H v u Q I r q,λpins s σ H Q I ⟨Y',cX,q⟩=>jw X' Y' (eA hh ok b cx Y' cX) pins s σ H Q I q,λpins s σ H Q I ⟨Y',cX,q⟩=>sG (he X' Y' (eA hh ok b cx Y' cX)) pins s σ H Q I q⟩
 refine sN (wx (L2.Mq (hc X Y ok) (sO (L2.yv (sG (b5 (sG (hz X Y ok)) dW (h1 _))))) Ag) (sO (L2.yv (nr (ok.calm hh) (hi X Y ok) (b.sc ok) E3 (hs _))))) λDn σ H q=>?_;obtain⟨F,ns,R,rfl,hY,hl,K⟩:=q;have same:∀ {F':Hp} {ai:Sd} {σ:St} {H':Hp},RS Y F' ai σ H'->aq Y.H0 H':=λR b o e=>R.old b o e (by rw[bz.zM,hY.1,hY.2];simp)
 refine⟨F,_,λ_ aC=>aC=[some (.sh (.lst (List.map D.int ns)))],R,?_,λbb H1 F1 aw s1 R1 e1=>?_⟩
 ·simp only[Hf,aW,bu,fzV,eN,bH,af,dX,je,cW,aeA,gD,bh,eqT]
  exact⟨⟨rfl,rfl⟩,trivial⟩
 subst e1;cases bb with
 | true =>
  refine(if_pos rfl).mpr ?_;refine⟨F1,_,λds _=>ds=[.int 0,.int 0],R1,?_,λvs H2 F2 ds aM s2 R2 r2 e2=>?_⟩
  ·simp only[Hm,aS,aj,kZ,bh,tN]
  subst e2;obtain rfl:=r2.Zb;refine⟨by show 2<=acZ;decide,λa ha=>⟨by show 1<=acZ;decide,λp hp=>K p [a] [0] _ ?_⟩⟩
  have hpa:p≠a:=λz=>by rw[z,ay]at hp;cases hp
  have Wl:H2 p=none:=by rw[au hpa]at hp;exact hp
  have sm:=same R2;refine⟨(sm.trans (aJ ha)).trans (aJ hp),ay,λb hb=>?_,by simp [hpa],rfl,λi a' c' e1 e2=>?_⟩
  ·rcases acV.mp hb with rfl|hb
   ·exact sm.free Wl
   ·rw[acU.mp hb];exact sm.free ha
  ·cases i with
   | zero =>
    cases e1;cases e2;rw[au hpa.symm,ay]
   | succ i=>simp at e1
 | false =>
  refine(if_neg ∅).mpr ?_
  refine⟨F1,_,λitems aC=>(∃ms:List Int,items=ms.map D.int/\ms.length<=63)/\aC=[some (.sh (.lst (List.map D.int ns)))],R1,?_,λH2 F2 aM J items s2 R2 it e2 acc gP=>?_⟩
  ·simp only[Hg,cQ,aj,kZ,k4,bu,fzV,GK,af,tP0,tP1,bh,cW,aeA,slD]
   exact⟨⟨cut ns none (some 63),uQ _ _ _,adq (zo _ _ _) hl⟩,trivial⟩
  obtain⟨⟨ms,rfl,hm⟩,rfl⟩:=e2;have a0:Y.H0 acc=none:=(R2.b6 gP).1;have aF:F2 acc=none:=same_none R2.fr gP;have noOwn:∀(σ:St) (a:Addr),dc [some (.sh (.lst (List.map D.int ns)))] σ a:=λσ a=>⟨λj ys e=>by
   cases j with
   | zero=>cases e
   | succ j=>simp at e,λ⟨j,o,c,e,_⟩=>by
   cases j with
   | zero=>cases e
   | succ j=>simp at e⟩
  have sw:∀ {F5 H5:Hp} {o:HO},aq F5 H5->F5 acc=none->aq F5 (upd H5 acc o):=λ{F5 H5 o} s5 h b u e=>by
   have:b≠acc:=λz=>by rw[z,h]at e;cases e
   rw[au this];exact s5 b u e
  have ZE:∀(i:Nat) (xs:List D),([none]:Sd)[i]?≠some (some (.own xs)):=λi xs e=>by
   cases i with
   | zero=>cases e
   | succ i=>simp at e
  have ZD:∀(i:Nat) (o:O),([none]:Sd)[i]?≠some (some (.obj o)):=λi o e=>by
   cases i with
   | zero=>cases e
   | succ i=>simp at e
  refine⟨λi m aw H'=>∃Fi as cs,aq F2 Fi/\RS Y Fi [some (.sh (.lst (List.map D.int ns)))] σ H'/\H' acc=some (.lst (List.map V.ref as))/\(acc::as).Nodup/\(∀b∈acc::as,Y.H0 b=none/\Fi b=none) /\
    (∀(i:Nat) (a:Addr) (c:Int),as[i]?=some a->cs[i]?=some c->H' a=some (.lst [.int c,.int 0]))/\as.length=cs.length/\as.length=i/\RS ⟨H',Fi,[],[]⟩ Fi [none] aw H'/\m=ms.length-i/\i<=ms.length,
   ⟨ms.length,F2,[],[],aq.refl _,R2.other aF a0 (noOwn _ _),ay,by simp,λb hb=>by rw[acU.mp hb];exact⟨a0,aF⟩,λi a c e=>by simp at e,rfl,rfl,rF R2 [none] (aq.refl _) (sw R2.fr aF),rfl,adz _⟩,?_⟩
  rintro i m aw Hi ⟨Fi,as,cs,si,Ri,fy,nd,fr,yu,len,Zt,W0,rfl,hi⟩;have zO:=it Fi Hi si Ri.fr i
  by_cases nc:i<ms.length
  ·right
   obtain⟨go,yl⟩:=zO.1 (.int ms[i]) (by rw[ac0,acN nc];rfl)
   refine⟨go,λv H' y=>?_⟩;obtain⟨F3,gr,rep⟩:=yl v H' y;have sF:aq Fi F3:=gr.same Ri.fr;have R3:=gr.rs W0;have WZ:RS ⟨H',F3,[],[]⟩ F3 [none] aw H':=R3.less (fB _) ZE ZD R3.fr;have sH:aq Hi H':=by
    rcases gr with⟨_,rfl⟩|⟨p,o,hp,_,rfl⟩
    ·exact aq.refl _
    ·exact aJ hp
   have IK:∀c o,F3 c=some o->Fi c=some o\/Nw Hi c o:=λc o e=>by
    rcases gr with⟨rfl,_⟩|⟨p,o',hp,rfl,_⟩
    ·exact .inl e
    ·by_cases hc:c=p
     ·subst hc;exact .inr (.inl hp)
     ·rw[au hc]at e;exact .inl e
   refine⟨⟨H',F3,[],[]⟩,rfl,F3,_,.int ms[i],λai=>ai=[some (.sh (.int ms[i]))],WZ,rep,rfl,λqX H4 F4 eM s4 R4 q4=>?_⟩;subst q4;refine⟨⟨H',F3,[],[]⟩,rfl,F4,_,λbb ai=>bb=true/\ai=[some (.sh (.int ms[i]))],R4,⟨rfl,rfl⟩,λbb H5 F5 pz s5 R5 q5=>?_⟩;obtain⟨rfl,rfl⟩:=q5;refine(if_pos rfl).mpr ?_;refine⟨⟨H',F3,[],[]⟩,rfl,F5,_,λds ai=>ds=[.int ms[i],.int 0]/\ai=[some (.sh (.int ms[i]))],R5,?_,λvs H6 F6 ds abm s6 R6 r6 q6=>?_⟩
   ·simp only[yQ,aS,aj,kZ,k4,af,bh,tN,aeA]
    exact⟨trivial,trivial⟩
   obtain⟨rfl,rfl⟩:=q6;obtain rfl:=r6.Zb;refine⟨by show 2<=acZ;decide,λa ha=>?_⟩
   have s36:aq F3 F6:=(s4.trans s5).trans s6;have BE:aq Hi H6:=sH.trans λb o e=>R6.old b o e (by simp [bz.zM])
   have fr6:∀c o,F6 c=some o->Fi c=some o\/Nw Hi c o:=λc o e=>by
    rcases R6.e9 c o e with z|z
    ·exact IK c o z
    ·exact .inr (z.imp sH.free id)
   have w1:RS Y F6 [some (.sh (.lst (List.map D.int ns)))] σ H6:=Ri.call (sF.trans s36) R6.fr BE fr6;have live:∀b∈acc::as,∃o,Hi b=some (.lst o):=λb hb=>by
    rcases acV.mp hb with rfl|hb
    ·exact⟨_,fy⟩
    ·obtain⟨j,hj,e⟩:=aee.mp hb
     have hj2:j<cs.length:=by rw[<- len];exact hj
     exact⟨_,yu j b cs[j] (by rw[acN hj,e]) (acN hj2)⟩
   have w3:∀b∈acc::as,F6 b=none:=λb hb=>by
    cases e:F6 b with
    | none=>rfl
    | some o =>
     obtain⟨o',e'⟩:=live b hb;rcases fr6 b o e with z|z
     ·rw[(fr b hb).2]at z;cases z
     ·rcases z with z|⟨ws,rfl⟩
      ·rw[e']at z;cases z
      ·have y:=R6.fr b _ e;rw[BE _ _ e']at y;cases y
   have na:∀b∈acc::as,b≠a:=λb hb=>by
    obtain⟨o',e'⟩:=live b hb;exact bg (BE _ _ e') ha
   have YC:(upd H6 a (.lst [.int ms[i],.int 0])) acc=some (.lst (List.map V.ref as)):=by rw[au (na acc (acX ..))];exact BE _ _ fy
   have R7:=w1.nH (o:=.lst [.int ms[i],.int 0]) ha;have aF6:=w3 acc (acX ..);have Zy:a≠acc:=(na acc (acX ..)).symm;have W3:F6 a=none:=same_none w1.fr ha;refine⟨List.map V.ref as,ms.length-(i+1),YC,by rw[acO,Zt];exact ads nc (adq hm ∅),by omega,F6,as++[a],cs++[ms[i]],si.trans (sF.trans s36),R7.other aF6 a0 (noOwn _ _),?_,?_,?_,?_,by simp [len],by simp [Zt],R6.less (σ0:=[none]) trivial ZE ZD (sw (λb o e=>?_) aF6),rfl,nc⟩
   ·rw[ay,List.map_append];rfl
   ·rw[adV]at nd ⊢
    refine⟨λh=>?_,?_⟩
    ·rcases adj.mp h with h|h
     ·exact nd.1 h
     ·exact Zy (acU.mp h).symm
    ·rw[List.nodup_append]
     refine⟨nd.2,by simp,λx hx y hy z=>?_⟩
     rw[acU.mp hy]at z;exact na x (acQ _ hx) z
   ·intro b hb
    rcases acV.mp hb with rfl|hb
    ·exact⟨a0,aF6⟩
    ·rcases adj.mp hb with hb|hb
     ·exact⟨(fr b (acQ _ hb)).1,w3 b (acQ _ hb)⟩
     ·rw[acU.mp hb]
      exact⟨(w1.b6 ha).1,W3⟩
   ·intro t a' c' e1 e2
    by_cases ht:t<as.length
    ·rw[aen ht]at e1
     rw[aen (by rw[<- len];exact ht)]at e2
     have hm':=ady e1;have:a'≠acc:=λz=>(adV.mp nd).1 (by rw[<- z];exact hm')
     rw[au this,au (na a' (acQ _ hm'))];exact BE _ _ (yu t a' c' e1 e2)
    ·have h1:=(acR.mp e1).1
     rw[adt,aeu]at h1;have h2:t=as.length:=by omega
     subst h2;rw[adW (acS _),Nat.sub_self]at e1;rw[adW (by rw[len];exact acS _),len,Nat.sub_self]at e2
     cases e1;cases e2;rw[au Zy,ay]
   ·have:b≠a:=λz=>by rw[z,W3]at e;cases e
    rw[au this];exact R6.fr b o e
  ·left
   have e:i=ms.length:=by omega
   refine⟨zO.2 (by rw[acO];exact e),K acc as cs Hi ⟨same Ri,fy,λb hb=>(fr b hb).1,nd,len,yu⟩⟩
end
theorem cV.yu{x:Str}{st:Stmt}{ps N:List Str}{f:Addr}{fd:adf}(d:cV G x st ps f fd)(hK:G.K=KF.K)(Sc:aB N ps (ag st))(hN:N.length=1)(Y2:ps.length=1)(ht:uB G k ⟨N,(ag st).names,[],false,false,false,λ_ _=>False⟩ (ak st)):gI G (k+1) x:=by
 refine⟨f,fd,ps,?_,d.m,d.F.kp,d.b⟩;refine d.F.ok Sc (λvs H Q E h=>?_) (λiu A outer s H vs Q E hr h=>?_)
 ·obtain⟨F,ns,s,r,_⟩:=h
  rw[r.length,Y2];rfl
 ·obtain⟨F,ns,sm,r,hl,K⟩:=h
  refine⟨_,ht (nO ig G.P G.w G.K G.mg G.base N x (ag st) f iu A outer s H E).JF ⟨H,F,[],[]⟩ ⟨rfl,rfl,rfl,hK,rfl,rfl,rfl,rfl,Sc.nd,λp hp=>absurd hp (by simp),λ_ _=>rfl,λ_=>rfl,Sc.kind,λ_ _ _=>rfl,λ_=>hr.hd,hr.dp,hr.un,λ_=>PassesOwn.never,λ_=>⟨rfl,rfl,rfl⟩,λ_ _ h=>h.elim,λh=>nomatch h⟩,F,ns,?_,rfl,⟨rfl,rfl⟩,hl,λp as cs H' P=>K p as cs H' P⟩
  have:=RS.start N.length sm r;rw[hN]at this;show RS _ F _ (vs.map some++adl (N.length-vs.length) none) H;rw[hN];exact this
end Vc
namespace Vc
open PySem L2
variable [KF]
variable {G:GE}{k:Nat}{S:Stat}
theorem Zc(a b:D)(Q:D->Prop):Mi (.lst [a,b]) (.int 0) Q=Q a:=rfl
theorem Zd(a b:D)(Q:D->Prop):Mi (.lst [a,b]) (.int 1) Q=Q b:=rfl
theorem QB:zR 2 0=some 0:=rfl
theorem QC:zR 2 1=some 1:=rfl
theorem qb{α:Type}{g:mx}{te:TD}{uA:Sd}{m:Nat}{Q:List D->List D->Prop}{MF:List D}(gi:α->D)(P:D->Prop)(Rk:List D->Prop)(l:List α)
  (h:∀a∈l,∀xs,Rk xs->∀(A:D->List D->Prop) (Z:Prop),Z->(∀d ys,P d->Rk ys->A d ys)->g (gi a) (uA.set m (some (.own xs))) λaw=>te aw λd fq=>lK uA fq/\Z/\ownAt m fq λys=>A d ys)
  (hl:l.length<=acZ) (h0:Rk MF) (q:∀ds ys,ds.length=l.length->(∀d∈ds,P d)->Rk ys->Q ds ys):jc g d4 te uA m (l.map gi) [] MF Q:=by
 have key:∀(l2:List α) (acc xs:List D),(∀a∈l2,a∈l)->acc.length+l2.length=l.length->(∀d∈acc,P d)->Rk xs->jc g d4 te uA m (l2.map gi) acc xs Q:=by
  intro l2
  induction l2 with
  | nil=>intro acc xs _ hlen gP hr;exact q acc xs (by simpa using hlen) gP hr
  | cons a l2 ih =>
   intro acc xs hm hlen gP hr;have acA:acc.length+(l2.length+1)=l.length:=by simpa using hlen
   show g (gi a) _ λaw=>d4 aw λb aM=>_;exact h a (hm a (acX ..)) xs hr (λd ys=>jc g d4 te uA m (l2.map gi) (acc++[d]) ys Q) (acc.length<acZ) ⋯ λd ys hd hy =>
    ih _ ys (λx hx=>hm x (acQ _ hx)) (by rw[adt,aeu];omega) (λx hx=>by
     rcases adj.mp hx with hx|hx
     ·exact gP x hx
     ·rw[acU.mp hx];exact hd) hy
 exact key l [] MF (λ_ h=>h) (by simp) (λd hd=>by cases hd) h0
end Vc
namespace Vc
open PySem L2
variable [KF]
section
variable {prog:adv}{w:World}{A:Around}{R:Result->Shared->Prop}
theorem xJ(a:Value):argsOk "min" ⟨[a],[]⟩:=by unfold argsOk;kernel_rfl
theorem Be{E:Value->Shared->Prop}{s:Shared}{its:Array Value}{bt:Nat->Nat->Bool}(hh:A.handled=none)(hc:y9 prog w A.in1 .Lt s.heap its bt){l:Addr}(hl:s.heap.IsList l its){Q:Value->Shared->Prop}
  (q0:its.size≠0)
  (q1:∀v g tk,its[cF bt (its.size-1)]?=some v->(∀b o,s.heap.get? b=some o->g.get? b=some o)->Q v {s with heap:=g,toks:=tk}):
  wpAny (model prog w) A (call (.builtin "min") [.ref l] []) Q E s:=by
 have nm:(toString "min"++toString ".loop":String)="min.loop":=by decide
 refine wpAny_call (codeAny_call_builtin F.plain_min F.entry_min ?_);have run:wpAny (model prog w) A.in1 (Builtin.«min» ⟨[.ref l],[]⟩) (λfin s'=>match fin with
   | .done f=>(match(Except.ok f:Result)with|.ok (.ret v)=>Q v s'|.ok _=>False|.error e=>E e s')
   | .again c'=>c'.quiet=true/\codeAny (model prog w) A c' (λr s'=>match r with|.ok (.ret v)=>Q v s'|.ok _=>False|.error e=>E e s') s') E s:=by
  show wpAny _ A.in1 (Builtin.Builtins.bindParams "min" ["key","default"] 0 ⟨[],[]⟩ >>= _) _ _ s;refine acL (wpAny_of_eq (show Builtin.Builtins.bindParams "min" ["key","default"] 0 ⟨[],[]⟩=pure [none,none]from rfl) (acL (acP ?_)))
  refine acL (wpAny_pyIter_list hl (acL (adS ?_)));generalize Qm:s.heap.push {cls:=.type "list_iterator",data:=.fields #[.ref l,.int 0 0]}=g1;have n1:g1.objs.size=s.heap.objs.size+1:=by rw[<- Qm];exact Heap.size_push ..
  have I0:(g1.push {cls:=.type "list",dict:=none,data:=.seq ([]:List Value).toArray}).IsListIter s.heap.objs.size l 0:=⟨_,acM _ (by rw[<- Qm];exact ada _ rfl),rfl,rfl⟩
  have S0:=ada g1 (o:={cls:=.type "list",dict:=none,data:=.seq ([]:List Value).toArray}) rfl;have k0:∀b o,s.heap.get? b=some o->(g1.push {cls:=.type "list",dict:=none,data:=.seq ([]:List Value).toArray}).get? b=some o:=λb o e=>acM _ (by rw[<- Qm];exact acM _ e)
  have fr:∀a,s.heap.objs.size<=a->s.heap.get? a=none:=λa ha=>by
   cases e:s.heap.get? a with
   | none=>rfl
   | some o=>exact absurd (ac9 e) (Nat.not_lt.mpr ha)
  have nI:s.heap.get? s.heap.objs.size=none:=fr _ (acS _);have nS:s.heap.get? g1.objs.size=none:=fr _ (by rw[n1];exact Nat.le_succ _)
  have IS:s.heap.objs.size≠g1.objs.size:=by rw[n1];exact adB (Nat.lt_succ_self _)
  rw[nm];refine acP ⟨plainId_quiet ael _,?_⟩;generalize YL:g1.push {cls:=.type "list",dict:=none,data:=.seq ([]:List Value).toArray}=g2 at I0 S0 k0;have nc:g2.IsList l its:=by obtain⟨o,e,r⟩:=hl;exact⟨o,k0 _ _ e,r⟩
  refine codeAny_builtin F.entry_min_loop ?_;rw[Around.under_plainId ael _];show wpAny _ A.in1 (seqItems? (.ref g1.objs.size) >>= _) _ _ _;refine acL (aef (s:={s with heap:=g2}) S0 rfl ?_)
  show wpAny _ A.in1 (tryCatch (pyNext (.ref s.heap.objs.size)) _ >>= _) _ _ _;have hz:=q0
  ·have hx:its[0]?=some its[0]:=by simp [Nat.pos_of_ne_zero hz]
   refine acL (wpAny_tryCatch (wpAny_pyNext_list_item I0 nc hx λg I1 x1=>?_));have S1:=x1.extBut _ _ IS.symm S0;have k1:∀b o,s.heap.get? b=some o->g.get? b=some o:=λb o e=>x1.extBut b o (λz=>by rw[z,nI]at e;cases e) (k0 b o e)
   show wpAny _ A.in1 (updateSeq g1.objs.size (λ_=>#[its[0],its[0]]) >>= _) _ _ _;refine acL (wpAny_updateSeq (s:={s with heap:=g}) S1 rfl ?_)
   rw[nm];refine acP ⟨plainId_quiet ael _,Fv hh hc hl IS nI nS _ _ 0 _ its[0] _ rfl (Nat.pos_of_ne_zero hz) ?_ hx (Heap.get?_update_self _ S1 rfl) (λb o e=>(adG _ _ (λz=>by rw[<- z,nS]at e;cases e)).trans (k1 b o e)) λv g' tk hv k'=>q1 v g' tk hv k'⟩
   obtain⟨o,e,r⟩:=I1;exact⟨o,(adG _ _ (aec IS)).trans e,r⟩
 simp only[checkBuiltinCall,F.kind_min];cases Qs:Manifest.signature? "min" with
 | none=>exact acP run
 | some sig =>
  have ha:argsOk "min" ⟨[.ref l],[]⟩:=xJ _;have ha':Bind.checkArgs "min" sig ⟨[.ref l],[]⟩=pure ():=by simpa only[argsOk,Qs]using ha
  simp only[ha'];exact acP run
end
end Vc
namespace Vc
open PySem L2
variable [KF]
variable {G:GE}{k:Nat}{S:Stat}
def yP(te:TD)(g:mx):b7:=λDe σ=>te σ λd aw=>g d aw De.nx
theorem GA{tg e:Expr}{te:TD}{g:mx}{pos:Pos}(he:ED G k S e te)(hg:EG G k S tg g)(hs:∀line env,swapsWithSole [tg] e line env=pure false:=by intro _ _;rfl)(hw:∀env,swappedStores [tg] e env=pure none:=by intro _;rfl)
  (h1:∀env,(assignEach [tg] env).map (·.2)=[assign tg env]:=by intro _;rfl):ES G k S (.Assign [tg] e pos) (yP te g):=.mk λX Y ok=>cj (L2.F7 (he X Y ok) (hg X Y ok) (hs _ _) (hw _) (h1 _)) λDn σ H q=>by
 obtain⟨F,ai,De,R,q,K⟩:=q;refine⟨F,ai,_,R,q,λv1 H1 F1 d aw s1 R1 r1 q1=>⟨F1,aw,d,_,R1,r1,q1,λb8 H' F' aC s' R' q'=>K.nx b8 H' F' aC (s1.trans s') R' q'⟩⟩
def Mt(K:acT):List V->Hp->VK->Prop:=λxs H Q=>∃F p us ds,xs=[.ref p]/\aq F H/\gp K H p us/\aE F us ds/\(ds.all isInt=true\/ds.all gQ=true)/\ds≠[]/\∀v d,Rep F v d->dr ds=some d->Q v H
theorem AH{X:Cx}(hc:X.calm=true)(hu:X.A.in1.units<cLine):cU X (.builtin "min") (Mt X.K):=by
 intro pins s σ H xs MD Q I rv0 h;obtain⟨F,p,us,ds,rfl,sm,hq,rl,hi,cz,q⟩:=h;obtain⟨u,rfl,ru⟩:=vals1 rv0;cases ru;obtain⟨its,rv,pl,_⟩:=I.list hq;have len:its.toArray.size=ds.length:=by rw[ac5,<- rv.length,rl.length]
 refine Be (I.ok.hd hc) (Dq I sm hu rl rv hi) pl.isList (by rw[len];exactλz=>cz (List.length_eq_zero_iff.mp z)) λz g tk hz kp=>?_
 have Qt:its[cF (pZ ds) (ds.length-1)]?=some z:=by rw[len]at hz;simpa using hz
 have hl:cF (pZ ds) (ds.length-1)<us.length:=by rw[rv.length];exact(acR.mp Qt).1
 have ev:us[cF (pZ ds) (ds.length-1)]?=some us[cF (pZ ds) (ds.length-1)]:=acN hl;obtain⟨dd,e1,e2⟩:=rl.get' ev;obtain⟨zz,e3,e4⟩:=rv.get ev;rw[Qt]at e3;cases e3;have eb:dr ds=some dd:=by rw[m9 cz,ade,e1];rfl
 exact⟨_,H,I.kept kp,e4,q _ dd e2 eb⟩
def qE:List D->(EV->Prop)->Prop
 | [.lst xs],Q=>((xs.all isInt=true\/xs.all gQ=true)/\xs≠[])/\Q (.val ((dr xs).getD .aQ))
 | _,_=>False
theorem VZ{X:Cx}{Y:bz}(ok:dA X G k S Y):X.A.in1.units<cLine:=by
 have:=ok.units;show X.A.units+1<cLine;omega
theorem Pj(hh:S.jh=false:=by rfl):yZ G k S (.builtin "min") qE:=⟨Mt,λX Y ok=>AH (ok.calm hh) (VZ ok),λY F H ai σ vs ds Qd Q R r q g=>by
 unfold qE at q
 split at q
 ·obtain⟨v,rfl,rv⟩:=r.one
  obtain⟨a,us,rfl,h1,h2⟩:=rv.lst;refine⟨F,a,us,_,rfl,R.fr,.inl h1,h2,q.1.1,q.1.2,λv d rd e=>?_⟩;have q2:=q.2;rw[e]at q2;exact g.val R rd q2
 ·exact q.elim⟩
def inD(x:D)(xs:List D):Bool:=xs.any λy=>gG y x
def inT:D->D->(Bool->Prop)->Prop
 | x,.lst xs,Q=>(bK 8 x=true/\bK 8 (.lst xs)=true)/\Q (inD x xs)
 | x,.tup xs,Q=>(bK 8 x=true/\bK 8 (.tup xs)=true)/\Q (inD x xs)
 | _,_,_=>False
def aaC(neg:Bool):R2:=λv u H Q=>∃F x y xs,aq F H/\bW F H v x/\bW F H u y/\(y=.lst xs\/y=.tup xs)/\bK 8 x=true/\bK 8 y=true/\Q (.bl (if neg then !inD x xs else inD x xs)) H
theorem mn{x:D}(hx:bK 8 x=true):∀(xs:List D),xs.all (bK 7)=true->(di xs).any (λy=>PyData.eqv y (toPy x))=inD x xs
 | [],_=>rfl
 | y::xs,h=>by
  rw[aeC,adn]at h;show(PyData.eqv (toPy y) (toPy x)||(di xs).any _)=(gG y x||inD x xs)
  rw[mn hx xs h.2,rQ 7 8 y x h.1 hx]
theorem SX{X:Cx}(hu:X.A.units+64<cLine):il X (aek .In) (aaC false):=by
 intro pins s σ H v u v' u' Q I rv ru h;obtain⟨F,x,y,xs,sm,rx,ry,hy,ox,oy,q⟩:=h;obtain⟨as,r1⟩:=rx.reads I.bI sm rv ox;obtain⟨bs,r2⟩:=ry.reads I.bI sm ru oy;have hx:=fX 8 x ox;rcases hy with rfl|rfl
 ·have Z7:xs.all (bK 7)=true:=oy
  have hl:=dF (n:=7) (fX 7) xs Z7;exact SeqAt.in_list_reads r2 r1 hl.1 hx.1 (by have:=Nat.min_le_right (PyData.depthAll (di xs)) (toPy x).depth;omega) ⟨.bl _,H,I,rfl,by rw[mn ox xs Z7];exact q⟩
 ·have Z7:xs.all (bK 7)=true:=oy
  have hl:=dF (n:=7) (fX 7) xs Z7;exact SeqAt.in_tuple_reads r2 r1 hl.1 hx.1 (by have:=Nat.min_le_right (PyData.depthAll (di xs)) (toPy x).depth;omega) ⟨.bl _,H,I,rfl,by rw[mn ox xs Z7];exact q⟩
theorem abt:nE G k S .In inT:=⟨aaC false,λX Y ok=>SX ok.units,λY F H ai σ v u x y Qd Q R rx ry q K=>by
 unfold inT at q
 split at q
 ·exact⟨F,_,_,_,R.fr,rx,ry,.inl rfl,q.1.1,q.1.2,K _ q.2⟩
 ·exact⟨F,_,_,_,R.fr,rx,ry,.inr rfl,q.1.1,q.1.2,K _ q.2⟩
 ·exact q.elim⟩
end Vc
namespace Vc
open PySem L2
variable [KF]
variable {G:GE}{k:Nat}{S:Stat}
def ya(x:D)(xs:List D):Option Nat:=xs.findIdx? λy=>gG y x
def acm(K:acT):V->List V->Hp->VK->Prop:=λo vs H Q=>∃F v x xs j,vs=[v]/\aq F H/\bW F H o (.lst xs)/\bW F H v x/\bK 8 x=true/\bK 8 (.lst xs)=true/\ya x xs=some j/\Q (.int j) H
theorem yx{P:adv}{w:World}{F H:Hp}{h:Heap}(ok:ik P w H h)(s:aq F H){vs:List V}{ds:List D}{us:List Value}(r:aE F vs ds)(rv:Vals vs us)(o:ds.all (bK 7)=true):∃as,ReadsAll h us (di ds) as:=aE.reads ok s 7 r rv o
theorem vB{x:D}(hx:bK 8 x=true)(h:Heap):∀(xs:List D) (us:List Value) (as:List Addr),xs.all (bK 7)=true->ReadsAll h us (di xs) as->us.findIdx? (λu=>PyData.eqv (SeqAt.readOf h u) (toPy x))=ya x xs
 | [],_,_,_,r=>by cases r;rfl
 | y::xs,us,as,ho,r=>by
  rw[aeC,adn]at ho;cases r with
  | cons r1 r2 =>
   have e:SeqAt.readOf h _=toPy y:=SeqAt.readOf_eq (fX 7 y ho.1).1 r1;have ih:=vB hx h xs _ _ ho.2 r2;unfold ya at ih ⊢;rw[List.findIdx?_cons,List.findIdx?_cons,e,<- rQ 7 8 y x ho.1 hx,ih]
theorem Fx{X:Cx}(hu:X.A.units+64<cLine):MtM X "list.index" (acm X.K):=by
 intro pins s σ H o vs ov us Q I ro rv h;obtain⟨F,v,x,xs,j,rfl,sm,r1,r2,o1,o2,hj,q⟩:=h;obtain⟨a,ws,rfl,h1,h2⟩:=r1.lst;cases ro;obtain⟨u,rfl,ru⟩:=rv.one;obtain⟨z,its,n,xr,e⟩:=L2.Rd.ok h1 I.bI;obtain⟨as,ra⟩:=r2.reads I.bI sm ru o1;have o2':xs.all (bK 7)=true:=o2;obtain⟨bs,rb⟩:=yx I.bI sm h2 xr o2';have hl:=dF (n:=7) (fX 7) xs o2';have hx:=fX 8 x o1;have hf:=vB o1 s.heap xs its bs o2' rb;rw[hj]at hf;obtain⟨jr,hit,Y0⟩:=List.findIdx?_eq_some_iff_getElem.mp hf;have hjz:its.length<=acZ:=by rw[<- xr.length];exact z
 refine call_meets PySem.F.slot_list_index ⟨_,e,rfl⟩ PySem.F.entry_list_index (PySem.F.args_list_index_2 _ _) (SeqAt.list_indexAt a its.toArray n none #[] u (λy=>PyData.eqv (SeqAt.readOf s.heap y) (toPy x)) j (by simpa using jr) (by have:(acZ:Nat)=2^24:=rfl;omega) (by simpa using hit) (λm hm hmj=>?_)) ⟨e,SeqAt.items_eqAt (vs:=its.toArray) (by simpa using rb) ra hl.1 hx.1 (by have:=Nat.min_le_right (PyData.depthAll (di xs)) (toPy x).depth;omega),?_⟩
 ·have:=Y0 m hmj
  simpa using this
 ·exact⟨.int j,H,I.kept (λb o e=>e),⟨_,rfl⟩,q⟩
def VA(to:TV)(te:TD):TV:=λσ Q=>to σ λo aw=>(∃ys,cW aw o=some (.lst ys))/\te aw λx aM=>match cW aM o with
 | some (.lst xs)=>(bK 8 x=true/\bK 8 (.lst xs)=true)/\∃j,ya x xs=some j/\Q (.val (.int (j:Nat))) aM
 | _=>False
theorem Kj{o e:Expr}{to:TV}{te:TD}{apos cn:Pos}(ho:EO G k S o to)(he:ED G k S e te)(hb:∀env,aev o "index" env (eval o env)=eval o env:=by intro _;rfl)
  (sf:∀env,((backTo cn (acW [e] env)).all (λx=>!x.1)&&(backToKw cn (aeB [] env)).all (λx=>x.1.isSome)&&decide (([e]:List Expr).length+([]:List Keyword).length+(if([]:List Keyword).isEmpty then 0 else 1)<30))=true:=by intro _;rfl)
  (hline:(apos.endLine==cn.line)=true:=by rfl) (hs:∀env,acW [e] env=[(false,eval e env)]:=by intro _;rfl):EO G k S (.Call (.Attribute o "index" apos) [e] [] cn) (VA to te):=.mk λX Y ok=>by
 have ha:PA X [e] (d3 (lD Y te) kU):=b5 (he X Y ok) dW (by rw[hs];rfl)
 refine aO (z0 PySem.F.plainAttrs_list PySem.F.slot_list_index PySem.F.type_list_index (Fx ok.units) (ho X Y ok) ha (hb _) (sf _) hline (by rw[hs];rfl) (by rfl)) λσ H Q q=>?_
 obtain⟨F,ai,Qd,R,q,K⟩:=q;refine⟨F,ai,_,R,q,λv1 H1 F1 x aw s1 R1 r1 q1=>?_⟩;obtain⟨⟨ys,e0⟩,q1⟩:=q1;obtain⟨a,ws,e1,h1,_⟩:=(R1.cW r1 e0).lst;refine⟨by rw[e1];exact .inl ⟨rfl,ws,.inl h1⟩,F1,aw,_,R1,q1,λv2 H2 F2 d aM s2 R2 r2 q2=>?_⟩
 split at q2
 ·rename_i xs e2
  obtain⟨⟨o1,o2⟩,j,hj,q2⟩:=q2;exact⟨F2,v2,d,xs,j,rfl,R2.fr,R2.cW (r1.mono s2) e2,Rep.h R2.fr r2,o1,o2,hj,K _ H2 F2 (.val (.int j)) aM (s1.trans s2) R2 (.int _) q2⟩
 ·exact q2.elim
end Vc
namespace Vc
open PySem L2
variable [KF]
variable {G:GE}{k:Nat}{S:Stat}
def mroIn(K:acT)(C:Addr):List Value:=match K.lookup C with
 | some ⟨_,_,.cls cd,_⟩=>cd.mro
 | _=>[]
end Vc
set_option maxHeartbeats 0
namespace Vc
open PySem PySem.W
@[elab_as_elim] theorem acD{α:Type} {P:List α->Prop} (h:∀a,P [a]):∀us:List α,us.length=1->P us
 | [a],_=>h a
@[elab_as_elim] theorem acE{α:Type} {P:List α->Prop} (h:∀a b,P [a,b]):∀us:List α,us.length=2->P us
 | [a,b],_=>h a b
@[elab_as_elim] theorem acF{α:Type} {P:List α->Prop} (h:∀a b c,P [a,b,c]):∀us:List α,us.length=3->P us
 | [a,b,c],_=>h a b c
@[elab_as_elim] theorem acG{α:Type} {P:List α->Prop} (h:∀a b c d,P [a,b,c,d]):∀us:List α,us.length=4->P us
 | [a,b,c,d],_=>h a b c d
@[elab_as_elim] theorem acH{α:Type} {P:List α->Prop} (h:∀a b c d e,P [a,b,c,d,e]):∀us:List α,us.length=5->P us
 | [a,b,c,d,e],_=>h a b c d e
theorem V1{q:adv}{loose:List Str}{XP:(Str->Option Value)->Heap->Prop}{K:Params->Frag}{as:List Addr}{n t:Nat}{r:RowW}{d:DefRec}{kwd:List (Str×Expr)}{run:Value->List Value->Sem Value}
  (e:∀P,as=(K P).map (·.1)) (h:WalkO q loose XP (λw h=>(K w.params).In h) r d kwd run):WalkX q loose XP (X.obsZ as) (X.valZ K n t) r d kwd run:=
 λw c5 bM mg mb G y a o pm cd doc dV kV ho hd ly hD hmg hg args vals as' L A3 YT hrd Y7 zI =>
  h w c5 bM mg mb G (InK.keeps w _ _ (X.z_facts e y).2.1 L.keeps) a o pm cd doc dV kV ho hd ly hD hmg hg args vals as' A3 YT hrd Y7 zI
end Vc
namespace Vc
open PySem L2
variable [KF]
variable {G:GE}{k:Nat}{S:Stat}
theorem RS.gU{Y:bz}{F:Hp}{ai:Sd}{σ:St}{H:Hp}{i:Nat}{o o':O}{a c:Addr}{u:HO}(R:RS Y F ai σ H)(e:ai[i]?=some (some (.obj o)))(h:σ[i]?=some (some (.ref a)))(hc:c∈o.fp a)(E1:∀b,b∈o'.fp a->b∈o.fp a)
  (hr:o'.rep F (upd H c u) a):RS Y F (ai.set i (some (.obj o'))) σ (upd H c u):=by
 obtain⟨a',w1,w2,w3⟩:=R.ob.obj i o e;rw[h]at w1;cases w1;have ow:∀b∈o.fp a,iU ai σ b:=λb hb=>⟨i,o,a,e,h,hb⟩;have hl:i<ai.length:=(acR.mp e).1;have up:∀ {b:Addr},H b≠none->(upd H c u) b≠none:=λ{b} hb=>by
  by_cases z:b=c
  ·rw[z,ay];exactλy=>nomatch y
  ·rw[au z];exact hb
 refine⟨by simpa using R.len,R.lo,λb q z=>?_,R.e9,λb q z n=>?_,λj d z=>?_,λj xs z=>?_,λj l xs ys b z1 z2 z3 z4=>?_,λp hp=>?_,⟨λj p z=>?_,λj l p p2 b d z1 z2 z3 z4 cz x hx zL=>?_,λj ys b z1 z2 ⟨l,p,d,z3,z4,hm⟩=>?_,λb hb=>up (R.ob.there b hb),R.ob.MB,R.ob.tab⟩⟩
 ·have:b≠c:=λy=>by rw[y,(w3 c hc).1]at z;cases z
  rw[au this];exact R.fr b q z
 ·have:b≠c:=λy=>by
   subst y;rcases(w3 b hc).2.2 with y|y
   ·rw[y]at z;cases z
   ·exact n (adg _ y)
  rw[au this];exact R.old b q z n
 ·rcases gs z with⟨_,y⟩|⟨_,z⟩
  ·cases y
  ·exact R.sh j d z
 ·rcases gs z with⟨_,y⟩|⟨_,z⟩
  ·cases y
  ·obtain⟨b,vs,y1,y2,y3⟩:=R.own j xs z
   have:b≠c:=λy=>R.ob.gA j xs b z y1 (y ▸ ow c hc);exact⟨b,vs,y1,by rw[au this];exact y2,y3⟩
 ·rcases gs z1 with⟨_,y⟩|⟨_,z1⟩
  ·cases y
  rcases gs z2 with⟨_,y⟩|⟨_,z2⟩
  ·cases y
  exact R.dis j l xs ys b z1 z2 z3 z4
 ·obtain⟨y1,xs,y2⟩:=R.io p hp
  have:p.1≠i:=λy=>by rw[y,e]at y2;cases y2
  exact⟨y1,xs,by rw[bQ this];exact y2⟩
 ·rcases gs z with⟨rfl,y⟩|⟨hj,z⟩
  ·cases y
   exact⟨a,h,hr,λb hb=>⟨(w3 b (E1 b hb)).1,up (w3 b (E1 b hb)).2.1,(w3 b (E1 b hb)).2.2⟩⟩
  ·obtain⟨b,y1,y2,y3⟩:=R.ob.obj j p z
   refine⟨b,y1,p.mono (aq.refl _) (λd hd=>?_) y2,λd hd=>⟨(y3 d hd).1,up (y3 d hd).2.1,(y3 d hd).2.2⟩⟩;exact au λy=>R.ob.pB i j o p a b e z h y1 (aec hj) c hc (y ▸ hd)
 ·rcases gs z1 with⟨e1,y⟩|⟨hj,y1⟩
  ·cases y
   subst e1;rw[h]at z3;cases z3;rcases gs z2 with⟨e2,_⟩|⟨nc,y2⟩
   ·exact cz e2.symm
   ·exact R.ob.pB j l o p2 a d e y2 h z4 cz x (E1 x hx) zL
  ·rcases gs z2 with⟨e2,y⟩|⟨nc,y2⟩
   ·cases y
    subst e2;rw[h]at z4;cases z4;exact R.ob.pB j l p o b a y1 e z3 h cz x hx (E1 x zL)
   ·exact R.ob.pB j l p p2 b d y1 y2 z3 z4 cz x hx zL
 ·rcases gs z1 with⟨_,y⟩|⟨_,y1⟩
  ·cases y
  rcases gs z3 with⟨e3,y⟩|⟨_,y3⟩
  ·cases y
   subst e3;rw[h]at z4;cases z4;exact R.ob.gA j ys b y1 z2 (ow b (E1 b hm))
  ·exact R.ob.gA j ys b y1 z2 ⟨l,p,d,y3,z4,hm⟩
def KD(i:Nat):TV:=λσ Q=>(∃o,σ[i]?=some (some (.obj o)))/\Q (.var i) σ
theorem wB(i:Nat){x:Str}{pos:Pos}(hN:S.N[i]?=some x:=by rfl)(hv:S.sc.lookup x=some .local\/S.sc.lookup x=some .cell\/S.sc.lookup x=some .free:=by first|exact Or.inl rfl|exact Or.inr (Or.inl rfl)|exact Or.inr (Or.inr rfl))
  (hd:(x==("__debug__":Str))=false:=by decide) (ly:(x==("__classdict__":Str))=false:=by decide):EO G k S (.Name x pos) (KD i):=.mk λX Y ok =>
 aO (gY (X:=X) (i:=i) (by rw[ok.N];exact hN) (by unfold HF;rw[ok.sc];exact hv) hd ly) λσ H Q q=>by
  obtain⟨F,ai,Qd,R,⟨⟨o,e⟩,q⟩,K⟩:=q;obtain⟨a,w1,_⟩:=R.ob.obj i o e;exact⟨.ref a,w1,K _ H F (.var i) ai (aq.refl _) R w1 q⟩
def Gd(neg:Bool):R2:=λy x H Q=>∃a o,x=.ref a/\qY H a y o/\Q (.bl (if neg then !o.isSome else o.isSome)) H
theorem Bt{X:Cx}(hu:X.A.units+1<cLine):il X (aek .NotIn) (Gd true):=by
 intro pins s σ H x y v u Q I rx ry h;obtain⟨a,o,rfl,g,q⟩:=h;cases ry;exact Iv hu I g rx λs' I'=>⟨.bl (!o.isSome),H,I',rfl,q⟩
end Vc
namespace Vc
open PySem PyProof.Rows
section
variable {prog:adv}{w:World}{A:Around}{R:Result->Shared->Prop}
def Kp(h g:Heap):Prop:=∀b o,h.get? b=some o->g.get? b=some o
end
end Vc
namespace Vc
open PySem PySem.W L2
section
variable {P:Addr}{K:Frag}(hP:K.lookup P=some (tabObj #[]))
include hP
end
end Vc
namespace Vc
open PySem L2
variable [KF]
theorem RS.Rw{Y:bz}{F:Hp}{ai:Sd}{σ:St}{H H':Hp}{i:Nat}{o o':O}{a:Addr}(R:RS Y F ai σ H)(e:ai[i]?=some (some (.obj o)))(h:σ[i]?=some (some (.ref a)))
  (keep:∀b,b∉o.fp a->H b≠none->H' b=H b) (live:∀b,H b≠none->H' b≠none) (E1:∀b∈o'.fp a,b∈o.fp a\/H b=none) (hn:∀b∈o'.fp a,H' b≠none)
  (hr:o'.rep F H' a):RS Y F (ai.set i (some (.obj o'))) σ H':=by
 obtain⟨a',w1,w2,w3⟩:=R.ob.obj i o e;rw[h]at w1;cases w1;have ow:∀b∈o.fp a,iU ai σ b:=λb hb=>⟨i,o,a,e,h,hb⟩;have hl:i<ai.length:=(acR.mp e).1;refine⟨by simpa using R.len,R.lo,λb q z=>?_,R.e9,λb q z n=>?_,λj d z=>?_,λj xs z=>?_,λj l xs ys b z1 z2 z3 z4=>?_,λp hp=>?_,⟨λj p z=>?_,λj l p p2 b d z1 z2 z3 z4 cz x hx zL=>?_,λj ys b z1 z2 ⟨l,p,d,z3,z4,hm⟩=>?_,λb hb=>live b (R.ob.there b hb),R.ob.MB,R.ob.tab⟩⟩
 ·have hb:b∉o.fp a:=λy=>by rw[(w3 b y).1]at z;cases z
  have:=R.fr b q z;rw[keep b hb (by rw[this];exactλy=>nomatch y)];exact this
 ·have hb:b∉o.fp a:=λy=>by
   rcases(w3 b y).2.2 with y|y
   ·rw[y]at z;cases z
   ·exact n (adg _ y)
  have:=R.old b q z n;rw[keep b hb (by rw[this];exactλy=>nomatch y)];exact this
 ·rcases gs z with⟨_,y⟩|⟨_,z⟩
  ·cases y
  ·exact R.sh j d z
 ·rcases gs z with⟨_,y⟩|⟨_,z⟩
  ·cases y
  ·obtain⟨b,vs,y1,y2,y3⟩:=R.own j xs z
   have hb:b∉o.fp a:=λy=>R.ob.gA j xs b z y1 (ow b y);exact⟨b,vs,y1,by rw[keep b hb (by rw[y2];exactλy=>nomatch y)];exact y2,y3⟩
 ·rcases gs z1 with⟨_,y⟩|⟨_,z1⟩
  ·cases y
  rcases gs z2 with⟨_,y⟩|⟨_,z2⟩
  ·cases y
  exact R.dis j l xs ys b z1 z2 z3 z4
 ·obtain⟨y1,xs,y2⟩:=R.io p hp
  have:p.1≠i:=λy=>by rw[y,e]at y2;cases y2
  exact⟨y1,xs,by rw[bQ this];exact y2⟩
 ·rcases gs z with⟨rfl,y⟩|⟨hj,z⟩
  ·cases y
   refine⟨a,h,hr,λb hb=>?_⟩;rcases E1 b hb with y|y
   ·exact⟨(w3 b y).1,hn b hb,(w3 b y).2.2⟩
   ·exact⟨same_none R.fr y,hn b hb,.inl (R.b6 y).1⟩
  ·obtain⟨b,y1,y2,y3⟩:=R.ob.obj j p z
   have kp:∀d∈p.fp b,H' d=H d:=λd hd=>keep d (λy=>R.ob.pB i j o p a b e z h y1 (aec hj) d y hd) (y3 d hd).2.1;exact⟨b,y1,p.mono (aq.refl _) kp y2,λd hd=>⟨(y3 d hd).1,live d (y3 d hd).2.1,(y3 d hd).2.2⟩⟩
 ·rcases gs z1 with⟨e1,y⟩|⟨hj,y1⟩
  ·cases y
   subst e1;rw[h]at z3;cases z3;rcases gs z2 with⟨e2,_⟩|⟨nc,y2⟩
   ·exact cz e2.symm
   ·rcases E1 x hx with y|y
    ·exact R.ob.pB j l o p2 a d e y2 h z4 cz x y zL
    ·exact(R.ob.owned ⟨l,p2,d,y2,z4,zL⟩).2.1 y
  ·rcases gs z2 with⟨e2,y⟩|⟨nc,y2⟩
   ·cases y
    subst e2;rw[h]at z4;cases z4;rcases E1 x zL with y|y
    ·exact R.ob.pB j l p o b a y1 e z3 h cz x hx y
    ·exact(R.ob.owned ⟨j,p,b,y1,z3,hx⟩).2.1 y
   ·exact R.ob.pB j l p p2 b d y1 y2 z3 z4 cz x hx zL
 ·rcases gs z1 with⟨_,y⟩|⟨_,y1⟩
  ·cases y
  rcases gs z3 with⟨e3,y⟩|⟨_,y3⟩
  ·cases y
   subst e3;rw[h]at z4;cases z4;rcases E1 b hm with y|y
   ·exact R.ob.gA j ys b y1 z2 (ow b y)
   ·obtain⟨c,vs,u1,u2,_⟩:=R.own j ys y1
    rw[z2]at u1;cases u1;rw[y]at u2;cases u2
  ·exact R.ob.gA j ys b y1 z2 ⟨l,p,d,y3,z4,hm⟩
end Vc
set_option maxHeartbeats 400000
set_option maxHeartbeats 400000
namespace Vc
open PySem L2
section
variable {prog:adv}{w:World}{A:Around}{E:Value->Shared->Prop}{s:Shared}{d it:Addr}{en:Array DictEntry}{c i:Nat}
def HA(h:Heap)(d:Addr)(en:Array DictEntry)(c:Nat):Prop:=∃ob,h.get? d=some ob/\ob.ExactDict/\ob.data=.dict en c
theorem HA.ty(h:HA s.heap d en c):s.TypeIs (.ref d) "dict":=let ⟨ob,e,x,_⟩:=h;⟨ob,e,x.1⟩
theorem Iw{Q:Value->Shared->Prop}(lo:(d==adY)=false)(m:HA s.heap d en c)
  (q:Q (.ref s.heap.objs.size) {s with heap:=s.heap.push {cls:=.type "dict_keyiterator",data:=.fields #[.ref d,.int 0 0,.int en.size 0,.int c 0]}}):wpAny (model prog w) A (pyIter (.ref d)) Q E s:=by
 obtain⟨ob,e1,e2,e3⟩:=id m;refine wpAny_pyIter_slot m.ty F.slot_dict_iter (adZ F.slot_dict_iter m.ty F.entry_dict_iter ?_ (F.args_dict_iter_1 _));unfold Builtin.«dict.__iter__» Builtin.Dict.dictSlotNone;refine acL (acL (wpAny_notOrdered_dict m.ty ?_));show wpAny _ _ (pure (adw d)) _ _ _;refine acP ?_;show wpAny _ _ (Builtin.Dict.showsAll d >>= _) _ _ _;unfold Builtin.Dict.showsAll;rw[lo,if_neg adJ];refine acL (acP (acL (wpAny_dictEntries e1 e3 (acL (wpAny_dictEpoch e1 e3 (acL (adS (acP ⟨_,rfl,"dict_keyiterator",_,⟨_,ada _ rfl,rfl⟩,aex.lookup,?_⟩))))))));simpa [rawInt]using q
theorem Iy{e:DictEntry}{Q:Option Value->Shared->Prop}(t:s.heap.IsKeyIter it d i en.size c)(m:HA s.heap d en c)(x:en[i]?=some e)
  (q:∀h',h'.IsKeyIter it d (i+1) en.size c->aeD it s.heap h'->Q (some e.key) {s with heap:=h'}):wpAny (model prog w) A (pyNext (.ref it)) Q E s:=by
 obtain⟨o1,t1,t2,t3⟩:=id t;obtain⟨ob,e1,e2,e3⟩:=id m;unfold pyNext;refine acL (wpAny_attempt (aeb (name:=adC "__next__") t.typeIs aex (adZ aex t.typeIs F.entry_dict_keyiterator_next ?_ (F.args_dict_keyiterator_next_1 _))));refine acL (acP (acL (acL ?_)))
 first|refine acL (wpAny_typeNameOfWhole_keyiter t.typeIs (acP ?_))|refine acL (wpAny_typeNameOf_keyiter t.typeIs (acP ?_))
 refine acL (wpAny_fieldsOf t1 t3 ?_);rw[show Builtin.Dict_items.ownsTuple "dict_keyiterator"=false by decide,if_neg adJ]
 show wpAny _ _ (if(adw d==Value.none)=true then _ else _) _ _ s
 rw[if_neg (show¬((adw d==Value.none)=true)from adJ)]
 refine acL (acP (acL (wpAny_dictEntries e1 e3 ?_)));rw[if_neg (by simp)]
 refine acL (acP (acL (wpAny_dictEpoch e1 e3 ?_)));rw[if_neg (by simp)]
 refine acP ?_;simp only[show¬((i:Int)<0)from by omega,if_false,adE,x]
 refine acL ?_
 first|refine acL (wpAny_typeNameOfWhole_keyiter t.typeIs (acP ?_))|refine acL (wpAny_typeNameOf_keyiter t.typeIs (acP ?_))
 refine acL (wpAny_isOneOf_keyiter t.typeIs ?_);show wpAny _ _ (setField (.ref it) 1 (rawInt ((i:Int)+1)) >>= _) _ _ s;refine acL (wpAny_setField t1 t3 (by simp) ?_)
 have t':(s.heap.update it (Obj.mapFields (·.setIfInBounds 1 (rawInt ((i:Int)+1))))).IsKeyIter it d (i+1) en.size c:=
  ⟨_,Heap.get?_update_self _ t1 (Obj.isFreed_of_fields (Obj.data_mapFields t3 _)),(Obj.cls_mapFields ..).trans t2,by rw[Obj.data_mapFields t3];simp [rawInt]⟩
 refine acL (wpAny_holding (acL (wpAny_isOneOf_keyiter (s:={s with heap:=s.heap.update it (Obj.mapFields (·.setIfInBounds 1 (rawInt ((i:Int)+1))))}) t'.typeIs ?_)))
 show wpAny _ _ (pure e.key) _ _ _;exact acP (acP ⟨_,rfl,acP (q _ t' (aeD.update ..))⟩)
theorem Ox{Q:Option Value->Shared->Prop}(hh:A.handled=none)(t:s.heap.IsKeyIter it d i en.size c)(m:HA s.heap d en c)(x:en.size<=i)
  (q:∀h',Heap.ExtBut it s.heap h'->Q none {s with heap:=h'}):wpAny (model prog w) A (pyNext (.ref it)) Q E s:=by
 obtain⟨o1,t1,t2,t3⟩:=id t;obtain⟨ob,e1,e2,e3⟩:=id m;unfold pyNext;refine acL (wpAny_attempt (aeb (name:=adC "__next__") t.typeIs aex (adZ aex t.typeIs F.entry_dict_keyiterator_next ?_ (F.args_dict_keyiterator_next_1 _))));refine acL (acP (acL (acL ?_)))
 first|refine acL (wpAny_typeNameOfWhole_keyiter t.typeIs (acP ?_))|refine acL (wpAny_typeNameOf_keyiter t.typeIs (acP ?_))
 refine acL (wpAny_fieldsOf t1 t3 ?_);rw[show Builtin.Dict_items.ownsTuple "dict_keyiterator"=false by decide,if_neg adJ]
 show wpAny _ _ (if(adw d==Value.none)=true then _ else _) _ _ s
 rw[if_neg (show¬((adw d==Value.none)=true)from adJ)]
 refine acL (acP (acL (wpAny_dictEntries e1 e3 ?_)));rw[if_neg (by simp)]
 refine acL (acP (acL (wpAny_dictEpoch e1 e3 ?_)));rw[if_neg (by simp)]
 refine acP ?_;simp only[show¬((i:Int)<0)from by omega,if_false,adE,Array.getElem?_eq_none x]
 refine acL ?_
 first|refine acL (wpAny_typeNameOfWhole_keyiter t.typeIs (acP ?_))|refine acL (wpAny_typeNameOf_keyiter t.typeIs (acP ?_))
 show wpAny _ _ (setField (.ref it) 0 .none >>= _) _ _ s;refine acL (wpAny_setField t1 t3 (by simp) ?_)
 show wpAny _ _ (newExc (.type "StopIteration") [] >>= _) _ _ _;refine acL ?_;simp only[newExc,newTuple];refine acL (adS ?_ (by size_fits))
 refine acL (m:=firstArgMember _ _) (wpAny_of_eq (a:=Value.none) (by first|rfl | (simp only[firstArgMember];rfl)) (adS ?_ (by size_fits)))
 simp only[raiseNew];refine acL (wpAny_handled ?_);rw[show A.in1.handled=none from hh]
 refine acL (acP (wpAny_throw ?_));refine acL (wpAny_isInstance (T:="StopIteration") (b:=true) ⟨_,ada _ rfl,rfl⟩ isSubtype_stop ?_);exact acP (q _ (((aeD.update ..).extBut.push _).push _))
theorem HA.at{h h':Heap}(x:HA h d en c)(e:∀o,h.get? d=some o->h'.get? d=some o):HA h' d en c:=let ⟨o,a,r⟩:=x;⟨o,e _ a,r⟩
theorem DV(hh:A.handled=none)(I d:Addr)(ne:d≠I)(en:Array DictEntry)(c:Nat):
  Walks prog w A I [I,d] [I] en.size (λi v=>∃e,en[i]?=some e/\v=e.key) (λi h=>h.IsKeyIter I d i en.size c/\HA h d en c) where
 sub:=λb hb=>acV.mpr (.inl (acU.mp hb))
 frame:=λ_ _ _ st kp=>⟨st.1.at λo e=>kp I (.head _) o e,st.2.at λo e=>kp d (.tail _ (.head _)) o e⟩
 item:=λi s Q E hi st q=>by
  have x:en[i]?=some en[i]:=adb hi;refine Iy st.1 st.2 x λh' t' sb=>q _ h' s.toks ⟨_,x,rfl⟩ ⟨t',st.2.at λo e=>(sb.2 d ne).trans e⟩ λb o hb e=>(sb.2 b λy=>hb (acU.mpr y)).trans e
 done:=λs Q E st q=>Ox hh st.1 st.2 (acS _) λh' ex=>q h' s.toks λb o hb e=>ex b o (λy=>hb (acU.mpr y)) e
 self:=λ_ _ _ _ st q=>wpAny_pyIter_keyiter st.1 q
theorem Oy(lo:(d==adY)=false):PySem.W.KdlSrc prog w "dict" d d en.size (λi v=>∃e,en[i]?=some e/\v=e.key) (λh=>HA h d en c) where
 type:=λ_ m=>m.ty
 there:=λ_ m=>let ⟨_,e,_⟩:=m;⟨ac9 e,ac9 e⟩
 keep:=λ_ _ m kp=>m.at λo e=>kp d (.inl rfl) o e
 notList:=by decide
 notTuple:=by decide
 hint:=λ_ _ _ _ m q=>PySem.W.kdl_hint_dict m.ty q
 iter:=λ_ s hh m=>⟨_,_,(λ_ _ q=>Iw lo m q),DV hh _ d (let ⟨_,e,_⟩:=m;adB (ac9 e)) en c,⟨⟨_,ada _ rfl,rfl,rfl⟩,m.at λo e=>acM _ e⟩⟩
end
end Vc
namespace Vs
open PySem PySem.Calls PyProof.Rows PyProof.V PySem.Spec
section
variable {prog:adv}{w:World}{A:Around}{E:Value->Shared->Prop}{s:Shared}
theorem yE{T:String}{r d:Addr}{n:Nat}{P:Nat->Value->Prop}{OK:Heap->Prop}{vs:List Value}{kd:aea}{ρ:Keyed->Nat}{P':Keyed->Prop}{Q:Value->Shared->Prop}(K:PySem.W.KdlSrc prog w T r d n P OK)(hh:A.handled=none)(ok:OK s.heap)(hn:n<=acZ)
  (hv:∀acc:Array Value,ItemsOf P acc n->acc.toList=vs) (hz:vs.length<=acZ) (h0:∀p∈(pairsOf vs).toList,P' p)
  (hk:2<=vs.length->∀(A':Around) (E':Value->Shared->Prop) (g:Heap) (t:Nat),(∀b o,s.heap.get? b=some o->g.get? b=some o)->(∀Q:aea->Shared->Prop,Q kd {s with heap:=g,toks:=t}->wpAny (model prog w) A' (keyKind' vs.toArray) Q E' {s with heap:=g,toks:=t})/\gF (model prog w) A' E' {s with heap:=g,toks:=t} ρ kd P')
  (h:∀(xs:Array Keyed) (h1 g:Heap) (c t:Nat),xs.Perm (pairsOf vs)->Seg ρ xs 0 vs.length->(∀b o,s.heap.get? b=some o->h1.get? b=some o)->(∀b o,h1.get? b=some o->g.get? b=some o)->g.get? h1.objs.size=some (seqObj "list" (xs.map (·.2)) c)->Q (.ref h1.objs.size) {s with heap:=g,toks:=t}):
  wpAny (model prog w) A (call (.builtin "sorted") [.ref r]) Q E s:=by
 refine Calls.call_function_entry kind_sorted plain_sorted entry_sorted (args_sorted1 _) ?_;unfold Builtin.«sorted»;refine acL (m:=checkCount "sorted" 1 1 _) (acP (acL (PySem.W.kdu_collect (A:=A.in1) K hh ok hn λh1 t acc k1 items=>?_)));rw[hv acc items];refine acL (wpAny_newList ?_ hz);have Qp:(h1.push (seqObj "list" vs.toArray 0)).get? h1.objs.size=some (seqObj "list" vs.toArray 0):=ada _ rfl;have keep:∀b o,h1.get? b=some o->(h1.push (seqObj "list" vs.toArray 0)).get? b=some o:=λb o e=>acM _ e;have ne:∀b o,h1.get? b=some o->b≠h1.objs.size:=λb o e=>adB (ac9 e);show wpAny _ _ _ _ _ {s with heap:=h1.push (seqObj "list" vs.toArray 0),toks:=t}
 refine acL (wpAny_holding (adZ slot_list_sort ⟨_,Qp,rfl⟩ entry_list_sort (i3 (s:={s with heap:=h1.push (seqObj "list" vs.toArray 0),toks:=t}) (kd:=kd) (ρ:=ρ) (P:=P') Qp hz h0 (λh2 g kg=>hk h2 _ _ g t λb o e=>kg b o (ne b o (k1 b o e)) (keep b o (k1 b o e))) λxs g c a1 a2 a3 a4=>⟨_,rfl,?_⟩) (args_list_sort _)))
 exact acP ⟨_,rfl,h xs h1 g c t a1 a2 k1 (λb o e=>a3 b o (ne b o e) (keep b o e)) a4⟩
end
end Vs
namespace Vc
open PySem L2
variable [KF]
variable {G:GE}{k:Nat}{S:Stat}
theorem dA.to{X:Cx}{Y Y':bz}(ok:dA X G k S Y)(Jb:S.ex=λ_ _=>False)(cX:Y'.io=Y.io)(xZ:Y'.ob=Y.ob):dA X G k S Y':=
 ⟨ok.P,ok.w,ok.K,ok.kf,ok.mg,ok.base,ok.N,ok.sc,ok.nd,λp hp=>ok.ios p (by rw[<- cX];exact hp),(λh1 h2=>xZ.trans (ok.obs h1 h2)),ok.calm,ok.kind,ok.fn,ok.hd,ok.dp,ok.un,ok.po,ok.nx,(λc ai h=>by rw[Jb]at h;exact h.elim),λ_ c ai h=>by rw[Jb]at h;exact h.elim⟩
end Vc
namespace Vc
open PySem L2
section
variable {prog:adv}{w:World}{A:Around}{E:Value->Shared->Prop}{s:Shared}
open PySem.Spec in
theorem oT{nm:String}{a b:Addr}{oa ob:Obj}{es:Array DictEntry}{ep Pg:Nat}{Q:Bool->Shared->Prop}(ha:(a==adY)=false)(hb:(b==adY)=false)
  (Wk:s.heap.get? a=some oa) (Wf:oa.data=.dict es ep) (xZ:s.heap.get? b=some ob) (jE:ob.data=.dict #[] Pg) (h:Q (decide (es.size=0)) s):
  wpAny (model prog w) A (Builtin.Dict.samePairs nm a b) Q E s:=by
 unfold Builtin.Dict.samePairs Builtin.Dict.showsAll;rw[if_neg (show¬(a==adY)=true by rw[ha];exact adJ),if_neg (show¬(b==adY)=true by rw[hb];exact adJ)]
 refine acL (acP (acL (acP ?_)));refine acL (wpAny_dictEntries Wk Wf ?_);dsimp only;refine acL (wpAny_dictEntries xZ jE ?_)
 by_cases hsz:es.size=0
 case neg =>
  rw[if_pos (by simpa using hsz)]
  rw[decide_eq_false hsz]at h;exact acL (wpAny_rule (acP h))
 case pos =>
  rw[if_neg (by simpa using hsz)]
  rw[decide_eq_true hsz]at h;refine acL (wpAny_dictEpoch Wk Wf ?_);rw[Std.Legacy.Range.forIn_eq_forIn_range'];simp only[Std.Legacy.Range.size,Nat.sub_zero,Nat.add_sub_cancel,Nat.div_one,hsz,List.range'_zero,List.forIn_nil];exact acL (acP (acP h))
theorem eqE{K:Type}[DecidableEq K]{knd:PySem.KeyKind prog w K}{a b:Addr}{vs ws:List (K×Value)}{Q:Value->Shared->Prop}(hu:A.units<cLine)(ha:(a==adY)=false)(hb:(b==adY)=false)
  (da:s.heap.DictOf knd a vs) (db:s.heap.DictOf knd b ws) (hw:ws=[]) (h:Q (.bool (decide (vs=[]))) s):
  wpAny (model prog w) A (aek .Eq (.ref a) (.ref b)) Q E s:=by
 subst hw;refine wpAny_richCompare_same_room (op:=.Eq) da.typeIs db.typeIs PySem.F.slot_dict_eq (adZ PySem.F.slot_dict_eq da.typeIs PySem.F.entry_dict_eq ?_ (PySem.F.args_dict_eq_2 _ _)) hu;show wpAny _ _ (Builtin.Dict.dictSlotArgs "__eq__" ⟨[.ref a,.ref b],[]⟩ >>= _) _ _ s;refine acL ?_;unfold Builtin.Dict.dictSlotArgs;refine acL (wpAny_notOrdered_dict da.typeIs ?_);show wpAny _ _ (pure (adw a,adw b)) _ _ s;refine acP ?_;refine acL (wpAny_isInstance (T:="dict") db.typeIs PySem.F.sub_dict_dict ?_);simp only[Bool.not_true,ac1,if_false];refine acL (acP (acL (acP ?_)));obtain⟨oa,es,ep,Wk,_,Wf,_,hp,_⟩:=da;obtain⟨ob,Ph,Pg,xZ,_,jE,_,Fb,_⟩:=db;have e':Ph=#[]:=by
  have:=Fb.length;exact Array.eq_empty_of_size_eq_zero (by simpa using this)
 subst e';have el:es.size=vs.length:=by simpa using hp.length
 refine acL (oT ha hb Wk Wf xZ jE ?_);refine acP ⟨_,rfl,?_,?_⟩
 ·exactλx=>nomatch x
 ·rw[show decide (es.size=0)=decide (vs=[])from by rw[el];cases vs<;>simp]
  simpa using h
theorem neE{K:Type}[DecidableEq K]{knd:PySem.KeyKind prog w K}{a b:Addr}{vs ws:List (K×Value)}{Q:Value->Shared->Prop}(hu:A.units<cLine)(ha:(a==adY)=false)(hb:(b==adY)=false)
  (da:s.heap.DictOf knd a vs) (db:s.heap.DictOf knd b ws) (hw:ws=[]) (h:Q (.bool (!decide (vs=[]))) s):
  wpAny (model prog w) A (aek .NotEq (.ref a) (.ref b)) Q E s:=by
 subst hw;refine wpAny_richCompare_same_room (op:=.NotEq) da.typeIs db.typeIs PySem.F.slot_dict_ne (adZ PySem.F.slot_dict_ne da.typeIs PySem.F.entry_dict_ne ?_ (PySem.F.args_dict_ne_2 _ _)) hu;show wpAny _ _ (Builtin.Dict.dictSlotArgs "__ne__" ⟨[.ref a,.ref b],[]⟩ >>= _) _ _ s;refine acL ?_;unfold Builtin.Dict.dictSlotArgs;refine acL (wpAny_notOrdered_dict da.typeIs ?_);show wpAny _ _ (pure (adw a,adw b)) _ _ s;refine acP ?_;refine acL (wpAny_isInstance (T:="dict") db.typeIs PySem.F.sub_dict_dict ?_);simp only[Bool.not_true,ac1,if_false];refine acL (acP (acL (acP ?_)));obtain⟨oa,es,ep,Wk,_,Wf,_,hp,_⟩:=da;obtain⟨ob,Ph,Pg,xZ,_,jE,_,Fb,_⟩:=db;have e':Ph=#[]:=by
  have:=Fb.length;exact Array.eq_empty_of_size_eq_zero (by simpa using this)
 subst e';have el:es.size=vs.length:=by simpa using hp.length
 refine acL (oT ha hb Wk Wf xZ jE ?_);refine acP ⟨_,rfl,?_,?_⟩
 ·exactλx=>nomatch x
 ·rw[show decide (es.size=0)=decide (vs=[])from by rw[el];cases vs<;>simp]
  simpa using h
end
variable [KF]
def dR(kvs:List (Int×D))(i:Int):Option D:=(kvs.find? λp=>decide (p.1=i)).map (·.2)
def yb(kvs:List (Int×D))(i:Int)(d:D):List (Int×D):=if(kvs.any λp=>decide (p.1=i))=true then kvs.map (λp=>if p.1=i then(p.1,d)else p)else kvs++[(i,d)]
def iZ(kvs:List (Int×D))(i:Int):List (Int×D):=kvs.filter λp=>decide (p.1≠i)
theorem b9.length{F:Hp}:∀ {ks:List (Key×V)} {kvs:List (Int×D)},b9 F ks kvs->ks.length=kvs.length
 | _,_,.nil=>rfl
 | _,_,.cons _ r=>by simp [b9.length r]
theorem ye(i j:Int):((aey i:Key)=aey j)=(i=j):=by simp
theorem b9.val{F:Hp}(j:Int):∀ {ks:List (Key×V)} {kvs:List (Int×D)},b9 F ks kvs->(ie ks (.inl j)=none/\dR kvs j=none)\/∃v d,ie ks (.inl j)=some v/\dR kvs j=some d/\Rep F v d
 | _,_,.nil=>.inl ⟨rfl,rfl⟩
 | _,_,.cons (i:=i) (v:=v) (d:=d) (ks:=ks) (kvs:=kvs) h r=>by
  by_cases e:i=j
  ·subst e
   exact .inr ⟨v,d,k7 rfl,by unfold dR;rw[List.find?_cons_of_pos (by simp)];rfl,h⟩
  ·have e1:ie ((aey i,v)::ks) (aey j)=ie ks (aey j):=k6 (by show¬(aey i:Key)=aey j;rw[ye];exact e)
   have e2:dR ((i,d)::kvs) j=dR kvs j:=by unfold dR;rw[List.find?_cons_of_neg (by simpa using e)]
   rw[e1,e2];exact b9.val j r
theorem b9.append{F:Hp}:∀ {ks js:List (Key×V)} {kvs lvs:List (Int×D)},b9 F ks kvs->b9 F js lvs->b9 F (ks++js) (kvs++lvs)
 | _,_,_,_,.nil,s=>s
 | _,_,_,_,.cons h r,s=>.cons h (b9.append r s)
theorem b9.any{F:Hp}(j:Int):∀ {ks:List (Key×V)} {kvs:List (Int×D)},b9 F ks kvs->(ks.any λkv=>decide (kv.1=aey j))=(kvs.any λp=>decide (p.1=j))
 | _,_,.nil=>rfl
 | _,_,.cons (i:=i) _ r=>by
  rw[List.any_cons,List.any_cons,b9.any j r];congr 1;simp
theorem b9.repl{F:Hp}{v:V}{d:D}(j:Int)(hv:Rep F v d):∀ {ks:List (Key×V)} {kvs:List (Int×D)},b9 F ks kvs->b9 F (ks.map λkv=>if kv.1=aey j then(kv.1,v)else kv) (kvs.map λp=>if p.1=j then(p.1,d)else p)
 | _,_,.nil=>.nil
 | _,_,.cons (i:=i) h r=>by
  rw[adh,adh]
  by_cases e:i=j
  ·rw[if_pos (show(aey i:Key)=aey j by rw[e]),if_pos (show i=j from e)]
   exact .cons hv (b9.repl j hv r)
  ·rw[if_neg (show¬(aey i:Key)=aey j by rw[ye];exact e),if_neg (show¬i=j from e)]
   exact .cons h (b9.repl j hv r)
theorem b9.put{F:Hp}{ks:List (Key×V)}{kvs:List (Int×D)}{v:V}{d:D}(j:Int)(r:b9 F ks kvs)(hv:Rep F v d):b9 F (putK ks (.inl j) v) (yb kvs j d):=by
 unfold putK yb;rw[r.any j]
 split
 ·exact r.repl j hv
 ·exact r.append (.cons hv .nil)
theorem b9.drop{F:Hp}(j:Int):∀ {ks:List (Key×V)} {kvs:List (Int×D)},b9 F ks kvs->b9 F (mC ks (.inl j)) (iZ kvs j)
 | _,_,.nil=>.nil
 | _,_,.cons (i:=i) h r=>by
  unfold mC iZ;rw[List.filter_cons,List.filter_cons];have ih:=b9.drop j r;unfold mC iZ at ih
  by_cases e:i=j
  ·subst e
   simpa using ih
  ·simp only[ne_eq,ye,e,not_false_eq_true,decide_true,if_true]
   exact .cons h (by simpa using ih)
def qg(a:Addr)(kvs:List (Int×D)):O where
 fp:=λb=>[b]
 rep:=λF H b=>b=a/\∃ks,H b=some (.dK ks)/\b9 F ks kvs
 self:=λa=>acU.mpr rfl
 solid:=λ{F H a b φ} ⟨_,ks,h,_⟩ hb z=>by
  rw[acU.mp hb,h]at z;cases z
 nt:=λ{F H a b vs} ⟨_,ks,h,_⟩ hb z=>by
  rw[acU.mp hb,h]at z;cases z
 mono:=λ{F F' H H' a} s e ⟨e0,ks,h,r⟩=>⟨e0,ks,by rw[e a (acU.mpr rfl)];exact h,r.mono s⟩
 view:=some (.dB kvs)
 sees:=λ{F H a d} ⟨_,ks,h,r⟩ e=>by cases e;exact⟨a,ks,rfl,h,r⟩
 lend:=λ{F H a d} s ⟨_,ks,h,r⟩ e=>by
  cases e;obtain⟨F',s1,s2,e1,e2⟩:=dC s h;refine⟨F',s1,s2,.dB e1 (r.mono s1),λc u z=>?_⟩;rcases e2 c u z with z|⟨rfl,rfl⟩
  ·exact .inl z
  ·exact .inr ⟨rfl,acU.mpr rfl⟩
 loc:=some a
 Jw:=λ{F H a b} ⟨e,_⟩ q=>by cases q;exact e
variable {G:GE}{k:Nat}{S:Stat}
def mR(i:Nat):TV:=λσ Q=>match σ[i]? with
 | some (some (.sh d))=>Q (.val d) σ
 | some (some _)=>Q (.var i) σ
 | _=>False
theorem oP(i:Nat){x:Str}{pos:Pos}(hN:S.N[i]?=some x:=by rfl)(hv:S.sc.lookup x=some .local\/S.sc.lookup x=some .cell\/S.sc.lookup x=some .free:=by first|exact Or.inl rfl|exact Or.inr (Or.inl rfl)|exact Or.inr (Or.inr rfl))
  (hd:(x==("__debug__":Str))=false:=by decide) (ly:(x==("__classdict__":Str))=false:=by decide):EO G k S (.Name x pos) (mR i):=.mk λX Y ok =>
 aO (gY (X:=X) (i:=i) (by rw[ok.N];exact hN) (by unfold HF;rw[ok.sc];exact hv) hd ly) λσ H Q q=>by
  obtain⟨F,ai,Qd,R,q,K⟩:=q;unfold mR at q
  split at q
  ·rename_i d e
   obtain⟨v,e2,r2⟩:=R.sh i d e;exact⟨v,e2,K v H F (.val d) ai (aq.refl _) R r2 q⟩
  ·rename_i b hb e
   cases b with
   | sh d=>exact absurd rfl (hb d)
   | own xs =>
    obtain⟨a,vs,e2,_⟩:=R.own i xs e;exact⟨_,e2,K _ H F (.var i) ai (aq.refl _) R e2 q⟩
   | obj o =>
    obtain⟨a,e2,_⟩:=R.ob.obj i o e;exact⟨_,e2,K _ H F (.var i) ai (aq.refl _) R e2 q⟩
  ·exact q.elim
def Vw:TX:=λσ Q=>∀p,Q (.obj (qg p [])) σ
theorem Kh{pos:Pos}:EX G k S (.Dict [] [] pos) Vw:=.mk λX Y ok=>aO gX λσ H Q q=>by
 obtain⟨F,ai,Qd,R,q,K⟩:=q;intro p hp;refine K _ _ F (.obj (qg p [])) ai (aq.refl _) (R.nH hp) ⟨p,rfl,⟨rfl,[],ay,.nil⟩,λb hb=>?_⟩ (q p);rw[acU.mp hb];exact⟨same_none R.fr hp,(by rw[ay];exactλz=>nomatch z),(R.b6 hp).1,R.df hp⟩
def pO(ta tb:TV):TV:=λσ Q=>ta σ λx aw=>tb aw λy aM=>match cW aM x,cW aM y with
 | some (.dB kvs),some (.int i)=>∃d,dR kvs i=some d/\Q (.val d) aM
 | _,_=>False
theorem mP{a b:Expr}{ta tb:TV}{pos:Pos}(ha:EO G k S a ta)(hb:EO G k S b tb)(hs:MS b:=by intro _ _;rfl):EO G k S (.Subscript a b pos) (pO ta tb):=.mk λX Y ok =>
 aO (JX (by have:=ok.units;omega) (ha X Y ok) (hb X Y ok) hs) λσ H Q q=>by
  obtain⟨F,ai,Qd,R,q,K⟩:=q;refine⟨F,ai,_,R,q,λv1 H1 F1 x aw s1 R1 r1 q1=>?_⟩;refine⟨F1,aw,_,R1,q1,λv2 H2 F2 y aM s2 R2 r2 q2=>?_⟩
  split at q2
  ·rename_i kvs i ea eb
   obtain⟨a,ks,rfl,h,r⟩:=R2.cW (r1.mono s2) ea;obtain rfl:=(R2.cW r2 eb).int;obtain⟨d,hd,q2⟩:=q2;rcases r.val i with⟨_,e2⟩|⟨v,d',e1,e2,rd⟩
   ·rw[e2]at hd;cases hd
   ·rw[e2]at hd;cases hd
    refine⟨a,v,rfl,?_,K v H2 F2 (.val d) aM (s1.trans s2) R2 rd q2⟩;rw[<- e1];exact qY.k (k:=.inl i) h
  ·exact q2.elim
def inI:D->D->(Bool->Prop)->Prop
 | .int i,.dB kvs,Q=>Q (dR kvs i).isSome
 | _,_,_=>False
def JD(x y:D)(Q:Bool->Prop):Prop:=inI x y λb=>Q !b
theorem Jg{F H:Hp}{v u:V}{i:Int}{kvs:List (Int×D)}(rv:bW F H v (.int i))(ru:bW F H u (.dB kvs)):∃a o,u=.ref a/\qY H a v o/\o.isSome=(dR kvs i).isSome:=by
 obtain rfl:=rv.int;obtain⟨a,ks,rfl,h,r⟩:=ru;refine⟨a,_,rfl,.k (k:=.inl i) h,?_⟩;rcases r.val i with⟨e1,e2⟩|⟨v,d,e1,e2,_⟩
 ·rw[e1,e2];rfl
 ·rw[e1,e2];rfl
theorem ND:nE G k S .NotIn JD:=⟨Gd true,λX Y ok=>Bt (by have:=ok.units;omega),λY F H ai σ v u x y Qd Q R rx ry q K=>by
 unfold JD inI at q
 split at q
 ·obtain⟨a,o,rfl,g,e⟩:=Jg rx ry
  exact⟨a,o,rfl,g,K _ (by rw[if_pos rfl,e];exact q)⟩
 ·exact q.elim⟩
def Bb:List D->(EV->Prop)->Prop
 | [.dB kvs],Q=>Q (.val (.int kvs.length))
 | _,_=>False
theorem xR:yZ G k S (.builtin "len") Bb:=⟨λ_ xs H Q=>∃a ks,xs=[.ref a]/\H a=some (.dK ks)/\Q (.int ks.length) H,λX Y ok=>by
  intro pins s σ H xs us Q I r h;obtain⟨a,ks,rfl,e,q⟩:=h;obtain⟨u,rfl,ru⟩:=vals1 r;cases ru;exact Xw I (.inl e) λt s' I'=>⟨.int _,H,I',⟨_,rfl⟩,q⟩,λY F H ai σ vs ds Qd Q R r q g=>by
 unfold Bb at q
 split at q
 ·obtain⟨v,rfl,rv⟩:=r.one
  obtain⟨a,ks,rfl,h,rr⟩:=rv;refine⟨a,ks,rfl,h,?_⟩;rw[rr.length];exact g.val R (.int _) q
 ·exact q.elim⟩
def Um(neg:Bool):R2:=λx y H Q=>∃a b ks,x=.ref a/\y=.ref b/\H a=some (.dK ks)/\H b=some (.dK [])/\Q (.bl (if neg then !decide (ks=[])else decide (ks=[]))) H
theorem Fq{vs:List (Key×Value)}(r:KV ([]:List (Key×V)) vs):vs=[]:=by
 have:=r.length;cases vs with
 | nil=>rfl
 | cons _ _=>simp at this
theorem Fp{ks:List (Key×V)}{vs:List (Key×Value)}(r:KV ks vs):decide (vs=[])=decide (ks=[]):=by
 have:=r.length;cases vs<;>cases ks<;>simp_all
theorem FE{X:Cx}(hu:X.A.units<cLine):il X (aek .Eq) (Um false):=by
 intro pins s σ H x y v u Q I rx ry h;obtain⟨a,b,ks,rfl,rfl,ea,eb,q⟩:=h;cases rx;cases ry;obtain⟨_,ha,xs,ra,da⟩:=nP I.bI ea;obtain⟨_,hb,ys,rb,db⟩:=nP I.bI eb;refine eqE hu ha hb da db (Fq rb) ?_;rw[Fp ra];exact⟨.bl _,H,I,rfl,q⟩
theorem S5{X:Cx}(hu:X.A.units<cLine):il X (aek .NotEq) (Um true):=by
 intro pins s σ H x y v u Q I rx ry h;obtain⟨a,b,ks,rfl,rfl,ea,eb,q⟩:=h;cases rx;cases ry;obtain⟨_,ha,xs,ra,da⟩:=nP I.bI ea;obtain⟨_,hb,ys,rb,db⟩:=nP I.bI eb;refine neE hu ha hb da db (Fq rb) ?_;rw[Fp ra];exact⟨.bl _,H,I,rfl,q⟩
def um(neg:Bool)(t:TV):TB:=λσ Q=>t σ λx aw=>match cW aw x with
 | some (.dB kvs)=>Q (if neg then !decide (kvs=[])else decide (kvs=[])) aw
 | _=>False
theorem Gv{F:Hp}{ks:List (Key×V)}{kvs:List (Int×D)}(r:b9 F ks kvs):decide (ks=[])=decide (kvs=[]):=by
 cases r<;>simp
theorem lr{Y:bz}{neg:Bool}{ta:TV}{σ:St}{H:Hp}{Q:VK}{F:Hp}{ai:Sd}{Qd:Bool->Sd->Prop}(R:RS Y F ai σ H)(q:um neg ta ai Qd)(K:∀b H' F' aC,aq F F'->RS Y F' aC σ H'->Qd b aC->Q (.bl b) H'):VC (Um neg) (lO Y ta) GJ σ H Q:=by
 refine⟨F,ai,_,R,q,λv1 H1 F1 x aw s1 R1 r1 q1=>?_⟩;intro p hp
 split at q1
 ·rename_i kvs ea
  obtain⟨a,ks,rfl,h,r⟩:=R1.cW r1 ea;refine⟨a,p,ks,rfl,rfl,by rw[au (bg h hp)];exact h,ay,?_⟩
  rw[Gv r];exact K _ _ F1 aw s1 (R1.nH hp) q1
 ·exact q1.elim
theorem aaJ{a:Expr}{ta:TV}{p pos:Pos}(ha:EO G k S a ta)(hm:behindInMarks .Eq (.Dict [] [] p)=false:=by first|exact oA _|with_unfolding_all rfl):EO G k S (.Compare a [.Eq] [.Dict [] [] p] pos) (bV (um false ta)):=.mk λX Y ok=>by
 refine aO (z9 (FE (by have:=ok.units;omega)) (ha X Y ok) gX hm) λσ H Q q=>?_
 obtain⟨F,ai,Qd,R,q,K⟩:=q;exact lr R q λb H' F' aC s R' qq=>K _ H' F' (.val (.bl b)) aC s R' (.bl b) qq
theorem Gq{a:Expr}{ta:TV}{p pos:Pos}(ha:EO G k S a ta)(hm:behindInMarks .Eq (.Dict [] [] p)=false:=by first|exact oA _|with_unfolding_all rfl):EB G k S (.Compare a [.Eq] [.Dict [] [] p] pos) (um false ta):=.mk λX Y ok=>by
 refine oI (sP (FE (by have:=ok.units;omega)) (ha X Y ok) gX hm) λσ H Q q=>?_
 obtain⟨F,ai,Qd,R,q,K⟩:=q;exact lr R q λb H' F' aC s R' qq=>⟨b,rfl,K b H' F' aC s R' qq⟩
theorem Up{a:Expr}{ta:TV}{p pos:Pos}(ha:EO G k S a ta)(hm:behindInMarks .NotEq (.Dict [] [] p)=false:=by first|exact oA _|with_unfolding_all rfl):EB G k S (.Compare a [.NotEq] [.Dict [] [] p] pos) (um true ta):=.mk λX Y ok=>by
 refine oI (sP (S5 (by have:=ok.units;omega)) (ha X Y ok) gX hm) λσ H Q q=>?_
 obtain⟨F,ai,Qd,R,q,K⟩:=q;exact lr R q λb H' F' aC s R' qq=>⟨b,rfl,K b H' F' aC s R' qq⟩
def Vy(i:Nat)(tk:TV)(tv:TD):b7:=λDe σ=>tv σ λd aw=>(∃a kvs,aw[i]?=some (some (.obj (qg a kvs))))/\tk aw λy aM=>match cW aM y with
 | some (.int j)=>∃a kvs,aM[i]?=some (some (.obj (qg a kvs)))/\kvs.length<acZ/\De.nx (aM.set i (some (.obj (qg a (yb kvs j d)))))
 | _=>False
theorem Km(i:Nat){x:Str}{ke ve:Expr}{tk:TV}{tv:TD}{np pos' pos:Pos}(hv:ED G k S ve tv)(hk:EO G k S ke tk)(ho:EO G k S (.Name x np) (KD i))(hs:∀line env,swapsWith ve (some (.Subscript (.Name x np) ke pos')) line env=pure false:=by intro _ _;rfl):
  ES G k S (.Assign [.Subscript (.Name x np) ke pos'] ve pos) (Vy i tk tv):=.mk λX Y ok =>
 cj (Af (by have:=ok.units;omega) (ho X Y ok) (hk X Y ok) (hv X Y ok) (hs _ _)) λDn σ H q=>by
  obtain⟨F,ai,De,R,q,K⟩:=q;refine⟨F,ai,_,R,q,λv H1 F1 d aw s1 R1 r1 q1=>?_⟩;obtain⟨⟨a0,Ju,e0⟩,q1⟩:=q1;refine⟨F1,aw,λx mq=>x=.var i/\mq=aw,R1,⟨⟨_,e0⟩,rfl,rfl⟩,λv2 H2 F2 y aM s2 R2 r2 q2=>?_⟩;obtain⟨rfl,rfl⟩:=q2;have r2:σ[i]?=some (some v2):=r2;refine⟨F2,aM,_,R2,q1,λv3 H3 F3 kd fq s3 R3 r3 q3=>?_⟩
  split at q3
  ·rename_i j ej
   obtain rfl:=(R3.cW r3 ej).int;obtain⟨a,kvs,e,hl,q3⟩:=q3;obtain⟨b,w1,⟨rfl,us,w2,w3⟩,w4⟩:=R3.ob.obj i _ e;rw[r2]at w1;cases w1;refine⟨b,_,rfl,.k (k:=.inl j) w2 (by rw[w3.length];exact hl),K.nx σ _ F3 _ ((s1.trans s2).trans s3) (R3.gU (o':=qg b (yb kvs j d)) e r2 (acU.mpr rfl) (λ_ z=>z) ⟨rfl,_,ay,w3.put j (r1.mono (s2.trans s3))⟩) q3⟩
  ·exact q3.elim
def VD(i:Nat)(tk:TV):b7:=λDe σ=>(∃a kvs,σ[i]?=some (some (.obj (qg a kvs))))/\tk σ λy aM=>match cW aM y with
 | some (.int j)=>∃a kvs,aM[i]?=some (some (.obj (qg a kvs)))/\(dR kvs j).isSome=true/\De.nx (aM.set i (some (.obj (qg a (iZ kvs j)))))
 | _=>False
theorem Kl(i:Nat){x:Str}{ke:Expr}{tk:TV}{np ap cp pos:Pos}(hk:EO G k S ke tk)(ho:EO G k S (.Name x np) (KD i))(m:∀X:Cx,M1 X (.Name x np) "pop" ap ke cp:=by intro X;exact⟨rfl,rfl,rfl,rfl⟩):
  ES G k S (.Expr (.Call (.Attribute (.Name x np) "pop" ap) [ke] [] cp) pos) (VD i tk):=.mk λX Y ok =>
 cj (sL (wt (ho X Y ok) (hk X Y ok) (m X)) rfl) λDn σ H q=>by
  obtain⟨F,ai,De,R,⟨⟨a0,Ju,e0⟩,q⟩,K⟩:=q;refine⟨F,ai,λx mq=>x=.var i/\mq=ai,R,⟨⟨_,e0⟩,rfl,rfl⟩,λv2 H2 F2 y aM s2 R2 r2 q2=>?_⟩;obtain⟨rfl,rfl⟩:=q2;have r2:σ[i]?=some (some v2):=r2;obtain⟨b0,w1,⟨rfl,MD,w2,w3⟩,w4⟩:=R2.ob.obj i _ e0;rw[r2]at w1;cases w1;refine⟨b0,rfl,.inl ⟨_,.inl w2⟩,F2,aM,_,R2,q,λv3 H3 F3 kd fq s3 R3 r3 q3=>?_⟩
  split at q3
  ·rename_i j ej
   obtain rfl:=(R3.cW r3 ej).int;obtain⟨a,kvs,e,hl,q3⟩:=q3;obtain⟨b,w1,⟨rfl,us,y2,y3⟩,y4⟩:=R3.ob.obj i _ e;rw[r2]at w1;cases w1;rcases y3.val j with⟨_,e2⟩|⟨v,d',e1,e2,rd⟩
   ·rw[e2]at hl;cases hl
   ·exact⟨us,.inl j,v,y2,rfl,e1,K.nx σ _ F3 _ (s2.trans s3) (R3.gU (o':=qg b0 (iZ kvs j)) e r2 (acU.mpr rfl) (λ_ z=>z) ⟨rfl,_,ay,y3.drop j⟩) q3⟩
  ·exact q3.elim
end Vc
namespace Vs
open PySem PySem.Calls PyProof.Rows PyProof.V PySem.Spec
def vL:Value->Int
 | .int i _=>i
 | _=>0
section
variable {prog:adv}{w:World}{A:Around}{E:Value->Shared->Prop}{s:Shared}
theorem Fm{vs:List Value}{ns:List Int}{Q:aea->Shared->Prop}(hl:2<=vs.length)(h:IntsAre vs ns)(q:Q oneType' s):wpAny (model prog w) A (keyKind' vs.toArray) Q E s:=by
 match vs,hl,h with
 | acI::acJ::r,_,h =>
  rw[keyKind_ints h];exact acP q
theorem Jx{l:List Keyed}(h:∀x∈l,∃i t,x.1=Value.int i t):gF (model prog w) A E s (rk (λx=>[vL x.1]) l) oneType' (λx=>x∈l):=λx y st Q hx hy hk q=>by
 rw[Aj hx]at q;rw[lt'_eq];refine acY (wpS_get ?_);rw[hk];obtain⟨i,t,e1⟩:=h x hx;obtain⟨j,u,e2⟩:=h y hy;rw[e1,e2,show HT.lexLt [vL (.int i t)] [vL (.int j u)]=decide (i<j)from by
  show(if i=j then HT.lexLt [] []else decide (i<j))=_
  by_cases e:i=j
  ·rw[if_pos e,decide_eq_false ⋯];rfl
  ·rw[if_neg e]]at q
 refine acY (wpS_lift (wpAny_attempt ?_));rw[e1,e2,keyLt'_oneType];exact oneLt_int ⟨rfl,ac7 q⟩
end
end Vs
namespace Vc
open PySem L2
variable [KF]
def Gf:List V->Hp->VK->Prop:=λxs H Q=>∃a ks,∃ns:List Int,xs=[.ref a]/\H a=some (.dK ks)/\ks.map (·.1)=ns.map aey /\
 ∀ms:List Int,ms.Perm ns->ms.Pairwise (λx y=>x<=y)->∀l,H l=none->Q (.ref l) (upd H l (.lst (ms.map V.int)))
theorem oF{prog:adv}{w:World}:∀ {es:List DictEntry} {vs:List (Key×Value)} {ns:List Int},PySem.Pairs (cc prog w) es vs->vs.map (·.1)=ns.map aey->PyProof.Rows.IntsAre (es.map (·.key)) ns
 | _,_,[],.nil,_=>.nil
 | _,_,_::_,.nil,e=>by cases e
 | _,_,[],.cons _ _ _,e=>by cases e
 | _,_,n::ns,.cons (e:=e) (kv:=kv) h1 h2 r,q=>by
  rw[adh,adh]at q;obtain⟨q1,q2⟩:=List.cons.inj q;rw[q1]at h1;rcases bR (show n8 (aey n) e.key=true from h1)with⟨i,t,a1,a2⟩|⟨x,t,a1,_⟩
  ·cases a1
   rw[adh,a2];exact .cons _ t (oF r q2)
  ·cases a1
theorem nZ:∀ {vs:List Value} {ns:List Int},PyProof.Rows.IntsAre vs ns->vs.map Vs.vL=ns
 | _,_,.nil=>rfl
 | _,_,.cons n t h=>by rw[adh,nZ h];rfl
theorem mG:∀ {vs:List Value} {ns:List Int},PyProof.Rows.IntsAre vs ns->∀v∈vs,∃i t,v=Value.int i t
 | _,_,.nil,v,hv=>by cases hv
 | _,_,.cons n t h,v,hv=>by
  rcases acV.mp hv with rfl|hv
  ·exact⟨n,t,rfl⟩
  ·exact mG h v hv
theorem fN:∀ {vs:List Value},(∀v∈vs,∃i t,v=Value.int i t)->Vals ((vs.map Vs.vL).map V.int) vs
 | [],_=>.nil
 | v::vs,h=>by
  obtain⟨i,t,rfl⟩:=h v (.head _);exact .cons ⟨t,rfl⟩ (fN λx hx=>h x (.tail _ hx))
theorem xM{X:Cx}(hc:X.calm=true):cU X (.builtin "sorted") Gf:=by
 intro pins s σ H xs MD Q I r h;obtain⟨a,ks,ns,rfl,ha,ek,q⟩:=h;obtain⟨u,rfl,rx⟩:=vals1 r;cases rx;obtain⟨hz,hd,vs,rel,o,es,ep,e1,e2,e3,e4,e5,e6⟩:=nP I.bI ha;have hlv:ks.length=vs.length:=rel.length;have hle:es.toList.length=vs.length:=e5.length;have hkv:vs.map (·.1)=ns.map aey:=by
  rw[<- ek];clear e5 e6 hlv hle ha ek hz q
  induction rel with
  | nil=>rfl
  | cons hx _ ih=>rw[adh,adh,ih,hx.1]
 have hln:ns.length=vs.length:=by have:=congrArg List.length hkv;simpa using this.symm
 obtain⟨its,Pb⟩:∃its:List Value,its=es.toList.map (·.key):=⟨_,rfl⟩
 have ii:PyProof.Rows.IntsAre its ns:=by rw[Pb];exact oF e5 hkv
 have lits:its.length=vs.length:=by rw[Pb,acO];exact hle
 have iL:=mG ii;have mem:∀x:PyProof.Rows.Keyed,x∈(adR its).toList->x.1∈its/\x.1=x.2:=λx hx=>by
  rw[PyProof.Rows.pairsOf_toList,fO]at hx;obtain⟨v,hv,rfl⟩:=adk.mp hx;exact⟨hv,rfl⟩
 refine Vs.yE (vs:=its) (kd:=PyProof.Rows.oneType') (ρ:=Vs.rk (λx=>[Vs.vL x.1]) (adR its).toList) (P':=λx=>x∈(adR its).toList) (Oy (en:=es) (c:=ep) hd) (I.ok.hd hc) ⟨o,e1,e2,e3⟩ (by rw[<- aep];omega) (λacc it=>?_) ⋯ (λ_ h=>h) (λh2 A' E' g t kg=>⟨λQ hQ=>?_,?_⟩) λys h1 g c' t hp hs k1 kg hg=>?_
 ·refine List.ext_getElem? λj=>?_
  rw[ad8];cases ej:acc[j]? with
  | none =>
   have:acc.size<=j:=Array.getElem?_eq_none_iff.mp ej;rw[it.1]at this;rw[List.getElem?_eq_none (by rw[lits,<- hle,aep];exact this)]
  | some v =>
   obtain⟨e,he,rfl⟩:=it.2 j v ej;rw[Pb,ac0,ad8,he];rfl
 ·exact Vs.Fm (s:={s with heap:=g,toks:=t}) h2 ii hQ
 ·exact Vs.Jx (s:={s with heap:=g,toks:=t}) λx hx=>iL x.1 (mem x hx).1
 ·have dJ:ys.toList.Perm (adR its).toList:=Array.perm_iff_toList_perm.mp hp
  have lC:∀x∈ys.toList,x.1∈its/\x.1=x.2:=λx hx=>mem x (dJ.mem_iff.mp hx);obtain⟨ms,ems⟩:∃ms,ms=(ys.map (·.2)).toList.map Vs.vL:=⟨_,rfl⟩
  have perm:ms.Perm ns:=by
   rw[ems,Array.toList_map,adN,<- nZ ii];refine(dJ.map (Vs.vL ∘ λx=>x.2)).trans ?_;rw[PyProof.Rows.pairsOf_toList,fO,adN];exact List.Perm.refl _
  have I1:=I.kept (h':=h1) (t':=s.toks) k1;have fr:H h1.objs.size=none:=I1.fresh;refine⟨.ref h1.objs.size,_,I1.laid (h':=g) (t':=t) (o:=.lst (ms.map V.int)) kg (acS _) ⟨?_,(ys.map (·.2)).toList,c',?_,hg⟩,rfl,q ms perm ?_ _ fr⟩
  ·rw[acO,perm.length_eq];omega
  ·rw[ems]
   refine fN λv hv=>?_;rw[Array.toList_map]at hv;obtain⟨x,hx,rfl⟩:=adk.mp hv;have:=lC x hx;exact iL _ (this.2 ▸ this.1)
  ·rw[ems,Array.toList_map,adN,List.pairwise_map]
   refine ad3.mpr λi j hi hj lA=>?_;have xX:i<ys.size:=by simpa using hi
   have HM:j<ys.size:=by simpa using hj
   have hsz:ys.size=its.length:=by have:=hp.size_eq;rw[PyProof.Rows.pairsOf_size]at this;exact this
   have h1:=hs i j (adz _) (adU lA) ⋯
   rw[Vs.dm (adb xX),Vs.dm (adb HM)]at h1;show Vs.vL ys[i].2<=Vs.vL ys[j].2;have m1:=lC ys[i] (by simp)
   have m2:=lC ys[j] (by simp)
   have:=Vs.Aj (d:=λx=>[Vs.vL x.1]) (l:=(adR its).toList) (x:=ys[j]) (y:=ys[i]) (dJ.mem_iff.mp (by simp))
   rw[decide_eq_false ⋯]at this
   rw[<- m1.2,<- m2.2];have e:(if Vs.vL ys[j].1=Vs.vL ys[i].1 then HT.lexLt [] []else decide (Vs.vL ys[j].1<Vs.vL ys[i].1))=false:=this.symm
   by_cases z:Vs.vL ys[j].1=Vs.vL ys[i].1
   ·omega
   ·rw[if_neg z]at e
    have:=of_decide_eq_false e;omega
variable {G:GE}{k:Nat}{S:Stat}
def wJ(ns:List Int):List Int:=ns.mergeSort λx y=>decide (x<=y)
theorem yC(ns:List Int):(wJ ns).Perm ns:=List.mergeSort_perm _ _
theorem tB(ns:List Int):(wJ ns).Pairwise λx y=>x<=y:=by
 have:=List.pairwise_mergeSort (le:=λx y:Int=>decide (x<=y)) (λa b c h1 h2=>by simp only[decide_eq_true_eq]at *;omega) (λa b=>by simp only[Bool.or_eq_true,decide_eq_true_eq];omega) ns
 exact this.imp λh=>of_decide_eq_true h
theorem wK{ns ms:List Int}(h:ms.Perm ns)(hs:ms.Pairwise λx y=>x<=y):ms=wJ ns:=
 (h.trans (yC ns).symm).eq_of_pairwise (le:=λx y:Int=>x<=y) (λa b _ _ h1 h2=>Int.le_antisymm h1 h2) hs (tB ns)
def sortI:List D->(EV->Prop)->Prop
 | [.dB kvs],Q=>Q (.own ((wJ (kvs.map (·.1))).map D.int))
 | _,_=>False
theorem qM{F:Hp}:∀ {ks:List (Key×V)} {kvs:List (Int×D)},b9 F ks kvs->ks.map (·.1)=(kvs.map (·.1)).map aey
 | _,_,.nil=>rfl
 | _,_,.cons _ r=>by rw[adh,adh,adh,qM r]
theorem qN{F:Hp}:∀ms:List Int,aE F (ms.map V.int) (ms.map D.int)
 | []=>.nil
 | i::ms=>.cons (.int i) (qN ms)
theorem jy(hh:S.jh=false:=by rfl):yZ G k S (.builtin "sorted") sortI:=⟨λ_=>Gf,λX Y ok=>xM (ok.calm hh),λY F H ai σ vs ds Qd Q R r q g=>by
 unfold sortI at q
 split at q
 ·rename_i kvs
  obtain⟨v,rfl,rv⟩:=r.one;obtain⟨a,ks,rfl,h,rr⟩:=rv;refine⟨a,ks,kvs.map (·.1),rfl,h,qM rr,λms hp hs l hl=>?_⟩
  rw[<- wK hp hs]at q;exact g.own R (qN ms) q l hl
 ·exact q.elim⟩
end Vc
namespace Vc
open PySem L2
variable [KF]
structure iQ(F H:Hp)(vs:List V)(bs:List B):Prop where
 len:vs.length=bs.length
 sh:∀(i:Nat) (d:D),bs[i]?=some (.sh d)->∃v,vs[i]?=some v/\Rep F v d
 own:∀(i:Nat) (xs:List D),bs[i]?=some (.own xs)->∃a us,vs[i]?=some (.ref a)/\H a=some (.lst us)/\aE F us xs/\F a=none
 obj:∀(i:Nat) (o:O),bs[i]?=some (.obj o)->∃a,vs[i]?=some (.ref a)/\o.rep F H a/\∀c∈o.fp a,F c=none/\H c≠none
 dis:∀(i j:Nat) (xs ys:List D) (a:Addr),bs[i]?=some (.own xs)->bs[j]?=some (.own ys)->vs[i]?=some (.ref a)->vs[j]?=some (.ref a)->i=j
 pB:∀(i j:Nat) (o p:O) (a b:Addr),bs[i]?=some (.obj o)->bs[j]?=some (.obj p)->vs[i]?=some (.ref a)->vs[j]?=some (.ref b)->i≠j->∀c∈o.fp a,c∉p.fp b
 gA:∀(i j:Nat) (xs:List D) (o:O) (a b:Addr),bs[j]?=some (.own xs)->vs[j]?=some (.ref b)->bs[i]?=some (.obj o)->vs[i]?=some (.ref a)->b∉o.fp a
def iJ(vs:List V)(bs:List B)(c:Addr):Prop:=(∃(i:Nat) (xs:List D),bs[i]?=some (.own xs)/\vs[i]?=some (.ref c))\/∃(i:Nat) (o:O) (a:Addr),bs[i]?=some (.obj o)/\vs[i]?=some (.ref a)/\c∈o.fp a
inductive dk:List B->List B->Prop where
 | nil:dk [] []
 | sh (d:D) {bs cs:List B}:dk bs cs->dk (.sh d::bs) (.sh d::cs)
 | own (xs ys:List D) {bs cs:List B}:dk bs cs->dk (.own xs::bs) (.own ys::cs)
 | obj {o p:O} {bs cs:List B}:p.fp=o.fp->p.loc=o.loc->o.loc≠none->dk bs cs->dk (.obj o::bs) (.obj p::cs)
theorem dk.len{bs cs:List B}(h:dk bs cs):bs.length=cs.length:=by
 induction h<;>simp_all
theorem dk.shr{bs cs:List B}(h:dk bs cs):∀ {i:Nat} {d:D},cs[i]?=some (.sh d)->bs[i]?=some (.sh d):=by
 induction h with
 | nil=>intro i d e;simp at e
 | sh d _ ih=>intro i e q;cases i with
  | zero=>simpa using q
  | succ i=>simp at q ⊢;exact ih q
 | own xs ys _ ih=>intro i e q;cases i with
  | zero=>simp at q
  | succ i=>simp at q ⊢;exact ih q
 | obj _ _ _ _ ih=>intro i e q;cases i with
  | zero=>simp at q
  | succ i=>simp at q ⊢;exact ih q
theorem dk.Bu{bs cs:List B}(h:dk bs cs):∀ {i:Nat} {ys:List D},cs[i]?=some (.own ys)->∃xs,bs[i]?=some (.own xs):=by
 induction h with
 | nil=>intro i d e;simp at e
 | sh d _ ih=>intro i e q;cases i with
  | zero=>simp at q
  | succ i=>simp at q ⊢;exact ih q
 | own xs ys _ ih=>intro i e q;cases i with
  | zero=>exact⟨xs,by simp⟩
  | succ i=>simp at q ⊢;exact ih q
 | obj _ _ _ _ ih=>intro i e q;cases i with
  | zero=>simp at q
  | succ i=>simp at q ⊢;exact ih q
theorem dk.Z6{bs cs:List B}(h:dk bs cs):∀ {i:Nat} {xs:List D},bs[i]?=some (.own xs)->∃ys,cs[i]?=some (.own ys):=by
 induction h with
 | nil=>intro i d e;simp at e
 | sh d _ ih=>intro i e q;cases i with
  | zero=>simp at q
  | succ i=>simp at q ⊢;exact ih q
 | own xs ys _ ih=>intro i e q;cases i with
  | zero=>exact⟨ys,by simp⟩
  | succ i=>simp at q ⊢;exact ih q
 | obj _ _ _ _ ih=>intro i e q;cases i with
  | zero=>simp at q
  | succ i=>simp at q ⊢;exact ih q
theorem dk.Bk{bs cs:List B}(h:dk bs cs):∀ {i:Nat} {p:O},cs[i]?=some (.obj p)->∃o,bs[i]?=some (.obj o)/\p.fp=o.fp/\p.loc=o.loc/\o.loc≠none:=by
 induction h with
 | nil=>intro i d e;simp at e
 | sh d _ ih=>intro i e q;cases i with
  | zero=>simp at q
  | succ i=>simp at q ⊢;exact ih q
 | own xs ys _ ih=>intro i e q;cases i with
  | zero=>simp at q
  | succ i=>simp at q ⊢;exact ih q
 | @obj o p _ _ h1 h2 h3 _ ih=>intro i e q;cases i with
  | zero=>simp at q;subst q;exact⟨o,by simp,h1,h2,h3⟩
  | succ i=>simp at q ⊢;exact ih q
theorem dk.acg{bs cs:List B}(h:dk bs cs):∀ {i:Nat} {o:O},bs[i]?=some (.obj o)->∃p,cs[i]?=some (.obj p)/\p.fp=o.fp/\p.loc=o.loc/\o.loc≠none:=by
 induction h with
 | nil=>intro i d e;simp at e
 | sh d _ ih=>intro i e q;cases i with
  | zero=>simp at q
  | succ i=>simp at q ⊢;exact ih q
 | own xs ys _ ih=>intro i e q;cases i with
  | zero=>simp at q
  | succ i=>simp at q ⊢;exact ih q
 | @obj o p _ _ h1 h2 h3 _ ih=>intro i e q;cases i with
  | zero=>simp at q;subst q;exact⟨p,by simp,h1,h2,h3⟩
  | succ i=>simp at q ⊢;exact ih q
abbrev jq:=List B->(B->List B->Prop)->Prop
def cZ(sp:jq):Sp:=λvs H Q _=>∃F bs Qd,mw F H/\iQ F H vs bs/\sp bs Qd /\
 ∀v H' F' b er,aq F F'->aq F' H'->(∀c o,¬iJ vs bs c->H c=some o->H' c=some o)->(∀c,iJ vs bs c->H' c≠none)->iQ F' H' vs er->dk bs er->(∀c o,F' c=some o->F c=some o\/Nw H c o)->Cz H F' H' v b->Qd b er->Q v H'
variable {G:GE}{k:Nat}{S:Stat}
def qZ(G:GE)(k:Nat)(x:Str)(sp:jq):Prop:=∃f fd ps,cf G.P G.w G.K G.mg G.base ig k f fd ps (cZ sp)/\G.mg x=some (.ref f)/\PySem.W.keepIn G.K (.ref f)=true/\Binds G.K fd ps []
theorem qZ.mono{x:Str}{sp:jq}{j:Nat}(h:qZ G j x sp)(l:j<=k):qZ G k x sp:=by
 obtain⟨f,fd,ps,h1,h2,h3,h4⟩:=h;exact⟨f,fd,ps,h1.mono l,h2,h3,h4⟩
def eE(sp:bw):jq:=λbs Q=>∃ds:List D,bs=ds.map .sh/\sp ds λb=>Q b bs
theorem lM{bs:List B}(h:∀(i:Nat) (o:O),bs[i]?=some (.obj o)->o.loc≠none):dk bs bs:=by
 induction bs with
 | nil=>exact .nil
 | cons b bs ih =>
  have ih:=ih λi o e=>h (i+1) o (by simpa using e)
  cases b with
  | sh d=>exact .sh d ih
  | own xs=>exact .own xs xs ih
  | obj o=>exact .obj rfl rfl (h 0 o (by simp)) ih
theorem cT{ds:List D}{i:Nat}{b:B}(h:(ds.map B.sh)[i]?=some b):∃d,b=.sh d/\ds[i]?=some d:=by
 rw[ac0]at h;obtain⟨d,h1,h2⟩:=Option.map_eq_some_iff.mp h;exact⟨d,h2.symm,h1⟩
theorem wD{F:Hp}:∀(vs:List V) (ds:List D),vs.length=ds.length->(∀(i:Nat) (d:D),ds[i]?=some d->∃v,vs[i]?=some v/\Rep F v d)->aE F vs ds:=by
 intro vs
 induction vs with
 | nil=>intro ds hl _;cases ds with
  | nil=>exact .nil
  | cons _ _=>cases hl
 | cons v vs ih =>
  intro ds hl h;cases ds with
  | nil=>cases hl
  | cons d ds =>
   obtain⟨v',e,r⟩:=h 0 d (by simp)
   simp at e;subst e;exact .cons r (ih ds (by simpa using hl) λi d e=>by
    obtain⟨v',e',r'⟩:=h (i+1) d (by simpa using e)
    exact⟨v',by simpa using e',r'⟩)
theorem m8{F H:Hp}{vs:List V}{ds:List D}(h:iQ F H vs (ds.map B.sh)):aE F vs ds:=
 wD vs ds (by simpa using h.len) λi d e=>h.sh i d (by rw[ac0,e];rfl)
theorem zh{F H:Hp}{vs:List V}{ds:List D}(h:aE F vs ds):iQ F H vs (ds.map B.sh) where
 len:=by rw[acO];exact h.length
 sh:=λi d e=>by
  obtain⟨d',e1,e2⟩:=cT e;cases e1;exact h.get e2
 own:=λi xs e=>by obtain⟨d,e1,_⟩:=cT e;cases e1
 obj:=λi o e=>by obtain⟨d,e1,_⟩:=cT e;cases e1
 dis:=λi j xs ys a e=>by obtain⟨d,e1,_⟩:=cT e;cases e1
 pB:=λi j o p a b e=>by obtain⟨d,e1,_⟩:=cT e;cases e1
 gA:=λi j xs o a b e=>by obtain⟨d,e1,_⟩:=cT e;cases e1
theorem zr{vs:List V}{ds:List D}{c:Addr}:¬iJ vs (ds.map B.sh) c:=by
 rintro(⟨i,xs,e,_⟩|⟨i,o,a,e,_⟩)
 ·obtain⟨d,e1,_⟩:=cT e;cases e1
 ·obtain⟨d,e1,_⟩:=cT e;cases e1
theorem c9.mu{x:Str}{sp:bw}(h:c9 G k x sp):qZ G k x (eE sp):=by
 obtain⟨f,fd,ps,h1,h2,h3,h4⟩:=h;refine⟨f,fd,ps,h1.imp λvs H Q E q=>?_,h2,h3,h4⟩;obtain⟨F,bs,Qd,s,r,⟨ds,rfl,q⟩,K⟩:=q;refine⟨F,ds,_,s,m8 r,q,λv H' F' b s1 s2 s3 fr rr qq=>K v H' F' b _ s1 s2 (λc o _ e=>s3 c o e) (λc z=>absurd z zr) (zh ((m8 r).mono s1)) (lM λi o e=>?_) fr rr qq⟩;obtain⟨d,e1,_⟩:=cT e;cases e1
def Wq(sp:fo):jq:=λbs Q=>∃(xs:List D) (ds:List D),bs=.own xs::ds.map .sh/\sp xs ds λb ys=>Q b (.own ys::ds.map .sh)
theorem dg{xs:List D}{ds:List D}{i:Nat}{b:B}(h:(B.own xs::ds.map B.sh)[i]?=some b):(i=0/\b=.own xs)\/∃j d,i=j+1/\b=.sh d/\ds[j]?=some d:=by
 cases i with
 | zero=>simp at h;exact .inl ⟨rfl,h.symm⟩
 | succ j =>
  simp only[adM]at h;obtain⟨d,e1,e2⟩:=cT h;exact .inr ⟨j,d,rfl,e1,e2⟩
theorem Il{F H:Hp}{a:Addr}{us:List V}{vs:List V}{xs ds:List D}(h1:H a=some (.lst us))(h2:aE F us xs)(h3:F a=none)(h:aE F vs ds):iQ F H (.ref a::vs) (.own xs::ds.map B.sh) where
 len:=by rw[adi,adi,acO,h.length]
 sh:=λi d e=>by
  rcases dg e with⟨_,z⟩|⟨j,d',rfl,z,e2⟩
  ·cases z
  ·cases z
   obtain⟨v,e3,r⟩:=h.get e2;exact⟨v,by simpa using e3,r⟩
 own:=λi ys e=>by
  rcases dg e with⟨rfl,z⟩|⟨j,d',rfl,z,e2⟩
  ·cases z;exact⟨a,us,by simp,h1,h2,h3⟩
  ·cases z
 obj:=λi o e=>by
  rcases dg e with⟨_,z⟩|⟨j,d',rfl,z,e2⟩<;>cases z
 dis:=λi j ys zs b e1 e2 _ _=>by
  rcases dg e1 with⟨rfl,z⟩|⟨_,d',rfl,z,_⟩
  ·rcases dg e2 with⟨rfl,z⟩|⟨_,d',rfl,z,_⟩
   ·rfl
   ·cases z
  ·cases z
 pB:=λi j o p a b e=>by
  rcases dg e with⟨_,z⟩|⟨j,d',rfl,z,e2⟩<;>cases z
 gA:=λi j xs o a b _ _ e=>by
  rcases dg e with⟨_,z⟩|⟨j,d',rfl,z,e2⟩<;>cases z
theorem dN.mu{x:Str}{sp:fo}(h:dN G k x sp):qZ G k x (Wq sp):=by
 obtain⟨f,fd,ps,h1,h2,h3,h4⟩:=h;refine⟨f,fd,ps,h1.imp λvs H Q E q=>?_,h2,h3,h4⟩;obtain⟨F,bs,Qd,s,r,⟨xs,ds,rfl,q⟩,K⟩:=q;obtain⟨a,us,e1,e2,e3,e4⟩:=r.own 0 xs (by simp)
 have hl:=r.len;cases vs with
 | nil=>simp at e1
 | cons v vs =>
  simp at e1;subst e1;have rs:aE F vs ds:=wD vs ds (by simpa using hl) λi d e=>by
   obtain⟨v,q1,q2⟩:=r.sh (i+1) d (by simp only[adM,ac0,e];rfl)
   exact⟨v,by simpa using q1,q2⟩
  have ft:∀c,iJ (.ref a::vs) (B.own xs::ds.map B.sh) c ↔ c=a:=λc=>by
   constructor
   ·rintro(⟨i,ys,e,z⟩|⟨i,o,b,e,_⟩)
    ·rcases dg e with⟨rfl,_⟩|⟨_,d',rfl,z',_⟩
     ·simp at z;exact z.symm
     ·cases z'
    ·rcases dg e with⟨rfl,z'⟩|⟨_,d',rfl,z',_⟩<;>cases z'
   ·rintro rfl
    exact .inl ⟨0,xs,by simp,by simp⟩
  refine⟨F,xs,ds,a,us,vs,_,rfl,s,e2,e3,e4,rs,q,λv H' F' b ys uy s1 s2 s3 a1 a2 a3 fr rr qq=>K v H' F' b _ s1 s2 (λc o z e=>s3 c o (λy=>z ((ft c).mpr y)) e) (λc z=>by rw[(ft c).mp z,a1];exactλy=>nomatch y) (Il a1 a2 a3 (rs.mono s1)) (.own xs ys ?_) fr rr qq⟩
  exact lM λi o e=>by obtain⟨d,z,_⟩:=cT e;cases z
end Vc
namespace Vc
open PySem L2
variable [KF]
mutual
def Wr:D->Bool
 | .aQ=>true
 | .bl _=>true
 | .int _=>true
 | .str _=>true
 | .tup xs=>gT xs
 | .lst xs=>gT xs
 | _=>false
def gT:List D->Bool
 | []=>true
 | x::xs=>Wr x&&gT xs
end
mutual
theorem Rep.kW{F F':Hp}(hs:∀c u,F c=some u->F' c=some u\/dl u=true):∀ {v:V} {d:D},Rep F v d->Wr d=true->Rep F' v d
 | _,_,.aQ,_=>.aQ
 | _,_,.bl b,_=>.bl b
 | _,_,.int i,_=>.int i
 | _,_,.str x,_=>.str x
 | _,_,.tup h r,n=>.tup ((hs _ _ h).elim id λz=>by cases z) (aE.kW hs r n)
 | _,_,.lst h r,n=>.lst (by
   rcases h with h|⟨o,h⟩
   ·exact .inl ((hs _ _ h).elim id λz=>by cases z)
   ·exact .inr ⟨o,(hs _ _ h).elim id λz=>by cases z⟩) (aE.kW hs r n)
 | _,_,.jn _,n=>by cases n
 | _,_,.exc _,n=>by cases n
 | _,_,.Iz _ _,n=>by cases n
 | _,_,.dB _ _,n=>by cases n
 | _,_,.kp _ _ _,n=>by cases n
theorem aE.kW{F F':Hp}(hs:∀c u,F c=some u->F' c=some u\/dl u=true):∀ {vs:List V} {ds:List D},aE F vs ds->gT ds=true->aE F' vs ds
 | _,_,.nil,_=>.nil
 | _,_,.cons h r,n=>by
  have n:(Wr _&&gT _)=true:=n;rw[adn]at n;exact .cons (Rep.kW hs h n.1) (aE.kW hs r n.2)
end
def noB:B->Bool
 | .sh d=>Wr d
 | .own xs=>gT xs
 | .obj _=>false
def Rr:B->Bool
 | .sh _=>true
 | .own xs=>gT xs
 | .obj _=>false
inductive AV where
 | d (x:D)|n (j:Nat)|l (j:Nat)
abbrev uw:=Sd->(List AV->Sd->Prop)->Prop
inductive cP (F:Hp)(σ:St):List V->List AV->Prop where
 | nil:cP F σ [] []
 | d {v:V} {x:D} {vs:List V} {as:List AV}:Rep F v x->cP F σ vs as->cP F σ (v::vs) (.d x::as)
 | n {v:V} {j:Nat} {vs:List V} {as:List AV}:σ[j]?=some (some v)->cP F σ vs as->cP F σ (v::vs) (.n j::as)
 | l {v:V} {j:Nat} {vs:List V} {as:List AV}:σ[j]?=some (some v)->cP F σ vs as->cP F σ (v::vs) (.l j::as)
theorem cP.length{F:Hp}{σ:St}:∀ {vs:List V} {as:List AV},cP F σ vs as->vs.length=as.length
 | _,_,.nil=>rfl
 | _,_,.d _ r=>by simp [cP.length r]
 | _,_,.n _ r=>by simp [cP.length r]
 | _,_,.l _ r=>by simp [cP.length r]
theorem cP.gd{F:Hp}{σ:St}:∀ {vs:List V} {as:List AV} {i:Nat} {x:D},cP F σ vs as->as[i]?=some (.d x)->∃v,vs[i]?=some v/\Rep F v x
 | _,_,_,_,.nil,e=>by simp at e
 | _,_,0,_,.d h _,e=>by simp at e;subst e;exact⟨_,by simp,h⟩
 | _,_,0,_,.n _ _,e=>by simp at e
 | _,_,0,_,.l _ _,e=>by simp at e
 | _,_,i+1,_,.d _ r,e=>by obtain⟨v,h1,h2⟩:=cP.gd (i:=i) r (by simpa using e);exact⟨v,by simpa using h1,h2⟩
 | _,_,i+1,_,.n _ r,e=>by obtain⟨v,h1,h2⟩:=cP.gd (i:=i) r (by simpa using e);exact⟨v,by simpa using h1,h2⟩
 | _,_,i+1,_,.l _ r,e=>by obtain⟨v,h1,h2⟩:=cP.gd (i:=i) r (by simpa using e);exact⟨v,by simpa using h1,h2⟩
theorem cP.gn{F:Hp}{σ:St}{j:Nat}:∀ {vs:List V} {as:List AV} {i:Nat},cP F σ vs as->as[i]?=some (.n j)\/as[i]?=some (.l j)->∃v,vs[i]?=some v/\σ[j]?=some (some v)
 | _,_,_,.nil,e=>by simp at e
 | _,_,0,.d _ _,e=>by simp at e
 | _,_,0,.n h _,e=>by
  rcases e with e|e
  ·simp at e;subst e;exact⟨_,by simp,h⟩
  ·simp at e
 | _,_,0,.l h _,e=>by
  rcases e with e|e
  ·simp at e
  ·simp at e;subst e;exact⟨_,by simp,h⟩
 | _,_,i+1,.d _ r,e=>by obtain⟨v,h1,h2⟩:=cP.gn (i:=i) r (by simpa using e);exact⟨v,by simpa using h1,h2⟩
 | _,_,i+1,.n _ r,e=>by obtain⟨v,h1,h2⟩:=cP.gn (i:=i) r (by simpa using e);exact⟨v,by simpa using h1,h2⟩
 | _,_,i+1,.l _ r,e=>by obtain⟨v,h1,h2⟩:=cP.gn (i:=i) r (by simpa using e);exact⟨v,by simpa using h1,h2⟩
def CC(σ:Sd):AV->Option B
 | .d x=>some (.sh x)
 | .n j=>match σ[j]? with
  | some (some b)=>some b
  | _=>none
 | .l j=>match σ[j]? with
  | some (some (.obj o))=>o.view.map B.sh
  | some (some (.sh d))=>some (.sh d)
  | _=>none
def dY(σ:Sd):List AV->Option (List B)
 | []=>some []
 | a::r=>match CC σ a,dY σ r with
  | some b,some bs=>some (b::bs)
  | _,_=>none
theorem lh{σ:Sd}:∀ {as:List AV} {bs:List B},dY σ as=some bs->as.length=bs.length
 | [],_,e=>by cases e;rfl
 | a::r,bs,e=>by
  unfold dY at e
  split at e
  ·rename_i b er e1 e2
   cases e;simp [lh e2]
  ·cases e
theorem lg{σ:Sd}:∀ {as:List AV} {bs:List B} {i:Nat} {b:B},dY σ as=some bs->bs[i]?=some b->∃a,as[i]?=some a/\CC σ a=some b
 | [],_,_,_,e,q=>by cases e;simp at q
 | a::r,bs,i,b,e,q=>by
  unfold dY at e
  split at e
  ·rename_i b' er e1 e2
   cases e;cases i with
   | zero=>simp at q;subst q;exact⟨a,by simp,e1⟩
   | succ i =>
    obtain⟨a',h1,h2⟩:=lg (i:=i) e2 (by simpa using q)
    exact⟨a',by simpa using h1,h2⟩
  ·cases e
def bJ:Sd->List AV->List B->Sd
 | σ,.n j::as,b::bs=>bJ (σ.set j (some b)) as bs
 | σ,.d _::as,_::bs=>bJ σ as bs
 | σ,.l _::as,_::bs=>bJ σ as bs
 | σ,_,_=>σ
def mO:List AV->List Nat
 | []=>[]
 | .n j::as=>j::mO as
 | .d _::as=>mO as
 | .l _::as=>mO as
def zW:List AV->List Nat
 | []=>[]
 | .n _::as=>zW as
 | .d _::as=>zW as
 | .l j::as=>j::zW as
theorem dM{j:Nat}:∀ {as:List AV} {i:Nat},as[i]?=some (.n j)->j∈mO as
 | [],_,e=>by simp at e
 | .n x::as,0,e=>by simp at e;subst e;exact .head _
 | .d _::as,0,e=>by simp at e
 | .l _::as,0,e=>by simp at e
 | .n x::as,i+1,e=>.tail _ (dM (i:=i) (by simpa using e))
 | .d _::as,i+1,e=>dM (as:=as) (i:=i) (by simpa using e)
 | .l _::as,i+1,e=>dM (as:=as) (i:=i) (by simpa using e)
theorem nk{j:Nat}:∀ {as:List AV} {i:Nat},as[i]?=some (.l j)->j∈zW as
 | [],_,e=>by simp at e
 | .l x::as,0,e=>by simp at e;subst e;exact .head _
 | .d _::as,0,e=>by simp at e
 | .n _::as,0,e=>by simp at e
 | .l x::as,i+1,e=>.tail _ (nk (i:=i) (by simpa using e))
 | .d _::as,i+1,e=>nk (as:=as) (i:=i) (by simpa using e)
 | .n _::as,i+1,e=>nk (as:=as) (i:=i) (by simpa using e)
theorem jM{j:Nat}:∀ {as:List AV},j∈mO as->∃i:Nat,as[i]?=some (AV.n j)
 | [],e=>by cases e
 | .n x::as,e=>by
  rcases acV.mp e with rfl|e
  ·exact⟨0,rfl⟩
  ·obtain⟨i,h⟩:=jM e;exact⟨i+1,by simpa using h⟩
 | .d _::as,e=>by obtain⟨i,h⟩:=jM (as:=as) e;exact⟨i+1,by simpa using h⟩
 | .l _::as,e=>by obtain⟨i,h⟩:=jM (as:=as) e;exact⟨i+1,by simpa using h⟩
theorem jL{j:Nat}:∀ {as:List AV} {i i':Nat},(mO as).Nodup->as[i]?=some (.n j)->as[i']?=some (.n j)->i=i'
 | [],_,_,_,e,_=>by simp at e
 | .n x::as,0,0,_,_,_=>rfl
 | .n x::as,0,i'+1,nd,e,e'=>by
  simp at e;subst e;exact absurd (dM (as:=as) (i:=i') (by simpa using e')) (adV.mp nd).1
 | .n x::as,i+1,0,nd,e,e'=>by
  simp at e';subst e';exact absurd (dM (as:=as) (i:=i) (by simpa using e)) (adV.mp nd).1
 | .n x::as,i+1,i'+1,nd,e,e'=>congrArg (·+1) (jL (as:=as) (i:=i) (i':=i') (adV.mp nd).2 (by simpa using e) (by simpa using e'))
 | .d _::as,0,_,_,e,_=>by simp at e
 | .d _::as,_+1,0,_,_,e=>by simp at e
 | .d _::as,i+1,i'+1,nd,e,e'=>congrArg (·+1) (jL (as:=as) (i:=i) (i':=i') nd (by simpa using e) (by simpa using e'))
 | .l _::as,0,_,_,e,_=>by simp at e
 | .l _::as,_+1,0,_,_,e=>by simp at e
 | .l _::as,i+1,i'+1,nd,e,e'=>congrArg (·+1) (jL (as:=as) (i:=i) (i':=i') nd (by simpa using e) (by simpa using e'))
theorem f9:∀(σ:Sd) (as:List AV) (bs:List B),(bJ σ as bs).length=σ.length
 | σ,[],_=>by unfold bJ;rfl
 | σ,.n j::as,[]=>by unfold bJ;rfl
 | σ,.d _::as,[]=>by unfold bJ;rfl
 | σ,.l _::as,[]=>by unfold bJ;rfl
 | σ,.n j::as,b::bs=>by
  show(bJ (σ.set j (some b)) as bs).length=_;rw[f9];simp
 | σ,.d _::as,b::bs=>f9 σ as bs
 | σ,.l _::as,b::bs=>f9 σ as bs
theorem dG{m:Nat}:∀(σ:Sd) (as:List AV) (bs:List B),m∉mO as->(bJ σ as bs)[m]?=σ[m]?
 | σ,[],_,_=>by unfold bJ;rfl
 | σ,.n j::as,[],_=>by unfold bJ;rfl
 | σ,.d _::as,[],_=>by unfold bJ;rfl
 | σ,.l _::as,[],_=>by unfold bJ;rfl
 | σ,.n j::as,b::bs,h=>by
  have h:m≠j/\m∉mO as:=by simpa [mO]using h
  show(bJ (σ.set j (some b)) as bs)[m]?=_;rw[dG _ as bs h.2,aed (aec h.1)]
 | σ,.d _::as,b::bs,h=>dG σ as bs h
 | σ,.l _::as,b::bs,h=>dG σ as bs h
theorem fJ{m:Nat}{b:B}:∀(σ:Sd) (as:List AV) (bs:List B) (i:Nat),(mO as).Nodup->as[i]?=some (.n m)->bs[i]?=some b->m<σ.length->(bJ σ as bs)[m]?=some (some b)
 | σ,[],_,i,_,e,_,_=>by simp at e
 | σ,_::_,[],i,_,_,e,_=>by simp at e
 | σ,.n j::as,c::bs,0,nd,e,e',hl=>by
  simp at e e';subst e e';show(bJ (σ.set j (some c)) as bs)[j]?=_;rw[dG _ as bs (adV.mp nd).1,adP hl]
 | σ,.n j::as,c::bs,i+1,nd,e,e',hl=>fJ (σ.set j (some c)) as bs i (adV.mp nd).2 (by simpa using e) (by simpa using e') (by simpa using hl)
 | σ,.d _::as,c::bs,0,_,e,_,_=>by simp at e
 | σ,.d _::as,c::bs,i+1,nd,e,e',hl=>fJ σ as bs i nd (by simpa using e) (by simpa using e') hl
 | σ,.l _::as,c::bs,0,_,e,_,_=>by simp at e
 | σ,.l _::as,c::bs,i+1,nd,e,e',hl=>fJ σ as bs i nd (by simpa using e) (by simpa using e') hl
def lAv(Y:bz)(t:uw):TA:=λσ H Q=>∃F ai Qd,RS Y F ai σ H/\t ai Qd/\∀vs H' F' as aC,aq F F'->RS Y F' aC σ H'->cP F' σ vs as->Qd as aC->Q vs H'
structure HB(G:GE)(k:Nat)(S:Stat)(es:List Expr)(t:uw):Prop where
 run:∀X Y,dA X G k S Y->PA X es (lAv Y t)
variable {G:GE}{k:Nat}{S:Stat}
def iG:uw:=λσ Q=>Q [] σ
def pC(t:TD)(u:uw):uw:=λσ Q=>t σ λx aw=>u aw λas aM=>Q (.d x::as) aM
def HY(j:Nat)(u:uw):uw:=λσ Q=>(∃b,σ[j]?=some (some b))/\u σ λas aM=>Q (.n j::as) aM
def BV(j:Nat)(u:uw):uw:=λσ Q=>(∃b,σ[j]?=some (some b))/\u σ λas aM=>Q (.l j::as) aM
theorem RS.bound{Y:bz}{F:Hp}{ai:Sd}{σ:St}{H:Hp}(R:RS Y F ai σ H){j:Nat}{b:B}(e:ai[j]?=some (some b)):∃v,σ[j]?=some (some v):=by
 cases b with
 | sh d=>obtain⟨v,h,_⟩:=R.sh j d e;exact⟨v,h⟩
 | own xs=>obtain⟨a,_,h,_⟩:=R.own j xs e;exact⟨_,h⟩
 | obj o=>obtain⟨a,h,_⟩:=R.ob.obj j o e;exact⟨_,h⟩
theorem cJ:HB G k S [] iG:=⟨λX Y ok=>gW dW λσ H Q q=>by
 obtain⟨F,ai,Qd,R,q,K⟩:=q;exact K [] H F [] ai (aq.refl _) R .nil q⟩
theorem fv{e:Expr}{es:List Expr}{t:TD}{u:uw}(h:ED G k S e t)(hs:HB G k S es u)(he:∀env,acW (e::es) env=(false,eval e env)::acW es env:=by exactλ_=>Vc.cN rfl):HB G k S (e::es) (pC t u):=⟨λX Y ok =>
 gW (b5 (h X Y ok) (hs.run X Y ok) (he _)) λσ H Q q=>by
  obtain⟨F,ai,Qd,R,q,K⟩:=q;refine⟨F,ai,_,R,q,λv1 H1 F1 x aw s1 R1 r1 q1=>?_⟩;refine⟨F1,aw,_,R1,q1,λvs H2 F2 as aM s2 R2 r2 q2=>?_⟩;exact K _ H2 F2 _ aM (s1.trans s2) R2 (.d (r1.mono s2) r2) q2⟩
section
variable {x:Str}{es:List Expr}{u:uw}{pos:Pos}
theorem uF(j:Nat)(hs:HB G k S es u)(hN:S.N[j]?=some x:=by rfl)(hv:S.sc.lookup x=some .local\/S.sc.lookup x=some .cell\/S.sc.lookup x=some .free:=by first|exact Or.inl rfl|exact Or.inr (Or.inl rfl)|exact Or.inr (Or.inr rfl))
  (hd:(x==("__debug__":Str))=false:=by decide) (ly:(x==("__classdict__":Str))=false:=by decide) (he:∀env,acW (.Name x pos::es) env=(false,eval (.Name x pos) env)::acW es env:=by exactλ_=>Vc.cN rfl):HB G k S (.Name x pos::es) (HY j u):=⟨λX Y ok =>
 gW (b5 (gY (X:=X) (i:=j) (by rw[ok.N];exact hN) (by unfold HF;rw[ok.sc];exact hv) hd ly) (hs.run X Y ok) (he _)) λσ H Q q=>by
  obtain⟨F,ai,Qd,R,⟨⟨b,e⟩,q⟩,K⟩:=q;obtain⟨v,ev⟩:=R.bound e;refine⟨v,ev,F,ai,_,R,q,λvs H2 F2 as aM s2 R2 r2 q2=>?_⟩;exact K _ H2 F2 _ aM s2 R2 (.n ev r2) q2⟩
theorem pE(j:Nat)(hs:HB G k S es u)(hN:S.N[j]?=some x:=by rfl)(hv:S.sc.lookup x=some .local\/S.sc.lookup x=some .cell\/S.sc.lookup x=some .free:=by first|exact Or.inl rfl|exact Or.inr (Or.inl rfl)|exact Or.inr (Or.inr rfl))
  (hd:(x==("__debug__":Str))=false:=by decide) (ly:(x==("__classdict__":Str))=false:=by decide) (he:∀env,acW (.Name x pos::es) env=(false,eval (.Name x pos) env)::acW es env:=by exactλ_=>Vc.cN rfl):HB G k S (.Name x pos::es) (BV j u):=⟨λX Y ok =>
 gW (b5 (gY (X:=X) (i:=j) (by rw[ok.N];exact hN) (by unfold HF;rw[ok.sc];exact hv) hd ly) (hs.run X Y ok) (he _)) λσ H Q q=>by
  obtain⟨F,ai,Qd,R,⟨⟨b,e⟩,q⟩,K⟩:=q;obtain⟨v,ev⟩:=R.bound e;refine⟨v,ev,F,ai,_,R,q,λvs H2 F2 as aM s2 R2 r2 q2=>?_⟩;exact K _ H2 F2 _ aM s2 R2 (.l ev r2) q2⟩
end
def BX(ai:Sd)(σ:St)(js:List Nat)(c:Addr):Prop:=∃j∈js,∃(o:O) (a:Addr),ai[j]?=some (some (.obj o))/\σ[j]?=some (some (.ref a))/\c∈o.fp a
theorem vT{Y:bz}{F:Hp}{ai:Sd}{σ:St}{H:Hp}(R:RS Y F ai σ H):∀js:List Nat,∃F2,aq F F2/\aq F2 H/\(∀j∈js,∀(o:O) (d:D) (a:Addr),ai[j]?=some (some (.obj o))->o.view=some d->σ[j]?=some (some (.ref a))->Rep F2 (.ref a) d) /\
  (∀c u,F2 c=some u->F c=some u\/(dl u=true/\BX ai σ js c))/\(js=[]->F2=F)
 | []=>⟨F,aq.refl _,R.fr,(λj hj=>by cases hj),(λc u z=>.inl z),λ_=>rfl⟩
 | j::js=>by
  obtain⟨F2,s1,s2,h1,h2,_⟩:=vT R js
  by_cases hq:∃o d,ai[j]?=some (some (.obj o))/\o.view=some d
  ·obtain⟨o,d,e1,e2⟩:=hq
   obtain⟨a,w1,w2,w3⟩:=R.ob.obj j o e1;have w2':o.rep F2 H a:=o.mono s1 (λ_ _=>rfl) w2;obtain⟨F3,s3,s4,r3,h3⟩:=o.lend s2 w2' e2;refine⟨F3,s1.trans s3,s4,λi hi o' d' a' f1 f2 f3=>?_,λc u z=>?_,λz=>nomatch z⟩
   ·rcases acV.mp hi with rfl|hi
    ·rw[e1]at f1;cases f1
     rw[e2]at f2;cases f2;rw[w1]at f3;cases f3;exact r3
    ·exact(h1 i hi o' d' a' f1 f2 f3).mono s3
   ·rcases h3 c u z with z|⟨z1,z2⟩
    ·rcases h2 c u z with z|⟨z1,i,hi,z2⟩
     ·exact .inl z
     ·exact .inr ⟨z1,i,.tail _ hi,z2⟩
    ·exact .inr ⟨z1,j,.head _,o,a,e1,w1,z2⟩
  ·refine⟨F2,s1,s2,λi hi o' d' a' f1 f2 f3=>?_,λc u z=>?_,λz=>nomatch z⟩
   ·rcases acV.mp hi with rfl|hi
    ·exact absurd ⟨o',d',f1,f2⟩ hq
    ·exact h1 i hi o' d' a' f1 f2 f3
   ·rcases h2 c u z with z|⟨z1,i,hi,z2⟩
    ·exact .inl z
    ·exact .inr ⟨z1,i,.tail _ hi,z2⟩
theorem CD{σ:Sd}{j:Nat}{b:B}(h:CC σ (.n j)=some b):σ[j]?=some (some b):=by
 have h:(match σ[j]? with|some (some b)=>some b|_=>none)=some b:=h
 split at h
 ·rename_i b' e;cases h;exact e
 ·cases h
theorem Ny{σ:Sd}{j:Nat}{b:B}(h:CC σ (.l j)=some b):∃d,b=.sh d/\(σ[j]?=some (some (.sh d))\/∃o,σ[j]?=some (some (.obj o))/\o.view=some d):=by
 have h:(match σ[j]? with|some (some (.obj o))=>o.view.map B.sh|some (some (.sh d))=>some (.sh d)|_=>none)=some b:=h
 split at h
 ·rename_i o e
  obtain⟨d,h1,h2⟩:=Option.map_eq_some_iff.mp h;exact⟨d,h2.symm,.inr ⟨o,e,h1⟩⟩
 ·rename_i d e;cases h;exact⟨d,rfl,.inl e⟩
 ·cases h
theorem xH{Y:bz}{F:Hp}{ai:Sd}{σ:St}{H:Hp}(R:RS Y F ai σ H){vs:List V}{as:List AV}{bs:List B}(ra:cP F σ vs as)(ea:dY ai as=some bs){i:Nat}{b:B}(e:bs[i]?=some b):
  (∃d v,b=.sh d/\vs[i]?=some v/\(Rep F v d\/∃(j:Nat) (o:O) (a:Addr),as[i]?=some (.l j)/\v=.ref a/\ai[j]?=some (some (.obj o))/\σ[j]?=some (some (.ref a))/\o.view=some d)) \/
  ∃(j:Nat) (v:V),as[i]?=some (.n j)/\ai[j]?=some (some b)/\vs[i]?=some v/\σ[j]?=some (some v):=by
 obtain⟨a,h1,h2⟩:=lg ea e;cases a with
 | d x =>
  cases h2;obtain⟨v,g1,g2⟩:=ra.gd h1;exact .inl ⟨x,v,rfl,g1,.inl g2⟩
 | n j =>
  obtain⟨v,g1,g2⟩:=ra.gn (.inl h1);exact .inr ⟨j,v,h1,CD h2,g1,g2⟩
 | l j =>
  obtain⟨d,rfl,h3⟩:=Ny h2;obtain⟨v,g1,g2⟩:=ra.gn (.inr h1);refine .inl ⟨d,v,rfl,g1,?_⟩;rcases h3 with h3|⟨o,h3,h4⟩
  ·obtain⟨v',f1,f2⟩:=R.sh j d h3
   rw[g2]at f1;cases f1;exact .inl f2
  ·obtain⟨a,f1,_⟩:=R.ob.obj j o h3
   rw[g2]at f1;cases f1;exact .inr ⟨j,o,a,h1,rfl,h3,g2,h4⟩
theorem Im{Y:bz}{F F2:Hp}{ai:Sd}{σ:St}{H:Hp}(R:RS Y F ai σ H){vs:List V}{as:List AV}{bs:List B}(ra:cP F σ vs as)(ea:dY ai as=some bs)(nd:(mO as).Nodup)(hl:∀j∈zW as,j∉mO as)
  (s1:aq F F2) (h1:∀j∈zW as,∀(o:O) (d:D) (a:Addr),ai[j]?=some (some (.obj o))->o.view=some d->σ[j]?=some (some (.ref a))->Rep F2 (.ref a) d) (h2:∀c u,F2 c=some u->F c=some u\/(dl u=true/\BX ai σ (zW as) c)):iQ F2 H vs bs:=by
 have wo:∀ {i:Nat} {b:B},bs[i]?=some b->(∀d,b≠.sh d)->∃j v,as[i]?=some (.n j)/\ai[j]?=some (some b)/\vs[i]?=some v/\σ[j]?=some (some v):=λe n=>by
  rcases xH R ra ea e with⟨d,v,z,_⟩|z
  ·exact absurd z (n d)
  ·exact z
 have free:∀ {j:Nat} {c:Addr},j∉zW as->F c=none->(∀i∈zW as,∀(o:O) (a:Addr),ai[i]?=some (some (.obj o))->σ[i]?=some (some (.ref a))->c∉o.fp a)->F2 c=none:=λ{j c} _ e n=>by
  cases q:F2 c with
  | none=>rfl
  | some u =>
   rcases h2 c u q with z|⟨_,i,hi,o,a,f1,f2,f3⟩
   ·rw[e]at z;cases z
   ·exact absurd f3 (n i hi o a f1 f2)
 refine⟨ra.length.trans (lh ea),λi d e=>?_,λi xs e=>?_,λi o e=>?_,λi j xs ys a e1 e2 e3 e4=>?_,λi j o p a b e1 e2 e3 e4 lA=>?_,λi j xs o a b e1 e2 e3 e4=>?_⟩
 ·rcases xH R ra ea e with⟨d',v,z,g1,g2⟩|⟨j,v,g1,g2,g3,g4⟩
  ·cases z
   refine⟨v,g1,?_⟩;rcases g2 with g2|⟨j,o,a,f1,rfl,f3,f4,f5⟩
   ·exact g2.mono s1
   ·exact h1 j (nk f1) o d a f3 f5 f4
  ·obtain⟨v',f1,f2⟩:=R.sh j d g2
   rw[g4]at f1;cases f1;exact⟨v,g3,f2.mono s1⟩
 ·obtain⟨j,v,g1,g2,g3,g4⟩:=wo e (λd z=>nomatch z)
  obtain⟨a,us,f1,f2,f3,f4,f5⟩:=R.own j xs g2;rw[g4]at f1;cases f1;refine⟨a,us,g3,f2,f3.mono s1,free (j:=j) (λz=>hl j z (dM g1)) f4 λi hi o b q1 q2 q3=>R.ob.gA j xs a g2 g4 ⟨i,o,b,q1,q2,q3⟩⟩
 ·obtain⟨j,v,g1,g2,g3,g4⟩:=wo e (λd z=>nomatch z)
  obtain⟨a,f1,f2,f3⟩:=R.ob.obj j o g2;rw[g4]at f1;cases f1;refine⟨a,g3,o.mono s1 (λ_ _=>rfl) f2,λc hc=>⟨free (j:=j) (λz=>hl j z (dM g1)) (f3 c hc).1 λi hi p b q1 q2 q3=>?_,(f3 c hc).2.1⟩⟩;exact R.ob.pB j i o p a b g2 q1 g4 q2 (λz=>hl i hi (z ▸ dM g1)) c hc q3
 ·obtain⟨m,v,g1,g2,g3,g4⟩:=wo e1 (λd z=>nomatch z)
  obtain⟨n,w,y1,y2,y3,y4⟩:=wo e2 (λd z=>nomatch z);rw[e3]at g3;cases g3;rw[e4]at y3;cases y3;have:=R.dis m n xs ys a g2 y2 g4 y4;subst this;exact jL nd g1 y1
 ·obtain⟨m,v,g1,g2,g3,g4⟩:=wo e1 (λd z=>nomatch z)
  obtain⟨n,w,y1,y2,y3,y4⟩:=wo e2 (λd z=>nomatch z);rw[e3]at g3;cases g3;rw[e4]at y3;cases y3;exact R.ob.pB m n o p a b g2 y2 g4 y4 λz=>lA (jL nd g1 (z ▸ y1))
 ·obtain⟨m,v,g1,g2,g3,g4⟩:=wo e1 (λd z=>nomatch z)
  obtain⟨n,w,y1,y2,y3,y4⟩:=wo e3 (λd z=>nomatch z);rw[e2]at g3;cases g3;rw[e4]at y3;cases y3;exactλz=>R.ob.gA m xs b g2 g4 ⟨n,o,a,y2,y4,z⟩
end Vc
namespace Vc
open PySem L2
variable [KF]
section
variable {Y:bz}{F:Hp}{ai:Sd}{σ:St}{H:Hp}{vs:List V}{as:List AV}{bs er:List B}
theorem rq(R:RS Y F ai σ H)(ra:cP F σ vs as)(ea:dY ai as=some bs){i:Nat}{b:B}(e:bs[i]?=some b)(n:∀d,b≠.sh d):∃j v,as[i]?=some (.n j)/\ai[j]?=some (some b)/\vs[i]?=some v/\σ[j]?=some (some v):=by
 rcases xH R ra ea e with⟨d,v,z,_⟩|z
 ·exact absurd z (n d)
 ·exact z
theorem zg(ra:cP F σ vs as)(ea:dY ai as=some bs){i m:Nat}(e:as[i]?=some (.n m)):∃b v,bs[i]?=some b/\ai[m]?=some (some b)/\vs[i]?=some v/\σ[m]?=some (some v):=by
 have hi:i<bs.length:=by rw[<- lh ea];exact(acR.mp e).1
 have hb:bs[i]?=some bs[i]:=acN hi;obtain⟨a,h1,h2⟩:=lg ea hb;rw[e]at h1;cases h1;obtain⟨v,g1,g2⟩:=ra.gn (.inl e);exact⟨_,v,hb,CD h2,g1,g2⟩
theorem rB(ra:cP F σ vs as)(ea:dY ai as=some bs)(nd:(mO as).Nodup)(lk:dk bs er){m:Nat}{b:B}(e:(bJ ai as er)[m]?=some (some b)):(m∉mO as/\ai[m]?=some (some b))\/∃i:Nat,as[i]?=some (AV.n m)/\er[i]?=some b:=by
 by_cases hm:m∈mO as
 ·obtain⟨i,hi⟩:=jM hm
  obtain⟨c,v,g1,g2,_⟩:=zg ra ea hi;have hl:i<er.length:=by rw[<- lk.len];exact(acR.mp g1).1
  have hb:er[i]?=some er[i]:=acN hl;have:=fJ ai as er i nd hi hb (acR.mp g2).1;rw[this]at e;cases e;exact .inr ⟨i,hi,hb⟩
 ·rw[dG _ _ _ hm]at e
  exact .inl ⟨hm,e⟩
theorem uG(R:RS Y F ai σ H)(ra:cP F σ vs as)(ea:dY ai as=some bs)(nd:(mO as).Nodup)(lk:dk bs er){m:Nat}{p:O}(e:(bJ ai as er)[m]?=some (some (.obj p))):∃o,ai[m]?=some (some (.obj o))/\p.fp=o.fp:=by
 rcases rB ra ea nd lk e with⟨_,e⟩|⟨i,h1,h2⟩
 ·exact⟨p,e,rfl⟩
 ·obtain⟨o,h3,h4,_⟩:=lk.Bk h2
  obtain⟨j,v,g1,g2,_⟩:=rq R ra ea h3 (λd z=>nomatch z);rw[h1]at g1;cases g1;exact⟨o,g2,h4⟩
theorem uH(R:RS Y F ai σ H)(ra:cP F σ vs as)(ea:dY ai as=some bs)(nd:(mO as).Nodup)(lk:dk bs er){m:Nat}{ys:List D}(e:(bJ ai as er)[m]?=some (some (.own ys))):∃xs,ai[m]?=some (some (.own xs)):=by
 rcases rB ra ea nd lk e with⟨_,e⟩|⟨i,h1,h2⟩
 ·exact⟨ys,e⟩
 ·obtain⟨xs,h3⟩:=lk.Bu h2
  obtain⟨j,v,g1,g2,_⟩:=rq R ra ea h3 (λd z=>nomatch z);rw[h1]at g1;cases g1;exact⟨xs,g2⟩
theorem zj(R:RS Y F ai σ H)(ra:cP F σ vs as)(ea:dY ai as=some bs)(nd:(mO as).Nodup)(lk:dk bs er){a:Addr}(h:H a=none):dc (bJ ai as er) σ a:=by
 refine⟨λj ys e z=>?_,λ⟨j,p,c,e1,e2,hm⟩=>?_⟩
 ·obtain⟨xs,e'⟩:=uH R ra ea nd lk e
  obtain⟨c,us,f1,f2,_⟩:=R.own j xs e';rw[z]at f1;cases f1;rw[f2]at h;cases h
 ·obtain⟨o,f1,f2⟩:=uG R ra ea nd lk e1
  obtain⟨c',g1,_,g3⟩:=R.ob.obj j o f1;rw[e2]at g1;cases g1;exact(g3 a (by rw[<- f2];exact hm)).2.1 h
end
theorem RS.Nz{Y:bz}{F F':Hp}{ai:Sd}{σ:St}{H H':Hp}(R:RS Y F ai σ H){vs:List V}{as:List AV}{bs er:List B}(ra:cP F σ vs as)(ea:dY ai as=some bs)(nd:(mO as).Nodup)(lk:dk bs er)
  (s1:aq F F') (s2:aq F' H') (fm:∀c o,¬iJ vs bs c->H c=some o->H' c=some o) (fn:∀c,iJ vs bs c->H' c≠none) (fr:∀c o,F' c=some o->F c=some o\/Nw H c o)
  (ow:∀(i:Nat) (xs:List D),er[i]?=some (.own xs)->∃a us,vs[i]?=some (.ref a)/\H' a=some (.lst us)/\aE F' us xs/\F' a=none)
  (oj:∀(i:Nat) (o:O),er[i]?=some (.obj o)->∃a,vs[i]?=some (.ref a)/\o.rep F' H' a/\∀c∈o.fp a,F' c=none/\H' c≠none):RS Y F' (bJ ai as er) σ H':=by
 have wo:∀ {i:Nat} {b:B},bs[i]?=some b->(∀d,b≠.sh d)->∃j v,as[i]?=some (.n j)/\ai[j]?=some (some b)/\vs[i]?=some v/\σ[j]?=some (some v):=λe n=>rq R ra ea e n;have inn:∀ {i m:Nat},as[i]?=some (.n m)->∃b v,bs[i]?=some b/\ai[m]?=some (some b)/\vs[i]?=some v/\σ[m]?=some (some v):=λe=>zg ra ea e;have st:∀ {m:Nat} {b:B},(bJ ai as er)[m]?=some (some b)->(m∉mO as/\ai[m]?=some (some b))\/∃i:Nat,as[i]?=some (AV.n m)/\er[i]?=some b:=λe=>rB ra ea nd lk e;have stO:∀ {m:Nat} {p:O},(bJ ai as er)[m]?=some (some (.obj p))->∃o,ai[m]?=some (some (.obj o))/\p.fp=o.fp:=λe=>uG R ra ea nd lk e;have stX:∀ {m:Nat} {ys:List D},(bJ ai as er)[m]?=some (some (.own ys))->∃xs,ai[m]?=some (some (.own xs)):=λe=>uH R ra ea nd lk e
 -- what is no argument is not touched
 have nfx:∀ {m:Nat} {xs:List D} {a:Addr},m∉mO as->ai[m]?=some (some (.own xs))->σ[m]?=some (some (.ref a))->¬iJ vs bs a:=λ{m xs a} hm e1 e2 z=>by
  rcases z with⟨i,ys,z1,z2⟩|⟨i,o,b,z1,z2,z3⟩
  ·obtain⟨j,v,g1,g2,g3,g4⟩:=wo z1 (λd z=>nomatch z)
   rw[z2]at g3;cases g3;have:=R.dis m j xs ys a e1 g2 e2 g4;exact hm (this ▸ dM g1)
  ·obtain⟨j,v,g1,g2,g3,g4⟩:=wo z1 (λd z=>nomatch z)
   rw[z2]at g3;cases g3;exact R.ob.gA m xs a e1 e2 ⟨j,o,b,g2,g4,z3⟩
 have nfo:∀ {m:Nat} {o:O} {a c:Addr},m∉mO as->ai[m]?=some (some (.obj o))->σ[m]?=some (some (.ref a))->c∈o.fp a->¬iJ vs bs c:=λ{m o a c} hm e1 e2 hc z=>by
  rcases z with⟨i,ys,z1,z2⟩|⟨i,p,b,z1,z2,z3⟩
  ·obtain⟨j,v,g1,g2,g3,g4⟩:=wo z1 (λd z=>nomatch z)
   rw[z2]at g3;cases g3;exact R.ob.gA j ys c g2 g4 ⟨m,o,a,e1,e2,hc⟩
  ·obtain⟨j,v,g1,g2,g3,g4⟩:=wo z1 (λd z=>nomatch z)
   rw[z2]at g3;cases g3;exact R.ob.pB m j o p a b e1 g2 e2 g4 (λy=>hm (y ▸ dM g1)) c hc z3
 have up:∀ {c:Addr},H c≠none->H' c≠none:=λ{c} h=>by
  by_cases hf:iJ vs bs c
  ·exact fn c hf
  ·cases q:H c with
   | none=>exact absurd q h
   | some o=>rw[fm c o hf q];exactλz=>nomatch z
 have kp:∀ {c:Addr},¬iJ vs bs c->H c≠none->H' c=H c:=λ{c} hf h=>by
  cases q:H c with
  | none=>exact absurd q h
  | some o=>exact fm c o hf q
 have fz:∀ {c:Addr},¬iJ vs bs c->F c=none->H c≠none->(∀us,H c≠some (.tup us))->F' c=none:=λ{c} hf h1 h2 h3=>by
  cases q:F' c with
  | none=>rfl
  | some o =>
   rcases fr c o q with w|w|⟨us,rfl⟩
   ·rw[h1]at w;cases w
   ·exact absurd w h2
   ·have:=s2 c _ q
    rw[kp hf h2]at this;exact absurd this (h3 us)
 have ach:∀ {c:Addr},iJ vs bs c->Y.H0 c=none\/c∈Y.zM:=λ{c} z=>by
  rcases z with⟨i,ys,z1,z2⟩|⟨i,p,b,z1,z2,z3⟩
  ·obtain⟨j,v,g1,g2,g3,g4⟩:=wo z1 (λd z=>nomatch z)
   rw[z2]at g3;cases g3;obtain⟨a,us,f1,_,_,_,f5⟩:=R.own j ys g2;rw[g4]at f1;cases f1;exact f5.imp id λy=>ad2 _ y
  ·obtain⟨j,v,g1,g2,g3,g4⟩:=wo z1 (λd z=>nomatch z)
   rw[z2]at g3;cases g3;obtain⟨a,f1,_,f3⟩:=R.ob.obj j p g2;rw[g4]at f1;cases f1;exact(f3 c z3).2.2.imp id λy=>adg _ y
 refine⟨by rw[f9];exact R.len,R.lo.trans s1,s2,λb o q=>?_,λb o q n=>?_,λm d e=>?_,λm ys e=>?_,λm n ys zs a e1 e2 e3 e4=>?_,λp hp=>?_,⟨λm p e=>?_,λm n p q a b e1 e2 e3 e4 cz c hc HJ=>?_,λn ys b e1 e2 ⟨m,p,a,e3,e4,hm⟩=>?_,λb hb=>up (R.ob.there b hb),R.ob.MB,R.ob.tab.mono s1⟩⟩
 ·rcases fr b o q with h|h
  ·exact R.e9 b o h
  ·exact .inr (h.imp (λh=>(R.b6 h).1) id)
 ·refine fm b o (λz=>?_) (R.old b o q n)
  rcases ach z with y|y
  ·rw[q]at y;cases y
  ·exact n y
 ·have e0:ai[m]?=some (some (.sh d)):=by
   rcases st e with⟨_,e⟩|⟨i,h1,h2⟩
   ·exact e
   ·obtain⟨b,v,g1,g2,_⟩:=inn h1
    rw[lk.shr h2]at g1;cases g1;exact g2
  obtain⟨v,h1,h2⟩:=R.sh m d e0;exact⟨v,h1,h2.mono s1⟩
 ·rcases st e with⟨hm,e⟩|⟨i,h1,h2⟩
  ·obtain⟨a,us,g1,g2,g3,g4,g5⟩:=R.own m ys e
   have nf:=nfx hm e g1;exact⟨a,us,g1,fm a _ nf g2,g3.mono s1,fz nf g4 (by rw[g2];exactλz=>nomatch z) (λus z=>by rw[g2]at z;cases z),g5⟩
  ·obtain⟨a,us,g1,g2,g3,g4⟩:=ow i ys h2
   obtain⟨xs,h3⟩:=lk.Bu h2;obtain⟨j,v,f1,f2,f3,f4⟩:=wo h3 (λd z=>nomatch z);rw[h1]at f1;cases f1;rw[g1]at f3;cases f3;obtain⟨a',uy,k1,_,_,_,k5⟩:=R.own m xs f2;rw[f4]at k1;cases k1;exact⟨a,us,f4,g2,g3,g4,k5⟩
 ·obtain⟨xs,h1⟩:=stX e1
  obtain⟨xs',h2⟩:=stX e2;exact R.dis m n xs xs' a h1 h2 e3 e4
 ·obtain⟨h1,xs,h2⟩:=R.io p hp
  refine⟨h1,?_⟩
  by_cases hm:p.1∈mO as
  ·obtain⟨i,hi⟩:=jM hm
   obtain⟨b,v,g1,g2,_⟩:=inn hi;rw[h2]at g2;cases g2;obtain⟨ys,h3⟩:=lk.Z6 g1;exact⟨ys,fJ ai as er i nd hi h3 (acR.mp h2).1⟩
  ·exact⟨xs,by rw[dG _ _ _ hm];exact h2⟩
 ·rcases st e with⟨hm,e⟩|⟨i,h1,h2⟩
  ·obtain⟨a,g1,g2,g3⟩:=R.ob.obj m p e
   have nf:∀c∈p.fp a,¬iJ vs bs c:=λc hc=>nfo hm e g1 hc;refine⟨a,g1,p.mono s1 (λc hc=>kp (nf c hc) (g3 c hc).2.1) g2,λc hc=>⟨fz (nf c hc) (g3 c hc).1 (g3 c hc).2.1 (λus z=>p.nt g2 hc z),up (g3 c hc).2.1,(g3 c hc).2.2⟩⟩
  ·obtain⟨a,g1,g2,g3⟩:=oj i p h2
   obtain⟨o,h3,h4,_⟩:=lk.Bk h2;obtain⟨j,v,f1,f2,f3,f4⟩:=wo h3 (λd z=>nomatch z);rw[h1]at f1;cases f1;rw[g1]at f3;cases f3;obtain⟨a',k1,_,k3⟩:=R.ob.obj m o f2;rw[f4]at k1;cases k1;exact⟨a,f4,g2,λc hc=>⟨(g3 c hc).1,(g3 c hc).2,(k3 c (by rw[<- h4];exact hc)).2.2⟩⟩
 ·obtain⟨o,f1,f2⟩:=stO e1
  obtain⟨o',f3,f4⟩:=stO e2;exact R.ob.pB m n o o' a b f1 f3 e3 e4 cz c (by rw[<- f2];exact hc) (by rw[<- f4];exact HJ)
 ·obtain⟨xs,h1⟩:=stX e1
  obtain⟨o,f1,f2⟩:=stO e3;exact R.ob.gA n xs b h1 e2 ⟨m,o,a,f1,e4,by rw[<- f2];exact hm⟩
variable {G:GE}{k:Nat}{S:Stat}
def CM(sp:jq)(bs:List B)(Q:B->List B->Prop):Prop:=sp bs Q
def my(sp:jq)(as:List AV)(σ:Sd)(Q:EV->Sd->Prop):Prop:=match dY σ as with
 | some bs=>(mO as).Nodup/\(∀j∈zW as,j∉mO as)/\CM sp bs λb er=>(zW as=[]\/(noB b=true/\er.all Rr=true))/\Q (bE b) (bJ σ as er)
 | none=>False
theorem gM{Y:bz}{F:Hp}{ai:Sd}{σ:St}{H:Hp}{sp:jq}{as:List AV}{vs:List V}{Qd:EV->Sd->Prop}{Q:VK}{E:XK}(R:RS Y F ai σ H)(ra:cP F σ vs as)(q:my sp as ai Qd)
  (K:∀v H' F' x aC,aq F F'->RS Y F' aC σ H'->Ih Y F' H' aC σ v x->Qd x aC->Q v H'):cZ sp vs H Q E:=by
 unfold my at q
 split at q
 ·rename_i bs ea
  obtain⟨nd,hl,q⟩:=q;obtain⟨F2,s1,s2,h1,h2,h3⟩:=vT R (zW as);have ar:=Im R ra ea nd hl s1 h1 h2;refine⟨F2,bs,_,⟨s2,R.ob.tab.mono s1⟩,ar,q,λv H' F' b er t1 t2 fm fn ar' lk fr rr qq=>?_⟩;obtain⟨hn,qq⟩:=qq
  -- what was lent is given back
  obtain⟨F3,e3⟩:∃F3:Hp,F3=λc=>@ite _ (F c=none/\F2 c≠none) (Classical.propDecidable _) none (F' c):=⟨_,rfl⟩;have Xg:∀c,(F3 c=none/\F c=none/\F2 c≠none)\/F3 c=F' c:=λc=>by
   by_cases z:F c=none/\F2 c≠none
   ·exact .inl ⟨by rw[e3];exact if_pos z,z⟩
   ·exact .inr (by rw[e3];exact if_neg z)
  have u1:aq F F3:=λc u z=>by
   rcases Xg c with⟨_,y,_⟩|y
   ·rw[z]at y;cases y
   ·rw[y];exact t1 c u (s1 c u z)
  have u2:∀c u,F3 c=some u->F' c=some u:=λc u z=>by
   rcases Xg c with⟨y,_⟩|y
   ·rw[z]at y;cases y
   ·rw[<- y];exact z
  have u3:aq F3 H':=λc u z=>t2 c u (u2 c u z);have u4:∀c o,F3 c=some o->F c=some o\/Nw H c o:=λc o z=>by
   rcases fr c o (u2 c o z)with y|y
   ·rcases Xg c with⟨y1,_⟩|y1
    ·rw[z]at y1;cases y1
    ·cases qF:F c with
     | some u=>rw[s1 c u qF]at y;cases y;exact .inl rfl
     | none =>
      exfalso;have:F3 c=none:=by rw[e3];exact if_pos ⟨qF,by rw[y];exactλz=>nomatch z⟩
      rw[z]at this;cases this
   ·exact .inr y
  have kW:zW as=[]->F3=F':=λe=>by
   have:=h3 e;subst this;funext c;rcases Xg c with⟨_,y1,y2⟩|y
   ·exact absurd y1 y2
   ·exact y
  have hs:∀c u,F' c=some u->F3 c=some u\/dl u=true:=λc u z=>by
   rcases Xg c with⟨_,y1,y2⟩|y
   ·right
    cases q2:F2 c with
    | none=>exact absurd q2 y2
    | some w =>
     have:=t1 c w q2;rw[z]at this;cases this;rcases h2 c u q2 with y|⟨y,_⟩
     ·rw[y1]at y;cases y
     ·exact y
   ·rw[y];exact .inl z
  have aci:∀(i:Nat) (xs:List D),er[i]?=some (.own xs)->∃a us,vs[i]?=some (.ref a)/\H' a=some (.lst us)/\aE F3 us xs/\F3 a=none:=λi xs e=>by
   obtain⟨a,us,g1,g2,g3,g4⟩:=ar'.own i xs e;refine⟨a,us,g1,g2,?_,?_⟩
   ·rcases hn with hn|⟨_,hn⟩
    ·rw[kW hn];exact g3
    ·exact aE.kW hs g3 (ac4.mp hn _ (ady e))
   ·cases y:F3 a with
    | none=>rfl
    | some u=>rw[u2 a u y]at g4;cases g4
  have ace:∀(i:Nat) (o:O),er[i]?=some (.obj o)->∃a,vs[i]?=some (.ref a)/\o.rep F3 H' a/\∀c∈o.fp a,F3 c=none/\H' c≠none:=λi o e=>by
   obtain⟨a,g1,g2,g3⟩:=ar'.obj i o e;rcases hn with hn|⟨_,hn⟩
   ·rw[kW hn];exact⟨a,g1,g2,g3⟩
   ·have:=ac4.mp hn _ (ady e)
    cases this
  have R3:=R.Nz ra ea nd lk u1 u3 fm fn u4 aci ace;refine K v H' F3 (bE b) _ u1 R3 ?_ qq;cases b with
  | sh d =>
   have rr:Rep F' v d:=rr;show Rep F3 v d;rcases hn with hn|⟨hn,_⟩
   ·rw[kW hn];exact rr
   ·exact Rep.kW hs rr hn
  | own xs =>
   obtain⟨a,us,rfl,w1,w2,w3,w4⟩:=rr;refine⟨a,us,rfl,w1,?_,?_,(R.b6 w4).1,?_⟩
   ·rcases hn with hn|⟨hn,_⟩
    ·rw[kW hn];exact w2
    ·exact aE.kW hs w2 hn
   ·cases y:F3 a with
    | none=>rfl
    | some u=>rw[u2 a u y]at w3;cases w3
   ·exact zj R ra ea nd lk w4
  | obj o =>
   obtain⟨a,rfl,w1,w2⟩:=rr;rcases hn with hn|⟨hn,_⟩
   ·rw[kW hn]
    exact⟨a,rfl,w1,λc hc=>⟨(w2 c hc).1,(w2 c hc).2.1,(R.b6 (w2 c hc).2.2).1,zj R ra ea nd lk (w2 c hc).2.2⟩⟩
   ·cases hn
 ·exact q.elim
def Kw(sp:jq)(t:uw):TX:=λσ Q=>t σ λas aw=>my sp as aw Q
theorem fY{x:Str}{sp:jq}{e:Expr}{es:List Expr}{t:uw}{p pos:Pos}(h:qZ G k x sp)(ha:HB G k S (e::es) t)(hg:S.sc.lookup x=some .globalImplicit:=by rfl)(jE:(x==("__debug__":Str))=false:=by decide)
  (he:∀env,acW (e::es) env=(false,eval e env)::acW es env:=by exactλ_=>Vc.cN rfl) (dJ:∀env,(backTo pos (acW es env)).any (·.1)=false:=by intro _;rfl) (hh:S.jh=false:=by rfl):EX G k S (.Call (.Name x p) (e::es) [] pos) (Kw sp t):=.mk λX Y ok=>by
 obtain⟨f,fd,ps,h1,h2,h3,h4⟩:=h;have rY:cf X.prog X.w X.K X.mg X.base ig k f fd ps (cZ sp):=by rw[ok.P,ok.w,ok.K,ok.mg,ok.base];exact h1
 refine aO (jP (E:=E0) (dvs:=[]) (ds:=[]) rY (ok.room hh) (du ok hg) (by rw[ok.mg];exact h2) (by rw[ok.K];exact h3) (by rw[ok.K];exact h4) .nil i7 (ha.run X Y ok) jE (he _) (dJ _)) λσ H Q q=>?_
 obtain⟨F,ai,Qd,R,q,K⟩:=q;refine⟨F,ai,_,R,q,λvs H1 F1 as aw s1 R1 r1 q1=>?_⟩;show cZ sp (vs++[]) H1 Q E0;rw[adH];exact gM R1 r1 q1 λv H' F' x aC s R' rx qx=>K v H' F' x aC (s1.trans s) R' rx qx
end Vc
namespace Vc
open PySem L2
variable [KF]
variable {G:GE}{k:Nat}{S:Stat}
def cH(n:Nat)(bs:List B):Sd:=bs.map some++adl (n-bs.length) none
theorem cK{α:Type}{xs:List α}{m i:Nat}{x:α}(h:(xs.map some++adl m none)[i]?=some (some x)):xs[i]?=some x:=by
 rw[List.getElem?_append]at h
 split at h
 ·rw[ac0]at h
  obtain⟨y,h1,h2⟩:=Option.map_eq_some_iff.mp h;cases h2;exact h1
 ·rw[List.getElem?_replicate]at h
  split at h<;>cases h
theorem o8{α:Type}{xs:List α}{m i:Nat}{x:α}(h:xs[i]?=some x):(xs.map some++adl m none)[i]?=some (some x):=by
 rw[aen (by rw[acO];exact(acR.mp h).1),ac0,h];rfl
def sk(vs:List V)(bs:List B):List (Nat×Addr):=(adK bs.length).filterMap λ(i:Nat)=>match bs[i]?,vs[i]? with
 | some (.own _),some (.ref a)=>some (i,a)
 | _,_=>none
def wq(vs:List V)(bs:List B):List Addr:=(adK bs.length).flatMap λ(i:Nat)=>match bs[i]?,vs[i]? with
 | some (.obj o),some (.ref a)=>o.fp a
 | _,_=>[]
theorem eC{vs:List V}{bs:List B}{i:Nat}{a:Addr}:(i,a)∈sk vs bs ↔ ∃xs,bs[i]?=some (.own xs)/\vs[i]?=some (.ref a):=by
 unfold sk;rw[List.mem_filterMap];constructor
 ·rintro⟨j,_,h⟩
  split at h
  ·rename_i xs b e1 e2
   cases h;exact⟨xs,e1,e2⟩
  ·cases h
 ·rintro⟨xs,e1,e2⟩
  exact⟨i,adX.mpr (acR.mp e1).1,by rw[e1,e2]⟩
theorem jK{vs:List V}{bs:List B}{c:Addr}:c∈wq vs bs ↔ ∃(i:Nat) (o:O) (a:Addr),bs[i]?=some (.obj o)/\vs[i]?=some (.ref a)/\c∈o.fp a:=by
 unfold wq;rw[List.mem_flatMap];constructor
 ·rintro⟨j,_,h⟩
  split at h
  ·rename_i o b e1 e2
   exact⟨j,o,b,e1,e2,h⟩
  ·cases h
 ·rintro⟨i,o,a,e1,e2,e3⟩
  exact⟨i,adX.mpr (acR.mp e1).1,by rw[e1,e2];exact e3⟩
theorem rW{vs:List V}{bs:List B}{F H:Hp}{c:Addr}:c∈(bz.mk H F (sk vs bs) (wq vs bs)).zM ↔ iJ vs bs c:=by
 unfold bz.zM iJ;rw[adj,jK,adk];constructor
 ·rintro(⟨⟨i,a⟩,h1,h2⟩|h)
  ·have h2:a=c:=h2
   subst h2;obtain⟨xs,e1,e2⟩:=eC.mp h1;exact .inl ⟨i,xs,e1,e2⟩
  ·exact .inr h
 ·rintro(⟨i,xs,e1,e2⟩|h)
  ·exact .inl ⟨(i,c),eC.mpr ⟨xs,e1,e2⟩,rfl⟩
  ·exact .inr h
theorem RS.cH{F H:Hp}{vs:List V}{bs:List B}(n:Nat)(s:mw F H)(r:iQ F H vs bs):RS ⟨H,F,sk vs bs,wq vs bs⟩ F (Vc.cH n bs) (vs.map some++adl (n-vs.length) none) H where
 len:=by unfold Vc.cH;simp [r.len]
 lo:=aq.refl _
 fr:=s.1
 e9:=λb o e=>.inl e
 old:=λb o e _=>e
 sh:=λi d e=>by
  obtain⟨v,h1,h2⟩:=r.sh i d (cK e);exact⟨v,o8 h1,h2⟩
 own:=λi xs e=>by
  obtain⟨a,us,h1,h2,h3,h4⟩:=r.own i xs (cK e);exact⟨a,us,o8 h1,h2,h3,h4,.inr (adk.mpr ⟨(i,a),eC.mpr ⟨xs,cK e,h1⟩,rfl⟩)⟩
 dis:=λi j xs ys a e1 e2 e3 e4=>r.dis i j xs ys a (cK e1) (cK e2) (cK e3) (cK e4)
 io:=λp hp=>by
  obtain⟨i,a⟩:=p;obtain⟨xs,e1,e2⟩:=eC.mp hp;exact⟨o8 e2,xs,o8 e1⟩
 ob:=by
  refine⟨λi o e=>?_,λi j o p a b e1 e2 e3 e4 lA=>r.pB i j o p a b (cK e1) (cK e2) (cK e3) (cK e4) lA,λj xs b e1 e2 ⟨i,o,a,e3,e4,hm⟩=>r.gA i j xs o a b (cK e1) (cK e2) (cK e3) (cK e4) hm,λb hb=>?_,λb hb=>?_,s.2⟩
  ·obtain⟨a,h1,h2,h3⟩:=r.obj i o (cK e)
   exact⟨a,o8 h1,h2,λc hc=>⟨(h3 c hc).1,(h3 c hc).2,.inr (jK.mpr ⟨i,o,a,cK e,h1,hc⟩)⟩⟩
  ·obtain⟨i,o,a,e1,e2,e3⟩:=jK.mp hb
   obtain⟨a',h1,_,h3⟩:=r.obj i o e1;rw[e2]at h1;cases h1;exact(h3 b e3).2
  ·obtain⟨i,o,a,e1,e2,e3⟩:=jK.mp hb
   obtain⟨a',h1,_,h3⟩:=r.obj i o e1;rw[e2]at h1;cases h1;exact(h3 b e3).2
def gK:Nat->List B->List B->Sd->Prop
 | i,.sh _::bs,_::cs,σ=>gK (i+1) bs cs σ
 | i,.own _::bs,c::cs,σ=>σ[i]?=some (some c)/\gK (i+1) bs cs σ
 | i,.obj _::bs,c::cs,σ=>σ[i]?=some (some c)/\gK (i+1) bs cs σ
 | _,_,_,_=>True
theorem gK.at{σ:Sd}:∀ {bs cs:List B} {i j:Nat} {b c:B},gK i bs cs σ->bs[j]?=some b->(∀d,b≠.sh d)->cs[j]?=some c->σ[i+j]?=some (some c)
 | [],_,_,_,_,_,_,e,_,_=>by simp at e
 | _::_,[],_,_,_,_,_,_,_,e=>by simp at e
 | .sh d::bs,c'::cs,i,0,b,c,h,e,n,e'=>by simp at e;exact absurd e.symm (n d)
 | .own xs::bs,c'::cs,i,0,b,c,h,e,n,e'=>by simp at e';subst e';exact h.1
 | .obj o::bs,c'::cs,i,0,b,c,h,e,n,e'=>by simp at e';subst e';exact h.1
 | .sh d::bs,c'::cs,i,j+1,b,c,h,e,n,e'=>by
  have:=gK.at (i:=i+1) (j:=j) h (by simpa using e) n (by simpa using e')
  rw[show i+(j+1)=i+1+j by omega];exact this
 | .own xs::bs,c'::cs,i,j+1,b,c,h,e,n,e'=>by
  have:=gK.at (i:=i+1) (j:=j) h.2 (by simpa using e) n (by simpa using e')
  rw[show i+(j+1)=i+1+j by omega];exact this
 | .obj o::bs,c'::cs,i,j+1,b,c,h,e,n,e'=>by
  have:=gK.at (i:=i+1) (j:=j) h.2 (by simpa using e) n (by simpa using e')
  rw[show i+(j+1)=i+1+j by omega];exact this
def yj(bs:List B)(Q:B->List B->Prop)(b:B)(σ:Sd):Prop:=∃er,dk bs er/\gK 0 bs er σ/\Q b er
theorem CF{F F' H H':Hp}{vs:List V}{bs er:List B}{ai:Sd}{σ:St}(r:iQ F H vs bs)(s:aq F F')(R:RS ⟨H,F,sk vs bs,wq vs bs⟩ F' ai σ H')(lk:dk bs er)(mg:gK 0 bs er ai):iQ F' H' vs er:=by
 have acj:∀ {i:Nat} {ys:List D},er[i]?=some (.own ys)->∃a us,vs[i]?=some (.ref a)/\H' a=some (.lst us)/\aE F' us ys/\F' a=none:=λ{i ys} e=>by
  obtain⟨xs,h1⟩:=lk.Bu e;have h2:=mg.at h1 (λd z=>nomatch z) e;rw[Nat.zero_add]at h2;obtain⟨a,us,g1,g2,g3,g4,g5⟩:=R.own i ys h2;obtain⟨a0,MD,f1,_⟩:=r.own i xs h1;have f2:=(R.io (i,a0) (eC.mpr ⟨xs,h1,f1⟩)).1;have f2:σ[i]?=some (some (.ref a0)):=f2;rw[g1]at f2;cases f2;exact⟨a,us,f1,g2,g3,g4⟩
 have acf:∀ {i:Nat} {p:O},er[i]?=some (.obj p)->∃a,vs[i]?=some (.ref a)/\p.rep F' H' a/\∀c∈p.fp a,F' c=none/\H' c≠none:=λ{i p} e=>by
  obtain⟨o,h1,h3,h4,h5⟩:=lk.Bk e;have h2:=mg.at h1 (λd z=>nomatch z) e;rw[Nat.zero_add]at h2;obtain⟨a,g1,g2,g3⟩:=R.ob.obj i p h2;obtain⟨a0,f1,f2,_⟩:=r.obj i o h1;cases hl:o.loc with
  | none=>exact absurd hl h5
  | some l =>
   have e1:=o.Jw f2 hl;have e2:=p.Jw g2 (h4.trans hl);subst e1;subst e2;exact⟨a,f1,g2,λc hc=>⟨(g3 c hc).1,(g3 c hc).2.1⟩⟩
 refine⟨r.len.trans lk.len,λi d e=>?_,λi ys e=>acj e,λi p e=>acf e,λi j xs ys a e1 e2 e3 e4=>?_,λi j o p a b e1 e2 e3 e4 lA c hc HJ=>?_,λi j xs o a b e1 e2 e3 e4 hm=>?_⟩
 ·obtain⟨v,h1,h2⟩:=r.sh i d (lk.shr e)
  exact⟨v,h1,h2.mono s⟩
 ·obtain⟨xs',h1⟩:=lk.Bu e1
  obtain⟨ys',h2⟩:=lk.Bu e2;exact r.dis i j xs' ys' a h1 h2 e3 e4
 ·obtain⟨o',h1,h2,_⟩:=lk.Bk e1
  obtain⟨p',h3,h4,_⟩:=lk.Bk e2;exact r.pB i j o' p' a b h1 h3 e3 e4 lA c (by rw[<- h2];exact hc) (by rw[<- h4];exact HJ)
 ·obtain⟨xs',h1⟩:=lk.Bu e1
  obtain⟨o',h2,h3,_⟩:=lk.Bk e3;exact r.gA i j xs' o' a b h1 e2 h2 e4 (by rw[<- h3];exact hm)
theorem L3{x qual:Str}{st:Stmt}{f:Addr}{fd:adf}{N ps:List Str}{sp:jq}{t:b7}{ios:List Nat}(hK:G.K=KF.K)(Fn:BL G.K x qual st f fd)(Sc:aB N ps (ag st))(ht:dj G k ⟨N,(ag st).names,ios,false,false,false,λ_ _=>False⟩ (ak st) t)
  (len:∀bs Q,sp bs Q->bs.length=ps.length) (Fl:∀bs Q,sp bs Q->∀(i:Nat) (xs:List D),bs[i]?=some (.own xs)->i∈ios) (cz:ios≠[])
  (body:∀bs Q,sp bs Q->t {nx:=yj bs Q (.sh .aQ),rt:=λb σ=>yj bs Q b σ} (cH N.length bs)):cf G.P G.w G.K G.mg G.base ig (k+1) f fd ps (cZ sp):=by
 refine Fn.ok Sc (λvs H Q E h=>?_) (λiu A outer s H vs Q E hr h=>?_)
 ·obtain⟨F,bs,Qd,s,r,q,K⟩:=h
  rw[r.len];exact len _ _ q
 ·obtain⟨F,bs,Qd,sm,r,q,K⟩:=h
  refine⟨_,ht (nO ig G.P G.w G.K G.mg G.base N qual (ag st) f iu A outer s H E).JF ⟨H,F,sk vs bs,wq vs bs⟩ ⟨rfl,rfl,rfl,hK,rfl,rfl,rfl,rfl,Sc.nd,λp hp=>by
   obtain⟨i,a⟩:=p;obtain⟨xs,e1,_⟩:=eC.mp hp;exact Fl _ _ q i xs e1,(λ_ h=>absurd h cz),λ_=>rfl,Sc.kind,λ_ _ _=>rfl,λ_=>hr.hd,hr.dp,hr.un,λ_=>PassesOwn.never,λ_=>⟨rfl,rfl,rfl⟩,λ_ _ h=>h.elim,λh=>nomatch h⟩,F,cH N.length bs,_,RS.cH _ sm r,body bs Qd q,?_⟩
  have fin:∀ {F':Hp} {ai:Sd} {σ:St} {H':Hp} {v:V} {b:B},aq F F'->RS ⟨H,F,sk vs bs,wq vs bs⟩ F' ai σ H'->Cz H F' H' v b->yj bs Qd b ai->Q v H':=λ{F' ai σ H' v b} s' R' r' q'=>by
   obtain⟨er,lk,mg,q'⟩:=q';have ar:=CF r s' R' lk mg;refine K v H' F' b er s' R'.fr (λc o z e=>R'.old c o e λy=>z (rW.mp y)) (λc z=>?_) ar lk R'.e9 r' q';rcases z with⟨i,xs,e1,e2⟩|⟨i,o,a,e1,e2,e3⟩
   ·obtain⟨ys,h1⟩:=lk.Z6 e1
    obtain⟨a,us,g1,g2,_⟩:=ar.own i ys h1;rw[e2]at g1;cases g1;rw[g2];exactλy=>nomatch y
   ·obtain⟨p,h1,h2,_⟩:=lk.acg e1
    obtain⟨a',g1,_,g3⟩:=ar.obj i p h1;rw[e2]at g1;cases g1;exact(g3 c (by rw[h2];exact e3)).2
  refine⟨λσ H' F' ai s' R' q'=>?_,λv σ H' F' ai b s' R' r' q'=>?_,λ_ _ _ _ _ _ h=>h.elim,λ_ _ _ _ _ _ h=>h.elim⟩
  ·exact fin (b:=.sh .aQ) s' R' .aQ q'
  ·refine fin (b:=b) s' R' ?_ q'
   cases b with
   | sh d=>exact r'
   | own xs =>
    obtain⟨a,us,rfl,w1,w2,w3,w4,w5⟩:=r';exact⟨a,us,rfl,w1,w2,w3,w4⟩
   | obj o =>
    obtain⟨a,rfl,w1,w2⟩:=r';exact⟨a,rfl,w1,λb hb=>⟨(w2 b hb).1,(w2 b hb).2.1,(w2 b hb).2.2.1⟩⟩
theorem cV.fmu{x:Str}{st:Stmt}{ps N:List Str}{f:Addr}{fd:adf}{t:b7}{sp:jq}{ios:List Nat}(d:cV G x st ps f fd)(hK:G.K=KF.K)(Sc:aB N ps (ag st))(ht:dj G k ⟨N,(ag st).names,ios,false,false,false,λ_ _=>False⟩ (ak st) t)
  (len:∀bs Q,sp bs Q->bs.length=ps.length) (Fl:∀bs Q,sp bs Q->∀(i:Nat) (xs:List D),bs[i]?=some (.own xs)->i∈ios) (cz:ios≠[])
  (body:∀bs Q,sp bs Q->t {nx:=yj bs Q (.sh .aQ),rt:=λb σ=>yj bs Q b σ} (cH N.length bs)):qZ G (k+1) x sp:=
 ⟨f,fd,ps,L3 hK d.F Sc ht len Fl cz body,d.m,d.F.kp,d.b⟩
end Vc
namespace Vc
open PySem L2
variable [KF]
abbrev kC:Addr:=KF.cls "Kept"
def gB(a dx ad:Addr)(w:Str)(c e:Int)(kvs:List (Int×D)):O where
 fp:=λb=>[b,dx,ad]
 rep:=λF H b=>b=a/\H a=some (.ins kC dx (HP w c e ad))/\H dx=some (.own a)/\∃ks,H ad=some (.dK ks)/\b9 F ks kvs
 self:=λa=>.head _
 solid:=λ{F H b c' φ} ⟨e0,h1,h2,ks,h3,_⟩ hb z=>by
  subst e0;simp only[acV,ac8,or_false]at hb;rcases hb with rfl|rfl|rfl
  ·rw[h1]at z;cases z
  ·rw[h2]at z;cases z
  ·rw[h3]at z;cases z
 nt:=λ{F H b c' vs} ⟨e0,h1,h2,ks,h3,_⟩ hb z=>by
  subst e0;simp only[acV,ac8,or_false]at hb;rcases hb with rfl|rfl|rfl
  ·rw[h1]at z;cases z
  ·rw[h2]at z;cases z
  ·rw[h3]at z;cases z
 mono:=λ{F F' H H' b} s e ⟨e0,h1,h2,ks,h3,r⟩=>by
  subst e0;exact⟨rfl,by rw[e b (by simp)];exact h1,by rw[e dx (by simp)];exact h2,ks,by rw[e ad (by simp)];exact h3,r.mono s⟩
 view:=some (.kp w c e kvs)
 sees:=λ{F H b d} ⟨e0,h1,h2,ks,h3,r⟩ q=>by cases q;subst e0;exact⟨b,dx,ad,ks,rfl,h1,h3,r⟩
 lend:=λ{F H b d} s ⟨e0,h1,h2,ks,h3,r⟩ q=>by
  cases q;subst e0;obtain⟨F1,s1,s2,e1,e2⟩:=dC s h1;obtain⟨F2,s3,s4,e3,e4⟩:=dC s2 h3;refine⟨F2,s1.trans s3,s4,.kp (s3 _ _ e1) e3 (r.mono (s1.trans s3)),λc u z=>?_⟩;rcases e4 c u z with z|⟨rfl,rfl⟩
  ·rcases e2 c u z with z|⟨rfl,rfl⟩
   ·exact .inl z
   ·exact .inr ⟨rfl,by simp⟩
  ·exact .inr ⟨rfl,by simp⟩
 loc:=some a
 Jw:=λ{F H b c'} ⟨e0,_⟩ q=>by cases q;exact e0
variable {G:GE}{k:Nat}{S:Stat}
structure KG(G:GE):Prop where
 cls:BW G.K kC
 no:∀f:Str,f∈(["way","count","points_by_name","ever_put"]:List Str)->ja G.K kC f
def Qc(f:Str)(w:Str)(c e:Int):Option D:=if f="way" then some (.str w)else if f="count" then some (.int c)else if f="ever_put" then some (.int e)else none
def Vz(f:Str)(t:TV):TV:=λσ Q=>t σ λx aw=>match cW aw x with
 | some (.kp w c e kvs)=>∃d,Qc f w c e=some d/\Q (.val d) aw
 | _=>False
theorem Jt{f:Str}{w:Str}{c e:Int}{ad:Addr}{d:D}(h:Qc f w c e=some d):∃v,(HP w c e ad).lookup f=some v/\(∀F:Hp,Rep F v d)/\f∈(["way","count","points_by_name","ever_put"]:List Str):=by
 unfold Qc at h
 by_cases h1:f="way"
 ·subst h1
  rw[if_pos rfl]at h;cases h;exact⟨.str w,rfl,λ_=>.str w,by simp⟩
 ·rw[if_neg h1]at h
  by_cases h2:f="count"
  ·subst h2
   rw[if_pos rfl]at h;cases h;exact⟨.int c,rfl,λ_=>.int c,by simp⟩
  ·rw[if_neg h2]at h
   by_cases h3:f="ever_put"
   ·subst h3
    rw[if_pos rfl]at h;cases h;exact⟨.int e,rfl,λ_=>.int e,by simp⟩
   ·rw[if_neg h3]at h;cases h
theorem Gj{o:Expr}{t:TV}{f:Str}{pos:Pos}(kg:KG G)(h:EO G k S o t)(hb:∀env,aev o f env (eval o env)=eval o env:=by intro _;rfl):EO G k S (.Attribute o f pos) (Vz f t):=.mk λX Y ok =>
 aO (sE (h X Y ok) (hb _)) λσ H Q q=>by
  obtain⟨F,ai,Qd,R,q,K⟩:=q;refine⟨F,ai,_,R,q,λv1 H1 F1 x aw s1 R1 r1 q1=>?_⟩
  split at q1
  ·rename_i w c e kvs ed
   obtain⟨d,hd,q1⟩:=q1;obtain⟨a,dx,ad,ks,rfl,h1,h2,_⟩:=R1.cW r1 ed;obtain⟨v,g1,g2,g3⟩:=Jt (ad:=ad) hd;exact⟨a,kC,dx,_,v,rfl,h1,by rw[ok.K];exact kg.cls,by rw[ok.K];exact kg.no f g3,g1,K v H1 F1 (.val d) aw s1 R1 (g2 F1) q1⟩
  ·exact q1.elim
def Ww(t:TD):TV:=λσ Q=>t σ λx aw=>match x with
 | .kp w c e kvs=>Q (.val (.dB kvs)) aw
 | _=>False
theorem Ki{o:Expr}{t:TD}{pos:Pos}(kg:KG G)(h:ED G k S o t)(hb:∀env,aev o "points_by_name" env (eval o env)=eval o env:=by intro _;rfl):EO G k S (.Attribute o "points_by_name" pos) (Ww t):=.mk λX Y ok =>
 aO (sE (h X Y ok) (hb _)) λσ H Q q=>by
  obtain⟨F,ai,Qd,R,q,K⟩:=q;refine⟨F,ai,_,R,q,λv1 H1 F1 x aw s1 R1 r1 q1=>?_⟩
  split at q1
  ·rename_i w c e kvs
   cases(show Rep F1 v1 (.kp w c e kvs)from r1)with
   | @kp a dx ad _ _ _ ks _ h1 h2 r =>
    exact⟨a,kC,dx,_,.ref ad,rfl,R1.fr _ _ h1,by rw[ok.K];exact kg.cls,by rw[ok.K];exact kg.no _ (by simp),rfl,K _ H1 F1 (.val (.dB kvs)) aw s1 R1 (.dB h2 r) q1⟩
  ·exact q1.elim
theorem RS.kpW{Y:bz}{F:Hp}{ai:Sd}{σ:St}{H:Hp}{i:Nat}{a dx ad:Addr}{w:Str}{c e e':Int}{kvs Zq:List (Int×D)}{u:HO}{b:Addr}(R:RS Y F ai σ H)(q:ai[i]?=some (some (.obj (gB a dx ad w c e kvs))))(h:σ[i]?=some (some (.ref a)))(hb:b∈[a,dx,ad])
  (hr:(gB a dx ad w c e' Zq).rep F (upd H b u) a):RS Y F (ai.set i (some (.obj (gB a dx ad w c e' Zq)))) σ (upd H b u):=R.gU q h hb (λ_ z=>z) hr
def tKP(i:Nat)(tk:TV)(tv:TD):b7:=λDe σ=>tv σ λd aw=>(∃a dx ad w c e kvs,aw[i]?=some (some (.obj (gB a dx ad w c e kvs))))/\tk aw λy aM=>match cW aM y with
 | some (.int j)=>∃a dx ad w c e kvs,aM[i]?=some (some (.obj (gB a dx ad w c e kvs)))/\aM[i]?=aw[i]?/\kvs.length<acZ/\De.nx (aM.set i (some (.obj (gB a dx ad w c e (yb kvs j d)))))
 | _=>False
theorem Uv(i:Nat){x:Str}{ke ve:Expr}{tk:TV}{tv:TD}{np ap pos' pos:Pos}(kg:KG G)(hv:ED G k S ve tv)(hk:EO G k S ke tk)(ho:EO G k S (.Name x np) (KD i))(hb:∀env,aev (.Name x np) "points_by_name" env (eval (.Name x np) env)=eval (.Name x np) env:=by intro _;rfl)
  (hs:∀line env,swapsWith ve (some (.Subscript (.Attribute (.Name x np) "points_by_name" ap) ke pos')) line env=pure false:=by intro _ _;rfl):
  ES G k S (.Assign [.Subscript (.Attribute (.Name x np) "points_by_name" ap) ke pos'] ve pos) (tKP i tk tv):=.mk λX Y ok =>
 cj (Af (by have:=ok.units;omega) (sE (ho X Y ok) (hb _)) (hk X Y ok) (hv X Y ok) (hs _ _)) λDn σ H q=>by
  obtain⟨F,ai,De,R,q,K⟩:=q;refine⟨F,ai,_,R,q,λv H1 F1 d aw s1 R1 r1 q1=>?_⟩;obtain⟨⟨a0,dx0,ad0,w0,c0,e0,Ju,Wa⟩,q1⟩:=q1;refine⟨F1,aw,λx mq=>x=.var i/\mq=aw,R1,⟨⟨_,Wa⟩,rfl,rfl⟩,λv2 H2 F2 y aM s2 R2 r2 q2=>?_⟩;obtain⟨rfl,rfl⟩:=q2;have r2:σ[i]?=some (some v2):=r2;obtain⟨b0,w1,⟨rfl,g1,g2,MD,g3,g4⟩,_⟩:=R2.ob.obj i _ Wa;rw[r2]at w1;cases w1;refine⟨b0,kC,dx0,_,.ref ad0,rfl,g1,by rw[ok.K];exact kg.cls,by rw[ok.K];exact kg.no _ (by simp),rfl,F2,aM,_,R2,q1,λv3 H3 F3 kd fq s3 R3 r3 q3=>?_⟩
  split at q3
  ·rename_i j ej
   obtain rfl:=(R3.cW r3 ej).int;obtain⟨a,dx,ad,w,c,e,kvs,eq,eqq,hl,q3⟩:=q3;have eq':(B.obj (gB a dx ad w c e kvs))=.obj (gB b0 dx0 ad0 w0 c0 e0 Ju):=by rw[eq,Wa]at eqq;exact adp (adp eqq)
   obtain⟨b,w1,⟨rfl,y1,y2,us,y3,y4⟩,_⟩:=R3.ob.obj i _ eq;rw[r2]at w1;cases w1;have efp:(gB b0 dx ad w c e kvs).fp b0=(gB b0 dx0 ad0 w0 c0 e0 Ju).fp b0:=by
    have:=congrArg (λb=>match b with|B.obj o=>o.fp b0|_=>[]) eq'
    exact this
   have efp:[b0,dx,ad]=[b0,dx0,ad0]:=efp;simp only[List.cons.injEq,and_true,true_and]at efp;obtain⟨rfl,rfl⟩:=efp;have n1:b0≠ad:=fE y1 y3 (λz=>nomatch z);have n2:dx≠ad:=fE y2 y3 (λz=>nomatch z);refine⟨ad,_,rfl,.k (k:=.inl j) y3 (by rw[y4.length];exact hl),K.nx σ _ F3 _ ((s1.trans s2).trans s3) (R3.kpW eq r2 (by simp) ⟨rfl,?_,?_,_,ay,y4.put j (r1.mono (s2.trans s3))⟩) q3⟩
   ·rw[au n1];exact y1
   ·rw[au n2];exact y2
  ·exact q3.elim
def tKE(i:Nat)(tv:TV):b7:=λDe σ=>tv σ λx aw=>match cW aw x with
 | some (.int j)=>∃a dx ad w c e kvs,aw[i]?=some (some (.obj (gB a dx ad w c e kvs)))/\De.nx (aw.set i (some (.obj (gB a dx ad w c j kvs))))
 | _=>False
theorem BA(w:Str)(c e j:Int)(ad:Addr):cR "ever_put" (.int j) (HP w c e ad)=HP w c j ad:=by
 unfold HP;simp only[cR];rw[if_neg ∅,if_neg ∅,if_neg ∅]
 simp
theorem Kn(i:Nat){x:Str}{ve:Expr}{tv:TV}{np ap pos:Pos}(kg:KG G)(hv:EO G k S ve tv)(ho:EO G k S (.Name x np) (KD i))(hs:∀line env,swapsWith ve (some (.Attribute (.Name x np) "ever_put" ap)) line env=pure false:=by intro _ _;rfl):
  ES G k S (.Assign [.Attribute (.Name x np) "ever_put" ap] ve pos) (tKE i tv):=.mk λX Y ok =>
 cj (sM (ho X Y ok) (hv X Y ok) (hs _ _)) λDn σ H q=>by
  obtain⟨F,ai,De,R,q,K⟩:=q;refine⟨F,ai,_,R,q,λv H1 F1 y aw s1 R1 r1 q1=>?_⟩
  split at q1
  ·rename_i j ej
   obtain rfl:=(R1.cW r1 ej).int;obtain⟨a,dx,ad,w,c,e,kvs,eq,q1⟩:=q1;refine⟨F1,aw,λx mq=>x=.var i/\mq=aw,R1,⟨⟨_,eq⟩,rfl,rfl⟩,λv2 H2 F2 y aM s2 R2 r2 q2=>?_⟩;obtain⟨rfl,rfl⟩:=q2;have r2:σ[i]?=some (some v2):=r2;obtain⟨b,w1,⟨rfl,y1,y2,us,y3,y4⟩,_⟩:=R2.ob.obj i _ eq;rw[r2]at w1;cases w1;have n1:dx≠b:=fE y2 y1 (λz=>nomatch z);have n2:ad≠b:=fE y3 y1 (λz=>nomatch z);refine⟨b,kC,dx,_,rfl,y1,by rw[ok.K];exact kg.cls,by rw[ok.K];exact kg.no _ (by simp),by show 4<1000;decide,?_⟩
   rw[BA];exact K.nx σ _ F2 _ (s1.trans s2) (R2.kpW eq r2 (by simp) ⟨rfl,ay,by rw[au n1];exact y2,us,by rw[au n2];exact y3,y4⟩) q1
  ·exact q1.elim
def tKD(i:Nat)(tk:TV):b7:=λDe σ=>∃a dx ad w c e kvs,σ[i]?=some (some (.obj (gB a dx ad w c e kvs)))/\tk σ λy aM=>match cW aM y with
 | some (.int j)=>aM[i]?=some (some (.obj (gB a dx ad w c e kvs)))/\(dR kvs j).isSome=true/\De.nx (aM.set i (some (.obj (gB a dx ad w c e (iZ kvs j)))))
 | _=>False
theorem Uu(i:Nat){x:Str}{ke:Expr}{tk:TV}{np bp ap cp pos:Pos}(kg:KG G)(hk:EO G k S ke tk)(ho:EO G k S (.Name x np) (KD i))(hb:∀env,aev (.Name x np) "points_by_name" env (eval (.Name x np) env)=eval (.Name x np) env:=by intro _;rfl)
  (m:∀X:Cx,M1 X (.Attribute (.Name x np) "points_by_name" bp) "pop" ap ke cp:=by intro X;exact⟨rfl,rfl,rfl,rfl⟩):
  ES G k S (.Expr (.Call (.Attribute (.Attribute (.Name x np) "points_by_name" bp) "pop" ap) [ke] [] cp) pos) (tKD i tk):=.mk λX Y ok =>
 cj (sL (wt (sE (ho X Y ok) (hb _)) (hk X Y ok) (m X)) rfl) λDn σ H q=>by
  obtain⟨F,ai,De,R,⟨a,dx,ad,w,c,e,kvs,Wa,q⟩,K⟩:=q;refine⟨F,ai,λx mq=>x=.var i/\mq=ai,R,⟨⟨_,Wa⟩,rfl,rfl⟩,λv2 H2 F2 y aM s2 R2 r2 q2=>?_⟩;obtain⟨rfl,rfl⟩:=q2;have r2:σ[i]?=some (some v2):=r2;obtain⟨b0,w1,⟨rfl,g1,g2,MD,g3,g4⟩,_⟩:=R2.ob.obj i _ Wa;rw[r2]at w1;cases w1;refine⟨b0,kC,dx,_,.ref ad,rfl,g1,by rw[ok.K];exact kg.cls,by rw[ok.K];exact kg.no _ (by simp),rfl,ad,rfl,.inl ⟨_,.inl g3⟩,F2,aM,_,R2,q,λv3 H3 F3 kd fq s3 R3 r3 q3=>?_⟩
  split at q3
  ·rename_i j ej
   obtain rfl:=(R3.cW r3 ej).int;obtain⟨eq,hl,q3⟩:=q3;obtain⟨b,w1,⟨_,y1,y2,us,y3,y4⟩,_⟩:=R3.ob.obj i _ eq;have n1:b0≠ad:=fE y1 y3 (λz=>nomatch z);have n2:dx≠ad:=fE y2 y3 (λz=>nomatch z);rcases y4.val j with⟨_,e2⟩|⟨v,d',e1,e2,rd⟩
   ·rw[e2]at hl;cases hl
   ·exact⟨us,.inl j,v,y3,rfl,e1,K.nx σ _ F3 _ (s2.trans s3) (R3.kpW eq r2 (by simp) ⟨rfl,by rw[au n1];exact y1,by rw[au n2];exact y2,_,ay,y4.drop j⟩) q3⟩
  ·exact q3.elim
end Vc
namespace Vc
open PySem L2
variable [KF]
variable {G:GE}{k:Nat}{S:Stat}
structure pA(G:GE)(m qual:Str)(st:Stmt)(ps:List Str)(f:Addr)(fd:adf):Prop where
 F:BL G.K m qual st f fd
 mt:Meth G.K kC m f
 b:Binds G.K fd ps []
def cC(G:GE)(k:Nat)(m:Str)(sp:jq):Prop:=∃f fd ps,cf G.P G.w G.K G.mg G.base ig k f fd ps (cZ sp)/\Meth G.K kC m f/\Binds G.K fd ps []
theorem cC.mono{x:Str}{sp:jq}{j:Nat}(h:cC G j x sp)(l:j<=k):cC G k x sp:=by
 obtain⟨f,fd,ps,h1,h2,h3⟩:=h;exact⟨f,fd,ps,h1.mono l,h2,h3⟩
theorem Zx{f:Addr}{fd:adf}{ps:List Str}{sp:bw}(h1:cf G.P G.w G.K G.mg G.base ig k f fd ps (yF sp)):cf G.P G.w G.K G.mg G.base ig k f fd ps (cZ (eE sp)):=by
 refine h1.imp λvs H Q E q=>?_;obtain⟨F,bs,Qd,s,r,⟨ds,rfl,q⟩,K⟩:=q;refine⟨F,ds,_,s,m8 r,q,λv H' F' b s1 s2 s3 fr rr qq=>K v H' F' b _ s1 s2 (λc o _ e=>s3 c o e) (λc z=>absurd z zr) (zh ((m8 r).mono s1)) (lM λi o e=>?_) fr rr qq⟩;obtain⟨d,e1,_⟩:=cT e;cases e1
theorem pA.fg{m qual:Str}{st:Stmt}{ps N:List Str}{f:Addr}{fd:adf}{t:b7}{sp:bw}(d:pA G m qual st ps f fd)(hK:G.K=KF.K)(Sc:aB N ps (ag st))(ht:dj G k ⟨N,(ag st).names,[],false,false,false,λ_ _=>False⟩ (ak st) t)
  (len:∀ds Q,sp ds Q->ds.length=ps.length) (body:∀ds Q,sp ds Q->t {nx:=λ_=>Q (.sh .aQ),rt:=λb _=>Q b} (aR N.length ds)):cC G (k+1) m (eE sp):=
 ⟨f,fd,ps,Zx (Eh hK d.F Sc ht len body),d.mt,d.b⟩
theorem pA.fmu{m qual:Str}{st:Stmt}{ps N:List Str}{f:Addr}{fd:adf}{t:b7}{sp:jq}{ios:List Nat}(d:pA G m qual st ps f fd)(hK:G.K=KF.K)(Sc:aB N ps (ag st))(ht:dj G k ⟨N,(ag st).names,ios,false,false,false,λ_ _=>False⟩ (ak st) t)
  (len:∀bs Q,sp bs Q->bs.length=ps.length) (Fl:∀bs Q,sp bs Q->∀(i:Nat) (xs:List D),bs[i]?=some (.own xs)->i∈ios) (cz:ios≠[])
  (body:∀bs Q,sp bs Q->t {nx:=yj bs Q (.sh .aQ),rt:=λb σ=>yj bs Q b σ} (cH N.length bs)):cC G (k+1) m sp:=
 ⟨f,fd,ps,L3 hK d.F Sc ht len Fl cz body,d.mt,d.b⟩
def ux(sp:jq)(to:TD)(t:uw):TX:=λσ Q=>to σ λx aw=>(∃w c e kvs,x=.kp w c e kvs)/\t aw λas aM=>my sp (.d x::as) aM Q
def Qz(σ:Sd)(j:Nat):Prop:=∃o w c e kvs,σ[j]?=some (some (.obj o))/\o.view=some (.kp w c e kvs)
def Wx(sp:jq)(j:Nat)(t:uw):TX:=λσ Q=>Qz σ j/\t σ λas aM=>my sp (.n j::as) aM Q
def Kz(sp:jq)(j:Nat)(t:uw):TX:=λσ Q=>Qz σ j/\t σ λas aM=>my sp (.l j::as) aM Q
theorem vS{w:Str}{c e:Int}{ad:Addr}{m:Str}(h:(["way","count","points_by_name","ever_put"]:List Str).contains m=false):(HP w c e ad).lookup m=none:=by
 unfold HP;simp only[List.contains_cons,List.contains_nil,Bool.or_false,Bool.or_eq_false_iff]at h;simp only[List.lookup,h.1,h.2.1,h.2.2.1,h.2.2.2]
section
variable {o e:Expr}{es:List Expr}{m:Str}{apos pos:Pos}{sp:jq}{to:TD}{t:uw}{pl:Env->Sem Bool}
theorem vW{X:Cx}{Y:bz}{C:Addr}(hm:(["way","count","points_by_name","ever_put"]:List Str).contains m=false)(hC:C=kC){σ:St}{H:Hp}{Q:VK}(q:lX Y (ux sp to t) σ H Q):qT C m (cZ sp) [] E0 (lD Y to) (lAv Y t) σ H Q:=by
 subst hC;obtain⟨F,ai,Qd,R,q,K⟩:=q;refine⟨F,ai,_,R,q,λv1 H1 F1 x aw s1 R1 r1 q1=>?_⟩;obtain⟨⟨w,c,e,kvs,rfl⟩,q1⟩:=q1;cases(show Rep F1 v1 (.kp w c e kvs)from r1)with
 | @kp a dx ad _ _ _ ks _ h1 h2 r =>
  refine⟨a,dx,_,rfl,R1.fr _ _ h1,vS hm,F1,aw,_,R1,q1,λvs H2 F2 as aM s2 R2 r2 q2=>?_⟩;dsimp only;rw[adH];exact gM R2 (.d ((Rep.kp h1 h2 r).mono s2) r2) q2 λv H' F' x aC s R' rx qx=>K v H' F' x aC ((s1.trans s2).trans s) R' rx qx
theorem oN(h:cC G k m sp)(kg:KG G)(ho:ED G k S o to)(ha:HB G k S (e::es) t)(hm:(["way","count","points_by_name","ever_put"]:List Str).contains m=false:=by decide)
  (Fc:∀env,acW (e::es) env=(false,eval e env)::acW es env:=by exactλ_=>Vc.cN rfl) (dJ:∀env,(backTo pos (acW es env)).any (·.1)=false:=by intro _;rfl) (hh:S.jh=false:=by rfl)
  (ht:∀env,eval (.Call (.Attribute o m apos) (e::es) [] pos) env=(do
   let ov <- eval o env
   standAt apos.atName
   let (f,first) <- holding [ov] (getMethod ov m (pl env))
   callWith pos f first (backTo pos (acW (e::es) env)) (backToKw pos (aeB [] env))):=by intro _;rfl):EX G k S (.Call (.Attribute o m apos) (e::es) [] pos) (ux sp to t):=.mk λX Y ok=>by
 obtain⟨f,fd,ps,h1,h2,h3⟩:=h;have rY:cf X.prog X.w X.K X.mg X.base ig k f fd ps (cZ sp):=by rw[ok.P,ok.w,ok.K,ok.mg,ok.base];exact h1
 exact aO (Aa (pl:=pl X.env) (E:=E0) (dvs:=[]) (ds:=[]) (ho X Y ok) (by rw[ok.K];exact kg.cls) (by rw[ok.K];exact h2) rY (ok.room hh) (by rw[ok.K];exact h3) .nil i7 (ha.run X Y ok) (Fc _) (dJ _) (ht _)) λσ H Q q=>vW (X:=X) hm rfl q
theorem Ku{Y:bz}{sp:jq}{to:TD}{C:Addr}{σ:St}{H:Hp}{Q:VK}(q:qT C m (cZ sp) [] E0 (lD Y to) (lAv Y iG) σ H Q):qT C m (cZ sp) [] E0 (lD Y to) kU σ H Q:=by
 obtain⟨F,ai,Qd,R,q,K⟩:=q;refine⟨F,ai,Qd,R,q,λv H' F' x aC s R' r qq=>?_⟩;obtain⟨a,dx,fs,e1,e2,e3,F1,aw,Q1,R1,q1,K1⟩:=K v H' F' x aC s R' r qq;exact⟨a,dx,fs,e1,e2,e3,K1 [] H' F1 [] aw (aq.refl _) R1 .nil q1⟩
theorem fZ(h:cC G k m sp)(kg:KG G)(ho:ED G k S o to)(hm:(["way","count","points_by_name","ever_put"]:List Str).contains m=false:=by decide)(hh:S.jh=false:=by rfl)
  (ht:∀env,eval (.Call (.Attribute o m apos) [] [] pos) env=(do
   let ov <- eval o env
   standAt apos.atName
   let (f,first) <- holding [ov] (getMethod ov m (pl env))
   callWith pos f first (backTo pos (acW [] env)) (backToKw pos (aeB [] env))):=by intro _;rfl):EX G k S (.Call (.Attribute o m apos) [] [] pos) (ux sp to iG):=.mk λX Y ok=>by
 obtain⟨f,fd,ps,h1,h2,h3⟩:=h;have rY:cf X.prog X.w X.K X.mg X.base ig k f fd ps (cZ sp):=by rw[ok.P,ok.w,ok.K,ok.mg,ok.base];exact h1
 exact aO (wu (pl:=pl X.env) (E:=E0) (dvs:=[]) (ds:=[]) (ho X Y ok) (by rw[ok.K];exact kg.cls) (by rw[ok.K];exact h2) rY (ok.room hh) (by rw[ok.K];exact h3) .nil i7 (ht _)) λσ H Q q=>Ku (vW (X:=X) hm rfl q)
end
section
variable {x:Str}{np:Pos}{e:Expr}{es:List Expr}{m:Str}{apos pos:Pos}{sp:jq}{t:uw}{pl:Env->Sem Bool}{j:Nat}
theorem v8{Y:bz}{l:Bool}(hm:(["way","count","points_by_name","ever_put"]:List Str).contains m=false){σ:St}{H:Hp}{Q:VK}(q:lX Y (if l=true then Kz sp j t else Wx sp j t) σ H Q):qT kC m (cZ sp) [] E0 (abj j) (lAv Y t) σ H Q:=by
 obtain⟨F,ai,Qd,R,q,K⟩:=q;have q:Qz ai j/\t ai λas aM=>my sp ((if l=true then AV.l j else AV.n j)::as) aM Qd:=by
  cases l with
  | true=>exact q
  | false=>exact q
 obtain⟨⟨o,w,c,e,kvs,e1,e2⟩,q⟩:=q;obtain⟨a,w1,w2,w3⟩:=R.ob.obj j o e1;obtain⟨a',dx,ad,ks,e3,h1,h2,_⟩:=o.sees w2 e2;cases e3;refine⟨.ref a,w1,a,dx,_,rfl,h1,vS hm,F,ai,_,R,q,λvs H2 F2 as aM s2 R2 r2 q2=>?_⟩;dsimp only;rw[adH];refine gM R2 ?_ q2 λv H' F' x aC s R' rx qx=>K v H' F' x aC (s2.trans s) R' rx qx;cases l with
 | true=>exact .l w1 r2
 | false=>exact .n w1 r2
theorem oO(l:Bool)(j:Nat)(h:cC G k m sp)(kg:KG G)(ha:HB G k S (e::es) t)(hN:S.N[j]?=some x:=by rfl)(hv:S.sc.lookup x=some .local\/S.sc.lookup x=some .cell\/S.sc.lookup x=some .free:=by first|exact Or.inl rfl|exact Or.inr (Or.inl rfl)|exact Or.inr (Or.inr rfl))
  (hd:(x==("__debug__":Str))=false:=by decide) (ly:(x==("__classdict__":Str))=false:=by decide) (hm:(["way","count","points_by_name","ever_put"]:List Str).contains m=false:=by decide)
  (Fc:∀env,acW (e::es) env=(false,eval e env)::acW es env:=by exactλ_=>Vc.cN rfl) (dJ:∀env,(backTo pos (acW es env)).any (·.1)=false:=by intro _;rfl) (hh:S.jh=false:=by rfl)
  (ht:∀env,eval (.Call (.Attribute (.Name x np) m apos) (e::es) [] pos) env=(do
   let ov <- eval (.Name x np) env
   standAt apos.atName
   let (f,first) <- holding [ov] (getMethod ov m (pl env))
   callWith pos f first (backTo pos (acW (e::es) env)) (backToKw pos (aeB [] env))):=by intro _;rfl):EX G k S (.Call (.Attribute (.Name x np) m apos) (e::es) [] pos) (if l=true then Kz sp j t else Wx sp j t):=.mk λX Y ok=>by
 obtain⟨f,fd,ps,h1,h2,h3⟩:=h;have rY:cf X.prog X.w X.K X.mg X.base ig k f fd ps (cZ sp):=by rw[ok.P,ok.w,ok.K,ok.mg,ok.base];exact h1
 exact aO (Aa (pl:=pl X.env) (E:=E0) (dvs:=[]) (ds:=[]) (gY (X:=X) (i:=j) (by rw[ok.N];exact hN) (by unfold HF;rw[ok.sc];exact hv) hd ly) (by rw[ok.K];exact kg.cls) (by rw[ok.K];exact h2) rY (ok.room hh) (by rw[ok.K];exact h3) .nil i7 (ha.run X Y ok) (Fc _) (dJ _) (ht _)) λσ H Q q=>v8 hm q
theorem Gm(l:Bool)(j:Nat)(h:cC G k m sp)(kg:KG G)(hN:S.N[j]?=some x:=by rfl)(hv:S.sc.lookup x=some .local\/S.sc.lookup x=some .cell\/S.sc.lookup x=some .free:=by first|exact Or.inl rfl|exact Or.inr (Or.inl rfl)|exact Or.inr (Or.inr rfl))
  (hd:(x==("__debug__":Str))=false:=by decide) (ly:(x==("__classdict__":Str))=false:=by decide) (hm:(["way","count","points_by_name","ever_put"]:List Str).contains m=false:=by decide) (hh:S.jh=false:=by rfl)
  (ht:∀env,eval (.Call (.Attribute (.Name x np) m apos) [] [] pos) env=(do
   let ov <- eval (.Name x np) env
   standAt apos.atName
   let (f,first) <- holding [ov] (getMethod ov m (pl env))
   callWith pos f first (backTo pos (acW [] env)) (backToKw pos (aeB [] env))):=by intro _;rfl):EX G k S (.Call (.Attribute (.Name x np) m apos) [] [] pos) (if l=true then Kz sp j iG else Wx sp j iG):=.mk λX Y ok=>by
 obtain⟨f,fd,ps,h1,h2,h3⟩:=h;have rY:cf X.prog X.w X.K X.mg X.base ig k f fd ps (cZ sp):=by rw[ok.P,ok.w,ok.K,ok.mg,ok.base];exact h1
 refine aO (wu (pl:=pl X.env) (E:=E0) (dvs:=[]) (ds:=[]) (gY (X:=X) (i:=j) (by rw[ok.N];exact hN) (by unfold HF;rw[ok.sc];exact hv) hd ly) (by rw[ok.K];exact kg.cls) (by rw[ok.K];exact h2) rY (ok.room hh) (by rw[ok.K];exact h3) .nil i7 (ht _)) λσ H Q q=>?_
 obtain⟨v,e1,a,dx,fs,e2,e3,e4,F1,aw,Q1,R1,q1,K1⟩:=v8 hm q;exact⟨v,e1,a,dx,fs,e2,e3,e4,K1 [] H F1 [] aw (aq.refl _) R1 .nil q1⟩
end
end Vc
namespace Vc
open PySem L2
variable [KF]
variable {G:GE}{k:Nat}{S:Stat}
def BR(a dx:Addr)(fs:List (Str×V)):O where
 fp:=λb=>[b,dx]
 rep:=λF H b=>b=a/\H a=some (.ins kC dx fs)/\H dx=some (.own a)
 self:=λa=>.head _
 solid:=λ{F H b c' φ} ⟨e0,h1,h2⟩ hb z=>by
  subst e0;simp only[acV,ac8,or_false]at hb;rcases hb with rfl|rfl
  ·rw[h1]at z;cases z
  ·rw[h2]at z;cases z
 nt:=λ{F H b c' vs} ⟨e0,h1,h2⟩ hb z=>by
  subst e0;simp only[acV,ac8,or_false]at hb;rcases hb with rfl|rfl
  ·rw[h1]at z;cases z
  ·rw[h2]at z;cases z
 mono:=λ{F F' H H' b} s e ⟨e0,h1,h2⟩=>by
  subst e0;exact⟨rfl,by rw[e b (by simp)];exact h1,by rw[e dx (by simp)];exact h2⟩
def kqO(a dx ad:Addr)(fs:List (Str×V)):O where
 fp:=λb=>[b,dx,ad]
 rep:=λF H b=>b=a/\H a=some (.ins kC dx fs)/\H dx=some (.own a)/\H ad=some (.dK [])
 self:=λa=>.head _
 solid:=λ{F H b c' φ} ⟨e0,h1,h2,h3⟩ hb z=>by
  subst e0;simp only[acV,ac8,or_false]at hb;rcases hb with rfl|rfl|rfl
  ·rw[h1]at z;cases z
  ·rw[h2]at z;cases z
  ·rw[h3]at z;cases z
 nt:=λ{F H b c' vs} ⟨e0,h1,h2,h3⟩ hb z=>by
  subst e0;simp only[acV,ac8,or_false]at hb;rcases hb with rfl|rfl|rfl
  ·rw[h1]at z;cases z
  ·rw[h2]at z;cases z
  ·rw[h3]at z;cases z
 mono:=λ{F F' H H' b} s e ⟨e0,h1,h2,h3⟩=>by
  subst e0;exact⟨rfl,by rw[e b (by simp)];exact h1,by rw[e dx (by simp)];exact h2,by rw[e ad (by simp)];exact h3⟩
def plV:D->Option V
 | .str w=>some (.str w)
 | .int i=>some (.int i)
 | _=>none
def tKI(i:Nat)(f:Str)(tv:TV):b7:=λDe σ=>tv σ λx aw=>match cW aw x with
 | some d=>∃a dx fs v,plV d=some v/\aw[i]?=some (some (.obj (BR a dx fs)))/\fs.length<1000/\De.nx (aw.set i (some (.obj (BR a dx (cR f v fs)))))
 | _=>False
theorem Gz(i:Nat){x f:Str}{ve:Expr}{tv:TV}{np ap pos:Pos}(kg:KG G)(hv:EO G k S ve tv)(ho:EO G k S (.Name x np) (KD i))(hf:f∈(["way","count","points_by_name","ever_put"]:List Str):=by simp)(hs:∀line env,swapsWith ve (some (.Attribute (.Name x np) f ap)) line env=pure false:=by intro _ _;rfl):
  ES G k S (.Assign [.Attribute (.Name x np) f ap] ve pos) (tKI i f tv):=.mk λX Y ok =>
 cj (sM (ho X Y ok) (hv X Y ok) (hs _ _)) λDn σ H q=>by
  obtain⟨F,ai,De,R,q,K⟩:=q;refine⟨F,ai,_,R,q,λv H1 F1 y aw s1 R1 r1 q1=>?_⟩
  split at q1
  ·rename_i d ed
   obtain⟨a,dx,fs,v',dJ,eq,hl,q1⟩:=q1;have hvv:v=v':=by
    have:=R1.cW r1 ed;unfold plV at dJ
    split at dJ
    ·cases dJ;exact this.str
    ·cases dJ;exact this.int
    ·cases dJ
   subst hvv;refine⟨F1,aw,λx mq=>x=.var i/\mq=aw,R1,⟨⟨_,eq⟩,rfl,rfl⟩,λv2 H2 F2 y aM s2 R2 r2 q2=>?_⟩;obtain⟨rfl,rfl⟩:=q2;have r2:σ[i]?=some (some v2):=r2;obtain⟨b,w1,⟨rfl,y1,y2⟩,_⟩:=R2.ob.obj i _ eq;rw[r2]at w1;cases w1;have n1:dx≠b:=fE y2 y1 (λz=>nomatch z);refine⟨b,kC,dx,_,rfl,y1,by rw[ok.K];exact kg.cls,by rw[ok.K];exact kg.no _ hf,hl,?_⟩
   exact K.nx σ _ F2 _ (s1.trans s2) (R2.gU (o':=BR b dx (cR f v fs)) eq r2 (.head _) (λ_ z=>z) ⟨rfl,ay,by rw[au n1];exact y2⟩) q1
  ·exact q1.elim
def tKN(i:Nat):b7:=λDe σ=>∃a dx fs,σ[i]?=some (some (.obj (BR a dx fs)))/\fs.length<1000/\∀ad,De.nx (σ.set i (some (.obj (kqO a dx ad (cR "points_by_name" (.ref ad) fs)))))
theorem Ut(i:Nat){x:Str}{np ap dp pos:Pos}(kg:KG G)(hN:S.N[i]?=some x:=by rfl)(hv:S.sc.lookup x=some .local\/S.sc.lookup x=some .cell\/S.sc.lookup x=some .free:=by first|exact Or.inl rfl|exact Or.inr (Or.inl rfl)|exact Or.inr (Or.inr rfl))
  (hd:(x==("__debug__":Str))=false:=by decide) (ly:(x==("__classdict__":Str))=false:=by decide) (hs:∀line env,swapsWith (.Dict [] [] dp) (some (.Attribute (.Name x np) "points_by_name" ap)) line env=pure false:=by intro _ _;rfl):
  ES G k S (.Assign [.Attribute (.Name x np) "points_by_name" ap] (.Dict [] [] dp) pos) (tKN i):=.mk λX Y ok =>
 cj (sM (gY (X:=X) (i:=i) (by rw[ok.N];exact hN) (by unfold HF;rw[ok.sc];exact hv) hd ly) gX (hs _ _)) λDn σ H q=>by
  obtain⟨F,ai,De,R,⟨a,dx,fs,eq,hl,q⟩,K⟩:=q;intro p hp;obtain⟨b,w1,⟨rfl,y1,y2⟩,w3⟩:=R.ob.obj i _ eq;have n1:dx≠b:=fE y2 y1 (λz=>nomatch z);have p1:b≠p:=bg y1 hp;have p2:dx≠p:=bg y2 hp;refine⟨.ref b,w1,b,kC,dx,fs,rfl,by rw[au p1];exact y1,by rw[ok.K];exact kg.cls,by rw[ok.K];exact kg.no _ (by simp),hl,?_⟩
  refine K.nx σ _ F _ (aq.refl _) (R.Rw (o':=kqO b dx p (cR "points_by_name" (.ref p) fs)) eq w1 (λc hc hn=>?_) (λc hc=>?_) (λc hc=>?_) (λc hc=>?_) ⟨rfl,ay,by rw[au n1,au p2];exact y2,by rw[au (aec p1),ay]⟩) (q p)
  ·have hc:c∉[b,dx]:=hc
   have c1:c≠b:=λz=>hc (by simp [z])
   have c2:c≠p:=λz=>hn (by rw[z];exact hp)
   rw[au c1,au c2]
  ·by_cases c1:c=b
   ·rw[c1,ay];exactλz=>nomatch z
   ·rw[au c1]
    by_cases c2:c=p
    ·rw[c2,ay];exactλz=>nomatch z
    ·rw[au c2];exact hc
  ·have hc:c∈[b,dx,p]:=hc
   simp only[acV,ac8,or_false]at hc;rcases hc with rfl|rfl|rfl
   ·exact .inl (by show _∈[_,_];simp)
   ·exact .inl (by show _∈[_,_];simp)
   ·exact .inr hp
  ·have hc:c∈[b,dx,p]:=hc
   simp only[acV,ac8,or_false]at hc;rcases hc with rfl|rfl|rfl
   ·rw[ay];exactλz=>nomatch z
   ·rw[au n1,au p2,y2];exactλz=>nomatch z
   ·rw[au (aec p1),ay];exactλz=>nomatch z
def tKZ(i:Nat)(tv:TV):b7:=λDe σ=>tv σ λx aw=>match cW aw x with
 | some (.int j)=>∃a dx ad fs w c,aw[i]?=some (some (.obj (kqO a dx ad fs)))/\fs.length<1000/\cR "ever_put" (.int j) fs=HP w c j ad/\De.nx (aw.set i (some (.obj (gB a dx ad w c j []))))
 | _=>False
theorem Ko(i:Nat){x:Str}{ve:Expr}{tv:TV}{np ap pos:Pos}(kg:KG G)(hv:EO G k S ve tv)(ho:EO G k S (.Name x np) (KD i))(hs:∀line env,swapsWith ve (some (.Attribute (.Name x np) "ever_put" ap)) line env=pure false:=by intro _ _;rfl):
  ES G k S (.Assign [.Attribute (.Name x np) "ever_put" ap] ve pos) (tKZ i tv):=.mk λX Y ok =>
 cj (sM (ho X Y ok) (hv X Y ok) (hs _ _)) λDn σ H q=>by
  obtain⟨F,ai,De,R,q,K⟩:=q;refine⟨F,ai,_,R,q,λv H1 F1 y aw s1 R1 r1 q1=>?_⟩
  split at q1
  ·rename_i j ej
   obtain rfl:=(R1.cW r1 ej).int;obtain⟨a,dx,ad,fs,w,c,eq,hl,hp,q1⟩:=q1;refine⟨F1,aw,λx mq=>x=.var i/\mq=aw,R1,⟨⟨_,eq⟩,rfl,rfl⟩,λv2 H2 F2 y aM s2 R2 r2 q2=>?_⟩;obtain⟨rfl,rfl⟩:=q2;have r2:σ[i]?=some (some v2):=r2;obtain⟨b,w1,⟨rfl,y1,y2,y3⟩,_⟩:=R2.ob.obj i _ eq;rw[r2]at w1;cases w1;have n1:dx≠b:=fE y2 y1 (λz=>nomatch z);have n2:ad≠b:=fE y3 y1 (λz=>nomatch z);refine⟨b,kC,dx,_,rfl,y1,by rw[ok.K];exact kg.cls,by rw[ok.K];exact kg.no _ (by simp),hl,?_⟩
   rw[hp];exact K.nx σ _ F2 _ (s1.trans s2) (R2.gU (o':=gB b dx ad w c j []) eq r2 (.head _) (λ_ z=>z) ⟨rfl,ay,by rw[au n1];exact y2,[],by rw[au n2];exact y3,.nil⟩) q1
  ·exact q1.elim
abbrev HD:=List D->(Str->Int->Prop)->Prop
def yG(sp:HD):Sp:=λvs H Q _=>∃F x dx rest ds Qd,vs=.ref x::rest/\mw F H/\H x=some (.ins kC dx [])/\H dx=some (.own x)/\F x=none/\F dx=none/\aE F rest ds/\sp ds Qd /\
 ∀H' F' ad w c,aq F F'->aq F' H'->(∀b o,b≠x->b≠dx->H b=some o->H' b=some o)->(gB x dx ad w c 0 []).rep F' H' x->F' x=none->F' dx=none->F' ad=none->H ad=none->(∀b o,F' b=some o->F b=some o\/Nw H b o)->Qd w c->Q .aQ H'
def xA(G:GE)(k:Nat)(sp:HD):Prop:=∃f fd ps k',k=k'+1/\cf G.P G.w G.K G.mg G.base ig k' f fd ps (yG sp)/\Mk G.K kC f/\Binds G.K fd ps []/\G.mg "Kept"=some (.ref kC)
theorem xA.mono{sp:HD}{j:Nat}(h:xA G j sp)(l:j<=k):xA G k sp:=by
 obtain⟨f,fd,ps,j',rfl,h1,h2⟩:=h;exact⟨f,fd,ps,k-1,by omega,h1.mono ⋯,h2⟩
structure InD(G:GE)(m qual:Str)(st:Stmt)(ps:List Str)(f:Addr)(fd:adf):Prop where
 F:BL G.K m qual st f fd
 makes:Mk G.K kC f
 b:Binds G.K fd ps []
 mg:G.mg "Kept"=some (.ref kC)
def kT(n:Nat)(a dx:Addr)(ds:List D):Sd:=cH n (.obj (BR a dx [])::ds.map .sh)
def inQ(x dx:Addr)(Q:Str->Int->Prop)(σ:Sd):Prop:=∃ad w c,σ[0]?=some (some (.obj (gB x dx ad w c 0 [])))/\Q w c
theorem Ik{F H:Hp}{x dx:Addr}{vs:List V}{ds:List D}(h1:H x=some (.ins kC dx []))(h2:H dx=some (.own x))(h3:F x=none)(h4:F dx=none)(h:aE F vs ds):iQ F H (.ref x::vs) (.obj (BR x dx [])::ds.map B.sh):=by
 have cs:∀ {i:Nat} {b:B},(B.obj (BR x dx [])::ds.map B.sh)[i]?=some b->(i=0/\b=.obj (BR x dx []))\/∃j d,i=j+1/\b=.sh d/\ds[j]?=some d:=λ{i b} h=>by
  cases i with
  | zero=>simp at h;exact .inl ⟨rfl,h.symm⟩
  | succ j =>
   simp only[adM]at h;obtain⟨d,e1,e2⟩:=cT h;exact .inr ⟨j,d,rfl,e1,e2⟩
 refine⟨by rw[adi,adi,acO,h.length],λi d e=>?_,λi xs e=>?_,λi o e=>?_,λi j ys zs b e1=>?_,λi j o p a b e1 e2 e3 e4 lA=>?_,λi j xs o a b e1=>?_⟩
 ·rcases cs e with⟨_,z⟩|⟨j,d',rfl,z,e2⟩
  ·cases z
  ·cases z
   obtain⟨v,e3,r⟩:=h.get e2;exact⟨v,by simpa using e3,r⟩
 ·rcases cs e with⟨_,z⟩|⟨j,d',rfl,z,e2⟩<;>cases z
 ·rcases cs e with⟨rfl,z⟩|⟨j,d',rfl,z,e2⟩
  ·cases z
   refine⟨x,by simp,⟨rfl,h1,h2⟩,λc hc=>?_⟩
   have hc:c∈[x,dx]:=hc;simp only[acV,ac8,or_false]at hc;rcases hc with rfl|rfl
   ·exact⟨h3,by rw[h1];exactλz=>nomatch z⟩
   ·exact⟨h4,by rw[h2];exactλz=>nomatch z⟩
  ·cases z
 ·rcases cs e1 with⟨_,z⟩|⟨j,d',rfl,z,e2⟩<;>cases z
 ·rcases cs e1 with⟨rfl,z⟩|⟨_,d',rfl,z,_⟩
  ·rcases cs e2 with⟨rfl,z⟩|⟨_,d',rfl,z,_⟩
   ·exact absurd rfl lA
   ·cases z
  ·cases z
 ·rcases cs e1 with⟨_,z⟩|⟨j,d',rfl,z,e2⟩<;>cases z
theorem Yt{x qual:Str}{st:Stmt}{f:Addr}{fd:adf}{N ps:List Str}{sp:HD}{t:b7}(hK:G.K=KF.K)(Fn:BL G.K x qual st f fd)(Sc:aB N ps (ag st))(ht:dj G k ⟨N,(ag st).names,[0],false,false,false,λ_ _=>False⟩ (ak st) t)
  (len:∀ds Q,sp ds Q->ds.length+1=ps.length)
  (body:∀ds Q,sp ds Q->∀a dx,t {nx:=inQ a dx Q,rt:=λ_ _=>False} (kT N.length a dx ds)):cf G.P G.w G.K G.mg G.base ig (k+1) f fd ps (yG sp):=by
 refine Fn.ok Sc (λvs H Q E h=>?_) (λiu A outer s H vs Q E hr h=>?_)
 ·obtain⟨F,x,dx,rest,ds,Qd,rfl,s,h1,h2,h3,h4,r,q,K⟩:=h
  rw[adi,r.length];exact len _ _ q
 ·obtain⟨F,x,dx,rest,ds,Qd,rfl,sm,h1,h2,h3,h4,r,q,K⟩:=h
  have ar:=Ik h1 h2 h3 h4 r;have ft:∀c,iJ (.ref x::rest) (B.obj (BR x dx [])::ds.map B.sh) c->c=x\/c=dx:=λc z=>by
   rcases z with⟨i,ys,e,_⟩|⟨i,o,b,e,e2,hm⟩
   ·cases i with
    | zero=>simp at e
    | succ j=>simp only[adM]at e;obtain⟨d,e1,_⟩:=cT e;cases e1
   ·cases i with
    | zero =>
     simp at e e2;subst e e2;have hm:c∈[x,dx]:=hm;simpa using hm
    | succ j=>simp only[adM]at e;obtain⟨d,e1,_⟩:=cT e;cases e1
  have cX:∀p∈sk (.ref x::rest) (B.obj (BR x dx [])::ds.map B.sh),p.1∈[0]:=λp hp=>by
   obtain⟨i,a⟩:=p;obtain⟨xs,e,_⟩:=eC.mp hp;cases i with
   | zero=>simp at e
   | succ j=>simp only[adM]at e;obtain⟨d,e1,_⟩:=cT e;cases e1
  refine⟨_,ht (nO ig G.P G.w G.K G.mg G.base N qual (ag st) f iu A outer s H E).JF ⟨H,F,sk (.ref x::rest) (.obj (BR x dx [])::ds.map B.sh),wq (.ref x::rest) (.obj (BR x dx [])::ds.map B.sh)⟩ ⟨rfl,rfl,rfl,hK,rfl,rfl,rfl,rfl,Sc.nd,cX,(λ_ h=>nomatch h),λ_=>rfl,Sc.kind,λ_ _ _=>rfl,λ_=>hr.hd,hr.dp,hr.un,λ_=>PassesOwn.never,λ_=>⟨rfl,rfl,rfl⟩,λ_ _ h=>h.elim,λh=>nomatch h⟩,F,kT N.length x dx ds,_,RS.cH _ sm ar,body ds Qd q x dx,?_⟩;refine⟨λσ H' F' ai s' R' q'=>?_,λv σ H' F' ai b s' R' r' q'=>q'.elim,λ_ _ _ _ _ _ h=>h.elim,λ_ _ _ _ _ _ h=>h.elim⟩;obtain⟨ad,w,c,e,q'⟩:=q';obtain⟨b,w1,w2,w3⟩:=R'.ob.obj 0 _ e;have w20:=w2;obtain⟨rfl,y1,y2,ks,y3,_⟩:=w20;have n1:ad≠b:=fE y3 y1 (λz=>nomatch z);have n2:ad≠dx:=fE y3 y2 (λz=>nomatch z);have had:H ad=none:=by
   rcases(w3 ad (by show ad∈[b,dx,ad];simp)).2.2 with z|z
   ·exact z
   ·rcases ft ad (rW (H:=H) (F:=F).mp (adg _ z))with z|z
    ·exact absurd z n1
    ·exact absurd z n2
  refine K H' F' ad w c s' R'.fr (λc o z1 z2 e=>R'.old c o e λy=>?_) w2 (w3 b (by show b∈[b,dx,ad];simp)).1 (w3 dx (by show dx∈[b,dx,ad];simp)).1 (w3 ad (by show ad∈[b,dx,ad];simp)).1 had R'.e9 q'
  rcases ft c (rW.mp y)with z|z
  ·exact z1 z
  ·exact z2 z
theorem InD.fi{m qual:Str}{st:Stmt}{ps N:List Str}{f:Addr}{fd:adf}{t:b7}{sp:HD}(d:InD G m qual st ps f fd)(hK:G.K=KF.K)(Sc:aB N ps (ag st))(ht:dj G k ⟨N,(ag st).names,[0],false,false,false,λ_ _=>False⟩ (ak st) t)
  (len:∀ds Q,sp ds Q->ds.length+1=ps.length) (body:∀ds Q,sp ds Q->∀a dx,t {nx:=inQ a dx Q,rt:=λ_ _=>False} (kT N.length a dx ds)):xA G (k+1+1) sp:=
 ⟨f,fd,ps,k+1,rfl,Yt hK d.F Sc ht len body,d.makes,d.b,d.mg⟩
def tMK(sp:HD)(t:fu):TX:=λσ Q=>t σ λds aw=>sp ds λw c=>∀a dx ad,Q (.obj (gB a dx ad w c 0 [])) aw
theorem Uo{sp:HD}{e:Expr}{es:List Expr}{t:fu}{p pos:Pos}(h:xA G k sp)(ha:xu G k S (e::es) t)(hg:S.sc.lookup ("Kept":Str)=some .globalImplicit:=by rfl)
  (he:∀env,acW (e::es) env=(false,eval e env)::acW es env:=by exactλ_=>Vc.cN rfl) (dJ:∀env,(backTo pos (acW es env)).any (·.1)=false:=by intro _;rfl) (hh:S.jh=false:=by rfl):EX G k S (.Call (.Name "Kept" p) (e::es) [] pos) (tMK sp t):=.mk λX Y ok=>by
 obtain⟨f,fd,ps,k',rfl,h1,h2,h3,h4⟩:=h;have rY:cf X.prog X.w X.K X.mg X.base ig k' f fd ps (yG sp):=by rw[ok.P,ok.w,ok.K,ok.mg,ok.base];exact h1
 refine aO (JZ (E:=E0) (dvs:=[]) (ds:=[]) (by rw[ok.K];exact h2) rY (ok.room hh) (du ok hg) (by rw[ok.mg];exact h4) (by rw[ok.K];exact h3) .nil i7 (ha X Y ok) ∅ (he _) (dJ _)) λσ H Q q=>?_
 obtain⟨F,ai,Qd,R,q,K⟩:=q;refine⟨F,ai,_,R,q,λvs H1 F1 ds aw s1 R1 r1 q1=>?_⟩;intro x dx hx YJ cz;have fx:F1 x=none:=same_none R1.fr hx;have fdx:F1 dx=none:=same_none R1.fr YJ;have up:∀ {b:Addr} {o:HO},H1 b=some o->(upd (upd H1 dx (.own x)) x (.ins kC dx [])) b=some o:=λ{b o} e=>by
  rw[au (bg e hx),au (bg e YJ)];exact e
 refine⟨F1,x,dx,vs++[],ds,_,rfl,⟨λb o e=>up (R1.fr b o e),R1.ob.tab⟩,ay,by rw[au cz,ay],fx,fdx,by rw[adH];exact r1,q1,λH' F' ad w c u1 u2 u3 u4 u5 u6 u7 u8 u9 u10=>⟨rfl,?_⟩⟩
 have sH:aq H1 H':=λb o e=>u3 b o (bg e hx) (bg e YJ) (up e);have had:H1 ad=none:=by
  cases z:H1 ad with
  | none=>rfl
  | some o=>rw[up z]at u8;cases u8
 have R2:RS Y F' aw σ H':=R1.call u1 u2 sH λb o z=>(u9 b o z).imp id λy=>y.imp (λy=>by
  cases z:H1 b with
  | none=>rfl
  | some o=>rw[up z]at y;cases y) id
 refine K _ H' F' (.obj (gB x dx ad w c 0 [])) aw (s1.trans u1) R2 ⟨x,rfl,u4,λb hb=>?_⟩ (u10 x dx ad);obtain⟨_,g1,g2,ks,g3,_⟩:=u4;have hb:b∈[x,dx,ad]:=hb;simp only[acV,ac8,or_false]at hb;rcases hb with rfl|rfl|rfl
 ·exact⟨u5,(by rw[g1];exactλz=>nomatch z),(R1.b6 hx).1,R1.df hx⟩
 ·exact⟨u6,(by rw[g2];exactλz=>nomatch z),(R1.b6 YJ).1,R1.df YJ⟩
 ·exact⟨u7,(by rw[g3];exactλz=>nomatch z),(R1.b6 had).1,R1.df had⟩
end Vc
namespace Vc
open PySem L2
variable [KF]
variable {G:GE}{k:Nat}{S:Stat}
def Kv(t:TX)(te:TD):TX:=λσ Q=>t σ λx aw=>match x with
 | .own xs=>xs.length<acZ/\te aw λ_ aM=>Q (.val .aQ) aM
 | _=>False
theorem qJ{o e:Expr}{t:TX}{te:TD}{apos cn:Pos}(ho:EX G k S o t)(he:ED G k S e te)(hb:∀env,aev o "append" env (eval o env)=eval o env:=by intro _;rfl)
  (sf:∀env,((backTo cn (acW [e] env)).all (λx=>!x.1)&&(backToKw cn (aeB [] env)).all (λx=>x.1.isSome)&&decide (([e]:List Expr).length+([]:List Keyword).length+(if([]:List Keyword).isEmpty then 0 else 1)<30))=true:=by intro _;rfl)
  (hline:(apos.endLine==cn.line)=true:=by rfl) (hs:∀env,acW [e] env=[(false,eval e env)]:=by intro _;rfl) (Jb:S.ex=λ_ _=>False:=by rfl):EX G k S (.Call (.Attribute o "append" apos) [e] [] cn) (Kv t te):=.mk λX Y ok=>by
 have ha:PA X [e] (λσ H Q=>∃Y':bz,(Y'.io=Y.io/\Y'.ob=Y.ob)/\d3 (lD Y' te) kU σ H Q):=λpos pins s σ H Q I ⟨Y',hy,q⟩=>b5 (he X Y' (ok.to Jb hy.1 hy.2)) dW (by rw[hs];rfl) pos pins s σ H Q I q
 refine aO (z0 F.plainAttrs_list F.slot_list_append F.type_list_append lN (ho X Y ok) ha (hb _) (sf _) hline (by rw[hs];rfl) (by rfl)) λσ H Q q=>?_
 obtain⟨F,ai,Qd,R,q,K⟩:=q;refine⟨F,ai,_,R,q,λv1 H1 F1 x aw s1 R1 r1 q1=>?_⟩
 split at q1
 ·rename_i xs
  obtain⟨a,vs,rfl,e1,e2,e3,e4,e5⟩:=r1;have ap:nC Y F1 aw σ H1 a (.lst vs):=⟨e1,e3,e5,e4,λz=>R1.ob.MB a z e4,λ_ z=>nomatch z⟩;have hP:∀b∈[a],∃o,nC Y F1 aw σ H1 b o:=λb hb=>by rw[acU.mp hb];exact⟨_,ap⟩
  refine⟨.inl ⟨rfl,vs,.of e1⟩,Y.oH F1 H1 [a],⟨rfl,rfl⟩,F1,aw,_,R1.Ad [a] hP,q1.2,λv2 H2 F2 d aM s2 R2 r2 q2=>?_⟩;obtain⟨R3,k3⟩:=R1.iI hP R2;have ap2:=k3 a _ (acU.mpr rfl) ap;exact⟨a,vs,v2,rfl,rfl,ap2.h,by rw[e2.length];exact q1.1,K .aQ _ F2 (.val .aQ) _ (s1.trans s2) (R3.other ap2.f ap2.z ap2.no) .aQ q2⟩
 ·exact q1.elim
end Vc
namespace Vc
open PySem L2
variable [KF]
variable {G:GE}{k:Nat}{S:Stat}
theorem we{y:List D}(h:gT y=true)(ds:List D):(B.own y::ds.map B.sh).all Rr=true:=by
 rw[aeC,List.all_map,adn];exact⟨h,ac4.mpr λ_ _=>rfl⟩
theorem ln0{α:Type}{P:List α->Prop}(h:P [])(us:List α)(e:us.length=0):P us:=List.eq_nil_of_length_eq_zero e ▸ h
theorem Wo{α:Type}{n:Nat}{P:List α->Prop}(h:∀(a:α) (r:List α),r.length=n->P (a::r)):∀us:List α,us.length=n+1->P us:=λus e=>by
 cases us with
 | nil=>cases e
 | cons a r=>exact h a r (Nat.succ.inj e)
@[elab_as_elim] theorem Ft{α:Type} {P:List α->Prop} (h:∀a,P [a]) (us:List α) (e:us.length=1):P us:=Wo (λa=>ln0 (P:=λr=>P (a::r)) (h a)) us e
@[elab_as_elim] theorem ln2{α:Type} {P:List α->Prop} (h:∀a b,P [a,b]) (us:List α) (e:us.length=2):P us:=Wo (λa=>Ft (P:=λr=>P (a::r)) (h a)) us e
@[elab_as_elim] theorem Jv{α:Type} {P:List α->Prop} (h:∀a b c,P [a,b,c]) (us:List α) (e:us.length=3):P us:=Wo (λa=>ln2 (P:=λr=>P (a::r)) (h a)) us e
@[elab_as_elim] theorem ln4{α:Type} {P:List α->Prop} (h:∀a b c d,P [a,b,c,d]) (us:List α) (e:us.length=4):P us:=Wo (λa=>Jv (P:=λr=>P (a::r)) (h a)) us e
@[elab_as_elim] theorem ln5{α:Type} {P:List α->Prop} (h:∀a b c d e,P [a,b,c,d,e]) (us:List α) (e:us.length=5):P us:=Wo (λa=>ln4 (P:=λr=>P (a::r)) (h a)) us e
@[elab_as_elim] theorem ln6{α:Type} {P:List α->Prop} (h:∀a b c d e f,P [a,b,c,d,e,f]) (us:List α) (e:us.length=6):P us:=Wo (λa=>ln5 (P:=λr=>P (a::r)) (h a)) us e
end Vc
set_option maxHeartbeats 0
namespace K31
open PySem L2 Vc
section
def top(i:Nat):Stmt:=PySem.Challenge.pw_closepoints_k31_kept_doing_by_doing.main.body.getD i (.Pass ⟨0,0,0,0⟩)
variable [KF]
structure Gl(G:GE):Prop where
 kg:KG G
 z_abs:G.mg "abs"=none
 z_bool:G.mg "bool"=none
 z_int:G.mg "int"=none
 z_isinstance:G.mg "isinstance"=none
 z_len:G.mg "len"=none
 z_list:G.mg "list"=none
 z_max:G.mg "max"=none
 z_min:G.mg "min"=none
 z_range:G.mg "range"=none
 z_sorted:G.mg "sorted"=none
 z_sum:G.mg "sum"=none
 z_tuple:G.mg "tuple"=none
 z_zip:G.mg "zip"=none
 AB:MG G "SQUARES" (.str "squares")
 p8:MG G "STREETS" (.str "streets")
variable {G:GE}{k:Nat}
abbrev kj:Stmt:=top 9
abbrev Cb:List Str:=["count"]
local macro_rules | `(tactic| walk_at "5") => `(tactic| exact ⟨rfl,rfl,rfl,by decide +kernel,rfl,by decide +kernel,by decide +kernel⟩)
theorem UI:aB Cb ["count"] (ag kj):=by walk_at "5"
def GZ:b7:=(cA (yO (aW Jz (af 0) (bh (.int 1))) (aW Yy (af 0) (bh (.int 3)))) wO hZ)
theorem XY(E:Gl G):dj G k ⟨Cb,(ag kj).names,[],false,false,false,λ_ _=>False⟩ (ak kj) (GZ):=(aG (cS (HX (Gn (aU CL (ae 0) ax) (wA (aU NC (ae 0) ax)))) (aG iC) bP))
abbrev sR:Stmt:=top 10
abbrev MH:List Str:=["point","count"]
theorem aaM:aB MH ["point","count"] (ag sR):=by walk_at "5"
def VF:b7:=(cA (aW neT (bu (eN gD (bH (af 0) dX))) (af 1)) wO hZ)
theorem abv(E:Gl G):dj G k ⟨MH,(ag sR).names,[],false,false,false,λ_ _=>False⟩ (ak sR) (VF):=(aG (cS (aU uJ (bB (dh f_len E.z_len (aL (ae 0) bx) (by decide +kernel))) (ae 1)) (aG iC) bP))
abbrev j4:Stmt:=top 11
abbrev B4:List Str:=["points","point"]
theorem UA:aB B4 ["points"] (ag j4):=by walk_at "5"
def GQ(gj:bw)(kQ:bw):b7:=(eY (cQ (aj [] (af 0))) (fb 1) (bO (nz (jo gj (aS (aj [] (bu (eN gD (bH (af 1) dX)))) tN))) (nz (jo kQ (aS (aj [] (af 1)) (aS (aj [] (bu (eN gD (bH (hW (af 0) (bh (.int 0))) dX)))) tN))))))
theorem XQ(E:Gl G){gj:bw}(qy:c9 G k "need_count" gj){kQ:bw}(AY:c9 G k "need_as_many_numbers" kQ):dj G k ⟨B4,(ag j4).names,[],false,false,false,λ_ _=>False⟩ (ak j4) (GQ gj kQ):=(aG (oS (fA (aH (ae 0))) (aY 1) (av (ck (bG qy (ah (aH (bB (dh f_len E.z_len (aL (ae 1) bx) (by decide +kernel)))) aD))) (aG (ck (bG AY (ah (aH (ae 1)) (ah (aH (bB (dh f_len E.z_len (aL (cY (ae 0) ax) bx) (by decide +kernel)))) aD))))))))
abbrev kI:Stmt:=top 12
abbrev Ct:List Str:=["way"]
theorem UU:aB Ct ["way"] (ag kI):=by walk_at "5"
def Ha:b7:=(cA (hJ (aW neT (af 0) (bh (.str "streets"))) (aW neT (af 0) (bh (.str "squares")))) wO hZ)
theorem X9(E:Gl G):dj G k ⟨Ct,(ag kI).names,[],false,false,false,λ_ _=>False⟩ (ak kI) (Ha):=(aG (cS (HX (wy (aU uJ (ae 0) (Gh E.p8)) (oJ (aU uJ (ae 0) (Gh E.AB))))) (aG iC) bP))
abbrev sS:Stmt:=top 13
abbrev MI:List Str:=["points","way"]
theorem aaN:aB MI ["points","way"] (ag sS):=by walk_at "5"
def VG(tS:bw)(gm:bw):b7:=(bO (nz (jo tS (aS (aj [] (af 0)) tN))) (nz (jo gm (aS (aj [] (af 1)) tN))))
theorem abw(E:Gl G){tS:bw}(Et:c9 G k "need_points" tS){gm:bw}(qA:c9 G k "need_way" gm):dj G k ⟨MI,(ag sS).names,[],false,false,false,λ_ _=>False⟩ (ak sS) (VG tS gm):=(av (ck (bG Et (ah (aH (ae 0)) aD))) (aG (ck (bG qA (ah (aH (ae 1)) aD)))))
abbrev kn:Stmt:=top 14
abbrev Cd:List Str:=["points","place"]
theorem UJ:aB Cd ["points","place"] (ag kn):=by walk_at "5"
def G0:b7:=(cA (yO (aW Jz (af 1) (bh (.int 0))) (aW geT (af 1) (bu (eN gD (bH (af 0) dX))))) wO hZ)
theorem XZ(E:Gl G):dj G k ⟨Cd,(ag kn).names,[],false,false,false,λ_ _=>False⟩ (ak kn) (G0):=(aG (cS (HX (Gn (aU CL (ae 1) ax) (wA (aU Xi (ae 1) (bB (dh f_len E.z_len (aL (ae 0) bx) (by decide +kernel))))))) (aG iC) bP))
abbrev kh:Stmt:=top 15
abbrev Ca:List Str:=["bound"]
theorem UH:aB Ca ["bound"] (ag kh):=by walk_at "5"
def GY:b7:=(cA (aW Jz (af 0) (bh (.int 0))) wO hZ)
theorem XX(E:Gl G):dj G k ⟨Ca,(ag kh).names,[],false,false,false,λ_ _=>False⟩ (ak kh) (GY):=(aG (cS (aU CL (ae 0) ax) (aG iC) bP))
abbrev jZ:Stmt:=top 17
abbrev B2:List Str:=["way","point","other","differences"]
theorem Uy:aB B2 ["way","point","other"] (ag jZ):=by walk_at "5"
def GO:b7:=(bO (eh [] 3 (dz [] [none,none] (KH (aS (aj [] (af 1)) (aS (aj [] (af 2)) tN))) (BO 2 (gC (fb 0) (gC (fb 1) BM))) d4 (aj [] (bu (eN Ii (bH (bu (bF pe (af 0) (af 1))) dX)))))) (bO (cA (aW eqT (af 0) (bh (.str "streets"))) (dH [] (eN sumF (bH (af 3) dX))) hZ) (dH [] (eN sumF (bH (bu (dz [] [none] (cQ (aj [] (af 3))) (fb 0) d4 (aj [] (bu (bF lQ (af 0) (af 0)))))) dX)))))
local macro_rules | `(tactic| walk_at "6") => `(tactic| first|decide +kernel | (dsimp only[aK,az];decide +kernel))
theorem XN(E:Gl G):dj G k ⟨B2,(ag jZ).names,[],false,false,false,λ_ _=>False⟩ (ak jZ) (GO):=(av (Gy 3 (N':=["here","there"]) (Mh (ah (aH (ae 1)) (ah (aH (ae 2)) aD)) E.z_zip) ⟨rfl,by walk_at "6",by walk_at "6",by walk_at "6",by walk_at "6",rfl,by walk_at "6"⟩ (jC (bN (aY 0) (bN (aY 1) fU))) jw (aH (bB (dh Yh E.z_abs (aL (bB (jT (ae 0) (ae 1))) bx) (by decide +kernel))))) (av (cS (aU fQ (ae 0) (Gh E.p8)) (aG (aX (dh LZ E.z_sum (aL (ae 3) bx) (by decide +kernel)))) bP) (aG (aX (dh LZ E.z_sum (aL (bB (eI (N':=["difference"]) (fA (aH (ae 3))) ⟨rfl,by walk_at "6",by walk_at "6",by walk_at "6",by walk_at "6",rfl,by walk_at "6"⟩ (aY 0) jw (aH (bB (jS (ae 0) (ae 0)))))) bx) (by decide +kernel))))))
abbrev sU:Stmt:=top 18
abbrev MK:List Str:=["points","way","pairs","i","j"]
theorem aaP:aB MK ["points","way"] (ag sU):=by walk_at "5"
def abk(gh:bw):b7:=(bO (eh [] 2 (xt tN)) (bO (eY (pL (bH (bu (eN gD (bH (af 0) dX))) dX)) (fb 3) (eY (Kk (bH (bu (bF eZ (af 3) (bh (.int 1)))) (bH (bu (eN gD (bH (af 0) dX))) dX))) (fb 4) (nz (GH (af 2) (aj [] (uq (aS (aj [] (bu (jo gh (aS (aj [] (af 1)) (aS (aj [] (hW (af 0) (af 3))) (aS (aj [] (hW (af 0) (af 4))) tN)))))) (aS (aj [] (af 3)) (aS (aj [] (af 4)) tN))))))))) (dH [] (oX (af 2)))))
theorem aby(E:Gl G){gh:bw}(qw:c9 G k "far_between" gh):dj G k ⟨MK,(ag sU).names,[],false,false,false,λ_ _=>False⟩ (ak sU) (abk gh):=(av (bS 2 (fH aD)) (av (oS (ji (aL (bB (dh f_len E.z_len (aL (ae 0) bx) (by decide +kernel))) bx) E.z_range) (aY 3) (aG (oS (Qu (aL (bB (dZ (ae 3) ax)) (aL (bB (dh f_len E.z_len (aL (ae 0) bx) (by decide +kernel))) bx)) E.z_range) (aY 4) (aG (ck (wz (ae 2) (aH (d0 (ah (aH (bB (bG qw (ah (aH (ae 1)) (ah (aH (cY (ae 0) (ae 3))) (ah (aH (cY (ae 0) (ae 4))) aD)))))) (ah (aH (ae 3)) (ah (aH (ae 4)) aD))))))))))) (aG (aX (gv (ae 2))))))
abbrev j9:Stmt:=top 20
abbrev B8:List Str:=["points","way","bound"]
theorem UE:aB B8 ["points","way","bound"] (ag j9):=by walk_at "5"
def GW(eU:bw)(tX:bw)(kR:bw):b7:=(bO (nz (jo eU (aS (aj [] (af 0)) (aS (aj [] (af 1)) tN)))) (bO (nz (jo tX (aS (aj [] (af 2)) tN))) (dH [] (dz [] [none,none,none,some 2] (cQ (aj [] (bu (jo kR (aS (aj [] (af 0)) (aS (aj [] (af 1)) tN)))))) (BO 3 (gC (fb 0) (gC (fb 1) (gC (fb 2) BM)))) (aW leT (af 0) (af 3)) (aj [] (uq (aS (aj [] (af 1)) (aS (aj [] (af 2)) tN))))))))
theorem XU(E:Gl G){eU:bw}(rZ:c9 G k "need_points_and_way" eU){tX:bw}(Ez:c9 G k "need_bound" tX){kR:bw}(AZ:c9 G k "pairs_by_places" kR):dj G k ⟨B8,(ag j9).names,[],false,false,false,λ_ _=>False⟩ (ak j9) (GW eU tX kR):=(av (ck (bG rZ (ah (aH (ae 0)) (ah (aH (ae 1)) aD)))) (av (ck (bG Ez (ah (aH (ae 2)) aD))) (aG (aX (eI (N':=["far","i","j","bound"]) (fA (aH (bB (bG AZ (ah (aH (ae 0)) (ah (aH (ae 1)) aD)))))) ⟨rfl,by walk_at "6",by walk_at "6",by walk_at "6",by walk_at "6",rfl,by walk_at "6"⟩ (jC (bN (aY 0) (bN (aY 1) (bN (aY 2) fU)))) (nJ (aU Xj (ae 0) (ae 3))) (aH (d0 (ah (aH (ae 1)) (ah (aH (ae 2)) aD)))))))))
abbrev tf:Stmt:=top 22
abbrev MQ:List Str:=["points","way","point","places"]
theorem aaV:aB MQ ["points","way","point","places"] (ag tf):=by walk_at "5"
def VO(gh:bw):b7:=(dH [] (oX (Ky (bu (dz [] [none,some 1,some 2,some 0] (cQ (aj [] (af 3))) (fb 0) d4 (aj [] (uq (aS (aj [] (bu (jo gh (aS (aj [] (af 1)) (aS (aj [] (af 2)) (aS (aj [] (hW (af 3) (af 0))) tN)))))) (aS (aj [] (af 0)) tN)))))) (aj [] (bh .aQ)))))
theorem abE(E:Gl G){gh:bw}(qw:c9 G k "far_between" gh):dj G k ⟨MQ,(ag tf).names,[],false,false,false,λ_ _=>False⟩ (ak tf) (VO gh):=(aG (aX (gv (Mv (bB (eI (N':=["place","way","point","points"]) (fA (aH (ae 3))) ⟨rfl,by walk_at "6",by walk_at "6",by walk_at "6",by walk_at "6",rfl,by walk_at "6"⟩ (aY 0) jw (aH (d0 (ah (aH (bB (bG qw (ah (aH (ae 1)) (ah (aH (ae 2)) (ah (aH (cY (ae 3) (ae 0))) aD)))))) (ah (aH (ae 0)) aD)))))) (aH g0) E.z_min))))
abbrev jX:Stmt:=top 23
abbrev BZ:List Str:=["points","way","place","others"]
theorem Uw:aB BZ ["points","way","place"] (ag jX):=by walk_at "5"
def GL(As:bw):b7:=(bO (eh [] 3 (dz [] [none,some 2] (pL (bH (bu (eN gD (bH (af 0) dX))) dX)) (fb 0) (aW neT (af 0) (af 1)) (aj [] (af 0)))) (dH [] (jo As (aS (aj [] (af 0)) (aS (aj [] (af 1)) (aS (aj [] (hW (af 0) (af 2))) (aS (aj [] (af 3)) tN)))))))
theorem XJ(E:Gl G){As:bw}(Qj:c9 G k "nearest_among" As):dj G k ⟨BZ,(ag jX).names,[],false,false,false,λ_ _=>False⟩ (ak jX) (GL As):=(av (Gy 3 (N':=["other","place"]) (ji (aL (bB (dh f_len E.z_len (aL (ae 0) bx) (by decide +kernel))) bx) E.z_range) ⟨rfl,by walk_at "6",by walk_at "6",by walk_at "6",by walk_at "6",rfl,by walk_at "6"⟩ (aY 0) (nJ (aU uJ (ae 0) (ae 1))) (aH (ae 0))) (aG (aX (bG Qj (ah (aH (ae 0)) (ah (aH (ae 1)) (ah (aH (cY (ae 0) (ae 2))) (ah (aH (ae 3)) aD))))))))
abbrev j3:Stmt:=top 24
abbrev B3:List Str:=["points","way"]
theorem Uz:aB B3 ["points","way"] (ag j3):=by walk_at "5"
def GP(eU:bw)(kR:bw):b7:=(bO (nz (jo eU (aS (aj [] (af 0)) (aS (aj [] (af 1)) tN)))) (dH [] (oX (Ky (bu (jo kR (aS (aj [] (af 0)) (aS (aj [] (af 1)) tN)))) (aj [] (bh .aQ))))))
theorem XO(E:Gl G){eU:bw}(rZ:c9 G k "need_points_and_way" eU){kR:bw}(AZ:c9 G k "pairs_by_places" kR):dj G k ⟨B3,(ag j3).names,[],false,false,false,λ_ _=>False⟩ (ak j3) (GP eU kR):=(av (ck (bG rZ (ah (aH (ae 0)) (ah (aH (ae 1)) aD)))) (aG (aX (gv (Mv (bB (bG AZ (ah (aH (ae 0)) (ah (aH (ae 1)) aD)))) (aH g0) E.z_min)))))
abbrev kc:Stmt:=top 25
abbrev B9:List Str:=["points","way","place"]
theorem UG:aB B9 ["points","way","place"] (ag kc):=by walk_at "5"
def GX(eU:bw)(tY:bw)(tP:bw):b7:=(bO (nz (jo eU (aS (aj [] (af 0)) (aS (aj [] (af 1)) tN)))) (bO (nz (jo tY (aS (aj [] (af 0)) (aS (aj [] (af 2)) tN)))) (dH [] (jo tP (aS (aj [] (af 0)) (aS (aj [] (af 1)) (aS (aj [] (af 2)) tN)))))))
theorem XW(E:Gl G){eU:bw}(rZ:c9 G k "need_points_and_way" eU){tY:bw}(EA:c9 G k "need_place" tY){tP:bw}(Ep:c9 G k "nearest_other" tP):dj G k ⟨B9,(ag kc).names,[],false,false,false,λ_ _=>False⟩ (ak kc) (GX eU tY tP):=(av (ck (bG rZ (ah (aH (ae 0)) (ah (aH (ae 1)) aD)))) (av (ck (bG EA (ah (aH (ae 0)) (ah (aH (ae 2)) aD)))) (aG (aX (bG Ep (ah (aH (ae 0)) (ah (aH (ae 1)) (ah (aH (ae 2)) aD))))))))
abbrev sW:Stmt:=inClass (top 27) 0
abbrev MM:List Str:=["self","way","count"]
theorem aaR:aB MM ["self","way","count"] (ag sW):=by walk_at "5"
def VJ(gj:bw)(gm:bw):b7:=(bO (nz (jo gj (aS (aj [0] (af 2)) tN))) (bO (nz (jo gm (aS (aj [0] (af 1)) tN))) (bO (tKI 0 "way" (af 1)) (bO (tKI 0 "count" (af 2)) (bO (tKN 0) (tKZ 0 (bh (.int 0))))))))
theorem abA(E:Gl G){gj:bw}(qy:c9 G k "need_count" gj){gm:bw}(qA:c9 G k "need_way" gm):dj G k ⟨MM,(ag sW).names,[0],false,false,false,λ_ _=>False⟩ (ak sW) (VJ gj gm):=(av (ck (bG qy (ah (aH (ae 2)) aD))) (av (ck (bG qA (ah (aH (ae 1)) aD))) (av (Gz 0 E.kg (ae 1) (wB 0)) (av (Gz 0 E.kg (ae 2) (wB 0)) (av (Ut 0 E.kg) (aG (Ko 0 E.kg ax (wB 0))))))))
abbrev kA:Stmt:=inClass (top 27) 1
abbrev Ck:List Str:=["self","point","name"]
theorem UO:aB Ck ["self","point"] (ag kA):=by walk_at "5"
def G5(kQ:bw):b7:=(bO (nz (jo kQ (aS (aj [0] (af 1)) (aS (aj [0] (Vz "count" (mR 0))) tN)))) (bO (eh [0] 2 (oX (Vz "ever_put" (mR 0)))) (bO (tKP 0 (af 2) (aj [0] (af 1))) (bO (tKE 0 (bu (bF eZ (af 2) (bh (.int 1))))) (dH [0] (oX (af 2)))))))
theorem X4(E:Gl G){kQ:bw}(AY:c9 G k "need_as_many_numbers" kQ):dj G k ⟨Ck,(ag kA).names,[0],false,false,false,λ_ _=>False⟩ (ak kA) (G5 kQ):=(av (ck (bG AY (ah (aH (ae 1)) (ah (aH (Gj E.kg (oP 0))) aD)))) (av (bS 2 (gv (Gj E.kg (oP 0)))) (av (Uv 0 E.kg (aH (ae 1)) (ae 2) (wB 0)) (av (Kn 0 E.kg (bB (dZ (ae 2) ax)) (wB 0)) (aG (aX (gv (ae 2))))))))
abbrev kq:Stmt:=inClass (top 27) 2
abbrev Cg:List Str:=["self","name"]
theorem UL:aB Cg ["self","name"] (ag kq):=by walk_at "5"
def G2(eW:bw):b7:=(bO (nz (Kz (eE eW) 0 (pC (aj [0] (af 1)) iG))) (tKD 0 (af 1)))
theorem X1(E:Gl G){eW:bw}(sd:cC G k "need_name" (eE eW)):dj G k ⟨Cg,(ag kq).names,[0],false,false,false,λ_ _=>False⟩ (ak kq) (G2 eW):=(av (ck (oO true 0 sd E.kg (fv (aH (ae 1)) cJ))) (aG (Uu 0 E.kg (ae 1) (wB 0))))
abbrev j6:Stmt:=inClass (top 27) 3
abbrev B5:List Str:=["self"]
theorem UB:aB B5 ["self"] (ag j6):=by walk_at "5"
def GR:b7:=(dH [] (eN sortI (bH (Ww (aj [] (af 0))) dX)))
theorem XR(E:Gl G):dj G k ⟨B5,(ag j6).names,[],false,false,false,λ_ _=>False⟩ (ak j6) (GR):=(aG (aX (dh jy E.z_sorted (aL (Ki E.kg (aH (ae 0))) bx) (by decide +kernel))))
abbrev j7:Stmt:=inClass (top 27) 4
abbrev B6:List Str:=["self","name"]
theorem UC:aB B6 ["self","name"] (ag j7):=by walk_at "5"
def GU(eW:bw):b7:=(bO (nz (ux (eE eW) (aj [] (af 0)) (pC (aj [] (af 1)) iG))) (dH [] (oX (pO (Ww (aj [] (af 0))) (af 1)))))
theorem XS(E:Gl G){eW:bw}(sd:cC G k "need_name" (eE eW)):dj G k ⟨B6,(ag j7).names,[],false,false,false,λ_ _=>False⟩ (ak j7) (GU eW):=(av (ck (oN sd E.kg (aH (ae 0)) (fv (aH (ae 1)) cJ))) (aG (aX (gv (mP (Ki E.kg (aH (ae 0))) (ae 1))))))
abbrev kB:Stmt:=inClass (top 27) 5
abbrev Cm:List Str:=["self","found","names"]
theorem UP:aB Cm ["self"] (ag kB):=by walk_at "5"
def G6(tR:bw)(eV:bw)(bD:bw):b7:=(bO (eh [] 1 (jo tR (aS (aj [] (bu (ux (eE eV) (aj [] (af 0)) iG))) (aS (aj [] (Vz "way" (af 0))) tN)))) (bO (cA (aW QA (af 1) (bh .aQ)) (dH [] (oX (bh .aQ))) hZ) (bO (eh [] 2 (ux (eE bD) (aj [] (af 0)) iG)) (dH [] (oX (uq (aS (aj [] (hW (af 1) (bh (.int 0)))) (aS (aj [] (hW (af 2) (hW (af 1) (bh (.int 1))))) (aS (aj [] (hW (af 2) (hW (af 1) (bh (.int 2))))) tN)))))))))
theorem X5(E:Gl G){tR:bw}(Es:c9 G k "nearest_two" tR){eV:bw}(r9:cC G k "plain_points" (eE eV)){bD:bw}(de:cC G k "names" (eE bD)):dj G k ⟨Cm,(ag kB).names,[],false,false,false,λ_ _=>False⟩ (ak kB) (G6 tR eV bD):=(av (bS 1 (bG Es (ah (aH (bB (fZ r9 E.kg (aH (ae 0))))) (ah (aH (Gj E.kg (ae 0))) aD)))) (av (cS (aU CK (ae 1) g0) (aG (aX (gv g0))) bP) (av (bS 2 (fZ de E.kg (aH (ae 0)))) (aG (aX (gv (d0 (ah (aH (cY (ae 1) ax)) (ah (aH (cY (ae 2) (cY (ae 1) ax))) (ah (aH (cY (ae 2) (cY (ae 1) ax))) aD))))))))))
abbrev jY:Stmt:=inClass (top 27) 6
abbrev B1:List Str:=["self","name","names","found"]
theorem Ux:aB B1 ["self","name"] (ag jY):=by walk_at "5"
def GN(eW:bw)(bD:bw)(tW:bw)(eV:bw):b7:=(bO (nz (ux (eE eW) (aj [] (af 0)) (pC (aj [] (af 1)) iG))) (bO (eh [] 2 (ux (eE bD) (aj [] (af 0)) iG)) (bO (eh [] 3 (jo tW (aS (aj [] (bu (ux (eE eV) (aj [] (af 0)) iG))) (aS (aj [] (Vz "way" (af 0))) (aS (aj [] (VA (af 2) (aj [] (af 1)))) tN))))) (bO (cA (aW QA (af 3) (bh .aQ)) (dH [] (oX (bh .aQ))) hZ) (dH [] (oX (uq (aS (aj [] (hW (af 3) (bh (.int 0)))) (aS (aj [] (hW (af 2) (hW (af 3) (bh (.int 1))))) tN)))))))))
theorem XM(E:Gl G){eW:bw}(sd:cC G k "need_name" (eE eW)){bD:bw}(de:cC G k "names" (eE bD)){tW:bw}(Ey:c9 G k "nearest_of" tW){eV:bw}(r9:cC G k "plain_points" (eE eV)):dj G k ⟨B1,(ag jY).names,[],false,false,false,λ_ _=>False⟩ (ak jY) (GN eW bD tW eV):=(av (ck (oN sd E.kg (aH (ae 0)) (fv (aH (ae 1)) cJ))) (av (bS 2 (fZ de E.kg (aH (ae 0)))) (av (bS 3 (bG Ey (ah (aH (bB (fZ r9 E.kg (aH (ae 0))))) (ah (aH (Gj E.kg (ae 0))) (ah (aH (Kj (ae 2) (aH (ae 1)))) aD))))) (av (cS (aU CK (ae 3) g0) (aG (aX (gv g0))) bP) (aG (aX (gv (d0 (ah (aH (cY (ae 3) ax)) (ah (aH (cY (ae 2) (cY (ae 3) ax))) aD))))))))))
abbrev ko:Stmt:=inClass (top 27) 7
abbrev Ce:List Str:=["self","bound","names"]
theorem UK:aB Ce ["self","bound"] (ag ko):=by walk_at "5"
def G1(bD:bw)(tV:bw)(eV:bw):b7:=(bO (eh [] 2 (ux (eE bD) (aj [] (af 0)) iG)) (dH [] (dz [] [none,none,some 2] (cQ (aj [] (bu (jo tV (aS (aj [] (bu (ux (eE eV) (aj [] (af 0)) iG))) (aS (aj [] (Vz "way" (af 0))) (aS (aj [] (af 1)) tN))))))) (BO 2 (gC (fb 0) (gC (fb 1) BM))) d4 (aj [] (uq (aS (aj [] (hW (af 2) (af 0))) (aS (aj [] (hW (af 2) (af 1))) tN)))))))
theorem X0(E:Gl G){bD:bw}(de:cC G k "names" (eE bD)){tV:bw}(Ex:c9 G k "near_pairs" tV){eV:bw}(r9:cC G k "plain_points" (eE eV)):dj G k ⟨Ce,(ag ko).names,[],false,false,false,λ_ _=>False⟩ (ak ko) (G1 bD tV eV):=(av (bS 2 (fZ de E.kg (aH (ae 0)))) (aG (aX (eI (N':=["i","j","names"]) (fA (aH (bB (bG Ex (ah (aH (bB (fZ r9 E.kg (aH (ae 0))))) (ah (aH (Gj E.kg (ae 0))) (ah (aH (ae 1)) aD))))))) ⟨rfl,by walk_at "6",by walk_at "6",by walk_at "6",by walk_at "6",rfl,by walk_at "6"⟩ (jC (bN (aY 0) (bN (aY 1) fU))) jw (aH (d0 (ah (aH (cY (ae 2) (ae 0))) (ah (aH (cY (ae 2) (ae 1))) aD))))))))
abbrev sV:Stmt:=inClass (top 27) 8
abbrev ML:List Str:=["self","name"]
theorem aaQ:aB ML ["self","name"] (ag sV):=by walk_at "5"
def VI:b7:=(cA (aW JD (af 1) (Ww (aj [] (af 0)))) wO hZ)
theorem abz(E:Gl G):dj G k ⟨ML,(ag sV).names,[],false,false,false,λ_ _=>False⟩ (ak sV) (VI):=(aG (cS (aU ND (ae 1) (Ki E.kg (aH (ae 0)))) (aG iC) bP))
abbrev sT:Stmt:=inClass (top 27) 9
abbrev MJ:List Str:=["self"]
theorem aaO:aB MJ ["self"] (ag sT):=by walk_at "5"
def VH(bD:bw):b7:=(dH [] (dz [] [none,some 0] (cQ (aj [] (bu (ux (eE bD) (aj [] (af 0)) iG)))) (fb 0) d4 (aj [] (pO (Ww (aj [] (af 1))) (af 0)))))
theorem abx(E:Gl G){bD:bw}(de:cC G k "names" (eE bD)):dj G k ⟨MJ,(ag sT).names,[],false,false,false,λ_ _=>False⟩ (ak sT) (VH bD):=(aG (aX (eI (N':=["name","self"]) (fA (aH (bB (fZ de E.kg (aH (ae 0)))))) ⟨rfl,by walk_at "6",by walk_at "6",by walk_at "6",by walk_at "6",rfl,by walk_at "6"⟩ (aY 0) jw (aH (mP (Ki E.kg (aH (ae 1))) (ae 0))))))
abbrev kF:Stmt:=top 29
abbrev Cq:List Str:=["pot","many","cell","stir"]
theorem UR:aB Cq ["pot","many"] (ag kF):=by walk_at "5"
def G8:b7:=(bO (wN 0 (bh (.int 1)) (aj [0] (bu (bF eZ (hW (af 0) (bh (.int 1))) (bh (.int 1)))))) (bO (eh [0] 2 (oX (hW (af 0) (bh (.int 0))))) (bO (cA (aW geT (af 2) (bu (bF pJ (bh (.int 10)) (bh (.int 18))))) (bO (wN 0 (bh (.int 0)) (aj [0] (bu (bF zq (af 2) (af 1))))) (dH [0] (bF v9 (af 2) (af 1)))) hZ) (bO (eh [0] 3 (bF v9 (bu (bF eZ (bu (bF eZ (bu (bF lQ (af 2) (bh (.int 69621)))) (bu (bF lQ (hW (af 0) (bh (.int 1))) (bh (.int 7919)))))) (bh (.int 13)))) (bh (.int 2147483647)))) (bO (eh [0] 3 (bF v9 (bu (bF lQ (af 3) (af 3))) (bh (.int 2147483629)))) (dH [0] (bF v9 (bu (bF zq (bu (bF v9 (bu (bF eZ (bu (bF lQ (af 3) (bh (.int 48271)))) (bu (bF lQ (hW (af 0) (bh (.int 1))) (bh (.int 40692)))))) (bh (.int 2147483587)))) (bh (.int 8)))) (af 1))))))))
theorem X7(E:Gl G):dj G k ⟨Cq,(ag kF).names,[0],false,false,false,λ_ _=>False⟩ (ak kF) (G8):=(av (yz 0 (aH (bB (dZ (cY (ae 0) ax) ax))) ax (ae 0)) (av (bS 2 (gv (cY (ae 0) ax))) (av (cS (aU Xi (ae 2) (bB (mQ ax ax))) (av (yz 0 (aH (bB (Ah (ae 2) (ae 1)))) ax (ae 0)) (aG (aX (qL (ae 2) (ae 1))))) bP) (av (bS 3 (qL (bB (dZ (bB (dZ (bB (jS (ae 2) ax)) (bB (jS (cY (ae 0) ax) ax)))) ax)) ax)) (av (bS 3 (qL (bB (jS (ae 3) (ae 3))) ax)) (aG (aX (qL (bB (Ah (bB (qL (bB (dZ (bB (jS (ae 3) ax)) (bB (jS (cY (ae 0) ax) ax)))) ax)) ax)) (ae 1)))))))))
abbrev kG:Stmt:=top 30
abbrev LI:List Str:=["script"]
theorem UT:aB LI ["script"] (ag kG):=by walk_at "5"
theorem X8(E:Gl G):uB G k ⟨LI,(ag kG).names,[],false,false,false,λ_ _=>False⟩ (ak kG):=Pa (N':=["cell"]) rfl (aU fQ (bB (dh f_len E.z_len (aL (ae 0) bx) (by decide +kernel))) ax) (ah (aH ax) (ah (aH ax) aD)) (fA (aH (bB (aaK (ae 0) FJ (FL ax))))) ⟨rfl,by walk_at "6",by walk_at "6",by walk_at "6",by walk_at "6",rfl,by walk_at "6"⟩ (aY 0) (ah (aH (ae 0)) (ah (aH ax) aD))
abbrev kK:Stmt:=top 31
abbrev Cv:List Str:=["way","one","other","found","here","there","step"]
theorem UX:aB Cv ["way","one","other"] (ag kK):=by walk_at "5"
def Hc:b7:=(bO (eh [] 3 (oX (bh (.int 0)))) (bO (eY (KH (aS (aj [] (af 1)) (aS (aj [] (af 2)) tN))) (BO 2 (gC (fb 4) (gC (fb 5) BM))) (bO (eh [] 6 (eN vV (bH (bu (bF pe (af 4) (af 5))) (bH (bu (bF pe (af 5) (af 4))) dX)))) (eh [] 3 (bF eZ (af 3) (hW (bu (xt (aS (aj [] (af 6)) (aS (aj [] (bu (bF lQ (af 6) (af 6)))) tN)))) (bu (eN Ff (bH (bV (aW eqT (af 0) (bh (.str "squares")))) dX)))))))) (dH [] (oX (af 3)))))
theorem Yb(E:Gl G):dj G k ⟨Cv,(ag kK).names,[],false,false,false,λ_ _=>False⟩ (ak kK) (Hc):=(av (bS 3 (gv ax)) (av (oS (Mh (ah (aH (ae 1)) (ah (aH (ae 2)) aD)) E.z_zip) (jC (bN (aY 4) (bN (aY 5) fU))) (av (bS 6 (dh D7 E.z_max (aL (bB (jT (ae 4) (ae 5))) (aL (bB (jT (ae 5) (ae 4))) bx)) (by decide +kernel))) (aG (bS 3 (dZ (ae 3) (cY (bB (fH (ah (aH (ae 6)) (ah (aH (bB (jS (ae 6) (ae 6)))) aD)))) (bB (Gg f_int E.z_int (aL (oK fQ (ae 0) Gp) bx) (by decide +kernel))))))))) (aG (aX (gv (ae 3))))))
abbrev kL:Stmt:=top 32
abbrev Cw:List Str:=["pot"]
theorem UY:aB Cw ["pot"] (ag kL):=by walk_at "5"
def Hd(aP:fo):b7:=(dH [0] (oX (hW (bu (xt (aS (aj [0] (bh (.str "streets"))) (aS (aj [0] (bh (.str "squares"))) tN)))) (bu (eP aP 0 (aS (aj [0] (bh (.int 2))) tN))))))
theorem Yc(E:Gl G){aP:fo}(bX:dN G k "_law_next" aP):dj G k ⟨Cw,(ag kL).names,[0],false,false,false,λ_ _=>False⟩ (ak kL) (Hd aP):=(aG (aX (gv (cY (bB (fH (ah (aH Gp) (ah (aH Gp) aD)))) (bB (bC bX (ae 0) (ah (aH ax) aD)))))))
abbrev kH:Stmt:=top 33
abbrev Cr:List Str:=["found","due"]
theorem yA:aB Cr ["found","due"] (ag kH):=by walk_at "5"
def G9(sp_q32:bw):b7:=(bO (cA (aW QA (af 1) (bh .aQ)) (dH [] (oX (bV (aW QA (af 0) (bh .aQ))))) hZ) (bO (cA (pj (bV (pN ["list","tuple"] (af 1)))) (bO (cA (yO (aW neT (bV (pN ["tuple"] (af 0))) (bV (pN ["tuple"] (af 1)))) (i9 (pj (bV (pN ["list","tuple"] (af 0)))))) (dH [] (oX (bh (.bl false)))) hZ) (bO (cA (aW neT (bu (eN gD (bH (af 0) dX))) (bu (eN gD (bH (af 1) dX)))) (dH [] (oX (bh (.bl false)))) hZ) (dH [] (oX (bV (aW eqT (bu (dz [] [none,some 0,some 1] (pL (bH (bu (eN gD (bH (af 1) dX))) dX)) (fb 0) (i9 (pj (bu (jo sp_q32 (aS (aj [] (hW (af 1) (af 0))) (aS (aj [] (hW (af 2) (af 0))) tN)))))) (aj [] (af 0)))) (bu (xt tN)))))))) hZ) (dH [] (oX (bV (hJ (ph (bV (pN ["int"] (af 0)))) (hJ (ph (bV (aW eqT (bV (pN ["bool"] (af 0))) (bV (pN ["bool"] (af 1)))))) (ph (bV (aW eqT (af 0) (af 1)))))))))))
theorem D2(E:Gl G){sp_q32:bw}(mF:c9 G k "_law_same" sp_q32):dj G k ⟨Cr,(ag kH).names,[],false,false,false,λ_ _=>False⟩ (ak kH) (G9 sp_q32):=(av (cS (aU CK (ae 1) g0) (aG (aX (gv (oK CK (ae 0) g0)))) bP) (av (cS (f6 (Gk (ae 1) vR kit_tuple E.z_isinstance E.z_list E.z_tuple (by decide +kernel) (by decide +kernel))) (av (cS (HX (Gn (aU uJ (oM (ae 0) kit_tuple E.z_isinstance E.z_tuple (by decide +kernel)) (oM (ae 1) kit_tuple E.z_isinstance E.z_tuple (by decide +kernel))) (wA (g9 (f6 (Gk (ae 0) vR kit_tuple E.z_isinstance E.z_list E.z_tuple (by decide +kernel) (by decide +kernel))))))) (aG (aX (gv pK))) bP) (av (cS (aU uJ (bB (dh f_len E.z_len (aL (ae 0) bx) (by decide +kernel))) (bB (dh f_len E.z_len (aL (ae 1) bx) (by decide +kernel)))) (aG (aX (gv pK))) bP) (aG (aX (gv (oK fQ (bB (eI (N':=["k","found","due"]) (ji (aL (bB (dh f_len E.z_len (aL (ae 1) bx) (by decide +kernel))) bx) E.z_range) ⟨rfl,by walk_at "6",by walk_at "6",by walk_at "6",by walk_at "6",rfl,by walk_at "6"⟩ (aY 0) (nJ (g9 (f6 (bB (bG mF (ah (aH (cY (ae 1) (ae 0))) (ah (aH (cY (ae 2) (ae 0))) aD))))))) (aH (ae 0)))) (bB (fH aD)))))))) bP) (aG (aX (gv (aaI (v_and (Hn (oM (ae 0) Js E.z_isinstance E.z_int (by decide +kernel))) (v_and (Hn (oK fQ (oM (ae 0) vQ E.z_isinstance E.z_bool (by decide +kernel)) (oM (ae 1) vQ E.z_isinstance E.z_bool (by decide +kernel)))) (ME (Hn (oK fQ (ae 0) (ae 1))))))))))))
abbrev kz:Stmt:=top 34
abbrev Cj:List Str:=["pot","count","own","some","kind","at"]
theorem UN:aB Cj ["pot","count","own"] (ag kz):=by walk_at "5"
def G4(aP:fo):b7:=(bO (eh [0] 3 (iH [0] [none,some 0] 0 1 (pL (bH (af 1) dX)) (fb 0) d4 (aj [1] (bu (eP aP 1 (aS (aj [1] (bh (.int 5))) tN)))))) (bO (eh [0] 4 (eP aP 0 (aS (aj [0] (bh (.int 4))) tN))) (bO (cA (aW eqT (af 4) (bh (.int 1))) (eh [0] 3 (iH [0] [none,some 0] 0 1 (pL (bH (af 1) dX)) (fb 0) d4 (aj [1] (bu (bF eZ (bu (bF pe (bu (eP aP 1 (aS (aj [1] (bu (bF pe (bu (bF lQ (bh (.int 2)) (bu (bF pJ (bh (.int 10)) (bh (.int 15)))))) (bh (.int 1))))) tN))) (bu (bF pJ (bh (.int 10)) (bh (.int 15)))))) (bh (.int 1))))))) hZ) (bO (cA (hJ (aW Yy (af 4) (bh (.int 1))) (um true (af 2))) (bO (eh [0] 3 (eN og (bH (pO (af 2) (hW (bu (eN sortI (bH (af 2) dX))) (bu (eP aP 0 (aS (aj [0] (bu (eN Bb (bH (af 2) dX)))) tN))))) dX))) (bO (eh [0] 5 (eP aP 0 (aS (aj [0] (af 1)) tN))) (wN 3 (af 5) (aj [0] (bu (eN vV (bH (bu (bF pe (bh (.int 1)) (bu (bF pJ (bh (.int 10)) (bh (.int 15)))))) (bH (bu (eN zX (bH (bu (bF pe (bu (bF pJ (bh (.int 10)) (bh (.int 15)))) (bh (.int 1)))) (bH (bu (bF pe (bu (bF eZ (hW (af 3) (af 5)) (bu (eP aP 0 (aS (aj [0] (bh (.int 3))) tN))))) (bh (.int 1)))) dX)))) dX)))))))) hZ) (dH [0] (eN pv (bH (af 3) dX)))))))
theorem X3(E:Gl G){aP:fo}(bX:dN G k "_law_next" aP):dj G k ⟨Cj,(ag kz).names,[0],false,false,false,λ_ _=>False⟩ (ak kz) (G4 aP):=(av (wI 3 0 1 (N':=["k","pot"]) (ji (aL (ae 1) bx) E.z_range) ⟨rfl,by walk_at "6",by walk_at "6",by walk_at "6",by walk_at "6",rfl,by walk_at "6"⟩ (aY 0 (hn:=by first|decide | (dsimp only;decide) | (dsimp only[aK,az];decide))) jw (aH (bB (bC bX (ae 1) (ah (aH ax) aD))))) (av (bS 4 (bC bX (ae 0) (ah (aH ax) aD))) (av (cS (aU fQ (ae 4) ax) (aG (wI 3 0 1 (N':=["k","pot"]) (ji (aL (ae 1) bx) E.z_range) ⟨rfl,by walk_at "6",by walk_at "6",by walk_at "6",by walk_at "6",rfl,by walk_at "6"⟩ (aY 0 (hn:=by first|decide | (dsimp only;decide) | (dsimp only[aK,az];decide))) jw (aH (bB (dZ (bB (jT (bB (bC bX (ae 1) (ah (aH (bB (jT (bB (jS ax (bB (mQ ax ax)))) ax))) aD))) (bB (mQ ax ax)))) ax))))) bP) (av (cS (HX (wy (aU NC (ae 4) ax) (oJ (Up (ae 2))))) (av (bS 3 (Gg f_list E.z_list (aL (mP (ae 2) (cY (bB (dh jy E.z_sorted (aL (ae 2) bx) (by decide +kernel))) (bB (bC bX (ae 0) (ah (aH (bB (dh xR E.z_len (aL (ae 2) bx) (by decide +kernel)))) aD))))) bx) (by decide +kernel))) (av (bS 5 (bC bX (ae 0) (ah (aH (ae 1)) aD))) (aG (yz 3 (aH (bB (dh D7 E.z_max (aL (bB (jT ax (bB (mQ ax ax)))) (aL (bB (dh Pk E.z_min (aL (bB (jT (bB (mQ ax ax)) ax)) (aL (bB (jT (bB (dZ (cY (ae 3) (ae 5)) (bB (bC bX (ae 0) (ah (aH ax) aD))))) ax)) bx)) (by decide +kernel))) bx)) (by decide +kernel)))) (ae 5) (ae 3))))) bP) (aG (aX (Gg IG E.z_tuple (aL (ae 3) bx) (by decide +kernel))))))))
abbrev kJ:Stmt:=top 35
abbrev Cu:List Str:=["own","way","which","name","bound","names","found","other"]
theorem UW:aB Cu ["own","way","which","name","bound"] (ag kJ):=by walk_at "5"
def Hb(o7:bw):b7:=(bO (eh [] 5 (eN sortI (bH (af 0) dX))) (bO (cA (aW eqT (af 2) (bh (.int 0))) (dH [] (oX (af 5))) hZ) (bO (cA (aW eqT (af 2) (bh (.int 1))) (dH [] (oX (pO (af 0) (af 3)))) hZ) (bO (cA (aW eqT (af 2) (bh (.int 3))) (dH [] (eN qE (bH (bu (bF eZ (bu (dz [] [none,some 3,some 1,some 0] (cQ (aj [] (af 5))) (fb 0) (aW neT (af 0) (af 1)) (aj [] (uq (aS (aj [] (bu (jo o7 (aS (aj [] (af 2)) (aS (aj [] (pO (af 3) (af 1))) (aS (aj [] (pO (af 3) (af 0))) tN)))))) (aS (aj [] (af 0)) tN)))))) (bu (xt (aS (aj [] (uq (aS (aj [] (bu (bF pJ (bh (.int 10)) (bh (.int 40))))) (aS (aj [] (bh (.int 0))) tN)))) tN))))) dX))) hZ) (bO (eh [] 6 (xt tN)) (bO (eY (cQ (aj [] (af 5))) (fb 7) (nz (Kx (af 6) (dz [] [none,some 7,some 1,some 0] (cQ (aj [] (af 5))) (fb 0) (aW Jz (af 0) (af 1)) (aj [] (uq (aS (aj [] (bu (jo o7 (aS (aj [] (af 2)) (aS (aj [] (pO (af 3) (af 0))) (aS (aj [] (pO (af 3) (af 1))) tN)))))) (aS (aj [] (af 0)) (aS (aj [] (af 1)) tN))))))))) (bO (cA (aW eqT (af 2) (bh (.int 2))) (dH [] (oX (hW (bu (bF eZ (bu (eN kM (bH (af 6) dX))) (bu (xt (aS (aj [] (bh .aQ)) tN))))) (bh (.int 0))))) hZ) (dH [] (eN kM (bH (bu (dz [] [none,none,none,some 4] (cQ (aj [] (af 6))) (BO 3 (gC (fb 0) (gC (fb 1) (gC (fb 2) BM)))) (aW leT (af 0) (af 3)) (aj [] (uq (aS (aj [] (af 1)) (aS (aj [] (af 2)) tN)))))) dX))))))))))
theorem Ya(E:Gl G){o7:bw}(zu:c9 G k "_law_far" o7):dj G k ⟨Cu,(ag kJ).names,[],false,false,false,λ_ _=>False⟩ (ak kJ) (Hb o7):=(av (bS 5 (dh jy E.z_sorted (aL (ae 0) bx) (by decide +kernel))) (av (cS (aU fQ (ae 2) ax) (aG (aX (gv (ae 5)))) bP) (av (cS (aU fQ (ae 2) ax) (aG (aX (gv (mP (ae 0) (ae 3))))) bP) (av (cS (aU fQ (ae 2) ax) (aG (aX (dh Pj E.z_min (aL (bB (dZ (bB (eI (N':=["one","name","way","own"]) (fA (aH (ae 5))) ⟨rfl,by walk_at "6",by walk_at "6",by walk_at "6",by walk_at "6",rfl,by walk_at "6"⟩ (aY 0) (nJ (aU uJ (ae 0) (ae 1))) (aH (d0 (ah (aH (bB (bG zu (ah (aH (ae 2)) (ah (aH (mP (ae 3) (ae 1))) (ah (aH (mP (ae 3) (ae 0))) aD)))))) (ah (aH (ae 0)) aD)))))) (bB (fH (ah (aH (d0 (ah (aH (bB (mQ ax ax))) (ah (aH ax) aD)))) aD))))) bx) (by decide +kernel)))) bP) (av (bS 6 (fH aD)) (av (oS (fA (aH (ae 5))) (aY 7) (aG (ck (Gi (ae 6) (eI (N':=["one","other","way","own"]) (fA (aH (ae 5))) ⟨rfl,by walk_at "6",by walk_at "6",by walk_at "6",by walk_at "6",rfl,by walk_at "6"⟩ (aY 0) (nJ (aU CL (ae 0) (ae 1))) (aH (d0 (ah (aH (bB (bG zu (ah (aH (ae 2)) (ah (aH (mP (ae 3) (ae 0))) (ah (aH (mP (ae 3) (ae 1))) aD)))))) (ah (aH (ae 0)) (ah (aH (ae 1)) aD)))))))))) (av (cS (aU fQ (ae 2) ax) (aG (aX (gv (cY (bB (dZ (bB (dh vA E.z_sorted (aL (ae 6) bx) (by decide +kernel))) (bB (fH (ah (aH g0) aD))))) ax)))) bP) (aG (aX (dh vA E.z_sorted (aL (bB (eI (N':=["far","one","other","bound"]) (fA (aH (ae 6))) ⟨rfl,by walk_at "6",by walk_at "6",by walk_at "6",by walk_at "6",rfl,by walk_at "6"⟩ (jC (bN (aY 0) (bN (aY 1) (bN (aY 2) fU)))) (nJ (aU Xj (ae 0) (ae 3))) (aH (d0 (ah (aH (ae 1)) (ah (aH (ae 2)) aD)))))) bx) (by decide +kernel)))))))))))
abbrev j8:Stmt:=top 36
abbrev B7:List Str:=["kept","which","name","bound"]
theorem UD:aB B7 ["kept","which","name","bound"] (ag j8):=by walk_at "5"
def GV(bD:bw)(tT:bw)(uc:bw)(tQ:bw)(fk:bw):b7:=(bO (cA (aW eqT (af 1) (bh (.int 0))) (dH [] (ux (eE bD) (aj [] (af 0)) iG)) hZ) (bO (cA (aW eqT (af 1) (bh (.int 1))) (dH [] (ux (eE tT) (aj [] (af 0)) (pC (aj [] (af 2)) iG))) hZ) (bO (cA (aW eqT (af 1) (bh (.int 2))) (dH [] (ux (eE uc) (aj [] (af 0)) iG)) hZ) (bO (cA (aW eqT (af 1) (bh (.int 3))) (dH [] (ux (eE tQ) (aj [] (af 0)) (pC (aj [] (af 2)) iG))) hZ) (dH [] (ux (eE fk) (aj [] (af 0)) (pC (aj [] (af 3)) iG)))))))
theorem XT(E:Gl G){bD:bw}(de:cC G k "names" (eE bD)){tT:bw}(Eu:cC G k "point" (eE tT)){uc:bw}(EH:cC G k "two" (eE uc)){tQ:bw}(Er:cC G k "nearest" (eE tQ)){fk:bw}(nX:cC G k "near" (eE fk)):dj G k ⟨B7,(ag j8).names,[],false,false,false,λ_ _=>False⟩ (ak j8) (GV bD tT uc tQ fk):=(av (cS (aU fQ (ae 1) ax) (aG (aX (fZ de E.kg (aH (ae 0))))) bP) (av (cS (aU fQ (ae 1) ax) (aG (aX (oN Eu E.kg (aH (ae 0)) (fv (aH (ae 2)) cJ)))) bP) (av (cS (aU fQ (ae 1) ax) (aG (aX (fZ EH E.kg (aH (ae 0))))) bP) (av (cS (aU fQ (ae 1) ax) (aG (aX (oN Er E.kg (aH (ae 0)) (fv (aH (ae 2)) cJ)))) bP) (aG (aX (oN nX E.kg (aH (ae 0)) (fv (aH (ae 3)) cJ))))))))
abbrev sY:Stmt:=top 37
abbrev MO:List Str:=["kept","own","way","which","name","bound","due"]
theorem aaT:aB MO ["kept","own","way","which","name","bound"] (ag sY):=by walk_at "5"
def VM(uf:bw)(sp_q32:bw)(tU:bw):b7:=(bO (cA (hJ (um false (af 1)) (aW inT (af 3) (uq (aS (aj [] (bh (.int 1))) (aS (aj [] (bh (.int 3))) tN))))) (dH [] (oX (bh (.bl true)))) hZ) (bO (eh [] 6 (jo uf (aS (aj [] (af 1)) (aS (aj [] (af 2)) (aS (aj [] (af 3)) (aS (aj [] (af 4)) (aS (aj [] (af 5)) tN))))))) (bO (cA (hJ (aW eqT (af 3) (bh (.int 3))) (aW eqT (bu (eN Bb (bH (af 1) dX))) (bh (.int 1)))) (eh [] 6 (oX (bh .aQ))) hZ) (dH [] (jo sp_q32 (aS (aj [] (bu (jo tU (aS (aj [] (af 0)) (aS (aj [] (af 3)) (aS (aj [] (af 4)) (aS (aj [] (af 5)) tN))))))) (aS (aj [] (af 6)) tN)))))))
theorem abC(E:Gl G){uf:bw}(EL:c9 G k "_law_due" uf){sp_q32:bw}(mF:c9 G k "_law_same" sp_q32){tU:bw}(Ew:c9 G k "_law_answer" tU):dj G k ⟨MO,(ag sY).names,[],false,false,false,λ_ _=>False⟩ (ak sY) (VM uf sp_q32 tU):=(av (cS (HX (wy (Gq (ae 1)) (oJ (aU abt (ae 3) (d0 (ah (aH ax) (ah (aH ax) aD))))))) (aG (aX (gv pK))) bP) (av (bS 6 (bG EL (ah (aH (ae 1)) (ah (aH (ae 2)) (ah (aH (ae 3)) (ah (aH (ae 4)) (ah (aH (ae 5)) aD))))))) (av (cS (HX (wy (aU fQ (ae 3) ax) (oJ (aU fQ (bB (dh xR E.z_len (aL (ae 1) bx) (by decide +kernel))) ax)))) (aG (bS 6 (gv g0))) bP) (aG (aX (bG mF (ah (aH (bB (bG Ew (ah (aH (ae 0)) (ah (aH (ae 3)) (ah (aH (ae 4)) (ah (aH (ae 5)) aD))))))) (ah (aH (ae 6)) aD))))))))
abbrev ky:Stmt:=top 38
abbrev Ci:List Str:=["pot","own","names","name"]
theorem UM:aB Ci ["pot","own"] (ag ky):=by walk_at "5"
def G3(aP:fo):b7:=(bO (eh [0] 2 (bF eZ (bu (eN sortI (bH (af 1) dX))) (bu (bF lQ (bu (xt (aS (aj [0] (bh (.int 0))) tN))) (bu (eN Ff (bH (bV (um false (af 1))) dX))))))) (bO (eh [0] 3 (oX (hW (bu (xt (aS (aj [0] (hW (af 2) (bu (eP aP 0 (aS (aj [0] (bu (eN gD (bH (af 2) dX)))) tN))))) (aS (aj [0] (hW (af 2) (KA (bh (.int 1))))) tN)))) (bu (eP aP 0 (aS (aj [0] (bh (.int 2))) tN)))))) (dH [0] (oX (uq (aS (aj [0] (af 3)) (aS (aj [0] (hW (bu (xt (aS (aj [0] (bh (.int 0))) (aS (aj [0] (bh (.int 1))) (aS (aj [0] (bu (eP aP 0 (aS (aj [0] (bh (.int 30))) tN)))) (aS (aj [0] (bu (bF pJ (bh (.int 10)) (bh (.int 15))))) (aS (aj [0] (bu (bF pe (bu (bF pJ (bh (.int 10)) (bh (.int 34)))) (bh (.int 1))))) tN))))))) (bu (eP aP 0 (aS (aj [0] (bh (.int 5))) tN))))) tN)))))))
theorem X2(E:Gl G){aP:fo}(bX:dN G k "_law_next" aP):dj G k ⟨Ci,(ag ky).names,[0],false,false,false,λ_ _=>False⟩ (ak ky) (G3 aP):=(av (bS 2 (dZ (bB (dh jy E.z_sorted (aL (ae 1) bx) (by decide +kernel))) (bB (jS (bB (fH (ah (aH ax) aD))) (bB (Gg f_int E.z_int (aL (aaJ (ae 1)) bx) (by decide +kernel))))))) (av (bS 3 (gv (cY (bB (fH (ah (aH (cY (ae 2) (bB (bC bX (ae 0) (ah (aH (bB (dh f_len E.z_len (aL (ae 2) bx) (by decide +kernel)))) aD))))) (ah (aH (cY (ae 2) (Mw ax))) aD)))) (bB (bC bX (ae 0) (ah (aH ax) aD)))))) (aG (aX (gv (d0 (ah (aH (ae 3)) (ah (aH (cY (bB (fH (ah (aH ax) (ah (aH ax) (ah (aH (bB (bC bX (ae 0) (ah (aH ax) aD)))) (ah (aH (bB (mQ ax ax))) (ah (aH (bB (jT (bB (mQ ax ax)) ax))) aD))))))) (bB (bC bX (ae 0) (ah (aH ax) aD))))) aD))))))))
abbrev kE:Stmt:=top 39
abbrev Cp:List Str:=["pot","kept","own","count","coming","point","name"]
theorem UQ:aB Cp ["pot","kept","own","count","coming"] (ag kE):=by walk_at "5"
def G7(aP:fo)(ua:fo)(sp_q32:bw)(ub:jq)(tZ:jq):b7:=(bO (cA (yO (um false (mR 2)) (aW Yy (bu (eP aP 0 (aS (aj [0,1,2] (bh (.int 3))) tN))) (bh (.int 0)))) (bO (eh [0,1,2] 5 (Kw (Wq ua) (HY 0 (pC (aj [0,1,2] (af 3)) (BV 2 iG))))) (bO (Vy 2 (af 4) (aj [0,1,2] (af 5))) (dH [0,1,2] (oX (uq (aS (aj [0,1,2] (bu (tCb sp_q32 (bH (bu (Wx ub 1 (pC (aj [0,1,2] (af 5)) iG))) (bH (af 4) dX))))) (aS (aj [0,1,2] (bu (bF eZ (af 4) (bh (.int 1))))) tN))))))) hZ) (bO (eh [0,1,2] 6 (oX (hW (bu (eN sortI (bH (mR 2) dX))) (bu (eP aP 0 (aS (aj [0,1,2] (bu (eN Bb (bH (mR 2) dX)))) tN)))))) (bO (VD 2 (af 6)) (dH [0,1,2] (oX (uq (aS (aj [0,1,2] (bV (aW QA (bu (Wx tZ 1 (pC (aj [0,1,2] (af 6)) iG))) (bh .aQ)))) (aS (aj [0,1,2] (af 4)) tN))))))))
theorem X6(E:Gl G){aP:fo}(bX:dN G k "_law_next" aP){ua:fo}(EE:dN G k "_law_point" ua){sp_q32:bw}(mF:c9 G k "_law_same" sp_q32){ub:jq}(EF:cC G k "put" ub){tZ:jq}(EC:cC G k "take" tZ):dj G k ⟨Cp,(ag kE).names,[0,1,2],false,false,false,λ_ _=>False⟩ (ak kE) (G7 aP ua sp_q32 ub tZ):=(av (cS (HX (Gn (Gq (oP 2)) (wA (aU NC (bB (bC bX (ae 0) (ah (aH ax) aD))) ax)))) (av (bS 5 (fY EE.mu (uF 0 (fv (aH (ae 3)) (pE 2 cJ))))) (av (Km 2 (aH (ae 5)) (ae 4) (wB 2)) (aG (aX (gv (d0 (ah (aH (bB (Kg mF (aL (bB (oO false 1 EF E.kg (fv (aH (ae 5)) cJ))) (aL (ae 4) bx))))) (ah (aH (bB (dZ (ae 4) ax))) aD)))))))) bP) (av (bS 6 (gv (cY (bB (dh jy E.z_sorted (aL (oP 2) bx) (by decide +kernel))) (bB (bC bX (ae 0) (ah (aH (bB (dh xR E.z_len (aL (oP 2) bx) (by decide +kernel)))) aD)))))) (av (Kl 2 (ae 6) (wB 2)) (aG (aX (gv (d0 (ah (aH (oK CK (bB (oO false 1 EC E.kg (fv (aH (ae 6)) cJ))) g0)) (ah (aH (ae 4)) aD)))))))))
abbrev sX:Stmt:=top 40
abbrev MN:List Str:=["pot","kept","own","way","first","turn","name","bound"]
theorem aaS:aB MN ["pot","kept","own","way"] (ag sX):=by walk_at "5"
def VL(aP:fo)(gk:fo)(kS:bw):b7:=(bO (eh [0] 4 (eP aP 0 (aS (aj [0] (bh (.int 5))) tN))) (bO (eY (pL (bH (bh (.int 5)) dX)) (fb 5) (bO (yP (aj [0] (bu (eP gk 0 (aS (aj [0] (af 2)) tN)))) (BO 2 (gC (fb 6) (gC (fb 7) BM)))) (cA (i9 (pj (bu (jo kS (aS (aj [0] (af 1)) (aS (aj [0] (af 2)) (aS (aj [0] (af 3)) (aS (aj [0] (bu (bF v9 (bu (bF eZ (af 4) (af 5))) (bh (.int 5))))) (aS (aj [0] (af 6)) (aS (aj [0] (af 7)) tN)))))))))) (dH [0] (oX (bh (.bl false)))) hZ))) (dH [0] (oX (bh (.bl true))))))
theorem abB(E:Gl G){aP:fo}(bX:dN G k "_law_next" aP){gk:fo}(qz:dN G k "_law_drawn" gk){kS:bw}(A0:c9 G k "_law_one_right" kS):dj G k ⟨MN,(ag sX).names,[0],false,false,false,λ_ _=>False⟩ (ak sX) (VL aP gk kS):=(av (bS 4 (bC bX (ae 0) (ah (aH ax) aD))) (av (oS (ji (aL ax bx) E.z_range) (aY 5 (hn:=by first|decide | (dsimp only;decide) | (dsimp only[aK,az];decide))) (av (GA (aH (bB (bC qz (ae 0) (ah (aH (ae 2)) aD)))) (jC (bN (aY 6 (hn:=by first|decide | (dsimp only;decide) | (dsimp only[aK,az];decide))) (bN (aY 7 (hn:=by first|decide | (dsimp only;decide) | (dsimp only[aK,az];decide))) fU)))) (aG (cS (g9 (f6 (bB (bG A0 (ah (aH (ae 1)) (ah (aH (ae 2)) (ah (aH (ae 3)) (ah (aH (bB (qL (bB (dZ (ae 4) (ae 5))) ax))) (ah (aH (ae 6)) (ah (aH (ae 7)) aD)))))))))) (aG (aX (gv pK))) bP)))) (aG (aX (gv pK)))))
abbrev sZ:Stmt:=top 41
abbrev MP:List Str:=["pot","way","count","kept","own","coming","held","turn","right","name","bound","which","told"]
theorem aaU:aB MP ["pot","way","count"] (ag sZ):=by walk_at "5"
def VN(Ap:HD)(qR:fo)(aP:fo)(ud:jq)(gk:fo)(kS:bw)(bD:bw)(fk:bw):b7:=(bO (eh [0] 3 (tMK Ap (aS (aj [0] (af 1)) (aS (aj [0] (af 2)) tN)))) (bO (eh [0] 4 Vw) (bO (eh [0] 5 (oX (bh (.int 0)))) (bO (eh [0] 6 (xt tN)) (bO (cA (i9 (pj (bu (Kw (Wq qR) (HY 0 (BV 3 (BV 4 (pC (aj [0] (af 1)) iG)))))))) (dH [0] (oX (bh (.bl false)))) hZ) (bO (eY (pL (bH (bu (bF eZ (bh (.int 1)) (bu (eP aP 0 (aS (aj [0] (bh (.int 16))) tN))))) dX)) (fb 7) (bO (yP (aj [0] (bu (Kw ud (HY 0 (HY 3 (HY 4 (pC (aj [0] (af 2)) (pC (aj [0] (af 5)) iG)))))))) (BO 2 (gC (fb 8) (gC (fb 5) BM)))) (bO (yP (aj [0] (bu (Kw (Wq gk) (HY 0 (BV 4 iG))))) (BO 2 (gC (fb 9) (gC (fb 10) BM)))) (bO (eh [0] 11 (eP aP 0 (aS (aj [0] (bh (.int 7))) tN))) (bO (cA (yO (i9 (pj (af 8))) (hJ (aW Jz (af 11) (bh (.int 5))) (i9 (pj (bu (Kw (eE kS) (BV 3 (BV 4 (pC (aj [0] (af 1)) (pC (aj [0] (af 11)) (pC (aj [0] (af 9)) (pC (aj [0] (af 10)) iG)))))))))))) (dH [0] (oX (bh (.bl false)))) hZ) (cA (aW eqT (af 11) (bh (.int 6))) (bO (eh [0] 12 (xt (aS (aj [0] (bu (Kz (eE bD) 3 iG))) (aS (aj [0] (bu (Kz (eE fk) 3 (pC (aj [0] (af 10)) iG)))) tN)))) (bO (nz (GH (af 6) (aj [0] (uq (aS (aj [0] (af 12)) (aS (aj [0] (bu (dz [0] [none] (cQ (aj [0] (af 12))) (fb 0) d4 (aj [] (bu (eN og (bH (af 0) dX))))))) tN)))))) (bO (nz (Kv (Kz (eE bD) 3 iG) (aj [0] (KA (bh (.int 1)))))) (bO (nz (Kv (Kz (eE fk) 3 (pC (aj [0] (af 10)) iG)) (aj [0] (uq (aS (aj [0] (bh (.int 0))) (aS (aj [0] (bh (.int 0))) tN)))))) (cA (i9 (pj (bu (Kw (Wq qR) (HY 0 (BV 3 (BV 4 (pC (aj [0] (af 1)) iG)))))))) (dH [0] (oX (bh (.bl false)))) hZ))))) hZ)))))) (dH [0] (oX (bV (hJ (ph (bu (Kw (Wq qR) (HY 0 (BV 3 (BV 4 (pC (aj [0] (af 1)) iG))))))) (ph (bV (aW eqT (bu (dz [0] [none,none] (cQ (aj [0] (af 6))) (BO 2 (gC (fb 0) (gC (fb 1) BM))) (aW neT (af 0) (af 1)) (aj [] (bh (.int 1))))) (bu (xt tN)))))))))))))))
theorem abD(E:Gl G){Ap:HD}(Qh:xA G k Ap){qR:fo}(EY:dN G k "_law_all_right" qR){aP:fo}(bX:dN G k "_law_next" aP){ud:jq}(EJ:qZ G k "_law_done" ud){gk:fo}(qz:dN G k "_law_drawn" gk){kS:bw}(A0:c9 G k "_law_one_right" kS){bD:bw}(de:cC G k "names" (eE bD)){fk:bw}(nX:cC G k "near" (eE fk)):dj G k ⟨MP,(ag sZ).names,[0],false,false,false,λ_ _=>False⟩ (ak sZ) (VN Ap qR aP ud gk kS bD fk):=(av (bS 3 (Uo Qh (ah (aH (ae 1)) (ah (aH (ae 2)) aD)))) (av (bS 4 Kh) (av (bS 5 (gv ax)) (av (bS 6 (fH aD)) (av (cS (g9 (f6 (bB (fY EY.mu (uF 0 (pE 3 (pE 4 (fv (aH (ae 1)) cJ)))))))) (aG (aX (gv pK))) bP) (av (oS (ji (aL (bB (dZ ax (bB (bC bX (ae 0) (ah (aH ax) aD))))) bx) E.z_range) (aY 7 (hn:=by first|decide | (dsimp only;decide) | (dsimp only[aK,az];decide))) (av (GA (aH (bB (fY EJ (uF 0 (uF 3 (uF 4 (fv (aH (ae 2)) (fv (aH (ae 5)) cJ)))))))) (jC (bN (aY 8 (hn:=by first|decide | (dsimp only;decide) | (dsimp only[aK,az];decide))) (bN (aY 5 (hn:=by first|decide | (dsimp only;decide) | (dsimp only[aK,az];decide))) fU)))) (av (GA (aH (bB (fY qz.mu (uF 0 (pE 4 cJ))))) (jC (bN (aY 9 (hn:=by first|decide | (dsimp only;decide) | (dsimp only[aK,az];decide))) (bN (aY 10 (hn:=by first|decide | (dsimp only;decide) | (dsimp only[aK,az];decide))) fU)))) (av (bS 11 (bC bX (ae 0) (ah (aH ax) aD))) (av (cS (HX (Gn (g9 (f6 (ae 8))) (wA (HX (wy (aU CL (ae 11) ax) (oJ (g9 (f6 (bB (fY A0.mu (pE 3 (pE 4 (fv (aH (ae 1)) (fv (aH (ae 11)) (fv (aH (ae 9)) (fv (aH (ae 10)) cJ)))))))))))))))) (aG (aX (gv pK))) bP) (aG (cS (aU fQ (ae 11) ax) (av (bS 12 (fH (ah (aH (bB (Gm true 3 de E.kg))) (ah (aH (bB (oO true 3 nX E.kg (fv (aH (ae 10)) cJ)))) aD)))) (av (ck (wz (ae 6) (aH (d0 (ah (aH (ae 12)) (ah (aH (bB (eI (N':=["one"]) (fA (aH (ae 12))) ⟨rfl,by walk_at "6",by walk_at "6",by walk_at "6",by walk_at "6",rfl,by walk_at "6"⟩ (aY 0) jw (aH (bB (Gg f_list E.z_list (aL (ae 0) bx) (by decide +kernel))))))) aD)))))) (av (ck (qJ (Gm true 3 de E.kg) (aH (Mw ax)))) (av (ck (qJ (oO true 3 nX E.kg (fv (aH (ae 10)) cJ)) (aH (d0 (ah (aH ax) (ah (aH ax) aD)))))) (aG (cS (g9 (f6 (bB (fY EY.mu (uF 0 (pE 3 (pE 4 (fv (aH (ae 1)) cJ)))))))) (aG (aX (gv pK))) bP)))))) bP))))))) (aG (aX (gv (aaI (v_and (Hn (bB (fY EY.mu (uF 0 (pE 3 (pE 4 (fv (aH (ae 1)) cJ))))))) (ME (Hn (oK fQ (bB (eI (N':=["told","copies"]) (fA (aH (ae 6))) ⟨rfl,by walk_at "6",by walk_at "6",by walk_at "6",by walk_at "6",rfl,by walk_at "6"⟩ (jC (bN (aY 0) (bN (aY 1) fU))) (nJ (aU uJ (ae 0) (ae 1))) (aH ax))) (bB (fH aD))))))))))))))))
abbrev gy:Stmt:=top 42
abbrev Cy:List Str:=["script","pot","way"]
theorem UZ:aB Cy ["script"] (ag gy):=by walk_at "5"
def He(ug:fo)(Aq:fo)(aP:fo):b7:=(bO (Aw (aS (aj [] (bu (GK (af 0) tP0 (tP1 (bh (.int 3)))))) tN) (Uj 1) (bO (eh [] 2 (eP ug 1 tN)) (cA (i9 (pj (bu (eP Aq 1 (aS (aj [] (af 2)) (aS (aj [] (bu (bF eZ (bh (.int 1)) (bu (eP aP 1 (aS (aj [] (bh (.int 3))) tN)))))) tN)))))) (dH [] (oX (bh (.bl false)))) hZ))) (dH [] (oX (bh (.bl true)))))
theorem Yd(E:Gl G)(EK:gI G k "_law_pots"){ug:fo}(ER:dN G k "_law_way" ug){Aq:fo}(Qi:dN G k "_law_run_right" Aq){aP:fo}(bX:dN G k "_law_next" aP):dj G k ⟨Cy,(ag gy).names,[],false,false,false,λ_ _=>False⟩ (ak gy) (He ug Aq aP):=(av (Ur 1 EK (ah (aH (bB (aaK (ae 0) FJ (FL ax)))) aD) (av (bS 2 (bC ER (ae 1) aD)) (aG (cS (g9 (f6 (bB (bC Qi (ae 1) (ah (aH (ae 2)) (ah (aH (bB (dZ ax (bB (bC bX (ae 1) (ah (aH ax) aD)))))) aD)))))) (aG (aX (gv pK))) bP)))) (aG (aX (gv pK))))
end
section
local macro_rules|`(tactic| walk_at "vx")=>`(tactic| ((try simp only[aR,a8,adh,List.map_nil,adi,List.length_nil,ad6,List.replicate_zero,List.cons_append,List.nil_append,Nat.reduceAdd,Nat.reduceSub]);(try dsimp only[bO,yP,qE,Vc.inT,Vc.VA,hZ,wO,cA,nz,dH,eh,stD,GH,Nx,vN,bu,oX,fzV,oxV,kZ,k4,aj,af,bh,cW,je,bF,eZ,pe,lQ,v9,pJ,Wm,Jf,KA,aW,bV,eqT,neT,Qw,Jz,leT,Yy,geT,isNone,QA,VQ,pj,hJ,yO,i9,ph,hW,tP0,tP1,slD,GK,tN,aS,xt,uq,dX,bH,eN,gD,Ii,vV,zX,Ff,og,pv,bE,jo,tCb,fb,BM,gC,BO,cQ,pL,Kk,eY,d4,dz,vH,dQ,lK,sq?,KH,kM,zq,Vc.Zc,Vc.Zd,Vc.QB,Vc.QC,pG,a8,Fh,wN,eP,iH,ownAt,Kx,IE,sumF,VU,eO,Ji,pN,Ky,KD,mR,Vw,pO,inI,JD,Bb,um,Vy,VD,sortI,Kw,my,dY,CC,bJ,mO,zW,noB,Rr,Wr,gT,iG,pC,HY,BV,ux,Kz,Wx,Vz,Ww,tKP,tKE,tKD,tKI,tKN,tKZ,tMK,Kv,cH,kT,yj,gK,aR,sJ,aeA,adM,List.getElem?_nil,List.set_cons_zero,List.set_cons_succ,adh,List.map_nil,adi,List.length_nil,ad6,List.replicate_zero,List.cons_append,List.nil_append,Nat.reduceAdd,Nat.reduceSub]);try simp only[adH,Nat.add_sub_cancel,Nat.zero_add,ac8,not_false_eq_true,true_and,and_true,decide_eq_true_eq,ite_true,ite_false,ad9,decide_eq_false_iff_not,aeA,adM]))
local macro_rules | `(tactic| symm) => `(tactic| walk_at "vx")
local macro_rules|`(tactic| walk_at "vc")=>`(tactic| repeat (refine And.intro (by first|assumption|decide|omega | (unfold jt;omega) | (unfold abn;omega) | (unfold nD;omega)) ?_))
local macro_rules|`(tactic| walk_at "vg")=>`(tactic| simp only[fb,BO,gC,BM,adi,List.length_nil,Nat.reduceAdd,Nat.zero_add,true_and,List.set_cons_zero,List.set_cons_succ,Int.zero_add])
local macro_rules|`(tactic| walk_at "vd")=>`(tactic| symm)
variable [KF]
def bf(b:Bool):Str:=if b=true then "squares" else "streets"
def cE(b:Bool):D:=.str (bf b)
def iO(p:List Int):D:=.tup (p.map D.int)
def Bd(p:List Int):Prop:=p.length<=3/\∀x∈p,-(2^60)<x/\x<2^60
def mY(x:Int):Int:=if x<0 then -x else x
def stepI(b:Bool)(x y:Int):Int:=if b=true then mY (x-y)*mY (x-y)else mY (x-y)
def jA(b:Bool)(p q:List Int):Int:=((p.zip q).map λxy=>stepI b xy.1 xy.2).sum
def hE:bw:=λds Q=>∃b p q,ds=[cE b,iO p,iO q]/\Bd p/\Bd q/\Q (.sh (.int (jA b p q)))
theorem ur(b:Bool):bK 8 (cE b)=true:=by cases b<;>decide +kernel
theorem oC:bK 8 (.str "streets")=true:=by decide +kernel
theorem oB:bK 8 (.str "squares")=true:=by decide +kernel
theorem mV(b:Bool):gG (cE b) (.str "streets")=!b:=by cases b<;>decide +kernel
theorem mU(b:Bool):gG (cE b) (.str "squares")=b:=by cases b<;>decide +kernel
theorem sz:acZ=2^24:=rfl
theorem Ay{p q:List Int}(h:Bd p):(p.zip q).length<=3:=by
 rw[List.length_zip];have:=h.1;omega
theorem zf{α:Type}(l:List α)(f:α->Int):(l.map λa=>D.int (f a)).all isInt=true:=by
 rw[List.all_map];exact ac4.mpr λ_ _=>rfl
theorem fD{α:Type}(l:List α)(f:α->Int):(l.map λa=>D.int (f a)).map lE=l.map f:=by
 rw[adN];rfl
theorem Z9(ds:List D)(Q:B->Prop)(h:hE ds Q):GO {nx:=λ_=>Q (.sh .aQ),rt:=λb _=>Q b} (aR B2.length ds):=by
 obtain⟨b,p,q,rfl,hp,hq,h⟩:=h;unfold GO iO;symm;rw[xl];refine d8 (λp=>.tup [.int p.1,.int p.2]) (λxy:Int×Int=>D.int (mY (xy.1-xy.2))) _ (λxy Jc A ha=>?_) (by have:=Ay (q:=q) hp;rw[sz];omega) ?_
 ·symm
  exact ha
 ·symm
  rw[mV];refine⟨⟨ur b,oC⟩,?_⟩;cases b with
  | false =>
   refine(if_pos rfl).mpr ?_;refine⟨zf _ _,?_⟩;rw[fD];exact h
  | true =>
   refine(if_neg ∅).mpr ?_
   rw[show(List.map (λxy:Int×Int=>D.int (mY (xy.1-xy.2))) (p.zip q))=(List.map (λxy:Int×Int=>(mY (xy.1-xy.2))) (p.zip q)).map D.int from by rw[adN];rfl]
   refine d8 D.int (λd:Int=>D.int (d*d)) _ (λd hd A ha=>?_) (by have:=Ay (q:=q) hp;rw[sz,acO];omega) ?_
   ·symm
    refine⟨?_,ha⟩;obtain⟨xy,Jc,rfl⟩:=adk.mp hd;have h1:=hp.2 _ (List.of_mem_zip Jc).1;have h2:=hq.2 _ (List.of_mem_zip Jc).2;unfold jt mY;left
    split<;>omega
   ·symm
    refine⟨zf _ _,?_⟩;rw[fD,adN];exact h
def Good(n:Nat)(pts:List (List Int)):Prop:=(1<=n/\n<=3)/\∀p∈pts,p.length=n/\∀x∈p,-(2^59)<x/\x<2^59
theorem Good.bd{n:Nat}{pts:List (List Int)}(g:Good n pts){p:List Int}(h:p∈pts):Bd p:=⟨by have:=(g.2 p h).1;have:=g.1.2;omega,λx hx=>by have:=(g.2 p h).2 x hx;omega⟩
theorem fI{n i a:Nat}(h:(adK n)[i]?=some a):a=i/\i<n:=by
 have hi:i<n:=by
  have:=(acR.mp h).1
  rwa [adu]at this
 rw[List.getElem?_range hi]at h;cases h;exact⟨rfl,hi⟩
def jm(pts:List (List Int)):D:=.lst (pts.map iO)
theorem jQ{pts:List (List Int)}{j:Nat}(h:j<pts.length):(pts.map iO)[j]?=some (iO (pts.getD j [])):=by
 rw[ac0,ade,acN h];rfl
theorem getD_mem{pts:List (List Int)}{j:Nat}(h:j<pts.length):pts.getD j []∈pts:=by
 rw[ade,acN h];exact ad5 h
def Shape(n:Nat)(pts:List (List Int)):Prop:=(1<=n/\n<=3)/\∀p∈pts,p.length=n
theorem Good.shape{n:Nat}{pts:List (List Int)}(g:Good n pts):Shape n pts:=⟨g.1,λp hp=>(g.2 p hp).1⟩
def iE:bw:=λds Q=>∃c:Int,ds=[.int c]/\1<=c/\c<=3/\Q (.sh .aQ)
theorem FI(ds:List D)(Q:B->Prop)(h:iE ds Q):GZ {nx:=λ_=>Q (.sh .aQ),rt:=λb _=>Q b} (aR Cb.length ds):=by
 obtain⟨c,rfl,h1,h2,h⟩:=h;unfold GZ;symm;rw[if_neg ⋯,if_neg ⋯]
 exact h
def tJ:bw:=λds Q=>∃(p:List Int) (c:Int),ds=[iO p,.int c]/\(p.length:Int)=c/\Q (.sh .aQ)
theorem aaf(ds:List D)(Q:B->Prop)(h:tJ ds Q):VF {nx:=λ_=>Q (.sh .aQ),rt:=λb _=>Q b} (aR MH.length ds):=by
 obtain⟨p,c,rfl,rfl,h⟩:=h;unfold VF iO;symm;rw[acO];refine⟨⟨rfl,rfl⟩,?_⟩;have e:gG (.int (p.length:Nat)) (.int (p.length:Nat))=true:=by simp [gG]
 rw[if_neg (by rw[e];decide)]
 exact h
def tL:bw:=λds Q=>∃n pts,ds=[jm pts]/\Shape n pts/\Q (.sh .aQ)
theorem Tg(ds:List D)(Q:B->Prop)(h:tL ds Q):GQ iE tJ {nx:=λ_=>Q (.sh .aQ),rt:=λb _=>Q b} (aR B4.length ds):=by
 obtain⟨n,pts,rfl,hg,h⟩:=h;unfold GQ jm;symm;refine fS iO pts (λi σ=>∃x,σ=[some (.sh (.lst (pts.map iO))),x]) (λi p σ N' hx hI Qg=>?_) (λσ hI=>h) ⟨none,rfl⟩;obtain⟨x,rfl⟩:=hI;have hp:=hg.2 p (ady hx);have h1:=hg.1;have h0:0<pts.length:=Nat.lt_of_le_of_lt (adz _) (acR.mp hx).1;have h00:=hg.2 _ (getD_mem h0);walk_at "vg";refine ao λN2 BP=>?_;rw[show iO p=.tup (p.map D.int)from rfl]
 symm;rw[acO];refine⟨_,rfl,by omega,by omega,?_⟩
 symm;subst BP;symm;refine bo (n:=0) rfl (jQ h0) ?_;rw[show iO (pts.getD 0 [])=.tup ((pts.getD 0 []).map D.int)from rfl]
 symm;rw[acO];refine⟨p,_,rfl,by rw[hp,h00],?_⟩
 exact Qg _ ⟨_,rfl⟩
def nv:bw:=λds Q=>∃b,ds=[cE b]/\Q (.sh .aQ)
theorem Ti(ds:List D)(Q:B->Prop)(h:nv ds Q):Ha {nx:=λ_=>Q (.sh .aQ),rt:=λb _=>Q b} (aR Ct.length ds):=by
 obtain⟨b,rfl,h⟩:=h;unfold Ha;symm;refine⟨⟨ur b,oC⟩,?_⟩;rw[mV];cases b with
 | false=>exact h
 | true =>
  refine(if_pos rfl).mpr ⟨⟨ur true,oB⟩,?_⟩;rw[mU];exact h
def o4:bw:=λds Q=>∃n b pts,ds=[jm pts,cE b]/\Shape n pts/\Q (.sh .aQ)
theorem aah(ds:List D)(Q:B->Prop)(h:o4 ds Q):VG tL nv {nx:=λ_=>Q (.sh .aQ),rt:=λb _=>Q b} (aR MI.length ds):=by
 obtain⟨n,b,pts,rfl,hg,h⟩:=h;unfold VG;symm;refine⟨n,pts,rfl,hg,?_⟩;symm;exact⟨b,rfl,h⟩
def pI:Nat->D->Bool
 | _,.aQ=>true
 | _,.int _=>true
 | n+1,.tup xs=>decide (xs.length<=1000000)&&xs.all (pI n)
 | n+1,.lst xs=>decide (xs.length<=1000000)&&xs.all (pI n)
 | _,_=>false
theorem rP(i:Int):gG (.int i) (.int i)=true:=by simp [gG]
theorem sC(m:Nat)(i:Int):pI m (.int i)=true:=by cases m<;>rfl
def pairD(b:Bool)(pts:List (List Int))(i j:Nat):D:=.tup [.int (jA b (pts.getD i []) (pts.getD j [])),.int i,.int j]
def iP(b:Bool)(pts:List (List Int))(i m:Nat):List D:=(adK m).map λt=>pairD b pts i (i+1+t)
def gw(b:Bool)(pts:List (List Int)):Nat->List D
 | 0=>[]
 | i+1=>gw b pts i++iP b pts i (pts.length-(i+1))
def cD(b:Bool)(pts:List (List Int)):List D:=gw b pts pts.length
theorem wG(b:Bool)(pts:List (List Int))(i m:Nat):(iP b pts i m).length=m:=by unfold iP;rw[acO,adu]
theorem lU(b:Bool)(pts:List (List Int))(i m:Nat):iP b pts i (m+1)=iP b pts i m++[pairD b pts i (i+1+m)]:=by unfold iP;rw[List.range_succ,List.map_append];rfl
theorem qP(b:Bool)(pts:List (List Int)):∀i,(gw b pts i).length<=i*pts.length
 | 0=>adz _
 | i+1=>by
  have ih:=qP b pts i;show(gw b pts i++iP b pts i (pts.length-(i+1))).length<=_;rw[adt,wG,Nat.succ_mul];omega
theorem Ak{b:Bool}{pts:List (List Int)}{i:Nat}(hl:pts.length<=1000)(hi:i<=pts.length):(gw b pts i).length<=1000000:=
 adq (qP b pts i) (Nat.mul_le_mul (show i<=1000 by omega) hl)
theorem jO{b:Bool}{pts:List (List Int)}(hl:pts.length<=1000):(cD b pts).length<=1000000:=Ak hl (acS _)
theorem oQ{b:Bool}{pts:List (List Int)}:∀ {i:Nat} {d:D},d∈gw b pts i->∃p q,p<i/\p<q/\(i<=pts.length->q<pts.length)/\d=pairD b pts p q
 | i+1,d,h=>by
  rcases adj.mp (show d∈gw b pts i++iP b pts i (pts.length-(i+1))from h)with h|h
  ·obtain⟨p,q,h1,h2,h3,h4⟩:=oQ h
   exact⟨p,q,by omega,h2,λz=>h3 ⋯,h4⟩
  ·obtain⟨t,ht,rfl⟩:=adk.mp h
   have ht:=adX.mp ht;exact⟨i,i+1+t,by omega,by omega,λz=>by omega,rfl⟩
theorem cM{b:Bool}{pts:List (List Int)}{d:D}(h:d∈cD b pts):∃p q,p<q/\q<pts.length/\d=pairD b pts p q:=by
 obtain⟨p,q,h1,h2,h3,h4⟩:=oQ h;exact⟨p,q,h2,h3 (acS _),h4⟩
theorem yr(b:Bool)(pts:List (List Int)):(cD b pts).all fc=true:=ac4.mpr λd hd=>by
 obtain⟨p,q,_,_,rfl⟩:=cM hd;rfl
def kP:bw:=λds Q=>∃b n pts,ds=[jm pts,cE b]/\Good n pts/\pts.length<=1000/\Q (.own (cD b pts))
def uo(sp:bw)(rest:b7):b7:=(bO (eh [] 2 (xt tN)) (bO (eY (pL (bH (bu (eN gD (bH (af 0) dX))) dX)) (fb 3) (eY (Kk (bH (bu (bF eZ (af 3) (bh (.int 1)))) (bH (bu (eN gD (bH (af 0) dX))) dX))) (fb 4) (nz (GH (af 2) (aj [] (uq (aS (aj [] (bu (jo sp (aS (aj [] (af 1)) (aS (aj [] (hW (af 0) (af 3))) (aS (aj [] (hW (af 0) (af 4))) tN)))))) (aS (aj [] (af 3)) (aS (aj [] (af 4)) tN))))))))) rest))
theorem FN{b:Bool}{n:Nat}{pts:List (List Int)}{rest:b7}{De:iT}(hg:Good n pts)(hl:pts.length<=1000)(h:∀x3 x4,rest De [some (.sh (jm pts)),some (.sh (cE b)),some (.own (cD b pts)),x3,x4]):
  uo hE rest De [some (.sh (jm pts)),some (.sh (cE b)),none,none,none]:=by
 unfold uo;refine ao λN hN=>?_;symm;refine⟨by decide,?_⟩
 subst hN;refine ao λN hN=>?_;rw[show jm pts=.lst (pts.map iO)from rfl]
 symm;rw[acO,adE,dS];refine⟨by omega,fS (λi:Nat=>.int (0+(i:Nat))) (adK pts.length) (λi σ=>∃x3 x4,σ=[some (.sh (.lst (pts.map iO))),some (.sh (cE b)),some (.own (gw b pts i)),x3,x4]) (λi a σ N' hx hI Qg=>?_) (λσ hI=>?_) ⟨none,none,rfl⟩⟩
 ·obtain⟨rfl,hi⟩:=fI hx
  obtain⟨x3,x4,rfl⟩:=hI;walk_at "vg";symm;rw[acO,dS];refine⟨by omega,?_⟩
  rw[show((pts.length:Int)-((a:Int)+1)).toNat=pts.length-(a+1)by omega]
  refine fS (λt:Nat=>.int ((a:Int)+1+(t:Nat))) (adK (pts.length-(a+1))) (λm σ=>∃x4,σ=[some (.sh (.lst (pts.map iO))),some (.sh (cE b)),some (.own (gw b pts a++iP b pts a m)),some (.sh (.int a)),x4]) (λm t σ N2 zL hI2 BP=>?_) (λσ hI2=>?_) ⟨x4,by rw[show iP b pts a 0=[]from rfl,adH]⟩
  ·obtain⟨rfl,ht⟩:=fI zL
   obtain⟨x4,rfl⟩:=hI2;symm;have hj:a+1+t<pts.length:=by omega
   refine⟨⟨_,rfl⟩,?_⟩;refine bo (n:=a) rfl (jQ hi) ?_;refine bo (n:=a+1+t) ⋯ (jQ hj) ?_
   symm;refine⟨b,_,_,rfl,hg.bd (getD_mem hi),hg.bd (getD_mem hj),?_⟩;symm;have hz:=Ak (b:=b) hl (show a<=pts.length by omega)
   refine⟨by decide,by rw[sz,adt,wG];omega,BP _ ⟨some (.sh (.int ((a:Int)+1+(t:Int)))),?_⟩⟩
   rw[lU,adA];unfold pairD;rw[show((a+1+t:Nat):Int)=(a:Int)+1+(t:Int)by omega]
  ·obtain⟨x4,rfl⟩:=hI2
   rw[adu];exact Qg _ ⟨some (.sh (.int a)),x4,rfl⟩
 ·obtain⟨x3,x4,rfl⟩:=hI
  subst hN;rw[adu];exact h x3 x4
theorem JV(ds:List D)(Q:B->Prop)(h:kP ds Q):abk hE {nx:=λ_=>Q (.sh .aQ),rt:=λb _=>Q b} (aR MK.length ds):=by
 obtain⟨b,n,pts,rfl,hg,hl,h⟩:=h;exact FN hg hl λx3 x4=>by symm;exact h
theorem pU{xs:List D}(h:xs.all fc=true):dr xs=(fK xs).head?:=by
 have key:∀(l:List D) (b:D),(∀x∈l,fc x=true)->fc b=true->∃m,l.foldl (λb y=>if ltI y b=true then y else b) b=m/\(m=b\/m∈l)/\fc m=true/\mJ m b=true/\∀x∈l,mJ m x=true:=by
  intro l
  induction l with
  | nil=>intro b _ hb;exact⟨b,rfl,.inl rfl,hb,by unfold mJ;rw[Vs.d9];rfl,λx hx=>by cases hx⟩
  | cons y l ih =>
   intro b hl hb;have hy:=hl y (acX ..);have lt:ltI y b=HT.lexLt (fj y) (fj b):=by
    rw[eR hy,eR hb];rfl
   rw[List.foldl_cons]
   by_cases e:ltI y b=true
   ·rw[if_pos e]
    obtain⟨m,m1,m2,m3,m4,m5⟩:=ih y (λx hx=>hl x (acQ _ hx)) hy;refine⟨m,m1,?_,m3,?_,λx hx=>?_⟩
    ·rcases m2 with rfl|m2
     ·exact .inr (acX ..)
     ·exact .inr (acQ _ m2)
    ·refine lJ m y b m4 ?_
     unfold mJ;rw[lt]at e;cases e2:HT.lexLt (fj b) (fj y)with
     | false=>rfl
     | true=>have:=Vs.fC _ _ _ e e2;rw[Vs.d9]at this;cases this
    ·rcases acV.mp hx with rfl|hx
     ·exact m4
     ·exact m5 x hx
   ·rw[if_neg e]
    obtain⟨m,m1,m2,m3,m4,m5⟩:=ih b (λx hx=>hl x (acQ _ hx)) hb;refine⟨m,m1,?_,m3,m4,λx hx=>?_⟩
    ·rcases m2 with rfl|m2
     ·exact .inl rfl
     ·exact .inr (acQ _ m2)
    ·rcases acV.mp hx with rfl|hx
     ·refine lJ m b x m4 ?_
      unfold mJ;rw[lt]at e;simpa using e
     ·exact m5 x hx
 have hp:=eK xs;have hs:=gf xs;cases xs with
 | nil=>rw[List.perm_nil.mp hp];rfl
 | cons x xs =>
  have all:=ac4.mp h;obtain⟨m,m1,m2,m3,m4,m5⟩:=key xs x (λy hy=>all y (acQ _ hy)) (all x (acX ..));have hm:m∈x::xs:=by rcases m2 with rfl|m2;exact acX ..;exact acQ _ m2
  have iL:∀y∈x::xs,mJ m y=true:=λy hy=>by
   rcases acV.mp hy with rfl|hy
   ·exact m4
   ·exact m5 y hy
  show some _=_;rw[m1];cases e:fK (x::xs)with
  | nil=>rw[e]at hp;exact absurd hp.length_eq (by simp)
  | cons a l =>
   rw[e]at hp hs;have ha:a∈x::xs:=hp.mem_iff.mp (acX ..);have h1:=iL a ha;have h2:mJ a m=true:=by
    rcases acV.mp (hp.mem_iff.mpr hm)with rfl|hm
    ·unfold mJ;rw[Vs.d9];rfl
    ·exact(List.pairwise_cons.mp hs).1 m hm
   unfold mJ at h1 h2;simp only[ad9]at h1 h2;show some m=some a;rw[eR m3,eR (all a ha),Vs.oi _ _ h2 h1]
def cO(xs:List D):Prop:=∃c n:Int,xs=[.int c,.int n]
def d7:fo:=λxs ds Q=>cO xs/\∃m:Int,ds=[.int m]/\1<=m/\m<2^200/\∀r ys,0<=r->r<m->cO ys->Q (.sh (.int r)) ys
theorem Tf(xs ds:List D)(Q:B->List D->Prop)(h:d7 xs ds Q):G8 {nx:=pG Q (.sh .aQ),rt:=λb σ=>pG Q b σ} (a8 Cq.length xs ds):=by
 obtain⟨⟨x,y,rfl⟩,m,rfl,hm,lC,h⟩:=h;unfold G8;refine ao λN hN=>?_;simp only[a8];symm;refine⟨⟨_,rfl⟩,?_⟩;subst hN;refine ao λN hN=>?_;symm;subst hN;refine ao λN hN=>?_;symm;refine⟨by unfold nD;decide,?_⟩
 split
 ·refine⟨by unfold yY;omega,⟨_,rfl⟩,by omega,?_⟩
  exact h _ _ (Int.emod_nonneg _ ⋯) (Int.emod_lt_of_pos _ ⋯) ⟨_,_,rfl⟩
 ·subst hN
  symm;refine⟨by unfold jt;omega,by unfold jt;omega,by decide,by unfold jt;omega,by decide,by unfold jt;omega,by unfold jt;omega,by decide,by unfold yY;decide,by omega,?_⟩
  exact h _ _ (Int.emod_nonneg _ ⋯) (Int.emod_lt_of_pos _ ⋯) ⟨_,_,rfl⟩
def tO:fo:=λxs ds Q=>cO xs/\ds=[]/\∀b ys,cO ys->Q (.sh (cE b)) ys
theorem Tj(xs ds:List D)(Q:B->List D->Prop)(h:tO xs ds Q):Hd d7 {nx:=pG Q (.sh .aQ),rt:=λb σ=>pG Q b σ} (a8 Cw.length xs ds):=by
 obtain⟨r0,rfl,h⟩:=h;unfold Hd;simp only[a8];symm;refine⟨by decide,⟨_,rfl⟩,r0,2,rfl,by decide,by decide,λr ys h0 h1 r1=>?_⟩
 symm;refine fV h0 (by simp only[adi,List.length_nil];omega) λd hd=>?_
 simp only[acV,ac8,or_false]at hd;rcases hd with rfl|rfl
 ·exact h false ys r1
 ·exact h true ys r1
def xx(v:Int):Prop:=-(10^15)<=v/\v<=10^15
theorem Td(ds:List D)(Q:B->Prop)(h:hE ds Q):Hc {nx:=λ_=>Q (.sh .aQ),rt:=λb _=>Q b} (aR Cv.length ds):=by
 obtain⟨b,p,q,rfl,hp,hq,h⟩:=h;unfold Hc iO;symm;rw[xl];refine fS (λp=>.tup [.int p.1,.int p.2]) (p.zip q) (λi σ=>∃x y z,σ=[some (.sh (cE b)),some (.sh (iO p)),some (.sh (iO q)),some (.sh (.int ((((p.zip q).take i).map λxy:Int×Int=>stepI b xy.1 xy.2).sum))),x,y,z]) (λi xy σ N Jc hI hN=>?_) (λσ hI=>?_) ⟨none,none,none,rfl⟩
 ·obtain⟨x,y,z,rfl⟩:=hI
  have hm:=ady Jc;have h1:=hp.2 _ (List.of_mem_zip hm).1;have h2:=hq.2 _ (List.of_mem_zip hm).2;symm;rw[mU];refine⟨?_,by decide,⟨ur b,oB⟩,?_⟩
  ·unfold jt;split<;>omega
  ·have e:(if xy.2-xy.1>xy.1-xy.2 then xy.2-xy.1 else xy.1-xy.2)=mY (xy.1-xy.2):=by unfold mY;split<;>split<;>omega
   rw[e];have hs:((((p.zip q).take (i+1)).map λxy:Int×Int=>stepI b xy.1 xy.2).sum)=(((p.zip q).take i).map λxy:Int×Int=>stepI b xy.1 xy.2).sum+stepI b xy.1 xy.2:=by
    rw[List.take_add_one,Jc];simp
   cases b with
   | false =>
    refine bo (n:=0) rfl rfl ?_;symm;exact hN _ ⟨_,_,_,by rw[hs];rfl⟩
   | true =>
    refine bo (n:=1) rfl rfl ?_;symm;exact hN _ ⟨_,_,_,by rw[hs];rfl⟩
 ·obtain⟨x,y,z,rfl⟩:=hI
  symm;rw[List.take_length];exact h
def eX:Nat->bw
 | 0=>λ_ _=>False
 | n+1=>λds Q=>∃x,ds=[x,x]/\pI n x=true/\Q (.sh (.bl true))
theorem rV{α β:Type}:∀l:List α,l.filterMap (λ_=>(none:Option β))=[]
 | []=>rfl
 | _::l=>by rw[List.filterMap_cons_none rfl,rV l]
theorem JH{n:Nat}{xs:List D}(h:pI (n+1) (.lst xs)=true):xs.length<=1000000/\∀x∈xs,pI n x=true:=by
 have h':(decide (xs.length<=1000000)&&xs.all (pI n))=true:=h;rw[adn]at h';exact⟨of_decide_eq_true h'.1,ac4.mp h'.2⟩
theorem JI{n:Nat}{xs:List D}(h:pI (n+1) (.tup xs)=true):xs.length<=1000000/\∀x∈xs,pI n x=true:=by
 have h':(decide (xs.length<=1000000)&&xs.all (pI n))=true:=h;rw[adn]at h';exact⟨of_decide_eq_true h'.1,ac4.mp h'.2⟩
theorem yn{n:Nat}{xs:List D}(h1:xs.length<=1000000)(h2:∀x∈xs,pI n x=true):pI (n+1) (.lst xs)=true/\pI (n+1) (.tup xs)=true:=by
 have:(decide (xs.length<=1000000)&&xs.all (pI n))=true:=by rw[adn];exact⟨decide_eq_true h1,ac4.mpr h2⟩
 exact⟨this,this⟩
theorem yq(n:Nat)(ds:List D)(Q:B->Prop)(h:eX (n+1) ds Q):G9 (eX n) {nx:=λ_=>Q (.sh .aQ),rt:=λb _=>Q b} (aR Cr.length ds):=by
 obtain⟨x,rfl,ok,h⟩:=h;unfold G9;cases x with
 | aQ=>symm;exact h
 | int i =>
  symm;have e:gG (.int i) (.int i)=true:=rP i;have e2:gG (.bl false) (.bl false)=true:=rfl;refine(if_neg ∅).mpr ((if_neg ∅).mpr ((if_pos ∅).mpr ?_))
  refine⟨⟨rfl,rfl⟩,?_⟩;refine(if_pos ∅).mpr ⟨⟨rfl,rfl⟩,?_⟩
  rw[e];exact h
 | tup xs =>
  cases n with
  | zero=>cases ok
  | succ n =>
   obtain⟨hl,ha⟩:=JI ok;symm;refine(if_neg ∅).mpr ((if_pos ∅).mpr ⟨⟨rfl,rfl⟩,(if_neg ∅).mpr ((if_neg ∅).mpr ⟨⟨rfl,rfl⟩,(if_neg (by rw[rP];decide)).mpr ?_⟩)⟩)
   rw[adE,dS];refine⟨by omega,eu (λi:Nat=>.int (0+(i:Nat))) (λ_=>none) (adK xs.length) (λi hi A Bn hB=>?_) (by rw[sz,adu];omega) ?_⟩
   ·have hi:=adX.mp hi
    symm;refine dD (n:=i) ⋯ (acN hi) ?_
    refine dD (n:=i) ⋯ (acN hi) ?_
    symm;exact⟨_,rfl,ha _ (ad5 hi),hB⟩
   ·rw[rV]
    exact⟨adz _,⟨rfl,rfl⟩,h⟩
 | lst xs =>
  cases n with
  | zero=>cases ok
  | succ n =>
   obtain⟨hl,ha⟩:=JH ok;symm;refine(if_neg ∅).mpr ((if_pos ∅).mpr ⟨⟨rfl,rfl⟩,(if_neg ∅).mpr ((if_neg ∅).mpr ⟨⟨rfl,rfl⟩,(if_neg (by rw[rP];decide)).mpr ?_⟩)⟩)
   rw[adE,dS];refine⟨by omega,eu (λi:Nat=>.int (0+(i:Nat))) (λ_=>none) (adK xs.length) (λi hi A Bn hB=>?_) (by rw[sz,adu];omega) ?_⟩
   ·have hi:=adX.mp hi
    symm;refine bo (n:=i) ⋯ (acN hi) ?_
    refine bo (n:=i) ⋯ (acN hi) ?_
    symm;exact⟨_,rfl,ha _ (ad5 hi),hB⟩
   ·rw[rV]
    exact⟨adz _,⟨rfl,rfl⟩,h⟩
 | str _=>cases n<;>cases ok
 | bl _=>cases n<;>cases ok
 | dct _=>cases n<;>cases ok
 | exc _=>cases n<;>cases ok
 | jn _=>cases n<;>cases ok
 | dB _=>cases n<;>cases ok
 | kp _ _ _ _=>cases n<;>cases ok
def m7(b:Bool)(pts:List (List Int)):D:=(dr (cD b pts)).getD .aQ
def yL:bw:=λds Q=>∃b n pts,ds=[jm pts,cE b]/\Good n pts/\pts.length<=1000/\Q (.sh (m7 b pts))
theorem aam(ds:List D)(Q:B->Prop)(h:yL ds Q):GP o4 kP {nx:=λ_=>Q (.sh .aQ),rt:=λb _=>Q b} (aR B3.length ds):=by
 obtain⟨b,n,pts,rfl,hg,hl,h⟩:=h;unfold GP;refine ao λN hN=>?_;symm;refine⟨n,b,pts,rfl,hg.shape,?_⟩;symm;subst hN;symm;refine⟨b,n,pts,rfl,hg,hl,?_⟩;symm;refine⟨.inr (ac4.mpr λd hd=>?_),h⟩;obtain⟨p,q,_,_,rfl⟩:=cM hd;rfl
def eQ(b:Bool)(pts:List (List Int))(p:List Int)(j:Nat):D:=.tup [.int (jA b p (pts.getD j [])),.int j]
def zl(b:Bool)(pts:List (List Int))(p:List Int)(js:List Nat):D:=(dr (js.map (eQ b pts p))).getD .aQ
def oY:bw:=λds Q=>∃b n pts p js,ds=[jm pts,cE b,iO p,.lst (js.map λj:Nat=>.int j)]/\Good n pts/\Bd p/\js.length<=1000/\(∀j∈js,j<pts.length)/\Q (.sh (zl b pts p js))
theorem JQ(ds:List D)(Q:B->Prop)(h:oY ds Q):VO hE {nx:=λ_=>Q (.sh .aQ),rt:=λb _=>Q b} (aR MQ.length ds):=by
 obtain⟨b,n,pts,p,js,rfl,hg,hp,hl,hj,h⟩:=h;unfold VO jm;symm;refine d8 (λj:Nat=>.int j) (eQ b pts p) js (λj hm A ha=>?_) (by rw[sz];omega) ?_
 ·symm
  refine bo (n:=j) rfl (jQ (hj j hm)) ?_;symm;refine⟨b,p,_,rfl,hp,hg.bd (getD_mem (hj j hm)),?_⟩;symm;exact⟨by decide,ha⟩
 ·symm
  refine⟨.inr ?_,h⟩;rw[List.all_map];exact ac4.mpr λ_ _=>rfl
def others(n:Nat)(j:Int):List Nat:=(adK n).filter λi=>decide ((i:Int)≠j)
def gu(b:Bool)(pts:List (List Int))(j:Nat):D:=zl b pts (pts.getD j []) (others pts.length j)
theorem fw{α β:Type}(p:α->Bool)(f:α->β):∀l:List α,l.filterMap (λa=>if p a=true then some (f a)else none)=(l.filter p).map f
 | []=>rfl
 | a::l=>by
  cases e:p a with
  | true=>rw[List.filterMap_cons_some (by rw[e];rfl),List.filter_cons_of_pos e,adh,fw p f l]
  | false=>rw[List.filterMap_cons_none (by rw[e];rfl),List.filter_cons_of_neg (by rw[e];decide),fw p f l]
theorem fF{n i:Nat}{j:Int}(h:i∈others n j):i<n:=adX.mp (List.mem_filter.mp h).1
theorem oE(n:Nat)(j:Int):(others n j).length<=n:=by
 have:=List.length_filter_le (λi:Nat=>decide ((i:Int)≠j)) (adK n);rw[adu]at this;exact this
def fL:bw:=λds Q=>∃b n pts j,ds=[jm pts,cE b,.int (j:Nat)]/\Good n pts/\pts.length<=1000/\j<pts.length/\Q (.sh (gu b pts j))
theorem JU(ds:List D)(Q:B->Prop)(h:fL ds Q):GL oY {nx:=λ_=>Q (.sh .aQ),rt:=λb _=>Q b} (aR BZ.length ds):=by
 obtain⟨b,n,pts,j,rfl,hg,hl,hj,h⟩:=h;unfold GL jm;refine ao λN hN=>?_;symm;rw[acO,adE,dS];refine⟨by omega,eu (λi:Nat=>.int (0+(i:Nat))) (λi:Nat=>if decide ((i:Int)≠(j:Int))=true then some (.int (i:Nat))else none) _ (λi hm A Bn ha=>?_) (by rw[adu,sz];omega) ?_⟩
 ·symm
  refine⟨⟨rfl,rfl⟩,?_⟩;rw[Int.zero_add]
  by_cases e:i=j
  ·subst e
   have e2:gG (.int (i:Nat)) (.int (i:Nat))=true:=by simp [gG]
   rw[if_neg (by rw[e2];decide)]
   rw[if_neg (by simp)]at ha
   exact ha
  ·have e2:gG (.int (i:Nat)) (.int (j:Nat))=false:=by simp [gG];omega
   rw[if_pos (by rw[e2])]
   rw[if_pos (decide_eq_true ⋯)]at ha
   exact ha
 ·rw[fw]
  symm;subst hN;symm;refine bo (n:=j) rfl (jQ hj) ?_;symm;exact⟨b,n,pts,_,others pts.length j,rfl,hg,hg.bd (getD_mem hj),by have:=oE pts.length j;omega,λi hi=>fF hi,h⟩
theorem m9(b:Bool)(pts:List (List Int))(p:List Int):∀js:List Nat,(js=[]/\zl b pts p js=.aQ)\/∃k∈js,zl b pts p js=eQ b pts p k
 | []=>.inl ⟨rfl,rfl⟩
 | j::js=>.inr (by
  show∃k∈j::js,(js.map (eQ b pts p)).foldl (λb y=>if ltI y b=true then y else b) (eQ b pts p j)=eQ b pts p k
  have key:∀(rest:List Nat) (i:Nat),(∀x∈rest,x∈j::js)->i∈j::js->∃k∈j::js,(rest.map (eQ b pts p)).foldl (λb y=>if ltI y b=true then y else b) (eQ b pts p i)=eQ b pts p k:=by
   intro rest
   induction rest with
   | nil=>intro i _ hi;exact⟨i,hi,rfl⟩
   | cons x rest ih =>
    intro i hr hi;rw[adh,List.foldl_cons]
    split
    ·exact ih x (λy hy=>hr y (acQ _ hy)) (hr x (acX ..))
    ·exact ih i (λy hy=>hr y (acQ _ hy)) hi
  exact key js j (λx hx=>acQ _ hx) (acX ..))
def MR(n:Nat)(nn:Nat->Option (Int×Nat)):Prop:=∀i f k,i<n->nn i=some (f,k)->k<n/\(nn k).isSome=true
def nnD:Option (Int×Nat)->D
 | none=>.aQ
 | some p=>.tup [.int p.1,.int (p.2:Nat)]
theorem yp{n j k:Nat}(h:k∈others n (j:Int)):k≠j:=by
 have:=(List.mem_filter.mp h).2;have:=of_decide_eq_true this;omega
def Zz:D->Option (Int×Nat)
 | .tup [.int f,.int k]=>some (f,k.toNat)
 | _=>none
theorem FC(o:Option (Int×Nat)):Zz (nnD o)=o:=by
 cases o with
 | none=>rfl
 | some p=>show some (p.1,((p.2:Nat):Int).toNat)=some p;rw[adE]
def JE(b:Bool)(pts:List (List Int))(i:Nat):Option (Int×Nat):=Zz (gu b pts i)
theorem JB(b:Bool)(pts:List (List Int)):(∀i,gu b pts i=nnD (JE b pts i))/\MR pts.length (JE b pts):=by
 have h1:∀i,gu b pts i=nnD (JE b pts i)/\(∀f k,JE b pts i=some (f,k)->k<pts.length/\k≠i)/\(JE b pts i=none->others pts.length (i:Int)=[]):=by
  intro i;have go:∀o,gu b pts i=nnD o->JE b pts i=o:=λo e=>by unfold JE;rw[e,FC]
  rcases m9 b pts (pts.getD i []) (others pts.length (i:Int))with⟨h1,h2⟩|⟨k,h1,h2⟩
  ·have e:=go none h2
   rw[e];exact⟨h2,λf k e=>(by cases e),λ_=>h1⟩
  ·have e:=go (some (jA b (pts.getD i []) (pts.getD k []),k)) h2
   rw[e];exact⟨h2,λf k' e=>by cases e;exact⟨fF h1,yp h1⟩,λe=>by cases e⟩
 refine⟨λi=>(h1 i).1,λi f k hi e=>?_⟩;obtain⟨hk,cz⟩:=(h1 i).2.1 f k e;refine⟨hk,?_⟩;cases e2:JE b pts k with
 | some _=>rfl
 | none =>
  have:=(h1 k).2.2 e2;have hm:i∈others pts.length (k:Int):=List.mem_filter.mpr ⟨adX.mpr hi,decide_eq_true ⋯⟩
  rw[this]at hm;cases hm
def lY:bw:=λds Q=>∃pts j,ds=[jm pts,.int (j:Nat)]/\j<pts.length/\Q (.sh .aQ)
theorem FK(ds:List D)(Q:B->Prop)(h:lY ds Q):G0 {nx:=λ_=>Q (.sh .aQ),rt:=λb _=>Q b} (aR Cd.length ds):=by
 obtain⟨pts,j,rfl,hj,h⟩:=h;unfold G0 jm;symm;rw[acO];rw[if_neg ⋯,if_neg ⋯]
 exact h
def Wy(t:Int×Nat×Nat):D:=.tup [.int t.1,.int (t.2.1:Nat),.int (t.2.2:Nat)]
theorem MC{b:Bool}{pts:List (List Int)}:∀l:List D,(∀d∈l,∃i j,d=pairD b pts i j)->∃ts:List (Int×Nat×Nat),l=ts.map Wy
 | [],_=>⟨[],rfl⟩
 | d::l,h=>by
  obtain⟨i,j,rfl⟩:=h d (acX ..);obtain⟨ts,e⟩:=MC l λx hx=>h x (acQ _ hx);exact⟨(_,i,j)::ts,by rw[e];rfl⟩
theorem FO(b:Bool)(pts:List (List Int)):∃ts:List (Int×Nat×Nat),cD b pts=ts.map Wy:=MC (b:=b) (pts:=pts) _ λd hd=>by
 obtain⟨p,q,_,_,h⟩:=cM hd;exact⟨p,q,h⟩
def nearF(bound:Int):D->Option D
 | .tup [.int f,.int i,.int j]=>if f<=bound then some (.tup [.int i,.int j])else none
 | _=>none
theorem Fz(bound:Int)(t:Int×Nat×Nat):nearF bound (Wy t)=if decide (t.1<=bound)=true then some (.tup [.int (t.2.1:Nat),.int (t.2.2:Nat)])else none:=by
 show(if t.1<=bound then _ else _)=_
 by_cases h:t.1<=bound
 ·rw[if_pos h,if_pos (decide_eq_true h)]
 ·rw[if_neg h,if_neg (by rw[decide_eq_false h];decide)]
def i6(b:Bool)(pts:List (List Int))(bound:Int):List D:=(cD b pts).filterMap (nearF bound)
def WD(b:Bool)(pts:List (List Int))(d d':D):Prop:=∃i j i' j':Nat,d=pairD b pts i j/\d'=pairD b pts i' j'/\(i<i'\/(i=i'/\j<j'))
theorem Gw(b:Bool)(pts:List (List Int))(i:Nat):∀m,(iP b pts i m).Pairwise (WD b pts)
 | 0=>List.Pairwise.nil
 | m+1=>by
  rw[lU];refine adQ.mpr ⟨Gw b pts i m,List.pairwise_singleton ..,λx hx y hy=>?_⟩;rw[acU.mp hy];obtain⟨t,ht,rfl⟩:=adk.mp hx;have:=adX.mp ht;exact⟨i,i+1+t,i,i+1+m,rfl,rfl,.inr ⟨rfl,by omega⟩⟩
theorem Al(b:Bool)(pts:List (List Int)):∀i,(gw b pts i).Pairwise (WD b pts)
 | 0=>List.Pairwise.nil
 | i+1=>by
  refine adQ.mpr ⟨Al b pts i,Gw b pts i _,λx hx y hy=>?_⟩;obtain⟨p,q,h1,_,_,rfl⟩:=oQ hx;obtain⟨t,_,rfl⟩:=adk.mp hy;exact⟨p,q,i,i+1+t,rfl,rfl,.inl h1⟩
theorem wd(b:Bool)(pts:List (List Int))(bound:Int):(i6 b pts bound).Pairwise λx y=>mJ x y=true:=by
 unfold i6;rw[List.pairwise_filterMap];refine(Al b pts pts.length).imp λ{x y} h u hu v hv=>?_;obtain⟨i,j,i',j',rfl,rfl,h⟩:=h;have e1:u=.tup [.int (i:Nat),.int (j:Nat)]:=by
  have:(if jA b (pts.getD i []) (pts.getD j [])<=bound then some (D.tup [.int (i:Nat),.int (j:Nat)])else none)=some u:=hu
  split at this
  ·exact(adp this).symm
  ·cases this
 have e2:v=.tup [.int (i':Nat),.int (j':Nat)]:=by
  have:(if jA b (pts.getD i' []) (pts.getD j' [])<=bound then some (D.tup [.int (i':Nat),.int (j':Nat)])else none)=some v:=hv
  split at this
  ·exact(adp this).symm
  ·cases this
 subst e1 e2;unfold mJ;show(!HT.lexLt [(i':Int),(j':Int)] [(i:Int),(j:Int)])=true;rw[HT.bZ,HT.bZ]
 by_cases e:(i':Int)=(i:Int)
 ·rw[if_pos e,if_neg ⋯,decide_eq_false ⋯];rfl
 ·rw[if_neg e,decide_eq_false ⋯];rfl
theorem FA(b:Bool)(pts:List (List Int))(bound:Int):(i6 b pts bound).length<=(cD b pts).length:=List.length_filterMap_le _ _
def lW:bw:=λds Q=>∃j:Int,ds=[.int j]/\0<=j/\Q (.sh .aQ)
theorem FH(ds:List D)(Q:B->Prop)(h:lW ds Q):GY {nx:=λ_=>Q (.sh .aQ),rt:=λb _=>Q b} (aR Ca.length ds):=by
 obtain⟨j,rfl,hj,h⟩:=h;unfold GY;symm;rw[if_neg ⋯]
 exact h
def tK:bw:=λds Q=>∃b n pts j,ds=[jm pts,cE b,.int j]/\Good n pts/\pts.length<=1000/\0<=j/\Q (.own (i6 b pts j))
theorem Te(ds:List D)(Q:B->Prop)(h:tK ds Q):GW o4 lW kP {nx:=λ_=>Q (.sh .aQ),rt:=λb _=>Q b} (aR B8.length ds):=by
 obtain⟨b,n,pts,j,rfl,hg,hl,hj,h⟩:=h;unfold GW;refine ao λN hN=>?_;symm;refine⟨n,b,pts,rfl,hg.shape,?_⟩;symm;subst hN;refine ao λN hN=>?_;symm;refine⟨j,rfl,hj,?_⟩;symm;subst hN;symm;refine⟨b,n,pts,rfl,hg,hl,?_⟩;symm;have hz:=jO (b:=b) hl;obtain⟨ts,e⟩:=FO b pts;unfold i6 at h;rw[e]at h hz ⊢;rw[acO]at hz;refine eu Wy (λt=>nearF j (Wy t)) ts (λt ht A Bn ha=>?_) (by rw[sz];omega) ?_
 ·rw[Fz]at ha
  unfold Wy;symm
  by_cases hb:t.1<=j
  ·rw[if_pos (decide_eq_true hb)]at ha
   refine(if_pos hb).mpr ⟨by decide,ha⟩
  ·rw[if_neg (by rw[decide_eq_false hb];decide)]at ha
   exact(if_neg hb).mpr ha
 ·rw[List.filterMap_map]at h
  exact h
def uM(b:Bool)(pts:List (List Int))(j:Nat):List D:=(adK j).map λi=>pairD b pts i j
def iW(b:Bool)(pts:List (List Int)):Nat->List D
 | 0=>[]
 | j+1=>iW b pts j++uM b pts j
theorem nM(b:Bool)(pts:List (List Int)):∀j,(iW b pts j).length<=j*j
 | 0=>adz _
 | j+1=>by
  have ih:=nM b pts j;show(iW b pts j++uM b pts j).length<=_;rw[adt,uM,acO,adu,Nat.succ_mul,Nat.mul_succ];omega
theorem uN{b:Bool}{pts:List (List Int)}:∀ {n:Nat} {d:D},d∈iW b pts n ↔ ∃i j,i<j/\j<n/\d=pairD b pts i j
 | 0,d=>⟨(λh=>by cases h),(λ⟨i,j,_,h,_⟩=>by omega)⟩
 | n+1,d=>by
  show d∈iW b pts n++uM b pts n ↔ _;rw[adj,uN,uM,adk];constructor
  ·rintro(⟨i,j,h1,h2,h3⟩|⟨i,h1,h2⟩)
   ·exact⟨i,j,h1,by omega,h3⟩
   ·exact⟨i,n,adX.mp h1,by omega,h2.symm⟩
  ·rintro⟨i,j,h1,h2,h3⟩
   by_cases h:j<n
   ·exact .inl ⟨i,j,h1,h,h3⟩
   ·have:j=n:=by omega
    subst this;exact .inr ⟨i,adX.mpr h1,h3.symm⟩
def jW(b:Bool)(pts:List (List Int))(n:Nat):Nat->List D
 | 0=>[]
 | i+1=>jW b pts n i++iP b pts i (n-(i+1))
theorem wH(b:Bool)(pts:List (List Int)):∀i,jW b pts pts.length i=gw b pts i
 | 0=>rfl
 | i+1=>by show jW b pts pts.length i++_=gw b pts i++_;rw[wH b pts i]
theorem aar{α:Type}(A C R X:List α):((A++C)++(R++X)).Perm ((A++R)++(C++X)):=by
 rw[adA,adA];refine List.Perm.append_left A ?_;rw[<- adA,<- adA];exact aej X List.perm_append_comm
theorem qQ(b:Bool)(pts:List (List Int))(n:Nat):∀i,i<=n->(jW b pts (n+1) i).Perm (jW b pts n i++(adK i).map λt=>pairD b pts t n)
 | 0,_=>List.Perm.refl _
 | i+1,h=>by
  have ih:=qQ b pts n i ⋯
  show(jW b pts (n+1) i++iP b pts i (n+1-(i+1))).Perm ((jW b pts n i++iP b pts i (n-(i+1)))++(adK (i+1)).map λt=>pairD b pts t n);rw[show n+1-(i+1)=n-(i+1)+1 by omega,lU,show i+1+(n-(i+1))=n by omega,List.range_succ,List.map_append]
  exact(aej _ ih).trans (aar _ _ _ _)
theorem qa(b:Bool)(pts:List (List Int)):∀n,(iW b pts n).Perm (jW b pts n n)
 | 0=>List.Perm.refl _
 | n+1=>by
  have ih:=qa b pts n;show(iW b pts n++uM b pts n).Perm (jW b pts (n+1) n++iP b pts n (n+1-(n+1)));rw[Nat.sub_self,show iP b pts n 0=[]from rfl,adH]
  exact(aej _ ih).trans (qQ b pts n n (acS _)).symm
theorem xQ(b:Bool)(pts:List (List Int)):(iW b pts pts.length).Perm (cD b pts):=by
 have:=qa b pts pts.length
 rwa [wH]at this
theorem Jh{ls:List Int}{j:Nat}(h:j<ls.length):(ls.map D.int)[j]?=some (.int (ls.getD j 0)):=by
 rw[ac0,ade,acN h];rfl
theorem D4(a b:Int):gG (.int a) (.int b)=decide (a=b):=by
 unfold gG
 by_cases h:a=b
 ·simp [h]
 ·simp [h]
def bL(ps:List (Int×List Int)):List (Int×D):=ps.map λp=>(p.1,iO p.2)
structure V4(n:Nat)(ps:List (Int×List Int)):Prop where
 good:Good n (ps.map (·.2))
 inc:(ps.map (·.1)).Pairwise λx y:Int=>x<y
 len:ps.length<=1000
theorem jH(ps:List (Int×List Int)):(bL ps).map (·.1)=ps.map (·.1):=by unfold bL;rw[adN];rfl
theorem eL{ns:List Int}(h:ns.Pairwise λx y:Int=>x<y):wJ ns=ns:=(wK (List.Perm.refl _) (h.imp λh=>Int.le_of_lt h)).symm
theorem d6:∀ {ps:List (Int×List Int)} {k:Nat} {p:Int×List Int},(ps.map (·.1)).Pairwise (λx y:Int=>x<y)->ps[k]?=some p->dR (bL ps) p.1=some (iO p.2)
 | [],_,_,_,e=>by simp at e
 | q::ps,0,p,_,e=>by
  simp at e;subst e;show dR ((q.1,iO q.2)::bL ps) q.1=_;unfold dR;rw[List.find?_cons_of_pos (by simp)];rfl
 | q::ps,k+1,p,h,e=>by
  rw[adh,List.pairwise_cons]at h;have e:ps[k]?=some p:=by simpa using e
  have jr:=h.1 p.1 (adk.mpr ⟨p,ady e,rfl⟩);have ih:=d6 h.2 e;show dR ((q.1,iO q.2)::bL ps) p.1=_;unfold dR at ih ⊢;rw[List.find?_cons_of_neg (by simp;omega)]
  exact ih
theorem zQ:∀ {ps:List (Int×List Int)} {i:Int},(dR (bL ps) i).isSome=true->∃(k:Nat) (p:Int×List Int),ps[k]?=some p/\p.1=i
 | [],i,h=>by cases h
 | q::ps,i,h=>by
  have h:(dR ((q.1,iO q.2)::bL ps) i).isSome=true:=h
  by_cases e:q.1=i
  ·exact⟨0,q,rfl,e⟩
  ·unfold dR at h
   rw[List.find?_cons_of_neg (by simpa using e)]at h
   obtain⟨k,p,h1,h2⟩:=zQ (ps:=ps) (i:=i) h;exact⟨k+1,p,by simpa using h1,h2⟩
def wL:bw:=λds Q=>∃w c e kvs i,ds=[.kp w c e kvs,.int i]/\(dR kvs i).isSome=true/\Q (.sh .aQ)
theorem ack(ds:List D)(Q:B->Prop)(h:wL ds Q):VI {nx:=λ_=>Q (.sh .aQ),rt:=λb _=>Q b} (aR ML.length ds):=by
 obtain⟨w,c,e,kvs,i,rfl,hi,h⟩:=h;unfold VI;symm;rw[hi];exact(if_neg ∅).mpr h
def dU:bw:=λds Q=>∃w c e n ps,ds=[.kp w c e (bL ps)]/\V4 n ps/\Q (.own (ps.map λp=>.int p.1))
theorem JT(ds:List D)(Q:B->Prop)(h:dU ds Q):GR {nx:=λ_=>Q (.sh .aQ),rt:=λb _=>Q b} (aR B5.length ds):=by
 obtain⟨w,c,e,n,ps,rfl,ok,h⟩:=h;unfold GR;symm;rw[jH,eL ok.inc,adN];exact h
def o6:bw:=λds Q=>∃w c e n ps,ds=[.kp w c e (bL ps)]/\V4 n ps/\Q (.own ((ps.map (·.2)).map iO))
theorem aai(ds:List D)(Q:B->Prop)(h:o6 ds Q):VH dU {nx:=λ_=>Q (.sh .aQ),rt:=λb _=>Q b} (aR MJ.length ds):=by
 obtain⟨w,c,e,n,ps,rfl,ok,h⟩:=h;have hl:=ok.len;unfold VH;symm;refine⟨⟨_,_,_,_,rfl⟩,⟨adF,(λ_ h=>h.elim),[.kp w c e (bL ps)],rfl,w,c,e,n,ps,rfl,ok,?_⟩⟩;refine⟨.inl trivial,?_⟩;symm;refine d8 (λp:Int×List Int=>D.int p.1) (λp=>iO p.2) ps (λp hp A ha=>?_) (by rw[sz];omega) ?_
 ·obtain⟨k,hk⟩:=List.getElem?_of_mem hp
  symm;exact⟨_,d6 ok.inc hk,ha⟩
 ·rw[adN]at h
  exact h
def o5:bw:=λds Q=>∃w c e kvs i d,ds=[.kp w c e kvs,.int i]/\dR kvs i=some d/\Q (.sh d)
theorem JW(ds:List D)(Q:B->Prop)(h:o5 ds Q):GU wL {nx:=λ_=>Q (.sh .aQ),rt:=λb _=>Q b} (aR B6.length ds):=by
 obtain⟨w,c,e,kvs,i,d,rfl,hi,h⟩:=h;unfold GU;refine ao λN hN=>?_;symm;refine⟨⟨_,_,_,_,rfl⟩,⟨adF,(λ_ h=>h.elim),[.kp w c e kvs,.int i],rfl,w,c,e,kvs,i,rfl,by rw[hi];rfl,.inl trivial,?_⟩⟩
 symm;subst hN;symm;exact⟨d,hi,h⟩
def nmV(ks:List Int):D->D
 | .int i=>.int (ks.getD i.toNat 0)
 | d=>d
def bA(ks:List Int):D->D
 | .tup (f::r)=>.tup (f::r.map (nmV ks))
 | d=>d
theorem eg{ps:List (Int×List Int)}{i:Nat}(h:i<ps.length):(ps.map λp=>D.int p.1)[i]?=some (.int ((ps.map (·.1)).getD i 0)):=by
 rw[ac0,acN h,ade,ac0,acN h];rfl
def tG:bw:=λds Q=>∃b c e n ps,ds=[.kp (bf b) c e (bL ps)]/\V4 n ps/\Q (.sh (bA (ps.map (·.1)) (m7 b (ps.map (·.2)))))
theorem Ax(b:Bool)(pts:List (List Int)):m7 b pts=.aQ\/∃p q,p<q/\q<pts.length/\m7 b pts=pairD b pts p q:=by
 unfold m7;rw[pU (yr b pts)];cases e:fK (cD b pts)with
 | nil=>exact .inl rfl
 | cons a l =>
  have:a∈cD b pts:=(eK _).mem_iff.mp (by rw[e];exact acX ..)
  obtain⟨p,q,h1,h2,h⟩:=cM this;exact .inr ⟨p,q,h1,h2,h⟩
theorem Ta(ds:List D)(Q:B->Prop)(h:tG ds Q):G6 yL o6 dU {nx:=λ_=>Q (.sh .aQ),rt:=λb _=>Q b} (aR Cm.length ds):=by
 obtain⟨b,c,e,n,ps,rfl,ok,h⟩:=h;have hl:=ok.len;unfold G6;refine ao λN hN=>?_;symm;refine⟨⟨_,_,_,_,rfl⟩,⟨adF,(λ_ h=>h.elim),[.kp (bf b) c e (bL ps)],rfl,bf b,c,e,n,ps,rfl,ok,.inl trivial,?_⟩⟩;symm;refine⟨.str (bf b),rfl,?_⟩;symm;refine⟨b,n,ps.map (·.2),rfl,ok.good,by rw[acO];exact hl,?_⟩
 symm;subst hN;refine ao λN hN=>?_;rcases Ax b (ps.map (·.2))with h2|⟨p,q,h1,h2,h3⟩
 ·rw[h2]at h ⊢
  symm;exact h
 ·rw[h3]at h ⊢
  rw[acO]at h2;unfold pairD at h ⊢;symm
  try refine(if_neg ∅).mpr ?_
  subst hN;refine ao λN hN=>?_;symm;refine⟨⟨_,_,_,_,rfl⟩,⟨adF,(λ_ h=>h.elim),[.kp (bf b) c e (bL ps)],rfl,bf b,c,e,n,ps,rfl,ok,.inl trivial,?_⟩⟩;symm;subst hN;symm;refine dD (n:=0) rfl rfl ?_;symm;refine dD (n:=1) rfl rfl (bo (n:=p) rfl (eg ⋯) ?_)
  symm;refine dD (n:=2) rfl rfl (bo (n:=q) rfl (eg ⋯) ?_)
  symm;refine⟨by decide,?_⟩
  exact h
theorem aag(ds:List D)(Q:B->Prop)(h:fL ds Q):GX o4 lY fL {nx:=λ_=>Q (.sh .aQ),rt:=λb _=>Q b} (aR B9.length ds):=by
 obtain⟨b,n,pts,j,rfl,hg,hl,hj,h⟩:=h;unfold GX;symm;refine⟨n,b,pts,rfl,hg.shape,?_⟩;symm;refine⟨pts,j,rfl,hj,?_⟩;symm;exact⟨b,n,pts,j,rfl,hg,hl,hj,h⟩
theorem zY(b:Bool)(pts:List (List Int))(i:Nat)(hi:i<pts.length):gu b pts i=.aQ\/∃(f:Int) (k:Nat),k<pts.length/\gu b pts i=.tup [.int f,.int (k:Nat)]:=by
 obtain⟨h1,h2⟩:=JB b pts;rw[h1 i];cases e:JE b pts i with
 | none=>exact .inl rfl
 | some p=>exact .inr ⟨p.1,p.2,(h2 i p.1 p.2 hi e).1,rfl⟩
theorem qB:∀ {ns:List Int} {k:Nat} {i:Int},ns.Pairwise (λx y:Int=>x<y)->ns[k]?=some i->ya (.int i) (ns.map D.int)=some k
 | [],_,_,_,e=>by simp at e
 | n::ns,0,i,_,e=>by
  simp at e;subst e;unfold ya;rw[adh,List.findIdx?_cons,if_pos (by simp [gG])]
 | n::ns,k+1,i,hp,e=>by
  rw[List.pairwise_cons]at hp;have e:ns[k]?=some i:=by simpa using e
  have:=hp.1 i (ady e);have ih:=qB hp.2 e;unfold ya at ih ⊢;rw[adh,List.findIdx?_cons,if_neg (by simp [gG];omega),ih];rfl
theorem Fg(ns:List Int):bK 8 (.lst (ns.map D.int))=true:=by
 show(ns.map D.int).all (bK 7)=true;rw[List.all_map];exact ac4.mpr λ_ _=>rfl
theorem cL(ps:List (Int×List Int)):(ps.map λp=>D.int p.1)=(ps.map (·.1)).map D.int:=by rw[adN];rfl
def oZ:bw:=λds Q=>∃b c e n ps k i,ds=[.kp (bf b) c e (bL ps),.int i]/\V4 n ps/\(ps.map (·.1))[k]?=some i/\Q (.sh (bA (ps.map (·.1)) (gu b (ps.map (·.2)) k)))
theorem JS(ds:List D)(Q:B->Prop)(h:oZ ds Q):GN wL dU fL o6 {nx:=λ_=>Q (.sh .aQ),rt:=λb _=>Q b} (aR B1.length ds):=by
 obtain⟨b,c,e,n,ps,k,i,rfl,ok,hk,h⟩:=h;have hl:=ok.len;have BQ:k<ps.length:=by have:=(acR.mp hk).1;simpa using this
 have HL:(dR (bL ps) i).isSome=true:=by
  rw[ac0,acN BQ]at hk;have hk:ps[k].1=i:=by simpa using hk
  rw[<- hk,d6 ok.inc (acN BQ)];rfl
 unfold GN;refine ao λN hN=>?_;symm;refine⟨⟨_,_,_,_,rfl⟩,⟨adF,(λ_ h=>h.elim),[.kp (bf b) c e (bL ps),.int i],rfl,_,c,e,_,i,rfl,HL,.inl trivial,?_⟩⟩;symm;subst hN;refine ao λN hN=>?_;symm;refine⟨⟨_,_,_,_,rfl⟩,⟨adF,(λ_ h=>h.elim),[.kp (bf b) c e (bL ps)],rfl,bf b,c,e,n,ps,rfl,ok,.inl trivial,?_⟩⟩;symm;subst hN;refine ao λN hN=>?_;symm;refine⟨⟨_,_,_,_,rfl⟩,⟨adF,(λ_ h=>h.elim),[.kp (bf b) c e (bL ps)],rfl,bf b,c,e,n,ps,rfl,ok,.inl trivial,?_⟩⟩;symm;refine⟨.str (bf b),rfl,?_⟩;symm;rw[cL];refine⟨⟨_,rfl⟩,⟨rfl,Fg _⟩,k,qB ok.inc hk,?_⟩;symm;refine⟨b,n,ps.map (·.2),k,rfl,ok.good,by rw[acO];exact hl,by rw[acO];exact BQ,?_⟩
 symm;subst hN;refine ao λN hN=>?_;rcases zY b (ps.map (·.2)) k (by rw[acO];exact BQ)with h2|⟨f,q,h2,h3⟩
 ·rw[h2]at h ⊢
  symm;exact h
 ·rw[h3]at h ⊢
  rw[acO]at h2;symm
  try refine(if_neg ∅).mpr ?_
  subst hN;symm;refine dD (n:=0) rfl rfl ?_;symm;refine dD (n:=1) rfl rfl (bo (n:=q) rfl (by rw[<- cL];exact eg h2) ?_)
  symm;refine⟨by decide,?_⟩
  exact h
def Wt(ks:List Int)(p:Nat×Nat):D:=.tup [.int (ks.getD p.1 0),.int (ks.getD p.2 0)]
def dw(ks:List Int)(b:Bool)(pts:List (List Int))(j:Int):List D:=(i6 b pts j).map λd=>match d with|.tup [.int x,.int y]=>Wt ks (x.toNat,y.toNat)|d=>d
theorem JC(b:Bool)(pts:List (List Int))(bound:Int):∃ps:List (Nat×Nat),i6 b pts bound=ps.map (λp=>D.tup [.int (p.1:Nat),.int (p.2:Nat)])/\∀p∈ps,p.1<p.2/\p.2<pts.length:=by
 have:∀l:List D,(∀d∈l,∃p:Nat×Nat,d=.tup [.int (p.1:Nat),.int (p.2:Nat)]/\p.1<p.2/\p.2<pts.length)->∃ps:List (Nat×Nat),l=ps.map (λp=>D.tup [.int (p.1:Nat),.int (p.2:Nat)])/\∀p∈ps,p.1<p.2/\p.2<pts.length:=by
  intro l
  induction l with
  | nil=>intro _;exact⟨[],rfl,λp hp=>by cases hp⟩
  | cons d l ih =>
   intro h;obtain⟨p,rfl,hp⟩:=h d (acX ..);obtain⟨ps,e,Y2⟩:=ih λx hx=>h x (acQ _ hx);refine⟨p::ps,by rw[e];rfl,λx hx=>?_⟩
   rcases acV.mp hx with rfl|hx
   ·exact hp
   ·exact Y2 x hx
 refine this _ λd hd=>?_;obtain⟨x,hx,h⟩:=List.mem_filterMap.mp hd;obtain⟨p,q,h1,h2,rfl⟩:=cM hx;have:(if jA b (pts.getD p []) (pts.getD q [])<=bound then some (D.tup [.int (p:Nat),.int (q:Nat)])else none)=some d:=h
 split at this
 ·exact⟨(p,q),(adp this).symm,h1,h2⟩
 ·cases this
theorem eG(b:Bool)(pts:List (List Int))(bound:Int):∃ps:List (Nat×Nat),i6 b pts bound=ps.map (λp=>D.tup [.int (p.1:Nat),.int (p.2:Nat)])/\ps.length<=(cD b pts).length/\∀p∈ps,p.1<p.2/\p.2<pts.length:=by
 obtain⟨ps,e,h⟩:=JC b pts bound;refine⟨ps,e,?_,h⟩;have:=FA b pts bound;rw[e,acO]at this;exact this
theorem eF{ks:List Int}{b:Bool}{pts:List (List Int)}{j:Int}{qs:List (Nat×Nat)}(e:i6 b pts j=qs.map (λp=>D.tup [.int (p.1:Nat),.int (p.2:Nat)])):dw ks b pts j=qs.map (Wt ks):=by
 unfold dw;rw[e,adN];refine List.map_congr_left λp _=>?_;show Wt ks (((p.1:Nat):Int).toNat,((p.2:Nat):Int).toNat)=_;rw[adE,adE]
def tF:bw:=λds Q=>∃b c e n ps j,ds=[.kp (bf b) c e (bL ps),.int j]/\V4 n ps/\0<=j/\Q (.own (dw (ps.map (·.1)) b (ps.map (·.2)) j))
theorem aac(ds:List D)(Q:B->Prop)(h:tF ds Q):G1 dU tK o6 {nx:=λ_=>Q (.sh .aQ),rt:=λb _=>Q b} (aR Ce.length ds):=by
 obtain⟨b,c,e,n,ps,j,rfl,ok,hj,h⟩:=h;have hl:=ok.len;unfold G1;refine ao λN hN=>?_;symm;refine⟨⟨_,_,_,_,rfl⟩,⟨adF,(λ_ h=>h.elim),[.kp (bf b) c e (bL ps)],rfl,bf b,c,e,n,ps,rfl,ok,.inl trivial,?_⟩⟩;symm;subst hN;symm;refine⟨⟨_,_,_,_,rfl⟩,⟨adF,(λ_ h=>h.elim),[.kp (bf b) c e (bL ps)],rfl,bf b,c,e,n,ps,rfl,ok,.inl trivial,?_⟩⟩;symm;refine⟨.str (bf b),rfl,?_⟩;symm;refine⟨b,n,ps.map (·.2),j,rfl,ok.good,by rw[acO];exact hl,hj,?_⟩
 obtain⟨qs,eq,hq,hqs⟩:=eG b (ps.map (·.2)) j
 have hzp:=jO (b:=b) (pts:=ps.map (·.2)) (by rw[acO];exact hl)
 rw[eF eq]at h;rw[eq];symm;refine d8 (λp:Nat×Nat=>D.tup [.int (p.1:Nat),.int (p.2:Nat)]) (Wt (ps.map (·.1))) qs (λp hp A ha=>?_) (by rw[sz];omega) ?_
 ·obtain⟨h1,h2⟩:=hqs p hp
  rw[acO]at h2;walk_at "vg";symm;refine bo (n:=p.1) rfl (eg ⋯) (bo (n:=p.2) rfl (eg h2) ?_)
  symm;exact⟨by decide,ha⟩
 ·exact h
theorem fG(k:Str)(v:V):∀l:List (Str×V),(cR k v l).length<=l.length+1
 | []=>acS _
 | (g,x)::r=>by
  have:=fG k v r;unfold cR
  split
  ·simp
  ·simp only[adi];omega
def tE:HD:=λds Q=>∃b c,ds=[cE b,.int c]/\1<=c/\c<=3/\Q (bf b) c
theorem S9(ds:List D)(Q:Str->Int->Prop)(h:tE ds Q)(a dx:Addr):VJ iE nv {nx:=inQ a dx Q,rt:=λ_ _=>False} (kT MM.length a dx ds):=by
 obtain⟨b,c,rfl,h1,h2,h⟩:=h;unfold VJ cE;refine ao λN hN=>?_;symm;refine⟨c,rfl,h1,h2,?_⟩;symm;subst hN;refine ao λN hN=>?_;symm;refine⟨b,rfl,?_⟩;symm;subst hN;symm;refine⟨a,dx,[],.str (bf b),rfl,rfl,by simp [cR],?_⟩
 symm;refine⟨a,dx,_,.int c,rfl,rfl,by simp [cR],?_⟩
 symm;refine⟨a,dx,_,rfl,by have h1:=fG (adC "count") (.int c) (cR (adC "way") (.str (bf b)) []);have h2:=fG (adC "way") (.str (bf b)) [];exact Nat.lt_of_le_of_lt h1 (by have:(cR (adC "way") (V.str (bf b)) []).length<=1:=h2;omega),λad=>?_⟩
 symm;refine⟨a,dx,ad,_,bf b,c,rfl,by have h0:=fG (adC "points_by_name") (.ref ad) (cR (adC "count") (.int c) (cR (adC "way") (.str (bf b)) []));have h1:=fG (adC "count") (.int c) (cR (adC "way") (.str (bf b)) []);have h2:(cR (adC "way") (V.str (bf b)) []).length<=1:=fG (adC "way") (.str (bf b)) [];exact Nat.lt_of_le_of_lt h0 ⋯,rfl,?_⟩
 exact⟨ad,bf b,c,rfl,h⟩
def tM:jq:=λbs Q=>∃(a dx ad:Addr) (b:Bool) (c e:Int) (n:Nat) (ps:List (Int×List Int)) (p:List Int),bs=[.obj (gB a dx ad (bf b) c e (bL ps)),.sh (iO p)]/\(p.length:Int)=c/\ps.length<1000/\(∀q∈ps,q.1<e)/\Q (.sh (.int e)) [.obj (gB a dx ad (bf b) c (e+1) (bL (ps++[(e,p)]))),.sh (iO p)]
theorem vM{ps:List (Int×List Int)}{e:Int}{p:List Int}(h:∀q∈ps,q.1<e):yb (bL ps) e (iO p)=bL (ps++[(e,p)]):=by
 unfold yb;rw[if_neg (by
  rw[List.any_eq_true];rintro⟨x,hx,hd⟩;unfold bL at hx;obtain⟨q,hq,rfl⟩:=adk.mp hx;have:=h q hq;have:=of_decide_eq_true hd;have:q.1=e:=this;omega)]
 unfold bL;rw[List.map_append];rfl
theorem Jp(bs:List B)(Q:B->List B->Prop)(h:tM bs Q)(i:Nat)(xs:List D)(e:bs[i]?=some (.own xs)):i∈[0]:=by
 obtain⟨a,dx,ad,b,c,e',n,ps,p,rfl,_⟩:=h
 match i with
 | 0=>simp
 | 1=>simp at e
 | n+2=>simp at e
theorem aaj(bs:List B)(Q:B->List B->Prop)(h:tM bs Q):G5 tJ {nx:=yj bs Q (.sh .aQ),rt:=λb σ=>yj bs Q b σ} (cH Ck.length bs):=by
 obtain⟨a,dx,ad,b,c,e,n,ps,p,rfl,hp,hl,jr,h⟩:=h;unfold G5;refine ao λN hN=>?_;symm;refine⟨.int c,rfl,?_⟩;symm;refine⟨p,c,rfl,hp,?_⟩;symm;subst hN;refine ao λN hN=>?_;symm;refine⟨.int e,rfl,?_⟩;symm;subst hN;refine ao λN hN=>?_;symm;refine⟨⟨a,dx,ad,_,c,e,_,rfl⟩,a,dx,ad,_,c,e,_,rfl,by unfold bL;rw[acO,sz];omega,?_⟩
 rw[vM jr];subst hN;refine ao λN hN=>?_;symm;refine⟨a,dx,ad,_,c,e,_,rfl,?_⟩;subst hN;symm;exact⟨[.obj (gB a dx ad (bf b) c (e+1) (bL (ps++[(e,p)]))),.sh (iO p)],.obj rfl rfl (λz=>nomatch z) (.sh _ .nil),⟨rfl,trivial⟩,h⟩
def ny:jq:=λbs Q=>∃(a dx ad:Addr) (w:Str) (c e i:Int) (kvs:List (Int×D)),bs=[.obj (gB a dx ad w c e kvs),.sh (.int i)]/\(dR kvs i).isSome=true/\Q (.sh .aQ) [.obj (gB a dx ad w c e (iZ kvs i)),.sh (.int i)]
theorem Jo(bs:List B)(Q:B->List B->Prop)(h:ny bs Q)(i:Nat)(xs:List D)(e:bs[i]?=some (.own xs)):i∈[0]:=by
 obtain⟨a,dx,ad,w,c,e',j,kvs,rfl,_⟩:=h
 match i with
 | 0=>simp
 | 1=>simp at e
 | n+2=>simp at e
theorem Tn(bs:List B)(Q:B->List B->Prop)(h:ny bs Q):G2 wL {nx:=yj bs Q (.sh .aQ),rt:=λb σ=>yj bs Q b σ} (cH Cg.length bs):=by
 obtain⟨a,dx,ad,w,c,e,i,kvs,rfl,hi,h⟩:=h;unfold G2;refine ao λN hN=>?_;symm;refine⟨⟨_,w,c,e,kvs,rfl,rfl⟩,⟨adF,λ_ _=>trivial,[.kp w c e kvs,.int i],rfl,w,c,e,kvs,i,rfl,hi,.inr ⟨rfl,rfl⟩,?_⟩⟩;symm;subst hN;symm;refine⟨a,dx,ad,w,c,e,kvs,rfl,rfl,hi,?_⟩;exact⟨[.obj (gB a dx ad w c e (iZ kvs i)),.sh (.int i)],.obj rfl rfl (λz=>nomatch z) (.sh _ .nil),⟨rfl,trivial⟩,h⟩
theorem n5{P:Int->Prop}:∀(ds:List D) {n:Nat},ds.length=n->(∀d∈ds,∃v,d=.int v/\P v)->∃l:List Int,ds=l.map D.int/\l.length=n/\∀v∈l,P v
 | [],n,hn,_=>⟨[],rfl,hn,λv hv=>by cases hv⟩
 | d::ds,n,hn,h=>by
  obtain⟨v,rfl,hv⟩:=h d (acX ..);obtain⟨l,e,hl,hf⟩:=n5 ds (n:=ds.length) rfl λx hx=>h x (acQ _ hx);refine⟨v::l,by rw[e];rfl,by simpa [hl]using hn,λx hx=>?_⟩
  rcases acV.mp hx with rfl|hx
  ·exact hv
  ·exact hf x hx
structure gJ(n:Nat)(ps:List (Int×List Int)):Prop where
 n1:1<=n
 n3:n<=3
 pt:∀q∈ps,q.2.length=n/\∀v∈q.2,xx v
 inc:(ps.map (·.1)).Pairwise λx y:Int=>x<y
 len:ps.length<=1000
theorem gJ.ok{n:Nat}{ps:List (Int×List Int)}(h:gJ n ps):V4 n ps:=⟨⟨⟨h.n1,h.n3⟩,λp hp=>by
 obtain⟨q,hq,rfl⟩:=adk.mp hp;refine⟨(h.pt q hq).1,λx hx=>?_⟩;have:=(h.pt q hq).2 x hx;unfold xx at this;omega⟩,h.inc,h.len⟩
theorem Jm{n k:Nat}(h:k<n):zR n (k:Int)=some k:=by unfold zR;rw[if_pos ⋯,if_pos ⋯,adE]
def yJ:fo:=λxs ds Q=>cO xs/\∃(n:Nat) (ps:List (Int×List Int)),ds=[.int n,.dB (bL ps)]/\gJ n ps/\∀p ys,p.length=n->(∀v∈p,xx v)->cO ys->Q (.sh (iO p)) ys
theorem fW(ps:List (Int×List Int)):(bL ps).length=ps.length:=acO ..
theorem aae(xs ds:List D)(Q:B->List D->Prop)(h:yJ xs ds Q):G4 d7 {nx:=pG Q (.sh .aQ),rt:=λb σ=>pG Q b σ} (a8 Cj.length xs ds):=by
 obtain⟨r0,n,ps,rfl,kf,h⟩:=h;have h1:=kf.n1;have h3:=kf.n3;have hl:=kf.len;unfold G4;simp only[a8];refine ao λN hN=>?_;symm;rw[adE,dS];refine⟨by omega,qb (λi:Nat=>.int (0+(i:Nat))) (λd=>∃v,d=.int v/\xx v) cO _ (λv hv z rz A Z hz ha=>?_) (by rw[adu,sz];omega) r0 (λds ys1 IY hd1 r1=>?_)⟩
 ·walk_at "vg"
  symm;refine⟨⟨_,rfl⟩,rz,5,rfl,by decide,by decide,λr ys r0 r1 ry=>?_⟩
  symm;refine⟨hz,ha _ _ ⟨_,rfl,?_⟩ ry⟩;unfold xx;omega
 rw[adu]at IY;obtain⟨l1,rfl,IY,Wh⟩:=n5 ds IY hd1;subst hN;refine ao λN hN=>?_;symm;refine⟨⟨_,rfl⟩,r1,4,rfl,by decide,by decide,λkind ys2 k0 k1 r2=>?_⟩
 symm;subst hN;refine ao λN hN=>?_;symm;have YX:∀(l:List Int) (ys:List D),l.length=n->(∀v∈l,xx v)->cO ys->N [some (.own ys),some (.sh (.int n)),some (.sh (.dB (bL ps))),some (.own (l.map D.int)),some (.sh (.int kind)),none]:=by
  intro l ys IY Wh ry;subst hN;have se:∀(l:List Int) (ys:List D) (x:Option B),l.length=n->(∀v∈l,xx v)->cO ys->dH [0] (eN pv (bH (af 3) dX)) {nx:=pG Q (.sh .aQ),rt:=λb σ=>pG Q b σ} [some (.own ys),some (.sh (.int n)),some (.sh (.dB (bL ps))),some (.own (l.map D.int)),some (.sh (.int kind)),x]:=by
   intro l ys x IY Wh ry;symm;exact h l ys IY Wh ry
  show bO (cA _ (bO (eh [0] 3 (eN og _)) _) _) _ _ _;generalize ht:bO (eh [0] 3 (eN og _)) _=tb;refine ao λN hN=>?_;symm
  split
  ·split
   ·rename_i hk cz
    have Y2:0<ps.length:=by
     cases ps with
     | nil=>exact absurd rfl cz
     | cons _ _=>simp
    subst ht;refine ao λN2 BP=>?_;symm;refine⟨⟨_,rfl⟩,ry,_,rfl,by rw[fW];omega,by rw[fW];omega,λr ys2 q0 q1 ry2=>?_⟩
    rw[fW]at q1;rw[jH,eL kf.inc,<- cL];symm;obtain⟨k,rfl⟩:∃k:Nat,r=k:=⟨r.toNat,by omega⟩
    have YQ:k<ps.length:=by omega
    refine bo (n:=k) rfl (by rw[ac0,acN YQ];rfl) ?_
    symm;refine⟨_,d6 kf.inc (acN YQ),?_⟩;obtain⟨hp1,Wl⟩:=kf.pt ps[k] (ad5 _);generalize ps[k].2=p at hp1 Wl;show N2 [some (.own ys2),some (.sh (.int n)),some (.sh (.dB (bL ps))),some (.own (p.map D.int)),some (.sh (.int kind)),none];subst BP;refine ao λN2 BP=>?_;symm;refine⟨⟨_,rfl⟩,ry2,_,rfl,by omega,by omega,λr ys3 q0 q1 ry3=>?_⟩
    obtain⟨j,rfl⟩:∃j:Nat,r=j:=⟨r.toNat,by omega⟩
    have hj:j<p.length:=by omega
    symm;subst BP;symm;have e1:(10:Int)^(15:Int).toNat=1000000000000000:=by decide
    rw[e1];refine⟨by unfold nD;decide,by unfold nD;decide,bo (n:=j) rfl (Jh hj) ?_⟩
    symm;refine⟨⟨_,rfl⟩,ry3,3,rfl,by decide,by decide,λu ys4 u0 u1 ry4=>?_⟩
    symm;refine⟨⟨_,rfl⟩,?_⟩;rw[acO,Jm hj];show N _;have abZ:∀v:Int,(p.map D.int).set j (.int v)=(p.set j v).map D.int:=λv=>by rw[List.map_set]
    rw[abZ];subst hN;refine se _ ys4 _ (by rw[List.length_set];exact hp1) (λv hv=>?_) ry4
    rcases List.mem_or_eq_of_mem_set hv with hv|rfl
    ·exact Wl v hv
    ·unfold xx
     split<;>split at *<;>omega
   ·subst hN
    exact se l ys _ IY Wh ry
  ·subst hN
   exact se l ys _ IY Wh ry
 refine⟨⟨rfl,rfl⟩,?_⟩
 split
 ·rw[adE,dS]
  refine⟨by omega,qb (λi:Nat=>.int (0+(i:Nat))) (λd=>∃v,d=.int v/\xx v) cO _ (λv hv z rz A Z hz ha=>?_) (by rw[adu,sz];omega) r2 (λds ys3 nc hd2 r3=>?_)⟩
  ·walk_at "vg"
   symm;have e1:(10:Int)^(15:Int).toNat=1000000000000000:=by decide
   rw[e1];refine⟨⟨_,rfl⟩,by unfold nD;decide,by unfold jt;decide,rz,_,rfl,by decide,by decide,λr ys r0 r1 ry=>?_⟩
   symm;refine⟨by unfold nD;decide,hz,ha _ _ ⟨_,rfl,?_⟩ ry⟩
   unfold xx;omega
  rw[adu]at nc;obtain⟨l2,rfl,nc,hf2⟩:=n5 ds nc hd2;exact YX l2 ys3 nc hf2 r3
 ·exact YX l1 ys2 IY Wh r2
theorem yd{xs:List D}{Q:D->Prop}(h:0<xs.length)(q:∀d∈xs,Q d):Mi (.lst xs) (.int (-1)) Q:=by
 show(match L2.mZ xs (-1)with|some d=>Q d|none=>False)
 have e:L2.mZ xs (-1)=some (xs[xs.length-1]'⋯):=by
  unfold L2.mZ L2.zR;rw[if_neg ∅,if_pos ⋯]
  show xs[(-1+(xs.length:Int)).toNat]?=_;rw[show(-1+(xs.length:Int)).toNat=xs.length-1 by omega]
  exact acN _
 rw[e];exact q _ (ad5 _)
def kN:fo:=λxs ds Q=>cO xs/\∃(n:Nat) (ps:List (Int×List Int)),ds=[.dB (bL ps)]/\gJ n ps/\∀(nm bd:Int) ys,(ps=[]\/nm∈ps.map (·.1))->0<=bd->cO ys->Q (.sh (.tup [.int nm,.int bd])) ys
theorem JR(xs ds:List D)(Q:B->List D->Prop)(h:kN xs ds Q):G3 d7 {nx:=pG Q (.sh .aQ),rt:=λb σ=>pG Q b σ} (a8 Ci.length xs ds):=by
 obtain⟨r0,n,ps,rfl,kf,h⟩:=h;have hl:=kf.len;unfold G3;simp only[a8];refine ao λN hN=>?_;symm;rw[jH,eL kf.inc];have key:∀ns:List Int,ns≠[]->ns.length<=1000->(∀v∈ns,ps=[]\/v∈ps.map (·.1))->N [some (.own xs),some (.sh (.dB (bL ps))),some (.own (ns.map D.int)),none]:=by
  intro ns cz hln E3;subst hN;have abX:0<ns.length:=List.length_pos_iff.mpr cz;refine ao λN hN=>?_;symm;refine⟨⟨_,rfl⟩,r0,_,rfl,by rw[acO];omega,by rw[acO];omega,λr y1 q0 q1 r1=>?_⟩
  symm;refine fV q0 q1 λd1 hd1=>yd (by rw[acO];exact abX) λd2 hd2=>⟨by decide,⟨_,rfl⟩,r1,2,rfl,by decide,by decide,λr2 y2 q2 q3 hr2=>?_⟩
  symm;refine fV q2 q3 λd hd=>?_;have:d∈ns.map D.int:=by
   simp only[acV,ac8,or_false]at hd;rcases hd with rfl|rfl
   ·exact hd1
   ·exact hd2
  obtain⟨nm,YZ,rfl⟩:=adk.mp this;subst hN;symm;refine⟨⟨_,rfl⟩,hr2,30,rfl,by decide,by decide,λr3 y3 q4 q5 hr3=>?_⟩
  symm;refine⟨by unfold nD;decide,by unfold nD;decide,by decide,⟨_,rfl⟩,hr3,5,rfl,by decide,by decide,λr4 y4 q6 q7 hr4=>?_⟩
  symm;refine fV q6 q7 λd hd=>?_;have e1:(10:Int)^(15:Int).toNat=10^15:=by decide
  have e2:(10:Int)^(34:Int).toNat=10^34:=by decide
  rw[e1,e2]at hd;obtain⟨bd,rfl,hb⟩:∃bd:Int,d=.int bd/\0<=bd:=by
   simp only[acV,ac8,or_false]at hd;rcases hd with rfl|rfl|rfl|rfl|rfl
   all_goals exact⟨_,rfl,by omega⟩
  symm;exact⟨by decide,h nm bd y4 (E3 nm YZ) hb hr4⟩
 cases ps with
 | nil=>exact⟨by decide,⟨by decide,by decide,by decide⟩,by decide,key [0] (by simp) (by simp) λv _=>.inl rfl⟩
 | cons p ps =>
  have e0:(if(if false=true then !decide (bL (p::ps)=[])else decide (bL (p::ps)=[]))=true then(1:Int)else 0)=0:=rfl
  rw[e0];refine⟨by decide,⟨by decide,by decide,by decide⟩,by show(((p::ps).map (·.1)).map D.int).length+0<=acZ;rw[acO,acO,sz];omega,?_⟩
  have:=key ((p::ps).map (·.1)) (by simp) (by rw[acO];exact hl) λv hv=>.inr hv
  rw[<- adH (((p::ps).map (·.1)).map D.int)]at this
  exact this
def kO:bw:=λds Q=>∃b c e n ps w i j,ds=[.kp (bf b) c e (bL ps),.int w,.int i,.int j]/\gJ n ps/\(w=1\/w=3->i∈ps.map (·.1))/\0<=j /\
 (w=0->Q (.own ((ps.map (·.1)).map D.int)))/\(w=1->∀d,dR (bL ps) i=some d->Q (.sh d))/\(w=2->Q (.sh (bA (ps.map (·.1)) (m7 b (ps.map (·.2)))))) /\
 (w=3->∀k:Nat,(ps.map (·.1))[k]?=some i->Q (.sh (bA (ps.map (·.1)) (gu b (ps.map (·.2)) k))))/\(w≠0->w≠1->w≠2->w≠3->Q (.own (dw (ps.map (·.1)) b (ps.map (·.2)) j)))
theorem cw(a b:Int):gG (.int a) (.int b)=decide (a=b):=D4 a b
theorem Tb(ds:List D)(Q:B->Prop)(h:kO ds Q):GV dU o5 tG oZ tF {nx:=λ_=>Q (.sh .aQ),rt:=λb _=>Q b} (aR B7.length ds):=by
 obtain⟨b,c,e,n,ps,w,i,j,rfl,kf,hi,hj,q0,q1,q2,q3,q4⟩:=h;have ok:=kf.ok;unfold GV;refine ao λN hN=>?_;symm;refine⟨⟨rfl,rfl⟩,?_⟩;rw[cw]
 by_cases w0:w=0
 ·refine(if_pos (decide_eq_true w0)).mpr ?_
  refine⟨⟨_,_,_,_,rfl⟩,⟨adF,(λ_ h=>h.elim),[.kp (bf b) c e (bL ps)],rfl,bf b,c,e,n,ps,rfl,ok,.inl trivial,?_⟩⟩;rw[cL];symm;exact q0 w0
 refine(if_neg (by rw[decide_eq_false w0];decide)).mpr ?_
 subst hN;refine ao λN hN=>?_;symm;refine⟨⟨rfl,rfl⟩,?_⟩;rw[cw]
 by_cases w1:w=1
 ·refine(if_pos (decide_eq_true w1)).mpr ?_
  obtain⟨k,p,hk,rfl⟩:∃(k:Nat) (p:Int×List Int),ps[k]?=some p/\p.1=i:=by
   obtain⟨p,hp,rfl⟩:=adk.mp (hi (.inl w1));obtain⟨k,hk⟩:=List.getElem?_of_mem hp;exact⟨k,p,hk,rfl⟩
  have HL:=d6 kf.inc hk;refine⟨⟨_,_,_,_,rfl⟩,⟨adF,(λ_ h=>h.elim),[.kp (bf b) c e (bL ps),.int p.1],rfl,bf b,c,e,bL ps,p.1,_,rfl,HL,.inl trivial,?_⟩⟩;symm;exact q1 w1 _ HL
 refine(if_neg (by rw[decide_eq_false w1];decide)).mpr ?_
 subst hN;refine ao λN hN=>?_;symm;refine⟨⟨rfl,rfl⟩,?_⟩;rw[cw]
 by_cases w2:w=2
 ·refine(if_pos (decide_eq_true w2)).mpr ?_
  refine⟨⟨_,_,_,_,rfl⟩,⟨adF,(λ_ h=>h.elim),[.kp (bf b) c e (bL ps)],rfl,b,c,e,n,ps,rfl,ok,.inl trivial,?_⟩⟩;symm;exact q2 w2
 refine(if_neg (by rw[decide_eq_false w2];decide)).mpr ?_
 subst hN;refine ao λN hN=>?_;symm;refine⟨⟨rfl,rfl⟩,?_⟩;rw[cw]
 by_cases w3:w=3
 ·refine(if_pos (decide_eq_true w3)).mpr ?_
  obtain⟨k,hk⟩:=List.getElem?_of_mem (hi (.inr w3));refine⟨⟨_,_,_,_,rfl⟩,⟨adF,(λ_ h=>h.elim),[.kp (bf b) c e (bL ps),.int i],rfl,b,c,e,n,ps,k,i,rfl,ok,hk,.inl trivial,?_⟩⟩;symm;exact q3 w3 k hk
 refine(if_neg (by rw[decide_eq_false w3];decide)).mpr ?_
 subst hN;symm;refine⟨⟨_,_,_,_,rfl⟩,⟨adF,(λ_ h=>h.elim),[.kp (bf b) c e (bL ps),.int j],rfl,b,c,e,n,ps,j,rfl,ok,hj,.inl trivial,?_⟩⟩;symm;exact q4 w0 w1 w2 w3
theorem Mj{ks:List Int}(h:ks.Pairwise λx y:Int=>x<y){i j:Nat}(lA:i<j)(hj:j<ks.length):ks.getD i 0<ks.getD j 0:=by
 rw[ade,ade,acN hj,acN (show i<ks.length by omega)]
 exact ad3.mp h i j ⋯ hj lA
theorem sr{ks:List Int}(h:ks.Pairwise λx y:Int=>x<y){i j:Nat}(hi:i<ks.length)(hj:j<ks.length):(ks.getD i 0=ks.getD j 0 ↔ i=j)/\(ks.getD i 0<ks.getD j 0 ↔ i<j):=by
 rcases Nat.lt_trichotomy i j with h1|h1|h1
 ·have:=Mj h h1 hj
  exact⟨⟨λz=>by omega,λz=>by omega⟩,⟨λ_=>h1,λ_=>this⟩⟩
 ·subst h1
  exact⟨⟨λ_=>rfl,λ_=>rfl⟩,⟨λz=>by omega,λz=>by omega⟩⟩
 ·have:=Mj h h1 hi
  exact⟨⟨λz=>by omega,λz=>by omega⟩,⟨λz=>by omega,λz=>by omega⟩⟩
theorem lL{ks:List Int}(h:ks.Pairwise λx y:Int=>x<y):∀(r s:List Nat),(∀k∈r,k<ks.length)->(∀k∈s,k<ks.length)->HT.lexLt (r.map λk=>ks.getD k 0) (s.map λk=>ks.getD k 0)=HT.lexLt (r.map λk:Nat=>(k:Int)) (s.map λk:Nat=>(k:Int))
 | [],[],_,_=>rfl
 | [],_::_,_,_=>rfl
 | _::_,[],_,_=>rfl
 | x::r,y::s,hr,hs=>by
  have ih:=lL h r s (λk hk=>hr k (acQ _ hk)) λk hk=>hs k (acQ _ hk);obtain⟨c1,c2⟩:=sr h (hr x (acX ..)) (hs y (acX ..));simp only[adh,HT.bZ,ih]
  by_cases e:x=y
  ·rw[if_pos (c1.mpr e),if_pos ⋯]
  ·rw[if_neg (λz=>e (c1.mp z)),if_neg ⋯]
   by_cases l:x<y
   ·rw[decide_eq_true (c2.mpr l),decide_eq_true ⋯]
   ·rw[decide_eq_false (λz=>l (c2.mp z)),decide_eq_false ⋯]
def HZ(f:Int)(r:List Nat):D:=.tup (.int f::r.map λk:Nat=>D.int k)
theorem wc(ks:List Int)(f:Int)(r:List Nat):bA ks (HZ f r)=.tup (.int f::r.map λk=>.int (ks.getD k 0)):=by
 show D.tup (.int f::(r.map λk:Nat=>D.int k).map (nmV ks))=_;rw[adN];rfl
theorem qD{ks:List Int}(h:ks.Pairwise λx y:Int=>x<y){f g:Int}{r s:List Nat}(hr:∀k∈r,k<ks.length)(hs:∀k∈s,k<ks.length):ltI (bA ks (HZ f r)) (bA ks (HZ g s))=ltI (HZ f r) (HZ g s):=by
 rw[wc,wc];show HT.lexLt (f::(r.map λk=>D.int (ks.getD k 0)).map lE) (g::(s.map λk=>D.int (ks.getD k 0)).map lE)=HT.lexLt (f::(r.map λk:Nat=>D.int k).map lE) (g::(s.map λk:Nat=>D.int k).map lE);rw[fD,fD,fD,fD,HT.bZ,HT.bZ,lL h r s hr hs]
theorem fold_map{φ:D->D}:∀(l:List D) (b:D),(∀x∈b::l,∀y∈b::l,ltI (φ x) (φ y)=ltI x y)->(l.map φ).foldl (λb y=>if ltI y b=true then y else b) (φ b)=φ (l.foldl (λb y=>if ltI y b=true then y else b) b)
 | [],b,_=>rfl
 | y::l,b,h=>by
  rw[adh,List.foldl_cons,List.foldl_cons,h y (by simp) b (by simp)]
  by_cases e:ltI y b=true
  ·rw[if_pos e,if_pos e]
   exact fold_map l y λx hx z hz=>h x (acQ _ hx) z (acQ _ hz)
  ·rw[if_neg e,if_neg e]
   refine fold_map l b λx hx z hz=>h x ?_ z ?_
   ·rcases acV.mp hx with rfl|hx
    ·simp
    ·simp [hx]
   ·rcases acV.mp hz with rfl|hz
    ·simp
    ·simp [hz]
theorem uI{φ:D->D}{l:List D}(h:∀x∈l,∀y∈l,ltI (φ x) (φ y)=ltI x y):dr (l.map φ)=(dr l).map φ:=by
 cases l with
 | nil=>rfl
 | cons b l=>exact congrArg some (fold_map l b h)
theorem vC:∀(l:List D) (b:D),l.foldl (λb y=>if ltI y b=true then y else b) b∈b::l
 | [],b=>acX ..
 | y::l,b=>by
  rw[List.foldl_cons];have:=vC l (if ltI y b=true then y else b)
  rcases acV.mp this with h|h
  ·rw[h];split<;>simp
  ·simp [h]
theorem CH{l:List D}{z:D}(h0:l≠[])(h:∀x∈l,ltI z x=false):dr (l++[z])=dr l:=by
 cases l with
 | nil=>exact absurd rfl h0
 | cons b l =>
  show some ((l++[z]).foldl _ b)=some (l.foldl _ b);rw[List.foldl_append,List.foldl_cons,List.foldl_nil,if_neg (by rw[h _ (vC l b)];decide)]
theorem getD_map{ks:List Int}(o:Option D):(o.map (bA ks)).getD .aQ=bA ks (o.getD .aQ):=by cases o<;>rfl
theorem GF:∀(l:List Int) (c:Int),(∀x∈l,x<=c)->l.sum<=l.length*c
 | [],c,_=>by simp
 | x::l,c,h=>by
  have ih:=GF l c λy hy=>h y (acQ _ hy);have:=h x (acX ..);rw[List.sum_cons,adi];have e:((l.length+1:Nat):Int)*c=l.length*c+c:=by rw[Int.natCast_add,Int.add_mul];simp
  omega
theorem Pl{b:Bool}{p q:List Int}(hp:p.length<=3)(h1:∀v∈p,xx v)(h2:∀v∈q,xx v):jA b p q<10^40:=by
 have h:=GF ((p.zip q).map λxy=>stepI b xy.1 xy.2) (2*10^15*(2*10^15)) (λx hx=>by
  obtain⟨⟨u,v⟩,huv,rfl⟩:=adk.mp hx;have a1:=h1 u (List.of_mem_zip huv).1;have a2:=h2 v (List.of_mem_zip huv).2;unfold xx at a1 a2;have hab:0<=mY (u-v)/\mY (u-v)<=2*10^15:=by unfold mY;split<;>omega
  show stepI b u v<=_;unfold stepI
  split
  ·exact Int.mul_le_mul hab.2 hab.2 hab.1 ⋯
  ·omega)
 have hl:((p.zip q).map λxy=>stepI b xy.1 xy.2).length<=3:=by
  rw[acO,List.length_zip];omega
 unfold jA;generalize ((p.zip q).map λxy=>stepI b xy.1 xy.2).sum=s at h;generalize ((p.zip q).map λxy=>stepI b xy.1 xy.2).length=m at h hl;omega
theorem Ys{α:Type}(h:Nat->α)(j:Nat):∀n,j<=n->(adK n).filterMap (λi=>if decide (i<j)=true then some (h i)else none)=(adK j).map h:=by
 intro n hn;rw[fw];congr 1
 induction n with
 | zero =>
  have:j=0:=by omega
  subst this;rfl
 | succ n ih =>
  rw[List.range_succ,List.filter_append]
  by_cases e:j=n+1
  ·subst e
   rw[List.filter_eq_self.mpr,List.filter_eq_self.mpr,<- List.range_succ]
   ·intro i hi;simp at hi;simp;omega
   ·intro i hi;simp at hi;simp;omega
  ·rw[ih ⋯]
   have:List.filter (λi=>decide (i<j)) [n]=[]:=by simp;omega
   rw[this,adH]
theorem zZ(b:Bool)(pts:List (List Int))(i j:Nat):pairD b pts i j=HZ (jA b (pts.getD i []) (pts.getD j [])) [i,j]:=rfl
theorem BJ{ks:List Int}{b:Bool}{pts:List (List Int)}(h:ks.Pairwise λx y:Int=>x<y)(hl:ks.length=pts.length):(dr ((cD b pts).map (bA ks))).getD .aQ=bA ks (m7 b pts):=by
 unfold m7;rw[uI,getD_map];intro x hx y hy;obtain⟨i,j,h1,h2,rfl⟩:=cM hx;obtain⟨i',j',h3,h4,rfl⟩:=cM hy;rw[zZ,zZ];refine qD h ?_ ?_
 ·intro k hk
  simp only[acV,ac8,or_false]at hk;omega
 ·intro k hk
  simp only[acV,ac8,or_false]at hk;omega
theorem yk{ks:List Int}{b:Bool}{pts:List (List Int)}{k:Nat}(h:ks.Pairwise λx y:Int=>x<y)(hl:ks.length=pts.length):dr (((others pts.length k).map (eQ b pts (pts.getD k []))).map (bA ks))=(dr ((others pts.length k).map (eQ b pts (pts.getD k [])))).map (bA ks):=by
 refine uI λx hx y hy=>?_;obtain⟨i,h1,rfl⟩:=adk.mp hx;obtain⟨j,h2,rfl⟩:=adk.mp hy;have h1:=fF h1;have h2:=fF h2;show ltI (bA ks (HZ _ [i])) (bA ks (HZ _ [j]))=ltI (HZ _ [i]) (HZ _ [j]);refine qD h ?_ ?_
 ·intro k hk;rw[acU.mp hk];omega
 ·intro k hk;rw[acU.mp hk];omega
theorem mN(ks:List Int)(b:Bool)(pts:List (List Int))(j:Int):((cD b pts).map (bA ks)).filterMap (nearF j)=dw ks b pts j:=by
 unfold dw i6;rw[List.filterMap_map,List.map_filterMap];have cg:∀(l:List D) (f g:D->Option D),(∀d∈l,f d=g d)->l.filterMap f=l.filterMap g:=by
  intro l f g
  induction l with
  | nil=>intro _;rfl
  | cons d l ih =>
   intro h;rw[List.filterMap_cons,List.filterMap_cons,h d (acX ..),ih λx hx=>h x (acQ _ hx)]
 refine cg _ _ _ λd hd=>?_;obtain⟨p,q,_,_,rfl⟩:=cM hd;show(if jA b (pts.getD p []) (pts.getD q [])<=j then some (D.tup [.int (ks.getD p 0),.int (ks.getD q 0)])else none)=Option.map _ (if jA b (pts.getD p []) (pts.getD q [])<=j then some (D.tup [.int (p:Nat),.int (q:Nat)])else none)
 split<;>rfl
theorem sy{ks:List Int}{b:Bool}{pts:List (List Int)}{j:Int}(h:ks.Pairwise λx y:Int=>x<y)(hl:ks.length=pts.length):(dw ks b pts j).Pairwise λx y=>mJ x y=true:=by
 obtain⟨qs,e,_,hq⟩:=eG b pts j;rw[eF e];have hs:=wd b pts j;rw[e,List.pairwise_map]at hs;rw[List.pairwise_map];refine List.Pairwise.imp_of_mem (λ{x y} hx hy Jc=>?_) hs;have a1:=hq x hx;have a2:=hq y hy;unfold mJ at Jc ⊢;have:=lL h [y.1,y.2] [x.1,x.2] (by intro k hk;simp only[acV,ac8,or_false]at hk;omega) (by intro k hk;simp only[acV,ac8,or_false]at hk;omega)
 show(!HT.lexLt [ks.getD y.1 0,ks.getD y.2 0] [ks.getD x.1 0,ks.getD x.2 0])=true;rw[show HT.lexLt [ks.getD y.1 0,ks.getD y.2 0] [ks.getD x.1 0,ks.getD x.2 0]=_ from this]
 exact Jc
theorem ou(ks:List Int)(b:Bool)(pts:List (List Int))(j:Int):(dw ks b pts j).all fc=true:=by
 obtain⟨qs,e,_,_⟩:=eG b pts j;rw[eF e,List.all_map];exact ac4.mpr λ_ _=>rfl
theorem jl(ks:List Int)(b:Bool)(pts:List (List Int)):((cD b pts).map (bA ks)).all fc=true:=ac4.mpr λd hd=>by
 obtain⟨x,hx,rfl⟩:=adk.mp hd;obtain⟨p,q,_,_,rfl⟩:=cM hx;rfl
def dt(ks:List Int)(b:Bool)(pts:List (List Int))(n:Nat):List D:=(iW b pts n).map (bA ks)
theorem fR(ks:List Int)(b:Bool)(pts:List (List Int)):(dt ks b pts pts.length).Perm ((cD b pts).map (bA ks)):=(xQ b pts).map _
theorem xO(ks:List Int)(b:Bool)(pts:List (List Int)):(dt ks b pts pts.length).all fc=true:=ac4.mpr λd hd =>
 ac4.mp (jl ks b pts) d ((fR ks b pts).mem_iff.mp hd)
theorem AK{ks:List Int}{b:Bool}{pts:List (List Int)}(h:ks.Pairwise λx y:Int=>x<y)(hl:ks.length=pts.length):(fK (dt ks b pts pts.length)).head?.getD .aQ=bA ks (m7 b pts):=by
 have:fK (dt ks b pts pts.length)=fK ((cD b pts).map (bA ks)):=oW (jl ks b pts) ((eK _).trans (fR ks b pts)) (gf _);rw[this,<- pU (jl ks b pts),BJ h hl]
theorem xP{ks:List Int}{b:Bool}{pts:List (List Int)}{j:Int}(h:ks.Pairwise λx y:Int=>x<y)(hl:ks.length=pts.length):fK ((dt ks b pts pts.length).filterMap (nearF j))=dw ks b pts j:=by
 have hp:((dt ks b pts pts.length).filterMap (nearF j)).Perm (dw ks b pts j):=by
  rw[<- mN];exact(fR ks b pts).filterMap _
 have all:((dt ks b pts pts.length).filterMap (nearF j)).all fc=true:=ac4.mpr λd hd=>ac4.mp (ou ks b pts j) d (hp.mem_iff.mp hd);exact(oW all hp.symm (sy h hl)).symm
theorem lq{α:Type}{g:mx}{tc:TB}{te:TD}{σ0:Sd}{Q:List D->Prop}{items:List D}(gi:α->D)(f:α->Option D)(l:List α)(he:items=l.map gi)
  (h:∀a∈l,∀(A:D->Prop) (Bn:Prop),(match f a with|some d=>A d|none=>Bn)->g (gi a) σ0 λaw=>tc aw λb aM=>if b=true then te aM λd fq=>lK σ0 fq/\A d else lK σ0 aM/\Bn)
  (hl:l.length<=acZ) (q:Q (l.filterMap f)):gN g tc te σ0 items [] Q:=by
 subst he;exact eu gi f l h hl q
theorem iA(ps:List (Int×List Int)):(ps.map (·.1)).map D.int=(adK ps.length).map λk=>.int ((ps.map (·.1)).getD k 0):=by
 apply List.ext_getElem?;intro i
 by_cases h:i<ps.length
 ·rw[<- cL,eg h,ac0,List.getElem?_range h];rfl
 ·rw[List.getElem?_eq_none (by simpa using h),List.getElem?_eq_none (by simpa using h)]
theorem jG{ps:List (Int×List Int)}{k:Nat}(h:(ps.map (·.1)).Pairwise λx y:Int=>x<y)(hk:k<ps.length):dR (bL ps) ((ps.map (·.1)).getD k 0)=some (iO ((ps.map (·.2)).getD k [])):=by
 have:=d6 h (acN hk);rw[ade,ac0,acN hk,ade,ac0,acN hk];exact this
theorem jB{n:Nat}{ps:List (Int×List Int)}{k:Nat}(kf:gJ n ps)(hk:k<ps.length):(ps.map (·.2)).getD k []∈ps.map (·.2)/\((ps.map (·.2)).getD k []).length<=3/\∀v∈(ps.map (·.2)).getD k [],xx v:=by
 have e:(ps.map (·.2)).getD k []=ps[k].2:=by rw[ade,ac0,acN hk];rfl
 rw[e];have:=kf.pt ps[k] (ad5 _);have h3:=kf.n3;exact⟨adk.mpr ⟨_,ad5 _,rfl⟩,by omega,this.2⟩
def yU(u:Int×Int×Int):D:=.tup [.int u.1,.int u.2.1,.int u.2.2]
theorem Hk:∀l:List D,(∀d∈l,∃u,d=yU u)->∃us:List (Int×Int×Int),l=us.map yU
 | [],_=>⟨[],rfl⟩
 | d::l,h=>by
  obtain⟨u,rfl⟩:=h d (acX ..);obtain⟨us,e⟩:=Hk l λx hx=>h x (acQ _ hx);exact⟨u::us,by rw[e];rfl⟩
theorem Bh(bound:Int)(t:Int×Int×Int):nearF bound (yU t)=if decide (t.1<=bound)=true then some (.tup [.int t.2.1,.int t.2.2])else none:=by
 show(if t.1<=bound then _ else _)=_
 by_cases h:t.1<=bound
 ·rw[if_pos h,if_pos (decide_eq_true h)]
 ·rw[if_neg h,if_neg (by rw[decide_eq_false h];decide)]
theorem AJ(ks:List Int)(b:Bool)(pts:List (List Int))(n:Nat):∃us:List (Int×Int×Int),dt ks b pts n=us.map yU:=Hk _ λd hd=>by
 obtain⟨x,hx,rfl⟩:=adk.mp hd;obtain⟨i,j,_,_,rfl⟩:=uN.mp hx;exact⟨(jA b (pts.getD i []) (pts.getD j []),ks.getD i 0,ks.getD j 0),rfl⟩
def tH:bw:=λds Q=>∃b n ps w i j,ds=[.dB (bL ps),cE b,.int w,.int i,.int j]/\gJ n ps/\(w=1\/w=3->i∈ps.map (·.1))/\0<=j /\
 (w=0->Q (.own ((ps.map (·.1)).map D.int)))/\(w=1->∀d,dR (bL ps) i=some d->Q (.sh d))/\(w=2->Q (.sh (bA (ps.map (·.1)) (m7 b (ps.map (·.2)))))) /\
 (w=3->(ps.length=1->∀d,Q (.sh d))/\∀k:Nat,ps.length≠1->(ps.map (·.1))[k]?=some i->Q (.sh (bA (ps.map (·.1)) (gu b (ps.map (·.2)) k))))/\(w≠0->w≠1->w≠2->w≠3->Q (.own (dw (ps.map (·.1)) b (ps.map (·.2)) j)))
theorem Tc(ds:List D)(Q:B->Prop)(h:tH ds Q):Hb hE {nx:=λ_=>Q (.sh .aQ),rt:=λb _=>Q b} (aR Cu.length ds):=by
 obtain⟨b,n,ps,w,i,j,rfl,kf,hi,hj,q0,q1,q2,q3,q4⟩:=h;have ok:=kf.ok;have hl:=kf.len;have HN:(ps.map (·.2)).length=ps.length:=acO ..
 have xY:(ps.map (·.1)).length=ps.length:=acO ..
 unfold Hb;refine ao λN hN=>?_;symm;rw[jH,eL kf.inc];subst hN;refine ao λN hN=>?_;symm;refine⟨⟨rfl,rfl⟩,?_⟩;rw[cw]
 by_cases w0:w=0
 ·refine(if_pos (decide_eq_true w0)).mpr ?_
  exact q0 w0
 refine(if_neg (by rw[decide_eq_false w0];decide)).mpr ?_
 subst hN;refine ao λN hN=>?_;symm;refine⟨⟨rfl,rfl⟩,?_⟩;rw[cw]
 by_cases w1:w=1
 ·refine(if_pos (decide_eq_true w1)).mpr ?_
  obtain⟨k,p,hk,rfl⟩:∃(k:Nat) (p:Int×List Int),ps[k]?=some p/\p.1=i:=by
   obtain⟨p,hp,rfl⟩:=adk.mp (hi (.inl w1));obtain⟨k,hk⟩:=List.getElem?_of_mem hp;exact⟨k,p,hk,rfl⟩
  have HL:=d6 kf.inc hk;exact⟨_,HL,q1 w1 _ HL⟩
 refine(if_neg (by rw[decide_eq_false w1];decide)).mpr ?_
 subst hN;refine ao λN hN=>?_;show cA _ (dH [] (eN qE _)) _ _ _;generalize ht:dH [] (eN qE _)=tb;symm;refine⟨⟨rfl,rfl⟩,?_⟩;rw[cw]
 by_cases w3:w=3
 ·refine(if_pos (decide_eq_true w3)).mpr ?_
  subst ht;symm;obtain⟨k,hk⟩:=List.getElem?_of_mem (hi (.inr w3));have BQ:k<ps.length:=by have:=(acR.mp hk).1;rwa [xY]at this
  have hik:i=(ps.map (·.1)).getD k 0:=by rw[ade,hk];rfl
  obtain⟨m1,m2,m3⟩:=jB kf BQ;refine lq (λa:Nat=>D.int ((ps.map (·.1)).getD a 0)) (λa=>if decide ((a:Int)≠(k:Int))=true then some (bA (ps.map (·.1)) (eQ b (ps.map (·.2)) ((ps.map (·.2)).getD k []) a))else none) (adK ps.length) (iA ps) (λa ha A Bn hA=>?_) (by rw[adu,sz];omega) ?_
  ·have ha:=adX.mp ha
   obtain⟨a1,a2,a3⟩:=jB kf ha;walk_at "vg";symm;refine⟨⟨rfl,rfl⟩,?_⟩;have hc:=(sr kf.inc (show a<(ps.map (·.1)).length by rw[xY];exact ha) (show k<(ps.map (·.1)).length by rw[xY];exact BQ)).1
   rw[hik,cw]
   by_cases e:a=k
   ·rw[if_neg (by rw[decide_eq_true (hc.mpr e)];decide)]
    rw[if_neg (by simp [e])]at hA
    exact hA
   ·rw[if_pos (by rw[decide_eq_false (λz=>e (hc.mp z))])]
    rw[if_pos (decide_eq_true ⋯)]at hA
    refine⟨_,jG kf.inc BQ,?_⟩;symm;refine⟨_,jG kf.inc ha,?_⟩;symm;refine⟨b,_,_,rfl,ok.good.bd m1,ok.good.bd a1,?_⟩;symm;exact⟨by decide,hA⟩
  rw[fw];have e10:(10:Int)^Int.toNat 40=10^40:=by decide
  rw[e10];have abV:(adK ps.length).filter (λa:Nat=>decide ((a:Int)≠(k:Int)))=others (ps.map (·.2)).length k:=by unfold others;rw[HN]
  rw[abV];have hmm:(others (ps.map (·.2)).length k).map (λa=>bA (ps.map (·.1)) (eQ b (ps.map (·.2)) ((ps.map (·.2)).getD k []) a))=((others (ps.map (·.2)).length k).map (eQ b (ps.map (·.2)) ((ps.map (·.2)).getD k []))).map (bA (ps.map (·.1))):=by rw[adN];rfl
  rw[hmm];have hlen:=oE (ps.map (·.2)).length k
  refine⟨by unfold nD;decide,by decide,by decide,by rw[acO,acO,sz];omega,⟨.inr ?_,by simp⟩,?_⟩
  ·rw[List.all_append,List.all_map,List.all_map,adn]
   exact⟨ac4.mpr λ_ _=>rfl,by decide⟩
  ·by_cases h1:ps.length=1
   ·exact(q3 w3).1 h1 _
   ·rw[CH,yk kf.inc (by rw[xY,HN]),getD_map]
    ·exact(q3 w3).2 k h1 hk
    ·have:∃a,a∈others (ps.map (·.2)).length k:=by
      refine⟨if k=0 then 1 else 0,List.mem_filter.mpr ⟨adX.mpr ?_,decide_eq_true ?_⟩⟩
      ·rw[HN];split<;>omega
      ·split<;>omega
     obtain⟨a,ha⟩:=this;intro z;have:=List.length_eq_zero_iff.mpr z;rw[acO,acO]at this;rw[List.length_eq_zero_iff.mp this]at ha;cases ha
    ·intro x hx
     obtain⟨y,hy,rfl⟩:=adk.mp hx;obtain⟨a,ha,rfl⟩:=adk.mp hy;have ha:=fF ha;rw[HN]at ha;obtain⟨a1,a2,a3⟩:=jB kf ha;have:=Pl (b:=b) (q:=(ps.map (·.2)).getD a []) m2 m3 a3
     show HT.lexLt [10^40,0] [jA b _ _,_]=false;rw[HT.bZ,if_neg ⋯,decide_eq_false ⋯]
 refine(if_neg (by rw[decide_eq_false w3];decide)).mpr ?_
 subst hN;refine ao λN hN=>?_;symm;refine⟨by decide,?_⟩
 subst hN;refine ao λN hN=>?_;show eY _ _ _ _ _;generalize ht:nz (Kx _ _)=tb;symm;rw[iA];refine fS (λa:Nat=>D.int ((ps.map (·.1)).getD a 0)) (adK ps.length) (λt σ=>∃x7,σ=[some (.sh (.dB (bL ps))),some (.sh (cE b)),some (.sh (.int w)),some (.sh (.int i)),some (.sh (.int j)),some (.sh (.lst ((ps.map (·.1)).map D.int))),some (.own (dt (ps.map (·.1)) b (ps.map (·.2)) t)),x7]) (λt a σ N' hx hI Qg=>?_) (λσ hI=>?_) ⟨none,by rw[iA]⟩
 ·obtain⟨rfl,ht'⟩:=fI hx
  obtain⟨x7,rfl⟩:=hI;obtain⟨m1,m2,m3⟩:=jB kf ht';walk_at "vg";subst ht;symm;refine⟨⟨_,rfl⟩,lq (λc:Nat=>D.int ((ps.map (·.1)).getD c 0)) (λc=>if decide (c<a)=true then some (bA (ps.map (·.1)) (pairD b (ps.map (·.2)) c a))else none) (adK ps.length) (iA ps) (λc hc A Bn hA=>?_) (by rw[adu,sz];omega) ?_⟩
  ·have hc:=adX.mp hc
   obtain⟨a1,a2,a3⟩:=jB kf hc;walk_at "vg";symm;have YG:=(sr kf.inc (show c<(ps.map (·.1)).length by rw[xY];exact hc) (show a<(ps.map (·.1)).length by rw[xY];exact ht')).2
   by_cases e:c<a
   ·rw[if_pos (YG.mpr e)]
    rw[if_pos (decide_eq_true e)]at hA;refine⟨_,jG kf.inc hc,?_⟩;symm;refine⟨_,jG kf.inc ht',?_⟩;symm;refine⟨b,_,_,rfl,ok.good.bd a1,ok.good.bd m1,?_⟩;symm;exact⟨by decide,hA⟩
   ·rw[if_neg (λz=>e (YG.mp z))]
    rw[if_neg (by rw[decide_eq_false e];decide)]at hA
    exact hA
  ·rw[Ys _ a ps.length ⋯]
   have hz:=nM b (ps.map (·.2)) a
   have hz2:a*a<=1000*1000:=Nat.mul_le_mul ⋯ ⋯
   refine⟨by unfold dt;rw[acO,acO,adu,sz];omega,Qg _ ⟨some (.sh (.int ((ps.map (·.1)).getD a 0))),?_⟩⟩
   have:dt (ps.map (·.1)) b (ps.map (·.2)) (a+1)=dt (ps.map (·.1)) b (ps.map (·.2)) a++(adK a).map (λc=>bA (ps.map (·.1)) (pairD b (ps.map (·.2)) c a)):=by
    unfold dt;show(iW b (ps.map (·.2)) a++uM b (ps.map (·.2)) a).map _=_
    rw[List.map_append,uM,adN];rfl
   rw[this]
 ·obtain⟨x7,rfl⟩:=hI
  rw[adu,<- HN];have hcl:=nM b (ps.map (·.2)) (ps.map (·.2)).length
  have acB:(ps.map (·.2)).length*(ps.map (·.2)).length<=1000*1000:=Nat.mul_le_mul ⋯ ⋯
  show N _;subst hN;refine ao λN hN=>?_;symm;refine⟨⟨rfl,rfl⟩,?_⟩;rw[cw];have hlen:(dt (ps.map (·.1)) b (ps.map (·.2)) (ps.map (·.2)).length).length<=1000000:=by unfold dt;rw[acO];omega
  by_cases w2:w=2
  ·refine(if_pos (decide_eq_true w2)).mpr ⟨xO _ _ _,by decide,by rw[(eK _).length_eq,sz];omega,?_⟩
   have ht2:=AK (b:=b) kf.inc (show(ps.map (·.1)).length=(ps.map (·.2)).length by rw[xY,HN])
   refine bo (n:=0) rfl (d:=bA (ps.map (·.1)) (m7 b (ps.map (·.2)))) ?_ (q2 w2)
   rw[<- ht2];cases fK (dt (ps.map (·.1)) b (ps.map (·.2)) (ps.map (·.2)).length)<;>rfl
  refine(if_neg (by rw[decide_eq_false w2];decide)).mpr ?_
  subst hN;symm;have E6:=xP (b:=b) (j:=j) kf.inc (show(ps.map (·.1)).length=(ps.map (·.2)).length by rw[xY,HN])
  have iL:((dt (ps.map (·.1)) b (ps.map (·.2)) (ps.map (·.2)).length).filterMap (nearF j)).all fc=true:=by
   have hp:((dt (ps.map (·.1)) b (ps.map (·.2)) (ps.map (·.2)).length).filterMap (nearF j)).Perm (dw (ps.map (·.1)) b (ps.map (·.2)) j):=by
    rw[<- mN];exact(fR _ _ _).filterMap _
   exact ac4.mpr λd hd=>ac4.mp (ou _ b _ j) d (hp.mem_iff.mp hd)
  obtain⟨us,e⟩:=AJ (ps.map (·.1)) b (ps.map (·.2)) (ps.map (·.2)).length
  rw[e]at hlen E6 iL;rw[acO]at hlen;rw[List.filterMap_map]at E6 iL;refine lq yU (λt=>nearF j (yU t)) us e (λt ht A Bn ha=>?_) (by rw[sz];omega) ?_
  ·rw[Bh]at ha
   unfold yU;walk_at "vg";symm
   by_cases hb:t.1<=j
   ·rw[if_pos hb]
    rw[if_pos (decide_eq_true hb)]at ha;exact⟨by decide,ha⟩
   ·rw[if_neg hb]
    rw[if_neg (by rw[decide_eq_false hb];decide)]at ha
    exact ha
  ·refine⟨iL,?_⟩
   have:=q4 w0 w1 w2 w3;rw[<- E6]at this;exact this
theorem jN{m:Nat}{ns:List Int}(h:ns.length<=1000000):pI (m+1) (.tup (ns.map D.int))=true:=(yn (by rw[acO];exact h) λx hx=>by
 obtain⟨v,_,rfl⟩:=adk.mp hx;exact sC m v).2
theorem Bp{m:Nat}{ns:List Int}(h:ns.length<=1000000):pI (m+1) (.lst (ns.map D.int))=true:=(yn (by rw[acO];exact h) λx hx=>by
 obtain⟨v,_,rfl⟩:=adk.mp hx;exact sC m v).1
theorem JK(ks:List Int)(b:Bool)(pts:List (List Int)):pI 2 (bA ks (m7 b pts))=true:=by
 rcases Ax b pts with h|⟨p,q,_,_,h⟩
 ·rw[h];rfl
 ·rw[h];exact jN (ns:=[_,_,_]) (by simp)
theorem Bq(ks:List Int)(b:Bool)(pts:List (List Int))(k:Nat)(hk:k<pts.length):pI 2 (bA ks (gu b pts k))=true:=by
 rcases zY b pts k hk with h|⟨f,q,_,h⟩
 ·rw[h];rfl
 ·rw[h];exact jN (ns:=[_,_]) (by simp)
theorem Br(ks:List Int)(b:Bool)(pts:List (List Int))(j:Int)(hl:pts.length<=1000):pI 2 (.lst (dw ks b pts j))=true:=by
 obtain⟨qs,e,hq,_⟩:=eG b pts j;have hz:=jO (b:=b) hl;rw[eF e];refine(yn (by rw[acO];omega) λx hx=>?_).1
 obtain⟨p,_,rfl⟩:=adk.mp hx;exact jN (ns:=[_,_]) (by simp)
def tI:bw:=λds Q=>∃b c e n ps w i j,ds=[.kp (bf b) c e (bL ps),.dB (bL ps),cE b,.int w,.int i,.int j]/\gJ n ps/\(ps=[]\/i∈ps.map (·.1))/\0<=j/\Q (.sh (.bl true))
theorem aad(ds:List D)(Q:B->Prop)(h:tI ds Q):VM tH (eX 3) kO {nx:=λ_=>Q (.sh .aQ),rt:=λb _=>Q b} (aR MO.length ds):=by
 obtain⟨b,c,e,n,ps,w,i,j,rfl,kf,hi,hj,h⟩:=h;have hl:=kf.len;have HN:(ps.map (·.2)).length=ps.length:=acO ..
 have xY:(ps.map (·.1)).length=ps.length:=acO ..
 unfold VM;refine ao λN hN=>?_;have main:(w=1\/w=3->i∈ps.map (·.1))->N [some (.sh (.kp (bf b) c e (bL ps))),some (.sh (.dB (bL ps))),some (.sh (cE b)),some (.sh (.int w)),some (.sh (.int i)),some (.sh (.int j)),none]:=by
  intro hi;subst hN;refine ao λN hN=>?_;have L5:∀xs,¬w=3->pI 2 (.lst xs)=true->(∀Q':B->Prop,Q' (.own xs)->kO [.kp (bf b) c e (bL ps),.int w,.int i,.int j] Q')->N [some (.sh (.kp (bf b) c e (bL ps))),some (.sh (.dB (bL ps))),some (.sh (cE b)),some (.sh (.int w)),some (.sh (.int i)),some (.sh (.int j)),some (.own xs)]:=by
   intro xs w3 ok ans;subst hN;refine ao λN hN=>?_;symm;refine⟨⟨rfl,rfl⟩,?_⟩;rw[cw,if_neg (by rw[decide_eq_false w3];decide)]
   refine(if_neg ∅).mpr ?_
   subst hN;symm;refine ans _ ?_;symm;exact⟨_,rfl,ok,h⟩
  have Qf:∀d,¬(w=3/\ps.length=1)->pI 2 d=true->(∀Q':B->Prop,Q' (.sh d)->kO [.kp (bf b) c e (bL ps),.int w,.int i,.int j] Q')->N [some (.sh (.kp (bf b) c e (bL ps))),some (.sh (.dB (bL ps))),some (.sh (cE b)),some (.sh (.int w)),some (.sh (.int i)),some (.sh (.int j)),some (.sh d)]:=by
   intro d w3 ok ans;subst hN;refine ao λN hN=>?_;symm;refine⟨⟨rfl,rfl⟩,?_⟩;have go:N [some (.sh (.kp (bf b) c e (bL ps))),some (.sh (.dB (bL ps))),some (.sh (cE b)),some (.sh (.int w)),some (.sh (.int i)),some (.sh (.int j)),some (.sh d)]:=by
    subst hN;symm;refine ans _ ?_;symm;exact⟨_,rfl,ok,h⟩
   rw[cw]
   by_cases w3':w=3
   ·refine(if_pos (decide_eq_true w3')).mpr ⟨⟨rfl,rfl⟩,?_⟩
    rw[fW,cw,if_neg (by rw[decide_eq_false (λz=>w3 ⟨w3',by omega⟩)];decide)]
    exact go
   ·exact(if_neg (by rw[decide_eq_false w3'];decide)).mpr go
  have Qe:∀d,w=3->ps.length=1->N [some (.sh (.kp (bf b) c e (bL ps))),some (.sh (.dB (bL ps))),some (.sh (cE b)),some (.sh (.int w)),some (.sh (.int i)),some (.sh (.int j)),some (.sh d)]:=by
   intro d w3 h1;subst hN;refine ao λN hN=>?_;symm;refine⟨⟨rfl,rfl⟩,?_⟩;rw[cw,if_pos (decide_eq_true w3)];refine⟨⟨rfl,rfl⟩,?_⟩;rw[fW,cw,if_pos (decide_eq_true ⋯)]
   subst hN;symm;refine⟨b,c,e,n,ps,w,i,j,rfl,kf,hi,hj,λz=>absurd z ⋯,λz=>absurd z ⋯,λz=>absurd z ⋯,λ_ k hk=>?_,λ_ _ _ z=>absurd w3 z⟩
   have BQ:k<ps.length:=by have:=(acR.mp hk).1;rwa [xY]at this
   have:k=0:=by omega
   subst this;obtain⟨p,rfl⟩:=List.length_eq_one_iff.mp h1;rw[show gu b (List.map (·.2) [p]) 0=.aQ from rfl]
   symm;exact⟨_,rfl,rfl,h⟩
  symm;refine⟨b,n,ps,w,i,j,rfl,kf,hi,hj,λw0=>?_,λw1 d hd=>?_,λw2=>?_,λw3=>⟨λh1 d=>?_,λk h1 hk=>?_⟩,λw0 w1 w2 w3=>?_⟩
  ·symm
   refine L5 _ ⋯ (Bp ⋯) λQ' q=>⟨b,c,e,n,ps,w,i,j,rfl,kf,hi,hj,λ_=>q,λz=>absurd z ⋯,λz=>absurd z ⋯,λz=>absurd z ⋯,λz=>absurd w0 z⟩
  ·symm
   refine Qf _ ⋯ ?_ λQ' q=>⟨b,c,e,n,ps,w,i,j,rfl,kf,hi,hj,λz=>absurd z ⋯,λ_ d' Wd=>by rw[hd]at Wd;cases Wd;exact q,λz=>absurd z ⋯,λz=>absurd z ⋯,λ_ z=>absurd w1 z⟩
   obtain⟨k,p,hk,hpi⟩:=zQ (ps:=ps) (i:=i) (by rw[hd];rfl)
   have:=d6 kf.inc hk;rw[hpi,hd]at this;cases this;have hp:=kf.pt p (ady hk);have:=kf.n3;exact jN ⋯
  ·symm
   refine Qf _ ⋯ (JK _ _ _) λQ' q=>⟨b,c,e,n,ps,w,i,j,rfl,kf,hi,hj,λz=>absurd z ⋯,λz=>absurd z ⋯,λ_=>q,λz=>absurd z ⋯,λ_ _ z=>absurd w2 z⟩
  ·symm
   exact Qe d w3 h1
  ·have BQ:k<ps.length:=by have:=(acR.mp hk).1;rwa [xY]at this
   symm;refine Qf _ (λz=>h1 z.2) (Bq _ _ _ k (by rw[HN];exact BQ)) λQ' q=>⟨b,c,e,n,ps,w,i,j,rfl,kf,hi,hj,λz=>absurd z ⋯,λz=>absurd z ⋯,λz=>absurd z ⋯,λ_ k' Ma=>?_,λ_ _ _ z=>absurd w3 z⟩
   have abP:k'<ps.length:=by have:=(acR.mp Ma).1;rwa [xY]at this
   have e1:(ps.map (·.1)).getD k 0=i:=by rw[ade,hk];rfl
   have e2:(ps.map (·.1)).getD k' 0=i:=by rw[ade,Ma];rfl
   have:k'=k:=(sr kf.inc (by rw[xY];exact abP) (by rw[xY];exact BQ)).1.mp (by rw[e1,e2])
   rw[this];exact q
  ·symm
   refine L5 _ w3 (Br _ _ _ _ (by rw[HN];exact hl)) λQ' q=>⟨b,c,e,n,ps,w,i,j,rfl,kf,hi,hj,λz=>absurd z w0,λz=>absurd z w1,λz=>absurd z w2,λz=>absurd z w3,λ_ _ _ _=>q⟩
 symm
 by_cases hp:ps=[]
 ·subst hp
  refine(if_pos rfl).mpr ⟨by decide,⟨rfl,rfl⟩,?_⟩
  split
  ·exact h
  ·rename_i E3
   refine main λz=>absurd ?_ E3;rcases z with rfl|rfl<;>rfl
 ·refine(if_neg ?_).mpr ((if_neg ∅).mpr (main λ_=>hi.resolve_left hp))
  cases ps with
  | nil=>exact absurd rfl hp
  | cons p ps=>exactλz=>nomatch z
theorem nQ:∀(n:Nat) (x:D),bK n x=true->gG x x=true
 | _,.aQ,_=>rfl
 | _,.bl b,_=>by simp [gG]
 | _,.int i,_=>by simp [gG]
 | _,.str s,_=>by simp [gG]
 | 0,.tup _,h=>by simp [bK]at h
 | 0,.lst _,h=>by simp [bK]at h
 | n+1,.tup xs,h=>by
  have h':xs.all (bK n)=true:=h;show rR xs xs=true
  induction xs with
  | nil=>rfl
  | cons x r ih =>
   rw[aeC,adn]at h';show(gG x x&&rR r r)=true;rw[nQ n x h'.1,ih (by show r.all (bK n)=true;exact h'.2) h'.2];rfl
 | n+1,.lst xs,h=>by
  have h':xs.all (bK n)=true:=h;show rR xs xs=true
  induction xs with
  | nil=>rfl
  | cons x r ih =>
   rw[aeC,adn]at h';show(gG x x&&rR r r)=true;rw[nQ n x h'.1,ih (by show r.all (bK n)=true;exact h'.2) h'.2];rfl
 | 0,.dct _,h=>by simp [bK]at h
 | 0,.exc _,h=>by simp [bK]at h
 | 0,.jn _,h=>by simp [bK]at h
 | n+1,.dct _,h=>by simp [bK]at h
 | n+1,.exc _,h=>by simp [bK]at h
 | n+1,.jn _,h=>by simp [bK]at h
 | _,.dB _,h=>by simp [bK]at h
 | _,.kp ..,h=>by simp [bK]at h
theorem nq:∀l:List Int,gT (l.map D.int)=true
 | []=>rfl
 | _::l=>nq l
theorem ZC(p:List Int):Wr (iO p)=true:=nq p
theorem rN(p:Addr)(kvs:List (Int×D)):(qg p kvs).view=some (.dB kvs):=rfl
theorem zU(a dx ad:Addr)(w:Str)(c e:Int)(kvs:List (Int×D)):(gB a dx ad w c e kvs).view=some (.kp w c e kvs):=rfl
local macro_rules|`(tactic| walk_at "vv")=>`(tactic| (symm;(try simp only[rN,zU,Option.map_some]);(try symm)))
theorem IH{n:Nat}{ps:List (Int×List Int)}{e:Int}{p:List Int}(k:gJ n ps)(hl:ps.length<1000)(he:∀q∈ps,q.1<e)(hp:p.length=n)(hf:∀v∈p,xx v):gJ n (ps++[(e,p)]):=⟨k.n1,k.n3,λq hq=>by
 rcases adj.mp hq with hq|hq
 ·exact k.pt q hq
 ·rw[acU.mp hq];exact⟨hp,hf⟩,by
 rw[List.map_append,adQ];refine⟨k.inc,List.pairwise_singleton _ _,λa ha c hc=>?_⟩;obtain⟨q,hq,rfl⟩:=adk.mp ha;rw[acU.mp hc];exact he q hq,by rw[adt,aeu];omega⟩
theorem Ul{ps:List (Int×List Int)}{e:Int}{p:List Int}(he:∀q∈ps,q.1<e):∀q∈ps++[(e,p)],q.1<e+1:=λq hq=>by
 rcases adj.mp hq with hq|hq
 ·have:=he q hq;omega
 ·rw[acU.mp hq];omega
theorem IB(ps:List (Int×List Int))(i:Int):iZ (bL ps) i=bL (ps.filter λq=>decide (q.1≠i)):=by
 unfold iZ bL;rw[List.filter_map];rfl
theorem Ef{n:Nat}{ps:List (Int×List Int)}(k:gJ n ps)(i:Int):gJ n (ps.filter λq=>decide (q.1≠i)):=⟨k.n1,k.n3,λq hq=>k.pt q (List.mem_filter.mp hq).1,k.inc.sublist (List.filter_sublist.map _),adq (List.length_filter_le _ _) k.len⟩
def nu:jq:=λbs Q=>∃(y:List D) (a dx ad p6:Addr) (b:Bool) (n:Nat) (e:Int) (ps:List (Int×List Int)),bs=[.own y,.obj (gB a dx ad (bf b) n e (bL ps)),.obj (qg p6 (bL ps)),.sh (.int n),.sh (.int e)]/\cO y/\gJ n ps/\ps.length<100/\(∀q∈ps,q.1<e) /\
 ∀(y':List D) (e':Int) (ps':List (Int×List Int)),cO y'->gJ n ps'->ps'.length<=ps.length+1->(∀q∈ps',q.1<e')->Q (.sh (.tup [.bl true,.int e'])) [.own y',.obj (gB a dx ad (bf b) n e' (bL ps')),.obj (qg p6 (bL ps')),.sh (.int n),.sh (.int e)]
theorem Jq(bs:List B)(Q:B->List B->Prop)(h:nu bs Q)(i:Nat)(xs:List D)(e:bs[i]?=some (.own xs)):i∈[0,1,2]:=by
 obtain⟨y,a,dx,ad,p6,b,n,e',ps,rfl,_⟩:=h
 match i with
 | 0=>simp
 | 1=>simp
 | 2=>simp
 | 3=>simp at e
 | 4=>simp at e
 | n+5=>simp at e
theorem S8(bs:List B)(Q:B->List B->Prop)(h:nu bs Q):G7 d7 yJ (eX 3) tM ny {nx:=yj bs Q (.sh .aQ),rt:=λb σ=>yj bs Q b σ} (cH Cp.length bs):=by
 obtain⟨y0,a1,D1,CA,p6,b,n,e,ps,rfl,ry0,kf,dJ,Md,h⟩:=h;unfold G7;refine ao λN hN=>?_;generalize ht1:bO (eh [0,1,2] 5 _) _=t1;have put:∀y,cO y->t1 {nx:=N,rt:=λb' σ=>yj [.own y0,.obj (gB a1 D1 CA (bf b) n e (bL ps)),.obj (qg p6 (bL ps)),.sh (.int n),.sh (.int e)] Q b' σ} [some (.own y),some (.obj (gB a1 D1 CA (bf b) n e (bL ps))),some (.obj (qg p6 (bL ps))),some (.sh (.int n)),some (.sh (.int e)),none,none]:=by
  intro y ry;subst ht1;refine ao λN4 xV=>?_;walk_at "vv";refine⟨⟨_,rfl⟩,⟨_,rfl⟩,by decide,(λj hj=>by rw[acU.mp hj];decide),y,[.int n,.dB (bL ps)],rfl,ry,n,ps,rfl,kf,λp y6 hp hf r6=>?_⟩
  have Y0:gT y6=true:=by obtain⟨_,_,rfl⟩:=r6;rfl
  refine⟨.inr ⟨ZC p,we Y0 _⟩,?_⟩;walk_at "vv";subst xV;refine ao λN4 xV=>?_;walk_at "vv";refine⟨⟨_,_,rfl⟩,p6,bL ps,rfl,by rw[fW,sz];omega,?_⟩
  rw[vM Md];subst xV;walk_at "vv";refine⟨⟨_,_,_,_,_,rfl,rfl⟩,by decide,(λ_ h=>h.elim),a1,D1,CA,b,n,e,n,ps,p,rfl,by rw[hp],by omega,Md,.inl trivial,?_⟩
  walk_at "vv";refine⟨_,rfl,sC 2 e,?_⟩;walk_at "vv";exact⟨by decide,[.own y6,.obj (gB a1 D1 CA (bf b) n (e+1) (bL (ps++[(e,p)]))),.obj (qg p6 (bL (ps++[(e,p)]))),.sh (.int n),.sh (.int e)],.own _ _ (.obj rfl rfl (λz=>nomatch z) (.obj rfl rfl (λz=>nomatch z) (.sh _ (.sh _ .nil)))),⟨rfl,rfl,rfl,trivial⟩,h y6 (e+1) (ps++[(e,p)]) r6 (IH kf ⋯ Md hp hf) (by rw[adt,aeu];omega) (Ul Md)⟩
 symm;symm;simp only[rN,ac1,if_false,decide_eq_true_eq]
 split
 ·exact put y0 ry0
 ·rename_i cz
  have Y2:0<ps.length:=by
   cases ps with
   | nil=>exact absurd rfl cz
   | cons _ _=>simp
  refine⟨⟨_,rfl⟩,ry0,3,rfl,by decide,by decide,λa3 y4 a30 a31 r4=>?_⟩
  symm
  split
  ·exact put y4 r4
  ·subst hN
   refine ao λN4 xV=>?_;walk_at "vv";refine⟨⟨_,rfl⟩,r4,_,rfl,by rw[fW];omega,by rw[fW];omega,λr y5 q0 q1 r5=>?_⟩
   rw[fW]at q1;rw[jH,eL kf.inc,<- cL];walk_at "vv";obtain⟨j,rfl⟩:∃j:Nat,r=j:=⟨r.toNat,by omega⟩
   have hj:j<ps.length:=by omega
   refine bo (n:=j) rfl (by rw[ac0,acN hj];rfl) ?_
   have HL:=d6 kf.inc (acN hj);subst xV;refine ao λN4 xV=>?_;walk_at "vv";refine⟨⟨_,_,rfl⟩,p6,bL ps,rfl,by rw[HL];rfl,?_⟩
   subst xV;walk_at "vv";refine⟨⟨_,_,_,_,_,rfl,rfl⟩,by decide,(λ_ h=>h.elim),a1,D1,CA,bf b,n,e,ps[j].1,bL ps,rfl,by rw[HL];rfl,.inl trivial,?_⟩
   walk_at "vv";rw[IB];exact⟨by decide,[.own y5,.obj (gB a1 D1 CA (bf b) n e (bL (ps.filter λq=>decide (q.1≠ps[j].1)))),.obj (qg p6 (bL (ps.filter λq=>decide (q.1≠ps[j].1)))),.sh (.int n),.sh (.int e)],.own _ _ (.obj rfl rfl (λz=>nomatch z) (.obj rfl rfl (λz=>nomatch z) (.sh _ (.sh _ .nil)))),⟨rfl,rfl,rfl,trivial⟩,h y5 e _ r5 (Ef kf ps[j].1) (adq (List.length_filter_le _ _) ⋯) (λq hq=>Md q (List.mem_filter.mp hq).1)⟩
def yI:fo:=λxs ds Q=>cO xs/\∃(b:Bool) (c e:Int) (n:Nat) (ps:List (Int×List Int)),ds=[.kp (bf b) c e (bL ps),.dB (bL ps),cE b]/\gJ n ps/\∀ys,cO ys->Q (.sh (.bl true)) ys
theorem Z8(xs ds:List D)(Q:B->List D->Prop)(h:yI xs ds Q):VL d7 kN tI {nx:=pG Q (.sh .aQ),rt:=λb σ=>pG Q b σ} (a8 MN.length xs ds):=by
 obtain⟨r0,b,c,e,n,ps,rfl,kf,h⟩:=h;unfold VL;simp only[a8];refine ao λN hN=>?_;symm;refine⟨⟨_,rfl⟩,r0,5,rfl,by decide,by decide,λa3 y1 a30 a31 r1=>?_⟩
 symm;subst hN;refine ao λN1 xU=>?_;show eY _ _ _ _ _;generalize ht:bO (yP _ _) _=tb;symm;refine⟨by decide,?_⟩
 refine fS (λi:Nat=>.int (0+(i:Nat))) (adK 5) (λi σ=>∃y x5 x6 x7,σ=[some (.own y),some (.sh (.kp (bf b) c e (bL ps))),some (.sh (.dB (bL ps))),some (.sh (cE b)),some (.sh (.int a3)),x5,x6,x7]/\cO y) (λi k σ N2 hx hI BP=>?_) (λσ hI=>?_) ⟨y1,_,_,_,rfl,r1⟩
 ·obtain⟨rfl,hi⟩:=fI hx
  obtain⟨y,x5,x6,x7,rfl,ry⟩:=hI;walk_at "vg";subst ht;refine ao λN3 IW=>?_;symm;refine⟨⟨_,rfl⟩,ry,n,ps,rfl,kf,λnm bd y7 YZ L7 r7=>?_⟩;symm;subst IW;symm;refine⟨by decide,b,c,e,n,ps,(a3+(k:Int))%5,nm,bd,rfl,kf,YZ,L7,?_⟩
  symm;exact(if_neg ∅).mpr (BP _ ⟨y7,_,_,_,rfl,r7⟩)
 ·obtain⟨y,x5,x6,x7,rfl,ry⟩:=hI
  show N1 _;subst xU;symm;exact h y ry
def yK:fo:=λxs ds Q=>cO xs/\∃(b:Bool) (n:Nat),ds=[cE b,.int n]/\1<=n/\n<=3/\∀ys,cO ys->Q (.sh (.bl true)) ys
local macro_rules|`(tactic| walk_at "vv")=>`(tactic| (symm;(try simp only[rN,zU,Option.map_some]);(try symm)))
def xB(d:D):Prop:=∃x,bK 8 x=true/\d=.tup [x,x]
theorem Bo(ks:List Int)(b:Bool)(pts:List (List Int))(j:Int):bK 7 (.lst (dw ks b pts j))=true:=by
 obtain⟨qs,e,_,_⟩:=eG b pts j;rw[eF e];show(qs.map (Wt ks)).all (bK 6)=true;rw[List.all_map];exact ac4.mpr λ_ _=>rfl
theorem wg(ks:List Int)(b:Bool)(pts:List (List Int))(j:Int):gT (dw ks b pts j)=true:=by
 obtain⟨qs,e,_,_⟩:=eG b pts j;rw[eF e];clear e;have:∀l:List (Nat×Nat),gT (l.map (Wt ks))=true:=λl=>by
  induction l with
  | nil=>rfl
  | cons q l ih=>exact ih
 exact this qs
theorem Bi(ks:List Int)(b:Bool)(pts:List (List Int))(j:Int)(hl:pts.length<=1000):(dw ks b pts j).length<acZ:=by
 obtain⟨qs,e,h1,_⟩:=eG b pts j;have hz:=jO (b:=b) hl;rw[eF e,acO,sz];omega
theorem Bm(ns:List Int):bK 7 (.lst (ns.map D.int))=true:=by
 show(ns.map D.int).all (bK 6)=true;rw[List.all_map];exact ac4.mpr λ_ _=>rfl
theorem aal(xs ds:List D)(Q:B->List D->Prop)(h:yK xs ds Q):VN tE yI d7 nu kN tI dU tF {nx:=pG Q (.sh .aQ),rt:=λb σ=>pG Q b σ} (a8 MP.length xs ds):=by
 obtain⟨r0,b,n,rfl,Mb,YY,h⟩:=h;unfold VN;simp only[a8];refine ao λN1 xU=>?_;symm;refine⟨b,n,rfl,by omega,by omega,λa1 D1 CA=>?_⟩
 subst xU;refine ao λN1 xU=>?_;symm;intro p6;subst xU;refine ao λN1 xU=>?_;symm;subst xU;refine ao λN1 xU=>?_;symm;refine⟨by decide,?_⟩
 subst xU;have kf0:gJ n []:=⟨Mb,YY,nofun,List.Pairwise.nil,by decide⟩
 refine ao λN1 xU=>?_;walk_at "vv";refine⟨⟨_,rfl⟩,⟨_,rfl⟩,⟨_,rfl⟩,by decide,(λj hj=>by simp at hj;rcases hj with rfl|rfl<;>decide),_,[.kp (bf b) n 0 (bL []),.dB (bL []),cE b],rfl,r0,b,n,0,n,[],rfl,kf0,λy1 r1=>?_⟩
 have E9:gT y1=true:=by obtain⟨_,_,rfl⟩:=r1;rfl
 refine⟨.inr ⟨rfl,we E9 _⟩,?_⟩;walk_at "vv";refine(if_neg ∅).mpr ?_
 subst xU;refine ao λN1 xU=>?_;show eY _ _ _ _ _;generalize ht:bO (yP _ _) _=tb;symm;refine⟨⟨_,rfl⟩,r1,16,rfl,by decide,by decide,λma y3 ma0 ma1 r3=>?_⟩
 symm;obtain⟨many,YW⟩:∃k:Nat,1+ma=k:=⟨(1+ma).toNat,by omega⟩
 rw[YW,adE,dS];refine⟨by omega,fS (λi:Nat=>.int (0+(i:Nat))) (adK many) (λi σ=>∃y ps e hs x7 x8 x9 x10 x11 x12,σ=[some (.own y),some (.sh (cE b)),some (.sh (.int n)),some (.obj (gB a1 D1 CA (bf b) n e (bL ps))),some (.obj (qg p6 (bL ps))),some (.sh (.int e)),some (.own hs),x7,x8,x9,x10,x11,x12]/\cO y/\gJ n ps/\(∀q∈ps,q.1<e)/\ps.length<=i/\hs.length<=i/\∀d∈hs,xB d) (λi k σ N2 hx hI BP=>?_) (λσ hI=>?_) ⟨y3,[],0,[],_,_,_,_,_,_,rfl,r3,kf0,nofun,by decide,by decide,nofun⟩⟩
 ·obtain⟨rfl,hi⟩:=fI hx
  obtain⟨y,ps,e,hs,x7,x8,x9,x10,x11,x12,rfl,ry,kf,Md,dJ,hhl,hhs⟩:=hI;walk_at "vg";subst ht;refine ao λN3 IW=>?_;walk_at "vv";refine⟨⟨_,rfl⟩,⟨_,rfl⟩,⟨_,rfl⟩,by decide,(λ_ h=>h.elim),y,a1,D1,CA,p6,b,n,e,ps,rfl,ry,kf,by omega,Md,λy4 e4 rs r4 kr hrl hre=>⟨.inl trivial,?_⟩⟩
  walk_at "vv";subst IW;refine ao λN3 IW=>?_;walk_at "vv";refine⟨⟨_,rfl⟩,⟨_,rfl⟩,by decide,(λj hj=>by rw[acU.mp hj];decide),y4,[.dB (bL rs)],rfl,r4,n,rs,rfl,kr,λnm bd y7 YZ L7 r7=>?_⟩
  have abS:gT y7=true:=by obtain⟨_,_,rfl⟩:=r7;rfl
  refine⟨.inr ⟨rfl,we abS _⟩,?_⟩;walk_at "vv";subst IW;refine ao λN3 IW=>?_;walk_at "vv";refine⟨⟨_,rfl⟩,r7,7,rfl,by decide,by decide,λw y8 w0 w1 r8=>?_⟩
  walk_at "vv";subst IW;refine ao λN3 IW=>?_;have fin:N3 [some (.own y8),some (.sh (cE b)),some (.sh (.int n)),some (.obj (gB a1 D1 CA (bf b) n e4 (bL rs))),some (.obj (qg p6 (bL rs))),some (.sh (.int e4)),some (.own hs),some (.sh (.int k)),some (.sh (.bl true)),some (.sh (.int nm)),some (.sh (.int bd)),some (.sh (.int w)),x12]:=by
   subst IW;show cA _ _ _ _ _;generalize ht6:bO (eh [0] 12 _) _=t6;symm;refine⟨⟨rfl,rfl⟩,?_⟩;rw[cw]
   by_cases w6:w=6
   ·refine(if_pos (decide_eq_true w6)).mpr ?_
    subst ht6;have ok':=kr.ok;refine ao λN4 xV=>?_;walk_at "vv";refine⟨⟨_,_,_,_,_,rfl,rfl⟩,adF,λ_ _=>trivial,[.kp (bf b) n e4 (bL rs)],rfl,bf b,n,e4,n,rs,rfl,ok',.inr ⟨by rw[cL];exact nq _,rfl⟩,?_⟩
    refine⟨⟨_,_,_,_,_,rfl,rfl⟩,adF,λ_ _=>trivial,[.kp (bf b) n e4 (bL rs),.int bd],rfl,b,n,e4,n,rs,bd,rfl,ok',L7,.inr ⟨wg _ _ _ _,rfl⟩,?_⟩;walk_at "vv";refine⟨by decide,?_⟩
    have okT:bK 8 (.lst [.lst (rs.map λp=>.int p.1),.lst (dw (rs.map (·.1)) b (rs.map (·.2)) bd)])=true:=by
     show(bK 7 _&&(bK 7 _&&true))=true;rw[cL,Bm,Bo];rfl
    generalize hx:rs.map (λp=>D.int p.1)=HU at okT;generalize hy:dw (rs.map (·.1)) b (rs.map (·.2)) bd=HV at okT
    subst xV;refine ao λN4 xV=>?_;dsimp only;walk_at "vv";refine⟨⟨_,rfl⟩,by decide,d8 (λx:List D=>D.lst x) (λx=>D.lst x) [HU,HV] (λp hp A ha=>?_) (by show 2<=acZ;decide) ?_⟩
    ·walk_at "vg"
     symm;exact ha
    have hh2:∀d∈hs++[D.tup [D.lst [D.lst HU,D.lst HV],D.lst [D.lst HU,D.lst HV]]],xB d:=λd hd=>by
     rcases adj.mp hd with hd|hd
     ·exact hhs d hd
     ·exact⟨_,okT,acU.mp hd⟩
    have nc:(hs++[D.tup [D.lst [D.lst HU,D.lst HV],D.lst [D.lst HU,D.lst HV]]]).length<=k+1:=by rw[adt,aeu];omega
    refine⟨by decide,by rw[sz];omega,?_⟩
    show N4 [some (.own y8),some (.sh (cE b)),some (.sh (.int n)),some (.obj (gB a1 D1 CA (bf b) n e4 (bL rs))),some (.obj (qg p6 (bL rs))),some (.sh (.int e4)),some (.own (hs++[D.tup [D.lst [D.lst HU,D.lst HV],D.lst [D.lst HU,D.lst HV]]])),some (.sh (.int k)),some (.sh (.bl true)),some (.sh (.int nm)),some (.sh (.int bd)),some (.sh (.int w)),some (.sh (.lst [.lst HU,.lst HV]))];generalize hs++[D.tup [D.lst [D.lst HU,D.lst HV],D.lst [D.lst HU,D.lst HV]]]=zJ at hh2 nc;subst xV;refine ao λN4 xV=>?_;dsimp only;walk_at "vv";refine⟨⟨_,_,_,_,_,rfl,rfl⟩,adF,λ_ _=>trivial,[.kp (bf b) n e4 (bL rs)],rfl,bf b,n,e4,n,rs,rfl,ok',.inr ⟨by rw[cL];exact nq _,rfl⟩,?_⟩
    walk_at "vv";refine⟨by rw[acO,sz];omega,?_⟩
    subst xV;refine ao λN4 xV=>?_;dsimp only;walk_at "vv";refine⟨⟨_,_,_,_,_,rfl,rfl⟩,adF,λ_ _=>trivial,[.kp (bf b) n e4 (bL rs),.int bd],rfl,b,n,e4,n,rs,bd,rfl,ok',L7,.inr ⟨wg _ _ _ _,rfl⟩,?_⟩;walk_at "vv";refine⟨Bi _ _ _ _ (by rw[acO];exact kr.len),by decide,?_⟩
    subst xV;walk_at "vv";refine⟨⟨_,rfl⟩,⟨_,rfl⟩,⟨_,rfl⟩,by decide,(λj hj=>by simp at hj;rcases hj with rfl|rfl<;>decide),_,[.kp (bf b) n e4 (bL rs),.dB (bL rs),cE b],rfl,r8,b,n,e4,n,rs,rfl,kr,λy1 r1=>?_⟩
    have E9:gT y1=true:=by obtain⟨_,_,rfl⟩:=r1;rfl
    refine⟨.inr ⟨rfl,we E9 _⟩,?_⟩;walk_at "vv";exact(if_neg ∅).mpr (BP _ ⟨y1,rs,e4,zJ,_,_,_,_,_,_,rfl,r1,kr,hre,by omega,nc,hh2⟩)
   ·exact(if_neg (by rw[decide_eq_false w6];decide)).mpr (BP _ ⟨y8,rs,e4,hs,_,_,_,_,_,_,rfl,r8,kr,hre,by omega,by omega,hhs⟩)
  walk_at "vv";refine(if_neg ∅).mpr ?_
  split
  ·refine⟨⟨_,rfl⟩,⟨_,rfl⟩,adF,λ_ _=>trivial,[.kp (bf b) n e4 (bL rs),.dB (bL rs),cE b,.int w,.int nm,.int bd],rfl,b,n,e4,n,rs,w,nm,bd,rfl,kr,YZ,L7,.inr ⟨rfl,rfl⟩,?_⟩
   walk_at "vv";exact(if_neg ∅).mpr fin
  ·exact fin
 ·obtain⟨y,ps,e,hs,x7,x8,x9,x10,x11,x12,rfl,ry,kf,Md,dJ,hhl,hhs⟩:=hI
  show N1 _;subst xU;walk_at "vv";refine⟨⟨_,rfl⟩,⟨_,rfl⟩,⟨_,rfl⟩,by decide,(λj hj=>by simp at hj;rcases hj with rfl|rfl<;>decide),_,[.kp (bf b) n e (bL ps),.dB (bL ps),cE b],rfl,ry,b,n,e,n,ps,rfl,kf,λy1 r1=>?_⟩
  have E9:gT y1=true:=by obtain⟨_,_,rfl⟩:=r1;rfl
  refine⟨.inr ⟨rfl,we E9 _⟩,?_⟩;walk_at "vv";refine⟨by decide,?_⟩
  have hg:∀hs:List D,(∀d∈hs,xB d)->∃ys:List D,hs=ys.map (λx=>D.tup [x,x])/\∀x∈ys,bK 8 x=true:=λhs=>by
   induction hs with
   | nil=>exactλ_=>⟨[],rfl,nofun⟩
   | cons d hs ih =>
    intro hh;obtain⟨x,h1,h2⟩:=hh d (acX ..);obtain⟨ys,h3,h4⟩:=ih λy hy=>hh y (acQ _ hy);exact⟨x::ys,by rw[h2,h3];rfl,λy hy=>(acV.mp hy).elim (λz=>z ▸ h1) (h4 y)⟩
  obtain⟨ys,rfl,hy⟩:=hg hs hhs;rw[acO,adu]at hhl;refine eu (λx:D=>D.tup [x,x]) (λ_=>none) ys (λx hx A Bn ha=>?_) (by rw[sz];omega) ?_
  ·walk_at "vg"
   symm;refine⟨⟨hy x hx,hy x hx⟩,(if_neg (by rw[nQ 8 x (hy x hx)];decide)).mpr ha⟩
  rw[show ys.filterMap (λ_=>(none:Option D))=[]from List.filterMap_eq_nil_iff.mpr λ_ _=>rfl]
  refine⟨by decide,⟨rfl,rfl⟩,h y1 r1⟩
def GD:bw:=λds Q=>∃ns:List Int,ds=[.jn ns]/\ns.length<=63/\Q (.sh (.bl true))
theorem aak(ds:List D)(Q:B->Prop)(h:GD ds Q):He tO yK d7 {nx:=λ_=>Q (.sh .aQ),rt:=λb _=>Q b} (aR Cy.length ds):=by
 obtain⟨ns,rfl,hns,h⟩:=h;unfold He;refine ao λN hN=>?_;unfold Aw;generalize ht:bO (eh [] 2 _) _=tb;symm;refine⟨⟨cut ns none (some 3),by rw[uQ],adq (zo _ _ _) hns⟩,λm=>vF (λσ=>∃x1 x2,σ=[some (.sh (.jn ns)),x1,x2]) (λi c σ N' hI Qg=>?_) (λσ hI=>?_) m 0 _ ⟨_,_,rfl⟩⟩
 ·obtain⟨x1,x2,rfl⟩:=hI
  subst ht;have r0:cO [.int c,.int 0]:=⟨_,_,rfl⟩;unfold Uj;simp only[List.set_cons_zero,List.set_cons_succ];refine ao λN1 xU=>?_;symm;refine⟨⟨_,rfl⟩,r0,rfl,λb y1 r1=>?_⟩;symm;subst xU;symm;refine⟨⟨_,rfl⟩,⟨_,rfl⟩,r1,3,rfl,by decide,by decide,λa1 y2 a10 a11 r2=>?_⟩
  symm;obtain⟨n,Mb,YY,rfl⟩:∃n:Nat,1<=n/\n<=3/\a1=(n:Int)-1:=⟨(1+a1).toNat,by omega,by omega,by omega⟩
  rw[show 1+((n:Int)-1)=(n:Int)by omega]
  refine⟨r2,b,n,rfl,Mb,YY,λys ry=>?_⟩;symm;exact(if_neg ∅).mpr (Qg _ ⟨_,_,rfl⟩)
 ·obtain⟨x1,x2,rfl⟩:=hI
  subst hN;symm;exact h
end
def Ao(K:acT):Sp:=λvs H Q _=>∃(a:Addr) (ns:List Int),vs=[.ref a]/\gp K H a (ns.map V.int)/\ns.length<=63/\∀H',Q (.bl true) H'
-- level 9
section
variable [KF]{G:GE}{k:Nat}
theorem II{x:Str}{st:Stmt}{ps:List Str}{f:Addr}{fd:adf}(d:cV G x st ps f fd):c9 G k x λ_ _=>False:=
 ⟨f,fd,ps,⟨λvs H Q E h=>by obtain⟨_,_,_,_,_,z,_⟩:=h;exact z.elim,λA outer s H args us vs Q E _ _ _ _ h=>by obtain⟨_,_,_,_,_,z,_⟩:=h;exact z.elim⟩,d.m,d.F.kp,d.b⟩
local macro_rules|`(tactic| walk_at "8")=>`(tactic| (intro xs ds Q h;first|(obtain⟨e,_⟩:=h;rw[e];rfl) | (obtain⟨_,e,_⟩:=h;rw[e];rfl) | (obtain⟨_,_,e,_⟩:=h;rw[e];rfl) | (obtain⟨_,_,_,e,_⟩:=h;rw[e];rfl) | (obtain⟨_,_,_,_,e,_⟩:=h;rw[e];rfl) | (obtain⟨_,_,_,_,_,e,_⟩:=h;rw[e];rfl) | (obtain⟨_,_,_,_,_,_,e,_⟩:=h;rw[e];rfl) | (obtain⟨_,_,_,_,_,_,_,e,_⟩:=h;rw[e];rfl) | (obtain⟨_,_,_,_,_,_,_,_,e,_⟩:=h;rw[e];rfl) | (obtain⟨_,_,_,_,_,_,_,_,_,e,_⟩:=h;rw[e];rfl) | (obtain⟨_,_,_,_,_,_,_,_,_,_,e,_⟩:=h;rw[e];rfl)))
local macro_rules|`(tactic| walk_at "7")=>`(tactic| (intro ds Q h;first|(obtain⟨e,_⟩:=h;rw[e];rfl) | (obtain⟨_,e,_⟩:=h;rw[e];rfl) | (obtain⟨_,_,e,_⟩:=h;rw[e];rfl) | (obtain⟨_,_,_,e,_⟩:=h;rw[e];rfl) | (obtain⟨_,_,_,_,e,_⟩:=h;rw[e];rfl) | (obtain⟨_,_,_,_,_,e,_⟩:=h;rw[e];rfl) | (obtain⟨_,_,_,_,_,_,e,_⟩:=h;rw[e];rfl) | (obtain⟨_,_,_,_,_,_,_,e,_⟩:=h;rw[e];rfl) | (obtain⟨_,_,_,_,_,_,_,_,e,_⟩:=h;rw[e];rfl) | (obtain⟨_,_,_,_,_,_,_,_,_,e,_⟩:=h;rw[e];rfl) | (obtain⟨_,_,_,_,_,_,_,_,_,_,e,_⟩:=h;rw[e];rfl)))
theorem SU(hK:G.K=KF.K)(hT:KF.tabs=[])(E:Gl G)
    {vh:Addr} {PB:adf} (DE:cV G "need_count" kj ["count"] vh PB)
    {D8:Addr} {Yi:adf} (Oi:cV G "need_as_many_numbers" sR ["point","count"] D8 Yi)
    {uY:Addr} {Pr:adf} (Dw:cV G "need_points" j4 ["points"] uY Pr)
    {vv:Addr} {PY:adf} (DQ:cV G "need_way" kI ["way"] vv PY)
    {D9:Addr} {Yj:adf} (Oj:cV G "need_points_and_way" sS ["points","way"] D9 Yj)
    {vk:Addr} {PC:adf} (DF:cV G "need_place" kn ["points","place"] vk PC)
    {vg:Addr} {Pz:adf} (DC:cV G "need_bound" kh ["bound"] vg Pz)
    {uW:Addr} {Pp:adf} (Du:cV G "far_between" jZ ["way","point","other"] uW Pp)
    {Ea:Addr} {Yl:adf} (Om:cV G "pairs_by_places" sU ["points","way"] Ea Yl)
    {vd:Addr} {Px:adf} (DA:cV G "near_pairs" j9 ["points","way","bound"] vd Px)
    {Ee:Addr} {Yr:adf} (Ow:cV G "nearest_among" tf ["points","way","point","places"] Ee Yr)
    {uV:Addr} {Pm:adf} (Ds:cV G "nearest_other" jX ["points","way","place"] uV Pm)
    {uX:Addr} {Pq:adf} (Dv:cV G "nearest_two" j3 ["points","way"] uX Pq)
    {vf:Addr} {Py:adf} (DB:cV G "nearest_of" kc ["points","way","place"] vf Py)
    {AW:Addr} {Yn:adf} (Oq:InD G "__init__" "Kept.__init__" sW ["self","way","count"] AW Yn)
    {qp:Addr} {PN:adf} (DK:pA G "put" "Kept.put" kA ["self","point"] qp PN)
    {qo:Addr} {PF:adf} (DH:pA G "take" "Kept.take" kq ["self","name"] qo PF)
    {qk:Addr} {Pt:adf} (Dx:pA G "names" "Kept.names" j6 ["self"] qk Pt)
    {ql:Addr} {Pu:adf} (Dy:pA G "point" "Kept.point" j7 ["self","name"] ql Pu)
    {qt:Addr} {PQ:adf} (DL:pA G "two" "Kept.two" kB ["self"] qt PQ)
    {qj:Addr} {Pn:adf} (Dt:pA G "nearest" "Kept.nearest" jY ["self","name"] qj Pn)
    {qm:Addr} {PD:adf} (DG:pA G "near" "Kept.near" ko ["self","bound"] qm PD)
    {AU:Addr} {Ym:adf} (Oo:pA G "need_name" "Kept.need_name" sV ["self","name"] AU Ym)
    {AR:Addr} {Yk:adf} (Ol:pA G "plain_points" "Kept.plain_points" sT ["self"] AR Yk)
    {vp:Addr} {PU:adf} (DN:cV G "_law_next" kF ["pot","many"] vp PU)
    {vq:Addr} {PV:adf} (DP:cV G "_law_pots" kG ["script"] vq PV)
    {vx:Addr} {P0:adf} (DS:cV G "_law_far" kK ["way","one","other"] vx P0)
    {vy:Addr} {Qa:adf} (DT:cV G "_law_way" kL ["pot"] vy Qa)
    {vt:Addr} {PX:adf} (qf:cV G "_law_same" kH ["found","due"] vt PX)
    {vn:Addr} {PL:adf} (DJ:cV G "_law_point" kz ["pot","count","own"] vn PL)
    {vw:Addr} {PZ:adf} (DR:cV G "_law_due" kJ ["own","way","which","name","bound"] vw PZ)
    {uZ:Addr} {Pw:adf} (Dz:cV G "_law_answer" j8 ["kept","which","name","bound"] uZ Pw)
    {Ec:Addr} {Yp:adf} (Ou:cV G "_law_one_right" sY ["kept","own","way","which","name","bound"] Ec Yp)
    {vm:Addr} {PJ:adf} (DI:cV G "_law_drawn" ky ["pot","own"] vm PJ)
    {vo:Addr} {PR:adf} (DM:cV G "_law_done" kE ["pot","kept","own","count","coming"] vo PR)
    {Eb:Addr} {Yo:adf} (Ot:cV G "_law_all_right" sX ["pot","kept","own","way"] Eb Yo)
    {Ed:Addr} {Yq:adf} (Ov:cV G "_law_run_right" sZ ["pot","way","count"] Ed Yq)
    {qu:Addr} {Eg:adf} (DU:cV G "law" gy ["script"] qu Eg)
   :cf G.P G.w G.K G.mg G.base ig 10 qu Eg ["script"] (Ao G.K):=by
  have EK:gI G 1 "_law_pots":=DP.yu (k:=0) hK UT rfl rfl (X8 E);have bX:dN G 1 "_law_next" d7:=DN.Wb (k:=0) hK UR (X7 E) ∅ (by walk_at "8") Tf
  have ER:dN G 2 "_law_way" tO:=DT.Wb (k:=1) hK UY (Yc E (bX.mono ∅)) ∅ (by walk_at "8") Tj
  have qy:c9 G 1 "need_count" iE:=DE.fg (k:=0) hK UI (XY E) (by walk_at "7") FI
  have qA:c9 G 1 "need_way" nv:=DQ.fg (k:=0) hK UU (X9 E) (by walk_at "7") Ti
  have Qh:xA G 3 tE:=Oq.fi (k:=1) hK aaR (abA E (qy.mono ∅) (qA.mono ∅)) (by walk_at "7") S9
  have qz:dN G 2 "_law_drawn" kN:=DI.Wb (k:=1) hK UM (X2 E (bX.mono ∅)) ∅ (by walk_at "8") JR
  have zu:c9 G 1 "_law_far" hE:=DS.fg (k:=0) hK UX (Yb E) (by walk_at "7") Td
  have EL:c9 G 2 "_law_due" tH:=DR.fg (k:=1) hK UW (Ya E (zu.mono ∅)) (by walk_at "7") Tc
  have vI:c9 G 1 "_law_same" (eX 1):=qf.fg (k:=0) hK yA (D2 E (sp_q32:=eX 0) (II qf)) (by walk_at "7") (yq 0)
  have vJ:c9 G 2 "_law_same" (eX 2):=qf.fg (k:=1) hK yA (D2 E (vI.mono ∅)) (by walk_at "7") (yq 1)
  have vK:c9 G 3 "_law_same" (eX 3):=qf.fg (k:=2) hK yA (D2 E (vJ.mono ∅)) (by walk_at "7") (yq 2)
  have mF:=vK;have de:cC G 1 "names" (eE dU):=Dx.fg (k:=0) hK UB (XR E) (by walk_at "7") JT
  have sd:cC G 1 "need_name" (eE wL):=Oo.fg (k:=0) hK aaQ (abz E) (by walk_at "7") ack
  have Eu:cC G 2 "point" (eE o5):=Dy.fg (k:=1) hK UC (XS E (sd.mono ∅)) (by walk_at "7") JW
  have AY:c9 G 1 "need_as_many_numbers" tJ:=Oi.fg (k:=0) hK aaM (abv E) (by walk_at "7") aaf
  have Et:c9 G 2 "need_points" tL:=Dw.fg (k:=1) hK UA (XQ E (qy.mono ∅) (AY.mono ∅)) (by walk_at "7") Tg
  have rZ:c9 G 3 "need_points_and_way" o4:=Oj.fg (k:=2) hK aaN (abw E (Et.mono ∅) (qA.mono ∅)) (by walk_at "7") aah
  have qw:c9 G 1 "far_between" hE:=Du.fg (k:=0) hK Uy (XN E) (by walk_at "7") Z9
  have AZ:c9 G 2 "pairs_by_places" kP:=Om.fg (k:=1) hK aaP (aby E (qw.mono ∅)) (by walk_at "7") JV
  have Es:c9 G 4 "nearest_two" yL:=Dv.fg (k:=3) hK Uz (XO E (rZ.mono ∅) (AZ.mono ∅)) (by walk_at "7") aam
  have r9:cC G 2 "plain_points" (eE o6):=Ol.fg (k:=1) hK aaO (abx E (de.mono ∅)) (by walk_at "7") aai
  have EH:cC G 5 "two" (eE tG):=DL.fg (k:=4) hK UP (X5 E (Es.mono ∅) (r9.mono ∅) (de.mono ∅)) (by walk_at "7") Ta
  have EA:c9 G 1 "need_place" lY:=DF.fg (k:=0) hK UJ (XZ E) (by walk_at "7") FK
  have Qj:c9 G 2 "nearest_among" oY:=Ow.fg (k:=1) hK aaV (abE E (qw.mono ∅)) (by walk_at "7") JQ
  have Ep:c9 G 3 "nearest_other" fL:=Ds.fg (k:=2) hK Uw (XJ E (Qj.mono ∅)) (by walk_at "7") JU
  have Ey:c9 G 4 "nearest_of" fL:=DB.fg (k:=3) hK UG (XW E (rZ.mono ∅) (EA.mono ∅) (Ep.mono ∅)) (by walk_at "7") aag
  have Er:cC G 5 "nearest" (eE oZ):=Dt.fg (k:=4) hK Ux (XM E (sd.mono ∅) (de.mono ∅) (Ey.mono ∅) (r9.mono ∅)) (by walk_at "7") JS
  have Ez:c9 G 1 "need_bound" lW:=DC.fg (k:=0) hK UH (XX E) (by walk_at "7") FH
  have Ex:c9 G 4 "near_pairs" tK:=DA.fg (k:=3) hK UE (XU E (rZ.mono ∅) (Ez.mono ∅) (AZ.mono ∅)) (by walk_at "7") Te
  have nX:cC G 5 "near" (eE tF):=DG.fg (k:=4) hK UK (X0 E (de.mono ∅) (Ex.mono ∅) (r9.mono ∅)) (by walk_at "7") aac
  have Ew:c9 G 6 "_law_answer" kO:=Dz.fg (k:=5) hK UD (XT E (de.mono ∅) (Eu.mono ∅) (EH.mono ∅) (Er.mono ∅) (nX.mono ∅)) (by walk_at "7") Tb
  have A0:c9 G 7 "_law_one_right" tI:=Ou.fg (k:=6) hK aaT (abC E (EL.mono ∅) (mF.mono ∅) (Ew.mono ∅)) (by walk_at "7") aad
  have EY:dN G 8 "_law_all_right" yI:=Ot.Wb (k:=7) hK aaS (abB E (bX.mono ∅) (qz.mono ∅) (A0.mono ∅)) ∅ (by walk_at "8") Z8
  have EE:dN G 2 "_law_point" yJ:=DJ.Wb (k:=1) hK UN (X3 E (bX.mono ∅)) ∅ (by walk_at "8") aae
  have EF:cC G 2 "put" tM:=DK.fmu (k:=1) (ios:=[0]) hK UO (X4 E (AY.mono ∅)) (by walk_at "7") Jp ∅ aaj
  have EC:cC G 2 "take" ny:=DH.fmu (k:=1) (ios:=[0]) hK UL (X1 E (sd.mono ∅)) (by walk_at "7") Jo ∅ Tn
  have EJ:qZ G 4 "_law_done" nu:=DM.fmu (k:=3) (ios:=[0,1,2]) hK UQ (X6 E (bX.mono ∅) (EE.mono ∅) (mF.mono ∅) (EF.mono ∅) (EC.mono ∅)) (by walk_at "7") Jq ∅ S8
  have Qi:dN G 9 "_law_run_right" yK:=Ov.Wb (k:=8) hK aaU (abD E (Qh.mono ∅) (EY.mono ∅) (bX.mono ∅) (EJ.mono ∅) (qz.mono ∅) (A0.mono ∅) (de.mono ∅) (nX.mono ∅)) ∅ (by walk_at "8") aal
  refine(Eh (k:=9) (sp:=GD) hK DU.F UZ (Yd E (EK.mono ∅) (ER.mono ∅) (Qi.mono ∅) (bX.mono ∅)) (by walk_at "7") aak).imp λvs H Q E' h=>?_
  obtain⟨a,ns,rfl,hS,hl,q⟩:=h;refine⟨H,[.jn ns],λb=>b=.sh (.bl true),⟨aq.refl _,λq hq=>by rw[hT]at hq;cases hq⟩,.cons (.jn (by rw[<- hK];exact hS)) .nil,⟨ns,rfl,hl,rfl⟩,λv H' F' b _ _ _ _ r e=>?_⟩
  subst e;have r:Rep F' v (.bl true):=r;cases r;exact q H'
end
open PySem.W in
theorem all_mk{l:OpenLaw}{w:World}{K:Frag}{h:Heap}{mg:Str->Option Value}{fa:Addr}(X:K.In h)(Gs:h.Ns ac2 mg)(hfa:mg "law"=some (.ref fa))
  {a9:Addr}
 {vh D8 uY vv D9 vk vg uW Ea vd Ee uV uX vf AW qp qo qk ql qt qj qm AU AR vp vq vx vy vt vn vw uZ Ec vm vo Eb Ed qu:Addr}
 {Sv Nb ZQ W4 Sh M3 SK Nr ZR W5 Sw Nc Ss M9 Sf MZ ZT W7 Sn M7 ZZ Xd Sb MX Sg M0 Sr M8 ZV W9 SD Nj Sy Ng Si M4 Sj M5 SE Nk Se MY Sx Nf ZU W8 ZS W6 SG Nn SH Np SN Nu SQ Nv SJ Nq SA Ni SM Nt Sl M6 ZX Xb Sz Nh SF Nm ZW Xa ZY Xc SR CB:Option Addr}
 {Vd aaW U5 Vp aaX Ve Vb U3 aaZ U9 aa5 U1 U4 Va aa1 Vj Vg U6 U7 Vk U2 Vf aa0 aaY Vm Vn Vr Vt Vo Vi Vq U8 aa3 Vh Vl aa2 aa4 Vu:Array (Option Value)}
 {RJ QR OQ T2 C5 NW ZG Ze Xy aas LL Xm RB QK OD TL CY NP RX Q7 O5 Ue Dk Oc ZH Zf Xz aat LN Xn RK QS OT T3 C6 NX RH QQ OO T1 C4 NV Rz QI OB TJ CV NM ZJ Zh XB aav LQ Xp RF QO OJ TU C2 NT ZP Zo XH aaB LY Xv Rx QG Oz TF CT NI RA QJ OC TK CW NN RG QP OM TY C3 NU ZL Zj XD aax LU Xr RP QX OZ T8 Dd N6 RM QU OW T5 C8 NZ RC QL OG TN CZ NQ RD QM OH TQ C0 NR RQ QY O0 T9 Df N7 Ry QH OA TH CU NK RL QT OU T4 C7 NY ZK Zi XC aaw LR Xq ZI Zg XA aau LO Xo RU Q0 O2 Ub Dh N9 RV Q5 O3 Uc Di Oa RZ Q9 O7 Uh Dm Oe R8 Rb O8 Ui Dp Og RW Q6 O4 Ud Dj Ob RO QW OY T7 Dc N5 RY Q8 O6 Ug Dl Od RE QN OI TR C1 NS ZN Zm XF aaz LW Xt RN QV OX T6 C9 N0 RT QZ O1 Ua Dg N8 ZM Zk XE aay LV Xs ZO Zn XG aaA LX Xu R9 Fj DW FW xN Dr:Value}
  {yR:Tok}
  {yS:Tok}
  (g_Kept:nsIn K ac2 "Kept"=some (some (.ref a9))) (pg_Kept:plainGet K a9 Str.empty=true) (hd_Kept:hasDictIn K a9=true) (po_Kept:plainOver K a9=true) (sa_Kept:findIn K (.ref a9) "__setattr__"=some (some (.builtin "object.__setattr__")))
  (n1_Kept:findIn K (.ref a9) "way"=some none) (n2_Kept:findIn K (.ref a9) "count"=some none) (n3_Kept:findIn K (.ref a9) "points_by_name"=some none) (n4_Kept:findIn K (.ref a9) "ever_put"=some none)
  (mk_Kept:makesIn K a9=true) (kp_Kept:keepIn K (.ref a9)=true)
  (a_q21:nsIn K ac2 "need_count"=some (some (.ref vh)))
  (l_q21:K.lookup vh=some ⟨RJ,Sv,.func (fnOf "need_count" "need_count" (aI kj) (ak kj) (ag kj) .none QR OQ T2 Nb C5 NW),Vd⟩)
  (c_q21:codeIn K C5 "need_count"=true) (k_q21:keepIn K (.ref vh)=true)
  (a_q0:nsIn K ac2 "need_as_many_numbers"=some (some (.ref D8)))
  (l_q0:K.lookup D8=some ⟨ZG,ZQ,.func (fnOf "need_as_many_numbers" "need_as_many_numbers" (aI sR) (ak sR) (ag sR) .none Ze Xy aas W4 LL Xm),aaW⟩)
  (c_q0:codeIn K LL "need_as_many_numbers"=true) (k_q0:keepIn K (.ref D8)=true)
  (a_q14:nsIn K ac2 "need_points"=some (some (.ref uY)))
  (l_q14:K.lookup uY=some ⟨RB,Sh,.func (fnOf "need_points" "need_points" (aI j4) (ak j4) (ag j4) .none QK OD TL M3 CY NP),U5⟩)
  (c_q14:codeIn K CY "need_points"=true) (k_q14:keepIn K (.ref uY)=true)
  (a_q33:nsIn K ac2 "need_way"=some (some (.ref vv)))
  (l_q33:K.lookup vv=some ⟨RX,SK,.func (fnOf "need_way" "need_way" (aI kI) (ak kI) (ag kI) .none Q7 O5 Ue Nr Dk Oc),Vp⟩)
  (c_q33:codeIn K Dk "need_way"=true) (k_q33:keepIn K (.ref vv)=true)
  (a_q1:nsIn K ac2 "need_points_and_way"=some (some (.ref D9)))
  (l_q1:K.lookup D9=some ⟨ZH,ZR,.func (fnOf "need_points_and_way" "need_points_and_way" (aI sS) (ak sS) (ag sS) .none Zf Xz aat W5 LN Xn),aaX⟩)
  (c_q1:codeIn K LN "need_points_and_way"=true) (k_q1:keepIn K (.ref D9)=true)
  (a_q22:nsIn K ac2 "need_place"=some (some (.ref vk)))
  (l_q22:K.lookup vk=some ⟨RK,Sw,.func (fnOf "need_place" "need_place" (aI kn) (ak kn) (ag kn) .none QS OT T3 Nc C6 NX),Ve⟩)
  (c_q22:codeIn K C6 "need_place"=true) (k_q22:keepIn K (.ref vk)=true)
  (a_q20:nsIn K ac2 "need_bound"=some (some (.ref vg)))
  (l_q20:K.lookup vg=some ⟨RH,Ss,.func (fnOf "need_bound" "need_bound" (aI kh) (ak kh) (ag kh) .none QQ OO T1 M9 C4 NV),Vb⟩)
  (c_q20:codeIn K C4 "need_bound"=true) (k_q20:keepIn K (.ref vg)=true)
  (a_q12:nsIn K ac2 "far_between"=some (some (.ref uW)))
  (l_q12:K.lookup uW=some ⟨Rz,Sf,.func (fnOf "far_between" "far_between" (aI jZ) (ak jZ) (ag jZ) .none QI OB TJ MZ CV NM),U3⟩)
  (c_q12:codeIn K CV "far_between"=true) (k_q12:keepIn K (.ref uW)=true)
  (a_q3:nsIn K ac2 "pairs_by_places"=some (some (.ref Ea)))
  (l_q3:K.lookup Ea=some ⟨ZJ,ZT,.func (fnOf "pairs_by_places" "pairs_by_places" (aI sU) (ak sU) (ag sU) .none Zh XB aav W7 LQ Xp),aaZ⟩)
  (c_q3:codeIn K LQ "pairs_by_places"=true) (k_q3:keepIn K (.ref Ea)=true)
  (a_q18:nsIn K ac2 "near_pairs"=some (some (.ref vd)))
  (l_q18:K.lookup vd=some ⟨RF,Sn,.func (fnOf "near_pairs" "near_pairs" (aI j9) (ak j9) (ag j9) .none QO OJ TU M7 C2 NT),U9⟩)
  (c_q18:codeIn K C2 "near_pairs"=true) (k_q18:keepIn K (.ref vd)=true)
  (a_q9:nsIn K ac2 "nearest_among"=some (some (.ref Ee)))
  (l_q9:K.lookup Ee=some ⟨ZP,ZZ,.func (fnOf "nearest_among" "nearest_among" (aI tf) (ak tf) (ag tf) .none Zo XH aaB Xd LY Xv),aa5⟩)
  (c_q9:codeIn K LY "nearest_among"=true) (k_q9:keepIn K (.ref Ee)=true)
  (a_q10:nsIn K ac2 "nearest_other"=some (some (.ref uV)))
  (l_q10:K.lookup uV=some ⟨Rx,Sb,.func (fnOf "nearest_other" "nearest_other" (aI jX) (ak jX) (ag jX) .none QG Oz TF MX CT NI),U1⟩)
  (c_q10:codeIn K CT "nearest_other"=true) (k_q10:keepIn K (.ref uV)=true)
  (a_q13:nsIn K ac2 "nearest_two"=some (some (.ref uX)))
  (l_q13:K.lookup uX=some ⟨RA,Sg,.func (fnOf "nearest_two" "nearest_two" (aI j3) (ak j3) (ag j3) .none QJ OC TK M0 CW NN),U4⟩)
  (c_q13:codeIn K CW "nearest_two"=true) (k_q13:keepIn K (.ref uX)=true)
  (a_q19:nsIn K ac2 "nearest_of"=some (some (.ref vf)))
  (l_q19:K.lookup vf=some ⟨RG,Sr,.func (fnOf "nearest_of" "nearest_of" (aI kc) (ak kc) (ag kc) .none QP OM TY M8 C3 NU),Va⟩)
  (c_q19:codeIn K C3 "nearest_of"=true) (k_q19:keepIn K (.ref vf)=true)
  (a_q5:findIn K (.ref a9) "__init__"=some (some (.ref AW)))
  (l_q5:K.lookup AW=some ⟨ZL,ZV,.func (fnOf "__init__" "Kept.__init__" (aI sW) (ak sW) (ag sW) .none Zj XD aax W9 LU Xr),aa1⟩)
  (c_q5:codeIn K LU "Kept.__init__"=true) (k_q5:keepIn K (.ref AW)=true) (i_q5:isFn K (.ref AW)=true)
  (a_q27:findIn K (.ref a9) "put"=some (some (.ref qp)))
  (l_q27:K.lookup qp=some ⟨RP,SD,.func (fnOf "put" "Kept.put" (aI kA) (ak kA) (ag kA) .none QX OZ T8 Nj Dd N6),Vj⟩)
  (c_q27:codeIn K Dd "Kept.put"=true) (k_q27:keepIn K (.ref qp)=true) (i_q27:isFn K (.ref qp)=true)
  (a_q24:findIn K (.ref a9) "take"=some (some (.ref qo)))
  (l_q24:K.lookup qo=some ⟨RM,Sy,.func (fnOf "take" "Kept.take" (aI kq) (ak kq) (ag kq) .none QU OW T5 Ng C8 NZ),Vg⟩)
  (c_q24:codeIn K C8 "Kept.take"=true) (k_q24:keepIn K (.ref qo)=true) (i_q24:isFn K (.ref qo)=true)
  (a_q15:findIn K (.ref a9) "names"=some (some (.ref qk)))
  (l_q15:K.lookup qk=some ⟨RC,Si,.func (fnOf "names" "Kept.names" (aI j6) (ak j6) (ag j6) .none QL OG TN M4 CZ NQ),U6⟩)
  (c_q15:codeIn K CZ "Kept.names"=true) (k_q15:keepIn K (.ref qk)=true) (i_q15:isFn K (.ref qk)=true)
  (a_q16:findIn K (.ref a9) "point"=some (some (.ref ql)))
  (l_q16:K.lookup ql=some ⟨RD,Sj,.func (fnOf "point" "Kept.point" (aI j7) (ak j7) (ag j7) .none QM OH TQ M5 C0 NR),U7⟩)
  (c_q16:codeIn K C0 "Kept.point"=true) (k_q16:keepIn K (.ref ql)=true) (i_q16:isFn K (.ref ql)=true)
  (a_q28:findIn K (.ref a9) "two"=some (some (.ref qt)))
  (l_q28:K.lookup qt=some ⟨RQ,SE,.func (fnOf "two" "Kept.two" (aI kB) (ak kB) (ag kB) .none QY O0 T9 Nk Df N7),Vk⟩)
  (c_q28:codeIn K Df "Kept.two"=true) (k_q28:keepIn K (.ref qt)=true) (i_q28:isFn K (.ref qt)=true)
  (a_q11:findIn K (.ref a9) "nearest"=some (some (.ref qj)))
  (l_q11:K.lookup qj=some ⟨Ry,Se,.func (fnOf "nearest" "Kept.nearest" (aI jY) (ak jY) (ag jY) .none QH OA TH MY CU NK),U2⟩)
  (c_q11:codeIn K CU "Kept.nearest"=true) (k_q11:keepIn K (.ref qj)=true) (i_q11:isFn K (.ref qj)=true)
  (a_q23:findIn K (.ref a9) "near"=some (some (.ref qm)))
  (l_q23:K.lookup qm=some ⟨RL,Sx,.func (fnOf "near" "Kept.near" (aI ko) (ak ko) (ag ko) .none QT OU T4 Nf C7 NY),Vf⟩)
  (c_q23:codeIn K C7 "Kept.near"=true) (k_q23:keepIn K (.ref qm)=true) (i_q23:isFn K (.ref qm)=true)
  (a_q4:findIn K (.ref a9) "need_name"=some (some (.ref AU)))
  (l_q4:K.lookup AU=some ⟨ZK,ZU,.func (fnOf "need_name" "Kept.need_name" (aI sV) (ak sV) (ag sV) .none Zi XC aaw W8 LR Xq),aa0⟩)
  (c_q4:codeIn K LR "Kept.need_name"=true) (k_q4:keepIn K (.ref AU)=true) (i_q4:isFn K (.ref AU)=true)
  (a_q2:findIn K (.ref a9) "plain_points"=some (some (.ref AR)))
  (l_q2:K.lookup AR=some ⟨ZI,ZS,.func (fnOf "plain_points" "Kept.plain_points" (aI sT) (ak sT) (ag sT) .none Zg XA aau W6 LO Xo),aaY⟩)
  (c_q2:codeIn K LO "Kept.plain_points"=true) (k_q2:keepIn K (.ref AR)=true) (i_q2:isFn K (.ref AR)=true)
  (a_q30:nsIn K ac2 "_law_next"=some (some (.ref vp)))
  (l_q30:K.lookup vp=some ⟨RU,SG,.func (fnOf "_law_next" "_law_next" (aI kF) (ak kF) (ag kF) .none Q0 O2 Ub Nn Dh N9),Vm⟩)
  (c_q30:codeIn K Dh "_law_next"=true) (k_q30:keepIn K (.ref vp)=true)
  (a_q31:nsIn K ac2 "_law_pots"=some (some (.ref vq)))
  (l_q31:K.lookup vq=some ⟨RV,SH,.func (fnOf "_law_pots" "_law_pots" (aI kG) (ak kG) (ag kG) .none Q5 O3 Uc Np Di Oa),Vn⟩)
  (c_q31:codeIn K Di "_law_pots"=true) (k_q31:keepIn K (.ref vq)=true)
  (a_q35:nsIn K ac2 "_law_far"=some (some (.ref vx)))
  (l_q35:K.lookup vx=some ⟨RZ,SN,.func (fnOf "_law_far" "_law_far" (aI kK) (ak kK) (ag kK) .none Q9 O7 Uh Nu Dm Oe),Vr⟩)
  (c_q35:codeIn K Dm "_law_far"=true) (k_q35:keepIn K (.ref vx)=true)
  (a_q36:nsIn K ac2 "_law_way"=some (some (.ref vy)))
  (l_q36:K.lookup vy=some ⟨R8,SQ,.func (fnOf "_law_way" "_law_way" (aI kL) (ak kL) (ag kL) .none Rb O8 Ui Nv Dp Og),Vt⟩)
  (c_q36:codeIn K Dp "_law_way"=true) (k_q36:keepIn K (.ref vy)=true)
  (a_q32:nsIn K ac2 "_law_same"=some (some (.ref vt)))
  (l_q32:K.lookup vt=some ⟨RW,SJ,.func (fnOf "_law_same" "_law_same" (aI kH) (ak kH) (ag kH) .none Q6 O4 Ud Nq Dj Ob),Vo⟩)
  (c_q32:codeIn K Dj "_law_same"=true) (k_q32:keepIn K (.ref vt)=true)
  (a_q26:nsIn K ac2 "_law_point"=some (some (.ref vn)))
  (l_q26:K.lookup vn=some ⟨RO,SA,.func (fnOf "_law_point" "_law_point" (aI kz) (ak kz) (ag kz) .none QW OY T7 Ni Dc N5),Vi⟩)
  (c_q26:codeIn K Dc "_law_point"=true) (k_q26:keepIn K (.ref vn)=true)
  (a_q34:nsIn K ac2 "_law_due"=some (some (.ref vw)))
  (l_q34:K.lookup vw=some ⟨RY,SM,.func (fnOf "_law_due" "_law_due" (aI kJ) (ak kJ) (ag kJ) .none Q8 O6 Ug Nt Dl Od),Vq⟩)
  (c_q34:codeIn K Dl "_law_due"=true) (k_q34:keepIn K (.ref vw)=true)
  (a_q17:nsIn K ac2 "_law_answer"=some (some (.ref uZ)))
  (l_q17:K.lookup uZ=some ⟨RE,Sl,.func (fnOf "_law_answer" "_law_answer" (aI j8) (ak j8) (ag j8) .none QN OI TR M6 C1 NS),U8⟩)
  (c_q17:codeIn K C1 "_law_answer"=true) (k_q17:keepIn K (.ref uZ)=true)
  (a_q7:nsIn K ac2 "_law_one_right"=some (some (.ref Ec)))
  (l_q7:K.lookup Ec=some ⟨ZN,ZX,.func (fnOf "_law_one_right" "_law_one_right" (aI sY) (ak sY) (ag sY) .none Zm XF aaz Xb LW Xt),aa3⟩)
  (c_q7:codeIn K LW "_law_one_right"=true) (k_q7:keepIn K (.ref Ec)=true)
  (a_q25:nsIn K ac2 "_law_drawn"=some (some (.ref vm)))
  (l_q25:K.lookup vm=some ⟨RN,Sz,.func (fnOf "_law_drawn" "_law_drawn" (aI ky) (ak ky) (ag ky) .none QV OX T6 Nh C9 N0),Vh⟩)
  (c_q25:codeIn K C9 "_law_drawn"=true) (k_q25:keepIn K (.ref vm)=true)
  (a_q29:nsIn K ac2 "_law_done"=some (some (.ref vo)))
  (l_q29:K.lookup vo=some ⟨RT,SF,.func (fnOf "_law_done" "_law_done" (aI kE) (ak kE) (ag kE) .none QZ O1 Ua Nm Dg N8),Vl⟩)
  (c_q29:codeIn K Dg "_law_done"=true) (k_q29:keepIn K (.ref vo)=true)
  (a_q6:nsIn K ac2 "_law_all_right"=some (some (.ref Eb)))
  (l_q6:K.lookup Eb=some ⟨ZM,ZW,.func (fnOf "_law_all_right" "_law_all_right" (aI sX) (ak sX) (ag sX) .none Zk XE aay Xa LV Xs),aa2⟩)
  (c_q6:codeIn K LV "_law_all_right"=true) (k_q6:keepIn K (.ref Eb)=true)
  (a_q8:nsIn K ac2 "_law_run_right"=some (some (.ref Ed)))
  (l_q8:K.lookup Ed=some ⟨ZO,ZY,.func (fnOf "_law_run_right" "_law_run_right" (aI sZ) (ak sZ) (ag sZ) .none Zn XG aaA Xc LX Xu),aa4⟩)
  (c_q8:codeIn K LX "_law_run_right"=true) (k_q8:keepIn K (.ref Ed)=true)
  (a_q37:nsIn K ac2 "law"=some (some (.ref qu)))
  (l_q37:K.lookup qu=some ⟨R9,SR,.func (fnOf "law" "law" (aI gy) (ak gy) (ag gy) .none Fj DW FW CB xN Dr),Vu⟩)
  (c_q37:codeIn K xN "law"=true) (k_q37:keepIn K (.ref qu)=true)
  (z_abs:nsIn K ac2 "abs"=some none)
  (z_bool:nsIn K ac2 "bool"=some none)
  (z_int:nsIn K ac2 "int"=some none)
  (z_isinstance:nsIn K ac2 "isinstance"=some none)
  (z_len:nsIn K ac2 "len"=some none)
  (z_list:nsIn K ac2 "list"=some none)
  (z_max:nsIn K ac2 "max"=some none)
  (z_min:nsIn K ac2 "min"=some none)
  (z_range:nsIn K ac2 "range"=some none)
  (z_sorted:nsIn K ac2 "sorted"=some none)
  (z_sum:nsIn K ac2 "sum"=some none)
  (z_tuple:nsIn K ac2 "tuple"=some none)
  (z_zip:nsIn K ac2 "zip"=some none)
  (u_SQUARES:nsIn K ac2 "SQUARES"=some (some (.str "squares" yR)))
  (u_STREETS:nsIn K ac2 "STREETS"=some (some (.str "streets" yS))):
  ∃fd:adf,(∀(s:Shared) (v:Value),BindsTo s fd ⟨[v],[]⟩ [("script",v)])/\∀base:Heap,K.In base->base.Ns ac2 mg->cf l.prog w K mg base ig 10 fa fd ["script"] (Ao K):=by
 have e:=hfa.symm.trans (mg_of X Gs a_q37);cases e;refine⟨fnOf "law" "law" (aI gy) (ak gy) (ag gy) .none Fj DW FW CB xN Dr,λs v=>.of_eq rfl,λbase _ _=>?_⟩
 letI:KF:=⟨K,λx=>if x="Kept" then a9 else 0,[]⟩
 have dE:KF.cls "Kept"=a9:=if_pos rfl;have kg:KG ⟨l.prog,w,K,mg,base⟩:=⟨by rw[show kC=a9 from dE];exact⟨pg_Kept,hd_Kept,po_Kept,sa_Kept⟩,λf hf=>by
  rw[show kC=a9 from dE]
  simp only[acV,ac8,or_false]at hf;rcases hf with rfl|rfl|rfl|rfl
  ·exact n1_Kept
  ·exact n2_Kept
  ·exact n3_Kept
  ·exact n4_Kept⟩
 have E:Gl ⟨l.prog,w,K,mg,base⟩:=⟨kg,mg_none_of X Gs z_abs,mg_none_of X Gs z_bool,mg_none_of X Gs z_int,mg_none_of X Gs z_isinstance,mg_none_of X Gs z_len,mg_none_of X Gs z_list,mg_none_of X Gs z_max,mg_none_of X Gs z_min,mg_none_of X Gs z_range,mg_none_of X Gs z_sorted,mg_none_of X Gs z_sum,mg_none_of X Gs z_tuple,mg_none_of X Gs z_zip,⟨_,.str "squares",mg_of X Gs u_SQUARES,⟨_,rfl⟩,λF=>.str _⟩,⟨_,.str "streets",mg_of X Gs u_STREETS,⟨_,rfl⟩,λF=>.str _⟩⟩;have Lh:=aV (K:=K) (st:=kj) l_q21 c_q21 k_q21;have DE:cV ⟨l.prog,w,K,mg,base⟩ "need_count" kj ["count"] _ _:=⟨Lh,mg_of X Gs a_q21,Lh.binds λ_ _ _ _ _ _ us hl=>Ft (λ_=>rfl) us hl⟩;have WG:=aV (K:=K) (st:=sR) l_q0 c_q0 k_q0;have Oi:cV ⟨l.prog,w,K,mg,base⟩ "need_as_many_numbers" sR ["point","count"] _ _:=⟨WG,mg_of X Gs a_q0,WG.binds λ_ _ _ _ _ _ us hl=>ln2 (λ_ _=>rfl) us hl⟩;have K9:=aV (K:=K) (st:=j4) l_q14 c_q14 k_q14;have Dw:cV ⟨l.prog,w,K,mg,base⟩ "need_points" j4 ["points"] _ _:=⟨K9,mg_of X Gs a_q14,K9.binds λ_ _ _ _ _ _ us hl=>Ft (λ_=>rfl) us hl⟩;have Ly:=aV (K:=K) (st:=kI) l_q33 c_q33 k_q33;have DQ:cV ⟨l.prog,w,K,mg,base⟩ "need_way" kI ["way"] _ _:=⟨Ly,mg_of X Gs a_q33,Ly.binds λ_ _ _ _ _ _ us hl=>Ft (λ_=>rfl) us hl⟩;have WH:=aV (K:=K) (st:=sS) l_q1 c_q1 k_q1;have Oj:cV ⟨l.prog,w,K,mg,base⟩ "need_points_and_way" sS ["points","way"] _ _:=⟨WH,mg_of X Gs a_q1,WH.binds λ_ _ _ _ _ _ us hl=>ln2 (λ_ _=>rfl) us hl⟩;have Li:=aV (K:=K) (st:=kn) l_q22 c_q22 k_q22;have DF:cV ⟨l.prog,w,K,mg,base⟩ "need_place" kn ["points","place"] _ _:=⟨Li,mg_of X Gs a_q22,Li.binds λ_ _ _ _ _ _ us hl=>ln2 (λ_ _=>rfl) us hl⟩;have Lg:=aV (K:=K) (st:=kh) l_q20 c_q20 k_q20;have DC:cV ⟨l.prog,w,K,mg,base⟩ "need_bound" kh ["bound"] _ _:=⟨Lg,mg_of X Gs a_q20,Lg.binds λ_ _ _ _ _ _ us hl=>Ft (λ_=>rfl) us hl⟩;have K7:=aV (K:=K) (st:=jZ) l_q12 c_q12 k_q12;have Du:cV ⟨l.prog,w,K,mg,base⟩ "far_between" jZ ["way","point","other"] _ _:=⟨K7,mg_of X Gs a_q12,K7.binds λ_ _ _ _ _ _ us hl=>Jv (λ_ _ _=>rfl) us hl⟩;have WL:=aV (K:=K) (st:=sU) l_q3 c_q3 k_q3;have Om:cV ⟨l.prog,w,K,mg,base⟩ "pairs_by_places" sU ["points","way"] _ _:=⟨WL,mg_of X Gs a_q3,WL.binds λ_ _ _ _ _ _ us hl=>ln2 (λ_ _=>rfl) us hl⟩;have Ld:=aV (K:=K) (st:=j9) l_q18 c_q18 k_q18;have DA:cV ⟨l.prog,w,K,mg,base⟩ "near_pairs" j9 ["points","way","bound"] _ _:=⟨Ld,mg_of X Gs a_q18,Ld.binds λ_ _ _ _ _ _ us hl=>Jv (λ_ _ _=>rfl) us hl⟩;have WT:=aV (K:=K) (st:=tf) l_q9 c_q9 k_q9;have Ow:cV ⟨l.prog,w,K,mg,base⟩ "nearest_among" tf ["points","way","point","places"] _ _:=⟨WT,mg_of X Gs a_q9,WT.binds λ_ _ _ _ _ _ us hl=>ln4 (λ_ _ _ _=>rfl) us hl⟩
 have K5:=aV (K:=K) (st:=jX) l_q10 c_q10 k_q10;have Ds:cV ⟨l.prog,w,K,mg,base⟩ "nearest_other" jX ["points","way","place"] _ _:=⟨K5,mg_of X Gs a_q10,K5.binds λ_ _ _ _ _ _ us hl=>Jv (λ_ _ _=>rfl) us hl⟩;have K8:=aV (K:=K) (st:=j3) l_q13 c_q13 k_q13;have Dv:cV ⟨l.prog,w,K,mg,base⟩ "nearest_two" j3 ["points","way"] _ _:=⟨K8,mg_of X Gs a_q13,K8.binds λ_ _ _ _ _ _ us hl=>ln2 (λ_ _=>rfl) us hl⟩;have Lf:=aV (K:=K) (st:=kc) l_q19 c_q19 k_q19;have DB:cV ⟨l.prog,w,K,mg,base⟩ "nearest_of" kc ["points","way","place"] _ _:=⟨Lf,mg_of X Gs a_q19,Lf.binds λ_ _ _ _ _ _ us hl=>Jv (λ_ _ _=>rfl) us hl⟩;have WN:=aV (K:=K) (st:=sW) l_q5 c_q5 k_q5;have Oq:InD ⟨l.prog,w,K,mg,base⟩ "__init__" "Kept.__init__" sW ["self","way","count"] _ _:=⟨WN,by rw[show kC=a9 from dE];exact⟨mk_Kept,a_q5,i_q5,kp_Kept⟩,WN.binds λ_ _ _ _ _ _ us hl=>Jv (λ_ _ _=>rfl) us hl,by rw[show kC=a9 from dE];exact mg_of X Gs g_Kept⟩
 have Lq:=aV (K:=K) (st:=kA) l_q27 c_q27 k_q27;have DK:pA ⟨l.prog,w,K,mg,base⟩ "put" "Kept.put" kA ["self","point"] _ _:=⟨Lq,by rw[show kC=a9 from dE];exact⟨a_q27,i_q27,k_q27⟩,Lq.binds λ_ _ _ _ _ _ us hl=>ln2 (λ_ _=>rfl) us hl⟩
 have Lk:=aV (K:=K) (st:=kq) l_q24 c_q24 k_q24;have DH:pA ⟨l.prog,w,K,mg,base⟩ "take" "Kept.take" kq ["self","name"] _ _:=⟨Lk,by rw[show kC=a9 from dE];exact⟨a_q24,i_q24,k_q24⟩,Lk.binds λ_ _ _ _ _ _ us hl=>ln2 (λ_ _=>rfl) us hl⟩
 have La:=aV (K:=K) (st:=j6) l_q15 c_q15 k_q15;have Dx:pA ⟨l.prog,w,K,mg,base⟩ "names" "Kept.names" j6 ["self"] _ _:=⟨La,by rw[show kC=a9 from dE];exact⟨a_q15,i_q15,k_q15⟩,La.binds λ_ _ _ _ _ _ us hl=>Ft (λ_=>rfl) us hl⟩
 have Lb:=aV (K:=K) (st:=j7) l_q16 c_q16 k_q16;have Dy:pA ⟨l.prog,w,K,mg,base⟩ "point" "Kept.point" j7 ["self","name"] _ _:=⟨Lb,by rw[show kC=a9 from dE];exact⟨a_q16,i_q16,k_q16⟩,Lb.binds λ_ _ _ _ _ _ us hl=>ln2 (λ_ _=>rfl) us hl⟩
 have Lr:=aV (K:=K) (st:=kB) l_q28 c_q28 k_q28;have DL:pA ⟨l.prog,w,K,mg,base⟩ "two" "Kept.two" kB ["self"] _ _:=⟨Lr,by rw[show kC=a9 from dE];exact⟨a_q28,i_q28,k_q28⟩,Lr.binds λ_ _ _ _ _ _ us hl=>Ft (λ_=>rfl) us hl⟩
 have K6:=aV (K:=K) (st:=jY) l_q11 c_q11 k_q11;have Dt:pA ⟨l.prog,w,K,mg,base⟩ "nearest" "Kept.nearest" jY ["self","name"] _ _:=⟨K6,by rw[show kC=a9 from dE];exact⟨a_q11,i_q11,k_q11⟩,K6.binds λ_ _ _ _ _ _ us hl=>ln2 (λ_ _=>rfl) us hl⟩
 have Lj:=aV (K:=K) (st:=ko) l_q23 c_q23 k_q23;have DG:pA ⟨l.prog,w,K,mg,base⟩ "near" "Kept.near" ko ["self","bound"] _ _:=⟨Lj,by rw[show kC=a9 from dE];exact⟨a_q23,i_q23,k_q23⟩,Lj.binds λ_ _ _ _ _ _ us hl=>ln2 (λ_ _=>rfl) us hl⟩
 have WM:=aV (K:=K) (st:=sV) l_q4 c_q4 k_q4;have Oo:pA ⟨l.prog,w,K,mg,base⟩ "need_name" "Kept.need_name" sV ["self","name"] _ _:=⟨WM,by rw[show kC=a9 from dE];exact⟨a_q4,i_q4,k_q4⟩,WM.binds λ_ _ _ _ _ _ us hl=>ln2 (λ_ _=>rfl) us hl⟩
 have WK:=aV (K:=K) (st:=sT) l_q2 c_q2 k_q2;have Ol:pA ⟨l.prog,w,K,mg,base⟩ "plain_points" "Kept.plain_points" sT ["self"] _ _:=⟨WK,by rw[show kC=a9 from dE];exact⟨a_q2,i_q2,k_q2⟩,WK.binds λ_ _ _ _ _ _ us hl=>Ft (λ_=>rfl) us hl⟩
 have Lv:=aV (K:=K) (st:=kF) l_q30 c_q30 k_q30;have DN:cV ⟨l.prog,w,K,mg,base⟩ "_law_next" kF ["pot","many"] _ _:=⟨Lv,mg_of X Gs a_q30,Lv.binds λ_ _ _ _ _ _ us hl=>ln2 (λ_ _=>rfl) us hl⟩;have Lw:=aV (K:=K) (st:=kG) l_q31 c_q31 k_q31;have DP:cV ⟨l.prog,w,K,mg,base⟩ "_law_pots" kG ["script"] _ _:=⟨Lw,mg_of X Gs a_q31,Lw.binds λ_ _ _ _ _ _ us hl=>Ft (λ_=>rfl) us hl⟩;have LA:=aV (K:=K) (st:=kK) l_q35 c_q35 k_q35;have DS:cV ⟨l.prog,w,K,mg,base⟩ "_law_far" kK ["way","one","other"] _ _:=⟨LA,mg_of X Gs a_q35,LA.binds λ_ _ _ _ _ _ us hl=>Jv (λ_ _ _=>rfl) us hl⟩;have LC:=aV (K:=K) (st:=kL) l_q36 c_q36 k_q36;have DT:cV ⟨l.prog,w,K,mg,base⟩ "_law_way" kL ["pot"] _ _:=⟨LC,mg_of X Gs a_q36,LC.binds λ_ _ _ _ _ _ us hl=>Ft (λ_=>rfl) us hl⟩;have Lx:=aV (K:=K) (st:=kH) l_q32 c_q32 k_q32;have qf:cV ⟨l.prog,w,K,mg,base⟩ "_law_same" kH ["found","due"] _ _:=⟨Lx,mg_of X Gs a_q32,Lx.binds λ_ _ _ _ _ _ us hl=>ln2 (λ_ _=>rfl) us hl⟩;have Lp:=aV (K:=K) (st:=kz) l_q26 c_q26 k_q26;have DJ:cV ⟨l.prog,w,K,mg,base⟩ "_law_point" kz ["pot","count","own"] _ _:=⟨Lp,mg_of X Gs a_q26,Lp.binds λ_ _ _ _ _ _ us hl=>Jv (λ_ _ _=>rfl) us hl⟩;have Lz:=aV (K:=K) (st:=kJ) l_q34 c_q34 k_q34;have DR:cV ⟨l.prog,w,K,mg,base⟩ "_law_due" kJ ["own","way","which","name","bound"] _ _:=⟨Lz,mg_of X Gs a_q34,Lz.binds λ_ _ _ _ _ _ us hl=>ln5 (λ_ _ _ _ _=>rfl) us hl⟩;have Lc:=aV (K:=K) (st:=j8) l_q17 c_q17 k_q17;have Dz:cV ⟨l.prog,w,K,mg,base⟩ "_law_answer" j8 ["kept","which","name","bound"] _ _:=⟨Lc,mg_of X Gs a_q17,Lc.binds λ_ _ _ _ _ _ us hl=>ln4 (λ_ _ _ _=>rfl) us hl⟩;have WQ:=aV (K:=K) (st:=sY) l_q7 c_q7 k_q7;have Ou:cV ⟨l.prog,w,K,mg,base⟩ "_law_one_right" sY ["kept","own","way","which","name","bound"] _ _:=⟨WQ,mg_of X Gs a_q7,WQ.binds λ_ _ _ _ _ _ us hl=>ln6 (λ_ _ _ _ _ _=>rfl) us hl⟩;have Ln:=aV (K:=K) (st:=ky) l_q25 c_q25 k_q25;have DI:cV ⟨l.prog,w,K,mg,base⟩ "_law_drawn" ky ["pot","own"] _ _:=⟨Ln,mg_of X Gs a_q25,Ln.binds λ_ _ _ _ _ _ us hl=>ln2 (λ_ _=>rfl) us hl⟩;have Ls:=aV (K:=K) (st:=kE) l_q29 c_q29 k_q29;have DM:cV ⟨l.prog,w,K,mg,base⟩ "_law_done" kE ["pot","kept","own","count","coming"] _ _:=⟨Ls,mg_of X Gs a_q29,Ls.binds λ_ _ _ _ _ _ us hl=>ln5 (λ_ _ _ _ _=>rfl) us hl⟩;have WO:=aV (K:=K) (st:=sX) l_q6 c_q6 k_q6;have Ot:cV ⟨l.prog,w,K,mg,base⟩ "_law_all_right" sX ["pot","kept","own","way"] _ _:=⟨WO,mg_of X Gs a_q6,WO.binds λ_ _ _ _ _ _ us hl=>ln4 (λ_ _ _ _=>rfl) us hl⟩;have WR:=aV (K:=K) (st:=sZ) l_q8 c_q8 k_q8;have Ov:cV ⟨l.prog,w,K,mg,base⟩ "_law_run_right" sZ ["pot","way","count"] _ _:=⟨WR,mg_of X Gs a_q8,WR.binds λ_ _ _ _ _ _ us hl=>Jv (λ_ _ _=>rfl) us hl⟩
 have LD:=aV (K:=K) (st:=gy) l_q37 c_q37 k_q37;have DU:cV ⟨l.prog,w,K,mg,base⟩ "law" gy ["script"] _ _:=⟨LD,mg_of X Gs a_q37,LD.binds λ_ _ _ _ _ _ us hl=>Ft (λ_=>rfl) us hl⟩;exact SU rfl rfl E DE Oi Dw DQ Oj DF DC Du Om DA Ow Ds Dv DB Oq DK DH Dx Dy DL Dt DG Oo Ol DN DP DS DT qf DJ DR Dz Ou DI DM Ot Ov DU
theorem walk{l:PySem.W.OpenLaw}{q:adv}{loose:List Str}{XP:(Str->Option Value)->Heap->Prop}{YP:World->Heap->Prop}{d:DefRec}{K:Params->acT}(hn:l.most=some 63)(YH:d.params.defaults=[])
  (hY:∀(w:World) (h:Heap),YP w h->(K w.params).In h)
  (F:∀(w:World) (mg:Str->Option Value) (fa:Addr) (h:Heap),(K w.params).In h->h.Ns ac2 mg->mg d.name=some (.ref fa) ->
   ∃fd:adf,(∀(s:Shared) (u:Value),BindsTo s fd ⟨[u],[]⟩ [("script",u)])/\∀base:Heap,(K w.params).In base->base.Ns ac2 mg->cf l.prog w (K w.params) mg base ig 10 fa fd ["script"] (Ao (K w.params))):
  PySem.W.WalkO q loose XP YP l.row.toRowW d [] (λf vs=>PySem.call f vs):=
 L2.KO (n:=63) (k:=10) (x:="script") (CX:=λ_=>ig) (sp:=λw=>Ao (K w.params)) hn ∅ YH ⟨rfl,by decide,by decide⟩ hY F (λ_ _ a ns hl _ hS=>⟨a,ns,rfl,hS,hl,λ_=>rfl⟩) λ_ _ _ _ _ z=>z
end K31
namespace PySem.W.Fast
theorem tw10008777633641727019:True:=⟨⟩
theorem tw10148001155971321239:True:=⟨⟩
theorem tw10164342661587069296:True:=⟨⟩
theorem tw10349641412679719354:True:=⟨⟩
theorem tw10398592077446962648:True:=⟨⟩
theorem tw10425586352739660380:True:=⟨⟩
theorem tw10506038912813061325:True:=⟨⟩
theorem tw10517921050011963718:True:=⟨⟩
theorem tw1054500412539353299:True:=⟨⟩
theorem tw10835042890015664150:True:=⟨⟩
theorem tw10887750000394816382:True:=⟨⟩
theorem tw11126392263988682161:True:=⟨⟩
theorem tw1121071658377333048:True:=⟨⟩
theorem tw11233269777318753308:True:=⟨⟩
theorem tw11271277908296217988:True:=⟨⟩
theorem tw11363093561956800425:True:=⟨⟩
theorem tw11456919915657675957:True:=⟨⟩
theorem tw11658206833620638581:True:=⟨⟩
theorem tw11670097807509280032:True:=⟨⟩
theorem tw11679533101969116700:True:=⟨⟩
theorem tw11733164176941329530:True:=⟨⟩
theorem tw11989395779120515006:True:=⟨⟩
theorem tw12100408922817936924:True:=⟨⟩
theorem tw12168742439741211394:True:=⟨⟩
theorem tw12181587412420685763:True:=⟨⟩
theorem tw12210998788326544803:True:=⟨⟩
theorem tw1239740958495876362:True:=⟨⟩
theorem tw12486527235035788875:True:=⟨⟩
theorem tw12501172130879614191:True:=⟨⟩
theorem tw12641719670045453428:True:=⟨⟩
theorem tw12653061099783225381:True:=⟨⟩
theorem tw12683617077659227507:True:=⟨⟩
theorem tw12709028308812051457:True:=⟨⟩
theorem tw12803957531568995327:True:=⟨⟩
theorem tw13212361980169999935:True:=⟨⟩
theorem tw13226737049297531827:True:=⟨⟩
theorem tw13395076851277302761:True:=⟨⟩
theorem tw13404836031233904684:True:=⟨⟩
theorem tw13472037603113379225:True:=⟨⟩
theorem tw13583954681051625668:True:=⟨⟩
theorem tw13592698398196811615:True:=⟨⟩
theorem tw13632827560263179956:True:=⟨⟩
theorem tw13708960468519165741:True:=⟨⟩
theorem tw13900709338152612530:True:=⟨⟩
theorem tw1390209751426210620:True:=⟨⟩
theorem tw13939074348638008873:True:=⟨⟩
theorem tw14027784050497096229:True:=⟨⟩
theorem tw14058187548125562194:True:=⟨⟩
theorem tw14097880149835836883:True:=⟨⟩
theorem tw14318303454535200852:True:=⟨⟩
theorem tw14345283186121954751:True:=⟨⟩
theorem tw14374551695149551504:True:=⟨⟩
theorem tw14501711955408834997:True:=⟨⟩
theorem tw14528926235519929364:True:=⟨⟩
theorem tw1456624685415189770:True:=⟨⟩
theorem tw1461541474652940215:True:=⟨⟩
theorem tw14731109011676782832:True:=⟨⟩
theorem tw14755949432716979106:True:=⟨⟩
theorem tw1484410160064968209:True:=⟨⟩
theorem tw14863785090331294021:True:=⟨⟩
theorem tw14863969239438729662:True:=⟨⟩
theorem tw14883064399881796162:True:=⟨⟩
theorem tw15063523273920161337:True:=⟨⟩
theorem tw15132265909704995992:True:=⟨⟩
theorem tw1524430675047359152:True:=⟨⟩
theorem tw15417320417169231327:True:=⟨⟩
theorem tw15566657617037096536:True:=⟨⟩
theorem tw15595858520835882076:True:=⟨⟩
theorem tw1567687656603290713:True:=⟨⟩
theorem tw15819078252883626743:True:=⟨⟩
theorem tw15908480312263870380:True:=⟨⟩
theorem tw15949492084456003485:True:=⟨⟩
theorem tw15967131231721256515:True:=⟨⟩
theorem tw15998304197657869739:True:=⟨⟩
theorem tw16005866297380711938:True:=⟨⟩
theorem tw16136056071589680531:True:=⟨⟩
theorem tw16136126175336555269:True:=⟨⟩
theorem tw16265611167747368192:True:=⟨⟩
theorem tw16282642747513293545:True:=⟨⟩
theorem tw16296117780257317742:True:=⟨⟩
theorem tw16318433353869573117:True:=⟨⟩
theorem tw16370710507603872480:True:=⟨⟩
theorem tw16395083031538789303:True:=⟨⟩
theorem tw1644344095364184751:True:=⟨⟩
theorem tw16697407691089569879:True:=⟨⟩
theorem tw16748005500026963015:True:=⟨⟩
theorem tw16819177660465580187:True:=⟨⟩
theorem tw16860356048348544892:True:=⟨⟩
theorem tw16978663426000217632:True:=⟨⟩
theorem tw17074003567246369878:True:=⟨⟩
theorem tw1711107881857477235:True:=⟨⟩
theorem tw17126569797253764909:True:=⟨⟩
theorem tw17171249274461799629:True:=⟨⟩
theorem tw17231736079337484407:True:=⟨⟩
theorem tw17295769957823052180:True:=⟨⟩
theorem tw17446552863035513048:True:=⟨⟩
theorem tw1752416460215529634:True:=⟨⟩
theorem tw17597682758855932949:True:=⟨⟩
theorem tw17628927071497167700:True:=⟨⟩
theorem tw17645151189163086254:True:=⟨⟩
theorem tw17652408157871266111:True:=⟨⟩
theorem tw17656299656372916201:True:=⟨⟩
theorem tw17734815465159491866:True:=⟨⟩
theorem tw17751455099284293395:True:=⟨⟩
theorem tw17778014694846810717:True:=⟨⟩
theorem tw17780344423684990208:True:=⟨⟩
theorem tw17805969850582126991:True:=⟨⟩
theorem tw17811429131495262466:True:=⟨⟩
theorem tw17828133105998354046:True:=⟨⟩
theorem tw17837297941452795293:True:=⟨⟩
theorem tw17974650516995815411:True:=⟨⟩
theorem tw18124145593804966485:True:=⟨⟩
theorem tw18191902618366857215:True:=⟨⟩
theorem tw18223065307687362842:True:=⟨⟩
theorem tw1895955276971969258:True:=⟨⟩
theorem tw1916571824819131811:True:=⟨⟩
theorem tw2006089982171966956:True:=⟨⟩
theorem tw2265837640057397446:True:=⟨⟩
theorem tw233297280017094133:True:=⟨⟩
theorem tw2414223306285732616:True:=⟨⟩
theorem tw251905516992365723:True:=⟨⟩
theorem tw2860155137221298241:True:=⟨⟩
theorem tw2868963573312576074:True:=⟨⟩
theorem tw2881438661651897948:True:=⟨⟩
theorem tw2956077266377976664:True:=⟨⟩
theorem tw2961133700475921694:True:=⟨⟩
theorem tw299924027474427645:True:=⟨⟩
theorem tw3279486208534605465:True:=⟨⟩
theorem tw3323315242988107948:True:=⟨⟩
theorem tw3488140538893949742:True:=⟨⟩
theorem tw3501173544348892589:True:=⟨⟩
theorem tw3537001414775424198:True:=⟨⟩
theorem tw3580975419464331747:True:=⟨⟩
theorem tw3709724136943941607:True:=⟨⟩
theorem tw3878208852435137382:True:=⟨⟩
theorem tw4058708425786968065:True:=⟨⟩
theorem tw4080888061176753115:True:=⟨⟩
theorem tw4152666436567954138:True:=⟨⟩
theorem tw4218291586818129060:True:=⟨⟩
theorem tw4229934132277198750:True:=⟨⟩
theorem tw4309875377204585393:True:=⟨⟩
theorem tw4414078046075815033:True:=⟨⟩
theorem tw4463750072888343080:True:=⟨⟩
theorem tw4476957253074193865:True:=⟨⟩
theorem tw4575987731351780851:True:=⟨⟩
theorem tw4613493407685616982:True:=⟨⟩
theorem tw4624042307327181602:True:=⟨⟩
theorem tw463659469020394215:True:=⟨⟩
theorem tw4791600356243668858:True:=⟨⟩
theorem tw4966416306121476243:True:=⟨⟩
theorem tw4994742915482288509:True:=⟨⟩
theorem tw5104104975116007187:True:=⟨⟩
theorem tw5147719618897472317:True:=⟨⟩
theorem tw5343433180428496270:True:=⟨⟩
theorem tw5443824734254945098:True:=⟨⟩
theorem tw5476217656254823173:True:=⟨⟩
theorem tw5793570557139564417:True:=⟨⟩
theorem tw5798896366571593580:True:=⟨⟩
theorem tw6060900730524504085:True:=⟨⟩
theorem tw6145191097567168008:True:=⟨⟩
theorem tw615918605237359089:True:=⟨⟩
theorem tw6302586914880471363:True:=⟨⟩
theorem tw6352389761223869389:True:=⟨⟩
theorem tw6373732386187828489:True:=⟨⟩
theorem tw6458118630322796408:True:=⟨⟩
theorem tw6535224623239816625:True:=⟨⟩
theorem tw6551034037953051693:True:=⟨⟩
theorem tw6727711669434119811:True:=⟨⟩
theorem tw7051114801670096414:True:=⟨⟩
theorem tw7099126926215561724:True:=⟨⟩
theorem tw7153905665486528492:True:=⟨⟩
theorem tw7293654691528459507:True:=⟨⟩
theorem tw7313326829449824137:True:=⟨⟩
theorem tw7336227065198284604:True:=⟨⟩
theorem tw7384395998780036979:True:=⟨⟩
theorem tw7487721100373324525:True:=⟨⟩
theorem tw7570800085618557053:True:=⟨⟩
theorem tw7595068723741672540:True:=⟨⟩
theorem tw7640646278046454490:True:=⟨⟩
theorem tw7666250985586215568:True:=⟨⟩
theorem tw7678196390436171477:True:=⟨⟩
theorem tw7706173086278086461:True:=⟨⟩
theorem tw7817004853926719064:True:=⟨⟩
theorem tw7920910177232943288:True:=⟨⟩
theorem tw8004298510033749227:True:=⟨⟩
theorem tw8064913546254900065:True:=⟨⟩
theorem tw8187974360805872462:True:=⟨⟩
theorem tw8288576707695173264:True:=⟨⟩
theorem tw8321259663480478654:True:=⟨⟩
theorem tw838583479764731002:True:=⟨⟩
theorem tw8422846455685020748:True:=⟨⟩
theorem tw8505467252230667564:True:=⟨⟩
theorem tw8645190949389290714:True:=⟨⟩
theorem tw8807598221049879041:True:=⟨⟩
theorem tw8822613410538306186:True:=⟨⟩
theorem tw9093916359920632711:True:=⟨⟩
theorem tw9111559624669455686:True:=⟨⟩
theorem tw9271819880001964329:True:=⟨⟩
theorem tw9293791626421022289:True:=⟨⟩
theorem tw941381695648738828:True:=⟨⟩
theorem tw9620633365654933319:True:=⟨⟩
theorem tw9657258472777291971:True:=⟨⟩
theorem tw9729994274093006887:True:=⟨⟩
theorem tw9762957756932666233:True:=⟨⟩
theorem tw9853981073995570973:True:=⟨⟩
theorem tw9989637647552329488:True:=⟨⟩
end PySem.W.Fast
open PySem PySem.W PyProof.Rows
set_option maxRecDepth 100000 in
set_option maxHeartbeats 0 in
theorem PySem.Challenge.cw_closepoints_k31_kept_doing_by_doing_holds : PySem.Challenge.rw_closepoints_k31_kept_doing_by_doing.Holds := by
 w_on;o_law;z_head;(case hw=>w_witness2)
 k_fill
 refine Vc.V1 (λ_=>by kernel_rfl) (K31.walk (l:=PySem.Challenge.rw_closepoints_k31_kept_doing_by_doing) rfl rfl (λw h Y=>Y) ?F)
 case F =>
  intro w mg fa h KX G hmg;refine' K31.all_mk KX G hmg ?g_Kept ?pg_Kept ?hd_Kept ?po_Kept ?sa_Kept ?n1_Kept ?n2_Kept ?n3_Kept ?n4_Kept ?mk_Kept ?kp_Kept ?a_q21 ?l_q21 ?c_q21 ?k_q21 ?a_q0 ?l_q0 ?c_q0 ?k_q0 ?a_q14 ?l_q14 ?c_q14 ?k_q14 ?a_q33 ?l_q33 ?c_q33 ?k_q33 ?a_q1 ?l_q1 ?c_q1 ?k_q1 ?a_q22 ?l_q22 ?c_q22 ?k_q22 ?a_q20 ?l_q20 ?c_q20 ?k_q20 ?a_q12 ?l_q12 ?c_q12 ?k_q12 ?a_q3 ?l_q3 ?c_q3 ?k_q3 ?a_q18 ?l_q18 ?c_q18 ?k_q18 ?a_q9 ?l_q9 ?c_q9 ?k_q9 ?a_q10 ?l_q10 ?c_q10 ?k_q10 ?a_q13 ?l_q13 ?c_q13 ?k_q13 ?a_q19 ?l_q19 ?c_q19 ?k_q19 ?a_q5 ?l_q5 ?c_q5 ?k_q5 ?i_q5 ?a_q27 ?l_q27 ?c_q27 ?k_q27 ?i_q27 ?a_q24 ?l_q24 ?c_q24 ?k_q24 ?i_q24 ?a_q15 ?l_q15 ?c_q15 ?k_q15 ?i_q15 ?a_q16 ?l_q16 ?c_q16 ?k_q16 ?i_q16 ?a_q28 ?l_q28 ?c_q28 ?k_q28 ?i_q28 ?a_q11 ?l_q11 ?c_q11 ?k_q11 ?i_q11 ?a_q23 ?l_q23 ?c_q23 ?k_q23 ?i_q23 ?a_q4 ?l_q4 ?c_q4 ?k_q4 ?i_q4 ?a_q2 ?l_q2 ?c_q2 ?k_q2 ?i_q2 ?a_q30 ?l_q30 ?c_q30 ?k_q30 ?a_q31 ?l_q31 ?c_q31 ?k_q31 ?a_q35 ?l_q35 ?c_q35 ?k_q35 ?a_q36 ?l_q36 ?c_q36 ?k_q36 ?a_q32 ?l_q32 ?c_q32 ?k_q32 ?a_q26 ?l_q26 ?c_q26 ?k_q26 ?a_q34 ?l_q34 ?c_q34 ?k_q34 ?a_q17 ?l_q17 ?c_q17 ?k_q17 ?a_q7 ?l_q7 ?c_q7 ?k_q7 ?a_q25 ?l_q25 ?c_q25 ?k_q25 ?a_q29 ?l_q29 ?c_q29 ?k_q29 ?a_q6 ?l_q6 ?c_q6 ?k_q6 ?a_q8 ?l_q8 ?c_q8 ?k_q8 ?a_q37 ?l_q37 ?c_q37 ?k_q37 ?z_abs ?z_bool ?z_int ?z_isinstance ?z_len ?z_list ?z_max ?z_min ?z_range ?z_sorted ?z_sum ?z_tuple ?z_zip ?u_SQUARES ?u_STREETS
  (case g_Kept=>ac_rfl)
  (case pg_Kept=>ac_rfl)
  (case hd_Kept=>ac_rfl)
  (case po_Kept=>ac_rfl)
  (case sa_Kept=>ac_rfl)
  (case n1_Kept=>ac_rfl)
  (case n2_Kept=>ac_rfl)
  (case n3_Kept=>ac_rfl)
  (case n4_Kept=>ac_rfl)
  (case mk_Kept=>ac_rfl)
  (case kp_Kept=>ac_rfl)
  (case a_q21=>ac_rfl)
  (case l_q21=>ac_rfl)
  (case c_q21=>ac_rfl)
  (case k_q21=>ac_rfl)
  (case a_q0=>ac_rfl)
  (case l_q0=>ac_rfl)
  (case c_q0=>ac_rfl)
  (case k_q0=>ac_rfl)
  (case a_q14=>ac_rfl)
  (case l_q14=>ac_rfl)
  (case c_q14=>ac_rfl)
  (case k_q14=>ac_rfl)
  (case a_q33=>ac_rfl)
  (case l_q33=>ac_rfl)
  (case c_q33=>ac_rfl)
  (case k_q33=>ac_rfl)
  (case a_q1=>ac_rfl)
  (case l_q1=>ac_rfl)
  (case c_q1=>ac_rfl)
  (case k_q1=>ac_rfl)
  (case a_q22=>ac_rfl)
  (case l_q22=>ac_rfl)
  (case c_q22=>ac_rfl)
  (case k_q22=>ac_rfl)
  (case a_q20=>ac_rfl)
  (case l_q20=>ac_rfl)
  (case c_q20=>ac_rfl)
  (case k_q20=>ac_rfl)
  (case a_q12=>ac_rfl)
  (case l_q12=>ac_rfl)
  (case c_q12=>ac_rfl)
  (case k_q12=>ac_rfl)
  (case a_q3=>ac_rfl)
  (case l_q3=>ac_rfl)
  (case c_q3=>ac_rfl)
  (case k_q3=>ac_rfl)
  (case a_q18=>ac_rfl)
  (case l_q18=>ac_rfl)
  (case c_q18=>ac_rfl)
  (case k_q18=>ac_rfl)
  (case a_q9=>ac_rfl)
  (case l_q9=>ac_rfl)
  (case c_q9=>ac_rfl)
  (case k_q9=>ac_rfl)
  (case a_q10=>ac_rfl)
  (case l_q10=>ac_rfl)
  (case c_q10=>ac_rfl)
  (case k_q10=>ac_rfl)
  (case a_q13=>ac_rfl)
  (case l_q13=>ac_rfl)
  (case c_q13=>ac_rfl)
  (case k_q13=>ac_rfl)
  (case a_q19=>ac_rfl)
  (case l_q19=>ac_rfl)
  (case c_q19=>ac_rfl)
  (case k_q19=>ac_rfl)
  (case a_q5=>ac_rfl)
  (case l_q5=>ac_rfl)
  (case c_q5=>ac_rfl)
  (case k_q5=>ac_rfl)
  (case i_q5=>ac_rfl)
  (case a_q27=>ac_rfl)
  (case l_q27=>ac_rfl)
  (case c_q27=>ac_rfl)
  (case k_q27=>ac_rfl)
  (case i_q27=>ac_rfl)
  (case a_q24=>ac_rfl)
  (case l_q24=>ac_rfl)
  (case c_q24=>ac_rfl)
  (case k_q24=>ac_rfl)
  (case i_q24=>ac_rfl)
  (case a_q15=>ac_rfl)
  (case l_q15=>ac_rfl)
  (case c_q15=>ac_rfl)
  (case k_q15=>ac_rfl)
  (case i_q15=>ac_rfl)
  (case a_q16=>ac_rfl)
  (case l_q16=>ac_rfl)
  (case c_q16=>ac_rfl)
  (case k_q16=>ac_rfl)
  (case i_q16=>ac_rfl)
  (case a_q28=>ac_rfl)
  (case l_q28=>ac_rfl)
  (case c_q28=>ac_rfl)
  (case k_q28=>ac_rfl)
  (case i_q28=>ac_rfl)
  (case a_q11=>ac_rfl)
  (case l_q11=>ac_rfl)
  (case c_q11=>ac_rfl)
  (case k_q11=>ac_rfl)
  (case i_q11=>ac_rfl)
  (case a_q23=>ac_rfl)
  (case l_q23=>ac_rfl)
  (case c_q23=>ac_rfl)
  (case k_q23=>ac_rfl)
  (case i_q23=>ac_rfl)
  (case a_q4=>ac_rfl)
  (case l_q4=>ac_rfl)
  (case c_q4=>ac_rfl)
  (case k_q4=>ac_rfl)
  (case i_q4=>ac_rfl)
  (case a_q2=>ac_rfl)
  (case l_q2=>ac_rfl)
  (case c_q2=>ac_rfl)
  (case k_q2=>ac_rfl)
  (case i_q2=>ac_rfl)
  (case a_q30=>ac_rfl)
  (case l_q30=>ac_rfl)
  (case c_q30=>ac_rfl)
  (case k_q30=>ac_rfl)
  (case a_q31=>ac_rfl)
  (case l_q31=>ac_rfl)
  (case c_q31=>ac_rfl)
  (case k_q31=>ac_rfl)
  (case a_q35=>ac_rfl)
  (case l_q35=>ac_rfl)
  (case c_q35=>ac_rfl)
  (case k_q35=>ac_rfl)
  (case a_q36=>ac_rfl)
  (case l_q36=>ac_rfl)
  (case c_q36=>ac_rfl)
  (case k_q36=>ac_rfl)
  (case a_q32=>ac_rfl)
  (case l_q32=>ac_rfl)
  (case c_q32=>ac_rfl)
  (case k_q32=>ac_rfl)
  (case a_q26=>ac_rfl)
  (case l_q26=>ac_rfl)
  (case c_q26=>ac_rfl)
  (case k_q26=>ac_rfl)
  (case a_q34=>ac_rfl)
  (case l_q34=>ac_rfl)
  (case c_q34=>ac_rfl)
  (case k_q34=>ac_rfl)
  (case a_q17=>ac_rfl)
  (case l_q17=>ac_rfl)
  (case c_q17=>ac_rfl)
  (case k_q17=>ac_rfl)
  (case a_q7=>ac_rfl)
  (case l_q7=>ac_rfl)
  (case c_q7=>ac_rfl)
  (case k_q7=>ac_rfl)
  (case a_q25=>ac_rfl)
  (case l_q25=>ac_rfl)
  (case c_q25=>ac_rfl)
  (case k_q25=>ac_rfl)
  (case a_q29=>ac_rfl)
  (case l_q29=>ac_rfl)
  (case c_q29=>ac_rfl)
  (case k_q29=>ac_rfl)
  (case a_q6=>ac_rfl)
  (case l_q6=>ac_rfl)
  (case c_q6=>ac_rfl)
  (case k_q6=>ac_rfl)
  (case a_q8=>ac_rfl)
  (case l_q8=>ac_rfl)
  (case c_q8=>ac_rfl)
  (case k_q8=>ac_rfl)
  (case a_q37=>ac_rfl)
  (case l_q37=>ac_rfl)
  (case c_q37=>ac_rfl)
  (case k_q37=>ac_rfl)
  (case z_abs=>ac_rfl)
  (case z_bool=>ac_rfl)
  (case z_int=>ac_rfl)
  (case z_isinstance=>ac_rfl)
  (case z_len=>ac_rfl)
  (case z_list=>ac_rfl)
  (case z_max=>ac_rfl)
  (case z_min=>ac_rfl)
  (case z_range=>ac_rfl)
  (case z_sorted=>ac_rfl)
  (case z_sum=>ac_rfl)
  (case z_tuple=>ac_rfl)
  (case z_zip=>ac_rfl)
  (case u_SQUARES=>ac_rfl)
  (case u_STREETS=>ac_rfl)
