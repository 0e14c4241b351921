import PyProof.Rows.All
import Wide.All
import OpenK.AllK
import Wide.FinOn
import Lean
import PyProof.EqAt
import PyProof.EqKinds
import PyProof.TupleCall
import PyProof.ListRange
import PyProof.StrCalls2
import PyProof.StrWalks
import PyProof.EnumMake
import PyProof.Rows.Range3
import PyProof.SliceStr
import PyProof.StrLawsChain
import PyProof.DictValues
import PyProof.StrLawsIdx
import KE.KDictList
import PyProof.ExcInit
import PyProof.StationsW
import PyProof.ExcArgsOwn
import PyProof.InstStoreFacts
import KE.KIsAll
import PyProof.ExcBaseAll.ValueError
import PyProof.RulesAs
import PyProof.NsDelKeeps
import PySem.Challenge.RW_restdraw_k44_turned
set_option Elab.async false
set_option linter.all false
set_option maxRecDepth 100000
local macro_rules | `(tactic| omega)=>`(tactic| lia)
noncomputable section
namespace L2
open PySem PySem.Spec PyProof.Rows
/-- a key: an int or a str -/
abbrev Key:=Sum Int Str
def keyIs:Key→Value→Bool
 | .inl k,v=>Value.isInt k v
 | .inr x,v=>Value.isStrOf x v
def keyH (w:World):Key→Int
 | .inl k=>hashInt k
 | .inr x=>hashStr w x
theorem keyIs_shape:∀ {k:Key} {v:Value},keyIs k v=true→(∃ i t,k=Sum.inl i∧v=Value.int i t)∨(∃ x t,k=Sum.inr x∧v=Value.str x t)
 | .inl i,v,h=>by
  obtain ⟨t,e⟩:=Value.isInt_shape (k:=i) (v:=v) h
  exact .inl ⟨i,t,rfl,e⟩
 | .inr x,v,h=>by
  obtain ⟨t,e⟩:=Value.isStrOf_shape (x:=x) (v:=v) h
  exact .inr ⟨x,t,rfl,e⟩
theorem keyIs_int (i:Int) (t:Tok):keyIs (.inl i) (.int i t)=true:=by simp [keyIs,Value.isInt]
theorem keyIs_str (x:Str) (t:Tok):keyIs (.inr x) (.str x t)=true:=by simp [keyIs,Value.isStrOf]
theorem key_ll (a b:Int):decide ((Sum.inl a:Key)=Sum.inl b)=(a == b):=by
 by_cases e:a=b
 ·subst e;simp
 ·have h:¬ (Sum.inl a:Key)=Sum.inl b:=fun q=>e (Sum.inl.inj q)
  rw [decide_eq_false h]
  exact (beq_eq_false_iff_ne.mpr e).symm
theorem key_rr (a b:Str):decide ((Sum.inr a:Key)=Sum.inr b)=decide (a=b):=by
 by_cases e:a=b
 ·subst e;simp
 ·have h:¬ (Sum.inr a:Key)=Sum.inr b:=fun q=>e (Sum.inr.inj q)
  rw [decide_eq_false h,decide_eq_false e]
theorem key_lr (a:Int) (b:Str):decide ((Sum.inl a:Key)=Sum.inr b)=false:=decide_eq_false (fun q=>nomatch q)
theorem key_rl (a:Str) (b:Int):decide ((Sum.inr a:Key)=Sum.inl b)=false:=decide_eq_false (fun q=>nomatch q)
def mixKind (prog:Program) (w:World):PySem.KeyKind prog w Key where
 is:=keyIs
 hash:=keyH w
 inj:=fun v a b ha hb=>by
  rcases keyIs_shape ha with ⟨i,t,rfl,rfl⟩ | ⟨x,t,rfl,rfl⟩
  ·rcases keyIs_shape hb with ⟨j,u,rfl,e⟩ | ⟨y,u,rfl,e⟩
   ·injection e with e1 _;rw [e1]
   ·exact nomatch e
  ·rcases keyIs_shape hb with ⟨j,u,rfl,e⟩ | ⟨y,u,rfl,e⟩
   ·exact nomatch e
   ·injection e with e1 _;rw [e1]
 byValue:=fun k v h=>by
  rcases keyIs_shape h with ⟨i,t,rfl,rfl⟩ | ⟨x,t,rfl,rfl⟩<;>rfl
 pyHash:=fun hv h=>by
  rcases keyIs_shape hv with ⟨i,t,rfl,rfl⟩ | ⟨x,t,rfl,rfl⟩
  ·exact wpAny_pyHash_int h
  ·exact wpAny_pyHash_str h
 eqBool:=fun hu hv h=>by
  rcases keyIs_shape hu with ⟨i,t,rfl,rfl⟩ | ⟨x,t,rfl,rfl⟩
  ·rcases keyIs_shape hv with ⟨j,u,rfl,rfl⟩ | ⟨y,u,rfl,rfl⟩
   ·rw [key_ll] at h;exact wpAny_eqBool_int h
   ·rw [key_lr] at h;exact SeqAt.EqAt.int_str i t y u _ _ _ _ h
  ·rcases keyIs_shape hv with ⟨j,u,rfl,rfl⟩ | ⟨y,u,rfl,rfl⟩
   ·rw [key_rl] at h;exact SeqAt.EqAt.str_int x t j u _ _ _ _ h
   ·rw [key_rr] at h;exact wpAny_eqBool_str h
 «strs»:=fun k x t v h=>by
  rcases keyIs_shape h with ⟨i,u,rfl,e⟩ | ⟨y,u,rfl,e⟩
  ·exact nomatch e
  ·injection e with e1 _
   subst e1
   cases v<;>rfl
theorem mixKind_int (prog:Program) (w:World) (i:Int) (t:Tok):(mixKind prog w).is (.inl i) (.int i t)=true:=keyIs_int i t
theorem mixKind_str (prog:Program) (w:World) (x:Str) (t:Tok):(mixKind prog w).is (.inr x) (.str x t)=true:=keyIs_str x t
end L2
namespace L2
open PySem PySem.Spec PyProof.Rows
/-- a value, without the heap -/
inductive V where
 | non | bl (b:Bool) | int (i:Int) | str (x:Str) | byt (b:Array UInt8) | flt (b:UInt64) | ref (a:Addr) | ty (n:String)
 deriving DecidableEq
def RelV:V→Value→Prop
 | .non,u=>u=Value.none
 | .bl b,u=>u=Value.bool b
 | .int i,u=>∃ t,u=Value.int i t
 | .str x,u=>∃ t,u=Value.str x t
 | .byt b,u=>∃ t,u=Value.bytes b t
 | .flt b,u=>∃ t,u=Value.float b t
 | .ref a,u=>u=Value.ref a
 | .ty n,u=>u=Value.type n
abbrev Vals:List V→List Value→Prop:=Paired RelV
theorem Vals.length {xs:List V} {us:List Value} (r:Vals xs us):xs.length=us.length:=Paired.length r
theorem Vals.get:∀ {xs:List V} {us:List Value} {i:Nat} {x:V},Vals xs us→xs[i]?=some x→∃ u,us[i]?=some u∧RelV x u
 | _,_,_,_,.nil,e=>by simp at e
 | _,_,0,_,.cons r _,e=>by simp at e;subst e;exact ⟨_,rfl,r⟩
 | _,_,i+1,x,.cons _ t,e=>by
  obtain ⟨u,h1,h2⟩:=Vals.get (i:=i) (x:=x) t (by simpa using e)
  exact ⟨u,by simpa using h1,h2⟩
theorem Vals.set {x:V} {u:Value} (r:RelV x u):∀ {xs:List V} {us:List Value} (i:Nat),Vals xs us→Vals (xs.set i x) (us.set i u)
 | _,_,_,.nil=>.nil
 | _,_,0,.cons _ t=>.cons r t
 | _,_,i+1,.cons q t=>.cons q (Vals.set r i t)
theorem Vals.append:∀ {xs ys:List V} {us ws:List Value},Vals xs us→Vals ys ws→Vals (xs++ys) (us++ws)
 | _,_,_,_,.nil,s=>s
 | _,_,_,_,.cons r t,s=>.cons r (Vals.append t s)
theorem Vals.take:∀ {xs:List V} {us:List Value} (n:Nat),Vals xs us→Vals (xs.take n) (us.take n)
 | _,_,0,_=>.nil
 | _,_,_+1,.nil=>.nil
 | _,_,n+1,.cons r t=>.cons r (Vals.take n t)
theorem Vals.drop:∀ {xs:List V} {us:List Value} (n:Nat),Vals xs us→Vals (xs.drop n) (us.drop n)
 | _,_,0,r=>r
 | _,_,_+1,.nil=>.nil
 | _,_,n+1,.cons _ t=>Vals.drop n t
def RelO:Option V→Option Value→Prop
 | some v,some u=>RelV v u
 | none,none=>True
 | _,_=>False
def KV {κ:Type}:List (κ×V)→List (κ×Value)→Prop:=Paired fun (p:κ×V) (q:κ×Value)=>p.1=q.1∧RelV p.2 q.2
/-- a key of a dict (00_mix): an int or a text -/
def kV:Key→V
 | .inl i=>.int i
 | .inr x=>.str x
/-- what stands at a tracked address -/
inductive HO where
  /-- a list -/
 | lst (xs:List V)
  /-- a tuple (never changes) -/
 | tup (xs:List V)
  /-- a dict whose keys are ints and texts; one whose keys are tuples of ints and texts (the empty one is both) -/
 | dK (kvs:List (Key×V)) | dT (kvs:List (List Key×V))
  /-- a set of ints: its members, its size -/
 | set (S:Int→Bool) (n:Nat)
  /-- an instance of the class at C, its dict at dx, its attributes -/
 | ins (C dx:Addr) (fs:List (Str×V))
  /-- the dict of the instance at x -/
 | own (x:Addr)
  /-- the dict of an exception -/
 | xd (fs:List (Str×V))
  /-- a bound method, f of x -/
 | met (f x:Addr)
  /-- a range object lo, lo + 1, .. below hi -/
 | rng (lo hi:Int)
  /-- a thing that is known to the object (the script; a dict while a loop walks it): read, never written while it is so -/
 | frz (o:Obj) (u:HO)
  /-- a code object's table -/
 | tbl (ps:Array Value)
  /-- any other thing, by what is true of its one object (a def of one's own: SetO a S n := HO.ext fun h => ..) -/
 | ext (φ:Heap→Prop)
abbrev Hp:=Addr→Option HO
def upd (H:Hp) (a:Addr) (o:HO):Hp:=fun b=>if b=a then some o else H b
theorem upd_same {H:Hp} {a:Addr} {o:HO}:upd H a o a=some o:=by unfold upd;rw [if_pos rfl]
theorem upd_ne {H:Hp} {a b:Addr} {o:HO} (h:b≠a):upd H a o b=H b:=by unfold upd;rw [if_neg h]
/-- two objects of different content stand apart -/
theorem ne_of {H:Hp} {a b:Addr} {o u:HO} (h:H a=some o) (h':H b=some u) (d:o≠u):a≠b:=by
 intro e;subst e;rw [h] at h';exact d (Option.some.inj h')
theorem ne_of_none {H:Hp} {a b:Addr} {o:HO} (h:H a=some o) (h':H b=none):a≠b:=by
 intro e;subst e;rw [h] at h';cases h'
section
/-- a tuple that has no dict of its own -/
def IsTupN (h:Heap) (a:Addr) (items:Array Value):Prop:=∃ o,h.get? a=some o∧o.cls=.type "tuple"∧∃ n,o.data=.seq items n∧o.dict=none
theorem IsTupN.isTup {h:Heap} {a:Addr} {items:Array Value}:IsTupN h a items→IsTup h a items:=fun ⟨o,e,c,n,d,_⟩=>⟨o,e,c,n,d⟩
theorem IsTupN.lt {h:Heap} {a:Addr} {items:Array Value} (x:IsTupN h a items):a<h.objs.size:=x.isTup.lt
theorem IsTupN.new (h:Heap) (items:Array Value):IsTupN (h.push { cls:=.type "tuple",data:=.seq items }) h.objs.size items:=⟨_,Heap.get?_push_size _ rfl,rfl,_,rfl,rfl⟩
variable (P:Program) (w:World)
def ObjOk (H:Hp) (h:Heap) (a:Addr):HO→Prop
 | .lst xs=>xs.length≤sizeLine∧∃ (its:List Value) (n:Nat),Vals xs its∧h.get? a=some { cls:=.type "list",data:=.seq its.toArray n }
 | .tup xs=>xs.length≤sizeLine∧∃ its:List Value,Vals xs its∧IsTupN h a its.toArray
 | .dK kvs=>kvs.length≤sizeLine∧(a == sysModules)=false∧∃ vs,KV kvs vs∧h.DictOf (mixKind P w) a vs
 | .dT kvs=>kvs.length≤sizeLine∧(a == sysModules)=false∧∃ xs:List (List Key×Addr×Value),
   Paired (fun (p:List Key×V) (q:List Key×Addr×Value)=>p.1=q.1∧H q.2.1=some (.tup (p.1.map kV))∧RelV p.2 q.2.2) kvs xs ∧
   ∃ o es ep,h.get? a=some o∧o.ExactDict∧o.data=.dict es ep∧es.toList=xs.map (entryOfKey (tupleKind (mixKind P w)))∧(xs.map (·.1)).Nodup
 | .set S n=>h.SetOf (intKind P w) a S n
 | .ins C dx fs=>H dx=some (.own a)∧fs.length≤1000∧dx≠a∧h.get? a=some (PySem.W.instObj C dx) ∧
   ∃ mA,h.Ns1 dx mA∧(∀ f,RelO (fs.lookup f) (mA f))∧PySem.Within mA (fs.map (·.1))
 | .own _=>∃ o,h.get? a=some o
 | .xd fs=>∃ mA,h.Ns1 a mA∧∀ f,RelO (fs.lookup f) (mA f)
 | .rng lo hi=>∃ t u v,h.get? a=some { cls:=.type "range",data:=.fields #[.int lo t,.int hi u,.int 1 v] }
 | .frz o u=>h.get? a=some o∧ObjOk H h a u
 | .tbl ps=>h.get? a=some { cls:=.none,data:=.fields ps }
 | .met f x=>h.get? a=some (PySem.W.methodObj (.ref f) (.ref x))
 | .ext φ=>φ h∧(∃ o,h.get? a=some o)∧∀ h1 h2:Heap,φ h1→(∀ o,h1.get? a=some o→h2.get? a=some o)→φ h2
/-- the abstract heap is held -/
def HOk (H:Hp) (h:Heap):Prop:=∀ a o,H a=some o→ObjOk P w H h a o
end
section
variable {P:Program} {w:World} {H H':Hp} {h h':Heap} {a:Addr} {o:HO}
theorem ObjOk.lt (x:ObjOk P w H h a o):a<h.objs.size:=by
 cases o with
 | lst xs=>obtain ⟨_,_,_,_,e⟩:=x;exact Heap.lt_size e
 | tup xs=>obtain ⟨_,_,_,p⟩:=x;exact p.lt
 | dK kvs=>obtain ⟨_,_,_,_,o,_,_,e,_⟩:=x;exact Heap.lt_size e
 | dT kvs=>obtain ⟨_,_,_,_,o,_,_,e,_⟩:=x;exact Heap.lt_size e
 | set S n=>obtain ⟨o,_,_,_,e,_⟩:=x;exact Heap.lt_size e
 | ins C dx fs=>obtain ⟨_,_,_,e,_⟩:=x;exact Heap.lt_size e
 | own y=>obtain ⟨_,e⟩:=x;exact Heap.lt_size e
 | xd fs=>obtain ⟨_,⟨_,_,_,e,_⟩,_⟩:=x;exact Heap.lt_size e
 | rng lo hi=>obtain ⟨_,_,_,e⟩:=x;exact Heap.lt_size e
 | frz ob u=>obtain ⟨e,_⟩:=x;exact Heap.lt_size e
 | tbl ps=>exact Heap.lt_size (show h.get? a=some _ from x)
 | met f y=>exact Heap.lt_size (show h.get? a=some _ from x)
 | ext φ=>obtain ⟨_,⟨_,e⟩,_⟩:=x;exact Heap.lt_size e
theorem Paired.mapP {α β:Type} {F G:α→β→Prop}:∀ {l₁:List α} {l₂:List β},Paired F l₁ l₂→(∀ a b,F a b→G a b)→Paired G l₁ l₂
 | _,_,.nil,_=>.nil
 | _,_,.cons r t,f=>.cons (f _ _ r) (Paired.mapP t f)
/-- what an object's description leans on: its own object, its own dict, the tuples -/
theorem ObjOk.stay (x:ObjOk P w H h a o) (k:∀ b u,(b=a∨H b=some (.own a))→h.get? b=some u→h'.get? b=some u)
  (ho:∀ b,H b=some (.own a)→H' b=some (.own a)) (ht:∀ b xs,H b=some (.tup xs)→H' b=some (.tup xs)):ObjOk P w H' h' a o:=by
 induction o with
 | lst xs=>obtain ⟨z,its,n,r,e⟩:=x;exact ⟨z,its,n,r,k _ _ (.inl rfl) e⟩
 | tup xs=>obtain ⟨z,its,r,ob,e,c⟩:=x;exact ⟨z,its,r,ob,k _ _ (.inl rfl) e,c⟩
 | dK kvs=>obtain ⟨z,y,vs,r,ob,es,ep,e,c⟩:=x;exact ⟨z,y,vs,r,ob,es,ep,k _ _ (.inl rfl) e,c⟩
 | dT kvs =>
  obtain ⟨z,y,xs,r,ob,es,ep,e,c⟩:=x
  exact ⟨z,y,xs,Paired.mapP r fun p q z=>⟨z.1,ht _ _ z.2.1,z.2.2⟩,ob,es,ep,k _ _ (.inl rfl) e,c⟩
 | set S n=>obtain ⟨ob,es,ep,t,e,c⟩:=x;exact ⟨ob,es,ep,t,k _ _ (.inl rfl) e,c⟩
 | ins C dx fs =>
  obtain ⟨d,z,ne,e,mA,⟨od,es,ep,e2,c⟩,r⟩:=x
  exact ⟨ho _ d,z,ne,k _ _ (.inl rfl) e,mA,⟨od,es,ep,k _ _ (.inr d) e2,c⟩,r⟩
 | own y=>obtain ⟨ob,e⟩:=x;exact ⟨ob,k _ _ (.inl rfl) e⟩
 | xd fs=>obtain ⟨mA,⟨od,es,ep,e,c⟩,r⟩:=x;exact ⟨mA,⟨od,es,ep,k _ _ (.inl rfl) e,c⟩,r⟩
 | rng lo hi=>obtain ⟨t,u,v,e⟩:=x;exact ⟨t,u,v,k _ _ (.inl rfl) e⟩
 | frz ob u ih=>obtain ⟨e,q⟩:=x;exact ⟨k _ _ (.inl rfl) e,ih q⟩
 | tbl ps =>
  have e:h.get? a=some { cls:=.none,data:=.fields ps }:=x
  show h'.get? a=some { cls:=.none,data:=.fields ps }
  exact k a _ (.inl rfl) e
 | met f y =>
  have e:h.get? a=some (PySem.W.methodObj (.ref f) (.ref y)):=x
  show h'.get? a=some (PySem.W.methodObj (.ref f) (.ref y))
  exact k a _ (.inl rfl) e
 | ext φ=>obtain ⟨p,⟨o,e⟩,st⟩:=x;exact ⟨st _ _ p fun o q=>k _ _ (.inl rfl) q,⟨o,k _ _ (.inl rfl) e⟩,st⟩
theorem HOk.lt (x:HOk P w H h) (e:H a=some o):a<h.objs.size:=(x a o e).lt
theorem HOk.fresh (x:HOk P w H h) (e:h.objs.size≤a):H a=none:=by
 cases q:H a with
 | none=>rfl
 | some u=>exact absurd (Nat.lt_of_lt_of_le (x.lt q) e) (Nat.lt_irrefl _)
/-- every object of the heap is kept -/
theorem HOk.kept (x:HOk P w H h) (k:∀ b u,h.get? b=some u→h'.get? b=some u):HOk P w H h':=fun a o e =>
 (x a o e).stay (fun b u _ q=>k b u q) (fun _ q=>q) fun _ _ q=>q
/-- a new object is laid and tracked -/
theorem HOk.laid (x:HOk P w H h) (k:∀ b u,h.get? b=some u→h'.get? b=some u) (hp:h.objs.size≤a) (new:ObjOk P w (upd H a o) h' a o):HOk P w (upd H a o) h':=fun b u e=>by
 have hn:=x.fresh hp
 by_cases hb:b=a
 ·subst hb;rw [upd_same] at e;cases e;exact new
 ·rw [upd_ne hb] at e
  exact (x b u e).stay (fun c v _ q=>k c v q) (fun c q=>by rw [upd_ne (ne_of_none q hn)];exact q) fun c xs q=>by rw [upd_ne (ne_of_none q hn)];exact q
end
/-- what may be read as u: it is u, or a known u -/
def Rd (H:Hp) (a:Addr) (u:HO):Prop:=H a=some u∨∃ o,H a=some (.frz o u)
theorem Rd.of {H:Hp} {a:Addr} {u:HO} (h:H a=some u):Rd H a u:=.inl h
theorem Rd.ok {P:Program} {w:World} {H:Hp} {h:Heap} {a:Addr} {u:HO} (r:Rd H a u) (x:HOk P w H h):ObjOk P w H h a u:=by
 rcases r with r | ⟨o,r⟩
 ·exact x a u r
 ·obtain ⟨_,q⟩:=x a _ r
  exact q
/-- what may be written -/
def Mut:Option HO→Prop
 | some (.lst _)=>True
 | some (.dK _)=>True
 | some (.dT _)=>True
 | some (.set _ _)=>True
 | some (.ins _ _ _)=>True
 | some (.ext _)=>True
 | _=>False
section
variable {P:Program} {w:World} {H:Hp} {h h':Heap} {x e:Addr} {o':HO}
/-- the object at e is changed: x itself, or the dict of the instance x -/
theorem HOk.write (ok:HOk P w H h) (mu:Mut (H x)) (he:e=x∨H e=some (.own x)) (k:∀ b u,b≠e→h.get? b=some u→h'.get? b=some u) (heo:∃ u,h'.get? e=some u)
  (new:ObjOk P w (upd H x o') h' x o'):HOk P w (upd H x o') h':=fun b u q=>by
 have nown:∀ c y,H c=some (.own y)→c≠x:=fun c y r z=>by subst z;rw [r] at mu;exact mu
 have ntup:∀ c xs,H c=some (.tup xs)→c≠x:=fun c xs r z=>by subst z;rw [r] at mu;exact mu
 by_cases hb:b=x
 ·subst hb;rw [upd_same] at q;cases q;exact new
 ·rw [upd_ne hb] at q
  by_cases hbe:b=e
  ·have q':H b=some (.own x):=by
    rcases he with z | z
    ·exact absurd (hbe.trans z) hb
    ·rw [hbe];exact z
   rw [q] at q';cases q'
   obtain ⟨v,hv⟩:=heo
   exact ⟨v,by rw [hbe];exact hv⟩
  ·refine (ok b u q).stay (fun c v hc r=>k c v ?_ r) (fun c r=>by rw [upd_ne (nown c b r)];exact r) fun c xs r=>by rw [upd_ne (ntup c xs r)];exact r
   rcases hc with rfl | hc
   ·exact hbe
   ·rintro rfl
    rcases he with z | z
    ·exact nown c b hc z
    ·rw [hc] at z;cases z;exact hb rfl
end
structure Un (fs ex:List Addr) (H H':Hp) (h h':Heap):Prop where
 keep:∀ b o,h.get? b=some o→H b=none→b∉fs→b∉ex→h'.get? b=some o
 slot:∀ b o,h.get? b=some o→H b=none→b∈fs→b∉ex→∃ sl,h'.get? b=some { o with slots:=sl }
 free:∀ b o,h.get? b=some o→H b=none→b∉ex→H' b=none
 there:∀ b o,h.get? b=some o→b∉ex→∃ o',h'.get? b=some o'
 tups:∀ b xs,H b=some (.tup xs)→H' b=some (.tup xs)
 frzs:∀ b o u,H b=some (.frz o u)→H' b=some (.frz o u)
 tbls:∀ b ps,H b=some (.tbl ps)→∃ more,H' b=some (.tbl (ps++more))
section
variable {fs fs' ex ex':List Addr} {H H1 H2:Hp} {h h1 h2 h':Heap} {a x e:Addr} {o:HO}
theorem Un.any (u:Un fs ex H H1 h h1) {b:Addr} {ob:Obj} (q:h.get? b=some ob) (n:H b=none) (hx:b∉ex):∃ sl,h1.get? b=some { ob with slots:=sl }:=by
 by_cases hb:b∈fs
 ·exact u.slot b ob q n hb hx
 ·exact ⟨ob.slots,u.keep b ob q n hb hx⟩
theorem Un.trans (a:Un fs ex H H1 h h1) (b:Un fs ex H1 H2 h1 h2):Un fs ex H H2 h h2 where
 keep:=fun c ob q n hc hx=>b.keep c ob (a.keep c ob q n hc hx) (a.free c ob q n hx) hc hx
 slot:=fun c ob q n hc hx=>by
  obtain ⟨sl,e1⟩:=a.slot c ob q n hc hx
  obtain ⟨sl',e2⟩:=b.slot c _ e1 (a.free c ob q n hx) hc hx
  exact ⟨sl',e2⟩
 free:=fun c ob q n hx=>by
  obtain ⟨o',e1⟩:=a.there c ob q hx
  exact b.free c o' e1 (a.free c ob q n hx) hx
 there:=fun c ob q hx=>by
  obtain ⟨o',e1⟩:=a.there c ob q hx
  exact b.there c o' e1 hx
 tups:=fun c xs q=>b.tups c xs (a.tups c xs q)
 frzs:=fun c ob xs q=>b.frzs c ob xs (a.frzs c ob xs q)
 tbls:=fun c ps q=>by
  obtain ⟨m1,e1⟩:=a.tbls c ps q
  obtain ⟨m2,e2⟩:=b.tbls c _ e1
  exact ⟨m1++m2,by rw [e2,Array.append_assoc]⟩
theorem Un.kept (k:∀ b u,h.get? b=some u→h'.get? b=some u):Un fs ex H H h h' :=
 ⟨fun b ob q _ _ _=>k b ob q,fun b ob q _ _ _=>⟨ob.slots,k b ob q⟩,fun _ _ _ n _=>n,fun b ob q _=>⟨ob,k b ob q⟩,fun _ _ q=>q,fun _ _ _ q=>q,fun _ ps q=>⟨#[],by rw [q];simp⟩⟩
theorem Un.refl:Un fs ex H H h h:=Un.kept fun _ _ q=>q
theorem Un.laid (k:∀ b u,h.get? b=some u→h'.get? b=some u) (hp:h.objs.size≤a) (hn:H a=none):Un fs ex H (upd H a o) h h' where
 keep:=fun b u q _ _ _=>k b u q
 slot:=fun b u q _ _ _=>⟨u.slots,k b u q⟩
 free:=fun b u q n _=>by rw [upd_ne (Nat.ne_of_lt (Nat.lt_of_lt_of_le (Heap.lt_size q) hp))];exact n
 there:=fun b u q _=>⟨u,k b u q⟩
 tups:=fun b xs q=>by rw [upd_ne (ne_of_none q hn)];exact q
 frzs:=fun b u xs q=>by rw [upd_ne (ne_of_none q hn)];exact q
 tbls:=fun b ps q=>⟨#[],by rw [upd_ne (ne_of_none q hn),q];simp⟩
theorem Un.write (mu:Mut (H x)) (he:e=x∨H e=some (.own x)) (k:∀ b u,b≠e→h.get? b=some u→h'.get? b=some u) (heo:∃ u,h'.get? e=some u):Un fs ex H (upd H x o) h h':=by
 have hx:∀ b,H b=none→b≠x:=fun b n z=>by subst z;rw [n] at mu;exact mu
 have hb:∀ b,H b=none→b≠e:=fun b n z=>by
  subst z
  rcases he with r | r
  ·exact hx b n r
  ·rw [n] at r;cases r
 have hm:∀ b u,H b=some u→¬ Mut (some u)→b≠x:=fun b u q nm z=>by subst z;rw [q] at mu;exact nm mu
 refine ⟨fun b u q n _ _=>k b u (hb b n) q,fun b u q n _ _=>⟨u.slots,k b u (hb b n) q⟩,fun b u q n _=>by rw [upd_ne (hx b n)];exact n,fun b u q _=>?_,
  fun b xs q=>by rw [upd_ne (hm b _ q fun z=>z)];exact q,fun b u xs q=>by rw [upd_ne (hm b _ q fun z=>z)];exact q,fun b ps q=>⟨#[],by rw [upd_ne (hm b _ q fun z=>z),q];simp⟩⟩
 by_cases hbe:b=e
 ·subst hbe;exact heo
 ·exact ⟨u,k b u hbe q⟩
theorem Un.mono (u:Un fs ex H H1 h h1) (hs:∀ b∈fs,b∈fs') (hx:∀ b∈ex,b∈ex'):Un fs' ex' H H1 h h1 :=
 ⟨fun b ob q n hb he=>u.keep b ob q n (fun z=>hb (hs b z)) fun z=>he (hx b z),fun _ _ q n _ he=>u.any q n fun z=>he (hx _ z),fun b ob q n he=>u.free b ob q n fun z=>he (hx b z),fun b ob q he=>u.there b ob q fun z=>he (hx b z),u.tups,u.frzs,u.tbls⟩
end
def trk (h:Heap) (H:Hp):List Addr:=(List.range h.objs.size).filter fun a=>(H a).isSome
def hidT (h:Heap) (H:Hp):Heap:=PySem.W.hideAll h (trk h H)
theorem hidT_size (h:Heap) (H:Hp):(hidT h H).objs.size=h.objs.size:=PySem.W.hideAll_size _ _
theorem hidT_get {h:Heap} {H:Hp} {b:Addr} {o:Obj} (e:h.get? b=some o) (n:H b=none):(hidT h H).get? b=some o :=
 PySem.W.hideAll_get _ e fun hm=>by
  have q:(H b).isSome=true:=(List.mem_filter.mp hm).2
  rw [n] at q;simp at q
theorem of_hidT {h:Heap} {H:Hp} {b:Addr} {o:Obj} (e:(hidT h H).get? b=some o):h.get? b=some o∧H b=none:=by
 have e':h.get? b=some o:=PySem.W.of_hideAll (trk h H) e
 refine ⟨e',?_⟩
 cases q:H b with
 | none=>rfl
 | some x =>
  have hm:b∈trk h H:=List.mem_filter.mpr ⟨List.mem_range.mpr (Heap.lt_size e'),by simp [q]⟩
  have z:(hidT h H).get? b=none:=PySem.W.hideAll_none (trk h H) hm
  rw [z] at e;cases e
def allNews (g h:Heap) (L:Addr):List (Addr×Obj):=(List.range h.objs.size).filterMap fun a=>if a=L∨(g.get? a).isSome=true then none else (h.get? a).map fun o=>(a,o)
def rest (g h:Heap) (L d:Addr):List (Addr×Obj):=(allNews g h L).filter fun p=>decide (p.1≠d)
end L2
namespace L2
open PySem PySem.Spec PyProof.Rows
/-- the module's facts, over the base: the heap at the law's entry without what is tracked there -/
structure Mod (K:PySem.W.Frag) (mg:Str→Option Value) (base:Heap):Prop where
 kin:K.In base
 glob:base.Ns mainGlobals mg
 blt:∃ mb,base.Ns builtinsNs mb∧∀ x:Str,x≠"__name__"→mb x=bootBuiltins x
 nolimit:base.NoLimit
 seer:base.NoSeer
/-- the context: a def's body (or a comprehension's block) running. base: fixed through the whole law; s₀, H₀: the entry; outer: the frames whose slots others may change (a def's callers); stack: all frames that run;
   ex: iterators that were made ahead of the entry and are walked here (a comprehension's); fn: the names whose cells were made at the entry (a def: all; a comprehension's block: its own); calm: not within an except suite; pn: pins that every state bears; xe: what is wanted of an exception that leaves the code -/
structure Cx where
 prog:Program
 w:World
 K:PySem.W.Frag
 mg:Str→Option Value
 base:Heap
 A:Around
 N:List Str
 s₀:Shared
 H₀:Hp
 env:Env
 outer:List Env
 stack:List Env
 ex:List Addr
 fn:Str→Bool
 calm:Bool
 pn:List (Addr×Obj)
 xe:Value→Shared→Prop
/-- the callers' frames -/
def frs (l:List Env):List Addr:=l.filterMap (·.frame)
abbrev Cx.fs (X:Cx):List Addr:=frs X.outer
def Vis (sc:Scope) (x:Str):Prop:=sc.names.lookup x=some .local∨sc.names.lookup x=some .cell∨sc.names.lookup x=some .free
def Loc (sc:Scope) (x:Str):Prop:=sc.names.lookup x=some .local∨sc.names.lookup x=some .cell
def Look (env:Env) (h:Heap) (m:Str→Option Value) (x:Str) (u:Value):Prop :=
 (env.kindOf x=some .local∧m x=some u)∨((env.kindOf x=some .cell∨env.kindOf x=some .free)∧∃ c,env.cells.lookup x=some c∧h.IsCell c (some u))
structure Cx.Ok (X:Cx):Prop where
 mod:Mod X.K X.mg X.base
 kind:X.env.scope.kind=.function
 glob:X.env.globals=mainGlobals
 blt:X.env.builtins=builtinsNs
 above:X.s₀.heap.objs.size≤X.env.locals
 inj:∀ x y c,X.env.cells.lookup x=some c→X.env.cells.lookup y=some c→x=y
 has:∀ x,(X.env.kindOf x=some .cell∨X.env.kindOf x=some .free)→∃ c,X.env.cells.lookup x=some c
 cab:∀ x c,X.fn x=true→X.env.cells.lookup x=some c→X.s₀.heap.objs.size≤c
 hd:X.calm=true→X.A.handled=none
 frames:X.A.frames=some X.stack
 stk:X.stack=X.outer∨(X.stack=X.env::X.outer∧X.env.frame=some X.env.locals)
 exf:∀ b∈X.ex,b≠X.env.locals∧∀ x c,X.env.cells.lookup x=some c→c≠b
 bs:∀ b o,X.base.get? b=some o→X.s₀.heap.get? b=some o∧X.H₀ b=none
 bsz:X.base.objs.size≤X.s₀.heap.objs.size
 noex:∀ b o,X.base.get? b=some o→b∉X.ex
 exfs:∀ b∈X.ex,b∉X.fs
 funs:X.s₀.heap.FunFrames X.base X.outer
 frf:∀ b∈X.fs,X.H₀ b=none
structure Inv (X:Cx) (pins:List (Addr×Obj)) (σ:List (Option V)) (H:Hp) (s:Shared):Prop where
 ok:X.Ok
 os:s.os=X.s₀.os
 bare:AllBare s.gens
 base:Un X.fs X.ex X.H₀ H X.s₀.heap s.heap
 loc:∃ m,s.heap.Ns X.env.locals m∧∀ (i:Nat) (x:Str) (v:V),X.N[i]?=some x→σ[i]?=some (some v)→Vis X.env.scope x→∃ u,RelV v u∧Look X.env s.heap m x u
 cell:∀ x c,X.env.cells.lookup x=some c→∃ v,s.heap.IsCell c v
 free:H X.env.locals=none
 freeC:∀ x c,X.env.cells.lookup x=some c→H c=none
 pin:∀ p∈X.pn++pins,s.heap.get? p.1=some p.2∧H p.1=none∧p.1≠X.env.locals∧p.1∉X.fs∧∀ v,p.2.data≠.cell v
 hok:HOk X.prog X.w H s.heap
 len:σ.length=X.N.length
section
variable {X:Cx} {pins:List (Addr×Obj)} {σ:List (Option V)} {H H':Hp} {s:Shared} {h':Heap}
theorem Cx.Ok.nofr (ok:X.Ok) {b:Addr} {o:Obj} (e:X.base.get? b=some o):b∉X.fs:=fun hb=>by
 have:=(ok.funs.mem hb).1
 rw [e] at this;cases this
theorem Inv.bs (I:Inv X pins σ H s):∀ b o,X.base.get? b=some o→s.heap.get? b=some o∧H b=none:=fun b o e =>
 ⟨I.base.keep b o (I.ok.bs b o e).1 (I.ok.bs b o e).2 (I.ok.nofr e) (I.ok.noex b o e),I.base.free b o (I.ok.bs b o e).1 (I.ok.bs b o e).2 (I.ok.noex b o e)⟩
theorem Inv.bk (I:Inv X pins σ H s):∀ b o,X.base.get? b=some o→s.heap.get? b=some o:=fun b o e=>(I.bs b o e).1
theorem Inv.mod (I:Inv X pins σ H s):Mod X.K X.mg X.base:=I.ok.mod
theorem Inv.kIn (I:Inv X pins σ H s):X.K.In s.heap:=I.ok.mod.kin.keeps I.bk
theorem Inv.nolimit (I:Inv X pins σ H s):s.heap.NoLimit:=I.ok.mod.nolimit.keeps I.bk
/-- the frame over the base: for OpenK's rules (K.In X.base is I.mod.kin) -/
theorem Inv.fr (I:Inv X pins σ H s):∃ m,Fr X.base X.env.locals s.heap m :=
 let ⟨m,hn,_⟩:=I.loc
 ⟨m,hn,I.bk,Nat.le_trans I.ok.bsz I.ok.above⟩
theorem Inv.lt (I:Inv X pins σ H s):X.env.locals<s.heap.objs.size:=let ⟨_,hn,_⟩:=I.loc;hn.lt
theorem Inv.sz (I:Inv X pins σ H s):X.s₀.heap.objs.size≤s.heap.objs.size:=Nat.le_trans I.ok.above (Nat.le_of_lt I.lt)
theorem Inv.nofs (I:Inv X pins σ H s) {a:Addr} (h:s.heap.objs.size≤a):a∉X.fs:=fun hb=>by
 obtain ⟨_,o,ho,_⟩:=I.ok.funs.mem hb
 exact absurd (Nat.lt_of_lt_of_le (Heap.lt_size ho) (Nat.le_trans I.sz h)) (Nat.lt_irrefl _)
theorem Inv.cne (I:Inv X pins σ H s):∀ x c,X.env.cells.lookup x=some c→c≠X.env.locals:=fun x c e z=>by
 obtain ⟨v,o,ho,hd⟩:=I.cell x c e
 obtain ⟨m,⟨o',es,ep,ho',hd',_⟩,_⟩:=I.loc
 rw [z,ho'] at ho;cases ho;rw [hd'] at hd;cases hd
theorem Inv.funs (I:Inv X pins σ H s):s.heap.FunFrames X.base X.outer:=by
 have all:∀ (l:List Env),(∀ b∈frs l,b∈X.fs)→X.s₀.heap.FunFrames X.base l→s.heap.FunFrames X.base l:=by
  intro l
  induction l with
  | nil=>intro _ _;trivial
  | cons env r ih =>
   intro hs hl
   obtain ⟨hk,⟨L,o,hf,hn,ho,hd⟩,hr⟩:=hl
   have hL:L∈X.fs:=hs L (by unfold frs;rw [List.filterMap_cons,hf];exact List.mem_cons_self)
   obtain ⟨sl,e⟩:=I.base.slot L o ho (I.ok.frf L hL) hL fun z=>I.ok.exfs L z hL
   exact ⟨hk,⟨L,_,hf,hn,e,hd⟩,ih (fun b hb=>hs b (by unfold frs;rw [List.filterMap_cons,hf];exact List.mem_cons_of_mem _ hb)) hr⟩
 exact all X.outer (fun _ hb=>hb) I.ok.funs
/-- the frames that run, for a call -/
theorem Inv.stack (I:Inv X pins σ H s):s.heap.FunFrames X.base X.stack:=by
 rcases I.ok.stk with e | ⟨e,hf⟩
 ·rw [e];exact I.funs
 ·rw [e]
  obtain ⟨m,hn,_⟩:=I.loc
  refine .cons (by rw [I.ok.kind];decide) hf hn ?_ I.funs
  exact Heap.get?_none_of_le (Nat.le_trans I.ok.bsz I.ok.above)
theorem Inv.stkSub (I:Inv X pins σ H s):∀ b∈frs X.stack,b∈X.env.locals::X.fs:=fun b hb=>by
 rcases I.ok.stk with e | ⟨e,hf⟩
 ·rw [e] at hb;exact List.mem_cons_of_mem _ hb
 ·rw [e] at hb
  unfold frs at hb
  rw [List.filterMap_cons,hf] at hb
  exact hb
theorem Inv.stkFree (I:Inv X pins σ H s):∀ b∈frs X.stack,H b=none:=fun b hb=>by
 rcases List.mem_cons.mp (I.stkSub b hb) with e | hb
 ·rw [e];exact I.free
 ·obtain ⟨_,o,ho,_⟩:=I.ok.funs.mem hb
  exact I.base.free b o ho (I.ok.frf b hb) fun z=>I.ok.exfs b z hb
/-- THE STEP: the untracked objects but the frame and the records at ch are kept (the callers' frames up to slots), the frame's map is kept, the new abstract heap is held -/
theorem Inv.step {g':Array GenState} {t':Nat} {d':Drawn} {ch:List Addr} (I:Inv X pins σ H s)
  (hch:∀ b∈ch,(b∈X.ex∨X.s₀.heap.objs.size≤b)∧b≠X.env.locals∧(∀ x c,X.env.cells.lookup x=some c→c≠b)∧∀ p∈X.pn++pins,p.1≠b)
  (keep:∀ b o,b≠X.env.locals→b∉X.fs→b∉ch→s.heap.get? b=some o→H b=none→h'.get? b=some o)
  (slot:∀ b o,b≠X.env.locals→b∈X.fs→b∉ch→s.heap.get? b=some o→H b=none→∃ sl,h'.get? b=some { o with slots:=sl }) (free:∀ b o,b∉ch→s.heap.get? b=some o→H b=none→H' b=none)
  (there:∀ b o,b∉ch→s.heap.get? b=some o→∃ o',h'.get? b=some o')
  (tups:∀ b xs,H b=some (.tup xs)→H' b=some (.tup xs)) (frzs:∀ b o u,H b=some (.frz o u)→H' b=some (.frz o u)) (tbls:∀ b ps,H b=some (.tbl ps)→∃ more,H' b=some (.tbl (ps++more)))
  (ns:∀ m,s.heap.Ns X.env.locals m→h'.Ns X.env.locals m) (hok:HOk X.prog X.w H' h') (hg:AllBare g') :
  Inv X pins σ H' { s with heap:=h',gens:=g',drawn:=d',toks:=t' }:=by
 have neL:∀ b o,X.s₀.heap.get? b=some o→b≠X.env.locals:=fun b o e=>Nat.ne_of_lt (Nat.lt_of_lt_of_le (Heap.lt_size e) I.ok.above)
 have neC:∀ b o,X.s₀.heap.get? b=some o→b∉X.ex→b∉ch:=fun b o e hx hb=>by
  rcases (hch b hb).1 with z | z
  ·exact hx z
  ·exact absurd (Nat.lt_of_lt_of_le (Heap.lt_size e) z) (Nat.lt_irrefl _)
 have cellK:∀ x c,X.env.cells.lookup x=some c→∀ v,s.heap.IsCell c v→h'.IsCell c v:=fun x c e v ⟨o,ho,hd⟩=>by
  have nch:c∉ch:=fun z=>(hch c z).2.2.1 x c e rfl
  by_cases hc:c∈X.fs
  ·obtain ⟨sl,q⟩:=slot c o (I.cne x c e) hc nch ho (I.freeC x c e)
   exact ⟨_,q,hd⟩
  ·exact ⟨o,keep c o (I.cne x c e) hc nch ho (I.freeC x c e),hd⟩
 refine ⟨I.ok,I.os,hg,⟨fun b o e n hb hx=>?_,fun b o e n hb hx=>?_,fun b o e n hx=>?_,fun b o e hx=>?_,fun b xs e=>tups b xs (I.base.tups b xs e),fun b o xs e=>frzs b o xs (I.base.frzs b o xs e),fun b ps e=>?_⟩,?_,fun x c e=>?_,?_,fun x c e=>?_,fun p hp=>?_,hok,I.len⟩
 ·exact keep b o (neL b o e) hb (neC b o e hx) (I.base.keep b o e n hb hx) (I.base.free b o e n hx)
 ·obtain ⟨sl,e1⟩:=I.base.slot b o e n hb hx
  obtain ⟨sl',e2⟩:=slot b _ (neL b o e) hb (neC b o e hx) e1 (I.base.free b o e n hx)
  exact ⟨sl',e2⟩
 ·obtain ⟨o',e1⟩:=I.base.there b o e hx
  exact free b o' (neC b o e hx) e1 (I.base.free b o e n hx)
 ·obtain ⟨o',e1⟩:=I.base.there b o e hx
  exact there b o' (neC b o e hx) e1
 ·obtain ⟨m1,e1⟩:=I.base.tbls b ps e
  obtain ⟨m2,e2⟩:=tbls b _ e1
  exact ⟨m1++m2,by rw [e2,Array.append_assoc]⟩
 ·obtain ⟨m,hn,hl⟩:=I.loc
  refine ⟨m,ns m hn,fun i x v e1 e2 e3=>?_⟩
  obtain ⟨u,r,l⟩:=hl i x v e1 e2 e3
  refine ⟨u,r,?_⟩
  rcases l with l | ⟨k,c,e,z⟩
  ·exact .inl l
  ·exact .inr ⟨k,c,e,cellK x c e _ z⟩
 ·obtain ⟨v,z⟩:=I.cell x c e
  exact ⟨v,cellK x c e v z⟩
 ·obtain ⟨m,⟨o,_,_,ho,_⟩,_⟩:=I.loc
  exact free _ o (fun z=>(hch _ z).2.1 rfl) ho I.free
 ·obtain ⟨v,o,ho,hd⟩:=I.cell x c e
  exact free c o (fun z=>(hch c z).2.2.1 x c e rfl) ho (I.freeC x c e)
 ·obtain ⟨e,n,ne,nf,d⟩:=I.pin p hp
  have nch:p.1∉ch:=fun z=>(hch p.1 z).2.2.2 p hp rfl
  exact ⟨keep p.1 p.2 ne nf nch e n,free p.1 p.2 nch e n,ne,nf,d⟩
/-- .. where the frame's own object is kept too -/
theorem Inv.un {t':Nat} (I:Inv X pins σ H s) (u:Un X.fs [] H H' s.heap h') (hok:HOk X.prog X.w H' h'):Inv X pins σ H' { s with heap:=h',toks:=t' }:=by
 obtain ⟨m,⟨o,es,ep,ho,r⟩,_⟩:=id I.loc
 obtain ⟨sl,hL⟩:=u.any ho I.free (by simp)
 exact I.step (g':=s.gens) (d':=s.drawn) (ch:=[]) (fun _ z=>nomatch z) (fun b o _ hb _ e n=>u.keep b o e n hb (by simp)) (fun b o _ hb _ e n=>u.slot b o e n hb (by simp)) (fun b o _ e n=>u.free b o e n (by simp)) (fun b o _ e=>u.there b o e (by simp)) u.tups u.frzs u.tbls (fun m' hm=>by
  obtain ⟨o',es',ep',ho',r'⟩:=hm
  rw [ho] at ho';cases ho'
  exact ⟨_,es',ep',hL,r'⟩) hok I.bare
/-- behind a call (or a comprehension's block): the slots of this frame may have changed too, the records at ch may have turned -/
theorem Inv.call {g':Array GenState} {t':Nat} {d':Drawn} {ch:List Addr} (I:Inv X pins σ H s) (u:Un (frs X.stack) ch H H' s.heap h') (hok:HOk X.prog X.w H' h') (hg:AllBare g')
  (hch:∀ b∈ch,(b∈X.ex∨X.s₀.heap.objs.size≤b)∧b≠X.env.locals∧(∀ x c,X.env.cells.lookup x=some c→c≠b)∧∀ p∈X.pn++pins,p.1≠b) :
  Inv X pins σ H' { s with heap:=h',gens:=g',drawn:=d',toks:=t' }:=by
 obtain ⟨m,⟨o,es,ep,ho,r⟩,_⟩:=id I.loc
 obtain ⟨sl,hL⟩:=u.any ho I.free fun z=>(hch _ z).2.1 rfl
 exact I.step (ch:=ch) hch (fun b o hL hb hc e n=>u.keep b o e n (fun z=>(List.mem_cons.mp (I.stkSub b z)).elim hL hb) hc) (fun b o _ _ hc e n=>u.any e n hc) (fun b o hc e n=>u.free b o e n hc) (fun b o hc e=>u.there b o e hc) u.tups u.frzs u.tbls (fun m' hm=>by
  obtain ⟨o',es',ep',ho',r'⟩:=hm
  rw [ho] at ho';cases ho'
  exact ⟨_,es',ep',hL,r'⟩) hok hg
/-- an untracked record of ours (an iterator) has turned -/
theorem Inv.turned {t':Nat} {it:Addr} (I:Inv X pins σ H s) (k:∀ b o,b≠it→s.heap.get? b=some o→h'.get? b=some o) (hn:H it=none) (hL:it≠X.env.locals)
  (h1:it∈X.ex∨X.s₀.heap.objs.size≤it) (h2:∀ x c,X.env.cells.lookup x=some c→c≠it) (h3:∀ p∈X.pn++pins,p.1≠it):Inv X pins σ H { s with heap:=h',toks:=t' }:=by
 have nit:∀ b u,H b=some u→b≠it:=fun b u e z=>by rw [z,hn] at e;cases e
 refine I.step (g':=s.gens) (d':=s.drawn) (ch:=[it]) (fun b hb=>?_) (fun b o _ _ hc e _=>k b o (fun z=>hc (by simp [z])) e) (fun b o _ _ hc e _=>⟨o.slots,k b o (fun z=>hc (by simp [z])) e⟩) (fun _ _ _ _ n=>n)
  (fun b o hc e=>⟨o,k b o (fun z=>hc (by simp [z])) e⟩) (fun _ _ e=>e) (fun _ _ _ e=>e) (fun b ps e=>⟨#[],by rw [e];simp⟩) (fun m hm=>?_) (fun b u e=>?_) I.bare
 ·have e:b=it:=by simpa using hb
  subst e
  exact ⟨h1,hL,h2,h3⟩
 ·obtain ⟨o,es,ep,ho,r⟩:=hm
  exact ⟨o,es,ep,k _ o (Ne.symm hL) ho,r⟩
 ·refine (I.hok b u e).stay (fun c v hc q=>k c v ?_ q) (fun _ q=>q) fun _ _ q=>q
  rcases hc with z | z
  ·rw [z];exact nit b u e
  ·exact nit c _ z
theorem Inv.tok (I:Inv X pins σ H s) (t:Nat):Inv X pins σ H { s with toks:=t }:=I.un (h':=s.heap) (t':=t) Un.refl I.hok
/-- all objects kept -/
theorem Inv.kept {t':Nat} (I:Inv X pins σ H s) (k:∀ b u,s.heap.get? b=some u→h'.get? b=some u):Inv X pins σ H { s with heap:=h',toks:=t' }:=I.un (Un.kept k) (I.hok.kept k)
/-- a new object laid and tracked -/
theorem Inv.laid {a:Addr} {o:HO} {t':Nat} (I:Inv X pins σ H s) (k:∀ b u,s.heap.get? b=some u→h'.get? b=some u) (hp:s.heap.objs.size≤a) (new:ObjOk X.prog X.w (upd H a o) h' a o) :
  Inv X pins σ (upd H a o) { s with heap:=h',toks:=t' }:=I.un (Un.laid k hp (I.hok.fresh hp)) (I.hok.laid k hp new)
/-- an object written -/
theorem Inv.write {x e:Addr} {o:HO} {t':Nat} (I:Inv X pins σ H s) (mu:Mut (H x)) (he:e=x∨H e=some (.own x)) (k:∀ b u,b≠e→s.heap.get? b=some u→h'.get? b=some u) (heo:∃ u,h'.get? e=some u)
  (new:ObjOk X.prog X.w (upd H x o) h' x o):Inv X pins σ (upd H x o) { s with heap:=h',toks:=t' }:=I.un (Un.write mu he k heo) (I.hok.write mu he k heo new)
theorem Inv.pins_of {pins':List (Addr×Obj)} (I:Inv X pins σ H s) (h:∀ p∈pins',s.heap.get? p.1=some p.2∧H p.1=none∧p.1≠X.env.locals∧p.1∉X.fs∧∀ v,p.2.data≠.cell v):Inv X pins' σ H s :=
 ⟨I.ok,I.os,I.bare,I.base,I.loc,I.cell,I.free,I.freeC,fun p hp=>(List.mem_append.mp hp).elim (fun z=>I.pin p (List.mem_append_left _ z)) (h p),I.hok,I.len⟩
theorem nodup_ix {N:List Str} (hN:N.Nodup) {i j:Nat} {x:Str} (a:N[i]?=some x) (b:N[j]?=some x):i=j:=by
 obtain ⟨h1,e1⟩:=List.getElem?_eq_some_iff.mp a
 obtain ⟨h2,e2⟩:=List.getElem?_eq_some_iff.mp b
 exact (List.getElem_inj hN).mp (e1.trans e2.symm)
/-- a name is stored; what changed -/
theorem store_ok2 {M:Model} {A:Around} {E:Value→Shared→Prop} {i:Nat} {x:Str} {v:V} {u:Value} {Q:Unit→Shared→Prop} (I:Inv X pins σ H s) (hN:X.N.Nodup) (hi:X.N[i]?=some x) (hx:Loc X.env.scope x) (r:RelV v u)
  (h:∀ s',Inv X pins (σ.set i (some v)) H s'→(∃ a,Heap.SameBut a s.heap s'.heap∧(a=X.env.locals∨X.env.cells.lookup x=some a))→Q () s') (hf:X.fn x=true∨X.env.scope.names.lookup x=some .local:=by first | exact .inl rfl | exact .inr rfl | assumption):wpAny M A (storeName X.env x u) Q E s:=by
 obtain ⟨m,hn,hl⟩:=id I.loc
 have hcls:(X.env.scope.kind == .class || (X.env.scope.kind == .module && X.env.locals != X.env.globals))=false:=by rw [I.ok.kind];rfl
 have hiσ:i<σ.length:=by rw [I.len];exact (List.getElem?_eq_some_iff.mp hi).1
 have cne:=I.cne
 have tracked:∀ {a:Addr} {h':Heap},(∃ o,s.heap.get? a=some o∧H a=none)→Heap.SameBut a s.heap h'→HOk X.prog X.w H h':=fun {a h'} ha hs b ob e=>by
  obtain ⟨_,_,hfree⟩:=ha
  refine (I.hok b ob e).stay (fun c w' hc q=>(hs.2 c ?_).trans q) (fun _ q=>q) fun _ _ q=>q
  rintro rfl
  rcases hc with rfl | hc
  ·rw [hfree] at e;cases e
  ·rw [hfree] at hc;cases hc
 rcases hx with hk | hk
 ·refine wpAny_storeName_local hk hn (fun h' hn' hs=>?_) hcls
  obtain ⟨oL,_,_,hoL,_⟩:=id hn
  refine h _ ⟨I.ok,I.os,I.bare,⟨fun b o e n hb hx=>?_,fun b o e n hb hx=>?_,I.base.free,fun b o e hx=>?_,I.base.tups,I.base.frzs,I.base.tbls⟩,⟨_,hn',fun j y v' e1 e2 e3=>?_⟩,fun y c e=>?_,I.free,I.freeC,fun p hp=>?_,tracked ⟨oL,hoL,I.free⟩ hs,by simpa using I.len⟩ ⟨_,hs,.inl rfl⟩
  ·exact (hs.2 b (Nat.ne_of_lt (Nat.lt_of_lt_of_le (Heap.lt_size e) I.ok.above))).trans (I.base.keep b o e n hb hx)
  ·obtain ⟨sl,e1⟩:=I.base.slot b o e n hb hx
   exact ⟨sl,(hs.2 b (Nat.ne_of_lt (Nat.lt_of_lt_of_le (Heap.lt_size e) I.ok.above))).trans e1⟩
  ·obtain ⟨o',e1⟩:=I.base.there b o e hx
   exact ⟨o',(hs.2 b (Nat.ne_of_lt (Nat.lt_of_lt_of_le (Heap.lt_size e) I.ok.above))).trans e1⟩
  ·by_cases hj:j=i
   ·subst hj
    rw [hi] at e1;cases e1
    rw [List.getElem?_set_self hiσ] at e2
    cases e2
    exact ⟨u,r,.inl ⟨hk,by simp⟩⟩
   ·rw [List.getElem?_set_ne (Ne.symm hj)] at e2
    obtain ⟨u',r',q⟩:=hl j y v' e1 e2 e3
    refine ⟨u',r',?_⟩
    rcases q with ⟨k,e⟩ | ⟨k,c,e,z⟩
    ·refine .inl ⟨k,?_⟩
     have:y≠x:=fun e=>hj (nodup_ix hN e1 (e ▸ hi))
     simp [this,e]
    ·exact .inr ⟨k,c,e,z.sameBut hs (cne y c e)⟩
  ·obtain ⟨w',z⟩:=I.cell y c e
   exact ⟨w',z.sameBut hs (cne y c e)⟩
  ·obtain ⟨e,n,ne,nf,d⟩:=I.pin p hp
   exact ⟨(hs.2 p.1 ne).trans e,n,ne,nf,d⟩
 ·have hfn:X.fn x=true:=by
   rcases hf with z | z
   ·exact z
   ·rw [z] at hk;cases hk
  obtain ⟨c,hc⟩:=I.ok.has x (.inl hk)
  obtain ⟨w',z⟩:=I.cell x c hc
  refine wpAny_storeName_cell I.ok.kind hk hc z (fun h' hc' hs=>?_)
  obtain ⟨oc,hoc,hocd⟩:=id z
  refine h { s with heap:=h' } ⟨I.ok,I.os,I.bare,⟨fun b o e n hb hx=>?_,fun b o e n hb hx=>?_,I.base.free,fun b o e hx=>?_,I.base.tups,I.base.frzs,I.base.tbls⟩,⟨m,hn.sameBut hs (Ne.symm (cne x c hc)),fun j y v' e1 e2 e3=>?_⟩,fun y c' e=>?_,I.free,I.freeC,fun p hp=>?_,tracked ⟨oc,hoc,I.freeC x c hc⟩ hs,by simpa using I.len⟩ ⟨c,hs,.inr hc⟩
  ·exact (hs.2 b (Nat.ne_of_lt (Nat.lt_of_lt_of_le (Heap.lt_size e) (I.ok.cab x c hfn hc)))).trans (I.base.keep b o e n hb hx)
  ·obtain ⟨sl,e1⟩:=I.base.slot b o e n hb hx
   exact ⟨sl,(hs.2 b (Nat.ne_of_lt (Nat.lt_of_lt_of_le (Heap.lt_size e) (I.ok.cab x c hfn hc)))).trans e1⟩
  ·obtain ⟨o',e1⟩:=I.base.there b o e hx
   exact ⟨o',(hs.2 b (Nat.ne_of_lt (Nat.lt_of_lt_of_le (Heap.lt_size e) (I.ok.cab x c hfn hc)))).trans e1⟩
  ·by_cases hj:j=i
   ·subst hj
    rw [hi] at e1;cases e1
    rw [List.getElem?_set_self hiσ] at e2
    cases e2
    exact ⟨u,r,.inr ⟨.inl hk,c,hc,hc'⟩⟩
   ·rw [List.getElem?_set_ne (Ne.symm hj)] at e2
    obtain ⟨u',r',q⟩:=hl j y v' e1 e2 e3
    refine ⟨u',r',?_⟩
    rcases q with q | ⟨k,c',e,z'⟩
    ·exact .inl q
    ·refine .inr ⟨k,c',e,z'.sameBut hs ?_⟩
     rintro rfl
     exact hj (nodup_ix hN e1 (I.ok.inj _ _ _ e hc ▸ hi))
  ·by_cases hcc:c'=c
   ·subst hcc;exact ⟨_,hc'⟩
   ·obtain ⟨w2,z2⟩:=I.cell y c' e
    exact ⟨w2,z2.sameBut hs hcc⟩
  ·obtain ⟨e,n,ne,nf,d⟩:=I.pin p hp
   refine ⟨(hs.2 p.1 ?_).trans e,n,ne,nf,d⟩
   intro q
   rw [q,hoc] at e
   have q':oc=p.2:=Option.some.inj e
   exact d w' (by rw [←q'];exact hocd)
theorem store_ok {M:Model} {A:Around} {E:Value→Shared→Prop} {i:Nat} {x:Str} {v:V} {u:Value} {Q:Unit→Shared→Prop} (I:Inv X pins σ H s) (hN:X.N.Nodup) (hi:X.N[i]?=some x) (hx:Loc X.env.scope x) (r:RelV v u)
  (h:∀ s',Inv X pins (σ.set i (some v)) H s'→Q () s') (hf:X.fn x=true∨X.env.scope.names.lookup x=some .local:=by first | exact .inl rfl | exact .inr rfl | assumption):wpAny M A (storeName X.env x u) Q E s :=
 store_ok2 I hN hi hx r (fun s' I' _=>h s' I') hf
/-- behind a call or a block, the state as it is -/
theorem Inv.call' {s':Shared} {ch:List Addr} (I:Inv X pins σ H s) (ho:s'.os=s.os) (u:Un (frs X.stack) ch H H' s.heap s'.heap) (hok:HOk X.prog X.w H' s'.heap) (hg:AllBare s'.gens)
  (hch:∀ b∈ch,(b∈X.ex∨X.s₀.heap.objs.size≤b)∧b≠X.env.locals∧(∀ x c,X.env.cells.lookup x=some c→c≠b)∧∀ p∈X.pn++pins,p.1≠b):Inv X pins σ H' s':=by
 obtain ⟨h',g',d',t',o'⟩:=s'
 have e:o'=s.os:=ho
 subst e
 exact I.call (g':=g') (t':=t') (d':=d') u hok hg hch
end
/-- an exception: its class, its own dict's address (where it has one), the abstract heap behind it -/
abbrev XK:=Value→Option Addr→Hp→Prop
abbrev St:=List (Option V)
abbrev VK:=V→Hp→Prop
/-- an expression's reading; a test's; an argument list's -/
abbrev TE:=St→Hp→VK→Prop
abbrev TT:=St→Hp→(Bool→Hp→Prop)→Prop
abbrev TA:=St→Hp→(List V→Hp→Prop)→Prop
/-- what is wanted behind a statement -/
structure Ends where
 nx:St→Hp→Prop
 rt:VK
 bk:St→Hp→Prop:=fun _ _=>False
 ct:St→Hp→Prop:=fun _ _=>False
abbrev TS:=Ends→St→Hp→Prop
def EP (X:Cx) (pins:List (Addr×Obj)) (σ:St) (Q:VK) (u:Value) (s':Shared):Prop:=∃ v H',Inv X pins σ H' s'∧RelV v u∧Q v H'
def TP (X:Cx) (pins:List (Addr×Obj)) (σ:St) (Q:Bool→Hp→Prop) (b:Bool) (s':Shared):Prop:=∃ H',Inv X pins σ H' s'∧Q b H'
def AP (X:Cx) (pins:List (Addr×Obj)) (σ:St) (Q:List V→Hp→Prop) (us:List Value) (s':Shared):Prop:=∃ vs H',Inv X pins σ H' s'∧Vals vs us∧Q vs H'
def SP (X:Cx) (pins:List (Addr×Obj)) (D:Ends) (f:Flow) (s':Shared):Prop :=
 match f with
 | .next=>∃ σ' H',Inv X pins σ' H' s'∧D.nx σ' H'
 | .brk=>∃ σ' H',Inv X pins σ' H' s'∧D.bk σ' H'
 | .cont=>∃ σ' H',Inv X pins σ' H' s'∧D.ct σ' H'
 | .ret u=>∃ v σ' H',Inv X pins σ' H' s'∧RelV v u∧D.rt v H'
def PE (X:Cx) (e:Expr) (t:TE):Prop :=
 ∀ (pins:List (Addr×Obj)) (s:Shared) (σ:St) (H:Hp) (Q:VK),Inv X pins σ H s→t σ H Q→wpAny (model X.prog X.w) X.A (eval e X.env) (EP X pins σ Q) X.xe s
def PT (X:Cx) (e:Expr) (t:TT):Prop :=
 ∀ (pins:List (Addr×Obj)) (s:Shared) (σ:St) (H:Hp) (Q:Bool→Hp→Prop),Inv X pins σ H s→t σ H Q→wpAny (model X.prog X.w) X.A (isTrue e X.env (eval e X.env)) (TP X pins σ Q) X.xe s
/-- a test whatever its 'whole' is (and, or) -/
def PW (X:Cx) (e:Expr) (t:TT):Prop :=
 ∀ (whole:Sem Value) (pins:List (Addr×Obj)) (s:Shared) (σ:St) (H:Hp) (Q:Bool→Hp→Prop),Inv X pins σ H s→t σ H Q→wpAny (model X.prog X.w) X.A (isTrue e X.env whole) (TP X pins σ Q) X.xe s
theorem PW.pt {X:Cx} {e:Expr} {t:TT} (h:PW X e t):PT X e t:=h _
/-- an argument list (no star), from the left -/
def PA (X:Cx) (es:List Expr) (t:TA):Prop :=
 ∀ (pos:Pos) (pins:List (Addr×Obj)) (s:Shared) (σ:St) (H:Hp) (Q:List V→Hp→Prop),Inv X pins σ H s→t σ H Q→wpAny (model X.prog X.w) X.A (spliced (backTo pos (starEach es X.env))) (AP X pins σ Q) X.xe s
def PS (X:Cx) (st:Stmt) (t:TS):Prop :=
 ∀ (pins:List (Addr×Obj)) (s:Shared) (σ:St) (H:Hp) (D:Ends),Inv X pins σ H s→t D σ H→wpAny (model X.prog X.w) X.A (exec st X.env) (SP X pins D) X.xe s
def PSs (X:Cx) (st:List Stmt) (t:TS):Prop :=
 ∀ (pins:List (Addr×Obj)) (s:Shared) (σ:St) (H:Hp) (D:Ends),Inv X pins σ H s→t D σ H→wpAny (model X.prog X.w) X.A (execs st X.env) (SP X pins D) X.xe s
/-- weaken the end -/
theorem thn {α:Type} {t:Sem α} {Q Q':α→Shared→Prop} {M:Model} {A:Around} {E:Value→Shared→Prop} {s:Shared} (h:wpAny M A t Q E s) (hQ:∀ a s,Q a s→Q' a s):wpAny M A t Q' E s:=wpAny_mono h hQ fun _ _ x=>x
end L2
namespace L2
open PySem PySem.Spec PyProof.Rows
section
variable {X:Cx}
inductive tVar (i:Nat) (σ:St) (H:Hp) (Q:VK):Prop
 | mk:∀ v,(σ[i]?=some (some v))→(Q v H)→tVar i σ H Q
def tC (v:V):TE:=fun _ H Q=>Q v H
theorem pe_var {i:Nat} {x:Str} {pos:Pos} (hN:X.N[i]?=some x) (hv:Vis X.env.scope x) (hd:(x == ("__debug__" : Str))=false:=by decide) (hcd:(x == ("__classdict__" : Str))=false:=by decide):PE X (.Name x pos) (tVar i):=by
 intro pins s σ H Q I h
 obtain ⟨v,e,h⟩:=h
 obtain ⟨m,hn,hl⟩:=I.loc
 obtain ⟨u,r,l⟩:=hl i x v hN e hv
 have fin:EP X pins σ Q u s:=⟨v,H,I,r,h⟩
 rcases l with ⟨hk,hm⟩ | ⟨hk,c,hc,hcell⟩
 ·exact wpAny_Name (wpAny_loadName_local I.ok.kind hk hn hm fin) hd
 ·rcases hk with hk | hk
  ·exact wpAny_Name (wpAny_loadName_cell I.ok.kind hk hc hcell fin) hd
  ·exact wpAny_Name (wpAny_loadName_free I.ok.kind hk hc hcell fin hcd) hd
theorem pe_int {i j pos}:PE X (.Constant (.int i) j pos) (tC (.int i)):=fun _ _ _ H _ I h=>wpAny_Constant_int ⟨.int i,H,I.tok _,⟨_,rfl⟩,h⟩
theorem pe_bl {b j pos}:PE X (.Constant (.bool b) j pos) (tC (.bl b)):=fun _ _ _ H _ I h=>Constant_bool ⟨.bl b,H,I,rfl,h⟩
theorem pe_non {j pos}:PE X (.Constant .none j pos) (tC .non):=fun _ _ _ H _ I h=>Constant_none ⟨.non,H,I,rfl,h⟩
theorem pe_str {x j pos}:PE X (.Constant (.str x) j pos) (tC (.str x)):=fun _ _ _ H _ I h=>Calls.Constant_str ⟨.str x,H,I.tok _,⟨_,rfl⟩,h⟩
/-- a global name of the def -/
def Gl (X:Cx) (x:Str):Prop:=X.env.kindOf x=some .globalImplicit
theorem ld_glob {E:Value→Shared→Prop} {pins:List (Addr×Obj)} {s:Shared} {σ:St} {H:Hp} {x:Str} {u:Value} {pos:Pos} {Q:Value→Shared→Prop} (I:Inv X pins σ H s) (hg:Gl X x) (hm:X.mg x=some u) (h:Q u s)
  (hd:(x == ("__debug__" : Str))=false:=by decide):wpAny (model X.prog X.w) X.A (eval (.Name x pos) X.env) Q E s :=
 Calls.Name_function_global I.ok.kind hg (Calls.loadGlobal_global (by rw [I.ok.glob];exact I.mod.glob.keeps I.bk) hm h) hd
theorem ld_blt {E:Value→Shared→Prop} {pins:List (Addr×Obj)} {s:Shared} {σ:St} {H:Hp} {x:Str} {u:Value} {pos:Pos} {Q:Value→Shared→Prop} (I:Inv X pins σ H s) (hg:Gl X x) (hm:X.mg x=none) (hv:bootBuiltins x=some u) (h:Q u s)
  (hn:x≠"__name__":=by decide) (hd:(x == ("__debug__" : Str))=false:=by decide):wpAny (model X.prog X.w) X.A (eval (.Name x pos) X.env) Q E s:=by
 obtain ⟨mb,h1,h2⟩:=I.mod.blt
 exact Calls.Name_function_global I.ok.kind hg (Calls.loadGlobal_builtin (by rw [I.ok.glob];exact I.mod.glob.keeps I.bk) hm (by rw [I.ok.blt];exact h1.keeps I.bk) ((h2 x hn).trans hv) h) hd
/-- a module's constant, a class, a function, as a value -/
theorem pe_glob {x:Str} {v:V} {u:Value} {pos:Pos} (hg:Gl X x) (hm:X.mg x=some u) (r:RelV v u) (hd:(x == ("__debug__" : Str))=false:=by decide):PE X (.Name x pos) (tC v) :=
 fun _ _ _ H _ I h=>ld_glob I hg hm ⟨v,H,I,r,h⟩ hd
theorem pe_bltn {x:Str} {v:V} {u:Value} {pos:Pos} (hg:Gl X x) (hm:X.mg x=none) (hv:bootBuiltins x=some u) (r:RelV v u) (hn:x≠"__name__":=by decide) (hd:(x == ("__debug__" : Str))=false:=by decide):PE X (.Name x pos) (tC v) :=
 fun _ _ _ H _ I h=>ld_blt I hg hm hv ⟨v,H,I,r,h⟩ hn hd
variable {a b:Expr} {ta tb:TE} {pos:Pos}
/-- a comparison as a value, as a test -/
inductive tBY (Q:Bool→Hp→Prop) (x:V) (H1:Hp):Prop
 | mk:∀ c,(x=.bl c)→(Q c H1)→tBY Q x H1
def tB (t:TE):TT:=fun σ H Q=>t σ H fun x H1=>tBY Q x H1
/-- an expression whose value is a bool, as a test -/
theorem pt_val {e:Expr} {t:TE} (h:PE X e t) (he:∀ whole,isTrue e X.env whole=(do let v ←whole;standAt e.pos;holding [v] (truthy v)):=by intro _;rfl):PT X e (tB t):=by
 intro pins s σ H Q I hw
 refine isTrue_plain (thn (h pins s σ H _ I hw) fun v s1 ⟨x,H1,I1,r1,q1⟩=>?_) (he _)
 obtain ⟨d,rfl,q⟩:=q1
 cases r1
 exact wpAny_truthy_bool ⟨H1,I1,q⟩
variable {tA tB':TT} {rest:List Expr}
def tAnd (t u:TT):TT:=fun σ H Q=>t σ H fun c H1=>if c=true then u σ H1 Q else Q false H1
def tOr (t u:TT):TT:=fun σ H Q=>t σ H fun c H1=>if c=true then Q true H1 else u σ H1 Q
def tNot (t:TT):TT:=fun σ H Q=>t σ H fun c H1=>Q (!c) H1
theorem pw_and1 (ha:PT X a tA):PW X (.BoolOp .And [a] pos) tA:=by
 intro wh pins s σ H Q I h
 refine isTrue_and (thn (ha pins s σ H Q I h) fun c s1 e=>?_)
 cases c with
 | true=>exact isTrue_and_nil e
 | false=>exact e
theorem pw_or1 (ha:PT X a tA):PW X (.BoolOp .Or [a] pos) tA:=by
 intro wh pins s σ H Q I h
 refine isTrue_or (thn (ha pins s σ H Q I h) fun c s1 e=>?_)
 cases c with
 | false=>exact isTrue_or_nil e
 | true=>exact e
theorem pw_and (ha:PT X a tA) (hb:PW X (.BoolOp .And (b::rest) pos) tB'):PW X (.BoolOp .And (a::b::rest) pos) (tAnd tA tB'):=by
 intro wh pins s σ H Q I h
 refine isTrue_and (thn (ha pins s σ H _ I h) fun c s1 ⟨H1,I1,q1⟩=>?_)
 cases c with
 | true=>exact hb wh pins s1 σ H1 Q I1 q1
 | false=>exact ⟨H1,I1,q1⟩
theorem pw_or (ha:PT X a tA) (hb:PW X (.BoolOp .Or (b::rest) pos) tB'):PW X (.BoolOp .Or (a::b::rest) pos) (tOr tA tB'):=by
 intro wh pins s σ H Q I h
 refine isTrue_or (thn (ha pins s σ H _ I h) fun c s1 ⟨H1,I1,q1⟩=>?_)
 cases c with
 | true=>exact ⟨H1,I1,q1⟩
 | false=>exact hb wh pins s1 σ H1 Q I1 q1
theorem pt_not (ha:PT X a tA):PT X (.UnaryOp .Not a pos) (tNot tA):=by
 intro pins s σ H Q I h
 exact isTrue_not (ha pins s σ H (fun c H1=>Q (!c) H1) I h)
/-- .. as values (bools) -/
inductive tAndVY (tb:TE) (σ:St) (Q:VK) (x:V) (H1:Hp):Prop
 | mk:∀ c,(x=.bl c)→(if c=true then tb σ H1 Q else Q (.bl false) H1)→tAndVY tb σ Q x H1
def tAndV (ta tb:TE):TE:=fun σ H Q=>ta σ H fun x H1=>tAndVY tb σ Q x H1
inductive tOrVY (tb:TE) (σ:St) (Q:VK) (x:V) (H1:Hp):Prop
 | mk:∀ c,(x=.bl c)→(if c=true then Q (.bl true) H1 else tb σ H1 Q)→tOrVY tb σ Q x H1
def tOrV (ta tb:TE):TE:=fun σ H Q=>ta σ H fun x H1=>tOrVY tb σ Q x H1
inductive tNotVY (Q:VK) (x:V) (H1:Hp):Prop
 | mk:∀ c,(x=.bl c)→(Q (.bl (!c)) H1)→tNotVY Q x H1
def tNotV (ta:TE):TE:=fun σ H Q=>ta σ H fun x H1=>tNotVY Q x H1
theorem pe_one {op} {t:TE} (h:PE X a t):PE X (.BoolOp op [a] pos) t:=fun pins s σ H Q I hw=>BoolOp_one (h pins s σ H Q I hw)
theorem pe_and (ha:PE X a ta) (hb:PE X (.BoolOp .And (b::rest) pos) tb):PE X (.BoolOp .And (a::b::rest) pos) (tAndV ta tb):=by
 intro pins s σ H Q I h
 refine BoolOp_and (thn (ha pins s σ H _ I h) fun v s1 ⟨x,H1,I1,r1,q1⟩=>?_)
 obtain ⟨c,rfl,q1⟩:=q1
 cases r1
 refine wpAny_truthy_bool ?_
 cases c with
 | true=>exact hb pins s1 σ H1 Q I1 q1
 | false=>exact ⟨.bl false,H1,I1,rfl,q1⟩
theorem pe_or (ha:PE X a ta) (hb:PE X (.BoolOp .Or (b::rest) pos) tb):PE X (.BoolOp .Or (a::b::rest) pos) (tOrV ta tb):=by
 intro pins s σ H Q I h
 refine BoolOp_or (thn (ha pins s σ H _ I h) fun v s1 ⟨x,H1,I1,r1,q1⟩=>?_)
 obtain ⟨c,rfl,q1⟩:=q1
 cases r1
 refine wpAny_truthy_bool ?_
 cases c with
 | false=>exact hb pins s1 σ H1 Q I1 q1
 | true=>exact ⟨.bl true,H1,I1,rfl,q1⟩
theorem pe_not (ha:PE X a ta):PE X (.UnaryOp .Not a pos) (tNotV ta):=by
 intro pins s σ H Q I h
 refine UnaryOp_ (thn (ha pins s σ H _ I h) fun v s1 ⟨x,H1,I1,r1,q1⟩=>?_)
 obtain ⟨c,rfl,q1⟩:=q1
 cases r1
 exact not_of (wpAny_truthy_bool ⟨.bl (!c),H1,I1,rfl,q1⟩)
/-- a if t else b -/
def tIf (t:TT) (ta tb:TE):TE:=fun σ H Q=>t σ H fun c H1=>if c=true then ta σ H1 Q else tb σ H1 Q
theorem pe_ifExp {c:Expr} (hc:PT X c tA) (ha:PE X a ta) (hb:PE X b tb):PE X (.IfExp c a b pos) (tIf tA ta tb):=by
 intro pins s σ H Q I h
 refine wpAny_IfExp (thn (hc pins s σ H _ I h) fun d s1 ⟨H1,I1,q1⟩=>?_)
 cases d with
 | true=>exact ha pins s1 σ H1 Q I1 q1
 | false=>exact hb pins s1 σ H1 Q I1 q1
end
end L2
namespace L2
open PySem PySem.Spec PyProof.Rows
def SqL (K:PySem.W.Frag) (H:Hp) (a:Addr) (xs:List V):Prop :=
 Rd H a (.lst xs) ∨
  ∃ (o:Obj) (its:Array Value) (n:Nat),K.lookup a=some o∧o.cls=.type "list"∧o.dict=none∧o.data=.seq its n∧its.size≤sizeLine∧Vals xs its.toList
def SqT (K:PySem.W.Frag) (H:Hp) (a:Addr) (xs:List V):Prop :=
 Rd H a (.tup xs) ∨
  ∃ (o:Obj) (its:Array Value) (n:Nat),K.lookup a=some o∧o.cls=.type "tuple"∧o.data=.seq its n∧its.size≤sizeLine∧Vals xs its.toList
def absV:Value→Option V
 | .none=>some .non
 | .bool b=>some (.bl b)
 | .int i _=>some (.int i)
 | .str x _=>some (.str x)
 | .bytes b _=>some (.byt b)
 | .float b _=>some (.flt b)
 | .ref a=>some (.ref a)
 | .type n=>some (.ty n)
 | _=>none
theorem RelV.abs {x:V} {u:Value} (r:RelV x u):absV u=some x:=by
 cases x with
 | non=>cases r;rfl
 | bl _=>cases r;rfl
 | int _=>obtain ⟨t,rfl⟩:=r;rfl
 | str _=>obtain ⟨t,rfl⟩:=r;rfl
 | byt _=>obtain ⟨t,rfl⟩:=r;rfl
 | flt _=>obtain ⟨t,rfl⟩:=r;rfl
 | ref _=>cases r;rfl
 | ty _=>cases r;rfl
theorem RelV.inj {x y:V} {u:Value} (r:RelV x u) (q:RelV y u):x=y:=Option.some.inj (r.abs.symm.trans q.abs)
theorem Vals.inj:∀ {xs ys:List V} {us:List Value},Vals xs us→Vals ys us→xs=ys
 | _,_,_,.nil,.nil=>rfl
 | _,_,_,.cons r t,.cons r' t'=>by rw [r.inj r',Vals.inj t t']
section
variable {X:Cx} {pins:List (Addr×Obj)} {σ:St} {H:Hp} {s:Shared} {a:Addr} {xs ys:List V}
theorem SqL.of {K:PySem.W.Frag} (h:H a=some (.lst xs)):SqL K H a xs:=.inl (.inl h)
theorem SqT.of {K:PySem.W.Frag} (h:H a=some (.tup xs)):SqT K H a xs:=.inl (.inl h)
theorem Inv.list (I:Inv X pins σ H s) (h:SqL X.K H a xs):∃ its:List Value,Vals xs its∧PlainL s.heap a its.toArray∧xs.length≤sizeLine:=by
 rcases h with h | ⟨o,its,n,hk,hc,hd,hs,hz,r⟩
 ·obtain ⟨z,its,n,r,e⟩:=h.ok I.hok
  exact ⟨its,r,⟨_,n,e,rfl,rfl,rfl⟩,z⟩
 ·refine ⟨its.toList,r,⟨o,n,I.kIn a o hk,hc,hd,by simpa using hs⟩,?_⟩
  have e:=r.length
  simp only [Array.length_toList] at e
  omega
theorem Inv.tuple (I:Inv X pins σ H s) (h:SqT X.K H a xs):∃ its:List Value,Vals xs its∧IsTup s.heap a its.toArray∧xs.length≤sizeLine:=by
 rcases h with h | ⟨o,its,n,hk,hc,hs,hz,r⟩
 ·obtain ⟨z,its,r,p⟩:=h.ok I.hok
  exact ⟨its,r,p.isTup,z⟩
 ·refine ⟨its.toList,r,⟨o,I.kIn a o hk,hc,n,by simpa using hs⟩,?_⟩
  have e:=r.length
  simp only [Array.length_toList] at e
  omega
theorem Inv.list_inj (I:Inv X pins σ H s) (h:SqL X.K H a xs) (h':SqL X.K H a ys):xs=ys:=by
 obtain ⟨its,r,⟨o,n,e,_,_,d⟩,_⟩:=I.list h
 obtain ⟨its',r',⟨o',n',e',_,_,d'⟩,_⟩:=I.list h'
 rw [e] at e';cases e'
 rw [d] at d'
 injection d' with d1 _
 have:its=its':=by simpa using congrArg Array.toList d1
 subst this
 exact r.inj r'
theorem Inv.tuple_inj (I:Inv X pins σ H s) (h:SqT X.K H a xs) (h':SqT X.K H a ys):xs=ys:=by
 obtain ⟨its,r,⟨o,e,_,n,d⟩,_⟩:=I.tuple h
 obtain ⟨its',r',⟨o',e',_,n',d'⟩,_⟩:=I.tuple h'
 rw [e] at e';cases e'
 rw [d] at d'
 injection d' with d1 _
 have:its=its':=by simpa using congrArg Array.toList d1
 subst this
 exact r.inj r'
end
abbrev Cx.wish (X:Cx) (E:Value→Shared→Prop):Cx:={ X with xe:=E }
/-- no exception leaves -/
abbrev Cx.nox (X:Cx):Cx:=X.wish fun _ _=>False
theorem Cx.Ok.wish {X:Cx} (ok:X.Ok) (E:Value→Shared→Prop):(X.wish E).Ok :=
 ⟨ok.mod,ok.kind,ok.glob,ok.blt,ok.above,ok.inj,ok.has,ok.cab,ok.hd,ok.frames,ok.stk,ok.exf,ok.bs,ok.bsz,ok.noex,ok.exfs,ok.funs,ok.frf⟩
theorem Cx.Ok.unwish {X:Cx} {E:Value→Shared→Prop} (ok:(X.wish E).Ok):X.Ok :=
 ⟨ok.mod,ok.kind,ok.glob,ok.blt,ok.above,ok.inj,ok.has,ok.cab,ok.hd,ok.frames,ok.stk,ok.exf,ok.bs,ok.bsz,ok.noex,ok.exfs,ok.funs,ok.frf⟩
section
variable {X:Cx} {pins:List (Addr×Obj)} {σ:St} {H:Hp} {s:Shared} {E:Value→Shared→Prop}
theorem Inv.wish (I:Inv X pins σ H s) (E:Value→Shared→Prop):Inv (X.wish E) pins σ H s:=⟨I.ok.wish E,I.os,I.bare,I.base,I.loc,I.cell,I.free,I.freeC,I.pin,I.hok,I.len⟩
theorem Inv.unwish (I:Inv (X.wish E) pins σ H s):Inv X pins σ H s:=⟨I.ok.unwish,I.os,I.bare,I.base,I.loc,I.cell,I.free,I.freeC,I.pin,I.hok,I.len⟩
theorem SP.unwish {D:Ends} {f:Flow} {s':Shared} (h:SP (X.wish E) pins D f s'):SP X pins D f s':=by
 cases f with
 | next=>obtain ⟨σ',H',I,q⟩:=h;exact ⟨σ',H',I.unwish,q⟩
 | brk=>obtain ⟨σ',H',I,q⟩:=h;exact ⟨σ',H',I.unwish,q⟩
 | cont=>obtain ⟨σ',H',I,q⟩:=h;exact ⟨σ',H',I.unwish,q⟩
 | ret u=>obtain ⟨v,σ',H',I,r,q⟩:=h;exact ⟨v,σ',H',I.unwish,r,q⟩
theorem PE.nox {e:Expr} {t:TE} (h:PE X.nox e t):PE X e t:=fun pins s σ H Q I hw =>
 wpAny_mono (h pins s σ H Q (I.wish _) hw) (fun _ _ ⟨v,H',I',r,q⟩=>⟨v,H',I'.unwish,r,q⟩) fun _ _ z=>False.elim z
theorem PT.nox {e:Expr} {t:TT} (h:PT X.nox e t):PT X e t:=fun pins s σ H Q I hw =>
 wpAny_mono (h pins s σ H Q (I.wish _) hw) (fun _ _ ⟨H',I',q⟩=>⟨H',I'.unwish,q⟩) fun _ _ z=>False.elim z
theorem PSs.nox {st:List Stmt} {t:TS} (h:PSs X.nox st t):PSs X st t:=fun pins s σ H D I hw =>
 wpAny_mono (h pins s σ H D (I.wish _) hw) (fun _ _ q=>q.unwish) fun _ _ z=>False.elim z
end
section
variable {X:Cx} {st:Stmt} {rest:List Stmt} {t u:TS} {e:Expr} {te:TE} {pos:Pos}
def tNext:TS:=fun D σ H=>D.nx σ H
def tSeq (t u:TS):TS:=fun D σ H=>t { D with nx:=u D } σ H
theorem pss_nil:PSs X [] tNext:=fun _ _ σ H _ I h=>wpAny_execs_nil ⟨σ,H,I,h⟩
theorem pss_cons (h1:PS X st t) (h2:PSs X rest u):PSs X (st::rest) (tSeq t u):=by
 intro pins s σ H D I h
 refine wpAny_execs_cons (thn (h1 pins s σ H { D with nx:=u D } I h) fun f s1 q=>?_)
 cases f with
 | next =>
  obtain ⟨σ',H',I',q⟩:=q
  exact h2 pins s1 σ' H' D I' q
 | ret v=>exact q
 | brk=>exact q
 | cont=>exact q
theorem pss_one (h1:PS X st t):PSs X [st] t:=by
 intro pins s σ H D I h
 refine wpAny_execs_cons (thn (h1 pins s σ H D I h) fun f s1 q=>?_)
 cases f with
 | next=>exact wpAny_execs_nil q
 | ret v=>exact q
 | brk=>exact q
 | cont=>exact q
/-- in a def's body nothing is shown -/
theorem Inv.quiet {pins:List (Addr×Obj)} {σ:St} {H:Hp} {s:Shared} (I:Inv X pins σ H s):interactive X.env=false:=by simp [interactive,I.ok.kind]
/-- an expression whose value is dropped -/
def tDrop (te:TE):TS:=fun D σ H=>te σ H fun _ H1=>D.nx σ H1
theorem ps_expr (he:PE X e te) (hs:swapsWith e none pos.line X.env=pure false:=by rfl):PS X (.Expr e pos) (tDrop te):=by
 intro pins s σ H D I h
 exact wpAny_Expr_any (thn (he pins s σ H _ I h) fun v s1 ⟨x,H1,I1,r1,q1⟩=>⟨σ,H1,I1,q1⟩) I.quiet hs
def tRet (te:TE):TS:=fun D σ H=>te σ H D.rt
theorem ps_ret (he:PE X e te):PS X (.Return (some e) pos) (tRet te):=by
 intro pins s σ H D I h
 exact wpAny_Return_some (thn (he pins s σ H _ I h) fun v s1 ⟨x,H1,I1,r1,q1⟩=>⟨x,σ,H1,I1,r1,q1⟩)
def tIfS (c:TT) (t u:TS):TS:=fun D σ H=>c σ H fun b H1=>if b=true then t D σ H1 else u D σ H1
theorem ps_if {c:Expr} {a b:List Stmt} {tc:TT} (hc:PT X c tc) (ha:PSs X a t) (hb:PSs X b u):PS X (.If c a b pos) (tIfS tc t u):=by
 intro pins s σ H D I h
 refine wpAny_If (thn (hc pins s σ H _ I h) fun d s1 ⟨H1,I1,q1⟩=>?_)
 cases d with
 | true=>exact ha pins s1 σ H1 D I1 q1
 | false=>exact hb pins s1 σ H1 D I1 q1
end
abbrev TG:=V→St→Hp→(St→Hp→Prop)→Prop
abbrev TGs:=List V→St→Hp→(St→Hp→Prop)→Prop
def PG (X:Cx) (target:Expr) (t:TG):Prop :=
 ∀ (pins:List (Addr×Obj)) (s:Shared) (σ:St) (H:Hp) (v:V) (u:Value) (Q:St→Hp→Prop),Inv X pins σ H s→RelV v u→t v σ H Q →
  wpAny (model X.prog X.w) X.A (assign target X.env u) (fun _ s'=>∃ σ' H',Inv X pins σ' H' s'∧Q σ' H') X.xe s
/-- several targets, one after another -/
def PGs (X:Cx) (ts:List Expr) (t:TGs):Prop :=
 ∀ (pins:List (Addr×Obj)) (s:Shared) (σ:St) (H:Hp) (vs:List V) (us:List Value) (Q:St→Hp→Prop),Inv X pins σ H s→Vals vs us→t vs σ H Q →
  wpAny (model X.prog X.w) X.A (assignInOrder ((assignEach ts X.env).map (·.2)) us) (fun _ s'=>∃ σ' H',Inv X pins σ' H' s'∧Q σ' H') X.xe s
/-- o[i] = v, by values -/
abbrev TSet:=V→V→V→Hp→(Hp→Prop)→Prop
def PSet (X:Cx) (t:TSet):Prop :=
 ∀ (pins:List (Addr×Obj)) (s:Shared) (σ:St) (H:Hp) (o i v:V) (ov iv u:Value) (Q:Hp→Prop),Inv X pins σ H s→RelV o ov→RelV i iv→RelV v u→t o i v H Q →
  wpAny (model X.prog X.w) X.A (setItem ov iv u) (fun _ s'=>∃ H',Inv X pins σ H' s'∧Q H') X.xe s
section
variable {X:Cx} {pos:Pos}
def gName (i:Nat):TG:=fun v σ H Q=>Q (σ.set i (some v)) H
theorem pg_name {i:Nat} {x:Str} (hN:X.N.Nodup) (hi:X.N[i]?=some x) (hx:Loc X.env.scope x) (hf:X.fn x=true∨X.env.scope.names.lookup x=some .local:=by first | exact .inl rfl | exact .inr rfl | assumption):PG X (.Name x pos) (gName i):=by
 intro pins s σ H v u Q I r h
 exact wpAny_assign_Name (store_ok I hN hi hx r (fun s' I'=>⟨_,H,I',h⟩) hf)
inductive gNil (vs:List V) (σ:St) (H:Hp) (Q:St→Hp→Prop):Prop
 | mk:(vs=[])→(Q σ H)→gNil vs σ H Q
inductive gCons (t:TG) (u:TGs) (vs:List V) (σ:St) (H:Hp) (Q:St→Hp→Prop):Prop
 | mk:∀ v r,(vs=v::r)→(t v σ H fun σ' H'=>u r σ' H' Q)→gCons t u vs σ H Q
theorem pgs_nil:PGs X [] gNil:=by
 intro pins s σ H vs us Q I r h
 obtain ⟨e,h⟩:=h
 subst e
 cases r
 exact assignInOrder_nil ⟨σ,H,I,h⟩
theorem pgs_cons {e:Expr} {es:List Expr} {t:TG} {u:TGs} (h1:PG X e t) (h2:PGs X es u)
  (hs:(assignEach (e::es) X.env).map (·.2)=assign e X.env::(assignEach es X.env).map (·.2):=by rfl):PGs X (e::es) (gCons t u):=by
 intro pins s σ H vs us Q I r h
 obtain ⟨v,vr,e1,h⟩:=h
 subst e1
 cases r with
 | cons r rr =>
  rw [hs]
  refine assignInOrder_cons (thn (h1 pins s σ H _ _ _ I r h) fun _ s1 ⟨σ1,H1,I1,q1⟩=>?_)
  exact h2 pins s1 σ1 H1 _ _ Q I1 rr q1
/-- (a, b, ..) = a tuple of that length -/
inductive gTup (K:PySem.W.Frag) (n:Nat) (t:TGs) (v:V) (σ:St) (H:Hp) (Q:St→Hp→Prop):Prop
 | mk:∀ a xs,(v=.ref a)→(SqT K H a xs)→(xs.length=n)→(t xs σ H Q)→gTup K n t v σ H Q
theorem pg_tup {es:List Expr} {k:Nat} {t:TGs} {n:Nat} (hc:X.calm=true) (h:PGs X es t)
  (hn:(assignEach es X.env).length=n:=by rfl) (hst:(assignEach es X.env).findIdx? (·.1)=none:=by rfl):PG X (.Tuple es k pos) (gTup X.K n t):=by
 intro pins s σ H v u Q I r hw
 obtain ⟨a,xs,e1,hq,hl,hw⟩:=hw
 subst e1
 cases r
 obtain ⟨its,rv,ht,hz⟩:=I.tuple hq
 refine assign_Tuple_tuple (I.ok.hd hc) ht (by simp [hn,←hl,rv.length]) hst fun h' hx=>?_
 have I1:Inv X pins σ H { s with heap:=h' }:=I.kept (t':=s.toks) fun b o e=>hx b o (Nat.ne_of_lt (Heap.lt_size e)) e
 exact h pins _ σ H xs _ Q I1 (by simpa using rv) hw
/-- o[i] = .. -/
def gSub (to ti:TE) (t:TSet):TG:=fun v σ H Q=>to σ H fun o H1=>ti σ H1 fun i H2=>t o i v H2 fun H3=>Q σ H3
theorem pg_sub {o i:Expr} {to ti:TE} {t:TSet} (ho:PE X o to) (hi:PE X i ti) (hs:PSet X t)
  (ha:∀ v,assign (.Subscript o i pos) X.env v=(do
   let ov ←holding [v] (eval o X.env)
   let iv ←holding [v,ov] (eval i X.env)
   standAt pos
   holding [v,ov,iv] (setItem ov iv v)
   release [v,ov,iv] []):=by intro _;rfl):PG X (.Subscript o i pos) (gSub to ti t):=by
 intro pins s σ H v u Q I r h
 rw [ha]
 refine wpAny_bind (wpAny_holding (thn (ho pins s σ H _ I h) fun ov s1 ⟨x,H1,I1,r1,q1⟩=>?_))
 refine wpAny_bind (wpAny_holding (thn (hi pins s1 σ H1 _ I1 q1) fun iv s2 ⟨y,H2,I2,r2,q2⟩=>?_))
 refine wpAny_bind (wpAny_standAt (wpAny_bind (wpAny_holding (thn (hs pins s2 σ H2 x y v ov iv u _ I2 r1 r2 r q2) fun _ s3 ⟨H3,I3,q3⟩=>?_))))
 exact wpAny_release ⟨σ,H3,I3,q3⟩
/-- target = value -/
def tAsg (te:TE) (g:TG):TS:=fun D σ H=>te σ H fun x H1=>g x σ H1 D.nx
theorem ps_asg {tg e:Expr} {te:TE} {g:TG} (he:PE X e te) (hg:PG X tg g) (hs:swapsWithSole [tg] e pos.line X.env=pure false:=by rfl) (hw:swappedStores [tg] e X.env=pure none:=by rfl)
  (h1:(assignEach [tg] X.env).map (·.2)=[assign tg X.env]:=by rfl):PS X (.Assign [tg] e pos) (tAsg te g):=by
 intro pins s σ H D I h
 refine wpAny_Assign_stores (thn (he pins s σ H _ I h) fun v s1 ⟨x,H1,I1,r1,q1⟩=>?_) hs hw
 rw [h1]
 exact thn (hg pins s1 σ H1 x v _ I1 r1 q1) fun _ s2 q=>q
/-- name = value -/
theorem ps_set {i:Nat} {x:Str} {e:Expr} {te:TE} {pos':Pos} (hN:X.N.Nodup) (hi:X.N[i]?=some x) (hx:Loc X.env.scope x) (he:PE X e te) (hs:swapsWith e (some (.Name x pos')) pos.line X.env=pure false:=by rfl) (hf:X.fn x=true∨X.env.scope.names.lookup x=some .local:=by first | exact .inl rfl | exact .inr rfl | assumption) :
  PS X (.Assign [.Name x pos'] e pos) (tAsg te (gName i)):=by
 intro pins s σ H D I h
 refine wpAny_Assign_Name (thn (he pins s σ H _ I h) fun v s1 ⟨y,H1,I1,r1,q1⟩=>?_) hs
 exact store_ok I1 hN hi hx r1 (fun s2 I2=>⟨_,H1,I2,q1⟩) hf
/-- a, b = x, y with plain local names: stored from the right; the pair itself is not tracked (the opening rows as in PyProof/Rows/TupAssign.lean:23) -/
inductive tParY (i:Nat) (j:Nat) (D:Ends) (σ:St) (vs:List V) (H1:Hp):Prop
 | mk:∀ v w,(vs=[v,w])→(D.nx ((σ.set i (some v)).set j (some w)) H1)→tParY i j D σ vs H1
def tPar (i j:Nat) (ta:TA):TS:=fun D σ H=>ta σ H fun vs H1=>tParY i j D σ vs H1
theorem ps_par {i j:Nat} {x y:Str} {a b:Expr} {ta:TA} {px py pt:Pos} {kt k2 pt2} (hc:X.calm=true) (hN:X.N.Nodup) (hi:X.N[i]?=some x) (hj:X.N[j]?=some y) (hij:i≠j)
  (hx:X.env.scope.names.lookup x=some .local) (hy:X.env.scope.names.lookup y=some .local) (ha:PA X [a,b] ta)
  (hw:swappedStores [.Tuple [.Name x px,.Name y py] kt pt] (.Tuple [a,b] k2 pt2) X.env=pure (some [x,y]))
  (hs:swapsWithSole [.Tuple [.Name x px,.Name y py] kt pt] (.Tuple [a,b] k2 pt2) pos.line X.env=pure false:=by rfl) :
  PS X (.Assign [.Tuple [.Name x px,.Name y py] kt pt] (.Tuple [a,b] k2 pt2) pos) (tPar i j ta):=by
 intro pins s σ H D I h
 rw [exec_Assign_arm]
 refine wpAny_bind (wpAny_standAt ?_)
 rw [hs]
 refine wpAny_bind (wpAny_pure ?_)
 rw [if_neg (by decide)]
 refine wpAny_bind (Tuple_ (thn (ha _ pins s σ H _ I h) fun us s1 ⟨vs,H1,I1,r1,q1⟩=>?_))
 obtain ⟨v,w,e1,q1⟩:=q1
 subst e1
 obtain ⟨u1,u2,rfl,rv,rw'⟩ : ∃ u1 u2,us=[u1,u2]∧RelV v u1∧RelV w u2:=by
  cases r1 with
  | cons p q =>
   cases q with
   | cons p' q' =>
    cases q'
    exact ⟨_,_,rfl,p,p'⟩
 refine wpAny_newObj_type ?_ (by show 2≤sizeLine;decide)
 have I2:Inv X pins σ H1 { s1 with heap:=s1.heap.push { cls:=.type "tuple",data:=.seq [u1,u2].toArray } }:=I1.kept (t':=s1.toks) fun b o e=>Heap.get?_push_of_some _ e
 rw [hw]
 refine wpAny_bind (wpAny_pure ?_)
 show wpAny (model X.prog X.w) X.A (do rule "assign.swapped-stores";let items ←unpackItems (.ref s1.heap.objs.size) 2 none;assignInOrder [fun v=>bindName X.env y v,fun v=>bindName X.env x v] items.reverse;pure Flow.next) _ _ _
 refine wpAny_bind (wpAny_rule (wpAny_bind (unpackItems_tuple (items:=#[u1,u2]) (I.ok.hd hc) (IsTup.new s1.heap _) fun h' hx'=>?_)))
 have I3:=I2.kept (h':=h') (t':=s1.toks) fun b o e=>hx' b o (Nat.ne_of_lt (Heap.lt_size e)) e
 show wpAny _ _ (assignInOrder [fun v=>bindName X.env y v,fun v=>bindName X.env x v] [u2,u1] >>= fun _=>pure Flow.next) _ _ _
 refine wpAny_bind (assignInOrder_cons (wpAny_bindName (store_ok I3 hN hj (.inl hy) rw' (fun s2 I4=>?_) (.inr hy))))
 refine assignInOrder_cons (wpAny_bindName (store_ok I4 hN hi (.inl hx) rv (fun s3 I5=>assignInOrder_nil (wpAny_pure ?_)) (.inr hx)))
 rw [List.set_comm _ _ (Ne.symm hij)] at I5
 exact ⟨_,H1,I5,q1⟩
end
section
variable {X:Cx} {pos:Pos}
/-- the invariant W with its measure -/
def tWhile (c:TT) (tb:TS):TS:=fun D σ H=>∃ W:Nat→St→Hp→Prop,(∃ m,W m σ H)∧∀ m σ H,W m σ H →
 c σ H fun b H1=>if b=true then ∃ N:St→Hp→Prop,(∀ σ' H',N σ' H'→∃ m',m'<m∧W m' σ' H')∧tb { D with nx:=N,ct:=N,bk:=D.nx } σ H1 else D.nx σ H1
theorem ps_while {c:Expr} {body:List Stmt} {tc:TT} {tb:TS} (hp:PassesOwn (model X.prog X.w) X.A X.env X.xe) (hc:PT X c tc) (hb:PSs X body tb):PS X (.While c body [] pos) (tWhile tc tb):=by
 intro pins s σ H D I h
 obtain ⟨W,⟨m0,w0⟩,turn⟩:=h
 refine wpAny_While (codeAny_whileLoop (fun n s'=>∃ σ' H',Inv X pins σ' H' s'∧W n σ' H') ?_ m0 ⟨σ,H,I,w0⟩)
 rintro n s1 ⟨σ1,H1,I1,w1⟩
 refine wpAny_passesOwn hp (thn (hc pins s1 σ1 H1 _ I1 (turn n σ1 H1 w1)) fun b s2 ⟨H2,I2,q2⟩=>?_)
 cases b with
 | true =>
  obtain ⟨N,hN,q2⟩:=q2
  rw [if_pos rfl]
  refine wpAny_passesOwn hp (thn (hb pins s2 σ1 H2 _ I2 q2) fun f s3 q3=>?_)
  cases f with
  | next =>
   obtain ⟨σ3,H3,I3,n3⟩:=q3
   obtain ⟨m',hm,w3⟩:=hN σ3 H3 n3
   exact ⟨m',hm,σ3,H3,I3,w3⟩
  | cont =>
   obtain ⟨σ3,H3,I3,n3⟩:=q3
   obtain ⟨m',hm,w3⟩:=hN σ3 H3 n3
   exact ⟨m',hm,σ3,H3,I3,w3⟩
  | brk=>exact q3
  | ret v=>exact q3
 | false =>
  rw [if_neg Bool.false_ne_true]
  exact wpAny_execs_nil ⟨σ1,H2,I2,q2⟩
end
/-- at turn i: it yields x (the heap may grow), or it stops -/
structure It where
 go:Nat→Hp→Prop
 yld:Nat→Hp→V→Hp→Prop
 stop:Nat→Hp→Prop
/-- the iterator's own objects may turn: they are not the frame's, not pinned, younger than the entry (or a comprehension's own) -/
def FpOk (X:Cx) (pins:List (Addr×Obj)) (H:Hp) (b:Addr):Prop :=
 H b=none∧b≠X.env.locals∧b∉X.fs∧(b∈X.ex∨X.s₀.heap.objs.size≤b)∧(∀ x c,X.env.cells.lookup x=some c→c≠b)∧∀ p∈X.pn++pins,p.1≠b
theorem Inv.fpOk {X:Cx} {pins:List (Addr×Obj)} {σ:St} {H H':Hp} {s:Shared} {b:Addr} (I:Inv X pins σ H s) (hb:s.heap.objs.size≤b) (hn:H' b=none):FpOk X pins H' b:=by
 refine ⟨hn,Nat.ne_of_gt (Nat.lt_of_lt_of_le I.lt hb),I.nofs hb,.inr (Nat.le_trans I.sz hb),fun x c e z=>?_,fun p hp z=>?_⟩
 ·obtain ⟨v,q⟩:=I.cell x c e
  exact absurd (Nat.lt_of_lt_of_le q.lt (by rw [z];exact hb)) (Nat.lt_irrefl _)
 ·exact absurd (Nat.lt_of_lt_of_le (Heap.lt_size (I.pin p hp).1) (by rw [z];exact hb)) (Nat.lt_irrefl _)
structure Turn (P:Program) (w:World) (K:PySem.W.Frag) (tg:Expr) (J:It) (fp:List Addr) (it:Addr) (tn:Nat→Heap→Prop):Prop where
 mem:it∈fp
 obj:∀ i h,tn i h→∀ b∈fp,∃ o,h.get? b=some o∧∀ v,o.data≠.cell v
 keep:∀ i h h',tn i h→(∀ b∈fp,∀ o,h.get? b=some o→h'.get? b=some o)→tn i h'
 item:∀ (X:Cx),X.prog=P→X.w=w→X.K=K→X.calm=true→∀ (i:Nat) (pins:List (Addr×Obj)) (s:Shared) (σ:St) (H:Hp) (E:Value→Shared→Prop),Inv X pins σ H s→(∀ b∈fp,FpOk X pins H b)→tn i s.heap→J.go i H →
  wpAny (model P w) X.A (pyNext (.ref it)) (fun r s1=>∃ u,r=some u ∧
   wpAny (model P w) X.A (letOwnedTupleGo tg (.ref it) u) (fun _ s2=>∃ x H',Inv X pins σ H' s2∧RelV x u∧J.yld i H x H'∧tn (i+1) s2.heap∧∀ b∈fp,H' b=none) E s1) E s
 done:∀ (X:Cx),X.prog=P→X.w=w→X.K=K→X.calm=true→∀ (i:Nat) (pins:List (Addr×Obj)) (s:Shared) (σ:St) (H:Hp) (E:Value→Shared→Prop),Inv X pins σ H s→(∀ b∈fp,FpOk X pins H b)→tn i s.heap→J.stop i H →
  wpAny (model P w) X.A (pyNext (.ref it)) (fun r s1=>r=none∧Inv X pins σ H s1) E s
 self:∀ (A:Around) (i:Nat) (s:Shared) (Q:Value→Shared→Prop) (E:Value→Shared→Prop),tn i s.heap→Q (.ref it) s→wpAny (model P w) A (pyIter (.ref it)) Q E s
abbrev TI:=St→Hp→(It→Hp→Prop)→Prop
/-- an iterator has come -/
def PIE (X:Cx) (pins:List (Addr×Obj)) (σ:St) (tg:Expr) (R:It→Hp→Prop) (itv:Value) (s2:Shared):Prop :=
 ∃ (it:Addr) (fp:List Addr) (tn:Nat→Heap→Prop) (J:It) (H':Hp),itv=.ref it∧Inv X pins σ H' s2∧Turn X.prog X.w X.K tg J fp it tn∧tn 0 s2.heap∧(∀ b∈fp,FpOk X pins H' b)∧R J H'
def PI (X:Cx) (tg iter:Expr) (wi:TI):Prop :=
 ∀ (pins:List (Addr×Obj)) (s:Shared) (σ:St) (H:Hp) (R:It→Hp→Prop),Inv X pins σ H s→wi σ H R →
  wpAny (model X.prog X.w) X.A (eval iter X.env) (fun v s1=>wpAny (model X.prog X.w) X.A (pyIter v) (PIE X pins σ tg R) X.xe s1) X.xe s
/-- the step ahead of the store is nothing for an iterator that keeps no tuple -/
theorem go_of {M : Model} {A : Around} {E : Value → Shared → Prop} {s : Shared} {tg : Expr} {it : Addr} {u : Value} {o : Obj} {n : String} {vs : Array Value} {Q : Unit → Shared → Prop} (ho : s.heap.get? it = some o) (hc : o.cls = .type n) (hd : o.data = .fields vs)
    (hn : ["enumerate", "zip", "dict_itemiterator", "dict_reverseitemiterator", "odict_iterator", "itertools.zip_longest", "itertools.pairwise"].contains n = false) (hQ : Q () s) : wpAny M A (letOwnedTupleGo tg (.ref it) u) Q E s := by
  unfold letOwnedTupleGo
  cases tg <;> first
    | exact wpAny_pure hQ
    | (cases u <;> first
        | exact wpAny_pure hQ
        | (refine wpAny_bind (wpAny_load ho ?_)
           rw [hc, hd]
           show wpAny M A (if (["enumerate", "zip", "dict_itemiterator", "dict_reverseitemiterator", "odict_iterator", "itertools.zip_longest", "itertools.pairwise"].contains n && vs[0]? == some (rawInt _)) = true then _ else _) Q E s
           rw [if_neg (by intro h; rw [hn, Bool.false_and] at h; cases h)]
           exact wpAny_pure hQ))
/-- the list at a, as it stands at each turn (a loop may append to it) -/
def Itl (K:PySem.W.Frag) (a:Addr):It :=
 ⟨fun i H=>∃ xs x,SqL K H a xs∧xs[i]?=some x,fun i H x H'=>H'=H∧∀ xs,SqL K H a xs→xs[i]?=some x,fun i H=>∃ xs,SqL K H a xs∧xs.length≤i⟩
def Itt (K:PySem.W.Frag) (a:Addr):It :=
 ⟨fun i H=>∃ xs x,SqT K H a xs∧xs[i]?=some x,fun i H x H'=>H'=H∧∀ xs,SqT K H a xs→xs[i]?=some x,fun i H=>∃ xs,SqT K H a xs∧xs.length≤i⟩
/-- lo, lo + 1, .. (n of them) -/
def Itr (lo:Int) (n:Nat):It:=⟨fun i _=>i<n,fun i H x H'=>H'=H∧x=.int (lo+i),fun i _=>n≤i⟩
theorem turn_list {P:Program} {w:World} {K:PySem.W.Frag} {tg:Expr} (a it:Addr):Turn P w K tg (Itl K a) [it] it (fun i h=>h.IsListIter it a i) where
 mem:=by simp
 obj:=fun i h st b hb=>by
  have e:b=it:=by simpa using hb
  subst e
  obtain ⟨o,e,c,d⟩:=st
  exact ⟨o,e,fun v z=>by rw [d] at z;cases z⟩
 keep:=fun i h h' st k=>st.at fun o e=>k it (by simp) o e
 item:=by
  intro X hP hw hK hc i pins s σ H E I hf st hg
  subst hP hw hK
  obtain ⟨xs,x,hq,hx⟩:=hg
  obtain ⟨its,rv,p,hz⟩:=I.list hq
  obtain ⟨u,hu,ru⟩:=rv.get hx
  obtain ⟨f0,f1,f2,f3,f4,f5⟩:=hf it (by simp)
  refine wpAny_pyNext_list_item st p.isList (x:=u) (by simpa using hu) fun h' st' sb=>?_
  have I1:Inv X pins σ H { s with heap:=h' }:=I.turned (t':=s.toks) (fun b o hb e=>(sb.2 b hb).trans e) f0 f1 f3 f4 f5
  obtain ⟨o,e,c,d⟩:=id st'
  exact ⟨u,rfl,go_of (s:={ s with heap:=h' }) e c d (by decide) ⟨x,H,I1,ru,⟨rfl,fun ys hy=>by rw [I.list_inj hy hq];exact hx⟩,st',fun b hb=>(hf b hb).1⟩⟩
 done:=by
  intro X hP hw hK hc i pins s σ H E I hf st hg
  subst hP hw hK
  obtain ⟨xs,hq,hx⟩:=hg
  obtain ⟨its,rv,p,hz⟩:=I.list hq
  obtain ⟨f0,f1,f2,f3,f4,f5⟩:=hf it (by simp)
  have hl:=rv.length
  exact wpAny_pyNext_list_end (I.ok.hd hc) st p.isList (by simp;omega) fun h' eb=>⟨rfl,I.turned (t':=s.toks) (fun b o hb e=>eb b o hb e) f0 f1 f3 f4 f5⟩
 self:=fun _ _ _ _ _ st h=>wpAny_pyIter_listiter st h
theorem turn_tuple {P:Program} {w:World} {K:PySem.W.Frag} {tg:Expr} (a it:Addr):Turn P w K tg (Itt K a) [it] it (fun i h=>h.IsTupleIter it a i) where
 mem:=by simp
 obj:=fun i h st b hb=>by
  have e:b=it:=by simpa using hb
  subst e
  obtain ⟨o,e,c,d⟩:=st
  exact ⟨o,e,fun v z=>by rw [d] at z;cases z⟩
 keep:=fun i h h' st k=>st.at fun o e=>k it (by simp) o e
 item:=by
  intro X hP hw hK hc i pins s σ H E I hf st hg
  subst hP hw hK
  obtain ⟨xs,x,hq,hx⟩:=hg
  obtain ⟨its,rv,p,hz⟩:=I.tuple hq
  obtain ⟨u,hu,ru⟩:=rv.get hx
  obtain ⟨f0,f1,f2,f3,f4,f5⟩:=hf it (by simp)
  refine wpAny_pyNext_tuple_item st (show s.heap.IsTuple a its.toArray from p) (x:=u) (by simpa using hu) fun h' st' sb=>?_
  have I1:Inv X pins σ H { s with heap:=h' }:=I.turned (t':=s.toks) (fun b o hb e=>(sb.2 b hb).trans e) f0 f1 f3 f4 f5
  obtain ⟨o,e,c,d⟩:=id st'
  exact ⟨u,rfl,go_of (s:={ s with heap:=h' }) e c d (by decide) ⟨x,H,I1,ru,⟨rfl,fun ys hy=>by rw [I.tuple_inj hy hq];exact hx⟩,st',fun b hb=>(hf b hb).1⟩⟩
 done:=by
  intro X hP hw hK hc i pins s σ H E I hf st hg
  subst hP hw hK
  obtain ⟨xs,hq,hx⟩:=hg
  obtain ⟨its,rv,p,hz⟩:=I.tuple hq
  obtain ⟨f0,f1,f2,f3,f4,f5⟩:=hf it (by simp)
  have hl:=rv.length
  exact wpAny_pyNext_tuple_end (I.ok.hd hc) st (show s.heap.IsTuple a its.toArray from p) (by simp;omega) fun h' eb=>⟨rfl,I.turned (t':=s.toks) (fun b o hb e=>eb b o hb e) f0 f1 f3 f4 f5⟩
 self:=fun _ _ _ _ _ st h=>wpAny_pyIter_tupleiter st h
theorem turn_range {P:Program} {w:World} {K:PySem.W.Frag} {tg:Expr} (it:Addr) (lo:Int) (n:Nat):Turn P w K tg (Itr lo n) [it] it (fun i h=>IsRangeIter h it (lo+(i:Nat)*1) ((n:Int)-(i:Nat)) 1) where
 mem:=by simp
 obj:=fun i h st b hb=>by
  have e:b=it:=by simpa using hb
  subst e
  exact ⟨_,st,fun v z=>by
   have z':Data.fields _=Data.cell v:=z
   cases z'⟩
 keep:=fun i h h' st k=>k it (by simp) _ st
 item:=by
  intro X hP hw hK hc i pins s σ H E I hf st hg
  subst hP hw hK
  obtain ⟨f0,f1,f2,f3,f4,f5⟩:=hf it (by simp)
  have W:=Walks.range (prog:=X.prog) (w:=X.w) (I.ok.hd hc) it lo 1 n
  refine W.item i s _ _ hg st fun v h' tk hv st' kk=>?_
  obtain ⟨t,rfl⟩:=hv
  have I1:Inv X pins σ H { s with heap:=h',toks:=tk }:=I.turned (fun b o hb e=>kk b o (by simpa using hb) e) f0 f1 f3 f4 f5
  refine ⟨_,rfl,go_of (s:={ s with heap:=h',toks:=tk }) (n:="range_iterator") st' rfl rfl (by decide) ⟨.int (lo+i),H,I1,⟨t,?_⟩,⟨rfl,rfl⟩,st',fun b hb=>(hf b hb).1⟩⟩
  rw [Int.mul_one]
 done:=by
  intro X hP hw hK hc i pins s σ H E I hf st hg
  subst hP hw hK
  obtain ⟨f0,f1,f2,f3,f4,f5⟩:=hf it (by simp)
  exact wpAny_pyNext_range_end (I.ok.hd hc) st (by have:n≤i:=hg;omega) fun h' eb=>⟨rfl,I.turned (t':=s.toks) (fun b o hb e=>eb b o hb e) f0 f1 f3 f4 f5⟩
 self:=fun _ _ _ _ _ st h=>wpAny_pyIter_rangeiter st h
end L2
namespace L2
open PySem PySem.Spec PyProof.Rows
section
variable {X:Cx} {tg:Expr}
inductive iListY (K:PySem.W.Frag) (R:It→Hp→Prop) (x:V) (H1:Hp):Prop
 | mk:∀ a,(x=.ref a)→((∃ xs,SqL K H1 a xs))→(R (Itl K a) H1)→iListY K R x H1
def iList (K:PySem.W.Frag) (tl:TE):TI:=fun σ H R=>tl σ H fun x H1=>iListY K R x H1
inductive iTupY (K:PySem.W.Frag) (R:It→Hp→Prop) (x:V) (H1:Hp):Prop
 | mk:∀ a,(x=.ref a)→((∃ xs,SqT K H1 a xs))→(R (Itt K a) H1)→iTupY K R x H1
def iTup (K:PySem.W.Frag) (tl:TE):TI:=fun σ H R=>tl σ H fun x H1=>iTupY K R x H1
theorem pi_list {l:Expr} {tl:TE} (hl:PE X l tl):PI X tg l (iList X.K tl):=by
 intro pins s σ H R I h
 refine thn (hl pins s σ H _ I h) fun v s1 ⟨x,H1,I1,r1,q1⟩=>?_
 obtain ⟨a,e,⟨xs,hq⟩,q⟩:=q1
 subst e
 cases r1
 obtain ⟨its,rv,p,hz⟩:=I1.list hq
 refine wpAny_pyIter_list p.isList ?_
 refine ⟨s1.heap.objs.size,[s1.heap.objs.size],_,_,H1,rfl,I1.kept (t':=s1.toks) fun b o e=>Heap.get?_push_of_some _ e,turn_list a _,⟨_,Heap.get?_push_size _ rfl,rfl,rfl⟩,fun b hb=>?_,q⟩
 have e:b=s1.heap.objs.size:=by simpa using hb
 subst e
 exact I1.fpOk (Nat.le_refl _) (I1.hok.fresh (Nat.le_refl _))
theorem pi_tup {l:Expr} {tl:TE} (hl:PE X l tl):PI X tg l (iTup X.K tl):=by
 intro pins s σ H R I h
 refine thn (hl pins s σ H _ I h) fun v s1 ⟨x,H1,I1,r1,q1⟩=>?_
 obtain ⟨a,e,⟨xs,hq⟩,q⟩:=q1
 subst e
 cases r1
 obtain ⟨its,rv,p,hz⟩:=I1.tuple hq
 refine wpAny_pyIter_tuple (show s1.heap.IsTuple a its.toArray from p) ?_
 refine ⟨s1.heap.objs.size,[s1.heap.objs.size],_,_,H1,rfl,I1.kept (t':=s1.toks) fun b o e=>Heap.get?_push_of_some _ e,turn_tuple a _,⟨_,Heap.get?_push_size _ rfl,rfl,rfl⟩,fun b hb=>?_,q⟩
 have e:b=s1.heap.objs.size:=by simpa using hb
 subst e
 exact I1.fpOk (Nat.le_refl _) (I1.hok.fresh (Nat.le_refl _))
/-- a range object just made, walked -/
theorem range_it {pins:List (Addr×Obj)} {σ:St} {H:Hp} {s:Shared} {R:It→Hp→Prop} {E:Value→Shared→Prop} {lo hi:Int} {t u v:Tok} {tk:Nat} (I:Inv X pins σ H s) (h1 : -(2 ^ 62)≤lo) (h2:lo<2 ^ 62) (h3 : -(2 ^ 62)≤hi) (h4:hi<2 ^ 62)
  (q:R (Itr lo (hi-lo).toNat) H):wpAny (model X.prog X.w) X.A (pyIter (.ref s.heap.objs.size)) (PIE X pins σ tg R) E { s with heap:=s.heap.push { cls:=.type "range",data:=.fields #[.int lo t,.int hi u,.int 1 v] },toks:=tk }:=by
 refine wpAny_pyIter_range (IsRange.new ..) (small_one h1 h2 h3 h4) ?_
 have I1:Inv X pins σ H { s with heap:=s.heap.push { cls:=.type "range",data:=.fields #[.int lo t,.int hi u,.int 1 v] },toks:=tk }:=I.kept fun b o e=>Heap.get?_push_of_some _ e
 refine ⟨(s.heap.push { cls:=.type "range",data:=.fields #[.int lo t,.int hi u,.int 1 v] }).objs.size,[(s.heap.push { cls:=.type "range",data:=.fields #[.int lo t,.int hi u,.int 1 v] }).objs.size],_,_,H,rfl,
  I1.kept (t':=tk) fun b o e=>Heap.get?_push_of_some _ e,turn_range _ lo (hi-lo).toNat,?_,fun b hb=>?_,q⟩
 ·have e1:lo+((0:Nat):Int)*1=lo:=by simp
  have e2:(((hi-lo).toNat:Nat):Int)-((0:Nat):Int)=Builtin.Range.rangeSize lo hi 1:=by rw [rangeSize_one];split<;>omega
  show IsRangeIter _ _ (lo+((0:Nat):Int)*1) ((((hi-lo).toNat:Nat):Int)-((0:Nat):Int)) 1
  rw [e1,e2]
  exact Heap.get?_push_size _ rfl
 ·have e:b=(s.heap.push { cls:=.type "range",data:=.fields #[.int lo t,.int hi u,.int 1 v] }).objs.size:=by simpa using hb
  subst e
  exact I1.fpOk (Nat.le_refl _) (I1.hok.fresh (Nat.le_refl _))
inductive iRng1Y (R:It→Hp→Prop) (vs:List V) (H1:Hp):Prop
 | mk:∀ (j:Int),(vs=[.int j])→(-(2 ^ 62)≤j)→(j<2 ^ 62)→(R (Itr 0 j.toNat) H1)→iRng1Y R vs H1
def iRng1 (ta:TA):TI:=fun σ H R=>ta σ H fun vs H1=>iRng1Y R vs H1
inductive iRng2Y (R:It→Hp→Prop) (vs:List V) (H1:Hp):Prop
 | mk:∀ (i j:Int),(vs=[.int i,.int j])→((-(2 ^ 62)≤i∧i<2 ^ 62∧-(2 ^ 62)≤j∧j<2 ^ 62))→(R (Itr i (j-i).toNat) H1)→iRng2Y R vs H1
def iRng2 (ta:TA):TI:=fun σ H R=>ta σ H fun vs H1=>iRng2Y R vs H1
theorem pi_range1 {a:Expr} {ta:TA} {p pos:Pos} (hg:Gl X "range") (hm:X.mg "range" = none) (ha:PA X [a] ta) (hs:starEach [a] X.env=[(false,eval a X.env)]:=by rfl):PI X tg (.Call (.Name "range" p) [a] [] pos) (iRng1 ta):=by
 intro pins s σ H R I h
 refine Call_ (ld_blt I hg hm boot_range (PyProof.Rows.callWith_type1 (thn (ha pos pins s σ H _ I h) fun us s1 ⟨vs,H1,I1,r1,q1⟩=>?_) hs rfl))
 obtain ⟨j,e,q1,q2,q⟩:=q1
 subst e
 cases r1 with
 | cons r rr =>
  cases rr
  obtain ⟨t,rfl⟩:=r
  exact call_range_1 (range_it I1 (by omega) (by omega) q1 q2 (by simpa using q))
theorem pi_range2 {a b:Expr} {ta:TA} {p pos:Pos} (hg:Gl X "range") (hm:X.mg "range" = none) (ha:PA X [a,b] ta) (hs:starEach [a,b] X.env=[(false,eval a X.env),(false,eval b X.env)]:=by rfl) (hs2:starEach [b] X.env=[(false,eval b X.env)]:=by rfl) :
  PI X tg (.Call (.Name "range" p) [a,b] [] pos) (iRng2 ta):=by
 intro pins s σ H R I h
 refine Call_ (ld_blt I hg hm boot_range (PyProof.Rows.callWith_type1 (thn (ha pos pins s σ H _ I h) fun us s1 ⟨vs,H1,I1,r1,q1⟩=>?_) (by rw [hs,hs2]) (by rw [hs2];rfl)))
 obtain ⟨i,j,e,⟨q1,q2,q3,q4⟩,q⟩:=q1
 subst e
 cases r1 with
 | cons r rr =>
  cases rr with
  | cons r' rr =>
   cases rr
   obtain ⟨t,rfl⟩:=r
   obtain ⟨t',rfl⟩:=r'
   exact call_range_2 (range_it I1 q1 q2 q3 q4 q)
/-- W: the invariant by the turn and a measure; N: what the body is to reach -/
def tFor (wi:TI) (g:TG) (tb:TS):TS:=fun D σ H=>wi σ H fun J H1=>∃ W:Nat→Nat→St→Hp→Prop,(∃ m,W 0 m σ H1)∧∀ i m σ H,W i m σ H →
 (J.stop i H∧D.nx σ H)∨(J.go i H∧∃ N:St→Hp→Prop,(∀ σ' H',N σ' H'→∃ m',m'<m∧W (i+1) m' σ' H')∧∀ x H',J.yld i H x H'→g x σ H' fun σ2 H2=>tb { D with nx:=N,ct:=N,bk:=D.nx } σ2 H2)
/-- the records at fp as they stand -/
def pinsAt (fp:List Addr) (h:Heap):List (Addr×Obj):=fp.filterMap fun b=>(h.get? b).map fun o=>(b,o)
theorem mem_pinsAt {fp:List Addr} {h:Heap} {b:Addr} {o:Obj} (hb:b∈fp) (e:h.get? b=some o):(b,o)∈pinsAt fp h:=List.mem_filterMap.mpr ⟨b,hb,by rw [e];rfl⟩
theorem of_pinsAt {fp:List Addr} {h:Heap} {p:Addr×Obj} (hp:p∈pinsAt fp h):p.1∈fp∧h.get? p.1=some p.2:=by
 obtain ⟨b,hb,e⟩:=List.mem_filterMap.mp hp
 cases q:h.get? b with
 | none=>rw [q] at e;cases e
 | some o =>
  rw [q] at e
  have e':(b,o)=p:=Option.some.inj e
  subst e'
  exact ⟨hb,q⟩
theorem Inv.pinned {pins:List (Addr×Obj)} {σ:St} {H:Hp} {s:Shared} {fp:List Addr} (I:Inv X pins σ H s) (hf:∀ b∈fp,FpOk X pins H b) (ho:∀ b∈fp,∃ o,s.heap.get? b=some o∧∀ v,o.data≠.cell v):Inv X (pins++pinsAt fp s.heap) σ H s :=
 I.pins_of fun p hp=>(List.mem_append.mp hp).elim (fun z=>I.pin p (List.mem_append_right _ z)) fun z=>by
  obtain ⟨hb,e⟩:=of_pinsAt z
  obtain ⟨f0,f1,f2,_⟩:=hf p.1 hb
  obtain ⟨o,e',d⟩:=ho p.1 hb
  rw [e] at e';cases e'
  exact ⟨e,f0,f1,f2,d⟩
theorem Inv.unpinned {pins pl:List (Addr×Obj)} {σ:St} {H:Hp} {s:Shared} (I:Inv X (pins++pl) σ H s):Inv X pins σ H s:=I.pins_of fun p hp=>I.pin p (List.mem_append_right _ (List.mem_append_left _ hp))
theorem ps_for {iter:Expr} {body:List Stmt} {wi:TI} {g:TG} {tb:TS} {pos:Pos} (hp:PassesOwn (model X.prog X.w) X.A X.env X.xe) (hc:X.calm=true) (hi:PI X tg iter wi) (hg:PG X tg g) (hb:PSs X body tb)
  (hs:∀ x,foldedSetIterable iter X.env x=pure x:=by intro _;rfl):PS X (.For tg iter body [] pos) (tFor wi g tb):=by
 intro pins s σ H D I h
 refine wpAny_For (thn (hi pins s σ H _ I h) fun v s1 h1=>thn h1 fun itv s2 h2=>?_) hs
 obtain ⟨it,fp,tn,J,H2,e,I2,T,st2,f2,W,⟨m0,w0⟩,turn⟩:=h2
 subst e
  -- what stays true of the iterator's objects through the loop
 have stat:∀ {H':Hp},(∀ b∈fp,H' b=none)→∀ b∈fp,FpOk X pins H' b:=fun hn b hb=>⟨hn b hb,(f2 b hb).2⟩
 refine codeAny_forLoop_any (fun n s'=>∃ i σ' H',Inv X pins σ' H' s'∧tn i s'.heap∧(∀ b∈fp,H' b=none)∧W i n σ' H') ?_ m0 ⟨0,σ,H2,I2,st2,fun b hb=>(f2 b hb).1,w0⟩
 rintro n s3 ⟨i,σ3,H3,I3,st3,fr3,w3⟩
 rcases turn i n σ3 H3 w3 with ⟨stop,qn⟩ | ⟨go,N,hN,step⟩
 ·refine wpAny_passesOwn hp (thn (T.done X rfl rfl rfl hc i pins s3 σ3 H3 X.xe I3 (stat fr3) st3 stop) fun r s4 ⟨hr,I4⟩=>?_)
  subst hr
  exact wpAny_execs_nil ⟨σ3,H3,I4,qn⟩
 ·refine wpAny_passesOwn hp (thn (T.item X rfl rfl rfl hc i pins s3 σ3 H3 X.xe I3 (stat fr3) st3 go) fun r s4 ⟨u,hr,h4⟩=>?_)
  subst hr
  refine wpAny_passesOwn hp (thn h4 fun _ s5 ⟨x,H5,I5,r5,y5,st5,fr5⟩=>?_)
  have I5':=I5.pinned (stat fr5) (T.obj _ _ st5)
  refine wpAny_passesOwn hp (thn (hg _ s5 σ3 H5 x u _ I5' r5 (step x H5 y5)) fun _ s6 ⟨σ6,H6,I6,q6⟩=>?_)
  refine wpAny_passesOwn hp (thn (hb _ s6 σ6 H6 _ I6 q6) fun f s7 q7=>?_)
  have again:∀ {σ7:St} {H7:Hp},Inv X (pins++pinsAt fp s5.heap) σ7 H7 s7→N σ7 H7→∃ m,m<n∧∃ i σ' H',Inv X pins σ' H' s7∧tn i s7.heap∧(∀ b∈fp,H' b=none)∧W i m σ' H':=fun {σ7 H7} I7 n7=>by
   obtain ⟨m',hm,w7⟩:=hN σ7 H7 n7
   refine ⟨m',hm,i+1,σ7,H7,I7.unpinned,T.keep _ _ _ st5 fun b hb o e=>(I7.pin (b,o) (List.mem_append_right _ (List.mem_append_right _ (mem_pinsAt hb e)))).1,fun b hb=>?_,w7⟩
   obtain ⟨o,e,d⟩:=T.obj _ _ st5 b hb
   exact (I7.pin (b,o) (List.mem_append_right _ (List.mem_append_right _ (mem_pinsAt hb e)))).2.1
  cases f with
  | next=>obtain ⟨σ7,H7,I7,n7⟩:=q7;exact again I7 n7
  | cont=>obtain ⟨σ7,H7,I7,n7⟩:=q7;exact again I7 n7
  | brk=>obtain ⟨σ7,H7,I7,q7⟩:=q7;exact ⟨σ7,H7,I7.unpinned,q7⟩
  | ret v=>obtain ⟨x7,σ7,H7,I7,r7,q7⟩:=q7;exact ⟨x7,σ7,H7,I7.unpinned,r7,q7⟩
end
/-- over a list that the body leaves as it is -/
theorem for_list {K:PySem.W.Frag} {a:Addr} {xs:List V} {g:TG} {tb:TS} {D:Ends} {σ:St} {H:Hp} (Pv:Nat→St→Hp→Prop) (h0:Pv 0 σ H) (hl:∀ i σ H,i≤xs.length→Pv i σ H→SqL K H a xs)
  (hs:∀ i x σ H,xs[i]?=some x→Pv i σ H→g x σ H fun σ2 H2=>tb { D with nx:=Pv (i+1),ct:=Pv (i+1),bk:=D.nx } σ2 H2) (hd:∀ σ H,Pv xs.length σ H→D.nx σ H) :
  ∃ W:Nat→Nat→St→Hp→Prop,(∃ m,W 0 m σ H)∧∀ i m σ H,W i m σ H →
   ((Itl K a).stop i H∧D.nx σ H)∨((Itl K a).go i H∧∃ N:St→Hp→Prop,(∀ σ' H',N σ' H'→∃ m',m'<m∧W (i+1) m' σ' H')∧∀ x H',(Itl K a).yld i H x H'→g x σ H' fun σ2 H2=>tb { D with nx:=N,ct:=N,bk:=D.nx } σ2 H2):=by
 refine ⟨fun i m σ H=>m=xs.length-i∧i≤xs.length∧Pv i σ H,⟨xs.length,by simp,Nat.zero_le _,h0⟩,?_⟩
 rintro i m σ H ⟨rfl,hi,p⟩
 have q:=hl i σ H hi p
 by_cases hlt:i<xs.length
 ·refine .inr ⟨⟨xs,xs[i],q,by simp [hlt]⟩,Pv (i+1),fun σ' H' p'=>⟨xs.length-(i+1),by omega,rfl,hlt,p'⟩,fun x H' y=>?_⟩
  obtain ⟨e,y⟩:=y
  subst e
  exact hs i x σ _ (y xs q) p
 ·have e:i=xs.length:=by omega
  subst e
  exact .inl ⟨⟨xs,q,Nat.le_refl _⟩,hd σ H p⟩
theorem for_range {lo:Int} {n:Nat} {g:TG} {tb:TS} {D:Ends} {σ:St} {H:Hp} (Pv:Nat→St→Hp→Prop) (h0:Pv 0 σ H)
  (hs:∀ i σ H,i<n→Pv i σ H→g (.int (lo+i)) σ H fun σ2 H2=>tb { D with nx:=Pv (i+1),ct:=Pv (i+1),bk:=D.nx } σ2 H2) (hd:∀ σ H,Pv n σ H→D.nx σ H) :
  ∃ W:Nat→Nat→St→Hp→Prop,(∃ m,W 0 m σ H)∧∀ i m σ H,W i m σ H →
   ((Itr lo n).stop i H∧D.nx σ H)∨((Itr lo n).go i H∧∃ N:St→Hp→Prop,(∀ σ' H',N σ' H'→∃ m',m'<m∧W (i+1) m' σ' H')∧∀ x H',(Itr lo n).yld i H x H'→g x σ H' fun σ2 H2=>tb { D with nx:=N,ct:=N,bk:=D.nx } σ2 H2):=by
 refine ⟨fun i m σ H=>m=n-i∧i≤n∧Pv i σ H,⟨n,by simp,Nat.zero_le _,h0⟩,?_⟩
 rintro i m σ H ⟨rfl,hi,p⟩
 by_cases hlt:i<n
 ·refine .inr ⟨hlt,Pv (i+1),fun σ' H' p'=>⟨n-(i+1),by omega,rfl,hlt,p'⟩,fun x H' y=>?_⟩
  obtain ⟨e,y⟩:=y
  subst e y
  exact hs i σ _ hlt p
 ·have e:i=n:=by omega
  subst e
  exact .inl ⟨Nat.le_refl _,hd σ H p⟩
/-- while, by a word and a measure of the state -/
theorem while_by {c:TT} {tb:TS} {D:Ends} {σ:St} {H:Hp} (Pv:St→Hp→Prop) (μ:St→Hp→Nat) (h0:Pv σ H)
  (hs:∀ σ H,Pv σ H→c σ H fun b H1=>if b=true then tb { D with nx:=fun σ' H'=>Pv σ' H'∧μ σ' H'<μ σ H,ct:=fun σ' H'=>Pv σ' H'∧μ σ' H'<μ σ H,bk:=D.nx } σ H1 else D.nx σ H1)
  (mono:∀ σ H Q Q',(∀ b H1,Q b H1→Q' b H1)→c σ H Q→c σ H Q'):tWhile c tb D σ H:=by
 refine ⟨fun m σ H=>m=μ σ H∧Pv σ H,⟨_,rfl,h0⟩,?_⟩
 rintro m σ H ⟨rfl,p⟩
 refine mono σ H _ _ (fun b H1 q=>?_) (hs σ H p)
 cases b with
 | true=>exact ⟨_,fun σ' H' ⟨p',l⟩=>⟨_,l,rfl,p'⟩,q⟩
 | false=>exact q
end L2
namespace L2
open PySem PySem.Spec PyProof.Rows
abbrev R2:=V→V→Hp→VK→Prop
/-- a two-place operation on values: f is binaryOp op, inplaceOp op or compareOp op -/
def OpR (X:Cx) (f:Value→Value→Sem Value) (r:R2):Prop :=
 ∀ (pins:List (Addr×Obj)) (s:Shared) (σ:St) (H:Hp) (x y:V) (v u:Value) (Q:VK),Inv X pins σ H s→RelV x v→RelV y u→r x y H Q →
  wpAny (model X.prog X.w) X.A (f v u) (EP X pins σ Q) X.xe s
/-- a one-place operation -/
def UnR (X:Cx) (f:Value→Sem Value) (r:V→Hp→VK→Prop):Prop :=
 ∀ (pins:List (Addr×Obj)) (s:Shared) (σ:St) (H:Hp) (x:V) (v:Value) (Q:VK),Inv X pins σ H s→RelV x v→r x H Q →
  wpAny (model X.prog X.w) X.A (f v) (EP X pins σ Q) X.xe s
/-- a call of a value that is known (a builtin, a type) with values -/
def CallR (X:Cx) (f:Value) (r:List V→Hp→VK→Prop):Prop :=
 ∀ (pins:List (Addr×Obj)) (s:Shared) (σ:St) (H:Hp) (xs:List V) (us:List Value) (Q:VK),Inv X pins σ H s→Vals xs us→r xs H Q →
  wpAny (model X.prog X.w) X.A (call f us) (EP X pins σ Q) X.xe s
/-- a value's truth -/
def TruR (X:Cx) (r:V→Hp→(Bool→Hp→Prop)→Prop):Prop :=
 ∀ (pins:List (Addr×Obj)) (s:Shared) (σ:St) (H:Hp) (x:V) (v:Value) (Q:Bool→Hp→Prop),Inv X pins σ H s→RelV x v→r x H Q →
  wpAny (model X.prog X.w) X.A (truthy v) (TP X pins σ Q) X.xe s
def tOp (r:R2) (ta tb:TE):TE:=fun σ H Q=>ta σ H fun x H1=>tb σ H1 fun y H2=>r x y H2 Q
def tUn (r:V→Hp→VK→Prop) (ta:TE):TE:=fun σ H Q=>ta σ H fun x H1=>r x H1 Q
/-- ints in, under C, and a value out -/
inductive rI (C:Int→Int→Prop) (g:Int→Int→V) (x:V) (y:V) (H:Hp) (Q:VK):Prop
 | mk:∀ i j,(x=.int i)→(y=.int j)→(C i j)→(Q (g i j) H)→rI C g x y H Q
inductive rI0 (g:Int→Int→V) (x:V) (y:V) (H:Hp) (Q:VK):Prop
 | mk:∀ i j,(x=.int i)→(y=.int j)→(Q (g i j) H)→rI0 g x y H Q
inductive rU (g:Int→V) (x:V) (H:Hp) (Q:VK):Prop
 | mk:∀ i,(x=.int i)→(Q (g i) H)→rU g x H Q
section
variable {X:Cx} {a b c:Expr} {ta tb tc:TE} {pos:Pos}
theorem binT (ha:PE X a ta) (hb:PE X b tb) {pins:List (Addr×Obj)} {s:Shared} {σ:St} {H:Hp} {R:V→V→Hp→Prop} (I:Inv X pins σ H s)
  (h:ta σ H fun x H1=>tb σ H1 fun y H2=>R x y H2) {Q:Value→Shared→Prop} {f:Value→Value→Sem Value}
  (hf:∀ v u s2 x y H2,Inv X pins σ H2 s2→RelV x v→RelV y u→R x y H2→wpAny (model X.prog X.w) X.A (f v u) Q X.xe s2) :
  wpAny (model X.prog X.w) X.A (eval a X.env) (fun v s₁=>wpAny (model X.prog X.w) X.A (eval b X.env) (fun u s₂=>wpAny (model X.prog X.w) X.A (f v u) Q X.xe s₂) X.xe s₁) X.xe s:=by
 refine thn (ha pins s σ H _ I h) fun v s1 ⟨x,H1,I1,r1,q1⟩=>?_
 refine thn (hb pins s1 σ H1 _ I1 q1) fun u s2 ⟨y,H2,I2,r2,q2⟩=>?_
 exact hf v u s2 x y H2 I2 r1 r2 q2
theorem pe_op {op:Operator} {r:R2} (ho:OpR X (binaryOp op) r) (ha:PE X a ta) (hb:PE X b tb):PE X (.BinOp a op b pos) (tOp r ta tb):=by
 intro pins s σ H Q I h
 exact wpAny_BinOp (binT ha hb I h fun v u s2 x y H2 I2 rx ry q=>ho pins s2 σ H2 x y v u Q I2 rx ry q)
theorem pe_un {op:UnaryOp} {r:V→Hp→VK→Prop} (ho:UnR X (unaryOp op) r) (ha:PE X a ta):PE X (.UnaryOp op a pos) (tUn r ta):=by
 intro pins s σ H Q I h
 exact UnaryOp_ (thn (ha pins s σ H _ I h) fun v s1 ⟨x,H1,I1,r1,q1⟩=>ho pins s1 σ H1 x v Q I1 r1 q1)
theorem opI {f:Value→Value→Sem Value} {C:Int→Int→Prop} {g:Int→Int→Int}
  (rule:∀ (i j:Int) (t u:Tok) (s:Shared) (Q:Value→Shared→Prop) (E:Value→Shared→Prop),C i j→Q (.int (g i j) s.toks) { s with toks:=s.toks+1 }→wpAny (model X.prog X.w) X.A (f (.int i t) (.int j u)) Q E s) :
  OpR X f (rI C fun i j=>.int (g i j)):=by
 intro pins s σ H x y v u Q I rx ry h
 obtain ⟨i,j,rfl,rfl,hc,q⟩:=h
 obtain ⟨t,rfl⟩:=rx
 obtain ⟨t',rfl⟩:=ry
 exact rule i j t t' s _ _ hc ⟨.int (g i j),H,I.tok _,⟨_,rfl⟩,q⟩
theorem opI0 {f:Value→Value→Sem Value} {g:Int→Int→Int}
  (rule:∀ (i j:Int) (t u:Tok) (s:Shared) (Q:Value→Shared→Prop) (E:Value→Shared→Prop),Q (.int (g i j) s.toks) { s with toks:=s.toks+1 }→wpAny (model X.prog X.w) X.A (f (.int i t) (.int j u)) Q E s) :
  OpR X f (rI0 fun i j=>.int (g i j)):=by
 intro pins s σ H x y v u Q I rx ry h
 obtain ⟨i,j,rfl,rfl,q⟩:=h
 obtain ⟨t,rfl⟩:=rx
 obtain ⟨t',rfl⟩:=ry
 exact rule i j t t' s _ _ ⟨.int (g i j),H,I.tok _,⟨_,rfl⟩,q⟩
theorem opB0 {f:Value→Value→Sem Value} {g:Int→Int→Bool}
  (rule:∀ (i j:Int) (t u:Tok) (s:Shared) (Q:Value→Shared→Prop) (E:Value→Shared→Prop),Q (.bool (g i j)) s→wpAny (model X.prog X.w) X.A (f (.int i t) (.int j u)) Q E s) :
  OpR X f (rI0 fun i j=>.bl (g i j)):=by
 intro pins s σ H x y v u Q I rx ry h
 obtain ⟨i,j,rfl,rfl,q⟩:=h
 obtain ⟨t,rfl⟩:=rx
 obtain ⟨t',rfl⟩:=ry
 exact rule i j t t' s _ _ ⟨.bl (g i j),H,I,rfl,q⟩
def CDiv (i j:Int):Prop:=0<j∧j<1073741824
def CPow (i j:Int):Prop:=0≤j∧j≤1000000∧i.natAbs<2 ^ 64
def CMul (i j:Int):Prop:=(-(2 ^ 64)<i∧i<2 ^ 64)∨(-(2 ^ 64)<j∧j<2 ^ 64)
theorem CMul.ok {i j:Int} (h:CMul i j):IntMulOk i j:=by
 rcases h with ⟨h1,h2⟩ | ⟨h1,h2⟩
 ·exact .of_left (intBits_le_64 h1 h2)
 ·exact .of_right (intBits_le_64 h1 h2)
theorem op_add:OpR X (binaryOp .Add) (rI0 fun i j=>.int (i+j)):=opI0 fun _ _ _ _ _ _ _ q=>add_int q
theorem op_sub:OpR X (binaryOp .Sub) (rI0 fun i j=>.int (i-j)):=opI0 fun _ _ _ _ _ _ _ q=>sub_int q
theorem op_mul:OpR X (binaryOp .Mult) (rI CMul fun i j=>.int (i*j)):=opI fun _ _ _ _ _ _ _ hc q=>mul_int q hc.ok
/-- // by a positive divisor -/
theorem op_fdiv:OpR X (binaryOp .FloorDiv) (rI CDiv fun i j=>.int (i / j)):=opI fun i j _ _ _ _ _ hc q=>by
 have h1:(0:Int)<j:=hc.1
 have h2:j<1073741824:=hc.2
 exact floordiv_int (by omega) (by rw [Int.fdiv_eq_ediv_of_nonneg i (by omega)];exact q) (.inl (PyProof.noPylong_small (by omega)))
/-- % by a positive divisor of any size -/
theorem op_mod:OpR X (binaryOp .Mod) (rI (fun _ j=>0<j) fun i j=>.int (i % j)):=opI fun i j _ _ _ _ _ hc q=>by
 have h1:(0:Int)<j:=hc
 exact mod_int' (by omega) (by rw [Int.fmod_eq_emod_of_nonneg i (by omega)];exact q)
theorem op_pow:OpR X (binaryOp .Pow) (rI CPow fun i j=>.int (i ^ j.toNat)):=opI fun _ _ _ _ _ _ _ hc q=>pow_int_small hc.1 hc.2.1 hc.2.2 q
theorem unI {f:Value→Sem Value} {g:Int→Int}
  (rule:∀ (i:Int) (t:Tok) (s:Shared) (Q:Value→Shared→Prop) (E:Value→Shared→Prop),Q (.int (g i) s.toks) { s with toks:=s.toks+1 }→wpAny (model X.prog X.w) X.A (f (.int i t)) Q E s) :
  UnR X f (rU fun i=>.int (g i)):=by
 intro pins s σ H x v Q I rx h
 obtain ⟨i,rfl,q⟩:=h
 obtain ⟨t,rfl⟩:=rx
 exact rule i t s _ _ ⟨.int (g i),H,I.tok _,⟨_,rfl⟩,q⟩
theorem un_neg:UnR X (unaryOp .USub) (rU fun i=>.int (-i)):=unI fun _ _ _ _ _ q=>neg_int q
end
/-- the scalars that == tells apart as data does -/
def scal:V→V→Bool
 | .non,.non=>true | .non,.int _=>true | .int _,.non=>true | .non,.bl _=>true | .bl _,.non=>true | .non,.str _=>true | .str _,.non=>true
 | .int _,.int _=>true | .bl _,.bl _=>true | .str _,.str _=>true | .byt _,.byt _=>true
 | .int _,.str _=>true | .str _,.int _=>true | .bl _,.str _=>true | .str _,.bl _=>true
 | _,_=>false
inductive rEq (x:V) (y:V) (H:Hp) (Q:VK):Prop
 | mk:(scal x y=true)→(Q (.bl (decide (x=y))) H)→rEq x y H Q
inductive rNe (x:V) (y:V) (H:Hp) (Q:VK):Prop
 | mk:(scal x y=true)→(Q (.bl (!decide (x=y))) H)→rNe x y H Q
theorem dec_int {i j:Int}:decide (V.int i=V.int j)=(i == j):=by
 rw [Bool.eq_iff_iff]
 simp
theorem dec_bl {i j:Bool}:decide (V.bl i=V.bl j)=(i == j):=by
 rw [Bool.eq_iff_iff]
 simp
theorem dec_str {i j:Str}:decide (V.str i=V.str j)=(i == j):=by
 rw [Bool.eq_iff_iff]
 simp
theorem dec_byt {i j:Array UInt8}:decide (V.byt i=V.byt j)=(i.toList == j.toList):=by
 rw [Bool.eq_iff_iff]
 cases i
 cases j
 simp
section
variable {X:Cx} {a b c:Expr} {ta tb tc:TE} {pos:Pos}
theorem fin_bl {pins:List (Addr×Obj)} {σ:St} {H:Hp} {s:Shared} {Q:VK} {k k':Bool} (I:Inv X pins σ H s) (q:Q (.bl k) H) (e:k=k'):EP X pins σ Q (.bool k') s:=by
 subst e
 exact ⟨.bl k,H,I,rfl,q⟩
theorem op_eq:OpR X (compareOp .Eq) rEq:=by
 intro pins s σ H x y v u Q I rx ry h
 obtain ⟨hs,q⟩:=h
 cases x with
 | non =>
  cases rx
  cases y with
  | non=>cases ry;exact PySem.EqNone.eq_none_none (fin_bl I q (by simp))
  | bl j=>cases ry;exact PySem.EqNone.eq_none_bool (fin_bl I q (by simp))
  | int j=>obtain ⟨t',rfl⟩:=ry;exact PySem.EqNone.eq_none_int (fin_bl I q (by simp))
  | str j=>obtain ⟨t',rfl⟩:=ry;exact PySem.EqNone.eq_none_str (fin_bl I q (by simp))
  | _=>exact absurd (show false=true from hs) Bool.false_ne_true
 | bl i =>
  cases rx
  cases y with
  | non=>cases ry;exact PySem.EqNone.eq_bool_none (fin_bl I q (by simp))
  | bl j=>cases ry;exact eq_bool (fin_bl I q dec_bl)
  | str j=>obtain ⟨t',rfl⟩:=ry;exact PySem.EqMixed.eq_bool_str (fin_bl I q (by simp))
  | _=>exact absurd (show false=true from hs) Bool.false_ne_true
 | int i =>
  obtain ⟨t,rfl⟩:=rx
  cases y with
  | non=>cases ry;exact PySem.EqNone.eq_int_none (fin_bl I q (by simp))
  | int j=>obtain ⟨t',rfl⟩:=ry;exact eq_int (fin_bl I q dec_int)
  | str j=>obtain ⟨t',rfl⟩:=ry;exact PySem.EqMixed.eq_int_str (fin_bl I q (by simp))
  | _=>exact absurd (show false=true from hs) Bool.false_ne_true
 | str i =>
  obtain ⟨t,rfl⟩:=rx
  cases y with
  | non=>cases ry;exact PySem.EqNone.eq_str_none (fin_bl I q (by simp))
  | bl j=>cases ry;exact PySem.EqMixed.eq_str_bool (fin_bl I q (by simp))
  | int j=>obtain ⟨t',rfl⟩:=ry;exact PySem.EqMixed.eq_str_int (fin_bl I q (by simp))
  | str j=>obtain ⟨t',rfl⟩:=ry;exact eq_str (fin_bl I q dec_str)
  | _=>exact absurd (show false=true from hs) Bool.false_ne_true
 | byt i =>
  obtain ⟨t,rfl⟩:=rx
  cases y with
  | byt j=>obtain ⟨t',rfl⟩:=ry;exact PySem.W.eq_bytes (fin_bl I q dec_byt)
  | _=>exact absurd (show false=true from hs) Bool.false_ne_true
 | _=>cases y<;>exact absurd (show false=true from hs) Bool.false_ne_true
theorem op_ne:OpR X (compareOp .NotEq) rNe:=by
 intro pins s σ H x y v u Q I rx ry h
 obtain ⟨hs,q⟩:=h
 cases x with
 | non =>
  cases rx
  cases y with
  | non=>cases ry;exact PySem.EqNone.ne_none_none (fin_bl I q (by simp))
  | bl j=>cases ry;exact PySem.EqNone.ne_none_bool (fin_bl I q (by simp))
  | int j=>obtain ⟨t',rfl⟩:=ry;exact PySem.EqNone.ne_none_int (fin_bl I q (by simp))
  | str j=>obtain ⟨t',rfl⟩:=ry;exact PySem.EqNone.ne_none_str (fin_bl I q (by simp))
  | _=>exact absurd (show false=true from hs) Bool.false_ne_true
 | bl i =>
  cases rx
  cases y with
  | non=>cases ry;exact PySem.EqNone.ne_bool_none (fin_bl I q (by simp))
  | bl j=>cases ry;exact ne_bool (fin_bl I q (congrArg not dec_bl))
  | str j=>obtain ⟨t',rfl⟩:=ry;exact PySem.EqMixed.ne_bool_str (fin_bl I q (by simp))
  | _=>exact absurd (show false=true from hs) Bool.false_ne_true
 | int i =>
  obtain ⟨t,rfl⟩:=rx
  cases y with
  | non=>cases ry;exact PySem.EqNone.ne_int_none (fin_bl I q (by simp))
  | int j=>obtain ⟨t',rfl⟩:=ry;exact ne_int (fin_bl I q (congrArg not dec_int))
  | str j=>obtain ⟨t',rfl⟩:=ry;exact PySem.EqMixed.ne_int_str (fin_bl I q (by simp))
  | _=>exact absurd (show false=true from hs) Bool.false_ne_true
 | str i =>
  obtain ⟨t,rfl⟩:=rx
  cases y with
  | non=>cases ry;exact PySem.EqNone.ne_str_none (fin_bl I q (by simp))
  | bl j=>cases ry;exact PySem.EqMixed.ne_str_bool (fin_bl I q (by simp))
  | int j=>obtain ⟨t',rfl⟩:=ry;exact PySem.EqMixed.ne_str_int (fin_bl I q (by simp))
  | str j=>obtain ⟨t',rfl⟩:=ry;exact ne_str (fin_bl I q (congrArg not dec_str))
  | _=>exact absurd (show false=true from hs) Bool.false_ne_true
 | byt i =>
  obtain ⟨t,rfl⟩:=rx
  cases y with
  | byt j=>obtain ⟨t',rfl⟩:=ry;exact PySem.W.ne_bytes (fin_bl I q (congrArg not dec_byt))
  | _=>exact absurd (show false=true from hs) Bool.false_ne_true
 | _=>cases y<;>exact absurd (show false=true from hs) Bool.false_ne_true
theorem op_lt:OpR X (compareOp .Lt) (rI0 fun i j=>.bl (decide (i<j))):=opB0 fun _ _ _ _ _ _ _ q=>lt_int q
theorem op_gt:OpR X (compareOp .Gt) (rI0 fun i j=>.bl (decide (j<i))):=opB0 fun _ _ _ _ _ _ _ q=>gt_int q
inductive op_notNY (x:V) (y:V) (H:Hp) (Q:VK):Prop
 | mk:(y=.non)→(Q (.bl (!decide (x=.non))) H)→op_notNY x y H Q
theorem op_notN:OpR X (compareOp .IsNot) op_notNY:=by
 intro pins s σ H x y v u Q I rx ry h
 obtain ⟨rfl,q⟩:=h
 cases ry
 refine isnot_none_gen (fin_bl I q ?_)
 cases x<;>first
  | (cases rx;rfl)
  | (obtain ⟨t,rfl⟩:=rx;rfl)
/-- two rules for one operation: by cases -/
theorem OpR.or {f:Value→Value→Sem Value} {r r':R2} (h:OpR X f r) (h':OpR X f r'):OpR X f (fun x y H Q=>r x y H Q∨r' x y H Q):=by
 intro pins s σ H x y v u Q I rx ry q
 rcases q with q | q
 ·exact h pins s σ H x y v u Q I rx ry q
 ·exact h' pins s σ H x y v u Q I rx ry q
theorem nomark (b:Expr) {op:CmpOp} (h:op≠.In:=by decide) (h2:op≠.NotIn:=by decide):behindInMarks op b=false:=by
 have e1:(op == CmpOp.In)=false:=by cases op<;>first | rfl | exact absurd rfl h
 have e2:(op == CmpOp.NotIn)=false:=by cases op<;>first | rfl | exact absurd rfl h2
 cases b<;>simp [behindInMarks,e1,e2]
/-- a comparison as a value; hm: nomark b, or (for in, not in) by with_unfolding_all rfl -/
theorem pe_cmpR {op:CmpOp} {r:R2} (ho:OpR X (compareOp op) r) (ha:PE X a ta) (hb:PE X b tb) (hm:behindInMarks op b=false):PE X (.Compare a [op] [b] pos) (tOp r ta tb):=by
 intro pins s σ H Q I h
 exact wpAny_Compare1 (binT ha hb I h fun v u s2 x y H2 I2 rx ry q=>ho pins s2 σ H2 x y v u Q I2 rx ry q) hm
/-- a reading of a value as a test -/
inductive tTestY (Q:Bool→Hp→Prop) (x:V) (H':Hp):Prop
 | mk:∀ k,(x=.bl k)→(Q k H')→tTestY Q x H'
def tTest (t:TE):TT:=fun σ H Q=>t σ H fun x H'=>tTestY Q x H'
theorem pt_cmpR {op:CmpOp} {r:R2} (ho:OpR X (compareOp op) r) (ha:PE X a ta) (hb:PE X b tb) (hm:behindInMarks op b=false):PT X (.Compare a [op] [b] pos) (tTest (tOp r ta tb)):=by
 intro pins s σ H Q I h
 refine wpAny_isTrue_Compare1 (thn (ha pins s σ H _ I h) fun v s1 ⟨x,H1,I1,r1,q1⟩=>thn (hb pins s1 σ H1 _ I1 q1) fun u s2 ⟨y,H2,I2,r2,q2⟩ =>
  thn (ho pins s2 σ H2 x y v u _ I2 r1 r2 q2) fun c s3 ⟨z,H3,I3,r3,k,e,q3⟩=>?_) hm
 subst e
 cases r3
 exact wpAny_truthy_bool ⟨H3,I3,q3⟩
/-- a value's truth by the abstract heap -/
def TruV (K:PySem.W.Frag) (x:V) (H:Hp) (k:Bool):Prop :=
 match x with
 | .non=>k=false
 | .bl b=>k=b
 | .int i=>k=(i != 0)
 | .str y=>y.length≤sizeLine∧k=((y.length:Int) != 0)
 | .byt y=>y.size≤sizeLine∧k=((y.size:Int) != 0)
 | .ref p=>(∃ xs,SqL K H p xs∧k = !xs.isEmpty)∨(∃ xs,SqT K H p xs∧k = !xs.isEmpty)∨∃ kvs,H p=some (.dK kvs)∧k = !kvs.isEmpty
 | _=>False
theorem isEmpty_kv {κ:Type} {kvs:List (κ×V)} {vs:List (κ×Value)} (r:KV kvs vs):(!vs.isEmpty) = !kvs.isEmpty:=by
 cases r<;>rfl
theorem isEmpty_of {xs:List V} {its:List Value} (r:Vals xs its):(!its.toArray.isEmpty) = !xs.isEmpty:=by
 cases r<;>simp
theorem line63:(sizeLine:Nat)<2 ^ 63:=by rw [sizeLine_eq];decide
theorem tru_ok:TruR X (fun x H Q=>∃ k,TruV X.K x H k∧Q k H):=by
 intro pins s σ H x v Q I rx h
 obtain ⟨k,e,q⟩:=h
 have hl:=line63
 have hs:sizeLine=16777216:=sizeLine_eq
 cases x with
 | non =>
  cases rx
  have e':k=false:=e
  subst e'
  exact truthy_none ⟨H,I,q⟩
 | bl b =>
  cases rx
  have e':k=b:=e
  subst e'
  exact wpAny_truthy_bool ⟨H,I,q⟩
 | int i =>
  obtain ⟨t,rfl⟩:=rx
  have e':k=(i != 0):=e
  subst e'
  exact PySem.P.truthy_int ⟨H,I,q⟩
 | str y =>
  obtain ⟨t,rfl⟩:=rx
  obtain ⟨hy,e'⟩ : y.length≤sizeLine∧k=((y.length:Int) != 0):=e
  subst e'
  exact PySem.P.truthy_str (by omega) ⟨H,I.tok _,q⟩
 | byt y =>
  obtain ⟨t,rfl⟩:=rx
  obtain ⟨hy,e'⟩ : y.size≤sizeLine∧k=((y.size:Int) != 0):=e
  subst e'
  exact PySem.W.truthy_bytes (by omega) ⟨H,I.tok _,q⟩
 | ref p =>
  cases rx
  have e':(∃ xs,SqL X.K H p xs∧k = !xs.isEmpty)∨(∃ xs,SqT X.K H p xs∧k = !xs.isEmpty)∨∃ kvs,H p=some (.dK kvs)∧k = !kvs.isEmpty:=e
  rcases e' with ⟨xs,hx,e'⟩ | ⟨xs,hx,e'⟩ | ⟨kvs,hx,e'⟩
  ·subst e'
   obtain ⟨its,r,pl,hz⟩:=I.list hx
   have hlen:=r.length
   exact wpAny_truthy_list pl.isList (by simp only [List.size_toArray];omega) ⟨H,I.tok _,by rw [isEmpty_of r];exact q⟩
  ·subst e'
   obtain ⟨its,r,pl,hz⟩:=I.tuple hx
   have hlen:=r.length
   exact truthy_tuple pl (by simp only [List.size_toArray];omega) ⟨H,I.tok _,by rw [isEmpty_of r];exact q⟩
  ·subst e'
   obtain ⟨hz,hS,vs,r,m⟩ : kvs.length≤sizeLine∧(p == sysModules)=false∧∃ vs,KV kvs vs∧s.heap.DictOf (mixKind X.prog X.w) p vs:=I.hok p _ hx
   have hlen:kvs.length=vs.length:=Paired.length r
   exact wpAny_truthy_dict hS m (by omega) ⟨H,I.tok _,by rw [isEmpty_kv r];exact q⟩
 | _=>exact (show False from e).elim
/-- any expression whose test is its value's truth (a name, a call, a subscript, a field ..: he by fun _ => rfl) -/
theorem pt_truth (ha:PE X a ta) (he:∀ whole,isTrue a X.env whole=(do let v ←whole;standAt a.pos;holding [v] (truthy v))) :
  PT X a (fun σ H Q=>ta σ H fun x H'=>∃ k,TruV X.K x H' k∧Q k H'):=by
 intro pins s σ H Q I h
 exact isTrue_plain (thn (ha pins s σ H _ I h) fun v s1 ⟨x,H1,I1,r1,q1⟩=>tru_ok pins s1 σ H1 x v Q I1 r1 q1) (he _)
theorem vals1 {x:V} {us:List Value} (r:Vals [x] us):∃ u,us=[u]∧RelV x u:=by
 cases r with
 | cons r1 r2=>cases r2;exact ⟨_,rfl,r1⟩
theorem vals2 {x y:V} {us:List Value} (r:Vals [x,y] us):∃ u w',us=[u,w']∧RelV x u∧RelV y w':=by
 cases r with
 | cons r1 r2 =>
  cases r2 with
  | cons r3 r4=>cases r4;exact ⟨_,_,rfl,r1,r3⟩
inductive call_absY (xs:List V) (H:Hp) (Q:VK):Prop
 | mk:∀ i,(xs=[.int i])→(Q (.int (if i<0 then -i else i)) H)→call_absY xs H Q
theorem call_abs:CallR X (.builtin "abs") call_absY:=by
 intro pins s σ H xs us Q I r h
 obtain ⟨i,rfl,q⟩:=h
 obtain ⟨u,rfl,t,rfl⟩:=vals1 r
 exact call_abs_int fun u tk=>⟨.int (if i<0 then -i else i),H,I.tok _,⟨_,rfl⟩,q⟩
inductive call_max2Y (xs:List V) (H:Hp) (Q:VK):Prop
 | mk:∀ i j,(xs=[.int i,.int j])→(Q (.int (if j>i then j else i)) H)→call_max2Y xs H Q
theorem call_max2 (hc:X.calm=true):CallR X (.builtin "max") call_max2Y:=by
 intro pins s σ H xs us Q I r h
 obtain ⟨i,j,rfl,q⟩:=h
 obtain ⟨u,w',rfl,⟨t,rfl⟩,⟨t',rfl⟩⟩:=vals2 r
 refine max_two_ints (I.ok.hd hc) fun h' tk k=>⟨_,H,I.kept k,?_,q⟩
 by_cases hj:j>i
 ·rw [if_pos hj,if_pos hj];exact ⟨_,rfl⟩
 ·rw [if_neg hj,if_neg hj];exact ⟨_,rfl⟩
inductive call_min2Y (xs:List V) (H:Hp) (Q:VK):Prop
 | mk:∀ i j,(xs=[.int i,.int j])→(Q (.int (if j<i then j else i)) H)→call_min2Y xs H Q
theorem call_min2 (hc:X.calm=true):CallR X (.builtin "min") call_min2Y:=by
 intro pins s σ H xs us Q I r h
 obtain ⟨i,j,rfl,q⟩:=h
 obtain ⟨u,w',rfl,⟨t,rfl⟩,⟨t',rfl⟩⟩:=vals2 r
 refine min_two_ints (I.ok.hd hc) fun h' tk k=>⟨_,H,I.kept k,?_,q⟩
 by_cases hj:j<i
 ·rw [if_pos hj,if_pos hj];exact ⟨_,rfl⟩
 ·rw [if_neg hj,if_neg hj];exact ⟨_,rfl⟩
theorem call_int1:CallR X (.type "int") (fun xs H Q=>(∃ i,xs=[.int i]∧Q (.int i) H)∨∃ k,xs=[.bl k]∧Q (.int (if k then 1 else 0)) H):=by
 intro pins s σ H xs us Q I r h
 rcases h with ⟨i,rfl,q⟩ | ⟨k,rfl,q⟩
 ·obtain ⟨u,rfl,t,rfl⟩:=vals1 r
  exact call_int_int ⟨.int i,H,I,⟨_,rfl⟩,q⟩
 ·obtain ⟨u,rfl,r1⟩:=vals1 r
  cases r1
  exact call_int_bool ⟨.int (if k then 1 else 0),H,I.tok _,⟨_,rfl⟩,q⟩
end
end L2
namespace L2
open PySem PySem.Spec PyProof.Rows
structure ObjM (h:Heap) (x dx C:Addr) (mA:Str→Option Value):Prop where
 obj:h.get? x=some (PySem.W.instObj C dx)
 ns:h.Ns1 dx mA
 ne:dx≠x
theorem lookIn_ns {h:Heap} {dx:Addr} {mA:Str→Option Value} (n:h.Ns1 dx mA):∃ od,h.get? dx=some od∧∀ name,PySem.W.lookIn name od=some (mA name):=by
 obtain ⟨o,es,ep,ho,hd,hk,_,hm⟩:=n
 refine ⟨o,ho,fun name=>?_⟩
 have e:=hm name
 unfold nsFind findBy at e
 rw [←Array.find?_toList] at e
 unfold PySem.W.lookIn
 rw [hd]
 dsimp only
 split
 ·rename_i y q
  rw [q] at e
  exact congrArg some e
 ·rename_i q
  rw [q] at e
  have a:es.toList.any (·.refKey)=false:=by
   rw [List.any_eq_false]
   intro y hy
   obtain ⟨z,t,hkey⟩:=hk y (Array.mem_toList_iff.mp hy)
   simp [DictEntry.refKey,hkey]
  have a':¬ es.toList.any (·.refKey)=true:=by rw [a];exact Bool.false_ne_true
  rw [if_neg a']
  exact congrArg some e
theorem ObjM.look {h:Heap} {x dx C:Addr} {mA:Str→Option Value} (I:ObjM h x dx C mA):∃ od,PySem.W.InstAt h x (PySem.W.instObj C dx) C (some od)∧∀ name,PySem.W.lookIn name od=some (mA name) :=
 let ⟨od,ho,hl⟩:=lookIn_ns I.ns
 ⟨od,⟨I.obj,rfl,rfl,ho⟩,hl⟩
section
variable {prog:Program} {w:World} {A:Around} {E:Value→Shared→Prop} {s:Shared} {K:PySem.W.Frag} {x dx C f:Addr} {mA:Str→Option Value} {name:Str} {v:Value}
end
theorem RelO.some_of {v:V} {o:Option Value} (r:RelO (some v) o):∃ u,o=some u∧RelV v u:=by
 cases o with
 | none=>exact (show False from r).elim
 | some u=>exact ⟨u,rfl,r⟩
theorem handed_of {v:V} {u:Value} (r:RelV v u):PySem.W.handedIn u=true:=by
 cases v with
 | non=>cases (show u=Value.none from r);rfl
 | bl b=>cases (show u=Value.bool b from r);rfl
 | int i=>obtain ⟨t,e⟩:=(show ∃ t,u=Value.int i t from r);cases e;rfl
 | str x=>obtain ⟨t,e⟩:=(show ∃ t,u=Value.str x t from r);cases e;rfl
 | byt b=>obtain ⟨t,e⟩:=(show ∃ t,u=Value.bytes b t from r);cases e;rfl
 | flt b=>obtain ⟨t,e⟩:=(show ∃ t,u=Value.float b t from r);cases e;rfl
 | ref a=>cases (show u=Value.ref a from r);rfl
 | ty n=>cases (show u=Value.type n from r);rfl
section
variable {P:Program} {w:World} {H H':Hp} {h h':Heap} {a C dx:Addr} {fs fs':List (Str×V)}
theorem ins_get (hok:HOk P w H h) (e:H a=some (.ins C dx fs)):∃ mA,ObjM h a dx C mA∧(∀ f,RelO (fs.lookup f) (mA f))∧PySem.Within mA (fs.map (·.1))∧fs.length≤1000∧H dx=some (.own a):=by
 obtain ⟨d,z,ne,ob,mA,n,r,q⟩:=(show ObjOk P w H h a (.ins C dx fs) from hok a _ e)
 exact ⟨mA,⟨ob,n,ne⟩,r,q,z,d⟩
end
structure Cls (K:PySem.W.Frag) (C:Addr):Prop where
 pg:PySem.W.plainGet K C Str.empty=true
 hd:PySem.W.hasDictIn K C=true
 po:PySem.W.plainOver K C=true
 sa:PySem.W.findIn K (.ref C) "__setattr__" = some (some (.builtin "object.__setattr__"))
theorem Cls.get {K:PySem.W.Frag} {C:Addr} (c:Cls K C) (f:Str):PySem.W.plainGet K C f=true:=c.pg
section
variable {X:Cx} {pins:List (Addr×Obj)} {σ:St} {H:Hp} {s:Shared} {a C dx:Addr} {fs:List (Str×V)} {f:Str} {v:V} {A:Around} {E:Value→Shared→Prop}
/-- a new instance, tracked, without attributes -/
theorem Inv.made (I:Inv X pins σ H s):Inv X pins σ (upd (upd H s.heap.objs.size (.own (s.heap.objs.size+1))) (s.heap.objs.size+1) (.ins C s.heap.objs.size []))
  { s with heap:=(s.heap.push PySem.W.emptyDict).push (PySem.W.instObj C s.heap.objs.size) }:=by
 have e1:(s.heap.push PySem.W.emptyDict).get? s.heap.objs.size=some PySem.W.emptyDict:=Heap.get?_push_size s.heap rfl
 have e2:((s.heap.push PySem.W.emptyDict).push (PySem.W.instObj C s.heap.objs.size)).get? (s.heap.objs.size+1)=some (PySem.W.instObj C s.heap.objs.size):=by
  have:=Heap.get?_push_size (s.heap.push PySem.W.emptyDict) (o:=PySem.W.instObj C s.heap.objs.size) rfl
  rwa [Heap.size_push] at this
 have e3:(s.heap.push PySem.W.emptyDict).Ns s.heap.objs.size (fun _=>none):=⟨PySem.W.emptyDict,#[],_,e1,rfl,(fun e he=>absurd he (by simp)),fun _=>rfl⟩
 have I1:=I.laid (a:=s.heap.objs.size) (o:=.own (s.heap.objs.size+1)) (h':=s.heap.push PySem.W.emptyDict) (t':=s.toks) (fun b u q=>Heap.get?_push_of_some _ q) (Nat.le_refl _) ⟨_,e1⟩
 refine I1.laid (a:=s.heap.objs.size+1) (o:=.ins C s.heap.objs.size []) (t':=s.toks) (fun b u q=>Heap.get?_push_of_some _ q) (Nat.le_of_eq (Heap.size_push _ _)) ?_
 have ne:s.heap.objs.size≠s.heap.objs.size+1:=Nat.ne_of_lt (Nat.lt_succ_self _)
 refine ⟨by rw [upd_ne ne,upd_same],Nat.zero_le _,ne,e2,fun _=>none,(Heap.Ns1.of_empty e3).at fun o q=>Heap.get?_push_of_some _ q,fun _=>True.intro,fun y hy=>absurd rfl hy⟩
/-- e.f where nothing but the object is asked: through attributeBase (super) and the last hold -/
theorem attr_of {prog:Program} {w:World} {env:Env} {e:Expr} {f:Str} {pos:Pos} {s:Shared} {Q:Value→Shared→Prop} (hb:attributeBase e f env (eval e env)=eval e env)
  (h:wpAny (model prog w) A (eval e env) (fun o s₁=>wpAny (model prog w) A (getAttr o f true) Q E s₁) E s):wpAny (model prog w) A (eval (.Attribute e f pos) env) Q E s :=
 Attribute_any_ h (by rw [arm_eval_Attribute,hb])
end
section
variable {X:Cx} {o e value:Expr} {f:Str} {pos pos' tpos:Pos} {ta tv:TE}
end
section
variable {X:Cx} {pins:List (Addr×Obj)} {σ:St} {H:Hp} {s:Shared} {A:Around} {E:Value→Shared→Prop} {Q:Value→Shared→Prop} {c:Value} {b:Bool}
/-- the type of a value, as the fragment's deciders take it; for an instance its class -/
inductive TyOf (K:PySem.W.Frag) (H:Hp):V→Value→Prop where
 | non:TyOf K H .non (.type "NoneType")
 | bl (x:Bool):TyOf K H (.bl x) (.type "bool")
 | int (i:Int):TyOf K H (.int i) (.type "int")
 | str (x:Str):TyOf K H (.str x) (.type "str")
 | flt (x:UInt64):TyOf K H (.flt x) (.type "float")
 | lst {a:Addr} {xs:List V} (e:H a=some (.lst xs)):TyOf K H (.ref a) (.type "list")
 | frz {a:Addr} {o:Obj} {xs:List V} (e:H a=some (.frz o (.lst xs))):TyOf K H (.ref a) (.type "list")
 | tup {a:Addr} {xs:List V} (e:H a=some (.tup xs)):TyOf K H (.ref a) (.type "tuple")
 | dK {a:Addr} {kvs:List (Key×V)} (e:H a=some (.dK kvs)):TyOf K H (.ref a) (.type "dict")
 | dT {a:Addr} {kvs:List (List Key×V)} (e:H a=some (.dT kvs)):TyOf K H (.ref a) (.type "dict")
 | ins {a C dx:Addr} {fs:List (Str×V)} (e:H a=some (.ins C dx fs)) (cl:Cls K C) (ha:PySem.W.findIn K (.ref C) "__class__" = some (some (.builtin "object.__class__")))
   (hn:PySem.W.specialIn K (.builtin "object.__class__") "__get__" = some (some (.builtin "getset_descriptor.__get__"))) (htk:PySem.W.takesIn K (.builtin "object.__class__")=some true)
   (hm:PySem.W.mroIn K C (.type "object")=some true):TyOf K H (.ref a) (.ref C)
/-- isinstance(x, c) for one class c, a built-in or an own one: kitOne's answer -/
theorem isinst_ok {x:V} {u t:Value} (I:Inv X pins σ H s) (rx:RelV x u) (ty:TyOf X.K H x t) (e:PySem.W.kitOne X.K t c=some b) (h:∀ tk,Q (.bool b) { s with toks:=tk }) :
  wpAny (model X.prog X.w) A (call (.builtin "isinstance") [u,c]) Q E s:=by
 cases ty with
 | non=>cases (show u=Value.none from rx);exact PySem.W.kia_one PySem.W.kitx_none I.kIn True.intro e (fun z=>nomatch z) h
 | bl y=>cases (show u=Value.bool y from rx);exact PySem.W.kia_one PySem.W.kitx_bool I.kIn True.intro e (fun z=>nomatch z) h
 | int i=>obtain ⟨t,q⟩:=(show ∃ t,u=Value.int i t from rx);cases q;exact PySem.W.kia_one PySem.W.kitx_int I.kIn True.intro e (fun z=>nomatch z) h
 | str y=>obtain ⟨t,q⟩:=(show ∃ t,u=Value.str y t from rx);cases q;exact PySem.W.kia_one PySem.W.kitx_str I.kIn True.intro e (fun z=>nomatch z) h
 | flt y=>obtain ⟨t,q⟩:=(show ∃ t,u=Value.float y t from rx);cases q;exact PySem.W.kia_one PySem.W.kitx_float I.kIn True.intro e (fun z=>nomatch z) h
 | @lst a xs ea =>
  cases (show u=Value.ref a from rx)
  obtain ⟨_,_,n,_,h1⟩:=(show ObjOk X.prog X.w H s.heap a (.lst xs) from I.hok a _ ea)
  exact PySem.W.kia_one PySem.W.kitx_list I.kIn ⟨_,h1,rfl⟩ e (fun z=>nomatch z) h
 | @frz a ob xs ea =>
  cases (show u=Value.ref a from rx)
  obtain ⟨_,_,_,n,_,h1⟩:=(show ObjOk X.prog X.w H s.heap a (.frz ob (.lst xs)) from I.hok a _ ea)
  exact PySem.W.kia_one PySem.W.kitx_list I.kIn ⟨_,h1,rfl⟩ e (fun z=>nomatch z) h
 | @tup a xs ea =>
  cases (show u=Value.ref a from rx)
  obtain ⟨_,_,_,p⟩:=(show ObjOk X.prog X.w H s.heap a (.tup xs) from I.hok a _ ea)
  obtain ⟨o,h1,h2,_⟩:=p
  exact PySem.W.kia_one PySem.W.kitx_tuple I.kIn ⟨o,h1,h2⟩ e (fun z=>nomatch z) h
 | @dK a kvs ea =>
  cases (show u=Value.ref a from rx)
  obtain ⟨_,_,vs,_,p⟩:=(show ObjOk X.prog X.w H s.heap a (.dK kvs) from I.hok a _ ea)
  obtain ⟨o,es,ep,h1,h2,_⟩:=p
  exact PySem.W.kia_one PySem.W.kitx_dict I.kIn ⟨o,h1,h2.1⟩ e (fun z=>nomatch z) h
 | @dT a kvs ea =>
  cases (show u=Value.ref a from rx)
  obtain ⟨_,_,xs,_,o,es,ep,h1,h2,_⟩:=(show ObjOk X.prog X.w H s.heap a (.dT kvs) from I.hok a _ ea)
  exact PySem.W.kia_one PySem.W.kitx_dict I.kIn ⟨o,h1,h2.1⟩ e (fun z=>nomatch z) h
 | @ins a C dx fs ea cl ha hn htk hm =>
  cases (show u=Value.ref a from rx)
  obtain ⟨mA,O,_⟩:=ins_get I.hok ea
  obtain ⟨od,J,_⟩:=O.look
  exact PySem.W.kia_one (PySem.W.kitx_own (cl.get _) cl.hd ha hn htk hm) I.kIn J e (fun z=>nomatch z) h
end
end L2
namespace L2
open PySem PySem.Spec PyProof.Rows
structure Room (k:Nat) (A:Around):Prop where
 hd:A.handled=none
 dp:A.depth+3*k+5<recursionLimit
 un:A.units+16*k+200<cLine
 gd:A.guards=some []
theorem Room.mono {j k:Nat} {A:Around} (r:Room k A) (h:j≤k):Room j A:=⟨r.hd,by have:=r.dp;omega,by have:=r.un;omega,r.gd⟩
theorem Room.deeper {k:Nat} {A:Around} (r:Room (k+1) A) (env:Env):Room k (A.deeper env) :=
 ⟨r.hd,by have:=r.dp;show A.depth+1+3*k+5<_;omega,by have:=r.un;show A.units+3+16*k+200<_;omega,r.gd⟩
theorem Room.in1 {k:Nat} {A:Around} (r:Room (k+1) A):Room k A.in1 :=
 ⟨r.hd,by have:=r.dp;show A.depth+3*k+5<_;omega,by have:=r.un;show A.units+1+16*k+200<_;omega,r.gd⟩
theorem make_depth {A:Around} {C:Addr} {us:List Value} {kw:List (Str×Value)}:(A.under (.builtin "type.__call__" ⟨.ref C::us,kw⟩)).depth=A.depth+1:=by
 first | rfl | simp [Around.under,Code.weight,Code.isCreation,Code.isGuard,Code.isCaller,Code.frames,Code.isFrame,guardIds]
theorem make_units {A:Around} {C:Addr} {us:List Value} {kw:List (Str×Value)}:(A.under (.builtin "type.__call__" ⟨.ref C::us,kw⟩)).units=A.units+1:=by
 first | rfl | simp [Around.under,Code.cUnits,Code.frames,Code.isFrame]
theorem make_guards {A:Around} {C:Addr} {us:List Value} {kw:List (Str×Value)}:(A.under (.builtin "type.__call__" ⟨.ref C::us,kw⟩)).guards=A.guards:=by
 first | rfl | simp [Around.under,Code.guards,Code.isGuard,guardIds,pushGuards]
theorem Room.make {k:Nat} {A:Around} (r:Room (k+1) A) (C:Addr) (us:List Value) (kw:List (Str×Value)):Room k (A.under (.builtin "type.__call__" ⟨.ref C::us,kw⟩)) :=
 ⟨r.hd,by have:=r.dp;rw [make_depth];omega,by have:=r.un;rw [make_units];omega,(by rw [make_guards];exact r.gd)⟩
theorem Room.depth {k:Nat} {A:Around} (r:Room k A):A.depth<recursionLimit:=by have:=r.dp;omega
theorem Room.units {k:Nat} {A:Around} (r:Room k A):A.units+64<cLine:=by have:=r.un;omega
def tNil:TA:=fun _ H Q=>Q [] H
def tCons (ta:TE) (tr:TA):TA:=fun σ H Q=>ta σ H fun x H1=>tr σ H1 fun xs H2=>Q (x::xs) H2
section
variable {X:Cx} {e:Expr} {es:List Expr} {te:TE} {t:TA} {pos:Pos}
theorem pa_nil:PA X [] tNil:=fun _ _ _ _ H Q I h=>Calls.spliced_nil ⟨[],H,I,.nil,h⟩
theorem pa_cons (ha:PE X e te) (hr:PA X es t) (hs:starEach (e::es) X.env=(false,eval e X.env)::starEach es X.env:=by rfl):PA X (e::es) (tCons te t):=by
 intro pos pins s σ H Q I h
 rw [hs]
 show wpAny _ _ (spliced ((false,eval e X.env)::backTo pos (starEach es X.env))) _ _ s
 refine Calls.spliced_cons (thn (ha pins s σ H _ I h) fun u s1 ⟨x,H1,I1,r1,q1⟩=>?_)
 exact thn (hr pos pins s1 σ H1 _ I1 q1) fun us s2 ⟨xs,H2,I2,r2,q2⟩=>⟨x::xs,H2,I2,.cons r1 r2,q2⟩
/-- a tuple, a list of written items -/
inductive tTupY (Q:VK) (xs:List V) (H1:Hp):Prop
 | mk:(xs.length≤sizeLine)→(∀ p,H1 p=none→Q (.ref p) (upd H1 p (.tup xs)))→tTupY Q xs H1
def tTup (t:TA):TE:=fun σ H Q=>t σ H fun xs H1=>tTupY Q xs H1
inductive tLstY (Q:VK) (xs:List V) (H1:Hp):Prop
 | mk:(xs.length≤sizeLine)→(∀ p,H1 p=none→Q (.ref p) (upd H1 p (.lst xs)))→tLstY Q xs H1
def tLst (t:TA):TE:=fun σ H Q=>t σ H fun xs H1=>tLstY Q xs H1
theorem pe_tup {x1} (h:PA X es t):PE X (.Tuple es x1 pos) (tTup t):=by
 intro pins s σ H Q I hq
 refine wpAny_Tuple_spliced (thn (h pos pins s σ H _ I hq) fun us s1 ⟨xs,H1,I1,r,z,q⟩=>⟨by rw [←r.length];exact z,?_⟩)
 have hf:H1 s1.heap.objs.size=none:=I1.hok.fresh (Nat.le_refl _)
 refine ⟨.ref s1.heap.objs.size,upd H1 s1.heap.objs.size (.tup xs),I1.laid (t':=s1.toks) (fun b u e=>Heap.get?_push_of_some _ e) (Nat.le_refl _) ?_,rfl,q _ hf⟩
 exact ⟨z,us,r,⟨_,Heap.get?_push_size _ rfl,rfl,_,rfl,rfl⟩⟩
theorem pe_lst (h:PA X es t):PE X (.List es pos) (tLst t):=by
 intro pins s σ H Q I hq
 refine wpAny_List_spliced (thn (h pos pins s σ H _ I hq) fun us s1 ⟨xs,H1,I1,r,z,q⟩=>⟨by rw [←r.length];exact z,?_⟩)
 have hf:H1 s1.heap.objs.size=none:=I1.hok.fresh (Nat.le_refl _)
 refine ⟨.ref s1.heap.objs.size,upd H1 s1.heap.objs.size (.lst xs),I1.laid (t':=s1.toks) (fun b u e=>Heap.get?_push_of_some _ e) (Nat.le_refl _) ?_,rfl,q _ hf⟩
 exact ⟨z,us,0,r,Heap.get?_push_size _ rfl⟩
end
/-- a def's promise: the bound arguments in the parameters' order, the heap, the wanted end, the wanted exception -/
abbrev Sp:=List V→Hp→VK→XK→Prop
/-- how an exception lies behind a call (file 08 gives it): the callers' frames, abstract heap and state ahead of the call, the wish, the exception, the state -/
abbrev CXT:=List Env→Hp→Shared→XK→Value→Shared→Prop
/-- the state at a call -/
structure Env0 (P:Program) (w:World) (K:PySem.W.Frag) (mg:Str→Option Value) (base:Heap) (A:Around) (outer:List Env) (s:Shared) (H:Hp):Prop where
 frames:A.frames=some outer
 mod:Mod K mg base
 bs:∀ b o,base.get? b=some o→s.heap.get? b=some o∧H b=none
 bsz:base.objs.size≤s.heap.objs.size
 funs:s.heap.FunFrames base outer
 frf:∀ b∈frs outer,H b=none
 hok:HOk P w H s.heap
 bare:AllBare s.gens
/-- a call's end -/
def CE (outer:List Env) (P:Program) (w:World) (H:Hp) (s:Shared) (Q:VK) (u:Value) (s':Shared):Prop :=
 ∃ v H',s'.os=s.os∧AllBare s'.gens∧Un (frs outer) [] H H' s.heap s'.heap∧HOk P w H' s'.heap∧RelV v u∧Q v H'
def CR (CX:CXT) (outer:List Env) (P:Program) (w:World) (H:Hp) (s:Shared) (Q:VK) (E:XK) (r:Result) (s':Shared):Prop :=
 match r with
 | .ok (.ret u)=>CE outer P w H s Q u s'
 | .ok _=>False
 | .error e=>CX outer H s E e s'
structure FnOk (P:Program) (w:World) (K:PySem.W.Frag) (mg:Str→Option Value) (base:Heap) (CX:CXT) (k:Nat) (f:Addr) (fd:FuncData) (ps:List Str) (sp:Sp):Prop where
 len:∀ vs H Q E,sp vs H Q E→vs.length=ps.length
 run:∀ (A:Around) (outer:List Env) (s:Shared) (H:Hp) (args:Args) (us:List Value) (vs:List V) (Q:VK) (E:XK),Room k A→Env0 P w K mg base A outer s H→BindsTo s fd args (ps.zip us)→Vals vs us→sp vs H Q E →
  codeAny (model P w) A (.call (.ref f) args) (CR CX outer P w H s Q E) s
theorem FnOk.mono {P:Program} {w:World} {K:PySem.W.Frag} {mg:Str→Option Value} {base:Heap} {CX:CXT} {j k:Nat} {f:Addr} {fd:FuncData} {ps:List Str} {sp:Sp} (F:FnOk P w K mg base CX j f fd ps sp) (h:j≤k) :
  FnOk P w K mg base CX k f fd ps sp:=⟨F.len,fun A outer s H args us vs Q E hr=>F.run A outer s H args us vs Q E (hr.mono h)⟩
/-- a weaker promise -/
theorem FnOk.imp {P:Program} {w:World} {K:PySem.W.Frag} {mg:Str→Option Value} {base:Heap} {CX:CXT} {k:Nat} {f:Addr} {fd:FuncData} {ps:List Str} {sp sp':Sp} (F:FnOk P w K mg base CX k f fd ps sp)
  (h:∀ vs H Q E,sp' vs H Q E→sp vs H Q E):FnOk P w K mg base CX k f fd ps sp' :=
 ⟨fun vs H Q E q=>F.len vs H Q E (h _ _ _ _ q),fun A outer s H args us vs Q E hr he hb hv hs=>F.run A outer s H args us vs Q E hr he hb hv (h _ _ _ _ hs)⟩
theorem Env0.make {P:Program} {w:World} {K:PySem.W.Frag} {mg:Str→Option Value} {base:Heap} {A:Around} {outer:List Env} {s:Shared} {H:Hp} (e:Env0 P w K mg base A outer s H) (C:Addr) (us:List Value) (kw:List (Str×Value)) :
  Env0 P w K mg base (A.under (.builtin "type.__call__" ⟨.ref C::us,kw⟩)) outer s H:=⟨by first | exact e.frames | (simpa [Around.under,Code.envs,Code.isFrame,pushEnvs] using e.frames),e.mod,e.bs,e.bsz,e.funs,e.frf,e.hok,e.bare⟩
theorem Env0.in1 {P:Program} {w:World} {K:PySem.W.Frag} {mg:Str→Option Value} {base:Heap} {A:Around} {outer:List Env} {s:Shared} {H:Hp} (e:Env0 P w K mg base A outer s H) :
  Env0 P w K mg base A.in1 outer s H:=⟨e.frames,e.mod,e.bs,e.bsz,e.funs,e.frf,e.hok,e.bare⟩
section
variable {X:Cx} {pins:List (Addr×Obj)} {σ:St} {H:Hp} {s s':Shared}
/-- from a body: what a callee wants -/
theorem Inv.env0 (I:Inv X pins σ H s):Env0 X.prog X.w X.K X.mg X.base X.A X.stack s H :=
 ⟨I.ok.frames,I.ok.mod,I.bs,Nat.le_trans I.ok.bsz I.sz,I.stack,I.stkFree,I.hok,I.bare⟩
/-- behind a call -/
theorem Inv.after {Q:VK} {u:Value} (I:Inv X pins σ H s) (h:CE X.stack X.prog X.w H s Q u s'):EP X pins σ Q u s':=by
 obtain ⟨v,H',os,bare,un,hok,r,q⟩:=h
 obtain ⟨hh,g,d,t,os'⟩:=s'
 obtain rfl:os'=s.os:=os
 exact ⟨v,H',I.call (h':=hh) (g':=g) (d':=d) (t':=t) (ch:=[]) un hok bare (fun b z=>absurd z (by simp)),r,q⟩
end
/-- f(..): the written arguments, then the defaults dvs; E: what is wanted of an exception -/
def tCall (sp:Sp) (dvs:List V) (E:XK) (t:TA):TE:=fun σ H Q=>t σ H fun vs H1=>sp (vs++dvs) H1 Q E
/-- how the parameters are bound: us the positional arguments, kw the keywords' values by name, ds the defaults that fill up -/
def Binds (K:PySem.W.Frag) (fd:FuncData) (ps:List Str) (ds:List Value):Prop :=
 ∀ (s:Shared) (us:List Value),K.In s.heap→(us++ds).length=ps.length→BindsTo s fd ⟨us,[]⟩ (ps.zip (us++ds))
/-- every parameter is given -/
theorem Binds.all {K:PySem.W.Frag} {fd:FuncData} {ps:List Str} (h:∀ us:List Value,us.length=ps.length→bindArgs fd ⟨us,[]⟩=pure (ps.zip us)):Binds K fd ps []:=fun s us _ hl=>by
 rw [List.append_nil] at hl ⊢
 exact .of_eq (h us hl)
/-- an exception of a callee reaches what this body wants of exceptions -/
def Passes (CX:CXT) (X:Cx) (E:XK):Prop:=∀ (pins:List (Addr×Obj)) (σ:St) (H:Hp) (s:Shared) (e:Value) (s':Shared),Inv X pins σ H s→CX X.stack H s E e s'→X.xe e s'
section
variable {X:Cx} {CX:CXT} {k:Nat} {f C:Addr} {fd:FuncData} {ps:List Str} {sp:Sp} {dvs:List V} {ds:List Value} {E:XK} {x m:Str} {p pos apos:Pos} {e o:Expr} {es:List Expr} {ta:TE} {t:TA}
/-- the callee runs -/
theorem run_fn {pins:List (Addr×Obj)} {σ:St} {H:Hp} {s:Shared} {Q:VK} {us:List Value} {vs:List V} (F:FnOk X.prog X.w X.K X.mg X.base CX k f fd ps sp) (hr:Room k X.A) (hb:Binds X.K fd ps ds) (hd:Vals dvs ds) (hx:Passes CX X E)
  (I:Inv X pins σ H s) (r:Vals vs us) (h:sp (vs++dvs) H Q E):wpAny (model X.prog X.w) X.A (call (.ref f) us) (EP X pins σ Q) X.xe s:=by
 have r2:Vals (vs++dvs) (us++ds):=r.append hd
 have hl:(us++ds).length=ps.length:=by rw [←r2.length];exact F.len _ _ _ _ h
 refine wpAny_call (codeAny_mono (F.run X.A X.stack s H ⟨us,[]⟩ (us++ds) (vs++dvs) Q E hr I.env0 (hb s us I.kIn hl) r2 h) fun r s' hq=>?_)
 cases r with
 | error e=>exact hx pins σ H s e s' I hq
 | ok fl =>
  cases fl with
  | ret u=>exact I.after hq
  | next=>exact False.elim hq
  | brk=>exact False.elim hq
  | cont=>exact False.elim hq
theorem pe_call (F:FnOk X.prog X.w X.K X.mg X.base CX k f fd ps sp) (hr:Room k X.A) (hg:Gl X x) (hm:X.mg x=some (.ref f)) (hk:PySem.W.keepIn X.K (.ref f)=true) (hb:Binds X.K fd ps ds) (hd:Vals dvs ds) (hx:Passes CX X E)
  (ha:PA X (e::es) t) (hdb:(x == ("__debug__" : Str))=false:=by decide) (he:starEach (e::es) X.env=(false,eval e X.env)::starEach es X.env:=by rfl) (hpl:(backTo pos (starEach es X.env)).any (·.1)=false:=by rfl) :
  PE X (.Call (.Name x p) (e::es) [] pos) (tCall sp dvs E t):=by
 intro pins s σ H Q I h
 refine wpAny_Call_Name_kw (ld_glob I hg hm ?_ hdb)
 refine PySem.W.callWith_K (h₀:=X.base) I.ok.mod.kin hk (thn (ha pos pins s σ H _ I h) fun us s1 ⟨vs,H1,I1,r,q⟩=>⟨I1.kIn,?_⟩) he hpl
 exact run_fn F hr hb hd hx I1 r q
end
section
variable {X:Cx} {CX:CXT} {k:Nat} {f C:Addr} {fd:FuncData} {ps ks:List Str} {sp:Sp} {E:XK} {x m:Str} {p pos apos kpos:Pos} {e o:Expr} {es:List Expr} {kws:List Keyword} {te ta:TE} {t tk:TA} {nm:Option Str}
variable {g:List Value→List Value→List Value} {gV:List V→List V→List V}
end
/-- names: the parameters first -/
structure FnScope (N P:List Str) (sc:Scope):Prop where
 kind:sc.kind=.function
 co:sc.isCoroutine=false
 gen:sc.isGenerator=false
 nd:N.Nodup
 pre:N.take P.length=P
 par:∀ x∈P,sc.names.lookup x=some .local∨sc.names.lookup x=some .cell
 nofree:∀ y∈sc.names,y.2≠.free
theorem bindL_out {kindOf:Str→Option NameKind} {x:Str}:∀ {binds:List (Str×Value)} {m:Str→Option Value},(∀ v,(x,v)∉binds)→bindL kindOf binds m x=m x
 | [],_,_=>rfl
 | (n,v)::r,m,h=>by
  unfold bindL
  rw [bindL_out fun w hw=>h w (List.mem_cons_of_mem _ hw)]
  split
  ·have:x≠n:=by rintro rfl;exact h v List.mem_cons_self
   simp [this]
  ·rfl
theorem bindC_out {kindOf:Str→Option NameKind} {x:Str}:∀ {binds:List (Str×Value)} {m:Str→Option Value},(∀ v,(x,v)∉binds)→bindC kindOf binds m x=m x
 | [],_,_=>rfl
 | (n,v)::r,m,h=>by
  unfold bindC
  rw [bindC_out fun w hw=>h w (List.mem_cons_of_mem _ hw)]
  split
  ·rfl
  ·have:x≠n:=by rintro rfl;exact h v List.mem_cons_self
   simp [this]
theorem bindL_get {kindOf:Str→Option NameKind} {x:Str} {v:Value}:∀ {P:List Str} {vs:List Value} {i:Nat} {m:Str→Option Value},P.Nodup→P[i]?=some x→vs[i]?=some v→kindOf x=some .local →
  bindL kindOf (P.zip vs) m x=some v
 | [],_,_,_,_,h,_,_=>by simp at h
 | _::_,[],_,_,_,_,h,_=>by simp at h
 | p::P,w::vs,0,m,nd,h1,h2,hk=>by
  simp at h1 h2;subst h1;subst h2
  show bindL kindOf ((p,w)::P.zip vs) m p=_
  unfold bindL
  rw [bindL_out fun v hv=>(List.nodup_cons.mp nd).1 (List.of_mem_zip hv).1,if_pos hk]
  simp
 | p::P,w::vs,i+1,m,nd,h1,h2,hk=>by
  show bindL kindOf ((p,w)::P.zip vs) m x=_
  unfold bindL
  exact bindL_get (i:=i) (List.nodup_cons.mp nd).2 (by simpa using h1) (by simpa using h2) hk
theorem bindC_get {kindOf:Str→Option NameKind} {x:Str} {v:Value}:∀ {P:List Str} {vs:List Value} {i:Nat} {m:Str→Option Value},P.Nodup→P[i]?=some x→vs[i]?=some v→kindOf x≠some .local →
  bindC kindOf (P.zip vs) m x=some v
 | [],_,_,_,_,h,_,_=>by simp at h
 | _::_,[],_,_,_,_,h,_=>by simp at h
 | p::P,w::vs,0,m,nd,h1,h2,hk=>by
  simp at h1 h2;subst h1;subst h2
  show bindC kindOf ((p,w)::P.zip vs) m p=_
  unfold bindC
  rw [bindC_out fun v hv=>(List.nodup_cons.mp nd).1 (List.of_mem_zip hv).1,if_neg hk]
  simp
 | p::P,w::vs,i+1,m,nd,h1,h2,hk=>by
  show bindC kindOf ((p,w)::P.zip vs) m x=_
  unfold bindC
  exact bindC_get (i:=i) (List.nodup_cons.mp nd).2 (by simpa using h1) (by simpa using h2) hk
/-- the names' values at the entry -/
def start (N:List Str) (vs:List V):St:=vs.map some++List.replicate (N.length-vs.length) none
/-- the context of a def's body, at its entry; an exception leaves the frame, then lies as CX says -/
def cxOf (CX:CXT) (P:Program) (w:World) (K:PySem.W.Frag) (mg:Str→Option Value) (base:Heap) (N:List Str) (qual:Str) (scope:Scope) (f:Addr) (cd:Value) (A:Around) (outer:List Env) (s:Shared) (H:Hp) (E:XK):Cx where
 prog:=P
 w:=w
 K:=K
 mg:=mg
 base:=base
 A:=A.deeper (envOfC qual scope s.heap.objs.size f cd)
 N:=N
 s₀:=s
 H₀:=H
 env:=envOfC qual scope s.heap.objs.size f cd
 outer:=outer
 stack:=envOfC qual scope s.heap.objs.size f cd::outer
 ex:=[]
 calm:=true
 fn:=fun _=>true
 pn:=[]
 xe:=fun e s'=>wpAny (model P w) (A.deeper (envOfC qual scope s.heap.objs.size f cd)) (leaving (envOfC qual scope s.heap.objs.size f cd) e) (fun _ s''=>CX outer H s E e s'') (fun e' s''=>CX outer H s E e' s'') s'
theorem cell_has {sc:Scope} {n:Nat} {x:Str} (h:sc.names.lookup x=some .cell):∃ c,(cellsFrom n sc.names []).lookup x=some c:=by
 have q:=PySem.W.cellsFrom_some sc.names n [] (.inl h)
 exact Option.isSome_iff_exists.mp q
theorem inv_start {CX:CXT} {P:Program} {w:World} {K:PySem.W.Frag} {mg:Str→Option Value} {base:Heap} {N ps:List Str} {qual:Str} {scope:Scope} {f:Addr} {cd:Value} {A:Around} {outer:List Env} {s s1:Shared} {H:Hp} {E:XK} {us:List Value} {vs:List V}
  (S:FnScope N ps scope) (hd:A.handled=none) (e0:Env0 P w K mg base A outer s H) (hl:vs.length=ps.length) (r:Vals vs us)
  (x:InCallC s s.heap.objs.size (bindL (envOfC qual scope s.heap.objs.size f cd).kindOf (ps.zip us) fun _=>none) (cellsFrom (s.heap.objs.size+1) scope.names []) (bindC (envOfC qual scope s.heap.objs.size f cd).kindOf (ps.zip us) fun _=>none) s1) :
  Inv (cxOf CX P w K mg base N qual scope f cd A outer s H E) [] (start N vs) H s1:=by
 have hpl:ps.length≤N.length:=by have:=congrArg List.length S.pre;rw [List.length_take] at this;omega
 obtain ⟨h1,tk,rfl,hk⟩:=x.done
 have noA:∀ b:Addr,b∉(cxOf CX P w K mg base N qual scope f cd A outer s H E).ex:=fun b z=>absurd (show b∈([]:List Addr) from z) (by simp)
 refine ⟨⟨e0.mod,S.kind,rfl,rfl,Nat.le_refl _,fun y z c h1 h2=>?_,fun y hy=>?_,fun y c _ h=>?_,fun _=>hd,Around.frames_deeper e0.frames,.inr ⟨rfl,rfl⟩,fun b z=>absurd z (noA b),e0.bs,e0.bsz,fun b _ _=>noA b,fun b z=>absurd z (noA b),e0.funs,e0.frf⟩,
  rfl,e0.bare,Un.kept hk,⟨_,x.toInCall.ns,fun i y v h1 h2 h3=>?_⟩,fun y c h=>⟨_,x.cell y c h⟩,e0.hok.fresh (Nat.le_refl _),fun y c h=>?_,fun p hp=>absurd (show p∈([]:List (Addr×Obj)) from hp) (by simp),e0.hok.kept hk,?_⟩
 ·exact name_of_addr x.apart (PySem.mem_of_lookup h1) (PySem.mem_of_lookup h2)
 ·have hy:scope.names.lookup y=some .cell∨scope.names.lookup y=some .free:=hy
  rcases hy with hy | hy
  ·exact cell_has hy
  ·exact absurd rfl (S.nofree _ (PySem.mem_of_lookup hy))
 ·exact Nat.le_of_lt (x.above y c (PySem.mem_of_lookup h))
 ·have hi:i<vs.length:=by
   unfold start at h2
   by_cases hi:i<vs.length
   ·exact hi
   ·rw [List.getElem?_append_right (by simpa using hi)] at h2
    rw [List.getElem?_replicate] at h2
    split at h2<;>cases h2
  have ha:vs[i]?=some v:=by
   unfold start at h2
   rw [List.getElem?_append_left (by simpa using hi),List.getElem?_map] at h2
   cases e:vs[i]? with
   | none=>rw [e] at h2;cases h2
   | some a=>rw [e] at h2;cases h2;rfl
  obtain ⟨u,hu,rv⟩:=r.get ha
  have hp:ps[i]?=some y:=by
   rw [←S.pre,List.getElem?_take_of_lt (by omega)];exact h1
  have ndP:ps.Nodup:=by rw [←S.pre];exact S.nd.sublist (List.take_sublist _ _)
  refine ⟨u,rv,?_⟩
  rcases S.par y (List.mem_of_getElem? hp) with k | k
  ·exact .inl ⟨k,bindL_get ndP hp hu k⟩
  ·obtain ⟨c,e⟩:=cell_has (n:=s.heap.objs.size+1) k
   refine .inr ⟨.inl k,c,e,?_⟩
   have q:=x.cell y c e
   rw [bindC_get ndP hp hu (by show scope.names.lookup y≠_;rw [k];decide)] at q
   exact q
 ·exact e0.hok.fresh (Nat.le_of_lt (x.above y c (PySem.mem_of_lookup h)))
 ·unfold start
  show _=N.length
  rw [List.length_append,List.length_map,List.length_replicate]
  omega
/-- THE RULE: a def (or a method) of the text, by its body. The body's reading t is chosen for each entry; it is run at the parameters' values -/
theorem fn_of {CX:CXT} {P:Program} {w:World} {K:PySem.W.Frag} {mg:Str→Option Value} {base:Heap} {k:Nat} {f:Addr} {name qual:Str} {params:Arguments} {body:List Stmt} {scope:Scope} {dV kV doc pm cdv ct oc:Value} {an od:Option Addr}
  {osl:Array (Option Value)} {N ps:List Str} {sp:Sp} (lk:K.lookup f=some ⟨oc,od,.func (PySem.W.fnOf name qual params body scope dV kV doc pm an cdv ct),osl⟩) (hcd:PySem.W.codeIn K cdv qual=true) (S:FnScope N ps scope)
  (len:∀ vs H Q E,sp vs H Q E→vs.length=ps.length)
  (hbody:∀ (A:Around) (outer:List Env) (s:Shared) (H:Hp) (vs:List V) (Q:VK) (E:XK),Room k (A.deeper (envOfC qual scope s.heap.objs.size f cdv))→sp vs H Q E →
   ∃ t,PSs (cxOf CX P w K mg base N qual scope f cdv A outer s H E) body t∧t { nx:=fun _ H'=>Q .non H',rt:=Q } (start N vs) H) :
  FnOk P w K mg base CX (k+1) f (PySem.W.fnOf name qual params body scope dV kV doc pm an cdv ct) ps sp:=by
 refine ⟨len,fun A outer s H args us vs Q E hr e0 hb r hsp=>?_⟩
 have hl:=len _ _ _ _ hsp
 have KX:K.In s.heap:=e0.mod.kin.keeps fun b o e=>(e0.bs b o e).1
 have lim:s.heap.NoLimit:=e0.mod.nolimit.keeps fun b o e=>(e0.bs b o e).1
 have hkind:∀ y∈ps.zip us,scope.names.lookup y.1=some .local∨(scope.names.lookup y.1=some .cell∧((cellsFrom (s.heap.objs.size+1) scope.names []).lookup y.1).isSome=true):=fun ⟨n,v⟩ hy=>by
  rcases S.par n (List.of_mem_zip hy).1 with q | q
  ·exact .inl q
  ·exact .inr ⟨q,PySem.W.cellsFrom_some _ _ _ (.inl q)⟩
 refine codeAny_call_function hr.depth (KX _ _ lk) rfl S.co S.gen rfl (PySem.W.codeRec_of KX hcd) (hb _ _ _ _ ?_)
 refine wpAny_newFunctionEnv_cells S.kind hkind fun env he s1 x=>?_
 subst he
 refine ⟨lim.keeps x.toInCall.keep,codeAny_func ?_⟩
 obtain ⟨t,ht,hq⟩:=hbody A outer s H vs Q E (hr.deeper _) hsp
 have I:Inv (cxOf CX P w K mg base N qual scope f cdv A outer s H E) [] (start N vs) H s1:=inv_start S hr.hd e0 hl r x
 refine wpAny_mono (ht [] s1 (start N vs) H _ I hq) (fun fl s' hs=>?_) fun e s' hs=>hs
 have fin:∀ {σ':St} {H':Hp} {v:V} {u:Value},Inv (cxOf CX P w K mg base N qual scope f cdv A outer s H E) [] σ' H' s'→RelV v u→Q v H'→CE outer P w H s Q u s' :=
  fun {σ' H' v u} J rv q=>⟨v,H',J.os,J.bare,J.base,J.hok,rv,q⟩
 cases fl with
 | ret u =>
  obtain ⟨v,σ',H',J,rv,q⟩:=hs
  exact fin J rv q
 | next =>
  obtain ⟨σ',H',J,q⟩:=hs
  exact fin (v:=V.non) (u:=Value.none) J rfl q
 | brk =>
  obtain ⟨_,_,_,q⟩:=hs
  exact False.elim q
 | cont =>
  obtain ⟨_,_,_,q⟩:=hs
  exact False.elim q
end L2
namespace L2
open PySem PySem.Spec PyProof.Rows
section
variable {X:Cx} {x:Str} {p pos:Pos} {e:Expr} {es:List Expr} {t:TA} {id T:String} {r:List V→Hp→VK→Prop}
def tCB (r:List V→Hp→VK→Prop) (t:TA):TE:=fun σ H Q=>t σ H fun vs H1=>r vs H1 Q
/-- f(e, ..), f a built-in function -/
theorem pe_callB (hc:CallR X (.builtin id) r) (hg:Gl X x) (hm:X.mg x=none) (hv:bootBuiltins x=some (.builtin id)) (ha:PA X (e::es) t) (hn:x≠"__name__":=by decide) (hdb:(x == ("__debug__" : Str))=false:=by decide)
  (he:starEach (e::es) X.env=(false,eval e X.env)::starEach es X.env:=by rfl) (hpl:(backTo pos (starEach es X.env)).any (·.1)=false:=by rfl):PE X (.Call (.Name x p) (e::es) [] pos) (tCB r t):=by
 intro pins s σ H Q I h
 refine wpAny_Call_Name_kw (ld_blt I hg hm hv ?_ hn hdb)
 exact PyProof.Rows.callWith_builtin1 (thn (ha pos pins s σ H _ I h) fun us s1 ⟨vs,H1,I1,r1,q1⟩=>hc pins s1 σ H1 vs us Q I1 r1 q1) he hpl
/-- T(e, ..), T a built-in type -/
theorem pe_callTy (hc:CallR X (.type T) r) (hg:Gl X x) (hm:X.mg x=none) (hv:bootBuiltins x=some (.type T)) (ha:PA X (e::es) t) (hn:x≠"__name__":=by decide) (hdb:(x == ("__debug__" : Str))=false:=by decide)
  (he:starEach (e::es) X.env=(false,eval e X.env)::starEach es X.env:=by rfl) (hpl:(backTo pos (starEach es X.env)).any (·.1)=false:=by rfl):PE X (.Call (.Name x p) (e::es) [] pos) (tCB r t):=by
 intro pins s σ H Q I h
 refine wpAny_Call_Name_kw (ld_blt I hg hm hv ?_ hn hdb)
 exact PyProof.Rows.callWith_type1 (thn (ha pos pins s σ H _ I h) fun us s1 ⟨vs,H1,I1,r1,q1⟩=>hc pins s1 σ H1 vs us Q I1 r1 q1) he hpl
end
end L2
namespace HT
open PySem PyProof.Rows
/-- t < u of tuples of ints -/
def lexLt:List Int→List Int→Bool
 | [],[]=>false
 | [],_::_=>true
 | _::_,[]=>false
 | x::xs,y::ys=>if x=y then lexLt xs ys else decide (x<y)
theorem lexLt_cons (x y:Int) (xs ys:List Int):lexLt (x::xs) (y::ys)=if x=y then lexLt xs ys else decide (x<y):=rfl
theorem lexLt_nil_nil:lexLt [] []=false:=rfl
theorem lexLt_nil_cons (y:Int) (ys:List Int):lexLt [] (y::ys)=true:=rfl
theorem lexLt_cons_nil (x:Int) (xs:List Int):lexLt (x::xs) []=false:=rfl
theorem eqAt_int (A:Around) (s:Shared) (a:Int) (t:Tok) (c:Int) (u:Tok):∃ e,SeqAt.EqAt A s (.int a t) (.int c u) e∧(e=true↔a=c) :=
 ⟨(a == c),SeqAt.EqAt.int_int a t c u,by simp⟩
theorem rcLt_int (A:Around) (s:Shared) (a:Int) (t:Tok) (c:Int) (u:Tok) (prog:Program) (w:World) (E:Value→Shared→Prop) (Q:Value→Shared→Prop) (h:Q (.bool (decide (a<c))) s) :
  wpAny (model prog w) A (richCompare .Lt (.int a t) (.int c u)) Q E s :=
 (PyProof.Rows.lt_int h:wpAny (model prog w) A (compareOp .Lt (.int a t) (.int c u)) Q E s)
section
open PySem.SeqAt
open PySem.AutoSeq1 (wpAny_loadPart')
open PySem.MeetsSeq PySem.MeetsSeq2 PySem.MeetsSeq3
theorem tuple_lt_ints (l b:Addr) (items items2:Array Value) (n n2:Nat) (dd dd2:Option Addr) (sl sl2:Array (Option Value)) (ns ms:List Int) (hi:IntsAre items.toList ns) (hj:IntsAre items2.toList ms) :
  Meets (Builtin.«tuple.__lt__» ⟨[.ref l,.ref b],[]⟩)
   (fun _ R s=>s.heap.get? l=some { cls:=.type "tuple",dict:=dd,data:=.seq items n,slots:=sl }∧s.heap.get? b=some { cls:=.type "tuple",dict:=dd2,data:=.seq items2 n2,slots:=sl2 } ∧
    R (.ok (.ret (.bool (lexLt ns ms)))) s) :=
 .of_wp fun prog w A R s h=>by
  obtain ⟨hp,g,d,tk,os⟩:=s;obtain ⟨hl,hb,h⟩:=h
  have f2:=AutoSeq1.sub_tuple_tuple
  have z1:items.size=ns.length:=by rw [←hi.length];simp
  have z2:items2.size=ms.length:=by rw [←hj.length];simp
  wp_walk using wpAny_loadPart' hl,wpAny_loadPart' hb,wpAny_forIn_list _ (fun rest b s'=>b.1=none∧s'=⟨hp,g,d,tk,os⟩∧∃ (vs ws:List Value) (ns' ms':List Int),rest=vs.zip ws ∧
   IntsAre vs ns'∧IntsAre ws ms'∧ns'.length+items2.size=ms'.length+items.size∧R (.ok (.ret (.bool (lexLt ns' ms')))) ⟨hp,g,d,tk,os⟩) _
  case turn =>
   rintro ⟨y,x⟩ rest b s' ⟨hb',rfl,vs,ws,ns',ms',hz,hvi,hwi,hlen,hR⟩
   cases hvi with
   | nil=>rw [List.zip_nil_left] at hz;cases hz
   | cons a t hvi' =>
    cases hwi with
    | nil=>rw [List.zip_nil_right] at hz;cases hz
    | cons c u hwi' =>
     rw [List.zip_cons_cons] at hz
     injection hz with hyx hrest
     injection hyx with hy hx
     subst hy hx
     rw [lexLt_cons] at hR
     simp only [List.length_cons] at hlen
     obtain ⟨e,he,hiff⟩:=eqAt_int A.in1 ⟨hp,g,d,tk,os⟩ a t c u
     refine wpAny_bind (he prog w _ _ ?_)
     cases e with
     | true =>
      rw [if_pos (hiff.mp rfl)] at hR
      wp_walk
      exact ⟨rfl,rfl,_,_,_,_,hrest,hvi',hwi',by omega,hR⟩
     | false =>
      rw [if_neg (fun q=>absurd (hiff.mpr q) Bool.false_ne_true)] at hR
      have hri:=rcLt_int A.in1 ⟨hp,g,d,tk,os⟩ a t c u prog w
      wp_walk using hri
      exact ⟨_,rfl,by simpa using hR⟩
  case fin =>
   rintro ⟨b1,b2⟩ s' ⟨hb',rfl,vs,ws,ns',ms',hz,hvi,hwi,hlen,hR⟩
   simp only at hb'
   subst hb'
   have hv:lexLt ns' ms'=decide (items.size<items2.size):=by
    cases hvi with
    | nil =>
     cases hwi with
     | nil =>
      simp only [List.length_nil] at hlen
      rw [lexLt_nil_nil]
      exact (decide_eq_false (by omega)).symm
     | cons c u hw =>
      simp only [List.length_nil,List.length_cons] at hlen
      rw [lexLt_nil_cons]
      exact (decide_eq_true (by omega)).symm
    | cons a t hv =>
     cases hwi with
     | nil =>
      simp only [List.length_nil,List.length_cons] at hlen
      rw [lexLt_cons_nil]
      exact (decide_eq_false (by omega)).symm
     | cons c u hw =>
      rw [List.zip_cons_cons] at hz
      cases hz
   rw [hv] at hR
   wp_walk
   exact ⟨_,rfl,by simpa [Builtin.Tuple.tupleCompareSizes] using hR⟩
  case h =>
   exact ⟨rfl,rfl,items.toList,items2.toList,ns,ms,rfl,hi,hj,by omega,h⟩
end
section
variable {prog:Program} {w:World} {A:Around} {E:Value→Shared→Prop} {s:Shared}
theorem lt_tupInts {l b:Addr} {items items2:Array Value} {ns ms:List Int} {Q:Value→Shared→Prop} (hl:IsTup s.heap l items) (hb:IsTup s.heap b items2) (hi:IntsAre items.toList ns) (hj:IntsAre items2.toList ms)
  (hu:A.units<cLine) (h:Q (.bool (lexLt ns ms)) s):wpAny (model prog w) A (compareOp .Lt (.ref l) (.ref b)) Q E s:=by
 obtain ⟨⟨cls,dd,data,sl⟩,ho,hc,n,hd⟩:=id hl
 obtain ⟨⟨cls2,dd2,data2,sl2⟩,ho2,hc2,n2,hd2⟩:=id hb
 simp only at hc hd hc2 hd2
 subst hc hd hc2 hd2
 exact richCompare_meets_room (op:=.Lt) ⟨_,ho,rfl⟩ ⟨_,ho2,rfl⟩ PySem.F.slot_tuple_lt PySem.F.entry_tuple_lt (PySem.F.args_tuple_lt_2 _ _) (tuple_lt_ints l b items items2 n n2 dd dd2 sl sl2 ns ms hi hj)
  ⟨ho,ho2,show Value.bool (lexLt ns ms)≠Value.notImplemented∧Q (.bool (lexLt ns ms)) s from ⟨(fun x=>nomatch x),h⟩⟩ hu
/-- t + u, t not empty -/
theorem cat_tup {t b:Addr} {vs ws:List Value} {Q:Value→Shared→Prop} (ht:IsTup s.heap t vs.toArray) (hb:IsTup s.heap b ws.toArray) (hv:vs≠[])
  (h1:ws=[]→Q (.ref t) s) (h2:ws≠[]→Q (.ref s.heap.objs.size) { s with heap:=s.heap.push { cls:=.type "tuple",data:=.seq (vs++ws).toArray } })
  (hsz:vs.length+ws.length≤sizeLine):wpAny (model prog w) A (binaryOp .Add (.ref t) (.ref b)) Q E s:=by
 obtain ⟨⟨cls,dd,data,sl⟩,ho,hc,n,hd⟩:=id ht
 obtain ⟨⟨cls2,dd2,data2,sl2⟩,ho2,hc2,n2,hd2⟩:=id hb
 simp only at hc hd hc2 hd2
 subst hc hd hc2 hd2
 have e:vs.toArray++ws.toArray=(vs++ws).toArray:=by simp
 by_cases hw:ws=[]
 ·exact concat_meets ⟨_,ho,rfl⟩ ⟨_,ho2,rfl⟩ noFill_tuple_add seq_tuple_add PySem.F.slot_tuple_add PySem.F.entry_tuple_add (PySem.F.args_tuple_add_2 _ _)
   (tuple_addW1 t b vs.toArray ws.toArray n n2 dd dd2 sl sl2 (by simpa using hv) (by simp [hw])) ⟨ho,ho2,h1 hw⟩
 ·refine concat_meets ⟨_,ho,rfl⟩ ⟨_,ho2,rfl⟩ noFill_tuple_add seq_tuple_add PySem.F.slot_tuple_add PySem.F.entry_tuple_add (PySem.F.args_tuple_add_2 _ _)
   (tuple_addW2 t b vs.toArray ws.toArray n n2 dd dd2 sl sl2 (by simpa using hv) (by simpa using hw) (by rw [List.size_toArray,List.size_toArray];exact hsz)) ⟨ho,ho2,?_⟩
  rw [e]
  exact h2 hw
/-- a slice's bound as a place among n (d where it is left out) -/
def sIx (n d:Nat):Option Int→Nat
 | none=>d
 | some v=>if v<0 then (v+(n:Int)).toNat else min v.toNat n
theorem sIx_none (n d:Nat):sIx n d none=d:=rfl
theorem sIx_nat (n d k:Nat):sIx n d (some (k:Int))=min k n:=by
 show (if (k:Int)<0 then ((k:Int)+(n:Int)).toNat else min (k:Int).toNat n)=min k n
 rw [if_neg (by omega),Int.toNat_natCast]
theorem sIx_le (n d:Nat) (hd:d≤n) (o:Option Int):sIx n d o≤n:=by
 cases o with
 | none=>exact hd
 | some v =>
  show (if v<0 then (v+(n:Int)).toNat else min v.toNat n)≤n
  by_cases hv:v<0
  ·rw [if_pos hv];omega
  ·rw [if_neg hv];exact Nat.min_le_right _ _
theorem clip_eq (v:Int) (n d:Nat):(if v<0 then max (v+(n:Int)) 0 else min v (n:Int))=((sIx n d (some v):Nat):Int):=by
 show (if v<0 then max (v+(n:Int)) 0 else min v (n:Int))=(((if v<0 then (v+(n:Int)).toNat else min v.toNat n):Nat):Int)
 by_cases hv:v<0
 ·simp only [if_pos hv];omega
 ·simp only [if_neg hv];omega
theorem adjust_gen (lo hi:Option Int) (n:Nat):Builtin.Slice.sliceAdjust lo hi 1 (n:Int)=(((sIx n 0 lo:Nat):Int),((sIx n n hi:Nat):Int)):=by
 have h1:¬ ((1:Int)<0):=by omega
 unfold Builtin.Slice.sliceAdjust
 simp only [h1,if_false]
 refine Prod.ext ?_ ?_
 ·cases lo with
  | none=>rfl
  | some v=>exact clip_eq v n 0
 ·cases hi with
  | none=>rfl
  | some v=>exact clip_eq v n n
theorem places_gen (i j:Nat):Builtin.Slice.slicePlaces (i:Int) (j:Int) 1=j-i:=by
 unfold Builtin.Slice.slicePlaces
 have h1:(1:Int)>0:=by omega
 simp only [h1,if_true,Int.ediv_one]
 split<;>omega
theorem slicePart_ {v:Value} {o:Option Int} {Q:Option Int→Shared→Prop} (p:IsPart v o) (h:Q o s):wpAny (model prog w) A (Builtin.Slice.slicePartIndex v) Q E s:=by
 cases p with
 | none=>exact slicePart_none h
 | int i t=>exact slicePart_int h
theorem sliceApplied_gen {sl:Addr} {vl vu:Value} {lo hi:Option Int} {n:Nat} {Q:Int×Int×Nat→Shared→Prop} (hs:s.heap.IsSliceOf sl vl vu .none) (pl:IsPart vl lo) (pu:IsPart vu hi)
  (h:Q (((sIx n 0 lo:Nat):Int),1,sIx n n hi-sIx n 0 lo) s):wpAny (model prog w) A (Builtin.Slice.sliceApplied (.ref sl) (pure (n:Int))) Q E s:=by
 obtain ⟨os,hos,hcs,hds⟩:=id hs
 unfold Builtin.Slice.sliceApplied Builtin.Slice.sliceFields
 refine wpAny_bind (wpAny_bind (wpAny_field hos hds (x:=vl) rfl (wpAny_bind (wpAny_field hos hds (x:=vu) rfl (wpAny_bind (wpAny_field hos hds (x:=.none) rfl (wpAny_pure ?_)))))))
 refine wpAny_bind (slicePart_none ?_)
 show wpAny _ _ (if ((1:Int) == 0)=true then _ else _) _ _ s
 rw [if_neg (by decide)]
 refine wpAny_bind (slicePart_ pl (wpAny_bind (slicePart_ pu (wpAny_bind (wpAny_pure ?_)))))
 show wpAny _ _ (match Builtin.Slice.sliceAdjust lo hi 1 (n:Int) with | (lo,hi)=>pure (lo,(1:Int),Builtin.Slice.slicePlaces lo hi 1)) _ _ s
 rw [adjust_gen lo hi n]
 show wpAny _ _ (pure (((sIx n 0 lo:Nat):Int),(1:Int),Builtin.Slice.slicePlaces ((sIx n 0 lo:Nat):Int) ((sIx n n hi:Nat):Int) 1)) _ _ s
 rw [places_gen]
 exact wpAny_pure h
theorem pick_gen (xs:Array Value) (i k:Nat):((List.range k).filterMap fun (m:Nat)=>xs[((i:Int)+(m:Int)*1).toNat]?).toArray=((xs.toList.drop i).take k).toArray:=by
 have e:(fun (m:Nat)=>xs[((i:Int)+(m:Int)*1).toNat]?)=fun m=>xs[i+m]?:=by
  funext m
  have:((i:Int)+(m:Int)*1).toNat=i+m:=by omega
  rw [this]
 rw [e]
 have:=pick_run xs i k
 rw [List.filterMap_map] at this
 have e2:((fun x=>xs[x]?)∘fun x=>i+x)=fun m=>xs[i+m]?:=rfl
 rw [e2] at this
 rw [this]
theorem getItem_tuple_cut {t sl:Addr} {items:Array Value} {vl vu:Value} {lo hi:Option Int} {Q:Value→Shared→Prop} (ht:IsTup s.heap t items) (hs:s.heap.IsSliceOf sl vl vu .none) (pl:IsPart vl lo) (pu:IsPart vu hi)
  (hw:¬ (sIx items.size 0 lo=0∧sIx items.size items.size hi=items.size))
  (h:Q (.ref s.heap.objs.size) { s with heap:=s.heap.push { cls:=.type "tuple",data:=.seq ((items.toList.drop (sIx items.size 0 lo)).take (sIx items.size items.size hi-sIx items.size 0 lo)).toArray } })
  (hsz:items.size≤sizeLine):wpAny (model prog w) A (getItem (.ref t) (.ref sl)) Q E s:=by
 have htake:sizeOk (.seq ((items.toList.drop (sIx items.size 0 lo)).take (sIx items.size items.size hi-sIx items.size 0 lo)).toArray):=by
  show ((items.toList.drop (sIx items.size 0 lo)).take (sIx items.size items.size hi-sIx items.size 0 lo)).toArray.size≤sizeLine
  rw [List.size_toArray,List.length_take,List.length_drop,Array.length_toList]
  omega
 have hj:sIx items.size items.size hi≤items.size:=sIx_le _ _ (Nat.le_refl _) hi
 obtain ⟨os,hos,hcs,hds⟩:=id hs
 have hTs:s.TypeIs (.ref sl) "slice":=⟨os,hos,hcs⟩
 unfold getItem
 try with_reducible refine wpAny_holding ?_
 first | refine wpAny_bind (wpAny_pure ?_) | skip
 refine wpAny_bind (wpAny_sequenceKey ht.typeIs (by decide) ?_)
 refine wpAny_bind (wpAny_callSpecial?_slot (name:=Str.ofString "__getitem__") ht.typeIs PyProof.Rows.slot_tuple_getitem
  (wpAny_call_entry PyProof.Rows.slot_tuple_getitem ht.typeIs entry_tuple_getitem ?_ (args_tuple_getitem _ _)))
 show wpAny _ _ (Builtin.Tuple.tupleItemsOf (.ref t) >>= _) _ _ s
 refine wpAny_bind (tupleItemsOf_ ht ?_)
 refine wpAny_bind (wpAny_typeOf hTs ?_)
 rw [if_pos (by decide)]
 refine wpAny_bind (sliceApplied_gen hs pl pu ?_)
 have hno:¬ ((((sIx items.size 0 lo:Nat):Int) == 0 && (1:Int) == 1 && (sIx items.size items.size hi-sIx items.size 0 lo) == items.size)=true):=by
  intro q
  rw [Bool.and_eq_true,Bool.and_eq_true] at q
  have q1:((sIx items.size 0 lo:Nat):Int)=0:=eq_of_beq q.1.1
  have q2:sIx items.size items.size hi-sIx items.size 0 lo=items.size:=eq_of_beq q.2
  exact hw ⟨by omega,by omega⟩
 show wpAny _ _ (if (((sIx items.size 0 lo:Nat):Int) == 0 && (1:Int) == 1 && (sIx items.size items.size hi-sIx items.size 0 lo) == items.size)=true then _ else _) _ _ s
 rw [if_neg hno,pick_gen]
 first
  | exact wpAny_bind (m:=Builtin.Tuple.tupleExact _) (wpAny_newObj_type (wpAny_pure ⟨_,rfl,wpAny_pure h⟩) htake)
  | exact wpAny_bind (m:=Builtin.Tuple.tupleExact _) (wpAny_newObj_type (wpAny_bind (wpAny_pure (wpAny_pure ⟨_,rfl,wpAny_pure h⟩))) htake)
  | exact wpAny_bind (wpAny_bind (m:=Builtin.Tuple.tupleExact _) (wpAny_newObj_type (wpAny_pure (wpAny_pure ⟨_,rfl,wpAny_pure h⟩)) htake))
  | exact wpAny_bind (wpAny_bind (m:=Builtin.Tuple.tupleExact _) (wpAny_newObj_type (wpAny_pure ⟨_,rfl,wpAny_pure h⟩) htake))
end
end HT
namespace L2
open PySem PySem.Spec PyProof.Rows
abbrev TO:=St→Hp→(Option Int→Hp→Prop)→Prop
/-- a slice's part (left out, or an int) -/
def PO (X:Cx) (e:Option Expr) (t:TO):Prop :=
 ∀ (pins:List (Addr×Obj)) (s:Shared) (σ:St) (H:Hp) (Q:Option Int→Hp→Prop),Inv X pins σ H s→t σ H Q →
  wpAny (model X.prog X.w) X.A (evalPart e X.env) (fun u s'=>∃ o H',Inv X pins σ H' s'∧IsPart u o∧Q o H') X.xe s
def tNoPart:TO:=fun _ H Q=>Q none H
inductive tPartY (Q:Option Int→Hp→Prop) (x:V) (H1:Hp):Prop
 | mk:∀ i,(x=.int i)→(Q (some i) H1)→tPartY Q x H1
def tPart (t:TE):TO:=fun σ H Q=>t σ H fun x H1=>tPartY Q x H1
theorem intsAre_of {ns:List Int}:∀ {us:List Value},Vals (ns.map V.int) us→IntsAre us ns:=by
 induction ns with
 | nil=>intro us r;rw [List.map_nil] at r;cases r;exact .nil
 | cons n ns ih =>
  intro us r
  rw [List.map_cons] at r
  cases r with
  | cons r1 r2 =>
   obtain ⟨t,e⟩:=r1
   subst e
   exact .cons n t (ih r2)
section
variable {X:Cx} {e:Expr} {te:TE} {lo hi:Option Expr} {tl th:TO} {pos p2:Pos}
theorem po_none:PO X none tNoPart:=by
 intro pins s σ H Q I h
 rw [evalPart_none]
 exact wpAny_pure ⟨none,H,I,.none,h⟩
theorem po_some (h:PE X e te):PO X (some e) (tPart te):=by
 intro pins s σ H Q I hw
 rw [evalPart_some]
 refine thn (h pins s σ H _ I hw) fun u s1 ⟨x,H1,I1,r1,q1⟩=>?_
 obtain ⟨i,rfl,q⟩:=q1
 obtain ⟨t,rfl⟩:=r1
 exact ⟨some i,H1,I1,.int i t,q⟩
/-- what a slice of a value is, by values: the slice object stands at sl -/
def SlR (X:Cx) (r:V→Option Int→Option Int→Hp→VK→Prop):Prop :=
 ∀ (pins:List (Addr×Obj)) (s:Shared) (σ:St) (H:Hp) (x:V) (v vl vu:Value) (lo hi:Option Int) (sl:Addr) (Q:VK),Inv X pins σ H s→RelV x v→s.heap.IsSliceOf sl vl vu .none→IsPart vl lo→IsPart vu hi→r x lo hi H Q →
  ∃ T id,typeLookup (.type T) "__getitem__" = pure (some (.builtin id))∧s.TypeIs v T∧wpAny (model X.prog X.w) X.A (getItem v (.ref sl)) (EP X pins σ Q) X.xe s
theorem SlR.or {r r':V→Option Int→Option Int→Hp→VK→Prop} (h:SlR X r) (h':SlR X r'):SlR X (fun x lo hi H Q=>r x lo hi H Q∨r' x lo hi H Q):=by
 intro pins s σ H x v vl vu lo hi sl Q I rx hs pl pu q
 rcases q with q | q
 ·exact h pins s σ H x v vl vu lo hi sl Q I rx hs pl pu q
 ·exact h' pins s σ H x v vl vu lo hi sl Q I rx hs pl pu q
def tSl (r:V→Option Int→Option Int→Hp→VK→Prop) (te:TE) (tl th:TO):TE:=fun σ H Q=>te σ H fun x H1=>tl σ H1 fun l H2=>th σ H2 fun u H3=>r x l u H3 Q
/-- a[lo:hi], any a -/
theorem pe_slice {r:V→Option Int→Option Int→Hp→VK→Prop} (hr:SlR X r) (he:PE X e te) (hl:PO X lo tl) (hu:PO X hi th):PE X (.Subscript e (.Slice lo hi none p2) pos) (tSl r te tl th):=by
 intro pins s σ H Q I h
 refine Subscript_ (thn (he pins s σ H _ I h) fun v s1 ⟨x,H1,I1,r1,q1⟩=>?_)
 refine wpAny_Slice (thn (hl pins s1 σ H1 _ I1 q1) fun vl s2 ⟨l,H2,I2,pl,q2⟩=>thn (hu pins s2 σ H2 _ I2 q2) fun vu s3 ⟨u,H3,I3,pu,q3⟩=>?_)
 rw [evalPart_none]
 refine wpAny_pure ?_
 have I4:Inv X pins σ H3 { s3 with heap:=s3.heap.push { cls:=.type "slice",data:=.fields #[vl,vu,.none] } }:=I3.kept (t':=s3.toks) fun b ob q=>Heap.get?_push_of_some _ q
 obtain ⟨T,id,hT,ht,hg⟩:=hr pins { s3 with heap:=s3.heap.push { cls:=.type "slice",data:=.fields #[vl,vu,.none] } } σ H3 x v vl vu l u s3.heap.objs.size Q I4 r1 (Heap.IsSliceOf.new ..) pl pu q3
 show wpAny (model X.prog X.w) X.A (subscriptTail e (.Slice lo hi none p2) v (.ref s3.heap.objs.size)) (EP X pins σ Q) X.xe { s3 with heap:=s3.heap.push { cls:=.type "slice",data:=.fields #[vl,vu,.none] } }
 exact tail_any (ops:=[.ref s3.heap.objs.size,v]) ht hT hg (by with_unfolding_all rfl)
/-- the items of xs[lo:hi] -/
def cutV (xs:List V) (lo hi:Option Int):List V:=(xs.drop (HT.sIx xs.length 0 lo)).take (HT.sIx xs.length xs.length hi-HT.sIx xs.length 0 lo)
theorem cutV_length (xs:List V) (lo hi:Option Int):(cutV xs lo hi).length≤xs.length:=by
 unfold cutV
 rw [List.length_take,List.length_drop]
 omega
/-- t[lo:hi], not the whole of it (the whole would be t itself) -/
inductive rSlT (K:PySem.W.Frag) (x:V) (lo:Option Int) (hi:Option Int) (H:Hp) (Q:VK):Prop
 | mk:∀ a xs,(x=.ref a)→(SqT K H a xs)→(¬ (HT.sIx xs.length 0 lo=0∧HT.sIx xs.length xs.length hi=xs.length))→(∀ p,H p=none→Q (.ref p) (upd H p (.tup (cutV xs lo hi))))→rSlT K x lo hi H Q
theorem sl_tup:SlR X (rSlT X.K):=by
 intro pins s σ H x v vl vu lo hi sl Q I rx hs pl pu h
 obtain ⟨a,xs,rfl,hx,hw,q⟩:=h
 cases rx
 obtain ⟨its,r,ht,hz⟩:=I.tuple hx
 have hlen:its.toArray.size=xs.length:=by rw [List.size_toArray];exact r.length.symm
 refine ⟨"tuple",_,PyProof.Rows.slot_tuple_getitem.lookup,ht.typeIs,?_⟩
 refine HT.getItem_tuple_cut ht hs pl pu (by rw [hlen];exact hw) ?_ (by rw [hlen];exact hz)
 rw [hlen]
 refine ⟨.ref s.heap.objs.size,_,I.laid (t':=s.toks) (o:=.tup (cutV xs lo hi)) (fun b ob q=>Heap.get?_push_of_some _ q) (Nat.le_refl _) ?_,rfl,q _ (I.hok.fresh (Nat.le_refl _))⟩
 exact ⟨Nat.le_trans (cutV_length xs lo hi) hz,_,(r.drop (HT.sIx xs.length 0 lo)).take (HT.sIx xs.length xs.length hi-HT.sIx xs.length 0 lo),IsTupN.new _ _⟩
/-- t + u, t not empty: u empty gives t itself -/
inductive rCatT (K:PySem.W.Frag) (x:V) (y:V) (H:Hp) (Q:VK):Prop
 | mk:∀ a b xs ys,(x=.ref a)→(y=.ref b)→(SqT K H a xs)→(SqT K H b ys)→(xs≠[])→(xs.length+ys.length≤sizeLine)→((ys=[]→Q (.ref a) H))→((ys≠[]→∀ p,H p=none→Q (.ref p) (upd H p (.tup (xs++ys)))))→rCatT K x y H Q
theorem Vals.nil_iff {xs:List V} {us:List Value} (r:Vals xs us):us=[]↔xs=[]:=by
 cases r with
 | nil=>simp
 | cons _ _=>simp
theorem op_catT:OpR X (binaryOp .Add) (rCatT X.K):=by
 intro pins s σ H x y v u Q I rx ry h
 obtain ⟨a,b,xs,ys,rfl,rfl,ha,hb,hx,hz,q1,q2⟩:=h
 cases rx
 cases ry
 obtain ⟨its,r1,p1,_⟩:=I.tuple ha
 obtain ⟨its2,r2,p2,_⟩:=I.tuple hb
 refine HT.cat_tup p1 p2 (fun z=>hx (r1.nil_iff.mp z)) (fun z=>⟨.ref a,H,I,rfl,q1 (r2.nil_iff.mp z)⟩) (fun z=>?_) (by rw [←r1.length,←r2.length];exact hz)
 refine ⟨.ref s.heap.objs.size,_,I.laid (t':=s.toks) (o:=.tup (xs++ys)) (fun b ob q=>Heap.get?_push_of_some _ q) (Nat.le_refl _) ?_,rfl,q2 (fun w=>z (r2.nil_iff.mpr w)) _ (I.hok.fresh (Nat.le_refl _))⟩
 exact ⟨by rw [List.length_append];exact hz,_,r1.append r2,IsTupN.new _ _⟩
end
end L2
namespace L2
open PySem PySem.Spec PyProof.Rows
/-- the place that an index of any sign means -/
def ixN (n:Nat) (i:Int):Option Nat:=if 0≤i then (if i<n then some i.toNat else none) else if -(n:Int)≤i then some (i+n).toNat else none
def atI {α:Type} (xs:List α) (i:Int):Option α:=(ixN xs.length i).bind fun j=>xs[j]?
theorem ixN_seq {n:Nat} {i:Int} {j:Nat} (h:ixN n i=some j):seqIndex? i n=some j∧j<n∧-(n:Int)≤i∧i<n:=by
 unfold ixN at h
 by_cases h0:0≤i
 ·rw [if_pos h0] at h
  by_cases h1:i<n
  ·rw [if_pos h1] at h
   have e:i.toNat=j:=Option.some.inj h
   exact ⟨by rw [seqIndex_of h0 h1,e],by omega,by omega,h1⟩
  ·rw [if_neg h1] at h;cases h
 ·rw [if_neg h0] at h
  by_cases h1 : -(n:Int)≤i
  ·rw [if_pos h1] at h
   have e:(i+n).toNat=j:=Option.some.inj h
   exact ⟨by rw [seqIndex_neg (by omega) h1,e],by omega,h1,by omega⟩
  ·rw [if_neg h1] at h;cases h
theorem atI_get {α:Type} {xs:List α} {i:Int} {v:α} (h:atI xs i=some v):∃ j,seqIndex? i xs.length=some j∧xs[j]?=some v∧j<xs.length∧-(xs.length:Int)≤i∧i<xs.length:=by
 unfold atI at h
 cases e:ixN xs.length i with
 | none=>rw [e] at h;cases h
 | some j =>
  rw [e] at h
  obtain ⟨h1,h2,h3,h4⟩:=ixN_seq e
  exact ⟨j,h1,h,h2,h3,h4⟩
theorem atI_nat {α:Type} {xs:List α} {j:Nat} {v:α} (h:xs[j]?=some v):atI xs (j:Int)=some v:=by
 have hj:j<xs.length:=(List.getElem?_eq_some_iff.mp h).1
 have e:ixN xs.length (j:Int)=some j:=by
  unfold ixN
  rw [if_pos (by omega),if_pos (by omega)];simp
 unfold atI;rw [e];exact h
/-- what stands as an index of a plain subscript -/
def PlainIx (b:Expr):Prop:=∀ o i,subscripted b false o i=operate [o,i] (getItem o i)
/-- a subscript by values -/
def IxR (X:Cx) (r:R2):Prop :=
 ∀ (value slice:Expr) (pins:List (Addr×Obj)) (s:Shared) (σ:St) (H:Hp) (x y:V) (v u:Value) (Q:VK),Inv X pins σ H s→RelV x v→RelV y u→r x y H Q →
  subscripted slice false v u=operate [v,u] (getItem v u)→wpAny (model X.prog X.w) X.A (subscriptTail value slice v u) (EP X pins σ Q) X.xe s
/-- a call of a builtin's method by values: the receiver, the arguments -/
def MtR (X:Cx) (id:String) (r:V→List V→Hp→VK→Prop):Prop :=
 ∀ (pins:List (Addr×Obj)) (s:Shared) (σ:St) (H:Hp) (x:V) (xs:List V) (v:Value) (us:List Value) (Q:VK),Inv X pins σ H s→RelV x v→Vals xs us→r x xs H Q →
  wpAny (model X.prog X.w) X.A (call (.builtin id) (v::us)) (EP X pins σ Q) X.xe s
section
variable {X:Cx} {a b:Expr} {ta tb:TE} {pos:Pos}
theorem IxR.or {r r':R2} (h:IxR X r) (h':IxR X r'):IxR X (fun x y H Q=>r x y H Q∨r' x y H Q):=by
 intro value slice pins s σ H x y v u Q I rx ry q hs
 rcases q with q | q
 ·exact h value slice pins s σ H x y v u Q I rx ry q hs
 ·exact h' value slice pins s σ H x y v u Q I rx ry q hs
theorem MtR.or {id:String} {r r':V→List V→Hp→VK→Prop} (h:MtR X id r) (h':MtR X id r'):MtR X id (fun x xs H Q=>r x xs H Q∨r' x xs H Q):=by
 intro pins s σ H x xs v us Q I rx rs q
 rcases q with q | q
 ·exact h pins s σ H x xs v us Q I rx rs q
 ·exact h' pins s σ H x xs v us Q I rx rs q
/-- a[b] -/
theorem pe_ix {r:R2} (hr:IxR X r) (ha:PE X a ta) (hb:PE X b tb) (hs:PlainIx b):PE X (.Subscript a b pos) (tOp r ta tb):=by
 intro pins s σ H Q I h
 exact Subscript_ (binT ha hb I h fun v u s2 x y H2 I2 rx ry q=>hr a b pins s2 σ H2 x y v u Q I2 rx ry q (hs _ _))
inductive rIxL (K:PySem.W.Frag) (x:V) (y:V) (H:Hp) (Q:VK):Prop
 | mk:∀ p xs i v,(x=.ref p)→(y=.int i)→(SqL K H p xs)→(atI xs i=some v)→(Q v H)→rIxL K x y H Q
inductive rIxT (K:PySem.W.Frag) (x:V) (y:V) (H:Hp) (Q:VK):Prop
 | mk:∀ p xs i v,(x=.ref p)→(y=.int i)→(SqT K H p xs)→(atI xs i=some v)→(Q v H)→rIxT K x y H Q
theorem ix_list:IxR X (rIxL X.K):=by
 intro value slice pins s σ H x y v u Q I rx ry h hs
 obtain ⟨p,xs,i,z,rfl,rfl,hq,he,q⟩:=h
 cases rx
 obtain ⟨t,rfl⟩:=ry
 obtain ⟨its,r,pl,hz⟩:=I.list hq
 obtain ⟨j,h1,h2,h3,h4,h5⟩:=atI_get he
 obtain ⟨w,ew,rw'⟩:=r.get h2
 have hl:=r.length
 have hn:=line63
 have fin:EP X pins σ Q w s:=⟨z,H,I,rw',q⟩
 by_cases h0:0≤i
 ·have hj:i.toNat=j:=by
   rw [seqIndex_of h0 h5] at h1
   exact Option.some.inj h1
  exact item_listR pl.isList h0 (by omega) (by rw [hj];simpa using ew) fin hs
 ·have hj:(i+(its.toArray.size:Int)).toNat=j:=by
   rw [seqIndex_neg (by omega) h4] at h1
   rw [List.size_toArray,←hl]
   exact Option.some.inj h1
  exact subscriptTail_builtinR (x:=w) pl.isList.typeIs slot_list_getitem.lookup
   (wpAny_getItem_list_neg (Q:=fun r s'=>r=w∧EP X pins σ Q r s') pl.isList (by omega) (by rw [List.size_toArray]<;>omega) (by omega) (by rw [hj];simpa using ew) ⟨rfl,fin⟩) hs
theorem ix_tup:IxR X (rIxT X.K):=by
 intro value slice pins s σ H x y v u Q I rx ry h hs
 obtain ⟨p,xs,i,z,rfl,rfl,hq,he,q⟩:=h
 cases rx
 obtain ⟨t,rfl⟩:=ry
 obtain ⟨its,r,pl,hz⟩:=I.tuple hq
 obtain ⟨j,h1,h2,h3,h4,h5⟩:=atI_get he
 obtain ⟨w,ew,rw'⟩:=r.get h2
 have hl:=r.length
 have hn:=line63
 have fin:EP X pins σ Q w s:=⟨z,H,I,rw',q⟩
 exact subscriptTail_builtinR (x:=w) pl.typeIs slot_tuple_getitem.lookup
  (getItem_tuple (j:=j) (Q:=fun r s'=>r=w∧EP X pins σ Q r s') pl (by omega) (by omega) (by rw [List.size_toArray,←hl];exact h1) (by simpa using ew) ⟨rfl,fin⟩) hs
/-- the list's object behind a store -/
theorem mapSeq_set (its:List Value) (n j:Nat) (u:Value):Obj.mapSeq (·.setIfInBounds j u) { cls:=.type "list",data:=.seq its.toArray n }={ cls:=.type "list",data:=.seq (its.set j u).toArray n }:=by
 simp [Obj.mapSeq]
theorem Inv.lst {pins:List (Addr×Obj)} {σ:St} {H:Hp} {s:Shared} {p:Addr} {xs:List V} (I:Inv X pins σ H s) (h:H p=some (.lst xs)) :
  ∃ (its:List Value) (n:Nat),Vals xs its∧s.heap.get? p=some { cls:=.type "list",data:=.seq its.toArray n }∧xs.length≤sizeLine:=by
 obtain ⟨z,its,n,r,e⟩:=I.hok p _ h
 exact ⟨its,n,r,e,z⟩
/-- the list at p is written by an update of its object -/
theorem Inv.lstUpd {pins:List (Addr×Obj)} {σ:St} {H:Hp} {s:Shared} {p:Addr} {xs ys:List V} {its its':List Value} {n n':Nat} {f:Obj→Obj} (I:Inv X pins σ H s) (h:H p=some (.lst xs))
  (ho:s.heap.get? p=some { cls:=.type "list",data:=.seq its.toArray n }) (hf:f { cls:=.type "list",data:=.seq its.toArray n }={ cls:=.type "list",data:=.seq its'.toArray n' }) (r:Vals ys its') (hz:ys.length≤sizeLine) (t:Nat) :
  Inv X pins σ (upd H p (.lst ys)) { s with heap:=s.heap.update p f,toks:=t }:=by
 have e:(s.heap.update p f).get? p=some { cls:=.type "list",data:=.seq its'.toArray n' }:=by
  rw [Heap.get?_update_self f ho (by rw [hf]<;>rfl),hf]
 refine I.write (x:=p) (e:=p) (by rw [h];trivial) (.inl rfl) (fun b u hb q=>(Heap.get?_update_other _ _ (Ne.symm hb)).trans q) ⟨_,e⟩ ?_
 exact ⟨hz,its',n',r,e⟩
inductive rSetL (o:V) (i:V) (v:V) (H:Hp) (Q:Hp→Prop):Prop
 | mk:∀ p xs k j,(o=.ref p)→(i=.int k)→(H p=some (.lst xs))→(ixN xs.length k=some j)→(Q (upd H p (.lst (xs.set j v))))→rSetL o i v H Q
theorem set_list:PSet X rSetL:=by
 intro pins s σ H o i v ov iv u Q I ro ri rv h
 obtain ⟨p,xs,k,j,rfl,rfl,hp,hj,q⟩:=h
 cases ro
 obtain ⟨t,rfl⟩:=ri
 obtain ⟨its,n,r,ho,hz⟩:=I.lst hp
 obtain ⟨h1,h2,h3,h4⟩:=ixN_seq hj
 have hl:=r.length
 have hn:=line63
 have I':Inv X pins σ (upd H p (.lst (xs.set j v))) { s with heap:=s.heap.update p (Obj.mapSeq (·.setIfInBounds j u)) } :=
  I.lstUpd hp ho (mapSeq_set its n j u) (r.set rv j) (by rw [List.length_set];exact hz) s.toks
 by_cases h0:0≤k
 ·have hk:k.toNat=j:=by
   rw [seqIndex_of h0 h4] at h1
   exact Option.some.inj h1
  exact PySem.W.ki_setAt ho h0 (by omega) (by rw [List.size_toArray,←hl];exact h4) (by rw [hk];exact ⟨_,I',q⟩)
 ·have hk:(k+(its.toArray.size:Int)).toNat=j:=by
   rw [seqIndex_neg (by omega) h3] at h1
   rw [List.size_toArray,←hl]
   exact Option.some.inj h1
  exact PySem.W.ki_setBack ho (by omega) (by rw [List.size_toArray,←hl];exact h3) (by omega) (by rw [hk];exact ⟨_,I',q⟩)
theorem slice_bounds (lo hi:Option Int) (n:Nat):(sliceBounds lo hi none n).1=((HT.sIx n 0 lo:Nat):Int)∧(sliceBounds lo hi none n).2.1=((HT.sIx n n hi:Nat):Int)∧(sliceBounds lo hi none n).2.2=1:=by
 refine ⟨?_,?_,rfl⟩
 ·cases lo with
  | none=>simp [sliceBounds,HT.sIx]
  | some i =>
   simp only [sliceBounds,HT.sIx,Option.getD_none,show (1:Int)>0 by decide,if_true]
   by_cases h:i<0
   ·simp only [h,if_true]<;>omega
   ·simp only [h,if_false]<;>omega
 ·cases hi with
  | none=>simp [sliceBounds,HT.sIx]
  | some i =>
   simp only [sliceBounds,HT.sIx,Option.getD_none,show (1:Int)>0 by decide,if_true]
   by_cases h:i<0
   ·simp only [h,if_true]<;>omega
   ·simp only [h,if_false]<;>omega
theorem slicePick_cut (its:List Value) (lo hi:Option Int):slicePick its.toArray lo hi none=((its.drop (HT.sIx its.length 0 lo)).take (HT.sIx its.length its.length hi-HT.sIx its.length 0 lo)).toArray:=by
 obtain ⟨h1,h2,h3⟩:=slice_bounds lo hi its.toArray.size
 unfold slicePick
 rw [h1,h2,h3]
 simp only [sliceRange_one,pick_run,List.size_toArray]<;>rfl
/-- xs[lo:hi] of a list: a new list -/
inductive rSlL (K:PySem.W.Frag) (x:V) (lo:Option Int) (hi:Option Int) (H:Hp) (Q:VK):Prop
 | mk:∀ a xs,(x=.ref a)→(SqL K H a xs)→(∀ p,H p=none→Q (.ref p) (upd H p (.lst (cutV xs lo hi))))→rSlL K x lo hi H Q
theorem sl_list:SlR X (rSlL X.K):=by
 intro pins s σ H x v vl vu lo hi sl Q I rx hs pl pu h
 obtain ⟨a,xs,rfl,hx,q⟩:=h
 cases rx
 obtain ⟨its,r,ht,hz⟩:=I.list hx
 have hlen:=r.length
 refine ⟨"list",_,slot_list_getitem.lookup,ht.isList.typeIs,?_⟩
 refine wpAny_getItem_list_slice ht.isList hs pl pu .none (by simp) ?_ (by rw [List.size_toArray]<;>omega)
 rw [slicePick_cut,←hlen]
 refine ⟨.ref s.heap.objs.size,_,I.laid (t':=s.toks) (o:=.lst (cutV xs lo hi)) (fun b ob q=>Heap.get?_push_of_some _ q) (Nat.le_refl _) ?_,rfl,q _ (I.hok.fresh (Nat.le_refl _))⟩
 exact ⟨Nat.le_trans (cutV_length xs lo hi) hz,_,0,(r.drop (HT.sIx xs.length 0 lo)).take (HT.sIx xs.length xs.length hi-HT.sIx xs.length 0 lo),Heap.get?_push_size _ rfl⟩
def flatV:V→Bool
 | .non=>true
 | .bl _=>true
 | .int _=>true
 | .str _=>true
 | _=>false
/-- == of flat values -/
def eqV:V→V→Bool
 | .non,.non=>true
 | .bl a,.bl b=>a == b
 | .bl a,.int b=>(if a then 1 else 0) == b
 | .int a,.bl b=>a == (if b then 1 else 0)
 | .int a,.int b=>a == b
 | .str a,.str b=>a == b
 | _,_=>false
theorem eqAt_V {A:Around} {s:Shared} {y x:V} {u v:Value} (ry:RelV y u) (rx:RelV x v) (fy:flatV y=true) (fx:flatV x=true):SeqAt.EqAt A s u v (eqV y x):=by
 cases y with
 | non =>
  cases ry
  cases x with
  | non=>cases rx;exact SeqAt.EqAt.same _
  | bl b=>cases rx;exact SeqAt.EqAt.none_bool b
  | int b=>obtain ⟨t,rfl⟩:=rx;exact SeqAt.EqAt.none_int b t
  | str b=>obtain ⟨t,rfl⟩:=rx;exact SeqAt.EqAt.none_str b t
  | _=>exact absurd (show false=true from fx) Bool.false_ne_true
 | bl a =>
  cases ry
  cases x with
  | non=>cases rx;exact SeqAt.EqAt.bool_none a
  | bl b=>cases rx;exact SeqAt.EqAt.bool_bool a b
  | int b=>obtain ⟨t,rfl⟩:=rx;exact SeqAt.EqAt.bool_int a b t
  | str b=>obtain ⟨t,rfl⟩:=rx;exact SeqAt.EqAt.bool_str a b t
  | _=>exact absurd (show false=true from fx) Bool.false_ne_true
 | int a =>
  obtain ⟨t',rfl⟩:=ry
  cases x with
  | non=>cases rx;exact SeqAt.EqAt.int_none a t'
  | bl b=>cases rx;exact SeqAt.EqAt.int_bool a t' b
  | int b=>obtain ⟨t,rfl⟩:=rx;exact SeqAt.EqAt.int_int a t' b t
  | str b=>obtain ⟨t,rfl⟩:=rx;exact SeqAt.EqAt.int_str a t' b t
  | _=>exact absurd (show false=true from fx) Bool.false_ne_true
 | str a =>
  obtain ⟨t',rfl⟩:=ry
  cases x with
  | non=>cases rx;exact SeqAt.EqAt.str_none a t'
  | bl b=>cases rx;exact SeqAt.EqAt.str_bool a t' b
  | int b=>obtain ⟨t,rfl⟩:=rx;exact SeqAt.EqAt.str_int a t' b t
  | str b=>obtain ⟨t,rfl⟩:=rx;exact SeqAt.EqAt.str_str a t' b t
  | _=>exact absurd (show false=true from fx) Bool.false_ne_true
 | _=>exact absurd (show false=true from fy) Bool.false_ne_true
/-- the items' answers, read off the values (a value's own answer does not lean on its token) -/
def eqU (x:V) (u:Value):Bool:=match u with
 | .none=>eqV .non x
 | .bool b=>eqV (.bl b) x
 | .int i _=>eqV (.int i) x
 | .str z _=>eqV (.str z) x
 | _=>false
theorem eqU_of {x y:V} {u:Value} (r:RelV y u) (f:flatV y=true):eqU x u=eqV y x:=by
 cases y with
 | non=>cases r;rfl
 | bl b=>cases r;rfl
 | int i=>obtain ⟨t,rfl⟩:=r;rfl
 | str z=>obtain ⟨t,rfl⟩:=r;rfl
 | _=>exact absurd (show false=true from f) Bool.false_ne_true
theorem any_eqU {x:V}:∀ {xs:List V} {us:List Value},Vals xs us→xs.all flatV=true→us.any (eqU x)=xs.any fun y=>eqV y x
 | _,_,.nil,_=>rfl
 | y::xs,u::us,.cons r t,f=>by
  rw [List.all_cons,Bool.and_eq_true] at f
  rw [List.any_cons,List.any_cons,eqU_of r f.1,any_eqU t f.2]
theorem mem_eqAt {A:Around} {s:Shared} {x:V} {v:Value} (rx:RelV x v) (fx:flatV x=true):∀ {xs:List V} {us:List Value},Vals xs us→xs.all flatV=true→∀ u∈us,SeqAt.EqAt A s u v (eqU x u)
 | _,_,.nil,_=>fun u hu=>by cases hu
 | y::xs,u::us,.cons r t,f=>fun u' hu=>by
  rw [List.all_cons,Bool.and_eq_true] at f
  rcases List.mem_cons.mp hu with rfl | hu
  ·rw [eqU_of r f.1];exact eqAt_V r rx f.1 fx
  ·exact mem_eqAt rx fx t f.2 u' hu
def inV (x:V) (xs:List V):Bool:=xs.any fun y=>eqV y x
/-- x in a list or tuple of flat items -/
inductive rIn (K:PySem.W.Frag) (neg:Bool) (x:V) (y:V) (H:Hp) (Q:VK):Prop
 | mk:∀ p xs,(y=.ref p)→((SqL K H p xs∨SqT K H p xs))→(flatV x=true)→(xs.all flatV=true)→(Q (.bl (if neg then !inV x xs else inV x xs)) H)→rIn K neg x y H Q
theorem op_notIn_seq:OpR X (compareOp .NotIn) (rIn X.K true):=by
 intro pins s σ H x y v u Q I rx ry h
 obtain ⟨p,xs,rfl,hq,fx,fs,q⟩:=h
 cases ry
 rcases hq with hq | hq
 ·obtain ⟨its,r,pl,hz⟩:=I.list hq
  refine SeqAt.notIn_listAt (eqU x) pl.isList (fun w hw=>mem_eqAt rx fx r fs w (by simpa using hw)) ⟨.bl _,H,I,rfl,?_⟩
  rw [show its.toArray.any (eqU x)=its.any (eqU x) by simp,any_eqU r fs]
  exact q
 ·obtain ⟨its,r,pl,hz⟩:=I.tuple hq
  refine SeqAt.notIn_tupleAt (eqU x) pl (fun w hw=>mem_eqAt rx fx r fs w (by simpa using hw)) ⟨.bl _,H,I,rfl,?_⟩
  rw [show its.toArray.any (eqU x)=its.any (eqU x) by simp,any_eqU r fs]
  exact q
inductive call_len_seqY (K:PySem.W.Frag) (xs:List V) (H:Hp) (Q:VK):Prop
 | mk:∀ p ys,(xs=[.ref p])→((SqL K H p ys∨SqT K H p ys))→(Q (.int ys.length) H)→call_len_seqY K xs H Q
theorem call_len_seq:CallR X (.builtin "len") (call_len_seqY X.K):=by
 intro pins s σ H xs us Q I r h
 obtain ⟨p,ys,rfl,hq,q⟩:=h
 obtain ⟨u,rfl,rx⟩:=vals1 r
 cases rx
 have hn:=line63
 rcases hq with hq | hq
 ·obtain ⟨its,r',pl,hz⟩:=I.list hq
  have hlen:=r'.length
  exact Calls.call_len_list pl.isList (by simp only [List.size_toArray]<;>omega) ⟨.int ys.length,H,I.tok _,⟨s.toks+1,by rw [List.size_toArray,hlen]⟩,q⟩
 ·obtain ⟨its,r',pl,hz⟩:=I.tuple hq
  have hlen:=r'.length
  exact len_tuple pl (by simp only [List.size_toArray]<;>omega) ⟨.int ys.length,H,I.tok _,⟨s.toks+1,by rw [List.size_toArray,hlen]⟩,q⟩
theorem CallR.or {f:Value} {r r':List V→Hp→VK→Prop} (h:CallR X f r) (h':CallR X f r'):CallR X f (fun xs H Q=>r xs H Q∨r' xs H Q):=by
 intro pins s σ H xs us Q I rs q
 rcases q with q | q
 ·exact h pins s σ H xs us Q I rs q
 ·exact h' pins s σ H xs us Q I rs q
inductive call_list_ofY (K:PySem.W.Frag) (xs:List V) (H:Hp) (Q:VK):Prop
 | mk:∀ p ys,(xs=[.ref p])→((SqL K H p ys∨SqT K H p ys))→(∀ l,H l=none→Q (.ref l) (upd H l (.lst ys)))→call_list_ofY K xs H Q
theorem call_list_of:CallR X (.type "list") (call_list_ofY X.K):=by
 intro pins s σ H xs us Q I r h
 obtain ⟨p,ys,rfl,hq,q⟩:=h
 obtain ⟨u,rfl,rx⟩:=vals1 r
 cases rx
 have fin:∀ (its:List Value),Vals ys its→ys.length≤sizeLine→∀ (h':Heap) (c':Nat),(∀ b o',s.heap.get? b=some o'→h'.get? b=some o') →
   h'.get? s.heap.objs.size=some { cls:=.type "list",dict:=none,data:=.seq its.toArray c',slots:=#[] }→EP X pins σ Q (.ref s.heap.objs.size) { s with heap:=h' }:=fun its r' hz h' c' kp e =>
  ⟨.ref s.heap.objs.size,_,I.laid (t':=s.toks) kp (Nat.le_refl _) (show ObjOk X.prog X.w _ h' _ (.lst ys) from ⟨hz,its,c',r',e⟩),rfl,q _ (I.hok.fresh (Nat.le_refl _))⟩
 rcases hq with hq | hq
 ·obtain ⟨its,r',pl,hz⟩:=I.list hq
  have hlen:=r'.length
  obtain ⟨o,ho,hc,n,hd⟩:=pl.isList
  exact call_list_seq p (.inl rfl) ho hc hd (fun h' c' kp e=>fin its r' hz h' c' kp e) (by simp only [List.size_toArray]<;>omega)
 ·obtain ⟨its,r',pl,hz⟩:=I.tuple hq
  have hlen:=r'.length
  obtain ⟨o,ho,hc,n,hd⟩:=pl
  exact call_list_seq p (.inr rfl) ho hc hd (fun h' c' kp e=>fin its r' hz h' c' kp e) (by simp only [List.size_toArray]<;>omega)
inductive call_tuple_ofY (K:PySem.W.Frag) (xs:List V) (H:Hp) (Q:VK):Prop
 | mk:∀ p ys,(xs=[.ref p])→(((SqL K H p ys∧∀ l,H l=none→Q (.ref l) (upd H l (.tup ys)))∨(SqT K H p ys∧Q (.ref p) H)))→call_tuple_ofY K xs H Q
theorem call_tuple_of:CallR X (.type "tuple") (call_tuple_ofY X.K):=by
 intro pins s σ H xs us Q I r h
 obtain ⟨p,ys,rfl,h⟩:=h
 obtain ⟨u,rfl,rx⟩:=vals1 r
 cases rx
 rcases h with ⟨hq,q⟩ | ⟨hq,q⟩
 ·obtain ⟨its,r',pl,hz⟩:=I.list hq
  have hlen:=r'.length
  refine call_tuple_list pl.isList (fun h' kp=>?_) (by simp only [List.size_toArray]<;>omega)
  have I1:Inv X pins σ H { s with heap:=h' }:=I.kept (t':=s.toks) kp
  have I2:Inv X pins σ (upd H h'.objs.size (.tup ys)) { s with heap:=h'.push { cls:=.type "tuple",data:=.seq its.toArray } } :=
   I1.laid (t':=s.toks) (fun b o e=>Heap.get?_push_of_some _ e) (Nat.le_refl _) (show ObjOk X.prog X.w _ _ _ (.tup ys) from ⟨hz,its,r',IsTupN.new _ _⟩)
  exact ⟨.ref h'.objs.size,_,I2,rfl,q _ (I1.hok.fresh (Nat.le_refl _))⟩
 ·obtain ⟨its,r',pl,hz⟩:=I.tuple hq
  exact call_tuple_same pl ⟨.ref p,H,I,rfl,q⟩
/-- the value is of that builtin type -/
def tyV (K:PySem.W.Frag) (T:String) (x:V) (H:Hp):Prop:=match x with
 | .str _=>T = "str"
 | .int _=>T = "int"
 | .ref p=>(T = "list"∧∃ xs,SqL K H p xs)∨(T = "tuple"∧((∃ o,K.lookup p=some o∧o.cls=.type "tuple"∧o.dict=none)∨∃ xs,H p=some (.tup xs))) ∨
   (T = "dict"∧((∃ kvs,H p=some (.dK kvs))∨∃ kvs,H p=some (.dT kvs)))∨(T = "set"∧∃ S n,H p=some (.set S n))
 | _=>False
theorem tyV_is {pins:List (Addr×Obj)} {σ:St} {H:Hp} {s:Shared} {T:String} {x:V} {v:Value} (I:Inv X pins σ H s) (r:RelV x v) (ty:tyV X.K T x H) :
  s.TypeIs v T∧∀ a,v=.ref a→∃ ob,s.heap.get? a=some ob∧ob.dict=none:=by
 cases x with
 | str z =>
  obtain ⟨t,rfl⟩:=r
  cases (show T = "str" from ty)
  exact ⟨typeIs_str s z t,fun _ e=>nomatch e⟩
 | int i =>
  obtain ⟨t,rfl⟩:=r
  cases (show T = "int" from ty)
  exact ⟨typeIs_int s i t,fun _ e=>nomatch e⟩
 | ref p =>
  cases r
  rcases ty with ⟨rfl,xs,hq⟩ | ⟨rfl,⟨o,hk,hc,hd⟩ | ⟨xs,hq⟩⟩ | ⟨rfl,hk⟩ | ⟨rfl,S,n,hk⟩
  ·obtain ⟨its,_,pl,_⟩:=I.list hq
   refine ⟨pl.isList.typeIs,fun a e=>?_⟩
   cases e
   obtain ⟨o,n,e,c,hd,_⟩:=pl
   exact ⟨o,e,hd⟩
  ·refine ⟨⟨o,I.kIn p o hk,hc⟩,fun a e=>?_⟩
   cases e
   exact ⟨o,I.kIn _ o hk,hd⟩
  ·obtain ⟨_,its,_,o,e,c,n,_,hd⟩:=(show ObjOk X.prog X.w H s.heap p (.tup xs) from I.hok p _ hq)
   refine ⟨⟨o,e,c⟩,fun a e2=>?_⟩
   cases e2
   exact ⟨o,e,hd⟩
  ·have z:∃ o,s.heap.get? p=some o∧o.ExactDict:=by
    rcases hk with ⟨kvs,hk⟩ | ⟨kvs,hk⟩
    ·obtain ⟨_,_,_,_,o,_,_,e,ex,_⟩:=I.hok p _ hk
     exact ⟨o,e,ex⟩
    ·obtain ⟨_,_,_,_,o,_,_,e,ex,_⟩:=I.hok p _ hk
     exact ⟨o,e,ex⟩
   obtain ⟨o,e,ex⟩:=z
   refine ⟨⟨o,e,ex.1⟩,fun a e2=>?_⟩
   cases e2
   exact ⟨o,e,ex.2.1⟩
  ·obtain ⟨o,_,_,_,e,ex,_⟩:=I.hok p _ hk
   refine ⟨⟨o,e,ex.1⟩,fun a e2=>?_⟩
   cases e2
   exact ⟨o,e,ex.2.1⟩
 | _=>exact False.elim ty
inductive tBMY (K:PySem.W.Frag) (T:String) (r:V→List V→Hp→VK→Prop) (t:TA) (σ:St) (Q:VK) (x:V) (H1:Hp):Prop
 | mk:(tyV K T x H1)→(t σ H1 fun xs H2=>r x xs H2 Q)→tBMY K T r t σ Q x H1
def tBM (K:PySem.W.Frag) (T:String) (r:V→List V→Hp→VK→Prop) (to:TE) (t:TA):TE:=fun σ H Q=>to σ H fun x H1=>tBMY K T r t σ Q x H1
variable {o e:Expr} {es:List Expr} {to:TE} {t:TA} {name:Str} {apos cpos:Pos} {T id:String} {r:V→List V→Hp→VK→Prop}
theorem pe_bm (pa:PlainAttrs T) (slot:Slot T name id) (hty:typeOf (.builtin id)=pure (.type "method_descriptor")) (hm:MtR X id r) (ho:PE X o to) (ha:PA X (e::es) t)
  (hbase:attributeBase o name X.env (eval o X.env)=eval o X.env:=by rfl)
  (hfew:((backTo cpos (starEach (e::es) X.env)).all (fun x=>!x.1) && (backToKw cpos (keywordEach [] X.env)).all (fun x=>x.1.isSome)
   && decide ((e::es).length+([]:List Keyword).length+(if ([]:List Keyword).isEmpty then 0 else 1)<30))=true:=by rfl)
  (hline:(apos.endLine == cpos.line)=true:=by rfl) (hs:starEach (e::es) X.env=(false,eval e X.env)::starEach es X.env:=by rfl) (hplain:(backTo cpos (starEach es X.env)).any (·.1)=false:=by rfl) :
  PE X (.Call (.Attribute o name apos) (e::es) [] cpos) (tBM X.K T r to t):=by
 intro pins s σ H Q I h
 refine wpAny_Call_method_late hbase hfew hline rfl (thn (ho pins s σ H _ I h) fun v s1 ⟨x,H1,I1,r1,ty,q1⟩=>?_)
 obtain ⟨h1,h2⟩:=tyV_is I1 r1 ty
 refine ⟨T,id,pa,slot,hty,h1,h2,?_⟩
 have hA:=ha cpos pins s1 σ H1 _ I1 q1
 rw [hs] at hA ⊢
 refine Calls.callWith_builtin (by show (false || (backTo cpos (starEach es X.env)).any (·.1))=false;rw [hplain]<;>rfl) (Calls.evalArgs_plain ?_)
 exact thn hA fun us s2 ⟨vs,H2,I2,r2,q2⟩=>hm pins s2 σ H2 x vs v us Q I2 r1 r2 q2
end
end L2
namespace L2
open PySem PySem.Spec PyProof.Rows
def MtM (X:Cx) (id:String) (r:V→List V→Hp→VK→Prop):Prop :=
 ∀ (pins:List (Addr×Obj)) (s:Shared) (σ:St) (H:Hp) (x:V) (xs:List V) (v:Value) (us:List Value) (Q:VK),Inv X pins σ H s→RelV x v→Vals xs us→r x xs H Q →
  wpAny (model X.prog X.w) X.A (call (.builtin id) (v::us)) (EP X pins σ Q) X.xe s
theorem Vals.one:∀ {x:V} {us:List Value},Vals [x] us→∃ u,us=[u]∧RelV x u
 | _,_,.cons r .nil=>⟨_,rfl,r⟩
theorem Vals.two:∀ {x y:V} {us:List Value},Vals [x,y] us→∃ u v,us=[u,v]∧RelV x u∧RelV y v
 | _,_,_,.cons r (.cons q .nil)=>⟨_,_,rfl,r,q⟩
theorem Vals.zero:∀ {us:List Value},Vals [] us→us=[]
 | _,.nil=>rfl
theorem Vals.reverse {xs:List V} {us:List Value} (h:Vals xs us):Vals xs.reverse us.reverse:=by
 induction h with
 | nil=>exact .nil
 | cons r t ih=>rw [List.reverse_cons,List.reverse_cons];exact Vals.append ih (.cons r .nil)
section
variable {X:Cx} {pins:List (Addr×Obj)} {σ:St} {H:Hp} {s:Shared} {l b:Addr} {xs ys zs:List V}
theorem Inv.lset {its its':List Value} {n:Nat} {f:Array Value→Array Value} {t':Nat} (I:Inv X pins σ H s) (hH:H l=some (.lst xs))
  (e:s.heap.get? l=some { cls:=.type "list",data:=.seq its.toArray n }) (hf:f its.toArray=its'.toArray) (hv:Vals ys its') (hz:ys.length≤sizeLine) :
  Inv X pins σ (upd H l (.lst ys)) { s with heap:=s.heap.update l (Obj.mapSeq f),toks:=t' }:=by
 have q:=PySem.IsL.update e f
 rw [hf] at q
 refine I.write (x:=l) (e:=l) (by rw [hH];exact trivial) (.inl rfl) (fun b' u hb hu=>(Heap.get?_update_other s.heap (Obj.mapSeq f) (Ne.symm hb)).trans hu) ⟨_,q⟩ ?_
 exact ⟨hz,its',_,hv,q⟩
theorem Inv.lnew {its:List Value} {t':Nat} (I:Inv X pins σ H s) (hv:Vals ys its) (hz:ys.length≤sizeLine) :
  Inv X pins σ (upd H s.heap.objs.size (.lst ys)) { s with heap:=s.heap.push { cls:=.type "list",data:=.seq its.toArray },toks:=t' } :=
 I.laid (fun _ _ q=>Heap.get?_push_of_some _ q) (Nat.le_refl _) ⟨hz,its,0,hv,Heap.get?_push_size _ rfl⟩
theorem Inv.fresh (I:Inv X pins σ H s):H s.heap.objs.size=none:=I.hok.fresh (Nat.le_refl _)
theorem Inv.lstM (I:Inv X pins σ H s) (hH:H l=some (.lst xs)):xs.length≤sizeLine∧∃ (its:List Value) (n:Nat),Vals xs its∧xs.length=its.length∧s.heap.get? l=some { cls:=.type "list",data:=.seq its.toArray n }:=by
 obtain ⟨z,its,n,r,e⟩:=I.hok l _ hH
 exact ⟨z,its,n,r,r.length,e⟩
end
section
variable {X:Cx}
inductive rAppend (x:V) (vs:List V) (H:Hp) (Q:VK):Prop
 | mk:∀ l xs y,(x=.ref l)→(vs=[y])→(H l=some (.lst xs))→(xs.length<sizeLine)→(Q .non (upd H l (.lst (xs++[y]))))→rAppend x vs H Q
theorem mt_append:MtM X "list.append" rAppend:=by
 intro pins s σ H x vs v us Q I rx rv h
 obtain ⟨l,xs,y,rfl,rfl,hH,hz,q⟩:=h
 cases rx
 obtain ⟨u,rfl,ru⟩:=rv.one
 obtain ⟨z,its,n,r,hl,e⟩:=I.lstM hH
 refine call_meets F.slot_list_append ⟨_,e,rfl⟩ F.entry_list_append (F.args_list_append_2 _ _) (PySem.list_append l its.toArray n u (by rw [List.size_toArray];omega)) ⟨e,?_⟩
 refine ⟨.non,_,I.lset (its':=its++[u]) hH e (by simp) (r.append (.cons ru .nil)) ?_,rfl,q⟩
 rw [List.length_append,List.length_singleton]
 omega
inductive rCat (x:V) (y:V) (H:Hp) (Q:VK):Prop
 | mk:∀ l b xs zs,(x=.ref l)→(y=.ref b)→(H l=some (.lst xs))→(H b=some (.lst zs))→(xs.length+zs.length≤sizeLine)→(∀ p,H p=none→Q (.ref p) (upd H p (.lst (xs++zs))))→rCat x y H Q
theorem op_cat:OpR X (binaryOp .Add) rCat:=by
 intro pins s σ H x y v u Q I rx ry h
 obtain ⟨l,b,xs,zs,rfl,rfl,hH,hB,hz,q⟩:=h
 cases rx
 cases ry
 obtain ⟨z,its,n,r,hl,e⟩:=I.lstM hH
 obtain ⟨z2,its2,n2,r2,hl2,e2⟩:=I.lstM hB
 refine PySem.P.add_list e e2 ?_ (by rw [List.size_toArray,List.size_toArray];omega)
 have ea:its.toArray++its2.toArray=(its++its2).toArray:=by simp
 rw [ea]
 exact ⟨.ref _,_,I.lnew (t':=s.toks) (r.append r2) (by rw [List.length_append];omega),rfl,q _ I.fresh⟩
end
section
variable {prog:Program} {w:World} {A:Around} {E:Value→Shared→Prop} {s:Shared}
end
section
variable {X:Cx}
end
end L2
namespace Att
open PySem PySem.W PySem.Calls PyProof.Rows
theorem ints_of_wellAll {P:Params} {h:Heap}:∀ (ns:List Int) (vs:List Value),WellAll P h vs (ns.map WData.int)→IntsAre vs ns:=by
 intro ns
 induction ns with
 | nil =>
  intro vs w
  rw [List.map_nil] at w
  cases w
  exact .nil
 | cons n ns ih =>
  intro vs w
  rw [List.map_cons] at w
  cases w with
  | cons a b =>
   cases a
   exact .cons _ _ (ih _ b)
theorem script_of {l:OpenLaw} {n:Nat} (hn:l.most=some n) {P:Params} {h:Heap} {args:List WData} {vals:List Value}
  (hpre:l.row.toRowW.claim.pre args=true) (hwl:WellAll P h vals args) :
  ∃ a vs ns,vals=[Value.ref a]∧args=[WData.list (ns.map WData.int)]∧h.get? a=some { cls:=.type "list",data:=.seq vs.toArray }∧IntsAre vs ns∧ns.length≤n:=by
 have hsh:WShape.hasAll [] args [.list .int]=true:=(pre_splitW hpre).1
 have hc:l.pre.holds [] { args:=args }=true:=(pre_splitW hpre).2
 obtain ⟨d,r,rfl,h1,h2⟩:=hasAllW_cons hsh
 obtain rfl:=hasAllW_nil h2
 obtain ⟨xs,rfl,h3⟩:=hasW_list h1
 obtain ⟨ns,rfl⟩:=items_int h3
 have hlen:ns.length≤n:=by
  unfold OpenLaw.pre at hc
  have h4:(WTm.not (.lt (.lit (.int (n:Int))) (.len (.arg 0)))).holds [] { args:=[.list (ns.map .int)] }=true:=by
   have h4:=(holds_andW hc).1
   rw [hn] at h4
   exact h4
  have h5:=condW_of h4 (w_not (w_lt w_lit (w_len_list (w_arg rfl))))
  rw [List.length_map] at h5
  refine Nat.le_of_not_lt fun q=>?_
  have q':(n:Int)<((ns.length:Nat):Int):=by omega
  first
   | (rw [decide_eq_true q'] at h5;exact absurd h5 (by decide))
   | (simp at h5;omega)
 cases hwl with
 | cons w1 w2 =>
  cases w2
  cases w1 with
  | list ho hall=>exact ⟨_,_,ns,rfl,rfl,ho,ints_of_wellAll ns _ hall,hlen⟩
theorem post_true (l:OpenLaw) (args:List WData):l.row.toRowW.claim.post args (.bool true) args=true :=
 postW_of (r:=l.row.toRowW) (X:=(true == true))
  (show WShape.has [] (.bool true) .bool=true by first | rfl | decide | simp [WShape.has,WShape.arms,WShape.armsAll])
  (show (WTm.eq .res (.lit (.bool true))).value [] { args:=args,res:=some (.bool true),after:=args }=some (.bool (true == true)) from w_eq_bool (w_res rfl) w_lit) rfl
/-- the same from a codeAny of the CALL (for a layer whose function contracts speak of calls) -/
theorem attach_call {l:OpenLaw} {n:Nat} {q:Program} {loose:List Str} {XP:(Str→Option Value)→Heap→Prop} {YP:World→Heap→Prop} {d:DefRec}
  (hn:l.most=some n) (hdf:d.params.defaults=[])
  (call:∀ (w:World) (s₀ s₁:Shared) (mg mb:Str→Option Value) (fa:Addr) (o:Obj) (pm cd doc:Value) (a:Addr) (vs:List Value) (ns:List Int),
   Ground q loose [] XP w s₀ mg mb s₁.heap→YP w s₁.heap →
   s₁.heap.get? fa=some o→o.data=.func (docDef d.name d.params d.body d.scope pm cd doc)→s₁.heap.CodeRec cd d.name→mg d.name=some (.ref fa) →
   s₁.heap.get? a=some { cls:=.type "list",data:=.seq vs.toArray }→IntsAre vs ns→ns.length≤n→s₁.gens = #[] →
   codeAny (model l.prog w) callerA (.call (.ref fa) ⟨[.ref a],[]⟩) (fun r s'=>r=.ok (.ret (.bool true))∧OldK s₁.heap s'.heap∧s'.os=s₁.os∧AllBare s'.gens) s₁) :
  WalkO q loose XP YP l.row.toRowW d [] (fun f vs=>PySem.call f vs):=by
 intro w s₀ s₁ mg mb G Y fa o pm cd doc dV kV ho hd hcd hD hmg hg args vals as hpre hlay hrd hwl hlo
 obtain rfl:dV=.none:=Dflts.none hD hdf
 obtain rfl:kV=.none:=Dflts.noKw hD
 obtain ⟨a,vs,ns,rfl,rfl,hobj,hints,hlen⟩:=script_of hn hpre hwl
 refine enter_call (codeAny_mono (call w s₀ s₁ mg mb fa o pm cd doc a vs ns G Y ho (fd_plain hd) hcd hmg hobj hints hlen hg) fun r s' hq=>?_)
 obtain ⟨rfl,h2,h3,h4⟩:=hq
 exact ⟨.inl ⟨.bool true,.bool true,[],rfl,fun _=>rfl,.bool true,post_true l _,fun _=>⟨List.Pairwise.nil,fun _ hm=>(nomatch hm)⟩⟩,h2,h3,h4⟩
section
variable {prog:Program} {w:World} {A:Around} {E:Value→Shared→Prop} {s:Shared} {K:Frag}
end
end Att
namespace L2
open PySem PySem.Spec PyProof.Rows
theorem vals_ints:∀ {vs:List Value} {ns:List Int},IntsAre vs ns→Vals (ns.map V.int) vs
 | _,_,.nil=>.nil
 | _,_,.cons n t h=>.cons ⟨t,rfl⟩ (vals_ints h)
/-- nothing is tracked but the script, known to the object (or it is an object of the module) -/
def Only (H:Hp):Prop:=∀ b,H b=none∨∃ o xs,H b=some (.frz o (.lst xs))
/-- THE HEAD: the law's promise, at the heap behind the top. F, the promise of the law's def, may use that base is part of the heap (so K.In base, base.Ns mainGlobals mg stand in Mod) -/
theorem law_call {P:Program} {w:World} {K:PySem.W.Frag} {mg mb:Str→Option Value} {CX:CXT} {k:Nat} {fa a:Addr} {fd:FuncData} {x:Str} {sp:Sp} {s₁:Shared} {vs:List Value} {ns:List Int}
  (KX:K.In s₁.heap) (hns:s₁.heap.Ns mainGlobals mg) (hb:s₁.heap.Ns builtinsNs mb) (hbb:∀ x:Str,x≠"__name__"→mb x=bootBuiltins x) (hlim:s₁.heap.NoLimit) (hsee:s₁.heap.NoSeer) (hg:s₁.gens = #[])
  (ha:s₁.heap.get? a=some { cls:=.type "list",data:=.seq vs.toArray }) (hi:IntsAre vs ns) (hl:ns.length≤sizeLine) (hr:Room k callerA)
  (F:∀ base:Heap,K.In base→base.Ns mainGlobals mg→FnOk P w K mg base CX k fa fd [x] sp) (hbind:∀ (s:Shared) (u:Value),BindsTo s fd ⟨[u],[]⟩ [(x,u)])
  (hsp:∀ H:Hp,Only H→SqL K H a (ns.map V.int)→sp [.ref a] H (fun v _=>v=.bl true) fun _ _ _=>False)
  (hCX:∀ H e s',CX [] H s₁ (fun _ _ _=>False) e s'→False) :
  codeAny (model P w) callerA (.call (.ref fa) ⟨[.ref a],[]⟩) (fun r s'=>r=.ok (.ret (.bool true))∧OldK s₁.heap s'.heap∧s'.os=s₁.os∧AllBare s'.gens) s₁:=by
 have rv:=vals_ints hi
 have lenV:=hi.length
  -- from an abstract heap in which nothing but the script may be tracked
 have core:∀ H:Hp,Only H→SqL K H a (ns.map V.int)→HOk P w H s₁.heap→(∀ b,H b≠none→b=a)→(H a≠none→K.lookup a=none) →
   codeAny (model P w) callerA (.call (.ref fa) ⟨[.ref a],[]⟩) (fun r s'=>r=.ok (.ret (.bool true))∧OldK s₁.heap s'.heap∧s'.os=s₁.os∧AllBare s'.gens) s₁:=by
  intro H hO hS hok hA hK
  have base_of:∀ {b:Addr} {o:Obj},s₁.heap.get? b=some o→H b=none→(hidT s₁.heap H).get? b=some o:=fun e n=>hidT_get e n
  have noA:∀ {b:Addr} {o:Obj} {es:Array DictEntry} {ep:Nat},s₁.heap.get? b=some o→o.data=.dict es ep→H b=none:=fun {b o es ep} e d=>by
   cases q:H b with
   | none=>rfl
   | some u =>
    have e':b=a:=hA b (by rw [q];simp)
    subst e'
    rw [ha] at e;cases e
    have d':Data.seq vs.toArray _=Data.dict es ep:=d
    cases d'
  have nsK:∀ {b:Addr} {m:Str→Option Value},s₁.heap.Ns b m→(hidT s₁.heap H).Ns b m:=fun {b m} ⟨o,es,ep,e,d,r⟩=>⟨o,es,ep,base_of e (noA e d),d,r⟩
  have hKb:K.In (hidT s₁.heap H):=fun b o e=>base_of (KX b o e) (by
   cases q:H b with
   | none=>rfl
   | some u =>
    have e':b=a:=hA b (by rw [q];simp)
    subst e'
    rw [hK (by rw [q];simp)] at e;cases e)
  have noM:∀ {b:Addr} {o:Obj},s₁.heap.get? b=some o→o.cls=.type "module"→H b=none:=fun {b o} e c=>by
   cases q:H b with
   | none=>rfl
   | some u =>
    have e':b=a:=hA b (by rw [q];simp)
    subst e'
    rw [ha] at e;cases e
    simp at c
  have hM:Mod K mg (hidT s₁.heap H):=⟨hKb,nsK hns,⟨mb,nsK hb,hbb⟩,let ⟨mc,h1,h2⟩:=hlim;⟨mc,nsK h1,h2⟩,⟨let ⟨mc,p,q⟩:=hsee.statics;⟨mc,nsK p,q⟩,let ⟨mc,p,q⟩:=hsee.mods;⟨mc,nsK p,q⟩,let ⟨mc,p,q⟩:=hsee.imp;⟨mc,nsK p,q⟩,let ⟨m,bm,ob,p,q,r,t,u⟩:=hsee.main;⟨m,bm,ob,nsK p,q,base_of r (noM r t),t,u⟩⟩⟩
  have e0:Env0 P w K mg (hidT s₁.heap H) callerA [] s₁ H:=⟨rfl,hM,fun b o e=>of_hidT e,Nat.le_of_eq (hidT_size _ _),trivial,fun b hb=>absurd (show b∈([]:List Addr) from hb) (by simp),hok,.of_eq hg⟩
  refine codeAny_mono ((F _ hKb (nsK hns)).run callerA [] s₁ H ⟨[.ref a],[]⟩ [.ref a] [.ref a] _ _ hr e0 (hbind s₁ (.ref a)) (.cons rfl .nil) (hsp H hO hS)) fun r s' h=>?_
  cases r with
  | error e=>exact (hCX H e s' h).elim
  | ok fl =>
   cases fl with
   | next=>exact False.elim h
   | brk=>exact False.elim h
   | cont=>exact False.elim h
   | ret u =>
    obtain ⟨v,H',os,bare,un,hok',r',q⟩:=h
    have q':v=.bl true:=q
    subst q'
    obtain rfl:u=Value.bool true:=r'
    refine ⟨rfl,OldK.of_keep fun b o e=>?_,os,bare⟩
    cases q:H b with
    | none=>exact un.keep b o e q (by intro z;exact absurd (show b∈([]:List Addr) from z) (by simp)) (by simp)
    | some u =>
     rcases hO b with z | ⟨ob,xs,z⟩
     ·rw [q] at z;cases z
     ·have z2:=un.frzs b ob _ z
      obtain ⟨e1,_⟩:=hok b _ z
      obtain ⟨e2,_⟩:=hok' b _ z2
      rw [e] at e1;cases e1
      exact e2
 cases hk:K.lookup a with
 | some o =>
    -- the script is one of the module's own objects
  have e:=KX a o hk
  rw [ha] at e
  cases e
  refine core (fun _=>none) (fun _=>.inl rfl) (.inr ⟨_,vs.toArray,_,hk,rfl,rfl,rfl,by rw [List.size_toArray,lenV];exact hl,by simpa using rv⟩) (fun b u z=>by have z':(none:Option HO)=some u:=z;cases z') (fun b z=>absurd rfl z) fun z=>absurd rfl z
 | none =>
  refine core (fun b=>if b=a then some (.frz { cls:=.type "list",data:=.seq vs.toArray } (.lst (ns.map V.int))) else none) (fun b=>?_) (.inl (.inr ⟨{ cls:=.type "list",data:=.seq vs.toArray },if_pos rfl⟩)) (fun b u z=>?_) (fun b z=>?_) fun _=>hk
  ·by_cases hb:b=a
   ·exact .inr ⟨_,_,if_pos hb⟩
   ·exact .inl (if_neg hb)
  ·by_cases hb:b=a
   ·have z':=(if_pos hb).symm.trans z
    cases z'
    subst hb
    exact ⟨ha,by rw [List.length_map];exact hl,vs,_,rv,ha⟩
   ·have z':=(if_neg hb).symm.trans z
    cases z'
  ·by_cases hb:b=a
   ·exact hb
   ·exact absurd (if_neg hb) z
end L2
namespace L2
open PySem PySem.Spec PyProof.Rows
/-- the goal that k_head leaves (case hc), from the law's promise. F gives the function object fd (K's own) once, then the promise over every base -/
theorem walk_of {l:PySem.W.OpenLaw} {n k:Nat} {q:Program} {loose:List Str} {XP:(Str→Option Value)→Heap→Prop} {YP:World→Heap→Prop} {d:DefRec} {K:Params→PySem.W.Frag} {CX:World→CXT} {sp:World→Sp} {x:Str}
  (hn:l.most=some n) (hn2:n≤sizeLine) (hdf:d.params.defaults=[]) (hr:Room k callerA)
  (hY:∀ (w:World) (h:Heap),YP w h→(K w.params).In h)
  (F:∀ (w:World) (mg:Str→Option Value) (fa:Addr) (h:Heap),(K w.params).In h→h.Ns mainGlobals mg→mg d.name=some (.ref fa) →
   ∃ fd:FuncData,(∀ (s:Shared) (u:Value),BindsTo s fd ⟨[u],[]⟩ [(x,u)]) ∧
    ∀ base:Heap,(K w.params).In base→base.Ns mainGlobals mg→FnOk l.prog w (K w.params) mg base (CX w) k fa fd [x] (sp w))
  (hsp:∀ (w:World) (H:Hp) (a:Addr) (ns:List Int),ns.length≤n→Only H→SqL (K w.params) H a (ns.map V.int)→sp w [.ref a] H (fun v _=>v=.bl true) fun _ _ _=>False)
  (hCX:∀ (w:World) (H:Hp) (s:Shared) (e:Value) (s':Shared),CX w [] H s (fun _ _ _=>False) e s'→False) (hq:importsNone q=true:=by first | assumption | decide +kernel) :
  PySem.W.WalkO q loose XP YP l.row.toRowW d [] (fun f vs=>PySem.call f vs):=by
 refine Att.attach_call hn hdf fun w s₀ s₁ mg mb fa o pm cd doc a vs ns G Y ho hd hcd hmg hobj hints hlen hg=>?_
 have KX:=hY w _ Y
 obtain ⟨fd,hb,hF⟩:=F w mg fa _ KX G.T.g hmg
 exact law_call KX G.T.g G.T.b G.T.builtins G.T.nolimit (G.T.seer hq) hg hobj hints (Nat.le_trans hlen hn2) hr hF hb (fun H hO hS=>hsp w H a ns hlen hO hS) fun H e s'=>hCX w H s₁ e s'
end L2
namespace L2
open PySem PySem.Spec PyProof.Rows
def defArgs (s:Stmt):Arguments:=match s with
 | .FunctionDef _ a _ _ _ _ _ _ _ _=>a
 | _=>{ posonlyargs:=[],args:=[],vararg:=none,kwonlyargs:=[],kw_defaults:=[],kwarg:=none,defaults:=[] }
def defBody (s:Stmt):List Stmt:=match s with
 | .FunctionDef _ _ b _ _ _ _ _ _ _=>b
 | _=>[]
def defScope (s:Stmt):Scope:=match s with
 | .FunctionDef _ _ _ _ _ _ sc _ _ _=>sc
 | _=>{ kind:=.function,names:=[],isGenerator:=false,isCoroutine:=false }
abbrev CX0:CXT:=fun _ _ _ _ _ _=>False
abbrev E0:XK:=fun _ _ _=>False
theorem pass0 {X:Cx}:Passes CX0 X E0:=fun _ _ _ _ _ _ _ h=>h.elim
structure Fun (K:PySem.W.Frag) (x qual:Str) (st:Stmt) (f:Addr) (fd:FuncData):Prop where
 ex:∃ (oc:Value) (od:Option Addr) (kV doc pm:Value) (an:Option Addr) (cdv ct:Value) (osl:Array (Option Value)),
  fd=PySem.W.fnOf x qual (defArgs st) (defBody st) (defScope st) .none kV doc pm an cdv ct∧K.lookup f=some ⟨oc,od,.func fd,osl⟩∧PySem.W.codeIn K cdv qual=true
 kp:PySem.W.keepIn K (.ref f)=true
section
variable {P:Program} {w:World} {K:PySem.W.Frag} {mg:Str→Option Value} {base:Heap}
/-- THE RULE for a def: its body as a term of rules, and the reading of that term -/
theorem Fun.ok {x qual:Str} {st:Stmt} {f:Addr} {fd:FuncData} {N ps:List Str} {k:Nat} {sp:Sp} (F:Fun K x qual st f fd) (S:FnScope N ps (defScope st)) (len:∀ vs H Q E,sp vs H Q E→vs.length=ps.length)
  (hbody:∀ (cdv:Value) (A:Around) (outer:List Env) (s:Shared) (H:Hp) (vs:List V) (Q:VK) (E:XK),Room k (A.deeper (envOfC qual (defScope st) s.heap.objs.size f cdv))→sp vs H Q E →
   ∃ t,PSs (cxOf CX0 P w K mg base N qual (defScope st) f cdv A outer s H E).nox (defBody st) t∧t { nx:=fun _ H'=>Q .non H',rt:=Q } (start N vs) H):FnOk P w K mg base CX0 (k+1) f fd ps sp:=by
 obtain ⟨oc,od,kV,doc,pm,an,cdv,ct,osl,rfl,lk,hcd⟩:=F.ex
 refine fn_of lk hcd S len fun A outer s H vs Q E hr hsp=>?_
 obtain ⟨t,h,q⟩:=hbody cdv A outer s H vs Q E hr hsp
 exact ⟨t,h.nox,q⟩
/-- how its arguments bind (no defaults): h is «fun _ _ _ _ _ _ us hl => match us, hl with | [_, _], _ => rfl», one _ a parameter -/
theorem Fun.binds {x qual:Str} {st:Stmt} {f:Addr} {fd:FuncData} {ps:List Str} (F:Fun K x qual st f fd)
  (h:∀ (kV doc pm:Value) (an:Option Addr) (cdv ct:Value) (us:List Value),us.length=ps.length→bindArgs (PySem.W.fnOf x qual (defArgs st) (defBody st) (defScope st) .none kV doc pm an cdv ct) ⟨us,[]⟩=pure (ps.zip us)):Binds K fd ps []:=by
 obtain ⟨oc,od,kV,doc,pm,an,cdv,ct,osl,rfl,lk,hcd⟩:=F.ex
 exact .all (h kV doc pm an cdv ct)
theorem fun_mk {x qual:Str} {st:Stmt} {f:Addr} {oc:Value} {od an:Option Addr} {osl:Array (Option Value)} {kV doc pm cdv ct:Value} (l:K.lookup f=some ⟨oc,od,.func (PySem.W.fnOf x qual (defArgs st) (defBody st) (defScope st) .none kV doc pm an cdv ct),osl⟩)
  (c:PySem.W.codeIn K cdv qual=true) (k:PySem.W.keepIn K (.ref f)=true):Fun K x qual st f (PySem.W.fnOf x qual (defArgs st) (defBody st) (defScope st) .none kV doc pm an cdv ct):=⟨⟨oc,od,kV,doc,pm,an,cdv,ct,osl,rfl,l,c⟩,k⟩
end
theorem hu_of {A:Around} {k:Nat} (hr:Room k A):A.units+1<cLine:=Nat.lt_of_le_of_lt (Nat.add_le_add_left (by decide:1≤64) _) hr.units
theorem small1000 {n:Nat} (h:n≤1000):n<sizeLine:=Nat.lt_of_le_of_lt h (by decide)
section
variable {X:Cx}
theorem pv (i:Nat) {x:Str} {pos:Pos} (hN:X.N[i]?=some x:=by rfl) (hv:Vis X.env.scope x:=by first | exact Or.inl rfl | exact Or.inr (Or.inl rfl) | exact Or.inr (Or.inr rfl)) (hd:(x == ("__debug__" : Str))=false:=by decide)
  (hcd:(x == ("__classdict__" : Str))=false:=by decide):PE X (.Name x pos) (tVar i):=pe_var hN hv hd hcd
end
theorem iteF {A B:Prop} (h:B):if false=true then A else B:=by
 rw [if_neg Bool.false_ne_true]
 exact h
theorem iteT {A B:Prop} (h:A):if true=true then A else B:=by
 rw [if_pos rfl]
 exact h
theorem ite2 {c A B:Prop} [Decidable c] (h1:c→A) (h2:¬ c→B):if c then A else B:=by
 by_cases h:c
 ·rw [if_pos h]
  exact h1 h
 ·rw [if_neg h]
  exact h2 h
/-- all that was tracked is as it was -/
def Same (H H':Hp):Prop:=∀ b o,H b=some o→H' b=some o
theorem Same.refl (H:Hp):Same H H:=fun _ _ h=>h
theorem Same.trans {H H1 H2:Hp} (a:Same H H1) (b:Same H1 H2):Same H H2:=fun c o h=>b c o (a c o h)
theorem Same.free {H H':Hp} (e:Same H H') {l:Addr} (h:H' l=Option.none):H l=Option.none:=by
 cases q:H l with
 | none=>rfl
 | some o =>
  rw [e l o q] at h
  cases h
theorem Same.seq {K:PySem.W.Frag} {H H':Hp} {a:Addr} {xs:List V} (e:Same H H') (h:SqL K H a xs):SqL K H' a xs:=by
 rcases h with (h | ⟨o,h⟩) | h
 ·exact .inl (.inl (e _ _ h))
 ·exact .inl (.inr ⟨o,e _ _ h⟩)
 ·exact .inr h
end L2
set_option Elab.async false
set_option linter.all false
set_option maxRecDepth 100000
namespace Own
open PySem PySem.Spec PyProof.Rows L2
def Has (P:Program) (w:World) (K:PySem.W.Frag) (mg:Str→Option Value) (base:Heap) (x:Str) (ps:List Str) (k:Nat) (sp:Sp):Prop :=
 ∃ (f:Addr) (fd:FuncData),FnOk P w K mg base CX0 k f fd ps sp∧Binds K fd ps []∧PySem.W.keepIn K (.ref f)=true∧mg x=some (.ref f)
theorem Has.mono {P:Program} {w:World} {K:PySem.W.Frag} {mg:Str→Option Value} {base:Heap} {x:Str} {ps:List Str} {j k:Nat} {sp:Sp} (h:Has P w K mg base x ps j sp) (hk:j≤k):Has P w K mg base x ps k sp:=by
 obtain ⟨f,fd,F,r⟩:=h
 exact ⟨f,fd,F.mono hk,r⟩
section
variable {X:Cx} {k:Nat} {ps:List Str} {sp:Sp} {x:Str} {p pos:Pos} {e:Expr} {es:List Expr} {t:TA}
theorem pe_has (h:Has X.prog X.w X.K X.mg X.base x ps k sp) (hr:Room k X.A) (hg:Gl X x)
  (ha:PA X (e::es) t) (hdb:(x == ("__debug__" : Str))=false:=by decide) (he:starEach (e::es) X.env=(false,eval e X.env)::starEach es X.env:=by rfl) (hpl:(backTo pos (starEach es X.env)).any (·.1)=false:=by rfl) :
  PE X (.Call (.Name x p) (e::es) [] pos) (tCall sp [] E0 t):=by
 obtain ⟨f,fd,F,b,kp,m⟩:=h
 exact pe_call F hr hg m kp b .nil pass0 ha hdb he hpl
end
def CMulW (i j:Int):Prop:=i.natAbs<2 ^ 9000∧j.natAbs<2 ^ 9000
def CDivW (i j:Int):Prop:=j≠0∧j.natAbs<2 ^ 9000
theorem bits_of {i:Int} (h:i.natAbs<2 ^ 9000):Builtin.Int.intBits i≤2 ^ 20 :=
 Nat.le_trans (intBits_le h) (by decide)
section
variable {X:Cx}
theorem op_mulW:OpR X (binaryOp .Mult) (rI CMulW fun i j=>.int (i*j)):=opI fun _ _ _ _ _ _ _ hc q=>mul_int q (IntMulOk.of_bits (bits_of hc.1) (bits_of hc.2))
theorem log2_lt {n:Nat} (h:n<2 ^ 9000):n.log2<9000:=by
 by_cases h0:n=0
 ·subst h0;decide
 ·exact (Nat.log2_lt h0).mpr h
theorem op_fdivW:OpR X (binaryOp .FloorDiv) (rI CDivW fun i j=>.int (i.fdiv j)):=opI fun _ _ _ _ _ _ _ hc q=>floordiv_int hc.1 q (.inl (PyProof.noPylong_of_log2 (log2_lt hc.2)))
/-- isinstance(x, T), T a built-in type -/
inductive call_isiY (K:PySem.W.Frag) (xs:List V) (H:Hp) (Q:VK):Prop
 | mk:∀ x t T b,(xs=[x,.ty T])→(TyOf K H x t)→(PySem.W.kitOne K t (.type T)=some b)→(Q (.bl b) H)→call_isiY K xs H Q
theorem call_isi:CallR X (.builtin "isinstance") (call_isiY X.K):=by
 intro pins s σ H xs us Q I r h
 obtain ⟨x,t,T,b,rfl,ty,e,q⟩:=h
 obtain ⟨u,w',rfl,r1,r2⟩:=vals2 r
 cases r2
 exact isinst_ok I r1 ty e fun tk=>⟨.bl b,H,I.tok _,rfl,q⟩
end
end Own
set_option linter.all false
namespace L2
open PySem
/-- a def as it lies at the top -/
def DfAt (K:PySem.W.Frag) (n:Str) (st:Stmt):Prop:=∃ (f:Addr) (fd:FuncData),PySem.W.nsIn K mainGlobals n=some (some (.ref f))∧Fun K n n st f fd
theorem df_mk {K:PySem.W.Frag} {n:Str} {st:Stmt} {f:Addr} {oc:Value} {od an:Option Addr} {osl:Array (Option Value)} {kV doc pm cdv ct:Value} (a:PySem.W.nsIn K mainGlobals n=some (some (.ref f))) (l:K.lookup f=some ⟨oc,od,.func (PySem.W.fnOf n n (defArgs st) (defBody st) (defScope st) .none kV doc pm an cdv ct),osl⟩) (c:PySem.W.codeIn K cdv n=true) (k:PySem.W.keepIn K (.ref f)=true):DfAt K n st:=⟨f,_,a,fun_mk l c k⟩
theorem has_mk {P:Program} {w:World} {K:PySem.W.Frag} {mg:Str→Option Value} {h base:Heap} (X:K.In h) (G:h.Ns mainGlobals mg) {n:Str} {st:Stmt} {ps:List Str} {lv:Nat} {sp:Sp} (d:DfAt K n st)
  (ok:∀ (f:Addr) (fd:FuncData),Fun K n n st f fd→FnOk P w K mg base CX0 lv f fd ps sp) (b:∀ (kV doc pm:Value) (an:Option Addr) (cdv ct:Value) (us:List Value),us.length=ps.length→bindArgs (PySem.W.fnOf n n (defArgs st) (defBody st) (defScope st) .none kV doc pm an cdv ct) ⟨us,[]⟩=pure (ps.zip us)):Own.Has P w K mg base n ps lv sp:=by
 obtain ⟨f,fd,a,F⟩:=d
 exact ⟨f,fd,ok f fd F,F.binds b,F.kp,PySem.W.mg_of X G a⟩
end L2
set_option Elab.async false
set_option linter.all false
set_option maxRecDepth 100000
namespace L2
open PySem PySem.Spec PyProof.Rows
section
variable {κ:Type} [DecidableEq κ]
def valV (kvs:List (κ×V)) (k:κ):Option V:=(kvs.find? fun kv=>decide (kv.1=k)).map (·.2)
/-- in its place, or at the end -/
def putK (kvs:List (κ×V)) (k:κ) (v:V):List (κ×V) :=
 if (kvs.any fun kv=>decide (kv.1=k))=true then kvs.map (fun kv=>if kv.1=k then (kv.1,v) else kv) else kvs++[(k,v)]
def dropK (kvs:List (κ×V)) (k:κ):List (κ×V):=kvs.filter fun kv=>decide (kv.1≠k)
theorem valV_pos {p:κ×V} {r:List (κ×V)} {k:κ} (e:p.1=k):valV (p::r) k=some p.2:=by simp [valV,List.find?_cons,e]
theorem valV_neg {p:κ×V} {r:List (κ×V)} {k:κ} (e:¬ p.1=k):valV (p::r) k=valV r k:=by simp [valV,List.find?_cons,e]
theorem valV_any (k:κ):∀ kvs:List (κ×V),(kvs.any fun kv=>decide (kv.1=k))=(valV kvs k).isSome
 | []=>rfl
 | p::r=>by
  rw [List.any_cons]
  by_cases e:p.1=k
  ·simp only [valV_pos e,decide_eq_true e,Bool.true_or,Option.isSome_some]
  ·rw [valV_neg e,decide_eq_false e,Bool.false_or];exact valV_any k r
theorem valV_map (k j:κ) (y:V):∀ kvs:List (κ×V),valV (kvs.map fun kv=>if kv.1=k then (kv.1,y) else kv) j=(valV kvs j).map fun x=>if j=k then y else x
 | []=>rfl
 | p::r=>by
  have ih:=valV_map k j y r
  rw [List.map_cons]
  by_cases h:p.1=k
  ·rw [if_pos h]
   by_cases e:p.1=j
   ·rw [valV_pos (p:=(p.1,y)) e,valV_pos e,Option.map_some,if_pos (e.symm.trans h)]
   ·rw [valV_neg (p:=(p.1,y)) e,valV_neg e,ih]
  ·rw [if_neg h]
   by_cases e:p.1=j
   ·rw [valV_pos (p:=p) e,valV_pos e,Option.map_some,if_neg (fun z=>h (e.trans z))]
   ·rw [valV_neg (p:=p) e,valV_neg e,ih]
theorem valV_snoc (k j:κ) (y:V):∀ kvs:List (κ×V),valV kvs k=none→valV (kvs++[(k,y)]) j=if j=k then some y else valV kvs j
 | [],_=>by
  by_cases e:k=j
  ·rw [if_pos e.symm];exact valV_pos (p:=(k,y)) e
  ·rw [if_neg (fun z=>e z.symm)];exact valV_neg (p:=(k,y)) e
 | p::r,hn=>by
  rw [List.cons_append]
  have hk:¬ p.1=k:=fun z=>by rw [valV_pos z] at hn;cases hn
  rw [valV_neg hk] at hn
  have ih:=valV_snoc k j y r hn
  by_cases e:p.1=j
  ·rw [valV_pos e,valV_pos e,if_neg (fun z=>hk (e.trans z))]
  ·rw [valV_neg e,valV_neg e,ih]
theorem valV_put (kvs:List (κ×V)) (k j:κ) (y:V):valV (putK kvs k y) j=if j=k then some y else valV kvs j:=by
 unfold putK
 by_cases a:(kvs.any fun kv=>decide (kv.1=k))=true
 ·rw [if_pos a,valV_map]
  rw [valV_any] at a
  by_cases e:j=k
  ·obtain ⟨x,hx⟩:=Option.isSome_iff_exists.mp a
   rw [if_pos e,e,hx,Option.map_some,if_pos rfl]
  ·rw [if_neg e]
   cases valV kvs j with
   | none=>rfl
   | some x=>rw [Option.map_some,if_neg e]
 ·rw [if_neg a]
  refine valV_snoc k j y kvs ?_
  rw [valV_any] at a
  cases q:valV kvs k with
  | none=>rfl
  | some x=>rw [q] at a;exact (a rfl).elim
theorem length_putK (kvs:List (κ×V)) (k:κ) (v:V):(putK kvs k v).length≤kvs.length+1:=by
 unfold putK
 split
 ·rw [List.length_map];omega
 ·rw [List.length_append,List.length_cons,List.length_nil];omega
theorem putK_new {kvs:List (κ×V)} {k:κ} (v:V) (h:valV kvs k=none):putK kvs k v=kvs++[(k,v)]:=by
 unfold putK
 rw [valV_any,h]
 exact if_neg (by decide)
theorem RelO.isSome_eq {o:Option V} {u:Option Value} (r:RelO o u):o.isSome=u.isSome:=by
 cases o with
 | none=>cases u with
  | none=>rfl
  | some _=>exact (show False from r).elim
 | some _=>cases u with
  | none=>exact (show False from r).elim
  | some _=>rfl
theorem RelO.getD {o:Option V} {u:Option Value} {d:V} {d':Value} (r:RelO o u) (rd:RelV d d'):RelV (o.getD d) (u.getD d'):=by
 cases o with
 | none=>cases u with
  | none=>exact rd
  | some _=>exact (show False from r).elim
 | some _=>cases u with
  | none=>exact (show False from r).elim
  | some _=>exact r
/-- raw tables of the same keys -/
theorem KV.val {kvs:List (κ×V)} {vs:List (κ×Value)} (r:KV kvs vs) (k:κ):RelO (valV kvs k) (valueAt vs k):=by
 unfold KV at r
 induction r with
 | nil=>exact True.intro
 | @cons p q ps qs h t ih =>
  obtain ⟨h1,h2⟩:=h
  by_cases e:p.1=k
  ·have e':q.1=k:=h1.symm.trans e
   have b:valueAt (q::qs) k=some q.2:=by simp [valueAt,List.find?_cons,e']
   rw [valV_pos e,b];exact h2
  ·have e':¬ q.1=k:=fun z=>e (h1.trans z)
   have b:valueAt (q::qs) k=valueAt qs k:=by simp [valueAt,List.find?_cons,e']
   rw [valV_neg e,b];exact ih
theorem KV.any {kvs:List (κ×V)} {vs:List (κ×Value)} (r:KV kvs vs) (k:κ):(kvs.any fun kv=>decide (kv.1=k))=vs.any fun kv=>decide (kv.1=k):=by
 unfold KV at r
 induction r with
 | nil=>rfl
 | cons h t ih=>rw [List.any_cons,List.any_cons,ih,h.1]
theorem KV.repl {kvs:List (κ×V)} {vs:List (κ×Value)} (r:KV kvs vs) (k:κ) {y:V} {u:Value} (ry:RelV y u) :
  KV (kvs.map fun kv=>if kv.1=k then (kv.1,y) else kv) (vs.map fun kv=>if kv.1=k then (kv.1,u) else kv):=by
 unfold KV at r ⊢
 induction r with
 | nil=>exact .nil
 | @cons p q ps qs h t ih =>
  rw [List.map_cons,List.map_cons]
  refine .cons ?_ ih
  obtain ⟨h1,h2⟩:=h
  by_cases e:p.1=k
  ·rw [if_pos e,if_pos (h1.symm.trans e)];exact ⟨h1,ry⟩
  ·rw [if_neg e,if_neg (fun z=>e (h1.trans z))];exact ⟨h1,h2⟩
theorem KV.put {kvs:List (κ×V)} {vs:List (κ×Value)} (r:KV kvs vs) (k:κ) {y:V} {u:Value} (ry:RelV y u):KV (putK kvs k y) (stored vs k u):=by
 unfold putK stored
 rw [r.any k]
 by_cases e:(vs.any fun kv=>decide (kv.1=k))=true
 ·rw [if_pos e,if_pos e];exact r.repl k ry
 ·rw [if_neg e,if_neg e];exact Paired.snoc r ⟨rfl,ry⟩
theorem KV.drop {kvs:List (κ×V)} {vs:List (κ×Value)} (r:KV kvs vs) (k:κ):KV (dropK kvs k) (without vs k):=by
 unfold KV at r ⊢
 unfold dropK without
 induction r with
 | nil=>exact .nil
 | @cons p q ps qs h t ih =>
  obtain ⟨h1,h2⟩:=h
  rw [List.filter_cons,List.filter_cons]
  by_cases e:p.1=k
  ·have a:¬ decide (p.1≠k)=true:=by simp [e]
   have b:¬ decide (q.1≠k)=true:=by simp [h1.symm.trans e]
   rw [if_neg a,if_neg b];exact ih
  ·have e':¬ q.1=k:=fun z=>e (h1.trans z)
   have a:decide (p.1≠k)=true:=by simp [e]
   have b:decide (q.1≠k)=true:=by simp [e']
   rw [if_pos a,if_pos b];exact .cons ⟨h1,h2⟩ ih
theorem KV.keys {kvs:List (κ×V)} {vs:List (κ×Value)} (r:KV kvs vs):kvs.map (·.1)=vs.map (·.1):=by
 unfold KV at r
 induction r with
 | nil=>rfl
 | cons h t ih=>rw [List.map_cons,List.map_cons,ih,h.1]
theorem KV.length {kvs:List (κ×V)} {vs:List (κ×Value)} (r:KV kvs vs):kvs.length=vs.length:=Paired.length r
end
theorem kV_is {P:Program} {w:World} {k:Key} {u:Value} (r:RelV (kV k) u):(mixKind P w).is k u=true:=by
 cases k with
 | inl i=>obtain ⟨t,e⟩:=(show ∃ t,u=Value.int i t from r);subst e;exact mixKind_int P w i t
 | inr x=>obtain ⟨t,e⟩:=(show ∃ t,u=Value.str x t from r);subst e;exact mixKind_str P w x t
theorem items_are {P:Program} {w:World}:∀ {ks:List Key} {us:List Value},Vals (ks.map kV) us→ItemsAre (mixKind P w) ks us
 | [],_,r=>by rw [List.map_nil] at r;cases r;exact .nil
 | k::ks,_,r=>by
  rw [List.map_cons] at r
  cases r with
  | cons h t=>exact .cons (kV_is h) (items_are t)
/-- raw entries of a dict with tuple keys -/
abbrev KT (H:Hp):List (List Key×V)→List (List Key×Addr×Value)→Prop:=Paired fun p q=>p.1=q.1∧H q.2.1=some (.tup (p.1.map kV))∧RelV p.2 q.2.2
theorem KT.val {H:Hp} {kvs:List (List Key×V)} {xs:List (List Key×Addr×Value)} (r:KT H kvs xs) (k:List Key):RelO (valV kvs k) ((atKey xs k).map (·.2)):=by
 induction r with
 | nil=>exact True.intro
 | @cons p q ps qs h t ih =>
  obtain ⟨h1,_,h2⟩:=h
  by_cases e:p.1=k
  ·have e':q.1=k:=h1.symm.trans e
   have b:atKey (q::qs) k=some q.2:=by simp [atKey,List.find?_cons,e']
   rw [valV_pos e,b];exact h2
  ·have e':¬ q.1=k:=fun z=>e (h1.trans z)
   have b:atKey (q::qs) k=atKey qs k:=by simp [atKey,List.find?_cons,e']
   rw [valV_neg e,b];exact ih
theorem KT.repl {H:Hp} {kvs:List (List Key×V)} {xs:List (List Key×Addr×Value)} (r:KT H kvs xs) (k:List Key) {y:V} {u:Value} (ry:RelV y u) :
  KT H (kvs.map fun kv=>if kv.1=k then (kv.1,y) else kv) (xs.map (putAt k u)):=by
 induction r with
 | nil=>exact .nil
 | @cons p q ps qs h t ih =>
  rw [List.map_cons,List.map_cons]
  refine .cons ?_ ih
  obtain ⟨h1,h2,h3⟩:=h
  unfold putAt
  by_cases e:p.1=k
  ·rw [if_pos e,if_pos (h1.symm.trans e)];exact ⟨h1,h2,ry⟩
  ·rw [if_neg e,if_neg (fun z=>e (h1.trans z))];exact ⟨h1,h2,h3⟩
theorem KT.put {H:Hp} {kvs:List (List Key×V)} {xs:List (List Key×Addr×Value)} (r:KT H kvs xs) (k:List Key) {b:Addr} {y:V} {u:Value} (hb:H b=some (.tup (k.map kV))) (ry:RelV y u) :
  KT H (putK kvs k y) (storedH xs k b u):=by
 have e:(kvs.any fun kv=>decide (kv.1=k))=(atKey xs k).isSome:=by
  rw [valV_any,(r.val k).isSome_eq,Option.isSome_map]
 unfold putK storedH
 rw [e]
 by_cases q:(atKey xs k).isSome=true
 ·rw [if_pos q,if_pos q];exact r.repl k ry
 ·rw [if_neg q,if_neg q];exact Paired.snoc r ⟨rfl,hb,ry⟩
theorem KT.keeps {H H':Hp} {kvs:List (List Key×V)} {xs:List (List Key×Addr×Value)} (r:KT H kvs xs) (ht:∀ b ys,H b=some (.tup ys)→H' b=some (.tup ys)):KT H' kvs xs :=
 Paired.mapP r fun _ _ z=>⟨z.1,ht _ _ z.2.1,z.2.2⟩
section
variable {P:Program} {w:World} {H:Hp} {h:Heap} {a:Addr}
theorem rd_of {u:HO} (ok:HOk P w H h) (e:Rd H a u):ObjOk P w H h a u:=e.ok ok
theorem dk_rd {kvs:List (Key×V)} (ok:HOk P w H h) (e:Rd H a (.dK kvs)):kvs.length≤sizeLine∧(a == sysModules)=false∧∃ vs,KV kvs vs∧h.DictOf (mixKind P w) a vs :=
 show ObjOk P w H h a (.dK kvs) from rd_of ok e
theorem dk_of {kvs:List (Key×V)} (ok:HOk P w H h) (e:H a=some (.dK kvs)):kvs.length≤sizeLine∧(a == sysModules)=false∧∃ vs,KV kvs vs∧h.DictOf (mixKind P w) a vs:=dk_rd ok (.inl e)
/-- a tracked tuple of ints and texts is a key -/
theorem key_of {ks:List Key} (ok:HOk P w H h) (e:H a=some (.tup (ks.map kV))):(tupleKind (mixKind P w)).is h ks a:=by
 obtain ⟨_,its,r,o,h1,h2,n,h3,_⟩:=(show ObjOk P w H h a (.tup (ks.map kV)) from ok a _ e)
 exact ⟨o,its.toArray,n,h1,h2,h3,by simpa using items_are r⟩
theorem dt_rd {kvs:List (List Key×V)} (ok:HOk P w H h) (e:Rd H a (.dT kvs)):kvs.length≤sizeLine∧(a == sysModules)=false ∧
  ∃ xs,KT H kvs xs∧h.DictOfH (tupleKind (mixKind P w)) a xs:=by
 obtain ⟨z,y,xs,r,o,es,ep,h1,h2,h3,h4,h5⟩:=(show ObjOk P w H h a (.dT kvs) from rd_of ok e)
 refine ⟨z,y,xs,r,o,es,ep,h1,h2,h3,h4,fun x hx=>?_,h5⟩
 have all:∀ {l:List (List Key×V)} {m:List (List Key×Addr×Value)},KT H l m→∀ x∈m,(tupleKind (mixKind P w)).is h x.1 x.2.1:=by
  intro l m q
  induction q with
  | nil=>intro x hx;exact nomatch hx
  | @cons p q ps qs hq t ih =>
   intro x hx
   rcases List.mem_cons.mp hx with e | hx
   ·subst e
    exact key_of ok (by rw [←hq.1];exact hq.2.1)
   ·exact ih x hx
 exact all r x hx
end
/-- what the dict at a holds at the key y -/
def DGet (H:Hp) (a:Addr) (y:V) (r:Option V):Prop :=
 (∃ kvs k,Rd H a (.dK kvs)∧y=kV k∧r=valV kvs k)∨∃ kvs k b,Rd H a (.dT kvs)∧y=.ref b∧H b=some (.tup (k.map kV))∧r=valV kvs k
/-- the heap behind a[y] = v -/
def DPut (H:Hp) (a:Addr) (y v:V) (H':Hp):Prop :=
 (∃ kvs k,H a=some (.dK kvs)∧y=kV k∧kvs.length<sizeLine∧H'=upd H a (.dK (putK kvs k v))) ∨
 ∃ kvs k b,H a=some (.dT kvs)∧y=.ref b∧H b=some (.tup (k.map kV))∧kvs.length<sizeLine∧H'=upd H a (.dT (putK kvs k v))
theorem DGet.k {H:Hp} {a:Addr} {kvs:List (Key×V)} {k:Key} (e:H a=some (.dK kvs)):DGet H a (kV k) (valV kvs k):=.inl ⟨kvs,k,.inl e,rfl,rfl⟩
theorem DGet.t {H:Hp} {a b:Addr} {kvs:List (List Key×V)} {k:List Key} (e:H a=some (.dT kvs)) (eb:H b=some (.tup (k.map kV))):DGet H a (.ref b) (valV kvs k):=.inr ⟨kvs,k,b,.inl e,rfl,eb,rfl⟩
theorem DPut.k {H:Hp} {a:Addr} {kvs:List (Key×V)} {k:Key} {v:V} (e:H a=some (.dK kvs)) (hl:kvs.length<sizeLine):DPut H a (kV k) v (upd H a (.dK (putK kvs k v))):=.inl ⟨kvs,k,e,rfl,hl,rfl⟩
theorem DPut.t {H:Hp} {a b:Addr} {kvs:List (List Key×V)} {k:List Key} {v:V} (e:H a=some (.dT kvs)) (eb:H b=some (.tup (k.map kV))) (hl:kvs.length<sizeLine) :
  DPut H a (.ref b) v (upd H a (.dT (putK kvs k v))):=.inr ⟨kvs,k,b,e,rfl,eb,hl,rfl⟩
section
variable {X:Cx} {pins:List (Addr×Obj)} {σ:St} {H:Hp} {s:Shared} {a:Addr} {y v:V} {u r:Value} {o:Option V} {A:Around} {E:Value→Shared→Prop}
theorem Inv.big (I:Inv X pins σ H s):sysModules<s.heap.objs.size:=by
 have h:mainGlobals<s.heap.objs.size:=(I.mod.glob.keeps I.bk).lt
 exact Nat.lt_trans (by decide) h
/-- d[y], there -/
theorem d_getItem {Q:Value→Shared→Prop} (hu:A.units+1<cLine) (I:Inv X pins σ H s) (g:DGet H a y (some v)) (ry:RelV y u) (h:∀ w' s',Inv X pins σ H s'→RelV v w'→Q w' s') :
  wpAny (model X.prog X.w) A (getItem (.ref a) u) Q E s:=by
 rcases g with ⟨kvs,k,e,ey,l⟩ | ⟨kvs,k,b,e,ey,eb,l⟩
 ·subst ey
  obtain ⟨z,hd,vs,rel,dd⟩:=dk_rd I.hok e
  obtain ⟨w',hw,rw'⟩:=RelO.some_of (v:=v) (o:=valueAt vs k) (by rw [l];exact rel.val k)
  exact wpAny_getItem_of (kV_is ry) dd.mapOf hw (h w' _ (I.tok _) rw')
 ·subst ey
  cases (show u=Value.ref b from ry)
  obtain ⟨z,hd,xs,rel,dd⟩:=dt_rd I.hok e
  obtain ⟨w',hw,rw'⟩:=RelO.some_of (v:=v) (o:=(atKey xs k).map (·.2)) (by rw [l];exact rel.val k)
  obtain ⟨p,hp,hp2⟩:=Option.map_eq_some_iff.mp hw
  refine wpAny_getItem_heap (tupleKind_room_in1 hu) (key_of I.hok eb) dd hp ?_
  rw [hp2]
  exact h w' _ (I.tok _) rw'
/-- a dict's object is replaced -/
theorem d_write {h':Heap} {t':Nat} {ob:HO} (I:Inv X pins σ H s) (mu:Mut (H a)) (hs:Heap.SameBut a s.heap h') (he:∃ q,h'.get? a=some q) (new:ObjOk X.prog X.w (upd H a ob) h' a ob) :
  Inv X pins σ (upd H a ob) { s with heap:=h',toks:=t' } :=
 I.write (x:=a) (e:=a) mu (.inl rfl) (fun b q hb z=>(hs.2 b hb).trans z) he new
theorem dk_new {P:Program} {w:World} {H':Hp} {h':Heap} {kvs:List (Key×V)} {vs:List (Key×Value)} (z:kvs.length≤sizeLine) (hd:(a == sysModules)=false) (rel:KV kvs vs) (dd:h'.DictOf (mixKind P w) a vs) :
  ObjOk P w H' h' a (.dK kvs):=⟨z,hd,vs,rel,dd⟩
end
section
variable {X:Cx} {pins:List (Addr×Obj)} {σ:St} {H:Hp} {s:Shared} {a:Addr} {kvs:List (Key×V)} {k:Key} {u:Value} {A:Around} {E:Value→Shared→Prop}
/-- len(d) -/
theorem d_len {Q:Value→Shared→Prop} (I:Inv X pins σ H s) (e:Rd H a (.dK kvs)) (h:∀ t s',Inv X pins σ H s'→Q (.int kvs.length t) s'):wpAny (model X.prog X.w) A (call (.builtin "len") [.ref a]) Q E s:=by
 obtain ⟨z,hd,vs,rel,dd⟩:=dk_rd I.hok e
 refine call_len_dict hd dd (by rw [←rel.length];rw [sizeLine_eq] at z;omega) ?_
 rw [←rel.length]
 exact h _ _ (I.tok _)
end
/-- the element of a subscription, not a slice -/
def NoSl (i:Expr):Prop:=∀ ov iv,subscripted i false ov iv=operate [ov,iv] (getItem ov iv)
theorem subD_of {prog:Program} {w:World} {A:Around} {E:Value→Shared→Prop} {s:Shared} {env:Env} {value slice:Expr} {pos:Pos} {T id:String} {Q:Value→Shared→Prop}
  (hl:typeLookup (.type T) "__getitem__" = pure (some (.builtin id))) (hs:NoSl slice)
  (h:wpAny (model prog w) A (eval value env) (fun o s₁=>wpAny (model prog w) A (eval slice env) (fun i s₂=>s₂.TypeIs o T∧wpAny (model prog w) A (getItem o i) Q E s₂) E s₁) E s) :
  wpAny (model prog w) A (eval (.Subscript value slice pos) env) Q E s:=by
 refine Subscript_ (wpAny_mono h (fun o s₁ h₁=>wpAny_mono h₁ (fun i s₂ h₂=>?_) fun _ _ x=>x) fun _ _ x=>x)
 obtain ⟨hT,h₂⟩:=h₂
 unfold subscriptTail
 refine wpAny_bind ?_
 rw [getitemInPython_of_ne hT.not_modules]
 refine wpAny_bind (wpAny_specialOf hT hl ?_)
 have fin:wpAny (model prog w) A (subscripted slice false o i) (fun r s₃=>wpAny (model prog w) A (letTemporaryGo value o r >>= fun _=>pure r) Q E s₃) E s₂:=by
  rw [hs o i]
  exact wpAny_operating (wpAny_mono h₂ (fun r s₃ h₃=>wpAny_bind (wpAny_letTemporaryGo (wpAny_pure h₃))) fun _ _ x=>x)
 first
  | exact wpAny_pure (wpAny_bind fin)
  | exact wpAny_bind (wpAny_pure (wpAny_bind fin))
  | exact wpAny_bind fin
theorem dict_typeIs {X:Cx} {pins:List (Addr×Obj)} {σ:St} {H:Hp} {s:Shared} {a:Addr} {y:V} {o:Option V} (I:Inv X pins σ H s) (g:DGet H a y o):s.TypeIs (.ref a) "dict":=by
 rcases g with ⟨kvs,k,e,_,_⟩ | ⟨kvs,k,b,e,_,_,_⟩
 ·obtain ⟨_,_,vs,_,dd⟩:=dk_rd I.hok e
  exact dd.typeIs
 ·obtain ⟨_,_,xs,_,dd⟩:=dt_rd I.hok e
  exact dd.typeIs
/-- d[y] -/
inductive tDGetY (Q:VK) (x:V) (y:V) (H2:Hp):Prop
 | mk:∀ a v,(x=.ref a)→(DGet H2 a y (some v))→(Q v H2)→tDGetY Q x y H2
def tDGet (td ty:TE):TE:=fun σ H Q=>td σ H fun x H1=>ty σ H1 fun y H2=>tDGetY Q x y H2
section
variable {X:Cx} {o i e value:Expr} {pos pos' tpos:Pos} {td ty tv:TE}
theorem pe_dget (hu:X.A.units+1<cLine) (ho:PE X o td) (hi:PE X i ty) (hs:NoSl i):PE X (.Subscript o i pos) (tDGet td ty):=by
 intro pins s σ H Q I h
 refine subD_of PySem.F.slot_dict_getitem.lookup hs (thn (ho pins s σ H _ I h) fun u s1 ⟨x,H1,I1,rx,q1⟩=>thn (hi pins s1 σ H1 _ I1 q1) fun iv s2 ⟨y,H2,I2,ry,a,v,ex,g,q2⟩=>?_)
 subst ex
 obtain rfl:u=Value.ref a:=rx
 exact ⟨dict_typeIs I2 g,d_getItem hu I2 g ry fun w' s3 I3 rw'=>⟨v,H2,I3,rw',q2⟩⟩
end
theorem dk_empty {P:Program} {w:World} {H:Hp} (h:Heap) (hb:sysModules<h.objs.size):ObjOk P w H (h.push { cls:=.type "dict",data:=.dict #[] }) h.objs.size (.dK []) :=
 ⟨Nat.zero_le _,beq_eq_false_iff_ne.mpr (Ne.symm (Nat.ne_of_lt hb)),[],.nil,Heap.DictOf.new h⟩
section
variable {X:Cx} {pos:Pos}
end
section
variable {X:Cx} {pins:List (Addr×Obj)} {σ:St} {H:Hp} {s:Shared} {a:Addr} {y d:V} {u r:Value} {o:Option V} {A:Around} {E:Value→Shared→Prop}
end
section
variable {X:Cx} {o e f:Expr} {apos cpos:Pos} {td ty tx:TE}
end
section
variable {X:Cx} {pins:List (Addr×Obj)} {σ:St} {H:Hp} {s:Shared} {a:Addr} {kvs:List (Key×V)} {A:Around} {E:Value→Shared→Prop}
end
section
variable {X:Cx} {pins:List (Addr×Obj)} {σ:St} {H:Hp} {s:Shared} {a:Addr} {y:V} {u:Value} {A:Around} {E:Value→Shared→Prop}
end
end L2
namespace L2
open PySem PySem.Spec PyProof.Rows
section
variable {κ:Type} [DecidableEq κ]
end
end L2
set_option Elab.async false
set_option linter.all false
set_option maxRecDepth 100000
set_option maxHeartbeats 4000000
namespace L2
open PySem PySem.Spec PyProof.Rows
abbrev TB:=(St→Hp→Prop)→St→Hp→Prop
/-- a piece of code within a comprehension's turn -/
def PBd (X:Cx) (code:Sem Unit) (b:TB):Prop :=
 ∀ (pins:List (Addr×Obj)) (s:Shared) (σ:St) (H:Hp) (N:St→Hp→Prop),Inv X pins σ H s→b N σ H →
  wpAny (model X.prog X.w) X.A code (fun _ s'=>∃ σ' H',Inv X pins σ' H' s'∧N σ' H') X.xe s
/-- the rest of a turn: it ends with the loop again -/
def PTl (X:Cx) (tail:Sem PySem.Fin) (L:Code) (b:TB):Prop :=
 ∀ (pins:List (Addr×Obj)) (s:Shared) (σ:St) (H:Hp) (N:St→Hp→Prop),Inv X pins σ H s→b N σ H →
  wpAny (model X.prog X.w) X.A tail (fun fin s'=>fin=.again L∧∃ σ' H',Inv X pins σ' H' s'∧N σ' H') X.xe s
def tailOf (ifs:List Expr) (env:Env) (body:Sem Unit) (L:Code):Sem PySem.Fin :=
 (forIn ifs true fun c r=>if r=true then do let ok ←isTrue c env (eval c env);pure (ForInStep.yield ok) else pure (ForInStep.yield r)) >>= fun ok=>if ok=true then body >>= fun _=>again L else again L
/-- the walk of one clause: as tFor, without break and return -/
def tWalk (J:It) (g:TG) (b:TB) (N0:St→Hp→Prop) (σ:St) (H:Hp):Prop :=
 ∃ W:Nat→Nat→St→Hp→Prop,(∃ m,W 0 m σ H)∧∀ i m σ H,W i m σ H →
  (J.stop i H∧N0 σ H)∨(J.go i H∧∃ N:St→Hp→Prop,(∀ σ' H',N σ' H'→∃ m',m'<m∧W (i+1) m' σ' H')∧∀ x H',J.yld i H x H'→g x σ H' fun σ2 H2=>b N σ2 H2)
section
variable {X:Cx} {e tg:Expr} {gens:List Comprehension} {sc:Scope} {cpos:Pos} {d:Nat} {it:Addr} {acc:Value} {tail:Sem PySem.Fin} {p:Pos} {g:TG} {b:TB} {J:It} {fp:List Addr} {tn:Nat→Heap→Prop} {N0:St→Hp→Prop} {R:Result→Shared→Prop}
theorem comp_loop (he:(∃ el,e=.ListComp el gens sc cpos)∨∃ k v,e=.DictComp k v gens sc cpos) (hx:X.xe=fun _ _=>False) (hc:X.calm=true)
  (ht:compTurn e d (.ref it) acc X.env=(standAt p >>= fun _=>pyNext (.ref it) >>= fun r=>match r with
   | none=>pure (.done .next)
   | some v=>letOwnedTupleGo tg (.ref it) v >>= fun _=>assign tg X.env v >>= fun _=>tail))
  (T:Turn X.prog X.w X.K tg J fp it tn) (hg:PG X tg g) (hb:PTl X tail (.compLoop e d (.ref it) acc X.env) b) {pins:List (Addr×Obj)} {σ:St} {H:Hp} {s:Shared}
  (I:Inv X pins σ H s) (st:tn 0 s.heap) (f2:∀ b∈fp,FpOk X pins H b) (hw:tWalk J g b N0 σ H)
  (hR:∀ σ' H' s',Inv X pins σ' H' s'→N0 σ' H'→R (.ok .next) s') :
  codeAny (model X.prog X.w) X.A (.compLoop e d (.ref it) acc X.env) R s:=by
 obtain ⟨W,⟨m0,w0⟩,turn⟩:=hw
 have stat:∀ {H':Hp},(∀ b∈fp,H' b=none)→∀ b∈fp,FpOk X pins H' b:=fun hn b hb=>⟨hn b hb,(f2 b hb).2⟩
 refine codeAny_loop rfl (fun n s'=>∃ i σ' H',Inv X pins σ' H' s'∧tn i s'.heap∧(∀ b∈fp,H' b=none)∧W i n σ' H') ?_ m0 ⟨0,σ,H,I,st,fun b hb=>(f2 b hb).1,w0⟩
 rintro n s3 ⟨i,σ3,H3,I3,st3,fr3,w3⟩
 have hden:(model X.prog X.w).den (.compLoop e d (.ref it) acc X.env)=((compTurn e d (.ref it) acc X.env).onRaise (fun x=>do noteFrame x X.env;theTreesLotGoes x))∧X.A.under (.compLoop e d (.ref it) acc X.env)=X.A:=by
  rcases he with ⟨el,rfl⟩ | ⟨k,v,rfl⟩<;>exact ⟨rfl,rfl⟩
 rw [hden.1,hden.2]
 show wpAny _ _ ((compTurn e d (.ref it) acc X.env).onRaise (fun x=>do noteFrame x X.env;theTreesLotGoes x)) _ _ s3
 refine wpAny_noted ?_
 rw [ht]
 have no:∀ {α:Type} {t:Sem α} {Q:α→Shared→Prop} {E:Value→Shared→Prop} {s:Shared},wpAny (model X.prog X.w) X.A t Q X.xe s→wpAny (model X.prog X.w) X.A t Q E s :=
  fun h=>wpAny_mono h (fun _ _ q=>q) fun _ _ q=>by rw [hx] at q;exact q.elim
 refine wpAny_bind (wpAny_standAt (wpAny_bind ?_))
 rcases turn i n σ3 H3 w3 with ⟨stop,qn⟩ | ⟨go,N,hN,step⟩
 ·refine no (thn (T.done X rfl rfl rfl hc i pins s3 σ3 H3 X.xe I3 (stat fr3) st3 stop) fun r s4 ⟨hr,I4⟩=>?_)
  subst hr
  exact wpAny_pure (hR _ _ _ I4 qn)
 ·refine no (thn (T.item X rfl rfl rfl hc i pins s3 σ3 H3 X.xe I3 (stat fr3) st3 go) fun r s4 ⟨u,hr,h4⟩=>?_)
  subst hr
  refine wpAny_bind (no (thn h4 fun _ s5 ⟨x,H5,I5,r5,y5,st5,fr5⟩=>?_))
  have I5':=I5.pinned (stat fr5) (T.obj _ _ st5)
  refine wpAny_bind (no (thn (hg _ s5 σ3 H5 x u _ I5' r5 (step x H5 y5)) fun _ s6 ⟨σ6,H6,I6,q6⟩=>?_))
  refine no (thn (hb _ s6 σ6 H6 _ I6 q6) fun fin s7 ⟨hf,σ7,H7,I7,n7⟩=>?_)
  subst hf
  obtain ⟨m',hm,w7⟩:=hN σ7 H7 n7
  refine ⟨rfl,m',hm,i+1,σ7,H7,I7.unpinned,T.keep _ _ _ st5 fun b hb o e=>(I7.pin (b,o) (List.mem_append_right _ (List.mem_append_right _ (mem_pinsAt hb e)))).1,fun b hb=>?_,w7⟩
  obtain ⟨o,e,d⟩:=T.obj _ _ st5 b hb
  exact (I7.pin (b,o) (List.mem_append_right _ (List.mem_append_right _ (mem_pinsAt hb e)))).2.1
end
/-- no test; one test; two -/
def bIf (t:TT) (b:TB):TB:=fun N σ H=>t σ H fun c H1=>if c=true then b N σ H1 else N σ H1
theorem pt_tail0 {X:Cx} {body:Sem Unit} {L:Code} {b:TB} (hb:PBd X body b):PTl X (tailOf [] X.env body L) L b:=by
 intro pins s σ H N I h
 unfold tailOf
 refine wpAny_bind (wpAny_tests_nil ?_)
 show wpAny _ _ (body >>= fun _=>again L) _ _ s
 exact wpAny_bind (thn (hb pins s σ H N I h) fun _ s' q=>wpAny_pure ⟨rfl,q⟩)
theorem pt_tail1 {X:Cx} {c:Expr} {t:TT} {body:Sem Unit} {L:Code} {b:TB} (hc:PT X c t) (hb:PBd X body b):PTl X (tailOf [c] X.env body L) L (bIf t b):=by
 intro pins s σ H N I h
 unfold tailOf
 refine wpAny_bind (wpAny_tests_one (thn (hc pins s σ H _ I h) fun ok s1 ⟨H1,I1,q⟩=>?_))
 cases ok with
 | true=>exact wpAny_bind (thn (hb pins s1 σ H1 N I1 (by simpa using q)) fun _ s' q=>wpAny_pure ⟨rfl,q⟩)
 | false=>exact wpAny_pure ⟨rfl,σ,H1,I1,by simpa using q⟩
/-- the item onto the list at D -/
def bApp (D:Addr) (te:TE):TB:=fun N σ H=>te σ H fun x H1=>∃ xs,H1 D=some (.lst xs)∧xs.length<sizeLine∧N σ (upd H1 D (.lst (xs++[x])))
theorem pb_app {X:Cx} {el:Expr} {te:TE} {D:Addr} (he:PE X el te):PBd X (do let _ ←call (.builtin "list.append") [.ref D,←eval el X.env]) (bApp D te):=by
 intro pins s σ H N I h
 refine wpAny_bind (thn (he pins s σ H _ I h) fun u s1 ⟨x,H1,I1,r,xs,hD,hz,q⟩=>?_)
 refine wpAny_bind (thn (mt_append pins s1 σ H1 (.ref D) [x] (.ref D) [u] (fun _ H2=>N σ H2) I1 rfl (.cons r .nil) ⟨D,xs,x,rfl,rfl,hD,hz,q⟩) fun _ s2 ⟨_,H2,I2,_,q2⟩=>?_)
 exact wpAny_pure ⟨σ,H2,I2,q2⟩
theorem turn_l1 (el tg iter:Expr) (ifs:List Expr) (sc:Scope) (pos:Pos) (it acc:Value) (env:Env) :
  compTurn (.ListComp el [⟨tg,iter,ifs,0⟩] sc pos) 0 it acc env=(standAt iter.pos >>= fun _=>pyNext it >>= fun r=>match r with
   | none=>pure (.done .next)
   | some v=>letOwnedTupleGo tg it v >>= fun _=>assign tg env v >>= fun _=>tailOf ifs env (do let _ ←call (.builtin "list.append") [acc,←eval el env]) (.compLoop (.ListComp el [⟨tg,iter,ifs,0⟩] sc pos) 0 it acc env)):=by rfl
end L2
set_option Elab.async false
set_option linter.all false
set_option maxRecDepth 100000
set_option maxHeartbeats 4000000
namespace L2
open PySem PySem.Spec PyProof.Rows
/-- the cells of the enclosing frame that the block's free names stand for -/
def clStep (env:Env) (cs:List (Str×Addr)) (y:Str×NameKind):List (Str×Addr) :=
 if (y.2 == .free)=true then (match env.cells.lookup y.1 with | some c=>(y.1,c)::cs | none=>cs) else cs
def clOf (sc:Scope) (env:Env):List (Str×Addr):=sc.names.foldl (clStep env) []
def clTurn (env:Env) (x:Str×NameKind) (r:List (Str×Addr)):Sem (ForInStep (List (Str×Addr))) :=
 match x with | (name,kind)=>if (kind == .free)=true then (do let a ←cellOf env name;pure (ForInStep.yield ((name,a)::r))) else pure (ForInStep.yield r)
theorem clTurn_eq {env:Env} {y:Str×NameKind} {cs:List (Str×Addr)} (h:y.2=.free→∃ c,env.cells.lookup y.1=some c):clTurn env y cs=pure (ForInStep.yield (clStep env cs y)):=by
 obtain ⟨n,k⟩:=y
 unfold clTurn clStep
 cases hk:k == NameKind.free with
 | false=>simp [hk]
 | true =>
  obtain ⟨c,hc⟩:=h (by simpa using hk)
  have hc':List.lookup n env.cells=some c:=hc
  simp only [hk,if_true,cellOf,hc',pure_bind]
theorem closure_go {env:Env}:∀ (l:List (Str×NameKind)) (cs:List (Str×Addr)),(∀ y∈l,y.2=.free→∃ c,env.cells.lookup y.1=some c) →
  (forIn l cs (clTurn env):Sem (List (Str×Addr)))=pure (l.foldl (clStep env) cs)
 | [],cs,_=>rfl
 | y::r,cs,h=>by
  rw [List.forIn_cons,clTurn_eq (h y List.mem_cons_self),pure_bind,List.foldl_cons]
  exact closure_go r _ fun y hy=>h y (List.mem_cons_of_mem _ hy)
theorem closure_of {sc:Scope} {env:Env} (h:∀ y∈sc.names,y.2=.free→∃ c,env.cells.lookup y.1=some c):closureFor sc env=pure (clOf sc env):=by
 have q:=closure_go (env:=env) sc.names [] h
 have z:closureFor sc env=(forIn sc.names [] (clTurn env) >>= fun r=>pure r):=rfl
 rw [z,q]
 rfl
theorem cl_in {env:Env} {x:Str} {c:Addr}:∀ (l:List (Str×NameKind)) (cs:List (Str×Addr)),(cs.lookup x=some c→env.cells.lookup x=some c)→(l.foldl (clStep env) cs).lookup x=some c→env.cells.lookup x=some c
 | [],cs,h,e=>h e
 | (n,k)::r,cs,h,e=>by
  rw [List.foldl_cons] at e
  refine cl_in r _ (fun z=>?_) e
  unfold clStep at z
  split at z
  ·split at z
   ·rename_i c' hc
    rw [List.lookup_cons] at z
    split at z
    ·rename_i hx
     have:x=n:=by simpa using hx
     subst this
     cases z
     exact hc
    ·exact h z
   ·exact h z
  ·exact h z
theorem cl_has {env:Env} {x:Str}:∀ (l:List (Str×NameKind)) (cs:List (Str×Addr)),(∃ c,env.cells.lookup x=some c)→((∃ c,cs.lookup x=some c)∨(x,NameKind.free)∈l)→∃ c,(l.foldl (clStep env) cs).lookup x=some c
 | [],cs,_,h=>h.elim id (fun z=>nomatch z)
 | (n,k)::r,cs,he,h=>by
  rw [List.foldl_cons]
  refine cl_has r _ he ?_
  rcases h with ⟨c,h⟩ | h
  ·left
   unfold clStep
   split
   ·split
    ·rename_i c' hc
     rw [List.lookup_cons]
     split
     ·exact ⟨_,rfl⟩
     ·exact ⟨c,h⟩
    ·exact ⟨c,h⟩
   ·exact ⟨c,h⟩
  ·rcases List.mem_cons.mp h with z | z
   ·cases z
    obtain ⟨c,hc⟩:=he
    left
    refine ⟨c,?_⟩
    unfold clStep
    simp [hc]
   ·exact .inr z
structure CS (sc S0:Scope):Prop where
 kind:sc.kind=.function
 names:∀ y∈sc.names,y.2=.local→sc.names.lookup y.1=some .local
 nocell:∀ y∈sc.names,y.2≠.cell
 free:∀ y∈sc.names,y.2=.free→S0.names.lookup y.1=some .cell
def relOne (env:Env) (y:Str×NameKind):Str×NameKind:=if (y.2 == .free && env.scope.kind == .function && env.kindOf y.1 == some .cell)=true then (y.1,.cell) else (y.1,y.2)
theorem relOne_fst (env:Env) (y:Str×NameKind):(relOne env y).1=y.1:=by
 unfold relOne
 split<;>rfl
theorem rel_look {env:Env} {x:Str}:∀ (l:List (Str×NameKind)),(l.map (relOne env)).lookup x=(l.lookup x).map fun k=>(relOne env (x,k)).2
 | []=>rfl
 | (n,k)::r=>by
  rw [List.map_cons]
  have e:relOne env (n,k)=(n,(relOne env (n,k)).2):=Prod.ext (relOne_fst env (n,k)) rfl
  rw [e,List.lookup_cons,List.lookup_cons]
  cases hx:x == n with
  | true =>
   have:x=n:=by simpa using hx
   subst this
   rfl
  | false=>exact rel_look r
/-- the context of the block: s₂, H₂ ahead of it, the locals at C -/
def cxC (X:Cx) (Nc:List Str) (sc:Scope) (C:Addr) (s₂:Shared) (H₂:Hp) (fp:List Addr) (pins:List (Addr×Obj)):Cx :=
 { X with N:=Nc,s₀:=s₂,H₀:=H₂,env:=compEnvC sc (clOf sc X.env) C X.env,outer:=X.stack,ex:=fp,fn:=fun _=>false,pn:=X.pn++pins }
/-- the names' values at the block's start: js says which name of the frame each is, none: the block's own -/
def compSt (js:List (Option Nat)) (σ:St):St:=js.map fun o=>o.bind fun j=>(σ[j]?).join
def capOk (js:List (Option Nat)) (Nc N:List Str) (names:List (Str×NameKind)):Bool :=
 decide (js.length=Nc.length) && (js.zip Nc).all fun (o,x)=>match o with | none=>true | some j=>decide (N[j]?=some x) && decide (names.lookup x=some .free)
theorem cap_of {js:List (Option Nat)} {Nc N:List Str} {names:List (Str×NameKind)} (h:capOk js Nc N names=true):js.length=Nc.length∧∀ (i j:Nat) (x:Str),js[i]?=some (some j)→Nc[i]?=some x→N[j]?=some x∧names.lookup x=some .free:=by
 unfold capOk at h
 rw [Bool.and_eq_true] at h
 refine ⟨of_decide_eq_true h.1,fun i j x e1 e2=>?_⟩
 have z:(js.zip Nc)[i]?=some (some j,x):=by
  rw [List.getElem?_zip_eq_some]
  exact ⟨e1,e2⟩
 have q:=List.all_eq_true.mp h.2 _ (List.mem_of_getElem? z)
 dsimp only at q
 rw [Bool.and_eq_true] at q
 exact ⟨of_decide_eq_true q.1,of_decide_eq_true q.2⟩
section
variable {X:Cx} {pins:List (Addr×Obj)} {σ:St} {H:Hp} {s:Shared} {sc:Scope} {Nc:List Str} {js:List (Option Nat)} {fp:List Addr}
theorem ok_comp (I:Inv X pins σ H s) (S:CS sc X.env.scope) (f:∀ b∈fp,FpOk X pins H b) (hlt:∀ b∈fp,b<s.heap.objs.size) {C:Addr} (hC:s.heap.objs.size≤C):(cxC X Nc sc C s H fp pins).Ok:=by
 have inX:∀ x c,(clOf sc X.env).lookup x=some c→X.env.cells.lookup x=some c:=fun x c e=>cl_in sc.names [] (fun z=>nomatch z) e
 refine ⟨I.ok.mod,S.kind,I.ok.glob,I.ok.blt,hC,fun x y c e1 e2=>I.ok.inj x y c (inX x c e1) (inX y c e2),fun x hx=>?_,fun x c z=>(nomatch z),I.ok.hd,I.ok.frames,.inl rfl,fun b hb=>⟨?_,fun x c e=>(f b hb).2.2.2.2.1 x c (inX x c e)⟩,I.bs,Nat.le_trans I.ok.bsz I.sz,fun b o e hb=>?_,fun b hb hs=>?_,I.stack,I.stkFree⟩
 ·have hx':(sc.names.map (relOne X.env)).lookup x=some .cell∨(sc.names.map (relOne X.env)).lookup x=some .free:=hx
  rw [rel_look] at hx'
  cases e:sc.names.lookup x with
  | none=>rw [e] at hx';rcases hx' with z | z<;>cases z
  | some k =>
   rw [e] at hx'
   have m:(x,k)∈sc.names:=PySem.mem_of_lookup e
   have kf:k=.free:=by
    have nk:=S.nocell _ m
    unfold relOne at hx'
    by_cases hk:(k == NameKind.free)=true
    ·simpa using hk
    ·have hk':(k == NameKind.free)=false:=by simpa using hk
     simp only [hk',Bool.false_and,Option.map_some] at hx'
     rcases hx' with z | z
     ·exact absurd (by simpa using z) nk
     ·simpa using z
   subst kf
   have hx2:=S.free _ m rfl
   obtain ⟨c,hc⟩:=I.ok.has x (.inl hx2)
   exact cl_has sc.names [] ⟨c,hc⟩ (.inr m)
 ·exact Nat.ne_of_lt (Nat.lt_of_lt_of_le (hlt b hb) hC)
 ·obtain ⟨h0,h1,h2,h3,h4,h5⟩:=f b hb
  rcases h3 with z | z
  ·exact I.ok.noex b o e z
  ·exact absurd (Nat.lt_of_lt_of_le (Heap.lt_size (I.ok.bs b o e).1) z) (Nat.lt_irrefl _)
 ·obtain ⟨h0,h1,h2,h3,h4,h5⟩:=f b hb
  rcases List.mem_cons.mp (I.stkSub b hs) with z | z
  ·exact h1 z
  ·exact h2 z
/-- the block begins: h₁ is the heap with the new object at D (tracked as o) and the block's names at C -/
theorem inv_comp (I:Inv X pins σ H s) (S:CS sc X.env.scope) (f:∀ b∈fp,FpOk X pins H b) (hlt:∀ b∈fp,b<s.heap.objs.size) (cap:capOk js Nc X.N sc.names=true) {C D:Addr} {o:HO} {h₁:Heap} {m:Str→Option Value} {tk:Nat}
  (hC:s.heap.objs.size≤C) (hD:s.heap.objs.size≤D) (hDC:D≠C) (hk:∀ b ob,s.heap.get? b=some ob→h₁.get? b=some ob) (hns:h₁.Ns C m) (new:ObjOk X.prog X.w (upd H D o) h₁ D o) :
  Inv (cxC X Nc sc C s H fp pins) [] (compSt js σ) (upd H D o) { s with heap:=h₁,toks:=tk }:=by
 have inX:∀ x c,(clOf sc X.env).lookup x=some c→X.env.cells.lookup x=some c:=fun x c e=>cl_in sc.names [] (fun z=>nomatch z) e
 have fresh:∀ a,s.heap.objs.size≤a→H a=none:=fun a ha=>I.hok.fresh ha
 obtain ⟨cl,cp⟩:=cap_of cap
 refine ⟨ok_comp I S f hlt hC,rfl,I.bare,Un.laid hk hD (fresh D hD),⟨m,hns,fun i x v e1 e2 e3=>?_⟩,fun x c e=>?_,?_,fun x c e=>?_,fun p hp=>?_,I.hok.laid hk hD new,?_⟩
 ·-- a name of the frame's
  unfold compSt at e2
  rw [List.getElem?_map] at e2
  cases ej:js[i]? with
  | none=>rw [ej] at e2;cases e2
  | some oj =>
   rw [ej] at e2
   cases oj with
   | none=>cases e2
   | some j =>
    obtain ⟨hN,hfree⟩:=cp i j x ej e1
    have hv:σ[j]?=some (some v):=by
     simp only [Option.map_some,Option.bind_some,Option.some.injEq] at e2
     cases e:σ[j]? with
     | none=>rw [e] at e2;cases e2
     | some w=>rw [e] at e2;exact congrArg some e2
    have kc:X.env.kindOf x=some .cell:=S.free _ (PySem.mem_of_lookup hfree) rfl
    obtain ⟨m',hn',hl⟩:=I.loc
    obtain ⟨u,r,lk⟩:=hl j x v hN hv (.inr (.inl kc))
    refine ⟨u,r,.inr ⟨.inl ?_,?_⟩⟩
    ·show (sc.names.map (relOne X.env)).lookup x=some .cell
     rw [rel_look,hfree]
     unfold relOne
     simp [I.ok.kind,kc]
    ·rcases lk with ⟨z,_⟩ | ⟨_,c,hc,ic⟩
     ·rw [kc] at z;cases z
     ·obtain ⟨c',hc'⟩:=cl_has sc.names [] ⟨c,hc⟩ (.inr (PySem.mem_of_lookup hfree))
      have:c'=c:=Option.some.inj ((inX x c' hc').symm.trans hc)
      subst this
      exact ⟨c',hc',ic.keeps hk⟩
 ·obtain ⟨v,ic⟩:=I.cell x c (inX x c e)
  exact ⟨v,ic.keeps hk⟩
 ·show upd H D o C=none
  rw [upd_ne hDC.symm]
  exact fresh C hC
 ·have q:=inX x c e
  obtain ⟨v,ic⟩:=I.cell x c q
  show upd H D o c=none
  rw [upd_ne (Nat.ne_of_lt (Nat.lt_of_lt_of_le ic.lt hD))]
  exact I.freeC x c q
 ·have hp':p∈X.pn++pins:=by
   rcases List.mem_append.mp hp with z | z
   ·exact z
   ·exact absurd z (by simp)
  obtain ⟨a1,a2,a3,a4,a5⟩:=I.pin p hp'
  have lt:=Heap.lt_size a1
  refine ⟨hk _ _ a1,?_,Nat.ne_of_lt (Nat.lt_of_lt_of_le lt hC),fun z=>?_,a5⟩
  ·rw [upd_ne (Nat.ne_of_lt (Nat.lt_of_lt_of_le lt hD))]
   exact a2
  ·rcases List.mem_cons.mp (I.stkSub _ z) with z | z
   ·exact a3 z
   ·exact a4 z
 ·unfold compSt
  rw [List.length_map]
  exact cl
/-- the block ends: its names are let go (h' is as h but at C) -/
theorem inv_back {C:Addr} {σ':St} {H':Hp} {s':Shared} {h':Heap} (I:Inv X pins σ H s) (f:∀ b∈fp,FpOk X pins H b) (hC:s.heap.objs.size≤C) (J:Inv (cxC X Nc sc C s H fp pins) [] σ' H' s') (hs:Heap.SameBut C s'.heap h') :
  Inv X pins σ H' { s' with heap:=h' }:=by
 have u:=J.base
 have nC:H' C=none:=J.free
 have stay:∀ b ob,b≠C→s'.heap.get? b=some ob→h'.get? b=some ob:=fun b ob hb e=>hs.extBut b ob hb e
 have neC:∀ b ob,s.heap.get? b=some ob→b≠C:=fun b ob e=>Nat.ne_of_lt (Nat.lt_of_lt_of_le (Heap.lt_size e) hC)
 refine I.call' (ch:=fp) J.os ?_ (fun b v e=>?_) J.bare fun b hb=>⟨(f b hb).2.2.2.1,(f b hb).2.1,(f b hb).2.2.2.2.1,(f b hb).2.2.2.2.2⟩
 ·refine ⟨fun b ob e n h1 h2=>stay b ob (neC b ob e) (u.keep b ob e n h1 h2),fun b ob e n h1 h2=>?_,u.free,fun b ob e h2=>?_,u.tups,u.frzs,u.tbls⟩
  ·obtain ⟨sl,q⟩:=u.slot b ob e n h1 h2
   exact ⟨sl,stay b _ (neC b ob e) q⟩
  ·obtain ⟨o',q⟩:=u.there b ob e h2
   exact ⟨o',stay b _ (neC b ob e) q⟩
 ·have nb:∀ c w,H' c=some w→c≠C:=fun c w e z=>by rw [z,nC] at e;cases e
  refine (J.hok b v e).stay (fun c w hc q=>stay c w ?_ q) (fun _ q=>q) fun _ _ q=>q
  rcases hc with z | z
  ·rw [z];exact nb b v e
  ·exact nb c _ z
end
end L2
set_option Elab.async false
set_option linter.all false
set_option maxRecDepth 100000
set_option maxHeartbeats 4000000
namespace L2
open PySem PySem.Spec PyProof.Rows
section
variable {X:Cx} {e tg iter el:Expr} {ifs:List Expr} {gens rest:List Comprehension} {sc:Scope} {pos:Pos} {Nc:List Str} {js:List (Option Nat)} {wi:TI}
theorem comp_start {prog:Program} {w:World} {A:Around} {env:Env} {R:Result→Shared→Prop} {s:Shared} {d:Nat} {it acc:Value} {g:Comprehension} (he:(∃ el,e=.ListComp el gens sc pos)∨∃ k v,e=.DictComp k v gens sc pos)
  (hg:(clausesOf e)[d]?=some g) (ha:g.is_async=0)
  (h0:codeAny (model prog w) A (.compLoop e d it acc env) R s)
  (h:wpAny (model prog w) A (pyIter it) (fun it' s'=>codeAny (model prog w) A (.compLoop e d it' acc env) R s') (fun _ _=>False) s) :
  codeAny (model prog w) A (.compStart e d it acc env) R s:=by
 refine codeAny_of_tree ?_
 have hden:(model prog w).den (.compStart e d it acc env)=((compStart e d it acc env).onRaise (fun x=>do noteFrame x env;standAt theWindowsPlace))∧A.under (.compStart e d it acc env)=A:=by
  rcases he with ⟨el,rfl⟩ | ⟨k,v,rfl⟩<;>exact ⟨rfl,rfl⟩
 have hq:∀ d it acc,(Code.compLoop e d it acc env).quiet=true:=fun _ _ _=>rfl
 rw [hden.1,hden.2]
 refine wpAny_notedAt ?_
 unfold compStart
 rw [hg]
 have hz:((some g).elim false fun x=>x.is_async != 0)=false:=by show (g.is_async != 0)=false;rw [ha];rfl
 rw [hz]
 show wpAny _ _ (ask >>= _) _ _ s
 refine wpAny_bind (wpAny_askSetting (wpAny_ite ?_))
 split
 ·first
   | exact wpAny_bind (wpAny_pure (wpAny_pure (And.intro rfl h0)))
   | exact wpAny_pure (And.intro rfl h0)
 ·refine wpAny_bind (wpAny_rule ?_)
  show wpAny _ _ (standAt g.iter.pos >>= _) _ _ s
  exact wpAny_bind (wpAny_standAt (wpAny_bind (wpAny_mono h (fun it' s' h'=>wpAny_pure (And.intro rfl h')) fun _ _ x=>x.elim)))
/-- [el for tg in iter if ..]: bd is what a turn does behind the target's store, for the list at D -/
def tLC (js:List (Option Nat)) (wi:TI) (g:TG) (bd:Addr→TB):TE:=fun σ H Q=>wi σ H fun J H1=>∀ D,H1 D=none→tWalk J g (bd D) (fun _ H'=>Q (.ref D) H') (compSt js σ) (upd H1 D (.lst []))
theorem pe_lc1x {g:TG} {bd:Addr→TB} (hx:X.xe=fun _ _=>False) (hc:X.calm=true) (hi:PI X tg iter wi) (S:CS sc X.env.scope) (cap:capOk js Nc X.N sc.names=true)
  (hg:∀ C s₂ H₂ fp pins,PG (cxC X Nc sc C s₂ H₂ fp pins) tg g)
  (hb:∀ C s₂ H₂ fp pins D L,PTl (cxC X Nc sc C s₂ H₂ fp pins) (tailOf ifs (cxC X Nc sc C s₂ H₂ fp pins).env (do let _ ←call (.builtin "list.append") [.ref D,←eval el (cxC X Nc sc C s₂ H₂ fp pins).env]) L) L (bd D))
  (hs:∀ x,foldedSetIterable iter X.env x=pure x:=by intro _;rfl) :
  PE X (.ListComp el [⟨tg,iter,ifs,0⟩] sc pos) (tLC js wi g bd):=by
 intro pins s σ H Q I h
 rw [eval_ListComp]
 have hcl:closureFor sc X.env=pure (clOf sc X.env):=closure_of fun y hy hf=>I.ok.has y.1 (.inl (S.free y hy hf))
 refine wpAny_comprehension_free (use:=none) rfl hs hcl S.kind S.names (thn (hi pins s σ H _ I h) fun v s1 h1=>thn h1 fun itv s2 h2=>?_)
 obtain ⟨it,fp,tn,J,H2,e,I2,T,st2,f2,hw⟩:=h2
 subst e
 have hlt:∀ b∈fp,b<s2.heap.objs.size:=fun b hb=>let ⟨o,ho,_⟩:=T.obj _ _ st2 b hb;Heap.lt_size ho
 refine wpAny_newObj_type (wpAny_newFunctionEnv S.nocell (by intro y hy;simp at hy) (fun h₁ hns₁ hsb₁=>?_) S.kind)
 dsimp only at hns₁ hsb₁ ⊢
 generalize hH2:s2.heap.push { cls:=.type "list",dict:=none,data:=.seq ([]:List Value).toArray }=G at hns₁ hsb₁ ⊢
 have hCs:G.objs.size=s2.heap.objs.size+1:=by rw [←hH2,Heap.size_push]
 have hDC:s2.heap.objs.size≠G.objs.size:=by omega
 have hCle:s2.heap.objs.size≤G.objs.size:=by omega
 have old:∀ b o,s2.heap.get? b=some o→h₁.get? b=some o:=fun b o e=>hsb₁.extBut b o (Nat.ne_of_lt (Nat.lt_of_lt_of_le (Heap.lt_size e) hCle)) (Heap.get?_push_of_some _ (hH2 ▸ Heap.get?_push_of_some _ e))
 have hacc:h₁.get? s2.heap.objs.size=some { cls:=.type "list",dict:=none,data:=.seq ([]:List Value).toArray }:=hsb₁.extBut _ _ hDC (Heap.get?_push_of_some _ (hH2 ▸ Heap.get?_push_size _ rfl))
 have new:ObjOk X.prog X.w (upd H2 s2.heap.objs.size (.lst [])) h₁ s2.heap.objs.size (.lst []):=⟨Nat.zero_le _,[],_,.nil,hacc⟩
 have I4:=inv_comp (js:=js) (Nc:=Nc) (tk:=s2.toks+([]:List (Str×Value)).length) I2 S f2 hlt cap hCle (Nat.le_refl _) hDC old hns₁ new
 have hn:H2 s2.heap.objs.size=none:=I2.fresh
 have f4:∀ b∈fp,FpOk (cxC X Nc sc G.objs.size s2 H2 fp pins) [] (upd H2 s2.heap.objs.size (.lst [])) b:=fun b hb=>by
  obtain ⟨h0,h1,h2,h3,h4,h5⟩:=f2 b hb
  refine ⟨?_,Nat.ne_of_lt (Nat.lt_of_lt_of_le (hlt b hb) hCle),fun z=>?_,.inl hb,fun x c z=>?_,fun p hp=>?_⟩
  ·rw [upd_ne (Nat.ne_of_lt (hlt b hb))];exact h0
  ·rcases List.mem_cons.mp (I2.stkSub b z) with q | q
   ·exact h1 q
   ·exact h2 q
  ·exact h4 x c (cl_in sc.names [] (fun z=>nomatch z) z)
  ·rcases List.mem_append.mp hp with z | z
   ·exact h5 p z
   ·exact absurd z (by simp)
 have st4:tn 0 h₁:=T.keep _ _ _ st2 fun b hb o e=>old b o e
 have loop:codeAny (model X.prog X.w) X.A (.compLoop (.ListComp el [⟨tg,iter,ifs,0⟩] sc pos) 0 (.ref it) (.ref s2.heap.objs.size) (compEnvC sc (clOf sc X.env) G.objs.size X.env))
   (compPost (model X.prog X.w) X.A X.xe none (EP X pins σ Q) (.ref s2.heap.objs.size) G.objs.size) { s2 with heap:=h₁,toks:=s2.toks+([]:List (Str×Value)).length }:=by
  refine comp_loop (X:=cxC X Nc sc G.objs.size s2 H2 fp pins) (.inl ⟨el,rfl⟩) hx hc (turn_l1 _ _ _ _ _ _ _ _ _) T (hg _ _ _ _ _) (hb _ _ _ _ _ _ _) I4 st4 f4 (hw _ hn) fun σ' H' s' I' q=>?_
  obtain ⟨m',hm',_⟩:=I'.loc
  exact ⟨m',hm',fun h' hs'=>⟨.ref s2.heap.objs.size,H',inv_back I2 f2 hCle I' hs',rfl,q⟩⟩
 exact comp_start (.inl ⟨el,rfl⟩) rfl rfl loop (T.self _ _ _ _ _ st4 loop)
end
end L2
set_option Elab.async false
set_option linter.all false
set_option maxRecDepth 100000
set_option maxHeartbeats 4000000
namespace L2
open PySem PySem.Spec PyProof.Rows
section
variable {X:Cx}
inductive rInsert (x:V) (vs:List V) (H:Hp) (Q:VK):Prop
 | mk:∀ l xs i y,(x=.ref l)→(vs=[.int i,y])→(H l=some (.lst xs))→(0≤i)→(i<2 ^ 62)→(xs.length<sizeLine)→(Q .non (upd H l (.lst (xs.take i.toNat++y::xs.drop i.toNat))))→rInsert x vs H Q
theorem mt_insert:MtM X "list.insert" rInsert:=by
 intro pins s σ H x vs v us Q I rx rv h
 obtain ⟨l,xs,i,y,rfl,rfl,hH,h1,h2,hz,q⟩:=h
 cases rx
 obtain ⟨u,w,rfl,⟨t,rfl⟩,rw'⟩:=rv.two
 obtain ⟨z,its,n,r,hl,e⟩:=I.lstM hH
 refine call_meets F.slot_list_insert ⟨_,e,rfl⟩ F.entry_list_insert (F.args_list_insert_3 _ _ _)
  (AutoSeq1.list_insert_list_int_val_1 l its.toArray n i t w (by rw [fitsIndex_both (by omega) (by omega)];decide) (by rw [List.size_toArray];omega)) ⟨e,?_⟩
 refine ⟨.non,_,I.lset (its':=its.take i.toNat++w::its.drop i.toNat) hH e ?_ ((r.take i.toNat).append (.cons rw' (r.drop i.toNat))) ?_,rfl,q⟩
 ·have hi:¬ i<0:=by omega
  simp only [hi,if_false,List.size_toArray]
  apply Array.toList_inj.mp
  simp
  by_cases hc:i.toNat≤its.length
  ·rw [Nat.min_eq_left hc,List.take_of_length_le (l:=List.drop i.toNat its) (by rw [List.length_drop];omega)]
  ·have hc':its.length≤i.toNat:=by omega
   rw [Nat.min_eq_right hc',List.take_of_length_le (Nat.le_refl _),List.take_of_length_le hc',List.drop_eq_nil_of_le (Nat.le_refl _),List.drop_eq_nil_of_le hc',List.take_nil]
 ·simp only [List.length_append,List.length_take,List.length_cons,List.length_drop]
  omega
/-- where an int stands first -/
def FirstAt (ns:List Int) (n:Int) (j:Nat):Prop:=ns[j]?=some n∧∀ m:Nat,m<j→ns[m]?≠some n
theorem vals_ints_get {ns:List Int} {its:List Value} (r:Vals (ns.map V.int) its) {m:Nat} (hm:m<its.length):∃ k t,ns[m]?=some k∧its[m]=Value.int k t:=by
 have hl:=r.length
 rw [List.length_map] at hl
 have hk:m<ns.length:=by omega
 obtain ⟨u,hu,q⟩:=r.get (i:=m) (x:=.int ns[m]) (by rw [List.getElem?_map,List.getElem?_eq_getElem hk];rfl)
 obtain ⟨t,rfl⟩:=q
 refine ⟨ns[m],t,List.getElem?_eq_getElem hk,?_⟩
 rw [List.getElem?_eq_getElem hm] at hu
 exact Option.some.inj hu
def eqInt (n:Int) (v:Value):Bool:=match v with | .int k _=>k == n | _=>false
theorem vals_ints_eq {ns:List Int} {its:List Value} (r:Vals (ns.map V.int) its) (n:Int) (t:Tok):∀ y,y∈its.toArray→MeetsSeq.EqGives y (.int n t) (eqInt n y):=fun y hy=>by
 obtain ⟨m,hm,rfl⟩:=List.mem_iff_getElem.mp (List.mem_toArray.mp hy)
 obtain ⟨k,t',_,e⟩:=vals_ints_get r hm
 rw [e]
 exact MeetsSeq.EqGives.int _ _ _ _
theorem first_hit {ns:List Int} {its:List Value} (r:Vals (ns.map V.int) its) {n:Int} {j:Nat} (h:FirstAt ns n j):∃ hj:j<its.toArray.size,eqInt n its.toArray[j]=true∧∀ m (hm:m<its.toArray.size),m<j→eqInt n its.toArray[m]=false:=by
 have hl:=r.length
 rw [List.length_map] at hl
 have hj:j<ns.length:=(List.getElem?_eq_some_iff.mp h.1).1
 have hj':j<its.length:=by omega
 refine ⟨by rw [List.size_toArray];exact hj',?_,fun m hm hlt=>?_⟩
 ·obtain ⟨k,t,e1,e2⟩:=vals_ints_get r hj'
  rw [h.1] at e1
  cases e1
  simp [e2,eqInt]
 ·rw [List.size_toArray] at hm
  obtain ⟨k,t,e1,e2⟩:=vals_ints_get r hm
  have:k≠n:=fun z=>h.2 m hlt (by rw [e1,z])
  simp [e2,eqInt,this]
inductive rIndex (x:V) (vs:List V) (H:Hp) (Q:VK):Prop
 | mk:∀ (l:Addr) (ns:List Int) (n:Int) (j:Nat),(x=.ref l)→(vs=[.int n])→(H l=some (.lst (ns.map V.int)))→(FirstAt ns n j)→(Q (.int j) H)→rIndex x vs H Q
theorem mt_index:MtM X "list.index" rIndex:=by
 intro pins s σ H x vs v us Q I rx rv h
 obtain ⟨l,ns,n,j,rfl,rfl,hH,hj,q⟩:=h
 cases rx
 obtain ⟨u,rfl,t,rfl⟩:=rv.one
 obtain ⟨z,its,m,r,hl,e⟩:=I.lstM hH
 obtain ⟨h1,h2,h3⟩:=first_hit r hj
 have hs:(j:Int)<2 ^ 63-1:=by
  have:=line63
  rw [List.size_toArray] at h1
  omega
 refine call_meets F.slot_list_index ⟨_,e,rfl⟩ F.entry_list_index (F.args_list_index_2 _ _) (MeetsSeq.list_index l its.toArray m (.int n t) (eqInt n) (vals_ints_eq r n t) j h1 hs h2 h3) ⟨e,?_⟩
 exact ⟨.int j,H,I.tok _,⟨_,rfl⟩,q⟩
end
end L2
set_option Elab.async false
set_option linter.all false
set_option maxRecDepth 100000
set_option maxHeartbeats 4000000
namespace L2
open PySem PySem.Spec PyProof.Rows
theorem walk_range {lo:Int} {n:Nat} {g:TG} {b:TB} {N0:St→Hp→Prop} {σ:St} {H:Hp} (Pv:Nat→St→Hp→Prop) (h0:Pv 0 σ H)
  (hs:∀ i σ H,i<n→Pv i σ H→g (.int (lo+i)) σ H fun σ2 H2=>b (Pv (i+1)) σ2 H2) (hd:∀ σ H,Pv n σ H→N0 σ H):tWalk (Itr lo n) g b N0 σ H:=by
 refine ⟨fun i m σ H=>m=n-i∧i≤n∧Pv i σ H,⟨n,by simp,Nat.zero_le _,h0⟩,?_⟩
 rintro i m σ H ⟨rfl,hle,p⟩
 by_cases hi:i<n
 ·refine .inr ⟨hi,Pv (i+1),fun σ' H' q=>⟨n-(i+1),by omega,rfl,by omega,q⟩,fun x H' hy=>?_⟩
  obtain ⟨rfl,rfl⟩:=hy
  exact hs i σ _ hi p
 ·have:i=n:=by omega
  subst this
  exact .inl ⟨Nat.le_refl _,hd σ H p⟩
theorem walk_list {K:PySem.W.Frag} {a:Addr} {xs:List V} {g:TG} {b:TB} {N0:St→Hp→Prop} {σ:St} {H:Hp} (Pv:Nat→St→Hp→Prop) (h0:Pv 0 σ H) (hl:∀ i σ H,i≤xs.length→Pv i σ H→SqL K H a xs)
  (hs:∀ i x σ H,xs[i]?=some x→Pv i σ H→g x σ H fun σ2 H2=>b (Pv (i+1)) σ2 H2) (hd:∀ σ H,Pv xs.length σ H→N0 σ H):tWalk (Itl K a) g b N0 σ H:=by
 refine ⟨fun i m σ H=>m=xs.length-i∧i≤xs.length∧Pv i σ H,⟨xs.length,by simp,Nat.zero_le _,h0⟩,?_⟩
 rintro i m σ H ⟨rfl,hle,p⟩
 by_cases hi:i<xs.length
 ·refine .inr ⟨⟨xs,xs[i],hl i σ H hle p,by simp [hi]⟩,Pv (i+1),fun σ' H' q=>⟨xs.length-(i+1),by omega,rfl,by omega,q⟩,fun x H' hy=>?_⟩
  obtain ⟨rfl,hy⟩:=hy
  exact hs i x σ _ (hy xs (hl i σ _ hle p)) p
 ·have:i=xs.length:=by omega
  subst this
  exact .inl ⟨⟨xs,hl _ σ H hle p,Nat.le_refl _⟩,hd σ H p⟩
theorem walk_tup {K:PySem.W.Frag} {a:Addr} {xs:List V} {g:TG} {b:TB} {N0:St→Hp→Prop} {σ:St} {H:Hp} (Pv:Nat→St→Hp→Prop) (h0:Pv 0 σ H) (hl:∀ i σ H,i≤xs.length→Pv i σ H→SqT K H a xs)
  (hs:∀ i x σ H,xs[i]?=some x→Pv i σ H→g x σ H fun σ2 H2=>b (Pv (i+1)) σ2 H2) (hd:∀ σ H,Pv xs.length σ H→N0 σ H):tWalk (Itt K a) g b N0 σ H:=by
 refine ⟨fun i m σ H=>m=xs.length-i∧i≤xs.length∧Pv i σ H,⟨xs.length,by simp,Nat.zero_le _,h0⟩,?_⟩
 rintro i m σ H ⟨rfl,hle,p⟩
 by_cases hi:i<xs.length
 ·refine .inr ⟨⟨xs,xs[i],hl i σ H hle p,by simp [hi]⟩,Pv (i+1),fun σ' H' q=>⟨xs.length-(i+1),by omega,rfl,by omega,q⟩,fun x H' hy=>?_⟩
  obtain ⟨rfl,hy⟩:=hy
  exact hs i x σ _ (hy xs (hl i σ _ hle p)) p
 ·have:i=xs.length:=by omega
  subst this
  exact .inl ⟨⟨xs,hl _ σ H hle p,Nat.le_refl _⟩,hd σ H p⟩
section
variable {prog:Program} {w:World} {A:Around} {E:Value→Shared→Prop}
end
section
variable {X:Cx} {pos:Pos}
inductive call_divmodWY (xs:List V) (H:Hp) (Q:VK):Prop
 | mk:∀ (i j:Int),(xs=[.int i,.int j])→((0<j∧j.natAbs<2 ^ 9000))→(∀ p,H p=none→Q (.ref p) (upd H p (.tup [.int (i / j),.int (i % j)])))→call_divmodWY xs H Q
theorem call_divmodW:CallR X (.builtin "divmod") call_divmodWY:=by
 intro pins s σ H xs us Q I r h
 obtain ⟨i,j,rfl,⟨h1,h2⟩,q⟩:=h
 obtain ⟨u,w',rfl,⟨t,rfl⟩,⟨t',rfl⟩⟩:=vals2 r
 refine divmod_int (by omega) ?_ (.inl (PyProof.noPylong_of_log2 (Own.log2_lt h2)))
 rw [Int.fdiv_eq_ediv_of_nonneg i (by omega),Int.fmod_eq_emod_of_nonneg i (by omega)]
 have hn:H s.heap.objs.size=none:=I.hok.fresh (Nat.le_refl _)
 refine ⟨.ref s.heap.objs.size,_,?_,rfl,q _ hn⟩
 refine I.laid (fun b o e=>Heap.get?_push_of_some _ e) (Nat.le_refl _) ⟨by simp only [List.length_cons,List.length_nil];rw [sizeLine_eq];decide,[.int (i / j) s.toks,.int (i % j) (s.toks+1)],.cons ⟨_,rfl⟩ (.cons ⟨_,rfl⟩ .nil),?_⟩
 exact ⟨_,Heap.get?_push_size s.heap rfl,rfl,0,rfl,rfl⟩
theorem ints_of:∀ {ns:List Int} {its:List Value},Vals (ns.map V.int) its→IntsAre its ns
 | [],_,r=>by cases r;exact .nil
 | n::ns,_,r=>by
  cases r with
  | cons r1 r2 =>
   obtain ⟨t,rfl⟩:=r1
   exact .cons n t (ints_of r2)
end
mutual
def Dt (K:PySem.W.Frag) (H:Hp):PyData→V→Prop
 | .none,v=>v=.non
 | .bool b,v=>v=.bl b
 | .int i,v=>v=.int i
 | .str x,v=>v=.str x
 | .tuple xs,v=>∃ a vs,v=.ref a∧SqT K H a vs∧DtAll K H xs vs
 | .list xs,v=>∃ a vs,v=.ref a∧SqL K H a vs∧DtAll K H xs vs
 | .dict _,_=>False
def DtAll (K:PySem.W.Frag) (H:Hp):List PyData→List V→Prop
 | [],vs=>vs=[]
 | d::ds,vs=>∃ v vr,vs=v::vr∧Dt K H d v∧DtAll K H ds vr
end
section
variable {X:Cx} {pins:List (Addr×Obj)} {σ:St} {H:Hp} {s:Shared}
mutual
theorem Dt.reads (I:Inv X pins σ H s):∀ (d:PyData) (v:V) (u:Value),RelV v u→Dt X.K H d v→∃ as,Reads s.heap u d as
 | .none,v,u,r,h=>by unfold Dt at h;subst h;cases r;exact ⟨_,.none⟩
 | .bool b,v,u,r,h=>by unfold Dt at h;subst h;cases r;exact ⟨_,.bool b⟩
 | .int i,v,u,r,h=>by unfold Dt at h;subst h;obtain ⟨t,rfl⟩:=r;exact ⟨_,.int i t⟩
 | .str x,v,u,r,h=>by unfold Dt at h;subst h;obtain ⟨t,rfl⟩:=r;exact ⟨_,.str x t⟩
 | .tuple xs,v,u,r,h=>by
  unfold Dt at h
  obtain ⟨a,vs,rfl,hs,hd⟩:=h
  cases r
  obtain ⟨its,rv,⟨o,e1,e2,n,e3⟩,hz⟩:=I.tuple hs
  obtain ⟨as,ra⟩:=DtAll.reads I xs vs its rv hd
  exact ⟨_,.tuple e1 e2 e3 (by simpa using ra)⟩
 | .list xs,v,u,r,h=>by
  unfold Dt at h
  obtain ⟨a,vs,rfl,hs,hd⟩:=h
  cases r
  obtain ⟨its,rv,ht,hz⟩:=I.list hs
  obtain ⟨as,ra⟩:=DtAll.reads I xs vs its rv hd
  obtain ⟨o,e1,e2,n,e3⟩:=ht.isList
  exact ⟨_,.list e1 e2 e3 (by simpa using ra)⟩
 | .dict _,v,u,r,h=>by unfold Dt at h;exact h.elim
theorem DtAll.reads (I:Inv X pins σ H s):∀ (ds:List PyData) (vs:List V) (us:List Value),Vals vs us→DtAll X.K H ds vs→∃ as,ReadsAll s.heap us ds as
 | [],vs,us,r,h=>by unfold DtAll at h;subst h;cases r;exact ⟨_,.nil⟩
 | d::ds,vs,us,r,h=>by
  unfold DtAll at h
  obtain ⟨v,vr,rfl,h1,h2⟩:=h
  cases r with
  | cons r1 r2 =>
   obtain ⟨as,q1⟩:=Dt.reads I d v _ r1 h1
   obtain ⟨bs,q2⟩:=DtAll.reads I ds vr _ r2 h2
   exact ⟨_,.cons q1 q2⟩
end
end
section
variable {X:Cx}
/-- x == y, x != y, told deep -/
inductive rEqD (K:PySem.W.Frag) (neg:Bool) (x:V) (y:V) (H:Hp) (Q:VK):Prop
 | mk:∀ d e,(Dt K H d x)→(Dt K H e y)→(SeqAt.shaped d=true)→(SeqAt.shaped e=true)→(Q (.bl (if neg then !PyData.eqv d e else PyData.eqv d e)) H)→rEqD K neg x y H Q
theorem op_eqD (hu:X.A.units+64<cLine):OpR X (compareOp .Eq) (rEqD X.K false):=by
 intro pins s σ H x y v u Q I rx ry h
 obtain ⟨d,e,h1,h2,s1,s2,q⟩:=h
 obtain ⟨as,p1⟩:=Dt.reads I d x v rx h1
 obtain ⟨bs,p2⟩:=Dt.reads I e y u ry h2
 exact SeqAt.compareEq_shaped p1 p2 s1 s2 hu ⟨.bl _,H,I,rfl,q⟩
theorem op_neD (hu:X.A.units+64<cLine):OpR X (compareOp .NotEq) (rEqD X.K true):=by
 intro pins s σ H x y v u Q I rx ry h
 obtain ⟨d,e,h1,h2,s1,s2,q⟩:=h
 obtain ⟨as,p1⟩:=Dt.reads I d x v rx h1
 obtain ⟨bs,p2⟩:=Dt.reads I e y u ry h2
 exact SeqAt.compareNe_shaped p1 p2 s1 s2 hu ⟨.bl _,H,I,rfl,q⟩
end
end L2
set_option Elab.async false
set_option linter.all false
set_option maxRecDepth 100000
set_option maxHeartbeats 4000000
namespace L2
open PySem PySem.Spec PyProof.Rows
open Classical in
noncomputable def eqD (h:Heap) (d:PyData) (u:Value):Bool:=if z:∃ d',d'.canLay0=true∧∃ as,Reads h u d' as then PyData.eqv z.choose d else false
theorem eqD_of {h:Heap} {d d':PyData} {u:Value} {as:List Addr} (c:d'.canLay0=true) (r:Reads h u d' as):eqD h d u=PyData.eqv d' d:=by
 have z:∃ d',d'.canLay0=true∧∃ as,Reads h u d' as:=⟨d',c,as,r⟩
 unfold eqD
 rw [dif_pos z]
 obtain ⟨c1,as',r1⟩:=z.choose_spec
 rw [SeqAt.Reads.unique _ _ _ _ _ c1 r1 r]
theorem any_eqD {h:Heap} {d:PyData}:∀ {es:List PyData} {us:List Value} {as:List Addr},ReadsAll h us es as→PyData.canLayAll0 es=true→us.any (eqD h d)=es.any fun e=>PyData.eqv e d
 | [],us,as,r,_=>by cases r;rfl
 | e::es,us,as,r,c=>by
  have c':e.canLay0=true∧PyData.canLayAll0 es=true:=by simpa [PyData.canLayAll0] using c
  cases r with
  | cons r1 r2=>rw [List.any_cons,List.any_cons,eqD_of c'.1 r1,any_eqD r2 c'.2]
theorem mem_reads {h:Heap}:∀ {es:List PyData} {us:List Value} {as:List Addr},ReadsAll h us es as→∀ u∈us,∃ e∈es,∃ as,Reads h u e as
 | [],us,as,r,u,hu=>by cases r;cases hu
 | e::es,us,as,r,u,hu=>by
  cases r with
  | cons r1 r2 =>
   rcases List.mem_cons.mp hu with rfl | hu
   ·exact ⟨e,List.mem_cons_self,_,r1⟩
   ·obtain ⟨e',he,x⟩:=mem_reads r2 u hu
    exact ⟨e',List.mem_cons_of_mem _ he,x⟩
theorem canAll {es:List PyData} (h:∀ e∈es,SeqAt.shaped e=true):PyData.canLayAll0 es=true:=by
 induction es with
 | nil=>rfl
 | cons e es ih =>
  simp only [PyData.canLayAll0,Bool.and_eq_true]
  exact ⟨SeqAt.canLay_of_shaped (h e List.mem_cons_self),ih fun e' he=>h e' (List.mem_cons_of_mem _ he)⟩
section
variable {X:Cx}
/-- x in a list or tuple, told deep -/
inductive rInD (K:PySem.W.Frag) (neg:Bool) (x:V) (y:V) (H:Hp) (Q:VK):Prop
 | mk:∀ d es p xs,(y=.ref p)→((SqL K H p xs∨SqT K H p xs))→(Dt K H d x)→(DtAll K H es xs)→(SeqAt.shaped d=true)→((∀ e∈es,SeqAt.shaped e=true))→(Q (.bl (if neg then !es.any (fun e=>PyData.eqv e d) else es.any fun e=>PyData.eqv e d)) H)→rInD K neg x y H Q
theorem op_inD (hu:X.A.units+65<cLine):OpR X (compareOp .In) (rInD X.K false):=by
 intro pins s σ H x y v u Q I rx ry h
 obtain ⟨d,es,p,xs,rfl,hq,hd,hes,sd,ses,q⟩:=h
 cases ry
 obtain ⟨as,rd⟩:=Dt.reads I d x v rx hd
 have key:∀ its:List Value,Vals xs its→(∀ w∈its,SeqAt.EqAt X.A.in1 s w v (eqD s.heap d w))∧its.any (eqD s.heap d)=es.any fun e=>PyData.eqv e d:=fun its r=>by
  obtain ⟨bs,ra⟩:=DtAll.reads I es xs its r hes
  refine ⟨fun w hw=>?_,any_eqD ra (canAll ses)⟩
  obtain ⟨e,he,cs,re⟩:=mem_reads ra w hw
  rw [eqD_of (SeqAt.canLay_of_shaped (ses e he)) re]
  exact SeqAt.eqAt_reads e d X.A.in1 s w v cs as re rd (SeqAt.canLay_of_shaped (ses e he)) (SeqAt.canLay_of_shaped sd) (SeqAt.room_of_shaped (ses e he) (by show X.A.units+1+64<cLine;omega))
 rcases hq with hq | hq
 ·obtain ⟨its,r,pl,hz⟩:=I.list hq
  obtain ⟨k1,k2⟩:=key its r
  refine SeqAt.in_listAt (eqD s.heap d) pl.isList (fun w hw=>k1 w (by simpa using hw)) ⟨.bl _,H,I,rfl,?_⟩
  rw [show its.toArray.any (eqD s.heap d)=its.any (eqD s.heap d) by simp,k2]
  exact q
 ·obtain ⟨its,r,pl,hz⟩:=I.tuple hq
  obtain ⟨k1,k2⟩:=key its r
  refine SeqAt.in_tupleAt (eqD s.heap d) pl (fun w hw=>k1 w (by simpa using hw)) ⟨.bl _,H,I,rfl,?_⟩
  rw [show its.toArray.any (eqD s.heap d)=its.any (eqD s.heap d) by simp,k2]
  exact q
end
def csOk (sc S0:Scope):Bool:=(sc.names.all fun y=>(y.2 != .local || sc.names.lookup y.1 == some .local) && y.2 != .cell && (y.2 != .free || S0.names.lookup y.1 == some .cell))
theorem CS.of {sc S0:Scope} (k:sc.kind=.function) (h:csOk sc S0=true):CS sc S0:=by
 have q:∀ y∈sc.names,_:=List.all_eq_true.mp h
 refine ⟨k,fun y hy e=>?_,fun y hy e=>?_,fun y hy e=>?_⟩<;>have z:=q y hy<;>rw [Bool.and_eq_true,Bool.and_eq_true] at z<;>obtain ⟨⟨z1,z2⟩,z3⟩:=z
 ·rw [e] at z1;simpa using z1
 ·rw [e] at z2;simp at z2
 ·rw [e] at z3;simpa using z3
theorem Room.units65 {k:Nat} {A:Around} (r:Room k A):A.units+65<cLine:=by have:=r.un;omega
end L2
set_option Elab.async false
set_option linter.all false
set_option maxRecDepth 100000
set_option maxHeartbeats 4000000
namespace L2
open PySem PySem.Spec PyProof.Rows
section
variable {prog:Program} {w:World} {A:Around} {E:Value→Shared→Prop} {s:Shared}
theorem nextOf_tup {it t:Addr} {i:Nat} {items:Array Value} {x:Value} {Q:Value→Shared→Prop} (hit:s.heap.IsTupleIter it t i) (ht:s.heap.IsTuple t items) (hx:items[i]?=some x)
  (hQ:∀ h',h'.IsTupleIter it t (i+1)→Heap.SameBut it s.heap h'→Q x { s with heap:=h' }):wpAny (model prog w) A (Builtin.SmallTypes.nextOf (.ref it)) Q E s:=by
 obtain ⟨o,ho,hc,hd⟩:=id hit
 obtain ⟨ot,hot,_,nt,hdt⟩:=ht
 unfold Builtin.SmallTypes.nextOf
 refine wpAny_bind (wpAny_callSpecial?_slot (name:=Str.ofString "__next__") hit.typeIs F.slot_tuple_iterator_next (wpAny_call_entry F.slot_tuple_iterator_next hit.typeIs F.entry_tuple_iterator_next ?_ (F.args_tuple_iterator_next_1 _)))
 show wpAny _ _ (field (.ref it) 0 >>= _) _ _ s
 refine wpAny_bind (wpAny_field ho hd (x:=.ref t) rfl ?_)
 show wpAny _ _ (if (Value.ref t == Value.none)=true then _ else _) _ _ s
 rw [if_neg (show ¬ ((Value.ref t == Value.none)=true) from Bool.false_ne_true)]
 show wpAny _ _ (field (.ref it) 1 >>= _) _ _ s
 refine wpAny_bind (wpAny_field ho hd (x:=.int i 0) rfl ?_)
 show wpAny _ _ (seqItems? (.ref t) >>= _) _ _ s
 refine wpAny_bind (wpAny_seqItems hot hdt ?_)
 simp only [Int.toNat_natCast,hx]
 refine wpAny_bind (wpAny_setField ho hd (by simp) (wpAny_pure ⟨x,rfl,wpAny_pure (hQ _ ?_ (Heap.SameBut.update ..))⟩))
 refine ⟨_,Heap.get?_update_self _ ho (Obj.isFreed_of_fields (Obj.data_mapFields hd _)),(Obj.cls_mapFields ..).trans hc,?_⟩
 rw [Obj.data_mapFields hd]
 simp [rawInt]
theorem nextOf_tup_end {it t:Addr} {i:Nat} {items:Array Value} {Q:Value→Shared→Prop} (hh:A.handled=none) (hit:s.heap.IsTupleIter it t i) (ht:s.heap.IsTuple t items) (hx:items[i]?=none)
  (hE:∀ h' e,Heap.ExtBut it s.heap h'→(∃ o,h'.get? e=some o∧o.cls=.type "StopIteration")→E (.ref e) { s with heap:=h' }):wpAny (model prog w) A (Builtin.SmallTypes.nextOf (.ref it)) Q E s:=by
 obtain ⟨o,ho,hc,hd⟩:=id hit
 obtain ⟨ot,hot,_,nt,hdt⟩:=ht
 unfold Builtin.SmallTypes.nextOf
 refine wpAny_bind (wpAny_callSpecial?_slot (name:=Str.ofString "__next__") hit.typeIs F.slot_tuple_iterator_next (wpAny_call_entry F.slot_tuple_iterator_next hit.typeIs F.entry_tuple_iterator_next ?_ (F.args_tuple_iterator_next_1 _)))
 show wpAny _ _ (field (.ref it) 0 >>= _) _ _ s
 refine wpAny_bind (wpAny_field ho hd (x:=.ref t) rfl ?_)
 show wpAny _ _ (if (Value.ref t == Value.none)=true then _ else _) _ _ s
 rw [if_neg (show ¬ ((Value.ref t == Value.none)=true) from Bool.false_ne_true)]
 show wpAny _ _ (field (.ref it) 1 >>= _) _ _ s
 refine wpAny_bind (wpAny_field ho hd (x:=.int i 0) rfl ?_)
 show wpAny _ _ (seqItems? (.ref t) >>= _) _ _ s
 refine wpAny_bind (wpAny_seqItems hot hdt ?_)
 simp only [Int.toNat_natCast,hx]
 refine wpAny_bind (wpAny_rule (wpAny_bind (wpAny_setField ho hd (by simp) ?_)))
 show wpAny _ _ (newExc (.type "StopIteration") [] >>= _) _ _ _
 refine wpAny_bind ?_
 simp only [newExc,newTuple]
 refine wpAny_bind (wpAny_newObj_type ?_ (by size_fits))
 refine wpAny_bind (m:=firstArgMember _ _) (wpAny_of_eq (a:=Value.none) (by first | rfl | (simp only [firstArgMember];rfl)) ?_)
 refine wpAny_newObj_type ?_ (by size_fits)
 simp only [raiseNew]
 refine wpAny_bind (wpAny_handled ?_)
 first | rw [show A.in1.handled=none from hh] | rw [hh]
 refine wpAny_bind (wpAny_pure (wpAny_throw ?_))
 exact hE _ _ (((Heap.SameBut.update ..).extBut.push _).push _) ⟨_,Heap.get?_push_size _ rfl,rfl⟩
end
def ItOf (k:Bool) (h:Heap) (it a:Addr) (i:Nat):Prop:=match k with | true=>h.IsListIter it a i | false=>h.IsTupleIter it a i
def SqOf (k:Bool) (h:Heap) (a:Addr) (items:Array Value):Prop:=match k with | true=>h.IsList a items | false=>h.IsTuple a items
def itName (k:Bool):String:=match k with | true=>"list_iterator" | false=>"tuple_iterator"
def SqX (K:PySem.W.Frag) (k:Bool) (H:Hp) (a:Addr) (xs:List V):Prop:=match k with | true=>SqL K H a xs | false=>SqT K H a xs
theorem ItOf.at {k:Bool} {h h':Heap} {it a:Addr} {i:Nat} (x:ItOf k h it a i) (g:∀ o,h.get? it=some o→h'.get? it=some o):ItOf k h' it a i:=by
 cases k
 ·obtain ⟨o,e,r⟩:=x;exact ⟨o,g o e,r⟩
 ·obtain ⟨o,e,r⟩:=x;exact ⟨o,g o e,r⟩
theorem ItOf.live {k:Bool} {h:Heap} {it a:Addr} {i:Nat} (x:ItOf k h it a i):∃ o,h.get? it=some o∧∀ v,o.data≠.cell v:=by
 cases k
 ·obtain ⟨o,e,c,d⟩:=x;exact ⟨o,e,fun v z=>by rw [d] at z;cases z⟩
 ·obtain ⟨o,e,c,d⟩:=x;exact ⟨o,e,fun v z=>by rw [d] at z;cases z⟩
theorem SqOf.at {k:Bool} {h h':Heap} {a:Addr} {items:Array Value} (x:SqOf k h a items) (g:∀ o,h.get? a=some o→h'.get? a=some o):SqOf k h' a items:=by
 cases k
 ·obtain ⟨o,e,r⟩:=x;exact ⟨o,g o e,r⟩
 ·obtain ⟨o,e,r⟩:=x;exact ⟨o,g o e,r⟩
theorem SqOf.there {k:Bool} {h:Heap} {a:Addr} {items:Array Value} (x:SqOf k h a items):∃ o,h.get? a=some o:=by
 cases k
 ·obtain ⟨o,e,r⟩:=x;exact ⟨o,e⟩
 ·obtain ⟨o,e,r⟩:=x;exact ⟨o,e⟩
theorem SqOf.lt {k:Bool} {h:Heap} {a:Addr} {items:Array Value} (x:SqOf k h a items):a<h.objs.size:=let ⟨_,e⟩:=x.there;Heap.lt_size e
theorem ItOf.new (k:Bool) (h:Heap) (a:Addr):ItOf k (h.push { cls:=.type (itName k),data:=.fields #[.ref a,.int 0 0] }) h.objs.size a 0:=by
 cases k
 ·exact ⟨_,Heap.get?_push_size _ rfl,rfl,rfl⟩
 ·exact ⟨_,Heap.get?_push_size _ rfl,rfl,rfl⟩
theorem Inv.sq {X:Cx} {pins:List (Addr×Obj)} {σ:St} {H:Hp} {s:Shared} {k:Bool} {a:Addr} {xs:List V} (I:Inv X pins σ H s) (h:SqX X.K k H a xs):∃ its:List Value,Vals xs its∧SqOf k s.heap a its.toArray:=by
 cases k
 ·obtain ⟨its,r,p,_⟩:=I.tuple h
  exact ⟨its,r,p⟩
 ·obtain ⟨its,r,p,_⟩:=I.list h
  exact ⟨its,r,p.isList⟩
theorem Inv.sq_inj {X:Cx} {pins:List (Addr×Obj)} {σ:St} {H:Hp} {s:Shared} {k:Bool} {a:Addr} {xs ys:List V} (I:Inv X pins σ H s) (h:SqX X.K k H a xs) (h':SqX X.K k H a ys):xs=ys:=by
 cases k
 ·exact I.tuple_inj h h'
 ·exact I.list_inj h h'
section
variable {prog:Program} {w:World} {A:Around} {E:Value→Shared→Prop} {s:Shared}
theorem iter_sq {k:Bool} {a:Addr} {items:Array Value} {Q:Value→Shared→Prop} (h:SqOf k s.heap a items) (hQ:Q (.ref s.heap.objs.size) { s with heap:=s.heap.push { cls:=.type (itName k),data:=.fields #[.ref a,.int 0 0] } }) :
  wpAny (model prog w) A (pyIter (.ref a)) Q E s:=by
 cases k
 ·exact wpAny_pyIter_tuple h hQ
 ·exact wpAny_pyIter_list h hQ
theorem draws_sq (hh:A.handled=none) (k:Bool) (it a:Addr) (hne:a≠it) (items:Array Value):Draws prog w A it [it,a] items.size (fun i v=>items[i]?=some v) (fun i h=>ItOf k h it a i∧SqOf k h a items) where
 live:=fun _ _ st=>let ⟨o,ho,_⟩:=st.1.live;⟨o,ho⟩
 frame:=fun _ _ _ st hk=>⟨st.1.at fun o e=>hk it (by simp) o e,st.2.at fun o e=>hk a (by simp) o e⟩
 item:=fun i s Q E hi st hQ=>by
  have hx:items[i]?=some items[i]:=by simp [hi]
  cases k
  ·exact nextOf_tup st.1 st.2 hx fun h' hit' hs'=>hQ _ h' s.toks hx ⟨hit',st.2.at fun o e=>hs'.extBut a o hne e⟩ hs'
  ·exact wpAny_nextOf_list_item st.1 st.2 hx fun h' hit' hs'=>hQ _ h' s.toks hx ⟨hit',st.2.at fun o e=>hs'.extBut a o hne e⟩ hs'
 done:=fun s Q E st hE=>by
  cases k
  ·exact nextOf_tup_end hh st.1 st.2 (by simp) hE
  ·exact wpAny_nextOf_list_end hh st.1 st.2 (by simp) hE
end
theorem Inv.turnedL {X:Cx} {pins:List (Addr×Obj)} {σ:St} {H:Hp} {s:Shared} {h':Heap} {t':Nat} {ch:List Addr} (I:Inv X pins σ H s) (k:∀ b o,b∉ch→s.heap.get? b=some o→h'.get? b=some o) (hf:∀ b∈ch,FpOk X pins H b) :
  Inv X pins σ H { s with heap:=h',toks:=t' }:=by
 have nit:∀ b u,H b=some u→b∉ch:=fun b u e z=>by rw [(hf b z).1] at e;cases e
 refine I.step (g':=s.gens) (d':=s.drawn) (ch:=ch) (fun b hb=>?_) (fun b o _ _ hc e _=>k b o hc e) (fun b o _ _ hc e _=>⟨o.slots,k b o hc e⟩) (fun _ _ _ _ n=>n)
  (fun b o hc e=>⟨o,k b o hc e⟩) (fun _ _ e=>e) (fun _ _ _ e=>e) (fun b ps e=>⟨#[],by rw [e];simp⟩) (fun m hm=>?_) (fun b u e=>?_) I.bare
 ·obtain ⟨f0,f1,f2,f3,f4,f5⟩:=hf b hb
  exact ⟨f3,f1,f4,f5⟩
 ·obtain ⟨o,es,ep,ho,r⟩:=hm
  exact ⟨o,es,ep,k _ o (fun z=>(hf _ z).2.1 rfl) ho,r⟩
 ·refine (I.hok b u e).stay (fun c v hc q=>k c v ?_ q) (fun _ q=>q) fun _ _ q=>q
  rcases hc with z | z
  ·rw [z];exact nit b u e
  ·exact nit c _ z
end L2
set_option Elab.async false
set_option linter.all false
set_option maxRecDepth 100000
set_option maxHeartbeats 4000000
namespace L2
open PySem PySem.Spec PyProof.Rows
open AutoSeq1 (wpAny_loadPart')
theorem enum_new_tup (l:Addr) (items:Array Value) (n:Nat) (dct:Option Addr) (sl:Array (Option Value)) :
  Meets (Builtin.«enumerate.__new__» ⟨[.type "enumerate",.ref l],[]⟩) (fun _ R s=>s.heap.get? l=some { cls:=.type "tuple",dict:=dct,data:=.seq items n,slots:=sl } ∧
   R (.ok (.ret (.ref (s.heap.push { cls:=.type "tuple_iterator",data:=.fields #[.ref l,.int 0 0] }).objs.size)))
    { s with heap:=(s.heap.push { cls:=.type "tuple_iterator",data:=.fields #[.ref l,.int 0 0] }).push { cls:=.type "enumerate",data:=.fields #[.none,.bool false,.ref s.heap.objs.size,rawInt 0,.none,.none] } }) :=
 .of_wp fun prog w A R s h=>by
  obtain ⟨hp,g,d,tk,os⟩:=s;obtain ⟨hl,h⟩:=h
  have hsub:=sub_enumerate
  have hL:Heap.IsTuple (Shared.heap ⟨hp,g,d,tk,os⟩) l items:=⟨_,hl,rfl,n,rfl⟩
  wp_walk using wpAny_loadPart' hl
  refine wpAny_stack_any fun st=>wpAny_pure ?_
  split
  ·rename_i c _ _ _ _ _
   cases (c == Value.type "enumerate")
   ·wp_walk using wpAny_loadPart' hl,wpAny_pyIter_tuple hL
    exact ⟨_,rfl,h⟩
   ·wp_walk using wpAny_loadPart' hl,wpAny_pyIter_tuple hL
    exact ⟨_,rfl,h⟩
  ·wp_walk using wpAny_loadPart' hl,wpAny_pyIter_tuple hL
   exact ⟨_,rfl,h⟩
section
variable {prog:Program} {w:World} {A:Around} {E:Value→Shared→Prop} {s:Shared}
theorem call_enum_sq {k:Bool} {l:Addr} {items:Array Value} {Q:Value→Shared→Prop} (hL:SqOf k s.heap l items)
  (h:∀ h',IsEnum h' (s.heap.objs.size+1) s.heap.objs.size 0 .none→ItOf k h' s.heap.objs.size l 0→(∀ b o,s.heap.get? b=some o→h'.get? b=some o)→Q (.ref (s.heap.objs.size+1)) { s with heap:=h' }) :
  wpAny (model prog w) A (call (.type "enumerate") [.ref l]) Q E s:=by
 cases k
 ·obtain ⟨⟨c,dct,dt,sl⟩,hl,hc,n,hd⟩:=hL
  replace hc:c=.type "tuple":=hc
  replace hd:dt=.seq items n:=hd
  subst hc hd
  refine callType_new F.called_enumerate (by decide) (F.typeCall_enumerate_1 _) (F.newCall_enumerate_1 _) (fun obj=>F.args_object_init_2 obj _) F.entry_enumerate_new (enum_new_tup l items n dct sl) ⟨hl,?_⟩
  have hz:(s.heap.push { cls:=.type "tuple_iterator",data:=.fields #[.ref l,.int 0 0] }).objs.size=s.heap.objs.size+1:=Heap.size_push ..
  show _∧_
  rw [hz]
  have he:=Heap.get?_push_size (s.heap.push { cls:=.type "tuple_iterator",data:=.fields #[.ref l,.int 0 0] }) (o:={ cls:=.type "enumerate",data:=.fields #[.none,.bool false,.ref s.heap.objs.size,rawInt 0,.none,.none] }) rfl
  rw [hz] at he
  exact ⟨⟨_,he,rfl⟩,h _ he ⟨_,Heap.get?_push_of_some _ (Heap.get?_push_size _ rfl),rfl,rfl⟩ fun b o x=>Heap.get?_push_of_some _ (Heap.get?_push_of_some _ x)⟩
 ·exact call_enumerate_list hL fun h' he hi _ hk=>h h' he hi hk
end
theorem sq_it {k k':Bool} {h:Heap} {a it b:Addr} {i:Nat} {items:Array Value} (x:SqOf k h a items) (y:ItOf k' h it b i):a≠it:=by
 intro z
 subst z
 cases k<;>cases k'<;>obtain ⟨o,e,c,_⟩:=x<;>obtain ⟨o',e',c',_⟩:=y<;>rw [e] at e'<;>cases e'<;>rw [c] at c'<;>revert c'<;>decide
theorem cls_ne {h:Heap} {a b:Addr} {o u:Obj} {m n:String} (h1:h.get? a=some o) (h2:h.get? b=some u) (c1:o.cls=.type m) (c2:u.cls=.type n) (d:m≠n):a≠b:=by
 intro z
 subst z
 rw [h1] at h2
 cases h2
 rw [c1] at c2
 injection c2 with e
 exact d e
theorem ItOf.cls {k:Bool} {h:Heap} {it a:Addr} {i:Nat} (x:ItOf k h it a i):∃ o,h.get? it=some o∧o.cls=.type (itName k):=by
 cases k<;>obtain ⟨o,e,c,_⟩:=x<;>exact ⟨o,e,c⟩
def sqName (k:Bool):String:=match k with | true=>"list" | false=>"tuple"
theorem SqOf.cls {k:Bool} {h:Heap} {a:Addr} {items:Array Value} (x:SqOf k h a items):∃ o,h.get? a=some o∧o.cls=.type (sqName k):=by
 cases k<;>obtain ⟨o,e,c,_⟩:=x<;>exact ⟨o,e,c⟩
/-- a new pair handed out by an iterator, its records turned -/
theorem Inv.handed {X:Cx} {pins:List (Addr×Obj)} {σ:St} {H:Hp} {s:Shared} {h':Heap} {t':Nat} {ch:List Addr} {x y:V} {u v:Value} (I:Inv X pins σ H s) (rx:RelV x u) (ry:RelV y v)
  (hT:h'.get? s.heap.objs.size=some { cls:=.type "tuple",data:=.seq #[u,v] }) (k:∀ b o,b∉ch→s.heap.get? b=some o→h'.get? b=some o) (hf:∀ b∈ch,FpOk X pins H b) (hlt:∀ b∈ch,b<s.heap.objs.size) :
  Inv X pins σ (upd H s.heap.objs.size (.tup [x,y])) { s with heap:=h',toks:=t' }∧(∀ b∈ch,upd H s.heap.objs.size (.tup [x,y]) b=none):=by
 have hn:∀ b∈ch,upd H s.heap.objs.size (.tup [x,y]) b=none:=fun b hb=>by rw [upd_ne (Nat.ne_of_lt (hlt b hb))];exact (hf b hb).1
 have I1:Inv X pins σ (upd H s.heap.objs.size (.tup [x,y])) { s with heap:=s.heap.push { cls:=.type "tuple",data:=.seq #[u,v] },toks:=s.toks } :=
  I.laid (fun b o e=>Heap.get?_push_of_some _ e) (Nat.le_refl _) ⟨by simp only [List.length_cons,List.length_nil];rw [sizeLine_eq];decide,[u,v],.cons rx (.cons ry .nil),⟨_,Heap.get?_push_size _ rfl,rfl,0,rfl,rfl⟩⟩
 have I2:=Inv.turnedL (h':=h') (t':=t') (ch:=ch) I1 (fun b o hb e=>by
  rcases Heap.get?_push_cases e with ⟨rfl,rfl⟩ | e
  ·exact hT
  ·exact k b o hb e) (fun b hb=>by
  obtain ⟨f0,f1,f2,f3,f4,f5⟩:=hf b hb
  exact ⟨hn b hb,f1,f2,f3,f4,f5⟩)
 exact ⟨I2,hn⟩
/-- (i, x) of a list or tuple -/
def Ite (k:Bool) (K:PySem.W.Frag) (a:Addr):It :=
 ⟨fun i H=>∃ xs x,SqX K k H a xs∧xs[i]?=some x,fun i H v H'=>∃ T x,H T=none∧v=.ref T∧(∀ xs,SqX K k H a xs→xs[i]?=some x)∧H'=upd H T (.tup [.int i,x]),fun i H=>∃ xs,SqX K k H a xs∧xs.length=i⟩
theorem turn_enum {P:Program} {w:World} {K:PySem.W.Frag} {elts:List Expr} {x1} {pos:Pos} (k:Bool) (a e it:Addr):Turn P w K (.Tuple elts x1 pos) (Ite k K a) [e,it] e (fun i h=>(∃ old,IsEnum h e it i old)∧ItOf k h it a i) where
 mem:=by simp
 obj:=fun i h st b hb=>by
  obtain ⟨⟨old,he⟩,hi⟩:=st
  rcases List.mem_cons.mp hb with rfl | hb
  ·exact ⟨_,he,fun v z=>by cases z⟩
  ·have:b=it:=by simpa using hb
   subst this
   exact hi.live
 keep:=fun i h h' st kk=>by
  obtain ⟨⟨old,he⟩,hi⟩:=st
  exact ⟨⟨old,kk e (by simp) _ he⟩,hi.at fun o q=>kk it (by simp) o q⟩
 item:=by
  intro X hP hw hK hc i pins s σ H E I hf st hg
  subst hP hw hK
  obtain ⟨⟨old,he⟩,hi⟩:=st
  obtain ⟨xs,x,hq,hx⟩:=hg
  obtain ⟨its,rv,p⟩:=I.sq hq
  obtain ⟨u,hu,ru⟩:=rv.get hx
  have nai:=sq_it p hi
  obtain ⟨oi,ei,ci⟩:=hi.cls
  obtain ⟨oa,ea,ca⟩:=p.cls
  have nei:e≠it:=cls_ne he ei rfl ci (by cases k<;>decide)
  have nea:e≠a:=cls_ne he ea rfl ca (by cases k<;>decide)
  have D:=draws_sq (prog:=X.prog) (w:=X.w) (A:=X.A.in1) (I.ok.hd hc) k it a nai its.toArray
  have hlt:i<its.toArray.size:=by
   have:=(List.getElem?_eq_some_iff.mp hu).1
   simpa using this
  refine wpAny_pyNext_enum_itemD D he ⟨hi,p⟩ hlt nei (by simp [nei,nea]) fun y h' tk hy ho hs' hT hz hk=>?_
  have ey:y=u:=by
   have hy':its[i]?=some y:=by simpa using hy
   rw [hu] at hy'
   exact (Option.some.inj hy').symm
  subst ey
  refine ⟨_,rfl,wpAny_letOwnedTupleGo_enum ho fun h2 he2 hs2=>?_⟩
  have hel:e<s.heap.objs.size:=Heap.lt_size he
  have hil:it<s.heap.objs.size:=Heap.lt_size ei
  have hT2:h2.get? s.heap.objs.size=some { cls:=.type "tuple",data:=.seq #[.int i tk,y] }:=hs2.extBut _ _ (Nat.ne_of_gt hel) hT
  obtain ⟨I2,n2⟩:=I.handed (x:=.int i) (u:=.int i tk) (t':=tk+1) (ch:=[e,it]) ⟨tk,rfl⟩ ru hT2 (fun b o hb q=>hs2.extBut b o (fun z=>hb (by simp [z])) (hk b o (fun z=>hb (by simp [z])) (fun z=>hb (by simp [z])) q)) hf
   (fun b hb=>by rcases List.mem_cons.mp hb with rfl | hb;exact hel;rw [List.mem_singleton.mp hb];exact hil)
  refine ⟨.ref s.heap.objs.size,_,I2,rfl,⟨_,x,I.hok.fresh (Nat.le_refl _),rfl,fun ys hys=>by rw [I.sq_inj hys hq];exact hx,rfl⟩,⟨⟨_,by simpa using he2⟩,hs'.1.at fun o q=>hs2.extBut it o nei.symm q⟩,n2⟩
 done:=by
  intro X hP hw hK hc i pins s σ H E I hf st hg
  subst hP hw hK
  obtain ⟨⟨old,he⟩,hi⟩:=st
  obtain ⟨xs,hq,hx⟩:=hg
  obtain ⟨its,rv,p⟩:=I.sq hq
  have nai:=sq_it p hi
  have D:=draws_sq (prog:=X.prog) (w:=X.w) (A:=X.A.in1) (I.ok.hd hc) k it a nai its.toArray
  have hl:its.toArray.size=i:=by rw [←hx,rv.length];simp
  refine wpAny_pyNext_enum_endD D he ⟨hl ▸ hi,p⟩ fun h' eb=>⟨rfl,I.turnedL (t':=s.toks) (ch:=[it]) (fun b o hb q=>eb b o (fun z=>hb (by simp [z])) q) fun b hb=>hf b (by simp at hb ⊢;exact .inr hb)⟩
 self:=fun _ _ _ _ _ st h=>by
  obtain ⟨⟨old,he⟩,_⟩:=st
  exact wpAny_pyIter_enum he h
section
variable {X:Cx}
inductive iEnumY (k:Bool) (K:PySem.W.Frag) (R:It→Hp→Prop) (vs:List V) (H1:Hp):Prop
 | mk:∀ a,(vs=[.ref a])→((∃ xs,SqX K k H1 a xs))→(R (Ite k K a) H1)→iEnumY k K R vs H1
def iEnum (k:Bool) (K:PySem.W.Frag) (ta:TA):TI:=fun σ H R=>ta σ H fun vs H1=>iEnumY k K R vs H1
theorem pi_enum (k:Bool) {a:Expr} {ta:TA} {p pos tpos:Pos} {elts:List Expr} {x1} (hg:Gl X "enumerate") (hm:X.mg "enumerate" = none) (ha:PA X [a] ta) (hs:starEach [a] X.env=[(false,eval a X.env)]:=by rfl) :
  PI X (.Tuple elts x1 tpos) (.Call (.Name "enumerate" p) [a] [] pos) (iEnum k X.K ta):=by
 intro pins s σ H R I h
 refine Call_ (ld_blt I hg hm boot_enumerate (PyProof.Rows.callWith_type1 (thn (ha pos pins s σ H _ I h) fun us s1 ⟨vs,H1,I1,r1,q1⟩=>?_) hs rfl))
 obtain ⟨l,rfl,⟨xs,hq⟩,q⟩:=q1
 obtain ⟨u,rfl,r⟩:=vals1 r1
 cases r
 obtain ⟨its,rv,pq⟩:=I1.sq hq
 refine call_enum_sq pq fun h' he hi hk=>?_
 refine wpAny_pyIter_enum (s:={ s1 with heap:=h' }) he ?_
 have f:∀ b,s1.heap.objs.size≤b→FpOk X pins H1 b:=fun b hb=>I1.fpOk hb (I1.hok.fresh hb)
 refine ⟨_,[s1.heap.objs.size+1,s1.heap.objs.size],_,_,H1,rfl,I1.kept (t':=s1.toks) hk,turn_enum k l _ _,⟨⟨_,he⟩,hi⟩,fun b hb=>?_,q⟩
 rcases List.mem_cons.mp hb with rfl | hb
 ·exact f _ (by omega)
 ·rw [List.mem_singleton.mp hb];exact f _ (Nat.le_refl _)
end
end L2
set_option Elab.async false
set_option linter.all false
set_option maxRecDepth 100000
set_option maxHeartbeats 4000000
namespace L2
open PySem PySem.Spec PyProof.Rows
structure ZAp (z TI TO i1 i2:Addr) (fp1 fp2:List Addr):Prop where
 zTI:z≠TI
 zTO:z≠TO
 zi1:z≠i1
 zi2:z≠i2
 TOi1:TO≠i1
 TOi2:TO≠i2
 i12:i1≠i2
 TITO:TI≠TO
 TIi1:TI≠i1
 TIi2:TI≠i2
 z1:z∉fp1
 z2:z∉fp2
 t1:TO∉fp1
 t2:TO∉fp2
 i2f:i2∉fp1
 i1f:i1∉fp2
section
variable {prog:Program} {w:World} {A:Around} {E:Value→Shared→Prop} {s:Shared} {z TI TO i1 i2:Addr} {fp1 fp2:List Addr} {n1 n2 j:Nat} {P1 P2:Nat→Value→Prop} {S1 S2:Nat→Heap→Prop} {a b:Value}
theorem zipD_item {Q:Value→Shared→Prop} (D1:Draws prog w A i1 fp1 n1 P1 S1) (D2:Draws prog w A i2 fp2 n2 P2 S2) (ap:ZAp z TI TO i1 i2 fp1 fp2)
  (hz:IsZip s.heap z TI TO .none) (hTI:IsPair s.heap TI (.ref i1) (.ref i2)) (hTO:IsPair s.heap TO a b) (h1:S1 j s.heap) (h2:S2 j s.heap) (l1:j<n1) (l2:j<n2)
  (hQ:∀ x y h' tk,P1 j x→P2 j y→IsZip h' z TI TO (rawInt s.heap.objs.size)→IsPair h' TO x y→S1 (j+1) h'→S2 (j+1) h'→IsPair h' s.heap.objs.size x y →
   (∀ c o,c≠z→c≠TO→c≠i1→c≠i2→s.heap.get? c=some o→h'.get? c=some o)→Q (.ref s.heap.objs.size) { s with heap:=h',toks:=tk }) :
  wpAny (model prog w) A (Builtin.«zip.__next__» ⟨[.ref z],[]⟩) (fun fin s'=>∃ v,fin=.done (.ret v)∧Q v s') E s:=by
 have fr1:∀ {i:Nat} {h h':Heap} {c:Addr},S1 i h→Heap.SameBut c h h'→c∉fp1→S1 i h':=fun st sb hc=>D1.frame _ _ _ st fun b hb o e=>sb.extBut b o (fun q=>hc (q ▸ hb)) e
 have fr2:∀ {i:Nat} {h h':Heap} {c:Addr},S2 i h→Heap.SameBut c h h'→c∉fp2→S2 i h':=fun st sb hc=>D2.frame _ _ _ st fun b hb o e=>sb.extBut b o (fun q=>hc (q ▸ hb)) e
 show wpAny _ _ (field (.ref z) 2 >>= _) _ _ _
 refine wpAny_bind (wpAny_field hz rfl (x:=.bool false) rfl ?_)
 show wpAny _ _ (field (.ref z) 3 >>= _) _ _ _
 refine wpAny_bind (wpAny_field hz rfl (x:=.ref TI) rfl ?_)
 refine wpAny_bind (wpAny_seqItems hTI rfl ?_)
 show wpAny _ _ (Builtin.SmallTypes.ownedTupleIsFree (.ref z) >>= _) _ _ _
 refine wpAny_bind ?_
 unfold Builtin.SmallTypes.ownedTupleIsFree
 refine wpAny_bind (wpAny_field hz rfl (x:=.none) rfl (wpAny_pure ?_))
 simp only [if_true]
 refine wpAny_bind (wpAny_rule ?_)
 refine wpAny_bind (wpAny_field hz rfl (x:=.ref TO) rfl ?_)
 refine wpAny_bind (wpAny_setField_rec hz (by simp) fun g1 z1 s1=>?_)
 replace z1:IsZip g1 z TI TO .ellipsis:=z1
 refine wpAny_bind ?_
 simp only [List.zipIdx_cons,List.zipIdx_nil,List.forIn_cons,List.forIn_nil]
  -- the first one
 refine wpAny_bind (wpAny_bind (wpAny_onRaise ?_))
 show wpAny _ _ (Builtin.SmallTypes.nextOf (.ref i1) >>= _) _ _ _
 refine wpAny_bind (D1.item j _ _ _ l1 (fr1 h1 s1 ap.z1) fun x g2 tk2 px st2 s2=>wpAny_pure ?_)
 have o2:IsPair g2 TO a b:=s2.extBut _ _ ap.TOi1 (s1.extBut _ _ ap.zTO.symm hTO)
 refine wpAny_bind (wpAny_seqItems o2 rfl ?_)
 refine wpAny_bind (wpAny_updateSeq_pair o2 fun g3 o3 s3=>?_)
 replace o3:IsPair g3 TO x b:=o3
 refine wpAny_bind (wpAny_letGo (wpAny_pure ?_))
  -- the second one
 refine wpAny_bind (wpAny_bind (wpAny_onRaise ?_))
 show wpAny _ _ (Builtin.SmallTypes.nextOf (.ref i2) >>= _) _ _ _
 refine wpAny_bind (D2.item j _ _ _ l2 (fr2 (fr2 (fr2 h2 s1 ap.z2) s2 ap.i1f) s3 ap.t2) fun y g4 tk4 py st4 s4=>wpAny_pure ?_)
 have o4:IsPair g4 TO x b:=s4.extBut _ _ ap.TOi2 o3
 refine wpAny_bind (wpAny_seqItems o4 rfl ?_)
 refine wpAny_bind (wpAny_updateSeq_pair o4 fun g5 o5 s5=>?_)
 replace o5:IsPair g5 TO x y:=o5
 refine wpAny_bind (wpAny_letGo (wpAny_pure (wpAny_pure ?_)))
  -- the pair
 refine wpAny_bind (wpAny_seqItems o5 rfl ?_)
 refine wpAny_bind (wpAny_newTuple ?_)
 have sz:g5.objs.size=s.heap.objs.size:=by rw [s5.1,s4.1,s3.1,s2.1,s1.1]
 have z5:IsZip g5 z TI TO .ellipsis:=s5.extBut _ _ ap.zTO (s4.extBut _ _ ap.zi2 (s3.extBut _ _ ap.zTO (s2.extBut _ _ ap.zi1 z1)))
 have k5:∀ c o,c≠z→c≠TO→c≠i1→c≠i2→s.heap.get? c=some o→g5.get? c=some o:=fun c o c1 c2 c3 c4 e =>
  s5.extBut _ _ c2 (s4.extBut _ _ c4 (s3.extBut _ _ c2 (s2.extBut _ _ c3 (s1.extBut _ _ c1 e))))
 have st1:S1 (j+1) g5:=fr1 (fr1 (fr1 st2 s3 ap.t1) s4 ap.i2f) s5 ap.t1
 have st2':S2 (j+1) g5:=fr2 st4 s5 ap.t2
 have zlt:z<g5.objs.size:=Heap.lt_size z5
 show wpAny _ _ (Builtin.SmallTypes.ownedTupleHandOut (.ref z) (.ref g5.objs.size) >>= _) _ _ _
 refine wpAny_bind ?_
 unfold Builtin.SmallTypes.ownedTupleHandOut
 have z6:IsZip (g5.push { cls:=.type "tuple",data:=.seq #[x,y] }) z TI TO .ellipsis:=Heap.get?_push_of_some _ z5
 refine wpAny_bind (wpAny_setField_rec z6 (by simp) fun g7 z7 s7=>?_)
 replace z7:IsZip g7 z TI TO (rawInt g5.objs.size):=z7
 refine wpAny_setField_rec z7 (by simp) fun g8 z8 s8=>?_
 replace z8:IsZip g8 z TI TO (rawInt g5.objs.size):=z8
 have up:∀ c o,c≠z→g5.get? c=some o→g8.get? c=some o:=fun c o c1 e=>s8.extBut _ _ c1 (s7.extBut _ _ c1 (Heap.get?_push_of_some _ e))
 have t8:IsPair g8 g5.objs.size x y:=s8.extBut _ _ (Nat.ne_of_gt zlt) (s7.extBut _ _ (Nat.ne_of_gt zlt) (Heap.get?_push_size _ rfl))
 rw [sz] at z8 t8
 refine wpAny_pure ⟨_,rfl,?_⟩
 show Q (.ref g5.objs.size) _
 rw [sz]
 exact hQ x y g8 _ px py z8 (up _ _ ap.zTO.symm o5) (D1.frame _ _ _ st1 fun b hb o e=>up b o (fun q=>ap.z1 (q ▸ hb)) e) (D2.frame _ _ _ st2' fun b hb o e=>up b o (fun q=>ap.z2 (q ▸ hb)) e) t8 fun c o c1 c2 c3 c4 e=>up c o c1 (k5 c o c1 c2 c3 c4 e)
/-- both end together, or the first one ahead -/
theorem zipD_end {Q:PySem.Fin→Shared→Prop} (D1:Draws prog w A i1 fp1 n1 P1 S1) (ap:ZAp z TI TO i1 i2 fp1 fp2)
  (hz:IsZip s.heap z TI TO .none) (hTI:IsPair s.heap TI (.ref i1) (.ref i2)) (hTO:IsPair s.heap TO a b) (h1:S1 n1 s.heap)
  (hE:∀ h' e,(∀ c o,c≠z→c≠TO→c≠i1→c≠i2→s.heap.get? c=some o→h'.get? c=some o)→(∃ o,h'.get? e=some o∧o.cls=.type "StopIteration")→E (.ref e) { s with heap:=h' }) :
  wpAny (model prog w) A (Builtin.«zip.__next__» ⟨[.ref z],[]⟩) Q E s:=by
 show wpAny _ _ (field (.ref z) 2 >>= _) _ _ _
 refine wpAny_bind (wpAny_field hz rfl (x:=.bool false) rfl ?_)
 show wpAny _ _ (field (.ref z) 3 >>= _) _ _ _
 refine wpAny_bind (wpAny_field hz rfl (x:=.ref TI) rfl ?_)
 refine wpAny_bind (wpAny_seqItems hTI rfl ?_)
 show wpAny _ _ (Builtin.SmallTypes.ownedTupleIsFree (.ref z) >>= _) _ _ _
 refine wpAny_bind ?_
 unfold Builtin.SmallTypes.ownedTupleIsFree
 refine wpAny_bind (wpAny_field hz rfl (x:=.none) rfl (wpAny_pure ?_))
 simp only [if_true]
 refine wpAny_bind (wpAny_rule ?_)
 refine wpAny_bind (wpAny_field hz rfl (x:=.ref TO) rfl ?_)
 refine wpAny_bind (wpAny_setField_rec hz (by simp) fun g1 z1 s1=>?_)
 replace z1:IsZip g1 z TI TO .ellipsis:=z1
 refine wpAny_bind ?_
 simp only [List.zipIdx_cons,List.zipIdx_nil,List.forIn_cons,List.forIn_nil]
 refine wpAny_bind (wpAny_bind (wpAny_onRaise ?_))
 show wpAny _ _ (Builtin.SmallTypes.nextOf (.ref i1) >>= _) _ _ _
 refine wpAny_bind (D1.done _ _ _ (D1.frame _ _ _ h1 fun b hb o e=>s1.extBut b o (fun q=>ap.z1 (q ▸ hb)) e) fun g2 e s2 he=>?_)
 obtain ⟨oe,hoe,hce⟩:=he
 have z2:IsZip g2 z TI TO .ellipsis:=s2 _ _ ap.zi1 z1
 have ez:e≠z:=fun q=>by subst q;rw [z2] at hoe;cases hoe;simp at hce
 exact wpAny_setField_rec z2 (by simp) fun g3 _ s3=>hE g3 e (fun c o c1 _ c3 _ q=>s3.extBut _ _ c1 (s2 _ _ c3 (s1.extBut _ _ c1 q))) ⟨oe,s3.extBut _ _ ez hoe,hce⟩
end
theorem zip_new_sq (k1 k2:Bool) (l1 l2:Addr) (xs ys:Array Value) :
  Meets (Builtin.«zip.__new__» ⟨[.type "zip",.ref l1,.ref l2],[]⟩) (fun _ R s=>SqOf k1 s.heap l1 xs∧SqOf k2 s.heap l2 ys ∧
   ∀ (g1 g2 g3 g4 g5:Heap),g1=s.heap.push { cls:=.type (itName k1),data:=.fields #[.ref l1,.int 0 0] }→g2=g1.push { cls:=.type (itName k2),data:=.fields #[.ref l2,.int 0 0] } →
    g3=g2.push { cls:=.type "tuple",data:=.seq #[.ref s.heap.objs.size,.ref g1.objs.size] }→g4=g3.push { cls:=.type "tuple",data:=.seq #[.none,.none] } →
    g5=g4.push { cls:=.type "zip",data:=.fields #[.none,.bool false,.bool false,.ref g2.objs.size,.ref g3.objs.size] }→R (.ok (.ret (.ref g4.objs.size))) { s with heap:=g5 }) :=
 .of_wp fun prog w A R s h=>by
  obtain ⟨hp,g,d,tk,os⟩:=s;obtain ⟨hl1,hl2,h⟩:=h
  have hsub:=sub_zip
  have hL1:SqOf k1 (Shared.heap ⟨hp,g,d,tk,os⟩) l1 xs:=hl1
  have hL2:SqOf k2 (Shared.heap ⟨hp.push { cls:=.type (itName k1),data:=.fields #[.ref l1,.int 0 0] },g,d,tk,os⟩) l2 ys:=hl2.at fun o e=>Heap.get?_push_of_some _ e
  have h:=h _ _ _ _ _ rfl rfl rfl rfl rfl
  wp_walk using iter_sq hL1,iter_sq hL2
  exact ⟨_,rfl,h⟩
end L2
set_option Elab.async false
set_option linter.all false
set_option maxRecDepth 100000
set_option maxHeartbeats 4000000
namespace L2
open PySem PySem.Spec PyProof.Rows
section
variable {prog:Program} {w:World} {A:Around} {E:Value→Shared→Prop} {s:Shared}
theorem call_zip_sq {k1 k2:Bool} {l1 l2:Addr} {xs ys:Array Value} {Q:Value→Shared→Prop} (h1:SqOf k1 s.heap l1 xs) (h2:SqOf k2 s.heap l2 ys)
  (h:∀ h',IsZip h' (s.heap.objs.size+4) (s.heap.objs.size+2) (s.heap.objs.size+3) .none→IsPair h' (s.heap.objs.size+2) (.ref s.heap.objs.size) (.ref (s.heap.objs.size+1)) →
   IsPair h' (s.heap.objs.size+3) .none .none→ItOf k1 h' s.heap.objs.size l1 0→ItOf k2 h' (s.heap.objs.size+1) l2 0→(∀ c o,s.heap.get? c=some o→h'.get? c=some o)→Q (.ref (s.heap.objs.size+4)) { s with heap:=h' }) :
  wpAny (model prog w) A (call (.type "zip") [.ref l1,.ref l2]) Q E s:=by
 refine callType_new F.called_zip (by decide) (F.typeCall_zip_2 _ _) (F.newCall_zip_2 _ _) (fun obj=>F.args_object_init_3 obj _ _) F.entry_zip_new (zip_new_sq k1 k2 l1 l2 xs ys) ⟨h1,h2,?_⟩
 intro g1 g2 g3 g4 g5 e1 e2 e3 e4 e5
 have z1:g1.objs.size=s.heap.objs.size+1:=by rw [e1];exact Heap.size_push ..
 have z2:g2.objs.size=s.heap.objs.size+2:=by rw [e2,Heap.size_push,z1]
 have z3:g3.objs.size=s.heap.objs.size+3:=by rw [e3,Heap.size_push,z2]
 have z4:g4.objs.size=s.heap.objs.size+4:=by rw [e4,Heap.size_push,z3]
 have u1:∀ c o,s.heap.get? c=some o→g1.get? c=some o:=fun c o e=>by rw [e1];exact Heap.get?_push_of_some _ e
 have u2:∀ c o,g1.get? c=some o→g2.get? c=some o:=fun c o e=>by rw [e2];exact Heap.get?_push_of_some _ e
 have u3:∀ c o,g2.get? c=some o→g3.get? c=some o:=fun c o e=>by rw [e3];exact Heap.get?_push_of_some _ e
 have u4:∀ c o,g3.get? c=some o→g4.get? c=some o:=fun c o e=>by rw [e4];exact Heap.get?_push_of_some _ e
 have u5:∀ c o,g4.get? c=some o→g5.get? c=some o:=fun c o e=>by rw [e5];exact Heap.get?_push_of_some _ e
 have b5:IsZip g5 g4.objs.size g2.objs.size g3.objs.size .none:=by rw [e5];exact Heap.get?_push_size _ rfl
 have b4:IsPair g5 g3.objs.size .none .none:=u5 _ _ (by rw [e4];exact Heap.get?_push_size _ rfl)
 have b3:IsPair g5 g2.objs.size (.ref s.heap.objs.size) (.ref g1.objs.size):=u5 _ _ (u4 _ _ (by rw [e3];exact Heap.get?_push_size _ rfl))
 have i1:ItOf k1 g5 s.heap.objs.size l1 0:=ItOf.at (h:=g1) (by rw [e1];exact ItOf.new k1 s.heap l1) fun o e=>u5 _ _ (u4 _ _ (u3 _ _ (u2 _ _ e)))
 have i2:ItOf k2 g5 g1.objs.size l2 0:=ItOf.at (h:=g2) (by rw [e2];exact ItOf.new k2 g1 l2) fun o e=>u5 _ _ (u4 _ _ (u3 _ _ e))
 show _∧_
 rw [z2,z3,z4] at b5
 rw [z1,z2] at b3
 rw [z3] at b4
 rw [z1] at i2
 rw [z4]
 exact ⟨⟨_,b5,rfl⟩,h _ b5 b3 b4 i1 i2 fun c o x=>u5 _ _ (u4 _ _ (u3 _ _ (u2 _ _ (u1 _ _ x))))⟩
end
theorem zap (n a b:Nat) (ha:a<n) (hb:b<n):ZAp (n+4) (n+2) (n+3) n (n+1) [n,a] [n+1,b]:=by
 have q:∀ {x y u:Nat},x≠y→x≠u→¬ x∈[y,u]:=fun h1 h2 h3=>by
  rcases List.mem_cons.mp h3 with e | e
  ·exact h1 e
  ·exact h2 (List.mem_singleton.mp e)
 have d:∀ {x y:Nat},x<y→y≠x:=fun h=>Nat.ne_of_gt h
 have e:∀ {x y:Nat},x<y→x≠y:=fun h=>Nat.ne_of_lt h
 exact ⟨d (by omega),d (by omega),d (by omega),d (by omega),d (by omega),d (by omega),e (by omega),e (by omega),d (by omega),d (by omega),
  q (d (by omega)) (d (by omega)),q (d (by omega)) (d (by omega)),q (d (by omega)) (d (by omega)),q (d (by omega)) (d (by omega)),q (d (by omega)) (d (by omega)),q (e (by omega)) (d (by omega))⟩
section
variable {X:Cx}
end
end L2
set_option Elab.async false
set_option linter.all false
set_option maxRecDepth 100000
set_option maxHeartbeats 4000000
namespace L2
open PySem PySem.Spec PyProof.Rows
section
variable {X:Cx} {tg iter el:Expr} {ifs:List Expr} {sc:Scope} {pos py spos:Pos} {Nc:List Str} {js:List (Option Nat)} {wi:TI} {i:Nat} {y:Str}
/-- name = [el for tg in iter if ..], the name a local one: it is stored ahead of the block's end -/
theorem ps_lc1x {g:TG} {bd:Addr→TB} (hx:X.xe=fun _ _=>False) (hc:X.calm=true) (hN:X.N.Nodup) (hiN:X.N[i]?=some y) (hy:Loc X.env.scope y) (hi:PI X tg iter wi) (S:CS sc X.env.scope) (cap:capOk js Nc X.N sc.names=true)
  (hg:∀ C s₂ H₂ fp pins,PG (cxC X Nc sc C s₂ H₂ fp pins) tg g)
  (hb:∀ C s₂ H₂ fp pins D L,PTl (cxC X Nc sc C s₂ H₂ fp pins) (tailOf ifs (cxC X Nc sc C s₂ H₂ fp pins).env (do let _ ←call (.builtin "list.append") [.ref D,←eval el (cxC X Nc sc C s₂ H₂ fp pins).env]) L) L (bd D))
  (hs:∀ x,foldedSetIterable iter X.env x=pure x:=by intro _;rfl)
  (hsw:swapsWith (.ListComp el [⟨tg,iter,ifs,0⟩] sc pos) (some (.Name y py)) spos.line X.env=pure true:=by rfl)
  (hf:X.fn y=true∨X.env.scope.names.lookup y=some .local:=by first | exact .inl rfl | exact .inr rfl | assumption) :
  PS X (.Assign [.Name y py] (.ListComp el [⟨tg,iter,ifs,0⟩] sc pos) spos) (tAsg (tLC js wi g bd) (gName i)):=by
 intro pins s σ H D0 I h
 have hcl:closureFor sc X.env=pure (clOf sc X.env):=closure_of fun y hy hf=>I.ok.has y.1 (.inl (S.free y hy hf))
 rw [exec_Assign_Name_used _ _ _ _ hsw]
 refine wpAny_bind (wpAny_standAt (wpAny_bind ?_))
 show wpAny _ X.A (do let _ ←comprehension (.ListComp el [⟨tg,iter,ifs,0⟩] sc pos) sc X.env _ (newList []) false (eval iter X.env) (some (assign (.Name y py) X.env))) _ _ s
 refine wpAny_bind (wpAny_mono (wpAny_comprehension_free (use:=some (assign (.Name y py) X.env)) (Q:=fun _ s'=>SP X pins D0 .next s') rfl hs hcl S.kind S.names
  (thn (hi pins s σ H _ I h) fun v s1 h1=>thn h1 fun itv s2 h2=>?_)) (fun _ s' hq=>wpAny_pure (wpAny_pure hq)) fun _ _ e=>e)
 obtain ⟨it,fp,tn,J,H2,e,I2,T,st2,f2,hw⟩:=h2
 subst e
 have hlt:∀ b∈fp,b<s2.heap.objs.size:=fun b hb=>let ⟨o,ho,_⟩:=T.obj _ _ st2 b hb;Heap.lt_size ho
 refine wpAny_newObj_type (wpAny_newFunctionEnv S.nocell (by intro y hy;simp at hy) (fun h₁ hns₁ hsb₁=>?_) S.kind)
 dsimp only at hns₁ hsb₁ ⊢
 generalize hH2:s2.heap.push { cls:=.type "list",dict:=none,data:=.seq ([]:List Value).toArray }=G at hns₁ hsb₁ ⊢
 have hCs:G.objs.size=s2.heap.objs.size+1:=by rw [←hH2,Heap.size_push]
 have hDC:s2.heap.objs.size≠G.objs.size:=by omega
 have hCle:s2.heap.objs.size≤G.objs.size:=by omega
 have old:∀ b o,s2.heap.get? b=some o→h₁.get? b=some o:=fun b o e=>hsb₁.extBut b o (Nat.ne_of_lt (Nat.lt_of_lt_of_le (Heap.lt_size e) hCle)) (Heap.get?_push_of_some _ (hH2 ▸ Heap.get?_push_of_some _ e))
 have hacc:h₁.get? s2.heap.objs.size=some { cls:=.type "list",dict:=none,data:=.seq ([]:List Value).toArray }:=hsb₁.extBut _ _ hDC (Heap.get?_push_of_some _ (hH2 ▸ Heap.get?_push_size _ rfl))
 have new:ObjOk X.prog X.w (upd H2 s2.heap.objs.size (.lst [])) h₁ s2.heap.objs.size (.lst []):=⟨Nat.zero_le _,[],_,.nil,hacc⟩
 have I4:=inv_comp (js:=js) (Nc:=Nc) (tk:=s2.toks+([]:List (Str×Value)).length) I2 S f2 hlt cap hCle (Nat.le_refl _) hDC old hns₁ new
 have hn:H2 s2.heap.objs.size=none:=I2.fresh
 have f4:∀ b∈fp,FpOk (cxC X Nc sc G.objs.size s2 H2 fp pins) [] (upd H2 s2.heap.objs.size (.lst [])) b:=fun b hb=>by
  obtain ⟨h0,h1,h2,h3,h4,h5⟩:=f2 b hb
  refine ⟨?_,Nat.ne_of_lt (Nat.lt_of_lt_of_le (hlt b hb) hCle),fun z=>?_,.inl hb,fun x c z=>?_,fun p hp=>?_⟩
  ·rw [upd_ne (Nat.ne_of_lt (hlt b hb))];exact h0
  ·rcases List.mem_cons.mp (I2.stkSub b z) with q | q
   ·exact h1 q
   ·exact h2 q
  ·exact h4 x c (cl_in sc.names [] (fun z=>nomatch z) z)
  ·rcases List.mem_append.mp hp with z | z
   ·exact h5 p z
   ·exact absurd z (by simp)
 have st4:tn 0 h₁:=T.keep _ _ _ st2 fun b hb o e=>old b o e
 have loop:codeAny (model X.prog X.w) X.A (.compLoop (.ListComp el [⟨tg,iter,ifs,0⟩] sc pos) 0 (.ref it) (.ref s2.heap.objs.size) (compEnvC sc (clOf sc X.env) G.objs.size X.env))
   (compPost (model X.prog X.w) X.A X.xe (some (assign (.Name y py) X.env)) (fun _ s'=>SP X pins D0 .next s') (.ref s2.heap.objs.size) G.objs.size) { s2 with heap:=h₁,toks:=s2.toks+([]:List (Str×Value)).length }:=by
  refine comp_loop (X:=cxC X Nc sc G.objs.size s2 H2 fp pins) (.inl ⟨el,rfl⟩) hx hc (turn_l1 _ _ _ _ _ _ _ _ _) T (hg _ _ _ _ _) (hb _ _ _ _ _ _ _) I4 st4 f4 (hw _ hn) fun σ' H' s' I' q=>?_
  obtain ⟨m',hm',_⟩:=I'.loc
  have IB:Inv X pins σ H' { s' with heap:=s'.heap }:=inv_back I2 f2 hCle I' (Heap.SameBut.refl ..)
  have nC:H' G.objs.size=none:=I'.free
  have fC:FpOk X pins H' G.objs.size:=I2.fpOk hCle nC
  show wpAny _ X.A (assign (.Name y py) X.env (.ref s2.heap.objs.size)) _ _ s'
  refine wpAny_assign_Name (store_ok2 (v:=.ref s2.heap.objs.size) IB hN hiN hy rfl (fun s'' IC hsb=>?_) hf)
  obtain ⟨a,sb,ha⟩:=hsb
  have aC:G.objs.size≠a:=by
   rcases ha with rfl | ha
   ·exact fC.2.1
   ·exact fun z=>fC.2.2.2.2.1 y a ha z.symm
  refine ⟨m',hm'.sameBut sb aC,fun h' hs'=>?_⟩
  exact ⟨_,H',IC.turnedL (t':=s''.toks) (ch:=[G.objs.size]) (fun b o hb' e=>hs'.extBut b o (fun z=>hb' (by simp [z])) e) (fun b hb'=>by rw [List.mem_singleton.mp hb'];exact fC),q⟩
 exact comp_start (.inl ⟨el,rfl⟩) rfl rfl loop (T.self _ _ _ _ _ st4 loop)
end
theorem for_enum {k:Bool} {K:PySem.W.Frag} {a:Addr} {xs:List V} {g:TG} {tb:TS} {D:Ends} {σ:St} {H:Hp} (Pv:Nat→St→Hp→Prop) (h0:Pv 0 σ H) (hl:∀ i σ H,i≤xs.length→Pv i σ H→SqX K k H a xs)
  (hs:∀ i x T σ H,xs[i]?=some x→H T=none→Pv i σ H→g (.ref T) σ (upd H T (.tup [.int i,x])) fun σ2 H2=>tb { D with nx:=Pv (i+1),ct:=Pv (i+1),bk:=D.nx } σ2 H2) (hd:∀ σ H,Pv xs.length σ H→D.nx σ H) :
  ∃ W:Nat→Nat→St→Hp→Prop,(∃ m,W 0 m σ H)∧∀ i m σ H,W i m σ H →
   ((Ite k K a).stop i H∧D.nx σ H)∨((Ite k K a).go i H∧∃ N:St→Hp→Prop,(∀ σ' H',N σ' H'→∃ m',m'<m∧W (i+1) m' σ' H')∧∀ x H',(Ite k K a).yld i H x H'→g x σ H' fun σ2 H2=>tb { D with nx:=N,ct:=N,bk:=D.nx } σ2 H2):=by
 refine ⟨fun i m σ H=>m=xs.length-i∧i≤xs.length∧Pv i σ H,⟨xs.length,by simp,Nat.zero_le _,h0⟩,?_⟩
 rintro i m σ H ⟨rfl,hle,p⟩
 have q1:=hl i σ H hle p
 by_cases hi:i<xs.length
 ·refine .inr ⟨⟨xs,xs[i],q1,by simp [hi]⟩,Pv (i+1),fun σ' H' q=>⟨xs.length-(i+1),by omega,rfl,by omega,q⟩,fun x H' hy=>?_⟩
  obtain ⟨T,x1,nT,rfl,e1,rfl⟩:=hy
  exact hs i x1 T σ H (e1 xs q1) nT p
 ·have:i=xs.length:=by omega
  subst this
  exact .inl ⟨⟨xs,q1,rfl⟩,hd σ H p⟩
end L2
set_option Elab.async false
set_option linter.all false
set_option maxRecDepth 100000
set_option maxHeartbeats 4000000
namespace L2
open PySem PySem.Spec PyProof.Rows
section
variable {X:Cx}
end
end L2
set_option Elab.async false
set_option linter.all false
set_option maxRecDepth 100000
set_option maxHeartbeats 4000000
namespace L2
open PySem PySem.Spec PyProof.Rows
section
variable {X:Cx}
inductive call_minLY (K:PySem.W.Frag) (xs:List V) (H:Hp) (Q:VK):Prop
 | mk:∀ (a:Addr) (ns:List Int),(xs=[.ref a])→(SqL K H a (ns.map V.int))→(0<ns.length)→(∀ M,M∈ns→(∀ i∈ns,M≤i)→Q (.int M) H)→call_minLY K xs H Q
theorem call_minL (hc:X.calm=true):CallR X (.builtin "min") (call_minLY X.K):=by
 intro pins s σ H xs us Q I r h
 obtain ⟨a,ns,rfl,hS,hne,q⟩:=h
 obtain ⟨u,rfl,r1⟩:=vals1 r
 cases r1
 obtain ⟨its,rv,ht,hz⟩:=I.list hS
 have hi:=ints_of rv
 obtain ⟨xs,e⟩:=hi.allInts.items
 have hns:ns=xs.toList.map (·.1):=by rw [←hi.numsOf,←nums_intItems,←e]
 have hsz:0<xs.size:=by
  have h3:=hne;rw [hns,List.length_map,Array.length_toList] at h3;exact h3
 have hl:=ht.isList
 rw [e] at hl
 refine min_intList (I.ok.hd hc) hl hsz fun v h' tk hv hk=>?_
 obtain ⟨t,rfl⟩:=intItems_at hv
 obtain ⟨h1,h2⟩:=argBest_lt (numAt xs) (xs.size-1)
 refine ⟨.int _,H,I.kept hk,⟨_,rfl⟩,q _ ?_ fun a ha=>?_⟩
 ·rw [hns,numAt_eq];exact getD_mem (by rw [List.length_map,Array.length_toList];omega)
 ·rw [hns] at ha
  obtain ⟨j,hj,rfl⟩:=mem_getD ha
  rw [List.length_map,Array.length_toList] at hj
  rw [←numAt_eq];exact h2 j (by omega)
end
mutual
/-- tuples, ints, truths, texts alone -/
def onlyT:PyData→Bool
 | .none | .bool _ | .int _ | .str _=>true
 | .tuple xs=>onlyTs xs
 | .list _ | .dict _=>false
def onlyTs:List PyData→Bool
 | []=>true
 | x::xs=>onlyT x && onlyTs xs
end
mutual
theorem reads_no {h:Heap}:∀ (d:PyData) (u:Value) (as:List Addr),Reads h u d as→onlyT d=true→as=[]
 | .none,_,_,r,_=>by cases r;rfl
 | .bool _,_,_,r,_=>by cases r;rfl
 | .int _,_,_,r,_=>by cases r;rfl
 | .str _,_,_,r,_=>by cases r;rfl
 | .tuple xs,_,_,r,e=>by
  cases r with
  | tuple h1 h2 h3 h4=>exact reads_nos xs _ _ h4 (by simpa [onlyT] using e)
 | .list _,_,_,_,e=>by simp [onlyT] at e
 | .dict _,_,_,_,e=>by simp [onlyT] at e
theorem reads_nos {h:Heap}:∀ (ds:List PyData) (us:List Value) (as:List Addr),ReadsAll h us ds as→onlyTs ds=true→as=[]
 | [],_,_,r,_=>by cases r;rfl
 | d::ds,_,_,r,e=>by
  have e':onlyT d=true∧onlyTs ds=true:=by simpa [onlyTs] using e
  cases r with
  | cons r1 r2=>rw [reads_no d _ _ r1 e'.1,reads_nos ds _ _ r2 e'.2];rfl
end
section
variable {X:Cx}
def DtS (X:Cx) (H:Hp) (d:PyData) (v:V):Prop:=∀ (pins:List (Addr×Obj)) (s:Shared) (σ:St) (u:Value),Inv X pins σ H s→RelV v u→∃ as,Reads s.heap u d as∧sysModules∉as
theorem DtS.of {H:Hp} {d:PyData} {v:V} (h:Dt X.K H d v) (o:onlyT d=true):DtS X H d v:=fun pins s σ u I r=>by
 obtain ⟨as,q⟩:=Dt.reads I d v u r h
 rw [reads_no d u as q o] at q
 exact ⟨[],q,by simp⟩
theorem DtS.pair {H:Hp} {a:Addr} {d e:PyData} {x y:V} (h:H a=some (.tup [x,y])) (h1:DtS X H d x) (h2:DtS X H e y):DtS X H (.tuple [d,e]) (.ref a):=fun pins s σ u I r=>by
 cases r
 obtain ⟨its,rv,⟨o,e1,e2,n,e3⟩,hz⟩:=I.tuple (SqT.of (K:=X.K) h)
 cases rv with
 | cons r1 rr =>
  cases rr with
  | cons r2 rr =>
   cases rr
   obtain ⟨as,q1,w1⟩:=h1 pins s σ _ I r1
   obtain ⟨bs,q2,w2⟩:=h2 pins s σ _ I r2
   refine ⟨_,.tuple e1 e2 e3 (by simpa using ReadsAll.cons q1 (ReadsAll.cons q2 .nil)),?_⟩
   simp [w1,w2]
/-- a table from tuples of ints to ints -/
def kvD (p:List Int×Int):PyData×PyData:=(.tuple (p.1.map PyData.int),.int p.2)
theorem dt_ints {H:Hp} {P:Program} {w:World} {h:Heap} {b:Addr} {k:List Int} (ok:HOk P w H h) (e:H b=some (.tup (k.map V.int))):Reads h (.ref b) (.tuple (k.map PyData.int)) []:=by
 obtain ⟨z,its,rv,⟨o,e1,e2,n,e3,_⟩⟩:=(show ObjOk P w H h b (.tup (k.map V.int)) from ok b _ e)
 refine .tuple e1 e2 e3 ?_
 have:∀ (k:List Int) (its:List Value),Vals (k.map V.int) its→ReadsAll h its (k.map PyData.int) []:=fun k=>by
  induction k with
  | nil=>intro its r;cases r;exact .nil
  | cons i k ih =>
   intro its r
   cases r with
   | cons r1 r2 =>
    obtain ⟨t,rfl⟩:=r1
    exact ReadsAll.cons (.int i t) (ih _ r2)
 simpa using this k its rv
def kvV (p:List Int×Int):List Key×V:=(p.1.map Sum.inl,.int p.2)
theorem kv_key (k:List Int):(k.map (Sum.inl (α:=Int) (β:=Str))).map kV=k.map V.int:=by
 rw [List.map_map]
 rfl
theorem DtS.table {H:Hp} {a:Addr} {ps:List (List Int×Int)} (h:H a=some (.dT (ps.map kvV))):DtS X H (.dict (ps.map kvD)) (.ref a):=fun pins s σ u I r=>by
 cases r
 obtain ⟨z,y,xs,pr,o,es,ep,h1,h2,h3,h4,h5⟩:=(show ObjOk X.prog X.w H s.heap a (.dT (ps.map kvV)) from I.hok a _ h)
 have key:∀ (ps:List (List Int×Int)) (xs:List (List Key×Addr×Value)),Paired (fun (p:List Key×V) (q:List Key×Addr×Value)=>p.1=q.1∧H q.2.1=some (.tup (p.1.map kV))∧RelV p.2 q.2.2) (ps.map kvV) xs →
   ReadsAll s.heap ((xs.map (entryOfKey (tupleKind (mixKind X.prog X.w)))).map (·.key)) ((ps.map kvD).map (·.1)) []∧ReadsAll s.heap ((xs.map (entryOfKey (tupleKind (mixKind X.prog X.w)))).map (·.val)) ((ps.map kvD).map (·.2)) []:=fun ps=>by
  induction ps with
  | nil=>intro xs r;cases r;exact ⟨.nil,.nil⟩
  | cons p ps ih =>
   intro xs r
   cases r with
   | cons r1 r2 =>
    obtain ⟨e1,e2,e3⟩:=r1
    obtain ⟨i1,i2⟩:=ih _ r2
    have e2':=e2
    rw [show (kvV p).1.map kV=p.1.map V.int from kv_key p.1] at e2'
    obtain ⟨t,et⟩:=e3
    have hv:∀ {q:List Key×Addr×Value},q.2.2=Value.int p.2 t→Reads s.heap (entryOfKey (tupleKind (mixKind X.prog X.w)) q).val (.int p.2) []:=fun {q} z=>by
     show Reads s.heap q.2.2 (.int p.2) []
     rw [z];exact .int _ _
    exact ⟨ReadsAll.cons (as:=[]) (bs:=[]) (dt_ints I.hok e2') i1,ReadsAll.cons (as:=[]) (bs:=[]) (hv et) i2⟩
 obtain ⟨k1,k2⟩:=key ps xs pr
 have hcls:o.cls=.type "dict":=h2.1
 refine ⟨a::[]++[],.dict h1 hcls h3 (by rw [h4];exact k1) (by rw [h4];exact k2),?_⟩
 intro w
 have e:sysModules=a:=by simpa using w
 rw [e] at y
 simp at y
end
end L2
set_option Elab.async false
set_option linter.all false
set_option maxRecDepth 100000
set_option maxHeartbeats 4000000
namespace L2
open PySem PySem.Spec PyProof.Rows
section
variable {X:Cx} {tg iter el tg2 iter2:Expr} {ifs ifs2:List Expr} {sc:Scope} {pos:Pos} {Nc:List Str} {js:List (Option Nat)} {wi wi2:TI} {g g2:TG}
end
end L2
set_option Elab.async false
set_option linter.all false
set_option maxRecDepth 100000
set_option maxHeartbeats 4000000
namespace L2
open PySem PySem.Spec PyProof.Rows
open AutoSeq1 (wpAny_loadPart')
section
variable {X:Cx}
end
end L2
set_option linter.all false
set_option maxRecDepth 100000
namespace L2
open PySem PySem.Spec PyProof.Rows
theorem sc_mk {N P:List Str} {sc:Scope} (a:sc.kind=.function:=by rfl) (b:sc.isCoroutine=false:=by rfl) (c:sc.isGenerator=false:=by rfl) (d:N.Nodup:=by decide +kernel) (e:N.take P.length=P:=by rfl)
  (g:∀ x∈P,sc.names.lookup x=some .local∨sc.names.lookup x=some .cell:=by decide +kernel) (h:∀ y∈sc.names,y.2≠.free:=by decide +kernel):FnScope N P sc:=⟨a,b,c,d,e,g,h⟩
theorem len0 {α:Type} {us:List α} (h:us.length=0):us=[]:=List.length_eq_zero_iff.mp h
theorem lenS {α:Type} {us:List α} {n:Nat} (h:us.length=n+1):∃ a r,us=a::r∧r.length=n:=by
 cases us with
 | nil=>exact nomatch h
 | cons a r=>exact ⟨a,r,rfl,Nat.succ.inj h⟩
theorem len1 {α:Type} {us:List α} (h:us.length=1):∃ a,us=[a]:=by
 obtain ⟨a,r,rfl,g⟩:=lenS h
 exact ⟨a,by rw [len0 g]⟩
theorem len2 {α:Type} {us:List α} (h:us.length=2):∃ a b,us=[a,b]:=by
 obtain ⟨a,r,rfl,g⟩:=lenS h
 obtain ⟨b,rfl⟩:=len1 g
 exact ⟨a,b,rfl⟩
theorem len3 {α:Type} {us:List α} (h:us.length=3):∃ a b c,us=[a,b,c]:=by
 obtain ⟨a,r,rfl,g⟩:=lenS h
 obtain ⟨b,c,rfl⟩:=len2 g
 exact ⟨a,b,c,rfl⟩
theorem len4 {α:Type} {us:List α} (h:us.length=4):∃ a b c d,us=[a,b,c,d]:=by
 obtain ⟨a,r,rfl,g⟩:=lenS h
 obtain ⟨b,c,d,rfl⟩:=len3 g
 exact ⟨a,b,c,d,rfl⟩
theorem len5 {α:Type} {us:List α} (h:us.length=5):∃ a b c d e,us=[a,b,c,d,e]:=by
 obtain ⟨a,r,rfl,g⟩:=lenS h
 obtain ⟨b,c,d,e,rfl⟩:=len4 g
 exact ⟨a,b,c,d,e,rfl⟩
section
variable {P:Program} {w:World} {K:PySem.W.Frag} {mg:Str→Option Value} {base:Heap}
theorem hs_of {n:Str} {st:Stmt} {N ps:List Str} {k:Nat} {sp:Sp} (X:∃ h:Heap,K.In h∧h.Ns mainGlobals mg) (d:DfAt K n st) (S:FnScope N ps (defScope st))
  (hbody:∀ (f:Addr) (cdv:Value) (A:Around) (outer:List Env) (s:Shared) (H:Hp) (vs:List V) (Q:VK) (E:XK),N.Nodup→Room k (A.deeper (envOfC n (defScope st) s.heap.objs.size f cdv))→sp vs H Q E →
   ∃ t,PSs (cxOf CX0 P w K mg base N n (defScope st) f cdv A outer s H E).nox (defBody st) t∧t { nx:=fun _ H'=>Q .non H',rt:=Q } (start N vs) H)
  (len:∀ vs H Q E,sp vs H Q E→vs.length=ps.length:=by intro _ _ _ _ h;first | (cases h;subst_vars;rfl) | (rcases h with h | h<;>cases h<;>subst_vars<;>rfl))
  (b:∀ (kV doc pm:Value) (an:Option Addr) (cdv ct:Value) (us:List Value),us.length=ps.length→bindArgs (PySem.W.fnOf n n (defArgs st) (defBody st) (defScope st) .none kV doc pm an cdv ct) ⟨us,[]⟩=pure (ps.zip us):=by
   intro _ _ _ _ _ _ us hl;first | (obtain ⟨_,rfl⟩:=len1 hl;rfl) | (obtain ⟨_,_,rfl⟩:=len2 hl;rfl) | (obtain ⟨_,_,_,rfl⟩:=len3 hl;rfl) | (obtain ⟨_,_,_,_,rfl⟩:=len4 hl;rfl) | (obtain ⟨_,_,_,_,_,rfl⟩:=len5 hl;rfl) | (obtain rfl:=len0 hl;rfl)):Own.Has P w K mg base n ps (k+1) sp:=by
 obtain ⟨h,x,g⟩:=X
 exact has_mk x g d (fun f fd F=>F.ok S len fun cdv A outer s H vs Q E=>hbody f cdv A outer s H vs Q E S.nd) b
end
inductive spLaw (K:PySem.W.Frag) (vs:List V) (H:Hp) (Q:VK) (E:XK):Prop
 | mk (a:Addr) (ns:List Int):vs=[.ref a]→SqL K H a (ns.map V.int)→ns.length≤63→(∀ H',Q (.bl true) H')→spLaw K vs H Q E
structure Cn where
 P:Program
 w:World
 K:PySem.W.Frag
 mg:Str→Option Value
 base:Heap
instance:Nonempty Cn:=⟨⟨default,⟨fun _ _=>0,{ strHash:=fun _=>0,shareClass:=id,mergeTok:=id,idOf:=fun _=>0,idOfShared:=fun _ _=>0,followText:=fun _=>true,idOfImm:=fun _=>0 }⟩,default,fun _=>none,default⟩⟩
section
variable {X:Cx} {e:Expr} {es:List Expr} {te:TE} {t:TA} {p pos pos':Pos} {x:Str}
theorem pf {j k:Nat} {ps:List Str} {sp:Sp} (h:Own.Has X.prog X.w X.K X.mg X.base x ps j sp) (hr:Room k X.A) (ha:PA X (e::es) t) (hj:j≤k:=by decide) (hg:Gl X x:=by rfl)
  (hdb:(x == ("__debug__" : Str))=false:=by decide) (he:starEach (e::es) X.env=(false,eval e X.env)::starEach es X.env:=by rfl) (hpl:(backTo pos (starEach es X.env)).any (·.1)=false:=by rfl) :
  PE X (.Call (.Name x p) (e::es) [] pos) (tCall sp [] E0 t):=Own.pe_has h (hr.mono hj) hg ha hdb he hpl
theorem pst (i:Nat) (hN:X.N.Nodup) (he:PE X e te) (hi:X.N[i]?=some x:=by rfl) (hx:Loc X.env.scope x:=by first | exact Or.inl rfl | exact Or.inr rfl) (hs:swapsWith e (some (.Name x pos')) pos.line X.env=pure false:=by rfl)
  (hf:X.fn x=true∨X.env.scope.names.lookup x=some .local:=by first | exact .inl rfl | exact .inr rfl):PS X (.Assign [.Name x pos'] e pos) (tAsg te (gName i)):=ps_set hN hi hx he hs hf
theorem pgn (i:Nat) (hN:X.N.Nodup) (hi:X.N[i]?=some x:=by rfl) (hx:Loc X.env.scope x:=by first | exact Or.inl rfl | exact Or.inr rfl) (hf:X.fn x=true∨X.env.scope.names.lookup x=some .local:=by first | exact .inl rfl | exact .inr rfl):PG X (.Name x pos) (gName i):=pg_name hN hi hx hf
theorem pfor {tg iter:Expr} {body:List Stmt} {wi:TI} {g:TG} {tb:TS} (hi:PI X tg iter wi) (hg:PG X tg g) (hb:PSs X body tb) (hp:PassesOwn (model X.prog X.w) X.A X.env X.xe:=by exact PassesOwn.never) (hc:X.calm=true:=by rfl)
  (hs:∀ x,foldedSetIterable iter X.env x=pure x:=by intro _;rfl):PS X (.For tg iter body [] pos) (tFor wi g tb):=ps_for hp hc hi hg hb hs
variable {a b c d:Expr} {ta tb tc td:TE}
theorem pix {r:R2} (hr:IxR X r) (ha:PE X a ta) (hb:PE X b tb) (hs:PlainIx b:=by exact fun _ _=>rfl):PE X (.Subscript a b pos) (tOp r ta tb):=pe_ix hr ha hb hs
theorem p1 (ha:PE X a ta) (h1:starEach [a] X.env=(false,eval a X.env)::starEach [] X.env:=by rfl):PA X [a] (tCons ta tNil):=pa_cons ha pa_nil h1
theorem p2 (ha:PE X a ta) (hb:PE X b tb) (h1:starEach [a,b] X.env=(false,eval a X.env)::starEach [b] X.env:=by rfl) (h2:starEach [b] X.env=(false,eval b X.env)::starEach [] X.env:=by rfl):PA X [a,b] (tCons ta (tCons tb tNil)):=pa_cons ha (pa_cons hb pa_nil h2) h1
theorem nd1 {a:Str}:[a].Nodup:=List.nodup_cons.mpr ⟨List.not_mem_nil,List.nodup_nil⟩
theorem nd2 {a b:Str} (h:a≠b):[a,b].Nodup:=List.nodup_cons.mpr ⟨fun m=>h (List.mem_singleton.mp m),nd1⟩
theorem nd3 {a b c:Str} (h:a≠b) (h':a≠c) (h2:b≠c):[a,b,c].Nodup:=List.nodup_cons.mpr ⟨fun m=>(List.mem_cons.mp m).elim h fun m=>h' (List.mem_singleton.mp m),nd2 h2⟩
/-- a target of a comprehension -/
theorem pgc (i:Nat) (hN:X.N.Nodup:=by first | exact nd1 | exact nd2 (by decide) | exact nd3 (by decide) (by decide) (by decide)) (hi:X.N[i]?=some x:=by rfl) (hx:Loc X.env.scope x:=by first | exact Or.inl rfl | exact Or.inr rfl) (hf:X.fn x=true∨X.env.scope.names.lookup x=some .local:=by first | exact .inl rfl | exact .inr rfl):PG X (.Name x pos) (gName i):=pg_name hN hi hx hf
section
variable {o:Expr} {to:TE} {r:V→List V→Hp→VK→Prop} {apos cpos:Pos}
theorem m_list {n:Str} {id:String} (slot:Slot "list" n id) (hty:typeOf (.builtin id)=pure (.type "method_descriptor")) (hm:MtR X id r) (ho:PE X o to) (ha:PA X (e::es) t)
  (hbase:attributeBase o n X.env (eval o X.env)=eval o X.env:=by rfl)
  (hfew:((backTo cpos (starEach (e::es) X.env)).all (fun x=>!x.1) && (backToKw cpos (keywordEach [] X.env)).all (fun x=>x.1.isSome)
   && decide ((e::es).length+([]:List Keyword).length+(if ([]:List Keyword).isEmpty then 0 else 1)<30))=true:=by rfl)
  (hline:(apos.endLine == cpos.line)=true:=by rfl) (hs:starEach (e::es) X.env=(false,eval e X.env)::starEach es X.env:=by rfl) (hplain:(backTo cpos (starEach es X.env)).any (·.1)=false:=by rfl) :
  PE X (.Call (.Attribute o n apos) (e::es) [] cpos) (tBM X.K "list" r to t):=pe_bm PySem.F.plainAttrs_list slot hty hm ho ha hbase hfew hline hs hplain
end
end
theorem snoc {α:Type} {xs:List α} {x y:α} {i:Nat} (h:(xs++[x])[i]?=some y):(i<xs.length∧xs[i]?=some y)∨(i=xs.length∧some x=some y):=by
 rcases Nat.lt_or_ge i xs.length with c | c
 ·rw [List.getElem?_append_left c] at h
  exact .inl ⟨c,h⟩
 ·have e:i=xs.length:=by
   have:=(List.getElem?_eq_some_iff.mp h).1
   rw [List.length_append,List.length_singleton] at this
   omega
  rw [e,List.getElem?_concat_length] at h
  exact .inr ⟨e,h⟩
end L2
set_option Elab.async false
set_option linter.all false
set_option maxRecDepth 100000
set_option maxHeartbeats 4000000
namespace L2
open PySem PySem.Spec PyProof.Rows
section
variable {X:Cx} {tg iter kx vx:Expr} {ifs:List Expr} {sc:Scope} {pos:Pos} {Nc:List Str} {js:List (Option Nat)} {wi:TI}
theorem getItem_tuple_all {prog:Program} {w:World} {A:Around} {E:Value→Shared→Prop} {s:Shared} {t sl:Addr} {items:Array Value} {vl vu:Value} {lo hi:Option Int} {Q:Value→Shared→Prop} (ht:IsTup s.heap t items) (hs:s.heap.IsSliceOf sl vl vu .none) (pl:IsPart vl lo) (pu:IsPart vu hi)
  (hw:HT.sIx items.size 0 lo=0∧HT.sIx items.size items.size hi=items.size) (h:Q (.ref t) s):wpAny (model prog w) A (getItem (.ref t) (.ref sl)) Q E s:=by
 obtain ⟨os,hos,hcs,hds⟩:=id hs
 have hTs:s.TypeIs (.ref sl) "slice":=⟨os,hos,hcs⟩
 unfold getItem
 try with_reducible refine wpAny_holding ?_
 first | refine wpAny_bind (wpAny_pure ?_) | skip
 refine wpAny_bind (wpAny_sequenceKey ht.typeIs (by decide) ?_)
 refine wpAny_bind (wpAny_callSpecial?_slot (name:=Str.ofString "__getitem__") ht.typeIs PyProof.Rows.slot_tuple_getitem
  (wpAny_call_entry PyProof.Rows.slot_tuple_getitem ht.typeIs entry_tuple_getitem ?_ (args_tuple_getitem _ _)))
 show wpAny _ _ (Builtin.Tuple.tupleItemsOf (.ref t) >>= _) _ _ s
 refine wpAny_bind (tupleItemsOf_ ht ?_)
 refine wpAny_bind (wpAny_typeOf hTs ?_)
 rw [if_pos (by decide)]
 refine wpAny_bind (HT.sliceApplied_gen hs pl pu ?_)
 show wpAny _ _ (if (((HT.sIx items.size 0 lo:Nat):Int) == 0 && (1:Int) == 1 && (HT.sIx items.size items.size hi-HT.sIx items.size 0 lo) == items.size)=true then _ else _) _ _ s
 rw [if_pos (by rw [hw.1,hw.2];simp)]
 unfold Builtin.Tuple.tupleIsExact
 first
  | refine wpAny_bind (wpAny_bind (wpAny_typeOf ht.typeIs (wpAny_pure ?_)))
  | refine wpAny_bind (wpAny_typeOf ht.typeIs (wpAny_pure ?_))
 rw [if_pos (by decide)]
 exact wpAny_bind (wpAny_rule (wpAny_pure ⟨_,rfl,wpAny_pure h⟩))
/-- t[lo:hi], the whole of it: t itself -/
inductive rSlA (K:PySem.W.Frag) (x:V) (lo:Option Int) (hi:Option Int) (H:Hp) (Q:VK):Prop
 | mk:∀ a xs,(x=.ref a)→(SqT K H a xs)→((HT.sIx xs.length 0 lo=0∧HT.sIx xs.length xs.length hi=xs.length))→(Q (.ref a) H)→rSlA K x lo hi H Q
theorem sl_tupA:SlR X (rSlA X.K):=by
 intro pins s σ H x v vl vu lo hi sl Q I rx hs pl pu h
 obtain ⟨a,xs,rfl,hx,hw,q⟩:=h
 cases rx
 obtain ⟨its,r,ht,hz⟩:=I.tuple hx
 have hlen:its.toArray.size=xs.length:=by rw [List.size_toArray];exact r.length.symm
 refine ⟨"tuple",_,PyProof.Rows.slot_tuple_getitem.lookup,ht.typeIs,?_⟩
 exact getItem_tuple_all ht hs pl pu (by rw [hlen];exact hw) ⟨.ref a,H,I,rfl,q⟩
def rSlB (K:PySem.W.Frag):V→Option Int→Option Int→Hp→VK→Prop:=fun x lo hi H Q=>rSlT K x lo hi H Q∨rSlA K x lo hi H Q
/-- t[lo:hi] -/
theorem sl_tupB:SlR X (rSlB X.K):=sl_tup.or sl_tupA
inductive call_minTY (K:PySem.W.Frag) (xs:List V) (H:Hp) (Q:VK):Prop
 | mk:∀ (a:Addr) (ns:List Int),(xs=[.ref a])→(SqT K H a (ns.map V.int))→(0<ns.length)→(∀ M,M∈ns→(∀ i∈ns,M≤i)→Q (.int M) H)→call_minTY K xs H Q
theorem call_minT (hc:X.calm=true):CallR X (.builtin "min") (call_minTY X.K):=by
 intro pins s σ H xs us Q I r h
 obtain ⟨a,ns,rfl,hS,hne,q⟩:=h
 obtain ⟨u,rfl,r1⟩:=vals1 r
 cases r1
 obtain ⟨its,rv,ht,hz⟩:=I.tuple hS
 have hi:=ints_of rv
 obtain ⟨xs,e⟩:=hi.allInts.items
 have hns:ns=xs.toList.map (·.1):=by rw [←hi.numsOf,←nums_intItems,←e]
 have hsz:0<xs.size:=by
  have h3:=hne;rw [hns,List.length_map,Array.length_toList] at h3;exact h3
 rw [e] at ht
 have ht:s.heap.IsTuple a (intItems xs):=ht
 have isz:(intItems xs).size=xs.size:=by simp [intItems]
 have la:a<s.heap.objs.size:=by obtain ⟨o,ho,_⟩:=ht;exact Heap.lt_size ho
 have hdl:X.A.in1.handled=none:=I.ok.hd hc
 refine call_min_walk (wpAny_pyIter_tuple ht ⟨s.heap.objs.size,[s.heap.objs.size,a],[s.heap.objs.size],(intItems xs).size,(fun i v=>(intItems xs)[i]?=some v),_,_,rfl,
  Walks.tuple hdl _ a (Nat.ne_of_lt la) (intItems xs),⟨?_,?_⟩,?_,(by rw [isz];exact hsz),CmpOf.ints_lt (numAt xs) (fun i v hv=>intItems_at hv),fun v h' tk hv hk=>?_⟩)
 ·exact ⟨_,Heap.get?_push_size _ rfl,rfl,rfl⟩
 ·obtain ⟨o,ho,hr⟩:=ht
  exact ⟨o,Heap.get?_push_of_some _ ho,hr⟩
 ·intro b hb
  show b<(s.heap.push _).objs.size
  rw [Heap.size_push]
  simp only [List.mem_cons,List.not_mem_nil,or_false] at hb
  rcases hb with rfl | rfl
  ·exact Nat.lt_succ_self _
  ·exact Nat.lt_succ_of_lt la
 ·rw [isz] at hv
  obtain ⟨t,rfl⟩:=intItems_at hv
  obtain ⟨h1,h2⟩:=argBest_lt (numAt xs) (xs.size-1)
  refine ⟨.int _,H,I.kept (fun b o ho=>hk b o ?_ (Heap.get?_push_of_some _ ho)),⟨_,rfl⟩,q _ ?_ fun a ha=>?_⟩
  ·intro z
   rw [List.mem_singleton.mp z] at ho
   exact absurd (Heap.lt_size ho) (Nat.lt_irrefl _)
  ·rw [hns,numAt_eq];exact getD_mem (by rw [List.length_map,Array.length_toList];omega)
  ·rw [hns] at ha
   obtain ⟨j,hj,rfl⟩:=mem_getD ha
   rw [List.length_map,Array.length_toList] at hj
   rw [←numAt_eq];exact h2 j (by omega)
end
end L2
set_option Elab.async false
set_option linter.all false
set_option maxRecDepth 100000
set_option maxHeartbeats 4000000
namespace L2
open PySem PySem.Spec PyProof.Rows
section
variable {prog:Program} {w:World} {A:Around} {E:Value→Shared→Prop} {s:Shared} {z TI TO i1 i2:Addr} {fp1 fp2:List Addr} {n1 n2 j:Nat} {P1 P2:Nat→Value→Prop} {S1 S2:Nat→Heap→Prop} {a b:Value}
/-- the second one ends first -/
theorem zipD_end2 {Q:PySem.Fin→Shared→Prop} (D1:Draws prog w A i1 fp1 n1 P1 S1) (D2:Draws prog w A i2 fp2 n2 P2 S2) (ap:ZAp z TI TO i1 i2 fp1 fp2)
  (hz:IsZip s.heap z TI TO .none) (hTI:IsPair s.heap TI (.ref i1) (.ref i2)) (hTO:IsPair s.heap TO a b) (h1:S1 n2 s.heap) (h2:S2 n2 s.heap) (l1:n2<n1)
  (hE:∀ h' e tk,(∀ c o,c≠z→c≠TO→c≠i1→c≠i2→s.heap.get? c=some o→h'.get? c=some o)→(∃ o,h'.get? e=some o∧o.cls=.type "StopIteration")→E (.ref e) { s with heap:=h',toks:=tk }) :
  wpAny (model prog w) A (Builtin.«zip.__next__» ⟨[.ref z],[]⟩) Q E s:=by
 have fr1:∀ {i:Nat} {h h':Heap} {c:Addr},S1 i h→Heap.SameBut c h h'→c∉fp1→S1 i h':=fun st sb hc=>D1.frame _ _ _ st fun b hb o e=>sb.extBut b o (fun q=>hc (q ▸ hb)) e
 have fr2:∀ {i:Nat} {h h':Heap} {c:Addr},S2 i h→Heap.SameBut c h h'→c∉fp2→S2 i h':=fun st sb hc=>D2.frame _ _ _ st fun b hb o e=>sb.extBut b o (fun q=>hc (q ▸ hb)) e
 show wpAny _ _ (field (.ref z) 2 >>= _) _ _ _
 refine wpAny_bind (wpAny_field hz rfl (x:=.bool false) rfl ?_)
 show wpAny _ _ (field (.ref z) 3 >>= _) _ _ _
 refine wpAny_bind (wpAny_field hz rfl (x:=.ref TI) rfl ?_)
 refine wpAny_bind (wpAny_seqItems hTI rfl ?_)
 show wpAny _ _ (Builtin.SmallTypes.ownedTupleIsFree (.ref z) >>= _) _ _ _
 refine wpAny_bind ?_
 unfold Builtin.SmallTypes.ownedTupleIsFree
 refine wpAny_bind (wpAny_field hz rfl (x:=.none) rfl (wpAny_pure ?_))
 simp only [if_true]
 refine wpAny_bind (wpAny_rule ?_)
 refine wpAny_bind (wpAny_field hz rfl (x:=.ref TO) rfl ?_)
 refine wpAny_bind (wpAny_setField_rec hz (by simp) fun g1 z1 s1=>?_)
 replace z1:IsZip g1 z TI TO .ellipsis:=z1
 refine wpAny_bind ?_
 simp only [List.zipIdx_cons,List.zipIdx_nil,List.forIn_cons,List.forIn_nil]
  -- the first one
 refine wpAny_bind (wpAny_bind (wpAny_onRaise ?_))
 show wpAny _ _ (Builtin.SmallTypes.nextOf (.ref i1) >>= _) _ _ _
 refine wpAny_bind (D1.item n2 _ _ _ l1 (fr1 h1 s1 ap.z1) fun x g2 tk2 px st2 s2=>wpAny_pure ?_)
 have o2:IsPair g2 TO a b:=s2.extBut _ _ ap.TOi1 (s1.extBut _ _ ap.zTO.symm hTO)
 refine wpAny_bind (wpAny_seqItems o2 rfl ?_)
 refine wpAny_bind (wpAny_updateSeq_pair o2 fun g3 o3 s3=>?_)
 replace o3:IsPair g3 TO x b:=o3
 refine wpAny_bind (wpAny_letGo (wpAny_pure ?_))
 refine wpAny_bind (wpAny_bind (wpAny_onRaise ?_))
 show wpAny _ _ (Builtin.SmallTypes.nextOf (.ref i2) >>= _) _ _ _
 refine wpAny_bind (D2.done _ _ _ (fr2 (fr2 (fr2 h2 s1 ap.z2) s2 ap.i1f) s3 ap.t2) fun g4 e s4 he=>?_)
 obtain ⟨oe,hoe,hce⟩:=he
 have z3:IsZip g3 z TI TO .ellipsis:=s3.extBut _ _ ap.zTO (s2.extBut _ _ ap.zi1 z1)
 have z4:IsZip g4 z TI TO .ellipsis:=s4 _ _ ap.zi2 z3
 have ez:e≠z:=fun q=>by subst q;rw [z4] at hoe;cases hoe;simp at hce
 exact wpAny_setField_rec z4 (by simp) fun g5 _ s5=>hE g5 e _ (fun c o c1 c2 c3 c4 q=>s5.extBut _ _ c1 (s4 _ _ c4 (s3.extBut _ _ c2 (s2.extBut _ _ c3 (s1.extBut _ _ c1 q))))) ⟨oe,s5.extBut _ _ ez hoe,hce⟩
end
section
variable {X:Cx}
end
end L2
set_option Elab.async false
set_option linter.all false
set_option maxRecDepth 100000
set_option maxHeartbeats 4000000
namespace HT
open PySem PySem.Spec PyProof.Rows
section
variable {prog:Program} {w:World} {A:Around} {E:Value→Shared→Prop} {s:Shared}
theorem cat_tup0 {t b:Addr} {ws:List Value} {Q:Value→Shared→Prop} (ht:IsTup s.heap t ([]:List Value).toArray) (hb:IsTup s.heap b ws.toArray) (h:Q (.ref b) s):wpAny (model prog w) A (binaryOp .Add (.ref t) (.ref b)) Q E s:=by
 obtain ⟨⟨cls,dd,data,sl⟩,ho,hc,n,hd⟩:=id ht
 obtain ⟨⟨cls2,dd2,data2,sl2⟩,ho2,hc2,n2,hd2⟩:=id hb
 simp only at hc hd hc2 hd2
 subst hc hd hc2 hd2
 exact concat_meets ⟨_,ho,rfl⟩ ⟨_,ho2,rfl⟩ noFill_tuple_add seq_tuple_add PySem.F.slot_tuple_add PySem.F.entry_tuple_add (PySem.F.args_tuple_add_2 _ _)
   (tuple_addW0 t b _ ws.toArray n n2 dd dd2 sl sl2 (by simp)) ⟨ho,ho2,h⟩
theorem fm_all {α:Type}:∀ ys:List α,(List.range ys.length).filterMap (fun (k:Nat)=>ys[k]?)=ys
 | []=>rfl
 | y::ys=>by
  rw [List.length_cons,List.range_succ_eq_map,List.filterMap_cons]
  show y::((List.range ys.length).map Nat.succ).filterMap (fun (k:Nat)=>(y::ys)[k]?)=y::ys
  rw [List.filterMap_map]
  exact congrArg (y::·) (fm_all ys)
theorem fm_congr {α β:Type} {f g:α→Option β}:∀ l:List α,(∀ x∈l,f x=g x)→l.filterMap f=l.filterMap g
 | [],_=>rfl
 | x::l,h=>by rw [List.filterMap_cons,List.filterMap_cons,h x (by simp),fm_congr l fun y hy=>h y (by simp [hy])]
theorem rev_list {α:Type} (xs:List α):(List.range xs.length).filterMap (fun (k:Nat)=>xs[(((xs.length:Int)-1)+(k:Int)*(-1)).toNat]?)=xs.reverse:=by
 have h:=fm_all xs.reverse
 rw [List.length_reverse] at h
 rw [←h]
 refine fm_congr _ fun k hk=>?_
 have hk:=List.mem_range.mp hk
 rw [List.getElem?_reverse hk]
 congr 1
 omega
theorem getItem_revN {t sl:Addr} {vs:List Value} {tk:Tok} {Q:Value→Shared→Prop} (ht:IsTup s.heap t vs.toArray) (hs:s.heap.IsSliceOf sl .none .none (.int (-1) tk)) (hz:vs.length≤sizeLine)
  (h:Q (.ref s.heap.objs.size) { s with heap:=s.heap.push { cls:=.type "tuple",data:=.seq vs.reverse.toArray } }):wpAny (model prog w) A (getItem (.ref t) (.ref sl)) Q E s:=by
 obtain ⟨os,hos,hcs,hds⟩:=id hs
 have hTs:s.TypeIs (.ref sl) "slice":=⟨os,hos,hcs⟩
 unfold getItem
 try (with_reducible refine wpAny_holding ?_)
 first | (refine wpAny_bind (wpAny_pure ?_)) | skip
 refine wpAny_bind (wpAny_sequenceKey ht.typeIs (by decide) (wpAny_bind (wpAny_callSpecial?_slot (name:=Str.ofString "__getitem__") ht.typeIs PyProof.Rows.slot_tuple_getitem (wpAny_call_entry PyProof.Rows.slot_tuple_getitem ht.typeIs entry_tuple_getitem ?_ (args_tuple_getitem _ _)))))
 show wpAny _ _ (Builtin.Tuple.tupleItemsOf (.ref t) >>= fun _=>_) _ _ s
 refine wpAny_bind (tupleItemsOf_ ht (wpAny_bind (wpAny_typeOf hTs ?_)))
 rw [if_pos (by decide)]
 have pl:Builtin.Slice.slicePlaces ((vs.length:Int)-1) (-1) (-1)=vs.length:=by
  unfold Builtin.Slice.slicePlaces
  rw [if_neg (by decide)]
  by_cases c:(vs.length:Int)-1 > -1
  ·rw [if_pos c]
   simp only [Int.neg_neg,Int.ediv_one]
   omega
  ·rw [if_neg c]
   omega
 have ap:∀ {R:Int×Int×Nat→Shared→Prop},R ((vs.length:Int)-1,-1,vs.length) s→wpAny (model prog w) A.in1 (Builtin.Slice.sliceApplied (.ref sl) (pure ((vs.toArray.size:Nat):Int))) R E s:=fun {R} hR=>by
  unfold Builtin.Slice.sliceApplied Builtin.Slice.sliceFields
  refine wpAny_bind (wpAny_bind (wpAny_field hos hds (x:=.none) rfl (wpAny_bind (wpAny_field hos hds (x:=.none) rfl (wpAny_bind (wpAny_field hos hds (x:=.int (-1) tk) rfl (wpAny_pure ?_)))))))
  refine wpAny_bind (slicePart_int ?_)
  show wpAny _ _ (if (((-1:Int)) == 0)=true then _ else _) _ _ s
  rw [if_neg (by decide)]
  refine wpAny_bind (slicePart_none (wpAny_bind (slicePart_none (wpAny_bind (wpAny_pure ?_)))))
  refine wpAny_pure ?_
  show R ((((vs.toArray.size:Nat):Int)-1),-1,Builtin.Slice.slicePlaces (((vs.toArray.size:Nat):Int)-1) (-1) (-1)) s
  rw [List.size_toArray,pl]
  exact hR
 refine wpAny_bind (ap ?_)
 have hok:sizeOk (.seq vs.reverse.toArray):=by show vs.reverse.toArray.size≤sizeLine;simpa using hz
 have key:((List.range vs.length).filterMap fun (k:Nat)=>vs.toArray[(((vs.length:Int)-1)+(k:Int)*(-1)).toNat]?).toArray=vs.reverse.toArray:=by
  have:=rev_list vs
  simp only [List.getElem?_toArray]
  rw [this]
 show wpAny _ _ (if ((((vs.length:Int)-1) == 0 && (-1:Int) == 1 && vs.length == vs.toArray.size)=true) then _ else _) _ _ s
 rw [if_neg (by simp)]
 first
  | (rw [key];exact wpAny_bind (m:=Builtin.Tuple.tupleExact _) (wpAny_newObj_type (wpAny_pure ⟨_,rfl,wpAny_pure h⟩) hok))
  | (rw [key];exact wpAny_bind (m:=Builtin.Tuple.tupleExact _) (wpAny_newObj_type (wpAny_bind (wpAny_pure (wpAny_pure ⟨_,rfl,wpAny_pure h⟩))) hok))
  | (rw [key];exact wpAny_bind (wpAny_bind (m:=Builtin.Tuple.tupleExact _) (wpAny_newObj_type (wpAny_pure (wpAny_pure ⟨_,rfl,wpAny_pure h⟩)) hok)))
  | (rw [key];exact wpAny_bind (wpAny_bind (m:=Builtin.Tuple.tupleExact _) (wpAny_newObj_type (wpAny_pure ⟨_,rfl,wpAny_pure h⟩) hok)))
  | skip
end
end HT
namespace L2
open PySem PySem.Spec PyProof.Rows
/-- what is there stays -/
def Grow (H H':Hp):Prop:=∀ b o,H b=some o→H' b=some o
section
variable {X:Cx}
theorem grow_new {H:Hp} {p:Addr} (h:H p=none) (o:HO):Grow H (upd H p o):=fun b u q=>by rw [upd_ne (ne_of_none q h)];exact q
/-- t[lo:hi] of a tuple, any -/
inductive rSlU (K:PySem.W.Frag) (x:V) (lo:Option Int) (hi:Option Int) (H:Hp) (Q:VK):Prop
 | mk:∀ a xs,(x=.ref a)→(H a=some (.tup xs))→(∀ p H',Grow H H'→H' p=some (.tup (cutV xs lo hi))→Q (.ref p) H')→rSlU K x lo hi H Q
theorem sl_tupU:SlR X (rSlU X.K):=by
 intro pins s σ H x v vl vu lo hi sl Q I rx hs pl pu h
 obtain ⟨a,xs,rfl,hx,q⟩:=h
 refine sl_tupB pins s σ H _ v vl vu lo hi sl Q I rx hs pl pu ?_
 by_cases c:HT.sIx xs.length 0 lo=0∧HT.sIx xs.length xs.length hi=xs.length
 ·refine .inr ⟨a,xs,rfl,SqT.of hx,c,q a H (fun _ _ e=>e) ?_⟩
  rw [hx]
  unfold cutV
  rw [c.1,c.2]
  simp
 ·exact .inl ⟨a,xs,rfl,SqT.of hx,c,fun p np=>q p _ (grow_new np _) upd_same⟩
/-- + of two tuples, any -/
inductive rCatU (K:PySem.W.Frag) (x:V) (y:V) (H:Hp) (Q:VK):Prop
 | mk:∀ a b xs ys,(x=.ref a)→(y=.ref b)→(H a=some (.tup xs))→(H b=some (.tup ys))→(xs.length+ys.length≤sizeLine)→(∀ p H',Grow H H'→H' p=some (.tup (xs++ys))→Q (.ref p) H')→rCatU K x y H Q
theorem op_catU:OpR X (binaryOp .Add) (rCatU X.K):=by
 intro pins s σ H x y v u Q I rx ry h
 obtain ⟨a,b,xs,ys,rfl,rfl,ha,hb,hz,q⟩:=h
 by_cases c:xs=[]
 ·subst c
  cases rx
  cases ry
  obtain ⟨its,r1,p1,_⟩:=I.tuple (SqT.of (K:=X.K) ha)
  obtain ⟨its2,r2,p2,_⟩:=I.tuple (SqT.of (K:=X.K) hb)
  cases r1
  exact HT.cat_tup0 p1 p2 ⟨.ref b,H,I,rfl,q b H (fun _ _ e=>e) (by simpa using hb)⟩
 ·refine op_catT pins s σ H _ _ v u Q I rx ry ⟨a,b,xs,ys,rfl,rfl,SqT.of ha,SqT.of hb,c,hz,fun e=>q a H (fun _ _ z=>z) (by rw [e,List.append_nil];exact ha),fun _ p np=>q p _ (grow_new np _) upd_same⟩
/-- t[::-1] of a tuple -/
inductive tRevUY (Q:VK) (x:V) (o:Option Int) (H2:Hp):Prop
 | mk:∀ a xs,(x=.ref a)→(o=some (-1))→(H2 a=some (.tup xs))→(∀ p,H2 p=none→Q (.ref p) (upd H2 p (.tup xs.reverse)))→tRevUY Q x o H2
def tRevU (K:PySem.W.Frag) (te:TE) (ts:TO):TE:=fun σ H Q=>te σ H fun x H1=>ts σ H1 fun o H2=>tRevUY Q x o H2
theorem pe_revU {e st:Expr} {te:TE} {ts:TO} {p2 pos:Pos} (he:PE X e te) (hs:PO X (some st) ts):PE X (.Subscript e (.Slice none none (some st) p2) pos) (tRevU X.K te ts):=by
 intro pins s σ H Q I h
 refine Subscript_ (thn (he pins s σ H _ I h) fun v s1 ⟨x,H1,I1,r1,q1⟩=>?_)
 refine wpAny_Slice ?_
 rw [evalPart_none]
 refine wpAny_pure ?_
 refine wpAny_pure (thn (hs pins s1 σ H1 _ I1 q1) fun vt s3 ⟨o,H3,I3,pu,q3⟩=>?_)
 obtain ⟨a,xs,rfl,rfl,ha,q⟩:=q3
 cases r1
 cases pu with
 | int i tk =>
  have I4:Inv X pins σ H3 { s3 with heap:=s3.heap.push { cls:=.type "slice",data:=.fields #[.none,.none,.int (-1) tk] } }:=I3.kept (t':=s3.toks) fun b ob q=>Heap.get?_push_of_some _ q
  obtain ⟨its,r,ht,hz⟩:=I4.tuple (SqT.of (K:=X.K) ha)
  have hl:=r.length
  show wpAny (model X.prog X.w) X.A (subscriptTail e (.Slice none none (some st) p2) (.ref a) (.ref s3.heap.objs.size)) (EP X pins σ Q) X.xe { s3 with heap:=s3.heap.push { cls:=.type "slice",data:=.fields #[.none,.none,.int (-1) tk] } }
  refine tail_any (ops:=[.ref a,.ref s3.heap.objs.size]) ht.typeIs PyProof.Rows.slot_tuple_getitem.lookup ?_ (by with_unfolding_all rfl)
  refine HT.getItem_revN ht (Heap.IsSliceOf.new ..) (by omega) ?_
  refine ⟨.ref _,_,I4.laid (t':=s3.toks) (o:=.tup xs.reverse) (fun b ob q=>Heap.get?_push_of_some _ q) (Nat.le_refl _) ?_,rfl,q _ (I4.hok.fresh (Nat.le_refl _))⟩
  exact ⟨by rw [List.length_reverse];omega,its.reverse,r.reverse,IsTupN.new _ _⟩
end
end L2
set_option Elab.async false
set_option linter.all false
set_option maxRecDepth 100000
set_option maxHeartbeats 4000000
namespace L2
open PySem PySem.Spec PyProof.Rows
section
variable {prog:Program} {w:World} {A:Around} {E:Value→Shared→Prop} {s:Shared}
end
section
variable {X:Cx}
end
end L2
set_option linter.all false
namespace L2
open PySem
section
variable {X:Cx}
end
end L2
set_option linter.all false
set_option maxRecDepth 100000
namespace L2
open PySem PySem.Spec PyProof.Rows
def HoX (k:Bool) (xs:List V):HO:=match k with | true=>.lst xs | false=>.tup xs
theorem SqX.of {K:PySem.W.Frag} {k:Bool} {H:Hp} {a:Addr} {xs:List V} (h:H a=some (HoX k xs)):SqX K k H a xs:=by
 cases k
 ·exact SqT.of h
 ·exact SqL.of h
section
variable {X:Cx} {tg:Expr}
end
end L2
set_option Elab.async false
set_option linter.all false
set_option maxRecDepth 100000
set_option maxHeartbeats 4000000
namespace L2
open PySem PySem.Spec PyProof.Rows
section
variable {X:Cx}
end
section
variable {X:Cx} {tg:Expr}
end
section
variable {X:Cx} {tg:Expr}
end
end L2
set_option Elab.async false
set_option linter.all false
set_option maxRecDepth 100000
set_option maxHeartbeats 4000000
namespace L2
open PySem PySem.Spec PyProof.Rows
section
variable {X:Cx}
end
section
variable {X:Cx} {tg:Expr}
end
end L2
set_option linter.all false
namespace Txs
open PySem PySem.Builtin PySem.Builtin.Str PySem.StrLaws
/-- a text of these signs -/
def tx (l:List Nat):Str:=⟨l.toArray⟩
end Txs
set_option linter.all false
namespace L2
open PySem PySem.Spec PyProof.Rows
theorem se_tup {a:List Expr} {b} {p:Pos} {es:List Expr} {env:Env}:starEach (.Tuple a b p::es) env=(false,eval (.Tuple a b p) env)::starEach es env:=by rfl
@[irreducible] def PAi (X:Cx) (es:List Expr) (t:TA):Prop:=PA X es t
@[irreducible] def PSi (X:Cx) (st:Stmt) (t:TS):Prop:=PS X st t
@[irreducible] def PSsi (X:Cx) (l:List Stmt) (t:TS):Prop:=PSs X l t
section
variable {X:Cx} {es:List Expr} {t:TA}
end
section
variable {P:Program} {w:World} {K:PySem.W.Frag} {mg:Str→Option Value} {base:Heap}
end
section
variable {X:Cx}
inductive call_lenDY (xs:List V) (H:Hp) (Q:VK):Prop
 | mk:∀ d kvs,(xs=[.ref d])→(Rd H d (.dK kvs))→(Q (.int (kvs.length:Nat)) H)→call_lenDY xs H Q
theorem call_lenD:CallR X (.builtin "len") call_lenDY:=by
 intro pins s σ H xs us Q I r h
 obtain ⟨d,kvs,rfl,e,q⟩:=h
 obtain ⟨u,rfl,rx⟩:=vals1 r
 cases rx
 exact d_len I e fun t s' I'=>⟨.int (kvs.length:Nat),H,I',⟨t,rfl⟩,q⟩
end
end L2
set_option linter.all false
namespace L2
open PySem
def CnAt (K:PySem.W.Frag) (n:Str) (xs:List Int):Prop:=∃ (f:Addr) (od:Option Addr) (its:Array Value) (c:Nat) (osl:Array (Option Value)),PySem.W.nsIn K mainGlobals n=some (some (.ref f))∧K.lookup f=some ⟨.type "tuple",od,.seq its c,osl⟩∧its.toList.map absV=xs.map fun x=>some (V.int x)
theorem cn_mk {K:PySem.W.Frag} {n:Str} {xs:List Int} {f:Addr} {od:Option Addr} {its:Array Value} {c:Nat} {osl:Array (Option Value)} (a:PySem.W.nsIn K mainGlobals n=some (some (.ref f))) (l:K.lookup f=some ⟨.type "tuple",od,.seq its c,osl⟩) (v:its.toList.map absV=xs.map fun x=>some (V.int x)):CnAt K n xs:=⟨f,od,its,c,osl,a,l,v⟩
def CvAt (K:PySem.W.Frag) (n:Str) (v:V):Prop:=∃ u:Value,PySem.W.nsIn K mainGlobals n=some (some u)∧absV u=some v
theorem cv_mk {K:PySem.W.Frag} {n:Str} {v:V} {u:Value} (a:PySem.W.nsIn K mainGlobals n=some (some u)) (e:absV u=some v):CvAt K n v:=⟨u,a,e⟩
end L2
set_option Elab.async false
set_option linter.all false
set_option maxRecDepth 100000
set_option maxHeartbeats 4000000
namespace Hsh
set_option autoImplicit false
open PySem PySem.Spec PyProof.Rows
/-- the hash of a pair, brought above nought -/
def hp (p q:Nat):Nat:=(reduceHash (Builtin.Tuple.tupleHashOf [hashInt (p:Int),hashInt (q:Int)])+2 ^ 63).toNat
def all:List Nat:=(List.range 1764).map fun i=>hp (i / 42) (i % 42)
end Hsh
set_option Elab.async false
set_option linter.all false
set_option maxRecDepth 100000
set_option maxHeartbeats 4000000
namespace Dct
set_option autoImplicit false
open PySem PySem.Spec PyProof.Rows
section
variable {prog:Program} {w:World} {A:Around} {E:Value→Shared→Prop} {s:Shared} {κ:Type} [DecidableEq κ] {kd:KeyKind prog w κ}
/-- the other dict's pairs, put one by one -/
def fold (xs ys:List (List κ×Addr×Value)):List (List κ×Addr×Value):=ys.foldl (fun acc y=>storedH acc y.1 y.2.1 y.2.2) xs
end
end Dct
set_option Elab.async false
set_option linter.all false
set_option maxRecDepth 100000
set_option maxHeartbeats 4000000
namespace Dcl
open PySem PySem.Spec PyProof.Rows L2
section
variable {prog:Program} {w:World} {A:Around} {E:Value→Shared→Prop} {s:Shared}
theorem entry_loop:entryFor table "dict.update.loop" = some Builtin.«dict.update.loop»:=by first | kernel_rfl | rfl | decide +kernel
theorem plain_loop:plainId "dict.update.loop" = true:=by decide +kernel
end
def foldP (ps:List (Key×V)):List (Key×V):=ps.foldl (fun acc p=>putK acc p.1 p.2) []
theorem foldP_snoc (ps:List (Key×V)) (p:Key×V):foldP (ps++[p])=putK (foldP ps) p.1 p.2:=by unfold foldP;rw [List.foldl_append];rfl
theorem foldP_le (ps:List (Key×V)):(foldP ps).length≤ps.length:=by
 have:∀ (ps acc:List (Key×V)),(ps.foldl (fun acc p=>putK acc p.1 p.2) acc).length≤acc.length+ps.length:=by
  intro ps
  induction ps with
  | nil=>intro acc;simp
  | cons p ps ih =>
   intro acc
   have h1:=ih (putK acc p.1 p.2)
   have h2:=length_putK acc p.1 p.2
   simp only [List.foldl_cons,List.length_cons]
   omega
 have:=this ps []
 simpa [foldP] using this
section
variable {X:Cx} {pins:List (Addr×Obj)} {σ:L2.St} {A:Around} {R:Result→Shared→Prop}
/-- dict(x): a new dict, and what __init__ makes of it -/
theorem call_dictG {s:Shared} {H:Hp} {a:Addr} {Hf:Addr→Hp} {Q:VK} (I:L2.Inv X pins σ H s)
  (init:∀ s1,L2.Inv X pins σ (upd H s.heap.objs.size (.dK [])) s1→(∀ b o,s.heap.get? b=some o→s1.heap.get? b=some o)→codeAny (model X.prog X.w) X.A.in1 (.call (.builtin "dict.__init__") ⟨[.ref s.heap.objs.size,.ref a],[]⟩) (wants (fun r s₂=>r=.none∧L2.Inv X pins σ (Hf s.heap.objs.size) s₂) X.xe) s1)
  (q:∀ D,H D=none→Q (.ref D) (Hf D)):wpAny (model X.prog X.w) X.A (call (.type "dict") [.ref a]) (EP X pins σ Q) X.xe s:=by
 obtain ⟨_,_,hmro⟩:=F.kt_called_dict.mro
 have f1:=F.kt_called_dict.made
 have f2:=F.kt_called_dict.sub
 refine wpAny_call (codeAny_of_tree ?_)
 refine wpAny_pure ⟨Code.quiet_builtin _ (by decide +kernel),codeAny_builtin F.entry_type_call ?_⟩
 rw [Around.under_plain (weight_type_call_type "dict" [.ref a] []) rfl]
 have f3:=F.kt_called_dict.notType
 have f4:=F.kt_called_dict.canCreate
 have f5:=F.kt_typeCall_dict_1 (.ref a)
 repeat (any_goals (first | assumption | wp_step))
 refine codeAny_mono (kt_code_dict_new (.ref a) (E:=X.xe) (Q₁:=fun v s₁=>v=.ref s.heap.objs.size∧s₁={ s with heap:=s.heap.push { cls:=.type "dict",data:=.dict #[] } }) ⟨rfl,rfl⟩) fun r s₁ hr=>?_
 cases r with
 | error e=>exact hr
 | ok fl =>
  cases fl with
  | next=>exact hr.elim
  | brk=>exact hr.elim
  | cont=>exact hr.elim
  | ret v =>
   obtain ⟨rfl,rfl⟩:=hr
   have hS:(s.heap.push { cls:=.type "dict",data:=.dict #[] }).get? s.heap.objs.size=some { cls:=.type "dict",data:=.dict #[] }:=Heap.get?_push_size _ rfl
   have hT:Shared.TypeIs { s with heap:=s.heap.push { cls:=.type "dict",data:=.dict #[] } } (.ref s.heap.objs.size) "dict":=⟨_,hS,rfl⟩
   have nD:H s.heap.objs.size=none:=I.hok.fresh (Nat.le_refl _)
   have I1:L2.Inv X pins σ (upd H s.heap.objs.size (.dK [])) { s with heap:=s.heap.push { cls:=.type "dict",data:=.dict #[] } }:=I.laid (a:=s.heap.objs.size) (o:=.dK []) (t':=s.toks) (fun _ _ q=>Heap.get?_push_of_some _ q) (Nat.le_refl _) (dk_empty s.heap I.big)
   have g1:=F.kt_called_dict.init.lookup
   have g2:=F.kt_called_dict.init.bind (.ref s.heap.objs.size)
   repeat (any_goals (first | assumption | wp_step))
   refine codeAny_mono (init _ I1 fun _ _ q=>Heap.get?_push_of_some _ q) fun r₂ s₂ hr₂=>?_
   cases r₂ with
   | error e=>exact hr₂
   | ok fl₂ =>
    cases fl₂ with
    | next=>exact hr₂.elim
    | brk=>exact hr₂.elim
    | cont=>exact hr₂.elim
    | ret r =>
     obtain ⟨rfl,i2⟩:=hr₂
     repeat (any_goals (first | assumption | wp_step))
     exact ⟨.ref s.heap.objs.size,_,i2,rfl,q _ nD⟩
end
end Dcl
set_option Elab.async false
set_option linter.all false
set_option maxRecDepth 100000
set_option maxHeartbeats 4000000
namespace Dcl
open PySem PySem.Spec PyProof.Rows L2
theorem nk_zip:typeLookup (.type "zip") (Str.ofString "keys")=pure none:=by rw [typeLookup_type,builtinLookup_eq_fast];kernel_rfl
theorem ng_zip:typeLookup (.type "zip") (Str.ofString "__getattr__")=pure none:=by rw [typeLookup_type,builtinLookup_eq_fast];kernel_rfl
theorem entry_zip_ga:entryFor table "zip.__getattribute__" = some Builtin.«object.__getattribute__»:=by first | kernel_rfl | rfl | decide +kernel
theorem miss_zip (a:Addr) (fs:Array Value) (sl:Array (Option Value)) (u:Tok) :
  Meets (Builtin.«object.__getattribute__» ⟨[.ref a,.str (Str.ofString "keys") u],[]⟩) (fun A R s=>s.heap.get? a=some { cls:=.type "zip",data:=.fields fs,slots:=sl }∧raisesAttr (.ref a) (Str.ofString "keys") A R s) :=
 .of_wp fun prog w A R s h=>by
  obtain ⟨hp,g,d,tk,os⟩:=s
  obtain ⟨e,hh,h⟩:=h
  have hT:Shared.TypeIs ⟨hp,g,d,tk,os⟩ (.ref a) "zip":=⟨_,e,rfl⟩
  have k1:=nk_zip
  unfold Builtin.«object.__getattribute__»
  wp_walk using wpAny_typeOf hT
  exact wpAny_raiseAttrError hh h
theorem args_zip_ga (a b:Value):argsOk "zip.__getattribute__" ⟨[a,b],[]⟩:=by first | exact F.args_zip_getattribute_2 a b | exact ⟨by decide +kernel,by decide +kernel⟩ | (unfold argsOk;kernel_rfl) | kernel_rfl | rfl
section
variable {prog:Program} {w:World} {A:Around} {E:Value→Shared→Prop} {s:Shared}
theorem no_keysZ {a:Addr} {fs:Array Value} {sl:Array (Option Value)} {Q:Option Value→Shared→Prop} (e:s.heap.get? a=some { cls:=.type "zip",data:=.fields fs,slots:=sl }) (hh:A.handled=none) (h:∀ h' tk,(∀ b o,s.heap.get? b=some o→h'.get? b=some o)→Q none { s with heap:=h',toks:=tk }) :
  wpAny (model prog w) A (getAttr? (.ref a) (Str.ofString "keys")) Q E s:=by
 have hT:Shared.TypeIs { s with toks:=s.toks+1 } (.ref a) "zip":=⟨_,e,rfl⟩
 unfold getAttr? mkText
 refine wpAny_bind (wpAny_bind (wpAny_fresh (wpAny_pure ?_)))
 unfold getAttrBy?
 refine wpAny_bind (wpAny_attempt ?_)
 unfold getAttrBy
 refine wpAny_holding (wpAny_bind (wpAny_typeOf hT ?_))
 refine wpAny_bind (wpAny_of_eq F.slot_zip_getattribute.lookup ?_)
 dsimp only
 rw [if_neg (by decide)]
 unfold getAttrByItsOwn hookBefore
 rw [if_neg (by decide)]
 refine wpAny_bind (wpAny_pure ?_)
 refine wpAny_bind (wpAny_attempt (wpAny_holding ?_))
 unfold callGetattribute
 rw [if_neg (by decide)]
 unfold boundAndCalled
 refine wpAny_bind (wpAny_of_eq (F.slot_zip_getattribute.bind _) ?_)
 show wpAny _ A (call (.builtin "zip.__getattribute__") [.ref a,.str (Str.ofString "keys") s.toks]) _ _ _
 obtain ⟨R0,hR0⟩ : ∃ R0:Result→Shared→Prop,R0=fun r s'=>∃ h' tk x,r=.error (.ref x)∧s'={ s with heap:=h',toks:=tk }∧s.heap.NewAttrErr h' x (.ref a) (Str.ofString "keys"):=⟨_,rfl⟩
 refine wpAny_call (codeAny_mono (codeAny_call_builtin (R:=R0) F.slot_zip_getattribute.plain entry_zip_ga (F.slot_zip_getattribute.check _ _ _ _ _ _ _ _ hT (args_zip_ga _ _) ?_)) fun r s' hr=>?_)
 ·exact miss_zip a fs sl s.toks prog w A R0 { s with toks:=s.toks+1 } ⟨e,hh,fun h' tk x nx=>by rw [hR0];exact ⟨h',tk,x,rfl,rfl,nx⟩⟩
 rw [hR0] at hr
 obtain ⟨h',tk,x,rfl,rfl,nx⟩:=hr
 show wpAny _ A (getattributeRaised _ _ _ (.ref x) none false false) _ _ _
 unfold getattributeRaised
 obtain ⟨keeps,new,t,u,there⟩:=nx
 have hX:Shared.TypeIs { s with heap:=h',toks:=tk } (.ref x) "AttributeError":=⟨_,there,rfl⟩
 have sub:isSubtype (.type "AttributeError") (.type "AttributeError")=pure true:=by rw [isSubtype_type];kernel_rfl
 refine wpAny_bind (wpAny_isInstance hX sub ?_)
 rw [if_pos rfl]
 unfold hookBehind
 rw [if_neg (by decide)]
 refine wpAny_bind (wpAny_of_eq ng_zip ?_)
 unfold hookOrError attributeErrorLeaves
 dsimp only
 rw [if_pos (by decide)]
 refine wpAny_bind (wpAny_throw ?_)
 refine wpAny_bind (wpAny_isInstance hX sub ?_)
 rw [if_pos rfl]
 exact wpAny_pure (h h' tk keeps)
end
end Dcl
set_option Elab.async false
set_option linter.all false
set_option maxRecDepth 100000
set_option maxHeartbeats 4000000
namespace Dcl
open PySem PySem.Spec PyProof.Rows L2
section
variable {prog:Program} {w:World} {A:Around} {E:Value→Shared→Prop} {s:Shared} {z TI TO i1 i2 T:Addr} {fp1 fp2:List Addr} {n1 n2 j:Nat} {P1 P2:Nat→Value→Prop} {S1 S2:Nat→Heap→Prop} {f1:Bool}
/-- a zip whose own tuple is held -/
def ZipH (h:Heap) (z TI TO T:Addr) (f1:Bool):Prop:=h.get? z=some { cls:=.type "zip",data:=.fields #[rawInt T,.bool f1,.bool false,.ref TI,.ref TO] }
theorem not_free {Q:Bool→Shared→Prop} (hz:ZipH s.heap z TI TO T f1) (hT:∃ o,s.heap.get? T=some o) (q:∀ h',ZipH h' z TI TO T true→(∀ c o,c≠z→s.heap.get? c=some o→h'.get? c=some o)→h'.objs.size=s.heap.objs.size→Q false { s with heap:=h' }) :
  wpAny (model prog w) A (Builtin.SmallTypes.ownedTupleIsFree (.ref z)) Q E s:=by
 unfold ZipH at hz
 obtain ⟨o,ho⟩:=hT
 unfold Builtin.SmallTypes.ownedTupleIsFree
 refine wpAny_bind (wpAny_field hz rfl (x:=rawInt T) rfl ?_)
 unfold rawInt
 dsimp only
 have la:∀ {Q':Option Obj→Shared→Prop},Q' (some o) s→wpAny (model prog w) A (loadIfAlive ((T:Int)).toNat) Q' E s:=fun {Q'} h Γ p hΓ=>by
  unfold loadIfAlive
  rw [Sem.wp_loadIfAlive,show ((T:Int)).toNat=T from Int.toNat_natCast T,ho]
  exact wpAny_pure (M:=model prog w) (A:=A) (E:=E) (Q:=Q') h Γ p hΓ
 refine wpAny_bind (la ?_)
 rw [if_neg (show ¬ (some o).isNone=true from Bool.false_ne_true)]
 refine wpAny_bind (wpAny_field hz rfl (x:=.bool f1) rfl ?_)
 cases f1 with
 | true =>
  rw [if_neg (by decide)]
  exact wpAny_pure (q s.heap hz (fun _ _ _ e=>e) rfl)
 | false =>
  rw [if_pos (by decide)]
  refine wpAny_bind (wpAny_setField_rec hz (by simp) fun h' z' sb=>wpAny_pure ?_)
  exact q h' z' (fun c o nc e=>sb.extBut _ _ nc e) sb.1
theorem zipD_item2 {Q:Value→Shared→Prop} (D1:Draws prog w A i1 fp1 n1 P1 S1) (D2:Draws prog w A i2 fp2 n2 P2 S2) (ap:ZAp z TI TO i1 i2 fp1 fp2)
  (hz:ZipH s.heap z TI TO T f1) (hT:∃ o,s.heap.get? T=some o) (hTI:IsPair s.heap TI (.ref i1) (.ref i2)) (h1:S1 j s.heap) (h2:S2 j s.heap) (l1:j<n1) (l2:j<n2)
  (hQ:∀ x y h' tk,P1 j x→P2 j y→ZipH h' z TI TO T true→S1 (j+1) h'→S2 (j+1) h'→IsPair h' s.heap.objs.size x y →
   (∀ c o,c≠z→c≠i1→c≠i2→s.heap.get? c=some o→h'.get? c=some o)→Q (.ref s.heap.objs.size) { s with heap:=h',toks:=tk }) :
  wpAny (model prog w) A (Builtin.«zip.__next__» ⟨[.ref z],[]⟩) (fun fin s'=>∃ v,fin=.done (.ret v)∧Q v s') E s:=by
 have hz':=hz
 unfold ZipH at hz'
 show wpAny _ _ (field (.ref z) 2 >>= _) _ _ _
 refine wpAny_bind (wpAny_field hz' rfl (x:=.bool false) rfl ?_)
 show wpAny _ _ (field (.ref z) 3 >>= _) _ _ _
 refine wpAny_bind (wpAny_field hz' rfl (x:=.ref TI) rfl ?_)
 refine wpAny_bind (wpAny_seqItems hTI rfl ?_)
 show wpAny _ _ (Builtin.SmallTypes.ownedTupleIsFree (.ref z) >>= _) _ _ _
 refine wpAny_bind (not_free hz hT fun g1 z1 k1 sz1=>?_)
 have st1:S1 j g1:=D1.frame _ _ _ h1 fun b hb o e=>k1 b o (fun q=>ap.z1 (q ▸ hb)) e
 have st2:S2 j g1:=D2.frame _ _ _ h2 fun b hb o e=>k1 b o (fun q=>ap.z2 (q ▸ hb)) e
 rw [if_neg (by decide)]
 dsimp only
 refine wpAny_bind ?_
 simp only [List.forIn_toArray,List.forIn_cons,List.forIn_nil]
 refine wpAny_bind (wpAny_bind (wpAny_holding ?_))
 show wpAny _ _ (Builtin.SmallTypes.nextOf (.ref i1) >>= _) _ _ _
 refine wpAny_bind (D1.item j _ _ _ l1 st1 fun x g2 tk2 px st3 s2=>wpAny_pure (wpAny_pure ?_))
 refine wpAny_bind (wpAny_bind (wpAny_holding ?_))
 show wpAny _ _ (Builtin.SmallTypes.nextOf (.ref i2) >>= _) _ _ _
 have st4:S2 j g2:=D2.frame _ _ _ st2 fun b hb o e=>s2.extBut b o (fun q=>ap.i1f (q ▸ hb)) e
 refine wpAny_bind (D2.item j _ _ _ l2 st4 fun y g4 tk4 py st5 s4=>wpAny_pure (wpAny_pure (wpAny_pure ?_)))
 have st6:S1 (j+1) g4:=D1.frame _ _ _ st3 fun b hb o e=>s4.extBut b o (fun q=>ap.i2f (q ▸ hb)) e
 have z4:ZipH g4 z TI TO T true:=s4.extBut _ _ ap.zi2 (s2.extBut _ _ ap.zi1 z1)
 have sz:g4.objs.size=s.heap.objs.size:=by rw [s4.1,s2.1,sz1]
 show wpAny _ _ (newTuple [x,y] >>= _) _ _ _
 refine wpAny_bind (wpAny_newTuple (wpAny_pure ⟨_,rfl,?_⟩))
 show Q (.ref g4.objs.size) _
 rw [sz]
 refine hQ x y _ _ px py (Heap.get?_push_of_some _ z4) (D1.frame _ _ _ st6 fun b hb o e=>Heap.get?_push_of_some _ e) (D2.frame _ _ _ st5 fun b hb o e=>Heap.get?_push_of_some _ e) ?_ fun c o c1 c2 c3 e=>Heap.get?_push_of_some _ (s4.extBut _ _ c3 (s2.extBut _ _ c2 (k1 c o c1 e)))
 rw [←sz]
 exact Heap.get?_push_size _ rfl
/-- both end together, or the first one ahead -/
theorem zipD_end2 {Q:PySem.Fin→Shared→Prop} (D1:Draws prog w A i1 fp1 n1 P1 S1) (ap:ZAp z TI TO i1 i2 fp1 fp2)
  (hz:ZipH s.heap z TI TO T f1) (hT:∃ o,s.heap.get? T=some o) (hTI:IsPair s.heap TI (.ref i1) (.ref i2)) (h1:S1 n1 s.heap)
  (hE:∀ h' e,(∀ c o,c≠z→c≠i1→s.heap.get? c=some o→h'.get? c=some o)→(∃ o,h'.get? e=some o∧o.cls=.type "StopIteration")→E (.ref e) { s with heap:=h' }) :
  wpAny (model prog w) A (Builtin.«zip.__next__» ⟨[.ref z],[]⟩) Q E s:=by
 have hz':=hz
 unfold ZipH at hz'
 show wpAny _ _ (field (.ref z) 2 >>= _) _ _ _
 refine wpAny_bind (wpAny_field hz' rfl (x:=.bool false) rfl ?_)
 show wpAny _ _ (field (.ref z) 3 >>= _) _ _ _
 refine wpAny_bind (wpAny_field hz' rfl (x:=.ref TI) rfl ?_)
 refine wpAny_bind (wpAny_seqItems hTI rfl ?_)
 show wpAny _ _ (Builtin.SmallTypes.ownedTupleIsFree (.ref z) >>= _) _ _ _
 refine wpAny_bind (not_free hz hT fun g1 z1 k1 sz1=>?_)
 have st1:S1 n1 g1:=D1.frame _ _ _ h1 fun b hb o e=>k1 b o (fun q=>ap.z1 (q ▸ hb)) e
 rw [if_neg (by decide)]
 dsimp only
 refine wpAny_bind ?_
 simp only [List.forIn_toArray,List.forIn_cons,List.forIn_nil]
 refine wpAny_bind (wpAny_bind (wpAny_holding ?_))
 show wpAny _ _ (Builtin.SmallTypes.nextOf (.ref i1) >>= _) _ _ _
 exact wpAny_bind (D1.done _ _ _ st1 fun g2 e s2 he=>hE g2 e (fun c o c1 c2 q=>s2 _ _ c2 (k1 c o c1 q)) he)
end
end Dcl
set_option Elab.async false
set_option linter.all false
set_option maxRecDepth 100000
set_option maxHeartbeats 4000000
namespace Dcl
open PySem PySem.Spec PyProof.Rows L2
/-- a zip on its way into a dict -/
def Zst (h:Heap) (a b z TI TO i1 i2:Addr) (i:Nat):Prop :=
 ((IsZip h z TI TO .none∧∃ u v,IsPair h TO u v)∨∃ T f1,ZipH h z TI TO T f1∧∃ o,h.get? T=some o)∧IsPair h TI (.ref i1) (.ref i2)∧ItOf false h i1 a i∧ItOf true h i2 b i
section
variable {prog:Program} {w:World} {A:Around} {E:Value→Shared→Prop} {s:Shared} {a b z TI TO i1 i2:Addr} {j:Nat} {xs ys:Array Value}
theorem zst_item {Q:Option Value→Shared→Prop} (hh:A.handled=none) (ap:ZAp z TI TO i1 i2 [i1,a] [i2,b]) (st:Zst s.heap a b z TI TO i1 i2 j) (p1:SqOf false s.heap a xs) (p2:SqOf true s.heap b ys) {u v:Value} (hu:xs[j]?=some u) (hv:ys[j]?=some v)
  (hQ:∀ h' tk,Zst h' a b z TI TO i1 i2 (j+1)→IsPair h' s.heap.objs.size u v→(∀ c o,c∉[z,TO,i1,i2]→s.heap.get? c=some o→h'.get? c=some o)→Q (some (.ref s.heap.objs.size)) { s with heap:=h',toks:=tk }) :
  wpAny (model prog w) A (pyNext (.ref z)) Q E s:=by
 obtain ⟨st,hTI,h1,h2⟩:=st
 have D1:=draws_sq (prog:=prog) (w:=w) (A:=A.in1) hh false i1 a (sq_it p1 h1) xs
 have D2:=draws_sq (prog:=prog) (w:=w) (A:=A.in1) hh true i2 b (sq_it p2 h2) ys
 have l1:j<xs.size:=(Array.getElem?_eq_some_iff.mp hu).1
 have l2:j<ys.size:=(Array.getElem?_eq_some_iff.mp hv).1
 have nm:∀ {c:Addr},c∉[z,TO,i1,i2]→c≠z∧c≠TO∧c≠i1∧c≠i2:=fun {c} q=>by
  simp only [List.mem_cons,List.not_mem_nil,or_false,not_or] at q
  exact q
 unfold pyNext
 rcases st with ⟨hz,u0,v0,hTO⟩ | ⟨T,f1,hz,hT⟩
 ·have hT:s.TypeIs (.ref z) "zip":=⟨_,hz,rfl⟩
  refine wpAny_bind (wpAny_attempt (wpAny_callSpecial?_slot (name:=Str.ofString "__next__") hT F.slot_zip_next (wpAny_call_entry F.slot_zip_next hT F.entry_zip_next
   (zipD_item D1 D2 ap hz hTI hTO ⟨h1,p1⟩ ⟨h2,p2⟩ l1 l2 fun u' v' h' tk hu' hv' z' o' s1' s2' t' hk=>wpAny_pure ?_) (F.args_zip_next_1 _))))
  rw [hu] at hu'
  rw [hv] at hv'
  cases hu'
  cases hv'
  refine hQ h' tk ⟨.inr ⟨_,false,z',_,t'⟩,hk _ _ ap.zTI.symm ap.TITO ap.TIi1 ap.TIi2 hTI,s1'.1,s2'.1⟩ t' fun c o hc e=>?_
  obtain ⟨q1,q2,q3,q4⟩:=nm hc
  exact hk c o q1 q2 q3 q4 e
 ·have hT':s.TypeIs (.ref z) "zip":=⟨_,hz,rfl⟩
  refine wpAny_bind (wpAny_attempt (wpAny_callSpecial?_slot (name:=Str.ofString "__next__") hT' F.slot_zip_next (wpAny_call_entry F.slot_zip_next hT' F.entry_zip_next
   (zipD_item2 D1 D2 ap hz hT hTI ⟨h1,p1⟩ ⟨h2,p2⟩ l1 l2 fun u' v' h' tk hu' hv' z' s1' s2' t' hk=>wpAny_pure ?_) (F.args_zip_next_1 _))))
  rw [hu] at hu'
  rw [hv] at hv'
  cases hu'
  cases hv'
  obtain ⟨o,ho⟩:=hT
  refine hQ h' tk ⟨?_,hk _ _ ap.zTI.symm ap.TIi1 ap.TIi2 hTI,s1'.1,s2'.1⟩ t' fun c o hc e=>?_
  ·refine .inr ⟨T,true,z',?_⟩
   by_cases c1:T=z
   ·exact ⟨_,by rw [c1];exact z'⟩
   ·by_cases c2:T=i1
    ·obtain ⟨o,e,_⟩:=s1'.1.live
     exact ⟨o,c2 ▸ e⟩
    ·by_cases c3:T=i2
     ·obtain ⟨o,e,_⟩:=s2'.1.live
      exact ⟨o,c3 ▸ e⟩
     ·exact ⟨o,hk T o c1 c2 c3 ho⟩
  ·obtain ⟨q1,q2,q3,q4⟩:=nm hc
   exact hk c o q1 q3 q4 e
theorem zst_end {Q:Option Value→Shared→Prop} (hh:A.handled=none) (ap:ZAp z TI TO i1 i2 [i1,a] [i2,b]) (st:Zst s.heap a b z TI TO i1 i2 xs.size) (p1:SqOf false s.heap a xs)
  (hQ:∀ h',(∀ c o,c∉[z,TO,i1,i2]→s.heap.get? c=some o→h'.get? c=some o)→Q none { s with heap:=h' }) :
  wpAny (model prog w) A (pyNext (.ref z)) Q E s:=by
 obtain ⟨st,hTI,h1,h2⟩:=st
 have D1:=draws_sq (prog:=prog) (w:=w) (A:=A.in1) hh false i1 a (sq_it p1 h1) xs
 have nm:∀ {c:Addr},c∉[z,TO,i1,i2]→c≠z∧c≠TO∧c≠i1∧c≠i2:=fun {c} q=>by
  simp only [List.mem_cons,List.not_mem_nil,or_false,not_or] at q
  exact q
 unfold pyNext
 rcases st with ⟨hz,u0,v0,hTO⟩ | ⟨T,f1,hz,hT⟩
 ·have hT:s.TypeIs (.ref z) "zip":=⟨_,hz,rfl⟩
  refine wpAny_bind (wpAny_attempt (wpAny_callSpecial?_slot (name:=Str.ofString "__next__") hT F.slot_zip_next (wpAny_call_entry F.slot_zip_next hT F.entry_zip_next
   (zipD_end D1 ap hz hTI hTO ⟨h1,p1⟩ fun h' e hk he=>?_) (F.args_zip_next_1 _))))
  obtain ⟨o,ho,hcl⟩:=he
  refine wpAny_bind (wpAny_isInstance (T:="StopIteration") (b:=true) ⟨o,ho,hcl⟩ isSubtype_stop (wpAny_pure (hQ h' fun c o hc e=>?_)))
  obtain ⟨q1,q2,q3,q4⟩:=nm hc
  exact hk c o q1 q2 q3 q4 e
 ·have hT':s.TypeIs (.ref z) "zip":=⟨_,hz,rfl⟩
  refine wpAny_bind (wpAny_attempt (wpAny_callSpecial?_slot (name:=Str.ofString "__next__") hT' F.slot_zip_next (wpAny_call_entry F.slot_zip_next hT' F.entry_zip_next
   (zipD_end2 D1 ap hz hT hTI ⟨h1,p1⟩ fun h' e hk he=>?_) (F.args_zip_next_1 _))))
  obtain ⟨o,ho,hcl⟩:=he
  refine wpAny_bind (wpAny_isInstance (T:="StopIteration") (b:=true) ⟨o,ho,hcl⟩ isSubtype_stop (wpAny_pure (hQ h' fun c o hc e=>?_)))
  obtain ⟨q1,q2,q3,q4⟩:=nm hc
  exact hk c o q1 q3 e
end
section
variable {X:Cx} {pins:List (Addr×Obj)} {σ:L2.St} {A:Around} {R:Result→Shared→Prop}
theorem dict_loopZ (hh:A.handled=none) {a b D z TI TO i1 i2:Addr} {H:Hp} {ps:List (Key×V)} (ap:ZAp z TI TO i1 i2 [i1,a] [i2,b]) (ha:H a=some (.tup (ps.map fun p=>kV p.1))) (hb:H b=some (.lst (ps.map fun p=>p.2))) (nD:H D=none) (few:ps.length≤1000)
  (fp:∀ kvs,∀ c∈[z,TO,i1,i2],FpOk X pins (upd H D (.dK kvs)) c) (dz:∀ c∈[z,TO,i1,i2,TI],c≠D) :
  ∀ (m i:Nat) (s:Shared),i+m=ps.length→L2.Inv X pins σ (upd H D (.dK (foldP (ps.take i)))) s→Zst s.heap a b z TI TO i1 i2 i→(∀ s',L2.Inv X pins σ (upd H D (.dK (foldP ps))) s'→R (.ok (.ret .none)) s') →
   codeAny (model X.prog X.w) A (.builtin "dict.update.loop" ⟨[.ref D,.ref z,rawInt (i:Int),.none],[]⟩) R s:=by
 have haD:a≠D:=ne_of_none ha nD
 have hbD:b≠D:=ne_of_none hb nD
 intro m
 induction m with
 | zero =>
  intro i s him I st k
  have ei:i=ps.length:=by omega
  subst ei
  rw [List.take_length] at I
  refine codeAny_builtin entry_loop ?_
  rw [Around.under_plainId plain_loop]
  obtain ⟨its,rv,p⟩:=I.sq (k:=false) (SqT.of (by rw [upd_ne haD];exact ha))
  have lr:=rv.length
  rw [List.length_map] at lr
  unfold Builtin.«dict.update.loop» rawInt
  dsimp only
  refine wpAny_bind (zst_end (xs:=its.toArray) (show A.in1.handled=none from hh) ap (by rw [List.size_toArray,←lr];exact st) p fun h' hk=>?_)
  have I1:L2.Inv X pins σ (upd H D (.dK (foldP ps))) { s with heap:=h' }:=I.turnedL (t':=s.toks) (ch:=[z,TO,i1,i2]) hk (fp _)
  dsimp only
  unfold Builtin.Dict.addKeywords
  refine wpAny_bind (wpAny_bind (m:=pure PUnit.unit) (wpAny_pure (wpAny_pure (wpAny_pure ?_))))
  exact k _ I1
 | succ m ih =>
  intro i s him I st k
  refine codeAny_builtin entry_loop ?_
  rw [Around.under_plainId plain_loop]
  obtain ⟨its,rv,p⟩:=I.sq (k:=false) (SqT.of (by rw [upd_ne haD];exact ha))
  obtain ⟨its2,rv2,p2⟩:=I.sq (k:=true) (SqL.of (by rw [upd_ne hbD];exact hb))
  have ep:=List.getElem?_eq_getElem (l:=ps) (i:=i) (by omega)
  generalize ps[i]=kv at *
  obtain ⟨u,hu,ru⟩:=rv.get (x:=kV kv.1) (i:=i) (by rw [List.getElem?_map,ep];rfl)
  obtain ⟨v,hv,rv'⟩:=rv2.get (x:=kv.2) (i:=i) (by rw [List.getElem?_map,ep];rfl)
  unfold Builtin.«dict.update.loop» rawInt
  dsimp only
  refine wpAny_bind (zst_item (xs:=its.toArray) (ys:=its2.toArray) (u:=u) (v:=v) (show A.in1.handled=none from hh) ap st p p2 (by simpa using hu) (by simpa using hv) fun h' tk st' t' hk=>?_)
  have I1:L2.Inv X pins σ (upd H D (.dK (foldP (ps.take i)))) { s with heap:=h',toks:=tk }:=I.turnedL (t':=tk) (ch:=[z,TO,i1,i2]) hk (fp _)
  dsimp only
  refine wpAny_bind (wpAny_holding (wpAny_bind (wpAny_tryCatch ?_)))
  unfold Builtin.Dict.pairItems
  refine wpAny_bind (wpAny_typeOf (T:="tuple") ⟨_,t',rfl⟩ ?_)
  rw [if_pos (by decide)]
  refine wpAny_bind (wpAny_seqItems t' rfl (wpAny_pure ?_))
  show wpAny _ _ (holding [u,v] (dictSet D u v)) _ _ _
  refine wpAny_holding ?_
  obtain ⟨z0,hd,vs,rel,dk⟩:=dk_of I1.hok (upd_same (H:=H) (a:=D) (o:=.dK (foldP (ps.take i))))
  refine wpAny_dictSet_pairs (hsz:=by rw [←rel.length];exact z0) (kV_is ru) dk fun h2 dk2 hs=>?_
  have le1:(putK (foldP (ps.take i)) kv.1 kv.2).length≤sizeLine:=by
   have h1:=length_putK (foldP (ps.take i)) kv.1 kv.2
   have h2:=foldP_le (ps.take i)
   have h3:(ps.take i).length≤1000:=by rw [List.length_take];omega
   exact Nat.le_trans (show _≤1001 by omega) (by decide)
  have I2:=d_write (t':=tk+1) I1 (by rw [upd_same];exact True.intro) hs (let ⟨q,_,_,hq,_⟩:=dk2;⟨q,hq⟩) (dk_new le1 hd (rel.put kv.1 rv') dk2)
  have e2:upd (upd H D (.dK (foldP (ps.take i)))) D (.dK (putK (foldP (ps.take i)) kv.1 kv.2))=upd H D (.dK (foldP (ps.take (i+1)))):=by
   rw [List.take_succ,ep]
   show _=upd H D (.dK (foldP (ps.take i++[kv])))
   rw [foldP_snoc]
   funext b
   unfold upd
   split<;>rfl
  rw [e2] at I2
  refine wpAny_pure ⟨plainId_quiet plain_loop _,?_⟩
  have kk:∀ c o,c≠D→h'.get? c=some o→h2.get? c=some o:=fun c o nc e=>(hs.2 c nc).trans e
  refine ih (i+1) _ (by omega) I2 ?_ k
  obtain ⟨st1,st2,st3,st4⟩:=st'
  refine ⟨?_,kk _ _ (dz _ (by simp)) st2,st3.at fun o e=>kk _ _ (dz _ (by simp)) e,st4.at fun o e=>kk _ _ (dz _ (by simp)) e⟩
  rcases st1 with ⟨q1,x,y,q2⟩ | ⟨T,f1,q1,o,q2⟩
  ·exact .inl ⟨kk _ _ (dz _ (by simp)) q1,x,y,kk _ _ (dz _ (by simp)) q2⟩
  ·refine .inr ⟨T,f1,kk _ _ (dz _ (by simp)) q1,?_⟩
   by_cases c:T=D
   ·subst c
    obtain ⟨q,_,_,hq,_⟩:=dk2
    exact ⟨q,hq⟩
   ·exact ⟨o,kk _ _ c q2⟩
theorem init_zip (hh:A.handled=none) {E:Value→Shared→Prop} {s:Shared} {a b D z TI TO i1 i2:Addr} {H:Hp} {ps:List (Key×V)} (ap:ZAp z TI TO i1 i2 [i1,a] [i2,b]) (ha:H a=some (.tup (ps.map fun p=>kV p.1))) (hb:H b=some (.lst (ps.map fun p=>p.2))) (nD:H D=none) (few:ps.length≤1000)
  (fp:∀ kvs,∀ c∈[z,TO,i1,i2],FpOk X pins (upd H D (.dK kvs)) c) (dz:∀ c∈[z,TO,i1,i2,TI],c≠D) (hz:IsZip s.heap z TI TO .none) (hTO:∃ u v,IsPair s.heap TO u v) (hTI:IsPair s.heap TI (.ref i1) (.ref i2)) (h1:ItOf false s.heap i1 a 0) (h2:ItOf true s.heap i2 b 0)
  (I:L2.Inv X pins σ (upd H D (.dK [])) s) (k:∀ s',L2.Inv X pins σ (upd H D (.dK (foldP ps))) s'→R (.ok (.ret .none)) s') :
  codeAny (model X.prog X.w) A (.call (.builtin "dict.__init__") ⟨[.ref D,.ref z],[]⟩) R s:=by
 obtain ⟨z0,hdS,vs,rel,dk⟩:=dk_of I.hok (upd_same (H:=H) (a:=D) (o:=.dK []))
 have hT:s.TypeIs (.ref D) "dict":=dk.typeIs
 have hL:s.TypeIs (.ref z) "zip":=⟨_,hz,rfl⟩
 refine codeAny_call_builtin F.kt_called_dict.init.plain F.entry_dict_init (F.kt_called_dict.init.check _ _ _ _ _ _ _ _ hT (F.args_dict_init_2 _ _) ?_)
 unfold Builtin.«dict.__init__»
 refine wpAny_bind ?_
 unfold Builtin.Dict.selfAndRest
 refine wpAny_bind (wpAny_notOrdered_dict hT ?_)
 refine wpAny_pure (show wpAny _ _ (Builtin.Dict.updateFrom "dict.__init__" D (.ref z) [] .none) _ _ s from ?_)
 unfold Builtin.Dict.updateFrom
 refine wpAny_bind (wpAny_typeOf hL ?_)
 rw [if_pos (by decide)]
 refine wpAny_bind (no_keysZ hz (show A.in1.handled=none from hh) fun h' tk kp=>?_)
 rw [if_pos (by decide)]
 refine wpAny_bind (wpAny_rule (wpAny_bind ?_))
 have I1:L2.Inv X pins σ (upd H D (.dK [])) { s with heap:=h',toks:=tk }:=I.kept kp
 refine wpAny_pyIter_zip (s:={ s with heap:=h',toks:=tk }) (kp _ _ hz) ?_
 refine wpAny_pure ⟨plainId_quiet plain_loop _,?_⟩
 obtain ⟨u,v,hTO⟩:=hTO
 exact dict_loopZ hh ap ha hb nD few fp dz ps.length 0 _ (by omega) I1 ⟨.inl ⟨kp _ _ hz,u,v,kp _ _ hTO⟩,kp _ _ hTI,h1.at fun o e=>kp _ _ e,h2.at fun o e=>kp _ _ e⟩ k
/-- dict(zip(t, xs)), t a tuple of keys, xs a list as long -/
inductive tDictZY (Q:VK) (vs:List V) (H1:Hp):Prop
 | mk:∀ (a b:Addr) (ps:List (Key×V)),(vs=[.ref a,.ref b])→H1 a=some (.tup (ps.map fun p=>kV p.1))→H1 b=some (.lst (ps.map fun p=>p.2))→ps.length≤1000→(∀ D,H1 D=none→Q (.ref D) (upd H1 D (.dK (foldP ps))))→tDictZY Q vs H1
def tDictZ (ta:TA):TE:=fun σ H Q=>ta σ H fun vs H1=>tDictZY Q vs H1
end
section
variable {X:Cx}
theorem pe_dictZ {a b:Expr} {ta:TA} {p p2 pos pos2:Pos} (hc:X.calm=true) (hg:Gl X "dict") (hm:X.mg "dict" = none) (hg2:Gl X "zip") (hm2:X.mg "zip" = none) (ha:PA X [a,b] ta) (hs:starEach [a,b] X.env=[(false,eval a X.env),(false,eval b X.env)]:=by rfl) (hs1:starEach [b] X.env=[(false,eval b X.env)]:=by rfl)
  (hs2:starEach [.Call (.Name "zip" p2) [a,b] [] pos2] X.env=[(false,eval (.Call (.Name "zip" p2) [a,b] [] pos2) X.env)]:=by rfl):PE X (.Call (.Name "dict" p) [.Call (.Name "zip" p2) [a,b] [] pos2] [] pos) (tDictZ ta):=by
 intro pins s σ H Q I h
 refine Call_ (ld_blt I hg hm boot_dict (PyProof.Rows.callWith_type1 ?_ hs2 rfl))
 refine PyProof.Rows.args_cons (Call_ (ld_blt I hg2 hm2 boot_zip (PyProof.Rows.callWith_type1 (thn (ha pos2 pins s σ H _ I h) fun us s1 ⟨vs,H1,I1,r1,q1⟩=>?_) (by rw [hs,hs1]) (by rw [hs1];rfl))))
 obtain ⟨l1,l2,ps,rfl,ha,hb,few,q⟩:=q1
 obtain ⟨u,v,rfl,r,r'⟩:=vals2 r1
 cases r
 cases r'
 obtain ⟨its1,rv1,p1⟩:=I1.sq (k:=false) (SqT.of ha)
 obtain ⟨its2,rv2,p2⟩:=I1.sq (k:=true) (SqL.of hb)
 have lt1:=p1.lt
 have lt2:=p2.lt
 refine call_zip_sq p1 p2 fun h' hz hTI hTO h1 h2 hk=>?_
 refine PyProof.Rows.args_nil ?_
 have I2:L2.Inv X pins σ H1 { s1 with heap:=h' }:=I1.kept (t':=s1.toks) hk
 have zl:s1.heap.objs.size+4<h'.objs.size:=Heap.lt_size hz
 have nD:H1 h'.objs.size=none:=I2.hok.fresh (Nat.le_refl _)
 have rg:∀ c∈[s1.heap.objs.size+4,s1.heap.objs.size+3,s1.heap.objs.size,s1.heap.objs.size+1,s1.heap.objs.size+2],s1.heap.objs.size≤c∧c≠h'.objs.size:=fun c hc=>by
  simp only [List.mem_cons,List.not_mem_nil,or_false] at hc
  omega
 refine call_dictG (Hf:=fun D=>upd H1 D (.dK (foldP ps))) I2 (fun s2 I3 kp=>?_) q
 exact init_zip (E:=X.xe) (show X.A.in1.handled=none from I1.ok.hd hc) (zap _ _ _ lt1 lt2) ha hb nD few (fun kvs c hc=>by
  obtain ⟨g1,g2⟩:=rg c (List.mem_append_left [_] hc)
  exact I1.fpOk g1 (by rw [upd_ne g2];exact I1.hok.fresh g1)) (fun c hc=>(rg c hc).2) (kp _ _ hz) ⟨_,_,kp _ _ hTO⟩ (kp _ _ hTI) (h1.at fun o e=>kp _ _ e) (h2.at fun o e=>kp _ _ e) I3 fun s' i=>⟨rfl,i⟩
end
end Dcl
set_option linter.all false
namespace Dcl
open PySem L2
/-- a number as a key -/
def kn (n:Nat):Key:=.inl (n:Int)
section
variable {ps:List (Key×V)}
end
end Dcl
set_option linter.all false
set_option Elab.async false
namespace Pic
open PySem Txs
def SG:List Nat:=[97,98,99,100,101,102,103,104,105,106,107,108,109,110,111,112,113,114,115,116,117,118,119,120,121,122,65,66,67,68,69,70,71,72,73,74,75,76,77,78]
abbrev Pl:=List (Nat×Nat)
def cell (ps:Pl) (x y:Nat):Nat:=if (x,y)∈ps then SG.getD (ps.idxOf (x,y)) 0 else 46
theorem idx_at {ps:Pl} (nd:ps.Nodup) {i:Nat} {a:Nat×Nat} (h:ps[i]?=some a):ps.idxOf a=i:=by
 obtain ⟨hi,e⟩:=List.getElem?_eq_some_iff.mp h
 subst e
 exact List.Nodup.idxOf_getElem nd i hi
/-- the places of a picture -/
structure Ok (ps:Pl):Prop where
 nd:ps.Nodup
 few:ps.length≤40
 lo:3≤ps.length
 x:∀ p∈ps,p.1≤76
 y:∀ p∈ps,p.2≤40
/-- the greatest of both -/
structure Bx (ps:Pl) (W h:Nat):Prop where
 xm:∃ p∈ps,p.1=W
 xl:∀ p∈ps,p.1≤W
 ym:∃ p∈ps,p.2=h
 yl:∀ p∈ps,p.2≤h
theorem Bx.uniq {ps:Pl} {W h W' h':Nat} (a:Bx ps W h) (b:Bx ps W' h'):W=W'∧h=h':=by
 obtain ⟨p,hp,rfl⟩:=a.xm
 obtain ⟨q,hq,rfl⟩:=b.xm
 obtain ⟨r,hr,rfl⟩:=a.ym
 obtain ⟨t,ht,rfl⟩:=b.ym
 have:=a.xl _ hq
 have:=b.xl _ hp
 have:=a.yl _ ht
 have:=b.yl _ hr
 omega
theorem Bx.le {ps:Pl} {W h:Nat} (o:Ok ps) (a:Bx ps W h):W≤76∧h≤40:=by
 obtain ⟨p,hp,rfl⟩:=a.xm
 obtain ⟨r,hr,rfl⟩:=a.ym
 exact ⟨o.x _ hp,o.y _ hr⟩
def line (ps:Pl) (W y:Nat):List Nat:=(List.range (W+1)).map fun x=>cell ps x y
/-- the places read, row by row, up to (x, y) -/
structure Scan (ps:Pl) (y x:Nat) (D:List Nat):Prop where
 nd:D.Nodup
 mem:∀ p,p∈D↔∃ a b,ps[p]?=some (a,b)∧(b<y∨b=y∧a<x)
theorem Scan.start (ps:Pl):Scan ps 0 0 []:=⟨List.nodup_nil,fun p=>⟨fun z=>(nomatch z),fun ⟨_,_,_,z⟩=>by omega⟩⟩
theorem Scan.hit {ps:Pl} (nd:ps.Nodup) {y x:Nat} {D:List Nat} (s:Scan ps y x D) {p:Nat} (h:ps[p]?=some (x,y)):p∉D∧Scan ps y (x+1) (D++[p]):=by
 have n:p∉D:=fun z=>by
  obtain ⟨a,b,e,c⟩:=(s.mem p).mp z
  rw [h] at e
  cases e
  omega
 refine ⟨n,?_,fun q=>?_⟩
 ·rw [List.nodup_append]
  exact ⟨s.nd,by simp,fun a ha b hb z=>n (by rw [List.mem_singleton] at hb;rw [←hb,←z];exact ha)⟩
 ·rw [List.mem_append,List.mem_singleton,s.mem]
  constructor
  ·rintro (⟨a,b,e,c⟩ | rfl)
   ·exact ⟨a,b,e,by omega⟩
   ·exact ⟨x,y,h,by omega⟩
  ·rintro ⟨a,b,e,c⟩
   by_cases z:b=y∧a=x
   ·obtain ⟨rfl,rfl⟩:=z
    right
    rw [←idx_at nd e,←idx_at nd h]
   ·left
    exact ⟨a,b,e,by omega⟩
theorem Scan.row {ps:Pl} {y W:Nat} {D:List Nat} (s:Scan ps y (W+1) D) (h:∀ p∈ps,p.1≤W):Scan ps (y+1) 0 D:=by
 refine ⟨s.nd,fun q=>?_⟩
 rw [s.mem]
 constructor
 ·rintro ⟨a,b,e,c⟩
  exact ⟨a,b,e,by omega⟩
 ·rintro ⟨a,b,e,c⟩
  have:a≤W:=h _ (List.mem_of_getElem? e)
  exact ⟨a,b,e,by omega⟩
theorem Scan.end {ps:Pl} {h:Nat} {D:List Nat} (s:Scan ps (h+1) 0 D) (hl:∀ p∈ps,p.2≤h):D.Perm (List.range ps.length):=by
 refine (List.perm_ext_iff_of_nodup s.nd List.nodup_range).mpr fun p=>?_
 rw [s.mem,List.mem_range]
 constructor
 ·rintro ⟨a,b,e,_⟩
  exact (List.getElem?_eq_some_iff.mp e).1
 ·intro hp
  refine ⟨ps[p].1,ps[p].2,List.getElem?_eq_getElem hp,?_⟩
  have:=hl _ (List.getElem_mem hp)
  omega
end Pic
set_option linter.all false
set_option Elab.async false
namespace Pic
def code (h:Nat) (p:Nat×Nat):Nat:=p.1*(h+1)+p.2
/-- a free place's code -/
theorem free {W h:Nat} {ps:Pl} (few:ps.length<(W+1)*(h+1)):∃ f,f<(W+1)*(h+1)∧∀ p∈ps,code h p≠f:=by
 refine Classical.byContradiction fun n=>?_
 have all:List.range ((W+1)*(h+1)) ⊆ ps.map (code h):=fun c hc=>by
  refine Classical.byContradiction fun m=>n ⟨c,List.mem_range.mp hc,fun p hp e=>m (List.mem_map.mpr ⟨p,hp,e⟩)⟩
 have:=List.Nodup.length_le_of_subset List.nodup_range all
 rw [List.length_range,List.length_map] at this
 omega
end Pic
set_option Elab.async false
set_option linter.all false
set_option maxRecDepth 100000
set_option maxHeartbeats 4000000
namespace L2
open PySem PySem.Spec PyProof.Rows
theorem walk_enum {k:Bool} {K:PySem.W.Frag} {a:Addr} {xs:List V} {g:TG} {b:TB} {N0:St→Hp→Prop} {σ:St} {H:Hp} (Pv:Nat→St→Hp→Prop) (h0:Pv 0 σ H) (hl:∀ i σ H,i≤xs.length→Pv i σ H→SqX K k H a xs)
  (hs:∀ i x T σ H,xs[i]?=some x→H T=none→Pv i σ H→g (.ref T) σ (upd H T (.tup [.int i,x])) fun σ2 H2=>b (Pv (i+1)) σ2 H2) (hd:∀ σ H,Pv xs.length σ H→N0 σ H):tWalk (Ite k K a) g b N0 σ H:=by
 refine ⟨fun i m σ H=>m=xs.length-i∧i≤xs.length∧Pv i σ H,⟨xs.length,by simp,Nat.zero_le _,h0⟩,?_⟩
 rintro i m σ H ⟨rfl,hle,p⟩
 have q1:=hl i σ H hle p
 rcases Nat.lt_or_ge i xs.length with hi | hi
 ·refine .inr ⟨⟨xs,xs[i],q1,by simp [hi]⟩,Pv (i+1),fun σ' H' q=>⟨xs.length-(i+1),by omega,rfl,by omega,q⟩,fun x H' hy=>?_⟩
  obtain ⟨T,x1,nT,rfl,e1,rfl⟩:=hy
  exact hs i x1 T σ H (e1 xs q1) nT p
 ·obtain rfl:i=xs.length:=by omega
  exact .inl ⟨⟨xs,q1,rfl⟩,hd σ H p⟩
end L2
set_option Elab.async false
set_option linter.all false
set_option maxRecDepth 100000
set_option maxHeartbeats 4000000
namespace Dct
set_option autoImplicit false
open PySem PySem.Spec PyProof.Rows
end Dct
namespace L2
open PySem PySem.Spec PyProof.Rows
section
variable {X:Cx} {pins:List (Addr×Obj)} {σ:St} {H:Hp} {s:Shared} {a:Addr} {y v:V} {u r:Value} {o:Option V} {A:Around} {E:Value→Shared→Prop}
end
section
variable {X:Cx} {tg iter kx vx:Expr} {ifs:List Expr} {sc:Scope} {pos:Pos} {Nc:List Str} {js:List (Option Nat)} {wi:TI}
/-- all pairs of the other one put, one by one -/
def foldK (kvs more:List (List Key×V)):List (List Key×V):=more.foldl (fun acc y=>putK acc y.1 y.2) kvs
theorem KT.fold {H:Hp}:∀ {more:List (List Key×V)} {ys:List (List Key×Addr×Value)} {kvs:List (List Key×V)} {xs:List (List Key×Addr×Value)},KT H kvs xs→KT H more ys→KT H (foldK kvs more) (Dct.fold xs ys)
 | [],_,_,_,r,.nil=>r
 | p::more,_,kvs,xs,r,.cons (b:=q) z t=>by
  have:=KT.fold (KT.put r q.1 (b:=q.2.1) (y:=p.2) (u:=q.2.2) (by rw [←z.1];exact z.2.1) z.2.2) t
  rw [←z.1] at this
  unfold foldK at *
  unfold Dct.fold at *
  rw [List.foldl_cons,List.foldl_cons,←z.1]
  exact this
end
end L2
set_option linter.all false
set_option maxRecDepth 100000
namespace HT
open PySem PySem.Spec PyProof.Rows
section
variable {M:Model} {A:Around} {E:Value→Shared→Prop} {s:Shared}
/-- the frame of a comprehension that has cells of its own -/
theorem nfe_own {scope:Scope} {globals:Addr} {closure:List (Str×Addr)} {qual:Str} {func:Option Addr} {code:Value} {outer:Env} {builtins:Addr} {Q:Env→Shared→Prop}
  (hQ:Q (newEnv scope s.heap.objs.size globals (cellsFrom (s.heap.objs.size+1) scope.names closure) qual func code (some outer) builtins)
   { s with heap:=pushCells (s.heap.push { cls:=.type "dict",data:=.dict #[] }) scope.names }) :
  wpAny M A (newFunctionEnv scope globals closure [] qual func code (some outer) builtins) Q E s:=by
 simp only [newFunctionEnv,Option.isSome_some,if_true]
 refine wpAny_bind (wpAny_alloc ?_)
 refine wpAny_bind (wpAny_layCells _ (fun name kind cells=>by cases hkc:kind == NameKind.cell<;>simp [hkc]) _ _ _ _ ?_)
 rw [show ({ s with heap:=s.heap.push { cls:=.type "dict",data:=.dict #[] } }:Shared).heap.objs.size=s.heap.objs.size+1 from Heap.size_push ..]
 refine wpAny_bind (wpAny_pure (wpAny_pure ?_))
 exact hQ
end
end HT
set_option linter.all false
set_option maxRecDepth 100000
namespace HT
open PySem PySem.Spec PyProof.Rows
/-- a name's cell is a new one, if it is the block's own, else the one that it was -/
theorem cells_of:∀ (names:List (Str×NameKind)) (lo:Nat) (acc:List (Str×Addr)) (x:Str) (c:Addr),(cellsFrom lo names acc).lookup x=some c→(lo≤c∧(x,NameKind.cell)∈names)∨acc.lookup x=some c
 | [],_,_,_,_,h=>.inr h
 | (n,k)::r,lo,acc,x,c,h=>by
  unfold cellsFrom at h
  split at h
  ·rename_i hk
   have hk:k=.cell:=by simpa using hk
   rcases cells_of r (lo+1) _ x c h with ⟨a,b⟩ | b
   ·exact .inl ⟨by omega,List.mem_cons_of_mem _ b⟩
   ·rw [List.lookup_cons] at b
    cases e:x == n with
    | true =>
     rw [e] at b
     cases b
     rw [beq_iff_eq.mp e,hk]
     exact .inl ⟨Nat.le_refl _,List.mem_cons_self⟩
    | false =>
     rw [e] at b
     exact .inr b
  ·rcases cells_of r lo acc x c h with ⟨a,b⟩ | b
   ·exact .inl ⟨a,List.mem_cons_of_mem _ b⟩
   ·exact .inr b
/-- one that is none of the block's own stays -/
theorem cells_keep:∀ (names:List (Str×NameKind)) (lo:Nat) (acc:List (Str×Addr)) (x:Str),(x,NameKind.cell)∉names→(cellsFrom lo names acc).lookup x=acc.lookup x
 | [],_,_,_,_=>rfl
 | (n,k)::r,lo,acc,x,h=>by
  have hr:(x,NameKind.cell)∉r:=fun z=>h (List.mem_cons_of_mem _ z)
  unfold cellsFrom
  split
  ·rename_i hk
   have hk:k=.cell:=by simpa using hk
   rw [cells_keep r _ _ x hr,List.lookup_cons]
   cases e:x == n with
   | true =>
    rw [beq_iff_eq.mp e,hk] at h
    exact absurd List.mem_cons_self h
   | false=>rfl
  ·exact cells_keep r _ _ x hr
/-- each of the block's own has one -/
theorem cells_has:∀ (names:List (Str×NameKind)) (lo:Nat) (acc:List (Str×Addr)) (x:Str),(x,NameKind.cell)∈names∨(∃ c,acc.lookup x=some c)→∃ c,(cellsFrom lo names acc).lookup x=some c
 | [],_,_,_,h=>h.elim (fun z=>nomatch z) id
 | (n,k)::r,lo,acc,x,h=>by
  unfold cellsFrom
  split
  ·refine cells_has r _ _ x ?_
   by_cases e:x=n
   ·subst e
    exact .inr ⟨lo,by rw [List.lookup_cons];simp⟩
   ·rcases h with h | ⟨c,h⟩
    ·rcases List.mem_cons.mp h with z | z
     ·exact absurd (congrArg Prod.fst z) e
     ·exact .inl z
    ·refine .inr ⟨c,?_⟩
     rw [List.lookup_cons,show (x == n)=false by simpa using e]
     exact h
  ·rename_i hk
   refine cells_has r _ _ x ?_
   rcases h with h | h
   ·rcases List.mem_cons.mp h with z | z
    ·have z2:NameKind.cell=k:=congrArg Prod.snd z
     exact absurd (by rw [←z2];rfl) hk
    ·exact .inl z
   ·exact .inr h
/-- two names have two cells -/
theorem cells_inj:∀ (names:List (Str×NameKind)) (lo:Nat) (acc:List (Str×Addr)),(∀ x c,acc.lookup x=some c→c<lo)→(∀ x y c,acc.lookup x=some c→acc.lookup y=some c→x=y) →
  ∀ x y c,(cellsFrom lo names acc).lookup x=some c→(cellsFrom lo names acc).lookup y=some c→x=y
 | [],_,_,_,h,x,y,c,e1,e2=>h x y c e1 e2
 | (n,k)::r,lo,acc,hl,h,x,y,c,e1,e2=>by
  unfold cellsFrom at e1 e2
  split at e1
  ·rename_i hk
   rw [if_pos hk] at e2
   have look:∀ z d,((n,lo)::acc).lookup z=some d→(z=n∧d=lo)∨(z≠n∧acc.lookup z=some d):=fun z d q=>by
    rw [List.lookup_cons] at q
    cases e:z == n with
    | true =>
     rw [e] at q
     cases q
     exact .inl ⟨beq_iff_eq.mp e,rfl⟩
    | false =>
     rw [e] at q
     exact .inr ⟨by simpa using e,q⟩
   refine cells_inj r (lo+1) ((n,lo)::acc) (fun z d q=>?_) (fun z z' d q q'=>?_) x y c e1 e2
   ·rcases look z d q with ⟨_,b⟩ | ⟨_,b⟩
    ·rw [b];exact Nat.lt_succ_self _
    ·exact Nat.lt_succ_of_lt (hl z d b)
   ·rcases look z d q with ⟨a,b⟩ | ⟨a,b⟩<;>rcases look z' d q' with ⟨a',b'⟩ | ⟨a',b'⟩
    ·rw [a,a']
    ·exact absurd (hl z' d b') (by rw [b];exact Nat.lt_irrefl _)
    ·exact absurd (hl z d b) (by rw [b'];exact Nat.lt_irrefl _)
    ·exact h z z' d b b'
  ·rename_i hk
   rw [if_neg hk] at e2
   exact cells_inj r lo acc hl h x y c e1 e2
end HT
set_option linter.all false
set_option maxRecDepth 100000
set_option maxHeartbeats 4000000
namespace HT
open PySem PySem.Spec PyProof.Rows
/-- the cell of one of the block's own is new -/
theorem cells_own:∀ (names:List (Str×NameKind)) (lo:Nat) (acc:List (Str×Addr)) (x:Str) (c:Addr),(x,NameKind.cell)∈names→(cellsFrom lo names acc).lookup x=some c→lo≤c
 | (n,k)::r,lo,acc,x,c,m,h=>by
  unfold cellsFrom at h
  by_cases mr:(x,NameKind.cell)∈r
  ·split at h
   ·exact Nat.le_of_succ_le (cells_own r (lo+1) _ x c mr h)
   ·exact cells_own r lo acc x c mr h
  ·rcases List.mem_cons.mp m with z | z
   ·injection z with z1 z2
    subst z1 z2
    rw [if_pos (by rfl),cells_keep r _ _ x mr,List.lookup_cons] at h
    simp at h
    exact Nat.le_of_eq h
   ·exact absurd z mr
end HT
namespace L2
open PySem PySem.Spec PyProof.Rows
/-- a comprehension's scope, perhaps with cells of its own -/
structure CS2 (sc S0:Scope):Prop where
 kind:sc.kind=.function
 names:∀ y∈sc.names,y.2=.local→sc.names.lookup y.1=some .local
 own:∀ y∈sc.names,y.2=.cell→sc.names.lookup y.1=some .cell
 nof:∀ x,sc.names.lookup x=some .free→(x,NameKind.cell)∉sc.names
 free:∀ y∈sc.names,y.2=.free→S0.names.lookup y.1=some .cell
def cxD (X:Cx) (Nc:List Str) (sc:Scope) (C:Addr) (s₂:Shared) (H₂:Hp) (fp:List Addr) (pins:List (Addr×Obj)):Cx :=
 { X with N:=Nc,s₀:=s₂,H₀:=H₂,env:=compEnvC sc (cellsFrom (C+1) sc.names (clOf sc X.env)) C X.env,outer:=X.stack,ex:=fp,fn:=fun x=>decide ((x,NameKind.cell)∈sc.names),pn:=X.pn++pins }
section
variable {X:Cx} {pins:List (Addr×Obj)} {σ:St} {H:Hp} {s:Shared} {sc:Scope} {Nc:List Str} {js:List (Option Nat)} {fp:List Addr}
theorem ok_comp2 (I:Inv X pins σ H s) (S:CS2 sc X.env.scope) (f:∀ b∈fp,FpOk X pins H b) (hlt:∀ b∈fp,b<s.heap.objs.size) {C:Addr} (hC:s.heap.objs.size≤C):(cxD X Nc sc C s H fp pins).Ok:=by
 have inX:∀ x c,(clOf sc X.env).lookup x=some c→X.env.cells.lookup x=some c:=fun x c e=>cl_in sc.names [] (fun z=>nomatch z) e
 have low:∀ x c,(clOf sc X.env).lookup x=some c→c<C+1:=fun x c e=>by
  obtain ⟨v,ic⟩:=I.cell x c (inX x c e)
  exact Nat.lt_succ_of_lt (Nat.lt_of_lt_of_le ic.lt hC)
 refine ⟨I.ok.mod,S.kind,I.ok.glob,I.ok.blt,hC,HT.cells_inj sc.names (C+1) _ low fun x y c e1 e2=>I.ok.inj x y c (inX x c e1) (inX y c e2),fun x hx=>?_,fun x c z e=>?_,I.ok.hd,I.ok.frames,.inl rfl,fun b hb=>⟨?_,fun x c e=>?_⟩,I.bs,Nat.le_trans I.ok.bsz I.sz,fun b o e hb=>?_,fun b hb hs=>?_,I.stack,I.stkFree⟩
 ·have hx':(sc.names.map (relOne X.env)).lookup x=some .cell∨(sc.names.map (relOne X.env)).lookup x=some .free:=hx
  rw [rel_look] at hx'
  refine HT.cells_has sc.names (C+1) _ x ?_
  cases e:sc.names.lookup x with
  | none=>rw [e] at hx';rcases hx' with z | z<;>cases z
  | some k =>
   rw [e] at hx'
   have m:(x,k)∈sc.names:=PySem.mem_of_lookup e
   have kf:k=.free∨k=.cell:=by
    unfold relOne at hx'
    by_cases hk:(k == NameKind.free)=true
    ·exact .inl (by simpa using hk)
    ·have hk':(k == NameKind.free)=false:=by simpa using hk
     simp only [hk',Bool.false_and,Option.map_some] at hx'
     rcases hx' with z | z
     ·exact .inr (by simpa using z)
     ·exact .inl (by simpa using z)
   rcases kf with rfl | rfl
   ·have hx2:=S.free _ m rfl
    obtain ⟨c,hc⟩:=I.ok.has x (.inl hx2)
    exact .inr (cl_has sc.names [] ⟨c,hc⟩ (.inr m))
   ·exact .inl m
 ·exact Nat.le_trans hC (Nat.le_of_succ_le (HT.cells_own sc.names (C+1) _ x c (of_decide_eq_true z) e))
 ·exact Nat.ne_of_lt (Nat.lt_of_lt_of_le (hlt b hb) hC)
 ·rcases HT.cells_of sc.names (C+1) _ x c e with ⟨a,_⟩ | q
  ·exact (Nat.ne_of_lt (Nat.lt_of_lt_of_le (hlt b hb) (Nat.le_trans hC (Nat.le_of_succ_le a)))).symm
  ·exact (f b hb).2.2.2.2.1 x c (inX x c q)
 ·obtain ⟨h0,h1,h2,h3,h4,h5⟩:=f b hb
  rcases h3 with z | z
  ·exact I.ok.noex b o e z
  ·exact absurd (Nat.lt_of_lt_of_le (Heap.lt_size (I.ok.bs b o e).1) z) (Nat.lt_irrefl _)
 ·obtain ⟨h0,h1,h2,h3,h4,h5⟩:=f b hb
  rcases List.mem_cons.mp (I.stkSub b hs) with z | z
  ·exact h1 z
  ·exact h2 z
end
end L2
set_option linter.all false
set_option maxRecDepth 100000
set_option maxHeartbeats 4000000
namespace L2
open PySem PySem.Spec PyProof.Rows
section
variable {X:Cx} {pins:List (Addr×Obj)} {σ:St} {H:Hp} {s:Shared} {sc:Scope} {Nc:List Str} {js:List (Option Nat)} {fp:List Addr}
/-- the block begins: h₁ is the heap with the new object at D (tracked as o) and the block's names at C -/
theorem inv_comp2 (I:Inv X pins σ H s) (S:CS2 sc X.env.scope) (f:∀ b∈fp,FpOk X pins H b) (hlt:∀ b∈fp,b<s.heap.objs.size) (cap:capOk js Nc X.N sc.names=true) {C D:Addr} {o:HO} {h₁:Heap} {m:Str→Option Value} {tk:Nat}
  (hC:s.heap.objs.size≤C) (hD:s.heap.objs.size≤D) (hDC:D<C) (hcl:∀ x c,(x,NameKind.cell)∈sc.names→(cellsFrom (C+1) sc.names (clOf sc X.env)).lookup x=some c→h₁.IsCell c none) (hk:∀ b ob,s.heap.get? b=some ob→h₁.get? b=some ob) (hns:h₁.Ns C m) (new:ObjOk X.prog X.w (upd H D o) h₁ D o) :
  Inv (cxD X Nc sc C s H fp pins) [] (compSt js σ) (upd H D o) { s with heap:=h₁,toks:=tk }:=by
 have inX:∀ x c,(clOf sc X.env).lookup x=some c→X.env.cells.lookup x=some c:=fun x c e=>cl_in sc.names [] (fun z=>nomatch z) e
 have fresh:∀ a,s.heap.objs.size≤a→H a=none:=fun a ha=>I.hok.fresh ha
 obtain ⟨cl,cp⟩:=cap_of cap
 refine ⟨ok_comp2 I S f hlt hC,rfl,I.bare,Un.laid hk hD (fresh D hD),⟨m,hns,fun i x v e1 e2 e3=>?_⟩,fun x c e=>?_,?_,fun x c e=>?_,fun p hp=>?_,I.hok.laid hk hD new,?_⟩
 ·-- a name of the frame's
  unfold compSt at e2
  rw [List.getElem?_map] at e2
  cases ej:js[i]? with
  | none=>rw [ej] at e2;cases e2
  | some oj =>
   rw [ej] at e2
   cases oj with
   | none=>cases e2
   | some j =>
    obtain ⟨hN,hfree⟩:=cp i j x ej e1
    have hv:σ[j]?=some (some v):=by
     simp only [Option.map_some,Option.bind_some,Option.some.injEq] at e2
     cases e:σ[j]? with
     | none=>rw [e] at e2;cases e2
     | some w=>rw [e] at e2;exact congrArg some e2
    have kc:X.env.kindOf x=some .cell:=S.free _ (PySem.mem_of_lookup hfree) rfl
    obtain ⟨m',hn',hl⟩:=I.loc
    obtain ⟨u,r,lk⟩:=hl j x v hN hv (.inr (.inl kc))
    refine ⟨u,r,.inr ⟨.inl ?_,?_⟩⟩
    ·show (sc.names.map (relOne X.env)).lookup x=some .cell
     rw [rel_look,hfree]
     unfold relOne
     simp [I.ok.kind,kc]
    ·rcases lk with ⟨z,_⟩ | ⟨_,c,hc,ic⟩
     ·rw [kc] at z;cases z
     ·obtain ⟨c',hc'⟩:=cl_has sc.names [] ⟨c,hc⟩ (.inr (PySem.mem_of_lookup hfree))
      have:c'=c:=Option.some.inj ((inX x c' hc').symm.trans hc)
      subst this
      exact ⟨c',by show (cellsFrom (C+1) sc.names (clOf sc X.env)).lookup x=some c';rw [HT.cells_keep _ _ _ x (S.nof x hfree)];exact hc',ic.keeps hk⟩
 ·by_cases own:(x,NameKind.cell)∈sc.names
  ·exact ⟨none,hcl x c own e⟩
  ·have e':(clOf sc X.env).lookup x=some c:=by rw [←HT.cells_keep sc.names (C+1) _ x own];exact e
   obtain ⟨v,ic⟩:=I.cell x c (inX x c e')
   exact ⟨v,ic.keeps hk⟩
 ·show upd H D o C=none
  rw [upd_ne (Nat.ne_of_lt hDC).symm]
  exact fresh C hC
 ·by_cases own:(x,NameKind.cell)∈sc.names
  ·have lo:=HT.cells_own sc.names (C+1) _ x c own e
   show upd H D o c=none
   rw [upd_ne (Nat.ne_of_lt (Nat.lt_trans hDC (Nat.lt_of_succ_le lo))).symm]
   exact fresh c (Nat.le_trans hC (Nat.le_of_succ_le lo))
  ·have e':(clOf sc X.env).lookup x=some c:=by rw [←HT.cells_keep sc.names (C+1) _ x own];exact e
   have q:=inX x c e'
   obtain ⟨v,ic⟩:=I.cell x c q
   show upd H D o c=none
   rw [upd_ne (Nat.ne_of_lt (Nat.lt_of_lt_of_le ic.lt hD))]
   exact I.freeC x c q
 ·have hp':p∈X.pn++pins:=by
   rcases List.mem_append.mp hp with z | z
   ·exact z
   ·exact absurd z (by simp)
  obtain ⟨a1,a2,a3,a4,a5⟩:=I.pin p hp'
  have lt:=Heap.lt_size a1
  refine ⟨hk _ _ a1,?_,Nat.ne_of_lt (Nat.lt_of_lt_of_le lt hC),fun z=>?_,a5⟩
  ·rw [upd_ne (Nat.ne_of_lt (Nat.lt_of_lt_of_le lt hD))]
   exact a2
  ·rcases List.mem_cons.mp (I.stkSub _ z) with z | z
   ·exact a3 z
   ·exact a4 z
 ·unfold compSt
  rw [List.length_map]
  exact cl
/-- the block ends: its names are let go (h' is as h but at C) -/
theorem inv_back2 {C:Addr} {σ':St} {H':Hp} {s':Shared} {h':Heap} (I:Inv X pins σ H s) (f:∀ b∈fp,FpOk X pins H b) (hC:s.heap.objs.size≤C) (J:Inv (cxD X Nc sc C s H fp pins) [] σ' H' s') (hs:Heap.SameBut C s'.heap h') :
  Inv X pins σ H' { s' with heap:=h' }:=by
 have u:=J.base
 have nC:H' C=none:=J.free
 have stay:∀ b ob,b≠C→s'.heap.get? b=some ob→h'.get? b=some ob:=fun b ob hb e=>hs.extBut b ob hb e
 have neC:∀ b ob,s.heap.get? b=some ob→b≠C:=fun b ob e=>Nat.ne_of_lt (Nat.lt_of_lt_of_le (Heap.lt_size e) hC)
 refine I.call' (ch:=fp) J.os ?_ (fun b v e=>?_) J.bare fun b hb=>⟨(f b hb).2.2.2.1,(f b hb).2.1,(f b hb).2.2.2.2.1,(f b hb).2.2.2.2.2⟩
 ·refine ⟨fun b ob e n h1 h2=>stay b ob (neC b ob e) (u.keep b ob e n h1 h2),fun b ob e n h1 h2=>?_,u.free,fun b ob e h2=>?_,u.tups,u.frzs,u.tbls⟩
  ·obtain ⟨sl,q⟩:=u.slot b ob e n h1 h2
   exact ⟨sl,stay b _ (neC b ob e) q⟩
  ·obtain ⟨o',q⟩:=u.there b ob e h2
   exact ⟨o',stay b _ (neC b ob e) q⟩
 ·have nb:∀ c w,H' c=some w→c≠C:=fun c w e z=>by rw [z,nC] at e;cases e
  refine (J.hok b v e).stay (fun c w hc q=>stay c w ?_ q) (fun _ q=>q) fun _ _ q=>q
  rcases hc with z | z
  ·rw [z];exact nb b v e
  ·exact nb c _ z
end
end L2
set_option Elab.async false
set_option linter.all false
set_option maxRecDepth 100000
set_option maxHeartbeats 4000000
namespace HT
open PySem PySem.Spec PyProof.Rows
/-- the block's own cells hold nothing yet -/
theorem cells_none:∀ (names:List (Str×NameKind)) (h:Heap) (acc:List (Str×Addr)) (x:Str) (c:Addr),(x,NameKind.cell)∈names→(cellsFrom h.objs.size names acc).lookup x=some c→(pushCells h names).IsCell c none:=by
 intro names
 induction names with
 | nil=>intro h acc x c m;cases m
 | cons p r ih =>
  obtain ⟨n,k⟩:=p
  intro h acc x c m e
  unfold cellsFrom at e
  unfold pushCells
  by_cases mr:(x,NameKind.cell)∈r
  ·split at e
   ·rename_i hk
    rw [if_pos hk]
    refine ih _ ((n,h.objs.size)::acc) x c mr ?_
    rw [Heap.size_push]
    exact e
   ·rename_i hk
    rw [if_neg hk]
    exact ih _ _ x c mr e
  ·rcases List.mem_cons.mp m with z | z
   ·injection z with z1 z2
    subst z1 z2
    rw [if_pos (by rfl),cells_keep r _ _ x mr,List.lookup_cons] at e
    simp at e
    subst e
    rw [if_pos (by rfl)]
    have q:(h.push { cls:=.type "cell",data:=.cell none }).IsCell h.objs.size none:=by
     first
      | exact ⟨_,Heap.get?_push_size _ rfl,rfl⟩
      | exact ⟨_,Heap.get?_push_size _ rfl⟩
      | exact Heap.get?_push_size _ rfl
    exact q.keeps fun b o hb=>pushCells_keeps r _ b o hb
   ·exact absurd z mr
end HT
namespace L2
open PySem PySem.Spec PyProof.Rows
section
variable {X:Cx} {e tg iter el:Expr} {ifs:List Expr} {gens rest:List Comprehension} {sc:Scope} {pos:Pos} {Nc:List Str} {js:List (Option Nat)} {wi:TI}
end
end L2
set_option linter.all false
set_option maxRecDepth 100000
set_option maxHeartbeats 4000000
namespace L2
open PySem PySem.Spec PyProof.Rows
def csOk2 (sc S0:Scope):Bool:=(sc.names.all fun y=>(y.2 != .local || sc.names.lookup y.1 == some .local) && (y.2 != .cell || sc.names.lookup y.1 == some .cell) && (y.2 != .free || S0.names.lookup y.1 == some .cell))
theorem CS2.of {sc S0:Scope} (k:sc.kind=.function) (h:csOk2 sc S0=true):CS2 sc S0:=by
 have q:∀ y∈sc.names,_:=List.all_eq_true.mp h
 have own:∀ y∈sc.names,y.2=.cell→sc.names.lookup y.1=some .cell:=fun y hy e=>by
  have z:=q y hy
  rw [Bool.and_eq_true,Bool.and_eq_true] at z
  obtain ⟨⟨z1,z2⟩,z3⟩:=z
  rw [e] at z2
  simpa using z2
 refine ⟨k,fun y hy e=>?_,own,fun x e m=>?_,fun y hy e=>?_⟩
 ·have z:=q y hy
  rw [Bool.and_eq_true,Bool.and_eq_true] at z
  obtain ⟨⟨z1,z2⟩,z3⟩:=z
  rw [e] at z1;simpa using z1
 ·have:=own _ m rfl
  rw [e] at this
  cases this
 ·have z:=q y hy
  rw [Bool.and_eq_true,Bool.and_eq_true] at z
  obtain ⟨⟨z1,z2⟩,z3⟩:=z
  rw [e] at z3;simpa using z3
end L2
set_option Elab.async false
set_option linter.all false
set_option maxRecDepth 100000
set_option maxHeartbeats 4000000
namespace L2
open PySem PySem.Spec PyProof.Rows
section
variable {X:Cx} {tg iter el:Expr} {ifs:List Expr} {sc:Scope} {pos py spos:Pos} {Nc:List Str} {js:List (Option Nat)} {wi:TI} {i:Nat} {y:Str}
/-- as ps_lc1x: the block may have cells of its own -/
theorem ps_lc1y {g:TG} {bd:Addr→TB} (hx:X.xe=fun _ _=>False) (hc:X.calm=true) (hN:X.N.Nodup) (hiN:X.N[i]?=some y) (hy:Loc X.env.scope y) (hi:PI X tg iter wi) (S:CS2 sc X.env.scope) (cap:capOk js Nc X.N sc.names=true)
  (hg:∀ C s₂ H₂ fp pins,PG (cxD X Nc sc C s₂ H₂ fp pins) tg g)
  (hb:∀ C s₂ H₂ fp pins D L,PTl (cxD X Nc sc C s₂ H₂ fp pins) (tailOf ifs (cxD X Nc sc C s₂ H₂ fp pins).env (do let _ ←call (.builtin "list.append") [.ref D,←eval el (cxD X Nc sc C s₂ H₂ fp pins).env]) L) L (bd D))
  (hs:∀ x,foldedSetIterable iter X.env x=pure x:=by intro _;rfl)
  (hsw:swapsWith (.ListComp el [⟨tg,iter,ifs,0⟩] sc pos) (some (.Name y py)) spos.line X.env=pure true:=by rfl)
  (hf:X.fn y=true∨X.env.scope.names.lookup y=some .local:=by first | exact .inl rfl | exact .inr rfl | assumption) :
  PS X (.Assign [.Name y py] (.ListComp el [⟨tg,iter,ifs,0⟩] sc pos) spos) (tAsg (tLC js wi g bd) (gName i)):=by
 intro pins s σ H D0 I h
 have hcl:closureFor sc X.env=pure (clOf sc X.env):=closure_of fun y hy hf=>I.ok.has y.1 (.inl (S.free y hy hf))
 rw [exec_Assign_Name_used _ _ _ _ hsw]
 refine wpAny_bind (wpAny_standAt (wpAny_bind ?_))
 show wpAny _ X.A (do let _ ←comprehension (.ListComp el [⟨tg,iter,ifs,0⟩] sc pos) sc X.env _ (newList []) false (eval iter X.env) (some (assign (.Name y py) X.env))) _ _ s
 refine wpAny_bind (wpAny_mono (wpAny_comprehension_free (use:=some (assign (.Name y py) X.env)) (Q:=fun _ s'=>SP X pins D0 .next s') rfl hs hcl S.kind S.names
  (thn (hi pins s σ H _ I h) fun v s1 h1=>thn h1 fun itv s2 h2=>?_)) (fun _ s' hq=>wpAny_pure (wpAny_pure hq)) fun _ _ e=>e)
 obtain ⟨it,fp,tn,J,H2,e,I2,T,st2,f2,hw⟩:=h2
 subst e
 have hlt:∀ b∈fp,b<s2.heap.objs.size:=fun b hb=>let ⟨o,ho,_⟩:=T.obj _ _ st2 b hb;Heap.lt_size ho
 refine wpAny_newObj_type (HT.nfe_own ?_)
 dsimp only
 generalize hH2:s2.heap.push { cls:=.type "list",dict:=none,data:=.seq ([]:List Value).toArray }=G
 have hCs:G.objs.size=s2.heap.objs.size+1:=by rw [←hH2,Heap.size_push]
 have hDC:s2.heap.objs.size<G.objs.size:=by omega
 have hCle:s2.heap.objs.size≤G.objs.size:=by omega
 generalize hh₁:pushCells (G.push { cls:=.type "dict",data:=.dict #[] }) sc.names=h₁
 have old:∀ b o,s2.heap.get? b=some o→h₁.get? b=some o:=fun b o e=>hh₁ ▸ pushCells_keeps sc.names _ b o (Heap.get?_push_of_some _ (hH2 ▸ Heap.get?_push_of_some _ e))
 have hacc:h₁.get? s2.heap.objs.size=some { cls:=.type "list",dict:=none,data:=.seq ([]:List Value).toArray }:=hh₁ ▸ pushCells_keeps sc.names _ _ _ (Heap.get?_push_of_some _ (hH2 ▸ Heap.get?_push_size _ rfl))
 have hns₁:h₁.Ns G.objs.size fun _=>none:=by
  obtain ⟨o,es,k,a,b⟩:=Heap.Ns.new G (.type "dict")
  exact ⟨o,es,k,hh₁ ▸ pushCells_keeps sc.names _ _ _ a,b⟩
 have hcl₁:∀ x c,(x,NameKind.cell)∈sc.names→(cellsFrom (G.objs.size+1) sc.names (clOf sc X.env)).lookup x=some c→h₁.IsCell c none:=fun x c m e=>by
  rw [←hh₁]
  refine HT.cells_none sc.names _ (clOf sc X.env) x c m ?_
  rw [Heap.size_push]
  exact e
 have new:ObjOk X.prog X.w (upd H2 s2.heap.objs.size (.lst [])) h₁ s2.heap.objs.size (.lst []):=⟨Nat.zero_le _,[],_,.nil,hacc⟩
 have I4:=inv_comp2 (js:=js) (Nc:=Nc) (tk:=s2.toks) I2 S f2 hlt cap hCle (Nat.le_refl _) hDC hcl₁ old hns₁ new
 have hn:H2 s2.heap.objs.size=none:=I2.fresh
 have f4:∀ b∈fp,FpOk (cxD X Nc sc G.objs.size s2 H2 fp pins) [] (upd H2 s2.heap.objs.size (.lst [])) b:=fun b hb=>by
  obtain ⟨h0,h1,h2,h3,h4,h5⟩:=f2 b hb
  refine ⟨?_,Nat.ne_of_lt (Nat.lt_of_lt_of_le (hlt b hb) hCle),fun z=>?_,.inl hb,fun x c z=>?_,fun p hp=>?_⟩
  ·rw [upd_ne (Nat.ne_of_lt (hlt b hb))];exact h0
  ·rcases List.mem_cons.mp (I2.stkSub b z) with q | q
   ·exact h1 q
   ·exact h2 q
  ·rcases HT.cells_of sc.names (G.objs.size+1) _ x c z with ⟨a,_⟩ | q
   ·exact (Nat.ne_of_lt (Nat.lt_of_lt_of_le (hlt b hb) (Nat.le_trans hCle (Nat.le_of_succ_le a)))).symm
   ·exact h4 x c (cl_in sc.names [] (fun z=>nomatch z) q)
  ·rcases List.mem_append.mp hp with z | z
   ·exact h5 p z
   ·exact absurd z (by simp)
 have st4:tn 0 h₁:=T.keep _ _ _ st2 fun b hb o e=>old b o e
 have loop:codeAny (model X.prog X.w) X.A (.compLoop (.ListComp el [⟨tg,iter,ifs,0⟩] sc pos) 0 (.ref it) (.ref s2.heap.objs.size) (compEnvC sc (cellsFrom (G.objs.size+1) sc.names (clOf sc X.env)) G.objs.size X.env))
   (compPost (model X.prog X.w) X.A X.xe (some (assign (.Name y py) X.env)) (fun _ s'=>SP X pins D0 .next s') (.ref s2.heap.objs.size) G.objs.size) { s2 with heap:=h₁,toks:=s2.toks }:=by
  refine comp_loop (X:=cxD X Nc sc G.objs.size s2 H2 fp pins) (.inl ⟨el,rfl⟩) hx hc (turn_l1 _ _ _ _ _ _ _ _ _) T (hg _ _ _ _ _) (hb _ _ _ _ _ _ _) I4 st4 f4 (hw _ hn) fun σ' H' s' I' q=>?_
  obtain ⟨m',hm',_⟩:=I'.loc
  have IB:Inv X pins σ H' { s' with heap:=s'.heap }:=inv_back2 I2 f2 hCle I' (Heap.SameBut.refl ..)
  have nC:H' G.objs.size=none:=I'.free
  have fC:FpOk X pins H' G.objs.size:=I2.fpOk hCle nC
  show wpAny _ X.A (assign (.Name y py) X.env (.ref s2.heap.objs.size)) _ _ s'
  refine wpAny_assign_Name (store_ok2 (v:=.ref s2.heap.objs.size) IB hN hiN hy rfl (fun s'' IC hsb=>?_) hf)
  obtain ⟨a,sb,ha⟩:=hsb
  have aC:G.objs.size≠a:=by
   rcases ha with rfl | ha
   ·exact fC.2.1
   ·exact fun z=>fC.2.2.2.2.1 y a ha z.symm
  refine ⟨m',hm'.sameBut sb aC,fun h' hs'=>?_⟩
  exact ⟨_,H',IC.turnedL (t':=s''.toks) (ch:=[G.objs.size]) (fun b o hb' e=>hs'.extBut b o (fun z=>hb' (by simp [z])) e) (fun b hb'=>by rw [List.mem_singleton.mp hb'];exact fC),q⟩
 exact comp_start (.inl ⟨el,rfl⟩) rfl rfl loop (T.self _ _ _ _ _ st4 loop)
end
end L2
set_option Elab.async false
set_option linter.all false
set_option maxRecDepth 100000
set_option maxHeartbeats 4000000
namespace L2
open PySem PySem.Spec PyProof.Rows
section
variable {X:Cx} {tg iter kx vx tg2 iter2:Expr} {ifs ifs2:List Expr} {sc:Scope} {pos:Pos} {Nc:List Str} {js:List (Option Nat)} {wi wi2:TI} {g g2:TG}
end
end L2
set_option Elab.async false
set_option linter.all false
set_option maxRecDepth 100000
set_option maxHeartbeats 4000000
namespace HT
open PySem PySem.Spec PyProof.Rows
end HT
namespace L2
open PySem PySem.Spec PyProof.Rows
section
variable {X:Cx}
end
end L2
set_option Elab.async false
set_option linter.all false
set_option maxRecDepth 100000
set_option maxHeartbeats 4000000
namespace L2
open PySem PySem.Spec PyProof.Rows
section
variable {X:Cx}
end
end L2
set_option linter.all false
namespace Cyc
def Adj:List Nat→Nat→Nat→Prop
 | x::y::r,a,b=>(a=x∧b=y)∨Adj (y::r) a b
 | _,_,_=>False
def Nx (row:List Nat) (a b:Nat):Prop:=Adj (row++row.head?.toList) a b
theorem adj_one (x a b:Nat):¬ Adj [x] a b:=id
theorem adj_app:∀ (l:List Nat) (x:Nat) (r:List Nat) (a b:Nat),Adj (l++x::r) a b↔Adj (l++[x]) a b∨Adj (x::r) a b
 | [],x,r,a,b=>⟨.inr,fun h=>h.elim (fun z=>(adj_one x a b z).elim) id⟩
 | [y],x,r,a,b=>by
  show (a=y∧b=x)∨Adj (x::r) a b↔((a=y∧b=x)∨Adj [x] a b)∨Adj (x::r) a b
  have:=adj_one x a b
  exact ⟨fun h=>h.elim (fun z=>.inl (.inl z)) .inr,fun h=>h.elim (fun z=>z.elim .inl fun q=>(this q).elim) .inr⟩
 | y::z::l,x,r,a,b=>by
  have ih:=adj_app (z::l) x r a b
  show (a=y∧b=z)∨Adj (z::l++x::r) a b↔((a=y∧b=z)∨Adj (z::l++[x]) a b)∨Adj (x::r) a b
  rw [ih]
  exact ⟨fun h=>h.elim (fun q=>.inl (.inl q)) fun q=>q.elim (fun q=>.inl (.inr q)) .inr,fun h=>h.elim (fun q=>q.elim .inl fun q=>.inr (.inl q)) fun q=>.inr (.inr q)⟩
theorem adj_mem:∀ {l:List Nat} {a b:Nat},Adj l a b→a∈l∧b∈l.tail
 | [],_,_,h=>h.elim
 | [_],_,_,h=>h.elim
 | x::y::r,a,b,h=>by
  rcases h with ⟨rfl,rfl⟩ | h
  ·exact ⟨List.mem_cons_self,List.mem_cons_self⟩
  ·have:=adj_mem h
   exact ⟨List.mem_cons_of_mem _ this.1,List.mem_cons_of_mem _ this.2⟩
theorem nx_cons (x:Nat) (r:List Nat) (a b:Nat):Nx (x::r) a b↔Adj (x::r++[x]) a b:=Iff.rfl
theorem nx_rot (A C:List Nat) (a b:Nat):Nx (A++C) a b↔Nx (C++A) a b:=by
 cases A with
 | nil=>rw [List.nil_append,List.append_nil]
 | cons a0 A' =>
  cases C with
  | nil=>rw [List.nil_append,List.append_nil]
  | cons c0 C' =>
   have e1:Nx (a0::A'++c0::C') a b↔Adj ((a0::A')++c0::(C'++[a0])) a b:=by
    show Adj ((a0::A'++c0::C')++[a0]) a b↔_
    rw [List.append_assoc]
    exact Iff.rfl
   have e2:Nx (c0::C'++a0::A') a b↔Adj ((c0::C')++a0::(A'++[c0])) a b:=by
    show Adj ((c0::C'++a0::A')++[c0]) a b↔_
    rw [List.append_assoc]
    exact Iff.rfl
   rw [e1,e2,adj_app (a0::A') c0,adj_app (c0::C') a0]
   exact Or.comm
/-- the least about a row told from one of its places -/
theorem nx_head (v:Nat) (R:List Nat) (a b:Nat):Nx (v::R) a b↔(a=v∧b=(R++[v]).headD 0)∨Adj (R++[v]) a b:=by
 rw [nx_cons]
 cases R with
 | nil=>exact Iff.rfl
 | cons y r=>exact Iff.rfl
theorem split_of {row:List Nat} {v:Nat} (h:v∈row):∃ A B,row=A++v::B:=List.append_of_mem h
theorem nx_mem {row:List Nat} {a b:Nat} (h:Nx row a b):a∈row∧b∈row:=by
 cases row with
 | nil=>exact h.elim
 | cons x r =>
  have q:=adj_mem h
  constructor
  ·rcases List.mem_append.mp q.1 with z | z
   ·exact z
   ·exact List.mem_cons.mpr (.inl (by simpa using z))
  ·rcases List.mem_append.mp q.2 with z | z
   ·exact List.mem_cons_of_mem _ z
   ·exact List.mem_cons.mpr (.inl (by simpa using z))
end Cyc
set_option linter.all false
set_option maxHeartbeats 1000000
namespace Tri
open Cyc
abbrev Rows:=List (List Nat)
/-- in the row of q, b comes right behind a -/
def R (L:Rows) (q a b:Nat):Prop:=∃ row,L[q]?=some row∧Nx row a b
/-- b stands in the row of a -/
def E (L:Rows) (a b:Nat):Prop:=∃ row,L[a]?=some row∧b∈row
inductive Reach (L:Rows):Nat→Nat→Prop
 | here (a:Nat):Reach L a a
 | more {a b c:Nat}:Reach L a b→E L b c→Reach L a c
theorem Reach.trans {L:Rows} {a b c:Nat} (h:Reach L a b) (h':Reach L b c):Reach L a c:=by
 induction h' with
 | here=>exact h
 | more _ e ih=>exact .more ih e
theorem Reach.by {L L':Rows} (h:∀ a b,E L a b→Reach L' a b) {a b:Nat} (r:Reach L a b):Reach L' a b:=by
 induction r with
 | here=>exact .here _
 | more _ e ih=>exact ih.trans (h _ _ e)
structure Good (L:Rows):Prop where
 three:3≤L.length
 ne:∀ (p:Nat) (row:List Nat),L[p]?=some row→row≠[]
 nd:∀ (p:Nat) (row:List Nat),L[p]?=some row→row.Nodup
 rng:∀ (p:Nat) (row:List Nat) (a:Nat),L[p]?=some row→a∈row→a<L.length∧a≠p
 tri:∀ q a b,R L q a b→R L a b q
 con:∀ p,p<L.length→Reach L 0 p
 tot:(L.map List.length).sum+12=6*L.length
theorem e_of_r {L:Rows} {q a b:Nat} (h:R L q a b):E L q a∧E L q b:=by
 obtain ⟨row,e,n⟩:=h
 exact ⟨⟨row,e,(nx_mem n).1⟩,⟨row,e,(nx_mem n).2⟩⟩
theorem nx_ex' {row:List Nat} {a:Nat} (h:a∈row):∃ b,Nx row a b:=by
 obtain ⟨A,B,rfl⟩:=split_of h
 refine ⟨(B++A++[a]).headD 0,(nx_rot A (a::B) _ _).mpr ?_⟩
 exact (nx_head a (B++A) a _).mpr (.inl ⟨rfl,rfl⟩)
/-- ties go both ways -/
theorem Good.sym {L:Rows} (G:Good L) {a b:Nat} (h:E L a b):E L b a:=by
 obtain ⟨row,e,m⟩:=h
 obtain ⟨c,n⟩:=nx_ex' m
 have:=G.tri a b c ⟨row,e,n⟩
 exact (e_of_r this).2
section
variable {L:Rows} {p q r:Nat} {rp rq rr:List Nat}
end
end Tri
set_option linter.all false
set_option maxHeartbeats 1000000
namespace Tri
open Cyc
section
variable {L:Rows} {p q r s:Nat} {rp rq rr rs:List Nat}
end
end Tri
set_option linter.all false
namespace Tri
open Cyc
end Tri
set_option linter.all false
set_option maxHeartbeats 1000000
namespace Rnd
open Cyc Tri
section
variable {α:Type} [DecidableEq α]
def it (f:α→α):Nat→α→α
 | 0,x=>x
 | n+1,x=>f (it f n x)
theorem it_add (f:α→α) (m n:Nat) (x:α):it f (m+n) x=it f m (it f n x):=by
 induction m with
 | zero=>rw [Nat.zero_add];rfl
 | succ m ih=>rw [Nat.succ_add];show f _=f _;rw [ih]
structure Perm (f:α→α) (S:List α):Prop where
 to:∀ x,x∈S→f x∈S
 one:∀ x y,x∈S→y∈S→f x=f y→x=y
theorem Perm.it {f:α→α} {S:List α} (h:Perm f S) (n:Nat) {x:α} (hx:x∈S):it f n x∈S:=by
 induction n with
 | zero=>exact hx
 | succ n ih=>exact h.to _ ih
theorem Perm.back {f:α→α} {S:List α} (h:Perm f S) (n:Nat) {x y:α} (hx:x∈S) (hy:y∈S) (e:Rnd.it f n x=Rnd.it f n y):x=y:=by
 induction n with
 | zero=>exact e
 | succ n ih=>exact ih (h.one _ _ (h.it n hx) (h.it n hy) e)
theorem map_nodup {f:Nat→α}:∀ (n:Nat),(∀ i j,i<j→j<n→f i≠f j)→((List.range n).map f).Nodup
 | 0,_=>by simp
 | n+1,h=>by
  rw [List.range_succ,List.map_append,List.nodup_append]
  refine ⟨map_nodup n fun i j a b=>h i j a (by omega),by simp,fun a ha b hb=>?_⟩
  obtain ⟨i,hi,rfl⟩:=List.mem_map.mp ha
  have:b=f n:=by simpa using hb
  subst this
  exact h i n (List.mem_range.mp hi) (by omega)
/-- it comes back, after as many turns at most as there are -/
theorem Perm.comes {f:α→α} {S:List α} (h:Perm f S) {x:α} (hx:x∈S):∃ k,0<k∧k≤S.length∧Rnd.it f k x=x∧∀ j,0<j→j<k→Rnd.it f j x≠x:=by
 have some:∃ k,0<k∧k≤S.length∧Rnd.it f k x=x:=by
  refine Classical.byContradiction fun no=>?_
  have nd:((List.range (S.length+1)).map fun i=>Rnd.it f i x).Nodup:=map_nodup _ fun i j hij hj e=>by
   refine no ⟨j-i,by omega,by omega,?_⟩
   have e2:Rnd.it f i (Rnd.it f (j-i) x)=Rnd.it f i x:=by
    rw [←it_add,show i+(j-i)=j by omega];exact e.symm
   exact h.back i (h.it _ hx) hx e2
  have le:=List.Nodup.length_le_of_subset nd (l₂:=S) fun y hy=>by
   obtain ⟨i,_,rfl⟩:=List.mem_map.mp hy
   exact h.it i hx
  rw [List.length_map,List.length_range] at le
  omega
 obtain ⟨k0,p0,l0,e0⟩:=some
 have least:∀ n,(∃ k,0<k∧k≤n∧Rnd.it f k x=x)→∃ k,0<k∧k≤n∧Rnd.it f k x=x∧∀ j,0<j→j<k→Rnd.it f j x≠x:=fun n=>by
  induction n with
  | zero=>rintro ⟨k,a,b,_⟩;omega
  | succ n ih =>
   intro hk
   by_cases c:∃ k,0<k∧k≤n∧Rnd.it f k x=x
   ·obtain ⟨k,a,b,e,m⟩:=ih c
    exact ⟨k,a,by omega,e,m⟩
   ·obtain ⟨k,a,b,e⟩:=hk
    refine ⟨k,a,b,e,fun j j0 jk ej=>c ⟨j,j0,by omega,ej⟩⟩
 exact least S.length ⟨k0,p0,l0,e0⟩
end
end Rnd
set_option Elab.async false
set_option linter.all false
namespace Mth
structure Fr (n d n' d':Int):Prop where
 pos:0<d'
 co:Int.gcd n' d'=1
 eq:n'*d=n*d'
 ln:n'.natAbs≤n.natAbs
 ld:d'.natAbs≤d.natAbs
theorem gcd_pos {n d:Int} (h:d≠0):0<(Int.gcd n d:Int):=by
 have:Int.gcd n d≠0:=by
  intro e
  exact h (Int.gcd_eq_zero_iff.mp e).2
 omega
theorem natAbs_mul_le {a b c:Int} (h:a=b*c) (hc:c≠0):b.natAbs≤a.natAbs:=by
 rw [h,Int.natAbs_mul]
 exact Nat.le_mul_of_pos_right _ (Int.natAbs_pos.mpr hc)
theorem fr_of {n d g:Int} (hd:d≠0) (hg:g=(Int.gcd n d:Int)∨g = -(Int.gcd n d:Int)) (hs:0<d.fdiv g):Fr n d (n.fdiv g) (d.fdiv g):=by
 have gp:=gcd_pos (n:=n) hd
 have g0:g≠0:=by rcases hg with e | e<;>omega
 have dn:g ∣ n:=by
  rcases hg with e | e
  ·rw [e];exact Int.gcd_dvd_left _ _
  ·rw [e];exact Int.neg_dvd.mpr (Int.gcd_dvd_left _ _)
 have dd:g ∣ d:=by
  rcases hg with e | e
  ·rw [e];exact Int.gcd_dvd_right _ _
  ·rw [e];exact Int.neg_dvd.mpr (Int.gcd_dvd_right _ _)
 have en:n=n.fdiv g*g:=by rw [Int.fdiv_eq_ediv_of_dvd dn,Int.ediv_mul_cancel dn]
 have ed:d=d.fdiv g*g:=by rw [Int.fdiv_eq_ediv_of_dvd dd,Int.ediv_mul_cancel dd]
 have gabs:g.natAbs=Int.gcd n d:=by rcases hg with e | e<;>omega
 refine ⟨hs,?_,?_,natAbs_mul_le en g0,natAbs_mul_le ed g0⟩
 ·have e1:Int.gcd (n.fdiv g*g) (d.fdiv g*g)=Int.gcd n d:=by rw [←en,←ed]
  rw [Int.gcd_mul_right,gabs] at e1
  have:0<Int.gcd n d:=by omega
  exact Nat.eq_of_mul_eq_mul_right this (by omega)
 ·calc n.fdiv g*d=n.fdiv g*(d.fdiv g*g):=by rw [←ed]
   _=(n.fdiv g*g)*d.fdiv g:=by rw [Int.mul_comm (d.fdiv g) g,Int.mul_assoc]
   _=n*d.fdiv g:=by rw [←en]
/-- the divisor has the sign of d -/
theorem fdiv_pos_of {n d g:Int} (hd:d≠0) (hg:(0<d∧g=(Int.gcd n d:Int))∨(d<0∧g = -(Int.gcd n d:Int))):0<d.fdiv g:=by
 have gp:=gcd_pos (n:=n) hd
 have dd:g ∣ d:=by
  rcases hg with ⟨_,e⟩ | ⟨_,e⟩
  ·rw [e];exact Int.gcd_dvd_right _ _
  ·rw [e];exact Int.neg_dvd.mpr (Int.gcd_dvd_right _ _)
 have ed:d=d.fdiv g*g:=by rw [Int.fdiv_eq_ediv_of_dvd dd,Int.ediv_mul_cancel dd]
 rcases hg with ⟨h,e⟩ | ⟨h,e⟩
 ·have g1:0<g:=by omega
  rw [ed] at h
  refine Int.not_le.mp fun z=>?_
  have:=Int.mul_nonpos_of_nonpos_of_nonneg z (Int.le_of_lt g1)
  omega
 ·have g1:g<0:=by omega
  refine Int.not_le.mp fun z=>?_
  have:=Int.mul_nonneg_of_nonpos_of_nonpos z (Int.le_of_lt g1)
  omega
theorem gcd_le {n d:Int} (h:d≠0):Int.gcd n d≤d.natAbs:=Nat.le_of_dvd (Int.natAbs_pos.mpr h) (Int.gcd_dvd_natAbs_right n d)
/-- one turn of Euclid's way -/
theorem gcd_turn (a b:Nat):Nat.gcd b (a % b)=Nat.gcd a b:=by
 rw [Nat.gcd_comm a b,Nat.gcd_rec b a,Nat.gcd_comm]
theorem mul_lt_pow {a b:Int} {i j:Nat} (h:a.natAbs<2 ^ i) (h':b.natAbs<2 ^ j):(a*b).natAbs<2 ^ (i+j):=by
 rw [Int.natAbs_mul,Nat.pow_add]
 exact Nat.mul_lt_mul'' h h'
theorem add_lt_pow {a b:Int} {i:Nat} (h:a.natAbs<2 ^ i) (h':b.natAbs<2 ^ i):(a+b).natAbs<2 ^ (i+1):=by
 have:=Int.natAbs_add_le a b
 rw [Nat.pow_succ]
 omega
theorem sub_lt_pow {a b:Int} {i:Nat} (h:a.natAbs<2 ^ i) (h':b.natAbs<2 ^ i):(a-b).natAbs<2 ^ (i+1):=by
 have:=Int.natAbs_sub_le a b
 rw [Nat.pow_succ]
 omega
theorem up {a:Int} {i j:Nat} (h:a.natAbs<2 ^ i) (hij:i≤j):a.natAbs<2 ^ j:=Nat.lt_of_lt_of_le h (Nat.pow_le_pow_right (by decide) hij)
end Mth
set_option Elab.async false
set_option linter.all false
namespace Mth
structure Pt where
 n:Int
 d:Int
 m:Int
 e:Int
def sgn (i:Int):Int:=if i<0 then -1 else if 0<i then 1 else 0
theorem sgn_mul_pos {x y:Int} (h:0<y):sgn (x*y)=sgn x:=by
 unfold sgn
 rcases Int.lt_trichotomy x 0 with c | c | c
 ·have:=Int.mul_neg_of_neg_of_pos c h
  rw [if_pos this,if_pos c]
 ·subst c;simp
 ·have:=Int.mul_pos c h
  rw [if_neg (by omega),if_pos this,if_neg (by omega),if_pos c]
theorem sgn_neg (x:Int):sgn (-x) = -sgn x:=by
 unfold sgn
 rcases Int.lt_trichotomy x 0 with c | c | c
 ·rw [if_neg (by omega),if_pos (by omega),if_pos c];rfl
 ·subst c;rfl
 ·rw [if_pos (by omega),if_neg (by omega),if_pos c]
def det3 (a b c k m n x y z:Int):Int:=(b*n-c*m)*x+(c*k-a*n)*y+(a*m-b*k)*z
def det (P Q R:Pt):Int:=det3 (P.n*P.e) (P.m*P.d) (P.d*P.e) (Q.n*Q.e) (Q.m*Q.d) (Q.d*Q.e) (R.n*R.e) (R.m*R.d) (R.d*R.e)
def lawdet (P Q R:Pt):Int:=(Q.n*P.d-P.n*Q.d)*(R.m*P.e-P.m*R.e)*(P.e*Q.e)*(P.d*R.d)-(Q.m*P.e-P.m*Q.e)*(R.n*P.d-P.n*R.d)*(P.d*Q.d)*(P.e*R.e)
theorem lawdet_eq (P Q R:Pt):lawdet P Q R=det P Q R*(P.d*P.e):=by
 unfold lawdet det det3
 grind
theorem det3_scale (r s t a b c k m n x y z:Int):det3 (r*a) (r*b) (r*c) (s*k) (s*m) (s*n) (t*x) (t*y) (t*z)=r*s*t*det3 a b c k m n x y z:=by
 unfold det3
 grind
theorem det3_lin (p q u v a b c k m n x y z:Int):det3 (p*a+q*c) (p*b+u*c) (v*c) (p*k+q*n) (p*m+u*n) (v*n) (p*x+q*z) (p*y+u*z) (v*z)=p*p*v*det3 a b c k m n x y z:=by
 unfold det3
 grind
/-- P moved: stretched by s over t, and B added -/
structure Mv (B:Pt) (s t:Int) (P P':Pt):Prop where
 x:P'.n*(P.d*t*B.d)=(P.n*s*B.d+B.n*(P.d*t))*P'.d
 y:P'.m*(P.e*t*B.e)=(P.m*s*B.e+B.m*(P.e*t))*P'.e
theorem Mv.rows {B P P':Pt} {s t:Int} (h:Mv B s t P P') :
  (P.d*t*B.d*(P.e*t*B.e))*(P'.n*P'.e)=(P'.d*P'.e*t)*((s*B.d*B.e)*(P.n*P.e)+(B.n*B.e*t)*(P.d*P.e)) ∧
  (P.d*t*B.d*(P.e*t*B.e))*(P'.m*P'.d)=(P'.d*P'.e*t)*((s*B.d*B.e)*(P.m*P.d)+(B.m*B.d*t)*(P.d*P.e)) ∧
  (P.d*t*B.d*(P.e*t*B.e))*(P'.d*P'.e)=(P'.d*P'.e*t)*((t*B.d*B.e)*(P.d*P.e)):=by
 obtain ⟨hx,hy⟩:=h
 refine ⟨?_,?_,?_⟩
 ·have:(P.d*t*B.d*(P.e*t*B.e))*(P'.n*P'.e)=(P'.n*(P.d*t*B.d))*((P.e*t*B.e)*P'.e):=by grind
  rw [this,hx];grind
 ·have:(P.d*t*B.d*(P.e*t*B.e))*(P'.m*P'.d)=(P'.m*(P.e*t*B.e))*((P.d*t*B.d)*P'.d):=by grind
  rw [this,hy];grind
 ·grind
theorem moved_sgn {B P Q R P' Q' R':Pt} {s t:Int} (s0:0<s) (t0:0<t) (bd:0<B.d) (be:0<B.e) (hP:Mv B s t P P') (hQ:Mv B s t Q Q') (hR:Mv B s t R R')
  (pP:0<P.d∧0<P.e) (pQ:0<Q.d∧0<Q.e) (pR:0<R.d∧0<R.e) (pP':0<P'.d∧0<P'.e) (pQ':0<Q'.d∧0<Q'.e) (pR':0<R'.d∧0<R'.e):sgn (det P' Q' R')=sgn (det P Q R):=by
 obtain ⟨a1,a2,a3⟩:=hP.rows
 obtain ⟨b1,b2,b3⟩:=hQ.rows
 obtain ⟨c1,c2,c3⟩:=hR.rows
 have e1:=det3_scale (P.d*t*B.d*(P.e*t*B.e)) (Q.d*t*B.d*(Q.e*t*B.e)) (R.d*t*B.d*(R.e*t*B.e)) (P'.n*P'.e) (P'.m*P'.d) (P'.d*P'.e) (Q'.n*Q'.e) (Q'.m*Q'.d) (Q'.d*Q'.e) (R'.n*R'.e) (R'.m*R'.d) (R'.d*R'.e)
 rw [a1,a2,a3,b1,b2,b3,c1,c2,c3,det3_scale,det3_lin] at e1
 have k:∀ {u v:Int},0<u→0<v→0<u*t*B.d*(v*t*B.e):=fun hu hv=>Int.mul_pos (Int.mul_pos (Int.mul_pos hu t0) bd) (Int.mul_pos (Int.mul_pos hv t0) be)
 have kp:=k pP.1 pP.2
 have kq:=k pQ.1 pQ.2
 have kr:=k pR.1 pR.2
 have j:∀ {u v:Int},0<u→0<v→0<u*v*t:=fun hu hv=>Int.mul_pos (Int.mul_pos hu hv) t0
 have jp:=j pP'.1 pP'.2
 have jq:=j pQ'.1 pQ'.2
 have jr:=j pR'.1 pR'.2
 have sb:0<s*B.d*B.e:=Int.mul_pos (Int.mul_pos s0 bd) be
 have tb:0<t*B.d*B.e:=Int.mul_pos (Int.mul_pos t0 bd) be
 have w1:=Int.mul_pos (Int.mul_pos kp kq) kr
 have w2:=Int.mul_pos (Int.mul_pos (Int.mul_pos jp jq) jr) (Int.mul_pos (Int.mul_pos sb sb) tb)
 rw [←sgn_mul_pos (x:=det P' Q' R') w1,←sgn_mul_pos (x:=det P Q R) w2]
 congr 1
 have fin:∀ {J S D K D':Int},J*(S*D)=K*D'→D'*K=D*(J*S):=fun {J S D K D'} z=>by rw [Int.mul_comm D' K,←z,←Int.mul_assoc,Int.mul_comm D]
 exact fin e1
end Mth
set_option linter.all false
set_option maxHeartbeats 1000000
namespace Sca
open Mth
theorem co_dvd {d n s:Int} (co:Int.gcd n d=1) (h:d ∣ n*s):d ∣ s:=by
 have h1:d.natAbs ∣ n.natAbs*s.natAbs:=by rw [←Int.natAbs_mul];exact Int.natAbs_dvd_natAbs.mpr h
 have h2:Nat.Coprime d.natAbs n.natAbs:=by
  show Nat.gcd _ _=1
  rw [Nat.gcd_comm]
  exact co
 exact Int.natAbs_dvd_natAbs.mp (h2.dvd_of_dvd_mul_left h1)
/-- the fraction (n, d) is X parts of S -/
def Sc (S X n d:Int):Prop:=0<d∧n*S=X*d
theorem Sc.up {S X n d:Int} (h:Sc S X n d) (c:Int):Sc (S*c) (X*c) n d:=⟨h.1,by have:=h.2;grind⟩
theorem cancel {a b c:Int} (h:0<c) (e:a*c=b*c):a=b:=Int.eq_of_mul_eq_mul_right (by omega) e
theorem Sc.plus {S X Y a0 a1 b0 b1 n d:Int} (h:Sc S X a0 a1) (k:Sc S Y b0 b1) (f:Fr (a0*b1+b0*a1) (a1*b1) n d):Sc S (X+Y) n d:=by
 refine ⟨f.pos,cancel (c:=a1*b1) (Int.mul_pos h.1 k.1) ?_⟩
 have e1:=f.eq
 have e2:=h.2
 have e3:=k.2
 grind
theorem Sc.less {S X Y a0 a1 b0 b1 n d:Int} (h:Sc S X a0 a1) (k:Sc S Y b0 b1) (f:Fr (a0*b1-b0*a1) (a1*b1) n d):Sc S (X-Y) n d:=by
 refine ⟨f.pos,cancel (c:=a1*b1) (Int.mul_pos h.1 k.1) ?_⟩
 have e1:=f.eq
 have e2:=h.2
 have e3:=k.2
 grind
theorem Sc.times {S T X Y a0 a1 b0 b1 n d:Int} (h:Sc S X a0 a1) (k:Sc T Y b0 b1) (f:Fr (a0*b0) (a1*b1) n d):Sc (S*T) (X*Y) n d:=by
 refine ⟨f.pos,cancel (c:=a1*b1) (Int.mul_pos h.1 k.1) ?_⟩
 have e1:=f.eq
 have e2:=h.2
 have e3:=k.2
 have:n*(S*T)*(a1*b1)=(n*(a1*b1))*(S*T):=by grind
 rw [this,e1]
 have:a0*b0*d*(S*T)=(a0*S)*(b0*T)*d:=by grind
 rw [this,e2,e3]
 grind
theorem Sc.size {S X n d:Int} (h:Sc S X n d) (co:Int.gcd n d=1) (S0:0<S):n.natAbs≤X.natAbs∧d.natAbs≤S.natAbs:=by
 have dv:d ∣ S:=by
  have:d ∣ n*S:=⟨X,by rw [h.2,Int.mul_comm]⟩
  exact co_dvd co this
 obtain ⟨c,rfl⟩:=dv
 have c0:0<c:=by
  have:=h.1
  rcases Int.lt_trichotomy c 0 with z | z | z
  ·have:=Int.mul_neg_of_pos_of_neg h.1 z
   omega
  ·rw [z] at S0;simp at S0
  ·exact z
 have e:n*c=X:=cancel h.1 (by have:=h.2;grind)
 refine ⟨?_,?_⟩
 ·rw [←e,Int.natAbs_mul]
  exact Nat.le_mul_of_pos_right _ (by omega)
 ·rw [Int.natAbs_mul]
  exact Nat.le_mul_of_pos_right _ (by omega)
theorem Sc.inj {S X n d n' d':Int} (h:Sc S X n d) (k:Sc S X n' d') (co:Int.gcd n d=1) (co':Int.gcd n' d'=1) (S0:0<S):n=n'∧d=d':=by
 have e:n*d'=n'*d:=cancel S0 (by
  have e1:=h.2
  have e2:=k.2
  grind)
 have d1:d ∣ d':=co_dvd (n:=n) co ⟨n',by rw [e,Int.mul_comm]⟩
 have d2:d' ∣ d:=co_dvd (n:=n') co' ⟨n,by rw [←e,Int.mul_comm]⟩
 have ed:d=d':=Int.dvd_antisymm (by have:=h.1;omega) (by have:=k.1;omega) d1 d2
 subst ed
 exact ⟨cancel h.1 e,rfl⟩
theorem Sc.neg {S X n d:Int} (h:Sc S X n d):Sc S (-X) (-n) d:=⟨h.1,by have:=h.2;grind⟩
section
variable (X Y:Nat→Int)
def c (p q:Nat):Int:=X p*Y q-Y p*X q
def prs (row:List Nat):List (Nat×Nat):=row.zip (row.drop 1++row.take 1)
def O (i j k:Nat):Int:=(X j-X i)*(Y k-Y i)-(Y j-Y i)*(X k-X i)
end
theorem low_unique {n d n' d':Int} (h:0<d) (h':0<d') (c:Int.gcd n d=1) (c':Int.gcd n' d'=1) (e:n*d'=n'*d):n=n'∧d=d':=by
 have d1:d ∣ d':=co_dvd (n:=n) c ⟨n',by rw [e,Int.mul_comm]⟩
 have d2:d' ∣ d:=co_dvd (n:=n') c' ⟨n,by rw [←e,Int.mul_comm]⟩
 have ed:d=d':=Int.dvd_antisymm (by omega) (by omega) d1 d2
 subst ed
 exact ⟨cancel h e,rfl⟩
end Sca
set_option Elab.async false
set_option linter.all false
set_option maxRecDepth 100000
set_option maxHeartbeats 4000000
namespace L2
open PySem PySem.Spec PyProof.Rows
section
variable {P:Program} {w:World}
abbrev NKey:=List (List Key)
/-- the items, each a tuple of ints and texts -/
inductive NIts (P:Program) (w:World) (h:Heap):NKey→List Value→Prop
 | nil:NIts P w h [] []
 | cons {k:List Key} {b:Addr} {ks:NKey} {vs:List Value}:(tupleKind (mixKind P w)).is h k b→NIts P w h ks vs→NIts P w h (k::ks) (.ref b::vs)
def IsN (P:Program) (w:World) (h:Heap) (ks:NKey) (a:Addr):Prop:=∃ o items n,h.get? a=some o∧o.cls=.type "tuple"∧o.data=.seq items n∧NIts P w h ks items.toList
theorem NIts.inj {h:Heap} {x y:NKey} {vs:List Value} (hx:NIts P w h x vs) (hy:NIts P w h y vs):x=y:=by
 induction hx generalizing y with
 | nil=>cases hy;rfl
 | cons h1 _ ih =>
  cases hy with
  | cons h2 t2=>rw [(tupleKind (mixKind P w)).inj h1 h2,ih t2]
theorem NIts.keeps {h h':Heap} {x:NKey} {vs:List Value} {d:Addr} {o:Obj} {es ep} (hx:NIts P w h x vs) (ho:h.get? d=some o) (hd:o.data=.dict es ep) (hs:Heap.SameBut d h h'):NIts P w h' x vs:=by
 induction hx with
 | nil=>exact .nil
 | cons h1 _ ih=>exact .cons ((tupleKind (mixKind P w)).keeps h1 ho hd hs) ih
theorem IsN.typeIs {s:Shared} {ks:NKey} {a:Addr} (x:IsN P w s.heap ks a):s.TypeIs (.ref a) "tuple":=let ⟨o,_,_,ho,hc,_⟩:=x;⟨o,ho,hc⟩
theorem IsN.inj {h:Heap} {a:Addr} {x y:NKey} (hx:IsN P w h x a) (hy:IsN P w h y a):x=y:=by
 obtain ⟨o,items,n,ho,_,hd,hi⟩:=hx
 obtain ⟨o',items',n',ho',_,hd',hi'⟩:=hy
 obtain rfl:o=o':=Option.some.inj (ho.symm.trans ho')
 rw [hd] at hd'
 injection hd' with h1 _
 subst h1
 exact hi.inj hi'
theorem IsN.keeps {h h':Heap} {ks:NKey} {a d:Addr} {o:Obj} {es ep} (x:IsN P w h ks a) (ho:h.get? d=some o) (hd:o.data=.dict es ep) (hs:Heap.SameBut d h h'):IsN P w h' ks a:=by
 obtain ⟨o',items,n,ho',hc,hd',hi⟩:=x
 have hne:a≠d:=by
  rintro rfl
  obtain rfl:o'=o:=Option.some.inj (ho'.symm.trans ho)
  rw [hd] at hd';exact nomatch hd'
 exact ⟨o',items,n,(hs.2 a hne).trans ho',hc,hd',hi.keeps ho hd hs⟩
def nHash (P:Program) (w:World) (ks:NKey):Int:=reduceHash (Builtin.Tuple.tupleHashOf (ks.map (tupleKeyHash (mixKind P w))))
def nDraws (ks:NKey):Nat:=(ks.map fun k=>k.length+1).sum
variable {A:Around} {E:Value→Shared→Prop} {s:Shared}
theorem n_hash {ks:NKey} {a:Addr} {Q:Int→Shared→Prop} (hu:A.units+4<cLine) (hk:IsN P w s.heap ks a) (h:Q (nHash P w ks) { s with toks:=s.toks+(nDraws ks+1) }) :
  wpAny (model P w) A (pyHash (.ref a)) Q E s:=by
 have hT:=hk.typeIs
 obtain ⟨o,items,n,ho,_,hd,hi⟩:=hk
 unfold pyHash
 first | unfold pyHashByItsType | skip
 first | refine wpAny_bind (wpAny_cRoomFor_or (.inr (by omega)) ?_) | skip
 refine wpAny_bind (wpAny_specialOf hT PySem.F.slot_tuple_hash.lookup ?_)
 show wpAny _ _ (if (some (Value.builtin "tuple.__hash__") == some Value.none)=true then _ else _) Q E s
 rw [if_neg (by rw [beq_builtin_none];exact Bool.false_ne_true)]
 refine wpAny_bind (wpAny_specialOf hT PySem.F.slot_tuple_hash.lookup ?_)
 show wpAny _ _ (callSpecialIfBoundUnlessNone? (.ref a) "__hash__" _ >>= _) Q E s
 refine wpAny_bind (wpAny_callSpecialIfBoundUnlessNone?_slot hT PySem.F.slot_tuple_hash (wpAny_call_entry PySem.F.slot_tuple_hash hT PySem.F.entry_tuple_hash ?_ (PySem.F.args_tuple_hash_1 _)))
 show wpAny _ _ (Builtin.Tuple.tupleItemsOf (.ref a) >>= _) _ _ s
 refine wpAny_bind (wpAny_tupleItemsOf ho hd ?_)
 refine wpAny_bind ?_
 rw [←Array.forIn_toList]
 refine wpAny_forIn_list _
  (fun rest (b:Array Int) s'=>∃ done left,ks=done++left∧NIts P w s.heap left rest∧b.toList=done.map (tupleKeyHash (mixKind P w))∧s'={ s with toks:=s.toks+nDraws done })
  _ ?_ ?_ _ _ ⟨[],ks,rfl,hi,rfl,rfl⟩
 ·rintro x rest b s' ⟨done,left,rfl,hl,hb,rfl⟩
  cases hl with
  | @cons k b1 ks' _ h1 hl' =>
   refine wpAny_bind ((tupleKind (mixKind P w)).pyHash (k:=k) ?_ h1 ?_)
   ·show A.units+1<cLine
    omega
   have e:nDraws (done++[k])=nDraws done+(k.length+1):=by
    unfold nDraws
    simp
   first
    | exact wpAny_pure ⟨done++[k],ks',by simp,hl',by simp [hb];rfl,by rw [e];simp [Nat.add_assoc];rfl⟩
    | exact wpAny_bind (wpAny_pure (wpAny_pure ⟨done++[k],ks',by simp,hl',by simp [hb];rfl,by rw [e];simp [Nat.add_assoc];rfl⟩))
 ·rintro b s' ⟨done,left,rfl,hl,hb,rfl⟩
  cases hl
  rw [List.append_nil] at h
  show wpAny _ _ (retInt (Builtin.Tuple.tupleHashOf b.toList)) _ _ _
  rw [hb]
  refine wpAny_ret_mkInt ?_
  show wpAny _ _ (if (decide (-(2:Int) ^ 63≤Builtin.Tuple.tupleHashOf (done.map (tupleKeyHash (mixKind P w)))) && decide (Builtin.Tuple.tupleHashOf (done.map (tupleKeyHash (mixKind P w)))<2 ^ 63))=true then _ else _) Q E _
  unfold nHash reduceHash at h
  by_cases hr:(decide (-(2:Int) ^ 63≤Builtin.Tuple.tupleHashOf (done.map (tupleKeyHash (mixKind P w)))) && decide (Builtin.Tuple.tupleHashOf (done.map (tupleKeyHash (mixKind P w)))<2 ^ 63))=true
  ·rw [if_pos hr]
   rw [if_pos hr] at h
   exact wpAny_pure (by simpa [Nat.add_assoc] using h)
  ·rw [if_neg hr]
   rw [if_neg hr] at h
   exact wpAny_bind (wpAny_rule (wpAny_pure (by simpa [Nat.add_assoc] using h)))
theorem n_eq_tree {x y:NKey} {a b:Addr} {F:Fin→Shared→Prop} (hu:A.units+4<cLine) (hx:IsN P w s.heap x a) (hy:IsN P w s.heap y b) (h:F (.done (.ret (.bool (decide (x=y))))) s) :
  wpAny (model P w) A (Builtin.«tuple.__eq__» ⟨[.ref a,.ref b],[]⟩) F E s:=by
 have hTb:=hy.typeIs
 obtain ⟨oa,xs,na,hoa,_,hda,hia⟩:=hx
 obtain ⟨ob,ys,nb,hob,_,hdb,hib⟩:=hy
 show wpAny _ _ (isInstance (.ref b) (.type "tuple") >>= _) _ _ s
 refine wpAny_bind (wpAny_isInstance hTb isSubtype_tuple_tuple ?_)
 simp only [Bool.not_true,Bool.false_eq_true,if_false]
 refine wpAny_bind (wpAny_tupleItemsOf hoa hda ?_)
 refine wpAny_bind (wpAny_tupleItemsOf hob hdb ?_)
 refine wpAny_bind ?_
 refine wpAny_forIn_list _
  (fun rest r s'=>r.1=none∧s'=s∧∃ x' y' xs' ys',rest=List.zip xs' ys'∧NIts P w s.heap x' xs'∧NIts P w s.heap y' ys'∧decide (x'=y')=decide (x=y)∧(xs'.length == ys'.length)=(xs.size == ys.size))
  _ ?_ ?_ _ _ ⟨rfl,rfl,x,y,xs.toList,ys.toList,rfl,hia,hib,rfl,by simp⟩
 ·rintro ⟨u,v⟩ rest r s' ⟨hr,rfl,x',y',xs',ys',hz,hx',hy',hdec,hlen⟩
  cases hx' with
  | nil=>simp at hz
  | @cons k1 u' x'' xs'' h1 hx'' =>
   cases hy' with
   | nil=>simp at hz
   | @cons k2 v' y'' ys'' h2 hy'' =>
    simp only [List.zip_cons_cons,List.cons.injEq,Prod.mk.injEq] at hz
    obtain ⟨⟨rfl,rfl⟩,rfl⟩:=hz
    refine wpAny_bind ((tupleKind (mixKind P w)).eqBool (x:=k1) (y:=k2) (by show A.units<cLine;omega) h1 h2 ?_)
    by_cases hk:k1=k2
    ·subst hk
     rw [decide_eq_true rfl]
     simp only [Bool.not_true,Bool.false_eq_true,if_false]
     refine wpAny_pure ⟨rfl,rfl,x'',y'',xs'',ys'',rfl,hx'',hy'',?_,by simpa using hlen⟩
     rw [←hdec]
     by_cases hxy:x''=y''
     ·simp [hxy]
     ·simp [hxy]
    ·rw [decide_eq_false hk]
     simp only [Bool.not_false,if_true]
     have hf:decide (x=y)=false:=by rw [←hdec];simp [hk]
     rw [hf] at h
     exact wpAny_bind (wpAny_pure (wpAny_pure (wpAny_pure h)))
 ·rintro ⟨r1,r2⟩ s' ⟨hr,rfl,x',y',xs',ys',hz,hx',hy',hdec,hlen⟩
  simp only at hr
  subst hr
  refine wpAny_pure ?_
  have hfin:(xs.size == ys.size)=decide (x=y):=by
   rw [←hdec,←hlen]
   cases hx' with
   | nil =>
    cases hy' with
    | nil=>simp
    | cons _ _=>simp
   | cons _ _ =>
    cases hy' with
    | nil=>simp
    | cons _ _=>simp at hz
  show F (.done (.ret (.bool (xs.size == ys.size)))) s'
  rw [hfin];exact h
theorem n_eq {x y:NKey} {a b:Addr} {Q:Bool→Shared→Prop} (hu:A.units+5<cLine) (hx:IsN P w s.heap x a) (hy:IsN P w s.heap y b) (h:Q (decide (x=y)) s) :
  wpAny (model P w) A (eqBool (.ref a) (.ref b)) Q E s:=by
 unfold eqBool
 try with_reducible refine wpAny_holding ?_
 show wpAny _ _ (if (Value.ref a == Value.ref b)=true then _ else _) Q E s
 by_cases hab:(Value.ref a == Value.ref b)=true
 ·rw [if_pos hab]
  have e:a=b:=by have:=eq_of_beq hab;injection this
  subst e
  obtain rfl:=hx.inj hy
  exact wpAny_bind (wpAny_rule (wpAny_pure (by simpa using h)))
 ·rw [if_neg hab]
  exact wpAny_bind (wpAny_richCompare_same_room (op:=.Eq) hx.typeIs hy.typeIs PySem.F.slot_tuple_eq
   (wpAny_call_entry PySem.F.slot_tuple_eq hx.typeIs PySem.F.entry_tuple_eq (n_eq_tree (A:=A.in1) (by show A.units+1+4<cLine;omega) hx hy ⟨_,rfl,(fun e=>nomatch e),wpAny_truthy_bool h⟩) (PySem.F.args_tuple_eq_2 _ _)) (by omega))
theorem k_quiet {m:Nat} {ks:List Key} {a:Addr} {Q:Bool→Shared→Prop} (hk:(tupleKind (mixKind P w)).is s.heap ks a) (h:Q true s):wpAny (model P w) A (eqIsQuiet (m+1) (.ref a)) Q E s:=by
 have hk:IsTupleKey (mixKind P w) s.heap ks a:=hk
 have hT:=hk.typeIs
 obtain ⟨o,items,n,ho,_,hd,hi⟩:=hk
 unfold eqIsQuiet
 refine wpAny_bind (wpAny_specialOf hT PySem.F.slot_tuple_eq.lookup ?_)
 show wpAny _ _ (isInstance (.ref a) (.type "tuple") >>= _) _ _ s
 refine wpAny_bind (wpAny_isInstance hT isSubtype_tuple_tuple ?_)
 simp only [Bool.not_true,Bool.false_eq_true,if_false]
 refine wpAny_bind (wpAny_seqItems ho hd ?_)
 refine wpAny_bind ?_
 show wpAny _ _ (forIn items _ _) _ _ s
 rw [←Array.forIn_toList]
 refine wpAny_forIn_list _ (fun rest r s'=>r.1=none∧s'=s∧∀ v∈rest,carriedByValue v=true) _ ?_ ?_ _ _ ⟨rfl,rfl,hi.byValue⟩
 ·rintro v rest r s' ⟨hr,rfl,hall⟩
  rw [eqIsQuiet_byValue _ (hall v List.mem_cons_self)]
  refine wpAny_bind (wpAny_pure ?_)
  simp only [Bool.not_true,Bool.false_eq_true,if_false]
  exact wpAny_pure ⟨rfl,rfl,fun u hu'=>hall u (List.mem_cons_of_mem _ hu')⟩
 ·rintro ⟨r1,r2⟩ s' ⟨hr,rfl,_⟩
  simp only at hr
  subst hr
  exact wpAny_pure h
theorem n_quiet {ks:NKey} {a:Addr} {Q:Bool→Shared→Prop} (hk:IsN P w s.heap ks a) (h:Q true s):wpAny (model P w) A (eqIsQuiet 8 (.ref a)) Q E s:=by
 have hT:=hk.typeIs
 obtain ⟨o,items,n,ho,_,hd,hi⟩:=hk
 unfold eqIsQuiet
 refine wpAny_bind (wpAny_specialOf hT PySem.F.slot_tuple_eq.lookup ?_)
 show wpAny _ _ (isInstance (.ref a) (.type "tuple") >>= _) _ _ s
 refine wpAny_bind (wpAny_isInstance hT isSubtype_tuple_tuple ?_)
 simp only [Bool.not_true,Bool.false_eq_true,if_false]
 refine wpAny_bind (wpAny_seqItems ho hd ?_)
 refine wpAny_bind ?_
 show wpAny _ _ (forIn items _ _) _ _ s
 rw [←Array.forIn_toList]
 refine wpAny_forIn_list _ (fun rest r s'=>r.1=none∧s'=s∧∃ ks,NIts P w s.heap ks rest) _ ?_ ?_ _ _ ⟨rfl,rfl,_,hi⟩
 ·rintro v rest r s' ⟨hr,rfl,ks,hall⟩
  cases hall with
  | cons h1 h2 =>
   refine wpAny_bind (k_quiet (m:=6) h1 ?_)
   simp only [Bool.not_true,Bool.false_eq_true,if_false]
   exact wpAny_pure ⟨rfl,rfl,_,h2⟩
 ·rintro ⟨r1,r2⟩ s' ⟨hr,rfl,_⟩
  simp only at hr
  subst hr
  exact wpAny_pure h
end
def nKind (P:Program) (w:World):HeapKind P w NKey where
 is:=IsN P w
 hash:=nHash P w
 draws:=fun ks=>nDraws ks+1
 room:=fun A=>A.units+8<cLine
 inj:=fun hx hy=>hx.inj hy
 keeps:=fun x ho hd hs=>x.keeps ho hd hs
 pyHash:=fun hu hk h=>n_hash (by omega) hk h
 eqBool:=fun hu hx hy h=>n_eq (by omega) hx hy h
 quiet:=fun hk h=>n_quiet hk h
section
variable {P:Program} {w:World} {A:Around} {E:Value→Shared→Prop} {s:Shared} {K:Type} [DecidableEq K] {knd:HeapKind P w K}
theorem dsetd_heap {d a:Addr} {xs:List (K×Addr×Value)} {k:K} {v:Value} {Q:Value→Shared→Prop} (hu:knd.room A) (hkey:knd.is s.heap k a) (hm:s.heap.DictOfH knd d xs)
  (h1:∀ p,atKey xs k=some p→Q p.2 { s with toks:=s.toks+knd.draws k })
  (h2:atKey xs k=none→∀ h',h'.DictOfH knd d (xs++[(k,a,v)])→Heap.SameBut d s.heap h'→Q v { s with heap:=h',toks:=s.toks+knd.draws k })
  (hsz:xs.length≤sizeLine) :
  wpAny (model P w) A (dictSetDefault d (.ref a) v) Q E s:=by
 obtain ⟨o,es,ep,ho,hc,hd,he,his,hn⟩:=hm
 unfold dictSetDefault
 try with_reducible refine wpAny_holding ?_
 refine wpAny_bind (knd.pyHash hu hkey ?_)
 refine wpAny_bind (wpAny_dictFind_heap (s:={ s with toks:=s.toks+knd.draws k }) hu hkey ho hd he his hn ?_ ?_)
 ·intro hno
  have hnot:k∉xs.map (·.1):=not_mem_keys_of_get hno
  refine wpAny_bind (wpAny_rule (wpAny_bind (wpAny_updateDictKeys (hz:=by have e:=size_of_entries he;omega) (s:={ s with toks:=s.toks+knd.draws k }) ho hd (wpAny_pure (h2 (atKey_none_of_get hno) _ ⟨_,_,ep+1,Heap.get?_update_self _ ho (Obj.isFreed_of_dict (Obj.data_mapDictKeys hd _)),
   hc.mapDictKeys _,Obj.data_mapDictKeys hd _,?_,?_,?_⟩ (Heap.SameBut.update ..))))))
  ·simp [he,entryOfKey]
  ·intro x hx
   rcases List.mem_append.mp hx with hx | hx
   ·exact knd.keeps (his x hx) ho hd (Heap.SameBut.update ..)
   ·simp only [List.mem_singleton] at hx
    subst hx
    exact knd.keeps hkey ho hd (Heap.SameBut.update ..)
  ·rw [List.map_append,List.nodup_append]
   refine ⟨hn,by simp,?_⟩
   intro x hx y hy
   simp only [List.map_cons,List.map_nil,List.mem_singleton] at hy
   subst hy
   exact fun e=>hnot (e ▸ hx)
 ·intro j p hj
  refine wpAny_bind (wpAny_dictEntries (s:={ s with toks:=s.toks+knd.draws k }) ho hd ?_)
  rw [entry_at he j,hj]
  exact wpAny_bind (wpAny_rule (wpAny_pure (h1 p (atKey_of_get hn hj))))
theorem meets_setd (knd:HeapKind P w K) {k:K} {b:Addr} (d:Addr) (hd:(d == sysModules)=false) (dflt:Value) :
  MeetsIn P w (Builtin.«dict.setdefault» ⟨[.ref d,.ref b,dflt],[]⟩) (fun A R s=>knd.room A.in1∧knd.is s.heap k b∧∃ xs,s.heap.DictOfH knd d xs∧xs.length≤sizeLine ∧
   (∀ p,atKey xs k=some p→R (.ok (.ret p.2)) { s with toks:=s.toks+knd.draws k }) ∧
   (atKey xs k=none→∀ h',h'.DictOfH knd d (xs++[(k,b,dflt)])→Heap.SameBut d s.heap h'→R (.ok (.ret dflt)) { s with heap:=h',toks:=s.toks+knd.draws k })) :=
 .of_wp fun A R s ⟨hu,hkey,xs,hm,hz,h1,h2⟩=>by
  unfold Builtin.«dict.setdefault»
  refine wpAny_bind ?_
  unfold Builtin.Dict.keyAndDefault
  refine wpAny_bind (wpAny_notOrdered_dict hm.typeIs ?_)
  show wpAny _ _ (pure (d,Value.ref b,some dflt)) _ _ s
  refine wpAny_pure ?_
  show wpAny _ _ (if (d == sysModules)=true then _ else (dictSetDefault d (.ref b) dflt >>= _)) _ _ s
  rw [if_neg (by rw [hd];exact Bool.false_ne_true)]
  exact wpAny_bind (dsetd_heap hu hkey hm (fun p hp=>wpAny_pure ⟨p.2,rfl,h1 p hp⟩) (fun hn h' hm' hs'=>wpAny_pure ⟨dflt,rfl,h2 hn h' hm' hs'⟩) hz)
/-- the dict at d, whose keys lie at these addresses -/
def ND (P:Program) (w:World) (d:Addr) (kvs:List (NKey×Addr×Int)) (h:Heap):Prop:=kvs.length≤sizeLine∧(d == sysModules)=false∧(kvs.map (·.1)).Nodup∧∃ xs:List (NKey×Addr×Value),Paired (fun p q=>p.1=q.1∧p.2.1=q.2.1∧∃ t,q.2.2=.int p.2.2 t) kvs xs ∧
 ∃ o es ep,h.get? d=some o∧o.ExactDict∧o.data=.dict es ep∧es.toList=xs.map (entryOfKey (nKind P w))
theorem ND.ok {H:Hp} {h:Heap} {d:Addr} {kvs:List (NKey×Addr×Int)} (x:ND P w d kvs h):ObjOk P w H h d (.ext (ND P w d kvs)):=by
 refine ⟨x,let ⟨_,_,_,_,_,o,_,_,e,_⟩:=x;⟨o,e⟩,fun h1 h2 z k=>?_⟩
 obtain ⟨a,b,c,xs,p,o,es,ep,e,r⟩:=z
 exact ⟨a,b,c,xs,p,o,es,ep,k o e,r⟩
/-- a tuple of tuples of ints and texts -/
def NAt (H:Hp) (b:Addr) (ks:NKey):Prop:=∃ ps:List Addr,H b=some (.tup (ps.map V.ref))∧ps.length=ks.length∧∀ (i:Nat) (p:Addr) (k:List Key),ps[i]?=some p→ks[i]?=some k→H p=some (.tup (k.map kV))
theorem NAt.kept {H H':Hp} {b:Addr} {ks:NKey} (h:NAt H b ks) (g:Same H H'):NAt H' b ks:=by
 obtain ⟨ps,a,l,f⟩:=h
 exact ⟨ps,g _ _ a,l,fun i p k e1 e2=>g _ _ (f i p k e1 e2)⟩
theorem nits_of {H:Hp} {h:Heap} (ok:HOk P w H h):∀ {ps:List Addr} {ks:NKey} {us:List Value},ps.length=ks.length→(∀ (i:Nat) (p:Addr) (k:List Key),ps[i]?=some p→ks[i]?=some k→H p=some (.tup (k.map kV)))→Vals (ps.map V.ref) us→NIts P w h ks us
 | [],[],us,_,_,r=>by cases r;exact .nil
 | [],_::_,us,l,_,_=>by simp at l
 | _::_,[],us,l,_,_=>by simp at l
 | p::ps,k::ks,us,l,f,r=>by
  rw [List.map_cons] at r
  cases r with
  | cons r1 r2 =>
   cases r1
   exact .cons (key_of ok (f 0 p k rfl rfl)) (nits_of ok (by simpa using l) (fun i q j e1 e2=>f (i+1) q j e1 e2) r2)
theorem n_of {H:Hp} {h:Heap} {b:Addr} {ks:NKey} (ok:HOk P w H h) (a:NAt H b ks):IsN P w h ks b:=by
 obtain ⟨ps,e,l,f⟩:=a
 obtain ⟨_,its,r,o,h1,h2,n,h3,_⟩:=(show ObjOk P w H h b (.tup (ps.map V.ref)) from ok b _ e)
 exact ⟨o,its.toArray,n,h1,h2,h3,by simpa using nits_of ok l f r⟩
def look (kvs:List (NKey×Addr×Int)) (k:NKey):Option Int:=(kvs.find? fun x=>decide (x.1=k)).map (·.2.2)
theorem at_look {kvs:List (NKey×Addr×Int)} {xs:List (NKey×Addr×Value)} (r:Paired (fun p q=>p.1=q.1∧p.2.1=q.2.1∧∃ t,q.2.2=Value.int p.2.2 t) kvs xs) (k:NKey) :
  (atKey xs k=none∧look kvs k=none)∨∃ p v t,atKey xs k=some p∧look kvs k=some v∧p.2=.int v t:=by
 unfold atKey look
 induction r with
 | nil=>exact .inl ⟨rfl,rfl⟩
 | @cons p q ps qs h t ih =>
  obtain ⟨h1,h2,tk,h3⟩:=h
  rw [List.find?_cons,List.find?_cons,←h1]
  by_cases c:p.1=k
  ·rw [decide_eq_true c]
   exact .inr ⟨q.2,p.2.2,tk,rfl,rfl,h3⟩
  ·rw [decide_eq_false c]
   exact ih
theorem look_new {kvs:List (NKey×Addr×Int)} {k:NKey} (h:look kvs k=none):k∉kvs.map (·.1):=fun m=>by
 obtain ⟨x,hx,rfl⟩:=List.mem_map.mp m
 unfold look at h
 rw [Option.map_eq_none_iff,List.find?_eq_none] at h
 exact h x hx (decide_eq_true rfl)
theorem Paired.snoc {α β:Type} {R:α→β→Prop} {xs:List α} {ys:List β} {x:α} {y:β} (h:Paired R xs ys) (r:R x y):Paired R (xs++[x]) (ys++[y]):=by
 induction h with
 | nil=>exact .cons r .nil
 | cons a _ ih=>exact .cons a ih
end
section
variable {X:Cx} {pos:Pos}
def tDNewN (P:Program) (w:World):TE:=fun _ H Q=>∀ p,H p=none→Q (.ref p) (upd H p (.ext (ND P w p [])))
theorem pe_dnewN:PE X (.Dict [] [] pos) (tDNewN X.prog X.w):=fun pins s σ H Q I h =>
 wpAny_Dict_empty ⟨.ref s.heap.objs.size,_,I.laid (a:=s.heap.objs.size) (o:=.ext (ND X.prog X.w s.heap.objs.size [])) (t':=s.toks) (fun _ _ q=>Heap.get?_push_of_some _ q) (Nat.le_refl _)
  (ND.ok ⟨Nat.zero_le _,beq_eq_false_iff_ne.mpr (Ne.symm (Nat.ne_of_lt I.big)),List.nodup_nil,[],.nil,_,#[],0,Heap.get?_push_size _ rfl,⟨rfl,rfl,rfl⟩,rfl,rfl⟩),rfl,h _ (I.hok.fresh (Nat.le_refl _))⟩
/-- d.setdefault(k, q) -/
inductive rSetD (P:Program) (w:World) (d:Addr) (kvs:List (NKey×Addr×Int)) (vs:List V) (H:Hp) (Q:VK):Prop
 | mk:∀ (b:Addr) (q:Int) (ks:NKey),(vs=[.ref b,.int q])→(H d=some (.ext (ND P w d kvs)))→(NAt H b ks)→(∀ e∈kvs,NAt H e.2.1 e.1)→(kvs.length<sizeLine)→(∀ v,look kvs ks=some v→Q (.int v) H)→(look kvs ks=none→Q (.int q) (upd H d (.ext (ND P w d (kvs++[(ks,b,q)])))))→rSetD P w d kvs vs H Q
theorem mt_setd (hu:X.A.units+80<cLine) {pins:List (Addr×Obj)} {s:Shared} {σ:St} {H:Hp} {d:Addr} {kvs:List (NKey×Addr×Int)} {xs:List V} {us:List Value} {Q:VK} (I:Inv X pins σ H s) (rv:Vals xs us) (h:rSetD X.prog X.w d kvs xs H Q) :
  wpAny (model X.prog X.w) X.A (call (.builtin "dict.setdefault") (.ref d::us)) (EP X pins σ Q) X.xe s:=by
 obtain ⟨b,q,ks,rfl,hd,hb,hk,hz,q1,q2⟩:=h
 obtain ⟨u,v,rfl,ru,rq⟩:=rv.two
 cases ru
 obtain ⟨t,rfl⟩:=rq
 obtain ⟨⟨z1,z2,z3,xs,r,o,es,ep,ho,hc,hdt,he⟩,_,_⟩:=(show ObjOk X.prog X.w H s.heap d (.ext (ND X.prog X.w d kvs)) from I.hok d _ hd)
 have lx:=Paired.length r
 have hkeys:xs.map (·.1)=kvs.map (·.1):=by
  have go:∀ {l:List (NKey×Addr×Int)} {m:List (NKey×Addr×Value)},Paired (fun p q=>p.1=q.1∧p.2.1=q.2.1∧∃ t,q.2.2=Value.int p.2.2 t) l m→m.map (·.1)=l.map (·.1):=by
   intro l m r
   induction r with
   | nil=>rfl
   | cons a _ ih=>rw [List.map_cons,List.map_cons,ih,a.1]
  exact go r
 have his:∀ x∈xs,(nKind X.prog X.w).is s.heap x.1 x.2.1:=by
  have go:∀ {l:List (NKey×Addr×Int)} {m:List (NKey×Addr×Value)},Paired (fun p q=>p.1=q.1∧p.2.1=q.2.1∧∃ t,q.2.2=Value.int p.2.2 t) l m→(∀ e∈l,NAt H e.2.1 e.1)→∀ x∈m,(nKind X.prog X.w).is s.heap x.1 x.2.1:=by
   intro l m r
   induction r with
   | nil=>intro _ x hx;exact nomatch hx
   | @cons p q ps qs z t ih =>
    intro hl x hx
    rcases List.mem_cons.mp hx with rfl | hx
    ·have:=n_of I.hok (hl p List.mem_cons_self)
     rw [z.1,z.2.1] at this
     exact this
    ·exact ih (fun e h=>hl e (List.mem_cons_of_mem _ h)) x hx
  exact go r hk
 have dd:s.heap.DictOfH (nKind X.prog X.w) d xs:=⟨o,es,ep,ho,hc,hdt,he,his,by rw [hkeys];exact z3⟩
 refine call_meetsIn PySem.F.slot_dict_setdefault dd.typeIs PySem.F.entry_dict_setdefault (PySem.F.args_dict_setdefault_3 _ _ _) (meets_setd (nKind X.prog X.w) (k:=ks) d z2 (.int q t)) ⟨(by show X.A.units+1+8<cLine;omega),n_of I.hok hb,xs,dd,by omega,fun p hp=>?_,fun hn h' dd' hs=>?_⟩
 ·rcases at_look r ks with ⟨e1,_⟩ | ⟨p',v,t',e1,e2,e3⟩
  ·rw [e1] at hp;cases hp
  ·rw [e1] at hp
   cases hp
   rw [e3]
   exact ⟨.int v,H,I.tok _,⟨_,rfl⟩,q1 v e2⟩
 ·rcases at_look r ks with ⟨_,e2⟩ | ⟨p',v,t',e1,_,_⟩
  ·obtain ⟨qo,es',ep',hq,h2,h3,h4,_,h5⟩:=dd'
   refine ⟨.int q,upd H d (.ext (ND X.prog X.w d (kvs++[(ks,b,q)]))),d_write (t':=s.toks+(nKind X.prog X.w).draws ks) I (by rw [hd];exact True.intro) hs ⟨qo,hq⟩ (ND.ok ⟨?_,z2,?_,xs++[(ks,b,.int q t)],r.snoc ⟨rfl,rfl,t,rfl⟩,qo,es',ep',hq,h2,h3,h4⟩),⟨t,rfl⟩,q2 e2⟩
   ·rw [List.length_append]
    show kvs.length+1≤_
    omega
   ·rw [List.map_append,List.nodup_append]
    refine ⟨z3,by simp,fun x hx y hy e=>?_⟩
    simp only [List.map_cons,List.map_nil,List.mem_singleton] at hy
    subst hy
    exact look_new e2 (e ▸ hx)
  ·rw [e1] at hn;cases hn
inductive tSetDY (P:Program) (w:World) (t:TA) (σ:St) (Q:VK) (x:V) (H1:Hp):Prop
 | mk:∀ (d:Addr) (kvs:List (NKey×Addr×Int)),(x=.ref d)→(H1 d=some (.ext (ND P w d kvs)))→(t σ H1 fun xs H2=>rSetD P w d kvs xs H2 Q)→tSetDY P w t σ Q x H1
def tSetD (P:Program) (w:World) (to:TE) (t:TA):TE:=fun σ H Q=>to σ H fun x H1=>tSetDY P w t σ Q x H1
variable {o e:Expr} {es:List Expr} {to:TE} {t:TA} {apos cpos:Pos}
theorem pe_setd (hu:X.A.units+80<cLine) (ho:PE X o to) (ha:PA X (e::es) t)
  (hbase:attributeBase o "setdefault" X.env (eval o X.env)=eval o X.env:=by rfl)
  (hfew:((backTo cpos (starEach (e::es) X.env)).all (fun x=>!x.1) && (backToKw cpos (keywordEach [] X.env)).all (fun x=>x.1.isSome)
   && decide ((e::es).length+([]:List Keyword).length+(if ([]:List Keyword).isEmpty then 0 else 1)<30))=true:=by rfl)
  (hline:(apos.endLine == cpos.line)=true:=by rfl) (hs:starEach (e::es) X.env=(false,eval e X.env)::starEach es X.env:=by rfl) (hplain:(backTo cpos (starEach es X.env)).any (·.1)=false:=by rfl) :
  PE X (.Call (.Attribute o "setdefault" apos) (e::es) [] cpos) (tSetD X.prog X.w to t):=by
 intro pins s σ H Q I h
 refine wpAny_Call_method_late hbase hfew hline rfl (thn (ho pins s σ H _ I h) fun v s1 ⟨x,H1,I1,r1,y⟩=>?_)
 obtain ⟨d,kvs,rfl,hd,q1⟩:=y
 cases r1
 obtain ⟨⟨z1,z2,z3,xs,r,ob,es',ep,ho',hc,hdt,he⟩,_,_⟩:=(show ObjOk X.prog X.w H1 s1.heap d (.ext (ND X.prog X.w d kvs)) from I1.hok d _ hd)
 refine ⟨"dict","dict.setdefault",PySem.F.plainAttrs_dict,PySem.F.slot_dict_setdefault,PySem.F.type_dict_setdefault,⟨ob,ho',hc.1⟩,fun a e=>by cases e;exact ⟨ob,ho',hc.2.1⟩,?_⟩
 have hA:=ha cpos pins s1 σ H1 _ I1 q1
 rw [hs] at hA ⊢
 refine Calls.callWith_builtin (by show (false || (backTo cpos (starEach es X.env)).any (·.1))=false;rw [hplain]<;>rfl) (Calls.evalArgs_plain ?_)
 exact thn hA fun us s2 ⟨vs,H2,I2,r2,q2⟩=>mt_setd hu I2 r2 q2
end
end L2
set_option Elab.async false
set_option linter.all false
set_option maxRecDepth 100000
set_option maxHeartbeats 4000000
namespace Ex
open PySem
section
variable {prog:Program} {w:World} {A:Around} {E:Value→Shared→Prop} {h:Heap} {g:Array GenState} {d:Drawn} {t:Nat} {os:OsState} {M:Model}
variable {nm q:Str} {C N:Addr} {bs bm bmB:List Value} {hdct:Bool} {sn:List Str} {sub:List Value} {ab:Bool} {col:Option Bool} {dd:Option Addr} {k0 k1 k2 k3 k5:Option Value} {B newId initId:String}
/-- the classes above: the base is among them, two others are not -/
structure Up (B:String) (bm:List Value):Prop where
 b:bm.contains (.type B)=true
 a:bm.contains (.type "AttributeError")=false
 n:bm.contains (.type "NameError")=false
theorem check_new (F:ExcBaseFacts B newId initId bmB) (U:Up B bm) {rest:List Value} {Q:Unit→Shared→Prop} (hC:h.get? C=some (excClassObj nm q C N bs bm hdct sn sub ab col dd k0 k1 k2 k3 k5 newId))
  (hq:Q () ⟨h,g,d,t,os⟩):wpAny M A (checkBuiltinCall newId ⟨.ref C::rest,[]⟩) Q E ⟨h,g,d,t,os⟩:=by
 have c1:(Value.ref C::bm).contains (.type B)=true:=by rw [List.contains_cons,U.b,Bool.or_true]
 have c2:=F.noStar
 simp only [checkBuiltinCall,F.newKind,F.newSplit,F.newRow]
 repeat (first | refine wpAny_loadPart_at hC ?_ | (refine wpAny_isSubtype_exc hC ?_;rw [c1]) | refine wpAny_staticBase_exc hC ?_ | refine wpAny_madeBy_exc hC ?_ | simp only [bne_self_eq_false,Bool.false_eq_true,if_false] | wp_step)
 exact hq
theorem exc_new (F:ExcBaseFacts B newId initId bmB) (U:Up B bm) {rest:List Value} {R:Result→Shared→Prop} (hC:h.get? C=some (excClassObj nm q C N bs bm hdct sn sub ab col dd k0 k1 k2 k3 k5 newId)) (hrest:rest.length≤sizeLine)
  (hq:R (.ok (.ret (.ref (h.objs.size+1)))) ⟨(h.push { cls:=.type "tuple",data:=.seq rest.toArray }).push { cls:=.ref C,data:=.fields #[.ref h.objs.size,.none,.none,.none,.bool false,.none] },g,d,t,os⟩) :
  codeAny (model prog w) A (.builtin newId ⟨.ref C::rest,[]⟩) R ⟨h,g,d,t,os⟩:=by
 have e0:=F.ends
 have e1:(Value.ref C::bm).contains (.type B)=true:=by rw [List.contains_cons,U.b,Bool.or_true]
 have e2:(Value.ref C::bm).contains (.type "AttributeError")=false:=by rw [List.contains_cons,U.a];rfl
 have e3:(Value.ref C::bm).contains (.type "NameError")=false:=by rw [List.contains_cons,U.n];rfl
 refine codeAny_builtinAt F.entry ?_
 unfold Builtin.«BaseException.__new__»
 refine wpAt_bind ?_
 show wpAt _ _ _ (stack >>= fun _=>_) _ _ _
 refine wpAt_bind (wpAt_stack fun p below=>wpAt_of_wpAny ?_)
 wp_walk
 refine wpAt_of_wpAny ?_
 rw [F.owner]
 repeat (first | with_reducible refine wpAny_madeHere_exc F.canon hC ?_ | with_reducible refine wpAny_loadPart_at hC ?_ | (with_reducible refine wpAny_isSubtype_exc hC ?_;first | rw [e1] | rw [e2] | rw [e3]) | wp_step)
 show R _ _
 rw [Heap.size_push]
 exact hq
end
end Ex
set_option Elab.async false
set_option linter.all false
set_option maxRecDepth 100000
set_option maxHeartbeats 4000000
namespace Ex
open PySem
/-- what leaving a frame makes of the heap -/
structure Aft (l:List Env) (e T:Addr) (oe:Obj) (h h':Heap):Prop where
 k:∀ b o,b≠e→b∉l.filterMap (·.frame)→h.get? b=some o→h'.get? b=some o
 f:∀ b o,b≠e→h.get? b=some o→∃ sl,h'.get? b=some { o with slots:=sl }
 e:h'.get? e=some (oe.mapFields (·.setIfInBounds 1 (.ref T)))
 n:h.objs.size≤T
 t:∃ oT ts,h'.get? T=some oT∧oT.data=.fields ts∧ts[3]?=some .none
section
variable {M:Model} {A:Around} {E:Value→Shared→Prop} {s:Shared}
theorem entry {base:Heap} {env:Env} {outer:List Env} {L e:Addr} {oe:Obj} {vs:Array Value} {head:Value} {hadNext:Bool} {Q:Unit→Shared→Prop}
  (hfr:A.frames=some (env::outer)) (hl:s.heap.FunFrames base (env::outer)) (hf:env.frame=some L) (he:s.heap.get? e=some oe) (hd:oe.data=.fields vs) (hsz:1<vs.size)
  (q:∀ h' T,Aft (env::outer) e T oe s.heap h'→Q () { s with heap:=h' }) :
  wpAny M A (do let a ←frameOf env;let pl ←entryPlaceOf L hadNext;let b ←EntryCells.newEntry head a .none (rawInt L) .none pl;setField (.ref e) 1 b) (fun _ s'=>wpAny M A (setFlight (.ref e) none) Q E s') E s:=by
 have hene:e∉(env::outer).filterMap (·.frame):=fun hm=>by
  obtain ⟨_,o,ho,hnf⟩:=hl.mem hm
  rw [he] at ho
  cases ho
  exact hnf vs hd
 refine wpAny_bind (wpAny_frameOf_fun hfr hl hf fun h1 S=>?_)
 refine wpAny_bind (wpAny_entryPlaceOf fun pl hpl=>?_)
 unfold EntryCells.newEntry newFields
 refine wpAny_bind (wpAny_newObj_type ?_ (hpl.sizeOk5 _ _ _ _ _))
 generalize hO:({ cls:=.type "traceback",dict:=none,data:=.fields ([head,.ref L,.none,rawInt L,.none]++(if pl.isEmpty then List.replicate 6 Value.none else pl)).toArray }:Obj)=oT
 have dT:oT.data=.fields ([head,.ref L,.none,rawInt L,.none]++(if pl.isEmpty then List.replicate 6 Value.none else pl)).toArray:=by rw [←hO]
 have e1:h1.get? e=some oe:=(S.2.1 e hene).trans he
 have e2:=Heap.get?_push_of_some (h:=h1) oT e1
 refine wpAny_setField e2 hd hsz ?_
 have nTe:h1.objs.size≠e:=Nat.ne_of_gt (Heap.lt_size e1)
 have d3:=Obj.data_mapFields hd (·.setIfInBounds 1 (Value.ref h1.objs.size))
 have e3:=Heap.get?_update_self (Obj.mapFields (·.setIfInBounds 1 (Value.ref h1.objs.size))) e2 (Obj.isFreed_of_fields d3)
 have nfT:oT.isFreed=false:=Obj.isFreed_of_fields dT
 have T3:((h1.push oT).update e (Obj.mapFields (·.setIfInBounds 1 (Value.ref h1.objs.size)))).get? h1.objs.size=some oT:=(Heap.get?_update_other (h1.push oT) _ (Ne.symm nTe)).trans (Heap.get?_push_size h1 nfT)
 unfold setFlight
 refine wpAny_bind (wpAny_field e3 d3 (x:=.ref h1.objs.size) (by simp [hsz]) ?_)
 rw [if_pos (show (Value.ref h1.objs.size != Value.none)=true from by simp)]
 have szT:3<([head,.ref L,.none,rawInt L,.none]++(if pl.isEmpty then List.replicate 6 Value.none else pl)).toArray.size:=by
  simp only [List.size_toArray,List.length_append,List.length_cons,List.length_nil]<;>omega
 refine wpAny_setField T3 dT szT (q _ h1.objs.size ?_)
 have keep:∀ b o,b≠e→h1.get? b=some o→(((h1.push oT).update e (Obj.mapFields (·.setIfInBounds 1 (Value.ref h1.objs.size)))).update h1.objs.size (Obj.mapFields (·.setIfInBounds 3 ((none:Option Addr).elim Value.none fun f=>rawInt f)))).get? b=some o:=fun b o hbe hb=>by
  have hbT:h1.objs.size≠b:=Nat.ne_of_gt (Heap.lt_size hb)
  rw [Heap.get?_update_other _ _ hbT,Heap.get?_update_other _ _ (Ne.symm hbe)]
  exact Heap.get?_push_of_some _ hb
 refine ⟨fun b o nb nf hb=>keep b o nb ((S.2.1 b nf).trans hb),fun b o nb hb=>?_,?_,?_,?_⟩
 ·obtain ⟨sl,z⟩:=S.2.2 b o hb
  exact ⟨sl,keep b _ nb z⟩
 ·rw [Heap.get?_update_other _ _ nTe]
  exact e3
 ·exact Nat.le_of_eq S.1.symm
 ·refine ⟨_,_,Heap.get?_update_self _ T3 (Obj.isFreed_of_fields (Obj.data_mapFields dT _)),Obj.data_mapFields dT _,?_⟩
  simp only [Array.getElem?_setIfInBounds]
  rw [if_pos trivial,if_pos szT]
  rfl
theorem leave1N {base:Heap} {env:Env} {outer:List Env} {L e:Addr} {oe:Obj} {vs:Array Value} {Q:Unit→Shared→Prop}
  (hfr:A.frames=some (env::outer)) (hl:s.heap.FunFrames base (env::outer)) (hf:env.frame=some L) (he:s.heap.get? e=some oe) (hd:oe.data=.fields vs) (h1:vs[1]?=some .none)
  (q:∀ h' T,Aft (env::outer) e T oe s.heap h'→Q () { s with heap:=h' }):wpAny M A (noteFrame (.ref e) env) (fun _ s'=>wpAny M A (setFlight (.ref e) none) Q E s') E s:=by
 unfold noteFrame
 simp only [hf]
 refine wpAny_bind (wpAny_field he hd h1 ?_)
 rw [if_neg (by decide)]
 exact entry hfr hl hf he hd (Array.getElem?_eq_some_iff.mp h1).1 q
theorem leave2N {base:Heap} {env:Env} {outer:List Env} {L e T:Addr} {oe oT:Obj} {vs ts:Array Value} {Q:Unit→Shared→Prop}
  (hfr:A.frames=some (env::outer)) (hl:s.heap.FunFrames base (env::outer)) (hf:env.frame=some L) (he:s.heap.get? e=some oe) (hd:oe.data=.fields vs) (h1:vs[1]?=some (.ref T))
  (nT:T≠e) (hT:s.heap.get? T=some oT) (dT:oT.data=.fields ts) (t3:ts[3]?=some .none)
  (q:∀ h1 h' T',(∀ b,b≠T→h1.get? b=s.heap.get? b)→h1.get? T=some (oT.mapFields (·.setIfInBounds 3 .none))→h1.objs.size=s.heap.objs.size→Aft (env::outer) e T' oe h1 h'→Q () { s with heap:=h' }):wpAny M A (noteFrame (.ref e) env) (fun _ s'=>wpAny M A (setFlight (.ref e) none) Q E s') E s:=by
 unfold noteFrame
 simp only [hf]
 refine wpAny_bind (wpAny_field he hd h1 ?_)
 rw [if_pos (show (Value.ref T != Value.none)=true from by simp)]
 refine wpAny_bind (wpAny_field hT dT t3 ?_)
 rw [if_neg (show ¬ ((Value.none == rawInt L)=true) from by simp [rawInt])]
 refine wpAny_bind (wpAny_setField hT dT (Array.getElem?_eq_some_iff.mp t3).1 ?_)
 have other:∀ b,b≠T→(s.heap.update T (Obj.mapFields (·.setIfInBounds 3 Value.none))).get? b=s.heap.get? b:=fun b hb=>Heap.get?_update_other _ _ (Ne.symm hb)
 have noRec:∀ b o,s.heap.get? b=some o→(∀ vs,o.data≠.fields vs)→b≠T:=fun b o hb nf z=>by
  rw [z,hT] at hb
  cases hb
  exact nf ts dT
 exact entry hfr (hl.of_keeps fun b o hb nf=>⟨o,(other b (noRec b o hb nf)).trans hb,rfl⟩) hf ((other e (Ne.symm nT)).trans he) hd (Array.getElem?_eq_some_iff.mp h1).1
  fun h' T' a=>q _ h' T' other (Heap.get?_update_self _ hT (Obj.isFreed_of_fields (Obj.data_mapFields dT _))) (Heap.size_update _ _ _) a
end
end Ex
set_option Elab.async false
set_option linter.all false
set_option maxRecDepth 100000
set_option maxHeartbeats 4000000
namespace Ex
open PySem PySem.W PyProof.Rows Builtin.ObjectAttr
section
variable {prog:Program} {w:World} {M:Model} {A:Around} {E:Value→Shared→Prop} {s:Shared} {K:Frag} {x C:Addr} {name:Str} {v:Value}
/-- what of the text an exception class must have -/
structure XK0 (K:Frag) (C:Addr):Prop where
 cd:∃ cd,clsIn K C=some cd∧cd.hasDict=true∧cd.mro.isEmpty=false∧∀ self,refuseLoop self "__setattr__" cd.mro=pure ()
 bx:mroIn K C (.type "BaseException")=some true
 ob:mroIn K C (.type "object")=some true
 ty:typeIn K (.ref C)=some (.type "type")
 sa:findIn K (.ref C) "__setattr__" = some (some (.builtin "object.__setattr__"))
 ga:findIn K (.ref C) "__getattribute__" = some (some (.builtin "BaseException.__getattribute__"))
 gh:findIn K (.ref C) "__getattr__" = some none
 cl:findIn K (.ref C) "__class__" = some (some (.builtin "object.__class__"))
 cg:specialIn K (.builtin "object.__class__") "__get__" = some (some (.builtin "getset_descriptor.__get__"))
 ct:takesIn K (.builtin "object.__class__")=some true
/-- e.name = v, the first attribute -/
theorem set_exc {vs:Array Value} {sl:Array (Option Value)} {Q:Unit→Shared→Prop} (F:XK0 K C) (hn:findIn K (.ref C) name=some none) (X:K.In s.heap) (hx:s.heap.get? x=some ⟨.ref C,none,.fields vs,sl⟩)
  (q:∀ h' tk',h'.get? x=some ⟨.ref C,some s.heap.objs.size,.fields vs,sl⟩→h'.Ns1 s.heap.objs.size (fun y=>if y=name then some v else none) →
   (∀ b o,b≠x→s.heap.get? b=some o→h'.get? b=some o)→Q () { s with heap:=h',toks:=tk' }) :
  wpAny (model prog w) A (setAttr (.ref x) name v) Q E s:=by
 have I:InstAt s.heap x ⟨.ref C,none,.fields vs,sl⟩ C none:=⟨hx,rfl,rfl,trivial⟩
 refine set_plain X I F.sa ?_
 obtain ⟨h,g,d,t,os⟩:=s
 have SF:=PySem.F.store_object
 obtain ⟨cd,hc,hd,ne,hp⟩:=F.cd
 have sub:Looks (model prog w) h (isInstance (.ref x) (.type "object")) true:=I.type.andThen (looks_mroIn X F.ob)
 refine codeAny_call_builtin SF.slot.plain SF.entry (@check_slot (model prog w) _ _ ⟨h,g,d,t+1,os⟩ "object.__setattr__" "object" "__setattr__" (.ref x) [.str name t,v] [] _ SF.kind SF.split sub (SF.args (.ref x) (.str name t) v) ?_)
 have hm:Looks (model prog w) h (mroOf (.ref C)) cd.mro:=(looks_clsIn X hc).andThen .now
 rw [osa_eq,refuse_eq]
 refine wpAny_bind (wpAny_bind (I.type.at (wpAny_bind (hm.at ?_))))
 rw [hp]
 refine wpAny_pure (wpAny_bind (I.type.at (wpAny_bind ((looks_findIn X hn).at (wpAny_bind (wpAny_pure ?_))))))
 show wpAny _ _ (storeInOwnDict (.ref x) (.ref C) (.str name t) name v false) _ _ _
 refine wpAny_bind (wpAny_pure (wpAny_bind (wpAny_bind (wpAny_loadPart hx (wpAny_bind ((looks_clsIn X hc).at ?_))))))
 rw [hd]
 have x1:(h.push { cls:=.type "dict",data:=.dict #[] }).get? x=some ⟨.ref C,none,.fields vs,sl⟩:=Heap.get?_push_of_some _ hx
 have nx:x≠h.objs.size:=Nat.ne_of_lt (Heap.lt_size hx)
 refine wpAny_bind (wpAny_alloc' (wpAny_bind (wpAny_update' x1 (wpAny_pure ?_))))
 have gd:((h.push { cls:=.type "dict",data:=.dict #[] }).update x fun o=>{ cls:=o.cls,dict:=some h.objs.size,data:=o.data,slots:=o.slots }).get? h.objs.size=some { cls:=.type "dict",data:=.dict #[] } :=
  (Heap.get?_update_ne _ _ _ _ nx.symm).trans (Heap.get?_push_at rfl rfl)
 have nd:((h.push { cls:=.type "dict",data:=.dict #[] }).update x fun o=>{ cls:=o.cls,dict:=some h.objs.size,data:=o.data,slots:=o.slots }).Ns h.objs.size (fun _=>none) :=
  ⟨_,#[],_,gd,rfl,fun e he=>absurd he (by simp),fun _=>rfl⟩
 show wpAny _ _ (storeInDict h.objs.size (.str name t) name v) _ _ _
 unfold storeInDict newKeyGuard
 refine wpAny_bind (wpAny_pure (wpAny_bind (wpAny_nsSet1 (Heap.Ns1.of_empty nd) fun h' hn' hs=>?_)))
 obtain ⟨oD,esD,epD,hoD,hdD,hcD⟩:=hn'.count (Within.cons name v Within.nil)
 refine wpAny_bind (wpAny_lookBehind hoD (by rw [hdD];exact pastItsLine_dict (Nat.le_trans hcD (by rw [List.length_cons,List.length_nil,sizeLine_eq];omega))) (wpAny_pure ?_))
 exact q h' _ ((hs.2 x nx).trans (Heap.get?_update_self _ x1 rfl)) hn' fun b o nb hb=>(hs.2 b (Nat.ne_of_lt (Heap.lt_size hb))).trans ((Heap.get?_update_ne _ _ _ _ nb).trans (Heap.get?_push_of_some _ hb))
end
end Ex
set_option Elab.async false
set_option linter.all false
set_option maxRecDepth 100000
set_option maxHeartbeats 4000000
namespace Ex
open PySem PySem.W PyProof.Rows Builtin.ObjectAttr
section
variable {prog:Program} {w:World} {A:Around} {E:Value→Shared→Prop} {s:Shared} {K:Frag} {x C:Addr} {ox:Obj} {od:Option Obj} {name:Str} {v:Value}
/-- the exception's own way to read an attribute, up to what is found -/
theorem ga_call {tk:Tok} {R:Result→Shared→Prop} (F:XK0 K C) (X:K.In s.heap) (I:InstAt s.heap x ox C od)
  (h:wpAny (model prog w) A.in1 (Builtin.«object.__getattribute__» ⟨[.ref x,.str name tk],[]⟩) (fun fin s'=>match fin with | .done f=>R (.ok f) s' | .again c'=>c'.quiet=true∧codeAny (model prog w) A c' R s') (fun e s'=>R (.error e) s') s) :
  codeAny (model prog w) A (.call (.builtin "BaseException.__getattribute__") ⟨[.ref x,.str name tk],[]⟩) R s:=by
 have sub:Looks (model prog w) s.heap (isInstance (.ref x) (.type "BaseException")) true:=I.type.andThen (looks_mroIn X F.bx)
 have k1:builtinKind "BaseException.__getattribute__" = some .slot:=by decide +kernel
 have k2:splitId "BaseException.__getattribute__" = some ("BaseException","__getattribute__"):=by decide +kernel
 exact codeAny_call_builtin PySem.F.excAttr_ValueError.ga.plain PySem.F.entry_bexc_ga (@check_slot (model prog w) _ _ s "BaseException.__getattribute__" "BaseException" "__getattribute__" (.ref x) [.str name tk] [] _ k1 k2 sub (PySem.F.args_bexc_ga _ _) h)
theorem by_exc {tk:Tok} {fill expr:Bool} {Q:Value→Shared→Prop} (F:XK0 K C) (X:K.In s.heap) (I:InstAt s.heap x ox C od)
  (h:wpAny (model prog w) A.in1 (Builtin.«object.__getattribute__» ⟨[.ref x,.str name tk],[]⟩) (fun fin s'=>match fin with | .done (.ret v)=>wpAny (model prog w) A (handedOut v) Q E s' | _=>False) (fun _ _=>False) s) :
  wpAny (model prog w) A (getAttrBy (.ref x) (.str name tk) fill expr) Q E s:=by
 obtain ⟨hh,g,d,t,os⟩:=s
 have L0:=I.type (M:=model prog w)
 have L1:=looks_findIn (M:=model prog w) X F.ga
 have L2:=looks_findIn (M:=model prog w) X F.gh
 unfold getAttrBy
 refine wpAny_holding (wpAny_bind (L0.at (wpAny_bind (L1.at ?_))))
 have n1:(Value.builtin "BaseException.__getattribute__" == Value.builtin "object.__getattribute__")=false:=by decide +kernel
 show wpAny _ _ (if (onTheHeap (.ref C) && Value.builtin "BaseException.__getattribute__" == .builtin "object.__getattribute__")=true then _ else _) _ _ _
 rw [n1,Bool.and_false,if_neg Bool.false_ne_true]
 unfold getAttrByItsOwn
 refine wpAny_bind (m:=hookBefore (.ref C)) (L2.at ?_)
 have cg:callGetattribute (.ref x) (.str name tk) (.builtin "BaseException.__getattribute__") expr=boundAndCalled (.builtin "BaseException.__getattribute__") (.ref x) (.str name tk):=by
  unfold callGetattribute
  rw [show (expr && onTheHeap (Value.builtin "BaseException.__getattribute__"))=false from by cases expr<;>rfl,if_neg Bool.false_ne_true]
 rw [cg]
 refine wpAny_bind (wpAny_attempt (wpAny_holding ?_))
 unfold boundAndCalled
 rw [PySem.F.excAttr_ValueError.ga.bind (.ref x)]
 refine wpAny_bind (wpAny_pure ?_)
 refine wpAny_call (ga_call F X I (wpAny_mono h (fun fin s' z=>?_) fun _ _ z=>z.elim))
 rcases fin with (_ | _ | _ | _) | _<;>first | exact z | exact z.elim
/-- e.name, an attribute of its own dict -/
theorem get_exc {expr:Bool} {Q:Value→Shared→Prop} (F:XK0 K C) (X:K.In s.heap) (I:InstAt s.heap x ox C od) (hf:findObj K C od name=some (.value v)) (hv:handedIn v=true)
  (q:Q v { s with toks:=s.toks+1 }):wpAny (model prog w) A (getAttr (.ref x) name expr) Q E s:=by
 unfold getAttr
 refine wpAny_bind (wpAny_mkText (by_exc (s:={ s with toks:=s.toks+1 }) F X I ?_))
 obtain ⟨hh,g,d,t,os⟩:=s
 have L0:=I.type (M:=model prog w)
 have L1:=looks_find (M:=model prog w) X I hf
 refine wpAny_bind (wpAny_pure (wpAny_bind (wpAny_pure (wpAny_bind (L0.at (wpAny_bind (L1.at (wpAny_pure ?_))))))))
 show wpAny _ _ (handedOut v) _ _ _
 rw [handedOut_of hv]
 exact wpAny_pure q
theorem class_exc {Q:Option Value→Shared→Prop} (F:XK0 K C) (X:K.In s.heap) (I:InstAt s.heap x ox C od) (q:Q (some (.ref C)) { s with toks:=s.toks+1 }) :
  wpAny (model prog w) A (getAttr? (.ref x) "__class__") Q E s:=by
 obtain ⟨cd,hc,_⟩:=F.cd
 have hf:findObj K C od "__class__" = some (.bind (.builtin "getset_descriptor.__get__") (.builtin "object.__class__")):=by
  unfold findObj
  rw [hc,F.cl]
  simp only [Option.bind_some,F.cg,F.ct]
 unfold getAttr? getAttrBy?
 refine wpAny_bind (wpAny_mkText (wpAny_bind (wpAny_attempt (by_exc (s:={ s with toks:=s.toks+1 }) F X I ?_))))
 obtain ⟨hh,g,d,t,os⟩:=s
 have L0:=I.type (M:=model prog w)
 have L1:=looks_find (M:=model prog w) X I hf
 refine wpAny_bind (wpAny_pure (wpAny_bind (wpAny_pure (wpAny_bind (L0.at (wpAny_bind (L1.at ?_)))))))
 show wpAny _ _ (holding [Value.builtin "object.__class__"] (call (.builtin "getset_descriptor.__get__") [.builtin "object.__class__",.ref x,.ref C]) >>= ret) _ _ _
 refine wpAny_bind (wpAny_holding (wpAny_call (class_get (s:=⟨hh,g,d,t+1,os⟩) (ox:=ox) (od:=od) X I F.ob (wpAny_pure ?_))))
 show wpAny _ _ (handedOut (.ref C)) _ _ _
 exact wpAny_pure (wpAny_pure q)
end
end Ex
set_option Elab.async false
set_option linter.all false
set_option maxRecDepth 100000
set_option maxHeartbeats 4000000
namespace Ex
open PySem PySem.W PyProof.Rows Builtin.ObjectAttr
section
variable {prog:Program} {w:World} {A:Around} {E:Value→Shared→Prop} {s:Shared} {K:Frag} {x C:Addr} {ox:Obj} {od:Option Obj} {name:Str} {v:Value}
theorem isT (F:XK0 K C) {M:Model} {h:Heap} (X:K.In h):Looks M h (isType (.ref C)) true:=by
 obtain ⟨cd,hc,_⟩:=F.cd
 unfold clsIn at hc
 split at hc
 ·rename_i c' d' cd' sl' ho
  intro A' Q' E' s' k q
  unfold isType loadHead
  exact wpAny_bind (wpAny_loadPart (k _ _ (X _ _ ho)) (wpAny_pure q))
 ·cases hc
/-- isinstance(e, ..) -/
theorem kitx_exc (F:XK0 K C):KitX K (.ref x) (.ref C) (fun h=>InstAt h x ox C od) where
 ty:=fun _ _ _ I=>I.type
 it:=fun _ _ X _=>isT F X
 ne:=fun h tp dd its n sl X htp=>by
  obtain ⟨cd,hc,_⟩:=F.cd
  refine Bool.eq_false_iff.mpr fun q=>?_
  have e:C=tp:=Value.ref.inj (beq_iff_eq.mp q)
  subst e
  unfold clsIn at hc
  split at hc
  ·rename_i c' d' cd' sl' ho
   have z:=(X _ _ ho).symm.trans htp
   cases z
  ·cases hc
 ca:=fun X I k=>class_exc F X I k
/-- raise e -/
theorem raise_exc {env:Env} {m:Sem Value} {Q:Flow→Shared→Prop} (hh:A.handled=none)
  (h:wpAny (model prog w) A m (fun u s1=>∃ e C od vs sl,u=.ref e∧XK0 K C∧K.In s1.heap∧s1.heap.get? e=some ⟨.ref C,od,.fields vs,sl⟩∧vs[1]?=some .none∧E (.ref e) s1) E s) :
  wpAny (model prog w) A (raiseStmt env (some m) none) Q E s:=by
 unfold raiseStmt
 refine wpAny_bind (wpAny_mono h (fun u s1 h1=>?_) fun _ _ z=>z)
 obtain ⟨e,C,od,vs,sl,rfl,F,X,he,t1,q⟩:=h1
 obtain ⟨hp,g,d,tk,os⟩:=s1
 have T:Looks (model prog w) hp (typeOf (.ref e)) (.ref C):=(Looks.ld he).andThen .now
 have nt:Looks (model prog w) hp (isType (.ref e)) false:=by
  intro A' Q' E' s' k q
  unfold isType loadHead
  exact wpAny_bind (wpAny_loadPart (k _ _ he) (wpAny_pure q))
 have B:Looks (model prog w) hp (isInstance (.ref e) (.type "BaseException")) true:=T.andThen (looks_mroIn X F.bx)
 have TT:=looks_typeIn (M:=model prog w) X F.ty
 have n1:Looks (model prog w) hp (isExcClass (.ref e)) false:=by
  unfold isExcClass
  exact nt.andThen .now
 have xf:Looks (model prog w) hp (excFromValue (.ref e) "exceptions must derive from BaseException") (.ref e):=by
  unfold excFromValue
  exact n1.andThen (B.andThen .now)
 refine wpAny_bind (wpAny_pure (wpAny_bind (wpAny_holding (xf.at ?_))))
 have ri:Looks (model prog w) hp (raisedInstance (.ref e)) (.ref e):=by
  unfold raisedInstance
  exact T.andThen (TT.andThen .now)
 refine wpAny_bind (nt.at ?_)
 show wpAny _ _ (raisedInstance (.ref e) >>= fun e=>setFlight e none >>= fun _=>raiseNew e) _ _ _
 refine wpAny_bind (ri.at (wpAny_bind ?_))
 unfold setFlight
 refine wpAny_bind (wpAny_field he rfl t1 ?_)
 rw [if_neg (by decide)]
 exact wpAny_pure (wpAny_raiseNew_none hh q)
/-- is the exception of the class D? -/
theorem match_exc {D:Addr} {b:Bool} {Q:Bool→Shared→Prop} (F:XK0 K C) (G:XK0 K D) (X:K.In s.heap) (I:InstAt s.heap x ox C od) (hm:mroIn K C (.ref D)=some b) (hb:instIn K (.ref D) (.type "tuple")=some false) (hB:mroIn K D (.type "BaseException")=some true)
  (q:Q b s):wpAny (model prog w) A (excMatches (.ref x) (.ref D)) Q E s:=by
 obtain ⟨h,g,d,tk,os⟩:=s
 have T:=I.type (M:=model prog w)
 have L1:=looks_instIn (M:=model prog w) X hb
 have L2:Looks (model prog w) h (isExcClass (.ref D)) true:=by
  unfold isExcClass
  exact (isT G X).andThen (looks_mroIn X hB)
 have L3:=looks_mroIn (M:=model prog w) X hm
 unfold excMatches
 repeat lk
 cases b with
 | true=>exact wpAny_pure (wpAny_pure (wpAny_pure q))
 | false=>exact wpAny_pure (wpAny_pure (wpAny_pure q))
/-- ValueError.__init__(e, ..): the arguments anew -/
theorem init_exc {rest:List Value} {vs:Array Value} {dd:Option Addr} {sl:Array (Option Value)} {t0:Addr} {R:Result→Shared→Prop} (F:XK0 K C) (hV:mroIn K C (.type "ValueError")=some true) (X:K.In s.heap)
  (hx:s.heap.get? x=some ⟨.ref C,dd,.fields vs,sl⟩) (h0:vs[0]?=some (.ref t0)) (hl:rest.length≤sizeLine)
  (q:∀ h' T,h'.get? x=some ⟨.ref C,dd,.fields (vs.setIfInBounds 0 (.ref T)),sl⟩→(∀ b o,b≠x→s.heap.get? b=some o→h'.get? b=some o)→R (.ok (.ret .none)) { s with heap:=h' }) :
  codeAny (model prog w) A (.call (.builtin "ValueError.__init__") ⟨.ref x::rest,[]⟩) R s:=by
 have B:=PySem.F.excBase_ValueError
 obtain ⟨h,g,d,tk,os⟩:=s
 have T:Looks (model prog w) h (typeOf (.ref x)) (.ref C):=(Looks.ld hx).andThen .now
 have sub:Looks (model prog w) h (isInstance (.ref x) (.type "ValueError")) true:=T.andThen (looks_mroIn X hV)
 have st:∀ (a b:String) (n:Nat),Bind.check ⟨.positional,"*","ValueError",.self,[⟨"args",.varPos,false⟩]⟩ a b n (List.map (fun x=>x.fst) ({ pos:=Value.ref x::rest }:Args).kw)=pure ():=fun a b n=>check_star_args _ _ _ _ _ _
 refine codeAny_call_builtin B.init.plain B.initEntry ?_
 simp only [checkBuiltinCall,B.initKind,B.initSplit,B.initRow]
 refine wpAny_bind (sub.at ?_)
 rw [if_neg (by decide)]
 obtain ⟨cd,hc,_⟩:=F.cd
 obtain ⟨cc,dC,slC,ho⟩ : ∃ cc dC slC,K.lookup C=some ⟨cc,dC,.cls cd,slC⟩:=by
  unfold clsIn at hc
  split at hc
  ·rename_i c' d' cd' sl' ho
   cases hc
   exact ⟨_,_,_,ho⟩
  ·cases hc
 have hC:h.get? C=some ⟨cc,dC,.cls cd,slC⟩:=X _ _ ho
 have c2:=B.noStar
 repeat (first | with_reducible refine wpAny_loadPart_at hx ?_ | with_reducible refine wpAny_loadPart_at hC ?_ | wp_step)
 refine wpAny_onRaise ?_
 rw [st]
 refine wpAny_pure ?_
 unfold Builtin.«BaseException.__init__»
 show wpAny _ _ (newTuple rest >>= fun t=>Builtin.BaseException.bexcPut (.ref x) 0 t >>= fun _=>ret .none) _ _ _
 unfold newTuple
 refine wpAny_bind (wpAny_newObj_type ?_ (by show rest.toArray.size≤sizeLine;rw [List.size_toArray];exact hl))
 have x1:=Heap.get?_push_of_some (h:=h) { cls:=.type "tuple",data:=.seq rest.toArray } hx
 have sz:0<vs.size:=(Array.getElem?_eq_some_iff.mp h0).1
 unfold Builtin.BaseException.bexcPut
 refine wpAny_bind (wpAny_bind (wpAny_field x1 rfl h0 (wpAny_bind (wpAny_setField x1 rfl sz (wpAny_letGo (wpAny_pure ?_))))))
 refine q _ h.objs.size (Heap.get?_update_self _ x1 rfl) fun b o nb hb=>?_
 rw [Heap.get?_update_other _ _ (Ne.symm nb)]
 exact Heap.get?_push_of_some _ hb
end
end Ex
set_option Elab.async false
set_option linter.all false
set_option maxRecDepth 100000
set_option maxHeartbeats 4000000
namespace Ex
open PySem PySem.W PyProof.Rows Builtin.ObjectAttr
section
variable {prog:Program} {w:World} {A:Around} {E:Value→Shared→Prop} {h:Heap} {g:Array GenState} {d:Drawn} {t:Nat} {os:OsState} {K:Frag}
variable {nm q:Str} {C N:Addr} {bs bm bmB:List Value} {hdct:Bool} {sn:List Str} {sub:List Value} {ab:Bool} {col:Option Bool} {dd:Option Addr} {k0 k1 k2 k3 k5:Option Value} {B newId initId:String}
theorem type_callK (F:ExcBaseFacts B newId initId bmB) (U:Up B bm) {rest:List Value} {fI:Addr} {Q:Fin→Shared→Prop} (hrest:rest.length≤sizeLine) (X:K.In h)
  (hC:h.get? C=some (excClassObj nm q C N bs bm hdct sn sub ab col dd k0 k1 k2 k3 k5 newId)) (hi:findIn K (.ref C) "__init__" = some (some (.ref fI))) (hfn:typeIn K (.ref fI)=some (.type "function"))
  (hq:∀ h' e,h.objs.size≤e→Heap.MadeExcOf h h' e (.ref C) rest→wpAny (model prog w) A (call (.ref fI) (.ref e::rest)) (fun r s'=>r=.none∧Q (.done (.ret (.ref e))) s') E ⟨h',g,d,t,os⟩) :
  wpAny (model prog w) A (Builtin.«type.__call__» ⟨.ref C::rest,[]⟩) Q E ⟨h,g,d,t,os⟩:=by
 repeat (first | with_reducible refine wpAny_loadPart_at hC ?_ | with_reducible refine wpAny_madeBy_exc hC ?_ | wp_step)
 refine codeAny_call_builtin_code (Code.quiet_builtin _ F.quiet) (check_new F U hC (exc_new F U hC hrest ?_))
 show wpAny _ _ _ _ _ _
 have k2:∀ {b:Addr} {o:Obj},h.get? b=some o→((h.push { cls:=.type "tuple",data:=.seq rest.toArray }).push { cls:=.ref C,data:=.fields #[.ref h.objs.size,.none,.none,.none,.bool false,.none] }).get? b=some o:=fun e=>Heap.get?_push_of_some _ (Heap.get?_push_of_some _ e)
 have X1:K.In ((h.push { cls:=.type "tuple",data:=.seq rest.toArray }).push { cls:=.ref C,data:=.fields #[.ref h.objs.size,.none,.none,.none,.bool false,.none] }):=fun a o e=>k2 (X a o e)
 have hC₁:=k2 hC
 have hget:((h.push { cls:=.type "tuple",data:=.seq rest.toArray }).push { cls:=.ref C,data:=.fields #[.ref h.objs.size,.none,.none,.none,.bool false,.none] }).get? (h.objs.size+1)=some { cls:=.ref C,data:=.fields #[.ref h.objs.size,.none,.none,.none,.bool false,.none] }:=by heap_get
 have hcC:(Value.ref C::bm).contains (.ref C)=true:=by simp
 unfold isInstance
 repeat (first | with_reducible refine wpAny_loadPart_at hget ?_ | (with_reducible refine wpAny_isSubtype_exc hC₁ ?_;rw [hcC]) | wp_step)
 show wpAny _ _ (typeLookup (.ref C) _) _ _ _
 refine (looks_findIn (M:=model prog w) X1 hi).at ?_
 refine wpAny_holding (wpAny_bind ?_)
 unfold bindSpecial
 refine wpAny_bind ((looks_typeIn (M:=model prog w) X1 hfn).at ?_)
 rw [if_pos (by decide)]
 refine wpAny_pure (wpAny_bind (wpAny_mono (hq _ (h.objs.size+1) (Nat.le_succ _) ⟨fun b o hb=>k2 hb,Heap.get?_none_of_le (Nat.le_succ _),h.objs.size,hget,Heap.get?_none_of_le (Nat.le_refl _),Heap.get?_push_of_some _ (Heap.get?_push_at rfl rfl)⟩) (fun r s' hr=>?_) fun _ _ x=>x))
 obtain ⟨rfl,hQ⟩:=hr
 wp_walk
 exact hQ
theorem call_excK (F:ExcBaseFacts B newId initId bmB) (U:Up B bm) {rest:List Value} {fI:Addr} {Q:Value→Shared→Prop} (hrest:rest.length≤sizeLine) (X:K.In h)
  (hC:h.get? C=some (excClassObj nm q C N bs bm hdct sn sub ab col dd k0 k1 k2 k3 k5 newId)) (hi:findIn K (.ref C) "__init__" = some (some (.ref fI))) (hfn:typeIn K (.ref fI)=some (.type "function"))
  (hq:∀ h' e,h.objs.size≤e→Heap.MadeExcOf h h' e (.ref C) rest →
   wpAny (model prog w) (A.under (.builtin "type.__call__" ⟨.ref C::rest,[]⟩)) (call (.ref fI) (.ref e::rest)) (fun r s'=>r=.none∧Q (.ref e) s') E ⟨h',g,d,t,os⟩) :
  wpAny (model prog w) A (call (.ref C) rest) Q E ⟨h,g,d,t,os⟩:=by
 have f1:=tc_lookup
 have f2:=tc_bind (.ref C)
 have hT:(⟨h,g,d,t,os⟩ : Shared).TypeIs (.ref C) "type":=⟨_,hC,rfl⟩
 refine wpAny_call (codeAny_of_tree ?_)
 show wpAny _ _ (callAny (.ref C) ⟨rest,[]⟩) _ _ _
 repeat (any_goals (first | assumption | with_reducible refine wpAny_loadPart_at hC ?_ | wp_step))
 refine ⟨rfl,?_⟩
 refine codeAny_call_builtin_at (Code.quiet_builtin _ (by decide +kernel)) entry_typeCall (wpAny_check_type_call_sub hC (type_callK F U hrest X hC hi hfn fun h' e he hm=>?_))
 exact hq h' e he hm
end
end Ex
set_option Elab.async false
set_option linter.all false
set_option maxRecDepth 100000
set_option maxHeartbeats 4000000
namespace L2
open PySem PySem.Spec PyProof.Rows
/-- an exception: its class, its dict, its traceback -/
def XO (e C:Addr) (dx:Option Addr) (t1:Value) (h:Heap):Prop:=∃ vs sl,h.get? e=some ⟨.ref C,dx,.fields vs,sl⟩∧(∃ t0,vs[0]?=some (.ref t0))∧vs[1]?=some t1
/-- a traceback's record -/
def TrB (T:Addr) (h:Heap):Prop:=∃ o ts,h.get? T=some o∧o.data=.fields ts∧ts[3]?=some .none
theorem XO.ok {P:Program} {w:World} {H:Hp} {h:Heap} {e C:Addr} {dx:Option Addr} {t1:Value} (x:XO e C dx t1 h):ObjOk P w H h e (.ext (XO e C dx t1)):=by
 refine ⟨x,?_,fun h1 h2 y k=>?_⟩
 ·obtain ⟨vs,sl,e,_⟩:=x
  exact ⟨_,e⟩
 ·obtain ⟨vs,sl,e,r⟩:=y
  exact ⟨vs,sl,k _ e,r⟩
theorem TrB.ok {P:Program} {w:World} {H:Hp} {h:Heap} {T:Addr} (x:TrB T h):ObjOk P w H h T (.ext (TrB T)):=by
 refine ⟨x,?_,fun h1 h2 y k=>?_⟩
 ·obtain ⟨o,ts,e,_⟩:=x
  exact ⟨_,e⟩
 ·obtain ⟨o,ts,e,r⟩:=y
  exact ⟨o,ts,k _ e,r⟩
theorem upd_self {H:Hp} {a:Addr} {o:HO} (h:H a=some o):upd H a o=H:=by
 funext b
 by_cases e:b=a
 ·subst e;rw [upd_same,h]
 ·rw [upd_ne e]
section
variable {P:Program} {w:World} {H:Hp} {h h':Heap} {a d:Addr} {o1 o2:HO} {fs ex:List Addr}
/-- one thing is changed, another is new -/
theorem HOk.two (ok:HOk P w H h) (mu:Mut (H a)) (hd:h.objs.size≤d) (k:∀ b u,b≠a→h.get? b=some u→h'.get? b=some u)
  (n1:ObjOk P w (upd (upd H d o1) a o2) h' d o1) (n2:ObjOk P w (upd (upd H d o1) a o2) h' a o2):HOk P w (upd (upd H d o1) a o2) h':=fun b u q=>by
 have nown:∀ c y,H c=some (.own y)→c≠a:=fun c y r z=>by subst z;rw [r] at mu;exact mu
 have ntup:∀ c xs,H c=some (.tup xs)→c≠a:=fun c xs r z=>by subst z;rw [r] at mu;exact mu
 have nd:H d=none:=ok.fresh hd
 by_cases hb:b=a
 ·subst hb;rw [upd_same] at q;cases q;exact n2
 ·rw [upd_ne hb] at q
  by_cases hbd:b=d
  ·subst hbd;rw [upd_same] at q;cases q;exact n1
  ·rw [upd_ne hbd] at q
   refine (ok b u q).stay (fun c v hc r=>k c v ?_ r) (fun c r=>by rw [upd_ne (nown c b r),upd_ne (ne_of_none r nd)];exact r) fun c xs r=>by rw [upd_ne (ntup c xs r),upd_ne (ne_of_none r nd)];exact r
   rcases hc with rfl | hc
   ·exact hb
   ·exact nown c b hc
theorem Un.two (mu:Mut (H a)) (hd:h.objs.size≤d) (nd:H d=none) (k:∀ b u,b≠a→h.get? b=some u→h'.get? b=some u) (he:∃ u,h'.get? a=some u):Un fs ex H (upd (upd H d o1) a o2) h h':=by
 have hx:∀ b,H b=none→b≠a:=fun b n z=>by subst z;rw [n] at mu;exact mu
 have hm:∀ b u,H b=some u→¬ Mut (some u)→b≠a:=fun b u q nm z=>by subst z;rw [q] at mu;exact nm mu
 refine ⟨fun b u q n _ _=>k b u (hx b n) q,fun b u q n _ _=>⟨u.slots,k b u (hx b n) q⟩,fun b u q n _=>by rw [upd_ne (hx b n),upd_ne (Nat.ne_of_lt (Nat.lt_of_lt_of_le (Heap.lt_size q) hd))];exact n,fun b u q _=>?_,
  fun b xs q=>by rw [upd_ne (hm b _ q fun z=>z),upd_ne (ne_of_none q nd)];exact q,fun b u xs q=>by rw [upd_ne (hm b _ q fun z=>z),upd_ne (ne_of_none q nd)];exact q,
  fun b ps q=>⟨#[],by rw [upd_ne (hm b _ q fun z=>z),upd_ne (ne_of_none q nd),q];simp⟩⟩
 by_cases hb:b=a
 ·subst hb;exact he
 ·exact ⟨u,k b u hb q⟩
end
/-- what of the text an exception class must have to be made -/
structure XM (K:PySem.W.Frag) (C f:Addr):Prop where
 x0:Ex.XK0 K C
 obj:∃ nm q N bs bm hdct sn sub ab col dd k0 k1 k2 k3 k5,K.lookup C=some (excClassObj nm q C N bs bm hdct sn sub ab col dd k0 k1 k2 k3 k5 "ValueError.__new__")∧Ex.Up "ValueError" bm
 init:PySem.W.findIn K (.ref C) "__init__" = some (some (.ref f))
 fn:PySem.W.typeIn K (.ref f)=some (.type "function")
 kp:PySem.W.keepIn K (.ref C)=true
/-- C(..), an exception -/
def tXMake (C:Addr) (sp:Sp) (t:TA):TE:=fun σ H Q=>t σ H fun vs H1=>∀ x,H1 x=none→sp (.ref x::vs) (upd H1 x (.ext (XO x C none .none))) (fun v H2=>v=.non∧Q (.ref x) H2) E0
section
variable {X:Cx} {k:Nat} {f C:Addr} {fd:FuncData} {ps:List Str} {sp:Sp} {x m:Str} {p pos apos:Pos} {e o:Expr} {es:List Expr} {ta:TE} {t:TA}
theorem run_xmake {pins:List (Addr×Obj)} {σ:St} {H:Hp} {s:Shared} {Q:VK} {us:List Value} {vs:List V} (M:XM X.K C f) (F:FnOk X.prog X.w X.K X.mg X.base CX0 k f fd ps sp) (hr:Room (k+1) X.A) (hb:Binds X.K fd ps []) (hs:ps.length≤100)
  (I:Inv X pins σ H s) (r:Vals vs us)
  (h:∀ x,H x=none→sp (.ref x::vs) (upd H x (.ext (XO x C none .none))) (fun v H2=>v=.non∧Q (.ref x) H2) E0) :
  wpAny (model X.prog X.w) X.A (call (.ref C) us) (EP X pins σ Q) X.xe s:=by
 have hl0:us.length+1=ps.length:=by
  have:=F.len _ _ _ _ (h s.heap.objs.size (I.hok.fresh (Nat.le_refl _)))
  rw [List.length_cons,r.length] at this
  exact this
 obtain ⟨nm,q,N,bs,bm,hdct,sn,sub,ab,col,dd,k0,k1,k2,k3,k5,lk,U⟩:=M.obj
 obtain ⟨h0,g,d,tk,os⟩:=s
 have KX:X.K.In h0:=I.kIn
 refine Ex.call_excK (K:=X.K) (fI:=f) PySem.F.excBase_ValueError U (by rw [sizeLine_eq];omega) KX (KX _ _ lk) M.init M.fn fun h' x hx hm=>?_
 have I2:Inv X pins σ (upd H x (.ext (XO x C none .none))) ⟨h',g,d,tk,os⟩:=by
  refine I.laid (t':=tk) hm.keeps hx (XO.ok ?_)
  obtain ⟨t0,e0,_⟩:=hm.there
  exact ⟨_,_,e0,⟨t0,rfl⟩,rfl⟩
 have hq:=h x (I.hok.fresh hx)
 have r2:Vals (V.ref x::vs) (Value.ref x::us):=.cons rfl r
 have hl:((Value.ref x::us)++[]).length=ps.length:=by rw [List.append_nil,List.length_cons];exact hl0
 have bb:=hb _ (Value.ref x::us) I2.kIn hl
 rw [List.append_nil] at bb
 refine wpAny_call (codeAny_mono (F.run _ X.stack _ _ ⟨Value.ref x::us,[]⟩ (Value.ref x::us) _ _ E0 (hr.make C us []) (I2.env0.make C us []) bb r2 hq) fun rr s' hq'=>?_)
 cases rr with
 | error e=>exact hq'.elim
 | ok fl =>
  cases fl with
  | ret u =>
   obtain ⟨v,H',I3,rv,ev,q3⟩:=I2.after hq'
   subst ev
   exact ⟨rv,⟨V.ref x,H',I3,rfl,q3⟩⟩
  | next=>exact False.elim hq'
  | brk=>exact False.elim hq'
  | cont=>exact False.elim hq'
theorem pe_xmake (M:XM X.K C f) (F:FnOk X.prog X.w X.K X.mg X.base CX0 k f fd ps sp) (hr:Room (k+1) X.A) (hg:Gl X x) (hm:X.mg x=some (.ref C)) (hb:Binds X.K fd ps []) (hs:ps.length≤100)
  (ha:PA X (e::es) t) (hdb:(x == ("__debug__" : Str))=false:=by decide) (he:starEach (e::es) X.env=(false,eval e X.env)::starEach es X.env:=by rfl) (hpl:(backTo pos (starEach es X.env)).any (·.1)=false:=by rfl) :
  PE X (.Call (.Name x p) (e::es) [] pos) (tXMake C sp t):=by
 intro pins s σ H Q I h
 refine wpAny_Call_Name_kw (ld_glob I hg hm ?_ hdb)
 refine PySem.W.callWith_K (h₀:=X.base) I.ok.mod.kin M.kp (thn (ha pos pins s σ H _ I h) fun us s1 ⟨vs,H1,I1,r,q⟩=>⟨I1.kIn,?_⟩) he hpl
 exact run_xmake M F hr hb hs I1 r q
end
end L2
set_option Elab.async false
set_option linter.all false
set_option maxRecDepth 100000
set_option maxHeartbeats 4000000
namespace L2
open PySem PySem.Spec PyProof.Rows
/-- ValueError.__init__(self, ..) -/
inductive tVInitY (K:PySem.W.Frag) (Q:VK) (vs:List V) (H1:Hp):Prop
 | mk:∀ a C dx rest,(vs=.ref a::rest)→(H1 a=some (.ext (XO a C dx .none)))→(Ex.XK0 K C)→(PySem.W.mroIn K C (.type "ValueError")=some true)→(rest.length≤100)→(Q .non H1)→tVInitY K Q vs H1
def tVInit (K:PySem.W.Frag) (t:TA):TE:=fun σ H Q=>t σ H fun vs H1=>tVInitY K Q vs H1
/-- self.f = value, the first attribute of an exception -/
inductive sXFldY (K:PySem.W.Frag) (f:Str) (D:Ends) (σ:St) (y:V) (x:V) (H2:Hp):Prop
 | mk:∀ a C,(x=.ref a)→(H2 a=some (.ext (XO a C none .none)))→(Ex.XK0 K C)→(PySem.W.findIn K (.ref C) f=some none)→(∀ d,H2 d=none→d≠a→D.nx σ (upd (upd H2 d (.xd [(f,y)])) a (.ext (XO a C (some d) .none))))→sXFldY K f D σ y x H2
def sXFld (K:PySem.W.Frag) (ta tv:TE) (f:Str):TS:=fun D σ H=>tv σ H fun y H1=>ta σ H1 fun x H2=>sXFldY K f D σ y x H2
section
variable {X:Cx} {k:Nat} {f C:Addr} {fd:FuncData} {ps:List Str} {sp:Sp} {x m:Str} {p pos apos pos':Pos} {e o value:Expr} {es:List Expr} {ta tv:TE} {t:TA}
theorem pe_vinit {pl:Sem Bool} (hg:Gl X "ValueError") (hm:X.mg "ValueError" = none) (hc:PySem.W.findCls X.K (.type "ValueError") (.type "type") "__init__" = some (.val (.builtin "ValueError.__init__"))) (ha:PA X (e::es) t)
  (hst:starEach (e::es) X.env=(false,eval e X.env)::starEach es X.env:=by rfl) (hpl:(backTo pos (starEach es X.env)).any (·.1)=false:=by rfl)
  (ht:eval (.Call (.Attribute (.Name "ValueError" p) "__init__" apos) (e::es) [] pos) X.env=(do
   let ov ←eval (.Name "ValueError" p) X.env
   standAt apos.atName
   let (f,first) ←holding [ov] (getMethod ov "__init__" pl)
   callWith pos f first (backTo pos (starEach (e::es) X.env)) (backToKw pos (keywordEach [] X.env))):=by rfl) :
  PE X (.Call (.Attribute (.Name "ValueError" p) "__init__" apos) (e::es) [] pos) (tVInit X.K t):=by
 intro pins s σ H Q I h
 have bv:bootBuiltins "ValueError" = some (.type "ValueError"):=by decide +kernel
 refine PySem.W.methodCall_KW (pl:=pl) (ld_blt I hg hm bv ?_) ht
 obtain ⟨m,fr⟩:=I.fr
 refine PySem.W.method_type fr I.ok.mod.kin rfl (by decide +kernel) hc rfl ?_
 have I0:=I.tok (s.toks+1)
 refine PyProof.Rows.callWith_builtin1 (thn (ha pos pins _ σ H _ I0 h) fun us s1 ⟨vs,H1,I1,r,a,C,dx,rest,ev,ha,x0,hV,hl,q⟩=>?_) hst hpl
 subst ev
 obtain ⟨u,us,rfl,ru,rr⟩ : ∃ u us',us=u::us'∧RelV (.ref a) u∧Vals rest us':=by
  cases r with
  | cons a b=>exact ⟨_,_,rfl,a,b⟩
 cases ru
 obtain ⟨⟨ws,sl,he,⟨t0,h0⟩,h1⟩,_⟩:=I1.hok a _ ha
 refine wpAny_call (Ex.init_exc (K:=X.K) x0 hV I1.kIn he h0 (by rw [←rr.length,sizeLine_eq];omega) fun h' T g1 g2=>?_)
 refine ⟨.non,H1,?_,rfl,q⟩
 have:=I1.write (h':=h') (t':=s1.toks) (x:=a) (e:=a) (o:=.ext (XO a C dx .none)) (by rw [ha];exact True.intro) (.inl rfl) (fun b u nb e=>g2 b u nb e) ⟨_,g1⟩
  (XO.ok ⟨_,_,g1,⟨T,by rw [Array.getElem?_setIfInBounds];rw [if_pos rfl,if_pos (Array.getElem?_eq_some_iff.mp h0).1]⟩,by rw [Array.getElem?_setIfInBounds_ne (by decide)];exact h1⟩)
 rw [upd_self ha] at this
 exact this
/-- D.__init__(self, ..), D an own class -/
theorem pe_cinit {pl:Sem Bool} {D:Addr} {d:Str} {mc:Value} (hg:Gl X d) (hm:X.mg d=some (.ref D)) (h1:PySem.W.specialIn X.K (.ref D) "__getattribute__" = some (some (.builtin "type.__getattribute__"))) (h2:PySem.W.readsIn X.K D mc=true)
  (h3:PySem.W.findCls X.K (.ref D) mc "__init__" = some (.val (.ref f))) (hk:PySem.W.keepIn X.K (.ref f)=true) (F:FnOk X.prog X.w X.K X.mg X.base CX0 k f fd ps sp) (hr:Room k X.A) (hb:Binds X.K fd ps []) (ha:PA X (e::es) t)
  (hd:(d == ("__debug__" : Str))=false:=by decide) (hst:starEach (e::es) X.env=(false,eval e X.env)::starEach es X.env:=by rfl) (hpl:(backTo pos (starEach es X.env)).any (·.1)=false:=by rfl)
  (ht:eval (.Call (.Attribute (.Name d p) "__init__" apos) (e::es) [] pos) X.env=(do
   let ov ←eval (.Name d p) X.env
   standAt apos.atName
   let (f,first) ←holding [ov] (getMethod ov "__init__" pl)
   callWith pos f first (backTo pos (starEach (e::es) X.env)) (backToKw pos (keywordEach [] X.env))):=by rfl) :
  PE X (.Call (.Attribute (.Name d p) "__init__" apos) (e::es) [] pos) (tCall sp [] E0 t):=by
 intro pins s σ H Q I h
 refine PySem.W.methodCall_KW (pl:=pl) (ld_glob I hg hm ?_ hd) ht
 refine PySem.W.method_cls I.kIn h1 (PySem.W.cls_value I.kIn h2 h3 rfl ?_)
 have I0:=I.tok (s.toks+1)
 refine PySem.W.callWith_K (first:=[]) (h₀:=X.base) I.ok.mod.kin hk (thn (ha pos pins _ σ H _ I0 h) fun us s1 ⟨vs,H1,I1,r,q⟩=>⟨I1.kIn,?_⟩) hst hpl
 exact run_fn F hr hb .nil pass0 I1 r q
theorem ps_xfld {f:Str} (ha:PE X o ta) (hv:PE X value tv) (hs:swapsWith value (some (.Attribute o f pos')) pos.line X.env=pure false):PS X (.Assign [.Attribute o f pos'] value pos) (sXFld X.K ta tv f):=by
 intro pins s σ H D I h
 refine plainObj_wpAny_Assign_Attribute (thn (hv pins s σ H _ I h) fun u s1 ⟨y,H1,I1,ry,q⟩=>thn (ha pins s1 σ H1 _ I1 q) fun ov s2 ⟨x,H2,I2,rx,a,C,ex,ea,x0,n,q2⟩=>?_) hs
 subst ex
 obtain rfl:ov=Value.ref a:=rx
 obtain ⟨⟨ws,sl,he,t0,h1⟩,_⟩:=I2.hok a _ ea
 have mu:Mut (H2 a):=by rw [ea];exact True.intro
 have nd:H2 s2.heap.objs.size=none:=I2.hok.fresh (Nat.le_refl _)
 have na:s2.heap.objs.size≠a:=Nat.ne_of_gt (Heap.lt_size he)
 refine Ex.set_exc (K:=X.K) x0 n I2.kIn he fun h' tk' g1 g2 g3=>⟨σ,_,?_,q2 s2.heap.objs.size nd na⟩
 refine I2.un (t':=tk') (Un.two mu (Nat.le_refl _) nd g3 ⟨_,g1⟩) (HOk.two I2.hok mu (Nat.le_refl _) g3 ?_ (XO.ok ⟨_,_,g1,t0,h1⟩))
 refine ⟨_,g2,fun g=>?_⟩
 show RelO (List.lookup g [(f,y)]) (if g=f then some u else none)
 by_cases e:g=f
 ·subst e
  rw [if_pos rfl,List.lookup_cons_self]
  exact ry
 ·rw [if_neg e]
  have:(g == f)=false:=by simpa using e
  simp only [List.lookup,this]
  trivial
end
end L2
set_option Elab.async false
set_option linter.all false
set_option maxRecDepth 100000
set_option maxHeartbeats 4000000
namespace L2
open PySem PySem.Spec PyProof.Rows
/-- the exception as the reading sees it: its class, its dict (tracked, where it has one) -/
def XAt (H:Hp) (a C:Addr) (dx:Option Addr) (t1:Value):Prop:=H a=some (.ext (XO a C dx t1))∧∀ d,dx=some d→∃ fs,H d=some (.xd fs)
/-- e.f, an attribute of an exception -/
inductive tXFldY (K:PySem.W.Frag) (f:Str) (Q:VK) (x:V) (H1:Hp):Prop
 | mk:∀ a C d t1 fs v,(x=.ref a)→(H1 a=some (.ext (XO a C (some d) t1)))→(H1 d=some (.xd fs))→(Ex.XK0 K C)→(PySem.W.findIn K (.ref C) f=some none)→(fs.lookup f=some v)→(Q v H1)→tXFldY K f Q x H1
def tXFld (K:PySem.W.Frag) (ta:TE) (f:Str):TE:=fun σ H Q=>ta σ H fun x H1=>tXFldY K f Q x H1
section
variable {X:Cx} {pins:List (Addr×Obj)} {σ:St} {H:Hp} {s:Shared} {e:Expr} {f:Str} {pos:Pos} {ta:TE}
theorem XAt.inst (I:Inv X pins σ H s) {a C:Addr} {dx:Option Addr} {t1:Value} (x:XAt H a C dx t1):∃ ox od,PySem.W.InstAt s.heap a ox C od:=by
 obtain ⟨⟨ws,sl,he,_⟩,_⟩:=I.hok a _ x.1
 cases dx with
 | none=>exact ⟨_,none,he,rfl,rfl,trivial⟩
 | some d =>
  obtain ⟨fs,hd⟩:=x.2 d rfl
  obtain ⟨mA,⟨o,es,ep,e,_⟩,_⟩:=I.hok d _ hd
  exact ⟨_,some o,he,rfl,rfl,e⟩
theorem pe_xfld (he:PE X e ta) (hb:attributeBase e f X.env (eval e X.env)=eval e X.env):PE X (.Attribute e f pos) (tXFld X.K ta f):=by
 intro pins s σ H Q I h
 refine attr_of hb (thn (he pins s σ H _ I h) fun u s1 ⟨x,H1,I1,rx,a,C,d,t1,fs,v,ex,ea,ed,x0,n,l,q⟩=>?_)
 subst ex
 obtain rfl:u=Value.ref a:=rx
 obtain ⟨⟨ws,sl,hx,_⟩,_⟩:=I1.hok a _ ea
 obtain ⟨mA,ns,hm⟩:=I1.hok d _ ed
 obtain ⟨od,ho,hl⟩:=lookIn_ns ns
 obtain ⟨u,hu,ru⟩:=RelO.some_of (v:=v) (o:=mA f) (by rw [←l];exact hm f)
 obtain ⟨cd,hc,hd,_⟩:=x0.cd
 have hdi:PySem.W.hasDictIn X.K C=true:=by unfold PySem.W.hasDictIn;rw [hc];exact hd
 exact Ex.get_exc x0 I1.kIn (ox:=⟨.ref C,some d,.fields ws,sl⟩) (od:=some od) ⟨hx,rfl,rfl,ho⟩ (PySem.W.findObj_own hdi n rfl (by rw [hl,hu])) (handed_of ru) ⟨v,H1,I1.tok _,ru,q⟩
/-- isinstance(e, D), D a class -/
inductive call_isiXY (K:PySem.W.Frag) (xs:List V) (H:Hp) (Q:VK):Prop
 | mk:∀ a C dx t1 y u b,(xs=[.ref a,y])→(RelV y u)→((∀ u',RelV y u'→u'=u))→(XAt H a C dx t1)→(Ex.XK0 K C)→(PySem.W.kitOne K (.ref C) u=some b)→(Q (.bl b) H)→call_isiXY K xs H Q
theorem call_isiX:CallR X (.builtin "isinstance") (call_isiXY X.K):=by
 intro pins s σ H xs us Q I r h
 obtain ⟨a,C,dx,t1,y,u,b,rfl,ry,uy,xa,x0,e,q⟩:=h
 obtain ⟨u1,u2,rfl,r1,r2⟩:=vals2 r
 cases r1
 obtain rfl:=uy _ r2
 obtain ⟨ox,od,J⟩:=xa.inst I
 exact PySem.W.kia_one (Ex.kitx_exc x0) I.kIn J e (fun z=>nomatch z) fun tk=>⟨.bl b,H,I.tok _,rfl,q⟩
end
end L2
set_option Elab.async false
set_option linter.all false
set_option maxRecDepth 100000
set_option maxHeartbeats 4000000
namespace L2
open PySem PySem.Spec PyProof.Rows
abbrev tr2 (H:Hp) (a C:Addr) (dx:Option Addr) (T:Addr):Hp:=upd (upd H T (.ext (TrB T))) a (.ext (XO a C dx (.ref T)))
section
variable {P:Program} {w:World} {H H1 H2:Hp} {h h1 h2 h':Heap} {a C T:Addr} {dx:Option Addr} {t1:Value} {l:List Env} {fs fs':List Addr}
theorem Un.transL (x:Un fs [] H H1 h h1) (y:Un fs' [] H1 H2 h1 h2) (hs:∀ b o,h.get? b=some o→b∈fs'→b∈fs):Un fs [] H H2 h h2 where
 keep:=fun c ob q n hc hx=>y.keep c ob (x.keep c ob q n hc hx) (x.free c ob q n hx) (fun z=>hc (hs c ob q z)) hx
 slot:=fun c ob q n hc hx=>by
  obtain ⟨sl,e1⟩:=x.slot c ob q n hc hx
  obtain ⟨sl',e2⟩:=y.any e1 (x.free c ob q n hx) hx
  exact ⟨sl',e2⟩
 free:=fun c ob q n hx=>by
  obtain ⟨o',e1⟩:=x.there c ob q hx
  exact y.free c o' e1 (x.free c ob q n hx) hx
 there:=fun c ob q hx=>by
  obtain ⟨o',e1⟩:=x.there c ob q hx
  exact y.there c o' e1 hx
 tups:=fun c xs q=>y.tups c xs (x.tups c xs q)
 frzs:=fun c ob xs q=>y.frzs c ob xs (x.frzs c ob xs q)
 tbls:=fun c ps q=>by
  obtain ⟨m1,e1⟩:=x.tbls c ps q
  obtain ⟨m2,e2⟩:=y.tbls c _ e1
  exact ⟨m1++m2,by rw [e2,Array.append_assoc]⟩
theorem aft (ok:HOk P w H h) (ea:H a=some (.ext (XO a C dx t1))) (fr:∀ b∈frs l,H b=none) {vs:Array Value} {sl:Array (Option Value)} {t0:Addr} (h0:vs[0]?=some (.ref t0)) (hv1:vs[1]?=some t1)
  (A:Ex.Aft l a T ⟨.ref C,dx,.fields vs,sl⟩ h h'):H T=none∧T≠a∧Un (frs l) [] H (tr2 H a C dx T) h h'∧HOk P w (tr2 H a C dx T) h':=by
 have nT:H T=none:=ok.fresh A.n
 have na:T≠a:=fun z=>by subst z;rw [nT] at ea;cases ea
 have mu:Mut (H a):=by rw [ea];exact True.intro
 have nown:∀ c y,H c=some (.own y)→c≠a:=fun c y r z=>by subst z;rw [r] at mu;exact mu
 have hx:∀ b,H b=none→b≠a:=fun b n z=>by subst z;rw [n] at mu;exact mu
 have hm:∀ b u,H b=some u→¬ Mut (some u)→b≠a:=fun b u q nm z=>by subst z;rw [q] at mu;exact nm mu
 have nfr:∀ b u,H b=some u→b∉frs l:=fun b u q z=>by rw [fr b z] at q;cases q
 unfold tr2
 refine ⟨nT,na,⟨fun b u q n nf _=>A.k b u (hx b n) nf q,fun b u q n _ _=>A.f b u (hx b n) q,fun b u q n _=>?_,fun b u q _=>?_,fun b xs q=>?_,fun b u xs q=>?_,fun b ps q=>⟨#[],?_⟩⟩,fun b u q=>?_⟩
 ·rw [upd_ne (hx b n),upd_ne (Nat.ne_of_lt (Nat.lt_of_lt_of_le (Heap.lt_size q) A.n))];exact n
 ·by_cases hb:b=a
  ·subst hb;exact ⟨_,A.e⟩
  ·obtain ⟨sl,z⟩:=A.f b u hb q
   exact ⟨_,z⟩
 ·rw [upd_ne (hm b _ q fun z=>z),upd_ne (ne_of_none q nT)];exact q
 ·rw [upd_ne (hm b _ q fun z=>z),upd_ne (ne_of_none q nT)];exact q
 ·rw [upd_ne (hm b _ q fun z=>z),upd_ne (ne_of_none q nT),q];simp
 ·by_cases hb:b=a
  ·subst hb
   rw [upd_same] at q
   cases q
   refine XO.ok ⟨_,_,A.e,⟨t0,?_⟩,?_⟩
   ·rw [Array.getElem?_setIfInBounds_ne (by decide)];exact h0
   ·rw [Array.getElem?_setIfInBounds,if_pos rfl,if_pos (Array.getElem?_eq_some_iff.mp hv1).1]
  ·rw [upd_ne hb] at q
   by_cases hbT:b=T
   ·subst hbT
    rw [upd_same] at q
    cases q
    obtain ⟨oT,ts,e1,e2,e3⟩:=A.t
    exact TrB.ok ⟨oT,ts,e1,e2,e3⟩
   ·rw [upd_ne hbT] at q
    refine (ok b u q).stay (fun c v hc r=>?_) (fun c r=>by rw [upd_ne (nown c b r),upd_ne (ne_of_none r nT)];exact r) fun c xs r=>by rw [upd_ne (hm c _ r fun z=>z),upd_ne (ne_of_none r nT)];exact r
    rcases hc with rfl | hc
    ·exact A.k c v hb (nfr c _ q) r
    ·exact A.k c v (nown c b hc) (nfr c _ hc) r
end
section
variable {X:Cx} {pins:List (Addr×Obj)} {σ:St} {H:Hp} {s:Shared} {a C:Addr} {dx:Option Addr} {t1:Value}
/-- an exception leaves the frame -/
theorem leavesN {M:Model} {Q:Unit→Shared→Prop} {E:Value→Shared→Prop} (I:Inv X pins σ H s) (hst:X.stack=X.env::X.outer) (hf:X.env.frame=some X.env.locals) (ea:H a=some (.ext (XO a C dx t1)))
  (ht:t1=.none∨∃ T,t1=.ref T∧T≠a∧H T=some (.ext (TrB T)))
  (q:∀ T h',H T=none→T≠a→Un (frs X.stack) [] H (tr2 H a C dx T) s.heap h'→HOk X.prog X.w (tr2 H a C dx T) h'→Q () { s with heap:=h' }):wpAny M X.A (noteFrame (.ref a) X.env) (fun _ s'=>wpAny M X.A (setFlight (.ref a) none) Q E s') E s:=by
 obtain ⟨⟨vs,sl,he,⟨t0,h0⟩,h1⟩,_⟩:=I.hok a _ ea
 have fr:=I.stkFree
 have fun0:=I.stack
 have frm:=I.ok.frames
 rw [hst] at fr fun0 frm q
 rcases ht with rfl | ⟨T0,rfl,nT,eT⟩
 ·refine Ex.leave1N frm fun0 hf he rfl h1 fun h' T A=>?_
  obtain ⟨z1,z2,z3,z4⟩:=aft I.hok ea fr h0 h1 A
  exact q T h' z1 z2 z3 z4
 ·obtain ⟨⟨oT,ts,e1,e2,e3⟩,_⟩:=I.hok T0 _ eT
  refine Ex.leave2N frm fun0 hf he rfl h1 nT e1 e2 e3 fun g h' T g1 g2 g3 A=>?_
  have mu:Mut (H T0):=by rw [eT];exact True.intro
  have kk:∀ b u,b≠T0→s.heap.get? b=some u→g.get? b=some u:=fun b u nb e=>(g1 b nb).trans e
  have tb:TrB T0 g:=⟨_,_,g2,Obj.data_mapFields e2 _,by rw [Array.getElem?_setIfInBounds,if_pos rfl,if_pos (Array.getElem?_eq_some_iff.mp e3).1]⟩
  have hok1:HOk X.prog X.w H g:=by
   have:=I.hok.write (x:=T0) (e:=T0) (o':=.ext (TrB T0)) mu (.inl rfl) kk ⟨_,g2⟩ (TrB.ok tb)
   rw [upd_self eT] at this
   exact this
  have un1:Un (frs (X.env::X.outer)) [] H H s.heap g:=by
   have:=Un.write (fs:=frs (X.env::X.outer)) (ex:=[]) (o:=.ext (TrB T0)) mu (.inl rfl) kk ⟨_,g2⟩
   rw [upd_self eT] at this
   exact this
  obtain ⟨z1,z2,z3,z4⟩:=aft hok1 ea fr h0 h1 A
  exact q T h' z1 z2 (un1.trans z3) z4
theorem leaves {M:Model} {Q:Unit→Shared→Prop} {E:Value→Shared→Prop} (I:Inv X pins σ H s) (hst:X.stack=X.env::X.outer) (hf:X.env.frame=some X.env.locals) (ea:H a=some (.ext (XO a C dx t1)))
  (ht:t1=.none∨∃ T,t1=.ref T∧T≠a∧H T=some (.ext (TrB T)))
  (q:∀ T h',H T=none→T≠a→Un (frs X.stack) [] H (tr2 H a C dx T) s.heap h'→HOk X.prog X.w (tr2 H a C dx T) h'→Q () { s with heap:=h' }):wpAny M X.A (leaving X.env (.ref a)) Q E s:=by
 unfold leaving
 exact wpAny_bind (leavesN I hst hf ea ht q)
end
/-- how an exception lies behind a call -/
def CXo (P:Program) (w:World):CXT:=fun outer H s E e s'=>∃ a C dx T H',e=.ref a∧s'.os=s.os∧AllBare s'.gens∧Un (frs outer) [] H H' s.heap s'.heap∧HOk P w H' s'.heap ∧
 XAt H' a C dx (.ref T)∧T≠a∧H' T=some (.ext (TrB T))∧E (.ref C) dx H'
/-- raise e -/
inductive sRaiseY (K:PySem.W.Frag) (E:XK) (x:V) (H1:Hp):Prop
 | mk:∀ a C dx,(x=.ref a)→(XAt H1 a C dx .none)→(Ex.XK0 K C)→(∀ T,H1 T=none→T≠a→E (.ref C) dx (tr2 H1 a C dx T))→sRaiseY K E x H1
def sRaise (K:PySem.W.Frag) (te:TE) (E:XK):TS:=fun _ σ H=>te σ H fun x H1=>sRaiseY K E x H1
section
variable {X:Cx} {m:Expr} {te:TE} {pos:Pos} {E:XK}
theorem ps_raise (hm:PE X m te) (hc:X.calm=true) (hst:X.stack=X.env::X.outer) (hf:X.env.frame=some X.env.locals) (hex:X.ex=[])
  (hx:X.xe=fun e s'=>wpAny (model X.prog X.w) X.A (leaving X.env e) (fun _ s''=>CXo X.prog X.w X.outer X.H₀ X.s₀ E e s'') (fun e' s''=>CXo X.prog X.w X.outer X.H₀ X.s₀ E e' s'') s') :
  PS X (.Raise (some m) none pos) (sRaise X.K te E):=by
 intro pins s σ H D I h
 rw [arm_exec_Raise]
 refine wpAny_bind (wpAny_standAt (Ex.raise_exc (K:=X.K) (I.ok.hd hc) ?_))
 have step:wpAny (model X.prog X.w) X.A (eval m X.env) (fun u s1=>∃ e C od vs sl,u=.ref e∧Ex.XK0 X.K C∧X.K.In s1.heap∧s1.heap.get? e=some ⟨.ref C,od,.fields vs,sl⟩∧vs[1]?=some .none∧X.xe (.ref e) s1) X.xe s:=by
  refine thn (hm pins s σ H _ I h) fun u s1 ⟨x,H1,I1,rx,a,C,dx,ex,xa,x0,q⟩=>?_
  subst ex
  obtain rfl:u=Value.ref a:=rx
  obtain ⟨⟨vs,sl,he,t0,h1⟩,_⟩:=I1.hok a _ xa.1
  refine ⟨a,C,dx,vs,sl,rfl,x0,I1.kIn,he,h1,?_⟩
  rw [hx]
  refine leaves I1 hst hf xa.1 (.inl rfl) fun T h' nT na un hok=>?_
  refine ⟨a,C,dx,T,_,rfl,I1.os,I1.bare,?_,hok,⟨upd_same,fun d e=>?_⟩,na,?_,q T nT na⟩
  ·have b0:=I1.base
   rw [hex] at b0
   refine b0.transL un fun b o e hb=>?_
   rcases List.mem_cons.mp (I1.stkSub b hb) with z | z
   ·subst z
    exact absurd (Nat.lt_of_lt_of_le (Heap.lt_size e) I1.ok.above) (Nat.lt_irrefl _)
   ·exact z
  ·obtain ⟨fs,z⟩:=xa.2 d e
   refine ⟨fs,?_⟩
   have n1:d≠a:=fun y=>by subst y;rw [xa.1] at z;cases z
   unfold tr2
   rw [upd_ne n1,upd_ne (ne_of_none z nT)]
   exact z
  ·unfold tr2
   rw [upd_ne na,upd_same]
 first
  | exact step
  | exact wpAny_bind (wpAny_mono step (fun v s₃ h₃=>wpAny_bind (wpAny_standAt (wpAny_pure h₃))) fun _ _ x=>x)
  | (simp only [evalOpt,Option.map];exact step)
end
end L2
set_option Elab.async false
set_option linter.all false
set_option maxRecDepth 100000
set_option maxHeartbeats 4000000
namespace L2
open PySem PySem.Spec PyProof.Rows
section
variable {X:Cx} {pins:List (Addr×Obj)} {σ:St} {H:Hp} {s:Shared} {a C:Addr} {dx:Option Addr} {t1:Value}
/-- behind a suite the name goes -/
theorem gone_ok {M:Model} {A:Around} {E:Value→Shared→Prop} {i:Nat} {x:Str} {pos:Pos} {Q:Unit→Shared→Prop} (I:Inv X pins σ H s) (hN:X.N.Nodup) (hi:X.N[i]?=some x) (hk:X.env.scope.names.lookup x=some .local)
  (h:∀ s',Inv X pins (σ.set i none) H s'→Q () s'):wpAny M A (do bindName X.env x .none;unbindBehindTheSuite X.env x pos) Q E s:=by
 obtain ⟨m,hn,hl⟩:=id I.loc
 have hcls:(X.env.scope.kind == .class || (X.env.scope.kind == .module && X.env.locals != X.env.globals))=false:=by rw [I.ok.kind];rfl
 have hiσ:i<σ.length:=by rw [I.len];exact (List.getElem?_eq_some_iff.mp hi).1
 refine wpAny_nameGoes_keeps hk hn hcls fun h' v hn' hs=>?_
 have neL:∀ b o,X.s₀.heap.get? b=some o→b≠X.env.locals:=fun b o e=>Nat.ne_of_lt (Nat.lt_of_lt_of_le (Heap.lt_size e) I.ok.above)
 refine h _ ⟨I.ok,I.os,I.bare,⟨fun b o e n hb hx=>(hs.2 b (neL b o e)).trans (I.base.keep b o e n hb hx),fun b o e n hb hx=>?_,I.base.free,fun b o e hx=>?_,I.base.tups,I.base.frzs,I.base.tbls⟩,⟨_,hn',fun j y v' e1 e2 e3=>?_⟩,fun y c e=>?_,I.free,I.freeC,fun p hp=>?_,fun b ob e=>?_,by simpa using I.len⟩
 ·obtain ⟨sl,e1⟩:=I.base.slot b o e n hb hx
  exact ⟨sl,(hs.2 b (neL b o e)).trans e1⟩
 ·obtain ⟨o',e1⟩:=I.base.there b o e hx
  exact ⟨o',(hs.2 b (neL b o e)).trans e1⟩
 ·by_cases hj:j=i
  ·subst hj
   rw [List.getElem?_set_self hiσ] at e2
   cases e2
  ·rw [List.getElem?_set_ne (Ne.symm hj)] at e2
   obtain ⟨u',r',q⟩:=hl j y v' e1 e2 e3
   refine ⟨u',r',?_⟩
   rcases q with ⟨k,e⟩ | ⟨k,c,e,z⟩
   ·refine .inl ⟨k,?_⟩
    have ny:y≠x:=fun e=>hj (nodup_ix hN e1 (e ▸ hi))
    show (if y=x then v else m y)=_
    rw [if_neg ny]
    exact e
   ·exact .inr ⟨k,c,e,z.sameBut hs (I.cne y c e)⟩
 ·obtain ⟨w',z⟩:=I.cell y c e
  exact ⟨w',z.sameBut hs (I.cne y c e)⟩
 ·obtain ⟨e,n,ne,nf,d⟩:=I.pin p hp
  exact ⟨(hs.2 p.1 ne).trans e,n,ne,nf,d⟩
 ·have fr:=I.free
  refine (I.hok b ob e).stay (fun c w' hc q=>(hs.2 c ?_).trans q) (fun _ q=>q) fun _ _ q=>q
  rintro rfl
  rcases hc with rfl | hc
  ·rw [fr] at e;cases e
  ·rw [fr] at hc;cases hc
/-- within an except suite -/
def Cx.hand (X:Cx) (a:Addr):Cx:={ X with A:=X.A.mark (some (.ref a)),calm:=false,xe:=fun _ _=>False }
theorem mark_frames {A:Around} {v:Option Value}:(A.mark v).frames=A.frames:=by first | rfl | simp [Around.mark]
theorem Inv.hand (I:Inv X pins σ H s) (a:Addr):Inv (X.hand a) pins σ H s :=
 ⟨⟨I.ok.mod,I.ok.kind,I.ok.glob,I.ok.blt,I.ok.above,I.ok.inj,I.ok.has,I.ok.cab,(fun z=>nomatch z),mark_frames.trans I.ok.frames,I.ok.stk,I.ok.exf,I.ok.bs,I.ok.bsz,I.ok.noex,I.ok.exfs,I.ok.funs,I.ok.frf⟩,I.os,I.bare,I.base,I.loc,I.cell,I.free,I.freeC,I.pin,I.hok,I.len⟩
theorem Inv.unhand (ok:X.Ok) (I:Inv (X.hand a) pins σ H s):Inv X pins σ H s:=⟨ok,I.os,I.bare,I.base,I.loc,I.cell,I.free,I.freeC,I.pin,I.hok,I.len⟩
/-- within a try's body -/
def Cx.tried (X:Cx) (pins:List (Addr×Obj)) (E:Value→Shared→Prop):Cx:={ X with xe:=E,pn:=X.pn++pins }
theorem Inv.tried (I:Inv X pins σ H s) (E:Value→Shared→Prop):Inv (X.tried pins E) [] σ H s :=
 ⟨⟨I.ok.mod,I.ok.kind,I.ok.glob,I.ok.blt,I.ok.above,I.ok.inj,I.ok.has,I.ok.cab,I.ok.hd,I.ok.frames,I.ok.stk,I.ok.exf,I.ok.bs,I.ok.bsz,I.ok.noex,I.ok.exfs,I.ok.funs,I.ok.frf⟩,I.os,I.bare,I.base,I.loc,I.cell,I.free,I.freeC,fun p hp=>I.pin p (by simpa [Cx.tried] using hp),I.hok,I.len⟩
theorem Inv.untried {E:Value→Shared→Prop} {pins':List (Addr×Obj)} (ok:X.Ok) (I:Inv (X.tried pins E) pins' σ H s):Inv X pins σ H s :=
 ⟨ok,I.os,I.bare,I.base,I.loc,I.cell,I.free,I.freeC,fun p hp=>I.pin p (List.mem_append_left _ hp),I.hok,I.len⟩
/-- what is known of an exception that reached a try -/
def Caught (X:Cx) (pins:List (Addr×Obj)) (n:Nat) (E:XK) (e:Value) (s':Shared):Prop:=∃ a C dx T σ' H',e=.ref a∧Inv X pins σ' H' s'∧XAt H' a C dx (.ref T)∧T≠a∧H' T=some (.ext (TrB T))∧E (.ref C) dx H'
theorem passes_try (ok:X.Ok) (E:XK) {n:Nat}:Passes (CXo X.prog X.w) (X.tried pins (Caught X pins n E)) E:=by
 intro pins' σ H s e s' I h
 obtain ⟨a,C,dx,T,H',rfl,os,bare,un,hok,xa,na,hT,q⟩:=h
 have I0:Inv X pins σ H s:=I.untried ok
 exact ⟨a,C,dx,T,σ,H',rfl,I0.call' os un hok bare (fun b z=>absurd z (by simp)),xa,na,hT,q⟩
end
/-- try: .. except D as n: .. -/
inductive sTry (K:PySem.W.Frag) (D:Addr) (i:Nat) (tb th:TS) (E:XK) (Z:Ends) (σ:St) (H:Hp):Prop
 | mk:(tb Z σ H)→(∀ (σ':St) (H':Hp) (a C:Addr) (dx:Option Addr) (T:Addr),σ'.length=σ.length→E (.ref C) dx H'→XAt H' a C dx (.ref T)→H' T=some (.ext (TrB T))→Ex.XK0 K C∧PySem.W.mroIn K C (.ref D)=some true∧∀ T',H' T'=none→T'≠a→th { nx:=fun σ2 H2=>Z.nx (σ2.set i none) H2,rt:=Z.rt,bk:=fun σ2 H2=>Z.bk (σ2.set i none) H2,ct:=fun σ2 H2=>Z.ct (σ2.set i none) H2 } (σ'.set i (some (.ref a))) (tr2 H' a C dx T'))→sTry K D i tb th E Z σ H
section
variable {X:Cx} {body hs:List Stmt} {b₀:Stmt} {tb th:TS} {D:Addr} {d n:Str} {np hpos pos:Pos} {i:Nat} {E:XK}
theorem ps_try (hN:X.N.Nodup) (hi:X.N[i]?=some n) (hk:X.env.scope.names.lookup n=some .local) (hg:Gl X d) (hm:X.mg d=some (.ref D)) (G:Ex.XK0 X.K D) (ht:PySem.W.instIn X.K (.ref D) (.type "tuple")=some false)
  (hst:X.stack=X.env::X.outer) (hf:X.env.frame=some X.env.locals)
  (hbody:∀ pins E',Passes (CXo X.prog X.w) (X.tried pins E') E→PSs (X.tried pins E') body tb) (hh:∀ a,PSs (X.hand a) (b₀::hs) th) (hdb:(d == ("__debug__" : Str))=false:=by decide) :
  PS X (.Try body [.ExceptHandler (some (.Name d np)) (some n) (b₀::hs) hpos] [] [] pos) (sTry X.K D i tb th E):=by
 intro pins s σ H Z I h
 have ok:=I.ok
 refine wpAny_Try_except ?_
 refine wpAny_mono (hbody pins _ (passes_try ok E (n:=σ.length)) [] s σ H Z (I.tried _) h.1) (fun f s1 h1=>?_) fun e s1 h1=>?_
 ·cases f with
  | next =>
   obtain ⟨σ',H',I',q⟩:=h1
   exact wpAny_execs_nil ⟨σ',H',I'.untried ok,q⟩
  | brk=>obtain ⟨σ',H',I',q⟩:=h1;exact ⟨σ',H',I'.untried ok,q⟩
  | cont=>obtain ⟨σ',H',I',q⟩:=h1;exact ⟨σ',H',I'.untried ok,q⟩
  | ret u=>obtain ⟨v,σ',H',I',r,q⟩:=h1;exact ⟨v,σ',H',I'.untried ok,r,q⟩
 ·obtain ⟨a,C,dx,T,σ',H',rfl,I1,xa,na,hT,q⟩:=h1
  obtain ⟨x0,mr,hq⟩:=h.2 σ' H' a C dx T (by rw [I1.len,I.len]) q xa hT
  refine leavesN I1 hst hf xa.1 (.inr ⟨T,rfl,na,hT⟩) fun T' h' nT' na' un hok=>?_
  have I2:Inv X pins σ' (tr2 H' a C dx T') { s1 with heap:=h' }:=I1.call' rfl un hok I1.bare fun b z=>absurd z (by simp)
  have xa2:XAt (tr2 H' a C dx T') a C dx (.ref T'):=by
   refine ⟨upd_same,fun d e=>?_⟩
   obtain ⟨fs,z⟩:=xa.2 d e
   refine ⟨fs,?_⟩
   have n1:d≠a:=fun y=>by subst y;rw [xa.1] at z;cases z
   unfold tr2
   rw [upd_ne n1,upd_ne (ne_of_none z nT')]
   exact z
  have eT:tr2 H' a C dx T' T'=some (.ext (TrB T')):=by unfold tr2;rw [upd_ne na',upd_same]
  have I3:=I2.hand a
  refine wpAny_handleBy_cons (codeAny_handlers_test (ld_glob (X:=X.hand a) I3 hg hm ?_ hdb)) (by intro z;cases z)
  obtain ⟨ox,od,J⟩:=xa2.inst I2
  refine Ex.match_exc (K:=X.K) x0 G I2.kIn J mr ht G.bx ?_
  refine codeAny_handlers_suite_as ?_
  obtain ⟨⟨ws,sl,he,_,w1⟩,_⟩:=I2.hok a _ xa2.1
  obtain ⟨⟨oT,ts,g1,g2,g3⟩,_⟩:=I2.hok T' _ eT
  refine wpAny_setFlight_none he rfl w1 g1 g2 (Array.getElem?_eq_some_iff.mp g3).1 ?_
  have I4:Inv (X.hand a) pins σ' (tr2 H' a C dx T') { s1 with heap:=h'.update T' (Obj.mapFields (·.setIfInBounds 3 .none)) }:=by
   have gs:(h'.update T' (Obj.mapFields (·.setIfInBounds 3 .none))).get? T'=some (oT.mapFields (·.setIfInBounds 3 .none)):=Heap.get?_update_self _ g1 (Obj.isFreed_of_fields (Obj.data_mapFields g2 _))
   have:=I3.write (h':=h'.update T' (Obj.mapFields (·.setIfInBounds 3 .none))) (t':=s1.toks) (x:=T') (e:=T') (o:=.ext (TrB T')) (by rw [eT];exact True.intro) (.inl rfl) (fun b u nb e=>(Heap.get?_update_other _ _ (Ne.symm nb)).trans e) ⟨_,gs⟩
    (TrB.ok ⟨_,_,gs,Obj.data_mapFields g2 _,by rw [Array.getElem?_setIfInBounds,if_pos rfl,if_pos (Array.getElem?_eq_some_iff.mp g3).1]⟩)
   rw [upd_self eT] at this
   exact this
  refine store_ok (X:=X.hand a) (v:=.ref a) (i:=i) I4 hN hi (.inl hk) rfl (fun s5 I5=>?_) (.inr hk)
  refine wpAny_mono (hh a pins s5 _ _ _ I5 (hq T' nT' na')) (fun f s6 h6=>?_) fun _ _ z=>z.elim
  cases f with
  | next =>
   obtain ⟨σ7,H7,I7,q7⟩:=h6
   exact gone_ok (I7.unhand ok) hN hi hk fun s8 I8=>⟨_,H7,I8,q7⟩
  | brk =>
   obtain ⟨σ7,H7,I7,q7⟩:=h6
   exact gone_ok (I7.unhand ok) hN hi hk fun s8 I8=>⟨_,H7,I8,q7⟩
  | cont =>
   obtain ⟨σ7,H7,I7,q7⟩:=h6
   exact gone_ok (I7.unhand ok) hN hi hk fun s8 I8=>⟨_,H7,I8,q7⟩
  | ret u =>
   obtain ⟨v,σ7,H7,I7,r7,q7⟩:=h6
   exact gone_ok (I7.unhand ok) hN hi hk fun s8 I8=>⟨v,_,H7,I8,r7,q7⟩
end
end L2
set_option Elab.async false
set_option linter.all false
set_option maxRecDepth 100000
set_option maxHeartbeats 4000000
namespace L2
open PySem PySem.Spec PyProof.Rows
structure RoomN (k:Nat) (A:Around):Prop where
 dp:A.depth+3*k+5<recursionLimit
 un:A.units+16*k+200<cLine
 gd:A.guards=some []
theorem Room.n {k:Nat} {A:Around} (r:Room k A):RoomN k A:=⟨r.dp,r.un,r.gd⟩
theorem RoomN.mono {j k:Nat} {A:Around} (r:RoomN k A) (h:j≤k):RoomN j A:=⟨by have:=r.dp;omega,by have:=r.un;omega,r.gd⟩
theorem RoomN.deeper {k:Nat} {A:Around} (r:RoomN (k+1) A) (env:Env):RoomN k (A.deeper env) :=
 ⟨by have:=r.dp;show A.depth+1+3*k+5<_;omega,by have:=r.un;show A.units+3+16*k+200<_;omega,r.gd⟩
theorem RoomN.mark {k:Nat} {A:Around} (r:RoomN k A) (v:Option Value):RoomN k (A.mark v):=⟨r.dp,r.un,r.gd⟩
theorem RoomN.depth {k:Nat} {A:Around} (r:RoomN k A):A.depth<recursionLimit:=by have:=r.dp;omega
theorem RoomN.units {k:Nat} {A:Around} (r:RoomN k A):A.units+64<cLine:=by have:=r.un;omega
structure FnN (P:Program) (w:World) (K:PySem.W.Frag) (mg:Str→Option Value) (base:Heap) (k:Nat) (f:Addr) (fd:FuncData) (ps:List Str) (sp:Sp):Prop where
 len:∀ vs H Q E,sp vs H Q E→vs.length=ps.length
 run:∀ (A:Around) (outer:List Env) (s:Shared) (H:Hp) (args:Args) (us:List Value) (vs:List V) (Q:VK) (E:XK),RoomN k A→Env0 P w K mg base A outer s H→BindsTo s fd args (ps.zip us)→Vals vs us→sp vs H Q E →
  codeAny (model P w) A (.call (.ref f) args) (CR CX0 outer P w H s Q E) s
theorem FnN.mono {P:Program} {w:World} {K:PySem.W.Frag} {mg:Str→Option Value} {base:Heap} {j k:Nat} {f:Addr} {fd:FuncData} {ps:List Str} {sp:Sp} (F:FnN P w K mg base j f fd ps sp) (h:j≤k) :
  FnN P w K mg base k f fd ps sp:=⟨F.len,fun A outer s H args us vs Q E hr=>F.run A outer s H args us vs Q E (hr.mono h)⟩
section
variable {X:Cx} {k:Nat} {f:Addr} {fd:FuncData} {ps:List Str} {sp:Sp} {x:Str} {p pos:Pos} {e:Expr} {es:List Expr} {t:TA}
theorem run_fnN {pins:List (Addr×Obj)} {σ:St} {H:Hp} {s:Shared} {Q:VK} {us:List Value} {vs:List V} (F:FnN X.prog X.w X.K X.mg X.base k f fd ps sp) (hr:RoomN k X.A) (hb:Binds X.K fd ps [])
  (I:Inv X pins σ H s) (r:Vals vs us) (h:sp vs H Q E0):wpAny (model X.prog X.w) X.A (call (.ref f) us) (EP X pins σ Q) X.xe s:=by
 have hl:(us++[]).length=ps.length:=by rw [List.append_nil,←r.length];exact F.len _ _ _ _ h
 have bb:=hb s us I.kIn hl
 rw [List.append_nil] at bb
 refine wpAny_call (codeAny_mono (F.run X.A X.stack s H ⟨us,[]⟩ us vs Q E0 hr I.env0 bb r h) fun r s' hq=>?_)
 cases r with
 | error e=>exact hq.elim
 | ok fl =>
  cases fl with
  | ret u=>exact I.after hq
  | next=>exact False.elim hq
  | brk=>exact False.elim hq
  | cont=>exact False.elim hq
/-- a def by its promise, its name, its arguments -/
def HasN (P:Program) (w:World) (K:PySem.W.Frag) (mg:Str→Option Value) (base:Heap) (x:Str) (ps:List Str) (k:Nat) (sp:Sp):Prop :=
 ∃ (f:Addr) (fd:FuncData),FnN P w K mg base k f fd ps sp∧Binds K fd ps []∧PySem.W.keepIn K (.ref f)=true∧mg x=some (.ref f)
theorem HasN.mono {P:Program} {w:World} {K:PySem.W.Frag} {mg:Str→Option Value} {base:Heap} {x:Str} {ps:List Str} {j k:Nat} {sp:Sp} (h:HasN P w K mg base x ps j sp) (hk:j≤k):HasN P w K mg base x ps k sp:=by
 obtain ⟨f,fd,F,r⟩:=h
 exact ⟨f,fd,F.mono hk,r⟩
theorem pe_hasN (h:HasN X.prog X.w X.K X.mg X.base x ps k sp) (hr:RoomN k X.A) (hg:Gl X x)
  (ha:PA X (e::es) t) (hdb:(x == ("__debug__" : Str))=false:=by decide) (he:starEach (e::es) X.env=(false,eval e X.env)::starEach es X.env:=by rfl) (hpl:(backTo pos (starEach es X.env)).any (·.1)=false:=by rfl) :
  PE X (.Call (.Name x p) (e::es) [] pos) (tCall sp [] E0 t):=by
 obtain ⟨f,fd,F,b,kp,m⟩:=h
 intro pins s σ H Q I h
 refine wpAny_Call_Name_kw (ld_glob I hg m ?_ hdb)
 refine PySem.W.callWith_K (h₀:=X.base) I.ok.mod.kin kp (thn (ha pos pins s σ H _ I h) fun us s1 ⟨vs,H1,I1,r,q⟩=>⟨I1.kIn,?_⟩) he hpl
 have q':sp (vs++[]) H1 Q E0:=q
 rw [List.append_nil] at q'
 exact run_fnN F hr b I1 r q'
end
/-- the context of such a def's body -/
def cxN (P:Program) (w:World) (K:PySem.W.Frag) (mg:Str→Option Value) (base:Heap) (N:List Str) (qual:Str) (scope:Scope) (f:Addr) (cd:Value) (A:Around) (outer:List Env) (s:Shared) (H:Hp):Cx :=
 { cxOf CX0 P w K mg base N qual scope f cd A outer s H E0 with calm:=false,xe:=fun _ _=>False }
theorem inv_startN {P:Program} {w:World} {K:PySem.W.Frag} {mg:Str→Option Value} {base:Heap} {N ps:List Str} {qual:Str} {scope:Scope} {f:Addr} {cd:Value} {A:Around} {outer:List Env} {s s1:Shared} {H:Hp} {us:List Value} {vs:List V}
  (S:FnScope N ps scope) (e0:Env0 P w K mg base A outer s H) (hl:vs.length=ps.length) (r:Vals vs us)
  (x:InCallC s s.heap.objs.size (bindL (envOfC qual scope s.heap.objs.size f cd).kindOf (ps.zip us) fun _=>none) (cellsFrom (s.heap.objs.size+1) scope.names []) (bindC (envOfC qual scope s.heap.objs.size f cd).kindOf (ps.zip us) fun _=>none) s1) :
  Inv (cxN P w K mg base N qual scope f cd A outer s H) [] (start N vs) H s1:=by
 have e1:Env0 P w K mg base { A with handled:=none } outer s H:=⟨e0.frames,e0.mod,e0.bs,e0.bsz,e0.funs,e0.frf,e0.hok,e0.bare⟩
 have I:=inv_start (CX:=CX0) (E:=E0) (f:=f) (cd:=cd) (qual:=qual) (A:={ A with handled:=none }) S rfl e1 hl r x
 exact ⟨⟨I.ok.mod,I.ok.kind,I.ok.glob,I.ok.blt,I.ok.above,I.ok.inj,I.ok.has,I.ok.cab,(fun z=>nomatch z),Around.frames_deeper e0.frames,I.ok.stk,I.ok.exf,I.ok.bs,I.ok.bsz,I.ok.noex,I.ok.exfs,I.ok.funs,I.ok.frf⟩,I.os,I.bare,I.base,I.loc,I.cell,I.free,I.freeC,I.pin,I.hok,I.len⟩
theorem fn_ofN {P:Program} {w:World} {K:PySem.W.Frag} {mg:Str→Option Value} {base:Heap} {k:Nat} {f:Addr} {name qual:Str} {params:Arguments} {body:List Stmt} {scope:Scope} {dV kV doc pm cdv ct oc:Value} {an od:Option Addr}
  {osl:Array (Option Value)} {N ps:List Str} {sp:Sp} (lk:K.lookup f=some ⟨oc,od,.func (PySem.W.fnOf name qual params body scope dV kV doc pm an cdv ct),osl⟩) (hcd:PySem.W.codeIn K cdv qual=true) (S:FnScope N ps scope)
  (len:∀ vs H Q E,sp vs H Q E→vs.length=ps.length)
  (hbody:∀ (A:Around) (outer:List Env) (s:Shared) (H:Hp) (vs:List V) (Q:VK) (E:XK),RoomN k (A.deeper (envOfC qual scope s.heap.objs.size f cdv))→sp vs H Q E →
   ∃ t,PSs (cxN P w K mg base N qual scope f cdv A outer s H) body t∧t { nx:=fun _ H'=>Q .non H',rt:=Q } (start N vs) H) :
  FnN P w K mg base (k+1) f (PySem.W.fnOf name qual params body scope dV kV doc pm an cdv ct) ps sp:=by
 refine ⟨len,fun A outer s H args us vs Q E hr e0 hb r hsp=>?_⟩
 have hl:=len _ _ _ _ hsp
 have KX:K.In s.heap:=e0.mod.kin.keeps fun b o e=>(e0.bs b o e).1
 have lim:s.heap.NoLimit:=e0.mod.nolimit.keeps fun b o e=>(e0.bs b o e).1
 have hkind:∀ y∈ps.zip us,scope.names.lookup y.1=some .local∨(scope.names.lookup y.1=some .cell∧((cellsFrom (s.heap.objs.size+1) scope.names []).lookup y.1).isSome=true):=fun ⟨n,v⟩ hy=>by
  rcases S.par n (List.of_mem_zip hy).1 with q | q
  ·exact .inl q
  ·exact .inr ⟨q,PySem.W.cellsFrom_some _ _ _ (.inl q)⟩
 refine codeAny_call_function hr.depth (KX _ _ lk) rfl S.co S.gen rfl (PySem.W.codeRec_of KX hcd) (hb _ _ _ _ ?_)
 refine wpAny_newFunctionEnv_cells S.kind hkind fun env he s1 x=>?_
 subst he
 refine ⟨lim.keeps x.toInCall.keep,codeAny_func ?_⟩
 obtain ⟨t,ht,hq⟩:=hbody A outer s H vs Q E (hr.deeper _) hsp
 have I:Inv (cxN P w K mg base N qual scope f cdv A outer s H) [] (start N vs) H s1:=inv_startN S e0 hl r x
 refine wpAny_mono (ht [] s1 (start N vs) H _ I hq) (fun fl s' hs=>?_) fun e s' hs=>hs.elim
 have fin:∀ {σ':St} {H':Hp} {v:V} {u:Value},Inv (cxN P w K mg base N qual scope f cdv A outer s H) [] σ' H' s'→RelV v u→Q v H'→CE outer P w H s Q u s' :=
  fun {σ' H' v u} J rv q=>⟨v,H',J.os,J.bare,J.base,J.hok,rv,q⟩
 cases fl with
 | ret u =>
  obtain ⟨v,σ',H',J,rv,q⟩:=hs
  exact fin J rv q
 | next =>
  obtain ⟨σ',H',J,q⟩:=hs
  exact fin (v:=V.non) (u:=Value.none) J rfl q
 | brk =>
  obtain ⟨_,_,_,q⟩:=hs
  exact False.elim q
 | cont =>
  obtain ⟨_,_,_,q⟩:=hs
  exact False.elim q
section
variable {P:Program} {w:World} {K:PySem.W.Frag} {mg:Str→Option Value} {base:Heap}
theorem Fun.okN {x qual:Str} {st:Stmt} {f:Addr} {fd:FuncData} {N ps:List Str} {k:Nat} {sp:Sp} (F:Fun K x qual st f fd) (S:FnScope N ps (defScope st)) (len:∀ vs H Q E,sp vs H Q E→vs.length=ps.length)
  (hbody:∀ (cdv:Value) (A:Around) (outer:List Env) (s:Shared) (H:Hp) (vs:List V) (Q:VK) (E:XK),RoomN k (A.deeper (envOfC qual (defScope st) s.heap.objs.size f cdv))→sp vs H Q E →
   ∃ t,PSs (cxN P w K mg base N qual (defScope st) f cdv A outer s H) (defBody st) t∧t { nx:=fun _ H'=>Q .non H',rt:=Q } (start N vs) H):FnN P w K mg base (k+1) f fd ps sp:=by
 obtain ⟨oc,od,kV,doc,pm,an,cdv,ct,osl,rfl,lk,hcd⟩:=F.ex
 exact fn_ofN lk hcd S len fun A outer s H vs Q E hr hsp=>hbody cdv A outer s H vs Q E hr hsp
/-- a def that may raise -/
theorem Fun.okX {x qual:Str} {st:Stmt} {f:Addr} {fd:FuncData} {N ps:List Str} {k:Nat} {sp:Sp} (F:Fun K x qual st f fd) (S:FnScope N ps (defScope st)) (len:∀ vs H Q E,sp vs H Q E→vs.length=ps.length)
  (hbody:∀ (cdv:Value) (A:Around) (outer:List Env) (s:Shared) (H:Hp) (vs:List V) (Q:VK) (E:XK),Room k (A.deeper (envOfC qual (defScope st) s.heap.objs.size f cdv))→sp vs H Q E →
   ∃ t,PSs (cxOf (CXo P w) P w K mg base N qual (defScope st) f cdv A outer s H E) (defBody st) t∧t { nx:=fun _ H'=>Q .non H',rt:=Q } (start N vs) H):FnOk P w K mg base (CXo P w) (k+1) f fd ps sp:=by
 obtain ⟨oc,od,kV,doc,pm,an,cdv,ct,osl,rfl,lk,hcd⟩:=F.ex
 exact fn_of lk hcd S len fun A outer s H vs Q E hr hsp=>hbody cdv A outer s H vs Q E hr hsp
end
end L2
set_option Elab.async false
set_option linter.all false
set_option maxRecDepth 100000
set_option maxHeartbeats 4000000
namespace L2
open PySem PySem.Spec PyProof.Rows
theorem vals_blX:∀ {bs:List Bool} {its:List Value},Vals (bs.map V.bl) its→its=bs.map Value.bool
 | [],_,.nil=>rfl
 | b::bs,_,.cons r t=>by
  cases r
  rw [vals_blX t]
  rfl
def eqT (v:Value):Bool:=match v with | .bool b=>b | _=>false
theorem eqT_gives {bs:List Bool}:∀ y,y∈(bs.map Value.bool).toArray→MeetsSeq.EqGives y (.bool true) (eqT y):=fun y hy=>by
 obtain ⟨b,_,rfl⟩:=List.mem_map.mp (List.mem_toArray.mp hy)
 intro prog w A E s Q q
 refine SeqAt.EqAt.bool_bool b true prog w E Q ?_
 cases b<;>exact q
theorem countP_bl (bs:List Bool):(bs.map Value.bool).countP eqT=bs.countP id:=by
 rw [List.countP_map]
 rfl
inductive rCountB (x:V) (vs:List V) (H:Hp) (Q:VK):Prop
 | mk:∀ (l:Addr) (bs:List Bool),(x=.ref l)→(vs=[.bl true])→(H l=some (.lst (bs.map V.bl)))→(Q (.int (bs.countP id:Nat)) H)→rCountB x vs H Q
section
variable {X:Cx}
theorem mt_countB:MtM X "list.count" rCountB:=by
 intro pins s σ H x vs v us Q I rx rv h
 obtain ⟨l,bs,rfl,rfl,hH,q⟩:=h
 cases rx
 obtain ⟨u,rfl,ru⟩:=rv.one
 cases ru
 obtain ⟨z,its,m,r,hl,e⟩:=I.lstM hH
 obtain rfl:=vals_blX r
 refine call_meets F.slot_list_count ⟨_,e,rfl⟩ F.entry_list_count (F.args_list_count_2 _ _) (MeetsSeq.list_count l (bs.map Value.bool).toArray m (.bool true) eqT eqT_gives) ⟨e,?_⟩
 refine ⟨.int (bs.countP id:Nat),H,I.tok _,⟨s.toks,?_⟩,q⟩
 rw [List.toList_toArray,countP_bl]
end
end L2
set_option Elab.async false
set_option linter.all false
set_option maxRecDepth 100000
set_option maxHeartbeats 4000000
namespace L2
open PySem PySem.W PyProof.Rows
section
variable {K:Frag} {nm q:Str} {C N:Addr} {bs bm:List Value} {hdct:Bool} {sn:List Str} {sub:List Value} {ab:Bool} {col:Option Bool} {dd:Option Addr} {k0 k1 k2 k3 k5:Option Value} {i:String}
theorem mro_of (l:K.lookup C=some (excClassObj nm q C N bs bm hdct sn sub ab col dd k0 k1 k2 k3 k5 i)) (b:Value):mroIn K C b=some ((Value.ref C::bm).contains b):=by
 unfold mroIn clsIn
 rw [l]
 rfl
theorem xk_of (l:K.lookup C=some (excClassObj nm q C N bs bm true sn sub ab col dd k0 k1 k2 k3 k5 i)) (hp:∀ self,refuseLoop self "__setattr__" (.ref C::bm)=pure ()) (hb:bm.contains (.type "BaseException")=true) (ho:bm.contains (.type "object")=true)
  (ty:typeIn K (.ref C)=some (.type "type")) (sa:findIn K (.ref C) "__setattr__" = some (some (.builtin "object.__setattr__"))) (ga:findIn K (.ref C) "__getattribute__" = some (some (.builtin "BaseException.__getattribute__"))) (gh:findIn K (.ref C) "__getattr__" = some none)
  (cl:findIn K (.ref C) "__class__" = some (some (.builtin "object.__class__"))) (cg:specialIn K (.builtin "object.__class__") "__get__" = some (some (.builtin "getset_descriptor.__get__"))) (ct:takesIn K (.builtin "object.__class__")=some true):Ex.XK0 K C:=by
 refine ⟨?_,by rw [mro_of l,List.contains_cons,hb,Bool.or_true],by rw [mro_of l,List.contains_cons,ho,Bool.or_true],ty,sa,ga,gh,cl,cg,ct⟩
 refine ⟨_,by unfold clsIn;rw [l],rfl,rfl,hp⟩
theorem pass1 (C:Addr) (self:Value):refuseLoop self "__setattr__" [.ref C,.type "ValueError",.type "Exception",.type "BaseException",.type "object"]=pure ():=by
 rw [refuseLoop_ref]
 exact PySem.F.store_ValueError.passes self
theorem pass2 (C D:Addr) (self:Value):refuseLoop self "__setattr__" [.ref C,.ref D,.type "ValueError",.type "Exception",.type "BaseException",.type "object"]=pure ():=by
 rw [refuseLoop_ref]
 exact pass1 D self
theorem up2 (D:Addr):Ex.Up "ValueError" [.ref D,.type "ValueError",.type "Exception",.type "BaseException",.type "object"]:=by
 refine ⟨?_,?_,?_⟩<;>(rw [List.contains_cons];first | rfl | decide | simp)
/-- isinstance against an own class, a built-in one -/
theorem kit_of {D:Addr} {b:Bool} (c:isClsIn K D=true) (t:typeIn K (.ref D)=some (.type "type")) (s:subIn K (.ref C) (.ref D)=some b) (h:C=D→b=true):kitOne K (.ref C) (.ref D)=some b:=by
 unfold kitOne
 by_cases e:C=D
 ·rw [if_pos (by rw [e];exact beq_self_eq_true _),h e]
 ·rw [if_neg (fun z=>e (Value.ref.inj (beq_iff_eq.mp z)))]
  unfold kitCls
  have c':(clsIn K D).isSome=true:=c
  simp only [c',t,Bool.true_and,beq_self_eq_true,if_true]
  exact s
theorem kit_ve {b:Bool} (s:subIn K (.ref C) (.type "ValueError")=some b):kitOne K (.ref C) (.type "ValueError")=some b:=by
 unfold kitOne
 rw [if_neg (fun z=>by cases beq_iff_eq.mp z)]
 unfold kitCls
 have k:kitMeta "ValueError" = true:=by decide +kernel
 simp only [k,if_true]
 exact s
end
end L2
set_option linter.all false
set_option maxHeartbeats 4000000
namespace L2
open PySem PySem.Spec PyProof.Rows
section
variable {X:Cx} {E:XK}
/-- an exception of a callee goes on out of this def -/
theorem passes_up (hst:X.stack=X.env::X.outer) (hf:X.env.frame=some X.env.locals) (hex:X.ex=[])
  (hx:X.xe=fun e s'=>wpAny (model X.prog X.w) X.A (leaving X.env e) (fun _ s''=>CXo X.prog X.w X.outer X.H₀ X.s₀ E e s'') (fun e' s''=>CXo X.prog X.w X.outer X.H₀ X.s₀ E e' s'') s') :
  Passes (CXo X.prog X.w) X (fun cls dx H'=>∀ a C t1 T,cls=.ref C→H' a=some (.ext (XO a C dx t1))→H' T=none→T≠a→E cls dx (tr2 H' a C dx T)):=by
 intro pins σ H s e s' I h
 obtain ⟨a,C,dx,T,H',rfl,os,bare,un,hok,xa,na,hT,q⟩:=h
 have I1:Inv X pins σ H' s':=I.call' os un hok bare (fun b z=>absurd z (by simp))
 rw [hx]
 refine leaves I1 hst hf xa.1 (.inr ⟨T,rfl,na,hT⟩) fun T' h' nT na' un' hok'=>?_
 refine ⟨a,C,dx,T',_,rfl,I1.os,I1.bare,?_,hok',⟨upd_same,fun d e=>?_⟩,na',?_,q a C _ T' rfl xa.1 nT na'⟩
 ·have b0:=I1.base
  rw [hex] at b0
  refine b0.transL un' fun b o e hb=>?_
  rcases List.mem_cons.mp (I1.stkSub b hb) with z | z
  ·subst z
   exact absurd (Nat.lt_of_lt_of_le (Heap.lt_size e) I1.ok.above) (Nat.lt_irrefl _)
  ·exact z
 ·obtain ⟨fs,z⟩:=xa.2 d e
  refine ⟨fs,?_⟩
  have n1:d≠a:=fun y=>by subst y;rw [xa.1] at z;cases z
  unfold tr2
  rw [upd_ne n1,upd_ne (ne_of_none z nT)]
  exact z
 ·unfold tr2
  rw [upd_ne na',upd_same]
end
end L2
set_option Elab.async false
set_option linter.all false
set_option maxRecDepth 100000
set_option maxHeartbeats 4000000
namespace L2
open PySem PyProof.Rows
/-- DrawError.__init__ -/
inductive spInitD (K:PySem.W.Frag) (vs:List V) (H:Hp) (Q:VK) (Y:XK):Prop
 | mk:∀ (a C:Addr) (x:Str),(vs=[.ref a,.str x])→(H a=some (.ext (XO a C none .none)))→(Ex.XK0 K C)→(PySem.W.mroIn K C (.type "ValueError")=some true)→Q .non H→spInitD K vs H Q Y
theorem contB (D:Addr):([.ref D,.type "ValueError",.type "Exception",.type "BaseException",.type "object"]:List Value).contains (.type "BaseException")=true∧([.ref D,.type "ValueError",.type "Exception",.type "BaseException",.type "object"]:List Value).contains (.type "object")=true:=by
 constructor<;>(rw [List.contains_cons];first | rfl | simp)
/-- what all of them want -/
structure XgAt (K:PySem.W.Frag):Prop where
 vf:PySem.W.findCls K (.type "ValueError") (.type "type") "__init__" = some (.val (.builtin "ValueError.__init__"))
 zv:PySem.W.nsIn K mainGlobals "ValueError" = some none
/-- DrawError, for an except -/
def DxAt (K:PySem.W.Frag):Prop:=∃ D:Addr,PySem.W.nsIn K mainGlobals "DrawError" = some (some (.ref D))∧Ex.XK0 K D∧PySem.W.instIn K (.ref D) (.type "tuple")=some false
section
variable {K:PySem.W.Frag} {C N D F:Addr} {nm qn n:Str} {bs sub:List Value} {sn:List Str} {ab:Bool} {col:Option Bool} {dd:Option Addr} {x0 x1 x2 x3 x5:Option Value}
theorem dx_mk (a:PySem.W.nsIn K mainGlobals "DrawError" = some (some (.ref C))) (l:K.lookup C=some (excClassObj nm qn C N bs [.type "ValueError",.type "Exception",.type "BaseException",.type "object"] true sn sub ab col dd x0 x1 x2 x3 x5 "ValueError.__new__"))
  (t:PySem.W.typeIn K (.ref C)=some (.type "type")) (sa:PySem.W.findIn K (.ref C) "__setattr__" = some (some (.builtin "object.__setattr__"))) (ga:PySem.W.findIn K (.ref C) "__getattribute__" = some (some (.builtin "BaseException.__getattribute__")))
  (gh:PySem.W.findIn K (.ref C) "__getattr__" = some none) (cl:PySem.W.findIn K (.ref C) "__class__" = some (some (.builtin "object.__class__"))) (cg:PySem.W.specialIn K (.builtin "object.__class__") "__get__" = some (some (.builtin "getset_descriptor.__get__")))
  (ct:PySem.W.takesIn K (.builtin "object.__class__")=some true) (it:PySem.W.instIn K (.ref C) (.type "tuple")=some false):DxAt K :=
 ⟨C,a,xk_of l (pass1 _) rfl rfl t sa ga gh cl cg ct,it⟩
/-- a class without an own __init__ under DrawError, to be raised -/
def WxAt (K:PySem.W.Frag) (n:Str) (st:Stmt):Prop:=∃ (C D F:Addr) (fd:FuncData),PySem.W.nsIn K mainGlobals n=some (some (.ref C))∧PySem.W.nsIn K mainGlobals "DrawError" = some (some (.ref D))∧XM K C F∧Fun K "__init__" "DrawError.__init__" st F fd ∧
 PySem.W.mroIn K C (.type "ValueError")=some true∧PySem.W.mroIn K C (.ref D)=some true
theorem wx_mk {st:Stmt} {oc:Value} {od an:Option Addr} {osl:Array (Option Value)} {kV doc pm cdv ctv:Value} (a:PySem.W.nsIn K mainGlobals n=some (some (.ref C))) (d:PySem.W.nsIn K mainGlobals "DrawError" = some (some (.ref D))) (l:K.lookup C=some (excClassObj nm qn C N bs [.ref D,.type "ValueError",.type "Exception",.type "BaseException",.type "object"] true sn sub ab col dd x0 x1 x2 x3 x5 "ValueError.__new__"))
  (t:PySem.W.typeIn K (.ref C)=some (.type "type")) (sa:PySem.W.findIn K (.ref C) "__setattr__" = some (some (.builtin "object.__setattr__"))) (ga:PySem.W.findIn K (.ref C) "__getattribute__" = some (some (.builtin "BaseException.__getattribute__")))
  (gh:PySem.W.findIn K (.ref C) "__getattr__" = some none) (cl:PySem.W.findIn K (.ref C) "__class__" = some (some (.builtin "object.__class__"))) (cg:PySem.W.specialIn K (.builtin "object.__class__") "__get__" = some (some (.builtin "getset_descriptor.__get__")))
  (ct:PySem.W.takesIn K (.builtin "object.__class__")=some true) (i:PySem.W.findIn K (.ref C) "__init__" = some (some (.ref F))) (f:PySem.W.typeIn K (.ref F)=some (.type "function")) (k:PySem.W.keepIn K (.ref C)=true)
  (fl:K.lookup F=some ⟨oc,od,.func (PySem.W.fnOf "__init__" "DrawError.__init__" (defArgs st) (defBody st) (defScope st) .none kV doc pm an cdv ctv),osl⟩) (fc:PySem.W.codeIn K cdv "DrawError.__init__" = true) (fk:PySem.W.keepIn K (.ref F)=true):WxAt K n st:=by
 refine ⟨C,D,F,_,a,d,⟨xk_of l (pass2 _ _) (contB _).1 (contB _).2 t sa ga gh cl cg ct,⟨_,_,_,_,_,_,_,_,_,_,_,_,_,_,_,_,l,up2 _⟩,i,f,k⟩,fun_mk fl fc fk,?_,?_⟩
 ·rw [mro_of l,List.contains_cons,(up2 _).b,Bool.or_true]
 ·rw [mro_of l];simp
/-- isinstance of one of class n against the class c -/
def KdAt (K:PySem.W.Frag) (n c:Str) (b:Bool):Prop:=∃ C G:Addr,PySem.W.nsIn K mainGlobals n=some (some (.ref C))∧PySem.W.nsIn K mainGlobals c=some (some (.ref G))∧PySem.W.kitOne K (.ref C) (.ref G)=some b
theorem kd_mk {c:Str} {G:Addr} {b:Bool} (a:PySem.W.nsIn K mainGlobals n=some (some (.ref C))) (d:PySem.W.nsIn K mainGlobals c=some (some (.ref G))) (i:PySem.W.isClsIn K G=true) (t:PySem.W.typeIn K (.ref G)=some (.type "type")) (s:PySem.W.subIn K (.ref C) (.ref G)=some b) (ss:PySem.W.subIn K (.ref C) (.ref C)=some true):KdAt K n c b :=
 ⟨C,G,a,d,kit_of i t s fun e=>by subst e;rw [ss] at s;exact (Option.some.inj s).symm⟩
def KvAt (K:PySem.W.Frag) (n:Str):Prop:=∃ C:Addr,PySem.W.nsIn K mainGlobals n=some (some (.ref C))∧PySem.W.kitOne K (.ref C) (.type "ValueError")=some true
theorem kv_mk' (a:PySem.W.nsIn K mainGlobals n=some (some (.ref C))) (s:PySem.W.subIn K (.ref C) (.type "ValueError")=some true):KvAt K n:=⟨C,a,kit_ve s⟩
end
section
variable {P:Program} {w:World} {K:PySem.W.Frag} {mg:Str→Option Value} {base:Heap}
/-- a def that runs while an exception is handled -/
theorem hsN_of {n:Str} {st:Stmt} {N ps:List Str} {k:Nat} {sp:Sp} (X:∃ h:Heap,K.In h∧h.Ns mainGlobals mg) (d:DfAt K n st) (S:FnScope N ps (defScope st))
  (hbody:∀ (f:Addr) (cdv:Value) (A:Around) (outer:List Env) (s:Shared) (H:Hp) (vs:List V) (Q:VK) (E:XK),N.Nodup→RoomN k (A.deeper (envOfC n (defScope st) s.heap.objs.size f cdv))→sp vs H Q E →
   ∃ t,PSs (cxN P w K mg base N n (defScope st) f cdv A outer s H) (defBody st) t∧t { nx:=fun _ H'=>Q .non H',rt:=Q } (start N vs) H)
  (len:∀ vs H Q E,sp vs H Q E→vs.length=ps.length)
  (b:∀ (kV doc pm:Value) (an:Option Addr) (cdv ct:Value) (us:List Value),us.length=ps.length→bindArgs (PySem.W.fnOf n n (defArgs st) (defBody st) (defScope st) .none kV doc pm an cdv ct) ⟨us,[]⟩=pure (ps.zip us)):HasN P w K mg base n ps (k+1) sp:=by
 obtain ⟨h,x,g⟩:=X
 obtain ⟨f,fd,a,F⟩:=d
 exact ⟨f,fd,F.okN S len fun cdv A outer s H vs Q E hr hs=>hbody f cdv A outer s H vs Q E S.nd hr hs,F.binds b,F.kp,PySem.W.mg_of x g a⟩
/-- a def that may raise, by its promise, its name, its arguments -/
def HasX (P:Program) (w:World) (K:PySem.W.Frag) (mg:Str→Option Value) (base:Heap) (x:Str) (ps:List Str) (k:Nat) (sp:Sp):Prop :=
 ∃ (f:Addr) (fd:FuncData),FnOk P w K mg base (CXo P w) k f fd ps sp∧Binds K fd ps []∧PySem.W.keepIn K (.ref f)=true∧mg x=some (.ref f)
theorem hsX_of {n:Str} {st:Stmt} {N ps:List Str} {k:Nat} {sp:Sp} (X:∃ h:Heap,K.In h∧h.Ns mainGlobals mg) (d:DfAt K n st) (S:FnScope N ps (defScope st))
  (hbody:∀ (f:Addr) (cdv:Value) (A:Around) (outer:List Env) (s:Shared) (H:Hp) (vs:List V) (Q:VK) (E:XK),N.Nodup→Room k (A.deeper (envOfC n (defScope st) s.heap.objs.size f cdv))→sp vs H Q E →
   ∃ t,PSs (cxOf (CXo P w) P w K mg base N n (defScope st) f cdv A outer s H E) (defBody st) t∧t { nx:=fun _ H'=>Q .non H',rt:=Q } (start N vs) H)
  (len:∀ vs H Q E,sp vs H Q E→vs.length=ps.length)
  (b:∀ (kV doc pm:Value) (an:Option Addr) (cdv ct:Value) (us:List Value),us.length=ps.length→bindArgs (PySem.W.fnOf n n (defArgs st) (defBody st) (defScope st) .none kV doc pm an cdv ct) ⟨us,[]⟩=pure (ps.zip us)):HasX P w K mg base n ps (k+1) sp:=by
 obtain ⟨h,x,g⟩:=X
 obtain ⟨f,fd,a,F⟩:=d
 exact ⟨f,fd,F.okX S len fun cdv A outer s H vs Q E hr hs=>hbody f cdv A outer s H vs Q E S.nd hr hs,F.binds b,F.kp,PySem.W.mg_of x g a⟩
theorem kd_of {n c:Str} {b:Bool} (X:∃ h:Heap,K.In h∧h.Ns mainGlobals mg) (d:KdAt K n c b):∃ C G:Addr,mg n=some (.ref C)∧mg c=some (.ref G)∧PySem.W.kitOne K (.ref C) (.ref G)=some b:=by
 obtain ⟨h,x,g⟩:=X
 obtain ⟨C,G,a1,a2,k⟩:=d
 exact ⟨C,G,PySem.W.mg_of x g a1,PySem.W.mg_of x g a2,k⟩
theorem kv_of {n:Str} (X:∃ h:Heap,K.In h∧h.Ns mainGlobals mg) (d:KvAt K n):∃ C:Addr,mg n=some (.ref C)∧PySem.W.kitOne K (.ref C) (.type "ValueError")=some true:=by
 obtain ⟨h,x,g⟩:=X
 obtain ⟨C,a1,k⟩:=d
 exact ⟨C,PySem.W.mg_of x g a1,k⟩
theorem dx_of (X:∃ h:Heap,K.In h∧h.Ns mainGlobals mg) (d:DxAt K):∃ D:Addr,mg "DrawError" = some (.ref D)∧Ex.XK0 K D∧PySem.W.instIn K (.ref D) (.type "tuple")=some false:=by
 obtain ⟨h,x,g⟩:=X
 obtain ⟨D,a,b⟩:=d
 exact ⟨D,PySem.W.mg_of x g a,b⟩
end
end L2
set_option linter.all false
set_option Elab.async false
namespace Ang
open Mth
abbrev Vc:=Int×Int
def cr (u v:Vc):Int:=u.1*v.2-u.2*v.1
def late (u:Vc):Bool:=decide (u.2<0∨(u.2=0∧u.1<0))
def ahd (u v:Vc):Bool:=if late u=late v then decide (0<cr u v) else !late u
/-- in one direction -/
def alk (u v:Vc):Bool:=decide (cr u v=0) && decide (late u=late v)
def nz (u:Vc):Prop:=u.1≠0∨u.2≠0
theorem cr_self (u:Vc):cr u u=0:=by unfold cr;rw [Int.mul_comm];omega
theorem cr_swap (u v:Vc):cr v u = - cr u v:=by
 unfold cr
 rw [Int.mul_comm v.1,Int.mul_comm v.2]
 omega
theorem cr_id (u v w:Vc):v.2*cr u w=u.2*cr v w+w.2*cr u v:=by unfold cr;grind
theorem cr_id1 (u v w:Vc):v.1*cr u w=u.1*cr v w+w.1*cr u v:=by unfold cr;grind
theorem late_iff (u:Vc):late u=true↔u.2<0∨(u.2=0∧u.1<0):=by unfold late;exact decide_eq_true_iff
theorem late_not (u:Vc):late u=false↔0<u.2∨(u.2=0∧0≤u.1):=by
 unfold late
 rw [decide_eq_false_iff_not]
 omega
theorem ahd_irr (u:Vc):ahd u u=false:=by
 unfold ahd
 rw [if_pos rfl,cr_self]
 rfl
theorem ahd_tot {u v:Vc} (h:alk u v=false):ahd u v=true∨ahd v u=true:=by
 unfold ahd
 by_cases c:late u=late v
 ·rw [if_pos c,if_pos c.symm,cr_swap u v]
  unfold alk at h
  rw [decide_eq_true c,Bool.and_true] at h
  have:=of_decide_eq_false h
  rcases (by omega:0<cr u v∨0 < - cr u v) with z | z
  ·exact .inl (decide_eq_true z)
  ·exact .inr (decide_eq_true z)
 ·rw [if_neg c,if_neg (Ne.symm c)]
  cases a:late u<;>cases b:late v<;>simp_all
theorem mul_pos_of {a b:Int} (h:0<a) (k:0<a*b):0<b:=by
 rcases Int.lt_trichotomy b 0 with z | z | z
 ·have:=Int.mul_neg_of_pos_of_neg h z;omega
 ·subst z;rw [Int.mul_zero] at k;omega
 ·exact z
/-- within the upper half, from the right on -/
theorem up_trans {u v w:Vc} (hu:0≤u.2) (hv:0≤v.2) (hw:0≤w.2) (hu':u.2=0→0≤u.1) (hv':v.2=0→0≤v.1) (hw':w.2=0→0≤w.1) (h1:0<cr u v) (h2:0<cr v w):0<cr u w:=by
 have v0:0<v.2:=by
  rcases Int.lt_or_eq_of_le hv with z | z
  ·exact z
  ·exfalso
   have a:=hv' z.symm
   unfold cr at h1
   rw [←z,Int.mul_zero] at h1
   have:=Int.mul_nonneg hu a
   omega
 have e:=cr_id u v w
 have a:=Int.mul_nonneg hu (Int.le_of_lt h2)
 have b:=Int.mul_nonneg hw (Int.le_of_lt h1)
 refine mul_pos_of v0 ?_
 rcases Int.lt_or_eq_of_le hu with z | z
 ·have:=Int.mul_pos z h2
  omega
 rcases Int.lt_or_eq_of_le hw with y | y
 ·have:=Int.mul_pos y h1
  omega
 exfalso
 have c:=hw' y.symm
 unfold cr at h2
 rw [←y,Int.mul_zero] at h2
 have:=Int.mul_nonneg hv c
 omega
def neg (u:Vc):Vc:=(-u.1,-u.2)
theorem cr_neg (u v:Vc):cr (neg u) (neg v)=cr u v:=by unfold cr neg;grind
theorem ahd_trans {u v w:Vc} (h1:ahd u v=true) (h2:ahd v w=true):ahd u w=true:=by
 unfold ahd at *
 cases a:late u<;>cases b:late v<;>cases c:late w<;>rw [a,b] at h1<;>rw [b,c] at h2<;>simp at h1 h2 ⊢
 ·rw [late_not] at a b c
  exact up_trans (by omega) (by omega) (by omega) (by omega) (by omega) (by omega) h1 h2
 ·rw [late_iff] at a b c
  have:=up_trans (u:=neg u) (v:=neg v) (w:=neg w) (by show 0≤-u.2;omega) (by show 0≤-v.2;omega) (by show 0≤-w.2;omega) (by show -u.2=0→0≤-u.1;omega) (by show -v.2=0→0≤-v.1;omega) (by show -w.2=0→0≤-w.1;omega) (by rw [cr_neg];exact h1) (by rw [cr_neg];exact h2)
  rwa [cr_neg] at this
theorem sgn_cases (a:Int):(sgn a = -1∧a<0)∨(sgn a=0∧a=0)∨(sgn a=1∧0<a):=by
 unfold sgn
 by_cases h:a<0
 ·rw [if_pos h];exact .inl ⟨rfl,h⟩
 ·rw [if_neg h]
  by_cases k:0<a
  ·rw [if_pos k];exact .inr (.inr ⟨rfl,k⟩)
  ·rw [if_neg k];exact .inr (.inl ⟨rfl,by omega⟩)
theorem late_sgn (u:Vc):late u=decide (sgn u.2<0∨(sgn u.2=0∧sgn u.1<0)):=by
 unfold late
 rcases sgn_cases u.1 with ⟨a,b⟩ | ⟨a,b⟩ | ⟨a,b⟩<;>rcases sgn_cases u.2 with ⟨c,d⟩ | ⟨c,d⟩ | ⟨c,d⟩<;>rw [a,c]<;>congr 1<;>(rw [eq_iff_iff];omega)
/-- further to the right, or straight above -/
def fwd (u:Vc):Bool:=decide (0<u.1∨(u.1=0∧0<u.2))
theorem fwd_sgn (u:Vc):fwd u=decide (0<sgn u.1∨(sgn u.1=0∧0<sgn u.2)):=by
 unfold fwd
 rcases sgn_cases u.1 with ⟨a,b⟩ | ⟨a,b⟩ | ⟨a,b⟩<;>rcases sgn_cases u.2 with ⟨c,d⟩ | ⟨c,d⟩ | ⟨c,d⟩<;>rw [a,c]<;>congr 1<;>(rw [eq_iff_iff];omega)
theorem sgn_mul (a b:Int):sgn (a*b)=sgn a*sgn b:=by
 have pp:∀ {a b:Int},0<a→0<b→0<a*b:=Int.mul_pos
 have pn:∀ {a b:Int},0<a→b<0→a*b<0:=Int.mul_neg_of_pos_of_neg
 have np:∀ {a b:Int},a<0→0<b→a*b<0:=Int.mul_neg_of_neg_of_pos
 have nn:∀ {a b:Int},a<0→b<0→0<a*b:=Int.mul_pos_of_neg_of_neg
 rcases sgn_cases a with ⟨x,h⟩ | ⟨x,h⟩ | ⟨x,h⟩<;>rcases sgn_cases b with ⟨y,k⟩ | ⟨y,k⟩ | ⟨y,k⟩<;>rw [x,y]
 ·have:=nn h k;unfold sgn;rw [if_neg (by omega),if_pos this];rfl
 ·rw [k,Int.mul_zero];rfl
 ·have:=np h k;unfold sgn;rw [if_pos this];rfl
 ·rw [h,Int.zero_mul];rfl
 ·rw [h,Int.zero_mul];rfl
 ·rw [h,Int.zero_mul];rfl
 ·have:=pn h k;unfold sgn;rw [if_pos this];rfl
 ·rw [k,Int.mul_zero];rfl
 ·have:=pp h k;unfold sgn;rw [if_neg (by omega),if_pos this];rfl
theorem sgn_three (a:Int):sgn a = -1∨sgn a=0∨sgn a=1:=by
 rcases sgn_cases a with h | h | h
 ·exact .inl h.1
 ·exact .inr (.inl h.1)
 ·exact .inr (.inr h.1)
theorem nz_sgn {u:Vc} (h:nz u):sgn u.1≠0∨sgn u.2≠0:=by
 rcases h with h | h
 ·exact .inl fun z=>by rcases sgn_cases u.1 with k | k | k<;>omega
 ·exact .inr fun z=>by rcases sgn_cases u.2 with k | k | k<;>omega
theorem late_fwd {u v:Vc} (hu:nz u) (hv:nz v) (h:cr u v=0):late u=late v↔fwd u=fwd v:=by
 unfold cr at h
 have e:u.1*v.2=u.2*v.1:=by omega
 have k:=congrArg sgn e
 rw [sgn_mul,sgn_mul] at k
 have nu:=nz_sgn hu
 have nv:=nz_sgn hv
 rw [late_sgn,late_sgn,fwd_sgn,fwd_sgn]
 have a:=sgn_three u.1
 have b:=sgn_three u.2
 have c:=sgn_three v.1
 have d:=sgn_three v.2
 generalize sgn u.1=s1 at *
 generalize sgn u.2=s2 at *
 generalize sgn v.1=t1 at *
 generalize sgn v.2=t2 at *
 clear h e hu hv
 rcases a with rfl | rfl | rfl<;>rcases b with rfl | rfl | rfl<;>rcases c with rfl | rfl | rfl<;>rcases d with rfl | rfl | rfl<;>revert k nu nv<;>decide
/-- who is in one direction is ahead of the same, and behind the same -/
theorem alk_cr {u v w:Vc} (hu:nz u) (hv:nz v) (h:alk u v=true):(0<cr w u↔0<cr w v):=by
 unfold alk at h
 rw [Bool.and_eq_true,decide_eq_true_iff,decide_eq_true_iff] at h
 obtain ⟨c,l⟩:=h
 have f:=(late_fwd hu hv c).mp l
 have e2:u.2*cr w v=v.2*cr w u:=by have:=cr_id w u v;rw [c,Int.mul_zero] at this;omega
 have e1:u.1*cr w v=v.1*cr w u:=by have:=cr_id1 w u v;rw [c,Int.mul_zero] at this;omega
 have k1:=congrArg sgn e1
 have k2:=congrArg sgn e2
 rw [sgn_mul,sgn_mul] at k1 k2
 have nu:=nz_sgn hu
 have nv:=nz_sgn hv
 rw [late_sgn,late_sgn] at l
 rw [fwd_sgn,fwd_sgn] at f
 have p:∀ x:Int,0<x↔sgn x=1:=fun x=>by rcases sgn_cases x with z | z | z<;>omega
 rw [p,p]
 have x1:=sgn_three (cr w u)
 have x2:=sgn_three (cr w v)
 have a:=sgn_three u.1
 have b:=sgn_three u.2
 have c':=sgn_three v.1
 have d:=sgn_three v.2
 generalize sgn (cr w u)=y1 at *
 generalize sgn (cr w v)=y2 at *
 generalize sgn u.1=s1 at *
 generalize sgn u.2=s2 at *
 generalize sgn v.1=t1 at *
 generalize sgn v.2=t2 at *
 clear e1 e2 c hu hv p
 rcases a with rfl | rfl | rfl<;>rcases b with rfl | rfl | rfl<;>rcases c' with rfl | rfl | rfl<;>rcases d with rfl | rfl | rfl<;>revert nu nv l f <;>
  first
  | (intro nu nv l f;exfalso;revert nu nv l f;decide)
  | (intro _ _ _ _;rcases x1 with rfl | rfl | rfl<;>rcases x2 with rfl | rfl | rfl<;>revert k1 k2<;>decide)
theorem alk_late {u v:Vc} (h:alk u v=true):late u=late v:=by
 unfold alk at h
 rw [Bool.and_eq_true,decide_eq_true_iff,decide_eq_true_iff] at h
 exact h.2
theorem alk_ahd {u v w:Vc} (hu:nz u) (hv:nz v) (h:alk u v=true):ahd w u=ahd w v:=by
 have l:=alk_late h
 have c:=alk_cr (w:=w) hu hv h
 unfold ahd
 rw [l]
 by_cases z:late w=late v
 ·rw [if_pos z,if_pos z]
  congr 1
  rw [eq_iff_iff]
  exact c
 ·rw [if_neg z,if_neg z]
/-- signs alone matter -/
theorem ahd_sgn {u v u' v':Vc} (h1:sgn u'.1=sgn u.1) (h2:sgn u'.2=sgn u.2) (h3:sgn v'.1=sgn v.1) (h4:sgn v'.2=sgn v.2) (h5:sgn (cr u' v')=sgn (cr u v)):ahd u' v'=ahd u v∧alk u' v'=alk u v:=by
 have p:∀ x:Int,(0<x↔sgn x=1)∧(x=0↔sgn x=0):=fun x=>by rcases sgn_cases x with z | z | z<;>omega
 have l1:late u'=late u:=by rw [late_sgn,late_sgn,h1,h2]
 have l2:late v'=late v:=by rw [late_sgn,late_sgn,h3,h4]
 have e1:decide (0<cr u' v')=decide (0<cr u v):=by congr 1;rw [eq_iff_iff,(p _).1,(p (cr u v)).1,h5]
 have e2:decide (cr u' v'=0)=decide (cr u v=0):=by congr 1;rw [eq_iff_iff,(p _).2,(p (cr u v)).2,h5]
 unfold ahd alk
 rw [l1,l2,e1,e2]
 exact ⟨rfl,rfl⟩
def mir (u:Vc):Vc:=(-u.1,u.2)
theorem cr_mir (u v:Vc):cr (mir u) (mir v) = - cr u v:=by unfold cr mir;grind
theorem alk_mir {u v:Vc} (hu:nz u) (hv:nz v):alk (mir u) (mir v)=alk u v:=by
 have nm:∀ {u:Vc},nz u→nz (mir u):=fun {u} h=>by
  rcases h with h | h
  ·exact .inl (by show -u.1≠0;omega)
  ·exact .inr h
 have go:∀ {u v:Vc},nz u→nz v→alk u v=true→alk (mir u) (mir v)=true:=fun {u v} hu hv h=>by
  have l:=alk_late h
  unfold alk at h ⊢
  rw [Bool.and_eq_true,decide_eq_true_iff,decide_eq_true_iff] at h
  have c:cr (mir u) (mir v)=0:=by rw [cr_mir,h.1];rfl
  rw [Bool.and_eq_true,decide_eq_true_iff,decide_eq_true_iff]
  refine ⟨c,?_⟩
  have f:=(late_fwd hu hv h.1).mp l
  have k:sgn u.1*sgn v.2=sgn u.2*sgn v.1:=by
   have e:=h.1
   unfold cr at e
   rw [←sgn_mul,←sgn_mul,show u.1*v.2=u.2*v.1 by omega]
  rw [late_sgn,late_sgn] at l ⊢
  rw [fwd_sgn,fwd_sgn] at f
  have nu:=nz_sgn hu
  have nv:=nz_sgn hv
  show decide (sgn u.2<0∨sgn u.2=0∧sgn (-u.1)<0)=decide (sgn v.2<0∨sgn v.2=0∧sgn (-v.1)<0)
  rw [sgn_neg,sgn_neg]
  have a:=sgn_three u.1
  have b:=sgn_three u.2
  have c':=sgn_three v.1
  have d:=sgn_three v.2
  generalize sgn u.1=s1 at *
  generalize sgn u.2=s2 at *
  generalize sgn v.1=t1 at *
  generalize sgn v.2=t2 at *
  clear c h hu hv
  rcases a with rfl | rfl | rfl<;>rcases b with rfl | rfl | rfl<;>rcases c' with rfl | rfl | rfl<;>rcases d with rfl | rfl | rfl<;>revert nu nv l f k<;>decide
 rw [Bool.eq_iff_iff]
 refine ⟨fun h=>?_,go hu hv⟩
 have:=go (nm hu) (nm hv) h
 have e:∀ u:Vc,mir (mir u)=u:=fun u=>by show ((- -u.1,u.2):Int×Int)=u;rw [Int.neg_neg]
 rwa [e,e] at this
/-- not below -/
def up_ (u:Vc):Bool:=decide (0≤u.2)
theorem ahd_up {u v:Vc} (hu:nz u) (h:ahd u v=true) (hv:up_ v=true):up_ u=true:=by
 unfold up_ at *
 have hv:=of_decide_eq_true hv
 refine decide_eq_true ?_
 rcases (by omega:u.2<0∨0≤u.2) with c | c
 ·exfalso
  have lu:late u=true:=(late_iff u).mpr (.inl c)
  unfold ahd at h
  by_cases z:late u=late v
  ·rw [if_pos z] at h
   have h:=of_decide_eq_true h
   rw [lu] at z
   rcases (late_iff v).mp z.symm with d | ⟨d,d'⟩
   ·omega
   ·unfold cr at h
    rw [d,Int.mul_zero] at h
    have:=Int.mul_pos_of_neg_of_neg c d'
    omega
  ·rw [if_neg z,lu] at h
   cases h
 ·exact c
/-- two not below, or two below, stand the other way round in the mirror -/
theorem ahd_mir {u v:Vc} (hu:nz u) (hv:nz v) (e:up_ u=up_ v) (h:ahd u v=true):ahd (mir v) (mir u)=true:=by
 unfold up_ at e
 have e:(0≤u.2)↔0≤v.2:=by rwa [decide_eq_decide] at e
 have cm:cr (mir v) (mir u)=cr u v:=by rw [cr_mir,cr_swap,Int.neg_neg]
 unfold ahd at h ⊢
 rw [cm]
 have lu:=late_iff u
 have lv:=late_iff v
 have mu:=late_iff (mir u)
 have mv:=late_iff (mir v)
 have mu:late (mir u)=true↔u.2<0∨(u.2=0∧-u.1<0):=mu
 have mv:late (mir v)=true↔v.2<0∨(v.2=0∧-v.1<0):=mv
 have cc:cr u v=u.1*v.2-u.2*v.1:=rfl
 unfold nz at hu hv
 rcases Int.lt_trichotomy u.2 0 with a | a | a
 ·have b:v.2<0:=by omega
  have l1:=lu.mpr (.inl a)
  have l2:=lv.mpr (.inl b)
  have l3:=mu.mpr (.inl a)
  have l4:=mv.mpr (.inl b)
  rw [l1,l2,if_pos rfl] at h
  rw [l3,l4,if_pos rfl]
  exact h
 ·have b:0≤v.2:=by omega
  rcases Int.lt_or_eq_of_le b with b | b
  ·-- u level,v above
   have l2:late v=false:=(late_not v).mpr (.inl b)
   have l4:late (mir v)=false:=(late_not (mir v)).mpr (.inl b)
   rw [l2] at h
   rw [l4]
   by_cases z:u.1<0
   ·rw [lu.mpr (.inr ⟨a,z⟩)] at h
    cases h
   ·have l3:late (mir u)=true:=mu.mpr (.inr ⟨a,by omega⟩)
    rw [l3]
    rfl
  ·-- both level: not in one direction
   have b:=b.symm
   by_cases z:u.1<0
   ·rw [lu.mpr (.inr ⟨a,z⟩)] at h
    by_cases y:v.1<0
    ·rw [lv.mpr (.inr ⟨b,y⟩),if_pos rfl,cc,a,b] at h
     have h:=of_decide_eq_true h
     omega
    ·have l2:late v=false:=(late_not v).mpr (.inr ⟨b,by omega⟩)
     rw [l2] at h
     cases h
   ·by_cases y:v.1<0
    ·have l4:late (mir v)=false:=(late_not (mir v)).mpr (.inr ⟨b,by show 0≤-v.1;omega⟩)
     have l3:late (mir u)=true:=mu.mpr (.inr ⟨a,by omega⟩)
     rw [l3,l4]
     rfl
    ·have l1:late u=false:=(late_not u).mpr (.inr ⟨a,by omega⟩)
     have l2:late v=false:=(late_not v).mpr (.inr ⟨b,by omega⟩)
     rw [l1,l2,if_pos rfl,cc,a,b] at h
     have h:=of_decide_eq_true h
     omega
 ·have b:0≤v.2:=by omega
  have l1:late u=false:=(late_not u).mpr (.inl a)
  have l3:late (mir u)=false:=(late_not (mir u)).mpr (.inl a)
  rw [l1] at h
  rw [l3]
  rcases Int.lt_or_eq_of_le b with b | b
  ·have l2:late v=false:=(late_not v).mpr (.inl b)
   have l4:late (mir v)=false:=(late_not (mir v)).mpr (.inl b)
   rw [l2,if_pos rfl] at h
   rw [l4,if_pos rfl]
   exact h
  ·have b:=b.symm
   by_cases y:v.1<0
   ·have l4:late (mir v)=false:=(late_not (mir v)).mpr (.inr ⟨b,by show 0≤-v.1;omega⟩)
    rw [l4,if_pos rfl]
    have:=Int.mul_neg_of_pos_of_neg a y
    exact decide_eq_true (by rw [cc,b];omega)
   ·have l2:late v=false:=(late_not v).mpr (.inr ⟨b,by omega⟩)
    rw [l2,if_pos rfl] at h
    have h:=of_decide_eq_true h
    have:=Int.mul_nonneg (Int.le_of_lt a) (show 0≤v.1 by omega)
    rw [cc,b] at h
    omega
theorem ahd_mir2 {u v:Vc} (hu:nz u) (hv:nz v) (a:up_ u=true) (b:up_ v=false):ahd (mir u) (mir v)=true:=by
 unfold up_ at a b
 have a:=of_decide_eq_true a
 have b:=of_decide_eq_false b
 have l4:late (mir v)=true:=(late_iff (mir v)).mpr (.inl (by show v.2<0;omega))
 unfold nz at hu
 unfold ahd
 rw [l4]
 cases c:late (mir u) with
 | false=>rfl
 | true =>
  rw [if_pos rfl,cr_mir]
  rcases (late_iff (mir u)).mp c with d | ⟨d,d'⟩
  ·exact absurd (show u.2<0 from d) (by omega)
  ·have d:u.2=0:=d
   have d' : -u.1<0:=d'
   have:=Int.mul_neg_of_pos_of_neg (show 0<u.1 by omega) (show v.2<0 by omega)
   exact decide_eq_true (by unfold cr;rw [d];omega)
/-- a strict and total order of a row's places -/
structure Tot (A:Nat→Nat→Bool) (row:List Nat):Prop where
 irr:∀ q∈row,A q q=false
 tr:∀ q∈row,∀ r∈row,∀ w∈row,A q r=true→A r w=true→A q w=true
 tot:∀ q∈row,∀ r∈row,q≠r→A q r=true∨A r q=true
 nd:row.Nodup
/-- q put behind as many as are ahead of it -/
def insA (A:Nat→Nat→Bool) (S:List Nat) (q:Nat):List Nat:=S.insertIdx (S.countP fun r=>A r q) q
def srtA (A:Nat→Nat→Bool) (row:List Nat):List Nat:=row.foldl (insA A) []
theorem insertIdx_perm {α:Type} (q:α):∀ (S:List α) (k:Nat),k≤S.length→(S.insertIdx k q).Perm (q::S)
 | S,0,_=>by rw [List.insertIdx_zero]
 | [],k+1,h=>by simp at h
 | x::S,k+1,h=>by
  rw [List.insertIdx_succ_cons]
  exact ((insertIdx_perm q S k (by simpa using h)).cons x).trans (List.Perm.swap q x S)
theorem insA_perm (A:Nat→Nat→Bool) (S:List Nat) (q:Nat):(insA A S q).Perm (q::S):=insertIdx_perm q S _ List.countP_le_length
theorem srtA_snoc (A:Nat→Nat→Bool) (row:List Nat) (q:Nat):srtA A (row++[q])=insA A (srtA A row) q:=by
 unfold srtA
 rw [List.foldl_append]
 rfl
theorem srtA_perm (A:Nat→Nat→Bool):∀ (n:Nat) (row:List Nat),row.length=n→(srtA A row).Perm row
 | 0,row,h=>by rw [List.length_eq_zero_iff.mp h];exact List.Perm.refl _
 | n+1,row,h=>by
  rcases List.eq_nil_or_concat row with rfl | ⟨r,q,rfl⟩
  ·simp at h
  ·rw [List.concat_eq_append] at h ⊢
   rw [srtA_snoc]
   have ih:=srtA_perm A n r (by rw [List.length_append] at h;simpa using h)
   exact (insA_perm A _ q).trans (((ih.cons q).trans (List.perm_append_comm (l₁:=[q]) (l₂:=r))))
/-- in turn -/
def InT (A:Nat→Nat→Bool) (S:List Nat):Prop:=S.Pairwise fun a b=>A a b=true
theorem insA_inT {A:Nat→Nat→Bool} {q:Nat}:∀ {S:List Nat},InT A S→(∀ x∈S,∀ y∈S,A x y=true→A y q=true→A x q=true)→(∀ x∈S,A x q=true∨A q x=true)→(∀ x∈S,A x q=true→A q x=false)→(∀ x∈S,∀ y∈S,A q x=true→A x y=true→A q y=true)→InT A (insA A S q)
 | [],_,_,_,_,_=>by unfold insA;exact List.pairwise_singleton ..
 | x::S,h,t1,tt,as,t2=>by
  obtain ⟨h1,h2⟩:=List.pairwise_cons.mp h
  have ih:=insA_inT (A:=A) (q:=q) h2 (fun a ha b hb=>t1 a (List.mem_cons_of_mem _ ha) b (List.mem_cons_of_mem _ hb)) (fun a ha=>tt a (List.mem_cons_of_mem _ ha)) (fun a ha=>as a (List.mem_cons_of_mem _ ha)) (fun a ha b hb=>t2 a (List.mem_cons_of_mem _ ha) b (List.mem_cons_of_mem _ hb))
  unfold insA at ih ⊢
  by_cases c:A x q=true
  ·rw [List.countP_cons_of_pos (p:=fun r=>A r q) (l:=S) c,List.insertIdx_succ_cons]
   refine List.pairwise_cons.mpr ⟨fun y hy=>?_,ih⟩
   rcases List.mem_cons.mp ((insertIdx_perm q S _ List.countP_le_length).mem_iff.mp hy) with rfl | hy
   ·exact c
   ·exact h1 y hy
  ·have qx:A q x=true:=(tt x List.mem_cons_self).resolve_left c
   have none:S.countP (fun r=>A r q)=0:=by
    rw [List.countP_eq_zero]
    intro y hy z
    have:=t2 x List.mem_cons_self y (List.mem_cons_of_mem _ hy) qx (h1 y hy)
    rw [as y (List.mem_cons_of_mem _ hy) z] at this
    cases this
   rw [List.countP_cons_of_neg (p:=fun r=>A r q) (l:=S) c,none,List.insertIdx_zero]
   refine List.pairwise_cons.mpr ⟨fun y hy=>?_,h⟩
   rcases List.mem_cons.mp hy with rfl | hy
   ·exact qx
   ·exact t2 x List.mem_cons_self y (List.mem_cons_of_mem _ hy) qx (h1 y hy)
theorem Tot.asym {A:Nat→Nat→Bool} {row:List Nat} (T:Tot A row) {q r:Nat} (hq:q∈row) (hr:r∈row) (h:A q r=true):A r q=false:=by
 cases c:A r q with
 | false=>rfl
 | true =>
  have:=T.tr q hq r hr q hq h c
  rw [T.irr q hq] at this
  cases this
theorem Tot.of_perm {A:Nat→Nat→Bool} {row row':List Nat} (T:Tot A row) (p:row'.Perm row):Tot A row' :=
 ⟨fun q h=>T.irr q (p.mem_iff.mp h),fun q h1 r h2 w h3=>T.tr q (p.mem_iff.mp h1) r (p.mem_iff.mp h2) w (p.mem_iff.mp h3),fun q h1 r h2=>T.tot q (p.mem_iff.mp h1) r (p.mem_iff.mp h2),p.nodup_iff.mpr T.nd⟩
theorem Tot.sub {A:Nat→Nat→Bool} {row row':List Nat} (T:Tot A row) (p:row'.Sublist row):Tot A row' :=
 ⟨fun q h=>T.irr q (p.subset h),fun q h1 r h2 w h3=>T.tr q (p.subset h1) r (p.subset h2) w (p.subset h3),fun q h1 r h2=>T.tot q (p.subset h1) r (p.subset h2),T.nd.sublist p⟩
theorem srtA_inT {A:Nat→Nat→Bool}:∀ (n:Nat) {row:List Nat},row.length=n→Tot A row→InT A (srtA A row)
 | 0,row,h,_=>by rw [List.length_eq_zero_iff.mp h];exact List.Pairwise.nil
 | n+1,row,h,T=>by
  rcases List.eq_nil_or_concat row with rfl | ⟨r,q,rfl⟩
  ·simp at h
  ·rw [List.concat_eq_append] at h T ⊢
   rw [srtA_snoc]
   have lr:r.length=n:=by rw [List.length_append] at h;simpa using h
   have ih:=srtA_inT n lr (T.sub (List.sublist_append_left r [q]))
   have mem:∀ {x},x∈srtA A r→x∈r++[q]:=fun {x} hx=>List.mem_append_left _ ((srtA_perm A n r lr).mem_iff.mp hx)
   have hq:q∈r++[q]:=List.mem_append_right _ (List.mem_singleton.mpr rfl)
   have ne:∀ {x},x∈srtA A r→x≠q:=fun {x} hx z=>by
    subst z
    have hx:=(srtA_perm A n r lr).mem_iff.mp hx
    have:=T.nd
    rw [List.nodup_append] at this
    exact this.2.2 x hx x (List.mem_singleton.mpr rfl) rfl
   exact insA_inT ih (fun x hx y hy=>T.tr x (mem hx) y (mem hy) q hq) (fun x hx=>T.tot x (mem hx) q hq (ne hx)) (fun x hx=>T.asym (mem hx) hq) fun x hx y hy=>T.tr q hq x (mem hx) y (mem hy)
/-- how many are ahead tells where it stands -/
theorem InT.count {A:Nat→Nat→Bool}:∀ {S:List Nat} {i q:Nat},Tot A S→InT A S→S[i]?=some q→S.countP (fun r=>A r q)=i
 | x::S,0,q,T,h,e=>by
  cases e
  obtain ⟨h1,h2⟩:=List.pairwise_cons.mp h
  rw [List.countP_eq_zero]
  intro y hy z
  rcases List.mem_cons.mp hy with rfl | hy'
  ·rw [T.irr y hy] at z;cases z
  ·rw [T.asym List.mem_cons_self hy (h1 y hy')] at z;cases z
 | x::S,i+1,q,T,h,e=>by
  obtain ⟨h1,h2⟩:=List.pairwise_cons.mp h
  have hq:q∈S:=List.mem_of_getElem? (i:=i) e
  rw [List.countP_cons_of_pos (p:=fun r=>A r q) (l:=S) (h1 q hq),InT.count (T.sub (List.sublist_cons_self x S)) h2 e]
theorem InT.uniq {A:Nat→Nat→Bool} {S S':List Nat} (T:Tot A S) (h:InT A S) (h':InT A S') (p:S'.Perm S):S'=S:=by
 have T':=T.of_perm p
 refine List.ext_getElem? fun i=>?_
 have go:∀ {S S':List Nat},Tot A S→Tot A S'→InT A S→InT A S'→S'.Perm S→∀ (i q:Nat),S[i]?=some q→S'[i]?=some q:=fun {S S'} T T' h h' p i q e=>by
  obtain ⟨j,hj⟩:=List.mem_iff_getElem?.mp (p.mem_iff.mpr (List.mem_of_getElem? e))
  have a:=h.count T e
  have b:=h'.count T' hj
  rw [p.countP_eq,a] at b
  rw [b]
  exact hj
 cases e:S[i]? with
 | some q=>exact go T T' h h' p i q e
 | none =>
  cases e':S'[i]? with
  | none=>rfl
  | some q=>rw [go T' T h' h p.symm i q e'] at e;cases e
end Ang
set_option Elab.async false
set_option linter.all false
set_option maxRecDepth 100000
set_option maxHeartbeats 4000000
namespace L2
open PySem PySem.Spec PyProof.Rows
section
variable {prog:Program} {w:World} {A:Around} {R:Result→Shared→Prop} {I:Addr} {fp wr:List Addr} {n:Nat} {P:Nat→Value→Prop} {St:Nat→Heap→Prop}
/-- a comparison that reads the heap -/
def CmpH (prog:Program) (w:World) (A:Around) (C:Heap→Prop) (P:Nat→Value→Prop) (bt:Nat→Nat→Bool):Prop :=
 ∀ i j vi vj (s:Shared) (Q:Value→Shared→Prop) (E:Value→Shared→Prop),C s.heap→P i vi→P j vj→Q (.bool (bt i j)) s→wpAny (model prog w) A (richCompare .Lt vi vj) Q E s
theorem min_loopH (W:Walks prog w A.in1 I fp wr n P St) (bt:Nat→Nat→Bool) (C:Heap→Prop) (hcmp:CmpH prog w A.in1 C P bt) (S:Addr) (hSf:S∉fp)
  (hC:∀ h h':Heap,C h→(∀ b o,b∉wr→b≠S→h.get? b=some o→h'.get? b=some o)→C h') :
  ∀ (k j:Nat) (s:Shared) (vb:Value) (c:Nat),n-(j+1)=k→j+1≤n→St (j+1) s.heap→C s.heap→P (argBest bt j) vb →
  s.heap.get? S=some { cls:=.type "list",dict:=none,data:=.seq #[vb,vb] c,slots:=#[] } →
  (∀ v h' tk,P (argBest bt (n-1)) v→(∀ b o,b∉wr→b≠S→s.heap.get? b=some o→h'.get? b=some o)→R (.ok (.ret v)) { s with heap:=h',toks:=tk }) →
  codeAny (model prog w) A (.builtin "min.loop" ⟨[.ref I,.none,.ref S],[]⟩) R s:=by
 have hSw:S∉wr:=fun h=>hSf (W.sub _ h)
 have hname:(toString "min"++toString ".loop" : String) = "min.loop":=by decide
 intro k
 induction k with
 | zero =>
  intro j s vb c hk hj hst hc0 hPb hS hR
  have hin:j+1=n:=by omega
  refine codeAny_builtin PySem.F.entry_min_loop ?_
  rw [Around.under_plainId PySem.F.plain_min_loop _]
  show wpAny _ A.in1 (seqItems? (.ref S) >>= _) _ _ s
  refine wpAny_bind (wpAny_seqItems hS rfl ?_)
  show wpAny _ A.in1 (tryCatch (pyNext (.ref I)) _ >>= _) _ _ s
  refine wpAny_bind (wpAny_tryCatch (W.done s _ _ (hin ▸ hst) fun h' tk hk'=>?_))
  have hS':=hk' S _ hSw hS
  show wpAny _ A.in1 (updateSeq S (fun _=>#[]) >>= _) _ _ _
  refine wpAny_bind ?_
  refine wpAny_updateSeq hS' rfl (wpAny_bind (wpAny_letGo (wpAny_pure ?_)))
  refine hR vb _ tk (by rw [←hin];exact hPb) fun b o hbw hbS e=>(Heap.get?_update_other _ _ (Ne.symm hbS)).trans (hk' b o hbw e)
 | succ k ih =>
  intro j s vb c hk hj hst hc0 hPb hS hR
  have hlt:j+1<n:=by omega
  refine codeAny_builtin PySem.F.entry_min_loop ?_
  rw [Around.under_plainId PySem.F.plain_min_loop _]
  show wpAny _ A.in1 (seqItems? (.ref S) >>= _) _ _ s
  refine wpAny_bind (wpAny_seqItems hS rfl ?_)
  show wpAny _ A.in1 (tryCatch (pyNext (.ref I)) _ >>= _) _ _ s
  refine wpAny_bind (wpAny_tryCatch (W.item (j+1) s _ _ hlt hst fun v h' tk hP hst' hk'=>?_))
  have hS':=hk' S _ hSw hS
  have hc1:=hC _ h' hc0 fun b o hb _ e=>hk' b o hb e
  show wpAny _ A.in1 (tryCatch (holding [v,v] (richCompare .Lt v vb >>= _)) _ >>= _) _ _ _
  refine wpAny_bind (wpAny_tryCatch (wpAny_holding (wpAny_bind (hcmp (j+1) (argBest bt j) v vb _ _ _ hc1 hP hPb ?_))))
  refine wpAny_bind (wpAny_holding (wpAny_truthy_bool ?_))
  refine wpAny_bind (wpAny_letGo (wpAny_pure ?_))
  cases hb:bt (j+1) (argBest bt j) with
  | true =>
   simp only [if_true]
   refine wpAny_bind ?_
   refine wpAny_updateSeq hS' rfl (wpAny_bind (wpAny_letGo ?_))
   rw [hname]
   refine wpAny_pure ⟨plainId_quiet PySem.F.plain_min_loop _,ih (j+1) _ v _ (by omega) hlt (W.frame _ _ _ hst' fun b hbf o e=>?_) (hC _ _ hc1 fun b o _ hbS e=>(Heap.get?_update_other _ _ (Ne.symm hbS)).trans e) (by simp only [argBest,hb,if_true];exact hP) (Heap.get?_update_self _ hS' rfl)
    fun v' h'' tk'' hP' hk''=>?_⟩
   ·exact (Heap.get?_update_other _ _ (fun h:S=b=>hSf (by rw [h];exact hbf))).trans e
   ·exact hR v' h'' tk'' hP' fun b o hbw hbS e=>hk'' b o hbw hbS ((Heap.get?_update_other _ _ (Ne.symm hbS)).trans (hk' b o hbw e))
  | false =>
   simp only [Bool.false_eq_true,if_false]
   refine wpAny_bind (wpAny_letGo ?_)
   rw [hname]
   refine wpAny_pure ⟨plainId_quiet PySem.F.plain_min_loop _,ih (j+1) _ vb c (by omega) hlt hst' hc1 (by simp only [argBest,hb,Bool.false_eq_true,if_false];exact hPb) hS' fun v' h'' tk'' hP' hk''=>?_⟩
   exact hR v' h'' tk'' hP' fun b o hbw hbS e=>hk'' b o hbw hbS (hk' b o hbw e)
theorem min_firstH (W:Walks prog w A.in1 I fp wr n P St) (bt:Nat→Nat→Bool) (C:Heap→Prop) (hcmp:CmpH prog w A.in1 C P bt) (S:Addr) (hSf:S∉fp)
  (hC:∀ h h':Heap,C h→(∀ b o,b∉wr→b≠S→h.get? b=some o→h'.get? b=some o)→C h') (hn:0<n) {s:Shared} {c:Nat} (hst:St 0 s.heap) (hc0:C s.heap)
  (hS:s.heap.get? S=some { cls:=.type "list",dict:=none,data:=.seq #[] c,slots:=#[] })
  (hR:∀ v h' tk,P (argBest bt (n-1)) v→(∀ b o,b∉wr→b≠S→s.heap.get? b=some o→h'.get? b=some o)→R (.ok (.ret v)) { s with heap:=h',toks:=tk }) :
  codeAny (model prog w) A (.builtin "min.loop" ⟨[.ref I,.none,.ref S],[]⟩) R s:=by
 have hSw:S∉wr:=fun h=>hSf (W.sub _ h)
 have hname:(toString "min"++toString ".loop" : String) = "min.loop":=by decide
 refine codeAny_builtin PySem.F.entry_min_loop ?_
 rw [Around.under_plainId PySem.F.plain_min_loop _]
 show wpAny _ A.in1 (seqItems? (.ref S) >>= _) _ _ s
 refine wpAny_bind (wpAny_seqItems hS rfl ?_)
 show wpAny _ A.in1 (tryCatch (pyNext (.ref I)) _ >>= _) _ _ s
 refine wpAny_bind (wpAny_tryCatch (W.item 0 s _ _ hn hst fun v h' tk hP hst' hk'=>?_))
 have hS':=hk' S _ hSw hS
 show wpAny _ A.in1 (updateSeq S (fun _=>#[v,v]) >>= _) _ _ _
 refine wpAny_bind ?_
 refine wpAny_updateSeq hS' rfl ?_
 rw [hname]
 refine wpAny_pure ⟨plainId_quiet PySem.F.plain_min_loop _,min_loopH W bt C hcmp S hSf hC _ 0 _ v _ rfl hn (W.frame _ _ _ hst' fun b hbf o e=>?_) (hC _ _ hc0 fun b o hbw hbS e=>(Heap.get?_update_other _ _ (Ne.symm hbS)).trans (hk' b o hbw e)) hP (Heap.get?_update_self _ hS' rfl) fun v' h'' tk'' hP' hk''=>?_⟩
 ·exact (Heap.get?_update_other _ _ (fun h:S=b=>hSf (by rw [h];exact hbf))).trans e
 ·exact hR v' h'' tk'' hP' fun b o hbw hbS e=>hk'' b o hbw hbS ((Heap.get?_update_other _ _ (Ne.symm hbS)).trans (hk' b o hbw e))
theorem min_walkH {s:Shared} {E:Value→Shared→Prop} {x:Value} {Q:Value→Shared→Prop}
  (h:wpAny (model prog w) A.in1 (pyIter x) (fun it s₂=>∃ I fp wr n P St bt C,it=.ref I∧Walks prog w A.in1 I fp wr n P St∧St 0 s₂.heap∧C s₂.heap∧(∀ b∈fp,b<s₂.heap.objs.size)∧0<n∧CmpH prog w A.in1 C P bt ∧
   (∀ h h':Heap,C h→(∀ b o,b∉wr→b≠s₂.heap.objs.size→h.get? b=some o→h'.get? b=some o)→C h') ∧
   ∀ v h' tk,P (argBest bt (n-1)) v→(∀ b o,b∉wr→s₂.heap.get? b=some o→h'.get? b=some o)→Q v { s₂ with heap:=h',toks:=tk }) E s) :
  wpAny (model prog w) A (call (.builtin "min") [x]) Q E s:=by
 have hname:(toString "min"++toString ".loop" : String) = "min.loop":=by decide
 refine call_function_tree PySem.F.kind_min PySem.F.plain_min PySem.F.entry_min (PySem.F.args_min1 _) ?_
 show wpAny _ A.in1 (Builtin.Builtins.bindParams "min" ["key","default"] 0 ⟨[],[]⟩ >>= _) _ _ s
 refine wpAny_bind (wpAny_of_eq (show Builtin.Builtins.bindParams "min" ["key","default"] 0 ⟨[],[]⟩=pure [none,none] from rfl) ?_)
 refine wpAny_bind (wpAny_pure ?_)
 refine wpAny_bind (wpAny_mono h (fun it s₂ h₂=>?_) fun _ _ e=>e)
 obtain ⟨I,fp,wr,n,P,St,bt,C,rfl,W,hst,hc0,hfp,hn,hcmp,hC,hQ⟩:=h₂
 refine wpAny_bind (wpAny_newObj_type ?_)
 have hSf:s₂.heap.objs.size∉fp:=fun hm=>Nat.lt_irrefl _ (hfp _ hm)
 rw [hname]
 refine wpAny_pure ⟨plainId_quiet PySem.F.plain_min_loop _,min_firstH W bt C hcmp s₂.heap.objs.size hSf hC hn (W.frame _ _ _ hst fun b _ o e=>Heap.get?_push_of_some _ e) (hC _ _ hc0 fun b o _ _ e=>Heap.get?_push_of_some _ e) (Heap.get?_push_size _ rfl) fun v h' tk hP hk=>?_⟩
 exact hQ v h' tk hP fun b o hbw e=>hk b o hbw (Nat.ne_of_lt (Heap.lt_size e)) (Heap.get?_push_of_some _ e)
end
def ltP (a b:Int×Int):Bool:=decide (a.1<b.1∨(a.1=b.1∧a.2<b.2))
theorem best_ltP (f:Nat→Int×Int):∀ n,argBest (fun i j=>ltP (f i) (f j)) n≤n∧∀ i,i≤n→ltP (f i) (f (argBest (fun i j=>ltP (f i) (f j)) n))=false
 | 0=>⟨Nat.le_refl _,fun i hi=>by
  obtain rfl:i=0:=by omega
  show ltP (f 0) (f 0)=false
  unfold ltP
  exact decide_eq_false (by omega)⟩
 | n+1=>by
  obtain ⟨a,b⟩:=best_ltP f n
  have e:argBest (fun i j=>ltP (f i) (f j)) (n+1)=if ltP (f (n+1)) (f (argBest (fun i j=>ltP (f i) (f j)) n))=true then n+1 else argBest (fun i j=>ltP (f i) (f j)) n:=rfl
  rw [e]
  generalize argBest (fun i j=>ltP (f i) (f j)) n=m at *
  by_cases c:ltP (f (n+1)) (f m)=true
  ·rw [if_pos c]
   refine ⟨Nat.le_refl _,fun i hi=>?_⟩
   rcases (by omega:i=n+1∨i≤n) with rfl | hi
   ·unfold ltP;exact decide_eq_false (by omega)
   ·have:=b i hi
    unfold ltP at this c ⊢
    have c:=of_decide_eq_true c
    have:=of_decide_eq_false this
    exact decide_eq_false (by omega)
  ·rw [if_neg c]
   refine ⟨by omega,fun i hi=>?_⟩
   rcases (by omega:i=n+1∨i≤n) with rfl | hi
   ·exact Bool.eq_false_iff.mpr c
   ·exact b i hi
inductive call_minPY (K:PySem.W.Frag) (xs:List V) (H:Hp) (Q:VK):Prop
 | mk:∀ (a:Addr) (ps:List Addr) (ns:List (Int×Int)),(xs=[.ref a])→(H a=some (.lst (ps.map V.ref)))→(ps.length=ns.length)→(∀ (i:Nat) (p:Addr) (x:Int×Int),ps[i]?=some p→ns[i]?=some x→H p=some (.tup [.int x.1,.int x.2]))→(0<ns.length) →
   (∀ (k:Nat) (p:Addr) (x:Int×Int),ps[k]?=some p→ns[k]?=some x→(∀ y∈ns,ltP y x=false)→Q (.ref p) H)→call_minPY K xs H Q
theorem lexLt_pair (a b:Int×Int):HT.lexLt [a.1,a.2] [b.1,b.2]=ltP a b:=by
 unfold ltP
 rw [HT.lexLt_cons,HT.lexLt_cons,HT.lexLt_nil_nil]
 by_cases c:a.1=b.1
 ·rw [if_pos c]
  by_cases d:a.2=b.2
  ·rw [if_pos d]
   exact (decide_eq_false (by omega)).symm
  ·rw [if_neg d]
   congr 1
   rw [eq_iff_iff]
   omega
 ·rw [if_neg c]
  congr 1
  rw [eq_iff_iff]
  omega
section
variable {X:Cx}
theorem call_minP (hc:X.calm=true) (hu:X.A.units+64<cLine):CallR X (.builtin "min") (call_minPY X.K):=by
 intro pins s σ H xs us Q I r h
 obtain ⟨a,ps,ns,rfl,ha,l,hp,hne,q⟩:=h
 obtain ⟨u,rfl,r1⟩:=vals1 r
 cases r1
 obtain ⟨its,rv,ht,hz⟩:=I.list (SqL.of ha)
 have hl:=ht.isList
 have li:its.length=ps.length:=by have:=rv.length;rw [List.length_map] at this;omega
 have hne':a≠s.heap.objs.size:=by obtain ⟨o,e,_⟩:=hl;exact Nat.ne_of_lt (Heap.lt_size e)
 have at_:∀ (i:Nat) (v:Value),its[i]?=some v→∃ p x,ps[i]?=some p∧ns[i]?=some x∧v=.ref p:=fun i v e=>by
  have hi:=(List.getElem?_eq_some_iff.mp e).1
  have e1:ps[i]?=some ps[i]:=List.getElem?_eq_getElem (by omega)
  have e2:ns[i]?=some ns[i]:=List.getElem?_eq_getElem (by omega)
  obtain ⟨w,hw,rw'⟩:=rv.get (x:=V.ref ps[i]) (by rw [List.getElem?_map,e1];rfl)
  rw [e] at hw
  cases hw
  cases rw'
  exact ⟨_,_,e1,e2,rfl⟩
 have tup:∀ (i:Nat) (p:Addr) (x:Int×Int),ps[i]?=some p→ns[i]?=some x→∃ its2:List Value,IsTup s.heap p its2.toArray∧IntsAre its2 [x.1,x.2]:=fun i p x e1 e2=>by
  obtain ⟨its2,r2,p2,_⟩:=I.tuple (SqT.of (K:=X.K) (hp i p x e1 e2))
  exact ⟨its2,p2,intsAre_of (ns:=[x.1,x.2]) r2⟩
 refine min_walkH (wpAny_pyIter_list hl ⟨_,_,_,_,_,_,fun i j=>ltP (ns.getD i (0,0)) (ns.getD j (0,0)),fun h=>∀ (i:Nat) (p:Addr) (x:Int×Int),ps[i]?=some p→ns[i]?=some x→∃ its2:List Value,IsTup h p its2.toArray∧IntsAre its2 [x.1,x.2],rfl,Walks.list (A:=X.A.in1) (I.ok.hd hc) _ a hne' its.toArray,⟨⟨_,Heap.get?_push_size _ rfl,rfl,rfl⟩,hl.push _⟩,?_,?_,?_,?_,?_,fun v h' tk hP hk=>?_⟩)
 ·intro i p x e1 e2
  obtain ⟨its2,p2,i2⟩:=tup i p x e1 e2
  obtain ⟨o,e,r⟩:=p2
  exact ⟨its2,⟨o,Heap.get?_push_of_some _ e,r⟩,i2⟩
 ·intro b hb
  show b<(s.heap.push _).objs.size
  rw [Heap.size_push]
  rcases List.mem_cons.mp hb with rfl | hb
  ·exact Nat.lt_succ_self _
  ·cases List.mem_singleton.mp hb
   obtain ⟨o,e,_⟩:=hl
   exact Nat.lt_succ_of_lt (Heap.lt_size e)
 ·rw [List.size_toArray]
  omega
 ·intro i j vi vj s2 Q2 E2 hC hi hj hQ
  have hi:its[i]?=some vi:=by simpa using hi
  have hj:its[j]?=some vj:=by simpa using hj
  obtain ⟨p,x,e1,e2,rfl⟩:=at_ i vi hi
  obtain ⟨p',x',e3,e4,rfl⟩:=at_ j vj hj
  obtain ⟨a1,b1,c1⟩:=hC i p x e1 e2
  obtain ⟨a2,b2,c2⟩:=hC j p' x' e3 e4
  have g1:ns.getD i (0,0)=x:=by simp [List.getD,e2]
  have g2:ns.getD j (0,0)=x':=by simp [List.getD,e4]
  dsimp only at hQ
  rw [g1,g2,←lexLt_pair] at hQ
  exact HT.lt_tupInts b1 b2 (by simpa using c1) (by simpa using c2) (by show X.A.units+1<cLine;omega) hQ
 ·intro h1 h2 hC hk i p x e1 e2
  obtain ⟨its2,⟨o,e,r⟩,i2⟩:=hC i p x e1 e2
  obtain ⟨_,⟨o',e',_⟩,_⟩:=tup i p x e1 e2
  have lt:=Heap.lt_size e'
  exact ⟨its2,⟨o,hk p o (fun z=>by rw [List.mem_singleton.mp z] at lt;exact Nat.lt_irrefl _ lt) (fun z=>by
   have z:p=(s.heap.push { cls:=.type "list_iterator",data:=.fields #[.ref a,.int 0 0] }).objs.size:=z
   rw [Heap.size_push] at z
   rw [z] at lt
   exact absurd lt (Nat.not_lt.mpr (Nat.le_succ _))) e,r⟩,i2⟩
 ·have hP:its[argBest (fun i j=>ltP (ns.getD i (0,0)) (ns.getD j (0,0))) (its.toArray.size-1)]?=some v:=by simpa using hP
  obtain ⟨p,x,e1,e2,rfl⟩:=at_ _ v hP
  obtain ⟨b1,b2⟩:=best_ltP (fun i=>ns.getD i (0,0)) (its.toArray.size-1)
  refine ⟨.ref p,H,I.kept fun b o e'=>hk b o (fun z=>?_) (Heap.get?_push_of_some _ e'),rfl,q _ p x e1 e2 fun y hy=>?_⟩
  ·rw [List.mem_singleton.mp z] at e'
   exact absurd (Heap.lt_size e') (Nat.lt_irrefl _)
  ·obtain ⟨i,hi,rfl⟩:=List.getElem_of_mem hy
   have g1:ns.getD i (0,0)=ns[i]:=by simp [List.getD,List.getElem?_eq_getElem hi]
   have g2:ns.getD (argBest (fun i j=>ltP (ns.getD i (0,0)) (ns.getD j (0,0))) (its.toArray.size-1)) (0,0)=x:=by rw [List.getD,e2];rfl
   have:=b2 i (by rw [List.size_toArray];omega)
   rw [g1] at this
   rwa [g2] at this
end
end L2
set_option Elab.async false
set_option linter.all false
set_option maxRecDepth 100000
set_option maxHeartbeats 4000000
namespace L2
open PySem PySem.Spec PyProof.Rows
theorem Room.u80 {k:Nat} {A:Around} (r:Room k A):A.units+80<cLine:=by have:=r.un;omega
section
variable {X:Cx}
end
end L2
set_option Elab.async false
set_option linter.all false
set_option maxRecDepth 100000
set_option maxHeartbeats 4000000
namespace L2
open PySem PyProof.Rows
/-- C.__init__(self, thing) -/
inductive spInitT (K:PySem.W.Frag) (attr:Str) (vs:List V) (H:Hp) (Q:VK) (Y:XK):Prop
 | mk:∀ (a C:Addr) (y:V),(vs=[.ref a,y])→(H a=some (.ext (XO a C none .none)))→(Ex.XK0 K C)→(PySem.W.mroIn K C (.type "ValueError")=some true)→(PySem.W.findIn K (.ref C) attr=some none) →
   (∀ d,H d=none→d≠a→Q .non (upd (upd H d (.xd [(attr,y)])) a (.ext (XO a C (some d) .none))))→spInitT K attr vs H Q Y
/-- DrawError, whose __init__ is called by name -/
def DiAt (K:PySem.W.Frag) (st:Stmt):Prop:=∃ (D G:Addr) (gd:FuncData),PySem.W.nsIn K mainGlobals "DrawError" = some (some (.ref D))∧Fun K "__init__" "DrawError.__init__" st G gd∧PySem.W.keepIn K (.ref G)=true ∧
 PySem.W.specialIn K (.ref D) "__getattribute__" = some (some (.builtin "type.__getattribute__"))∧PySem.W.readsIn K D (.type "type")=true∧PySem.W.findCls K (.ref D) (.type "type") "__init__" = some (.val (.ref G))
/-- a class with an own __init__ under DrawError, to be raised -/
def OxAt (K:PySem.W.Frag) (n qn attr:Str) (st:Stmt):Prop:=∃ (C D F:Addr) (fd:FuncData),PySem.W.nsIn K mainGlobals n=some (some (.ref C))∧PySem.W.nsIn K mainGlobals "DrawError" = some (some (.ref D))∧XM K C F∧Fun K "__init__" qn st F fd ∧
 PySem.W.mroIn K C (.type "ValueError")=some true∧PySem.W.mroIn K C (.ref D)=some true∧PySem.W.findIn K (.ref C) attr=some none
section
variable {K:PySem.W.Frag} {C N D F G:Addr} {nm qn n n0 attr:Str} {bs sub:List Value} {sn:List Str} {ab:Bool} {col:Option Bool} {dd:Option Addr} {x0 x1 x2 x3 x5:Option Value}
theorem di_mk {st:Stmt} {oc:Value} {od an:Option Addr} {osl:Array (Option Value)} {kV doc pm cdv ctv:Value} (a:PySem.W.nsIn K mainGlobals "DrawError" = some (some (.ref D))) (dg:PySem.W.specialIn K (.ref D) "__getattribute__" = some (some (.builtin "type.__getattribute__")))
  (dr:PySem.W.readsIn K D (.type "type")=true) (df:PySem.W.findCls K (.ref D) (.type "type") "__init__" = some (.val (.ref G)))
  (fl:K.lookup G=some ⟨oc,od,.func (PySem.W.fnOf "__init__" "DrawError.__init__" (defArgs st) (defBody st) (defScope st) .none kV doc pm an cdv ctv),osl⟩) (fc:PySem.W.codeIn K cdv "DrawError.__init__" = true) (fk:PySem.W.keepIn K (.ref G)=true):DiAt K st :=
 ⟨D,G,_,a,fun_mk fl fc fk,fk,dg,dr,df⟩
theorem ox_mk {st:Stmt} {oc:Value} {od an:Option Addr} {osl:Array (Option Value)} {kV doc pm cdv ctv:Value} (a:PySem.W.nsIn K mainGlobals n=some (some (.ref C))) (d:PySem.W.nsIn K mainGlobals "DrawError" = some (some (.ref D))) (l:K.lookup C=some (excClassObj nm qn C N bs [.ref D,.type "ValueError",.type "Exception",.type "BaseException",.type "object"] true sn sub ab col dd x0 x1 x2 x3 x5 "ValueError.__new__"))
  (t:PySem.W.typeIn K (.ref C)=some (.type "type")) (sa:PySem.W.findIn K (.ref C) "__setattr__" = some (some (.builtin "object.__setattr__"))) (ga:PySem.W.findIn K (.ref C) "__getattribute__" = some (some (.builtin "BaseException.__getattribute__")))
  (gh:PySem.W.findIn K (.ref C) "__getattr__" = some none) (cl:PySem.W.findIn K (.ref C) "__class__" = some (some (.builtin "object.__class__"))) (cg:PySem.W.specialIn K (.builtin "object.__class__") "__get__" = some (some (.builtin "getset_descriptor.__get__")))
  (ct:PySem.W.takesIn K (.builtin "object.__class__")=some true) (na:PySem.W.findIn K (.ref C) attr=some none) (i:PySem.W.findIn K (.ref C) "__init__" = some (some (.ref F))) (f:PySem.W.typeIn K (.ref F)=some (.type "function")) (k:PySem.W.keepIn K (.ref C)=true)
  (fl:K.lookup F=some ⟨oc,od,.func (PySem.W.fnOf "__init__" n0 (defArgs st) (defBody st) (defScope st) .none kV doc pm an cdv ctv),osl⟩) (fc:PySem.W.codeIn K cdv n0=true) (fk:PySem.W.keepIn K (.ref F)=true):OxAt K n n0 attr st:=by
 refine ⟨C,D,F,_,a,d,⟨xk_of l (pass2 _ _) (contB _).1 (contB _).2 t sa ga gh cl cg ct,⟨_,_,_,_,_,_,_,_,_,_,_,_,_,_,_,_,l,up2 _⟩,i,f,k⟩,fun_mk fl fc fk,?_,?_,na⟩
 ·rw [mro_of l,List.contains_cons,(up2 _).b,Bool.or_true]
 ·rw [mro_of l];simp
end
section
variable {P:Program} {w:World} {K:PySem.W.Frag} {mg:Str→Option Value} {base:Heap}
/-- DrawError.__init__, by its promise -/
def DrI (P:Program) (w:World) (K:PySem.W.Frag) (mg:Str→Option Value) (base:Heap):Prop:=∃ (D f:Addr) (fd:FuncData),FnOk P w K mg base CX0 1 f fd ["self","words"] (spInitD K)∧Binds K fd ["self","words"] []∧PySem.W.keepIn K (.ref f)=true∧mg "DrawError" = some (.ref D) ∧
  PySem.W.specialIn K (.ref D) "__getattribute__" = some (some (.builtin "type.__getattribute__"))∧PySem.W.readsIn K D (.type "type")=true∧PySem.W.findCls K (.ref D) (.type "type") "__init__" = some (.val (.ref f))
theorem di_of {st:Stmt} (X:∃ h:Heap,K.In h∧h.Ns mainGlobals mg) (d:DiAt K st) (xg:XgAt K)
  (ok:∀ (f:Addr) (fd:FuncData),Fun K "__init__" "DrawError.__init__" st f fd→mg "ValueError" = none→FnOk P w K mg base CX0 1 f fd ["self","words"] (spInitD K))
  (b:∀ (f:Addr) (fd:FuncData),Fun K "__init__" "DrawError.__init__" st f fd→Binds K fd ["self","words"] []):DrI P w K mg base:=by
 obtain ⟨h,x,g⟩:=X
 obtain ⟨D,G,gd,a,F,k,h1,h2,h3⟩:=d
 exact ⟨D,G,gd,ok G gd F (PySem.W.mg_none_of x g xg.zv),b G gd F,k,PySem.W.mg_of x g a,h1,h2,h3⟩
theorem ox_of {n qn attr p:Str} {st:Stmt} (X:∃ h:Heap,K.In h∧h.Ns mainGlobals mg) (d:OxAt K n qn attr st) (di:DrI P w K mg base)
  (ok:∀ (f:Addr) (fd:FuncData),Fun K "__init__" qn st f fd→DrI P w K mg base→FnOk P w K mg base CX0 2 f fd ["self",p] (spInitT K attr))
  (b:∀ (f:Addr) (fd:FuncData),Fun K "__init__" qn st f fd→Binds K fd ["self",p] []) :
  ∃ (C D F:Addr) (fd:FuncData),mg n=some (.ref C)∧mg "DrawError" = some (.ref D)∧XM K C F∧FnOk P w K mg base CX0 2 F fd ["self",p] (spInitT K attr)∧Binds K fd ["self",p] []∧PySem.W.mroIn K C (.type "ValueError")=some true∧PySem.W.mroIn K C (.ref D)=some true∧PySem.W.findIn K (.ref C) attr=some none:=by
 obtain ⟨h,x,g⟩:=X
 obtain ⟨C,D,F,fd,a1,a2,m,fn,v1,v2,na⟩:=d
 exact ⟨C,D,F,fd,PySem.W.mg_of x g a1,PySem.W.mg_of x g a2,m,ok F fd fn di,b F fd fn,v1,v2,na⟩
end
theorem PS.nox {X:Cx} {st:Stmt} {t:TS} (h:PS X.nox st t):PS X st t:=fun pins s σ H D I hw =>
 wpAny_mono (h pins s σ H D (I.wish _) hw) (fun _ _ q=>q.unwish) fun _ _ z=>False.elim z
end L2
set_option Elab.async false
set_option linter.all false
set_option maxRecDepth 100000
set_option maxHeartbeats 4000000
namespace Dcv
open PySem PySem.Spec PyProof.Rows L2 Dcl
/-- a zip on its way into a dict -/
def Zst (h:Heap) (a b z TI TO i1 i2:Addr) (i:Nat):Prop :=
 ((IsZip h z TI TO .none∧∃ u v,IsPair h TO u v)∨∃ T f1,ZipH h z TI TO T f1∧∃ o,h.get? T=some o)∧IsPair h TI (.ref i1) (.ref i2)∧ItOf true h i1 a i∧ItOf false h i2 b i
section
variable {prog:Program} {w:World} {A:Around} {E:Value→Shared→Prop} {s:Shared} {a b z TI TO i1 i2:Addr} {j:Nat} {xs ys:Array Value}
theorem zst_item {Q:Option Value→Shared→Prop} (hh:A.handled=none) (ap:ZAp z TI TO i1 i2 [i1,a] [i2,b]) (st:Zst s.heap a b z TI TO i1 i2 j) (p1:SqOf true s.heap a xs) (p2:SqOf false s.heap b ys) {u v:Value} (hu:xs[j]?=some u) (hv:ys[j]?=some v)
  (hQ:∀ h' tk,Zst h' a b z TI TO i1 i2 (j+1)→IsPair h' s.heap.objs.size u v→(∀ c o,c∉[z,TO,i1,i2]→s.heap.get? c=some o→h'.get? c=some o)→Q (some (.ref s.heap.objs.size)) { s with heap:=h',toks:=tk }) :
  wpAny (model prog w) A (pyNext (.ref z)) Q E s:=by
 obtain ⟨st,hTI,h1,h2⟩:=st
 have D1:=draws_sq (prog:=prog) (w:=w) (A:=A.in1) hh true i1 a (sq_it p1 h1) xs
 have D2:=draws_sq (prog:=prog) (w:=w) (A:=A.in1) hh false i2 b (sq_it p2 h2) ys
 have l1:j<xs.size:=(Array.getElem?_eq_some_iff.mp hu).1
 have l2:j<ys.size:=(Array.getElem?_eq_some_iff.mp hv).1
 have nm:∀ {c:Addr},c∉[z,TO,i1,i2]→c≠z∧c≠TO∧c≠i1∧c≠i2:=fun {c} q=>by
  simp only [List.mem_cons,List.not_mem_nil,or_false,not_or] at q
  exact q
 unfold pyNext
 rcases st with ⟨hz,u0,v0,hTO⟩ | ⟨T,f1,hz,hT⟩
 ·have hT:s.TypeIs (.ref z) "zip":=⟨_,hz,rfl⟩
  refine wpAny_bind (wpAny_attempt (wpAny_callSpecial?_slot (name:=Str.ofString "__next__") hT F.slot_zip_next (wpAny_call_entry F.slot_zip_next hT F.entry_zip_next
   (zipD_item D1 D2 ap hz hTI hTO ⟨h1,p1⟩ ⟨h2,p2⟩ l1 l2 fun u' v' h' tk hu' hv' z' o' s1' s2' t' hk=>wpAny_pure ?_) (F.args_zip_next_1 _))))
  rw [hu] at hu'
  rw [hv] at hv'
  cases hu'
  cases hv'
  refine hQ h' tk ⟨.inr ⟨_,false,z',_,t'⟩,hk _ _ ap.zTI.symm ap.TITO ap.TIi1 ap.TIi2 hTI,s1'.1,s2'.1⟩ t' fun c o hc e=>?_
  obtain ⟨q1,q2,q3,q4⟩:=nm hc
  exact hk c o q1 q2 q3 q4 e
 ·have hT':s.TypeIs (.ref z) "zip":=⟨_,hz,rfl⟩
  refine wpAny_bind (wpAny_attempt (wpAny_callSpecial?_slot (name:=Str.ofString "__next__") hT' F.slot_zip_next (wpAny_call_entry F.slot_zip_next hT' F.entry_zip_next
   (zipD_item2 D1 D2 ap hz hT hTI ⟨h1,p1⟩ ⟨h2,p2⟩ l1 l2 fun u' v' h' tk hu' hv' z' s1' s2' t' hk=>wpAny_pure ?_) (F.args_zip_next_1 _))))
  rw [hu] at hu'
  rw [hv] at hv'
  cases hu'
  cases hv'
  obtain ⟨o,ho⟩:=hT
  refine hQ h' tk ⟨?_,hk _ _ ap.zTI.symm ap.TIi1 ap.TIi2 hTI,s1'.1,s2'.1⟩ t' fun c o hc e=>?_
  ·refine .inr ⟨T,true,z',?_⟩
   by_cases c1:T=z
   ·exact ⟨_,by rw [c1];exact z'⟩
   ·by_cases c2:T=i1
    ·obtain ⟨o,e,_⟩:=s1'.1.live
     exact ⟨o,c2 ▸ e⟩
    ·by_cases c3:T=i2
     ·obtain ⟨o,e,_⟩:=s2'.1.live
      exact ⟨o,c3 ▸ e⟩
     ·exact ⟨o,hk T o c1 c2 c3 ho⟩
  ·obtain ⟨q1,q2,q3,q4⟩:=nm hc
   exact hk c o q1 q3 q4 e
theorem zst_end {Q:Option Value→Shared→Prop} (hh:A.handled=none) (ap:ZAp z TI TO i1 i2 [i1,a] [i2,b]) (st:Zst s.heap a b z TI TO i1 i2 xs.size) (p1:SqOf true s.heap a xs)
  (hQ:∀ h',(∀ c o,c∉[z,TO,i1,i2]→s.heap.get? c=some o→h'.get? c=some o)→Q none { s with heap:=h' }) :
  wpAny (model prog w) A (pyNext (.ref z)) Q E s:=by
 obtain ⟨st,hTI,h1,h2⟩:=st
 have D1:=draws_sq (prog:=prog) (w:=w) (A:=A.in1) hh true i1 a (sq_it p1 h1) xs
 have nm:∀ {c:Addr},c∉[z,TO,i1,i2]→c≠z∧c≠TO∧c≠i1∧c≠i2:=fun {c} q=>by
  simp only [List.mem_cons,List.not_mem_nil,or_false,not_or] at q
  exact q
 unfold pyNext
 rcases st with ⟨hz,u0,v0,hTO⟩ | ⟨T,f1,hz,hT⟩
 ·have hT:s.TypeIs (.ref z) "zip":=⟨_,hz,rfl⟩
  refine wpAny_bind (wpAny_attempt (wpAny_callSpecial?_slot (name:=Str.ofString "__next__") hT F.slot_zip_next (wpAny_call_entry F.slot_zip_next hT F.entry_zip_next
   (zipD_end D1 ap hz hTI hTO ⟨h1,p1⟩ fun h' e hk he=>?_) (F.args_zip_next_1 _))))
  obtain ⟨o,ho,hcl⟩:=he
  refine wpAny_bind (wpAny_isInstance (T:="StopIteration") (b:=true) ⟨o,ho,hcl⟩ isSubtype_stop (wpAny_pure (hQ h' fun c o hc e=>?_)))
  obtain ⟨q1,q2,q3,q4⟩:=nm hc
  exact hk c o q1 q2 q3 q4 e
 ·have hT':s.TypeIs (.ref z) "zip":=⟨_,hz,rfl⟩
  refine wpAny_bind (wpAny_attempt (wpAny_callSpecial?_slot (name:=Str.ofString "__next__") hT' F.slot_zip_next (wpAny_call_entry F.slot_zip_next hT' F.entry_zip_next
   (zipD_end2 D1 ap hz hT hTI ⟨h1,p1⟩ fun h' e hk he=>?_) (F.args_zip_next_1 _))))
  obtain ⟨o,ho,hcl⟩:=he
  refine wpAny_bind (wpAny_isInstance (T:="StopIteration") (b:=true) ⟨o,ho,hcl⟩ isSubtype_stop (wpAny_pure (hQ h' fun c o hc e=>?_)))
  obtain ⟨q1,q2,q3,q4⟩:=nm hc
  exact hk c o q1 q3 e
end
section
variable {X:Cx} {pins:List (Addr×Obj)} {σ:L2.St} {A:Around} {R:Result→Shared→Prop}
theorem dict_loopZ (hh:A.handled=none) {a b D z TI TO i1 i2:Addr} {H:Hp} {ps:List (Key×V)} (ap:ZAp z TI TO i1 i2 [i1,a] [i2,b]) (ha:H a=some (.lst (ps.map fun p=>kV p.1))) (hb:H b=some (.tup (ps.map fun p=>p.2))) (nD:H D=none) (few:ps.length≤1000)
  (fp:∀ kvs,∀ c∈[z,TO,i1,i2],FpOk X pins (upd H D (.dK kvs)) c) (dz:∀ c∈[z,TO,i1,i2,TI],c≠D) :
  ∀ (m i:Nat) (s:Shared),i+m=ps.length→L2.Inv X pins σ (upd H D (.dK (foldP (ps.take i)))) s→Zst s.heap a b z TI TO i1 i2 i→(∀ s',L2.Inv X pins σ (upd H D (.dK (foldP ps))) s'→R (.ok (.ret .none)) s') →
   codeAny (model X.prog X.w) A (.builtin "dict.update.loop" ⟨[.ref D,.ref z,rawInt (i:Int),.none],[]⟩) R s:=by
 have haD:a≠D:=ne_of_none ha nD
 have hbD:b≠D:=ne_of_none hb nD
 intro m
 induction m with
 | zero =>
  intro i s him I st k
  have ei:i=ps.length:=by omega
  subst ei
  rw [List.take_length] at I
  refine codeAny_builtin entry_loop ?_
  rw [Around.under_plainId plain_loop]
  obtain ⟨its,rv,p⟩:=I.sq (k:=true) (SqL.of (by rw [upd_ne haD];exact ha))
  have lr:=rv.length
  rw [List.length_map] at lr
  unfold Builtin.«dict.update.loop» rawInt
  dsimp only
  refine wpAny_bind (zst_end (xs:=its.toArray) (show A.in1.handled=none from hh) ap (by rw [List.size_toArray,←lr];exact st) p fun h' hk=>?_)
  have I1:L2.Inv X pins σ (upd H D (.dK (foldP ps))) { s with heap:=h' }:=I.turnedL (t':=s.toks) (ch:=[z,TO,i1,i2]) hk (fp _)
  dsimp only
  unfold Builtin.Dict.addKeywords
  refine wpAny_bind (wpAny_bind (m:=pure PUnit.unit) (wpAny_pure (wpAny_pure (wpAny_pure ?_))))
  exact k _ I1
 | succ m ih =>
  intro i s him I st k
  refine codeAny_builtin entry_loop ?_
  rw [Around.under_plainId plain_loop]
  obtain ⟨its,rv,p⟩:=I.sq (k:=true) (SqL.of (by rw [upd_ne haD];exact ha))
  obtain ⟨its2,rv2,p2⟩:=I.sq (k:=false) (SqT.of (by rw [upd_ne hbD];exact hb))
  have ep:=List.getElem?_eq_getElem (l:=ps) (i:=i) (by omega)
  generalize ps[i]=kv at *
  obtain ⟨u,hu,ru⟩:=rv.get (x:=kV kv.1) (i:=i) (by rw [List.getElem?_map,ep];rfl)
  obtain ⟨v,hv,rv'⟩:=rv2.get (x:=kv.2) (i:=i) (by rw [List.getElem?_map,ep];rfl)
  unfold Builtin.«dict.update.loop» rawInt
  dsimp only
  refine wpAny_bind (zst_item (xs:=its.toArray) (ys:=its2.toArray) (u:=u) (v:=v) (show A.in1.handled=none from hh) ap st p p2 (by simpa using hu) (by simpa using hv) fun h' tk st' t' hk=>?_)
  have I1:L2.Inv X pins σ (upd H D (.dK (foldP (ps.take i)))) { s with heap:=h',toks:=tk }:=I.turnedL (t':=tk) (ch:=[z,TO,i1,i2]) hk (fp _)
  dsimp only
  refine wpAny_bind (wpAny_holding (wpAny_bind (wpAny_tryCatch ?_)))
  unfold Builtin.Dict.pairItems
  refine wpAny_bind (wpAny_typeOf (T:="tuple") ⟨_,t',rfl⟩ ?_)
  rw [if_pos (by decide)]
  refine wpAny_bind (wpAny_seqItems t' rfl (wpAny_pure ?_))
  show wpAny _ _ (holding [u,v] (dictSet D u v)) _ _ _
  refine wpAny_holding ?_
  obtain ⟨z0,hd,vs,rel,dk⟩:=dk_of I1.hok (upd_same (H:=H) (a:=D) (o:=.dK (foldP (ps.take i))))
  refine wpAny_dictSet_pairs (hsz:=by rw [←rel.length];exact z0) (kV_is ru) dk fun h2 dk2 hs=>?_
  have le1:(putK (foldP (ps.take i)) kv.1 kv.2).length≤sizeLine:=by
   have h1:=length_putK (foldP (ps.take i)) kv.1 kv.2
   have h2:=foldP_le (ps.take i)
   have h3:(ps.take i).length≤1000:=by rw [List.length_take];omega
   exact Nat.le_trans (show _≤1001 by omega) (by decide)
  have I2:=d_write (t':=tk+1) I1 (by rw [upd_same];exact True.intro) hs (let ⟨q,_,_,hq,_⟩:=dk2;⟨q,hq⟩) (dk_new le1 hd (rel.put kv.1 rv') dk2)
  have e2:upd (upd H D (.dK (foldP (ps.take i)))) D (.dK (putK (foldP (ps.take i)) kv.1 kv.2))=upd H D (.dK (foldP (ps.take (i+1)))):=by
   rw [List.take_succ,ep]
   show _=upd H D (.dK (foldP (ps.take i++[kv])))
   rw [foldP_snoc]
   funext b
   unfold upd
   split<;>rfl
  rw [e2] at I2
  refine wpAny_pure ⟨plainId_quiet plain_loop _,?_⟩
  have kk:∀ c o,c≠D→h'.get? c=some o→h2.get? c=some o:=fun c o nc e=>(hs.2 c nc).trans e
  refine ih (i+1) _ (by omega) I2 ?_ k
  obtain ⟨st1,st2,st3,st4⟩:=st'
  refine ⟨?_,kk _ _ (dz _ (by simp)) st2,st3.at fun o e=>kk _ _ (dz _ (by simp)) e,st4.at fun o e=>kk _ _ (dz _ (by simp)) e⟩
  rcases st1 with ⟨q1,x,y,q2⟩ | ⟨T,f1,q1,o,q2⟩
  ·exact .inl ⟨kk _ _ (dz _ (by simp)) q1,x,y,kk _ _ (dz _ (by simp)) q2⟩
  ·refine .inr ⟨T,f1,kk _ _ (dz _ (by simp)) q1,?_⟩
   by_cases c:T=D
   ·subst c
    obtain ⟨q,_,_,hq,_⟩:=dk2
    exact ⟨q,hq⟩
   ·exact ⟨o,kk _ _ c q2⟩
theorem init_zip (hh:A.handled=none) {E:Value→Shared→Prop} {s:Shared} {a b D z TI TO i1 i2:Addr} {H:Hp} {ps:List (Key×V)} (ap:ZAp z TI TO i1 i2 [i1,a] [i2,b]) (ha:H a=some (.lst (ps.map fun p=>kV p.1))) (hb:H b=some (.tup (ps.map fun p=>p.2))) (nD:H D=none) (few:ps.length≤1000)
  (fp:∀ kvs,∀ c∈[z,TO,i1,i2],FpOk X pins (upd H D (.dK kvs)) c) (dz:∀ c∈[z,TO,i1,i2,TI],c≠D) (hz:IsZip s.heap z TI TO .none) (hTO:∃ u v,IsPair s.heap TO u v) (hTI:IsPair s.heap TI (.ref i1) (.ref i2)) (h1:ItOf true s.heap i1 a 0) (h2:ItOf false s.heap i2 b 0)
  (I:L2.Inv X pins σ (upd H D (.dK [])) s) (k:∀ s',L2.Inv X pins σ (upd H D (.dK (foldP ps))) s'→R (.ok (.ret .none)) s') :
  codeAny (model X.prog X.w) A (.call (.builtin "dict.__init__") ⟨[.ref D,.ref z],[]⟩) R s:=by
 obtain ⟨z0,hdS,vs,rel,dk⟩:=dk_of I.hok (upd_same (H:=H) (a:=D) (o:=.dK []))
 have hT:s.TypeIs (.ref D) "dict":=dk.typeIs
 have hL:s.TypeIs (.ref z) "zip":=⟨_,hz,rfl⟩
 refine codeAny_call_builtin F.kt_called_dict.init.plain F.entry_dict_init (F.kt_called_dict.init.check _ _ _ _ _ _ _ _ hT (F.args_dict_init_2 _ _) ?_)
 unfold Builtin.«dict.__init__»
 refine wpAny_bind ?_
 unfold Builtin.Dict.selfAndRest
 refine wpAny_bind (wpAny_notOrdered_dict hT ?_)
 refine wpAny_pure (show wpAny _ _ (Builtin.Dict.updateFrom "dict.__init__" D (.ref z) [] .none) _ _ s from ?_)
 unfold Builtin.Dict.updateFrom
 refine wpAny_bind (wpAny_typeOf hL ?_)
 rw [if_pos (by decide)]
 refine wpAny_bind (no_keysZ hz (show A.in1.handled=none from hh) fun h' tk kp=>?_)
 rw [if_pos (by decide)]
 refine wpAny_bind (wpAny_rule (wpAny_bind ?_))
 have I1:L2.Inv X pins σ (upd H D (.dK [])) { s with heap:=h',toks:=tk }:=I.kept kp
 refine wpAny_pyIter_zip (s:={ s with heap:=h',toks:=tk }) (kp _ _ hz) ?_
 refine wpAny_pure ⟨plainId_quiet plain_loop _,?_⟩
 obtain ⟨u,v,hTO⟩:=hTO
 exact dict_loopZ hh ap ha hb nD few fp dz ps.length 0 _ (by omega) I1 ⟨.inl ⟨kp _ _ hz,u,v,kp _ _ hTO⟩,kp _ _ hTI,h1.at fun o e=>kp _ _ e,h2.at fun o e=>kp _ _ e⟩ k
/-- dict(zip(xs, t)), xs a list of keys, t a tuple as long -/
inductive tDictZY (Q:VK) (vs:List V) (H1:Hp):Prop
 | mk:∀ (a b:Addr) (ps:List (Key×V)),(vs=[.ref a,.ref b])→H1 a=some (.lst (ps.map fun p=>kV p.1))→H1 b=some (.tup (ps.map fun p=>p.2))→ps.length≤1000→(∀ D,H1 D=none→Q (.ref D) (upd H1 D (.dK (foldP ps))))→tDictZY Q vs H1
def tDictZ (ta:TA):TE:=fun σ H Q=>ta σ H fun vs H1=>tDictZY Q vs H1
end
section
variable {X:Cx}
theorem pe_dictZ {a b:Expr} {ta:TA} {p p2 pos pos2:Pos} (hc:X.calm=true) (hg:Gl X "dict") (hm:X.mg "dict" = none) (hg2:Gl X "zip") (hm2:X.mg "zip" = none) (ha:PA X [a,b] ta) (hs:starEach [a,b] X.env=[(false,eval a X.env),(false,eval b X.env)]:=by rfl) (hs1:starEach [b] X.env=[(false,eval b X.env)]:=by rfl)
  (hs2:starEach [.Call (.Name "zip" p2) [a,b] [] pos2] X.env=[(false,eval (.Call (.Name "zip" p2) [a,b] [] pos2) X.env)]:=by rfl):PE X (.Call (.Name "dict" p) [.Call (.Name "zip" p2) [a,b] [] pos2] [] pos) (tDictZ ta):=by
 intro pins s σ H Q I h
 refine Call_ (ld_blt I hg hm boot_dict (PyProof.Rows.callWith_type1 ?_ hs2 rfl))
 refine PyProof.Rows.args_cons (Call_ (ld_blt I hg2 hm2 boot_zip (PyProof.Rows.callWith_type1 (thn (ha pos2 pins s σ H _ I h) fun us s1 ⟨vs,H1,I1,r1,q1⟩=>?_) (by rw [hs,hs1]) (by rw [hs1];rfl))))
 obtain ⟨l1,l2,ps,rfl,ha,hb,few,q⟩:=q1
 obtain ⟨u,v,rfl,r,r'⟩:=vals2 r1
 cases r
 cases r'
 obtain ⟨its1,rv1,p1⟩:=I1.sq (k:=true) (SqL.of ha)
 obtain ⟨its2,rv2,p2⟩:=I1.sq (k:=false) (SqT.of hb)
 have lt1:=p1.lt
 have lt2:=p2.lt
 refine call_zip_sq p1 p2 fun h' hz hTI hTO h1 h2 hk=>?_
 refine PyProof.Rows.args_nil ?_
 have I2:L2.Inv X pins σ H1 { s1 with heap:=h' }:=I1.kept (t':=s1.toks) hk
 have zl:s1.heap.objs.size+4<h'.objs.size:=Heap.lt_size hz
 have nD:H1 h'.objs.size=none:=I2.hok.fresh (Nat.le_refl _)
 have rg:∀ c∈[s1.heap.objs.size+4,s1.heap.objs.size+3,s1.heap.objs.size,s1.heap.objs.size+1,s1.heap.objs.size+2],s1.heap.objs.size≤c∧c≠h'.objs.size:=fun c hc=>by
  simp only [List.mem_cons,List.not_mem_nil,or_false] at hc
  omega
 refine call_dictG (Hf:=fun D=>upd H1 D (.dK (foldP ps))) I2 (fun s2 I3 kp=>?_) q
 exact init_zip (E:=X.xe) (show X.A.in1.handled=none from I1.ok.hd hc) (zap _ _ _ lt1 lt2) ha hb nD few (fun kvs c hc=>by
  obtain ⟨g1,g2⟩:=rg c (List.mem_append_left [_] hc)
  exact I1.fpOk g1 (by rw [upd_ne g2];exact I1.hok.fresh g1)) (fun c hc=>(rg c hc).2) (kp _ _ hz) ⟨_,_,kp _ _ hTO⟩ (kp _ _ hTI) (h1.at fun o e=>kp _ _ e) (h2.at fun o e=>kp _ _ e) I3 fun s' i=>⟨rfl,i⟩
end
end Dcv
set_option linter.all false
set_option Elab.async false
namespace Ang
open PySem L2 Dcl
theorem foldP_mem {ps:List (Key×V)} {k:Key}:(valV (foldP ps) k).isSome↔k∈ps.map (·.1):=by
 have:∀ (n:Nat) (ps:List (Key×V)),ps.length=n→((valV (foldP ps) k).isSome↔k∈ps.map (·.1)):=by
  intro n
  induction n with
  | zero =>
   intro ps h
   rw [List.length_eq_zero_iff.mp h]
   exact Iff.intro (fun z=>by cases z) (fun z=>by cases z)
  | succ n ih =>
   intro ps h
   rcases List.eq_nil_or_concat ps with rfl | ⟨r,p,rfl⟩
   ·simp at h
   rw [List.concat_eq_append] at h ⊢
   have i:=ih r (by rw [List.length_append] at h;simpa using h)
   rw [foldP_snoc,valV_put,List.map_append,List.mem_append,←i]
   by_cases c:k=p.1
   ·rw [if_pos c]
    exact ⟨fun _=>.inr (List.mem_singleton.mpr c),fun _=>rfl⟩
   ·rw [if_neg c]
    exact ⟨.inl,fun z=>z.elim id fun z=>absurd (List.mem_singleton.mp z) c⟩
 exact this _ ps rfl
theorem foldP_id:∀ (n:Nat) (ps:List (Key×V)),ps.length=n→(ps.map (·.1)).Nodup→foldP ps=ps
 | 0,ps,h,_=>by rw [List.length_eq_zero_iff.mp h];rfl
 | n+1,ps,h,nd=>by
  rcases List.eq_nil_or_concat ps with rfl | ⟨r,p,rfl⟩
  ·simp at h
  rw [List.concat_eq_append] at h nd ⊢
  rw [List.map_append,List.nodup_append] at nd
  have i:=foldP_id n r (by rw [List.length_append] at h;simpa using h) nd.1
  rw [foldP_snoc]
  have z:valV (foldP r) p.1=none:=by
   cases c:valV (foldP r) p.1 with
   | none=>rfl
   | some v=>exact absurd rfl (nd.2.2 p.1 (foldP_mem.mp (by rw [c];rfl)) p.1 (List.mem_singleton.mpr rfl))
  rw [putK_new _ z,i]
theorem foldP_lt:∀ (n:Nat) (ps:List (Key×V)),ps.length=n→¬ (ps.map (·.1)).Nodup→(foldP ps).length<ps.length
 | 0,ps,h,nd=>by rw [List.length_eq_zero_iff.mp h] at nd;exact absurd List.nodup_nil nd
 | n+1,ps,h,nd=>by
  rcases List.eq_nil_or_concat ps with rfl | ⟨r,p,rfl⟩
  ·simp at h
  rw [List.concat_eq_append] at h nd ⊢
  rw [foldP_snoc,List.length_append,List.length_singleton]
  by_cases c:p.1∈r.map (·.1)
  ·have l:=foldP_le r
   have z:((foldP r).any fun kv=>decide (kv.1=p.1))=true:=by rw [valV_any];exact foldP_mem.mpr c
   unfold putK
   rw [if_pos z,List.length_map]
   omega
  ·have:=foldP_lt n r (by rw [List.length_append] at h;simpa using h) fun k=>nd (by
    rw [List.map_append,List.nodup_append]
    exact ⟨k,by simp,fun x hx y hy=>by cases List.mem_singleton.mp hy;intro z;rw [z] at hx;exact c hx⟩)
   have:=length_putK (foldP r) p.1 p.2
   omega
theorem valV_of {ps:List (Key×V)} {k:Key} {v:V}:(ps.map (·.1)).Nodup→(k,v)∈ps→valV ps k=some v:=by
 induction ps with
 | nil=>intro _ h;cases h
 | cons p r ih =>
  intro nd h
  rw [List.map_cons,List.nodup_cons] at nd
  rcases List.mem_cons.mp h with rfl | h
  ·exact valV_pos rfl
  ·rw [valV_neg fun z=>nd.1 (z ▸ List.mem_map.mpr ⟨_,h,rfl⟩)]
   exact ih nd.2 h
section
variable {u:Nat→Vc} {row:List Nat}
def Au (u:Nat→Vc) (q r:Nat):Bool:=ahd (u q) (u r)
/-- how many are ahead -/
def cnt (u:Nat→Vc) (row:List Nat) (q:Nat):Nat:=row.countP fun r=>Au u r q
/-- two in one direction -/
def Fold (u:Nat→Vc) (row:List Nat):Prop:=∃ q∈row,∃ r∈row,q≠r∧alk (u q) (u r)=true
structure Rw_ (u:Nat→Vc) (row:List Nat):Prop where
 nd:row.Nodup
 nz:∀ q∈row,nz (u q)
theorem Rw_.tot (h:Rw_ u row) (nf:¬ Fold u row):Tot (Au u) row :=
 ⟨fun q _=>ahd_irr _,fun _ _ _ _ _ _=>ahd_trans,fun q hq r hr ne=>ahd_tot (by
  cases c:alk (u q) (u r) with
  | false=>rfl
  | true=>exact absurd ⟨q,hq,r,hr,ne,c⟩ nf),h.nd⟩
def kvs (u:Nat→Vc) (row:List Nat):List (Key×V):=row.map fun q=>(.inl ((cnt u row q:Nat):Int),.int (q:Int))
theorem kvs_len:(kvs u row).length=row.length:=List.length_map _
theorem kvs_keys:(kvs u row).map (·.1)=row.map fun q=>(.inl ((cnt u row q:Nat):Int):Key):=by unfold kvs;rw [List.map_map];rfl
theorem srt_perm:(srtA (Au u) row).Perm row:=srtA_perm _ _ row rfl
theorem cnt_at (h:Rw_ u row) (nf:¬ Fold u row) {i q:Nat} (e:(srtA (Au u) row)[i]?=some q):cnt u row q=i:=by
 have T:=h.tot nf
 have p:=srt_perm (u:=u) (row:=row)
 have:=(srtA_inT row.length rfl T).count (T.of_perm p) e
 rw [p.countP_eq] at this
 exact this
theorem no_fold (h:Rw_ u row) (nf:¬ Fold u row):foldP (kvs u row)=kvs u row∧∀ (i q:Nat),(srtA (Au u) row)[i]?=some q→valV (kvs u row) (.inl (i:Int))=some (.int (q:Int)):=by
 have at_:∀ q∈row,∃ i,(srtA (Au u) row)[i]?=some q:=fun q hq=>List.mem_iff_getElem?.mp (srt_perm.mem_iff.mpr hq)
 have nd:((kvs u row).map (·.1)).Nodup:=by
  rw [kvs_keys]
  refine (List.pairwise_map (f:=fun q=>(.inl ((cnt u row q:Nat):Int):Key))).mpr (h.nd.imp_of_mem fun {q r} hq hr ne z=>?_)
  obtain ⟨i,hi⟩:=at_ q hq
  obtain ⟨j,hj⟩:=at_ r hr
  have z:((cnt u row q:Nat):Int)=((cnt u row r:Nat):Int):=Sum.inl.inj z
  rw [cnt_at h nf hi,cnt_at h nf hj] at z
  have z:i=j:=by omega
  subst z
  rw [hi] at hj
  exact ne (Option.some.inj hj)
 refine ⟨foldP_id _ _ rfl nd,fun i q e=>valV_of nd ?_⟩
 have hq:=srt_perm.mem_iff.mp (List.mem_of_getElem? e)
 have c:=cnt_at h nf e
 exact List.mem_map.mpr ⟨q,hq,by rw [c]⟩
theorem fold_lt (h:Rw_ u row) (f:Fold u row):(foldP (kvs u row)).length<row.length:=by
 rw [←kvs_len (u:=u) (row:=row)]
 refine foldP_lt _ _ rfl fun nd=>?_
 obtain ⟨q,hq,r,hr,ne,a⟩:=f
 rw [kvs_keys] at nd
 have inj:=List.pairwise_map.mp nd
 have e:cnt u row q=cnt u row r:=by
  unfold cnt
  congr 1
  funext w
  exact alk_ahd (h.nz q hq) (h.nz r hr) a
 obtain ⟨i,hi,ei⟩:=List.mem_iff_getElem.mp hq
 obtain ⟨j,hj,ej⟩:=List.mem_iff_getElem.mp hr
 have go:=List.pairwise_iff_getElem.mp inj
 rcases Nat.lt_trichotomy i j with l | l | l
 ·exact go i j hi hj l (by rw [ei,ej,e])
 ·subst l
  exact ne (ei.symm.trans ej)
 ·exact go j i hj hi l (by rw [ei,ej,e])
end
def low (S:List Nat):Nat:=S.foldl min (S.headD 0)
theorem foldl_min:∀ (S:List Nat) (a:Nat),S.foldl min a≤a∧(∀ i∈S,S.foldl min a≤i)∧(S.foldl min a=a∨S.foldl min a∈S)
 | [],a=>⟨Nat.le_refl _,(fun i h=>nomatch h),.inl rfl⟩
 | x::S,a=>by
  obtain ⟨h1,h2,h3⟩:=foldl_min S (min a x)
  rw [List.foldl_cons]
  have m1:=Nat.min_le_left a x
  have m2:=Nat.min_le_right a x
  refine ⟨by omega,fun i hi=>?_,?_⟩
  ·rcases List.mem_cons.mp hi with rfl | hi
   ·omega
   ·exact h2 i hi
  ·rcases h3 with h3 | h3
   ·rcases Nat.le_total a x with c | c
    ·exact .inl (by rw [h3,Nat.min_eq_left c])
    ·exact .inr (by rw [h3,Nat.min_eq_right c];exact List.mem_cons_self)
   ·exact .inr (List.mem_cons_of_mem _ h3)
theorem low_mem {S:List Nat} (h:S≠[]):low S∈S∧∀ i∈S,low S≤i:=by
 obtain ⟨x,r,rfl⟩:=List.exists_cons_of_ne_nil h
 obtain ⟨_,h2,h3⟩:=foldl_min (x::r) x
 refine ⟨?_,h2⟩
 rcases h3 with h3 | h3
 ·show List.foldl min x (x::r)∈x::r
  rw [h3]
  exact List.mem_cons_self
 ·exact h3
theorem low_eq {S:List Nat} {M:Nat} (h:M∈S) (l:∀ i∈S,M≤i):M=low S:=by
 obtain ⟨a,b⟩:=low_mem (S:=S) (List.ne_nil_of_mem h)
 exact Nat.le_antisymm (l _ a) (b _ h)
end Ang
set_option Elab.async false
set_option linter.all false
set_option maxRecDepth 100000
set_option maxHeartbeats 4000000
namespace Ex
open PySem
/-- what noting a frame makes of the heap: as Aft, the traceback's last word being v -/
structure AftV (v:Value) (l:List Env) (e T:Addr) (oe:Obj) (h h':Heap):Prop where
 k:∀ b o,b≠e→b∉l.filterMap (·.frame)→h.get? b=some o→h'.get? b=some o
 f:∀ b o,b≠e→h.get? b=some o→∃ sl,h'.get? b=some { o with slots:=sl }
 e:h'.get? e=some (oe.mapFields (·.setIfInBounds 1 (.ref T)))
 n:h.objs.size≤T
 t:∃ oT ts,h'.get? T=some oT∧oT.data=.fields ts∧ts[3]?=some v
section
variable {M:Model} {A:Around} {E:Value→Shared→Prop} {s:Shared}
theorem frameOf_c {base:Heap} {env env':Env} {outer:List Env} {L:Addr} {Q:Value→Shared→Prop} (hfr:A.frames=some (env::outer)) (hl:s.heap.FunFrames base (env::outer))
  (hf:env.frame=some L) (he:env'.frame=env.frame) (h:∀ h',Heap.SlotsOnly ((env::outer).filterMap (·.frame)) s.heap h'→Q (.ref L) { s with heap:=h' }):wpAny M A (frameOf env') Q E s:=by
 unfold frameOf
 refine wpAny_bind (wpAny_frameEnvs hfr ?_)
 have hdw:((env::outer).dropWhile fun x=>x.frame != env'.frame)=env::outer:=by simp [List.dropWhile,he]
 rw [hdw]
 unfold frameObject
 refine wpAny_bind (wpAny_bind (wpAny_readyFrames_fun hl fun h₁ hs₁=>wpAny_pure ?_))
 rw [hf]
 exact wpAny_pure (h h₁ hs₁)
theorem entryF {base:Heap} {env env':Env} {outer:List Env} {L e:Addr} {oe:Obj} {vs:Array Value} {head:Value} {hadNext:Bool} {Q:Unit→Shared→Prop}
  (hfr:A.frames=some (env::outer)) (hl:s.heap.FunFrames base (env::outer)) (hf:env.frame=some L) (he':env'.frame=env.frame) (he:s.heap.get? e=some oe) (hd:oe.data=.fields vs) (hsz:1<vs.size)
  (q:∀ h' T,AftV (rawInt L) (env::outer) e T oe s.heap h'→Q () { s with heap:=h' }) :
  wpAny M A (do let a ←frameOf env';let pl ←entryPlaceOf L hadNext;let b ←EntryCells.newEntry head a .none (rawInt L) .none pl;setField (.ref e) 1 b) Q E s:=by
 have hene:e∉(env::outer).filterMap (·.frame):=fun hm=>by
  obtain ⟨_,o,ho,hnf⟩:=hl.mem hm
  rw [he] at ho
  cases ho
  exact hnf vs hd
 refine wpAny_bind (frameOf_c hfr hl hf he' fun h1 S=>?_)
 refine wpAny_bind (wpAny_entryPlaceOf fun pl hpl=>?_)
 unfold EntryCells.newEntry newFields
 refine wpAny_bind (wpAny_newObj_type ?_ (hpl.sizeOk5 _ _ _ _ _))
 generalize hO:({ cls:=.type "traceback",dict:=none,data:=.fields ([head,.ref L,.none,rawInt L,.none]++(if pl.isEmpty then List.replicate 6 Value.none else pl)).toArray }:Obj)=oT
 have dT:oT.data=.fields ([head,.ref L,.none,rawInt L,.none]++(if pl.isEmpty then List.replicate 6 Value.none else pl)).toArray:=by rw [←hO]
 have e1:h1.get? e=some oe:=(S.2.1 e hene).trans he
 have e2:=Heap.get?_push_of_some (h:=h1) oT e1
 refine wpAny_setField e2 hd hsz ?_
 have nTe:h1.objs.size≠e:=Nat.ne_of_gt (Heap.lt_size e1)
 have d3:=Obj.data_mapFields hd (·.setIfInBounds 1 (Value.ref h1.objs.size))
 have e3:=Heap.get?_update_self (Obj.mapFields (·.setIfInBounds 1 (Value.ref h1.objs.size))) e2 (Obj.isFreed_of_fields d3)
 have nfT:oT.isFreed=false:=Obj.isFreed_of_fields dT
 have T3:((h1.push oT).update e (Obj.mapFields (·.setIfInBounds 1 (Value.ref h1.objs.size)))).get? h1.objs.size=some oT:=(Heap.get?_update_other (h1.push oT) _ (Ne.symm nTe)).trans (Heap.get?_push_size h1 nfT)
 refine q _ h1.objs.size ?_
 have keep:∀ b o,b≠e→h1.get? b=some o→((h1.push oT).update e (Obj.mapFields (·.setIfInBounds 1 (Value.ref h1.objs.size)))).get? b=some o:=fun b o hbe hb=>by
  rw [Heap.get?_update_other _ _ (Ne.symm hbe)]
  exact Heap.get?_push_of_some _ hb
 refine ⟨fun b o nb nf hb=>keep b o nb ((S.2.1 b nf).trans hb),fun b o nb hb=>?_,e3,?_,?_⟩
 ·obtain ⟨sl,z⟩:=S.2.2 b o hb
  exact ⟨sl,keep b _ nb z⟩
 ·exact Nat.le_of_eq S.1.symm
 ·exact ⟨_,_,T3,dT,rfl⟩
/-- an exception that bears a traceback is noted in a further frame -/
theorem flyN {base:Heap} {env env':Env} {outer:List Env} {L e T:Addr} {oe oT:Obj} {vs ts:Array Value} {v:Value} {Q:Unit→Shared→Prop}
  (hfr:A.frames=some (env::outer)) (hl:s.heap.FunFrames base (env::outer)) (hf:env.frame=some L) (he':env'.frame=env.frame) (he:s.heap.get? e=some oe) (hd:oe.data=.fields vs) (h1:vs[1]?=some (.ref T))
  (nT:T≠e) (hT:s.heap.get? T=some oT) (dT:oT.data=.fields ts) (t3:ts[3]?=some v) (nv:(v == rawInt L)=false)
  (q:∀ h1 h' T',(∀ b,b≠T→h1.get? b=s.heap.get? b)→h1.get? T=some (oT.mapFields (·.setIfInBounds 3 .none))→h1.objs.size=s.heap.objs.size→AftV (rawInt L) (env::outer) e T' oe h1 h'→Q () { s with heap:=h' }):wpAny M A (noteFrame (.ref e) env') Q E s:=by
 unfold noteFrame
 rw [←he'] at hf
 simp only [hf]
 refine wpAny_bind (wpAny_field he hd h1 ?_)
 rw [if_pos (show (Value.ref T != Value.none)=true from by simp)]
 refine wpAny_bind (wpAny_field hT dT t3 ?_)
 rw [if_neg (by rw [nv];exact Bool.false_ne_true)]
 refine wpAny_bind (wpAny_setField hT dT (Array.getElem?_eq_some_iff.mp t3).1 ?_)
 have other:∀ b,b≠T→(s.heap.update T (Obj.mapFields (·.setIfInBounds 3 Value.none))).get? b=s.heap.get? b:=fun b hb=>Heap.get?_update_other _ _ (Ne.symm hb)
 have noRec:∀ b o,s.heap.get? b=some o→(∀ vs,o.data≠.fields vs)→b≠T:=fun b o hb nf z=>by
  rw [z,hT] at hb
  cases hb
  exact nf ts dT
 rw [he'] at hf
 exact entryF hfr (hl.of_keeps fun b o hb nf=>⟨o,(other b (noRec b o hb nf)).trans hb,rfl⟩) hf he' ((other e (Ne.symm nT)).trans he) hd (Array.getElem?_eq_some_iff.mp h1).1
  fun h' T' a=>q _ h' T' other (Heap.get?_update_self _ hT (Obj.isFreed_of_fields (Obj.data_mapFields dT _))) (Heap.size_update _ _ _) a
end
end Ex
namespace L2
open PySem PySem.Spec PyProof.Rows
def TrV (v:Value) (T:Addr) (h:Heap):Prop:=∃ o ts,h.get? T=some o∧o.data=.fields ts∧ts[3]?=some v
theorem TrV.ok {v:Value} {P:Program} {w:World} {H:Hp} {h:Heap} {T:Addr} (x:TrV v T h):ObjOk P w H h T (.ext (TrV v T)):=by
 refine ⟨x,?_,fun h1 h2 y k=>?_⟩
 ·obtain ⟨o,ts,e,_⟩:=x
  exact ⟨_,e⟩
 ·obtain ⟨o,ts,e,r⟩:=y
  exact ⟨o,ts,k _ e,r⟩
abbrev trV (v:Value) (H:Hp) (a C:Addr) (dx:Option Addr) (T:Addr):Hp:=upd (upd H T (.ext (TrV v T))) a (.ext (XO a C dx (.ref T)))
section
variable {v:Value} {P:Program} {w:World} {H H1 H2:Hp} {h h1 h2 h':Heap} {a C T:Addr} {dx:Option Addr} {t1:Value} {l:List Env} {fs fs':List Addr}
theorem aftV (ok:HOk P w H h) (ea:H a=some (.ext (XO a C dx t1))) (fr:∀ b∈frs l,H b=none) {vs:Array Value} {sl:Array (Option Value)} {t0:Addr} (h0:vs[0]?=some (.ref t0)) (hv1:vs[1]?=some t1)
  (A:Ex.AftV v l a T ⟨.ref C,dx,.fields vs,sl⟩ h h'):H T=none∧T≠a∧Un (frs l) [] H (trV v H a C dx T) h h'∧HOk P w (trV v H a C dx T) h':=by
 have nT:H T=none:=ok.fresh A.n
 have na:T≠a:=fun z=>by subst z;rw [nT] at ea;cases ea
 have mu:Mut (H a):=by rw [ea];exact True.intro
 have nown:∀ c y,H c=some (.own y)→c≠a:=fun c y r z=>by subst z;rw [r] at mu;exact mu
 have hx:∀ b,H b=none→b≠a:=fun b n z=>by subst z;rw [n] at mu;exact mu
 have hm:∀ b u,H b=some u→¬ Mut (some u)→b≠a:=fun b u q nm z=>by subst z;rw [q] at mu;exact nm mu
 have nfr:∀ b u,H b=some u→b∉frs l:=fun b u q z=>by rw [fr b z] at q;cases q
 unfold trV
 refine ⟨nT,na,⟨fun b u q n nf _=>A.k b u (hx b n) nf q,fun b u q n _ _=>A.f b u (hx b n) q,fun b u q n _=>?_,fun b u q _=>?_,fun b xs q=>?_,fun b u xs q=>?_,fun b ps q=>⟨#[],?_⟩⟩,fun b u q=>?_⟩
 ·rw [upd_ne (hx b n),upd_ne (Nat.ne_of_lt (Nat.lt_of_lt_of_le (Heap.lt_size q) A.n))];exact n
 ·by_cases hb:b=a
  ·subst hb;exact ⟨_,A.e⟩
  ·obtain ⟨sl,z⟩:=A.f b u hb q
   exact ⟨_,z⟩
 ·rw [upd_ne (hm b _ q fun z=>z),upd_ne (ne_of_none q nT)];exact q
 ·rw [upd_ne (hm b _ q fun z=>z),upd_ne (ne_of_none q nT)];exact q
 ·rw [upd_ne (hm b _ q fun z=>z),upd_ne (ne_of_none q nT),q];simp
 ·by_cases hb:b=a
  ·subst hb
   rw [upd_same] at q
   cases q
   refine XO.ok ⟨_,_,A.e,⟨t0,?_⟩,?_⟩
   ·rw [Array.getElem?_setIfInBounds_ne (by decide)];exact h0
   ·rw [Array.getElem?_setIfInBounds,if_pos rfl,if_pos (Array.getElem?_eq_some_iff.mp hv1).1]
  ·rw [upd_ne hb] at q
   by_cases hbT:b=T
   ·subst hbT
    rw [upd_same] at q
    cases q
    obtain ⟨oT,ts,e1,e2,e3⟩:=A.t
    exact TrV.ok ⟨oT,ts,e1,e2,e3⟩
   ·rw [upd_ne hbT] at q
    refine (ok b u q).stay (fun c v hc r=>?_) (fun c r=>by rw [upd_ne (nown c b r),upd_ne (ne_of_none r nT)];exact r) fun c xs r=>by rw [upd_ne (hm c _ r fun z=>z),upd_ne (ne_of_none r nT)];exact r
    rcases hc with rfl | hc
    ·exact A.k c v hb (nfr c _ q) r
    ·exact A.k c v (nown c b hc) (nfr c _ hc) r
end
section
variable {X:Cx} {pins:List (Addr×Obj)} {σ:St} {H:Hp} {s:Shared} {a C:Addr} {dx:Option Addr} {t1 v:Value}
/-- noted in a further frame: the exception at a, its traceback's head at T0 -/
theorem flies {M:Model} {Q:Unit→Shared→Prop} {E:Value→Shared→Prop} {env0 env':Env} {outer0:List Env} {L T0:Addr} (I:Inv X pins σ H s) (hst:X.stack=env0::outer0) (hf:env0.frame=some L) (he':env'.frame=env0.frame) (ea:H a=some (.ext (XO a C dx (.ref T0))))
  (nT:T0≠a) (eT:H T0=some (.ext (TrV v T0))) (nv:(v == rawInt L)=false)
  (q:∀ T h',H T=none→T≠a→T≠T0→Un (frs X.stack) [] H (trV (rawInt L) (upd H T0 (.ext (TrV .none T0))) a C dx T) s.heap h'→HOk X.prog X.w (trV (rawInt L) (upd H T0 (.ext (TrV .none T0))) a C dx T) h'→Q () { s with heap:=h' }):wpAny M X.A (noteFrame (.ref a) env') Q E s:=by
 obtain ⟨⟨vs,sl,he,⟨t0,h0⟩,h1⟩,_⟩:=I.hok a _ ea
 have fr:=I.stkFree
 have fun0:=I.stack
 have frm:=I.ok.frames
 rw [hst] at fr fun0 frm q
 obtain ⟨⟨oT,ts,e1,e2,e3⟩,_⟩:=I.hok T0 _ eT
 refine Ex.flyN frm fun0 hf he' he rfl h1 nT e1 e2 e3 nv fun g h' T g1 g2 g3 A=>?_
 have mu:Mut (H T0):=by rw [eT];exact True.intro
 have kk:∀ b u,b≠T0→s.heap.get? b=some u→g.get? b=some u:=fun b u nb e=>(g1 b nb).trans e
 have tb:TrV .none T0 g:=⟨_,_,g2,Obj.data_mapFields e2 _,by rw [Array.getElem?_setIfInBounds,if_pos rfl,if_pos (Array.getElem?_eq_some_iff.mp e3).1]⟩
 have hok1:HOk X.prog X.w (upd H T0 (.ext (TrV .none T0))) g:=I.hok.write (x:=T0) (e:=T0) (o':=.ext (TrV .none T0)) mu (.inl rfl) kk ⟨_,g2⟩ (TrV.ok tb)
 have un1:Un (frs (env0::outer0)) [] H (upd H T0 (.ext (TrV .none T0))) s.heap g:=Un.write (fs:=frs (env0::outer0)) (ex:=[]) (o:=.ext (TrV .none T0)) mu (.inl rfl) kk ⟨_,g2⟩
 have nTa:∀ b,H b=none→upd H T0 (.ext (TrV .none T0)) b=none:=fun b n=>by rw [upd_ne (fun z=>by subst z;rw [eT] at n;cases n)];exact n
 obtain ⟨z1,z2,z3,z4⟩:=aftV hok1 (by rw [upd_ne (Ne.symm nT)];exact ea) (fun b hb=>nTa b (fr b hb)) h0 h1 A
 have nT0:T≠T0:=fun z=>by subst z;rw [upd_same] at z1;cases z1
 rw [upd_ne nT0] at z1
 exact q T h' z1 z2 nT0 (un1.trans z3) z4
/-- all but the exceptions and their tracebacks stays -/
def SameE (H H':Hp):Prop:=∀ b o,(∀ φ,o≠.ext φ)→H b=some o→H' b=some o
theorem SameE.trans {H H1 H2:Hp} (x:SameE H H1) (y:SameE H1 H2):SameE H H2:=fun b o n e=>y b o n (x b o n e)
theorem SameE.upd {H:Hp} {T:Addr} {φ ψ:Heap→Prop} (e:H T=some (.ext φ)):SameE H (upd H T (.ext ψ)):=fun b o n q=>by
 rw [upd_ne (fun z=>by subst z;rw [e] at q;cases q;exact n φ rfl)]
 exact q
theorem SameE.new {H:Hp} {T:Addr} {o:HO} (e:H T=none):SameE H (L2.upd H T o):=fun b u n q=>by
 rw [upd_ne (fun z=>by subst z;rw [e] at q;cases q)]
 exact q
theorem SameE.trV {v w:Value} {H:Hp} {T0 T:Addr} (ea:H a=some (.ext (XO a C dx (.ref T0)))) (e0:H T0=some (.ext (TrV v T0))) (nT:H T=none):SameE H (trV w (L2.upd H T0 (.ext (TrV .none T0))) a C dx T):=by
 refine (SameE.upd (ψ:=TrV .none T0) e0).trans ?_
 have n0:T≠T0:=fun z=>by subst z;rw [e0] at nT;cases nT
 refine (SameE.new (o:=.ext (TrV w T)) (by rw [upd_ne n0];exact nT)).trans ?_
 have na:a≠T:=fun z=>by subst z;rw [ea] at nT;cases nT
 by_cases c:a=T0
 ·refine SameE.upd (φ:=TrV .none T0) ?_
  rw [upd_ne na,c,upd_same]
 ·refine SameE.upd (φ:=XO a C dx (.ref T0)) ?_
  rw [upd_ne na,upd_ne c]
  exact ea
theorem Inv.un' {H':Hp} {h':Heap} (I:Inv X pins σ H s) (un:Un (frs X.stack) [] H H' s.heap h') (hok:HOk X.prog X.w H' h'):Inv X pins σ H' { s with heap:=h' } :=
 I.call' (s':={ s with heap:=h' }) (ch:=[]) rfl un hok I.bare (fun b z=>absurd z (by simp))
/-- the last of a frame's leaving -/
theorem setF {E:XK} {T:Addr} {Ep:Value→Shared→Prop} (I:Inv X pins σ H s) (hex:X.ex=[]) (ea:H a=some (.ext (XO a C dx (.ref T)))) (xd:∀ d,dx=some d→∃ fs,H d=some (.xd fs)) (nT:T≠a) (eT:H T=some (.ext (TrV v T)))
  (q:∀ H',SameE H H'→E (.ref C) dx H'):wpAny (model X.prog X.w) X.A (setFlight (.ref a) none) (fun _ s''=>CXo X.prog X.w X.outer X.H₀ X.s₀ E (.ref a) s'') Ep s:=by
 obtain ⟨⟨vs,sl,he,⟨t0,h0⟩,h1⟩,_⟩:=I.hok a _ ea
 obtain ⟨⟨oT,ts,e1,e2,e3⟩,_⟩:=I.hok T _ eT
 refine wpAny_setFlight_none he rfl h1 e1 e2 (Array.getElem?_eq_some_iff.mp e3).1 ?_
 have mu:Mut (H T):=by rw [eT];exact True.intro
 have kk:∀ b u,b≠T→s.heap.get? b=some u→(s.heap.update T (Obj.mapFields (·.setIfInBounds 3 .none))).get? b=some u:=fun b u nb e=>(Heap.get?_update_other _ _ (Ne.symm nb)).trans e
 have g2:=Heap.get?_update_self (Obj.mapFields (·.setIfInBounds 3 Value.none)) e1 (Obj.isFreed_of_fields (Obj.data_mapFields e2 _))
 have tb:TrV .none T (s.heap.update T (Obj.mapFields (·.setIfInBounds 3 .none))):=⟨_,_,g2,Obj.data_mapFields e2 _,by rw [Array.getElem?_setIfInBounds,if_pos rfl,if_pos (Array.getElem?_eq_some_iff.mp e3).1]⟩
 have I2:=I.write (x:=T) (e:=T) (o:=.ext (TrB T)) (t':=s.toks) mu (.inl rfl) kk ⟨_,g2⟩ (TrB.ok tb)
 have b0:=I2.base
 rw [hex] at b0
 have se:SameE H (L2.upd H T (.ext (TrB T))):=SameE.upd eT
 refine ⟨a,C,dx,T,_,rfl,I2.os,I2.bare,b0,I2.hok,⟨by rw [upd_ne (Ne.symm nT)];exact ea,fun d e=>?_⟩,nT,upd_same,q _ se⟩
 obtain ⟨fs,z⟩:=xd d e
 exact ⟨fs,se d _ (fun φ=>by simp) z⟩
/-- an exception under way comes out of this def -/
theorem comes_out {E:XK} {T:Addr} (hst:X.stack=X.env::X.outer) (hf:X.env.frame=some X.env.locals) (hex:X.ex=[])
  (hx:X.xe=fun e s'=>wpAny (model X.prog X.w) X.A (leaving X.env e) (fun _ s''=>CXo X.prog X.w X.outer X.H₀ X.s₀ E e s'') (fun e' s''=>CXo X.prog X.w X.outer X.H₀ X.s₀ E e' s'') s')
  (I:Inv X pins σ H s) (ea:H a=some (.ext (XO a C dx (.ref T)))) (xd:∀ d,dx=some d→∃ fs,H d=some (.xd fs)) (nT:T≠a) (eT:H T=some (.ext (TrV v T))) (q:∀ H',SameE H H'→E (.ref C) dx H'):X.xe (.ref a) s:=by
 rw [hx]
 unfold leaving
 by_cases c:(v == rawInt X.env.locals)=true
 ·obtain ⟨⟨vs,sl,he,⟨t0,h0⟩,h1⟩,_⟩:=I.hok a _ ea
  obtain ⟨⟨oT,ts,e1,e2,e3⟩,_⟩:=I.hok T _ eT
  have e3':ts[3]?=some (rawInt X.env.locals):=by rw [e3,eq_of_beq c]
  exact wpAny_bind (wpAny_noteFrame_inFlight hf he rfl h1 e1 e2 e3' (setF I hex ea xd nT eT q))
 ·refine wpAny_bind (flies I hst hf rfl ea nT eT (Bool.eq_false_iff.mpr c) fun T' h' n1 n2 n3 un hok=>?_)
  have se:=SameE.trV (w:=rawInt X.env.locals) ea eT n1
  refine setF (v:=rawInt X.env.locals) (I.un' un hok) hex upd_same (fun d e=>?_) n2 (by show upd (upd _ T' _) a _ T'=_;rw [upd_ne n2,upd_same]) fun H' s'=>q H' (se.trans s')
  obtain ⟨fs,z⟩:=xd d e
  exact ⟨fs,se d _ (fun φ=>by simp) z⟩
end
section
variable {X:Cx} {e tg:Expr} {gens:List Comprehension} {sc:Scope} {cpos:Pos} {d:Nat} {it:Addr} {acc:Value} {tail:Sem PySem.Fin} {p:Pos} {g:TG} {b:TB} {J:It} {fp:List Addr} {tn:Nat→Heap→Prop} {N0:St→Hp→Prop} {R:Result→Shared→Prop}
theorem comp_loopX (he:(∃ el,e=.ListComp el gens sc cpos)∨∃ k v,e=.DictComp k v gens sc cpos) (up:∀ e s',X.xe e s'→notedBy (model X.prog X.w) X.A X.env (fun x s''=>R (.error x) s'') e s') (hc:X.calm=true)
  (ht:compTurn e d (.ref it) acc X.env=(standAt p >>= fun _=>pyNext (.ref it) >>= fun r=>match r with
   | none=>pure (.done .next)
   | some v=>letOwnedTupleGo tg (.ref it) v >>= fun _=>assign tg X.env v >>= fun _=>tail))
  (T:Turn X.prog X.w X.K tg J fp it tn) (hg:PG X tg g) (hb:PTl X tail (.compLoop e d (.ref it) acc X.env) b) {pins:List (Addr×Obj)} {σ:St} {H:Hp} {s:Shared}
  (I:Inv X pins σ H s) (st:tn 0 s.heap) (f2:∀ b∈fp,FpOk X pins H b) (hw:tWalk J g b N0 σ H)
  (hR:∀ σ' H' s',Inv X pins σ' H' s'→N0 σ' H'→R (.ok .next) s') :
  codeAny (model X.prog X.w) X.A (.compLoop e d (.ref it) acc X.env) R s:=by
 obtain ⟨W,⟨m0,w0⟩,turn⟩:=hw
 have stat:∀ {H':Hp},(∀ b∈fp,H' b=none)→∀ b∈fp,FpOk X pins H' b:=fun hn b hb=>⟨hn b hb,(f2 b hb).2⟩
 refine codeAny_loop rfl (fun n s'=>∃ i σ' H',Inv X pins σ' H' s'∧tn i s'.heap∧(∀ b∈fp,H' b=none)∧W i n σ' H') ?_ m0 ⟨0,σ,H,I,st,fun b hb=>(f2 b hb).1,w0⟩
 rintro n s3 ⟨i,σ3,H3,I3,st3,fr3,w3⟩
 have hden:(model X.prog X.w).den (.compLoop e d (.ref it) acc X.env)=((compTurn e d (.ref it) acc X.env).onRaise (fun x=>do noteFrame x X.env;theTreesLotGoes x))∧X.A.under (.compLoop e d (.ref it) acc X.env)=X.A:=by
  rcases he with ⟨el,rfl⟩ | ⟨k,v,rfl⟩<;>exact ⟨rfl,rfl⟩
 rw [hden.1,hden.2]
 show wpAny _ _ ((compTurn e d (.ref it) acc X.env).onRaise (fun x=>do noteFrame x X.env;theTreesLotGoes x)) _ _ s3
 refine wpAny_noted ?_
 rw [ht]
 have no:∀ {α:Type} {t:Sem α} {Q:α→Shared→Prop} {s:Shared},wpAny (model X.prog X.w) X.A t Q X.xe s→wpAny (model X.prog X.w) X.A t Q (notedBy (model X.prog X.w) X.A X.env (fun x s''=>R (.error x) s'')) s :=
  fun h=>wpAny_mono h (fun _ _ q=>q) fun _ _ q=>up _ _ q
 refine wpAny_bind (wpAny_standAt (wpAny_bind ?_))
 rcases turn i n σ3 H3 w3 with ⟨stop,qn⟩ | ⟨go,N,hN,step⟩
 ·refine no (thn (T.done X rfl rfl rfl hc i pins s3 σ3 H3 X.xe I3 (stat fr3) st3 stop) fun r s4 ⟨hr,I4⟩=>?_)
  subst hr
  exact wpAny_pure (hR _ _ _ I4 qn)
 ·refine no (thn (T.item X rfl rfl rfl hc i pins s3 σ3 H3 X.xe I3 (stat fr3) st3 go) fun r s4 ⟨u,hr,h4⟩=>?_)
  subst hr
  refine wpAny_bind (no (thn h4 fun _ s5 ⟨x,H5,I5,r5,y5,st5,fr5⟩=>?_))
  have I5':=I5.pinned (stat fr5) (T.obj _ _ st5)
  refine wpAny_bind (no (thn (hg _ s5 σ3 H5 x u _ I5' r5 (step x H5 y5)) fun _ s6 ⟨σ6,H6,I6,q6⟩=>?_))
  refine no (thn (hb _ s6 σ6 H6 _ I6 q6) fun fin s7 ⟨hf,σ7,H7,I7,n7⟩=>?_)
  subst hf
  obtain ⟨m',hm,w7⟩:=hN σ7 H7 n7
  refine ⟨rfl,m',hm,i+1,σ7,H7,I7.unpinned,T.keep _ _ _ st5 fun b hb o e=>(I7.pin (b,o) (List.mem_append_right _ (List.mem_append_right _ (mem_pinsAt hb e)))).1,fun b hb=>?_,w7⟩
  obtain ⟨o,e,d⟩:=T.obj _ _ st5 b hb
  exact (I7.pin (b,o) (List.mem_append_right _ (List.mem_append_right _ (mem_pinsAt hb e)))).2.1
end
/-- an exception is under way within a comprehension -/
def outC (X:Cx) (Nc:List Str) (sc:Scope) (C:Addr) (s:Shared) (H:Hp) (fp:List Addr) (pins:List (Addr×Obj)) (E:XK) (e:Value) (s':Shared):Prop :=
 ∃ (σ':St) (H':Hp) (a Cc:Addr) (dx:Option Addr) (T:Addr) (v:Value),e=.ref a∧Inv (cxC X Nc sc C s H fp pins) [] σ' H' s'∧H' a=some (.ext (XO a Cc dx (.ref T)))∧(∀ d,dx=some d→∃ fs,H' d=some (.xd fs))∧T≠a∧H' T=some (.ext (TrV v T))∧∀ H'',SameE H' H''→E (.ref Cc) dx H''
/-- the comprehension's frame, whose exceptions go on -/
def xbC (X:Cx) (Nc:List Str) (sc:Scope) (C:Addr) (s:Shared) (H:Hp) (fp:List Addr) (pins:List (Addr×Obj)) (E:XK):Cx :=
 (cxC X Nc sc C s H fp pins).wish (notedBy (model X.prog X.w) X.A (compEnvC sc (clOf sc X.env) C X.env) (outC X Nc sc C s H fp pins E))
section
variable {X:Cx} {e tg iter el:Expr} {ifs:List Expr} {gens rest:List Comprehension} {sc:Scope} {pos:Pos} {Nc:List Str} {js:List (Option Nat)} {wi:TI}
theorem outC_post {E:XK} {σ:St} {H:Hp} {s:Shared} {pins:List (Addr×Obj)} {C:Addr} {fp:List Addr} {Q:VK} {acc:Value} {e':Value} {s':Shared} (hst:X.stack=X.env::X.outer) (hf:X.env.frame=some X.env.locals) (hex:X.ex=[])
  (hx:X.xe=fun e s'=>wpAny (model X.prog X.w) X.A (leaving X.env e) (fun _ s''=>CXo X.prog X.w X.outer X.H₀ X.s₀ E e s'') (fun e' s''=>CXo X.prog X.w X.outer X.H₀ X.s₀ E e' s'') s')
  (I2:Inv X pins σ H s) (f2:∀ b∈fp,FpOk X pins H b) (hC:s.heap.objs.size≤C) (h:outC X Nc sc C s H fp pins E e' s') :
  compPost (model X.prog X.w) X.A X.xe none (EP X pins σ Q) acc C (.error e') s':=by
 obtain ⟨σ',H',a,Cc,dx,T,v,rfl,J,ea,xd,nT,eT,q⟩:=h
 obtain ⟨m,hm,_⟩:=J.loc
 refine ⟨m,hm,fun h' hs cenv _=>?_⟩
 have I3:=inv_back I2 f2 hC J hs
 obtain ⟨⟨vs,sl,he,⟨t0,h0⟩,h1⟩,_⟩:=I3.hok a _ ea
 obtain ⟨⟨oT,ts,e1,e2,e3⟩,_⟩:=I3.hok T _ eT
 unfold PySem.passOn
 refine wpAny_bind (wpAny_field he rfl h1 ?_)
 rw [if_neg (show ¬ ((Value.ref T == Value.none)=true) from by simp)]
 refine wpAny_bind ?_
 unfold setFlight
 refine wpAny_bind (wpAny_field he rfl h1 ?_)
 rw [if_pos (show (Value.ref T != Value.none)=true from by simp)]
 generalize hv:(cenv.frame.elim Value.none fun f=>rawInt f)=v'
 refine wpAny_setField e1 e2 (Array.getElem?_eq_some_iff.mp e3).1 (wpAny_throw ?_)
 have mu:Mut (H' T):=by rw [eT];exact True.intro
 have kk:∀ b u,b≠T→h'.get? b=some u→(h'.update T (Obj.mapFields (·.setIfInBounds 3 v'))).get? b=some u:=fun b u nb e=>(Heap.get?_update_other _ _ (Ne.symm nb)).trans e
 have g2:=Heap.get?_update_self (Obj.mapFields (·.setIfInBounds 3 v')) e1 (Obj.isFreed_of_fields (Obj.data_mapFields e2 _))
 have tb:TrV v' T (h'.update T (Obj.mapFields (·.setIfInBounds 3 v'))):=⟨_,_,g2,Obj.data_mapFields e2 _,by rw [Array.getElem?_setIfInBounds,if_pos rfl,if_pos (Array.getElem?_eq_some_iff.mp e3).1]⟩
 have I4:=I3.write (x:=T) (e:=T) (o:=.ext (TrV v' T)) (t':=s'.toks) mu (.inl rfl) kk ⟨_,g2⟩ (TrV.ok tb)
 have se:SameE H' (L2.upd H' T (.ext (TrV v' T))):=SameE.upd eT
 refine comes_out hst hf hex hx I4 (by rw [upd_ne (Ne.symm nT)];exact ea) (fun d e=>?_) nT upd_same fun H'' z=>q H'' (se.trans z)
 obtain ⟨fs,z⟩:=xd d e
 exact ⟨fs,se d _ (fun φ=>by simp) z⟩
theorem pe_lc1xX {E:XK} {g:TG} {bd:Addr→TB} (hst:X.stack=X.env::X.outer) (hf:X.env.frame=some X.env.locals) (hex:X.ex=[])
  (hx:X.xe=fun e s'=>wpAny (model X.prog X.w) X.A (leaving X.env e) (fun _ s''=>CXo X.prog X.w X.outer X.H₀ X.s₀ E e s'') (fun e' s''=>CXo X.prog X.w X.outer X.H₀ X.s₀ E e' s'') s')
  (hc:X.calm=true) (hi:PI X tg iter wi) (S:CS sc X.env.scope) (cap:capOk js Nc X.N sc.names=true)
  (hg:∀ C s₂ H₂ fp pins,PG (xbC X Nc sc C s₂ H₂ fp pins E) tg g)
  (hb:∀ C s₂ H₂ fp pins D L,PTl (xbC X Nc sc C s₂ H₂ fp pins E) (tailOf ifs (xbC X Nc sc C s₂ H₂ fp pins E).env (do let _ ←call (.builtin "list.append") [.ref D,←eval el (xbC X Nc sc C s₂ H₂ fp pins E).env]) L) L (bd D))
  (hs:∀ x,foldedSetIterable iter X.env x=pure x:=by intro _;rfl) :
  PE X (.ListComp el [⟨tg,iter,ifs,0⟩] sc pos) (tLC js wi g bd):=by
 intro pins s σ H Q I h
 rw [eval_ListComp]
 have hcl:closureFor sc X.env=pure (clOf sc X.env):=closure_of fun y hy hf=>I.ok.has y.1 (.inl (S.free y hy hf))
 refine wpAny_comprehension_free (use:=none) rfl hs hcl S.kind S.names (thn (hi pins s σ H _ I h) fun v s1 h1=>thn h1 fun itv s2 h2=>?_)
 obtain ⟨it,fp,tn,J,H2,e,I2,T,st2,f2,hw⟩:=h2
 subst e
 have hlt:∀ b∈fp,b<s2.heap.objs.size:=fun b hb=>let ⟨o,ho,_⟩:=T.obj _ _ st2 b hb;Heap.lt_size ho
 refine wpAny_newObj_type (wpAny_newFunctionEnv S.nocell (by intro y hy;simp at hy) (fun h₁ hns₁ hsb₁=>?_) S.kind)
 dsimp only at hns₁ hsb₁ ⊢
 generalize hH2:s2.heap.push { cls:=.type "list",dict:=none,data:=.seq ([]:List Value).toArray }=G at hns₁ hsb₁ ⊢
 have hCs:G.objs.size=s2.heap.objs.size+1:=by rw [←hH2,Heap.size_push]
 have hDC:s2.heap.objs.size≠G.objs.size:=by omega
 have hCle:s2.heap.objs.size≤G.objs.size:=by omega
 have old:∀ b o,s2.heap.get? b=some o→h₁.get? b=some o:=fun b o e=>hsb₁.extBut b o (Nat.ne_of_lt (Nat.lt_of_lt_of_le (Heap.lt_size e) hCle)) (Heap.get?_push_of_some _ (hH2 ▸ Heap.get?_push_of_some _ e))
 have hacc:h₁.get? s2.heap.objs.size=some { cls:=.type "list",dict:=none,data:=.seq ([]:List Value).toArray }:=hsb₁.extBut _ _ hDC (Heap.get?_push_of_some _ (hH2 ▸ Heap.get?_push_size _ rfl))
 have new:ObjOk X.prog X.w (upd H2 s2.heap.objs.size (.lst [])) h₁ s2.heap.objs.size (.lst []):=⟨Nat.zero_le _,[],_,.nil,hacc⟩
 have I4:=inv_comp (js:=js) (Nc:=Nc) (tk:=s2.toks+([]:List (Str×Value)).length) I2 S f2 hlt cap hCle (Nat.le_refl _) hDC old hns₁ new
 have hn:H2 s2.heap.objs.size=none:=I2.fresh
 have f4:∀ b∈fp,FpOk (cxC X Nc sc G.objs.size s2 H2 fp pins) [] (upd H2 s2.heap.objs.size (.lst [])) b:=fun b hb=>by
  obtain ⟨h0,h1,h2,h3,h4,h5⟩:=f2 b hb
  refine ⟨?_,Nat.ne_of_lt (Nat.lt_of_lt_of_le (hlt b hb) hCle),fun z=>?_,.inl hb,fun x c z=>?_,fun p hp=>?_⟩
  ·rw [upd_ne (Nat.ne_of_lt (hlt b hb))];exact h0
  ·rcases List.mem_cons.mp (I2.stkSub b z) with q | q
   ·exact h1 q
   ·exact h2 q
  ·exact h4 x c (cl_in sc.names [] (fun z=>nomatch z) z)
  ·rcases List.mem_append.mp hp with z | z
   ·exact h5 p z
   ·exact absurd z (by simp)
 have st4:tn 0 h₁:=T.keep _ _ _ st2 fun b hb o e=>old b o e
 have loop:codeAny (model X.prog X.w) X.A (.compLoop (.ListComp el [⟨tg,iter,ifs,0⟩] sc pos) 0 (.ref it) (.ref s2.heap.objs.size) (compEnvC sc (clOf sc X.env) G.objs.size X.env))
   (compPost (model X.prog X.w) X.A X.xe none (EP X pins σ Q) (.ref s2.heap.objs.size) G.objs.size) { s2 with heap:=h₁,toks:=s2.toks+([]:List (Str×Value)).length }:=by
  refine comp_loopX (X:=xbC X Nc sc G.objs.size s2 H2 fp pins E) (.inl ⟨el,rfl⟩) (fun e s' z=>?_) hc (turn_l1 _ _ _ _ _ _ _ _ _) T (hg _ _ _ _ _) (hb _ _ _ _ _ _ _) (I4.wish _) st4 f4 (hw _ hn) fun σ' H' s' I' q=>?_
  ·exact wpAny_mono z (fun _ _ y=>outC_post hst hf hex hx I2 f2 hCle y) fun _ _ y=>outC_post hst hf hex hx I2 f2 hCle y
  ·obtain ⟨m',hm',_⟩:=I'.loc
   exact ⟨m',hm',fun h' hs'=>⟨.ref s2.heap.objs.size,H',inv_back I2 f2 hCle I'.unwish hs',rfl,q⟩⟩
 exact comp_start (.inl ⟨el,rfl⟩) rfl rfl loop (T.self _ _ _ _ _ st4 loop)
/-- an exception of a callee goes on out of the comprehension -/
theorem passesC {E:XK} {C:Addr} {s:Shared} {H:Hp} {fp:List Addr} {pins:List (Addr×Obj)} (hst:X.stack=X.env::X.outer) (hf:X.env.frame=some X.env.locals) :
  Passes (CXo X.prog X.w) (xbC X Nc sc C s H fp pins E) (fun cls dx H'=>∀ H'',SameE H' H''→E cls dx H''):=by
 intro pins' σ1 H1 s1 e s' I h
 obtain ⟨a,Cc,dx,T,H',rfl,os,bare,un,hok,xa,na,hT,q⟩:=h
 have I1:Inv (xbC X Nc sc C s H fp pins E) pins' σ1 H' s':=I.call' os un hok bare (fun b z=>absurd z (by simp))
 show wpAny _ _ (noteFrame _ _) _ _ _
 refine flies (X:=xbC X Nc sc C s H fp pins E) (v:=.none) I1 hst hf rfl xa.1 na hT (by first | rfl | simp [rawInt]) fun T' h' n1 n2 n3 un' hok'=>?_
 have se:=SameE.trV (w:=rawInt X.env.locals) xa.1 hT n1
 have J:=(I1.un' un' hok').unwish
 refine ⟨_,_,a,Cc,dx,T',_,rfl,J.pins_of (pins':=[]) (fun p z=>absurd z (by simp)),upd_same,fun d e=>?_,n2,by show upd (upd _ T' _) a _ T'=_;rw [upd_ne n2,upd_same],fun H'' z=>q H'' (se.trans z)⟩
 obtain ⟨fs,z⟩:=xa.2 d e
 exact ⟨fs,se d _ (fun φ=>by simp) z⟩
end
end L2
--M3
set_option Elab.async false
set_option linter.all false
set_option maxRecDepth 100000
set_option maxHeartbeats 4000000
namespace Prf
open PySem L2 Own Tri Cyc Rnd
def top (i:Nat):Stmt:=PySem.Challenge.pw_restdraw_k44_turned.main.body.getD i (.Pass ⟨0,0,0,0⟩)
abbrev s_greatest_divisor:Stmt:=top 19
theorem sc_greatest_divisor:FnScope ["one","other"] ["one","other"] (defScope s_greatest_divisor):=sc_mk
abbrev s_fraction:Stmt:=top 20
theorem sc_fraction:FnScope ["n","d","divisor"] ["n","d"] (defScope s_fraction):=sc_mk
abbrev s_less:Stmt:=top 21
theorem sc_less:FnScope ["one","other"] ["one","other"] (defScope s_less):=sc_mk
abbrev s_sign:Stmt:=top 22
theorem sc_sign:FnScope ["one"] ["one"] (defScope s_sign):=sc_mk
abbrev s_from_on:Stmt:=top 24
theorem sc_from_on:FnScope ["row","first","start"] ["row","first"] (defScope s_from_on):=sc_mk
abbrev s_from_least:Stmt:=top 25
theorem sc_from_least:FnScope ["row"] ["row"] (defScope s_from_least):=sc_mk
abbrev s_spread:Stmt:=top 27
theorem sc_spread:FnScope ["point","n","d","m","e"] ["point"] (defScope s_spread):=sc_mk
abbrev s_across:Stmt:=top 28
theorem sc_across:FnScope ["one","other","a","b","c","k","m","n"] ["one","other"] (defScope s_across):=sc_mk
abbrev s_hand:Stmt:=top 29
theorem sc_hand:FnScope ["p","q","r","a","b","c","x","y","z"] ["p","q","r"] (defScope s_hand):=sc_mk
abbrev s_alike:Stmt:=top 30
theorem sc_alike:FnScope ["drawing","firsts","pairs","q","point","p"] ["drawing"] (defScope s_alike):=sc_mk
abbrev s_must_be_unlike:Stmt:=top 31
theorem sc_must_be_unlike:FnScope ["drawing","pair"] ["drawing"] (defScope s_must_be_unlike):=sc_mk
abbrev s_is_late:Stmt:=top 33
theorem sc_is_late:FnScope ["here","point","rise"] ["here","point"] (defScope s_is_late):=sc_mk
abbrev s_comes_ahead:Stmt:=top 34
theorem sc_comes_ahead:FnScope ["here","point","other","late"] ["here","point","other"] (defScope s_comes_ahead):=sc_mk
abbrev s_row_turned:Stmt:=top 35
theorem sc_row_turned:FnScope ["web","drawing","place","here","row","counts","placed"] ["web","drawing","place"] (defScope s_row_turned):=sc_mk
abbrev s_turned:Stmt:=top 36
theorem sc_turned:FnScope ["web","drawing"] ["web","drawing"] (defScope s_turned):=sc_mk
abbrev s_law_pot:Stmt:=top 38
theorem sc_law_pot:FnScope ["_law_script","_law_k","_law_cell"] ["_law_script","_law_k"] (defScope s_law_pot):=sc_mk
abbrev s_law_digit:Stmt:=top 39
theorem sc_law_digit:FnScope ["_law_pot_here","_law_many","_law_digit_here"] ["_law_pot_here","_law_many"] (defScope s_law_digit):=sc_mk
abbrev s_law_low:Stmt:=top 40
theorem sc_law_low:FnScope ["_law_n","_law_d","_law_one","_law_other"] ["_law_n","_law_d"] (defScope s_law_low):=sc_mk
abbrev s_law_plus:Stmt:=top 41
theorem sc_law_plus:FnScope ["_law_one","_law_other"] ["_law_one","_law_other"] (defScope s_law_plus):=sc_mk
abbrev s_law_less:Stmt:=top 42
theorem sc_law_less:FnScope ["_law_one","_law_other"] ["_law_one","_law_other"] (defScope s_law_less):=sc_mk
abbrev s_law_times:Stmt:=top 43
theorem sc_law_times:FnScope ["_law_one","_law_other"] ["_law_one","_law_other"] (defScope s_law_times):=sc_mk
abbrev s_law_sign:Stmt:=top 44
theorem sc_law_sign:FnScope ["_law_one"] ["_law_one"] (defScope s_law_sign):=sc_mk
abbrev s_law_number:Stmt:=top 45
theorem sc_law_number:FnScope ["_law_pot_here","_law_mode","_law_far"] ["_law_pot_here","_law_mode"] (defScope s_law_number):=sc_mk
abbrev s_law_between:Stmt:=top 46
theorem sc_law_between:FnScope ["_law_one","_law_other","_law_part"] ["_law_one","_law_other","_law_part"] (defScope s_law_between):=sc_mk
abbrev s_law_point:Stmt:=top 47
theorem sc_law_point:FnScope ["_law_pot_here","_law_points_here","_law_mode","_law_p","_law_q","_law_part"] ["_law_pot_here","_law_points_here","_law_mode"] (defScope s_law_point):=sc_mk
abbrev s_law_points:Stmt:=top 48
theorem sc_law_points:FnScope ["_law_pot_here","_law_many","_law_mode","_law_found","_law_k","_law_point_here"] ["_law_pot_here","_law_many"] (defScope s_law_points):=sc_mk
abbrev s_law_apart:Stmt:=top 49
theorem sc_law_apart:FnScope ["_law_one","_law_other"] ["_law_one","_law_other"] (defScope s_law_apart):=sc_mk
abbrev s_law_hand:Stmt:=top 50
theorem sc_law_hand:FnScope ["_law_p","_law_q","_law_r","_law_a","_law_b","_law_c","_law_d"] ["_law_p","_law_q","_law_r"] (defScope s_law_hand):=sc_mk
abbrev s_law_is_ahead:Stmt:=top 51
theorem sc_law_is_ahead:FnScope ["_law_p","_law_q"] ["_law_p","_law_q"] (defScope s_law_is_ahead):=sc_mk
abbrev s_law_lead_alike:Stmt:=top 52
theorem sc_law_lead_alike:FnScope ["_law_p","_law_q","_law_r"] ["_law_p","_law_q","_law_r"] (defScope s_law_lead_alike):=sc_mk
abbrev s_law_tie:Stmt:=top 53
theorem sc_law_tie:FnScope ["_law_pot_here","_law_rows","_law_p","_law_q"] ["_law_pot_here","_law_rows","_law_p","_law_q"] (defScope s_law_tie):=sc_mk
abbrev s_law_any_rows:Stmt:=top 54
theorem sc_law_any_rows:FnScope ["_law_pot_here","_law_n","_law_rows","_law_k","_law_p","_law_q"] ["_law_pot_here","_law_n"] (defScope s_law_any_rows):=sc_mk
abbrev s_law_from_least:Stmt:=top 55
theorem sc_law_from_least:FnScope ["_law_row_here","_law_at"] ["_law_row_here"] (defScope s_law_from_least):=sc_mk
abbrev s_law_told:Stmt:=top 56
theorem sc_law_told:FnScope ["_law_rows"] ["_law_rows"] (defScope s_law_told):=sc_mk
abbrev s_law_alike:Stmt:=top 57
theorem sc_law_alike:FnScope ["_law_drawing","_law_p","_law_q"] ["_law_drawing"] (defScope s_law_alike):=sc_mk
abbrev s_law_is_just:Stmt:=top 58
theorem sc_law_is_just:FnScope ["_law_e","_law_some"] ["_law_e"] (defScope s_law_is_just):=sc_mk
abbrev s_law_half:Stmt:=top 59
theorem sc_law_half:FnScope ["_law_drawing","_law_p","_law_q","_law_high"] ["_law_drawing","_law_p","_law_q"] (defScope s_law_half):=sc_mk
abbrev s_law_is_before:Stmt:=top 60
theorem sc_law_is_before:FnScope ["_law_drawing","_law_p","_law_q","_law_r","_law_one","_law_other"] ["_law_drawing","_law_p","_law_q","_law_r"] (defScope s_law_is_before):=sc_mk
abbrev s_law_row:Stmt:=top 61
theorem sc_law_row:FnScope ["_law_drawing","_law_p","_law_row_here","_law_found","_law_q","_law_at"] ["_law_drawing","_law_p","_law_row_here"] (defScope s_law_row):=sc_mk
abbrev s_law_folded:Stmt:=top 62
theorem sc_law_folded:FnScope ["_law_drawing","_law_rows","_law_p","_law_row_here","_law_q","_law_r"] ["_law_drawing","_law_rows"] (defScope s_law_folded):=sc_mk
abbrev s_law_due:Stmt:=top 63
theorem sc_law_due:FnScope ["_law_drawing","_law_rows"] ["_law_drawing","_law_rows"] (defScope s_law_due):=sc_mk
abbrev s_law_asked:Stmt:=top 64
theorem sc_law_asked:FnScope ["_law_web","_law_drawing","_law_e"] ["_law_web","_law_drawing"] (defScope s_law_asked):=sc_mk
abbrev s_law_moved:Stmt:=top 65
theorem sc_law_moved:FnScope ["_law_drawing"] ["_law_drawing"] (defScope s_law_moved):=sc_mk
abbrev s_law:Stmt:=top 66
theorem sc_law:FnScope ["_law_script","_law_k","_law_pot_here","_law_rows","_law_drawing","_law_web","_law_due_here","_law_found","_law_across"] ["_law_script"] (defScope s_law):=sc_mk
def inCls (s:Stmt) (j:Nat):Stmt:=match s with
 | .ClassDef _ _ _ b _ _ _ _ _ _ _=>b.getD j (.Pass ⟨0,0,0,0⟩)
 | _=>.Pass ⟨0,0,0,0⟩
abbrev s_init_Alike:Stmt:=inCls (top 16) 0
theorem sc_init_Alike:FnScope ["self","places"] ["self","places"] (defScope s_init_Alike):=sc_mk
abbrev s_init_DrawError:Stmt:=inCls (top 1) 0
theorem sc_init_DrawError:FnScope ["self","words"] ["self","words"] (defScope s_init_DrawError):=sc_mk
abbrev s_init_Folded:Stmt:=inCls (top 17) 0
theorem sc_init_Folded:FnScope ["self","place"] ["self","place"] (defScope s_init_Folded):=sc_mk
structure FxG (K:PySem.W.Frag) (mg:Str→Option Value):Prop where
 X:∃ h:Heap,K.In h∧h.Ns mainGlobals mg
 d0:DfAt K "greatest_divisor" s_greatest_divisor
 d1:DfAt K "fraction" s_fraction
 d2:DfAt K "less" s_less
 d3:DfAt K "sign" s_sign
 d4:DfAt K "from_on" s_from_on
 d5:DfAt K "from_least" s_from_least
 d6:DfAt K "spread" s_spread
 d7:DfAt K "across" s_across
 d8:DfAt K "hand" s_hand
 d9:DfAt K "alike" s_alike
 d10:DfAt K "must_be_unlike" s_must_be_unlike
 d11:DfAt K "is_late" s_is_late
 d12:DfAt K "comes_ahead" s_comes_ahead
 d13:DfAt K "row_turned" s_row_turned
 d14:DfAt K "turned" s_turned
 d15:DfAt K "_law_pot" s_law_pot
 d16:DfAt K "_law_digit" s_law_digit
 d17:DfAt K "_law_low" s_law_low
 d18:DfAt K "_law_plus" s_law_plus
 d19:DfAt K "_law_less" s_law_less
 d20:DfAt K "_law_times" s_law_times
 d21:DfAt K "_law_sign" s_law_sign
 d22:DfAt K "_law_number" s_law_number
 d23:DfAt K "_law_between" s_law_between
 d24:DfAt K "_law_point" s_law_point
 d25:DfAt K "_law_points" s_law_points
 d26:DfAt K "_law_apart" s_law_apart
 d27:DfAt K "_law_hand" s_law_hand
 d28:DfAt K "_law_is_ahead" s_law_is_ahead
 d29:DfAt K "_law_lead_alike" s_law_lead_alike
 d30:DfAt K "_law_tie" s_law_tie
 d31:DfAt K "_law_any_rows" s_law_any_rows
 d32:DfAt K "_law_from_least" s_law_from_least
 d33:DfAt K "_law_told" s_law_told
 d34:DfAt K "_law_alike" s_law_alike
 d35:DfAt K "_law_is_just" s_law_is_just
 d36:DfAt K "_law_half" s_law_half
 d37:DfAt K "_law_is_before" s_law_is_before
 d38:DfAt K "_law_row" s_law_row
 d39:DfAt K "_law_folded" s_law_folded
 d40:DfAt K "_law_due" s_law_due
 d41:DfAt K "_law_asked" s_law_asked
 d42:DfAt K "_law_moved" s_law_moved
 d43:DfAt K "law" s_law
 y0:PySem.W.nsIn K mainGlobals "tuple" = some none
 y1:PySem.W.nsIn K mainGlobals "range" = some none
 y2:PySem.W.nsIn K mainGlobals "len" = some none
 y3:PySem.W.nsIn K mainGlobals "isinstance" = some none
 y4:PySem.W.nsIn K mainGlobals "int" = some none
 y5:PySem.W.nsIn K mainGlobals "bool" = some none
 y6:PySem.W.nsIn K mainGlobals "max" = some none
 y7:PySem.W.nsIn K mainGlobals "abs" = some none
 y8:PySem.W.nsIn K mainGlobals "divmod" = some none
 y9:PySem.W.nsIn K mainGlobals "min" = some none
 y10:PySem.W.nsIn K mainGlobals "enumerate" = some none
 y11:PySem.W.nsIn K mainGlobals "dict" = some none
 y12:PySem.W.nsIn K mainGlobals "zip" = some none
 y13:PySem.W.nsIn K mainGlobals "list" = some none
 y14:PySem.W.nsIn K mainGlobals "ValueError" = some none
 xg:XgAt K
 xd:DxAt K
 xi:DiAt K s_init_DrawError
 o_Alike:OxAt K "Alike" "Alike.__init__" "places" s_init_Alike
 kv_Alike:KvAt K "Alike"
 o_Folded:OxAt K "Folded" "Folded.__init__" "place" s_init_Folded
 kv_Folded:KvAt K "Folded"
 kd_Alike_NoText:KdAt K "Alike" "NoText" false
 kd_Alike_NotFlat:KdAt K "Alike" "NotFlat" false
 kd_Alike_NotTied:KdAt K "Alike" "NotTied" false
 kd_Alike_NotCornered:KdAt K "Alike" "NotCornered" false
 kd_Alike_NoRim:KdAt K "Alike" "NoRim" false
 kd_Alike_NoCorners:KdAt K "Alike" "NoCorners" false
 kd_Alike_NoBase:KdAt K "Alike" "NoBase" false
 kd_Alike_NoOrder:KdAt K "Alike" "NoOrder" false
 kd_Alike_NoWoods:KdAt K "Alike" "NoWoods" false
 kd_Alike_NoWeights:KdAt K "Alike" "NoWeights" false
 kd_Alike_NoFace:KdAt K "Alike" "NoFace" false
 kd_Alike_Doubled:KdAt K "Alike" "Doubled" false
 kd_Alike_NoTie:KdAt K "Alike" "NoTie" false
 kd_Alike_Parted:KdAt K "Alike" "Parted" false
 kd_Alike_Alike:KdAt K "Alike" "Alike" true
 kd_Alike_Folded:KdAt K "Alike" "Folded" false
 kd_Folded_NoText:KdAt K "Folded" "NoText" false
 kd_Folded_NotFlat:KdAt K "Folded" "NotFlat" false
 kd_Folded_NotTied:KdAt K "Folded" "NotTied" false
 kd_Folded_NotCornered:KdAt K "Folded" "NotCornered" false
 kd_Folded_NoRim:KdAt K "Folded" "NoRim" false
 kd_Folded_NoCorners:KdAt K "Folded" "NoCorners" false
 kd_Folded_NoBase:KdAt K "Folded" "NoBase" false
 kd_Folded_NoOrder:KdAt K "Folded" "NoOrder" false
 kd_Folded_NoWoods:KdAt K "Folded" "NoWoods" false
 kd_Folded_NoWeights:KdAt K "Folded" "NoWeights" false
 kd_Folded_NoFace:KdAt K "Folded" "NoFace" false
 kd_Folded_Doubled:KdAt K "Folded" "Doubled" false
 kd_Folded_NoTie:KdAt K "Folded" "NoTie" false
 kd_Folded_Parted:KdAt K "Folded" "Parted" false
 kd_Folded_Alike:KdAt K "Folded" "Alike" false
 kd_Folded_Folded:KdAt K "Folded" "Folded" true
theorem FxG.z {K:PySem.W.Frag} {mg:Str→Option Value} (B:FxG K mg) {n:Str} (y:PySem.W.nsIn K mainGlobals n=some none):mg n=none:=by
 obtain ⟨h,x,g⟩:=B.X
 exact PySem.W.mg_none_of x g y
def Bad (c:Cn):Prop:=FxG c.K c.mg∧∃ f fd,Fun c.K "law" "law" s_law f fd∧¬ FnOk c.P c.w c.K c.mg c.base CX0 10 f fd ["_law_script"] (spLaw c.K)
noncomputable def c0:Cn:=Classical.epsilon Bad
noncomputable def P:Program:=c0.P
noncomputable def w:World:=c0.w
noncomputable def K:PySem.W.Frag:=c0.K
noncomputable def mg:Str→Option Value:=c0.mg
noncomputable def base:Heap:=c0.base
abbrev Fx:=FxG K mg
abbrev Hs:=Own.Has P w K mg base
theorem same_new {H:Hp} {p:Addr} (h:H p=none) (o:HO):Same H (upd H p o):=fun b u q=>by rw [upd_ne (ne_of_none q h)];exact q
def SameBut (a:Addr) (H H':Hp):Prop:=∀ b o,b≠a→H b=some o→H' b=some o
theorem abs_eq (i:Int):(if i<0 then -i else i)=(i.natAbs:Int):=by split<;>omega
inductive spPot (K:PySem.W.Frag) (vs:List V) (H:Hp) (Q:VK) (Y:XK):Prop
 | mk:∀ (a:Addr) (ns:List Int) (k:Int),(vs=[.ref a,.int k])→(SqL K H a (ns.map V.int))→(ns.length≤63)→(0≤k)→(k≤63)→(∀ (p:Addr) (x y:Int) (H':Hp),0≤x→Same H H'→H p=none→H' p=some (.lst [.int x,.int y])→Q (.ref p) H')→spPot K vs H Q Y
def PotAt (H:Hp) (a:Addr):Prop:=∃ x y:Int,H a=some (.lst [.int x,.int y])∧0≤x
inductive spDigit (vs:List V) (H:Hp) (Q:VK) (Y:XK):Prop
 | mk:∀ (a:Addr) (m:Int),(vs=[.ref a,.int m])→(PotAt H a)→(0<m)→(m.natAbs<2 ^ 9000)→(∀ (d:Int) (H':Hp),0≤d→d<m→SameBut a H H'→PotAt H' a→Q (.int d) H')→spDigit vs H Q Y
def vn (n:Nat):V:=.int (n:Int)
def ci (n:Nat):Int:=n
theorem vn_map (ns:List Nat):ns.map vn=(ns.map ci).map V.int:=by
 rw [List.map_map]
 rfl
section
theorem at0 {x y:V}:atI [x,y] 0=some x:=rfl
theorem at1 {x y:V}:atI [x,y] 1=some y:=rfl
theorem cut_ints (ns:List Int) (lo hi:Option Int):∃ ms:List Int,cutV (ns.map V.int) lo hi=ms.map V.int∧ms.length≤ns.length:=by
 refine ⟨(ns.drop (HT.sIx (ns.map V.int).length 0 lo)).take (HT.sIx (ns.map V.int).length (ns.map V.int).length hi-HT.sIx (ns.map V.int).length 0 lo),?_,?_⟩
 ·unfold cutV
  rw [List.map_take,List.map_drop]
 ·rw [List.length_take,List.length_drop]
  omega
theorem first_int (ms:List Int):∃ c:Int,atI (ms.map V.int++[V.int 0]) 0=some (V.int c):=by
 cases ms with
 | nil=>exact ⟨0,rfl⟩
 | cons x r=>exact ⟨x,atI_nat (j:=0) rfl⟩
theorem small {n:Nat} (h:n≤1000):n≤sizeLine:=Nat.le_of_lt (small1000 h)
theorem ok_law_pot (B:Fx):Hs "_law_pot" ["_law_script","_law_k"] 1 (spPot K):=by
 refine hs_of B.X B.d15 sc_law_pot fun f cdv A outer s H vs Q E nN hr h=>?_
 obtain ⟨a,ns,k,rfl,hS,h63,k0,k1,q⟩:=h
 refine ⟨_,(pss_cons (pst 2 nN (pix ix_list (pe_op op_cat (pe_slice sl_list (pv 0) (po_some (pv 1)) (po_some (pe_op op_add (pv 1) pe_int))) (pe_lst (p1 pe_int))) pe_int))
   (pss_one (ps_ret (pe_lst (p2 (pe_callB (call_max2 rfl) rfl (B.z B.y6) PyProof.Rows.boot_max (p2 pe_int (pe_op op_sub (pv 2) (pe_op op_pow pe_int pe_int)))) (pe_op op_add (pe_op op_mod (pe_op op_add (pe_op op_add (pe_callB call_abs rfl (B.z B.y7) PyProof.Rows.boot_abs (p1 (pv 2))) (pe_op op_mul pe_int (pv 1))) pe_int) pe_int) pe_int)))))),?_⟩
 try dsimp only [cxOf]
 obtain ⟨ms,em,lm⟩:=cut_ints ns (some k) (some (k+1))
 obtain ⟨c,hc⟩:=first_int ms
 refine ⟨_,rfl,_,rfl,k,rfl,_,rfl,_,_,rfl,rfl,k+1,rfl,a,_,rfl,hS,fun p1 h1=>?_⟩
 refine ⟨(by show 1≤sizeLine;decide),fun p2 h2=>?_⟩
 have n12:p1≠p2:=ne_of_none upd_same h2
 refine ⟨p1,p2,_,_,rfl,rfl,(by rw [upd_ne n12];exact upd_same),upd_same,(by rw [em,List.length_map,List.length_singleton];exact small (by omega)),fun p3 h3=>?_⟩
 refine ⟨p3,_,_,_,rfl,rfl,SqL.of upd_same,(by rw [em];exact hc),?_⟩
 have g1:Same H (upd H p1 (.lst (cutV (ns.map V.int) (some k) (some (k+1))))):=same_new h1 _
 have g2:=same_new h2 (.lst [V.int 0])
 have g3:=same_new h3 (.lst (cutV (ns.map V.int) (some k) (some (k+1))++[V.int 0]))
 have g:=g1.trans (g2.trans g3)
 refine ⟨_,rfl,_,_,rfl,rfl,⟨by decide,by decide,by decide⟩,_,_,rfl,rfl,_,_,rfl,_,rfl,c,rfl,_,rfl,_,_,rfl,rfl,.inl ⟨by decide,by decide⟩,_,_,rfl,rfl,_,_,rfl,rfl,_,_,rfl,rfl,(by show (0:Int)<2147483629;decide),_,_,rfl,rfl,(by show 2≤sizeLine;decide),fun p4 h4=>?_⟩
 refine q p4 _ _ _ ?_ (g.trans (same_new h4 _)) (g.free h4) upd_same
 split<;>omega
theorem SameBut.refl (a:Addr) (H:Hp):SameBut a H H:=fun _ _ _ h=>h
theorem SameBut.trans {a:Addr} {H H1 H2:Hp} (x:SameBut a H H1) (y:SameBut a H1 H2):SameBut a H H2:=fun b o n h=>y b o n (x b o n h)
theorem SameBut.of {a:Addr} {H H':Hp} (h:Same H H'):SameBut a H H':=fun b o _ e=>h b o e
theorem but_upd {a:Addr} {H:Hp} {o:HO}:SameBut a H (upd H a o):=fun b u n h=>by rw [upd_ne n];exact h
theorem ok_law_digit (B:Fx):Hs "_law_digit" ["_law_pot_here","_law_many"] 1 (spDigit):=by
 refine hs_of B.X B.d16 sc_law_digit fun f cdv A outer s H vs Q E nN hr h=>?_
 obtain ⟨a,m,rfl,⟨x,y,ha,hx⟩,m0,m1,q⟩:=h
 refine ⟨_,(pss_cons (ps_if (pt_cmpR op_gt (pix ix_list (pv 0) pe_int) pe_int (nomark _)) (pss_cons (ps_asg (pe_callB call_divmodW rfl (B.z B.y8) PyProof.Rows.boot_divmod (p2 (pix ix_list (pv 0) pe_int) (pv 1))) (pg_tup (n:=2) rfl (pgs_cons (pg_sub (pv 0) pe_int set_list) (pgs_cons (pgn 2 nN) pgs_nil))))
   (pss_one (ps_ret (pv 2)))) pss_nil)
   (pss_cons (ps_asg (pe_op op_mod (pe_op op_add (pe_op op_mul (pix ix_list (pv 0) pe_int) pe_int) pe_int) pe_int) (pg_sub (pv 0) pe_int set_list))
   (pss_one (ps_ret (pe_op op_mod (pe_op op_fdiv (pe_op op_mod (pe_op op_mul (pix ix_list (pv 0) pe_int) (pix ix_list (pv 0) pe_int)) pe_int) pe_int) (pv 1)))))),?_⟩
 try dsimp only [cxOf]
 refine ⟨_,rfl,a,_,_,_,rfl,rfl,SqL.of ha,at0,_,_,rfl,rfl,_,rfl,?_⟩
 refine ite2 (fun c=>?_) (fun c=>?_)
 ·refine ⟨_,rfl,a,_,_,_,rfl,rfl,SqL.of ha,at0,_,rfl,x,m,rfl,⟨m0,m1⟩,fun p hp=>?_⟩
  have nap:a≠p:=ne_of_none ha hp
  refine ⟨p,_,rfl,SqT.of upd_same,rfl,_,_,rfl,_,rfl,a,_,_,0,rfl,rfl,(by rw [upd_ne nap];exact ha),rfl,_,_,rfl,rfl,?_⟩
  refine ⟨_,rfl,?_⟩
  refine q _ _ (Int.emod_nonneg _ (by omega)) (Int.emod_lt_of_pos _ m0) ((SameBut.of (same_new hp _)).trans but_upd) ⟨_,_,upd_same,?_⟩
  exact Int.ediv_nonneg hx (by omega)
 ·refine ⟨_,rfl,a,_,_,_,rfl,rfl,SqL.of ha,at1,_,_,rfl,rfl,.inr ⟨by decide,by decide⟩,_,_,rfl,rfl,_,_,rfl,rfl,(by show (0:Int)<2147483647;decide),?_⟩
  refine ⟨_,rfl,a,_,_,1,rfl,rfl,ha,rfl,?_⟩
  have b1:0≤(y*48271+39373) % 2147483647:=Int.emod_nonneg _ (by decide)
  have b2:(y*48271+39373) % 2147483647<2147483647:=Int.emod_lt_of_pos _ (by decide)
  refine ⟨_,rfl,a,_,_,_,rfl,rfl,SqL.of upd_same,at1,_,rfl,a,_,_,_,rfl,rfl,SqL.of upd_same,at1,_,_,rfl,rfl,.inl ⟨?_,?_⟩,_,_,rfl,rfl,(by show (0:Int)<2147483629;decide),_,_,rfl,rfl,⟨by decide,by decide⟩,_,rfl,_,_,rfl,rfl,m0,?_⟩
  ·show -(2 ^ 64)<(y*48271+39373) % 2147483647
   omega
  ·show (y*48271+39373) % 2147483647<2 ^ 64
   omega
  ·exact q _ _ (Int.emod_nonneg _ (by omega)) (Int.emod_lt_of_pos _ m0) but_upd ⟨_,_,upd_same,hx⟩
theorem keep {H H1 H2:Hp} {p:Addr} (g:Same H H1) (n:H p=none) (b:SameBut p H1 H2):Same H H2:=fun c o e=>b c o (ne_of_none e n) (g c o e)
theorem PotAt.kept {H H':Hp} {p:Addr} (h:PotAt H p) (g:Same H H'):PotAt H' p:=by
 obtain ⟨x,y,e,z⟩:=h
 exact ⟨x,y,g _ _ e,z⟩
theorem lit9 {i:Int} (h:i.natAbs<2 ^ 200):i.natAbs<2 ^ 9000:=Nat.lt_of_lt_of_le h (Nat.pow_le_pow_right (by decide) (by decide))
theorem PotAt.other {H:Hp} {a l:Addr} {o:HO} (h:PotAt H a) (n:a≠l):PotAt (upd H l o) a:=by
 obtain ⟨x,y,e,z⟩:=h
 exact ⟨x,y,by rw [upd_ne n];exact e,z⟩
end
--SPLIT
open Mth Sca
def Gets (n d:Int) (H:Hp) (Q:VK):Prop:=∀ (n' d':Int) (p:Addr) (H':Hp),Fr n d n' d'→Same H H'→H' p=some (.tup [.int n',.int d'])→Q (.ref p) H'
inductive spFr (vs:List V) (H:Hp) (Q:VK) (Y:XK):Prop
 | mk:∀ (n d:Int),(vs=[.int n,.int d])→(d≠0)→(d.natAbs<2 ^ 9000)→(Gets n d H Q)→spFr vs H Q Y
inductive spBin (top bot:Int→Int→Int→Int→Int) (vs:List V) (H:Hp) (Q:VK) (Y:XK):Prop
 | mk:∀ (a b:Addr) (a0 a1 b0 b1:Int),(vs=[.ref a,.ref b])→(H a=some (.tup [.int a0,.int a1]))→(H b=some (.tup [.int b0,.int b1]))→((a0.natAbs<2 ^ 4000∧a1.natAbs<2 ^ 4000∧b0.natAbs<2 ^ 4000∧b1.natAbs<2 ^ 4000))→(bot a0 a1 b0 b1≠0)→(Gets (top a0 a1 b0 b1) (bot a0 a1 b0 b1) H Q)→spBin top bot vs H Q Y
inductive spSign (vs:List V) (H:Hp) (Q:VK) (Y:XK):Prop
 | mk:∀ (a:Addr) (a0 a1:Int),(vs=[.ref a])→(H a=some (.tup [.int a0,.int a1]))→(Q (.int (sgn a0)) H)→spSign vs H Q Y
/-- points on the heap -/
def Sz (B:Nat) (P:Pt):Prop:=0<P.d∧0<P.e∧P.n.natAbs<2 ^ B∧P.d.natAbs<2 ^ B∧P.m.natAbs<2 ^ B∧P.e.natAbs<2 ^ B
def PtAt (H:Hp) (p:Addr) (P:Pt):Prop:=∃ x y,H p=some (.tup [.ref x,.ref y])∧H x=some (.tup [.int P.n,.int P.d])∧H y=some (.tup [.int P.m,.int P.e])
def Fz (B:Nat) (n d:Int):Prop:=0<d∧n.natAbs<2 ^ B∧d.natAbs<2 ^ B
inductive spSpread (vs:List V) (H:Hp) (Q:VK) (Y:XK):Prop
 | mk:∀ (p:Addr) (P:Pt),(vs=[.ref p])→(PtAt H p P)→(Sz 1000 P)→(∀ q,H q=none→Q (.ref q) (upd H q (.tup [.int (P.n*P.e),.int (P.m*P.d),.int (P.d*P.e)])))→spSpread vs H Q Y
inductive spAcross (vs:List V) (H:Hp) (Q:VK) (Y:XK):Prop
 | mk:∀ (p q:Addr) (a b c k m n:Int),(vs=[.ref p,.ref q])→(H p=some (.tup [.int a,.int b,.int c]))→(H q=some (.tup [.int k,.int m,.int n]))→((a.natAbs<2 ^ 4000∧b.natAbs<2 ^ 4000∧c.natAbs<2 ^ 4000∧k.natAbs<2 ^ 4000∧m.natAbs<2 ^ 4000∧n.natAbs<2 ^ 4000))→(∀ t,H t=none→Q (.ref t) (upd H t (.tup [.int (b*n-c*m),.int (c*k-a*n),.int (a*m-b*k)])))→spAcross vs H Q Y
inductive spHand (f:Pt→Pt→Pt→Int) (vs:List V) (H:Hp) (Q:VK) (Y:XK):Prop
 | mk:∀ (p q r:Addr) (P P' R:Pt),(vs=[.ref p,.ref q,.ref r])→(PtAt H p P)→(PtAt H q P')→(PtAt H r R)→(Sz 1000 P)→(Sz 1000 P')→(Sz 1000 R)→(∀ H',Same H H'→Q (.int (sgn (f P P' R))) H')→spHand f vs H Q Y
/-- points drawn: lowest terms, small -/
def Lw (P:Pt):Prop:=0<P.d∧0<P.e∧Int.gcd P.n P.d=1∧Int.gcd P.m P.e=1
/-- a fraction at the scale S, of at most V -/
def Cd (S V:Nat) (n d:Int):Prop:=∃ X:Int,Sc (S:Int) X n d∧X.natAbs≤V*S
def sc:Nat→Nat
 | 0=>6
 | i+1=>sc i*(6*((7+i)*(11+i)))
def vv:Nat→Nat
 | 0=>4
 | i+1=>5*vv i+6
inductive spBetween (vs:List V) (H:Hp) (Q:VK) (Y:XK):Prop
 | mk:∀ (a b c:Addr) (a0 a1 b0 b1 c0 c1:Int) (B:Nat),(vs=[.ref a,.ref b,.ref c])→(H a=some (.tup [.int a0,.int a1]))→(H b=some (.tup [.int b0,.int b1]))→(H c=some (.tup [.int c0,.int c1]))→(Fz B a0 a1)→(Fz B b0 b1)→(Fz 2 c0 c1)→(B≤300)→(∀ (n d:Int) (p:Addr) (H':Hp),(∀ S X Y C:Int,Sc S X a0 a1→Sc S Y b0 b1→Sc 6 C c0 c1→Sc (S*6) (X*6+C*(Y-X)) n d)→Int.gcd n d=1→Same H H'→H' p=some (.tup [.int n,.int d])→Q (.ref p) H')→spBetween vs H Q Y
inductive spApart (vs:List V) (H:Hp) (Q:VK) (Y:XK):Prop
 | mk:∀ (a b:Addr) (a0 a1 b0 b1:Int),(vs=[.ref a,.ref b])→(H a=some (.tup [.int a0,.int a1]))→(H b=some (.tup [.int b0,.int b1]))→((a0.natAbs<2 ^ 1700∧a1.natAbs<2 ^ 1700∧b0.natAbs<2 ^ 1700∧b1.natAbs<2 ^ 1700))→(∀ t,H t=none→Q (.ref t) (upd H t (.tup [.int (b0*a1-a0*b1),.int (a1*b1)])))→spApart vs H Q Y
inductive spHandL (vs:List V) (H:Hp) (Q:VK) (Y:XK):Prop
 | mk:∀ (p q r:Addr) (P P' R:Pt),(vs=[.ref p,.ref q,.ref r])→(PtAt H p P)→(PtAt H q P')→(PtAt H r R)→(Sz 210 P)→(Sz 210 P')→(Sz 1700 R)→(∀ H',Same H H'→Q (.int (sgn (lawdet P P' R))) H')→spHandL vs H Q Y
inductive spGcd (vs:List V) (H:Hp) (Q:VK) (Y:XK):Prop
 | mk:∀ (i j:Int),(vs=[.int i,.int j])→(Q (.int (Int.gcd i j:Int)) H)→spGcd vs H Q Y
theorem w9 {a:Int} {B:Nat} (h:a.natAbs<2 ^ B) (hB:B≤9000:=by decide):a.natAbs<2 ^ 9000:=up h hB
theorem m9 {a b:Int} {B C:Nat} (h:a.natAbs<2 ^ B) (h':b.natAbs<2 ^ C) (hB:B+C≤9000:=by decide):(a*b).natAbs<2 ^ 9000:=up (mul_lt_pow h h') hB
theorem ok_sign (B:Fx):Hs "sign" ["one"] 1 (spSign):=by
 refine hs_of B.X B.d3 sc_sign fun f cdv A outer s H vs Q E nN hr h=>?_
 obtain ⟨a,a0,a1,rfl,ha,q⟩:=h
 refine ⟨_,(pss_cons (ps_if (pt_cmpR op_lt (pix ix_tup (pv 0) pe_int) pe_int (nomark _)) (pss_one (ps_ret (pe_un un_neg pe_int))) pss_nil)
   (pss_one (ps_ret (pe_ifExp (pt_cmpR op_gt (pix ix_tup (pv 0) pe_int) pe_int (nomark _)) pe_int pe_int)))),?_⟩
 try dsimp only [cxOf]
 refine ⟨_,rfl,a,_,_,_,rfl,rfl,SqT.of ha,at0,_,_,rfl,rfl,_,rfl,?_⟩
 refine ite2 (fun c=>?_) (fun c=>?_)
 ·have c':a0<0:=of_decide_eq_true c
  refine ⟨_,rfl,?_⟩
  rw [show sgn a0 = -1 by unfold sgn;rw [if_pos c']] at q
  exact q
 ·have c':¬ a0<0:=of_decide_eq_false (Bool.eq_false_iff.mpr c)
  refine ⟨_,rfl,a,_,_,_,rfl,rfl,SqT.of ha,at0,_,_,rfl,rfl,_,rfl,?_⟩
  refine ite2 (fun c=>?_) (fun c=>?_)
  ·have c2:0<a0:=of_decide_eq_true c
   rw [show sgn a0=1 by unfold sgn;rw [if_neg c',if_pos c2]] at q
   exact q
  ·have c2:¬ 0<a0:=of_decide_eq_false (Bool.eq_false_iff.mpr c)
   rw [show sgn a0=0 by unfold sgn;rw [if_neg c',if_neg c2]] at q
   exact q
theorem ok_law_low (B:Fx):Hs "_law_low" ["_law_n","_law_d"] 1 (spFr):=by
 refine hs_of B.X B.d17 sc_law_low fun f cdv A outer s H vs Q E nN hr h=>?_
 obtain ⟨n,d,rfl,d0,hz,q⟩:=h
 refine ⟨_,(pss_cons (ps_par (i:=2) (j:=3) rfl nN rfl rfl (by decide) rfl rfl (p2 (pe_callB call_abs rfl (B.z B.y7) PyProof.Rows.boot_abs (p1 (pv 0))) (pe_callB call_abs rfl (B.z B.y7) PyProof.Rows.boot_abs (p1 (pv 1)))) rfl)
   (pss_cons (ps_while PassesOwn.never (pt_cmpR op_gt (pv 3) pe_int (nomark _)) (pss_one (ps_par (i:=2) (j:=3) rfl nN rfl rfl (by decide) rfl rfl (p2 (pv 3) (pe_op op_mod (pv 2) (pv 3))) rfl)))
   (pss_cons (ps_if (pt_cmpR op_lt (pv 1) pe_int (nomark _)) (pss_one (pst 2 nN (pe_un un_neg (pv 2)))) pss_nil)
   (pss_one (ps_ret (pe_tup (p2 (pe_op Own.op_fdivW (pv 0) (pv 2)) (pe_op Own.op_fdivW (pv 1) (pv 2))))))))),?_⟩
 try dsimp only [cxOf]
 have gl:=gcd_le (n:=n) d0
 have gp:=gcd_pos (n:=n) d0
 refine ⟨_,rfl,n,rfl,_,rfl,d,rfl,_,_,rfl,?_⟩
 refine while_by (fun σ H1=>H1=H∧∃ a b:Nat,σ=[some (.int n),some (.int d),some (.int a),some (.int b)]∧Nat.gcd a b=Int.gcd n d) (fun σ _=>match σ with | [_,_,_,some (.int b)]=>b.toNat | _=>0) ⟨rfl,n.natAbs,d.natAbs,?_,rfl⟩ ?_ ?_
 ·show [some (V.int n),some (V.int d),some (V.int (if n<0 then -n else n)),some (V.int (if d<0 then -d else d))]=_
  rw [abs_eq,abs_eq]
 ·rintro σ H1 ⟨rfl,a,b,rfl,e⟩
  refine ⟨_,rfl,_,_,rfl,rfl,_,rfl,?_⟩
  refine ite2 (fun c=>?_) (fun c=>?_)
  ·have hb:(0:Int)<b:=of_decide_eq_true c
   refine ⟨_,rfl,_,rfl,_,rfl,_,_,rfl,rfl,(by omega),_,_,rfl,⟨rfl,b,a % b,?_,?_⟩,?_⟩
   ·rw [Int.natCast_emod]<;>rfl
   ·rw [gcd_turn];exact e
   ·show ((a:Int) % (b:Int)).toNat<((b:Nat):Int).toNat
    rw [←Int.natCast_emod,Int.toNat_natCast,Int.toNat_natCast]
    exact Nat.mod_lt _ (by omega)
  ·have hb:¬ (0:Int)<b:=of_decide_eq_false (Bool.eq_false_iff.mpr c)
   have hb:b=0:=by omega
   subst hb
   rw [Nat.gcd_zero_right] at e
   subst e
   refine ⟨_,rfl,_,_,rfl,rfl,_,rfl,?_⟩
   refine ite2 (fun c=>?_) (fun c=>?_)
   ·have c':d<0:=of_decide_eq_true c
    refine ⟨_,rfl,_,rfl,?_⟩
    have hd:CDivW n (-(Int.gcd n d:Int)):=⟨by omega,by omega⟩
    refine ⟨_,rfl,_,rfl,_,_,rfl,rfl,hd,_,rfl,_,rfl,_,_,rfl,rfl,hd,(by show 2≤sizeLine;decide),fun p hp=>?_⟩
    exact q _ _ p _ (fr_of d0 (.inr rfl) (fdiv_pos_of d0 (.inr ⟨c',rfl⟩))) (same_new hp _) upd_same
   ·have c':¬ d<0:=of_decide_eq_false (Bool.eq_false_iff.mpr c)
    have hd:CDivW n (Int.gcd n d:Int):=⟨by omega,by omega⟩
    refine ⟨_,rfl,_,rfl,_,_,rfl,rfl,hd,_,rfl,_,rfl,_,_,rfl,rfl,hd,(by show 2≤sizeLine;decide),fun p hp=>?_⟩
    exact q _ _ p _ (fr_of d0 (.inl rfl) (fdiv_pos_of d0 (.inl ⟨by omega,rfl⟩))) (same_new hp _) upd_same
 ·rintro σ H1 Q1 Q2 m ⟨v,e1,i1,j1,e3,e4,k,e2,q1⟩
  exact ⟨v,e1,i1,j1,e3,e4,k,e2,m _ _ q1⟩
theorem ok_law_plus (B:Fx):Hs "_law_plus" ["_law_one","_law_other"] 2 (spBin (fun a0 a1 b0 b1=>a0*b1+b0*a1) (fun _ a1 _ b1=>a1*b1)):=by
 refine hs_of B.X B.d18 sc_law_plus fun f cdv A outer s H vs Q E nN hr h=>?_
 obtain ⟨a,b,a0,a1,b0,b1,rfl,ha,hb,⟨z1,z2,z3,z4⟩,nz,q⟩:=h
 refine ⟨_,(pss_one (ps_ret (pf (ok_law_low B) hr (p2 (pe_op op_add (pe_op Own.op_mulW (pix ix_tup (pv 0) pe_int) (pix ix_tup (pv 1) pe_int)) (pe_op Own.op_mulW (pix ix_tup (pv 1) pe_int) (pix ix_tup (pv 0) pe_int))) (pe_op Own.op_mulW (pix ix_tup (pv 0) pe_int) (pix ix_tup (pv 1) pe_int)))))),?_⟩
 try dsimp only [cxOf]
 refine ⟨_,rfl,a,_,_,_,rfl,rfl,SqT.of ha,at0,_,rfl,b,_,_,_,rfl,rfl,SqT.of hb,at1,_,_,rfl,rfl,⟨w9 z1,w9 z4⟩,?_⟩
 refine ⟨_,rfl,b,_,_,_,rfl,rfl,SqT.of hb,at0,_,rfl,a,_,_,_,rfl,rfl,SqT.of ha,at1,_,_,rfl,rfl,⟨w9 z3,w9 z2⟩,_,_,rfl,rfl,?_⟩
 refine ⟨_,rfl,a,_,_,_,rfl,rfl,SqT.of ha,at1,_,rfl,b,_,_,_,rfl,rfl,SqT.of hb,at1,_,_,rfl,rfl,⟨w9 z2,w9 z4⟩,?_⟩
 exact ⟨_,_,rfl,nz,m9 z2 z4,q⟩
theorem ok_law_less (B:Fx):Hs "_law_less" ["_law_one","_law_other"] 2 (spBin (fun a0 a1 b0 b1=>a0*b1-b0*a1) (fun _ a1 _ b1=>a1*b1)):=by
 refine hs_of B.X B.d19 sc_law_less fun f cdv A outer s H vs Q E nN hr h=>?_
 obtain ⟨a,b,a0,a1,b0,b1,rfl,ha,hb,⟨z1,z2,z3,z4⟩,nz,q⟩:=h
 refine ⟨_,(pss_one (ps_ret (pf (ok_law_low B) hr (p2 (pe_op op_sub (pe_op Own.op_mulW (pix ix_tup (pv 0) pe_int) (pix ix_tup (pv 1) pe_int)) (pe_op Own.op_mulW (pix ix_tup (pv 1) pe_int) (pix ix_tup (pv 0) pe_int))) (pe_op Own.op_mulW (pix ix_tup (pv 0) pe_int) (pix ix_tup (pv 1) pe_int)))))),?_⟩
 try dsimp only [cxOf]
 refine ⟨_,rfl,a,_,_,_,rfl,rfl,SqT.of ha,at0,_,rfl,b,_,_,_,rfl,rfl,SqT.of hb,at1,_,_,rfl,rfl,⟨w9 z1,w9 z4⟩,?_⟩
 refine ⟨_,rfl,b,_,_,_,rfl,rfl,SqT.of hb,at0,_,rfl,a,_,_,_,rfl,rfl,SqT.of ha,at1,_,_,rfl,rfl,⟨w9 z3,w9 z2⟩,_,_,rfl,rfl,?_⟩
 refine ⟨_,rfl,a,_,_,_,rfl,rfl,SqT.of ha,at1,_,rfl,b,_,_,_,rfl,rfl,SqT.of hb,at1,_,_,rfl,rfl,⟨w9 z2,w9 z4⟩,?_⟩
 exact ⟨_,_,rfl,nz,m9 z2 z4,q⟩
theorem ok_law_times (B:Fx):Hs "_law_times" ["_law_one","_law_other"] 2 (spBin (fun a0 a1 b0 b1=>a0*b0) (fun _ a1 _ b1=>a1*b1)):=by
 refine hs_of B.X B.d20 sc_law_times fun f cdv A outer s H vs Q E nN hr h=>?_
 obtain ⟨a,b,a0,a1,b0,b1,rfl,ha,hb,⟨z1,z2,z3,z4⟩,nz,q⟩:=h
 refine ⟨_,(pss_one (ps_ret (pf (ok_law_low B) hr (p2 (pe_op Own.op_mulW (pix ix_tup (pv 0) pe_int) (pix ix_tup (pv 1) pe_int)) (pe_op Own.op_mulW (pix ix_tup (pv 0) pe_int) (pix ix_tup (pv 1) pe_int)))))),?_⟩
 try dsimp only [cxOf]
 refine ⟨_,rfl,a,_,_,_,rfl,rfl,SqT.of ha,at0,_,rfl,b,_,_,_,rfl,rfl,SqT.of hb,at0,_,_,rfl,rfl,⟨w9 z1,w9 z3⟩,?_⟩
 refine ⟨_,rfl,a,_,_,_,rfl,rfl,SqT.of ha,at1,_,rfl,b,_,_,_,rfl,rfl,SqT.of hb,at1,_,_,rfl,rfl,⟨w9 z2,w9 z4⟩,?_⟩
 exact ⟨_,_,rfl,nz,m9 z2 z4,q⟩
theorem ok_law_sign (B:Fx):Hs "_law_sign" ["_law_one"] 1 (spSign):=by
 refine hs_of B.X B.d21 sc_law_sign fun f cdv A outer s H vs Q E nN hr h=>?_
 obtain ⟨a,a0,a1,rfl,ha,q⟩:=h
 refine ⟨_,(pss_one (ps_ret (pe_op op_sub (pe_callTy call_int1 rfl (B.z B.y4) PyProof.Rows.boot_int (p1 (pe_cmpR op_gt (pix ix_tup (pv 0) pe_int) pe_int (nomark _)))) (pe_callTy call_int1 rfl (B.z B.y4) PyProof.Rows.boot_int (p1 (pe_cmpR op_lt (pix ix_tup (pv 0) pe_int) pe_int (nomark _))))))),?_⟩
 try dsimp only [cxOf]
 refine ⟨_,rfl,a,_,_,_,rfl,rfl,SqT.of ha,at0,_,_,rfl,rfl,.inr ⟨_,rfl,?_⟩⟩
 refine ⟨_,rfl,a,_,_,_,rfl,rfl,SqT.of ha,at0,_,_,rfl,rfl,.inr ⟨_,rfl,_,_,rfl,rfl,?_⟩⟩
 have e:sgn a0=(if decide (0<a0)=true then (1:Int) else 0)-(if decide (a0<0)=true then 1 else 0):=by
  unfold sgn
  by_cases h1:a0<0
  ·have h2:¬ 0<a0:=by omega
   simp [h1,h2]
  ·by_cases h2:0<a0<;>simp [h1,h2]
 rw [e] at q
 exact q
theorem ok_spread (B:Fx):Hs "spread" ["point"] 1 (spSpread):=by
 refine hs_of B.X B.d6 sc_spread fun f cdv A outer s H vs Q E nN hr h=>?_
 obtain ⟨p,P,rfl,⟨x,y,hp,hx,hy⟩,⟨_,_,z1,z2,z3,z4⟩,q⟩:=h
 refine ⟨_,(pss_cons (ps_asg (pv 0) (pg_tup (n:=2) rfl (pgs_cons (pg_tup (n:=2) rfl (pgs_cons (pgn 1 nN) (pgs_cons (pgn 2 nN) pgs_nil))) (pgs_cons (pg_tup (n:=2) rfl (pgs_cons (pgn 3 nN) (pgs_cons (pgn 4 nN) pgs_nil))) pgs_nil))))
   (pss_one (ps_ret (pe_tup (pa_cons (pe_op Own.op_mulW (pv 1) (pv 4)) (pa_cons (pe_op Own.op_mulW (pv 3) (pv 2)) (pa_cons (pe_op Own.op_mulW (pv 2) (pv 4)) pa_nil))))))),?_⟩
 try dsimp only [cxOf]
 refine ⟨_,rfl,p,_,rfl,SqT.of hp,rfl,_,_,rfl,x,_,rfl,SqT.of hx,rfl,_,_,rfl,_,_,rfl,rfl,_,_,rfl,y,_,rfl,SqT.of hy,rfl,_,_,rfl,_,_,rfl,rfl,rfl,?_⟩
 exact ⟨_,rfl,_,rfl,_,_,rfl,rfl,⟨w9 z1,w9 z4⟩,_,rfl,_,rfl,_,_,rfl,rfl,⟨w9 z3,w9 z2⟩,_,rfl,_,rfl,_,_,rfl,rfl,⟨w9 z2,w9 z4⟩,(by show 3≤sizeLine;decide),q⟩
theorem ok_across (B:Fx):Hs "across" ["one","other"] 1 (spAcross):=by
 refine hs_of B.X B.d7 sc_across fun f cdv A outer s H vs Q E nN hr h=>?_
 obtain ⟨p,q',a,b,c,k,m,n,rfl,hp,hq,⟨z1,z2,z3,z4,z5,z6⟩,q⟩:=h
 refine ⟨_,(pss_cons (ps_asg (pv 0) (pg_tup (n:=3) rfl (pgs_cons (pgn 2 nN) (pgs_cons (pgn 3 nN) (pgs_cons (pgn 4 nN) pgs_nil)))))
   (pss_cons (ps_asg (pv 1) (pg_tup (n:=3) rfl (pgs_cons (pgn 5 nN) (pgs_cons (pgn 6 nN) (pgs_cons (pgn 7 nN) pgs_nil)))))
   (pss_one (ps_ret (pe_tup (pa_cons (pe_op op_sub (pe_op Own.op_mulW (pv 3) (pv 7)) (pe_op Own.op_mulW (pv 4) (pv 6))) (pa_cons (pe_op op_sub (pe_op Own.op_mulW (pv 4) (pv 5)) (pe_op Own.op_mulW (pv 2) (pv 7))) (pa_cons (pe_op op_sub (pe_op Own.op_mulW (pv 2) (pv 6)) (pe_op Own.op_mulW (pv 3) (pv 5))) pa_nil)))))))),?_⟩
 try dsimp only [cxOf]
 have u:∀ {i:Int},i.natAbs<2 ^ 4000→i.natAbs<2 ^ 9000:=fun h=>up h (by decide)
 refine ⟨_,rfl,p,_,rfl,SqT.of hp,rfl,_,_,rfl,_,_,rfl,_,_,rfl,rfl,?_⟩
 refine ⟨_,rfl,q',_,rfl,SqT.of hq,rfl,_,_,rfl,_,_,rfl,_,_,rfl,rfl,?_⟩
 refine ⟨_,rfl,_,rfl,_,_,rfl,rfl,⟨u z2,u z6⟩,_,rfl,_,rfl,_,_,rfl,rfl,⟨u z3,u z5⟩,_,_,rfl,rfl,?_⟩
 refine ⟨_,rfl,_,rfl,_,_,rfl,rfl,⟨u z3,u z4⟩,_,rfl,_,rfl,_,_,rfl,rfl,⟨u z1,u z6⟩,_,_,rfl,rfl,?_⟩
 exact ⟨_,rfl,_,rfl,_,_,rfl,rfl,⟨u z1,u z5⟩,_,rfl,_,rfl,_,_,rfl,rfl,⟨u z2,u z4⟩,_,_,rfl,rfl,(by show 3≤sizeLine;decide),q⟩
theorem ok_law_apart (B:Fx):Hs "_law_apart" ["_law_one","_law_other"] 1 (spApart):=by
 refine hs_of B.X B.d26 sc_law_apart fun f cdv A outer s H vs Q E nN hr h=>?_
 obtain ⟨a,b,a0,a1,b0,b1,rfl,ha,hb,⟨z1,z2,z3,z4⟩,q⟩:=h
 refine ⟨_,(pss_one (ps_ret (pe_tup (p2 (pe_op op_sub (pe_op Own.op_mulW (pix ix_tup (pv 1) pe_int) (pix ix_tup (pv 0) pe_int)) (pe_op Own.op_mulW (pix ix_tup (pv 0) pe_int) (pix ix_tup (pv 1) pe_int))) (pe_op Own.op_mulW (pix ix_tup (pv 0) pe_int) (pix ix_tup (pv 1) pe_int)))))),?_⟩
 try dsimp only [cxOf]
 have w9:∀ {i:Int},i.natAbs<2 ^ 1700→i.natAbs<2 ^ 9000:=fun h=>up h (by decide)
 refine ⟨_,rfl,b,_,_,_,rfl,rfl,SqT.of hb,at0,_,rfl,a,_,_,_,rfl,rfl,SqT.of ha,at1,_,_,rfl,rfl,⟨w9 z3,w9 z2⟩,?_⟩
 refine ⟨_,rfl,a,_,_,_,rfl,rfl,SqT.of ha,at0,_,rfl,b,_,_,_,rfl,rfl,SqT.of hb,at1,_,_,rfl,rfl,⟨w9 z1,w9 z4⟩,_,_,rfl,rfl,?_⟩
 exact ⟨_,rfl,a,_,_,_,rfl,rfl,SqT.of ha,at1,_,rfl,b,_,_,_,rfl,rfl,SqT.of hb,at1,_,_,rfl,rfl,⟨w9 z2,w9 z4⟩,(by show 2≤sizeLine;decide),q⟩
theorem ok_greatest_divisor (B:Fx):Hs "greatest_divisor" ["one","other"] 1 (spGcd):=by
 refine hs_of B.X B.d0 sc_greatest_divisor fun f cdv A outer s H vs Q E nN hr h=>?_
 obtain ⟨i,j,rfl,q⟩:=h
 refine ⟨_,(pss_cons (pst 0 nN (pe_callB call_abs rfl (B.z B.y7) PyProof.Rows.boot_abs (p1 (pv 0))))
   (pss_cons (pst 1 nN (pe_callB call_abs rfl (B.z B.y7) PyProof.Rows.boot_abs (p1 (pv 1))))
   (pss_cons (ps_while PassesOwn.never (pt_cmpR op_ne (pv 1) pe_int (nomark _)) (pss_one (ps_par (i:=0) (j:=1) rfl nN rfl rfl (by decide) rfl rfl (p2 (pv 1) (pe_op op_mod (pv 0) (pv 1))) rfl)))
   (pss_one (ps_ret (pv 0)))))),?_⟩
 try dsimp only [cxOf]
 refine ⟨_,rfl,i,rfl,_,rfl,j,rfl,?_⟩
 refine while_by (fun σ H1=>H1=H∧∃ a b:Nat,σ=[some (.int a),some (.int b)]∧Nat.gcd a b=Int.gcd i j) (fun σ _=>match σ with | [_,some (.int b)]=>b.toNat | _=>0) ⟨rfl,i.natAbs,j.natAbs,?_,rfl⟩ ?_ ?_
 ·show [some (V.int (if i<0 then -i else i)),some (V.int (if j<0 then -j else j))]=_
  rw [abs_eq,abs_eq]
 ·rintro σ H1 ⟨rfl,a,b,rfl,e⟩
  refine ⟨_,rfl,rfl,_,rfl,?_⟩
  refine ite2 (fun c=>?_) (fun c=>?_)
  ·have hb:b≠0:=fun z=>by subst z;simp at c
   refine ⟨_,rfl,_,rfl,_,rfl,_,_,rfl,rfl,(by omega),_,_,rfl,⟨rfl,b,a % b,?_,?_⟩,?_⟩
   ·rw [Int.natCast_emod]<;>rfl
   ·rw [gcd_turn];exact e
   ·show ((a:Int) % (b:Int)).toNat<((b:Nat):Int).toNat
    rw [←Int.natCast_emod,Int.toNat_natCast,Int.toNat_natCast]
    exact Nat.mod_lt _ (by omega)
  ·have hb:b=0:=by
    simp at c
    omega
   subst hb
   refine ⟨_,rfl,?_⟩
   rw [Nat.gcd_zero_right] at e
   rw [←e] at q
   exact q
 ·rintro σ H1 Q1 Q2 m ⟨v,e1,s1,k,e2,q1⟩
  exact ⟨v,e1,s1,k,e2,m _ _ q1⟩
theorem ok_fraction (B:Fx):Hs "fraction" ["n","d"] 2 (spFr):=by
 refine hs_of B.X B.d1 sc_fraction fun f cdv A outer s H vs Q E nN hr h=>?_
 obtain ⟨n,d,rfl,d0,hz,q⟩:=h
 refine ⟨_,(pss_cons (pst 2 nN (pf (ok_greatest_divisor B) hr (p2 (pv 0) (pv 1))))
   (pss_cons (ps_if (pt_cmpR op_lt (pv 1) pe_int (nomark _)) (pss_one (pst 2 nN (pe_un un_neg (pv 2)))) pss_nil)
   (pss_one (ps_ret (pe_tup (p2 (pe_op Own.op_fdivW (pv 0) (pv 2)) (pe_op Own.op_fdivW (pv 1) (pv 2)))))))),?_⟩
 try dsimp only [cxOf]
 have gl:=gcd_le (n:=n) d0
 have gp:=gcd_pos (n:=n) d0
 refine ⟨_,rfl,_,rfl,n,d,rfl,?_⟩
 refine ⟨_,rfl,_,_,rfl,rfl,_,rfl,?_⟩
 refine ite2 (fun c=>?_) (fun c=>?_)
 ·have c':d<0:=of_decide_eq_true c
  refine ⟨_,rfl,_,rfl,?_⟩
  have hd:CDivW n (-(Int.gcd n d:Int)):=⟨by omega,by omega⟩
  refine ⟨_,rfl,_,rfl,_,_,rfl,rfl,hd,_,rfl,_,rfl,_,_,rfl,rfl,hd,(by show 2≤sizeLine;decide),fun p hp=>?_⟩
  exact q _ _ p _ (fr_of d0 (.inr rfl) (fdiv_pos_of d0 (.inr ⟨c',rfl⟩))) (same_new hp _) upd_same
 ·have c':¬ d<0:=of_decide_eq_false (Bool.eq_false_iff.mpr c)
  have hd:CDivW n (Int.gcd n d:Int):=⟨by omega,by omega⟩
  refine ⟨_,rfl,_,rfl,_,_,rfl,rfl,hd,_,rfl,_,rfl,_,_,rfl,rfl,hd,(by show 2≤sizeLine;decide),fun p hp=>?_⟩
  exact q _ _ p _ (fr_of d0 (.inl rfl) (fdiv_pos_of d0 (.inl ⟨by omega,rfl⟩))) (same_new hp _) upd_same
theorem ok_less (B:Fx):Hs "less" ["one","other"] 3 (spBin (fun a0 a1 b0 b1=>a0*b1-b0*a1) (fun _ a1 _ b1=>a1*b1)):=by
 refine hs_of B.X B.d2 sc_less fun f cdv A outer s H vs Q E nN hr h=>?_
 obtain ⟨a,b,a0,a1,b0,b1,rfl,ha,hb,⟨z1,z2,z3,z4⟩,nz,q⟩:=h
 refine ⟨_,(pss_one (ps_ret (pf (ok_fraction B) hr (p2 (pe_op op_sub (pe_op Own.op_mulW (pix ix_tup (pv 0) pe_int) (pix ix_tup (pv 1) pe_int)) (pe_op Own.op_mulW (pix ix_tup (pv 1) pe_int) (pix ix_tup (pv 0) pe_int))) (pe_op Own.op_mulW (pix ix_tup (pv 0) pe_int) (pix ix_tup (pv 1) pe_int)))))),?_⟩
 try dsimp only [cxOf]
 refine ⟨_,rfl,a,_,_,_,rfl,rfl,SqT.of ha,at0,_,rfl,b,_,_,_,rfl,rfl,SqT.of hb,at1,_,_,rfl,rfl,⟨w9 z1,w9 z4⟩,?_⟩
 refine ⟨_,rfl,b,_,_,_,rfl,rfl,SqT.of hb,at0,_,rfl,a,_,_,_,rfl,rfl,SqT.of ha,at1,_,_,rfl,rfl,⟨w9 z3,w9 z2⟩,_,_,rfl,rfl,?_⟩
 refine ⟨_,rfl,a,_,_,_,rfl,rfl,SqT.of ha,at1,_,rfl,b,_,_,_,rfl,rfl,SqT.of hb,at1,_,_,rfl,rfl,⟨w9 z2,w9 z4⟩,?_⟩
 exact ⟨_,_,rfl,nz,m9 z2 z4,q⟩
theorem PtAt.kept {H H':Hp} {p:Addr} {P:Pt} (h:PtAt H p P) (g:Same H H'):PtAt H' p P:=by
 obtain ⟨x,y,h1,h2,h3⟩:=h
 exact ⟨x,y,g _ _ h1,g _ _ h2,g _ _ h3⟩
theorem PtAt.but {H H':Hp} {p a:Addr} {P:Pt} {xs:List V} (h:PtAt H p P) (ha:H a=some (.lst xs)) (g:SameBut a H H'):PtAt H' p P:=by
 obtain ⟨x,y,h1,h2,h3⟩:=h
 exact ⟨x,y,g _ _ (ne_of h1 ha (by intro z;cases z)) h1,g _ _ (ne_of h2 ha (by intro z;cases z)) h2,g _ _ (ne_of h3 ha (by intro z;cases z)) h3⟩
theorem sp_lt {P:Pt} (z:Sz 1000 P):(P.n*P.e).natAbs<2 ^ 2000∧(P.m*P.d).natAbs<2 ^ 2000∧(P.d*P.e).natAbs<2 ^ 2000:=by
 obtain ⟨_,_,z1,z2,z3,z4⟩:=z
 exact ⟨mul_lt_pow z1 z4,mul_lt_pow z3 z2,mul_lt_pow z2 z4⟩
theorem ok_hand (B:Fx):Hs "hand" ["p","q","r"] 2 (spHand det):=by
 refine hs_of B.X B.d8 sc_hand fun f cdv A outer s H vs Q E nN hr h=>?_
 obtain ⟨p,q',r,P,P',R,rfl,hp,hq,hR,zp,zq,zr,q⟩:=h
 refine ⟨_,(pss_cons (ps_asg (pf (ok_across B) hr (p2 (pf (ok_spread B) hr (p1 (pv 0))) (pf (ok_spread B) hr (p1 (pv 1))))) (pg_tup (n:=3) rfl (pgs_cons (pgn 3 nN) (pgs_cons (pgn 4 nN) (pgs_cons (pgn 5 nN) pgs_nil)))))
   (pss_cons (ps_asg (pf (ok_spread B) hr (p1 (pv 2))) (pg_tup (n:=3) rfl (pgs_cons (pgn 6 nN) (pgs_cons (pgn 7 nN) (pgs_cons (pgn 8 nN) pgs_nil)))))
   (pss_one (ps_ret (pf (ok_sign B) hr (p1 (pe_tup (p2 (pe_op op_add (pe_op op_add (pe_op Own.op_mulW (pv 3) (pv 6)) (pe_op Own.op_mulW (pv 4) (pv 7))) (pe_op Own.op_mulW (pv 5) (pv 8))) pe_int)))))))),?_⟩
 try dsimp only [cxOf]
 obtain ⟨s1,s2,s3⟩:=sp_lt zp
 obtain ⟨t1,t2,t3⟩:=sp_lt zq
 obtain ⟨u1,u2,u3⟩:=sp_lt zr
 have v:∀ {i:Int},i.natAbs<2 ^ 2000→i.natAbs<2 ^ 4000:=fun h=>up h (by decide)
 have v9:∀ {i:Int},i.natAbs<2 ^ 2000→i.natAbs<2 ^ 9000:=fun h=>up h (by decide)
 refine ⟨_,rfl,p,P,rfl,hp,zp,fun a1 n1=>?_⟩
 have g1:=same_new n1 (.tup [.int (P.n*P.e),.int (P.m*P.d),.int (P.d*P.e)])
 refine ⟨_,rfl,q',P',rfl,hq.kept g1,zq,fun a2 n2=>?_⟩
 have g2:=same_new n2 (.tup [.int (P'.n*P'.e),.int (P'.m*P'.d),.int (P'.d*P'.e)])
 refine ⟨a1,a2,_,_,_,_,_,_,rfl,g2 _ _ upd_same,upd_same,⟨v s1,v s2,v s3,v t1,v t2,v t3⟩,fun a3 n3=>?_⟩
 refine ⟨a3,_,rfl,SqT.of upd_same,rfl,_,_,rfl,_,_,rfl,_,_,rfl,rfl,?_⟩
 have g3:=(g1.trans g2).trans (same_new n3 (.tup [.int (P.m*P.d*(P'.d*P'.e)-P.d*P.e*(P'.m*P'.d)),.int (P.d*P.e*(P'.n*P'.e)-P.n*P.e*(P'.d*P'.e)),.int (P.n*P.e*(P'.m*P'.d)-P.m*P.d*(P'.n*P'.e))]))
 refine ⟨_,rfl,r,R,rfl,hR.kept g3,zr,fun a4 n4=>?_⟩
 have g4:=g3.trans (same_new n4 (.tup [.int (R.n*R.e),.int (R.m*R.d),.int (R.d*R.e)]))
 refine ⟨a4,_,rfl,SqT.of upd_same,rfl,_,_,rfl,_,_,rfl,_,_,rfl,rfl,?_⟩
 have w:∀ {i j k l:Int},i.natAbs<2 ^ 2000→j.natAbs<2 ^ 2000→k.natAbs<2 ^ 2000→l.natAbs<2 ^ 2000→(i*j-k*l).natAbs<2 ^ 9000:=fun h1 h2 h3 h4=>up (sub_lt_pow (mul_lt_pow h1 h2) (mul_lt_pow h3 h4)) (by decide)
 refine ⟨_,rfl,_,rfl,_,_,rfl,rfl,⟨w s2 t3 s3 t2,v9 u1⟩,_,rfl,_,rfl,_,_,rfl,rfl,⟨w s3 t1 s1 t3,v9 u2⟩,_,_,rfl,rfl,_,rfl,_,rfl,_,_,rfl,rfl,⟨w s1 t2 s2 t1,v9 u3⟩,_,_,rfl,rfl,(by show 2≤sizeLine;decide),fun a5 n5=>?_⟩
 refine ⟨a5,_,_,rfl,upd_same,?_⟩
 exact q _ (g4.trans (same_new n5 _))
theorem ok_law_hand (B:Fx):Hs "_law_hand" ["_law_p","_law_q","_law_r"] 2 (spHandL):=by
 refine hs_of B.X B.d27 sc_law_hand fun f cdv A outer s H vs Q E nN hr h=>?_
 obtain ⟨p,q',r,P,P',R,rfl,⟨px,py,hp,hpx,hpy⟩,⟨qx,qy,hq,hqx,hqy⟩,⟨rx,ry,hR,hrx,hry⟩,⟨_,_,o1,o2,o3,o4⟩,⟨_,_,q1,q2,q3,q4⟩,⟨_,_,r1,r2,r3,r4⟩,q⟩:=h
 refine ⟨_,(pss_cons (ps_par (i:=3) (j:=4) rfl nN rfl rfl (by decide) rfl rfl (p2 (pf (ok_law_apart B) hr (p2 (pix ix_tup (pv 0) pe_int) (pix ix_tup (pv 1) pe_int))) (pf (ok_law_apart B) hr (p2 (pix ix_tup (pv 0) pe_int) (pix ix_tup (pv 1) pe_int)))) rfl)
   (pss_cons (ps_par (i:=5) (j:=6) rfl nN rfl rfl (by decide) rfl rfl (p2 (pf (ok_law_apart B) hr (p2 (pix ix_tup (pv 0) pe_int) (pix ix_tup (pv 2) pe_int))) (pf (ok_law_apart B) hr (p2 (pix ix_tup (pv 0) pe_int) (pix ix_tup (pv 2) pe_int)))) rfl)
   (pss_one (ps_ret (pf (ok_law_sign B) hr (p1 (pe_tup (p2 (pe_op op_sub (pe_op Own.op_mulW (pe_op Own.op_mulW (pe_op Own.op_mulW (pix ix_tup (pv 3) pe_int) (pix ix_tup (pv 6) pe_int)) (pix ix_tup (pv 4) pe_int)) (pix ix_tup (pv 5) pe_int)) (pe_op Own.op_mulW (pe_op Own.op_mulW (pe_op Own.op_mulW (pix ix_tup (pv 4) pe_int) (pix ix_tup (pv 5) pe_int)) (pix ix_tup (pv 3) pe_int)) (pix ix_tup (pv 6) pe_int))) pe_int)))))))),?_⟩
 try dsimp only [cxOf]
 have ul:∀ {i:Int},i.natAbs<2 ^ 210→i.natAbs<2 ^ 1700:=fun h=>up h (by decide)
  -- a, b
 refine ⟨_,rfl,p,_,_,_,rfl,rfl,SqT.of hp,at0,_,rfl,q',_,_,_,rfl,rfl,SqT.of hq,at0,px,qx,_,_,_,_,rfl,hpx,hqx,⟨ul o1,ul o2,ul q1,ul q2⟩,fun t1 n1=>?_⟩
 have g1:=same_new n1 (.tup [.int (P'.n*P.d-P.n*P'.d),.int (P.d*P'.d)])
 refine ⟨_,rfl,p,_,_,_,rfl,rfl,SqT.of (g1 _ _ hp),at1,_,rfl,q',_,_,_,rfl,rfl,SqT.of (g1 _ _ hq),at1,py,qy,_,_,_,_,rfl,g1 _ _ hpy,g1 _ _ hqy,⟨ul o3,ul o4,ul q3,ul q4⟩,fun t2 n2=>?_⟩
 refine ⟨_,_,rfl,?_⟩
 have g2:=g1.trans (same_new n2 (.tup [.int (P'.m*P.e-P.m*P'.e),.int (P.e*P'.e)]))
 have b1:=(same_new n2 (.tup [.int (P'.m*P.e-P.m*P'.e),.int (P.e*P'.e)])) _ _ (upd_same (H:=H) (a:=t1) (o:=.tup [.int (P'.n*P.d-P.n*P'.d),.int (P.d*P'.d)]))
 have b2:=upd_same (H:=upd H t1 (.tup [.int (P'.n*P.d-P.n*P'.d),.int (P.d*P'.d)])) (a:=t2) (o:=.tup [.int (P'.m*P.e-P.m*P'.e),.int (P.e*P'.e)])
 generalize upd (upd H t1 (.tup [.int (P'.n*P.d-P.n*P'.d),.int (P.d*P'.d)])) t2 (.tup [.int (P'.m*P.e-P.m*P'.e),.int (P.e*P'.e)])=H2 at *
  -- c, d
 refine ⟨_,rfl,p,_,_,_,rfl,rfl,SqT.of (g2 _ _ hp),at0,_,rfl,r,_,_,_,rfl,rfl,SqT.of (g2 _ _ hR),at0,px,rx,_,_,_,_,rfl,g2 _ _ hpx,g2 _ _ hrx,⟨ul o1,ul o2,r1,r2⟩,fun t3 n3=>?_⟩
 have g3:=same_new n3 (.tup [.int (R.n*P.d-P.n*R.d),.int (P.d*R.d)])
 have h3:=g2.trans g3
 refine ⟨_,rfl,p,_,_,_,rfl,rfl,SqT.of (h3 _ _ hp),at1,_,rfl,r,_,_,_,rfl,rfl,SqT.of (h3 _ _ hR),at1,py,ry,_,_,_,_,rfl,h3 _ _ hpy,h3 _ _ hry,⟨ul o3,ul o4,r3,r4⟩,fun t4 n4=>?_⟩
 refine ⟨_,_,rfl,?_⟩
 have g4:=same_new n4 (.tup [.int (R.m*P.e-P.m*R.e),.int (P.e*R.e)])
 have h4:=h3.trans g4
 have b3:=g4 _ _ (upd_same (H:=H2) (a:=t3) (o:=.tup [.int (R.n*P.d-P.n*R.d),.int (P.d*R.d)]))
 have b4:=upd_same (H:=upd H2 t3 (.tup [.int (R.n*P.d-P.n*R.d),.int (P.d*R.d)])) (a:=t4) (o:=.tup [.int (R.m*P.e-P.m*R.e),.int (P.e*R.e)])
 have b1:=(g3.trans g4) _ _ b1
 have b2:=(g3.trans g4) _ _ b2
 generalize upd (upd H2 t3 (.tup [.int (R.n*P.d-P.n*R.d),.int (P.d*R.d)])) t4 (.tup [.int (R.m*P.e-P.m*R.e),.int (P.e*R.e)])=H4 at *
 have c1:(P'.n*P.d-P.n*P'.d).natAbs<2 ^ 421:=sub_lt_pow (mul_lt_pow q1 o2) (mul_lt_pow o1 q2)
 have c3:(P'.m*P.e-P.m*P'.e).natAbs<2 ^ 421:=sub_lt_pow (mul_lt_pow q3 o4) (mul_lt_pow o3 q4)
 have c2:(R.m*P.e-P.m*R.e).natAbs<2 ^ 1911:=sub_lt_pow (up (mul_lt_pow r3 o4) (by decide)) (up (mul_lt_pow o3 r4) (by decide))
 have c4:(R.n*P.d-P.n*R.d).natAbs<2 ^ 1911:=sub_lt_pow (up (mul_lt_pow r1 o2) (by decide)) (up (mul_lt_pow o1 r2) (by decide))
 have v1:∀ {i:Int},i.natAbs<2 ^ 421→i.natAbs<2 ^ 9000:=fun h=>up h (by decide)
 have v2:∀ {i:Int},i.natAbs<2 ^ 1911→i.natAbs<2 ^ 9000:=fun h=>up h (by decide)
 have m2:∀ {i j:Int},i.natAbs<2 ^ 210→j.natAbs<2 ^ 210→(i*j).natAbs<2 ^ 9000:=fun h1 h2=>up (mul_lt_pow h1 h2) (by decide)
 have m3:∀ {i j:Int},i.natAbs<2 ^ 210→j.natAbs<2 ^ 1700→(i*j).natAbs<2 ^ 9000:=fun h1 h2=>up (mul_lt_pow h1 h2) (by decide)
 have u4:∀ {i j:Int},i.natAbs<2 ^ 421→j.natAbs<2 ^ 1911→(i*j).natAbs<2 ^ 9000:=fun h h'=>up (mul_lt_pow h h') (by decide)
 have u6:∀ {i j k l:Int},i.natAbs<2 ^ 421→j.natAbs<2 ^ 1911→k.natAbs<2 ^ 210→l.natAbs<2 ^ 210→(i*j*(k*l)).natAbs<2 ^ 9000:=fun h h' h2 h3=>up (mul_lt_pow (mul_lt_pow h h') (mul_lt_pow h2 h3)) (by decide)
 refine ⟨_,rfl,t1,_,_,_,rfl,rfl,SqT.of b1,at0,_,rfl,t4,_,_,_,rfl,rfl,SqT.of b4,at0,_,_,rfl,rfl,⟨v1 c1,v2 c2⟩,_,rfl,t2,_,_,_,rfl,rfl,SqT.of b2,at1,_,_,rfl,rfl,⟨u4 c1 c2,m2 o4 q4⟩,_,rfl,t3,_,_,_,rfl,rfl,SqT.of b3,at1,_,_,rfl,rfl,⟨u6 c1 c2 o4 q4,m3 o2 r2⟩,?_⟩
 refine ⟨_,rfl,t2,_,_,_,rfl,rfl,SqT.of b2,at0,_,rfl,t3,_,_,_,rfl,rfl,SqT.of b3,at0,_,_,rfl,rfl,⟨v1 c3,v2 c4⟩,_,rfl,t1,_,_,_,rfl,rfl,SqT.of b1,at1,_,_,rfl,rfl,⟨u4 c3 c4,m2 o2 q2⟩,_,rfl,t4,_,_,_,rfl,rfl,SqT.of b4,at1,_,_,rfl,rfl,⟨u6 c3 c4 o2 q2,m3 o4 r4⟩,_,_,rfl,rfl,(by show 2≤sizeLine;decide),fun t5 n5=>?_⟩
 refine ⟨t5,_,_,rfl,upd_same,?_⟩
 exact q _ (h4.trans (same_new n5 _))
theorem Fz.of_fr {B:Nat} {n d n' d':Int} (fr:Fr n d n' d') (hn:n.natAbs<2 ^ B) (hd:d.natAbs<2 ^ B):Fz B n' d':=⟨fr.pos,Nat.lt_of_le_of_lt fr.ln hn,Nat.lt_of_le_of_lt fr.ld hd⟩
theorem fars {d u:Int} (h0:0≤d) (h1:d<3) (u0:0<u) (u1:u.natAbs<2 ^ 190):∃ f:Int,atI [V.int (10 ^ (3:Int).toNat),V.int (10 ^ (12:Int).toNat),V.int u] d=some (.int f)∧0<f∧f.natAbs<2 ^ 190:=by
 have:d=0∨d=1∨d=2:=by omega
 rcases this with rfl | rfl | rfl
 ·exact ⟨_,rfl,by decide,by decide⟩
 ·exact ⟨_,rfl,by decide,by decide⟩
 ·exact ⟨_,rfl,u0,u1⟩
--SPLIT
open Mth Sca
inductive spNumber (vs:List V) (H:Hp) (Q:VK) (Y:XK):Prop
 | mk:∀ (a:Addr) (mode:Int),(vs=[.ref a,.int mode])→(PotAt H a)→(0≤mode)→(∀ (n d:Int) (p:Addr) (H':Hp),Fz (if mode<2 then 10 else 200) n d→Int.gcd n d=1→(mode<2→Cd 6 4 n d)→SameBut a H H'→PotAt H' a→H' p=some (.tup [.int n,.int d])→Q (.ref p) H')→spNumber vs H Q Y
def Okp (mode:Int) (i:Nat) (P:Pt):Prop:=Lw P∧Sz 206 P∧(mode<2→Cd (sc i) (vv i) P.n P.d∧Cd (sc i) (vv i) P.m P.e)
def Okq (mode:Int) (i:Nat) (P:Pt):Prop:=Lw P∧Sz 200 P∧(mode<2→Cd (sc i*6) (5*vv i+4) P.n P.d∧Cd (sc i*6) (5*vv i+4) P.m P.e)
def ListAt (H:Hp) (l:Addr) (mode:Int) (i n:Nat):Prop:=∃ ps:List Addr,H l=some (.lst (ps.map V.ref))∧ps.length=n∧∀ p∈ps,∃ P,PtAt H p P∧Okp mode i P
inductive spPoint (vs:List V) (H:Hp) (Q:VK) (Y:XK):Prop
 | mk:∀ (a l:Addr) (mode:Int) (i n:Nat),(vs=[.ref a,.ref l,.int mode])→(PotAt H a)→(ListAt H l mode i n)→(a≠l)→(0≤mode)→(i≤7)→(n≤8)→(∀ (P:Pt) (p:Addr) (H':Hp),Okq mode i P→SameBut a H H'→PotAt H' a→PtAt H' p P→Q (.ref p) H')→spPoint vs H Q Y
inductive spPoints (vs:List V) (H:Hp) (Q:VK) (Y:XK):Prop
 | mk:∀ (a:Addr) (m:Nat),(vs=[.ref a,.int (m:Int)])→(PotAt H a)→(m≤8)→(∀ (t:Addr) (ps:List Addr) (H':Hp),SameBut a H H'→PotAt H' a→H' t=some (.tup (ps.map V.ref))→ps.length=m→(∀ p∈ps,∃ P,PtAt H' p P∧Sz 206 P∧Lw P)→Q (.ref t) H')→spPoints vs H Q Y
theorem seq_two {t r:TS} {D:Ends} {σ:St} {H:Hp} (I:St→Hp→Prop) (k:∀ σ H,I σ H→r D σ H) (h:(∀ σ H,I σ H→r D σ H)→tSeq t r D σ H):tSeq t r D σ H:=h k
theorem cd_small {n d n' d':Int} (h0:n.natAbs≤4) (h1:0<d) (h2:d≤3) (f:Fr n d n' d'):Cd 6 4 n' d':=by
 have e:=f.eq
 have:d=1∨d=2∨d=3:=by omega
 rcases this with rfl | rfl | rfl
 ·have z:n'*6=6*n*d':=by
   have:n'=n*d':=by omega
   rw [this]
   grind
  exact ⟨6*n,⟨f.pos,z⟩,by omega⟩
 ·have z:n'*6=3*n*d':=by
   have:n'*6=3*(n'*2):=by omega
   rw [this,e]
   grind
  exact ⟨3*n,⟨f.pos,z⟩,by omega⟩
 ·have z:n'*6=2*n*d':=by
   have:n'*6=2*(n'*3):=by omega
   rw [this,e]
   grind
  exact ⟨2*n,⟨f.pos,z⟩,by omega⟩
theorem ok_law_number (B:Fx):Hs "_law_number" ["_law_pot_here","_law_mode"] 2 (spNumber):=by
 refine hs_of B.X B.d22 sc_law_number fun f cdv A outer s H vs Q E nN hr h=>?_
 obtain ⟨a,mode,rfl,ha,m0,q⟩:=h
 refine ⟨_,(pss_cons (ps_if (pt_cmpR op_eq (pv 1) pe_int (nomark _)) (pss_one (ps_ret (pf (ok_law_low B) hr (p2 (pe_op op_sub (pf (ok_law_digit B) hr (p2 (pv 0) pe_int)) pe_int) (pe_op op_add pe_int (pf (ok_law_digit B) hr (p2 (pv 0) pe_int))))))) pss_nil)
   (pss_cons (ps_if (pt_cmpR op_eq (pv 1) pe_int (nomark _)) (pss_one (ps_ret (pe_tup (p2 (pe_op op_sub (pf (ok_law_digit B) hr (p2 (pv 0) pe_int)) pe_int) pe_int)))) pss_nil)
   (pss_cons (pst 2 nN (pix ix_list (pe_lst (pa_cons (pe_op op_pow pe_int pe_int) (pa_cons (pe_op op_pow pe_int pe_int) (pa_cons (pix ix_list (pe_lst (p2 (pe_op op_pow pe_int pe_int) (pe_op op_pow pe_int pe_int))) (pe_callTy call_int1 rfl (B.z B.y4) PyProof.Rows.boot_int (p1 (pe_cmpR op_eq (pv 1) pe_int (nomark _))))) pa_nil)))) (pf (ok_law_digit B) hr (p2 (pv 0) pe_int))))
   (pss_one (ps_ret (pf (ok_law_low B) hr (p2 (pe_op op_sub (pf (ok_law_digit B) hr (p2 (pv 0) (pe_op Own.op_mulW pe_int (pv 2)))) (pv 2)) (pe_op op_add pe_int (pf (ok_law_digit B) hr (p2 (pv 0) (pv 2))))))))))),?_⟩
 try dsimp only [cxOf]
 refine ⟨_,rfl,rfl,_,rfl,?_⟩
 refine ite2 (fun e=>?_) (fun e=>?_)
 ·have e':mode=0:=by simpa using e
  rw [if_pos (by omega)] at q
  refine ⟨_,rfl,a,9,rfl,ha,by decide,lit9 (by decide),fun c H1 c0 c1 s1 p1=>⟨_,_,rfl,rfl,?_⟩⟩
  refine ⟨_,rfl,a,3,rfl,p1,by decide,lit9 (by decide),fun d H2 d0 d1 s2 p2=>⟨_,_,rfl,rfl,?_⟩⟩
  refine ⟨_,_,rfl,(by omega),lit9 (Nat.lt_trans (m:=10) (by omega) (by decide)),fun n' d' p H3 fr g hp=>?_⟩
  exact q n' d' p H3 (Fz.of_fr fr (Nat.lt_trans (m:=10) (by omega) (by decide)) (Nat.lt_trans (m:=10) (by omega) (by decide))) fr.co (fun _=>cd_small (by omega) (by omega) (by omega) fr) (s1.trans (s2.trans (.of g))) (p2.kept g) hp
 refine ⟨_,rfl,rfl,_,rfl,?_⟩
 refine ite2 (fun e=>?_) (fun e2=>?_)
 ·have e':mode=1:=by simpa using e
  rw [if_pos (by omega)] at q
  refine ⟨_,rfl,a,7,rfl,ha,by decide,lit9 (by decide),fun c H1 c0 c1 s1 p1=>⟨_,_,rfl,rfl,(by show 2≤sizeLine;decide),fun p hp=>?_⟩⟩
  exact q _ _ p _ ⟨by decide,Nat.lt_trans (m:=10) (by omega) (by decide),by decide⟩ (Int.gcd_one_right ..) (fun _=>⟨(c-3)*6,⟨by decide,by omega⟩,by omega⟩) (s1.trans (.of (same_new hp _))) (p1.kept (same_new hp _)) upd_same
 have e':mode≠0:=fun z=>e (by subst z;rfl)
 have e2':mode≠1:=fun z=>e2 (by subst z;rfl)
 rw [if_neg (by omega)] at q
 refine ⟨_,_,rfl,rfl,⟨by decide,by decide,by decide⟩,_,_,rfl,rfl,⟨by decide,by decide,by decide⟩,_,_,rfl,rfl,⟨by decide,by decide,by decide⟩,_,_,rfl,rfl,⟨by decide,by decide,by decide⟩,(by show 2≤sizeLine;decide),fun l0 hl0=>?_⟩
 have g00:=same_new hl0 (.lst [V.int (10 ^ (57:Int).toNat),V.int (10 ^ (12:Int).toNat)])
 obtain ⟨u,hu,u0,u1⟩ : ∃ u:Int,atI [V.int (10 ^ (57:Int).toNat),V.int (10 ^ (12:Int).toNat)] (if decide (V.int mode=V.int 3)=true then 1 else 0)=some (.int u)∧0<u∧u.natAbs<2 ^ 190:=by
  by_cases c:decide (V.int mode=V.int 3)=true
  ·rw [if_pos c]
   exact ⟨_,rfl,by decide,by decide⟩
  ·rw [if_neg c]
   exact ⟨_,rfl,by decide,by decide⟩
 refine ⟨_,rfl,rfl,.inr ⟨_,rfl,l0,_,_,_,rfl,rfl,SqL.of upd_same,hu,(by show 3≤sizeLine;decide),fun l hl=>?_⟩⟩
 have g0:=g00.trans (same_new hl (.lst [V.int (10 ^ (3:Int).toNat),V.int (10 ^ (12:Int).toNat),V.int u]))
 have la:l≠a:=by
  obtain ⟨x,y,z,_⟩:=ha
  exact (ne_of_none (g00 _ _ z) hl).symm
 refine ⟨_,rfl,a,3,rfl,ha.kept g0,by decide,lit9 (by decide),fun c H1 c0 c1 s1 p1=>?_⟩
 obtain ⟨f,hf,f0,f1⟩:=fars c0 c1 u0 u1
 refine ⟨l,_,_,_,rfl,rfl,SqL.of (s1 _ _ la upd_same),hf,?_⟩
 have k1:=(SameBut.of (a:=a) g0).trans s1
 have f9:f.natAbs<2 ^ 9000:=up f1 (by decide)
 have f2:(2*f).natAbs<2 ^ 191:=by
  rw [show (2:Nat) ^ 191=2 ^ 190*2 by decide]
  omega
 refine ⟨_,rfl,_,rfl,_,_,rfl,rfl,⟨lit9 (by decide),f9⟩,a,_,rfl,p1,(by omega),up f2 (by decide),fun d H2 d0 d1 s2 p2=>⟨_,rfl,_,_,rfl,rfl,?_⟩⟩
 refine ⟨_,rfl,_,rfl,a,_,rfl,p2,f0,f9,fun d' H3 d0' d1' s3 p3=>⟨_,_,rfl,rfl,?_⟩⟩
 have b1:(d-f).natAbs<2 ^ 200:=Nat.lt_of_le_of_lt (m:=(2*f).natAbs) (by omega) (up f2 (by decide))
 have b2:(1+d').natAbs<2 ^ 200:=Nat.lt_of_le_of_lt (m:=(2*f).natAbs) (by omega) (up f2 (by decide))
 refine ⟨_,_,rfl,(by omega),lit9 b2,fun n' d' p H4 fr g hp=>?_⟩
 exact q n' d' p H4 (Fz.of_fr fr b1 b2) fr.co (fun z=>by omega) (k1.trans (s2.trans (s3.trans (.of g)))) (p3.kept g) hp
theorem mul_ne {a b:Int} (h:a≠0) (h':b≠0):a*b≠0:=fun e=>by
 rcases Int.mul_eq_zero.mp e with z | z
 ·exact h z
 ·exact h' z
theorem pos_ne {a:Int} (h:0<a):a≠0:=by omega
theorem ok_law_between (B:Fx):Hs "_law_between" ["_law_one","_law_other","_law_part"] 3 (spBetween):=by
 refine hs_of B.X B.d23 sc_law_between fun f cdv A outer s H vs Q E nN hr h=>?_
 obtain ⟨a,b,c,a0,a1,b0,b1,c0,c1,B0,rfl,ha,hb,hc,⟨ap,az,ay⟩,⟨bp,bz,bY⟩,⟨cp,cz,cy⟩,hB,q⟩:=h
 refine ⟨_,(pss_one (ps_ret (pf (ok_law_plus B) hr (p2 (pv 0) (pf (ok_law_times B) hr (p2 (pv 2) (pf (ok_law_less B) hr (p2 (pv 1) (pv 0))))))))),?_⟩
 try dsimp only [cxOf]
 have u:∀ {i:Int},i.natAbs<2 ^ B0→i.natAbs<2 ^ 4000:=fun h=>up h (by omega)
 have u2:∀ {i:Int},i.natAbs<2 ^ 2→i.natAbs<2 ^ 4000:=fun h=>up h (by omega)
 refine ⟨_,rfl,_,rfl,_,rfl,_,rfl,b,a,b0,b1,a0,a1,rfl,hb,ha,⟨u bz,u bY,u az,u ay⟩,mul_ne (pos_ne bp) (pos_ne ap),fun n1 d1 p1 H1 fr1 g1 hp1=>?_⟩
 have x1:n1.natAbs<2 ^ (B0+B0+1):=Nat.lt_of_le_of_lt fr1.ln (sub_lt_pow (mul_lt_pow bz ay) (mul_lt_pow az bY))
 have x2:d1.natAbs<2 ^ (B0+B0):=Nat.lt_of_le_of_lt fr1.ld (mul_lt_pow bY ay)
 refine ⟨c,p1,c0,c1,n1,d1,rfl,g1 _ _ hc,hp1,⟨u2 cz,u2 cy,up x1 (by omega),up x2 (by omega)⟩,mul_ne (pos_ne cp) (pos_ne fr1.pos),fun n2 d2 p2 H2 fr2 g2 hp2=>?_⟩
 have y1:n2.natAbs<2 ^ (2+(B0+B0+1)):=Nat.lt_of_le_of_lt fr2.ln (mul_lt_pow cz x1)
 have y2:d2.natAbs<2 ^ (2+(B0+B0)):=Nat.lt_of_le_of_lt fr2.ld (mul_lt_pow cy x2)
 refine ⟨a,p2,a0,a1,n2,d2,rfl,(g1.trans g2) _ _ ha,hp2,⟨u az,u ay,up y1 (by omega),up y2 (by omega)⟩,mul_ne (pos_ne ap) (pos_ne fr2.pos),fun n3 d3 p3 H3 fr3 g3 hp3=>?_⟩
 refine q n3 d3 p3 H3 (fun S X Y C h1 h2 h3=>?_) fr3.co (g1.trans (g2.trans g3)) hp3
 have e:=(h1.up 6).plus ((h3.times (h2.less h1 fr1) fr2).up 1 |> fun z=>(by rw [Int.mul_one,Int.mul_one,Int.mul_comm 6 S] at z;exact z)) fr3
 exact e
theorem Sz.up {B0 C:Nat} {P:Pt} (h:Sz B0 P) (hbc:B0≤C):Sz C P:=by
 obtain ⟨z1,z2,z3,z4,z5,z6⟩:=h
 exact ⟨z1,z2,Mth.up z3 hbc,Mth.up z4 hbc,Mth.up z5 hbc,Mth.up z6 hbc⟩
theorem ListAt.but {H H':Hp} {l a:Addr} {mode:Int} {i n:Nat} (h:ListAt H l mode i n) (ha:PotAt H a) (ne:l≠a) (g:SameBut a H H'):ListAt H' l mode i n:=by
 obtain ⟨ps,h1,h2,h3⟩:=h
 obtain ⟨x,y,e,_⟩:=ha
 refine ⟨ps,g _ _ ne h1,h2,fun p hp=>?_⟩
 obtain ⟨P,k1,k2⟩:=h3 p hp
 exact ⟨P,k1.but e g,k2⟩
theorem ListAt.pick {H:Hp} {l:Addr} {mode:Int} {i n:Nat} (h:ListAt H l mode i n) {d:Int} (d0:0≤d) (d1:d<n):∃ (ps:List Addr) (p:Addr) (P:Pt),H l=some (.lst (ps.map V.ref))∧atI (ps.map V.ref) d=some (.ref p)∧PtAt H p P∧Okp mode i P:=by
 obtain ⟨ps,h1,h2,h3⟩:=h
 obtain ⟨j,rfl⟩:=Int.eq_ofNat_of_zero_le d0
 have hj:j<ps.length:=by omega
 obtain ⟨P,k1,k2⟩:=h3 ps[j] (List.getElem_mem hj)
 refine ⟨ps,ps[j],P,h1,atI_nat ?_,k1,k2⟩
 rw [List.getElem?_map,List.getElem?_eq_getElem hj]
 rfl
theorem parts {d:Int} (h0:0≤d) (h1:d<4) {a b c e:V}:∃ v,atI [a,b,c,e] d=some v∧(v=a∨v=b∨v=c∨v=e):=by
 have:d=0∨d=1∨d=2∨d=3:=by omega
 rcases this with rfl | rfl | rfl | rfl
 ·exact ⟨_,rfl,.inl rfl⟩
 ·exact ⟨_,rfl,.inr (.inl rfl)⟩
 ·exact ⟨_,rfl,.inr (.inr (.inl rfl))⟩
 ·exact ⟨_,rfl,.inr (.inr (.inr rfl))⟩
theorem Fz.sz {B0:Nat} {n d m e:Int} (h:Fz B0 n d) (h':Fz B0 m e):Sz B0 ⟨n,d,m,e⟩:=⟨h.1,h'.1,h.2.1,h.2.2,h'.2.1,h'.2.2⟩
theorem Fz.up {B0 C:Nat} {n d:Int} (h:Fz B0 n d) (hbc:B0≤C):Fz C n d:=⟨h.1,Mth.up h.2.1 hbc,Mth.up h.2.2 hbc⟩
--SPLIT
open Mth Sca
theorem Cd.wide {n d:Int} (h:Cd 6 4 n d) (i:Nat):Cd (sc i*6) (5*vv i+4) n d:=by
 obtain ⟨X,h1,h2⟩:=h
 have e:=h1.up (sc i:Int)
 rw [Int.mul_comm] at e
 refine ⟨X*sc i,by rw [show ((sc i*6:Nat):Int)=(sc i:Int)*((6:Nat):Int) by omega];exact e,?_⟩
 rw [Int.natAbs_mul]
 have a:X.natAbs*(sc i:Int).natAbs≤24*sc i:=Nat.mul_le_mul (by omega) (by omega)
 have b:(5*vv i+4)*(sc i*6)=24*sc i+5*vv i*(sc i*6):=by rw [Nat.add_mul];omega
 omega
theorem Cd.pos {S V:Nat} {n d:Int} (h:Cd S V n d):0<d:=let ⟨_,h1,_⟩:=h;h1.1
theorem Cd.btw {S V:Nat} {a0 a1 b0 b1 c0 c1 C n d:Int} (h:Cd S V a0 a1) (k:Cd S V b0 b1) (hC:Sc 6 C c0 c1) (c12:C.natAbs≤12) (z:∀ S X Y C:Int,Sc S X a0 a1→Sc S Y b0 b1→Sc 6 C c0 c1→Sc (S*6) (X*6+C*(Y-X)) n d):Cd (S*6) (5*V+4) n d:=by
 obtain ⟨X,h1,h2⟩:=h
 obtain ⟨Y,k1,k2⟩:=k
 refine ⟨_,by rw [show ((S*6:Nat):Int)=(S:Int)*6 by omega];exact z _ _ _ _ h1 k1 hC,?_⟩
 have a:(C*(Y-X)).natAbs≤12*(2*(V*S)):=by
  rw [Int.natAbs_mul]
  exact Nat.mul_le_mul c12 (by omega)
 have b:(5*V+4)*(S*6)=30*(V*S)+24*S:=by
  rw [Nat.add_mul,show 5*V*(S*6)=30*(V*S) by rw [Nat.mul_mul_mul_comm,Nat.mul_comm 5 S,←Nat.mul_assoc]<;>grind]
  omega
 omega
theorem sc_small:∀ i,i≤7→(5*vv i+4)*(sc i*6)<2 ^ 200∧sc i*6<2 ^ 200:=by decide
theorem sc_small8:∀ i,i≤8→vv i*sc i<2 ^ 206∧sc i<2 ^ 206∧0<sc i:=by decide
theorem Cd.size {S V:Nat} {n d:Int} (h:Cd S V n d) (co:Int.gcd n d=1) (S0:0<S):n.natAbs≤V*S∧d.natAbs≤S:=by
 obtain ⟨X,h1,h2⟩:=h
 obtain ⟨s1,s2⟩:=h1.size co (by omega)
 omega
theorem Cd.fz {i:Nat} {n d:Int} (h:Cd (sc i*6) (5*vv i+4) n d) (hi:i≤7) (co:Int.gcd n d=1):Fz 200 n d:=by
 obtain ⟨s1,s2⟩:=sc_small i hi
 have p:=(sc_small8 i (by omega)).2.2
 obtain ⟨a,b⟩:=h.size co (by omega)
 exact ⟨h.pos,by omega,by omega⟩
theorem Cd.up {S V:Nat} {n d:Int} (h:Cd S V n d) (c W:Nat) (hW:V≤W):Cd (S*c) W n d:=by
 obtain ⟨X,h1,h2⟩:=h
 refine ⟨X*c,by rw [show ((S*c:Nat):Int)=(S:Int)*(c:Int) by simp];exact h1.up c,?_⟩
 rw [Int.natAbs_mul]
 have a:X.natAbs*(c:Int).natAbs≤V*S*c:=Nat.mul_le_mul h2 (by omega)
 have b:V*S*c≤W*(S*c):=by rw [Nat.mul_assoc];exact Nat.mul_le_mul hW (Nat.le_refl _)
 omega
theorem ok_law_point (B:Fx):Hs "_law_point" ["_law_pot_here","_law_points_here","_law_mode"] 4 (spPoint):=by
 refine hs_of B.X B.d24 sc_law_point fun f cdv A outer s H vs Q E nN hr h=>?_
 obtain ⟨a,l,mode,i,n,rfl,ha,hl,nal,m0,hi,hn,q⟩:=h
 refine ⟨_,(pss_cons (ps_if (PW.pt (pw_and (pt_cmpR op_lt (pv 2) pe_int (nomark _)) (pw_and (pt_cmpR op_gt (pe_callB call_len_seq rfl (B.z B.y2) PySem.boot_len (p1 (pv 1))) pe_int (nomark _)) (pw_and1 (pt_cmpR op_eq (pf (ok_law_digit B) hr (p2 (pv 0) pe_int)) pe_int (nomark _)))))) (pss_cons (pst 3 nN (pix ix_list (pv 1) (pf (ok_law_digit B) hr (p2 (pv 0) (pe_callB call_len_seq rfl (B.z B.y2) PySem.boot_len (p1 (pv 1)))))))
   (pss_cons (pst 4 nN (pix ix_list (pv 1) (pf (ok_law_digit B) hr (p2 (pv 0) (pe_callB call_len_seq rfl (B.z B.y2) PySem.boot_len (p1 (pv 1)))))))
   (pss_cons (pst 5 nN (pix ix_list (pe_lst (pa_cons (pe_tup (p2 pe_int pe_int)) (pa_cons (pe_tup (p2 pe_int pe_int)) (pa_cons (pe_tup (p2 (pe_un un_neg pe_int) pe_int)) (pa_cons (pe_tup (p2 pe_int pe_int)) pa_nil se_tup) se_tup) se_tup) se_tup)) (pf (ok_law_digit B) hr (p2 (pv 0) pe_int))))
   (pss_one (ps_ret (pe_tup (p2 (pf (ok_law_between B) hr (pa_cons (pix ix_tup (pv 3) pe_int) (pa_cons (pix ix_tup (pv 4) pe_int) (pa_cons (pv 5) pa_nil)))) (pf (ok_law_between B) hr (pa_cons (pix ix_tup (pv 3) pe_int) (pa_cons (pix ix_tup (pv 4) pe_int) (pa_cons (pv 5) pa_nil))))))))))) pss_nil)
   (pss_one (ps_ret (pe_tup (p2 (pf (ok_law_number B) hr (p2 (pv 0) (pv 2))) (pf (ok_law_number B) hr (p2 (pv 0) (pv 2)))))))),?_⟩
 try dsimp only [cxOf]
 have last:∀ H4,SameBut a H H4→PotAt H4 a→(tRet (tTup (tCons (tCall spNumber [] E0 (tCons (tVar 0) (tCons (tVar 2) tNil))) (tCons (tCall spNumber [] E0 (tCons (tVar 0) (tCons (tVar 2) tNil))) tNil))))
   { nx:=fun _ H'=>Q .non H',rt:=Q } [some (.ref a),some (.ref l),some (.int mode),none,none,none] H4:=fun H4 g p4=>by
  refine ⟨_,rfl,_,rfl,a,mode,rfl,p4,m0,fun n1 d1 r1 H5 z1 co1 cd1 s5 p5 h1=>?_⟩
  refine ⟨_,rfl,_,rfl,a,mode,rfl,p5,m0,fun n2 d2 r2 H6 z2 co2 cd2 s6 p6 h2=>⟨(by show 2≤sizeLine;decide),fun p hp=>?_⟩⟩
  have g7:=same_new hp (.tup [.ref r1,.ref r2])
  have h1':H6 r1=some (.tup [.int n1,.int d1]):=by
   obtain ⟨x,y,e,_⟩:=p5
   exact s6 _ _ (ne_of h1 e (by intro z;cases z)) h1
  refine q ⟨n1,d1,n2,d2⟩ p _ ⟨⟨z1.1,z2.1,co1,co2⟩,?_,fun c=>⟨(cd1 c).wide i,(cd2 c).wide i⟩⟩ (g.trans (s5.trans (s6.trans (.of g7)))) (p6.kept g7) ⟨r1,r2,upd_same,g7 _ _ h1',g7 _ _ h2⟩
  have z:=z1.sz z2
  refine z.up ?_
  split<;>omega
 obtain ⟨ps,hps,hlen,hpt⟩:=id hl
 refine ⟨_,rfl,_,_,rfl,rfl,_,rfl,?_⟩
 refine ite2 (fun c=>?_) (fun c=>last H (SameBut.refl a H) ha)
 have c':mode<2:=of_decide_eq_true c
 refine ⟨_,rfl,l,_,rfl,.inl (SqL.of hps),_,_,rfl,rfl,_,rfl,?_⟩
 refine ite2 (fun c2=>?_) (fun c2=>last H (SameBut.refl a H) ha)
 have c2':1<n:=by
  have:=of_decide_eq_true c2
  rw [List.length_map] at this
  omega
 have hl4:((ps.map V.ref).length:Int)=n:=by rw [List.length_map,hlen]
 have n9:((n:Int)).natAbs<2 ^ 9000:=lit9 (Nat.lt_trans (m:=10) (by omega) (by decide))
 refine ⟨_,rfl,a,4,rfl,ha,by decide,lit9 (by decide),fun d1 H1 _ _ s1 p1=>?_⟩
 have l1:=hl.but ha nal.symm s1
 refine ⟨rfl,_,rfl,?_⟩
 refine ite2 (fun c3=>?_) (fun c3=>last H1 s1 p1)
  -- p
 obtain ⟨ps1,e1,_⟩:=id l1
 have ps1e:H1 l=some (.lst (ps.map V.ref)):=s1 _ _ nal.symm hps
 refine ⟨_,rfl,_,rfl,_,rfl,l,_,rfl,.inl (SqL.of ps1e),a,_,rfl,p1,(by rw [hl4];omega),(by rw [hl4];exact n9),fun d2 H2 x0 x1 s2 p2=>?_⟩
 rw [hl4] at x1
 have l2:=l1.but p1 nal.symm s2
 obtain ⟨ps2,pa,PA,hp2,at2,kA,lA,zA,cA⟩:=l2.pick x0 x1
 refine ⟨l,_,_,_,rfl,rfl,SqL.of hp2,at2,?_⟩
  -- q
 have ps2e:H2 l=some (.lst (ps.map V.ref)):=s2 _ _ nal.symm ps1e
 refine ⟨_,rfl,_,rfl,_,rfl,l,_,rfl,.inl (SqL.of ps2e),a,_,rfl,p2,(by rw [hl4];omega),(by rw [hl4];exact n9),fun d3 H3 y0 y1 s3 p3=>?_⟩
 rw [hl4] at y1
 have l3:=l2.but p2 nal.symm s3
 obtain ⟨ps3,pb,PB,hp3,at3,kB,lB,zB,cB⟩:=l3.pick y0 y1
 refine ⟨l,_,_,_,rfl,rfl,SqL.of hp3,at3,?_⟩
 obtain ⟨xx,yy,potA,_⟩:=id p2
 have kA:=kA.but potA s3
  -- part
 refine ⟨(by show 2≤sizeLine;decide),fun t1 n1=>⟨(by show 2≤sizeLine;decide),fun t2 n2=>⟨_,rfl,(by show 2≤sizeLine;decide),fun t3 n3=>⟨(by show 2≤sizeLine;decide),fun t4 n4=>⟨(by show 4≤sizeLine;decide),fun lp nlp=>?_⟩⟩⟩⟩⟩
 have g1:=same_new n1 (.tup [.int 1,.int 2])
 have g2:=same_new n2 (.tup [.int 2,.int 1])
 have g3:=same_new n3 (.tup [.int (-1),.int 1])
 have g4:=same_new n4 (.tup [.int 1,.int 3])
 have g5:=same_new nlp (.lst [.ref t1,.ref t2,.ref t3,.ref t4])
 have b1:=g5 _ _ (g4 _ _ (g3 _ _ (g2 _ _ (upd_same (H:=H3) (a:=t1) (o:=.tup [.int 1,.int 2])))))
 have b2:=g5 _ _ (g4 _ _ (g3 _ _ (upd_same (H:=upd H3 t1 (.tup [.int 1,.int 2])) (a:=t2) (o:=.tup [.int 2,.int 1]))))
 have b3:=g5 _ _ (g4 _ _ (upd_same (H:=upd (upd H3 t1 (.tup [.int 1,.int 2])) t2 (.tup [.int 2,.int 1])) (a:=t3) (o:=.tup [.int (-1),.int 1])))
 have b4:=g5 _ _ (upd_same (H:=upd (upd (upd H3 t1 (.tup [.int 1,.int 2])) t2 (.tup [.int 2,.int 1])) t3 (.tup [.int (-1),.int 1])) (a:=t4) (o:=.tup [.int 1,.int 3]))
 have bl:=upd_same (H:=upd (upd (upd (upd H3 t1 (.tup [.int 1,.int 2])) t2 (.tup [.int 2,.int 1])) t3 (.tup [.int (-1),.int 1])) t4 (.tup [.int 1,.int 3])) (a:=lp) (o:=.lst [.ref t1,.ref t2,.ref t3,.ref t4])
 have gg:Same H3 _:=g1.trans (g2.trans (g3.trans (g4.trans g5)))
 generalize upd (upd (upd (upd (upd H3 t1 (.tup [.int 1,.int 2])) t2 (.tup [.int 2,.int 1])) t3 (.tup [.int (-1),.int 1])) t4 (.tup [.int 1,.int 3])) lp (.lst [.ref t1,.ref t2,.ref t3,.ref t4])=H4 at *
 have p4:=p3.kept gg
 obtain ⟨x4,y4,pot4,_⟩:=id p4
 have lpa:lp≠a:=by
  intro z
  subst z
  rw [bl] at pot4
  cases pot4
 refine ⟨_,rfl,a,4,rfl,p4,by decide,lit9 (by decide),fun d4 H5 z0 z1 s5 p5=>?_⟩
 obtain ⟨v,hv,ev⟩:=parts z0 z1 (a:=.ref t1) (b:=.ref t2) (c:=.ref t3) (e:=.ref t4)
 refine ⟨lp,_,_,_,rfl,rfl,SqL.of (s5 _ _ lpa bl),hv,?_⟩
 have nt:∀ {t:Addr} {xs:List V},H4 t=some (.tup xs)→H5 t=some (.tup xs):=fun h=>s5 _ _ (ne_of h pot4 (by intro z;cases z)) h
 have hc:∃ (t:Addr) (c0 c1 C:Int),v=.ref t∧H5 t=some (.tup [.int c0,.int c1])∧Fz 2 c0 c1∧Sc 6 C c0 c1∧C.natAbs≤12:=by
  rcases ev with rfl | rfl | rfl | rfl
  ·exact ⟨_,_,_,3,rfl,nt b1,⟨by decide,by decide,by decide⟩,⟨by decide,by decide⟩,by decide⟩
  ·exact ⟨_,_,_,12,rfl,nt b2,⟨by decide,by decide,by decide⟩,⟨by decide,by decide⟩,by decide⟩
  ·exact ⟨_,_,_,-6,rfl,nt b3,⟨by decide,by decide,by decide⟩,⟨by decide,by decide⟩,by decide⟩
  ·exact ⟨_,_,_,2,rfl,nt b4,⟨by decide,by decide,by decide⟩,⟨by decide,by decide⟩,by decide⟩
 obtain ⟨t,c0,c1,C,rfl,ht,zt,cC,c12⟩:=hc
 have kA:=(kA.kept gg).but pot4 s5
 have kB:=(kB.kept gg).but pot4 s5
 have sAll:SameBut a H H5:=s1.trans (s2.trans (s3.trans ((SameBut.of gg).trans s5)))
 obtain ⟨ax,ay,hA,hAx,hAy⟩:=kA
 obtain ⟨bx,bY,hB,hBx,hBy⟩:=kB
 obtain ⟨a1,a2,a3,a4,a5,a6⟩:=zA
 obtain ⟨b1,b2,b3,b4,b5,b6⟩:=zB
 refine ⟨_,rfl,pa,_,_,_,rfl,rfl,SqT.of hA,at0,_,rfl,pb,_,_,_,rfl,rfl,SqT.of hB,at0,_,rfl,ax,bx,t,_,_,_,_,_,_,206,rfl,hAx,hBx,ht,⟨a1,a3,a4⟩,⟨b1,b3,b4⟩,zt,by decide,fun n1 d1 r1 H6 z1 co1 g6 h1=>?_⟩
 refine ⟨_,rfl,pa,_,_,_,rfl,rfl,SqT.of (g6 _ _ hA),at1,_,rfl,pb,_,_,_,rfl,rfl,SqT.of (g6 _ _ hB),at1,_,rfl,ay,bY,t,_,_,_,_,_,_,206,rfl,g6 _ _ hAy,g6 _ _ hBy,g6 _ _ ht,⟨a2,a5,a6⟩,⟨b2,b5,b6⟩,zt,by decide,fun n2 d2 r2 H7 z2 co2 g7 h2=>⟨(by show 2≤sizeLine;decide),fun p hp=>?_⟩⟩
 have g8:=same_new hp (.tup [.ref r1,.ref r2])
 have gx:=g6.trans (g7.trans g8)
 obtain ⟨cAx,cAy⟩:=cA c'
 obtain ⟨cBx,cBy⟩:=cB c'
 have x1:=cAx.btw cBx cC c12 z1
 have x2:=cAy.btw cBy cC c12 z2
 exact q ⟨n1,d1,n2,d2⟩ p _ ⟨⟨x1.pos,x2.pos,co1,co2⟩,(x1.fz (by omega) co1).sz (x2.fz (by omega) co2),fun _=>⟨x1,x2⟩⟩ (sAll.trans (.of gx)) (p5.kept gx) ⟨r1,r2,upd_same,g8 _ _ (g7 _ _ h1),g8 _ _ h2⟩
def ptD (P:Pt):PyData:=.tuple [.tuple [.int P.n,.int P.d],.tuple [.int P.m,.int P.e]]
theorem ptD_ok (P:Pt):SeqAt.shaped (ptD P)=true:=by
 unfold ptD SeqAt.shaped
 simp [PyData.canLay0,PyData.canLayAll0,PyData.depth,PyData.depthAll]
theorem PtAt.dt {K:PySem.W.Frag} {H:Hp} {p:Addr} {P:Pt} (h:PtAt H p P):Dt K H (ptD P) (.ref p):=by
 obtain ⟨x,y,h1,h2,h3⟩:=h
 have two:∀ {z:Addr} {i j:Int},H z=some (.tup [.int i,.int j])→Dt K H (.tuple [.int i,.int j]) (.ref z):=fun {z i j} e=>by
  unfold Dt
  refine ⟨z,_,rfl,SqT.of e,?_⟩
  unfold DtAll
  refine ⟨_,_,rfl,(by unfold Dt;rfl),?_⟩
  unfold DtAll
  refine ⟨_,_,rfl,(by unfold Dt;rfl),?_⟩
  unfold DtAll
  rfl
 unfold ptD Dt
 refine ⟨p,_,rfl,SqT.of h1,?_⟩
 unfold DtAll
 refine ⟨_,_,rfl,two h2,?_⟩
 unfold DtAll
 refine ⟨_,_,rfl,two h3,?_⟩
 unfold DtAll
 rfl
theorem pts_dt {K:PySem.W.Frag} {H:Hp}:∀ {ps:List Addr},(∀ p∈ps,∃ P,PtAt H p P)→∃ es,DtAll K H es (ps.map V.ref)∧∀ e∈es,SeqAt.shaped e=true
 | [],_=>⟨[],(by unfold DtAll;rfl),fun e he=>by cases he⟩
 | p::ps,h=>by
  obtain ⟨P,hP⟩:=h p List.mem_cons_self
  obtain ⟨es,h1,h2⟩:=pts_dt (K:=K) (ps:=ps) fun p' hp'=>h p' (List.mem_cons_of_mem _ hp')
  refine ⟨ptD P::es,?_,fun e he=>?_⟩
  ·unfold DtAll
   exact ⟨_,_,rfl,hP.dt,h1⟩
  ·rcases List.mem_cons.mp he with rfl | he
   ·exact ptD_ok P
   ·exact h2 e he
theorem PtAt.upd {H:Hp} {p l:Addr} {P:Pt} {xs:List V} {o:HO} (h:PtAt H p P) (hl:H l=some (.lst xs)):PtAt (upd H l o) p P:=h.but hl but_upd
theorem Okq.next {mode:Int} {i:Nat} {P:Pt} (h:Okq mode i P):Okp mode (i+1) P:=by
 obtain ⟨lw,z,c⟩:=h
 refine ⟨lw,z.up (by decide),fun m=>?_⟩
 obtain ⟨c1,c2⟩:=c m
 have e:sc i*6*((7+i)*(11+i))=sc (i+1):=by show _=sc i*(6*((7+i)*(11+i)));rw [Nat.mul_assoc]
 have v:5*vv i+4≤vv (i+1):=by show _≤5*vv i+6;omega
 have d1:=c1.up ((7+i)*(11+i)) (vv (i+1)) v
 have d2:=c2.up ((7+i)*(11+i)) (vv (i+1)) v
 rw [e] at d1 d2
 exact ⟨d1,d2⟩
theorem Okp.up {mode:Int} {i:Nat} {P:Pt} (h:Okp mode i P):Okp mode (i+1) P:=by
 obtain ⟨lw,z,c⟩:=h
 refine ⟨lw,z,fun m=>?_⟩
 obtain ⟨c1,c2⟩:=c m
 have v:vv i≤vv (i+1):=by show _≤5*vv i+6;omega
 exact ⟨c1.up _ (vv (i+1)) v,c2.up _ (vv (i+1)) v⟩
theorem Cd.shift {S V u v:Nat} {a0 a1 n d:Int} (h:Cd S V a0 a1) (u0:0<v) (uv:u≤v) (c:Nat) (f:Fr (a0*(v:Int)+(u:Int)*a1) (a1*(v:Int)) n d):Cd (S*(v*c)) (V+1) n d:=by
 obtain ⟨X,h1,h2⟩:=h
 have k:Sc (v:Int) (u:Int) (u:Int) (v:Int):=⟨by omega,rfl⟩
 have e:=(h1.up (v*c:Nat)).plus ((k.up (S*c:Nat)) |> fun z=>(by rw [show (v:Int)*((S*c:Nat):Int)=(S:Int)*((v*c:Nat):Int) by simp;grind] at z;exact z)) f
 refine ⟨_,by rw [show ((S*(v*c):Nat):Int)=(S:Int)*((v*c:Nat):Int) by simp];exact e,?_⟩
 have a:(X*((v*c:Nat):Int)).natAbs≤V*S*(v*c):=by
  rw [Int.natAbs_mul]
  exact Nat.mul_le_mul h2 (by omega)
 have b:((u:Int)*((S*c:Nat):Int)).natAbs≤S*(v*c):=by
  rw [Int.natAbs_mul,Int.natAbs_natCast,Int.natAbs_natCast,show S*(v*c)=v*(S*c) by grind]
  exact Nat.mul_le_mul uv (Nat.le_refl _)
 have g:(V+1)*(S*(v*c))=V*S*(v*c)+S*(v*c):=by rw [Nat.add_mul,Nat.one_mul,Nat.mul_assoc]
 omega
theorem ok_law_points (B:Fx):Hs "_law_points" ["_law_pot_here","_law_many"] 5 (spPoints):=by
 refine hs_of B.X B.d25 sc_law_points fun f cdv A outer s H vs Q E nN hr h=>?_
 obtain ⟨a,m,rfl,ha,m8,q⟩:=h
 refine ⟨_,(pss_cons (pst 2 nN (pf (ok_law_digit B) hr (p2 (pv 0) pe_int)))
   (pss_cons (ps_if (PW.pt (pw_and (pt_cmpR op_eq (pv 2) pe_int (nomark _)) (pw_and1 (pt_cmpR op_gt (pv 1) pe_int (nomark _))))) (pss_one (pst 2 nN pe_int)) pss_nil)
   (pss_cons (pst 3 nN (pe_lst pa_nil))
   (pss_cons (pfor (pi_range1 rfl (B.z B.y1) (p1 (pv 1))) (pgn 4 nN) (pss_cons (pst 5 nN (pf (ok_law_point B) hr (pa_cons (pv 0) (pa_cons (pv 3) (pa_cons (pv 2) pa_nil)))))
   (pss_cons (ps_if (PW.pt (pw_and (pt_cmpR (op_inD (Room.units65 hr)) (pv 5) (pv 3) rfl) (pw_and1 (pt_cmpR op_gt (pf (ok_law_digit B) hr (p2 (pv 0) pe_int)) pe_int (nomark _))))) (pss_one (pst 5 nN (pe_tup (p2 (pf (ok_law_plus B) hr (p2 (pix ix_tup (pv 5) pe_int) (pe_tup (p2 (pe_op op_add (pv 4) pe_int) (pe_op op_add pe_int (pv 4)))))) (pf (ok_law_plus B) hr (p2 (pix ix_tup (pv 5) pe_int) (pe_tup (p2 pe_int (pe_op op_add pe_int (pv 4)))))))))) pss_nil)
   (pss_one (ps_expr (m_list PySem.F.slot_list_append PySem.F.type_list_append mt_append (pv 3) (p1 (pv 5))))))))
   (pss_one (ps_ret (pe_callTy call_tuple_of rfl (B.z B.y0) PyProof.Rows.boot_tuple (p1 (pv 3))))))))),?_⟩
 try dsimp only [cxOf]
 refine ⟨_,rfl,a,3,rfl,ha,by decide,lit9 (by decide),fun mode H1 m0 _ s1 p1=>?_⟩
 dsimp only
 refine seq_two (I:=fun σ H'=>H'=H1∧∃ mode:Int,0≤mode∧σ=[some (.ref a),some (.int (m:Int)),some (.int mode),none,none,none]) ?_ (fun j=>?_)
 rotate_left
 ·refine ⟨_,rfl,rfl,_,rfl,?_⟩
  refine ite2 (fun c=>?_) (fun c=>?_)
  ·refine ⟨_,rfl,_,_,rfl,rfl,_,rfl,?_⟩
   refine ite2 (fun c=>?_) (fun c=>?_)
   ·exact j _ _ ⟨rfl,3,by decide,rfl⟩
   ·exact j _ _ ⟨rfl,mode,m0,rfl⟩
  ·exact j _ _ ⟨rfl,mode,m0,rfl⟩
 clear m0
 rintro σ H1 ⟨rfl,mode,m0,rfl⟩
 refine ⟨(by show 0≤sizeLine;decide),fun l nl=>?_⟩
 have la:l≠a:=by
  obtain ⟨x,y,z,_⟩:=p1
  exact (ne_of_none z nl).symm
 have g0:=same_new nl (.lst [])
 refine ⟨_,rfl,m,rfl,by omega,by omega,?_⟩
 rw [show (m:Int).toNat=m by omega]
 refine for_range (lo:=0) (n:=m) (fun i σ H2=>∃ (x y:Option V),σ=[some (.ref a),some (.int (m:Int)),some (.int mode),some (.ref l),x,y]∧SameBut a H1 H2∧PotAt H2 a∧ListAt H2 l mode i i)
  ⟨none,none,rfl,.of g0,p1.kept g0,[],upd_same,rfl,fun p hp=>by cases hp⟩ ?_ ?_
 ·rintro i σ H2 hi ⟨x,y,rfl,s2,p2,l2⟩
  refine ⟨_,rfl,_,rfl,_,rfl,a,l,mode,i,i,rfl,p2,l2,la.symm,m0,by omega,by omega,fun P p H3 okP s3 p3 hP=>?_⟩
  have l3:=l2.but p2 la s3
  have fin:∀ (H5:Hp) (p':Addr) (P':Pt),SameBut a H3 H5→PotAt H5 a→PtAt H5 p' P'→Okp mode (i+1) P'→∃ xs,H5 l=some (.lst xs)∧xs.length<sizeLine∧SameBut a H1 (upd H5 l (.lst (xs++[.ref p'])))∧PotAt (upd H5 l (.lst (xs++[.ref p']))) a∧ListAt (upd H5 l (.lst (xs++[.ref p']))) l mode (i+1) (i+1):=fun H5 p' P' s5 p5 hP' okP'=>by
   obtain ⟨ps,h1,h2,h3⟩:=l3.but p3 la s5
   refine ⟨_,h1,(by rw [List.length_map,h2];exact small1000 (by omega)),fun b o nb e=>?_,p5.other la.symm,ps++[p'],(by rw [List.map_append];exact upd_same),(by rw [List.length_append,h2];rfl),fun r hr'=>?_⟩
   ·have e5:=s5 b o nb (s3 b o nb (s2 b o nb e))
    rw [upd_ne (ne_of_none e nl)]
    exact e5
   ·rcases List.mem_append.mp hr' with z | z
    ·obtain ⟨R,k1,k2⟩:=h3 r z
     exact ⟨R,k1.upd h1,k2.up⟩
    ·have:r=p':=by simpa using z
     subst this
     exact ⟨P',hP'.upd h1,okP'⟩
  obtain ⟨ps3,e3,len3,pts3⟩:=id l3
  obtain ⟨es,des,ses⟩:=pts_dt (K:=K) (H:=H3) (ps:=ps3) fun r hr'=>let ⟨R,k,_⟩:=pts3 r hr';⟨R,k⟩
  refine ⟨_,rfl,_,rfl,ptD P,es,l,_,rfl,.inl (SqL.of e3),hP.dt,des,ptD_ok P,ses,_,rfl,?_⟩
  have go:∀ (H5:Hp),SameBut a H3 H5→PotAt H5 a→∃ xs,H5 l=some (.lst xs)∧xs.length<sizeLine∧SameBut a H1 (upd H5 l (.lst (xs++[.ref p])))∧PotAt (upd H5 l (.lst (xs++[.ref p]))) a∧ListAt (upd H5 l (.lst (xs++[.ref p]))) l mode (i+1) (i+1):=fun H5 s5 p5=>by
   obtain ⟨x,y,e,_⟩:=id p3
   exact fin H5 p P s5 p5 (hP.but e s5) okP.next
  refine ite2 (fun c=>?_) (fun c=>?_)
  ·refine ⟨_,rfl,a,8,rfl,p3,by decide,lit9 (by decide),fun d H4 _ _ s4 p4=>⟨_,_,rfl,rfl,_,rfl,?_⟩⟩
   refine ite2 (fun c2=>?_) (fun c2=>?_)
   ·obtain ⟨x3,y3,e3',_⟩:=id p3
    obtain ⟨px,py,h1,h2,h3⟩:=hP.but e3' s4
    obtain ⟨lwP,⟨z1,z2,z3,z4,z5,z6⟩,cP⟩:=id okP
    have u:∀ {j:Int},j.natAbs<2 ^ 200→j.natAbs<2 ^ 4000:=fun h=>Mth.up h (by omega)
    have u4:∀ {j:Int},j.natAbs<2 ^ 5→j.natAbs<2 ^ 4000:=fun h=>Mth.up h (by decide)
    refine ⟨_,rfl,p,_,_,_,rfl,rfl,SqT.of h1,at0,_,rfl,_,_,rfl,rfl,_,rfl,_,_,rfl,rfl,(by show 2≤sizeLine;decide),fun t1 n1=>?_⟩
    have g1:=same_new n1 (.tup [.int (0 + ↑i+1),.int (7+(0 + ↑i))])
    have k1:(0+(i:Int)+1).natAbs<2 ^ 5:=Nat.lt_of_lt_of_le (m:=31) (by omega) (by decide)
    have k2:(7+(0+(i:Int))).natAbs<2 ^ 5:=Nat.lt_of_lt_of_le (m:=31) (by omega) (by decide)
    have k3:(1:Int).natAbs<2 ^ 5:=by decide
    have k4:(11+(0+(i:Int))).natAbs<2 ^ 5:=Nat.lt_of_lt_of_le (m:=31) (by omega) (by decide)
    refine ⟨px,t1,_,_,_,_,rfl,g1 _ _ h2,upd_same,⟨u z3,u z4,u4 k1,u4 k2⟩,mul_ne (pos_ne z1) (by omega),fun n2 d2 r2 H6 f2 g2 hr2=>?_⟩
    have g12:=g1.trans g2
    refine ⟨_,rfl,p,_,_,_,rfl,rfl,SqT.of (g12 _ _ h1),at1,_,rfl,_,_,rfl,rfl,(by show 2≤sizeLine;decide),fun t3 n3=>?_⟩
    have g3:=same_new n3 (.tup [.int 1,.int (11+(0 + ↑i))])
    have g13:=g12.trans g3
    refine ⟨py,t3,_,_,_,_,rfl,g13 _ _ h3,upd_same,⟨u z5,u z6,u4 k3,u4 k4⟩,mul_ne (pos_ne z2) (by omega),fun n4 d4 r4 H7 f4 g4 hr4=>?_⟩
    refine ⟨(by show 2≤sizeLine;decide),fun t5 n5=>?_⟩
    have g5:=same_new n5 (.tup [.ref r2,.ref r4])
    have gg:=g13.trans (g4.trans g5)
    have fz2:Fz 206 n2 d2:=Fz.of_fr f2 (Mth.up (i:=200+5+1) (add_lt_pow (mul_lt_pow z3 k2) (Mth.up (mul_lt_pow k1 z4) (by omega))) (by omega)) (Mth.up (mul_lt_pow z4 k2) (by omega))
    have fz4:Fz 206 n4 d4:=Fz.of_fr f4 (Mth.up (i:=200+5+1) (add_lt_pow (mul_lt_pow z5 k4) (Mth.up (mul_lt_pow k3 z6) (by omega))) (by omega)) (Mth.up (mul_lt_pow z6 k4) (by omega))
    have ok':Okp mode (i+1) ⟨n2,d2,n4,d4⟩:=by
     refine ⟨⟨f2.pos,f4.pos,f2.co,f4.co⟩,fz2.sz fz4,fun m=>?_⟩
     obtain ⟨c1,c2⟩:=cP m
     rw [show (7:Int)+(0+(i:Int))=((7+i:Nat):Int) by omega,show (0:Int)+(i:Int)+1=((i+1:Nat):Int) by omega] at f2
     rw [show (11:Int)+(0+(i:Int))=((11+i:Nat):Int) by omega,show (1:Int)=((1:Nat):Int) by omega] at f4
     have v:5*vv i+4+1≤vv (i+1):=by show _≤5*vv i+6;omega
     have y1:=(c1.shift (by omega) (by omega) (11+i) f2).up 1 (vv (i+1)) v
     have y2:=(c2.shift (by omega) (by omega) (7+i) f4).up 1 (vv (i+1)) v
     have e1:sc i*6*((7+i)*(11+i))*1=sc (i+1):=by show _=sc i*(6*((7+i)*(11+i)));rw [Nat.mul_one,Nat.mul_assoc]
     have e2:sc i*6*((11+i)*(7+i))*1=sc (i+1):=by rw [Nat.mul_comm (11+i)];exact e1
     rw [e1] at y1
     rw [e2] at y2
     exact ⟨y1,y2⟩
    obtain ⟨xs,w1,w2,w3,w4,w5⟩:=fin _ t5 ⟨n2,d2,n4,d4⟩ (s4.trans (.of gg)) (p4.kept gg) ⟨r2,r4,upd_same,g5 _ _ (g4 _ _ (g3 _ _ hr2)),g5 _ _ hr4⟩ ok'
    exact ⟨_,rfl,.inl ⟨rfl,_,SqL.of w1⟩,_,rfl,l,_,_,rfl,rfl,w1,w2,_,_,rfl,w3,w4,w5⟩
   ·obtain ⟨xs,w1,w2,w3,w4,w5⟩:=go H4 s4 p4
    exact ⟨_,rfl,.inl ⟨rfl,_,SqL.of w1⟩,_,rfl,l,_,_,rfl,rfl,w1,w2,_,_,rfl,w3,w4,w5⟩
  ·obtain ⟨xs,w1,w2,w3,w4,w5⟩:=go H3 (SameBut.refl a H3) p3
   exact ⟨_,rfl,.inl ⟨rfl,_,SqL.of w1⟩,_,rfl,l,_,_,rfl,rfl,w1,w2,_,_,rfl,w3,w4,w5⟩
 ·rintro σ H2 ⟨x,y,rfl,s2,p2,ps,h1,h2,h3⟩
  refine ⟨_,rfl,l,_,rfl,.inl ⟨SqL.of h1,fun t nt=>?_⟩⟩
  have gt:=same_new nt (.tup (ps.map V.ref))
  refine q t ps _ (s1.trans (s2.trans (.of gt))) (p2.kept gt) upd_same h2 fun p hp=>?_
  obtain ⟨P,k1,lw,sz,_⟩:=h3 p hp
  exact ⟨P,k1.kept gt,sz,lw⟩
--SPLIT
open Mth Sca Ang
/-- from P to Q, so many times as great -/
def uV (P Q:Pt):Vc:=((Q.n*P.d-P.n*Q.d)*(P.e*Q.e),(Q.m*P.e-P.m*Q.e)*(P.d*Q.d))
theorem cr_uV (P Q R:Pt):cr (uV P Q) (uV P R)=lawdet P Q R:=by
 unfold cr uV lawdet
 grind
theorem lawsgn' {P Q R:Pt} (h:0<P.d∧0<P.e):sgn (lawdet P Q R)=sgn (det P Q R):=by rw [lawdet_eq];exact sgn_mul_pos (Int.mul_pos h.1 h.2)
theorem fr_sgn {N D n d:Int} (D0:0<D) (F:Fr N D n d):sgn n=sgn N:=by
 have e:=F.eq
 have a:=sgn_mul_pos (x:=n) D0
 have b:=sgn_mul_pos (x:=N) F.pos
 rw [←a,e,b]
def isAh (P Q R:Pt):Bool:=ahd (uV P Q) (uV P R)
theorem cut_from (xs:List V) {k:Nat} (h:k≤xs.length):cutV xs (some (k:Int)) none=xs.drop k:=by
 unfold cutV
 rw [HT.sIx_none,HT.sIx_nat,Nat.min_eq_left h,List.take_of_length_le]
 rw [List.length_drop]
 exact Nat.le_refl _
theorem cut_to (xs:List V) {k:Nat} (h:k≤xs.length):cutV xs none (some (k:Int))=xs.take k:=by
 unfold cutV
 rw [HT.sIx_none,HT.sIx_nat,Nat.min_eq_left h,List.drop_zero,Nat.sub_zero]
def rot (row:List Nat) (M:Nat):List Nat:=row.drop (row.idxOf M)++row.take (row.idxOf M)
theorem firstAt_nat {ns:List Nat} {n:Nat} (h:n∈ns):FirstAt (ns.map ci) (n:Int) (ns.idxOf n):=by
 have hl:=List.idxOf_lt_length_of_mem h
 refine ⟨?_,fun m hm e=>?_⟩
 ·rw [List.getElem?_map,List.getElem?_eq_getElem hl,List.getElem_idxOf hl]
  rfl
 ·have hm':m<ns.length:=by omega
  rw [List.getElem?_map,List.getElem?_eq_getElem hm'] at e
  have e2:ns[m]=n:=by
   have z:((ns[m]:Nat):Int)=(n:Int):=Option.some.inj e
   omega
  have q:=List.not_of_lt_findIdx (p:=(· == n)) (xs:=ns) hm
  rw [e2] at q
  simp at q
theorem rot_map (ns:List Nat) (x:Nat):(ns.map vn).drop (ns.idxOf x)++(ns.map vn).take (ns.idxOf x)=(rot ns x).map vn:=by unfold rot;rw [List.map_append,List.map_drop,List.map_take]
inductive spFromOn (vs:List V) (H:Hp) (Q:VK) (Y:XK):Prop
 | mk:∀ (a:Addr) (ns:List Nat) (x:Nat),(vs=[.ref a,vn x])→(H a=some (.lst (ns.map vn)))→(x∈ns)→(ns.length≤900)→(∀ (t:Addr) (H':Hp),Same H H'→H' t=some (.tup ((rot ns x).map vn))→Q (.ref t) H')→spFromOn vs H Q Y
inductive spLeastP (vs:List V) (H:Hp) (Q:VK) (Y:XK):Prop
 | mk:∀ (a:Addr) (ns:List Nat),(vs=[.ref a])→(H a=some (.lst (ns.map vn)))→(ns≠[])→(ns.length≤900)→(∀ (M:Nat) (t:Addr) (H':Hp),M∈ns→(∀ i∈ns,M≤i)→Same H H'→H' t=some (.tup ((rot ns M).map vn))→Q (.ref t) H')→spLeastP vs H Q Y
theorem least_of {ns:List Nat} {M:Int} (hM:M∈ns.map ci) (hle:∀ i∈ns.map ci,M≤i):∃ m,M=ci m∧m∈ns∧∀ j∈ns,m≤j:=by
 obtain ⟨m,hm,rfl⟩:=List.mem_map.mp hM
 exact ⟨m,rfl,hm,fun j hj=>by
  have:=hle (ci j) (List.mem_map.mpr ⟨j,hj,rfl⟩)
  simp only [ci] at this
  omega⟩
theorem ok_from_on (B:Fx):Hs "from_on" ["row","first"] 1 (spFromOn):=by
 refine hs_of B.X B.d4 sc_from_on fun f cdv A outer s H vs Q E nN hr h=>?_
 obtain ⟨D,cl,m,rfl,hD,hm,cle,k⟩:=h
 have il:=List.idxOf_lt_length_of_mem hm
 have lv:(cl.map vn).length=cl.length:=List.length_map _
 refine ⟨_,(pss_cons (pst 2 nN (m_list PySem.F.slot_list_index PySem.F.type_list_index mt_index (pv 0) (p1 (pv 1))))
   (pss_one (ps_ret (pe_callTy call_tuple_of rfl (B.z B.y0) PyProof.Rows.boot_tuple (p1 (pe_op op_cat (pe_slice sl_list (pv 0) (po_some (pv 2)) po_none) (pe_slice sl_list (pv 0) po_none (po_some (pv 2))))))))),?_⟩
 try dsimp only [cxOf]
 refine ⟨_,rfl,.inl ⟨rfl,_,SqL.of hD⟩,_,rfl,D,cl.map ci,m,cl.idxOf m,rfl,rfl,(by rw [hD,vn_map]),firstAt_nat hm,?_⟩
 refine ⟨_,rfl,_,rfl,_,rfl,D,_,rfl,SqL.of hD,fun p1 m1=>?_⟩
 rw [cut_from _ (by rw [lv];omega)]
 have h1:=same_new m1 (.lst ((cl.map vn).drop (cl.idxOf m)))
 refine ⟨_,rfl,_,rfl,_,rfl,D,_,rfl,SqL.of (h1 _ _ hD),fun p2 m2=>?_⟩
 rw [cut_to _ (by rw [lv];omega)]
 have h2:=same_new m2 (.lst ((cl.map vn).take (cl.idxOf m)))
 refine ⟨p1,p2,_,_,rfl,rfl,h2 _ _ upd_same,upd_same,(by rw [List.length_drop,List.length_take,lv];exact Nat.le_of_lt (small1000 (by omega))),fun p3 m3=>?_⟩
 have h3:=same_new m3 (.lst ((cl.map vn).drop (cl.idxOf m)++(cl.map vn).take (cl.idxOf m)))
 refine ⟨p3,_,rfl,.inl ⟨SqL.of upd_same,fun t m4=>?_⟩⟩
 exact k t _ (h1.trans (h2.trans (h3.trans (same_new m4 _)))) (by rw [←rot_map];exact upd_same)
theorem ok_from_least (B:Fx):Hs "from_least" ["row"] 2 (spLeastP):=by
 refine hs_of B.X B.d5 sc_from_least fun f cdv A outer s H vs Q E nN hr h=>?_
 obtain ⟨D,cl,rfl,hD,cne,cle,k⟩:=h
 have cpos:0<cl.length:=List.length_pos_iff.mpr cne
 refine ⟨_,(pss_one (ps_ret (pf (ok_from_on B) hr (p2 (pv 0) (pe_callB (call_minL rfl) rfl (B.z B.y9) PyProof.Rows.boot_min (p1 (pv 0))))))),?_⟩
 try dsimp only [cxOf]
 refine ⟨_,rfl,_,rfl,D,cl.map ci,rfl,SqL.of (by rw [hD,vn_map]),(by rw [List.length_map];exact cpos),fun M hM hle=>?_⟩
 obtain ⟨m,rfl,hm,mle⟩:=least_of hM hle
 exact ⟨D,cl,m,rfl,hD,hm,cle,fun t H' g ht=>k m t H' hm mle g ht⟩
inductive spLate (vs:List V) (H:Hp) (Q:VK) (Y:XK):Prop
 | mk:∀ (p q:Addr) (P R:Pt),(vs=[.ref p,.ref q])→(PtAt H p P)→(PtAt H q R)→(Sz 1000 P)→(Sz 1000 R)→(∀ H',Same H H'→Q (.bl (late (uV P R))) H')→spLate vs H Q Y
inductive spAhd (vs:List V) (H:Hp) (Q:VK) (Y:XK):Prop
 | mk:∀ (p q r:Addr) (P R S:Pt),(vs=[.ref p,.ref q,.ref r])→(PtAt H p P)→(PtAt H q R)→(PtAt H r S)→(Sz 1000 P)→(Sz 1000 R)→(Sz 1000 S)→(∀ H',Same H H'→Q (.bl (isAh P R S)) H')→spAhd vs H Q Y
theorem ok_is_late (B:Fx):Hs "is_late" ["here","point"] 4 (spLate):=by
 refine hs_of B.X B.d11 sc_is_late fun f cdv A outer s H vs Q E nN hr h=>?_
 obtain ⟨p,q',P,R,rfl,⟨px,py,hp,hpx,hpy⟩,⟨qx,qy,hq,hqx,hqy⟩,⟨o1,o2,o3,o4,o5,o6⟩,⟨i1,i2,i3,i4,i5,i6⟩,k⟩:=h
 refine ⟨_,(pss_cons (pst 2 nN (pf (ok_sign B) hr (p1 (pf (ok_less B) hr (p2 (pix ix_tup (pv 1) pe_int) (pix ix_tup (pv 0) pe_int))))))
   (pss_one (ps_ret (pe_or (pe_cmpR op_lt (pv 2) pe_int (nomark _)) (pe_one (pe_and (pe_cmpR op_eq (pv 2) pe_int (nomark _)) (pe_one (pe_cmpR op_lt (pf (ok_sign B) hr (p1 (pf (ok_less B) hr (p2 (pix ix_tup (pv 1) pe_int) (pix ix_tup (pv 0) pe_int))))) pe_int (nomark _))))))))),?_⟩
 try dsimp only [cxOf]
 have u:∀ {j:Int},j.natAbs<2 ^ 1000→j.natAbs<2 ^ 4000:=fun h=>Mth.up h (by decide)
 refine ⟨_,rfl,q',_,_,_,rfl,rfl,SqT.of hq,at1,_,rfl,p,_,_,_,rfl,rfl,SqT.of hp,at1,qy,py,_,_,_,_,rfl,hqy,hpy,⟨u i5,u i6,u o5,u o6⟩,?_,fun n1 d1 a1 H1 F1 g1 e1=>?_⟩
 ·exact mul_ne (pos_ne i2) (pos_ne o2)
 refine ⟨a1,n1,d1,rfl,e1,?_⟩
 have s1:=fr_sgn (Int.mul_pos i2 o2) F1
 have s2:sgn (uV P R).2=sgn n1:=by
  rw [s1]
  exact sgn_mul_pos (Int.mul_pos o1 i1)
 have s3:late (uV P R)=decide (sgn n1<0∨(sgn n1=0∧sgn (uV P R).1<0)):=by rw [late_sgn,s2]
 refine ⟨_,rfl,_,_,rfl,rfl,_,rfl,?_⟩
 refine ite2 (fun c=>?_) (fun c=>?_)
 ·have c:=of_decide_eq_true c
  have:=k H1 g1
  rwa [s3,decide_eq_true (.inl c)] at this
 have c:=of_decide_eq_false (Bool.eq_false_iff.mpr c)
 refine ⟨_,rfl,rfl,_,rfl,?_⟩
 refine ite2 (fun c2=>?_) (fun c2=>?_)
 ·have c2:sgn n1=0:=by
   have:=of_decide_eq_true c2
   injection this
  refine ⟨_,rfl,q',_,_,_,rfl,rfl,SqT.of (g1 _ _ hq),at0,_,rfl,p,_,_,_,rfl,rfl,SqT.of (g1 _ _ hp),at0,qx,px,_,_,_,_,rfl,g1 _ _ hqx,g1 _ _ hpx,⟨u i3,u i4,u o3,u o4⟩,?_,fun n2 d2 a2 H2 F2 g2 e2=>?_⟩
  ·exact mul_ne (pos_ne i1) (pos_ne o1)
  refine ⟨a2,n2,d2,rfl,e2,_,_,rfl,rfl,?_⟩
  have s4:=fr_sgn (Int.mul_pos i1 o1) F2
  have s5:sgn (uV P R).1=sgn n2:=by
   rw [s4]
   exact sgn_mul_pos (Int.mul_pos o2 i2)
  have:=k H2 (g1.trans g2)
  rw [s3,s5] at this
  rw [show decide (sgn n2<0)=decide (sgn n1<0∨(sgn n1=0∧sgn n2<0)) by congr 1;rw [eq_iff_iff];omega]
  exact this
 ·have c2:sgn n1≠0:=fun z=>by rw [z] at c2;exact c2 (decide_eq_true rfl)
  have:=k H1 g1
  rwa [s3,decide_eq_false (show ¬(sgn n1<0∨(sgn n1=0∧sgn (uV P R).1<0)) by omega)] at this
theorem ok_comes_ahead (B:Fx):Hs "comes_ahead" ["here","point","other"] 5 (spAhd):=by
 refine hs_of B.X B.d12 sc_comes_ahead fun f cdv A outer s H vs Q E nN hr h=>?_
 obtain ⟨p,q',r,P,R,S,rfl,hP,hR,hS,zP,zR,zS,k⟩:=h
 refine ⟨_,(pss_cons (pst 3 nN (pf (ok_is_late B) hr (p2 (pv 0) (pv 1))))
   (pss_cons (ps_if (pt_cmpR op_ne (pv 3) (pf (ok_is_late B) hr (p2 (pv 0) (pv 2))) (nomark _)) (pss_one (ps_ret (pe_not (pv 3)))) pss_nil)
   (pss_one (ps_ret (pe_cmpR op_gt (pf (ok_hand B) hr (pa_cons (pv 0) (pa_cons (pv 1) (pa_cons (pv 2) pa_nil)))) pe_int (nomark _)))))),?_⟩
 try dsimp only [cxOf]
 refine ⟨_,rfl,_,rfl,p,q',P,R,rfl,hP,hR,zP,zR,fun H1 g1=>?_⟩
 refine ⟨_,rfl,_,rfl,_,rfl,p,r,P,S,rfl,hP.kept g1,hS.kept g1,zP,zS,fun H2 g2=>?_⟩
 have g12:=g1.trans g2
 refine ⟨rfl,_,rfl,?_⟩
 unfold isAh ahd at k
 refine ite2 (fun c=>?_) (fun c=>?_)
 ·have c:late (uV P R)≠late (uV P S):=fun z=>by rw [z,decide_eq_true rfl] at c;cases c
  rw [if_neg c] at k
  exact ⟨_,rfl,_,rfl,k _ g12⟩
 ·have c:late (uV P R)=late (uV P S):=by
   cases a:late (uV P R)<;>cases b:late (uV P S)<;>rw [a,b] at c<;>first | rfl | exact absurd (by decide) c
  rw [if_pos c,cr_uV] at k
  refine ⟨_,rfl,_,rfl,_,rfl,p,q',r,P,R,S,rfl,hP.kept g12,hR.kept g12,hS.kept g12,zP,zR,zS,fun H3 g3=>?_⟩
  refine ⟨_,_,rfl,rfl,?_⟩
  have:=k _ (g12.trans g3)
  rw [show decide (0<lawdet P R S)=decide (0<sgn (det P R S)) by
   congr 1
   rw [eq_iff_iff,←lawsgn' ⟨zP.1,zP.2.1⟩]
   rcases sgn_cases (lawdet P R S) with z | z | z<;>omega] at this
  exact this
--SPLIT
open Mth Sca Ang
def AllAt {α:Type} (R:Hp→Addr→α→Prop) (H:Hp) (ps:List Addr) (xs:List α):Prop:=ps.length=xs.length∧∀ (i:Nat) (p:Addr) (x:α),ps[i]?=some p→xs[i]?=some x→R H p x
theorem AllAt.nil {α:Type} {R:Hp→Addr→α→Prop} {H:Hp}:AllAt R H [] []:=⟨rfl,fun i p x h=>by simp at h⟩
theorem AllAt.get {α:Type} {R:Hp→Addr→α→Prop} {H:Hp} {ps:List Addr} {xs:List α} {i:Nat} {p:Addr} (h:AllAt R H ps xs) (e:ps[i]?=some p):∃ x,xs[i]?=some x∧R H p x:=by
 have hi:i<xs.length:=h.1 ▸ (List.getElem?_eq_some_iff.mp e).1
 exact ⟨xs[i],List.getElem?_eq_getElem hi,h.2 i p _ e (List.getElem?_eq_getElem hi)⟩
theorem AllAt.at {α:Type} {R:Hp→Addr→α→Prop} {H:Hp} {ps:List Addr} {xs:List α} {i:Nat} {x:α} (h:AllAt R H ps xs) (e:xs[i]?=some x):∃ p,ps[i]?=some p∧R H p x:=by
 have hi:i<ps.length:=h.1 ▸ (List.getElem?_eq_some_iff.mp e).1
 exact ⟨ps[i],List.getElem?_eq_getElem hi,h.2 i _ x (List.getElem?_eq_getElem hi) e⟩
theorem AllAt.imp {α:Type} {R R':Hp→Addr→α→Prop} {H H':Hp} {ps:List Addr} {xs:List α} (h:AllAt R H ps xs) (g:∀ p x,R H p x→R' H' p x):AllAt R' H' ps xs:=⟨h.1,fun i p x e1 e2=>g p x (h.2 i p x e1 e2)⟩
theorem AllAt.snoc {α:Type} {R:Hp→Addr→α→Prop} {H:Hp} {ps:List Addr} {xs:List α} {p:Addr} {x:α} (h:AllAt R H ps xs) (e:R H p x):AllAt R H (ps++[p]) (xs++[x]):=by
 refine ⟨by rw [List.length_append,List.length_append,h.1];rfl,fun i q y e1 e2=>?_⟩
 rcases Nat.lt_or_ge i ps.length with l | l
 ·rw [List.getElem?_append_left l] at e1
  rw [List.getElem?_append_left (h.1 ▸ l)] at e2
  exact h.2 i q y e1 e2
 ·rw [List.getElem?_append_right l] at e1
  rw [List.getElem?_append_right (h.1 ▸ l),←h.1] at e2
  match i-ps.length,e1,e2 with
  | 0,e1,e2 =>
   cases e1
   cases e2
   exact e
  | k+1,e1,_=>simp at e1
/-- a point as a dict's key -/
def nk (P:Pt):NKey:=[[.inl P.n,.inl P.d],[.inl P.m,.inl P.e]]
theorem nk_inj {P R:Pt} (h:nk P=nk R):P=R:=by
 unfold nk at h
 injection h with h1 h2
 injection h2 with h2 _
 injection h1 with a h1
 injection h1 with b _
 injection h2 with c h2
 injection h2 with d _
 cases P
 cases R
 injection a with a
 injection b with b
 injection c with c
 injection d with d
 simp_all
theorem PtAt.nat {H:Hp} {p:Addr} {P:Pt} (h:PtAt H p P):NAt H p (nk P):=by
 obtain ⟨x,y,h1,h2,h3⟩:=h
 refine ⟨[x,y],h1,rfl,fun i q k e1 e2=>?_⟩
 match i,e1,e2 with
 | 0,e1,e2=>cases e1;cases e2;exact h2
 | 1,e1,e2=>cases e1;cases e2;exact h3
 | n+2,e1,_=>simp at e1
/-- the first two places of one point -/
structure Least (Ps:List Pt) (p q:Nat):Prop where
 lt:p<q
 same:∃ P,Ps[p]?=some P∧Ps[q]?=some P
 le:∀ p' q' P,p'<q'→Ps[p']?=some P→Ps[q']?=some P→p<p'∨(p=p'∧q≤q')
/-- behind so many places: the first ones of each point, the others -/
structure AkI (ps:List Addr) (Ps:List Pt) (j:Nat) (kvs:List (NKey×Addr×Int)) (ns:List (Int×Int)):Prop where
 len:kvs.length≤j
 mem:∀ e∈kvs,∃ i P,i<j∧Ps[i]?=some P∧ps[i]?=some e.2.1∧e.1=nk P
 one:∀ (P:Pt) (v:Int),look kvs (nk P)=some v→∃ i:Nat,v=i∧i<j∧Ps[i]?=some P∧∀ i',i'<i→Ps[i']?≠some P
 none:∀ P:Pt,look kvs (nk P)=none→∀ i,i<j→Ps[i]?≠some P
 prs:∀ x∈ns,∃ p q:Nat,x=((p:Int),(q:Int))∧p<q∧q<j∧∃ P,Ps[p]?=some P∧Ps[q]?=some P
 all:∀ (p q:Nat) (P:Pt),p<q→q<j→Ps[p]?=some P→Ps[q]?=some P→∃ f:Nat,f≤p∧((f:Int),(q:Int))∈ns
 nl:ns.length≤j
theorem AkI.start {ps:List Addr} {Ps:List Pt}:AkI ps Ps 0 [] [] :=
 ⟨Nat.le_refl _,(fun e h=>by cases h),(fun P v h=>by cases h),(fun P _ i hi=>by omega),(fun x h=>by cases h),(fun p q P _ hq=>by omega),Nat.le_refl _⟩
theorem same_at {H H1:Hp} {D:Addr} {o:HO} (n:H D=none) (g:Same H H1):Same H (upd H1 D o):=fun b u e=>by
 rw [upd_ne (ne_of_none e n)]
 exact g b u e
theorem look_snoc (kvs:List (NKey×Addr×Int)) (e:NKey×Addr×Int) (k:NKey):look (kvs++[e]) k=match look kvs k with | some v=>some v | none=>if e.1=k then some e.2.2 else none:=by
 unfold look
 rw [List.find?_append]
 cases h:kvs.find? fun x=>decide (x.1=k) with
 | some x=>rfl
 | none =>
  rw [Option.none_or,List.find?_cons]
  by_cases c:e.1=k
  ·rw [decide_eq_true c,if_pos c];rfl
  ·rw [decide_eq_false c,if_neg c];rfl
theorem AkI.new {ps:List Addr} {Ps:List Pt} {j:Nat} {kvs:List (NKey×Addr×Int)} {ns:List (Int×Int)} {P:Pt} {b:Addr} (h:AkI ps Ps j kvs ns) (eP:Ps[j]?=some P) (eb:ps[j]?=some b) (hn:look kvs (nk P)=Option.none):AkI ps Ps (j+1) (kvs++[(nk P,b,(j:Int))]) ns:=by
 refine ⟨?_,fun e he=>?_,fun R v hv=>?_,fun R hR i hi=>?_,fun x hx=>?_,fun p q R pq hq e1 e2=>?_,by have:=h.nl;omega⟩
 ·rw [List.length_append]
  have:=h.len
  show kvs.length+1≤_
  omega
 ·rcases List.mem_append.mp he with he | he
  ·obtain ⟨i,R,a,r⟩:=h.mem e he
   exact ⟨i,R,by omega,r⟩
  ·cases List.mem_singleton.mp he
   exact ⟨j,P,by omega,eP,eb,rfl⟩
 ·rw [look_snoc] at hv
  cases c:look kvs (nk R) with
  | some v' =>
   rw [c] at hv
   cases hv
   obtain ⟨i,a,b',r⟩:=h.one R _ c
   exact ⟨i,a,by omega,r⟩
  | none =>
   rw [c] at hv
   by_cases d:nk P=nk R
   ·have hv:(if nk P=nk R then some (j:Int) else Option.none)=some v:=hv
    rw [if_pos d] at hv
    cases hv
    cases nk_inj d
    exact ⟨j,rfl,by omega,eP,fun i' hi'=>h.none P hn i' hi'⟩
   ·have hv:(if nk P=nk R then some (j:Int) else Option.none)=some v:=hv
    rw [if_neg d] at hv
    cases hv
 ·rw [look_snoc] at hR
  cases c:look kvs (nk R) with
  | some v'=>rw [c] at hR;cases hR
  | none =>
   rcases (by omega:i=j∨i<j) with rfl | hi
   ·intro e
    rw [eP] at e
    cases e
    rw [c] at hR
    have hR:(if nk P=nk P then some (i:Int) else Option.none)=Option.none:=hR
    rw [if_pos rfl] at hR
    cases hR
   ·exact h.none R c i hi
 ·obtain ⟨p,q,a,b',c,r⟩:=h.prs x hx
  exact ⟨p,q,a,b',by omega,r⟩
 ·rcases (by omega:q=j∨q<j) with rfl | hq
  ·rw [eP] at e2
   cases e2
   exact absurd e1 (h.none P hn p pq)
  ·exact h.all p q R pq hq e1 e2
theorem AkI.old {ps:List Addr} {Ps:List Pt} {j:Nat} {kvs:List (NKey×Addr×Int)} {ns:List (Int×Int)} {P:Pt} {v:Int} (h:AkI ps Ps j kvs ns) (eP:Ps[j]?=some P) (hv:look kvs (nk P)=some v):v≠(j:Int)∧AkI ps Ps (j+1) kvs (ns++[(v,(j:Int))]):=by
 obtain ⟨i,rfl,hi,ei,fi⟩:=h.one P v hv
 refine ⟨by omega,?_,fun e he=>?_,fun R v hv=>?_,fun R hR i' hi'=>?_,fun x hx=>?_,fun p q R pq hq e1 e2=>?_,?_⟩
 ·have:=h.len
  omega
 ·obtain ⟨i,R,a,r⟩:=h.mem e he
  exact ⟨i,R,by omega,r⟩
 ·obtain ⟨i,a,b,r⟩:=h.one R v hv
  exact ⟨i,a,by omega,r⟩
 ·rcases (by omega:i'=j∨i'<j) with rfl | hi'
  ·intro e
   rw [eP] at e
   cases e
   rw [hv] at hR
   cases hR
  ·exact h.none R hR i' hi'
 ·rcases List.mem_append.mp hx with hx | hx
  ·obtain ⟨p,q,a,b,c,r⟩:=h.prs x hx
   exact ⟨p,q,a,b,by omega,r⟩
  ·cases List.mem_singleton.mp hx
   exact ⟨i,j,rfl,hi,by omega,P,ei,eP⟩
 ·rcases (by omega:q=j∨q<j) with rfl | hq
  ·rw [eP] at e2
   cases e2
   refine ⟨i,?_,List.mem_append_right _ (List.mem_singleton.mpr rfl)⟩
   rcases (by omega:i≤p∨p<i) with c | c
   ·exact c
   ·exact absurd e1 (fi p c)
  ·obtain ⟨f,a,b⟩:=h.all p q R pq hq e1 e2
   exact ⟨f,a,List.mem_append_left _ b⟩
 ·rw [List.length_append]
  have:=h.nl
  show ns.length+1≤_
  omega
def PrR (H:Hp) (p:Addr) (x:Int×Int):Prop:=H p=some (.tup [.int x.1,.int x.2])
inductive spAlike (vs:List V) (H:Hp) (Q:VK) (Y:XK):Prop
 | mk:∀ (t:Addr) (ps:List Addr) (Ps:List Pt),(vs=[.ref t])→(H t=some (.tup (ps.map V.ref)))→(AllAt PtAt H ps Ps)→(Ps.length≤900)→(∀ H',Same H H'→(∀ (p q:Nat) (P:Pt),p<q→Ps[p]?=some P→Ps[q]?≠some P)→Q .non H') →
   (∀ (a:Addr) (p q:Nat) (H':Hp),Same H H'→H' a=some (.tup [vn p,vn q])→Least Ps p q→Q (.ref a) H')→spAlike vs H Q Y
theorem ok_alike (B:Fx):Hs "alike" ["drawing"] 1 (spAlike):=by
 refine hs_of B.X B.d9 sc_alike fun f cdv A outer s H vs Q E nN hr h=>?_
 obtain ⟨t,ps,Ps,rfl,ht,hP,l8,kn,ks⟩:=h
 refine ⟨_,(pss_cons (pst 1 nN pe_dnewN)
   (pss_cons (pst 2 nN (pe_lst pa_nil))
   (pss_cons (pfor (pi_enum false rfl (B.z B.y10) (p1 (pv 0))) (pg_tup (n:=2) rfl (pgs_cons (pgn 3 nN) (pgs_cons (pgn 4 nN) pgs_nil))) (pss_cons (pst 5 nN (pe_setd hr.u80 (pv 1) (p2 (pv 4) (pv 3))))
   (pss_one (ps_if (pt_cmpR op_ne (pv 5) (pv 3) (nomark _)) (pss_one (ps_expr (m_list PySem.F.slot_list_append PySem.F.type_list_append mt_append (pv 2) (p1 (pe_tup (p2 (pv 5) (pv 3))))))) pss_nil))))
   (pss_one (ps_ret (pe_ifExp (pt_truth (pv 2) (fun _=>rfl)) (pe_callB (call_minP rfl hr.units) rfl (B.z B.y9) PyProof.Rows.boot_min (p1 (pv 2))) pe_non)))))),?_⟩
 try dsimp only [cxOf]
 refine fun d nd=>?_
 have g1:=same_new nd (.ext (ND P w d []))
 have hd1:upd H d (.ext (ND P w d [])) d=some (.ext (ND P w d [])):=upd_same
 generalize upd H d (.ext (ND P w d []))=H1 at *
 refine ⟨by show 0≤sizeLine;decide,fun pl npl=>?_⟩
 have ndl:pl≠d:=fun z=>by subst z;rw [hd1] at npl;cases npl
 have nplH:H pl=none:=g1.free npl
 have g2:=g1.trans (same_new npl (.lst []))
 have lps:=hP.1
 refine ⟨_,rfl,t,rfl,⟨_,SqT.of (g2 _ _ ht)⟩,?_⟩
 refine for_enum (k:=false) (xs:=ps.map V.ref) (fun j σ H2=>∃ (kvs:List (NKey×Addr×Int)) (us:List Addr) (ns:List (Int×Int)) (x3 x4 x5:Option V),σ=[some (.ref t),some (.ref d),some (.ref pl),x3,x4,x5]∧Same H H2∧H2 d=some (.ext (ND P w d kvs))∧H2 pl=some (.lst (us.map V.ref))∧AllAt (fun H p x=>p≠pl∧p≠d∧PrR H p x) H2 us ns∧AkI ps Ps j kvs ns)
  ⟨[],[],[],none,none,none,rfl,g2,by rw [upd_ne (Ne.symm ndl)];exact hd1,upd_same,AllAt.nil,AkI.start⟩ ?_ ?_ ?_
 ·rintro j σ H2 _ ⟨kvs,us,ns,x3,x4,x5,rfl,g,_⟩
  exact SqT.of (g _ _ ht)
 ·rintro j v T σ H2 hv nT ⟨kvs,us,ns,x3,x4,x5,rfl,g,hd,hpl,hus,I⟩
  rw [List.getElem?_map] at hv
  obtain ⟨b,eb,rfl⟩:=Option.map_eq_some_iff.mp hv
  obtain ⟨R,eR,hR⟩:=hP.get eb
  have hj:=(List.getElem?_eq_some_iff.mp eR).1
  have gT:=same_new nT (.tup [.int j,.ref b])
  have gg:=g.trans gT
  have hdT:=gT _ _ hd
  have hplT:=gT _ _ hpl
  have husT:=hus.imp (R':=fun H p x=>p≠pl∧p≠d∧PrR H p x) fun p x z=>⟨z.1,z.2.1,gT _ _ z.2.2⟩
  have hkv:∀ e∈kvs,NAt (upd H2 T (.tup [.int j,.ref b])) e.2.1 e.1:=fun e he=>by
   obtain ⟨i,S,_,e1,e2,e3⟩:=I.mem e he
   rw [e3]
   exact ((hP.2 i _ _ e2 e1).kept gg).nat
  have lk:=I.len
  have small9:∀ n:Nat,n≤1000→n<sizeLine:=fun n h=>small1000 h
  refine ⟨T,_,rfl,SqT.of upd_same,rfl,_,_,rfl,_,_,rfl,rfl,?_⟩
  refine ⟨_,rfl,d,kvs,rfl,hdT,_,rfl,_,rfl,b,j,nk R,rfl,hdT,(hR.kept gg).nat,hkv,small9 _ (by omega),fun v hv=>?_,fun hv=>?_⟩
  ·obtain ⟨ne,I2⟩:=I.old eR hv
   refine ⟨_,rfl,_,rfl,rfl,_,rfl,?_⟩
   rw [decide_eq_false (show V.int v≠V.int j from fun z=>ne (by injection z))]
   refine iteT ?_
   refine ⟨_,rfl,.inl ⟨rfl,_,SqL.of hplT⟩,_,rfl,_,rfl,(by show 2≤sizeLine;decide),fun p2 n2=>?_⟩
   have g3:=same_new n2 (.tup [.int v,.int j])
   have hpl3:=g3 _ _ hplT
   have ln:=I.nl
   refine ⟨pl,_,_,rfl,rfl,hpl3,small9 _ (by rw [List.length_map,hus.1];omega),?_⟩
   have n2p:p2≠pl:=fun z=>by subst z;rw [hplT] at n2;cases n2
   have n2d:p2≠d:=fun z=>by subst z;rw [hdT] at n2;cases n2
   refine ⟨kvs,us++[p2],ns++[(v,(j:Int))],_,_,_,rfl,same_at nplH (gg.trans g3),by rw [upd_ne (Ne.symm ndl)];exact g3 _ _ hdT,by rw [upd_same,List.map_append];rfl,?_,I2⟩
   exact ((husT.imp (R':=fun H p x=>p≠pl∧p≠d∧PrR H p x) fun p x z=>⟨z.1,z.2.1,g3 _ _ z.2.2⟩).snoc ⟨n2p,n2d,show PrR _ p2 (v,(j:Int)) from upd_same⟩).imp fun p x z=>⟨z.1,z.2.1,by unfold PrR;rw [upd_ne z.1];exact z.2.2⟩
  ·have I2:=I.new eR eb hv
   refine ⟨_,rfl,_,rfl,rfl,_,rfl,?_⟩
   rw [decide_eq_true rfl]
   refine iteF ?_
   refine ⟨_,us,ns,_,_,_,rfl,same_at nd gg,upd_same,by rw [upd_ne ndl];exact hplT,husT.imp fun p x z=>⟨z.1,z.2.1,by unfold PrR;rw [upd_ne z.2.1];exact z.2.2⟩,I2⟩
 ·rintro σ H2 ⟨kvs,us,ns,x3,x4,x5,rfl,g,hd,hpl,hus,I⟩
  rw [List.length_map,lps] at I
  refine ⟨_,rfl,_,.inl ⟨_,SqL.of hpl,rfl⟩,?_⟩
  refine ite2 (fun c=>?_) (fun c=>?_)
  ·have hne:0<ns.length:=by
    have l:=hus.1
    cases us with
    | nil=>cases c
    | cons x r=>rw [←l];exact Nat.succ_pos _
   refine ⟨_,rfl,pl,us,ns,rfl,hpl,hus.1,fun i p x e1 e2=>(hus.2 i p x e1 e2).2.2,hne,fun k p x e1 e2 hx=>?_⟩
   obtain ⟨p0,q0,rfl,pq,hq,P0,f1,f2⟩:=I.prs x (List.mem_of_getElem? e2)
   refine ks p p0 q0 H2 g (hus.2 k p _ e1 e2).2.2 ⟨pq,⟨P0,f1,f2⟩,fun p' q' R pq' r1 r2=>?_⟩
   obtain ⟨f,hf,mf⟩:=I.all p' q' R pq' (List.getElem?_eq_some_iff.mp r2).1 r1 r2
   have:=hx _ mf
   unfold ltP at this
   have this:=of_decide_eq_false this
   have a1:¬ ((f:Int)<p0∨((f:Int)=p0∧(q':Int)<q0)):=this
   omega
  ·have z:ns=[]:=by
    have l:=hus.1
    cases us with
    | nil=>exact List.length_eq_zero_iff.mp l.symm
    | cons x r=>exact absurd rfl c
   refine kn H2 g fun p q P0 pq r1 r2=>?_
   obtain ⟨f,_,mf⟩:=I.all p q P0 pq (List.getElem?_eq_some_iff.mp r2).1 r1 r2
   rw [z] at mf
   cases mf
--SPLIT
open Mth Sca Ang Dcl
theorem ok_init_D {f:Addr} {fd:FuncData} (F:Fun K "__init__" "DrawError.__init__" s_init_DrawError f fd) (z:mg "ValueError" = none) (vf:PySem.W.findCls K (.type "ValueError") (.type "type") "__init__" = some (.val (.builtin "ValueError.__init__"))) :
  FnOk P w K mg base CX0 1 f fd ["self","words"] (spInitD K):=by
 refine Fun.ok F sc_init_DrawError (fun vs H Q E h=>?_) (fun cdv A outer s H vs Q E hr h=>?_)
 ·obtain ⟨a,C,x,rfl,_⟩:=h
  rfl
 obtain ⟨a,C,x,rfl,ha,x0,hv,q⟩:=h
 refine ⟨_,(pss_one (ps_expr (pe_vinit rfl z vf (pa_cons (pv 0) (pa_cons (pv 1) pa_nil))))),?_⟩
 exact ⟨_,rfl,_,rfl,a,C,none,_,rfl,ha,x0,hv,by simp,q⟩
theorem ok_init_Alike {f:Addr} {fd:FuncData} (F:Fun K "__init__" "Alike.__init__" s_init_Alike f fd) (d:DrI P w K mg base):FnOk P w K mg base CX0 2 f fd ["self","places"] (spInitT K "places"):=by
 refine Fun.ok F sc_init_Alike (fun vs H Q E h=>?_) (fun cdv A outer s H vs Q E hr h=>?_)
 ·obtain ⟨a,C,x,rfl,_⟩:=h
  rfl
 obtain ⟨a,C,y,rfl,ha,x0,hv,n,q⟩:=h
 obtain ⟨D,g,gd,G,b,kp,gm,h1,h2,h3⟩:=d
 refine ⟨_,(pss_cons (ps_expr (pe_cinit rfl gm h1 h2 h3 kp G (hr.mono (by decide)) b (pa_cons (pv 0) (pa_cons pe_str pa_nil)))) (pss_one (ps_xfld (pv 0) (pv 1) rfl))),?_⟩
 exact ⟨_,rfl,a,C,_,rfl,ha,x0,hv,_,rfl,_,rfl,a,C,rfl,ha,x0,n,fun d nd na=>q d nd na⟩
theorem ok_init_Folded {f:Addr} {fd:FuncData} (F:Fun K "__init__" "Folded.__init__" s_init_Folded f fd) (d:DrI P w K mg base):FnOk P w K mg base CX0 2 f fd ["self","place"] (spInitT K "place"):=by
 refine Fun.ok F sc_init_Folded (fun vs H Q E h=>?_) (fun cdv A outer s H vs Q E hr h=>?_)
 ·obtain ⟨a,C,x,rfl,_⟩:=h
  rfl
 obtain ⟨a,C,y,rfl,ha,x0,hv,n,q⟩:=h
 obtain ⟨D,g,gd,G,b,kp,gm,h1,h2,h3⟩:=d
 refine ⟨_,(pss_cons (ps_expr (pe_cinit rfl gm h1 h2 h3 kp G (hr.mono (by decide)) b (pa_cons (pv 0) (pa_cons pe_str pa_nil)))) (pss_one (ps_xfld (pv 0) (pv 1) rfl))),?_⟩
 exact ⟨_,rfl,a,C,_,rfl,ha,x0,hv,_,rfl,_,rfl,a,C,rfl,ha,x0,n,fun d nd na=>q d nd na⟩
theorem dr (B:Fx):DrI P w K mg base:=di_of B.X B.xi B.xg (fun f fd F z=>ok_init_D F z B.xg.vf) (fun f fd F=>F.binds (by intro _ _ _ _ _ _ us hl;obtain ⟨_,_,rfl⟩:=len2 hl;rfl))
theorem al (B:Fx):∃ (C D F:Addr) (fd:FuncData),mg "Alike" = some (.ref C)∧mg "DrawError" = some (.ref D)∧XM K C F∧FnOk P w K mg base CX0 2 F fd ["self","places"] (spInitT K "places")∧Binds K fd ["self","places"] []∧PySem.W.mroIn K C (.type "ValueError")=some true∧PySem.W.mroIn K C (.ref D)=some true∧PySem.W.findIn K (.ref C) "places" = some none :=
 ox_of B.X B.o_Alike (dr B) (fun f fd F d=>ok_init_Alike F d) (fun f fd F=>F.binds (by intro _ _ _ _ _ _ us hl;obtain ⟨_,_,rfl⟩:=len2 hl;rfl))
theorem fo (B:Fx):∃ (C D F:Addr) (fd:FuncData),mg "Folded" = some (.ref C)∧mg "DrawError" = some (.ref D)∧XM K C F∧FnOk P w K mg base CX0 2 F fd ["self","place"] (spInitT K "place")∧Binds K fd ["self","place"] []∧PySem.W.mroIn K C (.type "ValueError")=some true∧PySem.W.mroIn K C (.ref D)=some true∧PySem.W.findIn K (.ref C) "place" = some none :=
 ox_of B.X B.o_Folded (dr B) (fun f fd F d=>ok_init_Folded F d) (fun f fd F=>F.binds (by intro _ _ _ _ _ _ us hl;obtain ⟨_,_,rfl⟩:=len2 hl;rfl))
/-- what is left of a raise, once its argument is read -/
theorem rd_made {C:Addr} {y:V} {H:Hp} {E:XK} {attr:Str} (ve:PySem.W.mroIn K C (.type "ValueError")=some true) (na:PySem.W.findIn K (.ref C) attr=some none) (x0:Ex.XK0 K C) (q:∀ d H',Same H H'→H' d=some (.xd [(attr,y)])→E (.ref C) (some d) H') :
  ∀ a,H a=none→spInitT K attr [.ref a,y] (upd H a (.ext (XO a C none .none))) (fun v H2=>v=.non∧sRaiseY K E (.ref a) H2) E0:=by
 refine fun a nx=>⟨a,C,y,rfl,upd_same,x0,ve,na,fun d nd da=>⟨rfl,a,C,some d,rfl,⟨upd_same,fun d' e=>?_⟩,x0,fun T nT nTa=>?_⟩⟩
 ·cases e
  exact ⟨_,by rw [upd_ne da,upd_same]⟩
 ·have hd:upd (upd (upd H a (.ext (XO a C none .none))) d (.xd [(attr,y)])) a (.ext (XO a C (some d) .none)) d=some (.xd [(attr,y)]):=by rw [upd_ne da,upd_same]
  refine q d _ (fun b o e=>?_) ?_
  ·have bx:b≠a:=ne_of_none e nx
   have e1:upd H a (.ext (XO a C none .none)) b=some o:=by rw [upd_ne bx];exact e
   have bd:b≠d:=ne_of_none e1 nd
   have e2:upd (upd (upd H a (.ext (XO a C none .none))) d (.xd [(attr,y)])) a (.ext (XO a C (some d) .none)) b=some o:=by rw [upd_ne bx,upd_ne bd];exact e1
   unfold tr2
   rw [upd_ne bx,upd_ne (ne_of_none e2 nT)]
   exact e2
  ·unfold tr2
   rw [upd_ne da,upd_ne (ne_of_none hd nT)]
   exact hd
def NoTwo (Ps:List Pt):Prop:=∀ (p q:Nat) (P:Pt),p<q→Ps[p]?=some P→Ps[q]?≠some P
inductive spUnlike (vs:List V) (H:Hp) (Q:VK) (E:XK):Prop
 | mk:∀ (t:Addr) (ps:List Addr) (Ps:List Pt),(vs=[.ref t])→(H t=some (.tup (ps.map V.ref)))→(AllAt PtAt H ps Ps)→(Ps.length≤900)→(∀ H',Same H H'→NoTwo Ps→Q .non H') →
   (∀ (C d a:Addr) (p q:Nat) (H':Hp),mg "Alike" = some (.ref C)→Same H H'→H' d=some (.xd [("places",.ref a)])→H' a=some (.tup [vn p,vn q])→Least Ps p q→E (.ref C) (some d) H')→spUnlike vs H Q E
theorem ok_must_be_unlikeX (B:Fx):HasX P w K mg base "must_be_unlike" ["drawing"] 4 spUnlike:=by
 refine hsX_of B.X B.d10 sc_must_be_unlike (fun f cdv A outer s H vs Q E nN hr h=>?_) (by intro _ _ _ _ h;cases h<;>(subst_vars;rfl)) (by intro _ _ _ _ _ _ us hl;obtain ⟨_,rfl⟩:=len1 hl;rfl)
 obtain ⟨C,D,F,fd,g_Alike,gD,m_Alike,f_Alike,b_Alike,ve,vd,na⟩:=al B
 refine ⟨_,(pss_cons (pst 1 nN (pf (ok_alike B) hr (p1 (pv 0))))
   (pss_one (ps_if (pt_cmpR op_notN (pv 1) pe_non (nomark _)) (pss_one (ps_raise (E:=E) (pe_xmake m_Alike f_Alike (hr.mono (by decide)) rfl g_Alike b_Alike (by decide) (p1 (pv 1))) rfl rfl rfl rfl rfl)) pss_nil))),?_⟩
 try dsimp only [cxOf]
 obtain ⟨t,ps,Ps,rfl,ht,hP,l9,kn,ke⟩:=h
 refine ⟨_,rfl,t,ps,Ps,rfl,ht,hP,l9,fun H1 g1 no=>?_,fun a p q H1 g1 ha lst=>?_⟩
 ·refine ⟨_,rfl,rfl,_,rfl,?_⟩
  exact iteF (kn H1 g1 no)
 ·refine ⟨_,rfl,rfl,_,rfl,?_⟩
  refine iteT ?_
  exact ⟨_,rfl,rd_made ve na m_Alike.x0 fun d H' g hd=>ke C d a p q H' g_Alike (g1.trans g) hd (g _ _ ha) lst⟩
--SPLIT
open Mth Sca Ang Dcl
def RowT (H:Hp) (a:Addr) (row:List Nat):Prop:=H a=some (.tup (row.map vn))
def WAt (H:Hp) (t:Addr) (W:List (List Nat)):Prop:=∃ ts:List Addr,H t=some (.tup (ts.map V.ref))∧AllAt RowT H ts W
def DAt (H:Hp) (t:Addr) (Ps:List Pt):Prop:=∃ ps:List Addr,H t=some (.tup (ps.map V.ref))∧AllAt PtAt H ps Ps
theorem WAt.kept {H H':Hp} {t:Addr} {W:List (List Nat)} (h:WAt H t W) (g:Same H H'):WAt H' t W:=by
 obtain ⟨ts,a,b⟩:=h
 exact ⟨ts,g _ _ a,b.imp fun p x z=>g _ _ z⟩
theorem DAt.kept {H H':Hp} {t:Addr} {Ps:List Pt} (h:DAt H t Ps) (g:Same H H'):DAt H' t Ps:=by
 obtain ⟨ts,a,b⟩:=h
 exact ⟨ts,g _ _ a,b.imp fun p x z=>z.kept g⟩
def pt (Ps:List Pt) (i:Nat):Pt:=Ps.getD i ⟨0,1,0,1⟩
theorem pt_of {Ps:List Pt} {i:Nat} {P:Pt} (e:Ps[i]?=some P):pt Ps i=P:=by unfold pt;rw [List.getD_eq_getElem?_getD,e];rfl
theorem pt_at {Ps:List Pt} {i:Nat} (h:i<Ps.length):Ps[i]?=some (pt Ps i):=by rw [List.getElem?_eq_getElem h,pt_of (List.getElem?_eq_getElem h)]
def dirs (Ps:List Pt) (p q:Nat):Vc:=uV (pt Ps p) (pt Ps q)
def rowT (u:Nat→Vc) (row:List Nat):List Nat:=rot (srtA (Au u) row) (low (srtA (Au u) row))
structure RowOk (Ps:List Pt) (p:Nat) (row:List Nat):Prop where
 rw:Rw_ (dirs Ps p) row
 lt:∀ q∈row,q<Ps.length
 ne:row≠[]
 le:row.length≤900
inductive spRowTd (vs:List V) (H:Hp) (Q:VK) (E:XK):Prop
 | mk:∀ (tw td:Addr) (p:Nat) (W:List (List Nat)) (Ps:List Pt) (row:List Nat),(vs=[.ref tw,.ref td,vn p])→(WAt H tw W)→(DAt H td Ps)→(W[p]?=some row)→(p<Ps.length)→(∀ P∈Ps,Sz 1000 P)→(Ps.length≤900)→(RowOk Ps p row) →
   (∀ (t:Addr) (H':Hp),Same H H'→¬ Fold (dirs Ps p) row→RowT H' t (rowT (dirs Ps p) row)→Q (.ref t) H') →
   (∀ (C d:Addr) (H':Hp),mg "Folded" = some (.ref C)→Same H H'→H' d=some (.xd [("place",vn p)])→Fold (dirs Ps p) row→E (.ref C) (some d) H')→spRowTd vs H Q E
theorem ok_row_turnedX (B:Fx):HasX P w K mg base "row_turned" ["web","drawing","place"] 7 spRowTd:=by
 refine hsX_of B.X B.d13 sc_row_turned (fun f cdv A outer s H vs Q E nN hr h=>?_) (by intro _ _ _ _ h;cases h<;>(subst_vars;rfl)) (by intro _ _ _ _ _ _ us hl;obtain ⟨_,_,_,rfl⟩:=len3 hl;rfl)
 obtain ⟨C,D,F,fd,g_Folded,gD,m_Folded,f_Folded,b_Folded,ve,vd,na⟩:=fo B
 refine ⟨_,(pss_cons (pst 3 nN (pix ix_tup (pv 1) (pv 2)))
   (pss_cons (pst 4 nN (pix ix_tup (pv 0) (pv 2)))
   (pss_cons (PS.nox (ps_lc1y (i:=5) (Nc:=["q","row","here","drawing"]) (js:=[none,some 4,some 3,some 1]) rfl rfl nN rfl (Or.inl rfl) (pi_tup (pv 4)) (CS2.of rfl rfl) rfl (fun C s₂ H₂ fp pins=>(pg_name (i:=0) (show List.Nodup (α:=Str) ["q","row","here","drawing"] by decide +kernel) rfl (Or.inr rfl))) (fun C s₂ H₂ fp pins D L=>(pt_tail0 (pb_app (pe_callB (show CallR _ _ (call_len_seqY K) from call_len_seq) rfl (B.z B.y2) PySem.boot_len (p1 (PE.nox (pe_lc1x (Nc:=["r","here","drawing","q"]) (js:=[none,some 2,some 3,some 0]) rfl rfl (show PI _ _ _ (iTup K _) from (pi_tup (pv 1))) (CS.of rfl rfl) rfl (fun C s₂ H₂ fp pins=>(pg_name (i:=0) (show List.Nodup (α:=Str) ["r","here","drawing","q"] by decide +kernel) rfl (Or.inl rfl))) (fun C s₂ H₂ fp pins D L=>(pt_tail1 (pt_val (pf (ok_comes_ahead B) hr (pa_cons (pv 1) (pa_cons (pix (show IxR _ (rIxT K) from ix_tup) (pv 2) (pv 0)) (pa_cons (pix (show IxR _ (rIxT K) from ix_tup) (pv 2) (pv 3)) pa_nil))))) (pb_app (pv 0)))))))))))))
   (pss_cons (pst 6 nN (Dcv.pe_dictZ rfl rfl (B.z B.y11) rfl (B.z B.y12) (p2 (pv 5) (pv 4))))
   (pss_cons (ps_if (pt_cmpR op_lt (pe_callB call_lenD rfl (B.z B.y2) PySem.boot_len (p1 (pv 6))) (pe_callB call_len_seq rfl (B.z B.y2) PySem.boot_len (p1 (pv 4))) (nomark _)) (pss_one (ps_raise (E:=E) (pe_xmake m_Folded f_Folded (hr.mono (by decide)) rfl g_Folded b_Folded (by decide) (p1 (pv 2))) rfl rfl rfl rfl rfl)) pss_nil)
   (pss_one (ps_ret (pf (ok_from_least B) hr (p1 (PE.nox (pe_lc1x (Nc:=["at","placed"]) (js:=[none,some 6]) rfl rfl (pi_range1 rfl (B.z B.y1) (p1 (pe_callB call_len_seq rfl (B.z B.y2) PySem.boot_len (p1 (pv 4))))) (CS.of rfl rfl) rfl (fun C s₂ H₂ fp pins=>(pgc 0)) (fun C s₂ H₂ fp pins D L=>(pt_tail0 (pb_app (pe_dget (hu_of hr) (pv 1) (pv 0) (fun _ _=>rfl)))))))))))))))),?_⟩
 try dsimp only [cxOf]
 obtain ⟨tw,td,p,W,Ps,row,rfl,⟨ts,hw,hW⟩,⟨ps,hd,hP⟩,er,lp,sz,l9,ok,kq,ke⟩:=h
 obtain ⟨pp,ep,hp⟩:=hP.at (pt_at lp)
 obtain ⟨rp,erp,hrp⟩:=hW.at er
 have hrp:H rp=some (.tup (row.map vn)):=hrp
 have Rlt:=ok.lt
 have fr8:∀ n:Nat,n≤1000→n<sizeLine:=fun n h=>small1000 h
 have ptq:∀ {q:Nat},q∈row→∃ qp,ps[q]?=some qp∧PtAt H qp (pt Ps q)∧Sz 1000 (pt Ps q):=fun {q} hq=>by
  obtain ⟨qp,e1,e2⟩:=hP.at (pt_at (Rlt q hq))
  exact ⟨qp,e1,e2,sz _ (List.mem_of_getElem? (pt_at (Rlt q hq)))⟩
 have zp:=sz _ (List.mem_of_getElem? (pt_at lp))
 have le9:=ok.le
 refine ⟨_,rfl,_,rfl,td,_,_,_,rfl,rfl,SqT.of hd,atI_nat (j:=p) (by rw [List.getElem?_map,ep];rfl),?_⟩
 refine ⟨_,rfl,_,rfl,tw,_,_,_,rfl,rfl,SqT.of hw,atI_nat (j:=p) (by rw [List.getElem?_map,erp];rfl),?_⟩
 refine ⟨_,rfl,rp,rfl,⟨_,SqT.of hrp⟩,fun L1 n1=>?_⟩
 refine walk_tup (xs:=row.map vn) (fun i σ H1=>∃ x0:Option V,σ=[x0,some (.ref rp),some (.ref pp),some (.ref td)]∧Same H H1∧H1 L1=some (.lst ((row.take i).map fun q=>vn (cnt (dirs Ps p) row q)))) ⟨none,rfl,same_new n1 _,upd_same⟩ ?_ ?_ ?_
 ·rintro i σ H1 _ ⟨x0,rfl,g,_⟩
  exact SqT.of (g _ _ hrp)
 ·rintro i x σ H1 hx ⟨x0,rfl,g,hL⟩
  rw [List.getElem?_map] at hx
  obtain ⟨q,eq,rfl⟩:=Option.map_eq_some_iff.mp hx
  have hq:=List.mem_of_getElem? eq
  obtain ⟨qp,eqp,hqp,zq⟩:=ptq hq
  refine ⟨_,rfl,rp,rfl,⟨_,SqT.of (g _ _ hrp)⟩,fun L2 n2=>?_⟩
  have n2L:L2≠L1:=fun z=>by subst z;rw [hL] at n2;cases n2
  have n2H:H L2=none:=g.free n2
  refine walk_tup (xs:=row.map vn) (fun j σ H2=>∃ y0:Option V,σ=[y0,some (.ref pp),some (.ref td),some (vn q)]∧Same H H2∧H2 L1=some (.lst ((row.take i).map fun q=>vn (cnt (dirs Ps p) row q)))∧H2 L2=some (.lst (((row.take j).filter fun r=>Au (dirs Ps p) r q).map vn))) ⟨none,rfl,g.trans (same_new n2 _),by rw [upd_ne (Ne.symm n2L)];exact hL,upd_same⟩ ?_ ?_ ?_
  ·rintro j σ H2 _ ⟨y0,rfl,g2,_⟩
   exact SqT.of (g2 _ _ hrp)
  ·rintro j y σ H2 hy ⟨y0,rfl,g2,hL1,hL2⟩
   rw [List.getElem?_map] at hy
   obtain ⟨r,er_,rfl⟩:=Option.map_eq_some_iff.mp hy
   have hr_:=List.mem_of_getElem? er_
   obtain ⟨rq,erq,hrq,zr⟩:=ptq hr_
   refine ⟨_,rfl,_,rfl,_,rfl,td,_,_,_,rfl,rfl,SqT.of (g2 _ _ hd),atI_nat (j:=r) (by rw [List.getElem?_map,erq];rfl),_,rfl,_,rfl,td,_,_,_,rfl,rfl,SqT.of (g2 _ _ hd),atI_nat (j:=q) (by rw [List.getElem?_map,eqp];rfl),pp,rq,qp,pt Ps p,pt Ps r,pt Ps q,rfl,hp.kept g2,hrq.kept g2,hqp.kept g2,zp,zr,zq,fun H3 g3=>?_⟩
   refine ⟨_,rfl,?_⟩
   have g23:=g2.trans g3
   have tk:((row.take (j+1)).filter fun r=>Au (dirs Ps p) r q).map vn=((row.take j).filter fun r=>Au (dirs Ps p) r q).map vn++(if Au (dirs Ps p) r q=true then [vn r] else []):=by
    rw [List.take_succ,er_,Option.toList_some,List.filter_append,List.map_append]
    congr 1
    by_cases c:Au (dirs Ps p) r q=true
    ·rw [if_pos c,List.filter_cons_of_pos (p:=fun r=>Au (dirs Ps p) r q) c];rfl
    ·rw [if_neg c,List.filter_cons_of_neg (p:=fun r=>Au (dirs Ps p) r q) c];rfl
   refine ite2 (fun c=>?_) (fun c=>?_)
   ·have c:Au (dirs Ps p) r q=true:=c
    rw [if_pos c] at tk
    have ll:((row.take j).filter fun r=>Au (dirs Ps p) r q).length≤row.length:=Nat.le_trans (List.length_filter_le ..) (List.length_take_le' ..)
    refine ⟨_,rfl,_,g3 _ _ hL2,fr8 _ (by rw [List.length_map];omega),?_⟩
    refine ⟨_,rfl,same_at n2H g23,by rw [upd_ne (Ne.symm n2L)];exact g3 _ _ hL1,by rw [upd_same,tk]⟩
   ·have c:¬ Au (dirs Ps p) r q=true:=c
    rw [if_neg c,List.append_nil] at tk
    exact ⟨_,rfl,g23,g3 _ _ hL1,by rw [tk];exact g3 _ _ hL2⟩
  ·rintro σ H2 ⟨y0,rfl,g2,hL1,hL2⟩
   rw [List.length_map,List.take_length] at hL2
   refine ⟨L2,_,rfl,.inl (SqL.of hL2),?_⟩
   refine ⟨_,hL1,fr8 _ (by rw [List.length_map];exact Nat.le_trans (List.length_take_le' ..) (by omega)),?_⟩
   refine ⟨_,rfl,same_at n1 g2,?_⟩
   rw [upd_same,List.take_succ,eq,Option.toList_some,List.map_append,List.length_map,←List.countP_eq_length_filter]
   rfl
 rintro σ H1 ⟨x0,rfl,g1,hL⟩
 rw [List.length_map,List.take_length] at hL
 refine ⟨_,rfl,_,rfl,L1,rp,kvs (dirs Ps p) row,rfl,?_,?_,by rw [kvs_len];omega,fun D2 n2=>?_⟩
 ·rw [hL]
  unfold kvs
  rw [List.map_map]
  rfl
 ·rw [g1 _ _ hrp]
  unfold kvs
  rw [List.map_map]
  rfl
 have g2:=g1.trans (same_new n2 (.dK (foldP (kvs (dirs Ps p) row))))
 have hD2:=upd_same (H:=H1) (a:=D2) (o:=.dK (foldP (kvs (dirs Ps p) row)))
 generalize upd H1 D2 (.dK (foldP (kvs (dirs Ps p) row)))=H2 at *
 refine ⟨_,rfl,D2,_,rfl,.inl hD2,_,rfl,rp,_,rfl,.inr (SqT.of (g2 _ _ hrp)),_,_,rfl,rfl,_,rfl,?_⟩
 refine ite2 (fun c=>?_) (fun c=>?_)
 ·have c:=of_decide_eq_true c
  rw [List.length_map] at c
  have fold:Fold (dirs Ps p) row:=Classical.byContradiction fun nf=>by
   rw [(no_fold ok.rw nf).1,kvs_len] at c
   omega
  exact ⟨_,rfl,rd_made ve na m_Folded.x0 fun d H' g hd=>ke C d H' g_Folded (g2.trans g) hd fold⟩
 ·have c:=of_decide_eq_false (Bool.eq_false_iff.mpr c)
  rw [List.length_map] at c
  have nf:¬ Fold (dirs Ps p) row:=fun fold=>by
   have:=fold_lt ok.rw fold
   omega
  obtain ⟨e1,e2⟩:=no_fold ok.rw nf
  rw [e1] at hD2
  refine ⟨_,rfl,rp,_,rfl,.inr (SqT.of (g2 _ _ hrp)),_,rfl,(by rw [List.length_map];omega),(by rw [List.length_map];omega),fun L3 n3=>?_⟩
  have sp:=srt_perm (u:=dirs Ps p) (row:=row)
  refine walk_range (fun i σ H3=>∃ x0:Option V,σ=[x0,some (.ref D2)]∧Same H2 H3∧H3 L3=some (.lst (((srtA (Au (dirs Ps p)) row).take i).map vn))) ⟨none,rfl,same_new n3 _,upd_same⟩ ?_ ?_
  ·rintro i σ H3 hi ⟨x0,rfl,g3,hL3⟩
   have hi:i<(srtA (Au (dirs Ps p)) row).length:=by rw [sp.length_eq];simpa using hi
   have ei:=List.getElem?_eq_getElem hi
   generalize (srtA (Au (dirs Ps p)) row)[i]=q at *
   have vq:=e2 i q ei
   refine ⟨_,rfl,_,rfl,D2,vn q,rfl,(by rw [Int.zero_add,show some (vn q)=valV (kvs (dirs Ps p) row) (.inl (i:Int)) from vq.symm];exact DGet.k (k:=.inl (i:Int)) (g3 _ _ hD2)),_,hL3,fr8 _ (by rw [List.length_map];exact Nat.le_trans (List.length_take_le' ..) (by rw [sp.length_eq];omega)),?_⟩
   refine ⟨_,rfl,same_at n3 g3,?_⟩
   rw [upd_same,List.take_succ,ei,Option.toList_some,List.map_append]
   rfl
  ·rintro σ H3 ⟨x0,rfl,g3,hL3⟩
   have el:((row.map vn).length:Int).toNat=(srtA (Au (dirs Ps p)) row).length:=by rw [List.length_map,sp.length_eq];rfl
   rw [List.take_of_length_le (by rw [sp.length_eq];simp)] at hL3
   refine ⟨L3,srtA (Au (dirs Ps p)) row,rfl,hL3,fun z=>ok.ne (List.length_eq_zero_iff.mp (by rw [←sp.length_eq,z];rfl)),by rw [sp.length_eq];omega,fun M t H4 hM lM g4 ht=>?_⟩
   have e:=low_eq hM lM
   subst e
   exact kq t H4 (g2.trans (g3.trans g4)) nf ht
--SPLIT
open Mth Sca Ang Dcl
theorem uV_nz {P0 Q0:Pt} (hP:Lw P0) (hQ:Lw Q0) (ne:P0≠Q0):nz (uV P0 Q0):=by
 refine Classical.byContradiction fun z=>ne ?_
 unfold nz uV at z
 have z1:(Q0.n*P0.d-P0.n*Q0.d)*(P0.e*Q0.e)=0:=Classical.byContradiction fun k=>z (.inl k)
 have z2:(Q0.m*P0.e-P0.m*Q0.e)*(P0.d*Q0.d)=0:=Classical.byContradiction fun k=>z (.inr k)
 obtain ⟨a1,a2,a3,a4⟩:=hP
 obtain ⟨b1,b2,b3,b4⟩:=hQ
 have e1:=(Int.mul_eq_zero.mp z1).resolve_right (by have:=Int.mul_pos a2 b2;omega)
 have e2:=(Int.mul_eq_zero.mp z2).resolve_right (by have:=Int.mul_pos a1 b1;omega)
 obtain ⟨h1,h2⟩:=low_unique a1 b1 a3 b3 (by omega)
 obtain ⟨h3,h4⟩:=low_unique a2 b2 a4 b4 (by omega)
 cases P0
 cases Q0
 simp_all
structure WebOk (W:List (List Nat)):Prop where
 len:W.length≤900
 row:∀ (p:Nat) (row:List Nat),W[p]?=some row→row.Nodup∧row≠[]∧row.length≤900∧∀ q∈row,q<W.length∧q≠p
def DrawOk (Ps:List Pt):Prop:=∀ P∈Ps,Lw P∧Sz 1000 P
theorem row_ok {W:List (List Nat)} {Ps:List Pt} {p:Nat} {row:List Nat} (w:WebOk W) (d:DrawOk Ps) (e:W.length=Ps.length) (no:NoTwo Ps) (er:W[p]?=some row):RowOk Ps p row:=by
 obtain ⟨h1,h2,h3,h4⟩:=w.row p row er
 have lp:p<Ps.length:=e ▸ (List.getElem?_eq_some_iff.mp er).1
 refine ⟨⟨h1,fun q hq=>?_⟩,fun q hq=>e ▸ (h4 q hq).1,h2,h3⟩
 have lq:q<Ps.length:=e ▸ (h4 q hq).1
 have eP:=pt_at lp
 have eQ:=pt_at lq
 refine uV_nz (d _ (List.mem_of_getElem? eP)).1 (d _ (List.mem_of_getElem? eQ)).1 fun z=>?_
 rcases Nat.lt_or_gt_of_ne (h4 q hq).2 with l | l
 ·exact no q p _ l eQ (by rw [eP,z])
 ·exact no p q _ l eP (by rw [eQ,z])
def FoldAt (Ps:List Pt) (W:List (List Nat)) (p:Nat):Prop:=∃ row,W[p]?=some row∧Fold (dirs Ps p) row
def FstFold (Ps:List Pt) (W:List (List Nat)) (p:Nat):Prop:=FoldAt Ps W p∧∀ q,q<p→¬ FoldAt Ps W q
def turnW (Ps:List Pt) (W:List (List Nat)):List (List Nat):=W.mapIdx fun p row=>rowT (dirs Ps p) row
inductive spTurned (vs:List V) (H:Hp) (Q:VK) (E:XK):Prop
 | mk:∀ (tw td:Addr) (W:List (List Nat)) (Ps:List Pt),(vs=[.ref tw,.ref td])→(WAt H tw W)→(DAt H td Ps)→(WebOk W)→(DrawOk Ps)→(W.length=Ps.length) →
   (∀ (t:Addr) (H':Hp),Same H H'→NoTwo Ps→(∀ p,¬ FoldAt Ps W p)→WAt H' t (turnW Ps W)→Q (.ref t) H') →
   (∀ (C d a:Addr) (p q:Nat) (H':Hp),mg "Alike" = some (.ref C)→SameE H H'→H' d=some (.xd [("places",.ref a)])→H' a=some (.tup [vn p,vn q])→Least Ps p q→E (.ref C) (some d) H') →
   (∀ (C d:Addr) (p:Nat) (H':Hp),mg "Folded" = some (.ref C)→SameE H H'→H' d=some (.xd [("place",vn p)])→NoTwo Ps→FstFold Ps W p→E (.ref C) (some d) H')→spTurned vs H Q E
theorem same_e {H H':Hp} (g:Same H H'):SameE H H':=fun b o _ e=>g b o e
theorem tr2_e {H:Hp} {a C T:Addr} {dx:Option Addr} {t1:Value} (ea:H a=some (.ext (XO a C dx t1))) (nT:H T=none):SameE H (tr2 H a C dx T):=fun b o n e=>by
 have m1:b≠a:=fun z=>by subst z;rw [ea] at e;cases e;exact n _ rfl
 unfold tr2
 rw [upd_ne m1,upd_ne (ne_of_none e nT)]
 exact e
theorem DAt.keptE {H H':Hp} {t:Addr} {Ps:List Pt} (h:DAt H t Ps) (g:SameE H H'):DAt H' t Ps:=by
 obtain ⟨ts,a,b⟩:=h
 exact ⟨ts,g _ _ (by simp) a,b.imp fun p x ⟨y,z,h1,h2,h3⟩=>⟨y,z,g _ _ (by simp) h1,g _ _ (by simp) h2,g _ _ (by simp) h3⟩⟩
theorem WAt.keptE {H H':Hp} {t:Addr} {W:List (List Nat)} (h:WAt H t W) (g:SameE H H'):WAt H' t W:=by
 obtain ⟨ts,a,b⟩:=h
 exact ⟨ts,g _ _ (by simp) a,b.imp fun p x z=>g _ _ (by simp) z⟩
theorem ok_turnedX (B:Fx):HasX P w K mg base "turned" ["web","drawing"] 8 spTurned:=by
 refine hsX_of B.X B.d14 sc_turned (fun f cdv A outer s H vs Q E nN hr h=>?_) (by intro _ _ _ _ h;cases h<;>(subst_vars;rfl)) (by intro _ _ _ _ _ _ us hl;obtain ⟨_,_,rfl⟩:=len2 hl;rfl)
 obtain ⟨f1,d1,F1,b1,k1,m1⟩:=ok_must_be_unlikeX B
 obtain ⟨f2,d2,F2,b2,k2,m2⟩:=ok_row_turnedX B
 refine ⟨_,(pss_cons (ps_expr (pe_call F1 (hr.mono (by decide)) rfl m1 k1 b1 .nil (passes_up (E:=E) rfl rfl rfl rfl) (p1 (pv 1))))
  (pss_one (ps_ret (pe_callTy call_tuple_of rfl (B.z B.y0) PyProof.Rows.boot_tuple (p1 (pe_lc1xX (E:=E) (Nc:=["p","web","drawing"]) (js:=[none,some 0,some 1]) rfl rfl rfl rfl rfl (pi_range1 rfl (B.z B.y1) (p1 (pe_callB call_len_seq rfl (B.z B.y2) PySem.boot_len (p1 (pv 0))))) (CS.of rfl rfl) rfl (fun C s₂ H₂ fp pins=>(pgc 0))
   (fun C s₂ H₂ fp pins D L=>(pt_tail0 (pb_app (pe_call F2 (hr.mono (by decide)) rfl m2 k2 b2 .nil (passesC rfl rfl) (pa_cons (pv 1) (pa_cons (pv 2) (pa_cons (pv 0) pa_nil))))))))))))),?_⟩
 obtain ⟨tw,td,W,Ps,rfl,hw,hd,wo,dok,el,kq,ka,kf⟩:=h
 obtain ⟨ps,hd0,hP⟩:=hd
 refine ⟨_,rfl,td,ps,Ps,rfl,hd0,hP,by rw [←el];exact wo.len,fun H1 g1 no=>?_,fun C d a p q H1 mC g1 hd ha lst=>?_⟩
 rotate_left
 ·intro x C1 t1 T eC ex nT Tx
  have e:=tr2_e ex nT
  exact ka C d a p q _ mC ((same_e g1).trans e) (e _ _ (by simp) hd) (e _ _ (by simp) ha) lst
 have hd:DAt H td Ps:=⟨ps,hd0,hP⟩
 obtain ⟨ts,hw0,hW⟩:=id hw
 have lW:=wo.len
 refine ⟨_,rfl,tw,_,rfl,.inr (SqT.of (g1 _ _ hw0)),_,rfl,(by rw [List.length_map,hW.1];omega),(by rw [List.length_map,hW.1];omega),fun D2 n2=>?_⟩
 have n2H:H D2=none:=g1.free n2
 refine walk_range (fun i σ H3=>∃ (x0:Option V) (us:List Addr),σ=[x0,some (.ref tw),some (.ref td)]∧Same H H3∧H3 D2=some (.lst (us.map V.ref))∧AllAt (fun H3 a row=>a≠D2∧RowT H3 a row) H3 us ((turnW Ps W).take i)∧∀ q,q<i→¬ FoldAt Ps W q) ⟨none,[],rfl,g1.trans (same_new n2 _),upd_same,AllAt.nil,fun q hq=>by omega⟩ ?_ ?_
 ·rintro i σ H3 hi ⟨x0,us,rfl,g3,hL3,hu,nf⟩
  have hi:i<W.length:=by simpa [hW.1] using hi
  have ei:=List.getElem?_eq_getElem hi
  generalize W[i]=row at *
  have ro:=row_ok wo dok el no ei
  refine ⟨_,rfl,_,rfl,_,rfl,tw,td,i,W,Ps,row,by simp [vn],hw.kept g3,hd.kept g3,ei,el ▸ hi,fun P hP=>(dok P hP).2,el ▸ lW,ro,fun t H4 g4 nF ht=>?_,fun C d H4 mC g4 hd4 fold=>?_⟩
  ·have l:=hu.1
   have l2:us.length≤i:=by rw [l];exact List.length_take_le ..
   have hL4:=g4 _ _ hL3
   refine ⟨_,hL4,small1000 (by rw [List.length_map];omega),?_⟩
   have tD:t≠D2:=fun z=>by
    subst z
    have ht:H4 t=some (.tup _):=ht
    rw [ht] at hL4
    cases hL4
   have et:(turnW Ps W)[i]?=some (rowT (dirs Ps i) row):=by unfold turnW;rw [List.getElem?_mapIdx,ei];rfl
   refine ⟨_,us++[t],rfl,same_at n2H (g3.trans g4),by rw [upd_same,List.map_append];rfl,?_,fun q hq=>?_⟩
   ·rw [List.take_succ,et,Option.toList_some]
    refine AllAt.snoc (hu.imp fun p x z=>⟨z.1,?_⟩) ⟨tD,?_⟩
    ·show upd H4 D2 _ p=_
     rw [upd_ne z.1]
     exact g4 _ _ z.2
    ·show upd H4 D2 _ t=_
     rw [upd_ne tD]
     exact ht
   ·rcases Nat.lt_or_eq_of_le (Nat.le_of_lt_succ hq) with z | z
    ·exact nf q z
    ·subst z
     rintro ⟨row',e',f'⟩
     rw [ei] at e'
     cases e'
     exact nF f'
  ·exact fun H'' z=>kf C d i H'' mC ((same_e (g3.trans g4)).trans z) (z _ _ (by simp) hd4) no ⟨⟨row,ei,fold⟩,nf⟩
 ·rintro σ H3 ⟨x0,us,rfl,g3,hL3,hu,nf⟩
  have el:((ts.map V.ref).length:Int).toNat=W.length:=by rw [List.length_map,hW.1];rfl
  have e2:(turnW Ps W).length=W.length:=List.length_mapIdx
  rw [List.take_of_length_le (by rw [e2];simp [hW.1])] at hu
  refine ⟨D2,_,rfl,.inl ⟨SqL.of hL3,fun t nt=>?_⟩⟩
  have gt:=same_new nt (.tup (us.map V.ref))
  refine kq t _ (g3.trans gt) no (fun q=>?_) ⟨us,upd_same,hu.imp fun p x z=>gt _ _ z.2⟩
  by_cases c:q<W.length
  ·exact nf q (by simp [hW.1];exact c)
  ·rintro ⟨row,e,_⟩
   exact c (List.getElem?_eq_some_iff.mp e).1
--SPLIT
open Mth Sca Ang Dcl
theorem dt2 {K:PySem.W.Frag} {H:Hp} {z:Addr} {i j:Int} (e:H z=some (.tup [.int i,.int j])):Dt K H (.tuple [.int i,.int j]) (.ref z):=by
 unfold Dt
 refine ⟨z,_,rfl,SqT.of e,?_⟩
 unfold DtAll
 refine ⟨_,_,rfl,(by unfold Dt;rfl),?_⟩
 unfold DtAll
 refine ⟨_,_,rfl,(by unfold Dt;rfl),?_⟩
 unfold DtAll
 rfl
theorem sh2 (i j:Int):SeqAt.shaped (.tuple [.int i,.int j])=true:=by
 simp [SeqAt.shaped,PyData.canLay0,PyData.canLayAll0,PyData.depth,PyData.depthAll]
theorem eqv2 (a b c d:Int):PyData.eqv (.tuple [.int a,.int b]) (.tuple [.int c,.int d])=decide (a=c∧b=d):=by
 rw [Bool.eq_iff_iff]
 simp [PyData.eqv,PyData.eqvAll]
inductive spAhead (vs:List V) (H:Hp) (Q:VK) (Y:XK):Prop
 | mk:∀ (p q:Addr) (P R:Pt),(vs=[.ref p,.ref q])→(PtAt H p P)→(PtAt H q R)→(Sz 1000 P)→(Sz 1000 R)→(Lw P)→(Lw R)→(Q (.bl (fwd (uV P R))) H)→spAhead vs H Q Y
theorem fwd_same {P R:Pt} (h:P.n=R.n∧P.d=R.d) (d0:0<P.d):fwd (uV P R)=decide (P.m*R.e<R.m*P.e):=by
 unfold fwd uV
 have e:(R.n*P.d-P.n*R.d)*(P.e*R.e)=0:=by rw [h.1,h.2,Int.sub_self,Int.zero_mul]
 have pd:0<P.d*R.d:=by rw [←h.2];exact Int.mul_pos d0 d0
 congr 1
 rw [eq_iff_iff]
 show 0<(R.n*P.d-P.n*R.d)*(P.e*R.e)∨((R.n*P.d-P.n*R.d)*(P.e*R.e)=0∧0<(R.m*P.e-P.m*R.e)*(P.d*R.d))↔_
 rw [e]
 constructor
 ·rintro (z | ⟨_,z⟩)
  ·omega
  ·have:=mul_pos_of pd (by rw [Int.mul_comm];exact z)
   omega
 ·intro z
  exact .inr ⟨rfl,Int.mul_pos (by omega) pd⟩
theorem fwd_other {P R:Pt} (h:¬ (P.n=R.n∧P.d=R.d)) (lP:Lw P) (lR:Lw R):fwd (uV P R)=decide (P.n*R.d<R.n*P.d):=by
 have pe:0<P.e*R.e:=Int.mul_pos lP.2.1 lR.2.1
 have ne:R.n*P.d-P.n*R.d≠0:=fun z=>h (low_unique lP.1 lR.1 lP.2.2.1 lR.2.2.1 (by omega))
 unfold fwd uV
 congr 1
 rw [eq_iff_iff]
 show 0<(R.n*P.d-P.n*R.d)*(P.e*R.e)∨((R.n*P.d-P.n*R.d)*(P.e*R.e)=0∧0<(R.m*P.e-P.m*R.e)*(P.d*R.d))↔_
 constructor
 ·rintro (z | ⟨z,_⟩)
  ·have:=mul_pos_of pe (by rw [Int.mul_comm];exact z)
   omega
  ·exact absurd ((Int.mul_eq_zero.mp z).resolve_right (by omega)) ne
 ·intro z
  exact .inl (Int.mul_pos (by omega) pe)
theorem ok_law_is_ahead (B:Fx):Hs "_law_is_ahead" ["_law_p","_law_q"] 1 (spAhead):=by
 refine hs_of B.X B.d28 sc_law_is_ahead fun f cdv A outer s H vs Q E nN hr h=>?_
 obtain ⟨p,q,P,R,rfl,⟨px,py,hp,hpx,hpy⟩,⟨qx,qy,hq,hqx,hqy⟩,⟨z1,z2,p1_,p2_,p3_,p4_⟩,⟨_,_,q1,q2,q3,q4⟩,lP,lR,k⟩:=h
 refine ⟨_,(pss_cons (ps_if (pt_cmpR (op_neD hr.units) (pix ix_tup (pv 0) pe_int) (pix ix_tup (pv 1) pe_int) (nomark _)) (pss_one (ps_ret (pe_cmpR op_lt (pe_op Own.op_mulW (pix ix_tup (pix ix_tup (pv 0) pe_int) pe_int) (pix ix_tup (pix ix_tup (pv 1) pe_int) pe_int)) (pe_op Own.op_mulW (pix ix_tup (pix ix_tup (pv 1) pe_int) pe_int) (pix ix_tup (pix ix_tup (pv 0) pe_int) pe_int)) (nomark _)))) pss_nil)
   (pss_one (ps_ret (pe_cmpR op_lt (pe_op Own.op_mulW (pix ix_tup (pix ix_tup (pv 0) pe_int) pe_int) (pix ix_tup (pix ix_tup (pv 1) pe_int) pe_int)) (pe_op Own.op_mulW (pix ix_tup (pix ix_tup (pv 1) pe_int) pe_int) (pix ix_tup (pix ix_tup (pv 0) pe_int) pe_int)) (nomark _))))),?_⟩
 try dsimp only [cxOf]
 have w:∀ {i:Int},i.natAbs<2 ^ 1000→i.natAbs<2 ^ 9000:=fun h=>Mth.up h (by decide)
 refine ⟨_,rfl,p,_,_,_,rfl,rfl,SqT.of hp,at0,_,rfl,q,_,_,_,rfl,rfl,SqT.of hq,at0,_,_,dt2 hpx,dt2 hqx,sh2 _ _,sh2 _ _,_,rfl,?_⟩
 rw [if_pos (show (true=true) from rfl),eqv2]
 by_cases c:P.n=R.n∧P.d=R.d
 ·rw [fwd_same c z1] at k
  rw [decide_eq_true c]
  refine iteF ⟨_,rfl,p,_,_,_,rfl,rfl,SqT.of hp,at1,py,_,_,_,rfl,rfl,SqT.of hpy,at0,_,rfl,q,_,_,_,rfl,rfl,SqT.of hq,at1,qy,_,_,_,rfl,rfl,SqT.of hqy,at1,_,_,rfl,rfl,⟨w p3_,w q4⟩,?_⟩
  exact ⟨_,rfl,q,_,_,_,rfl,rfl,SqT.of hq,at1,qy,_,_,_,rfl,rfl,SqT.of hqy,at0,_,rfl,p,_,_,_,rfl,rfl,SqT.of hp,at1,py,_,_,_,rfl,rfl,SqT.of hpy,at1,_,_,rfl,rfl,⟨w q3,w p4_⟩,_,_,rfl,rfl,k⟩
 ·rw [fwd_other c lP lR] at k
  rw [decide_eq_false c]
  refine iteT ⟨_,rfl,p,_,_,_,rfl,rfl,SqT.of hp,at0,px,_,_,_,rfl,rfl,SqT.of hpx,at0,_,rfl,q,_,_,_,rfl,rfl,SqT.of hq,at0,qx,_,_,_,rfl,rfl,SqT.of hqx,at1,_,_,rfl,rfl,⟨w p1_,w q2⟩,?_⟩
  exact ⟨_,rfl,q,_,_,_,rfl,rfl,SqT.of hq,at0,qx,_,_,_,rfl,rfl,SqT.of hqx,at0,_,rfl,p,_,_,_,rfl,rfl,SqT.of hp,at0,px,_,_,_,rfl,rfl,SqT.of hpx,at1,_,_,rfl,rfl,⟨w q1,w p2_⟩,_,_,rfl,rfl,k⟩
inductive spLead (f:Vc→Vc→Bool) (vs:List V) (H:Hp) (Q:VK) (Y:XK):Prop
 | mk:∀ (p q r:Addr) (P R S:Pt),(vs=[.ref p,.ref q,.ref r])→(PtAt H p P)→(PtAt H q R)→(PtAt H r S)→(Sz 206 P)→(Sz 206 R)→(Sz 206 S)→(Lw P)→(Lw R)→(Lw S)→(nz (uV P R))→(nz (uV P S))→(∀ H',Same H H'→Q (.bl (f (uV P R) (uV P S))) H')→spLead f vs H Q Y
theorem alk_fwd {u v:Vc} (hu:nz u) (hv:nz v):alk u v=(decide (cr u v=0) && decide (fwd u=fwd v)):=by
 unfold alk
 by_cases c:cr u v=0
 ·rw [decide_eq_true c,Bool.true_and,Bool.true_and]
  congr 1
  rw [eq_iff_iff]
  exact late_fwd hu hv c
 ·rw [decide_eq_false c];rfl
theorem dV0 (i:Int):decide (V.int (sgn i)=V.int 0)=decide (i=0):=by
 congr 1
 rw [eq_iff_iff]
 constructor
 ·intro z
  injection z with z
  rcases sgn_cases i with k | k | k<;>omega
 ·intro z
  subst z
  rfl
theorem dB (a b:Bool):decide (V.bl a=V.bl b)=decide (a=b):=by simp
theorem ok_law_lead_alike (B:Fx):Hs "_law_lead_alike" ["_law_p","_law_q","_law_r"] 3 ((spLead alk)):=by
 refine hs_of B.X B.d29 sc_law_lead_alike fun f cdv A outer s H vs Q E nN hr h=>?_
 obtain ⟨p,q,r,P,R,S,rfl,hp,hq,hr_,zp,zq,zr,lP,lR,lS,n1,n2,k⟩:=h
 refine ⟨_,(pss_one (ps_ret (pe_and (pe_cmpR op_eq (pf (ok_law_hand B) hr (pa_cons (pv 0) (pa_cons (pv 1) (pa_cons (pv 2) pa_nil)))) pe_int (nomark _)) (pe_one (pe_cmpR op_eq (pf (ok_law_is_ahead B) hr (p2 (pv 0) (pv 1))) (pf (ok_law_is_ahead B) hr (p2 (pv 0) (pv 2))) (nomark _)))))),?_⟩
 try dsimp only [cxOf]
 refine ⟨_,rfl,_,rfl,_,rfl,p,q,r,P,R,S,rfl,hp,hq,hr_,zp.up (by decide),zq.up (by decide),zr.up (by decide),fun H1 g1=>?_⟩
 refine ⟨rfl,_,rfl,?_⟩
 rw [dV0]
 rw [alk_fwd n1 n2,cr_uV] at k
 refine ite2 (fun c=>?_) (fun c=>?_)
 ·rw [c,Bool.true_and] at k
  refine ⟨_,rfl,_,rfl,p,q,P,R,rfl,hp.kept g1,hq.kept g1,zp.up (by decide),zq.up (by decide),lP,lR,?_⟩
  refine ⟨_,rfl,_,rfl,p,r,P,S,rfl,hp.kept g1,hr_.kept g1,zp.up (by decide),zr.up (by decide),lP,lS,?_⟩
  refine ⟨rfl,?_⟩
  rw [dB]
  exact k _ g1
 ·rw [Bool.eq_false_iff.mpr c,Bool.false_and] at k
  exact k _ g1
/-- drawing, place, place -/
inductive spHalf (vs:List V) (H:Hp) (Q:VK) (Y:XK):Prop
 | mk:∀ (td:Addr) (Ps:List Pt) (p q:Nat),(vs=[.ref td,vn p,vn q])→(DAt H td Ps)→(∀ P∈Ps,Lw P∧Sz 206 P)→(p<Ps.length)→(q<Ps.length)→(nz (dirs Ps p q))→(∀ H',Same H H'→Q (.int (if late (dirs Ps p q)=true then 1 else 0)) H')→spHalf vs H Q Y
theorem late_fwd0 {u:Vc} (hu:nz u) (h:u.2=0):late u = !fwd u:=by
 unfold late fwd nz at *
 rw [←decide_not]
 congr 1
 rw [eq_iff_iff]
 omega
theorem ok_law_half (B:Fx):Hs "_law_half" ["_law_drawing","_law_p","_law_q"] 3 (spHalf):=by
 refine hs_of B.X B.d36 sc_law_half fun f cdv A outer s H vs Q E nN hr h=>?_
 obtain ⟨td,Ps,p,q,rfl,⟨ps,hd,hP⟩,ok,lp,lq,n,k⟩:=h
 obtain ⟨pp,ep,hp⟩:=hP.at (pt_at lp)
 obtain ⟨qp,eq,hq⟩:=hP.at (pt_at lq)
 obtain ⟨lP,zP⟩:=ok _ (List.mem_of_getElem? (pt_at lp))
 obtain ⟨lQ,zQ⟩:=ok _ (List.mem_of_getElem? (pt_at lq))
 unfold dirs at n k
 generalize pt Ps p=P at *
 generalize pt Ps q=R at *
 obtain ⟨px,py,hp0,hpx,hpy⟩:=id hp
 obtain ⟨qx,qy,hq0,hqx,hqy⟩:=id hq
 refine ⟨_,(pss_cons (pst 3 nN (pf (ok_law_sign B) hr (p1 (pf (ok_law_less B) hr (p2 (pix ix_tup (pix ix_tup (pv 0) (pv 2)) pe_int) (pix ix_tup (pix ix_tup (pv 0) (pv 1)) pe_int))))))
   (pss_cons (ps_if (pt_cmpR op_eq (pv 3) pe_int (nomark _)) (pss_one (ps_ret (pe_callTy call_int1 rfl (B.z B.y4) PyProof.Rows.boot_int (p1 (pe_not (pf (ok_law_is_ahead B) hr (p2 (pix ix_tup (pv 0) (pv 1)) (pix ix_tup (pv 0) (pv 2))))))))) pss_nil)
   (pss_one (ps_ret (pe_callTy call_int1 rfl (B.z B.y4) PyProof.Rows.boot_int (p1 (pe_cmpR op_lt (pv 3) pe_int (nomark _)))))))),?_⟩
 try dsimp only [cxOf]
 have w:∀ {i:Int},i.natAbs<2 ^ 206→i.natAbs<2 ^ 4000:=fun h=>Mth.up h (by decide)
 obtain ⟨o1,o2,o3,o4,o5,o6⟩:=zP
 obtain ⟨i1,i2,i3,i4,i5,i6⟩:=zQ
 refine ⟨_,rfl,_,rfl,td,_,_,_,rfl,rfl,SqT.of hd,atI_nat (j:=q) (by rw [List.getElem?_map,eq];rfl),qp,_,_,_,rfl,rfl,SqT.of hq0,at1,_,rfl,_,rfl,td,_,_,_,rfl,rfl,SqT.of hd,atI_nat (j:=p) (by rw [List.getElem?_map,ep];rfl),pp,_,_,_,rfl,rfl,SqT.of hp0,at1,qy,py,_,_,_,_,rfl,hqy,hpy,⟨w i5,w i6,w o5,w o6⟩,?_,fun n1 d1 a1 H1 F1 g1 e1=>?_⟩
 ·exact mul_ne (pos_ne i2) (pos_ne o2)
 refine ⟨a1,n1,d1,rfl,e1,?_⟩
 have s1:=fr_sgn (Int.mul_pos i2 o2) F1
 have s2:sgn (uV P R).2=sgn n1:=by
  rw [s1]
  exact sgn_mul_pos (Int.mul_pos o1 i1)
 rw [←s2]
 refine ⟨_,rfl,rfl,_,rfl,?_⟩
 rw [dV0]
 refine ite2 (fun c=>?_) (fun c=>?_)
 ·have c:=of_decide_eq_true c
  rw [late_fwd0 n c] at k
  refine ⟨_,rfl,_,rfl,td,_,_,_,rfl,rfl,SqT.of (g1 _ _ hd),atI_nat (j:=p) (by rw [List.getElem?_map,ep];rfl),_,rfl,_,rfl,td,_,_,_,rfl,rfl,SqT.of (g1 _ _ hd),atI_nat (j:=q) (by rw [List.getElem?_map,eq];rfl),pp,qp,P,R,rfl,hp.kept g1,hq.kept g1,Sz.up ⟨o1,o2,o3,o4,o5,o6⟩ (by decide),Sz.up ⟨i1,i2,i3,i4,i5,i6⟩ (by decide),lP,lQ,?_⟩
  exact ⟨_,rfl,.inr ⟨_,rfl,k _ g1⟩⟩
 ·have c:=of_decide_eq_false (Bool.eq_false_iff.mpr c)
  have e:late (uV P R)=decide (sgn (uV P R).2<0):=by
   unfold late
   congr 1
   rw [eq_iff_iff]
   rcases sgn_cases (uV P R).2 with z | z | z<;>omega
  rw [e] at k
  exact ⟨_,rfl,_,_,rfl,rfl,.inr ⟨_,rfl,k _ g1⟩⟩
inductive spBefore (vs:List V) (H:Hp) (Q:VK) (Y:XK):Prop
 | mk:∀ (td:Addr) (Ps:List Pt) (p q r:Nat),(vs=[.ref td,vn p,vn q,vn r])→(DAt H td Ps)→(∀ P∈Ps,Lw P∧Sz 206 P)→(p<Ps.length)→(q<Ps.length)→(r<Ps.length)→(nz (dirs Ps p q))→(nz (dirs Ps p r))→(∀ H',Same H H'→Q (.bl (Au (dirs Ps p) q r)) H')→spBefore vs H Q Y
theorem ok_law_is_before (B:Fx):Hs "_law_is_before" ["_law_drawing","_law_p","_law_q","_law_r"] 4 (spBefore):=by
 refine hs_of B.X B.d37 sc_law_is_before fun f cdv A outer s H vs Q E nN hr h=>?_
 obtain ⟨td,Ps,p,q,r,rfl,hd,ok,lp,lq,lr,n1,n2,k⟩:=h
 refine ⟨_,(pss_cons (ps_par (i:=4) (j:=5) rfl nN rfl rfl (by decide) rfl rfl (p2 (pf (ok_law_half B) hr (pa_cons (pv 0) (pa_cons (pv 1) (pa_cons (pv 2) pa_nil)))) (pf (ok_law_half B) hr (pa_cons (pv 0) (pa_cons (pv 1) (pa_cons (pv 3) pa_nil))))) rfl)
   (pss_one (ps_ret (pe_or (pe_cmpR op_lt (pv 4) (pv 5) (nomark _)) (pe_one (pe_and (pe_cmpR op_eq (pv 4) (pv 5) (nomark _)) (pe_one (pe_cmpR op_gt (pf (ok_law_hand B) hr (pa_cons (pix ix_tup (pv 0) (pv 1)) (pa_cons (pix ix_tup (pv 0) (pv 2)) (pa_cons (pix ix_tup (pv 0) (pv 3)) pa_nil)))) pe_int (nomark _))))))))),?_⟩
 try dsimp only [cxOf]
 refine ⟨_,rfl,_,rfl,_,rfl,td,Ps,p,q,rfl,hd,ok,lp,lq,n1,fun H1 g1=>?_⟩
 refine ⟨_,rfl,_,rfl,_,rfl,td,Ps,p,r,rfl,hd.kept g1,ok,lp,lr,n2,fun H2 g2=>?_⟩
 have g12:=g1.trans g2
 unfold Au ahd at k
 obtain ⟨ps,hd0,hP⟩:=hd.kept g12
 obtain ⟨pp,ep,hp⟩:=hP.at (pt_at lp)
 obtain ⟨qp,eq,hq⟩:=hP.at (pt_at lq)
 obtain ⟨rp,er,hr_⟩:=hP.at (pt_at lr)
 obtain ⟨lP,zP⟩:=ok _ (List.mem_of_getElem? (pt_at lp))
 obtain ⟨lQ,zQ⟩:=ok _ (List.mem_of_getElem? (pt_at lq))
 obtain ⟨lR,zR⟩:=ok _ (List.mem_of_getElem? (pt_at lr))
 refine ⟨_,_,rfl,?_⟩
 refine ⟨_,rfl,_,rfl,_,_,rfl,rfl,_,rfl,?_⟩
 refine ite2 (fun c=>?_) (fun c=>?_)
 ·have c:=of_decide_eq_true c
  have:=k H2 g12
  cases a:late (dirs Ps p q)<;>cases b:late (dirs Ps p r)<;>rw [a,b] at c<;>rw [a,b] at this<;>first | exact this | exact absurd c (by decide)
 ·have c:=of_decide_eq_false (Bool.eq_false_iff.mpr c)
  refine ⟨_,rfl,_,rfl,rfl,_,rfl,?_⟩
  by_cases e:late (dirs Ps p q)=late (dirs Ps p r)
  ·rw [if_pos e] at k
   rw [e,decide_eq_true rfl]
   refine iteT ?_
   refine ⟨_,rfl,_,rfl,td,_,_,_,rfl,rfl,SqT.of hd0,atI_nat (j:=p) (by rw [List.getElem?_map,ep];rfl),_,rfl,_,rfl,td,_,_,_,rfl,rfl,SqT.of hd0,atI_nat (j:=q) (by rw [List.getElem?_map,eq];rfl),_,rfl,_,rfl,td,_,_,_,rfl,rfl,SqT.of hd0,atI_nat (j:=r) (by rw [List.getElem?_map,er];rfl),pp,qp,rp,_,_,_,rfl,hp,hq,hr_,zP.up (by decide),zQ.up (by decide),zR.up (by decide),fun H3 g3=>?_⟩
   refine ⟨_,_,rfl,rfl,?_⟩
   have:=k _ (g12.trans g3)
   unfold dirs at this
   rw [cr_uV] at this
   rw [show decide (0<sgn (lawdet (pt Ps p) (pt Ps q) (pt Ps r)))=decide (0<lawdet (pt Ps p) (pt Ps q) (pt Ps r)) by congr 1;rw [eq_iff_iff];rcases sgn_cases (lawdet (pt Ps p) (pt Ps q) (pt Ps r)) with z | z | z<;>omega]
   exact this
  ·rw [if_neg e] at k
   have:=k H2 g12
   cases a:late (dirs Ps p q)<;>cases b:late (dirs Ps p r)<;>rw [a] at c this e<;>rw [b] at c e<;>first | exact absurd rfl e | exact this | exact absurd (by decide) c
--SPLIT
open Mth Sca Ang Dcl
/-- a row, as a list or as a tuple -/
inductive spLeastL (vs:List V) (H:Hp) (Q:VK) (Y:XK):Prop
 | mk:∀ (a:Addr) (ns:List Nat),(vs=[.ref a])→(H a=some (.lst (ns.map vn))∨H a=some (.tup (ns.map vn)))→(ns≠[])→(ns.length≤900)→(∀ (t:Addr) (H':Hp),Same H H'→RowT H' t (rot ns (low ns))→Q (.ref t) H')→spLeastL vs H Q Y
theorem ok_law_from_least (B:Fx):Hs "_law_from_least" ["_law_row_here"] 1 (spLeastL):=by
 refine hs_of B.X B.d32 sc_law_from_least fun f cdv A outer s H vs Q E nN hr h=>?_
 obtain ⟨D,cl,rfl,hD,cne,cle,k⟩:=h
 have cpos:0<cl.length:=List.length_pos_iff.mpr cne
 have lv:(cl.map vn).length=cl.length:=List.length_map _
 have il:∀ {m},m∈cl→cl.idxOf m<cl.length:=fun h=>List.idxOf_lt_length_of_mem h
 rcases hD with hD | hD
 ·refine ⟨_,(pss_cons (pst 1 nN (m_list PySem.F.slot_list_index PySem.F.type_list_index mt_index (pe_callTy call_list_of rfl (B.z B.y13) PyProof.Rows.boot_list (p1 (pv 0))) (p1 (pe_callB (call_minL rfl) rfl (B.z B.y9) PyProof.Rows.boot_min (p1 (pv 0))))))
   (pss_one (ps_ret (pe_op op_catU (pe_callTy call_tuple_of rfl (B.z B.y0) PyProof.Rows.boot_tuple (p1 (pe_slice sl_list (pv 0) (po_some (pv 1)) po_none))) (pe_callTy call_tuple_of rfl (B.z B.y0) PyProof.Rows.boot_tuple (p1 (pe_slice sl_list (pv 0) po_none (po_some (pv 1))))))))),?_⟩
  try dsimp only [cxOf]
  refine ⟨_,rfl,D,_,rfl,.inl (SqL.of hD),fun l n1=>?_⟩
  have g1:=same_new n1 (.lst (cl.map vn))
  have hl:=upd_same (H:=H) (a:=l) (o:=.lst (cl.map vn))
  generalize upd H l (.lst (cl.map vn))=H1 at *
  have hD1:=g1 _ _ hD
  refine ⟨.inl ⟨rfl,_,SqL.of hl⟩,_,rfl,D,cl.map ci,rfl,SqL.of (by rw [hD1,vn_map]),(by rw [List.length_map];exact cpos),fun M hM hle=>?_⟩
  obtain ⟨m,rfl,hm,mle⟩:=least_of hM hle
  obtain rfl:=low_eq hm mle
  refine ⟨l,cl.map ci,_,cl.idxOf (low cl),rfl,rfl,(by rw [hl,vn_map]),firstAt_nat hm,?_⟩
  have i1:=il hm
  refine ⟨_,rfl,_,rfl,_,rfl,D,_,rfl,SqL.of hD1,fun p1_ m1=>?_⟩
  rw [cut_from _ (by rw [lv];omega)]
  have h1:=same_new m1 (.lst ((cl.map vn).drop (cl.idxOf (low cl))))
  have e1:=upd_same (H:=H1) (a:=p1_) (o:=.lst ((cl.map vn).drop (cl.idxOf (low cl))))
  generalize upd H1 p1_ (.lst ((cl.map vn).drop (cl.idxOf (low cl))))=H2 at *
  refine ⟨p1_,_,rfl,.inl ⟨SqL.of e1,fun q1 m2=>?_⟩⟩
  have h2:=h1.trans (same_new m2 (.tup ((cl.map vn).drop (cl.idxOf (low cl)))))
  have e2:=upd_same (H:=H2) (a:=q1) (o:=.tup ((cl.map vn).drop (cl.idxOf (low cl))))
  generalize upd H2 q1 (.tup ((cl.map vn).drop (cl.idxOf (low cl))))=H3 at *
  refine ⟨_,rfl,_,rfl,_,rfl,D,_,rfl,SqL.of (h2 _ _ hD1),fun p2_ m3=>?_⟩
  rw [cut_to _ (by rw [lv];omega)]
  have h3:=same_new m3 (.lst ((cl.map vn).take (cl.idxOf (low cl))))
  have e3:=upd_same (H:=H3) (a:=p2_) (o:=.lst ((cl.map vn).take (cl.idxOf (low cl))))
  generalize upd H3 p2_ (.lst ((cl.map vn).take (cl.idxOf (low cl))))=H4 at *
  refine ⟨p2_,_,rfl,.inl ⟨SqL.of e3,fun q2 m4=>?_⟩⟩
  have h4:=same_new m4 (.tup ((cl.map vn).take (cl.idxOf (low cl))))
  have e4:=upd_same (H:=H4) (a:=q2) (o:=.tup ((cl.map vn).take (cl.idxOf (low cl))))
  generalize upd H4 q2 (.tup ((cl.map vn).take (cl.idxOf (low cl))))=H5 at *
  refine ⟨q1,q2,_,_,rfl,rfl,h4 _ _ (h3 _ _ e2),e4,(by rw [List.length_drop,List.length_take,lv];exact Nat.le_of_lt (small1000 (by omega))),fun p3_ H6 m5 h6=>?_⟩
  exact k p3_ _ (g1.trans (h2.trans (h3.trans (Same.trans h4 m5)))) (by show H6 p3_=some (.tup ((rot cl (low cl)).map vn));rw [←rot_map];exact h6)
 ·refine ⟨_,(pss_cons (pst 1 nN (m_list PySem.F.slot_list_index PySem.F.type_list_index mt_index (pe_callTy call_list_of rfl (B.z B.y13) PyProof.Rows.boot_list (p1 (pv 0))) (p1 (pe_callB (call_minT rfl) rfl (B.z B.y9) PyProof.Rows.boot_min (p1 (pv 0))))))
   (pss_one (ps_ret (pe_op op_catU (pe_callTy call_tuple_of rfl (B.z B.y0) PyProof.Rows.boot_tuple (p1 (pe_slice sl_tupU (pv 0) (po_some (pv 1)) po_none))) (pe_callTy call_tuple_of rfl (B.z B.y0) PyProof.Rows.boot_tuple (p1 (pe_slice sl_tupU (pv 0) po_none (po_some (pv 1))))))))),?_⟩
  try dsimp only [cxOf]
  refine ⟨_,rfl,D,_,rfl,.inr (SqT.of hD),fun l n1=>?_⟩
  have g1:=same_new n1 (.lst (cl.map vn))
  have hl:=upd_same (H:=H) (a:=l) (o:=.lst (cl.map vn))
  generalize upd H l (.lst (cl.map vn))=H1 at *
  have hD1:=g1 _ _ hD
  refine ⟨.inl ⟨rfl,_,SqL.of hl⟩,_,rfl,D,cl.map ci,rfl,SqT.of (by rw [hD1,vn_map]),(by rw [List.length_map];exact cpos),fun M hM hle=>?_⟩
  obtain ⟨m,rfl,hm,mle⟩:=least_of hM hle
  obtain rfl:=low_eq hm mle
  refine ⟨l,cl.map ci,_,cl.idxOf (low cl),rfl,rfl,(by rw [hl,vn_map]),firstAt_nat hm,?_⟩
  have i1:=il hm
  refine ⟨_,rfl,_,rfl,_,rfl,D,_,rfl,hD1,fun p1_ H2 m1 h1=>?_⟩
  rw [cut_from _ (by rw [lv];omega)] at h1
  refine ⟨p1_,_,rfl,.inr ⟨SqT.of h1,?_⟩⟩
  refine ⟨_,rfl,_,rfl,_,rfl,D,_,rfl,m1 _ _ hD1,fun p2_ H3 m3 h3=>?_⟩
  rw [cut_to _ (by rw [lv];omega)] at h3
  refine ⟨p2_,_,rfl,.inr ⟨SqT.of h3,?_⟩⟩
  refine ⟨p1_,p2_,_,_,rfl,rfl,m3 _ _ h1,h3,(by rw [List.length_drop,List.length_take,lv];exact Nat.le_of_lt (small1000 (by omega))),fun p3_ H6 m5 h6=>?_⟩
  exact k p3_ _ (g1.trans (Same.trans m1 (Same.trans m3 m5))) (by show H6 p3_=some (.tup ((rot cl (low cl)).map vn));rw [←rot_map];exact h6)
/-- rows as lists or tuples, in a list or a tuple -/
def RowS (H:Hp) (a:Addr) (row:List Nat):Prop:=H a=some (.lst (row.map vn))∨H a=some (.tup (row.map vn))
theorem RowS.kept {H H':Hp} {a:Addr} {row:List Nat} (h:RowS H a row) (g:Same H H'):RowS H' a row:=h.imp (g _ _) (g _ _)
inductive spTold (vs:List V) (H:Hp) (Q:VK) (Y:XK):Prop
 | mk:∀ (a:Addr) (ts:List Addr) (W:List (List Nat)),(vs=[.ref a])→(H a=some (.lst (ts.map V.ref)))→(AllAt RowS H ts W)→(W.length≤900)→(∀ row∈W,row≠[]∧row.length≤900)→(∀ (t:Addr) (H':Hp),Same H H'→WAt H' t (W.map fun r=>rot r (low r))→Q (.ref t) H')→spTold vs H Q Y
theorem ok_law_told (B:Fx):Hs "_law_told" ["_law_rows"] 2 (spTold):=by
 refine hs_of B.X B.d33 sc_law_told fun f cdv A outer s H vs Q E nN hr h=>?_
 obtain ⟨a,ts,W,rfl,ha,hW,lW,ok,k⟩:=h
 refine ⟨_,(pss_one (ps_ret (pe_callTy call_tuple_of rfl (B.z B.y0) PyProof.Rows.boot_tuple (p1 (pe_lc1x (Nc:=["_law_row_here"]) (js:=[none]) rfl rfl (pi_list (pv 0)) (CS.of rfl rfl) rfl (fun C s₂ H₂ fp pins=>(pgc 0)) (fun C s₂ H₂ fp pins D L=>(pt_tail0 (pb_app (pf (ok_law_from_least B) hr (p1 (pv 0))))))))))),?_⟩
 try dsimp only [cxOf]
 refine ⟨_,rfl,a,rfl,⟨_,SqL.of ha⟩,fun D2 n2=>?_⟩
 refine walk_list (xs:=ts.map V.ref) (fun i σ H3=>∃ (x0:Option V) (us:List Addr),σ=[x0]∧Same H H3∧H3 D2=some (.lst (us.map V.ref))∧AllAt (fun H3 a row=>a≠D2∧RowT H3 a row) H3 us ((W.map fun r=>rot r (low r)).take i)) ⟨none,[],rfl,same_new n2 _,upd_same,AllAt.nil⟩ ?_ ?_ ?_
 ·rintro i σ H3 _ ⟨x0,us,rfl,g3,_⟩
  exact SqL.of (g3 _ _ ha)
 ·rintro i x σ H3 hx ⟨x0,us,rfl,g3,hL3,hu⟩
  rw [List.getElem?_map] at hx
  obtain ⟨b,eb,rfl⟩:=Option.map_eq_some_iff.mp hx
  obtain ⟨row,er,hr_⟩:=hW.get eb
  obtain ⟨r1,r2⟩:=ok row (List.mem_of_getElem? er)
  have hi:=(List.getElem?_eq_some_iff.mp er).1
  refine ⟨_,rfl,b,row,rfl,hr_.kept g3,r1,r2,fun t H4 g4 ht=>?_⟩
  have hL4:=g4 _ _ hL3
  have l:=hu.1
  have l2:us.length≤i:=by rw [l];exact List.length_take_le ..
  refine ⟨_,hL4,small1000 (by rw [List.length_map];omega),?_⟩
  have tD:t≠D2:=fun z=>by
   subst z
   have ht:H4 t=some (.tup _):=ht
   rw [ht] at hL4
   cases hL4
  refine ⟨_,us++[t],rfl,same_at n2 (g3.trans g4),by rw [upd_same,List.map_append];rfl,?_⟩
  rw [List.take_succ,List.getElem?_map,er,Option.map_some,Option.toList_some]
  refine AllAt.snoc (hu.imp fun p x z=>⟨z.1,?_⟩) ⟨tD,?_⟩
  ·show upd H4 D2 _ p=_
   rw [upd_ne z.1]
   exact g4 _ _ z.2
  ·show upd H4 D2 _ t=_
   rw [upd_ne tD]
   exact ht
 ·rintro σ H3 ⟨x0,us,rfl,g3,hL3,hu⟩
  rw [List.take_of_length_le (by rw [List.length_map,List.length_map,hW.1];exact Nat.le_refl _)] at hu
  refine ⟨D2,_,rfl,.inl ⟨SqL.of hL3,fun t nt=>?_⟩⟩
  have gt:=same_new nt (.tup (us.map V.ref))
  exact k t _ (g3.trans gt) ⟨us,upd_same,hu.imp fun p x z=>gt _ _ z.2⟩
--SPLIT
open Mth Sca Ang Dcl
def RowL (H:Hp) (t:Addr) (row:List Nat):Prop:=H t=some (.lst (row.map vn))
/-- rows that may grow, in the list r; the pot at a -/
structure LW (H:Hp) (r a:Addr) (ts:List Addr) (W:List (List Nat)):Prop where
 top:H r=some (.lst (ts.map V.ref))
 nd:ts.Nodup
 row:AllAt RowL H ts W
 rt:r∉ts
 at_:a∉ts
 ar:a≠r
theorem LW.but {H H':Hp} {r a:Addr} {ts:List Addr} {W:List (List Nat)} (h:LW H r a ts W) (b:SameBut a H H'):LW H' r a ts W :=
 ⟨b _ _ h.ar.symm h.top,h.nd,⟨h.row.1,fun i p x e1 e2=>b _ _ (fun z=>h.at_ (z ▸ List.mem_of_getElem? e1)) (h.row.2 i p x e1 e2)⟩,h.rt,h.at_,h.ar⟩
theorem LW.put {H:Hp} {r a t:Addr} {ts:List Addr} {W:List (List Nat)} {p:Nat} {row:List Nat} (h:LW H r a ts W) (e:ts[p]?=some t):LW (upd H t (.lst (row.map vn))) r a ts (W.set p row):=by
 have mt:=List.mem_of_getElem? e
 refine ⟨by rw [upd_ne (show r≠t from fun z=>h.rt (by rw [z];exact mt))];exact h.top,h.nd,⟨by rw [List.length_set];exact h.row.1,fun i p' x e1 e2=>?_⟩,h.rt,h.at_,h.ar⟩
 unfold RowL
 by_cases c:p=i
 ·subst c
  rw [e] at e1
  cases e1
  rw [List.getElem?_set_self (h.row.1 ▸ (List.getElem?_eq_some_iff.mp e).1)] at e2
  cases e2
  exact upd_same
 ·rw [List.getElem?_set_ne c] at e2
  rw [upd_ne]
  ·exact h.row.2 i p' x e1 e2
  ·intro z
   subst z
   obtain ⟨l1,g1⟩:=List.getElem?_eq_some_iff.mp e
   obtain ⟨l2,g2⟩:=List.getElem?_eq_some_iff.mp e1
   exact c ((List.getElem_inj h.nd).mp (g1.trans g2.symm))
def Out (a:Addr) (ts:List Addr) (H H':Hp):Prop:=∀ b o,b≠a→b∉ts→H b=some o→H' b=some o
theorem Out.trans {a:Addr} {ts:List Addr} {H H1 H2:Hp} (x:Out a ts H H1) (y:Out a ts H1 H2):Out a ts H H2:=fun b o n m e=>y b o n m (x b o n m e)
theorem Out.but {a:Addr} {ts:List Addr} {H H':Hp} (x:SameBut a H H'):Out a ts H H':=fun b o n _ e=>x b o n e
theorem Out.put {a t:Addr} {ts:List Addr} {H:Hp} {p:Nat} {o:HO} (e:ts[p]?=some t):Out a ts H (upd H t o):=fun b u _ m q=>by rw [upd_ne (show b≠t from fun z=>m (by rw [z];exact List.mem_of_getElem? e))];exact q
/-- q has come to p's row, p to q's -/
def Grown (W W':List (List Nat)) (p q:Nat):Prop:=W'.length=W.length∧∀ (i:Nat) (row:List Nat),W[i]?=some row→∃ row',W'[i]?=some row'∧row'.Perm (if i=p then q::row else if i=q then p::row else row)
theorem ins_perm {α:Type} (xs:List α) (y:α) (i:Nat):(xs.take i++y::xs.drop i).Perm (y::xs):=by
 have:=List.perm_middle (a:=y) (l₁:=xs.take i) (l₂:=xs.drop i)
 rwa [List.take_append_drop] at this
theorem grown_of {W:List (List Nat)} {p q:Nat} {rp rq rp' rq':List Nat} (ne:p≠q) (ep:W[p]?=some rp) (eq:W[q]?=some rq) (h1:rp'.Perm (q::rp)) (h2:rq'.Perm (p::rq)):Grown W ((W.set p rp').set q rq') p q:=by
 refine ⟨by rw [List.length_set,List.length_set],fun i row e=>?_⟩
 have lp:=(List.getElem?_eq_some_iff.mp ep).1
 have lq:=(List.getElem?_eq_some_iff.mp eq).1
 by_cases c:i=p
 ·subst c
  rw [e] at ep
  cases ep
  refine ⟨rp',?_,by rw [if_pos rfl];exact h1⟩
  rw [List.getElem?_set_ne (Ne.symm ne),List.getElem?_set_self lp]
 rw [if_neg c]
 by_cases d:i=q
 ·subst d
  rw [e] at eq
  cases eq
  exact ⟨rq',List.getElem?_set_self (show i<(W.set p rp').length from by rw [List.length_set];exact lq),(if_pos (c:=i=i) rfl).symm ▸ h2⟩
 ·refine ⟨row,?_,by rw [if_neg d]⟩
  rw [List.getElem?_set_ne (Ne.symm d),List.getElem?_set_ne (Ne.symm c),e]
inductive spTie (vs:List V) (H:Hp) (Q:VK) (Y:XK):Prop
 | mk:∀ (a r:Addr) (p q:Nat) (ts:List Addr) (W:List (List Nat)) (rp rq:List Nat),(vs=[.ref a,.ref r,vn p,vn q])→(PotAt H a)→(LW H r a ts W)→(p≠q)→(W[p]?=some rp)→(W[q]?=some rq)→(rp.length≤800)→(rq.length≤800) →
   (∀ (H':Hp) (W':List (List Nat)),PotAt H' a→LW H' r a ts W'→Out a ts H H'→Grown W W' p q→Q .non H')→spTie vs H Q Y
theorem ok_law_tie (B:Fx):Hs "_law_tie" ["_law_pot_here","_law_rows","_law_p","_law_q"] 2 (spTie):=by
 refine hs_of B.X B.d30 sc_law_tie fun f cdv A outer s H vs Q E nN hr h=>?_
 obtain ⟨a,r,p,q,ts,W,rp,rq,rfl,ha,hW,ne,ep,eq,lp,lq,k⟩:=h
 refine ⟨_,(pss_cons (ps_expr (m_list PySem.F.slot_list_insert PySem.F.type_list_insert mt_insert (pix ix_list (pv 1) (pv 2)) (p2 (pf (ok_law_digit B) hr (p2 (pv 0) (pe_op op_add (pe_callB call_len_seq rfl (B.z B.y2) PySem.boot_len (p1 (pix ix_list (pv 1) (pv 2)))) pe_int))) (pv 3))))
   (pss_one (ps_expr (m_list PySem.F.slot_list_insert PySem.F.type_list_insert mt_insert (pix ix_list (pv 1) (pv 3)) (p2 (pf (ok_law_digit B) hr (p2 (pv 0) (pe_op op_add (pe_callB call_len_seq rfl (B.z B.y2) PySem.boot_len (p1 (pix ix_list (pv 1) (pv 3)))) pe_int))) (pv 2)))))),?_⟩
 try dsimp only [cxOf]
 obtain ⟨tp,etp,hp⟩:=hW.row.at ep
 obtain ⟨tq,etq,hq⟩:=hW.row.at eq
 have hp:H tp=some (.lst (rp.map vn)):=hp
 have hq:H tq=some (.lst (rq.map vn)):=hq
 refine ⟨_,rfl,_,rfl,r,_,_,.ref tp,rfl,rfl,SqL.of hW.top,atI_nat (j:=p) (by rw [List.getElem?_map,etp];rfl),.inl ⟨rfl,_,SqL.of hp⟩,?_⟩
 refine ⟨_,rfl,_,rfl,_,rfl,r,_,_,_,rfl,rfl,SqL.of hW.top,atI_nat (j:=p) (by rw [List.getElem?_map,etp];rfl),tp,_,rfl,.inl (SqL.of hp),_,_,rfl,rfl,a,_,rfl,ha,?_,?_,fun d H1 d0 dm s1 p1_=>?_⟩
 ·rw [List.length_map];omega
 ·rw [List.length_map];exact Nat.lt_of_lt_of_le (show _<2 ^ 10 by omega) (Nat.pow_le_pow_right (by decide) (by decide))
 rw [List.length_map] at dm
 have tpa:tp≠a:=fun z=>hW.at_ (z ▸ List.mem_of_getElem? etp)
 have hp1:=s1 _ _ tpa hp
 refine ⟨_,rfl,tp,_,_,_,rfl,rfl,hp1,d0,by omega,small1000 (by rw [List.length_map];omega),?_⟩
 have cut:∀ (xs:List Nat) (y:Nat) (i:Nat),(xs.map vn).take i++vn y::(xs.map vn).drop i=(xs.take i++y::xs.drop i).map vn:=fun xs y i=>by rw [List.map_append,List.map_cons,List.map_take,List.map_drop]
 rw [cut]
 have W1:=(hW.but s1).put (row:=rp.take d.toNat++q::rp.drop d.toNat) etp
 have o1:Out a ts H (upd H1 tp (.lst ((rp.take d.toNat++q::rp.drop d.toNat).map vn))):=(Out.but s1).trans (Out.put etp)
 have a1:PotAt (upd H1 tp (.lst ((rp.take d.toNat++q::rp.drop d.toNat).map vn))) a:=p1_.other (Ne.symm tpa)
 generalize upd H1 tp (.lst ((rp.take d.toNat++q::rp.drop d.toNat).map vn))=H2 at *
 have eq2:(W.set p (rp.take d.toNat++q::rp.drop d.toNat))[q]?=some rq:=by rw [List.getElem?_set_ne ne];exact eq
 have hq2:H2 tq=some (.lst (rq.map vn)):=W1.row.2 q tq rq etq eq2
 refine ⟨_,rfl,_,rfl,r,_,_,.ref tq,rfl,rfl,SqL.of W1.top,atI_nat (j:=q) (by rw [List.getElem?_map,etq];rfl),.inl ⟨rfl,_,SqL.of hq2⟩,?_⟩
 refine ⟨_,rfl,_,rfl,_,rfl,r,_,_,_,rfl,rfl,SqL.of W1.top,atI_nat (j:=q) (by rw [List.getElem?_map,etq];rfl),tq,_,rfl,.inl (SqL.of hq2),_,_,rfl,rfl,a,_,rfl,a1,?_,?_,fun e H3 e0 em s3 p3_=>?_⟩
 ·rw [List.length_map];omega
 ·rw [List.length_map];exact Nat.lt_of_lt_of_le (show _<2 ^ 10 by omega) (Nat.pow_le_pow_right (by decide) (by decide))
 rw [List.length_map] at em
 have tqa:tq≠a:=fun z=>hW.at_ (z ▸ List.mem_of_getElem? etq)
 have hq3:=s3 _ _ tqa hq2
 refine ⟨_,rfl,tq,_,_,_,rfl,rfl,hq3,e0,by omega,small1000 (by rw [List.length_map];omega),?_⟩
 rw [cut]
 exact k _ _ (p3_.other (Ne.symm tqa)) ((W1.but s3).put (row:=rq.take e.toNat++p::rq.drop e.toNat) etq) (o1.trans ((Out.but s3).trans (Out.put etq))) (grown_of ne ep eq (ins_perm _ _ _) (ins_perm _ _ _))
--SPLIT
open Mth Sca Ang Dcl
theorem inV_vn (s:Nat) (row:List Nat):inV (vn s) (row.map vn)=decide (s∈row):=by
 unfold inV
 rw [Bool.eq_iff_iff,List.any_eq_true,decide_eq_true_iff]
 constructor
 ·rintro ⟨x,hx,e⟩
  obtain ⟨n,hn,rfl⟩:=List.mem_map.mp hx
  have:((n:Int) == (s:Int))=true:=e
  have:n=s:=by
   have:=eq_of_beq this
   omega
  subst this
  exact hn
 ·intro h
  exact ⟨vn s,List.mem_map.mpr ⟨s,h,rfl⟩,(beq_self_eq_true (s:Int))⟩
theorem flat_vn (row:List Nat):(row.map vn).all flatV=true:=by
 rw [List.all_map,List.all_eq_true]
 intro x _
 rfl
structure Wk (n k:Nat) (W:List (List Nat)):Prop where
 len:W.length=n
 nd:∀ (i:Nat) (row:List Nat),W[i]?=some row→row.Nodup
 lt:∀ (i:Nat) (row:List Nat),W[i]?=some row→∀ q∈row,q<k∧q≠i
 nil:∀ (i:Nat) (row:List Nat),W[i]?=some row→k≤i→row=[]
 ne:2≤k→∀ (i:Nat) (row:List Nat),W[i]?=some row→i<k→row≠[]
 sym:∀ (i j:Nat) (ri rj:List Nat),W[i]?=some ri→W[j]?=some rj→(j∈ri↔i∈rj)
theorem Wk.start (n:Nat):Wk n 1 (List.replicate n []):=by
 have e:∀ (i:Nat) (row:List Nat),(List.replicate n ([]:List Nat))[i]?=some row→row=[]:=fun i row h=>List.eq_of_mem_replicate (List.mem_of_getElem? h)
 refine ⟨List.length_replicate,fun i row h=>?_,fun i row h q hq=>?_,fun i row h _=>e i row h,fun h=>by omega,fun i j ri rj h1 h2=>?_⟩
 ·rw [e i row h];exact List.nodup_nil
 ·rw [e i row h] at hq;cases hq
 ·rw [e i ri h1,e j rj h2]
  exact ⟨(fun z=>nomatch z),(fun z=>nomatch z)⟩
theorem Grown.old {W W':List (List Nat)} {p q i:Nat} {row':List Nat} (g:Grown W W' p q) (e:W'[i]?=some row'):∃ row,W[i]?=some row∧row'.Perm (if i=p then q::row else if i=q then p::row else row):=by
 have hi:i<W.length:=g.1 ▸ (List.getElem?_eq_some_iff.mp e).1
 obtain ⟨r',e',h⟩:=g.2 i W[i] (List.getElem?_eq_getElem hi)
 rw [e] at e'
 cases e'
 exact ⟨_,List.getElem?_eq_getElem hi,h⟩
theorem Grown.mem {p q i x:Nat} {row row':List Nat} (ne:p≠q) (h:row'.Perm (if i=p then q::row else if i=q then p::row else row)):x∈row'↔x∈row∨(i=p∧x=q)∨(i=q∧x=p):=by
 rw [h.mem_iff]
 by_cases c:i=p
 ·subst c
  rw [if_pos rfl,List.mem_cons]
  constructor
  ·rintro (z | z)
   ·exact .inr (.inl ⟨rfl,z⟩)
   ·exact .inl z
  ·rintro (z | ⟨_,z⟩ | ⟨z,_⟩)
   ·exact .inr z
   ·exact .inl z
   ·exact absurd z ne
 rw [if_neg c]
 by_cases d:i=q
 ·subst d
  rw [if_pos rfl,List.mem_cons]
  constructor
  ·rintro (z | z)
   ·exact .inr (.inr ⟨rfl,z⟩)
   ·exact .inl z
  ·rintro (z | ⟨z,_⟩ | ⟨_,z⟩)
   ·exact .inr z
   ·exact absurd z c
   ·exact .inl z
 rw [if_neg d]
 exact ⟨.inl,fun z=>z.elim id fun z=>z.elim (fun z=>absurd z.1 c) fun z=>absurd z.1 d⟩
theorem Wk.grow {n k K0 p q:Nat} {W W':List (List Nat)} (h:Wk n k W) (g:Grown W W' p q) (ne:p≠q) (pK:p<K0) (qK:q<K0) (kK:K0=k∨(K0=k+1∧q=k∧p<k)) (nq:∀ rp,W[p]?=some rp→q∉rp) (np:∀ rq,W[q]?=some rq→p∉rq):Wk n K0 W':=by
 refine ⟨g.1.trans h.len,fun i row e=>?_,fun i row e x hx=>?_,fun i row e hi=>?_,fun k2 i row e hi z=>?_,fun i j ri rj e1 e2=>?_⟩
 ·obtain ⟨r,e',m⟩:=g.old e
  rw [m.nodup_iff]
  have nd:=h.nd i r e'
  by_cases c:i=p
  ·subst c
   rw [if_pos rfl]
   exact List.nodup_cons.mpr ⟨nq r e',nd⟩
  rw [if_neg c]
  by_cases d:i=q
  ·subst d
   rw [if_pos rfl]
   exact List.nodup_cons.mpr ⟨np r e',nd⟩
  rw [if_neg d]
  exact nd
 ·obtain ⟨r,e',m⟩:=g.old e
  rcases (Grown.mem ne m).mp hx with z | ⟨z,y⟩ | ⟨z,y⟩
  ·have:=h.lt i r e' x z
   omega
  ·omega
  ·omega
 ·obtain ⟨r,e',m⟩:=g.old e
  rw [if_neg (by omega),if_neg (by omega),h.nil i r e' (by omega)] at m
  exact List.perm_nil.mp m
 ·obtain ⟨r,e',m⟩:=g.old e
  subst z
  by_cases c:i=p
  ·rw [if_pos c] at m
   exact absurd (List.nil_perm.mp m) (by simp)
  rw [if_neg c] at m
  by_cases d:i=q
  ·rw [if_pos d] at m
   exact absurd (List.nil_perm.mp m) (by simp)
  rw [if_neg d] at m
  have:=List.nil_perm.mp m
  exact h.ne (by omega) i r e' (by omega) this
 ·obtain ⟨r,e',m⟩:=g.old e1
  obtain ⟨s,e'',m'⟩:=g.old e2
  rw [Grown.mem ne m,Grown.mem ne m',h.sym i j r s e' e'']
  exact ⟨fun z=>z.elim .inl fun z=>.inr (by omega),fun z=>z.elim .inl fun z=>.inr (by omega)⟩
theorem Wk.ok {n:Nat} {W:List (List Nat)} (h:Wk n n W) (n2:2≤n) (n9:n≤900):WebOk W:=by
 refine ⟨h.len ▸ n9,fun p row e=>?_⟩
 have lp:p<n:=h.len ▸ (List.getElem?_eq_some_iff.mp e).1
 have nd:=h.nd p row e
 have lt:=h.lt p row e
 have:=List.Nodup.length_le_of_subset nd (l₂:=List.range n) fun x hx=>List.mem_range.mpr (lt x hx).1
 rw [List.length_range] at this
 exact ⟨nd,h.ne n2 p row e lp,by omega,fun q hq=>⟨h.len.symm ▸ (lt q hq).1,(lt q hq).2⟩⟩
theorem Wk.short {n k:Nat} {W:List (List Nat)} (h:Wk n k W) (kn:k≤n) (n9:n≤8) {i:Nat} {row:List Nat} (e:W[i]?=some row):row.length≤8:=by
 have:=List.Nodup.length_le_of_subset (h.nd i row e) (l₂:=List.range n) fun x hx=>List.mem_range.mpr (Nat.lt_of_lt_of_le (h.lt i row e x hx).1 kn)
 rw [List.length_range] at this
 omega
theorem keepO {a:Addr} {ts:List Addr} {H H1 H2:Hp} (g:SameBut a H H1) (fr:∀ t∈ts,H t=none) (o:Out a ts H1 H2):SameBut a H H2:=fun b u n e=>o b u n (fun m=>by rw [fr b m] at e;cases e) (g b u n e)
inductive spAnyRows (vs:List V) (H:Hp) (Q:VK) (Y:XK):Prop
 | mk:∀ (a:Addr) (n:Nat),(vs=[.ref a,vn n])→(PotAt H a)→(3≤n)→(n≤8)→(∀ (r:Addr) (ts:List Addr) (W:List (List Nat)) (H':Hp),PotAt H' a→SameBut a H H'→LW H' r a ts W→WebOk W→W.length=n→Q (.ref r) H')→spAnyRows vs H Q Y
theorem ok_law_any_rows (B:Fx):Hs "_law_any_rows" ["_law_pot_here","_law_n"] 3 (spAnyRows):=by
 refine hs_of B.X B.d31 sc_law_any_rows fun f cdv A outer s H vs Q E nN hr h=>?_
 obtain ⟨a,n,rfl,ha,n3,n8,k⟩:=h
 refine ⟨_,(pss_cons (ps_lc1x (i:=2) (Nc:=["_law_k"]) (js:=[none]) rfl rfl nN rfl (Or.inl rfl) (pi_range1 rfl (B.z B.y1) (p1 (pv 1))) (CS.of rfl rfl) rfl (fun C s₂ H₂ fp pins=>(pgc 0)) (fun C s₂ H₂ fp pins D L=>(pt_tail0 (pb_app (pe_lst pa_nil)))))
   (pss_cons (pfor (pi_range2 rfl (B.z B.y1) (p2 pe_int (pv 1))) (pgn 3 nN) (pss_one (ps_expr (pf (ok_law_tie B) hr (pa_cons (pv 0) (pa_cons (pv 2) (pa_cons (pf (ok_law_digit B) hr (p2 (pv 0) (pv 3))) (pa_cons (pv 3) pa_nil))))))))
   (pss_cons (pfor (pi_range1 rfl (B.z B.y1) (p1 (pf (ok_law_digit B) hr (p2 (pv 0) (pe_op Own.op_mulW pe_int (pv 1)))))) (pgn 3 nN) (pss_cons (ps_par (i:=4) (j:=5) rfl nN rfl rfl (by decide) rfl rfl (p2 (pf (ok_law_digit B) hr (p2 (pv 0) (pv 1))) (pf (ok_law_digit B) hr (p2 (pv 0) (pv 1)))) rfl)
   (pss_one (ps_if (PW.pt (pw_and (pt_cmpR op_ne (pv 4) (pv 5) (nomark _)) (pw_and1 (pt_cmpR op_notIn_seq (pv 5) (pix ix_list (pv 2) (pv 4)) rfl)))) (pss_one (ps_expr (pf (ok_law_tie B) hr (pa_cons (pv 0) (pa_cons (pv 2) (pa_cons (pv 4) (pa_cons (pv 5) pa_nil))))))) pss_nil))))
   (pss_one (ps_ret (pv 2)))))),?_⟩
 try dsimp only [cxOf]
 have anone:∀ {l},H l=none→a≠l:=fun {l} z=>by
  obtain ⟨x,y,e,_⟩:=ha
  exact ne_of_none e z
 refine ⟨_,rfl,_,rfl,by omega,by omega,fun r nr=>?_⟩
 refine walk_range (fun i σ H1=>∃ (x0:Option V) (ts:List Addr),σ=[x0]∧Same H H1∧(∀ t∈ts,H t=none)∧LW H1 r a ts (List.replicate i [])) ⟨none,[],rfl,same_new nr _,(fun t ht=>nomatch ht),⟨upd_same,List.nodup_nil,AllAt.nil,(fun z=>nomatch z),(fun z=>nomatch z),anone nr⟩⟩ ?_ ?_
 ·rintro i σ H1 hi ⟨x0,ts,rfl,g,fr,X⟩
  have hi:i<n:=by simpa using hi
  refine ⟨(by show 0≤sizeLine;decide),fun t nt=>?_⟩
  have gt:=same_new nt (.lst [])
  have nt0:=g.free nt
  have tr:t≠r:=fun z=>by subst z;rw [X.top] at nt;cases nt
  have lt:=X.row.1
  rw [List.length_replicate] at lt
  have tts:t∉ts:=fun z=>by
   obtain ⟨j,ej⟩:=List.mem_iff_getElem?.mp z
   obtain ⟨x,_,hx⟩:=X.row.get ej
   have hx:H1 t=some (.lst _):=hx
   rw [nt] at hx
   cases hx
  refine ⟨_,gt _ _ X.top,small1000 (by rw [List.length_map];omega),?_⟩
  have g3:=same_at nr (g.trans gt) (o:=.lst (ts.map V.ref++[.ref t]))
  refine ⟨_,ts++[t],rfl,g3,fun x hx=>?_,by rw [upd_same,List.map_append];rfl,?_,?_,fun z=>?_,fun z=>?_,X.ar⟩
  ·rcases List.mem_append.mp hx with hx | hx
   ·exact fr x hx
   ·cases List.mem_singleton.mp hx
    exact nt0
  ·rw [List.nodup_append]
   exact ⟨X.nd,by simp,fun x hx y hy=>by cases List.mem_singleton.mp hy;intro z;subst z;exact tts hx⟩
  ·rw [List.replicate_succ']
   refine AllAt.snoc ⟨X.row.1,fun j x y e1 e2=>?_⟩ ?_
   ·show upd _ r _ x=_
    rw [upd_ne (show x≠r from fun z=>X.rt (z ▸ List.mem_of_getElem? e1))]
    exact gt _ _ (X.row.2 j x y e1 e2)
   ·show upd _ r _ t=_
    rw [upd_ne tr]
    exact upd_same
  ·rcases List.mem_append.mp z with z | z
   ·exact X.rt z
   ·exact tr (List.mem_singleton.mp z).symm
  ·rcases List.mem_append.mp z with z | z
   ·exact X.at_ z
   ·exact anone nt0 (List.mem_singleton.mp z)
 rintro σ H1 ⟨x0,ts,rfl,g,fr,X⟩
 rw [Int.toNat_natCast] at X
 have a1:=ha.kept g
 have s1:=SameBut.of (a:=a) g
 have X1:=Wk.start n
 generalize List.replicate n []=W at *
 clear g ha
 have big:∀ {m:Int},0≤m→m<100→m.natAbs<2 ^ 9000:=fun h0 h1=>Nat.lt_of_lt_of_le (show _<2 ^ 10 by omega) (Nat.pow_le_pow_right (by decide) (by decide))
 refine ⟨_,rfl,1,n,rfl,(by omega),?_⟩
 refine for_range (fun i σ H2=>∃ (x3:Option V) (W:List (List Nat)),σ=[some (.ref a),some (vn n),some (.ref r),x3,none,none]∧PotAt H2 a∧SameBut a H H2∧LW H2 r a ts W∧Wk n (i+1) W) ⟨none,W,rfl,a1,s1,X,X1⟩ ?_ ?_
 ·clear X X1 s1 a1 W
  rintro i σ H2 hi ⟨x3,W,rfl,a1,s1,X,X1⟩
  have hi:i+1<n:=by omega
  refine ⟨_,rfl,_,rfl,_,rfl,_,rfl,a,1+(i:Int),rfl,a1,by omega,big (by omega) (by omega),fun d H3 d0 dm s3 p3_=>?_⟩
  obtain ⟨d,rfl⟩:=Int.eq_ofNat_of_zero_le d0
  have lW:=X1.len
  have ed:=List.getElem?_eq_getElem (l:=W) (i:=d) (by omega)
  have ei:=List.getElem?_eq_getElem (l:=W) (i:=i+1) (by omega)
  generalize W[d]=rp at *
  generalize W[i+1]=rq at *
  have nq:∀ rp,W[d]?=some rp→i+1∉rp:=fun rp e z=>by have:=X1.lt d rp e _ z;omega
  refine ⟨_,rfl,a,r,d,i+1,ts,W,rp,rq,by simp [vn];omega,p3_,X.but s3,by omega,ed,ei,by have:=X1.short (by omega) n8 ed;omega,by have:=X1.short (by omega) n8 ei;omega,fun H4 W4 a4 X4 o4 g4=>?_⟩
  refine ⟨_,W4,rfl,a4,keepO (s1.trans s3) fr o4,X4,X1.grow g4 (by omega) (by omega) (by omega) (.inr ⟨rfl,rfl,by omega⟩) nq fun rq e z=>nq rp ed ?_⟩
  exact (X1.sym d (i+1) rp rq ed e).mpr z
 rintro σ H2 ⟨x3,W2,rfl,a2,s2,X2,X3⟩
 rw [show (((n:Int)-1).toNat+1)=n by omega] at X3
 clear X X1 s1 a1 W x0 H1
 refine ⟨_,rfl,_,rfl,_,_,rfl,rfl,⟨by decide,big (by omega) (by omega)⟩,a,2*(n:Int),rfl,a2,by omega,big (by omega) (by omega),fun m H3 m0 mm s3 p3_=>?_⟩
 refine ⟨_,rfl,by omega,by omega,?_⟩
 refine for_range (fun i σ H4=>∃ (x3 x4 x5:Option V) (W:List (List Nat)),σ=[some (.ref a),some (vn n),some (.ref r),x3,x4,x5]∧PotAt H4 a∧SameBut a H H4∧LW H4 r a ts W∧Wk n n W) ⟨_,_,_,W2,rfl,p3_,s2.trans s3,X2.but s3,X3⟩ ?_ ?_
 ·clear X2 X3 s2 a2 s3 p3_ W2
  rintro i σ H4 hi ⟨x3,x4,x5,W,rfl,a1,s1,X,X1⟩
  refine ⟨_,rfl,_,rfl,a,n,rfl,a1,by omega,big (by omega) (by omega),fun p H5 p0 pm s5 a5=>?_⟩
  obtain ⟨p,rfl⟩:=Int.eq_ofNat_of_zero_le p0
  refine ⟨_,rfl,_,rfl,a,n,rfl,a5,by omega,big (by omega) (by omega),fun q H6 q0 qm s6 a6=>?_⟩
  obtain ⟨q,rfl⟩:=Int.eq_ofNat_of_zero_le q0
  have X6:=(X.but s5).but s6
  have s16:=s1.trans (s5.trans s6)
  refine ⟨_,_,rfl,?_⟩
  have lW:=X1.len
  have ep:=List.getElem?_eq_getElem (l:=W) (i:=p) (by omega)
  have eq:=List.getElem?_eq_getElem (l:=W) (i:=q) (by omega)
  generalize W[p]=rp at *
  generalize W[q]=rq at *
  obtain ⟨tp,etp,hp⟩:=X6.row.at ep
  have hp:H6 tp=some (.lst (rp.map vn)):=hp
  refine ⟨_,rfl,_,rfl,rfl,_,rfl,?_⟩
  refine ite2 (fun c=>?_) (fun c=>⟨_,_,_,W,rfl,a6,s16,X6,X1⟩)
  have ne:p≠q:=fun z=>by
   subst z
   rw [decide_eq_true rfl] at c
   cases c
  refine ⟨_,rfl,_,rfl,_,rfl,r,_,_,.ref tp,rfl,rfl,SqL.of X6.top,atI_nat (j:=p) (by rw [List.getElem?_map,etp];rfl),tp,_,rfl,.inl (SqL.of hp),rfl,flat_vn _,_,rfl,?_⟩
  rw [show inV (V.int (q:Int)) (rp.map vn)=decide (q∈rp) from inV_vn q rp]
  refine ite2 (fun c2=>?_) (fun c2=>⟨_,_,_,W,rfl,a6,s16,X6,X1⟩)
  have nq:q∉rp:=fun z=>by
   rw [decide_eq_true z] at c2
   cases c2
  refine ⟨_,rfl,_,rfl,_,rfl,_,rfl,a,r,p,q,ts,W,rp,rq,rfl,a6,X6,ne,ep,eq,by have:=X1.short (by omega) n8 ep;omega,by have:=X1.short (by omega) n8 eq;omega,fun H7 W7 a7 X7 o7 g7=>?_⟩
  refine ⟨_,_,_,W7,rfl,a7,keepO s16 fr o7,X7,X1.grow g7 ne (by omega) (by omega) (.inl rfl) (fun r' e=>by rw [ep] at e;cases e;exact nq) fun rq' e z=>nq ?_⟩
  exact (X1.sym p q rp rq' ep e).mpr z
 rintro σ H4 ⟨x3,x4,x5,W,rfl,a1,s1,X,X1⟩
 exact ⟨_,rfl,k r ts W H4 a1 s1 X (X1.ok (by omega) (by omega)) X1.len⟩
--SPLIT
open Mth Sca Ang Dcl
theorem eqvP (P0 R:Pt):PyData.eqv (ptD P0) (ptD R)=true↔P0=R:=by
 cases P0
 cases R
 simp [ptD,PyData.eqv,PyData.eqvAll,and_assoc]
theorem ok_law_alike (B:Fx):Hs "_law_alike" ["_law_drawing"] 1 (spAlike):=by
 refine hs_of B.X B.d34 sc_law_alike fun f cdv A outer s H vs Q E nN hr h=>?_
 obtain ⟨t,ps,Ps,rfl,ht,hP,l8,kn,ks⟩:=h
 refine ⟨_,(pss_cons (pfor (pi_range1 rfl (B.z B.y1) (p1 (pe_callB call_len_seq rfl (B.z B.y2) PySem.boot_len (p1 (pv 0))))) (pgn 1 nN) (pss_one (pfor (pi_range2 rfl (B.z B.y1) (p2 (pe_op op_add (pv 1) pe_int) (pe_callB call_len_seq rfl (B.z B.y2) PySem.boot_len (p1 (pv 0))))) (pgn 2 nN) (pss_one (ps_if (pt_cmpR (op_eqD hr.units) (pix ix_tup (pv 0) (pv 1)) (pix ix_tup (pv 0) (pv 2)) (nomark _)) (pss_one (ps_ret (pe_tup (p2 (pv 1) (pv 2))))) pss_nil)))))
   (pss_one (ps_ret pe_non))),?_⟩
 try dsimp only [cxOf]
 have lp:ps.length=Ps.length:=hP.1
 have ln:((ps.map V.ref).length:Int)=(Ps.length:Int):=by rw [List.length_map,lp]
 refine ⟨_,rfl,t,_,rfl,.inr (SqT.of ht),_,rfl,by omega,by omega,?_⟩
 rw [ln,Int.toNat_natCast]
 refine for_range (fun i σ H2=>∃ x1 x2:Option V,σ=[some (.ref t),x1,x2]∧Same H H2∧∀ (p q:Nat) (P:Pt),p<i→p<q→Ps[p]?=some P→Ps[q]?≠some P) ⟨_,_,rfl,fun _ _ h=>h,fun p q P h=>by omega⟩ ?_ ?_
 ·rintro i σ H2 hi ⟨x1,x2,rfl,g,no⟩
  refine ⟨_,rfl,_,_,rfl,rfl,_,rfl,t,_,rfl,.inr (SqT.of (g _ _ ht)),_,_,rfl,by omega,?_⟩
  rw [ln]
  refine for_range (fun j σ H3=>∃ x2:Option V,σ=[some (.ref t),some (vn i),x2]∧Same H H3∧∀ (q:Nat) (P:Pt),q<i+1+j→i<q→Ps[i]?=some P→Ps[q]?≠some P) ⟨_,by simp [vn];rfl,g,fun q P h=>by omega⟩ ?_ ?_
  ·rintro j σ H3 hj ⟨x2,rfl,g3,no2⟩
   have hq:i+1+j<Ps.length:=by omega
   have eP:=List.getElem?_eq_getElem hi
   have eR:=List.getElem?_eq_getElem hq
   generalize Ps[i]=P0 at *
   generalize Ps[i+1+j]=R at *
   obtain ⟨pp,ep,hp⟩:=hP.at eP
   obtain ⟨qp,eq,hq_⟩:=hP.at eR
   refine ⟨_,rfl,_,rfl,t,_,_,_,rfl,rfl,SqT.of (g3 _ _ ht),atI_nat (j:=i) (by rw [List.getElem?_map,ep];rfl),_,rfl,_,rfl,t,_,_,.ref qp,rfl,rfl,SqT.of (g3 _ _ ht),?_,ptD P0,ptD R,(hp.kept g3).dt,(hq_.kept g3).dt,ptD_ok _,ptD_ok _,_,rfl,?_⟩
   ·rw [show (0:Int)+(i:Int)+1+(j:Int)=((i+1+j:Nat):Int) by omega]
    exact atI_nat (j:=i+1+j) (by rw [List.getElem?_map,eq];rfl)
   rw [if_neg (show ¬ (false=true) by decide)]
   refine ite2 (fun c=>?_) (fun c=>?_)
   ·have c:=(eqvP _ _).mp c
    subst c
    refine ⟨_,rfl,_,rfl,(by show 2≤sizeLine;decide),fun a na=>?_⟩
    refine ks a i (i+1+j) _ (g3.trans (same_new na _)) ?_ ⟨by omega,⟨P0,eP,eR⟩,fun p' q' R' pq e1 e2=>?_⟩
    ·rw [upd_same]
     simp [vn]
    ·rcases Nat.lt_trichotomy p' i with l | l | l
     ·exact absurd e2 (no p' q' R' l pq e1)
     ·subst l
      refine .inr ⟨rfl,?_⟩
      rcases Nat.lt_or_ge q' (p'+1+j) with l2 | l2
      ·exact absurd e2 (no2 q' R' l2 pq e1)
      ·exact l2
     ·exact .inl l
   ·have c:P0≠R:=fun z=>c ((eqvP _ _).mpr z)
    refine ⟨_,rfl,g3,fun q P hq iq e1 e2=>?_⟩
    rcases Nat.lt_or_eq_of_le (show q≤i+1+j by omega) with l | l
    ·exact no2 q P l iq e1 e2
    ·subst l
     rw [eP] at e1
     rw [eR] at e2
     cases e1
     cases e2
     exact c rfl
  ·rintro σ H3 ⟨x2,rfl,g3,no2⟩
   refine ⟨_,_,rfl,g3,fun p q P hp pq e1 e2=>?_⟩
   rcases Nat.lt_or_eq_of_le (show p≤i by omega) with l | l
   ·exact no p q P l pq e1 e2
   ·subst l
    exact no2 q P (by have:=(List.getElem?_eq_some_iff.mp e2).1;omega) pq e1 e2
 ·rintro σ H2 ⟨x1,x2,rfl,g,no⟩
  exact kn H2 g fun p q P pq e1=>no p q P (by have:=(List.getElem?_eq_some_iff.mp e1).1;omega) pq e1
theorem insertIdx_cut {α:Type} (y:α):∀ (xs:List α) (k:Nat),k≤xs.length→xs.take k++y::xs.drop k=xs.insertIdx k y
 | xs,0,_=>by rw [List.insertIdx_zero];rfl
 | [],k+1,h=>by simp at h
 | x::xs,k+1,h=>by
  rw [List.insertIdx_succ_cons,List.take_succ_cons,List.drop_succ_cons,List.cons_append,insertIdx_cut y xs k (by simpa using h)]
def DrawL (Ps:List Pt):Prop:=∀ P∈Ps,Lw P∧Sz 206 P
theorem DrawL.ok {Ps:List Pt} (h:DrawL Ps):DrawOk Ps:=fun P hP=>⟨(h P hP).1,(h P hP).2.up (by decide)⟩
inductive spLRow (vs:List V) (H:Hp) (Q:VK) (Y:XK):Prop
 | mk:∀ (td a:Addr) (p:Nat) (Ps:List Pt) (row:List Nat),(vs=[.ref td,vn p,.ref a])→(DAt H td Ps)→(DrawL Ps)→(p<Ps.length)→(RowL H a row)→(RowOk Ps p row)→(∀ (t:Addr) (H':Hp),Same H H'→RowT H' t (rowT (dirs Ps p) row)→Q (.ref t) H')→spLRow vs H Q Y
theorem ok_law_row (B:Fx):Hs "_law_row" ["_law_drawing","_law_p","_law_row_here"] 5 (spLRow):=by
 refine hs_of B.X B.d38 sc_law_row fun f cdv A outer s H vs Q E nN hr h=>?_
 obtain ⟨td,a,p,Ps,row,rfl,hd,dok,lp,ha,ok,k⟩:=h
 have ha:H a=some (.lst (row.map vn)):=ha
 have le9:=ok.le
 refine ⟨_,(pss_cons (pst 3 nN (pe_lst pa_nil))
   (pss_cons (pfor (pi_list (pv 2)) (pgn 4 nN) (pss_cons (pst 5 nN (pe_callB call_len_seq rfl (B.z B.y2) PySem.boot_len (p1 (pe_lc1x (Nc:=["_law_r","_law_drawing","_law_p","_law_q"]) (js:=[none,some 0,some 1,some 4]) rfl rfl (pi_list (pv 3)) (CS.of rfl rfl) rfl (fun C s₂ H₂ fp pins=>(pg_name (i:=0) (show List.Nodup (α:=Str) ["_law_r","_law_drawing","_law_p","_law_q"] by decide +kernel) rfl (Or.inl rfl))) (fun C s₂ H₂ fp pins D L=>(pt_tail1 (pt_val (pf (ok_law_is_before B) hr (pa_cons (pv 1) (pa_cons (pv 2) (pa_cons (pv 0) (pa_cons (pv 3) pa_nil)))))) (pb_app (pv 0))))))))
   (pss_one (ps_expr (m_list PySem.F.slot_list_insert PySem.F.type_list_insert mt_insert (pv 3) (p2 (pv 5) (pv 4)))))))
   (pss_one (ps_ret (pf (ok_law_from_least B) hr (p1 (pv 3))))))),?_⟩
 try dsimp only [cxOf]
 refine ⟨(by show 0≤sizeLine;decide),fun l nl=>?_⟩
 have g1:=same_new nl (.lst [])
 refine ⟨_,rfl,a,rfl,⟨_,SqL.of (g1 _ _ ha)⟩,?_⟩
 refine for_list (xs:=row.map vn) (fun i σ H2=>∃ x4 x5:Option V,σ=[some (.ref td),some (vn p),some (.ref a),some (.ref l),x4,x5]∧Same H H2∧H2 l=some (.lst ((srtA (Au (dirs Ps p)) (row.take i)).map vn))) ⟨_,_,rfl,g1,upd_same⟩ ?_ ?_ ?_
 ·rintro i σ H2 _ ⟨x4,x5,rfl,g,_⟩
  exact SqL.of (g _ _ ha)
 ·rintro i x σ H2 hx ⟨x4,x5,rfl,g,hl⟩
  rw [List.getElem?_map] at hx
  obtain ⟨q,eq,rfl⟩:=Option.map_eq_some_iff.mp hx
  have hq:=List.mem_of_getElem? eq
  have hi:=(List.getElem?_eq_some_iff.mp eq).1
  have pm:=srtA_perm (Au (dirs Ps p)) _ (row.take i) rfl
  have ms:∀ {r},r∈srtA (Au (dirs Ps p)) (row.take i)→r∈row:=fun h=>List.mem_of_mem_take (pm.mem_iff.mp h)
  have ls:(srtA (Au (dirs Ps p)) (row.take i)).length≤900:=by rw [pm.length_eq];exact Nat.le_trans (List.length_take_le' ..) le9
  have es:=srtA_snoc (Au (dirs Ps p)) (row.take i) q
  have et:row.take i++[q]=row.take (i+1):=by rw [List.take_succ,eq];rfl
  rw [et] at es
  generalize srtA (Au (dirs Ps p)) (row.take i)=S at *
  refine ⟨_,rfl,l,rfl,⟨_,SqL.of hl⟩,fun m nm=>?_⟩
  have gm:=same_new nm (.lst [])
  have nmH:=g.free nm
  have ml:m≠l:=fun z=>by subst z;rw [hl] at nm;cases nm
  refine walk_list (xs:=S.map vn) (fun j σ H3=>∃ y0:Option V,σ=[y0,some (.ref td),some (vn p),some (vn q)]∧Same H H3∧H3 l=some (.lst (S.map vn))∧H3 m=some (.lst (((S.take j).filter fun r=>Au (dirs Ps p) r q).map vn))) ⟨none,rfl,g.trans gm,gm _ _ hl,upd_same⟩ ?_ ?_ ?_
  ·rintro j σ H3 _ ⟨y0,rfl,_,hl3,_⟩
   exact SqL.of hl3
  ·rintro j y σ H3 hy ⟨y0,rfl,g3,hl3,hm3⟩
   rw [List.getElem?_map] at hy
   obtain ⟨r,er_,rfl⟩:=Option.map_eq_some_iff.mp hy
   have hr_:=ms (List.mem_of_getElem? er_)
   refine ⟨_,rfl,_,rfl,_,rfl,_,rfl,td,Ps,p,r,q,rfl,hd.kept g3,dok,lp,ok.lt r hr_,ok.lt q hq,ok.rw.nz r hr_,ok.rw.nz q hq,fun H4 g4=>?_⟩
   refine ⟨_,rfl,?_⟩
   have tk:((S.take (j+1)).filter fun r=>Au (dirs Ps p) r q).map vn=((S.take j).filter fun r=>Au (dirs Ps p) r q).map vn++(if Au (dirs Ps p) r q=true then [vn r] else []):=by
    rw [List.take_succ,er_,Option.toList_some,List.filter_append,List.map_append]
    congr 1
    by_cases c:Au (dirs Ps p) r q=true
    ·rw [if_pos c,List.filter_cons_of_pos (p:=fun r=>Au (dirs Ps p) r q) c];rfl
    ·rw [if_neg c,List.filter_cons_of_neg (p:=fun r=>Au (dirs Ps p) r q) c];rfl
   refine ite2 (fun c=>?_) (fun c=>?_)
   ·have c:Au (dirs Ps p) r q=true:=c
    rw [if_pos c] at tk
    have ll:((S.take j).filter fun r=>Au (dirs Ps p) r q).length≤S.length:=Nat.le_trans (List.length_filter_le ..) (List.length_take_le' ..)
    refine ⟨_,rfl,_,g4 _ _ hm3,small1000 (by rw [List.length_map];omega),?_⟩
    exact ⟨_,rfl,same_at nmH (g3.trans g4),by rw [upd_ne (Ne.symm ml)];exact g4 _ _ hl3,by rw [upd_same,tk]⟩
   ·have c:¬ Au (dirs Ps p) r q=true:=c
    rw [if_neg c,List.append_nil] at tk
    exact ⟨_,rfl,g3.trans g4,g4 _ _ hl3,by rw [tk];exact g4 _ _ hm3⟩
  ·rintro σ H3 ⟨y0,rfl,g3,hl3,hm3⟩
   rw [List.length_map,List.take_length] at hm3
   refine ⟨m,_,rfl,.inl (SqL.of hm3),?_⟩
   rw [List.length_map,←List.countP_eq_length_filter]
   refine ⟨_,rfl,.inl ⟨rfl,_,SqL.of hl3⟩,_,rfl,_,rfl,l,_,_,_,rfl,rfl,hl3,by omega,?_,small1000 (by rw [List.length_map];omega),?_⟩
   ·have:=List.countP_le_length (p:=fun r=>Au (dirs Ps p) r q) (l:=S)
    omega
   have nlH:H l=none:=nl
   refine ⟨_,_,rfl,same_at nlH g3,?_⟩
   rw [upd_same,es]
   unfold insA
   rw [Int.toNat_natCast,←insertIdx_cut q S _ List.countP_le_length,List.map_append,List.map_cons,List.map_take,List.map_drop]
 ·rintro σ H2 ⟨x4,x5,rfl,g,hl⟩
  rw [List.length_map,List.take_length] at hl
  have pm:=srtA_perm (Au (dirs Ps p)) _ row rfl
  refine ⟨_,rfl,l,_,rfl,.inl hl,fun z=>ok.ne (List.length_eq_zero_iff.mp (by rw [←pm.length_eq,z];rfl)),by rw [pm.length_eq];exact le9,fun t H' g' ht=>?_⟩
  exact k t H' (g.trans g') ht
--SPLIT
open Mth Sca Ang Dcl
theorem alk_symm (u v:Vc):alk u v=alk v u:=by
 unfold alk
 rw [cr_swap v u]
 congr 1
 ·congr 1;rw [eq_iff_iff];omega
 ·congr 1;rw [eq_iff_iff];exact ⟨Eq.symm,Eq.symm⟩
/-- rows in a list -/
def RLt (H:Hp) (r:Addr) (W:List (List Nat)):Prop:=∃ ts:List Addr,H r=some (.lst (ts.map V.ref))∧AllAt RowL H ts W
theorem RLt.kept {H H':Hp} {t:Addr} {W:List (List Nat)} (h:RLt H t W) (g:Same H H'):RLt H' t W:=by
 obtain ⟨ts,a,b⟩:=h
 exact ⟨ts,g _ _ a,b.imp fun p x z=>g _ _ z⟩
structure In_ (H:Hp) (td r:Addr) (Ps:List Pt) (W:List (List Nat)):Prop where
 d:DAt H td Ps
 dl:DrawL Ps
 w:RLt H r W
 wo:WebOk W
 el:W.length=Ps.length
theorem In_.kept {H H':Hp} {td r:Addr} {Ps:List Pt} {W:List (List Nat)} (h:In_ H td r Ps W) (g:Same H H'):In_ H' td r Ps W:=⟨h.d.kept g,h.dl,h.w.kept g,h.wo,h.el⟩
inductive spFolded (vs:List V) (H:Hp) (Q:VK) (Y:XK):Prop
 | mk:∀ (td r:Addr) (Ps:List Pt) (W:List (List Nat)),(vs=[.ref td,.ref r])→(In_ H td r Ps W)→(NoTwo Ps)→(∀ H',Same H H'→(∀ p,¬ FoldAt Ps W p)→Q .non H')→(∀ (p:Nat) (H':Hp),Same H H'→FstFold Ps W p→Q (vn p) H')→spFolded vs H Q Y
theorem no_fold_at {Ps:List Pt} {W:List (List Nat)} {p:Nat} {row:List Nat} (er:W[p]?=some row) (h:∀ q∈row,∀ r∈row,q<r→¬ alk (dirs Ps p q) (dirs Ps p r)=true):¬ FoldAt Ps W p:=by
 rintro ⟨row',e,q,hq,r,hr,ne,a⟩
 rw [er] at e
 cases e
 rcases Nat.lt_or_gt_of_ne ne with l | l
 ·exact h q hq r hr l a
 ·exact h r hr q hq l (by rw [alk_symm];exact a)
theorem ok_law_folded (B:Fx):Hs "_law_folded" ["_law_drawing","_law_rows"] 4 (spFolded):=by
 refine hs_of B.X B.d39 sc_law_folded fun f cdv A outer s H vs Q E nN hr h=>?_
 obtain ⟨td,r,Ps,W,rfl,I,no,kn,kf⟩:=h
 obtain ⟨ts,hr0,hW⟩:=id I.w
 obtain ⟨ps,hd0,hP⟩:=id I.d
 have el:=I.el
 refine ⟨_,(pss_cons (pfor (pi_enum true rfl (B.z B.y10) (p1 (pv 1))) (pg_tup (n:=2) rfl (pgs_cons (pgn 2 nN) (pgs_cons (pgn 3 nN) pgs_nil))) (pss_one (pfor (pi_list (pv 3)) (pgn 4 nN) (pss_one (pfor (pi_list (pv 3)) (pgn 5 nN) (pss_one (ps_if (PW.pt (pw_and (pt_cmpR op_lt (pv 4) (pv 5) (nomark _)) (pw_and1 (pt_val (pf (ok_law_lead_alike B) hr (pa_cons (pix ix_tup (pv 0) (pv 2)) (pa_cons (pix ix_tup (pv 0) (pv 4)) (pa_cons (pix ix_tup (pv 0) (pv 5)) pa_nil)))))))) (pss_one (ps_ret (pv 2))) pss_nil)))))))
   (pss_one (ps_ret pe_non))),?_⟩
 try dsimp only [cxOf]
 refine ⟨_,rfl,r,rfl,⟨_,SqL.of hr0⟩,?_⟩
 refine for_enum (k:=true) (xs:=ts.map V.ref) (fun i σ H2=>∃ x2 x3 x4 x5:Option V,σ=[some (.ref td),some (.ref r),x2,x3,x4,x5]∧Same H H2∧∀ p,p<i→¬ FoldAt Ps W p) ⟨_,_,_,_,rfl,fun _ _ h=>h,fun p h=>by omega⟩ ?_ ?_ ?_
 ·rintro i σ H2 _ ⟨x2,x3,x4,x5,rfl,g,_⟩
  exact SqL.of (g _ _ hr0)
 ·rintro i x T σ H2 hx nT ⟨x2,x3,x4,x5,rfl,g,nf⟩
  rw [List.getElem?_map] at hx
  obtain ⟨b,eb,rfl⟩:=Option.map_eq_some_iff.mp hx
  obtain ⟨row,er,hb⟩:=hW.get eb
  have hb:H b=some (.lst (row.map vn)):=hb
  have gT:=g.trans (same_new nT (.tup [.int i,.ref b]))
  have ro:=row_ok I.wo I.dl.ok el no er
  have lp:i<Ps.length:=el ▸ (List.getElem?_eq_some_iff.mp er).1
  obtain ⟨pp,ep,hp⟩:=hP.at (pt_at lp)
  have pk:=I.dl _ (List.mem_of_getElem? (pt_at lp))
  have ptq:∀ {q:Nat},q∈row→∃ qp,ps[q]?=some qp∧PtAt H qp (pt Ps q)∧Lw (pt Ps q)∧Sz 206 (pt Ps q):=fun {q} hq=>by
   obtain ⟨qp,e1,e2⟩:=hP.at (pt_at (ro.lt q hq))
   exact ⟨qp,e1,e2,I.dl _ (List.mem_of_getElem? (pt_at (ro.lt q hq)))⟩
  refine ⟨T,_,rfl,SqT.of upd_same,rfl,_,_,rfl,_,_,rfl,rfl,?_⟩
  refine ⟨_,rfl,b,rfl,⟨_,SqL.of (gT _ _ hb)⟩,?_⟩
  refine for_list (xs:=row.map vn) (fun j σ H3=>∃ x4 x5:Option V,σ=[some (.ref td),some (.ref r),some (vn i),some (.ref b),x4,x5]∧Same H H3∧∀ q∈row.take j,∀ s∈row,q<s→¬ alk (dirs Ps i q) (dirs Ps i s)=true) ⟨_,_,rfl,gT,fun q h=>nomatch h⟩ ?_ ?_ ?_
  ·rintro j σ H3 _ ⟨x4,x5,rfl,g3,_⟩
   exact SqL.of (g3 _ _ hb)
  ·rintro j y σ H3 hy ⟨x4,x5,rfl,g3,n1⟩
   rw [List.getElem?_map] at hy
   obtain ⟨q,eq,rfl⟩:=Option.map_eq_some_iff.mp hy
   have hq:=List.mem_of_getElem? eq
   obtain ⟨qp,eqp,hqp,lq,zq⟩:=ptq hq
   refine ⟨_,rfl,b,rfl,⟨_,SqL.of (g3 _ _ hb)⟩,?_⟩
   refine for_list (xs:=row.map vn) (fun k σ H4=>∃ x5:Option V,σ=[some (.ref td),some (.ref r),some (vn i),some (.ref b),some (vn q),x5]∧Same H H4∧∀ s∈row.take k,q<s→¬ alk (dirs Ps i q) (dirs Ps i s)=true) ⟨_,rfl,g3,fun q h=>nomatch h⟩ ?_ ?_ ?_
   ·rintro k σ H4 _ ⟨x5,rfl,g4,_⟩
    exact SqL.of (g4 _ _ hb)
   ·rintro k z σ H4 hz ⟨x5,rfl,g4,n2⟩
    rw [List.getElem?_map] at hz
    obtain ⟨s,es,rfl⟩:=Option.map_eq_some_iff.mp hz
    have hs:=List.mem_of_getElem? es
    obtain ⟨sp,esp,hsp,ls,zs⟩:=ptq hs
    have tk:∀ {x},x∈row.take (k+1)→x∈row.take k∨x=s:=fun {x} h=>by
     rw [List.take_succ,es,Option.toList_some] at h
     rcases List.mem_append.mp h with h | h
     ·exact .inl h
     ·exact .inr (List.mem_singleton.mp h)
    refine ⟨_,rfl,_,rfl,_,_,rfl,rfl,_,rfl,?_⟩
    refine ite2 (fun c=>?_) (fun c=>?_)
    ·have c:=of_decide_eq_true c
     refine ⟨_,rfl,_,rfl,td,_,_,_,rfl,rfl,SqT.of (g4 _ _ hd0),atI_nat (j:=i) (by rw [List.getElem?_map,ep];rfl),_,rfl,_,rfl,td,_,_,_,rfl,rfl,SqT.of (g4 _ _ hd0),atI_nat (j:=q) (by rw [List.getElem?_map,eqp];rfl),_,rfl,_,rfl,td,_,_,_,rfl,rfl,SqT.of (g4 _ _ hd0),atI_nat (j:=s) (by rw [List.getElem?_map,esp];rfl),pp,qp,sp,_,_,_,rfl,hp.kept g4,hqp.kept g4,hsp.kept g4,pk.2,zq,zs,pk.1,lq,ls,ro.rw.nz q hq,ro.rw.nz s hs,fun H5 g5=>?_⟩
     refine ⟨_,rfl,?_⟩
     refine ite2 (fun c2=>?_) (fun c2=>?_)
     ·have c2:alk (dirs Ps i q) (dirs Ps i s)=true:=c2
      exact ⟨_,rfl,kf i _ (g4.trans g5) ⟨⟨row,er,q,hq,s,hs,by omega,c2⟩,nf⟩⟩
     ·refine ⟨_,rfl,g4.trans g5,fun x hx=>?_⟩
      rcases tk hx with hx | rfl
      ·exact n2 x hx
      ·exact fun _=>c2
    ·have c:=of_decide_eq_false (Bool.eq_false_iff.mpr c)
     refine ⟨_,rfl,g4,fun x hx=>?_⟩
     rcases tk hx with hx | rfl
     ·exact n2 x hx
     ·exact fun l=>by omega
   ·rintro σ H4 ⟨x5,rfl,g4,n2⟩
    rw [List.length_map,List.take_length] at n2
    refine ⟨_,_,rfl,g4,fun x hx=>?_⟩
    rw [List.take_succ,eq,Option.toList_some] at hx
    rcases List.mem_append.mp hx with hx | hx
    ·exact n1 x hx
    ·cases List.mem_singleton.mp hx
     exact n2
  ·rintro σ H3 ⟨x4,x5,rfl,g3,n1⟩
   rw [List.length_map,List.take_length] at n1
   refine ⟨_,_,_,_,rfl,g3,fun p hp=>?_⟩
   rcases Nat.lt_or_eq_of_le (Nat.le_of_lt_succ hp) with l | l
   ·exact nf p l
   ·subst l
    exact no_fold_at er n1
 ·rintro σ H2 ⟨x2,x3,x4,x5,rfl,g,nf⟩
  refine kn H2 g fun p=>?_
  by_cases c:p<W.length
  ·exact nf p (by rw [List.length_map,hW.1];exact c)
  ·rintro ⟨row,e,_⟩
   exact c (List.getElem?_eq_some_iff.mp e).1
/-- what is due -/
inductive Ans
 | al (p q:Nat) | fo (p:Nat) | ro (W:List (List Nat))
def IsAns (Ps:List Pt) (W:List (List Nat)):Ans→Prop
 | .al p q=>Least Ps p q
 | .fo p=>NoTwo Ps∧FstFold Ps W p
 | .ro W'=>NoTwo Ps∧(∀ p,¬ FoldAt Ps W p)∧W'=turnW Ps W
def AnsAt (H:Hp) (v:V):Ans→Prop
 | .al p q=>∃ t b,v=.ref t∧H t=some (.tup [.str (Str.ofString "alike"),.ref b])∧H b=some (.tup [vn p,vn q])
 | .fo p=>∃ t,v=.ref t∧H t=some (.tup [.str (Str.ofString "folded"),vn p])
 | .ro W'=>∃ t,v=.ref t∧WAt H t W'
theorem Least.no {Ps:List Pt} {p q:Nat} (h:Least Ps p q):¬ NoTwo Ps:=fun n=>by
 obtain ⟨P0,a,b⟩:=h.same
 exact n p q P0 h.lt a b
theorem IsAns.uniq {Ps:List Pt} {W:List (List Nat)} {a b:Ans} (h:IsAns Ps W a) (k:IsAns Ps W b):a=b:=by
 cases a<;>cases b<;>simp only [IsAns] at h k
 ·obtain ⟨P0,e1,e2⟩:=h.same
  obtain ⟨R0,e3,e4⟩:=k.same
  have a:=h.le _ _ _ k.lt e3 e4
  have b:=k.le _ _ _ h.lt e1 e2
  congr<;>omega
 ·exact absurd k.1 h.no
 ·exact absurd k.1 h.no
 ·exact absurd h.1 k.no
 ·rename_i p q
  obtain ⟨_,f1,n1⟩:=h
  obtain ⟨_,f2,n2⟩:=k
  rcases Nat.lt_trichotomy p q with l | l | l
  ·exact absurd f1 (n2 p l)
  ·rw [l]
  ·exact absurd f2 (n1 q l)
 ·exact absurd h.2.1 (k.2.1 _)
 ·exact absurd h.1 k.no
 ·exact absurd k.2.1 (h.2.1 _)
 ·rw [h.2.2,k.2.2]
inductive spDue (vs:List V) (H:Hp) (Q:VK) (Y:XK):Prop
 | mk:∀ (td r:Addr) (Ps:List Pt) (W:List (List Nat)),(vs=[.ref td,.ref r])→(In_ H td r Ps W)→(∀ (v:V) (H':Hp) (a:Ans),Same H H'→IsAns Ps W a→AnsAt H' v a→Q v H')→spDue vs H Q Y
theorem ok_law_due (B:Fx):Hs "_law_due" ["_law_drawing","_law_rows"] 6 (spDue):=by
 refine hs_of B.X B.d40 sc_law_due fun f cdv A outer s H vs Q E nN hr h=>?_
 obtain ⟨td,r,Ps,W,rfl,I,k⟩:=h
 obtain ⟨ps,hd0,hP⟩:=id I.d
 have el:=I.el
 have l9:Ps.length≤900:=el ▸ I.wo.len
 refine ⟨_,(pss_cons (ps_if (pt_cmpR op_notN (pf (ok_law_alike B) hr (p1 (pv 0))) pe_non (nomark _)) (pss_one (ps_ret (pe_tup (p2 pe_str (pf (ok_law_alike B) hr (p1 (pv 0))))))) pss_nil)
   (pss_cons (ps_if (pt_cmpR op_notN (pf (ok_law_folded B) hr (p2 (pv 0) (pv 1))) pe_non (nomark _)) (pss_one (ps_ret (pe_tup (p2 pe_str (pf (ok_law_folded B) hr (p2 (pv 0) (pv 1))))))) pss_nil)
   (pss_one (ps_ret (pe_callTy call_tuple_of rfl (B.z B.y0) PyProof.Rows.boot_tuple (p1 (pe_lc1x (Nc:=["_law_p","_law_row_here","_law_drawing"]) (js:=[none,none,some 0]) rfl rfl (pi_enum true rfl (B.z B.y10) (p1 (pv 1))) (CS.of rfl rfl) rfl (fun C s₂ H₂ fp pins=>(show PG _ _ (gTup K 2 _) from pg_tup rfl (pgs_cons (pgc 0) (pgs_cons (pgc 1) pgs_nil)))) (fun C s₂ H₂ fp pins D L=>(pt_tail0 (pb_app (pf (ok_law_row B) hr (pa_cons (pv 2) (pa_cons (pv 0) (pa_cons (pv 1) pa_nil)))))))))))))),?_⟩
 try dsimp only [cxOf]
 refine ⟨_,rfl,td,ps,Ps,rfl,hd0,hP,l9,fun H1 g1 no=>?_,fun a p q H1 g1 ha lst=>?_⟩
 rotate_left
 ·refine ⟨rfl,_,rfl,?_⟩
  refine iteT ?_
  refine ⟨_,rfl,td,ps,Ps,rfl,g1 _ _ hd0,hP.imp fun p x z=>z.kept g1,l9,fun H2 g2 no=>absurd no lst.no,fun b p' q' H2 g2 hb lst'=>?_⟩
  refine ⟨(by show 2≤sizeLine;decide),fun t nt=>?_⟩
  have gt:=same_new nt (.tup [.str (Str.ofString "alike"),.ref b])
  exact k _ _ (.al p' q') (g1.trans (g2.trans gt)) lst' ⟨t,b,rfl,upd_same,gt _ _ hb⟩
 ·refine ⟨rfl,_,rfl,?_⟩
  refine iteF ?_
  refine ⟨_,rfl,_,rfl,td,r,Ps,W,rfl,I.kept g1,no,fun H2 g2 nf=>?_,fun p H2 g2 ff=>?_⟩
  rotate_left
  ·refine ⟨rfl,_,rfl,?_⟩
   refine iteT ?_
   refine ⟨_,rfl,_,rfl,td,r,Ps,W,rfl,I.kept (g1.trans g2),no,fun H3 g3 nf=>absurd ff.1 (nf p),fun p' H3 g3 ff'=>?_⟩
   refine ⟨(by show 2≤sizeLine;decide),fun t nt=>?_⟩
   exact k _ _ (.fo p') (g1.trans (g2.trans (g3.trans (same_new nt _)))) ⟨no,ff'⟩ ⟨t,rfl,upd_same⟩
  ·refine ⟨rfl,_,rfl,?_⟩
   refine iteF ?_
   have g12:=g1.trans g2
   have I2:=I.kept g12
   obtain ⟨ts,hr0,hW⟩:=I2.w
   refine ⟨_,rfl,r,rfl,⟨_,SqL.of hr0⟩,fun D2 n2=>?_⟩
   have n2H:H D2=none:=g12.free n2
   refine walk_enum (k:=true) (xs:=ts.map V.ref) (fun i σ H3=>∃ (x0 x1:Option V) (us:List Addr),σ=[x0,x1,some (.ref td)]∧Same H2 H3∧H3 D2=some (.lst (us.map V.ref))∧AllAt (fun H3 a row=>a≠D2∧RowT H3 a row) H3 us ((turnW Ps W).take i)) ⟨none,none,[],rfl,same_new n2 _,upd_same,AllAt.nil⟩ ?_ ?_ ?_
   ·rintro i σ H3 _ ⟨x0,x1,us,rfl,g3,_⟩
    exact SqL.of (g3 _ _ hr0)
   ·rintro i x T σ H3 hx nT ⟨x0,x1,us,rfl,g3,hL3,hu⟩
    rw [List.getElem?_map] at hx
    obtain ⟨b,eb,rfl⟩:=Option.map_eq_some_iff.mp hx
    obtain ⟨row,er,hb⟩:=hW.get eb
    have gT:=same_new nT (.tup [.int i,.ref b])
    have g3T:=g3.trans gT
    have hL3:=gT _ _ hL3
    have hu:=hu.imp (R':=fun H3 a row=>a≠D2∧RowT H3 a row) fun p x z=>⟨z.1,gT _ _ z.2⟩
    have ro:=row_ok I.wo I.dl.ok el no er
    have hi:=(List.getElem?_eq_some_iff.mp er).1
    refine ⟨T,_,rfl,SqT.of upd_same,rfl,_,_,rfl,_,_,rfl,rfl,?_⟩
    generalize upd H3 T (.tup [.int i,.ref b])=H4 at *
    refine ⟨_,rfl,_,rfl,_,rfl,td,b,i,Ps,row,rfl,I2.d.kept g3T,I.dl,el ▸ hi,g3T _ _ hb,ro,fun t H5 g5 ht=>?_⟩
    have hL4:=g5 _ _ hL3
    have l:=hu.1
    have l2:us.length≤i:=by rw [l];exact List.length_take_le ..
    refine ⟨_,hL4,small1000 (by have:=I.wo.len;rw [List.length_map];omega),?_⟩
    have tD:t≠D2:=fun z=>by
     subst z
     have ht:H5 t=some (.tup _):=ht
     rw [ht] at hL4
     cases hL4
    have et:(turnW Ps W)[i]?=some (rowT (dirs Ps i) row):=by unfold turnW;rw [List.getElem?_mapIdx,er];rfl
    refine ⟨_,_,us++[t],rfl,same_at n2 (g3T.trans g5),by rw [upd_same,List.map_append];rfl,?_⟩
    rw [List.take_succ,et,Option.toList_some]
    refine AllAt.snoc (hu.imp fun p x z=>⟨z.1,?_⟩) ⟨tD,?_⟩
    ·show upd H5 D2 _ p=_
     rw [upd_ne z.1]
     exact g5 _ _ z.2
    ·show upd H5 D2 _ t=_
     rw [upd_ne tD]
     exact ht
   ·rintro σ H3 ⟨x0,x1,us,rfl,g3,hL3,hu⟩
    have e2:(turnW Ps W).length=W.length:=List.length_mapIdx
    rw [List.take_of_length_le (by rw [e2,List.length_map,hW.1];exact Nat.le_refl _)] at hu
    refine ⟨D2,_,rfl,.inl ⟨SqL.of hL3,fun t nt=>?_⟩⟩
    have gt:=same_new nt (.tup (us.map V.ref))
    exact k _ _ (.ro (turnW Ps W)) (g12.trans (g3.trans gt)) ⟨no,nf,rfl⟩ ⟨t,rfl,us,upd_same,hu.imp fun p x z=>gt _ _ z.2⟩
--SPLIT
open Mth Sca Ang Dcl
theorem boot_VE:bootBuiltins "ValueError" = some (.type "ValueError"):=by decide +kernel
theorem XAt_same {H H':Hp} {a C:Addr} {dx:Option Addr} {t1:Value} (x:XAt H a C dx t1) (g:Same H H'):XAt H' a C dx t1:=⟨g _ _ x.1,fun d e=>by
 obtain ⟨fs,z⟩:=x.2 d e
 exact ⟨fs,g _ _ z⟩⟩
theorem kd1 {n c:Str} {b:Bool} {C:Addr} (B:Fx) (d:KdAt K n c b) (h:mg n=some (.ref C)):∃ G,mg c=some (.ref G)∧PySem.W.kitOne K (.ref C) (.ref G)=some b:=by
 obtain ⟨C1,G,m1,g,k⟩:=kd_of B.X d
 rw [h] at m1
 cases m1
 exact ⟨G,g,k⟩
theorem kv1 {n:Str} {C:Addr} (B:Fx) (d:KvAt K n) (h:mg n=some (.ref C)):PySem.W.kitOne K (.ref C) (.type "ValueError")=some true:=by
 obtain ⟨C1,m1,k⟩:=kv_of B.X d
 rw [h] at m1
 cases m1
 exact k
/-- Alike or Folded -/
def Two (C:Addr):Prop:=mg "Alike" = some (.ref C)∨mg "Folded" = some (.ref C)
inductive spJust (vs:List V) (H:Hp) (Q:VK) (Y:XK):Prop
 | mk:∀ (a C:Addr) (dx:Option Addr) (t1:Value),(vs=[.ref a])→(XAt H a C dx t1)→(Ex.XK0 K C)→(Two C)→(∀ H',Same H H'→Q (.bl true) H')→spJust vs H Q Y
theorem ok_law_is_just (B:Fx):HasN P w K mg base "_law_is_just" ["_law_e"] 2 spJust:=by
 refine hsN_of B.X B.d35 sc_law_is_just (fun f cdv A outer s H vs Q E nN hr h=>?_) (by intro _ _ _ _ h;cases h;subst_vars;rfl) (by intro _ _ _ _ _ _ us hl;obtain ⟨_,rfl⟩:=len1 hl;rfl)
 obtain ⟨a,C,dx,t1,rfl,xa,x0,hC,q⟩:=h
 obtain ⟨G_NoText,g_NoText,k_NoText⟩:=hC.elim (kd1 B B.kd_Alike_NoText) (kd1 B B.kd_Folded_NoText)
 obtain ⟨G_NotFlat,g_NotFlat,k_NotFlat⟩:=hC.elim (kd1 B B.kd_Alike_NotFlat) (kd1 B B.kd_Folded_NotFlat)
 obtain ⟨G_NotTied,g_NotTied,k_NotTied⟩:=hC.elim (kd1 B B.kd_Alike_NotTied) (kd1 B B.kd_Folded_NotTied)
 obtain ⟨G_NotCornered,g_NotCornered,k_NotCornered⟩:=hC.elim (kd1 B B.kd_Alike_NotCornered) (kd1 B B.kd_Folded_NotCornered)
 obtain ⟨G_NoRim,g_NoRim,k_NoRim⟩:=hC.elim (kd1 B B.kd_Alike_NoRim) (kd1 B B.kd_Folded_NoRim)
 obtain ⟨G_NoCorners,g_NoCorners,k_NoCorners⟩:=hC.elim (kd1 B B.kd_Alike_NoCorners) (kd1 B B.kd_Folded_NoCorners)
 obtain ⟨G_NoBase,g_NoBase,k_NoBase⟩:=hC.elim (kd1 B B.kd_Alike_NoBase) (kd1 B B.kd_Folded_NoBase)
 obtain ⟨G_NoOrder,g_NoOrder,k_NoOrder⟩:=hC.elim (kd1 B B.kd_Alike_NoOrder) (kd1 B B.kd_Folded_NoOrder)
 obtain ⟨G_NoWoods,g_NoWoods,k_NoWoods⟩:=hC.elim (kd1 B B.kd_Alike_NoWoods) (kd1 B B.kd_Folded_NoWoods)
 obtain ⟨G_NoWeights,g_NoWeights,k_NoWeights⟩:=hC.elim (kd1 B B.kd_Alike_NoWeights) (kd1 B B.kd_Folded_NoWeights)
 obtain ⟨G_NoFace,g_NoFace,k_NoFace⟩:=hC.elim (kd1 B B.kd_Alike_NoFace) (kd1 B B.kd_Folded_NoFace)
 obtain ⟨G_Doubled,g_Doubled,k_Doubled⟩:=hC.elim (kd1 B B.kd_Alike_Doubled) (kd1 B B.kd_Folded_Doubled)
 obtain ⟨G_NoTie,g_NoTie,k_NoTie⟩:=hC.elim (kd1 B B.kd_Alike_NoTie) (kd1 B B.kd_Folded_NoTie)
 obtain ⟨G_Parted,g_Parted,k_Parted⟩:=hC.elim (kd1 B B.kd_Alike_Parted) (kd1 B B.kd_Folded_Parted)
 obtain ⟨b,⟨G_Alike,g_Alike,k_Alike⟩,G_Folded,g_Folded,k_Folded⟩ : ∃ b,(∃ G,mg "Alike" = some (.ref G)∧PySem.W.kitOne K (.ref C) (.ref G)=some b)∧∃ G,mg "Folded" = some (.ref G)∧PySem.W.kitOne K (.ref C) (.ref G)=some (!b) :=
  hC.elim (fun h=>⟨true,kd1 B B.kd_Alike_Alike h,kd1 B B.kd_Alike_Folded h⟩) (fun h=>⟨false,kd1 B B.kd_Folded_Alike h,kd1 B B.kd_Folded_Folded h⟩)
 have kVE:=hC.elim (kv1 B B.kv_Alike) (kv1 B B.kv_Folded)
 refine ⟨_,(pss_cons (pst 1 nN (pe_lst (pa_cons (pe_callB call_isiX rfl (B.z B.y3) PyProof.Rows.boot_isinstance (p2 (pv 0) (pe_glob (v:=.ref G_NoText) rfl g_NoText rfl))) (pa_cons (pe_callB call_isiX rfl (B.z B.y3) PyProof.Rows.boot_isinstance (p2 (pv 0) (pe_glob (v:=.ref G_NotFlat) rfl g_NotFlat rfl))) (pa_cons (pe_callB call_isiX rfl (B.z B.y3) PyProof.Rows.boot_isinstance (p2 (pv 0) (pe_glob (v:=.ref G_NotTied) rfl g_NotTied rfl))) (pa_cons (pe_callB call_isiX rfl (B.z B.y3) PyProof.Rows.boot_isinstance (p2 (pv 0) (pe_glob (v:=.ref G_NotCornered) rfl g_NotCornered rfl))) pa_nil))))))
   (pss_cons (pst 1 nN (pe_op op_cat (pv 1) (pe_lst (pa_cons (pe_callB call_isiX rfl (B.z B.y3) PyProof.Rows.boot_isinstance (p2 (pv 0) (pe_glob (v:=.ref G_NoRim) rfl g_NoRim rfl))) (pa_cons (pe_callB call_isiX rfl (B.z B.y3) PyProof.Rows.boot_isinstance (p2 (pv 0) (pe_glob (v:=.ref G_NoCorners) rfl g_NoCorners rfl))) (pa_cons (pe_callB call_isiX rfl (B.z B.y3) PyProof.Rows.boot_isinstance (p2 (pv 0) (pe_glob (v:=.ref G_NoBase) rfl g_NoBase rfl))) (pa_cons (pe_callB call_isiX rfl (B.z B.y3) PyProof.Rows.boot_isinstance (p2 (pv 0) (pe_glob (v:=.ref G_NoOrder) rfl g_NoOrder rfl))) pa_nil)))))))
   (pss_cons (pst 1 nN (pe_op op_cat (pv 1) (pe_lst (pa_cons (pe_callB call_isiX rfl (B.z B.y3) PyProof.Rows.boot_isinstance (p2 (pv 0) (pe_glob (v:=.ref G_NoWoods) rfl g_NoWoods rfl))) (pa_cons (pe_callB call_isiX rfl (B.z B.y3) PyProof.Rows.boot_isinstance (p2 (pv 0) (pe_glob (v:=.ref G_NoWeights) rfl g_NoWeights rfl))) (pa_cons (pe_callB call_isiX rfl (B.z B.y3) PyProof.Rows.boot_isinstance (p2 (pv 0) (pe_glob (v:=.ref G_NoFace) rfl g_NoFace rfl))) (pa_cons (pe_callB call_isiX rfl (B.z B.y3) PyProof.Rows.boot_isinstance (p2 (pv 0) (pe_glob (v:=.ref G_Doubled) rfl g_Doubled rfl))) pa_nil)))))))
   (pss_cons (pst 1 nN (pe_op op_cat (pv 1) (pe_lst (pa_cons (pe_callB call_isiX rfl (B.z B.y3) PyProof.Rows.boot_isinstance (p2 (pv 0) (pe_glob (v:=.ref G_NoTie) rfl g_NoTie rfl))) (pa_cons (pe_callB call_isiX rfl (B.z B.y3) PyProof.Rows.boot_isinstance (p2 (pv 0) (pe_glob (v:=.ref G_Parted) rfl g_Parted rfl))) (pa_cons (pe_callB call_isiX rfl (B.z B.y3) PyProof.Rows.boot_isinstance (p2 (pv 0) (pe_glob (v:=.ref G_Alike) rfl g_Alike rfl))) (pa_cons (pe_callB call_isiX rfl (B.z B.y3) PyProof.Rows.boot_isinstance (p2 (pv 0) (pe_glob (v:=.ref G_Folded) rfl g_Folded rfl))) pa_nil)))))))
   (pss_one (ps_ret (pe_and (pe_callB call_isiX rfl (B.z B.y3) PyProof.Rows.boot_isinstance (p2 (pv 0) (pe_bltn (v:=.ty "ValueError") rfl (B.z B.y14) boot_VE rfl))) (pe_one (pe_cmpR op_eq (m_list PySem.F.slot_list_count PySem.F.type_list_count mt_countB (pv 1) (p1 pe_bl)) pe_int (nomark _)))))))))),?_⟩
 try dsimp only [cxOf]
 have f4:∀ a b c d:V,[a,b,c,d].length≤sizeLine:=fun _ _ _ _=>(by decide:4≤sizeLine)
 refine ⟨_,rfl,a,C,dx,t1,_,_,_,rfl,rfl,(fun _ z=>z),xa,x0,k_NoText,_,rfl,a,C,dx,t1,_,_,_,rfl,rfl,(fun _ z=>z),xa,x0,k_NotFlat,_,rfl,a,C,dx,t1,_,_,_,rfl,rfl,(fun _ z=>z),xa,x0,k_NotTied,_,rfl,a,C,dx,t1,_,_,_,rfl,rfl,(fun _ z=>z),xa,x0,k_NotCornered,f4 _ _ _ _,fun l1 n1=>?_⟩
 have g1:=same_new n1 (.lst [V.bl false,V.bl false,V.bl false,V.bl false])
 have e1:=upd_same (H:=H) (a:=l1) (o:=.lst [V.bl false,V.bl false,V.bl false,V.bl false])
 generalize upd H l1 (.lst [V.bl false,V.bl false,V.bl false,V.bl false])=H1 at g1 e1 ⊢
 have xa1:=XAt_same xa g1
 refine ⟨_,rfl,_,rfl,a,C,dx,t1,_,_,_,rfl,rfl,(fun _ z=>z),xa1,x0,k_NoRim,_,rfl,a,C,dx,t1,_,_,_,rfl,rfl,(fun _ z=>z),xa1,x0,k_NoCorners,_,rfl,a,C,dx,t1,_,_,_,rfl,rfl,(fun _ z=>z),xa1,x0,k_NoBase,_,rfl,a,C,dx,t1,_,_,_,rfl,rfl,(fun _ z=>z),xa1,x0,k_NoOrder,f4 _ _ _ _,fun m1 o1=>?_⟩
 have h1:=same_new o1 (.lst [V.bl false,V.bl false,V.bl false,V.bl false])
 have d1:=upd_same (H:=H1) (a:=m1) (o:=.lst [V.bl false,V.bl false,V.bl false,V.bl false])
 refine ⟨l1,m1,[V.bl false,V.bl false,V.bl false,V.bl false],[V.bl false,V.bl false,V.bl false,V.bl false],rfl,rfl,h1 _ _ e1,d1,(by show 8≤sizeLine;decide),fun l2 n2=>?_⟩
 have g2:=g1.trans (h1.trans (same_new n2 (.lst ([V.bl false,V.bl false,V.bl false,V.bl false]++[V.bl false,V.bl false,V.bl false,V.bl false]))))
 have e2:(upd (upd H1 m1 (.lst [V.bl false,V.bl false,V.bl false,V.bl false])) l2 (.lst ([V.bl false,V.bl false,V.bl false,V.bl false]++[V.bl false,V.bl false,V.bl false,V.bl false]))) l2=some (.lst [V.bl false,V.bl false,V.bl false,V.bl false,V.bl false,V.bl false,V.bl false,V.bl false]):=upd_same
 clear h1 d1
 generalize upd (upd H1 m1 (.lst [V.bl false,V.bl false,V.bl false,V.bl false])) l2 (.lst ([V.bl false,V.bl false,V.bl false,V.bl false]++[V.bl false,V.bl false,V.bl false,V.bl false]))=H2 at g2 e2 ⊢
 have xa2:=XAt_same xa g2
 refine ⟨_,rfl,_,rfl,a,C,dx,t1,_,_,_,rfl,rfl,(fun _ z=>z),xa2,x0,k_NoWoods,_,rfl,a,C,dx,t1,_,_,_,rfl,rfl,(fun _ z=>z),xa2,x0,k_NoWeights,_,rfl,a,C,dx,t1,_,_,_,rfl,rfl,(fun _ z=>z),xa2,x0,k_NoFace,_,rfl,a,C,dx,t1,_,_,_,rfl,rfl,(fun _ z=>z),xa2,x0,k_Doubled,f4 _ _ _ _,fun m2 o2=>?_⟩
 have h2:=same_new o2 (.lst [V.bl false,V.bl false,V.bl false,V.bl false])
 have d2:=upd_same (H:=H2) (a:=m2) (o:=.lst [V.bl false,V.bl false,V.bl false,V.bl false])
 refine ⟨l2,m2,[V.bl false,V.bl false,V.bl false,V.bl false,V.bl false,V.bl false,V.bl false,V.bl false],[V.bl false,V.bl false,V.bl false,V.bl false],rfl,rfl,h2 _ _ e2,d2,(by show 12≤sizeLine;decide),fun l3 n3=>?_⟩
 have g3:=g2.trans (h2.trans (same_new n3 (.lst ([V.bl false,V.bl false,V.bl false,V.bl false,V.bl false,V.bl false,V.bl false,V.bl false]++[V.bl false,V.bl false,V.bl false,V.bl false]))))
 have e3:(upd (upd H2 m2 (.lst [V.bl false,V.bl false,V.bl false,V.bl false])) l3 (.lst ([V.bl false,V.bl false,V.bl false,V.bl false,V.bl false,V.bl false,V.bl false,V.bl false]++[V.bl false,V.bl false,V.bl false,V.bl false]))) l3=some (.lst [V.bl false,V.bl false,V.bl false,V.bl false,V.bl false,V.bl false,V.bl false,V.bl false,V.bl false,V.bl false,V.bl false,V.bl false]):=upd_same
 clear h2 d2
 generalize upd (upd H2 m2 (.lst [V.bl false,V.bl false,V.bl false,V.bl false])) l3 (.lst ([V.bl false,V.bl false,V.bl false,V.bl false,V.bl false,V.bl false,V.bl false,V.bl false]++[V.bl false,V.bl false,V.bl false,V.bl false]))=H3 at g3 e3 ⊢
 have xa3:=XAt_same xa g3
 refine ⟨_,rfl,_,rfl,a,C,dx,t1,_,_,_,rfl,rfl,(fun _ z=>z),xa3,x0,k_NoTie,_,rfl,a,C,dx,t1,_,_,_,rfl,rfl,(fun _ z=>z),xa3,x0,k_Parted,_,rfl,a,C,dx,t1,_,_,_,rfl,rfl,(fun _ z=>z),xa3,x0,k_Alike,_,rfl,a,C,dx,t1,_,_,_,rfl,rfl,(fun _ z=>z),xa3,x0,k_Folded,f4 _ _ _ _,fun m3 o3=>?_⟩
 have h3:=same_new o3 (.lst [V.bl false,V.bl false,V.bl b,V.bl !b])
 have d3:=upd_same (H:=H3) (a:=m3) (o:=.lst [V.bl false,V.bl false,V.bl b,V.bl !b])
 refine ⟨l3,m3,[V.bl false,V.bl false,V.bl false,V.bl false,V.bl false,V.bl false,V.bl false,V.bl false,V.bl false,V.bl false,V.bl false,V.bl false],[V.bl false,V.bl false,V.bl b,V.bl !b],rfl,rfl,h3 _ _ e3,d3,(by show 16≤sizeLine;decide),fun l4 n4=>?_⟩
 have g4:=g3.trans (h3.trans (same_new n4 (.lst ([V.bl false,V.bl false,V.bl false,V.bl false,V.bl false,V.bl false,V.bl false,V.bl false,V.bl false,V.bl false,V.bl false,V.bl false]++[V.bl false,V.bl false,V.bl b,V.bl !b]))))
 have e4:(upd (upd H3 m3 (.lst [V.bl false,V.bl false,V.bl b,V.bl !b])) l4 (.lst ([V.bl false,V.bl false,V.bl false,V.bl false,V.bl false,V.bl false,V.bl false,V.bl false,V.bl false,V.bl false,V.bl false,V.bl false]++[V.bl false,V.bl false,V.bl b,V.bl !b]))) l4=some (.lst [V.bl false,V.bl false,V.bl false,V.bl false,V.bl false,V.bl false,V.bl false,V.bl false,V.bl false,V.bl false,V.bl false,V.bl false,V.bl false,V.bl false,V.bl b,V.bl !b]):=upd_same
 clear h3 d3
 generalize upd (upd H3 m3 (.lst [V.bl false,V.bl false,V.bl b,V.bl !b])) l4 (.lst ([V.bl false,V.bl false,V.bl false,V.bl false,V.bl false,V.bl false,V.bl false,V.bl false,V.bl false,V.bl false,V.bl false,V.bl false]++[V.bl false,V.bl false,V.bl b,V.bl !b]))=H4 at g4 e4 ⊢
 have xa4:=XAt_same xa g4
 have eb:H4 l4=some (.lst (([false,false,false,false,false,false,false,false,false,false,false,false,false,false,b,!b]:List Bool).map V.bl)):=e4
 refine ⟨_,rfl,a,C,dx,t1,_,_,_,rfl,rfl,(fun _ z=>z),xa4,x0,kVE,_,rfl,?_⟩
 refine iteT ?_
 refine ⟨_,rfl,.inl ⟨rfl,_,SqL.of eb⟩,l4,[false,false,false,false,false,false,false,false,false,false,false,false,false,false,b,!b],rfl,rfl,eb,rfl,?_⟩
 have:=q _ g4
 cases b<;>exact this
--SPLIT
open Mth Sca Ang Dcl
inductive spAsked (vs:List V) (H:Hp) (Q:VK) (Y:XK):Prop
 | mk:∀ (tw td:Addr) (W:List (List Nat)) (Ps:List Pt),(vs=[.ref tw,.ref td])→(WAt H tw W)→(DAt H td Ps)→(WebOk W)→(DrawOk Ps)→(W.length=Ps.length)→(∀ (v:V) (H':Hp) (a:Ans),SameE H H'→IsAns Ps W a→AnsAt H' v a→Q v H')→spAsked vs H Q Y
/-- what is known of an exception that turned raises -/
inductive XE (H:Hp) (Ps:List Pt) (W:List (List Nat)) (cls:Value) (dx:Option Addr) (H':Hp):Prop
 | al:∀ (C d a:Addr) (p q:Nat),(cls=.ref C)→(dx=some d)→(mg "Alike" = some (.ref C))→(SameE H H')→(H' d=some (.xd [("places",.ref a)]))→(H' a=some (.tup [vn p,vn q]))→(Least Ps p q)→XE H Ps W cls dx H'
 | fo:∀ (C d:Addr) (p:Nat),(cls=.ref C)→(dx=some d)→(mg "Folded" = some (.ref C))→(SameE H H')→(H' d=some (.xd [("place",vn p)]))→(NoTwo Ps)→(FstFold Ps W p)→XE H Ps W cls dx H'
theorem tr2_at {H:Hp} {a C d T:Addr} {t1:Value} {fs:List (Str×V)} (xa:XAt H a C (some d) t1) (hd:H d=some (.xd fs)) (nT:H T=none):XAt (tr2 H a C (some d) T) a C (some d) (.ref T):=by
 refine ⟨upd_same,fun d' e=>?_⟩
 cases e
 exact ⟨fs,tr2_e xa.1 nT _ _ (by simp) hd⟩
theorem ok_law_asked (B:Fx):Hs "_law_asked" ["_law_web","_law_drawing"] 9 (spAsked):=by
 refine hs_of B.X B.d41 sc_law_asked fun f cdv A outer s H vs Q E nN hr h=>?_
 obtain ⟨fo_,od,FO,bo,ko,mo⟩:=ok_turnedX B
 obtain ⟨D,g_D,GD,ht⟩:=dx_of B.X B.xd
 obtain ⟨CA,D1,F1,fd1,g_Alike,gD1,m_A,f_A,b_A,veA,vdA,naA⟩:=al B
 obtain ⟨CF,D2,F2,fd2,g_Folded,gD2,m_F,f_F,b_F,veF,vdF,naF⟩:=fo B
 obtain rfl:D=D1:=by rw [g_D] at gD1;cases gD1;rfl
 obtain rfl:D=D2:=by rw [g_D] at gD2;cases gD2;rfl
 obtain ⟨tw,td,W,Ps,rfl,hw,hd,wo,dok,el,k⟩:=h
 refine ⟨_,(pss_cons (ps_try (i:=2) (E:=XE H Ps W) nN rfl rfl rfl g_D GD ht rfl rfl
   (fun pins E' hp=>(pss_one (ps_ret (pe_call FO (hr.mono (by decide)) rfl mo ko bo .nil hp (p2 (pv 0) (pv 1))))))
   (fun a=>(pss_cons (ps_if (PW.pt (pw_and (pt_val (pe_hasN (ok_law_is_just B) ((hr.n.mark _).mono (by decide)) rfl (p1 (pv 2)))) (pw_and1 (pt_val (pe_callB (show CallR _ _ (call_isiXY K) from call_isiX) rfl (B.z B.y3) PyProof.Rows.boot_isinstance (p2 (pv 2) (pe_glob (v:=.ref CA) rfl g_Alike rfl))))))) (pss_one (ps_ret (pe_tup (pa_cons pe_str (pa_cons (show PE _ _ (tXFld K _ _) from pe_xfld (pv 2) rfl) pa_nil))))) pss_nil)
    (pss_one (ps_if (PW.pt (pw_and (pt_val (pe_hasN (ok_law_is_just B) ((hr.n.mark _).mono (by decide)) rfl (p1 (pv 2)))) (pw_and (pt_val (pe_callB (show CallR _ _ (call_isiXY K) from call_isiX) rfl (B.z B.y3) PyProof.Rows.boot_isinstance (p2 (pv 2) (pe_glob (v:=.ref CF) rfl g_Folded rfl)))) (pw_and (pt_val (pe_callB (show CallR _ _ (Own.call_isiY K) from Own.call_isi) rfl (B.z B.y3) PyProof.Rows.boot_isinstance (pa_cons (show PE _ _ (tXFld K _ _) from pe_xfld (pv 2) rfl) (pa_cons (pe_bltn (v:=.ty "int") rfl (B.z B.y4) PyProof.Rows.boot_int rfl) pa_nil)))) (pw_and1 (pt_not (pt_val (pe_callB (show CallR _ _ (Own.call_isiY K) from Own.call_isi) rfl (B.z B.y3) PyProof.Rows.boot_isinstance (pa_cons (show PE _ _ (tXFld K _ _) from pe_xfld (pv 2) rfl) (pa_cons (pe_bltn (v:=.ty "bool") rfl (B.z B.y5) PyProof.Rows.boot_bool rfl) pa_nil)))))))))) (pss_one (ps_ret (pe_tup (pa_cons pe_str (pa_cons (show PE _ _ (tXFld K _ _) from pe_xfld (pv 2) rfl) pa_nil))))) pss_nil)))))
  (pss_one (ps_ret pe_non))),?_⟩
 refine ⟨⟨_,rfl,_,rfl,tw,td,W,Ps,rfl,hw,hd,wo,dok,el,fun t H' g no nf ht=>k _ H' (.ro (turnW Ps W)) (same_e g) ⟨no,nf,rfl⟩ ⟨t,rfl,ht⟩,fun C d a p q H' mC g hd ha lst=>.al C d a p q rfl rfl mC g hd ha lst,fun C d p H' mC g hd no ff=>.fo C d p rfl rfl mC g hd no ff⟩,fun σ' H' e C dx T hl hE xa hT=>?_⟩
 obtain ⟨w0,w1,w2,rfl⟩ : ∃ w0 w1 w2,σ'=[w0,w1,w2]:=by
  match σ',hl with
  | [w0,w1,w2],_=>exact ⟨_,_,_,rfl⟩
 cases hE with
 | al C' d a p q eC ed mC g hd ha lst =>
  cases eC
  cases ed
  obtain rfl:C=CA:=by rw [g_Alike] at mC;cases mC;rfl
  refine ⟨m_A.x0,vdA,fun T' nT na=>?_⟩
  have x1:=tr2_at xa hd nT
  have s1:=tr2_e xa.1 nT
  have hd1:=s1 _ _ (by simp) hd
  have ha1:=s1 _ _ (by simp) ha
  generalize tr2 H' e C (some d) T'=H1 at *
  obtain ⟨G,gA,kA⟩:=kd1 B B.kd_Alike_Alike mC
  obtain rfl:C=G:=by rw [mC] at gA;cases gA;rfl
  refine ⟨_,rfl,e,C,some d,_,rfl,x1,m_A.x0,.inl mC,fun H2 g2=>?_⟩
  have x2:=XAt_same x1 g2
  refine ⟨_,rfl,?_⟩
  refine iteT ?_
  refine ⟨_,rfl,e,C,some d,_,_,_,_,rfl,rfl,(fun _ z=>z),x2,m_A.x0,kA,_,rfl,?_⟩
  refine iteT ?_
  refine ⟨_,rfl,e,C,d,_,_,.ref a,rfl,x2.1,g2 _ _ hd1,m_A.x0,naA,rfl,(by show 2≤sizeLine;decide),fun t nt=>?_⟩
  have gt:=same_new nt (.tup [.str (Str.ofString "alike"),.ref a])
  exact k _ _ (.al p q) (g.trans (s1.trans (same_e (g2.trans gt)))) lst ⟨t,a,rfl,upd_same,gt _ _ (g2 _ _ ha1)⟩
 | fo C' d p eC ed mC g hd no ff =>
  cases eC
  cases ed
  obtain rfl:C=CF:=by rw [g_Folded] at mC;cases mC;rfl
  refine ⟨m_F.x0,vdF,fun T' nT na=>?_⟩
  have x1:=tr2_at xa hd nT
  have s1:=tr2_e xa.1 nT
  have hd1:=s1 _ _ (by simp) hd
  generalize tr2 H' e C (some d) T'=H1 at *
  obtain ⟨G,gA,kA⟩:=kd1 B B.kd_Folded_Alike mC
  obtain rfl:CA=G:=by rw [g_Alike] at gA;cases gA;rfl
  obtain ⟨G,gF,kF⟩:=kd1 B B.kd_Folded_Folded mC
  obtain rfl:C=G:=by rw [mC] at gF;cases gF;rfl
  refine ⟨_,rfl,e,C,some d,_,rfl,x1,m_F.x0,.inr mC,fun H2 g2=>?_⟩
  have x2:=XAt_same x1 g2
  refine ⟨_,rfl,?_⟩
  refine iteT ?_
  refine ⟨_,rfl,e,C,some d,_,_,_,_,rfl,rfl,(fun _ z=>z),x2,m_F.x0,kA,_,rfl,?_⟩
  refine iteF ?_
  refine ⟨_,rfl,e,C,some d,_,rfl,x2,m_F.x0,.inr mC,fun H3 g3=>?_⟩
  have x3:=XAt_same x2 g3
  have hd3:=g3 _ _ (g2 _ _ hd1)
  refine ⟨_,rfl,?_⟩
  refine iteT ?_
  refine ⟨_,rfl,e,C,some d,_,_,_,_,rfl,rfl,(fun _ z=>z),x3,m_F.x0,kF,_,rfl,?_⟩
  refine iteT ?_
  refine ⟨_,rfl,e,C,d,_,_,vn p,rfl,x3.1,hd3,m_F.x0,naF,rfl,_,_,_,_,rfl,.int _,rfl,_,rfl,?_⟩
  refine iteT ?_
  refine ⟨_,rfl,e,C,d,_,_,vn p,rfl,x3.1,hd3,m_F.x0,naF,rfl,_,_,_,_,rfl,.int _,rfl,_,rfl,?_⟩
  refine iteT ?_
  refine ⟨_,rfl,e,C,d,_,_,vn p,rfl,x3.1,hd3,m_F.x0,naF,rfl,(by show 2≤sizeLine;decide),fun t nt=>?_⟩
  have gt:=same_new nt (.tup [.str (Str.ofString "folded"),vn p])
  exact k _ _ (.fo p) (g.trans (s1.trans (same_e (g2.trans (g3.trans gt))))) ⟨no,ff⟩ ⟨t,rfl,upd_same⟩
--SPLIT
open Mth Sca Ang Dcl
theorem srtA_congr {A A':Nat→Nat→Bool}:∀ (n:Nat) (row:List Nat),row.length=n→(∀ q∈row,∀ r∈row,A q r=A' q r)→srtA A row=srtA A' row
 | 0,row,h,_=>by rw [List.length_eq_zero_iff.mp h];rfl
 | n+1,row,h,e=>by
  rcases List.eq_nil_or_concat row with rfl | ⟨r,q,rfl⟩
  ·simp at h
  rw [List.concat_eq_append] at h e ⊢
  have lr:r.length=n:=by rw [List.length_append] at h;simpa using h
  rw [srtA_snoc,srtA_snoc,srtA_congr n r lr fun a ha b hb=>e a (List.mem_append_left _ ha) b (List.mem_append_left _ hb)]
  unfold insA
  congr 1
  refine List.countP_congr fun x hx=>?_
  rw [e x (List.mem_append_left _ ((srtA_perm A' n r lr).mem_iff.mp hx)) q (List.mem_append_right _ (List.mem_singleton.mpr rfl))]
theorem rot_perm (row:List Nat) (M:Nat):(rot row M).Perm row:=by
 unfold rot
 have:=List.perm_append_comm (l₁:=row.drop (row.idxOf M)) (l₂:=row.take (row.idxOf M))
 rwa [List.take_append_drop] at this
theorem idxOf_app {A C:List Nat} {M:Nat} (h:M∈A):(A++C).idxOf M=A.idxOf M:=by
 rw [List.idxOf_append,if_pos h]
theorem rot_left {A C:List Nat} {M:Nat} (nd:(A++C).Nodup) (h:M∈A):rot (A++C) M=rot (C++A) M:=by
 have hl:=List.idxOf_lt_length_of_mem h
 have nC:M∉C:=fun z=>(List.nodup_append.mp nd).2.2 M h M z rfl
 have d:(C++A).drop (A.idxOf M+C.length)=A.drop (A.idxOf M):=by
  rw [List.drop_append,List.drop_of_length_le (show C.length≤A.idxOf M+C.length by omega),List.nil_append,Nat.add_sub_cancel]
 have t:(C++A).take (A.idxOf M+C.length)=C++A.take (A.idxOf M):=by
  rw [List.take_append,List.take_of_length_le (show C.length≤A.idxOf M+C.length by omega),Nat.add_sub_cancel]
 unfold rot
 rw [idxOf_app h,List.idxOf_append,if_neg nC,d,t,List.drop_append_of_le_length (Nat.le_of_lt hl),List.take_append_of_le_length (Nat.le_of_lt hl),List.append_assoc]
theorem rot_app {A C:List Nat} {M:Nat} (nd:(A++C).Nodup) (h:M∈A++C):rot (A++C) M=rot (C++A) M:=by
 rcases List.mem_append.mp h with h | h
 ·exact rot_left nd h
 ·exact (rot_left (List.perm_append_comm.nodup_iff.mp nd) h).symm
theorem rot_rev {row:List Nat} {M N:Nat} (nd:row.Nodup) (h:N∈row):rot (rot row M).reverse N=rot row.reverse N:=by
 have e:=List.take_append_drop (row.idxOf M) row
 have e2:row.reverse=(row.drop (row.idxOf M)).reverse++(row.take (row.idxOf M)).reverse:=by rw [←List.reverse_append,e]
 rw [e2]
 unfold rot
 rw [List.reverse_append]
 exact rot_app (A:=(row.take (row.idxOf M)).reverse) (C:=(row.drop (row.idxOf M)).reverse) (by rw [←List.reverse_append,(List.reverse_perm _).nodup_iff,List.perm_append_comm.nodup_iff,e];exact nd) (by rw [←List.reverse_append,List.mem_reverse,List.perm_append_comm.mem_iff,e];exact h)
theorem low_perm {S T:List Nat} (h:S.Perm T) (ne:S≠[]):low S=low T:=by
 obtain ⟨a,b⟩:=low_mem ne
 exact low_eq (h.mem_iff.mp a) fun i hi=>b i (h.mem_iff.mpr hi)
section
variable {u u':Nat→Vc} {row row':List Nat}
theorem rowT_perm (u:Nat→Vc) (row:List Nat):(rowT u row).Perm row:=(rot_perm _ _).trans srt_perm
theorem rw_perm (h:Rw_ u row) (p:row'.Perm row):Rw_ u row':=⟨p.nodup_iff.mpr h.nd,fun q hq=>h.nz q (p.mem_iff.mp hq)⟩
theorem fold_perm (h:Fold u row) (p:row.Perm row'):Fold u row':=by
 obtain ⟨q,hq,r,hr,x⟩:=h
 exact ⟨q,p.mem_iff.mp hq,r,p.mem_iff.mp hr,x⟩
theorem srt_of {S:List Nat} (h:Rw_ u row) (nf:¬ Fold u row) (p:S.Perm row) (t:InT (Au u) S):srtA (Au u) row=S:=by
 have T:=h.tot nf
 exact (InT.uniq (T.of_perm p) t (srtA_inT _ rfl T) (srt_perm.trans p.symm))
theorem rowT_eq (h:Rw_ u row) (nf:¬ Fold u row) (p:row'.Perm row):rowT u row'=rowT u row:=by
 have nf':¬ Fold u row':=fun f=>nf (fold_perm f p)
 have:=srt_of (rw_perm h p) nf' (srt_perm.trans p.symm) (srtA_inT _ rfl (h.tot nf))
 unfold rowT
 rw [this]
theorem rowT_congr (e:∀ q∈row,∀ r∈row,Au u q r=Au u' q r):rowT u row=rowT u' row:=by
 unfold rowT
 rw [srtA_congr _ row rfl e]
/-- in the mirror a row runs the other way -/
theorem rowT_mir (h:Rw_ u row) (nf:¬ Fold u row) (ne:row≠[]) (m:∀ q∈row,u' q=mir (u q)) (h':Rw_ u' row) (nf':¬ Fold u' row):rowT u' row=rot (rowT u row).reverse (low (rowT u row).reverse):=by
 have T:=h.tot nf
 have t:=srtA_inT _ rfl T
 have p:(srtA (Au u) row).Perm row:=srt_perm
 unfold rowT
 generalize srtA (Au u) row=S at *
 have nS:S≠[]:=fun z=>ne (by rw [z] at p;exact List.nil_perm.mp p)
 have split:∃ P0 N0,S=P0++N0∧(∀ q∈P0,up_ (u q)=true)∧∀ q∈N0,up_ (u q)=false:=by
  clear nS
  have hz:∀ q∈S,nz (u q):=fun q hq=>h.nz q (p.mem_iff.mp hq)
  clear p
  induction S with
  | nil=>exact ⟨[],[],rfl,(fun q z=>nomatch z),(fun q z=>nomatch z)⟩
  | cons x S ih =>
   obtain ⟨t1,t2⟩:=List.pairwise_cons.mp t
   obtain ⟨P0,N0,rfl,a,b⟩:=ih t2 fun q hq=>hz q (List.mem_cons_of_mem _ hq)
   cases c:up_ (u x) with
   | true=>exact ⟨x::P0,N0,rfl,fun q hq=>by
     rcases List.mem_cons.mp hq with rfl | hq
     ·exact c
     ·exact a q hq,b⟩
   | false =>
    have none:P0=[]:=by
     cases P0 with
     | nil=>rfl
     | cons y P1 =>
      have:=ahd_up (hz x List.mem_cons_self) (t1 y List.mem_cons_self) (a y List.mem_cons_self)
      rw [c] at this
      cases this
    subst none
    exact ⟨[],x::N0,rfl,(fun q z=>nomatch z),fun q hq=>by
     rcases List.mem_cons.mp hq with rfl | hq
     ·exact c
     ·exact b q hq⟩
 obtain ⟨P0,N0,rfl,a,b⟩:=split
 have mP:∀ {q},q∈P0→q∈row:=fun hq=>p.mem_iff.mp (List.mem_append_left _ hq)
 have mN:∀ {q},q∈N0→q∈row:=fun hq=>p.mem_iff.mp (List.mem_append_right _ hq)
 obtain ⟨tP,tN,_⟩:=List.pairwise_append.mp t
 have e:srtA (Au u') row=P0.reverse++N0.reverse:=by
  refine srt_of h' nf' (List.Perm.trans ((List.reverse_perm _).append (List.reverse_perm _)) p) ?_
  refine List.pairwise_append.mpr ⟨List.pairwise_reverse.mpr (tP.imp_of_mem fun {x y} hx hy z=>?_),List.pairwise_reverse.mpr (tN.imp_of_mem fun {x y} hx hy z=>?_),fun x hx y hy=>?_⟩
  ·show ahd (u' y) (u' x)=true
   rw [m x (mP hx),m y (mP hy)]
   exact ahd_mir (h.nz x (mP hx)) (h.nz y (mP hy)) (by rw [a x hx,a y hy]) z
  ·show ahd (u' y) (u' x)=true
   rw [m x (mN hx),m y (mN hy)]
   exact ahd_mir (h.nz x (mN hx)) (h.nz y (mN hy)) (by rw [b x hx,b y hy]) z
  ·have hx:=List.mem_reverse.mp hx
   have hy:=List.mem_reverse.mp hy
   show ahd (u' x) (u' y)=true
   rw [m x (mP hx),m y (mN hy)]
   exact ahd_mir2 (h.nz x (mP hx)) (h.nz y (mN hy)) (a x hx) (b y hy)
 rw [e]
 have nd:(P0++N0).Nodup:=p.nodup_iff.mpr h.nd
 have nd2:(P0.reverse++N0.reverse).Nodup:=by rw [((List.reverse_perm P0).append (List.reverse_perm N0)).nodup_iff];exact nd
 have pe:(P0.reverse++N0.reverse).Perm (P0++N0):=(List.reverse_perm P0).append (List.reverse_perm N0)
 have e1:low (P0.reverse++N0.reverse)=low (P0++N0):=low_perm pe fun z=>nS (by rw [z] at pe;exact List.nil_perm.mp pe)
 have pe2:(rot (P0++N0) (low (P0++N0))).reverse.Perm (P0++N0):=(List.reverse_perm _).trans (rot_perm _ _)
 have e2:low (rot (P0++N0) (low (P0++N0))).reverse=low (P0++N0):=low_perm pe2 fun z=>nS (by rw [z] at pe2;exact List.nil_perm.mp pe2)
 have lm:=(low_mem nS).1
 rw [e1,e2,rot_rev nd lm,List.reverse_append]
 exact rot_app nd2 (pe.mem_iff.mpr lm)
end
--SPLIT
open Mth Sca Ang Dcl
def PermW (W W':List (List Nat)):Prop:=W'.length=W.length∧∀ (i:Nat) (r:List Nat),W[i]?=some r→∃ r',W'[i]?=some r'∧r'.Perm r
section
variable {Ps Ps':List Pt} {W W':List (List Nat)}
theorem PermW.old (h:PermW W W') {i:Nat} {r':List Nat} (e:W'[i]?=some r'):∃ r,W[i]?=some r∧r'.Perm r:=by
 have hi:i<W.length:=h.1 ▸ (List.getElem?_eq_some_iff.mp e).1
 obtain ⟨x,e',p⟩:=h.2 i W[i] (List.getElem?_eq_getElem hi)
 rw [e] at e'
 cases e'
 exact ⟨_,List.getElem?_eq_getElem hi,p⟩
theorem PermW.ok (h:PermW W W') (w:WebOk W):WebOk W':=by
 refine ⟨h.1 ▸ w.len,fun p r' e=>?_⟩
 obtain ⟨r,e',m⟩:=h.old e
 obtain ⟨h1,h2,h3,h4⟩:=w.row p r e'
 exact ⟨m.nodup_iff.mpr h1,fun z=>h2 (by rw [z] at m;exact List.nil_perm.mp m),m.length_eq ▸ h3,fun q hq=>h.1 ▸ h4 q (m.mem_iff.mp hq)⟩
theorem PermW.symm (h:PermW W W'):PermW W' W:=⟨h.1.symm,fun i r e=>by
 obtain ⟨r',e',p⟩:=h.old e
 exact ⟨r',e',p.symm⟩⟩
theorem PermW.fold (h:PermW W W') {p:Nat} (f:FoldAt Ps W p):FoldAt Ps W' p:=by
 obtain ⟨r,e,f⟩:=f
 obtain ⟨r',e',m⟩:=h.2 p r e
 exact ⟨r',e',fold_perm f m.symm⟩
theorem perm_of_map (f:List Nat→List Nat) (h:∀ r∈W,(f r).Perm r):PermW W (W.map f):=⟨List.length_map _,fun i r e=>⟨f r,by rw [List.getElem?_map,e];rfl,h r (List.mem_of_getElem? e)⟩⟩
theorem turnW_perm:PermW W (turnW Ps W):=⟨List.length_mapIdx,fun i r e=>⟨_,by unfold turnW;rw [List.getElem?_mapIdx,e];rfl,rowT_perm _ _⟩⟩
theorem turnW_ext {f:Nat→List Nat→List Nat} {X:List (List Nat)} (l:X.length=W.length) (h:∀ (i:Nat) (r:List Nat),W[i]?=some r→X[i]?=some (rowT (dirs Ps i) r)):turnW Ps W=X:=by
 refine List.ext_getElem? fun i=>?_
 unfold turnW
 rw [List.getElem?_mapIdx]
 cases e:W[i]? with
 | some r=>rw [h i r e];rfl
 | none =>
  rw [List.getElem?_eq_none_iff] at e
  rw [Option.map_none,eq_comm,List.getElem?_eq_none_iff,l]
  exact e
theorem turnW_get {i:Nat} {r:List Nat} (e:W[i]?=some r):(turnW Ps W)[i]?=some (rowT (dirs Ps i) r):=by unfold turnW;rw [List.getElem?_mapIdx,e];rfl
/-- the answer does not ask how the rows are written -/
theorem ans_perm (h:PermW W W') (w:WebOk W) (d:DrawOk Ps) (el:W.length=Ps.length) {a:Ans} (k:IsAns Ps W a):IsAns Ps W' a:=by
 cases a with
 | al p q=>exact k
 | fo p=>exact ⟨k.1,h.fold k.2.1,fun q hq f=>k.2.2 q hq (h.symm.fold f)⟩
 | ro X =>
  obtain ⟨no,nf,rfl⟩:=k
  refine ⟨no,fun p f=>nf p (h.symm.fold f),?_⟩
  refine (turnW_ext (f:=fun _ r=>r) (by rw [turnW_perm.1,h.1]) fun i r' e'=>?_).symm
  obtain ⟨r,e,m⟩:=h.old e'
  have ro:=row_ok w d el no e
  rw [turnW_get e,rowT_eq ro.rw (fun f=>nf i ⟨r,e,f⟩) m]
/-- the signs tell the answer -/
theorem ans_signs (l:Ps'.length=Ps.length) (s:∀ p q r,p<Ps.length→q<Ps.length→r<Ps.length→sgn (dirs Ps' p q).1=sgn (dirs Ps p q).1∧sgn (dirs Ps' p q).2=sgn (dirs Ps p q).2∧sgn (cr (dirs Ps' p q) (dirs Ps' p r))=sgn (cr (dirs Ps p q) (dirs Ps p r)))
  (w:WebOk W) (d:DrawOk Ps) (el:W.length=Ps.length) {X:List (List Nat)} (k:IsAns Ps W (.ro X)):IsAns Ps' W (.ro X):=by
 obtain ⟨no,nf,rfl⟩:=k
 have eq:∀ (i:Nat) (r:List Nat),W[i]?=some r→∀ q∈r,∀ t∈r,Au (dirs Ps' i) q t=Au (dirs Ps i) q t∧alk (dirs Ps' i q) (dirs Ps' i t)=alk (dirs Ps i q) (dirs Ps i t):=fun i r e q hq t ht=>by
  have ro:=row_ok w d el no e
  have li:=(List.getElem?_eq_some_iff.mp e).1
  have h1:=s i q t (el ▸ li) (ro.lt q hq) (ro.lt t ht)
  have h2:=s i t q (el ▸ li) (ro.lt t ht) (ro.lt q hq)
  exact ahd_sgn h1.1 h1.2.1 h2.1 h2.2.1 h1.2.2
 refine ⟨fun p q P0 pq e1 e2=>?_,fun p f=>?_,(turnW_ext (f:=fun _ r=>r) turnW_perm.1 fun i r e=>?_).symm⟩
 ·have lq:=l ▸ (List.getElem?_eq_some_iff.mp e2).1
  have lp:p<Ps.length:=by omega
  have h:=s p q q lp lq lq
  have z:dirs Ps' p q=(0,0):=by
   unfold dirs
   rw [pt_of e1,pt_of e2]
   unfold uV
   rw [Int.sub_self,Int.zero_mul,Int.sub_self,Int.zero_mul]
  rw [z] at h
  have n:nz (dirs Ps p q):=by
   have eP:=pt_at lp
   have eQ:=pt_at lq
   refine uV_nz (d _ (List.mem_of_getElem? eP)).1 (d _ (List.mem_of_getElem? eQ)).1 fun z=>?_
   exact no p q _ pq eP (by rw [eQ,z])
  rcases nz_sgn n with k | k
  ·exact k h.1.symm
  ·exact k h.2.1.symm
 ·obtain ⟨r,e,q,hq,t,ht,ne,a⟩:=f
  rw [(eq p r e q hq t ht).2] at a
  exact nf p ⟨r,e,q,hq,t,ht,ne,a⟩
 ·rw [turnW_get e]
  congr 1
  exact (rowT_congr fun q hq t ht=>(eq i r e q hq t ht).1).symm
def mP (P0:Pt):Pt:=⟨-P0.n,P0.d,P0.m,P0.e⟩
theorem mP_inj {P0 R:Pt} (h:mP P0=mP R):P0=R:=by
 cases P0
 cases R
 unfold mP at h
 injection h with a b c d
 simp at a b c d
 simp_all
theorem pt_mP (i:Nat):pt (Ps.map mP) i=mP (pt Ps i):=by
 unfold pt
 rw [List.getD_eq_getElem?_getD,List.getD_eq_getElem?_getD,List.getElem?_map]
 cases Ps[i]? with
 | none=>rfl
 | some x=>rfl
theorem dirs_mP (p q:Nat):dirs (Ps.map mP) p q=mir (dirs Ps p q):=by
 unfold dirs
 rw [pt_mP,pt_mP]
 unfold uV mP mir
 dsimp only
 congr 1
 grind
theorem get_mP {i:Nat} {P0:Pt} (e:Ps[i]?=some P0):(Ps.map mP)[i]?=some (mP P0):=by rw [List.getElem?_map,e];rfl
theorem get_mP' {i:Nat} {R:Pt} (e:(Ps.map mP)[i]?=some R):∃ P0,Ps[i]?=some P0∧R=mP P0:=by
 rw [List.getElem?_map] at e
 obtain ⟨x,h,rfl⟩:=Option.map_eq_some_iff.mp e
 exact ⟨x,h,rfl⟩
theorem NoTwo.across (h:NoTwo Ps):NoTwo (Ps.map mP):=fun p q R pq e1 e2=>by
 obtain ⟨P0,a,rfl⟩:=get_mP' e1
 obtain ⟨R0,b,c⟩:=get_mP' e2
 cases mP_inj c
 exact h p q _ pq a b
theorem Least.across {p q:Nat} (h:Least Ps p q):Least (Ps.map mP) p q:=by
 obtain ⟨P0,a,b⟩:=h.same
 refine ⟨h.lt,⟨_,get_mP a,get_mP b⟩,fun p' q' R pq e1 e2=>?_⟩
 obtain ⟨P1,a,rfl⟩:=get_mP' e1
 obtain ⟨R1,b,c⟩:=get_mP' e2
 cases mP_inj c
 exact h.le p' q' _ pq a b
theorem DrawOk.across (d:DrawOk Ps):DrawOk (Ps.map mP):=fun R hR=>by
 obtain ⟨P0,h,rfl⟩:=List.mem_map.mp hR
 obtain ⟨⟨a1,a2,a3,a4⟩,b1,b2,b3,b4,b5,b6⟩:=d P0 h
 exact ⟨⟨a1,a2,by show Int.gcd (-P0.n) P0.d=1;unfold Int.gcd at a3 ⊢;rw [Int.natAbs_neg];exact a3,a4⟩,b1,b2,by show (-P0.n).natAbs<_;rw [Int.natAbs_neg];exact b3,b4,b5,b6⟩
theorem fold_across (w:WebOk W) (d:DrawOk Ps) (el:W.length=Ps.length) (no:NoTwo Ps) (p:Nat):FoldAt (Ps.map mP) W p↔FoldAt Ps W p:=by
 have go:∀ (r:List Nat),W[p]?=some r→∀ q∈r,∀ t∈r,alk (dirs (Ps.map mP) p q) (dirs (Ps.map mP) p t)=alk (dirs Ps p q) (dirs Ps p t):=fun r e q hq t ht=>by
  have ro:=row_ok w d el no e
  rw [dirs_mP,dirs_mP]
  exact alk_mir (ro.rw.nz q hq) (ro.rw.nz t ht)
 constructor
 ·rintro ⟨r,e,q,hq,t,ht,ne,a⟩
  exact ⟨r,e,q,hq,t,ht,ne,by rw [←go r e q hq t ht];exact a⟩
 ·rintro ⟨r,e,q,hq,t,ht,ne,a⟩
  exact ⟨r,e,q,hq,t,ht,ne,by rw [go r e q hq t ht];exact a⟩
def mirA:Ans→Ans
 | .ro X=>.ro (X.map fun r=>rot r.reverse (low r.reverse))
 | a=>a
theorem ans_across (w:WebOk W) (d:DrawOk Ps) (el:W.length=Ps.length) {a:Ans} (k:IsAns Ps W a):IsAns (Ps.map mP) W (mirA a):=by
 cases a with
 | al p q=>exact Least.across k
 | fo p=>exact ⟨k.1.across,(fold_across w d el k.1 p).mpr k.2.1,fun q hq f=>k.2.2 q hq ((fold_across w d el k.1 q).mp f)⟩
 | ro X =>
  obtain ⟨no,nf,rfl⟩:=k
  refine ⟨no.across,fun p f=>nf p ((fold_across w d el no p).mp f),?_⟩
  refine (turnW_ext (f:=fun _ r=>r) (by rw [List.length_map,turnW_perm.1]) fun i r e=>?_).symm
  have ro:=row_ok w d el no e
  have ro':=row_ok w d.across (by rw [List.length_map];exact el) no.across e
  rw [List.getElem?_map,turnW_get e,Option.map_some]
  congr 1
  exact (rowT_mir ro.rw (fun f=>nf i ⟨r,e,f⟩) ro.ne (fun q _=>dirs_mP i q) ro'.rw fun f=>nf i ((fold_across w d el no i).mp ⟨r,e,f⟩)).symm
end
--SPLIT
open Mth Sca Ang Dcl
/-- moved by (3, -5/2) -/
def Mv1 (P0 P':Pt):Prop:=Fr (P0.n*1+3*P0.d) (P0.d*1) P'.n P'.d∧Fr (P0.m*2 + -5*P0.e) (P0.e*2) P'.m P'.e
inductive spMoved (vs:List V) (H:Hp) (Q:VK) (Y:XK):Prop
 | mk:∀ (td:Addr) (Ps:List Pt),(vs=[.ref td])→(DAt H td Ps)→(DrawL Ps)→(Ps.length≤900)→(∀ (t:Addr) (Ps':List Pt) (H':Hp),Same H H'→DAt H' t Ps'→Ps'.length=Ps.length→(∀ (i:Nat) (P0 P':Pt),Ps[i]?=some P0→Ps'[i]?=some P'→Mv1 P0 P')→Q (.ref t) H')→spMoved vs H Q Y
theorem ok_law_moved (B:Fx):Hs "_law_moved" ["_law_drawing"] 3 (spMoved):=by
 refine hs_of B.X B.d42 sc_law_moved fun f cdv A outer s H vs Q E nN hr h=>?_
 obtain ⟨td,Ps,rfl,⟨ps,hd0,hP⟩,dl,l9,k⟩:=h
 refine ⟨_,(pss_one (ps_ret (pe_callTy call_tuple_of rfl (B.z B.y0) PyProof.Rows.boot_tuple (p1 (pe_lc1x (Nc:=["_law_x","_law_y"]) (js:=[none,none]) rfl rfl (pi_tup (pv 0)) (CS.of rfl rfl) rfl (fun C s₂ H₂ fp pins=>(show PG _ _ (gTup K 2 _) from pg_tup rfl (pgs_cons (pgc 0) (pgs_cons (pgc 1) pgs_nil)))) (fun C s₂ H₂ fp pins D L=>(pt_tail0 (pb_app (pe_tup (p2 (pf (ok_law_plus B) hr (pa_cons (pv 0) (pa_cons (pe_tup (p2 pe_int pe_int)) pa_nil))) (pf (ok_law_plus B) hr (pa_cons (pv 1) (pa_cons (pe_tup (p2 (pe_un un_neg pe_int) pe_int)) pa_nil))))))))))))),?_⟩
 try dsimp only [cxOf]
 refine ⟨_,rfl,td,rfl,⟨_,SqT.of hd0⟩,fun D2 n2=>?_⟩
 refine walk_tup (xs:=ps.map V.ref) (fun i σ H3=>∃ (x0 x1:Option V) (us:List Addr) (Ps':List Pt),σ=[x0,x1]∧Same H H3∧H3 D2=some (.lst (us.map V.ref))∧AllAt PtAt H3 us Ps'∧Ps'.length=i∧∀ (i:Nat) (P0 P':Pt),Ps[i]?=some P0→Ps'[i]?=some P'→Mv1 P0 P') ⟨none,none,[],[],rfl,same_new n2 _,upd_same,AllAt.nil,rfl,fun i P0 P' _ e=>by simp at e⟩ ?_ ?_ ?_
 ·rintro i σ H3 _ ⟨x0,x1,us,Ps',rfl,g3,_⟩
  exact SqT.of (g3 _ _ hd0)
 ·rintro i v σ H3 hx ⟨x0,x1,us,Ps',rfl,g3,hL3,hu,le,mv⟩
  rw [List.getElem?_map] at hx
  obtain ⟨p,ep,rfl⟩:=Option.map_eq_some_iff.mp hx
  obtain ⟨P0,eP,x,y,h1,h2,h3⟩:=hP.get ep
  obtain ⟨_,o1,o2,o3,o4,o5,o6⟩:=dl _ (List.mem_of_getElem? eP)
  have w4:∀ {i:Int},i.natAbs<2 ^ 206→i.natAbs<2 ^ 4000:=fun h=>Mth.up h (by decide)
  refine ⟨p,_,rfl,SqT.of (g3 _ _ h1),rfl,_,_,rfl,_,_,rfl,rfl,?_⟩
  refine ⟨_,rfl,(by show 2≤sizeLine;decide),fun z1 m1=>?_⟩
  have gz:=same_new m1 (.tup [V.int 3,V.int 1])
  refine ⟨x,z1,_,_,_,_,rfl,gz _ _ (g3 _ _ h2),upd_same,⟨w4 o3,w4 o4,w4 (by decide),w4 (by decide)⟩,mul_ne (pos_ne o1) (by decide),fun n1 d1 a1 H4 F1 g4 e1=>?_⟩
  refine ⟨_,rfl,_,rfl,(by show 2≤sizeLine;decide),fun z2 m2=>?_⟩
  have gz2:=same_new m2 (.tup [V.int (-5),V.int 2])
  have g34:=(g3.trans (gz.trans g4)).trans gz2
  refine ⟨y,z2,_,_,_,_,rfl,g34 _ _ h3,upd_same,⟨w4 o5,w4 o6,w4 (by decide),w4 (by decide)⟩,mul_ne (pos_ne o2) (by decide),fun n3 d3 a3 H5 F3 g5 e3=>?_⟩
  refine ⟨(by show 2≤sizeLine;decide),fun a m3=>?_⟩
  have g6:=same_new m3 (.tup [.ref a1,.ref a3])
  have g36:=(gz.trans g4).trans (gz2.trans (g5.trans g6))
  have hL6:=g36 _ _ hL3
  have lu:=hu.1
  have li:=(List.getElem?_eq_some_iff.mp eP).1
  have hu6:=hu.imp (R':=PtAt) (H':=upd H5 a (.tup [.ref a1,.ref a3])) fun p x z=>z.kept g36
  have new:PtAt (upd H5 a (.tup [.ref a1,.ref a3])) a ⟨n1,d1,n3,d3⟩:=⟨a1,a3,upd_same,g6 _ _ (g5 _ _ (gz2 _ _ e1)),g6 _ _ e3⟩
  refine ⟨_,hL6,small1000 (by rw [List.length_map];omega),?_⟩
  refine ⟨_,_,us++[a],Ps'++[⟨n1,d1,n3,d3⟩],rfl,same_at n2 (g3.trans g36),by rw [upd_same,List.map_append];rfl,?_,by rw [List.length_append,le];rfl,fun j P1 P' j1 j2=>?_⟩
  ·exact AllAt.snoc ⟨hu6.1,fun j p x e1 e2=>(hu6.2 j p x e1 e2).upd hL6⟩ (new.upd hL6)
  ·rcases Nat.lt_trichotomy j Ps'.length with l | l | l
   ·rw [List.getElem?_append_left l] at j2
    exact mv j P1 P' j1 j2
   ·rw [l,List.getElem?_append_right (Nat.le_refl _),Nat.sub_self] at j2
    cases j2
    rw [l,le,eP] at j1
    cases j1
    exact ⟨F1,F3⟩
   ·have:=(List.getElem?_eq_some_iff.mp j2).1
    rw [List.length_append,List.length_singleton] at this
    omega
 ·rintro σ H3 ⟨x0,x1,us,Ps',rfl,g3,hL3,hu,le,mv⟩
  refine ⟨D2,_,rfl,.inl ⟨SqL.of hL3,fun t nt=>?_⟩⟩
  have gt:=same_new nt (.tup (us.map V.ref))
  exact k t Ps' _ (g3.trans gt) ⟨us,upd_same,hu.imp fun p x z=>z.kept gt⟩ (by rw [le,List.length_map,hP.1]) mv
section
variable {Ps Ps':List Pt}
theorem mv_sgn {P0 P' R R':Pt} (zP:0<P0.d∧0<P0.e) (zR:0<R.d∧0<R.e) (mP:Mv1 P0 P') (mR:Mv1 R R'):sgn (uV P' R').1=sgn (uV P0 R).1∧sgn (uV P' R').2=sgn (uV P0 R).2:=by
 have a1:=mP.1.pos
 have a2:=mP.2.pos
 have b1:=mR.1.pos
 have b2:=mR.2.pos
 have e1:=mP.1.eq
 have e2:=mP.2.eq
 have f1:=mR.1.eq
 have f2:=mR.2.eq
 have key:∀ {n d n' d' m e m' e' c k:Int},0<d→0<d'→0<e→0<e'→0<k→n'*(d*k)=(n*k+c*d)*d'→m'*(e*k)=(m*k+c*e)*e'→sgn (m'*d'-n'*e')=sgn (m*d-n*e):=fun {n d n' d' m e m' e' c k} d0 d1 e0 e1 k0 x y=>by
  rw [←sgn_mul_pos (x:=m'*d'-n'*e') (Int.mul_pos (Int.mul_pos d0 e0) k0),←sgn_mul_pos (x:=m*d-n*e) (Int.mul_pos (Int.mul_pos d1 e1) k0)]
  congr 1
  have:(m'*d'-n'*e')*(d*e*k)=(m'*(e*k))*(d'*d)-(n'*(d*k))*(e'*e):=by grind
  rw [this,x,y]
  grind
 refine ⟨?_,?_⟩
 ·show sgn ((R'.n*P'.d-P'.n*R'.d)*(P'.e*R'.e))=sgn ((R.n*P0.d-P0.n*R.d)*(P0.e*R.e))
  rw [sgn_mul_pos (Int.mul_pos a2 b2),sgn_mul_pos (Int.mul_pos zP.2 zR.2)]
  exact key zP.1 a1 zR.1 b1 (by decide:(0:Int)<1) e1 f1
 ·show sgn ((R'.m*P'.e-P'.m*R'.e)*(P'.d*R'.d))=sgn ((R.m*P0.e-P0.m*R.e)*(P0.d*R.d))
  rw [sgn_mul_pos (Int.mul_pos a1 b1),sgn_mul_pos (Int.mul_pos zP.1 zR.1)]
  exact key zP.2 a2 zR.2 b2 (by decide:(0:Int)<2) e2 f2
theorem mv_mv {P0 P':Pt} (h:Mv1 P0 P'):Mv ⟨3,1,-5,2⟩ 1 1 P0 P':=by
 have e1:=h.1.eq
 have e2:=h.2.eq
 exact ⟨by show P'.n*(P0.d*1*1)=(P0.n*1*1+3*(P0.d*1))*P'.d;grind,by show P'.m*(P0.e*1*2)=(P0.m*1*2 + -5*(P0.e*1))*P'.e;grind⟩
theorem moved_ok (l:Ps'.length=Ps.length) (m:∀ (i:Nat) (P0 P':Pt),Ps[i]?=some P0→Ps'[i]?=some P'→Mv1 P0 P') (d:DrawL Ps):DrawOk Ps':=fun P' h=>by
 obtain ⟨i,e⟩:=List.mem_iff_getElem?.mp h
 have li:i<Ps.length:=l ▸ (List.getElem?_eq_some_iff.mp e).1
 have eP:=List.getElem?_eq_getElem li
 generalize Ps[i]=P0 at *
 obtain ⟨f1,f2⟩:=m i P0 P' eP e
 obtain ⟨_,o1,o2,o3,o4,o5,o6⟩:=d _ (List.mem_of_getElem? eP)
 refine ⟨⟨f1.pos,f2.pos,f1.co,f2.co⟩,f1.pos,f2.pos,?_,?_,?_,?_⟩
 ·exact Mth.up (Nat.lt_of_le_of_lt f1.ln (show (P0.n*1+3*P0.d).natAbs<2 ^ 210 by omega)) (by decide)
 ·exact Mth.up (Nat.lt_of_le_of_lt f1.ld (show (P0.d*1).natAbs<2 ^ 210 by omega)) (by decide)
 ·exact Mth.up (Nat.lt_of_le_of_lt f2.ln (show (P0.m*2 + -5*P0.e).natAbs<2 ^ 210 by omega)) (by decide)
 ·exact Mth.up (Nat.lt_of_le_of_lt f2.ld (show (P0.e*2).natAbs<2 ^ 210 by omega)) (by decide)
theorem moved_signs (l:Ps'.length=Ps.length) (m:∀ (i:Nat) (P0 P':Pt),Ps[i]?=some P0→Ps'[i]?=some P'→Mv1 P0 P') (d:DrawL Ps):∀ p q r,p<Ps.length→q<Ps.length→r<Ps.length→sgn (dirs Ps' p q).1=sgn (dirs Ps p q).1∧sgn (dirs Ps' p q).2=sgn (dirs Ps p q).2∧sgn (cr (dirs Ps' p q) (dirs Ps' p r))=sgn (cr (dirs Ps p q) (dirs Ps p r)):=fun p q r hp hq hr=>by
 have z:∀ {i},i<Ps.length→(0<(pt Ps i).d∧0<(pt Ps i).e)∧(0<(pt Ps' i).d∧0<(pt Ps' i).e)∧Mv1 (pt Ps i) (pt Ps' i):=fun {i} h=>by
  have e:=pt_at h
  have e':=pt_at (Ps:=Ps') (i:=i) (by omega)
  have k:=m i _ _ e e'
  have w:=d _ (List.mem_of_getElem? e)
  exact ⟨⟨w.2.1,w.2.2.1⟩,⟨k.1.pos,k.2.pos⟩,k⟩
 obtain ⟨a1,a2,a3⟩:=z hp
 obtain ⟨b1,b2,b3⟩:=z hq
 obtain ⟨c1,c2,c3⟩:=z hr
 obtain ⟨s1,s2⟩:=mv_sgn a1 b1 a3 b3
 refine ⟨s1,s2,?_⟩
 unfold dirs
 rw [cr_uV,cr_uV,lawsgn' a2,lawsgn' a1]
 exact moved_sgn (by decide) (by decide) (by decide) (by decide) (mv_mv a3) (mv_mv b3) (mv_mv c3) a1 b1 c1 a2 b2 c2
end
--SPLIT
open Mth Sca Ang Dcl
def rowQ (row:List Nat):PyData:=.tuple (row.map fun n:Nat=>PyData.int (n:Int))
def webD (W:List (List Nat)):PyData:=.tuple (W.map rowQ)
theorem ints_lay (l:List Nat):PyData.canLayAll0 (l.map fun n:Nat=>PyData.int (n:Int))=true∧PyData.depthAll (l.map fun n:Nat=>PyData.int (n:Int))=0:=by
 induction l with
 | nil=>exact ⟨rfl,rfl⟩
 | cons x l ih=>simp [PyData.canLayAll0,PyData.canLay0,PyData.depthAll,PyData.depth,ih.1,ih.2]
theorem rowQ_lay (row:List Nat):PyData.canLay0 (rowQ row)=true∧PyData.depth (rowQ row)≤1:=by
 obtain ⟨h1,h2⟩:=ints_lay row
 unfold rowQ
 simp [PyData.canLay0,PyData.depth,h1,h2]
theorem webD_lay (W:List (List Nat)):PyData.canLayAll0 (W.map rowQ)=true∧PyData.depthAll (W.map rowQ)≤1:=by
 induction W with
 | nil=>exact ⟨rfl,by decide⟩
 | cons x l ih =>
  obtain ⟨h1,h2⟩:=rowQ_lay x
  simp only [List.map_cons,PyData.canLayAll0,PyData.depthAll,h1,ih.1]
  have:=ih.2
  refine ⟨rfl,?_⟩
  omega
theorem webD_ok (W:List (List Nat)):SeqAt.shaped (webD W)=true:=by
 obtain ⟨h1,h2⟩:=webD_lay W
 unfold webD SeqAt.shaped
 simp only [PyData.canLay0,PyData.depth,h1]
 first | (simp;omega) | (rw [Bool.and_eq_true];exact ⟨rfl,decide_eq_true (by omega)⟩) | simp_all
theorem ints_eqv (l:List Nat):PyData.eqvAll (l.map fun n:Nat=>PyData.int (n:Int)) (l.map fun n:Nat=>PyData.int (n:Int))=true:=by
 induction l with
 | nil=>rfl
 | cons x l ih=>simp [PyData.eqvAll,PyData.eqv,ih]
theorem rows_eqv (W:List (List Nat)):PyData.eqvAll (W.map rowQ) (W.map rowQ)=true:=by
 induction W with
 | nil=>rfl
 | cons x l ih=>simp [PyData.eqvAll,PyData.eqv,ih,rowQ,ints_eqv]
theorem webD_eqv (W:List (List Nat)):PyData.eqv (webD W) (webD W)=true:=by
 unfold webD
 simp [PyData.eqv,rows_eqv]
theorem dt_ints {K:PySem.W.Frag} {H:Hp} (row:List Nat):DtAll K H (row.map fun n:Nat=>PyData.int (n:Int)) (row.map vn):=by
 induction row with
 | nil=>unfold DtAll;rfl
 | cons x r ih =>
  rw [List.map_cons,List.map_cons]
  unfold DtAll
  exact ⟨_,_,rfl,(by unfold Dt;rfl),ih⟩
theorem dt_rowsT {K:PySem.W.Frag} {H:Hp}:∀ {ts:List Addr} {W:List (List Nat)},ts.length=W.length→(∀ (j:Nat) (a:Addr) (row:List Nat),ts[j]?=some a→W[j]?=some row→H a=some (.tup (row.map vn)))→DtAll K H (W.map rowQ) (ts.map V.ref)
 | [],[],_,_=>by unfold DtAll;rfl
 | s::ss,t::T,hl,h=>by
  rw [List.map_cons,List.map_cons]
  unfold DtAll
  refine ⟨_,_,rfl,?_,dt_rowsT (by simpa using hl) fun i b u e1 e2=>h (i+1) b u (by simpa using e1) (by simpa using e2)⟩
  unfold rowQ Dt
  exact ⟨s,_,rfl,SqT.of (h 0 s t rfl rfl),dt_ints t⟩
 | [],_::_,hl,_=>by simp at hl
 | _::_,[],hl,_=>by simp at hl
theorem WAt.dt {K:PySem.W.Frag} {H:Hp} {t:Addr} {W:List (List Nat)} (h:WAt H t W):Dt K H (webD W) (.ref t):=by
 obtain ⟨ts,h1,h2,h3⟩:=h
 unfold webD Dt
 exact ⟨t,_,rfl,SqT.of h1,dt_rowsT h2 h3⟩
theorem nil_dt {K:PySem.W.Frag} {H:Hp} {a:Addr} (h:H a=some (.lst [])):Dt K H (.list []) (.ref a):=by
 unfold Dt
 exact ⟨a,_,rfl,SqL.of h,by unfold DtAll;rfl⟩
theorem dt_two {K:PySem.W.Frag} {H:Hp} {z:Addr} {x y:V} {d e:PyData} (h:H z=some (.tup [x,y])) (h1:Dt K H d x) (h2:Dt K H e y):Dt K H (.tuple [d,e]) (.ref z):=by
 unfold Dt
 refine ⟨z,_,rfl,SqT.of h,?_⟩
 unfold DtAll
 refine ⟨_,_,rfl,h1,?_⟩
 unfold DtAll
 refine ⟨_,_,rfl,h2,?_⟩
 unfold DtAll
 rfl
theorem dt_str {K:PySem.W.Frag} {H:Hp} (x:Str):Dt K H (.str x) (.str x):=by unfold Dt;rfl
theorem dt_int {K:PySem.W.Frag} {H:Hp} (i:Int):Dt K H (.int i) (.int i):=by unfold Dt;rfl
def ansD:Ans→PyData
 | .al p q=>.tuple [.str (Str.ofString "alike"),.tuple [.int (p:Int),.int (q:Int)]]
 | .fo p=>.tuple [.str (Str.ofString "folded"),.int (p:Int)]
 | .ro W=>webD W
theorem AnsAt.dt {K:PySem.W.Frag} {H:Hp} {v:V} {a:Ans} (h:AnsAt H v a):Dt K H (ansD a) v:=by
 cases a with
 | al p q =>
  obtain ⟨t,b,rfl,h1,h2⟩:=h
  exact dt_two h1 (dt_str _) (dt_two h2 (dt_int _) (dt_int _))
 | fo p =>
  obtain ⟨t,rfl,h1⟩:=h
  exact dt_two h1 (dt_str _) (dt_int _)
 | ro W =>
  obtain ⟨t,rfl,h⟩:=h
  exact h.dt
theorem ansD_ok (a:Ans):SeqAt.shaped (ansD a)=true:=by
 cases a with
 | ro W=>exact webD_ok W
 | al p q=>simp [ansD,SeqAt.shaped,PyData.canLay0,PyData.canLayAll0,PyData.depth,PyData.depthAll];decide +kernel
 | fo p=>simp [ansD,SeqAt.shaped,PyData.canLay0,PyData.canLayAll0,PyData.depth,PyData.depthAll];decide +kernel
theorem ansD_eqv (a:Ans):PyData.eqv (ansD a) (ansD a)=true:=by
 cases a with
 | ro W=>exact webD_eqv W
 | al p q=>simp [ansD,PyData.eqv,PyData.eqvAll]
 | fo p=>simp [ansD,PyData.eqv,PyData.eqvAll]
theorem AnsAt.keptE {H H':Hp} {v:V} {a:Ans} (h:AnsAt H v a) (g:SameE H H'):AnsAt H' v a:=by
 cases a with
 | al p q =>
  obtain ⟨t,b,e,h1,h2⟩:=h
  exact ⟨t,b,e,g _ _ (by simp) h1,g _ _ (by simp) h2⟩
 | fo p =>
  obtain ⟨t,e,h1⟩:=h
  exact ⟨t,e,g _ _ (by simp) h1⟩
 | ro W =>
  obtain ⟨t,e,h⟩:=h
  exact ⟨t,e,h.keptE g⟩
/-- what an answer is made of: no lists -/
theorem AnsAt.items {K:PySem.W.Frag} {H:Hp} {v:V} {a:Ans} (h:AnsAt H v a):∃ t xs,v=.ref t∧H t=some (.tup xs)∧∀ x∈xs,∀ H',SameE H H'→∃ ty,TyOf K H' x ty∧PySem.W.kitOne K ty (.type "list")=some false:=by
 cases a with
 | al p q =>
  obtain ⟨t,b,e,h1,h2⟩:=h
  refine ⟨t,_,e,h1,fun x hx H' g=>?_⟩
  rcases List.mem_cons.mp hx with rfl | hx
  ·exact ⟨_,.str _,rfl⟩
  ·cases List.mem_singleton.mp hx
   exact ⟨_,.tup (g _ _ (by simp) h2),rfl⟩
 | fo p =>
  obtain ⟨t,e,h1⟩:=h
  refine ⟨t,_,e,h1,fun x hx H' g=>?_⟩
  rcases List.mem_cons.mp hx with rfl | hx
  ·exact ⟨_,.str _,rfl⟩
  ·cases List.mem_singleton.mp hx
   exact ⟨_,.int _,rfl⟩
 | ro W =>
  obtain ⟨t,e,ts,h1,h2⟩:=h
  refine ⟨t,_,e,h1,fun x hx H' g=>?_⟩
  obtain ⟨b,hb,rfl⟩:=List.mem_map.mp hx
  obtain ⟨i,hi⟩:=List.mem_iff_getElem?.mp hb
  obtain ⟨row,_,hr⟩:=h2.get hi
  exact ⟨_,.tup (g _ _ (by simp) hr),rfl⟩
theorem rev_low (X:List (List Nat)):((X.map List.reverse).map fun r=>rot r (low r))=X.map fun r=>rot r.reverse (low r.reverse):=by rw [List.map_map];rfl
theorem seqE {K:PySem.W.Frag} {H H':Hp} {a:Addr} {xs:List V} (e:SameE H H') (h:SqL K H a xs):SqL K H' a xs:=by
 rcases h with (h | ⟨o,h⟩) | h
 ·exact .inl (.inl (e _ _ (fun φ z=>nomatch z) h))
 ·exact .inl (.inr ⟨o,e _ _ (fun φ z=>nomatch z) h⟩)
 ·exact .inr h
def isMsg:Ans→Bool
 | .ro _=>false
 | _=>true
theorem AnsAt.first {K:PySem.W.Frag} {H:Hp} {v:V} {a:Ans} (h:AnsAt H v a) (ne:∀ X,a=.ro X→X≠[]):∃ t x xs d,v=.ref t∧H t=some (.tup (x::xs))∧(∀ H',Same H H'→Dt K H' d x)∧SeqAt.shaped d=true∧([.str (Str.ofString "alike"),.str (Str.ofString "folded")]:List PyData).any (fun e=>PyData.eqv e d)=isMsg a:=by
 cases a with
 | al p q =>
  obtain ⟨t,b,e,h1,h2⟩:=h
  exact ⟨t,_,_,_,e,h1,fun H' _=>dt_str _,by decide +kernel,show _=true by decide +kernel⟩
 | fo p =>
  obtain ⟨t,e,h1⟩:=h
  exact ⟨t,_,_,_,e,h1,fun H' _=>dt_str _,by decide +kernel,show _=true by decide +kernel⟩
 | ro X =>
  obtain ⟨t,e,ts,h1,h2⟩:=h
  obtain ⟨r,X',rfl⟩:=List.exists_cons_of_ne_nil (ne X rfl)
  cases ts with
  | nil=>have:=h2.1;simp at this
  | cons b ts =>
   have hb:H b=some (.tup (r.map vn)):=h2.2 0 b r rfl rfl
   refine ⟨t,_,_,rowQ r,e,h1,fun H' g=>?_,?_,?_⟩
   ·unfold rowQ Dt
    exact ⟨b,_,rfl,SqT.of (g _ _ hb),dt_ints r⟩
   ·have:=(rowQ_lay r).1
    have:=(rowQ_lay r).2
    unfold SeqAt.shaped
    simp_all
    omega
   ·simp [rowQ,PyData.eqv,isMsg]
theorem fr_same {n d n' d':Int} (fr:Fr n d n' d') (d0:0<d) (g:Int.gcd n d=1):n'=n∧d'=d:=by
 have p:=fr.pos
 have l:=fr.ld
 have h:d.natAbs ∣ d'.natAbs:=by
  have c:Nat.Coprime d.natAbs n.natAbs:=Nat.Coprime.symm g
  refine c.dvd_of_dvd_mul_left ⟨n'.natAbs,?_⟩
  rw [←Int.natAbs_mul,←fr.eq,Int.natAbs_mul,Nat.mul_comm]
 have h2:=Nat.le_of_dvd (by omega) h
 have:d'=d:=by omega
 subst this
 exact ⟨Int.eq_of_mul_eq_mul_right (by omega) fr.eq,rfl⟩
--SPLIT
open Mth Sca Ang Dcl
theorem ok_law (B:Fx) {f:Addr} {fd:FuncData} (F:Fun K "law" "law" s_law f fd):FnOk P w K mg base CX0 10 f fd ["_law_script"] (spLaw K):=by
 refine F.ok sc_law (fun vs H Q E h=>?_) (fun cdv A outer s H vs Q E hr h=>?_)
 ·obtain ⟨a,ns,rfl,_⟩:=h
  rfl
 obtain ⟨a,ns,rfl,hS,h63,q⟩:=h
 refine ⟨_,(pss_cons (pfor (pi_range1 rfl (B.z B.y1) (p1 (pe_callB (call_max2 rfl) rfl (B.z B.y6) PyProof.Rows.boot_max (p2 pe_int (pe_callB (call_min2 rfl) rfl (B.z B.y9) PyProof.Rows.boot_min (p2 (pe_callB call_len_seq rfl (B.z B.y2) PySem.boot_len (p1 (pv 0))) pe_int)))))) (pgn 1 sc_law.nd) (pss_cons (pst 2 sc_law.nd (pf (ok_law_pot B) hr (p2 (pv 0) (pv 1))))
   (pss_cons (pst 3 sc_law.nd (pf (ok_law_any_rows B) hr (p2 (pv 2) (pe_op op_add pe_int (pf (ok_law_digit B) hr (p2 (pv 2) pe_int))))))
   (pss_cons (pst 4 sc_law.nd (pf (ok_law_points B) hr (p2 (pv 2) (pe_callB call_len_seq rfl (B.z B.y2) PySem.boot_len (p1 (pv 3))))))
   (pss_cons (pst 5 sc_law.nd (pf (ok_law_told B) hr (p1 (pv 3))))
   (pss_cons (pst 6 sc_law.nd (pf (ok_law_due B) hr (p2 (pv 4) (pv 3))))
   (pss_cons (pst 7 sc_law.nd (pf (ok_law_asked B) hr (p2 (pv 5) (pv 4))))
   (pss_cons (ps_if (PW.pt (pw_or (pt_cmpR (op_neD hr.units) (pv 7) (pv 6) (nomark _)) (pw_or1 (pt_cmpR (op_neD hr.units) (pe_lc1x (Nc:=["_law_row_here"]) (js:=[none]) rfl rfl (pi_tup (pv 7)) (CS.of rfl rfl) rfl (fun C s₂ H₂ fp pins=>(pgc 0)) (fun C s₂ H₂ fp pins D L=>(pt_tail1 (pt_val (pe_callB (show CallR _ _ (Own.call_isiY K) from Own.call_isi) rfl (B.z B.y3) PyProof.Rows.boot_isinstance (p2 (pv 0) (pe_bltn (v:=.ty "list") rfl (B.z B.y13) PyProof.Rows.boot_list rfl)))) (pb_app (pv 0))))) (pe_lst pa_nil) (nomark _))))) (pss_one (ps_ret pe_bl)) pss_nil)
   (pss_cons (pst 8 sc_law.nd (pe_callTy call_tuple_of rfl (B.z B.y0) PyProof.Rows.boot_tuple (p1 (pe_lc1x (Nc:=["_law_x","_law_y"]) (js:=[none,none]) rfl rfl (pi_tup (pv 4)) (CS.of rfl rfl) rfl (fun C s₂ H₂ fp pins=>(show PG _ _ (gTup K 2 _) from pg_tup rfl (pgs_cons (pgc 0) (pgs_cons (pgc 1) pgs_nil)))) (fun C s₂ H₂ fp pins D L=>(pt_tail0 (pb_app (pe_tup (p2 (pf (ok_law_low B) hr (p2 (pe_un un_neg (pix (show IxR _ (rIxT K) from ix_tup) (pv 0) pe_int)) (pix (show IxR _ (rIxT K) from ix_tup) (pv 0) pe_int))) (pv 1))))))))))
   (pss_one (ps_if (pt_cmpR (op_inD (Room.units65 hr)) (pix ix_tup (pv 6) pe_int) (pe_tup (p2 pe_str pe_str)) rfl) (pss_one (ps_if (pt_cmpR (op_neD hr.units) (pf (ok_law_asked B) hr (p2 (pv 5) (pv 8))) (pv 6) (nomark _)) (pss_one (ps_ret pe_bl)) pss_nil)) (pss_one (ps_if (PW.pt (pw_or (pt_cmpR (op_neD hr.units) (pf (ok_law_asked B) hr (p2 (pv 7) (pv 4))) (pv 6) (nomark _)) (pw_or1 (pt_cmpR (op_neD hr.units) (pf (ok_law_asked B) hr (p2 (pv 5) (pf (ok_law_moved B) hr (p1 (pv 4))))) (pv 6) (nomark _))))) (pss_one (ps_ret pe_bl)) (pss_one (ps_if (pt_cmpR (op_neD hr.units) (pf (ok_law_asked B) hr (p2 (pv 5) (pv 8))) (pf (ok_law_told B) hr (p1 (pe_lc1x (Nc:=["_law_row_here"]) (js:=[none]) rfl rfl (pi_tup (pv 6)) (CS.of rfl rfl) rfl (fun C s₂ H₂ fp pins=>(pgc 0)) (fun C s₂ H₂ fp pins D L=>(pt_tail0 (pb_app (show PE _ _ (tRevU K _ _) from (pe_revU (pv 0) (po_some (pe_un un_neg pe_int)))))))))) (nomark _)) (pss_one (ps_ret pe_bl)) pss_nil)))))))))))))))
   (pss_one (ps_ret pe_bl))),?_⟩
 try dsimp only [cxOf]
 have hl:(ns.map V.int).length=ns.length:=List.length_map _
 refine ⟨_,rfl,a,_,rfl,.inl hS,_,4,rfl,1,_,rfl,?_⟩
 rw [hl]
 generalize hj:(if (if (4:Int)<(ns.length:Int) then 4 else (ns.length:Int))>1 then (if (4:Int)<(ns.length:Int) then 4 else (ns.length:Int)) else 1)=j
 have j0:0≤j:=by rw [←hj];split<;>omega
 have j1:j≤63:=by
  rw [←hj]
  split
  ·split<;>omega
  ·omega
 refine ⟨j,rfl,by omega,by omega,for_range (lo:=0) (n:=j.toNat) (fun i σ H2=>∃ (x1 x2 x3 x4 x5 x6 x7 x8:Option V),σ=[some (.ref a),x1,x2,x3,x4,x5,x6,x7,x8]∧SqL K H2 a (ns.map V.int))
  ⟨none,none,none,none,none,none,none,none,rfl,hS⟩ ?_ ?_⟩
 rotate_left
 ·rintro σ H2 ⟨x1,x2,x3,x4,x5,x6,x7,x8,rfl,g⟩
  exact q _
 rintro i σ H2 hi ⟨x1,x2,x3,x4,x5,x6,x7,x8,rfl,hS2⟩
 refine ⟨_,rfl,_,rfl,a,ns,_,rfl,hS2,h63,(by omega),(by omega),fun p x y H3 hx g3 hn hp=>?_⟩
 have pA:PotAt H3 p:=⟨x,y,hp,hx⟩
 refine ⟨_,rfl,_,rfl,p,6,rfl,pA,by decide,lit9 (by decide),fun d H4 d0 d1 s4 p4=>?_⟩
 obtain ⟨d,rfl⟩:=Int.eq_ofNat_of_zero_le d0
 refine ⟨_,_,rfl,rfl,p,3+d,by simp [vn],p4,by omega,by omega,fun r ts W H5 p5 s5 X5 wo lW=>?_⟩
 refine ⟨_,rfl,_,rfl,r,_,rfl,.inl (SqL.of X5.top),p,W.length,by rw [List.length_map,X5.row.1];rfl,p5,by omega,fun td ps H6 s6 p6 ht lps hps=>?_⟩
 have X6:=X5.but s6
 have g6:Same H2 H6:=keep g3 hn ((s4.trans s5).trans s6)
 have R6:RLt H6 r W:=⟨ts,X6.top,X6.row⟩
 obtain ⟨Ps,hP,dl⟩ : ∃ Ps:List Pt,AllAt PtAt H6 ps Ps∧DrawL Ps:=by
  clear lps ht
  induction ps with
  | nil=>exact ⟨[],AllAt.nil,fun P0 h=>nomatch h⟩
  | cons b ps ih =>
   obtain ⟨Ps,h1,h2⟩:=ih fun p' h=>hps p' (List.mem_cons_of_mem _ h)
   obtain ⟨P0,k1,k2,k3⟩:=hps b List.mem_cons_self
   refine ⟨P0::Ps,⟨by rw [List.length_cons,List.length_cons,h1.1],fun i p' x e1 e2=>?_⟩,fun R h=>?_⟩
   ·cases i with
    | zero=>cases e1;cases e2;exact k1
    | succ i=>exact h1.2 i p' x (by simpa using e1) (by simpa using e2)
   ·rcases List.mem_cons.mp h with rfl | h
    ·exact ⟨k3,k2⟩
    ·exact h2 R h
 have el:W.length=Ps.length:=by rw [←lps,hP.1]
 have I6:In_ H6 td r Ps W:=⟨⟨ps,ht,hP⟩,dl,R6,wo,el⟩
 clear hps X5 s4 s5 s6 p4 p5 d0 d1 hn
 refine ⟨_,rfl,r,ts,W,rfl,X6.top,X6.row.imp fun p x z=>.inl z,wo.len,fun row h=>?_,fun tw H7 g7 hw=>?_⟩
 ·obtain ⟨j,e⟩:=List.mem_iff_getElem?.mp h
  exact ⟨(wo.row j row e).2.1,(wo.row j row e).2.2.1⟩
 have pw:PermW W (W.map fun r=>rot r (low r)):=perm_of_map _ fun r _=>rot_perm r _
 have w1:=pw.ok wo
 generalize (W.map fun r=>rot r (low r))=W1 at *
 refine ⟨_,rfl,_,rfl,td,r,Ps,W,rfl,I6.kept g7,fun v H8 an g8 is at_=>?_⟩
 have is1:=ans_perm pw wo dl.ok el is
 have el1:W1.length=Ps.length:=pw.1.trans el
 have g78:=g7.trans g8
 have I8:=I6.kept g78
 refine ⟨_,rfl,_,rfl,tw,td,W1,Ps,rfl,hw.kept g8,I8.d,w1,dl.ok,el1,fun v2 H9 an2 g9 is2 at2=>?_⟩
 obtain rfl:=is1.uniq is2
 have at9:=at_.keptE g9
 refine ⟨_,rfl,_,rfl,_,_,at2.dt,at9.dt,ansD_ok _,ansD_ok _,_,rfl,?_⟩
 rw [ansD_eqv]
 refine iteF ?_
 obtain ⟨t2,xs,e2,hxs,nl⟩:=at2.items (K:=K)
 subst e2
 refine ⟨_,rfl,t2,rfl,⟨_,SqT.of hxs⟩,fun D1 m1=>?_⟩
 refine walk_tup (xs:=xs) (fun i σ H'=>∃ x0:Option V,σ=[x0]∧Same H9 H'∧H' D1=some (.lst [])) ⟨none,rfl,same_new m1 _,upd_same⟩ ?_ ?_ ?_
 ·rintro i σ H' _ ⟨x0,rfl,g,_⟩
  exact SqT.of (g _ _ hxs)
 ·rintro i x σ H' hx ⟨x0,rfl,g,hD⟩
  obtain ⟨ty,k1,k2⟩:=nl x (List.mem_of_getElem? hx) H' (same_e g)
  refine ⟨_,rfl,_,_,_,_,rfl,k1,k2,_,rfl,?_⟩
  exact iteF ⟨_,rfl,g,hD⟩
 rintro σ H10 ⟨x0,rfl,g10,hD10⟩
 refine ⟨(by show 0≤sizeLine;decide),fun l0 n0=>?_⟩
 have gl:=same_new n0 (.lst [])
 refine ⟨.list [],.list [],nil_dt (gl _ _ hD10),nil_dt upd_same,rfl,rfl,_,rfl,?_⟩
 rw [show PyData.eqv (.list []) (.list [])=true by simp [PyData.eqv,PyData.eqvAll]]
 refine iteF ?_
 have g12:=g10.trans gl
 generalize upd H10 l0 (.lst [])=H12 at *
 clear hD10 gl n0 g10 nl m1
 have g2_12:SameE H2 H12:=((same_e (g6.trans g78)).trans g9).trans (same_e g12)
 have d12:=(I8.d.keptE g9).kept g12
 have w12:=((hw.kept g8).keptE g9).kept g12
 have at12:=at9.keptE (same_e g12)
 have f12:=at2.keptE (same_e g12)
 clear at9 at2 hxs I8 I6 g78 g8 g7 g6 R6 X6 hP ht g9 g12
 obtain ⟨ps',ht',hP'⟩:=id d12
 refine ⟨_,rfl,td,rfl,⟨_,SqT.of ht'⟩,fun D3 m3=>?_⟩
 refine walk_tup (xs:=ps'.map V.ref) (fun i σ H'=>∃ (x0 x1:Option V) (us:List Addr),σ=[x0,x1]∧Same H12 H'∧H' D3=some (.lst (us.map V.ref))∧AllAt PtAt H' us ((Ps.map mP).take i)) ⟨none,none,[],rfl,same_new m3 _,upd_same,AllAt.nil⟩ ?_ ?_ ?_
 ·rintro i σ H' _ ⟨x0,x1,us,rfl,g,_⟩
  exact SqT.of (g _ _ ht')
 ·rintro i v0 σ H' hx ⟨x0,x1,us,rfl,g,hD,hu⟩
  rw [List.getElem?_map] at hx
  obtain ⟨b,eb,rfl⟩:=Option.map_eq_some_iff.mp hx
  obtain ⟨P0,eP,x,y,h1,h2,h3⟩:=hP'.get eb
  obtain ⟨⟨b1,b2,b3,b4⟩,o1,o2,o3,o4,o5,o6⟩:=dl _ (List.mem_of_getElem? eP)
  refine ⟨b,_,rfl,SqT.of (g _ _ h1),rfl,_,_,rfl,_,_,rfl,rfl,?_⟩
  have w9:P0.d.natAbs<2 ^ 9000:=Mth.up o4 (by decide)
  refine ⟨_,rfl,x,_,_,_,rfl,rfl,SqT.of (g _ _ h2),at0,_,rfl,_,rfl,x,_,_,_,rfl,rfl,SqT.of (g _ _ h2),at1,-P0.n,P0.d,rfl,pos_ne b1,w9,fun n1 d1 a1 H1 F1 g1 e1=>?_⟩
  obtain ⟨rfl,rfl⟩:=fr_same F1 b1 (by unfold Int.gcd at b3 ⊢;rw [Int.natAbs_neg];exact b3)
  refine ⟨_,rfl,(by show 2≤sizeLine;decide),fun c nc=>?_⟩
  have gc:=same_new nc (.tup [.ref a1,.ref y])
  have g1c:=g1.trans gc
  have hD':=g1c _ _ hD
  have lu:=hu.1
  have l2:us.length≤i:=by rw [lu];exact List.length_take_le ..
  have li:=(List.getElem?_eq_some_iff.mp eP).1
  have hu6:=hu.imp (R':=PtAt) (H':=upd H1 c (.tup [.ref a1,.ref y])) fun p x z=>z.kept g1c
  have new:PtAt (upd H1 c (.tup [.ref a1,.ref y])) c (mP P0):=⟨a1,y,upd_same,gc _ _ e1,g1c _ _ (g _ _ h3)⟩
  refine ⟨_,hD',small1000 (by rw [List.length_map];have:=wo.len;omega),?_⟩
  refine ⟨_,_,us++[c],rfl,same_at m3 (g.trans g1c),by rw [upd_same,List.map_append];rfl,?_⟩
  rw [List.take_succ,List.getElem?_map,eP,Option.map_some,Option.toList_some]
  exact AllAt.snoc ⟨hu6.1,fun j p x k1 k2=>(hu6.2 j p x k1 k2).upd hD'⟩ (new.upd hD')
 rintro σ H13 ⟨x0,x1,us,rfl,g13,hD13,hu⟩
 rw [List.take_of_length_le (by rw [List.length_map,List.length_map,hP'.1];exact Nat.le_refl _)] at hu
 refine ⟨D3,_,rfl,.inl ⟨SqL.of hD13,fun ta na=>?_⟩⟩
 have gt:=same_new na (.tup (us.map V.ref))
 have da:DAt (upd H13 ta (.tup (us.map V.ref))) ta (Ps.map mP):=⟨us,upd_same,hu.imp fun p x z=>z.kept gt⟩
 have g14:=g13.trans gt
 generalize upd H13 ta (.tup (us.map V.ref))=H14 at *
 clear gt na hu hD13 g13 m3 hP' ht'
 have isX:=ans_across w1 dl.ok el1 is2
 have ela:W1.length=(Ps.map mP).length:=by rw [List.length_map];exact el1
 have msg:isMsg an=true→mirA an=an:=fun h=>by cases an<;>first | rfl | cases h
 obtain ⟨t6,x6,xs6,dd,e6,h6,dt6,sh6,ev6⟩:=(at12.keptE (same_e g14)).first (K:=K) fun X e z=>by
  subst e
  have l:=is2.2.2
  rw [z] at l
  have:=(turnW_perm (Ps:=Ps) (W:=W1)).1
  rw [←l] at this
  have:=pw.1
  simp at *
  omega
 subst e6
 refine ⟨_,rfl,t6,_,_,x6,rfl,rfl,SqT.of h6,(show atI (x6::xs6) ((0:Nat):Int)=some x6 from atI_nat (j:=0) rfl),(by show 2≤sizeLine;decide),fun c nc=>?_⟩
 have gc:=same_new nc (.tup [.str (Str.ofString "alike"),.str (Str.ofString "folded")])
 refine ⟨dd,[.str (Str.ofString "alike"),.str (Str.ofString "folded")],c,_,rfl,.inr (SqT.of upd_same),dt6 _ gc,?_,sh6,?_,_,rfl,?_⟩
 ·unfold DtAll
  refine ⟨_,_,rfl,dt_str _,?_⟩
  unfold DtAll
  refine ⟨_,_,rfl,dt_str _,?_⟩
  unfold DtAll
  rfl
 ·decide +kernel
 rw [if_neg (show ¬ (false=true) by decide),ev6]
 have g15:=g14.trans gc
 generalize upd H14 c (.tup [.str (Str.ofString "alike"),.str (Str.ofString "folded")])=H15 at *
 have d15:=d12.kept g15
 have w15:=w12.kept g15
 have a15:=at12.keptE (same_e g15)
 have f15:=f12.keptE (same_e g15)
 have da15:=da.kept gc
 have s15:=g2_12.trans (same_e g15)
 clear d12 w12 at12 f12 da g2_12 g15 gc g14 dt6 h6 nc
 cases hm:isMsg an with
 | true =>
  refine iteT ?_
  refine ⟨_,rfl,_,rfl,tw,ta,W1,Ps.map mP,rfl,w15,da15,w1,dl.ok.across,ela,fun v3 H16 an3 g16 is3 at3=>?_⟩
  obtain rfl:=is3.uniq isX
  rw [msg hm] at at3
  refine ⟨_,rfl,_,_,at3.dt,(a15.keptE g16).dt,ansD_ok _,ansD_ok _,_,rfl,?_⟩
  rw [ansD_eqv]
  refine iteF ?_
  exact ⟨_,_,_,_,_,_,_,_,rfl,seqE (s15.trans g16) hS2⟩
 | false =>
  obtain ⟨X,rfl⟩ : ∃ X,an=.ro X:=by cases an<;>first | exact ⟨_,rfl⟩ | cases hm
  refine iteF ?_
  have eX:=is2.2.2
  have pX:PermW W1 X:=eX ▸ turnW_perm
  obtain ⟨t2',e2',wf⟩:=f15
  cases e2'
  refine ⟨_,rfl,_,rfl,t2,td,X,Ps,rfl,wf,d15,pX.ok w1,dl.ok,pX.1.trans el1,fun v3 H16 an3 g16 is3 at3=>?_⟩
  obtain rfl:=is3.uniq (ans_perm pX w1 dl.ok el1 is2)
  refine ⟨_,rfl,_,_,at3.dt,(a15.keptE g16).dt,ansD_ok _,ansD_ok _,_,rfl,?_⟩
  rw [ansD_eqv]
  refine iteF ?_
  clear at3 is3
  refine ⟨_,rfl,_,rfl,td,Ps,rfl,d15.keptE g16,dl,by rw [←el];exact wo.len,fun tm Ps' H17 g17 dm lm mm=>?_⟩
  have g17:=g16.trans (same_e g17)
  refine ⟨tw,tm,W1,Ps',rfl,w15.keptE g17,dm,w1,moved_ok lm mm dl,el1.trans lm.symm,fun v4 H18 an4 g18 is4 at4=>?_⟩
  obtain rfl:=is4.uniq (ans_signs lm (moved_signs lm mm dl) w1 dl.ok el1 is2)
  have g18:=g17.trans g18
  refine ⟨_,rfl,_,_,at4.dt,(a15.keptE g18).dt,ansD_ok _,ansD_ok _,_,rfl,?_⟩
  rw [ansD_eqv]
  refine iteF ?_
  clear at4 is4 mm lm dm
  refine ⟨_,rfl,_,rfl,tw,ta,W1,Ps.map mP,rfl,w15.keptE g18,da15.keptE g18,w1,dl.ok.across,ela,fun v5 H19 an5 g19 is5 at5=>?_⟩
  obtain rfl:=is5.uniq isX
  have g19:=g18.trans g19
  obtain ⟨t6',e6',ts6,h6,hX⟩:=a15.keptE g19
  cases e6'
  refine ⟨_,rfl,t6,rfl,⟨_,SqT.of h6⟩,fun D4 m4=>?_⟩
  refine walk_tup (xs:=ts6.map V.ref) (fun i σ H'=>∃ (x0:Option V) (us:List Addr),σ=[x0]∧Same H19 H'∧H' D4=some (.lst (us.map V.ref))∧AllAt (fun H a r=>a≠D4∧RowT H a r) H' us ((X.map List.reverse).take i)) ⟨none,[],rfl,same_new m4 _,upd_same,AllAt.nil⟩ ?_ ?_ ?_
  ·rintro i σ H' _ ⟨x0,us,rfl,g,_⟩
   exact SqT.of (g _ _ h6)
  ·rintro i v0 σ H' hx ⟨x0,us,rfl,g,hD,hu⟩
   rw [List.getElem?_map] at hx
   obtain ⟨b,eb,rfl⟩:=Option.map_eq_some_iff.mp hx
   obtain ⟨row,er,hb⟩:=hX.get eb
   have hb:H19 b=some (.tup (row.map vn)):=hb
   refine ⟨_,rfl,_,rfl,_,rfl,b,_,rfl,rfl,g _ _ hb,fun c nc=>?_⟩
   have gc:=same_new nc (.tup (row.map vn).reverse)
   have hD':=gc _ _ hD
   have lu:=hu.1
   have l2:us.length≤i:=by rw [lu];exact List.length_take_le ..
   have li:=(List.getElem?_eq_some_iff.mp er).1
   have cD:c≠D4:=fun z=>by subst z;rw [hD] at nc;cases nc
   refine ⟨_,hD',small1000 (by rw [List.length_map];have:=pX.1;have:=w1.len;omega),?_⟩
   refine ⟨_,us++[c],rfl,same_at m4 (g.trans gc),by rw [upd_same,List.map_append];rfl,?_⟩
   rw [List.take_succ,List.getElem?_map,er,Option.map_some,Option.toList_some]
   refine AllAt.snoc (hu.imp fun p x z=>⟨z.1,?_⟩) ⟨cD,?_⟩
   ·show upd _ D4 _ p=_
    rw [upd_ne z.1]
    exact gc _ _ z.2
   ·show upd _ D4 _ c=_
    rw [upd_ne cD,upd_same,List.map_reverse]
  rintro σ H20 ⟨x0,us,rfl,g20,hD20,hu⟩
  rw [List.take_of_length_le (by rw [List.length_map,List.length_map,hX.1];exact Nat.le_refl _)] at hu
  have okX:=pX.ok w1
  refine ⟨D4,us,X.map List.reverse,rfl,hD20,hu.imp fun p x z=>.inr z.2,by rw [List.length_map];exact okX.len,fun row h=>?_,fun t7 H21 g21 w21=>?_⟩
  ·obtain ⟨r0,h0,rfl⟩:=List.mem_map.mp h
   obtain ⟨j,e⟩:=List.mem_iff_getElem?.mp h0
   obtain ⟨_,k2,k3,_⟩:=okX.row j r0 e
   exact ⟨fun z=>k2 (List.reverse_eq_nil_iff.mp z),by rw [List.length_reverse];exact k3⟩
  rw [rev_low] at w21
  refine ⟨_,_,(at5.keptE (same_e (g20.trans g21))).dt,w21.dt,ansD_ok _,webD_ok _,_,rfl,?_⟩
  rw [show PyData.eqv (ansD (mirA (.ro X))) (webD (X.map fun r=>rot r.reverse (low r.reverse)))=true from ansD_eqv (mirA (.ro X))]
  refine iteF ?_
  exact ⟨_,_,_,_,_,_,_,_,rfl,seqE ((s15.trans g19).trans (same_e (g20.trans g21))) hS2⟩
--SPLIT
theorem all_mk {l:PySem.W.OpenLaw} {w:World} {K:PySem.W.Frag} {h:Heap} {mg:Str→Option Value} {fa:Addr} (X:K.In h) (G:h.Ns mainGlobals mg) (hfa:mg "law" = some (.ref fa)) (B:FxG K mg):∃ fd:FuncData,(∀ (s:Shared) (v:Value),BindsTo s fd ⟨[v],[]⟩ [("_law_script",v)])∧∀ base:Heap,K.In base→base.Ns mainGlobals mg→FnOk l.prog w K mg base CX0 10 fa fd ["_law_script"] (spLaw K):=by
 obtain ⟨f,fd,e,F⟩:=B.d43
 cases hfa.symm.trans (PySem.W.mg_of X G e)
 refine ⟨fd,fun s v=>?_,fun base _ _=>?_⟩
 ·obtain ⟨oc,od,kV,doc,pm,an,cdv,ct,osl,rfl,_⟩:=F.ex
  exact .of_eq rfl
 refine Classical.byContradiction fun n=>?_
 obtain ⟨B',f',fd',F',n'⟩ : Bad c0:=Classical.epsilon_spec ⟨⟨l.prog,w,K,mg,base⟩,B,fa,fd,F,n⟩
 exact n' (ok_law B' F')
theorem walk {l:PySem.W.OpenLaw} {q:Program} {loose:List Str} {XP:(Str→Option Value)→Heap→Prop} {YP:World→Heap→Prop} {d:DefRec} {K:Params→PySem.W.Frag} (hn:l.most=some 63) (hdf:d.params.defaults=[])
  (hY:∀ (w:World) (h:Heap),YP w h→(K w.params).In h)
  (F:∀ (w:World) (mg:Str→Option Value) (fa:Addr) (h:Heap),(K w.params).In h→h.Ns mainGlobals mg→mg d.name=some (.ref fa) →
   ∃ fd:FuncData,(∀ (s:Shared) (u:Value),BindsTo s fd ⟨[u],[]⟩ [("_law_script",u)])∧∀ base:Heap,(K w.params).In base→base.Ns mainGlobals mg→FnOk l.prog w (K w.params) mg base CX0 10 fa fd ["_law_script"] (spLaw (K w.params))) (hq:PyProof.Rows.importsNone q=true:=by first | assumption | decide +kernel) :
  PySem.W.WalkO q loose XP YP l.row.toRowW d [] (fun f vs=>PySem.call f vs) :=
 L2.walk_of (n:=63) (k:=10) (x:="_law_script") (CX:=fun _=>CX0) (sp:=fun w=>spLaw (K w.params)) hn (by decide) hdf ⟨rfl,by decide,by decide,rfl⟩ hY F (fun _ _ a ns hl _ hS=>⟨a,ns,rfl,hS,hl,fun _=>rfl⟩) fun _ _ _ _ _ z=>z
end Prf
def PySem.W.Fast.tw5364156519531661442:Nat:=0
def PySem.W.Fast.tw11752042212515248322:Nat:=0
def PySem.W.Fast.tw796308569733856962:Nat:=0
def PySem.W.Fast.tw10992146305176028675:Nat:=0
def PySem.W.Fast.tw3396294528932642692:Nat:=0
def PySem.W.Fast.tw9403427869046770245:Nat:=0
def PySem.W.Fast.tw5751678995379278822:Nat:=0
def PySem.W.Fast.tw2008628120176580615:Nat:=0
def PySem.W.Fast.tw14885856302949373127:Nat:=0
def PySem.W.Fast.tw3045230029331576231:Nat:=0
def PySem.W.Fast.tw1078953838589598824:Nat:=0
def PySem.W.Fast.tw9084042725212005001:Nat:=0
def PySem.W.Fast.tw11400288941098896266:Nat:=0
def PySem.W.Fast.tw1707859441357695277:Nat:=0
def PySem.W.Fast.tw9915822830145727311:Nat:=0
def PySem.W.Fast.tw16187183929876861201:Nat:=0
def PySem.W.Fast.tw17690905003250387349:Nat:=0
def PySem.W.Fast.tw15720661817073420408:Nat:=0
def PySem.W.Fast.tw13492468876456006553:Nat:=0
def PySem.W.Fast.tw6384292936353922170:Nat:=0
def PySem.W.Fast.tw3358102302444832250:Nat:=0
def PySem.W.Fast.tw13084099830524327834:Nat:=0
def PySem.W.Fast.tw1152098835604739611:Nat:=0
def PySem.W.Fast.tw5210841998062242363:Nat:=0
def PySem.W.Fast.tw16781334498606847324:Nat:=0
def PySem.W.Fast.tw14443818145391230557:Nat:=0
open PySem PySem.W PyProof.Rows
set_option maxRecDepth 100000 in
set_option maxHeartbeats 0 in
theorem PySem.Challenge.cw_restdraw_k44_turned_holds : PySem.Challenge.rw_restdraw_k44_turned.Holds := by
 w_on;o_law;k_head;(case hw=>w_witness2)
 k_fill
 refine Prf.walk (l:=PySem.Challenge.rw_restdraw_k44_turned) rfl rfl (fun w h Y=>PySem.W.kIn_of Y) ?F
 case F =>
  intro w mg fa h KX G hmg
  refine' Prf.all_mk KX G hmg ?_
  apply Prf.FxG.mk ⟨_,KX,G⟩<;>first | (refine' L2.df_mk ?a ?l ?c ?k;(case a=>k_is);(case l=>k_is);(case c=>k_is);(case k=>k_is)) | (refine' L2.cn_mk ?a ?l ?v;(case a=>k_is);(case l=>k_is);(case v=>first | rfl | decide)) | (refine' L2.cv_mk ?a ?v;(case a=>k_is);(case v=>first | rfl | decide +kernel)) | (refine' L2.XgAt.mk ?a ?b;(case a=>k_is);(case b=>k_is)) | (refine' L2.dx_mk ?a ?l ?t ?sa ?ga ?gh ?cl ?cg ?ct ?it;(case a=>k_is);(case l=>k_is);(case t=>k_is);(case sa=>k_is);(case ga=>k_is);(case gh=>k_is);(case cl=>k_is);(case cg=>k_is);(case ct=>k_is);(case it=>k_is)) | (refine' L2.wx_mk ?a ?d ?l ?t ?sa ?ga ?gh ?cl ?cg ?ct ?i ?f ?k ?fl ?fc ?fk;(case a=>k_is);(case d=>k_is);(case l=>k_is);(case t=>k_is);(case sa=>k_is);(case ga=>k_is);(case gh=>k_is);(case cl=>k_is);(case cg=>k_is);(case ct=>k_is);(case i=>k_is);(case f=>k_is);(case k=>k_is);(case fl=>k_is);(case fc=>k_is);(case fk=>k_is)) | (refine' L2.kd_mk ?a ?d ?i ?t ?s ?ss;(case a=>k_is);(case d=>k_is);(case i=>k_is);(case t=>k_is);(case s=>k_is);(case ss=>k_is)) | (refine' L2.kv_mk' ?a ?s;(case a=>k_is);(case s=>k_is)) | (refine' L2.di_mk ?a ?dg ?dr ?df ?fl ?fc ?fk;(case a=>k_is);(case dg=>k_is);(case dr=>k_is);(case df=>k_is);(case fl=>k_is);(case fc=>k_is);(case fk=>k_is)) | (refine' L2.ox_mk ?a ?d ?l ?t ?sa ?ga ?gh ?cl ?cg ?ct ?na ?i ?f ?k ?fl ?fc ?fk;(case a=>k_is);(case d=>k_is);(case l=>k_is);(case t=>k_is);(case sa=>k_is);(case ga=>k_is);(case gh=>k_is);(case cl=>k_is);(case cg=>k_is);(case ct=>k_is);(case na=>k_is);(case i=>k_is);(case f=>k_is);(case k=>k_is);(case fl=>k_is);(case fc=>k_is);(case fk=>k_is)) | k_is
