import PyProof.Rows.All
import Wide.All
import OpenK.AllK
import Wide.FinOn
import Lean
import PyProof.EqAt
import PyProof.EqKinds
import PyProof.TupleCall
import PyProof.Rows.SortRunsK
import PyProof.Rows.Walk
import KE.KSortTup
import PyProof.ListRange
import PySem.Challenge.RW_restdraw_k25_whole_filled
set_option Elab.async false
set_option linter.all false
set_option maxRecDepth 100000
local macro_rules | `(tactic| omega)=>`(tactic| lia)
noncomputable section
open List (mem_filter mem_range mem_cons_self mem_cons_of_mem mem_cons mem_append mem_append_left mem_append_right size_toArray append_nil nodup_cons length_take mem_of_getElem? length_append length_map length_cons length_nil length_drop map_nil map_cons length_set any_cons replicate_succ append_assoc foldl_cons length_singleton nil_append cons_append nodup_nil all_eq_true take_of_length_le drop_eq_nil_of_le mem_iff_getElem mem_singleton getD_eq_getElem?_getD getElem_mem nodup_append idxOf_lt_length_of_mem map_append length_eq_zero_iff dropLast_concat_getLast range_succ mem_map length_range perm_append_comm take_append_drop filter_append filter_cons pairwise_map pairwise_append pairwise_singleton pairwise_iff_getElem pairwise_cons take_succ take_length map_map length_pos_iff map_take map_drop length_filter_le)
theorem yS0:0<=PySem.sizeLine:=by decide
theorem yS1:1<=PySem.sizeLine:=by decide
theorem yS2:2<=PySem.sizeLine:=by decide
theorem yS3:3<=PySem.sizeLine:=by decide
theorem yS4:4<=PySem.sizeLine:=by decide
namespace L2
open PySem PySem.Spec PyProof.Rows
abbrev Key:=Sum Int Str
def nK:Key->Value->Bool
 | .inl k,v=>Value.isInt k v
 | .inr x,v=>Value.isStrOf x v
def kOX (w:World):Key->Int
 | .inl k=>hashInt k
 | .inr x=>hashStr w x
theorem jH:∀ {k:Key} {v:Value},nK k v=true->(∃ i t,k=Sum.inl i/\v=Value.int i t)\/(∃ x t,k=Sum.inr x/\v=Value.str x t)
 | .inl i,v,h=>by
  obtain ⟨t,e⟩:=Value.isInt_shape (k:=i) (v:=v) h;exact .inl ⟨i,t,rfl,e⟩
 | .inr x,v,h=>by
  obtain ⟨t,e⟩:=Value.isStrOf_shape (x:=x) (v:=v) h;exact .inr ⟨x,t,rfl,e⟩
theorem kDL (i:Int) (t:Tok):nK (.inl i) (.int i t)=true:=by simp [nK,Value.isInt]
theorem kDK (x:Str) (t:Tok):nK (.inr x) (.str x t)=true:=by simp [nK,Value.isStrOf]
theorem kLR (a b:Int):decide ((Sum.inl a:Key)=Sum.inl b)=(a == b):=by
 by_cases e:a=b
 ·subst e;simp
 ·have h:¬ (Sum.inl a:Key)=Sum.inl b:=λ q=>e (Sum.inl.inj q)
  rw [decide_eq_false h];exact (beq_eq_false_iff_ne.mpr e).symm
theorem kLO (a b:Str):decide ((Sum.inr a:Key)=Sum.inr b)=decide (a=b):=by
 by_cases e:a=b
 ·subst e;simp
 ·have h:¬ (Sum.inr a:Key)=Sum.inr b:=λ q=>e (Sum.inr.inj q)
  rw [decide_eq_false h,decide_eq_false e]
theorem kLQ (a:Int) (b:Str):decide ((Sum.inl a:Key)=Sum.inr b)=false:=decide_eq_false (λ q=>nomatch q)
theorem kLP (a:Str) (b:Int):decide ((Sum.inr a:Key)=Sum.inl b)=false:=decide_eq_false (λ q=>nomatch q)
def qT (prog:Program) (w:World):PySem.KeyKind prog w Key where
 is:=nK
 hash:=kOX w
 inj:=λ v a b ha hb=>by
  rcases jH ha with ⟨i,t,rfl,rfl⟩ | ⟨x,t,rfl,rfl⟩
  ·rcases jH hb with ⟨j,u,rfl,e⟩ | ⟨y,u,rfl,e⟩
   ·injection e with e1 _;rw [e1]
   ·exact nomatch e
  ·rcases jH hb with ⟨j,u,rfl,e⟩ | ⟨y,u,rfl,e⟩
   ·exact nomatch e
   ·injection e with e1 _;rw [e1]
 byValue:=λ k v h=>by
  rcases jH h with ⟨i,t,rfl,rfl⟩ | ⟨x,t,rfl,rfl⟩<;>rfl
 pyHash:=λ hv h=>by
  rcases jH hv with ⟨i,t,rfl,rfl⟩ | ⟨x,t,rfl,rfl⟩
  ·exact wpAny_pyHash_int h
  ·exact wpAny_pyHash_str h
 eqBool:=λ hu hv h=>by
  rcases jH hu with ⟨i,t,rfl,rfl⟩ | ⟨x,t,rfl,rfl⟩
  ·rcases jH hv with ⟨j,u,rfl,rfl⟩ | ⟨y,u,rfl,rfl⟩
   ·rw [kLR] at h;exact wpAny_eqBool_int h
   ·rw [kLQ] at h;exact SeqAt.EqAt.int_str i t y u _ _ _ _ h
  ·rcases jH hv with ⟨j,u,rfl,rfl⟩ | ⟨y,u,rfl,rfl⟩
   ·rw [kLP] at h;exact SeqAt.EqAt.str_int x t j u _ _ _ _ h
   ·rw [kLO] at h;exact wpAny_eqBool_str h
 «strs»:=λ k x t v h=>by
  rcases jH h with ⟨i,u,rfl,e⟩ | ⟨y,u,rfl,e⟩
  ·exact nomatch e
  ·injection e with e1 _
   subst e1;cases v<;>rfl
theorem rV (prog:Program) (w:World) (i:Int) (t:Tok):(qT prog w).is (.inl i) (.int i t)=true:=kDL i t
theorem rU (prog:Program) (w:World) (x:Str) (t:Tok):(qT prog w).is (.inr x) (.str x t)=true:=kDK x t
inductive V where
 | non | bl (b:Bool) | int (i:Int) | str (x:Str) | byt (b:Array UInt8) | flt (b:UInt64) | ref (a:Addr) | ty (n:String)
 deriving DecidableEq
def RelV:V->Value->Prop
 | .non,u=>u=Value.none
 | .bl b,u=>u=Value.bool b
 | .int i,u=>∃ t,u=Value.int i t
 | .str x,u=>∃ t,u=Value.str x t
 | .byt b,u=>∃ t,u=Value.bytes b t
 | .flt b,u=>∃ t,u=Value.float b t
 | .ref a,u=>u=Value.ref a
 | .ty n,u=>u=Value.type n
abbrev Vals:List V->List Value->Prop:=Paired RelV
theorem Vals.length {xs:List V} {us:List Value} (r:Vals xs us):xs.length=us.length:=Paired.length r
theorem Vals.get:∀ {xs:List V} {us:List Value} {i:Nat} {x:V},Vals xs us->xs[i]?=some x->∃ u,us[i]?=some u/\RelV x u
 | _,_,_,_,.nil,e=>by simp at e
 | _,_,0,_,.cons r _,e=>by simp at e;subst e;exact ⟨_,rfl,r⟩
 | _,_,i+1,x,.cons _ t,e=>by
  obtain ⟨u,h1,h2⟩:=Vals.get (i:=i) (x:=x) t (by simpa using e);exact ⟨u,by simpa using h1,h2⟩
theorem Vals.set {x:V} {u:Value} (r:RelV x u):∀ {xs:List V} {us:List Value} (i:Nat),Vals xs us->Vals (xs.set i x) (us.set i u)
 | _,_,_,.nil=>.nil
 | _,_,0,.cons _ t=>.cons r t
 | _,_,i+1,.cons q t=>.cons q (Vals.set r i t)
theorem Vals.append:∀ {xs ys:List V} {us ws:List Value},Vals xs us->Vals ys ws->Vals (xs++ys) (us++ws)
 | _,_,_,_,.nil,s=>s
 | _,_,_,_,.cons r t,s=>.cons r (Vals.append t s)
theorem Vals.take:∀ {xs:List V} {us:List Value} (n:Nat),Vals xs us->Vals (xs.take n) (us.take n)
 | _,_,0,_=>.nil
 | _,_,_+1,.nil=>.nil
 | _,_,n+1,.cons r t=>.cons r (Vals.take n t)
theorem Vals.drop:∀ {xs:List V} {us:List Value} (n:Nat),Vals xs us->Vals (xs.drop n) (us.drop n)
 | _,_,0,r=>r
 | _,_,_+1,.nil=>.nil
 | _,_,n+1,.cons _ t=>Vals.drop n t
def RelO:Option V->Option Value->Prop
 | some v,some u=>RelV v u
 | none,none=>True
 | _,_=>False
def KV {κ:Type}:List (κ×V)->List (κ×Value)->Prop:=Paired λ (p:κ×V) (q:κ×Value)=>p.1=q.1/\RelV p.2 q.2
def kV:Key->V
 | .inl i=>.int i
 | .inr x=>.str x
inductive HO where
 | lst (xs:List V)
 | tup (xs:List V)
 | dK (kvs:List (Key×V)) | dT (kvs:List (List Key×V))
 | set (S:Int->Bool) (n:Nat)
 | ins (C dx:Addr) (fs:List (Str×V))
 | own (x:Addr)
 | xd (fs:List (Str×V))
 | met (f x:Addr)
 | rng (lo hi:Int)
 | frz (o:Obj) (u:HO)
 | tbl (ps:Array Value)
 | ext (φ:Heap->Prop)
abbrev Hp:=Addr->Option HO
def upd (H:Hp) (a:Addr) (o:HO):Hp:=λ b=>if b=a then some o else H b
theorem kC {H:Hp} {a:Addr} {o:HO}:upd H a o a=some o:=by unfold upd;rw [if_pos rfl]
theorem kK {H:Hp} {a b:Addr} {o:HO} (h:b≠a):upd H a o b=H b:=by unfold upd;rw [if_neg h]
theorem yA {H:Hp} {a b:Addr} {o u:HO} (h:H a=some o) (h':H b=some u) (d:o≠u):a≠b:=by
 intro e;subst e;rw [h] at h';exact d (Option.some.inj h')
theorem kL {H:Hp} {a b:Addr} {o:HO} (h:H a=some o) (h':H b=none):a≠b:=by
 intro e;subst e;rw [h] at h';cases h'
section
def IsTupN (h:Heap) (a:Addr) (items:Array Value):Prop:=∃ o,h.get? a=some o/\o.cls=.type "tuple"/\∃ n,o.data=.seq items n/\o.dict=none
theorem IsTupN.isTup {h:Heap} {a:Addr} {items:Array Value}:IsTupN h a items->IsTup h a items:=λ ⟨o,e,c,n,d,_⟩=>⟨o,e,c,n,d⟩
theorem IsTupN.lt {h:Heap} {a:Addr} {items:Array Value} (x:IsTupN h a items):a<h.objs.size:=x.isTup.lt
theorem IsTupN.new (h:Heap) (items:Array Value):IsTupN (h.push { cls:=.type "tuple",data:=.seq items }) h.objs.size items:=⟨_,Heap.get?_push_size _ rfl,rfl,_,rfl,rfl⟩
variable (P:Program) (w:World)
def ObjOk (H:Hp) (h:Heap) (a:Addr):HO->Prop
 | .lst xs=>xs.length<=sizeLine/\∃ (its:List Value) (n:Nat),Vals xs its/\h.get? a=some { cls:=.type "list",data:=.seq its.toArray n }
 | .tup xs=>xs.length<=sizeLine/\∃ its:List Value,Vals xs its/\IsTupN h a its.toArray
 | .dK kvs=>kvs.length<=sizeLine/\(a == sysModules)=false/\∃ vs,KV kvs vs/\h.DictOf (qT P w) a vs
 | .dT kvs=>kvs.length<=sizeLine/\(a == sysModules)=false/\∃ xs:List (List Key×Addr×Value),
   Paired (λ (p:List Key×V) (q:List Key×Addr×Value)=>p.1=q.1/\H q.2.1=some (.tup (p.1.map kV))/\RelV p.2 q.2.2) kvs xs /\
   ∃ o es ep,h.get? a=some o/\o.ExactDict/\o.data=.dict es ep/\es.toList=xs.map (entryOfKey (tupleKind (qT P w)))/\(xs.map (·.1)).Nodup
 | .set S n=>h.SetOf (intKind P w) a S n
 | .ins C dx fs=>H dx=some (.own a)/\fs.length<=1000/\dx≠a/\h.get? a=some (PySem.W.instObj C dx) /\
   ∃ mA,h.Ns1 dx mA/\(∀ f,RelO (fs.lookup f) (mA f))/\PySem.Within mA (fs.map (·.1))
 | .own _=>∃ o,h.get? a=some o
 | .xd fs=>∃ mA,h.Ns1 a mA/\∀ f,RelO (fs.lookup f) (mA f)
 | .rng lo hi=>∃ t u v,h.get? a=some { cls:=.type "range",data:=.fields #[.int lo t,.int hi u,.int 1 v] }
 | .frz o u=>h.get? a=some o/\ObjOk H h a u
 | .tbl ps=>h.get? a=some { cls:=.none,data:=.fields ps }
 | .met f x=>h.get? a=some (PySem.W.methodObj (.ref f) (.ref x))
 | .ext φ=>φ h/\(∃ o,h.get? a=some o)/\∀ h1 h2:Heap,φ h1->(∀ o,h1.get? a=some o->h2.get? a=some o)->φ h2
def HOk (H:Hp) (h:Heap):Prop:=∀ a o,H a=some o->ObjOk P w H h a o
end
section
variable {P:Program} {w:World} {H H':Hp} {h h':Heap} {a:Addr} {o:HO}
theorem ObjOk.lt (x:ObjOk P w H h a o):a<h.objs.size:=by
 cases o with
 | lst xs=>obtain ⟨_,_,_,_,e⟩:=x;exact Heap.lt_size e
 | tup xs=>obtain ⟨_,_,_,p⟩:=x;exact p.lt
 | dK kvs=>obtain ⟨_,_,_,_,o,_,_,e,_⟩:=x;exact Heap.lt_size e
 | dT kvs=>obtain ⟨_,_,_,_,o,_,_,e,_⟩:=x;exact Heap.lt_size e
 | set S n=>obtain ⟨o,_,_,_,e,_⟩:=x;exact Heap.lt_size e
 | ins C dx fs=>obtain ⟨_,_,_,e,_⟩:=x;exact Heap.lt_size e
 | own y=>obtain ⟨_,e⟩:=x;exact Heap.lt_size e
 | xd fs=>obtain ⟨_,⟨_,_,_,e,_⟩,_⟩:=x;exact Heap.lt_size e
 | rng lo hi=>obtain ⟨_,_,_,e⟩:=x;exact Heap.lt_size e
 | frz ob u=>obtain ⟨e,_⟩:=x;exact Heap.lt_size e
 | tbl ps=>exact Heap.lt_size (show h.get? a=some _ from x)
 | met f y=>exact Heap.lt_size (show h.get? a=some _ from x)
 | ext φ=>obtain ⟨_,⟨_,e⟩,_⟩:=x;exact Heap.lt_size e
theorem Paired.mapP {α β:Type} {F G:α->β->Prop}:∀ {l₁:List α} {l₂:List β},Paired F l₁ l₂->(∀ a b,F a b->G a b)->Paired G l₁ l₂
 | _,_,.nil,_=>.nil
 | _,_,.cons r t,f=>.cons (f _ _ r) (Paired.mapP t f)
theorem ObjOk.stay (x:ObjOk P w H h a o) (k:∀ b u,(b=a\/H b=some (.own a))->h.get? b=some u->h'.get? b=some u)
  (ho:∀ b,H b=some (.own a)->H' b=some (.own a)) (ht:∀ b xs,H b=some (.tup xs)->H' b=some (.tup xs)):ObjOk P w H' h' a o:=by
 induction o with
 | lst xs=>obtain ⟨z,its,n,r,e⟩:=x;exact ⟨z,its,n,r,k _ _ (.inl rfl) e⟩
 | tup xs=>obtain ⟨z,its,r,ob,e,c⟩:=x;exact ⟨z,its,r,ob,k _ _ (.inl rfl) e,c⟩
 | dK kvs=>obtain ⟨z,y,vs,r,ob,es,ep,e,c⟩:=x;exact ⟨z,y,vs,r,ob,es,ep,k _ _ (.inl rfl) e,c⟩
 | dT kvs =>
  obtain ⟨z,y,xs,r,ob,es,ep,e,c⟩:=x;exact ⟨z,y,xs,Paired.mapP r λ p q z=>⟨z.1,ht _ _ z.2.1,z.2.2⟩,ob,es,ep,k _ _ (.inl rfl) e,c⟩
 | set S n=>obtain ⟨ob,es,ep,t,e,c⟩:=x;exact ⟨ob,es,ep,t,k _ _ (.inl rfl) e,c⟩
 | ins C dx fs =>
  obtain ⟨d,z,ne,e,mA,⟨od,es,ep,e2,c⟩,r⟩:=x;exact ⟨ho _ d,z,ne,k _ _ (.inl rfl) e,mA,⟨od,es,ep,k _ _ (.inr d) e2,c⟩,r⟩
 | own y=>obtain ⟨ob,e⟩:=x;exact ⟨ob,k _ _ (.inl rfl) e⟩
 | xd fs=>obtain ⟨mA,⟨od,es,ep,e,c⟩,r⟩:=x;exact ⟨mA,⟨od,es,ep,k _ _ (.inl rfl) e,c⟩,r⟩
 | rng lo hi=>obtain ⟨t,u,v,e⟩:=x;exact ⟨t,u,v,k _ _ (.inl rfl) e⟩
 | frz ob u ih=>obtain ⟨e,q⟩:=x;exact ⟨k _ _ (.inl rfl) e,ih q⟩
 | tbl ps =>
  have e:h.get? a=some { cls:=.none,data:=.fields ps }:=x;show h'.get? a=some { cls:=.none,data:=.fields ps };exact k a _ (.inl rfl) e
 | met f y =>
  have e:h.get? a=some (PySem.W.methodObj (.ref f) (.ref y)):=x;show h'.get? a=some (PySem.W.methodObj (.ref f) (.ref y));exact k a _ (.inl rfl) e
 | ext φ=>obtain ⟨p,⟨o,e⟩,st⟩:=x;exact ⟨st _ _ p λ o q=>k _ _ (.inl rfl) q,⟨o,k _ _ (.inl rfl) e⟩,st⟩
theorem HOk.lt (x:HOk P w H h) (e:H a=some o):a<h.objs.size:=(x a o e).lt
theorem HOk.fresh (x:HOk P w H h) (e:h.objs.size<=a):H a=none:=by
 cases q:H a with
 | none=>rfl
 | some u=>exact absurd (Nat.lt_of_lt_of_le (x.lt q) e) (Nat.lt_irrefl _)
theorem HOk.kept (x:HOk P w H h) (k:∀ b u,h.get? b=some u->h'.get? b=some u):HOk P w H h':=λ a o e =>
 (x a o e).stay (λ b u _ q=>k b u q) (λ _ q=>q) λ _ _ q=>q
theorem HOk.laid (x:HOk P w H h) (k:∀ b u,h.get? b=some u->h'.get? b=some u) (hp:h.objs.size<=a) (new:ObjOk P w (upd H a o) h' a o):HOk P w (upd H a o) h':=λ b u e=>by
 have hn:=x.fresh hp;by_cases hb:b=a
 ·subst hb;rw [kC] at e;cases e;exact new
 ·rw [kK hb] at e
  exact (x b u e).stay (λ c v _ q=>k c v q) (λ c q=>by rw [kK (kL q hn)];exact q) λ c xs q=>by rw [kK (kL q hn)];exact q
end
def Rd (H:Hp) (a:Addr) (u:HO):Prop:=H a=some u\/∃ o,H a=some (.frz o u)
theorem Rd.ok {P:Program} {w:World} {H:Hp} {h:Heap} {a:Addr} {u:HO} (r:Rd H a u) (x:HOk P w H h):ObjOk P w H h a u:=by
 rcases r with r | ⟨o,r⟩
 ·exact x a u r
 ·obtain ⟨_,q⟩:=x a _ r
  exact q
def Mut:Option HO->Prop
 | some (.lst _)=>True
 | some (.dK _)=>True
 | some (.dT _)=>True
 | some (.set _ _)=>True
 | some (.ins _ _ _)=>True
 | some (.ext _)=>True
 | _=>False
section
variable {P:Program} {w:World} {H:Hp} {h h':Heap} {x e:Addr} {o':HO}
theorem HOk.write (ok:HOk P w H h) (mu:Mut (H x)) (he:e=x\/H e=some (.own x)) (k:∀ b u,b≠e->h.get? b=some u->h'.get? b=some u) (heo:∃ u,h'.get? e=some u)
  (new:ObjOk P w (upd H x o') h' x o'):HOk P w (upd H x o') h':=λ b u q=>by
 have nown:∀ c y,H c=some (.own y)->c≠x:=λ c y r z=>by subst z;rw [r] at mu;exact mu
 have ntup:∀ c xs,H c=some (.tup xs)->c≠x:=λ c xs r z=>by subst z;rw [r] at mu;exact mu
 by_cases hb:b=x
 ·subst hb;rw [kC] at q;cases q;exact new
 ·rw [kK hb] at q
  by_cases hbe:b=e
  ·have q':H b=some (.own x):=by
    rcases he with z | z
    ·exact absurd (hbe.trans z) hb
    ·rw [hbe];exact z
   rw [q] at q';cases q';obtain ⟨v,hv⟩:=heo;exact ⟨v,by rw [hbe];exact hv⟩
  ·refine (ok b u q).stay (λ c v hc r=>k c v ?_ r) (λ c r=>by rw [kK (nown c b r)];exact r) λ c xs r=>by rw [kK (ntup c xs r)];exact r
   rcases hc with rfl | hc
   ·exact hbe
   ·rintro rfl
    rcases he with z | z
    ·exact nown c b hc z
    ·rw [hc] at z;cases z;exact hb rfl
end
structure Un (fs ex:List Addr) (H H':Hp) (h h':Heap):Prop where
 keep:∀ b o,h.get? b=some o->H b=none->b∉fs->b∉ex->h'.get? b=some o
 slot:∀ b o,h.get? b=some o->H b=none->b∈fs->b∉ex->∃ sl,h'.get? b=some { o with slots:=sl }
 free:∀ b o,h.get? b=some o->H b=none->b∉ex->H' b=none
 there:∀ b o,h.get? b=some o->b∉ex->∃ o',h'.get? b=some o'
 tups:∀ b xs,H b=some (.tup xs)->H' b=some (.tup xs)
 frzs:∀ b o u,H b=some (.frz o u)->H' b=some (.frz o u)
 tbls:∀ b ps,H b=some (.tbl ps)->∃ more,H' b=some (.tbl (ps++more))
section
variable {fs fs' ex ex':List Addr} {H H1 H2:Hp} {h h1 h2 h':Heap} {a x e:Addr} {o:HO}
theorem Un.any (u:Un fs ex H H1 h h1) {b:Addr} {ob:Obj} (q:h.get? b=some ob) (n:H b=none) (hx:b∉ex):∃ sl,h1.get? b=some { ob with slots:=sl }:=by
 by_cases hb:b∈fs
 ·exact u.slot b ob q n hb hx
 ·exact ⟨ob.slots,u.keep b ob q n hb hx⟩
theorem Un.kept (k:∀ b u,h.get? b=some u->h'.get? b=some u):Un fs ex H H h h' :=
 ⟨λ b ob q _ _ _=>k b ob q,λ b ob q _ _ _=>⟨ob.slots,k b ob q⟩,λ _ _ _ n _=>n,λ b ob q _=>⟨ob,k b ob q⟩,λ _ _ q=>q,λ _ _ _ q=>q,λ _ ps q=>⟨#[],by rw [q];simp⟩⟩
theorem Un.refl:Un fs ex H H h h:=Un.kept λ _ _ q=>q
theorem Un.laid (k:∀ b u,h.get? b=some u->h'.get? b=some u) (hp:h.objs.size<=a) (hn:H a=none):Un fs ex H (upd H a o) h h' where
 keep:=λ b u q _ _ _=>k b u q
 slot:=λ b u q _ _ _=>⟨u.slots,k b u q⟩
 free:=λ b u q n _=>by rw [kK (Nat.ne_of_lt (Nat.lt_of_lt_of_le (Heap.lt_size q) hp))];exact n
 there:=λ b u q _=>⟨u,k b u q⟩
 tups:=λ b xs q=>by rw [kK (kL q hn)];exact q
 frzs:=λ b u xs q=>by rw [kK (kL q hn)];exact q
 tbls:=λ b ps q=>⟨#[],by rw [kK (kL q hn),q];simp⟩
theorem Un.write (mu:Mut (H x)) (he:e=x\/H e=some (.own x)) (k:∀ b u,b≠e->h.get? b=some u->h'.get? b=some u) (heo:∃ u,h'.get? e=some u):Un fs ex H (upd H x o) h h':=by
 have hx:∀ b,H b=none->b≠x:=λ b n z=>by subst z;rw [n] at mu;exact mu
 have hb:∀ b,H b=none->b≠e:=λ b n z=>by
  subst z;rcases he with r | r
  ·exact hx b n r
  ·rw [n] at r;cases r
 have hm:∀ b u,H b=some u->¬ Mut (some u)->b≠x:=λ b u q nm z=>by subst z;rw [q] at mu;exact nm mu
 refine ⟨λ b u q n _ _=>k b u (hb b n) q,λ b u q n _ _=>⟨u.slots,k b u (hb b n) q⟩,λ b u q n _=>by rw [kK (hx b n)];exact n,λ b u q _=>?_,
  λ b xs q=>by rw [kK (hm b _ q λ z=>z)];exact q,λ b u xs q=>by rw [kK (hm b _ q λ z=>z)];exact q,λ b ps q=>⟨#[],by rw [kK (hm b _ q λ z=>z),q];simp⟩⟩
 by_cases hbe:b=e
 ·subst hbe;exact heo
 ·exact ⟨u,k b u hbe q⟩
end
def trk (h:Heap) (H:Hp):List Addr:=(List.range h.objs.size).filter λ a=>(H a).isSome
def pM (h:Heap) (H:Hp):Heap:=PySem.W.hideAll h (trk h H)
theorem kDQ (h:Heap) (H:Hp):(pM h H).objs.size=h.objs.size:=PySem.W.hideAll_size _ _
theorem kGJ {h:Heap} {H:Hp} {b:Addr} {o:Obj} (e:h.get? b=some o) (n:H b=none):(pM h H).get? b=some o :=
 PySem.W.hideAll_get _ e λ hm=>by
  have q:(H b).isSome=true:=(mem_filter.mp hm).2;rw [n] at q;simp at q
theorem kIK {h:Heap} {H:Hp} {b:Addr} {o:Obj} (e:(pM h H).get? b=some o):h.get? b=some o/\H b=none:=by
 have e':h.get? b=some o:=PySem.W.of_hideAll (trk h H) e;refine ⟨e',?_⟩
 cases q:H b with
 | none=>rfl
 | some x =>
  have hm:b∈trk h H:=mem_filter.mpr ⟨mem_range.mpr (Heap.lt_size e'),by simp [q]⟩;have z:(pM h H).get? b=none:=PySem.W.hideAll_none (trk h H) hm;rw [z] at e;cases e
structure Mod (K:PySem.W.Frag) (mg:Str->Option Value) (base:Heap):Prop where
 kin:K.In base
 glob:base.Ns mainGlobals mg
 blt:∃ mb,base.Ns builtinsNs mb/\∀ x:Str,x≠"__name__"->mb x=bootBuiltins x
 nolimit:base.NoLimit
structure Cx where
 prog:Program
 w:World
 K:PySem.W.Frag
 mg:Str->Option Value
 base:Heap
 A:Around
 N:List Str
 s₀:Shared
 H₀:Hp
 env:Env
 outer:List Env
 stack:List Env
 ex:List Addr
 fn:Str->Bool
 calm:Bool
 pn:List (Addr×Obj)
 xe:Value->Shared->Prop
def frs (l:List Env):List Addr:=l.filterMap (·.frame)
abbrev Cx.fs (X:Cx):List Addr:=frs X.outer
def Vis (sc:Scope) (x:Str):Prop:=sc.names.lookup x=some .local\/sc.names.lookup x=some .cell\/sc.names.lookup x=some .free
def Loc (sc:Scope) (x:Str):Prop:=sc.names.lookup x=some .local\/sc.names.lookup x=some .cell
def kPE (env:Env) (h:Heap) (m:Str->Option Value) (x:Str) (u:Value):Prop :=
 (env.kindOf x=some .local/\m x=some u)\/((env.kindOf x=some .cell\/env.kindOf x=some .free)/\∃ c,env.cells.lookup x=some c/\h.IsCell c (some u))
structure Cx.Ok (X:Cx):Prop where
 mod:Mod X.K X.mg X.base
 kind:X.env.scope.kind=.function
 glob:X.env.globals=mainGlobals
 blt:X.env.builtins=builtinsNs
 above:X.s₀.heap.objs.size<=X.env.locals
 inj:∀ x y c,X.env.cells.lookup x=some c->X.env.cells.lookup y=some c->x=y
 has:∀ x,(X.env.kindOf x=some .cell\/X.env.kindOf x=some .free)->∃ c,X.env.cells.lookup x=some c
 cab:∀ x c,X.fn x=true->X.env.cells.lookup x=some c->X.s₀.heap.objs.size<=c
 hd:X.calm=true->X.A.handled=none
 frames:X.A.frames=some X.stack
 stk:X.stack=X.outer\/(X.stack=X.env::X.outer/\X.env.frame=some X.env.locals)
 exf:∀ b∈X.ex,b≠X.env.locals/\∀ x c,X.env.cells.lookup x=some c->c≠b
 bs:∀ b o,X.base.get? b=some o->X.s₀.heap.get? b=some o/\X.H₀ b=none
 bsz:X.base.objs.size<=X.s₀.heap.objs.size
 noex:∀ b o,X.base.get? b=some o->b∉X.ex
 exfs:∀ b∈X.ex,b∉X.fs
 funs:X.s₀.heap.FunFrames X.base X.outer
 frf:∀ b∈X.fs,X.H₀ b=none
structure Inv (X:Cx) (pins:List (Addr×Obj)) (σ:List (Option V)) (H:Hp) (s:Shared):Prop where
 ok:X.Ok
 os:s.os=X.s₀.os
 bare:AllBare s.gens
 base:Un X.fs X.ex X.H₀ H X.s₀.heap s.heap
 loc:∃ m,s.heap.Ns X.env.locals m/\∀ (i:Nat) (x:Str) (v:V),X.N[i]?=some x->σ[i]?=some (some v)->Vis X.env.scope x->∃ u,RelV v u/\kPE X.env s.heap m x u
 cell:∀ x c,X.env.cells.lookup x=some c->∃ v,s.heap.IsCell c v
 free:H X.env.locals=none
 freeC:∀ x c,X.env.cells.lookup x=some c->H c=none
 pin:∀ p∈X.pn++pins,s.heap.get? p.1=some p.2/\H p.1=none/\p.1≠X.env.locals/\p.1∉X.fs/\∀ v,p.2.data≠.cell v
 hok:HOk X.prog X.w H s.heap
 len:σ.length=X.N.length
section
variable {X:Cx} {pins:List (Addr×Obj)} {σ:List (Option V)} {H H':Hp} {s:Shared} {h':Heap}
theorem Cx.Ok.nofr (ok:X.Ok) {b:Addr} {o:Obj} (e:X.base.get? b=some o):b∉X.fs:=λ hb=>by
 have:=(ok.funs.mem hb).1;rw [e] at this;cases this
theorem Inv.bs (I:Inv X pins σ H s):∀ b o,X.base.get? b=some o->s.heap.get? b=some o/\H b=none:=λ b o e =>
 ⟨I.base.keep b o (I.ok.bs b o e).1 (I.ok.bs b o e).2 (I.ok.nofr e) (I.ok.noex b o e),I.base.free b o (I.ok.bs b o e).1 (I.ok.bs b o e).2 (I.ok.noex b o e)⟩
theorem Inv.bk (I:Inv X pins σ H s):∀ b o,X.base.get? b=some o->s.heap.get? b=some o:=λ b o e=>(I.bs b o e).1
theorem Inv.mod (I:Inv X pins σ H s):Mod X.K X.mg X.base:=I.ok.mod
theorem Inv.kIn (I:Inv X pins σ H s):X.K.In s.heap:=I.ok.mod.kin.keeps I.bk
theorem Inv.lt (I:Inv X pins σ H s):X.env.locals<s.heap.objs.size:=let ⟨_,hn,_⟩:=I.loc;hn.lt
theorem Inv.sz (I:Inv X pins σ H s):X.s₀.heap.objs.size<=s.heap.objs.size:=Nat.le_trans I.ok.above (Nat.le_of_lt I.lt)
theorem Inv.nofs (I:Inv X pins σ H s) {a:Addr} (h:s.heap.objs.size<=a):a∉X.fs:=λ hb=>by
 obtain ⟨_,o,ho,_⟩:=I.ok.funs.mem hb;exact absurd (Nat.lt_of_lt_of_le (Heap.lt_size ho) (Nat.le_trans I.sz h)) (Nat.lt_irrefl _)
theorem Inv.cne (I:Inv X pins σ H s):∀ x c,X.env.cells.lookup x=some c->c≠X.env.locals:=λ x c e z=>by
 obtain ⟨v,o,ho,hd⟩:=I.cell x c e;obtain ⟨m,⟨o',es,ep,ho',hd',_⟩,_⟩:=I.loc;rw [z,ho'] at ho;cases ho;rw [hd'] at hd;cases hd
theorem Inv.funs (I:Inv X pins σ H s):s.heap.FunFrames X.base X.outer:=by
 have all:∀ (l:List Env),(∀ b∈frs l,b∈X.fs)->X.s₀.heap.FunFrames X.base l->s.heap.FunFrames X.base l:=by
  intro l
  induction l with
  | nil=>intro _ _;trivial
  | cons env r ih =>
   intro hs hl;obtain ⟨hk,⟨L,o,hf,hn,ho,hd⟩,hr⟩:=hl;have hL:L∈X.fs:=hs L (by unfold frs;rw [List.filterMap_cons,hf];exact mem_cons_self);obtain ⟨sl,e⟩:=I.base.slot L o ho (I.ok.frf L hL) hL λ z=>I.ok.exfs L z hL;exact ⟨hk,⟨L,_,hf,hn,e,hd⟩,ih (λ b hb=>hs b (by unfold frs;rw [List.filterMap_cons,hf];exact mem_cons_of_mem _ hb)) hr⟩
 exact all X.outer (λ _ hb=>hb) I.ok.funs
theorem Inv.stack (I:Inv X pins σ H s):s.heap.FunFrames X.base X.stack:=by
 rcases I.ok.stk with e | ⟨e,hf⟩
 ·rw [e];exact I.funs
 ·rw [e]
  obtain ⟨m,hn,_⟩:=I.loc;refine .cons (by rw [I.ok.kind];decide) hf hn ?_ I.funs;exact Heap.get?_none_of_le (Nat.le_trans I.ok.bsz I.ok.above)
theorem Inv.stkSub (I:Inv X pins σ H s):∀ b∈frs X.stack,b∈X.env.locals::X.fs:=λ b hb=>by
 rcases I.ok.stk with e | ⟨e,hf⟩
 ·rw [e] at hb;exact mem_cons_of_mem _ hb
 ·rw [e] at hb
  unfold frs at hb;rw [List.filterMap_cons,hf] at hb;exact hb
theorem Inv.stkFree (I:Inv X pins σ H s):∀ b∈frs X.stack,H b=none:=λ b hb=>by
 rcases mem_cons.mp (I.stkSub b hb) with e | hb
 ·rw [e];exact I.free
 ·obtain ⟨_,o,ho,_⟩:=I.ok.funs.mem hb
  exact I.base.free b o ho (I.ok.frf b hb) λ z=>I.ok.exfs b z hb
theorem Inv.step {g':Array GenState} {t':Nat} {d':Drawn} {ch:List Addr} (I:Inv X pins σ H s)
  (hch:∀ b∈ch,(b∈X.ex\/X.s₀.heap.objs.size<=b)/\b≠X.env.locals/\(∀ x c,X.env.cells.lookup x=some c->c≠b)/\∀ p∈X.pn++pins,p.1≠b)
  (keep:∀ b o,b≠X.env.locals->b∉X.fs->b∉ch->s.heap.get? b=some o->H b=none->h'.get? b=some o)
  (slot:∀ b o,b≠X.env.locals->b∈X.fs->b∉ch->s.heap.get? b=some o->H b=none->∃ sl,h'.get? b=some { o with slots:=sl }) (free:∀ b o,b∉ch->s.heap.get? b=some o->H b=none->H' b=none)
  (there:∀ b o,b∉ch->s.heap.get? b=some o->∃ o',h'.get? b=some o')
  (tups:∀ b xs,H b=some (.tup xs)->H' b=some (.tup xs)) (frzs:∀ b o u,H b=some (.frz o u)->H' b=some (.frz o u)) (tbls:∀ b ps,H b=some (.tbl ps)->∃ more,H' b=some (.tbl (ps++more)))
  (ns:∀ m,s.heap.Ns X.env.locals m->h'.Ns X.env.locals m) (hok:HOk X.prog X.w H' h') (hg:AllBare g') :
  Inv X pins σ H' { s with heap:=h',gens:=g',drawn:=d',toks:=t' }:=by
 have neL:∀ b o,X.s₀.heap.get? b=some o->b≠X.env.locals:=λ b o e=>Nat.ne_of_lt (Nat.lt_of_lt_of_le (Heap.lt_size e) I.ok.above)
 have neC:∀ b o,X.s₀.heap.get? b=some o->b∉X.ex->b∉ch:=λ b o e hx hb=>by
  rcases (hch b hb).1 with z | z
  ·exact hx z
  ·exact absurd (Nat.lt_of_lt_of_le (Heap.lt_size e) z) (Nat.lt_irrefl _)
 have cellK:∀ x c,X.env.cells.lookup x=some c->∀ v,s.heap.IsCell c v->h'.IsCell c v:=λ x c e v ⟨o,ho,hd⟩=>by
  have nch:c∉ch:=λ z=>(hch c z).2.2.1 x c e rfl;by_cases hc:c∈X.fs
  ·obtain ⟨sl,q⟩:=slot c o (I.cne x c e) hc nch ho (I.freeC x c e)
   exact ⟨_,q,hd⟩
  ·exact ⟨o,keep c o (I.cne x c e) hc nch ho (I.freeC x c e),hd⟩
 refine ⟨I.ok,I.os,hg,⟨λ b o e n hb hx=>?_,λ b o e n hb hx=>?_,λ b o e n hx=>?_,λ b o e hx=>?_,λ b xs e=>tups b xs (I.base.tups b xs e),λ b o xs e=>frzs b o xs (I.base.frzs b o xs e),λ b ps e=>?_⟩,?_,λ x c e=>?_,?_,λ x c e=>?_,λ p hp=>?_,hok,I.len⟩
 ·exact keep b o (neL b o e) hb (neC b o e hx) (I.base.keep b o e n hb hx) (I.base.free b o e n hx)
 ·obtain ⟨sl,e1⟩:=I.base.slot b o e n hb hx
  obtain ⟨sl',e2⟩:=slot b _ (neL b o e) hb (neC b o e hx) e1 (I.base.free b o e n hx);exact ⟨sl',e2⟩
 ·obtain ⟨o',e1⟩:=I.base.there b o e hx
  exact free b o' (neC b o e hx) e1 (I.base.free b o e n hx)
 ·obtain ⟨o',e1⟩:=I.base.there b o e hx
  exact there b o' (neC b o e hx) e1
 ·obtain ⟨m1,e1⟩:=I.base.tbls b ps e
  obtain ⟨m2,e2⟩:=tbls b _ e1;exact ⟨m1++m2,by rw [e2,Array.append_assoc]⟩
 ·obtain ⟨m,hn,hl⟩:=I.loc
  refine ⟨m,ns m hn,λ i x v e1 e2 e3=>?_⟩;obtain ⟨u,r,l⟩:=hl i x v e1 e2 e3;refine ⟨u,r,?_⟩;rcases l with l | ⟨k,c,e,z⟩
  ·exact .inl l
  ·exact .inr ⟨k,c,e,cellK x c e _ z⟩
 ·obtain ⟨v,z⟩:=I.cell x c e
  exact ⟨v,cellK x c e v z⟩
 ·obtain ⟨m,⟨o,_,_,ho,_⟩,_⟩:=I.loc
  exact free _ o (λ z=>(hch _ z).2.1 rfl) ho I.free
 ·obtain ⟨v,o,ho,hd⟩:=I.cell x c e
  exact free c o (λ z=>(hch c z).2.2.1 x c e rfl) ho (I.freeC x c e)
 ·obtain ⟨e,n,ne,nf,d⟩:=I.pin p hp
  have nch:p.1∉ch:=λ z=>(hch p.1 z).2.2.2 p hp rfl;exact ⟨keep p.1 p.2 ne nf nch e n,free p.1 p.2 nch e n,ne,nf,d⟩
theorem Inv.un {t':Nat} (I:Inv X pins σ H s) (u:Un X.fs [] H H' s.heap h') (hok:HOk X.prog X.w H' h'):Inv X pins σ H' { s with heap:=h',toks:=t' }:=by
 obtain ⟨m,⟨o,es,ep,ho,r⟩,_⟩:=id I.loc;obtain ⟨sl,hL⟩:=u.any ho I.free (by simp)
 exact I.step (g':=s.gens) (d':=s.drawn) (ch:=[]) (λ _ z=>nomatch z) (λ b o _ hb _ e n=>u.keep b o e n hb (by simp)) (λ b o _ hb _ e n=>u.slot b o e n hb (by simp)) (λ b o _ e n=>u.free b o e n (by simp)) (λ b o _ e=>u.there b o e (by simp)) u.tups u.frzs u.tbls (λ m' hm=>by
  obtain ⟨o',es',ep',ho',r'⟩:=hm;rw [ho] at ho';cases ho';exact ⟨_,es',ep',hL,r'⟩) hok I.bare
theorem Inv.call {g':Array GenState} {t':Nat} {d':Drawn} {ch:List Addr} (I:Inv X pins σ H s) (u:Un (frs X.stack) ch H H' s.heap h') (hok:HOk X.prog X.w H' h') (hg:AllBare g')
  (hch:∀ b∈ch,(b∈X.ex\/X.s₀.heap.objs.size<=b)/\b≠X.env.locals/\(∀ x c,X.env.cells.lookup x=some c->c≠b)/\∀ p∈X.pn++pins,p.1≠b) :
  Inv X pins σ H' { s with heap:=h',gens:=g',drawn:=d',toks:=t' }:=by
 obtain ⟨m,⟨o,es,ep,ho,r⟩,_⟩:=id I.loc;obtain ⟨sl,hL⟩:=u.any ho I.free λ z=>(hch _ z).2.1 rfl
 exact I.step (ch:=ch) hch (λ b o hL hb hc e n=>u.keep b o e n (λ z=>(mem_cons.mp (I.stkSub b z)).elim hL hb) hc) (λ b o _ _ hc e n=>u.any e n hc) (λ b o hc e n=>u.free b o e n hc) (λ b o hc e=>u.there b o e hc) u.tups u.frzs u.tbls (λ m' hm=>by
  obtain ⟨o',es',ep',ho',r'⟩:=hm;rw [ho] at ho';cases ho';exact ⟨_,es',ep',hL,r'⟩) hok hg
theorem Inv.turned {t':Nat} {it:Addr} (I:Inv X pins σ H s) (k:∀ b o,b≠it->s.heap.get? b=some o->h'.get? b=some o) (hn:H it=none) (hL:it≠X.env.locals)
  (h1:it∈X.ex\/X.s₀.heap.objs.size<=it) (h2:∀ x c,X.env.cells.lookup x=some c->c≠it) (h3:∀ p∈X.pn++pins,p.1≠it):Inv X pins σ H { s with heap:=h',toks:=t' }:=by
 have nit:∀ b u,H b=some u->b≠it:=λ b u e z=>by rw [z,hn] at e;cases e
 refine I.step (g':=s.gens) (d':=s.drawn) (ch:=[it]) (λ b hb=>?_) (λ b o _ _ hc e _=>k b o (λ z=>hc (by simp [z])) e) (λ b o _ _ hc e _=>⟨o.slots,k b o (λ z=>hc (by simp [z])) e⟩) (λ _ _ _ _ n=>n)
  (λ b o hc e=>⟨o,k b o (λ z=>hc (by simp [z])) e⟩) (λ _ _ e=>e) (λ _ _ _ e=>e) (λ b ps e=>⟨#[],by rw [e];simp⟩) (λ m hm=>?_) (λ b u e=>?_) I.bare
 ·have e:b=it:=by simpa using hb
  subst e;exact ⟨h1,hL,h2,h3⟩
 ·obtain ⟨o,es,ep,ho,r⟩:=hm
  exact ⟨o,es,ep,k _ o (Ne.symm hL) ho,r⟩
 ·refine (I.hok b u e).stay (λ c v hc q=>k c v ?_ q) (λ _ q=>q) λ _ _ q=>q
  rcases hc with z | z
  ·rw [z];exact nit b u e
  ·exact nit c _ z
theorem Inv.tok (I:Inv X pins σ H s) (t:Nat):Inv X pins σ H { s with toks:=t }:=I.un (h':=s.heap) (t':=t) Un.refl I.hok
theorem Inv.kept {t':Nat} (I:Inv X pins σ H s) (k:∀ b u,s.heap.get? b=some u->h'.get? b=some u):Inv X pins σ H { s with heap:=h',toks:=t' }:=I.un (Un.kept k) (I.hok.kept k)
theorem Inv.laid {a:Addr} {o:HO} {t':Nat} (I:Inv X pins σ H s) (k:∀ b u,s.heap.get? b=some u->h'.get? b=some u) (hp:s.heap.objs.size<=a) (new:ObjOk X.prog X.w (upd H a o) h' a o) :
  Inv X pins σ (upd H a o) { s with heap:=h',toks:=t' }:=I.un (Un.laid k hp (I.hok.fresh hp)) (I.hok.laid k hp new)
theorem Inv.write {x e:Addr} {o:HO} {t':Nat} (I:Inv X pins σ H s) (mu:Mut (H x)) (he:e=x\/H e=some (.own x)) (k:∀ b u,b≠e->s.heap.get? b=some u->h'.get? b=some u) (heo:∃ u,h'.get? e=some u)
  (new:ObjOk X.prog X.w (upd H x o) h' x o):Inv X pins σ (upd H x o) { s with heap:=h',toks:=t' }:=I.un (Un.write mu he k heo) (I.hok.write mu he k heo new)
theorem Inv.pins_of {pins':List (Addr×Obj)} (I:Inv X pins σ H s) (h:∀ p∈pins',s.heap.get? p.1=some p.2/\H p.1=none/\p.1≠X.env.locals/\p.1∉X.fs/\∀ v,p.2.data≠.cell v):Inv X pins' σ H s :=
 ⟨I.ok,I.os,I.bare,I.base,I.loc,I.cell,I.free,I.freeC,λ p hp=>(mem_append.mp hp).elim (λ z=>I.pin p (mem_append_left _ z)) (h p),I.hok,I.len⟩
theorem rT {N:List Str} (hN:N.Nodup) {i j:Nat} {x:Str} (a:N[i]?=some x) (b:N[j]?=some x):i=j:=by
 obtain ⟨h1,e1⟩:=List.getElem?_eq_some_iff.mp a;obtain ⟨h2,e2⟩:=List.getElem?_eq_some_iff.mp b;exact (List.getElem_inj hN).mp (e1.trans e2.symm)
theorem mY {M:Model} {A:Around} {E:Value->Shared->Prop} {i:Nat} {x:Str} {v:V} {u:Value} {Q:Unit->Shared->Prop} (I:Inv X pins σ H s) (hN:X.N.Nodup) (hi:X.N[i]?=some x) (hx:Loc X.env.scope x) (r:RelV v u)
  (h:∀ s',Inv X pins (σ.set i (some v)) H s'->(∃ a,Heap.SameBut a s.heap s'.heap/\(a=X.env.locals\/X.env.cells.lookup x=some a))->Q () s') (hf:X.fn x=true\/X.env.scope.names.lookup x=some .local:=by first | exact .inl rfl | exact .inr rfl | assumption):wpAny M A (storeName X.env x u) Q E s:=by
 obtain ⟨m,hn,hl⟩:=id I.loc;have hcls:(X.env.scope.kind == .class || (X.env.scope.kind == .module && X.env.locals != X.env.globals))=false:=by rw [I.ok.kind];rfl
 have hiσ:i<σ.length:=by rw [I.len];exact (List.getElem?_eq_some_iff.mp hi).1
 have cne:=I.cne
 have tracked:∀ {a:Addr} {h':Heap},(∃ o,s.heap.get? a=some o/\H a=none)->Heap.SameBut a s.heap h'->HOk X.prog X.w H h':=λ {a h'} ha hs b ob e=>by
  obtain ⟨_,_,hfree⟩:=ha;refine (I.hok b ob e).stay (λ c w' hc q=>(hs.2 c ?_).trans q) (λ _ q=>q) λ _ _ q=>q;rintro rfl;rcases hc with rfl | hc
  ·rw [hfree] at e;cases e
  ·rw [hfree] at hc;cases hc
 rcases hx with hk | hk
 ·refine wpAny_storeName_local hk hn (λ h' hn' hs=>?_) hcls
  obtain ⟨oL,_,_,hoL,_⟩:=id hn;refine h _ ⟨I.ok,I.os,I.bare,⟨λ b o e n hb hx=>?_,λ b o e n hb hx=>?_,I.base.free,λ b o e hx=>?_,I.base.tups,I.base.frzs,I.base.tbls⟩,⟨_,hn',λ j y v' e1 e2 e3=>?_⟩,λ y c e=>?_,I.free,I.freeC,λ p hp=>?_,tracked ⟨oL,hoL,I.free⟩ hs,by simpa using I.len⟩ ⟨_,hs,.inl rfl⟩
  ·exact (hs.2 b (Nat.ne_of_lt (Nat.lt_of_lt_of_le (Heap.lt_size e) I.ok.above))).trans (I.base.keep b o e n hb hx)
  ·obtain ⟨sl,e1⟩:=I.base.slot b o e n hb hx
   exact ⟨sl,(hs.2 b (Nat.ne_of_lt (Nat.lt_of_lt_of_le (Heap.lt_size e) I.ok.above))).trans e1⟩
  ·obtain ⟨o',e1⟩:=I.base.there b o e hx
   exact ⟨o',(hs.2 b (Nat.ne_of_lt (Nat.lt_of_lt_of_le (Heap.lt_size e) I.ok.above))).trans e1⟩
  ·by_cases hj:j=i
   ·subst hj
    rw [hi] at e1;cases e1;rw [List.getElem?_set_self hiσ] at e2;cases e2
    exact ⟨u,r,.inl ⟨hk,by simp⟩⟩
   ·rw [List.getElem?_set_ne (Ne.symm hj)] at e2
    obtain ⟨u',r',q⟩:=hl j y v' e1 e2 e3;refine ⟨u',r',?_⟩;rcases q with ⟨k,e⟩ | ⟨k,c,e,z⟩
    ·refine .inl ⟨k,?_⟩
     have:y≠x:=λ e=>hj (rT hN e1 (e ▸ hi));simp [this,e]
    ·exact .inr ⟨k,c,e,z.sameBut hs (cne y c e)⟩
  ·obtain ⟨w',z⟩:=I.cell y c e
   exact ⟨w',z.sameBut hs (cne y c e)⟩
  ·obtain ⟨e,n,ne,nf,d⟩:=I.pin p hp
   exact ⟨(hs.2 p.1 ne).trans e,n,ne,nf,d⟩
 ·have hfn:X.fn x=true:=by
   rcases hf with z | z
   ·exact z
   ·rw [z] at hk;cases hk
  obtain ⟨c,hc⟩:=I.ok.has x (.inl hk);obtain ⟨w',z⟩:=I.cell x c hc;refine wpAny_storeName_cell I.ok.kind hk hc z (λ h' hc' hs=>?_);obtain ⟨oc,hoc,hocd⟩:=id z;refine h { s with heap:=h' } ⟨I.ok,I.os,I.bare,⟨λ b o e n hb hx=>?_,λ b o e n hb hx=>?_,I.base.free,λ b o e hx=>?_,I.base.tups,I.base.frzs,I.base.tbls⟩,⟨m,hn.sameBut hs (Ne.symm (cne x c hc)),λ j y v' e1 e2 e3=>?_⟩,λ y c' e=>?_,I.free,I.freeC,λ p hp=>?_,tracked ⟨oc,hoc,I.freeC x c hc⟩ hs,by simpa using I.len⟩ ⟨c,hs,.inr hc⟩
  ·exact (hs.2 b (Nat.ne_of_lt (Nat.lt_of_lt_of_le (Heap.lt_size e) (I.ok.cab x c hfn hc)))).trans (I.base.keep b o e n hb hx)
  ·obtain ⟨sl,e1⟩:=I.base.slot b o e n hb hx
   exact ⟨sl,(hs.2 b (Nat.ne_of_lt (Nat.lt_of_lt_of_le (Heap.lt_size e) (I.ok.cab x c hfn hc)))).trans e1⟩
  ·obtain ⟨o',e1⟩:=I.base.there b o e hx
   exact ⟨o',(hs.2 b (Nat.ne_of_lt (Nat.lt_of_lt_of_le (Heap.lt_size e) (I.ok.cab x c hfn hc)))).trans e1⟩
  ·by_cases hj:j=i
   ·subst hj
    rw [hi] at e1;cases e1;rw [List.getElem?_set_self hiσ] at e2;cases e2
    exact ⟨u,r,.inr ⟨.inl hk,c,hc,hc'⟩⟩
   ·rw [List.getElem?_set_ne (Ne.symm hj)] at e2
    obtain ⟨u',r',q⟩:=hl j y v' e1 e2 e3;refine ⟨u',r',?_⟩;rcases q with q | ⟨k,c',e,z'⟩
    ·exact .inl q
    ·refine .inr ⟨k,c',e,z'.sameBut hs ?_⟩
     rintro rfl;exact hj (rT hN e1 (I.ok.inj _ _ _ e hc ▸ hi))
  ·by_cases hcc:c'=c
   ·subst hcc;exact ⟨_,hc'⟩
   ·obtain ⟨w2,z2⟩:=I.cell y c' e
    exact ⟨w2,z2.sameBut hs hcc⟩
  ·obtain ⟨e,n,ne,nf,d⟩:=I.pin p hp
   refine ⟨(hs.2 p.1 ?_).trans e,n,ne,nf,d⟩;intro q;rw [q,hoc] at e;have q':oc=p.2:=Option.some.inj e;exact d w' (by rw [<-q'];exact hocd)
theorem rH {M:Model} {A:Around} {E:Value->Shared->Prop} {i:Nat} {x:Str} {v:V} {u:Value} {Q:Unit->Shared->Prop} (I:Inv X pins σ H s) (hN:X.N.Nodup) (hi:X.N[i]?=some x) (hx:Loc X.env.scope x) (r:RelV v u)
  (h:∀ s',Inv X pins (σ.set i (some v)) H s'->Q () s') (hf:X.fn x=true\/X.env.scope.names.lookup x=some .local:=by first | exact .inl rfl | exact .inr rfl | assumption):wpAny M A (storeName X.env x u) Q E s :=
 mY I hN hi hx r (λ s' I' _=>h s' I') hf
theorem Inv.call' {s':Shared} {ch:List Addr} (I:Inv X pins σ H s) (ho:s'.os=s.os) (u:Un (frs X.stack) ch H H' s.heap s'.heap) (hok:HOk X.prog X.w H' s'.heap) (hg:AllBare s'.gens)
  (hch:∀ b∈ch,(b∈X.ex\/X.s₀.heap.objs.size<=b)/\b≠X.env.locals/\(∀ x c,X.env.cells.lookup x=some c->c≠b)/\∀ p∈X.pn++pins,p.1≠b):Inv X pins σ H' s':=by
 obtain ⟨h',g',d',t',o'⟩:=s';have e:o'=s.os:=ho;subst e;exact I.call (g':=g') (t':=t') (d':=d') u hok hg hch
end
abbrev XK:=Value->Option Addr->Hp->Prop
abbrev St:=List (Option V)
abbrev VK:=V->Hp->Prop
abbrev TE:=St->Hp->VK->Prop
abbrev TT:=St->Hp->(Bool->Hp->Prop)->Prop
abbrev TA:=St->Hp->(List V->Hp->Prop)->Prop
structure Ends where
 nx:St->Hp->Prop
 rt:VK
 bk:St->Hp->Prop:=λ _ _=>False
 ct:St->Hp->Prop:=λ _ _=>False
abbrev TS:=Ends->St->Hp->Prop
def EP (X:Cx) (pins:List (Addr×Obj)) (σ:St) (Q:VK) (u:Value) (s':Shared):Prop:=∃ v H',Inv X pins σ H' s'/\RelV v u/\Q v H'
def TP (X:Cx) (pins:List (Addr×Obj)) (σ:St) (Q:Bool->Hp->Prop) (b:Bool) (s':Shared):Prop:=∃ H',Inv X pins σ H' s'/\Q b H'
def AP (X:Cx) (pins:List (Addr×Obj)) (σ:St) (Q:List V->Hp->Prop) (us:List Value) (s':Shared):Prop:=∃ vs H',Inv X pins σ H' s'/\Vals vs us/\Q vs H'
def SP (X:Cx) (pins:List (Addr×Obj)) (D:Ends) (f:Flow) (s':Shared):Prop :=
 match f with
 | .next=>∃ σ' H',Inv X pins σ' H' s'/\D.nx σ' H'
 | .brk=>∃ σ' H',Inv X pins σ' H' s'/\D.bk σ' H'
 | .cont=>∃ σ' H',Inv X pins σ' H' s'/\D.ct σ' H'
 | .ret u=>∃ v σ' H',Inv X pins σ' H' s'/\RelV v u/\D.rt v H'
def PE (X:Cx) (e:Expr) (t:TE):Prop :=
 ∀ (pins:List (Addr×Obj)) (s:Shared) (σ:St) (H:Hp) (Q:VK),Inv X pins σ H s->t σ H Q->wpAny (model X.prog X.w) X.A (eval e X.env) (EP X pins σ Q) X.xe s
def PT (X:Cx) (e:Expr) (t:TT):Prop :=
 ∀ (pins:List (Addr×Obj)) (s:Shared) (σ:St) (H:Hp) (Q:Bool->Hp->Prop),Inv X pins σ H s->t σ H Q->wpAny (model X.prog X.w) X.A (isTrue e X.env (eval e X.env)) (TP X pins σ Q) X.xe s
def PW (X:Cx) (e:Expr) (t:TT):Prop :=
 ∀ (uF:Sem Value) (pins:List (Addr×Obj)) (s:Shared) (σ:St) (H:Hp) (Q:Bool->Hp->Prop),Inv X pins σ H s->t σ H Q->wpAny (model X.prog X.w) X.A (isTrue e X.env uF) (TP X pins σ Q) X.xe s
theorem PW.pt {X:Cx} {e:Expr} {t:TT} (h:PW X e t):PT X e t:=h _
def PA (X:Cx) (es:List Expr) (t:TA):Prop :=
 ∀ (pos:Pos) (pins:List (Addr×Obj)) (s:Shared) (σ:St) (H:Hp) (Q:List V->Hp->Prop),Inv X pins σ H s->t σ H Q->wpAny (model X.prog X.w) X.A (spliced (backTo pos (starEach es X.env))) (AP X pins σ Q) X.xe s
def PS (X:Cx) (st:Stmt) (t:TS):Prop :=
 ∀ (pins:List (Addr×Obj)) (s:Shared) (σ:St) (H:Hp) (D:Ends),Inv X pins σ H s->t D σ H->wpAny (model X.prog X.w) X.A (exec st X.env) (SP X pins D) X.xe s
def PSs (X:Cx) (st:List Stmt) (t:TS):Prop :=
 ∀ (pins:List (Addr×Obj)) (s:Shared) (σ:St) (H:Hp) (D:Ends),Inv X pins σ H s->t D σ H->wpAny (model X.prog X.w) X.A (execs st X.env) (SP X pins D) X.xe s
theorem thn {α:Type} {t:Sem α} {Q Q':α->Shared->Prop} {M:Model} {A:Around} {E:Value->Shared->Prop} {s:Shared} (h:wpAny M A t Q E s) (hQ:∀ a s,Q a s->Q' a s):wpAny M A t Q' E s:=wpAny_mono h hQ λ _ _ x=>x
section
variable {X:Cx}
def kHJ (i:Nat):TE:=λ σ H Q=>∃ v,σ[i]?=some (some v)/\Q v H
def tC (v:V):TE:=λ _ H Q=>Q v H
theorem kKR {i:Nat} {x:Str} {pos:Pos} (hN:X.N[i]?=some x) (hv:Vis X.env.scope x) (hd:(x == ("__debug__" : Str))=false:=by decide) (hcd:(x == ("__classdict__" : Str))=false:=by decide):PE X (.Name x pos) (kHJ i):=by
 intro pins s σ H Q I h;obtain ⟨v,e,h⟩:=h;obtain ⟨m,hn,hl⟩:=I.loc;obtain ⟨u,r,l⟩:=hl i x v hN e hv;have fin:EP X pins σ Q u s:=⟨v,H,I,r,h⟩;rcases l with ⟨hk,hm⟩ | ⟨hk,c,hc,hcell⟩
 ·exact wpAny_Name (wpAny_loadName_local I.ok.kind hk hn hm fin) hd
 ·rcases hk with hk | hk
  ·exact wpAny_Name (wpAny_loadName_cell I.ok.kind hk hc hcell fin) hd
  ·exact wpAny_Name (wpAny_loadName_free I.ok.kind hk hc hcell fin hcd) hd
theorem kM {i j pos}:PE X (.Constant (.int i) j pos) (tC (.int i)):=λ _ _ _ H _ I h=>wpAny_Constant_int ⟨.int i,H,I.tok _,⟨_,rfl⟩,h⟩
theorem yX {b j pos}:PE X (.Constant (.bool b) j pos) (tC (.bl b)):=λ _ _ _ H _ I h=>Constant_bool ⟨.bl b,H,I,rfl,h⟩
theorem tX {j pos}:PE X (.Constant .none j pos) (tC .non):=λ _ _ _ H _ I h=>Constant_none ⟨.non,H,I,rfl,h⟩
def Gl (X:Cx) (x:Str):Prop:=X.env.kindOf x=some .globalImplicit
theorem kIQ {E:Value->Shared->Prop} {pins:List (Addr×Obj)} {s:Shared} {σ:St} {H:Hp} {x:Str} {u:Value} {pos:Pos} {Q:Value->Shared->Prop} (I:Inv X pins σ H s) (hg:Gl X x) (hm:X.mg x=some u) (h:Q u s)
  (hd:(x == ("__debug__" : Str))=false:=by decide):wpAny (model X.prog X.w) X.A (eval (.Name x pos) X.env) Q E s :=
 Calls.Name_function_global I.ok.kind hg (Calls.loadGlobal_global (by rw [I.ok.glob];exact I.mod.glob.keeps I.bk) hm h) hd
theorem lL {E:Value->Shared->Prop} {pins:List (Addr×Obj)} {s:Shared} {σ:St} {H:Hp} {x:Str} {u:Value} {pos:Pos} {Q:Value->Shared->Prop} (I:Inv X pins σ H s) (hg:Gl X x) (hm:X.mg x=none) (hv:bootBuiltins x=some u) (h:Q u s)
  (hn:x≠"__name__":=by decide) (hd:(x == ("__debug__" : Str))=false:=by decide):wpAny (model X.prog X.w) X.A (eval (.Name x pos) X.env) Q E s:=by
 obtain ⟨mb,h1,h2⟩:=I.mod.blt;exact Calls.Name_function_global I.ok.kind hg (Calls.loadGlobal_builtin (by rw [I.ok.glob];exact I.mod.glob.keeps I.bk) hm (by rw [I.ok.blt];exact h1.keeps I.bk) ((h2 x hn).trans hv) h) hd
theorem wA {x:Str} {v:V} {u:Value} {pos:Pos} (hg:Gl X x) (hm:X.mg x=none) (hv:bootBuiltins x=some u) (r:RelV v u) (hn:x≠"__name__":=by decide) (hd:(x == ("__debug__" : Str))=false:=by decide):PE X (.Name x pos) (tC v) :=
 λ _ _ _ H _ I h=>lL I hg hm hv ⟨v,H,I,r,h⟩ hn hd
variable {a b:Expr} {ta tb:TE} {pos:Pos}
def PC (X:Cx) (op:CmpOp) (a b:Expr) (t:TE):Prop :=
 ∀ (pins:List (Addr×Obj)) (s:Shared) (σ:St) (H:Hp) (Q:VK),Inv X pins σ H s->t σ H Q ->
  wpAny (model X.prog X.w) X.A (eval a X.env) (λ v s₁=>wpAny (model X.prog X.w) X.A (eval b X.env) (λ u s₂=>wpAny (model X.prog X.w) X.A (compareOp op v u) (EP X pins σ Q) X.xe s₂) X.xe s₁) X.xe s
def tB (t:TE):TT:=λ σ H Q=>t σ H λ x H1=>∃ c,x=.bl c/\Q c H1
theorem kKT {op:CmpOp} {t:TE} (h:PC X op a b t) (h1:behindInMarks op b=false:=by first | exact nobehind _ (by decide) (by decide) | rfl):PE X (.Compare a [op] [b] pos) t:=λ pins s σ H Q I hw=>wpAny_Compare1 (h pins s σ H Q I hw) h1
theorem tU {op:CmpOp} {t:TE} (h:PC X op a b t) (h1:behindInMarks op b=false:=by first | exact nobehind _ (by decide) (by decide) | rfl):PT X (.Compare a [op] [b] pos) (tB t):=by
 intro pins s σ H Q I hw;refine wpAny_isTrue_Compare1 (thn (h pins s σ H _ I hw) λ v s1 h1=>thn h1 λ u s2 h2=>thn h2 λ c s3 ⟨x,H1,I1,r1,q1⟩=>?_) h1;obtain ⟨d,rfl,q⟩:=q1;cases r1
 exact wpAny_truthy_bool ⟨H1,I1,q⟩
theorem jX {e:Expr} {t:TE} (h:PE X e t) (he:∀ uF,isTrue e X.env uF=(do let v <-uF;standAt e.pos;holding [v] (truthy v)):=by intro _;rfl):PT X e (tB t):=by
 intro pins s σ H Q I hw;refine isTrue_plain (thn (h pins s σ H _ I hw) λ v s1 ⟨x,H1,I1,r1,q1⟩=>?_) (he _);obtain ⟨d,rfl,q⟩:=q1;cases r1
 exact wpAny_truthy_bool ⟨H1,I1,q⟩
variable {tA tB':TT} {rest:List Expr}
def kOO (t u:TT):TT:=λ σ H Q=>t σ H λ c H1=>if c=true then u σ H1 Q else Q false H1
def tOr (t u:TT):TT:=λ σ H Q=>t σ H λ c H1=>if c=true then Q true H1 else u σ H1 Q
def kOH (t:TT):TT:=λ σ H Q=>t σ H λ c H1=>Q (!c) H1
theorem fR (ha:PT X a tA):PW X (.BoolOp .And [a] pos) tA:=by
 intro wh pins s σ H Q I h;refine isTrue_and (thn (ha pins s σ H Q I h) λ c s1 e=>?_)
 cases c with
 | true=>exact isTrue_and_nil e
 | false=>exact e
theorem zH (ha:PT X a tA):PW X (.BoolOp .Or [a] pos) tA:=by
 intro wh pins s σ H Q I h;refine isTrue_or (thn (ha pins s σ H Q I h) λ c s1 e=>?_)
 cases c with
 | false=>exact isTrue_or_nil e
 | true=>exact e
theorem gU (ha:PT X a tA) (hb:PW X (.BoolOp .And (b::rest) pos) tB'):PW X (.BoolOp .And (a::b::rest) pos) (kOO tA tB'):=by
 intro wh pins s σ H Q I h;refine isTrue_and (thn (ha pins s σ H _ I h) λ c s1 ⟨H1,I1,q1⟩=>?_)
 cases c with
 | true=>exact hb wh pins s1 σ H1 Q I1 q1
 | false=>exact ⟨H1,I1,q1⟩
theorem zR (ha:PT X a tA) (hb:PW X (.BoolOp .Or (b::rest) pos) tB'):PW X (.BoolOp .Or (a::b::rest) pos) (tOr tA tB'):=by
 intro wh pins s σ H Q I h;refine isTrue_or (thn (ha pins s σ H _ I h) λ c s1 ⟨H1,I1,q1⟩=>?_)
 cases c with
 | true=>exact ⟨H1,I1,q1⟩
 | false=>exact hb wh pins s1 σ H1 Q I1 q1
theorem jY (ha:PT X a tA):PT X (.UnaryOp .Not a pos) (kOH tA):=by
 intro pins s σ H Q I h;exact isTrue_not (ha pins s σ H (λ c H1=>Q (!c) H1) I h)
def kMT (ta tb:TE):TE:=λ σ H Q=>ta σ H λ x H1=>∃ c,x=.bl c/\if c=true then tb σ H1 Q else Q (.bl false) H1
theorem kKS {op} {t:TE} (h:PE X a t):PE X (.BoolOp op [a] pos) t:=λ pins s σ H Q I hw=>BoolOp_one (h pins s σ H Q I hw)
theorem kKV (ha:PE X a ta) (hb:PE X (.BoolOp .And (b::rest) pos) tb):PE X (.BoolOp .And (a::b::rest) pos) (kMT ta tb):=by
 intro pins s σ H Q I h;refine BoolOp_and (thn (ha pins s σ H _ I h) λ v s1 ⟨x,H1,I1,r1,q1⟩=>?_);obtain ⟨c,rfl,q1⟩:=q1;cases r1
 refine wpAny_truthy_bool ?_
 cases c with
 | true=>exact hb pins s1 σ H1 Q I1 q1
 | false=>exact ⟨.bl false,H1,I1,rfl,q1⟩
def tIf (t:TT) (ta tb:TE):TE:=λ σ H Q=>t σ H λ c H1=>if c=true then ta σ H1 Q else tb σ H1 Q
theorem rL {c:Expr} (hc:PT X c tA) (ha:PE X a ta) (hb:PE X b tb):PE X (.IfExp c a b pos) (tIf tA ta tb):=by
 intro pins s σ H Q I h;refine wpAny_IfExp (thn (hc pins s σ H _ I h) λ d s1 ⟨H1,I1,q1⟩=>?_)
 cases d with
 | true=>exact ha pins s1 σ H1 Q I1 q1
 | false=>exact hb pins s1 σ H1 Q I1 q1
end
def SqL (K:PySem.W.Frag) (H:Hp) (a:Addr) (xs:List V):Prop :=
 Rd H a (.lst xs) \/
  ∃ (o:Obj) (its:Array Value) (n:Nat),K.lookup a=some o/\o.cls=.type "list"/\o.dict=none/\o.data=.seq its n/\its.size<=sizeLine/\Vals xs its.toList
def SqT (K:PySem.W.Frag) (H:Hp) (a:Addr) (xs:List V):Prop :=
 Rd H a (.tup xs) \/
  ∃ (o:Obj) (its:Array Value) (n:Nat),K.lookup a=some o/\o.cls=.type "tuple"/\o.data=.seq its n/\its.size<=sizeLine/\Vals xs its.toList
def kPC:Value->Option V
 | .none=>some .non
 | .bool b=>some (.bl b)
 | .int i _=>some (.int i)
 | .str x _=>some (.str x)
 | .bytes b _=>some (.byt b)
 | .float b _=>some (.flt b)
 | .ref a=>some (.ref a)
 | .type n=>some (.ty n)
 | _=>none
theorem RelV.abs {x:V} {u:Value} (r:RelV x u):kPC u=some x:=by
 cases x with
 | non=>cases r;rfl
 | bl _=>cases r;rfl
 | int _=>obtain ⟨t,rfl⟩:=r;rfl
 | str _=>obtain ⟨t,rfl⟩:=r;rfl
 | byt _=>obtain ⟨t,rfl⟩:=r;rfl
 | flt _=>obtain ⟨t,rfl⟩:=r;rfl
 | ref _=>cases r;rfl
 | ty _=>cases r;rfl
theorem RelV.inj {x y:V} {u:Value} (r:RelV x u) (q:RelV y u):x=y:=Option.some.inj (r.abs.symm.trans q.abs)
theorem Vals.inj:∀ {xs ys:List V} {us:List Value},Vals xs us->Vals ys us->xs=ys
 | _,_,_,.nil,.nil=>rfl
 | _,_,_,.cons r t,.cons r' t'=>by rw [r.inj r',Vals.inj t t']
section
variable {X:Cx} {pins:List (Addr×Obj)} {σ:St} {H:Hp} {s:Shared} {a:Addr} {xs ys:List V}
theorem SqL.of {K:PySem.W.Frag} (h:H a=some (.lst xs)):SqL K H a xs:=.inl (.inl h)
theorem SqT.of {K:PySem.W.Frag} (h:H a=some (.tup xs)):SqT K H a xs:=.inl (.inl h)
theorem Inv.list (I:Inv X pins σ H s) (h:SqL X.K H a xs):∃ its:List Value,Vals xs its/\PlainL s.heap a its.toArray/\xs.length<=sizeLine:=by
 rcases h with h | ⟨o,its,n,hk,hc,hd,hs,hz,r⟩
 ·obtain ⟨z,its,n,r,e⟩:=h.ok I.hok
  exact ⟨its,r,⟨_,n,e,rfl,rfl,rfl⟩,z⟩
 ·refine ⟨its.toList,r,⟨o,n,I.kIn a o hk,hc,hd,by simpa using hs⟩,?_⟩
  have e:=r.length;simp only [Array.length_toList] at e;omega
theorem Inv.tuple (I:Inv X pins σ H s) (h:SqT X.K H a xs):∃ its:List Value,Vals xs its/\IsTup s.heap a its.toArray/\xs.length<=sizeLine:=by
 rcases h with h | ⟨o,its,n,hk,hc,hs,hz,r⟩
 ·obtain ⟨z,its,r,p⟩:=h.ok I.hok
  exact ⟨its,r,p.isTup,z⟩
 ·refine ⟨its.toList,r,⟨o,I.kIn a o hk,hc,n,by simpa using hs⟩,?_⟩
  have e:=r.length;simp only [Array.length_toList] at e;omega
theorem Inv.list_inj (I:Inv X pins σ H s) (h:SqL X.K H a xs) (h':SqL X.K H a ys):xs=ys:=by
 obtain ⟨its,r,⟨o,n,e,_,_,d⟩,_⟩:=I.list h;obtain ⟨its',r',⟨o',n',e',_,_,d'⟩,_⟩:=I.list h';rw [e] at e';cases e';rw [d] at d';injection d' with d1 _
 have:its=its':=by simpa using congrArg Array.toList d1
 subst this;exact r.inj r'
theorem Inv.tuple_inj (I:Inv X pins σ H s) (h:SqT X.K H a xs) (h':SqT X.K H a ys):xs=ys:=by
 obtain ⟨its,r,⟨o,e,_,n,d⟩,_⟩:=I.tuple h;obtain ⟨its',r',⟨o',e',_,n',d'⟩,_⟩:=I.tuple h';rw [e] at e';cases e';rw [d] at d';injection d' with d1 _
 have:its=its':=by simpa using congrArg Array.toList d1
 subst this;exact r.inj r'
end
abbrev Cx.wish (X:Cx) (E:Value->Shared->Prop):Cx:={ X with xe:=E }
abbrev Cx.nox (X:Cx):Cx:=X.wish λ _ _=>False
theorem Cx.Ok.wish {X:Cx} (ok:X.Ok) (E:Value->Shared->Prop):(X.wish E).Ok :=
 ⟨ok.mod,ok.kind,ok.glob,ok.blt,ok.above,ok.inj,ok.has,ok.cab,ok.hd,ok.frames,ok.stk,ok.exf,ok.bs,ok.bsz,ok.noex,ok.exfs,ok.funs,ok.frf⟩
theorem Cx.Ok.unwish {X:Cx} {E:Value->Shared->Prop} (ok:(X.wish E).Ok):X.Ok :=
 ⟨ok.mod,ok.kind,ok.glob,ok.blt,ok.above,ok.inj,ok.has,ok.cab,ok.hd,ok.frames,ok.stk,ok.exf,ok.bs,ok.bsz,ok.noex,ok.exfs,ok.funs,ok.frf⟩
section
variable {X:Cx} {pins:List (Addr×Obj)} {σ:St} {H:Hp} {s:Shared} {E:Value->Shared->Prop}
theorem Inv.wish (I:Inv X pins σ H s) (E:Value->Shared->Prop):Inv (X.wish E) pins σ H s:=⟨I.ok.wish E,I.os,I.bare,I.base,I.loc,I.cell,I.free,I.freeC,I.pin,I.hok,I.len⟩
theorem Inv.unwish (I:Inv (X.wish E) pins σ H s):Inv X pins σ H s:=⟨I.ok.unwish,I.os,I.bare,I.base,I.loc,I.cell,I.free,I.freeC,I.pin,I.hok,I.len⟩
theorem SP.unwish {D:Ends} {f:Flow} {s':Shared} (h:SP (X.wish E) pins D f s'):SP X pins D f s':=by
 cases f with
 | next=>obtain ⟨σ',H',I,q⟩:=h;exact ⟨σ',H',I.unwish,q⟩
 | brk=>obtain ⟨σ',H',I,q⟩:=h;exact ⟨σ',H',I.unwish,q⟩
 | cont=>obtain ⟨σ',H',I,q⟩:=h;exact ⟨σ',H',I.unwish,q⟩
 | ret u=>obtain ⟨v,σ',H',I,r,q⟩:=h;exact ⟨v,σ',H',I.unwish,r,q⟩
theorem PSs.nox {st:List Stmt} {t:TS} (h:PSs X.nox st t):PSs X st t:=λ pins s σ H D I hw =>
 wpAny_mono (h pins s σ H D (I.wish _) hw) (λ _ _ q=>q.unwish) λ _ _ z=>False.elim z
end
section
variable {X:Cx} {st:Stmt} {rest:List Stmt} {t u:TS} {e:Expr} {te:TE} {pos:Pos}
def kMR:TS:=λ D σ H=>D.nx σ H
def kMP (t u:TS):TS:=λ D σ H=>t { D with nx:=u D } σ H
theorem qN:PSs X [] kMR:=λ _ _ σ H _ I h=>wpAny_execs_nil ⟨σ,H,I,h⟩
theorem kD (h1:PS X st t) (h2:PSs X rest u):PSs X (st::rest) (kMP t u):=by
 intro pins s σ H D I h;refine wpAny_execs_cons (thn (h1 pins s σ H { D with nx:=u D } I h) λ f s1 q=>?_)
 cases f with
 | next =>
  obtain ⟨σ',H',I',q⟩:=q;exact h2 pins s1 σ' H' D I' q
 | ret v=>exact q
 | brk=>exact q
 | cont=>exact q
theorem kI (h1:PS X st t):PSs X [st] t:=by
 intro pins s σ H D I h;refine wpAny_execs_cons (thn (h1 pins s σ H D I h) λ f s1 q=>?_)
 cases f with
 | next=>exact wpAny_execs_nil q
 | ret v=>exact q
 | brk=>exact q
 | cont=>exact q
theorem Inv.quiet {pins:List (Addr×Obj)} {σ:St} {H:Hp} {s:Shared} (I:Inv X pins σ H s):interactive X.env=false:=by simp [interactive,I.ok.kind]
def kMS (te:TE):TS:=λ D σ H=>te σ H λ _ H1=>D.nx σ H1
theorem qJ (he:PE X e te) (hs:swapsWith e none pos.line X.env=pure false:=by rfl):PS X (.Expr e pos) (kMS te):=by
 intro pins s σ H D I h;exact wpAny_Expr_any (thn (he pins s σ H _ I h) λ v s1 ⟨x,H1,I1,r1,q1⟩=>⟨σ,H1,I1,q1⟩) I.quiet hs
def kOG (te:TE):TS:=λ D σ H=>te σ H D.rt
theorem kS (he:PE X e te):PS X (.Return (some e) pos) (kOG te):=by
 intro pins s σ H D I h;exact wpAny_Return_some (thn (he pins s σ H _ I h) λ v s1 ⟨x,H1,I1,r1,q1⟩=>⟨x,σ,H1,I1,r1,q1⟩)
def kOJ (c:TT) (t u:TS):TS:=λ D σ H=>c σ H λ b H1=>if b=true then t D σ H1 else u D σ H1
theorem xN {c:Expr} {a b:List Stmt} {tc:TT} (hc:PT X c tc) (ha:PSs X a t) (hb:PSs X b u):PS X (.If c a b pos) (kOJ tc t u):=by
 intro pins s σ H D I h;refine wpAny_If (thn (hc pins s σ H _ I h) λ d s1 ⟨H1,I1,q1⟩=>?_)
 cases d with
 | true=>exact ha pins s1 σ H1 D I1 q1
 | false=>exact hb pins s1 σ H1 D I1 q1
end
abbrev TG:=V->St->Hp->(St->Hp->Prop)->Prop
abbrev TGs:=List V->St->Hp->(St->Hp->Prop)->Prop
def PG (X:Cx) (target:Expr) (t:TG):Prop :=
 ∀ (pins:List (Addr×Obj)) (s:Shared) (σ:St) (H:Hp) (v:V) (u:Value) (Q:St->Hp->Prop),Inv X pins σ H s->RelV v u->t v σ H Q ->
  wpAny (model X.prog X.w) X.A (assign target X.env u) (λ _ s'=>∃ σ' H',Inv X pins σ' H' s'/\Q σ' H') X.xe s
def PGs (X:Cx) (ts:List Expr) (t:TGs):Prop :=
 ∀ (pins:List (Addr×Obj)) (s:Shared) (σ:St) (H:Hp) (vs:List V) (us:List Value) (Q:St->Hp->Prop),Inv X pins σ H s->Vals vs us->t vs σ H Q ->
  wpAny (model X.prog X.w) X.A (assignInOrder ((assignEach ts X.env).map (·.2)) us) (λ _ s'=>∃ σ' H',Inv X pins σ' H' s'/\Q σ' H') X.xe s
abbrev kMM:=V->V->V->Hp->(Hp->Prop)->Prop
def kOD (X:Cx) (t:kMM):Prop :=
 ∀ (pins:List (Addr×Obj)) (s:Shared) (σ:St) (H:Hp) (o i v:V) (ov iv u:Value) (Q:Hp->Prop),Inv X pins σ H s->RelV o ov->RelV i iv->RelV v u->t o i v H Q ->
  wpAny (model X.prog X.w) X.A (setItem ov iv u) (λ _ s'=>∃ H',Inv X pins σ H' s'/\Q H') X.xe s
section
variable {X:Cx} {pos:Pos}
def nO (i:Nat):TG:=λ v σ H Q=>Q (σ.set i (some v)) H
theorem kJ {i:Nat} {x:Str} (hN:X.N.Nodup) (hi:X.N[i]?=some x) (hx:Loc X.env.scope x) (hf:X.fn x=true\/X.env.scope.names.lookup x=some .local:=by first | exact .inl rfl | exact .inr rfl | assumption):PG X (.Name x pos) (nO i):=by
 intro pins s σ H v u Q I r h;exact wpAny_assign_Name (rH I hN hi hx r (λ s' I'=>⟨_,H,I',h⟩) hf)
def kOZ:TGs:=λ vs σ H Q=>vs=[]/\Q σ H
def kNV (t:TG) (u:TGs):TGs:=λ vs σ H Q=>∃ v r,vs=v::r/\t v σ H λ σ' H'=>u r σ' H' Q
theorem qW:PGs X [] kOZ:=by
 intro pins s σ H vs us Q I r h;obtain ⟨e,h⟩:=h;subst e;cases r
 exact assignInOrder_nil ⟨σ,H,I,h⟩
theorem kP {e:Expr} {es:List Expr} {t:TG} {u:TGs} (h1:PG X e t) (h2:PGs X es u)
  (hs:(assignEach (e::es) X.env).map (·.2)=assign e X.env::(assignEach es X.env).map (·.2):=by rfl):PGs X (e::es) (kNV t u):=by
 intro pins s σ H vs us Q I r h;obtain ⟨v,vr,e1,h⟩:=h;subst e1
 cases r with
 | cons r rr =>
  rw [hs];refine assignInOrder_cons (thn (h1 pins s σ H _ _ _ I r h) λ _ s1 ⟨σ1,H1,I1,q1⟩=>?_);exact h2 pins s1 σ1 H1 _ _ Q I1 rr q1
def kGN (K:PySem.W.Frag) (n:Nat) (t:TGs):TG:=λ v σ H Q=>∃ a xs,v=.ref a/\SqT K H a xs/\xs.length=n/\t xs σ H Q
theorem xB {es:List Expr} {k:Nat} {t:TGs} {n:Nat} (hc:X.calm=true) (h:PGs X es t)
  (hn:(assignEach es X.env).length=n:=by rfl) (hst:(assignEach es X.env).findIdx? (·.1)=none:=by rfl):PG X (.Tuple es k pos) (kGN X.K n t):=by
 intro pins s σ H v u Q I r hw;obtain ⟨a,xs,e1,hq,hl,hw⟩:=hw;subst e1;cases r
 obtain ⟨its,rv,ht,hz⟩:=I.tuple hq;refine assign_Tuple_tuple (I.ok.hd hc) ht (by simp [hn,<-hl,rv.length]) hst λ h' hx=>?_;have I1:Inv X pins σ H { s with heap:=h' }:=I.kept (t':=s.toks) λ b o e=>hx b o (Nat.ne_of_lt (Heap.lt_size e)) e
 exact h pins _ σ H xs _ Q I1 (by simpa using rv) hw
def kOY (to ti:TE) (t:kMM):TG:=λ v σ H Q=>to σ H λ o H1=>ti σ H1 λ i H2=>t o i v H2 λ H3=>Q σ H3
theorem aZ {o i:Expr} {to ti:TE} {t:kMM} (ho:PE X o to) (hi:PE X i ti) (hs:kOD X t)
  (ha:∀ v,assign (.Subscript o i pos) X.env v=(do
   let ov <-holding [v] (eval o X.env)
   let iv <-holding [v,ov] (eval i X.env)
   standAt pos
   holding [v,ov,iv] (setItem ov iv v)
   release [v,ov,iv] []):=by intro _;rfl):PG X (.Subscript o i pos) (kOY to ti t):=by
 intro pins s σ H v u Q I r h;rw [ha];refine wpAny_bind (wpAny_holding (thn (ho pins s σ H _ I h) λ ov s1 ⟨x,H1,I1,r1,q1⟩=>?_));refine wpAny_bind (wpAny_holding (thn (hi pins s1 σ H1 _ I1 q1) λ iv s2 ⟨y,H2,I2,r2,q2⟩=>?_));refine wpAny_bind (wpAny_standAt (wpAny_bind (wpAny_holding (thn (hs pins s2 σ H2 x y v ov iv u _ I2 r1 r2 r q2) λ _ s3 ⟨H3,I3,q3⟩=>?_))));exact wpAny_release ⟨σ,H3,I3,q3⟩
def kKG (te:TE) (g:TG):TS:=λ D σ H=>te σ H λ x H1=>g x σ H1 D.nx
theorem jZ {tg e:Expr} {te:TE} {g:TG} (he:PE X e te) (hg:PG X tg g) (hs:swapsWithSole [tg] e pos.line X.env=pure false:=by rfl) (hw:swappedStores [tg] e X.env=pure none:=by rfl)
  (h1:(assignEach [tg] X.env).map (·.2)=[assign tg X.env]:=by rfl):PS X (.Assign [tg] e pos) (kKG te g):=by
 intro pins s σ H D I h;refine wpAny_Assign_stores (thn (he pins s σ H _ I h) λ v s1 ⟨x,H1,I1,r1,q1⟩=>?_) hs hw;rw [h1];exact thn (hg pins s1 σ H1 x v _ I1 r1 q1) λ _ s2 q=>q
theorem kT {i:Nat} {x:Str} {e:Expr} {te:TE} {pos':Pos} (hN:X.N.Nodup) (hi:X.N[i]?=some x) (hx:Loc X.env.scope x) (he:PE X e te) (hs:swapsWith e (some (.Name x pos')) pos.line X.env=pure false:=by rfl) (hf:X.fn x=true\/X.env.scope.names.lookup x=some .local:=by first | exact .inl rfl | exact .inr rfl | assumption) :
  PS X (.Assign [.Name x pos'] e pos) (kKG te (nO i)):=by
 intro pins s σ H D I h;refine wpAny_Assign_Name (thn (he pins s σ H _ I h) λ v s1 ⟨y,H1,I1,r1,q1⟩=>?_) hs;exact rH I1 hN hi hx r1 (λ s2 I2=>⟨_,H1,I2,q1⟩) hf
def kEQ (c:TT) (tb:TS):TS:=λ D σ H=>∃ W:Nat->St->Hp->Prop,(∃ m,W m σ H)/\∀ m σ H,W m σ H ->
 c σ H λ b H1=>if b=true then ∃ N:St->Hp->Prop,(∀ σ' H',N σ' H'->∃ m',m'<m/\W m' σ' H')/\tb { D with nx:=N,ct:=N,bk:=D.nx } σ H1 else D.nx σ H1
theorem uO {c:Expr} {body:List Stmt} {tc:TT} {tb:TS} (hp:PassesOwn (model X.prog X.w) X.A X.env X.xe) (hc:PT X c tc) (hb:PSs X body tb):PS X (.While c body [] pos) (kEQ tc tb):=by
 intro pins s σ H D I h;obtain ⟨W,⟨m0,w0⟩,turn⟩:=h;refine wpAny_While (codeAny_whileLoop (λ n s'=>∃ σ' H',Inv X pins σ' H' s'/\W n σ' H') ?_ m0 ⟨σ,H,I,w0⟩);rintro n s1 ⟨σ1,H1,I1,w1⟩;refine wpAny_passesOwn hp (thn (hc pins s1 σ1 H1 _ I1 (turn n σ1 H1 w1)) λ b s2 ⟨H2,I2,q2⟩=>?_)
 cases b with
 | true =>
  obtain ⟨N,hN,q2⟩:=q2;rw [if_pos rfl];refine wpAny_passesOwn hp (thn (hb pins s2 σ1 H2 _ I2 q2) λ f s3 q3=>?_)
  cases f with
  | next =>
   obtain ⟨σ3,H3,I3,n3⟩:=q3;obtain ⟨m',hm,w3⟩:=hN σ3 H3 n3;exact ⟨m',hm,σ3,H3,I3,w3⟩
  | cont =>
   obtain ⟨σ3,H3,I3,n3⟩:=q3;obtain ⟨m',hm,w3⟩:=hN σ3 H3 n3;exact ⟨m',hm,σ3,H3,I3,w3⟩
  | brk=>exact q3
  | ret v=>exact q3
 | false =>
  rw [if_neg Bool.false_ne_true];exact wpAny_execs_nil ⟨σ1,H2,I2,q2⟩
end
structure It where
 go:Nat->Hp->Prop
 yld:Nat->Hp->V->Hp->Prop
 stop:Nat->Hp->Prop
def vU (X:Cx) (pins:List (Addr×Obj)) (H:Hp) (b:Addr):Prop :=
 H b=none/\b≠X.env.locals/\b∉X.fs/\(b∈X.ex\/X.s₀.heap.objs.size<=b)/\(∀ x c,X.env.cells.lookup x=some c->c≠b)/\∀ p∈X.pn++pins,p.1≠b
theorem Inv.fpOk {X:Cx} {pins:List (Addr×Obj)} {σ:St} {H H':Hp} {s:Shared} {b:Addr} (I:Inv X pins σ H s) (hb:s.heap.objs.size<=b) (hn:H' b=none):vU X pins H' b:=by
 refine ⟨hn,Nat.ne_of_gt (Nat.lt_of_lt_of_le I.lt hb),I.nofs hb,.inr (Nat.le_trans I.sz hb),λ x c e z=>?_,λ p hp z=>?_⟩
 ·obtain ⟨v,q⟩:=I.cell x c e
  exact absurd (Nat.lt_of_lt_of_le q.lt (by rw [z];exact hb)) (Nat.lt_irrefl _)
 ·exact absurd (Nat.lt_of_lt_of_le (Heap.lt_size (I.pin p hp).1) (by rw [z];exact hb)) (Nat.lt_irrefl _)
structure Turn (P:Program) (w:World) (K:PySem.W.Frag) (tg:Expr) (J:It) (fp:List Addr) (it:Addr) (tn:Nat->Heap->Prop):Prop where
 mem:it∈fp
 obj:∀ i h,tn i h->∀ b∈fp,∃ o,h.get? b=some o/\∀ v,o.data≠.cell v
 keep:∀ i h h',tn i h->(∀ b∈fp,∀ o,h.get? b=some o->h'.get? b=some o)->tn i h'
 item:∀ (X:Cx),X.prog=P->X.w=w->X.K=K->X.calm=true->∀ (i:Nat) (pins:List (Addr×Obj)) (s:Shared) (σ:St) (H:Hp) (E:Value->Shared->Prop),Inv X pins σ H s->(∀ b∈fp,vU X pins H b)->tn i s.heap->J.go i H ->
  wpAny (model P w) X.A (pyNext (.ref it)) (λ r s1=>∃ u,r=some u /\
   wpAny (model P w) X.A (letOwnedTupleGo tg (.ref it) u) (λ _ s2=>∃ x H',Inv X pins σ H' s2/\RelV x u/\J.yld i H x H'/\tn (i+1) s2.heap/\∀ b∈fp,H' b=none) E s1) E s
 done:∀ (X:Cx),X.prog=P->X.w=w->X.K=K->X.calm=true->∀ (i:Nat) (pins:List (Addr×Obj)) (s:Shared) (σ:St) (H:Hp) (E:Value->Shared->Prop),Inv X pins σ H s->(∀ b∈fp,vU X pins H b)->tn i s.heap->J.stop i H ->
  wpAny (model P w) X.A (pyNext (.ref it)) (λ r s1=>r=none/\Inv X pins σ H s1) E s
 self:∀ (A:Around) (i:Nat) (s:Shared) (Q:Value->Shared->Prop) (E:Value->Shared->Prop),tn i s.heap->Q (.ref it) s->wpAny (model P w) A (pyIter (.ref it)) Q E s
abbrev TI:=St->Hp->(It->Hp->Prop)->Prop
def PIE (X:Cx) (pins:List (Addr×Obj)) (σ:St) (tg:Expr) (R:It->Hp->Prop) (itv:Value) (s2:Shared):Prop :=
 ∃ (it:Addr) (fp:List Addr) (tn:Nat->Heap->Prop) (J:It) (H':Hp),itv=.ref it/\Inv X pins σ H' s2/\Turn X.prog X.w X.K tg J fp it tn/\tn 0 s2.heap/\(∀ b∈fp,vU X pins H' b)/\R J H'
def PI (X:Cx) (tg iter:Expr) (wi:TI):Prop :=
 ∀ (pins:List (Addr×Obj)) (s:Shared) (σ:St) (H:Hp) (R:It->Hp->Prop),Inv X pins σ H s->wi σ H R ->
  wpAny (model X.prog X.w) X.A (eval iter X.env) (λ v s1=>wpAny (model X.prog X.w) X.A (pyIter v) (PIE X pins σ tg R) X.xe s1) X.xe s
theorem kGM {M : Model} {A : Around} {E : Value -> Shared -> Prop} {s : Shared} {tg : Expr} {it : Addr} {u : Value} {o : Obj} {n : String} {vs : Array Value} {Q : Unit -> Shared -> Prop} (ho : s.heap.get? it = some o) (hc : o.cls = .type n) (hd : o.data = .fields vs)
    (hn : ["enumerate", "zip", "dict_itemiterator", "dict_reverseitemiterator", "odict_iterator", "itertools.zip_longest", "itertools.pairwise"].contains n = false) (hQ : Q () s) : wpAny M A (letOwnedTupleGo tg (.ref it) u) Q E s := by
  unfold letOwnedTupleGo
  cases tg <;> first
    | exact wpAny_pure hQ
    | (cases u <;> first
        | exact wpAny_pure hQ
        | (refine wpAny_bind (wpAny_load ho ?_)
           rw [hc, hd];show wpAny M A (if (["enumerate", "zip", "dict_itemiterator", "dict_reverseitemiterator", "odict_iterator", "itertools.zip_longest", "itertools.pairwise"].contains n && vs[0]? == some (rawInt _)) = true then _ else _) Q E s;rw [if_neg (by intro h; rw [hn, Bool.false_and] at h; cases h)];exact wpAny_pure hQ))
def Itl (K:PySem.W.Frag) (a:Addr):It :=
 ⟨λ i H=>∃ xs x,SqL K H a xs/\xs[i]?=some x,λ i H x H'=>H'=H/\∀ xs,SqL K H a xs->xs[i]?=some x,λ i H=>∃ xs,SqL K H a xs/\xs.length<=i⟩
def Itt (K:PySem.W.Frag) (a:Addr):It :=
 ⟨λ i H=>∃ xs x,SqT K H a xs/\xs[i]?=some x,λ i H x H'=>H'=H/\∀ xs,SqT K H a xs->xs[i]?=some x,λ i H=>∃ xs,SqT K H a xs/\xs.length<=i⟩
def Itr (lo:Int) (n:Nat):It:=⟨λ i _=>i<n,λ i H x H'=>H'=H/\x=.int (lo+i),λ i _=>n<=i⟩
theorem kCN {P:Program} {w:World} {K:PySem.W.Frag} {tg:Expr} (a it:Addr):Turn P w K tg (Itl K a) [it] it (λ i h=>h.IsListIter it a i) where
 mem:=by simp
 obj:=λ i h st b hb=>by
  have e:b=it:=by simpa using hb
  subst e;obtain ⟨o,e,c,d⟩:=st;exact ⟨o,e,λ v z=>by rw [d] at z;cases z⟩
 keep:=λ i h h' st k=>st.at λ o e=>k it (by simp) o e
 item:=by
  intro X hP hw hK hc i pins s σ H E I hf st hg;subst hP hw hK;obtain ⟨xs,x,hq,hx⟩:=hg;obtain ⟨its,rv,p,hz⟩:=I.list hq;obtain ⟨u,hu,ru⟩:=rv.get hx;obtain ⟨f0,f1,f2,f3,f4,f5⟩:=hf it (by simp);refine wpAny_pyNext_list_item st p.isList (x:=u) (by simpa using hu) λ h' st' sb=>?_;have I1:Inv X pins σ H { s with heap:=h' }:=I.turned (t':=s.toks) (λ b o hb e=>(sb.2 b hb).trans e) f0 f1 f3 f4 f5
  obtain ⟨o,e,c,d⟩:=id st';exact ⟨u,rfl,kGM (s:={ s with heap:=h' }) e c d (by decide) ⟨x,H,I1,ru,⟨rfl,λ ys hy=>by rw [I.list_inj hy hq];exact hx⟩,st',λ b hb=>(hf b hb).1⟩⟩
 done:=by
  intro X hP hw hK hc i pins s σ H E I hf st hg;subst hP hw hK;obtain ⟨xs,hq,hx⟩:=hg;obtain ⟨its,rv,p,hz⟩:=I.list hq;obtain ⟨f0,f1,f2,f3,f4,f5⟩:=hf it (by simp);have hl:=rv.length;exact wpAny_pyNext_list_end (I.ok.hd hc) st p.isList (by simp;omega) λ h' eb=>⟨rfl,I.turned (t':=s.toks) (λ b o hb e=>eb b o hb e) f0 f1 f3 f4 f5⟩
 self:=λ _ _ _ _ _ st h=>wpAny_pyIter_listiter st h
theorem sX {P:Program} {w:World} {K:PySem.W.Frag} {tg:Expr} (a it:Addr):Turn P w K tg (Itt K a) [it] it (λ i h=>h.IsTupleIter it a i) where
 mem:=by simp
 obj:=λ i h st b hb=>by
  have e:b=it:=by simpa using hb
  subst e;obtain ⟨o,e,c,d⟩:=st;exact ⟨o,e,λ v z=>by rw [d] at z;cases z⟩
 keep:=λ i h h' st k=>st.at λ o e=>k it (by simp) o e
 item:=by
  intro X hP hw hK hc i pins s σ H E I hf st hg;subst hP hw hK;obtain ⟨xs,x,hq,hx⟩:=hg;obtain ⟨its,rv,p,hz⟩:=I.tuple hq;obtain ⟨u,hu,ru⟩:=rv.get hx;obtain ⟨f0,f1,f2,f3,f4,f5⟩:=hf it (by simp);refine wpAny_pyNext_tuple_item st (show s.heap.IsTuple a its.toArray from p) (x:=u) (by simpa using hu) λ h' st' sb=>?_;have I1:Inv X pins σ H { s with heap:=h' }:=I.turned (t':=s.toks) (λ b o hb e=>(sb.2 b hb).trans e) f0 f1 f3 f4 f5
  obtain ⟨o,e,c,d⟩:=id st';exact ⟨u,rfl,kGM (s:={ s with heap:=h' }) e c d (by decide) ⟨x,H,I1,ru,⟨rfl,λ ys hy=>by rw [I.tuple_inj hy hq];exact hx⟩,st',λ b hb=>(hf b hb).1⟩⟩
 done:=by
  intro X hP hw hK hc i pins s σ H E I hf st hg;subst hP hw hK;obtain ⟨xs,hq,hx⟩:=hg;obtain ⟨its,rv,p,hz⟩:=I.tuple hq;obtain ⟨f0,f1,f2,f3,f4,f5⟩:=hf it (by simp);have hl:=rv.length;exact wpAny_pyNext_tuple_end (I.ok.hd hc) st (show s.heap.IsTuple a its.toArray from p) (by simp;omega) λ h' eb=>⟨rfl,I.turned (t':=s.toks) (λ b o hb e=>eb b o hb e) f0 f1 f3 f4 f5⟩
 self:=λ _ _ _ _ _ st h=>wpAny_pyIter_tupleiter st h
theorem sY {P:Program} {w:World} {K:PySem.W.Frag} {tg:Expr} (it:Addr) (lo:Int) (n:Nat):Turn P w K tg (Itr lo n) [it] it (λ i h=>IsRangeIter h it (lo+(i:Nat)*1) ((n:Int)-(i:Nat)) 1) where
 mem:=by simp
 obj:=λ i h st b hb=>by
  have e:b=it:=by simpa using hb
  subst e
  exact ⟨_,st,λ v z=>by
   have z':Data.fields _=Data.cell v:=z
   cases z'⟩
 keep:=λ i h h' st k=>k it (by simp) _ st
 item:=by
  intro X hP hw hK hc i pins s σ H E I hf st hg;subst hP hw hK;obtain ⟨f0,f1,f2,f3,f4,f5⟩:=hf it (by simp);have W:=Walks.range (prog:=X.prog) (w:=X.w) (I.ok.hd hc) it lo 1 n;refine W.item i s _ _ hg st λ v h' tk hv st' kk=>?_;obtain ⟨t,rfl⟩:=hv;have I1:Inv X pins σ H { s with heap:=h',toks:=tk }:=I.turned (λ b o hb e=>kk b o (by simpa using hb) e) f0 f1 f3 f4 f5
  refine ⟨_,rfl,kGM (s:={ s with heap:=h',toks:=tk }) (n:="range_iterator") st' rfl rfl (by decide) ⟨.int (lo+i),H,I1,⟨t,?_⟩,⟨rfl,rfl⟩,st',λ b hb=>(hf b hb).1⟩⟩
  rw [Int.mul_one]
 done:=by
  intro X hP hw hK hc i pins s σ H E I hf st hg;subst hP hw hK;obtain ⟨f0,f1,f2,f3,f4,f5⟩:=hf it (by simp);exact wpAny_pyNext_range_end (I.ok.hd hc) st (by have:n<=i:=hg;omega) λ h' eb=>⟨rfl,I.turned (t':=s.toks) (λ b o hb e=>eb b o hb e) f0 f1 f3 f4 f5⟩
 self:=λ _ _ _ _ _ st h=>wpAny_pyIter_rangeiter st h
section
variable {X:Cx} {tg:Expr}
def kNR (K:PySem.W.Frag) (tl:TE):TI:=λ σ H R=>tl σ H λ x H1=>∃ a,x=.ref a/\(∃ xs,SqL K H1 a xs)/\R (Itl K a) H1
def kNP (K:PySem.W.Frag) (tl:TE):TI:=λ σ H R=>tl σ H λ x H1=>∃ a,x=.ref a/\(∃ xs,SqT K H1 a xs)/\R (Itt K a) H1
theorem xW {l:Expr} {tl:TE} (hl:PE X l tl):PI X tg l (kNR X.K tl):=by
 intro pins s σ H R I h;refine thn (hl pins s σ H _ I h) λ v s1 ⟨x,H1,I1,r1,q1⟩=>?_;obtain ⟨a,e,⟨xs,hq⟩,q⟩:=q1;subst e;cases r1
 obtain ⟨its,rv,p,hz⟩:=I1.list hq;refine wpAny_pyIter_list p.isList ?_;refine ⟨s1.heap.objs.size,[s1.heap.objs.size],_,_,H1,rfl,I1.kept (t':=s1.toks) λ b o e=>Heap.get?_push_of_some _ e,kCN a _,⟨_,Heap.get?_push_size _ rfl,rfl,rfl⟩,λ b hb=>?_,q⟩;have e:b=s1.heap.objs.size:=by simpa using hb
 subst e;exact I1.fpOk (Nat.le_refl _) (I1.hok.fresh (Nat.le_refl _))
theorem wS {l:Expr} {tl:TE} (hl:PE X l tl):PI X tg l (kNP X.K tl):=by
 intro pins s σ H R I h;refine thn (hl pins s σ H _ I h) λ v s1 ⟨x,H1,I1,r1,q1⟩=>?_;obtain ⟨a,e,⟨xs,hq⟩,q⟩:=q1;subst e;cases r1
 obtain ⟨its,rv,p,hz⟩:=I1.tuple hq;refine wpAny_pyIter_tuple (show s1.heap.IsTuple a its.toArray from p) ?_;refine ⟨s1.heap.objs.size,[s1.heap.objs.size],_,_,H1,rfl,I1.kept (t':=s1.toks) λ b o e=>Heap.get?_push_of_some _ e,sX a _,⟨_,Heap.get?_push_size _ rfl,rfl,rfl⟩,λ b hb=>?_,q⟩;have e:b=s1.heap.objs.size:=by simpa using hb
 subst e;exact I1.fpOk (Nat.le_refl _) (I1.hok.fresh (Nat.le_refl _))
theorem kFL {pins:List (Addr×Obj)} {σ:St} {H:Hp} {s:Shared} {R:It->Hp->Prop} {E:Value->Shared->Prop} {lo hi:Int} {t u v:Tok} {tk:Nat} (I:Inv X pins σ H s) (h1 : -(2 ^ 62)<=lo) (h2:lo<2 ^ 62) (h3 : -(2 ^ 62)<=hi) (h4:hi<2 ^ 62)
  (q:R (Itr lo (hi-lo).toNat) H):wpAny (model X.prog X.w) X.A (pyIter (.ref s.heap.objs.size)) (PIE X pins σ tg R) E { s with heap:=s.heap.push { cls:=.type "range",data:=.fields #[.int lo t,.int hi u,.int 1 v] },toks:=tk }:=by
 refine wpAny_pyIter_range (IsRange.new ..) (small_one h1 h2 h3 h4) ?_;have I1:Inv X pins σ H { s with heap:=s.heap.push { cls:=.type "range",data:=.fields #[.int lo t,.int hi u,.int 1 v] },toks:=tk }:=I.kept λ b o e=>Heap.get?_push_of_some _ e
 refine ⟨(s.heap.push { cls:=.type "range",data:=.fields #[.int lo t,.int hi u,.int 1 v] }).objs.size,[(s.heap.push { cls:=.type "range",data:=.fields #[.int lo t,.int hi u,.int 1 v] }).objs.size],_,_,H,rfl,
  I1.kept (t':=tk) λ b o e=>Heap.get?_push_of_some _ e,sY _ lo (hi-lo).toNat,?_,λ b hb=>?_,q⟩
 ·have e1:lo+((0:Nat):Int)*1=lo:=by simp
  have e2:(((hi-lo).toNat:Nat):Int)-((0:Nat):Int)=Builtin.Range.rangeSize lo hi 1:=by rw [rangeSize_one];split<;>omega
  show IsRangeIter _ _ (lo+((0:Nat):Int)*1) ((((hi-lo).toNat:Nat):Int)-((0:Nat):Int)) 1;rw [e1,e2];exact Heap.get?_push_size _ rfl
 ·have e:b=(s.heap.push { cls:=.type "range",data:=.fields #[.int lo t,.int hi u,.int 1 v] }).objs.size:=by simpa using hb
  subst e;exact I1.fpOk (Nat.le_refl _) (I1.hok.fresh (Nat.le_refl _))
def kNQ (ta:TA):TI:=λ σ H R=>ta σ H λ vs H1=>∃ j:Int,vs=[.int j]/\-(2 ^ 62)<=j/\j<2 ^ 62/\R (Itr 0 j.toNat) H1
theorem yS {a:Expr} {ta:TA} {p pos:Pos} (hg:Gl X "range") (hm:X.mg "range" = none) (ha:PA X [a] ta) (hs:starEach [a] X.env=[(false,eval a X.env)]:=by rfl):PI X tg (.Call (.Name "range" p) [a] [] pos) (kNQ ta):=by
 intro pins s σ H R I h;refine Call_ (lL I hg hm boot_range (PyProof.Rows.callWith_type1 (thn (ha pos pins s σ H _ I h) λ us s1 ⟨vs,H1,I1,r1,q1⟩=>?_) hs rfl));obtain ⟨j,e,q1,q2,q⟩:=q1;subst e
 cases r1 with
 | cons r rr =>
  cases rr
  obtain ⟨t,rfl⟩:=r;exact call_range_1 (kFL I1 (by omega) (by omega) q1 q2 (by simpa using q))
def kOK (wi:TI) (g:TG) (tb:TS):TS:=λ D σ H=>wi σ H λ J H1=>∃ W:Nat->Nat->St->Hp->Prop,(∃ m,W 0 m σ H1)/\∀ i m σ H,W i m σ H ->
 (J.stop i H/\D.nx σ H)\/(J.go i H/\∃ N:St->Hp->Prop,(∀ σ' H',N σ' H'->∃ m',m'<m/\W (i+1) m' σ' H')/\∀ x H',J.yld i H x H'->g x σ H' λ σ2 H2=>tb { D with nx:=N,ct:=N,bk:=D.nx } σ2 H2)
def oT (fp:List Addr) (h:Heap):List (Addr×Obj):=fp.filterMap λ b=>(h.get? b).map λ o=>(b,o)
theorem uB {fp:List Addr} {h:Heap} {b:Addr} {o:Obj} (hb:b∈fp) (e:h.get? b=some o):(b,o)∈oT fp h:=List.mem_filterMap.mpr ⟨b,hb,by rw [e];rfl⟩
theorem kDE {fp:List Addr} {h:Heap} {p:Addr×Obj} (hp:p∈oT fp h):p.1∈fp/\h.get? p.1=some p.2:=by
 obtain ⟨b,hb,e⟩:=List.mem_filterMap.mp hp
 cases q:h.get? b with
 | none=>rw [q] at e;cases e
 | some o =>
  rw [q] at e;have e':(b,o)=p:=Option.some.inj e;subst e';exact ⟨hb,q⟩
theorem Inv.pinned {pins:List (Addr×Obj)} {σ:St} {H:Hp} {s:Shared} {fp:List Addr} (I:Inv X pins σ H s) (hf:∀ b∈fp,vU X pins H b) (ho:∀ b∈fp,∃ o,s.heap.get? b=some o/\∀ v,o.data≠.cell v):Inv X (pins++oT fp s.heap) σ H s :=
 I.pins_of λ p hp=>(mem_append.mp hp).elim (λ z=>I.pin p (mem_append_right _ z)) λ z=>by
  obtain ⟨hb,e⟩:=kDE z;obtain ⟨f0,f1,f2,_⟩:=hf p.1 hb;obtain ⟨o,e',d⟩:=ho p.1 hb;rw [e] at e';cases e';exact ⟨e,f0,f1,f2,d⟩
theorem Inv.unpinned {pins pl:List (Addr×Obj)} {σ:St} {H:Hp} {s:Shared} (I:Inv X (pins++pl) σ H s):Inv X pins σ H s:=I.pins_of λ p hp=>I.pin p (mem_append_right _ (mem_append_left _ hp))
theorem zJ {iter:Expr} {body:List Stmt} {wi:TI} {g:TG} {tb:TS} {pos:Pos} (hp:PassesOwn (model X.prog X.w) X.A X.env X.xe) (hc:X.calm=true) (hi:PI X tg iter wi) (hg:PG X tg g) (hb:PSs X body tb)
  (hs:∀ x,foldedSetIterable iter X.env x=pure x:=by intro _;rfl):PS X (.For tg iter body [] pos) (kOK wi g tb):=by
 intro pins s σ H D I h;refine wpAny_For (thn (hi pins s σ H _ I h) λ v s1 h1=>thn h1 λ itv s2 h2=>?_) hs;obtain ⟨it,fp,tn,J,H2,e,I2,T,st2,f2,W,⟨m0,w0⟩,turn⟩:=h2
 subst e
 have stat:∀ {H':Hp},(∀ b∈fp,H' b=none)->∀ b∈fp,vU X pins H' b:=λ hn b hb=>⟨hn b hb,(f2 b hb).2⟩;refine codeAny_forLoop_any (λ n s'=>∃ i σ' H',Inv X pins σ' H' s'/\tn i s'.heap/\(∀ b∈fp,H' b=none)/\W i n σ' H') ?_ m0 ⟨0,σ,H2,I2,st2,λ b hb=>(f2 b hb).1,w0⟩;rintro n s3 ⟨i,σ3,H3,I3,st3,fr3,w3⟩;rcases turn i n σ3 H3 w3 with ⟨stop,qn⟩ | ⟨go,N,hN,step⟩
 ·refine wpAny_passesOwn hp (thn (T.done X rfl rfl rfl hc i pins s3 σ3 H3 X.xe I3 (stat fr3) st3 stop) λ r s4 ⟨hr,I4⟩=>?_)
  subst hr;exact wpAny_execs_nil ⟨σ3,H3,I4,qn⟩
 ·refine wpAny_passesOwn hp (thn (T.item X rfl rfl rfl hc i pins s3 σ3 H3 X.xe I3 (stat fr3) st3 go) λ r s4 ⟨u,hr,h4⟩=>?_)
  subst hr;refine wpAny_passesOwn hp (thn h4 λ _ s5 ⟨x,H5,I5,r5,y5,st5,fr5⟩=>?_);have I5':=I5.pinned (stat fr5) (T.obj _ _ st5);refine wpAny_passesOwn hp (thn (hg _ s5 σ3 H5 x u _ I5' r5 (step x H5 y5)) λ _ s6 ⟨σ6,H6,I6,q6⟩=>?_);refine wpAny_passesOwn hp (thn (hb _ s6 σ6 H6 _ I6 q6) λ f s7 q7=>?_)
  have again:∀ {σ7:St} {H7:Hp},Inv X (pins++oT fp s5.heap) σ7 H7 s7->N σ7 H7->∃ m,m<n/\∃ i σ' H',Inv X pins σ' H' s7/\tn i s7.heap/\(∀ b∈fp,H' b=none)/\W i m σ' H':=λ {σ7 H7} I7 n7=>by
   obtain ⟨m',hm,w7⟩:=hN σ7 H7 n7;refine ⟨m',hm,i+1,σ7,H7,I7.unpinned,T.keep _ _ _ st5 λ b hb o e=>(I7.pin (b,o) (mem_append_right _ (mem_append_right _ (uB hb e)))).1,λ b hb=>?_,w7⟩;obtain ⟨o,e,d⟩:=T.obj _ _ st5 b hb;exact (I7.pin (b,o) (mem_append_right _ (mem_append_right _ (uB hb e)))).2.1
  cases f with
  | next=>obtain ⟨σ7,H7,I7,n7⟩:=q7;exact again I7 n7
  | cont=>obtain ⟨σ7,H7,I7,n7⟩:=q7;exact again I7 n7
  | brk=>obtain ⟨σ7,H7,I7,q7⟩:=q7;exact ⟨σ7,H7,I7.unpinned,q7⟩
  | ret v=>obtain ⟨x7,σ7,H7,I7,r7,q7⟩:=q7;exact ⟨x7,σ7,H7,I7.unpinned,r7,q7⟩
end
theorem sI {K:PySem.W.Frag} {a:Addr} {xs:List V} {g:TG} {tb:TS} {D:Ends} {σ:St} {H:Hp} (Pv:Nat->St->Hp->Prop) (h0:Pv 0 σ H) (hl:∀ i σ H,i<=xs.length->Pv i σ H->SqL K H a xs)
  (hs:∀ i x σ H,xs[i]?=some x->Pv i σ H->g x σ H λ σ2 H2=>tb { D with nx:=Pv (i+1),ct:=Pv (i+1),bk:=D.nx } σ2 H2) (hd:∀ σ H,Pv xs.length σ H->D.nx σ H) :
  ∃ W:Nat->Nat->St->Hp->Prop,(∃ m,W 0 m σ H)/\∀ i m σ H,W i m σ H ->
   ((Itl K a).stop i H/\D.nx σ H)\/((Itl K a).go i H/\∃ N:St->Hp->Prop,(∀ σ' H',N σ' H'->∃ m',m'<m/\W (i+1) m' σ' H')/\∀ x H',(Itl K a).yld i H x H'->g x σ H' λ σ2 H2=>tb { D with nx:=N,ct:=N,bk:=D.nx } σ2 H2):=by
 refine ⟨λ i m σ H=>m=xs.length-i/\i<=xs.length/\Pv i σ H,⟨xs.length,by simp,Nat.zero_le _,h0⟩,?_⟩;rintro i m σ H ⟨rfl,hi,p⟩;have q:=hl i σ H hi p;by_cases hlt:i<xs.length
 ·refine .inr ⟨⟨xs,xs[i],q,by simp [hlt]⟩,Pv (i+1),λ σ' H' p'=>⟨xs.length-(i+1),by omega,rfl,hlt,p'⟩,λ x H' y=>?_⟩
  obtain ⟨e,y⟩:=y;subst e;exact hs i x σ _ (y xs q) p
 ·have e:i=xs.length:=by omega
  subst e;exact .inl ⟨⟨xs,q,Nat.le_refl _⟩,hd σ H p⟩
theorem pN {K:PySem.W.Frag} {a:Addr} {xs:List V} {g:TG} {tb:TS} {D:Ends} {σ:St} {H:Hp} (Pv:Nat->St->Hp->Prop) (h0:Pv 0 σ H) (hl:∀ i σ H,i<=xs.length->Pv i σ H->SqT K H a xs)
  (hs:∀ i x σ H,xs[i]?=some x->Pv i σ H->g x σ H λ σ2 H2=>tb { D with nx:=Pv (i+1),ct:=Pv (i+1),bk:=D.nx } σ2 H2) (hd:∀ σ H,Pv xs.length σ H->D.nx σ H) :
  ∃ W:Nat->Nat->St->Hp->Prop,(∃ m,W 0 m σ H)/\∀ i m σ H,W i m σ H ->
   ((Itt K a).stop i H/\D.nx σ H)\/((Itt K a).go i H/\∃ N:St->Hp->Prop,(∀ σ' H',N σ' H'->∃ m',m'<m/\W (i+1) m' σ' H')/\∀ x H',(Itt K a).yld i H x H'->g x σ H' λ σ2 H2=>tb { D with nx:=N,ct:=N,bk:=D.nx } σ2 H2):=by
 refine ⟨λ i m σ H=>m=xs.length-i/\i<=xs.length/\Pv i σ H,⟨xs.length,by simp,Nat.zero_le _,h0⟩,?_⟩;rintro i m σ H ⟨rfl,hi,p⟩;have q:=hl i σ H hi p;by_cases hlt:i<xs.length
 ·refine .inr ⟨⟨xs,xs[i],q,by simp [hlt]⟩,Pv (i+1),λ σ' H' p'=>⟨xs.length-(i+1),by omega,rfl,hlt,p'⟩,λ x H' y=>?_⟩
  obtain ⟨e,y⟩:=y;subst e;exact hs i x σ _ (y xs q) p
 ·have e:i=xs.length:=by omega
  subst e;exact .inl ⟨⟨xs,q,Nat.le_refl _⟩,hd σ H p⟩
theorem wK {lo:Int} {n:Nat} {g:TG} {tb:TS} {D:Ends} {σ:St} {H:Hp} (Pv:Nat->St->Hp->Prop) (h0:Pv 0 σ H)
  (hs:∀ i σ H,i<n->Pv i σ H->g (.int (lo+i)) σ H λ σ2 H2=>tb { D with nx:=Pv (i+1),ct:=Pv (i+1),bk:=D.nx } σ2 H2) (hd:∀ σ H,Pv n σ H->D.nx σ H) :
  ∃ W:Nat->Nat->St->Hp->Prop,(∃ m,W 0 m σ H)/\∀ i m σ H,W i m σ H ->
   ((Itr lo n).stop i H/\D.nx σ H)\/((Itr lo n).go i H/\∃ N:St->Hp->Prop,(∀ σ' H',N σ' H'->∃ m',m'<m/\W (i+1) m' σ' H')/\∀ x H',(Itr lo n).yld i H x H'->g x σ H' λ σ2 H2=>tb { D with nx:=N,ct:=N,bk:=D.nx } σ2 H2):=by
 refine ⟨λ i m σ H=>m=n-i/\i<=n/\Pv i σ H,⟨n,by simp,Nat.zero_le _,h0⟩,?_⟩;rintro i m σ H ⟨rfl,hi,p⟩;by_cases hlt:i<n
 ·refine .inr ⟨hlt,Pv (i+1),λ σ' H' p'=>⟨n-(i+1),by omega,rfl,hlt,p'⟩,λ x H' y=>?_⟩
  obtain ⟨e,y⟩:=y;subst e y;exact hs i σ _ hlt p
 ·have e:i=n:=by omega
  subst e;exact .inl ⟨Nat.le_refl _,hd σ H p⟩
theorem uK {c:TT} {tb:TS} {D:Ends} {σ:St} {H:Hp} (Pv:St->Hp->Prop) (μ:St->Hp->Nat) (h0:Pv σ H)
  (hs:∀ σ H,Pv σ H->c σ H λ b H1=>if b=true then tb { D with nx:=λ σ' H'=>Pv σ' H'/\μ σ' H'<μ σ H,ct:=λ σ' H'=>Pv σ' H'/\μ σ' H'<μ σ H,bk:=D.nx } σ H1 else D.nx σ H1)
  (mono:∀ σ H Q Q',(∀ b H1,Q b H1->Q' b H1)->c σ H Q->c σ H Q'):kEQ c tb D σ H:=by
 refine ⟨λ m σ H=>m=μ σ H/\Pv σ H,⟨_,rfl,h0⟩,?_⟩;rintro m σ H ⟨rfl,p⟩;refine mono σ H _ _ (λ b H1 q=>?_) (hs σ H p)
 cases b with
 | true=>exact ⟨_,λ σ' H' ⟨p',l⟩=>⟨_,l,rfl,p'⟩,q⟩
 | false=>exact q
abbrev R2:=V->V->Hp->VK->Prop
def OpR (X:Cx) (f:Value->Value->Sem Value) (r:R2):Prop :=
 ∀ (pins:List (Addr×Obj)) (s:Shared) (σ:St) (H:Hp) (x y:V) (v u:Value) (Q:VK),Inv X pins σ H s->RelV x v->RelV y u->r x y H Q ->
  wpAny (model X.prog X.w) X.A (f v u) (EP X pins σ Q) X.xe s
def xQ (X:Cx) (f:Value) (r:List V->Hp->VK->Prop):Prop :=
 ∀ (pins:List (Addr×Obj)) (s:Shared) (σ:St) (H:Hp) (xs:List V) (us:List Value) (Q:VK),Inv X pins σ H s->Vals xs us->r xs H Q ->
  wpAny (model X.prog X.w) X.A (call f us) (EP X pins σ Q) X.xe s
def kPD (X:Cx) (r:V->Hp->(Bool->Hp->Prop)->Prop):Prop :=
 ∀ (pins:List (Addr×Obj)) (s:Shared) (σ:St) (H:Hp) (x:V) (v:Value) (Q:Bool->Hp->Prop),Inv X pins σ H s->RelV x v->r x H Q ->
  wpAny (model X.prog X.w) X.A (truthy v) (TP X pins σ Q) X.xe s
def tOp (r:R2) (ta tb:TE):TE:=λ σ H Q=>ta σ H λ x H1=>tb σ H1 λ y H2=>r x y H2 Q
def rI (C:Int->Int->Prop) (g:Int->Int->V):R2:=λ x y H Q=>∃ i j,x=.int i/\y=.int j/\C i j/\Q (g i j) H
def rI0 (g:Int->Int->V):R2:=λ x y H Q=>∃ i j,x=.int i/\y=.int j/\Q (g i j) H
section
variable {X:Cx} {a b c:Expr} {ta tb tc:TE} {pos:Pos}
theorem kMH (ha:PE X a ta) (hb:PE X b tb) {pins:List (Addr×Obj)} {s:Shared} {σ:St} {H:Hp} {R:V->V->Hp->Prop} (I:Inv X pins σ H s)
  (h:ta σ H λ x H1=>tb σ H1 λ y H2=>R x y H2) {Q:Value->Shared->Prop} {f:Value->Value->Sem Value}
  (hf:∀ v u s2 x y H2,Inv X pins σ H2 s2->RelV x v->RelV y u->R x y H2->wpAny (model X.prog X.w) X.A (f v u) Q X.xe s2) :
  wpAny (model X.prog X.w) X.A (eval a X.env) (λ v s₁=>wpAny (model X.prog X.w) X.A (eval b X.env) (λ u s₂=>wpAny (model X.prog X.w) X.A (f v u) Q X.xe s₂) X.xe s₁) X.xe s:=by
 refine thn (ha pins s σ H _ I h) λ v s1 ⟨x,H1,I1,r1,q1⟩=>?_;refine thn (hb pins s1 σ H1 _ I1 q1) λ u s2 ⟨y,H2,I2,r2,q2⟩=>?_;exact hf v u s2 x y H2 I2 r1 r2 q2
theorem qM {op:Operator} {r:R2} (ho:OpR X (binaryOp op) r) (ha:PE X a ta) (hb:PE X b tb):PE X (.BinOp a op b pos) (tOp r ta tb):=by
 intro pins s σ H Q I h;exact wpAny_BinOp (kMH ha hb I h λ v u s2 x y H2 I2 rx ry q=>ho pins s2 σ H2 x y v u Q I2 rx ry q)
theorem opI {f:Value->Value->Sem Value} {C:Int->Int->Prop} {g:Int->Int->Int}
  (rule:∀ (i j:Int) (t u:Tok) (s:Shared) (Q:Value->Shared->Prop) (E:Value->Shared->Prop),C i j->Q (.int (g i j) s.toks) { s with toks:=s.toks+1 }->wpAny (model X.prog X.w) X.A (f (.int i t) (.int j u)) Q E s) :
  OpR X f (rI C λ i j=>.int (g i j)):=by
 intro pins s σ H x y v u Q I rx ry h;obtain ⟨i,j,rfl,rfl,hc,q⟩:=h;obtain ⟨t,rfl⟩:=rx;obtain ⟨t',rfl⟩:=ry;exact rule i j t t' s _ _ hc ⟨.int (g i j),H,I.tok _,⟨_,rfl⟩,q⟩
theorem kNL {f:Value->Value->Sem Value} {g:Int->Int->Int}
  (rule:∀ (i j:Int) (t u:Tok) (s:Shared) (Q:Value->Shared->Prop) (E:Value->Shared->Prop),Q (.int (g i j) s.toks) { s with toks:=s.toks+1 }->wpAny (model X.prog X.w) X.A (f (.int i t) (.int j u)) Q E s) :
  OpR X f (rI0 λ i j=>.int (g i j)):=by
 intro pins s σ H x y v u Q I rx ry h;obtain ⟨i,j,rfl,rfl,q⟩:=h;obtain ⟨t,rfl⟩:=rx;obtain ⟨t',rfl⟩:=ry;exact rule i j t t' s _ _ ⟨.int (g i j),H,I.tok _,⟨_,rfl⟩,q⟩
theorem kIH {f:Value->Value->Sem Value} {g:Int->Int->Bool}
  (rule:∀ (i j:Int) (t u:Tok) (s:Shared) (Q:Value->Shared->Prop) (E:Value->Shared->Prop),Q (.bool (g i j)) s->wpAny (model X.prog X.w) X.A (f (.int i t) (.int j u)) Q E s) :
  OpR X f (rI0 λ i j=>.bl (g i j)):=by
 intro pins s σ H x y v u Q I rx ry h;obtain ⟨i,j,rfl,rfl,q⟩:=h;obtain ⟨t,rfl⟩:=rx;obtain ⟨t',rfl⟩:=ry;exact rule i j t t' s _ _ ⟨.bl (g i j),H,I,rfl,q⟩
def kPG (i j:Int):Prop:=0<j/\j<1073741824
def kPF (i j:Int):Prop:=0<=j/\j<=1000000/\i.natAbs<2 ^ 64
def CMul (i j:Int):Prop:=(-(2 ^ 64)<i/\i<2 ^ 64)\/(-(2 ^ 64)<j/\j<2 ^ 64)
theorem CMul.ok {i j:Int} (h:CMul i j):IntMulOk i j:=by
 rcases h with ⟨h1,h2⟩ | ⟨h1,h2⟩
 ·exact .of_left (intBits_le_64 h1 h2)
 ·exact .of_right (intBits_le_64 h1 h2)
theorem yZ:OpR X (binaryOp .Add) (rI0 λ i j=>.int (i+j)):=kNL λ _ _ _ _ _ _ _ q=>add_int q
theorem dE:OpR X (binaryOp .Sub) (rI0 λ i j=>.int (i-j)):=kNL λ _ _ _ _ _ _ _ q=>sub_int q
theorem tZ:OpR X (binaryOp .Mult) (rI CMul λ i j=>.int (i*j)):=opI λ _ _ _ _ _ _ _ hc q=>mul_int q hc.ok
theorem kIF:OpR X (binaryOp .FloorDiv) (rI kPG λ i j=>.int (i / j)):=opI λ i j _ _ _ _ _ hc q=>by
 have h1:(0:Int)<j:=hc.1;have h2:j<1073741824:=hc.2;exact floordiv_int (by omega) (by rw [Int.fdiv_eq_ediv_of_nonneg i (by omega)];exact q) (.inl (PyProof.noPylong_small (by omega)))
theorem oW:OpR X (binaryOp .Mod) (rI (λ _ j=>0<j) λ i j=>.int (i % j)):=opI λ i j _ _ _ _ _ hc q=>by
 have h1:(0:Int)<j:=hc;exact mod_int' (by omega) (by rw [Int.fmod_eq_emod_of_nonneg i (by omega)];exact q)
theorem kLA:OpR X (binaryOp .Pow) (rI kPF λ i j=>.int (i ^ j.toNat)):=opI λ _ _ _ _ _ _ _ hc q=>pow_int_small hc.1 hc.2.1 hc.2.2 q
end
def kMU:V->V->Bool
 | .non,.non=>true | .non,.int _=>true | .int _,.non=>true | .non,.bl _=>true | .bl _,.non=>true | .non,.str _=>true | .str _,.non=>true
 | .int _,.int _=>true | .bl _,.bl _=>true | .str _,.str _=>true | .byt _,.byt _=>true
 | .int _,.str _=>true | .str _,.int _=>true | .bl _,.str _=>true | .str _,.bl _=>true
 | _,_=>false
def rEq:R2:=λ x y H Q=>kMU x y=true/\Q (.bl (decide (x=y))) H
def rNe:R2:=λ x y H Q=>kMU x y=true/\Q (.bl (!decide (x=y))) H
theorem kBZ {i j:Int}:decide (V.int i=V.int j)=(i == j):=by
 rw [Bool.eq_iff_iff];simp
theorem kGX {i j:Bool}:decide (V.bl i=V.bl j)=(i == j):=by
 rw [Bool.eq_iff_iff];simp
theorem kBY {i j:Str}:decide (V.str i=V.str j)=(i == j):=by
 rw [Bool.eq_iff_iff];simp
theorem kCA {i j:Array UInt8}:decide (V.byt i=V.byt j)=(i.toList == j.toList):=by
 rw [Bool.eq_iff_iff];cases i
 cases j
 simp
section
variable {X:Cx} {a b c:Expr} {ta tb tc:TE} {pos:Pos}
theorem qK {pins:List (Addr×Obj)} {σ:St} {H:Hp} {s:Shared} {Q:VK} {k k':Bool} (I:Inv X pins σ H s) (q:Q (.bl k) H) (e:k=k'):EP X pins σ Q (.bool k') s:=by
 subst e;exact ⟨.bl k,H,I,rfl,q⟩
theorem rN:OpR X (compareOp .Eq) rEq:=by
 intro pins s σ H x y v u Q I rx ry h;obtain ⟨hs,q⟩:=h
 cases x with
 | non =>
  cases rx
  cases y with
  | non=>cases ry;exact PySem.EqNone.eq_none_none (qK I q (by simp))
  | bl j=>cases ry;exact PySem.EqNone.eq_none_bool (qK I q (by simp))
  | int j=>obtain ⟨t',rfl⟩:=ry;exact PySem.EqNone.eq_none_int (qK I q (by simp))
  | str j=>obtain ⟨t',rfl⟩:=ry;exact PySem.EqNone.eq_none_str (qK I q (by simp))
  | _=>exact absurd (show false=true from hs) Bool.false_ne_true
 | bl i =>
  cases rx
  cases y with
  | non=>cases ry;exact PySem.EqNone.eq_bool_none (qK I q (by simp))
  | bl j=>cases ry;exact eq_bool (qK I q kGX)
  | str j=>obtain ⟨t',rfl⟩:=ry;exact PySem.EqMixed.eq_bool_str (qK I q (by simp))
  | _=>exact absurd (show false=true from hs) Bool.false_ne_true
 | int i =>
  obtain ⟨t,rfl⟩:=rx
  cases y with
  | non=>cases ry;exact PySem.EqNone.eq_int_none (qK I q (by simp))
  | int j=>obtain ⟨t',rfl⟩:=ry;exact eq_int (qK I q kBZ)
  | str j=>obtain ⟨t',rfl⟩:=ry;exact PySem.EqMixed.eq_int_str (qK I q (by simp))
  | _=>exact absurd (show false=true from hs) Bool.false_ne_true
 | str i =>
  obtain ⟨t,rfl⟩:=rx
  cases y with
  | non=>cases ry;exact PySem.EqNone.eq_str_none (qK I q (by simp))
  | bl j=>cases ry;exact PySem.EqMixed.eq_str_bool (qK I q (by simp))
  | int j=>obtain ⟨t',rfl⟩:=ry;exact PySem.EqMixed.eq_str_int (qK I q (by simp))
  | str j=>obtain ⟨t',rfl⟩:=ry;exact eq_str (qK I q kBY)
  | _=>exact absurd (show false=true from hs) Bool.false_ne_true
 | byt i =>
  obtain ⟨t,rfl⟩:=rx
  cases y with
  | byt j=>obtain ⟨t',rfl⟩:=ry;exact PySem.W.eq_bytes (qK I q kCA)
  | _=>exact absurd (show false=true from hs) Bool.false_ne_true
 | _=>cases y<;>exact absurd (show false=true from hs) Bool.false_ne_true
theorem bV:OpR X (compareOp .NotEq) rNe:=by
 intro pins s σ H x y v u Q I rx ry h;obtain ⟨hs,q⟩:=h
 cases x with
 | non =>
  cases rx
  cases y with
  | non=>cases ry;exact PySem.EqNone.ne_none_none (qK I q (by simp))
  | bl j=>cases ry;exact PySem.EqNone.ne_none_bool (qK I q (by simp))
  | int j=>obtain ⟨t',rfl⟩:=ry;exact PySem.EqNone.ne_none_int (qK I q (by simp))
  | str j=>obtain ⟨t',rfl⟩:=ry;exact PySem.EqNone.ne_none_str (qK I q (by simp))
  | _=>exact absurd (show false=true from hs) Bool.false_ne_true
 | bl i =>
  cases rx
  cases y with
  | non=>cases ry;exact PySem.EqNone.ne_bool_none (qK I q (by simp))
  | bl j=>cases ry;exact ne_bool (qK I q (congrArg not kGX))
  | str j=>obtain ⟨t',rfl⟩:=ry;exact PySem.EqMixed.ne_bool_str (qK I q (by simp))
  | _=>exact absurd (show false=true from hs) Bool.false_ne_true
 | int i =>
  obtain ⟨t,rfl⟩:=rx
  cases y with
  | non=>cases ry;exact PySem.EqNone.ne_int_none (qK I q (by simp))
  | int j=>obtain ⟨t',rfl⟩:=ry;exact ne_int (qK I q (congrArg not kBZ))
  | str j=>obtain ⟨t',rfl⟩:=ry;exact PySem.EqMixed.ne_int_str (qK I q (by simp))
  | _=>exact absurd (show false=true from hs) Bool.false_ne_true
 | str i =>
  obtain ⟨t,rfl⟩:=rx
  cases y with
  | non=>cases ry;exact PySem.EqNone.ne_str_none (qK I q (by simp))
  | bl j=>cases ry;exact PySem.EqMixed.ne_str_bool (qK I q (by simp))
  | int j=>obtain ⟨t',rfl⟩:=ry;exact PySem.EqMixed.ne_str_int (qK I q (by simp))
  | str j=>obtain ⟨t',rfl⟩:=ry;exact ne_str (qK I q (congrArg not kBY))
  | _=>exact absurd (show false=true from hs) Bool.false_ne_true
 | byt i =>
  obtain ⟨t,rfl⟩:=rx
  cases y with
  | byt j=>obtain ⟨t',rfl⟩:=ry;exact PySem.W.ne_bytes (qK I q (congrArg not kCA))
  | _=>exact absurd (show false=true from hs) Bool.false_ne_true
 | _=>cases y<;>exact absurd (show false=true from hs) Bool.false_ne_true
theorem rM:OpR X (compareOp .Lt) (rI0 λ i j=>.bl (decide (i<j))):=kIH λ _ _ _ _ _ _ _ q=>lt_int q
theorem kJP:OpR X (compareOp .LtE) (rI0 λ i j=>.bl (decide (i<=j))):=kIH λ _ _ _ _ _ _ _ q=>le_int q
theorem kBN:OpR X (compareOp .Gt) (rI0 λ i j=>.bl (decide (j<i))):=kIH λ _ _ _ _ _ _ _ q=>gt_int q
theorem kNK:OpR X (compareOp .GtE) (rI0 λ i j=>.bl (decide (j<=i))):=kIH λ _ _ _ _ _ _ _ q=>ge_int q
theorem kIE:OpR X (compareOp .IsNot) (λ x y H Q=>y=.non/\Q (.bl (!decide (x=.non))) H):=by
 intro pins s σ H x y v u Q I rx ry h;obtain ⟨rfl,q⟩:=h;cases ry
 refine isnot_none_gen (qK I q ?_)
 cases x<;>first
  | (cases rx;rfl)
  | (obtain ⟨t,rfl⟩:=rx;rfl)
theorem qO (b:Expr) {op:CmpOp} (h:op≠.In:=by decide) (h2:op≠.NotIn:=by decide):behindInMarks op b=false:=by
 have e1:(op == CmpOp.In)=false:=by cases op<;>first | rfl | exact absurd rfl h
 have e2:(op == CmpOp.NotIn)=false:=by cases op<;>first | rfl | exact absurd rfl h2
 cases b<;>simp [behindInMarks,e1,e2]
theorem bU {op:CmpOp} {r:R2} (ho:OpR X (compareOp op) r) (ha:PE X a ta) (hb:PE X b tb) (hm:behindInMarks op b=false):PE X (.Compare a [op] [b] pos) (tOp r ta tb):=by
 intro pins s σ H Q I h;exact wpAny_Compare1 (kMH ha hb I h λ v u s2 x y H2 I2 rx ry q=>ho pins s2 σ H2 x y v u Q I2 rx ry q) hm
def kJK (t:TE):TT:=λ σ H Q=>t σ H λ x H'=>∃ k,x=.bl k/\Q k H'
theorem kY {op:CmpOp} {r:R2} (ho:OpR X (compareOp op) r) (ha:PE X a ta) (hb:PE X b tb) (hm:behindInMarks op b=false):PT X (.Compare a [op] [b] pos) (kJK (tOp r ta tb)):=by
 intro pins s σ H Q I h
 refine wpAny_isTrue_Compare1 (thn (ha pins s σ H _ I h) λ v s1 ⟨x,H1,I1,r1,q1⟩=>thn (hb pins s1 σ H1 _ I1 q1) λ u s2 ⟨y,H2,I2,r2,q2⟩ =>
  thn (ho pins s2 σ H2 x y v u _ I2 r1 r2 q2) λ c s3 ⟨z,H3,I3,r3,k,e,q3⟩=>?_) hm
 subst e;cases r3
 exact wpAny_truthy_bool ⟨H3,I3,q3⟩
def kKF (r r':R2) (ta tb tc:TE):TE:=λ σ H Q=>ta σ H λ x H1=>tb σ H1 λ y H2=>r x y H2 λ z H3=>∃ k,z=.bl k /\
 (if k=true then tc σ H3 λ w' H4=>r' y w' H4 Q else Q (.bl false) H3)
theorem kFU {op op':CmpOp} {r r':R2} (ho:OpR X (compareOp op) r) (ho':OpR X (compareOp op') r') (ha:PE X a ta) (hb:PE X b tb) (hc:PE X c tc)
  (hm:lastMarks [op,op'] [b,c]=false:=by with_unfolding_all rfl):PE X (.Compare a [op,op'] [b,c] pos) (kKF r r' ta tb tc):=by
 intro pins s σ H Q I h
 refine Compare_chain (thn (ha pins s σ H _ I h) λ v s1 ⟨x,H1,I1,r1,q1⟩=>chain_link (thn (hb pins s1 σ H1 _ I1 q1) λ u s2 ⟨y,H2,I2,r2,q2⟩ =>
  thn (ho pins s2 σ H2 x y v u _ I2 r1 r2 q2) λ d s3 ⟨z,H3,I3,r3,k,e,q3⟩=>?_)) hm
 subst e;cases r3
 refine wpAny_truthy_bool ?_
 cases k with
 | false=>exact ite_ff ⟨.bl false,H3,I3,rfl,q3⟩
 | true=>exact ite_tt (chain_last (thn (hc pins s3 σ H3 _ I3 q3) λ w' s4 ⟨z',H4,I4,r4,q4⟩=>ho' pins s4 σ H4 y z' u w' Q I4 r2 r4 q4))
def kOC (K:PySem.W.Frag) (x:V) (H:Hp) (k:Bool):Prop :=
 match x with
 | .non=>k=false
 | .bl b=>k=b
 | .int i=>k=(i != 0)
 | .str y=>y.length<=sizeLine/\k=((y.length:Int) != 0)
 | .byt y=>y.size<=sizeLine/\k=((y.size:Int) != 0)
 | .ref p=>(∃ xs,SqL K H p xs/\k = !xs.isEmpty)\/(∃ xs,SqT K H p xs/\k = !xs.isEmpty)\/∃ kvs,H p=some (.dK kvs)/\k = !kvs.isEmpty
 | _=>False
theorem kAO {κ:Type} {kvs:List (κ×V)} {vs:List (κ×Value)} (r:KV kvs vs):(!vs.isEmpty) = !kvs.isEmpty:=by
 cases r<;>rfl
theorem lN {xs:List V} {its:List Value} (r:Vals xs its):(!its.toArray.isEmpty) = !xs.isEmpty:=by
 cases r<;>simp
theorem dJ:(sizeLine:Nat)<2 ^ 63:=by rw [sizeLine_eq];decide
theorem kKC:kPD X (λ x H Q=>∃ k,kOC X.K x H k/\Q k H):=by
 intro pins s σ H x v Q I rx h;obtain ⟨k,e,q⟩:=h;have hl:=dJ;have hs:sizeLine=16777216:=sizeLine_eq
 cases x with
 | non =>
  cases rx
  have e':k=false:=e;subst e';exact truthy_none ⟨H,I,q⟩
 | bl b =>
  cases rx
  have e':k=b:=e;subst e';exact wpAny_truthy_bool ⟨H,I,q⟩
 | int i =>
  obtain ⟨t,rfl⟩:=rx;have e':k=(i != 0):=e;subst e';exact PySem.P.truthy_int ⟨H,I,q⟩
 | str y =>
  obtain ⟨t,rfl⟩:=rx;obtain ⟨hy,e'⟩ : y.length<=sizeLine/\k=((y.length:Int) != 0):=e;subst e';exact PySem.P.truthy_str (by omega) ⟨H,I.tok _,q⟩
 | byt y =>
  obtain ⟨t,rfl⟩:=rx;obtain ⟨hy,e'⟩ : y.size<=sizeLine/\k=((y.size:Int) != 0):=e;subst e';exact PySem.W.truthy_bytes (by omega) ⟨H,I.tok _,q⟩
 | ref p =>
  cases rx
  have e':(∃ xs,SqL X.K H p xs/\k = !xs.isEmpty)\/(∃ xs,SqT X.K H p xs/\k = !xs.isEmpty)\/∃ kvs,H p=some (.dK kvs)/\k = !kvs.isEmpty:=e;rcases e' with ⟨xs,hx,e'⟩ | ⟨xs,hx,e'⟩ | ⟨kvs,hx,e'⟩
  ·subst e'
   obtain ⟨its,r,pl,hz⟩:=I.list hx;have hlen:=r.length;exact wpAny_truthy_list pl.isList (by simp only [size_toArray];omega) ⟨H,I.tok _,by rw [lN r];exact q⟩
  ·subst e'
   obtain ⟨its,r,pl,hz⟩:=I.tuple hx;have hlen:=r.length;exact truthy_tuple pl (by simp only [size_toArray];omega) ⟨H,I.tok _,by rw [lN r];exact q⟩
  ·subst e'
   obtain ⟨hz,hS,vs,r,m⟩ : kvs.length<=sizeLine/\(p == sysModules)=false/\∃ vs,KV kvs vs/\s.heap.DictOf (qT X.prog X.w) p vs:=I.hok p _ hx;have hlen:kvs.length=vs.length:=Paired.length r;exact wpAny_truthy_dict hS m (by omega) ⟨H,I.tok _,by rw [kAO r];exact q⟩
 | _=>exact (show False from e).elim
theorem gX (ha:PE X a ta) (he:∀ uF,isTrue a X.env uF=(do let v <-uF;standAt a.pos;holding [v] (truthy v))) :
  PT X a (λ σ H Q=>ta σ H λ x H'=>∃ k,kOC X.K x H' k/\Q k H'):=by
 intro pins s σ H Q I h;exact isTrue_plain (thn (ha pins s σ H _ I h) λ v s1 ⟨x,H1,I1,r1,q1⟩=>kKC pins s1 σ H1 x v Q I1 r1 q1) (he _)
theorem uL {x:V} {us:List Value} (r:Vals [x] us):∃ u,us=[u]/\RelV x u:=by
 cases r with
 | cons r1 r2=>cases r2;exact ⟨_,rfl,r1⟩
theorem kBB {x y:V} {us:List Value} (r:Vals [x,y] us):∃ u w',us=[u,w']/\RelV x u/\RelV y w':=by
 cases r with
 | cons r1 r2 =>
  cases r2 with
  | cons r3 r4=>cases r4;exact ⟨_,_,rfl,r1,r3⟩
theorem kHB:xQ X (.builtin "abs") (λ xs H Q=>∃ i,xs=[.int i]/\Q (.int (if i<0 then -i else i)) H):=by
 intro pins s σ H xs us Q I r h;obtain ⟨i,rfl,q⟩:=h;obtain ⟨u,rfl,t,rfl⟩:=uL r;exact call_abs_int λ u tk=>⟨.int (if i<0 then -i else i),H,I.tok _,⟨_,rfl⟩,q⟩
theorem nW (hc:X.calm=true):xQ X (.builtin "max") (λ xs H Q=>∃ i j,xs=[.int i,.int j]/\Q (.int (if j>i then j else i)) H):=by
 intro pins s σ H xs us Q I r h;obtain ⟨i,j,rfl,q⟩:=h;obtain ⟨u,w',rfl,⟨t,rfl⟩,⟨t',rfl⟩⟩:=kBB r;refine max_two_ints (I.ok.hd hc) λ h' tk k=>⟨_,H,I.kept k,?_,q⟩;by_cases hj:j>i
 ·rw [if_pos hj,if_pos hj];exact ⟨_,rfl⟩
 ·rw [if_neg hj,if_neg hj];exact ⟨_,rfl⟩
theorem kEA (hc:X.calm=true):xQ X (.builtin "min") (λ xs H Q=>∃ i j,xs=[.int i,.int j]/\Q (.int (if j<i then j else i)) H):=by
 intro pins s σ H xs us Q I r h;obtain ⟨i,j,rfl,q⟩:=h;obtain ⟨u,w',rfl,⟨t,rfl⟩,⟨t',rfl⟩⟩:=kBB r;refine min_two_ints (I.ok.hd hc) λ h' tk k=>⟨_,H,I.kept k,?_,q⟩;by_cases hj:j<i
 ·rw [if_pos hj,if_pos hj];exact ⟨_,rfl⟩
 ·rw [if_neg hj,if_neg hj];exact ⟨_,rfl⟩
theorem kEB:xQ X (.type "int") (λ xs H Q=>(∃ i,xs=[.int i]/\Q (.int i) H)\/∃ k,xs=[.bl k]/\Q (.int (if k then 1 else 0)) H):=by
 intro pins s σ H xs us Q I r h;rcases h with ⟨i,rfl,q⟩ | ⟨k,rfl,q⟩
 ·obtain ⟨u,rfl,t,rfl⟩:=uL r
  exact call_int_int ⟨.int i,H,I,⟨_,rfl⟩,q⟩
 ·obtain ⟨u,rfl,r1⟩:=uL r
  cases r1
  exact call_int_bool ⟨.int (if k then 1 else 0),H,I.tok _,⟨_,rfl⟩,q⟩
end
structure ObjM (h:Heap) (x dx C:Addr) (mA:Str->Option Value):Prop where
 obj:h.get? x=some (PySem.W.instObj C dx)
 ns:h.Ns1 dx mA
 ne:dx≠x
theorem kDJ {h:Heap} {dx:Addr} {mA:Str->Option Value} (n:h.Ns1 dx mA):∃ od,h.get? dx=some od/\∀ name,PySem.W.lookIn name od=some (mA name):=by
 obtain ⟨o,es,ep,ho,hd,hk,_,hm⟩:=n;refine ⟨o,ho,λ name=>?_⟩;have e:=hm name;unfold nsFind findBy at e;rw [<-Array.find?_toList] at e;unfold PySem.W.lookIn;rw [hd];dsimp only
 split
 ·rename_i y q
  rw [q] at e;exact congrArg some e
 ·rename_i q
  rw [q] at e
  have a:es.toList.any (·.refKey)=false:=by
   rw [List.any_eq_false];intro y hy;obtain ⟨z,t,hkey⟩:=hk y (Array.mem_toList_iff.mp hy);simp [DictEntry.refKey,hkey]
  have a':¬ es.toList.any (·.refKey)=true:=by rw [a];exact Bool.false_ne_true
  rw [if_neg a'];exact congrArg some e
theorem ObjM.look {h:Heap} {x dx C:Addr} {mA:Str->Option Value} (I:ObjM h x dx C mA):∃ od,PySem.W.InstAt h x (PySem.W.instObj C dx) C (some od)/\∀ name,PySem.W.lookIn name od=some (mA name) :=
 let ⟨od,ho,hl⟩:=kDJ I.ns
 ⟨od,⟨I.obj,rfl,rfl,ho⟩,hl⟩
section
variable {prog:Program} {w:World} {A:Around} {E:Value->Shared->Prop} {s:Shared} {K:PySem.W.Frag} {x dx C f:Addr} {mA:Str->Option Value} {name:Str} {v:Value}
end
section
variable {P:Program} {w:World} {H H':Hp} {h h':Heap} {a C dx:Addr} {fs fs':List (Str×V)}
theorem kIW (hok:HOk P w H h) (e:H a=some (.ins C dx fs)):∃ mA,ObjM h a dx C mA/\(∀ f,RelO (fs.lookup f) (mA f))/\PySem.Within mA (fs.map (·.1))/\fs.length<=1000/\H dx=some (.own a):=by
 obtain ⟨d,z,ne,ob,mA,n,r,q⟩:=(show ObjOk P w H h a (.ins C dx fs) from hok a _ e);exact ⟨mA,⟨ob,n,ne⟩,r,q,z,d⟩
end
structure Cls (K:PySem.W.Frag) (C:Addr):Prop where
 pg:PySem.W.plainGet K C Str.empty=true
 hd:PySem.W.hasDictIn K C=true
 po:PySem.W.plainOver K C=true
 sa:PySem.W.findIn K (.ref C) "__setattr__" = some (some (.builtin "object.__setattr__"))
theorem Cls.get {K:PySem.W.Frag} {C:Addr} (c:Cls K C) (f:Str):PySem.W.plainGet K C f=true:=c.pg
section
variable {X:Cx} {pins:List (Addr×Obj)} {σ:St} {H:Hp} {s:Shared} {a C dx:Addr} {fs:List (Str×V)} {f:Str} {v:V} {A:Around} {E:Value->Shared->Prop}
end
section
variable {X:Cx} {o e value:Expr} {f:Str} {pos pos' tpos:Pos} {ta tv:TE}
end
section
variable {X:Cx} {pins:List (Addr×Obj)} {σ:St} {H:Hp} {s:Shared} {A:Around} {E:Value->Shared->Prop} {Q:Value->Shared->Prop} {c:Value} {b:Bool}
inductive TyOf (K:PySem.W.Frag) (H:Hp):V->Value->Prop where
 | non:TyOf K H .non (.type "NoneType")
 | bl (x:Bool):TyOf K H (.bl x) (.type "bool")
 | int (i:Int):TyOf K H (.int i) (.type "int")
 | str (x:Str):TyOf K H (.str x) (.type "str")
 | flt (x:UInt64):TyOf K H (.flt x) (.type "float")
 | lst {a:Addr} {xs:List V} (e:H a=some (.lst xs)):TyOf K H (.ref a) (.type "list")
 | frz {a:Addr} {o:Obj} {xs:List V} (e:H a=some (.frz o (.lst xs))):TyOf K H (.ref a) (.type "list")
 | tup {a:Addr} {xs:List V} (e:H a=some (.tup xs)):TyOf K H (.ref a) (.type "tuple")
 | dK {a:Addr} {kvs:List (Key×V)} (e:H a=some (.dK kvs)):TyOf K H (.ref a) (.type "dict")
 | dT {a:Addr} {kvs:List (List Key×V)} (e:H a=some (.dT kvs)):TyOf K H (.ref a) (.type "dict")
 | ins {a C dx:Addr} {fs:List (Str×V)} (e:H a=some (.ins C dx fs)) (cl:Cls K C) (ha:PySem.W.findIn K (.ref C) "__class__" = some (some (.builtin "object.__class__")))
   (hn:PySem.W.specialIn K (.builtin "object.__class__") "__get__" = some (some (.builtin "getset_descriptor.__get__"))) (htk:PySem.W.takesIn K (.builtin "object.__class__")=some true)
   (hm:PySem.W.mroIn K C (.type "object")=some true):TyOf K H (.ref a) (.ref C)
theorem kDN {x:V} {u t:Value} (I:Inv X pins σ H s) (rx:RelV x u) (ty:TyOf X.K H x t) (e:PySem.W.kitOne X.K t c=some b) (h:∀ tk,Q (.bool b) { s with toks:=tk }) :
  wpAny (model X.prog X.w) A (call (.builtin "isinstance") [u,c]) Q E s:=by
 cases ty with
 | non=>cases (show u=Value.none from rx);exact PySem.W.kia_one PySem.W.kitx_none I.kIn True.intro e (λ z=>nomatch z) h
 | bl y=>cases (show u=Value.bool y from rx);exact PySem.W.kia_one PySem.W.kitx_bool I.kIn True.intro e (λ z=>nomatch z) h
 | int i=>obtain ⟨t,q⟩:=(show ∃ t,u=Value.int i t from rx);cases q;exact PySem.W.kia_one PySem.W.kitx_int I.kIn True.intro e (λ z=>nomatch z) h
 | str y=>obtain ⟨t,q⟩:=(show ∃ t,u=Value.str y t from rx);cases q;exact PySem.W.kia_one PySem.W.kitx_str I.kIn True.intro e (λ z=>nomatch z) h
 | flt y=>obtain ⟨t,q⟩:=(show ∃ t,u=Value.float y t from rx);cases q;exact PySem.W.kia_one PySem.W.kitx_float I.kIn True.intro e (λ z=>nomatch z) h
 | @lst a xs ea =>
  cases (show u=Value.ref a from rx)
  obtain ⟨_,_,n,_,h1⟩:=(show ObjOk X.prog X.w H s.heap a (.lst xs) from I.hok a _ ea);exact PySem.W.kia_one PySem.W.kitx_list I.kIn ⟨_,h1,rfl⟩ e (λ z=>nomatch z) h
 | @frz a ob xs ea =>
  cases (show u=Value.ref a from rx)
  obtain ⟨_,_,_,n,_,h1⟩:=(show ObjOk X.prog X.w H s.heap a (.frz ob (.lst xs)) from I.hok a _ ea);exact PySem.W.kia_one PySem.W.kitx_list I.kIn ⟨_,h1,rfl⟩ e (λ z=>nomatch z) h
 | @tup a xs ea =>
  cases (show u=Value.ref a from rx)
  obtain ⟨_,_,_,p⟩:=(show ObjOk X.prog X.w H s.heap a (.tup xs) from I.hok a _ ea);obtain ⟨o,h1,h2,_⟩:=p;exact PySem.W.kia_one PySem.W.kitx_tuple I.kIn ⟨o,h1,h2⟩ e (λ z=>nomatch z) h
 | @dK a kvs ea =>
  cases (show u=Value.ref a from rx)
  obtain ⟨_,_,vs,_,p⟩:=(show ObjOk X.prog X.w H s.heap a (.dK kvs) from I.hok a _ ea);obtain ⟨o,es,ep,h1,h2,_⟩:=p;exact PySem.W.kia_one PySem.W.kitx_dict I.kIn ⟨o,h1,h2.1⟩ e (λ z=>nomatch z) h
 | @dT a kvs ea =>
  cases (show u=Value.ref a from rx)
  obtain ⟨_,_,xs,_,o,es,ep,h1,h2,_⟩:=(show ObjOk X.prog X.w H s.heap a (.dT kvs) from I.hok a _ ea);exact PySem.W.kia_one PySem.W.kitx_dict I.kIn ⟨o,h1,h2.1⟩ e (λ z=>nomatch z) h
 | @ins a C dx fs ea cl ha hn htk hm =>
  cases (show u=Value.ref a from rx)
  obtain ⟨mA,O,_⟩:=kIW I.hok ea;obtain ⟨od,J,_⟩:=O.look;exact PySem.W.kia_one (PySem.W.kitx_own (cl.get _) cl.hd ha hn htk hm) I.kIn J e (λ z=>nomatch z) h
end
structure Room (k:Nat) (A:Around):Prop where
 hd:A.handled=none
 dp:A.depth+3*k+5<recursionLimit
 un:A.units+16*k+200<cLine
 gd:A.guards=some []
theorem Room.mono {j k:Nat} {A:Around} (r:Room k A) (h:j<=k):Room j A:=⟨r.hd,by have:=r.dp;omega,by have:=r.un;omega,r.gd⟩
theorem Room.deeper {k:Nat} {A:Around} (r:Room (k+1) A) (env:Env):Room k (A.deeper env) :=
 ⟨r.hd,by have:=r.dp;show A.depth+1+3*k+5<_;omega,by have:=r.un;show A.units+3+16*k+200<_;omega,r.gd⟩
theorem Room.depth {k:Nat} {A:Around} (r:Room k A):A.depth<recursionLimit:=by have:=r.dp;omega
theorem Room.units {k:Nat} {A:Around} (r:Room k A):A.units+64<cLine:=by have:=r.un;omega
def kKD:TA:=λ _ H Q=>Q [] H
def kER (ta:TE) (tr:TA):TA:=λ σ H Q=>ta σ H λ x H1=>tr σ H1 λ xs H2=>Q (x::xs) H2
section
variable {X:Cx} {e:Expr} {es:List Expr} {te:TE} {t:TA} {pos:Pos}
theorem kB:PA X [] kKD:=λ _ _ _ _ H Q I h=>Calls.spliced_nil ⟨[],H,I,.nil,h⟩
theorem kA (ha:PE X e te) (hr:PA X es t) (hs:starEach (e::es) X.env=(false,eval e X.env)::starEach es X.env:=by rfl):PA X (e::es) (kER te t):=by
 intro pos pins s σ H Q I h;rw [hs];show wpAny _ _ (spliced ((false,eval e X.env)::backTo pos (starEach es X.env))) _ _ s;refine Calls.spliced_cons (thn (ha pins s σ H _ I h) λ u s1 ⟨x,H1,I1,r1,q1⟩=>?_);exact thn (hr pos pins s1 σ H1 _ I1 q1) λ us s2 ⟨xs,H2,I2,r2,q2⟩=>⟨x::xs,H2,I2,.cons r1 r2,q2⟩
def kOF (t:TA):TE:=λ σ H Q=>t σ H λ xs H1=>xs.length<=sizeLine/\∀ p,H1 p=none->Q (.ref p) (upd H1 p (.tup xs))
def kOI (t:TA):TE:=λ σ H Q=>t σ H λ xs H1=>xs.length<=sizeLine/\∀ p,H1 p=none->Q (.ref p) (upd H1 p (.lst xs))
theorem yB {x1} (h:PA X es t):PE X (.Tuple es x1 pos) (kOF t):=by
 intro pins s σ H Q I hq;refine wpAny_Tuple_spliced (thn (h pos pins s σ H _ I hq) λ us s1 ⟨xs,H1,I1,r,z,q⟩=>⟨by rw [<-r.length];exact z,?_⟩);have hf:H1 s1.heap.objs.size=none:=I1.hok.fresh (Nat.le_refl _);refine ⟨.ref s1.heap.objs.size,upd H1 s1.heap.objs.size (.tup xs),I1.laid (t':=s1.toks) (λ b u e=>Heap.get?_push_of_some _ e) (Nat.le_refl _) ?_,rfl,q _ hf⟩;exact ⟨z,us,r,⟨_,Heap.get?_push_size _ rfl,rfl,_,rfl,rfl⟩⟩
theorem yH (h:PA X es t):PE X (.List es pos) (kOI t):=by
 intro pins s σ H Q I hq;refine wpAny_List_spliced (thn (h pos pins s σ H _ I hq) λ us s1 ⟨xs,H1,I1,r,z,q⟩=>⟨by rw [<-r.length];exact z,?_⟩);have hf:H1 s1.heap.objs.size=none:=I1.hok.fresh (Nat.le_refl _);refine ⟨.ref s1.heap.objs.size,upd H1 s1.heap.objs.size (.lst xs),I1.laid (t':=s1.toks) (λ b u e=>Heap.get?_push_of_some _ e) (Nat.le_refl _) ?_,rfl,q _ hf⟩;exact ⟨z,us,0,r,Heap.get?_push_size _ rfl⟩
end
abbrev Sp:=List V->Hp->VK->XK->Prop
abbrev CXT:=List Env->Hp->Shared->XK->Value->Shared->Prop
structure Env0 (P:Program) (w:World) (K:PySem.W.Frag) (mg:Str->Option Value) (base:Heap) (A:Around) (outer:List Env) (s:Shared) (H:Hp):Prop where
 frames:A.frames=some outer
 mod:Mod K mg base
 bs:∀ b o,base.get? b=some o->s.heap.get? b=some o/\H b=none
 bsz:base.objs.size<=s.heap.objs.size
 funs:s.heap.FunFrames base outer
 frf:∀ b∈frs outer,H b=none
 hok:HOk P w H s.heap
 bare:AllBare s.gens
def CE (outer:List Env) (P:Program) (w:World) (H:Hp) (s:Shared) (Q:VK) (u:Value) (s':Shared):Prop :=
 ∃ v H',s'.os=s.os/\AllBare s'.gens/\Un (frs outer) [] H H' s.heap s'.heap/\HOk P w H' s'.heap/\RelV v u/\Q v H'
def CR (CX:CXT) (outer:List Env) (P:Program) (w:World) (H:Hp) (s:Shared) (Q:VK) (E:XK) (r:Result) (s':Shared):Prop :=
 match r with
 | .ok (.ret u)=>CE outer P w H s Q u s'
 | .ok _=>False
 | .error e=>CX outer H s E e s'
structure FnOk (P:Program) (w:World) (K:PySem.W.Frag) (mg:Str->Option Value) (base:Heap) (CX:CXT) (k:Nat) (f:Addr) (fd:FuncData) (ps:List Str) (sp:Sp):Prop where
 len:∀ vs H Q E,sp vs H Q E->vs.length=ps.length
 run:∀ (A:Around) (outer:List Env) (s:Shared) (H:Hp) (args:Args) (us:List Value) (vs:List V) (Q:VK) (E:XK),Room k A->Env0 P w K mg base A outer s H->BindsTo s fd args (ps.zip us)->Vals vs us->sp vs H Q E ->
  codeAny (model P w) A (.call (.ref f) args) (CR CX outer P w H s Q E) s
section
variable {X:Cx} {pins:List (Addr×Obj)} {σ:St} {H:Hp} {s s':Shared}
theorem Inv.env0 (I:Inv X pins σ H s):Env0 X.prog X.w X.K X.mg X.base X.A X.stack s H :=
 ⟨I.ok.frames,I.ok.mod,I.bs,Nat.le_trans I.ok.bsz I.sz,I.stack,I.stkFree,I.hok,I.bare⟩
theorem Inv.after {Q:VK} {u:Value} (I:Inv X pins σ H s) (h:CE X.stack X.prog X.w H s Q u s'):EP X pins σ Q u s':=by
 obtain ⟨v,H',os,bare,un,hok,r,q⟩:=h;obtain ⟨hh,g,d,t,os'⟩:=s';obtain rfl:os'=s.os:=os;exact ⟨v,H',I.call (h':=hh) (g':=g) (d':=d) (t':=t) (ch:=[]) un hok bare (λ b z=>absurd z (by simp)),r,q⟩
end
def kJL (sp:Sp) (dvs:List V) (E:XK) (t:TA):TE:=λ σ H Q=>t σ H λ vs H1=>sp (vs++dvs) H1 Q E
def Binds (K:PySem.W.Frag) (fd:FuncData) (ps:List Str) (ds:List Value):Prop :=
 ∀ (s:Shared) (us:List Value),K.In s.heap->(us++ds).length=ps.length->BindsTo s fd ⟨us,[]⟩ (ps.zip (us++ds))
theorem Binds.all {K:PySem.W.Frag} {fd:FuncData} {ps:List Str} (h:∀ us:List Value,us.length=ps.length->bindArgs fd ⟨us,[]⟩=pure (ps.zip us)):Binds K fd ps []:=λ s us _ hl=>by
 rw [append_nil] at hl ⊢;exact .of_eq (h us hl)
def kAY (CX:CXT) (X:Cx) (E:XK):Prop:=∀ (pins:List (Addr×Obj)) (σ:St) (H:Hp) (s:Shared) (e:Value) (s':Shared),Inv X pins σ H s->CX X.stack H s E e s'->X.xe e s'
section
variable {X:Cx} {CX:CXT} {k:Nat} {f C:Addr} {fd:FuncData} {ps:List Str} {sp:Sp} {dvs:List V} {ds:List Value} {E:XK} {x m:Str} {p pos apos:Pos} {e o:Expr} {es:List Expr} {ta:TE} {t:TA}
theorem kKK {pins:List (Addr×Obj)} {σ:St} {H:Hp} {s:Shared} {Q:VK} {us:List Value} {vs:List V} (F:FnOk X.prog X.w X.K X.mg X.base CX k f fd ps sp) (hr:Room k X.A) (hb:Binds X.K fd ps ds) (hd:Vals dvs ds) (hx:kAY CX X E)
  (I:Inv X pins σ H s) (r:Vals vs us) (h:sp (vs++dvs) H Q E):wpAny (model X.prog X.w) X.A (call (.ref f) us) (EP X pins σ Q) X.xe s:=by
 have r2:Vals (vs++dvs) (us++ds):=r.append hd;have hl:(us++ds).length=ps.length:=by rw [<-r2.length];exact F.len _ _ _ _ h
 refine wpAny_call (codeAny_mono (F.run X.A X.stack s H ⟨us,[]⟩ (us++ds) (vs++dvs) Q E hr I.env0 (hb s us I.kIn hl) r2 h) λ r s' hq=>?_)
 cases r with
 | error e=>exact hx pins σ H s e s' I hq
 | ok fl =>
  cases fl with
  | ret u=>exact I.after hq
  | next=>exact False.elim hq
  | brk=>exact False.elim hq
  | cont=>exact False.elim hq
theorem kID (F:FnOk X.prog X.w X.K X.mg X.base CX k f fd ps sp) (hr:Room k X.A) (hg:Gl X x) (hm:X.mg x=some (.ref f)) (hk:PySem.W.keepIn X.K (.ref f)=true) (hb:Binds X.K fd ps ds) (hd:Vals dvs ds) (hx:kAY CX X E)
  (ha:PA X (e::es) t) (hdb:(x == ("__debug__" : Str))=false:=by decide) (he:starEach (e::es) X.env=(false,eval e X.env)::starEach es X.env:=by rfl) (hpl:(backTo pos (starEach es X.env)).any (·.1)=false:=by rfl) :
  PE X (.Call (.Name x p) (e::es) [] pos) (kJL sp dvs E t):=by
 intro pins s σ H Q I h;refine wpAny_Call_Name_kw (kIQ I hg hm ?_ hdb);refine PySem.W.callWith_K (h₀:=X.base) I.ok.mod.kin hk (thn (ha pos pins s σ H _ I h) λ us s1 ⟨vs,H1,I1,r,q⟩=>⟨I1.kIn,?_⟩) he hpl;exact kKK F hr hb hd hx I1 r q
end
section
variable {X:Cx} {CX:CXT} {k:Nat} {f C:Addr} {fd:FuncData} {ps ks:List Str} {sp:Sp} {E:XK} {x m:Str} {p pos apos kpos:Pos} {e o:Expr} {es:List Expr} {kws:List Keyword} {te ta:TE} {t tk:TA} {nm:Option Str}
variable {g:List Value->List Value->List Value} {gV:List V->List V->List V}
end
structure FnScope (N P:List Str) (sc:Scope):Prop where
 kind:sc.kind=.function
 co:sc.isCoroutine=false
 gen:sc.isGenerator=false
 nd:N.Nodup
 pre:N.take P.length=P
 par:∀ x∈P,sc.names.lookup x=some .local\/sc.names.lookup x=some .cell
 nofree:∀ y∈sc.names,y.2≠.free
theorem nY {kindOf:Str->Option NameKind} {x:Str}:∀ {binds:List (Str×Value)} {m:Str->Option Value},(∀ v,(x,v)∉binds)->bindL kindOf binds m x=m x
 | [],_,_=>rfl
 | (n,v)::r,m,h=>by
  unfold bindL;rw [nY λ w hw=>h w (mem_cons_of_mem _ hw)]
  split
  ·have:x≠n:=by rintro rfl;exact h v mem_cons_self
   simp [this]
  ·rfl
theorem oB {kindOf:Str->Option NameKind} {x:Str}:∀ {binds:List (Str×Value)} {m:Str->Option Value},(∀ v,(x,v)∉binds)->bindC kindOf binds m x=m x
 | [],_,_=>rfl
 | (n,v)::r,m,h=>by
  unfold bindC;rw [oB λ w hw=>h w (mem_cons_of_mem _ hw)]
  split
  ·rfl
  ·have:x≠n:=by rintro rfl;exact h v mem_cons_self
   simp [this]
theorem oA {kindOf:Str->Option NameKind} {x:Str} {v:Value}:∀ {P:List Str} {vs:List Value} {i:Nat} {m:Str->Option Value},P.Nodup->P[i]?=some x->vs[i]?=some v->kindOf x=some .local ->
  bindL kindOf (P.zip vs) m x=some v
 | [],_,_,_,_,h,_,_=>by simp at h
 | _::_,[],_,_,_,_,h,_=>by simp at h
 | p::P,w::vs,0,m,nd,h1,h2,hk=>by
  simp at h1 h2;subst h1;subst h2;show bindL kindOf ((p,w)::P.zip vs) m p=_;unfold bindL;rw [nY λ v hv=>(nodup_cons.mp nd).1 (List.of_mem_zip hv).1,if_pos hk];simp
 | p::P,w::vs,i+1,m,nd,h1,h2,hk=>by
  show bindL kindOf ((p,w)::P.zip vs) m x=_;unfold bindL;exact oA (i:=i) (nodup_cons.mp nd).2 (by simpa using h1) (by simpa using h2) hk
theorem oC {kindOf:Str->Option NameKind} {x:Str} {v:Value}:∀ {P:List Str} {vs:List Value} {i:Nat} {m:Str->Option Value},P.Nodup->P[i]?=some x->vs[i]?=some v->kindOf x≠some .local ->
  bindC kindOf (P.zip vs) m x=some v
 | [],_,_,_,_,h,_,_=>by simp at h
 | _::_,[],_,_,_,_,h,_=>by simp at h
 | p::P,w::vs,0,m,nd,h1,h2,hk=>by
  simp at h1 h2;subst h1;subst h2;show bindC kindOf ((p,w)::P.zip vs) m p=_;unfold bindC;rw [oB λ v hv=>(nodup_cons.mp nd).1 (List.of_mem_zip hv).1,if_neg hk];simp
 | p::P,w::vs,i+1,m,nd,h1,h2,hk=>by
  show bindC kindOf ((p,w)::P.zip vs) m x=_;unfold bindC;exact oC (i:=i) (nodup_cons.mp nd).2 (by simpa using h1) (by simpa using h2) hk
def start (N:List Str) (vs:List V):St:=vs.map some++List.replicate (N.length-vs.length) none
def kDX (CX:CXT) (P:Program) (w:World) (K:PySem.W.Frag) (mg:Str->Option Value) (base:Heap) (N:List Str) (qual:Str) (scope:Scope) (f:Addr) (cd:Value) (A:Around) (outer:List Env) (s:Shared) (H:Hp) (E:XK):Cx where
 prog:=P
 w:=w
 K:=K
 mg:=mg
 base:=base
 A:=A.deeper (envOfC qual scope s.heap.objs.size f cd)
 N:=N
 s₀:=s
 H₀:=H
 env:=envOfC qual scope s.heap.objs.size f cd
 outer:=outer
 stack:=envOfC qual scope s.heap.objs.size f cd::outer
 ex:=[]
 calm:=true
 fn:=λ _=>true
 pn:=[]
 xe:=λ e s'=>wpAny (model P w) (A.deeper (envOfC qual scope s.heap.objs.size f cd)) (leaving (envOfC qual scope s.heap.objs.size f cd) e) (λ _ s''=>CX outer H s E e s'') (λ e' s''=>CX outer H s E e' s'') s'
theorem sS {sc:Scope} {n:Nat} {x:Str} (h:sc.names.lookup x=some .cell):∃ c,(cellsFrom n sc.names []).lookup x=some c:=by
 have q:=PySem.W.cellsFrom_some sc.names n [] (.inl h);exact Option.isSome_iff_exists.mp q
theorem kDO {CX:CXT} {P:Program} {w:World} {K:PySem.W.Frag} {mg:Str->Option Value} {base:Heap} {N ps:List Str} {qual:Str} {scope:Scope} {f:Addr} {cd:Value} {A:Around} {outer:List Env} {s s1:Shared} {H:Hp} {E:XK} {us:List Value} {vs:List V}
  (S:FnScope N ps scope) (hd:A.handled=none) (e0:Env0 P w K mg base A outer s H) (hl:vs.length=ps.length) (r:Vals vs us)
  (x:InCallC s s.heap.objs.size (bindL (envOfC qual scope s.heap.objs.size f cd).kindOf (ps.zip us) λ _=>none) (cellsFrom (s.heap.objs.size+1) scope.names []) (bindC (envOfC qual scope s.heap.objs.size f cd).kindOf (ps.zip us) λ _=>none) s1) :
  Inv (kDX CX P w K mg base N qual scope f cd A outer s H E) [] (start N vs) H s1:=by
 have hpl:ps.length<=N.length:=by have:=congrArg List.length S.pre;rw [length_take] at this;omega
 obtain ⟨h1,tk,rfl,hk⟩:=x.done;have noA:∀ b:Addr,b∉(kDX CX P w K mg base N qual scope f cd A outer s H E).ex:=λ b z=>absurd (show b∈([]:List Addr) from z) (by simp)
 refine ⟨⟨e0.mod,S.kind,rfl,rfl,Nat.le_refl _,λ y z c h1 h2=>?_,λ y hy=>?_,λ y c _ h=>?_,λ _=>hd,Around.frames_deeper e0.frames,.inr ⟨rfl,rfl⟩,λ b z=>absurd z (noA b),e0.bs,e0.bsz,λ b _ _=>noA b,λ b z=>absurd z (noA b),e0.funs,e0.frf⟩,
  rfl,e0.bare,Un.kept hk,⟨_,x.toInCall.ns,λ i y v h1 h2 h3=>?_⟩,λ y c h=>⟨_,x.cell y c h⟩,e0.hok.fresh (Nat.le_refl _),λ y c h=>?_,λ p hp=>absurd (show p∈([]:List (Addr×Obj)) from hp) (by simp),e0.hok.kept hk,?_⟩
 ·exact name_of_addr x.apart (PySem.mem_of_lookup h1) (PySem.mem_of_lookup h2)
 ·have hy:scope.names.lookup y=some .cell\/scope.names.lookup y=some .free:=hy
  rcases hy with hy | hy
  ·exact sS hy
  ·exact absurd rfl (S.nofree _ (PySem.mem_of_lookup hy))
 ·exact Nat.le_of_lt (x.above y c (PySem.mem_of_lookup h))
 ·have hi:i<vs.length:=by
   unfold start at h2;by_cases hi:i<vs.length
   ·exact hi
   ·rw [List.getElem?_append_right (by simpa using hi)] at h2
    rw [List.getElem?_replicate] at h2
    split at h2<;>cases h2
  have ha:vs[i]?=some v:=by
   unfold start at h2;rw [List.getElem?_append_left (by simpa using hi),List.getElem?_map] at h2
   cases e:vs[i]? with
   | none=>rw [e] at h2;cases h2
   | some a=>rw [e] at h2;cases h2;rfl
  obtain ⟨u,hu,rv⟩:=r.get ha
  have hp:ps[i]?=some y:=by
   rw [<-S.pre,List.getElem?_take_of_lt (by omega)];exact h1
  have ndP:ps.Nodup:=by rw [<-S.pre];exact S.nd.sublist (List.take_sublist _ _)
  refine ⟨u,rv,?_⟩;rcases S.par y (mem_of_getElem? hp) with k | k
  ·exact .inl ⟨k,oA ndP hp hu k⟩
  ·obtain ⟨c,e⟩:=sS (n:=s.heap.objs.size+1) k
   refine .inr ⟨.inl k,c,e,?_⟩;have q:=x.cell y c e;rw [oC ndP hp hu (by show scope.names.lookup y≠_;rw [k];decide)] at q;exact q
 ·exact e0.hok.fresh (Nat.le_of_lt (x.above y c (PySem.mem_of_lookup h)))
 ·unfold start
  show _=N.length;rw [length_append,length_map,List.length_replicate];omega
theorem kNW {CX:CXT} {P:Program} {w:World} {K:PySem.W.Frag} {mg:Str->Option Value} {base:Heap} {k:Nat} {f:Addr} {name qual:Str} {params:Arguments} {body:List Stmt} {scope:Scope} {dV kV doc pm cdv ct oc:Value} {an od:Option Addr}
  {osl:Array (Option Value)} {N ps:List Str} {sp:Sp} (lk:K.lookup f=some ⟨oc,od,.func (PySem.W.fnOf name qual params body scope dV kV doc pm an cdv ct),osl⟩) (hcd:PySem.W.codeIn K cdv qual=true) (S:FnScope N ps scope)
  (len:∀ vs H Q E,sp vs H Q E->vs.length=ps.length)
  (hbody:∀ (A:Around) (outer:List Env) (s:Shared) (H:Hp) (vs:List V) (Q:VK) (E:XK),Room k (A.deeper (envOfC qual scope s.heap.objs.size f cdv))->sp vs H Q E ->
   ∃ t,PSs (kDX CX P w K mg base N qual scope f cdv A outer s H E) body t/\t { nx:=λ _ H'=>Q .non H',rt:=Q } (start N vs) H) :
  FnOk P w K mg base CX (k+1) f (PySem.W.fnOf name qual params body scope dV kV doc pm an cdv ct) ps sp:=by
 refine ⟨len,λ A outer s H args us vs Q E hr e0 hb r hsp=>?_⟩;have hl:=len _ _ _ _ hsp;have KX:K.In s.heap:=e0.mod.kin.keeps λ b o e=>(e0.bs b o e).1;have lim:s.heap.NoLimit:=e0.mod.nolimit.keeps λ b o e=>(e0.bs b o e).1
 have hkind:∀ y∈ps.zip us,scope.names.lookup y.1=some .local\/(scope.names.lookup y.1=some .cell/\((cellsFrom (s.heap.objs.size+1) scope.names []).lookup y.1).isSome=true):=λ ⟨n,v⟩ hy=>by
  rcases S.par n (List.of_mem_zip hy).1 with q | q
  ·exact .inl q
  ·exact .inr ⟨q,PySem.W.cellsFrom_some _ _ _ (.inl q)⟩
 refine codeAny_call_function hr.depth (KX _ _ lk) rfl S.co S.gen rfl (PySem.W.codeRec_of KX hcd) (hb _ _ _ _ ?_);refine wpAny_newFunctionEnv_cells S.kind hkind λ env he s1 x=>?_;subst he;refine ⟨lim.keeps x.toInCall.keep,codeAny_func ?_⟩;obtain ⟨t,ht,hq⟩:=hbody A outer s H vs Q E (hr.deeper _) hsp;have I:Inv (kDX CX P w K mg base N qual scope f cdv A outer s H E) [] (start N vs) H s1:=kDO S hr.hd e0 hl r x;refine wpAny_mono (ht [] s1 (start N vs) H _ I hq) (λ fl s' hs=>?_) λ e s' hs=>hs
 have fin:∀ {σ':St} {H':Hp} {v:V} {u:Value},Inv (kDX CX P w K mg base N qual scope f cdv A outer s H E) [] σ' H' s'->RelV v u->Q v H'->CE outer P w H s Q u s' :=
  λ {σ' H' v u} J rv q=>⟨v,H',J.os,J.bare,J.base,J.hok,rv,q⟩
 cases fl with
 | ret u =>
  obtain ⟨v,σ',H',J,rv,q⟩:=hs;exact fin J rv q
 | next =>
  obtain ⟨σ',H',J,q⟩:=hs;exact fin (v:=V.non) (u:=Value.none) J rfl q
 | brk =>
  obtain ⟨_,_,_,q⟩:=hs;exact False.elim q
 | cont =>
  obtain ⟨_,_,_,q⟩:=hs;exact False.elim q
section
variable {X:Cx} {x:Str} {p pos:Pos} {e:Expr} {es:List Expr} {t:TA} {id T:String} {r:List V->Hp->VK->Prop}
def tCB (r:List V->Hp->VK->Prop) (t:TA):TE:=λ σ H Q=>t σ H λ vs H1=>r vs H1 Q
theorem kN (hc:xQ X (.builtin id) r) (hg:Gl X x) (hm:X.mg x=none) (hv:bootBuiltins x=some (.builtin id)) (ha:PA X (e::es) t) (hn:x≠"__name__":=by decide) (hdb:(x == ("__debug__" : Str))=false:=by decide)
  (he:starEach (e::es) X.env=(false,eval e X.env)::starEach es X.env:=by rfl) (hpl:(backTo pos (starEach es X.env)).any (·.1)=false:=by rfl):PE X (.Call (.Name x p) (e::es) [] pos) (tCB r t):=by
 intro pins s σ H Q I h;refine wpAny_Call_Name_kw (lL I hg hm hv ?_ hn hdb);exact PyProof.Rows.callWith_builtin1 (thn (ha pos pins s σ H _ I h) λ us s1 ⟨vs,H1,I1,r1,q1⟩=>hc pins s1 σ H1 vs us Q I1 r1 q1) he hpl
theorem qI (hc:xQ X (.type T) r) (hg:Gl X x) (hm:X.mg x=none) (hv:bootBuiltins x=some (.type T)) (ha:PA X (e::es) t) (hn:x≠"__name__":=by decide) (hdb:(x == ("__debug__" : Str))=false:=by decide)
  (he:starEach (e::es) X.env=(false,eval e X.env)::starEach es X.env:=by rfl) (hpl:(backTo pos (starEach es X.env)).any (·.1)=false:=by rfl):PE X (.Call (.Name x p) (e::es) [] pos) (tCB r t):=by
 intro pins s σ H Q I h;refine wpAny_Call_Name_kw (lL I hg hm hv ?_ hn hdb);exact PyProof.Rows.callWith_type1 (thn (ha pos pins s σ H _ I h) λ us s1 ⟨vs,H1,I1,r1,q1⟩=>hc pins s1 σ H1 vs us Q I1 r1 q1) he hpl
end
end L2
namespace HT
open PySem PyProof.Rows
def lexLt:List Int->List Int->Bool
 | [],[]=>false
 | [],_::_=>true
 | _::_,[]=>false
 | x::xs,y::ys=>if x=y then lexLt xs ys else decide (x<y)
theorem lexLt_cons (x y:Int) (xs ys:List Int):lexLt (x::xs) (y::ys)=if x=y then lexLt xs ys else decide (x<y):=rfl
theorem mO:lexLt [] []=false:=rfl
theorem lJ (y:Int) (ys:List Int):lexLt [] (y::ys)=true:=rfl
theorem lK (x:Int) (xs:List Int):lexLt (x::xs) []=false:=rfl
theorem kGS (A:Around) (s:Shared) (a:Int) (t:Tok) (c:Int) (u:Tok):∃ e,SeqAt.EqAt A s (.int a t) (.int c u) e/\(e=true↔a=c) :=
 ⟨(a == c),SeqAt.EqAt.int_int a t c u,by simp⟩
theorem kFK (A:Around) (s:Shared) (a:Int) (t:Tok) (c:Int) (u:Tok) (prog:Program) (w:World) (E:Value->Shared->Prop) (Q:Value->Shared->Prop) (h:Q (.bool (decide (a<c))) s) :
  wpAny (model prog w) A (richCompare .Lt (.int a t) (.int c u)) Q E s :=
 (PyProof.Rows.lt_int h:wpAny (model prog w) A (compareOp .Lt (.int a t) (.int c u)) Q E s)
section
open PySem.SeqAt
open PySem.AutoSeq1 (wpAny_loadPart')
open PySem.MeetsSeq PySem.MeetsSeq2 PySem.MeetsSeq3
theorem mH (l b:Addr) (items items2:Array Value) (n n2:Nat) (dd dd2:Option Addr) (sl sl2:Array (Option Value)) (ns ms:List Int) (hi:IntsAre items.toList ns) (hj:IntsAre items2.toList ms) :
  Meets (Builtin.«tuple.__lt__» ⟨[.ref l,.ref b],[]⟩)
   (λ _ R s=>s.heap.get? l=some { cls:=.type "tuple",dict:=dd,data:=.seq items n,slots:=sl }/\s.heap.get? b=some { cls:=.type "tuple",dict:=dd2,data:=.seq items2 n2,slots:=sl2 } /\
    R (.ok (.ret (.bool (lexLt ns ms)))) s) :=
 .of_wp λ prog w A R s h=>by
  obtain ⟨hp,g,d,tk,os⟩:=s;obtain ⟨hl,hb,h⟩:=h;have f2:=AutoSeq1.sub_tuple_tuple;have z1:items.size=ns.length:=by rw [<-hi.length];simp
  have z2:items2.size=ms.length:=by rw [<-hj.length];simp
  wp_walk using wpAny_loadPart' hl,wpAny_loadPart' hb,wpAny_forIn_list _ (λ rest b s'=>b.1=none/\s'=⟨hp,g,d,tk,os⟩/\∃ (vs ws:List Value) (ns' ms':List Int),rest=vs.zip ws /\
   IntsAre vs ns'/\IntsAre ws ms'/\ns'.length+items2.size=ms'.length+items.size/\R (.ok (.ret (.bool (lexLt ns' ms')))) ⟨hp,g,d,tk,os⟩) _
  case turn =>
   rintro ⟨y,x⟩ rest b s' ⟨hb',rfl,vs,ws,ns',ms',hz,hvi,hwi,hlen,hR⟩
   cases hvi with
   | nil=>rw [List.zip_nil_left] at hz;cases hz
   | cons a t hvi' =>
    cases hwi with
    | nil=>rw [List.zip_nil_right] at hz;cases hz
    | cons c u hwi' =>
     rw [List.zip_cons_cons] at hz;injection hz with hyx hrest
     injection hyx with hy hx
     subst hy hx;rw [lexLt_cons] at hR;simp only [length_cons] at hlen;obtain ⟨e,he,hiff⟩:=kGS A.in1 ⟨hp,g,d,tk,os⟩ a t c u;refine wpAny_bind (he prog w _ _ ?_)
     cases e with
     | true =>
      rw [if_pos (hiff.mp rfl)] at hR
      wp_walk
      exact ⟨rfl,rfl,_,_,_,_,hrest,hvi',hwi',by omega,hR⟩
     | false =>
      rw [if_neg (λ q=>absurd (hiff.mpr q) Bool.false_ne_true)] at hR;have hri:=kFK A.in1 ⟨hp,g,d,tk,os⟩ a t c u prog w
      wp_walk using hri
      exact ⟨_,rfl,by simpa using hR⟩
  case fin =>
   rintro ⟨b1,b2⟩ s' ⟨hb',rfl,vs,ws,ns',ms',hz,hvi,hwi,hlen,hR⟩;simp only at hb';subst hb'
   have hv:lexLt ns' ms'=decide (items.size<items2.size):=by
    cases hvi with
    | nil =>
     cases hwi with
     | nil =>
      simp only [length_nil] at hlen;rw [mO];exact (decide_eq_false (by omega)).symm
     | cons c u hw =>
      simp only [length_nil,length_cons] at hlen;rw [lJ];exact (decide_eq_true (by omega)).symm
    | cons a t hv =>
     cases hwi with
     | nil =>
      simp only [length_nil,length_cons] at hlen;rw [lK];exact (decide_eq_false (by omega)).symm
     | cons c u hw =>
      rw [List.zip_cons_cons] at hz;cases hz
   rw [hv] at hR
   wp_walk
   exact ⟨_,rfl,by simpa [Builtin.Tuple.tupleCompareSizes] using hR⟩
  case h =>
   exact ⟨rfl,rfl,items.toList,items2.toList,ns,ms,rfl,hi,hj,by omega,h⟩
end
section
variable {prog:Program} {w:World} {A:Around} {E:Value->Shared->Prop} {s:Shared}
theorem lt_tupInts {l b:Addr} {items items2:Array Value} {ns ms:List Int} {Q:Value->Shared->Prop} (hl:IsTup s.heap l items) (hb:IsTup s.heap b items2) (hi:IntsAre items.toList ns) (hj:IntsAre items2.toList ms)
  (hu:A.units<cLine) (h:Q (.bool (lexLt ns ms)) s):wpAny (model prog w) A (compareOp .Lt (.ref l) (.ref b)) Q E s:=by
 obtain ⟨⟨cls,dd,data,sl⟩,ho,hc,n,hd⟩:=id hl;obtain ⟨⟨cls2,dd2,data2,sl2⟩,ho2,hc2,n2,hd2⟩:=id hb;simp only at hc hd hc2 hd2;subst hc hd hc2 hd2
 exact richCompare_meets_room (op:=.Lt) ⟨_,ho,rfl⟩ ⟨_,ho2,rfl⟩ PySem.F.slot_tuple_lt PySem.F.entry_tuple_lt (PySem.F.args_tuple_lt_2 _ _) (mH l b items items2 n n2 dd dd2 sl sl2 ns ms hi hj)
  ⟨ho,ho2,show Value.bool (lexLt ns ms)≠Value.notImplemented/\Q (.bool (lexLt ns ms)) s from ⟨(λ x=>nomatch x),h⟩⟩ hu
theorem cat_tup {t b:Addr} {vs ws:List Value} {Q:Value->Shared->Prop} (ht:IsTup s.heap t vs.toArray) (hb:IsTup s.heap b ws.toArray) (hv:vs≠[])
  (h1:ws=[]->Q (.ref t) s) (h2:ws≠[]->Q (.ref s.heap.objs.size) { s with heap:=s.heap.push { cls:=.type "tuple",data:=.seq (vs++ws).toArray } })
  (hsz:vs.length+ws.length<=sizeLine):wpAny (model prog w) A (binaryOp .Add (.ref t) (.ref b)) Q E s:=by
 obtain ⟨⟨cls,dd,data,sl⟩,ho,hc,n,hd⟩:=id ht;obtain ⟨⟨cls2,dd2,data2,sl2⟩,ho2,hc2,n2,hd2⟩:=id hb;simp only at hc hd hc2 hd2;subst hc hd hc2 hd2;have e:vs.toArray++ws.toArray=(vs++ws).toArray:=by simp
 by_cases hw:ws=[]
 ·exact concat_meets ⟨_,ho,rfl⟩ ⟨_,ho2,rfl⟩ noFill_tuple_add seq_tuple_add PySem.F.slot_tuple_add PySem.F.entry_tuple_add (PySem.F.args_tuple_add_2 _ _)
   (tuple_addW1 t b vs.toArray ws.toArray n n2 dd dd2 sl sl2 (by simpa using hv) (by simp [hw])) ⟨ho,ho2,h1 hw⟩
 ·refine concat_meets ⟨_,ho,rfl⟩ ⟨_,ho2,rfl⟩ noFill_tuple_add seq_tuple_add PySem.F.slot_tuple_add PySem.F.entry_tuple_add (PySem.F.args_tuple_add_2 _ _)
   (tuple_addW2 t b vs.toArray ws.toArray n n2 dd dd2 sl sl2 (by simpa using hv) (by simpa using hw) (by rw [size_toArray,size_toArray];exact hsz)) ⟨ho,ho2,?_⟩
  rw [e];exact h2 hw
def sIx (n d:Nat):Option Int->Nat
 | none=>d
 | some v=>if v<0 then (v+(n:Int)).toNat else min v.toNat n
theorem sIx_none (n d:Nat):sIx n d none=d:=rfl
theorem sIx_nat (n d k:Nat):sIx n d (some (k:Int))=min k n:=by
 show (if (k:Int)<0 then ((k:Int)+(n:Int)).toNat else min (k:Int).toNat n)=min k n;rw [if_neg (by omega),Int.toNat_natCast]
theorem kKJ (n d:Nat) (hd:d<=n) (o:Option Int):sIx n d o<=n:=by
 cases o with
 | none=>exact hd
 | some v =>
  show (if v<0 then (v+(n:Int)).toNat else min v.toNat n)<=n;by_cases hv:v<0
  ·rw [if_pos hv];omega
  ·rw [if_neg hv];exact Nat.min_le_right _ _
theorem kCB (v:Int) (n d:Nat):(if v<0 then max (v+(n:Int)) 0 else min v (n:Int))=((sIx n d (some v):Nat):Int):=by
 show (if v<0 then max (v+(n:Int)) 0 else min v (n:Int))=(((if v<0 then (v+(n:Int)).toNat else min v.toNat n):Nat):Int);by_cases hv:v<0
 ·simp only [if_pos hv];omega
 ·simp only [if_neg hv];omega
theorem kAX (lo hi:Option Int) (n:Nat):Builtin.Slice.sliceAdjust lo hi 1 (n:Int)=(((sIx n 0 lo:Nat):Int),((sIx n n hi:Nat):Int)):=by
 have h1:¬ ((1:Int)<0):=by omega
 unfold Builtin.Slice.sliceAdjust;simp only [h1,if_false];refine Prod.ext ?_ ?_
 ·cases lo with
  | none=>rfl
  | some v=>exact kCB v n 0
 ·cases hi with
  | none=>rfl
  | some v=>exact kCB v n n
theorem tV (i j:Nat):Builtin.Slice.slicePlaces (i:Int) (j:Int) 1=j-i:=by
 unfold Builtin.Slice.slicePlaces;have h1:(1:Int)>0:=by omega
 simp only [h1,if_true,Int.ediv_one]
 split<;>omega
theorem gM {v:Value} {o:Option Int} {Q:Option Int->Shared->Prop} (p:IsPart v o) (h:Q o s):wpAny (model prog w) A (Builtin.Slice.slicePartIndex v) Q E s:=by
 cases p with
 | none=>exact slicePart_none h
 | int i t=>exact slicePart_int h
theorem sliceApplied_gen {sl:Addr} {vl vu:Value} {lo hi:Option Int} {n:Nat} {Q:Int×Int×Nat->Shared->Prop} (hs:s.heap.IsSliceOf sl vl vu .none) (pl:IsPart vl lo) (pu:IsPart vu hi)
  (h:Q (((sIx n 0 lo:Nat):Int),1,sIx n n hi-sIx n 0 lo) s):wpAny (model prog w) A (Builtin.Slice.sliceApplied (.ref sl) (pure (n:Int))) Q E s:=by
 obtain ⟨os,hos,hcs,hds⟩:=id hs;unfold Builtin.Slice.sliceApplied Builtin.Slice.sliceFields;refine wpAny_bind (wpAny_bind (wpAny_field hos hds (x:=vl) rfl (wpAny_bind (wpAny_field hos hds (x:=vu) rfl (wpAny_bind (wpAny_field hos hds (x:=.none) rfl (wpAny_pure ?_)))))));refine wpAny_bind (slicePart_none ?_);show wpAny _ _ (if ((1:Int) == 0)=true then _ else _) _ _ s;rw [if_neg (by decide)];refine wpAny_bind (gM pl (wpAny_bind (gM pu (wpAny_bind (wpAny_pure ?_)))));show wpAny _ _ (match Builtin.Slice.sliceAdjust lo hi 1 (n:Int) with | (lo,hi)=>pure (lo,(1:Int),Builtin.Slice.slicePlaces lo hi 1)) _ _ s
 rw [kAX lo hi n];show wpAny _ _ (pure (((sIx n 0 lo:Nat):Int),(1:Int),Builtin.Slice.slicePlaces ((sIx n 0 lo:Nat):Int) ((sIx n n hi:Nat):Int) 1)) _ _ s;rw [tV];exact wpAny_pure h
theorem kFR (xs:Array Value) (i k:Nat):((List.range k).filterMap λ (m:Nat)=>xs[((i:Int)+(m:Int)*1).toNat]?).toArray=((xs.toList.drop i).take k).toArray:=by
 have e:(λ (m:Nat)=>xs[((i:Int)+(m:Int)*1).toNat]?)=λ m=>xs[i+m]?:=by
  funext m
  have:((i:Int)+(m:Int)*1).toNat=i+m:=by omega
  rw [this]
 rw [e];have:=pick_run xs i k;rw [List.filterMap_map] at this;have e2:((λ x=>xs[x]?)∘λ x=>i+x)=λ m=>xs[i+m]?:=rfl;rw [e2] at this;rw [this]
theorem getItem_tuple_cut {t sl:Addr} {items:Array Value} {vl vu:Value} {lo hi:Option Int} {Q:Value->Shared->Prop} (ht:IsTup s.heap t items) (hs:s.heap.IsSliceOf sl vl vu .none) (pl:IsPart vl lo) (pu:IsPart vu hi)
  (hw:¬ (sIx items.size 0 lo=0/\sIx items.size items.size hi=items.size))
  (h:Q (.ref s.heap.objs.size) { s with heap:=s.heap.push { cls:=.type "tuple",data:=.seq ((items.toList.drop (sIx items.size 0 lo)).take (sIx items.size items.size hi-sIx items.size 0 lo)).toArray } })
  (hsz:items.size<=sizeLine):wpAny (model prog w) A (getItem (.ref t) (.ref sl)) Q E s:=by
 have htake:sizeOk (.seq ((items.toList.drop (sIx items.size 0 lo)).take (sIx items.size items.size hi-sIx items.size 0 lo)).toArray):=by
  show ((items.toList.drop (sIx items.size 0 lo)).take (sIx items.size items.size hi-sIx items.size 0 lo)).toArray.size<=sizeLine;rw [size_toArray,length_take,length_drop,Array.length_toList];omega
 have hj:sIx items.size items.size hi<=items.size:=kKJ _ _ (Nat.le_refl _) hi;obtain ⟨os,hos,hcs,hds⟩:=id hs;have hTs:s.TypeIs (.ref sl) "slice":=⟨os,hos,hcs⟩;unfold getItem
 try with_reducible refine wpAny_holding ?_
 first | refine wpAny_bind (wpAny_pure ?_) | skip
 refine wpAny_bind (wpAny_sequenceKey ht.typeIs (by decide) ?_)
 refine wpAny_bind (wpAny_callSpecial?_slot (name:=Str.ofString "__getitem__") ht.typeIs PyProof.Rows.slot_tuple_getitem
  (wpAny_call_entry PyProof.Rows.slot_tuple_getitem ht.typeIs entry_tuple_getitem ?_ (args_tuple_getitem _ _)))
 show wpAny _ _ (Builtin.Tuple.tupleItemsOf (.ref t) >>= _) _ _ s;refine wpAny_bind (tupleItemsOf_ ht ?_);refine wpAny_bind (wpAny_typeOf hTs ?_);rw [if_pos (by decide)];refine wpAny_bind (sliceApplied_gen hs pl pu ?_)
 have hno:¬ ((((sIx items.size 0 lo:Nat):Int) == 0 && (1:Int) == 1 && (sIx items.size items.size hi-sIx items.size 0 lo) == items.size)=true):=by
  intro q;rw [Bool.and_eq_true,Bool.and_eq_true] at q;have q1:((sIx items.size 0 lo:Nat):Int)=0:=eq_of_beq q.1.1;have q2:sIx items.size items.size hi-sIx items.size 0 lo=items.size:=eq_of_beq q.2;exact hw ⟨by omega,by omega⟩
 show wpAny _ _ (if (((sIx items.size 0 lo:Nat):Int) == 0 && (1:Int) == 1 && (sIx items.size items.size hi-sIx items.size 0 lo) == items.size)=true then _ else _) _ _ s;rw [if_neg hno,kFR]
 first
  | exact wpAny_bind (m:=Builtin.Tuple.tupleExact _) (wpAny_newObj_type (wpAny_pure ⟨_,rfl,wpAny_pure h⟩) htake)
  | exact wpAny_bind (m:=Builtin.Tuple.tupleExact _) (wpAny_newObj_type (wpAny_bind (wpAny_pure (wpAny_pure ⟨_,rfl,wpAny_pure h⟩))) htake)
  | exact wpAny_bind (wpAny_bind (m:=Builtin.Tuple.tupleExact _) (wpAny_newObj_type (wpAny_pure (wpAny_pure ⟨_,rfl,wpAny_pure h⟩)) htake))
  | exact wpAny_bind (wpAny_bind (m:=Builtin.Tuple.tupleExact _) (wpAny_newObj_type (wpAny_pure ⟨_,rfl,wpAny_pure h⟩) htake))
end
end HT
namespace L2
open PySem PySem.Spec PyProof.Rows
abbrev TO:=St->Hp->(Option Int->Hp->Prop)->Prop
def PO (X:Cx) (e:Option Expr) (t:TO):Prop :=
 ∀ (pins:List (Addr×Obj)) (s:Shared) (σ:St) (H:Hp) (Q:Option Int->Hp->Prop),Inv X pins σ H s->t σ H Q ->
  wpAny (model X.prog X.w) X.A (evalPart e X.env) (λ u s'=>∃ o H',Inv X pins σ H' s'/\IsPart u o/\Q o H') X.xe s
def kHK:TO:=λ _ H Q=>Q none H
def kMQ (t:TE):TO:=λ σ H Q=>t σ H λ x H1=>∃ i,x=.int i/\Q (some i) H1
theorem lP {ns:List Int}:∀ {us:List Value},Vals (ns.map V.int) us->IntsAre us ns:=by
 induction ns with
 | nil=>intro us r;rw [map_nil] at r;cases r;exact .nil
 | cons n ns ih =>
  intro us r;rw [map_cons] at r
  cases r with
  | cons r1 r2 =>
   obtain ⟨t,e⟩:=r1;subst e;exact .cons n t (ih r2)
section
variable {X:Cx} {e:Expr} {te:TE} {lo hi:Option Expr} {tl th:TO} {pos p2:Pos}
theorem zY:PO X none kHK:=by
 intro pins s σ H Q I h;rw [evalPart_none];exact wpAny_pure ⟨none,H,I,.none,h⟩
theorem xV (h:PE X e te):PO X (some e) (kMQ te):=by
 intro pins s σ H Q I hw;rw [evalPart_some];refine thn (h pins s σ H _ I hw) λ u s1 ⟨x,H1,I1,r1,q1⟩=>?_;obtain ⟨i,rfl,q⟩:=q1;obtain ⟨t,rfl⟩:=r1;exact ⟨some i,H1,I1,.int i t,q⟩
def SlR (X:Cx) (r:V->Option Int->Option Int->Hp->VK->Prop):Prop :=
 ∀ (pins:List (Addr×Obj)) (s:Shared) (σ:St) (H:Hp) (x:V) (v vl vu:Value) (lo hi:Option Int) (sl:Addr) (Q:VK),Inv X pins σ H s->RelV x v->s.heap.IsSliceOf sl vl vu .none->IsPart vl lo->IsPart vu hi->r x lo hi H Q ->
  ∃ T id,typeLookup (.type T) "__getitem__" = pure (some (.builtin id))/\s.TypeIs v T/\wpAny (model X.prog X.w) X.A (getItem v (.ref sl)) (EP X pins σ Q) X.xe s
theorem SlR.or {r r':V->Option Int->Option Int->Hp->VK->Prop} (h:SlR X r) (h':SlR X r'):SlR X (λ x lo hi H Q=>r x lo hi H Q\/r' x lo hi H Q):=by
 intro pins s σ H x v vl vu lo hi sl Q I rx hs pl pu q;rcases q with q | q
 ·exact h pins s σ H x v vl vu lo hi sl Q I rx hs pl pu q
 ·exact h' pins s σ H x v vl vu lo hi sl Q I rx hs pl pu q
def tSl (r:V->Option Int->Option Int->Hp->VK->Prop) (te:TE) (tl th:TO):TE:=λ σ H Q=>te σ H λ x H1=>tl σ H1 λ l H2=>th σ H2 λ u H3=>r x l u H3 Q
theorem xO {r:V->Option Int->Option Int->Hp->VK->Prop} (hr:SlR X r) (he:PE X e te) (hl:PO X lo tl) (hu:PO X hi th):PE X (.Subscript e (.Slice lo hi none p2) pos) (tSl r te tl th):=by
 intro pins s σ H Q I h;refine Subscript_ (thn (he pins s σ H _ I h) λ v s1 ⟨x,H1,I1,r1,q1⟩=>?_);refine wpAny_Slice (thn (hl pins s1 σ H1 _ I1 q1) λ vl s2 ⟨l,H2,I2,pl,q2⟩=>thn (hu pins s2 σ H2 _ I2 q2) λ vu s3 ⟨u,H3,I3,pu,q3⟩=>?_);rw [evalPart_none];refine wpAny_pure ?_;have I4:Inv X pins σ H3 { s3 with heap:=s3.heap.push { cls:=.type "slice",data:=.fields #[vl,vu,.none] } }:=I3.kept (t':=s3.toks) λ b ob q=>Heap.get?_push_of_some _ q
 obtain ⟨T,id,hT,ht,hg⟩:=hr pins { s3 with heap:=s3.heap.push { cls:=.type "slice",data:=.fields #[vl,vu,.none] } } σ H3 x v vl vu l u s3.heap.objs.size Q I4 r1 (Heap.IsSliceOf.new ..) pl pu q3
 show wpAny (model X.prog X.w) X.A (subscriptTail e (.Slice lo hi none p2) v (.ref s3.heap.objs.size)) (EP X pins σ Q) X.xe { s3 with heap:=s3.heap.push { cls:=.type "slice",data:=.fields #[vl,vu,.none] } }
 exact tail_any (ops:=[.ref s3.heap.objs.size,v]) ht hT hg (by with_unfolding_all rfl)
def uJ (xs:List V) (lo hi:Option Int):List V:=(xs.drop (HT.sIx xs.length 0 lo)).take (HT.sIx xs.length xs.length hi-HT.sIx xs.length 0 lo)
theorem fB (xs:List V) (lo hi:Option Int):(uJ xs lo hi).length<=xs.length:=by
 unfold uJ;rw [length_take,length_drop];omega
def kNB (K:PySem.W.Frag):V->Option Int->Option Int->Hp->VK->Prop:=λ x lo hi H Q=>∃ a xs,x=.ref a/\SqT K H a xs /\
 ¬ (HT.sIx xs.length 0 lo=0/\HT.sIx xs.length xs.length hi=xs.length)/\∀ p,H p=none->Q (.ref p) (upd H p (.tup (uJ xs lo hi)))
theorem sl_tup:SlR X (kNB X.K):=by
 intro pins s σ H x v vl vu lo hi sl Q I rx hs pl pu h;obtain ⟨a,xs,rfl,hx,hw,q⟩:=h;cases rx
 obtain ⟨its,r,ht,hz⟩:=I.tuple hx;have hlen:its.toArray.size=xs.length:=by rw [size_toArray];exact r.length.symm
 refine ⟨"tuple",_,PyProof.Rows.slot_tuple_getitem.lookup,ht.typeIs,?_⟩;refine HT.getItem_tuple_cut ht hs pl pu (by rw [hlen];exact hw) ?_ (by rw [hlen];exact hz);rw [hlen];refine ⟨.ref s.heap.objs.size,_,I.laid (t':=s.toks) (o:=.tup (uJ xs lo hi)) (λ b ob q=>Heap.get?_push_of_some _ q) (Nat.le_refl _) ?_,rfl,q _ (I.hok.fresh (Nat.le_refl _))⟩;exact ⟨Nat.le_trans (fB xs lo hi) hz,_,(r.drop (HT.sIx xs.length 0 lo)).take (HT.sIx xs.length xs.length hi-HT.sIx xs.length 0 lo),IsTupN.new _ _⟩
def kOT (K:PySem.W.Frag):R2:=λ x y H Q=>∃ a b ns ms,x=.ref a/\y=.ref b/\SqT K H a (ns.map V.int)/\SqT K H b (ms.map V.int)/\Q (.bl (HT.lexLt ns ms)) H
theorem kLB (hu:X.A.units<cLine):OpR X (compareOp .Lt) (kOT X.K):=by
 intro pins s σ H x y v u Q I rx ry h;obtain ⟨a,b,ns,ms,rfl,rfl,ha,hb,q⟩:=h;cases rx
 cases ry
 obtain ⟨its,r1,p1,_⟩:=I.tuple ha;obtain ⟨its2,r2,p2,_⟩:=I.tuple hb;have i1:IntsAre its.toArray.toList ns:=lP r1;have i2:IntsAre its2.toArray.toList ms:=lP r2;exact HT.lt_tupInts p1 p2 i1 i2 hu ⟨.bl (HT.lexLt ns ms),H,I,rfl,q⟩
def kNI (K:PySem.W.Frag):R2:=λ x y H Q=>∃ a b xs ys,x=.ref a/\y=.ref b/\SqT K H a xs/\SqT K H b ys/\xs≠[]/\xs.length+ys.length<=sizeLine /\
 (ys=[]->Q (.ref a) H)/\(ys≠[]->∀ p,H p=none->Q (.ref p) (upd H p (.tup (xs++ys))))
theorem Vals.nil_iff {xs:List V} {us:List Value} (r:Vals xs us):us=[]↔xs=[]:=by
 cases r with
 | nil=>simp
 | cons _ _=>simp
theorem fT:OpR X (binaryOp .Add) (kNI X.K):=by
 intro pins s σ H x y v u Q I rx ry h;obtain ⟨a,b,xs,ys,rfl,rfl,ha,hb,hx,hz,q1,q2⟩:=h;cases rx
 cases ry
 obtain ⟨its,r1,p1,_⟩:=I.tuple ha;obtain ⟨its2,r2,p2,_⟩:=I.tuple hb;refine HT.cat_tup p1 p2 (λ z=>hx (r1.nil_iff.mp z)) (λ z=>⟨.ref a,H,I,rfl,q1 (r2.nil_iff.mp z)⟩) (λ z=>?_) (by rw [<-r1.length,<-r2.length];exact hz);refine ⟨.ref s.heap.objs.size,_,I.laid (t':=s.toks) (o:=.tup (xs++ys)) (λ b ob q=>Heap.get?_push_of_some _ q) (Nat.le_refl _) ?_,rfl,q2 (λ w=>z (r2.nil_iff.mpr w)) _ (I.hok.fresh (Nat.le_refl _))⟩;exact ⟨by rw [length_append];exact hz,_,r1.append r2,IsTupN.new _ _⟩
end
def ixN (n:Nat) (i:Int):Option Nat:=if 0<=i then (if i<n then some i.toNat else none) else if -(n:Int)<=i then some (i+n).toNat else none
def atI {α:Type} (xs:List α) (i:Int):Option α:=(ixN xs.length i).bind λ j=>xs[j]?
theorem kBS {n:Nat} {i:Int} {j:Nat} (h:ixN n i=some j):seqIndex? i n=some j/\j<n/\-(n:Int)<=i/\i<n:=by
 unfold ixN at h;by_cases h0:0<=i
 ·rw [if_pos h0] at h
  by_cases h1:i<n
  ·rw [if_pos h1] at h
   have e:i.toNat=j:=Option.some.inj h;exact ⟨by rw [seqIndex_of h0 h1,e],by omega,by omega,h1⟩
  ·rw [if_neg h1] at h;cases h
 ·rw [if_neg h0] at h
  by_cases h1 : -(n:Int)<=i
  ·rw [if_pos h1] at h
   have e:(i+n).toNat=j:=Option.some.inj h;exact ⟨by rw [seqIndex_neg (by omega) h1,e],by omega,h1,by omega⟩
  ·rw [if_neg h1] at h;cases h
theorem kCE {α:Type} {xs:List α} {i:Int} {v:α} (h:atI xs i=some v):∃ j,seqIndex? i xs.length=some j/\xs[j]?=some v/\j<xs.length/\-(xs.length:Int)<=i/\i<xs.length:=by
 unfold atI at h
 cases e:ixN xs.length i with
 | none=>rw [e] at h;cases h
 | some j =>
  rw [e] at h;obtain ⟨h1,h2,h3,h4⟩:=kBS e;exact ⟨j,h1,h,h2,h3,h4⟩
theorem jM {α:Type} {xs:List α} {j:Nat} {v:α} (h:xs[j]?=some v):atI xs (j:Int)=some v:=by
 have hj:j<xs.length:=(List.getElem?_eq_some_iff.mp h).1
 have e:ixN xs.length (j:Int)=some j:=by
  unfold ixN;rw [if_pos (by omega),if_pos (by omega)];simp
 unfold atI;rw [e];exact h
theorem kHC {α:Type} (xs:List α) (v:α):atI (xs++[v]) (-1)=some v:=by
 have hl:(xs++[v]).length=xs.length+1:=by simp
 have e:ixN (xs++[v]).length (-1)=some xs.length:=by
  unfold ixN;rw [hl,if_neg (by decide),if_pos (by omega)]
  congr 1
  omega
 unfold atI;rw [e];show (xs++[v])[xs.length]?=some v;simp
def kJH (b:Expr):Prop:=∀ o i,subscripted b false o i=operate [o,i] (getItem o i)
def IxR (X:Cx) (r:R2):Prop :=
 ∀ (value slice:Expr) (pins:List (Addr×Obj)) (s:Shared) (σ:St) (H:Hp) (x y:V) (v u:Value) (Q:VK),Inv X pins σ H s->RelV x v->RelV y u->r x y H Q ->
  subscripted slice false v u=operate [v,u] (getItem v u)->wpAny (model X.prog X.w) X.A (subscriptTail value slice v u) (EP X pins σ Q) X.xe s
def MtR (X:Cx) (id:String) (r:V->List V->Hp->VK->Prop):Prop :=
 ∀ (pins:List (Addr×Obj)) (s:Shared) (σ:St) (H:Hp) (x:V) (xs:List V) (v:Value) (us:List Value) (Q:VK),Inv X pins σ H s->RelV x v->Vals xs us->r x xs H Q ->
  wpAny (model X.prog X.w) X.A (call (.builtin id) (v::us)) (EP X pins σ Q) X.xe s
section
variable {X:Cx} {a b:Expr} {ta tb:TE} {pos:Pos}
theorem kX {r:R2} (hr:IxR X r) (ha:PE X a ta) (hb:PE X b tb) (hs:kJH b):PE X (.Subscript a b pos) (tOp r ta tb):=by
 intro pins s σ H Q I h;exact Subscript_ (kMH ha hb I h λ v u s2 x y H2 I2 rx ry q=>hr a b pins s2 σ H2 x y v u Q I2 rx ry q (hs _ _))
def kNF (K:PySem.W.Frag):R2:=λ x y H Q=>∃ p xs i v,x=.ref p/\y=.int i/\SqL K H p xs/\atI xs i=some v/\Q v H
def kNE (K:PySem.W.Frag):R2:=λ x y H Q=>∃ p xs i v,x=.ref p/\y=.int i/\SqT K H p xs/\atI xs i=some v/\Q v H
theorem kZ:IxR X (kNF X.K):=by
 intro value slice pins s σ H x y v u Q I rx ry h hs;obtain ⟨p,xs,i,z,rfl,rfl,hq,he,q⟩:=h;cases rx
 obtain ⟨t,rfl⟩:=ry;obtain ⟨its,r,pl,hz⟩:=I.list hq;obtain ⟨j,h1,h2,h3,h4,h5⟩:=kCE he;obtain ⟨w,ew,rw'⟩:=r.get h2;have hl:=r.length;have hn:=dJ;have fin:EP X pins σ Q w s:=⟨z,H,I,rw',q⟩;by_cases h0:0<=i
 ·have hj:i.toNat=j:=by
   rw [seqIndex_of h0 h5] at h1;exact Option.some.inj h1
  exact item_listR pl.isList h0 (by omega) (by rw [hj];simpa using ew) fin hs
 ·have hj:(i+(its.toArray.size:Int)).toNat=j:=by
   rw [seqIndex_neg (by omega) h4] at h1;rw [size_toArray,<-hl];exact Option.some.inj h1
  exact subscriptTail_builtinR (x:=w) pl.isList.typeIs slot_list_getitem.lookup
   (wpAny_getItem_list_neg (Q:=λ r s'=>r=w/\EP X pins σ Q r s') pl.isList (by omega) (by rw [size_toArray]<;>omega) (by omega) (by rw [hj];simpa using ew) ⟨rfl,fin⟩) hs
theorem qX:IxR X (kNE X.K):=by
 intro value slice pins s σ H x y v u Q I rx ry h hs;obtain ⟨p,xs,i,z,rfl,rfl,hq,he,q⟩:=h;cases rx
 obtain ⟨t,rfl⟩:=ry;obtain ⟨its,r,pl,hz⟩:=I.tuple hq;obtain ⟨j,h1,h2,h3,h4,h5⟩:=kCE he;obtain ⟨w,ew,rw'⟩:=r.get h2;have hl:=r.length;have hn:=dJ;have fin:EP X pins σ Q w s:=⟨z,H,I,rw',q⟩
 exact subscriptTail_builtinR (x:=w) pl.typeIs slot_tuple_getitem.lookup
  (getItem_tuple (j:=j) (Q:=λ r s'=>r=w/\EP X pins σ Q r s') pl (by omega) (by omega) (by rw [size_toArray,<-hl];exact h1) (by simpa using ew) ⟨rfl,fin⟩) hs
theorem kAK (its:List Value) (n j:Nat) (u:Value):Obj.mapSeq (·.setIfInBounds j u) { cls:=.type "list",data:=.seq its.toArray n }={ cls:=.type "list",data:=.seq (its.set j u).toArray n }:=by
 simp [Obj.mapSeq]
theorem Inv.lst {pins:List (Addr×Obj)} {σ:St} {H:Hp} {s:Shared} {p:Addr} {xs:List V} (I:Inv X pins σ H s) (h:H p=some (.lst xs)) :
  ∃ (its:List Value) (n:Nat),Vals xs its/\s.heap.get? p=some { cls:=.type "list",data:=.seq its.toArray n }/\xs.length<=sizeLine:=by
 obtain ⟨z,its,n,r,e⟩:=I.hok p _ h;exact ⟨its,n,r,e,z⟩
theorem Inv.lstUpd {pins:List (Addr×Obj)} {σ:St} {H:Hp} {s:Shared} {p:Addr} {xs ys:List V} {its its':List Value} {n n':Nat} {f:Obj->Obj} (I:Inv X pins σ H s) (h:H p=some (.lst xs))
  (ho:s.heap.get? p=some { cls:=.type "list",data:=.seq its.toArray n }) (hf:f { cls:=.type "list",data:=.seq its.toArray n }={ cls:=.type "list",data:=.seq its'.toArray n' }) (r:Vals ys its') (hz:ys.length<=sizeLine) (t:Nat) :
  Inv X pins σ (upd H p (.lst ys)) { s with heap:=s.heap.update p f,toks:=t }:=by
 have e:(s.heap.update p f).get? p=some { cls:=.type "list",data:=.seq its'.toArray n' }:=by
  rw [Heap.get?_update_self f ho (by rw [hf]<;>rfl),hf]
 refine I.write (x:=p) (e:=p) (by rw [h];trivial) (.inl rfl) (λ b u hb q=>(Heap.get?_update_other _ _ (Ne.symm hb)).trans q) ⟨_,e⟩ ?_;exact ⟨hz,its',n',r,e⟩
def kND:V->V->V->Hp->(Hp->Prop)->Prop:=λ o i v H Q=>∃ p xs k j,o=.ref p/\i=.int k/\H p=some (.lst xs)/\ixN xs.length k=some j/\Q (upd H p (.lst (xs.set j v)))
theorem wP:kOD X kND:=by
 intro pins s σ H o i v ov iv u Q I ro ri rv h;obtain ⟨p,xs,k,j,rfl,rfl,hp,hj,q⟩:=h;cases ro
 obtain ⟨t,rfl⟩:=ri;obtain ⟨its,n,r,ho,hz⟩:=I.lst hp;obtain ⟨h1,h2,h3,h4⟩:=kBS hj;have hl:=r.length;have hn:=dJ
 have I':Inv X pins σ (upd H p (.lst (xs.set j v))) { s with heap:=s.heap.update p (Obj.mapSeq (·.setIfInBounds j u)) } :=
  I.lstUpd hp ho (kAK its n j u) (r.set rv j) (by rw [length_set];exact hz) s.toks
 by_cases h0:0<=k
 ·have hk:k.toNat=j:=by
   rw [seqIndex_of h0 h4] at h1;exact Option.some.inj h1
  exact PySem.W.ki_setAt ho h0 (by omega) (by rw [size_toArray,<-hl];exact h4) (by rw [hk];exact ⟨_,I',q⟩)
 ·have hk:(k+(its.toArray.size:Int)).toNat=j:=by
   rw [seqIndex_neg (by omega) h3] at h1;rw [size_toArray,<-hl];exact Option.some.inj h1
  exact PySem.W.ki_setBack ho (by omega) (by rw [size_toArray,<-hl];exact h3) (by omega) (by rw [hk];exact ⟨_,I',q⟩)
theorem oK (lo hi:Option Int) (n:Nat):(sliceBounds lo hi none n).1=((HT.sIx n 0 lo:Nat):Int)/\(sliceBounds lo hi none n).2.1=((HT.sIx n n hi:Nat):Int)/\(sliceBounds lo hi none n).2.2=1:=by
 refine ⟨?_,?_,rfl⟩
 ·cases lo with
  | none=>simp [sliceBounds,HT.sIx]
  | some i =>
   simp only [sliceBounds,HT.sIx,Option.getD_none,show (1:Int)>0 by decide,if_true];by_cases h:i<0
   ·simp only [h,if_true]<;>omega
   ·simp only [h,if_false]<;>omega
 ·cases hi with
  | none=>simp [sliceBounds,HT.sIx]
  | some i =>
   simp only [sliceBounds,HT.sIx,Option.getD_none,show (1:Int)>0 by decide,if_true];by_cases h:i<0
   ·simp only [h,if_true]<;>omega
   ·simp only [h,if_false]<;>omega
theorem mI (its:List Value) (lo hi:Option Int):slicePick its.toArray lo hi none=((its.drop (HT.sIx its.length 0 lo)).take (HT.sIx its.length its.length hi-HT.sIx its.length 0 lo)).toArray:=by
 obtain ⟨h1,h2,h3⟩:=oK lo hi its.toArray.size;unfold slicePick;rw [h1,h2,h3];simp only [sliceRange_one,pick_run,size_toArray]<;>rfl
def kOP (K:PySem.W.Frag):V->Option Int->Option Int->Hp->VK->Prop:=λ x lo hi H Q=>∃ a xs,x=.ref a/\SqL K H a xs/\∀ p,H p=none->Q (.ref p) (upd H p (.lst (uJ xs lo hi)))
theorem bP:SlR X (kOP X.K):=by
 intro pins s σ H x v vl vu lo hi sl Q I rx hs pl pu h;obtain ⟨a,xs,rfl,hx,q⟩:=h;cases rx
 obtain ⟨its,r,ht,hz⟩:=I.list hx;have hlen:=r.length;refine ⟨"list",_,slot_list_getitem.lookup,ht.isList.typeIs,?_⟩;refine wpAny_getItem_list_slice ht.isList hs pl pu .none (by simp) ?_ (by rw [size_toArray]<;>omega);rw [mI,<-hlen];refine ⟨.ref s.heap.objs.size,_,I.laid (t':=s.toks) (o:=.lst (uJ xs lo hi)) (λ b ob q=>Heap.get?_push_of_some _ q) (Nat.le_refl _) ?_,rfl,q _ (I.hok.fresh (Nat.le_refl _))⟩;exact ⟨Nat.le_trans (fB xs lo hi) hz,_,0,(r.drop (HT.sIx xs.length 0 lo)).take (HT.sIx xs.length xs.length hi-HT.sIx xs.length 0 lo),Heap.get?_push_size _ rfl⟩
def aT:V->Bool
 | .non=>true
 | .bl _=>true
 | .int _=>true
 | .str _=>true
 | _=>false
def eqV:V->V->Bool
 | .non,.non=>true
 | .bl a,.bl b=>a == b
 | .bl a,.int b=>(if a then 1 else 0) == b
 | .int a,.bl b=>a == (if b then 1 else 0)
 | .int a,.int b=>a == b
 | .str a,.str b=>a == b
 | _,_=>false
theorem kMA {A:Around} {s:Shared} {y x:V} {u v:Value} (ry:RelV y u) (rx:RelV x v) (fy:aT y=true) (fx:aT x=true):SeqAt.EqAt A s u v (eqV y x):=by
 cases y with
 | non =>
  cases ry
  cases x with
  | non=>cases rx;exact SeqAt.EqAt.same _
  | bl b=>cases rx;exact SeqAt.EqAt.none_bool b
  | int b=>obtain ⟨t,rfl⟩:=rx;exact SeqAt.EqAt.none_int b t
  | str b=>obtain ⟨t,rfl⟩:=rx;exact SeqAt.EqAt.none_str b t
  | _=>exact absurd (show false=true from fx) Bool.false_ne_true
 | bl a =>
  cases ry
  cases x with
  | non=>cases rx;exact SeqAt.EqAt.bool_none a
  | bl b=>cases rx;exact SeqAt.EqAt.bool_bool a b
  | int b=>obtain ⟨t,rfl⟩:=rx;exact SeqAt.EqAt.bool_int a b t
  | str b=>obtain ⟨t,rfl⟩:=rx;exact SeqAt.EqAt.bool_str a b t
  | _=>exact absurd (show false=true from fx) Bool.false_ne_true
 | int a =>
  obtain ⟨t',rfl⟩:=ry
  cases x with
  | non=>cases rx;exact SeqAt.EqAt.int_none a t'
  | bl b=>cases rx;exact SeqAt.EqAt.int_bool a t' b
  | int b=>obtain ⟨t,rfl⟩:=rx;exact SeqAt.EqAt.int_int a t' b t
  | str b=>obtain ⟨t,rfl⟩:=rx;exact SeqAt.EqAt.int_str a t' b t
  | _=>exact absurd (show false=true from fx) Bool.false_ne_true
 | str a =>
  obtain ⟨t',rfl⟩:=ry
  cases x with
  | non=>cases rx;exact SeqAt.EqAt.str_none a t'
  | bl b=>cases rx;exact SeqAt.EqAt.str_bool a t' b
  | int b=>obtain ⟨t,rfl⟩:=rx;exact SeqAt.EqAt.str_int a t' b t
  | str b=>obtain ⟨t,rfl⟩:=rx;exact SeqAt.EqAt.str_str a t' b t
  | _=>exact absurd (show false=true from fx) Bool.false_ne_true
 | _=>exact absurd (show false=true from fy) Bool.false_ne_true
def eqU (x:V) (u:Value):Bool:=match u with
 | .none=>eqV .non x
 | .bool b=>eqV (.bl b) x
 | .int i _=>eqV (.int i) x
 | .str z _=>eqV (.str z) x
 | _=>false
theorem kGQ {x y:V} {u:Value} (r:RelV y u) (f:aT y=true):eqU x u=eqV y x:=by
 cases y with
 | non=>cases r;rfl
 | bl b=>cases r;rfl
 | int i=>obtain ⟨t,rfl⟩:=r;rfl
 | str z=>obtain ⟨t,rfl⟩:=r;rfl
 | _=>exact absurd (show false=true from f) Bool.false_ne_true
theorem cQ {x:V}:∀ {xs:List V} {us:List Value},Vals xs us->xs.all aT=true->us.any (eqU x)=xs.any λ y=>eqV y x
 | _,_,.nil,_=>rfl
 | y::xs,u::us,.cons r t,f=>by
  rw [List.all_cons,Bool.and_eq_true] at f;rw [any_cons,any_cons,kGQ r f.1,cQ t f.2]
theorem uS {A:Around} {s:Shared} {x:V} {v:Value} (rx:RelV x v) (fx:aT x=true):∀ {xs:List V} {us:List Value},Vals xs us->xs.all aT=true->∀ u∈us,SeqAt.EqAt A s u v (eqU x u)
 | _,_,.nil,_=>λ u hu=>by cases hu
 | y::xs,u::us,.cons r t,f=>λ u' hu=>by
  rw [List.all_cons,Bool.and_eq_true] at f;rcases mem_cons.mp hu with rfl | hu
  ·rw [kGQ r f.1];exact kMA r rx f.1 fx
  ·exact uS rx fx t f.2 u' hu
def inV (x:V) (xs:List V):Bool:=xs.any λ y=>eqV y x
def rIn (K:PySem.W.Frag) (neg:Bool):R2:=λ x y H Q=>∃ p xs,y=.ref p/\(SqL K H p xs\/SqT K H p xs)/\aT x=true/\xs.all aT=true/\Q (.bl (if neg then !inV x xs else inV x xs)) H
theorem dF:OpR X (compareOp .In) (rIn X.K false):=by
 intro pins s σ H x y v u Q I rx ry h;obtain ⟨p,xs,rfl,hq,fx,fs,q⟩:=h;cases ry
 rcases hq with hq | hq
 ·obtain ⟨its,r,pl,hz⟩:=I.list hq
  refine SeqAt.in_listAt (eqU x) pl.isList (λ w hw=>uS rx fx r fs w (by simpa using hw)) ⟨.bl _,H,I,rfl,?_⟩;rw [show its.toArray.any (eqU x)=its.any (eqU x) by simp,cQ r fs];exact q
 ·obtain ⟨its,r,pl,hz⟩:=I.tuple hq
  refine SeqAt.in_tupleAt (eqU x) pl (λ w hw=>uS rx fx r fs w (by simpa using hw)) ⟨.bl _,H,I,rfl,?_⟩;rw [show its.toArray.any (eqU x)=its.any (eqU x) by simp,cQ r fs];exact q
theorem yY:OpR X (compareOp .NotIn) (rIn X.K true):=by
 intro pins s σ H x y v u Q I rx ry h;obtain ⟨p,xs,rfl,hq,fx,fs,q⟩:=h;cases ry
 rcases hq with hq | hq
 ·obtain ⟨its,r,pl,hz⟩:=I.list hq
  refine SeqAt.notIn_listAt (eqU x) pl.isList (λ w hw=>uS rx fx r fs w (by simpa using hw)) ⟨.bl _,H,I,rfl,?_⟩;rw [show its.toArray.any (eqU x)=its.any (eqU x) by simp,cQ r fs];exact q
 ·obtain ⟨its,r,pl,hz⟩:=I.tuple hq
  refine SeqAt.notIn_tupleAt (eqU x) pl (λ w hw=>uS rx fx r fs w (by simpa using hw)) ⟨.bl _,H,I,rfl,?_⟩;rw [show its.toArray.any (eqU x)=its.any (eqU x) by simp,cQ r fs];exact q
theorem kO:xQ X (.builtin "len") (λ xs H Q=>∃ p ys,xs=[.ref p]/\(SqL X.K H p ys\/SqT X.K H p ys)/\Q (.int ys.length) H):=by
 intro pins s σ H xs us Q I r h;obtain ⟨p,ys,rfl,hq,q⟩:=h;obtain ⟨u,rfl,rx⟩:=uL r;cases rx
 have hn:=dJ;rcases hq with hq | hq
 ·obtain ⟨its,r',pl,hz⟩:=I.list hq
  have hlen:=r'.length;exact Calls.call_len_list pl.isList (by simp only [size_toArray]<;>omega) ⟨.int ys.length,H,I.tok _,⟨s.toks+1,by rw [size_toArray,hlen]⟩,q⟩
 ·obtain ⟨its,r',pl,hz⟩:=I.tuple hq
  have hlen:=r'.length;exact len_tuple pl (by simp only [size_toArray]<;>omega) ⟨.int ys.length,H,I.tok _,⟨s.toks+1,by rw [size_toArray,hlen]⟩,q⟩
theorem jK:xQ X (.type "list") (λ xs H Q=>∃ p ys,xs=[.ref p]/\(SqL X.K H p ys\/SqT X.K H p ys)/\∀ l,H l=none->Q (.ref l) (upd H l (.lst ys))):=by
 intro pins s σ H xs us Q I r h;obtain ⟨p,ys,rfl,hq,q⟩:=h;obtain ⟨u,rfl,rx⟩:=uL r;cases rx
 have fin:∀ (its:List Value),Vals ys its->ys.length<=sizeLine->∀ (h':Heap) (c':Nat),(∀ b o',s.heap.get? b=some o'->h'.get? b=some o') ->
   h'.get? s.heap.objs.size=some { cls:=.type "list",dict:=none,data:=.seq its.toArray c',slots:=#[] }->EP X pins σ Q (.ref s.heap.objs.size) { s with heap:=h' }:=λ its r' hz h' c' kp e =>
  ⟨.ref s.heap.objs.size,_,I.laid (t':=s.toks) kp (Nat.le_refl _) (show ObjOk X.prog X.w _ h' _ (.lst ys) from ⟨hz,its,c',r',e⟩),rfl,q _ (I.hok.fresh (Nat.le_refl _))⟩
 rcases hq with hq | hq
 ·obtain ⟨its,r',pl,hz⟩:=I.list hq
  have hlen:=r'.length;obtain ⟨o,ho,hc,n,hd⟩:=pl.isList;exact call_list_seq p (.inl rfl) ho hc hd (λ h' c' kp e=>fin its r' hz h' c' kp e) (by simp only [size_toArray]<;>omega)
 ·obtain ⟨its,r',pl,hz⟩:=I.tuple hq
  have hlen:=r'.length;obtain ⟨o,ho,hc,n,hd⟩:=pl;exact call_list_seq p (.inr rfl) ho hc hd (λ h' c' kp e=>fin its r' hz h' c' kp e) (by simp only [size_toArray]<;>omega)
theorem qR:xQ X (.type "tuple") (λ xs H Q=>∃ p ys,xs=[.ref p]/\((SqL X.K H p ys/\∀ l,H l=none->Q (.ref l) (upd H l (.tup ys)))\/(SqT X.K H p ys/\Q (.ref p) H))):=by
 intro pins s σ H xs us Q I r h;obtain ⟨p,ys,rfl,h⟩:=h;obtain ⟨u,rfl,rx⟩:=uL r;cases rx
 rcases h with ⟨hq,q⟩ | ⟨hq,q⟩
 ·obtain ⟨its,r',pl,hz⟩:=I.list hq
  have hlen:=r'.length;refine call_tuple_list pl.isList (λ h' kp=>?_) (by simp only [size_toArray]<;>omega);have I1:Inv X pins σ H { s with heap:=h' }:=I.kept (t':=s.toks) kp
  have I2:Inv X pins σ (upd H h'.objs.size (.tup ys)) { s with heap:=h'.push { cls:=.type "tuple",data:=.seq its.toArray } } :=
   I1.laid (t':=s.toks) (λ b o e=>Heap.get?_push_of_some _ e) (Nat.le_refl _) (show ObjOk X.prog X.w _ _ _ (.tup ys) from ⟨hz,its,r',IsTupN.new _ _⟩)
  exact ⟨.ref h'.objs.size,_,I2,rfl,q _ (I1.hok.fresh (Nat.le_refl _))⟩
 ·obtain ⟨its,r',pl,hz⟩:=I.tuple hq
  exact call_tuple_same pl ⟨.ref p,H,I,rfl,q⟩
def tyV (K:PySem.W.Frag) (T:String) (x:V) (H:Hp):Prop:=match x with
 | .str _=>T = "str"
 | .int _=>T = "int"
 | .ref p=>(T = "list"/\∃ xs,SqL K H p xs)\/(T = "tuple"/\((∃ o,K.lookup p=some o/\o.cls=.type "tuple"/\o.dict=none)\/∃ xs,H p=some (.tup xs))) \/
   (T = "dict"/\((∃ kvs,H p=some (.dK kvs))\/∃ kvs,H p=some (.dT kvs)))\/(T = "set"/\∃ S n,H p=some (.set S n))
 | _=>False
theorem kEH {pins:List (Addr×Obj)} {σ:St} {H:Hp} {s:Shared} {T:String} {x:V} {v:Value} (I:Inv X pins σ H s) (r:RelV x v) (ty:tyV X.K T x H) :
  s.TypeIs v T/\∀ a,v=.ref a->∃ ob,s.heap.get? a=some ob/\ob.dict=none:=by
 cases x with
 | str z =>
  obtain ⟨t,rfl⟩:=r
  cases (show T = "str" from ty)
  exact ⟨typeIs_str s z t,λ _ e=>nomatch e⟩
 | int i =>
  obtain ⟨t,rfl⟩:=r
  cases (show T = "int" from ty)
  exact ⟨typeIs_int s i t,λ _ e=>nomatch e⟩
 | ref p =>
  cases r
  rcases ty with ⟨rfl,xs,hq⟩ | ⟨rfl,⟨o,hk,hc,hd⟩ | ⟨xs,hq⟩⟩ | ⟨rfl,hk⟩ | ⟨rfl,S,n,hk⟩
  ·obtain ⟨its,_,pl,_⟩:=I.list hq
   refine ⟨pl.isList.typeIs,λ a e=>?_⟩;cases e
   obtain ⟨o,n,e,c,hd,_⟩:=pl;exact ⟨o,e,hd⟩
  ·refine ⟨⟨o,I.kIn p o hk,hc⟩,λ a e=>?_⟩
   cases e
   exact ⟨o,I.kIn _ o hk,hd⟩
  ·obtain ⟨_,its,_,o,e,c,n,_,hd⟩:=(show ObjOk X.prog X.w H s.heap p (.tup xs) from I.hok p _ hq)
   refine ⟨⟨o,e,c⟩,λ a e2=>?_⟩;cases e2
   exact ⟨o,e,hd⟩
  ·have z:∃ o,s.heap.get? p=some o/\o.ExactDict:=by
    rcases hk with ⟨kvs,hk⟩ | ⟨kvs,hk⟩
    ·obtain ⟨_,_,_,_,o,_,_,e,ex,_⟩:=I.hok p _ hk
     exact ⟨o,e,ex⟩
    ·obtain ⟨_,_,_,_,o,_,_,e,ex,_⟩:=I.hok p _ hk
     exact ⟨o,e,ex⟩
   obtain ⟨o,e,ex⟩:=z;refine ⟨⟨o,e,ex.1⟩,λ a e2=>?_⟩;cases e2
   exact ⟨o,e,ex.2.1⟩
  ·obtain ⟨o,_,_,_,e,ex,_⟩:=I.hok p _ hk
   refine ⟨⟨o,e,ex.1⟩,λ a e2=>?_⟩;cases e2
   exact ⟨o,e,ex.2.1⟩
 | _=>exact False.elim ty
def kON (K:PySem.W.Frag) (T:String) (r:V->List V->Hp->VK->Prop) (to:TE):TE:=λ σ H Q=>to σ H λ x H1=>tyV K T x H1/\r x [] H1 Q
def tBM (K:PySem.W.Frag) (T:String) (r:V->List V->Hp->VK->Prop) (to:TE) (t:TA):TE:=λ σ H Q=>to σ H λ x H1=>tyV K T x H1/\t σ H1 λ xs H2=>r x xs H2 Q
variable {o e:Expr} {es:List Expr} {to:TE} {t:TA} {name:Str} {apos cpos:Pos} {T id:String} {r:V->List V->Hp->VK->Prop}
theorem kKU (pa:PlainAttrs T) (slot:Slot T name id) (hty:typeOf (.builtin id)=pure (.type "method_descriptor")) (hm:MtR X id r) (ho:PE X o to)
  (hbase:attributeBase o name X.env (eval o X.env)=eval o X.env:=by rfl) (hline:(apos.endLine == cpos.line)=true:=by rfl):PE X (.Call (.Attribute o name apos) [] [] cpos) (kON X.K T r to):=by
 intro pins s σ H Q I h;refine wpAny_Call_method0_late hbase hline (thn (ho pins s σ H _ I h) λ v s1 ⟨x,H1,I1,r1,ty,q1⟩=>?_);obtain ⟨h1,h2⟩:=kEH I1 r1 ty;exact ⟨T,id,pa,slot,hty,h1,h2,Calls.callWith_builtin rfl (PySem.evalArgs_none (hm pins s1 σ H1 x [] v [] Q I1 r1 .nil q1))⟩
theorem jW (pa:PlainAttrs T) (slot:Slot T name id) (hty:typeOf (.builtin id)=pure (.type "method_descriptor")) (hm:MtR X id r) (ho:PE X o to) (ha:PA X (e::es) t)
  (hbase:attributeBase o name X.env (eval o X.env)=eval o X.env:=by rfl)
  (hfew:((backTo cpos (starEach (e::es) X.env)).all (λ x=>!x.1) && (backToKw cpos (keywordEach [] X.env)).all (λ x=>x.1.isSome)
   && decide ((e::es).length+([]:List Keyword).length+(if ([]:List Keyword).isEmpty then 0 else 1)<30))=true:=by rfl)
  (hline:(apos.endLine == cpos.line)=true:=by rfl) (hs:starEach (e::es) X.env=(false,eval e X.env)::starEach es X.env:=by rfl) (hplain:(backTo cpos (starEach es X.env)).any (·.1)=false:=by rfl) :
  PE X (.Call (.Attribute o name apos) (e::es) [] cpos) (tBM X.K T r to t):=by
 intro pins s σ H Q I h;refine wpAny_Call_method_late hbase hfew hline rfl (thn (ho pins s σ H _ I h) λ v s1 ⟨x,H1,I1,r1,ty,q1⟩=>?_);obtain ⟨h1,h2⟩:=kEH I1 r1 ty;refine ⟨T,id,pa,slot,hty,h1,h2,?_⟩;have hA:=ha cpos pins s1 σ H1 _ I1 q1;rw [hs] at hA ⊢;refine Calls.callWith_builtin (by show (false || (backTo cpos (starEach es X.env)).any (·.1))=false;rw [hplain]<;>rfl) (Calls.evalArgs_plain ?_);exact thn hA λ us s2 ⟨vs,H2,I2,r2,q2⟩=>hm pins s2 σ H2 x vs v us Q I2 r1 r2 q2
end
def MtM (X:Cx) (id:String) (r:V->List V->Hp->VK->Prop):Prop :=
 ∀ (pins:List (Addr×Obj)) (s:Shared) (σ:St) (H:Hp) (x:V) (xs:List V) (v:Value) (us:List Value) (Q:VK),Inv X pins σ H s->RelV x v->Vals xs us->r x xs H Q ->
  wpAny (model X.prog X.w) X.A (call (.builtin id) (v::us)) (EP X pins σ Q) X.xe s
theorem Vals.one:∀ {x:V} {us:List Value},Vals [x] us->∃ u,us=[u]/\RelV x u
 | _,_,.cons r .nil=>⟨_,rfl,r⟩
theorem Vals.two:∀ {x y:V} {us:List Value},Vals [x,y] us->∃ u v,us=[u,v]/\RelV x u/\RelV y v
 | _,_,_,.cons r (.cons q .nil)=>⟨_,_,rfl,r,q⟩
theorem Vals.zero:∀ {us:List Value},Vals [] us->us=[]
 | _,.nil=>rfl
theorem Vals.dropLast {xs:List V} {us:List Value} (h:Vals xs us):Vals xs.dropLast us.dropLast:=by
 induction h with
 | nil=>exact .nil
 | cons r t ih =>
  cases t with
  | nil=>exact .nil
  | cons q t'=>exact .cons r ih
theorem Vals.eraseIdx:∀ {xs:List V} {us:List Value} (i:Nat),Vals xs us->Vals (xs.eraseIdx i) (us.eraseIdx i)
 | _,_,_,.nil=>.nil
 | _,_,0,.cons _ t=>t
 | _,_,i+1,.cons r t=>.cons r (Vals.eraseIdx i t)
theorem Vals.rep {xs:List V} {us:List Value} (h:Vals xs us):∀ k:Nat,Vals (List.replicate k xs).flatten (List.replicate k us).flatten
 | 0=>.nil
 | k+1=>by
  rw [replicate_succ,replicate_succ,List.flatten_cons,List.flatten_cons];exact Vals.append h (Vals.rep h k)
theorem kAS {α:Type} (l:List α):l.eraseIdx (l.length-1)=l.dropLast:=by
 induction l with
 | nil=>rfl
 | cons a r ih =>
  cases r with
  | nil=>rfl
  | cons b r =>
   have e:(a::b::r).length-1=((b::r).length-1)+1:=by
    have h1:(a::b::r).length=r.length+2:=rfl;have h2:(b::r).length=r.length+1:=rfl;omega
   rw [e,List.eraseIdx_cons_succ,ih]
   all_goals rfl
theorem dL {α:Type}:∀ (l:List α) (i:Nat),(l.eraseIdx i).length<=l.length
 | [],_=>Nat.le_refl _
 | _::_,0=>Nat.le_succ _
 | _::r,i+1=>Nat.succ_le_succ (dL r i)
theorem nP (its:List Value):∀ (k:Nat) (acc:List Value),
  List.foldl (λ x1 x2=>x1++x2) acc.toArray (List.replicate k its.toArray)=(acc++(List.replicate k its).flatten).toArray
 | 0,acc=>by simp
 | k+1,acc=>by
  have e:acc.toArray++its.toArray=(acc++its).toArray:=by simp
  have e2:(acc++its)++(List.replicate k its).flatten=acc++(List.replicate (k+1) its).flatten:=by
   rw [replicate_succ,List.flatten_cons,append_assoc]
  rw [<-e2,<-nP its k (acc++its),<-e,replicate_succ,foldl_cons]
section
variable {X:Cx} {pins:List (Addr×Obj)} {σ:St} {H:Hp} {s:Shared} {l b:Addr} {xs ys zs:List V}
theorem Inv.lset {its its':List Value} {n:Nat} {f:Array Value->Array Value} {t':Nat} (I:Inv X pins σ H s) (hH:H l=some (.lst xs))
  (e:s.heap.get? l=some { cls:=.type "list",data:=.seq its.toArray n }) (hf:f its.toArray=its'.toArray) (hv:Vals ys its') (hz:ys.length<=sizeLine) :
  Inv X pins σ (upd H l (.lst ys)) { s with heap:=s.heap.update l (Obj.mapSeq f),toks:=t' }:=by
 have q:=PySem.IsL.update e f;rw [hf] at q;refine I.write (x:=l) (e:=l) (by rw [hH];exact trivial) (.inl rfl) (λ b' u hb hu=>(Heap.get?_update_other s.heap (Obj.mapSeq f) (Ne.symm hb)).trans hu) ⟨_,q⟩ ?_;exact ⟨hz,its',_,hv,q⟩
theorem Inv.lnew {its:List Value} {t':Nat} (I:Inv X pins σ H s) (hv:Vals ys its) (hz:ys.length<=sizeLine) :
  Inv X pins σ (upd H s.heap.objs.size (.lst ys)) { s with heap:=s.heap.push { cls:=.type "list",data:=.seq its.toArray },toks:=t' } :=
 I.laid (λ _ _ q=>Heap.get?_push_of_some _ q) (Nat.le_refl _) ⟨hz,its,0,hv,Heap.get?_push_size _ rfl⟩
theorem Inv.fresh (I:Inv X pins σ H s):H s.heap.objs.size=none:=I.hok.fresh (Nat.le_refl _)
theorem Inv.lstM (I:Inv X pins σ H s) (hH:H l=some (.lst xs)):xs.length<=sizeLine/\∃ (its:List Value) (n:Nat),Vals xs its/\xs.length=its.length/\s.heap.get? l=some { cls:=.type "list",data:=.seq its.toArray n }:=by
 obtain ⟨z,its,n,r,e⟩:=I.hok l _ hH;exact ⟨z,its,n,r,r.length,e⟩
theorem kGC {n:Nat} (h:n<=sizeLine):Builtin.List.listTooLong n=false:=by
 unfold Builtin.List.listTooLong;exact decide_eq_false (by omega)
end
section
variable {X:Cx}
def kHY:V->List V->Hp->VK->Prop:=λ x vs H Q=>∃ l xs y,x=.ref l/\vs=[y]/\H l=some (.lst xs)/\xs.length<sizeLine/\Q .non (upd H l (.lst (xs++[y])))
theorem zK:MtM X "list.append" kHY:=by
 intro pins s σ H x vs v us Q I rx rv h;obtain ⟨l,xs,y,rfl,rfl,hH,hz,q⟩:=h;cases rx
 obtain ⟨u,rfl,ru⟩:=rv.one;obtain ⟨z,its,n,r,hl,e⟩:=I.lstM hH;refine call_meets F.slot_list_append ⟨_,e,rfl⟩ F.entry_list_append (F.args_list_append_2 _ _) (PySem.list_append l its.toArray n u (by rw [size_toArray];omega)) ⟨e,?_⟩;refine ⟨.non,_,I.lset (its':=its++[u]) hH e (by simp) (r.append (.cons ru .nil)) ?_,rfl,q⟩;rw [length_append,length_singleton];omega
def kOS:V->List V->Hp->VK->Prop:=λ x vs H Q=>∃ l xs y,x=.ref l/\vs=[]/\H l=some (.lst xs)/\xs[xs.length-1]?=some y/\Q y (upd H l (.lst xs.dropLast))
theorem kLK:MtM X "list.pop" kOS:=by
 intro pins s σ H x vs v us Q I rx rv h;obtain ⟨l,xs,y,rfl,rfl,hH,hy,q⟩:=h;cases rx
 have hus:=rv.zero;subst hus;obtain ⟨z,its,n,r,hl,e⟩:=I.lstM hH;obtain ⟨u,hu,ru⟩:=r.get hy
 have hy':its.toArray[its.toArray.size-1]?=some u:=by
  show its.toArray[its.length-1]?=some u;rw [<-Array.getElem?_toList,<-hl];exact hu
 refine call_meets F.slot_list_pop ⟨_,e,rfl⟩ F.entry_list_pop (F.args_list_pop_1 _) (MeetsSeq.list_pop_last l its.toArray n u hy' (by rw [size_toArray];omega)) ⟨e,?_⟩;refine ⟨y,_,I.lset (its':=its.dropLast) hH e ?_ r.dropLast ?_,ru,q⟩
 ·show its.toArray.eraseIdxIfInBounds (its.toArray.size-1)=its.dropLast.toArray
  rw [size_toArray,List.eraseIdxIfInBounds_toArray,kAS]
 ·rw [List.length_dropLast]
  omega
def kKO:V->List V->Hp->VK->Prop:=λ x vs H Q=>∃ l xs i k y,x=.ref l/\vs=[.int i]/\H l=some (.lst xs)/\-(2 ^ 63)<=i/\i<2 ^ 63/\seqIndex? i xs.length=some k/\xs[k]?=some y/\Q y (upd H l (.lst (xs.eraseIdx k)))
theorem kGD:MtM X "list.pop" kKO:=by
 intro pins s σ H x vs v us Q I rx rv h;obtain ⟨l,xs,i,k,y,rfl,rfl,hH,h1,h2,hk,hy,q⟩:=h;cases rx
 obtain ⟨u,rfl,ru⟩:=rv.one;obtain ⟨t,rfl⟩:=ru;obtain ⟨z,its,n,r,hl,e⟩:=I.lstM hH;obtain ⟨w,hw,rw'⟩:=r.get hy
 refine call_meets F.slot_list_pop ⟨_,e,rfl⟩ F.entry_list_pop (F.args_list_pop_2 _ _)
  (MeetsSeq.list_pop_at l its.toArray n i t k w (fitsIndex_both h1 h2) (by rw [size_toArray,<-hl];exact hk) (by rw [<-Array.getElem?_toList];exact hw) (by rw [size_toArray];omega)) ⟨e,?_⟩
 refine ⟨y,_,I.lset (its':=its.eraseIdx k) hH e ?_ (r.eraseIdx k) ?_,rw',q⟩
 ·show its.toArray.eraseIdxIfInBounds k=(its.eraseIdx k).toArray
  rw [List.eraseIdxIfInBounds_toArray]
 ·have:=dL xs k
  omega
def kOV:R2:=λ x y H Q=>∃ l b xs zs,x=.ref l/\y=.ref b/\H l=some (.lst xs)/\H b=some (.lst zs)/\xs.length+zs.length<=sizeLine/\∀ p,H p=none->Q (.ref p) (upd H p (.lst (xs++zs)))
theorem kAA:OpR X (binaryOp .Add) kOV:=by
 intro pins s σ H x y v u Q I rx ry h;obtain ⟨l,b,xs,zs,rfl,rfl,hH,hB,hz,q⟩:=h;cases rx
 cases ry
 obtain ⟨z,its,n,r,hl,e⟩:=I.lstM hH;obtain ⟨z2,its2,n2,r2,hl2,e2⟩:=I.lstM hB;refine PySem.P.add_list e e2 ?_ (by rw [size_toArray,size_toArray];omega);have ea:its.toArray++its2.toArray=(its++its2).toArray:=by simp
 rw [ea];exact ⟨.ref _,_,I.lnew (t':=s.toks) (r.append r2) (by rw [length_append];omega),rfl,q _ I.fresh⟩
def kOR:R2:=λ x y H Q=>∃ l k xs,x=.ref l/\y=.int k/\H l=some (.lst xs)/\-(2 ^ 63)<=k/\k<2 ^ 63/\xs.length*k.toNat<=sizeLine /\
 ∀ p,H p=none->Q (.ref p) (upd H p (.lst (List.replicate k.toNat xs).flatten))
theorem kIO {α:Type} (xs:List α) (k:Nat):(List.replicate k xs).flatten.length=k*xs.length:=by
 induction k with
 | zero=>simp
 | succ k ih=>rw [replicate_succ,List.flatten_cons,length_append,ih,Nat.succ_mul,Nat.add_comm]
theorem kKZ:OpR X (binaryOp .Mult) kOR:=by
 intro pins s σ H x y v u Q I rx ry h;obtain ⟨l,k,xs,rfl,rfl,hH,h1,h2,hz,q⟩:=h;cases rx
 obtain ⟨t,rfl⟩:=ry;obtain ⟨z,its,n,r,hl,e⟩:=I.lstM hH;have hlen:its.toArray.size*k.toNat<=sizeLine:=by rw [size_toArray,<-hl];exact hz
 have hcap:¬ its.toArray.size*k.toNat>(2 ^ 63-1) / 8:=by
  have:(sizeLine:Nat)<=(2 ^ 63-1) / 8:=by decide
  omega
 have hfit:¬ (!Builtin.List.listFitsIndex k)=true:=by
  rw [fitsIndex_both h1 h2];exact Bool.false_ne_true
 have hlong:¬ Builtin.List.listTooLong (its.toArray.size*k.toNat)=true:=by
  rw [kGC hlen];exact Bool.false_ne_true
 have hnew:List.foldl (λ x1 x2=>x1++x2) #[] (List.replicate (if its.toArray.isEmpty=true then 0 else k.toNat) its.toArray)=(List.replicate k.toNat its).flatten.toArray:=by
  have f0:∀ m:Nat,List.foldl (λ x1 x2=>x1++x2) #[] (List.replicate m its.toArray)=(List.replicate m its).flatten.toArray:=λ m=>by
   have:=nP its m [];rw [nil_append] at this;exact this
  rw [f0]
  cases its with
  | nil=>simp
  | cons a r'=>rw [if_neg (by simp)]
 refine wpAny_binaryOp_repeat_ref (T:="list") (U:="int") (by decide) ⟨_,e,rfl⟩ (λ s'=>typeIs_int s' k t) noFill_list_mul F.fills_int_mul F.slot_int_rmul repeat_list F.slot_int_index.lookup
  (call_meets F.slot_int_rmul (typeIs_int s k t) F.entry_int_rmul (F.args_int_rmul_2 _ _) (int___rmul___int_list k t l its.toArray n)
   ⟨e,rfl,⟨_,e,rfl⟩,call_meets F.slot_list_mul ⟨_,e,rfl⟩ F.entry_list_mul (F.args_list_mul_2 _ _) (AutoListH.list___mul___list_int_3 l its.toArray n k t hfit hcap hlong) ⟨e,?_⟩⟩)
 rw [hnew];exact ⟨.ref _,_,I.lnew (t':=s.toks) (r.rep k.toNat) (by rw [kIO,Nat.mul_comm];exact hz),rfl,q _ I.fresh⟩
end
section
variable {prog:Program} {w:World} {A:Around} {E:Value->Shared->Prop} {s:Shared}
end
section
variable {X:Cx}
end
end L2
namespace Att
open PySem PySem.W PySem.Calls PyProof.Rows
theorem fL {P:Params} {h:Heap}:∀ (ns:List Int) (vs:List Value),WellAll P h vs (ns.map WData.int)->IntsAre vs ns:=by
 intro ns
 induction ns with
 | nil =>
  intro vs w;rw [map_nil] at w;cases w
  exact .nil
 | cons n ns ih =>
  intro vs w;rw [map_cons] at w
  cases w with
  | cons a b =>
   cases a
   exact .cons _ _ (ih _ b)
theorem kCS {l:OpenLaw} {n:Nat} (hn:l.most=some n) {P:Params} {h:Heap} {args:List WData} {vals:List Value}
  (hpre:l.row.toRowW.claim.pre args=true) (hwl:WellAll P h vals args) :
  ∃ a vs ns,vals=[Value.ref a]/\args=[WData.list (ns.map WData.int)]/\h.get? a=some { cls:=.type "list",data:=.seq vs.toArray }/\IntsAre vs ns/\ns.length<=n:=by
 have hsh:WShape.hasAll [] args [.list .int]=true:=(pre_splitW hpre).1;have hc:l.pre.holds [] { args:=args }=true:=(pre_splitW hpre).2;obtain ⟨d,r,rfl,h1,h2⟩:=hasAllW_cons hsh;obtain rfl:=hasAllW_nil h2;obtain ⟨xs,rfl,h3⟩:=hasW_list h1;obtain ⟨ns,rfl⟩:=items_int h3
 have hlen:ns.length<=n:=by
  unfold OpenLaw.pre at hc
  have h4:(WTm.not (.lt (.lit (.int (n:Int))) (.len (.arg 0)))).holds [] { args:=[.list (ns.map .int)] }=true:=by
   have h4:=(holds_andW hc).1;rw [hn] at h4;exact h4
  have h5:=condW_of h4 (w_not (w_lt w_lit (w_len_list (w_arg rfl))));rw [length_map] at h5;refine Nat.le_of_not_lt λ q=>?_;have q':(n:Int)<((ns.length:Nat):Int):=by omega
  first
   | (rw [decide_eq_true q'] at h5;exact absurd h5 (by decide))
   | (simp at h5;omega)
 cases hwl with
 | cons w1 w2 =>
  cases w2
  cases w1 with
  | list ho hall=>exact ⟨_,_,ns,rfl,rfl,ho,fL ns _ hall,hlen⟩
theorem kCX (l:OpenLaw) (args:List WData):l.row.toRowW.claim.post args (.bool true) args=true :=
 postW_of (r:=l.row.toRowW) (X:=(true == true))
  (show WShape.has [] (.bool true) .bool=true by first | rfl | decide | simp [WShape.has,WShape.arms,WShape.armsAll])
  (show (WTm.eq .res (.lit (.bool true))).value [] { args:=args,res:=some (.bool true),after:=args }=some (.bool (true == true)) from w_eq_bool (w_res rfl) w_lit) rfl
theorem attach_call {l:OpenLaw} {n:Nat} {q:Program} {loose:List Str} {XP:(Str->Option Value)->Heap->Prop} {YP:World->Heap->Prop} {d:DefRec}
  (hn:l.most=some n) (hdf:d.params.defaults=[])
  (call:∀ (w:World) (s₀ s₁:Shared) (mg mb:Str->Option Value) (fa:Addr) (o:Obj) (pm cd doc:Value) (a:Addr) (vs:List Value) (ns:List Int),
   Ground q loose [] XP w s₀ mg mb s₁.heap->YP w s₁.heap ->
   s₁.heap.get? fa=some o->o.data=.func (docDef d.name d.params d.body d.scope pm cd doc)->s₁.heap.CodeRec cd d.name->mg d.name=some (.ref fa) ->
   s₁.heap.get? a=some { cls:=.type "list",data:=.seq vs.toArray }->IntsAre vs ns->ns.length<=n->s₁.gens = #[] ->
   codeAny (model l.prog w) callerA (.call (.ref fa) ⟨[.ref a],[]⟩) (λ r s'=>r=.ok (.ret (.bool true))/\OldK s₁.heap s'.heap/\s'.os=s₁.os/\AllBare s'.gens) s₁) :
  WalkO q loose XP YP l.row.toRowW d [] (λ f vs=>PySem.call f vs):=by
 intro w s₀ s₁ mg mb G Y fa o pm cd doc dV kV ho hd hcd hD hmg hg args vals as hpre hlay hrd hwl hlo;obtain rfl:dV=.none:=Dflts.none hD hdf;obtain rfl:kV=.none:=Dflts.noKw hD;obtain ⟨a,vs,ns,rfl,rfl,hobj,hints,hlen⟩:=kCS hn hpre hwl;refine enter_call (codeAny_mono (call w s₀ s₁ mg mb fa o pm cd doc a vs ns G Y ho (fd_plain hd) hcd hmg hobj hints hlen hg) λ r s' hq=>?_);obtain ⟨rfl,h2,h3,h4⟩:=hq;exact ⟨.inl ⟨.bool true,.bool true,[],rfl,λ _=>rfl,.bool true,kCX l _,λ _=>⟨List.Pairwise.nil,λ _ hm=>(nomatch hm)⟩⟩,h2,h3,h4⟩
section
variable {prog:Program} {w:World} {A:Around} {E:Value->Shared->Prop} {s:Shared} {K:Frag}
end
end Att
namespace L2
open PySem PySem.Spec PyProof.Rows
theorem mT:∀ {vs:List Value} {ns:List Int},IntsAre vs ns->Vals (ns.map V.int) vs
 | _,_,.nil=>.nil
 | _,_,.cons n t h=>.cons ⟨t,rfl⟩ (mT h)
def kMN (H:Hp):Prop:=∀ b,H b=none\/∃ o xs,H b=some (.frz o (.lst xs))
theorem kGF {P:Program} {w:World} {K:PySem.W.Frag} {mg mb:Str->Option Value} {CX:CXT} {k:Nat} {fa a:Addr} {fd:FuncData} {x:Str} {sp:Sp} {s₁:Shared} {vs:List Value} {ns:List Int}
  (KX:K.In s₁.heap) (hns:s₁.heap.Ns mainGlobals mg) (hb:s₁.heap.Ns builtinsNs mb) (hbb:∀ x:Str,x≠"__name__"->mb x=bootBuiltins x) (hlim:s₁.heap.NoLimit) (hg:s₁.gens = #[])
  (ha:s₁.heap.get? a=some { cls:=.type "list",data:=.seq vs.toArray }) (hi:IntsAre vs ns) (hl:ns.length<=sizeLine) (hr:Room k callerA)
  (F:∀ base:Heap,K.In base->base.Ns mainGlobals mg->FnOk P w K mg base CX k fa fd [x] sp) (hbind:∀ (s:Shared) (u:Value),BindsTo s fd ⟨[u],[]⟩ [(x,u)])
  (hsp:∀ H:Hp,kMN H->SqL K H a (ns.map V.int)->sp [.ref a] H (λ v _=>v=.bl true) λ _ _ _=>False)
  (hCX:∀ H e s',CX [] H s₁ (λ _ _ _=>False) e s'->False) :
  codeAny (model P w) callerA (.call (.ref fa) ⟨[.ref a],[]⟩) (λ r s'=>r=.ok (.ret (.bool true))/\OldK s₁.heap s'.heap/\s'.os=s₁.os/\AllBare s'.gens) s₁:=by
 have rv:=mT hi
 have lenV:=hi.length
 have core:∀ H:Hp,kMN H->SqL K H a (ns.map V.int)->HOk P w H s₁.heap->(∀ b,H b≠none->b=a)->(H a≠none->K.lookup a=none) ->
   codeAny (model P w) callerA (.call (.ref fa) ⟨[.ref a],[]⟩) (λ r s'=>r=.ok (.ret (.bool true))/\OldK s₁.heap s'.heap/\s'.os=s₁.os/\AllBare s'.gens) s₁:=by
  intro H hO hS hok hA hK;have base_of:∀ {b:Addr} {o:Obj},s₁.heap.get? b=some o->H b=none->(pM s₁.heap H).get? b=some o:=λ e n=>kGJ e n
  have noA:∀ {b:Addr} {o:Obj} {es:Array DictEntry} {ep:Nat},s₁.heap.get? b=some o->o.data=.dict es ep->H b=none:=λ {b o es ep} e d=>by
   cases q:H b with
   | none=>rfl
   | some u =>
    have e':b=a:=hA b (by rw [q];simp);subst e';rw [ha] at e;cases e;have d':Data.seq vs.toArray _=Data.dict es ep:=d
    cases d'
  have nsK:∀ {b:Addr} {m:Str->Option Value},s₁.heap.Ns b m->(pM s₁.heap H).Ns b m:=λ {b m} ⟨o,es,ep,e,d,r⟩=>⟨o,es,ep,base_of e (noA e d),d,r⟩
  have hKb:K.In (pM s₁.heap H):=λ b o e=>base_of (KX b o e) (by
   cases q:H b with
   | none=>rfl
   | some u =>
    have e':b=a:=hA b (by rw [q];simp);subst e';rw [hK (by rw [q];simp)] at e;cases e)
  have hM:Mod K mg (pM s₁.heap H):=⟨hKb,nsK hns,⟨mb,nsK hb,hbb⟩,let ⟨mc,h1,h2⟩:=hlim;⟨mc,nsK h1,h2⟩⟩;have e0:Env0 P w K mg (pM s₁.heap H) callerA [] s₁ H:=⟨rfl,hM,λ b o e=>kIK e,Nat.le_of_eq (kDQ _ _),trivial,λ b hb=>absurd (show b∈([]:List Addr) from hb) (by simp),hok,.of_eq hg⟩;refine codeAny_mono ((F _ hKb (nsK hns)).run callerA [] s₁ H ⟨[.ref a],[]⟩ [.ref a] [.ref a] _ _ hr e0 (hbind s₁ (.ref a)) (.cons rfl .nil) (hsp H hO hS)) λ r s' h=>?_
  cases r with
  | error e=>exact (hCX H e s' h).elim
  | ok fl =>
   cases fl with
   | next=>exact False.elim h
   | brk=>exact False.elim h
   | cont=>exact False.elim h
   | ret u =>
    obtain ⟨v,H',os,bare,un,hok',r',q⟩:=h;have q':v=.bl true:=q;subst q';obtain rfl:u=Value.bool true:=r';refine ⟨rfl,OldK.of_keep λ b o e=>?_,os,bare⟩
    cases q:H b with
    | none=>exact un.keep b o e q (by intro z;exact absurd (show b∈([]:List Addr) from z) (by simp)) (by simp)
    | some u =>
     rcases hO b with z | ⟨ob,xs,z⟩
     ·rw [q] at z;cases z
     ·have z2:=un.frzs b ob _ z
      obtain ⟨e1,_⟩:=hok b _ z;obtain ⟨e2,_⟩:=hok' b _ z2;rw [e] at e1;cases e1;exact e2
 cases hk:K.lookup a with
 | some o =>
  have e:=KX a o hk;rw [ha] at e;cases e
  refine core (λ _=>none) (λ _=>.inl rfl) (.inr ⟨_,vs.toArray,_,hk,rfl,rfl,rfl,by rw [size_toArray,lenV];exact hl,by simpa using rv⟩) (λ b u z=>by have z':(none:Option HO)=some u:=z;cases z') (λ b z=>absurd rfl z) λ z=>absurd rfl z
 | none =>
  refine core (λ b=>if b=a then some (.frz { cls:=.type "list",data:=.seq vs.toArray } (.lst (ns.map V.int))) else none) (λ b=>?_) (.inl (.inr ⟨{ cls:=.type "list",data:=.seq vs.toArray },if_pos rfl⟩)) (λ b u z=>?_) (λ b z=>?_) λ _=>hk
  ·by_cases hb:b=a
   ·exact .inr ⟨_,_,if_pos hb⟩
   ·exact .inl (if_neg hb)
  ·by_cases hb:b=a
   ·have z':=(if_pos hb).symm.trans z
    cases z'
    subst hb;exact ⟨ha,by rw [length_map];exact hl,vs,_,rv,ha⟩
   ·have z':=(if_neg hb).symm.trans z
    cases z'
  ·by_cases hb:b=a
   ·exact hb
   ·exact absurd (if_neg hb) z
theorem walk_of {l:PySem.W.OpenLaw} {n k:Nat} {q:Program} {loose:List Str} {XP:(Str->Option Value)->Heap->Prop} {YP:World->Heap->Prop} {d:DefRec} {K:Params->PySem.W.Frag} {CX:World->CXT} {sp:World->Sp} {x:Str}
  (hn:l.most=some n) (hn2:n<=sizeLine) (hdf:d.params.defaults=[]) (hr:Room k callerA)
  (hY:∀ (w:World) (h:Heap),YP w h->(K w.params).In h)
  (F:∀ (w:World) (mg:Str->Option Value) (fa:Addr) (h:Heap),(K w.params).In h->h.Ns mainGlobals mg->mg d.name=some (.ref fa) ->
   ∃ fd:FuncData,(∀ (s:Shared) (u:Value),BindsTo s fd ⟨[u],[]⟩ [(x,u)]) /\
    ∀ base:Heap,(K w.params).In base->base.Ns mainGlobals mg->FnOk l.prog w (K w.params) mg base (CX w) k fa fd [x] (sp w))
  (hsp:∀ (w:World) (H:Hp) (a:Addr) (ns:List Int),ns.length<=n->kMN H->SqL (K w.params) H a (ns.map V.int)->sp w [.ref a] H (λ v _=>v=.bl true) λ _ _ _=>False)
  (hCX:∀ (w:World) (H:Hp) (s:Shared) (e:Value) (s':Shared),CX w [] H s (λ _ _ _=>False) e s'->False) :
  PySem.W.WalkO q loose XP YP l.row.toRowW d [] (λ f vs=>PySem.call f vs):=by
 refine Att.attach_call hn hdf λ w s₀ s₁ mg mb fa o pm cd doc a vs ns G Y ho hd hcd hmg hobj hints hlen hg=>?_;have KX:=hY w _ Y;obtain ⟨fd,hb,hF⟩:=F w mg fa _ KX G.T.g hmg;exact kGF KX G.T.g G.T.b G.T.builtins G.T.nolimit hg hobj hints (Nat.le_trans hlen hn2) hr hF hb (λ H hO hS=>hsp w H a ns hlen hO hS) λ H e s'=>hCX w H s₁ e s'
def kR (s:Stmt):Arguments:=match s with
 | .FunctionDef _ a _ _ _ _ _ _ _ _=>a
 | _=>{ posonlyargs:=[],args:=[],vararg:=none,kwonlyargs:=[],kw_defaults:=[],kwarg:=none,defaults:=[] }
def kQ (s:Stmt):List Stmt:=match s with
 | .FunctionDef _ _ b _ _ _ _ _ _ _=>b
 | _=>[]
def kF (s:Stmt):Scope:=match s with
 | .FunctionDef _ _ _ _ _ _ sc _ _ _=>sc
 | _=>{ kind:=.function,names:=[],isGenerator:=false,isCoroutine:=false }
abbrev CX0:CXT:=λ _ _ _ _ _ _=>False
abbrev E0:XK:=λ _ _ _=>False
theorem kNJ {X:Cx}:kAY CX0 X E0:=λ _ _ _ _ _ _ _ h=>h.elim
structure Fun (K:PySem.W.Frag) (x qual:Str) (st:Stmt) (f:Addr) (fd:FuncData):Prop where
 ex:∃ (oc:Value) (od:Option Addr) (kV doc pm:Value) (an:Option Addr) (cdv ct:Value) (osl:Array (Option Value)),
  fd=PySem.W.fnOf x qual (kR st) (kQ st) (kF st) .none kV doc pm an cdv ct/\K.lookup f=some ⟨oc,od,.func fd,osl⟩/\PySem.W.codeIn K cdv qual=true
 kp:PySem.W.keepIn K (.ref f)=true
section
variable {P:Program} {w:World} {K:PySem.W.Frag} {mg:Str->Option Value} {base:Heap}
theorem Fun.ok {x qual:Str} {st:Stmt} {f:Addr} {fd:FuncData} {N ps:List Str} {k:Nat} {sp:Sp} (F:Fun K x qual st f fd) (S:FnScope N ps (kF st)) (len:∀ vs H Q E,sp vs H Q E->vs.length=ps.length)
  (hbody:∀ (cdv:Value) (A:Around) (outer:List Env) (s:Shared) (H:Hp) (vs:List V) (Q:VK) (E:XK),Room k (A.deeper (envOfC qual (kF st) s.heap.objs.size f cdv))->sp vs H Q E ->
   ∃ t,PSs (kDX CX0 P w K mg base N qual (kF st) f cdv A outer s H E).nox (kQ st) t/\t { nx:=λ _ H'=>Q .non H',rt:=Q } (start N vs) H):FnOk P w K mg base CX0 (k+1) f fd ps sp:=by
 obtain ⟨oc,od,kV,doc,pm,an,cdv,ct,osl,rfl,lk,hcd⟩:=F.ex;refine kNW lk hcd S len λ A outer s H vs Q E hr hsp=>?_;obtain ⟨t,h,q⟩:=hbody cdv A outer s H vs Q E hr hsp;exact ⟨t,h.nox,q⟩
theorem Fun.binds {x qual:Str} {st:Stmt} {f:Addr} {fd:FuncData} {ps:List Str} (F:Fun K x qual st f fd)
  (h:∀ (kV doc pm:Value) (an:Option Addr) (cdv ct:Value) (us:List Value),us.length=ps.length->bindArgs (PySem.W.fnOf x qual (kR st) (kQ st) (kF st) .none kV doc pm an cdv ct) ⟨us,[]⟩=pure (ps.zip us)):Binds K fd ps []:=by
 obtain ⟨oc,od,kV,doc,pm,an,cdv,ct,osl,rfl,lk,hcd⟩:=F.ex;exact .all (h kV doc pm an cdv ct)
theorem qA {x qual:Str} {st:Stmt} {f:Addr} {oc:Value} {od an:Option Addr} {osl:Array (Option Value)} {kV doc pm cdv ct:Value} (l:K.lookup f=some ⟨oc,od,.func (PySem.W.fnOf x qual (kR st) (kQ st) (kF st) .none kV doc pm an cdv ct),osl⟩)
  (c:PySem.W.codeIn K cdv qual=true) (k:PySem.W.keepIn K (.ref f)=true):Fun K x qual st f (PySem.W.fnOf x qual (kR st) (kQ st) (kF st) .none kV doc pm an cdv ct):=⟨⟨oc,od,kV,doc,pm,an,cdv,ct,osl,rfl,l,c⟩,k⟩
end
theorem aS {A:Around} {k:Nat} (hr:Room k A):A.units+1<cLine:=Nat.lt_of_le_of_lt (Nat.add_le_add_left (by decide:1<=64) _) hr.units
theorem qG {n:Nat} (h:n<=1000):n<sizeLine:=Nat.lt_of_le_of_lt h (by decide)
section
variable {X:Cx}
theorem pv (i:Nat) {x:Str} {pos:Pos} (hN:X.N[i]?=some x:=by rfl) (hv:Vis X.env.scope x:=by first | exact Or.inl rfl | exact Or.inr (Or.inl rfl) | exact Or.inr (Or.inr rfl)) (hd:(x == ("__debug__" : Str))=false:=by decide)
  (hcd:(x == ("__classdict__" : Str))=false:=by decide):PE X (.Name x pos) (kHJ i):=kKR hN hv hd hcd
end
theorem qV {A B:Prop} (h:B):if false=true then A else B:=by
 rw [if_neg Bool.false_ne_true];exact h
theorem uT {A B:Prop} (h:A):if true=true then A else B:=by
 rw [if_pos rfl];exact h
theorem sB {c A B:Prop} [Decidable c] (h1:c->A) (h2:¬ c->B):if c then A else B:=by
 by_cases h:c
 ·rw [if_pos h]
  exact h1 h
 ·rw [if_neg h]
  exact h2 h
def Same (H H':Hp):Prop:=∀ b o,H b=some o->H' b=some o
theorem Same.refl (H:Hp):Same H H:=λ _ _ h=>h
theorem Same.trans {H H1 H2:Hp} (a:Same H H1) (b:Same H1 H2):Same H H2:=λ c o h=>b c o (a c o h)
theorem Same.free {H H':Hp} (e:Same H H') {l:Addr} (h:H' l=Option.none):H l=Option.none:=by
 cases q:H l with
 | none=>rfl
 | some o =>
  rw [e l o q] at h;cases h
theorem Same.seq {K:PySem.W.Frag} {H H':Hp} {a:Addr} {xs:List V} (e:Same H H') (h:SqL K H a xs):SqL K H' a xs:=by
 rcases h with (h | ⟨o,h⟩) | h
 ·exact .inl (.inl (e _ _ h))
 ·exact .inl (.inr ⟨o,e _ _ h⟩)
 ·exact .inr h
section
variable {κ:Type} [DecidableEq κ]
def xR (kvs:List (κ×V)) (k:κ):Option V:=(kvs.find? λ kv=>decide (kv.1=k)).map (·.2)
def zS (kvs:List (κ×V)) (k:κ) (v:V):List (κ×V) :=
 if (kvs.any λ kv=>decide (kv.1=k))=true then kvs.map (λ kv=>if kv.1=k then (kv.1,v) else kv) else kvs++[(k,v)]
theorem jP {p:κ×V} {r:List (κ×V)} {k:κ} (e:p.1=k):xR (p::r) k=some p.2:=by simp [xR,List.find?_cons,e]
theorem jQ {p:κ×V} {r:List (κ×V)} {k:κ} (e:¬ p.1=k):xR (p::r) k=xR r k:=by simp [xR,List.find?_cons,e]
theorem uM (k:κ):∀ kvs:List (κ×V),(kvs.any λ kv=>decide (kv.1=k))=(xR kvs k).isSome
 | []=>rfl
 | p::r=>by
  rw [any_cons];by_cases e:p.1=k
  ·simp only [jP e,decide_eq_true e,Bool.true_or,Option.isSome_some]
  ·rw [jQ e,decide_eq_false e,Bool.false_or];exact uM k r
theorem rF (k j:κ) (y:V):∀ kvs:List (κ×V),xR (kvs.map λ kv=>if kv.1=k then (kv.1,y) else kv) j=(xR kvs j).map λ x=>if j=k then y else x
 | []=>rfl
 | p::r=>by
  have ih:=rF k j y r;rw [map_cons];by_cases h:p.1=k
  ·rw [if_pos h]
   by_cases e:p.1=j
   ·rw [jP (p:=(p.1,y)) e,jP e,Option.map_some,if_pos (e.symm.trans h)]
   ·rw [jQ (p:=(p.1,y)) e,jQ e,ih]
  ·rw [if_neg h]
   by_cases e:p.1=j
   ·rw [jP (p:=p) e,jP e,Option.map_some,if_neg (λ z=>h (e.trans z))]
   ·rw [jQ (p:=p) e,jQ e,ih]
theorem mU (k j:κ) (y:V):∀ kvs:List (κ×V),xR kvs k=none->xR (kvs++[(k,y)]) j=if j=k then some y else xR kvs j
 | [],_=>by
  by_cases e:k=j
  ·rw [if_pos e.symm];exact jP (p:=(k,y)) e
  ·rw [if_neg (λ z=>e z.symm)];exact jQ (p:=(k,y)) e
 | p::r,hn=>by
  rw [cons_append];have hk:¬ p.1=k:=λ z=>by rw [jP z] at hn;cases hn
  rw [jQ hk] at hn;have ih:=mU k j y r hn;by_cases e:p.1=j
  ·rw [jP e,jP e,if_neg (λ z=>hk (e.trans z))]
  ·rw [jQ e,jQ e,ih]
theorem rE (kvs:List (κ×V)) (k j:κ) (y:V):xR (zS kvs k y) j=if j=k then some y else xR kvs j:=by
 unfold zS;by_cases a:(kvs.any λ kv=>decide (kv.1=k))=true
 ·rw [if_pos a,rF]
  rw [uM] at a;by_cases e:j=k
  ·obtain ⟨x,hx⟩:=Option.isSome_iff_exists.mp a
   rw [if_pos e,e,hx,Option.map_some,if_pos rfl]
  ·rw [if_neg e]
   cases xR kvs j with
   | none=>rfl
   | some x=>rw [Option.map_some,if_neg e]
 ·rw [if_neg a]
  refine mU k j y kvs ?_;rw [uM] at a
  cases q:xR kvs k with
  | none=>rfl
  | some x=>rw [q] at a;exact (a rfl).elim
theorem yU (kvs:List (κ×V)) (k:κ) (v:V):(zS kvs k v).length<=kvs.length+1:=by
 unfold zS
 split
 ·rw [length_map];omega
 ·rw [length_append,length_cons,length_nil];omega
theorem kFN {kvs:List (κ×V)} {k:κ} (v:V) (h:xR kvs k=none):zS kvs k v=kvs++[(k,v)]:=by
 unfold zS;rw [uM,h];exact if_neg (by decide)
theorem RelO.isSome_eq {o:Option V} {u:Option Value} (r:RelO o u):o.isSome=u.isSome:=by
 cases o with
 | none=>cases u with
  | none=>rfl
  | some _=>exact (show False from r).elim
 | some _=>cases u with
  | none=>exact (show False from r).elim
  | some _=>rfl
theorem KV.val {kvs:List (κ×V)} {vs:List (κ×Value)} (r:KV kvs vs) (k:κ):RelO (xR kvs k) (valueAt vs k):=by
 unfold KV at r
 induction r with
 | nil=>exact True.intro
 | @cons p q ps qs h t ih =>
  obtain ⟨h1,h2⟩:=h;by_cases e:p.1=k
  ·have e':q.1=k:=h1.symm.trans e
   have b:valueAt (q::qs) k=some q.2:=by simp [valueAt,List.find?_cons,e']
   rw [jP e,b];exact h2
  ·have e':¬ q.1=k:=λ z=>e (h1.trans z)
   have b:valueAt (q::qs) k=valueAt qs k:=by simp [valueAt,List.find?_cons,e']
   rw [jQ e,b];exact ih
theorem KV.any {kvs:List (κ×V)} {vs:List (κ×Value)} (r:KV kvs vs) (k:κ):(kvs.any λ kv=>decide (kv.1=k))=vs.any λ kv=>decide (kv.1=k):=by
 unfold KV at r
 induction r with
 | nil=>rfl
 | cons h t ih=>rw [any_cons,any_cons,ih,h.1]
theorem KV.repl {kvs:List (κ×V)} {vs:List (κ×Value)} (r:KV kvs vs) (k:κ) {y:V} {u:Value} (ry:RelV y u) :
  KV (kvs.map λ kv=>if kv.1=k then (kv.1,y) else kv) (vs.map λ kv=>if kv.1=k then (kv.1,u) else kv):=by
 unfold KV at r ⊢
 induction r with
 | nil=>exact .nil
 | @cons p q ps qs h t ih =>
  rw [map_cons,map_cons];refine .cons ?_ ih;obtain ⟨h1,h2⟩:=h;by_cases e:p.1=k
  ·rw [if_pos e,if_pos (h1.symm.trans e)];exact ⟨h1,ry⟩
  ·rw [if_neg e,if_neg (λ z=>e (h1.trans z))];exact ⟨h1,h2⟩
theorem KV.put {kvs:List (κ×V)} {vs:List (κ×Value)} (r:KV kvs vs) (k:κ) {y:V} {u:Value} (ry:RelV y u):KV (zS kvs k y) (stored vs k u):=by
 unfold zS stored;rw [r.any k];by_cases e:(vs.any λ kv=>decide (kv.1=k))=true
 ·rw [if_pos e,if_pos e];exact r.repl k ry
 ·rw [if_neg e,if_neg e];exact Paired.snoc r ⟨rfl,ry⟩
theorem KV.length {kvs:List (κ×V)} {vs:List (κ×Value)} (r:KV kvs vs):kvs.length=vs.length:=Paired.length r
end
theorem sA {P:Program} {w:World} {k:Key} {u:Value} (r:RelV (kV k) u):(qT P w).is k u=true:=by
 cases k with
 | inl i=>obtain ⟨t,e⟩:=(show ∃ t,u=Value.int i t from r);subst e;exact rV P w i t
 | inr x=>obtain ⟨t,e⟩:=(show ∃ t,u=Value.str x t from r);subst e;exact rU P w x t
theorem nL {P:Program} {w:World}:∀ {ks:List Key} {us:List Value},Vals (ks.map kV) us->ItemsAre (qT P w) ks us
 | [],_,r=>by rw [map_nil] at r;cases r;exact .nil
 | k::ks,_,r=>by
  rw [map_cons] at r
  cases r with
  | cons h t=>exact .cons (sA h) (nL t)
abbrev KT (H:Hp):List (List Key×V)->List (List Key×Addr×Value)->Prop:=Paired λ p q=>p.1=q.1/\H q.2.1=some (.tup (p.1.map kV))/\RelV p.2 q.2.2
theorem KT.val {H:Hp} {kvs:List (List Key×V)} {xs:List (List Key×Addr×Value)} (r:KT H kvs xs) (k:List Key):RelO (xR kvs k) ((atKey xs k).map (·.2)):=by
 induction r with
 | nil=>exact True.intro
 | @cons p q ps qs h t ih =>
  obtain ⟨h1,_,h2⟩:=h;by_cases e:p.1=k
  ·have e':q.1=k:=h1.symm.trans e
   have b:atKey (q::qs) k=some q.2:=by simp [atKey,List.find?_cons,e']
   rw [jP e,b];exact h2
  ·have e':¬ q.1=k:=λ z=>e (h1.trans z)
   have b:atKey (q::qs) k=atKey qs k:=by simp [atKey,List.find?_cons,e']
   rw [jQ e,b];exact ih
theorem KT.repl {H:Hp} {kvs:List (List Key×V)} {xs:List (List Key×Addr×Value)} (r:KT H kvs xs) (k:List Key) {y:V} {u:Value} (ry:RelV y u) :
  KT H (kvs.map λ kv=>if kv.1=k then (kv.1,y) else kv) (xs.map (putAt k u)):=by
 induction r with
 | nil=>exact .nil
 | @cons p q ps qs h t ih =>
  rw [map_cons,map_cons];refine .cons ?_ ih;obtain ⟨h1,h2,h3⟩:=h;unfold putAt;by_cases e:p.1=k
  ·rw [if_pos e,if_pos (h1.symm.trans e)];exact ⟨h1,h2,ry⟩
  ·rw [if_neg e,if_neg (λ z=>e (h1.trans z))];exact ⟨h1,h2,h3⟩
theorem KT.put {H:Hp} {kvs:List (List Key×V)} {xs:List (List Key×Addr×Value)} (r:KT H kvs xs) (k:List Key) {b:Addr} {y:V} {u:Value} (hb:H b=some (.tup (k.map kV))) (ry:RelV y u) :
  KT H (zS kvs k y) (storedH xs k b u):=by
 have e:(kvs.any λ kv=>decide (kv.1=k))=(atKey xs k).isSome:=by
  rw [uM,(r.val k).isSome_eq,Option.isSome_map]
 unfold zS storedH;rw [e];by_cases q:(atKey xs k).isSome=true
 ·rw [if_pos q,if_pos q];exact r.repl k ry
 ·rw [if_neg q,if_neg q];exact Paired.snoc r ⟨rfl,hb,ry⟩
theorem KT.keeps {H H':Hp} {kvs:List (List Key×V)} {xs:List (List Key×Addr×Value)} (r:KT H kvs xs) (ht:∀ b ys,H b=some (.tup ys)->H' b=some (.tup ys)):KT H' kvs xs :=
 Paired.mapP r λ _ _ z=>⟨z.1,ht _ _ z.2.1,z.2.2⟩
section
variable {P:Program} {w:World} {H:Hp} {h:Heap} {a:Addr}
theorem kJO {u:HO} (ok:HOk P w H h) (e:Rd H a u):ObjOk P w H h a u:=e.ok ok
theorem kGV {kvs:List (Key×V)} (ok:HOk P w H h) (e:Rd H a (.dK kvs)):kvs.length<=sizeLine/\(a == sysModules)=false/\∃ vs,KV kvs vs/\h.DictOf (qT P w) a vs :=
 show ObjOk P w H h a (.dK kvs) from kJO ok e
theorem kJT {kvs:List (Key×V)} (ok:HOk P w H h) (e:H a=some (.dK kvs)):kvs.length<=sizeLine/\(a == sysModules)=false/\∃ vs,KV kvs vs/\h.DictOf (qT P w) a vs:=kGV ok (.inl e)
theorem lM {ks:List Key} (ok:HOk P w H h) (e:H a=some (.tup (ks.map kV))):(tupleKind (qT P w)).is h ks a:=by
 obtain ⟨_,its,r,o,h1,h2,n,h3,_⟩:=(show ObjOk P w H h a (.tup (ks.map kV)) from ok a _ e);exact ⟨o,its.toArray,n,h1,h2,h3,by simpa using nL r⟩
theorem kGT {kvs:List (List Key×V)} (ok:HOk P w H h) (e:Rd H a (.dT kvs)):kvs.length<=sizeLine/\(a == sysModules)=false /\
  ∃ xs,KT H kvs xs/\h.DictOfH (tupleKind (qT P w)) a xs:=by
 obtain ⟨z,y,xs,r,o,es,ep,h1,h2,h3,h4,h5⟩:=(show ObjOk P w H h a (.dT kvs) from kJO ok e);refine ⟨z,y,xs,r,o,es,ep,h1,h2,h3,h4,λ x hx=>?_,h5⟩
 have all:∀ {l:List (List Key×V)} {m:List (List Key×Addr×Value)},KT H l m->∀ x∈m,(tupleKind (qT P w)).is h x.1 x.2.1:=by
  intro l m q
  induction q with
  | nil=>intro x hx;exact nomatch hx
  | @cons p q ps qs hq t ih =>
   intro x hx;rcases mem_cons.mp hx with e | hx
   ·subst e
    exact lM ok (by rw [<-hq.1];exact hq.2.1)
   ·exact ih x hx
 exact all r x hx
theorem kBX {kvs:List (List Key×V)} (ok:HOk P w H h) (e:H a=some (.dT kvs)):kvs.length<=sizeLine/\(a == sysModules)=false /\
  ∃ xs,KT H kvs xs/\h.DictOfH (tupleKind (qT P w)) a xs:=kGT ok (.inl e)
end
def DGet (H:Hp) (a:Addr) (y:V) (r:Option V):Prop :=
 (∃ kvs k,Rd H a (.dK kvs)/\y=kV k/\r=xR kvs k)\/∃ kvs k b,Rd H a (.dT kvs)/\y=.ref b/\H b=some (.tup (k.map kV))/\r=xR kvs k
def DPut (H:Hp) (a:Addr) (y v:V) (H':Hp):Prop :=
 (∃ kvs k,H a=some (.dK kvs)/\y=kV k/\kvs.length<sizeLine/\H'=upd H a (.dK (zS kvs k v))) \/
 ∃ kvs k b,H a=some (.dT kvs)/\y=.ref b/\H b=some (.tup (k.map kV))/\kvs.length<sizeLine/\H'=upd H a (.dT (zS kvs k v))
theorem DGet.k {H:Hp} {a:Addr} {kvs:List (Key×V)} {k:Key} (e:H a=some (.dK kvs)):DGet H a (kV k) (xR kvs k):=.inl ⟨kvs,k,.inl e,rfl,rfl⟩
theorem DGet.t {H:Hp} {a b:Addr} {kvs:List (List Key×V)} {k:List Key} (e:H a=some (.dT kvs)) (eb:H b=some (.tup (k.map kV))):DGet H a (.ref b) (xR kvs k):=.inr ⟨kvs,k,b,.inl e,rfl,eb,rfl⟩
theorem DPut.k {H:Hp} {a:Addr} {kvs:List (Key×V)} {k:Key} {v:V} (e:H a=some (.dK kvs)) (hl:kvs.length<sizeLine):DPut H a (kV k) v (upd H a (.dK (zS kvs k v))):=.inl ⟨kvs,k,e,rfl,hl,rfl⟩
theorem DPut.t {H:Hp} {a b:Addr} {kvs:List (List Key×V)} {k:List Key} {v:V} (e:H a=some (.dT kvs)) (eb:H b=some (.tup (k.map kV))) (hl:kvs.length<sizeLine) :
  DPut H a (.ref b) v (upd H a (.dT (zS kvs k v))):=.inr ⟨kvs,k,b,e,rfl,eb,hl,rfl⟩
section
variable {X:Cx} {pins:List (Addr×Obj)} {σ:St} {H:Hp} {s:Shared} {a:Addr} {y v:V} {u r:Value} {o:Option V} {A:Around} {E:Value->Shared->Prop}
theorem Inv.big (I:Inv X pins σ H s):sysModules<s.heap.objs.size:=by
 have h:mainGlobals<s.heap.objs.size:=(I.mod.glob.keeps I.bk).lt;exact Nat.lt_trans (by decide) h
theorem kPA {Q:Value->Shared->Prop} (hu:A.units+1<cLine) (I:Inv X pins σ H s) (g:DGet H a y o) (ry:RelV y u) (h:∀ s',Inv X pins σ H s'->Q (.bool o.isSome) s') :
  wpAny (model X.prog X.w) A (compareOp .In u (.ref a)) Q E s:=by
 rcases g with ⟨kvs,k,e,ey,l⟩ | ⟨kvs,k,b,e,ey,eb,l⟩
 ·subst ey
  obtain ⟨z,hd,vs,rel,dd⟩:=kGV I.hok e;refine wpAny_in_of (sA ry) hd dd.mapOf ?_;rw [<-(rel.val k).isSome_eq,<-l];exact h _ (I.tok _)
 ·subst ey
  cases (show u=Value.ref b from ry)
  obtain ⟨z,hd,xs,rel,dd⟩:=kGT I.hok e;refine wpAny_in_heap (tupleKind_room_in1 hu) (lM I.hok eb) hd dd ?_;have q:=(rel.val k).isSome_eq;rw [Option.isSome_map] at q;rw [<-q,<-l];exact h _ (I.tok _)
theorem kJB {Q:Value->Shared->Prop} (hu:A.units+1<cLine) (I:Inv X pins σ H s) (g:DGet H a y o) (ry:RelV y u) (h:∀ s',Inv X pins σ H s'->Q (.bool (!o.isSome)) s') :
  wpAny (model X.prog X.w) A (compareOp .NotIn u (.ref a)) Q E s:=by
 rcases g with ⟨kvs,k,e,ey,l⟩ | ⟨kvs,k,b,e,ey,eb,l⟩
 ·subst ey
  obtain ⟨z,hd,vs,rel,dd⟩:=kGV I.hok e;refine wpAny_notIn_of (sA ry) hd dd.mapOf ?_;rw [<-(rel.val k).isSome_eq,<-l];exact h _ (I.tok _)
 ·subst ey
  cases (show u=Value.ref b from ry)
  obtain ⟨z,hd,xs,rel,dd⟩:=kGT I.hok e;refine wpAny_notIn_heap (tupleKind_room_in1 hu) (lM I.hok eb) hd dd ?_;have q:=(rel.val k).isSome_eq;rw [Option.isSome_map] at q;rw [<-q,<-l];exact h _ (I.tok _)
theorem cN {h':Heap} {t':Nat} {ob:HO} (I:Inv X pins σ H s) (mu:Mut (H a)) (hs:Heap.SameBut a s.heap h') (he:∃ q,h'.get? a=some q) (new:ObjOk X.prog X.w (upd H a ob) h' a ob) :
  Inv X pins σ (upd H a ob) { s with heap:=h',toks:=t' } :=
 I.write (x:=a) (e:=a) mu (.inl rfl) (λ b q hb z=>(hs.2 b hb).trans z) he new
theorem kGW {P:Program} {w:World} {H':Hp} {h':Heap} {kvs:List (Key×V)} {vs:List (Key×Value)} (z:kvs.length<=sizeLine) (hd:(a == sysModules)=false) (rel:KV kvs vs) (dd:h'.DictOf (qT P w) a vs) :
  ObjOk P w H' h' a (.dK kvs):=⟨z,hd,vs,rel,dd⟩
theorem kDV {H':Hp} {Q:Unit->Shared->Prop} (hu:A.units+1<cLine) (I:Inv X pins σ H s) (g:DPut H a y v H') (ry:RelV y u) (rv:RelV v r) (h:∀ s',Inv X pins σ H' s'->Q () s') :
  wpAny (model X.prog X.w) A (setItem (.ref a) u r) Q E s:=by
 rcases g with ⟨kvs,k,e,ey,l,eH⟩ | ⟨kvs,k,b,e,ey,eb,l,eH⟩
 ·subst ey eH
  obtain ⟨z,hd,vs,rel,dd⟩:=kJT I.hok e;have hz:vs.length<=sizeLine:=by rw [<-rel.length];exact z
  have hl:(zS kvs k v).length<=sizeLine:=by have:=yU kvs k v;omega
  refine wpAny_setItem_pairs (hsz:=hz) (sA ry) dd λ h' dd' hs=>h _ ?_;have he:∃ q,h'.get? a=some q:=let ⟨q,_,_,hq,_⟩:=dd';⟨q,hq⟩;exact cN I (by rw [e];exact True.intro) hs he (kGW hl hd (rel.put k rv) dd')
 ·subst ey eH
  cases (show u=Value.ref b from ry)
  obtain ⟨z,hd,xs,rel,dd⟩:=kBX I.hok e;have hz:xs.length<=sizeLine:=by rw [<-Paired.length rel];exact z
  have hl:(zS kvs k v).length<=sizeLine:=by have:=yU kvs k v;omega
  refine wpAny_setItem_heap (hsz:=hz) (tupleKind_room_in1 hu) (lM I.hok eb) dd λ h' dd' hs=>h _ ?_;obtain ⟨q,es,ep,hq,h2,h3,h4,_,h5⟩:=dd';refine cN I (by rw [e];exact True.intro) hs ⟨q,hq⟩ ⟨hl,hd,_,(rel.put k eb rv).keeps λ c ys ec=>?_,q,es,ep,hq,h2,h3,h4,h5⟩;rw [kK (yA ec e (λ z=>nomatch z))];exact ec
end
section
variable {X:Cx} {pins:List (Addr×Obj)} {σ:St} {H:Hp} {s:Shared} {a:Addr} {kvs:List (Key×V)} {k:Key} {u:Value} {A:Around} {E:Value->Shared->Prop}
end
def kOL (ty td:TE):TE:=λ σ H Q=>ty σ H λ y H1=>td σ H1 λ x H2=>∃ a o,x=.ref a/\DGet H2 a y o/\Q (.bl o.isSome) H2
def kHL (ty td:TE):TE:=λ σ H Q=>ty σ H λ y H1=>td σ H1 λ x H2=>∃ a o,x=.ref a/\DGet H2 a y o/\Q (.bl (!o.isSome)) H2
def kMV (td ty tv:TE):TS:=λ D σ H=>tv σ H λ v H1=>td σ H1 λ x H2=>ty σ H2 λ y H3=>∃ a H4,x=.ref a/\DPut H3 a y v H4/\D.nx σ H4
section
variable {X:Cx} {o i e value:Expr} {pos pos' tpos:Pos} {td ty tv:TE}
theorem kKW (hu:X.A.units+1<cLine) (hi:PE X i ty) (ho:PE X o td):PC X .In i o (kOL ty td):=by
 intro pins s σ H Q I h;refine thn (hi pins s σ H _ I h) λ iv s1 ⟨y,H1,I1,ry,q1⟩=>thn (ho pins s1 σ H1 _ I1 q1) λ u s2 ⟨x,H2,I2,rx,a,ov,ex,g,q2⟩=>?_;subst ex;obtain rfl:u=Value.ref a:=rx;exact kPA hu I2 g ry λ s3 I3=>⟨.bl ov.isSome,H2,I3,rfl,q2⟩
theorem dD (hu:X.A.units+1<cLine) (hi:PE X i ty) (ho:PE X o td):PC X .NotIn i o (kHL ty td):=by
 intro pins s σ H Q I h;refine thn (hi pins s σ H _ I h) λ iv s1 ⟨y,H1,I1,ry,q1⟩=>thn (ho pins s1 σ H1 _ I1 q1) λ u s2 ⟨x,H2,I2,rx,a,ov,ex,g,q2⟩=>?_;subst ex;obtain rfl:u=Value.ref a:=rx;exact kJB hu I2 g ry λ s3 I3=>⟨.bl (!ov.isSome),H2,I3,rfl,q2⟩
theorem kBK (hu:X.A.units+1<cLine) (ho:PE X o td) (hi:PE X i ty) (hv:PE X value tv) (hs:swapsWith value (some (.Subscript o i pos')) pos.line X.env=pure false) :
  PS X (.Assign [.Subscript o i pos'] value pos) (kMV td ty tv):=by
 intro pins s σ H D I h;refine wpAny_Assign_Subscript (thn (hv pins s σ H _ I h) λ r s1 ⟨v,H1,I1,rv,q1⟩=>thn (ho pins s1 σ H1 _ I1 q1) λ u s2 ⟨x,H2,I2,rx,q2⟩=>thn (hi pins s2 σ H2 _ I2 q2) λ iv s3 ⟨y,H3,I3,ry,a,H4,ex,g,q3⟩=>?_) hs;subst ex;obtain rfl:u=Value.ref a:=rx;exact kDV hu I3 g ry rv λ s4 I4=>⟨σ,H4,I4,q3⟩
end
theorem kGU {P:Program} {w:World} {H:Hp} (h:Heap) (hb:sysModules<h.objs.size):ObjOk P w H (h.push { cls:=.type "dict",data:=.dict #[] }) h.objs.size (.dT []) :=
 ⟨Nat.zero_le _,beq_eq_false_iff_ne.mpr (Ne.symm (Nat.ne_of_lt hb)),[],.nil,_,#[],0,Heap.get?_push_size _ rfl,⟨rfl,rfl,rfl⟩,rfl,rfl,nodup_nil⟩
def kKE:TE:=λ _ H Q=>∀ p,H p=none->Q (.ref p) (upd H p (.dT []))
section
variable {X:Cx} {pos:Pos}
theorem kFT:PE X (.Dict [] [] pos) kKE:=λ pins s σ H Q I h =>
 wpAny_Dict_empty ⟨.ref s.heap.objs.size,_,I.laid (a:=s.heap.objs.size) (o:=.dT []) (t':=s.toks) (λ _ _ q=>Heap.get?_push_of_some _ q) (Nat.le_refl _) (kGU s.heap I.big),rfl,h _ (I.hok.fresh (Nat.le_refl _))⟩
end
section
variable {X:Cx} {pins:List (Addr×Obj)} {σ:St} {H:Hp} {s:Shared} {a:Addr} {y d:V} {u r:Value} {o:Option V} {A:Around} {E:Value->Shared->Prop}
end
section
variable {X:Cx} {o e f:Expr} {apos cpos:Pos} {td ty tx:TE}
end
section
variable {X:Cx} {pins:List (Addr×Obj)} {σ:St} {H:Hp} {s:Shared} {a:Addr} {kvs:List (Key×V)} {A:Around} {E:Value->Shared->Prop}
end
section
variable {X:Cx} {pins:List (Addr×Obj)} {σ:St} {H:Hp} {s:Shared} {a:Addr} {y:V} {u:Value} {A:Around} {E:Value->Shared->Prop}
end
section
variable {κ:Type} [DecidableEq κ]
end
end L2
namespace Own
open PySem PySem.Spec PyProof.Rows L2
def Has (P:Program) (w:World) (K:PySem.W.Frag) (mg:Str->Option Value) (base:Heap) (x:Str) (ps:List Str) (k:Nat) (sp:Sp):Prop :=
 ∃ (f:Addr) (fd:FuncData),FnOk P w K mg base CX0 k f fd ps sp/\Binds K fd ps []/\PySem.W.keepIn K (.ref f)=true/\mg x=some (.ref f)
section
variable {X:Cx} {k:Nat} {ps:List Str} {sp:Sp} {x:Str} {p pos:Pos} {e:Expr} {es:List Expr} {t:TA}
theorem pe_has (h:Has X.prog X.w X.K X.mg X.base x ps k sp) (hr:Room k X.A) (hg:Gl X x)
  (ha:PA X (e::es) t) (hdb:(x == ("__debug__" : Str))=false:=by decide) (he:starEach (e::es) X.env=(false,eval e X.env)::starEach es X.env:=by rfl) (hpl:(backTo pos (starEach es X.env)).any (·.1)=false:=by rfl) :
  PE X (.Call (.Name x p) (e::es) [] pos) (kJL sp [] E0 t):=by
 obtain ⟨f,fd,F,b,kp,m⟩:=h;exact kID F hr hg m kp b .nil kNJ ha hdb he hpl
end
def kOE (i j:Int):Prop:=i.natAbs<2 ^ 9000/\j.natAbs<2 ^ 9000
theorem kCD {i:Int} (h:i.natAbs<2 ^ 9000):Builtin.Int.intBits i<=2 ^ 20 :=
 Nat.le_trans (intBits_le h) (by decide)
section
variable {X:Cx}
theorem op_mulW:OpR X (binaryOp .Mult) (rI kOE λ i j=>.int (i*j)):=opI λ _ _ _ _ _ _ _ hc q=>mul_int q (IntMulOk.of_bits (kCD hc.1) (kCD hc.2))
theorem log2_lt {n:Nat} (h:n<2 ^ 9000):n.log2<9000:=by
 by_cases h0:n=0
 ·subst h0;decide
 ·exact (Nat.log2_lt h0).mpr h
theorem call_isi:xQ X (.builtin "isinstance") (λ xs H Q=>∃ x t T b,xs=[x,.ty T]/\TyOf X.K H x t/\PySem.W.kitOne X.K t (.type T)=some b/\Q (.bl b) H):=by
 intro pins s σ H xs us Q I r h;obtain ⟨x,t,T,b,rfl,ty,e,q⟩:=h;obtain ⟨u,w',rfl,r1,r2⟩:=kBB r;cases r2
 exact kDN I r1 ty e λ tk=>⟨.bl b,H,I.tok _,rfl,q⟩
end
end Own
set_option maxHeartbeats 4000000
namespace L2
open PySem PySem.Spec PyProof.Rows
abbrev TB:=(St->Hp->Prop)->St->Hp->Prop
def PBd (X:Cx) (code:Sem Unit) (b:TB):Prop :=
 ∀ (pins:List (Addr×Obj)) (s:Shared) (σ:St) (H:Hp) (N:St->Hp->Prop),Inv X pins σ H s->b N σ H ->
  wpAny (model X.prog X.w) X.A code (λ _ s'=>∃ σ' H',Inv X pins σ' H' s'/\N σ' H') X.xe s
def PTl (X:Cx) (tail:Sem PySem.Fin) (L:Code) (b:TB):Prop :=
 ∀ (pins:List (Addr×Obj)) (s:Shared) (σ:St) (H:Hp) (N:St->Hp->Prop),Inv X pins σ H s->b N σ H ->
  wpAny (model X.prog X.w) X.A tail (λ fin s'=>fin=.again L/\∃ σ' H',Inv X pins σ' H' s'/\N σ' H') X.xe s
def zC (ifs:List Expr) (env:Env) (body:Sem Unit) (L:Code):Sem PySem.Fin :=
 (forIn ifs true λ c r=>if r=true then do let ok <-isTrue c env (eval c env);pure (ForInStep.yield ok) else pure (ForInStep.yield r)) >>= λ ok=>if ok=true then body >>= λ _=>again L else again L
def uG (J:It) (g:TG) (b:TB) (N0:St->Hp->Prop) (σ:St) (H:Hp):Prop :=
 ∃ W:Nat->Nat->St->Hp->Prop,(∃ m,W 0 m σ H)/\∀ i m σ H,W i m σ H ->
  (J.stop i H/\N0 σ H)\/(J.go i H/\∃ N:St->Hp->Prop,(∀ σ' H',N σ' H'->∃ m',m'<m/\W (i+1) m' σ' H')/\∀ x H',J.yld i H x H'->g x σ H' λ σ2 H2=>b N σ2 H2)
section
variable {X:Cx} {e tg:Expr} {gens:List Comprehension} {sc:Scope} {cpos:Pos} {d:Nat} {it:Addr} {acc:Value} {tail:Sem PySem.Fin} {p:Pos} {g:TG} {b:TB} {J:It} {fp:List Addr} {tn:Nat->Heap->Prop} {N0:St->Hp->Prop} {R:Result->Shared->Prop}
theorem wL (he:(∃ el,e=.ListComp el gens sc cpos)\/∃ k v,e=.DictComp k v gens sc cpos) (hx:X.xe=λ _ _=>False) (hc:X.calm=true)
  (ht:compTurn e d (.ref it) acc X.env=(standAt p >>= λ _=>pyNext (.ref it) >>= λ r=>match r with
   | none=>pure (.done .next)
   | some v=>letOwnedTupleGo tg (.ref it) v >>= λ _=>assign tg X.env v >>= λ _=>tail))
  (T:Turn X.prog X.w X.K tg J fp it tn) (hg:PG X tg g) (hb:PTl X tail (.compLoop e d (.ref it) acc X.env) b) {pins:List (Addr×Obj)} {σ:St} {H:Hp} {s:Shared}
  (I:Inv X pins σ H s) (st:tn 0 s.heap) (f2:∀ b∈fp,vU X pins H b) (hw:uG J g b N0 σ H)
  (hR:∀ σ' H' s',Inv X pins σ' H' s'->N0 σ' H'->R (.ok .next) s') :
  codeAny (model X.prog X.w) X.A (.compLoop e d (.ref it) acc X.env) R s:=by
 obtain ⟨W,⟨m0,w0⟩,turn⟩:=hw;have stat:∀ {H':Hp},(∀ b∈fp,H' b=none)->∀ b∈fp,vU X pins H' b:=λ hn b hb=>⟨hn b hb,(f2 b hb).2⟩;refine codeAny_loop rfl (λ n s'=>∃ i σ' H',Inv X pins σ' H' s'/\tn i s'.heap/\(∀ b∈fp,H' b=none)/\W i n σ' H') ?_ m0 ⟨0,σ,H,I,st,λ b hb=>(f2 b hb).1,w0⟩;rintro n s3 ⟨i,σ3,H3,I3,st3,fr3,w3⟩
 have hden:(model X.prog X.w).den (.compLoop e d (.ref it) acc X.env)=((compTurn e d (.ref it) acc X.env).onRaise (λ x=>do noteFrame x X.env;theTreesLotGoes x))/\X.A.under (.compLoop e d (.ref it) acc X.env)=X.A:=by
  rcases he with ⟨el,rfl⟩ | ⟨k,v,rfl⟩<;>exact ⟨rfl,rfl⟩
 rw [hden.1,hden.2];show wpAny _ _ ((compTurn e d (.ref it) acc X.env).onRaise (λ x=>do noteFrame x X.env;theTreesLotGoes x)) _ _ s3;refine wpAny_noted ?_;rw [ht]
 have no:∀ {α:Type} {t:Sem α} {Q:α->Shared->Prop} {E:Value->Shared->Prop} {s:Shared},wpAny (model X.prog X.w) X.A t Q X.xe s->wpAny (model X.prog X.w) X.A t Q E s :=
  λ h=>wpAny_mono h (λ _ _ q=>q) λ _ _ q=>by rw [hx] at q;exact q.elim
 refine wpAny_bind (wpAny_standAt (wpAny_bind ?_));rcases turn i n σ3 H3 w3 with ⟨stop,qn⟩ | ⟨go,N,hN,step⟩
 ·refine no (thn (T.done X rfl rfl rfl hc i pins s3 σ3 H3 X.xe I3 (stat fr3) st3 stop) λ r s4 ⟨hr,I4⟩=>?_)
  subst hr;exact wpAny_pure (hR _ _ _ I4 qn)
 ·refine no (thn (T.item X rfl rfl rfl hc i pins s3 σ3 H3 X.xe I3 (stat fr3) st3 go) λ r s4 ⟨u,hr,h4⟩=>?_)
  subst hr;refine wpAny_bind (no (thn h4 λ _ s5 ⟨x,H5,I5,r5,y5,st5,fr5⟩=>?_));have I5':=I5.pinned (stat fr5) (T.obj _ _ st5);refine wpAny_bind (no (thn (hg _ s5 σ3 H5 x u _ I5' r5 (step x H5 y5)) λ _ s6 ⟨σ6,H6,I6,q6⟩=>?_));refine no (thn (hb _ s6 σ6 H6 _ I6 q6) λ fin s7 ⟨hf,σ7,H7,I7,n7⟩=>?_);subst hf;obtain ⟨m',hm,w7⟩:=hN σ7 H7 n7;refine ⟨rfl,m',hm,i+1,σ7,H7,I7.unpinned,T.keep _ _ _ st5 λ b hb o e=>(I7.pin (b,o) (mem_append_right _ (mem_append_right _ (uB hb e)))).1,λ b hb=>?_,w7⟩;obtain ⟨o,e,d⟩:=T.obj _ _ st5 b hb;exact (I7.pin (b,o) (mem_append_right _ (mem_append_right _ (uB hb e)))).2.1
end
def bIf (t:TT) (b:TB):TB:=λ N σ H=>t σ H λ c H1=>if c=true then b N σ H1 else N σ H1
theorem jV {X:Cx} {body:Sem Unit} {L:Code} {b:TB} (hb:PBd X body b):PTl X (zC [] X.env body L) L b:=by
 intro pins s σ H N I h;unfold zC;refine wpAny_bind (wpAny_tests_nil ?_);show wpAny _ _ (body >>= λ _=>again L) _ _ s;exact wpAny_bind (thn (hb pins s σ H N I h) λ _ s' q=>wpAny_pure ⟨rfl,q⟩)
theorem wR {X:Cx} {c:Expr} {t:TT} {body:Sem Unit} {L:Code} {b:TB} (hc:PT X c t) (hb:PBd X body b):PTl X (zC [c] X.env body L) L (bIf t b):=by
 intro pins s σ H N I h;unfold zC;refine wpAny_bind (wpAny_tests_one (thn (hc pins s σ H _ I h) λ ok s1 ⟨H1,I1,q⟩=>?_))
 cases ok with
 | true=>exact wpAny_bind (thn (hb pins s1 σ H1 N I1 (by simpa using q)) λ _ s' q=>wpAny_pure ⟨rfl,q⟩)
 | false=>exact wpAny_pure ⟨rfl,σ,H1,I1,by simpa using q⟩
def kMI (D:Addr) (te:TE):TB:=λ N σ H=>te σ H λ x H1=>∃ xs,H1 D=some (.lst xs)/\xs.length<sizeLine/\N σ (upd H1 D (.lst (xs++[x])))
theorem xJ {X:Cx} {el:Expr} {te:TE} {D:Addr} (he:PE X el te):PBd X (do let _ <-call (.builtin "list.append") [.ref D,<-eval el X.env]) (kMI D te):=by
 intro pins s σ H N I h;refine wpAny_bind (thn (he pins s σ H _ I h) λ u s1 ⟨x,H1,I1,r,xs,hD,hz,q⟩=>?_);refine wpAny_bind (thn (zK pins s1 σ H1 (.ref D) [x] (.ref D) [u] (λ _ H2=>N σ H2) I1 rfl (.cons r .nil) ⟨D,xs,x,rfl,rfl,hD,hz,q⟩) λ _ s2 ⟨_,H2,I2,_,q2⟩=>?_);exact wpAny_pure ⟨σ,H2,I2,q2⟩
theorem kBC (el tg iter:Expr) (ifs:List Expr) (sc:Scope) (pos:Pos) (it acc:Value) (env:Env) :
  compTurn (.ListComp el [⟨tg,iter,ifs,0⟩] sc pos) 0 it acc env=(standAt iter.pos >>= λ _=>pyNext it >>= λ r=>match r with
   | none=>pure (.done .next)
   | some v=>letOwnedTupleGo tg it v >>= λ _=>assign tg env v >>= λ _=>zC ifs env (do let _ <-call (.builtin "list.append") [acc,<-eval el env]) (.compLoop (.ListComp el [⟨tg,iter,ifs,0⟩] sc pos) 0 it acc env)):=by rfl
def kEP (ifs:List Expr) (env:Env) (iter2:Expr) (next:Value->Code) (L:Code):Sem PySem.Fin :=
 (forIn ifs true λ c r=>if r=true then do let ok <-isTrue c env (eval c env);pure (ForInStep.yield ok) else pure (ForInStep.yield r)) >>= λ ok=>if ok=true then
  (eval iter2 env >>= λ x=>standAt iter2.pos >>= λ _=>foldedSetIterable iter2 env x >>= λ x=>holding [x] (pyIter x) >>= λ i=>runOwn (next i) env >>= λ _=>again L) else again L
theorem kEK (el tg iter tg2 iter2:Expr) (ifs ifs2:List Expr) (sc:Scope) (pos:Pos) (it acc:Value) (env:Env) :
  compTurn (.ListComp el [⟨tg,iter,ifs,0⟩,⟨tg2,iter2,ifs2,0⟩] sc pos) 0 it acc env=(standAt iter.pos >>= λ _=>pyNext it >>= λ r=>match r with
   | none=>pure (.done .next)
   | some v=>letOwnedTupleGo tg it v >>= λ _=>assign tg env v >>= λ _=>kEP ifs env iter2 (λ i=>.compStart (.ListComp el [⟨tg,iter,ifs,0⟩,⟨tg2,iter2,ifs2,0⟩] sc pos) 1 i acc env) (.compLoop (.ListComp el [⟨tg,iter,ifs,0⟩,⟨tg2,iter2,ifs2,0⟩] sc pos) 0 it acc env)):=by rfl
theorem kEJ (el tg iter tg2 iter2:Expr) (ifs ifs2:List Expr) (sc:Scope) (pos:Pos) (it acc:Value) (env:Env) :
  compTurn (.ListComp el [⟨tg,iter,ifs,0⟩,⟨tg2,iter2,ifs2,0⟩] sc pos) 1 it acc env=(standAt iter2.pos >>= λ _=>pyNext it >>= λ r=>match r with
   | none=>pure (.done .next)
   | some v=>letOwnedTupleGo tg2 it v >>= λ _=>assign tg2 env v >>= λ _=>zC ifs2 env (do let _ <-call (.builtin "list.append") [acc,<-eval el env]) (.compLoop (.ListComp el [⟨tg,iter,ifs,0⟩,⟨tg2,iter2,ifs2,0⟩] sc pos) 1 it acc env)):=by rfl
def uE (env:Env) (cs:List (Str×Addr)) (y:Str×NameKind):List (Str×Addr) :=
 if (y.2 == .free)=true then (match env.cells.lookup y.1 with | some c=>(y.1,c)::cs | none=>cs) else cs
def cO (sc:Scope) (env:Env):List (Str×Addr):=sc.names.foldl (uE env) []
def pR (env:Env) (x:Str×NameKind) (r:List (Str×Addr)):Sem (ForInStep (List (Str×Addr))) :=
 match x with | (name,kind)=>if (kind == .free)=true then (do let a <-cellOf env name;pure (ForInStep.yield ((name,a)::r))) else pure (ForInStep.yield r)
theorem kDY {env:Env} {y:Str×NameKind} {cs:List (Str×Addr)} (h:y.2=.free->∃ c,env.cells.lookup y.1=some c):pR env y cs=pure (ForInStep.yield (uE env cs y)):=by
 obtain ⟨n,k⟩:=y;unfold pR uE
 cases hk:k == NameKind.free with
 | false=>simp [hk]
 | true =>
  obtain ⟨c,hc⟩:=h (by simpa using hk);have hc':List.lookup n env.cells=some c:=hc;simp only [hk,if_true,cellOf,hc',pure_bind]
theorem mE {env:Env}:∀ (l:List (Str×NameKind)) (cs:List (Str×Addr)),(∀ y∈l,y.2=.free->∃ c,env.cells.lookup y.1=some c) ->
  (forIn l cs (pR env):Sem (List (Str×Addr)))=pure (l.foldl (uE env) cs)
 | [],cs,_=>rfl
 | y::r,cs,h=>by
  rw [List.forIn_cons,kDY (h y mem_cons_self),pure_bind,foldl_cons];exact mE r _ λ y hy=>h y (mem_cons_of_mem _ hy)
theorem wY {sc:Scope} {env:Env} (h:∀ y∈sc.names,y.2=.free->∃ c,env.cells.lookup y.1=some c):closureFor sc env=pure (cO sc env):=by
 have q:=mE (env:=env) sc.names [] h;have z:closureFor sc env=(forIn sc.names [] (pR env) >>= λ r=>pure r):=rfl;rw [z,q]
 rfl
theorem fD {env:Env} {x:Str} {c:Addr}:∀ (l:List (Str×NameKind)) (cs:List (Str×Addr)),(cs.lookup x=some c->env.cells.lookup x=some c)->(l.foldl (uE env) cs).lookup x=some c->env.cells.lookup x=some c
 | [],cs,h,e=>h e
 | (n,k)::r,cs,h,e=>by
  rw [foldl_cons] at e;refine fD r _ (λ z=>?_) e;unfold uE at z
  split at z
  ·split at z
   ·rename_i c' hc
    rw [List.lookup_cons] at z
    split at z
    ·rename_i hx
     have:x=n:=by simpa using hx
     subst this;cases z
     exact hc
    ·exact h z
   ·exact h z
  ·exact h z
theorem kAV {env:Env} {x:Str}:∀ (l:List (Str×NameKind)) (cs:List (Str×Addr)),(∃ c,env.cells.lookup x=some c)->((∃ c,cs.lookup x=some c)\/(x,NameKind.free)∈l)->∃ c,(l.foldl (uE env) cs).lookup x=some c
 | [],cs,_,h=>h.elim id (λ z=>nomatch z)
 | (n,k)::r,cs,he,h=>by
  rw [foldl_cons];refine kAV r _ he ?_;rcases h with ⟨c,h⟩ | h
  ·left
   unfold uE
   split
   ·split
    ·rename_i c' hc
     rw [List.lookup_cons]
     split
     ·exact ⟨_,rfl⟩
     ·exact ⟨c,h⟩
    ·exact ⟨c,h⟩
   ·exact ⟨c,h⟩
  ·rcases mem_cons.mp h with z | z
   ·cases z
    obtain ⟨c,hc⟩:=he
    left
    refine ⟨c,?_⟩;unfold uE;simp [hc]
   ·exact .inr z
structure CS (sc S0:Scope):Prop where
 kind:sc.kind=.function
 names:∀ y∈sc.names,y.2=.local->sc.names.lookup y.1=some .local
 nocell:∀ y∈sc.names,y.2≠.cell
 free:∀ y∈sc.names,y.2=.free->S0.names.lookup y.1=some .cell
def wQ (env:Env) (y:Str×NameKind):Str×NameKind:=if (y.2 == .free && env.scope.kind == .function && env.kindOf y.1 == some .cell)=true then (y.1,.cell) else (y.1,y.2)
theorem tT (env:Env) (y:Str×NameKind):(wQ env y).1=y.1:=by
 unfold wQ
 split<;>rfl
theorem gR {env:Env} {x:Str}:∀ (l:List (Str×NameKind)),(l.map (wQ env)).lookup x=(l.lookup x).map λ k=>(wQ env (x,k)).2
 | []=>rfl
 | (n,k)::r=>by
  rw [map_cons];have e:wQ env (n,k)=(n,(wQ env (n,k)).2):=Prod.ext (tT env (n,k)) rfl;rw [e,List.lookup_cons,List.lookup_cons]
  cases hx:x == n with
  | true =>
   have:x=n:=by simpa using hx
   subst this
   rfl
  | false=>exact gR r
def cxC (X:Cx) (Nc:List Str) (sc:Scope) (C:Addr) (s₂:Shared) (H₂:Hp) (fp:List Addr) (pins:List (Addr×Obj)):Cx :=
 { X with N:=Nc,s₀:=s₂,H₀:=H₂,env:=compEnvC sc (cO sc X.env) C X.env,outer:=X.stack,ex:=fp,fn:=λ _=>false,pn:=X.pn++pins }
def dY (js:List (Option Nat)) (σ:St):St:=js.map λ o=>o.bind λ j=>(σ[j]?).join
def fE (js:List (Option Nat)) (Nc N:List Str) (names:List (Str×NameKind)):Bool :=
 decide (js.length=Nc.length) && (js.zip Nc).all λ (o,x)=>match o with | none=>true | some j=>decide (N[j]?=some x) && decide (names.lookup x=some .free)
theorem kMF {js:List (Option Nat)} {Nc N:List Str} {names:List (Str×NameKind)} (h:fE js Nc N names=true):js.length=Nc.length/\∀ (i j:Nat) (x:Str),js[i]?=some (some j)->Nc[i]?=some x->N[j]?=some x/\names.lookup x=some .free:=by
 unfold fE at h;rw [Bool.and_eq_true] at h;refine ⟨of_decide_eq_true h.1,λ i j x e1 e2=>?_⟩
 have z:(js.zip Nc)[i]?=some (some j,x):=by
  rw [List.getElem?_zip_eq_some];exact ⟨e1,e2⟩
 have q:=all_eq_true.mp h.2 _ (mem_of_getElem? z);dsimp only at q;rw [Bool.and_eq_true] at q;exact ⟨of_decide_eq_true q.1,of_decide_eq_true q.2⟩
section
variable {X:Cx} {pins:List (Addr×Obj)} {σ:St} {H:Hp} {s:Shared} {sc:Scope} {Nc:List Str} {js:List (Option Nat)} {fp:List Addr}
theorem kIJ (I:Inv X pins σ H s) (S:CS sc X.env.scope) (f:∀ b∈fp,vU X pins H b) (hlt:∀ b∈fp,b<s.heap.objs.size) {C:Addr} (hC:s.heap.objs.size<=C):(cxC X Nc sc C s H fp pins).Ok:=by
 have inX:∀ x c,(cO sc X.env).lookup x=some c->X.env.cells.lookup x=some c:=λ x c e=>fD sc.names [] (λ z=>nomatch z) e;refine ⟨I.ok.mod,S.kind,I.ok.glob,I.ok.blt,hC,λ x y c e1 e2=>I.ok.inj x y c (inX x c e1) (inX y c e2),λ x hx=>?_,λ x c z=>(nomatch z),I.ok.hd,I.ok.frames,.inl rfl,λ b hb=>⟨?_,λ x c e=>(f b hb).2.2.2.2.1 x c (inX x c e)⟩,I.bs,Nat.le_trans I.ok.bsz I.sz,λ b o e hb=>?_,λ b hb hs=>?_,I.stack,I.stkFree⟩
 ·have hx':(sc.names.map (wQ X.env)).lookup x=some .cell\/(sc.names.map (wQ X.env)).lookup x=some .free:=hx
  rw [gR] at hx'
  cases e:sc.names.lookup x with
  | none=>rw [e] at hx';rcases hx' with z | z<;>cases z
  | some k =>
   rw [e] at hx';have m:(x,k)∈sc.names:=PySem.mem_of_lookup e
   have kf:k=.free:=by
    have nk:=S.nocell _ m;unfold wQ at hx';by_cases hk:(k == NameKind.free)=true
    ·simpa using hk
    ·have hk':(k == NameKind.free)=false:=by simpa using hk
     simp only [hk',Bool.false_and,Option.map_some] at hx';rcases hx' with z | z
     ·exact absurd (by simpa using z) nk
     ·simpa using z
   subst kf;have hx2:=S.free _ m rfl;obtain ⟨c,hc⟩:=I.ok.has x (.inl hx2);exact kAV sc.names [] ⟨c,hc⟩ (.inr m)
 ·exact Nat.ne_of_lt (Nat.lt_of_lt_of_le (hlt b hb) hC)
 ·obtain ⟨h0,h1,h2,h3,h4,h5⟩:=f b hb
  rcases h3 with z | z
  ·exact I.ok.noex b o e z
  ·exact absurd (Nat.lt_of_lt_of_le (Heap.lt_size (I.ok.bs b o e).1) z) (Nat.lt_irrefl _)
 ·obtain ⟨h0,h1,h2,h3,h4,h5⟩:=f b hb
  rcases mem_cons.mp (I.stkSub b hs) with z | z
  ·exact h1 z
  ·exact h2 z
theorem uU (I:Inv X pins σ H s) (S:CS sc X.env.scope) (f:∀ b∈fp,vU X pins H b) (hlt:∀ b∈fp,b<s.heap.objs.size) (cap:fE js Nc X.N sc.names=true) {C D:Addr} {o:HO} {h₁:Heap} {m:Str->Option Value} {tk:Nat}
  (hC:s.heap.objs.size<=C) (hD:s.heap.objs.size<=D) (hDC:D≠C) (hk:∀ b ob,s.heap.get? b=some ob->h₁.get? b=some ob) (hns:h₁.Ns C m) (new:ObjOk X.prog X.w (upd H D o) h₁ D o) :
  Inv (cxC X Nc sc C s H fp pins) [] (dY js σ) (upd H D o) { s with heap:=h₁,toks:=tk }:=by
 have inX:∀ x c,(cO sc X.env).lookup x=some c->X.env.cells.lookup x=some c:=λ x c e=>fD sc.names [] (λ z=>nomatch z) e;have fresh:∀ a,s.heap.objs.size<=a->H a=none:=λ a ha=>I.hok.fresh ha;obtain ⟨cl,cp⟩:=kMF cap;refine ⟨kIJ I S f hlt hC,rfl,I.bare,Un.laid hk hD (fresh D hD),⟨m,hns,λ i x v e1 e2 e3=>?_⟩,λ x c e=>?_,?_,λ x c e=>?_,λ p hp=>?_,I.hok.laid hk hD new,?_⟩
 ·-- a name of the frame's
  unfold dY at e2;rw [List.getElem?_map] at e2
  cases ej:js[i]? with
  | none=>rw [ej] at e2;cases e2
  | some oj =>
   rw [ej] at e2
   cases oj with
   | none=>cases e2
   | some j =>
    obtain ⟨hN,hfree⟩:=cp i j x ej e1
    have hv:σ[j]?=some (some v):=by
     simp only [Option.map_some,Option.bind_some,Option.some.injEq] at e2
     cases e:σ[j]? with
     | none=>rw [e] at e2;cases e2
     | some w=>rw [e] at e2;exact congrArg some e2
    have kc:X.env.kindOf x=some .cell:=S.free _ (PySem.mem_of_lookup hfree) rfl;obtain ⟨m',hn',hl⟩:=I.loc;obtain ⟨u,r,lk⟩:=hl j x v hN hv (.inr (.inl kc));refine ⟨u,r,.inr ⟨.inl ?_,?_⟩⟩
    ·show (sc.names.map (wQ X.env)).lookup x=some .cell
     rw [gR,hfree];unfold wQ;simp [I.ok.kind,kc]
    ·rcases lk with ⟨z,_⟩ | ⟨_,c,hc,ic⟩
     ·rw [kc] at z;cases z
     ·obtain ⟨c',hc'⟩:=kAV sc.names [] ⟨c,hc⟩ (.inr (PySem.mem_of_lookup hfree))
      have:c'=c:=Option.some.inj ((inX x c' hc').symm.trans hc);subst this;exact ⟨c',hc',ic.keeps hk⟩
 ·obtain ⟨v,ic⟩:=I.cell x c (inX x c e)
  exact ⟨v,ic.keeps hk⟩
 ·show upd H D o C=none
  rw [kK hDC.symm];exact fresh C hC
 ·have q:=inX x c e
  obtain ⟨v,ic⟩:=I.cell x c q;show upd H D o c=none;rw [kK (Nat.ne_of_lt (Nat.lt_of_lt_of_le ic.lt hD))];exact I.freeC x c q
 ·have hp':p∈X.pn++pins:=by
   rcases mem_append.mp hp with z | z
   ·exact z
   ·exact absurd z (by simp)
  obtain ⟨a1,a2,a3,a4,a5⟩:=I.pin p hp';have lt:=Heap.lt_size a1;refine ⟨hk _ _ a1,?_,Nat.ne_of_lt (Nat.lt_of_lt_of_le lt hC),λ z=>?_,a5⟩
  ·rw [kK (Nat.ne_of_lt (Nat.lt_of_lt_of_le lt hD))]
   exact a2
  ·rcases mem_cons.mp (I.stkSub _ z) with z | z
   ·exact a3 z
   ·exact a4 z
 ·unfold dY
  rw [length_map];exact cl
theorem uV {C:Addr} {σ':St} {H':Hp} {s':Shared} {h':Heap} (I:Inv X pins σ H s) (f:∀ b∈fp,vU X pins H b) (hC:s.heap.objs.size<=C) (J:Inv (cxC X Nc sc C s H fp pins) [] σ' H' s') (hs:Heap.SameBut C s'.heap h') :
  Inv X pins σ H' { s' with heap:=h' }:=by
 have u:=J.base;have nC:H' C=none:=J.free;have stay:∀ b ob,b≠C->s'.heap.get? b=some ob->h'.get? b=some ob:=λ b ob hb e=>hs.extBut b ob hb e;have neC:∀ b ob,s.heap.get? b=some ob->b≠C:=λ b ob e=>Nat.ne_of_lt (Nat.lt_of_lt_of_le (Heap.lt_size e) hC);refine I.call' (ch:=fp) J.os ?_ (λ b v e=>?_) J.bare λ b hb=>⟨(f b hb).2.2.2.1,(f b hb).2.1,(f b hb).2.2.2.2.1,(f b hb).2.2.2.2.2⟩
 ·refine ⟨λ b ob e n h1 h2=>stay b ob (neC b ob e) (u.keep b ob e n h1 h2),λ b ob e n h1 h2=>?_,u.free,λ b ob e h2=>?_,u.tups,u.frzs,u.tbls⟩
  ·obtain ⟨sl,q⟩:=u.slot b ob e n h1 h2
   exact ⟨sl,stay b _ (neC b ob e) q⟩
  ·obtain ⟨o',q⟩:=u.there b ob e h2
   exact ⟨o',stay b _ (neC b ob e) q⟩
 ·have nb:∀ c w,H' c=some w->c≠C:=λ c w e z=>by rw [z,nC] at e;cases e
  refine (J.hok b v e).stay (λ c w hc q=>stay c w ?_ q) (λ _ q=>q) λ _ _ q=>q;rcases hc with z | z
  ·rw [z];exact nb b v e
  ·exact nb c _ z
end
section
variable {X:Cx} {e tg iter el:Expr} {ifs:List Expr} {gens rest:List Comprehension} {sc:Scope} {pos:Pos} {Nc:List Str} {js:List (Option Nat)} {wi:TI}
theorem zM {prog:Program} {w:World} {A:Around} {env:Env} {R:Result->Shared->Prop} {s:Shared} {d:Nat} {it acc:Value} {g:Comprehension} (he:(∃ el,e=.ListComp el gens sc pos)\/∃ k v,e=.DictComp k v gens sc pos)
  (hg:(clausesOf e)[d]?=some g) (ha:g.is_async=0)
  (h0:codeAny (model prog w) A (.compLoop e d it acc env) R s)
  (h:wpAny (model prog w) A (pyIter it) (λ it' s'=>codeAny (model prog w) A (.compLoop e d it' acc env) R s') (λ _ _=>False) s) :
  codeAny (model prog w) A (.compStart e d it acc env) R s:=by
 refine codeAny_of_tree ?_
 have hden:(model prog w).den (.compStart e d it acc env)=((compStart e d it acc env).onRaise (λ x=>do noteFrame x env;standAt theWindowsPlace))/\A.under (.compStart e d it acc env)=A:=by
  rcases he with ⟨el,rfl⟩ | ⟨k,v,rfl⟩<;>exact ⟨rfl,rfl⟩
 have hq:∀ d it acc,(Code.compLoop e d it acc env).quiet=true:=λ _ _ _=>rfl;rw [hden.1,hden.2];refine wpAny_notedAt ?_;unfold compStart;rw [hg];have hz:((some g).elim false λ x=>x.is_async != 0)=false:=by show (g.is_async != 0)=false;rw [ha];rfl
 rw [hz];show wpAny _ _ (ask >>= _) _ _ s;refine wpAny_bind (wpAny_askSetting (wpAny_ite ?_))
 split
 ·first
   | exact wpAny_bind (wpAny_pure (wpAny_pure (And.intro rfl h0)))
   | exact wpAny_pure (And.intro rfl h0)
 ·refine wpAny_bind (wpAny_rule ?_)
  show wpAny _ _ (standAt g.iter.pos >>= _) _ _ s;exact wpAny_bind (wpAny_standAt (wpAny_bind (wpAny_mono h (λ it' s' h'=>wpAny_pure (And.intro rfl h')) λ _ _ x=>x.elim)))
def tLC (js:List (Option Nat)) (wi:TI) (g:TG) (bd:Addr->TB):TE:=λ σ H Q=>wi σ H λ J H1=>∀ D,H1 D=none->uG J g (bd D) (λ _ H'=>Q (.ref D) H') (dY js σ) (upd H1 D (.lst []))
theorem zZ {g:TG} {bd:Addr->TB} (hx:X.xe=λ _ _=>False) (hc:X.calm=true) (hi:PI X tg iter wi) (S:CS sc X.env.scope) (cap:fE js Nc X.N sc.names=true)
  (hg:∀ C s₂ H₂ fp pins,PG (cxC X Nc sc C s₂ H₂ fp pins) tg g)
  (hb:∀ C s₂ H₂ fp pins D L,PTl (cxC X Nc sc C s₂ H₂ fp pins) (zC ifs (cxC X Nc sc C s₂ H₂ fp pins).env (do let _ <-call (.builtin "list.append") [.ref D,<-eval el (cxC X Nc sc C s₂ H₂ fp pins).env]) L) L (bd D))
  (hs:∀ x,foldedSetIterable iter X.env x=pure x:=by intro _;rfl) :
  PE X (.ListComp el [⟨tg,iter,ifs,0⟩] sc pos) (tLC js wi g bd):=by
 intro pins s σ H Q I h;rw [eval_ListComp];have hcl:closureFor sc X.env=pure (cO sc X.env):=wY λ y hy hf=>I.ok.has y.1 (.inl (S.free y hy hf));refine wpAny_comprehension_free (use:=none) rfl hs hcl S.kind S.names (thn (hi pins s σ H _ I h) λ v s1 h1=>thn h1 λ itv s2 h2=>?_);obtain ⟨it,fp,tn,J,H2,e,I2,T,st2,f2,hw⟩:=h2;subst e;have hlt:∀ b∈fp,b<s2.heap.objs.size:=λ b hb=>let ⟨o,ho,_⟩:=T.obj _ _ st2 b hb;Heap.lt_size ho;refine wpAny_newObj_type (wpAny_newFunctionEnv S.nocell (by intro y hy;simp at hy) (λ h₁ hns₁ hsb₁=>?_) S.kind);dsimp only at hns₁ hsb₁ ⊢;generalize hH2:s2.heap.push { cls:=.type "list",dict:=none,data:=.seq ([]:List Value).toArray }=G at hns₁ hsb₁ ⊢;have hCs:G.objs.size=s2.heap.objs.size+1:=by rw [<-hH2,Heap.size_push]
 have hDC:s2.heap.objs.size≠G.objs.size:=by omega
 have hCle:s2.heap.objs.size<=G.objs.size:=by omega
 have old:∀ b o,s2.heap.get? b=some o->h₁.get? b=some o:=λ b o e=>hsb₁.extBut b o (Nat.ne_of_lt (Nat.lt_of_lt_of_le (Heap.lt_size e) hCle)) (Heap.get?_push_of_some _ (hH2 ▸ Heap.get?_push_of_some _ e));have hacc:h₁.get? s2.heap.objs.size=some { cls:=.type "list",dict:=none,data:=.seq ([]:List Value).toArray }:=hsb₁.extBut _ _ hDC (Heap.get?_push_of_some _ (hH2 ▸ Heap.get?_push_size _ rfl));have new:ObjOk X.prog X.w (upd H2 s2.heap.objs.size (.lst [])) h₁ s2.heap.objs.size (.lst []):=⟨Nat.zero_le _,[],_,.nil,hacc⟩;have I4:=uU (js:=js) (Nc:=Nc) (tk:=s2.toks+([]:List (Str×Value)).length) I2 S f2 hlt cap hCle (Nat.le_refl _) hDC old hns₁ new;have hn:H2 s2.heap.objs.size=none:=I2.fresh
 have f4:∀ b∈fp,vU (cxC X Nc sc G.objs.size s2 H2 fp pins) [] (upd H2 s2.heap.objs.size (.lst [])) b:=λ b hb=>by
  obtain ⟨h0,h1,h2,h3,h4,h5⟩:=f2 b hb;refine ⟨?_,Nat.ne_of_lt (Nat.lt_of_lt_of_le (hlt b hb) hCle),λ z=>?_,.inl hb,λ x c z=>?_,λ p hp=>?_⟩
  ·rw [kK (Nat.ne_of_lt (hlt b hb))];exact h0
  ·rcases mem_cons.mp (I2.stkSub b z) with q | q
   ·exact h1 q
   ·exact h2 q
  ·exact h4 x c (fD sc.names [] (λ z=>nomatch z) z)
  ·rcases mem_append.mp hp with z | z
   ·exact h5 p z
   ·exact absurd z (by simp)
 have st4:tn 0 h₁:=T.keep _ _ _ st2 λ b hb o e=>old b o e
 have loop:codeAny (model X.prog X.w) X.A (.compLoop (.ListComp el [⟨tg,iter,ifs,0⟩] sc pos) 0 (.ref it) (.ref s2.heap.objs.size) (compEnvC sc (cO sc X.env) G.objs.size X.env))
   (compPost (model X.prog X.w) X.A X.xe none (EP X pins σ Q) (.ref s2.heap.objs.size) G.objs.size) { s2 with heap:=h₁,toks:=s2.toks+([]:List (Str×Value)).length }:=by
  refine wL (X:=cxC X Nc sc G.objs.size s2 H2 fp pins) (.inl ⟨el,rfl⟩) hx hc (kBC _ _ _ _ _ _ _ _ _) T (hg _ _ _ _ _) (hb _ _ _ _ _ _ _) I4 st4 f4 (hw _ hn) λ σ' H' s' I' q=>?_;obtain ⟨m',hm',_⟩:=I'.loc;exact ⟨m',hm',λ h' hs'=>⟨.ref s2.heap.objs.size,H',uV I2 f2 hCle I' hs',rfl,q⟩⟩
 exact zM (.inl ⟨el,rfl⟩) rfl rfl loop (T.self _ _ _ _ _ st4 loop)
end
section
variable {X:Cx}
def kHW:V->List V->Hp->VK->Prop:=λ x vs H Q=>∃ l xs i y,x=.ref l/\vs=[.int i,y]/\H l=some (.lst xs)/\0<=i/\i<2 ^ 62/\xs.length<sizeLine/\Q .non (upd H l (.lst (xs.take i.toNat++y::xs.drop i.toNat)))
theorem nI:MtM X "list.insert" kHW:=by
 intro pins s σ H x vs v us Q I rx rv h;obtain ⟨l,xs,i,y,rfl,rfl,hH,h1,h2,hz,q⟩:=h;cases rx
 obtain ⟨u,w,rfl,⟨t,rfl⟩,rw'⟩:=rv.two;obtain ⟨z,its,n,r,hl,e⟩:=I.lstM hH
 refine call_meets F.slot_list_insert ⟨_,e,rfl⟩ F.entry_list_insert (F.args_list_insert_3 _ _ _)
  (AutoSeq1.list_insert_list_int_val_1 l its.toArray n i t w (by rw [fitsIndex_both (by omega) (by omega)];decide) (by rw [size_toArray];omega)) ⟨e,?_⟩
 refine ⟨.non,_,I.lset (its':=its.take i.toNat++w::its.drop i.toNat) hH e ?_ ((r.take i.toNat).append (.cons rw' (r.drop i.toNat))) ?_,rfl,q⟩
 ·have hi:¬ i<0:=by omega
  simp only [hi,if_false,size_toArray];apply Array.toList_inj.mp;simp;by_cases hc:i.toNat<=its.length
  ·rw [Nat.min_eq_left hc,take_of_length_le (l:=List.drop i.toNat its) (by rw [length_drop];omega)]
  ·have hc':its.length<=i.toNat:=by omega
   rw [Nat.min_eq_right hc',take_of_length_le (Nat.le_refl _),take_of_length_le hc',drop_eq_nil_of_le (Nat.le_refl _),drop_eq_nil_of_le hc',List.take_nil]
 ·simp only [length_append,length_take,length_cons,length_drop]
  omega
def cT (ns:List Int) (n:Int) (j:Nat):Prop:=ns[j]?=some n/\∀ m:Nat,m<j->ns[m]?≠some n
theorem vD {ns:List Int} {its:List Value} (r:Vals (ns.map V.int) its) {m:Nat} (hm:m<its.length):∃ k t,ns[m]?=some k/\its[m]=Value.int k t:=by
 have hl:=r.length;rw [length_map] at hl;have hk:m<ns.length:=by omega
 obtain ⟨u,hu,q⟩:=r.get (i:=m) (x:=.int ns[m]) (by rw [List.getElem?_map,List.getElem?_eq_getElem hk];rfl);obtain ⟨t,rfl⟩:=q;refine ⟨ns[m],t,List.getElem?_eq_getElem hk,?_⟩;rw [List.getElem?_eq_getElem hm] at hu;exact Option.some.inj hu
def fA (n:Int) (v:Value):Bool:=match v with | .int k _=>k == n | _=>false
theorem vV {ns:List Int} {its:List Value} (r:Vals (ns.map V.int) its) (n:Int) (t:Tok):∀ y,y∈its.toArray->MeetsSeq.EqGives y (.int n t) (fA n y):=λ y hy=>by
 obtain ⟨m,hm,rfl⟩:=mem_iff_getElem.mp (List.mem_toArray.mp hy);obtain ⟨k,t',_,e⟩:=vD r hm;rw [e];exact MeetsSeq.EqGives.int _ _ _ _
theorem dU {ns:List Int} {its:List Value} (r:Vals (ns.map V.int) its) {n:Int} {j:Nat} (h:cT ns n j):∃ hj:j<its.toArray.size,fA n its.toArray[j]=true/\∀ m (hm:m<its.toArray.size),m<j->fA n its.toArray[m]=false:=by
 have hl:=r.length;rw [length_map] at hl;have hj:j<ns.length:=(List.getElem?_eq_some_iff.mp h.1).1;have hj':j<its.length:=by omega
 refine ⟨by rw [size_toArray];exact hj',?_,λ m hm hlt=>?_⟩
 ·obtain ⟨k,t,e1,e2⟩:=vD r hj'
  rw [h.1] at e1;cases e1
  simp [e2,fA]
 ·rw [size_toArray] at hm
  obtain ⟨k,t,e1,e2⟩:=vD r hm;have:k≠n:=λ z=>h.2 m hlt (by rw [e1,z]);simp [e2,fA,this]
def kKP:V->List V->Hp->VK->Prop:=λ x vs H Q=>∃ (l:Addr) (ns:List Int) (n:Int) (j:Nat),x=.ref l/\vs=[.int n]/\H l=some (.lst (ns.map V.int))/\cT ns n j/\Q (.int j) H
theorem bX:MtM X "list.index" kKP:=by
 intro pins s σ H x vs v us Q I rx rv h;obtain ⟨l,ns,n,j,rfl,rfl,hH,hj,q⟩:=h;cases rx
 obtain ⟨u,rfl,t,rfl⟩:=rv.one;obtain ⟨z,its,m,r,hl,e⟩:=I.lstM hH;obtain ⟨h1,h2,h3⟩:=dU r hj
 have hs:(j:Int)<2 ^ 63-1:=by
  have:=dJ;rw [size_toArray] at h1;omega
 refine call_meets F.slot_list_index ⟨_,e,rfl⟩ F.entry_list_index (F.args_list_index_2 _ _) (MeetsSeq.list_index l its.toArray m (.int n t) (fA n) (vV r n t) j h1 hs h2 h3) ⟨e,?_⟩;exact ⟨.int j,H,I.tok _,⟨_,rfl⟩,q⟩
def kHV:V->List V->Hp->VK->Prop:=λ x vs H Q=>∃ (l:Addr) (ns:List Int) (n:Int) (j:Nat),x=.ref l/\vs=[.int n]/\H l=some (.lst (ns.map V.int))/\cT ns n j/\Q .non (upd H l (.lst ((ns.eraseIdx j).map V.int)))
theorem uC {α β:Type} (f:α->β):∀ (l:List α) (j:Nat),(l.eraseIdx j).map f=(l.map f).eraseIdx j
 | [],j=>by simp
 | x::r,0=>by simp
 | x::r,j+1=>by simp [uC f r j]
theorem yT:MtM X "list.remove" kHV:=by
 intro pins s σ H x vs v us Q I rx rv h;obtain ⟨l,ns,n,j,rfl,rfl,hH,hj,q⟩:=h;cases rx
 obtain ⟨u,rfl,t,rfl⟩:=rv.one;obtain ⟨z,its,m,r,hl,e⟩:=I.lstM hH;obtain ⟨h1,h2,h3⟩:=dU r hj;refine call_meets F.slot_list_remove ⟨_,e,rfl⟩ F.entry_list_remove (F.args_list_remove_2 _ _) (MeetsSeq.list_remove l its.toArray m (.int n t) (fA n) (vV r n t) j h1 h2 h3 (by rw [size_toArray];omega)) ⟨e,?_⟩;refine ⟨.non,_,I.lset (its':=its.eraseIdx j) hH e ?_ (by rw [uC];exact r.eraseIdx j) ?_,rfl,q⟩
 ·show its.toArray.eraseIdxIfInBounds j=(its.eraseIdx j).toArray
  rw [List.eraseIdxIfInBounds_toArray]
 ·rw [length_map]
  have:=dL ns j;rw [length_map] at z;omega
end
theorem gC {lo:Int} {n:Nat} {g:TG} {b:TB} {N0:St->Hp->Prop} {σ:St} {H:Hp} (Pv:Nat->St->Hp->Prop) (h0:Pv 0 σ H)
  (hs:∀ i σ H,i<n->Pv i σ H->g (.int (lo+i)) σ H λ σ2 H2=>b (Pv (i+1)) σ2 H2) (hd:∀ σ H,Pv n σ H->N0 σ H):uG (Itr lo n) g b N0 σ H:=by
 refine ⟨λ i m σ H=>m=n-i/\i<=n/\Pv i σ H,⟨n,by simp,Nat.zero_le _,h0⟩,?_⟩;rintro i m σ H ⟨rfl,hle,p⟩;by_cases hi:i<n
 ·refine .inr ⟨hi,Pv (i+1),λ σ' H' q=>⟨n-(i+1),by omega,rfl,by omega,q⟩,λ x H' hy=>?_⟩
  obtain ⟨rfl,rfl⟩:=hy;exact hs i σ _ hi p
 ·have:i=n:=by omega
  subst this;exact .inl ⟨Nat.le_refl _,hd σ H p⟩
theorem jN {K:PySem.W.Frag} {a:Addr} {xs:List V} {g:TG} {b:TB} {N0:St->Hp->Prop} {σ:St} {H:Hp} (Pv:Nat->St->Hp->Prop) (h0:Pv 0 σ H) (hl:∀ i σ H,i<=xs.length->Pv i σ H->SqL K H a xs)
  (hs:∀ i x σ H,xs[i]?=some x->Pv i σ H->g x σ H λ σ2 H2=>b (Pv (i+1)) σ2 H2) (hd:∀ σ H,Pv xs.length σ H->N0 σ H):uG (Itl K a) g b N0 σ H:=by
 refine ⟨λ i m σ H=>m=xs.length-i/\i<=xs.length/\Pv i σ H,⟨xs.length,by simp,Nat.zero_le _,h0⟩,?_⟩;rintro i m σ H ⟨rfl,hle,p⟩;by_cases hi:i<xs.length
 ·refine .inr ⟨⟨xs,xs[i],hl i σ H hle p,by simp [hi]⟩,Pv (i+1),λ σ' H' q=>⟨xs.length-(i+1),by omega,rfl,by omega,q⟩,λ x H' hy=>?_⟩
  obtain ⟨rfl,hy⟩:=hy;exact hs i x σ _ (hy xs (hl i σ _ hle p)) p
 ·have:i=xs.length:=by omega
  subst this;exact .inl ⟨⟨xs,hl _ σ H hle p,Nat.le_refl _⟩,hd σ H p⟩
theorem wM {K:PySem.W.Frag} {a:Addr} {xs:List V} {g:TG} {b:TB} {N0:St->Hp->Prop} {σ:St} {H:Hp} (Pv:Nat->St->Hp->Prop) (h0:Pv 0 σ H) (hl:∀ i σ H,i<=xs.length->Pv i σ H->SqT K H a xs)
  (hs:∀ i x σ H,xs[i]?=some x->Pv i σ H->g x σ H λ σ2 H2=>b (Pv (i+1)) σ2 H2) (hd:∀ σ H,Pv xs.length σ H->N0 σ H):uG (Itt K a) g b N0 σ H:=by
 refine ⟨λ i m σ H=>m=xs.length-i/\i<=xs.length/\Pv i σ H,⟨xs.length,by simp,Nat.zero_le _,h0⟩,?_⟩;rintro i m σ H ⟨rfl,hle,p⟩;by_cases hi:i<xs.length
 ·refine .inr ⟨⟨xs,xs[i],hl i σ H hle p,by simp [hi]⟩,Pv (i+1),λ σ' H' q=>⟨xs.length-(i+1),by omega,rfl,by omega,q⟩,λ x H' hy=>?_⟩
  obtain ⟨rfl,hy⟩:=hy;exact hs i x σ _ (hy xs (hl i σ _ hle p)) p
 ·have:i=xs.length:=by omega
  subst this;exact .inl ⟨⟨xs,hl _ σ H hle p,Nat.le_refl _⟩,hd σ H p⟩
section
variable {prog:Program} {w:World} {A:Around} {E:Value->Shared->Prop}
end
section
variable {X:Cx} {pos:Pos}
theorem pV:xQ X (.builtin "divmod") (λ xs H Q=>∃ i j:Int,xs=[.int i,.int j]/\(0<j/\j.natAbs<2 ^ 9000)/\∀ p,H p=none->Q (.ref p) (upd H p (.tup [.int (i / j),.int (i % j)]))):=by
 intro pins s σ H xs us Q I r h;obtain ⟨i,j,rfl,⟨h1,h2⟩,q⟩:=h;obtain ⟨u,w',rfl,⟨t,rfl⟩,⟨t',rfl⟩⟩:=kBB r;refine divmod_int (by omega) ?_ (.inl (PyProof.noPylong_of_log2 (Own.log2_lt h2)));rw [Int.fdiv_eq_ediv_of_nonneg i (by omega),Int.fmod_eq_emod_of_nonneg i (by omega)];have hn:H s.heap.objs.size=none:=I.hok.fresh (Nat.le_refl _);refine ⟨.ref s.heap.objs.size,_,?_,rfl,q _ hn⟩;refine I.laid (λ b o e=>Heap.get?_push_of_some _ e) (Nat.le_refl _) ⟨by simp only [length_cons,length_nil];rw [sizeLine_eq];decide,[.int (i / j) s.toks,.int (i % j) (s.toks+1)],.cons ⟨_,rfl⟩ (.cons ⟨_,rfl⟩ .nil),?_⟩;exact ⟨_,Heap.get?_push_size s.heap rfl,rfl,0,rfl,rfl⟩
theorem fV:∀ {ns:List Int} {its:List Value},Vals (ns.map V.int) its->IntsAre its ns
 | [],_,r=>by cases r;exact .nil
 | n::ns,_,r=>by
  cases r with
  | cons r1 r2 =>
   obtain ⟨t,rfl⟩:=r1;exact .cons n t (fV r2)
end
mutual
def Dt (K:PySem.W.Frag) (H:Hp):PyData->V->Prop
 | .none,v=>v=.non
 | .bool b,v=>v=.bl b
 | .int i,v=>v=.int i
 | .str x,v=>v=.str x
 | .tuple xs,v=>∃ a vs,v=.ref a/\SqT K H a vs/\DtAll K H xs vs
 | .list xs,v=>∃ a vs,v=.ref a/\SqL K H a vs/\DtAll K H xs vs
 | .dict _,_=>False
def DtAll (K:PySem.W.Frag) (H:Hp):List PyData->List V->Prop
 | [],vs=>vs=[]
 | d::ds,vs=>∃ v vr,vs=v::vr/\Dt K H d v/\DtAll K H ds vr
end
section
variable {X:Cx} {pins:List (Addr×Obj)} {σ:St} {H:Hp} {s:Shared}
mutual
theorem Dt.reads (I:Inv X pins σ H s):∀ (d:PyData) (v:V) (u:Value),RelV v u->Dt X.K H d v->∃ as,Reads s.heap u d as
 | .none,v,u,r,h=>by unfold Dt at h;subst h;cases r;exact ⟨_,.none⟩
 | .bool b,v,u,r,h=>by unfold Dt at h;subst h;cases r;exact ⟨_,.bool b⟩
 | .int i,v,u,r,h=>by unfold Dt at h;subst h;obtain ⟨t,rfl⟩:=r;exact ⟨_,.int i t⟩
 | .str x,v,u,r,h=>by unfold Dt at h;subst h;obtain ⟨t,rfl⟩:=r;exact ⟨_,.str x t⟩
 | .tuple xs,v,u,r,h=>by
  unfold Dt at h;obtain ⟨a,vs,rfl,hs,hd⟩:=h;cases r
  obtain ⟨its,rv,⟨o,e1,e2,n,e3⟩,hz⟩:=I.tuple hs;obtain ⟨as,ra⟩:=DtAll.reads I xs vs its rv hd;exact ⟨_,.tuple e1 e2 e3 (by simpa using ra)⟩
 | .list xs,v,u,r,h=>by
  unfold Dt at h;obtain ⟨a,vs,rfl,hs,hd⟩:=h;cases r
  obtain ⟨its,rv,ht,hz⟩:=I.list hs;obtain ⟨as,ra⟩:=DtAll.reads I xs vs its rv hd;obtain ⟨o,e1,e2,n,e3⟩:=ht.isList;exact ⟨_,.list e1 e2 e3 (by simpa using ra)⟩
 | .dict _,v,u,r,h=>by unfold Dt at h;exact h.elim
theorem DtAll.reads (I:Inv X pins σ H s):∀ (ds:List PyData) (vs:List V) (us:List Value),Vals vs us->DtAll X.K H ds vs->∃ as,ReadsAll s.heap us ds as
 | [],vs,us,r,h=>by unfold DtAll at h;subst h;cases r;exact ⟨_,.nil⟩
 | d::ds,vs,us,r,h=>by
  unfold DtAll at h;obtain ⟨v,vr,rfl,h1,h2⟩:=h
  cases r with
  | cons r1 r2 =>
   obtain ⟨as,q1⟩:=Dt.reads I d v _ r1 h1;obtain ⟨bs,q2⟩:=DtAll.reads I ds vr _ r2 h2;exact ⟨_,.cons q1 q2⟩
end
end
section
variable {X:Cx}
def kNG (K:PySem.W.Frag) (neg:Bool):R2:=λ x y H Q=>∃ d e,Dt K H d x/\Dt K H e y/\SeqAt.shaped d=true/\SeqAt.shaped e=true/\Q (.bl (if neg then !PyData.eqv d e else PyData.eqv d e)) H
theorem kLC (hu:X.A.units+64<cLine):OpR X (compareOp .Eq) (kNG X.K false):=by
 intro pins s σ H x y v u Q I rx ry h;obtain ⟨d,e,h1,h2,s1,s2,q⟩:=h;obtain ⟨as,p1⟩:=Dt.reads I d x v rx h1;obtain ⟨bs,p2⟩:=Dt.reads I e y u ry h2;exact SeqAt.compareEq_shaped p1 p2 s1 s2 hu ⟨.bl _,H,I,rfl,q⟩
theorem hG (hu:X.A.units+64<cLine):OpR X (compareOp .NotEq) (kNG X.K true):=by
 intro pins s σ H x y v u Q I rx ry h;obtain ⟨d,e,h1,h2,s1,s2,q⟩:=h;obtain ⟨as,p1⟩:=Dt.reads I d x v rx h1;obtain ⟨bs,p2⟩:=Dt.reads I e y u ry h2;exact SeqAt.compareNe_shaped p1 p2 s1 s2 hu ⟨.bl _,H,I,rfl,q⟩
end
open Classical in
noncomputable def eqD (h:Heap) (d:PyData) (u:Value):Bool:=if z:∃ d',d'.canLay0=true/\∃ as,Reads h u d' as then PyData.eqv z.choose d else false
theorem kGR {h:Heap} {d d':PyData} {u:Value} {as:List Addr} (c:d'.canLay0=true) (r:Reads h u d' as):eqD h d u=PyData.eqv d' d:=by
 have z:∃ d',d'.canLay0=true/\∃ as,Reads h u d' as:=⟨d',c,as,r⟩;unfold eqD;rw [dif_pos z];obtain ⟨c1,as',r1⟩:=z.choose_spec;rw [SeqAt.Reads.unique _ _ _ _ _ c1 r1 r]
theorem kCF {h:Heap} {d:PyData}:∀ {es:List PyData} {us:List Value} {as:List Addr},ReadsAll h us es as->PyData.canLayAll0 es=true->us.any (eqD h d)=es.any λ e=>PyData.eqv e d
 | [],us,as,r,_=>by cases r;rfl
 | e::es,us,as,r,c=>by
  have c':e.canLay0=true/\PyData.canLayAll0 es=true:=by simpa [PyData.canLayAll0] using c
  cases r with
  | cons r1 r2=>rw [any_cons,any_cons,kGR c'.1 r1,kCF r2 c'.2]
theorem nJ {h:Heap}:∀ {es:List PyData} {us:List Value} {as:List Addr},ReadsAll h us es as->∀ u∈us,∃ e∈es,∃ as,Reads h u e as
 | [],us,as,r,u,hu=>by cases r;cases hu
 | e::es,us,as,r,u,hu=>by
  cases r with
  | cons r1 r2 =>
   rcases mem_cons.mp hu with rfl | hu
   ·exact ⟨e,mem_cons_self,_,r1⟩
   ·obtain ⟨e',he,x⟩:=nJ r2 u hu
    exact ⟨e',mem_cons_of_mem _ he,x⟩
theorem kMG {es:List PyData} (h:∀ e∈es,SeqAt.shaped e=true):PyData.canLayAll0 es=true:=by
 induction es with
 | nil=>rfl
 | cons e es ih =>
  simp only [PyData.canLayAll0,Bool.and_eq_true];exact ⟨SeqAt.canLay_of_shaped (h e mem_cons_self),ih λ e' he=>h e' (mem_cons_of_mem _ he)⟩
section
variable {X:Cx}
def kOU (K:PySem.W.Frag) (neg:Bool):R2:=λ x y H Q=>∃ d es p xs,y=.ref p/\(SqL K H p xs\/SqT K H p xs)/\Dt K H d x/\DtAll K H es xs/\SeqAt.shaped d=true/\(∀ e∈es,SeqAt.shaped e=true) /\
 Q (.bl (if neg then !es.any (λ e=>PyData.eqv e d) else es.any λ e=>PyData.eqv e d)) H
theorem kDA (hu:X.A.units+65<cLine):OpR X (compareOp .NotIn) (kOU X.K true):=by
 intro pins s σ H x y v u Q I rx ry h;obtain ⟨d,es,p,xs,rfl,hq,hd,hes,sd,ses,q⟩:=h;cases ry
 obtain ⟨as,rd⟩:=Dt.reads I d x v rx hd
 have key:∀ its:List Value,Vals xs its->(∀ w∈its,SeqAt.EqAt X.A.in1 s w v (eqD s.heap d w))/\its.any (eqD s.heap d)=es.any λ e=>PyData.eqv e d:=λ its r=>by
  obtain ⟨bs,ra⟩:=DtAll.reads I es xs its r hes;refine ⟨λ w hw=>?_,kCF ra (kMG ses)⟩;obtain ⟨e,he,cs,re⟩:=nJ ra w hw;rw [kGR (SeqAt.canLay_of_shaped (ses e he)) re];exact SeqAt.eqAt_reads e d X.A.in1 s w v cs as re rd (SeqAt.canLay_of_shaped (ses e he)) (SeqAt.canLay_of_shaped sd) (SeqAt.room_of_shaped (ses e he) (by show X.A.units+1+64<cLine;omega))
 rcases hq with hq | hq
 ·obtain ⟨its,r,pl,hz⟩:=I.list hq
  obtain ⟨k1,k2⟩:=key its r;refine SeqAt.notIn_listAt (eqD s.heap d) pl.isList (λ w hw=>k1 w (by simpa using hw)) ⟨.bl _,H,I,rfl,?_⟩;rw [show its.toArray.any (eqD s.heap d)=its.any (eqD s.heap d) by simp,k2];exact q
 ·obtain ⟨its,r,pl,hz⟩:=I.tuple hq
  obtain ⟨k1,k2⟩:=key its r;refine SeqAt.notIn_tupleAt (eqD s.heap d) pl (λ w hw=>k1 w (by simpa using hw)) ⟨.bl _,H,I,rfl,?_⟩;rw [show its.toArray.any (eqD s.heap d)=its.any (eqD s.heap d) by simp,k2];exact q
end
def kPB (sc S0:Scope):Bool:=(sc.names.all λ y=>(y.2 != .local || sc.names.lookup y.1 == some .local) && y.2 != .cell && (y.2 != .free || S0.names.lookup y.1 == some .cell))
theorem CS.of {sc S0:Scope} (k:sc.kind=.function) (h:kPB sc S0=true):CS sc S0:=by
 have q:∀ y∈sc.names,_:=all_eq_true.mp h;refine ⟨k,λ y hy e=>?_,λ y hy e=>?_,λ y hy e=>?_⟩<;>have z:=q y hy<;>rw [Bool.and_eq_true,Bool.and_eq_true] at z<;>obtain ⟨⟨z1,z2⟩,z3⟩:=z
 ·rw [e] at z1;simpa using z1
 ·rw [e] at z2;simp at z2
 ·rw [e] at z3;simpa using z3
theorem Room.units65 {k:Nat} {A:Around} (r:Room k A):A.units+65<cLine:=by have:=r.un;omega
section
variable {prog:Program} {w:World} {A:Around} {E:Value->Shared->Prop} {s:Shared}
theorem kAJ {it t:Addr} {i:Nat} {items:Array Value} {x:Value} {Q:Value->Shared->Prop} (hit:s.heap.IsTupleIter it t i) (ht:s.heap.IsTuple t items) (hx:items[i]?=some x)
  (hQ:∀ h',h'.IsTupleIter it t (i+1)->Heap.SameBut it s.heap h'->Q x { s with heap:=h' }):wpAny (model prog w) A (Builtin.SmallTypes.nextOf (.ref it)) Q E s:=by
 obtain ⟨o,ho,hc,hd⟩:=id hit;obtain ⟨ot,hot,_,nt,hdt⟩:=ht;unfold Builtin.SmallTypes.nextOf;refine wpAny_bind (wpAny_callSpecial?_slot (name:=Str.ofString "__next__") hit.typeIs F.slot_tuple_iterator_next (wpAny_call_entry F.slot_tuple_iterator_next hit.typeIs F.entry_tuple_iterator_next ?_ (F.args_tuple_iterator_next_1 _)));show wpAny _ _ (field (.ref it) 0 >>= _) _ _ s;refine wpAny_bind (wpAny_field ho hd (x:=.ref t) rfl ?_);show wpAny _ _ (if (Value.ref t == Value.none)=true then _ else _) _ _ s;rw [if_neg (show ¬ ((Value.ref t == Value.none)=true) from Bool.false_ne_true)];show wpAny _ _ (field (.ref it) 1 >>= _) _ _ s;refine wpAny_bind (wpAny_field ho hd (x:=.int i 0) rfl ?_);show wpAny _ _ (seqItems? (.ref t) >>= _) _ _ s;refine wpAny_bind (wpAny_seqItems hot hdt ?_);simp only [Int.toNat_natCast,hx];refine wpAny_bind (wpAny_setField ho hd (by simp) (wpAny_pure ⟨x,rfl,wpAny_pure (hQ _ ?_ (Heap.SameBut.update ..))⟩));refine ⟨_,Heap.get?_update_self _ ho (Obj.isFreed_of_fields (Obj.data_mapFields hd _)),(Obj.cls_mapFields ..).trans hc,?_⟩;rw [Obj.data_mapFields hd];simp [rawInt]
theorem lE {it t:Addr} {i:Nat} {items:Array Value} {Q:Value->Shared->Prop} (hh:A.handled=none) (hit:s.heap.IsTupleIter it t i) (ht:s.heap.IsTuple t items) (hx:items[i]?=none)
  (hE:∀ h' e,Heap.ExtBut it s.heap h'->(∃ o,h'.get? e=some o/\o.cls=.type "StopIteration")->E (.ref e) { s with heap:=h' }):wpAny (model prog w) A (Builtin.SmallTypes.nextOf (.ref it)) Q E s:=by
 obtain ⟨o,ho,hc,hd⟩:=id hit;obtain ⟨ot,hot,_,nt,hdt⟩:=ht;unfold Builtin.SmallTypes.nextOf;refine wpAny_bind (wpAny_callSpecial?_slot (name:=Str.ofString "__next__") hit.typeIs F.slot_tuple_iterator_next (wpAny_call_entry F.slot_tuple_iterator_next hit.typeIs F.entry_tuple_iterator_next ?_ (F.args_tuple_iterator_next_1 _)));show wpAny _ _ (field (.ref it) 0 >>= _) _ _ s;refine wpAny_bind (wpAny_field ho hd (x:=.ref t) rfl ?_);show wpAny _ _ (if (Value.ref t == Value.none)=true then _ else _) _ _ s;rw [if_neg (show ¬ ((Value.ref t == Value.none)=true) from Bool.false_ne_true)];show wpAny _ _ (field (.ref it) 1 >>= _) _ _ s;refine wpAny_bind (wpAny_field ho hd (x:=.int i 0) rfl ?_);show wpAny _ _ (seqItems? (.ref t) >>= _) _ _ s;refine wpAny_bind (wpAny_seqItems hot hdt ?_);simp only [Int.toNat_natCast,hx];refine wpAny_bind (wpAny_rule (wpAny_bind (wpAny_setField ho hd (by simp) ?_)));show wpAny _ _ (newExc (.type "StopIteration") [] >>= _) _ _ _;refine wpAny_bind ?_;simp only [newExc,newTuple];refine wpAny_bind (wpAny_newObj_type ?_ (by size_fits));refine wpAny_bind (m:=firstArgMember _ _) (wpAny_of_eq (a:=Value.none) (by first | rfl | (simp only [firstArgMember];rfl)) ?_);refine wpAny_newObj_type ?_ (by size_fits);simp only [raiseNew];refine wpAny_bind (wpAny_handled ?_)
 first | rw [show A.in1.handled=none from hh] | rw [hh]
 refine wpAny_bind (wpAny_pure (wpAny_throw ?_));exact hE _ _ (((Heap.SameBut.update ..).extBut.push _).push _) ⟨_,Heap.get?_push_size _ rfl,rfl⟩
end
def ItOf (k:Bool) (h:Heap) (it a:Addr) (i:Nat):Prop:=match k with | true=>h.IsListIter it a i | false=>h.IsTupleIter it a i
def SqOf (k:Bool) (h:Heap) (a:Addr) (items:Array Value):Prop:=match k with | true=>h.IsList a items | false=>h.IsTuple a items
def kLV (k:Bool):String:=match k with | true=>"list_iterator" | false=>"tuple_iterator"
def SqX (K:PySem.W.Frag) (k:Bool) (H:Hp) (a:Addr) (xs:List V):Prop:=match k with | true=>SqL K H a xs | false=>SqT K H a xs
theorem ItOf.at {k:Bool} {h h':Heap} {it a:Addr} {i:Nat} (x:ItOf k h it a i) (g:∀ o,h.get? it=some o->h'.get? it=some o):ItOf k h' it a i:=by
 cases k
 ·obtain ⟨o,e,r⟩:=x;exact ⟨o,g o e,r⟩
 ·obtain ⟨o,e,r⟩:=x;exact ⟨o,g o e,r⟩
theorem ItOf.live {k:Bool} {h:Heap} {it a:Addr} {i:Nat} (x:ItOf k h it a i):∃ o,h.get? it=some o/\∀ v,o.data≠.cell v:=by
 cases k
 ·obtain ⟨o,e,c,d⟩:=x;exact ⟨o,e,λ v z=>by rw [d] at z;cases z⟩
 ·obtain ⟨o,e,c,d⟩:=x;exact ⟨o,e,λ v z=>by rw [d] at z;cases z⟩
theorem SqOf.at {k:Bool} {h h':Heap} {a:Addr} {items:Array Value} (x:SqOf k h a items) (g:∀ o,h.get? a=some o->h'.get? a=some o):SqOf k h' a items:=by
 cases k
 ·obtain ⟨o,e,r⟩:=x;exact ⟨o,g o e,r⟩
 ·obtain ⟨o,e,r⟩:=x;exact ⟨o,g o e,r⟩
theorem Inv.sq {X:Cx} {pins:List (Addr×Obj)} {σ:St} {H:Hp} {s:Shared} {k:Bool} {a:Addr} {xs:List V} (I:Inv X pins σ H s) (h:SqX X.K k H a xs):∃ its:List Value,Vals xs its/\SqOf k s.heap a its.toArray:=by
 cases k
 ·obtain ⟨its,r,p,_⟩:=I.tuple h
  exact ⟨its,r,p⟩
 ·obtain ⟨its,r,p,_⟩:=I.list h
  exact ⟨its,r,p.isList⟩
theorem Inv.sq_inj {X:Cx} {pins:List (Addr×Obj)} {σ:St} {H:Hp} {s:Shared} {k:Bool} {a:Addr} {xs ys:List V} (I:Inv X pins σ H s) (h:SqX X.K k H a xs) (h':SqX X.K k H a ys):xs=ys:=by
 cases k
 ·exact I.tuple_inj h h'
 ·exact I.list_inj h h'
section
variable {prog:Program} {w:World} {A:Around} {E:Value->Shared->Prop} {s:Shared}
theorem sP (hh:A.handled=none) (k:Bool) (it a:Addr) (hne:a≠it) (items:Array Value):Draws prog w A it [it,a] items.size (λ i v=>items[i]?=some v) (λ i h=>ItOf k h it a i/\SqOf k h a items) where
 live:=λ _ _ st=>let ⟨o,ho,_⟩:=st.1.live;⟨o,ho⟩
 frame:=λ _ _ _ st hk=>⟨st.1.at λ o e=>hk it (by simp) o e,st.2.at λ o e=>hk a (by simp) o e⟩
 item:=λ i s Q E hi st hQ=>by
  have hx:items[i]?=some items[i]:=by simp [hi]
  cases k
  ·exact kAJ st.1 st.2 hx λ h' hit' hs'=>hQ _ h' s.toks hx ⟨hit',st.2.at λ o e=>hs'.extBut a o hne e⟩ hs'
  ·exact wpAny_nextOf_list_item st.1 st.2 hx λ h' hit' hs'=>hQ _ h' s.toks hx ⟨hit',st.2.at λ o e=>hs'.extBut a o hne e⟩ hs'
 done:=λ s Q E st hE=>by
  cases k
  ·exact lE hh st.1 st.2 (by simp) hE
  ·exact wpAny_nextOf_list_end hh st.1 st.2 (by simp) hE
end
theorem Inv.turnedL {X:Cx} {pins:List (Addr×Obj)} {σ:St} {H:Hp} {s:Shared} {h':Heap} {t':Nat} {ch:List Addr} (I:Inv X pins σ H s) (k:∀ b o,b∉ch->s.heap.get? b=some o->h'.get? b=some o) (hf:∀ b∈ch,vU X pins H b) :
  Inv X pins σ H { s with heap:=h',toks:=t' }:=by
 have nit:∀ b u,H b=some u->b∉ch:=λ b u e z=>by rw [(hf b z).1] at e;cases e
 refine I.step (g':=s.gens) (d':=s.drawn) (ch:=ch) (λ b hb=>?_) (λ b o _ _ hc e _=>k b o hc e) (λ b o _ _ hc e _=>⟨o.slots,k b o hc e⟩) (λ _ _ _ _ n=>n)
  (λ b o hc e=>⟨o,k b o hc e⟩) (λ _ _ e=>e) (λ _ _ _ e=>e) (λ b ps e=>⟨#[],by rw [e];simp⟩) (λ m hm=>?_) (λ b u e=>?_) I.bare
 ·obtain ⟨f0,f1,f2,f3,f4,f5⟩:=hf b hb
  exact ⟨f3,f1,f4,f5⟩
 ·obtain ⟨o,es,ep,ho,r⟩:=hm
  exact ⟨o,es,ep,k _ o (λ z=>(hf _ z).2.1 rfl) ho,r⟩
 ·refine (I.hok b u e).stay (λ c v hc q=>k c v ?_ q) (λ _ q=>q) λ _ _ q=>q
  rcases hc with z | z
  ·rw [z];exact nit b u e
  ·exact nit c _ z
open AutoSeq1 (wpAny_loadPart')
theorem pQ (l:Addr) (items:Array Value) (n:Nat) (dct:Option Addr) (sl:Array (Option Value)) :
  Meets (Builtin.«enumerate.__new__» ⟨[.type "enumerate",.ref l],[]⟩) (λ _ R s=>s.heap.get? l=some { cls:=.type "tuple",dict:=dct,data:=.seq items n,slots:=sl } /\
   R (.ok (.ret (.ref (s.heap.push { cls:=.type "tuple_iterator",data:=.fields #[.ref l,.int 0 0] }).objs.size)))
    { s with heap:=(s.heap.push { cls:=.type "tuple_iterator",data:=.fields #[.ref l,.int 0 0] }).push { cls:=.type "enumerate",data:=.fields #[.none,.bool false,.ref s.heap.objs.size,rawInt 0,.none,.none] } }) :=
 .of_wp λ prog w A R s h=>by
  obtain ⟨hp,g,d,tk,os⟩:=s;obtain ⟨hl,h⟩:=h;have hsub:=sub_enumerate;have hL:Heap.IsTuple (Shared.heap ⟨hp,g,d,tk,os⟩) l items:=⟨_,hl,rfl,n,rfl⟩
  wp_walk using wpAny_loadPart' hl
  refine wpAny_stack_any λ st=>wpAny_pure ?_
  split
  ·rename_i c _ _ _ _ _
   cases (c == Value.type "enumerate")
   ·wp_walk using wpAny_loadPart' hl,wpAny_pyIter_tuple hL
    exact ⟨_,rfl,h⟩
   ·wp_walk using wpAny_loadPart' hl,wpAny_pyIter_tuple hL
    exact ⟨_,rfl,h⟩
  ·wp_walk using wpAny_loadPart' hl,wpAny_pyIter_tuple hL
   exact ⟨_,rfl,h⟩
section
variable {prog:Program} {w:World} {A:Around} {E:Value->Shared->Prop} {s:Shared}
theorem pU {k:Bool} {l:Addr} {items:Array Value} {Q:Value->Shared->Prop} (hL:SqOf k s.heap l items)
  (h:∀ h',IsEnum h' (s.heap.objs.size+1) s.heap.objs.size 0 .none->ItOf k h' s.heap.objs.size l 0->(∀ b o,s.heap.get? b=some o->h'.get? b=some o)->Q (.ref (s.heap.objs.size+1)) { s with heap:=h' }) :
  wpAny (model prog w) A (call (.type "enumerate") [.ref l]) Q E s:=by
 cases k
 ·obtain ⟨⟨c,dct,dt,sl⟩,hl,hc,n,hd⟩:=hL
  replace hc:c=.type "tuple":=hc
  replace hd:dt=.seq items n:=hd
  subst hc hd;refine callType_new F.called_enumerate (by decide) (F.typeCall_enumerate_1 _) (F.newCall_enumerate_1 _) (λ obj=>F.args_object_init_2 obj _) F.entry_enumerate_new (pQ l items n dct sl) ⟨hl,?_⟩;have hz:(s.heap.push { cls:=.type "tuple_iterator",data:=.fields #[.ref l,.int 0 0] }).objs.size=s.heap.objs.size+1:=Heap.size_push ..;show _/\_;rw [hz];have he:=Heap.get?_push_size (s.heap.push { cls:=.type "tuple_iterator",data:=.fields #[.ref l,.int 0 0] }) (o:={ cls:=.type "enumerate",data:=.fields #[.none,.bool false,.ref s.heap.objs.size,rawInt 0,.none,.none] }) rfl;rw [hz] at he;exact ⟨⟨_,he,rfl⟩,h _ he ⟨_,Heap.get?_push_of_some _ (Heap.get?_push_size _ rfl),rfl,rfl⟩ λ b o x=>Heap.get?_push_of_some _ (Heap.get?_push_of_some _ x)⟩
 ·exact call_enumerate_list hL λ h' he hi _ hk=>h h' he hi hk
end
theorem kJN {k k':Bool} {h:Heap} {a it b:Addr} {i:Nat} {items:Array Value} (x:SqOf k h a items) (y:ItOf k' h it b i):a≠it:=by
 intro z;subst z
 cases k<;>cases k'<;>obtain ⟨o,e,c,_⟩:=x<;>obtain ⟨o',e',c',_⟩:=y<;>rw [e] at e'<;>cases e'<;>rw [c] at c'<;>revert c'<;>decide
theorem kHA {h:Heap} {a b:Addr} {o u:Obj} {m n:String} (h1:h.get? a=some o) (h2:h.get? b=some u) (c1:o.cls=.type m) (c2:u.cls=.type n) (d:m≠n):a≠b:=by
 intro z;subst z;rw [h1] at h2;cases h2
 rw [c1] at c2;injection c2 with e
 exact d e
theorem ItOf.cls {k:Bool} {h:Heap} {it a:Addr} {i:Nat} (x:ItOf k h it a i):∃ o,h.get? it=some o/\o.cls=.type (kLV k):=by
 cases k<;>obtain ⟨o,e,c,_⟩:=x<;>exact ⟨o,e,c⟩
def kKH (k:Bool):String:=match k with | true=>"list" | false=>"tuple"
theorem SqOf.cls {k:Bool} {h:Heap} {a:Addr} {items:Array Value} (x:SqOf k h a items):∃ o,h.get? a=some o/\o.cls=.type (kKH k):=by
 cases k<;>obtain ⟨o,e,c,_⟩:=x<;>exact ⟨o,e,c⟩
theorem Inv.handed {X:Cx} {pins:List (Addr×Obj)} {σ:St} {H:Hp} {s:Shared} {h':Heap} {t':Nat} {ch:List Addr} {x y:V} {u v:Value} (I:Inv X pins σ H s) (rx:RelV x u) (ry:RelV y v)
  (hT:h'.get? s.heap.objs.size=some { cls:=.type "tuple",data:=.seq #[u,v] }) (k:∀ b o,b∉ch->s.heap.get? b=some o->h'.get? b=some o) (hf:∀ b∈ch,vU X pins H b) (hlt:∀ b∈ch,b<s.heap.objs.size) :
  Inv X pins σ (upd H s.heap.objs.size (.tup [x,y])) { s with heap:=h',toks:=t' }/\(∀ b∈ch,upd H s.heap.objs.size (.tup [x,y]) b=none):=by
 have hn:∀ b∈ch,upd H s.heap.objs.size (.tup [x,y]) b=none:=λ b hb=>by rw [kK (Nat.ne_of_lt (hlt b hb))];exact (hf b hb).1
 have I1:Inv X pins σ (upd H s.heap.objs.size (.tup [x,y])) { s with heap:=s.heap.push { cls:=.type "tuple",data:=.seq #[u,v] },toks:=s.toks } :=
  I.laid (λ b o e=>Heap.get?_push_of_some _ e) (Nat.le_refl _) ⟨by simp only [length_cons,length_nil];rw [sizeLine_eq];decide,[u,v],.cons rx (.cons ry .nil),⟨_,Heap.get?_push_size _ rfl,rfl,0,rfl,rfl⟩⟩
 have I2:=Inv.turnedL (h':=h') (t':=t') (ch:=ch) I1 (λ b o hb e=>by
  rcases Heap.get?_push_cases e with ⟨rfl,rfl⟩ | e
  ·exact hT
  ·exact k b o hb e) (λ b hb=>by
  obtain ⟨f0,f1,f2,f3,f4,f5⟩:=hf b hb;exact ⟨hn b hb,f1,f2,f3,f4,f5⟩)
 exact ⟨I2,hn⟩
def Ite (k:Bool) (K:PySem.W.Frag) (a:Addr):It :=
 ⟨λ i H=>∃ xs x,SqX K k H a xs/\xs[i]?=some x,λ i H v H'=>∃ T x,H T=none/\v=.ref T/\(∀ xs,SqX K k H a xs->xs[i]?=some x)/\H'=upd H T (.tup [.int i,x]),λ i H=>∃ xs,SqX K k H a xs/\xs.length=i⟩
theorem kCO {P:Program} {w:World} {K:PySem.W.Frag} {elts:List Expr} {x1} {pos:Pos} (k:Bool) (a e it:Addr):Turn P w K (.Tuple elts x1 pos) (Ite k K a) [e,it] e (λ i h=>(∃ old,IsEnum h e it i old)/\ItOf k h it a i) where
 mem:=by simp
 obj:=λ i h st b hb=>by
  obtain ⟨⟨old,he⟩,hi⟩:=st;rcases mem_cons.mp hb with rfl | hb
  ·exact ⟨_,he,λ v z=>by cases z⟩
  ·have:b=it:=by simpa using hb
   subst this;exact hi.live
 keep:=λ i h h' st kk=>by
  obtain ⟨⟨old,he⟩,hi⟩:=st;exact ⟨⟨old,kk e (by simp) _ he⟩,hi.at λ o q=>kk it (by simp) o q⟩
 item:=by
  intro X hP hw hK hc i pins s σ H E I hf st hg;subst hP hw hK;obtain ⟨⟨old,he⟩,hi⟩:=st;obtain ⟨xs,x,hq,hx⟩:=hg;obtain ⟨its,rv,p⟩:=I.sq hq;obtain ⟨u,hu,ru⟩:=rv.get hx;have nai:=kJN p hi;obtain ⟨oi,ei,ci⟩:=hi.cls;obtain ⟨oa,ea,ca⟩:=p.cls;have nei:e≠it:=kHA he ei rfl ci (by cases k<;>decide);have nea:e≠a:=kHA he ea rfl ca (by cases k<;>decide);have D:=sP (prog:=X.prog) (w:=X.w) (A:=X.A.in1) (I.ok.hd hc) k it a nai its.toArray
  have hlt:i<its.toArray.size:=by
   have:=(List.getElem?_eq_some_iff.mp hu).1;simpa using this
  refine wpAny_pyNext_enum_itemD D he ⟨hi,p⟩ hlt nei (by simp [nei,nea]) λ y h' tk hy ho hs' hT hz hk=>?_
  have ey:y=u:=by
   have hy':its[i]?=some y:=by simpa using hy
   rw [hu] at hy';exact (Option.some.inj hy').symm
  subst ey;refine ⟨_,rfl,wpAny_letOwnedTupleGo_enum ho λ h2 he2 hs2=>?_⟩;have hel:e<s.heap.objs.size:=Heap.lt_size he;have hil:it<s.heap.objs.size:=Heap.lt_size ei;have hT2:h2.get? s.heap.objs.size=some { cls:=.type "tuple",data:=.seq #[.int i tk,y] }:=hs2.extBut _ _ (Nat.ne_of_gt hel) hT
  obtain ⟨I2,n2⟩:=I.handed (x:=.int i) (u:=.int i tk) (t':=tk+1) (ch:=[e,it]) ⟨tk,rfl⟩ ru hT2 (λ b o hb q=>hs2.extBut b o (λ z=>hb (by simp [z])) (hk b o (λ z=>hb (by simp [z])) (λ z=>hb (by simp [z])) q)) hf
   (λ b hb=>by rcases mem_cons.mp hb with rfl | hb;exact hel;rw [mem_singleton.mp hb];exact hil)
  refine ⟨.ref s.heap.objs.size,_,I2,rfl,⟨_,x,I.hok.fresh (Nat.le_refl _),rfl,λ ys hys=>by rw [I.sq_inj hys hq];exact hx,rfl⟩,⟨⟨_,by simpa using he2⟩,hs'.1.at λ o q=>hs2.extBut it o nei.symm q⟩,n2⟩
 done:=by
  intro X hP hw hK hc i pins s σ H E I hf st hg;subst hP hw hK;obtain ⟨⟨old,he⟩,hi⟩:=st;obtain ⟨xs,hq,hx⟩:=hg;obtain ⟨its,rv,p⟩:=I.sq hq;have nai:=kJN p hi;have D:=sP (prog:=X.prog) (w:=X.w) (A:=X.A.in1) (I.ok.hd hc) k it a nai its.toArray;have hl:its.toArray.size=i:=by rw [<-hx,rv.length];simp
  refine wpAny_pyNext_enum_endD D he ⟨hl ▸ hi,p⟩ λ h' eb=>⟨rfl,I.turnedL (t':=s.toks) (ch:=[it]) (λ b o hb q=>eb b o (λ z=>hb (by simp [z])) q) λ b hb=>hf b (by simp at hb ⊢;exact .inr hb)⟩
 self:=λ _ _ _ _ _ st h=>by
  obtain ⟨⟨old,he⟩,_⟩:=st;exact wpAny_pyIter_enum he h
section
variable {X:Cx}
def kNS (k:Bool) (K:PySem.W.Frag) (ta:TA):TI:=λ σ H R=>ta σ H λ vs H1=>∃ a,vs=[.ref a]/\(∃ xs,SqX K k H1 a xs)/\R (Ite k K a) H1
theorem oU (k:Bool) {a:Expr} {ta:TA} {p pos tpos:Pos} {elts:List Expr} {x1} (hg:Gl X "enumerate") (hm:X.mg "enumerate" = none) (ha:PA X [a] ta) (hs:starEach [a] X.env=[(false,eval a X.env)]:=by rfl) :
  PI X (.Tuple elts x1 tpos) (.Call (.Name "enumerate" p) [a] [] pos) (kNS k X.K ta):=by
 intro pins s σ H R I h;refine Call_ (lL I hg hm boot_enumerate (PyProof.Rows.callWith_type1 (thn (ha pos pins s σ H _ I h) λ us s1 ⟨vs,H1,I1,r1,q1⟩=>?_) hs rfl));obtain ⟨l,rfl,⟨xs,hq⟩,q⟩:=q1;obtain ⟨u,rfl,r⟩:=uL r1;cases r
 obtain ⟨its,rv,pq⟩:=I1.sq hq;refine pU pq λ h' he hi hk=>?_;refine wpAny_pyIter_enum (s:={ s1 with heap:=h' }) he ?_
 have f:∀ b,s1.heap.objs.size<=b->vU X pins H1 b:=λ b hb=>I1.fpOk hb (I1.hok.fresh hb);refine ⟨_,[s1.heap.objs.size+1,s1.heap.objs.size],_,_,H1,rfl,I1.kept (t':=s1.toks) hk,kCO k l _ _,⟨⟨_,he⟩,hi⟩,λ b hb=>?_,q⟩;rcases mem_cons.mp hb with rfl | hb
 ·exact f _ (by omega)
 ·rw [mem_singleton.mp hb];exact f _ (Nat.le_refl _)
end
end L2
namespace L2
open PySem PySem.Spec PyProof.Rows
section
variable {prog:Program} {w:World} {A:Around} {E:Value->Shared->Prop} {s:Shared} {z TI TO i1 i2:Addr} {fp1 fp2:List Addr} {n1 n2 j:Nat} {P1 P2:Nat->Value->Prop} {S1 S2:Nat->Heap->Prop} {a b:Value}
end
section
variable {prog:Program} {w:World} {A:Around} {E:Value->Shared->Prop} {s:Shared}
end
section
variable {X:Cx}
end
section
variable {X:Cx} {tg iter el:Expr} {ifs:List Expr} {sc:Scope} {pos py spos:Pos} {Nc:List Str} {js:List (Option Nat)} {wi:TI} {i:Nat} {y:Str}
theorem wZ {g:TG} {bd:Addr->TB} (hx:X.xe=λ _ _=>False) (hc:X.calm=true) (hN:X.N.Nodup) (hiN:X.N[i]?=some y) (hy:Loc X.env.scope y) (hi:PI X tg iter wi) (S:CS sc X.env.scope) (cap:fE js Nc X.N sc.names=true)
  (hg:∀ C s₂ H₂ fp pins,PG (cxC X Nc sc C s₂ H₂ fp pins) tg g)
  (hb:∀ C s₂ H₂ fp pins D L,PTl (cxC X Nc sc C s₂ H₂ fp pins) (zC ifs (cxC X Nc sc C s₂ H₂ fp pins).env (do let _ <-call (.builtin "list.append") [.ref D,<-eval el (cxC X Nc sc C s₂ H₂ fp pins).env]) L) L (bd D))
  (hs:∀ x,foldedSetIterable iter X.env x=pure x:=by intro _;rfl)
  (hsw:swapsWith (.ListComp el [⟨tg,iter,ifs,0⟩] sc pos) (some (.Name y py)) spos.line X.env=pure true:=by rfl)
  (hf:X.fn y=true\/X.env.scope.names.lookup y=some .local:=by first | exact .inl rfl | exact .inr rfl | assumption) :
  PS X (.Assign [.Name y py] (.ListComp el [⟨tg,iter,ifs,0⟩] sc pos) spos) (kKG (tLC js wi g bd) (nO i)):=by
 intro pins s σ H D0 I h;have hcl:closureFor sc X.env=pure (cO sc X.env):=wY λ y hy hf=>I.ok.has y.1 (.inl (S.free y hy hf));rw [exec_Assign_Name_used _ _ _ _ hsw];refine wpAny_bind (wpAny_standAt (wpAny_bind ?_));show wpAny _ X.A (do let _ <-comprehension (.ListComp el [⟨tg,iter,ifs,0⟩] sc pos) sc X.env _ (newList []) false (eval iter X.env) (some (assign (.Name y py) X.env))) _ _ s
 refine wpAny_bind (wpAny_mono (wpAny_comprehension_free (use:=some (assign (.Name y py) X.env)) (Q:=λ _ s'=>SP X pins D0 .next s') rfl hs hcl S.kind S.names
  (thn (hi pins s σ H _ I h) λ v s1 h1=>thn h1 λ itv s2 h2=>?_)) (λ _ s' hq=>wpAny_pure (wpAny_pure hq)) λ _ _ e=>e)
 obtain ⟨it,fp,tn,J,H2,e,I2,T,st2,f2,hw⟩:=h2;subst e;have hlt:∀ b∈fp,b<s2.heap.objs.size:=λ b hb=>let ⟨o,ho,_⟩:=T.obj _ _ st2 b hb;Heap.lt_size ho;refine wpAny_newObj_type (wpAny_newFunctionEnv S.nocell (by intro y hy;simp at hy) (λ h₁ hns₁ hsb₁=>?_) S.kind);dsimp only at hns₁ hsb₁ ⊢;generalize hH2:s2.heap.push { cls:=.type "list",dict:=none,data:=.seq ([]:List Value).toArray }=G at hns₁ hsb₁ ⊢;have hCs:G.objs.size=s2.heap.objs.size+1:=by rw [<-hH2,Heap.size_push]
 have hDC:s2.heap.objs.size≠G.objs.size:=by omega
 have hCle:s2.heap.objs.size<=G.objs.size:=by omega
 have old:∀ b o,s2.heap.get? b=some o->h₁.get? b=some o:=λ b o e=>hsb₁.extBut b o (Nat.ne_of_lt (Nat.lt_of_lt_of_le (Heap.lt_size e) hCle)) (Heap.get?_push_of_some _ (hH2 ▸ Heap.get?_push_of_some _ e));have hacc:h₁.get? s2.heap.objs.size=some { cls:=.type "list",dict:=none,data:=.seq ([]:List Value).toArray }:=hsb₁.extBut _ _ hDC (Heap.get?_push_of_some _ (hH2 ▸ Heap.get?_push_size _ rfl));have new:ObjOk X.prog X.w (upd H2 s2.heap.objs.size (.lst [])) h₁ s2.heap.objs.size (.lst []):=⟨Nat.zero_le _,[],_,.nil,hacc⟩;have I4:=uU (js:=js) (Nc:=Nc) (tk:=s2.toks+([]:List (Str×Value)).length) I2 S f2 hlt cap hCle (Nat.le_refl _) hDC old hns₁ new;have hn:H2 s2.heap.objs.size=none:=I2.fresh
 have f4:∀ b∈fp,vU (cxC X Nc sc G.objs.size s2 H2 fp pins) [] (upd H2 s2.heap.objs.size (.lst [])) b:=λ b hb=>by
  obtain ⟨h0,h1,h2,h3,h4,h5⟩:=f2 b hb;refine ⟨?_,Nat.ne_of_lt (Nat.lt_of_lt_of_le (hlt b hb) hCle),λ z=>?_,.inl hb,λ x c z=>?_,λ p hp=>?_⟩
  ·rw [kK (Nat.ne_of_lt (hlt b hb))];exact h0
  ·rcases mem_cons.mp (I2.stkSub b z) with q | q
   ·exact h1 q
   ·exact h2 q
  ·exact h4 x c (fD sc.names [] (λ z=>nomatch z) z)
  ·rcases mem_append.mp hp with z | z
   ·exact h5 p z
   ·exact absurd z (by simp)
 have st4:tn 0 h₁:=T.keep _ _ _ st2 λ b hb o e=>old b o e
 have loop:codeAny (model X.prog X.w) X.A (.compLoop (.ListComp el [⟨tg,iter,ifs,0⟩] sc pos) 0 (.ref it) (.ref s2.heap.objs.size) (compEnvC sc (cO sc X.env) G.objs.size X.env))
   (compPost (model X.prog X.w) X.A X.xe (some (assign (.Name y py) X.env)) (λ _ s'=>SP X pins D0 .next s') (.ref s2.heap.objs.size) G.objs.size) { s2 with heap:=h₁,toks:=s2.toks+([]:List (Str×Value)).length }:=by
  refine wL (X:=cxC X Nc sc G.objs.size s2 H2 fp pins) (.inl ⟨el,rfl⟩) hx hc (kBC _ _ _ _ _ _ _ _ _) T (hg _ _ _ _ _) (hb _ _ _ _ _ _ _) I4 st4 f4 (hw _ hn) λ σ' H' s' I' q=>?_;obtain ⟨m',hm',_⟩:=I'.loc;have IB:Inv X pins σ H' { s' with heap:=s'.heap }:=uV I2 f2 hCle I' (Heap.SameBut.refl ..)
  have nC:H' G.objs.size=none:=I'.free;have fC:vU X pins H' G.objs.size:=I2.fpOk hCle nC;show wpAny _ X.A (assign (.Name y py) X.env (.ref s2.heap.objs.size)) _ _ s';refine wpAny_assign_Name (mY (v:=.ref s2.heap.objs.size) IB hN hiN hy rfl (λ s'' IC hsb=>?_) hf);obtain ⟨a,sb,ha⟩:=hsb
  have aC:G.objs.size≠a:=by
   rcases ha with rfl | ha
   ·exact fC.2.1
   ·exact λ z=>fC.2.2.2.2.1 y a ha z.symm
  refine ⟨m',hm'.sameBut sb aC,λ h' hs'=>?_⟩;exact ⟨_,H',IC.turnedL (t':=s''.toks) (ch:=[G.objs.size]) (λ b o hb' e=>hs'.extBut b o (λ z=>hb' (by simp [z])) e) (λ b hb'=>by rw [mem_singleton.mp hb'];exact fC),q⟩
 exact zM (.inl ⟨el,rfl⟩) rfl rfl loop (T.self _ _ _ _ _ st4 loop)
end
theorem sJ {k:Bool} {K:PySem.W.Frag} {a:Addr} {xs:List V} {g:TG} {tb:TS} {D:Ends} {σ:St} {H:Hp} (Pv:Nat->St->Hp->Prop) (h0:Pv 0 σ H) (hl:∀ i σ H,i<=xs.length->Pv i σ H->SqX K k H a xs)
  (hs:∀ i x T σ H,xs[i]?=some x->H T=none->Pv i σ H->g (.ref T) σ (upd H T (.tup [.int i,x])) λ σ2 H2=>tb { D with nx:=Pv (i+1),ct:=Pv (i+1),bk:=D.nx } σ2 H2) (hd:∀ σ H,Pv xs.length σ H->D.nx σ H) :
  ∃ W:Nat->Nat->St->Hp->Prop,(∃ m,W 0 m σ H)/\∀ i m σ H,W i m σ H ->
   ((Ite k K a).stop i H/\D.nx σ H)\/((Ite k K a).go i H/\∃ N:St->Hp->Prop,(∀ σ' H',N σ' H'->∃ m',m'<m/\W (i+1) m' σ' H')/\∀ x H',(Ite k K a).yld i H x H'->g x σ H' λ σ2 H2=>tb { D with nx:=N,ct:=N,bk:=D.nx } σ2 H2):=by
 refine ⟨λ i m σ H=>m=xs.length-i/\i<=xs.length/\Pv i σ H,⟨xs.length,by simp,Nat.zero_le _,h0⟩,?_⟩;rintro i m σ H ⟨rfl,hle,p⟩;have q1:=hl i σ H hle p;by_cases hi:i<xs.length
 ·refine .inr ⟨⟨xs,xs[i],q1,by simp [hi]⟩,Pv (i+1),λ σ' H' q=>⟨xs.length-(i+1),by omega,rfl,by omega,q⟩,λ x H' hy=>?_⟩
  obtain ⟨T,x1,nT,rfl,e1,rfl⟩:=hy;exact hs i x1 T σ H (e1 xs q1) nT p
 ·have:i=xs.length:=by omega
  subst this;exact .inl ⟨⟨xs,q1,rfl⟩,hd σ H p⟩
theorem kCU (bs:List Bool):(List.range bs.length).all (λ i=>bs.getD i false)=bs.all id:=by
 rw [Bool.eq_iff_iff,all_eq_true,all_eq_true];constructor
 ·intro h b hb
  obtain ⟨i,hi,rfl⟩:=mem_iff_getElem.mp hb;have:=h i (mem_range.mpr hi);simpa [getD_eq_getElem?_getD,hi] using this
 ·intro h i hi
  have hl:i<bs.length:=mem_range.mp hi;have:=h bs[i] (getElem_mem hl);simpa [getD_eq_getElem?_getD,hl] using this
theorem kBA:∀ {bs:List Bool} {its:List Value},Vals (bs.map V.bl) its->its=bs.map Value.bool
 | [],_,r=>by cases r;rfl
 | b::bs,_,r=>by
  cases r with
  | cons r1 r2 =>
   cases r1
   rw [kBA r2]
   rfl
section
variable {X:Cx}
theorem kEL {prog:Program} {w:World} {A:Around} {bs:List Bool} {items:Array Value} (e:items=(bs.map Value.bool).toArray):TruthOf prog w A (λ i v=>items[i]?=some v) (λ i=>bs.getD i false):=by
 intro i v s Q E h q;rw [e] at h;have h':(bs.map Value.bool)[i]?=some v:=by simpa using h
 rw [List.getElem?_map] at h'
 cases z:bs[i]? with
 | none=>rw [z] at h';cases h'
 | some b =>
  rw [z] at h'
  cases h'
  refine wpAny_truthy_bool ?_;simpa [getD_eq_getElem?_getD,z] using q
theorem nX (hc:X.calm=true):xQ X (.builtin "all") (λ xs H Q=>∃ (a:Addr) (bs:List Bool),xs=[.ref a]/\SqL X.K H a (bs.map V.bl)/\Q (.bl (bs.all id)) H):=by
 intro pins s σ H xs us Q I r h;obtain ⟨a,bs,rfl,hS,q⟩:=h;obtain ⟨u,rfl,r1⟩:=uL r;cases r1
 obtain ⟨its,rv,ht,hz⟩:=I.list hS;have hl:=ht.isList;have hne:a≠s.heap.objs.size:=by obtain ⟨o,e,_⟩:=hl;exact Nat.ne_of_lt (Heap.lt_size e)
 have eits:=kBA rv;refine call_all_walk (wpAny_pyIter_list hl ⟨_,_,_,_,_,_,_,rfl,Walks.list (A:=X.A.in1) (I.ok.hd hc) _ a hne its.toArray,⟨⟨_,Heap.get?_push_size _ rfl,rfl,rfl⟩,hl.push _⟩,kEL (bs:=bs) (by rw [eits]),λ h' tk hk=>?_⟩);have e:its.toArray.size=bs.length:=by rw [eits];simp
 rw [e,kCU];refine ⟨.bl _,H,I.kept λ b o e'=>hk b o (λ z=>?_) (Heap.get?_push_of_some _ e'),rfl,q⟩;rw [mem_singleton.mp z] at e';exact absurd (Heap.lt_size e') (Nat.lt_irrefl _)
end
section
variable {X:Cx}
theorem nV (hc:X.calm=true):xQ X (.builtin "min") (λ xs H Q=>∃ (a:Addr) (ns:List Int),xs=[.ref a]/\SqL X.K H a (ns.map V.int)/\0<ns.length/\∀ M,M∈ns->(∀ i∈ns,M<=i)->Q (.int M) H):=by
 intro pins s σ H xs us Q I r h;obtain ⟨a,ns,rfl,hS,hne,q⟩:=h;obtain ⟨u,rfl,r1⟩:=uL r;cases r1
 obtain ⟨its,rv,ht,hz⟩:=I.list hS;have hi:=fV rv;obtain ⟨xs,e⟩:=hi.allInts.items;have hns:ns=xs.toList.map (·.1):=by rw [<-hi.numsOf,<-nums_intItems,<-e]
 have hsz:0<xs.size:=by
  have h3:=hne;rw [hns,length_map,Array.length_toList] at h3;exact h3
 have hl:=ht.isList;rw [e] at hl;refine min_intList (I.ok.hd hc) hl hsz λ v h' tk hv hk=>?_;obtain ⟨t,rfl⟩:=intItems_at hv;obtain ⟨h1,h2⟩:=argBest_lt (numAt xs) (xs.size-1);refine ⟨.int _,H,I.kept hk,⟨_,rfl⟩,q _ ?_ λ a ha=>?_⟩
 ·rw [hns,numAt_eq];exact getD_mem (by rw [length_map,Array.length_toList];omega)
 ·rw [hns] at ha
  obtain ⟨j,hj,rfl⟩:=mem_getD ha;rw [length_map,Array.length_toList] at hj;rw [<-numAt_eq];exact h2 j (by omega)
end
section
variable {X:Cx} {tg iter el tg2 iter2:Expr} {ifs ifs2:List Expr} {sc:Scope} {pos:Pos} {Nc:List Str} {js:List (Option Nat)} {wi wi2:TI} {g g2:TG}
def kJU (wi2:TI) (g2:TG) (b2:TB):TB:=λ N σ H=>wi2 σ H λ J H1=>uG J g2 b2 N σ H1
theorem kFO {D:Addr} {b2:TB} {L:Code} {e:Expr} (ee:e=.ListComp el [⟨tg,iter,[],0⟩,⟨tg2,iter2,ifs2,0⟩] sc pos) (hx:X.xe=λ _ _=>False) (hc:X.calm=true) (hi:PI X tg2 iter2 wi2) (hg:PG X tg2 g2)
  (hb:∀ L,PTl X (zC ifs2 X.env (do let _ <-call (.builtin "list.append") [.ref D,<-eval el X.env]) L) L b2) (hs:∀ x,foldedSetIterable iter2 X.env x=pure x) :
  PTl X (kEP [] X.env iter2 (λ i=>.compStart e 1 i (.ref D) X.env) L) L (kJU wi2 g2 b2):=by
 subst ee;intro pins s σ H N I h;unfold kEP;refine wpAny_bind (wpAny_tests_nil ?_);show wpAny _ _ (eval iter2 X.env >>= _) _ _ s;refine wpAny_bind (thn (hi pins s σ H _ I h) λ v s1 h1=>?_);refine wpAny_bind (wpAny_standAt (wpAny_bind (wpAny_of_eq (hs v) (wpAny_bind (wpAny_holding (thn h1 λ itv s2 h2=>?_))))));obtain ⟨it,fp,tn,J,H2,e,I2,T,st2,f2,hw⟩:=h2;subst e;refine wpAny_bind (wpAny_runOwn ?_)
 have loop:codeAny (model X.prog X.w) X.A (.compLoop (.ListComp el [⟨tg,iter,[],0⟩,⟨tg2,iter2,ifs2,0⟩] sc pos) 1 (.ref it) (.ref D) X.env)
   (λ r s'=>match r with | .ok _=>wpAny (model X.prog X.w) X.A (again L) (λ fin s'=>fin=.again L/\∃ σ' H',Inv X pins σ' H' s'/\N σ' H') X.xe s' | .error e=>cameBackBy (model X.prog X.w) X.A X.env X.xe e s') s2 :=
  wL (.inl ⟨el,rfl⟩) hx hc (kEJ _ _ _ _ _ _ _ _ _ _ _ _) T hg (hb _) I2 st2 f2 hw λ σ' H' s' I' q=>wpAny_pure ⟨rfl,σ',H',I',q⟩
 exact zM (.inl ⟨el,rfl⟩) rfl rfl loop (T.self _ _ _ _ _ st2 loop)
theorem kIB {bd:Addr->TB} (hx:X.xe=λ _ _=>False) (hc:X.calm=true) (hi:PI X tg iter wi) (S:CS sc X.env.scope) (cap:fE js Nc X.N sc.names=true)
  (hg:∀ C s₂ H₂ fp pins,PG (cxC X Nc sc C s₂ H₂ fp pins) tg g) (hi2:∀ C s₂ H₂ fp pins,PI (cxC X Nc sc C s₂ H₂ fp pins) tg2 iter2 wi2) (hg2:∀ C s₂ H₂ fp pins,PG (cxC X Nc sc C s₂ H₂ fp pins) tg2 g2)
  (hb:∀ C s₂ H₂ fp pins D L,PTl (cxC X Nc sc C s₂ H₂ fp pins) (zC ifs2 (cxC X Nc sc C s₂ H₂ fp pins).env (do let _ <-call (.builtin "list.append") [.ref D,<-eval el (cxC X Nc sc C s₂ H₂ fp pins).env]) L) L (bd D))
  (hs:∀ x,foldedSetIterable iter X.env x=pure x:=by intro _;rfl) (hs2:∀ C s₂ H₂ fp pins x,foldedSetIterable iter2 (cxC X Nc sc C s₂ H₂ fp pins).env x=pure x:=by intro _ _ _ _ _ _;rfl) :
  PE X (.ListComp el [⟨tg,iter,[],0⟩,⟨tg2,iter2,ifs2,0⟩] sc pos) (tLC js wi g λ D=>kJU wi2 g2 (bd D)):=by
 intro pins s σ H Q I h;rw [eval_ListComp];have hcl:closureFor sc X.env=pure (cO sc X.env):=wY λ y hy hf=>I.ok.has y.1 (.inl (S.free y hy hf));refine wpAny_comprehension_free (use:=none) rfl hs hcl S.kind S.names (thn (hi pins s σ H _ I h) λ v s1 h1=>thn h1 λ itv s2 h2=>?_);obtain ⟨it,fp,tn,J,H2,e,I2,T,st2,f2,hw⟩:=h2;subst e;have hlt:∀ b∈fp,b<s2.heap.objs.size:=λ b hb=>let ⟨o,ho,_⟩:=T.obj _ _ st2 b hb;Heap.lt_size ho;refine wpAny_newObj_type (wpAny_newFunctionEnv S.nocell (by intro y hy;simp at hy) (λ h₁ hns₁ hsb₁=>?_) S.kind);dsimp only at hns₁ hsb₁ ⊢;generalize hH2:s2.heap.push { cls:=.type "list",dict:=none,data:=.seq ([]:List Value).toArray }=G at hns₁ hsb₁ ⊢;have hCs:G.objs.size=s2.heap.objs.size+1:=by rw [<-hH2,Heap.size_push]
 have hDC:s2.heap.objs.size≠G.objs.size:=by omega
 have hCle:s2.heap.objs.size<=G.objs.size:=by omega
 have old:∀ b o,s2.heap.get? b=some o->h₁.get? b=some o:=λ b o e=>hsb₁.extBut b o (Nat.ne_of_lt (Nat.lt_of_lt_of_le (Heap.lt_size e) hCle)) (Heap.get?_push_of_some _ (hH2 ▸ Heap.get?_push_of_some _ e));have hacc:h₁.get? s2.heap.objs.size=some { cls:=.type "list",dict:=none,data:=.seq ([]:List Value).toArray }:=hsb₁.extBut _ _ hDC (Heap.get?_push_of_some _ (hH2 ▸ Heap.get?_push_size _ rfl));have new:ObjOk X.prog X.w (upd H2 s2.heap.objs.size (.lst [])) h₁ s2.heap.objs.size (.lst []):=⟨Nat.zero_le _,[],_,.nil,hacc⟩;have I4:=uU (js:=js) (Nc:=Nc) (tk:=s2.toks+([]:List (Str×Value)).length) I2 S f2 hlt cap hCle (Nat.le_refl _) hDC old hns₁ new;have hn:H2 s2.heap.objs.size=none:=I2.fresh
 have f4:∀ b∈fp,vU (cxC X Nc sc G.objs.size s2 H2 fp pins) [] (upd H2 s2.heap.objs.size (.lst [])) b:=λ b hb=>by
  obtain ⟨h0,h1,h2,h3,h4,h5⟩:=f2 b hb;refine ⟨?_,Nat.ne_of_lt (Nat.lt_of_lt_of_le (hlt b hb) hCle),λ z=>?_,.inl hb,λ x c z=>?_,λ p hp=>?_⟩
  ·rw [kK (Nat.ne_of_lt (hlt b hb))];exact h0
  ·rcases mem_cons.mp (I2.stkSub b z) with q | q
   ·exact h1 q
   ·exact h2 q
  ·exact h4 x c (fD sc.names [] (λ z=>nomatch z) z)
  ·rcases mem_append.mp hp with z | z
   ·exact h5 p z
   ·exact absurd z (by simp)
 have st4:tn 0 h₁:=T.keep _ _ _ st2 λ b hb o e=>old b o e
 have loop:codeAny (model X.prog X.w) X.A (.compLoop (.ListComp el [⟨tg,iter,[],0⟩,⟨tg2,iter2,ifs2,0⟩] sc pos) 0 (.ref it) (.ref s2.heap.objs.size) (compEnvC sc (cO sc X.env) G.objs.size X.env))
   (compPost (model X.prog X.w) X.A X.xe none (EP X pins σ Q) (.ref s2.heap.objs.size) G.objs.size) { s2 with heap:=h₁,toks:=s2.toks+([]:List (Str×Value)).length }:=by
  refine wL (X:=cxC X Nc sc G.objs.size s2 H2 fp pins) (.inl ⟨el,rfl⟩) hx hc (kEK _ _ _ _ _ _ _ _ _ _ _ _) T (hg _ _ _ _ _)
   (kFO (X:=cxC X Nc sc G.objs.size s2 H2 fp pins) rfl hx hc (hi2 _ _ _ _ _) (hg2 _ _ _ _ _) (λ L=>hb _ _ _ _ _ _ L) (hs2 _ _ _ _ _)) I4 st4 f4 (hw _ hn) λ σ' H' s' I' q=>?_
  obtain ⟨m',hm',_⟩:=I'.loc;exact ⟨m',hm',λ h' hs'=>⟨.ref s2.heap.objs.size,H',uV I2 f2 hCle I' hs',rfl,q⟩⟩
 exact zM (.inl ⟨el,rfl⟩) rfl rfl loop (T.self _ _ _ _ _ st4 loop)
end
open AutoSeq1 (wpAny_loadPart')
theorem kCP (l:Addr) (items:Array Value) (n:Nat) (dd:Option Addr) (sl:Array (Option Value)) (x:Value) (e:Value->Bool) (j:Nat) (hj:j<items.size) (hit:e items[j]=true) (hno:∀ m (hm:m<items.size),m<j->e items[m]=false) :
  Meets (Builtin.«tuple.index» ⟨[.ref l,x],[]⟩) (λ A R s=>s.heap.get? l=some { cls:=.type "tuple",dict:=dd,data:=.seq items n,slots:=sl }/\(∀ y,y∈items->SeqAt.EqAt A.in1 s y x (e y))/\R (.ok (.ret (.int j s.toks))) { s with toks:=s.toks+1 }) :=
 .of_wp λ prog w A R s h=>by
  obtain ⟨hp,g,d,tk,os⟩:=s;obtain ⟨hl,he,h⟩:=h
  wp_walk using wpAny_loadPart' hl
  have hR:∀ (f:Nat->Option PySem.Fin×PUnit->Sem (ForInStep (Option PySem.Fin×PUnit))) (Q:Option PySem.Fin×PUnit->Shared->Prop) (E:Value->Shared->Prop) (s0:Shared),
    wpAny (model prog w) A.in1 (forIn (List.range' 0 items.size) ((none:Option PySem.Fin),PUnit.unit) f) Q E s0->wpAny (model prog w) A.in1 (forIn [:min items.size items.size] ((none:Option PySem.Fin),PUnit.unit) f) Q E s0:=λ f Q E s0 z=>by
   rw [Std.Legacy.Range.forIn_eq_forIn_range'];simpa [Std.Legacy.Range.size] using z
  refine hR (λ i __s=>match items[i]? with
      | some y=>do
       if <-eqBool y x then do
         let r <-retInt (i:Nat)
         pure (ForInStep.done (some r,()))
        else pure (ForInStep.yield (none,()))
      | _=>pure (ForInStep.yield (none,()))) _ _ _ ?_
  refine wpAny_forIn_list _ (λ rest b s'=>b.1=none/\s'=⟨hp,g,d,tk,os⟩/\∃ i,i<=j/\rest=List.range' i (items.size-i)) _ ?_ ?_ _ _ ⟨rfl,rfl,0,Nat.zero_le _,by simp⟩
  ·rintro y rest b s' ⟨hb,rfl,i,hi,er⟩
   have hlt:i<items.size:=by omega
   rw [show items.size-i=(items.size-(i+1))+1 by omega,List.range'_succ] at er;injection er with e1 e2
   subst e1;have hg:items[y]?=some items[y]:=by simp [hlt]
   simp only [hg];refine wpAny_bind (he _ (Array.getElem_mem hlt) prog w _ _ ?_);by_cases c:y=j
   ·subst c
    rw [hit]
    wp_walk
    exact ⟨_,rfl,h⟩
   ·rw [hno y hlt (by omega)]
    wp_walk
    exact ⟨rfl,rfl,y+1,by omega,e2⟩
  ·rintro b s' ⟨hb,rfl,i,hi,er⟩
   have:List.length ([]:List Nat)=items.size-i:=by rw [er,List.length_range']
   simp at this;omega
section
variable {X:Cx}
def kHX (K:PySem.W.Frag):V->List V->Hp->VK->Prop:=λ x vs H Q=>∃ (l:Addr) (ns:List Int) (n:Int) (j:Nat),x=.ref l/\vs=[.int n]/\SqT K H l (ns.map V.int)/\cT ns n j/\Q (.int j) H
theorem aM:MtM X "tuple.index" (kHX X.K):=by
 intro pins s σ H x vs v us Q I rx rv h;obtain ⟨l,ns,n,j,rfl,rfl,hH,hj,q⟩:=h;cases rx
 obtain ⟨u,rfl,t,rfl⟩:=rv.one;obtain ⟨its,r,⟨⟨cls,dd,dt,sl⟩,ho,hc,m,hd⟩,hz⟩:=I.tuple hH;simp only at hc hd;subst hc hd;obtain ⟨h1,h2,h3⟩:=dU r hj;refine call_meets F.slot_tuple_index ⟨_,ho,rfl⟩ F.entry_tuple_index (F.args_tuple_index_2 _ _) (kCP l its.toArray m dd sl (.int n t) (fA n) j h1 h2 h3) ⟨ho,λ y hy=>(vV r n t y hy).at _ _,?_⟩;exact ⟨.int j,H,I.tok _,⟨_,rfl⟩,q⟩
end
end L2
namespace L2
open PySem PySem.Spec PyProof.Rows
theorem bT {X:Cx} {st:Stmt}:PS X st (λ _ _ _=>False):=λ _ _ _ _ _ _ h=>h.elim
section
variable {X:Cx} {tg iter kx vx:Expr} {ifs:List Expr} {sc:Scope} {pos:Pos} {Nc:List Str} {js:List (Option Nat)} {wi:TI}
def sN (kx vx:Expr) (env:Env) (acc:Value):Sem Unit:=do
 let kv <-eval kx env
 let vv <-holding [kv] (eval vx env)
 match acc with
 | .ref d=>do
  standAt (have __src:=kx.pos;{ line:=__src.line,col:=__src.col,endLine:=vx.pos.endLine,endCol:=vx.pos.endCol })
  holding [kv,vv] (dictSet d kv vv)
 | _=>unsupported "internal:dictcomp"
theorem kBD (kx vx tg iter:Expr) (ifs:List Expr) (sc:Scope) (pos:Pos) (it acc:Value) (env:Env) :
  compTurn (.DictComp kx vx [⟨tg,iter,ifs,0⟩] sc pos) 0 it acc env=(standAt iter.pos >>= λ _=>pyNext it >>= λ r=>match r with
   | none=>pure (.done .next)
   | some v=>letOwnedTupleGo tg it v >>= λ _=>assign tg env v >>= λ _=>zC ifs env (sN kx vx env acc) (.compLoop (.DictComp kx vx [⟨tg,iter,ifs,0⟩] sc pos) 0 it acc env)):=by rfl
def tDC (js:List (Option Nat)) (wi:TI) (g:TG) (bd:Addr->TB):TE:=λ σ H Q=>wi σ H λ J H1=>∀ D,H1 D=none->uG J g (bd D) (λ _ H'=>Q (.ref D) H') (dY js σ) (upd H1 D (.dK []))
theorem kIC {g:TG} {bd:Addr->TB} (hx:X.xe=λ _ _=>False) (hc:X.calm=true) (hi:PI X tg iter wi) (S:CS sc X.env.scope) (cap:fE js Nc X.N sc.names=true)
  (hg:∀ C s₂ H₂ fp pins,PG (cxC X Nc sc C s₂ H₂ fp pins) tg g)
  (hb:∀ C s₂ H₂ fp pins D L,PTl (cxC X Nc sc C s₂ H₂ fp pins) (zC ifs (cxC X Nc sc C s₂ H₂ fp pins).env (sN kx vx (cxC X Nc sc C s₂ H₂ fp pins).env (.ref D)) L) L (bd D))
  (hs:∀ x,foldedSetIterable iter X.env x=pure x:=by intro _;rfl) :
  PE X (.DictComp kx vx [⟨tg,iter,ifs,0⟩] sc pos) (tDC js wi g bd):=by
 intro pins s σ H Q I h;rw [arm_eval_DictComp];have hcl:closureFor sc X.env=pure (cO sc X.env):=wY λ y hy hf=>I.ok.has y.1 (.inl (S.free y hy hf));refine wpAny_comprehension_free (use:=none) rfl hs hcl S.kind S.names (thn (hi pins s σ H _ I h) λ v s1 h1=>thn h1 λ itv s2 h2=>?_);obtain ⟨it,fp,tn,J,H2,e,I2,T,st2,f2,hw⟩:=h2;subst e;have hlt:∀ b∈fp,b<s2.heap.objs.size:=λ b hb=>let ⟨o,ho,_⟩:=T.obj _ _ st2 b hb;Heap.lt_size ho;refine wpAny_newObj_type (wpAny_newFunctionEnv S.nocell (by intro y hy;simp at hy) (λ h₁ hns₁ hsb₁=>?_) S.kind);dsimp only at hns₁ hsb₁ ⊢;generalize hH2:s2.heap.push { cls:=.type "dict",dict:=none,data:=.dict #[] }=G at hns₁ hsb₁ ⊢;have hCs:G.objs.size=s2.heap.objs.size+1:=by rw [<-hH2,Heap.size_push]
 have hDC:s2.heap.objs.size≠G.objs.size:=by omega
 have hCle:s2.heap.objs.size<=G.objs.size:=by omega
 have old:∀ b o,s2.heap.get? b=some o->h₁.get? b=some o:=λ b o e=>hsb₁.extBut b o (Nat.ne_of_lt (Nat.lt_of_lt_of_le (Heap.lt_size e) hCle)) (Heap.get?_push_of_some _ (hH2 ▸ Heap.get?_push_of_some _ e));have hacc:h₁.get? s2.heap.objs.size=some { cls:=.type "dict",dict:=none,data:=.dict #[] }:=hsb₁.extBut _ _ hDC (Heap.get?_push_of_some _ (hH2 ▸ Heap.get?_push_size _ rfl))
 have new:ObjOk X.prog X.w (upd H2 s2.heap.objs.size (.dK [])) h₁ s2.heap.objs.size (.dK []):=by
  refine ⟨Nat.zero_le _,beq_eq_false_iff_ne.mpr (Ne.symm (Nat.ne_of_lt I2.big)),[],.nil,?_⟩;obtain ⟨o,es,ep,h1,rest⟩:=Heap.DictOf.new (knd:=qT X.prog X.w) s2.heap;have h2:(s2.heap.push { cls:=.type "dict",dict:=none,data:=.dict #[] }).get? s2.heap.objs.size=some { cls:=.type "dict",dict:=none,data:=.dict #[] }:=Heap.get?_push_size _ rfl;have h3:=h1.symm.trans h2;exact ⟨o,es,ep,hacc.trans h3.symm,rest⟩
 have I4:=uU (js:=js) (Nc:=Nc) (tk:=s2.toks+([]:List (Str×Value)).length) I2 S f2 hlt cap hCle (Nat.le_refl _) hDC old hns₁ new;have hn:H2 s2.heap.objs.size=none:=I2.fresh
 have f4:∀ b∈fp,vU (cxC X Nc sc G.objs.size s2 H2 fp pins) [] (upd H2 s2.heap.objs.size (.dK [])) b:=λ b hb=>by
  obtain ⟨h0,h1,h2,h3,h4,h5⟩:=f2 b hb;refine ⟨?_,Nat.ne_of_lt (Nat.lt_of_lt_of_le (hlt b hb) hCle),λ z=>?_,.inl hb,λ x c z=>?_,λ p hp=>?_⟩
  ·rw [kK (Nat.ne_of_lt (hlt b hb))];exact h0
  ·rcases mem_cons.mp (I2.stkSub b z) with q | q
   ·exact h1 q
   ·exact h2 q
  ·exact h4 x c (fD sc.names [] (λ z=>nomatch z) z)
  ·rcases mem_append.mp hp with z | z
   ·exact h5 p z
   ·exact absurd z (by simp)
 have st4:tn 0 h₁:=T.keep _ _ _ st2 λ b hb o e=>old b o e
 have loop:codeAny (model X.prog X.w) X.A (.compLoop (.DictComp kx vx [⟨tg,iter,ifs,0⟩] sc pos) 0 (.ref it) (.ref s2.heap.objs.size) (compEnvC sc (cO sc X.env) G.objs.size X.env))
   (compPost (model X.prog X.w) X.A X.xe none (EP X pins σ Q) (.ref s2.heap.objs.size) G.objs.size) { s2 with heap:=h₁,toks:=s2.toks+([]:List (Str×Value)).length }:=by
  refine wL (X:=cxC X Nc sc G.objs.size s2 H2 fp pins) (.inr ⟨kx,vx,rfl⟩) hx hc (kBD _ _ _ _ _ _ _ _ _ _) T (hg _ _ _ _ _) (hb _ _ _ _ _ _ _) I4 st4 f4 (hw _ hn) λ σ' H' s' I' q=>?_;obtain ⟨m',hm',_⟩:=I'.loc;exact ⟨m',hm',λ h' hs'=>⟨.ref s2.heap.objs.size,H',uV I2 f2 hCle I' hs',rfl,q⟩⟩
 exact zM (.inr ⟨kx,vx,rfl⟩) rfl rfl loop (T.self _ _ _ _ _ st4 loop)
theorem kHZ {X:Cx} {t:Sem PySem.Fin} {L:Code}:PTl X t L (λ _ _ _=>False):=λ _ _ _ _ _ _ h=>h.elim
theorem cH {prog:Program} {w:World} {A:Around} {E:Value->Shared->Prop} {s:Shared} {t sl:Addr} {items:Array Value} {vl vu:Value} {lo hi:Option Int} {Q:Value->Shared->Prop} (ht:IsTup s.heap t items) (hs:s.heap.IsSliceOf sl vl vu .none) (pl:IsPart vl lo) (pu:IsPart vu hi)
  (hw:HT.sIx items.size 0 lo=0/\HT.sIx items.size items.size hi=items.size) (h:Q (.ref t) s):wpAny (model prog w) A (getItem (.ref t) (.ref sl)) Q E s:=by
 obtain ⟨os,hos,hcs,hds⟩:=id hs;have hTs:s.TypeIs (.ref sl) "slice":=⟨os,hos,hcs⟩;unfold getItem
 try with_reducible refine wpAny_holding ?_
 first | refine wpAny_bind (wpAny_pure ?_) | skip
 refine wpAny_bind (wpAny_sequenceKey ht.typeIs (by decide) ?_)
 refine wpAny_bind (wpAny_callSpecial?_slot (name:=Str.ofString "__getitem__") ht.typeIs PyProof.Rows.slot_tuple_getitem
  (wpAny_call_entry PyProof.Rows.slot_tuple_getitem ht.typeIs entry_tuple_getitem ?_ (args_tuple_getitem _ _)))
 show wpAny _ _ (Builtin.Tuple.tupleItemsOf (.ref t) >>= _) _ _ s;refine wpAny_bind (tupleItemsOf_ ht ?_);refine wpAny_bind (wpAny_typeOf hTs ?_);rw [if_pos (by decide)];refine wpAny_bind (HT.sliceApplied_gen hs pl pu ?_);show wpAny _ _ (if (((HT.sIx items.size 0 lo:Nat):Int) == 0 && (1:Int) == 1 && (HT.sIx items.size items.size hi-HT.sIx items.size 0 lo) == items.size)=true then _ else _) _ _ s;rw [if_pos (by rw [hw.1,hw.2];simp)];unfold Builtin.Tuple.tupleIsExact
 first
  | refine wpAny_bind (wpAny_bind (wpAny_typeOf ht.typeIs (wpAny_pure ?_)))
  | refine wpAny_bind (wpAny_typeOf ht.typeIs (wpAny_pure ?_))
 rw [if_pos (by decide)];exact wpAny_bind (wpAny_rule (wpAny_pure ⟨_,rfl,wpAny_pure h⟩))
def kNC (K:PySem.W.Frag):V->Option Int->Option Int->Hp->VK->Prop:=λ x lo hi H Q=>∃ a xs,x=.ref a/\SqT K H a xs /\
 (HT.sIx xs.length 0 lo=0/\HT.sIx xs.length xs.length hi=xs.length)/\Q (.ref a) H
theorem kHP:SlR X (kNC X.K):=by
 intro pins s σ H x v vl vu lo hi sl Q I rx hs pl pu h;obtain ⟨a,xs,rfl,hx,hw,q⟩:=h;cases rx
 obtain ⟨its,r,ht,hz⟩:=I.tuple hx;have hlen:its.toArray.size=xs.length:=by rw [size_toArray];exact r.length.symm
 refine ⟨"tuple",_,PyProof.Rows.slot_tuple_getitem.lookup,ht.typeIs,?_⟩;exact cH ht hs pl pu (by rw [hlen];exact hw) ⟨.ref a,H,I,rfl,q⟩
def kOQ (K:PySem.W.Frag):V->Option Int->Option Int->Hp->VK->Prop:=λ x lo hi H Q=>kNB K x lo hi H Q\/kNC K x lo hi H Q
theorem bO:SlR X (kOQ X.K):=sl_tup.or kHP
theorem kDZ (hc:X.calm=true):xQ X (.builtin "min") (λ xs H Q=>∃ (a:Addr) (ns:List Int),xs=[.ref a]/\SqT X.K H a (ns.map V.int)/\0<ns.length/\∀ M,M∈ns->(∀ i∈ns,M<=i)->Q (.int M) H):=by
 intro pins s σ H xs us Q I r h;obtain ⟨a,ns,rfl,hS,hne,q⟩:=h;obtain ⟨u,rfl,r1⟩:=uL r;cases r1
 obtain ⟨its,rv,ht,hz⟩:=I.tuple hS;have hi:=fV rv;obtain ⟨xs,e⟩:=hi.allInts.items;have hns:ns=xs.toList.map (·.1):=by rw [<-hi.numsOf,<-nums_intItems,<-e]
 have hsz:0<xs.size:=by
  have h3:=hne;rw [hns,length_map,Array.length_toList] at h3;exact h3
 rw [e] at ht;have ht:s.heap.IsTuple a (intItems xs):=ht;have isz:(intItems xs).size=xs.size:=by simp [intItems]
 have la:a<s.heap.objs.size:=by obtain ⟨o,ho,_⟩:=ht;exact Heap.lt_size ho
 have hdl:X.A.in1.handled=none:=I.ok.hd hc
 refine call_min_walk (wpAny_pyIter_tuple ht ⟨s.heap.objs.size,[s.heap.objs.size,a],[s.heap.objs.size],(intItems xs).size,(λ i v=>(intItems xs)[i]?=some v),_,_,rfl,
  Walks.tuple hdl _ a (Nat.ne_of_lt la) (intItems xs),⟨?_,?_⟩,?_,(by rw [isz];exact hsz),CmpOf.ints_lt (numAt xs) (λ i v hv=>intItems_at hv),λ v h' tk hv hk=>?_⟩)
 ·exact ⟨_,Heap.get?_push_size _ rfl,rfl,rfl⟩
 ·obtain ⟨o,ho,hr⟩:=ht
  exact ⟨o,Heap.get?_push_of_some _ ho,hr⟩
 ·intro b hb
  show b<(s.heap.push _).objs.size;rw [Heap.size_push];simp only [mem_cons,List.not_mem_nil,or_false] at hb;rcases hb with rfl | rfl
  ·exact Nat.lt_succ_self _
  ·exact Nat.lt_succ_of_lt la
 ·rw [isz] at hv
  obtain ⟨t,rfl⟩:=intItems_at hv;obtain ⟨h1,h2⟩:=argBest_lt (numAt xs) (xs.size-1);refine ⟨.int _,H,I.kept (λ b o ho=>hk b o ?_ (Heap.get?_push_of_some _ ho)),⟨_,rfl⟩,q _ ?_ λ a ha=>?_⟩
  ·intro z
   rw [mem_singleton.mp z] at ho;exact absurd (Heap.lt_size ho) (Nat.lt_irrefl _)
  ·rw [hns,numAt_eq];exact getD_mem (by rw [length_map,Array.length_toList];omega)
  ·rw [hns] at ha
   obtain ⟨j,hj,rfl⟩:=mem_getD ha;rw [length_map,Array.length_toList] at hj;rw [<-numAt_eq];exact h2 j (by omega)
end
end L2
namespace Cyc
def Adj:List Nat->Nat->Nat->Prop
 | x::y::r,a,b=>(a=x/\b=y)\/Adj (y::r) a b
 | _,_,_=>False
def Nx (row:List Nat) (a b:Nat):Prop:=Adj (row++row.head?.toList) a b
theorem kCG (x a b:Nat):¬ Adj [x] a b:=id
theorem cS:∀ (l:List Nat) (x:Nat) (r:List Nat) (a b:Nat),Adj (l++x::r) a b↔Adj (l++[x]) a b\/Adj (x::r) a b
 | [],x,r,a,b=>⟨.inr,λ h=>h.elim (λ z=>(kCG x a b z).elim) id⟩
 | [y],x,r,a,b=>by
  show (a=y/\b=x)\/Adj (x::r) a b↔((a=y/\b=x)\/Adj [x] a b)\/Adj (x::r) a b;have:=kCG x a b;exact ⟨λ h=>h.elim (λ z=>.inl (.inl z)) .inr,λ h=>h.elim (λ z=>z.elim .inl λ q=>(this q).elim) .inr⟩
 | y::z::l,x,r,a,b=>by
  have ih:=cS (z::l) x r a b;show (a=y/\b=z)\/Adj (z::l++x::r) a b↔((a=y/\b=z)\/Adj (z::l++[x]) a b)\/Adj (x::r) a b;rw [ih];exact ⟨λ h=>h.elim (λ q=>.inl (.inl q)) λ q=>q.elim (λ q=>.inl (.inr q)) .inr,λ h=>h.elim (λ q=>q.elim .inl λ q=>.inr (.inl q)) λ q=>.inr (.inr q)⟩
theorem cR:∀ {l:List Nat} {a b:Nat},Adj l a b->a∈l/\b∈l.tail
 | [],_,_,h=>h.elim
 | [_],_,_,h=>h.elim
 | x::y::r,a,b,h=>by
  rcases h with ⟨rfl,rfl⟩ | h
  ·exact ⟨mem_cons_self,mem_cons_self⟩
  ·have:=cR h
   exact ⟨mem_cons_of_mem _ this.1,mem_cons_of_mem _ this.2⟩
theorem pK (x:Nat) (r:List Nat) (a b:Nat):Nx (x::r) a b↔Adj (x::r++[x]) a b:=Iff.rfl
theorem yI (A C:List Nat) (a b:Nat):Nx (A++C) a b↔Nx (C++A) a b:=by
 cases A with
 | nil=>rw [nil_append,append_nil]
 | cons a0 A' =>
  cases C with
  | nil=>rw [nil_append,append_nil]
  | cons c0 C' =>
   have e1:Nx (a0::A'++c0::C') a b↔Adj ((a0::A')++c0::(C'++[a0])) a b:=by
    show Adj ((a0::A'++c0::C')++[a0]) a b↔_;rw [append_assoc];exact Iff.rfl
   have e2:Nx (c0::C'++a0::A') a b↔Adj ((c0::C')++a0::(A'++[c0])) a b:=by
    show Adj ((c0::C'++a0::A')++[c0]) a b↔_;rw [append_assoc];exact Iff.rfl
   rw [e1,e2,cS (a0::A') c0,cS (c0::C') a0];exact Or.comm
theorem vA (v:Nat) (R:List Nat) (a b:Nat):Nx (v::R) a b↔(a=v/\b=(R++[v]).headD 0)\/Adj (R++[v]) a b:=by
 rw [pK]
 cases R with
 | nil=>exact Iff.rfl
 | cons y r=>exact Iff.rfl
theorem zW:∀ {R:List Nat} {v a b:Nat},v∉R->Adj (R++[v]) a b->a≠v
 | [],_,_,_,_,h=>h.elim
 | x::r,v,a,b,hv,h=>by
  have hv':v∉r:=λ z=>hv (mem_cons_of_mem _ z);have hx:x≠v:=λ z=>hv (by rw [z];exact mem_cons_self)
  cases r with
  | nil =>
   rcases h with ⟨rfl,_⟩ | h
   ·exact hx
   ·exact h.elim
  | cons y r' =>
   rcases h with ⟨rfl,_⟩ | h
   ·exact hx
   ·exact zW hv' h
theorem kLI {A B:List Nat} {v w:Nat} (nd:(A++v::B).Nodup) (hw:w∉A++v::B) (a b:Nat) :
  Nx (A++v::w::B) a b↔(a=v/\b=w)\/(a=w/\Nx (A++v::B) v b)\/(a≠v/\Nx (A++v::B) a b):=by
 rw [yI A (v::w::B),yI A (v::B),yI A (v::B)];simp only [cons_append]
 have nv:v∉B++A:=λ z=>by
  rw [nodup_append] at nd;rcases mem_append.mp z with z | z
  ·exact (nodup_cons.mp nd.2.1).1 z
  ·exact nd.2.2 v z v mem_cons_self rfl
 have nw:w≠v:=λ z=>hw (by rw [z];simp);generalize hR:B++A=R at nv;rw [vA,vA,vA];have e1:(w::R++[v]).headD 0=w:=rfl
 have e2:Adj (w::R++[v]) a b↔(a=w/\b=(R++[v]).headD 0)\/Adj (R++[v]) a b:=by
  cases R with
  | nil=>exact Iff.rfl
  | cons y r=>exact Iff.rfl
 rw [e1,e2];constructor
 ·rintro (h | h | h)
  ·exact .inl h
  ·exact .inr (.inl ⟨h.1,.inl ⟨rfl,h.2⟩⟩)
  ·exact .inr (.inr ⟨zW nv h,.inr h⟩)
 ·rintro (h | ⟨h,h'⟩ | ⟨h,h'⟩)
  ·exact .inl h
  ·rcases h' with ⟨_,z⟩ | z
   ·exact .inr (.inl ⟨h,z⟩)
   ·exact (zW nv z rfl).elim
  ·rcases h' with ⟨z,_⟩ | z
   ·exact (h z).elim
   ·exact .inr (.inr z)
theorem fG:∀ {l:List Nat} {a a' b:Nat},l.tail.Nodup->Adj l a b->Adj l a' b->a=a'
 | [],_,_,_,_,h,_=>h.elim
 | [_],_,_,_,_,h,_=>h.elim
 | x::y::r,a,a',b,nd,h,h'=>by
  have nd':(y::r).Nodup:=nd;rcases h with ⟨rfl,rfl⟩ | h
  ·rcases h' with ⟨rfl,_⟩ | h'
   ·rfl
   ·exact ((nodup_cons.mp nd').1 (cR h').2).elim
  ·rcases h' with ⟨rfl,rfl⟩ | h'
   ·exact ((nodup_cons.mp nd').1 (cR h).2).elim
   ·exact fG (l:=y::r) (nodup_cons.mp nd').2 h h'
theorem wO {row:List Nat} {v:Nat} (h:v∈row):∃ A B,row=A++v::B:=List.append_of_mem h
theorem aH {A B:List Nat} {v:Nat} (nd:(A++v::B).Nodup):v∉B++A/\(B++A).Nodup:=by
 rw [nodup_append] at nd;obtain ⟨n1,n2,n3⟩:=nd;obtain ⟨n4,n5⟩:=nodup_cons.mp n2;refine ⟨λ z=>?_,?_⟩
 ·rcases mem_append.mp z with z | z
  ·exact n4 z
  ·exact n3 v z v mem_cons_self rfl
 ·rw [nodup_append]
  exact ⟨n5,n1,λ a ha b hb e=>n3 b hb a (mem_cons_of_mem _ ha) e.symm⟩
theorem kW {row:List Nat} {a b:Nat} (h:Nx row a b):a∈row/\b∈row:=by
 cases row with
 | nil=>exact h.elim
 | cons x r =>
  have q:=cR h;constructor
  ·rcases mem_append.mp q.1 with z | z
   ·exact z
   ·exact mem_cons.mpr (.inl (by simpa using z))
  ·rcases mem_append.mp q.2 with z | z
   ·exact mem_cons_of_mem _ z
   ·exact mem_cons.mpr (.inl (by simpa using z))
theorem zT {row:List Nat} {a b b':Nat} (nd:row.Nodup) (h:Nx row a b) (h':Nx row a b'):b=b':=by
 obtain ⟨A,B,rfl⟩:=wO (kW h).1;rw [yI] at h h';simp only [cons_append] at h h';obtain ⟨n1,n2⟩:=aH nd;rw [vA] at h h';rcases h with ⟨_,rfl⟩ | h
 ·rcases h' with ⟨_,rfl⟩ | h'
  ·rfl
  ·exact (zW n1 h' rfl).elim
 ·exact (zW n1 h rfl).elim
theorem wB {row:List Nat} {a a' b:Nat} (nd:row.Nodup) (h:Nx row a b) (h':Nx row a' b):a=a':=by
 obtain ⟨A,B,rfl⟩:=wO (kW h).2;rw [yI] at h h';simp only [cons_append] at h h';obtain ⟨n1,n2⟩:=aH nd;rw [pK] at h h';refine fG ?_ h h';show (B++A++[b]).Nodup;rw [nodup_append];exact ⟨n2,by simp,λ x hx y hy e=>n1 (by simp at hy;rw [<-hy,<-e];exact hx)⟩
theorem kGB {A B:List Nat} {q:Nat} (nd:(A++q::B).Nodup) (a b:Nat) :
  Nx (A++B) a b↔(a≠q/\b≠q/\Nx (A++q::B) a b)\/(a≠q/\b≠q/\Nx (A++q::B) a q/\Nx (A++q::B) q b):=by
 rw [yI A B,yI A (q::B),yI A (q::B),yI A (q::B)];simp only [cons_append];obtain ⟨n1,n2⟩:=aH nd;generalize B++A=R at n1 n2;clear nd
 cases R with
 | nil =>
  constructor
  ·intro h;exact h.elim
  ·rintro (⟨h1,h2,h3⟩ | ⟨h1,h2,h3,_⟩)
   ·rcases h3 with ⟨z,_⟩ | z
    ·exact (h1 z).elim
    ·exact z.elim
   ·rcases h3 with ⟨z,_⟩ | z
    ·exact (h1 z).elim
    ·exact z.elim
 | cons x T =>
  rw [vA q (x::T) a b,vA q (x::T) a q,vA q (x::T) q b,pK x T];have hx:(x::T++[q]).headD 0=x:=rfl;rw [hx]
  have xq:x≠q:=λ z=>n1 (by rw [z];exact mem_cons_self)
  have key:∀ (T:List Nat) (x z a b:Nat),Adj (x::T++[z]) a b↔Adj (x::T) a b\/(a=(x::T).getLast (by simp)/\b=z):=by
   intro T
   induction T with
   | nil=>intro x z a b;exact ⟨λ h=>h.elim .inr λ q=>q.elim,λ h=>h.elim (λ q=>q.elim) .inl⟩
   | cons y r ih =>
    intro x z a b;show (a=x/\b=y)\/Adj (y::r++[z]) a b↔((a=x/\b=y)\/Adj (y::r) a b)\/_;rw [ih y z a b,List.getLast_cons (List.cons_ne_nil y r)];exact or_assoc.symm
  rw [key T x x,key T x q,key T x q,key T x q]
  have mem:∀ {c d},Adj (x::T) c d->c≠q/\d≠q:=λ {c d} h=>by
   have:=cR h;exact ⟨λ z=>n1 (z ▸ this.1),λ z=>n1 (z ▸ mem_cons_of_mem _ this.2)⟩
  have lq:(x::T).getLast (by simp)≠q:=λ z=>n1 (z ▸ List.getLast_mem _);constructor
  ·rintro (h | ⟨h1,h2⟩)
   ·exact .inl ⟨(mem h).1,(mem h).2,.inr (.inl h)⟩
   ·refine .inr ⟨by rw [h1];exact lq,by rw [h2];exact xq,.inr (.inr ⟨h1,rfl⟩),.inl ⟨rfl,h2⟩⟩
  ·rintro (⟨h1,h2,h3⟩ | ⟨h1,h2,h3,h4⟩)
   ·rcases h3 with ⟨z,_⟩ | z | ⟨_,z⟩
    ·exact (h1 z).elim
    ·exact .inl z
    ·exact (h2 z).elim
   ·have e1:a=(x::T).getLast (by simp):=by
     rcases h3 with ⟨z,_⟩ | z | ⟨z,_⟩
     ·exact (h1 z).elim
     ·exact ((mem z).2 rfl).elim
     ·exact z
    have e2:b=x:=by
     rcases h4 with ⟨_,z⟩ | z | ⟨z,_⟩
     ·exact z
     ·exact ((mem z).1 rfl).elim
     ·exact (lq z.symm).elim
    exact .inr ⟨e1,e2⟩
end Cyc
namespace Tri
open Cyc
abbrev Rows:=List (List Nat)
def R (L:Rows) (q a b:Nat):Prop:=∃ row,L[q]?=some row/\Nx row a b
def E (L:Rows) (a b:Nat):Prop:=∃ row,L[a]?=some row/\b∈row
inductive Reach (L:Rows):Nat->Nat->Prop
 | here (a:Nat):Reach L a a
 | more {a b c:Nat}:Reach L a b->E L b c->Reach L a c
theorem Reach.trans {L:Rows} {a b c:Nat} (h:Reach L a b) (h':Reach L b c):Reach L a c:=by
 induction h' with
 | here=>exact h
 | more _ e ih=>exact .more ih e
theorem Reach.by {L L':Rows} (h:∀ a b,E L a b->Reach L' a b) {a b:Nat} (r:Reach L a b):Reach L' a b:=by
 induction r with
 | here=>exact .here _
 | more _ e ih=>exact ih.trans (h _ _ e)
structure Good (L:Rows):Prop where
 three:3<=L.length
 ne:∀ (p:Nat) (row:List Nat),L[p]?=some row->row≠[]
 nd:∀ (p:Nat) (row:List Nat),L[p]?=some row->row.Nodup
 rng:∀ (p:Nat) (row:List Nat) (a:Nat),L[p]?=some row->a∈row->a<L.length/\a≠p
 tri:∀ q a b,R L q a b->R L a b q
 con:∀ p,p<L.length->Reach L 0 p
 tot:(L.map List.length).sum+12=6*L.length
theorem gS {L:Rows} {p:Nat} {row:List Nat} (hp:p<L.length) (x a b:Nat):R (L.set p row) x a b↔(x=p/\Nx row a b)\/(x≠p/\R L x a b):=by
 unfold R;by_cases h:x=p
 ·subst h
  simp [List.getElem?_set_self hp]
 ·simp [List.getElem?_set_ne (Ne.symm h),h]
theorem kMY {L:Rows} {row:List Nat} (x a b:Nat):R (L++[row]) x a b↔R L x a b\/(x=L.length/\Nx row a b):=by
 unfold R;rcases Nat.lt_trichotomy x L.length with h | h | h
 ·rw [List.getElem?_append_left h]
  constructor
  ·exact .inl
  ·rintro (z | ⟨z,_⟩)
   ·exact z
   ·omega
 ·subst h
  rw [List.getElem?_append_right (Nat.le_refl _),List.getElem?_eq_none (Nat.le_refl _)];simp
 ·rw [List.getElem?_eq_none (by simp;omega),List.getElem?_eq_none (by omega)]
  constructor
  ·rintro ⟨_,z,_⟩;cases z
  ·rintro (⟨_,z,_⟩ | ⟨z,_⟩)
   ·cases z
   ·omega
theorem vJ {L:Rows} {q a b:Nat} (h:R L q a b):E L q a/\E L q b:=by
 obtain ⟨row,e,n⟩:=h;exact ⟨⟨row,e,(kW n).1⟩,⟨row,e,(kW n).2⟩⟩
theorem yW {L:Rows} (G:Good L) {q a b b':Nat} (h:R L q a b) (h':R L q a b'):b=b':=by
 obtain ⟨row,e,n⟩:=h;obtain ⟨row',e',n'⟩:=h';rw [e] at e'
 cases e'
 exact zT (G.nd q row e) n n'
theorem kFM {L:Rows} (G:Good L) {q a a' b:Nat} (h:R L q a b) (h':R L q a' b):a=a':=by
 obtain ⟨row,e,n⟩:=h;obtain ⟨row',e',n'⟩:=h';rw [e] at e'
 cases e'
 exact wB (G.nd q row e) n n'
theorem vP {L:Rows} (G:Good L) {q a b:Nat} (h:R L q a b):q<L.length/\a<L.length/\b<L.length/\a≠q/\b≠q:=by
 obtain ⟨row,e,n⟩:=h;have m:=kW n;have:=G.rng q row a e m.1;have:=G.rng q row b e m.2;have:q<L.length:=(List.getElem?_eq_some_iff.mp e).1;omega
theorem kNM {row:List Nat} {b:Nat} (h:b∈row):∃ a,Nx row a b:=by
 obtain ⟨A,B,rfl⟩:=wO h
 have key:∀ (R:List Nat),∃ a,Nx (b::R) a b:=by
  intro R
  cases R with
  | nil=>exact ⟨b,.inl ⟨rfl,rfl⟩⟩
  | cons y r =>
   have:∀ (r:List Nat) (y:Nat),∃ a,Adj (y::r++[b]) a b:=by
    intro r
    induction r with
    | nil=>intro y;exact ⟨y,.inl ⟨rfl,rfl⟩⟩
    | cons z r ih=>intro y;obtain ⟨a,q⟩:=ih z;exact ⟨a,.inr q⟩
   obtain ⟨a,q⟩:=this r y;exact ⟨a,.inr q⟩
 obtain ⟨a,q⟩:=key (B++A);exact ⟨a,(yI A (b::B) a b).mpr q⟩
theorem pJ {row:List Nat} {a:Nat} (h:a∈row):∃ b,Nx row a b:=by
 obtain ⟨A,B,rfl⟩:=wO h;refine ⟨(B++A++[a]).headD 0,(yI A (a::B) _ _).mpr ?_⟩;exact (vA a (B++A) a _).mpr (.inl ⟨rfl,rfl⟩)
theorem Good.sym {L:Rows} (G:Good L) {a b:Nat} (h:E L a b):E L b a:=by
 obtain ⟨row,e,m⟩:=h;obtain ⟨c,n⟩:=pJ m;have:=G.tri a b c ⟨row,e,n⟩;exact (vJ this).2
def qF (row:List Nat) (v w:Nat):List Nat:=row.take (row.idxOf v+1)++w::row.drop (row.idxOf v+1)
def qB (row:List Nat) (q:Nat):List Nat:=row.eraseIdx (row.idxOf q)
theorem dN {A B:List Nat} {v:Nat} (h:v∉A):(A++v::B).idxOf v=A.length:=by
 rw [List.idxOf_append,if_neg h];simp
theorem xM {row:List Nat} {v:Nat} (h:v∈row) (nd:row.Nodup):∃ A B,row=A++v::B/\v∉A/\v∉B:=by
 obtain ⟨A,B,rfl⟩:=wO h;have q:=aH nd;exact ⟨A,B,rfl,λ z=>q.1 (mem_append_right _ z),λ z=>q.1 (mem_append_left _ z)⟩
theorem fY {A B:List Nat} {v w:Nat} (h:v∉A):qF (A++v::B) v w=A++v::w::B:=by
 unfold qF;rw [dN h];have e:A++v::B=(A++[v])++B:=by simp
 rw [e,List.take_left' (by simp),List.drop_left' (by simp)];simp
theorem cL {A B:List Nat} {q:Nat} (h:q∉A):qB (A++q::B) q=A++B:=by
 unfold qB;rw [dN h,List.eraseIdx_append_of_length_le (Nat.le_refl _)];simp
theorem jJ {row:List Nat} {v w:Nat} (h:v∈row):(qF row v w).length=row.length+1:=by
 unfold qF;simp only [length_append,length_take,length_cons,length_drop];have:=idxOf_lt_length_of_mem h;omega
theorem cK {row:List Nat} {q:Nat} (h:q∈row):(qB row q).length+1=row.length:=by
 unfold qB;have:=idxOf_lt_length_of_mem h;rw [List.length_eraseIdx_of_lt this];omega
theorem jI {row:List Nat} {v w x:Nat} (h:v∈row) (nd:row.Nodup):x∈qF row v w↔x∈row\/x=w:=by
 obtain ⟨A,B,rfl,hA,hB⟩:=xM h nd;rw [fY hA];simp only [mem_append,mem_cons]
 grind
theorem vT {row:List Nat} {q x:Nat} (h:q∈row) (nd:row.Nodup):x∈qB row q↔x∈row/\x≠q:=by
 obtain ⟨A,B,rfl,hA,hB⟩:=xM h nd;rw [cL hA];simp only [mem_append,mem_cons]
 grind
theorem zA {row:List Nat} {v w:Nat} (h:v∈row) (nd:row.Nodup) (hw:w∉row):(qF row v w).Nodup:=by
 obtain ⟨A,B,rfl,hA,hB⟩:=xM h nd;rw [fY hA];simp only [nodup_append,nodup_cons,mem_cons,mem_append] at nd hw ⊢
 grind
theorem fZ {row:List Nat} {q:Nat} (h:q∈row) (nd:row.Nodup):(qB row q).Nodup:=by
 obtain ⟨A,B,rfl,hA,hB⟩:=xM h nd;rw [cL hA];simp only [nodup_append,nodup_cons,mem_cons] at nd ⊢
 grind
theorem aL {row:List Nat} {v w:Nat} (h:v∈row) (nd:row.Nodup) (hw:w∉row) (a b:Nat):Nx (qF row v w) a b↔(a=v/\b=w)\/(a=w/\Nx row v b)\/(a≠v/\Nx row a b):=by
 obtain ⟨A,B,rfl,hA,hB⟩:=xM h nd;rw [fY hA];exact kLI nd hw a b
theorem kBO {row:List Nat} {q:Nat} (h:q∈row) (nd:row.Nodup) (a b:Nat):Nx (qB row q) a b↔(a≠q/\b≠q/\Nx row a b)\/(a≠q/\b≠q/\Nx row a q/\Nx row q b):=by
 obtain ⟨A,B,rfl,hA,hB⟩:=xM h nd;rw [cL hA];exact kGB nd a b
theorem yV:∀ (L:Rows) (p:Nat) (row new:List Nat),L[p]?=some row->((L.set p new).map List.length).sum+row.length=(L.map List.length).sum+new.length
 | [],p,row,new,h=>by simp at h
 | x::r,0,row,new,h=>by
  simp at h;subst h;simp;omega
 | x::r,p+1,row,new,h=>by
  simp at h;have q:=yV r p row new h;simp only [List.set_cons_succ,map_cons,List.sum_cons];omega
def bH (L:Rows) (p q r:Nat) (rp rq rr:List Nat):Rows :=
 ((L.set p (qF rp q L.length)).set q (qF rq r L.length)).set r (qF rr p L.length)++[[p,q,r]]
theorem nx3 (p q r a b:Nat):Nx [p,q,r] a b↔(a=p/\b=q)\/(a=q/\b=r)\/(a=r/\b=p):=by
 show ((a=p/\b=q)\/(a=q/\b=r)\/(a=r/\b=p)\/False)↔_;simp
theorem vC {L:Rows} {p:Nat} {new:List Nat} (hp:p<L.length) {x:Nat} {row:List Nat} (h:(L.set p new)[x]?=some row):(x=p/\row=new)\/(x≠p/\L[x]?=some row):=by
 by_cases e:x=p
 ·subst e
  rw [List.getElem?_set_self hp] at h;exact .inl ⟨rfl,(Option.some.inj h).symm⟩
 ·rw [List.getElem?_set_ne (Ne.symm e)] at h
  exact .inr ⟨e,h⟩
theorem mB {L:Rows} {p:Nat} {new:List Nat} (hp:p<L.length) (x b:Nat):E (L.set p new) x b↔(x=p/\b∈new)\/(x≠p/\E L x b):=by
 unfold E;by_cases h:x=p
 ·subst h
  simp [List.getElem?_set_self hp]
 ·simp [List.getElem?_set_ne (Ne.symm h),h]
theorem kMB {L:Rows} {row:List Nat} {x b:Nat} (h:E L x b):E (L++[row]) x b:=by
 obtain ⟨r,e,m⟩:=h;exact ⟨r,by rw [List.getElem?_append_left (List.getElem?_eq_some_iff.mp e).1];exact e,m⟩
section
variable {L:Rows} {p q r:Nat} {rp rq rr:List Nat}
theorem kHF (G:Good L) (hp:L[p]?=some rp) (hq:L[q]?=some rq) (hr:L[r]?=some rr) (f:Nx rq r p):Good (bH L p q r rp rq rr):=by
 have Fq:R L q r p:=⟨rq,hq,f⟩;have Fr:R L r p q:=G.tri _ _ _ Fq;have Fp:R L p q r:=G.tri _ _ _ Fr;have fr:Nx rr p q:=by obtain ⟨x,e,n⟩:=Fr;rw [hr] at e;cases e;exact n
 have fp:Nx rp q r:=by obtain ⟨x,e,n⟩:=Fp;rw [hp] at e;cases e;exact n
 obtain ⟨lq,lr,lp,rq1,pq1⟩:=vP G Fq;obtain ⟨-,-,-,pr1,-⟩:=vP G Fr;have np:=G.nd p rp hp;have nq:=G.nd q rq hq;have nr:=G.nd r rr hr;have vp:L.length∉rp:=λ z=>Nat.lt_irrefl _ (G.rng p rp _ hp z).1;have vq:L.length∉rq:=λ z=>Nat.lt_irrefl _ (G.rng q rq _ hq z).1;have vr:L.length∉rr:=λ z=>Nat.lt_irrefl _ (G.rng r rr _ hr z).1;have mp:=(kW fp).1;have mq:=(kW f).1;have mr:=(kW fr).1;have l1:p<L.length:=lp;have l2:q<(L.set p (qF rp q L.length)).length:=by simpa using lq
 have l3:r<((L.set p (qF rp q L.length)).set q (qF rq r L.length)).length:=by simpa using lr
 have len:(bH L p q r rp rq rr).length=L.length+1:=by simp [bH]
 have lenv:(((L.set p (qF rp q L.length)).set q (qF rq r L.length)).set r (qF rr p L.length)).length=L.length:=by simp
 have look:∀ (x:Nat) (row:List Nat),(bH L p q r rp rq rr)[x]?=some row->(x=L.length/\row=[p,q,r])\/(x=r/\row=qF rr p L.length)\/(x=q/\row=qF rq r L.length)\/(x=p/\row=qF rp q L.length)\/(x≠p/\x≠q/\x≠r/\L[x]?=some row):=by
  intro x row h;unfold bH at h;by_cases hx:x<L.length
  ·rw [List.getElem?_append_left (by rw [lenv];exact hx)] at h
   rcases vC l3 h with z | ⟨n3,h⟩
   ·exact .inr (.inl z)
   ·rcases vC l2 h with z | ⟨n2,h⟩
    ·exact .inr (.inr (.inl z))
    ·rcases vC l1 h with z | ⟨n1,h⟩
     ·exact .inr (.inr (.inr (.inl z)))
     ·exact .inr (.inr (.inr (.inr ⟨n1,n2,n3,h⟩)))
  ·rw [List.getElem?_append_right (by rw [lenv];omega),lenv] at h
   have:x-L.length=0:=by
    rcases Nat.eq_zero_or_pos (x-L.length) with z | z
    ·exact z
    ·rw [List.getElem?_eq_none (by simp;omega)] at h;cases h
   rw [this] at h;exact .inl ⟨by omega,(Option.some.inj h).symm⟩
 have rel:∀ x a b,R (bH L p q r rp rq rr) x a b↔(x=L.length/\((a=p/\b=q)\/(a=q/\b=r)\/(a=r/\b=p)))\/(x=r/\((a=p/\b=L.length)\/(a=L.length/\b=q)\/(a≠p/\R L r a b)))\/(x=q/\((a=r/\b=L.length)\/(a=L.length/\b=p)\/(a≠r/\R L q a b)))\/(x=p/\((a=q/\b=L.length)\/(a=L.length/\b=r)\/(a≠q/\R L p a b)))\/(x≠p/\x≠q/\x≠r/\R L x a b):=by
  intro x a b;have e1:Nx rp q b↔b=r:=⟨λ z=>zT np z fp,λ z=>z ▸ fp⟩;have e2:Nx rq r b↔b=p:=⟨λ z=>zT nq z f,λ z=>z ▸ f⟩;have e3:Nx rr p b↔b=q:=⟨λ z=>zT nr z fr,λ z=>z ▸ fr⟩;have g1:R L p a b↔Nx rp a b:=⟨λ ⟨z,e,n⟩=>by rw [hp] at e;cases e;exact n,λ n=>⟨rp,hp,n⟩⟩;have g2:R L q a b↔Nx rq a b:=⟨λ ⟨z,e,n⟩=>by rw [hq] at e;cases e;exact n,λ n=>⟨rq,hq,n⟩⟩;have g3:R L r a b↔Nx rr a b:=⟨λ ⟨z,e,n⟩=>by rw [hr] at e;cases e;exact n,λ n=>⟨rr,hr,n⟩⟩;unfold bH;rw [kMY,gS l3,gS l2,gS l1,aL mp np vp,aL mq nq vq,aL mr nr vr,nx3,lenv,e1,e2,e3,g1,g2,g3];have no:¬ R L L.length a b:=λ z=>by have:=vP G z;omega
  clear Fq Fr Fp fr fp np nq nr vp vq vr mp mq mr l1 l2 l3 len lenv look hp hq hr f e1 e2 e3 g1 g2 g3 G;by_cases x0:x=L.length
  ·subst x0
   have n1:¬ L.length=p:=Nat.ne_of_gt lp;have n2:¬ L.length=q:=Nat.ne_of_gt lq;have n3:¬ L.length=r:=Nat.ne_of_gt lr;simp only [n1,n2,n3,no,ne_eq,not_false_eq_true,false_and,true_and,and_false,or_false,false_or,not_true_eq_false]
  ·by_cases x3:x=r
   ·subst x3
    have n1:¬ x=q:=rq1;have n2:¬ x=p:=λ z=>pr1 z.symm;simp only [x0,n1,n2,ne_eq,not_false_eq_true,false_and,true_and,and_false,or_false,false_or,not_true_eq_false]
   ·by_cases x2:x=q
    ·subst x2
     have n2:¬ x=p:=λ z=>pq1 z.symm;simp only [x0,x3,n2,ne_eq,not_false_eq_true,false_and,true_and,and_false,or_false,false_or,not_true_eq_false]
    ·by_cases x1:x=p
     ·subst x1
      simp only [x0,x3,x2,ne_eq,not_false_eq_true,false_and,true_and,and_false,or_false,false_or,not_true_eq_false]
     ·simp only [x0,x3,x2,x1,ne_eq,not_false_eq_true,false_and,true_and,and_false,or_false,false_or,not_true_eq_false]
 have v1:L.length≠p:=Nat.ne_of_gt lp;have v2:L.length≠q:=Nat.ne_of_gt lq
 have v3:L.length≠r:=Nat.ne_of_gt lr
 have oldT:∀ x a b,R L x a b->¬ (x=p/\a=q)->¬ (x=q/\a=r)->¬ (x=r/\a=p)->R (bH L p q r rp rq rr) x a b:=by
  intro x a b h h1 h2 h3;rw [rel];clear Fq Fr Fp fr fp lq lr lp rq1 pq1 pr1 np nq nr vp vq vr mp mq mr l1 l2 l3 len lenv look hp hq hr f rel G v1 v2 v3;by_cases x3:x=r
  ·subst x3;exact .inr (.inl ⟨rfl,.inr (.inr ⟨λ z=>h3 ⟨rfl,z⟩,h⟩)⟩)
  ·by_cases x2:x=q
   ·subst x2;exact .inr (.inr (.inl ⟨rfl,.inr (.inr ⟨λ z=>h2 ⟨rfl,z⟩,h⟩)⟩))
   ·by_cases x1:x=p
    ·subst x1;exact .inr (.inr (.inr (.inl ⟨rfl,.inr (.inr ⟨λ z=>h1 ⟨rfl,z⟩,h⟩)⟩)))
    ·exact .inr (.inr (.inr (.inr ⟨x1,x2,x3,h⟩)))
 have oldTri:∀ x a b,R L x a b->¬ (x=p/\a=q)->¬ (x=q/\a=r)->¬ (x=r/\a=p)->R (bH L p q r rp rq rr) a b x:=by
  intro x a b h h1 h2 h3;have h':=G.tri _ _ _ h;clear fr fp lq lr lp rq1 pq1 pr1 np nq nr vp vq vr mp mq mr l1 l2 l3 len lenv look hp hq hr f rel v1 v2 v3;refine oldT _ _ _ h' (λ z=>?_) (λ z=>?_) (λ z=>?_)
  ·obtain ⟨rfl,rfl⟩:=z
   exact h3 ⟨yW G h' Fp,rfl⟩
  ·obtain ⟨rfl,rfl⟩:=z
   exact h1 ⟨yW G h' Fq,rfl⟩
  ·obtain ⟨rfl,rfl⟩:=z
   exact h2 ⟨yW G h' Fr,rfl⟩
 have newR:∀ x a b,((x=L.length/\((a=p/\b=q)\/(a=q/\b=r)\/(a=r/\b=p)))\/(x=r/\((a=p/\b=L.length)\/(a=L.length/\b=q)))\/(x=q/\((a=r/\b=L.length)\/(a=L.length/\b=p)))\/(x=p/\((a=q/\b=L.length)\/(a=L.length/\b=r))))->R (bH L p q r rp rq rr) x a b:=by
  intro x a b h;rw [rel];rcases h with h | ⟨h,h' | h'⟩ | ⟨h,h' | h'⟩ | ⟨h,h' | h'⟩
  ·exact .inl h
  ·exact .inr (.inl ⟨h,.inl h'⟩)
  ·exact .inr (.inl ⟨h,.inr (.inl h')⟩)
  ·exact .inr (.inr (.inl ⟨h,.inl h'⟩))
  ·exact .inr (.inr (.inl ⟨h,.inr (.inl h')⟩))
  ·exact .inr (.inr (.inr (.inl ⟨h,.inl h'⟩)))
  ·exact .inr (.inr (.inr (.inl ⟨h,.inr (.inl h')⟩)))
 have edge:∀ a b,E L a b->E (bH L p q r rp rq rr) a b:=by
  intro a b h;unfold bH;refine kMB ?_;rw [mB l3,mB l2,mB l1,jI mp np,jI mq nq,jI mr nr];obtain ⟨row,e,m⟩:=h;clear Fq Fr Fp fr fp lq lr lp rq1 pq1 pr1 np nq nr vp vq vr mp mq mr l1 l2 l3 len lenv look f rel oldT oldTri newR G v1 v2 v3;by_cases x3:a=r
  ·subst x3;rw [hr] at e;cases e;exact .inl ⟨rfl,.inl m⟩
  ·by_cases x2:a=q
   ·subst x2;rw [hq] at e;cases e;exact .inr ⟨x3,.inl ⟨rfl,.inl m⟩⟩
   ·by_cases x1:a=p
    ·subst x1;rw [hp] at e;cases e;exact .inr ⟨x3,.inr ⟨x2,.inl ⟨rfl,.inl m⟩⟩⟩
    ·exact .inr ⟨x3,.inr ⟨x2,.inr ⟨x1,row,e,m⟩⟩⟩
 refine ⟨by rw [len];have:=G.three;omega,?_,?_,?_,?_,?_,?_⟩
 ·intro x row h
  rcases look x row h with ⟨_,rfl⟩ | ⟨_,rfl⟩ | ⟨_,rfl⟩ | ⟨_,rfl⟩ | ⟨_,_,_,h⟩
  ·simp
  ·intro z;have:=jJ (w:=L.length) mr;rw [z] at this;simp at this
  ·intro z;have:=jJ (w:=L.length) mq;rw [z] at this;simp at this
  ·intro z;have:=jJ (w:=L.length) mp;rw [z] at this;simp at this
  ·exact G.ne _ _ h
 ·intro x row h
  rcases look x row h with ⟨_,rfl⟩ | ⟨_,rfl⟩ | ⟨_,rfl⟩ | ⟨_,rfl⟩ | ⟨_,_,_,h⟩
  ·simp only [nodup_cons,mem_cons,List.not_mem_nil,or_false,nodup_nil,and_true,not_false_eq_true]
   exact ⟨λ z=>z.elim pq1 pr1,λ z=>rq1 z.symm⟩
  ·exact zA mr nr vr
  ·exact zA mq nq vq
  ·exact zA mp np vp
  ·exact G.nd _ _ h
 ·intro x row a h m
  rw [len]
  replace h:=look x row h
  clear Fq Fr Fp fr fp vp vq vr l1 l2 l3 len lenv look f rel oldT oldTri newR edge;rcases h with ⟨rfl,rfl⟩ | ⟨rfl,rfl⟩ | ⟨rfl,rfl⟩ | ⟨rfl,rfl⟩ | ⟨_,_,_,h⟩
  ·simp only [mem_cons,List.not_mem_nil,or_false] at m
   clear rq1 pq1 pr1 v1 v2 v3;omega
  ·rcases (jI mr nr).mp m with z | z
   ·have:=G.rng _ _ _ hr z
    exact ⟨Nat.lt_succ_of_lt this.1,this.2⟩
   ·subst z
    exact ⟨Nat.lt_succ_self _,Nat.ne_of_gt lr⟩
  ·rcases (jI mq nq).mp m with z | z
   ·have:=G.rng _ _ _ hq z
    exact ⟨Nat.lt_succ_of_lt this.1,this.2⟩
   ·subst z
    exact ⟨Nat.lt_succ_self _,Nat.ne_of_gt lq⟩
  ·rcases (jI mp np).mp m with z | z
   ·have:=G.rng _ _ _ hp z
    exact ⟨Nat.lt_succ_of_lt this.1,this.2⟩
   ·subst z
    exact ⟨Nat.lt_succ_self _,Nat.ne_of_gt lp⟩
  ·have:=G.rng _ _ _ h m
   exact ⟨Nat.lt_succ_of_lt this.1,this.2⟩
 ·intro x a b h
  rw [rel] at h;clear Fq Fr Fp fr fp lq lr lp np nq nr vp vq vr mp mq mr l1 l2 l3 len lenv look hp hq hr f rel oldT edge G v1 v2 v3;rcases h with ⟨rfl,⟨rfl,rfl⟩ | ⟨rfl,rfl⟩ | ⟨rfl,rfl⟩⟩ | ⟨rfl,⟨rfl,rfl⟩ | ⟨rfl,rfl⟩ | ⟨h,h'⟩⟩ | ⟨rfl,⟨rfl,rfl⟩ | ⟨rfl,rfl⟩ | ⟨h,h'⟩⟩ | ⟨rfl,⟨rfl,rfl⟩ | ⟨rfl,rfl⟩ | ⟨h,h'⟩⟩ | ⟨h1,h2,h3,h'⟩
  ·exact newR _ _ _ (.inr (.inr (.inr ⟨rfl,.inl ⟨rfl,rfl⟩⟩)))
  ·exact newR _ _ _ (.inr (.inr (.inl ⟨rfl,.inl ⟨rfl,rfl⟩⟩)))
  ·exact newR _ _ _ (.inr (.inl ⟨rfl,.inl ⟨rfl,rfl⟩⟩))
  ·exact newR _ _ _ (.inr (.inr (.inr ⟨rfl,.inr ⟨rfl,rfl⟩⟩)))
  ·exact newR _ _ _ (.inl ⟨rfl,.inr (.inl ⟨rfl,rfl⟩)⟩)
  ·exact oldTri _ _ _ h' (λ z=>pr1 z.1.symm) (λ z=>rq1 z.1) λ z=>h z.2
  ·exact newR _ _ _ (.inr (.inl ⟨rfl,.inr ⟨rfl,rfl⟩⟩))
  ·exact newR _ _ _ (.inl ⟨rfl,.inl ⟨rfl,rfl⟩⟩)
  ·exact oldTri _ _ _ h' (λ z=>pq1 z.1.symm) (λ z=>h z.2) λ z=>rq1 z.1.symm
  ·exact newR _ _ _ (.inr (.inr (.inl ⟨rfl,.inr ⟨rfl,rfl⟩⟩)))
  ·exact newR _ _ _ (.inl ⟨rfl,.inr (.inr ⟨rfl,rfl⟩)⟩)
  ·exact oldTri _ _ _ h' (λ z=>h z.2) (λ z=>pq1 z.1) λ z=>pr1 z.1
  ·exact oldTri _ _ _ h' (λ z=>h1 z.1) (λ z=>h2 z.1) λ z=>h3 z.1
 ·intro x hx
  rw [len] at hx;by_cases h:x=L.length
  ·subst h
   refine .more ((G.con p lp).by λ a b e=>.more (.here _) (edge a b e)) ?_;exact (vJ (newR p q L.length (.inr (.inr (.inr ⟨rfl,.inl ⟨rfl,rfl⟩⟩))))).2
  ·exact (G.con x (by omega)).by λ a b e=>.more (.here _) (edge a b e)
 ·rw [len]
  unfold bH;have t:=G.tot;have s1:=yV L p rp (qF rp q L.length) hp;have hq':(L.set p (qF rp q L.length))[q]?=some rq:=by rw [List.getElem?_set_ne pq1];exact hq
  have s2:=yV _ q rq (qF rq r L.length) hq';have hr':((L.set p (qF rp q L.length)).set q (qF rq r L.length))[r]?=some rr:=by rw [List.getElem?_set_ne (λ z=>rq1 z.symm),List.getElem?_set_ne pr1];exact hr
  have s3:=yV _ r rr (qF rr p L.length) hr';rw [jJ mp] at s1;rw [jJ mq] at s2;rw [jJ mr] at s3;rw [map_append,List.sum_append];simp only [map_cons,map_nil,List.sum_cons,List.sum_nil,length_cons,length_nil];omega
end
def wX (L:Rows) (p q r s:Nat) (rp rq rr rs:List Nat):Rows :=
 (((L.set p (qB rp q)).set q (qB rq p)).set r (qF rr p s)).set s (qF rs q r)
section
variable {L:Rows} {p q r s:Nat} {rp rq rr rs:List Nat}
theorem kDR (G:Good L) (hp:L[p]?=some rp) (hq:L[q]?=some rq) (hr:L[r]?=some rr) (hs:L[s]?=some rs) (f:Nx rq r p) (g:Nx rp s q) (rs0:r≠s) (sr:s∉rr):Good (wX L p q r s rp rq rr rs):=by
 have F1q:R L q r p:=⟨rq,hq,f⟩;have F1r:R L r p q:=G.tri _ _ _ F1q;have F1p:R L p q r:=G.tri _ _ _ F1r;have F2p:R L p s q:=⟨rp,hp,g⟩;have F2s:R L s q p:=G.tri _ _ _ F2p;have F2q:R L q p s:=G.tri _ _ _ F2s;have un:∀ {x row a b},L[x]?=some row->R L x a b->Nx row a b:=λ {x row a b} e ⟨z,e',n⟩=>by rw [e] at e';cases e';exact n
 obtain ⟨lq,lr,lp,rq1,pq1⟩:=vP G F1q;obtain ⟨-,-,-,pr1,-⟩:=vP G F1r;obtain ⟨-,ls,-,sp1,-⟩:=vP G F2p;obtain ⟨-,-,-,qs1,-⟩:=vP G F2s;have np:=G.nd p rp hp;have nq:=G.nd q rq hq;have nr:=G.nd r rr hr;have ns:=G.nd s rs hs;have mp:q∈rp:=(kW (un hp F1p)).1;have mq:p∈rq:=(kW f).2;have mr:p∈rr:=(kW (un hr F1r)).1;have ms:q∈rs:=(kW (un hs F2s)).1
 have rsn:r∉rs:=λ z=>by
  obtain ⟨row,e,m⟩:=G.sym (a:=s) (b:=r) ⟨rs,hs,z⟩;rw [hr] at e;cases e;exact sr m
 have l1:p<L.length:=lp;have l2:q<(L.set p (qB rp q)).length:=by simpa using lq
 have l3:r<((L.set p (qB rp q)).set q (qB rq p)).length:=by simpa using lr
 have l4:s<(((L.set p (qB rp q)).set q (qB rq p)).set r (qF rr p s)).length:=by simpa using ls
 have len:(wX L p q r s rp rq rr rs).length=L.length:=by simp [wX]
 have look:∀ (x:Nat) (row:List Nat),(wX L p q r s rp rq rr rs)[x]?=some row->(x=s/\row=qF rs q r)\/(x=r/\row=qF rr p s)\/(x=q/\row=qB rq p)\/(x=p/\row=qB rp q)\/(x≠p/\x≠q/\x≠r/\x≠s/\L[x]?=some row):=by
  intro x row h;unfold wX at h;rcases vC l4 h with z | ⟨n4,h⟩
  ·exact .inl z
  ·rcases vC l3 h with z | ⟨n3,h⟩
   ·exact .inr (.inl z)
   ·rcases vC l2 h with z | ⟨n2,h⟩
    ·exact .inr (.inr (.inl z))
    ·rcases vC l1 h with z | ⟨n1,h⟩
     ·exact .inr (.inr (.inr (.inl z)))
     ·exact .inr (.inr (.inr (.inr ⟨n1,n2,n3,n4,h⟩)))
 have rel:∀ x a b,R (wX L p q r s rp rq rr rs) x a b↔(x=s/\((a=q/\b=r)\/(a=r/\b=p)\/(a≠q/\R L s a b)))\/(x=r/\((a=p/\b=s)\/(a=s/\b=q)\/(a≠p/\R L r a b)))\/(x=q/\((a≠p/\b≠p/\R L q a b)\/(a=r/\b=s)))\/(x=p/\((a≠q/\b≠q/\R L p a b)\/(a=s/\b=r)))\/(x≠p/\x≠q/\x≠r/\x≠s/\R L x a b):=by
  intro x a b;have g1:∀ a b,Nx rp a b↔R L p a b:=λ a b=>⟨λ n=>⟨rp,hp,n⟩,un hp⟩;have g2:∀ a b,Nx rq a b↔R L q a b:=λ a b=>⟨λ n=>⟨rq,hq,n⟩,un hq⟩;have g3:∀ a b,Nx rr a b↔R L r a b:=λ a b=>⟨λ n=>⟨rr,hr,n⟩,un hr⟩;have g4:∀ a b,Nx rs a b↔R L s a b:=λ a b=>⟨λ n=>⟨rs,hs,n⟩,un hs⟩;have e1:R L p a q↔a=s:=⟨λ z=>kFM G z F2p,λ z=>z ▸ F2p⟩;have e2:R L p q b↔b=r:=⟨λ z=>yW G z F1p,λ z=>z ▸ F1p⟩;have e3:R L q a p↔a=r:=⟨λ z=>kFM G z F1q,λ z=>z ▸ F1q⟩;have e4:R L q p b↔b=s:=⟨λ z=>yW G z F2q,λ z=>z ▸ F2q⟩;have e5:R L r p b↔b=q:=⟨λ z=>yW G z F1r,λ z=>z ▸ F1r⟩;have e6:R L s q b↔b=p:=⟨λ z=>yW G z F2s,λ z=>z ▸ F2s⟩;unfold wX;rw [gS l4,gS l3,gS l2,gS l1,kBO mp np,kBO mq nq,aL mr nr sr,aL ms ns rsn];simp only [g1,g2,g3,g4,e1,e2,e3,e4,e5,e6];have c1:(a≠q/\b≠q/\a=s/\b=r)↔(a=s/\b=r):=⟨λ z=>z.2.2,λ z=>⟨λ h=>qs1 (h.symm.trans z.1),λ h=>rq1 (z.2.symm.trans h),z⟩⟩;have c2:(a≠p/\b≠p/\a=r/\b=s)↔(a=r/\b=s):=⟨λ z=>z.2.2,λ z=>⟨λ h=>pr1 (h.symm.trans z.1),λ h=>sp1 (z.2.symm.trans h),z⟩⟩;rw [c1,c2];clear look g1 g2 g3 g4 e1 e2 e3 e4 e5 e6 c1 c2 F1q F1r F1p F2p F2s F2q un np nq nr ns mp mq mr ms rsn l1 l2 l3 l4 len hp hq hr hs f g sr lq lr lp ls;by_cases x4:x=s
  ·subst x4
   have n1:¬ x=r:=λ z=>rs0 z.symm;have n2:¬ x=q:=λ z=>qs1 z.symm;have n3:¬ x=p:=sp1;simp only [n1,n2,n3,ne_eq,not_false_eq_true,false_and,true_and,and_false,or_false,false_or,not_true_eq_false]
  ·by_cases x3:x=r
   ·subst x3
    have n1:¬ x=q:=rq1;have n2:¬ x=p:=λ z=>pr1 z.symm;simp only [x4,n1,n2,ne_eq,not_false_eq_true,false_and,true_and,and_false,or_false,false_or,not_true_eq_false]
   ·by_cases x2:x=q
    ·subst x2
     have n2:¬ x=p:=λ z=>pq1 z.symm;simp only [x4,x3,n2,ne_eq,not_false_eq_true,false_and,true_and,and_false,or_false,false_or,not_true_eq_false]
    ·by_cases x1:x=p
     ·subst x1
      simp only [x4,x3,x2,ne_eq,not_false_eq_true,false_and,true_and,and_false,or_false,false_or,not_true_eq_false]
     ·simp only [x4,x3,x2,x1,ne_eq,not_false_eq_true,false_and,true_and,and_false,or_false,false_or,not_true_eq_false]
 have oldT:∀ x a b,R L x a b->¬ (x=p/\a=q)->¬ (x=p/\b=q)->¬ (x=q/\a=p)->¬ (x=q/\b=p)->¬ (x=r/\a=p)->¬ (x=s/\a=q)->R (wX L p q r s rp rq rr rs) x a b:=by
  intro x a b h h1 h2 h3 h4 h5 h6;rw [rel];clear F1q F1r F1p F2p F2s F2q un np nq nr ns mp mq mr ms rsn l1 l2 l3 l4 len hp hq hr hs f g sr lq lr lp ls rs0 rq1 pq1 pr1 sp1 qs1 look rel G;by_cases x4:x=s
  ·subst x4;exact .inl ⟨rfl,.inr (.inr ⟨λ z=>h6 ⟨rfl,z⟩,h⟩)⟩
  ·by_cases x3:x=r
   ·subst x3;exact .inr (.inl ⟨rfl,.inr (.inr ⟨λ z=>h5 ⟨rfl,z⟩,h⟩)⟩)
   ·by_cases x2:x=q
    ·subst x2;exact .inr (.inr (.inl ⟨rfl,.inl ⟨λ z=>h3 ⟨rfl,z⟩,λ z=>h4 ⟨rfl,z⟩,h⟩⟩))
    ·by_cases x1:x=p
     ·subst x1;exact .inr (.inr (.inr (.inl ⟨rfl,.inl ⟨λ z=>h1 ⟨rfl,z⟩,λ z=>h2 ⟨rfl,z⟩,h⟩⟩)))
     ·exact .inr (.inr (.inr (.inr ⟨x1,x2,x3,x4,h⟩)))
 have oldTri:∀ x a b,R L x a b->¬ (x=p/\a=q)->¬ (x=p/\b=q)->¬ (x=q/\a=p)->¬ (x=q/\b=p)->¬ (x=r/\a=p)->¬ (x=s/\a=q)->R (wX L p q r s rp rq rr rs) a b x:=by
  intro x a b h h1 h2 h3 h4 h5 h6;have h':=G.tri _ _ _ h;clear F1q F2p un np nq nr ns mp mq mr ms rsn l1 l2 l3 l4 len hp hq hr hs f g sr lq lr lp ls rs0 rq1 pq1 pr1 sp1 qs1 look rel;refine oldT _ _ _ h' (λ z=>?_) (λ z=>?_) (λ z=>?_) (λ z=>?_) (λ z=>?_) (λ z=>?_)
  ·obtain ⟨rfl,rfl⟩:=z
   exact h5 ⟨yW G h' F1p,rfl⟩
  ·obtain ⟨rfl,rfl⟩:=z
   exact h3 ⟨rfl,rfl⟩
  ·obtain ⟨rfl,rfl⟩:=z
   exact h6 ⟨yW G h' F2q,rfl⟩
  ·obtain ⟨rfl,rfl⟩:=z
   exact h1 ⟨rfl,rfl⟩
  ·obtain ⟨rfl,rfl⟩:=z
   exact h4 ⟨yW G h' F1r,rfl⟩
  ·obtain ⟨rfl,rfl⟩:=z
   exact h2 ⟨yW G h' F2s,rfl⟩
 have newR:∀ x a b,((x=s/\((a=q/\b=r)\/(a=r/\b=p)))\/(x=r/\((a=p/\b=s)\/(a=s/\b=q)))\/(x=q/\(a=r/\b=s))\/(x=p/\(a=s/\b=r)))->R (wX L p q r s rp rq rr rs) x a b:=by
  intro x a b h;rw [rel];rcases h with ⟨h,h' | h'⟩ | ⟨h,h' | h'⟩ | ⟨h,h'⟩ | ⟨h,h'⟩
  ·exact .inl ⟨h,.inl h'⟩
  ·exact .inl ⟨h,.inr (.inl h')⟩
  ·exact .inr (.inl ⟨h,.inl h'⟩)
  ·exact .inr (.inl ⟨h,.inr (.inl h')⟩)
  ·exact .inr (.inr (.inl ⟨h,.inr h'⟩))
  ·exact .inr (.inr (.inr (.inl ⟨h,.inr h'⟩)))
 have edge:∀ a b,E L a b->¬ (a=p/\b=q)->¬ (a=q/\b=p)->E (wX L p q r s rp rq rr rs) a b:=by
  intro a b h h1 h2;unfold wX;rw [mB l4,mB l3,mB l2,mB l1,vT mp np,vT mq nq,jI mr nr,jI ms ns];obtain ⟨row,e,m⟩:=h;clear F1q F1r F1p F2p F2s F2q un np nq nr ns mp mq mr ms rsn l1 l2 l3 l4 len f g sr lq lr lp ls rs0 rq1 pq1 pr1 sp1 qs1 look rel oldT oldTri newR G;by_cases x4:a=s
  ·subst x4;rw [hs] at e;cases e;exact .inl ⟨rfl,.inl m⟩
  ·by_cases x3:a=r
   ·subst x3;rw [hr] at e;cases e;exact .inr ⟨x4,.inl ⟨rfl,.inl m⟩⟩
   ·by_cases x2:a=q
    ·subst x2;rw [hq] at e;cases e;exact .inr ⟨x4,.inr ⟨x3,.inl ⟨rfl,m,λ z=>h2 ⟨rfl,z⟩⟩⟩⟩
    ·by_cases x1:a=p
     ·subst x1;rw [hp] at e;cases e;exact .inr ⟨x4,.inr ⟨x3,.inr ⟨x2,.inl ⟨rfl,m,λ z=>h1 ⟨rfl,z⟩⟩⟩⟩⟩
     ·exact .inr ⟨x4,.inr ⟨x3,.inr ⟨x2,.inr ⟨x1,row,e,m⟩⟩⟩⟩
 have path:∀ a b,E L a b->Reach (wX L p q r s rp rq rr rs) a b:=by
  intro a b h;clear F1q F1r F1p F2p F2s F2q un np nq nr ns mp mq mr ms rsn l1 l2 l3 l4 len hp hq hr hs f g sr lq lr lp ls rs0 rq1 pq1 pr1 sp1 qs1 look rel oldT oldTri G;by_cases h1:a=p/\b=q
  ·obtain ⟨rfl,rfl⟩:=h1
   refine Reach.more (b:=r) (Reach.more (Reach.here _) ?_) ?_
   ·exact (vJ (newR a s r (.inr (.inr (.inr ⟨rfl,rfl,rfl⟩))))).2
   ·exact (vJ (newR r s b (.inr (.inl ⟨rfl,.inr ⟨rfl,rfl⟩⟩)))).2
  ·by_cases h2:a=q/\b=p
   ·obtain ⟨rfl,rfl⟩:=h2
    refine Reach.more (b:=r) (Reach.more (Reach.here _) ?_) ?_
    ·exact (vJ (newR a r s (.inr (.inr (.inl ⟨rfl,rfl,rfl⟩))))).1
    ·exact (vJ (newR r b s (.inr (.inl ⟨rfl,.inl ⟨rfl,rfl⟩⟩)))).1
   ·exact .more (.here _) (edge a b h h1 h2)
 refine ⟨by rw [len];exact G.three,?_,?_,?_,?_,?_,?_⟩
 ·intro x row h
  rcases look x row h with ⟨_,rfl⟩ | ⟨_,rfl⟩ | ⟨_,rfl⟩ | ⟨_,rfl⟩ | ⟨_,_,_,_,h⟩
  ·intro z;have:=jJ (w:=r) ms;rw [z] at this;simp at this
  ·intro z;have:=jJ (w:=s) mr;rw [z] at this;simp at this
  ·intro z
   have:s∈qB rq p:=(vT mq nq).mpr ⟨(kW (un hq F2q)).2,sp1⟩;rw [z] at this;cases this
  ·intro z
   have:r∈qB rp q:=(vT mp np).mpr ⟨(kW (un hp F1p)).2,rq1⟩;rw [z] at this;cases this
  ·exact G.ne _ _ h
 ·intro x row h
  rcases look x row h with ⟨_,rfl⟩ | ⟨_,rfl⟩ | ⟨_,rfl⟩ | ⟨_,rfl⟩ | ⟨_,_,_,_,h⟩
  ·exact zA ms ns rsn
  ·exact zA mr nr sr
  ·exact fZ mq nq
  ·exact fZ mp np
  ·exact G.nd _ _ h
 ·intro x row a h m
  rw [len]
  replace h:=look x row h
  clear F1q F1r F1p F2p F2s F2q un rsn l1 l2 l3 l4 len f g sr lq lp rq1 pq1 pr1 sp1 qs1 look rel oldT oldTri newR edge path;rcases h with ⟨rfl,rfl⟩ | ⟨rfl,rfl⟩ | ⟨rfl,rfl⟩ | ⟨rfl,rfl⟩ | ⟨_,_,_,_,h⟩
  ·rcases (jI ms ns).mp m with z | z
   ·exact G.rng _ _ _ hs z
   ·subst z
    exact ⟨lr,rs0⟩
  ·rcases (jI mr nr).mp m with z | z
   ·exact G.rng _ _ _ hr z
   ·subst z
    exact ⟨ls,λ h=>rs0 h.symm⟩
  ·exact G.rng _ _ _ hq ((vT mq nq).mp m).1
  ·exact G.rng _ _ _ hp ((vT mp np).mp m).1
  ·exact G.rng _ _ _ h m
 ·intro x a b h
  rw [rel] at h;clear F1q F1r F1p F2p F2s F2q un np nq nr ns mp mq mr ms rsn l1 l2 l3 l4 len hp hq hr hs f g sr lq lr lp ls look rel oldT edge path G;rcases h with ⟨rfl,⟨rfl,rfl⟩ | ⟨rfl,rfl⟩ | ⟨h,h'⟩⟩ | ⟨rfl,⟨rfl,rfl⟩ | ⟨rfl,rfl⟩ | ⟨h,h'⟩⟩ | ⟨rfl,⟨h,k,h'⟩ | ⟨rfl,rfl⟩⟩ | ⟨rfl,⟨h,k,h'⟩ | ⟨rfl,rfl⟩⟩ | ⟨h1,h2,h3,h4,h'⟩
  ·exact newR _ _ _ (.inr (.inr (.inl ⟨rfl,rfl,rfl⟩)))
  ·exact newR _ _ _ (.inr (.inl ⟨rfl,.inl ⟨rfl,rfl⟩⟩))
  ·exact oldTri _ _ _ h' (λ z=>sp1 z.1) (λ z=>sp1 z.1) (λ z=>qs1 z.1.symm) (λ z=>qs1 z.1.symm) (λ z=>rs0 z.1.symm) λ z=>h z.2
  ·exact newR _ _ _ (.inr (.inr (.inr ⟨rfl,rfl,rfl⟩)))
  ·exact newR _ _ _ (.inl ⟨rfl,.inl ⟨rfl,rfl⟩⟩)
  ·exact oldTri _ _ _ h' (λ z=>pr1 z.1.symm) (λ z=>pr1 z.1.symm) (λ z=>rq1 z.1) (λ z=>rq1 z.1) (λ z=>h z.2) λ z=>rs0 z.1
  ·exact oldTri _ _ _ h' (λ z=>pq1 z.1.symm) (λ z=>pq1 z.1.symm) (λ z=>h z.2) (λ z=>k z.2) (λ z=>rq1 z.1.symm) λ z=>qs1 z.1
  ·exact newR _ _ _ (.inr (.inl ⟨rfl,.inr ⟨rfl,rfl⟩⟩))
  ·exact oldTri _ _ _ h' (λ z=>h z.2) (λ z=>k z.2) (λ z=>pq1 z.1) (λ z=>pq1 z.1) (λ z=>pr1 z.1) λ z=>sp1 z.1.symm
  ·exact newR _ _ _ (.inl ⟨rfl,.inr ⟨rfl,rfl⟩⟩)
  ·exact oldTri _ _ _ h' (λ z=>h1 z.1) (λ z=>h1 z.1) (λ z=>h2 z.1) (λ z=>h2 z.1) (λ z=>h3 z.1) λ z=>h4 z.1
 ·intro x hx
  rw [len] at hx;exact (G.con x hx).by path
 ·rw [len]
  unfold wX;have t:=G.tot;have s1:=yV L p rp (qB rp q) hp;have hq':(L.set p (qB rp q))[q]?=some rq:=by rw [List.getElem?_set_ne pq1];exact hq
  have s2:=yV _ q rq (qB rq p) hq';have hr':((L.set p (qB rp q)).set q (qB rq p))[r]?=some rr:=by rw [List.getElem?_set_ne (λ z=>rq1 z.symm),List.getElem?_set_ne pr1];exact hr
  have s3:=yV _ r rr (qF rr p s) hr';have hs':(((L.set p (qB rp q)).set q (qB rq p)).set r (qF rr p s))[s]?=some rs:=by rw [List.getElem?_set_ne rs0,List.getElem?_set_ne qs1,List.getElem?_set_ne (λ z=>sp1 z.symm)];exact hs
  have s4:=yV _ s rs (qF rs q r) hs';have k1:=cK mp;have k2:=cK mq;rw [jJ mr] at s3;rw [jJ ms] at s4;clear rs0 rq1 pq1 pr1 sp1 qs1 l1 l2 l3 l4 lp lq lr ls;omega
theorem kAR:Good [[1,2],[2,0],[0,1]]:=by
 have look:∀ (x:Nat) (row:List Nat),([[1,2],[2,0],[0,1]]:Rows)[x]?=some row->(x=0/\row=[1,2])\/(x=1/\row=[2,0])\/(x=2/\row=[0,1]):=by
  intro x row h
  match x,h with
  | 0,h=>exact .inl ⟨rfl,(Option.some.inj h).symm⟩
  | 1,h=>exact .inr (.inl ⟨rfl,(Option.some.inj h).symm⟩)
  | 2,h=>exact .inr (.inr ⟨rfl,(Option.some.inj h).symm⟩)
  | n+3,h=>simp at h
 have nx2:∀ x y a b:Nat,Nx [x,y] a b↔(a=x/\b=y)\/(a=y/\b=x):=by
  intro x y a b;show ((a=x/\b=y)\/(a=y/\b=x)\/False)↔_;simp
 refine ⟨by decide,?_,?_,?_,?_,?_,by decide⟩
 ·intro x row h
  rcases look x row h with ⟨_,rfl⟩ | ⟨_,rfl⟩ | ⟨_,rfl⟩<;>simp
 ·intro x row h
  rcases look x row h with ⟨_,rfl⟩ | ⟨_,rfl⟩ | ⟨_,rfl⟩<;>decide
 ·intro x row a h m
  rcases look x row h with ⟨rfl,rfl⟩ | ⟨rfl,rfl⟩ | ⟨rfl,rfl⟩<;>simp at m ⊢<;>omega
 ·rintro x a b ⟨row,h,n⟩
  rcases look x row h with ⟨rfl,rfl⟩ | ⟨rfl,rfl⟩ | ⟨rfl,rfl⟩<;>rw [nx2] at n<;>rcases n with ⟨rfl,rfl⟩ | ⟨rfl,rfl⟩
  ·exact ⟨[2,0],rfl,(nx2 _ _ _ _).mpr (.inl ⟨rfl,rfl⟩)⟩
  ·exact ⟨[0,1],rfl,(nx2 _ _ _ _).mpr (.inr ⟨rfl,rfl⟩)⟩
  ·exact ⟨[0,1],rfl,(nx2 _ _ _ _).mpr (.inl ⟨rfl,rfl⟩)⟩
  ·exact ⟨[1,2],rfl,(nx2 _ _ _ _).mpr (.inr ⟨rfl,rfl⟩)⟩
  ·exact ⟨[1,2],rfl,(nx2 _ _ _ _).mpr (.inl ⟨rfl,rfl⟩)⟩
  ·exact ⟨[2,0],rfl,(nx2 _ _ _ _).mpr (.inr ⟨rfl,rfl⟩)⟩
 ·intro x hx
  match x,hx with
  | 0,_=>exact .here _
  | 1,_=>exact .more (.here _) ⟨[1,2],rfl,by decide⟩
  | 2,_=>exact .more (.here _) ⟨[1,2],rfl,by decide⟩
end
def jG (row:List Nat) (p:Nat):Option Nat:=if row.idxOf p=0 then row.getLast? else row[row.idxOf p-1]?
theorem zN {row:List Nat} {p v:Nat} (nd:row.Nodup) (hp:p∈row) (h:jG row p=some v):Nx row v p:=by
 obtain ⟨A,B,rfl,hA,hB⟩:=xM hp nd;unfold jG at h;rw [dN hA] at h;by_cases h0:A.length=0
 ·have:A=[]:=length_eq_zero_iff.mp h0
  subst this;rw [if_pos h0,nil_append] at h;show Adj (p::B++[p]) v p
  have e:p::B=(p::B).dropLast++[v]:=by
   rw [List.getLast?_eq_some_getLast (List.cons_ne_nil p B)] at h;rw [<-Option.some.inj h];exact (dropLast_concat_getLast (List.cons_ne_nil p B)).symm
  rw [e,append_assoc];exact (cS _ v [p] v p).mpr (.inr (.inl ⟨rfl,rfl⟩))
 ·rw [if_neg h0] at h
  rw [List.getElem?_append_left (by omega)] at h;have ne:A≠[]:=λ z=>h0 (by rw [z];rfl)
  have e:A=A.dropLast++[v]:=by
   have z:A.getLast?=some v:=by rw [List.getLast?_eq_getElem?];exact h
   rw [List.getLast?_eq_some_getLast ne] at z;rw [<-Option.some.inj z];exact (dropLast_concat_getLast ne).symm
  rw [e,append_assoc];rw [yI];show Nx (v::(p::B)++A.dropLast) v p;exact .inl ⟨rfl,rfl⟩
theorem vZ {row:List Nat} {p:Nat} (hp:p∈row):∃ v,jG row p=some v:=by
 have hl:=idxOf_lt_length_of_mem hp;unfold jG
 split
 ·have ne:row≠[]:=λ z=>by rw [z] at hp;cases hp
  exact ⟨_,List.getLast?_eq_some_getLast ne⟩
 ·exact ⟨_,List.getElem?_eq_getElem (show row.idxOf p-1<row.length by omega)⟩
end Tri
namespace Rnd
open Cyc Tri
section
variable {α:Type} [DecidableEq α]
def it (f:α->α):Nat->α->α
 | 0,x=>x
 | n+1,x=>f (it f n x)
theorem yJ (f:α->α) (m n:Nat) (x:α):it f (m+n) x=it f m (it f n x):=by
 induction m with
 | zero=>rw [Nat.zero_add];rfl
 | succ m ih=>rw [Nat.succ_add];show f _=f _;rw [ih]
structure Perm (f:α->α) (S:List α):Prop where
 to:∀ x,x∈S->f x∈S
 one:∀ x y,x∈S->y∈S->f x=f y->x=y
theorem Perm.it {f:α->α} {S:List α} (h:Perm f S) (n:Nat) {x:α} (hx:x∈S):it f n x∈S:=by
 induction n with
 | zero=>exact hx
 | succ n ih=>exact h.to _ ih
theorem Perm.back {f:α->α} {S:List α} (h:Perm f S) (n:Nat) {x y:α} (hx:x∈S) (hy:y∈S) (e:Rnd.it f n x=Rnd.it f n y):x=y:=by
 induction n with
 | zero=>exact e
 | succ n ih=>exact ih (h.one _ _ (h.it n hx) (h.it n hy) e)
theorem dH {f:Nat->α}:∀ (n:Nat),(∀ i j,i<j->j<n->f i≠f j)->((List.range n).map f).Nodup
 | 0,_=>by simp
 | n+1,h=>by
  rw [range_succ,map_append,nodup_append];refine ⟨dH n λ i j a b=>h i j a (by omega),by simp,λ a ha b hb=>?_⟩;obtain ⟨i,hi,rfl⟩:=mem_map.mp ha;have:b=f n:=by simpa using hb
  subst this;exact h i n (mem_range.mp hi) (by omega)
theorem Perm.comes {f:α->α} {S:List α} (h:Perm f S) {x:α} (hx:x∈S):∃ k,0<k/\k<=S.length/\Rnd.it f k x=x/\∀ j,0<j->j<k->Rnd.it f j x≠x:=by
 have some:∃ k,0<k/\k<=S.length/\Rnd.it f k x=x:=by
  refine Classical.byContradiction λ no=>?_
  have nd:((List.range (S.length+1)).map λ i=>Rnd.it f i x).Nodup:=dH _ λ i j hij hj e=>by
   refine no ⟨j-i,by omega,by omega,?_⟩
   have e2:Rnd.it f i (Rnd.it f (j-i) x)=Rnd.it f i x:=by
    rw [<-yJ,show i+(j-i)=j by omega];exact e.symm
   exact h.back i (h.it _ hx) hx e2
  have le:=List.Nodup.length_le_of_subset nd (l₂:=S) λ y hy=>by
   obtain ⟨i,_,rfl⟩:=mem_map.mp hy;exact h.it i hx
  rw [length_map,length_range] at le;omega
 obtain ⟨k0,p0,l0,e0⟩:=some
 have kBP:∀ n,(∃ k,0<k/\k<=n/\Rnd.it f k x=x)->∃ k,0<k/\k<=n/\Rnd.it f k x=x/\∀ j,0<j->j<k->Rnd.it f j x≠x:=λ n=>by
  induction n with
  | zero=>rintro ⟨k,a,b,_⟩;omega
  | succ n ih =>
   intro hk;by_cases c:∃ k,0<k/\k<=n/\Rnd.it f k x=x
   ·obtain ⟨k,a,b,e,m⟩:=ih c
    exact ⟨k,a,by omega,e,m⟩
   ·obtain ⟨k,a,b,e⟩:=hk
    refine ⟨k,a,b,e,λ j j0 jk ej=>c ⟨j,j0,by omega,ej⟩⟩
 exact kBP S.length ⟨k0,p0,l0,e0⟩
theorem Perm.round_nodup {f:α->α} {S:List α} (h:Perm f S) {x:α} (hx:x∈S) {k:Nat} (m:∀ j,0<j->j<k->Rnd.it f j x≠x):((List.range k).map λ i=>Rnd.it f i x).Nodup:=dH _ λ i j hij hj e=>by
 refine m (j-i) (by omega) (by omega) ?_
 have e2:Rnd.it f i (Rnd.it f (j-i) x)=Rnd.it f i x:=by
  rw [<-yJ,show i+(j-i)=j by omega];exact e.symm
 exact h.back i (h.it _ hx) hx e2
end
def kH (W:Rows):List (Nat×Nat):=(List.range W.length).flatMap λ p=>(W.getD p []).map λ q=>(p,q)
theorem mem_steps {W:Rows} {p q:Nat}:(p,q)∈kH W↔E W p q:=by
 unfold kH E;rw [List.mem_flatMap];constructor
 ·rintro ⟨p',hp,h⟩
  obtain ⟨q',hq,e⟩:=mem_map.mp h;cases e
  have hl:=mem_range.mp hp;refine ⟨W[p],List.getElem?_eq_getElem hl,?_⟩;simpa [getD_eq_getElem?_getD,hl] using hq
 ·rintro ⟨row,e,h⟩
  have hl:=(List.getElem?_eq_some_iff.mp e).1;refine ⟨p,mem_range.mpr hl,mem_map.mpr ⟨q,?_,rfl⟩⟩;rw [getD_eq_getElem?_getD,e];exact h
def nxt (W:Rows) (s:Nat×Nat):Nat×Nat:=(s.2,(jG (W.getD s.2 []) s.1).getD 0)
theorem kFP {row:List Nat} {p v:Nat} (nd:row.Nodup) (hp:p∈row) (h:jG row p=some v):v∈row:=(kW (zN nd hp h)).1
theorem uQ {W:Rows} (nd:∀ (p:Nat) (row:List Nat),W[p]?=some row->row.Nodup) (sym:∀ a b,E W a b->E W b a):Perm (nxt W) (kH W):=by
 have look:∀ p q,(p,q)∈kH W->∃ row v,W[q]?=some row/\p∈row/\jG row p=some v/\nxt W (p,q)=(q,v)/\Nx row v p:=λ p q h=>by
  obtain ⟨row,e,m⟩:=sym p q (mem_steps.mp h);obtain ⟨v,hv⟩:=vZ m;refine ⟨row,v,e,m,hv,?_,zN (nd q row e) m hv⟩;unfold nxt;rw [getD_eq_getElem?_getD,e];show (q,(jG row p).getD 0)=(q,v);rw [hv]
  rfl
 refine ⟨λ s h=>?_,λ s t hs ht e=>?_⟩
 ·obtain ⟨p,q⟩:=s
  obtain ⟨row,v,e1,e2,e3,e4,e5⟩:=look p q h;rw [e4];exact mem_steps.mpr ⟨row,e1,(kW e5).1⟩
 ·obtain ⟨p,q⟩:=s
  obtain ⟨p',q'⟩:=t;obtain ⟨row,v,e1,e2,e3,e4,e5⟩:=look p q hs;obtain ⟨row',v',f1,f2,f3,f4,f5⟩:=look p' q' ht;rw [e4,f4] at e;have eq:q=q':=congrArg Prod.fst e;have ev:v=v':=congrArg Prod.snd e;subst eq ev;rw [e1] at f1;cases f1
  rw [zT (nd q row e1) e5 f5]
end Rnd
namespace Tri
section
variable {R R':Nat->Nat->Nat->Prop} {N N' K:Nat->Nat->Prop} {inP:Nat->Prop} {f l w:Nat}
end
open Cyc
section
variable {A M C:List Nat} {f l w:Nat}
end
section
variable {L L2:Rows} {A M C:List Nat} {f l:Nat}
end
section
variable {L:Rows} {A M C:List Nat} {f l u:Nat}
end
end Tri
namespace Tri
open Cyc Rnd
section
variable {W:Rows}
theorem oS {row:List Nat} {p v:Nat} (nd:row.Nodup) (h:Nx row v p):jG row p=some v:=by
 obtain ⟨u,hu⟩:=vZ (kW h).2;rw [hu,wB nd h (zN nd (kW h).2 hu)]
theorem vH (nd:∀ (p:Nat) (row:List Nat),W[p]?=some row->row.Nodup) {p q v:Nat} (h:R W q v p):nxt W (p,q)=(q,v):=by
 obtain ⟨row,e,n⟩:=h;unfold nxt;rw [getD_eq_getElem?_getD,e];show (q,(jG row p).getD 0)=(q,v);rw [oS (nd q row e) n]
 rfl
theorem xL (nd:∀ (p:Nat) (row:List Nat),W[p]?=some row->row.Nodup):(kH W).Nodup:=by
 unfold kH;rw [List.nodup_iff_pairwise_ne,List.pairwise_flatMap];refine ⟨λ p hp=>?_,?_⟩
 ·have hl:=mem_range.mp hp
  have e:W[p]?=some (W.getD p []):=by rw [getD_eq_getElem?_getD,List.getElem?_eq_getElem hl];rfl
  have n:=nd p _ e;refine List.Pairwise.map _ (λ x y (z:x≠y) e=>z (congrArg Prod.snd e)) n
 ·refine List.nodup_range.imp λ {p q} hpq=>?_
  intro x hx y hy e;obtain ⟨_,_,rfl⟩:=mem_map.mp hx;obtain ⟨_,_,rfl⟩:=mem_map.mp hy;exact hpq (congrArg Prod.fst e)
theorem qZ:∀ (W:Rows) ,(kH W).length=(W.map List.length).sum:=by
 intro W;unfold kH;rw [List.length_flatMap]
 congr 1
 refine List.ext_getElem (by simp) λ i h1 h2=>?_;simp at h1 h2;simp [getD_eq_getElem?_getD,h1]
end
theorem kCH (f:Nat->Nat):∀ (l:List Nat) (a b:Nat),Adj (l.map f) a b↔∃ x y,Adj l x y/\a=f x/\b=f y
 | [],a,b=>⟨λ h=>h.elim,λ ⟨_,_,h,_⟩=>h.elim⟩
 | [z],a,b=>⟨λ h=>h.elim,λ ⟨_,_,h,_⟩=>h.elim⟩
 | z::z'::r,a,b=>by
  have ih:=kCH f (z'::r) a b;constructor
  ·rintro (⟨rfl,rfl⟩ | h)
   ·exact ⟨z,z',.inl ⟨rfl,rfl⟩,rfl,rfl⟩
   ·obtain ⟨x,y,h,e⟩:=ih.mp h
    exact ⟨x,y,.inr h,e⟩
  ·rintro ⟨x,y,⟨rfl,rfl⟩ | h,rfl,rfl⟩
   ·exact .inl ⟨rfl,rfl⟩
   ·exact .inr (ih.mpr ⟨x,y,h,rfl,rfl⟩)
theorem kLH (f:Nat->Nat) (l:List Nat) (a b:Nat):Nx (l.map f) a b↔∃ x y,Nx l x y/\a=f x/\b=f y:=by
 unfold Nx;rw [show l.map f++(l.map f).head?.toList=(l++l.head?.toList).map f by cases l<;>simp];exact kCH f _ a b
theorem Reach.symm {W:Rows} (sym:∀ a b,E W a b->E W b a) {a b:Nat} (h:Reach W a b):Reach W b a:=by
 induction h with
 | here=>exact .here _
 | more _ e ih=>exact (Reach.more (.here _) (sym _ _ e)).trans ih
structure Ren (L W:Rows) (ns:List Nat):Prop where
 perm:ns.Perm (List.range L.length)
 len:W.length=L.length
 at':∀ (p:Nat) (row:List Nat),L[p]?=some row->∃ n A B,ns[p]?=some n/\row.map (λ q=>ns.getD q 0)=A++B/\W[n]?=some (B++A)
section
variable {L W:Rows} {ns:List Nat}
theorem Ren.nlen (h:Ren L W ns):ns.length=L.length:=by rw [h.perm.length_eq,length_range]
theorem Ren.get (h:Ren L W ns) {p:Nat} (hp:p<L.length):ns[p]?=some (ns.getD p 0):=by
 rw [getD_eq_getElem?_getD,List.getElem?_eq_getElem (by rw [h.nlen];exact hp)]
 rfl
theorem Ren.lt (h:Ren L W ns) {p:Nat} (hp:p<L.length):ns.getD p 0<L.length:=mem_range.mp (h.perm.mem_iff.mp (mem_of_getElem? (h.get hp)))
theorem Ren.inj (h:Ren L W ns) {p q:Nat} (hp:p<L.length) (hq:q<L.length) (e:ns.getD p 0=ns.getD q 0):p=q:=by
 have nd:ns.Nodup:=h.perm.nodup_iff.mpr List.nodup_range;have h1:=h.get hp;have h2:=h.get hq;rw [e,<-h2] at h1;exact (List.getElem?_inj (by rw [h.nlen];exact hp) nd).mp h1
theorem Ren.sur (h:Ren L W ns) {x:Nat} (hx:x<L.length):∃ p,p<L.length/\ns.getD p 0=x:=by
 obtain ⟨p,hp,e⟩:=List.getElem_of_mem (h.perm.mem_iff.mpr (mem_range.mpr hx));rw [h.nlen] at hp;refine ⟨p,hp,?_⟩;rw [getD_eq_getElem?_getD,List.getElem?_eq_getElem (by rw [h.nlen];exact hp),e]
 rfl
theorem Ren.row (h:Ren L W ns) {x:Nat} {row':List Nat} (e:W[x]?=some row'):∃ p row,p<L.length/\L[p]?=some row/\x=ns.getD p 0/\row'.Perm (row.map λ q=>ns.getD q 0)/\∀ a b,Nx row' a b↔Nx (row.map λ q=>ns.getD q 0) a b:=by
 have hx:x<L.length:=by rw [<-h.len];exact (List.getElem?_eq_some_iff.mp e).1
 obtain ⟨p,hp,rfl⟩:=h.sur hx;obtain ⟨n,A,B,e1,e2,e3⟩:=h.at' p _ (List.getElem?_eq_getElem hp);rw [h.get hp] at e1;cases e1
 rw [e] at e3;cases e3
 refine ⟨p,_,hp,List.getElem?_eq_getElem hp,rfl,?_,λ a b=>?_⟩
 ·rw [e2];exact perm_append_comm
 ·rw [e2];exact yI B A a b
theorem Ren.to (h:Ren L W ns) {p:Nat} {row:List Nat} (e:L[p]?=some row):∃ row',W[ns.getD p 0]?=some row'/\row'.Perm (row.map λ q=>ns.getD q 0)/\∀ a b,Nx row' a b↔Nx (row.map λ q=>ns.getD q 0) a b:=by
 have hp:=(List.getElem?_eq_some_iff.mp e).1;obtain ⟨n,A,B,e1,e2,e3⟩:=h.at' p _ e;rw [h.get hp] at e1;cases e1
 exact ⟨_,e3,by rw [e2];exact perm_append_comm,λ a b=>by rw [e2];exact yI B A a b⟩
theorem Ren.r_to (h:Ren L W ns) {q a b:Nat} (r:R L q a b):R W (ns.getD q 0) (ns.getD a 0) (ns.getD b 0):=by
 obtain ⟨row,e,n⟩:=r;obtain ⟨row',e',_,hn⟩:=h.to e;exact ⟨row',e',(hn _ _).mpr ((kLH _ _ _ _).mpr ⟨a,b,n,rfl,rfl⟩)⟩
theorem Ren.e_to (h:Ren L W ns) {a b:Nat} (r:E L a b):E W (ns.getD a 0) (ns.getD b 0):=by
 obtain ⟨row,e,m⟩:=r;obtain ⟨row',e',pm,_⟩:=h.to e;exact ⟨row',e',pm.mem_iff.mpr (mem_map.mpr ⟨b,m,rfl⟩)⟩
theorem Ren.e_of (h:Ren L W ns) {a b:Nat} (r:E W a b):∃ x y,E L x y/\a=ns.getD x 0/\b=ns.getD y 0:=by
 obtain ⟨row',e',m⟩:=r;obtain ⟨p,row,hp,e,rfl,pm,_⟩:=h.row e';obtain ⟨y,my,rfl⟩:=mem_map.mp (pm.mem_iff.mp m);exact ⟨p,y,⟨row,e,my⟩,rfl,rfl⟩
end
def Ro (r r':List Nat):Prop:=∃ A B,r=A++B/\r'=B++A
theorem Ro.refl (r:List Nat):Ro r r:=⟨r,[],by simp,by simp⟩
theorem Ro.symm {r r':List Nat}:Ro r r'->Ro r' r:=λ ⟨A,B,h1,h2⟩=>⟨B,A,h2,h1⟩
theorem Ro.trans {r r' r'':List Nat}:Ro r r'->Ro r' r''->Ro r r'':=by
 rintro ⟨A,B,rfl,rfl⟩ ⟨C,D,h1,rfl⟩;rcases List.append_eq_append_iff.mp h1 with ⟨a,rfl,rfl⟩ | ⟨c,rfl,rfl⟩
 ·exact ⟨a,D++B,by simp,by simp⟩
 ·exact ⟨A++C,c,by simp,by simp⟩
theorem Ro.perm {r r':List Nat}:Ro r r'->r.Perm r':=by
 rintro ⟨A,B,rfl,rfl⟩;exact perm_append_comm
theorem Ro.mem {r r':List Nat} (h:Ro r r') (x:Nat):x∈r↔x∈r':=h.perm.mem_iff
theorem Ro.nd {r r':List Nat} (h:Ro r r'):r.Nodup↔r'.Nodup:=h.perm.nodup_iff
theorem Ro.nx {r r':List Nat} (h:Ro r r') (a b:Nat):Nx r a b↔Nx r' a b:=by
 obtain ⟨A,B,rfl,rfl⟩:=h;exact yI A B a b
theorem Ro.filter {r r':List Nat} (h:Ro r r') (f:Nat->Bool):Ro (r.filter f) (r'.filter f):=by
 obtain ⟨A,B,rfl,rfl⟩:=h;exact ⟨A.filter f,B.filter f,by simp,by simp⟩
def Can (r:List Nat):Prop:=∀ x∈r,r.headD 0<=x
theorem Ro.eq {r r':List Nat} (h:Ro r r') (nd:r.Nodup) (c:Can r) (c':Can r'):r=r':=by
 obtain ⟨A,B,rfl,rfl⟩:=h
 match A,B with
 | [],B=>simp
 | a::A,[]=>simp
 | a::A,b::B =>
  exfalso;have h1:a<=b:=c b (by simp);have h2:b<=a:=c' a (by simp);have:a=b:=by omega
  subst this;simp at nd
def rot (row:List Nat) (M:Nat):List Nat:=row.drop (row.idxOf M)++row.take (row.idxOf M)
theorem dB (row:List Nat) (M:Nat):Ro row (rot row M):=⟨row.take (row.idxOf M),row.drop (row.idxOf M),(take_append_drop _ _).symm,rfl⟩
theorem aI {row:List Nat} {M:Nat} (h:M∈row) (hl:∀ i∈row,M<=i):Can (rot row M):=by
 intro x hx;have hx':=hl x (((dB row M).mem x).mpr hx);have il:=idxOf_lt_length_of_mem h;unfold rot;rw [List.drop_eq_getElem_cons il,List.getElem_idxOf il];exact hx'
theorem kFH {row:List Nat} {M:Nat} (nd:row.Nodup) (c:Can row) (h:M∈row) (hl:∀ i∈row,M<=i):rot row M=row:=((dB row M).eq nd c (aI h hl)).symm
theorem xC {r:List Nat} {q:Nat} (nd:r.Nodup) (h:q∈r):qB r q=r.filter λ x=>x != q:=by
 obtain ⟨A,B,rfl⟩:=wO h
 have n1:q∉A:=λ z=>by
  rw [nodup_append] at nd;exact nd.2.2 q z q (by simp) rfl
 have n2:q∉B:=λ z=>by
  have:=(nodup_append.mp nd).2.1;rw [nodup_cons] at this;exact this.1 z
 rw [cL n1,filter_append,filter_cons]
 have k:∀ X:List Nat,q∉X->X.filter (λ x=>x != q)=X:=λ X hX=>List.filter_eq_self.mpr λ x hx=>by
  simp only [bne_iff_ne,ne_eq];exact λ z=>hX (z ▸ hx)
 rw [k A n1,k B n2];simp
theorem lQ {r:List Nat} {v q:Nat} {f:Nat->Bool} (hv:v∈r) (hq:f q=false):(qF r v q).filter f=r.filter f:=by
 obtain ⟨A,B,rfl,hA⟩ : ∃ A B,r=A++v::B/\v∉A:=by
  have:=List.append_of_mem hv
  exact ⟨r.take (r.idxOf v),r.drop (r.idxOf v+1),by
   have il:=idxOf_lt_length_of_mem hv
   conv=>lhs;rw [<-take_append_drop (r.idxOf v) r]
   rw [List.drop_eq_getElem_cons il,List.getElem_idxOf il],λ z=>by
   obtain ⟨i,hi,e⟩:=mem_iff_getElem.mp z
   have:=List.not_of_lt_findIdx (p:=(· == v)) (xs:=r) (show i<r.findIdx (· == v) by
    have h:=hi;rw [length_take] at h;have:r.idxOf v=r.findIdx (· == v):=rfl;omega)
   rw [List.getElem_take] at e;simp [e] at this⟩
 rw [fY hA,filter_append,filter_append,filter_cons,filter_cons,filter_cons,hq];simp
structure Nb (L:Rows):Prop where
 nd:∀ (p:Nat) (row:List Nat),L[p]?=some row->row.Nodup
 rng:∀ (p:Nat) (row:List Nat) (a:Nat),L[p]?=some row->a∈row->a<L.length/\a≠p
 sym:∀ a b,E L a b->E L b a
structure Wb (L:Rows):Prop extends Nb L where
 three:3<=L.length
 con:∀ p,p<L.length->Reach L 0 p
theorem Nb.e {L:Rows} (S:Nb L) {p q:Nat} (h:E L p q):p<L.length/\q<L.length/\q≠p:=by
 obtain ⟨row,e,m⟩:=h;exact ⟨(List.getElem?_eq_some_iff.mp e).1,(S.rng p row q e m).1,(S.rng p row q e m).2⟩
theorem Nb.len {L:Rows} (S:Nb L) {p:Nat} {row:List Nat} (h:L[p]?=some row):row.length<=L.length:=by
 have:=List.Nodup.length_le_of_subset (S.nd p row h) (l₂:=List.range L.length) λ x hx=>mem_range.mpr (S.rng p row x h hx).1;rwa [length_range] at this
theorem Wb.of {L:Rows} (G:Good L):Wb L:=⟨⟨G.nd,G.rng,λ a b h=>G.sym h⟩,G.three,G.con⟩
theorem Reach.into {L:Rows} {a b:Nat} (h:Reach L a b) (ne:a≠b):∃ c,E L c b:=by
 cases h with
 | here=>exact absurd rfl ne
 | more _ e=>exact ⟨_,e⟩
theorem Wb.ne {L:Rows} (W:Wb L) {p:Nat} {row:List Nat} (h:L[p]?=some row):row≠[]:=by
 have hp:=(List.getElem?_eq_some_iff.mp h).1;have three:=W.three
 have:∃ c,E L c p:=by
  by_cases z:p=0
  ·subst z
   exact (Reach.symm W.sym (W.con 1 (by omega))).into (by omega)
  ·exact (W.con p hp).into (by omega)
 obtain ⟨c,hc⟩:=this;obtain ⟨row',e,m⟩:=W.sym _ _ hc;rw [h] at e;cases e
 intro z;rw [z] at m;cases m
def jL (L:Rows) (p q:Nat) (a b:List Nat):Rows:=(L.set p a).set q b
theorem qQ (L:Rows) (p q:Nat) (a b:List Nat):(jL L p q a b).length=L.length:=by simp [jL]
theorem jF {L:Rows} {p q:Nat} {a b:List Nat} (hp:p<L.length) (hq:q<L.length) (pq:p≠q) (x:Nat):(jL L p q a b)[x]?=if x=q then some b else if x=p then some a else L[x]?:=by
 unfold jL;by_cases h1:x=q
 ·subst h1
  rw [List.getElem?_set_self (by rw [length_set];exact hq),if_pos rfl]
 ·rw [List.getElem?_set_ne (λ z=>h1 z.symm),if_neg h1]
  by_cases h2:x=p
  ·subst h2
   rw [List.getElem?_set_self hp,if_pos rfl]
  ·rw [List.getElem?_set_ne (λ z=>h2 z.symm),if_neg h2]
theorem oN {L:Rows} (S:Nb L) {p q:Nat} {rp rq a b:List Nat} {c:Prop} (hp:L[p]?=some rp) (hq:L[q]?=some rq) (pq:p≠q) (ha:∀ x,x∈a↔(x∈rp/\x≠q)\/(x=q/\c)) (hb:∀ x,x∈b↔(x∈rq/\x≠p)\/(x=p/\c)) (x y:Nat) :
  E (jL L p q a b) x y↔(E L x y/\¬ (x=p/\y=q)/\¬ (x=q/\y=p))\/(c/\((x=p/\y=q)\/(x=q/\y=p))):=by
 have lp:p<L.length:=(List.getElem?_eq_some_iff.mp hp).1;have lq:q<L.length:=(List.getElem?_eq_some_iff.mp hq).1;have at':=jF (a:=a) (b:=b) lp lq pq x;constructor
 ·rintro ⟨row,e,m⟩
  rw [at'] at e;by_cases h1:x=q
  ·rw [if_pos h1] at e
   cases e
   rcases (hb y).mp m with ⟨m,n⟩ | ⟨z,hc⟩
   ·exact .inl ⟨⟨rq,by rw [h1];exact hq,m⟩,λ z=>pq (z.1.symm.trans h1),λ z=>n z.2⟩
   ·exact .inr ⟨hc,.inr ⟨h1,z⟩⟩
  ·rw [if_neg h1] at e
   by_cases h2:x=p
   ·rw [if_pos h2] at e
    cases e
    rcases (ha y).mp m with ⟨m,n⟩ | ⟨z,hc⟩
    ·exact .inl ⟨⟨rp,by rw [h2];exact hp,m⟩,λ z=>n z.2,λ z=>h1 z.1⟩
    ·exact .inr ⟨hc,.inl ⟨h2,z⟩⟩
   ·rw [if_neg h2] at e
    exact .inl ⟨⟨row,e,m⟩,λ z=>h2 z.1,λ z=>h1 z.1⟩
 ·intro h
  by_cases h1:x=q
  ·rw [if_pos h1] at at'
   refine ⟨b,at',(hb y).mpr ?_⟩;rcases h with ⟨⟨row,e,m⟩,n1,n2⟩ | ⟨hc,⟨z,_⟩ | ⟨_,z⟩⟩
   ·rw [h1,hq] at e
    cases e
    exact .inl ⟨m,λ z=>n2 ⟨h1,z⟩⟩
   ·exact absurd (z.symm.trans h1) pq
   ·exact .inr ⟨z,hc⟩
  ·rw [if_neg h1] at at'
   by_cases h2:x=p
   ·rw [if_pos h2] at at'
    refine ⟨a,at',(ha y).mpr ?_⟩;rcases h with ⟨⟨row,e,m⟩,n1,n2⟩ | ⟨hc,⟨_,z⟩ | ⟨z,_⟩⟩
    ·rw [h2,hp] at e
     cases e
     exact .inl ⟨m,λ z=>n1 ⟨h2,z⟩⟩
    ·exact .inr ⟨z,hc⟩
    ·exact absurd z h1
   ·rw [if_neg h2] at at'
    rcases h with ⟨⟨row,e,m⟩,n1,n2⟩ | ⟨hc,⟨z,_⟩ | ⟨z,_⟩⟩
    ·exact ⟨row,at'.trans e,m⟩
    ·exact absurd z h2
    ·exact absurd z h1
theorem bQ {L:Rows} (S:Nb L) {p q:Nat} {rp rq a b:List Nat} {c:Prop} (hp:L[p]?=some rp) (hq:L[q]?=some rq) (pq:p≠q) (ha:∀ x,x∈a↔(x∈rp/\x≠q)\/(x=q/\c)) (hb:∀ x,x∈b↔(x∈rq/\x≠p)\/(x=p/\c)) (na:a.Nodup) (nb:b.Nodup) :
  Nb (jL L p q a b):=by
 have lp:p<L.length:=(List.getElem?_eq_some_iff.mp hp).1;have lq:q<L.length:=(List.getElem?_eq_some_iff.mp hq).1;have ee:=oN S hp hq pq ha hb;refine ⟨λ x row e=>?_,λ x row y e m=>?_,λ x y h=>?_⟩
 ·rw [jF lp lq pq] at e
  split at e
  ·cases e;exact nb
  ·split at e
   ·cases e;exact na
   ·exact S.nd x row e
 ·rw [qQ]
  rcases (ee x y).mp ⟨row,e,m⟩ with ⟨h,_⟩ | ⟨_,⟨rfl,rfl⟩ | ⟨rfl,rfl⟩⟩
  ·exact ⟨(S.e h).2.1,(S.e h).2.2⟩
  ·exact ⟨lq,pq.symm⟩
  ·exact ⟨lp,pq⟩
 ·rcases (ee x y).mp h with ⟨h,n1,n2⟩ | ⟨hc,z⟩
  ·exact (ee y x).mpr (.inl ⟨S.sym _ _ h,λ z=>n2 ⟨z.2,z.1⟩,λ z=>n1 ⟨z.2,z.1⟩⟩)
  ·refine (ee y x).mpr (.inr ⟨hc,?_⟩)
   rcases z with ⟨h1,h2⟩ | ⟨h1,h2⟩
   ·exact .inr ⟨h2,h1⟩
   ·exact .inl ⟨h2,h1⟩
theorem Reach.sub {L L':Rows} (h:∀ a b,E L a b->E L' a b) {a b:Nat} (r:Reach L a b):Reach L' a b:=by
 induction r with
 | here=>exact .here _
 | more _ e ih=>exact .more ih (h _ _ e)
theorem kKN {L W:Rows} {ns:List Nat} (G:Wb L) (h:Ren L W ns):Wb W:=by
 have sym:∀ a b,E W a b->E W b a:=λ a b r=>by
  obtain ⟨x,y,r',rfl,rfl⟩:=h.e_of r;exact h.e_to (G.sym _ _ r')
 have reach:∀ {x y:Nat},Reach L x y->Reach W (ns.getD x 0) (ns.getD y 0):=λ r=>by
  induction r with
  | here=>exact .here _
  | more _ e ih=>exact .more ih (h.e_to e)
 have from0:∀ x,x<L.length->Reach W (ns.getD 0 0) x:=λ x hx=>by
  obtain ⟨p,hp,rfl⟩:=h.sur hx;exact reach (G.con p hp)
 refine ⟨⟨λ p row' e=>?_,λ p row' a e m=>?_,sym⟩,by rw [h.len];exact G.three,λ p hp=>?_⟩
 ·obtain ⟨x,row,hx,e1,rfl,pm,_⟩:=h.row e
  refine pm.nodup_iff.mpr ?_;rw [List.nodup_iff_pairwise_ne,pairwise_map];exact List.Pairwise.imp_of_mem (λ {u v} hu hv z e=>z (h.inj (G.rng _ _ _ e1 hu).1 (G.rng _ _ _ e1 hv).1 e)) (G.nd _ _ e1)
 ·obtain ⟨x,row,hx,e1,rfl,pm,_⟩:=h.row e
  obtain ⟨y,my,rfl⟩:=mem_map.mp (pm.mem_iff.mp m);obtain ⟨y1,y2⟩:=G.rng _ _ _ e1 my;exact ⟨by rw [h.len];exact h.lt y1,λ e=>y2 (h.inj y1 hx e)⟩
 ·rw [h.len] at hp
  have three:=G.three;exact (from0 0 (by omega)).symm sym |>.trans (from0 p hp)
def key (x y:Nat):Nat×Nat:=(min x y,max x y)
theorem cB (x y:Nat):key x y=key y x:=by simp [key,Nat.min_comm,Nat.max_comm]
theorem dM {x y a b:Nat} (h:key x y=key a b):(x=a/\y=b)\/(x=b/\y=a):=by
 have h1:min x y=min a b:=congrArg Prod.fst h;have h2:max x y=max a b:=congrArg Prod.snd h;rcases Nat.le_total x y with c | c
 ·rw [Nat.min_eq_left c] at h1
  rw [Nat.max_eq_right c] at h2;rcases Nat.le_total a b with d | d
  ·rw [Nat.min_eq_left d] at h1
   rw [Nat.max_eq_right d] at h2;exact .inl ⟨h1,h2⟩
  ·rw [Nat.min_eq_right d] at h1
   rw [Nat.max_eq_left d] at h2;exact .inr ⟨h1,h2⟩
 ·rw [Nat.min_eq_right c] at h1
  rw [Nat.max_eq_left c] at h2;rcases Nat.le_total a b with d | d
  ·rw [Nat.min_eq_left d] at h1
   rw [Nat.max_eq_right d] at h2;exact .inr ⟨h2,h1⟩
  ·rw [Nat.min_eq_right d] at h1
   rw [Nat.max_eq_left d] at h2;exact .inl ⟨h2,h1⟩
structure Plus (W0 W:Rows) (T:List (Nat×Nat)):Prop where
 wb:Wb W
 can:∀ (p:Nat) (row:List Nat),W[p]?=some row->Can row
 len:W.length=W0.length
 nd:T.Nodup
 tie:∀ t∈T,t.1<t.2/\E W t.1 t.2
 row:∀ (p:Nat) (r0 r:List Nat),W0[p]?=some r0->W[p]?=some r->Ro (r.filter λ x=>decide (key p x∉T)) r0
theorem lV {r:List Nat} {f:Nat->Bool} (h:∀ x∈r,f x=true):r.filter f=r:=List.filter_eq_self.mpr h
theorem Plus.start {W:Rows} (h:Wb W) (c:∀ (p:Nat) (row:List Nat),W[p]?=some row->Can row):Plus W W []:=⟨h,c,rfl,.nil,by simp,λ p r0 r e1 e2=>by
 rw [e1] at e2;cases e2
 rw [lV (by simp)];exact .refl _⟩
theorem Plus.end {W0 W:Rows} (h:Plus W0 W []) (c:∀ (p:Nat) (row:List Nat),W0[p]?=some row->Can row):W=W0:=by
 refine List.ext_getElem h.len λ i h1 h2=>?_;have e1:=List.getElem?_eq_getElem h1;have e2:=List.getElem?_eq_getElem h2;have r:=h.row i _ _ e2 e1;rw [lV (by simp)] at r;exact r.eq (h.wb.nd _ _ e1) (h.can _ _ e1) (c _ _ e2)
theorem fW {r a:List Nat} {v q:Nat} (nd:r.Nodup) (hv:v∈r) (hq:q∉r) (h:Ro (qF r v q) a) (x:Nat):x∈a↔(x∈r/\x≠q)\/(x=q/\True):=by
 rw [<-h.mem,jI hv nd];constructor
 ·rintro (m | rfl)
  ·exact .inl ⟨m,λ z=>hq (z ▸ m)⟩
  ·exact .inr ⟨rfl,trivial⟩
 ·rintro (⟨m,_⟩ | ⟨rfl,_⟩)
  ·exact .inl m
  ·exact .inr rfl
theorem aK {r a:List Nat} {q:Nat} (h:Ro (r.filter λ x=>x != q) a) (x:Nat):x∈a↔(x∈r/\x≠q)\/(x=q/\False):=by
 rw [<-h.mem,mem_filter];simp
theorem yF {r:List Nat} {f g:Nat->Bool} (h:∀ x∈r,f x=g x):r.filter f=r.filter g:=List.filter_congr h
theorem Plus.put {W0 W:Rows} {T:List (Nat×Nat)} (h:Plus W0 W T) {p q v w:Nat} {rp rq a b:List Nat} (hp:W[p]?=some rp) (hq:W[q]?=some rq) (pq:p≠q) (hv:v∈rp) (hw:w∈rq) (nE:q∉rp) (ha:Ro (qF rp v q) a) (hb:Ro (qF rq w p) b) (ca:Can a) (cb:Can b) :
  Plus W0 (jL W p q a b) (T++[key p q]):=by
 have lp:p<W.length:=(List.getElem?_eq_some_iff.mp hp).1;have lq:q<W.length:=(List.getElem?_eq_some_iff.mp hq).1;have S:=h.wb.toNb
 have nE':p∉rq:=λ z=>by
  obtain ⟨r,e,m⟩:=S.sym q p ⟨rq,hq,z⟩;rw [hp] at e;cases e
  exact nE m
 have ia:=fW (S.nd _ _ hp) hv nE ha;have ib:=fW (S.nd _ _ hq) hw nE' hb;have nE1:¬ E W p q:=λ ⟨r,e,m⟩=>by rw [hp] at e;cases e;exact nE m
 have nE2:¬ E W q p:=λ z=>nE1 (S.sym _ _ z);have ee:=oN (c:=True) S hp hq pq ia ib;have sub:∀ x y,E W x y->E (jL W p q a b) x y:=λ x y z=>(ee x y).mpr (.inl ⟨z,λ ⟨h1,h2⟩=>nE1 (h1 ▸ h2 ▸ z),λ ⟨h1,h2⟩=>nE2 (h1 ▸ h2 ▸ z)⟩);have nb:=bQ (c:=True) S hp hq pq ia ib (ha.nd.mp (zA hv (S.nd _ _ hp) nE)) (hb.nd.mp (zA hw (S.nd _ _ hq) nE'))
 have notin:key p q∉T:=λ z=>by
  obtain ⟨h1,h2⟩:=h.tie _ z;simp only [key] at h1 h2;rcases Nat.lt_or_ge p q with l | l
  ·rw [Nat.min_eq_left (by omega),Nat.max_eq_right (by omega)] at h2
   exact nE1 h2
  ·rw [Nat.min_eq_right (by omega),Nat.max_eq_left (by omega)] at h2
   exact nE2 h2
 refine ⟨⟨nb,by rw [qQ];exact h.wb.three,λ x hx=>?_⟩,λ x row e=>?_,by rw [qQ];exact h.len,?_,λ t ht=>?_,λ x r0 r e0 e=>?_⟩
 ·rw [qQ] at hx
  exact (h.wb.con x hx).sub sub
 ·rw [jF lp lq pq] at e
  split at e
  ·cases e;exact cb
  ·split at e
   ·cases e;exact ca
   ·exact h.can _ _ e
 ·rw [nodup_append]
  exact ⟨h.nd,by simp,λ x hx y hy=>by rw [mem_singleton.mp hy];exact λ z=>notin (z ▸ hx)⟩
 ·rcases mem_append.mp ht with m | m
  ·obtain ⟨h1,h2⟩:=h.tie t m
   exact ⟨h1,sub _ _ h2⟩
  ·rw [mem_singleton.mp m]
   refine ⟨by simp only [key];omega,?_⟩;simp only [key];rcases Nat.lt_or_ge p q with l | l
   ·rw [Nat.min_eq_left (by omega),Nat.max_eq_right (by omega)]
    exact (ee p q).mpr (.inr ⟨trivial,.inl ⟨rfl,rfl⟩⟩)
   ·rw [Nat.min_eq_right (by omega),Nat.max_eq_left (by omega)]
    exact (ee q p).mpr (.inr ⟨trivial,.inr ⟨rfl,rfl⟩⟩)
 ·have same:∀ (x y:Nat),key x y≠key p q->decide (key x y∉T++[key p q])=decide (key x y∉T):=λ x y n=>by
   simp [n]
  have gone:∀ (x y:Nat),key x y=key p q->decide (key x y∉T++[key p q])=false:=λ x y n=>by
   simp [n]
  rw [jF lp lq pq] at e
  split at e
  ·rename_i hx
   subst hx;cases e
   refine (hb.symm.filter _).trans ?_;rw [lQ hw (gone x p (cB _ _)),yF (g:=λ y=>decide (key x y∉T)) λ y hy=>same x y λ z=>?_]
   ·exact h.row x r0 rq e0 hq
   ·rcases dM z with ⟨z1,z2⟩ | ⟨z1,z2⟩
    ·exact pq z1.symm
    ·rw [z2] at hy;exact nE' hy
  ·split at e
   ·rename_i n1 hx
    subst hx;cases e
    refine (ha.symm.filter _).trans ?_;rw [lQ hv (gone x q rfl),yF (g:=λ y=>decide (key x y∉T)) λ y hy=>same x y λ z=>?_]
    ·exact h.row x r0 rp e0 hp
    ·rcases dM z with ⟨z1,z2⟩ | ⟨z1,z2⟩
     ·rw [z2] at hy;exact nE hy
     ·exact pq z1
   ·rename_i n1 n2
    rw [yF (g:=λ y=>decide (key x y∉T)) λ y hy=>same x y λ z=>?_]
    ·exact h.row x r0 r e0 e
    ·rcases dM z with ⟨z1,z2⟩ | ⟨z1,z2⟩
     ·exact n2 z1
     ·exact n1 z1
theorem Plus.e0 {W0 W:Rows} {T:List (Nat×Nat)} (h:Plus W0 W T) {x y:Nat} (e:E W0 x y):E W x y/\key x y∉T:=by
 obtain ⟨r0,e0,m⟩:=e;have hx:=(List.getElem?_eq_some_iff.mp e0).1;have e1:=List.getElem?_eq_getElem (show x<W.length by rw [h.len];exact hx);have:=(h.row x r0 _ e0 e1).mem y |>.mpr m;rw [mem_filter] at this;exact ⟨⟨_,e1,this.1⟩,by simpa using this.2⟩
theorem Plus.out {W0 W:Rows} {X Y:List (Nat×Nat)} {p q:Nat} (W0b:Wb W0) (h:Plus W0 W (X++(p,q)::Y)) {rp rq a b:List Nat} (hp:W[p]?=some rp) (hq:W[q]?=some rq) (ha:Ro (rp.filter λ x=>x != q) a) (hb:Ro (rq.filter λ x=>x != p) b) (ca:Can a) (cb:Can b) :
  Plus W0 (jL W p q a b) (X++Y):=by
 have lp:p<W.length:=(List.getElem?_eq_some_iff.mp hp).1;have lq:q<W.length:=(List.getElem?_eq_some_iff.mp hq).1;have S:=h.wb.toNb;obtain ⟨lt,_⟩:=h.tie (p,q) (by simp);have pq:p≠q:=by simp at lt;omega
 have kpq:key p q=(p,q):=by simp at lt;simp [key];omega
 have ia:=aK ha;have ib:=aK hb;have ee:=oN (c:=False) S hp hq pq ia ib
 have nd:(X++Y).Nodup/\(p,q)∉X++Y:=by
  have:=List.perm_middle.nodup_iff.mp h.nd;rw [nodup_cons] at this;exact ⟨this.2,this.1⟩
 have sub0:∀ x y,E W0 x y->E (jL W p q a b) x y:=λ x y z=>by
  obtain ⟨z1,z2⟩:=h.e0 z;refine (ee x y).mpr (.inl ⟨z1,λ ⟨w1,w2⟩=>z2 ?_,λ ⟨w1,w2⟩=>z2 ?_⟩)
  ·rw [w1,w2,kpq];simp
  ·rw [w1,w2,cB,kpq];simp
 have nb:=bQ (c:=False) S hp hq pq ia ib (ha.nd.mp ((S.nd _ _ hp).filter _)) (hb.nd.mp ((S.nd _ _ hq).filter _));refine ⟨⟨nb,by rw [qQ];exact h.wb.three,λ x hx=>?_⟩,λ x row e=>?_,by rw [qQ];exact h.len,nd.1,λ t ht=>?_,λ x r0 r e0 e=>?_⟩
 ·rw [qQ,h.len] at hx
  exact (W0b.con x hx).sub sub0
 ·rw [jF lp lq pq] at e
  split at e
  ·cases e;exact cb
  ·split at e
   ·cases e;exact ca
   ·exact h.can _ _ e
 ·obtain ⟨h1,h2⟩:=h.tie t (by
   rcases mem_append.mp ht with m | m
   ·exact mem_append_left _ m
   ·exact mem_append_right _ (mem_cons_of_mem _ m))
  refine ⟨h1,(ee _ _).mpr (.inl ⟨h2,λ ⟨w1,w2⟩=>nd.2 ?_,λ ⟨w1,w2⟩=>?_⟩)⟩
  ·have:t=(p,q):=by rw [<-w1,<-w2]
   rw [<-this];exact ht
  ·simp at lt
   omega
 ·have same:∀ (x y:Nat),key x y≠key p q->decide (key x y∉X++Y)=decide (key x y∉X++(p,q)::Y):=λ x y n=>by
   rw [kpq] at n;simp [n]
  have gone:∀ (x y:Nat),key x y=key p q->decide (key x y∉X++(p,q)::Y)=false:=λ x y n=>by
   rw [n,kpq]
   simp
  have two:∀ (x z:Nat) (r:List Nat),key x z=key p q->(∀ y∈r,y≠z->key x y≠key p q)->(r.filter λ y=>y != z).filter (λ y=>decide (key x y∉X++Y))=r.filter λ y=>decide (key x y∉X++(p,q)::Y):=λ x z r hz hy=>by
   rw [List.filter_filter];refine yF λ y my=>?_;by_cases c:y=z
   ·rw [c,gone x z hz]
    simp
   ·rw [same x y (hy y my c)]
    simp [c]
  rw [jF lp lq pq] at e
  split at e
  ·rename_i hx
   subst hx;cases e
   refine (hb.symm.filter _).trans ?_;rw [two x p rq (cB _ _) λ y my c z=>?_]
   ·exact h.row x r0 rq e0 hq
   ·rcases dM z with ⟨z1,z2⟩ | ⟨z1,z2⟩
    ·exact pq z1.symm
    ·exact c z2
  ·split at e
   ·rename_i n1 hx
    subst hx;cases e
    refine (ha.symm.filter _).trans ?_;rw [two x q rp rfl λ y my c z=>?_]
    ·exact h.row x r0 rp e0 hp
    ·rcases dM z with ⟨z1,z2⟩ | ⟨z1,z2⟩
     ·exact c z2
     ·exact pq z1
   ·rename_i n1 n2
    rw [yF (g:=λ y=>decide (key x y∉X++(p,q)::Y)) λ y hy=>same x y λ z=>?_]
    ·exact h.row x r0 r e0 e
    ·rcases dM z with ⟨z1,z2⟩ | ⟨z1,z2⟩
     ·exact n2 z1
     ·exact n1 z1
theorem wN {W:Rows} (S:Nb W) {x y:Nat} (h:E W x y):∃ z,R W y z x/\nxt W (x,y)=(y,z)/\E W y z:=by
 obtain ⟨row,e,m⟩:=S.sym _ _ h;obtain ⟨z,n⟩:=kNM m;exact ⟨z,⟨row,e,n⟩,vH S.nd ⟨row,e,n⟩,⟨row,e,(kW n).1⟩⟩
theorem fU {W:Rows} (S:Nb W) {x y:Nat} (h:E W x y) (n:Nat):E W (it (nxt W) n (x,y)).1 (it (nxt W) n (x,y)).2:=by
 have:=(uQ S.nd S.sym).it n (mem_steps.mpr h);exact mem_steps.mp this
theorem kLT {α:Type} [DecidableEq α] (f:α->α) (x:α) {k:Nat} (h:it f k x=x) (n:Nat):it f (k*n) x=x:=by
 induction n with
 | zero=>rfl
 | succ n ih=>rw [Nat.mul_succ,yJ,h,ih]
theorem bB {α:Type} [DecidableEq α] (f:α->α) (x:α) {k:Nat} (h:it f k x=x) (n:Nat):it f n x=it f (n % k) x:=by
 conv=>lhs;rw [<-Nat.mod_add_div n k]
 rw [yJ,kLT f x h]
theorem kLG {r a:List Nat} {q z x:Nat} (nd:r.Nodup) (hq:q∈r) (h:Ro (r.filter λ x=>x != q) a):Nx a z x↔(z≠q/\x≠q/\Nx r z x)\/(z≠q/\x≠q/\Nx r z q/\Nx r q x):=by
 rw [<-h.nx,<-xC nd hq];obtain ⟨A,B,rfl⟩:=wO hq
 have n1:q∉A:=λ z=>by
  rw [nodup_append] at nd;exact nd.2.2 q z q (by simp) rfl
 rw [cL n1];exact kGB nd z x
structure Rest (W W':Rows) (p q:Nat):Prop where
 wb:Nb W
 nb':Nb W'
 pq:p≠q
 e:E W p q
 rp:∀ r,W[p]?=some r->∃ a,W'[p]?=some a/\Ro (r.filter λ x=>x != q) a
 rq:∀ r,W[q]?=some r->∃ a,W'[q]?=some a/\Ro (r.filter λ x=>x != p) a
 ro:∀ x,x≠p->x≠q->W'[x]?=W[x]?
theorem Rest.flip {W W':Rows} {p q:Nat} (h:Rest W W' p q):Rest W W' q p:=⟨h.wb,h.nb',h.pq.symm,h.wb.sym _ _ h.e,h.rq,h.rp,λ x h1 h2=>h.ro x h2 h1⟩
theorem Rest.r1p {W W':Rows} {p q:Nat} (h:Rest W W' p q) {z x:Nat} (r:R W p z x) (n1:z≠q) (n2:x≠q):R W' p z x:=by
 obtain ⟨row,e,n⟩:=r;obtain ⟨a,e',ro⟩:=h.rp row e;obtain ⟨row',f,m⟩:=h.e;rw [e] at f;cases f
 exact ⟨a,e',(kLG (h.wb.nd _ _ e) m ro).mpr (.inl ⟨n1,n2,n⟩)⟩
theorem Rest.r1 {W W':Rows} {p q:Nat} (h:Rest W W' p q) {y z x:Nat} (r:R W y z x) (n1:¬ (y=p/\z=q)) (n2:¬ (y=q/\z=p)) (n3:¬ (x=p/\y=q)) (n4:¬ (x=q/\y=p)):R W' y z x:=by
 by_cases hp:y=p
 ·subst hp
  exact h.r1p r (λ c=>n1 ⟨rfl,c⟩) (λ c=>n4 ⟨c,rfl⟩)
 ·by_cases hq:y=q
  ·subst hq
   exact h.flip.r1p r (λ c=>n2 ⟨rfl,c⟩) (λ c=>n3 ⟨c,rfl⟩)
  ·obtain ⟨row,e,n⟩:=r
   exact ⟨row,by rw [h.ro y hp hq];exact e,n⟩
structure Ins (W W':Rows) (p v q u:Nat):Prop where
 nb:Nb W
 nb':Nb W'
 pq:p≠q
 ne:¬ E W p q
 ep:E W p v
 eq:E W q u
 rp:∃ r r',W[p]?=some r/\W'[p]?=some r'/\Ro (qF r v q) r'
 rq:∃ r r',W[q]?=some r/\W'[q]?=some r'/\Ro (qF r u p) r'
 ro:∀ x,x≠p->x≠q->W'[x]?=W[x]?
theorem Ins.flip {W W':Rows} {p v q u:Nat} (h:Ins W W' p v q u):Ins W W' q u p v:=⟨h.nb,h.nb',h.pq.symm,λ z=>h.ne (h.nb.sym _ _ z),h.eq,h.ep,h.rq,h.rp,λ x a b=>h.ro x b a⟩
theorem Ins.rp' {W W':Rows} {p v q u:Nat} (h:Ins W W' p v q u) (z x:Nat):R W' p z x↔(z=v/\x=q)\/(z=q/\R W p v x)\/(z≠v/\R W p z x):=by
 obtain ⟨r,r',e1,e2,ro⟩:=h.rp
 have hv:v∈r:=by
  obtain ⟨r2,e,m⟩:=h.ep;rw [e1] at e;cases e
  exact m
 have hq:q∉r:=λ m=>h.ne ⟨r,e1,m⟩;have key:=aL hv (h.nb.nd _ _ e1) hq z x;have up:∀ a,R W p a x↔Nx r a x:=λ a=>⟨λ ⟨r2,e,n⟩=>by rw [e1] at e;cases e;exact n,λ n=>⟨r,e1,n⟩⟩;rw [up,up,<-key,ro.nx];exact ⟨λ ⟨r2,e,n⟩=>by rw [e2] at e;cases e;exact n,λ n=>⟨r',e2,n⟩⟩
theorem Ins.at_p {W W':Rows} {p v q u:Nat} (h:Ins W W' p v q u):nxt W' (q,p)=(p,v):=vH h.nb'.nd ((h.rp' v q).mpr (.inl ⟨rfl,rfl⟩))
theorem Ins.to_p {W W':Rows} {p v q u:Nat} (h:Ins W W' p v q u) {x y:Nat} (e:E W x y) (n:nxt W (x,y)=(p,v)):nxt W' (x,y)=(p,q):=by
 obtain ⟨z,r,n',_⟩:=wN h.nb e;rw [n'] at n;cases n
 exact vH h.nb'.nd ((h.rp' q x).mpr (.inr (.inl ⟨rfl,r⟩)))
theorem Ins.other {W W':Rows} {p v q u:Nat} (h:Ins W W' p v q u) {x y:Nat} (e:E W x y) (n1:nxt W (x,y)≠(p,v)) (n2:nxt W (x,y)≠(q,u)):nxt W' (x,y)=nxt W (x,y):=by
 obtain ⟨z,r,n',_⟩:=wN h.nb e;rw [n'] at n1 n2 ⊢;by_cases c:y=p
 ·subst c
  exact vH h.nb'.nd ((h.rp' z x).mpr (.inr (.inr ⟨λ c=>n1 (by rw [c]),r⟩)))
 by_cases c2:y=q
 ·subst c2
  exact vH h.nb'.nd ((h.flip.rp' z x).mpr (.inr (.inr ⟨λ c=>n2 (by rw [c]),r⟩)))
 obtain ⟨r1,e1,x1⟩:=r;exact vH h.nb'.nd ⟨r1,by rw [h.ro y c c2];exact e1,x1⟩
theorem Ins.walk {W W':Rows} {p v q u:Nat} (h:Ins W W' p v q u) {m:Nat} (n1:∀ j,0<j->j<m->it (nxt W) j (p,v)≠(p,v)) (n2:∀ j,j<m->it (nxt W) j (p,v)≠(q,u)):∀ i,i<m->it (nxt W') (i+1) (q,p)=it (nxt W) i (p,v)
 | 0,_=>h.at_p
 | i+1,hi=>by
  have ih:=h.walk n1 n2 i (by omega);show nxt W' (it (nxt W') (i+1) (q,p))=nxt W (it (nxt W) i (p,v));rw [ih];exact h.other (fU h.nb h.ep i) (n1 (i+1) (by omega) hi) (n2 (i+1) hi)
theorem kLU {W:Rows} (S:Nb W) {p v:Nat} (e:E W p v) {k:Nat} (first:∀ j,0<j->j<k->it (nxt W) j (p,v)≠(p,v)) {i j:Nat} (hi:i<k) (hj:j<k) (z:it (nxt W) i (p,v)=it (nxt W) j (p,v)):i=j:=by
 have lem:∀ i j,i<j->j<k->it (nxt W) i (p,v)≠it (nxt W) j (p,v):=λ i j ij jk z=>by
  refine first (j-i) (by omega) (by omega) ?_
  have e2:it (nxt W) i (it (nxt W) (j-i) (p,v))=it (nxt W) i (p,v):=by
   rw [<-yJ,show i+(j-i)=j by omega];exact z.symm
  exact (uQ S.nd S.sym).back i ((uQ S.nd S.sym).it _ (mem_steps.mpr e)) (mem_steps.mpr e) e2
 rcases Nat.lt_trichotomy i j with l | l | l
 ·exact absurd z (lem i j l hj)
 ·exact l
 ·exact absurd z.symm (lem j i l hi)
theorem Ins.faces {W W':Rows} {p v q u k m:Nat} (h:Ins W W' p v q u) (back:it (nxt W) k (p,v)=(p,v)) (first:∀ j,0<j->j<k->it (nxt W) j (p,v)≠(p,v)) (hm:m<k) (em:it (nxt W) m (p,v)=(q,u)) :
  0<m/\(∀ i,i<m->it (nxt W') (i+1) (q,p)=it (nxt W) i (p,v))/\it (nxt W') (m+1) (q,p)=(q,p) /\
  (∀ i,i<k-m->it (nxt W') (i+1) (p,q)=it (nxt W) (m+i) (p,v))/\it (nxt W') (k-m+1) (p,q)=(p,q):=by
 have m0:0<m:=by
  rcases Nat.eq_zero_or_pos m with z | z
  ·subst z
   exact absurd (congrArg Prod.fst em) h.pq
  ·exact z
 have inj:=λ {i j:Nat}=>kLU h.nb h.ep first (i:=i) (j:=j);have w1:=h.walk (m:=m) (λ j a b=>first j a (by omega)) (λ j b z=>by have:=inj (by omega) hm (z.trans em.symm);omega);have sh:∀ i,it (nxt W) i (q,u)=it (nxt W) (i+m) (p,v):=λ i=>by rw [yJ,em]
 have w2:=h.flip.walk (m:=k-m) (λ j a b z=>by rw [sh,<-em] at z;have:=inj (by omega) hm z;omega) (λ j b z=>by
  rw [sh] at z;rcases Nat.lt_or_ge (j+m) k with l | l
  ·exact first (j+m) (by omega) l z
  ·omega)
 refine ⟨m0,w1,?_,λ i hi=>by rw [w2 i hi,sh,Nat.add_comm],?_⟩
 ·show nxt W' (it (nxt W') m (q,p))=(q,p)
  rw [show m=(m-1)+1 by omega,w1 (m-1) (by omega)];refine h.flip.to_p (fU h.nb h.ep (m-1)) ?_;have:it (nxt W) ((m-1)+1) (p,v)=(q,u):=by rw [show m-1+1=m by omega];exact em
  exact this
 ·show nxt W' (it (nxt W') (k-m) (p,q))=(p,q)
  rw [show k-m=(k-m-1)+1 by omega,w2 (k-m-1) (by omega),sh];refine h.to_p (fU h.nb h.ep _) ?_;have:it (nxt W) ((k-m-1+m)+1) (p,v)=(p,v):=by rw [show k-m-1+m+1=k by omega];exact back
  exact this
theorem kLW {W:Rows} (S:Nb W) {p v q u:Nat} {rp rq a b:List Nat} (hp:W[p]?=some rp) (hq:W[q]?=some rq) (pq:p≠q) (hv:v∈rp) (hu:u∈rq) (nE:q∉rp) (ha:Ro (qF rp v q) a) (hb:Ro (qF rq u p) b):Ins W (jL W p q a b) p v q u:=by
 have lp:=(List.getElem?_eq_some_iff.mp hp).1;have lq:=(List.getElem?_eq_some_iff.mp hq).1
 have nE2:p∉rq:=λ z=>by
  obtain ⟨r,e,m⟩:=S.sym q p ⟨rq,hq,z⟩;rw [hp] at e;cases e
  exact nE m
 have N:Nb (jL W p q a b):=bQ (c:=True) S hp hq pq (fW (S.nd _ _ hp) hv nE ha) (fW (S.nd _ _ hq) hu nE2 hb) (ha.nd.mp (zA hv (S.nd _ _ hp) nE)) (hb.nd.mp (zA hu (S.nd _ _ hq) nE2));refine ⟨S,N,pq,λ z=>?_,⟨rp,hp,hv⟩,⟨rq,hq,hu⟩,⟨rp,a,hp,?_,ha⟩,⟨rq,b,hq,?_,hb⟩,λ x n1 n2=>?_⟩
 ·obtain ⟨r,e,m⟩:=z
  rw [hp] at e;cases e
  exact nE m
 ·rw [jF lp lq pq,if_neg pq,if_pos rfl]
 ·rw [jF lp lq pq,if_pos rfl]
 ·rw [jF lp lq pq,if_neg n2,if_neg n1]
end Tri
local macro_rules | `(tactic| walk_at "sort_open gallop")=>`(tactic| delta $(Lean.mkIdent (Lean.mkPrivateNameCore `PySem.Builtin.List.W1All `PySem.Builtin.gallop)):ident)
namespace Srt
set_option autoImplicit false
open PySem PyProof.Rows
def uD:Bool->Keyed->Array Keyed->Nat->Nat->Nat->StateT SortSt Sem (Option Nat):=sortPriv% PySem.Builtin.gallop
def cP (left:Bool) (key:Keyed) (arr:Array Keyed) (base:Nat) (i:Nat):StateT SortSt Sem (Option Bool):=do
 let x <-elem' arr (base+i)
 if left then lt' x key else return (<-lt' key x).map (!·)
section
variable {M:Model} {A:Around} {E:Value->Shared->Prop} {s:Shared}
def kJR (left:Bool) (key:Keyed) (arr:Array Keyed) (base n lo0 hi0:Nat):StateT SortSt Sem (Option Nat):=do
 let mut lo:=lo0
 let mut hi:=hi0
 for _ in [0:n] do
  if lo >= hi then break
  let m:=lo+(hi-lo) / 2
  let some more <-cP left key arr base m | return none
  if more then lo:=m+1 else hi:=m
 return some hi
variable {left:Bool} {key:Keyed} {arr:Array Keyed} {base n hint:Nat} {Q:Option Nat->SortSt->Prop} {st:SortSt}
theorem mR (b:Nat->Bool) {lo hi:Nat}
  (hb:∀ i,i<n->∀ Q:Option Bool->SortSt->Prop,Q (some (b i)) st->wpS M A E s (cP left key arr base i) Q st)
  (mono:∀ i j,i<=j->j<n->b j=true->b i=true) (hlh:lo<=hi) (hn:hi<=n) (h1:∀ i,i<lo->b i=true) (h2:∀ i,hi<=i->i<n->b i=false)
  (h:∀ k,k<=n->(∀ i,i<k->b i=true)->(∀ i,k<=i->i<n->b i=false)->Q (some k) st):wpS M A E s (kJR left key arr base n lo hi) Q st:=by
 unfold kJR
 refine wpS_bind (wpS_mono (wpS_forRange (I:=λ x c st'=>st'=st/\∃ l r,c=(none,l,r)/\l<=r/\r<=n/\r-l<=n-x/\(∀ i,i<l->b i=true)/\∀ i,r<=i->i<n->b i=false)
  (Q:=λ c st'=>st'=st/\∃ l,c=(none,l,l)/\l<=n/\(∀ i,i<l->b i=true)/\∀ i,l<=i->i<n->b i=false) ?step ?fin ⟨rfl,lo,hi,rfl,hlh,hn,by omega,h1,h2⟩) ?post)
 case post =>
  rintro c st' ⟨rfl,l,rfl,ln,a1,a2⟩;exact wpS_pure (h l ln a1 a2)
 case fin =>
  rintro c st' ⟨rfl,l,r,rfl,lr,rn,d,a1,a2⟩;have:l=r:=by omega
  subst this;exact ⟨rfl,l,rfl,rn,a1,a2⟩
 case step =>
  rintro x c st' _ hx ⟨rfl,l,r,rfl,lr,rn,d,a1,a2⟩;dsimp only;by_cases hge:l >= r
  ·rw [if_pos hge]
   have:l=r:=by omega
   subst this;exact wpS_pure ⟨rfl,l,rfl,rn,a1,a2⟩
  ·rw [if_neg hge]
   refine wpS_bind (hb _ (by omega) _ ?_)
   cases e:b (l+(r-l) / 2)
   case true =>
    simp only [if_true];exact wpS_pure ⟨rfl,_,r,rfl,by omega,rn,by omega,λ i hi=>mono i _ (by omega) (by omega) e,a2⟩
   case false =>
    simp only [Bool.false_eq_true,if_false];refine wpS_pure ⟨rfl,l,_,rfl,by omega,by omega,by omega,a1,λ i i1 i2=>?_⟩
    cases z:b i with
    | false=>rfl
    | true=>rw [mono _ i i1 i2 z] at e;cases e
theorem sU (b:Nat->Bool)
  (hb:∀ i,i<n->∀ Q:Option Bool->SortSt->Prop,Q (some (b i)) st->wpS M A E s (cP left key arr base i) Q st)
  (mono:∀ i j,i<=j->j<n->b j=true->b i=true) (hh:hint<n)
  (h:∀ k,k<=n->(∀ i,i<k->b i=true)->(∀ i,k<=i->i<n->b i=false)->Q (some k) st):wpS M A E s (uD left key arr base n hint) Q st:=by
 unfold uD
 walk_at "sort_open gallop"
 dsimp only
 have nf:∀ {i j:Nat},i<=j->j<n->b i=false->b j=false:=λ {i j} h1 h2 e=>by
  cases z:b j with
  | false=>rfl
  | true=>rw [mono i j h1 h2 z] at e;cases e
 refine wpS_bind (hb hint hh _ ?_)
 cases e:b hint
 case true =>
  simp only [if_true]
  refine wpS_bind (wpS_mono (wpS_forRange (I:=λ x c st'=>st'=st/\∃ l o,c=(none,l,o)/\l<o/\x+1<=o/\hint+l<n/\b (hint+l)=true)
   (Q:=λ c st'=>st'=st/\∃ l o,c=(none,l,o)/\l<o/\hint+l<n/\b (hint+l)=true/\(n-hint<=o\/(hint+o<n/\b (hint+o)=false))) ?step ?fin ⟨rfl,0,1,rfl,by omega,by omega,by omega,e⟩) ?post)
  case fin =>
   rintro c st' ⟨rfl,l,o,rfl,lo,xo,ln,bl⟩;exact ⟨rfl,l,o,rfl,lo,ln,bl,.inl (by omega)⟩
  case step =>
   rintro x c st' _ hx ⟨rfl,l,o,rfl,lo,xo,ln,bl⟩;dsimp only;by_cases hge:o >= n-hint
   ·rw [if_pos hge]
    exact wpS_pure ⟨rfl,l,o,rfl,lo,ln,bl,.inl hge⟩
   ·rw [if_neg hge]
    refine wpS_bind (hb _ (by omega) _ ?_)
    cases z:b (hint+o)
    case true =>
     simp only [Bool.not_true,Bool.false_eq_true,if_false];exact wpS_pure ⟨rfl,o,_,rfl,by omega,by omega,by omega,z⟩
    case false =>
     simp only [Bool.not_false,if_true];exact wpS_pure ⟨rfl,l,o,rfl,lo,ln,bl,.inr ⟨by omega,z⟩⟩
  case post =>
   rintro c st' ⟨rfl,l,o,rfl,lo,ln,bl,bo⟩;refine mR (lo:=hint+l+1) (hi:=hint+min o (n-hint)) b hb mono (by omega) (by omega) (λ i hi=>mono i (hint+l) (by omega) ln bl) (λ i i1 i2=>?_) h;rcases bo with z | ⟨z1,z2⟩
   ·omega
   ·exact nf (i:=hint+o) (by omega) i2 z2
 case false =>
  simp only [Bool.false_eq_true,if_false]
  refine wpS_bind (wpS_mono (wpS_forRange (I:=λ x c st'=>st'=st/\∃ l o,c=(none,l,o)/\l<o/\x+1<=o/\l<=hint/\b (hint-l)=false)
   (Q:=λ c st'=>st'=st/\∃ l o,c=(none,l,o)/\l<o/\l<=hint/\b (hint-l)=false/\(hint+1<=o\/(o<=hint/\b (hint-o)=true))) ?step ?fin ⟨rfl,0,1,rfl,by omega,by omega,by omega,e⟩) ?post)
  case fin =>
   rintro c st' ⟨rfl,l,o,rfl,lo,xo,ln,bl⟩;exact ⟨rfl,l,o,rfl,lo,ln,bl,.inl (by omega)⟩
  case step =>
   rintro x c st' _ hx ⟨rfl,l,o,rfl,lo,xo,ln,bl⟩;dsimp only;by_cases hge:o >= hint+1
   ·rw [if_pos hge]
    exact wpS_pure ⟨rfl,l,o,rfl,lo,ln,bl,.inl hge⟩
   ·rw [if_neg hge]
    refine wpS_bind (hb _ (by omega) _ ?_)
    cases z:b (hint-o)
    case false =>
     simp only [Bool.false_eq_true,if_false];exact wpS_pure ⟨rfl,o,_,rfl,by omega,by omega,by omega,z⟩
    case true =>
     simp only [if_true];exact wpS_pure ⟨rfl,l,o,rfl,lo,ln,bl,.inr ⟨by omega,z⟩⟩
  case post =>
   rintro c st' ⟨rfl,l,o,rfl,lo,ln,bl,bo⟩;refine mR (lo:=hint+1-min o (hint+1)) (hi:=hint-l) b hb mono (by omega) (by omega) (λ i hi=>?_) (λ i i1 i2=>nf (i:=hint-l) i1 i2 bl) h;rcases bo with z | ⟨z1,z2⟩
   ·omega
   ·exact mono i (hint-o) (by omega) (by omega) z2
end
end Srt
namespace Srt
set_option autoImplicit false
open PySem PyProof.Rows
section
variable {α:Type}
structure Wk (lb:α->α->Bool):Prop where
 irr:∀ a,lb a a=false
 neg:∀ a b c,lb a c=true->lb a b=true\/lb b c=true
 tr:∀ a b c,lb a b=true->lb b c=true->lb a c=true
variable {lb:α->α->Bool}
def le (lb:α->α->Bool) (a b:α):Prop:=lb b a=false
theorem Wk.refl (W:Wk lb) (a:α):le lb a a:=W.irr a
theorem Wk.of_lt (W:Wk lb) {a b:α} (h:lb a b=true):le lb a b:=by
 unfold le
 cases e:lb b a with
 | false=>rfl
 | true=>have:=W.tr _ _ _ h e;rw [W.irr] at this;cases this
theorem Wk.trans (W:Wk lb) {a b c:α} (h:le lb a b) (k:le lb b c):le lb a c:=by
 unfold le at *
 cases e:lb c a with
 | false=>rfl
 | true =>
  rcases W.neg c b a e with z | z
  ·rw [k] at z;cases z
  ·rw [h] at z;cases z
def jC (lb:α->α->Bool) (l:List α):Prop:=l.Pairwise (le lb)
structure Mg (lb:α->α->Bool) (A B:List α) (out ra rb:List α):Prop where
 sa:jC lb (out++ra)
 sb:jC lb (out++rb)
 pm:(out++(ra++rb)).Perm (A++B)
theorem Mg.moveA {A B out c ra rb:List α} (h:Mg lb A B out (c++ra) rb) (hc:∀ x∈c,∀ y∈rb,le lb x y):Mg lb A B (out++c) ra rb:=by
 refine ⟨by rw [append_assoc];exact h.sa,?_,?_⟩
 ·have h1:=pairwise_append.mp h.sa
  have h2:=pairwise_append.mp h.sb;have h3:=pairwise_append.mp h1.2.1;rw [jC,append_assoc];refine pairwise_append.mpr ⟨h1.1,pairwise_append.mpr ⟨h3.1,h2.2.1,hc⟩,λ x hx y hy=>?_⟩;rcases mem_append.mp hy with z | z
  ·exact h1.2.2 x hx y (mem_append_left _ z)
  ·exact h2.2.2 x hx y z
 ·refine List.Perm.trans ?_ h.pm
  simp only [append_assoc];exact List.Perm.refl _
theorem Mg.swap {A B out ra rb:List α} (h:Mg lb A B out ra rb):Mg lb B A out rb ra :=
 ⟨h.sb,h.sa,((perm_append_comm).append_left out).trans (h.pm.trans perm_append_comm)⟩
theorem Mg.moveB {A B out c ra rb:List α} (h:Mg lb A B out ra (c++rb)) (hc:∀ x∈c,∀ y∈ra,le lb x y):Mg lb A B (out++c) ra rb:=(h.swap.moveA hc).swap
def Res (lb:α->α->Bool) (A B r:List α):Prop:=jC lb r/\r.Perm (A++B)
theorem Mg.endA {A B out ra:List α} (h:Mg lb A B out ra []):Res lb A B (out++ra++[]):=⟨by simpa using h.sa,by simpa using h.pm⟩
theorem Mg.endB {A B out rb:List α} (h:Mg lb A B out [] rb):Res lb A B (out++[]++rb):=⟨by simpa using h.sb,by simpa using h.pm⟩
theorem Mg.last {A B out rb:List α} {z:α} (h:Mg lb A B out [z] rb) (hz:∀ y∈rb,le lb y z):Res lb A B (out++rb++[z]):=by
 refine ⟨?_,?_⟩
 ·have h1:=pairwise_append.mp h.sa
  have h2:=pairwise_append.mp h.sb;refine pairwise_append.mpr ⟨h.sb,pairwise_singleton _ _,λ x hx y hy=>?_⟩;have:y=z:=by simpa using hy
  subst this;rcases mem_append.mp hx with w | w
  ·exact h1.2.2 x w y (by simp)
  ·exact hz x w
 ·refine List.Perm.trans ?_ h.pm
  rw [append_assoc];exact perm_append_comm.append_left out
end
def lG:Array Keyed->Array Keyed->StateT SortSt Sem (Array Keyed):=sortPriv% PySem.Builtin.mergeLo
def yE:Nat->StateT SortSt Sem Unit:=sortPriv% PySem.Builtin.setMinGallop
abbrev vF (st:SortSt) (g:Nat):SortSt:=SortSt.mk' (kindOf st) (arrOf st) (pendingOf st) g (failedOf st)
theorem setMinGallop'_eq (g:Nat):yE g=modify λ s=>vF s g:=rfl
end Srt
local macro_rules | `(tactic| walk_at "sort_open mergeLo")=>`(tactic| delta $(Lean.mkIdent (Lean.mkPrivateNameCore `PySem.Builtin.List.W1All `PySem.Builtin.mergeLo)):ident)
namespace Srt
set_option autoImplicit false
open PySem PyProof.Rows
section
variable {M:Model} {A:Around} {E:Value->Shared->Prop} {s:Shared} {lb:Keyed->Keyed->Bool} {D:Keyed->Prop} {kd:SortKind}
def aE (M:Model) (A:Around) (E:Value->Shared->Prop) (s:Shared) (lb:Keyed->Keyed->Bool) (D:Keyed->Prop) (kd:SortKind):Prop :=
 ∀ x y,D x->D y->∀ (st:SortSt) (Q:Option Bool->SortSt->Prop),kindOf st=kd->Q (some (lb x y)) st->wpS M A E s (lt' x y) Q st
theorem qE {arr:Array Keyed} {i:Nat} {p:Keyed} {Q:Keyed->SortSt->Prop} {st:SortSt} (h:arr[i]?=some p) (q:Q p st):wpS M A E s (elem' arr i) Q st:=by
 rw [elem'_eq,h];exact wpS_pure q
def Sm (st st':SortSt):Prop:=kindOf st'=kindOf st/\arrOf st'=arrOf st/\pendingOf st'=pendingOf st/\failedOf st'=failedOf st
theorem Sm.refl (st:SortSt):Sm st st:=⟨rfl,rfl,rfl,rfl⟩
theorem Sm.gal {st st':SortSt} (h:Sm st st') (g:Nat):Sm st (vF st' g):=h
theorem vK {x:String} {Q:Unit->SortSt->Prop} {st:SortSt} (q:Q () st):wpS M A E s (liftM (rule x):StateT SortSt Sem Unit) Q st:=wpS_lift (wpAny_rule ⟨rfl,q⟩)
theorem sW (hL:aE M A E s lb D kd) {left:Bool} {key x:Keyed} {arr:Array Keyed} {base i:Nat} {Q:Option Bool->SortSt->Prop} {st:SortSt} (hk:kindOf st=kd) (hx:arr[base+i]?=some x) (dk:D key) (dx:D x)
  (q:Q (some (if left then lb x key else !lb key x)) st):wpS M A E s (cP left key arr base i) Q st:=by
 unfold cP;refine wpS_bind (qE hx ?_)
 cases left with
 | true =>
  simp only [if_true] at q ⊢;exact hL _ _ dx dk st _ hk q
 | false =>
  simp only [Bool.false_eq_true,if_false] at q ⊢;exact wpS_bind (hL _ _ dk dx st _ hk (wpS_pure q))
theorem aF (W:Wk lb) (hL:aE M A E s lb D kd) {left:Bool} {key:Keyed} {arr:Array Keyed} {base n hint:Nat} {Q:Option Nat->SortSt->Prop} {st:SortSt} (hk:kindOf st=kd) (dk:D key) (da:∀ x∈arr.toList,D x)
  (hn:base+n<=arr.size) (hs:∀ i j (hi:i<=j) (hj:j<n),le lb (arr[base+i]'(by omega)) (arr[base+j]'(by omega))) (hh:hint<n)
  (h:∀ k,k<=n->(∀ i (hi:i<k) (hin:i<n),if left then lb (arr[base+i]'(by omega)) key=true else le lb (arr[base+i]'(by omega)) key) ->
   (∀ i (hi:k<=i) (hin:i<n),if left then le lb key (arr[base+i]'(by omega)) else lb key (arr[base+i]'(by omega))=true)->Q (some k) st):wpS M A E s (uD left key arr base n hint) Q st:=by
 have g:∀ i,i<n->arr[base+i]?=some (arr.getD (base+i) key):=λ i hi=>by
  rw [getElem?_pos arr (base+i) (by omega)]
  congr 1
  simp [Array.getD,show base+i<arr.size by omega]
 have ge:∀ i (hi:i<n),arr.getD (base+i) key=arr[base+i]'(by omega):=λ i hi=>by simp [Array.getD,show base+i<arr.size by omega]
 refine sU (λ i=>if left then lb (arr.getD (base+i) key) key else !lb key (arr.getD (base+i) key)) (λ i hi Q q=>sW hL hk (g i hi) dk (by rw [ge i hi];exact da _ (by simp)) q) (λ i j hi hj e=>?_) hh (λ k kn h1 h2=>h k kn (λ i hi hin=>?_) (λ i hi hin=>?_))
 ·have:=hs i j hi hj
  rw [ge i (by omega)];rw [ge j hj] at e
  cases left with
  | true =>
   simp only [if_true] at e ⊢;rcases W.neg _ (arr[base+i]'(by omega)) _ e with z | z
   ·rw [show lb _ _=false from this] at z;cases z
   ·exact z
  | false =>
   simp only [Bool.false_eq_true,if_false,Bool.not_eq_true'] at e ⊢;exact W.trans (lb:=lb) this (show le lb _ _ from e)
 ·have:=h1 i hi
  rw [ge i hin] at this
  cases left with
  | true=>simpa using this
  | false=>simp only [Bool.false_eq_true,if_false,Bool.not_eq_true'] at this ⊢;exact this
 ·have:=h2 i hi hin
  rw [ge i hin] at this
  cases left with
  | true=>simp only [if_true] at this ⊢;exact this
  | false=>simp only [Bool.false_eq_true,if_false,Bool.not_eq_false'] at this ⊢;exact this
abbrev LS:=Option (Array Keyed)×Array Keyed×Nat×Nat×Nat×Nat×Nat
section
variable (a b:Array Keyed)
def pC (out:Array Keyed) (ia ib g k k1:Nat):StateT SortSt Sem (ForInStep LS):=do
 let x <-elem' a ia
 if (ia+1+1 == a.size)=true then pure (.done (some (out.push x++b.extract ib++a.extract (ia+1)),out.push x,ia+1,ib,g,k,k1))
 else if (decide (k<7) && decide (k1<7))=true then pure (.done (none,out.push x,ia+1,ib,g,k,k1)) else pure (.yield (none,out.push x,ia+1,ib,g,k,k1))
def pB (out:Array Keyed) (ia ib g k ob:Nat):StateT SortSt Sem (ForInStep LS):=do
 let y <-elem' b ib
 if (ib+1 == b.size)=true then pure (.done (some (out.push y++a.extract ia++b.extract (ib+1)),out.push y,ia,ib+1,g,k,ob))
 else do
  let x <-elem' a ia
  let r <-uD true x b (ib+1) (b.size-(ib+1)) 0
  match r with
  | some k1 =>
   if k1>0 then
    if (ib+1+k1 == b.size)=true then pure (.done (some (out.push y++b.extract (ib+1) (ib+1+k1)++a.extract ia++b.extract (ib+1+k1)),out.push y++b.extract (ib+1) (ib+1+k1),ia,ib+1+k1,g,k,k1))
    else pC a b (out.push y++b.extract (ib+1) (ib+1+k1)) ia (ib+1+k1) g k k1
   else pC a b (out.push y) ia (ib+1) g k k1
  | x=>pure (.done (some (out.push y++a.extract ia++b.extract (ib+1)),out.push y,ia,ib+1,g,k,ob))
def pA (out:Array Keyed) (ia ib g oa ob:Nat):StateT SortSt Sem (ForInStep LS):=do
 yE g
 let y <-elem' b ib
 let r <-uD false y a ia (a.size-ia) 0
 match r with
 | some k =>
  if k>0 then
   if (ia+k+1 == a.size)=true then pure (.done (some (out++a.extract ia (ia+k)++b.extract ib++a.extract (ia+k)),out++a.extract ia (ia+k),ia+k,ib,g,k,ob))
   else if (ia+k == a.size)=true then pure (.done (some (out++a.extract ia (ia+k)++a.extract (ia+k)++b.extract ib),out++a.extract ia (ia+k),ia+k,ib,g,k,ob))
   else pB a b (out++a.extract ia (ia+k)) (ia+k) ib g k ob
  else pB a b out ia ib g k ob
 | x=>pure (.done (some (out++a.extract ia++b.extract ib),out,ia,ib,g,oa,ob))
abbrev LS1:=Option (Array Keyed)×Array Keyed×Nat×Nat×Nat×Nat
def p1 (mg:Nat) (c:LS1):StateT SortSt Sem (ForInStep LS1):=do
 let y <-elem' b c.2.2.2.1
 let x <-elem' a c.2.2.1
 let r <-lt' y x
 match r with
 | some bw =>
  if bw=true then do
   let y <-elem' b c.2.2.2.1
   if (c.2.2.2.1+1 == b.size)=true then pure (.done (some (c.2.1.push y++a.extract c.2.2.1++b.extract (c.2.2.2.1+1)),c.2.1.push y,c.2.2.1,c.2.2.2.1+1,0,c.2.2.2.2.2+1))
   else if c.2.2.2.2.2+1 >= mg then pure (.done (none,c.2.1.push y,c.2.2.1,c.2.2.2.1+1,0,c.2.2.2.2.2+1))
   else pure (.yield (none,c.2.1.push y,c.2.2.1,c.2.2.2.1+1,0,c.2.2.2.2.2+1))
  else do
   let x <-elem' a c.2.2.1
   if (c.2.2.1+1+1 == a.size)=true then pure (.done (some (c.2.1.push x++b.extract c.2.2.2.1++a.extract (c.2.2.1+1)),c.2.1.push x,c.2.2.1+1,c.2.2.2.1,c.2.2.2.2.1+1,0))
   else if c.2.2.2.2.1+1 >= mg then pure (.done (none,c.2.1.push x,c.2.2.1+1,c.2.2.2.1,c.2.2.2.2.1+1,0))
   else pure (.yield (none,c.2.1.push x,c.2.2.1+1,c.2.2.2.1,c.2.2.2.2.1+1,0))
 | x=>pure (.done (some (c.2.1++a.extract c.2.2.1++b.extract c.2.2.2.1),c.2.1,c.2.2.1,c.2.2.2.1,c.2.2.2.2.1,c.2.2.2.2.2))
abbrev LS0:=Option (Array Keyed)×Array Keyed×Nat×Nat×Nat
def p0 (c:LS0):StateT SortSt Sem (ForInStep LS0):=do
 let d <-forIn [:a.size+b.size] ((none,c.2.1,c.2.2.1,c.2.2.2.1,0,0):LS1) λ x d=>p1 a b c.2.2.2.2 d
 match d.1 with
 | some r=>pure (.done (some r,d.2.1,d.2.2.1,d.2.2.2.1,c.2.2.2.2))
 | none=>do
  liftM (rule "list.sort.gallop")
  let f <-forIn [:a.size+b.size] ((none,d.2.1,d.2.2.1,d.2.2.2.1,c.2.2.2.2+1,d.2.2.2.2.1,d.2.2.2.2.2):LS) λ x f =>
   if f.2.2.2.2.1>1 then pA a b f.2.1 f.2.2.1 f.2.2.2.1 (f.2.2.2.2.1-1) f.2.2.2.2.2.1 f.2.2.2.2.2.2 else pA a b f.2.1 f.2.2.1 f.2.2.2.1 f.2.2.2.2.1 f.2.2.2.2.2.1 f.2.2.2.2.2.2
  match f.1 with
  | some r=>pure (.done (some r,f.2.1,f.2.2.1,f.2.2.2.1,f.2.2.2.2.1))
  | none=>do
   yE (f.2.2.2.2.1+1)
   pure (.yield (none,f.2.1,f.2.2.1,f.2.2.2.1,f.2.2.2.2.1+1))
theorem mergeLo'_parts:lG a b=(do
  liftM (rule "list.sort.merge-lo")
  let y <-elem' b 0
  if (1 == b.size)=true then pure (#[y]++a.extract 0++b.extract 1)
  else if (0+1 == a.size)=true then pure (#[y]++b.extract 1++a.extract 0)
  else do
   let st <-get
   let c <-forIn [:a.size+b.size] ((none,#[y],0,1,gallopOf st):LS0) λ x c=>p0 a b c
   match c.1 with
   | some r=>pure r
   | none=>unsupported "internal:list.sort.merge-bound"):=by
 unfold lG
 walk_at "sort_open mergeLo"
 dsimp only;refine congrArg _ (funext λ _=>?_);refine congrArg _ (funext λ y=>?_);refine congrArg _ ?_;refine congrArg _ ?_;refine congrArg _ (funext λ st=>?_);refine congr (congrArg _ (congrArg _ (funext λ x=>funext λ c=>?_))) (funext λ c=>by cases c.1<;>rfl);unfold p0;refine congr (congrArg _ (congrArg _ (funext λ x=>funext λ d=>?_))) (funext λ d=>?_)
 ·unfold p1
  refine congrArg _ (funext λ _=>?_);refine congrArg _ (funext λ _=>?_);refine congrArg _ (funext λ r=>?_);cases r<;>rfl
 ·cases d.1 with
  | some r=>rfl
  | none =>
   dsimp only;refine congrArg _ (funext λ _=>?_);refine congr (congrArg _ (congrArg _ (funext λ x=>funext λ f=>?_))) (funext λ f=>by cases f.1<;>rfl);have tail:∀ (out:Array Keyed) (ia ib g k ob:Nat),True:=λ _ _ _ _ _ _=>trivial;refine ite_congr rfl (λ _=>?_) (λ _=>?_)
   all_goals
    unfold pA;refine congrArg _ (funext λ _=>?_);refine congrArg _ (funext λ y=>?_);refine congrArg _ (funext λ r=>?_)
    cases r with
    | none=>rfl
    | some k =>
     dsimp only;refine ite_congr rfl (λ _=>ite_congr rfl (λ _=>rfl) (λ _=>ite_congr rfl (λ _=>rfl) (λ _=>?_))) (λ _=>?_)
     all_goals
      unfold pB;refine congrArg _ (funext λ y=>?_);refine ite_congr rfl (λ _=>rfl) (λ _=>?_);refine congrArg _ (funext λ x=>?_);refine congrArg _ (funext λ r=>?_);cases r<;>rfl
end
end
end Srt
namespace Srt
set_option autoImplicit false
open PySem PyProof.Rows
section
variable {α:Type}
theorem vS (a:Array α) (i:Nat):(a.extract i).toList=a.toList.drop i:=by
 rw [Array.toList_extract,List.extract_eq_take_drop];exact take_of_length_le (by simp)
theorem xZ (a:Array α) (i k:Nat):(a.extract i (i+k)).toList=(a.toList.drop i).take k:=by
 rw [Array.toList_extract,List.extract_eq_take_drop]
 congr 1
 omega
theorem yG {a:Array α} {i:Nat} (h:i<a.size):a.toList.drop i=[a[i]]++a.toList.drop (i+1):=by
 rw [List.drop_eq_getElem_cons (by simpa using h)]
 rfl
theorem kAT (l:List α) (i k:Nat):l.drop i=(l.drop i).take k++l.drop (i+k):=by
 conv=>lhs;rw [<-take_append_drop k (l.drop i)]
 rw [List.drop_drop]
end
section
variable {M:Model} {A:Around} {E:Value->Shared->Prop} {s:Shared} {lb:Keyed->Keyed->Bool} {D:Keyed->Prop} {kd:SortKind} {a b:Array Keyed}
structure Hy (M:Model) (A:Around) (E:Value->Shared->Prop) (s:Shared) (lb:Keyed->Keyed->Bool) (D:Keyed->Prop) (kd:SortKind) (a b:Array Keyed):Prop where
 W:Wk lb
 L:aE M A E s lb D kd
 da:∀ x∈a.toList,D x
 db:∀ x∈b.toList,D x
 sa:jC lb a.toList
 sb:jC lb b.toList
 last:∀ (h:0<a.size),∀ y∈b.toList,le lb y a[a.size-1]
def MI (lb:Keyed->Keyed->Bool) (a b:Array Keyed) (out:Array Keyed) (ia ib:Nat):Prop :=
 Mg lb a.toList b.toList out.toList (a.toList.drop ia) (b.toList.drop ib)/\ia+1<a.size/\ib<b.size/\out.size=ia+ib
def Yd (lb:Keyed->Keyed->Bool) (a b:Array Keyed) (n:Nat) {γ:Type} (c:Option (Array Keyed)×Array Keyed×Nat×Nat×γ):Prop:=c.1=none/\MI lb a b c.2.1 c.2.2.1 c.2.2.2.1/\n<=c.2.1.size
def Dn (lb:Keyed->Keyed->Bool) (a b:Array Keyed) (n:Nat) {γ:Type} (c:Option (Array Keyed)×Array Keyed×Nat×Nat×γ):Prop:=(∃ r,c.1=some r/\Res lb a.toList b.toList r.toList)\/Yd lb a b n c
def RR (lb:Keyed->Keyed->Bool) (a b:Array Keyed) (n:Nat) {γ:Type}:ForInStep (Option (Array Keyed)×Array Keyed×Nat×Nat×γ)->Prop
 | .done c=>Dn lb a b n c
 | .yield c=>Yd lb a b n c
theorem vE (W:Wk lb) {a:Array Keyed} (h:jC lb a.toList) {i j:Nat} (hij:i<=j) (hj:j<a.size):le lb (a[i]'(by omega)) a[j]:=by
 by_cases e:i=j
 ·subst e;exact W.refl _
 ·have:=pairwise_iff_getElem.mp h i j (by simp;omega) (by simp;omega) (by omega)
  simpa using this
theorem zU {a:Array Keyed} {i:Nat} {x:Keyed} (h:x∈a.toList.drop i):∃ j,∃ hj:j<a.size,i<=j/\x=a[j]:=by
 obtain ⟨k,hk,e⟩:=mem_iff_getElem.mp h;rw [length_drop] at hk;refine ⟨i+k,by simp at hk;omega,by omega,?_⟩;rw [<-e,List.getElem_drop];simp
theorem kBV {out:Array Keyed} {ia ib:Nat} (h:Mg lb a.toList b.toList out.toList (a.toList.drop ia) (b.toList.drop ib)) (e:ib=b.size):Res lb a.toList b.toList (out++a.extract ia++b.extract ib).toList:=by
 rw [Array.toList_append,Array.toList_append,vS,vS];have z:b.toList.drop ib=[]:=drop_eq_nil_of_le (by simp;omega);rw [z] at h ⊢;exact h.endA
theorem kNX {out:Array Keyed} {ia ib:Nat} (h:Mg lb a.toList b.toList out.toList (a.toList.drop ia) (b.toList.drop ib)) (e:ia=a.size):Res lb a.toList b.toList (out++a.extract ia++b.extract ib).toList:=by
 rw [Array.toList_append,Array.toList_append,vS,vS];have z:a.toList.drop ia=[]:=drop_eq_nil_of_le (by simp;omega);rw [z] at h ⊢;exact h.endB
theorem cM (H:Hy M A E s lb D kd a b) {out:Array Keyed} {ia ib:Nat} (h:Mg lb a.toList b.toList out.toList (a.toList.drop ia) (b.toList.drop ib)) (e:ia+1=a.size):Res lb a.toList b.toList (out++b.extract ib++a.extract ia).toList:=by
 rw [Array.toList_append,Array.toList_append,vS,vS]
 have z:a.toList.drop ia=[a[a.size-1]'(by omega)]:=by
  rw [yG (show ia<a.size by omega),drop_eq_nil_of_le (by simp;omega)];simp only [append_nil]
  congr 2
  omega
 rw [z] at h ⊢;exact h.last λ y hy=>H.last (by omega) y (List.mem_of_mem_drop hy)
theorem tG (H:Hy M A E s lb D kd a b) {out:Array Keyed} {ia ib:Nat} (ha:ia<a.size) (hb:ib<b.size) (h:Mg lb a.toList b.toList out.toList (a.toList.drop ia) (b.toList.drop ib)) (c:le lb b[ib] a[ia]):Mg lb a.toList b.toList (out.push b[ib]).toList (a.toList.drop ia) (b.toList.drop (ib+1)):=by
 rw [yG hb] at h;rw [Array.toList_push];refine h.moveB λ x hx y hy=>?_;have:x=b[ib]:=by simpa using hx
 subst this;obtain ⟨j,hj,ij,rfl⟩:=zU hy;exact H.W.trans c (vE H.W H.sa ij hj)
theorem kEU (H:Hy M A E s lb D kd a b) {out:Array Keyed} {ia ib:Nat} (ha:ia<a.size) (h:Mg lb a.toList b.toList out.toList (a.toList.drop ia) (b.toList.drop ib)) (c:∀ y∈b.toList.drop ib,le lb a[ia] y):Mg lb a.toList b.toList (out.push a[ia]).toList (a.toList.drop (ia+1)) (b.toList.drop ib):=by
 rw [yG ha] at h;rw [Array.toList_push];refine h.moveA λ x hx y hy=>?_;have:x=a[ia]:=by simpa using hx
 subst this;exact c y hy
theorem kOB (H:Hy M A E s lb D kd a b) {ib:Nat} {x:Keyed} (hb:ib<b.size) (c:le lb x b[ib]):∀ y∈b.toList.drop ib,le lb x y:=λ y hy=>by
 obtain ⟨j,hj,ij,rfl⟩:=zU hy;exact H.W.trans c (vE H.W H.sb ij hj)
theorem kJX (H:Hy M A E s lb D kd a b) {st:SortSt} (hk:kindOf st=kd) {out:Array Keyed} {ia ib u v mg:Nat} (h:MI lb a b out ia ib) {Q:ForInStep LS1->SortSt->Prop}
  (q:∀ r,RR lb a b (out.size+1) r->Q r st):wpS M A E s (p1 a b mg (none,out,ia,ib,u,v)) Q st:=by
 obtain ⟨m,h1,h2,h3⟩:=h;have ha:ia<a.size:=by omega
 unfold p1;dsimp only;refine wpS_bind (qE (getElem?_pos b ib h2) ?_);refine wpS_bind (qE (getElem?_pos a ia ha) ?_);refine wpS_bind (H.L _ _ (H.db _ (by simp)) (H.da _ (by simp)) st _ hk ?_)
 cases e:lb b[ib] a[ia]
 case true =>
  simp only [if_true];refine wpS_bind (qE (getElem?_pos b ib h2) ?_);have m':=tG H ha h2 m (H.W.of_lt e);by_cases c:ib+1=b.size
  ·rw [if_pos (by simpa using c)]
   exact wpS_pure (q _ (.inl ⟨_,rfl,kBV m' c⟩))
  ·rw [if_neg (by simpa using c)]
   have y:Yd lb a b (out.size+1) (none,out.push b[ib],ia,ib+1,(0,v+1)):=⟨rfl,⟨m',h1,by show ib+1<b.size;omega,by show (out.push b[ib]).size=ia+(ib+1);rw [Array.size_push];omega⟩,by show out.size+1<=(out.push b[ib]).size;rw [Array.size_push];omega⟩
   split
   ·exact wpS_pure (q _ (.inr y))
   ·exact wpS_pure (q _ y)
 case false =>
  simp only [Bool.false_eq_true,if_false];refine wpS_bind (qE (getElem?_pos a ia ha) ?_);have m':=kEU H ha m (kOB H h2 e);by_cases c:ia+1+1=a.size
  ·rw [if_pos (by simpa using c)]
   exact wpS_pure (q _ (.inl ⟨_,rfl,cM H m' c⟩))
  ·rw [if_neg (by simpa using c)]
   have y:Yd lb a b (out.size+1) (none,out.push a[ia],ia+1,ib,(u+1,0)):=⟨rfl,⟨m',by show ia+1+1<a.size;omega,h2,by show (out.push a[ia]).size=ia+1+ib;rw [Array.size_push];omega⟩,by show out.size+1<=(out.push a[ia]).size;rw [Array.size_push];omega⟩
   split
   ·exact wpS_pure (q _ (.inr y))
   ·exact wpS_pure (q _ y)
end
end Srt
namespace Srt
set_option autoImplicit false
open PySem PyProof.Rows
section
variable {M:Model} {A:Around} {E:Value->Shared->Prop} {s:Shared} {lb:Keyed->Keyed->Bool} {D:Keyed->Prop} {kd:SortKind} {a b:Array Keyed}
theorem vB {a:Array Keyed} {i k:Nat} {x:Keyed} (h:x∈(a.toList.drop i).take k):∃ j,∃ hj:i+j<a.size,j<k/\x=a[i+j]:=by
 obtain ⟨j,hj,e⟩:=mem_iff_getElem.mp h;rw [length_take,length_drop] at hj;refine ⟨j,by simp at hj;omega,by omega,?_⟩;rw [<-e,List.getElem_take,List.getElem_drop];simp
theorem kJD {out:Array Keyed} {ia ib k:Nat} (h:Mg lb a.toList b.toList out.toList (a.toList.drop ia) (b.toList.drop ib)) (c:∀ x∈(b.toList.drop ib).take k,∀ y∈a.toList.drop ia,le lb x y):Mg lb a.toList b.toList (out++b.extract ib (ib+k)).toList (a.toList.drop ia) (b.toList.drop (ib+k)):=by
 rw [Array.toList_append,xZ];rw [kAT b.toList ib k] at h;exact h.moveB c
theorem kJE {out:Array Keyed} {ia ib k:Nat} (h:Mg lb a.toList b.toList out.toList (a.toList.drop ia) (b.toList.drop ib)) (c:∀ x∈(a.toList.drop ia).take k,∀ y∈b.toList.drop ib,le lb x y):Mg lb a.toList b.toList (out++a.extract ia (ia+k)).toList (a.toList.drop (ia+k)) (b.toList.drop ib):=by
 rw [Array.toList_append,xZ];rw [kAT a.toList ia k] at h;exact h.moveA c
theorem kEC (H:Hy M A E s lb D kd a b) {st:SortSt} {out:Array Keyed} {ia ib g k k1 n:Nat} (h:MI lb a b out ia ib) (hn:n<=out.size+1) (c:∀ (hh:ia<a.size),∀ y∈b.toList.drop ib,le lb a[ia] y) {Q:ForInStep LS->SortSt->Prop}
  (q:∀ r,RR lb a b n r->Q r st):wpS M A E s (pC a b out ia ib g k k1) Q st:=by
 obtain ⟨m,h1,h2,h3⟩:=h;have ha:ia<a.size:=by omega
 unfold pC;refine wpS_bind (qE (getElem?_pos a ia ha) ?_);have m':=kEU H ha m (c ha);by_cases e:ia+1+1=a.size
 ·rw [if_pos (by simpa using e)]
  exact wpS_pure (q _ (.inl ⟨_,rfl,cM H m' e⟩))
 ·rw [if_neg (by simpa using e)]
  have y:Yd lb a b n (none,out.push a[ia],ia+1,ib,(g,k,k1)):=⟨rfl,⟨m',by show ia+1+1<a.size;omega,h2,by show (out.push a[ia]).size=ia+1+ib;rw [Array.size_push];omega⟩,by show n<=(out.push a[ia]).size;rw [Array.size_push];omega⟩
  split
  ·exact wpS_pure (q _ (.inr y))
  ·exact wpS_pure (q _ y)
theorem kED (H:Hy M A E s lb D kd a b) {st:SortSt} (hk:kindOf st=kd) {out:Array Keyed} {ia ib g k ob n:Nat} (h:MI lb a b out ia ib) (hn:n<=out.size+1) (c:∀ (ha:ia<a.size) (hb:ib<b.size),le lb b[ib] a[ia]) {Q:ForInStep LS->SortSt->Prop}
  (q:∀ r,RR lb a b n r->Q r st):wpS M A E s (pB a b out ia ib g k ob) Q st:=by
 obtain ⟨m,h1,h2,h3⟩:=h;have ha:ia<a.size:=by omega
 unfold pB;refine wpS_bind (qE (getElem?_pos b ib h2) ?_);have m':=tG H ha h2 m (c ha h2);have sz:(out.push b[ib]).size=ia+(ib+1):=by rw [Array.size_push];omega
 by_cases e:ib+1=b.size
 ·rw [if_pos (by simpa using e)]
  exact wpS_pure (q _ (.inl ⟨_,rfl,kBV m' e⟩))
 ·rw [if_neg (by simpa using e)]
  refine wpS_bind (qE (getElem?_pos a ia ha) ?_);refine wpS_bind (aF H.W H.L hk (H.da _ (by simp)) H.db (by omega) (λ i j hi hj=>vE H.W H.sb (by omega) (by omega)) (by omega) λ k1 kn g1 g2=>?_);simp only [if_true] at g1 g2
  have rest:∀ y∈b.toList.drop (ib+1+k1),le lb a[ia] y:=λ y hy=>by
   obtain ⟨j,hj,ij,rfl⟩:=zU hy;have:=g2 (j-(ib+1)) (by omega) (by omega);simp only [show ib+1+(j-(ib+1))=j by omega] at this;exact this
  dsimp only;by_cases k0:k1>0
  ·rw [if_pos k0]
   have m2:=kJD (k:=k1) m' λ x hx y hy=>by
    obtain ⟨j,hj,jk,rfl⟩:=vB hx;obtain ⟨i,hi,ii,rfl⟩:=zU hy;exact H.W.trans (H.W.of_lt (g1 j jk (by omega))) (vE H.W H.sa ii hi)
   have sz2:(out.push b[ib]++b.extract (ib+1) (ib+1+k1)).size=ia+(ib+1+k1):=by
    rw [Array.size_append,sz,Array.size_extract];omega
   by_cases e2:ib+1+k1=b.size
   ·rw [if_pos (by simpa using e2)]
    exact wpS_pure (q _ (.inl ⟨_,rfl,kBV m2 e2⟩))
   ·rw [if_neg (by simpa using e2)]
    exact kEC H ⟨m2,h1,by omega,sz2⟩ (by omega) (λ _=>rest) q
  ·rw [if_neg k0]
   have:k1=0:=by omega
   subst this;exact kEC H ⟨m',h1,by omega,sz⟩ (by omega) (λ _=>rest) q
theorem kJW (H:Hy M A E s lb D kd a b) {st:SortSt} (hk:kindOf st=kd) {out:Array Keyed} {ia ib g oa ob n:Nat} (h:MI lb a b out ia ib) (hn:n<=out.size+1) {Q:ForInStep LS->SortSt->Prop}
  (q:∀ r,RR lb a b n r->Q r (vF st g)):wpS M A E s (pA a b out ia ib g oa ob) Q st:=by
 obtain ⟨m,h1,h2,h3⟩:=id h;have ha:ia<a.size:=by omega
 unfold pA;rw [setMinGallop'_eq];refine wpS_bind (wpS_modify ?_);refine wpS_bind (qE (getElem?_pos b ib h2) ?_);refine wpS_bind (aF (st:=vF st g) H.W H.L hk (H.db _ (by simp)) H.da (by omega) (λ i j hi hj=>vE H.W H.sa (by omega) (by omega)) (by omega) λ k kn g1 g2=>?_);simp only [Bool.false_eq_true,if_false] at g1 g2;dsimp only;by_cases k0:k>0
 ·rw [if_pos k0]
  have m2:=kJE (k:=k) m λ x hx y hy=>by
   obtain ⟨j,hj,jk,rfl⟩:=vB hx;obtain ⟨i,hi,ii,rfl⟩:=zU hy;exact H.W.trans (g1 j jk (by omega)) (vE H.W H.sb ii hi)
  have sz2:(out++a.extract ia (ia+k)).size=ia+k+ib:=by
   rw [Array.size_append,Array.size_extract];omega
  by_cases e1:ia+k+1=a.size
  ·rw [if_pos (by simpa using e1)]
   exact wpS_pure (q _ (.inl ⟨_,rfl,cM H m2 e1⟩))
  ·rw [if_neg (by simpa using e1)]
   by_cases e2:ia+k=a.size
   ·rw [if_pos (by simpa using e2)]
    exact wpS_pure (q _ (.inl ⟨_,rfl,kNX m2 e2⟩))
   ·rw [if_neg (by simpa using e2)]
    exact kED (st:=vF st g) H hk ⟨m2,by omega,h2,sz2⟩ (by omega) (λ _ _=>H.W.of_lt (g2 k (by omega) (by omega))) q
 ·rw [if_neg k0]
  have:k=0:=by omega
  subst this;exact kED (st:=vF st g) H hk h hn (λ _ _=>H.W.of_lt (g2 0 (by omega) (by omega))) q
end
end Srt
namespace Srt
set_option autoImplicit false
open PySem PyProof.Rows
section
variable {M:Model} {A:Around} {E:Value->Shared->Prop} {s:Shared} {lb:Keyed->Keyed->Bool} {D:Keyed->Prop} {kd:SortKind} {a b:Array Keyed}
theorem Yd.mono {n n':Nat} {γ:Type} {c:Option (Array Keyed)×Array Keyed×Nat×Nat×γ} (h:Yd lb a b n c) (k:n'<=n):Yd lb a b n' c:=⟨h.1,h.2.1,Nat.le_trans k h.2.2⟩
theorem Dn.mono {n n':Nat} {γ:Type} {c:Option (Array Keyed)×Array Keyed×Nat×Nat×γ} (h:Dn lb a b n c) (k:n'<=n):Dn lb a b n' c:=h.imp id λ z=>z.mono k
theorem kJY (H:Hy M A E s lb D kd a b) {st:SortSt} (hk:kindOf st=kd) {out:Array Keyed} {ia ib g:Nat} (h:MI lb a b out ia ib) {Q:ForInStep LS0->SortSt->Prop}
  (qd:∀ r c st',Sm st st'->Res lb a.toList b.toList r.toList->Q (.done (some r,c)) st') (qy:∀ c st',Sm st st'->Yd lb a b (out.size+1) c->Q (.yield c) st'):wpS M A E s (p0 a b (none,out,ia,ib,g)) Q st:=by
 unfold p0;dsimp only;have tot:0<a.size+b.size:=by have:=h.2.2.1;omega
 refine wpS_bind (wpS_mono (wpS_forRange (I:=λ x d st'=>st'=st/\Yd lb a b (out.size+x) d) (Q:=λ d st'=>st'=st/\Dn lb a b (out.size+1) d) ?step ?fin ⟨rfl,rfl,h,Nat.le_refl _⟩) ?post)
 case fin =>
  rintro d st' ⟨rfl,y⟩;exact ⟨rfl,.inr (y.mono (by omega))⟩
 case step =>
  rintro x ⟨r,o,i,j,u,v⟩ st' _ _ ⟨rfl,e,mi,le⟩
  cases (show r=none from e)
  have le:out.size+x<=o.size:=le;refine kJX H hk mi λ r hr=>?_
  cases r with
  | done c=>exact ⟨rfl,Dn.mono hr (by omega)⟩
  | yield c=>exact ⟨rfl,Yd.mono hr (by omega)⟩
 case post =>
  rintro ⟨r,o,i,j,u,v⟩ st' ⟨rfl,hd⟩
  cases r with
  | some r =>
   dsimp only;rcases hd with ⟨r',e,res⟩ | ⟨e,_⟩
   ·cases e
    exact wpS_pure (qd _ _ _ (Sm.refl _) res)
   ·cases e
  | none =>
   dsimp only
   have y:Yd lb a b (out.size+1) (none,o,i,j,(u,v)):=by
    rcases hd with ⟨r',e,res⟩ | y
    ·cases e
    ·exact y
   refine wpS_bind (vK ?_);refine wpS_bind (wpS_mono (wpS_forRange (I:=λ x f st2=>Sm st' st2/\Yd lb a b (out.size+1) f) (Q:=λ f st2=>Sm st' st2/\Dn lb a b (out.size+1) f) ?step2 ?fin2 ⟨Sm.refl _,y⟩) ?post2)
   case fin2 =>
    rintro f st2 ⟨sm,y⟩;exact ⟨sm,.inr y⟩
   case step2 =>
    rintro x ⟨r,o,i,j,g2,u,v⟩ st2 _ _ ⟨sm,e,mi,le⟩
    cases (show r=none from e)
    have le:out.size+1<=o.size:=le;dsimp only
    split
    all_goals
     refine kJW (n:=out.size+1) H (sm.1.trans hk) mi (by omega) λ r hr=>?_
     cases r with
     | done c=>exact ⟨sm.gal _,hr⟩
     | yield c=>exact ⟨sm.gal _,hr⟩
   case post2 =>
    rintro ⟨r,o,i,j,g2,u,v⟩ st2 ⟨sm,hd⟩
    cases r with
    | some r =>
     dsimp only;rcases hd with ⟨r',e,res⟩ | ⟨e,_⟩
     ·cases e
      exact wpS_pure (qd _ _ _ sm res)
     ·cases e
    | none =>
     dsimp only;rcases hd with ⟨r',e,res⟩ | y
     ·cases e
     ·rw [setMinGallop'_eq]
      exact wpS_bind (wpS_modify (wpS_pure (qy _ _ (sm.gal _) y)))
theorem pZ (H:Hy M A E s lb D kd a b) {st:SortSt} (hk:kindOf st=kd) (a0:0<a.size) (b0:0<b.size) (first:le lb b[0] a[0]) {Q:Array Keyed->SortSt->Prop}
  (q:∀ r st',Sm st st'->Res lb a.toList b.toList r.toList->Q r st'):wpS M A E s (lG a b) Q st:=by
 rw [mergeLo'_parts];refine wpS_bind (vK ?_);refine wpS_bind (qE (getElem?_pos b 0 b0) ?_);have m0:Mg lb a.toList b.toList (#[]:Array Keyed).toList (a.toList.drop 0) (b.toList.drop 0):=⟨H.sa,H.sb,List.Perm.refl _⟩;have m1:Mg lb a.toList b.toList (#[b[0]]:Array Keyed).toList (a.toList.drop 0) (b.toList.drop 1):=tG H a0 b0 m0 first;by_cases e1:1=b.size
 ·rw [if_pos (by simpa using e1)]
  exact wpS_pure (q _ _ (Sm.refl _) (kBV m1 e1))
 rw [if_neg (by simpa using e1)];by_cases e2:0+1=a.size
 ·rw [if_pos (by simpa using e2)]
  exact wpS_pure (q _ _ (Sm.refl _) (cM H m1 e2))
 rw [if_neg (by simpa using e2)];refine wpS_bind (wpS_get ?_);refine wpS_bind (wpS_mono (wpS_forRange (I:=λ x c st'=>Sm st st'/\Yd lb a b (1+x) c) (Q:=λ c st'=>Sm st st'/\∃ r,c.1=some r/\Res lb a.toList b.toList r.toList) ?step ?fin ⟨Sm.refl _,rfl,⟨m1,by show 0+1<a.size;omega,by show 1<b.size;omega,rfl⟩,Nat.le_refl _⟩) ?post)
 case post =>
  rintro ⟨r,c⟩ st' ⟨sm,r',e,res⟩;cases e
  exact wpS_pure (q _ _ sm res)
 case fin =>
  rintro ⟨r,o,i,j,g⟩ st' ⟨sm,e,⟨_,h1,h2,h3⟩,le⟩;have h3:o.size=i+j:=h3;have le:1+max 0 (a.size+b.size)<=o.size:=le;have h1:i+1<a.size:=h1;have h2:j<b.size:=h2;omega
 case step =>
  rintro x ⟨r,o,i,j,g⟩ st' _ _ ⟨sm,e,mi,le⟩
  cases (show r=none from e)
  have le:1+x<=o.size:=le;exact kJY H (sm.1.trans hk) mi (λ r c st2 sm2 res=>⟨⟨sm2.1.trans sm.1,sm2.2.1.trans sm.2.1,sm2.2.2.1.trans sm.2.2.1,sm2.2.2.2.trans sm.2.2.2⟩,r,rfl,res⟩) λ c st2 sm2 y=>⟨⟨sm2.1.trans sm.1,sm2.2.1.trans sm.2.1,sm2.2.2.1.trans sm.2.2.1,sm2.2.2.2.trans sm.2.2.2⟩,y.mono (by omega)⟩
end
end Srt
local macro_rules | `(tactic| walk_at "sort_open mergeHi")=>`(tactic| delta $(Lean.mkIdent (Lean.mkPrivateNameCore `PySem.Builtin.List.W1All `PySem.Builtin.mergeHi)):ident)
namespace Srt
set_option autoImplicit false
open PySem PyProof.Rows
def lH:Array Keyed->Array Keyed->StateT SortSt Sem (Array Keyed):=sortPriv% PySem.Builtin.mergeHi
abbrev KS:=Option (Array Keyed)×Nat×Nat×Array Keyed×Nat×Nat×Nat
abbrev KS1:=Option (Array Keyed)×Nat×Nat×Array Keyed×Nat×Nat
abbrev KS0:=Option (Array Keyed)×Nat×Nat×Array Keyed×Nat
section
variable (a b:Array Keyed)
def hDn (na nb:Nat) (out:Array Keyed):Array Keyed:=a.extract 0 na++b.extract 0 nb++out.reverse
def hFb (na nb:Nat) (out:Array Keyed):Array Keyed:=b.extract 0 nb++a.extract 0 na++out.reverse
def hC (na nb:Nat) (out:Array Keyed) (g k k1:Nat):StateT SortSt Sem (ForInStep KS):=do
 let x <-elem' a (na-1)
 if (na-1 == 0)=true then pure (.done (some (hDn a b (na-1) nb (out.push x)),na-1,nb,out.push x,g,k,k1))
 else if (decide (k<7) && decide (k1<7))=true then pure (.done (none,na-1,nb,out.push x,g,k,k1)) else pure (.yield (none,na-1,nb,out.push x,g,k,k1))
def hB (na nb:Nat) (out:Array Keyed) (g k ob:Nat):StateT SortSt Sem (ForInStep KS):=do
 let y <-elem' b (nb-1)
 if (nb-1 == 1)=true then pure (.done (some (hFb a b na (nb-1) (out.push y)),na,nb-1,out.push y,g,k,ob))
 else do
  let x <-elem' a (na-1)
  let r <-uD true x b 0 (nb-1) (nb-1-1)
  match r with
  | some p =>
   if nb-1-p>0 then
    if (p == 1)=true then pure (.done (some (hFb a b na p (out.push y++(b.extract p (nb-1)).reverse)),na,p,out.push y++(b.extract p (nb-1)).reverse,g,k,nb-1-p))
    else if (p == 0)=true then pure (.done (some (hDn a b na p (out.push y++(b.extract p (nb-1)).reverse)),na,p,out.push y++(b.extract p (nb-1)).reverse,g,k,nb-1-p))
    else hC a b na p (out.push y++(b.extract p (nb-1)).reverse) g k (nb-1-p)
   else hC a b na (nb-1) (out.push y) g k (nb-1-p)
  | x=>pure (.done (some (hDn a b na (nb-1) (out.push y)),na,nb-1,out.push y,g,k,ob))
def hA (na nb:Nat) (out:Array Keyed) (g oa ob:Nat):StateT SortSt Sem (ForInStep KS):=do
 yE g
 let y <-elem' b (nb-1)
 let r <-uD false y a 0 na (na-1)
 match r with
 | some p =>
  if na-p>0 then
   if (p == 0)=true then pure (.done (some (hDn a b p nb (out++(a.extract p na).reverse)),p,nb,out++(a.extract p na).reverse,g,na-p,ob))
   else hB a b p nb (out++(a.extract p na).reverse) g (na-p) ob
  else hB a b na nb out g (na-p) ob
 | x=>pure (.done (some (hDn a b na nb out),na,nb,out,g,oa,ob))
def h1 (mg:Nat) (c:KS1):StateT SortSt Sem (ForInStep KS1):=do
 let y <-elem' b (c.2.2.1-1)
 let x <-elem' a (c.2.1-1)
 let r <-lt' y x
 match r with
 | some aw =>
  if aw=true then do
   let x <-elem' a (c.2.1-1)
   if (c.2.1-1 == 0)=true then pure (.done (some (hDn a b (c.2.1-1) c.2.2.1 (c.2.2.2.1.push x)),c.2.1-1,c.2.2.1,c.2.2.2.1.push x,c.2.2.2.2.1+1,0))
   else if c.2.2.2.2.1+1 >= mg then pure (.done (none,c.2.1-1,c.2.2.1,c.2.2.2.1.push x,c.2.2.2.2.1+1,0))
   else pure (.yield (none,c.2.1-1,c.2.2.1,c.2.2.2.1.push x,c.2.2.2.2.1+1,0))
  else do
   let y <-elem' b (c.2.2.1-1)
   if (c.2.2.1-1 == 1)=true then pure (.done (some (hFb a b c.2.1 (c.2.2.1-1) (c.2.2.2.1.push y)),c.2.1,c.2.2.1-1,c.2.2.2.1.push y,0,c.2.2.2.2.2+1))
   else if c.2.2.2.2.2+1 >= mg then pure (.done (none,c.2.1,c.2.2.1-1,c.2.2.2.1.push y,0,c.2.2.2.2.2+1))
   else pure (.yield (none,c.2.1,c.2.2.1-1,c.2.2.2.1.push y,0,c.2.2.2.2.2+1))
 | x=>pure (.done (some (hDn a b c.2.1 c.2.2.1 c.2.2.2.1),c.2.1,c.2.2.1,c.2.2.2.1,c.2.2.2.2.1,c.2.2.2.2.2))
def h0 (c:KS0):StateT SortSt Sem (ForInStep KS0):=do
 let d <-forIn [:a.size+b.size] ((none,c.2.1,c.2.2.1,c.2.2.2.1,0,0):KS1) λ x d=>h1 a b c.2.2.2.2 d
 match d.1 with
 | some r=>pure (.done (some r,d.2.1,d.2.2.1,d.2.2.2.1,c.2.2.2.2))
 | none=>do
  liftM (rule "list.sort.gallop")
  let f <-forIn [:a.size+b.size] ((none,d.2.1,d.2.2.1,d.2.2.2.1,c.2.2.2.2+1,d.2.2.2.2.1,d.2.2.2.2.2):KS) λ x f =>
   if f.2.2.2.2.1>1 then hA a b f.2.1 f.2.2.1 f.2.2.2.1 (f.2.2.2.2.1-1) f.2.2.2.2.2.1 f.2.2.2.2.2.2 else hA a b f.2.1 f.2.2.1 f.2.2.2.1 f.2.2.2.2.1 f.2.2.2.2.2.1 f.2.2.2.2.2.2
  match f.1 with
  | some r=>pure (.done (some r,f.2.1,f.2.2.1,f.2.2.2.1,f.2.2.2.2.1))
  | none=>do
   yE (f.2.2.2.2.1+1)
   pure (.yield (none,f.2.1,f.2.2.1,f.2.2.2.1,f.2.2.2.2.1+1))
theorem mergeHi'_parts:lH a b=(do
  liftM (rule "list.sort.merge-hi")
  let y <-elem' a (a.size-1)
  if (a.size-1 == 0)=true then pure (hDn a b (a.size-1) b.size #[y])
  else if (b.size == 1)=true then pure (hFb a b (a.size-1) b.size #[y])
  else do
   let st <-get
   let c <-forIn [:a.size+b.size] ((none,a.size-1,b.size,#[y],gallopOf st):KS0) λ x c=>h0 a b c
   match c.1 with
   | some r=>pure r
   | none=>unsupported "internal:list.sort.merge-bound"):=by
 unfold lH
 walk_at "sort_open mergeHi"
 dsimp only;refine congrArg _ (funext λ _=>?_);refine congrArg _ (funext λ y=>?_);refine ite_congr rfl (λ _=>rfl) (λ _=>ite_congr rfl (λ _=>rfl) (λ _=>?_));refine congrArg _ (funext λ st=>?_);refine congr (congrArg _ (congrArg _ (funext λ x=>funext λ c=>?_))) (funext λ c=>by cases c.1<;>rfl);unfold h0;refine congr (congrArg _ (congrArg _ (funext λ x=>funext λ d=>?_))) (funext λ d=>?_)
 ·unfold h1
  refine congrArg _ (funext λ _=>?_);refine congrArg _ (funext λ _=>?_);refine congrArg _ (funext λ r=>?_);cases r<;>rfl
 ·cases d.1 with
  | some r=>rfl
  | none =>
   dsimp only;refine congrArg _ (funext λ _=>?_);refine congr (congrArg _ (congrArg _ (funext λ x=>funext λ f=>?_))) (funext λ f=>by cases f.1<;>rfl);refine ite_congr rfl (λ _=>?_) (λ _=>?_)
   all_goals
    unfold hA;refine congrArg _ (funext λ _=>?_);refine congrArg _ (funext λ y=>?_);refine congrArg _ (funext λ r=>?_)
    cases r with
    | none=>rfl
    | some k =>
     dsimp only;refine ite_congr rfl (λ _=>ite_congr rfl (λ _=>rfl) (λ _=>?_)) (λ _=>?_)
     all_goals
      unfold hB;refine congrArg _ (funext λ y=>?_);refine ite_congr rfl (λ _=>rfl) (λ _=>?_);refine congrArg _ (funext λ x=>?_);refine congrArg _ (funext λ r=>?_);cases r<;>rfl
end
end Srt
namespace Srt
set_option autoImplicit false
open PySem PyProof.Rows
section
variable {α:Type} {lb:α->α->Bool}
structure Mh (lb:α->α->Bool) (A B:List α) (w ra rb:List α):Prop where
 sa:jC lb (ra++w)
 sb:jC lb (rb++w)
 pm:(ra++(rb++w)).Perm (A++B)
theorem Mh.moveA {A B w c ra rb:List α} (h:Mh lb A B w (ra++c) rb) (hc:∀ x∈rb,∀ y∈c,le lb x y):Mh lb A B (c++w) ra rb:=by
 refine ⟨by rw [<-append_assoc];exact h.sa,?_,?_⟩
 ·have h1:=pairwise_append.mp h.sa
  have h2:=pairwise_append.mp h.sb;have h3:=pairwise_append.mp h1.1;refine pairwise_append.mpr ⟨h2.1,pairwise_append.mpr ⟨h3.2.1,h1.2.1,λ x hx y hy=>h1.2.2 x (mem_append_right _ hx) y hy⟩,λ x hx y hy=>?_⟩;rcases mem_append.mp hy with z | z
  ·exact hc x hx y z
  ·exact h2.2.2 x hx y z
 ·refine List.Perm.trans ?_ h.pm
  rw [append_assoc];refine List.Perm.append_left ra ?_;rw [<-append_assoc,<-append_assoc];exact List.Perm.append_right w perm_append_comm
theorem Mh.swap {A B w ra rb:List α} (h:Mh lb A B w ra rb):Mh lb B A w rb ra:=by
 refine ⟨h.sb,h.sa,?_⟩;refine List.Perm.trans ?_ (h.pm.trans perm_append_comm);rw [<-append_assoc,<-append_assoc];exact List.Perm.append_right w perm_append_comm
theorem Mh.moveB {A B w c ra rb:List α} (h:Mh lb A B w ra (rb++c)) (hc:∀ x∈ra,∀ y∈c,le lb x y):Mh lb A B (c++w) ra rb:=(h.swap.moveA hc).swap
theorem gE {a:Array α} {n:Nat} (h0:0<n) (h:n<=a.size):a.toList.take n=a.toList.take (n-1)++[a[n-1]'(by omega)]:=by
 obtain ⟨m,rfl⟩ : ∃ m,n=m+1:=⟨n-1,by omega⟩;rw [List.take_succ_eq_append_getElem (by simp;omega)];simp
theorem cJ (a:Array α) (n:Nat):(a.extract 0 n).toList=a.toList.take n:=by
 rw [Array.toList_extract,List.extract_eq_take_drop];simp
theorem tE (a:Array α) {p n:Nat} (h:p<=n):a.toList.take n=a.toList.take p++(a.extract p n).toList:=by
 rw [Array.toList_extract,List.extract_eq_take_drop,<-List.drop_take]
 conv=>lhs;rw [<-take_append_drop p (a.toList.take n)]
 rw [List.take_take,Nat.min_eq_left h]
end
section
variable {M:Model} {A:Around} {E:Value->Shared->Prop} {s:Shared} {lb:Keyed->Keyed->Bool} {D:Keyed->Prop} {kd:SortKind} {a b:Array Keyed}
structure Hz (M:Model) (A:Around) (E:Value->Shared->Prop) (s:Shared) (lb:Keyed->Keyed->Bool) (D:Keyed->Prop) (kd:SortKind) (a b:Array Keyed):Prop where
 W:Wk lb
 L:aE M A E s lb D kd
 da:∀ x∈a.toList,D x
 db:∀ x∈b.toList,D x
 sa:jC lb a.toList
 sb:jC lb b.toList
 first:∀ (h:0<b.size),∀ y∈a.toList,le lb b[0] y
abbrev MM (lb:Keyed->Keyed->Bool) (a b:Array Keyed) (na nb:Nat) (out:Array Keyed):Prop:=Mh lb a.toList b.toList out.toList.reverse (a.toList.take na) (b.toList.take nb)
def MH (lb:Keyed->Keyed->Bool) (a b:Array Keyed) (na nb:Nat) (out:Array Keyed):Prop:=MM lb a b na nb out/\0<na/\na<=a.size/\1<nb/\nb<=b.size/\out.size+na+nb=a.size+b.size
def Zd (lb:Keyed->Keyed->Bool) (a b:Array Keyed) (n:Nat) {γ:Type} (c:Option (Array Keyed)×Nat×Nat×Array Keyed×γ):Prop:=c.1=none/\MH lb a b c.2.1 c.2.2.1 c.2.2.2.1/\n<=c.2.2.2.1.size
def En (lb:Keyed->Keyed->Bool) (a b:Array Keyed) (n:Nat) {γ:Type} (c:Option (Array Keyed)×Nat×Nat×Array Keyed×γ):Prop:=(∃ r,c.1=some r/\Res lb a.toList b.toList r.toList)\/Zd lb a b n c
def TT (lb:Keyed->Keyed->Bool) (a b:Array Keyed) (n:Nat) {γ:Type}:ForInStep (Option (Array Keyed)×Nat×Nat×Array Keyed×γ)->Prop
 | .done c=>En lb a b n c
 | .yield c=>Zd lb a b n c
theorem Zd.mono {n n':Nat} {γ:Type} {c:Option (Array Keyed)×Nat×Nat×Array Keyed×γ} (h:Zd lb a b n c) (k:n'<=n):Zd lb a b n' c:=⟨h.1,h.2.1,Nat.le_trans k h.2.2⟩
theorem En.mono {n n':Nat} {γ:Type} {c:Option (Array Keyed)×Nat×Nat×Array Keyed×γ} (h:En lb a b n c) (k:n'<=n):En lb a b n' c:=h.imp id λ z=>z.mono k
theorem bY {a:Array Keyed} {n:Nat} {x:Keyed} (h:x∈a.toList.take n):∃ j,∃ hj:j<a.size,j<n/\x=a[j]:=by
 have:=vB (a:=a) (i:=0) (k:=n) (x:=x) (by simpa using h);obtain ⟨j,hj,jk,e⟩:=this;exact ⟨j,by omega,jk,by simpa using e⟩
theorem jB {a:Array Keyed} {p n:Nat} {x:Keyed} (h:x∈(a.extract p n).toList):∃ j,∃ hj:j<a.size,p<=j/\j<n/\x=a[j]:=by
 rw [Array.toList_extract,List.extract_eq_take_drop] at h;obtain ⟨j,hj,jk,e⟩:=vB h;exact ⟨p+j,hj,by omega,by omega,e⟩
theorem sC (na nb:Nat) (out:Array Keyed):(hDn a b na nb out).toList=a.toList.take na++(b.toList.take nb++out.toList.reverse):=by
 unfold hDn;rw [Array.toList_append,Array.toList_append,cJ,cJ,Array.toList_reverse,append_assoc]
theorem kGL (na nb:Nat) (out:Array Keyed):(hFb a b na nb out).toList=b.toList.take nb++(a.toList.take na++out.toList.reverse):=by
 unfold hFb;rw [Array.toList_append,Array.toList_append,cJ,cJ,Array.toList_reverse,append_assoc]
theorem pP {na nb:Nat} {out:Array Keyed} (m:MM lb a b na nb out) (e:na=0):Res lb a.toList b.toList (hDn a b na nb out).toList:=by
 subst e;rw [sC];exact ⟨by simpa using m.sb,m.pm⟩
theorem kLY {na nb:Nat} {out:Array Keyed} (m:MM lb a b na nb out) (e:nb=0):Res lb a.toList b.toList (hDn a b na nb out).toList:=by
 subst e;rw [sC];exact ⟨by simpa using m.sa,m.pm⟩
theorem pO (H:Hz M A E s lb D kd a b) {na nb:Nat} {out:Array Keyed} (m:MM lb a b na nb out) (e:nb=1) (hb:0<b.size):Res lb a.toList b.toList (hFb a b na nb out).toList:=by
 subst e;rw [kGL];have t:b.toList.take 1=[b[0]]:=by rw [gE (by decide) hb];simp
 have sb:=m.sb;rw [t] at sb ⊢;refine ⟨?_,?_⟩
 ·refine pairwise_append.mpr ⟨pairwise_singleton _ _,m.sa,λ x hx y hy=>?_⟩
  have:x=b[0]:=by simpa using hx
  subst this;rcases mem_append.mp hy with z | z
  ·exact H.first hb y (List.mem_of_mem_take z)
  ·exact (pairwise_append.mp sb).2.2 _ (by simp) y z
 ·have pm:=m.pm
  rw [t] at pm;refine List.Perm.trans ?_ pm;rw [<-append_assoc,<-append_assoc];exact List.Perm.append_right _ perm_append_comm
theorem kET (H:Hz M A E s lb D kd a b) {na nb:Nat} {out:Array Keyed} (m:MM lb a b na nb out) (n0:0<na) (hn:na<=a.size) (c:∀ x∈b.toList.take nb,le lb x (a[na-1]'(by omega))):MM lb a b (na-1) nb (out.push (a[na-1]'(by omega))):=by
 have m:Mh lb a.toList b.toList out.toList.reverse (a.toList.take na) (b.toList.take nb):=m;rw [gE n0 hn] at m;show Mh lb _ _ (out.push _).toList.reverse _ _;rw [Array.toList_push,List.reverse_append];refine m.moveA λ x hx y hy=>?_;have:y=a[na-1]'(by omega):=by simpa using hy
 rw [this];exact c x hx
theorem kJM (H:Hz M A E s lb D kd a b) {na nb:Nat} {out:Array Keyed} (m:MM lb a b na nb out) (n0:0<nb) (hn:nb<=b.size) (c:∀ x∈a.toList.take na,le lb x (b[nb-1]'(by omega))):MM lb a b na (nb-1) (out.push (b[nb-1]'(by omega))):=by
 have m:Mh lb a.toList b.toList out.toList.reverse (a.toList.take na) (b.toList.take nb):=m;rw [gE n0 hn] at m;show Mh lb _ _ (out.push _).toList.reverse _ _;rw [Array.toList_push,List.reverse_append];refine m.moveB λ x hx y hy=>?_;have:y=b[nb-1]'(by omega):=by simpa using hy
 rw [this];exact c x hx
theorem kNZ {na nb p:Nat} {out:Array Keyed} (m:MM lb a b na nb out) (hp:p<=na) (c:∀ x∈b.toList.take nb,∀ y∈(a.extract p na).toList,le lb x y):MM lb a b p nb (out++(a.extract p na).reverse):=by
 have m:Mh lb a.toList b.toList out.toList.reverse (a.toList.take na) (b.toList.take nb):=m;rw [tE a hp] at m;show Mh lb _ _ (out++_).toList.reverse _ _;rw [Array.toList_append,Array.toList_reverse,List.reverse_append,List.reverse_reverse];exact m.moveA c
theorem kNY {na nb p:Nat} {out:Array Keyed} (m:MM lb a b na nb out) (hp:p<=nb) (c:∀ x∈a.toList.take na,∀ y∈(b.extract p nb).toList,le lb x y):MM lb a b na p (out++(b.extract p nb).reverse):=by
 have m:Mh lb a.toList b.toList out.toList.reverse (a.toList.take na) (b.toList.take nb):=m;rw [tE b hp] at m;show Mh lb _ _ (out++_).toList.reverse _ _;rw [Array.toList_append,Array.toList_reverse,List.reverse_append,List.reverse_reverse];exact m.moveB c
theorem kCL (W:Wk lb) {a:Array Keyed} (sa:jC lb a.toList) {n:Nat} {y:Keyed} (n0:0<n) (hn:n<=a.size) (c:le lb (a[n-1]'(by omega)) y):∀ x∈a.toList.take n,le lb x y:=λ x hx=>by
 obtain ⟨j,hj,jn,rfl⟩:=bY hx;exact W.trans (vE W sa (show j<=n-1 by omega) (by omega)) c
theorem kKA (H:Hz M A E s lb D kd a b) {st:SortSt} (hk:kindOf st=kd) {out:Array Keyed} {na nb u v mg:Nat} (h:MH lb a b na nb out) {Q:ForInStep KS1->SortSt->Prop}
  (q:∀ r,TT lb a b (out.size+1) r->Q r st):wpS M A E s (h1 a b mg (none,na,nb,out,u,v)) Q st:=by
 obtain ⟨m,a1,a2,b1,b2,sz⟩:=h;unfold h1;dsimp only;refine wpS_bind (qE (getElem?_pos b (nb-1) (by omega)) ?_);refine wpS_bind (qE (getElem?_pos a (na-1) (by omega)) ?_);refine wpS_bind (H.L _ _ (H.db _ (by simp)) (H.da _ (by simp)) st _ hk ?_)
 cases e:lb (b[nb-1]'(by omega)) (a[na-1]'(by omega))
 case true =>
  simp only [if_true];refine wpS_bind (qE (getElem?_pos a (na-1) (by omega)) ?_);have m':=kET H m a1 a2 (kCL H.W H.sb (by omega) b2 (H.W.of_lt e));by_cases c:na-1=0
  ·rw [if_pos (by simpa using c)]
   exact wpS_pure (q _ (.inl ⟨_,rfl,pP m' c⟩))
  ·rw [if_neg (by simpa using c)]
   have z:Zd lb a b (out.size+1) (none,na-1,nb,out.push (a[na-1]'(by omega)),(u+1,0)):=⟨rfl,⟨m',by show 0<na-1;omega,by show na-1<=a.size;omega,b1,b2,by show (out.push _).size+(na-1)+nb=_;rw [Array.size_push];omega⟩,by show out.size+1<=(out.push _).size;rw [Array.size_push];omega⟩
   split
   ·exact wpS_pure (q _ (.inr z))
   ·exact wpS_pure (q _ z)
 case false =>
  simp only [Bool.false_eq_true,if_false];refine wpS_bind (qE (getElem?_pos b (nb-1) (by omega)) ?_);have m':=kJM H m (by omega) b2 (kCL H.W H.sa a1 a2 e);by_cases c:nb-1=1
  ·rw [if_pos (by simpa using c)]
   exact wpS_pure (q _ (.inl ⟨_,rfl,pO H m' c (by omega)⟩))
  ·rw [if_neg (by simpa using c)]
   have z:Zd lb a b (out.size+1) (none,na,nb-1,out.push (b[nb-1]'(by omega)),(0,v+1)):=⟨rfl,⟨m',a1,a2,by show 1<nb-1;omega,by show nb-1<=b.size;omega,by show (out.push _).size+na+(nb-1)=_;rw [Array.size_push];omega⟩,by show out.size+1<=(out.push _).size;rw [Array.size_push];omega⟩
   split
   ·exact wpS_pure (q _ (.inr z))
   ·exact wpS_pure (q _ z)
end
end Srt
namespace Srt
set_option autoImplicit false
open PySem PyProof.Rows
section
variable {M:Model} {A:Around} {E:Value->Shared->Prop} {s:Shared} {lb:Keyed->Keyed->Bool} {D:Keyed->Prop} {kd:SortKind} {a b:Array Keyed}
theorem kEE (H:Hz M A E s lb D kd a b) {st:SortSt} {out:Array Keyed} {na nb g k k1 n:Nat} (m:MM lb a b na nb out) (a1:0<na) (a2:na<=a.size) (b1:1<nb) (b2:nb<=b.size) (sz:out.size+na+nb=a.size+b.size) (hn:n<=out.size+1)
  (c:∀ x∈b.toList.take nb,le lb x (a[na-1]'(by omega))) {Q:ForInStep KS->SortSt->Prop} (q:∀ r,TT lb a b n r->Q r st):wpS M A E s (hC a b na nb out g k k1) Q st:=by
 unfold hC;refine wpS_bind (qE (getElem?_pos a (na-1) (by omega)) ?_);have m':=kET H m a1 a2 c;by_cases e:na-1=0
 ·rw [if_pos (by simpa using e)]
  exact wpS_pure (q _ (.inl ⟨_,rfl,pP m' e⟩))
 ·rw [if_neg (by simpa using e)]
  have z:Zd lb a b n (none,na-1,nb,out.push (a[na-1]'(by omega)),(g,k,k1)):=⟨rfl,⟨m',by show 0<na-1;omega,by show na-1<=a.size;omega,b1,b2,by show (out.push _).size+(na-1)+nb=_;rw [Array.size_push];omega⟩,by show n<=(out.push _).size;rw [Array.size_push];omega⟩
  split
  ·exact wpS_pure (q _ (.inr z))
  ·exact wpS_pure (q _ z)
theorem kEF (H:Hz M A E s lb D kd a b) {st:SortSt} (hk:kindOf st=kd) {out:Array Keyed} {na nb g k ob n:Nat} (h:MH lb a b na nb out) (hn:n<=out.size+1)
  (c:∀ (ha:na-1<a.size) (hb:nb-1<b.size),le lb a[na-1] b[nb-1]) {Q:ForInStep KS->SortSt->Prop} (q:∀ r,TT lb a b n r->Q r st):wpS M A E s (hB a b na nb out g k ob) Q st:=by
 obtain ⟨m,a1,a2,b1,b2,sz⟩:=h;unfold hB;refine wpS_bind (qE (getElem?_pos b (nb-1) (by omega)) ?_);have m':=kJM H m (by omega) b2 (kCL H.W H.sa a1 a2 (c (by omega) (by omega)));have sz':(out.push (b[nb-1]'(by omega))).size+na+(nb-1)=a.size+b.size:=by rw [Array.size_push];omega
 have gr:out.size+1=(out.push (b[nb-1]'(by omega))).size:=by rw [Array.size_push]
 by_cases e:nb-1=1
 ·rw [if_pos (by simpa using e)]
  exact wpS_pure (q _ (.inl ⟨_,rfl,pO H m' e (by omega)⟩))
 ·rw [if_neg (by simpa using e)]
  refine wpS_bind (qE (getElem?_pos a (na-1) (by omega)) ?_);refine wpS_bind (aF H.W H.L hk (H.da _ (by simp)) H.db (by omega) (λ i j hi hj=>vE H.W H.sb (by omega) (by omega)) (by omega) λ p kn g1 g2=>?_);simp only [if_true,Nat.zero_add] at g1 g2
  have rest:∀ x∈b.toList.take p,le lb x (a[na-1]'(by omega)):=λ x hx=>by
   obtain ⟨j,hj,jp,rfl⟩:=bY hx;exact H.W.of_lt (g1 j jp (by omega))
  dsimp only;by_cases k0:nb-1-p>0
  ·rw [if_pos k0]
   have m2:=kNY (p:=p) m' (by omega) λ x hx y hy=>by
    obtain ⟨j,hj,pj,jn,rfl⟩:=jB hy;exact kCL H.W H.sa a1 a2 (g2 j pj jn) x hx
   have sz2:(out.push (b[nb-1]'(by omega))++(b.extract p (nb-1)).reverse).size+na+p=a.size+b.size:=by
    rw [Array.size_append,Array.size_reverse,Array.size_extract];omega
   by_cases e1:p=1
   ·rw [if_pos (by simpa using e1)]
    exact wpS_pure (q _ (.inl ⟨_,rfl,pO H m2 e1 (by omega)⟩))
   ·rw [if_neg (by simpa using e1)]
    by_cases e2:p=0
    ·rw [if_pos (by simpa using e2)]
     exact wpS_pure (q _ (.inl ⟨_,rfl,kLY m2 e2⟩))
    ·rw [if_neg (by simpa using e2)]
     exact kEE H m2 a1 a2 (by omega) (by omega) sz2 (by omega) rest q
  ·rw [if_neg k0]
   have e3:p=nb-1:=by omega
   rw [e3] at rest;exact kEE H m' a1 a2 (by omega) (by omega) sz' (by omega) rest q
theorem kJZ (H:Hz M A E s lb D kd a b) {st:SortSt} (hk:kindOf st=kd) {out:Array Keyed} {na nb g oa ob n:Nat} (h:MH lb a b na nb out) (hn:n<=out.size+1) {Q:ForInStep KS->SortSt->Prop}
  (q:∀ r,TT lb a b n r->Q r (vF st g)):wpS M A E s (hA a b na nb out g oa ob) Q st:=by
 obtain ⟨m,a1,a2,b1,b2,sz⟩:=id h;unfold hA;rw [setMinGallop'_eq];refine wpS_bind (wpS_modify ?_);refine wpS_bind (qE (getElem?_pos b (nb-1) (by omega)) ?_);refine wpS_bind (aF (st:=vF st g) H.W H.L hk (H.db _ (by simp)) H.da (by omega) (λ i j hi hj=>vE H.W H.sa (by omega) (by omega)) (by omega) λ p kn g1 g2=>?_);simp only [Bool.false_eq_true,if_false,Nat.zero_add] at g1 g2;dsimp only;by_cases k0:na-p>0
 ·rw [if_pos k0]
  have m2:=kNZ (p:=p) m (by omega) λ x hx y hy=>by
   obtain ⟨j,hj,pj,jn,rfl⟩:=jB hy;exact kCL H.W H.sb (by omega) b2 (H.W.of_lt (g2 j pj jn)) x hx
  have sz2:(out++(a.extract p na).reverse).size+p+nb=a.size+b.size:=by
   rw [Array.size_append,Array.size_reverse,Array.size_extract];omega
  by_cases e1:p=0
  ·rw [if_pos (by simpa using e1)]
   exact wpS_pure (q _ (.inl ⟨_,rfl,pP m2 e1⟩))
  ·rw [if_neg (by simpa using e1)]
   exact kEF (st:=vF st g) H hk ⟨m2,by omega,by omega,b1,b2,sz2⟩ (by omega) (λ _ _=>g1 (p-1) (by omega) (by omega)) q
 ·rw [if_neg k0]
  have e3:p=na:=by omega
  exact kEF (st:=vF st g) H hk h hn (λ _ _=>g1 (na-1) (by omega) (by omega)) q
theorem kKB (H:Hz M A E s lb D kd a b) {st:SortSt} (hk:kindOf st=kd) {out:Array Keyed} {na nb g:Nat} (h:MH lb a b na nb out) {Q:ForInStep KS0->SortSt->Prop}
  (qd:∀ r c st',Sm st st'->Res lb a.toList b.toList r.toList->Q (.done (some r,c)) st') (qy:∀ c st',Sm st st'->Zd lb a b (out.size+1) c->Q (.yield c) st'):wpS M A E s (h0 a b (none,na,nb,out,g)) Q st:=by
 unfold h0;dsimp only;have tot:0<a.size+b.size:=by have:=h.2.2.1;have:=h.2.1;omega
 refine wpS_bind (wpS_mono (wpS_forRange (I:=λ x d st'=>st'=st/\Zd lb a b (out.size+x) d) (Q:=λ d st'=>st'=st/\En lb a b (out.size+1) d) ?step ?fin ⟨rfl,rfl,h,Nat.le_refl _⟩) ?post)
 case fin =>
  rintro d st' ⟨rfl,y⟩;exact ⟨rfl,.inr (y.mono (by omega))⟩
 case step =>
  rintro x ⟨r,i,j,o,u,v⟩ st' _ _ ⟨rfl,e,mi,le⟩
  cases (show r=none from e)
  have le:out.size+x<=o.size:=le;refine kKA H hk mi λ r hr=>?_
  cases r with
  | done c=>exact ⟨rfl,En.mono hr (by omega)⟩
  | yield c=>exact ⟨rfl,Zd.mono hr (by omega)⟩
 case post =>
  rintro ⟨r,i,j,o,u,v⟩ st' ⟨rfl,hd⟩
  cases r with
  | some r =>
   dsimp only;rcases hd with ⟨r',e,res⟩ | ⟨e,_⟩
   ·cases e
    exact wpS_pure (qd _ _ _ (Sm.refl _) res)
   ·cases e
  | none =>
   dsimp only
   have y:Zd lb a b (out.size+1) (none,i,j,o,(u,v)):=by
    rcases hd with ⟨r',e,res⟩ | y
    ·cases e
    ·exact y
   refine wpS_bind (vK ?_);refine wpS_bind (wpS_mono (wpS_forRange (I:=λ x f st2=>Sm st' st2/\Zd lb a b (out.size+1) f) (Q:=λ f st2=>Sm st' st2/\En lb a b (out.size+1) f) ?step2 ?fin2 ⟨Sm.refl _,y⟩) ?post2)
   case fin2 =>
    rintro f st2 ⟨sm,y⟩;exact ⟨sm,.inr y⟩
   case step2 =>
    rintro x ⟨r,i,j,o,g2,u,v⟩ st2 _ _ ⟨sm,e,mi,le⟩
    cases (show r=none from e)
    have le:out.size+1<=o.size:=le;dsimp only
    split
    all_goals
     refine kJZ (n:=out.size+1) H (sm.1.trans hk) mi (by omega) λ r hr=>?_
     cases r with
     | done c=>exact ⟨sm.gal _,hr⟩
     | yield c=>exact ⟨sm.gal _,hr⟩
   case post2 =>
    rintro ⟨r,i,j,o,g2,u,v⟩ st2 ⟨sm,hd⟩
    cases r with
    | some r =>
     dsimp only;rcases hd with ⟨r',e,res⟩ | ⟨e,_⟩
     ·cases e
      exact wpS_pure (qd _ _ _ sm res)
     ·cases e
    | none =>
     dsimp only;rcases hd with ⟨r',e,res⟩ | y
     ·cases e
     ·rw [setMinGallop'_eq]
      exact wpS_bind (wpS_modify (wpS_pure (qy _ _ (sm.gal _) y)))
theorem rA (H:Hz M A E s lb D kd a b) {st:SortSt} (hk:kindOf st=kd) (a0:0<a.size) (b0:0<b.size) (last:le lb (b[b.size-1]'(by omega)) (a[a.size-1]'(by omega))) {Q:Array Keyed->SortSt->Prop}
  (q:∀ r st',Sm st st'->Res lb a.toList b.toList r.toList->Q r st'):wpS M A E s (lH a b) Q st:=by
 rw [mergeHi'_parts];refine wpS_bind (vK ?_);refine wpS_bind (qE (getElem?_pos a (a.size-1) (by omega)) ?_);have ta:a.toList.take a.size=a.toList:=take_of_length_le (by simp);have tb:b.toList.take b.size=b.toList:=take_of_length_le (by simp)
 have m0:MM lb a b a.size b.size #[]:=by
  show Mh lb _ _ (#[]:Array Keyed).toList.reverse _ _;rw [ta,tb];exact ⟨by simpa using H.sa,by simpa using H.sb,by simp⟩
 have m1:MM lb a b (a.size-1) b.size #[a[a.size-1]'(by omega)]:=kET H m0 a0 (Nat.le_refl _) (kCL H.W H.sb b0 (Nat.le_refl _) last);by_cases e1:a.size-1=0
 ·rw [if_pos (by simpa using e1)]
  exact wpS_pure (q _ _ (Sm.refl _) (pP m1 e1))
 rw [if_neg (by simpa using e1)];by_cases e2:b.size=1
 ·rw [if_pos (by simpa using e2)]
  exact wpS_pure (q _ _ (Sm.refl _) (pO H m1 e2 b0))
 rw [if_neg (by simpa using e2)];refine wpS_bind (wpS_get ?_);refine wpS_bind (wpS_mono (wpS_forRange (I:=λ x c st'=>Sm st st'/\Zd lb a b (1+x) c) (Q:=λ c st'=>Sm st st'/\∃ r,c.1=some r/\Res lb a.toList b.toList r.toList) ?step ?fin ⟨Sm.refl _,rfl,⟨m1,by show 0<a.size-1;omega,by show a.size-1<=a.size;omega,by show 1<b.size;omega,Nat.le_refl _,by show 1+(a.size-1)+b.size=_;omega⟩,Nat.le_refl _⟩) ?post)
 case post =>
  rintro ⟨r,c⟩ st' ⟨sm,r',e,res⟩;cases e
  exact wpS_pure (q _ _ sm res)
 case fin =>
  rintro ⟨r,i,j,o,g⟩ st' ⟨sm,e,⟨_,h1,h2,h3,h4,h5⟩,le⟩;have h5:o.size+i+j=a.size+b.size:=h5;have le:1+max 0 (a.size+b.size)<=o.size:=le;omega
 case step =>
  rintro x ⟨r,i,j,o,g⟩ st' _ _ ⟨sm,e,mi,le⟩
  cases (show r=none from e)
  have le:1+x<=o.size:=le;exact kKB H (sm.1.trans hk) mi (λ r c st2 sm2 res=>⟨⟨sm2.1.trans sm.1,sm2.2.1.trans sm.2.1,sm2.2.2.1.trans sm.2.2.1,sm2.2.2.2.trans sm.2.2.2⟩,r,rfl,res⟩) λ c st2 sm2 y=>⟨⟨sm2.1.trans sm.1,sm2.2.1.trans sm.2.1,sm2.2.2.1.trans sm.2.2.1,sm2.2.2.2.trans sm.2.2.2⟩,y.mono (by omega)⟩
end
end Srt
namespace Srt
set_option autoImplicit false
open PySem PyProof.Rows
section
variable {α:Type} {lb:α->α->Bool}
theorem kCR (l:List α) (i:Nat) (x:α) (h:i<l.length):l.set i x=l.take i++x::l.drop (i+1):=by
 rw [List.set_eq_take_append_cons_drop,if_pos h]
theorem wr:∀ (xs:List α) (k:Nat) (arr:Array α) (lo:Nat),lo+k+xs.length<=arr.size->((xs.zipIdx k).foldl (λ a (p:α×Nat)=>a.setIfInBounds (lo+p.2) p.1) arr).toList=arr.toList.take (lo+k)++(xs++arr.toList.drop (lo+k+xs.length))
 | [],k,arr,lo,h=>by simp
 | x::xs,k,arr,lo,h=>by
  rw [length_cons] at h;rw [List.zipIdx_cons,foldl_cons];have ih:=wr xs (k+1) (arr.setIfInBounds (lo+k) x) lo (by rw [Array.size_setIfInBounds];omega);rw [ih,Array.toList_setIfInBounds,kCR _ _ _ (by simp;omega)];have e:(arr.toList.take (lo+k)).length=lo+k:=by simp;omega
  have t1:(arr.toList.take (lo+k)++x::arr.toList.drop (lo+k+1)).take (lo+(k+1))=arr.toList.take (lo+k)++[x]:=by
   rw [List.take_append,e,show lo+(k+1)-(lo+k)=1 by omega,take_of_length_le (by rw [e];omega)]
   rfl
  have t2:(arr.toList.take (lo+k)++x::arr.toList.drop (lo+k+1)).drop (lo+(k+1)+xs.length)=arr.toList.drop (lo+k+(x::xs).length):=by
   rw [List.drop_append,e,drop_eq_nil_of_le (by rw [e];omega),nil_append,show lo+(k+1)+xs.length-(lo+k)=xs.length+1 by omega,List.drop_succ_cons,List.drop_drop,length_cons]
   congr 1
   omega
  rw [t1,t2];simp
theorem kDM (W:Wk lb) {X1 X2 Y1 Y2 Mm:List α} (sx:jC lb (X1++X2)) (sy:jC lb (Y1++Y2)) (h1:∀ x∈X1,∀ y∈Y1++Y2,le lb x y) (h2:∀ x∈X2,∀ y∈Y2,le lb x y) (r:Res lb X2 Y1 Mm) :
  jC lb (X1++(Mm++Y2))/\(X1++(Mm++Y2)).Perm ((X1++X2)++(Y1++Y2)):=by
 have a1:=pairwise_append.mp sx;have a2:=pairwise_append.mp sy;have mem:∀ z∈Mm,z∈X2\/z∈Y1:=λ z hz=>mem_append.mp ((r.2.mem_iff).mp hz);refine ⟨pairwise_append.mpr ⟨a1.1,pairwise_append.mpr ⟨r.1,a2.2.1,λ x hx y hy=>?_⟩,λ x hx y hy=>?_⟩,?_⟩
 ·rcases mem x hx with z | z
  ·exact h2 x z y hy
  ·exact a2.2.2 x z y hy
 ·rcases mem_append.mp hy with z | z
  ·rcases mem y z with w | w
   ·exact a1.2.2 x hx y w
   ·exact h1 x hx y (mem_append_left _ w)
  ·exact h1 x hx y (mem_append_right _ z)
 ·rw [append_assoc]
  refine List.Perm.append_left X1 ?_;rw [<-append_assoc];exact r.2.append_right Y2
end
end Srt
local macro_rules | `(tactic| walk_at "sort_open mergeAt")=>`(tactic| delta $(Lean.mkIdent (Lean.mkPrivateNameCore `PySem.Builtin.List.W1All `PySem.Builtin.mergeAt)):ident)
namespace Srt
set_option autoImplicit false
open PySem PyProof.Rows
section
variable {M:Model} {A:Around} {E:Value->Shared->Prop} {s:Shared} {lb:Keyed->Keyed->Bool} {D:Keyed->Prop} {kd:SortKind} {arr:Array Keyed}
theorem kHH {st st':SortSt} {Q:PUnit->SortSt->Prop} (h:Q ⟨⟩ st'):wpS M A E s (set st':StateT SortSt Sem PUnit) Q st:=by
 unfold wpS;rw [StateT.run_set];exact wpAny_pure ⟨rfl,h⟩
theorem vR {i m j:Nat} (h1:i<=m) (h2:m<=j):(arr.extract i j).toList=(arr.extract i m).toList++(arr.extract m j).toList:=by
 rw [<-Array.toList_append,Array.extract_append_extract,Nat.min_eq_left h1,Nat.max_eq_right h2]
theorem tP (W:Wk lb) {lo n:Nat} (h:jC lb (arr.extract lo (lo+n)).toList) (hn:lo+n<=arr.size) (i j:Nat) (hi:i<=j) (hj:j<n):le lb (arr[lo+i]'(by omega)) (arr[lo+j]'(by omega)):=by
 have:=vE W h hi (show j<(arr.extract lo (lo+n)).size by rw [Array.size_extract];omega);simpa using this
def Joined (lb:Keyed->Keyed->Bool) (arr arr':Array Keyed) (lo n:Nat):Prop:=∃ m:List Keyed,arr'.toList=arr.toList.take lo++(m++arr.toList.drop (lo+n))/\jC lb m/\m.Perm (arr.extract lo (lo+n)).toList
theorem uF {lo n:Nat} (h:lo+n<=arr.size):arr.toList=arr.toList.take lo++((arr.extract lo (lo+n)).toList++arr.toList.drop (lo+n)):=by
 rw [xZ,<-List.drop_drop,take_append_drop,take_append_drop]
theorem rB (W:Wk lb) (hL:aE M A E s lb D kd) {st:SortSt} (hk:kindOf st=kd) (hf:failedOf st=none) (dd:∀ x∈(arrOf st).toList,D x) {i sa na nb pa pb:Nat} (hi:(pendingOf st)[i]?=some (sa,na,pa)) (hj:(pendingOf st)[i+1]?=some (sa+na,nb,pb))
  (na0:0<na) (nb0:0<nb) (hn:sa+na+nb<=(arrOf st).size) (sx:jC lb ((arrOf st).extract sa (sa+na)).toList) (sy:jC lb ((arrOf st).extract (sa+na) (sa+na+nb)).toList) {Q:Bool->SortSt->Prop}
  (q:∀ st',kindOf st'=kd->failedOf st'=none->pendingOf st'=((pendingOf st).setIfInBounds i (sa,na+nb,pa)).eraseIdxIfInBounds (i+1)->Joined lb (arrOf st) (arrOf st') sa (na+nb)->Q true st'):wpS M A E s (mergeAt' i) Q st:=by
 unfold mergeAt'
 walk_at "sort_open mergeAt"
 dsimp only;refine wpS_bind (wpS_get ?_);rw [hi,hj];dsimp only;refine wpS_bind (kHH ?_);generalize hP:((pendingOf st).setIfInBounds i (sa,na+nb,pa)).eraseIdxIfInBounds (i+1)=PP at *;have dx:∀ {j:Nat} (h:j<(arrOf st).size),D (arrOf st)[j]:=λ h=>dd _ (by simp);have z1:sa+na<(arrOf st).size:=by omega
 have z2:sa+na-1<(arrOf st).size:=by omega
 have z3:sa+na<=(arrOf st).size:=by omega
 refine wpS_bind (qE (arr:=arrOf st) (getElem?_pos (arrOf st) (sa+na) z1) ?_);refine wpS_bind (aF (arr:=arrOf st) (st:=setPending st PP) W hL hk (dx z1) dd z3 (tP (arr:=arrOf st) W sx z3) na0 λ k kn g1 g2=>?_);simp only [Bool.false_eq_true,if_false] at g1 g2;dsimp only;have spX:=vR (arr:=arrOf st) (i:=sa) (m:=sa+k) (j:=sa+na) (by omega) (by omega);have spW:=vR (arr:=arrOf st) (i:=sa) (m:=sa+na) (j:=sa+na+nb) (by omega) (by omega);have iy:=tP W sy (by omega);have ix:=tP W sx (by omega);have same:∀ {X:List Keyed},X=((arrOf st).extract sa (sa+(na+nb))).toList->jC lb X->Joined lb (arrOf st) (arrOf st) sa (na+nb):=λ {X} e h=>⟨X,by rw [e];exact uF (by omega),h,by rw [e]⟩
 have low:∀ x∈((arrOf st).extract sa (sa+k)).toList,∀ y∈((arrOf st).extract (sa+na) (sa+na+nb)).toList,le lb x y:=λ x hx y hy=>by
  obtain ⟨j,hj,j1,j2,rfl⟩:=jB hx;obtain ⟨j',hj',j1',j2',rfl⟩:=jB hy;have e1:=g1 (j-sa) (by omega) (by omega);have e2:=iy 0 (j'-(sa+na)) (by omega) (by omega);simp only [show sa+(j-sa)=j by omega,show sa+na+(j'-(sa+na))=j' by omega,Nat.add_zero] at e1 e2;exact W.trans e1 e2
 by_cases e:na-k=0
 ·rw [if_pos (by simpa using e)]
  have ek:sa+k=sa+na:=by omega
  rw [ek] at low;exact wpS_pure (q _ hk hf rfl (same (by rw [<-Nat.add_assoc];exact spW.symm) (pairwise_append.mpr ⟨sx,sy,low⟩)))
 rw [if_neg (by simpa using e)];have eL:sa+k+(na-k)-1=sa+na-1:=by omega
 rw [eL];refine wpS_bind (qE (arr:=arrOf st) (getElem?_pos (arrOf st) (sa+na-1) z2) ?_);refine wpS_bind (aF (arr:=arrOf st) (st:=setPending st PP) W hL hk (dx z2) dd hn iy (by omega) λ p pn f1 f2=>?_);simp only [if_true] at f1 f2;dsimp only
 have toLast:∀ x∈((arrOf st).extract sa (sa+na)).toList,le lb x ((arrOf st)[sa+na-1]'(by omega)):=λ x hx=>by
  obtain ⟨j,hj,j1,j2,rfl⟩:=jB hx;have e1:=ix (j-sa) (na-1) (by omega) (by omega);simp only [show sa+(j-sa)=j by omega,show sa+(na-1)=sa+na-1 by omega] at e1;exact e1
 have high:∀ y∈((arrOf st).extract (sa+na+p) (sa+na+nb)).toList,le lb ((arrOf st)[sa+na-1]'(by omega)) y:=λ y hy=>by
  obtain ⟨j,hj,j1,j2,rfl⟩:=jB hy;have e1:=f2 (j-(sa+na)) (by omega) (by omega);simp only [show sa+na+(j-(sa+na))=j by omega] at e1;exact e1
 by_cases e0:p=0
 ·rw [if_pos (by simpa using e0)]
  rw [e0,Nat.add_zero] at high;exact wpS_pure (q _ hk hf rfl (same (by rw [<-Nat.add_assoc];exact spW.symm) (pairwise_append.mpr ⟨sx,sy,λ x hx y hy=>W.trans (toLast x hx) (high y hy)⟩)))
 rw [if_neg (by simpa using e0)];have spY:=vR (arr:=arrOf st) (i:=sa+na) (m:=sa+na+p) (j:=sa+na+nb) (by omega) (by omega);have sx':=sx;rw [spX] at sx';have sy':=sy;rw [spY] at sy'
 have mx:∀ {u v:Nat},∀ x∈((arrOf st).extract u v).toList,D x:=λ x hx=>by
  obtain ⟨j,hj,_,_,rfl⟩:=jB hx;exact dx hj
 have szx:((arrOf st).extract (sa+k) (sa+na)).size=na-k:=by rw [Array.size_extract];omega
 have szy:((arrOf st).extract (sa+na) (sa+na+p)).size=p:=by rw [Array.size_extract];omega
 have x0:∀ (h:0<((arrOf st).extract (sa+k) (sa+na)).size),((arrOf st).extract (sa+k) (sa+na))[0]=(arrOf st)[sa+k]'(by omega):=λ h=>by simp
 have xl:∀ (h:0<((arrOf st).extract (sa+k) (sa+na)).size),((arrOf st).extract (sa+k) (sa+na))[((arrOf st).extract (sa+k) (sa+na)).size-1]'(by omega)=(arrOf st)[sa+na-1]'(by omega):=λ h=>by
  rw [Array.getElem_extract]
  congr 1
  omega
 have y0:∀ (h:0<((arrOf st).extract (sa+na) (sa+na+p)).size),((arrOf st).extract (sa+na) (sa+na+p))[0]=(arrOf st)[sa+na]'(by omega):=λ h=>by simp
 have below:∀ y∈((arrOf st).extract (sa+na) (sa+na+p)).toList,le lb y ((arrOf st)[sa+na-1]'(by omega)):=λ y hy=>by
  obtain ⟨j,hj,j1,j2,rfl⟩:=jB hy;have e1:=f1 (j-(sa+na)) (by omega) (by omega);simp only [show sa+na+(j-(sa+na))=j by omega] at e1;exact W.of_lt e1
 have above:∀ y∈((arrOf st).extract (sa+k) (sa+na)).toList,le lb ((arrOf st)[sa+na]'(by omega)) y:=λ y hy=>by
  obtain ⟨j,hj,j1,j2,rfl⟩:=jB hy;have e1:=g2 (j-sa) (by omega) (by omega);simp only [show sa+(j-sa)=j by omega] at e1;exact W.of_lt e1
 have fin:∀ (r:Array Keyed) (st':SortSt),Sm (setPending st PP) st'->Res lb ((arrOf st).extract (sa+k) (sa+na)).toList ((arrOf st).extract (sa+na) (sa+na+p)).toList r.toList ->
   wpS M A E s (do modify λ s=>setArr s (r.toList.zipIdx.foldl (λ a (p,j)=>a.setIfInBounds (sa+k+j) p) (arrOf s));let __do_lift <-get;pure (failedOf __do_lift).isNone) Q st':=λ r st' sm res=>by
  refine wpS_bind (wpS_modify (wpS_bind (wpS_get ?_)));have ef:failedOf st'=none:=sm.2.2.2.trans hf;have ea:arrOf st'=arrOf st:=sm.2.1;refine wpS_pure ?_;show Q (failedOf st').isNone _;rw [ef];refine q _ (sm.1.trans hk) ef sm.2.2.1 ?_;show Joined lb (arrOf st) (r.toList.zipIdx.foldl (λ a (p:Keyed×Nat)=>a.setIfInBounds (sa+k+p.2) p.1) (arrOf st')) sa (na+nb);rw [ea];obtain ⟨j1,j2⟩:=kDM W sx' sy' (by rw [<-spY];exact low) (λ x hx y hy=>W.trans (toLast x (by rw [spX];exact mem_append_right _ hx)) (high y hy)) res;rw [<-spX,<-spY,<-spW] at j2;refine ⟨_,?_,j1,by rw [<-Nat.add_assoc];exact j2⟩
  have len:r.toList.length=na-k+p:=by
   have:=res.2.length_eq;rw [length_append] at this;simp only [Array.length_toList,szx,szy] at this;simpa using this
  rw [wr r.toList 0 (arrOf st) (sa+k) (by rw [len];omega),len];have t1:(arrOf st).toList.take (sa+k+0)=(arrOf st).toList.take sa++((arrOf st).extract sa (sa+k)).toList:=tE (arrOf st) (by omega)
  have t2:(arrOf st).toList.drop (sa+k+0+(na-k+p))=((arrOf st).extract (sa+na+p) (sa+na+nb)).toList++(arrOf st).toList.drop (sa+(na+nb)):=by
   rw [show sa+k+0+(na-k+p)=sa+na+p by omega,show sa+na+nb=sa+na+p+(nb-p) by omega,xZ,show sa+(na+nb)=sa+na+p+(nb-p) by omega];exact kAT _ _ _
  rw [t1,t2];simp only [append_assoc]
 have mx0:(arrOf st)[sa+k]'(by omega)∈((arrOf st).extract (sa+k) (sa+na)).toList:=by
  rw [<-x0 (by omega),Array.mem_toList_iff];exact Array.getElem_mem _
 have myl:((arrOf st).extract (sa+na) (sa+na+p))[((arrOf st).extract (sa+na) (sa+na+p)).size-1]'(by omega)∈((arrOf st).extract (sa+na) (sa+na+p)).toList:=by
  rw [Array.mem_toList_iff];exact Array.getElem_mem _
 by_cases c:na-k<=p
 ·rw [if_pos c]
  refine wpS_bind ?_;exact pZ (st:=setPending st PP) ⟨W,hL,mx,mx,(pairwise_append.mp sx').2.1,(pairwise_append.mp sy').1,λ h y hy=>by rw [xl h];exact below y hy⟩ hk (by omega) (by omega) (by rw [x0 (by omega),y0 (by omega)];exact above _ mx0) fin
 ·rw [if_neg c]
  refine wpS_bind ?_;exact rA (st:=setPending st PP) ⟨W,hL,mx,mx,(pairwise_append.mp sx').2.1,(pairwise_append.mp sy').1,λ h y hy=>by rw [y0 h];exact above y hy⟩ hk (by omega) (by omega) (by rw [xl (by omega)];exact below _ myl) fin
end
end Srt
namespace Srt
theorem oR {α:Type} {R:α->α->Prop}:∀ {l:List α},l.length<=1->l.Pairwise R
 | [],_=>List.Pairwise.nil
 | [_],_=>pairwise_singleton _ _
set_option autoImplicit false
open PySem PyProof.Rows
section
variable {α:Type}
theorem kES (arr:Array α) {Q R:List α} {y x:α} (h:arr.toList=Q++y::x::R):(arr.swapIfInBounds (Q.length+1) Q.length).toList=Q++x::y::R:=by
 have sz:arr.size=Q.length+(R.length+2):=by
  have:=congrArg List.length h;simpa using this
 have g:∀ k,arr[k]?=(Q++y::x::R)[k]?:=λ k=>by rw [<-h,Array.getElem?_toList]
 refine List.ext_getElem? λ k=>?_;have e:=getElem?_swapIB (xs:=arr) (i:=Q.length+1) (j:=Q.length) (by omega) (by omega) k;rw [show (arr.swapIfInBounds (Q.length+1) Q.length).toList[k]?=(arr.swapIfInBounds (Q.length+1) Q.length)[k]? by simp,e,g,g,g];rcases Nat.lt_or_ge k Q.length with c | c
 ·rw [if_neg (by omega),if_neg (by omega),List.getElem?_append_left c,List.getElem?_append_left c]
 ·obtain ⟨j,rfl⟩ : ∃ j,k=Q.length+j:=⟨k-Q.length,by omega⟩
  rw [List.getElem?_append_right (by omega),List.getElem?_append_right (by omega),List.getElem?_append_right (by omega),List.getElem?_append_right (by omega)];rw [show Q.length+j-Q.length=j by omega,show Q.length+1-Q.length=1 by omega,Nat.sub_self]
  match j with
  | 0=>simp
  | 1=>simp
  | j+2 =>
   rw [if_neg (by omega),if_neg (by omega)];simp
theorem fF:∀ (m2 m1 T:List α) (x:α) (arr:Array α),arr.toList=m1++(m2++x::T)->(bubble arr (m1.length+m2.length) m2.length).toList=m1++(x::(m2++T))
 | [],m1,T,x,arr,h=>h
 | y::m2,m1,T,x,arr,h=>by
  have ih:=fF m2 (m1++[y]) T x arr (by rw [h];simp);rw [length_cons,bubble_succ];rw [length_append,length_singleton,show m1.length+1+m2.length=m1.length+(m2.length+1) by omega] at ih;have e:=kES (bubble arr (m1.length+(m2.length+1)) m2.length) (Q:=m1) (y:=y) (x:=x) (R:=m2++T) (by rw [ih];simp);rw [show m1.length+(m2.length+1)-m2.length=m1.length+1 by omega,show m1.length+1-1=m1.length by omega];rw [e];simp
end
section
variable {M:Model} {A:Around} {E:Value->Shared->Prop} {s:Shared} {lb:Keyed->Keyed->Bool} {D:Keyed->Prop} {kd:SortKind}
theorem bI (hL:aE M A E s lb D kd) {st:SortSt} (hk:kindOf st=kd) {i j:Nat} {x y:Keyed} (hx:(arrOf st)[i]?=some x) (hy:(arrOf st)[j]?=some y) (dx:D x) (dy:D y) {Q:Option Bool->SortSt->Prop} (q:Q (some (lb x y)) st):wpS M A E s (ltAt' i j) Q st:=by
 rw [ltAt'_eq];refine wpS_bind (wpS_get ?_);exact wpS_bind (qE hx (wpS_bind (qE hy (hL _ _ dx dy st _ hk q))))
def Sa (st st':SortSt):Prop:=kindOf st'=kindOf st/\pendingOf st'=pendingOf st/\failedOf st'=failedOf st
theorem kIV (W:Wk lb) {m1 m2:List Keyed} {x:Keyed} (h:jC lb (m1++m2)) (h1:∀ y∈m1,le lb y x) (h2:∀ y∈m2,le lb x y):jC lb (m1++x::m2):=by
 have a:=pairwise_append.mp h;refine pairwise_append.mpr ⟨a.1,pairwise_cons.mpr ⟨h2,a.2.1⟩,λ y hy z hz=>?_⟩;rcases mem_cons.mp hz with rfl | w
 ·exact h1 y hy
 ·exact a.2.2 y hy z w
theorem sV (W:Wk lb) (hL:aE M A E s lb D kd) {st:SortSt} (hk:kindOf st=kd) (dd:∀ x∈(arrOf st).toList,D x) {lo n ok:Nat} (hok:ok<=n) (hn:lo+n<=(arrOf st).size) (hs:jC lb ((arrOf st).extract lo (lo+ok)).toList) {Q:Bool->SortSt->Prop}
  (q:∀ st',Sa st st'->Joined lb (arrOf st) (arrOf st') lo n->Q true st'):wpS M A E s (binarySort' lo n ok) Q st:=by
 rw [binarySort'_eq];refine wpS_bind (wpS_mono (wpS_forRange (I:=λ k c st'=>c=(none,())/\Sa st st'/\Joined lb (arrOf st) (arrOf st') lo (min k n)) (Q:=λ c st'=>c=(none,())/\Sa st st'/\Joined lb (arrOf st) (arrOf st') lo n) ?step ?fin ?init) ?post)
 case post =>
  rintro c st' ⟨rfl,sm,j⟩;exact wpS_pure (q st' sm j)
 case fin =>
  rintro c st' ⟨rfl,sm,j⟩;refine ⟨rfl,sm,?_⟩;rwa [show min (max (max ok 1) n) n=n by omega] at j
 case init =>
  refine ⟨rfl,⟨rfl,rfl,rfl⟩,_,uF (by omega),?_,List.Perm.refl _⟩;by_cases o:ok=0
  ·have:((arrOf st).extract lo (lo+min (max ok 1) n)).toList.length<=1:=by
    rw [Array.length_toList,Array.size_extract];omega
   generalize ((arrOf st).extract lo (lo+min (max ok 1) n)).toList=l at *;exact oR this
  ·rwa [show min (max ok 1) n=ok by omega]
 case step =>
  rintro k c st' _ hkn ⟨rfl,sm,m,e,sr,pm⟩;rw [show min k n=k by omega] at e pm;have lm:m.length=k:=by rw [pm.length_eq,Array.length_toList,Array.size_extract];omega
  have lp:((arrOf st).toList.take lo).length=lo:=by simp;omega
  have kz:lo+k<(arrOf st).size:=by omega
  rw [yG kz] at e
  have ax:(arrOf st')[lo+k]?=some ((arrOf st)[lo+k]):=by
   rw [<-Array.getElem?_toList,e,List.getElem?_append_right (by omega),lp,List.getElem?_append_right (by omega),lm,show lo+k-lo-k=0 by omega]
   rfl
  have am:∀ j (h:j<m.length),(arrOf st')[lo+j]?=some m[j]:=λ j h=>by
   rw [<-Array.getElem?_toList,e,List.getElem?_append_right (by omega),lp,List.getElem?_append_left (by omega),show lo+j-lo=j by omega];exact List.getElem?_eq_getElem h
  have dx:D (arrOf st)[lo+k]:=dd _ (by simp)
  have dm:∀ j (h:j<m.length),D m[j]:=λ j h=>by
   obtain ⟨i,hi,_,_,ei⟩:=jB (pm.mem_iff.mp (getElem_mem h));rw [ei];exact dd _ (by simp)
  have mono:∀ i j (h:i<=j) (hj:j<m.length),le lb (m[i]'(by omega)) m[j]:=λ i j h hj=>by
   by_cases z:i=j
   ·subst z;exact W.refl _
   ·exact pairwise_iff_getElem.mp sr i j (by omega) hj (by omega)
  refine wpS_bind (wpS_mono (wpS_forRange (I:=λ x c st2=>st2=st'/\∃ l r,c=(none,l,r)/\l<=r/\r<=k/\r-l<=k-x/\(∀ i (h:i<m.length),i<l->le lb m[i] (arrOf st)[lo+k])/\(∀ i (h:i<m.length),r<=i->le lb (arrOf st)[lo+k] m[i]))
   (Q:=λ c st2=>st2=st'/\∃ l r,c=(none,l,r)/\l<=k/\(∀ i (h:i<m.length),i<l->le lb m[i] (arrOf st)[lo+k])/\(∀ i (h:i<m.length),l<=i->le lb (arrOf st)[lo+k] m[i])) ?istep ?ifin ?iinit) ?ipost)
  case iinit=>exact ⟨rfl,0,k,rfl,by omega,by omega,by omega,λ i _ hi=>by omega,λ i h1 h2=>by omega⟩
  case ifin =>
   rintro c st2 ⟨rfl,l,r,rfl,lr,rk,d,a1,a2⟩;have:l=r:=by omega
   subst this;exact ⟨rfl,l,l,rfl,rk,a1,a2⟩
  case istep =>
   rintro x c st2 _ _ ⟨rfl,l,r,rfl,lr,rk,d,a1,a2⟩;dsimp only;by_cases hge:l >= r
   ·rw [if_pos hge]
    have:l=r:=by omega
    subst this;exact wpS_pure ⟨rfl,l,l,rfl,rk,a1,a2⟩
   ·rw [if_neg hge]
    have hm:(l+r) / 2<m.length:=by omega
    refine wpS_bind (bI hL (sm.1.trans hk) ax (am _ hm) dx (dm _ hm) ?_)
    cases z:lb (arrOf st)[lo+k] m[(l+r) / 2]
    case true =>
     simp only [if_true];exact wpS_pure ⟨rfl,l,_,rfl,by omega,by omega,by omega,a1,λ i h hi=>W.trans (W.of_lt z) (mono _ i hi h)⟩
    case false =>
     simp only [Bool.false_eq_true,if_false];exact wpS_pure ⟨rfl,_,r,rfl,by omega,by omega,by omega,λ i h hi=>W.trans (mono i _ (by omega) hm) z,a2⟩
  case ipost =>
   rintro c st2 ⟨rfl,l,r,rfl,lk,a1,a2⟩;show wpS _ _ _ _ (do moveDown' (lo+k) (lo+l);pure (ForInStep.yield (none,()))) _ _;rw [moveDown'_eq];refine wpS_bind (wpS_modify (wpS_pure ⟨rfl,sm,?_⟩));rw [show min (k+1) n=k+1 by omega];show Joined lb (arrOf st) (bubble (arrOf st2) (lo+k) (lo+k-(lo+l))) lo (k+1)
   have b:=fF (m.drop l) ((arrOf st).toList.take lo++m.take l) ((arrOf st).toList.drop (lo+k+1)) ((arrOf st)[lo+k]) (arrOf st2) (by
    rw [e]
    conv=>lhs;rw [<-take_append_drop l m]
    simp only [append_assoc,List.singleton_append])
   have l1:((arrOf st).toList.take lo++m.take l).length+(m.drop l).length=lo+k:=by
    rw [length_append,lp,length_take,length_drop];omega
   have l2:(m.drop l).length=lo+k-(lo+l):=by rw [length_drop];omega
   rw [l1,l2] at b;refine ⟨m.take l++(arrOf st)[lo+k]::m.drop l,?_,kIV W (by rw [take_append_drop];exact sr) (λ y hy=>?_) (λ y hy=>?_),?_⟩
   ·rw [b,<-Nat.add_assoc]
    simp only [append_assoc,cons_append]
   ·obtain ⟨i,hi,rfl⟩:=mem_iff_getElem.mp hy
    rw [length_take] at hi;rw [List.getElem_take];exact a1 i (by omega) (by omega)
   ·obtain ⟨i,hi,rfl⟩:=mem_iff_getElem.mp hy
    rw [length_drop] at hi;rw [List.getElem_drop];exact a2 _ (by omega) (by omega)
   ·refine List.Perm.trans List.perm_middle ?_
    rw [take_append_drop,vR (i:=lo) (m:=lo+k) (j:=lo+(k+1)) (by omega) (by omega)]
    have:((arrOf st).extract (lo+k) (lo+(k+1))).toList=[(arrOf st)[lo+k]]:=by
     rw [<-Nat.add_assoc,xZ,yG kz]
     rfl
    rw [this];exact (perm_append_comm (l₁:=[(arrOf st)[lo+k]]) (l₂:=m)).trans (pm.append_right _)
end
end Srt
namespace Srt
set_option autoImplicit false
open PySem PyProof.Rows
section
variable {α:Type}
theorem rW (arr:Array α) {P m T:List α} {i j:Nat} (h:arr.toList=P++(m++T)) (hi:i=P.length) (hj:j=P.length+m.length):(mirror arr i j ((j-i) / 2)).toList=P++(m.reverse++T):=by
 subst hi hj
 have sz:arr.size=P.length+(m.length+T.length):=by
  have:=congrArg List.length h;simpa using this
 have g:∀ k,arr[k]?=(P++(m++T))[k]?:=λ k=>by rw [<-h,Array.getElem?_toList]
 refine List.ext_getElem? λ k=>?_;rw [Array.getElem?_toList,getElem?_mirror_all (by omega),g,g];rcases Nat.lt_or_ge k P.length with c | c
 ·rw [if_neg (by omega),List.getElem?_append_left c,List.getElem?_append_left c]
 ·rcases Nat.lt_or_ge k (P.length+m.length) with c2 | c2
  ·rw [if_pos ⟨c,c2⟩,List.getElem?_append_right (by omega),List.getElem?_append_right c,List.getElem?_append_left (by omega),List.getElem?_append_left (by rw [List.length_reverse];omega),List.getElem?_reverse (by omega)]
   congr 1
   omega
  ·rw [if_neg (by omega),List.getElem?_append_right c,List.getElem?_append_right c,List.getElem?_append_right (by omega),List.getElem?_append_right (by rw [List.length_reverse];omega),List.length_reverse]
end
section
variable {α:Type} {lb:α->α->Bool}
def Fal (lb:α->α->Bool) (l:List α):Prop:=l.Pairwise λ a b=>le lb b a
theorem Fal.rev {l:List α} (h:Fal lb l):jC lb l.reverse:=List.pairwise_reverse.mpr h
theorem Fal.tail {u t:List α} (h:Fal lb (u++t)) (e:jC lb t):Fal lb (u++t.reverse):=by
 have a:=pairwise_append.mp h;refine pairwise_append.mpr ⟨a.1,List.pairwise_reverse.mpr e,λ x hx y hy=>a.2.2 x hx y (List.mem_reverse.mp hy)⟩
end
end Srt
namespace Srt
set_option autoImplicit false
open PySem PyProof.Rows
section
variable {M:Model} {A:Around} {E:Value->Shared->Prop} {s:Shared} {lb:Keyed->Keyed->Bool} {D:Keyed->Prop} {kd:SortKind}
structure Rn (arr0 arr:Array Keyed) (lo n:Nat) (m:List Keyed):Prop where
 eq:arr.toList=arr0.toList.take lo++(m++arr0.toList.drop (lo+n))
 pm:m.Perm (arr0.extract lo (lo+n)).toList
 hn:lo+n<=arr0.size
variable {arr0 arr:Array Keyed} {lo n:Nat} {m:List Keyed}
theorem Rn.len (h:Rn arr0 arr lo n m):m.length=n:=by
 have:=h.hn;rw [h.pm.length_eq,Array.length_toList,Array.size_extract];omega
theorem Rn.joined (h:Rn arr0 arr lo n m) (sr:jC lb m):Joined lb arr0 arr lo n:=⟨m,h.eq,sr,h.pm⟩
theorem Rn.start (h:lo+n<=arr0.size):Rn arr0 arr0 lo n (arr0.extract lo (lo+n)).toList:=⟨uF h,List.Perm.refl _,h⟩
theorem Rn.lp (h:Rn arr0 arr lo n m):(arr0.toList.take lo).length=lo:=by have:=h.hn;simp;omega
theorem Rn.at (h:Rn arr0 arr lo n m) {j:Nat} (hj:j<m.length):arr[lo+j]?=some m[j]:=by
 rw [<-Array.getElem?_toList,h.eq,List.getElem?_append_right (by rw [h.lp];omega),h.lp,List.getElem?_append_left (by omega),show lo+j-lo=j by omega];exact List.getElem?_eq_getElem hj
theorem Rn.next (h:Rn arr0 arr lo n m) (hk:lo+n<arr0.size):arr[lo+n]?=some arr0[lo+n]:=by
 rw [<-Array.getElem?_toList,h.eq,List.getElem?_append_right (by rw [h.lp];omega),h.lp,List.getElem?_append_right (by rw [h.len];omega),h.len,yG hk,show lo+n-lo-n=0 by omega]
 rfl
theorem Rn.more (h:Rn arr0 arr lo n m) (hk:lo+n<arr0.size):Rn arr0 arr lo (n+1) (m++[arr0[lo+n]]):=by
 refine ⟨?_,?_,by omega⟩
 ·rw [h.eq,yG hk,append_assoc]
  rfl
 ·rw [vR (i:=lo) (m:=lo+n) (j:=lo+(n+1)) (by omega) (by omega)]
  have:(arr0.extract (lo+n) (lo+(n+1))).toList=[arr0[lo+n]]:=by
   rw [<-Nat.add_assoc,xZ,yG hk]
   rfl
  rw [this];exact h.pm.append_right _
theorem Rn.dom (h:Rn arr0 arr lo n m) (dd:∀ x∈arr0.toList,D x):∀ x∈m,D x:=λ x hx=>by
 obtain ⟨i,hi,_,_,ei⟩:=jB (h.pm.mem_iff.mp hx);rw [ei];exact dd _ (by simp)
theorem Rn.turn {u v t:List Keyed} (h:Rn arr0 arr lo n (u++(v++t))) {i j:Nat} (hi:i=lo+u.length) (hj:j=lo+u.length+v.length):Rn arr0 (mirror arr i j ((j-i) / 2)) lo n (u++(v.reverse++t)):=by
 have lp:=h.lp;refine ⟨?_,List.Perm.trans (List.Perm.append_left u (List.Perm.append_right t (List.reverse_perm v))) h.pm,h.hn⟩;have e:=rW arr (P:=arr0.toList.take lo++u) (m:=v) (T:=t++arr0.toList.drop (lo+n)) (i:=i) (j:=j) (by rw [h.eq];simp only [append_assoc]) (by rw [length_append,lp];exact hi) (by rw [length_append,lp];exact hj);rw [e];simp only [append_assoc]
theorem kBQ (W:Wk lb) {m:List Keyed} {x:Keyed} (sr:jC lb m) (h:m.length-1<m.length) (c:le lb m[m.length-1] x):jC lb (m++[x]):=by
 refine pairwise_append.mpr ⟨sr,pairwise_singleton _ _,λ y hy z hz=>?_⟩;have:z=x:=by simpa using hz
 subst this;obtain ⟨i,hi,rfl⟩:=mem_iff_getElem.mp hy;by_cases e:i=m.length-1
 ·subst e;exact c
 ·exact W.trans (pairwise_iff_getElem.mp sr i (m.length-1) hi h (by omega)) c
abbrev AS:=Option (Option Nat)×Nat
def kAW (lo a nrem:Nat):StateT SortSt Sem AS :=
 forIn [a:nrem] ((none,a):AS) λ _ c=>do
  let r <-ltAt' (lo+c.2) (lo+c.2-1)
  match r with
  | some smaller=>if smaller=true then pure (ForInStep.done (none,c.2)) else pure (ForInStep.yield (none,c.2+1))
  | _=>pure (ForInStep.done (some none,c.2))
theorem rC (W:Wk lb) (hL:aE M A E s lb D kd) {st:SortSt} (hk:kindOf st=kd) (dd:∀ x∈arr0.toList,D x) {nrem:Nat} (hn:lo+nrem<=arr0.size) (n1:1<=n) (nn:n<=nrem) (h:Rn arr0 (arrOf st) lo n m) (sr:jC lb m) {Q:AS->SortSt->Prop}
  (q:∀ k m',n<=k->k<=nrem->Rn arr0 (arrOf st) lo k m'->jC lb m'->(k=nrem\/∃ (h1:lo+k<arr0.size) (h2:m'.length-1<m'.length),lb arr0[lo+k] m'[m'.length-1]=true)->Q (none,k) st):wpS M A E s (kAW lo n nrem) Q st:=by
 unfold kAW;refine wpS_forRange (I:=λ x c st'=>st'=st/\c=(none,x)/\∃ m',Rn arr0 (arrOf st) lo x m'/\jC lb m') ?step ?fin ⟨rfl,rfl,m,h,sr⟩
 case fin =>
  rintro c st' ⟨rfl,rfl,m',h',sr'⟩;rw [show max n nrem=nrem by omega] at h' ⊢;exact q nrem m' nn (Nat.le_refl _) h' sr' (.inl rfl)
 case step =>
  rintro x c st' hx1 hx2 ⟨rfl,rfl,m',h',sr'⟩;dsimp only;have lm:=h'.len;have hz:lo+x<arr0.size:=by omega
  have hl:m'.length-1<m'.length:=by omega
  have al:=h'.at hl;rw [show lo+(m'.length-1)=lo+x-1 by omega] at al;refine wpS_bind (bI hL hk (h'.next hz) al (dd _ (by simp)) (h'.dom dd _ (getElem_mem hl)) ?_)
  cases e:lb arr0[lo+x] m'[m'.length-1]
  case true =>
   simp only [if_true];exact wpS_pure (q x m' hx1 (by omega) h' sr' (.inr ⟨hz,hl,e⟩))
  case false =>
   simp only [Bool.false_eq_true,if_false];exact wpS_pure ⟨rfl,rfl,_,h'.more hz,kBQ W sr' hl e⟩
end
end Srt
namespace Srt
set_option autoImplicit false
open PySem PyProof.Rows
section
variable {M:Model} {A:Around} {E:Value->Shared->Prop} {s:Shared} {lb:Keyed->Keyed->Bool} {D:Keyed->Prop} {kd:SortKind}
variable {arr0 arr:Array Keyed} {lo n:Nat} {m:List Keyed}
abbrev DS:=Option (Option Nat)×Nat×Nat
def sQ (lo n nrem:Nat):StateT SortSt Sem DS :=
 forIn [n:nrem] ((none,n,0):DS) λ _ c=>do
  let r <-ltAt' (lo+c.2.1) (lo+c.2.1-1)
  match r with
  | some smaller =>
   if smaller=true then
    if c.2.2>0 then do
     reverseSlice' (lo+c.2.1-(c.2.2+1)) (lo+c.2.1)
     pure (ForInStep.yield (none,c.2.1+1,0))
    else pure (ForInStep.yield (none,c.2.1+1,0))
   else do
    let r <-ltAt' (lo+c.2.1-1) (lo+c.2.1)
    match r with
    | some larger=>if larger=true then pure (ForInStep.done (none,c.2.1,c.2.2)) else pure (ForInStep.yield (none,c.2.1+1,c.2.2+1))
    | _=>pure (ForInStep.done (some none,c.2.1,c.2.2))
  | _=>pure (ForInStep.done (some none,c.2.1,c.2.2))
structure Fl (lb:Keyed->Keyed->Bool) (arr0 arr:Array Keyed) (lo n neq:Nat) (u t:List Keyed) (z:Keyed):Prop where
 rn:Rn arr0 arr lo n (u++(t++[z]))
 fal:Fal lb (u++(t++[z]))
 srt:jC lb (t++[z])
 len:t.length=neq
theorem Fl.last {neq:Nat} {u t:List Keyed} {z:Keyed} (h:Fl lb arr0 arr lo n neq u t z) (n0:0<n):arr[lo+n-1]?=some z:=by
 have l:=h.rn.len;rw [length_append,length_append,length_singleton] at l;have:=h.rn.at (j:=n-1) (by rw [length_append,length_append,length_singleton];omega);rw [show lo+(n-1)=lo+n-1 by omega] at this;rw [this,<-List.getElem?_eq_getElem,List.getElem?_append_right (by omega),List.getElem?_append_right (by omega),show n-1-u.length-t.length=0 by omega]
 rfl
theorem Fl.low (W:Wk lb) {neq:Nat} {u t:List Keyed} {z x:Keyed} (h:Fl lb arr0 arr lo n neq u t z) (c:le lb x z):∀ y∈u++(t++[z]),le lb x y:=λ y hy=>by
 have f:=h.fal;rw [Fal,<-append_assoc] at f;rw [<-append_assoc] at hy;rcases mem_append.mp hy with w | w
 ·exact W.trans c ((pairwise_append.mp f).2.2 y w z (by simp))
 ·have:y=z:=by simpa using w
  rw [this];exact c
theorem cI {l:List Keyed} {x:Keyed} (h:Fal lb l) (c:∀ y∈l,le lb x y):Fal lb (l++[x]):=by
 refine pairwise_append.mpr ⟨h,pairwise_singleton _ _,λ y hy w hw=>?_⟩;have:w=x:=by simpa using hw
 rw [this];exact c y hy
theorem Fl.turned {neq:Nat} {u t:List Keyed} {z:Keyed} (h:Fl lb arr0 arr lo n neq u t z):Rn arr0 (mirror arr (lo+n-(neq+1)) (lo+n) ((lo+n-(lo+n-(neq+1))) / 2)) lo n (u++(t++[z]).reverse)/\Fal lb (u++(t++[z]).reverse):=by
 have l:=h.rn.len;have ll:=h.len;rw [length_append,length_append,length_singleton] at l;refine ⟨?_,h.fal.tail h.srt⟩;have:=Rn.turn (u:=u) (v:=t++[z]) (t:=[]) (by simpa using h.rn) (i:=lo+n-(neq+1)) (j:=lo+n) (by omega) (by rw [length_append,length_singleton];omega);simpa using this
theorem kCJ (W:Wk lb) (hL:aE M A E s lb D kd) {st:SortSt} (hk:kindOf st=kd) (dd:∀ x∈arr0.toList,D x) {nrem:Nat} (hn:lo+nrem<=arr0.size) (n1:1<=n) (nn:n<=nrem) {u:List Keyed} {z:Keyed} (h:Fl lb arr0 (arrOf st) lo n 0 u [] z) {Q:DS->SortSt->Prop}
  (q:∀ k neq st' u t z,Sa st st'->n<=k->k<=nrem->Fl lb arr0 (arrOf st') lo k neq u t z->Q (none,k,neq) st'):wpS M A E s (sQ lo n nrem) Q st:=by
 unfold sQ;refine wpS_forRange (I:=λ x c st'=>Sa st st'/\∃ neq u t z,c=(none,x,neq)/\Fl lb arr0 (arrOf st') lo x neq u t z) ?step ?fin ⟨⟨rfl,rfl,rfl⟩,0,u,[],z,rfl,h⟩
 case fin =>
  rintro c st' ⟨sm,neq,u,t,z,rfl,f⟩;rw [show max n nrem=nrem by omega] at f ⊢;exact q _ _ _ _ _ _ sm nn (Nat.le_refl _) f
 case step =>
  rintro x c st' hx1 hx2 ⟨sm,neq,u,t,z,rfl,f⟩;dsimp only;have hz:lo+x<arr0.size:=by omega
  have dz:D z:=f.rn.dom dd z (by simp);have dx:D arr0[lo+x]:=dd _ (by simp);refine wpS_bind (bI hL (sm.1.trans hk) (f.rn.next hz) (f.last (by omega)) dx dz ?_)
  cases e:lb arr0[lo+x] z
  case true =>
   simp only [if_true];have lw:=f.low W (W.of_lt e);by_cases k0:neq>0
   ·rw [if_pos k0,reverseSlice'_eq]
    obtain ⟨r1,r2⟩:=f.turned;refine wpS_bind (wpS_modify (wpS_pure ⟨sm,0,_,[],_,rfl,⟨r1.more hz,cI r2 λ y hy=>lw y ?_,pairwise_singleton _ _,rfl⟩⟩));rcases mem_append.mp hy with w | w
    ·exact mem_append_left _ w
    ·exact mem_append_right _ (List.mem_reverse.mp w)
   ·rw [if_neg k0]
    exact wpS_pure ⟨sm,0,_,[],_,rfl,⟨f.rn.more hz,cI f.fal lw,pairwise_singleton _ _,rfl⟩⟩
  case false =>
   simp only [Bool.false_eq_true,if_false];refine wpS_bind (bI hL (sm.1.trans hk) (f.last (by omega)) (f.rn.next hz) dz dx ?_)
   cases e2:lb z arr0[lo+x]
   case true =>
    simp only [if_true];exact wpS_pure (q _ _ _ _ _ _ sm hx1 (by omega) f)
   case false =>
    simp only [Bool.false_eq_true,if_false];refine wpS_pure ⟨sm,neq+1,u,t++[z],arr0[lo+x],rfl,⟨by have:=f.rn.more hz;simpa using this,by have:=cI f.fal (f.low W e2);simpa using this,?_,by rw [length_append,f.len];rfl⟩⟩;refine kBQ W f.srt (by rw [length_append,length_singleton];omega) ?_;have:(t++[z])[(t++[z]).length-1]'(by rw [length_append,length_singleton];omega)=z:=by simp
    rw [this];exact e
end
end Srt
namespace Srt
set_option autoImplicit false
open PySem PyProof.Rows
def mX (lo n nrem:Nat):StateT SortSt Sem (Option Nat):=do
 reverseSlice' lo (lo+n)
 let c <-kAW lo n nrem
 match c.1 with
 | some r=>pure r
 | none=>pure (some c.2)
def dZ (lo n nrem:Nat):StateT SortSt Sem (Option Nat):=do
 liftM (rule "list.sort.descending-run")
 let c <-sQ lo (n+1) nrem
 match c.1 with
 | some r=>pure r
 | none =>
  if c.2.2>0 then do
   reverseSlice' (lo+c.2.1-(c.2.2+1)) (lo+c.2.1)
   mX lo c.2.1 nrem
  else mX lo c.2.1 nrem
theorem mD (lo nrem:Nat):countRun' lo nrem=(do
  let c <-kAW lo 1 nrem
  match c.1 with
  | some r=>pure r
  | none =>
   if (c.2 == nrem)=true then pure (some c.2)
   else if c.2>1 then do
    let r <-ltAt' lo (lo+c.2-1)
    match r with
    | some rose =>
     if rose=true then pure (some c.2)
     else do
      reverseSlice' lo (lo+c.2)
      dZ lo c.2 nrem
    | _=>pure none
   else dZ lo c.2 nrem):=by
 rw [countRun'_eq];dsimp only;unfold kAW;refine congr (congrArg _ (congrArg _ (funext λ x=>funext λ c=>congrArg _ (funext λ r=>by cases r<;>rfl)))) (funext λ c=>?_);have part:∀ n:Nat,dZ lo n nrem=dZ lo n nrem:=λ _=>rfl
 cases c.1 with
 | some r=>rfl
 | none =>
  dsimp only;refine ite_congr rfl (λ _=>rfl) (λ _=>ite_congr rfl (λ _=>congrArg _ (funext λ r=>?_)) (λ _=>?_))
  ·cases r with
   | none=>rfl
   | some rose =>
    dsimp only;refine ite_congr rfl (λ _=>rfl) (λ _=>congrArg _ (funext λ _=>?_));unfold dZ sQ;refine congrArg _ (funext λ _=>congr (congrArg _ (congrArg _ (funext λ x=>funext λ d=>congrArg _ (funext λ r=>?_)))) (funext λ d=>?_))
    ·cases r with
     | none=>rfl
     | some b=>exact ite_congr rfl (λ _=>rfl) (λ _=>congrArg _ (funext λ r=>by cases r<;>rfl))
    ·cases d.1 with
     | some r=>rfl
     | none =>
      unfold mX kAW;refine ite_congr rfl (λ _=>congrArg _ (funext λ _=>?_)) (λ _=>?_)
      all_goals exact congrArg _ (funext λ _=>congr (congrArg _ (congrArg _ (funext λ x=>funext λ c=>congrArg _ (funext λ r=>by cases r<;>rfl)))) (funext λ c=>by cases c.1<;>rfl))
  ·unfold dZ sQ
   refine congrArg _ (funext λ _=>congr (congrArg _ (congrArg _ (funext λ x=>funext λ d=>congrArg _ (funext λ r=>?_)))) (funext λ d=>?_))
   ·cases r with
    | none=>rfl
    | some b=>exact ite_congr rfl (λ _=>rfl) (λ _=>congrArg _ (funext λ r=>by cases r<;>rfl))
   ·cases d.1 with
    | some r=>rfl
    | none =>
     unfold mX kAW;refine ite_congr rfl (λ _=>congrArg _ (funext λ _=>?_)) (λ _=>?_)
     all_goals exact congrArg _ (funext λ _=>congr (congrArg _ (congrArg _ (funext λ x=>funext λ c=>congrArg _ (funext λ r=>by cases r<;>rfl)))) (funext λ c=>by cases c.1<;>rfl))
section
variable {M:Model} {A:Around} {E:Value->Shared->Prop} {s:Shared} {lb:Keyed->Keyed->Bool} {D:Keyed->Prop} {kd:SortKind}
variable {arr0 arr:Array Keyed} {lo n:Nat} {m:List Keyed}
theorem mP (W:Wk lb) (hL:aE M A E s lb D kd) {st:SortSt} (hk:kindOf st=kd) (dd:∀ x∈arr0.toList,D x) {nrem:Nat} (hn:lo+nrem<=arr0.size) (n1:1<=n) (nn:n<=nrem) (h:Rn arr0 (arrOf st) lo n m) (fa:Fal lb m) {Q:Option Nat->SortSt->Prop}
  (q:∀ k st',Sa st st'->1<=k->k<=nrem->Joined lb arr0 (arrOf st') lo k->Q (some k) st'):wpS M A E s (mX lo n nrem) Q st:=by
 unfold mX;rw [reverseSlice'_eq];refine wpS_bind (wpS_modify ?_);have t:=Rn.turn (u:=[]) (v:=m) (t:=[]) (by simpa using h) (i:=lo) (j:=lo+n) (by simp) (by rw [h.len];simp);simp only [nil_append,append_nil] at t;refine wpS_bind (rC (st:=setArr st (mirror (arrOf st) lo (lo+n) ((lo+n-lo) / 2))) W hL hk dd hn n1 nn t fa.rev λ k m' k1 k2 r' sr' _=>?_);exact wpS_pure (q k _ ⟨rfl,rfl,rfl⟩ (by omega) k2 (r'.joined sr'))
theorem mQ (W:Wk lb) (hL:aE M A E s lb D kd) {st:SortSt} (hk:kindOf st=kd) (dd:∀ x∈arr0.toList,D x) {nrem:Nat} (hn:lo+nrem<=arr0.size) (n1:1<=n) (nn:n<nrem) (h:Rn arr0 (arrOf st) lo n m) (fa:Fal lb m) (hz:lo+n<arr0.size) (lw:∀ y∈m,le lb arr0[lo+n] y) {Q:Option Nat->SortSt->Prop}
  (q:∀ k st',Sa st st'->1<=k->k<=nrem->Joined lb arr0 (arrOf st') lo k->Q (some k) st'):wpS M A E s (dZ lo n nrem) Q st:=by
 unfold dZ;refine wpS_bind (vK ?_);refine wpS_bind (kCJ W hL hk dd hn (by omega) (by omega) (u:=m) (z:=arr0[lo+n]) ⟨h.more hz,cI fa lw,pairwise_singleton _ _,rfl⟩ λ k neq st' u t z sm k1 k2 f=>?_);dsimp only;have tr:∀ k st2,Sa st' st2->1<=k->k<=nrem->Joined lb arr0 (arrOf st2) lo k->Q (some k) st2:=λ k st2 s2=>q k st2 ⟨s2.1.trans sm.1,s2.2.1.trans sm.2.1,s2.2.2.trans sm.2.2⟩;by_cases k0:neq>0
 ·rw [if_pos k0,reverseSlice'_eq]
  obtain ⟨r1,r2⟩:=f.turned;refine wpS_bind (wpS_modify ?_);exact mP (st:=setArr st' (mirror (arrOf st') (lo+k-(neq+1)) (lo+k) ((lo+k-(lo+k-(neq+1))) / 2))) W hL (sm.1.trans hk) dd hn (by omega) k2 r1 r2 tr
 ·rw [if_neg k0]
  exact mP W hL (sm.1.trans hk) dd hn (by omega) k2 f.rn f.fal tr
theorem oD (W:Wk lb) (hL:aE M A E s lb D kd) {st:SortSt} (hk:kindOf st=kd) (dd:∀ x∈(arrOf st).toList,D x) {nrem:Nat} (hn:lo+nrem<=(arrOf st).size) (n1:1<=nrem) {Q:Option Nat->SortSt->Prop}
  (q:∀ k st',Sa st st'->1<=k->k<=nrem->Joined lb (arrOf st) (arrOf st') lo k->Q (some k) st'):wpS M A E s (countRun' lo nrem) Q st:=by
 rw [mD];have r0:=Rn.start (arr0:=arrOf st) (lo:=lo) (n:=1) (by omega)
 have s0:jC lb ((arrOf st).extract lo (lo+1)).toList:=by
  have:=r0.len;generalize ((arrOf st).extract lo (lo+1)).toList=l at *;exact oR (Nat.le_of_eq this)
 refine wpS_bind (rC W hL hk dd hn (by omega) n1 r0 s0 λ k m k1 k2 r sr c=>?_);dsimp only;have lm:=r.len;by_cases e:k=nrem
 ·rw [if_pos (by simpa using e)]
  exact wpS_pure (q k st ⟨rfl,rfl,rfl⟩ k1 k2 (r.joined sr))
 ·rw [if_neg (by simpa using e)]
  obtain ⟨hz,hl,lt⟩ : ∃ (h1:lo+k<(arrOf st).size) (h2:m.length-1<m.length),lb (arrOf st)[lo+k] m[m.length-1]=true:=by
   rcases c with c | c
   ·exact absurd c e
   ·exact c
  by_cases g:k>1
  ·rw [if_pos g]
   have a0:=r.at (j:=0) (by omega);have al:=r.at hl;rw [Nat.add_zero] at a0;rw [show lo+(m.length-1)=lo+k-1 by omega] at al;refine wpS_bind (bI hL hk a0 al (r.dom dd _ (getElem_mem _)) (r.dom dd _ (getElem_mem _)) ?_)
   cases e2:lb (m[0]'(by omega)) m[m.length-1]
   case true =>
    simp only [if_true];exact wpS_pure (q k st ⟨rfl,rfl,rfl⟩ k1 k2 (r.joined sr))
   case false =>
    simp only [Bool.false_eq_true,if_false];rw [reverseSlice'_eq];refine wpS_bind (wpS_modify ?_);have t:=Rn.turn (u:=[]) (v:=m) (t:=[]) (by simpa using r) (i:=lo) (j:=lo+k) (by simp) (by rw [lm];simp);simp only [nil_append,append_nil] at t;refine mQ (st:=setArr st (mirror (arrOf st) lo (lo+k) ((lo+k-lo) / 2))) W hL hk dd hn k1 (by omega) t (show List.Pairwise _ _ from List.pairwise_reverse.mpr sr) hz (λ y hy=>?_) λ k' st' sm=>q k' st' sm;obtain ⟨i,hi,rfl⟩:=mem_iff_getElem.mp (List.mem_reverse.mp hy)
    have f0:le lb (m[0]'(by omega)) m[i]:=by
     by_cases z:0=i
     ·subst z;exact W.refl _
     ·exact pairwise_iff_getElem.mp sr 0 i (by omega) hi (by omega)
    exact W.trans (W.of_lt lt) (W.trans e2 f0)
  ·rw [if_neg g]
   have k1':k=1:=by omega
   subst k1'
   exact mQ W hL hk dd hn (by omega) (by omega) r (oR (by omega)) hz (λ y hy=>by
    obtain ⟨i,hi,rfl⟩:=mem_iff_getElem.mp hy;have e3:i=m.length-1:=by omega
    simp only [e3];exact W.of_lt lt) λ k' st' sm=>q k' st' sm
end
end Srt
namespace Srt
set_option autoImplicit false
open PySem PyProof.Rows
abbrev Pn:=Nat×Nat×Nat
def Tiles:List Pn->Nat->Nat->Prop
 | [],a,b=>a=b
 | x::r,a,b=>x.1=a/\0<x.2.1/\Tiles r (a+x.2.1) b
theorem Tiles.le:∀ {l:List Pn} {a b:Nat},Tiles l a b->a<=b
 | [],a,b,h=>by rw [show a=b from h];exact Nat.le_refl _
 | x::r,a,b,h=>by have:=Tiles.le h.2.2;omega
theorem Tiles.app:∀ {l r:List Pn} {a b:Nat},Tiles (l++r) a b↔∃ c,Tiles l a c/\Tiles r c b
 | [],r,a,b=>⟨λ h=>⟨a,rfl,h⟩,λ ⟨c,h1,h2⟩=>by rw [show a=c from h1];exact h2⟩
 | x::l,r,a,b=>by
  constructor
  ·rintro ⟨h1,h2,h3⟩
   obtain ⟨c,h4,h5⟩:=Tiles.app.mp h3;exact ⟨c,⟨h1,h2,h4⟩,h5⟩
  ·rintro ⟨c,⟨h1,h2,h3⟩,h4⟩
   exact ⟨h1,h2,Tiles.app.mpr ⟨c,h3,h4⟩⟩
theorem Tiles.join {l r:List Pn} {a b s n s' n' p p':Nat} (h:Tiles (l++(s,n,p)::(s',n',p')::r) a b):s'=s+n/\0<n/\0<n'/\s+n+n'<=b/\Tiles l a s/\Tiles r (s+n+n') b/\Tiles (l++(s,n+n',p)::r) a b:=by
 obtain ⟨c,h1,h2,h3,h4,h5,h6⟩:=Tiles.app.mp h;have h2:s=c:=h2;have h4:s'=c+n:=h4;have h3:0<n:=h3;have h5:0<n':=h5;have h6:Tiles r (c+n+n') b:=h6;subst h2;refine ⟨h4,h3,h5,h6.le,h1,h6,Tiles.app.mpr ⟨s,h1,rfl,by show 0<n+n';omega,?_⟩⟩;show Tiles r (s+(n+n')) b;rw [<-Nat.add_assoc];exact h6
theorem tW {P:Array Pn} {l r:List Pn} {x y z:Pn} (h:P.toList=l++x::y::r):((P.setIfInBounds l.length z).eraseIdxIfInBounds (l.length+1)).toList=l++z::r:=by
 have sz:P.size=l.length+(r.length+2):=by
  have:=congrArg List.length h;simpa using this
 unfold Array.eraseIdxIfInBounds;rw [dif_pos (by rw [Array.size_setIfInBounds];omega),Array.toList_eraseIdx,Array.toList_setIfInBounds,h];rw [List.set_append_right _ _ (Nat.le_refl _),Nat.sub_self,List.eraseIdx_append_of_length_le (by omega),show l.length+1-l.length=1 by omega]
 rfl
section
variable {lb:Keyed->Keyed->Bool} {arr arr':Array Keyed} {lo n:Nat}
theorem Joined.low (h:Joined lb arr arr' lo n) (hn:lo+n<=arr.size) {a k:Nat} (c:a+k<=lo):(arr'.extract a (a+k)).toList=(arr.extract a (a+k)).toList:=by
 obtain ⟨m,e,_,pm⟩:=h;have lp:(arr.toList.take lo).length=lo:=by simp;omega
 rw [xZ,xZ,e,List.drop_append_of_le_length (by omega),List.take_append_of_le_length (by rw [length_drop];omega),List.drop_take,List.take_take,Nat.min_eq_left (by omega)]
theorem Joined.high (h:Joined lb arr arr' lo n) (hn:lo+n<=arr.size) {a k:Nat} (c:lo+n<=a):(arr'.extract a (a+k)).toList=(arr.extract a (a+k)).toList:=by
 obtain ⟨m,e,_,pm⟩:=h
 have l:m.length=n:=by
  rw [pm.length_eq,xZ,length_take,length_drop,Array.length_toList];omega
 have lp:(arr.toList.take lo).length=lo:=by simp;omega
 rw [xZ,xZ,e,List.drop_append,lp,drop_eq_nil_of_le (by omega),nil_append,List.drop_append,drop_eq_nil_of_le (by omega),nil_append,List.drop_drop]
 congr 2
 omega
theorem Joined.here (h:Joined lb arr arr' lo n) (hn:lo+n<=arr.size):jC lb (arr'.extract lo (lo+n)).toList:=by
 obtain ⟨m,e,sr,pm⟩:=h
 have l:m.length=n:=by
  rw [pm.length_eq,xZ,length_take,length_drop,Array.length_toList];omega
 have lp:(arr.toList.take lo).length=lo:=by simp;omega
 rw [xZ,e,List.drop_append,lp,drop_eq_nil_of_le (by omega),nil_append,Nat.sub_self,List.drop_zero,List.take_append_of_le_length (by omega),take_of_length_le (by omega)];exact sr
theorem Joined.perm (h:Joined lb arr arr' lo n) (hn:lo+n<=arr.size):arr'.toList.Perm arr.toList:=by
 obtain ⟨m,e,sr,pm⟩:=h;rw [e];exact (List.Perm.append_left _ (pm.append_right _)).trans (List.Perm.of_eq (uF hn).symm)
end
end Srt
namespace Srt
set_option autoImplicit false
open PySem PyProof.Rows
section
variable {M:Model} {A:Around} {E:Value->Shared->Prop} {s:Shared} {lb:Keyed->Keyed->Bool} {D:Keyed->Prop} {kd:SortKind}
structure SI (lb:Keyed->Keyed->Bool) (kd:SortKind) (a0:Array Keyed) (st:SortSt) (lo:Nat):Prop where
 kind:kindOf st=kd
 failed:failedOf st=none
 perm:(arrOf st).toList.Perm a0.toList
 tiles:Tiles (pendingOf st).toList 0 lo
 top:lo<=a0.size
 runs:∀ x∈(pendingOf st).toList,jC lb ((arrOf st).extract x.1 (x.1+x.2.1)).toList
theorem SI.size {a0:Array Keyed} {st:SortSt} {lo:Nat} (h:SI lb kd a0 st lo):(arrOf st).size=a0.size:=by simpa using h.perm.length_eq
theorem Tiles.in:∀ {l:List Pn} {a b:Nat},Tiles l a b->∀ x∈l,a<=x.1/\x.1+x.2.1<=b
 | y::l,a,b,h,x,hx=>by
  rcases mem_cons.mp hx with rfl | z
  ·have:=h.2.2.le
   have:=h.1;omega
  ·have:=Tiles.in h.2.2 x z
   omega
theorem aU (W:Wk lb) (hL:aE M A E s lb D kd) {a0:Array Keyed} (dd:∀ x∈a0.toList,D x) {st:SortSt} {lo:Nat} (h:SI lb kd a0 st lo) {i:Nat} (hi:i+1<(pendingOf st).size) {Q:Bool->SortSt->Prop}
  (q:∀ st',SI lb kd a0 st' lo->(pendingOf st').size+1=(pendingOf st).size->(∀ a k,lo<=a->((arrOf st').extract a (a+k)).toList=((arrOf st).extract a (a+k)).toList)->Q true st'):wpS M A E s (mergeAt' i) Q st:=by
 have sp:(pendingOf st).toList=(pendingOf st).toList.take i++(pendingOf st)[i]::(pendingOf st)[i+1]::(pendingOf st).toList.drop (i+2):=by
  conv=>lhs;rw [<-take_append_drop i (pendingOf st).toList]
  rw [yG (show i<(pendingOf st).size by omega),yG hi]
  rfl
 have li:((pendingOf st).toList.take i).length=i:=by simp;omega
 have e1:=getElem?_pos (pendingOf st) i (by omega);have e2:=getElem?_pos (pendingOf st) (i+1) hi;have r1:=h.runs _ (by simp:(pendingOf st)[i]∈(pendingOf st).toList);have r2:=h.runs _ (by simp:(pendingOf st)[i+1]∈(pendingOf st).toList);have ti:=h.tiles;have ru:=h.runs;rw [sp] at ti ru;generalize hx:(pendingOf st)[i]=x at *;generalize hy:(pendingOf st)[i+1]=y at *;obtain ⟨sa,na,pa⟩:=x;obtain ⟨sb,nb,pb⟩:=y;obtain ⟨eb,na0,nb0,le,tl,tr,tj⟩:=ti.join;subst eb;have top:=h.top;have sz:=h.size;refine rB W hL h.kind h.failed (λ x hx=>dd x (h.perm.mem_iff.mp hx)) e1 e2 na0 nb0 (by omega) r1 r2 λ st' k' f' p' j'=>?_;have hn:sa+(na+nb)<=(arrOf st).size:=by omega
 have pl:(pendingOf st').toList=(pendingOf st).toList.take i++(sa,na+nb,pa)::(pendingOf st).toList.drop (i+2):=by
  have:=tW (z:=(sa,na+nb,pa)) sp;rw [li] at this;rw [p',this]
 refine q st' ⟨k',f',(j'.perm hn).trans h.perm,by rw [pl];exact tj,top,λ z hz=>?_⟩ ?_ (λ a k hak=>j'.high hn (by omega))
 ·rw [pl] at hz
  rcases mem_append.mp hz with w | w
  ·have:=tl.in z w
   rw [j'.low hn (by omega)];exact ru z (mem_append_left _ w)
  ·rcases mem_cons.mp w with rfl | w
   ·exact j'.here hn
   ·have:=tr.in z w
    rw [j'.high hn (by omega)];exact ru z (mem_append_right _ (mem_cons_of_mem _ (mem_cons_of_mem _ w)))
 ·have l1:=congrArg List.length pl
  have l2:=congrArg List.length sp;simp only [Array.length_toList,length_append,length_cons] at l1 l2;omega
end
end Srt
namespace Srt
set_option autoImplicit false
open PySem PyProof.Rows
theorem Tiles.snoc {l:List Pn} {a b:Nat} {x:Pn} (h:Tiles l a b) (e:x.1=b) (n:0<x.2.1):Tiles (l++[x]) a (b+x.2.1) :=
 Tiles.app.mpr ⟨b,h,e,n,rfl⟩
theorem Tiles.repl:∀ {l:List Pn} {a b:Nat} (k:Nat) (f:Pn->Pn),(∀ x,(f x).1=x.1/\(f x).2.1=x.2.1)->Tiles l a b->Tiles (l.modify k f) a b
 | [],a,b,k,f,hf,h=>by simpa using h
 | x::r,a,b,0,f,hf,h=>by
  obtain ⟨h1,h2,h3⟩:=h;have:=hf x;rw [List.modify_zero_cons];exact ⟨this.1.trans h1,by rw [this.2];exact h2,by rw [this.2];exact h3⟩
 | x::r,a,b,k+1,f,hf,h=>by
  obtain ⟨h1,h2,h3⟩:=h;rw [List.modify_succ_cons];exact ⟨h1,h2,Tiles.repl k f hf h3⟩
theorem kIN {l:List Pn} {k:Nat} {f:Pn->Pn} {x:Pn} (h:x∈l.modify k f):∃ y∈l,x=y\/x=f y:=by
 obtain ⟨i,hi,rfl⟩:=mem_iff_getElem.mp h;rw [List.getElem_modify];have hi':i<l.length:=by simpa using hi
 split
 ·exact ⟨l[i],getElem_mem _,.inr rfl⟩
 ·exact ⟨l[i],getElem_mem _,.inl rfl⟩
theorem Tiles.one:∀ {l:List Pn} {a b:Nat},Tiles l a b->a<b->l.length<=1->∃ p,l=[(a,b-a,p)]
 | [],a,b,h,c,_=>by have:a=b:=h;omega
 | [(s,n,p)],a,b,h,c,_=>by
  obtain ⟨h1,h2,h3⟩:=h;have h1:s=a:=h1;have h3:a+n=b:=h3;refine ⟨p,?_⟩;rw [h1,show n=b-a by omega]
 | _::_::_,a,b,h,c,z=>by simp at z
section
variable {M:Model} {A:Around} {E:Value->Shared->Prop} {s:Shared} {lb:Keyed->Keyed->Bool} {D:Keyed->Prop} {kd:SortKind}
theorem SI.len {a0:Array Keyed} {st:SortSt} {lo:Nat} (h:SI lb kd a0 st lo):(pendingOf st).size<=lo:=by
 have:∀ (l:List Pn) (a b:Nat),Tiles l a b->a+l.length<=b:=by
  intro l
  induction l with
  | nil=>intro a b h;rw [show a=b from h];simp
  | cons x r ih =>
   intro a b h;have:=ih _ _ h.2.2;have:=h.2.1;rw [length_cons];omega
 have:=this _ _ _ h.tiles;simpa using this
theorem SI.push {a0:Array Keyed} {st:SortSt} {lo n:Nat} (h:SI lb kd a0 st lo) (n0:0<n) (hn:lo+n<=a0.size) (sr:jC lb ((arrOf st).extract lo (lo+n)).toList) :
  SI lb kd a0 (setPending st ((pendingOf st).push (lo,n,0))) (lo+n):=by
 refine ⟨h.kind,h.failed,h.perm,?_,hn,?_⟩
 ·show Tiles ((pendingOf st).push (lo,n,0)).toList 0 (lo+n)
  rw [Array.toList_push];exact h.tiles.snoc rfl n0
 ·intro x hx
  have hx:x∈((pendingOf st).push (lo,n,0)).toList:=hx;rw [Array.toList_push] at hx;rcases mem_append.mp hx with z | z
  ·exact h.runs x z
  ·have:x=(lo,n,0):=by simpa using z
   rw [this];exact sr
theorem SI.mod {a0:Array Keyed} {st:SortSt} {lo:Nat} (h:SI lb kd a0 st lo) (k pw:Nat):SI lb kd a0 (setPending st ((pendingOf st).modify k λ (x:Pn)=>(x.1,x.2.1,pw))) lo:=by
 refine ⟨h.kind,h.failed,h.perm,?_,h.top,?_⟩
 ·show Tiles ((pendingOf st).modify k _).toList 0 lo
  rw [Array.toList_modify];exact Tiles.repl k _ (λ x=>⟨rfl,rfl⟩) h.tiles
 ·intro x hx
  have hx:x∈((pendingOf st).modify k λ (x:Pn)=>(x.1,x.2.1,pw)).toList:=hx;rw [Array.toList_modify] at hx;obtain ⟨y,hy,e⟩:=kIN hx;have r:=h.runs y hy;rcases e with rfl | rfl
  ·exact r
  ·exact r
theorem SI.tail {a0:Array Keyed} {st st':SortSt} {lo n:Nat} (h:SI lb kd a0 st lo) (sa:Sa st st') (hn:lo+n<=a0.size) (j:Joined lb (arrOf st) (arrOf st') lo n):SI lb kd a0 st' lo:=by
 have sz:=h.size;refine ⟨sa.1.trans h.kind,sa.2.2.trans h.failed,(j.perm (by omega)).trans h.perm,by rw [sa.2.1];exact h.tiles,h.top,λ x hx=>?_⟩;rw [sa.2.1] at hx;have:=h.tiles.in x hx;rw [j.low (by omega) (by omega)];exact h.runs x hx
end
end Srt
namespace Srt
set_option autoImplicit false
open PySem PyProof.Rows
section
variable {M:Model} {A:Around} {E:Value->Shared->Prop} {s:Shared} {lb:Keyed->Keyed->Bool} {D:Keyed->Prop} {kd:SortKind}
theorem pY (W:Wk lb) (hL:aE M A E s lb D kd) {st:SortSt} (hk:kindOf st=kd) (hf:failedOf st=none) (hp:pendingOf st = #[]) (dd:∀ x∈(arrOf st).toList,D x) {Q:Unit->SortSt->Prop}
  (h:∀ st',(arrOf st').toList.Perm (arrOf st).toList->failedOf st'=none->jC lb (arrOf st').toList->Q () st'):wpS M A E s sortRuns' Q st:=by
 rw [sortRuns'_eq];refine wpS_bind (wpS_get ?_);dsimp only;generalize hsz:(arrOf st).size=size;generalize hmr:minRun' size size 0=mr
 refine wpS_bind (wpS_mono (wpS_forRange
  (I:=λ x c st'=>∃ lo,c=(none,lo)/\SI lb kd (arrOf st) st' lo/\(x<=lo\/lo=size))
  (Q:=λ c st'=>c=(none,size)/\SI lb kd (arrOf st) st' size) ?step ?fin ⟨0,rfl,⟨hk,hf,List.Perm.refl _,by rw [hp];rfl,Nat.zero_le _,by rw [hp];simp⟩,.inl (Nat.le_refl _)⟩) ?post)
 case fin =>
  rintro c st' ⟨lo,rfl,hI,hx⟩
  have:lo=size:=by
   rcases hx with hx | hx
   ·have:=hI.top;omega
   ·exact hx
  subst this;exact ⟨rfl,hI⟩
 case step =>
  rintro x c st' _ hx ⟨lo,rfl,hI,hx'⟩;dsimp only;have top:=hI.top;have sz':=hI.size;by_cases hge:lo >= size
  ·rw [if_pos hge]
   have:lo=size:=by omega
   subst this;exact wpS_pure ⟨rfl,hI⟩
  rw [if_neg hge];have dd':∀ {st2:SortSt},SI lb kd (arrOf st) st2 lo->∀ x∈(arrOf st2).toList,D x:=λ h x hx=>dd x (h.perm.mem_iff.mp hx);refine wpS_bind (oD W hL hI.kind (dd' hI) (by omega) (by omega) λ m st2 sa2 m1 m2 j2=>?_);dsimp only;have hI2:=hI.tail sa2 (by omega) j2;have sr2:=j2.here (by omega);have sz2:=hI2.size;have bin:∀ n,n=min (size-lo) mr->m<mr->m<=n/\0<n/\lo+n<=size:=λ n e h=>by omega
  by_cases hlt:m<mr
  ·rw [if_pos hlt]
   refine wpS_bind (vK ?_);generalize hn:min (size-lo) mr=n;obtain ⟨mn,n0,hnl⟩:=bin n hn.symm hlt;refine wpS_bind (sV W hL hI2.kind (dd' hI2) mn (by omega) sr2 λ st3 sa3 j3=>?_);simp only [Bool.not_true,Bool.false_eq_true,if_false];have hI3:=hI2.tail sa3 (by omega) j3;have sr3:=j3.here (by omega);clear sr2 hI2 j2 sa2 j3 sa3 sz2 m1 m2 mn hlt hn bin;clear m st2;refine wpS_bind (wpS_get ?_)
   cases hb:(pendingOf st3).back? with
   | none =>
    dsimp only;exact wpS_bind (wpS_modify (wpS_pure ⟨lo+n,rfl,hI3.push n0 (by omega) sr3,by omega⟩))
   | some z =>
    obtain ⟨s1,n1,z1⟩:=z;dsimp only;generalize power' size (2*s1+n1) (2*s1+n1+n1+n) size=pw
    refine wpS_bind (wpS_mono (wpS_forRange (I:=λ _ c st'=>c=(none,())/\SI lb kd (arrOf st) st' lo/\jC lb ((arrOf st').extract lo (lo+n)).toList)
     (Q:=λ c st'=>c=(none,())/\SI lb kd (arrOf st) st' lo/\jC lb ((arrOf st').extract lo (lo+n)).toList) ?_ (λ _ _ hh=>hh) ⟨rfl,hI3,sr3⟩) ?_)
    ·rintro y c st4 _ hy ⟨rfl,hI4,sr4⟩
     refine wpS_bind (wpS_get ?_);by_cases h1:(pendingOf st4).size>1
     ·rw [if_pos h1,getElem?_pos (pendingOf st4) ((pendingOf st4).size-2) (by omega)]
      generalize (pendingOf st4)[(pendingOf st4).size-2]'(by omega)=zz;obtain ⟨y1,y2,y3⟩:=zz;dsimp only;by_cases h2:y3<=pw
      ·rw [if_pos h2]
       exact wpS_pure ⟨rfl,hI4,sr4⟩
      ·rw [if_neg h2]
       refine wpS_bind (aU W hL dd hI4 (by omega) λ st5 hI5 h5 e5=>?_);simp only [Bool.not_true,Bool.false_eq_true,if_false];exact wpS_pure ⟨rfl,hI5,by rw [e5 _ _ (Nat.le_refl _)];exact sr4⟩
     ·rw [if_neg h1]
      exact wpS_pure ⟨rfl,hI4,sr4⟩
    ·rintro c st4 ⟨rfl,hI4,sr4⟩
     dsimp only;refine wpS_bind (wpS_modify ?_);have hI5:=hI4.mod ((pendingOf st4).size-1) pw;exact wpS_bind (wpS_modify (wpS_pure ⟨lo+n,rfl,hI5.push n0 (by omega) sr4,by omega⟩))
  ·rw [if_neg hlt]
   have hnl:lo+m<=size:=by omega
   have n0:0<m:=by omega
   clear bin hlt m2 m1 j2 sz2 sa2;refine wpS_bind (wpS_get ?_)
   cases hb:(pendingOf st2).back? with
   | none =>
    dsimp only;exact wpS_bind (wpS_modify (wpS_pure ⟨lo+m,rfl,hI2.push n0 (by omega) sr2,by omega⟩))
   | some z =>
    obtain ⟨s1,n1,z1⟩:=z;dsimp only;generalize power' size (2*s1+n1) (2*s1+n1+n1+m) size=pw
    refine wpS_bind (wpS_mono (wpS_forRange (I:=λ _ c st'=>c=(none,())/\SI lb kd (arrOf st) st' lo/\jC lb ((arrOf st').extract lo (lo+m)).toList)
     (Q:=λ c st'=>c=(none,())/\SI lb kd (arrOf st) st' lo/\jC lb ((arrOf st').extract lo (lo+m)).toList) ?_ (λ _ _ hh=>hh) ⟨rfl,hI2,sr2⟩) ?_)
    ·rintro y c st4 _ hy ⟨rfl,hI4,sr4⟩
     refine wpS_bind (wpS_get ?_);by_cases h1:(pendingOf st4).size>1
     ·rw [if_pos h1,getElem?_pos (pendingOf st4) ((pendingOf st4).size-2) (by omega)]
      generalize (pendingOf st4)[(pendingOf st4).size-2]'(by omega)=zz;obtain ⟨y1,y2,y3⟩:=zz;dsimp only;by_cases h2:y3<=pw
      ·rw [if_pos h2]
       exact wpS_pure ⟨rfl,hI4,sr4⟩
      ·rw [if_neg h2]
       refine wpS_bind (aU W hL dd hI4 (by omega) λ st5 hI5 h5 e5=>?_);simp only [Bool.not_true,Bool.false_eq_true,if_false];exact wpS_pure ⟨rfl,hI5,by rw [e5 _ _ (Nat.le_refl _)];exact sr4⟩
     ·rw [if_neg h1]
      exact wpS_pure ⟨rfl,hI4,sr4⟩
    ·rintro c st4 ⟨rfl,hI4,sr4⟩
     dsimp only;refine wpS_bind (wpS_modify ?_);have hI5:=hI4.mod ((pendingOf st4).size-1) pw;exact wpS_bind (wpS_modify (wpS_pure ⟨lo+m,rfl,hI5.push n0 (by omega) sr4,by omega⟩))
 case post =>
  rintro c st' ⟨rfl,hI⟩;dsimp only
  have fin:∀ st',SI lb kd (arrOf st) st' size->(pendingOf st').size<=1->Q () st':=λ st' hI hl=>by
   refine h st' hI.perm hI.failed ?_;by_cases z:0<size
   ·obtain ⟨p,e⟩:=hI.tiles.one z (by simpa using hl)
    have r:=hI.runs (0,size-0,p) (by rw [e];simp);have r:jC lb ((arrOf st').extract 0 (0+(size-0))).toList:=r;have e1:=hI.size;rw [show 0+(size-0)=(arrOf st').size by omega,Array.extract_size] at r;exact r
   ·have:(arrOf st').toList=[]:=length_eq_zero_iff.mp (by rw [Array.length_toList];have:=hI.size;omega)
    rw [this];exact List.Pairwise.nil
  refine wpS_bind (wpS_mono (wpS_forRange (I:=λ x c st'=>c=(none,())/\SI lb kd (arrOf st) st' size/\(pendingOf st').size+x<=max (size+1) (1+x))
   (Q:=λ c st'=>c=(none,())/\SI lb kd (arrOf st) st' size/\(pendingOf st').size<=1) ?_ ?_ ⟨rfl,hI,by have:=hI.len;omega⟩) ?_)
  ·rintro x c st' _ hx ⟨rfl,hI,hb⟩
   refine wpS_bind (wpS_get ?_);by_cases h1:(pendingOf st').size<=1
   ·rw [if_pos h1]
    exact wpS_pure ⟨rfl,hI,h1⟩
   rw [if_neg h1];have hg:∀ b:Bool,(if b=true then (pendingOf st').size-2-1 else (pendingOf st').size-2)+1<(pendingOf st').size:=λ b=>by split<;>omega
   replace hg:=hg (Option.any (λ x=>decide (x<((pendingOf st')[(pendingOf st').size-2+1]?.elim 0 λ x=>x.snd.fst))) (if (pendingOf st').size-2>0 then Option.map (λ x=>x.snd.fst) (pendingOf st')[(pendingOf st').size-2-1]? else none))
   generalize (if (if (pendingOf st').size-2>0 then Option.map (λ x=>x.snd.fst) (pendingOf st')[(pendingOf st').size-2-1]? else none).any _=true then (pendingOf st').size-2-1 else (pendingOf st').size-2)=i at hg ⊢;refine wpS_bind (aU W hL dd hI hg λ st2 hI2 h2 _=>?_);simp only [Bool.not_true,Bool.false_eq_true,if_false];exact wpS_pure ⟨rfl,hI2,by omega⟩
  ·rintro c st' ⟨rfl,hI,hb⟩
   exact ⟨rfl,hI,by omega⟩
  ·rintro c st' ⟨rfl,hI,hb⟩
   exact wpS_pure (fin _ hI hb)
end
end Srt
namespace Srt
set_option autoImplicit false
open PySem PySem.W PyProof.Rows
def lexLt:List Int->List Int->Bool
 | [],[]=>false
 | [],_::_=>true
 | _::_,[]=>false
 | a::x,b::y=>if a=b then lexLt x y else decide (a<b)
theorem lex_irr:∀ x,lexLt x x=false
 | []=>rfl
 | a::x=>by rw [lexLt,if_pos rfl];exact lex_irr x
theorem lex_tr:∀ x y z,lexLt x y=true->lexLt y z=true->lexLt x z=true
 | [],[],_,h,_=>nomatch h
 | [],_::_,[],_,h=>nomatch h
 | [],_::_,_::_,_,_=>rfl
 | _::_,[],_,h,_=>nomatch h
 | _::_,_::_,[],_,h=>nomatch h
 | a::x,b::y,c::z,h,k=>by
  rw [lexLt] at *;by_cases e:a=b
  ·subst e
   rw [if_pos rfl] at h;by_cases e2:a=c
   ·subst e2
    rw [if_pos rfl] at k ⊢;exact lex_tr x y z h k
   ·rw [if_neg e2] at k ⊢
    exact k
  ·rw [if_neg e] at h
   by_cases e2:b=c
   ·subst e2
    rw [if_neg e];exact h
   ·rw [if_neg e2] at k
    have h:=of_decide_eq_true h;have k:=of_decide_eq_true k;rw [if_neg (by omega)];exact decide_eq_true (by omega)
theorem lex_neg:∀ x y z,lexLt x z=true->lexLt x y=true\/lexLt y z=true
 | [],[],z,h=>.inr h
 | [],_::_,z,h=>.inl rfl
 | _::_,_,[],h=>nomatch h
 | _::_,[],_::_,h=>.inr rfl
 | a::x,b::y,c::z,h=>by
  rw [lexLt] at *;by_cases e:a=c
  ·subst e
   rw [if_pos rfl] at h;by_cases e2:a=b
   ·subst e2
    rw [if_pos rfl,lexLt,if_pos rfl];exact lex_neg x y z h
   ·rw [if_neg e2,lexLt,if_neg (λ q=>e2 q.symm)]
    by_cases l:a<b
    ·exact .inl (decide_eq_true l)
    ·exact .inr (decide_eq_true (by omega))
  ·rw [if_neg e] at h
   have h:=of_decide_eq_true h;by_cases e2:a=b
   ·subst e2
    rw [lexLt,if_neg e];exact .inr (decide_eq_true h)
   ·rw [if_neg e2]
    by_cases l:a<b
    ·exact .inl (decide_eq_true l)
    ·rw [lexLt,if_neg (by omega)]
     exact .inr (decide_eq_true (by omega))
theorem lex_tot:∀ x y,lexLt x y=false->lexLt y x=false->x=y
 | [],[],_,_=>rfl
 | [],_::_,h,_=>nomatch h
 | _::_,[],_,h=>nomatch h
 | a::x,b::y,h,k=>by
  rw [lexLt] at *;by_cases e:a=b
  ·subst e
   rw [if_pos rfl] at h k;rw [lex_tot x y h k]
  ·rw [if_neg e] at h
   rw [if_neg (λ q=>e q.symm)] at k;have h:=of_decide_eq_false h;have k:=of_decide_eq_false k;omega
def keyOf (h:Heap):Value->List Int
 | .ref a=>match h.get? a with
  | some o=>match o.data with
   | .seq xs _=>xs.toList.map numOf
   | _=>[]
  | none=>[]
 | _=>[]
def lbT (h:Heap) (x y:Keyed):Bool:=lexLt (keyOf h x.1) (keyOf h y.1)
theorem kLM (h:Heap):Wk (lbT h):=⟨λ a=>lex_irr _,λ a b c=>lex_neg _ _ _,λ a b c=>lex_tr _ _ _⟩
def TupI (h:Heap) (v:Value):Prop:=∃ a o xs n,v=.ref a/\h.get? a=some o/\o.cls=.type "tuple"/\o.data=.seq xs n/\(∀ u∈xs.toList,∃ k t,u=.int k t)/\0<xs.size
theorem TupI.kept {h h':Heap} {v:Value} (x:TupI h v) (k:∀ a o,o.cls=.type "tuple"->h.get? a=some o->h'.get? a=some o):TupI h' v/\keyOf h' v=keyOf h v:=by
 obtain ⟨a,o,xs,n,rfl,ho,hc,hd,hi,hz⟩:=x;refine ⟨⟨a,o,xs,n,rfl,k _ _ hc ho,hc,hd,hi,hz⟩,?_⟩;unfold keyOf;simp only [ho,k _ _ hc ho]
theorem TupI.key {h:Heap} {a:Addr} {o:Obj} {xs:Array Value} {n:Nat} (ho:h.get? a=some o) (hd:o.data=.seq xs n):keyOf h (.ref a)=xs.toList.map numOf:=by
 unfold keyOf;simp only [ho,hd]
section
variable {prog:Program} {w:World} {A:Around} {E:Value->Shared->Prop} {s:Shared}
theorem rZ {Q:Bool->Shared->Prop}:∀ (xs ys:List Value) (i:Nat),(∀ u∈xs,∃ k t,u=Value.int k t)->(∀ u∈ys,∃ k t,u=Value.int k t)->Q (lexLt (xs.map numOf) (ys.map numOf)) s->KatLex prog w A true (decide (xs.length<ys.length)) Q (xs.zip ys) i s
 | [],[],i,_,_,h=>by exact h
 | [],_::_,i,_,_,h=>by exact h
 | _::_,[],i,_,_,h=>by exact h
 | x::xs,y::ys,i,hx,hy,h=>by
  obtain ⟨a,t,rfl⟩:=hx x (mem_cons_self ..);obtain ⟨b,u,rfl⟩:=hy y (mem_cons_self ..);rw [List.zip_cons_cons,show decide ((Value.int a t::xs).length<(Value.int b u::ys).length)=decide (xs.length<ys.length) by simp];refine kat_cons (wpAny_eqBool_int ?_);have h:Q (if a=b then lexLt (xs.map numOf) (ys.map numOf) else decide (a<b)) s:=h;by_cases e:a=b
  ·rw [if_pos e] at h
   rw [beq_iff_eq.mpr e];exact kat_yes (rZ xs ys (i+1) (λ u hu=>hx u (mem_cons_of_mem _ hu)) (λ u hu=>hy u (mem_cons_of_mem _ hu)) h)
  ·rw [if_neg e] at h
   rw [beq_eq_false_iff_ne.mpr e];refine kat_no ?_;rw [Bool.true_and]
   cases i == 0 with
   | true=>exact oneLt_int h
   | false=>exact kat_one _ _ (PyProof.Rows.lt_int h)
theorem kDI:aE (model prog w) A E s (lbT s.heap) (λ x=>TupI s.heap x.1) (tuples' true):=by
 intro x y hx hy st Q hk q;obtain ⟨a,oa,xs,n,ea,ha,ca,da,ia,za⟩:=hx;obtain ⟨b,ob,ys,m,eb,hb,cb,db,ib,zb⟩:=hy;rw [lt'_eq];refine wpS_bind (wpS_get ?_);rw [hk]
 have q:Q (some (lexLt (xs.toList.map numOf) (ys.toList.map numOf))) st:=by
  have:lbT s.heap x y=lexLt (xs.toList.map numOf) (ys.toList.map numOf):=by
   unfold lbT;rw [ea,eb,TupI.key ha da,TupI.key hb db]
  rw [<-this];exact q
 rw [ea,eb];refine wpS_bind (wpS_lift (wpAny_attempt (kat_lt ha da hb db ?_)))
 have:=rZ (prog:=prog) (w:=w) (A:=A) (s:=s) (Q:=λ b s'=>s'=s/\wpS (model prog w) A E s (match (Except.ok b:Except Value Bool) with
  | .ok b=>pure (some b)
  | .error e=>do
   modify (λ s=>SortSt.mk' (kindOf s) (arrOf s) (pendingOf s) (gallopOf s) (some e))
   pure none) Q st) xs.toList ys.toList 0 ia ib ⟨rfl,wpS_pure q⟩
 simpa using this
end
end Srt
namespace Fc
open Cyc Tri Rnd
section
variable {α:Type} {le:α->α->Bool}
theorem uP (anti:∀ a b,le a b=true->le b a=true->a=b):∀ {l m:List α},l.Perm m->l.Pairwise (λ a b=>le a b=true)->m.Pairwise (λ a b=>le a b=true)->l=m
 | [],m,p,_,_=>(List.nil_perm.mp p).symm
 | a::l,m,p,hl,hm=>by
  match m,p,hm with
  | [],p,_=>exact absurd p.length_eq (by simp)
  | b::m,p,hm =>
   have hl':=pairwise_cons.mp hl;have hm':=pairwise_cons.mp hm
   have e:a=b:=by
    rcases mem_cons.mp (p.mem_iff.mp (mem_cons_self ..)) with z | z
    ·exact z
    ·rcases mem_cons.mp (p.mem_iff.mpr (mem_cons_self ..)) with y | y
     ·exact y.symm
     ·exact anti a b (hl'.1 b y) (hm'.1 a z)
   subst e;rw [uP anti (List.Perm.cons_inv p) hl'.2 hm'.2]
theorem kBG (tr:∀ a b c,le a b=true->le b c=true->le a c=true) (tot:∀ a b,(le a b || le b a)=true) (anti:∀ a b,le a b=true->le b a=true->a=b) {l m:List α} (p:l.Perm m) (h:l.Pairwise (λ a b=>le a b=true)):l=m.mergeSort le :=
 uP anti (p.trans (List.mergeSort_perm m le).symm) h (List.pairwise_mergeSort tr tot m)
end
def leP (a b:Nat×Nat):Bool:=decide (a.1<b.1\/a.1=b.1/\a.2<=b.2)
theorem leP_iff {a b:Nat×Nat}:leP a b=true↔a.1<b.1\/a.1=b.1/\a.2<=b.2:=decide_eq_true_iff
def sortP (T:List (Nat×Nat)):List (Nat×Nat):=T.mergeSort leP
theorem sortP_is {l m:List (Nat×Nat)} (p:l.Perm m) (h:l.Pairwise (λ a b=>leP a b=true)):l=sortP m :=
 kBG (λ a b c h k=>by rw [leP_iff] at *;omega) (λ a b=>by
  rw [Bool.or_eq_true,leP_iff,leP_iff];omega) (λ a b h k=>by
  rw [leP_iff] at h k;exact Prod.ext (by omega) (by omega)) p h
theorem sortP_perm (T:List (Nat×Nat)):(sortP T).Perm T:=List.mergeSort_perm T leP
theorem sortP_sorted (T:List (Nat×Nat)):(sortP T).Pairwise (λ a b=>leP a b=true):=List.pairwise_mergeSort (λ a b c h k=>by rw [leP_iff] at *;omega) (λ a b=>by
  rw [Bool.or_eq_true,leP_iff,leP_iff];omega) T
def zl (l:List Nat):List Int:=l.map λ n:Nat=>(n:Int)
theorem zl_inj:∀ {a b:List Nat},zl a=zl b->a=b
 | [],[],_=>rfl
 | [],_::_,h=>nomatch h
 | _::_,[],h=>nomatch h
 | a::l,b::m,h=>by
  unfold zl at h;rw [map_cons,map_cons] at h;injection h with h1 h2
  rw [zl_inj (a:=l) (b:=m) h2,show a=b by omega]
def leL (a b:List Nat):Bool:=!Srt.lexLt (zl b) (zl a)
theorem leL_iff {a b:List Nat}:leL a b=true↔Srt.lexLt (zl b) (zl a)=false:=by
 unfold leL
 cases Srt.lexLt (zl b) (zl a)<;>simp
def sortL (T:List (List Nat)):List (List Nat):=T.mergeSort leL
theorem kLL (a b c:List Nat) (h:leL a b=true) (k:leL b c=true):leL a c=true:=by
 rw [leL_iff] at *
 cases e:Srt.lexLt (zl c) (zl a) with
 | false=>rfl
 | true =>
  rcases Srt.lex_neg _ (zl b) _ e with z | z
  ·rw [k] at z;cases z
  ·rw [h] at z;cases z
theorem kIP (a b:List Nat):(leL a b || leL b a)=true:=by
 rw [Bool.or_eq_true,leL_iff,leL_iff]
 cases e:Srt.lexLt (zl b) (zl a) with
 | false=>exact .inl rfl
 | true =>
  right
  cases f:Srt.lexLt (zl a) (zl b) with
  | false=>rfl
  | true =>
   have:=Srt.lex_tr _ _ _ e f;rw [Srt.lex_irr] at this;cases this
theorem kGE (a b:List Nat) (h:leL a b=true) (k:leL b a=true):a=b:=by
 rw [leL_iff] at h k;exact zl_inj (Srt.lex_tot _ _ k h)
theorem sortL_is {l m:List (List Nat)} (p:l.Perm m) (h:l.Pairwise (λ a b=>leL a b=true)):l=sortL m:=kBG kLL kIP kGE p h
theorem sortL_perm (T:List (List Nat)):(sortL T).Perm T:=List.mergeSort_perm T leL
theorem leP_leL (a b:Nat×Nat):leL [a.1,a.2] [b.1,b.2]=leP a b:=by
 rw [Bool.eq_iff_iff,leL_iff,leP_iff];show Srt.lexLt [(b.1:Int),(b.2:Int)] [(a.1:Int),(a.2:Int)]=false↔_;unfold Srt.lexLt;by_cases e:(b.1:Int)=a.1
 ·rw [if_pos e]
  unfold Srt.lexLt;by_cases f:(b.2:Int)=a.2
  ·rw [if_pos f]
   exact ⟨λ _=>by omega,λ _=>rfl⟩
  ·rw [if_neg f]
   rw [decide_eq_false_iff_not];omega
 ·rw [if_neg e]
  rw [decide_eq_false_iff_not];omega
open Classical in
noncomputable def per (W:Rows) (t:Nat×Nat):Nat:=if h:∃ k,0<k/\it (nxt W) k t=t/\∀ j,0<j->j<k->it (nxt W) j t≠t then Classical.choose h else 0
theorem per_is {W:Rows} {t:Nat×Nat} {k:Nat} (h0:0<k) (h1:it (nxt W) k t=t) (h2:∀ j,0<j->j<k->it (nxt W) j t≠t):per W t=k:=by
 have ex:∃ k,0<k/\it (nxt W) k t=t/\∀ j,0<j->j<k->it (nxt W) j t≠t:=⟨k,h0,h1,h2⟩;unfold per;rw [dif_pos ex];obtain ⟨a,b,c⟩:=Classical.choose_spec ex;generalize Classical.choose ex=m at *;rcases Nat.lt_trichotomy m k with l | l | l
 ·exact absurd b (h2 m a l)
 ·exact l
 ·exact absurd h1 (c k h0 l)
noncomputable def rnd (W:Rows) (t:Nat×Nat):List (Nat×Nat):=(List.range (per W t)).map λ i=>it (nxt W) i t
noncomputable def fstep (W:Rows) (st:List (List Nat)×List (Nat×Nat)) (t:Nat×Nat):List (List Nat)×List (Nat×Nat) :=
 if t∈st.2 then st else (st.1++[(rnd W t).map (·.1)],st.2++rnd W t)
noncomputable def fgo (W:Rows) (S:List (Nat×Nat)):List (List Nat)×List (Nat×Nat):=S.foldl (fstep W) ([],[])
theorem fgo_snoc (W:Rows) (S:List (Nat×Nat)) (t:Nat×Nat):fgo W (S++[t])=fstep W (fgo W S) t:=by
 unfold fgo;rw [List.foldl_append]
 rfl
def stepsS (W:Rows):List (Nat×Nat):=sortP (kH W)
def tiesS (W:Rows):List (Nat×Nat):=(stepsS W).filter λ t=>decide (t.1<t.2)
noncomputable def facesU (W:Rows):List (List Nat):=(fgo W (stepsS W)).1
noncomputable def facesS (W:Rows):List (List Nat):=sortL (facesU W)
theorem mem_stepsS {W:Rows} {t:Nat×Nat}:t∈stepsS W↔E W t.1 t.2:=by
 unfold stepsS;rw [(sortP_perm _).mem_iff];exact mem_steps
section
variable {W:Rows} (S:Nb W)
theorem uR (S:Nb W):Rnd.Perm (nxt W) (kH W):=uQ S.nd S.sym
theorem wT (S:Nb W) {t:Nat×Nat} (h:t∈kH W):0<per W t/\per W t<=(kH W).length/\it (nxt W) (per W t) t=t/\∀ j,0<j->j<per W t->it (nxt W) j t≠t:=by
 obtain ⟨k,h1,h2,h3,h4⟩:=(uR S).comes h;have e:=per_is h1 h3 h4;rw [e];exact ⟨h1,h2,h3,h4⟩
theorem rnd_nodup (S:Nb W) {t:Nat×Nat} (h:t∈kH W):(rnd W t).Nodup:=(uR S).round_nodup h (wT S h).2.2.2
theorem rnd_len (W:Rows) (t:Nat×Nat):(rnd W t).length=per W t:=by unfold rnd;simp
theorem rnd_sub (S:Nb W) {t u:Nat×Nat} (h:t∈kH W) (hu:u∈rnd W t):u∈kH W:=by
 unfold rnd at hu;obtain ⟨i,_,rfl⟩:=mem_map.mp hu;exact (uR S).it i h
theorem qU (S:Nb W) {t u:Nat×Nat} (h:t∈kH W):u∈rnd W t↔∃ j,it (nxt W) j t=u:=by
 obtain ⟨p0,_,back,_⟩:=wT S h;unfold rnd;rw [mem_map];constructor
 ·rintro ⟨i,_,e⟩
  exact ⟨i,e⟩
 ·rintro ⟨j,e⟩
  refine ⟨j % per W t,mem_range.mpr (Nat.mod_lt _ p0),?_⟩;rw [<-bB _ _ back];exact e
theorem rnd_self (S:Nb W) {t:Nat×Nat} (h:t∈kH W):t∈rnd W t:=(qU S h).mpr ⟨0,rfl⟩
theorem vO (S:Nb W) {t u:Nat×Nat} (h:t∈kH W) (hu:u∈rnd W t):nxt W u∈rnd W t:=by
 obtain ⟨j,rfl⟩:=(qU S h).mp hu;exact (qU S h).mpr ⟨j+1,rfl⟩
structure FI (W:Rows) (T:List (Nat×Nat)) (st:List (List Nat)×List (Nat×Nat)):Prop where
 reps:∃ R:List (Nat×Nat),(∀ r∈R,r∈T)/\st.1=R.map (λ r=>(rnd W r).map (·.1))/\st.2=R.flatMap (rnd W)
 nd:st.2.Nodup
 sub:∀ t∈st.2,t∈kH W
 cl:∀ t∈st.2,nxt W t∈st.2
 cov:∀ t∈T,t∈st.2
theorem FI.start (W:Rows):FI W [] ([],[]):=⟨⟨[],by simp,rfl,rfl⟩,nodup_nil,by simp,by simp,by simp⟩
theorem FI.it {T:List (Nat×Nat)} {st:List (List Nat)×List (Nat×Nat)} (h:FI W T st) {t:Nat×Nat} (ht:t∈st.2) (j:Nat):it (nxt W) j t∈st.2:=by
 induction j with
 | zero=>exact ht
 | succ j ih=>exact h.cl _ ih
theorem FI.step (S:Nb W) {T:List (Nat×Nat)} {st:List (List Nat)×List (Nat×Nat)} (h:FI W T st) {t:Nat×Nat} (ht:t∈kH W):FI W (T++[t]) (fstep W st t):=by
 unfold fstep;obtain ⟨R,r1,r2,r3⟩:=h.reps
 split
 ·rename_i c
  refine ⟨⟨R,λ r hr=>mem_append_left _ (r1 r hr),r2,r3⟩,h.nd,h.sub,h.cl,λ u hu=>?_⟩;rcases mem_append.mp hu with z | z
  ·exact h.cov u z
  ·rw [mem_singleton.mp z]
   exact c
 ·rename_i c
  have dis:∀ a∈st.2,∀ b∈rnd W t,a≠b:=λ a ha b hb e=>by
   subst e;obtain ⟨j,rfl⟩:=(qU S ht).mp hb;obtain ⟨p0,_,back,_⟩:=wT S ht
   have:Rnd.it (nxt W) (per W t*(j+1)-j) (Rnd.it (nxt W) j t)=t:=by
    have le:j<=per W t*(j+1):=Nat.le_trans (Nat.le_succ j) (Nat.le_mul_of_pos_left _ p0);rw [<-yJ,Nat.sub_add_cancel le,bB _ _ back,Nat.mul_mod_right]
    rfl
   rw [<-this] at c;exact c (h.it ha _)
  refine ⟨⟨R++[t],λ r hr=>?_,by rw [map_append,r2];rfl,by rw [List.flatMap_append,r3,List.flatMap_singleton]⟩,?_,λ u hu=>?_,λ u hu=>?_,λ u hu=>?_⟩
  ·rcases mem_append.mp hr with z | z
   ·exact mem_append_left _ (r1 r z)
   ·exact mem_append_right _ z
  ·exact nodup_append.mpr ⟨h.nd,rnd_nodup S ht,dis⟩
  ·rcases mem_append.mp hu with z | z
   ·exact h.sub u z
   ·exact rnd_sub S ht z
  ·rcases mem_append.mp hu with z | z
   ·exact mem_append_left _ (h.cl u z)
   ·exact mem_append_right _ (vO S ht z)
  ·rcases mem_append.mp hu with z | z
   ·exact mem_append_left _ (h.cov u z)
   ·rw [mem_singleton.mp z]
    exact mem_append_right _ (rnd_self S ht)
theorem fgo_ok (S:Nb W):∀ (T:List (Nat×Nat)),(∀ t∈T,t∈kH W)->FI W T (fgo W T):=by
 intro T
 have:∀ (n:Nat),n<=T.length->(∀ t∈T,t∈kH W)->FI W (T.take n) (fgo W (T.take n)):=λ n=>by
  induction n with
  | zero=>intro _ _;rw [List.take_zero];exact FI.start W
  | succ n ih =>
   intro hn hT;have h:=ih (by omega) hT;have e:T.take (n+1)=T.take n++[T[n]]:=by rw [take_succ,List.getElem?_eq_getElem (by omega)];rfl
   rw [e,fgo_snoc];exact h.step S (hT _ (getElem_mem _))
 intro hT;have:=this T.length (Nat.le_refl _) hT;rwa [take_length] at this
theorem FI.len {T:List (Nat×Nat)} {st:List (List Nat)×List (Nat×Nat)} (h:FI W T st):st.2.length<=(kH W).length:=List.Nodup.length_le_of_subset h.nd h.sub
end
theorem kGP {α:Type} (l:List α) (p:α->Bool):(l.filter p).length+(l.filter λ x=>!p x).length=l.length:=by
 induction l with
 | nil=>rfl
 | cons x l ih =>
  rw [filter_cons,filter_cons,length_cons]
  cases p x<;>simp<;>omega
section
variable {W:Rows}
theorem kFZ (S:Nb W) {t:Nat×Nat} (h:t∈kH W):nxt W t≠t:=λ e=>by
 have a:=S.e (mem_steps.mp (show (t.1,t.2)∈kH W from h));have:(nxt W t).1=t.2:=rfl;rw [e] at this;exact a.2.2 this.symm
theorem kLJ (S:Nb W):(stepsS W).Nodup:=(sortP_perm _).nodup_iff.mpr (xL S.nd)
theorem ties_len (S:Nb W):2*(tiesS W).length=(kH W).length:=by
 have nd:=kLJ S;have l:(stepsS W).length=(kH W).length:=(sortP_perm _).length_eq;have tot:=kGP (stepsS W) λ t=>decide (t.1<t.2)
 have perm:(((stepsS W).filter λ t=>!decide (t.1<t.2)).map λ t=>(t.2,t.1)).Perm ((stepsS W).filter λ t=>decide (t.1<t.2)):=by
  refine (List.perm_ext_iff_of_nodup ?_ (nd.filter _)).mpr λ t=>?_
  ·exact pairwise_map.mpr ((nd.filter _).imp λ {a b} h e=>h (by
    injection e with e1 e2
    exact Prod.ext e2 e1))
  ·constructor
   ·intro h
    obtain ⟨u,hu,rfl⟩:=mem_map.mp h;obtain ⟨a,b⟩:=mem_filter.mp hu;have e:=mem_stepsS.mp a;have ne:=(S.e e).2.2;refine mem_filter.mpr ⟨mem_stepsS.mpr (S.sym _ _ e),?_⟩;have b:¬ u.1<u.2:=by simpa using b
    exact decide_eq_true (show u.2<u.1 by omega)
   ·intro h
    obtain ⟨a,b⟩:=mem_filter.mp h;have b:=of_decide_eq_true b;refine mem_map.mpr ⟨(t.2,t.1),mem_filter.mpr ⟨mem_stepsS.mpr (S.sym _ _ (mem_stepsS.mp a)),?_⟩,rfl⟩;have:¬ t.2<t.1:=by omega
    simpa using this
 have e:=perm.length_eq;rw [length_map] at e;unfold tiesS;omega
theorem sT (S:Nb W):(fgo W (stepsS W)).2.Perm (kH W):=by
 have fi:=fgo_ok S (stepsS W) λ t h=>(sortP_perm _).mem_iff.mp h;exact (List.perm_ext_iff_of_nodup fi.nd (xL S.nd)).mpr λ t=>⟨fi.sub t,λ h=>fi.cov t ((sortP_perm _).mem_iff.mpr h)⟩
theorem faces_sum (S:Nb W):((facesU W).map List.length).sum=(kH W).length:=by
 have fi:=fgo_ok S (stepsS W) λ t h=>(sortP_perm _).mem_iff.mp h;obtain ⟨R,_,r2,r3⟩:=fi.reps;have e:=(sT S).length_eq;unfold facesU;rw [r2,<-e,r3,List.length_flatMap,map_map]
 congr 1
 refine List.map_congr_left λ r _=>?_;show ((rnd W r).map _).length=_;rw [length_map]
theorem kLZ (S:Nb W):(∀ f∈facesS W,f.length=3)↔∀ t∈kH W,(nxt W (nxt W t)).2=t.1:=by
 have fi:=fgo_ok S (stepsS W) λ t h=>(sortP_perm _).mem_iff.mp h;obtain ⟨R,r1,r2,r3⟩:=fi.reps
 have memF:∀ f,f∈facesS W↔∃ r∈R,f=(rnd W r).map (·.1):=λ f=>by
  unfold facesS;rw [(sortL_perm _).mem_iff];unfold facesU;rw [r2,mem_map];exact ⟨λ ⟨r,a,b⟩=>⟨r,a,b.symm⟩,λ ⟨r,a,b⟩=>⟨r,a,b.symm⟩⟩
 have rs:∀ r∈R,r∈kH W:=λ r hr=>(sortP_perm _).mem_iff.mp (r1 r hr);constructor
 ·intro h t ht
  have hm:=(sT S).mem_iff.mpr ht;rw [r3,List.mem_flatMap] at hm;obtain ⟨r,hr,htr⟩:=hm;have l3:=h _ ((memF _).mpr ⟨r,hr,rfl⟩);rw [length_map,rnd_len] at l3;obtain ⟨j,rfl⟩:=(qU S (rs r hr)).mp htr;have back:=(wT S (rs r hr)).2.2.1;rw [l3] at back
  have e:nxt W (nxt W (nxt W (it (nxt W) j r)))=it (nxt W) j r:=by
   show it (nxt W) 3 (it (nxt W) j r)=_;rw [<-yJ,Nat.add_comm,yJ,back]
  have e1:(nxt W (nxt W (nxt W (it (nxt W) j r)))).1=(nxt W (nxt W (it (nxt W) j r))).2:=rfl;rw [e] at e1;exact e1.symm
 ·intro h f hf
  obtain ⟨r,hr,rfl⟩:=(memF f).mp hf;have hs:=rs r hr;rw [length_map,rnd_len];have to:=(uR S).to
  have three:it (nxt W) 3 r=r:=by
   show nxt W (nxt W (nxt W r))=r;have a:=h r hs;have b:=h _ (to r hs);have e1:(nxt W (nxt W (nxt W r))).1=r.1:=a;have e2:(nxt W (nxt W (nxt W r))).2=r.2:=b;exact Prod.ext e1 e2
  refine per_is (by decide) three λ j j0 j3=>?_;have:j=1\/j=2:=by omega
  rcases this with rfl | rfl
  ·exact kFZ S hs
  ·intro e
   have e:nxt W (nxt W r)=r:=e;have three:nxt W (nxt W (nxt W r))=r:=three;rw [e] at three;exact kFZ S hs three
theorem three_cornered (S:Nb W):(W.length+(facesS W).length=(tiesS W).length+2/\∀ f∈facesS W,f.length=3)↔((∀ t∈kH W,(nxt W (nxt W t)).2=t.1)/\(kH W).length+12=6*W.length):=by
 rw [<-kLZ S];have tl:=ties_len S;have fs:=faces_sum S;have fl:(facesS W).length=(facesU W).length:=(sortL_perm _).length_eq
 have key:(∀ f∈facesS W,f.length=3)->3*(facesS W).length=(kH W).length:=λ h=>by
  have h':∀ f∈facesU W,f.length=3:=λ f hf=>h f ((sortL_perm _).mem_iff.mpr hf);rw [fl,<-fs];generalize facesU W=F at h';clear h fs fl
  induction F with
  | nil=>rfl
  | cons f F ih =>
   rw [map_cons,List.sum_cons,length_cons,<-ih λ g hg=>h' g (mem_cons_of_mem _ hg),h' f (mem_cons_self ..)];omega
 constructor
 ·rintro ⟨a,b⟩
  have:=key b;exact ⟨b,by omega⟩
 ·rintro ⟨b,a⟩
  have:=key b;exact ⟨by omega,b⟩
end
end Fc
namespace Srt
set_option autoImplicit false
open PySem PySem.W PyProof.Rows
def kJI (lb:Keyed->Keyed->Bool) (l:List Value):Prop:=l.Pairwise λ u v=>le lb (u,u) (v,v)
theorem kKX {lb:Keyed->Keyed->Bool} {vs:List Value} {l:List Keyed} (p:l.Perm (vs.zip vs)) (sr:jC lb l):(l.map (·.2)).Perm vs/\kJI lb (l.map (·.2)):=by
 have same:∀ x∈l,x=(x.2,x.2):=λ x hx=>by
  have:=(mem_zip_self (p.mem_iff.mp hx)).1;obtain ⟨a,b⟩:=x;have:a=b:=this;rw [this]
 refine ⟨?_,?_⟩
 ·have:=p.map (λ x:Keyed=>x.2)
  rwa [show (vs.zip vs).map (λ x:Keyed=>x.2)=vs from List.map_snd_zip (Nat.le_refl _)] at this
 ·refine pairwise_map.mpr (sr.imp_of_mem λ {x y} hx hy h=>?_)
  rw [<-same x hx,<-same y hy];exact h
section
variable {prog:Program} {w:World} {A:Around} {E:Value->Shared->Prop} {s:Shared}
theorem kFD {lb:Keyed->Keyed->Bool} {D:Keyed->Prop} {kd:SortKind} (W:Wk lb) {a:Addr} {vs:List Value} {n:Nat} {P:PySem.Fin->Shared->Prop} (ho:s.heap.get? a=some (seqObj "list" vs.toArray n)) (hz:vs.length<=sizeLine)
  (hkk:2<=vs.length->∀ (h6:Heap),(∀ b o,o.cls≠.type "list"->s.heap.get? b=some o->h6.get? b=some o)->∀ Q:SortKind->Shared->Prop,Q kd { s with heap:=h6 }->wpAny (model prog w) A (keyKind' vs.toArray) Q E { s with heap:=h6 })
  (hL:∀ (h6:Heap),(∀ b o,o.cls≠.type "list"->s.heap.get? b=some o->h6.get? b=some o)->aE (model prog w) A E { s with heap:=h6 } lb D kd) (dd:∀ v∈vs,D (v,v))
  (h:∀ out:List Value,out.Perm vs->kJI lb out->P (.done (.ret .none)) { s with heap:=sortedHeap s.heap a vs out.toArray }) :
  wpAny (model prog w) A (Builtin.«list.sort» ⟨[.ref a],[]⟩) P E s:=by
 rw [list_sort_plain];have ha:a<s.heap.objs.size:=Heap.lt_size ho;refine wpAny_bind (listItems_at ho rfl (wpAny_bind (listUpdate_at ho rfl ?_ (by simpa using hz) (Nat.zero_le _))));obtain ⟨e1,ho1⟩ : ∃ e1,(s.heap.update a (Obj.mapSeq λ _=>#[])).get? a=some (seqObj "list" #[] e1):=⟨_,get?_update_seq ho (λ _=>#[])⟩;refine wpAny_bind (seqEpoch_at ho1 rfl (wpAny_bind (wpAny_newTuple (wpAny_bind (wpAny_newList (wpAny_holding ?_) (Nat.zero_le _))) (by simpa using hz))));generalize eG:((s.heap.update a (Obj.mapSeq λ _=>#[])).push (seqObj "tuple" vs.toArray 0)).push (seqObj "list" #[] 0)=G
 have hoG:G.get? a=some (seqObj "list" #[] e1):=by
  rw [<-eG];exact Heap.get?_push_of_some _ (Heap.get?_push_of_some _ ho1)
 have kG:∀ b o,o.cls≠.type "list"->s.heap.get? b=some o->G.get? b=some o:=λ b o hc e=>by
  have hb:b≠a:=λ q=>by
   subst q;rw [ho] at e;exact hc (by cases e;rfl)
  rw [<-eG];refine Heap.get?_push_of_some _ (Heap.get?_push_of_some _ ?_);rw [Heap.get?_update_ne _ _ _ _ hb];exact e
 have heap:∀ out:List Value,sortedHeap s.heap a vs out.toArray=G.update a (Obj.mapSeq λ _=>out.toArray):=λ out=>by rw [<-eG];rfl
 have eS:∀ X Y:Sem PySem.Fin,X=Y->wpAny (model prog w) A X P E { s with heap:=G }->wpAny (model prog w) A Y P E { s with heap:=G }:=λ X Y e h=>e ▸ h
 have fin:∀ st':SortSt,failedOf st'=none->(arrOf st').toList.Perm (vs.zip vs)->jC lb (arrOf st').toList ->
   P (.done (.ret .none)) { s with heap:=G.update a (Obj.mapSeq λ _=>(arrOf st').map (·.2)) }:=λ st' _ pm sr=>by
  have:=kKX pm sr;have q:=h _ this.1 this.2;rw [heap] at q;rw [show (arrOf st').map (·.2)=((arrOf st').toList.map (·.2)).toArray by rw [<-Array.toList_map]];exact q
 have szP:∀ {st':SortSt},(arrOf st').toList.Perm (vs.zip vs)->((arrOf st').map (·.2)).size<=sizeLine+1:=λ {st'} pm=>by
  have:=pm.length_eq;rw [Array.size_map];simp at this;omega
 dsimp only;by_cases h2:vs.toArray.size<2
 ·rw [if_pos h2,if_pos h2]
  refine wpAny_bind (wpAny_pure ?_);rw [StateT.run_pure];refine wpAny_bind (wpAny_pure ?_)
  have pm:(arrOf (SortSt.mk' general' (vs.toArray.zip vs.toArray) #[] 7 none)).toList.Perm (vs.zip vs):=by
   show (vs.toArray.zip vs.toArray).toList.Perm _;simp
  refine wpAny_bind (seqEpoch_at hoG rfl (wpAny_bind (listUpdate_at hoG rfl ?_ (Nat.zero_le _) (szP pm))));dsimp only;simp only [bne_self_eq_false,Bool.false_eq_true,if_false];refine wpAny_pure (fin (SortSt.mk' general' (vs.toArray.zip vs.toArray) #[] 7 none) rfl pm ?_)
  have:(vs.zip vs).length<=1:=by
   simp at h2 ⊢;omega
  show jC lb (vs.toArray.zip vs.toArray).toList;rw [show (vs.toArray.zip vs.toArray).toList=vs.zip vs by simp];exact oR this
 ·rw [if_neg h2,if_neg h2]
  refine wpAny_bind (hkk (by simp at h2;omega) G kG _ ?_)
  refine wpAny_bind (wpAny_mono (pY (s:={ s with heap:=G }) W (hL G kG) (st:=SortSt.mk' kd (vs.toArray.zip vs.toArray) #[] 7 none) rfl rfl rfl (λ x hx=>?_)
   (Q:=λ _ st'=>(arrOf st').toList.Perm (vs.zip vs)/\failedOf st'=none/\jC lb (arrOf st').toList) λ st' a1 a2 a3=>⟨?_,a2,a3⟩) ?_ λ _ _ e=>e)
  ·have hx:x∈(vs.toArray.zip vs.toArray).toList:=hx
   rw [show (vs.toArray.zip vs.toArray).toList=vs.zip vs by simp] at hx;obtain ⟨z1,z2⟩:=mem_zip_self hx;obtain ⟨u,v⟩:=x;have z1:u=v:=z1;subst z1;exact dd u z2
  ·refine a1.trans ?_
   show (vs.toArray.zip vs.toArray).toList.Perm _;simp
  ·rintro ⟨⟨⟩,st'⟩ s' ⟨rfl,pm,hf,sr⟩
   refine wpAny_bind (seqEpoch_at hoG rfl (wpAny_bind (listUpdate_at hoG rfl ?_ (Nat.zero_le _) (szP pm))));dsimp only;rw [hf];simp only [bne_self_eq_false,Bool.false_eq_true,if_false];exact wpAny_pure (fin st' hf pm sr)
end
end Srt
namespace Srt
set_option autoImplicit false
open PySem PySem.W PyProof.Rows
section
variable {prog:Program} {w:World} {A:Around} {E:Value->Shared->Prop} {s:Shared}
theorem kAU {l:Addr} {o:Obj} {vs:List Value} {n:Nat} {Q:List Value->Shared->Prop} (ho:s.heap.get? l=some o) (hc:o.cls=.type "list"\/o.cls=.type "tuple") (hd:o.data=.seq vs.toArray n) (hz:vs.length<=sizeLine)
  (h:∀ h1:Heap,h1.objs.size=s.heap.objs.size+1->(∀ b u,s.heap.get? b=some u->h1.get? b=some u)->Q vs { s with heap:=h1 }):wpAny (model prog w) A (collect (.ref l)) Q E s:=by
 unfold collect;refine wpAny_bind (wpAny_runValue (codeAny_builtin entry_proto_collect' ?_));show wpAny _ _ (newList [] >>= λ x=>again (.builtin "list.__iadd__" ⟨[x,.ref l],[]⟩)) _ _ s;refine wpAny_bind (wpAny_newList (wpAny_pure ⟨Code.quiet_builtin _ (by decide +kernel),codeAny_builtin entry_list_iadd' ?_⟩) (Nat.zero_le _));generalize eG:s.heap.push (seqObj "list" #[] 0)=G;have sG:G.objs.size=s.heap.objs.size+1:=by rw [<-eG,size_push']
 have kG:∀ b u,s.heap.get? b=some u->G.get? b=some u:=λ b u e=>by rw [<-eG];exact Heap.get?_push_of_some _ e
 have nG:G.get? s.heap.objs.size=some (seqObj "list" #[] 0):=by rw [<-eG];exact Heap.get?_push_size _ rfl
 show wpAny _ _ (Builtin.List.listExtendWith (.ref s.heap.objs.size) (.ref l) (.ref s.heap.objs.size)) _ _ { s with heap:=G }
 unfold Builtin.List.listExtendWith
 have fin:wpAny (model prog w) A (load s.heap.objs.size >>= λ o=>match o.data with
   | .seq xs _=>pure xs.toList
   | _=>unsupported "internal:collect") Q E { s with heap:=G.update s.heap.objs.size (Obj.mapSeq (·++vs.toArray)) }:=by
  refine wpAny_bind (wpAny_load (get?_update_seq nG _) ?_);show wpAny _ _ (pure ((#[]:Array Value)++vs.toArray).toList) Q E _;rw [show ((#[]:Array Value)++vs.toArray).toList=vs by simp];refine wpAny_pure (h _ (by rw [Heap.size_update,sG]) λ b u e=>?_);rw [Heap.get?_update_ne _ _ _ _ (Nat.ne_of_lt (Heap.lt_size e))];exact kG b u e
 have ty:∃ T:String,o.cls=.type T/\(T = "list"\/T = "tuple"):=by
  rcases hc with e | e
  ·exact ⟨_,e,.inl rfl⟩
  ·exact ⟨_,e,.inr rfl⟩
 obtain ⟨T,hT,hT2⟩:=ty;refine wpAny_bind (wpAny_typeOf (T:=T) ⟨o,kG l o ho,hT⟩ ?_)
 have hb:(Value.type T == Value.type "list" || Value.type T == Value.type "tuple")=true:=by
  rcases hT2 with rfl | rfl<;>rfl
 rw [if_pos (by rw [Bool.or_assoc,hb,Bool.or_true])];refine wpAny_bind (listItems_at (kG l o ho) hd (wpAny_bind (listItems_at (xs:=#[]) (n:=0) nG rfl ?_)));rw [if_neg (by simp)];refine wpAny_bind (listUpdate_at (xs:=#[]) (n:=0) nG rfl ?_ (Nat.zero_le _) (by show (#[]++vs.toArray).size<=sizeLine+1;rw [Array.size_append];simp;omega));exact wpAny_pure fin
theorem tM {lb:Keyed->Keyed->Bool} {D:Keyed->Prop} {kd:SortKind} (W:Wk lb) {l:Addr} {o:Obj} {vs:List Value} {n:Nat} {Q:Value->Shared->Prop} (ho:s.heap.get? l=some o) (hc:o.cls=.type "list"\/o.cls=.type "tuple") (hd:o.data=.seq vs.toArray n) (hz:vs.length<=sizeLine)
  (hkk:2<=vs.length->∀ (A':Around) (E':Value->Shared->Prop) (h6:Heap),(∀ b o,o.cls≠.type "list"->s.heap.get? b=some o->h6.get? b=some o)->∀ Q:SortKind->Shared->Prop,Q kd { s with heap:=h6 }->wpAny (model prog w) A' (keyKind' vs.toArray) Q E' { s with heap:=h6 })
  (hL:∀ (A':Around) (E':Value->Shared->Prop) (h6:Heap),(∀ b o,o.cls≠.type "list"->s.heap.get? b=some o->h6.get? b=some o)->aE (model prog w) A' E' { s with heap:=h6 } lb D kd) (dd:∀ v∈vs,D (v,v))
  (h:∀ (out:List Value) (k:Nat) (h':Heap),out.Perm vs->kJI lb out->(∀ b u,s.heap.get? b=some u->h'.get? b=some u)->h'.get? (s.heap.objs.size+1)=some (seqObj "list" out.toArray k)->Q (.ref (s.heap.objs.size+1)) { s with heap:=h' }) :
  wpAny (model prog w) A (call (.builtin "sorted") [.ref l]) Q E s:=by
 refine Calls.call_function_entry kind_sorted plain_sorted entry_sorted (args_sorted1 _) ?_;unfold Builtin.«sorted»;refine wpAny_bind (m:=checkCount "sorted" 1 1 _) (wpAny_pure (wpAny_bind (kAU ho hc hd hz λ h1 sz1 k1=>?_)));refine wpAny_bind (wpAny_newList ?_ (by simpa using hz));generalize eG:h1.push (seqObj "list" vs.toArray 0)=G
 have nG:G.get? (s.heap.objs.size+1)=some (seqObj "list" vs.toArray 0):=by
  rw [<-eG,<-sz1];exact Heap.get?_push_size _ rfl
 have kG:∀ b u,s.heap.get? b=some u->G.get? b=some u:=λ b u e=>by
  rw [<-eG];exact Heap.get?_push_of_some _ (k1 b u e)
 show wpAny _ _ _ _ _ { s with heap:=G }
 rw [sz1];refine wpAny_bind (wpAny_holding (wpAny_call_entry slot_list_sort ⟨_,nG,rfl⟩ entry_list_sort (kFD (s:={ s with heap:=G }) W nG hz (λ h2 h6 k6 Q q=>hkk h2 _ _ h6 (λ b o c e=>k6 b o c (kG b o e)) Q q) (λ h6 k6=>hL _ _ h6 λ b o c e=>k6 b o c (kG b o e)) dd λ out pm od=>⟨_,rfl,?_⟩) (args_list_sort _)))
 have hlt:s.heap.objs.size+1<G.objs.size:=Heap.lt_size nG;have up:(G.update (s.heap.objs.size+1) (Obj.mapSeq λ _=>#[])).get? (s.heap.objs.size+1)=some (seqObj "list" #[] (if (#[]:Array Value).size == vs.toArray.size then 0 else 1)):=get?_update_seq nG (λ _=>#[]);refine wpAny_pure ⟨_,rfl,h out _ _ pm od (λ b u e=>?_) (get?_update_seq (Heap.get?_push_of_some _ (Heap.get?_push_of_some _ up)) (λ _=>out.toArray))⟩;have hb:b≠s.heap.objs.size+1:=Nat.ne_of_lt (Nat.lt_succ_of_lt (Heap.lt_size e));unfold sortedHeap;rw [Heap.get?_update_ne _ _ _ _ hb];refine Heap.get?_push_of_some _ (Heap.get?_push_of_some _ ?_);rw [Heap.get?_update_ne _ _ _ _ hb];exact kG b u e
theorem sorted_tups {l:Addr} {o:Obj} {vs:List Value} {n:Nat} {Q:Value->Shared->Prop} (ho:s.heap.get? l=some o) (hc:o.cls=.type "list"\/o.cls=.type "tuple") (hd:o.data=.seq vs.toArray n) (hz:vs.length<=sizeLine)
  (ht:∀ v∈vs,TupI s.heap v)
  (h:∀ (out:List Value) (k:Nat) (h':Heap),out.Perm vs->kJI (lbT s.heap) out->(∀ b u,s.heap.get? b=some u->h'.get? b=some u)->h'.get? (s.heap.objs.size+1)=some (seqObj "list" out.toArray k)->Q (.ref (s.heap.objs.size+1)) { s with heap:=h' }) :
  wpAny (model prog w) A (call (.builtin "sorted") [.ref l]) Q E s:=by
 have kt:∀ {h6:Heap},(∀ b o,o.cls≠.type "list"->s.heap.get? b=some o->h6.get? b=some o)->∀ b o,o.cls=.type "tuple"->s.heap.get? b=some o->h6.get? b=some o:=λ k6 b o c e=>k6 b o (by rw [c];intro q;injection q with q;exact absurd q (by decide)) e
 refine tM (D:=λ x=>TupI s.heap x.1) (kd:=tuples' true) (kLM s.heap) ho hc hd hz (λ h2 A' E' h6 k6 Q q=>?_) (λ A' E' h6 k6=>?_) (λ v hv=>ht v hv) h
 ·have t6:∀ v∈vs,TupI h6 v:=λ v hv=>((ht v hv).kept (kt k6)).1
  have:∀ us:List Value,(∀ v∈us,TupI h6 v)->∃ fs,KatTups h6 us fs/\fs.length=us.length/\∀ v∈fs,∃ k t,v=Value.int k t:=λ us=>by
   induction us with
   | nil=>intro _;exact ⟨[],.nil,rfl,by simp⟩
   | cons u us ih =>
    intro hu;obtain ⟨fs,a1,a2,a3⟩:=ih λ v hv=>hu v (mem_cons_of_mem _ hv);obtain ⟨a,o,xs,m,rfl,e1,e2,e3,e4,e5⟩:=hu u (mem_cons_self ..);refine ⟨xs[0]::fs,.cons e1 e2 e3 (getElem?_pos xs 0 e5) a1,by simp [a2],λ v hv=>?_⟩;rcases mem_cons.mp hv with rfl | z
    ·exact e4 _ (by simp)
    ·exact a3 v z
  obtain ⟨fs,a1,a2,a3⟩:=this vs t6;refine kat_kind (T:=.type "int") a1 (by omega) (λ v hv=>?_) rfl q;obtain ⟨k,t,rfl⟩:=a3 v hv;exact Looks.of_pure rfl
 ·intro x y hx hy st Q hk q
  have a:=hx.kept (kt k6);have b:=hy.kept (kt k6);refine kDI (s:={ s with heap:=h6 }) x y a.1 b.1 st Q hk ?_
  show Q (some (lexLt (keyOf h6 x.1) (keyOf h6 y.1))) st;rw [a.2,b.2];exact q
end
end Srt
namespace Srt
theorem perm_back {α β:Type} {f:α->β}:∀ {l' l2:List β},l'.Perm l2->∀ {l:List α},l2=l.map f->∃ m:List α,m.Perm l/\l'=m.map f:=by
 intro l' l2 h
 induction h with
 | nil =>
  intro l e
  match l,e with
  | [],_=>exact ⟨[],.refl _,rfl⟩
 | cons x _ ih =>
  intro l e
  match l,e with
  | y::l,e =>
   rw [map_cons] at e;injection e with e1 e2
   obtain ⟨m,a,b⟩:=ih e2;exact ⟨y::m,a.cons y,by rw [map_cons,b,e1]⟩
 | swap x y l0 =>
  intro l e
  match l,e with
  | a::b::l,e =>
   rw [map_cons,map_cons] at e;injection e with e1 e2
   injection e2 with e2 e3
   exact ⟨b::a::l,.swap _ _ _,by rw [map_cons,map_cons,e1,e2,e3]⟩
 | trans _ _ ih1 ih2 =>
  intro l e;obtain ⟨m,a,b⟩:=ih2 e;obtain ⟨m',a',b'⟩:=ih1 b;exact ⟨m',a'.trans a,b'⟩
end Srt
namespace L2
open PySem PySem.Spec PyProof.Rows
section
variable {X:Cx}
theorem cU:∀ {ps:List (Addr×List Int)} {its:List Value},Vals (ps.map λ q=>V.ref q.1) its->its=ps.map λ q=>Value.ref q.1
 | [],_,.nil=>rfl
 | p::ps,_,.cons r t=>by
  rw [cU t,show _=Value.ref p.1 from r]
  rfl
theorem nF:∀ (ps:List (Addr×List Int)),Vals (ps.map λ q=>V.ref q.1) (ps.map λ q=>Value.ref q.1)
 | []=>.nil
 | p::ps=>.cons rfl (nF ps)
def kML (H:Hp) (ps:List (Addr×List Int)):Prop:=∀ q∈ps,H q.1=some (.tup (q.2.map V.int))/\q.2≠[]
theorem oE {pins:List (Addr×Obj)} {σ:St} {H:Hp} {s:Shared} (I:Inv X pins σ H s) {a:Addr} {ns:List Int} (h:H a=some (.tup (ns.map V.int))) (h0:ns≠[]):Srt.TupI s.heap (.ref a)/\Srt.keyOf s.heap (.ref a)=ns:=by
 obtain ⟨its,rv,⟨o,ho,hc,n,hd⟩,hz⟩:=I.tuple (SqT.of (K:=X.K) h);have hi:=fV rv;have hl:=rv.length;refine ⟨⟨a,o,_,n,rfl,ho,hc,hd,λ u hu=>hi.all u (by simpa using hu),?_⟩,?_⟩
 ·rw [length_map] at hl
  have:0<ns.length:=length_pos_iff.mpr h0;simp;omega
 ·rw [Srt.TupI.key ho hd]
  exact hi.nums
theorem mF:xQ X (.builtin "sorted") (λ xs H Q=>∃ (p:Addr) (ps:List (Addr×List Int)),xs=[.ref p]/\(SqL X.K H p (ps.map λ q=>V.ref q.1)\/SqT X.K H p (ps.map λ q=>V.ref q.1))/\kML H ps /\
  ∀ (l:Addr) (ps':List (Addr×List Int)),H l=none->ps'.Perm ps->ps'.Pairwise (λ a b=>Srt.lexLt b.2 a.2=false)->Q (.ref l) (upd H l (.lst (ps'.map λ q=>V.ref q.1)))):=by
 intro pins s σ H xs us Q I r h;obtain ⟨p,ps,rfl,hq,tp,q⟩:=h;obtain ⟨u,rfl,rx⟩:=uL r;cases rx
 have obj:∃ (o:Obj) (n:Nat),s.heap.get? p=some o/\(o.cls=.type "list"\/o.cls=.type "tuple")/\o.data=.seq (ps.map λ q=>Value.ref q.1).toArray n/\ps.length<=sizeLine:=by
  rcases hq with hq | hq
  ·obtain ⟨its,r',pl,hz⟩:=I.list hq
   rw [cU r'] at pl;obtain ⟨o,ho,hc,n,hd⟩:=pl.isList;exact ⟨o,n,ho,.inl hc,hd,by simpa using hz⟩
  ·obtain ⟨its,r',pl,hz⟩:=I.tuple hq
   rw [cU r'] at pl;obtain ⟨o,ho,hc,n,hd⟩:=pl;exact ⟨o,n,ho,.inr hc,hd,by simpa using hz⟩
 obtain ⟨o,n,ho,hc,hd,hz⟩:=obj;refine Srt.sorted_tups ho hc hd (by simpa using hz) (λ v hv=>?_) λ out k h' pm od kp e=>?_
 ·obtain ⟨x,hx,rfl⟩:=mem_map.mp hv
  exact (oE I (tp x hx).1 (tp x hx).2).1
 ·obtain ⟨ps',pm',rfl⟩:=Srt.perm_back pm rfl
  refine ⟨.ref (s.heap.objs.size+1),_,I.laid (t':=s.toks) kp (Nat.le_succ _) (show ObjOk X.prog X.w _ h' _ (.lst (ps'.map λ q=>V.ref q.1)) from ⟨by simpa [pm'.length_eq] using hz,_,k,nF ps',e⟩),rfl,q _ ps' (I.hok.fresh (Nat.le_succ _)) pm' ?_⟩;refine (pairwise_map.mp od).imp_of_mem λ {a b} ha hb hh=>?_;have e1:=(oE I (tp a (pm'.mem_iff.mp ha)).1 (tp a (pm'.mem_iff.mp ha)).2).2;have e2:=(oE I (tp b (pm'.mem_iff.mp hb)).1 (tp b (pm'.mem_iff.mp hb)).2).2;have hh:Srt.lexLt (Srt.keyOf s.heap (.ref b.1)) (Srt.keyOf s.heap (.ref a.1))=false:=hh;rw [e1,e2] at hh;exact hh
end
end L2
namespace Hsh
set_option autoImplicit false
open PySem PySem.Spec PyProof.Rows
def kDU:Nat->List Nat->Bool
 | 0,l=>l.length<=1
 | k+1,l=>match l with
  | []=>true
  | [_]=>true
  | l=>kDU k (l.filter λ n=>(n / 2 ^ k) % 2 == 0) && kDU k (l.filter λ n=>!((n / 2 ^ k) % 2 == 0))
theorem kJA:∀ (k:Nat) (l:List Nat),kDU k l=true->l.Nodup:=by
 intro k
 induction k with
 | zero =>
  intro l h
  match l,h with
  | [],_=>exact nodup_nil
  | [x],_=>exact nodup_cons.mpr ⟨by simp,nodup_nil⟩
  | _::_::_,h=>simp [kDU] at h
 | succ k ih =>
  intro l h
  match l,h with
  | [],_=>exact nodup_nil
  | [x],_=>exact nodup_cons.mpr ⟨by simp,nodup_nil⟩
  | a::b::l,h =>
   unfold kDU at h;rw [Bool.and_eq_true] at h;have h1:=ih _ h.1;have h2:=ih _ h.2;generalize a::b::l=m at *
   have:∀ m:List Nat,(m.filter λ n=>(n / 2 ^ k) % 2 == 0).Nodup->(m.filter λ n=>!((n / 2 ^ k) % 2 == 0)).Nodup->m.Nodup:=λ m=>by
    induction m with
    | nil=>intro _ _;exact nodup_nil
    | cons x m ih =>
     intro a1 a2
     have mem:x∉m:=λ hx=>by
      cases e:(x / 2 ^ k) % 2 == 0 with
      | true =>
       rw [filter_cons,if_pos e] at a1;exact (nodup_cons.mp a1).1 (mem_filter.mpr ⟨hx,e⟩)
      | false =>
       rw [filter_cons,if_pos (by rw [e];rfl)] at a2;exact (nodup_cons.mp a2).1 (mem_filter.mpr ⟨hx,by rw [e];rfl⟩)
     refine nodup_cons.mpr ⟨mem,ih ?_ ?_⟩
     ·rw [filter_cons] at a1
      split at a1
      ·exact (nodup_cons.mp a1).2
      ·exact a1
     ·rw [filter_cons] at a2
      split at a2
      ·exact (nodup_cons.mp a2).2
      ·exact a2
   exact this m h1 h2
def hp (p q:Nat):Nat:=(reduceHash (Builtin.Tuple.tupleHashOf [hashInt (p:Int),hashInt (q:Int)])+2 ^ 63).toNat
def all:List Nat:=(List.range 1764).map λ i=>hp (i / 42) (i % 42)
theorem kHD:kDU 64 all=true:=by decide +kernel
theorem hp_inj {p q p' q':Nat} (h1:p<42) (h2:q<42) (h3:p'<42) (h4:q'<42) (e:hp p q=hp p' q'):p=p'/\q=q':=by
 have nd:=kJA 64 all kHD
 have at':∀ p q:Nat,p<42->q<42->all[42*p+q]?=some (hp p q):=λ p q a b=>by
  unfold all;rw [List.getElem?_map,List.getElem?_range (by omega)];show some (hp ((42*p+q) / 42) ((42*p+q) % 42))=_;rw [show (42*p+q) / 42=p by omega,show (42*p+q) % 42=q by omega]
 have a:=at' p q h1 h2;have b:=at' p' q' h3 h4;rw [<-e] at b;have:=(List.getElem?_inj (List.getElem?_eq_some_iff.mp a).1 nd).mp (a.trans b.symm);omega
end Hsh
namespace Dct
set_option autoImplicit false
open PySem PySem.Spec PyProof.Rows
section
variable {prog:Program} {w:World} {A:Around} {E:Value->Shared->Prop} {s:Shared} {κ:Type} [DecidableEq κ] {kd:KeyKind prog w κ}
def fold (xs ys:List (List κ×Addr×Value)):List (List κ×Addr×Value):=ys.foldl (λ acc y=>storedH acc y.1 y.2.1 y.2.2) xs
theorem fold_len (xs ys:List (List κ×Addr×Value)):(fold xs ys).length<=xs.length+ys.length:=by
 induction ys generalizing xs with
 | nil=>exact Nat.le_refl _
 | cons y ys ih =>
  have:=ih (storedH xs y.1 y.2.1 y.2.2)
  have l:(storedH xs y.1 y.2.1 y.2.2).length<=xs.length+1:=by
   unfold storedH
   split<;>simp
  rw [length_cons];unfold fold at *;rw [foldl_cons];omega
theorem sK:∀ (xs ys:List (List κ×Addr×Value)),((xs++ys).map (·.1)).Nodup->fold xs ys=xs++ys
 | xs,[],_=>by rw [append_nil];rfl
 | xs,y::ys,h=>by
  have no:atKey xs y.1=none:=by
   refine atKey_none_of_get λ j p e=>?_;rw [map_append,map_cons,nodup_append] at h;exact h.2.2 y.1 (mem_map.mpr ⟨_,mem_of_getElem? e,rfl⟩) y.1 (mem_cons_self ..) rfl
  unfold fold;rw [foldl_cons,storedH_new no];have:=sK (xs++[y]) ys (by simpa using h);unfold fold at this;rw [show (y.1,y.2.1,y.2.2)=y from rfl,this];simp
theorem nQ (xs ys:List (List κ×Addr×Value)) (i:Nat) (y:List κ×Addr×Value) (h:ys[i]?=some y):fold xs (ys.take (i+1))=storedH (fold xs (ys.take i)) y.1 y.2.1 y.2.2:=by
 unfold fold;rw [List.take_add_one,h,List.foldl_append]
 rfl
theorem gW {d a:Addr} {xs:List (List κ×Addr×Value)} {k:List κ} {v:Value} {Q:Unit->Shared->Prop} (hu:A.units<cLine) (hk:(tupleKind kd).is s.heap k a) (hm:s.heap.DictOfH (tupleKind kd) d xs) (hz:xs.length<=sizeLine)
  (q:∀ h',h'.DictOfH (tupleKind kd) d (storedH xs k a v)->Heap.SameBut d s.heap h'->Q () { s with heap:=h' }):wpAny (model prog w) A (dictSetHashed d (.ref a) ((tupleKind kd).hash k) v) Q E s:=by
 obtain ⟨o,es,ep,ho,hc,hd,he,his,hn⟩:=hm;have sz:=size_of_entries he;unfold dictSetHashed
 try with_reducible refine wpAny_holding ?_
 refine wpAny_bind (wpAny_dictFind_heap (knd:=tupleKind kd) hu hk ho hd he his hn (λ no=>?_) λ j p hj=>?_)
 ·have nk:=not_mem_keys_of_get no
  have e:=storedH_new (atKey_none_of_get no) a v;refine wpAny_bind (wpAny_rule (wpAny_updateDictKeys (hz:=by omega) ho hd (q _ ⟨_,_,ep+1,Heap.get?_update_self _ ho (Obj.isFreed_of_dict (Obj.data_mapDictKeys hd _)),hc.mapDictKeys _,Obj.data_mapDictKeys hd _,?_,?_,?_⟩ (Heap.SameBut.update ..))))
  ·rw [e]
   simp [he,entryOfKey]
  ·rw [e]
   intro x hx;rcases mem_append.mp hx with z | z
   ·exact (tupleKind kd).keeps (his x z) ho hd (Heap.SameBut.update ..)
   ·rw [mem_singleton.mp z]
    exact (tupleKind kd).keeps hk ho hd (Heap.SameBut.update ..)
  ·rw [e,map_append,nodup_append]
   refine ⟨hn,by simp,λ x hx y hy z=>nk ?_⟩;have:y=k:=by simpa using hy
   rw [<-this,<-z];exact hx
 ·have e:=storedH_old (atKey_of_get hn hj) a v
  refine wpAny_bind (wpAny_rule (wpAny_bind (wpAny_updateDict ho hd (wpAny_point (q _ ⟨_,_,ep,Heap.get?_update_self _ ho (Obj.isFreed_of_dict (Obj.data_mapDict hd _)),hc.mapDict _,Obj.data_mapDict hd _,?_,?_,?_⟩ (Heap.SameBut.update ..))))))
  ·rw [e]
   have m:=modify_map_putAt (entryOfKey (tupleKind kd)) (λ z:DictEntry=>{ z with val:=v }) k v (λ _ _=>rfl) hn hj
   rw [<-he] at m;obtain ⟨l⟩:=es;simpa using m
  ·rw [e]
   intro x hx;obtain ⟨y,hy,rfl⟩:=mem_map.mp hx;unfold putAt
   split<;>exact (tupleKind kd).keeps (his y hy) ho hd (Heap.SameBut.update ..)
  ·rw [e,keys_map_putAt]
   exact hn
theorem kCV {k:List κ} {a:Addr} {Q:Bool->Shared->Prop} (hk:(tupleKind kd).is s.heap k a) (q:Q false s):wpAny (model prog w) A (Builtin.Dict.quietEq (.ref a)) Q E s:=by
 unfold Builtin.Dict.quietEq;have hk:IsTupleKey kd s.heap k a:=hk;refine wpAny_bind (wpAny_specialOf hk.typeIs F.slot_tuple_eq.lookup (wpAny_pure ?_));exact q
theorem sM {id:String} {d:Addr} {o:Obj} {es:Array DictEntry} {ep:Nat} {xs:List (List κ×Addr×Value)} {Q:Array DictEntry->Shared->Prop} (ho:s.heap.get? d=some o) (hd:o.data=.dict es ep) (he:es.toList=xs.map (entryOfKey (tupleKind kd))) (his:∀ x∈xs,(tupleKind kd).is s.heap x.1 x.2.1)
  (hh:(xs.map λ x=>(tupleKind kd).hash x.1).Nodup) (q:Q es s):wpAny (model prog w) A (Builtin.Dict.entriesForEmpty id d) Q E s:=by
 have few:∀ e∈es,¬ (es.filter λ z=>z.hash == e.hash).size>1:=λ e hin g=>by
  have:(es.toList.map λ z=>z.hash)=xs.map λ x=>(tupleKind kd).hash x.1:=by
   rw [he,map_map]
   rfl
  rw [<-this] at hh
  have l:(es.filter λ z=>z.hash == e.hash).size=((es.toList.map λ z=>z.hash).filter λ z=>z == e.hash).length:=by
   rw [<-Array.length_toList,Array.toList_filter,List.filter_map,length_map]
   rfl
  have c:=List.nodup_iff_count.mp hh e.hash;rw [List.count_eq_length_filter] at c;omega
 unfold Builtin.Dict.entriesForEmpty;refine wpAny_bind (wpAny_dictEntries ho hd (wpAny_bind ?_));rw [<-Array.forIn_toList];refine wpAny_forIn_list _ (λ rest _ s'=>s'=s/\∀ e∈rest,e∈es) _ ?_ ?_ _ _ ⟨rfl,λ e h=>Array.mem_toList_iff.mp h⟩
 ·rintro e rest b s' ⟨rfl,hr⟩
  have hin:=hr e (mem_cons_self ..)
  obtain ⟨x,hx,rfl⟩ : ∃ x∈xs,e=entryOfKey (tupleKind kd) x:=by
   have:e∈xs.map (entryOfKey (tupleKind kd)):=he ▸ Array.mem_toList_iff.mpr hin;obtain ⟨x,hx,z⟩:=mem_map.mp this;exact ⟨x,hx,z.symm⟩
  refine wpAny_bind (kCV (his x hx) ?_);simp only [Bool.not_false,if_true];rw [if_neg (few _ hin)];exact wpAny_pure ⟨rfl,λ z hz=>hr z (mem_cons_of_mem _ hz)⟩
 ·rintro b s' ⟨rfl,_⟩
  exact wpAny_pure q
theorem kDH {nm:String} {d o:Addr} {xs ys:List (List κ×Addr×Value)} {Q:Unit->Shared->Prop} (hu:A.units<cLine) (hdo:d≠o) (hoS:(o == sysModules)=false) (hd:s.heap.DictOfH (tupleKind kd) d xs) (ho:s.heap.DictOfH (tupleKind kd) o ys)
  (hz:xs.length+ys.length<=sizeLine) (hh:xs=[]->(ys.map λ y=>(tupleKind kd).hash y.1).Nodup)
  (q:∀ h',h'.DictOfH (tupleKind kd) d (fold xs ys)->Heap.SameBut d s.heap h'->Q () { s with heap:=h' }):wpAny (model prog w) A (Builtin.Dict.mergeDict nm d o) Q E s:=by
 obtain ⟨od,esd,epd,hod,hcd,hdd,hed,hisd,hnd⟩:=id hd;obtain ⟨oo,eso,epo,hoo,hco,hdo',heo,hiso,hno⟩:=id ho;have szo:=size_of_entries heo;have szd:=size_of_entries hed;unfold Builtin.Dict.mergeDict;rw [if_neg (by simpa using hdo)];unfold Builtin.Dict.showsAll;rw [if_neg (by rw [hoS];exact Bool.false_ne_true)]
 refine wpAny_bind (wpAny_pure (wpAny_bind (wpAny_dictEntries hoo hdo' ?_)))
 have inv0:∃ h' i,s={ s with heap:=h' }/\List.range' 0 eso.size=List.range' i (eso.size-i)/\i<=eso.size/\h'.DictOfH (tupleKind kd) d (fold xs (ys.take i))/\h'.get? o=some oo/\Heap.SameBut d s.heap h' :=
  ⟨s.heap,0,rfl,rfl,Nat.zero_le _,by rw [List.take_zero];exact hd,hoo,Heap.SameBut.refl _ _⟩
 dsimp only
 split
 ·refine wpAny_bind (wpAny_dictEntries hod hdd ?_)
  split
  ·rename_i hemp
   have z:xs=[]:=by
    have h0:esd = #[]:=Array.isEmpty_iff.mp hemp;rw [h0] at szd;exact length_eq_zero_iff.mp szd.symm
   subst z;have ff:fold [] ys=ys:=sK [] ys hno;rw [ff] at q;refine wpAny_bind (sM hoo hdo' heo hiso (hh rfl) ?_)
   split
   ·refine wpAny_bind (wpAny_updateDictKeysTo hod hdd (wpAny_pure (q _ ⟨_,_,epd+1,Heap.get?_update_self _ hod (Obj.isFreed_of_dict (Obj.data_mapDictKeys hdd _)),hcd.mapDictKeys _,Obj.data_mapDictKeys hdd _,heo,λ x hx=>(tupleKind kd).keeps (hiso x hx) hod hdd (Heap.SameBut.update ..),hno⟩ (Heap.SameBut.update ..))) ?_)
    simp only [length_nil] at hz;omega
   ·rename_i hne
    have h0:eso = #[]:=Array.isEmpty_iff.mp (by simpa using hne)
    have z:ys=[]:=by
     rw [h0] at szo;exact length_eq_zero_iff.mp szo.symm
    subst z;exact wpAny_pure (q _ hd (Heap.SameBut.refl _ _))
  ·refine wpAny_bind (wpAny_dictEpoch hoo hdo' (wpAny_bind (wpAny_dictEntries hoo hdo' (wpAny_bind ?_))))
   rw [Std.Legacy.Range.forIn_eq_forIn_range'];simp only [Std.Legacy.Range.size,Nat.sub_zero,Nat.add_sub_cancel,Nat.div_one];refine wpAny_forIn_list _ (λ rest _ s'=>∃ h' i,s'={ s with heap:=h' }/\rest=List.range' i (eso.size-i)/\i<=eso.size/\h'.DictOfH (tupleKind kd) d (fold xs (ys.take i))/\h'.get? o=some oo/\Heap.SameBut d s.heap h') _ ?_ ?_ _ _ inv0
   ·rintro x rest b s' ⟨h',i,rfl,hr,hi,hd',hoo',hs'⟩
    by_cases hlt:i<eso.size
    ·rw [show eso.size-i=(eso.size-(i+1))+1 by omega,List.range'_succ] at hr
     injection hr with h1 h2
     subst h1;refine wpAny_bind (wpAny_dictEntries hoo' hdo' ?_);have hy:ys[x]?=some (ys[x]'(by omega)):=List.getElem?_eq_getElem _;rw [entry_at heo x,hy];generalize ys[x]'(by omega)=y at hy;have hk:(tupleKind kd).is h' y.1 y.2.1:=(tupleKind kd).keeps (hiso y (mem_of_getElem? hy)) hod hdd hs';have lz:=fold_len xs (ys.take x);have lt:(ys.take x).length<=ys.length:=by rw [length_take];omega
     refine wpAny_bind (wpAny_holding (gW (s:={ s with heap:=h' }) hu hk hd' (by omega) λ h'' hd'' hs''=>?_))
     have hoo'':h''.get? o=some oo:=(hs''.2 o (Ne.symm hdo)).trans hoo';refine wpAny_bind (wpAny_dictEpoch hoo'' hdo' ?_);rw [if_neg (by simp)];exact wpAny_pure ⟨h'',x+1,rfl,h2,hlt,by rw [nQ xs ys x y hy];exact hd'',hoo'',hs'.trans hs''⟩
    ·rw [show eso.size-i=0 by omega] at hr
     exact nomatch hr
   ·rintro b s' ⟨h',i,rfl,hr,hi,hd',hoo',hs'⟩
    have hin:i=eso.size:=by
     by_cases hlt:i<eso.size
     ·rw [show eso.size-i=(eso.size-(i+1))+1 by omega,List.range'_succ] at hr
      exact nomatch hr
     ·omega
    refine wpAny_pure (q h' ?_ hs');rw [hin,szo,take_length] at hd';exact hd'
 ·refine wpAny_bind (wpAny_dictEpoch hoo hdo' (wpAny_bind (wpAny_dictEntries hoo hdo' (wpAny_bind ?_))))
  rw [Std.Legacy.Range.forIn_eq_forIn_range'];simp only [Std.Legacy.Range.size,Nat.sub_zero,Nat.add_sub_cancel,Nat.div_one];refine wpAny_forIn_list _ (λ rest _ s'=>∃ h' i,s'={ s with heap:=h' }/\rest=List.range' i (eso.size-i)/\i<=eso.size/\h'.DictOfH (tupleKind kd) d (fold xs (ys.take i))/\h'.get? o=some oo/\Heap.SameBut d s.heap h') _ ?_ ?_ _ _ inv0
  ·rintro x rest b s' ⟨h',i,rfl,hr,hi,hd',hoo',hs'⟩
   by_cases hlt:i<eso.size
   ·rw [show eso.size-i=(eso.size-(i+1))+1 by omega,List.range'_succ] at hr
    injection hr with h1 h2
    subst h1;refine wpAny_bind (wpAny_dictEntries hoo' hdo' ?_);have hy:ys[x]?=some (ys[x]'(by omega)):=List.getElem?_eq_getElem _;rw [entry_at heo x,hy];generalize ys[x]'(by omega)=y at hy;have hk:(tupleKind kd).is h' y.1 y.2.1:=(tupleKind kd).keeps (hiso y (mem_of_getElem? hy)) hod hdd hs';have lz:=fold_len xs (ys.take x);have lt:(ys.take x).length<=ys.length:=by rw [length_take];omega
    refine wpAny_bind (wpAny_holding (gW (s:={ s with heap:=h' }) hu hk hd' (by omega) λ h'' hd'' hs''=>?_))
    have hoo'':h''.get? o=some oo:=(hs''.2 o (Ne.symm hdo)).trans hoo';refine wpAny_bind (wpAny_dictEpoch hoo'' hdo' ?_);rw [if_neg (by simp)];exact wpAny_pure ⟨h'',x+1,rfl,h2,hlt,by rw [nQ xs ys x y hy];exact hd'',hoo'',hs'.trans hs''⟩
   ·rw [show eso.size-i=0 by omega] at hr
    exact nomatch hr
  ·rintro b s' ⟨h',i,rfl,hr,hi,hd',hoo',hs'⟩
   have hin:i=eso.size:=by
    by_cases hlt:i<eso.size
    ·rw [show eso.size-i=(eso.size-(i+1))+1 by omega,List.range'_succ] at hr
     exact nomatch hr
    ·omega
   refine wpAny_pure (q h' ?_ hs');rw [hin,szo,take_length] at hd';exact hd'
end
end Dct
namespace Dct
set_option autoImplicit false
open PySem PySem.Spec PyProof.Rows
theorem meets_upd {prog:Program} {w:World} {κ:Type} [DecidableEq κ] (kd:KeyKind prog w κ) (d o:Addr) (hdo:d≠o) (hoS:(o == sysModules)=false) :
  MeetsIn prog w (Builtin.«dict.update» ⟨[.ref d,.ref o],[]⟩) (λ A R s=>A.in1.units<cLine/\∃ xs ys,s.heap.DictOfH (tupleKind kd) d xs/\s.heap.DictOfH (tupleKind kd) o ys/\xs.length+ys.length<=sizeLine/\(xs=[]->(ys.map λ y=>(tupleKind kd).hash y.1).Nodup) /\
   ∀ h',h'.DictOfH (tupleKind kd) d (fold xs ys)->Heap.SameBut d s.heap h'->R (.ok (.ret .none)) { s with heap:=h' }) :=
 .of_wp λ A R s ⟨hu,xs,ys,hd,ho,hz,hh,h⟩=>by
  unfold Builtin.«dict.update»;refine wpAny_bind ?_;unfold Builtin.Dict.selfAndRest;refine wpAny_bind (wpAny_notOrdered_dict hd.typeIs ?_);refine wpAny_pure (show wpAny _ _ (Builtin.Dict.updateFrom "dict.update" d (.ref o) [] .none) _ _ s from ?_);unfold Builtin.Dict.updateFrom;refine wpAny_bind (wpAny_typeOf ho.typeIs ?_);rw [if_neg (by decide)];refine wpAny_bind ?_;unfold Builtin.Dict.merge;refine wpAny_bind ?_;unfold Builtin.Dict.readDirectly;refine wpAny_bind (wpAny_isInstance ho.typeIs isSubtype_dict_dict ?_);simp only [Bool.not_true,Bool.false_eq_true,if_false];refine wpAny_bind (wpAny_specialOf ho.typeIs F.slot_dict_iter.lookup (wpAny_pure ?_));simp only [beq_self_eq_true,if_true];refine wpAny_bind (wpAny_pure (kDH hu hdo hoS hd ho hz hh λ h' hd' hs'=>?_));refine show wpAny _ _ (Builtin.Dict.addKeywords d [] >>= _) _ _ _ from ?_;exact wpAny_bind (wpAny_pure (wpAny_pure ⟨.none,rfl,h h' hd' hs'⟩))
end Dct
namespace L2
open PySem PySem.Spec PyProof.Rows
section
variable {X:Cx} {pins:List (Addr×Obj)} {σ:St} {H:Hp} {s:Shared} {a:Addr} {y v:V} {u r:Value} {o:Option V} {A:Around} {E:Value->Shared->Prop}
theorem kDW {H':Hp} {Q:Unit->Shared->Prop} (hu:A.units<cLine) (I:Inv X pins σ H s) (g:DPut H a y v H') (ry:RelV y u) (rv:RelV v r) (h:∀ s',Inv X pins σ H' s'->Q () s') :
  wpAny (model X.prog X.w) A (dictSet a u r) Q E s:=by
 rcases g with ⟨kvs,k,e,ey,l,eH⟩ | ⟨kvs,k,b,e,ey,eb,l,eH⟩
 ·subst ey eH
  obtain ⟨z,hd,vs,rel,dd⟩:=kJT I.hok e;refine wpAny_dictSet_pairs (hsz:=by rw [<-rel.length];exact z) (sA ry) dd λ h' dd' hs=>h _ ?_;exact cN I (by rw [e];exact True.intro) hs (let ⟨q,_,_,hq,_⟩:=dd';⟨q,hq⟩) (kGW (by have:=yU kvs k v;omega) hd (rel.put k rv) dd')
 ·subst ey eH
  cases (show u=Value.ref b from ry)
  obtain ⟨z,hd,xs,rel,dd⟩:=kBX I.hok e;refine wpAny_dictSet_heap (hsz:=by rw [<-Paired.length rel];exact z) hu (lM I.hok eb) dd λ h' dd' hs=>h _ ?_;obtain ⟨q,es,ep,hq,h2,h3,h4,_,h5⟩:=dd';refine cN I (by rw [e];exact True.intro) hs ⟨q,hq⟩ ⟨by have:=yU kvs k v;omega,hd,_,(rel.put k eb rv).keeps λ c ys ec=>?_,q,es,ep,hq,h2,h3,h4,h5⟩;rw [kK (yA ec e (λ z=>nomatch z))];exact ec
end
def kOA (D:Addr) (tk tv:TE):TB:=λ N σ H=>tk σ H λ y H1=>tv σ H1 λ v H2=>∃ H3,DPut H2 D y v H3/\N σ H3
theorem kBM {X:Cx} {kx vx:Expr} {tk tv:TE} {D:Addr} (hu:X.A.units+1<cLine) (hk:PE X kx tk) (hv:PE X vx tv):PBd X (sN kx vx X.env (.ref D)) (kOA D tk tv):=by
 intro pins s σ H N I h;unfold sN;refine wpAny_bind (thn (hk pins s σ H _ I h) λ ku s1 ⟨y,H1,I1,r1,q1⟩=>?_);refine wpAny_bind (wpAny_holding (thn (hv pins s1 σ H1 _ I1 q1) λ vu s2 ⟨x,H2,I2,r2,H3,g,q2⟩=>?_));exact wpAny_bind (wpAny_standAt (wpAny_holding (kDW (by omega) I2 g r1 r2 λ s3 I3=>⟨σ,H3,I3,q2⟩)))
section
variable {X:Cx} {tg iter kx vx:Expr} {ifs:List Expr} {sc:Scope} {pos:Pos} {Nc:List Str} {js:List (Option Nat)} {wi:TI}
def kOM (js:List (Option Nat)) (wi:TI) (g:TG) (bd:Addr->TB):TE:=λ σ H Q=>wi σ H λ J H1=>∀ D,H1 D=none->uG J g (bd D) (λ _ H'=>Q (.ref D) H') (dY js σ) (upd H1 D (.dT []))
theorem kBL {g:TG} {bd:Addr->TB} (hx:X.xe=λ _ _=>False) (hc:X.calm=true) (hi:PI X tg iter wi) (S:CS sc X.env.scope) (cap:fE js Nc X.N sc.names=true)
  (hg:∀ C s₂ H₂ fp pins,PG (cxC X Nc sc C s₂ H₂ fp pins) tg g)
  (hb:∀ C s₂ H₂ fp pins D L,PTl (cxC X Nc sc C s₂ H₂ fp pins) (zC ifs (cxC X Nc sc C s₂ H₂ fp pins).env (sN kx vx (cxC X Nc sc C s₂ H₂ fp pins).env (.ref D)) L) L (bd D))
  (hs:∀ x,foldedSetIterable iter X.env x=pure x:=by intro _;rfl) :
  PE X (.DictComp kx vx [⟨tg,iter,ifs,0⟩] sc pos) (kOM js wi g bd):=by
 intro pins s σ H Q I h;rw [arm_eval_DictComp];have hcl:closureFor sc X.env=pure (cO sc X.env):=wY λ y hy hf=>I.ok.has y.1 (.inl (S.free y hy hf));refine wpAny_comprehension_free (use:=none) rfl hs hcl S.kind S.names (thn (hi pins s σ H _ I h) λ v s1 h1=>thn h1 λ itv s2 h2=>?_);obtain ⟨it,fp,tn,J,H2,e,I2,T,st2,f2,hw⟩:=h2;subst e;have hlt:∀ b∈fp,b<s2.heap.objs.size:=λ b hb=>let ⟨o,ho,_⟩:=T.obj _ _ st2 b hb;Heap.lt_size ho;refine wpAny_newObj_type (wpAny_newFunctionEnv S.nocell (by intro y hy;simp at hy) (λ h₁ hns₁ hsb₁=>?_) S.kind);dsimp only at hns₁ hsb₁ ⊢;generalize hH2:s2.heap.push { cls:=.type "dict",dict:=none,data:=.dict #[] }=G at hns₁ hsb₁ ⊢;have hCs:G.objs.size=s2.heap.objs.size+1:=by rw [<-hH2,Heap.size_push]
 have hDC:s2.heap.objs.size≠G.objs.size:=by omega
 have hCle:s2.heap.objs.size<=G.objs.size:=by omega
 have old:∀ b o,s2.heap.get? b=some o->h₁.get? b=some o:=λ b o e=>hsb₁.extBut b o (Nat.ne_of_lt (Nat.lt_of_lt_of_le (Heap.lt_size e) hCle)) (Heap.get?_push_of_some _ (hH2 ▸ Heap.get?_push_of_some _ e));have hacc:h₁.get? s2.heap.objs.size=some { cls:=.type "dict",dict:=none,data:=.dict #[] }:=hsb₁.extBut _ _ hDC (Heap.get?_push_of_some _ (hH2 ▸ Heap.get?_push_size _ rfl))
 have new:ObjOk X.prog X.w (upd H2 s2.heap.objs.size (.dT [])) h₁ s2.heap.objs.size (.dT []):=by
  exact ⟨Nat.zero_le _,beq_eq_false_iff_ne.mpr (Ne.symm (Nat.ne_of_lt I2.big)),[],.nil,_,_,_,hacc,⟨rfl,rfl,rfl⟩,rfl,rfl,nodup_nil⟩
 have I4:=uU (js:=js) (Nc:=Nc) (tk:=s2.toks+([]:List (Str×Value)).length) I2 S f2 hlt cap hCle (Nat.le_refl _) hDC old hns₁ new;have hn:H2 s2.heap.objs.size=none:=I2.fresh
 have f4:∀ b∈fp,vU (cxC X Nc sc G.objs.size s2 H2 fp pins) [] (upd H2 s2.heap.objs.size (.dT [])) b:=λ b hb=>by
  obtain ⟨h0,h1,h2,h3,h4,h5⟩:=f2 b hb;refine ⟨?_,Nat.ne_of_lt (Nat.lt_of_lt_of_le (hlt b hb) hCle),λ z=>?_,.inl hb,λ x c z=>?_,λ p hp=>?_⟩
  ·rw [kK (Nat.ne_of_lt (hlt b hb))];exact h0
  ·rcases mem_cons.mp (I2.stkSub b z) with q | q
   ·exact h1 q
   ·exact h2 q
  ·exact h4 x c (fD sc.names [] (λ z=>nomatch z) z)
  ·rcases mem_append.mp hp with z | z
   ·exact h5 p z
   ·exact absurd z (by simp)
 have st4:tn 0 h₁:=T.keep _ _ _ st2 λ b hb o e=>old b o e
 have loop:codeAny (model X.prog X.w) X.A (.compLoop (.DictComp kx vx [⟨tg,iter,ifs,0⟩] sc pos) 0 (.ref it) (.ref s2.heap.objs.size) (compEnvC sc (cO sc X.env) G.objs.size X.env))
   (compPost (model X.prog X.w) X.A X.xe none (EP X pins σ Q) (.ref s2.heap.objs.size) G.objs.size) { s2 with heap:=h₁,toks:=s2.toks+([]:List (Str×Value)).length }:=by
  refine wL (X:=cxC X Nc sc G.objs.size s2 H2 fp pins) (.inr ⟨kx,vx,rfl⟩) hx hc (kBD _ _ _ _ _ _ _ _ _ _) T (hg _ _ _ _ _) (hb _ _ _ _ _ _ _) I4 st4 f4 (hw _ hn) λ σ' H' s' I' q=>?_;obtain ⟨m',hm',_⟩:=I'.loc;exact ⟨m',hm',λ h' hs'=>⟨.ref s2.heap.objs.size,H',uV I2 f2 hCle I' hs',rfl,q⟩⟩
 exact zM (.inr ⟨kx,vx,rfl⟩) rfl rfl loop (T.self _ _ _ _ _ st4 loop)
def zB (kvs more:List (List Key×V)):List (List Key×V):=more.foldl (λ acc y=>zS acc y.1 y.2) kvs
theorem KT.fold {H:Hp}:∀ {more:List (List Key×V)} {ys:List (List Key×Addr×Value)} {kvs:List (List Key×V)} {xs:List (List Key×Addr×Value)},KT H kvs xs->KT H more ys->KT H (zB kvs more) (Dct.fold xs ys)
 | [],_,_,_,r,.nil=>r
 | p::more,_,kvs,xs,r,.cons (b:=q) z t=>by
  have:=KT.fold (KT.put r q.1 (b:=q.2.1) (y:=p.2) (u:=q.2.2) (by rw [<-z.1];exact z.2.1) z.2.2) t;rw [<-z.1] at this;unfold zB at *;unfold Dct.fold at *;rw [foldl_cons,foldl_cons,<-z.1];exact this
def kHG (k:List Key):Prop:=∃ p q:Nat,k=[Sum.inl (p:Int),Sum.inl (q:Int)]/\p<42/\q<42
theorem kIX {prog:Program} {w:World}:∀ {ys:List (List Key×Addr×Value)},(∀ y∈ys,kHG y.1)->(ys.map (·.1)).Nodup->(ys.map λ y=>(tupleKind (qT prog w)).hash y.1).Nodup:=by
 intro ys hp nd;have:ys.map (λ y=>(tupleKind (qT prog w)).hash y.1)=(ys.map (·.1)).map (tupleKind (qT prog w)).hash:=by rw [map_map];rfl
 rw [this];refine pairwise_map.mpr (nd.imp_of_mem λ {a b} ha hb ne e=>ne ?_);obtain ⟨x,hx,rfl⟩:=mem_map.mp ha;obtain ⟨y,hy,rfl⟩:=mem_map.mp hb;obtain ⟨p,q,e1,p1,q1⟩:=hp x hx;obtain ⟨p',q',e2,p2,q2⟩:=hp y hy;rw [e1,e2] at e ⊢
 have:Hsh.hp p q=Hsh.hp p' q':=by
  unfold Hsh.hp;exact congrArg (λ z:Int=>(z+2 ^ 63).toNat) e
 obtain ⟨rfl,rfl⟩:=Hsh.hp_inj p1 q1 p2 q2 this
 rfl
def kMZ:V->List V->Hp->VK->Prop:=λ x vs H Q=>∃ (a b:Addr) (kvs more:List (List Key×V)),x=.ref a/\vs=[.ref b]/\a≠b/\H a=some (.dT kvs)/\H b=some (.dT more)/\(∀ y∈more,kHG y.1)/\kvs.length+more.length<=sizeLine/\Q .non (upd H a (.dT (zB kvs more)))
theorem kIM (hu:X.A.units+1<cLine):MtM X "dict.update" kMZ:=by
 intro pins s σ H x vs v us Q I rx rv h;obtain ⟨a,b,kvs,more,rfl,rfl,ab,ha,hb,hp,hz,q⟩:=h;cases rx
 obtain ⟨u,rfl,ru⟩:=rv.one;cases ru
 obtain ⟨za,hda,xs,ra,da⟩:=kBX I.hok ha;obtain ⟨zb,hdb,ys,rb,db⟩:=kBX I.hok hb
 have hp':∀ y∈ys,kHG y.1:=by
  have:∀ {l:List (List Key×V)} {m:List (List Key×Addr×Value)},KT H l m->(∀ y∈l,kHG y.1)->∀ y∈m,kHG y.1:=by
   intro l m r
   induction r with
   | nil=>intro _ y hy;exact nomatch hy
   | @cons p1 q1 ps qs z t ih =>
    intro hl y hy;rcases mem_cons.mp hy with rfl | hy
    ·rw [<-z.1]
     exact hl _ (mem_cons_self ..)
    ·exact ih (λ y h=>hl y (mem_cons_of_mem _ h)) y hy
  exact this rb hp
 have nd:(ys.map (·.1)).Nodup:=let ⟨_,_,_,_,_,_,_,_,n⟩:=db;n;have lx:=Paired.length ra;have ly:=Paired.length rb;refine call_meetsIn PySem.F.slot_dict_update da.typeIs PySem.F.entry_dict_update (PySem.F.args_dict_update_2 _ _) (Dct.meets_upd (qT X.prog X.w) a b ab hdb) ⟨tupleKind_room_in1 (knd:=qT X.prog X.w) hu,xs,ys,da,db,by omega,λ _=>kIX hp' nd,λ h' dd' hs=>?_⟩;obtain ⟨qo,es,ep,hq,h2,h3,h4,_,h5⟩:=dd';have lf:=Paired.length (KT.fold ra rb);have lz:=Dct.fold_len xs ys;refine ⟨.non,upd H a (.dT (zB kvs more)),cN (t':=s.toks) I (by rw [ha];exact True.intro) hs ⟨qo,hq⟩ ⟨by omega,hda,_,(KT.fold ra rb).keeps λ c zs ec=>?_,qo,es,ep,hq,h2,h3,h4,h5⟩,rfl,q⟩;rw [kK (yA ec ha (λ z=>nomatch z))];exact ec
end
section
variable {X:Cx}
end
section
variable {X:Cx}
end
section
variable {prog:Program} {w:World} {A:Around} {E:Value->Shared->Prop} {s:Shared} {z TI TO i1 i2:Addr} {fp1 fp2:List Addr} {n1 n2 j:Nat} {P1 P2:Nat->Value->Prop} {S1 S2:Nat->Heap->Prop} {a b:Value}
end
section
variable {X:Cx}
end
end L2
namespace HT
open PySem PySem.Spec PyProof.Rows
section
variable {prog:Program} {w:World} {A:Around} {E:Value->Shared->Prop} {s:Shared}
theorem cat_tup0 {t b:Addr} {ws:List Value} {Q:Value->Shared->Prop} (ht:IsTup s.heap t ([]:List Value).toArray) (hb:IsTup s.heap b ws.toArray) (h:Q (.ref b) s):wpAny (model prog w) A (binaryOp .Add (.ref t) (.ref b)) Q E s:=by
 obtain ⟨⟨cls,dd,data,sl⟩,ho,hc,n,hd⟩:=id ht;obtain ⟨⟨cls2,dd2,data2,sl2⟩,ho2,hc2,n2,hd2⟩:=id hb;simp only at hc hd hc2 hd2;subst hc hd hc2 hd2
 exact concat_meets ⟨_,ho,rfl⟩ ⟨_,ho2,rfl⟩ noFill_tuple_add seq_tuple_add PySem.F.slot_tuple_add PySem.F.entry_tuple_add (PySem.F.args_tuple_add_2 _ _)
   (tuple_addW0 t b _ ws.toArray n n2 dd dd2 sl sl2 (by simp)) ⟨ho,ho2,h⟩
end
end HT
namespace L2
open PySem PySem.Spec PyProof.Rows
def kMO (H H':Hp):Prop:=∀ b o,H b=some o->H' b=some o
section
variable {X:Cx}
theorem sE {H:Hp} {p:Addr} (h:H p=none) (o:HO):kMO H (upd H p o):=λ b u q=>by rw [kK (kL q h)];exact q
def kNA (K:PySem.W.Frag):V->Option Int->Option Int->Hp->VK->Prop:=λ x lo hi H Q=>∃ a xs,x=.ref a/\H a=some (.tup xs)/\∀ p H',kMO H H'->H' p=some (.tup (uJ xs lo hi))->Q (.ref p) H'
theorem kBH:SlR X (kNA X.K):=by
 intro pins s σ H x v vl vu lo hi sl Q I rx hs pl pu h;obtain ⟨a,xs,rfl,hx,q⟩:=h;refine bO pins s σ H _ v vl vu lo hi sl Q I rx hs pl pu ?_;by_cases c:HT.sIx xs.length 0 lo=0/\HT.sIx xs.length xs.length hi=xs.length
 ·refine .inr ⟨a,xs,rfl,SqT.of hx,c,q a H (λ _ _ e=>e) ?_⟩
  rw [hx];unfold uJ;rw [c.1,c.2];simp
 ·exact .inl ⟨a,xs,rfl,SqT.of hx,c,λ p np=>q p _ (sE np _) kC⟩
def kNH (K:PySem.W.Frag):R2:=λ x y H Q=>∃ a b xs ys,x=.ref a/\y=.ref b/\H a=some (.tup xs)/\H b=some (.tup ys)/\xs.length+ys.length<=sizeLine/\∀ p H',kMO H H'->H' p=some (.tup (xs++ys))->Q (.ref p) H'
theorem kIG:OpR X (binaryOp .Add) (kNH X.K):=by
 intro pins s σ H x y v u Q I rx ry h;obtain ⟨a,b,xs,ys,rfl,rfl,ha,hb,hz,q⟩:=h;by_cases c:xs=[]
 ·subst c
  cases rx
  cases ry
  obtain ⟨its,r1,p1,_⟩:=I.tuple (SqT.of (K:=X.K) ha);obtain ⟨its2,r2,p2,_⟩:=I.tuple (SqT.of (K:=X.K) hb);cases r1
  exact HT.cat_tup0 p1 p2 ⟨.ref b,H,I,rfl,q b H (λ _ _ e=>e) (by simpa using hb)⟩
 ·refine fT pins s σ H _ _ v u Q I rx ry ⟨a,b,xs,ys,rfl,rfl,SqT.of ha,SqT.of hb,c,hz,λ e=>q a H (λ _ _ z=>z) (by rw [e,append_nil];exact ha),λ _ p np=>q p _ (sE np _) kC⟩
end
theorem kCK {k:Bool} {K:PySem.W.Frag} {a:Addr} {xs:List V} {g:TG} {b:TB} {N0:St->Hp->Prop} {σ:St} {H:Hp} (Pv:Nat->St->Hp->Prop) (h0:Pv 0 σ H) (hl:∀ i σ H,i<=xs.length->Pv i σ H->SqX K k H a xs)
  (hs:∀ i x T σ H,xs[i]?=some x->H T=none->Pv i σ H->g (.ref T) σ (upd H T (.tup [.int i,x])) λ σ2 H2=>b (Pv (i+1)) σ2 H2) (hd:∀ σ H,Pv xs.length σ H->N0 σ H):uG (Ite k K a) g b N0 σ H:=by
 refine ⟨λ i m σ H=>m=xs.length-i/\i<=xs.length/\Pv i σ H,⟨xs.length,by simp,Nat.zero_le _,h0⟩,?_⟩;rintro i m σ H ⟨rfl,hle,p⟩;have q1:=hl i σ H hle p;rcases Nat.lt_or_ge i xs.length with hi | hi
 ·refine .inr ⟨⟨xs,xs[i],q1,by simp [hi]⟩,Pv (i+1),λ σ' H' q=>⟨xs.length-(i+1),by omega,rfl,by omega,q⟩,λ x H' hy=>?_⟩
  obtain ⟨T,x1,nT,rfl,e1,rfl⟩:=hy;exact hs i x1 T σ H (e1 xs q1) nT p
 ·obtain rfl:i=xs.length:=by omega
  exact .inl ⟨⟨xs,q1,rfl⟩,hd σ H p⟩
section
variable {X:Cx}
end
end L2
namespace Fc
open Cyc Rnd Tri
def mgN (a b x:Nat):Nat:=if x=b then a else x
def goL (m:List Nat) (ls:List (Nat×Nat)):List Nat:=ls.foldl (λ m l=>m.map (mgN (m.getD l.1 0) (m.getD l.2 0))) m
theorem cG (m:List Nat) (l:Nat×Nat) (ls:List (Nat×Nat)):goL m (l::ls)=goL (m.map (mgN (m.getD l.1 0) (m.getD l.2 0))) ls:=rfl
theorem kBU:∀ (ls:List (Nat×Nat)) (m:List Nat),(goL m ls).length=m.length
 | [],_=>rfl
 | l::ls,m=>by rw [cG,kBU ls,length_map]
theorem nN:∀ (ls:List (Nat×Nat)) (m:List Nat) (c:Nat),(∀ x∈goL m ls,x=c)->∃ V:List Nat,V.length<=ls.length+1/\∀ x∈m,x∈V
 | [],m,c,h=>⟨[c],by simp,λ x hx=>by rw [h x hx];simp⟩
 | l::ls,m,c,h=>by
  rw [cG] at h;obtain ⟨V,h1,h2⟩:=nN ls _ c h;refine ⟨m.getD l.2 0::V,by simp;omega,λ x hx=>?_⟩;have:=h2 _ (mem_map.mpr ⟨x,hx,rfl⟩);unfold mgN at this
  split at this
  ·rename_i e
   rw [e];exact mem_cons_self ..
  ·exact mem_cons_of_mem _ this
theorem bZ {m:List Nat} {f:Nat->Nat} {i:Nat} (h:i<m.length):(m.map f).getD i 0=f (m.getD i 0):=by
 rw [getD_eq_getElem?_getD,getD_eq_getElem?_getD,List.getElem?_map,List.getElem?_eq_getElem h]
 rfl
theorem sF:∀ (ls:List (Nat×Nat)) (m:List Nat) (i j:Nat),i<m.length->j<m.length->m.getD i 0=m.getD j 0->(goL m ls).getD i 0=(goL m ls).getD j 0
 | [],_,_,_,_,_,h=>h
 | l::ls,m,i,j,hi,hj,h=>by
  rw [cG];refine sF ls _ i j (by rw [length_map];exact hi) (by rw [length_map];exact hj) ?_;rw [bZ hi,bZ hj,h]
theorem sH:∀ (ls:List (Nat×Nat)) (m:List Nat) (i j:Nat),i<m.length->j<m.length->(i,j)∈ls->(goL m ls).getD i 0=(goL m ls).getD j 0
 | l::ls,m,i,j,hi,hj,h=>by
  rw [cG];have hi':i<(m.map (mgN (m.getD l.1 0) (m.getD l.2 0))).length:=by rw [length_map];exact hi
  have hj':j<(m.map (mgN (m.getD l.1 0) (m.getD l.2 0))).length:=by rw [length_map];exact hj
  rcases mem_cons.mp h with e | h
  ·refine sF ls _ i j hi' hj' ?_
   rw [<-e,bZ hi,bZ hj];unfold mgN;simp only
   split<;>simp
  ·exact sH ls _ i j hi' hj' h
theorem lI {F:Nat} {ls:List (Nat×Nat)} (rng:∀ l∈ls,l.1<F/\l.2<F) (all:∀ m:List Nat,m.length=F->(∀ l∈ls,m.getD l.1 0=m.getD l.2 0)->∀ i,i<F->m.getD i 0=m.getD 0 0):F<=ls.length+1:=by
 have hl:=kBU ls (List.range F);rw [length_range] at hl;have a:=all (goL (List.range F) ls) hl λ l hl'=>sH ls _ l.1 l.2 (by rw [length_range];exact (rng l hl').1) (by rw [length_range];exact (rng l hl').2) hl'
 obtain ⟨V,h1,h2⟩:=nN ls (List.range F) ((goL (List.range F) ls).getD 0 0) λ x hx=>by
  obtain ⟨i,hi,rfl⟩:=mem_iff_getElem.mp hx;rw [<-a i (by omega),getD_eq_getElem?_getD,List.getElem?_eq_getElem hi]
  rfl
 have:=List.Nodup.length_le_of_subset List.nodup_range h2;rw [length_range] at this;omega
def RN (W:Rows):Nat->Nat->Prop
 | 0,v=>v=0
 | k+1,v=>∃ u,RN W k u/\E W u v
theorem kMW {W:Rows} {v:Nat} (h:Reach W 0 v):∃ k,RN W k v:=by
 induction h with
 | here=>exact ⟨0,rfl⟩
 | more _ e ih =>
  obtain ⟨k,hk⟩:=ih;exact ⟨k+1,_,hk,e⟩
theorem kBP {p:Nat->Prop} (h:∃ k,p k):∃ k,p k/\∀ j,j<k->¬ p j:=by
 obtain ⟨k,hk⟩:=h
 induction k using Nat.strongRecOn with
 | _ k ih =>
  by_cases c:∃ j,j<k/\p j
  ·obtain ⟨j,hj,hp⟩:=c
   exact ih j hj hp
  ·exact ⟨k,hk,λ j hj hp=>c ⟨j,hj,hp⟩⟩
structure Tree (W:Rows) (par dist:Nat->Nat):Prop where
 e:∀ v,v<W.length->v≠0->E W (par v) v
 d:∀ v,v<W.length->v≠0->dist (par v)+1=dist v
theorem kHI {W:Rows} (con:∀ p,p<W.length->Reach W 0 p):∃ par dist,Tree W par dist:=by
 have h1:∀ v,∃ k,v<W.length->RN W k v/\∀ j,j<k->¬ RN W j v:=λ v=>by
  by_cases c:v<W.length
  ·obtain ⟨k,hk⟩:=kBP (kMW (con v c))
   exact ⟨k,λ _=>hk⟩
  ·exact ⟨0,λ z=>absurd z c⟩
 have hd:=λ v=>Classical.choose_spec (h1 v);generalize hD:(λ v=>Classical.choose (h1 v))=dist at *
 have hd:∀ v,v<W.length->RN W (dist v) v/\∀ j,j<dist v->¬ RN W j v:=λ v hv=>by
  rw [<-hD];exact hd v hv
 have h2:∀ v,∃ u,v<W.length->v≠0->E W u v/\dist u+1=dist v:=λ v=>by
  by_cases c:v<W.length/\v≠0
  ·obtain ⟨a,b⟩:=hd v c.1
   cases e:dist v with
   | zero =>
    rw [e] at a;exact absurd a c.2
   | succ k =>
    rw [e] at a b;obtain ⟨u,hu,eu⟩:=a
    have ul:u<W.length:=by
     obtain ⟨row,er,_⟩:=eu;exact (List.getElem?_eq_some_iff.mp er).1
    obtain ⟨a',b'⟩:=hd u ul;refine ⟨u,λ _ _=>⟨eu,?_⟩⟩;have q1:¬ k<dist u:=λ z=>b' k z hu;have q2:¬ dist u+1<k+1:=λ z=>b _ z ⟨u,a',eu⟩;omega
  ·exact ⟨0,λ z1 z2=>absurd ⟨z1,z2⟩ c⟩
 exact ⟨λ v=>Classical.choose (h2 v),dist,λ v h n=>(Classical.choose_spec (h2 v) h n).1,λ v h n=>(Classical.choose_spec (h2 v) h n).2⟩
theorem vG {row:List Nat} (nd:row.Nodup) {P:Nat->Prop} {y w0:Nat} (hy:y∈row) (h0:w0∈row) (p0:P w0) (st:∀ w v,w∈row->w≠y->jG row w=some v->P w->P v):P y:=by
 obtain ⟨jy,hj,rfl⟩:=mem_iff_getElem.mp hy;obtain ⟨i0,hi,rfl⟩:=mem_iff_getElem.mp h0;have idx:∀ i (h:i<row.length),row.idxOf row[i]=i:=λ i h=>(List.getElem_inj nd).mp (List.getElem_idxOf (idxOf_lt_length_of_mem (getElem_mem h)));have ne:∀ i (h:i<row.length),i≠jy->row[i]≠row[jy]:=λ i h n z=>n ((List.getElem_inj nd).mp z)
 have step:∀ i (h:i+1<row.length),i+1≠jy->P row[i+1]->P row[i]:=λ i h n p=>by
  refine st _ _ (getElem_mem h) (ne _ h n) ?_ p;unfold jG;rw [idx _ h,if_neg (by omega),show i+1-1=i by omega,List.getElem?_eq_getElem (by omega)]
 have wrap:∀ (h:0<row.length),0≠jy->P row[0]->P (row[row.length-1]'(by omega)):=λ h n p=>by
  refine st _ _ (getElem_mem h) (ne _ h n) ?_ p;unfold jG;rw [idx _ h,if_pos rfl,List.getLast?_eq_getElem?,List.getElem?_eq_getElem (by omega)]
 have down:∀ k i (h:i+k<row.length),(∀ t,i<t->t<=i+k->t≠jy)->P row[i+k]->P (row[i]'(by omega)):=λ k=>by
  induction k with
  | zero=>exact λ i h _ p=>p
  | succ k ih =>
   intro i h n p;exact ih i (by omega) (λ t h1 h2=>n t h1 (by omega)) (step (i+k) (by omega) (n _ (by omega) (by omega)) p)
 rcases Nat.lt_or_ge i0 jy with c | c
 ·have a:=down i0 0 (by omega) (λ t h1 h2=>by omega) (by simpa using p0)
  have b:=wrap (by omega) (by omega) a;have:=down (row.length-1-jy) jy (by omega) (λ t h1 h2=>by omega) (by simpa [show jy+(row.length-1-jy)=row.length-1 by omega] using b);exact this
 ·have:=down (i0-jy) jy (by omega) (λ t h1 h2=>by omega) (by simpa [show jy+(i0-jy)=i0 by omega] using p0)
  exact this
section
variable {W:Rows} {par dist:Nat->Nat}
theorem pW (dist:Nat->Nat):∀ n:Nat,∃ N,∀ v,v<n->dist v<=N
 | 0=>⟨0,λ v h=>by omega⟩
 | n+1=>by
  obtain ⟨N,h⟩:=pW dist n;refine ⟨max N (dist n),λ v hv=>?_⟩;rcases Nat.lt_or_ge v n with c | c
  ·have:=h v c
   omega
  ·rw [show v=n by omega]
   omega
theorem kEM (S:Nb W) (T:Tree W par dist) (P:Nat->Nat->Prop) (c1:∀ x y v,E W x y->P x y->nxt W (x,y)=(y,v)->P y v)
  (c2:∀ x y,E W x y->¬ ((y≠0/\par y=x)\/(x≠0/\par x=y))->P x y->P y x) {w0:Nat} (e0:E W 0 w0) (p0:P 0 w0):∀ x y,E W x y->P x y:=by
 obtain ⟨N,hN⟩:=pW dist W.length
 have row:∀ z,z<W.length->∃ r,W[z]?=some r/\W.getD z []=r/\r.Nodup/\∀ w,w∈r↔E W z w:=λ z hz=>by
  refine ⟨W[z],List.getElem?_eq_getElem hz,by rw [getD_eq_getElem?_getD,List.getElem?_eq_getElem hz];rfl,S.nd z _ (List.getElem?_eq_getElem hz),λ w=>⟨λ m=>⟨_,List.getElem?_eq_getElem hz,m⟩,λ ⟨r,er,m⟩=>?_⟩⟩;rw [List.getElem?_eq_getElem hz] at er;cases er
  exact m
 have nx:∀ z r w v,W.getD z []=r->jG r w=some v->nxt W (w,z)=(z,v):=λ z r w v e h=>by
  show (z,(jG (W.getD z []) w).getD 0)=(z,v);rw [e,h]
  rfl
 have child:∀ k z,z<W.length->z≠0->N-dist z=k->P (par z) z->P z (par z):=λ k=>by
  induction k using Nat.strongRecOn with
  | _ k ih =>
   intro z hz z0 hk p;obtain ⟨r,er,eg,nd,mem⟩:=row z hz;have ep:=T.e z hz z0;obtain ⟨v,rv,nv,ev⟩:=wN S ep;refine vG nd (P:=λ w=>P z w) ((mem _).mpr (S.sym _ _ ep)) ((mem v).mpr ev) (c1 _ _ _ ep p nv) λ w u hw nw hu pw=>?_;have ew:=(mem w).mp hw
   have back:P w z:=by
    by_cases t:(w≠0/\par w=z)\/(z≠0/\par z=w)
    ·rcases t with ⟨w0',pw'⟩ | ⟨_,pz⟩
     ·have hwl:=(S.e ew).2.1
      have d1:=T.d w hwl w0';rw [pw'] at d1;have:=hN w hwl;have q:=ih (N-dist w) (by omega) w hwl w0' rfl (by rw [pw'];exact pw);rwa [pw'] at q
     ·exact absurd pz.symm nw
    ·exact c2 z w ew t pw
   exact c1 w z u (S.sym _ _ ew) back (nx z r w u eg hu)
 have all:∀ k v,v<W.length->dist v=k->(v=0\/True)->∀ y,E W v y->P v y:=λ k=>by
  induction k using Nat.strongRecOn with
  | _ k ih =>
   intro v hv hk _ y ey;obtain ⟨r,er,eg,nd,mem⟩:=row v hv
   have turn:∀ w u,w∈r->jG r w=some u->(v≠0->w=par v->P w v)->P v w->P v u:=λ w u hw hu hp pw=>by
    have ew:=(mem w).mp hw
    have back:P w v:=by
     by_cases t:(w≠0/\par w=v)\/(v≠0/\par v=w)
     ·rcases t with ⟨w0',pw'⟩ | ⟨v0,pv⟩
      ·have hwl:=(S.e ew).2.1
       have q:=child _ w hwl w0' rfl (by rw [pw'];exact pw);rwa [pw'] at q
      ·exact hp v0 pv.symm
     ·exact c2 v w ew t pw
    exact c1 w v u (S.sym _ _ ew) back (nx v r w u eg hu)
   by_cases v0:v=0
   ·subst v0
    exact vG nd (P:=λ w=>P 0 w) ((mem y).mpr ey) ((mem w0).mpr e0) p0 λ w u hw _ hu pw=>turn w u hw hu (λ z=>absurd rfl z) pw
   ·have ep:=T.e v hv v0
    have d1:=T.d v hv v0;have pl:=(S.e ep).1;have pp:=ih (dist (par v)) (by omega) (par v) pl rfl (.inr trivial) v ep;obtain ⟨u,ru,nu,eu⟩:=wN S ep;exact vG nd (P:=λ w=>P v w) ((mem y).mpr ey) ((mem u).mpr eu) (c1 _ _ _ ep pp nu) λ w u' hw _ hu pw=>turn w u' hw hu (λ _ e=>by rw [e];exact pp) pw
 exact λ x y exy=>all _ x (S.e exy).1 rfl (.inr trivial) y exy
end
section
variable {W:Rows} {par dist:Nat->Nat}
theorem aJ (S:Nb W):∃ R:List (Nat×Nat),R.length=(facesS W).length/\(∀ r∈R,r∈kH W)/\(∀ t∈kH W,∃ i,∃ (h:i<R.length),t∈rnd W R[i])/\∀ t i j (hi:i<R.length) (hj:j<R.length),t∈rnd W R[i]->t∈rnd W R[j]->i=j:=by
 have sub:∀ t∈stepsS W,t∈kH W:=λ t ht=>(sortP_perm _).mem_iff.mp ht;have I:=fgo_ok S (stepsS W) sub;obtain ⟨R,r1,r2,r3⟩:=I.reps
 have lf:(facesS W).length=R.length:=by
  rw [show (facesS W).length=(facesU W).length from (sortL_perm _).length_eq];show (fgo W (stepsS W)).1.length=_;rw [r2,length_map]
 have nd:=I.nd;rw [r3] at nd;have pw:=(List.pairwise_flatMap.mp nd).2;refine ⟨R,lf.symm,λ r hr=>sub r (r1 r hr),λ t ht=>?_,λ t i j hi hj h1 h2=>?_⟩
 ·have:=I.cov t ((sortP_perm _).mem_iff.mpr ht)
  rw [r3] at this;obtain ⟨r,hr,h⟩:=List.mem_flatMap.mp this;obtain ⟨i,hi,rfl⟩:=mem_iff_getElem.mp hr;exact ⟨i,hi,h⟩
 ·rcases Nat.lt_trichotomy i j with c | c | c
  ·exact absurd rfl (pairwise_iff_getElem.mp pw i j hi hj c t h1 t h2)
  ·exact c
  ·exact absurd rfl (pairwise_iff_getElem.mp pw j i hj hi c t h2 t h1)
def trP (par:Nat->Nat) (t:Nat×Nat):Bool:=decide ((t.2≠0/\par t.2=t.1)\/(t.1≠0/\par t.1=t.2))
def kt (par:Nat->Nat) (v:Nat):Nat×Nat:=if v<par v then (v,par v) else (par v,v)
theorem sZ (S:Nb W) (T:Tree W par dist):W.length-1<=((tiesS W).filter (trP par)).length:=by
 have nd:((List.range (W.length-1)).map λ v=>kt par (v+1)).Nodup:=by
  refine pairwise_map.mpr (List.pairwise_lt_range.imp_of_mem λ {a b} ha hb hab e=>?_);have ha:=mem_range.mp ha;have hb:=mem_range.mp hb;have da:=T.d (a+1) (by omega) (by omega);have db:=T.d (b+1) (by omega) (by omega);unfold kt at e
  have two:par (a+1)=b+1/\par (b+1)=a+1:=by
   split at e<;>split at e<;>injection e with e1 e2<;>omega
  rw [two.1] at da;rw [two.2] at db;omega
 have:=List.Nodup.length_le_of_subset nd (l₂:=(tiesS W).filter (trP par)) λ t ht=>by
  obtain ⟨v,hv,rfl⟩:=mem_map.mp ht;have hv:=mem_range.mp hv;have e:=T.e (v+1) (by omega) (by omega);have ne:=(S.e e).2.2;unfold kt tiesS trP;rw [mem_filter,mem_filter,mem_stepsS]
  split
  ·rename_i c
   exact ⟨⟨S.sym _ _ e,decide_eq_true c⟩,decide_eq_true (.inr ⟨by show v+1≠0;omega,rfl⟩)⟩
  ·rename_i c
   exact ⟨⟨e,decide_eq_true (by show par (v+1)<v+1;omega)⟩,decide_eq_true (.inl ⟨by show v+1≠0;omega,rfl⟩)⟩
 rw [length_map,length_range] at this;exact this
theorem lY (S:Nb W) (con:∀ p,p<W.length->Reach W 0 p) {w0:Nat} (e0:E W 0 w0):W.length+(facesS W).length<=(tiesS W).length+2:=by
 obtain ⟨par,dist,T⟩:=kHI con;obtain ⟨R,lR,rS,cov,uni⟩:=aJ S
 have hfi:∀ t,∃ i,t∈kH W->∃ (h:i<R.length),t∈rnd W R[i]:=λ t=>by
  by_cases c:t∈kH W
  ·obtain ⟨i,h,m⟩:=cov t c
   exact ⟨i,λ _=>⟨h,m⟩⟩
  ·exact ⟨0,λ z=>absurd z c⟩
 have fis:=λ t=>Classical.choose_spec (hfi t);generalize hF:(λ t=>Classical.choose (hfi t))=fi at *
 have fis:∀ t,t∈kH W->∃ (h:fi t<R.length),t∈rnd W R[fi t]:=λ t ht=>by
  subst hF;exact fis t ht
 have fnx:∀ t,t∈kH W->fi (nxt W t)=fi t:=λ t ht=>by
  obtain ⟨h1,m1⟩:=fis t ht;have hn:=vO S (rS _ (getElem_mem h1)) m1;have hs:=rnd_sub S (rS _ (getElem_mem h1)) hn;obtain ⟨h2,m2⟩:=fis _ hs;exact uni _ _ _ h2 h1 m2 hn
 have frp:∀ i (h:i<R.length),fi R[i]=i:=λ i h=>by
  have hr:=rS _ (getElem_mem h);obtain ⟨h2,m2⟩:=fis _ hr;exact uni _ _ _ h2 h m2 (rnd_self S hr)
 have st:∀ x y,E W x y->(x,y)∈kH W:=λ x y e=>mem_steps.mpr e
 have ls:R.length<=(((tiesS W).filter λ t=>!trP par t).map λ t=>(fi t,fi (t.2,t.1))).length+1:=by
  refine lI (λ l hl=>?_) λ m lm hl i hi=>?_
  ·obtain ⟨t,ht,rfl⟩:=mem_map.mp hl
   have ht:=(mem_filter.mp ht).1;unfold tiesS at ht;have e:=mem_stepsS.mp (mem_filter.mp ht).1;exact ⟨(fis t (st _ _ e)).1,(fis (t.2,t.1) (st _ _ (S.sym _ _ e))).1⟩
  ·have all:=kEM S T (λ x y=>m.getD (fi (x,y)) 0=m.getD (fi (0,w0)) 0) (λ x y v e p n=>?_) (λ x y e nt p=>?_) e0 rfl
   ·have key:∀ i,i<R.length->m.getD i 0=m.getD (fi (0,w0)) 0:=λ i hi=>by
     have e:E W R[i].1 R[i].2:=mem_steps.mp (rS _ (getElem_mem hi));have:=all _ _ e;rw [show (R[i].1,R[i].2)=R[i] from rfl,frp i hi] at this;exact this
    rw [key i hi,key 0 (by omega)]
   ·have:=fnx _ (st x y e)
    rw [n] at this;show m.getD (fi (y,v)) 0=_;rw [this];exact p
   ·show m.getD (fi (y,x)) 0=_
    have ne:=(S.e e).2.2;rcases Nat.lt_or_ge x y with c | c
    ·have:=hl (fi (x,y),fi (y,x)) (mem_map.mpr ⟨(x,y),mem_filter.mpr ⟨mem_filter.mpr ⟨mem_stepsS.mpr e,decide_eq_true c⟩,by unfold trP;rw [decide_eq_false nt];rfl⟩,rfl⟩)
     exact this.symm.trans p
    ·have nt':¬ ((x≠0/\par x=y)\/(y≠0/\par y=x)):=λ z=>nt z.symm
     have:=hl (fi (y,x),fi (x,y)) (mem_map.mpr ⟨(y,x),mem_filter.mpr ⟨mem_filter.mpr ⟨mem_stepsS.mpr (S.sym _ _ e),decide_eq_true (by show y<x;omega)⟩,by unfold trP;rw [decide_eq_false nt'];rfl⟩,rfl⟩);exact this.trans p
 have tc:=sZ S T
 have sum:((tiesS W).filter (trP par)).length+((tiesS W).filter λ t=>!trP par t).length=(tiesS W).length:=by
  have:∀ l:List (Nat×Nat),(l.filter (trP par)).length+(l.filter λ t=>!trP par t).length=l.length:=λ l=>by
   induction l with
   | nil=>rfl
   | cons t l ih =>
    rw [filter_cons,filter_cons]
    cases trP par t<;>simp<;>omega
  exact this _
 rw [length_map] at ls;have n0:=(S.e e0).1;omega
end
section
variable {W W':Rows}
theorem vY (S:Nb W) {r t u:Nat×Nat} (h:r∈kH W) (ht:t∈rnd W r) (hu:u∈rnd W r):u∈rnd W t:=by
 obtain ⟨i,rfl⟩:=(qU S h).mp ht;obtain ⟨k,rfl⟩:=(qU S h).mp hu;obtain ⟨p0,_,back,_⟩:=wT S h;have hs:=rnd_sub S h ht;refine (qU S hs).mpr ⟨k+(per W r-i % per W r),?_⟩;have lt:=Nat.mod_lt i p0;rw [bB (nxt W) r back i,<-yJ,show k+(per W r-i % per W r)+i % per W r=k+per W r by omega,yJ,back]
theorem bG (S:Nb W) {Q:List (Nat×Nat)} (sub:∀ r∈Q,r∈kH W) (pw:Q.Pairwise λ a b=>b∉rnd W a):Q.length<=(facesS W).length:=by
 obtain ⟨R,lR,rS,cov,uni⟩:=aJ S
 have hfi:∀ t,∃ i,t∈kH W->∃ (h:i<R.length),t∈rnd W R[i]:=λ t=>by
  by_cases c:t∈kH W
  ·obtain ⟨i,h,m⟩:=cov t c
   exact ⟨i,λ _=>⟨h,m⟩⟩
  ·exact ⟨0,λ z=>absurd z c⟩
 have nd:(Q.map λ t=>Classical.choose (hfi t)).Nodup:=by
  refine pairwise_map.mpr (pw.imp_of_mem λ {a b} ha hb hab e=>hab ?_);obtain ⟨h1,m1⟩:=Classical.choose_spec (hfi a) (sub a ha);obtain ⟨h2,m2⟩:=Classical.choose_spec (hfi b) (sub b hb)
  have m2':b∈rnd W R[Classical.choose (hfi a)]:=by
   simp only [e];exact m2
  exact vY S (rS _ (getElem_mem h1)) m1 m2'
 have:=List.Nodup.length_le_of_subset nd (l₂:=List.range R.length) λ x hx=>by
  obtain ⟨t,ht,rfl⟩:=mem_map.mp hx;exact mem_range.mpr (Classical.choose_spec (hfi t) (sub t ht)).1
 rw [length_map,length_range,lR] at this;exact this
theorem tS {p q:Nat} (h:Rest W W' p q) {x y:Nat} (e:E W x y) (n1:¬ (x=p/\y=q)) (n2:¬ (x=q/\y=p)):E W' x y:=by
 obtain ⟨row,er,m⟩:=e;by_cases c1:x=p
 ·subst c1
  obtain ⟨a,ea,ro⟩:=h.rp row er;exact ⟨a,ea,(ro.mem _).mp (mem_filter.mpr ⟨m,by simpa using λ z=>n1 ⟨rfl,z⟩⟩)⟩
 ·by_cases c2:x=q
  ·subst c2
   obtain ⟨a,ea,ro⟩:=h.rq row er;exact ⟨a,ea,(ro.mem _).mp (mem_filter.mpr ⟨m,by simpa using λ z=>n2 ⟨rfl,z⟩⟩)⟩
  ·exact ⟨row,by rw [h.ro x c1 c2];exact er,m⟩
theorem kBI {p q:Nat} (h:Rest W W' p q) {r:Nat×Nat} (hr:r∈kH W) (n1:(p,q)∉rnd W r) (n2:(q,p)∉rnd W r):∀ j,it (nxt W') j r=it (nxt W) j r
 | 0=>rfl
 | j+1=>by
  show nxt W' (it (nxt W') j r)=nxt W (it (nxt W) j r);rw [kBI h hr n1 n2 j];have m1:it (nxt W) j r∈rnd W r:=(qU h.wb hr).mpr ⟨j,rfl⟩;have m2:=vO h.wb hr m1;have ms:=rnd_sub h.wb hr m1;generalize it (nxt W) j r=t at *;obtain ⟨x,y⟩:=t;obtain ⟨z,rz,nz,_⟩:=wN h.wb (mem_steps.mp ms);rw [nz] at m2 ⊢;refine vH h.nb'.nd (h.r1 rz ?_ ?_ ?_ ?_)
  ·rintro ⟨rfl,rfl⟩;exact n1 m2
  ·rintro ⟨rfl,rfl⟩;exact n2 m2
  ·rintro ⟨rfl,rfl⟩;exact n1 m1
  ·rintro ⟨rfl,rfl⟩;exact n2 m1
theorem tR {p q u:Nat} (h:Rest W W' p q) (uq:u≠q) (eu:E W u p) (nu:nxt W (u,p)=(p,q)):(facesS W).length<=(facesS W').length+1:=by
 have S:=h.wb;obtain ⟨R,lR,rS,cov,uni⟩:=aJ S;obtain ⟨i1,l1,m1⟩:=cov (p,q) (mem_steps.mpr h.e);obtain ⟨i2,l2,m2⟩:=cov (q,p) (mem_steps.mpr (S.sym _ _ h.e));obtain ⟨i3,l3,m3⟩:=cov (u,p) (mem_steps.mpr eu);have e3:i3=i1:=uni (p,q) i3 i1 l3 l1 (by have:=vO S (rS _ (getElem_mem l3)) m3;rwa [nu] at this) m1;have up:u≠p:=λ z=>(S.e eu).2.2 z.symm;have eu':E W' u p:=tS h eu (λ z=>up z.1) (λ z=>uq z.1);have far:∀ k (hk:k<R.length),k≠i1->k≠i2->(p,q)∉rnd W R[k]/\(q,p)∉rnd W R[k]:=λ k hk n1 n2=>⟨λ z=>n1 (uni _ _ _ hk l1 z m1),λ z=>n2 (uni _ _ _ hk l2 z m2)⟩
 have st':∀ k (hk:k<R.length),k≠i1->k≠i2->R[k]∈kH W':=λ k hk n1 n2=>by
  have hr:=rS _ (getElem_mem hk);obtain ⟨f1,f2⟩:=far k hk n1 n2;have self:=rnd_self S hr;generalize R[k]=t at *;obtain ⟨x,y⟩:=t;refine mem_steps.mpr (tS h (mem_steps.mp hr) ?_ ?_)
  ·rintro ⟨rfl,rfl⟩;exact f1 self
  ·rintro ⟨rfl,rfl⟩;exact f2 self
 have sub':∀ k (hk:k<R.length),k≠i1->k≠i2->∀ t,t∈rnd W' R[k]->t∈rnd W R[k]:=λ k hk n1 n2 t ht=>by
  obtain ⟨j,e⟩:=(qU h.nb' (st' k hk n1 n2)).mp ht;obtain ⟨f1,f2⟩:=far k hk n1 n2;rw [kBI h (rS _ (getElem_mem hk)) f1 f2] at e;exact (qU S (rS _ (getElem_mem hk))).mpr ⟨j,e⟩
 have gd:∀ k (hk:k<R.length),R.getD k (0,0)=R[k]:=λ k hk=>by rw [getD_eq_getElem?_getD,List.getElem?_eq_getElem hk];rfl
 have mem:∀ k,k∈((List.range R.length).filter λ k=>decide (k≠i1/\k≠i2))↔k<R.length/\k≠i1/\k≠i2:=λ k=>by rw [mem_filter,mem_range,decide_eq_true_iff]
 have few:R.length<=((List.range R.length).filter λ k=>decide (k≠i1/\k≠i2)).length+2:=by
  have:=List.Nodup.length_le_of_subset (l₁:=List.range R.length) (l₂:=i1::i2::(List.range R.length).filter λ k=>decide (k≠i1/\k≠i2)) List.nodup_range λ k hk=>by
   by_cases c1:k=i1
   ·rw [c1];exact mem_cons_self ..
   ·by_cases c2:k=i2
    ·rw [c2];exact mem_cons_of_mem _ (mem_cons_self ..)
    ·exact mem_cons_of_mem _ (mem_cons_of_mem _ ((mem k).mpr ⟨mem_range.mp hk,c1,c2⟩))
  rw [length_range] at this;simpa using this
 have low:=bG h.nb' (Q:=(u,p)::((List.range R.length).filter λ k=>decide (k≠i1/\k≠i2)).map λ k=>R.getD k (0,0)) (λ r hr=>?_) (pairwise_cons.mpr ⟨λ b hb=>?_,?_⟩)
 ·rw [length_cons,length_map] at low
  omega
 ·rcases mem_cons.mp hr with rfl | hr
  ·exact mem_steps.mpr eu'
  ·obtain ⟨k,hk,rfl⟩:=mem_map.mp hr
   obtain ⟨a,b,c⟩:=(mem k).mp hk;rw [gd k a];exact st' k a b c
 ·obtain ⟨k,hk,rfl⟩:=mem_map.mp hb
  obtain ⟨a,b,c⟩:=(mem k).mp hk;rw [gd k a];intro z;have hs:=mem_steps.mpr eu';have back:=vY h.nb' hs z (rnd_self h.nb' hs);have:=sub' k a b c _ back;exact b ((uni _ _ _ a l3 this m3).trans e3)
 ·refine pairwise_map.mpr ((List.pairwise_lt_range.filter _).imp_of_mem λ {x y} hx hy hxy z=>?_)
  obtain ⟨a,b,c⟩:=(mem x).mp hx;obtain ⟨a',b',c'⟩:=(mem y).mp hy;rw [gd x a,gd y a'] at z;have:=uni _ _ _ a a' (sub' x a b c _ z) (rnd_self S (rS _ (getElem_mem a')));omega
end
section
variable {W W' L:Rows}
def Flat (W:Rows):Prop:=W.length+(facesS W).length=(tiesS W).length+2
theorem nU (G:Wb W):∃ w,E W 0 w:=by
 have c:=G.con 1 (by have:=G.three;omega)
 have:∀ {a b:Nat},Reach W a b->a≠b->∃ w,E W a w:=λ {a b} h=>by
  induction h with
  | here=>exact λ z=>absurd rfl z
  | @more b c r e ih =>
   intro n;by_cases z:a=b
   ·rw [z]
    exact ⟨_,e⟩
   ·exact ih z
 exact this c (by omega)
theorem kHE (S:Nb W) {p q:Nat} {rp:List Nat} (hp:W[p]?=some rp) (mq:q∈rp) (two:1<rp.length):∃ u,u≠q/\E W u p/\nxt W (u,p)=(p,q):=by
 have e:E W p q:=⟨rp,hp,mq⟩;have hs:=mem_steps.mpr e;obtain ⟨p0,_,back,_⟩:=wT S hs;have hu:=(uR S).it (per W (p,q)-1) hs
 have nu:nxt W (it (nxt W) (per W (p,q)-1) (p,q))=(p,q):=by
  show it (nxt W) (per W (p,q)-1+1) (p,q)=(p,q);rw [show per W (p,q)-1+1=per W (p,q) by omega];exact back
 generalize it (nxt W) (per W (p,q)-1) (p,q)=t at *;obtain ⟨u,v⟩:=t;have vp:v=p:=congrArg Prod.fst nu;subst vp;refine ⟨u,λ z=>?_,mem_steps.mp hu,nu⟩;subst z;have e2:(jG (W.getD v []) u).getD 0=u:=congrArg Prod.snd nu;rw [show W.getD v []=rp by rw [getD_eq_getElem?_getD,hp];rfl] at e2;have nd:=S.nd v rp hp;have hi:=idxOf_lt_length_of_mem mq;have at':=List.getElem_idxOf hi;unfold jG at e2
 split at e2
 ·rename_i c
  rw [List.getLast?_eq_getElem?,List.getElem?_eq_getElem (by omega)] at e2;have e2:rp[rp.length-1]=u:=e2;have:=(List.getElem_inj nd).mp (e2.trans at'.symm);omega
 ·rename_i c
  rw [List.getElem?_eq_getElem (by omega)] at e2;have e2:rp[rp.idxOf u-1]=u:=e2;have:=(List.getElem_inj nd).mp (e2.trans at'.symm);omega
theorem flat_rest (G':Wb W') {p q:Nat} {rp:List Nat} (h:Rest W W' p q) (hp:W[p]?=some rp) (two:1<rp.length) (len:W'.length=W.length) (st:(kH W').length+2=(kH W).length) (f:Flat W):Flat W':=by
 unfold Flat at *
 have mq:q∈rp:=by
  obtain ⟨r,er,m⟩:=h.e;rw [hp] at er;cases er
  exact m
 obtain ⟨u,uq,eu,nu⟩:=kHE h.wb hp mq two;have a:=tR h uq eu nu;obtain ⟨w0,e0⟩:=nU G';have b:=lY G'.toNb G'.con e0;have t1:=ties_len h.wb;have t2:=ties_len h.nb';omega
theorem kHT {ms:List Nat} (S:Nb L) (S':Nb W) (rn:Ren L W ms) {x y:Nat} (e:E L x y):nxt W (ms.getD x 0,ms.getD y 0)=(ms.getD (nxt L (x,y)).1 0,ms.getD (nxt L (x,y)).2 0):=by
 obtain ⟨z,rz,nz,_⟩:=wN S e;rw [nz];exact vH S'.nd (rn.r_to rz)
theorem kFJ {ms:List Nat} (S:Nb L) (S':Nb W) (rn:Ren L W ms) {t:Nat×Nat} (ht:t∈kH L):∀ j,it (nxt W) j (ms.getD t.1 0,ms.getD t.2 0)=(ms.getD (it (nxt L) j t).1 0,ms.getD (it (nxt L) j t).2 0)
 | 0=>rfl
 | j+1=>by
  show nxt W (it (nxt W) j _)=_;rw [kFJ S S' rn ht j];exact kHT S S' rn (mem_steps.mp ((uR S).it j ht))
theorem kBJ {ms:List Nat} (S:Nb L) (rn:Ren L W ms) {t u:Nat×Nat} (ht:t∈kH L) (hu:u∈kH L) (e:(ms.getD t.1 0,ms.getD t.2 0)=(ms.getD u.1 0,ms.getD u.2 0)):t=u:=by
 have a:=S.e (mem_steps.mp ht);have b:=S.e (mem_steps.mp hu);injection e with e1 e2
 exact Prod.ext (rn.inj a.1 b.1 e1) (rn.inj a.2.1 b.2.1 e2)
theorem kCT {ms:List Nat} (S:Nb L) (S':Nb W) (rn:Ren L W ms) (nd:(kH L).Nodup) (nd':(kH W).Nodup):(kH W).length=(kH L).length:=by
 have n1:((kH L).map λ t=>(ms.getD t.1 0,ms.getD t.2 0)).Nodup:=pairwise_map.mpr (List.Pairwise.imp_of_mem (λ {a b} ha hb hab e=>hab (kBJ S rn ha hb e)) nd)
 have a:=List.Nodup.length_le_of_subset n1 (l₂:=kH W) λ t ht=>by
  obtain ⟨u,hu,rfl⟩:=mem_map.mp ht;exact mem_steps.mpr (rn.e_to (mem_steps.mp hu))
 have b:=List.Nodup.length_le_of_subset nd' (l₂:=(kH L).map λ t=>(ms.getD t.1 0,ms.getD t.2 0)) λ t ht=>by
  obtain ⟨x,y,e,e1,e2⟩:=rn.e_of (mem_steps.mp ht);exact mem_map.mpr ⟨(x,y),mem_steps.mpr e,Prod.ext e1.symm e2.symm⟩
 rw [length_map] at a b;omega
theorem flat_ren {ms:List Nat} (S:Nb L) (G':Wb W) (rn:Ren L W ms) (len:W.length=L.length) (nd:(kH L).Nodup) (nd':(kH W).Nodup) (f:Flat L):Flat W:=by
 have S':=G'.toNb;obtain ⟨R,lR,rS,cov,uni⟩:=aJ S
 have low:=bG S' (Q:=R.map λ t=>(ms.getD t.1 0,ms.getD t.2 0)) (λ r hr=>by
  obtain ⟨u,hu,rfl⟩:=mem_map.mp hr;exact mem_steps.mpr (rn.e_to (mem_steps.mp (rS u hu)))) (by
  refine pairwise_map.mpr (pairwise_iff_getElem.mpr λ i j hi hj hij z=>?_);have h1:=rS _ (getElem_mem hi);have h2:=rS _ (getElem_mem hj);obtain ⟨k,e⟩:=(qU S' (mem_steps.mpr (rn.e_to (mem_steps.mp h1)))).mp z;have e:=(kFJ S S' rn h1 k).symm.trans e;have:=kBJ S rn ((uR S).it k h1) h2 e;have m:=(qU S h1).mpr ⟨k,this⟩;have:=uni _ _ _ hi hj m (rnd_self S h2);omega)
 rw [length_map,lR] at low;obtain ⟨w0,e0⟩:=nU G';have b:=lY S' G'.con e0;have t1:=ties_len S;have t2:=ties_len S';have t3:=kCT S S' rn nd nd';unfold Flat at *;omega
end
section
variable {W W':Rows}
theorem kHS {p q:Nat} (h:Rest W W' p q) {x y:Nat} (e:E W' x y):E W x y/\¬ (x=p/\y=q)/\¬ (x=q/\y=p):=by
 obtain ⟨row,er,m⟩:=e;by_cases c1:x=p
 ·subst c1
  obtain ⟨r,hr,_⟩:=h.e;obtain ⟨a,ea,ro⟩:=h.rp r hr;rw [ea] at er;cases er
  have:=mem_filter.mp ((ro.mem y).mpr m);exact ⟨⟨r,hr,this.1⟩,λ z=>by simpa [z.2] using this.2,λ z=>h.pq z.1⟩
 ·by_cases c2:x=q
  ·subst c2
   obtain ⟨r,hr,_⟩:=h.wb.sym _ _ h.e;obtain ⟨a,ea,ro⟩:=h.rq r hr;rw [ea] at er;cases er
   have:=mem_filter.mp ((ro.mem y).mpr m);exact ⟨⟨r,hr,this.1⟩,λ z=>c1 z.1,λ z=>by simpa [z.2] using this.2⟩
  ·rw [h.ro x c1 c2] at er
   exact ⟨⟨row,er,m⟩,λ z=>c1 z.1,λ z=>c2 z.1⟩
theorem rest_steps {p q:Nat} (h:Rest W W' p q):(kH W').length+2=(kH W).length:=by
 have n1:=xL h.wb.nd;have n2:=xL h.nb'.nd
 have out:∀ t∈kH W',t∈kH W/\t≠(p,q)/\t≠(q,p):=λ t ht=>by
  obtain ⟨a,b,c⟩:=kHS h (mem_steps.mp ht);exact ⟨mem_steps.mpr a,λ z=>b ⟨congrArg Prod.fst z,congrArg Prod.snd z⟩,λ z=>c ⟨congrArg Prod.fst z,congrArg Prod.snd z⟩⟩
 have ne:(p,q)≠(q,p):=λ z=>h.pq (congrArg Prod.fst z)
 have nd:((p,q)::(q,p)::kH W').Nodup:=by
  refine nodup_cons.mpr ⟨λ z=>?_,nodup_cons.mpr ⟨λ z=>(out _ z).2.2 rfl,n2⟩⟩;rcases mem_cons.mp z with z | z
  ·exact ne z
  ·exact (out _ z).2.1 rfl
 have a:=List.Nodup.length_le_of_subset nd (l₂:=kH W) λ t ht=>by
  rcases mem_cons.mp ht with rfl | ht
  ·exact mem_steps.mpr h.e
  rcases mem_cons.mp ht with rfl | ht
  ·exact mem_steps.mpr (h.wb.sym _ _ h.e)
  ·exact (out t ht).1
 have b:=List.Nodup.length_le_of_subset n1 (l₂:=(p,q)::(q,p)::kH W') λ t ht=>by
  by_cases c1:t=(p,q)
  ·rw [c1];exact mem_cons_self ..
  by_cases c2:t=(q,p)
  ·rw [c2];exact mem_cons_of_mem _ (mem_cons_self ..)
  refine mem_cons_of_mem _ (mem_cons_of_mem _ (mem_steps.mpr (tS h (mem_steps.mp ht) ?_ ?_)))
  ·exact λ z=>c1 (Prod.ext z.1 z.2)
  ·exact λ z=>c2 (Prod.ext z.1 z.2)
 simp only [length_cons] at a b;omega
theorem rest_set2 {L:Rows} (S:Nb L) {p q:Nat} {rp rq:List Nat} (hp:L[p]?=some rp) (hq:L[q]?=some rq) (pq:p≠q) (mq:q∈rp) (mp:p∈rq) (N:Nb (jL L p q (qB rp q) (qB rq p))):Rest L (jL L p q (qB rp q) (qB rq p)) p q:=by
 have lp:=(List.getElem?_eq_some_iff.mp hp).1;have lq:=(List.getElem?_eq_some_iff.mp hq).1;refine ⟨S,N,pq,⟨rp,hp,mq⟩,λ r er=>?_,λ r er=>?_,λ x h1 h2=>?_⟩
 ·rw [hp] at er
  cases er
  refine ⟨_,by rw [jF lp lq pq,if_neg pq,if_pos rfl],?_⟩;rw [xC (S.nd p _ hp) mq];exact Ro.refl _
 ·rw [hq] at er
  cases er
  refine ⟨_,by rw [jF lp lq pq,if_pos rfl],?_⟩;rw [xC (S.nd q _ hq) mp];exact Ro.refl _
 ·rw [jF lp lq pq,if_neg h2,if_neg h1]
end
def RC (W:Rows) (C:List Nat):Nat->Nat->Prop
 | 0,v=>v∈C
 | k+1,v=>∃ u,RC W C k u/\E W u v
theorem kMX {W:Rows} {C:List Nat} {c v:Nat} (hc:c∈C) (h:Reach W c v):∃ k,RC W C k v:=by
 induction h with
 | here=>exact ⟨0,hc⟩
 | more _ e ih =>
  obtain ⟨k,hk⟩:=ih;exact ⟨k+1,_,hk,e⟩
structure CTree (W:Rows) (C:List Nat) (par dist:Nat->Nat):Prop where
 e:∀ v,v<W.length->v∉C->E W (par v) v
 d:∀ v,v<W.length->v∉C->dist (par v)+1=dist v
theorem kGZ {W:Rows} {C:List Nat} (con:∀ v,v<W.length->∃ c∈C,Reach W c v):∃ par dist,CTree W C par dist:=by
 have h1:∀ v,∃ k,v<W.length->RC W C k v/\∀ j,j<k->¬ RC W C j v:=λ v=>by
  by_cases c:v<W.length
  ·obtain ⟨c0,hc0,r⟩:=con v c
   obtain ⟨k,hk⟩:=kBP (kMX hc0 r);exact ⟨k,λ _=>hk⟩
  ·exact ⟨0,λ z=>absurd z c⟩
 have hd:=λ v=>Classical.choose_spec (h1 v);generalize hD:(λ v=>Classical.choose (h1 v))=dist at *
 have hd:∀ v,v<W.length->RC W C (dist v) v/\∀ j,j<dist v->¬ RC W C j v:=λ v hv=>by
  rw [<-hD];exact hd v hv
 have h2:∀ v,∃ u,v<W.length->v∉C->E W u v/\dist u+1=dist v:=λ v=>by
  by_cases c:v<W.length/\v∉C
  ·obtain ⟨a,b⟩:=hd v c.1
   cases e:dist v with
   | zero =>
    rw [e] at a;exact absurd a c.2
   | succ k =>
    rw [e] at a b;obtain ⟨u,hu,eu⟩:=a
    have ul:u<W.length:=by
     obtain ⟨row,er,_⟩:=eu;exact (List.getElem?_eq_some_iff.mp er).1
    obtain ⟨a',b'⟩:=hd u ul;refine ⟨u,λ _ _=>⟨eu,?_⟩⟩;have q1:¬ k<dist u:=λ z=>b' k z hu;have q2:¬ dist u+1<k+1:=λ z=>b _ z ⟨u,a',eu⟩;omega
  ·exact ⟨0,λ z1 z2=>absurd ⟨z1,z2⟩ c⟩
 exact ⟨λ v=>Classical.choose (h2 v),dist,λ v h n=>(Classical.choose_spec (h2 v) h n).1,λ v h n=>(Classical.choose_spec (h2 v) h n).2⟩
section
variable {W:Rows} {C:List Nat} {par dist:Nat->Nat} {lab:Nat->Nat->Nat}
theorem oP (S:Nb W) {z:Nat} (hz:z<W.length):∃ r,W[z]?=some r/\r.Nodup/\(∀ w,w∈r↔E W z w)/\∀ w v,jG r w=some v->nxt W (w,z)=(z,v):=by
 refine ⟨W[z],List.getElem?_eq_getElem hz,S.nd z _ (List.getElem?_eq_getElem hz),λ w=>⟨λ m=>⟨_,List.getElem?_eq_getElem hz,m⟩,λ ⟨r,er,m⟩=>?_⟩,λ w v h=>?_⟩
 ·rw [List.getElem?_eq_getElem hz] at er
  cases er
  exact m
 ·show (z,(jG (W.getD z []) w).getD 0)=(z,v)
  rw [getD_eq_getElem?_getD,List.getElem?_eq_getElem hz];show (z,(jG W[z] w).getD 0)=(z,v);rw [h]
  rfl
def Fit (W:Rows) (lab:Nat->Nat->Nat):Prop:=∀ x y v,E W x y->nxt W (x,y)=(y,v)->lab y v=lab x y
theorem kIS (S:Nb W) (T:CTree W C par dist) (c1:Fit W lab)
  (c2:∀ x y,E W x y->¬ ((y∉C/\par y=x)\/(x∉C/\par x=y)\/Nx C x y\/Nx C y x)->lab x y=lab y x):∀ x y,E W x y->¬ Nx C x y->¬ Nx C y x->lab x y=lab y x:=by
 obtain ⟨N,hN⟩:=pW dist W.length
 have child:∀ k z,z<W.length->z∉C->N-dist z=k->lab (par z) z=lab z (par z):=λ k=>by
  induction k using Nat.strongRecOn with
  | _ k ih =>
   intro z hz z0 hk;obtain ⟨r,er,nd,mem,nx⟩:=oP S hz;have ep:=T.e z hz z0;obtain ⟨v,rv,nv,ev⟩:=wN S ep;refine (vG nd (P:=λ w=>lab z w=lab (par z) z) ((mem _).mpr (S.sym _ _ ep)) ((mem v).mpr ev) (c1 _ _ _ ep nv) λ w u hw nw hu pw=>?_).symm;have ew:=(mem w).mp hw
   have back:lab z w=lab w z:=by
    by_cases t:(w∉C/\par w=z)\/(z∉C/\par z=w)\/Nx C z w\/Nx C w z
    ·rcases t with ⟨w0',pw'⟩ | ⟨_,pz⟩ | h | h
     ·have hwl:=(S.e ew).2.1
      have d1:=T.d w hwl w0';rw [pw'] at d1;have:=hN w hwl;have q:=ih (N-dist w) (by omega) w hwl w0' rfl;rwa [pw'] at q
     ·exact absurd pz.symm nw
     ·exact absurd (kW h).1 z0
     ·exact absurd (kW h).2 z0
    ·exact c2 z w ew t
   rw [c1 w z u (S.sym _ _ ew) (nx w u hu),<-back,pw]
 intro x y e n1 n2;by_cases t:(y∉C/\par y=x)\/(x∉C/\par x=y)\/Nx C x y\/Nx C y x
 ·rcases t with ⟨h,rfl⟩ | ⟨h,rfl⟩ | h | h
  ·exact child _ y (S.e e).2.1 h rfl
  ·exact (child _ x (S.e e).1 h rfl).symm
  ·exact absurd h n1
  ·exact absurd h n2
 ·exact c2 x y e t
theorem kBR (S:Nb W) (c1:Fit W lab) (sy:∀ x y,E W x y->¬ Nx C x y->¬ Nx C y x->lab x y=lab y x) {z w w':Nat} (hz:z∉C) (e:E W z w) (e':E W z w'):lab z w=lab z w':=by
 obtain ⟨r,er,nd,mem,nx⟩:=oP S (S.e e).1;refine vG nd (P:=λ u=>lab z u=lab z w') ((mem w).mpr e) ((mem w').mpr e') rfl λ u v hu _ hv p=>?_;have eu:=(mem u).mp hu;rw [c1 u z v (S.sym _ _ eu) (nx u v hv),<-sy z u eu (λ h=>hz (kW h).1) (λ h=>hz (kW h).2)];exact p
theorem pL (S:Nb W) (nd:C.Nodup) (c1:Fit W lab) (ce:∀ p q,Nx C p q->E W p q) (sy:∀ x y,E W x y->¬ Nx C x y->¬ Nx C y x->lab x y=lab y x) {p c n:Nat} (h1:Nx C p c) (h2:Nx C c n):lab c n=lab p c:=by
 have e1:=ce _ _ h1;have e2:=ce _ _ h2;obtain ⟨r,er,ndr,mem,nx⟩:=oP S (S.e e2).1;obtain ⟨v,rv,nv,ev⟩:=wN S e1;refine vG ndr (P:=λ u=>lab c u=lab p c) ((mem n).mpr e2) ((mem v).mpr ev) (c1 _ _ _ e1 nv) λ u v hu ne hv q=>?_;have eu:=(mem u).mp hu;rw [c1 u c v (S.sym _ _ eu) (nx u v hv)];by_cases up:u=p
 ·rw [up]
 ·rw [<-sy c u eu (λ h=>ne (zT nd h h2)) (λ h=>up (wB nd h h1))]
  exact q
theorem kIR (S:Nb W) (nd:C.Nodup) (c1:Fit W lab) (ce:∀ p q,Nx C p q->E W p q) (sy:∀ x y,E W x y->¬ Nx C x y->¬ Nx C y x->lab x y=lab y x) {p c n w:Nat} (h1:Nx C p c) (h2:Nx C c n) (e:E W c w):lab c w=lab p c\/lab c w=lab n c:=by
 have e2:=ce _ _ h2;obtain ⟨r,er,ndr,mem,nx⟩:=oP S (S.e e2).1;refine vG ndr (P:=λ u=>lab c u=lab p c\/lab c u=lab n c) ((mem w).mpr e) ((mem n).mpr e2) (.inl (pL S nd c1 ce sy h1 h2)) λ u v hu ne hv q=>?_;have eu:=(mem u).mp hu;rw [c1 u c v (S.sym _ _ eu) (nx u v hv)];by_cases un:u=n
 ·exact .inr (by rw [un])
 ·by_cases up:u=p
  ·exact .inl (by rw [up])
  ·rw [<-sy c u eu (λ h=>un (zT nd h h2)) (λ h=>up (wB nd h h1))]
   exact q
theorem kIT (S:Nb W) (T:CTree W C par dist) (nd:C.Nodup) (c1:Fit W lab) (ce:∀ p q,Nx C p q->E W p q) (sy:∀ x y,E W x y->¬ Nx C x y->¬ Nx C y x->lab x y=lab y x) {p q:Nat} (h:Nx C p q) (eq:lab p q=lab q p) :
  ∀ x y,E W x y->lab x y=lab p q:=by
 have one:∀ c n,Nx C c n->lab c n=lab p q->lab n c=lab p q->∀ w,E W c w->lab c w=lab p q:=λ c n hn a b w e=>by
  obtain ⟨v,hv⟩:=vZ (kW hn).1;have hv:=zN nd (kW hn).1 hv;rcases kIR S nd c1 ce sy hv hn e with z | z
  ·rw [z,<-pL S nd c1 ce sy hv hn,a]
  ·rw [z,b]
 have onC:∀ y∈C,∀ w,E W y w->lab y w=lab p q:=λ y hy=>by
  refine vG nd (P:=λ c=>∀ w,E W c w->lab c w=lab p q) hy (kW h).1 (one p q h rfl eq.symm) λ c v hc _ hv z=>?_;have hv:=zN nd hc hv;obtain ⟨n,hn⟩:=pJ hc;refine one v c hv ?_ (z v (S.sym _ _ (ce _ _ hv)));rw [<-pL S nd c1 ce sy hv hn];exact z n (ce _ _ hn)
 have tree:∀ k z,z<W.length->dist z=k->∀ w,E W z w->lab z w=lab p q:=λ k=>by
  induction k using Nat.strongRecOn with
  | _ k ih =>
   intro z hz hk w e;by_cases hc:z∈C
   ·exact onC z hc w e
   ·have ep:=T.e z hz hc
    have d1:=T.d z hz hc;rw [kBR S c1 sy hc e (S.sym _ _ ep),<-sy _ _ ep (λ h=>hc (kW h).2) (λ h=>hc (kW h).1)];exact ih _ (by omega) _ (S.e ep).1 rfl _ ep
 exact λ x y e=>tree _ x (S.e e).1 rfl y e
def rG (v u:Nat):Nat×Nat:=if v<u then (v,u) else (u,v)
theorem kEO {v u w x:Nat} (h:rG v u=rG w x):(v=w/\u=x)\/(v=x/\u=w):=by
 unfold rG at h
 split at h<;>split at h<;>injection h with h1 h2<;>omega
theorem kLF {v w:Nat} (nd:C.Nodup) (h1:Nx C v w) (h2:Nx C w v):C.length<=2:=by
 have all:∀ x∈C,x=v\/x=w:=λ x hx=>by
  refine vG nd (P:=λ x=>x=v\/x=w) hx (kW h1).1 (.inl rfl) λ y u hy _ hu p=>?_;have hu:=zN nd hy hu;rcases p with rfl | rfl
  ·exact .inr (wB nd hu h2)
  ·exact .inl (wB nd hu h1)
 have:=List.Nodup.length_le_of_subset nd (l₂:=[v,w]) λ x hx=>by
  rcases all x hx with rfl | rfl<;>simp
 simpa using this
def CtP (C:List Nat) (par:Nat->Nat) (t:Nat×Nat):Prop:=(t.2∉C/\par t.2=t.1)\/(t.1∉C/\par t.1=t.2)\/Nx C t.1 t.2\/Nx C t.2 t.1
open Classical in
theorem sR (S:Nb W) (T:CTree W C par dist) (nd:C.Nodup) (l3:3<=C.length) (ce:∀ p q,Nx C p q->E W p q):W.length<=((tiesS W).filter λ t=>decide (CtP C par t)).length:=by
 have up:∀ v,∃ u,v<W.length->(v∈C/\Nx C v u)\/(v∉C/\u=par v):=λ v=>by
  by_cases c:v∈C
  ·obtain ⟨u,hu⟩:=pJ c
   exact ⟨u,λ _=>.inl ⟨c,hu⟩⟩
  ·exact ⟨par v,λ _=>.inr ⟨c,rfl⟩⟩
 have ups:=λ v=>Classical.choose_spec (up v);generalize hU:(λ v=>Classical.choose (up v))=f at *
 have ups:∀ v,v<W.length->(v∈C/\Nx C v (f v))\/(v∉C/\f v=par v):=λ v hv=>by
  rw [<-hU];exact ups v hv
 have ndl:((List.range W.length).map λ v=>rG v (f v)).Nodup:=by
  refine pairwise_map.mpr (List.pairwise_lt_range.imp_of_mem λ {a b} ha hb hab e=>?_);have ha:=mem_range.mp ha;have hb:=mem_range.mp hb;rcases kEO e with ⟨z,_⟩ | ⟨z1,z2⟩
  ·omega
  ·rcases ups a ha with ⟨ca,na⟩ | ⟨ca,na⟩<;>rcases ups b hb with ⟨cb,nb⟩ | ⟨cb,nb⟩
   ·rw [z2] at na
    rw [<-z1] at nb;have:=kLF nd na nb;omega
   ·rw [z2] at na
    exact cb (kW na).2
   ·rw [<-z1] at nb
    exact ca (kW nb).2
   ·have da:=T.d a ha ca
    have db:=T.d b hb cb;rw [<-na,z2] at da;rw [<-nb,<-z1] at db;omega
 have:=List.Nodup.length_le_of_subset ndl (l₂:=(tiesS W).filter λ t=>decide (CtP C par t)) λ t ht=>by
  obtain ⟨v,hv,rfl⟩:=mem_map.mp ht;have hv:=mem_range.mp hv
  have two:E W v (f v)/\CtP C par (v,f v)/\CtP C par (f v,v):=by
   rcases ups v hv with ⟨c,n⟩ | ⟨c,n⟩
   ·exact ⟨ce _ _ n,.inr (.inr (.inl n)),.inr (.inr (.inr n))⟩
   ·rw [n]
    exact ⟨S.sym _ _ (T.e v hv c),.inr (.inl ⟨c,rfl⟩),.inl ⟨c,rfl⟩⟩
  obtain ⟨e,p1,p2⟩:=two;have ne:=(S.e e).2.2;unfold rG tiesS;rw [mem_filter,mem_filter,mem_stepsS]
  split
  ·rename_i c
   exact ⟨⟨e,decide_eq_true c⟩,decide_eq_true p1⟩
  ·rename_i c
   exact ⟨⟨S.sym _ _ e,decide_eq_true (by show f v<v;omega)⟩,decide_eq_true p2⟩
 rw [length_map,length_range] at this;exact this
open Classical in
theorem kLS (S:Nb W) (con:∀ v,v<W.length->Reach W 0 v) (fl:W.length+(facesS W).length=(tiesS W).length+2) (nd:C.Nodup) (l3:3<=C.length) (ce:∀ p q,Nx C p q->E W p q) :
  ∃ lab:Nat->Nat->Nat,Fit W lab/\(∀ x y,E W x y->¬ Nx C x y->¬ Nx C y x->lab x y=lab y x)/\∀ p q,Nx C p q->lab p q≠lab q p:=by
 refine Classical.byContradiction λ no=>?_
 obtain ⟨c0,hc0⟩ : ∃ c,c∈C:=by
  cases C with
  | nil=>simp at l3
  | cons c C=>exact ⟨c,mem_cons_self⟩
 obtain ⟨c1,hc1⟩:=pJ hc0;have e01:=ce _ _ hc1;have lc:=(S.e e01).1;obtain ⟨par,dist,T⟩:=kGZ (C:=C) λ v hv=>⟨c0,hc0,(Reach.symm S.sym (con c0 lc)).trans (con v hv)⟩;obtain ⟨R,lR,rS,cov,uni⟩:=aJ S
 have hfi:∀ t,∃ i,t∈kH W->∃ (h:i<R.length),t∈rnd W R[i]:=λ t=>by
  by_cases c:t∈kH W
  ·obtain ⟨i,h,m⟩:=cov t c
   exact ⟨i,λ _=>⟨h,m⟩⟩
  ·exact ⟨0,λ z=>absurd z c⟩
 have fis:=λ t=>Classical.choose_spec (hfi t);generalize hF:(λ t=>Classical.choose (hfi t))=fi at *
 have fis:∀ t,t∈kH W->∃ (h:fi t<R.length),t∈rnd W R[fi t]:=λ t ht=>by
  subst hF;exact fis t ht
 have fnx:∀ t,t∈kH W->fi (nxt W t)=fi t:=λ t ht=>by
  obtain ⟨h1,m1⟩:=fis t ht;have hn:=vO S (rS _ (getElem_mem h1)) m1;have hs:=rnd_sub S (rS _ (getElem_mem h1)) hn;obtain ⟨h2,m2⟩:=fis _ hs;exact uni _ _ _ h2 h1 m2 hn
 have frp:∀ i (h:i<R.length),fi R[i]=i:=λ i h=>by
  have hr:=rS _ (getElem_mem h);obtain ⟨h2,m2⟩:=fis _ hr;exact uni _ _ _ h2 h m2 (rnd_self S hr)
 have st:∀ x y,E W x y->(x,y)∈kH W:=λ x y e=>mem_steps.mpr e
 have ls:R.length<=(((tiesS W).filter λ t=>!decide (CtP C par t)).map λ t=>(fi t,fi (t.2,t.1))).length+1:=by
  refine lI (λ l hl=>?_) λ m lm hl i hi=>?_
  ·obtain ⟨t,ht,rfl⟩:=mem_map.mp hl
   have ht:=(mem_filter.mp ht).1;unfold tiesS at ht;have e:=mem_stepsS.mp (mem_filter.mp ht).1;exact ⟨(fis t (st _ _ e)).1,(fis (t.2,t.1) (st _ _ (S.sym _ _ e))).1⟩
  ·have f1:Fit W (λ x y=>m.getD (fi (x,y)) 0):=λ x y v e n=>by
    have:=fnx _ (st x y e);rw [n] at this;show m.getD (fi (y,v)) 0=_;rw [this]
   have sy:=kIS (lab:=λ x y=>m.getD (fi (x,y)) 0) S T f1 λ x y e nt=>by
    show m.getD (fi (x,y)) 0=m.getD (fi (y,x)) 0;have ne:=(S.e e).2.2;rcases Nat.lt_or_ge x y with c | c
    ·exact hl (fi (x,y),fi (y,x)) (mem_map.mpr ⟨(x,y),mem_filter.mpr ⟨mem_filter.mpr ⟨mem_stepsS.mpr e,decide_eq_true c⟩,by rw [decide_eq_false (show ¬ CtP C par (x,y) from nt)];rfl⟩,rfl⟩)
    ·have nt':¬ CtP C par (y,x):=λ z=>nt (by
      rcases z with z | z | z | z
      ·exact .inr (.inl z)
      ·exact .inl z
      ·exact .inr (.inr (.inr z))
      ·exact .inr (.inr (.inl z)))
     exact (hl (fi (y,x),fi (x,y)) (mem_map.mpr ⟨(y,x),mem_filter.mpr ⟨mem_filter.mpr ⟨mem_stepsS.mpr (S.sym _ _ e),decide_eq_true (by show y<x;omega)⟩,by rw [decide_eq_false nt'];rfl⟩,rfl⟩)).symm
   have ex:∃ p q,Nx C p q/\m.getD (fi (p,q)) 0=m.getD (fi (q,p)) 0:=Classical.byContradiction λ z=>no ⟨_,f1,sy,λ p q h e=>z ⟨p,q,h,e⟩⟩;obtain ⟨p,q,h,e⟩:=ex;have all:=kIT S T nd f1 ce sy h e
   have key:∀ i,i<R.length->m.getD i 0=m.getD (fi (p,q)) 0:=λ i hi=>by
    have e:E W R[i].1 R[i].2:=mem_steps.mp (rS _ (getElem_mem hi));have:=all _ _ e;rw [show (R[i].1,R[i].2)=R[i] from rfl,frp i hi] at this;exact this
   rw [key i hi,key 0 (by omega)]
 have tc:=sR S T nd l3 ce
 have sum:((tiesS W).filter λ t=>decide (CtP C par t)).length+((tiesS W).filter λ t=>!decide (CtP C par t)).length=(tiesS W).length:=by
  have:∀ l:List (Nat×Nat),(l.filter λ t=>decide (CtP C par t)).length+(l.filter λ t=>!decide (CtP C par t)).length=l.length:=λ l=>by
   induction l with
   | nil=>rfl
   | cons t l ih =>
    rw [filter_cons,filter_cons]
    cases decide (CtP C par t)<;>simp<;>omega
  exact this _
 rw [length_map] at ls;omega
end
end Fc
namespace Tri
open Cyc
end Tri
namespace Tri
open Cyc Rnd
section
variable {L L2:Rows} {Os Ps:List (List Nat)} {A M C:List Nat} {f l:Nat}
end
theorem kFY {W:Rows} (nd:∀ (p:Nat) (row:List Nat),W[p]?=some row->row.Nodup) {x y v:Nat} (h:R W y v x):(nxt W (x,y)).2=v:=by
 obtain ⟨row,e,n⟩:=h;unfold nxt;show (jG (W.getD y []) x).getD 0=v;rw [getD_eq_getElem?_getD,e];show (jG row x).getD 0=v;rw [oS (nd y row e) n]
 rfl
section
variable {W:Rows} {ms:List Nat} {n:Nat}
end
theorem kAP {W:Rows} (G:Good W):(∀ t∈kH W,(nxt W (nxt W t)).2=t.1)/\(kH W).length+12=6*W.length:=by
 have S:=(Wb.of G).toNb;refine ⟨λ t ht=>?_,by rw [qZ];exact G.tot⟩;obtain ⟨x,y⟩:=t;obtain ⟨z,r,en,_⟩:=wN S (mem_steps.mp ht);rw [en];exact kFY G.nd (G.tri _ _ _ r)
section
variable {W:Rows} {T ahead su sv:List Nat} {u v:Nat}
end
section
variable {ms:List Nat} {k:Nat}
variable {W:Rows} {a b c:Nat} {Fs Ts:List (List Nat)}
end
end Tri
namespace Fc
open Cyc Rnd Tri
section
variable {W:Rows} {C:List Nat} {lab:Nat->Nat->Nat}
theorem kGA (A:List Nat) (x y:Nat) (B:List Nat):Nx (A++x::y::B) x y:=by
 show Adj ((A++x::y::B)++(A++x::y::B).head?.toList) x y;rw [append_assoc];exact (cS A x _ x y).mpr (.inr (.inl ⟨rfl,rfl⟩))
theorem kLN (S:Nb W) (c1:Fit W lab) {k t:Nat} {row A B:List Nat} (er:W[k]?=some row):∀ (seg:List Nat),Ro row (A++seg++t::B)->(∀ z∈seg.tail,lab k z=lab z k)->∀ z∈seg,lab k z=lab t k:=by
 have one:∀ (u v:Nat) (A B:List Nat),Ro row (A++u::v::B)->lab k u=lab v k:=λ u v A B ro=>by
  have r:R W k u v:=⟨row,er,(ro.nx u v).mpr (kGA A u v B)⟩;exact c1 v k u (S.sym _ _ (vJ r).2) (vH S.nd r)
 suffices H:∀ (n:Nat) (seg A B:List Nat) (t:Nat),seg.length=n->Ro row (A++seg++t::B)->(∀ z∈seg.tail,lab k z=lab z k)->∀ z∈seg,lab k z=lab t k from λ seg=>H _ seg A B t rfl
 intro n
 induction n with
 | zero =>
  intro seg A B t hn _ _ z hz;rw [length_eq_zero_iff.mp hn] at hz;cases hz
 | succ n ih =>
  intro seg A B t hn ro sy z hz;have ne:seg≠[]:=λ e=>by rw [e] at hn;cases hn
  obtain ⟨I,u,rfl⟩ : ∃ I u,seg=I++[u]:=⟨seg.dropLast,seg.getLast ne,(dropLast_concat_getLast ne).symm⟩;have hu:lab k u=lab t k:=one u t (A++I) B (by simpa using ro);rcases mem_append.mp hz with m | m
  ·have ln:I.length=n:=by simpa using hn
   have q:=ih I A (t::B) u ln (by simpa using ro) (λ z hz=>by
    cases I with
    | nil=>cases hz
    | cons i I=>exact sy z (by simp at hz ⊢;exact .inl hz)) z m
   rw [q,<-hu]
   cases I with
   | nil=>cases m
   | cons i I=>exact (sy u (by simp)).symm
  ·rw [mem_singleton.mp m]
   exact hu
end
section
variable {W:Rows} {T off:List Nat} {a b:Nat}
theorem good_flat {W:Rows} (G:Good W):W.length+(facesS W).length=(tiesS W).length+2:=((three_cornered (Wb.of G).toNb).mpr (kAP G)).1
theorem kAL {l:List Nat} {x:Nat} (h:l.getLast?=some x):∃ I,l=I++[x]:=by
 have ne:l≠[]:=λ z=>by rw [z] at h;cases h
 rw [List.getLast?_eq_some_getLast ne] at h;exact ⟨l.dropLast,by rw [<-Option.some.inj h];exact (dropLast_concat_getLast ne).symm⟩
end
section
variable {W:Rows} {T off:List Nat} {a b:Nat}
end
section
variable {W:Rows} {a b c:Nat}
theorem kFF (S:Nb W) {z n p:Nat} (h:R W z n p) (np:n≠p):∃ row ins,W[z]?=some row/\Ro row ins/\ins.head?=some p/\ins.getLast?=some n:=by
 obtain ⟨row,er,x⟩:=h;have nd:=S.nd _ _ er;obtain ⟨X,Y,rfl⟩:=List.append_of_mem (kW x).2;have ro:Ro (X++p::Y) (p::(Y++X)):=⟨X,p::Y,rfl,by simp⟩;have ro':Ro (X++p::Y) ((Y++X)++[p]):=⟨X++[p],Y,by simp,by simp⟩;refine ⟨_,p::(Y++X),er,ro,rfl,?_⟩;generalize Y++X=L at *;rcases List.eq_nil_or_concat L with rfl | ⟨L',n',rfl⟩
 ·have:=(kW ((ro.nx n p).mp x)).1
  simp at this;exact absurd this np
 ·rw [List.concat_eq_append] at *
  have:=wB nd x ((ro'.nx n' p).mpr (by rw [append_assoc];exact kGA L' n' p []));rw [this,<-cons_append,List.getLast?_concat]
end
section
variable {W W':Rows}
theorem kIL {row:List Nat} {a:Nat} (nd:row.Nodup) (h:Nx row a a):∀ x∈row,x=a:=λ x hx =>
 vG nd (P:=λ x=>x=a) hx (kW h).1 rfl λ w v hw _ hv p=>by
  have hv:=zN nd hw hv;subst p;exact wB nd hv h
theorem kAN (S:Nb W) {r:Nat×Nat} (hr:r∈kH W) (j:Nat):E W (it (nxt W) j r).1 (it (nxt W) (j+1) r).1:=mem_steps.mp (show ((it (nxt W) j r).1,(it (nxt W) j r).2)∈kH W from (uR S).it j hr)
theorem kIU (S:Nb W) {r:Nat×Nat} (hr:r∈kH W) (j:Nat):R W (it (nxt W) (j+1) r).1 (it (nxt W) (j+2) r).1 (it (nxt W) j r).1:=by
 obtain ⟨z,rz,nz,_⟩:=wN S (kAN S hr j);have:nxt W (it (nxt W) j r)=((it (nxt W) (j+1) r).1,z):=nz
 have e:(it (nxt W) (j+2) r).1=z:=by
  show (it (nxt W) (j+1) r).2=z;show (nxt W (it (nxt W) j r)).2=z;rw [this]
 rw [e];exact rz
theorem kKL (G:Wb W) (fl:Flat W) {a b c d:Nat} (r1:R W b c a) (r2:R W c d b) (ac:a≠c) (bd:b≠d) (e1:E W a c) (e2:E W b d):d=a:=by
 refine Classical.byContradiction λ da=>?_;have S:=G.toNb;have eba:=(vJ r1).2;have ebc:=(vJ r1).1;have ecd:=(vJ r2).1;have ab:=(S.e eba).2.2;have bc:=(S.e ebc).2.2;have cd:=(S.e ecd).2.2
 have ndC:[a,b,c].Nodup:=by
  simp;exact ⟨⟨ab,ac⟩,bc.symm⟩
 have ce:∀ p q,Nx [a,b,c] p q->E W p q:=λ p q h=>by
  rw [nx3] at h;rcases h with ⟨rfl,rfl⟩ | ⟨rfl,rfl⟩ | ⟨rfl,rfl⟩
  ·exact S.sym _ _ eba
  ·exact ebc
  ·exact S.sym _ _ e1
 obtain ⟨lab,c1,sy,uneq⟩:=kLS S G.con fl ndC (by simp) ce;have nab:Nx [a,b,c] a b:=(nx3 ..).mpr (.inl ⟨rfl,rfl⟩);have nbc:Nx [a,b,c] b c:=(nx3 ..).mpr (.inr (.inl ⟨rfl,rfl⟩))
 have dC:d∉[a,b,c]:=by
  simp;exact ⟨da,bd.symm,cd⟩
 have kb:lab b d=lab c b:=by
  obtain ⟨row,ins,er,ro,hh,ht⟩:=kFF S r1 ac.symm;obtain ⟨row',er',m⟩:=id e2;rw [er] at er'
  cases er'
  obtain ⟨I,rfl⟩:=kAL ht;have nd:=ro.nd.mp (S.nd _ _ er)
  have dI:d∈I:=by
   rcases mem_append.mp ((ro.mem d).mp m) with z | z
   ·exact z
   ·exact absurd (mem_singleton.mp z) cd
  refine kLN S c1 (A:=[]) (B:=[]) (t:=c) er I (by simpa using ro) (λ z hz=>?_) d dI;have zI:=List.mem_of_mem_tail hz;have ez:E W b z:=⟨row,er,(ro.mem z).mpr (mem_append_left _ zI)⟩;refine sy b z ez (λ hn=>?_) (λ hn=>?_)
  ·have:=zT ndC hn nbc
   exact (nodup_append.mp nd).2.2 z zI c (by simp) this
  ·have:=wB ndC hn nab
   subst this
   cases I with
   | nil=>cases hz
   | cons i I =>
    have:i=z:=Option.some.inj hh;subst this;exact (nodup_cons.mp (nodup_append.mp nd).1).1 hz
 have kc:lab c d=lab b c:=c1 b c d ebc (vH S.nd r2);have s1:lab b d=lab d b:=sy b d e2 (λ h=>dC (kW h).2) (λ h=>dC (kW h).1);have s2:lab c d=lab d c:=sy c d ecd (λ h=>dC (kW h).2) (λ h=>dC (kW h).1);have s3:lab d b=lab d c:=kBR S c1 sy dC (S.sym _ _ e2) (S.sym _ _ ecd);exact uneq b c nbc (by rw [<-kc,s2,<-s3,<-s1,kb])
theorem kME (G:Wb W) (fl:Flat W) {r:Nat×Nat} (hr:r∈kH W) (h:per W r≠3):∃ j,j<per W r/\(it (nxt W) j r).1≠(it (nxt W) (j+2) r).1/\¬ E W (it (nxt W) j r).1 (it (nxt W) (j+2) r).1:=by
 refine Classical.byContradiction λ no=>?_;have S:=G.toNb;obtain ⟨p0,_,back,first⟩:=wT S hr
 have all:∀ j,(it (nxt W) j r).1=(it (nxt W) (j+2) r).1\/E W (it (nxt W) j r).1 (it (nxt W) (j+2) r).1:=λ j=>by
  refine Classical.byContradiction λ z=>no ⟨j % per W r,Nat.mod_lt _ p0,?_⟩;have e1:it (nxt W) (j % per W r) r=it (nxt W) j r:=(bB (nxt W) r back j).symm
  have e2:it (nxt W) (j % per W r+2) r=it (nxt W) (j+2) r:=by
   rw [show j % per W r+2=2+j % per W r by omega,yJ,e1,<-yJ,Nat.add_comm]
  rw [e1,e2];exact ⟨λ q=>z (.inl q),λ q=>z (.inr q)⟩
 have ne:∀ j,(it (nxt W) j r).1≠(it (nxt W) (j+2) r).1:=λ j e=>by
  have r1:=kIU S hr j;rw [<-e] at r1
  have lone:∀ {x y z:Nat},R W x y y->E W x z->z=y:=λ ⟨row,er,n⟩ ⟨row',er',m⟩=>by
   rw [er] at er'
   cases er'
   exact kIL (S.nd _ _ er) n _ m
  have e23:=kAN S hr (j+2);rcases all (j+1) with q | q
  ·have r2:=kIU S hr (j+1)
   rw [<-q] at r2;have three:=G.three
   have cl:∀ x,Reach W (it (nxt W) j r).1 x->x=(it (nxt W) j r).1\/x=(it (nxt W) (j+1) r).1:=λ x rx=>by
    induction rx with
    | here=>exact .inl rfl
    | more _ ex ih =>
     rcases ih with z | z
     ·rw [z] at ex
      rw [<-e] at r2;exact .inr (lone r2 ex)
     ·rw [z] at ex
      exact .inl (lone r1 ex)
   have al:=(S.e (kAN S hr j)).1;have to:∀ x,x<W.length->Reach W (it (nxt W) j r).1 x:=λ x hx=>(Reach.symm S.sym (G.con _ al)).trans (G.con x hx);have q0:=cl 0 (to 0 (by omega));have q1:=cl 1 (to 1 (by omega));have q2:=cl 2 (to 2 (by omega));omega
  ·have:=lone r1 q
   rw [e] at this;exact (S.e e23).2.2 this
 have three:∀ j,(it (nxt W) (j+3) r).1=(it (nxt W) j r).1:=λ j =>
  kKL G fl (kIU S hr j) (kIU S hr (j+1)) (ne j) (ne (j+1)) ((all j).resolve_left (ne j)) ((all (j+1)).resolve_left (ne (j+1)))
 have i3:it (nxt W) 3 r=r:=Prod.ext (three 0) (three 1)
 have le:per W r<=3:=by
  refine Classical.byContradiction λ z=>first 3 (by omega) (by omega) i3
 rcases (show per W r=1\/per W r=2 by omega) with q | q
 ·rw [q] at back
  have:=(S.e (kAN S hr 0)).2.2;exact this (congrArg Prod.fst back)
 ·rw [q] at back
  exact ne 0 (congrArg Prod.fst back).symm
theorem kJQ {p v q u:Nat} (h:Ins W W' p v q u) {x y:Nat} (e:E W x y):E W' x y:=by
 obtain ⟨row,er,m⟩:=e;by_cases c1:x=p
 ·subst c1
  obtain ⟨r,r',e1,e2,ro⟩:=h.rp;rw [er] at e1;cases e1
  have hv:v∈row:=by
   obtain ⟨r2,e,m⟩:=h.ep;rw [er] at e;cases e
   exact m
  exact ⟨r',e2,(ro.mem y).mp ((jI hv (h.nb.nd _ _ er)).mpr (.inl m))⟩
 ·by_cases c2:x=q
  ·subst c2
   obtain ⟨r,r',e1,e2,ro⟩:=h.rq;rw [er] at e1;cases e1
   have hv:u∈row:=by
    obtain ⟨r2,e,m⟩:=h.eq;rw [er] at e;cases e
    exact m
   exact ⟨r',e2,(ro.mem y).mp ((jI hv (h.nb.nd _ _ er)).mpr (.inl m))⟩
  ·exact ⟨row,by rw [h.ro x c1 c2];exact er,m⟩
theorem kGI {p v q u:Nat} (h:Ins W W' p v q u) {r:Nat×Nat} (hr:r∈kH W) (n1:(p,v)∉rnd W r) (n2:(q,u)∉rnd W r):∀ j,it (nxt W') j r=it (nxt W) j r
 | 0=>rfl
 | j+1=>by
  show nxt W' (it (nxt W') j r)=nxt W (it (nxt W) j r);rw [kGI h hr n1 n2 j];have m1:it (nxt W) j r∈rnd W r:=(qU h.nb hr).mpr ⟨j,rfl⟩;have m2:=vO h.nb hr m1;have ms:=rnd_sub h.nb hr m1;generalize it (nxt W) j r=t at *;obtain ⟨x,y⟩:=t;exact h.other (mem_steps.mp ms) (λ z=>n1 (z ▸ m2)) (λ z=>n2 (z ▸ m2))
theorem kDP {p v q u m:Nat} (h:Ins W W' p v q u) (hm:m<per W (p,v)) (em:it (nxt W) m (p,v)=(q,u)):(facesS W).length+1<=(facesS W').length:=by
 have S:=h.nb;have S':=h.nb';have hs:(p,v)∈kH W:=mem_steps.mpr h.ep;obtain ⟨p0,_,back,first⟩:=wT S hs;obtain ⟨m0,w1,b1,w2,b2⟩:=h.faces back first hm em;obtain ⟨R,lR,rS,cov,uni⟩:=aJ S;obtain ⟨i0,l0,mi0⟩:=cov (p,v) hs;have nqp:¬ E W q p:=λ z=>h.ne (S.sym _ _ z);have up:∀ {t:Nat×Nat},t∈kH W->t∈kH W':=λ {t} ht=>mem_steps.mpr (kJQ h (mem_steps.mp (show (t.1,t.2)∈kH W from ht)))
 have newpq:E W' p q:=by
  obtain ⟨r,r',e1,e2,ro⟩:=h.rp
  have hv:v∈r:=by
   obtain ⟨r2,e,m⟩:=h.ep;rw [e1] at e;cases e
   exact m
  exact ⟨r',e2,(ro.mem q).mp ((jI hv (S.nd _ _ e1)).mpr (.inr rfl))⟩
 have spq:(p,q)∈kH W':=mem_steps.mpr newpq
 have sqp:(q,p)∈kH W':=mem_steps.mpr (S'.sym _ _ newpq)
 have old:∀ j,it (nxt W) j (p,v)∈rnd W (p,v):=λ j=>(qU S hs).mpr ⟨j,rfl⟩
 have rpq:∀ t∈rnd W' (p,q),t=(p,q)\/t∈rnd W (p,v):=λ t ht=>by
  obtain ⟨j,rfl⟩:=(qU S' spq).mp ht;rw [bB (nxt W') (p,q) b2 j];have lt:=Nat.mod_lt j (show 0<per W (p,v)-m+1 by omega);rcases Nat.eq_zero_or_pos (j % (per W (p,v)-m+1)) with z | z
  ·rw [z]
   exact .inl rfl
  ·rw [show j % (per W (p,v)-m+1)=(j % (per W (p,v)-m+1)-1)+1 by omega,w2 _ (by omega)]
   exact .inr (old _)
 have rqp:∀ t∈rnd W' (q,p),t=(q,p)\/t∈rnd W (p,v):=λ t ht=>by
  obtain ⟨j,rfl⟩:=(qU S' sqp).mp ht;rw [bB (nxt W') (q,p) b1 j];have lt:=Nat.mod_lt j (show 0<m+1 by omega);rcases Nat.eq_zero_or_pos (j % (m+1)) with z | z
  ·rw [z]
   exact .inl rfl
  ·rw [show j % (m+1)=(j % (m+1)-1)+1 by omega,w1 _ (by omega)]
   exact .inr (old _)
 have notr:∀ i (hi:i<R.length),i≠i0->R[i]∉rnd W (p,v):=λ i hi ne z=>by
  have hri:=rS _ (getElem_mem hi);have a:=vY S (rS _ (getElem_mem l0)) mi0 (rnd_self S (rS _ (getElem_mem l0)));have b:R[i]∈rnd W R[i0]:=vY S hs a z;exact ne (uni _ i i0 hi l0 (rnd_self S hri) b)
 have notr':∀ i (hi:i<R.length),i≠i0->∀ {t},t∈rnd W (p,v)->t∉rnd W R[i]:=λ i hi ne t ht z=>by
  have hri:=rS _ (getElem_mem hi);have b:R[i]∈rnd W t:=vY S hri z (rnd_self S hri);have hts:=rnd_sub S hs ht;have c1:(p,v)∈rnd W t:=vY S hs ht (rnd_self S hs);exact notr i hi ne (vY S hts c1 b)
 have qu:(q,u)∈rnd W (p,v):=(qU S hs).mpr ⟨m,em⟩;have pv:(p,v)∈rnd W (p,v):=rnd_self S hs;have le:=bG S' (Q:=(p,q)::(q,p)::R.eraseIdx i0) (λ t ht=>?_) ?_
 ·rw [length_cons,length_cons,List.length_eraseIdx,if_pos l0] at le
  omega
 ·rcases mem_cons.mp ht with rfl | ht
  ·exact spq
  rcases mem_cons.mp ht with rfl | ht
  ·exact sqp
  ·exact up (rS t ((List.eraseIdx_sublist ..).subset ht))
 ·have inR:∀ t∈R.eraseIdx i0,∃ i,∃ (hi:i<R.length),i≠i0/\R[i]=t:=λ t ht=>by
   obtain ⟨j,hj,rfl⟩:=mem_iff_getElem.mp ht;rw [List.length_eraseIdx,if_pos l0] at hj;rw [List.getElem_eraseIdx]
   split
   ·exact ⟨j,by omega,by omega,rfl⟩
   ·exact ⟨j+1,by omega,by omega,rfl⟩
  have stepE:∀ t∈R.eraseIdx i0,E W t.1 t.2:=λ t ht=>mem_steps.mp (show (t.1,t.2)∈kH W from rS t ((List.eraseIdx_sublist ..).subset ht));refine pairwise_cons.mpr ⟨λ t ht=>?_,pairwise_cons.mpr ⟨λ t ht=>?_,?_⟩⟩
  ·rcases mem_cons.mp ht with rfl | ht
   ·intro z
    rcases rpq _ z with q1 | q1
    ·injection q1 with a1 a2
     exact h.pq a2
    ·exact nqp (mem_steps.mp (rnd_sub S hs q1))
   ·obtain ⟨i,hi,ne,rfl⟩:=inR t ht
    intro z;rcases rpq _ z with q1 | q1
    ·have:=stepE _ ht
     rw [q1] at this;exact h.ne this
    ·exact notr i hi ne q1
  ·obtain ⟨i,hi,ne,rfl⟩:=inR t ht
   intro z;rcases rqp _ z with q1 | q1
   ·have:=stepE _ ht
    rw [q1] at this;exact nqp this
   ·exact notr i hi ne q1
  ·have pw:R.Pairwise λ a b=>b∉rnd W a:=pairwise_iff_getElem.mpr λ i j hi hj ij z=>by
    have:=uni _ i j hi hj z (rnd_self S (rS _ (getElem_mem hj)));omega
   refine (pw.sublist (List.eraseIdx_sublist ..)).imp_of_mem λ {x y} hx hy hxy z=>hxy ?_;obtain ⟨i,hi,ne,rfl⟩:=inR x hx;have hri:=rS _ (getElem_mem hi);obtain ⟨j,rfl⟩:=(qU S' (up hri)).mp z;rw [kGI h hri (notr' i hi ne pv) (notr' i hi ne qu) j];exact (qU S hri).mpr ⟨j,rfl⟩
theorem kGO (G:Wb W) (fl:Flat W) {p v q u m:Nat} (h:Ins W W' p v q u) (len:W'.length=W.length) (st:(kH W').length=(kH W).length+2) (hm:m<per W (p,v)) (em:it (nxt W) m (p,v)=(q,u)):Wb W'/\Flat W':=by
 have S:=h.nb;have S':=h.nb';have con:∀ x,x<W'.length->Reach W' 0 x:=λ x hx=>Reach.sub (λ a b e=>kJQ h e) (G.con x (by omega));have three:=G.three;have G':Wb W':=⟨S',by omega,con⟩;refine ⟨G',?_⟩;have f1:=kDP h hm em;obtain ⟨row,er⟩ : ∃ row,W'[0]?=some row:=⟨_,List.getElem?_eq_getElem (by omega)⟩;obtain ⟨w0,hw⟩:=List.exists_mem_of_ne_nil row (G'.ne er);have eu:=lY S' con ⟨row,er,hw⟩;have t1:=ties_len S;have t2:=ties_len S';unfold Flat at *;omega
end
def oddL (f:List Nat):Bool:=f.length != 3
noncomputable def oddF (W:Rows):Option (List Nat):=((facesS W).filter oddL).head?
def arnd (f:List Nat):List Nat:=f++f.take 3
def freeJ (W:Rows) (f:List Nat) (j:Nat):Bool:=decide ((arnd f).getD j 0≠(arnd f).getD (j+2) 0/\(arnd f).getD (j+2) 0∉W.getD ((arnd f).getD j 0) [])
def cutJ (W:Rows) (f:List Nat):Nat:=((List.range f.length).filter (freeJ W f)).headD 0
section
variable {W:Rows}
theorem face_of (S:Nb W) {f:List Nat} (hf:f∈facesS W):∃ r∈kH W,f=(rnd W r).map (·.1):=by
 have sub:∀ t∈stepsS W,t∈kH W:=λ t ht=>(sortP_perm _).mem_iff.mp ht;have I:=fgo_ok S (stepsS W) sub;obtain ⟨R,r1,r2,r3⟩:=I.reps;have hf:=(sortL_perm _).mem_iff.mp hf;have hf:f∈(fgo W (stepsS W)).1:=hf;rw [r2] at hf;obtain ⟨r,hr,rfl⟩:=mem_map.mp hf;exact ⟨r,sub r (r1 r hr),rfl⟩
theorem kJF (S:Nb W) {r:Nat×Nat} (hr:r∈kH W) (h3:3<=per W r) {i:Nat} (hi:i<per W r+3):(arnd ((rnd W r).map (·.1))).getD i 0=(it (nxt W) i r).1:=by
 obtain ⟨p0,_,back,_⟩:=wT S hr;have lf:((rnd W r).map (·.1)).length=per W r:=by unfold rnd;simp
 have at':∀ k,k<per W r->((rnd W r).map (·.1))[k]?=some (it (nxt W) k r).1:=λ k hk=>by
  unfold rnd;rw [map_map,List.getElem?_map,List.getElem?_range hk]
  rfl
 unfold arnd;rw [getD_eq_getElem?_getD];rcases Nat.lt_or_ge i (per W r) with c | c
 ·rw [List.getElem?_append_left (by omega),at' i c]
  rfl
 ·rw [List.getElem?_append_right (by omega),lf,List.getElem?_take_of_lt (by omega),at' _ (by omega)]
  show (it (nxt W) (i-per W r) r).1=_
  have:it (nxt W) i r=it (nxt W) (i-per W r) r:=by
   conv=>lhs;rw [show i=(i-per W r)+per W r by omega,yJ,back]
  rw [this]
theorem cut_at_j (G:Wb W) (fl:Flat W) {f:List Nat} (hf:f∈facesS W) (odd:f.length≠3) :
  4<=f.length/\cutJ W f<f.length/\freeJ W f (cutJ W f)=true/\E W ((arnd f).getD (cutJ W f) 0) ((arnd f).getD (cutJ W f+1) 0)/\E W ((arnd f).getD (cutJ W f+2) 0) ((arnd f).getD (cutJ W f+3) 0) /\
   it (nxt W) 2 ((arnd f).getD (cutJ W f) 0,(arnd f).getD (cutJ W f+1) 0)=((arnd f).getD (cutJ W f+2) 0,(arnd f).getD (cutJ W f+3) 0):=by
 have S:=G.toNb;obtain ⟨r,hr,rfl⟩:=face_of S hf;obtain ⟨p0,_,back,first⟩:=wT S hr;have lf:((rnd W r).map (·.1)).length=per W r:=by unfold rnd;simp
 rw [lf] at odd ⊢;obtain ⟨j,hj,n1,n2⟩:=kME G fl hr odd
 have p4:4<=per W r:=by
  refine Classical.byContradiction λ z=>?_;rcases (show per W r=1\/per W r=2 by omega) with q | q
  ·rw [q] at back
   exact (S.e (kAN S hr 0)).2.2 (congrArg Prod.fst back)
  ·rw [q] at back
   have e:it (nxt W) (j+2) r=it (nxt W) j r:=by rw [yJ,back]
   exact n1 (by rw [e])
 have at':∀ {i},i<per W r+3->(arnd ((rnd W r).map (·.1))).getD i 0=(it (nxt W) i r).1:=λ hi=>kJF S hr (by omega) hi
 have fj:freeJ W ((rnd W r).map (·.1)) j=true:=by
  unfold freeJ;rw [at' (show j<per W r+3 by omega),at' (show j+2<per W r+3 by omega),decide_eq_true_iff];refine ⟨n1,λ m=>n2 ?_⟩;rw [getD_eq_getElem?_getD] at m
  cases e:W[(it (nxt W) j r).1]? with
  | none=>rw [e] at m;cases m
  | some row =>
   rw [e] at m;exact ⟨row,e,m⟩
 have mj:cutJ W ((rnd W r).map (·.1))∈(List.range ((rnd W r).map (·.1)).length).filter (freeJ W ((rnd W r).map (·.1))):=by
  have ne:j∈(List.range ((rnd W r).map (·.1)).length).filter (freeJ W ((rnd W r).map (·.1))):=mem_filter.mpr ⟨mem_range.mpr (by rw [lf];exact hj),fj⟩;unfold cutJ;generalize (List.range ((rnd W r).map (·.1)).length).filter (freeJ W ((rnd W r).map (·.1)))=L at *
  cases L with
  | nil=>cases ne
  | cons x L=>simp
 obtain ⟨m1,m2⟩:=mem_filter.mp mj;have m1:=mem_range.mp m1;rw [lf] at m1;generalize cutJ W ((rnd W r).map (·.1))=k at *;refine ⟨p4,m1,m2,?_⟩;rw [at' (show k<per W r+3 by omega),at' (show k+1<per W r+3 by omega),at' (show k+2<per W r+3 by omega),at' (show k+3<per W r+3 by omega)];exact ⟨kAN S hr k,kAN S hr (k+2),rfl⟩
end
def nextW (W W1:Rows):Prop:=∃ (f:List Nat) (p v q u:Nat) (rp rq a b:List Nat),oddF W=some f/\p=(arnd f).getD (cutJ W f) 0/\v=(arnd f).getD (cutJ W f+1) 0/\q=(arnd f).getD (cutJ W f+2) 0/\u=(arnd f).getD (cutJ W f+3) 0 /\
 W[p]?=some rp/\W[q]?=some rq/\Ro (qF rp v q) a/\Can a/\Ro (qF rq u p) b/\Can b/\a.Nodup/\b.Nodup/\W1=jL W p q a b
theorem nextW.one {W A B:Rows} (h:nextW W A) (h':nextW W B):A=B:=by
 obtain ⟨f,p,v,q,u,rp,rq,a,b,e1,rfl,rfl,rfl,rfl,e2,e3,r1,c1,r2,c2,n1,n2,rfl⟩:=h;obtain ⟨f',p',v',q',u',rp',rq',a',b',e1',rfl,rfl,rfl,rfl,e2',e3',r1',c1',r2',c2',n1',n2',rfl⟩:=h';rw [e1] at e1'
 cases e1'
 rw [e2] at e2'
 cases e2'
 rw [e3] at e3'
 cases e3'
 rw [(r1.symm.trans r1').eq n1 c1 c1',(r2.symm.trans r2').eq n2 c2 c2']
inductive Fd:Rows->Rows->Prop
 | done {W:Rows}:oddF W=none->Fd W W
 | step {W W1 X:Rows}:nextW W W1->Fd W1 X->Fd W X
theorem Fd.one {W A B:Rows} (h:Fd W A) (h':Fd W B):A=B:=by
 induction h generalizing B with
 | done e =>
  cases h' with
  | done=>rfl
  | step n _ =>
   obtain ⟨f,_,_,_,_,_,_,_,_,e1,_⟩:=n;rw [e] at e1;cases e1
 | step n _ ih =>
  cases h' with
  | done e =>
   obtain ⟨f,_,_,_,_,_,_,_,_,e1,_⟩:=n;rw [e] at e1;cases e1
  | step n' h' =>
   have:=n.one n';subst this;exact ih h'
theorem odd_none {W:Rows} (h:oddF W=none):∀ f∈facesS W,f.length=3:=λ f hf=>by
 unfold oddF at h
 have e:(facesS W).filter oddL=[]:=by
  cases z:(facesS W).filter oddL with
  | nil=>rfl
  | cons x l=>rw [z] at h;cases h
 have:=List.filter_eq_nil_iff.mp e f hf;unfold oddL at this;simpa using this
theorem odd_some {W:Rows} {f:List Nat} (h:oddF W=some f):f∈facesS W/\f.length≠3:=by
 unfold oddF at h;have:=mem_filter.mp (List.mem_of_head? h);refine ⟨this.1,?_⟩;have:=this.2;unfold oddL at this;simpa using this
theorem tO {W:Rows} {p q:Nat} {rp rq a b:List Nat} (hp:W[p]?=some rp) (hq:W[q]?=some rq) (pq:p≠q) (la:a.length=rp.length+1) (lb:b.length=rq.length+1):(kH (jL W p q a b)).length=(kH W).length+2:=by
 rw [qZ,qZ];unfold jL;have s1:=yV W p rp a hp;have s2:=yV (W.set p a) q rq b (by rw [List.getElem?_set_ne pq];exact hq);omega
theorem fill_turn {W0 W:Rows} {T:List (Nat×Nat)} (G:Wb W) (fl:Flat W) (P:Plus W0 W T) {f:List Nat} (hf:oddF W=some f) {p v q u:Nat} (ep:p=(arnd f).getD (cutJ W f) 0) (ev:v=(arnd f).getD (cutJ W f+1) 0) (eq:q=(arnd f).getD (cutJ W f+2) 0) (eu:u=(arnd f).getD (cutJ W f+3) 0) :
  ∃ rp rq,W[p]?=some rp/\W[q]?=some rq/\v∈rp/\u∈rq/\p≠q/\q∉rp/\it (nxt W) 2 (p,v)=(q,u)/\∀ a b,Ro (qF rp v q) a->Can a->Ro (qF rq u p) b->Can b ->
   Wb (jL W p q a b)/\Flat (jL W p q a b)/\Plus W0 (jL W p q a b) (T++[key p q])/\nextW W (jL W p q a b)/\(kH (jL W p q a b)).length=(kH W).length+2:=by
 have S:=G.toNb;obtain ⟨h1,h2⟩:=odd_some hf;obtain ⟨p4,cj,fj,eA,eB,itq⟩:=cut_at_j G fl h1 h2;rw [<-ep,<-ev] at eA;rw [<-eq,<-eu] at eB;rw [<-ep,<-ev,<-eq,<-eu] at itq;unfold freeJ at fj;rw [<-ep,<-eq] at fj;obtain ⟨n1,n2⟩:=of_decide_eq_true fj;obtain ⟨rp,hp,mv⟩:=id eA;obtain ⟨rq,hq,mu⟩:=id eB;have gp:W.getD p []=rp:=by rw [getD_eq_getElem?_getD,hp];rfl
 rw [gp] at n2;refine ⟨rp,rq,hp,hq,mv,mu,n1,n2,itq,λ a b ra ca rb cb=>?_⟩
 have nq:p∉rq:=λ z=>by
  obtain ⟨r,e,m⟩:=S.sym q p ⟨rq,hq,z⟩;rw [hp] at e;cases e
  exact n2 m
 have I:=kLW S hp hq n1 mv mu n2 ra rb;have na:=ra.nd.mp (zA mv (S.nd _ _ hp) n2);have nb:=rb.nd.mp (zA mu (S.nd _ _ hq) nq);have st:=tO (a:=a) (b:=b) hp hq n1 (by rw [<-ra.perm.length_eq,jJ mv]) (by rw [<-rb.perm.length_eq,jJ mu]);have hs:(p,v)∈kH W:=mem_steps.mpr eA;obtain ⟨p0,_,back,_⟩:=wT S hs
 have m2:2<per W (p,v):=by
  refine Classical.byContradiction λ z=>?_
  have key:it (nxt W) 2 (p,v)=(p,v):=by
   rcases (show per W (p,v)=1\/per W (p,v)=2 by omega) with c | c
   ·rw [c] at back
    show nxt W (it (nxt W) 1 (p,v))=(p,v);rw [back];exact back
   ·rw [c] at back
    exact back
  rw [itq] at key;exact n1 (congrArg Prod.fst key).symm
 obtain ⟨G',fl'⟩:=kGO G fl I (qQ ..) st m2 itq;exact ⟨G',fl',P.put hp hq n1 mv mu n2 ra rb ca cb,⟨f,p,v,q,u,rp,rq,a,b,hf,ep,ev,eq,eu,hp,hq,ra,ca,rb,cb,na,nb,rfl⟩,st⟩
end Fc
namespace L2
open PySem PySem.Spec PyProof.Rows
section
variable {X:Cx} {a b c d:Expr} {ta tb tc td:TE} {pos:Pos}
def kHM (r r' r'':R2) (ta tb tc td:TE):TE:=λ σ H Q=>ta σ H λ x H1=>tb σ H1 λ y H2=>r x y H2 λ z H3=>∃ k,z=.bl k /\
 (if k=true then tc σ H3 λ w' H4=>r' y w' H4 λ z' H5=>∃ k',z'=.bl k'/\(if k'=true then td σ H5 λ w2 H6=>r'' w' w2 H6 Q else Q (.bl false) H5) else Q (.bl false) H3)
theorem kCW {op op' op'':CmpOp} {r r' r'':R2} (ho:OpR X (compareOp op) r) (ho':OpR X (compareOp op') r') (ho'':OpR X (compareOp op'') r'') (ha:PE X a ta) (hb:PE X b tb) (hc:PE X c tc) (hd:PE X d td)
  (hm:lastMarks [op,op',op''] [b,c,d]=false:=by with_unfolding_all rfl):PT X (.Compare a [op,op',op''] [b,c,d] pos) (kJK (kHM r r' r'' ta tb tc td)):=by
 intro pins s σ H Q I h
 refine isTrue_chain (thn (ha pins s σ H _ I h) λ v s1 ⟨x,H1,I1,r1,q1⟩=>test_link (thn (hb pins s1 σ H1 _ I1 q1) λ u s2 ⟨y,H2,I2,r2,q2⟩ =>
  thn (ho pins s2 σ H2 x y v u _ I2 r1 r2 q2) λ e1 s3 ⟨z,H3,I3,r3,k,e,q3⟩=>?_)) hm
 subst e;cases r3
 refine wpAny_truthy_bool ?_
 cases k with
 | false =>
  obtain ⟨k',e',q'⟩:=q3
  cases e'
  exact ite_ff ⟨H3,I3,q'⟩
 | true =>
  refine ite_tt (test_link (thn (hc pins s3 σ H3 _ I3 q3) λ w' s4 ⟨z',H4,I4,r4,q4⟩=>thn (ho' pins s4 σ H4 y z' u w' _ I4 r2 r4 q4) λ d' s5 ⟨z2,H5,I5,r5,k2,e2,q5⟩=>?_));subst e2;cases r5
  refine wpAny_truthy_bool ?_
  cases k2 with
  | false =>
   obtain ⟨k',e',q'⟩:=q5
   cases e'
   exact ite_ff ⟨H5,I5,q'⟩
  | true =>
   refine ite_tt (test_last (thn (hd pins s5 σ H5 _ I5 q5) λ w2 s6 ⟨z3,H6,I6,r6,q6⟩=>thn (ho'' pins s6 σ H6 z' z3 w' w2 _ I6 r4 r6 q6) λ d2 s7 ⟨z4,H7,I7,r7,k3,e3,q7⟩=>?_));subst e3;cases r7
   exact wpAny_truthy_bool ⟨H7,I7,q7⟩
end
end L2
namespace Prf
open PySem L2 Own Tri Cyc Rnd
def top (i:Nat):Stmt:=PySem.Challenge.pw_restdraw_k25_whole_filled.main.body.getD i (.Pass ⟨0,0,0,0⟩)
abbrev wI:Stmt:=top 8
theorem sc_from_on:FnScope ["row","first","start"] ["row","first"] (kF wI):=⟨rfl,rfl,rfl,by decide +kernel,rfl,by decide +kernel,by decide +kernel⟩
abbrev xU:Stmt:=top 9
theorem mJ:FnScope ["row"] ["row"] (kF xU):=⟨rfl,rfl,rfl,by decide +kernel,rfl,by decide +kernel,by decide +kernel⟩
abbrev zD:Stmt:=top 10
theorem rK:FnScope ["web"] ["web"] (kF zD):=⟨rfl,rfl,rfl,by decide +kernel,rfl,by decide +kernel,by decide +kernel⟩
abbrev jE:Stmt:=top 11
theorem sc_hang_together:FnScope ["rows","without","left","seen","waiting","p","q"] ["rows","without"] (kF jE):=⟨rfl,rfl,rfl,by decide +kernel,rfl,by decide +kernel,by decide +kernel⟩
abbrev cZ:Stmt:=top 12
theorem kHQ:FnScope ["web"] ["web"] (kF cZ):=⟨rfl,rfl,rfl,by decide +kernel,rfl,by decide +kernel,by decide +kernel⟩
abbrev vN:Stmt:=top 13
theorem sc_behind:FnScope ["web","step","p","q","row"] ["web","step"] (kF vN):=⟨rfl,rfl,rfl,by decide +kernel,rfl,by decide +kernel,by decide +kernel⟩
abbrev xE:Stmt:=top 14
theorem sc_steps_round:FnScope ["web","step","steps","further"] ["web","step"] (kF xE):=⟨rfl,rfl,rfl,by decide +kernel,rfl,by decide +kernel,by decide +kernel⟩
abbrev aG:Stmt:=top 15
theorem sc_faces:FnScope ["web","told","seen","step","steps"] ["web"] (kF aG):=⟨rfl,rfl,rfl,by decide +kernel,rfl,by decide +kernel,by decide +kernel⟩
abbrev wH:Stmt:=top 16
theorem tQ:FnScope ["web"] ["web"] (kF wH):=⟨rfl,rfl,rfl,by decide +kernel,rfl,by decide +kernel,by decide +kernel⟩
abbrev jS:Stmt:=top 17
theorem fH:FnScope ["web"] ["web"] (kF jS):=⟨rfl,rfl,rfl,by decide +kernel,rfl,by decide +kernel,by decide +kernel⟩
abbrev qS:Stmt:=top 19
theorem sc_uncornered_face:FnScope ["web","some"] ["web"] (kF qS):=⟨rfl,rfl,rfl,by decide +kernel,rfl,by decide +kernel,by decide +kernel⟩
abbrev wG:Stmt:=top 21
theorem sc_is_step:FnScope ["web","pair","p","q"] ["web","pair"] (kF wG):=⟨rfl,rfl,rfl,by decide +kernel,rfl,by decide +kernel,by decide +kernel⟩
abbrev xD:Stmt:=top 22
theorem sc_with_behind:FnScope ["row","place","added","at"] ["row","place","added"] (kF xD):=⟨rfl,rfl,rfl,by decide +kernel,rfl,by decide +kernel,by decide +kernel⟩
abbrev vL:Stmt:=top 23
theorem sc_put_in:FnScope ["web","step","other","p","v","q","w","rows"] ["web","step","other"] (kF vL):=⟨rfl,rfl,rfl,by decide +kernel,rfl,by decide +kernel,by decide +kernel⟩
abbrev xF:Stmt:=top 24
theorem sc_row_without:FnScope ["row","place","left"] ["row","place"] (kF xF):=⟨rfl,rfl,rfl,by decide +kernel,rfl,by decide +kernel,by decide +kernel⟩
abbrev yL:Stmt:=top 25
theorem sc_taken_out:FnScope ["web","tie","p","q","rows"] ["web","tie"] (kF yL):=⟨rfl,rfl,rfl,by decide +kernel,rfl,by decide +kernel,by decide +kernel⟩
abbrev nA:Stmt:=top 27
theorem sc_cut:FnScope ["web","face","around","corners","free","p","v","q","w"] ["web","face"] (kF nA):=⟨rfl,rfl,rfl,by decide +kernel,rfl,by decide +kernel,by decide +kernel⟩
abbrev vM:Stmt:=top 28
theorem sc_filled:FnScope ["web","full","face","step","other","before"] ["web"] (kF vM):=⟨rfl,rfl,rfl,by decide +kernel,rfl,by decide +kernel,by decide +kernel⟩
abbrev wD:Stmt:=top 30
theorem sc_law_pot:FnScope ["_law_script","_law_k","_law_cell"] ["_law_script","_law_k"] (kF wD):=⟨rfl,rfl,rfl,by decide +kernel,rfl,by decide +kernel,by decide +kernel⟩
abbrev yQ:Stmt:=top 31
theorem sc_law_digit:FnScope ["_law_pot_here","_law_many","_law_digit_here"] ["_law_pot_here","_law_many"] (kF yQ):=⟨rfl,rfl,rfl,by decide +kernel,rfl,by decide +kernel,by decide +kernel⟩
abbrev yR:Stmt:=top 32
theorem sc_law_ahead:FnScope ["_law_rows","_law_p","_law_q","_law_row"] ["_law_rows","_law_p","_law_q"] (kF yR):=⟨rfl,rfl,rfl,by decide +kernel,rfl,by decide +kernel,by decide +kernel⟩
abbrev xT:Stmt:=top 33
theorem sc_law_behind:FnScope ["_law_rows","_law_p","_law_v","_law_new","_law_row"] ["_law_rows","_law_p","_law_v","_law_new"] (kF xT):=⟨rfl,rfl,rfl,by decide +kernel,rfl,by decide +kernel,by decide +kernel⟩
abbrev wF:Stmt:=top 34
theorem sc_law_add:FnScope ["_law_rows","_law_p","_law_q","_law_r","_law_new"] ["_law_rows","_law_p","_law_q"] (kF wF):=⟨rfl,rfl,rfl,by decide +kernel,rfl,by decide +kernel,by decide +kernel⟩
abbrev zF:Stmt:=top 35
theorem sc_law_flip:FnScope ["_law_rows","_law_p","_law_q","_law_r","_law_s"] ["_law_rows","_law_p","_law_q"] (kF zF):=⟨rfl,rfl,rfl,by decide +kernel,rfl,by decide +kernel,by decide +kernel⟩
abbrev zE:Stmt:=top 36
theorem sc_law_step:FnScope ["_law_pot_here","_law_rows","_law_p"] ["_law_pot_here","_law_rows"] (kF zE):=⟨rfl,rfl,rfl,by decide +kernel,rfl,by decide +kernel,by decide +kernel⟩
abbrev jT:Stmt:=top 37
theorem sc_law_cornered:FnScope ["_law_pot_here","_law_n","_law_rows","_law_k","_law_p","_law_q"] ["_law_pot_here","_law_n"] (kF jT):=⟨rfl,rfl,rfl,by decide +kernel,rfl,by decide +kernel,by decide +kernel⟩
abbrev yO:Stmt:=top 38
theorem sc_law_hangs:FnScope ["_law_rows","_law_found","_law_at","_law_q"] ["_law_rows"] (kF yO):=⟨rfl,rfl,rfl,by decide +kernel,rfl,by decide +kernel,by decide +kernel⟩
abbrev xG:Stmt:=top 39
theorem sc_law_without:FnScope ["_law_rows","_law_p","_law_q","_law_found"] ["_law_rows","_law_p","_law_q"] (kF xG):=⟨rfl,rfl,rfl,by decide +kernel,rfl,by decide +kernel,by decide +kernel⟩
abbrev xH:Stmt:=top 40
theorem sc_law_thinned:FnScope ["_law_pot_here","_law_rows","_law_many","_law_k","_law_p","_law_q"] ["_law_pot_here","_law_rows","_law_many"] (kF xH):=⟨rfl,rfl,rfl,by decide +kernel,rfl,by decide +kernel,by decide +kernel⟩
abbrev yN:Stmt:=top 41
theorem sc_law_names:FnScope ["_law_pot_here","_law_n","_law_found","_law_k"] ["_law_pot_here","_law_n"] (kF yN):=⟨rfl,rfl,rfl,by decide +kernel,rfl,by decide +kernel,by decide +kernel⟩
abbrev jA:Stmt:=top 42
theorem sc_law_from_least:FnScope ["_law_row","_law_k"] ["_law_row"] (kF jA):=⟨rfl,rfl,rfl,by decide +kernel,rfl,by decide +kernel,by decide +kernel⟩
abbrev wC:Stmt:=top 43
theorem sc_law_web:FnScope ["_law_rows","_law_names_here","_law_found","_law_p","_law_row"] ["_law_rows","_law_names_here"] (kF wC):=⟨rfl,rfl,rfl,by decide +kernel,rfl,by decide +kernel,by decide +kernel⟩
abbrev yP:Stmt:=top 44
theorem sc_law_drawn:FnScope ["_law_pot_here","_law_n","_law_rows"] ["_law_pot_here"] (kF yP):=⟨rfl,rfl,rfl,by decide +kernel,rfl,by decide +kernel,by decide +kernel⟩
abbrev wE:Stmt:=top 45
theorem sc_law_out:FnScope ["_law_web_here","_law_tie","_law_p","_law_q","_law_rows"] ["_law_web_here","_law_tie"] (kF wE):=⟨rfl,rfl,rfl,by decide +kernel,rfl,by decide +kernel,by decide +kernel⟩
abbrev xS:Stmt:=top 46
theorem sc_law_is_web:FnScope ["_law_found","_law_due","_law_row"] ["_law_found","_law_due"] (kF xS):=⟨rfl,rfl,rfl,by decide +kernel,rfl,by decide +kernel,by decide +kernel⟩
abbrev qL:Stmt:=top 47
theorem sc_law_three_cornered:FnScope ["_law_web_here","_law_p","_law_q","_law_r"] ["_law_web_here"] (kF qL):=⟨rfl,rfl,rfl,by decide +kernel,rfl,by decide +kernel,by decide +kernel⟩
abbrev jU:Stmt:=top 48
theorem sc_law_are_ties:FnScope ["_law_added","_law_web_here","_law_made","_law_k","_law_tie"] ["_law_added","_law_web_here","_law_made"] (kF jU):=⟨rfl,rfl,rfl,by decide +kernel,rfl,by decide +kernel,by decide +kernel⟩
abbrev zG:Stmt:=top 49
theorem sc_law_back:FnScope ["_law_pot_here","_law_made","_law_added","_law_left","_law_tie","_law_due"] ["_law_pot_here","_law_made","_law_added"] (kF zG):=⟨rfl,rfl,rfl,by decide +kernel,rfl,by decide +kernel,by decide +kernel⟩
abbrev yM:Stmt:=top 50
theorem sc_law_right:FnScope ["_law_pot_here","_law_web_here","_law_found","_law_made","_law_added","_law_kept"] ["_law_pot_here","_law_web_here"] (kF yM):=⟨rfl,rfl,rfl,by decide +kernel,rfl,by decide +kernel,by decide +kernel⟩
abbrev bR:Stmt:=top 51
theorem sc_law:FnScope ["_law_script","_law_k","_law_pot_here","_law_web_here"] ["_law_script"] (kF bR):=⟨rfl,rfl,rfl,by decide +kernel,rfl,by decide +kernel,by decide +kernel⟩
theorem kE {H:Hp} {p:Addr} (h:H p=none) (o:HO):Same H (upd H p o):=λ b u q=>by rw [kK (kL q h)];exact q
def SameBut (a:Addr) (H H':Hp):Prop:=∀ b o,b≠a->H b=some o->H' b=some o
def kEY (K:PySem.W.Frag):Sp:=λ vs H Q _=>∃ (a:Addr) (ns:List Int) (k:Int),vs=[.ref a,.int k]/\SqL K H a (ns.map V.int)/\ns.length<=63/\0<=k/\k<=63 /\
 ∀ (p:Addr) (x y:Int) (H':Hp),0<=x->Same H H'->H p=none->H' p=some (.lst [.int x,.int y])->Q (.ref p) H'
def PotAt (H:Hp) (a:Addr):Prop:=∃ x y:Int,H a=some (.lst [.int x,.int y])/\0<=x
def vX:Sp:=λ vs H Q _=>∃ (a:Addr) (m:Int),vs=[.ref a,.int m]/\PotAt H a/\0<m/\m.natAbs<2 ^ 9000 /\
 ∀ (d:Int) (H':Hp),0<=d->d<m->SameBut a H H'->PotAt H' a->Q (.int d) H'
def vn (n:Nat):V:=.int (n:Int)
def ci (n:Nat):Int:=n
structure RowsAt (H:Hp) (r:Addr) (A:List Addr) (L:Rows):Prop where
 top:H r=some (.lst (A.map V.ref))
 len:A.length=L.length
 nd:A.Nodup
 out:r∉A
 row:∀ (i:Nat) (a:Addr) (ns:List Nat),A[i]?=some a->L[i]?=some ns->H a=some (.lst (ns.map vn))
theorem jO (ns:List Nat):ns.map vn=(ns.map ci).map V.int:=by
 rw [map_map]
 rfl
theorem qC {ns:List Nat} {n:Nat} (h:n∈ns):cT (ns.map ci) (n:Int) (ns.idxOf n):=by
 have hl:=idxOf_lt_length_of_mem h;refine ⟨?_,λ m hm e=>?_⟩
 ·rw [List.getElem?_map,List.getElem?_eq_getElem hl,List.getElem_idxOf hl]
  rfl
 ·have hm':m<ns.length:=by omega
  rw [List.getElem?_map,List.getElem?_eq_getElem hm'] at e
  have e2:ns[m]=n:=by
   have z:((ns[m]:Nat):Int)=(n:Int):=Option.some.inj e;omega
  have q:=List.not_of_lt_findIdx (p:=(· == n)) (xs:=ns) hm;rw [e2] at q;simp at q
theorem RowsAt.at {H:Hp} {r:Addr} {A:List Addr} {L:Rows} (x:RowsAt H r A L) {i:Nat} {ns:List Nat} (h:L[i]?=some ns):∃ a,A[i]?=some a/\H a=some (.lst (ns.map vn))/\atI (A.map V.ref) (i:Int)=some (.ref a):=by
 have hi:i<A.length:=by rw [x.len];exact (List.getElem?_eq_some_iff.mp h).1
 refine ⟨A[i],List.getElem?_eq_getElem hi,x.row i _ ns (List.getElem?_eq_getElem hi) h,jM ?_⟩;rw [List.getElem?_map,List.getElem?_eq_getElem hi]
 rfl
def bN:Sp:=λ vs H Q _=>∃ (r b:Addr) (xs:List V) (p q:Nat) (row:List Nat) (v:Nat),vs=[.ref r,vn p,vn q]/\(H r=some (.lst xs)/\H b=some (.lst (row.map vn))\/H r=some (.tup xs)/\H b=some (.tup (row.map vn)))/\atI xs (q:Int)=some (.ref b)/\p∈row/\jG row p=some v/\Q (vn v) H
theorem pX {row:List Nat} {p v:Nat} (hp:p∈row) (h:jG row p=some v):atI (row.map vn) ((row.idxOf p:Int)-1)=some (vn v):=by
 have hl:=idxOf_lt_length_of_mem hp;unfold jG at h;by_cases h0:row.idxOf p=0
 ·rw [if_pos h0] at h
  rw [h0]
  have e:row=row.dropLast++[v]:=by
   have ne:row≠[]:=λ z=>by rw [z] at hp;cases hp
   rw [List.getLast?_eq_some_getLast ne] at h;rw [<-Option.some.inj h];exact (dropLast_concat_getLast ne).symm
  rw [e,map_append];exact kHC _ _
 ·rw [if_neg h0] at h
  have e:((row.idxOf p:Int)-1)=((row.idxOf p-1:Nat):Int):=by omega
  rw [e];exact jM (by rw [List.getElem?_map,h];rfl)
section
variable {P:Program} {w:World} {K:PySem.W.Frag} {mg:Str->Option Value} {base:Heap}
theorem at0 {x y:V}:atI [x,y] 0=some x:=rfl
theorem at1 {x y:V}:atI [x,y] 1=some y:=rfl
theorem pI {f:Addr} {fd:FuncData} (F:Fun K "_law_ahead" "_law_ahead" yR f fd):FnOk P w K mg base CX0 1 f fd ["_law_rows","_law_p","_law_q"] (bN):=by
 refine F.ok sc_law_ahead (λ vs H Q E h=>?_) (λ cdv A outer s H vs Q E hr h=>?_)
 ·obtain ⟨r,b,xs,p,q,row,v,rfl,_⟩:=h
  rfl
 obtain ⟨r,b,xs,p,q,row,v,rfl,⟨h1,e2⟩ | ⟨h1,e2⟩,e3,hp,hv,k⟩:=h
 ·refine ⟨_,(kD (kT (i:=3) sc_law_ahead.nd rfl (Or.inl rfl) (kX kZ (pv 0) (pv 2) (λ _ _=>rfl)))
   (kI (kS (kX kZ (pv 3) (qM dE (jW PySem.F.plainAttrs_list PySem.F.slot_list_index PySem.F.type_list_index bX (pv 3) (kA (pv 1) kB)) kM) (λ _ _=>rfl))))),?_⟩
  refine ⟨_,rfl,_,rfl,r,_,_,_,rfl,rfl,SqL.of h1,e3,?_⟩;refine ⟨_,rfl,_,rfl,.inl ⟨rfl,_,SqL.of e2⟩,_,rfl,b,row.map ci,p,row.idxOf p,rfl,rfl,by rw [e2,jO],qC hp,_,_,rfl,rfl,?_⟩;exact ⟨b,_,_,_,rfl,rfl,SqL.of e2,pX hp hv,k⟩
 ·refine ⟨_,(kD (kT (i:=3) sc_law_ahead.nd rfl (Or.inl rfl) (kX qX (pv 0) (pv 2) (λ _ _=>rfl)))
   (kI (kS (kX qX (pv 3) (qM dE (jW PySem.F.plainAttrs_tuple PySem.F.slot_tuple_index PySem.F.type_tuple_index aM (pv 3) (kA (pv 1) kB)) kM) (λ _ _=>rfl))))),?_⟩
  refine ⟨_,rfl,_,rfl,r,_,_,_,rfl,rfl,SqT.of h1,e3,?_⟩;refine ⟨_,rfl,_,rfl,.inr (.inl ⟨rfl,.inr ⟨_,e2⟩⟩),_,rfl,b,row.map ci,p,row.idxOf p,rfl,rfl,SqT.of (by rw [e2,jO]),qC hp,_,_,rfl,rfl,?_⟩;exact ⟨b,_,_,_,rfl,rfl,SqT.of e2,pX hp hv,k⟩
theorem RowsAt.set {H:Hp} {r:Addr} {A:List Addr} {L:Rows} (x:RowsAt H r A L) {i:Nat} {a:Addr} (h:A[i]?=some a) (ns:List Nat):RowsAt (upd H a (.lst (ns.map vn))) r A (L.set i ns):=by
 have ra:r≠a:=λ z=>x.out (z ▸ mem_of_getElem? h);have hi:i<L.length:=by rw [<-x.len];exact (List.getElem?_eq_some_iff.mp h).1
 refine ⟨by rw [kK ra];exact x.top,by rw [length_set];exact x.len,x.nd,x.out,λ j b ms hb hj=>?_⟩;rcases vC hi hj with ⟨rfl,rfl⟩ | ⟨ne,hj⟩
 ·rw [h] at hb
  cases hb
  exact kC
 ·have ba:b≠a:=λ z=>by
   subst z;have:=(List.getElem?_inj (List.getElem?_eq_some_iff.mp hb).1 x.nd).mp (hb.trans h.symm);exact ne this
  rw [kK ba];exact x.row j b ms hb hj
def ButRows (r:Addr) (A:List Addr) (H H':Hp):Prop:=∀ b o,b≠r->b∉A->H b=some o->H' b=some o
def bM:Sp:=λ vs H Q _=>∃ (r:Addr) (A:List Addr) (L:Rows) (p v n:Nat) (row:List Nat),vs=[.ref r,vn p,vn v,vn n]/\RowsAt H r A L/\L[p]?=some row/\v∈row/\row.length<=1000 /\
 ∀ H',ButRows r A H H'->RowsAt H' r A (L.set p (qF row v n))->Q .non H'
theorem mL {f:Addr} {fd:FuncData} (F:Fun K "_law_behind" "_law_behind" xT f fd):FnOk P w K mg base CX0 1 f fd ["_law_rows","_law_p","_law_v","_law_new"] (bM):=by
 refine F.ok sc_law_behind (λ vs H Q E h=>?_) (λ cdv A outer s H vs Q E hr h=>?_)
 ·obtain ⟨r,A,L,p,v,n,row,rfl,_⟩:=h
  rfl
 obtain ⟨r,A1,L,p,v,n,row,rfl,X,hp,hv,hl,k⟩:=h
 refine ⟨_,(kD (kT (i:=4) sc_law_behind.nd rfl (Or.inl rfl) (kX kZ (pv 0) (pv 1) (λ _ _=>rfl)))
   (kI (qJ (jW PySem.F.plainAttrs_list PySem.F.slot_list_insert PySem.F.type_list_insert nI (pv 4) (kA (qM yZ (jW PySem.F.plainAttrs_list PySem.F.slot_list_index PySem.F.type_list_index bX (pv 4) (kA (pv 2) kB)) kM) (kA (pv 3) kB)))))),?_⟩
 obtain ⟨a,e1,e2,e3⟩:=X.at hp;have il:=idxOf_lt_length_of_mem hv;refine ⟨_,rfl,_,rfl,r,_,_,_,rfl,rfl,SqL.of X.top,e3,?_⟩;refine ⟨_,rfl,.inl ⟨rfl,_,SqL.of e2⟩,_,rfl,.inl ⟨rfl,_,SqL.of e2⟩,_,rfl,a,row.map ci,v,row.idxOf v,rfl,rfl,by rw [e2,jO],qC hv,_,_,rfl,rfl,_,rfl,a,_,_,_,rfl,rfl,e2,by omega,by omega,by rw [length_map];exact qG hl,?_⟩
 have e:List.take ((row.idxOf v:Int)+1).toNat (row.map vn)++vn n::List.drop ((row.idxOf v:Int)+1).toNat (row.map vn)=(qF row v n).map vn:=by
  have z:((row.idxOf v:Int)+1).toNat=row.idxOf v+1:=by omega
  rw [z];unfold qF;rw [map_append,map_take,map_cons,map_drop]
 have q:=k (upd H a (.lst ((qF row v n).map vn))) (λ b o _ hb h=>by
  have ne:b≠a:=λ z=>hb (by rw [z];exact mem_of_getElem? e1);rw [kK ne];exact h) (X.set e1 _)
 rw [<-e] at q;exact q
theorem ButRows.trans {r:Addr} {A:List Addr} {H H1 H2:Hp} (x:ButRows r A H H1) (y:ButRows r A H1 H2):ButRows r A H H2:=λ b o h1 h2 h=>y b o h1 h2 (x b o h1 h2 h)
theorem dA {L:Rows} (G:Good L) {p:Nat} {row:List Nat} (h:L[p]?=some row):row.length<=6*L.length:=by
 have q:=yV L p row [] h;have t:=G.tot;simp only [length_nil] at q;omega
theorem RowsAt.app {H:Hp} {r:Addr} {A:List Addr} {L:Rows} (x:RowsAt H r A L) {a:Addr} (h:H a=none) (ns:List Nat):RowsAt (upd (upd H a (.lst (ns.map vn))) r (.lst (A.map V.ref++[V.ref a]))) r (A++[a]) (L++[ns]):=by
 have ra:r≠a:=kL x.top h
 have na:∀ b,b∈A->b≠a:=λ b hb=>by
  obtain ⟨i,hi,rfl⟩:=mem_iff_getElem.mp hb;have hi':i<L.length:=by rw [<-x.len];exact hi
  exact kL (x.row i _ _ (List.getElem?_eq_getElem hi) (List.getElem?_eq_getElem hi')) h
 refine ⟨by rw [kC,map_append];rfl,by simp [x.len],?_,?_,λ i b ms hb hi=>?_⟩
 ·rw [nodup_append]
  exact ⟨x.nd,by simp,λ b hb c hc=>by simp at hc;rw [hc];exact na b hb⟩
 ·intro z
  rcases mem_append.mp z with z | z
  ·exact x.out z
  ·exact ra (by simpa using z)
 ·by_cases hl:i<A.length
  ·rw [List.getElem?_append_left hl] at hb
   rw [List.getElem?_append_left (by rw [<-x.len];exact hl)] at hi;have bm:=mem_of_getElem? hb;have br:b≠r:=λ z=>x.out (by rw [<-z];exact bm);rw [kK br,kK (na b bm)];exact x.row i b ms hb hi
  ·have e:i=A.length:=by
    have:=(List.getElem?_eq_some_iff.mp hb).1;simp at this;omega
   subst e;rw [List.getElem?_append_right (Nat.le_refl _)] at hb;rw [List.getElem?_append_right (by rw [x.len];exact Nat.le_refl _)] at hi;rw [x.len] at hi;simp at hb hi;subst hb hi;rw [kK ra.symm,kC]
def kFC:Sp:=λ vs H Q _=>∃ (r:Addr) (A:List Addr) (L:Rows) (p q:Nat),vs=[.ref r,vn p,vn q]/\RowsAt H r A L/\Good L/\L.length<=150/\E L p q /\
 ∀ (x:Addr) (L':Rows) (H':Hp),H x=none->ButRows r A H H'->RowsAt H' r (A++[x]) L'->Good L'->L'.length=L.length+1->Q .non H'
theorem kAE {f:Addr} {fd:FuncData} (F:Fun K "_law_add" "_law_add" wF f fd) (qP:Own.Has P w K mg base "_law_ahead" ["_law_rows","_law_p","_law_q"] 1 (bN)) (qY:Own.Has P w K mg base "_law_behind" ["_law_rows","_law_p","_law_v","_law_new"] 1 (bM)) (z_len:mg "len" = none):FnOk P w K mg base CX0 2 f fd ["_law_rows","_law_p","_law_q"] (kFC):=by
 refine F.ok sc_law_add (λ vs H Q E h=>?_) (λ cdv A outer s H vs Q E hr h=>?_)
 ·obtain ⟨r,A,L,p,q,rfl,_⟩:=h
  rfl
 obtain ⟨r,A1,L,p,q,rfl,X,G,hL,hE,k⟩:=h
 refine ⟨_,(kD (kT (i:=3) sc_law_add.nd rfl (Or.inl rfl) (Own.pe_has qP (hr.mono (by decide)) rfl (kA (pv 0) (kA (pv 1) (kA (pv 2) kB)))))
   (kD (kT (i:=4) sc_law_add.nd rfl (Or.inl rfl) (kN kO rfl z_len PySem.boot_len (kA (pv 0) kB)))
   (kD (qJ (Own.pe_has qY (hr.mono (by decide)) rfl (kA (pv 0) (kA (pv 1) (kA (pv 2) (kA (pv 4) kB))))))
   (kD (qJ (Own.pe_has qY (hr.mono (by decide)) rfl (kA (pv 0) (kA (pv 2) (kA (pv 3) (kA (pv 4) kB))))))
   (kD (qJ (Own.pe_has qY (hr.mono (by decide)) rfl (kA (pv 0) (kA (pv 3) (kA (pv 1) (kA (pv 4) kB))))))
   (kI (qJ (jW PySem.F.plainAttrs_list PySem.F.slot_list_append PySem.F.type_list_append zK (pv 0) (kA (yH (kA (pv 1) (kA (pv 2) (kA (pv 3) kB)))) kB))))))))),?_⟩
 obtain ⟨rq,hq,mq⟩:=G.sym hE;obtain ⟨rp,hp,mp⟩:=hE;obtain ⟨t,ht⟩:=vZ mq;have f:=zN (G.nd q rq hq) mq ht;have Fq:R L q t p:=⟨rq,hq,f⟩;have Fr:=G.tri _ _ _ Fq;obtain ⟨rr,hr1,nr⟩:=id Fr;have gd:=kHF G hp hq hr1 f;obtain ⟨lq,lt,lp,tq,pq⟩:=vP G Fq;obtain ⟨_,_,_,pt,_⟩:=vP G Fr;have mr:=(kW nr).1;have lenA:(A1.map V.ref).length=L.length:=by rw [length_map];exact X.len
 obtain ⟨aX,_,eX2,eX3⟩:=X.at hq;refine ⟨_,rfl,_,rfl,_,rfl,r,aX,_,p,q,rq,t,rfl,.inl ⟨X.top,eX2⟩,eX3,mq,ht,?_⟩;refine ⟨_,rfl,r,_,rfl,.inl (SqL.of X.top),?_⟩;refine ⟨_,rfl,_,rfl,_,rfl,_,rfl,r,A1,L,p,q,(A1.map V.ref).length,rp,rfl,X,hp,mp,(by have:=dA G hp;omega),λ H1 b1 X1=>?_⟩;have hq':(L.set p (qF rp q (A1.map V.ref).length))[q]?=some rq:=by rw [List.getElem?_set_ne pq];exact hq
 refine ⟨_,rfl,_,rfl,_,rfl,_,rfl,r,A1,_,q,t,(A1.map V.ref).length,rq,rfl,X1,hq',(kW f).1,(by have:=dA G hq;omega),λ H2 b2 X2=>?_⟩;have hr':((L.set p (qF rp q (A1.map V.ref).length)).set q (qF rq t (A1.map V.ref).length))[t]?=some rr:=by rw [List.getElem?_set_ne (λ z=>tq z.symm),List.getElem?_set_ne pt];exact hr1
 refine ⟨_,rfl,_,rfl,_,rfl,_,rfl,r,A1,_,t,p,(A1.map V.ref).length,rr,rfl,X2,hr',mr,(by have:=dA G hr1;omega),λ H3 b3 X3=>?_⟩;refine ⟨_,rfl,.inl ⟨rfl,_,SqL.of X3.top⟩,_,rfl,_,rfl,_,rfl,yS3,λ x hx=>?_⟩;have rx:r≠x:=kL X3.top hx;have b123:=b1.trans (b2.trans b3)
 have xn:H x=none:=by
  cases e:H x with
  | none=>rfl
  | some o =>
   have xA:x∉A1:=λ z=>by
    obtain ⟨i,hi,rfl⟩:=mem_iff_getElem.mp z;have hi':i<(((L.set p (qF rp q (A1.map V.ref).length)).set q (qF rq t (A1.map V.ref).length)).set t (qF rr p (A1.map V.ref).length)).length:=by rw [<-X3.len];exact hi
    rw [X3.row i _ _ (List.getElem?_eq_getElem hi) (List.getElem?_eq_getElem hi')] at hx;cases hx
   rw [b123 x o (λ z=>rx z.symm) xA e] at hx;cases hx
 refine ⟨r,_,_,rfl,rfl,(by rw [kK rx];exact X3.top),(by rw [lenA];exact qG (by omega)),?_⟩;have Y:=X3.app hx [p,q,t];rw [lenA] at Y;refine k x (bH L p q t rp rq rr) _ xn (λ b o h1 h2 h=>?_) Y gd (by simp [bH]);have bx:b≠x:=λ z=>by rw [z,xn] at h;cases h
 rw [kK h1,kK bx];exact b123 b o h1 h2 h
theorem kGY (ns:List Int) (lo hi:Option Int):∃ ms:List Int,uJ (ns.map V.int) lo hi=ms.map V.int/\ms.length<=ns.length:=by
 refine ⟨(ns.drop (HT.sIx (ns.map V.int).length 0 lo)).take (HT.sIx (ns.map V.int).length (ns.map V.int).length hi-HT.sIx (ns.map V.int).length 0 lo),?_,?_⟩
 ·unfold uJ
  rw [map_take,map_drop]
 ·rw [length_take,length_drop]
  omega
theorem kDS (ms:List Int):∃ c:Int,atI (ms.map V.int++[V.int 0]) 0=some (V.int c):=by
 cases ms with
 | nil=>exact ⟨0,rfl⟩
 | cons x r=>exact ⟨x,jM (j:=0) rfl⟩
theorem jR {n:Nat} (h:n<=20000):n<sizeLine:=Nat.lt_of_le_of_lt h (by rw [sizeLine_eq];decide)
theorem gL {n:Nat} (h:n<=1000):n<=sizeLine:=Nat.le_of_lt (qG h)
theorem kAC {f:Addr} {fd:FuncData} (F:Fun K "_law_pot" "_law_pot" wD f fd) (z_abs:mg "abs" = none) (z_max:mg "max" = none):FnOk P w K mg base CX0 1 f fd ["_law_script","_law_k"] (kEY K):=by
 refine F.ok sc_law_pot (λ vs H Q E h=>?_) (λ cdv A outer s H vs Q E hr h=>?_)
 ·obtain ⟨a,ns,k,rfl,_⟩:=h
  rfl
 obtain ⟨a,ns,k,rfl,hS,h63,k0,k1,q⟩:=h
 refine ⟨_,(kD (kT (i:=2) sc_law_pot.nd rfl (Or.inl rfl) (kX kZ (qM kAA (xO bP (pv 0) (xV (pv 1)) (xV (qM yZ (pv 1) kM))) (yH (kA kM kB))) kM (λ _ _=>rfl)))
   (kI (kS (yH (kA (kN (nW rfl) rfl z_max PyProof.Rows.boot_max (kA kM (kA (qM dE (pv 2) (qM kLA kM kM)) kB))) (kA (qM yZ (qM oW (qM yZ (qM yZ (kN kHB rfl z_abs PyProof.Rows.boot_abs (kA (pv 2) kB)) (qM tZ kM (pv 1))) kM) kM) kM) kB)))))),?_⟩
 obtain ⟨ms,em,lm⟩:=kGY ns (some k) (some (k+1));obtain ⟨c,hc⟩:=kDS ms;refine ⟨_,rfl,_,rfl,k,rfl,_,rfl,_,_,rfl,rfl,k+1,rfl,a,_,rfl,hS,λ p1 h1=>?_⟩;refine ⟨yS1,λ p2 h2=>?_⟩;have n12:p1≠p2:=kL kC h2;refine ⟨p1,p2,_,_,rfl,rfl,(by rw [kK n12];exact kC),kC,(by rw [em,length_map,length_singleton];exact gL (by omega)),λ p3 h3=>?_⟩;refine ⟨p3,_,_,_,rfl,rfl,SqL.of kC,(by rw [em];exact hc),?_⟩;have g1:Same H (upd H p1 (.lst (uJ (ns.map V.int) (some k) (some (k+1))))):=kE h1 _;have g2:=kE h2 (.lst [V.int 0]);have g3:=kE h3 (.lst (uJ (ns.map V.int) (some k) (some (k+1))++[V.int 0]));have g:=g1.trans (g2.trans g3);refine ⟨_,rfl,_,_,rfl,rfl,⟨by decide,by decide,by decide⟩,_,_,rfl,rfl,_,_,rfl,_,rfl,c,rfl,_,rfl,_,_,rfl,rfl,.inl ⟨by decide,by decide⟩,_,_,rfl,rfl,_,_,rfl,rfl,_,_,rfl,rfl,(by show (0:Int)<2147483629;decide),_,_,rfl,rfl,yS2,λ p4 h4=>?_⟩;refine q p4 _ _ _ ?_ (g.trans (kE h4 _)) (g.free h4) kC
 split<;>omega
theorem SameBut.refl (a:Addr) (H:Hp):SameBut a H H:=λ _ _ _ h=>h
theorem SameBut.trans {a:Addr} {H H1 H2:Hp} (x:SameBut a H H1) (y:SameBut a H1 H2):SameBut a H H2:=λ b o n h=>y b o n (x b o n h)
theorem SameBut.of {a:Addr} {H H':Hp} (h:Same H H'):SameBut a H H':=λ b o _ e=>h b o e
theorem kCC {a:Addr} {H:Hp} {o:HO}:SameBut a H (upd H a o):=λ b u n h=>by rw [kK n];exact h
theorem pH {f:Addr} {fd:FuncData} (F:Fun K "_law_digit" "_law_digit" yQ f fd) (z_divmod:mg "divmod" = none):FnOk P w K mg base CX0 1 f fd ["_law_pot_here","_law_many"] (vX):=by
 refine F.ok sc_law_digit (λ vs H Q E h=>?_) (λ cdv A outer s H vs Q E hr h=>?_)
 ·obtain ⟨a,m,rfl,_⟩:=h
  rfl
 obtain ⟨a,m,rfl,⟨x,y,ha,hx⟩,m0,m1,q⟩:=h
 refine ⟨_,(kD (xN (kY kBN (kX kZ (pv 0) kM (λ _ _=>rfl)) kM (qO _)) (kD (jZ (kN pV rfl z_divmod PyProof.Rows.boot_divmod (kA (kX kZ (pv 0) kM (λ _ _=>rfl)) (kA (pv 1) kB))) (xB rfl (kP (aZ (pv 0) kM wP) (kP (kJ (i:=2) sc_law_digit.nd rfl (Or.inl rfl)) qW))))
   (kI (kS (pv 2)))) qN)
   (kD (jZ (qM oW (qM yZ (qM tZ (kX kZ (pv 0) kM (λ _ _=>rfl)) kM) kM) kM) (aZ (pv 0) kM wP))
   (kI (kS (qM oW (qM kIF (qM oW (qM tZ (kX kZ (pv 0) kM (λ _ _=>rfl)) (kX kZ (pv 0) kM (λ _ _=>rfl))) kM) kM) (pv 1)))))),?_⟩
 refine ⟨_,rfl,a,_,_,_,rfl,rfl,SqL.of ha,at0,_,_,rfl,rfl,_,rfl,?_⟩;refine sB (λ c=>?_) (λ c=>?_)
 ·refine ⟨_,rfl,a,_,_,_,rfl,rfl,SqL.of ha,at0,_,rfl,x,m,rfl,⟨m0,m1⟩,λ p hp=>?_⟩
  have nap:a≠p:=kL ha hp;refine ⟨p,_,rfl,SqT.of kC,rfl,_,_,rfl,_,rfl,a,_,_,0,rfl,rfl,(by rw [kK nap];exact ha),rfl,_,_,rfl,rfl,?_⟩;refine ⟨_,rfl,?_⟩;refine q _ _ (Int.emod_nonneg _ (by omega)) (Int.emod_lt_of_pos _ m0) ((SameBut.of (kE hp _)).trans kCC) ⟨_,_,kC,?_⟩;exact Int.ediv_nonneg hx (by omega)
 ·refine ⟨_,rfl,a,_,_,_,rfl,rfl,SqL.of ha,at1,_,_,rfl,rfl,.inr ⟨by decide,by decide⟩,_,_,rfl,rfl,_,_,rfl,rfl,(by show (0:Int)<2147483647;decide),?_⟩
  refine ⟨_,rfl,a,_,_,1,rfl,rfl,ha,rfl,?_⟩;have b1:0<=(y*48271+39373) % 2147483647:=Int.emod_nonneg _ (by decide);have b2:(y*48271+39373) % 2147483647<2147483647:=Int.emod_lt_of_pos _ (by decide);refine ⟨_,rfl,a,_,_,_,rfl,rfl,SqL.of kC,at1,_,rfl,a,_,_,_,rfl,rfl,SqL.of kC,at1,_,_,rfl,rfl,.inl ⟨?_,?_⟩,_,_,rfl,rfl,(by show (0:Int)<2147483629;decide),_,_,rfl,rfl,⟨by decide,by decide⟩,_,rfl,_,_,rfl,rfl,m0,?_⟩
  ·show -(2 ^ 64)<(y*48271+39373) % 2147483647
   omega
  ·show (y*48271+39373) % 2147483647<2 ^ 64
   omega
  ·exact q _ _ (Int.emod_nonneg _ (by omega)) (Int.emod_lt_of_pos _ m0) kCC ⟨_,_,kC,hx⟩
theorem keep {H H1 H2:Hp} {p:Addr} (g:Same H H1) (n:H p=none) (b:SameBut p H1 H2):Same H H2:=λ c o e=>b c o (kL e n) (g c o e)
theorem PotAt.kept {H H':Hp} {p:Addr} (h:PotAt H p) (g:Same H H'):PotAt H' p:=by
 obtain ⟨x,y,e,z⟩:=h;exact ⟨x,y,g _ _ e,z⟩
theorem aR {i:Int} (h:i.natAbs<2 ^ 200):i.natAbs<2 ^ 9000:=Nat.lt_of_lt_of_le h (Nat.pow_le_pow_right (by decide) (by decide))
theorem PotAt.other {H:Hp} {a l:Addr} {o:HO} (h:PotAt H a) (n:a≠l):PotAt (upd H l o) a:=by
 obtain ⟨x,y,e,z⟩:=h;exact ⟨x,y,by rw [kK n];exact e,z⟩
theorem kLX (s:Nat) (row:List Nat):inV (vn s) (row.map vn)=decide (s∈row):=by
 unfold inV;rw [Bool.eq_iff_iff,List.any_eq_true,decide_eq_true_iff];constructor
 ·rintro ⟨x,hx,e⟩
  obtain ⟨n,hn,rfl⟩:=mem_map.mp hx;have:((n:Int) == (s:Int))=true:=e
  have:n=s:=by
   have:=eq_of_beq this;omega
  subst this;exact hn
 ·intro h
  exact ⟨vn s,mem_map.mpr ⟨s,h,rfl⟩,(beq_self_eq_true (s:Int))⟩
theorem kIY (row:List Nat):(row.map vn).all aT=true:=by
 rw [List.all_map,all_eq_true];intro x _
 rfl
theorem aB (row:List Nat) (q:Nat):((row.map ci).eraseIdx (row.idxOf q)).map V.int=(qB row q).map vn:=by
 unfold qB;rw [jO,uC ci]
theorem oM {L:Rows} {i j:Nat} {r:List Nat} {row:List Nat} (h:L[j]?=some row) (n:i≠j):(L.set i r)[j]?=some row:=by rw [List.getElem?_set_ne n];exact h
def tK:Sp:=λ vs H Q _=>∃ (r:Addr) (A:List Addr) (L:Rows) (p q:Nat),vs=[.ref r,vn p,vn q]/\RowsAt H r A L/\Good L/\L.length<=150/\E L p q /\
 ∀ (L':Rows) (H':Hp),ButRows r A H H'->RowsAt H' r A L'->Good L'->L'.length=L.length->Q .non H'
theorem rQ {f:Addr} {fd:FuncData} (F:Fun K "_law_flip" "_law_flip" zF f fd) (qP:Own.Has P w K mg base "_law_ahead" ["_law_rows","_law_p","_law_q"] 1 (bN)) (qY:Own.Has P w K mg base "_law_behind" ["_law_rows","_law_p","_law_v","_law_new"] 1 (bM)):FnOk P w K mg base CX0 2 f fd ["_law_rows","_law_p","_law_q"] (tK):=by
 refine F.ok sc_law_flip (λ vs H Q E h=>?_) (λ cdv A outer s H vs Q E hr h=>?_)
 ·obtain ⟨r,A,L,p,q,rfl,_⟩:=h
  rfl
 obtain ⟨r,A1,L,p,q,rfl,X,G,hL,hE,k⟩:=h
 refine ⟨_,(kD (kT (i:=3) sc_law_flip.nd rfl (Or.inl rfl) (Own.pe_has qP (hr.mono (by decide)) rfl (kA (pv 0) (kA (pv 1) (kA (pv 2) kB)))))
   (kD (kT (i:=4) sc_law_flip.nd rfl (Or.inl rfl) (Own.pe_has qP (hr.mono (by decide)) rfl (kA (pv 0) (kA (pv 2) (kA (pv 1) kB)))))
   (kI (xN (PW.pt (gU (kY bV (pv 3) (pv 4) (qO _)) (fR (kY yY (pv 4) (kX kZ (pv 0) (pv 3) (λ _ _=>rfl)) rfl)))) (kD (qJ (jW PySem.F.plainAttrs_list PySem.F.slot_list_remove PySem.F.type_list_remove yT (kX kZ (pv 0) (pv 1) (λ _ _=>rfl)) (kA (pv 2) kB)))
   (kD (qJ (jW PySem.F.plainAttrs_list PySem.F.slot_list_remove PySem.F.type_list_remove yT (kX kZ (pv 0) (pv 2) (λ _ _=>rfl)) (kA (pv 1) kB)))
   (kD (qJ (Own.pe_has qY (hr.mono (by decide)) rfl (kA (pv 0) (kA (pv 3) (kA (pv 1) (kA (pv 4) kB))))))
   (kI (qJ (Own.pe_has qY (hr.mono (by decide)) rfl (kA (pv 0) (kA (pv 4) (kA (pv 2) (kA (pv 3) kB)))))))))) qN)))),?_⟩
 obtain ⟨rq,hq,mq⟩:=G.sym hE;obtain ⟨rp,hp,mp⟩:=hE;obtain ⟨t,ht⟩:=vZ mq;obtain ⟨u,hu⟩:=vZ mp;have f:=zN (G.nd q rq hq) mq ht;have f':=zN (G.nd p rp hp) mp hu;have Fq:R L q t p:=⟨rq,hq,f⟩;have Fp:R L p u q:=⟨rp,hp,f'⟩;have Ft:=G.tri _ _ _ Fq;have Fu:=G.tri _ _ _ Fp;obtain ⟨rt,hrt,nt⟩:=id Ft;obtain ⟨ru,hru,nu⟩:=id Fu;obtain ⟨lq,lt,lp,tq,pq⟩:=vP G Fq;obtain ⟨_,lu,_,up',qp⟩:=vP G Fp;obtain ⟨_,_,_,pt,qt⟩:=vP G Ft;obtain ⟨_,_,_,qu,pu⟩:=vP G Fu;obtain ⟨aX,_,eX2,eX3⟩:=X.at hq;refine ⟨_,rfl,_,rfl,_,rfl,r,aX,_,p,q,rq,t,rfl,.inl ⟨X.top,eX2⟩,eX3,mq,ht,?_⟩;obtain ⟨aY,_,eY2,eY3⟩:=X.at hp;refine ⟨_,rfl,_,rfl,_,rfl,r,aY,_,q,p,rp,u,rfl,.inl ⟨X.top,eY2⟩,eY3,mp,hu,?_⟩;have stay:=k L H (λ _ _ _ _ h=>h) X G rfl;refine ⟨_,rfl,_,rfl,rfl,_,rfl,?_⟩;refine sB (λ c=>?_) (λ c=>qV stay);have tu:t≠u:=λ z=>by subst z;simp [vn] at c
 obtain ⟨at',e1t,e2t,e3t⟩:=X.at hrt;refine ⟨_,rfl,_,rfl,_,rfl,r,_,_,_,rfl,rfl,SqL.of X.top,e3t,at',_,rfl,.inl (SqL.of e2t),rfl,kIY _,_,rfl,?_⟩;rw [kLX];refine sB (λ c2=>?_) (λ c2=>stay);have ut:u∉rt:=λ z=>by simp [z] at c2
 have gd:=kDR G hp hq hrt hru f f' tu ut
 obtain ⟨ap,e1p,e2p,e3p⟩:=X.at hp;refine ⟨_,rfl,_,rfl,r,_,_,_,rfl,rfl,SqL.of X.top,e3p,.inl ⟨rfl,_,SqL.of e2p⟩,_,rfl,ap,rp.map ci,q,rp.idxOf q,rfl,rfl,(by rw [e2p,jO]),qC mp,?_⟩;rw [aB];have X1:=X.set e1p (qB rp q);have hq1:=oM (i:=p) (r:=qB rp q) hq pq;obtain ⟨aq,e1q,e2q,e3q⟩:=X1.at hq1;refine ⟨_,rfl,_,rfl,r,_,_,_,rfl,rfl,SqL.of X1.top,e3q,.inl ⟨rfl,_,SqL.of e2q⟩,_,rfl,aq,rq.map ci,p,rq.idxOf p,rfl,rfl,(by rw [e2q,jO]),qC mq,?_⟩;rw [aB];have X2:=X1.set e1q (qB rq p)
 have b2:ButRows r A1 H (upd (upd H ap (.lst ((qB rp q).map vn))) aq (.lst ((qB rq p).map vn))):=λ b o h1 h2 h=>by
  rw [kK (λ z=>h2 (by rw [z];exact mem_of_getElem? e1q)),kK (λ z=>h2 (by rw [z];exact mem_of_getElem? e1p))];exact h
 generalize upd (upd H ap (.lst ((qB rp q).map vn))) aq (.lst ((qB rq p).map vn))=H2 at *;have ht2:=oM (i:=q) (r:=qB rq p) (oM (i:=p) (r:=qB rp q) hrt pt) qt;refine ⟨_,rfl,_,rfl,_,rfl,_,rfl,r,A1,_,t,p,u,rt,rfl,X2,ht2,(kW nt).1,(by have:=dA G hrt;omega),λ H3 b3 X3=>?_⟩;have hu3:=oM (i:=t) (r:=qF rt p u) (oM (i:=q) (r:=qB rq p) (oM (i:=p) (r:=qB rp q) hru pu) qu) tu;refine ⟨_,rfl,_,rfl,_,rfl,_,rfl,r,A1,_,u,q,t,ru,rfl,X3,hu3,(kW nu).1,(by have:=dA G hru;omega),λ H4 b4 X4=>?_⟩;exact k _ H4 (b2.trans (b3.trans b4)) X4 gd (by simp [wX])
structure Some' (L:Rows):Prop where
 pos:0<L.length
 le:L.length<=150
 ne:∀ (p:Nat) (row:List Nat),L[p]?=some row->row≠[]/\row.length<=1000
theorem RowsAt.but {H H':Hp} {r a:Addr} {A:List Addr} {L:Rows} (x:RowsAt H r A L) (h1:a≠r) (h2:a∉A) (g:SameBut a H H'):RowsAt H' r A L :=
 ⟨g _ _ h1.symm x.top,x.len,x.nd,x.out,λ i b ns hb hi=>g _ _ (λ z=>h2 (z ▸ mem_of_getElem? hb)) (x.row i b ns hb hi)⟩
theorem RowsAt.kept {H H':Hp} {r:Addr} {A:List Addr} {L:Rows} (x:RowsAt H r A L) (g:Same H H'):RowsAt H' r A L :=
 ⟨g _ _ x.top,x.len,x.nd,x.out,λ i b ns hb hi=>g _ _ (x.row i b ns hb hi)⟩
theorem mS {row:List Nat} {j:Nat} (h:j<row.length):atI (row.map vn) (j:Int)=some (vn row[j]):=jM (by rw [List.getElem?_map,List.getElem?_eq_getElem h];rfl)
def kKI:Sp:=λ vs H Q _=>∃ (a r:Addr) (A:List Addr) (L:Rows),vs=[.ref a,.ref r]/\PotAt H a/\RowsAt H r A L/\a≠r/\a∉A/\Some' L /\
 ∀ (t:Addr) (p q:Nat) (H':Hp),SameBut a H H'->PotAt H' a->H t=none->H' t=some (.tup [vn p,vn q])->E L p q->Q (.ref t) H'
def WebAt (H:Hp) (t:Addr) (W:Rows):Prop:=∃ ts:List Addr,H t=some (.tup (ts.map V.ref))/\ts.length=W.length/\∀ (j:Nat) (a:Addr) (row:List Nat),ts[j]?=some a->W[j]?=some row->H a=some (.tup (row.map vn))
theorem WebAt.at {H:Hp} {t:Addr} {W:Rows} (h:WebAt H t W):∃ ts:List Addr,H t=some (.tup (ts.map V.ref))/\ts.length=W.length/\∀ (q:Nat) (row:List Nat),W[q]?=some row->∃ b,atI (ts.map V.ref) (q:Int)=some (.ref b)/\H b=some (.tup (row.map vn)):=by
 obtain ⟨ts,h1,h2,h3⟩:=h;refine ⟨ts,h1,h2,λ q row e=>?_⟩;have hq:q<ts.length:=by rw [h2];exact (List.getElem?_eq_some_iff.mp e).1
 exact ⟨ts[q],jM (by rw [List.getElem?_map,List.getElem?_eq_getElem hq];rfl),h3 q _ row (List.getElem?_eq_getElem hq) e⟩
theorem gY {H:Hp} {a b:Addr} {o:HO} (hp:PotAt H a) (e:H b=some o) (n:∀ xs,o≠.lst xs):b≠a:=λ z=>by
 obtain ⟨x,y,h,_⟩:=hp;rw [z,h] at e;exact n _ (Option.some.inj e).symm
theorem WebAt.pot {H H':Hp} {a t:Addr} {W:Rows} (h:WebAt H t W) (g:SameBut a H H') (hp:PotAt H a):WebAt H' t W:=by
 obtain ⟨ts,h1,h2,h3⟩:=h;exact ⟨ts,g _ _ (gY hp h1 (by simp)) h1,h2,λ j b row e1 e2=>g _ _ (gY hp (h3 j b row e1 e2) (by simp)) (h3 j b row e1 e2)⟩
theorem WebAt.kept {H H':Hp} {t:Addr} {W:Rows} (h:WebAt H t W) (g:Same H H'):WebAt H' t W:=by
 obtain ⟨ts,h1,h2,h3⟩:=h;exact ⟨ts,g _ _ h1,h2,λ j a row e1 e2=>g _ _ (h3 j a row e1 e2)⟩
def kHN:Sp:=λ vs H Q _=>∃ (a r:Addr) (W:Rows),vs=[.ref a,.ref r]/\PotAt H a/\WebAt H r W/\0<W.length/\W.length<=150/\(∀ (p:Nat) (row:List Nat),W[p]?=some row->row≠[]/\row.length<=1000) /\
 ∀ (t:Addr) (p q:Nat) (H':Hp),SameBut a H H'->PotAt H' a->H t=none->H' t=some (.tup [vn p,vn q])->E W p q->Q (.ref t) H'
def fO:Sp:=λ vs H Q E=>kKI vs H Q E\/kHN vs H Q E
theorem rP {f:Addr} {fd:FuncData} (F:Fun K "_law_step" "_law_step" zE f fd) (kU:Own.Has P w K mg base "_law_digit" ["_law_pot_here","_law_many"] 1 (vX)) (z_len:mg "len" = none):FnOk P w K mg base CX0 2 f fd ["_law_pot_here","_law_rows"] (fO):=by
 refine F.ok sc_law_step (λ vs H Q E h=>?_) (λ cdv A outer s H vs Q E hr h=>?_)
 ·rcases h with h | h
  ·obtain ⟨a,r,A,L,rfl,_⟩:=h
   rfl
  ·obtain ⟨a,r,W,rfl,_⟩:=h
   rfl
 rcases h with h | h
 ·obtain ⟨a,r,A1,L,rfl,ha,X,nar,naA,S,k⟩:=h
  refine ⟨_,(kD (kT (i:=2) sc_law_step.nd rfl (Or.inl rfl) (Own.pe_has kU (hr.mono (by decide)) rfl (kA (pv 0) (kA (kN kO rfl z_len PySem.boot_len (kA (pv 1) kB)) kB))))
   (kI (kS (yB (kA (pv 2) (kA (kX kZ (kX kZ (pv 1) (pv 2) (λ _ _=>rfl)) (Own.pe_has kU (hr.mono (by decide)) rfl (kA (pv 0) (kA (kN kO rfl z_len PySem.boot_len (kA (kX kZ (pv 1) (pv 2) (λ _ _=>rfl)) kB)) kB))) (λ _ _=>rfl)) kB)))))),?_⟩
  have lA:((A1.map V.ref).length:Int)=L.length:=by rw [length_map,X.len]
  have sp:=S.pos;have sl:=S.le;refine ⟨_,rfl,_,rfl,r,_,rfl,.inl (SqL.of X.top),a,_,rfl,ha,(by omega),aR (by rw [lA];exact Nat.lt_of_le_of_lt (m:=150) (by omega) (by decide)),λ d H1 d0 d1 s1 p1=>?_⟩;rw [lA] at d1;obtain ⟨p,rfl⟩:=Int.eq_ofNat_of_zero_le d0;have hp:p<L.length:=by omega
  have X1:=X.but nar naA s1;have hrow:=List.getElem?_eq_getElem hp;obtain ⟨ap,e1,e2,e3⟩:=X1.at hrow;obtain ⟨rne,rle⟩:=S.ne p _ hrow;have rpos:0<L[p].length:=length_pos_iff.mpr rne;have lr:((L[p].map vn).length:Int)=L[p].length:=by rw [length_map]
  refine ⟨_,rfl,_,rfl,_,rfl,r,_,_,_,rfl,rfl,SqL.of X1.top,e3,_,rfl,_,rfl,_,rfl,r,_,_,_,rfl,rfl,SqL.of X1.top,e3,ap,_,rfl,.inl (SqL.of e2),a,_,rfl,p1,(by omega),aR (by rw [lr];exact Nat.lt_of_le_of_lt (m:=1000) (by omega) (by decide)),λ d' H2 c0 c1 s2 p2=>?_⟩;rw [lr] at c1;obtain ⟨j,rfl⟩:=Int.eq_ofNat_of_zero_le c0;have hj:j<L[p].length:=by omega
  have X2:=X1.but nar naA s2;have nap:ap≠a:=λ z=>naA (z ▸ mem_of_getElem? e1);refine ⟨ap,_,_,_,rfl,rfl,SqL.of (s2 _ _ nap e2),mS hj,yS2,λ t nt=>?_⟩;have gt:=kE nt (.tup [vn p,vn L[p][j]])
  have nt0:H t=none:=by
   cases e:H t with
   | none=>rfl
   | some o =>
    have ta:t≠a:=λ z=>by
     obtain ⟨x,y,w,_⟩:=p2;rw [z,w] at nt;cases nt
    rw [(s1.trans s2) t o ta e] at nt;cases nt
  exact k t p L[p][j] _ (s1.trans (s2.trans (.of gt))) (p2.kept gt) nt0 kC ⟨_,hrow,getElem_mem hj⟩
 ·obtain ⟨a,r,W,rfl,ha,hW,w0,w1,wl,k⟩:=h
  refine ⟨_,(kD (kT (i:=2) sc_law_step.nd rfl (Or.inl rfl) (Own.pe_has kU (hr.mono (by decide)) rfl (kA (pv 0) (kA (kN kO rfl z_len PySem.boot_len (kA (pv 1) kB)) kB))))
   (kI (kS (yB (kA (pv 2) (kA (kX qX (kX qX (pv 1) (pv 2) (λ _ _=>rfl)) (Own.pe_has kU (hr.mono (by decide)) rfl (kA (pv 0) (kA (kN kO rfl z_len PySem.boot_len (kA (kX qX (pv 1) (pv 2) (λ _ _=>rfl)) kB)) kB))) (λ _ _=>rfl)) kB)))))),?_⟩
  obtain ⟨ts,h1,lts,h3⟩:=hW.at;have eL:((ts.map V.ref).length:Int)=(W.length:Int):=by rw [length_map,lts]
  refine ⟨_,rfl,_,rfl,r,_,rfl,.inr (SqT.of h1),a,_,rfl,ha,(by omega),aR (by rw [eL];exact Nat.lt_of_le_of_lt (m:=150) (by omega) (by decide)),λ d H1 d0 d1 s1 p1=>?_⟩;rw [eL] at d1;obtain ⟨p,rfl⟩:=Int.eq_ofNat_of_zero_le d0;have hp:p<W.length:=by omega
  have W1:=hW.pot s1 ha;obtain ⟨ts1,w11,lts1,w31⟩:=W1.at;have hrow:=List.getElem?_eq_getElem hp;obtain ⟨b1,f1,f2⟩:=w31 p W[p] hrow;obtain ⟨rne,rle⟩:=wl p _ hrow;have rpos:0<W[p].length:=length_pos_iff.mpr rne;have lr:((W[p].map vn).length:Int)=W[p].length:=by rw [length_map]
  refine ⟨_,rfl,_,rfl,_,rfl,r,_,_,_,rfl,rfl,SqT.of w11,f1,_,rfl,_,rfl,_,rfl,r,_,_,_,rfl,rfl,SqT.of w11,f1,b1,_,rfl,.inr (SqT.of f2),a,_,rfl,p1,(by omega),aR (by rw [lr];exact Nat.lt_of_le_of_lt (m:=1000) (by omega) (by decide)),λ c H2 c0 c1 s2 p2=>?_⟩;rw [lr] at c1;obtain ⟨j,rfl⟩:=Int.eq_ofNat_of_zero_le c0;have hj:j<W[p].length:=by omega
  have f2':=s2 _ _ (gY p1 f2 (by simp)) f2;refine ⟨b1,_,_,_,rfl,rfl,SqT.of f2',mS hj,yS2,λ t nt=>?_⟩;have gt:=kE nt (.tup [vn p,vn W[p][j]])
  have nt0:H t=none:=by
   cases e:H t with
   | none=>rfl
   | some o =>
    have ta:t≠a:=λ z=>by
     obtain ⟨x,y,w,_⟩:=p2;rw [z,w] at nt;cases nt
    rw [(s1.trans s2) t o ta e] at nt;cases nt
  exact k t p W[p][j] _ (s1.trans (s2.trans (.of gt))) (p2.kept gt) nt0 kC ⟨_,hrow,getElem_mem hj⟩
theorem nM {L:Rows} (G:Good L) (h:L.length<=150):Some' L :=
 ⟨by have:=G.three;omega,h,λ p row e=>⟨G.ne p row e,by have:=dA G e;omega⟩⟩
structure New (H:Hp) (a r:Addr) (A:List Addr):Prop where
 top:H r=none
 all:∀ x∈A,H x=none
 pot:a≠r/\a∉A
theorem New.but {H H1 H2:Hp} {a r:Addr} {A:List Addr} (n:New H a r A) (s:SameBut a H H1) (b:ButRows r A H1 H2):SameBut a H H2:=λ c o nc e =>
 b c o (kL e n.top) (λ z=>by rw [n.all c z] at e;cases e) (s c o nc e)
theorem PotAt.rows {H H':Hp} {a r:Addr} {A:List Addr} (h:PotAt H a) (h1:a≠r) (h2:a∉A) (b:ButRows r A H H'):PotAt H' a:=by
 obtain ⟨x,y,e,z⟩:=h;exact ⟨x,y,b _ _ h1 h2 e,z⟩
def aW:Sp:=λ vs H Q _=>∃ (a:Addr) (n:Nat),vs=[.ref a,vn n]/\PotAt H a/\3<=n/\n<=40 /\
 ∀ (r:Addr) (A:List Addr) (L:Rows) (H':Hp),SameBut a H H'->PotAt H' a->RowsAt H' r A L->Good L->L.length=n->New H a r A->Q (.ref r) H'
theorem kAQ {H:Hp} {l1 l2 l3 r:Addr} (n1:H l1=none) (n2:upd H l1 (.lst [vn 1,vn 2]) l2=none) (n3:upd (upd H l1 (.lst [vn 1,vn 2])) l2 (.lst [vn 2,vn 0]) l3=none)
  (n4:upd (upd (upd H l1 (.lst [vn 1,vn 2])) l2 (.lst [vn 2,vn 0])) l3 (.lst [vn 0,vn 1]) r=none) :
  RowsAt (upd (upd (upd (upd H l1 (.lst [vn 1,vn 2])) l2 (.lst [vn 2,vn 0])) l3 (.lst [vn 0,vn 1])) r (.lst [.ref l1,.ref l2,.ref l3])) r [l1,l2,l3] [[1,2],[2,0],[0,1]]/\Same H (upd (upd (upd (upd H l1 (.lst [vn 1,vn 2])) l2 (.lst [vn 2,vn 0])) l3 (.lst [vn 0,vn 1])) r (.lst [.ref l1,.ref l2,.ref l3])):=by
 have g1:=kE n1 (.lst [vn 1,vn 2]);have g2:=kE n2 (.lst [vn 2,vn 0]);have g3:=kE n3 (.lst [vn 0,vn 1]);have g4:=kE n4 (.lst [.ref l1,.ref l2,.ref l3]);have h1:=g4 _ _ (g3 _ _ (g2 _ _ (kC (H:=H) (a:=l1) (o:=.lst [vn 1,vn 2]))));have h2:=g4 _ _ (g3 _ _ (kC (H:=upd H l1 (.lst [vn 1,vn 2])) (a:=l2) (o:=.lst [vn 2,vn 0])));have h3:=g4 _ _ (kC (H:=upd (upd H l1 (.lst [vn 1,vn 2])) l2 (.lst [vn 2,vn 0])) (a:=l3) (o:=.lst [vn 0,vn 1]));have d12:l1≠l2:=kL (kC (H:=H) (a:=l1) (o:=.lst [vn 1,vn 2])) n2;have d13:l1≠l3:=kL (g2 _ _ (kC (H:=H) (a:=l1) (o:=.lst [vn 1,vn 2]))) n3;have d23:l2≠l3:=kL (kC (H:=upd H l1 (.lst [vn 1,vn 2])) (a:=l2) (o:=.lst [vn 2,vn 0])) n3;have d1r:l1≠r:=kL (g3 _ _ (g2 _ _ (kC (H:=H) (a:=l1) (o:=.lst [vn 1,vn 2])))) n4;have d2r:l2≠r:=kL (g3 _ _ (kC (H:=upd H l1 (.lst [vn 1,vn 2])) (a:=l2) (o:=.lst [vn 2,vn 0]))) n4;have d3r:l3≠r:=kL (kC (H:=upd (upd H l1 (.lst [vn 1,vn 2])) l2 (.lst [vn 2,vn 0])) (a:=l3) (o:=.lst [vn 0,vn 1])) n4;refine ⟨⟨kC,rfl,?_,?_,λ i b ns hb hi=>?_⟩,g1.trans (g2.trans (g3.trans g4))⟩
 ·simp [d12,d13,d23]
 ·simp [d1r.symm,d2r.symm,d3r.symm]
 ·match i with
  | 0=>cases hb;cases hi;exact h1
  | 1=>cases hb;cases hi;exact h2
  | 2=>cases hb;cases hi;exact h3
  | i+3=>simp at hb
theorem fJ {f:Addr} {fd:FuncData} (F:Fun K "_law_cornered" "_law_cornered" jT f fd) (yK:Own.Has P w K mg base "_law_step" ["_law_pot_here","_law_rows"] 2 (fO)) (dR:Own.Has P w K mg base "_law_add" ["_law_rows","_law_p","_law_q"] 2 (kFC)) (kU:Own.Has P w K mg base "_law_digit" ["_law_pot_here","_law_many"] 1 (vX)) (bE:Own.Has P w K mg base "_law_flip" ["_law_rows","_law_p","_law_q"] 2 (tK)) (z_range:mg "range" = none):FnOk P w K mg base CX0 3 f fd ["_law_pot_here","_law_n"] (aW):=by
 refine F.ok sc_law_cornered (λ vs H Q E h=>?_) (λ cdv A outer s H vs Q E hr h=>?_)
 ·obtain ⟨a,n,rfl,_⟩:=h
  rfl
 obtain ⟨a,n,rfl,ha,n3,n40,k⟩:=h
 refine ⟨_,(kD (kT (i:=2) sc_law_cornered.nd rfl (Or.inl rfl) (yH (kA (yH (kA kM (kA kM kB))) (kA (yH (kA kM (kA kM kB))) (kA (yH (kA kM (kA kM kB))) kB)))))
   (kD (zJ PassesOwn.never rfl (yS rfl z_range (kA (qM dE (pv 1) kM) kB)) (kJ (i:=3) sc_law_cornered.nd rfl (Or.inl rfl)) (kD (jZ (Own.pe_has yK (hr.mono (by decide)) rfl (kA (pv 0) (kA (pv 2) kB))) (xB rfl (kP (kJ (i:=4) sc_law_cornered.nd rfl (Or.inl rfl)) (kP (kJ (i:=5) sc_law_cornered.nd rfl (Or.inl rfl)) qW))))
   (kI (qJ (Own.pe_has dR (hr.mono (by decide)) rfl (kA (pv 2) (kA (pv 4) (kA (pv 5) kB))))))))
   (kD (zJ PassesOwn.never rfl (yS rfl z_range (kA (Own.pe_has kU (hr.mono (by decide)) rfl (kA (pv 0) (kA (qM Own.op_mulW kM (pv 1)) kB))) kB)) (kJ (i:=3) sc_law_cornered.nd rfl (Or.inl rfl)) (kD (jZ (Own.pe_has yK (hr.mono (by decide)) rfl (kA (pv 0) (kA (pv 2) kB))) (xB rfl (kP (kJ (i:=4) sc_law_cornered.nd rfl (Or.inl rfl)) (kP (kJ (i:=5) sc_law_cornered.nd rfl (Or.inl rfl)) qW))))
   (kI (qJ (Own.pe_has bE (hr.mono (by decide)) rfl (kA (pv 2) (kA (pv 4) (kA (pv 5) kB))))))))
   (kI (kS (pv 2)))))),?_⟩
 refine ⟨yS2,λ l1 m1=>⟨yS2,λ l2 m2=>⟨yS2,λ l3 m3=>⟨yS3,λ r m4=>?_⟩⟩⟩⟩;obtain ⟨X0,g0⟩:=kAQ m1 m2 m3 m4;have p0:=ha.kept g0
 have new0:New H a r [l1,l2,l3]:=by
  obtain ⟨x,y,ea,_⟩:=ha;have g1:=kE m1 (.lst [vn 1,vn 2]);have g2:=kE m2 (.lst [vn 2,vn 0]);have g3:=kE m3 (.lst [vn 0,vn 1]);have f2:=g1.free m2;have f3:=(g1.trans g2).free m3;have f4:=(g1.trans (g2.trans g3)).free m4;refine ⟨f4,λ x hx=>?_,kL ea f4,λ z=>?_⟩
  ·simp at hx
   rcases hx with rfl | rfl | rfl
   ·exact m1
   ·exact f2
   ·exact f3
  ·simp at z
   rcases z with rfl | rfl | rfl
   ·rw [m1] at ea;cases ea
   ·rw [f2] at ea;cases ea
   ·rw [f3] at ea;cases ea
 generalize hH1:upd (upd (upd (upd H l1 (.lst [vn 1,vn 2])) l2 (.lst [vn 2,vn 0])) l3 (.lst [vn 0,vn 1])) r (.lst [.ref l1,.ref l2,.ref l3])=H1 at *;have hH1':upd (upd (upd (upd H l1 (.lst [.int 1,.int 2])) l2 (.lst [.int 2,.int 0])) l3 (.lst [.int 0,.int 1])) r (.lst [.ref l1,.ref l2,.ref l3])=H1:=hH1;rw [hH1']
 refine ⟨_,rfl,_,_,rfl,rfl,_,rfl,by omega,by omega,wK (lo:=0) (n:=((n:Int)-3).toNat) (λ i σ H2=>∃ (x y z:Option V) (A:List Addr) (L:Rows),σ=[some (.ref a),some (vn n),some (.ref r),x,y,z]/\RowsAt H2 r A L/\Good L/\L.length=3+i/\SameBut a H H2/\PotAt H2 a/\New H a r A)
  ⟨none,none,none,_,_,rfl,X0,kAR,rfl,.of g0,p0,new0⟩ ?_ ?_⟩
 ·rintro i σ H2 hi ⟨x,y,z,A1,L,rfl,X,G,hl,s2,p2,nw⟩
  have L150:L.length<=150:=by omega
  refine ⟨_,rfl,_,rfl,.inl ⟨a,r,A1,L,rfl,p2,X,nw.pot.1,nw.pot.2,nM G L150,λ t p q H3 s3 p3 nt ht hE=>?_⟩⟩;have X3:=X.but nw.pot.1 nw.pot.2 s3;refine ⟨t,_,rfl,SqT.of ht,rfl,_,_,rfl,_,_,rfl,rfl,?_⟩;refine ⟨_,rfl,_,rfl,_,rfl,r,A1,L,p,q,rfl,X3,G,L150,hE,λ nx L' H4 hx b4 X4 G' hl'=>?_⟩;have s4:=nw.but (s2.trans s3) b4;have p4:=p3.rows nw.pot.1 nw.pot.2 b4
  have hxH:H nx=none:=by
   cases e:H nx with
   | none=>rfl
   | some o =>
    have na:nx≠a:=λ z=>by
     obtain ⟨v,w,ea,_⟩:=p3;rw [z,ea] at hx;cases hx
    rw [(s2.trans s3) nx o na e] at hx;cases hx
  refine ⟨_,_,_,A1++[nx],L',rfl,X4,G',by omega,s4,p4,nw.top,λ b hb=>?_,nw.pot.1,λ z=>?_⟩
  ·rcases mem_append.mp hb with w | w
   ·exact nw.all b w
   ·rw [mem_singleton.mp w];exact hxH
  ·rcases mem_append.mp z with w | w
   ·exact nw.pot.2 w
   ·have e:=mem_singleton.mp w
    obtain ⟨v,w',ea,_⟩:=p3;rw [<-e,ea] at hx;cases hx
 ·rintro σ H2 ⟨x,y,z,A1,L,rfl,X,G,hl,s2,p2,nw⟩
  have hn:L.length=n:=by omega
  refine ⟨_,rfl,_,rfl,_,_,rfl,rfl,⟨aR (by decide),aR (Nat.lt_of_le_of_lt (m:=40) (by show ((n:Int)).natAbs<=40;omega) (by decide))⟩,a,_,rfl,p2,(by show (0:Int)<2*(n:Int);omega),aR (Nat.lt_of_le_of_lt (m:=80) (by show (2*(n:Int)).natAbs<=80;omega) (by decide)),λ d H3 d0 d1 s3 p3=>?_⟩;have d80:d<2*(n:Int):=d1
  refine ⟨d,rfl,by omega,by omega,wK (lo:=0) (n:=d.toNat) (λ i σ H4=>∃ (x y z:Option V) (L:Rows),σ=[some (.ref a),some (vn n),some (.ref r),x,y,z]/\RowsAt H4 r A1 L/\Good L/\L.length=n/\SameBut a H H4/\PotAt H4 a)
   ⟨_,_,_,L,rfl,X.but nw.pot.1 nw.pot.2 s3,G,hn,s2.trans s3,p3⟩ ?_ ?_⟩
  ·rintro i σ H4 hi ⟨x,y,z,L4,rfl,X4,G4,hl4,s4,p4⟩
   have L150:L4.length<=150:=by omega
   refine ⟨_,rfl,_,rfl,.inl ⟨a,r,A1,L4,rfl,p4,X4,nw.pot.1,nw.pot.2,nM G4 L150,λ t p q H5 s5 p5 nt ht hE=>?_⟩⟩;have X5:=X4.but nw.pot.1 nw.pot.2 s5;refine ⟨t,_,rfl,SqT.of ht,rfl,_,_,rfl,_,_,rfl,rfl,?_⟩;refine ⟨_,rfl,_,rfl,_,rfl,r,A1,L4,p,q,rfl,X5,G4,L150,hE,λ L' H6 b6 X6 G' hl'=>?_⟩;exact ⟨_,_,_,L',rfl,X6,G',by omega,nw.but (s4.trans s5) b6,p5.rows nw.pot.1 nw.pot.2 b6⟩
  ·rintro σ H4 ⟨x,y,z,L4,rfl,X4,G4,hl4,s4,p4⟩
   exact ⟨_,rfl,k r A1 L4 H4 s4 p4 X4 G4 hl4 nw⟩
def oI:Sp:=λ vs H Q _=>∃ (a:Addr) (n:Nat),vs=[.ref a,vn n]/\PotAt H a/\n<=150 /\
 ∀ (l:Addr) (ns:List Nat) (H':Hp),SameBut a H H'->PotAt H' a->H l=none->l≠a->H' l=some (.lst (ns.map vn))->ns.Perm (List.range n)->Q (.ref l) H'
theorem kFS {ns:List Nat} {i d:Nat} (h:ns.Perm (List.range i)):(ns.take d++i::ns.drop d).Perm (List.range (i+1)):=by
 rw [range_succ]
 have e:(ns.take d++i::ns.drop d).Perm (i::ns):=by
  have:=List.perm_middle (a:=i) (l₁:=ns.take d) (l₂:=ns.drop d);rw [take_append_drop] at this;exact this
 exact e.trans ((List.Perm.cons i h).trans (List.perm_append_singleton i _).symm)
theorem pE {f:Addr} {fd:FuncData} (F:Fun K "_law_names" "_law_names" yN f fd) (kU:Own.Has P w K mg base "_law_digit" ["_law_pot_here","_law_many"] 1 (vX)) (z_range:mg "range" = none):FnOk P w K mg base CX0 2 f fd ["_law_pot_here","_law_n"] (oI):=by
 refine F.ok sc_law_names (λ vs H Q E h=>?_) (λ cdv A outer s H vs Q E hr h=>?_)
 ·obtain ⟨a,n,rfl,_⟩:=h
  rfl
 obtain ⟨a,n,rfl,ha,hn,k⟩:=h
 refine ⟨_,(kD (kT (i:=2) sc_law_names.nd rfl (Or.inl rfl) (yH kB))
   (kD (zJ PassesOwn.never rfl (yS rfl z_range (kA (pv 1) kB)) (kJ (i:=3) sc_law_names.nd rfl (Or.inl rfl)) (kI (qJ (jW PySem.F.plainAttrs_list PySem.F.slot_list_insert PySem.F.type_list_insert nI (pv 2) (kA (Own.pe_has kU (hr.mono (by decide)) rfl (kA (pv 0) (kA (qM yZ (pv 3) kM) kB))) (kA (pv 3) kB))))))
   (kI (kS (pv 2))))),?_⟩
 refine ⟨yS0,λ l nl=>?_⟩
 have la:l≠a:=by
  obtain ⟨x,y,z,_⟩:=ha;exact (kL z nl).symm
 have g0:=kE nl (.lst [])
 refine ⟨_,rfl,(n:Int),rfl,by omega,by omega,wK (lo:=0) (n:=(n:Int).toNat) (λ i σ H2=>∃ (x:Option V) (ns:List Nat),σ=[some (.ref a),some (vn n),some (.ref l),x]/\H2 l=some (.lst (ns.map vn))/\ns.Perm (List.range i)/\SameBut a H H2/\PotAt H2 a)
  ⟨none,[],rfl,kC,.nil,.of g0,ha.kept g0⟩ ?_ ?_⟩
 ·rintro i σ H2 hi ⟨x,ns,rfl,hl,hp,s2,p2⟩
  have ln:ns.length=i:=by rw [hp.length_eq,length_range]
  refine ⟨_,rfl,.inl ⟨rfl,_,SqL.of hl⟩,_,rfl,_,rfl,_,_,rfl,rfl,a,_,rfl,p2,(by omega),aR (Nat.lt_of_le_of_lt (m:=151) (by omega) (by decide)),λ d H3 d0 d1 s3 p3=>?_⟩;have hl3:=s3 _ _ la hl;refine ⟨_,rfl,l,_,_,_,rfl,rfl,hl3,d0,(by omega),(by rw [length_map,ln];exact qG (by omega)),?_⟩;refine ⟨_,ns.take d.toNat++i::ns.drop d.toNat,rfl,?_,kFS hp,(λ b o nb e=>?_),p3.other la.symm⟩
  ·rw [map_append,map_take,map_cons,map_drop,show vn i=V.int (0+(i:Int)) by rw [Int.zero_add];rfl]
   exact kC
  ·rw [kK (kL e nl)]
   exact s3 b o nb (s2 b o nb e)
 ·rintro σ H2 ⟨x,ns,rfl,hl,hp,s2,p2⟩
  exact ⟨_,rfl,k l ns H2 s2 p2 nl la hl hp⟩
theorem aD (xs:List V) {k:Nat} (h:k<=xs.length):uJ xs (some (k:Int)) none=xs.drop k:=by
 unfold uJ;rw [HT.sIx_none,HT.sIx_nat,Nat.min_eq_left h,take_of_length_le];rw [length_drop];exact Nat.le_refl _
theorem dW (xs:List V) {k:Nat} (h:k<=xs.length):uJ xs none (some (k:Int))=xs.take k:=by
 unfold uJ;rw [HT.sIx_none,HT.sIx_nat,Nat.min_eq_left h,List.drop_zero,Nat.sub_zero]
def kCI (L:Rows) (ns:List Nat) (W:Rows) (p:Nat):Prop:=∀ row,L[p]?=some row->∃ n M,ns[p]?=some n/\M∈row.map (λ q=>ns.getD q 0)/\(∀ i∈row.map (λ q=>ns.getD q 0),M<=i)/\W[n]?=some (rot (row.map λ q=>ns.getD q 0) M)
def kEW:Sp:=λ vs H Q _=>∃ (r l:Addr) (A:List Addr) (L:Rows) (ns:List Nat),vs=[.ref r,.ref l]/\RowsAt H r A L/\H l=some (.lst (ns.map vn))/\ns.Perm (List.range L.length)/\Some' L/\(∀ (p:Nat) (row:List Nat),L[p]?=some row->∀ x∈row,x<L.length) /\
 ∀ (t:Addr) (W:Rows) (H':Hp),Same H H'->WebAt H' t W->W.length=L.length->(∀ p,p<L.length->kCI L ns W p)->Q (.ref t) H'
theorem cC {n j:Nat} (h:j<n):ixN n (j:Int)=some j:=by
 unfold ixN;rw [if_pos (by omega),if_pos (by omega),Int.toNat_natCast]
theorem qD {H H1:Hp} {D:Addr} {o:HO} (n:H D=none) (g:Same H H1):Same H (upd H1 D o):=λ b u e=>by
 rw [kK (kL e n)];exact g b u e
theorem kFI (n:Nat) (e:Addr):(List.replicate n [V.ref e]).flatten=(List.replicate n e).map V.ref:=by
 induction n with
 | zero=>rfl
 | succ n ih=>rw [replicate_succ,replicate_succ,List.flatten_cons,ih];rfl
theorem bS {n k:Nat} (h:k<=n):HT.sIx n 0 (some (k:Int))=k:=by rw [HT.sIx_nat,Nat.min_eq_left h]
theorem oO {n k:Nat} (h:k<=n):HT.sIx n n (some (k:Int))=k:=by rw [HT.sIx_nat,Nat.min_eq_left h]
theorem oQ (ns:List Nat) (x:Nat):(ns.map vn).drop (ns.idxOf x)++(ns.map vn).take (ns.idxOf x)=(rot ns x).map vn:=by unfold rot;rw [map_append,map_drop,map_take]
def uN:Sp:=λ vs H Q _=>∃ (a:Addr) (ns:List Nat),vs=[.ref a]/\H a=some (.lst (ns.map vn))/\ns≠[]/\ns.length<=1000 /\
 ∀ (M:Nat) (t:Addr) (H':Hp),M∈ns->(∀ i∈ns,M<=i)->Same H H'->H t=none->H' t=some (.tup ((rot ns M).map vn))->Q (.ref t) H'
theorem bW {f:Addr} {fd:FuncData} (F:Fun K "_law_from_least" "_law_from_least" jA f fd) (z_min:mg "min" = none) (z_tuple:mg "tuple" = none):FnOk P w K mg base CX0 1 f fd ["_law_row"] (uN):=by
 refine F.ok sc_law_from_least (λ vs H Q E h=>?_) (λ cdv A outer s H vs Q E hr h=>?_)
 ·obtain ⟨a,ns,rfl,_⟩:=h
  rfl
 obtain ⟨D,cl,rfl,hD,cne,cle,k⟩:=h
 refine ⟨_,(kD (kT (i:=1) sc_law_from_least.nd rfl (Or.inl rfl) (jW PySem.F.plainAttrs_list PySem.F.slot_list_index PySem.F.type_list_index bX (pv 0) (kA (kN (nV rfl) rfl z_min PyProof.Rows.boot_min (kA (pv 0) kB)) kB)))
   (kI (kS (qI qR rfl z_tuple PyProof.Rows.boot_tuple (kA (qM kAA (xO bP (pv 0) (xV (pv 1)) zY) (xO bP (pv 0) zY (xV (pv 1)))) kB))))),?_⟩
 have cpos:0<cl.length:=length_pos_iff.mpr cne;refine ⟨_,rfl,.inl ⟨rfl,_,SqL.of hD⟩,_,rfl,D,cl.map ci,rfl,SqL.of (by rw [hD,jO]),(by rw [length_map];exact cpos),λ M hM hle=>?_⟩;obtain ⟨m,hm,rfl⟩:=mem_map.mp hM
 have mle:∀ j∈cl,m<=j:=λ j hj=>by
  have:=hle (ci j) (mem_map.mpr ⟨j,hj,rfl⟩);simp only [ci] at this;omega
 have il:=idxOf_lt_length_of_mem hm;refine ⟨D,cl.map ci,m,cl.idxOf m,rfl,rfl,(by rw [hD,jO]),qC hm,?_⟩;have lv:(cl.map vn).length=cl.length:=length_map _;refine ⟨_,rfl,_,rfl,_,rfl,D,_,rfl,SqL.of hD,λ p1 m1=>?_⟩;rw [aD _ (by rw [lv];omega)];have h1:=kE m1 (.lst ((cl.map vn).drop (cl.idxOf m)));refine ⟨_,rfl,_,rfl,_,rfl,D,_,rfl,SqL.of (h1 _ _ hD),λ p2 m2=>?_⟩;rw [dW _ (by rw [lv];omega)];have h2:=kE m2 (.lst ((cl.map vn).take (cl.idxOf m)));refine ⟨p1,p2,_,_,rfl,rfl,h2 _ _ kC,kC,(by rw [length_drop,length_take,lv];exact Nat.le_of_lt (qG (by omega))),λ p3 m3=>?_⟩;have h3:=kE m3 (.lst ((cl.map vn).drop (cl.idxOf m)++(cl.map vn).take (cl.idxOf m)));refine ⟨p3,_,rfl,.inl ⟨SqL.of kC,λ t m4=>?_⟩⟩;have hh:=h1.trans (h2.trans h3);exact k m t _ hm mle (hh.trans (kE m4 _)) (hh.free m4) (by rw [<-oQ];exact kC)
def gJ:Sp:=λ vs H Q _=>∃ (a:Addr) (ns:List Nat) (x:Nat),vs=[.ref a,vn x]/\(H a=some (.lst (ns.map vn))\/H a=some (.tup (ns.map vn)))/\x∈ns/\ns.length<=1000 /\
 ∀ (t:Addr) (H':Hp),Same H H'->H' t=some (.tup ((rot ns x).map vn))->Q (.ref t) H'
theorem kAH {f:Addr} {fd:FuncData} (F:Fun K "from_on" "from_on" wI f fd) (z_tuple:mg "tuple" = none):FnOk P w K mg base CX0 1 f fd ["row","first"] (gJ):=by
 refine F.ok sc_from_on (λ vs H Q E h=>?_) (λ cdv A outer s H vs Q E hr h=>?_)
 ·obtain ⟨a,ns,x,rfl,_⟩:=h
  rfl
 obtain ⟨D,cl,m,rfl,hD,hm,cle,k⟩:=h;have il:=idxOf_lt_length_of_mem hm;have lv:(cl.map vn).length=cl.length:=length_map _;rcases hD with hD | hD
 ·refine ⟨_,(kD (kT (i:=2) sc_from_on.nd rfl (Or.inl rfl) (jW PySem.F.plainAttrs_list PySem.F.slot_list_index PySem.F.type_list_index bX (pv 0) (kA (pv 1) kB)))
   (kI (kS (qI qR rfl z_tuple PyProof.Rows.boot_tuple (kA (qM kAA (xO bP (pv 0) (xV (pv 2)) zY) (xO bP (pv 0) zY (xV (pv 2)))) kB))))),?_⟩
  refine ⟨_,rfl,.inl ⟨rfl,_,SqL.of hD⟩,_,rfl,D,cl.map ci,m,cl.idxOf m,rfl,rfl,(by rw [hD,jO]),qC hm,?_⟩;refine ⟨_,rfl,_,rfl,_,rfl,D,_,rfl,SqL.of hD,λ p1 m1=>?_⟩;rw [aD _ (by rw [lv];omega)];have h1:=kE m1 (.lst ((cl.map vn).drop (cl.idxOf m)));refine ⟨_,rfl,_,rfl,_,rfl,D,_,rfl,SqL.of (h1 _ _ hD),λ p2 m2=>?_⟩;rw [dW _ (by rw [lv];omega)];have h2:=kE m2 (.lst ((cl.map vn).take (cl.idxOf m)));refine ⟨p1,p2,_,_,rfl,rfl,h2 _ _ kC,kC,(by rw [length_drop,length_take,lv];exact Nat.le_of_lt (qG (by omega))),λ p3 m3=>?_⟩;have h3:=kE m3 (.lst ((cl.map vn).drop (cl.idxOf m)++(cl.map vn).take (cl.idxOf m)));refine ⟨p3,_,rfl,.inl ⟨SqL.of kC,λ t m4=>?_⟩⟩;exact k t _ (h1.trans (h2.trans (h3.trans (kE m4 _)))) (by rw [<-oQ];exact kC)
 ·refine ⟨_,(kD (kT (i:=2) sc_from_on.nd rfl (Or.inl rfl) (jW PySem.F.plainAttrs_tuple PySem.F.slot_tuple_index PySem.F.type_tuple_index aM (pv 0) (kA (pv 1) kB)))
   (kI (kS (qI qR rfl z_tuple PyProof.Rows.boot_tuple (kA (qM fT (xO bO (pv 0) (xV (pv 2)) zY) (xO bO (pv 0) zY (xV (pv 2)))) kB))))),?_⟩
  refine ⟨_,rfl,.inr (.inl ⟨rfl,.inr ⟨_,hD⟩⟩),_,rfl,D,cl.map ci,m,cl.idxOf m,rfl,rfl,SqT.of (by rw [hD,jO]),qC hm,?_⟩;by_cases z:cl.idxOf m=0
  ·have er:rot cl m=cl:=by unfold rot;rw [z];simp
   rw [er] at k;refine ⟨_,rfl,_,rfl,_,rfl,.inr ⟨D,_,rfl,SqT.of hD,⟨by rw [z,lv];exact bS (k:=0) (Nat.zero_le _),HT.sIx_none _ _⟩,?_⟩⟩;refine ⟨_,rfl,_,rfl,_,rfl,.inl ⟨D,_,rfl,SqT.of hD,(λ c=>by rw [lv,oO (by omega)] at c;omega),λ p2 m2=>?_⟩⟩;rw [dW _ (by rw [lv];omega),z];have h2:=kE m2 (.tup ((cl.map vn).take 0));refine ⟨D,p2,_,_,rfl,rfl,SqT.of (h2 _ _ hD),SqT.of kC,(λ c=>by rw [List.map_eq_nil_iff] at c;rw [c] at hm;cases hm),(by rw [lv];simp;exact gL cle),λ _=>?_,λ c=>absurd rfl c⟩;exact ⟨D,_,rfl,.inr ⟨SqT.of (h2 _ _ hD),k D _ h2 (h2 _ _ hD)⟩⟩
  ·refine ⟨_,rfl,_,rfl,_,rfl,.inl ⟨D,_,rfl,SqT.of hD,(λ c=>by rw [lv,bS (by omega)] at c;exact z c.1),λ p1 m1=>?_⟩⟩
   rw [aD _ (by rw [lv];omega)];have h1:=kE m1 (.tup ((cl.map vn).drop (cl.idxOf m)));refine ⟨_,rfl,_,rfl,_,rfl,.inl ⟨D,_,rfl,SqT.of (h1 _ _ hD),(λ c=>by rw [lv,oO (by omega)] at c;omega),λ p2 m2=>?_⟩⟩;rw [dW _ (by rw [lv];omega)];have h2:=kE m2 (.tup ((cl.map vn).take (cl.idxOf m)));refine ⟨p1,p2,_,_,rfl,rfl,SqT.of (h2 _ _ kC),SqT.of kC,(λ c=>by have:=congrArg List.length c;rw [length_drop,lv,length_nil] at this;omega),(by rw [length_drop,length_take,lv];exact gL (by omega)),(λ c=>by have:=congrArg List.length c;rw [length_take,lv,length_nil] at this;omega),λ _ p3 m3=>?_⟩;have h3:=kE m3 (.tup ((cl.map vn).drop (cl.idxOf m)++(cl.map vn).take (cl.idxOf m)));refine ⟨p3,_,rfl,.inr ⟨SqT.of kC,?_⟩⟩;exact k p3 _ (h1.trans (h2.trans h3)) (by rw [<-oQ];exact kC)
def bK:Sp:=λ vs H Q _=>∃ (a:Addr) (ns:List Nat),vs=[.ref a]/\(H a=some (.lst (ns.map vn))\/H a=some (.tup (ns.map vn)))/\ns≠[]/\ns.length<=1000 /\
 ∀ (M:Nat) (t:Addr) (H':Hp),M∈ns->(∀ i∈ns,M<=i)->Same H H'->H' t=some (.tup ((rot ns M).map vn))->Q (.ref t) H'
theorem rX {ns:List Nat} {M:Int} (hM:M∈ns.map ci) (hle:∀ i∈ns.map ci,M<=i):∃ m,M=ci m/\m∈ns/\∀ j∈ns,m<=j:=by
 obtain ⟨m,hm,rfl⟩:=mem_map.mp hM
 exact ⟨m,rfl,hm,λ j hj=>by
  have:=hle (ci j) (mem_map.mpr ⟨j,hj,rfl⟩);simp only [ci] at this;omega⟩
theorem mN {f:Addr} {fd:FuncData} (F:Fun K "from_least" "from_least" xU f fd) (aO:Own.Has P w K mg base "from_on" ["row","first"] 1 (gJ)) (z_min:mg "min" = none):FnOk P w K mg base CX0 2 f fd ["row"] (bK):=by
 refine F.ok mJ (λ vs H Q E h=>?_) (λ cdv A outer s H vs Q E hr h=>?_)
 ·obtain ⟨a,ns,rfl,_⟩:=h
  rfl
 obtain ⟨D,cl,rfl,hD,cne,cle,k⟩:=h;have cpos:0<cl.length:=length_pos_iff.mpr cne;rcases id hD with hD' | hD'
 ·refine ⟨_,(kI (kS (Own.pe_has aO (hr.mono (by decide)) rfl (kA (pv 0) (kA (kN (nV rfl) rfl z_min PyProof.Rows.boot_min (kA (pv 0) kB)) kB))))),?_⟩
  refine ⟨_,rfl,_,rfl,D,cl.map ci,rfl,SqL.of (by rw [hD',jO]),(by rw [length_map];exact cpos),λ M hM hle=>?_⟩;obtain ⟨m,rfl,hm,mle⟩:=rX hM hle;exact ⟨D,cl,m,rfl,hD,hm,cle,λ t H' g ht=>k m t H' hm mle g ht⟩
 ·refine ⟨_,(kI (kS (Own.pe_has aO (hr.mono (by decide)) rfl (kA (pv 0) (kA (kN (kDZ rfl) rfl z_min PyProof.Rows.boot_min (kA (pv 0) kB)) kB))))),?_⟩
  refine ⟨_,rfl,_,rfl,D,cl.map ci,rfl,SqT.of (by rw [hD',jO]),(by rw [length_map];exact cpos),λ M hM hle=>?_⟩;obtain ⟨m,rfl,hm,mle⟩:=rX hM hle;exact ⟨D,cl,m,rfl,hD,hm,cle,λ t H' g ht=>k m t H' hm mle g ht⟩
def oF:Sp:=λ vs H Q _=>∃ (a:Addr) (ns:List Nat) (v q:Nat),vs=[.ref a,vn v,vn q]/\H a=some (.tup (ns.map vn))/\v∈ns/\ns.length<=900 /\
 ∀ (M:Nat) (t:Addr) (H':Hp),M∈qF ns v q->(∀ i∈qF ns v q,M<=i)->Same H H'->H' t=some (.tup ((rot (qF ns v q) M).map vn))->Q (.ref t) H'
theorem kBT (ns:List Nat) (v q:Nat):(ns.map vn).take (ns.idxOf v+1)++[vn q]++(ns.map vn).drop (ns.idxOf v+1)=(qF ns v q).map vn:=by
 unfold qF;rw [map_append,map_cons,map_drop,map_take,append_assoc]
 rfl
theorem hJ {f:Addr} {fd:FuncData} (F:Fun K "with_behind" "with_behind" xD f fd) (xY:Own.Has P w K mg base "from_least" ["row"] 2 (bK)):FnOk P w K mg base CX0 3 f fd ["row","place","added"] (oF):=by
 refine F.ok sc_with_behind (λ vs H Q E h=>?_) (λ cdv A outer s H vs Q E hr h=>?_)
 ·obtain ⟨a,ns,v,q,rfl,_⟩:=h
  rfl
 obtain ⟨D,cl,v,q,rfl,hD,hv,cle,k⟩:=h
 refine ⟨_,(kD (kT (i:=3) sc_with_behind.nd rfl (Or.inl rfl) (qM yZ (jW PySem.F.plainAttrs_tuple PySem.F.slot_tuple_index PySem.F.type_tuple_index aM (pv 0) (kA (pv 1) kB)) kM))
   (kI (kS (Own.pe_has xY (hr.mono (by decide)) rfl (kA (qM fT (qM fT (xO bO (pv 0) zY (xV (pv 3))) (yB (kA (pv 2) kB))) (xO bO (pv 0) (xV (pv 3)) zY)) kB))))),?_⟩
 have il:=idxOf_lt_length_of_mem hv;have lv:(cl.map vn).length=cl.length:=length_map _;have ec:((cl.idxOf v:Nat):Int)+1=((cl.idxOf v+1:Nat):Int):=by omega
 refine ⟨_,rfl,.inr (.inl ⟨rfl,.inr ⟨_,hD⟩⟩),_,rfl,D,cl.map ci,v,cl.idxOf v,rfl,rfl,SqT.of (by rw [hD,jO]),qC hv,_,_,rfl,rfl,?_⟩;dsimp only;rw [ec]
 have ni:(qF cl v q)≠[]:=λ z=>by
  have:=jJ (w:=q) hv;rw [z] at this;simp at this
 have li:(qF cl v q).length<=1000:=by rw [jJ hv];omega
 by_cases wh:cl.idxOf v+1=cl.length
 ·have ei:cl.map vn++[vn q]=(qF cl v q).map vn:=by
   rw [<-kBT,wh,<-lv,take_length,List.drop_length,append_nil]
  refine ⟨_,rfl,_,rfl,_,rfl,.inr ⟨D,_,rfl,SqT.of hD,⟨HT.sIx_none _ _,by rw [lv,wh];exact oO (Nat.le_refl _)⟩,?_⟩⟩;refine ⟨_,rfl,yS1,λ p2 n2=>?_⟩;have h2:=kE n2 (.tup [vn q]);refine ⟨D,p2,_,_,rfl,rfl,SqT.of (h2 _ _ hD),SqT.of kC,(λ c=>by rw [List.map_eq_nil_iff] at c;rw [c] at hv;cases hv),(by rw [lv];exact gL (by show cl.length+1<=1000;omega)),(λ c=>by cases c),λ _ p3 n3=>?_⟩;have h3:=kE n3 (.tup (cl.map vn++[vn q]));have h23:=h2.trans h3;refine ⟨_,rfl,_,rfl,_,rfl,.inl ⟨D,_,rfl,SqT.of (h23 _ _ hD),(λ c=>by rw [lv,bS (by omega)] at c;omega),λ p4 n4=>?_⟩⟩;rw [aD _ (by rw [lv];omega)];have ed:(cl.map vn).drop (cl.idxOf v+1)=[]:=by rw [wh,<-lv,List.drop_length]
  have h4:=kE n4 (.tup ((cl.map vn).drop (cl.idxOf v+1)));have hp3:=h4 _ _ (kC (H:=upd H p2 (.tup [vn q])) (a:=p3) (o:=.tup (cl.map vn++[vn q])));refine ⟨p3,p4,_,_,rfl,rfl,SqT.of hp3,SqT.of kC,(λ c=>by simp at c),(by rw [ed,length_append,lv];exact gL (by show cl.length+1+0<=1000;omega)),λ _=>?_,λ c=>absurd ed c⟩;exact ⟨p3,qF cl v q,rfl,.inr (by rw [hp3,ei]),ni,li,λ M t H' hM hle g ht=>k M t H' hM hle (h23.trans (h4.trans g)) ht⟩
 ·have l1:cl.idxOf v+1<cl.length:=by omega
  refine ⟨_,rfl,_,rfl,_,rfl,.inl ⟨D,_,rfl,SqT.of hD,(λ c=>by rw [lv,oO (by omega)] at c;omega),λ p1 n1=>?_⟩⟩;rw [dW _ (by rw [lv];omega)];have h1:=kE n1 (.tup ((cl.map vn).take (cl.idxOf v+1)));refine ⟨_,rfl,yS1,λ p2 n2=>?_⟩;have h2:=kE n2 (.tup [vn q]);refine ⟨p1,p2,_,_,rfl,rfl,SqT.of (h2 _ _ kC),SqT.of kC,(λ c=>by have:=congrArg List.length c;rw [length_take,lv,length_nil] at this;omega),(by rw [length_take,lv];exact gL (by show min _ _+1<=1000;omega)),(λ c=>by cases c),λ _ p3 n3=>?_⟩;have h3:=kE n3 (.tup ((cl.map vn).take (cl.idxOf v+1)++[vn q]));have h13:=h1.trans (h2.trans h3);refine ⟨_,rfl,_,rfl,_,rfl,.inl ⟨D,_,rfl,SqT.of (h13 _ _ hD),(λ c=>by rw [lv,bS (by omega)] at c;omega),λ p4 n4=>?_⟩⟩;rw [aD _ (by rw [lv];omega)];have h4:=kE n4 (.tup ((cl.map vn).drop (cl.idxOf v+1)));refine ⟨p3,p4,_,_,rfl,rfl,SqT.of (h4 _ _ kC),SqT.of kC,(λ c=>by simp at c),(by rw [length_append,length_take,length_drop,lv];exact gL (by show min _ _+1+_<=1000;omega)),(λ c=>by have:=congrArg List.length c;rw [length_drop,lv,length_nil] at this;omega),λ _ p5 n5=>?_⟩;have h5:=kE n5 (.tup ((cl.map vn).take (cl.idxOf v+1)++[vn q]++(cl.map vn).drop (cl.idxOf v+1)));exact ⟨p5,qF cl v q,rfl,.inr (by rw [kC,kBT]),ni,li,λ M t H' hM hle g ht=>k M t H' hM hle (h13.trans (h4.trans (h5.trans g))) ht⟩
theorem aN (s:Nat) (row:List Nat):inV (vn s) (row.map vn)=decide (s∈row):=by
 unfold inV;rw [Bool.eq_iff_iff,List.any_eq_true,decide_eq_true_iff];constructor
 ·rintro ⟨y,hy,e⟩
  obtain ⟨n,hn,rfl⟩:=mem_map.mp hy;have:(n:Int)=s:=by simpa [eqV,vn] using e
  rw [show s=n by omega];exact hn
 ·intro h
  exact ⟨vn s,mem_map.mpr ⟨s,h,rfl⟩,by simp [eqV,vn]⟩
theorem vQ (row:List Nat):(row.map vn).all aT=true:=by
 rw [all_eq_true];intro y hy;obtain ⟨n,hn,rfl⟩:=mem_map.mp hy
 rfl
def cX:Sp:=λ vs H Q _=>∃ (t z:Addr) (W:Rows) (p q:Nat),vs=[.ref t,.ref z]/\WebAt H t W/\H z=some (.tup [vn p,vn q])/\Nb W/\E W p q /\
 ∀ (y:Addr) (H':Hp),Same H H'->H y=none->H' y=some (.tup [vn (nxt W (p,q)).1,vn (nxt W (p,q)).2])->Q (.ref y) H'
theorem kHU {W:Rows} (S:Nb W) {q v p:Nat} (h:R W q v p):∃ row,W[q]?=some row/\p∈row/\jG row p=some v:=by
 obtain ⟨row,e,n⟩:=h;exact ⟨row,e,(kW n).2,oS (S.nd _ _ e) n⟩
theorem kDD {f:Addr} {fd:FuncData} (F:Fun K "behind" "behind" vN f fd):FnOk P w K mg base CX0 1 f fd ["web","step"] (cX):=by
 refine F.ok sc_behind (λ vs H Q E h=>?_) (λ cdv A outer s H vs Q E hr h=>?_)
 ·obtain ⟨t,z,W,p,q,rfl,_⟩:=h
  rfl
 obtain ⟨t,z,W,p,q,rfl,hW,hz,S,hE,k⟩:=h
 refine ⟨_,(kD (jZ (pv 1) (xB rfl (kP (kJ (i:=2) sc_behind.nd rfl (Or.inl rfl)) (kP (kJ (i:=3) sc_behind.nd rfl (Or.inl rfl)) qW))))
   (kD (kT (i:=4) sc_behind.nd rfl (Or.inl rfl) (kX qX (pv 0) (pv 3) (λ _ _=>rfl)))
   (kI (kS (yB (kA (pv 3) (kA (kX qX (pv 4) (qM dE (jW PySem.F.plainAttrs_tuple PySem.F.slot_tuple_index PySem.F.type_tuple_index aM (pv 4) (kA (pv 2) kB)) kM) (λ _ _=>rfl)) kB))))))),?_⟩
 obtain ⟨v,rv,en,_⟩:=wN S hE;obtain ⟨row,hq,hp,hv⟩:=kHU S rv;obtain ⟨ts,h1,_,h3⟩:=hW.at;obtain ⟨b,e1,e2⟩:=h3 q row hq;rw [en] at k;refine ⟨_,rfl,z,_,rfl,SqT.of hz,rfl,_,_,rfl,_,_,rfl,rfl,?_⟩;refine ⟨_,rfl,_,rfl,t,_,_,_,rfl,rfl,SqT.of h1,e1,?_⟩;refine ⟨_,rfl,_,rfl,_,rfl,.inr (.inl ⟨rfl,.inr ⟨_,e2⟩⟩),_,rfl,b,row.map ci,p,row.idxOf p,rfl,rfl,SqT.of (by rw [e2,jO]),qC hp,_,_,rfl,rfl,b,_,_,_,rfl,rfl,SqT.of e2,pX hp hv,yS2,λ y ny=>?_⟩;exact k y _ (kE ny _) ny kC
def prD (x y:Nat):PyData:=.tuple [.int (x:Int),.int (y:Int)]
theorem uA (x y:Nat):SeqAt.shaped (prD x y)=true:=by
 first | rfl | simp [prD,SeqAt.shaped,PyData.canLay0,PyData.canLayAll0,PyData.depth,PyData.depthAll]
theorem fS (x y u v:Nat):PyData.eqv (prD x y) (prD u v)=decide (x=u/\y=v):=by
 have e:∀ i j:Nat,((i:Int) == (j:Int))=decide (i=j):=λ i j=>by
  rw [Bool.eq_iff_iff,beq_iff_eq,decide_eq_true_iff];omega
 simp [prD,PyData.eqv,PyData.eqvAll,e]
theorem kBW {K:PySem.W.Frag} {H:Hp} {z:Addr} {x y:Nat} (h:H z=some (.tup [vn x,vn y])):Dt K H (prD x y) (.ref z):=by
 unfold prD Dt;exact ⟨z,_,rfl,SqT.of h,by simp only [DtAll,Dt];exact ⟨_,_,rfl,rfl,_,_,rfl,rfl,rfl⟩⟩
def PairsAt (H:Hp) (s:Addr) (T:List (Nat×Nat)):Prop:=∃ ss:List Addr,H s=some (.lst (ss.map V.ref))/\ss.length=T.length/\∀ (i:Nat) (b:Addr) (t:Nat×Nat),ss[i]?=some b->T[i]?=some t->H b=some (.tup [vn t.1,vn t.2])
theorem PairsAt.kept {H H':Hp} {s:Addr} {T:List (Nat×Nat)} (h:PairsAt H s T) (g:Same H H'):PairsAt H' s T:=by
 obtain ⟨ss,h1,h2,h3⟩:=h;exact ⟨ss,g _ _ h1,h2,λ i b t e1 e2=>g _ _ (h3 i b t e1 e2)⟩
theorem PairsAt.app {H H':Hp} {s b:Addr} {ss:List Addr} {T:List (Nat×Nat)} {t:Nat×Nat} (h1:H s=some (.lst (ss.map V.ref))) (h2:ss.length=T.length) (h3:∀ (i:Nat) (b:Addr) (t:Nat×Nat),ss[i]?=some b->T[i]?=some t->H b=some (.tup [vn t.1,vn t.2])) (hb:H b=some (.tup [vn t.1,vn t.2])) :
  PairsAt (upd H s (.lst (ss.map V.ref++[.ref b]))) s (T++[t]):=by
 refine ⟨ss++[b],by rw [map_append];exact kC,by simp [h2],λ i c u e1 e2=>?_⟩;have cs:c≠s->upd H s (.lst (ss.map V.ref++[.ref b])) c=H c:=λ z=>kK z;by_cases hl:i<ss.length
 ·rw [List.getElem?_append_left hl] at e1
  rw [List.getElem?_append_left (by omega)] at e2;have:=h3 i c u e1 e2;rw [cs (yA this h1 (by simp))];exact this
 ·have:i=ss.length:=by
   have:=(List.getElem?_eq_some_iff.mp e1).1;simp at this;omega
  subst this;rw [List.getElem?_concat_length] at e1;rw [h2,List.getElem?_concat_length] at e2;cases e1
  cases e2
  rw [cs (yA hb h1 (by simp))];exact hb
def orb (W:Rows) (p q k:Nat):List (Nat×Nat):=(List.range k).map λ i=>it (nxt W) i (p,q)
theorem kFW (W:Rows) (p q k:Nat):orb W p q (k+1)=orb W p q k++[it (nxt W) k (p,q)]:=by
 unfold orb;rw [range_succ,map_append]
 rfl
theorem oV (W:Rows) (p q k:Nat):(orb W p q k).length=k:=by simp [orb]
structure Turns (W:Rows) (p q k:Nat):Prop where
 pos:0<k
 back:it (nxt W) k (p,q)=(p,q)
 first:∀ j,0<j->j<k->it (nxt W) j (p,q)≠(p,q)
 few:k<=(kH W).length
theorem kEI {W:Rows} (S:Nb W) {p q:Nat} (h:E W p q):∃ k,Turns W p q k:=by
 obtain ⟨k,h1,h2,h3,h4⟩:=(uQ S.nd S.sym).comes (mem_steps.mpr h);exact ⟨k,h1,h3,h4,h2⟩
theorem Turns.mem {W:Rows} {p q k:Nat} (h:Turns W p q k) (t:Nat×Nat):t∈orb W p q k↔∃ j,it (nxt W) j (p,q)=t:=by
 unfold orb;rw [mem_map];constructor
 ·rintro ⟨i,_,e⟩
  exact ⟨i,e⟩
 ·rintro ⟨j,e⟩
  refine ⟨j % k,mem_range.mpr (Nat.mod_lt _ h.pos),?_⟩;rw [<-bB _ _ h.back];exact e
theorem yD {W:Rows} (S:Nb W) (h:W.length<=42):(kH W).length<=1764:=by
 rw [qZ]
 have:∀ (L:List (List Nat)) (n:Nat),(∀ r∈L,r.length<=n)->(L.map List.length).sum<=L.length*n:=λ L n hL=>by
  induction L with
  | nil=>simp
  | cons r L ih =>
   have h1:=hL r (by simp);have h2:=ih λ r hr=>hL r (by simp [hr]);simp only [map_cons,List.sum_cons,length_cons,Nat.add_mul,Nat.one_mul];omega
 have h1:=this W W.length λ r hr=>by
  obtain ⟨i,hi,rfl⟩:=mem_iff_getElem.mp hr;exact S.len (List.getElem?_eq_getElem hi)
 have h2:W.length*W.length<=42*42:=Nat.mul_le_mul h h;omega
def bJ:Sp:=λ vs H Q _=>∃ (w z:Addr) (W:Rows) (p q:Nat),vs=[.ref w,.ref z]/\WebAt H w W/\Nb W/\W.length<=42/\H z=some (.tup [vn p,vn q])/\E W p q /\
 ∀ (s:Addr) (k:Nat) (H':Hp),Same H H'->Turns W p q k->PairsAt H' s (orb W p q k)->Q (.ref s) H'
def lO:Option HO->Nat
 | some (.lst xs)=>xs.length
 | some (.dK kvs)=>kvs.length
 | _=>0
def kNO (K0:Nat) (σ:St) (H:Hp):Nat:=match σ with
 | [_,_,some (.ref s),_]=>K0-lO (H s)
 | _=>0
theorem hV {f:Addr} {fd:FuncData} (F:Fun K "steps_round" "steps_round" xE f fd) (cF:Own.Has P w K mg base "behind" ["web","step"] 1 (cX)):FnOk P w K mg base CX0 2 f fd ["web","step"] (bJ):=by
 refine F.ok sc_steps_round (λ vs H Q E h=>?_) (λ cdv A outer s0 H vs Q E hr h=>?_)
 ·obtain ⟨w,z,W,p,q,rfl,_⟩:=h
  rfl
 obtain ⟨w,z,W,p,q,rfl,hW,S,h30,hz,hE,k⟩:=h
 refine ⟨_,(kD (kT (i:=2) sc_steps_round.nd rfl (Or.inl rfl) (yH (kA (pv 1) kB)))
   (kD (kT (i:=3) sc_steps_round.nd rfl (Or.inl rfl) (Own.pe_has cF (hr.mono (by decide)) rfl (kA (pv 0) (kA (pv 1) kB))))
   (kD (uO PassesOwn.never (kY (hG hr.units) (pv 3) (pv 1) (qO _)) (kD (qJ (jW PySem.F.plainAttrs_list PySem.F.slot_list_append PySem.F.type_list_append zK (pv 2) (kA (pv 3) kB)))
   (kI (kT (i:=3) sc_steps_round.nd rfl (Or.inl rfl) (Own.pe_has cF (hr.mono (by decide)) rfl (kA (pv 0) (kA (pv 3) kB)))))))
   (kI (kS (pv 2)))))),?_⟩
 obtain ⟨n,T⟩:=kEI S hE;have few:=yD S h30;have n9:=T.few;refine ⟨_,rfl,yS1,λ s ns=>?_⟩;have gs:=kE ns (.lst [.ref z]);refine ⟨_,rfl,_,rfl,w,z,W,p,q,rfl,hW.kept gs,gs _ _ hz,S,hE,λ y H1 g1 ny hy=>?_⟩;have hs1:=g1 _ _ (kC (H:=H) (a:=s) (o:=.lst [.ref z]));have g01:=gs.trans g1
 refine uK (λ σ H2=>∃ (y:Addr) (i:Nat) (ss:List Addr),σ=[some (.ref w),some (.ref z),some (.ref s),some (.ref y)]/\Same H H2/\0<i/\i<=n /\
   H2 s=some (.lst (ss.map V.ref))/\ss.length=i/\(∀ (j:Nat) (b:Addr) (t:Nat×Nat),ss[j]?=some b->(orb W p q i)[j]?=some t->H2 b=some (.tup [vn t.1,vn t.2]))/\H2 y=some (.tup [vn (it (nxt W) i (p,q)).1,vn (it (nxt W) i (p,q)).2])) (kNO (n+1))
  ⟨y,1,[z],rfl,g01,by omega,T.pos,hs1,rfl,(λ j b t e1 e2=>?_),hy⟩ ?_ ?_
 ·match j,e1 with
  | 0,e1 =>
   cases e1
   have:t=(p,q):=by
    have:(orb W p q 1)[0]?=some (p,q):=rfl;rw [this] at e2;exact (Option.some.inj e2).symm
   rw [this];exact g01 _ _ hz
 ·rintro σ H2 ⟨y,i,ss,rfl,g2,i0,i1,hs,ls,hss,hy⟩
  have hz2:=g2 _ _ hz;refine ⟨_,rfl,_,rfl,_,prD p q,kBW hy,kBW hz2,uA _ _,uA _ _,_,rfl,?_⟩;rw [fS];by_cases c:it (nxt W) i (p,q)=(p,q)
  ·rw [decide_eq_true (by rw [c];exact ⟨rfl,rfl⟩)]
   have:i=n:=by
    rcases Nat.lt_or_ge i n with l | l
    ·exact absurd c (T.first i i0 l)
    ·omega
   subst this;exact ⟨_,rfl,k s i H2 g2 T ⟨ss,hs,by rw [oV];exact ls,hss⟩⟩
  ·rw [decide_eq_false (λ z=>c (Prod.ext z.1 z.2))]
   have lt:i<n:=by
    rcases Nat.lt_or_ge i n with l | l
    ·exact l
    ·exact absurd (by rw [show i=n by omega];exact T.back) c
   refine ⟨_,rfl,.inl ⟨rfl,_,SqL.of hs⟩,_,rfl,s,_,_,rfl,rfl,hs,(by rw [length_map];exact jR (by omega)),?_⟩;have A1:=PairsAt.app (H':=H2) hs (by rw [oV];exact ls) hss (t:=it (nxt W) i (p,q)) hy;rw [<-kFW] at A1;have gu:Same H (upd H2 s (.lst (ss.map V.ref++[V.ref y]))):=qD ns g2;have sy:y≠s:=yA hy hs (by simp);have hyu:upd H2 s (.lst (ss.map V.ref++[V.ref y])) y=some (.tup [vn (it (nxt W) i (p,q)).1,vn (it (nxt W) i (p,q)).2]):=by rw [kK sy];exact hy
   generalize upd H2 s (.lst (ss.map V.ref++[V.ref y]))=H3 at *;refine ⟨_,rfl,_,rfl,w,y,W,_,_,rfl,hW.kept gu,hyu,S,fU S hE i,λ y' H4 g4 ny' hy'=>?_⟩;obtain ⟨ss',b1,b2,b3⟩:=A1.kept g4;rw [oV] at b2;refine ⟨⟨y',i+1,ss',rfl,gu.trans g4,by omega,lt,b1,b2,b3,hy'⟩,?_⟩;show n+1-lO (H4 s)<n+1-lO (H2 s);rw [b1,hs];show n+1-(ss'.map V.ref).length<n+1-(ss.map V.ref).length;rw [length_map,length_map,b2,ls];clear hss b3 few;omega
 ·rintro σ H1 Q1 Q2 m ⟨v,e1,v2,e2,d,e,h1,h2,h3,h4,kk,e5,q1⟩
  exact ⟨v,e1,v2,e2,d,e,h1,h2,h3,h4,kk,e5,m _ _ q1⟩
def bL:Sp:=λ vs H Q _=>∃ (w z:Addr) (W:Rows) (p q:Nat),vs=[.ref w,.ref z]/\WebAt H w W/\H z=some (.tup [vn p,vn q])/\E W p q/\Q (.bl true) H
theorem kAF {f:Addr} {fd:FuncData} (F:Fun K "is_step" "is_step" wG f fd) (z_len:mg "len" = none):FnOk P w K mg base CX0 1 f fd ["web","pair"] (bL):=by
 refine F.ok sc_is_step (λ vs H Q E h=>?_) (λ cdv A outer s H vs Q E hr h=>?_)
 ·obtain ⟨w,z,W,p,q,rfl,_⟩:=h
  rfl
 obtain ⟨w,z,W,p,q,rfl,hW,hz,⟨row,er,m⟩,k⟩:=h
 refine ⟨_,(kD (jZ (pv 1) (xB rfl (kP (kJ (i:=2) sc_is_step.nd rfl (Or.inl rfl)) (kP (kJ (i:=3) sc_is_step.nd rfl (Or.inl rfl)) qW))))
   (kI (kS (kKV (kFU kJP rM kM (pv 2) (kN kO rfl z_len PySem.boot_len (kA (pv 0) kB))) (kKS (bU dF (pv 3) (kX qX (pv 0) (pv 2) (λ _ _=>rfl)) rfl)))))),?_⟩
 obtain ⟨ts,h1,lts,h3⟩:=hW.at;obtain ⟨b,e1,e2⟩:=h3 p row er;have hp:=(List.getElem?_eq_some_iff.mp er).1;refine ⟨_,rfl,z,_,rfl,SqT.of hz,rfl,_,_,rfl,_,_,rfl,rfl,?_⟩;refine ⟨_,rfl,_,_,rfl,rfl,_,rfl,?_⟩;rw [decide_eq_true (show (0:Int)<=(p:Int) by omega)];refine uT ⟨_,rfl,w,_,rfl,.inr (SqT.of h1),_,_,rfl,rfl,_,rfl,?_⟩;rw [decide_eq_true (show (p:Int)<((ts.map V.ref).length:Int) by rw [length_map,lts];omega)];refine uT ⟨_,rfl,_,rfl,_,rfl,w,_,_,_,rfl,rfl,SqT.of h1,e1,b,_,rfl,.inr (SqT.of e2),rfl,vQ _,?_⟩;rw [if_neg (by decide),aN,decide_eq_true m];exact k
theorem mC {H:Hp}:∀ {ss:List Addr} {T:List (Nat×Nat)},ss.length=T.length->(∀ (i:Nat) (b:Addr) (t:Nat×Nat),ss[i]?=some b->T[i]?=some t->H b=some (.tup [vn t.1,vn t.2]))->DtAll K H (T.map λ t=>prD t.1 t.2) (ss.map V.ref)
 | [],[],_,_=>by unfold DtAll;rfl
 | s::ss,t::T,hl,h=>by
  rw [map_cons,map_cons];unfold DtAll;exact ⟨_,_,rfl,kBW (h 0 s t rfl rfl),mC (by simpa using hl) λ i b u e1 e2=>h (i+1) b u (by simpa using e1) (by simpa using e2)⟩
 | [],_::_,hl,_=>by simp at hl
 | _::_,[],hl,_=>by simp at hl
theorem kMJ (T:List (Nat×Nat)) (x y:Nat):((T.map λ t=>prD t.1 t.2).any λ e=>PyData.eqv e (prD x y))=decide ((x,y)∈T):=by
 rw [Bool.eq_iff_iff,List.any_eq_true,decide_eq_true_iff];constructor
 ·rintro ⟨d,hd,e⟩
  obtain ⟨t,ht,rfl⟩:=mem_map.mp hd;rw [fS,decide_eq_true_iff] at e;rw [<-e.1,<-e.2];exact ht
 ·intro h
  exact ⟨_,mem_map.mpr ⟨_,h,rfl⟩,by rw [fS,decide_eq_true_iff];exact ⟨rfl,rfl⟩⟩
structure LtAt (H:Hp) (l:Addr) (ts:List Addr) (W:Rows):Prop where
 top:H l=some (.lst (ts.map V.ref))
 len:ts.length=W.length
 row:∀ (j:Nat) (a:Addr) (row:List Nat),ts[j]?=some a->W[j]?=some row->H a=some (.tup (row.map vn))
theorem LtAt.set {H:Hp} {l:Addr} {ts:List Addr} {W:Rows} (h:LtAt H l ts W) {p:Nat} {t:Addr} {r:List Nat} (ht:H t=some (.tup (r.map vn))):LtAt (upd H l (.lst ((ts.map V.ref).set p (.ref t)))) l (ts.set p t) (W.set p r):=by
 have ne:∀ (b:Addr) (r:List Nat),H b=some (.tup (r.map vn))->upd H l (.lst ((ts.map V.ref).set p (.ref t))) b=some (.tup (r.map vn)):=λ b r e=>by
  rw [kK (yA e h.top (by simp))];exact e
 refine ⟨by rw [List.map_set];exact kC,by simp [h.len],λ j b row e1 e2=>ne b row ?_⟩;by_cases c:p=j
 ·subst c
  have hp:=(List.getElem?_eq_some_iff.mp e1).1;rw [length_set] at hp;rw [List.getElem?_set_self hp] at e1;rw [List.getElem?_set_self (by rw [<-h.len];exact hp)] at e2;cases e1
  cases e2
  exact ht
 ·rw [List.getElem?_set_ne c] at e1 e2
  exact h.row j b row e1 e2
theorem LtAt.kept {H H':Hp} {l:Addr} {ts:List Addr} {W:Rows} (h:LtAt H l ts W) (g:Same H H'):LtAt H' l ts W:=⟨g _ _ h.top,h.len,λ j a row e1 e2=>g _ _ (h.row j a row e1 e2)⟩
theorem LtAt.web {H H':Hp} {l t:Addr} {ts:List Addr} {W:Rows} (h:LtAt H l ts W) (g:Same H H') (ht:H' t=some (.tup (ts.map V.ref))):WebAt H' t W:=⟨ts,ht,h.len,λ j a row e1 e2=>g _ _ (h.row j a row e1 e2)⟩
def kEX:Sp:=λ vs H Q _=>∃ (wa z y:Addr) (W:Rows) (p v q u:Nat) (rp rq:List Nat),vs=[.ref wa,.ref z,.ref y]/\WebAt H wa W/\Nb W/\W.length<=42/\H z=some (.tup [vn p,vn v])/\H y=some (.tup [vn q,vn u])/\W[p]?=some rp/\W[q]?=some rq/\v∈rp/\u∈rq/\p≠q/\q∉rp/\(∃ j,it (nxt W) j (p,v)=(q,u)) /\
 ∀ (a b:List Nat) (t:Addr) (H':Hp),Ro (qF rp v q) a->Can a->Ro (qF rq u p) b->Can b->Same H H'->WebAt H' t (jL W p q a b)->Q (.ref t) H'
theorem kDB {f:Addr} {fd:FuncData} (F:Fun K "put_in" "put_in" vL f fd) (xI:Own.Has P w K mg base "steps_round" ["web","step"] 2 (bJ)) (wJ:Own.Has P w K mg base "is_step" ["web","pair"] 1 (bL)) (zO:Own.Has P w K mg base "with_behind" ["row","place","added"] 3 (oF)) (z_list:mg "list" = none) (z_tuple:mg "tuple" = none):FnOk P w K mg base CX0 4 f fd ["web","step","other"] (kEX):=by
 refine F.ok sc_put_in (λ vs H Q E h=>?_) (λ cdv A outer s0 H vs Q E hr h=>?_)
 ·obtain ⟨wa,z,y,W,p,v,q,u,rp,rq,rfl,_⟩:=h
  rfl
 obtain ⟨wa,z,y,W,p,v,q,u,rp,rq,rfl,hW,S,h30,hz,hy,hp,hq,hv,hu,pq,nq,orbit,k⟩:=h
 refine ⟨_,(kD (xN (PW.pt (zR (jY (jX (Own.pe_has wJ (hr.mono (by decide)) rfl (kA (pv 0) (kA (pv 1) kB))))) (zH (kY (kDA hr.units65) (pv 2) (Own.pe_has xI (hr.mono (by decide)) rfl (kA (pv 0) (kA (pv 1) kB))) rfl)))) (kI bT) qN)
   (kD (jZ (pv 1) (xB rfl (kP (kJ (i:=3) sc_put_in.nd rfl (Or.inl rfl)) (kP (kJ (i:=4) sc_put_in.nd rfl (Or.inl rfl)) qW))))
   (kD (jZ (pv 2) (xB rfl (kP (kJ (i:=5) sc_put_in.nd rfl (Or.inl rfl)) (kP (kJ (i:=6) sc_put_in.nd rfl (Or.inl rfl)) qW))))
   (kD (xN (PW.pt (zR (kY rN (pv 3) (pv 5) (qO _)) (zH (kY dF (pv 5) (kX qX (pv 0) (pv 3) (λ _ _=>rfl)) rfl)))) (kI bT) qN)
   (kD (kT (i:=7) sc_put_in.nd rfl (Or.inl rfl) (qI jK rfl z_list PyProof.Rows.boot_list (kA (pv 0) kB)))
   (kD (jZ (Own.pe_has zO (hr.mono (by decide)) rfl (kA (kX qX (pv 0) (pv 3) (λ _ _=>rfl)) (kA (pv 4) (kA (pv 5) kB)))) (aZ (pv 7) (pv 3) wP))
   (kD (jZ (Own.pe_has zO (hr.mono (by decide)) rfl (kA (kX qX (pv 0) (pv 5) (λ _ _=>rfl)) (kA (pv 6) (kA (pv 3) kB)))) (aZ (pv 7) (pv 5) wP))
   (kI (kS (qI qR rfl z_tuple PyProof.Rows.boot_tuple (kA (pv 7) kB))))))))))),?_⟩
 have lp:p<W.length:=(List.getElem?_eq_some_iff.mp hp).1;have lq:q<W.length:=(List.getElem?_eq_some_iff.mp hq).1;refine ⟨_,rfl,_,rfl,wa,z,W,p,v,rfl,hW,hz,⟨rp,hp,hv⟩,_,rfl,qV ?_⟩;refine ⟨_,rfl,_,rfl,_,rfl,wa,z,W,p,v,rfl,hW,S,h30,hz,⟨rp,hp,hv⟩,λ s n H1 g1 T PA=>?_⟩;obtain ⟨ss,hs,ls,hss⟩:=PA;have hy1:=g1 _ _ hy;refine ⟨prD q u,_,s,_,rfl,.inl (SqL.of hs),kBW hy1,mC ls hss,uA _ _,(λ e he=>?_),_,rfl,?_⟩
 ·obtain ⟨t,_,rfl⟩:=mem_map.mp he
  exact uA _ _
 rw [if_pos rfl,kMJ,decide_eq_true ((T.mem _).mpr orbit)];refine qV ?_;have hz1:=g1 _ _ hz;have W1:=hW.kept g1;obtain ⟨ts,h1,lts,h3⟩:=id W1;obtain ⟨ts',h1',lts',h3'⟩:=W1.at;rw [h1] at h1';have e0:ts.map V.ref=ts'.map V.ref:=HO.tup.inj (Option.some.inj h1');obtain ⟨bp,ep,fp⟩:=h3' p rp hp;obtain ⟨bq,eq',fq⟩:=h3' q rq hq;rw [<-e0] at ep eq';refine ⟨_,rfl,z,_,rfl,SqT.of hz1,rfl,_,_,rfl,_,_,rfl,rfl,?_⟩;refine ⟨_,rfl,y,_,rfl,SqT.of hy1,rfl,_,_,rfl,_,_,rfl,rfl,?_⟩;refine ⟨_,rfl,_,rfl,rfl,_,rfl,?_⟩;rw [decide_eq_false (λ c=>pq (by have:=V.int.inj c;omega))];refine qV ⟨_,rfl,_,rfl,_,rfl,wa,_,_,_,rfl,rfl,SqT.of h1,ep,bp,_,rfl,.inr (SqT.of fp),rfl,vQ _,_,rfl,?_⟩;rw [if_neg (by decide),aN,decide_eq_false nq];refine qV ?_;refine ⟨_,rfl,wa,_,rfl,.inr (SqT.of h1),λ l nl=>?_⟩;have gl:=kE nl (.lst (ts.map V.ref));have L2:LtAt (upd H1 l (.lst (ts.map V.ref))) l ts W:=⟨kC,lts,λ j a row e1 e2=>gl _ _ (h3 j a row e1 e2)⟩;have g2:=g1.trans gl;have w2:=gl _ _ h1;have fp2:=gl _ _ fp;have fq2:=gl _ _ fq;have len_p:=S.len hp;have len_q:=S.len hq;generalize upd H1 l (.lst (ts.map V.ref))=H2 at *;refine ⟨_,rfl,_,rfl,wa,_,_,_,rfl,rfl,SqT.of w2,ep,_,rfl,_,rfl,bp,rp,v,q,rfl,fp2,hv,by omega,λ M t H3 hM hle g3 ht=>?_⟩;have L3:=L2.kept g3;refine ⟨_,rfl,_,rfl,l,_,_,p,rfl,rfl,L3.top,cC (by rw [length_map,lts];exact lp),?_⟩;have L4:=L3.set (p:=p) ht;have n0:H l=none:=g1.free nl;have g4:=qD (o:=.lst ((ts.map V.ref).set p (.ref t))) n0 (g2.trans g3)
 have tk:∀ (b:Addr) (xs:List V),H3 b=some (.tup xs)->upd H3 l (.lst ((ts.map V.ref).set p (.ref t))) b=some (.tup xs):=λ b xs e=>by
  rw [kK (yA e L3.top (by simp))];exact e
 have w4:=tk _ _ (g3 _ _ w2);have fq4:=tk _ _ (g3 _ _ fq2);generalize upd H3 l (.lst ((ts.map V.ref).set p (.ref t)))=H4 at *;refine ⟨_,rfl,_,rfl,wa,_,_,_,rfl,rfl,SqT.of w4,eq',_,rfl,_,rfl,bq,rq,u,p,rfl,fq4,hu,by omega,λ M' t' H5 hM' hle' g5 ht'=>?_⟩;have L5:=L4.kept g5;refine ⟨_,rfl,_,rfl,l,_,_,q,rfl,rfl,L5.top,cC (by rw [length_map,length_set,lts];exact lq),?_⟩;have L6:=L5.set (p:=q) ht';have g6:=qD (o:=.lst (((ts.set p t).map V.ref).set q (.ref t'))) n0 (g4.trans g5);refine ⟨_,rfl,l,_,rfl,.inl ⟨SqL.of kC,λ tt nt=>?_⟩⟩;have gt:=kE nt (.tup (((ts.set p t).map V.ref).set q (.ref t')));refine k (rot (qF rp v q) M) (rot (qF rq u p) M') tt _ (dB _ _) (aI hM hle) (dB _ _) (aI hM' hle') (g6.trans gt) (L6.web gt ?_);rw [<-List.map_set];exact kC
def oH:Sp:=λ vs H Q _=>∃ (a:Addr) (ns:List Nat) (q:Nat),vs=[.ref a,vn q]/\H a=some (.tup (ns.map vn))/\ns.length<=900/\(ns.filter λ x=>x != q)≠[] /\
 ∀ (r:List Nat) (t:Addr) (H':Hp),Ro (ns.filter λ x=>x != q) r->Can r->Same H H'->H' t=some (.tup (r.map vn))->Q (.ref t) H'
theorem hZ {f:Addr} {fd:FuncData} (F:Fun K "row_without" "row_without" xF f fd) (xY:Own.Has P w K mg base "from_least" ["row"] 2 (bK)):FnOk P w K mg base CX0 3 f fd ["row","place"] (oH):=by
 refine F.ok sc_row_without (λ vs H Q E h=>?_) (λ cdv A outer s0 H vs Q E hr h=>?_)
 ·obtain ⟨a,ns,q,rfl,_⟩:=h
  rfl
 obtain ⟨a,ns,q,rfl,ha,l9,ne,k⟩:=h
 refine ⟨_,(kD (wZ (i:=2) (Nc:=["q","place"]) (js:=[none,some 1]) rfl rfl sc_row_without.nd rfl (Or.inl rfl) (wS (pv 0)) (CS.of rfl rfl) rfl (λ C s₂ H₂ fp pins=>(kJ (i:=0) (show List.Nodup (α:=Str) ["q","place"] by decide +kernel) rfl (Or.inl rfl))) (λ C s₂ H₂ fp pins D L=>(wR (kY bV (pv 0) (pv 1) (qO _)) (xJ (pv 0)))))
   (kI (kS (rL (gX (pv 2) (λ _=>rfl)) (Own.pe_has xY (hr.mono (by decide)) rfl (kA (pv 2) kB)) (yB kB))))),?_⟩
 refine ⟨_,rfl,a,rfl,⟨_,SqT.of ha⟩,λ D nD=>?_⟩;refine wM (xs:=ns.map vn) (λ n σ H1=>∃ (u:Option V),σ=[u,some (vn q)]/\H1 D=some (.lst (((ns.take n).filter λ x=>x != q).map vn))/\Same H H1) ⟨none,rfl,kC,kE nD _⟩ ?_ ?_ ?_
 ·rintro n σ H1 _ ⟨u,rfl,hD,g⟩
  exact SqT.of (g _ _ ha)
 ·rintro n x σ H1 hx ⟨u,rfl,hD,g⟩
  rw [List.getElem?_map] at hx;obtain ⟨m,em,rfl⟩:=Option.map_eq_some_iff.mp hx;have hn:=(List.getElem?_eq_some_iff.mp em).1
  have et:(ns.take (n+1)).filter (λ x=>x != q)=(ns.take n).filter (λ x=>x != q)++[m].filter (λ x=>x != q):=by
   rw [take_succ,em,filter_append]
   rfl
  refine ⟨_,rfl,_,rfl,rfl,_,rfl,?_⟩;by_cases c:m=q
  ·rw [decide_eq_true (show vn m=vn q by rw [c])]
   refine qV ⟨_,rfl,?_,g⟩;rw [et,c];simpa using hD
  ·rw [decide_eq_false (show ¬ vn m=vn q from λ z=>c (by have:=V.int.inj z;omega))]
   refine uT ⟨_,rfl,_,hD,(by rw [length_map];have:=length_filter_le (λ x=>x != q) (ns.take n);rw [length_take] at this;exact qG (by omega)),?_⟩;refine ⟨_,rfl,?_,qD nD g⟩;rw [et,show [m].filter (λ x=>x != q)=[m] by simp [c],map_append];exact kC
 ·rintro σ H1 ⟨u,rfl,hD,g⟩
  rw [length_map,take_length] at hD;have lf:=length_filter_le (λ x=>x != q) ns;generalize hf:(ns.filter λ x=>x != q)=fs at *;refine ⟨_,rfl,true,.inl ⟨_,SqL.of hD,?_⟩,uT ⟨_,rfl,D,fs,rfl,.inl hD,ne,by omega,λ M t H' hM hle g' ht=>k _ t H' (dB _ _) (aI hM hle) (g.trans g') ht⟩⟩
  cases fs with
  | nil=>exact absurd rfl ne
  | cons x r=>rfl
theorem kNU {i:Nat} {N:St->Hp->Prop} {σ:St} {H:Hp} {x:V} (h:N (σ.set i (some x)) H):nO i x σ H N:=h
theorem kNT {t u:TS} {D:Ends} {σ:St} {H:Hp} (h:t { D with nx:=u D } σ H):kMP t u D σ H:=h
def jD (S:List Nat):List (Key×V):=S.map λ (n:Nat)=>(Sum.inl (n:Int),V.bl true)
theorem gN (S:List Nat) (n:Nat):(xR (jD S) (Sum.inl (n:Int))).isSome=decide (n∈S):=by
 induction S with
 | nil=>rfl
 | cons x S ih =>
  by_cases c:x=n
  ·subst c
   rw [show jD (x::S)=(Sum.inl (x:Int),V.bl true)::jD S from rfl,jP rfl];simp
  ·rw [show jD (x::S)=(Sum.inl (x:Int),V.bl true)::jD S from rfl,jQ (λ z=>c (by have:=Sum.inl.inj z;omega)),ih]
   have:¬ n=x:=λ z=>c z.symm;simp [this]
theorem rJ {S:List Nat} {n:Nat} (h:n∉S):zS (jD S) (Sum.inl (n:Int)) (V.bl true)=jD (S++[n]):=by
 rw [kFN]
 ·unfold jD
  rw [map_append]
  rfl
 ·have:=gN S n
  rw [decide_eq_false h] at this
  cases e:xR (jD S) (Sum.inl (n:Int)) with
  | none=>rfl
  | some x=>rw [e] at this;cases this
def muH (n:Nat) (σ:St) (H:Hp):Nat:=match σ with
 | [_,_,_,some (.ref sd),some (.ref wl),_,_]=>2*(n-lO (H sd))+lO (H wl)
 | _=>0
def tI:Sp:=λ vs H Q _=>∃ (l e:Addr) (ts:List Addr) (W:Rows),vs=[.ref l,.ref e]/\LtAt H l ts W/\H e=some (.tup [])/\Wb W/\W.length<=42/\∀ H',Same H H'->Q (.bl true) H'
structure Srch (W:Rows) (S wt:List Nat):Prop where
 nd:S.Nodup
 rng:∀ x∈S,x<W.length
 sub:∀ x∈wt,x∈S
 zero:0∈S
theorem Srch.len {W:Rows} {S wt:List Nat} (h:Srch W S wt):S.length<=W.length:=by
 have:=List.Nodup.length_le_of_subset h.nd (l₂:=List.range W.length) λ x hx=>mem_range.mpr (h.rng x hx);rwa [length_range] at this
theorem Srch.all {W:Rows} {S:List Nat} (h:Srch W S []) (cl:∀ x∈S,∀ y,E W x y->y∈S) (G:Wb W) (p:Nat) (hp:p<W.length):p∈S:=by
 have:=G.con p hp
 have go:∀ {a b:Nat},Reach W a b->a∈S->b∈S:=λ r=>by
  induction r with
  | here=>exact id
  | more _ e ih=>exact λ z=>cl _ (ih z) _ e
 exact go this h.zero
theorem gP (S:List Nat):(jD S).length=S.length:=by simp [jD]
theorem dG {f:Addr} {fd:FuncData} (F:Fun K "hang_together" "hang_together" jE f fd) (z_range:mg "range" = none) (z_len:mg "len" = none) (z_all:mg "all" = none):FnOk P w K mg base CX0 1 f fd ["rows","without"] (tI):=by
 refine F.ok sc_hang_together (λ vs H Q E h=>?_) (λ cdv A outer s0 H vs Q E hr h=>?_)
 ·obtain ⟨l,e,ts,W,rfl,_⟩:=h
  rfl
 obtain ⟨l,e,ts,W,rfl,hL,he,G,h30,k⟩:=h
 refine ⟨_,(kD (wZ (i:=2) (Nc:=["p","without"]) (js:=[none,some 1]) rfl rfl sc_hang_together.nd rfl (Or.inl rfl) (yS rfl z_range (kA (kN kO rfl z_len PySem.boot_len (kA (pv 0) kB)) kB)) (CS.of rfl rfl) rfl (λ C s₂ H₂ fp pins=>(kJ (i:=0) (show List.Nodup (α:=Str) ["p","without"] by decide +kernel) rfl (Or.inl rfl))) (λ C s₂ H₂ fp pins D L=>(wR (kY (show OpR _ _ (rIn K true) from yY) (pv 0) (pv 1) rfl) (xJ (pv 0)))))
   (kD (kT (i:=3) sc_hang_together.nd rfl (Or.inr rfl) (kIC (Nc:=["p"]) (js:=[none]) rfl rfl (wS (pv 1)) (CS.of rfl rfl) rfl (λ C s₂ H₂ fp pins=>(kJ (i:=0) (show List.Nodup (α:=Str) ["p"] by decide +kernel) rfl (Or.inl rfl))) (λ C s₂ H₂ fp pins D L=>kHZ)))
   (kD (kBK (aS hr) (pv 3) (kX kZ (pv 2) kM (λ _ _=>rfl)) yX rfl)
   (kD (kT (i:=4) sc_hang_together.nd rfl (Or.inl rfl) (yH (kA (kX kZ (pv 2) kM (λ _ _=>rfl)) kB)))
   (kD (uO PassesOwn.never (gX (pv 4) (λ _=>rfl)) (kD (kT (i:=5) sc_hang_together.nd rfl (Or.inl rfl) (kKU PySem.F.plainAttrs_list PySem.F.slot_list_pop PySem.F.type_list_pop kLK (pv 4)))
   (kI (zJ PassesOwn.never rfl (wS (kX kZ (pv 0) (pv 5) (λ _ _=>rfl))) (kJ (i:=6) sc_hang_together.nd rfl (Or.inl rfl)) (kI (xN (tU (dD (aS hr) (pv 6) (pv 3))) (kD (kBK (aS hr) (pv 3) (pv 6) yX rfl)
   (kI (qJ (jW PySem.F.plainAttrs_list PySem.F.slot_list_append PySem.F.type_list_append zK (pv 4) (kA (pv 6) kB))))) qN))))))
   (kI (kS (kN (nX rfl) rfl z_all PyProof.Rows.boot_all (kA (zZ (Nc:=["p","seen"]) (js:=[none,some 3]) rfl rfl (xW (pv 2)) (CS.of rfl rfl) rfl (λ C s₂ H₂ fp pins=>(kJ (i:=0) (show List.Nodup (α:=Str) ["p","seen"] by decide +kernel) rfl (Or.inl rfl))) (λ C s₂ H₂ fp pins D L=>(jV (xJ (kKT (kKW (aS hr) (pv 0) (pv 1))))))) kB))))))))),?_⟩
 have eL:((ts.map V.ref).length:Int)=(W.length:Int):=by rw [length_map,hL.len]
 have three:=G.three;refine ⟨_,rfl,l,_,rfl,.inl (SqL.of hL.top),_,rfl,(by omega),(by omega),λ D nD=>?_⟩;rw [eL];refine gC (lo:=0) (n:=((W.length:Int)-0).toNat) (λ i σ H1=>∃ (u:Option V),σ=[u,some (.ref e)]/\H1 D=some (.lst ((List.range i).map vn))/\Same H H1) ⟨none,rfl,kC,kE nD _⟩ ?_ ?_
 ·rintro i σ H1 hi ⟨u,rfl,hD,g⟩
  refine ⟨_,rfl,_,rfl,e,_,rfl,.inr (SqT.of (g _ _ he)),rfl,rfl,_,rfl,uT ?_⟩;refine ⟨_,rfl,_,hD,(by rw [length_map,length_range];exact qG (by omega)),?_⟩;refine ⟨_,rfl,?_,qD nD g⟩;rw [range_succ,map_append,show ([i]:List Nat).map vn=[V.int (0+(i:Int))] by rw [Int.zero_add];rfl];exact kC
 ·rintro σ H1 ⟨u,rfl,hD,g⟩
  have en:((W.length:Int)-0).toNat=W.length:=by omega
  rw [en] at hD
  refine ⟨_,rfl,e,rfl,⟨_,SqT.of (g _ _ he)⟩,λ sd nsd=>?_⟩;refine wM (xs:=[]) (λ n σ H2=>H2=upd H1 sd (.dK (jD []))) rfl ?_ ?_ ?_
  ·rintro n σ H2 _ rfl
   exact SqT.of ((kE nsd _) _ _ (g _ _ he))
  ·rintro n x σ H2 hx _
   simp at hx
  ·rintro σ H2 rfl
   have g2:=g.trans (kE nsd (.dK (jD [])));have hD2:=(kE nsd (.dK (jD []))) _ _ hD;have hsd:=kC (H:=H1) (a:=sd) (o:=.dK (jD []));have n0:H sd=none:=g.free nsd;generalize upd H1 sd (.dK (jD []))=H3 at *
   have at0:atI ((List.range W.length).map vn) 0=some (vn 0):=by
    have:=mS (row:=List.range W.length) (j:=0) (by rw [length_range];omega);rw [List.getElem_range] at this;exact this
   refine ⟨_,rfl,_,rfl,D,_,_,_,rfl,rfl,SqL.of hD2,at0,sd,_,rfl,DPut.k (k:=Sum.inl ((0:Nat):Int)) hsd (by show 0<sizeLine;decide),?_⟩;rw [rJ (S:=[]) (n:=0) (by simp)];have g4:=qD (o:=.dK (jD ([]++[0]))) n0 g2;have hD4:upd H3 sd (.dK (jD ([]++[0]))) D=some (.lst ((List.range W.length).map vn)):=by rw [kK (yA hD2 hsd (by simp))];exact hD2
   have hs4:=kC (H:=H3) (a:=sd) (o:=.dK (jD ([]++[0])));generalize upd H3 sd (.dK (jD ([]++[0])))=H4 at *;refine ⟨_,rfl,_,_,_,_,rfl,rfl,SqL.of hD4,at0,yS1,λ wl nwl=>?_⟩;have gw:=kE nwl (.lst [vn 0]);have g5:=g4.trans gw;have hs5:=gw _ _ hs4;have hD5:=gw _ _ hD4;have hw5:=kC (H:=H4) (a:=wl) (o:=.lst [vn 0]);have nw0:H wl=none:=g4.free nwl;have dw:D≠wl:=kL hD4 nwl;have sw:sd≠wl:=kL hs4 nwl;have nD0:H D=none:=nD;generalize upd H4 wl (.lst [vn 0])=H5 at *;refine kNU ?_;dsimp only;refine kNT ?_
   refine uK (λ σ H6=>∃ (x5 x6:Option V) (S wt:List Nat),σ=[some (.ref l),some (.ref e),some (.ref D),some (.ref sd),some (.ref wl),x5,x6]/\H6 D=some (.lst ((List.range W.length).map vn))/\H6 sd=some (.dK (jD S))/\H6 wl=some (.lst (wt.map vn)) /\
     Srch W S wt/\2*(W.length-S.length)+wt.length<=200/\(∀ x∈S,x∉wt->∀ y,Tri.E W x y->y∈S)/\Same H H6) (muH W.length)
    ⟨none,none,[]++[0],[0],rfl,hD5,hs5,hw5,⟨by simp,by simp;omega,by simp,by simp⟩,(by simp;omega),(λ x hx nx=>absurd hx nx),g5⟩ ?_ ?_
   ·rintro σ H6 ⟨x5,x6,S,wt,rfl,hD6,hs6,hw6,R,wl2,cl,g6⟩
    refine ⟨_,rfl,_,.inl ⟨_,SqL.of hw6,rfl⟩,?_⟩
    cases hwt:wt with
    | nil =>
     subst hwt;show if false=true then _ else _
     refine qV ?_
     have all:=R.all (λ x hx=>cl x hx (by simp)) G;refine ⟨_,rfl,D,rfl,⟨_,SqL.of hD6⟩,λ B nB=>?_⟩;refine jN (xs:=(List.range W.length).map vn) (λ n σ H7=>∃ (u:Option V),σ=[u,some (.ref sd)]/\H7 B=some (.lst ((List.replicate n true).map V.bl))/\Same H6 H7) ⟨none,rfl,kC,kE nB _⟩ ?_ ?_ ?_
     ·rintro n σ H7 _ ⟨u,rfl,hB,g7⟩
      exact SqL.of (g7 _ _ hD6)
     ·rintro n v σ H7 hv ⟨u,rfl,hB,g7⟩
      rw [List.getElem?_map] at hv;obtain ⟨m,em,rfl⟩:=Option.map_eq_some_iff.mp hv;have hm:m<W.length:=mem_range.mp (mem_of_getElem? em);have hn:=(List.getElem?_eq_some_iff.mp em).1;rw [length_range] at hn;refine ⟨_,rfl,_,rfl,sd,_,rfl,DGet.k (k:=Sum.inl (m:Int)) (g7 _ _ hs6),_,hB,(by rw [length_map,List.length_replicate];exact qG (by omega)),?_⟩;refine ⟨_,rfl,?_,qD nB g7⟩;rw [gN,decide_eq_true (all m hm),List.replicate_succ',map_append];exact kC
     ·rintro σ H7 ⟨u,rfl,hB,g7⟩
      refine ⟨B,_,rfl,SqL.of hB,?_⟩;rw [show (List.replicate ((List.range W.length).map vn).length true).all id=true by simp];exact k _ (g6.trans g7)
    | cons w0 wr =>
     have hne:wt≠[]:=by rw [hwt];simp
     rw [<-hwt];rw [show (!(wt.map vn).isEmpty)=true by rw [hwt];rfl];refine uT ?_;have lpos:0<wt.length:=length_pos_iff.mpr hne
     have last:(wt.map vn)[(wt.map vn).length-1]?=some (vn (wt.getLast hne)):=by
      rw [List.getElem?_map,length_map,<-List.getLast?_eq_getElem?,List.getLast?_eq_some_getLast hne]
      rfl
     refine ⟨_,rfl,.inl ⟨rfl,_,SqL.of hw6⟩,wl,_,_,rfl,rfl,hw6,last,?_⟩;generalize hp:wt.getLast hne=p at *;have pwt:p∈wt:=hp ▸ List.getLast_mem hne;have pS:=R.sub p pwt;have pl:=R.rng p pS;have wsplit:wt=wt.dropLast++[p]:=by rw [<-hp];exact (dropLast_concat_getLast hne).symm
     have hrow:=List.getElem?_eq_getElem pl;have nb:=G.toNb.len hrow;generalize hr:W[p]=row at *;have g7:=qD (o:=.lst ((wt.map vn).dropLast)) nw0 g6;have hD7:upd H6 wl (.lst ((wt.map vn).dropLast)) D=some (.lst ((List.range W.length).map vn)):=by rw [kK dw];exact hD6
     have hs7:upd H6 wl (.lst ((wt.map vn).dropLast)) sd=some (.dK (jD S)):=by rw [kK sw];exact hs6
     have hw7:upd H6 wl (.lst ((wt.map vn).dropLast)) wl=some (.lst (wt.dropLast.map vn)):=by rw [<-List.map_dropLast];exact kC
     generalize upd H6 wl (.lst ((wt.map vn).dropLast))=H7 at *;have L7:=hL.kept g7;have hpt:p<ts.length:=by rw [hL.len];exact pl
     have hts:=L7.row p ts[p] row (List.getElem?_eq_getElem hpt) hrow;have atp:atI (ts.map V.ref) (p:Int)=some (.ref ts[p]):=jM (by rw [List.getElem?_map,List.getElem?_eq_getElem hpt];rfl);refine ⟨_,rfl,_,rfl,l,_,_,_,rfl,rfl,SqL.of L7.top,atp,ts[p],rfl,⟨_,SqT.of hts⟩,?_⟩
     refine pN (xs:=row.map vn) (λ j σ H8=>∃ (x6:Option V) (S' wt':List Nat),σ=[some (.ref l),some (.ref e),some (.ref D),some (.ref sd),some (.ref wl),some (vn p),x6]/\H8 D=some (.lst ((List.range W.length).map vn))/\H8 sd=some (.dK (jD S'))/\H8 wl=some (.lst (wt'.map vn)) /\
       Srch W S' wt'/\2*(W.length-S'.length)+wt'.length+1<=2*(W.length-S.length)+wt.length/\(∀ x∈S',x∉wt'->x=p\/∀ y,Tri.E W x y->y∈S')/\(∀ y∈row.take j,y∈S')/\Same H H8)
      ⟨_,S,wt.dropLast,rfl,hD7,hs7,hw7,⟨R.nd,R.rng,λ x hx=>R.sub x (by rw [wsplit];exact mem_append_left _ hx),R.zero⟩,(by rw [List.length_dropLast];omega),(λ x hx nx=>?_),(by simp),g7⟩ ?_ ?_ ?_
     ·by_cases c:x∈wt
      ·rw [wsplit] at c
       rcases mem_append.mp c with c | c
       ·exact absurd c nx
       ·exact .inl (mem_singleton.mp c)
      ·exact .inr (cl x hx c)
     ·rintro j σ H8 _ ⟨x6,S',wt',rfl,hD8,hs8,hw8,R8,m8,c8,t8,g8⟩
      exact SqT.of ((hL.kept g8).row p ts[p] row (List.getElem?_eq_getElem hpt) hrow)
     ·rintro j v σ H8 hv ⟨x6,S',wt',rfl,hD8,hs8,hw8,R8,m8,c8,t8,g8⟩
      rw [List.getElem?_map] at hv;obtain ⟨q,eq',rfl⟩:=Option.map_eq_some_iff.mp hv;have qm:=mem_of_getElem? eq';have ql:=(G.toNb.rng p row q hrow qm).1;have l8:=R8.len
      have et:∀ y∈row.take (j+1),y∈row.take j\/y=q:=λ y hy=>by
       rw [take_succ,eq'] at hy;rcases mem_append.mp hy with z | z
       ·exact .inl z
       ·exact .inr (by simpa using z)
      refine ⟨_,rfl,_,rfl,sd,_,rfl,DGet.k (k:=Sum.inl (q:Int)) hs8,_,rfl,?_⟩;rw [gN];by_cases c:q∈S'
      ·rw [decide_eq_true c]
       refine qV ⟨_,S',wt',rfl,hD8,hs8,hw8,R8,m8,c8,λ y hy=>?_,g8⟩;rcases et y hy with z | rfl
       ·exact t8 y z
       ·exact c
      ·rw [decide_eq_false c]
       refine uT ⟨_,rfl,_,rfl,sd,_,rfl,DPut.k (k:=Sum.inl (q:Int)) hs8 (by rw [gP];exact qG (by omega)),?_⟩;rw [rJ c];have g9:=qD (o:=.dK (jD (S'++[q]))) n0 g8;have hD9:upd H8 sd (.dK (jD (S'++[q]))) D=some (.lst ((List.range W.length).map vn)):=by rw [kK (yA hD8 hs8 (by simp))];exact hD8
       have hs9:=kC (H:=H8) (a:=sd) (o:=.dK (jD (S'++[q])));have hw9:upd H8 sd (.dK (jD (S'++[q]))) wl=some (.lst (wt'.map vn)):=by rw [kK (yA hw8 hs8 (by simp))];exact hw8
       generalize upd H8 sd (.dK (jD (S'++[q])))=H9 at *;refine ⟨_,rfl,.inl ⟨rfl,_,SqL.of hw9⟩,_,rfl,wl,_,_,rfl,rfl,hw9,(by rw [length_map];exact qG (by omega)),?_⟩
       have nd':(S'++[q]).Nodup:=by
        rw [nodup_append];exact ⟨R8.nd,by simp,λ a ha b hb=>by rw [mem_singleton.mp hb];exact λ z=>c (z ▸ ha)⟩
       have R9:Srch W (S'++[q]) (wt'++[q]):=⟨nd',λ x hx=>by
        rcases mem_append.mp hx with z | z
        ·exact R8.rng x z
        ·rw [mem_singleton.mp z];exact ql,λ x hx=>by
        rcases mem_append.mp hx with z | z
        ·exact mem_append_left _ (R8.sub x z)
        ·exact mem_append_right _ z,mem_append_left _ R8.zero⟩
       have l9:=R9.len;rw [length_append,length_singleton] at l9;refine ⟨_,S'++[q],wt'++[q],rfl,(by rw [kK dw];exact hD9),(by rw [kK sw];exact hs9),(by rw [map_append];exact kC),R9,(by rw [length_append,length_append,length_singleton];omega),λ x hx nx=>?_,λ y hy=>?_,qD nw0 g9⟩
       ·have nx':x≠q/\x∉wt':=⟨λ z=>nx (mem_append_right _ (by simp [z])),λ z=>nx (mem_append_left _ z)⟩
        rcases mem_append.mp hx with z | z
        ·rcases c8 x z nx'.2 with z' | z'
         ·exact .inl z'
         ·exact .inr λ y hy=>mem_append_left _ (z' y hy)
        ·exact absurd (mem_singleton.mp z) nx'.1
       ·rcases et y hy with z | rfl
        ·exact mem_append_left _ (t8 y z)
        ·exact mem_append_right _ (by simp)
     ·rintro σ H8 ⟨x6,S',wt',rfl,hD8,hs8,hw8,R8,m8,c8,t8,g8⟩
      rw [length_map,take_length] at t8;refine ⟨⟨_,_,S',wt',rfl,hD8,hs8,hw8,R8,by omega,λ x hx nx=>?_,g8⟩,?_⟩
      ·rcases c8 x hx nx with rfl | z
       ·intro y ⟨r',er,my⟩
        rw [hrow] at er;cases er
        exact t8 y my
       ·exact z
      ·show 2*(W.length-lO (H8 sd))+lO (H8 wl)<2*(W.length-lO (H6 sd))+lO (H6 wl)
       rw [hs8,hw8,hs6,hw6];show 2*(W.length-(jD S').length)+(wt'.map vn).length<2*(W.length-(jD S).length)+(wt.map vn).length;rw [gP,gP,length_map,length_map];exact m8
   ·rintro σ H1 Q1 Q2 m ⟨v,e1,kk,h1,q1⟩
    exact ⟨v,e1,kk,h1,m _ _ q1⟩
def kEZ:Sp:=λ vs H Q _=>∃ (wa z:Addr) (W:Rows) (p q:Nat) (rp rq:List Nat),vs=[.ref wa,.ref z]/\WebAt H wa W/\Nb W/\W.length<=42/\H z=some (.tup [vn p,vn q])/\p<q/\W[p]?=some rp/\W[q]?=some rq/\q∈rp/\p∈rq /\
 (∀ a b,Ro (rp.filter λ x=>x != q) a->Ro (rq.filter λ x=>x != p) b->Wb (jL W p q a b)) /\
 ∀ (a b:List Nat) (t:Addr) (H':Hp),Ro (rp.filter λ x=>x != q) a->Can a->Ro (rq.filter λ x=>x != p) b->Can b->Same H H'->WebAt H' t (jL W p q a b)->Q (.ref t) H'
theorem kFV {W:Rows} {p q:Nat} {rp rq:List Nat} (hp:W[p]?=some rp) (hq:W[q]?=some rq) (pq:p≠q) (h:∀ a b,Ro (rp.filter λ x=>x != q) a->Ro (rq.filter λ x=>x != p) b->Wb (jL W p q a b)):(rp.filter λ x=>x != q)≠[]/\(rq.filter λ x=>x != p)≠[]:=by
 have lp:p<W.length:=(List.getElem?_eq_some_iff.mp hp).1;have lq:q<W.length:=(List.getElem?_eq_some_iff.mp hq).1;have G:=h _ _ (.refl _) (.refl _);refine ⟨G.ne (p:=p) ?_,G.ne (p:=q) ?_⟩
 ·rw [jF lp lq pq,if_neg pq,if_pos rfl]
 ·rw [jF lp lq pq,if_pos rfl]
theorem oY {f:Addr} {fd:FuncData} (F:Fun K "taken_out" "taken_out" yL f fd) (wJ:Own.Has P w K mg base "is_step" ["web","pair"] 1 (bL)) (zP:Own.Has P w K mg base "row_without" ["row","place"] 3 (oH)) (zX:Own.Has P w K mg base "hang_together" ["rows","without"] 1 (tI)) (z_list:mg "list" = none) (z_tuple:mg "tuple" = none):FnOk P w K mg base CX0 4 f fd ["web","tie"] (kEZ):=by
 refine F.ok sc_taken_out (λ vs H Q E h=>?_) (λ cdv A outer s0 H vs Q E hr h=>?_)
 ·obtain ⟨wa,z,W,p,q,rp,rq,rfl,_⟩:=h
  rfl
 obtain ⟨wa,z,W,p,q,rp,rq,rfl,hW,S,h30,hz,pq,hp,hq,mq,mp,con,k⟩:=h
 refine ⟨_,(kD (jZ (pv 1) (xB rfl (kP (kJ (i:=2) sc_taken_out.nd rfl (Or.inl rfl)) (kP (kJ (i:=3) sc_taken_out.nd rfl (Or.inl rfl)) qW))))
   (kD (xN (PW.pt (zR (kY kNK (pv 2) (pv 3) (qO _)) (zH (jY (jX (Own.pe_has wJ (hr.mono (by decide)) rfl (kA (pv 0) (kA (pv 1) kB)))))))) (kI bT) qN)
   (kD (kT (i:=4) sc_taken_out.nd rfl (Or.inl rfl) (qI jK rfl z_list PyProof.Rows.boot_list (kA (pv 0) kB)))
   (kD (jZ (Own.pe_has zP (hr.mono (by decide)) rfl (kA (kX qX (pv 0) (pv 2) (λ _ _=>rfl)) (kA (pv 3) kB))) (aZ (pv 4) (pv 2) wP))
   (kD (jZ (Own.pe_has zP (hr.mono (by decide)) rfl (kA (kX qX (pv 0) (pv 3) (λ _ _=>rfl)) (kA (pv 2) kB))) (aZ (pv 4) (pv 3) wP))
   (kD (xN (jY (jX (Own.pe_has zX (hr.mono (by decide)) rfl (kA (pv 4) (kA (yB kB) kB))))) (kI bT) qN)
   (kI (kS (qI qR rfl z_tuple PyProof.Rows.boot_tuple (kA (pv 4) kB)))))))))),?_⟩
 have lp:p<W.length:=(List.getElem?_eq_some_iff.mp hp).1;have lq:q<W.length:=(List.getElem?_eq_some_iff.mp hq).1;obtain ⟨ne1,ne2⟩:=kFV hp hq (by omega) con;refine ⟨_,rfl,z,_,rfl,SqT.of hz,rfl,_,_,rfl,_,_,rfl,rfl,?_⟩;refine ⟨_,rfl,_,rfl,_,_,rfl,rfl,_,rfl,?_⟩;rw [decide_eq_false (show ¬ (q:Int)<=(p:Int) by omega)];refine qV ⟨_,rfl,_,rfl,wa,z,W,p,q,rfl,hW,hz,⟨rp,hp,mq⟩,_,rfl,qV ?_⟩;obtain ⟨ts,h1,lts,h3⟩:=id hW;obtain ⟨ts',h1',lts',h3'⟩:=hW.at;rw [h1] at h1';have e0:ts.map V.ref=ts'.map V.ref:=HO.tup.inj (Option.some.inj h1');obtain ⟨bp,ep,fp⟩:=h3' p rp hp;obtain ⟨bq,eq',fq⟩:=h3' q rq hq;rw [<-e0] at ep eq';refine ⟨_,rfl,wa,_,rfl,.inr (SqT.of h1),λ l nl=>?_⟩;have gl:=kE nl (.lst (ts.map V.ref));have L2:LtAt (upd H l (.lst (ts.map V.ref))) l ts W:=⟨kC,lts,λ j a row e1 e2=>gl _ _ (h3 j a row e1 e2)⟩;have w2:=gl _ _ h1;have fp2:=gl _ _ fp;have fq2:=gl _ _ fq;have len_p:=S.len hp;have len_q:=S.len hq;generalize upd H l (.lst (ts.map V.ref))=H2 at *;refine ⟨_,rfl,_,rfl,wa,_,_,_,rfl,rfl,SqT.of w2,ep,_,rfl,bp,rp,q,rfl,fp2,by omega,ne1,λ ra t H3 ro1 ca g3 ht=>?_⟩;have L3:=L2.kept g3;refine ⟨_,rfl,_,rfl,l,_,_,p,rfl,rfl,L3.top,cC (by rw [length_map,lts];exact lp),?_⟩;have L4:=L3.set (p:=p) ht;have g4:=qD (o:=.lst ((ts.map V.ref).set p (.ref t))) nl (gl.trans g3)
 have tk:∀ (b:Addr) (xs:List V),H3 b=some (.tup xs)->upd H3 l (.lst ((ts.map V.ref).set p (.ref t))) b=some (.tup xs):=λ b xs e=>by
  rw [kK (yA e L3.top (by simp))];exact e
 have w4:=tk _ _ (g3 _ _ w2);have fq4:=tk _ _ (g3 _ _ fq2);generalize upd H3 l (.lst ((ts.map V.ref).set p (.ref t)))=H4 at *;refine ⟨_,rfl,_,rfl,wa,_,_,_,rfl,rfl,SqT.of w4,eq',_,rfl,bq,rq,p,rfl,fq4,by omega,ne2,λ rb t' H5 ro2 cb g5 ht'=>?_⟩;have L5:=L4.kept g5;refine ⟨_,rfl,_,rfl,l,_,_,q,rfl,rfl,L5.top,cC (by rw [length_map,length_set,lts];exact lq),?_⟩;have L6:=L5.set (p:=q) ht';have g6:=qD (o:=.lst (((ts.set p t).map V.ref).set q (.ref t'))) nl (g4.trans g5);generalize hX:upd H5 l (.lst (((ts.set p t).map V.ref).set q (.ref t')))=H6 at *;refine ⟨_,rfl,yS0,λ ee ne=>?_⟩;have gee:=kE ne (.tup []);refine ⟨l,ee,_,_,rfl,L6.kept gee,kC,con ra rb ro1 ro2,(by show (jL W p q ra rb).length<=42;rw [qQ];exact h30),λ H7 g7=>⟨_,rfl,qV ?_⟩⟩;have g67:=gee.trans g7;have L7:=L6.kept g67;refine ⟨_,rfl,l,_,rfl,.inl ⟨SqL.of L7.top,λ tt nt=>?_⟩⟩;have gt:=kE nt (.tup (((ts.set p t).set q t').map V.ref));exact k ra rb tt _ ro1 ca ro2 cb (g6.trans (g67.trans gt)) (L7.web gt kC)
theorem dX (k:Bool) {H:Hp} {r D:Addr} {A1:List Addr} {L:Rows} {N0:St->Hp->Prop} (src:if k then H r=some (.lst (A1.map V.ref)) else H r=some (.tup (A1.map V.ref))) (len:A1.length=L.length) (few:L.length<=150)
  (row:∀ (j:Nat) (a:Addr) (row:List Nat),A1[j]?=some a->L[j]?=some row->H a=some (.lst (row.map vn))\/H a=some (.tup (row.map vn))) (nD:H D=none)
  (fin:∀ σ H5 B,RowsAt H5 D B L->(∀ b∈B,H b=none)->Same H H5->N0 σ H5) :
  uG (if k then Itl K r else Itt K r) (nO 0) (kMI D (tCB (λ xs H Q=>∃ p ys,xs=[V.ref p]/\(SqL K H p ys\/SqT K H p ys)/\∀ l,H l=none->Q (V.ref l) (upd H l (.lst ys))) (kER (kHJ 0) kKD))) N0 [none] (upd H D (.lst [])):=by
 have turn:∀ (j:Nat) (x:V) (σ:St) (H5:Hp),(A1.map V.ref)[j]?=some x->(∃ (x:Option V) (B:List Addr),σ=[x]/\H5 D=some (.lst (B.map V.ref))/\B.length=j/\B.Nodup/\D∉B/\(∀ (m:Nat) (b:Addr) (row:List Nat),B[m]?=some b->L[m]?=some row->H5 b=some (.lst (row.map vn)))/\(∀ b∈B,(∃ o,H5 b=some o)/\H b=none)/\Same H H5) ->
   nO 0 x σ H5 λ σ2 H2=>(kMI D (tCB (λ xs H Q=>∃ p ys,xs=[V.ref p]/\(SqL K H p ys\/SqT K H p ys)/\∀ l,H l=none->Q (V.ref l) (upd H l (.lst ys))) (kER (kHJ 0) kKD))) (λ σ H5=>∃ (x:Option V) (B:List Addr),σ=[x]/\H5 D=some (.lst (B.map V.ref))/\B.length=j+1/\B.Nodup/\D∉B/\(∀ (m:Nat) (b:Addr) (row:List Nat),B[m]?=some b->L[m]?=some row->H5 b=some (.lst (row.map vn)))/\(∀ b∈B,(∃ o,H5 b=some o)/\H b=none)/\Same H H5) σ2 H2:=by
  rintro j x σ H5 hx ⟨y,B,rfl,hD,lB,nB,DB,hB,tB,g5⟩;rw [List.getElem?_map] at hx;obtain ⟨b0,eb,rfl⟩:=Option.map_eq_some_iff.mp hx;have hj:j<L.length:=by rw [<-len];exact (List.getElem?_eq_some_iff.mp eb).1
  have hrow:=List.getElem?_eq_getElem hj
  have src0:SqL K H5 b0 (L[j].map vn)\/SqT K H5 b0 (L[j].map vn):=by
   rcases row j b0 _ eb hrow with z | z
   ·exact .inl (SqL.of (g5 _ _ z))
   ·exact .inr (SqT.of (g5 _ _ z))
  refine ⟨_,rfl,b0,_,rfl,src0,λ b nb=>?_⟩;have gb:=kE nb (.lst (L[j].map vn));have hD':=gb _ _ hD;have bD:b≠D:=(kL hD nb).symm;refine ⟨_,hD',(by rw [length_map,lB];exact qG (by omega)),?_⟩;refine ⟨_,B++[b],rfl,(by rw [map_append];exact kC),(by rw [length_append,lB];rfl),?_,?_,(λ m c row e1 e2=>?_),(λ c hc=>?_),qD nD (g5.trans gb)⟩
  ·rw [nodup_append]
   refine ⟨nB,by simp,λ c hc c' hc'=>?_⟩;rw [mem_singleton.mp hc'];obtain ⟨⟨o,eo⟩,_⟩:=tB c hc;exact kL eo nb
  ·intro z
   rcases mem_append.mp z with w | w
   ·exact DB w
   ·exact bD (mem_singleton.mp w).symm
  ·have cD:c≠D:=λ z=>by
    have:=mem_of_getElem? e1;rw [z] at this;rcases mem_append.mp this with w | w
    ·exact DB w
    ·exact bD (mem_singleton.mp w).symm
   rw [kK cD];by_cases cm:m<B.length
   ·rw [List.getElem?_append_left cm] at e1
    exact gb _ _ (hB m c row e1 e2)
   ·have em:m=B.length:=by
     have:=(List.getElem?_eq_some_iff.mp e1).1;rw [length_append,length_singleton] at this;omega
    subst em;rw [List.getElem?_concat_length] at e1;cases e1
    rw [lB,hrow] at e2;cases e2
    exact kC
  ·rcases mem_append.mp hc with w | w
   ·obtain ⟨⟨o,eo⟩,n4⟩:=tB c w
    have cD:c≠D:=λ z=>DB (z ▸ w);exact ⟨⟨o,by rw [kK cD];exact gb _ _ eo⟩,n4⟩
   ·rw [mem_singleton.mp w]
    exact ⟨⟨_,by rw [kK bD];exact kC⟩,g5.free nb⟩
 have done:∀ (σ:St) (H5:Hp),(∃ (x:Option V) (B:List Addr),σ=[x]/\H5 D=some (.lst (B.map V.ref))/\B.length=(A1.map V.ref).length/\B.Nodup/\D∉B/\(∀ (m:Nat) (b:Addr) (row:List Nat),B[m]?=some b->L[m]?=some row->H5 b=some (.lst (row.map vn)))/\(∀ b∈B,(∃ o,H5 b=some o)/\H b=none)/\Same H H5)->N0 σ H5:=by
  rintro σ H5 ⟨y,B,rfl,hD,lB,nB,DB,hB,tB,g5⟩;exact fin _ H5 B ⟨hD,by rw [lB,length_map];exact len,nB,DB,hB⟩ (λ b hb=>(tB b hb).2) g5
 cases k with
 | true =>
  have src:H r=some (.lst (A1.map V.ref)):=src;show uG (Itl K r) _ _ _ _ _
  exact jN (xs:=A1.map V.ref) (λ j σ H5=>∃ (x:Option V) (B:List Addr),σ=[x]/\H5 D=some (.lst (B.map V.ref))/\B.length=j/\B.Nodup/\D∉B/\(∀ (m:Nat) (b:Addr) (row:List Nat),B[m]?=some b->L[m]?=some row->H5 b=some (.lst (row.map vn)))/\(∀ b∈B,(∃ o,H5 b=some o)/\H b=none)/\Same H H5)
   ⟨none,[],rfl,kC,rfl,.nil,by simp,(λ m b row e=>by simp at e),(λ b hb=>by cases hb),kE nD _⟩ (λ j σ H5 _ ⟨_,_,_,_,_,_,_,_,_,g5⟩=>SqL.of (g5 _ _ src)) turn done
 | false =>
  have src:H r=some (.tup (A1.map V.ref)):=src;show uG (Itt K r) _ _ _ _ _
  exact wM (xs:=A1.map V.ref) (λ j σ H5=>∃ (x:Option V) (B:List Addr),σ=[x]/\H5 D=some (.lst (B.map V.ref))/\B.length=j/\B.Nodup/\D∉B/\(∀ (m:Nat) (b:Addr) (row:List Nat),B[m]?=some b->L[m]?=some row->H5 b=some (.lst (row.map vn)))/\(∀ b∈B,(∃ o,H5 b=some o)/\H b=none)/\Same H H5)
   ⟨none,[],rfl,kC,rfl,.nil,by simp,(λ m b row e=>by simp at e),(λ b hb=>by cases hb),kE nD _⟩ (λ j σ H5 _ ⟨_,_,_,_,_,_,_,_,_,g5⟩=>SqT.of (g5 _ _ src)) turn done
def cV:Sp:=λ vs H Q _=>∃ (r:Addr) (L:Rows) (p q:Nat) (rp rq:List Nat),vs=[.ref r,vn p,vn q]/\((∃ A,RowsAt H r A L)\/WebAt H r L)/\L.length<=150/\p≠q/\L[p]?=some rp/\L[q]?=some rq/\q∈rp/\p∈rq /\
 ∀ (D:Addr) (B:List Addr) (H':Hp),RowsAt H' D B (jL L p q (qB rp q) (qB rq p))->(∀ b∈B,H b=none)->H D=none->Same H H'->Q (.ref D) H'
theorem lC {f:Addr} {fd:FuncData} (F:Fun K "_law_without" "_law_without" xG f fd) (z_list:mg "list" = none):FnOk P w K mg base CX0 1 f fd ["_law_rows","_law_p","_law_q"] (cV):=by
 refine F.ok sc_law_without (λ vs H Q E h=>?_) (λ cdv A outer s0 H vs Q E hr h=>?_)
 ·obtain ⟨r,L,p,q,rp,rq,rfl,_⟩:=h
  rfl
 obtain ⟨r,L,p,q,rp,rq,rfl,src,h150,pq,hp,hq,mp,mq,k⟩:=h;rcases src with ⟨A1,X⟩ | hW
 ·refine ⟨_,(kD (wZ (i:=3) (Nc:=["_law_row"]) (js:=[none]) rfl rfl sc_law_without.nd rfl (Or.inl rfl) (xW (pv 0)) (CS.of rfl rfl) rfl (λ C s₂ H₂ fp pins=>(kJ (i:=0) (show List.Nodup (α:=Str) ["_law_row"] by decide +kernel) rfl (Or.inl rfl))) (λ C s₂ H₂ fp pins D L=>(jV (xJ (qI (show xQ _ _ (λ xs H Q=>∃ p ys,xs=[.ref p]/\(SqL K H p ys\/SqT K H p ys)/\∀ l,H l=none->Q (.ref l) (upd H l (.lst ys))) from jK) rfl z_list PyProof.Rows.boot_list (kA (pv 0) kB))))))
   (kD (qJ (jW PySem.F.plainAttrs_list PySem.F.slot_list_remove PySem.F.type_list_remove yT (kX kZ (pv 3) (pv 1) (λ _ _=>rfl)) (kA (pv 2) kB)))
   (kD (qJ (jW PySem.F.plainAttrs_list PySem.F.slot_list_remove PySem.F.type_list_remove yT (kX kZ (pv 3) (pv 2) (λ _ _=>rfl)) (kA (pv 1) kB)))
   (kI (kS (pv 3)))))),?_⟩
  refine ⟨_,rfl,r,rfl,⟨_,SqL.of X.top⟩,λ D nD=>?_⟩;refine dX true (A1:=A1) (L:=L) X.top X.len h150 (λ j a row e1 e2=>.inl (X.row j a row e1 e2)) nD λ σ H5 B Y tB g5=>?_;obtain ⟨ap,e1p,e2p,e3p⟩:=Y.at hp;refine ⟨_,rfl,_,rfl,D,_,_,_,rfl,rfl,SqL.of Y.top,e3p,.inl ⟨rfl,_,SqL.of e2p⟩,_,rfl,ap,rp.map ci,q,rp.idxOf q,rfl,rfl,(by rw [e2p,jO]),qC mp,?_⟩;rw [aB];have Y1:=Y.set e1p (qB rp q);have hq1:=oM (i:=p) (r:=qB rp q) hq pq;obtain ⟨aq,e1q,e2q,e3q⟩:=Y1.at hq1;refine ⟨_,rfl,_,rfl,D,_,_,_,rfl,rfl,SqL.of Y1.top,e3q,.inl ⟨rfl,_,SqL.of e2q⟩,_,rfl,aq,rq.map ci,p,rq.idxOf p,rfl,rfl,(by rw [e2q,jO]),qC mq,?_⟩;rw [aB];have Y2:=Y1.set e1q (qB rq p);refine ⟨_,rfl,k D B _ Y2 tB nD λ b o e=>?_⟩;have nb:b∉B:=λ z=>by rw [tB b z] at e;cases e
  rw [kK (λ z=>nb (by rw [z];exact mem_of_getElem? e1q)),kK (λ z=>nb (by rw [z];exact mem_of_getElem? e1p))];exact g5 b o e
 ·refine ⟨_,(kD (wZ (i:=3) (Nc:=["_law_row"]) (js:=[none]) rfl rfl sc_law_without.nd rfl (Or.inl rfl) (wS (pv 0)) (CS.of rfl rfl) rfl (λ C s₂ H₂ fp pins=>(kJ (i:=0) (show List.Nodup (α:=Str) ["_law_row"] by decide +kernel) rfl (Or.inl rfl))) (λ C s₂ H₂ fp pins D L=>(jV (xJ (qI (show xQ _ _ (λ xs H Q=>∃ p ys,xs=[.ref p]/\(SqL K H p ys\/SqT K H p ys)/\∀ l,H l=none->Q (.ref l) (upd H l (.lst ys))) from jK) rfl z_list PyProof.Rows.boot_list (kA (pv 0) kB))))))
   (kD (qJ (jW PySem.F.plainAttrs_list PySem.F.slot_list_remove PySem.F.type_list_remove yT (kX kZ (pv 3) (pv 1) (λ _ _=>rfl)) (kA (pv 2) kB)))
   (kD (qJ (jW PySem.F.plainAttrs_list PySem.F.slot_list_remove PySem.F.type_list_remove yT (kX kZ (pv 3) (pv 2) (λ _ _=>rfl)) (kA (pv 1) kB)))
   (kI (kS (pv 3)))))),?_⟩
  obtain ⟨ts,h1,lts,h3⟩:=hW;refine ⟨_,rfl,r,rfl,⟨_,SqT.of h1⟩,λ D nD=>?_⟩;refine dX false (A1:=ts) (L:=L) h1 lts h150 (λ j a row e1 e2=>.inr (h3 j a row e1 e2)) nD λ σ H5 B Y tB g5=>?_;obtain ⟨ap,e1p,e2p,e3p⟩:=Y.at hp;refine ⟨_,rfl,_,rfl,D,_,_,_,rfl,rfl,SqL.of Y.top,e3p,.inl ⟨rfl,_,SqL.of e2p⟩,_,rfl,ap,rp.map ci,q,rp.idxOf q,rfl,rfl,(by rw [e2p,jO]),qC mp,?_⟩;rw [aB];have Y1:=Y.set e1p (qB rp q);have hq1:=oM (i:=p) (r:=qB rp q) hq pq;obtain ⟨aq,e1q,e2q,e3q⟩:=Y1.at hq1;refine ⟨_,rfl,_,rfl,D,_,_,_,rfl,rfl,SqL.of Y1.top,e3q,.inl ⟨rfl,_,SqL.of e2q⟩,_,rfl,aq,rq.map ci,p,rq.idxOf p,rfl,rfl,(by rw [e2q,jO]),qC mq,?_⟩;rw [aB];have Y2:=Y1.set e1q (qB rq p);refine ⟨_,rfl,k D B _ Y2 tB nD λ b o e=>?_⟩;have nb:b∉B:=λ z=>by rw [tB b z] at e;cases e
  rw [kK (λ z=>nb (by rw [z];exact mem_of_getElem? e1q)),kK (λ z=>nb (by rw [z];exact mem_of_getElem? e1p))];exact g5 b o e
def tH:Sp:=λ vs H Q _=>∃ (r z:Addr) (L:Rows) (p q:Nat) (rp rq:List Nat),vs=[.ref r,.ref z]/\WebAt H r L/\H z=some (.tup [vn p,vn q])/\L.length<=150/\p≠q/\L[p]?=some rp/\L[q]?=some rq/\q∈rp/\p∈rq/\(∀ (j:Nat) (r:List Nat),(jL L p q (qB rp q) (qB rq p))[j]?=some r->r≠[]/\r.length<=1000) /\
 ∀ (W':Rows) (t:Addr) (H':Hp),W'.length=L.length->(∀ (j:Nat) (r r':List Nat),(jL L p q (qB rp q) (qB rq p))[j]?=some r->W'[j]?=some r'->Ro r r'/\Can r')->Same H H'->WebAt H' t W'->Q (.ref t) H'
theorem kAD {f:Addr} {fd:FuncData} (F:Fun K "_law_out" "_law_out" wE f fd) (qH:Own.Has P w K mg base "_law_from_least" ["_law_row"] 1 (uN)) (z_list:mg "list" = none) (z_tuple:mg "tuple" = none):FnOk P w K mg base CX0 2 f fd ["_law_web_here","_law_tie"] (tH):=by
 refine F.ok sc_law_out (λ vs H Q E h=>?_) (λ cdv A outer s0 H vs Q E hr h=>?_)
 ·obtain ⟨r,z,L,p,q,rp,rq,rfl,_⟩:=h
  rfl
 obtain ⟨r,z,L,p,q,rp,rq,rfl,hW,hz,h150,pq,hp,hq,mp,mq,ok,k⟩:=h
 refine ⟨_,(kD (jZ (pv 1) (xB rfl (kP (kJ (i:=2) sc_law_out.nd rfl (Or.inl rfl)) (kP (kJ (i:=3) sc_law_out.nd rfl (Or.inl rfl)) qW))))
   (kD (wZ (i:=4) (Nc:=["_law_row"]) (js:=[none]) rfl rfl sc_law_out.nd rfl (Or.inl rfl) (wS (pv 0)) (CS.of rfl rfl) rfl (λ C s₂ H₂ fp pins=>(kJ (i:=0) (show List.Nodup (α:=Str) ["_law_row"] by decide +kernel) rfl (Or.inl rfl))) (λ C s₂ H₂ fp pins D L=>(jV (xJ (qI (show xQ _ _ (λ xs H Q=>∃ p ys,xs=[.ref p]/\(SqL K H p ys\/SqT K H p ys)/\∀ l,H l=none->Q (.ref l) (upd H l (.lst ys))) from jK) rfl z_list PyProof.Rows.boot_list (kA (pv 0) kB))))))
   (kD (qJ (jW PySem.F.plainAttrs_list PySem.F.slot_list_remove PySem.F.type_list_remove yT (kX kZ (pv 4) (pv 2) (λ _ _=>rfl)) (kA (pv 3) kB)))
   (kD (qJ (jW PySem.F.plainAttrs_list PySem.F.slot_list_remove PySem.F.type_list_remove yT (kX kZ (pv 4) (pv 3) (λ _ _=>rfl)) (kA (pv 2) kB)))
   (kI (kS (qI qR rfl z_tuple PyProof.Rows.boot_tuple (kA (zZ (Nc:=["_law_row"]) (js:=[none]) rfl rfl (xW (pv 4)) (CS.of rfl rfl) rfl (λ C s₂ H₂ fp pins=>(kJ (i:=0) (show List.Nodup (α:=Str) ["_law_row"] by decide +kernel) rfl (Or.inl rfl))) (λ C s₂ H₂ fp pins D L=>(jV (xJ (Own.pe_has qH (hr.mono (by decide)) rfl (kA (pv 0) kB)))))) kB)))))))),?_⟩
 obtain ⟨ts,h1,lts,h3⟩:=hW;refine ⟨_,rfl,z,_,rfl,SqT.of hz,rfl,_,_,rfl,_,_,rfl,rfl,?_⟩;refine ⟨_,rfl,r,rfl,⟨_,SqT.of h1⟩,λ D nD=>?_⟩;refine dX false (A1:=ts) (L:=L) h1 lts h150 (λ j a row e1 e2=>.inr (h3 j a row e1 e2)) nD λ σ H5 B Y tB g5=>?_;obtain ⟨ap,e1p,e2p,e3p⟩:=Y.at hp;refine ⟨_,rfl,_,rfl,D,_,_,_,rfl,rfl,SqL.of Y.top,e3p,.inl ⟨rfl,_,SqL.of e2p⟩,_,rfl,ap,rp.map ci,q,rp.idxOf q,rfl,rfl,(by rw [e2p,jO]),qC mp,?_⟩;rw [aB];have Y1:=Y.set e1p (qB rp q);have hq1:=oM (i:=p) (r:=qB rp q) hq pq;obtain ⟨aq,e1q,e2q,e3q⟩:=Y1.at hq1;refine ⟨_,rfl,_,rfl,D,_,_,_,rfl,rfl,SqL.of Y1.top,e3q,.inl ⟨rfl,_,SqL.of e2q⟩,_,rfl,aq,rq.map ci,p,rq.idxOf p,rfl,rfl,(by rw [e2q,jO]),qC mq,?_⟩;rw [aB];have Y2:RowsAt _ D B (jL L p q (qB rp q) (qB rq p)):=Y1.set e1q (qB rq p)
 have g7:Same H (upd (upd H5 ap (.lst ((qB rp q).map vn))) aq (.lst ((qB rq p).map vn))):=λ b o e=>by
  have nb:b∉B:=λ z=>by rw [tB b z] at e;cases e
  rw [kK (λ z=>nb (by rw [z];exact mem_of_getElem? e1q)),kK (λ z=>nb (by rw [z];exact mem_of_getElem? e1p))];exact g5 b o e
 generalize upd (upd H5 ap (.lst ((qB rp q).map vn))) aq (.lst ((qB rq p).map vn))=H7 at *;have l2:=qQ L p q (qB rp q) (qB rq p);generalize jL L p q (qB rp q) (qB rq p)=L2 at *;refine ⟨_,rfl,D,rfl,⟨_,SqL.of Y2.top⟩,λ T nT=>?_⟩
 refine jN (xs:=B.map V.ref) (λ n σ H8=>∃ (u:Option V) (us:List Addr) (W':Rows),σ=[u]/\H8 T=some (.lst (us.map V.ref))/\us.length=n/\W'.length=n/\(∀ (j:Nat) (a:Addr) (row:List Nat),us[j]?=some a->W'[j]?=some row->H8 a=some (.tup (row.map vn))) /\
   (∀ (j:Nat) (r r':List Nat),L2[j]?=some r->W'[j]?=some r'->Ro r r'/\Can r')/\Same H7 H8) ⟨none,[],[],rfl,kC,rfl,rfl,(λ j a row e=>by simp at e),(λ j r r' _ e=>by simp at e),kE nT _⟩ ?_ ?_ ?_
 ·rintro n σ H8 _ ⟨u,us,W',rfl,hT,lu,lw,hus,hr',g8⟩
  exact SqL.of (g8 _ _ Y2.top)
 ·rintro n v σ H8 hv ⟨u,us,W',rfl,hT,lu,lw,hus,hr',g8⟩
  rw [List.getElem?_map] at hv;obtain ⟨b,eb,rfl⟩:=Option.map_eq_some_iff.mp hv;have hn:n<L2.length:=by rw [<-Y2.len];exact (List.getElem?_eq_some_iff.mp eb).1
  have hrow:=List.getElem?_eq_getElem hn;obtain ⟨rne,rle⟩:=ok n _ hrow;generalize L2[n]=rn at *;refine ⟨_,rfl,b,_,rfl,g8 _ _ (Y2.row n b _ eb hrow),rne,rle,λ M t H9 hM hle g9 nt ht=>?_⟩;refine ⟨_,g9 _ _ hT,(by rw [length_map];exact qG (by omega)),?_⟩;have hT9:=g9 _ _ hT
  have old:∀ (a:Addr) (xs:List V),H9 a=some (.tup xs)->upd H9 T (.lst (us.map V.ref++[V.ref t])) a=some (.tup xs):=λ a xs e=>by
   rw [kK (yA e hT9 (by simp))];exact e
  refine ⟨_,us++[t],W'++[rot rn M],rfl,(by rw [map_append];exact kC),(by simp [lu]),(by simp [lw]),(λ j a row e1 e2=>old a _ ?_),(λ j r r' e1 e2=>?_),qD nT (g8.trans g9)⟩
  ·by_cases c:j<us.length
   ·rw [List.getElem?_append_left c] at e1
    rw [List.getElem?_append_left (by omega)] at e2;exact g9 _ _ (hus j a row e1 e2)
   ·have:j=us.length:=by
     have:=(List.getElem?_eq_some_iff.mp e1).1;simp at this;omega
    subst this;rw [List.getElem?_concat_length] at e1;rw [lu,<-lw,List.getElem?_concat_length] at e2;cases e1
    cases e2
    exact ht
  ·by_cases c:j<W'.length
   ·rw [List.getElem?_append_left c] at e2
    exact hr' j r r' e1 e2
   ·have:j=W'.length:=by
     have:=(List.getElem?_eq_some_iff.mp e2).1;simp at this;omega
    subst this;rw [List.getElem?_concat_length] at e2;cases e2
    rw [lw,hrow] at e1;cases e1
    exact ⟨dB _ _,aI hM hle⟩
 ·rintro σ H8 ⟨u,us,W',rfl,hT,lu,lw,hus,hr',g8⟩
  rw [length_map,Y2.len,l2] at lu lw;refine ⟨T,_,rfl,.inl ⟨SqL.of hT,λ t nt=>?_⟩⟩;have gt:=kE nt (.tup (us.map V.ref));exact k W' t _ lw hr' (g7.trans (g8.trans gt)) ⟨us,kC,by omega,λ j a row e1 e2=>gt _ _ (hus j a row e1 e2)⟩
def gQ (row:List Nat):PyData:=.tuple (row.map λ n:Nat=>PyData.int (n:Int))
def aQ (W:Rows):PyData:=.tuple (W.map gQ)
theorem kGG (l:List Nat):PyData.canLayAll0 (l.map λ n:Nat=>PyData.int (n:Int))=true/\PyData.depthAll (l.map λ n:Nat=>PyData.int (n:Int))=0:=by
 induction l with
 | nil=>exact ⟨rfl,rfl⟩
 | cons x l ih=>simp [PyData.canLayAll0,PyData.canLay0,PyData.depthAll,PyData.depth,ih.1,ih.2]
theorem kFG (row:List Nat):PyData.canLay0 (gQ row)=true/\PyData.depth (gQ row)<=1:=by
 obtain ⟨h1,h2⟩:=kGG row;unfold gQ;simp [PyData.canLay0,PyData.depth,h1,h2]
theorem rD (W:Rows):PyData.canLayAll0 (W.map gQ)=true/\PyData.depthAll (W.map gQ)<=1:=by
 induction W with
 | nil=>exact ⟨rfl,by decide⟩
 | cons x l ih =>
  obtain ⟨h1,h2⟩:=kFG x;simp only [map_cons,PyData.canLayAll0,PyData.depthAll,h1,ih.1];have:=ih.2;refine ⟨rfl,?_⟩;omega
theorem fM (W:Rows):SeqAt.shaped (aQ W)=true:=by
 obtain ⟨h1,h2⟩:=rD W;unfold aQ SeqAt.shaped;simp only [PyData.canLay0,PyData.depth,h1]
 first | (simp;omega) | (rw [Bool.and_eq_true];exact ⟨rfl,decide_eq_true (by omega)⟩) | simp_all
theorem kGH (l:List Nat):PyData.eqvAll (l.map λ n:Nat=>PyData.int (n:Int)) (l.map λ n:Nat=>PyData.int (n:Int))=true:=by
 induction l with
 | nil=>rfl
 | cons x l ih=>simp [PyData.eqvAll,PyData.eqv,ih]
theorem kFE (W:Rows):PyData.eqvAll (W.map gQ) (W.map gQ)=true:=by
 induction W with
 | nil=>rfl
 | cons x l ih=>simp [PyData.eqvAll,PyData.eqv,ih,gQ,kGH]
theorem gB (W:Rows):PyData.eqv (aQ W) (aQ W)=true:=by
 unfold aQ;simp [PyData.eqv,kFE]
theorem kIZ {H:Hp} (row:List Nat):DtAll K H (row.map λ n:Nat=>PyData.int (n:Int)) (row.map vn):=by
 induction row with
 | nil=>unfold DtAll;rfl
 | cons x r ih =>
  rw [map_cons,map_cons];unfold DtAll;exact ⟨_,_,rfl,(by unfold Dt;rfl),ih⟩
theorem sO {H:Hp}:∀ {ts:List Addr} {W:Rows},ts.length=W.length->(∀ (j:Nat) (a:Addr) (row:List Nat),ts[j]?=some a->W[j]?=some row->H a=some (.tup (row.map vn)))->DtAll K H (W.map gQ) (ts.map V.ref)
 | [],[],_,_=>by unfold DtAll;rfl
 | s::ss,t::T,hl,h=>by
  rw [map_cons,map_cons];unfold DtAll;refine ⟨_,_,rfl,?_,sO (by simpa using hl) λ i b u e1 e2=>h (i+1) b u (by simpa using e1) (by simpa using e2)⟩;unfold gQ Dt;exact ⟨s,_,rfl,SqT.of (h 0 s t rfl rfl),kIZ t⟩
 | [],_::_,hl,_=>by simp at hl
 | _::_,[],hl,_=>by simp at hl
theorem WebAt.dt {H:Hp} {t:Addr} {W:Rows} (h:WebAt H t W):Dt K H (aQ W) (.ref t):=by
 obtain ⟨ts,h1,h2,h3⟩:=h;unfold aQ Dt;exact ⟨t,_,rfl,SqT.of h1,sO h2 h3⟩
def fP:Sp:=λ vs H Q _=>∃ (f d:Addr) (W:Rows),vs=[.ref f,.ref d]/\WebAt H f W/\WebAt H d W/\∀ H',Same H H'->Q (.bl true) H'
theorem kAI {H:Hp} {a:Addr} (h:H a=some (.lst [])):Dt K H (.list []) (.ref a):=by
 unfold Dt;exact ⟨a,_,rfl,SqL.of h,by unfold DtAll;rfl⟩
theorem mK {f:Addr} {fd:FuncData} (F:Fun K "_law_is_web" "_law_is_web" xS f fd) (z_isinstance:mg "isinstance" = none) (z_tuple:mg "tuple" = none) (z_bool:mg "bool" = none) (z_int:mg "int" = none):FnOk P w K mg base CX0 1 f fd ["_law_found","_law_due"] (fP):=by
 refine F.ok sc_law_is_web (λ vs H Q E h=>?_) (λ cdv A outer s0 H vs Q E hr h=>?_)
 ·obtain ⟨f,d,W,rfl,_⟩:=h
  rfl
 obtain ⟨f,d,W,rfl,h1,h2,k⟩:=h
 refine ⟨_,(kD (xN (PW.pt (zR (jY (jX (kN Own.call_isi rfl z_isinstance PyProof.Rows.boot_isinstance (kA (pv 0) (kA (wA (v:=.ty "tuple") rfl z_tuple PyProof.Rows.boot_tuple rfl) kB))))) (zH (kY (hG hr.units) (pv 0) (pv 1) (qO _))))) (kI (kS yX)) qN)
   (kD (zJ PassesOwn.never rfl (wS (pv 0)) (kJ (i:=2) sc_law_is_web.nd rfl (Or.inl rfl)) (kI (xN (PW.pt (zR (jY (jX (kN Own.call_isi rfl z_isinstance PyProof.Rows.boot_isinstance (kA (pv 2) (kA (wA (v:=.ty "tuple") rfl z_tuple PyProof.Rows.boot_tuple rfl) kB))))) (zH (kY (hG hr.units) (zZ (Nc:=["_law_q"]) (js:=[none]) rfl rfl (wS (pv 2)) (CS.of rfl rfl) rfl (λ C s₂ H₂ fp pins=>(kJ (i:=0) (show List.Nodup (α:=Str) ["_law_q"] by decide +kernel) rfl (Or.inl rfl))) (λ C s₂ H₂ fp pins D L=>(wR (PW.pt (zR (jY (jX (kN (show xQ _ _ (λ xs H Q=>∃ x t T b,xs=[x,.ty T]/\TyOf K H x t/\PySem.W.kitOne K t (.type T)=some b/\Q (.bl b) H) from Own.call_isi) rfl z_isinstance PyProof.Rows.boot_isinstance (kA (pv 0) (kA (wA (v:=.ty "int") rfl z_int PyProof.Rows.boot_int rfl) kB))))) (zH (jX (kN (show xQ _ _ (λ xs H Q=>∃ x t T b,xs=[x,.ty T]/\TyOf K H x t/\PySem.W.kitOne K t (.type T)=some b/\Q (.bl b) H) from Own.call_isi) rfl z_isinstance PyProof.Rows.boot_isinstance (kA (pv 0) (kA (wA (v:=.ty "bool") rfl z_bool PyProof.Rows.boot_bool rfl) kB))))))) (xJ (pv 0))))) (yH kB) (qO _))))) (kI (kS yX)) qN)))
   (kI (kS yX)))),?_⟩
 obtain ⟨ts,ht,lt,hts⟩:=id h1;refine ⟨_,rfl,_,_,_,_,rfl,.tup ht,rfl,_,rfl,qV ?_⟩;refine ⟨_,rfl,_,rfl,aQ W,aQ W,h1.dt,h2.dt,fM _,fM _,_,rfl,?_⟩;rw [gB];refine qV ?_;refine ⟨_,rfl,f,rfl,⟨_,SqT.of ht⟩,?_⟩;refine pN (xs:=ts.map V.ref) (λ n σ H2=>∃ (u:Option V),σ=[some (.ref f),some (.ref d),u]/\Same H H2) ⟨_,rfl,Same.refl _⟩ ?_ ?_ ?_
 ·rintro n σ H2 _ ⟨u,rfl,g⟩
  exact SqT.of (g _ _ ht)
 ·rintro n v σ H2 hv ⟨u,rfl,g⟩
  rw [List.getElem?_map] at hv;obtain ⟨b,eb,rfl⟩:=Option.map_eq_some_iff.mp hv;have hn:n<W.length:=by rw [<-lt];exact (List.getElem?_eq_some_iff.mp eb).1
  have hb:=g _ _ (hts n b W[n] eb (List.getElem?_eq_getElem hn));refine ⟨_,rfl,_,_,_,_,rfl,.tup hb,rfl,_,rfl,qV ?_⟩;refine ⟨_,rfl,b,rfl,⟨_,SqT.of hb⟩,λ D nD=>?_⟩;refine wM (xs:=W[n].map vn) (λ m σ H3=>∃ (u:Option V),σ=[u]/\H3 D=some (.lst [])/\Same H2 H3) ⟨none,rfl,kC,kE nD _⟩ ?_ ?_ ?_
  ·rintro m σ H3 _ ⟨u,rfl,hD,g3⟩
   exact SqT.of (g3 _ _ hb)
  ·rintro m x σ H3 hx ⟨u,rfl,hD,g3⟩
   rw [List.getElem?_map] at hx;obtain ⟨q,eq',rfl⟩:=Option.map_eq_some_iff.mp hx;refine ⟨_,rfl,_,_,_,_,rfl,.int _,rfl,_,rfl,qV ?_⟩;refine ⟨_,rfl,_,_,_,_,rfl,.int _,rfl,_,rfl,?_⟩;exact qV ⟨_,rfl,hD,g3⟩
  ·rintro σ H3 ⟨u,rfl,hD,g3⟩
   refine ⟨yS0,λ e ne=>?_⟩;have ge:=kE ne (.lst []);refine ⟨.list [],.list [],kAI (ge _ _ hD),kAI kC,rfl,rfl,_,rfl,?_⟩;exact qV ⟨_,rfl,g.trans (g3.trans ge)⟩
 ·rintro σ H2 ⟨u,rfl,g⟩
  exact k _ g
theorem kMK {fs:List Nat} {n:Nat} (nd:fs.Nodup) (rng:∀ x∈fs,x<n) (hl:fs.length=n) (p:Nat) (hp:p<n):p∈fs:=by
 by_cases c:p∈fs
 ·exact c
 ·have:(p::fs).Nodup:=nodup_cons.mpr ⟨c,nd⟩
  have:=List.Nodup.length_le_of_subset this (l₂:=List.range n) λ x hx=>mem_range.mpr (by
   rcases mem_cons.mp hx with rfl | z
   ·exact hp
   ·exact rng x z)
  rw [length_range,length_cons] at this;omega
def muA (n:Nat) (σ:St) (H:Hp):Nat:=match σ with
 | [_,_,some (.int i),_]=>n-i.toNat
 | _=>0
def gI:Sp:=λ vs H Q _=>∃ (r:Addr) (A:List Addr) (L:Rows),vs=[.ref r]/\RowsAt H r A L/\Nb L/\3<=L.length/\L.length<=150 /\
 ∀ (b:Bool) (H':Hp),Same H H'->(b=true->∀ p,p<L.length->Reach L 0 p)->Q (.bl b) H'
theorem pF {f:Addr} {fd:FuncData} (F:Fun K "_law_hangs" "_law_hangs" yO f fd) (z_len:mg "len" = none):FnOk P w K mg base CX0 1 f fd ["_law_rows"] (gI):=by
 refine F.ok sc_law_hangs (λ vs H Q E h=>?_) (λ cdv A outer s0 H vs Q E hr h=>?_)
 ·obtain ⟨r,A,L,rfl,_⟩:=h
  rfl
 obtain ⟨r,A1,L,rfl,X,S,l3,l150,k⟩:=h
 refine ⟨_,(kD (kT (i:=1) sc_law_hangs.nd rfl (Or.inl rfl) (yH (kA kM kB)))
   (kD (kT (i:=2) sc_law_hangs.nd rfl (Or.inl rfl) kM)
   (kD (uO PassesOwn.never (kY rM (pv 2) (kN kO rfl z_len PySem.boot_len (kA (pv 1) kB)) (qO _)) (kD (zJ PassesOwn.never rfl (xW (kX kZ (pv 0) (kX kZ (pv 1) (pv 2) (λ _ _=>rfl)) (λ _ _=>rfl))) (kJ (i:=3) sc_law_hangs.nd rfl (Or.inl rfl)) (kI (xN (kY yY (pv 3) (pv 1) rfl) (kI (qJ (jW PySem.F.plainAttrs_list PySem.F.slot_list_append PySem.F.type_list_append zK (pv 1) (kA (pv 3) kB)))) qN)))
   (kI (kT (i:=2) sc_law_hangs.nd rfl (Or.inl rfl) (qM yZ (pv 2) kM)))))
   (kI (kS (bU rN (kN kO rfl z_len PySem.boot_len (kA (pv 1) kB)) (kN kO rfl z_len PySem.boot_len (kA (pv 0) kB)) (qO _))))))),?_⟩
 have lA:((A1.map V.ref).length:Int)=L.length:=by rw [length_map,X.len]
 refine ⟨yS1,λ c nc=>?_⟩;have g0:=kE nc (.lst [vn 0]);have hc0:=kC (H:=H) (a:=c) (o:=.lst [vn 0])
 refine uK (λ σ H2=>∃ (x:Option V) (i:Nat) (fs:List Nat),σ=[some (.ref r),some (.ref c),some (.int (i:Int)),x]/\H2 c=some (.lst (fs.map vn))/\fs.Nodup/\(∀ y∈fs,y<L.length/\Reach L 0 y)/\Same H H2) (muA L.length)
  ⟨none,0,[0],rfl,hc0,by simp,(λ y hy=>by rw [mem_singleton.mp hy];exact ⟨by omega,.here _⟩),g0⟩ ?_ ?_
 ·rintro σ H2 ⟨x,i,fs,rfl,hc,nd,hf,g⟩
  have lf:fs.length<=L.length:=by
   have:=List.Nodup.length_le_of_subset nd (l₂:=List.range L.length) λ y hy=>mem_range.mpr (hf y hy).1;rwa [length_range] at this
  refine ⟨_,rfl,_,rfl,c,_,rfl,.inl (SqL.of hc),_,_,rfl,rfl,_,rfl,?_⟩;rw [length_map];refine sB (λ z=>?_) (λ z=>?_)
  ·have z:=of_decide_eq_true z
   have hi:i<fs.length:=by omega
   have hx:=hf _ (getElem_mem hi);have hrow:=List.getElem?_eq_getElem hx.1;obtain ⟨a,e1,e2,e3⟩:=(X.kept g).at hrow;have lr:=S.len hrow
   have hne:c≠a:=λ zz=>by
    have:=X.row _ a _ e1 hrow;rw [<-zz,nc] at this;cases this
   have hcr:c≠r:=λ zz=>by
    have:=X.top;rw [<-zz,nc] at this;cases this
   generalize hxx:fs[i]=xx at *;generalize hrr:L[xx]=row at *;refine ⟨_,rfl,_,rfl,_,rfl,c,_,_,_,rfl,rfl,SqL.of hc,(by rw [<-hxx];exact mS hi),r,_,_,_,rfl,rfl,SqL.of (g _ _ X.top),e3,a,rfl,⟨_,SqL.of e2⟩,?_⟩;refine sI (xs:=row.map vn) (λ j σ H3=>∃ (x:Option V) (fs':List Nat),σ=[some (.ref r),some (.ref c),some (.int (i:Int)),x]/\H3 c=some (.lst (fs'.map vn))/\fs'.Nodup/\(∀ y∈fs',y<L.length/\Reach L 0 y)/\Same H H3) ⟨_,fs,rfl,hc,nd,hf,g⟩ ?_ ?_ ?_
   ·rintro j σ H3 _ ⟨x,fs',rfl,hc3,nd3,hf3,g3⟩
    exact SqL.of (g3 _ _ (X.row _ a _ e1 hrow))
   ·rintro j v σ H3 hv ⟨x,fs',rfl,hc3,nd3,hf3,g3⟩
    rw [List.getElem?_map] at hv;obtain ⟨q,eq',rfl⟩:=Option.map_eq_some_iff.mp hv;have qm:=mem_of_getElem? eq'
    have l3':fs'.length<=L.length:=by
     have:=List.Nodup.length_le_of_subset nd3 (l₂:=List.range L.length) λ y hy=>mem_range.mpr (hf3 y hy).1;rwa [length_range] at this
    refine ⟨_,rfl,_,rfl,c,_,rfl,.inl (SqL.of hc3),rfl,vQ _,_,rfl,?_⟩;rw [if_pos rfl,aN];by_cases cc:q∈fs'
    ·rw [decide_eq_true cc]
     exact qV ⟨_,fs',rfl,hc3,nd3,hf3,g3⟩
    ·rw [decide_eq_false cc]
     refine uT ⟨_,rfl,.inl ⟨rfl,_,SqL.of hc3⟩,_,rfl,c,_,_,rfl,rfl,hc3,(by rw [length_map];exact qG (by omega)),?_⟩;refine ⟨_,fs'++[q],rfl,(by rw [map_append];exact kC),?_,(λ y hy=>?_),qD nc g3⟩
     ·rw [nodup_append]
      exact ⟨nd3,by simp,λ a ha b hb=>by rw [mem_singleton.mp hb];exact λ z=>cc (z ▸ ha)⟩
     ·rcases mem_append.mp hy with z | z
      ·exact hf3 y z
      ·rw [mem_singleton.mp z]
       exact ⟨(S.rng xx row q hrow qm).1,.more hx.2 ⟨row,hrow,qm⟩⟩
   ·rintro σ H3 ⟨x,fs',rfl,hc3,nd3,hf3,g3⟩
    refine ⟨_,rfl,_,_,rfl,rfl,⟨_,i+1,fs',rfl,hc3,nd3,hf3,g3⟩,?_⟩;show L.length-((i:Int)+1).toNat<L.length-(i:Int).toNat;omega
  ·refine ⟨_,rfl,c,_,rfl,.inl (SqL.of hc),_,rfl,r,_,rfl,.inl (SqL.of (g _ _ X.top)),rfl,k _ _ g λ e=>?_⟩
   have e:=of_decide_eq_true e;have e:=V.int.inj e;rw [length_map,lA] at e;intro p hp;exact (hf p (kMK nd (λ y hy=>(hf y hy).1) (by omega) p hp)).2
 ·rintro σ H1 Q1 Q2 m ⟨v,e1,v2,e2,a,ys,e3,h1,i,j,e4,e5,kk,e6,q1⟩
  exact ⟨v,e1,v2,e2,a,ys,e3,h1,i,j,e4,e5,kk,e6,m _ _ q1⟩
theorem Wb.few {L:Rows} (G:Wb L) (h:L.length<=150):Some' L:=⟨by have:=G.three;omega,h,λ p row e=>⟨G.ne e,by have:=G.toNb.len e;omega⟩⟩
theorem kMD {L:Rows} (S:Nb L) {p q:Nat} {rp rq:List Nat} (hp:L[p]?=some rp) (hq:L[q]?=some rq) (pq:p≠q) (mq:q∈rp) (mp:p∈rq):Nb (jL L p q (qB rp q) (qB rq p)):=by
 have n1:=S.nd _ _ hp;have n2:=S.nd _ _ hq;exact bQ (c:=False) S hp hq pq (aK (by rw [xC n1 mq];exact .refl _)) (aK (by rw [xC n2 mp];exact .refl _)) (fZ mq n1) (fZ mp n2)
def cW:Sp:=λ vs H Q _=>∃ (a r:Addr) (A:List Addr) (L:Rows) (m:Nat),vs=[.ref a,.ref r,.int (m:Int)]/\PotAt H a/\RowsAt H r A L/\Wb L/\Fc.Flat L/\L.length<=40/\a≠r/\a∉A/\m<=1000 /\
 ∀ (r':Addr) (A':List Addr) (L':Rows) (H':Hp),SameBut a H H'->PotAt H' a->RowsAt H' r' A' L'->Wb L'->Fc.Flat L'->L'.length=L.length->a≠r'->a∉A'->Q (.ref r') H'
theorem lD {f:Addr} {fd:FuncData} (F:Fun K "_law_thinned" "_law_thinned" xH f fd) (yK:Own.Has P w K mg base "_law_step" ["_law_pot_here","_law_rows"] 2 (fO)) (uZ:Own.Has P w K mg base "_law_hangs" ["_law_rows"] 1 (gI)) (zQ:Own.Has P w K mg base "_law_without" ["_law_rows","_law_p","_law_q"] 1 (cV)) (z_range:mg "range" = none) (z_len:mg "len" = none):FnOk P w K mg base CX0 3 f fd ["_law_pot_here","_law_rows","_law_many"] (cW):=by
 refine F.ok sc_law_thinned (λ vs H Q E h=>?_) (λ cdv A outer s0 H vs Q E hr h=>?_)
 ·obtain ⟨a,r,A,L,m,rfl,_⟩:=h
  rfl
 obtain ⟨a,r,A1,L,m,rfl,pa,X,G,fl,l40,nar,naA,m1,k⟩:=h
 refine ⟨_,(kD (zJ PassesOwn.never rfl (yS rfl z_range (kA (pv 2) kB)) (kJ (i:=3) sc_law_thinned.nd rfl (Or.inl rfl)) (kD (jZ (Own.pe_has yK (hr.mono (by decide)) rfl (kA (pv 0) (kA (pv 1) kB))) (xB rfl (kP (kJ (i:=4) sc_law_thinned.nd rfl (Or.inl rfl)) (kP (kJ (i:=5) sc_law_thinned.nd rfl (Or.inl rfl)) qW))))
   (kI (xN (PW.pt (gU (kY kBN (kN kO rfl z_len PySem.boot_len (kA (kX kZ (pv 1) (pv 4) (λ _ _=>rfl)) kB)) kM (qO _)) (gU (kY kBN (kN kO rfl z_len PySem.boot_len (kA (kX kZ (pv 1) (pv 5) (λ _ _=>rfl)) kB)) kM (qO _)) (fR (jX (Own.pe_has uZ (hr.mono (by decide)) rfl (kA (Own.pe_has zQ (hr.mono (by decide)) rfl (kA (pv 1) (kA (pv 4) (kA (pv 5) kB)))) kB))))))) (kI (kT (i:=1) sc_law_thinned.nd rfl (Or.inl rfl) (Own.pe_has zQ (hr.mono (by decide)) rfl (kA (pv 1) (kA (pv 4) (kA (pv 5) kB)))))) qN))))
   (kI (kS (pv 1)))),?_⟩
 refine ⟨_,rfl,(m:Int),rfl,by omega,by omega,wK (lo:=0) (n:=(m:Int).toNat) (λ i σ H2=>∃ (x3 x4 x5:Option V) (r:Addr) (A:List Addr) (L':Rows),σ=[some (.ref a),some (.ref r),some (.int (m:Int)),x3,x4,x5]/\RowsAt H2 r A L'/\Wb L'/\Fc.Flat L'/\L'.length=L.length/\a≠r/\a∉A/\SameBut a H H2/\PotAt H2 a)
  ⟨_,_,_,r,A1,L,rfl,X,G,fl,rfl,nar,naA,.refl _ _,pa⟩ ?_ ?_⟩
 ·rintro i σ H2 hi ⟨x3,x4,x5,r,A1,L',rfl,X,G,fl,hl,nar,naA,s2,p2⟩
  refine ⟨_,rfl,_,rfl,.inl ⟨a,r,A1,L',rfl,p2,X,nar,naA,Wb.few G (by omega),λ t p q H3 s3 p3 nt ht hE=>?_⟩⟩;have X3:=X.but nar naA s3;obtain ⟨rq,hq,mq⟩:=G.sym p q hE;obtain ⟨rp,hp,mp⟩:=hE;have pq:p≠q:=λ z=>(G.rng p rp q hp mp).2 z.symm;refine ⟨t,_,rfl,SqT.of ht,rfl,_,_,rfl,_,_,rfl,rfl,?_⟩;obtain ⟨ap,e1p,e2p,e3p⟩:=X3.at hp;obtain ⟨aq,e1q,e2q,e3q⟩:=X3.at hq;have s03:=s2.trans s3
  have stay:∀ H8,Same H3 H8->∃ (x3 x4 x5:Option V) (r':Addr) (A:List Addr) (L'':Rows),[some (V.ref a),some (.ref r),some (.int (m:Int)),some (.int (0+(i:Int))),some (vn p),some (vn q)]=[some (.ref a),some (.ref r'),some (.int (m:Int)),x3,x4,x5]/\RowsAt H8 r' A L''/\Wb L''/\Fc.Flat L''/\L''.length=L.length/\a≠r'/\a∉A/\SameBut a H H8/\PotAt H8 a:=λ H8 g8 =>
   ⟨_,_,_,r,A1,L',rfl,X3.kept g8,G,fl,hl,nar,naA,s03.trans (.of g8),p3.kept g8⟩
  refine ⟨_,rfl,_,rfl,r,_,_,_,rfl,rfl,SqL.of X3.top,e3p,ap,_,rfl,.inl (SqL.of e2p),_,_,rfl,rfl,_,rfl,sB (λ c1=>?_) (λ c1=>qV (stay _ (Same.refl _)))⟩;refine ⟨_,rfl,_,rfl,r,_,_,_,rfl,rfl,SqL.of X3.top,e3q,aq,_,rfl,.inl (SqL.of e2q),_,_,rfl,rfl,_,rfl,sB (λ c2=>?_) (λ c2=>qV (stay _ (Same.refl _)))⟩;have N:=kMD G.toNb hp hq pq mp mq;refine ⟨_,rfl,_,rfl,_,rfl,r,L',p,q,rp,rq,rfl,.inl ⟨_,X3⟩,by omega,pq,hp,hq,mp,mq,λ D B H4 Y tB nD g4=>?_⟩;refine ⟨D,B,_,rfl,Y,N,(by rw [qQ];have:=G.three;omega),(by rw [qQ];omega),λ b H5 g5 hb=>⟨_,rfl,?_⟩⟩;have g45:=g4.trans g5;refine sB (λ c3=>?_) (λ c3=>stay _ g45);have X5:=X3.kept g45;refine ⟨_,rfl,_,rfl,_,rfl,r,L',p,q,rp,rq,rfl,.inl ⟨_,X5⟩,by omega,pq,hp,hq,mp,mq,λ D' B' H6 Y' tB' nD' g6=>?_⟩;have g46:=g45.trans g6;have p6:=p3.kept g46;obtain ⟨v4,w4,pot4,_⟩:=p3.kept g45;have G':Wb (jL L' p q (qB rp q) (qB rq p)):=⟨N,(by rw [qQ];exact G.three),λ x hx=>hb c3 x hx⟩
  have two:1<rp.length:=by
   have c1:=of_decide_eq_true c1;rw [length_map] at c1;omega
  have rst:=Fc.rest_set2 G.toNb hp hq pq mp mq N;have fl':=Fc.flat_rest G' rst hp two (by rw [qQ]) (Fc.rest_steps rst) fl;refine ⟨_,_,_,D',B',_,rfl,Y',G',fl',(by rw [qQ];exact hl),kL pot4 nD',(λ z=>by rw [tB' a z] at pot4;cases pot4),s03.trans (.of g46),p6⟩
 ·rintro σ H2 ⟨x3,x4,x5,r,A1,L',rfl,X,G,fl,hl,nar,naA,s2,p2⟩
  exact ⟨_,rfl,k r A1 L' H2 s2 p2 X G fl hl nar naA⟩
theorem kAB {f:Addr} {fd:FuncData} (F:Fun K "_law_web" "_law_web" wC f fd) (qH:Own.Has P w K mg base "_law_from_least" ["_law_row"] 1 (uN)) (z_len:mg "len" = none) (z_enumerate:mg "enumerate" = none) (z_tuple:mg "tuple" = none):FnOk P w K mg base CX0 2 f fd ["_law_rows","_law_names_here"] (kEW):=by
 refine F.ok sc_law_web (λ vs H Q E h=>?_) (λ cdv A outer s H vs Q E hr h=>?_)
 ·obtain ⟨r,l,A,L,ns,rfl,_⟩:=h
  rfl
 obtain ⟨r,l,A1,L,ns,rfl,X,hl,hp,S,rng,k⟩:=h
 refine ⟨_,(kD (kT (i:=2) sc_law_web.nd rfl (Or.inl rfl) (qM kKZ (yH (kA (yB kB) kB)) (kN kO rfl z_len PySem.boot_len (kA (pv 0) kB))))
   (kD (zJ PassesOwn.never rfl (oU true rfl z_enumerate (kA (pv 0) kB)) (xB rfl (kP (kJ (i:=3) sc_law_web.nd rfl (Or.inl rfl)) (kP (kJ (i:=4) sc_law_web.nd rfl (Or.inl rfl)) qW))) (kI (jZ (Own.pe_has qH (hr.mono (by decide)) rfl (kA (zZ (Nc:=["_law_q","_law_names_here"]) (js:=[none,some 1]) rfl rfl (xW (pv 4)) (CS.of rfl rfl) rfl (λ C s₂ H₂ fp pins=>(kJ (i:=0) (show List.Nodup (α:=Str) ["_law_q","_law_names_here"] by decide +kernel) rfl (Or.inl rfl))) (λ C s₂ H₂ fp pins D L=>(jV (xJ (kX (show IxR _ (kNF K) from kZ) (pv 1) (pv 0) (λ _ _=>rfl)))))) kB)) (aZ (pv 2) (kX kZ (pv 1) (pv 3) (λ _ _=>rfl)) wP))))
   (kI (kS (qI qR rfl z_tuple PyProof.Rows.boot_tuple (kA (pv 2) kB)))))),?_⟩
 have lns:ns.length=L.length:=by rw [hp.length_eq,length_range]
 have nsb:∀ {j:Nat} {n:Nat},ns[j]?=some n->n<L.length:=λ {j n} e=>mem_range.mp (hp.mem_iff.mp (mem_of_getElem? e));have nnd:ns.Nodup:=hp.nodup_iff.mpr List.nodup_range;have lA:((A1.map V.ref).length:Int)=L.length:=by rw [length_map,X.len]
 have L150:=S.le;refine ⟨yS0,λ e ne=>⟨yS1,λ l1 n1=>?_⟩⟩;have g1:=(kE ne (.tup [])).trans (kE n1 (.lst [.ref e]));have he:=(kE n1 (.lst [.ref e])) _ _ (kC (H:=H) (a:=e) (o:=.tup []));have hl1:=kC (H:=upd H e (.tup [])) (a:=l1) (o:=.lst [.ref e]);generalize upd (upd H e (.tup [])) l1 (.lst [.ref e])=H1 at *;refine ⟨_,rfl,r,_,rfl,.inl (SqL.of (g1 _ _ X.top)),l1,_,_,rfl,rfl,hl1,(by omega),(by omega),(by rw [lA];exact Nat.le_of_lt (qG (by simp;omega))),λ f nf=>?_⟩;rw [lA,Int.toNat_natCast,kFI];have gf:=kE nf (.lst ((List.replicate L.length e).map V.ref));have g2:=g1.trans gf;have he2:=gf _ _ he;have hf2:=kC (H:=H1) (a:=f) (o:=.lst ((List.replicate L.length e).map V.ref));generalize upd H1 f (.lst ((List.replicate L.length e).map V.ref))=H2 at *
 refine ⟨_,rfl,r,rfl,⟨_,SqL.of (g2 _ _ X.top)⟩,sJ (k:=true) (xs:=A1.map V.ref) (λ i σ H3=>∃ (x3 x4:Option V) (ts:List Addr) (W:Rows),σ=[some (.ref r),some (.ref l),some (.ref f),x3,x4]/\H3 f=some (.lst (ts.map V.ref))/\ts.length=L.length/\W.length=L.length /\
   (∀ (j:Nat) (a:Addr) (row:List Nat),ts[j]?=some a->W[j]?=some row->H3 a=some (.tup (row.map vn)))/\(∀ p,p<i->kCI L ns W p)/\Same H H3/\H f=none)
  ⟨none,none,List.replicate L.length e,List.replicate L.length [],rfl,hf2,List.length_replicate,List.length_replicate,(λ j a row e1 e2=>?_),(λ p hp'=>by omega),g2,g1.free nf⟩ ?_ ?_ ?_⟩
 ·have a1:=(List.mem_replicate.mp (mem_of_getElem? e1)).2
  have a2:=(List.mem_replicate.mp (mem_of_getElem? e2)).2;subst a1 a2;exact he2
 ·rintro i σ H3 _ ⟨x3,x4,ts,W,rfl,hf,lt,lW,hts,hW,g3,nf0⟩
  exact SqL.of (g3 _ _ X.top)
 ·rintro i x T σ H3 hx nT ⟨x3,x4,ts,W,rfl,hf,lt,lW,hts,hW,g3,nf0⟩
  rw [List.getElem?_map] at hx;obtain ⟨a,ea,rfl⟩:=Option.map_eq_some_iff.mp hx;have hi:i<L.length:=by rw [<-X.len];exact (List.getElem?_eq_some_iff.mp ea).1
  have hrow:=List.getElem?_eq_getElem hi;have har:=X.row i a _ ea hrow;obtain ⟨rne,rle⟩:=S.ne i _ hrow;have rb:=rng i _ hrow;have gT:=g3.trans (kE nT (.tup [.int i,.ref a]));have hfT:=(kE nT (.tup [.int i,.ref a])) _ _ hf;have htsT:∀ (j:Nat) (b:Addr) (row:List Nat),ts[j]?=some b->W[j]?=some row->upd H3 T (.tup [.int i,.ref a]) b=some (.tup (row.map vn)):=λ j b row w1 w2=>(kE nT (.tup [.int i,.ref a])) _ _ (hts j b row w1 w2);refine ⟨T,_,rfl,SqT.of kC,rfl,_,_,rfl,_,_,rfl,rfl,?_⟩;generalize upd H3 T (.tup [.int i,.ref a])=H4 at *
  generalize hr0:L[i]=row at *
  refine ⟨_,rfl,a,rfl,⟨_,SqL.of (gT _ _ har)⟩,λ D nD=>?_⟩;refine jN (xs:=row.map vn) (λ j σ H5=>∃ x:Option V,σ=[x,some (.ref l)]/\H5 D=some (.lst (((row.take j).map λ q=>ns.getD q 0).map vn))/\Same H4 H5) ⟨none,rfl,kC,kE nD _⟩ ?_ ?_ ?_
  ·rintro j σ H5 _ ⟨x,rfl,hD,g5⟩
   exact SqL.of (g5 _ _ (gT _ _ har))
  ·rintro j x σ H5 hx ⟨y,rfl,hD,g5⟩
   rw [List.getElem?_map] at hx;obtain ⟨q,eq,rfl⟩:=Option.map_eq_some_iff.mp hx;have hj:j<row.length:=(List.getElem?_eq_some_iff.mp eq).1;have hq:q<ns.length:=by rw [lns];exact rb q (mem_of_getElem? eq)
   refine ⟨_,rfl,_,rfl,l,_,_,_,rfl,rfl,SqL.of (g5 _ _ (gT _ _ hl)),mS hq,_,hD,(by rw [length_map,length_map,length_take];exact qG (by omega)),?_⟩;refine ⟨_,rfl,?_,qD nD g5⟩;rw [take_succ,eq];simp only [Option.toList_some,map_append,map_cons,map_nil];rw [show ns.getD q 0=ns[q] by simp [getD_eq_getElem?_getD,hq]];exact kC
  ·rintro σ H5 ⟨x,rfl,hD,g5⟩
   rw [length_map,take_length] at hD;generalize hc:(row.map λ q=>ns.getD q 0)=cl at *;have lcl:cl.length=row.length:=by rw [<-hc,length_map]
   have cpos:0<cl.length:=by rw [lcl];exact length_pos_iff.mpr rne
   refine ⟨D,cl,rfl,hD,length_pos_iff.mp cpos,by omega,λ m t H6 hm mle hh nt ht=>?_⟩;have g6:=gT.trans (g5.trans hh);have hf6:=hh _ _ (g5 _ _ hfT);have hin:i<ns.length:=by omega
   have hni:=List.getElem?_eq_getElem hin;have hnb:=nsb hni;refine ⟨_,rfl,_,rfl,_,rfl,l,_,_,_,rfl,rfl,SqL.of (g6 _ _ hl),mS hin,f,_,_,ns[i],rfl,rfl,hf6,cC (by rw [length_map,lt];exact hnb),?_⟩;refine ⟨_,_,ts.set ns[i] t,W.set ns[i] (rot cl m),rfl,(by rw [List.map_set];exact kC),(by rw [length_set];exact lt),(by rw [length_set];exact lW),(λ j b rw' e1 e2=>?_),(λ p hp'=>?_),qD nf0 g6,nf0⟩
   ·have bt:b≠f->upd H6 f (.lst ((ts.map V.ref).set ns[i] (.ref t))) b=H6 b:=λ z=>kK z
    by_cases ej:ns[i]=j
    ·subst ej
     rw [List.getElem?_set_self (by omega)] at e1;rw [List.getElem?_set_self (by omega)] at e2;cases e1
     cases e2
     rw [bt (yA ht hf6 (by intro z;cases z))];exact ht
    ·rw [List.getElem?_set_ne ej] at e1 e2
     have hb:=hh _ _ (g5 _ _ (htsT j b rw' e1 e2));rw [bt (yA hb hf6 (by intro z;cases z))];exact hb
   ·intro row' er'
    by_cases epi:p=i
    ·subst epi
     have e0:=hrow.symm.trans er';cases e0
     refine ⟨ns[p],m,hni,(by rw [hc];exact hm),(λ j hj=>mle j (by rw [hc] at hj;exact hj)),?_⟩;rw [hc,List.getElem?_set_self (by omega)]
    ·obtain ⟨n',M',w1,w2,w3,w4⟩:=hW p (by omega) row' er'
     refine ⟨n',M',w1,w2,w3,?_⟩
     have:ns[i]≠n':=λ z=>by
      have hpl:=(List.getElem?_eq_some_iff.mp w1).1;have:=(List.getElem?_inj hpl nnd).mp (w1.trans (by rw [<-z];exact hni.symm));exact epi this
     rw [List.getElem?_set_ne this];exact w4
 ·rintro σ H3 ⟨x3,x4,ts,W,rfl,hf,lt,lW,hts,hW,g3,nf0⟩
  rw [length_map,X.len] at hW;refine ⟨_,rfl,f,_,rfl,.inl ⟨SqL.of hf,λ t nt=>?_⟩⟩;have gt:=kE nt (.tup (ts.map V.ref));exact k t W _ (g3.trans gt) ⟨ts,kC,by omega,λ j b row w1 w2=>gt _ _ (hts j b row w1 w2)⟩ lW hW
theorem kDF {L W:Rows} {ns:List Nat} (hp:ns.Perm (List.range L.length)) (hl:W.length=L.length) (h:∀ p,p<L.length->kCI L ns W p):Ren L W ns:=⟨hp,hl,λ p row e=>by
 obtain ⟨n,M,h1,_,_,h4⟩:=h p (List.getElem?_eq_some_iff.mp e).1 row e;exact ⟨n,(row.map λ q=>ns.getD q 0).take ((row.map λ q=>ns.getD q 0).idxOf M),(row.map λ q=>ns.getD q 0).drop ((row.map λ q=>ns.getD q 0).idxOf M),h1,(take_append_drop _ _).symm,h4⟩⟩
theorem kDG {L W:Rows} {ns:List Nat} (hp:ns.Perm (List.range L.length)) (hl:W.length=L.length) (h:∀ p,p<L.length->kCI L ns W p) (x:Nat) (row:List Nat) (e:W[x]?=some row):Can row:=by
 have hx:=(List.getElem?_eq_some_iff.mp e).1;have hxn:x∈ns:=hp.mem_iff.mpr (mem_range.mpr (by omega));obtain ⟨p,hpl,ep⟩:=mem_iff_getElem.mp hxn;have lns:ns.length=L.length:=by rw [hp.length_eq,length_range]
 have hpL:p<L.length:=by omega
 obtain ⟨m,M,w1,w2,w3,w4⟩:=h p hpL _ (List.getElem?_eq_getElem hpL);rw [List.getElem?_eq_getElem hpl,ep] at w1;cases w1
 rw [e] at w4;cases w4
 exact aI w2 w3
theorem PairsAt.pot {H H':Hp} {a s:Addr} {T:List (Nat×Nat)} (h:PairsAt H s T) (n:s≠a) (g:SameBut a H H') (hp:PotAt H a):PairsAt H' s T:=by
 obtain ⟨ss,h1,h2,h3⟩:=h;exact ⟨ss,g _ _ n h1,h2,λ i b t e1 e2=>g _ _ (gY hp (h3 i b t e1 e2) (by simp)) (h3 i b t e1 e2)⟩
def yC (T:List (Nat×Nat)):PyData:=.list (T.map λ t=>prD t.1 t.2)
theorem nH (T:List (Nat×Nat)):PyData.canLayAll0 (T.map λ t=>prD t.1 t.2)=true/\PyData.depthAll (T.map λ t=>prD t.1 t.2)<=1:=by
 induction T with
 | nil=>exact ⟨rfl,by decide⟩
 | cons x l ih =>
  have h1:PyData.canLay0 (prD x.1 x.2)=true:=by simp [prD,PyData.canLay0,PyData.canLayAll0]
  have h2:PyData.depth (prD x.1 x.2)<=1:=by simp [prD,PyData.depth,PyData.depthAll]
  simp only [map_cons,PyData.canLayAll0,PyData.depthAll,h1,ih.1];have:=ih.2;refine ⟨rfl,?_⟩;omega
theorem kCZ (T:List (Nat×Nat)):SeqAt.shaped (yC T)=true:=by
 obtain ⟨h1,h2⟩:=nH T;unfold yC SeqAt.shaped;simp only [PyData.canLay0,PyData.depth,h1]
 first | (simp;omega) | (rw [Bool.and_eq_true];exact ⟨rfl,decide_eq_true (by omega)⟩) | simp_all
theorem tY (T:List (Nat×Nat)):PyData.eqv (yC T) (.list [])=decide (T=[]):=by
 cases T with
 | nil=>simp [yC,PyData.eqv,PyData.eqvAll]
 | cons x r=>simp [yC,PyData.eqv,PyData.eqvAll]
theorem PairsAt.dt {H:Hp} {s:Addr} {T:List (Nat×Nat)} (h:PairsAt H s T):Dt K H (yC T) (.ref s):=by
 obtain ⟨ss,h1,h2,h3⟩:=h;unfold yC Dt;exact ⟨s,_,rfl,SqL.of h1,mC h2 h3⟩
theorem kEV {α:Type} (T:List α) {i:Nat} (h:i<T.length):T=T.take i++T[i]::T.drop (i+1):=by
 rw [<-List.drop_eq_getElem_cons h,take_append_drop]
theorem lZ {α:Type} (T:List α) {i:Nat}:T.eraseIdx i=T.take i++T.drop (i+1):=List.eraseIdx_eq_take_drop_succ ..
theorem PairsAt.erase {H:Hp} {s:Addr} {ss:List Addr} {T:List (Nat×Nat)} {i:Nat} (h1:H s=some (.lst (ss.map V.ref))) (h2:ss.length=T.length) (h3:∀ (i:Nat) (b:Addr) (t:Nat×Nat),ss[i]?=some b->T[i]?=some t->H b=some (.tup [vn t.1,vn t.2])) :
  PairsAt (upd H s (.lst ((ss.map V.ref).eraseIdx i))) s (T.eraseIdx i):=by
 refine ⟨ss.eraseIdx i,by rw [kC,lZ,lZ,map_append,map_take,map_drop],by rw [List.length_eraseIdx,List.length_eraseIdx,h2],λ j b t e1 e2=>?_⟩;rw [List.getElem?_eraseIdx] at e1 e2
 have:H b=some (.tup [vn t.1,vn t.2]):=by
  split at e1
  ·rename_i c
   rw [if_pos c] at e2;exact h3 _ b t e1 e2
  ·rename_i c
   rw [if_neg c] at e2;exact h3 _ b t e1 e2
 rw [kK (yA this h1 (by simp))];exact this
theorem kKY {W W':Rows} (S:Nb W) (can:∀ (p:Nat) (row:List Nat),W[p]?=some row->Can row) {p q:Nat} {rp rq a b:List Nat} (hp:W[p]?=some rp) (hq:W[q]?=some rq) (pq:p≠q) (mq:q∈rp) (mp:p∈rq) (ha:Ro (rp.filter λ x=>x != q) a) (hb:Ro (rq.filter λ x=>x != p) b) (ca:Can a) (cb:Can b)
  (hl:W'.length=W.length) (h:∀ (j:Nat) (r r':List Nat),(jL W p q (qB rp q) (qB rq p))[j]?=some r->W'[j]?=some r'->Ro r r'/\Can r'):W'=jL W p q a b:=by
 have lp:p<W.length:=(List.getElem?_eq_some_iff.mp hp).1;have lq:q<W.length:=(List.getElem?_eq_some_iff.mp hq).1;have n1:=S.nd _ _ hp;have n2:=S.nd _ _ hq;refine List.ext_getElem? λ j=>?_;rw [jF lp lq pq];by_cases hj:j<W.length
 ·have ej:=List.getElem?_eq_getElem (show j<W'.length by omega)
  have h0:=h j;rw [jF lp lq pq] at h0;rw [ej];by_cases c1:j=q
  ·rw [if_pos c1] at h0 ⊢
   obtain ⟨r1,r2⟩:=h0 _ _ rfl ej;rw [xC n2 mp] at r1
   congr 1
   exact (r1.symm.trans hb).eq (r1.nd.mp (n2.filter _)) r2 cb
  ·rw [if_neg c1] at h0 ⊢
   by_cases c2:j=p
   ·rw [if_pos c2] at h0 ⊢
    obtain ⟨r1,r2⟩:=h0 _ _ rfl ej;rw [xC n1 mq] at r1
    congr 1
    exact (r1.symm.trans ha).eq (r1.nd.mp (n1.filter _)) r2 ca
   ·rw [if_neg c2] at h0 ⊢
    have e1:=List.getElem?_eq_getElem hj;obtain ⟨r1,r2⟩:=h0 _ _ e1 ej;rw [e1]
    congr 1
    exact (r1.eq (S.nd _ _ e1) (can _ _ e1) r2).symm
 ·rw [List.getElem?_eq_none (by omega),if_neg (by omega),if_neg (by omega),List.getElem?_eq_none (by omega)]
theorem kMC {W:Rows} (S:Nb W) (l30:W.length<=42) (ne:∀ (p:Nat) (row:List Nat),W[p]?=some row->row≠[]) {p q:Nat} {rp rq:List Nat} (hp:W[p]?=some rp) (hq:W[q]?=some rq) (pq:p≠q) (mq:q∈rp) (mp:p∈rq) (n1:(rp.filter λ x=>x != q)≠[]) (n2:(rq.filter λ x=>x != p)≠[]) (j:Nat) (r:List Nat) (e:(jL W p q (qB rp q) (qB rq p))[j]?=some r):r≠[]/\r.length<=1000:=by
 have lp:p<W.length:=(List.getElem?_eq_some_iff.mp hp).1;have lq:q<W.length:=(List.getElem?_eq_some_iff.mp hq).1;have s1:=S.len hp;have s2:=S.len hq;have k1:=cK mq;have k2:=cK mp;rw [jF lp lq pq] at e
 split at e
 ·cases e
  exact ⟨by rw [xC (S.nd _ _ hq) mp];exact n2,by omega⟩
 ·split at e
  ·cases e
   exact ⟨by rw [xC (S.nd _ _ hp) mq];exact n1,by omega⟩
  ·exact ⟨ne _ _ e,by have:=S.len e;omega⟩
theorem kIA {W0 W:Rows} {X Y:List (Nat×Nat)} {p q:Nat} (W0b:Wb W0) (h:Plus W0 W (X++(p,q)::Y)) {rp rq a b:List Nat} (hp:W[p]?=some rp) (hq:W[q]?=some rq) (ha:Ro (rp.filter λ x=>x != q) a) (hb:Ro (rq.filter λ x=>x != p) b):Wb (jL W p q a b):=by
 have S:=h.wb.toNb;obtain ⟨lt,_⟩:=h.tie (p,q) (by simp);have pq:p≠q:=by simp at lt;omega
 have kpq:key p q=(p,q):=by simp at lt;simp [key];omega
 have ia:=aK ha;have ib:=aK hb;have ee:=oN (c:=False) S hp hq pq ia ib;have nb:=bQ (c:=False) S hp hq pq ia ib (ha.nd.mp ((S.nd _ _ hp).filter _)) (hb.nd.mp ((S.nd _ _ hq).filter _));refine ⟨nb,by rw [qQ];exact h.wb.three,λ x hx=>?_⟩;rw [qQ,h.len] at hx;refine (W0b.con x hx).sub λ x y z=>?_;obtain ⟨z1,z2⟩:=h.e0 z;refine (ee x y).mpr (.inl ⟨z1,λ ⟨w1,w2⟩=>z2 ?_,λ ⟨w1,w2⟩=>z2 ?_⟩)
 ·rw [w1,w2,kpq];simp
 ·rw [w1,w2,cB,kpq];simp
def kBF (K:PySem.W.Frag):Sp:=λ vs H Q _=>∃ (a:Addr) (ns:List Int),vs=[.ref a]/\SqL K H a (ns.map V.int)/\ns.length<=63/\∀ H',Q (.bl true) H'
def prZ (t:Nat×Nat):List Int:=[(t.1:Int),(t.2:Int)]
theorem tN {H:Hp} {s:Addr} {T:List (Nat×Nat)} (h:PairsAt H s T):∃ ps:List (Addr×List Int),H s=some (.lst (ps.map λ q=>V.ref q.1))/\kML H ps /\
  ∀ (l:Addr) (ps':List (Addr×List Int)),H l=none->ps'.Perm ps->ps'.Pairwise (λ a b=>Srt.lexLt b.2 a.2=false)->PairsAt (upd H l (.lst (ps'.map λ q=>V.ref q.1))) l (Fc.sortP T):=by
 obtain ⟨ss,h1,h2,h3⟩:=h
 have e1:(ss.zip (T.map prZ)).map (λ q=>V.ref q.1)=ss.map V.ref:=by
  rw [show (λ q:Addr×List Int=>V.ref q.1)=V.ref∘Prod.fst from rfl,<-map_map,List.map_fst_zip (by rw [length_map];omega)]
 have mem:∀ q∈ss.zip (T.map prZ),∃ t:Nat×Nat,q.2=prZ t/\H q.1=some (.tup [vn t.1,vn t.2]):=λ q hq=>by
  obtain ⟨i,hi,rfl⟩:=mem_iff_getElem.mp hq;rw [List.length_zip,length_map] at hi;refine ⟨T[i]'(by omega),by simp,?_⟩;have:=h3 i (ss[i]'(by omega)) (T[i]'(by omega)) (List.getElem?_eq_getElem _) (List.getElem?_eq_getElem _);simpa using this
 refine ⟨ss.zip (T.map prZ),by rw [e1];exact h1,λ q hq=>?_,λ l ps' nl pm sr=>?_⟩
 ·obtain ⟨t,e,ht⟩:=mem q hq
  rw [e];exact ⟨ht,by simp [prZ]⟩
 ·have back:∃ T':List (Nat×Nat),ps'.map (·.2)=T'.map prZ/\T'.Perm T:=by
   have pz:(ps'.map (·.2)).Perm (T.map prZ):=by
    have:=pm.map (λ q:Addr×List Int=>q.2);rwa [List.map_snd_zip (by rw [length_map];omega)] at this
   obtain ⟨m,a,b⟩:=Srt.perm_back pz rfl;exact ⟨m,b,a⟩
  obtain ⟨T',eT,pT⟩:=back
  have srt:T'.Pairwise (λ a b=>Fc.leP a b=true):=by
   have a1:(ps'.map (·.2)).Pairwise (λ a b=>Srt.lexLt b a=false):=pairwise_map.mpr sr;rw [eT] at a1;refine (pairwise_map.mp a1).imp λ {a b} hh=>?_;rw [<-Fc.leP_leL,Fc.leL_iff];exact hh
  have eq:=Fc.sortP_is pT srt
  have ln:ps'.length=T'.length:=by
   have:=congrArg List.length eT;simpa using this
  refine ⟨ps'.map (·.1),by rw [map_map];exact kC,by rw [<-eq,length_map,ln],λ i b t e1 e2=>?_⟩;rw [<-eq] at e2;have hi:=(List.getElem?_eq_some_iff.mp e2).1;have hi':i<ps'.length:=by omega
  rw [List.getElem?_map,List.getElem?_eq_getElem hi'] at e1;have e1:ps'[i].1=b:=Option.some.inj e1
  have e3:ps'[i].2=prZ t:=by
   have:=congrArg (λ l=>l[i]?) eT;rw [List.getElem?_map,List.getElem?_map,e2,List.getElem?_eq_getElem hi'] at this;exact Option.some.inj this
  obtain ⟨t',e4,ht⟩:=mem ps'[i] (pm.mem_iff.mp (getElem_mem hi'))
  have tt:t'=t:=by
   rw [e4] at e3;unfold prZ at e3;injection e3 with z1 z2
   injection z2 with z2 _
   exact Prod.ext (by omega) (by omega)
  rw [<-e1,kK (kL ht nl),ht,tt]
def fN:Sp:=λ vs H Q _=>∃ (t:Addr) (W:Rows),vs=[.ref t]/\WebAt H t W/\Nb W/\W.length<=42 /\
 ∀ (s:Addr) (H':Hp),Same H H'->H s=none->PairsAt H' s (Fc.stepsS W)->Q (.ref s) H'
theorem tF (W:Rows) (i:Nat) (hi:i<W.length):kH (W.take (i+1))=kH (W.take i)++(W[i].map λ q=>(i,q)):=by
 unfold kH;rw [length_take,length_take,Nat.min_eq_left (by omega),Nat.min_eq_left (by omega),range_succ,List.flatMap_append]
 congr 1
 ·rw [List.flatMap_def,List.flatMap_def]
  congr 1
  refine List.map_congr_left λ p hp=>?_;have:=mem_range.mp hp;simp only [getD_eq_getElem?_getD];rw [List.getElem?_take_of_lt (by omega),List.getElem?_take_of_lt (by omega)]
 ·rw [List.flatMap_singleton]
  simp only [getD_eq_getElem?_getD];rw [List.getElem?_take_of_lt (by omega),List.getElem?_eq_getElem hi]
  rfl
theorem Nb.take_len {W:Rows} (S:Nb W) (h:W.length<=42) (i:Nat):(kH (W.take i)).length<=1764:=by
 have a:=yD S h
 have:(kH (W.take i)).length<=(kH W).length:=by
  rw [qZ,qZ]
  conv=>rhs;rw [<-take_append_drop i W]
  rw [map_append,List.sum_append];omega
 omega
theorem rO {f:Addr} {fd:FuncData} (F:Fun K "steps_of" "steps_of" zD f fd) (z_sorted:mg "sorted" = none) (z_enumerate:mg "enumerate" = none):FnOk P w K mg base CX0 1 f fd ["web"] (fN):=by
 refine F.ok rK (λ vs H Q E h=>?_) (λ cdv A outer s0 H vs Q E hr h=>?_)
 ·obtain ⟨t,W,rfl,_⟩:=h
  rfl
 obtain ⟨t,W,rfl,hW,S,h42,k⟩:=h;refine ⟨_,(kI (kS (kN mF rfl z_sorted PyProof.Rows.boot_sorted (kA (kIB (Nc:=["p","row","q"]) (js:=[none,none,none]) rfl rfl (oU false rfl z_enumerate (kA (pv 0) kB)) (CS.of rfl rfl) rfl (λ C s₂ H₂ fp pins=>(show PG _ _ (kGN K 2 _) from xB rfl (kP (kJ (i:=0) (show List.Nodup (α:=Str) ["p","row","q"] by decide +kernel) rfl (Or.inl rfl)) (kP (kJ (i:=1) (show List.Nodup (α:=Str) ["p","row","q"] by decide +kernel) rfl (Or.inl rfl)) qW)))) (λ C s₂ H₂ fp pins=>(show PI _ _ _ (kNP K _) from (wS (pv 1)))) (λ C s₂ H₂ fp pins=>(kJ (i:=2) (show List.Nodup (α:=Str) ["p","row","q"] by decide +kernel) rfl (Or.inl rfl))) (λ C s₂ H₂ fp pins D L=>(jV (xJ (yB (kA (pv 0) (kA (pv 2) kB))))))) kB)))),?_⟩;obtain ⟨ts,h1,lts,h3⟩:=id hW;refine ⟨_,rfl,t,rfl,⟨_,SqT.of h1⟩,λ D nD=>?_⟩
 refine kCK (k:=false) (xs:=ts.map V.ref) (λ i σ H2=>∃ (x0 x1 x2:Option V),σ=[x0,x1,x2]/\Same H H2/\PairsAt H2 D (kH (W.take i)))
  ⟨none,none,none,rfl,kE nD _,⟨[],kC,rfl,λ i b t e=>by simp at e⟩⟩ ?_ ?_ ?_
 ·rintro i σ H2 _ ⟨x0,x1,x2,rfl,g2,_⟩
  exact SqT.of (g2 _ _ h1)
 ·rintro i x T σ H2 hx nT ⟨x0,x1,x2,rfl,g2,pr⟩
  rw [List.getElem?_map] at hx;obtain ⟨a,ea,rfl⟩:=Option.map_eq_some_iff.mp hx;have hi:i<W.length:=by rw [<-lts];exact (List.getElem?_eq_some_iff.mp ea).1
  have har:=h3 i a _ ea (List.getElem?_eq_getElem hi);have rl:=S.len (List.getElem?_eq_getElem hi);have gT:=kE nT (.tup [.int i,.ref a]);refine ⟨T,_,rfl,SqT.of kC,rfl,_,_,rfl,_,_,rfl,rfl,?_⟩;have g3:=g2.trans gT;have pr3:=pr.kept gT;generalize upd H2 T (.tup [.int i,.ref a])=H3 at *;refine ⟨_,rfl,a,rfl,⟨_,SqT.of (g3 _ _ har)⟩,?_⟩;refine wM (xs:=W[i].map vn) (λ j σ H4=>∃ (x2:Option V),σ=[some (vn i),some (.ref a),x2]/\Same H H4/\PairsAt H4 D (kH (W.take i)++((W[i].take j).map λ q=>(i,q)))) ⟨x2,rfl,g3,by simpa using pr3⟩ ?_ ?_ ?_
  ·rintro j σ H4 _ ⟨x2,rfl,g4,_⟩
   exact SqT.of (g4 _ _ har)
  ·rintro j v σ H4 hv ⟨x2,rfl,g4,pr4⟩
   rw [List.getElem?_map] at hv;obtain ⟨q,eq',rfl⟩:=Option.map_eq_some_iff.mp hv;have hj:=(List.getElem?_eq_some_iff.mp eq').1;refine ⟨_,rfl,_,rfl,yS2,λ b nb=>?_⟩;have gb:=kE nb (.tup [vn i,vn q]);have hb:=kC (H:=H4) (a:=b) (o:=.tup [vn i,vn q]);have pr5:=pr4.kept gb;have g5:=g4.trans gb;refine (λ (z:upd H4 b (.tup [vn i,vn q]) b=some (.tup [vn i,vn q]))=>?_) hb;generalize upd H4 b (.tup [vn i,vn q])=H5 at *;obtain ⟨ss,c1,c2,c3⟩:=id pr5;have l1:=Nb.take_len S h42 i
   have l2:ss.length<=1764+42:=by
    rw [c2,length_append,length_map,length_take];omega
   refine ⟨_,c1,(by rw [length_map];exact jR (by omega)),?_⟩;have A1:=PairsAt.app (H':=H5) c1 c2 c3 (t:=(i,q)) z;refine ⟨_,rfl,qD nD g5,?_⟩;have tk:(W[i].take (j+1)).map (λ q=>(i,q))=(W[i].take j).map (λ q=>(i,q))++[(i,q)]:=by rw [take_succ,eq',map_append];rfl
   rw [tk,<-append_assoc];exact A1
  ·rintro σ H4 ⟨x2,rfl,g4,pr4⟩
   rw [length_map,take_length] at pr4;exact ⟨_,_,_,rfl,g4,by rw [tF W i hi];exact pr4⟩
 ·rintro σ H2 ⟨x0,x1,x2,rfl,g2,pr⟩
  rw [length_map,lts,take_length] at pr;obtain ⟨ps,e1,e2,e3⟩:=tN pr;refine ⟨D,ps,rfl,.inl (SqL.of e1),e2,λ l ps' nl pm sr=>?_⟩;exact k l _ (g2.trans (kE nl _)) (g2.free nl) (e3 l ps' nl pm sr)
def RowsT (H:Hp) (s:Addr) (T:List (List Nat)):Prop:=∃ ss:List Addr,H s=some (.lst (ss.map V.ref))/\ss.length=T.length/\∀ (i:Nat) (b:Addr) (t:List Nat),ss[i]?=some b->T[i]?=some t->H b=some (.tup (t.map vn))
theorem RowsT.app {H:Hp} {s b:Addr} {ss:List Addr} {T:List (List Nat)} {t:List Nat} (h1:H s=some (.lst (ss.map V.ref))) (h2:ss.length=T.length) (h3:∀ (i:Nat) (b:Addr) (t:List Nat),ss[i]?=some b->T[i]?=some t->H b=some (.tup (t.map vn))) (hb:H b=some (.tup (t.map vn))) :
  RowsT (upd H s (.lst (ss.map V.ref++[.ref b]))) s (T++[t]):=by
 refine ⟨ss++[b],by rw [map_append];exact kC,by simp [h2],λ i c u e1 e2=>?_⟩;have cs:c≠s->upd H s (.lst (ss.map V.ref++[.ref b])) c=H c:=λ z=>kK z;rcases Nat.lt_or_ge i ss.length with hl | hl
 ·rw [List.getElem?_append_left hl] at e1
  rw [List.getElem?_append_left (by omega)] at e2;have:=h3 i c u e1 e2;rw [cs (yA this h1 (by simp))];exact this
 ·obtain rfl:i=ss.length:=by
   have:=(List.getElem?_eq_some_iff.mp e1).1;simp at this;omega
  rw [List.getElem?_concat_length] at e1;rw [h2,List.getElem?_concat_length] at e2;cases e1
  cases e2
  rw [cs (yA hb h1 (by simp))];exact hb
theorem kCQ {H:Hp} {s:Addr} {T:List (List Nat)} (h:RowsT H s T) (hne:∀ t∈T,t≠[]):∃ ps:List (Addr×List Int),H s=some (.lst (ps.map λ q=>V.ref q.1))/\kML H ps /\
  ∀ (l:Addr) (ps':List (Addr×List Int)),H l=none->ps'.Perm ps->ps'.Pairwise (λ a b=>Srt.lexLt b.2 a.2=false)->RowsT (upd H l (.lst (ps'.map λ q=>V.ref q.1))) l (Fc.sortL T):=by
 obtain ⟨ss,h1,h2,h3⟩:=h
 have e1:(ss.zip (T.map Fc.zl)).map (λ q=>V.ref q.1)=ss.map V.ref:=by
  rw [show (λ q:Addr×List Int=>V.ref q.1)=V.ref∘Prod.fst from rfl,<-map_map,List.map_fst_zip (by rw [length_map];omega)]
 have vz:∀ t:List Nat,(Fc.zl t).map V.int=t.map vn:=λ t=>by unfold Fc.zl;rw [map_map];rfl
 have mem:∀ q∈ss.zip (T.map Fc.zl),∃ t:List Nat,t∈T/\q.2=Fc.zl t/\H q.1=some (.tup (t.map vn)):=λ q hq=>by
  obtain ⟨i,hi,rfl⟩:=mem_iff_getElem.mp hq;rw [List.length_zip,length_map] at hi;refine ⟨T[i]'(by omega),getElem_mem _,by simp,?_⟩;have:=h3 i (ss[i]'(by omega)) (T[i]'(by omega)) (List.getElem?_eq_getElem _) (List.getElem?_eq_getElem _);simpa using this
 refine ⟨ss.zip (T.map Fc.zl),by rw [e1];exact h1,λ q hq=>?_,λ l ps' nl pm sr=>?_⟩
 ·obtain ⟨t,m,e,ht⟩:=mem q hq
  rw [e,vz];refine ⟨ht,λ z=>hne t m ?_⟩;unfold Fc.zl at z;exact List.map_eq_nil_iff.mp z
 ·have back:∃ T':List (List Nat),ps'.map (·.2)=T'.map Fc.zl/\T'.Perm T:=by
   have pz:(ps'.map (·.2)).Perm (T.map Fc.zl):=by
    have:=pm.map (λ q:Addr×List Int=>q.2);rwa [List.map_snd_zip (by rw [length_map];omega)] at this
   obtain ⟨m,a,b⟩:=Srt.perm_back pz rfl;exact ⟨m,b,a⟩
  obtain ⟨T',eT,pT⟩:=back
  have srt:T'.Pairwise (λ a b=>Fc.leL a b=true):=by
   have a1:(ps'.map (·.2)).Pairwise (λ a b=>Srt.lexLt b a=false):=pairwise_map.mpr sr;rw [eT] at a1;refine (pairwise_map.mp a1).imp λ {a b} hh=>?_;rw [Fc.leL_iff];exact hh
  have eq:=Fc.sortL_is pT srt
  have ln:ps'.length=T'.length:=by
   have:=congrArg List.length eT;simpa using this
  refine ⟨ps'.map (·.1),by rw [map_map];exact kC,by rw [<-eq,length_map,ln],λ i b t e1 e2=>?_⟩;rw [<-eq] at e2;have hi:=(List.getElem?_eq_some_iff.mp e2).1;have hi':i<ps'.length:=by omega
  rw [List.getElem?_map,List.getElem?_eq_getElem hi'] at e1;have e1:ps'[i].1=b:=Option.some.inj e1
  have e3:ps'[i].2=Fc.zl t:=by
   have:=congrArg (λ l=>l[i]?) eT;rw [List.getElem?_map,List.getElem?_map,e2,List.getElem?_eq_getElem hi'] at this;exact Option.some.inj this
  obtain ⟨t',m,e4,ht⟩:=mem ps'[i] (pm.mem_iff.mp (getElem_mem hi'))
  have tt:t'=t:=by
   rw [e4] at e3;exact Fc.zl_inj e3
  rw [<-e1,kK (kL ht nl),ht,tt]
def oG:Sp:=λ vs H Q _=>∃ (t:Addr) (W:Rows),vs=[.ref t]/\WebAt H t W/\Nb W/\W.length<=42 /\
 ∀ (s:Addr) (H':Hp),Same H H'->H s=none->PairsAt H' s (Fc.tiesS W)->Q (.ref s) H'
theorem gF {W:Rows} (S:Nb W) (h:W.length<=42):(Fc.stepsS W).length<=1764:=by
 have:=yD S h;rw [show (Fc.stepsS W).length=(kH W).length from (Fc.sortP_perm _).length_eq];exact this
theorem kII {f:Addr} {fd:FuncData} (F:Fun K "ties" "ties" cZ f fd) (zL:Own.Has P w K mg base "steps_of" ["web"] 1 (fN)):FnOk P w K mg base CX0 2 f fd ["web"] (oG):=by
 refine F.ok kHQ (λ vs H Q E h=>?_) (λ cdv A outer s0 H vs Q E hr h=>?_)
 ·obtain ⟨t,W,rfl,_⟩:=h
  rfl
 obtain ⟨t,W,rfl,hW,S,h42,k⟩:=h;refine ⟨_,(kI (kS (zZ (Nc:=["p","q"]) (js:=[none,none]) rfl rfl (xW (Own.pe_has zL (hr.mono (by decide)) rfl (kA (pv 0) kB))) (CS.of rfl rfl) rfl (λ C s₂ H₂ fp pins=>(show PG _ _ (kGN K 2 _) from xB rfl (kP (kJ (i:=0) (show List.Nodup (α:=Str) ["p","q"] by decide +kernel) rfl (Or.inl rfl)) (kP (kJ (i:=1) (show List.Nodup (α:=Str) ["p","q"] by decide +kernel) rfl (Or.inl rfl)) qW)))) (λ C s₂ H₂ fp pins D L=>(wR (kY rM (pv 0) (pv 1) (qO _)) (xJ (yB (kA (pv 0) (kA (pv 1) kB))))))))),?_⟩;have l1:=gF S h42;refine ⟨_,rfl,t,W,rfl,hW,S,h42,λ s H1 g1 ns pr=>?_⟩;obtain ⟨ss,h1,h2,h3⟩:=id pr;refine ⟨s,rfl,⟨_,SqL.of h1⟩,λ D nD=>?_⟩
 refine jN (xs:=ss.map V.ref) (λ i σ H2=>∃ (x0 x1:Option V),σ=[x0,x1]/\Same H1 H2/\PairsAt H2 D (((Fc.stepsS W).take i).filter λ t=>decide (t.1<t.2)))
  ⟨none,none,rfl,kE nD _,⟨[],kC,rfl,λ i b t e=>by simp at e⟩⟩ ?_ ?_ ?_
 ·rintro i σ H2 _ ⟨x0,x1,rfl,g2,_⟩
  exact SqL.of (g2 _ _ h1)
 ·rintro i x σ H2 hx ⟨x0,x1,rfl,g2,pr2⟩
  rw [List.getElem?_map] at hx;obtain ⟨b,eb,rfl⟩:=Option.map_eq_some_iff.mp hx;have hi:i<(Fc.stepsS W).length:=by rw [<-h2];exact (List.getElem?_eq_some_iff.mp eb).1
  have et:=List.getElem?_eq_getElem hi;have hb:=h3 i b _ eb et;have tk:(Fc.stepsS W).take (i+1)=(Fc.stepsS W).take i++[(Fc.stepsS W)[i]]:=by rw [take_succ,et];rfl
  generalize (Fc.stepsS W)[i]=t at *;refine ⟨b,_,rfl,SqT.of (g2 _ _ hb),rfl,_,_,rfl,_,_,rfl,rfl,?_⟩;refine ⟨_,rfl,_,rfl,_,_,rfl,rfl,_,rfl,?_⟩;rw [tk];refine sB (λ z=>?_) (λ z=>?_)
  ·have z:=of_decide_eq_true z
   refine ⟨_,rfl,_,rfl,yS2,λ c nc=>?_⟩;have gc:=kE nc (.tup [vn t.1,vn t.2]);have hc:=kC (H:=H2) (a:=c) (o:=.tup [vn t.1,vn t.2]);have pr3:=pr2.kept gc;have g3:=g2.trans gc;refine (λ (y:upd H2 c (.tup [vn t.1,vn t.2]) c=some (.tup [vn t.1,vn t.2]))=>?_) hc;generalize upd H2 c (.tup [vn t.1,vn t.2])=H3 at *;obtain ⟨cs,c1,c2,c3⟩:=id pr3
   have lc:cs.length<=1764:=by
    rw [c2];have:=length_filter_le (λ t:Nat×Nat=>decide (t.1<t.2)) ((Fc.stepsS W).take i);rw [length_take] at this;omega
   refine ⟨_,c1,(by rw [length_map];exact jR (by omega)),?_⟩;refine ⟨_,_,rfl,qD nD g3,?_⟩;rw [filter_append,filter_cons,if_pos (by exact decide_eq_true (by omega))];exact PairsAt.app (H':=H3) c1 c2 c3 y
  ·have z:¬ (t.1:Int)<(t.2:Int):=λ q=>z (decide_eq_true q)
   refine ⟨_,_,rfl,g2,?_⟩;rw [filter_append,filter_cons,if_neg (by intro q;have:=of_decide_eq_true q;omega)];simpa using pr2
 ·rintro σ H2 ⟨x0,x1,rfl,g2,pr2⟩
  rw [length_map,h2,take_length] at pr2;exact k D H2 (g1.trans g2) (g1.free nD) pr2
def pk (t:Nat×Nat):List Key:=[Sum.inl (t.1:Int),Sum.inl (t.2:Int)]
theorem kKQ {a b:Nat×Nat} (h:pk a=pk b):a=b:=by
 unfold pk at h;injection h with h1 h2
 injection h2 with h2 _
 have:=Sum.inl.inj h1;have:=Sum.inl.inj h2;exact Prod.ext (by omega) (by omega)
def SeenAt (H:Hp) (d:Addr) (X:List (Nat×Nat)):Prop:=∃ kvs:List (List Key×V),H d=some (.dT kvs)/\(∀ t:Nat×Nat,(xR kvs (pk t)).isSome=decide (t∈X))/\kvs.length<=X.length/\∀ y∈kvs,∃ t∈X,y.1=pk t
theorem SeenAt.kept {H H':Hp} {d:Addr} {X:List (Nat×Nat)} (h:SeenAt H d X) (g:Same H H'):SeenAt H' d X:=by
 obtain ⟨kvs,a,b⟩:=h;exact ⟨kvs,g _ _ a,b⟩
theorem gO {H:Hp} {d:Addr}:SeenAt (upd H d (.dT [])) d []:=⟨[],kC,λ t=>by simp [xR],Nat.le_refl _,λ y hy=>nomatch hy⟩
theorem rY {kvs:List (List Key×V)} {k:List Key} {v:V} {y:List Key×V} (h:y∈zS kvs k v):y.1=k\/∃ z∈kvs,z.1=y.1:=by
 unfold zS at h
 split at h
 ·obtain ⟨z,hz,rfl⟩:=mem_map.mp h
  split
  ·exact .inr ⟨z,hz,rfl⟩
  ·exact .inr ⟨z,hz,rfl⟩
 ·rcases mem_append.mp h with z | z
  ·exact .inr ⟨y,z,rfl⟩
  ·exact .inl (by rw [mem_singleton.mp z])
theorem mZ {kvs:List (List Key×V)} {X:List (Nat×Nat)} {t:Nat×Nat} {v:V} (h1:∀ t:Nat×Nat,(xR kvs (pk t)).isSome=decide (t∈X)) (h2:kvs.length<=X.length) (h3:∀ y∈kvs,∃ t∈X,y.1=pk t) :
  (∀ u:Nat×Nat,(xR (zS kvs (pk t) v) (pk u)).isSome=decide (u∈X++[t]))/\(zS kvs (pk t) v).length<=(X++[t]).length/\∀ y∈zS kvs (pk t) v,∃ u∈X++[t],y.1=pk u:=by
 refine ⟨λ u=>?_,?_,λ y hy=>?_⟩
 ·rw [rE]
  by_cases e:pk u=pk t
  ·rw [if_pos e,kKQ e]
   simp
  ·rw [if_neg e,h1 u]
   have:u≠t:=λ z=>e (by rw [z]);simp [this]
 ·have:=yU kvs (pk t) v
  rw [length_append,length_singleton];omega
 ·rcases rY hy with e | ⟨z,hz,e⟩
  ·exact ⟨t,by simp,e⟩
  ·obtain ⟨u,hu,eu⟩:=h3 z hz
   exact ⟨u,mem_append_left _ hu,by rw [<-e,eu]⟩
theorem nR:∀ (more kvs:List (List Key×V)) (k:List Key),(xR (zB kvs more) k).isSome=((xR kvs k).isSome || (xR more k).isSome)
 | [],kvs,k=>by simp [zB,xR]
 | m::more,kvs,k=>by
  have:=nR more (zS kvs m.1 m.2) k;unfold zB at this ⊢;rw [foldl_cons,this,rE];by_cases e:m.1=k
  ·rw [if_pos e.symm,jP e]
   simp
  ·rw [if_neg (λ z=>e z.symm),jQ e]
theorem nS:∀ (more kvs:List (List Key×V)),(zB kvs more).length<=kvs.length+more.length
 | [],kvs=>Nat.le_refl _
 | m::more,kvs=>by
  have:=nS more (zS kvs m.1 m.2);have:=yU kvs m.1 m.2;unfold zB at *;rw [foldl_cons,length_cons];omega
theorem lU:∀ (more kvs:List (List Key×V)) (y:List Key×V),y∈zB kvs more->(∃ z∈kvs,z.1=y.1)\/∃ z∈more,z.1=y.1
 | [],kvs,y,h=>.inl ⟨y,h,rfl⟩
 | m::more,kvs,y,h=>by
  have h:y∈zB (zS kvs m.1 m.2) more:=h;rcases lU more _ y h with ⟨z,hz,e⟩ | ⟨z,hz,e⟩
  ·rcases rY hz with e2 | ⟨z2,hz2,e2⟩
   ·exact .inr ⟨m,mem_cons_self ..,by rw [<-e,e2]⟩
   ·exact .inl ⟨z2,hz2,by rw [e2,e]⟩
  ·exact .inr ⟨z,mem_cons_of_mem _ hz,e⟩
theorem SeenAt.upd {H:Hp} {d:Addr} {X Y:List (Nat×Nat)} {kvs more:List (List Key×V)} (h1:∀ t:Nat×Nat,(xR kvs (pk t)).isSome=decide (t∈X)) (h2:kvs.length<=X.length) (h3:∀ y∈kvs,∃ t∈X,y.1=pk t)
  (m1:∀ t:Nat×Nat,(xR more (pk t)).isSome=decide (t∈Y)) (m2:more.length<=Y.length) (m3:∀ y∈more,∃ t∈Y,y.1=pk t):SeenAt (L2.upd H d (.dT (zB kvs more))) d (X++Y):=by
 refine ⟨_,kC,λ t=>?_,?_,λ y hy=>?_⟩
 ·rw [nR,h1,m1,Bool.eq_iff_iff,Bool.or_eq_true,decide_eq_true_iff,decide_eq_true_iff,decide_eq_true_iff,mem_append]
 ·have:=nS more kvs
  rw [length_append];omega
 ·rcases lU more kvs y hy with ⟨z,hz,e⟩ | ⟨z,hz,e⟩
  ·obtain ⟨u,hu,eu⟩:=h3 z hz
   exact ⟨u,mem_append_left _ hu,by rw [<-e,eu]⟩
  ·obtain ⟨u,hu,eu⟩:=m3 z hz
   exact ⟨u,mem_append_right _ hu,by rw [<-e,eu]⟩
theorem mV {W:Rows} {p q k:Nat} (T:Turns W p q k):Fc.per W (p,q)=k:=Fc.per_is T.pos T.back T.first
theorem kCM {W:Rows} {p q k:Nat} (T:Turns W p q k):orb W p q k=Fc.rnd W (p,q):=by
 unfold orb Fc.rnd;rw [mV T]
def fQ:Sp:=λ vs H Q _=>∃ (t:Addr) (W:Rows),vs=[.ref t]/\WebAt H t W/\Nb W/\W.length<=42 /\
 ∀ (s:Addr) (H':Hp),Same H H'->H s=none->RowsT H' s (Fc.facesS W)->Q (.ref s) H'
theorem kKM {W:Rows} (S:Nb W) {t:Nat×Nat} (h:t∈kH W):(Fc.rnd W t).map (·.1)≠[]:=λ z=>by
 have:=Fc.rnd_self S h;rw [List.map_eq_nil_iff.mp z] at this;cases this
theorem sL {W:Rows} (S:Nb W) {T:List (Nat×Nat)} (hT:∀ t∈T,t∈kH W):∀ f∈(Fc.fgo W T).1,f≠[]:=λ f hf=>by
 obtain ⟨R,r1,r2,_⟩:=(Fc.fgo_ok S T hT).reps;rw [r2] at hf;obtain ⟨r,hr,rfl⟩:=mem_map.mp hf;exact kKM S (hT r (r1 r hr))
theorem vW {W:Rows}:∀ t∈Fc.stepsS W,t∈kH W:=λ t h=>(Fc.sortP_perm _).mem_iff.mp h
theorem kHO {W:Rows} (S:Nb W) (h:W.length<=42) {t:Nat×Nat} (ht:t∈kH W):t.1<42/\t.2<42:=by
 have:=S.e (mem_steps.mp (show (t.1,t.2)∈kH W from ht));omega
theorem kFX {f:Addr} {fd:FuncData} (F:Fun K "faces" "faces" aG f fd) (zL:Own.Has P w K mg base "steps_of" ["web"] 1 (fN)) (xI:Own.Has P w K mg base "steps_round" ["web","step"] 2 (bJ)) (z_tuple:mg "tuple" = none) (z_sorted:mg "sorted" = none):FnOk P w K mg base CX0 3 f fd ["web"] (fQ):=by
 refine F.ok sc_faces (λ vs H Q E h=>?_) (λ cdv A outer s0 H vs Q E hr h=>?_)
 ·obtain ⟨t,W,rfl,_⟩:=h
  rfl
 obtain ⟨t,W,rfl,hW,S,h42,k⟩:=h
 refine ⟨_,(kD (kT (i:=1) sc_faces.nd rfl (Or.inl rfl) (yH kB))
   (kD (kT (i:=2) sc_faces.nd rfl (Or.inl rfl) kFT)
   (kD (zJ PassesOwn.never rfl (xW (Own.pe_has zL (hr.mono (by decide)) rfl (kA (pv 0) kB))) (kJ (i:=3) sc_faces.nd rfl (Or.inl rfl)) (kI (xN (tU (dD (aS hr) (pv 3) (pv 2))) (kD (kT (i:=4) sc_faces.nd rfl (Or.inl rfl) (Own.pe_has xI (hr.mono (by decide)) rfl (kA (pv 0) (kA (pv 3) kB))))
   (kD (qJ (jW PySem.F.plainAttrs_dict PySem.F.slot_dict_update PySem.F.type_dict_update (kIM (aS hr)) (pv 2) (kA (kBL (Nc:=["one"]) (js:=[none]) rfl rfl (xW (pv 4)) (CS.of rfl rfl) rfl (λ C s₂ H₂ fp pins=>(kJ (i:=0) (show List.Nodup (α:=Str) ["one"] by decide +kernel) rfl (Or.inl rfl))) (λ C s₂ H₂ fp pins D L=>(jV (kBM (aS hr) (pv 0) yX)))) kB)))
   (kI (qJ (jW PySem.F.plainAttrs_list PySem.F.slot_list_append PySem.F.type_list_append zK (pv 1) (kA (qI qR rfl z_tuple PyProof.Rows.boot_tuple (kA (zZ (Nc:=["p","q"]) (js:=[none,none]) rfl rfl (xW (pv 4)) (CS.of rfl rfl) rfl (λ C s₂ H₂ fp pins=>(show PG _ _ (kGN K 2 _) from xB rfl (kP (kJ (i:=0) (show List.Nodup (α:=Str) ["p","q"] by decide +kernel) rfl (Or.inl rfl)) (kP (kJ (i:=1) (show List.Nodup (α:=Str) ["p","q"] by decide +kernel) rfl (Or.inl rfl)) qW)))) (λ C s₂ H₂ fp pins D L=>(jV (xJ (pv 0))))) kB)) kB)))))) qN)))
   (kI (kS (kN mF rfl z_sorted PyProof.Rows.boot_sorted (kA (pv 1) kB))))))),?_⟩
 have l1:=gF S h42;have l0:=yD S h42;refine ⟨yS0,λ l nl=>?_⟩;have gl:=kE nl (.lst []);have hl:=kC (H:=H) (a:=l) (o:=.lst []);refine λ d nd=>?_;have gd:=kE nd (.dT []);have hd:=gO (H:=upd H l (.lst [])) (d:=d);have nld:l≠d:=λ z=>by rw [<-z,hl] at nd;cases nd
 have hl1:=gd _ _ hl;have g1:=gl.trans gd;have nd0:H d=none:=gl.free nd;refine (λ (hd':SeenAt (upd (upd H l (.lst [])) d (.dT [])) d [])=>?_) hd;generalize upd (upd H l (.lst [])) d (.dT [])=H1 at *;refine ⟨_,rfl,t,W,rfl,hW.kept g1,S,h42,λ s H2 g2 ns pr=>?_⟩;obtain ⟨ss,h1,h2,h3⟩:=id pr;have g02:=g1.trans g2;have nsl:s≠l:=λ z=>by rw [z,hl1] at ns;cases ns
 have nsd:s≠d:=λ z=>by obtain ⟨kvs,a,_⟩:=hd';rw [z,a] at ns;cases ns
 refine ⟨s,rfl,⟨_,SqL.of h1⟩,?_⟩
 refine sI (xs:=ss.map V.ref) (λ i σ H3=>∃ (x3 x4:Option V),σ=[some (.ref t),some (.ref l),some (.ref d),x3,x4]/\(∀ b o,b≠l->b≠d->H2 b=some o->H3 b=some o)/\RowsT H3 l (Fc.fgo W ((Fc.stepsS W).take i)).1/\SeenAt H3 d (Fc.fgo W ((Fc.stepsS W).take i)).2)
  ⟨none,none,rfl,(λ b o _ _ e=>e),⟨[],g2 _ _ hl1,rfl,λ i b t e=>by simp at e⟩,hd'.kept g2⟩ ?_ ?_ ?_
 ·rintro i σ H3 _ ⟨x3,x4,rfl,f3,_⟩
  exact SqL.of (f3 _ _ nsl nsd h1)
 ·rintro i x σ H3 hx ⟨x3,x4,rfl,f3,rt,sn⟩
  rw [List.getElem?_map] at hx;obtain ⟨b,eb,rfl⟩:=Option.map_eq_some_iff.mp hx;have hi:i<(Fc.stepsS W).length:=by rw [<-h2];exact (List.getElem?_eq_some_iff.mp eb).1
  have et:=List.getElem?_eq_getElem hi;have hb:=h3 i b _ eb et;have tk:(Fc.stepsS W).take (i+1)=(Fc.stepsS W).take i++[(Fc.stepsS W)[i]]:=by rw [take_succ,et];rfl
  have mt:=vW _ (getElem_mem hi);have fi:=Fc.fgo_ok S ((Fc.stepsS W).take i) λ t h=>vW t (List.mem_of_mem_take h);have lX:=fi.len;rw [tk,Fc.fgo_snoc]
  have lF:(Fc.fgo W ((Fc.stepsS W).take i)).1.length<=1764:=by
   have:∀ T:List (Nat×Nat),(Fc.fgo W T).1.length<=T.length:=λ T=>by
    have:∀ n,n<=T.length->(Fc.fgo W (T.take n)).1.length<=n:=λ n=>by
     induction n with
     | zero=>intro _;rw [List.take_zero];exact Nat.le_refl _
     | succ n ih =>
      intro hn;rw [show T.take (n+1)=T.take n++[T[n]] by rw [take_succ,List.getElem?_eq_getElem (by omega)];rfl,Fc.fgo_snoc];have:=ih (by omega);unfold Fc.fstep
      split
      ·omega
      ·rw [length_append]
       show _+1<=_;omega
    have:=this T.length (Nat.le_refl _);rwa [take_length] at this
   have:=this ((Fc.stepsS W).take i);rw [length_take] at this;omega
  generalize (Fc.stepsS W)[i]=u at *;generalize Fc.fgo W ((Fc.stepsS W).take i)=st at *
  have nbl:b≠l:=λ z=>by
   have a:=g2 _ _ hl1;rw [z,a] at hb;cases hb
  have nbd:b≠d:=λ z=>by
   obtain ⟨kvs,a,_⟩:=hd'.kept g2;rw [z,a] at hb;cases hb
  have hb3:=f3 _ _ nbl nbd hb;obtain ⟨kvs,k1,k2,k3,k4⟩:=id sn;refine ⟨_,rfl,_,rfl,d,_,rfl,DGet.t (k:=pk u) k1 hb3,_,rfl,?_⟩;rw [k2 u];unfold Fc.fstep;by_cases c:u∈st.2
  ·rw [decide_eq_true c,if_pos c]
   exact qV ⟨_,_,rfl,f3,rt,sn⟩
  rw [decide_eq_false c,if_neg c];obtain ⟨u1,u2⟩:=u;have hE:Tri.E W u1 u2:=mem_steps.mp mt
  have keepW:WebAt H3 t W:=by
   obtain ⟨ts,q1,q2,q3⟩:=hW.kept g02;have ok:∀ (b:Addr) (xs:List V),H2 b=some (.tup xs)->H3 b=some (.tup xs):=λ b xs e=>f3 b _ (λ z=>by rw [z,g2 _ _ hl1] at e;cases e) (λ z=>by obtain ⟨kvs,a,_⟩:=hd'.kept g2;rw [z,a] at e;cases e) e;exact ⟨ts,ok _ _ q1,q2,λ j a row e1 e2=>ok _ _ (q3 j a row e1 e2)⟩
  refine uT ⟨_,rfl,_,rfl,t,b,W,u1,u2,rfl,keepW,S,h42,hb3,hE,λ q m H4 g4 T prq=>?_⟩;rw [kCM T] at prq;have few:=T.few;have lm:=mV T;obtain ⟨qs,q1,q2,q3⟩:=id prq
  have lq:(Fc.rnd W (u1,u2)).length=m:=by rw [Fc.rnd_len,lm]
  refine ⟨_,rfl,.inr (.inr (.inl ⟨rfl,.inr ⟨_,g4 _ _ k1⟩⟩)),_,rfl,q,rfl,⟨_,SqL.of q1⟩,λ D nD=>?_⟩;refine jN (xs:=qs.map V.ref) (λ j σ H5=>∃ (x0:Option V),σ=[x0]/\Same H4 H5/\SeenAt H5 D ((Fc.rnd W (u1,u2)).take j)) ⟨none,rfl,kE nD _,gO⟩ ?_ ?_ ?_
  ·rintro j σ H5 _ ⟨x0,rfl,g5,_⟩
   exact SqL.of (g5 _ _ q1)
  ·rintro j v σ H5 hv ⟨x0,rfl,g5,sD⟩
   rw [List.getElem?_map] at hv;obtain ⟨c',ec,rfl⟩:=Option.map_eq_some_iff.mp hv;have hj:j<(Fc.rnd W (u1,u2)).length:=by rw [<-q2];exact (List.getElem?_eq_some_iff.mp ec).1
   have ej:=List.getElem?_eq_getElem hj;have hc:=g5 _ _ (q3 j c' _ ec ej);have tkj:(Fc.rnd W (u1,u2)).take (j+1)=(Fc.rnd W (u1,u2)).take j++[(Fc.rnd W (u1,u2))[j]]:=by rw [take_succ,ej];rfl
   rw [tkj];generalize (Fc.rnd W (u1,u2))[j]=y at *;obtain ⟨dv,d1,d2,d3,d4⟩:=sD;have ld:dv.length<=1764:=by rw [length_take] at d3;omega
   refine ⟨_,rfl,_,DPut.t (k:=pk y) d1 hc (jR (by omega)),?_⟩;obtain ⟨a1,a2,a3⟩:=mZ (t:=y) (v:=.bl true) d2 d3 d4;exact ⟨_,rfl,qD nD g5,⟨_,kC,a1,a2,a3⟩⟩
  ·rintro σ H5 ⟨x0,rfl,g5,sD⟩
   rw [length_map,q2,take_length] at sD;obtain ⟨dv,d1,d2,d3,d4⟩:=sD;have g45:=g4.trans g5;have k15:=g45 _ _ k1;have nDd:d≠D:=λ z=>by rw [<-z,g4 _ _ k1] at nD;cases nD
   refine ⟨d,D,kvs,dv,rfl,rfl,nDd,k15,d1,(λ y hy=>?_),?_,?_⟩
   ·obtain ⟨v,hv,e⟩:=d4 y hy
    have:=kHO S h42 (Fc.rnd_sub S mt hv);exact ⟨v.1,v.2,e,this.1,this.2⟩
   ·have:kvs.length+dv.length<=20000:=by omega
    exact Nat.le_of_lt (jR this)
   have sn6:=SeenAt.upd (H:=H5) (d:=d) k2 k3 k4 d2 d3 d4;have f6:∀ b o,b≠d->H3 b=some o->upd H5 d (.dT (zB kvs dv)) b=some o:=λ b o nb e=>by rw [kK nb];exact g45 _ _ e
   have q16:upd H5 d (.dT (zB kvs dv)) q=some (.lst (qs.map V.ref)):=by
    rw [kK (yA (g5 _ _ q1) k15 (by simp))];exact g5 _ _ q1
   have q36:∀ (i:Nat) (b:Addr) (t:Nat×Nat),qs[i]?=some b->(Fc.rnd W (u1,u2))[i]?=some t->upd H5 d (.dT (zB kvs dv)) b=some (.tup [vn t.1,vn t.2]):=λ i b t e1 e2=>by
    have:=g5 _ _ (q3 i b t e1 e2);rw [kK (yA this k15 (by simp))];exact this
   obtain ⟨ls,r1,r2,r3⟩:=id rt;have r16:upd H5 d (.dT (zB kvs dv)) l=some (.lst (ls.map V.ref)):=f6 l _ nld r1
   have r36:∀ (i:Nat) (b:Addr) (t:List Nat),ls[i]?=some b->st.1[i]?=some t->upd H5 d (.dT (zB kvs dv)) b=some (.tup (t.map vn)):=λ i b t e1 e2=>by
    have:=r3 i b t e1 e2;exact f6 b _ (yA this k1 (by simp)) this
   have f36:∀ b o,b≠l->b≠d->H2 b=some o->upd H5 d (.dT (zB kvs dv)) b=some o:=λ b o n1 n2 e=>f6 b o n2 (f3 b o n1 n2 e)
   generalize upd H5 d (.dT (zB kvs dv))=H6 at *
   refine ⟨_,rfl,.inl ⟨rfl,_,SqL.of r16⟩,_,rfl,q,rfl,⟨_,SqL.of q16⟩,λ D2 nD2=>?_⟩;refine jN (xs:=qs.map V.ref) (λ j σ H7=>∃ (x0 x1:Option V),σ=[x0,x1]/\Same H6 H7/\H7 D2=some (.lst ((((Fc.rnd W (u1,u2)).take j).map (·.1)).map vn))) ⟨none,none,rfl,kE nD2 _,kC⟩ ?_ ?_ ?_
   ·rintro j σ H7 _ ⟨x0,x1,rfl,g7,_⟩
    exact SqL.of (g7 _ _ q16)
   ·rintro j v σ H7 hv ⟨x0,x1,rfl,g7,hD2⟩
    rw [List.getElem?_map] at hv;obtain ⟨c',ec,rfl⟩:=Option.map_eq_some_iff.mp hv;have hj:j<(Fc.rnd W (u1,u2)).length:=by rw [<-q2];exact (List.getElem?_eq_some_iff.mp ec).1
    have ej:=List.getElem?_eq_getElem hj;have hc:=g7 _ _ (q36 j c' _ ec ej);have tkj:(Fc.rnd W (u1,u2)).take (j+1)=(Fc.rnd W (u1,u2)).take j++[(Fc.rnd W (u1,u2))[j]]:=by rw [take_succ,ej];rfl
    rw [tkj];generalize (Fc.rnd W (u1,u2))[j]=y at *;refine ⟨c',_,rfl,SqT.of hc,rfl,_,_,rfl,_,_,rfl,rfl,?_⟩;refine ⟨_,rfl,_,hD2,(by rw [length_map,length_map,length_take];exact jR (by omega)),?_⟩;refine ⟨_,_,rfl,qD nD2 g7,?_⟩;rw [map_append,map_append];exact kC
   ·rintro σ H7 ⟨x0,x1,rfl,g7,hD2⟩
    rw [length_map,q2,take_length] at hD2;refine ⟨D2,_,rfl,.inl ⟨SqL.of hD2,λ f nf=>?_⟩⟩;have gf:=kE nf (.tup (((Fc.rnd W (u1,u2)).map (·.1)).map vn));have g8:=g7.trans gf;have hf:=kC (H:=H7) (a:=f) (o:=.tup (((Fc.rnd W (u1,u2)).map (·.1)).map vn));generalize hH8:upd H7 f (.tup (((Fc.rnd W (u1,u2)).map (·.1)).map vn))=H8 at *;have r18:=g8 _ _ r16;have r38:∀ (i:Nat) (b:Addr) (t:List Nat),ls[i]?=some b->st.1[i]?=some t->H8 b=some (.tup (t.map vn)):=λ i b t e1 e2=>g8 _ _ (r36 i b t e1 e2);refine ⟨l,_,_,rfl,rfl,r18,(by rw [length_map,r2];exact jR (by omega)),?_⟩;refine ⟨_,_,rfl,(λ b o n1 n2 e=>by rw [kK n1];exact g8 _ _ (f36 b o n1 n2 e)),RowsT.app r18 r2 r38 hf,?_⟩;obtain ⟨kv6,z1,z2⟩:=sn6.kept g8;exact ⟨kv6,by rw [kK nld.symm];exact z1,z2⟩
 ·rintro σ H3 ⟨x3,x4,rfl,f3,rt,sn⟩
  rw [length_map,h2,take_length] at rt;obtain ⟨ps,e1,e2,e3⟩:=kCQ rt (sL S vW);have g03:Same H H3:=λ b o e=>f3 b o (kL e nl) (kL e nd0) (g02 b o e);refine ⟨_,rfl,l,ps,rfl,.inl (SqL.of e1),e2,λ l' ps' nl' pm sr=>?_⟩;exact k l' _ (g03.trans (kE nl' _)) (g03.free nl') (e3 l' ps' nl' pm sr)
def tL:Sp:=λ vs H Q _=>∃ (t:Addr) (W:Rows),vs=[.ref t]/\WebAt H t W/\Nb W/\W.length<=42 /\
 ∀ (H':Hp),Same H H'->Q (.bl (decide (W.length+(Fc.facesS W).length=(Fc.tiesS W).length+2))) H'
theorem kAG {f:Addr} {fd:FuncData} (F:Fun K "is_flat" "is_flat" wH f fd) (aP:Own.Has P w K mg base "faces" ["web"] 3 (fQ)) (bC:Own.Has P w K mg base "ties" ["web"] 2 (oG)) (z_len:mg "len" = none):FnOk P w K mg base CX0 4 f fd ["web"] (tL):=by
 refine F.ok tQ (λ vs H Q E h=>?_) (λ cdv A outer s0 H vs Q E hr h=>?_)
 ·obtain ⟨t,W,rfl,_⟩:=h
  rfl
 obtain ⟨t,W,rfl,hW,S,h42,k⟩:=h;refine ⟨_,(kI (kS (bU rN (qM yZ (kN kO rfl z_len PySem.boot_len (kA (pv 0) kB)) (kN kO rfl z_len PySem.boot_len (kA (Own.pe_has aP (hr.mono (by decide)) rfl (kA (pv 0) kB)) kB))) (qM yZ (kN kO rfl z_len PySem.boot_len (kA (Own.pe_has bC (hr.mono (by decide)) rfl (kA (pv 0) kB)) kB)) kM) (qO _)))),?_⟩;obtain ⟨ts,h1,lts,h3⟩:=id hW;refine ⟨_,rfl,t,_,rfl,.inr (SqT.of h1),_,rfl,t,W,rfl,hW,S,h42,λ s H1 g1 ns rt=>?_⟩;obtain ⟨ss,r1,r2,_⟩:=rt;refine ⟨s,_,rfl,.inl (SqL.of r1),_,_,rfl,rfl,_,rfl,t,W,rfl,hW.kept g1,S,h42,λ u H2 g2 nu pr=>?_⟩;obtain ⟨us,p1,p2,_⟩:=pr;refine ⟨u,_,rfl,.inl (SqL.of p1),_,_,rfl,rfl,rfl,?_⟩
 have e:decide (V.int (((ts.map V.ref).length:Int)+((ss.map V.ref).length:Int))=V.int (((us.map V.ref).length:Int)+2))=decide (W.length+(Fc.facesS W).length=(Fc.tiesS W).length+2):=by
  rw [Bool.eq_iff_iff,decide_eq_true_iff,decide_eq_true_iff,length_map,length_map,length_map,lts,r2,p2];constructor
  ·intro z
   have:=V.int.inj z;omega
  ·intro z
   congr 1
   omega
 rw [e];exact k H2 (g1.trans g2)
def TpsAt (H:Hp) (ta:List V) (T:List (List Nat)):Prop:=∃ as:List Addr,ta=as.map V.ref/\as.length=T.length/\∀ (j:Nat) (b:Addr) (t:List Nat),as[j]?=some b->T[j]?=some t->H b=some (.tup (t.map vn))
theorem TpsAt.but {H H':Hp} {ta:List V} {T:List (List Nat)} (h:TpsAt H ta T) (g:∀ b xs,H b=some (.tup xs)->H' b=some (.tup xs)):TpsAt H' ta T:=by
 obtain ⟨as,h1,h2,h3⟩:=h;exact ⟨as,h1,h2,λ j b t e1 e2=>g b _ (h3 j b t e1 e2)⟩
theorem TpsAt.kept {H H':Hp} {ta:List V} {T:List (List Nat)} (h:TpsAt H ta T) (g:Same H H'):TpsAt H' ta T:=h.but λ b xs e=>g _ _ e
theorem TpsAt.over {H:Hp} {ta xs ys:List V} {T:List (List Nat)} {l:Addr} (h:TpsAt H ta T) (e:H l=some (.lst xs)):TpsAt (upd H l (.lst ys)) ta T:=h.but λ b zs hb=>by
 rw [kK λ z=>by rw [z,e] at hb;cases hb];exact hb
theorem TpsAt.app {H:Hp} {ta:List V} {T:List (List Nat)} {b:Addr} {t:List Nat} (h:TpsAt H ta T) (e:H b=some (.tup (t.map vn))):TpsAt H (ta++[.ref b]) (T++[t]):=by
 obtain ⟨as,h1,h2,h3⟩:=h;refine ⟨as++[b],by rw [h1,map_append];rfl,by rw [length_append,length_append,h2];rfl,λ j c s e1 e2=>?_⟩;by_cases hj:j<as.length
 ·rw [List.getElem?_append_left hj] at e1
  rw [List.getElem?_append_left (by omega)] at e2;exact h3 j c s e1 e2
 ·rw [List.getElem?_append_right (by omega)] at e1 e2
  have:j-as.length=0:=by
   have:=(List.getElem?_eq_some_iff.mp e1).1;rw [length_singleton] at this;omega
  rw [this] at e1;rw [<-h2,this] at e2;cases e1
  cases e2
  exact e
theorem TpsAt.web {H:Hp} {ta:List V} {T:List (List Nat)} {a:Addr} (h:TpsAt H ta T) (e:H a=some (.tup ta)):WebAt H a T:=by
 obtain ⟨as,h1,h2,h3⟩:=h;exact ⟨as,by rw [e,h1],h2,h3⟩
def aV:Sp:=λ vs H Q _=>∃ (t:Addr) (W:Rows),vs=[.ref t]/\WebAt H t W/\Nb W/\Fc.Flat W/\W.length<=42/\∀ H',Same H H'->Q .non H'
theorem fI {f:Addr} {fd:FuncData} (F:Fun K "must_be_flat" "must_be_flat" jS f fd) (dS:Own.Has P w K mg base "is_flat" ["web"] 4 (tL)):FnOk P w K mg base CX0 5 f fd ["web"] (aV):=by
 refine F.ok fH (λ vs H Q E h=>?_) (λ cdv A outer s0 H vs Q E hr h=>?_)
 ·obtain ⟨t,W,rfl,_⟩:=h
  rfl
 obtain ⟨t,W,rfl,hW,S,fl,h42,k⟩:=h;refine ⟨_,(kI (xN (jY (jX (Own.pe_has dS (hr.mono (by decide)) rfl (kA (pv 0) kB)))) (kI bT) qN)),?_⟩;refine ⟨_,rfl,t,W,rfl,hW,S,h42,λ H1 g1=>⟨_,rfl,?_⟩⟩;rw [decide_eq_true (show W.length+(Fc.facesS W).length=(Fc.tiesS W).length+2 from fl)];exact qV (k H1 g1)
theorem kDT {W:Rows} (S:Nb W) (h:W.length<=42):(Fc.facesS W).length<=1764:=by
 have a:=Fc.faces_sum S;have b:=yD S h;have fl:(Fc.facesS W).length=(Fc.facesU W).length:=(Fc.sortL_perm _).length_eq;rw [fl];have ne:∀ f∈Fc.facesU W,f≠[]:=sL S vW
 have:(Fc.facesU W).length<=((Fc.facesU W).map List.length).sum:=by
  generalize Fc.facesU W=F at ne;clear a fl
  induction F with
  | nil=>exact Nat.le_refl _
  | cons f F ih =>
   rw [map_cons,List.sum_cons,length_cons];have:=ih λ g hg=>ne g (mem_cons_of_mem _ hg);have:=length_pos_iff.mpr (ne f mem_cons_self);omega
 omega
def kFA:Sp:=λ vs H Q _=>∃ (t:Addr) (W:Rows),vs=[.ref t]/\WebAt H t W/\Nb W/\W.length<=42/\∀ (v:V) (H':Hp),Same H H'->(Fc.oddF W=none/\v=.non\/∃ f b,Fc.oddF W=some f/\v=.ref b/\H' b=some (.tup (f.map vn)))->Q v H'
theorem bA {f:Addr} {fd:FuncData} (F:Fun K "uncornered_face" "uncornered_face" qS f fd) (aP:Own.Has P w K mg base "faces" ["web"] 3 (fQ)) (z_len:mg "len" = none):FnOk P w K mg base CX0 4 f fd ["web"] (kFA):=by
 refine F.ok sc_uncornered_face (λ vs H Q E h=>?_) (λ cdv A outer s0 H vs Q E hr h=>?_)
 ·obtain ⟨t,W,rfl,_⟩:=h
  rfl
 obtain ⟨t,W,rfl,hW,S,h42,k⟩:=h
 refine ⟨_,(kD (wZ (i:=1) (Nc:=["face"]) (js:=[none]) rfl rfl sc_uncornered_face.nd rfl (Or.inl rfl) (xW (Own.pe_has aP (hr.mono (by decide)) rfl (kA (pv 0) kB))) (CS.of rfl rfl) rfl (λ C s₂ H₂ fp pins=>(kJ (i:=0) (show List.Nodup (α:=Str) ["face"] by decide +kernel) rfl (Or.inl rfl))) (λ C s₂ H₂ fp pins D L=>(wR (kY bV (kN (show xQ _ _ (λ xs H Q=>∃ p ys,xs=[.ref p]/\(SqL K H p ys\/SqT K H p ys)/\Q (.int ys.length) H) from kO) rfl z_len PySem.boot_len (kA (pv 0) kB)) kM (qO _)) (xJ (pv 0)))))
   (kI (kS (rL (gX (pv 1) (λ _=>rfl)) (kX kZ (pv 1) kM (λ _ _=>rfl)) tX)))),?_⟩
 refine ⟨_,rfl,t,W,rfl,hW,S,h42,λ s H1 g1 ns rt=>?_⟩;obtain ⟨ss,h1,h2,h3⟩:=id rt;refine ⟨s,rfl,⟨_,SqL.of h1⟩,λ D nD=>?_⟩;have few:=kDT S h42
 refine jN (xs:=ss.map V.ref) (λ i σ H2=>∃ (x0:Option V) (bs:List V),σ=[x0]/\Same H1 H2/\H2 D=some (.lst bs)/\TpsAt H2 bs (((Fc.facesS W).take i).filter Fc.oddL))
  ⟨none,[],rfl,kE nD _,kC,[],rfl,rfl,λ j b t e=>by simp at e⟩ ?_ ?_ ?_
 ·rintro i σ H2 _ ⟨x0,bs,rfl,g2,_⟩
  exact SqL.of (g2 _ _ h1)
 ·rintro i x σ H2 hx ⟨x0,bs,rfl,g2,hD,tb⟩
  rw [List.getElem?_map] at hx;obtain ⟨b,eb,rfl⟩:=Option.map_eq_some_iff.mp hx;have hi:i<(Fc.facesS W).length:=by rw [<-h2];exact (List.getElem?_eq_some_iff.mp eb).1
  have et:=List.getElem?_eq_getElem hi;have hb:=h3 i b _ eb et;have tk:(Fc.facesS W).take (i+1)=(Fc.facesS W).take i++[(Fc.facesS W)[i]]:=by rw [take_succ,et];rfl
  rw [tk,filter_append,filter_cons,List.filter_nil];have fl:=length_filter_le Fc.oddL ((Fc.facesS W).take i);rw [length_take] at fl;generalize (Fc.facesS W)[i]=f at *
  have lb:bs.length=(((Fc.facesS W).take i).filter Fc.oddL).length:=by
   obtain ⟨as,e1,e2,_⟩:=tb;rw [e1,length_map,e2]
  refine ⟨_,rfl,b,_,rfl,.inr (SqT.of (g2 _ _ hb)),rfl,_,rfl,?_⟩;rw [length_map];by_cases c:f.length=3
  ·have o:Fc.oddL f=false:=by unfold Fc.oddL;rw [c];rfl
   rw [o,if_neg (by decide),append_nil,c];exact qV ⟨_,bs,rfl,g2,hD,tb⟩
  ·have o:Fc.oddL f=true:=by unfold Fc.oddL;simpa using c
   rw [o,if_pos rfl];have e:decide (V.int (f.length:Int)≠V.int 3)=true:=decide_eq_true λ z=>c (by have:=V.int.inj z;omega)
   have e':(!decide (V.int (f.length:Int)=V.int 3))=true:=by
    rw [Bool.not_eq_true',decide_eq_false_iff_not];exact λ z=>c (by have:=V.int.inj z;omega)
   first | rw [e] | rw [e']
   refine uT ⟨_,rfl,_,hD,(by exact jR (by omega)),?_⟩;exact ⟨_,bs++[.ref b],rfl,qD nD g2,kC,(tb.app (g2 _ _ hb)).over hD⟩
 ·rintro σ H2 ⟨x0,bs,rfl,g2,hD,tb⟩
  rw [length_map,h2,take_length] at tb;obtain ⟨as,e1,e2,e3⟩:=tb;subst e1
  cases hL:(Fc.facesS W).filter Fc.oddL with
  | nil =>
   rw [hL] at e2;have:as=[]:=length_eq_zero_iff.mp e2;subst this;refine ⟨_,rfl,false,.inl ⟨_,SqL.of hD,rfl⟩,k _ H2 (g1.trans g2) (.inl ⟨by unfold Fc.oddF;rw [hL];rfl,rfl⟩)⟩
  | cons f L =>
   rw [hL] at e2 e3
   cases as with
   | nil=>cases e2
   | cons b as =>
    refine ⟨_,rfl,true,.inl ⟨_,SqL.of hD,rfl⟩,?_⟩;refine ⟨_,rfl,D,_,_,_,rfl,rfl,SqL.of hD,jM (j:=0) rfl,k _ H2 (g1.trans g2) (.inr ⟨f,b,by unfold Fc.oddF;rw [hL];rfl,rfl,e3 0 b f rfl rfl⟩)⟩
theorem mW {l:List Nat} {i:Nat} (h:i+4<=l.length):(l.drop i).take 4=[l.getD i 0,l.getD (i+1) 0,l.getD (i+2) 0,l.getD (i+3) 0]:=by
 have g:∀ k,k<l.length->l.drop k=l.getD k 0::l.drop (k+1):=λ k hk=>by
  rw [List.drop_eq_getElem_cons hk,getD_eq_getElem?_getD,List.getElem?_eq_getElem hk]
  rfl
 rw [g i (by omega),g (i+1) (by omega),g (i+1+1) (by omega),g (i+1+1+1) (by omega)]
 rfl
theorem kJC (xs:List V) {b c:Nat} (hbc:b<=c) (h:c<=xs.length):uJ xs (some (b:Int)) (some (c:Int))=(xs.drop b).take (c-b):=by
 unfold uJ;rw [HT.sIx_nat,HT.sIx_nat,Nat.min_eq_left h,Nat.min_eq_left (show b<=xs.length by omega)]
def kFB:Sp:=λ vs H Q _=>∃ (t b:Addr) (W:Rows) (f:List Nat),vs=[.ref t,.ref b]/\WebAt H t W/\Wb W/\Fc.Flat W/\W.length<=42/\H b=some (.tup (f.map vn))/\f∈Fc.facesS W/\f.length≠3 /\
 ∀ (z y y':Addr) (p v q u:Nat) (H':Hp),Same H H'->p=(Fc.arnd f).getD (Fc.cutJ W f) 0->v=(Fc.arnd f).getD (Fc.cutJ W f+1) 0->q=(Fc.arnd f).getD (Fc.cutJ W f+2) 0->u=(Fc.arnd f).getD (Fc.cutJ W f+3) 0->H' z=some (.tup [.ref y,.ref y'])->H' y=some (.tup [vn p,vn v])->H' y'=some (.tup [vn q,vn u])->Q (.ref z) H'
theorem kLE {f:Addr} {fd:FuncData} (F:Fun K "cut" "cut" nA f fd) (z_range:mg "range" = none) (z_len:mg "len" = none):FnOk P w K mg base CX0 1 f fd ["web","face"] (kFB):=by
 refine F.ok sc_cut (λ vs H Q EX h=>?_) (λ cdv A outer s0 H vs Q EX hr h=>?_)
 ·obtain ⟨t,b,W,f,rfl,_⟩:=h
  rfl
 obtain ⟨t,b,W,f,rfl,hW,G,fl,h42,hb,hf,odd,k⟩:=h
 refine ⟨_,(kD (kT (i:=2) sc_cut.nd rfl (Or.inr rfl) (qM kIG (pv 1) (xO kBH (pv 1) zY (xV kM))))
   (kD (wZ (i:=3) (Nc:=["at","around"]) (js:=[none,some 2]) rfl rfl sc_cut.nd rfl (Or.inl rfl) (yS rfl z_range (kA (kN kO rfl z_len PySem.boot_len (kA (pv 1) kB)) kB)) (CS.of rfl rfl) rfl (λ C s₂ H₂ fp pins=>(kJ (i:=0) (show List.Nodup (α:=Str) ["at","around"] by decide +kernel) rfl (Or.inl rfl))) (λ C s₂ H₂ fp pins D L=>(jV (xJ (xO (show SlR _ (kNA K) from kBH) (pv 1) (xV (pv 0)) (xV (qM yZ (pv 0) kM)))))))
   (kD (wZ (i:=4) (Nc:=["p","v","q","w","web"]) (js:=[none,none,none,none,some 0]) rfl rfl sc_cut.nd rfl (Or.inl rfl) (xW (pv 3)) (CS.of rfl rfl) rfl (λ C s₂ H₂ fp pins=>(show PG _ _ (kGN K 4 _) from xB rfl (kP (kJ (i:=0) (show List.Nodup (α:=Str) ["p","v","q","w","web"] by decide +kernel) rfl (Or.inl rfl)) (kP (kJ (i:=1) (show List.Nodup (α:=Str) ["p","v","q","w","web"] by decide +kernel) rfl (Or.inl rfl)) (kP (kJ (i:=2) (show List.Nodup (α:=Str) ["p","v","q","w","web"] by decide +kernel) rfl (Or.inl rfl)) (kP (kJ (i:=3) (show List.Nodup (α:=Str) ["p","v","q","w","web"] by decide +kernel) rfl (Or.inl rfl)) qW)))))) (λ C s₂ H₂ fp pins D L=>(wR (PW.pt (gU (kY bV (pv 0) (pv 2) (qO _)) (fR (kY (show OpR _ _ (rIn K true) from yY) (pv 2) (kX (show IxR _ (kNE K) from qX) (pv 4) (pv 0) (λ _ _=>rfl)) rfl)))) (xJ (yB (kA (pv 0) (kA (pv 1) (kA (pv 2) (kA (pv 3) kB)))))))))
   (kD (jZ (kX kZ (pv 4) kM (λ _ _=>rfl)) (xB rfl (kP (kJ (i:=5) sc_cut.nd rfl (Or.inl rfl)) (kP (kJ (i:=6) sc_cut.nd rfl (Or.inl rfl)) (kP (kJ (i:=7) sc_cut.nd rfl (Or.inl rfl)) (kP (kJ (i:=8) sc_cut.nd rfl (Or.inl rfl)) qW))))))
   (kI (kS (yB (kA (yB (kA (pv 5) (kA (pv 6) kB))) (kA (yB (kA (pv 7) (kA (pv 8) kB))) kB))))))))),?_⟩
 have S:=G.toNb;obtain ⟨p4,cj,fj,eA,eB,itq⟩:=Fc.cut_at_j G fl hf odd;obtain ⟨r0,hr0,ef⟩:=Fc.face_of S hf
 have flen:f.length<=1764:=by
  rw [ef,length_map];have:=List.Nodup.length_le_of_subset (Fc.rnd_nodup S hr0) (l₂:=kH W) λ x hx=>Fc.rnd_sub S hr0 hx;have:=yD S h42;omega
 have frng:∀ x∈f,x<W.length:=λ x hx=>by
  rw [ef] at hx;obtain ⟨s,hs,rfl⟩:=mem_map.mp hx;have:=Fc.rnd_sub S hr0 hs;exact (S.e (mem_steps.mp (show (s.1,s.2)∈kH W from this))).1
 have la:(Fc.arnd f).length=f.length+3:=by
  unfold Fc.arnd;rw [length_append,length_take];omega
 have arng:∀ i,i<f.length+3->(Fc.arnd f).getD i 0<W.length:=λ i hi=>by
  rw [getD_eq_getElem?_getD,List.getElem?_eq_getElem (by rw [la];exact hi)];have:=getElem_mem (l:=Fc.arnd f) (n:=i) (by rw [la];exact hi);rcases mem_append.mp this with q | q
  ·exact frng _ q
  ·exact frng _ (List.mem_of_mem_take q)
 obtain ⟨ts,hw1,lts,hw3⟩:=hW.at;refine ⟨_,rfl,_,rfl,_,rfl,b,_,rfl,hb,λ p1 H1 g1 hp1=>?_⟩;rw [show (3:Int)=((3:Nat):Int) from rfl,dW _ (by rw [length_map];omega),<-map_take] at hp1;refine ⟨b,p1,_,_,rfl,rfl,g1 _ _ hb,hp1,(by rw [length_map,length_map,length_take];exact Nat.le_of_lt (jR (by omega))),λ ar H2 g2 har=>?_⟩;rw [<-map_append] at har;have har:H2 ar=some (.tup ((Fc.arnd f).map vn)):=har
 have g02:Same H H2:=Same.trans g1 g2
 refine ⟨_,rfl,b,_,rfl,.inr (SqT.of (g02 _ _ hb)),_,rfl,(by rw [length_map];omega),(by rw [length_map];omega),λ D nD=>?_⟩
 refine gC (lo:=0) (n:=(((f.map vn).length:Nat):Int).toNat) (λ j σ H3=>∃ (x0:Option V) (cs:List V),σ=[x0,some (.ref ar)]/\Same H2 H3/\H3 D=some (.lst cs)/\TpsAt H3 cs ((List.range j).map λ i=>((Fc.arnd f).drop i).take 4))
  ⟨none,[],rfl,kE nD _,kC,[],rfl,rfl,λ j b t e=>by simp at e⟩ ?_ ?_
 ·rintro j σ H3 hj ⟨x0,cs,rfl,g3,hD,tc⟩
  rw [length_map] at hj;have hj:j<f.length:=by omega
  have lc:cs.length=j:=by
   obtain ⟨as,e1,e2,_⟩:=tc;rw [e1,length_map,e2,length_map,length_range]
  refine ⟨_,rfl,_,rfl,_,rfl,_,rfl,_,_,rfl,rfl,_,rfl,ar,_,rfl,g3 _ _ har,λ p H4 g4 hp=>?_⟩;rw [show (0+(j:Int))=((j:Nat):Int) by omega,show ((j:Nat):Int)+4=((j+4:Nat):Int) by omega,kJC _ (by omega) (by rw [length_map,la];omega),show j+4-j=4 by omega,<-map_drop,<-map_take] at hp;refine ⟨_,g4 _ _ hD,(by rw [lc];exact jR (by omega)),?_⟩;refine ⟨_,cs++[.ref p],rfl,qD nD (Same.trans g3 g4),kC,?_⟩;rw [range_succ,map_append];exact ((tc.kept g4).app hp).over (g4 _ _ hD)
 rintro σ H3 ⟨x0,cs,rfl,g3,hD,tc⟩;rw [length_map,Int.toNat_natCast] at tc;obtain ⟨ca,ec,lca,hca⟩:=tc;rw [length_map,length_range] at lca;subst ec
 have g03:=g02.trans g3
 refine ⟨_,rfl,D,rfl,⟨_,SqL.of hD⟩,λ D2 nD2=>?_⟩
 refine jN (xs:=ca.map V.ref) (λ i σ H4=>∃ (x0 x1 x2 x3:Option V) (fs:List V),σ=[x0,x1,x2,x3,some (.ref t)]/\Same H3 H4/\H4 D2=some (.lst fs)/\TpsAt H4 fs (((List.range i).filter (Fc.freeJ W f)).map λ j=>((Fc.arnd f).drop j).take 4))
  ⟨none,none,none,none,[],rfl,kE nD2 _,kC,[],rfl,rfl,λ j b t e=>by simp at e⟩ ?_ ?_ ?_
 ·rintro i σ H4 _ ⟨x0,x1,x2,x3,fs,rfl,g4,_⟩
  exact SqL.of (g4 _ _ hD)
 ·rintro i x σ H4 hx ⟨x0,x1,x2,x3,fs,rfl,g4,hD2,tf⟩
  rw [List.getElem?_map] at hx;obtain ⟨c,ec,rfl⟩:=Option.map_eq_some_iff.mp hx;have hi:i<f.length:=by rw [<-lca];exact (List.getElem?_eq_some_iff.mp ec).1
  have hc:=hca i c (((Fc.arnd f).drop i).take 4) ec (by rw [List.getElem?_map,List.getElem?_range hi];rfl);have t4:=mW (l:=Fc.arnd f) (i:=i) (by rw [la];omega);rw [t4] at hc
  have lfs:fs.length<=i:=by
   obtain ⟨as,e1,e2,_⟩:=tf;rw [e1,length_map,e2,length_map];have:=length_filter_le (Fc.freeJ W f) (List.range i);rwa [length_range] at this
  have g34:=g03.trans g4;refine ⟨c,_,rfl,SqT.of (g4 _ _ hc),rfl,_,_,rfl,_,_,rfl,_,_,rfl,_,_,rfl,rfl,?_⟩;rw [range_succ,filter_append,filter_cons,List.filter_nil,map_append];have efr:Fc.freeJ W f i=decide ((Fc.arnd f).getD i 0≠(Fc.arnd f).getD (i+2) 0/\(Fc.arnd f).getD (i+2) 0∉W.getD ((Fc.arnd f).getD i 0) []):=rfl;have plt:=arng i (by omega);generalize (Fc.arnd f).getD i 0=p at *;generalize hv1:(Fc.arnd f).getD (i+1) 0=v at *;generalize (Fc.arnd f).getD (i+2) 0=q at *;generalize hu1:(Fc.arnd f).getD (i+3) 0=u at *;refine ⟨_,rfl,_,rfl,rfl,_,rfl,?_⟩;by_cases c1:p=q
  ·rw [efr,decide_eq_false (λ z=>z.1 c1),if_neg (by decide),map_nil,append_nil,c1]
   first | rw [show (!decide (vn q=vn q))=false by simp] | rw [show decide (vn q≠vn q)=false by simp]
   exact qV (qV ⟨_,_,_,_,fs,rfl,g4,hD2,tf⟩)
  have nd:decide (vn p=vn q)=false:=decide_eq_false λ z=>c1 (by have:=V.int.inj z;omega)
  first | rw [nd] | rw [show decide (vn p≠vn q)=true from decide_eq_true (of_decide_eq_false nd)]
  refine uT ?_;have er:=List.getElem?_eq_getElem plt;obtain ⟨b',e1,e2⟩:=hw3 _ _ er;have gd:W.getD p []=W[p]:=by rw [getD_eq_getElem?_getD,er];rfl
  rw [gd] at efr;generalize W[p]=row at *;refine ⟨_,rfl,_,rfl,_,rfl,t,_,_,_,rfl,rfl,SqT.of (g34 _ _ hw1),e1,b',_,rfl,.inr (SqT.of (g34 _ _ e2)),rfl,vQ _,_,rfl,?_⟩;rw [if_pos rfl,aN];by_cases c2:q∈row
  ·rw [decide_eq_true c2,efr,decide_eq_false (λ z=>z.2 c2),if_neg (by decide),map_nil,append_nil]
   exact qV ⟨_,_,_,_,fs,rfl,g4,hD2,tf⟩
  ·rw [decide_eq_false c2,efr,decide_eq_true ⟨c1,c2⟩,if_pos rfl]
   refine uT ⟨_,rfl,_,rfl,_,rfl,_,rfl,yS4,λ T nT=>?_⟩;have gT:=kE nT (.tup [vn p,vn v,vn q,vn u]);refine ⟨_,gT _ _ hD2,jR (by omega),?_⟩;refine ⟨_,_,_,_,fs++[.ref T],rfl,qD nD2 (g4.trans gT),kC,?_⟩;refine ((tf.kept gT).app (t:=((Fc.arnd f).drop i).take 4) ?_).over (gT _ _ hD2);rw [t4];exact kC
 rintro σ H4 ⟨x0,x1,x2,x3,fs,rfl,g4,hD2,tf⟩;rw [length_map,lca] at tf;obtain ⟨fa,ea,lfa,hfa⟩:=tf;subst ea;have ecut:Fc.cutJ W f=((List.range f.length).filter (Fc.freeJ W f)).headD 0:=rfl;have mc:Fc.cutJ W f∈(List.range f.length).filter (Fc.freeJ W f):=mem_filter.mpr ⟨mem_range.mpr cj,fj⟩;generalize (List.range f.length).filter (Fc.freeJ W f)=L at *
 cases L with
 | nil=>cases mc
 | cons x L =>
  have ex:Fc.cutJ W f=x:=ecut
  cases fa with
  | nil=>cases lfa
  | cons c0 fa =>
   have h0:H4 c0=some (.tup ((((Fc.arnd f).drop x).take 4).map vn)):=hfa 0 c0 _ rfl rfl;rw [<-ex,mW (by rw [la];omega)] at h0;refine ⟨_,rfl,D2,_,_,_,rfl,rfl,SqL.of hD2,jM (j:=0) rfl,c0,_,rfl,SqT.of h0,rfl,_,_,rfl,_,_,rfl,_,_,rfl,_,_,rfl,rfl,?_⟩;have g04:=g03.trans g4;refine ⟨_,rfl,_,rfl,yS2,λ y n1=>⟨_,rfl,_,rfl,yS2,λ y' n2=>⟨yS2,λ z n3=>?_⟩⟩⟩;have k1:=kE n1 (.tup [vn ((Fc.arnd f).getD (Fc.cutJ W f) 0),vn ((Fc.arnd f).getD (Fc.cutJ W f+1) 0)]);have k2:=kE n2 (.tup [vn ((Fc.arnd f).getD (Fc.cutJ W f+2) 0),vn ((Fc.arnd f).getD (Fc.cutJ W f+3) 0)]);have k3:=kE n3 (.tup [.ref y,.ref y']);exact k z y y' _ _ _ _ _ (g04.trans (k1.trans (k2.trans k3))) rfl rfl rfl rfl kC (k3 _ _ (k2 _ _ kC)) (k3 _ _ kC)
def kHR (H:Hp):V->Nat
 | .ref b=>match H b with
  | some (.tup xs)=>xs.length
  | _=>0
 | _=>0
def kEG (H:Hp) (a:Addr):Nat:=match H a with
 | some (.tup xs)=>(xs.map (kHR H)).sum
 | _=>0
theorem kAZ {H:Hp} {a:Addr} {W:Rows} (h:WebAt H a W):kEG H a=(W.map List.length).sum:=by
 obtain ⟨ts,h1,h2,h3⟩:=h;unfold kEG;rw [h1];show ((ts.map V.ref).map (kHR H)).sum=_
 congr 1
 refine List.ext_getElem? λ i=>?_;rw [List.getElem?_map,List.getElem?_map,List.getElem?_map];rcases Nat.lt_or_ge i W.length with c | c
 ·have e1:=List.getElem?_eq_getElem (show i<ts.length by omega)
  have e2:=List.getElem?_eq_getElem c;have:=h3 i _ _ e1 e2;rw [e1,e2];show some (kHR H (.ref ts[i]))=some W[i].length;simp only [kHR,this,length_map]
 ·rw [List.getElem?_eq_none (show ts.length<=i by omega),List.getElem?_eq_none c]
  rfl
def kOW (K0:Nat) (σ:St) (H:Hp):Nat:=match σ with
 | [_,some (.ref f),_,_,_,_]=>K0-kEG H f
 | _=>0
noncomputable def mG (W X:Rows):List (Nat×Nat):=(Fc.tiesS X).filter λ t=>decide (t∉Fc.tiesS W)
def tJ:Sp:=λ vs H Q _=>∃ (t:Addr) (W:Rows),vs=[.ref t]/\WebAt H t W/\Wb W/\Fc.Flat W/\(∀ (p:Nat) (row:List Nat),W[p]?=some row->Can row)/\W.length<=40 /\
 ∀ (z x l:Addr) (X:Rows) (T:List (Nat×Nat)) (H':Hp),Same H H'->H' z=some (.tup [.ref x,.ref l])->WebAt H' x X->PairsAt H' l (mG W X)->H l=none->Wb X->Fc.Flat X->Plus W X T->Fc.oddF X=none->Fc.Fd W X->Q (.ref z) H'
theorem kDC {f:Addr} {fd:FuncData} (F:Fun K "filled" "filled" vM f fd) (wU:Own.Has P w K mg base "must_be_flat" ["web"] 5 (aV)) (xK:Own.Has P w K mg base "uncornered_face" ["web"] 4 (kFA)) (kGK:Own.Has P w K mg base "cut" ["web","face"] 1 (kFB)) (lS:Own.Has P w K mg base "put_in" ["web","step","other"] 4 (kEX)) (bC:Own.Has P w K mg base "ties" ["web"] 2 (oG)):FnOk P w K mg base CX0 6 f fd ["web"] (tJ):=by
 refine F.ok sc_filled (λ vs H Q E h=>?_) (λ cdv A outer s0 H vs Q E hr h=>?_)
 ·obtain ⟨t,W,rfl,_⟩:=h
  rfl
 obtain ⟨t,W,rfl,hW,G,fl,can,h40,k⟩:=h
 refine ⟨_,(kD (qJ (Own.pe_has wU (hr.mono (by decide)) rfl (kA (pv 0) kB)))
   (kD (kT (i:=1) sc_filled.nd rfl (Or.inl rfl) (pv 0))
   (kD (kT (i:=2) sc_filled.nd rfl (Or.inl rfl) (Own.pe_has xK (hr.mono (by decide)) rfl (kA (pv 1) kB)))
   (kD (uO PassesOwn.never (kY kIE (pv 2) tX (qO _)) (kD (jZ (Own.pe_has kGK (hr.mono (by decide)) rfl (kA (pv 1) (kA (pv 2) kB))) (xB rfl (kP (kJ (i:=3) sc_filled.nd rfl (Or.inl rfl)) (kP (kJ (i:=4) sc_filled.nd rfl (Or.inl rfl)) qW))))
   (kD (kT (i:=1) sc_filled.nd rfl (Or.inl rfl) (Own.pe_has lS (hr.mono (by decide)) rfl (kA (pv 1) (kA (pv 3) (kA (pv 4) kB)))))
   (kI (kT (i:=2) sc_filled.nd rfl (Or.inl rfl) (Own.pe_has xK (hr.mono (by decide)) rfl (kA (pv 1) kB)))))))
   (kD (kT (i:=5) sc_filled.nd rfl (Or.inr rfl) (kBL (Nc:=["tie"]) (js:=[none]) rfl rfl (xW (Own.pe_has bC (hr.mono (by decide)) rfl (kA (pv 0) kB))) (CS.of rfl rfl) rfl (λ C s₂ H₂ fp pins=>(kJ (i:=0) (show List.Nodup (α:=Str) ["tie"] by decide +kernel) rfl (Or.inl rfl))) (λ C s₂ H₂ fp pins D L=>(jV (kBM (aS hr) (pv 0) yX)))))
   (kI (kS (yB (kA (pv 1) (kA (zZ (Nc:=["tie","before"]) (js:=[none,some 5]) rfl rfl (xW (Own.pe_has bC (hr.mono (by decide)) rfl (kA (pv 1) kB))) (CS.of rfl rfl) rfl (λ C s₂ H₂ fp pins=>(kJ (i:=0) (show List.Nodup (α:=Str) ["tie","before"] by decide +kernel) rfl (Or.inl rfl))) (λ C s₂ H₂ fp pins D L=>(wR (tU (dD (aS hr) (pv 0) (pv 1))) (xJ (pv 0))))) kB)))))))))),?_⟩
 have S:=G.toNb;refine ⟨_,rfl,t,W,rfl,hW,S,fl,by omega,λ H1 g1=>?_⟩;refine ⟨_,rfl,?_⟩;refine ⟨_,rfl,t,W,rfl,hW.kept g1,S,by omega,λ v0 H2 g2 hv0=>?_⟩
 refine uK (λ σ H3=>∃ (fa:Addr) (v x3 x4:Option V) (W1:Rows) (T:List (Nat×Nat)),σ=[some (.ref t),some (.ref fa),v,x3,x4,none]/\Same H H3/\WebAt H3 fa W1/\Wb W1/\Fc.Flat W1/\Plus W W1 T/\(Fc.oddF W1=none/\v=some .non\/∃ f b,Fc.oddF W1=some f/\v=some (.ref b)/\H3 b=some (.tup (f.map vn)))/\∀ X,Fc.Fd W1 X->Fc.Fd W X) (kOW 2000)
  ⟨t,some v0,none,none,W,[],rfl,g1.trans g2,(hW.kept g1).kept g2,G,fl,.start G can,(by
   rcases hv0 with ⟨e,rfl⟩ | ⟨f,b,e,rfl,hb⟩
   ·exact .inl ⟨e,rfl⟩
   ·exact .inr ⟨f,b,e,rfl,hb⟩),λ X h=>h⟩ ?_ ?_
 ·rintro σ H3 ⟨fa,v,x3,x4,W1,T,rfl,g3,hF,G1,fl1,PL,hv,hist⟩
  have l1:W1.length=W.length:=PL.len;have few:=yD G1.toNb (by omega);rcases hv with ⟨eo,rfl⟩ | ⟨f,b,eo,rfl,hb⟩
  ·refine ⟨_,rfl,rfl,_,rfl,?_⟩
   rw [show (!decide (V.non=V.non))=false by simp];refine qV ?_;have tl:=Fc.ties_len S;have tl1:=Fc.ties_len G1.toNb
   have few0:=yD S (by omega)
   refine ⟨_,rfl,t,W,rfl,hW.kept g3,S,by omega,λ s H4 g4 ns pr=>?_⟩;obtain ⟨ss,q1,q2,q3⟩:=id pr;refine ⟨s,rfl,⟨_,SqL.of q1⟩,λ D nD=>?_⟩;refine jN (xs:=ss.map V.ref) (λ j σ H5=>∃ (x0:Option V),σ=[x0]/\Same H4 H5/\SeenAt H5 D ((Fc.tiesS W).take j)) ⟨none,rfl,kE nD _,gO⟩ ?_ ?_ ?_
   ·rintro j σ H5 _ ⟨x0,rfl,g5,_⟩
    exact SqL.of (g5 _ _ q1)
   ·rintro j v σ H5 hv ⟨x0,rfl,g5,sD⟩
    rw [List.getElem?_map] at hv;obtain ⟨c',ec,rfl⟩:=Option.map_eq_some_iff.mp hv;have hj:j<(Fc.tiesS W).length:=by rw [<-q2];exact (List.getElem?_eq_some_iff.mp ec).1
    have ej:=List.getElem?_eq_getElem hj;have hc:=g5 _ _ (q3 j c' _ ec ej);have tkj:(Fc.tiesS W).take (j+1)=(Fc.tiesS W).take j++[(Fc.tiesS W)[j]]:=by rw [take_succ,ej];rfl
    rw [tkj];generalize (Fc.tiesS W)[j]=y at *;obtain ⟨dv,d1,d2,d3,d4⟩:=sD;have ld:dv.length<=1764:=by rw [length_take] at d3;omega
    refine ⟨_,rfl,_,DPut.t (k:=pk y) d1 hc (jR (by omega)),?_⟩;obtain ⟨a1,a2,a3⟩:=mZ (t:=y) (v:=.bl true) d2 d3 d4;exact ⟨_,rfl,qD nD g5,⟨_,kC,a1,a2,a3⟩⟩
   rintro σ H5 ⟨x0,rfl,g5,sD⟩;rw [length_map,q2,take_length] at sD;have g35:=g4.trans g5
   have g05:=g3.trans g35
   refine ⟨_,rfl,_,rfl,fa,W1,rfl,hF.kept g35,G1.toNb,by omega,λ s2 H6 g6 ns2 pr2=>?_⟩;obtain ⟨ss2,r1,r2,r3⟩:=id pr2;refine ⟨s2,rfl,⟨_,SqL.of r1⟩,λ D2 nD2=>?_⟩;have sD6:=sD.kept g6;refine jN (xs:=ss2.map V.ref) (λ j σ H7=>∃ (x0:Option V),σ=[x0,some (.ref D)]/\Same H6 H7/\PairsAt H7 D2 (((Fc.tiesS W1).take j).filter λ t=>decide (t∉Fc.tiesS W))) ⟨none,rfl,kE nD2 _,[],kC,rfl,λ i b t e=>by simp at e⟩ ?_ ?_ ?_
   ·rintro j σ H7 _ ⟨x0,rfl,g7,_⟩
    exact SqL.of (g7 _ _ r1)
   ·rintro j v σ H7 hv ⟨x0,rfl,g7,pD⟩
    rw [List.getElem?_map] at hv;obtain ⟨c',ec,rfl⟩:=Option.map_eq_some_iff.mp hv;have hj:j<(Fc.tiesS W1).length:=by rw [<-r2];exact (List.getElem?_eq_some_iff.mp ec).1
    have ej:=List.getElem?_eq_getElem hj;have hc:=g7 _ _ (r3 j c' _ ec ej);have tkj:(Fc.tiesS W1).take (j+1)=(Fc.tiesS W1).take j++[(Fc.tiesS W1)[j]]:=by rw [take_succ,ej];rfl
    rw [tkj,filter_append,filter_cons,List.filter_nil];have lfl:=length_filter_le (λ t=>decide (t∉Fc.tiesS W)) ((Fc.tiesS W1).take j);rw [length_take] at lfl;generalize (Fc.tiesS W1)[j]=y at *;obtain ⟨kvs,k1,k2,k3,k4⟩:=sD6.kept g7;refine ⟨_,rfl,_,rfl,D,_,rfl,DGet.t (k:=pk y) k1 hc,_,rfl,?_⟩;rw [k2 y];by_cases c:y∈Fc.tiesS W
    ·rw [decide_eq_true c,decide_eq_false (not_not_intro c),if_neg (by decide),append_nil]
     exact qV ⟨_,rfl,g7,pD⟩
    ·rw [decide_eq_false c,decide_eq_true c,if_pos rfl]
     obtain ⟨ds,p1,p2,p3⟩:=pD;refine uT ⟨_,rfl,_,p1,(by rw [length_map,p2];exact jR (by omega)),?_⟩;exact ⟨_,rfl,qD nD2 g7,PairsAt.app (H':=H7) p1 p2 p3 hc⟩
   ·rintro σ H7 ⟨x0,rfl,g7,pD⟩
    rw [length_map,r2,take_length] at pD;refine ⟨yS2,λ z nz=>?_⟩;have g8:=kE nz (.tup [.ref fa,.ref D2]);have gall:=g05.trans (g6.trans (g7.trans g8));refine k z fa D2 W1 T _ gall kC (hF.kept (g35.trans (g6.trans (g7.trans g8)))) (pD.kept g8) ?_ G1 fl1 PL eo (hist _ (.done eo));exact (g05.trans g6).free nD2
  ·refine ⟨_,rfl,rfl,_,rfl,?_⟩
   rw [show (!decide (V.ref b=V.non))=true by simp];refine uT ?_;obtain ⟨of1,of2⟩:=Fc.odd_some eo;refine ⟨_,rfl,_,rfl,fa,b,W1,f,rfl,hF,G1,fl1,by omega,hb,of1,of2,λ z y y' p v q u H4 g4 ep ev eq eu hz hy hy'=>?_⟩;obtain ⟨rp,rq,hp,hq,mv,mu,n1,n2,itq,all⟩:=Fc.fill_turn G1 fl1 PL eo ep ev eq eu;refine ⟨z,_,rfl,SqT.of hz,rfl,_,_,rfl,_,_,rfl,rfl,?_⟩;refine ⟨_,rfl,_,rfl,_,rfl,fa,y,y',W1,p,v,q,u,rp,rq,rfl,hF.kept g4,G1.toNb,by omega,hy,hy',hp,hq,mv,mu,n1,n2,⟨2,itq⟩,λ a b' t' H5 ra ca rb cb g5 hF5=>?_⟩;obtain ⟨G2,fl2,P2,nx,st⟩:=all a b' ra ca rb cb;have l2:(jL W1 p q a b').length=W1.length:=qQ ..;refine ⟨_,rfl,t',_,rfl,hF5,G2.toNb,by omega,λ v' H6 g6 hv'=>?_⟩;have few2:=yD G2.toNb (show (jL W1 p q a b').length<=42 by omega);refine ⟨⟨t',some v',_,_,_,_,rfl,g3.trans (g4.trans (g5.trans g6)),hF5.kept g6,G2,fl2,P2,?_,λ X h=>hist X (.step nx h)⟩,?_⟩
   ·rcases hv' with ⟨e,rfl⟩ | ⟨f',b2,e,rfl,hb2⟩
    ·exact .inl ⟨e,rfl⟩
    ·exact .inr ⟨f',b2,e,rfl,hb2⟩
   ·show 2000-kEG H6 t'<2000-kEG H3 fa
    rw [kAZ (hF5.kept g6),kAZ hF,<-qZ,<-qZ,st];omega
 ·rintro σ H1 Q1 Q2 m ⟨v,e1,e2,kk,e6,q1⟩
  exact ⟨v,e1,e2,kk,e6,m _ _ q1⟩
def gK:Sp:=λ vs H Q _=>∃ (a:Addr),vs=[.ref a]/\PotAt H a /\
 ∀ (t:Addr) (W:Rows) (H':Hp),SameBut a H H'->PotAt H' a->WebAt H' t W->Wb W->Fc.Flat W->(∀ (p:Nat) (row:List Nat),W[p]?=some row->Can row)->W.length<=40->Q (.ref t) H'
theorem pG {f:Addr} {fd:FuncData} (F:Fun K "_law_drawn" "_law_drawn" yP f fd) (kU:Own.Has P w K mg base "_law_digit" ["_law_pot_here","_law_many"] 1 (vX)) (wV:Own.Has P w K mg base "_law_cornered" ["_law_pot_here","_law_n"] 3 (aW)) (vI:Own.Has P w K mg base "_law_thinned" ["_law_pot_here","_law_rows","_law_many"] 3 (cW)) (dO:Own.Has P w K mg base "_law_web" ["_law_rows","_law_names_here"] 2 (kEW)) (uY:Own.Has P w K mg base "_law_names" ["_law_pot_here","_law_n"] 2 (oI)) (z_int:mg "int" = none):FnOk P w K mg base CX0 4 f fd ["_law_pot_here"] (gK):=by
 refine F.ok sc_law_drawn (λ vs H Q E h=>?_) (λ cdv A outer s0 H vs Q E hr h=>?_)
 ·obtain ⟨a,rfl,_⟩:=h
  rfl
 obtain ⟨a,rfl,pa,k⟩:=h
 refine ⟨_,(kD (kT (i:=1) sc_law_drawn.nd rfl (Or.inl rfl) (qM yZ kM (Own.pe_has kU (hr.mono (by decide)) rfl (kA (pv 0) (kA (qM yZ kM (qM Own.op_mulW kM (qI kEB rfl z_int PyProof.Rows.boot_int (kA (bU rN (Own.pe_has kU (hr.mono (by decide)) rfl (kA (pv 0) (kA kM kB))) kM (qO _)) kB)))) kB)))))
   (kD (kT (i:=2) sc_law_drawn.nd rfl (Or.inl rfl) (Own.pe_has wV (hr.mono (by decide)) rfl (kA (pv 0) (kA (pv 1) kB))))
   (kD (kT (i:=2) sc_law_drawn.nd rfl (Or.inl rfl) (Own.pe_has vI (hr.mono (by decide)) rfl (kA (pv 0) (kA (pv 2) (kA (Own.pe_has kU (hr.mono (by decide)) rfl (kA (pv 0) (kA (qM Own.op_mulW kM (pv 1)) kB))) kB)))))
   (kI (kS (Own.pe_has dO (hr.mono (by decide)) rfl (kA (pv 2) (kA (Own.pe_has uY (hr.mono (by decide)) rfl (kA (pv 0) (kA (pv 1) kB))) kB)))))))),?_⟩
 refine ⟨_,rfl,_,rfl,a,8,rfl,pa,by decide,aR (by decide),λ d H1 d0 d1 s1 p1=>⟨rfl,.inr ⟨_,rfl,?_⟩⟩⟩;generalize hm:(if decide (V.int d=V.int 0)=true then (1:Int) else 0)=m;have m01:m=0\/m=1:=by rw [<-hm];split<;>simp
 refine ⟨_,_,rfl,rfl,⟨aR (by decide),aR (by rcases m01 with rfl | rfl<;>decide)⟩,_,_,rfl,rfl,a,_,rfl,p1,(by rcases m01 with rfl | rfl<;>decide),aR (by rcases m01 with rfl | rfl<;>decide),λ d2 H2 d20 d21 s2 p2=>⟨_,_,rfl,rfl,?_⟩⟩;obtain ⟨n',rfl⟩:=Int.eq_ofNat_of_zero_le d20;have n38:n'<38:=by rcases m01 with rfl | rfl<;>omega
 have s02:=s1.trans s2;refine ⟨_,rfl,_,rfl,a,3+n',rfl,p2,by omega,by omega,λ r A1 L H4 s4 p4 X G hl nw=>?_⟩;refine ⟨_,rfl,_,rfl,_,rfl,_,rfl,_,_,rfl,rfl,⟨aR (by decide),aR (Nat.lt_of_le_of_lt (m:=40) (by show (3+(n':Int)).natAbs<=40;omega) (by decide))⟩,a,_,rfl,p4,(by show (0:Int)<3*(3+(n':Int));omega),aR (Nat.lt_of_le_of_lt (m:=120) (by show (3*(3+(n':Int))).natAbs<=120;omega) (by decide)),λ d5 H5 d50 d51 s5 p5=>?_⟩;obtain ⟨m',rfl⟩:=Int.eq_ofNat_of_zero_le d50;have d51':(m':Int)<3*(3+(n':Int)):=d51;refine ⟨a,r,A1,L,m',rfl,p5,X.but nw.pot.1 nw.pot.2 s5,Wb.of G,Fc.good_flat G,by omega,nw.pot.1,nw.pot.2,by omega,λ r' A' L' H6 s6 p6 X6 G6 f6 l6 n1 n2=>?_⟩;refine ⟨_,rfl,_,rfl,_,rfl,a,3+n',rfl,p6,by omega,λ l ns H7 s7 p7 nl la hln perm=>?_⟩;have X7:=X6.but n1 n2 s7;have perm':ns.Perm (List.range L'.length):=by rw [show L'.length=3+n' by omega];exact perm
 refine ⟨r',l,A',L',ns,rfl,X7,hln,perm',Wb.few G6 (by omega),(λ p row e x hx=>(G6.rng p row x e hx).1),λ t W H8 g8 hW lW nm=>?_⟩;have rn:=kDF perm' lW nm;have GW:=kKN G6 rn;exact k t W H8 (s02.trans (s4.trans (s5.trans (s6.trans (s7.trans (.of g8)))))) (p7.kept g8) hW GW (Fc.flat_ren G6.toNb GW rn lW (xL G6.nd) (xL GW.nd) f6) (kDG perm' lW nm) (by omega)
theorem gD {W:Rows} (S:Nb W) {p q:Nat} (h:E W p q):∃ row,W[q]?=some row/\p∈row/\jG row p=some (nxt W (p,q)).2/\E W q (nxt W (p,q)).2:=by
 obtain ⟨row,e,m⟩:=S.sym p q h;obtain ⟨v,hv⟩:=vZ m
 have en:(nxt W (p,q)).2=v:=by
  unfold nxt;rw [getD_eq_getElem?_getD,e];show (jG row p).getD 0=v;rw [hv]
  rfl
 rw [en];exact ⟨row,e,m,hv,row,e,kFP (S.nd _ _ e) m hv⟩
def gG:Sp:=λ vs H Q _=>∃ (t:Addr) (W:Rows),vs=[.ref t]/\WebAt H t W/\Nb W/\W.length<=42/\(∀ t∈kH W,(nxt W (nxt W t)).2=t.1)/\∀ H',Same H H'->Q (.bl true) H'
theorem uI {f:Addr} {fd:FuncData} (F:Fun K "_law_three_cornered" "_law_three_cornered" qL f fd) (qP:Own.Has P w K mg base "_law_ahead" ["_law_rows","_law_p","_law_q"] 1 (bN)) (z_range:mg "range" = none) (z_len:mg "len" = none):FnOk P w K mg base CX0 2 f fd ["_law_web_here"] (gG):=by
 refine F.ok sc_law_three_cornered (λ vs H Q EX h=>?_) (λ cdv A outer s0 H vs Q EX hr h=>?_)
 ·obtain ⟨t,W,rfl,_⟩:=h
  rfl
 obtain ⟨t,W,rfl,hW,S,h42,three,k⟩:=h
 refine ⟨_,(kD (zJ PassesOwn.never rfl (yS rfl z_range (kA (kN kO rfl z_len PySem.boot_len (kA (pv 0) kB)) kB)) (kJ (i:=1) sc_law_three_cornered.nd rfl (Or.inl rfl)) (kI (zJ PassesOwn.never rfl (wS (kX qX (pv 0) (pv 1) (λ _ _=>rfl))) (kJ (i:=2) sc_law_three_cornered.nd rfl (Or.inl rfl)) (kD (kT (i:=3) sc_law_three_cornered.nd rfl (Or.inl rfl) (Own.pe_has qP (hr.mono (by decide)) rfl (kA (pv 0) (kA (pv 1) (kA (pv 2) kB)))))
   (kI (xN (PW.pt (zR (kY rN (pv 3) (pv 1) (qO _)) (zR (kY bV (Own.pe_has qP (hr.mono (by decide)) rfl (kA (pv 0) (kA (pv 2) (kA (pv 3) kB)))) (pv 1) (qO _)) (zH (kY bV (Own.pe_has qP (hr.mono (by decide)) rfl (kA (pv 0) (kA (pv 3) (kA (pv 1) kB)))) (pv 2) (qO _)))))) (kI (kS yX)) qN))))))
   (kI (kS yX))),?_⟩
 obtain ⟨ts,h1,lts,h3⟩:=hW.at;refine ⟨_,rfl,t,_,rfl,.inr (SqT.of h1),_,rfl,(by rw [length_map];omega),(by rw [length_map];omega),wK (lo:=0) (n:=(((ts.map V.ref).length:Nat):Int).toNat) (λ i σ H2=>∃ (x1 x2 x3:Option V),σ=[some (.ref t),x1,x2,x3]/\Same H H2) ⟨none,none,none,rfl,Same.refl _⟩ ?_ ?_⟩
 ·rintro i σ H2 hi ⟨x1,x2,x3,rfl,g2⟩
  rw [length_map] at hi;have hi:i<W.length:=by omega
  have et:=List.getElem?_eq_getElem hi;obtain ⟨b,e1,e2⟩:=h3 i _ et;rw [show V.int (0+(i:Int))=vn i by unfold vn;congr 1;omega];generalize W[i]=row at *;refine ⟨_,rfl,_,rfl,t,_,_,_,rfl,rfl,SqT.of (g2 _ _ h1),e1,b,rfl,⟨_,SqT.of (g2 _ _ e2)⟩,pN (xs:=row.map vn) (λ j σ H3=>∃ (x2 x3:Option V),σ=[some (.ref t),some (vn i),x2,x3]/\Same H H3) ⟨_,_,rfl,g2⟩ ?_ ?_ ?_⟩
  ·rintro j σ H3 _ ⟨x2,x3,rfl,g3⟩
   exact SqT.of (g3 _ _ e2)
  ·rintro j v σ H3 hv ⟨x2,x3,rfl,g3⟩
   rw [List.getElem?_map] at hv;obtain ⟨q,eq',rfl⟩:=Option.map_eq_some_iff.mp hv;have eW:E W i q:=⟨row,et,mem_of_getElem? eq'⟩;have t1:=three (i,q) (mem_steps.mpr eW);obtain ⟨r1,a1,a2,a3,a4⟩:=gD S eW;have t2:=three (q,(nxt W (i,q)).2) (mem_steps.mpr a4);obtain ⟨r2,b1,b2,b3,b4⟩:=gD S a4;have n1:(q,(nxt W (i,q)).2)=nxt W (i,q):=rfl;rw [n1] at b3 b4 t2;rw [t1] at b3 b4;have n2:nxt W (nxt W (i,q))=((nxt W (i,q)).2,i):=Prod.ext rfl t1;rw [n2] at t2;obtain ⟨r3,c1,c2,c3,c4⟩:=gD S b4;have t2:(nxt W ((nxt W (i,q)).2,i)).2=q:=t2;rw [t2] at c3;obtain ⟨x1',f1,f2⟩:=h3 _ _ a1;obtain ⟨x2',f3,f4⟩:=h3 _ _ b1;obtain ⟨x3',f5,f6⟩:=h3 _ _ c1;have ne:(nxt W (i,q)).2≠i:=(S.e b4).2.2.symm;have hr1:=g3 _ _ h1;generalize (nxt W (i,q)).2=r at *;refine ⟨_,rfl,_,rfl,_,rfl,t,x1',_,i,q,r1,r,rfl,.inr ⟨hr1,g3 _ _ f2⟩,f1,a2,a3,?_⟩;refine ⟨_,rfl,_,rfl,rfl,_,rfl,?_⟩;rw [show decide (vn r=vn i)=false from decide_eq_false λ z=>ne (by have:=V.int.inj z;omega)];refine qV ?_;refine ⟨_,rfl,_,rfl,_,rfl,t,x2',_,q,r,r2,i,rfl,.inr ⟨hr1,g3 _ _ f4⟩,f3,b2,b3,_,rfl,rfl,_,rfl,?_⟩
   first | rw [show (!decide (vn i=vn i))=false by simp] | rw [show decide (vn i≠vn i)=false by simp]
   refine qV ?_;refine ⟨_,rfl,_,rfl,_,rfl,t,x3',_,r,i,r3,q,rfl,.inr ⟨hr1,g3 _ _ f6⟩,f5,c2,c3,_,rfl,rfl,_,rfl,?_⟩
   first | rw [show (!decide (vn q=vn q))=false by simp] | rw [show decide (vn q≠vn q)=false by simp]
   exact qV ⟨_,_,rfl,g3⟩
  ·rintro σ H3 ⟨x2,x3,rfl,g3⟩
   exact ⟨_,_,_,rfl,g3⟩
 ·rintro σ H2 ⟨x1,x2,x3,rfl,g2⟩
  exact k H2 g2
def muC (σ:St) (H:Hp):Nat:=match σ with
 | [_,_,_,some (.ref l),_,_]=>lO (H l)
 | _=>0
def oJ:Sp:=λ vs H Q _=>∃ (a t l:Addr) (W0 W:Rows) (T:List (Nat×Nat)),vs=[.ref a,.ref t,.ref l]/\PotAt H a/\WebAt H t W/\PairsAt H l T/\Plus W0 W T/\Wb W0/\(∀ (p:Nat) (row:List Nat),W0[p]?=some row->Can row)/\W0.length<=40/\T.length<=900 /\
 ∀ (t':Addr) (H':Hp),SameBut a H H'->PotAt H' a->WebAt H' t' W0->Q (.ref t') H'
theorem rR {f:Addr} {fd:FuncData} (F:Fun K "_law_back" "_law_back" zG f fd) (kU:Own.Has P w K mg base "_law_digit" ["_law_pot_here","_law_many"] 1 (vX)) (dQ:Own.Has P w K mg base "_law_out" ["_law_web_here","_law_tie"] 2 (tH)) (uW:Own.Has P w K mg base "taken_out" ["web","tie"] 4 (kEZ)) (xX:Own.Has P w K mg base "_law_is_web" ["_law_found","_law_due"] 1 (fP)) (z_list:mg "list" = none) (z_len:mg "len" = none):FnOk P w K mg base CX0 5 f fd ["_law_pot_here","_law_made","_law_added"] (oJ):=by
 refine F.ok sc_law_back (λ vs H Q E h=>?_) (λ cdv A outer s0 H vs Q E hr h=>?_)
 ·obtain ⟨a,t,l,W0,W,T,rfl,_⟩:=h
  rfl
 obtain ⟨a,t,l0,W0,W,T,rfl,pa,hW,hT0,pls,G0,can0,l26,lT,k⟩:=h
 refine ⟨_,(kD (kT (i:=3) sc_law_back.nd rfl (Or.inl rfl) (qI jK rfl z_list PyProof.Rows.boot_list (kA (pv 2) kB)))
   (kD (uO PassesOwn.never (kY (hG hr.units) (pv 3) (yH kB) (qO _)) (kD (kT (i:=4) sc_law_back.nd rfl (Or.inl rfl) (jW PySem.F.plainAttrs_list PySem.F.slot_list_pop PySem.F.type_list_pop kGD (pv 3) (kA (Own.pe_has kU (hr.mono (by decide)) rfl (kA (pv 0) (kA (kN kO rfl z_len PySem.boot_len (kA (pv 3) kB)) kB))) kB)))
   (kD (kT (i:=5) sc_law_back.nd rfl (Or.inl rfl) (Own.pe_has dQ (hr.mono (by decide)) rfl (kA (pv 1) (kA (pv 4) kB))))
   (kD (kT (i:=1) sc_law_back.nd rfl (Or.inl rfl) (Own.pe_has uW (hr.mono (by decide)) rfl (kA (pv 1) (kA (pv 4) kB))))
   (kI (xN (jY (jX (Own.pe_has xX (hr.mono (by decide)) rfl (kA (pv 1) (kA (pv 5) kB))))) (kI (kS tX)) qN))))))
   (kI (kS (pv 1))))),?_⟩
 obtain ⟨ss00,hl00,ls00,hss00⟩:=id hT0;refine ⟨_,rfl,l0,_,rfl,.inl (SqL.of hl00),λ l nl=>?_⟩;have gl:=kE nl (.lst (ss00.map V.ref));have hT:PairsAt (upd H l (.lst (ss00.map V.ref))) l T:=⟨ss00,kC,ls00,λ i b t e1 e2=>gl _ _ (hss00 i b t e1 e2)⟩
 have la:l≠a:=by
  obtain ⟨x,y,z,_⟩:=pa;exact (kL z nl).symm
 have hW:=hW.kept gl;have pa:=pa.kept gl;have k:∀ (t':Addr) (H':Hp),WebAt H' t' W0->(∀ b o,b≠a->b≠l->upd H l (.lst (ss00.map V.ref)) b=some o->H' b=some o)->PotAt H' a->Q (.ref t') H':=λ t' H' h1 h2 h3=>k t' H' (λ b o nb e=>h2 b o nb (kL e nl) (gl _ _ e)) h3 h1;generalize upd H l (.lst (ss00.map V.ref))=H at *
 refine uK (λ σ H2=>∃ (x3 x4 x5:Option V) (t:Addr) (W:Rows) (T:List (Nat×Nat)),σ=[some (.ref a),some (.ref t),x3,some (.ref l),x4,x5]/\WebAt H2 t W/\PairsAt H2 l T/\Plus W0 W T/\T.length<=900/\(∀ b o,b≠a->b≠l->H b=some o->H2 b=some o)/\PotAt H2 a) muC
  ⟨_,_,_,t,W,T,rfl,hW,hT,pls,lT,(λ b o _ _ e=>e),pa⟩ ?_ ?_
 ·rintro σ H2 ⟨x3,x4,x5,t,W,T,rfl,hW,hT,pls,lT,f2,p2⟩
  refine ⟨_,rfl,yS0,λ e ne=>?_⟩;have ge:=kE ne (.lst []);refine ⟨yC T,.list [],(hT.kept ge).dt,kAI kC,kCZ _,rfl,_,rfl,?_⟩;rw [tY];have hW:=hW.kept ge;have hT:=hT.kept ge;have p2':=p2.kept ge;have f2':∀ b o,b≠a->b≠l->H b=some o->upd H2 e (.lst []) b=some o:=λ b o h1 h2 h3=>ge _ _ (f2 b o h1 h2 h3)
  have hmu:∀ (ss:List Addr),H2 l=some (.lst (ss.map V.ref))->muC [some (.ref a),some (.ref t),x3,some (.ref l),x4,x5] H2=ss.length:=λ ss e=>by
   show lO (H2 l)=_;rw [e];exact length_map _
  obtain ⟨ss0,hl0,ls0,hss0⟩:=id ‹PairsAt H2 l T›;have hmu:=hmu ss0 hl0;generalize upd H2 e (.lst [])=H3 at *;by_cases c:T=[]
  ·rw [decide_eq_true c]
   subst c;rw [pls.end can0] at hW;exact ⟨_,rfl,k t H3 hW f2' p2'⟩
  ·rw [decide_eq_false c]
   have lpos:0<T.length:=length_pos_iff.mpr c;obtain ⟨ss,hl,ls,hss⟩:=hT;have G:=pls.wb;have lW:W.length<=40:=by rw [pls.len];exact l26
   refine ⟨_,rfl,.inl ⟨rfl,_,SqL.of hl⟩,_,rfl,_,rfl,l,_,rfl,.inl (SqL.of hl),a,_,rfl,p2',(by rw [length_map];omega),aR (by rw [length_map];exact Nat.lt_of_le_of_lt (m:=1000) (by omega) (by decide)),λ d H4 d0 d1 s4 p4=>?_⟩;obtain ⟨i,rfl⟩:=Int.eq_ofNat_of_zero_le d0;rw [length_map] at d1;have hi:i<ss.length:=by omega
   have hiT:i<T.length:=by omega
   have hl4:=s4 _ _ la hl;have hss4:∀ (i:Nat) (b:Addr) (t:Nat×Nat),ss[i]?=some b->T[i]?=some t->H4 b=some (.tup [vn t.1,vn t.2]):=λ i b t e1 e2=>s4 _ _ (gY p2' (hss i b t e1 e2) (by simp)) (hss i b t e1 e2);have hW4:=hW.pot s4 p2';refine ⟨l,_,_,i,_,rfl,rfl,hl4,(by omega),(by omega),?_,(by rw [List.getElem?_map,List.getElem?_eq_getElem hi];rfl),?_⟩
   ·rw [length_map]
    unfold seqIndex?;simp;omega
   have E5:=PairsAt.erase (i:=i) hl4 ls hss4;have hz4:=hss4 i ss[i] T[i] (List.getElem?_eq_getElem hi) (List.getElem?_eq_getElem hiT)
   have old:∀ (b:Addr) (xs:List V),H4 b=some (.tup xs)->upd H4 l (.lst ((ss.map V.ref).eraseIdx i)) b=some (.tup xs):=λ b xs e=>by
    rw [kK (yA e hl4 (by simp))];exact e
   have hW5:WebAt (upd H4 l (.lst ((ss.map V.ref).eraseIdx i))) t W:=by
    obtain ⟨us,u1,u2,u3⟩:=hW4;exact ⟨us,old _ _ u1,u2,λ j b row e1 e2=>old _ _ (u3 j b row e1 e2)⟩
   have hz5:=old _ _ hz4;have p5:PotAt (upd H4 l (.lst ((ss.map V.ref).eraseIdx i))) a:=p4.other la.symm
   have f5:∀ b o,b≠a->b≠l->H b=some o->upd H4 l (.lst ((ss.map V.ref).eraseIdx i)) b=some o:=λ b o h1 h2 h3=>by
    rw [kK h2];exact s4 _ _ h1 (f2' b o h1 h2 h3)
   generalize upd H4 l (.lst ((ss.map V.ref).eraseIdx i))=H5 at *;have sp:=kEV T hiT;generalize hX:T.take i=X at *;generalize hY:T.drop (i+1)=Y at *;have eT:T.eraseIdx i=X++Y:=by rw [lZ,hX,hY]
   rw [eT] at E5;generalize htt:T[i]=tt at *;obtain ⟨p,q⟩:=tt;have pls':Plus W0 W (X++(p,q)::Y):=by rw [<-sp];exact pls
   obtain ⟨ptq,rp,hp,mq⟩:=pls'.tie (p,q) (by simp);simp only at ptq hp mq;obtain ⟨rq,hq,mp⟩:=G.sym p q ⟨rp,hp,mq⟩;have pq:p≠q:=by omega
   have con:∀ a b,Ro (rp.filter λ x=>x != q) a->Ro (rq.filter λ x=>x != p) b->Wb (jL W p q a b):=λ a b h1 h2=>kIA G0 pls' hp hq h1 h2;obtain ⟨ne1,ne2⟩:=kFV hp hq pq con;refine ⟨_,rfl,_,rfl,t,ss[i],W,p,q,rp,rq,rfl,hW5,hz5,by omega,pq,hp,hq,mq,mp,(λ j r e=>kMC G.toNb (by omega) (λ p row e=>G.ne e) hp hq pq mq mp ne1 ne2 j r e),λ W' t1 H6 lW' hW' g6 hW6=>?_⟩;refine ⟨_,rfl,_,rfl,t,ss[i],W,p,q,rp,rq,rfl,hW5.kept g6,G.toNb,by omega,g6 _ _ hz5,ptq,hp,hq,mq,mp,con,λ ra rb t2 H7 ro1 c1 ro2 c2 g7 hW7=>?_⟩;have eW:=kKY G.toNb pls.can hp hq pq mq mp ro1 ro2 c1 c2 lW' hW';have P7:=pls'.out G0 hp hq ro1 ro2 c1 c2;refine ⟨_,rfl,_,rfl,t2,t1,jL W p q ra rb,rfl,hW7,(by rw [<-eW];exact hW6.kept g7),λ H8 g8=>⟨_,rfl,qV ?_⟩⟩;have g58:=g6.trans (g7.trans g8);have E8:=E5.kept g58;refine ⟨⟨_,_,_,t2,_,X++Y,rfl,hW7.kept g8,E8,P7,?_,(λ b o h1 h2 h3=>g58 _ _ (f5 b o h1 h2 h3)),p5.kept g58⟩,?_⟩
   ·have:=congrArg List.length sp
    simp at this ⊢;omega
   ·obtain ⟨us,u1,u2,_⟩:=E8
    rw [hmu];show lO (H8 l)<_;rw [u1];show (us.map V.ref).length<_;rw [length_map];have:=congrArg List.length sp;simp at this;rw [u2];simp;omega
 ·rintro σ H1 Q1 Q2 m ⟨v,e1,h0,kk⟩
  refine ⟨v,e1,h0,λ u nu=>?_⟩;obtain ⟨d,e,h1,h2,h3,h4,kk',e5,q1⟩:=kk u nu;exact ⟨d,e,h1,h2,h3,h4,kk',e5,m _ _ q1⟩
def ltP (a b:Nat×Nat):Prop:=a.1<b.1\/a.1=b.1/\a.2<b.2
def cY:Sp:=λ vs H Q _=>∃ (l w x:Addr) (W X:Rows) (T:List (Nat×Nat)),vs=[.ref l,.ref w,.ref x]/\PairsAt H l T/\WebAt H w W/\WebAt H x X/\X.length=W.length/\W.length<=42/\T.length<=900/\(∀ t∈T,t.1<t.2/\t.2<W.length/\¬ E W t.1 t.2/\E X t.1 t.2)/\T.Pairwise ltP/\∀ H',Same H H'->Q (.bl true) H'
theorem fK {f:Addr} {fd:FuncData} (F:Fun K "_law_are_ties" "_law_are_ties" jU f fd) (z_isinstance:mg "isinstance" = none) (z_list:mg "list" = none) (z_enumerate:mg "enumerate" = none) (z_len:mg "len" = none) (z_tuple:mg "tuple" = none):FnOk P w K mg base CX0 1 f fd ["_law_added","_law_web_here","_law_made"] (cY):=by
 refine F.ok sc_law_are_ties (λ vs H Q EX h=>?_) (λ cdv A outer s0 H vs Q EX hr h=>?_)
 ·obtain ⟨l,w,x,W,X,T,rfl,_⟩:=h
  rfl
 obtain ⟨l,w,x,W,X,T,rfl,hT,hW,hX,lX,h42,lT,all,srt,k⟩:=h
 refine ⟨_,(kD (xN (jY (jX (kN Own.call_isi rfl z_isinstance PyProof.Rows.boot_isinstance (kA (pv 0) (kA (wA (v:=.ty "list") rfl z_list PyProof.Rows.boot_list rfl) kB))))) (kI (kS yX)) qN)
   (kD (zJ PassesOwn.never rfl (oU true rfl z_enumerate (kA (pv 0) kB)) (xB rfl (kP (kJ (i:=3) sc_law_are_ties.nd rfl (Or.inl rfl)) (kP (kJ (i:=4) sc_law_are_ties.nd rfl (Or.inl rfl)) qW))) (kD (xN (PW.pt (zR (jY (jX (kN Own.call_isi rfl z_isinstance PyProof.Rows.boot_isinstance (kA (pv 4) (kA (wA (v:=.ty "tuple") rfl z_tuple PyProof.Rows.boot_tuple rfl) kB))))) (zR (kY bV (kN kO rfl z_len PySem.boot_len (kA (pv 4) kB)) kM (qO _)) (zH (jY (kCW kJP rM rM kM (kX qX (pv 4) kM (λ _ _=>rfl)) (kX qX (pv 4) kM (λ _ _=>rfl)) (kN kO rfl z_len PySem.boot_len (kA (pv 1) kB)))))))) (kI (kS yX)) qN)
   (kI (xN (PW.pt (zR (kY dF (kX qX (pv 4) kM (λ _ _=>rfl)) (kX qX (pv 1) (kX qX (pv 4) kM (λ _ _=>rfl)) (λ _ _=>rfl)) rfl) (zR (kY yY (kX qX (pv 4) kM (λ _ _=>rfl)) (kX qX (pv 2) (kX qX (pv 4) kM (λ _ _=>rfl)) (λ _ _=>rfl)) rfl) (zH (PW.pt (gU (kY kBN (pv 3) kM (qO _)) (fR (jY (kY (kLB (Nat.lt_of_le_of_lt (Nat.le_add_right _ _) (aS hr))) (kX kZ (pv 0) (qM dE (pv 3) kM) (λ _ _=>rfl)) (pv 4) (qO _)))))))))) (kI (kS yX)) qN))))
   (kI (kS yX)))),?_⟩
 obtain ⟨ss,hl,ls,hss⟩:=id hT;obtain ⟨tw,hw1,lw,hw3⟩:=hW.at;obtain ⟨tx,hx1,lx,hx3⟩:=hX.at;refine ⟨_,rfl,_,_,_,_,rfl,.lst hl,rfl,_,rfl,qV ?_⟩;refine ⟨_,rfl,l,rfl,⟨_,SqL.of hl⟩,sJ (k:=true) (xs:=ss.map V.ref) (λ i σ H2=>∃ (x3 x4:Option V),σ=[some (.ref l),some (.ref w),some (.ref x),x3,x4]/\Same H H2) ⟨none,none,rfl,Same.refl _⟩ ?_ ?_ ?_⟩
 ·rintro i σ H2 _ ⟨x3,x4,rfl,g2⟩
  exact SqL.of (g2 _ _ hl)
 ·rintro i y Z σ H2 hy nZ ⟨x3,x4,rfl,g2⟩
  rw [List.getElem?_map] at hy;obtain ⟨c,ec,rfl⟩:=Option.map_eq_some_iff.mp hy;have hi:i<T.length:=by rw [<-ls];exact (List.getElem?_eq_some_iff.mp ec).1
  have et:=List.getElem?_eq_getElem hi;have hc0:=hss i c _ ec et;obtain ⟨o1,o2,o3,o4⟩:=all _ (getElem_mem hi)
  have prev:0<i->∃ c' t',ss[i-1]?=some c'/\H c'=some (.tup [vn t'.1,vn t'.2])/\ltP t' T[i]:=λ h0=>by
   have h':i-1<T.length:=by omega
   refine ⟨ss[i-1]'(by omega),T[i-1],List.getElem?_eq_getElem (by omega),hss (i-1) _ _ (List.getElem?_eq_getElem (by omega)) (List.getElem?_eq_getElem h'),?_⟩;exact pairwise_iff_getElem.mp srt (i-1) i h' hi (by omega)
  generalize T[i]=tt at *;obtain ⟨t1,t2⟩:=tt;simp only at o1 o2 o3 o4 hc0;have gZ:=g2.trans (kE nZ (.tup [.int i,.ref c]));refine ⟨Z,_,rfl,SqT.of kC,rfl,_,_,rfl,_,_,rfl,rfl,?_⟩;generalize upd H2 Z (.tup [.int i,.ref c])=H3 at *;have hc:=gZ _ _ hc0;refine ⟨_,rfl,_,_,_,_,rfl,.tup hc,rfl,_,rfl,qV ?_⟩;refine ⟨_,rfl,c,_,rfl,.inr (SqT.of hc),rfl,_,rfl,?_⟩
  first | rw [show (!decide (V.int (([vn t1,vn t2]:List V).length:Int)=V.int 2))=false from rfl] | rw [show decide (V.int (([vn t1,vn t2]:List V).length:Int)≠V.int 2)=false from rfl]
  refine qV ?_;refine ⟨_,rfl,c,_,_,_,rfl,rfl,SqT.of hc,jM (j:=0) rfl,_,_,rfl,rfl,_,rfl,?_⟩;rw [decide_eq_true (show (0:Int)<=(t1:Int) by omega)];refine uT ⟨_,rfl,c,_,_,_,rfl,rfl,SqT.of hc,jM (j:=1) rfl,_,_,rfl,rfl,_,rfl,?_⟩;rw [decide_eq_true (show (t1:Int)<(t2:Int) by omega)];refine uT ⟨_,rfl,w,_,rfl,.inr (SqT.of (gZ _ _ hw1)),_,_,rfl,rfl,_,rfl,?_⟩;rw [decide_eq_true (show (t2:Int)<(((tw.map V.ref).length:Nat):Int) by rw [length_map];omega)];refine qV ?_;have lt1:t1<W.length:=by omega
  have er:=List.getElem?_eq_getElem lt1;obtain ⟨b',e1,e2⟩:=hw3 _ _ er;have nw:t2∉W[t1]:=λ m=>o3 ⟨_,er,m⟩;obtain ⟨rx,erx,mx⟩:=o4;obtain ⟨b2,f1,f2⟩:=hx3 _ _ erx;generalize W[t1]=row at *;refine ⟨_,rfl,c,_,_,_,rfl,rfl,SqT.of hc,jM (j:=1) rfl,_,rfl,_,rfl,c,_,_,_,rfl,rfl,SqT.of hc,jM (j:=0) rfl,w,_,_,_,rfl,rfl,SqT.of (gZ _ _ hw1),e1,b',_,rfl,.inr (SqT.of (gZ _ _ e2)),rfl,vQ _,_,rfl,?_⟩;rw [if_neg (by decide),aN,decide_eq_false nw];refine qV ?_;refine ⟨_,rfl,c,_,_,_,rfl,rfl,SqT.of hc,jM (j:=1) rfl,_,rfl,_,rfl,c,_,_,_,rfl,rfl,SqT.of hc,jM (j:=0) rfl,x,_,_,_,rfl,rfl,SqT.of (gZ _ _ hx1),f1,b2,_,rfl,.inr (SqT.of (gZ _ _ f2)),rfl,vQ _,_,rfl,?_⟩;rw [if_pos rfl,aN,decide_eq_true mx];refine qV ?_;refine ⟨_,rfl,_,_,rfl,rfl,_,rfl,?_⟩;by_cases h0:0<i
  ·rw [decide_eq_true (show (i:Int)>0 by omega)]
   obtain ⟨c',t',ec',hc',lt'⟩:=prev h0
   have ati:atI (ss.map V.ref) ((i:Int)-1)=some (.ref c'):=by
    rw [show (i:Int)-1=((i-1:Nat):Int) by omega];exact jM (by rw [List.getElem?_map,ec'];rfl)
   refine uT ⟨_,rfl,_,rfl,_,_,rfl,rfl,l,_,_,_,rfl,rfl,SqL.of (gZ _ _ hl),ati,_,rfl,c',c,[(t'.1:Int),(t'.2:Int)],[(t1:Int),(t2:Int)],rfl,rfl,SqT.of (gZ _ _ hc'),SqT.of hc,_,rfl,?_⟩
   have lx':HT.lexLt [(t'.1:Int),(t'.2:Int)] [(t1:Int),(t2:Int)]=true:=by
    unfold ltP at lt';rw [HT.lexLt_cons,HT.lexLt_cons];rcases lt' with z | ⟨z1,z2⟩
    ·simp only at z
     rw [if_neg (by omega),decide_eq_true (by omega)]
    ·simp only at z1 z2
     rw [if_pos (by omega),if_neg (by omega),decide_eq_true (by omega)]
   rw [lx'];exact qV ⟨_,_,rfl,gZ⟩
  ·rw [decide_eq_false (show ¬ (i:Int)>0 by omega)]
   exact qV (qV ⟨_,_,rfl,gZ⟩)
 ·rintro σ H2 ⟨x3,x4,rfl,g2⟩
  exact k H2 g2
theorem kAM {W:Rows} (S:Nb W) {x y:Nat} (e:E W x y):key x y∈Fc.tiesS W:=by
 have ne:=(S.e e).2.2;unfold Fc.tiesS;rw [mem_filter,Fc.mem_stepsS];unfold key;simp only [decide_eq_true_iff];rcases Nat.lt_or_ge x y with c | c
 ·rw [Nat.min_eq_left (by omega),Nat.max_eq_right (by omega)]
  exact ⟨e,c⟩
 ·rw [Nat.min_eq_right (by omega),Nat.max_eq_left (by omega)]
  exact ⟨S.sym _ _ e,by omega⟩
theorem tD {W:Rows} {t:Nat×Nat} (h:t∈Fc.tiesS W):t.1<t.2/\E W t.1 t.2:=by
 unfold Fc.tiesS at h;obtain ⟨h1,h2⟩:=mem_filter.mp h;exact ⟨of_decide_eq_true h2,Fc.mem_stepsS.mp h1⟩
theorem add_mem {W X:Rows} {t:Nat×Nat}:t∈mG W X↔t∈Fc.tiesS X/\t∉Fc.tiesS W:=by
 unfold mG;rw [mem_filter,decide_eq_true_iff]
theorem kBE {X:Rows} (S:Nb X):(Fc.tiesS X).Nodup:=by
 unfold Fc.tiesS;exact ((Fc.sortP_perm _).nodup_iff.mpr (xL S.nd)).filter _
theorem kFQ {W X:Rows} {T:List (Nat×Nat)} (G:Wb W) (P:Plus W X T):Plus W X (mG W X):=by
 have SX:=P.wb.toNb;refine ⟨P.wb,P.can,P.len,(kBE SX).filter _,λ t ht=>tD (add_mem.mp ht).1,λ p r0 r e0 e1=>?_⟩;have h:=P.row p r0 r e0 e1
 have:(r.filter λ x=>decide (key p x∉mG W X))=r.filter λ x=>decide (key p x∉T):=by
  refine List.filter_congr λ x hx=>?_;rw [Bool.eq_iff_iff,decide_eq_true_iff,decide_eq_true_iff];have ex:E X p x:=⟨r,e1,hx⟩;have kx:=kAM SX ex;constructor
  ·intro h1 h2
   refine h1 (add_mem.mpr ⟨kx,λ h3=>?_⟩);obtain ⟨a1,a2⟩:=tD h3;have:=(P.e0 a2).2
   have ke:key (key p x).1 (key p x).2=key p x:=by
    unfold key;simp only;refine Prod.ext ?_ ?_
    ·show min (min p x) (max p x)=min p x
     omega
    ·show max (min p x) (max p x)=max p x
     omega
   rw [ke] at this;exact this h2
  ·intro h1 h2
   have m:x∈r.filter λ x=>decide (key p x∉T):=mem_filter.mpr ⟨hx,decide_eq_true h1⟩;have m0:=(h.mem x).mp m;exact (add_mem.mp h2).2 (kAM G.toNb ⟨r0,e0,m0⟩)
 rw [this];exact h
theorem kEN {X:Rows} (S:Nb X):(Fc.tiesS X).Pairwise ltP:=by
 have nd:=kBE S
 have so:(Fc.tiesS X).Pairwise (λ a b=>Fc.leP a b=true):=by
  unfold Fc.tiesS;exact (Fc.sortP_sorted _).filter _
 refine (so.and nd).imp λ {a b} ⟨h1,h2⟩=>?_;rw [Fc.leP_iff] at h1;unfold ltP;rcases h1 with z | ⟨z1,z2⟩
 ·exact .inl z
 ·refine .inr ⟨z1,?_⟩
  have:a.2≠b.2:=λ q=>h2 (Prod.ext z1 q);omega
theorem kJG {W X:Rows} (S:Nb X) (h:X.length<=42):(mG W X).length<=900:=by
 have a:=length_filter_le (λ t=>decide (t∉Fc.tiesS W)) (Fc.tiesS X);have b:=Fc.ties_len S;have c:=yD S h;show ((Fc.tiesS X).filter _).length<=900;omega
theorem kJS {H:Hp} {t x y:Addr} {A:Rows} {T:List (Nat×Nat)} (h:H t=some (.tup [.ref x,.ref y])) (hx:WebAt H x A) (hy:PairsAt H y T):Dt K H (.tuple [aQ A,yC T]) (.ref t):=by
 unfold Dt;refine ⟨t,_,rfl,SqT.of h,?_⟩;unfold DtAll;refine ⟨_,_,rfl,hx.dt,?_⟩;unfold DtAll;refine ⟨_,_,rfl,hy.dt,?_⟩;unfold DtAll
 rfl
theorem kJJ (A:Rows) (T:List (Nat×Nat)):SeqAt.shaped (.tuple [aQ A,yC T])=true:=by
 obtain ⟨h1,h2⟩:=rD A;obtain ⟨h3,h4⟩:=nH T;unfold aQ yC SeqAt.shaped;simp only [PyData.canLay0,PyData.depth,PyData.canLayAll0,PyData.depthAll,h1,h3]
 first | (simp;omega) | (rw [Bool.and_eq_true];exact ⟨rfl,decide_eq_true (by omega)⟩) | simp_all
theorem kCY (T:List (Nat×Nat)):PyData.eqvAll (T.map λ t=>prD t.1 t.2) (T.map λ t=>prD t.1 t.2)=true:=by
 induction T with
 | nil=>rfl
 | cons t T ih =>
  rw [map_cons,PyData.eqvAll,ih,fS];simp
theorem kJV (A:Rows) (T:List (Nat×Nat)):PyData.eqv (.tuple [aQ A,yC T]) (.tuple [aQ A,yC T])=true:=by
 rw [PyData.eqv]
 have:PyData.eqv (yC T) (yC T)=true:=by
  unfold yC;rw [PyData.eqv];exact kCY T
 simp [PyData.eqvAll,gB,this]
def gH:Sp:=λ vs H Q _=>∃ (a t:Addr) (W:Rows),vs=[.ref a,.ref t]/\PotAt H a/\WebAt H t W/\Wb W/\Fc.Flat W/\(∀ (p:Nat) (row:List Nat),W[p]?=some row->Can row)/\W.length<=40/\∀ H',SameBut a H H'->PotAt H' a->Q (.bl true) H'
theorem oZ {f:Addr} {fd:FuncData} (F:Fun K "_law_right" "_law_right" yM f fd) (cE:Own.Has P w K mg base "filled" ["web"] 6 (tJ)) (xP:Own.Has P w K mg base "_law_three_cornered" ["_law_web_here"] 2 (gG)) (xX:Own.Has P w K mg base "_law_is_web" ["_law_found","_law_due"] 1 (fP)) (qH:Own.Has P w K mg base "_law_from_least" ["_law_row"] 1 (uN)) (bF:Own.Has P w K mg base "_law_back" ["_law_pot_here","_law_made","_law_added"] 5 (oJ)) (wW:Own.Has P w K mg base "_law_are_ties" ["_law_added","_law_web_here","_law_made"] 1 (cY)) (z_isinstance:mg "isinstance" = none) (z_tuple:mg "tuple" = none) (z_len:mg "len" = none) (z_all:mg "all" = none) (z_list:mg "list" = none):FnOk P w K mg base CX0 7 f fd ["_law_pot_here","_law_web_here"] (gH):=by
 refine F.ok sc_law_right (λ vs H Q EX h=>?_) (λ cdv A outer s0 H vs Q EX hr h=>?_)
 ·obtain ⟨a,t,W,rfl,_⟩:=h
  rfl
 obtain ⟨a,t,W,rfl,pa,hW,G,fl,can,h40,k⟩:=h
 refine ⟨_,(kD (kT (i:=2) sc_law_right.nd rfl (Or.inl rfl) (Own.pe_has cE (hr.mono (by decide)) rfl (kA (pv 1) kB)))
   (kD (xN (PW.pt (zR (jY (jX (kN Own.call_isi rfl z_isinstance PyProof.Rows.boot_isinstance (kA (pv 2) (kA (wA (v:=.ty "tuple") rfl z_tuple PyProof.Rows.boot_tuple rfl) kB))))) (zR (kY bV (kN kO rfl z_len PySem.boot_len (kA (pv 2) kB)) kM (qO _)) (zH (jY (jX (kN Own.call_isi rfl z_isinstance PyProof.Rows.boot_isinstance (kA (kX qX (pv 2) kM (λ _ _=>rfl)) (kA (wA (v:=.ty "tuple") rfl z_tuple PyProof.Rows.boot_tuple rfl) kB))))))))) (kI (kS yX)) qN)
   (kD (jZ (pv 2) (xB rfl (kP (kJ (i:=3) sc_law_right.nd rfl (Or.inl rfl)) (kP (kJ (i:=4) sc_law_right.nd rfl (Or.inl rfl)) qW))))
   (kD (xN (PW.pt (zR (kY bV (kN kO rfl z_len PySem.boot_len (kA (pv 3) kB)) (kN kO rfl z_len PySem.boot_len (kA (pv 1) kB)) (qO _)) (zH (jY (jX (kN (nX rfl) rfl z_all PyProof.Rows.boot_all (kA (zZ (Nc:=["_law_row"]) (js:=[none]) rfl rfl (wS (pv 3)) (CS.of rfl rfl) rfl (λ C s₂ H₂ fp pins=>(kJ (i:=0) (show List.Nodup (α:=Str) ["_law_row"] by decide +kernel) rfl (Or.inl rfl))) (λ C s₂ H₂ fp pins D L=>(jV (xJ (kN (show xQ _ _ (λ xs H Q=>∃ x t T b,xs=[x,.ty T]/\TyOf K H x t/\PySem.W.kitOne K t (.type T)=some b/\Q (.bl b) H) from Own.call_isi) rfl z_isinstance PyProof.Rows.boot_isinstance (kA (pv 0) (kA (wA (v:=.ty "tuple") rfl z_tuple PyProof.Rows.boot_tuple rfl) kB))))))) kB))))))) (kI (kS yX)) qN)
   (kD (xN (PW.pt (zR (jY (jX (Own.pe_has xX (hr.mono (by decide)) rfl (kA (pv 3) (kA (qI qR rfl z_tuple PyProof.Rows.boot_tuple (kA (zZ (Nc:=["_law_row"]) (js:=[none]) rfl rfl (wS (pv 3)) (CS.of rfl rfl) rfl (λ C s₂ H₂ fp pins=>(kJ (i:=0) (show List.Nodup (α:=Str) ["_law_row"] by decide +kernel) rfl (Or.inl rfl))) (λ C s₂ H₂ fp pins D L=>(jV (xJ (Own.pe_has qH (hr.mono (by decide)) rfl (kA (qI (show xQ _ _ (λ xs H Q=>∃ p ys,xs=[.ref p]/\(SqL K H p ys\/SqT K H p ys)/\∀ l,H l=none->Q (.ref l) (upd H l (.lst ys))) from jK) rfl z_list PyProof.Rows.boot_list (kA (pv 0) kB)) kB)))))) kB)) kB))))) (zH (jY (jX (Own.pe_has xP (hr.mono (by decide)) rfl (kA (pv 3) kB))))))) (kI (kS yX)) qN)
   (kD (xN (PW.pt (zR (jY (jX (Own.pe_has wW (hr.mono (by decide)) rfl (kA (pv 4) (kA (pv 1) (kA (pv 3) kB)))))) (zH (kY (hG hr.units) (Own.pe_has bF (hr.mono (by decide)) rfl (kA (pv 0) (kA (pv 3) (kA (pv 4) kB)))) (pv 1) (qO _))))) (kI (kS yX)) qN)
   (kD (kT (i:=5) sc_law_right.nd rfl (Or.inl rfl) (qI jK rfl z_list PyProof.Rows.boot_list (kA (pv 4) kB)))
   (kD (qJ (jW PySem.F.plainAttrs_list PySem.F.slot_list_append PySem.F.type_list_append zK (pv 4) (kA (yB (kA kM (kA kM kB))) kB)))
   (kI (kS (bU (kLC hr.units) (Own.pe_has cE (hr.mono (by decide)) rfl (kA (pv 1) kB)) (yB (kA (pv 3) (kA (pv 5) kB))) (qO _)))))))))))),?_⟩
 have S:=G.toNb;obtain ⟨px,py,hpot,px0⟩:=id pa;refine ⟨_,rfl,t,W,rfl,hW,G,fl,can,h40,λ z x l X T H1 g1 hz hX hP nl GX fX PX oX fd=>?_⟩;have SX:=GX.toNb;have lX:X.length=W.length:=PX.len;have PA:=kFQ G PX;have alen:=kJG (W:=W) SX (show X.length<=42 by omega);obtain ⟨tx,hx1,lx,hx3⟩:=id hX;obtain ⟨tw,hw1,lw,hw3⟩:=id hW;have la:l≠a:=λ q=>by rw [q,hpot] at nl;cases nl
 refine ⟨_,rfl,_,_,_,_,rfl,.tup hz,rfl,_,rfl,qV ?_⟩;refine ⟨_,rfl,z,_,rfl,.inr (SqT.of hz),rfl,_,rfl,?_⟩
 first | rw [show (!decide (V.int (([V.ref x,V.ref l]:List V).length:Int)=V.int 2))=false from rfl] | rw [show decide (V.int (([V.ref x,V.ref l]:List V).length:Int)≠V.int 2)=false from rfl]
 refine qV ?_;refine ⟨_,rfl,z,_,_,_,rfl,rfl,SqT.of hz,jM (j:=0) rfl,_,_,_,_,rfl,.tup hx1,rfl,_,rfl,qV ?_⟩;refine ⟨_,rfl,z,_,rfl,SqT.of hz,rfl,_,_,rfl,_,_,rfl,rfl,?_⟩;refine ⟨_,rfl,x,_,rfl,.inr (SqT.of hx1),_,rfl,t,_,rfl,.inr (SqT.of (g1 _ _ hw1)),rfl,_,rfl,?_⟩;rw [length_map,length_map,lx,lw,lX]
 first | rw [show (!decide (V.int ((W.length:Nat):Int)=V.int ((W.length:Nat):Int)))=false by simp] | rw [show decide (V.int ((W.length:Nat):Int)≠V.int ((W.length:Nat):Int))=false by simp]
 refine qV ?_;refine ⟨_,rfl,x,rfl,⟨_,SqT.of hx1⟩,λ D nD=>?_⟩;refine wM (xs:=tx.map V.ref) (λ i σ H2=>∃ (x0:Option V),σ=[x0]/\Same H1 H2/\H2 D=some (.lst ((List.replicate i true).map V.bl))) ⟨none,rfl,kE nD _,kC⟩ ?_ ?_ ?_
 ·rintro i σ H2 _ ⟨x0,rfl,g2,_⟩
  exact SqT.of (g2 _ _ hx1)
 ·rintro i y σ H2 hy ⟨x0,rfl,g2,hD⟩
  rw [List.getElem?_map] at hy;obtain ⟨b,eb,rfl⟩:=Option.map_eq_some_iff.mp hy;have hi:=(List.getElem?_eq_some_iff.mp eb).1;have hb:=g2 _ _ (hx3 i b _ eb (List.getElem?_eq_getElem (by omega)));refine ⟨_,rfl,_,_,_,_,rfl,.tup hb,rfl,_,hD,(by rw [length_map,List.length_replicate];exact qG (by omega)),?_⟩;exact ⟨_,rfl,qD nD g2,(by rw [List.replicate_succ',map_append];exact kC)⟩
 rintro σ H2 ⟨x0,rfl,g2,hD⟩;refine ⟨D,_,rfl,SqL.of hD,_,rfl,?_⟩;rw [show (List.replicate (tx.map V.ref).length true).all id=true by simp];refine qV ?_;have g12:=g1.trans g2
 have hx2:=g2 _ _ hx1
 refine ⟨_,rfl,_,rfl,x,rfl,⟨_,SqT.of hx2⟩,λ D2 nD2=>?_⟩;refine wM (xs:=tx.map V.ref) (λ i σ H3=>∃ (x0:Option V) (cs:List V),σ=[x0]/\Same H2 H3/\H3 D2=some (.lst cs)/\TpsAt H3 cs (X.take i)) ⟨none,[],rfl,kE nD2 _,kC,[],rfl,rfl,λ j b t e=>by simp at e⟩ ?_ ?_ ?_
 ·rintro i σ H3 _ ⟨x0,cs,rfl,g3,_⟩
  exact SqT.of (g3 _ _ hx2)
 ·rintro i y σ H3 hy ⟨x0,cs,rfl,g3,hD2,tc⟩
  rw [List.getElem?_map] at hy;obtain ⟨b,eb,rfl⟩:=Option.map_eq_some_iff.mp hy;have hi:i<X.length:=by rw [<-lx];exact (List.getElem?_eq_some_iff.mp eb).1
  have et:=List.getElem?_eq_getElem hi;have hb:=g3 _ _ (g2 _ _ (hx3 i b _ eb et));have rne:=GX.ne et;have rlen:=SX.len et;have rcan:=PX.can i _ et;have rnd:=SX.nd _ _ et
  have lc:cs.length=i:=by
   obtain ⟨as,e1,e2,_⟩:=tc;rw [e1,length_map,e2,length_take];omega
  have tk:X.take (i+1)=X.take i++[X[i]]:=by rw [take_succ,et];rfl
  rw [tk];generalize X[i]=row at *;refine ⟨_,rfl,b,_,rfl,.inr (SqT.of hb),λ l2 nl2=>?_⟩;have gl2:=kE nl2 (.lst (row.map vn));refine ⟨l2,row,rfl,kC,rne,by omega,λ M t2 H4 mM leM g4 nt2 ht2=>?_⟩;rw [kFH rnd rcan mM leM] at ht2;have g34:=gl2.trans g4;refine ⟨_,g34 _ _ hD2,(by rw [lc];exact qG (by omega)),?_⟩;exact ⟨_,cs++[.ref t2],rfl,qD nD2 (g3.trans g34),kC,((tc.kept g34).app ht2).over (g34 _ _ hD2)⟩
 rintro σ H3 ⟨x0,cs,rfl,g3,hD2,tc⟩;rw [length_map,lx,take_length] at tc;refine ⟨D2,_,rfl,.inl ⟨SqL.of hD2,λ xw nxw=>?_⟩⟩;have gx:=kE nxw (.tup cs);have hXw:=(tc.kept gx).web kC;have g13:=g2.trans (g3.trans gx);have hX3:=hX.kept g13;generalize upd H3 xw (.tup cs)=H4 at *;refine ⟨x,xw,X,rfl,hX3,hXw,λ H5 g5=>⟨_,rfl,qV ?_⟩⟩;have g15:=g13.trans g5;have three:=((Fc.three_cornered SX).mp ⟨fX,Fc.odd_none oX⟩).1;refine ⟨_,rfl,x,X,rfl,hX.kept g15,SX,by omega,three,λ H6 g6=>⟨_,rfl,qV ?_⟩⟩;have g16:=g15.trans g6;have g06:=g1.trans g16
 have tfact:∀ s∈mG W X,s.1<s.2/\s.2<W.length/\¬ E W s.1 s.2/\E X s.1 s.2:=λ s hs=>by
  obtain ⟨m1,m2⟩:=add_mem.mp hs;obtain ⟨a1,a2⟩:=tD m1;refine ⟨a1,by rw [<-lX];exact (SX.e a2).2.1,λ e=>m2 ?_,a2⟩;have:=kAM S e;rwa [show key s.1 s.2=s by unfold key;exact Prod.ext (Nat.min_eq_left (by omega)) (Nat.max_eq_right (by omega))] at this
 refine ⟨_,rfl,_,rfl,_,rfl,l,t,x,W,X,mG W X,rfl,hP.kept g16,hW.kept g06,hX.kept g16,lX,by omega,alen,tfact,(kEN SX).filter _,λ H7 g7=>⟨_,rfl,qV ?_⟩⟩;have g17:=g16.trans g7;have g07:=g06.trans g7;have p7:=pa.kept g07;have hP7:=hP.kept g17;have hX7:=hX.kept g17;have hW7:=hW.kept g07;refine ⟨_,rfl,_,rfl,_,rfl,a,x,l,W,X,mG W X,rfl,p7,hX7,hP7,PA,G,can,h40,alen,λ t' H8 s8 p8 hW8=>?_⟩;have hW8':=hW7.pot s8 p7;refine ⟨_,rfl,aQ W,aQ W,hW8.dt,hW8'.dt,fM _,fM _,_,rfl,?_⟩;rw [gB];refine qV ?_;have hP8:=hP7.pot la s8 p7;have hX8:=hX7.pot s8 p7
 obtain ⟨ss,q1,q2,q3⟩:=id hP8
 refine ⟨_,rfl,l,_,rfl,.inl (SqL.of q1),λ kl nkl=>?_⟩;have gk:=kE nkl (.lst (ss.map V.ref));have hK:PairsAt (upd H8 kl (.lst (ss.map V.ref))) kl (mG W X):=⟨ss,kC,q2,λ i b t e1 e2=>gk _ _ (q3 i b t e1 e2)⟩;have q19:=gk _ _ q1;have kll:kl≠l:=(kL q1 nkl).symm;have hX9:=hX8.kept gk;have hW9:=hW8'.kept gk;have p9:=p8.kept gk;have s9:SameBut a H _:=(SameBut.of g07).trans (s8.trans (.of gk));generalize upd H8 kl (.lst (ss.map V.ref))=H9 at *;refine ⟨_,rfl,.inl ⟨rfl,_,SqL.of q19⟩,yS2,λ y0 ny0=>?_⟩;have gy:=kE ny0 (.tup [V.int 0,V.int 0]);refine ⟨l,_,_,rfl,rfl,gy _ _ q19,(by rw [length_map,q2];exact qG (by omega)),?_⟩
 have tups:∀ (b:Addr) (xs:List V),H9 b=some (.tup xs)->upd (upd H9 y0 (.tup [V.int 0,V.int 0])) l (.lst (ss.map V.ref++[.ref y0])) b=some (.tup xs):=λ b xs e=>by
  rw [kK λ q=>by rw [q,q19] at e;cases e];exact gy _ _ e
 have webK:∀ {c:Addr} {Y:Rows},WebAt H9 c Y->WebAt (upd (upd H9 y0 (.tup [V.int 0,V.int 0])) l (.lst (ss.map V.ref++[.ref y0]))) c Y:=λ h=>by
  obtain ⟨us,u1,u2,u3⟩:=h;exact ⟨us,tups _ _ u1,u2,λ j b row e1 e2=>tups _ _ (u3 j b row e1 e2)⟩
 have hX10:=webK hX9;have hW10:=webK hW9
 have hK10:PairsAt (upd (upd H9 y0 (.tup [V.int 0,V.int 0])) l (.lst (ss.map V.ref++[.ref y0]))) kl (mG W X):=by
  obtain ⟨us,u1,u2,u3⟩:=hK;refine ⟨us,?_,u2,λ j b row e1 e2=>tups _ _ (u3 j b row e1 e2)⟩;rw [kK kll];exact gy _ _ u1
 have p10:PotAt (upd (upd H9 y0 (.tup [V.int 0,V.int 0])) l (.lst (ss.map V.ref++[.ref y0]))) a:=(p9.kept gy).other la.symm
 have s10:SameBut a H (upd (upd H9 y0 (.tup [V.int 0,V.int 0])) l (.lst (ss.map V.ref++[.ref y0]))):=λ b o nb e=>by
  rw [kK (kL e nl)];exact gy _ _ (s9 b o nb e)
 generalize upd (upd H9 y0 (.tup [V.int 0,V.int 0])) l (.lst (ss.map V.ref++[.ref y0]))=H10 at *;refine ⟨_,rfl,t,W,rfl,hW10,G,fl,can,h40,λ z2 x2 l2 X2 T2 H11 g11 hz2 hX2 hP2 nl2 GX2 fX2 PX2 oX2 fd2=>?_⟩;have eX:=fd.one fd2;subst eX;refine ⟨_,rfl,_,rfl,yS2,λ y1 n1=>?_⟩;have g12':=kE n1 (.tup [.ref x,.ref kl]);have d1:=kJS (K:=K) (g12' _ _ hz2) (hX2.kept g12') (hP2.kept g12');have d2:=kJS (K:=K) (kC (H:=H11) (a:=y1) (o:=.tup [.ref x,.ref kl])) ((hX10.kept g11).kept g12') ((hK10.kept g11).kept g12');refine ⟨_,_,d1,d2,kJJ _ _,kJJ _ _,?_⟩;rw [if_neg (by decide),kJV];exact k _ (s10.trans (.of (g11.trans g12'))) ((p10.kept g11).kept g12')
theorem kLD {f:Addr} {fd:FuncData} (F:Fun K "law" "law" bR f fd) (dP:Own.Has P w K mg base "_law_pot" ["_law_script","_law_k"] 1 (kEY K)) (aA:Own.Has P w K mg base "_law_drawn" ["_law_pot_here"] 4 (gK)) (uX:Own.Has P w K mg base "_law_right" ["_law_pot_here","_law_web_here"] 7 (gH)) (z_range:mg "range" = none) (z_max:mg "max" = none) (z_min:mg "min" = none) (z_len:mg "len" = none):FnOk P w K mg base CX0 8 f fd ["_law_script"] (kBF K):=by
 refine F.ok sc_law (λ vs H Q E h=>?_) (λ cdv A outer s H vs Q E hr h=>?_)
 ·obtain ⟨a,ns,rfl,_⟩:=h
  rfl
 obtain ⟨a,ns,rfl,hS,h63,q⟩:=h
 refine ⟨_,(kD (zJ PassesOwn.never rfl (yS rfl z_range (kA (kN (nW rfl) rfl z_max PyProof.Rows.boot_max (kA kM (kA (kN (kEA rfl) rfl z_min PyProof.Rows.boot_min (kA kM (kA (kN kO rfl z_len PySem.boot_len (kA (pv 0) kB)) kB))) kB))) kB)) (kJ (i:=1) sc_law.nd rfl (Or.inl rfl)) (kD (kT (i:=2) sc_law.nd rfl (Or.inl rfl) (Own.pe_has dP (hr.mono (by decide)) rfl (kA (pv 0) (kA (pv 1) kB))))
   (kD (kT (i:=3) sc_law.nd rfl (Or.inl rfl) (Own.pe_has aA (hr.mono (by decide)) rfl (kA (pv 2) kB)))
   (kI (xN (jY (jX (Own.pe_has uX (hr.mono (by decide)) rfl (kA (pv 2) (kA (pv 3) kB))))) (kI (kS yX)) qN)))))
   (kI (kS yX))),?_⟩
 have hl:(ns.map V.int).length=ns.length:=length_map _;refine ⟨_,rfl,a,_,rfl,.inl hS,5,_,rfl,1,_,rfl,?_⟩;rw [hl];generalize hj:(if (if (ns.length:Int)<5 then (ns.length:Int) else 5)>1 then (if (ns.length:Int)<5 then (ns.length:Int) else 5) else 1)=j;have j0:0<=j:=by rw [<-hj];split<;>omega
 have j1:j<=63:=by
  rw [<-hj]
  split
  ·split<;>omega
  ·omega
 refine ⟨j,rfl,by omega,by omega,wK (lo:=0) (n:=j.toNat) (λ i σ H2=>∃ (x1 x2 x3:Option V),σ=[some (.ref a),x1,x2,x3]/\Same H H2)
  ⟨none,none,none,rfl,Same.refl H⟩ ?_ ?_⟩
 ·rintro i σ H2 hi ⟨x1,x2,x3,rfl,g⟩
  refine ⟨_,rfl,_,rfl,a,ns,_,rfl,g.seq hS,h63,(by omega),(by omega),λ p x y H3 hx g3 hn hp=>?_⟩;have hnp:H p=none:=g.free hn;have gA:Same H H3:=g.trans g3;have pA:PotAt H3 p:=⟨x,y,hp,hx⟩;refine ⟨_,rfl,p,rfl,pA,λ t W H4 s4 p4 hW G fl can l40=>?_⟩;have g4:=keep gA hnp s4;refine ⟨_,rfl,_,rfl,p,t,W,rfl,p4,hW,G,fl,can,l40,λ H5 s5 p5=>⟨_,rfl,qV ?_⟩⟩;exact ⟨_,_,_,rfl,keep g4 hnp s5⟩
 ·rintro σ H2 ⟨x1,x2,x3,rfl,g⟩
  exact q H2
end
theorem uH {α:Type} {n:Nat} {us:List α} (hn:n=1) (h:us.length=n):∃ x0:α,us=[x0]:=by
 subst hn
 match us,h with
 | [x0],_=>exact ⟨_,rfl⟩
theorem zV {α:Type} {n:Nat} {us:List α} (hn:n=2) (h:us.length=n):∃ x0 x1:α,us=[x0,x1]:=by
 subst hn
 match us,h with
 | [x0,x1],_=>exact ⟨_,_,rfl⟩
theorem cA {α:Type} {n:Nat} {us:List α} (hn:n=3) (h:us.length=n):∃ x0 x1 x2:α,us=[x0,x1,x2]:=by
 subst hn
 match us,h with
 | [x0,x1,x2],_=>exact ⟨_,_,_,rfl⟩
theorem kNN {α:Type} {n:Nat} {us:List α} (hn:n=4) (h:us.length=n):∃ x0 x1 x2 x3:α,us=[x0,x1,x2,x3]:=by
 subst hn
 match us,h with
 | [x0,x1,x2,x3],_=>exact ⟨_,_,_,_,rfl⟩
theorem all_mk {l:PySem.W.OpenLaw} {w:World} {K:PySem.W.Frag} {h:Heap} {mg:Str->Option Value} {fa f1 f2 f3 f4 f5 f6 f7 f8 f9 f10 f11 f12 f13 f14 f15 f16 f17 f18 f19 f20 f21 f22 f23 f24 f25 f26 f27 f28 f29 f30 f31 f32 f33 f34 f35 f36 f37 f38 f39 f40:Addr}  (X:K.In h) (G:h.Ns mainGlobals mg) (hfa:mg "law" = some (.ref fa))
  {od1 an1 od2 an2 od3 an3 od4 an4 od5 an5 od6 an6 od7 an7 od8 an8 od9 an9 od10 an10 od11 an11 od12 an12 od13 an13 od14 an14 od15 an15 od16 an16 od17 an17 od18 an18 od19 an19 od20 an20 od21 an21 od22 an22 od23 an23 od24 an24 od25 an25 od26 an26 od27 an27 od28 an28 od29 an29 od30 an30 od31 an31 od32 an32 od33 an33 od34 an34 od35 an35 od36 an36 od37 an37 od38 an38 od39 an39 od40 an40:Option Addr} {sl1 sl2 sl3 sl4 sl5 sl6 sl7 sl8 sl9 sl10 sl11 sl12 sl13 sl14 sl15 sl16 sl17 sl18 sl19 sl20 sl21 sl22 sl23 sl24 sl25 sl26 sl27 sl28 sl29 sl30 sl31 sl32 sl33 sl34 sl35 sl36 sl37 sl38 sl39 sl40:Array (Option Value)} {oc1 kV1 dc1 pm1 cd1 ct1 oc2 kV2 dc2 pm2 cd2 ct2 oc3 kV3 dc3 pm3 cd3 ct3 oc4 kV4 dc4 pm4 cd4 ct4 oc5 kV5 dc5 pm5 cd5 ct5 oc6 kV6 dc6 pm6 cd6 ct6 oc7 kV7 dc7 pm7 cd7 ct7 oc8 kV8 dc8 pm8 cd8 ct8 oc9 kV9 dc9 pm9 cd9 ct9 oc10 kV10 dc10 pm10 cd10 ct10 oc11 kV11 dc11 pm11 cd11 ct11 oc12 kV12 dc12 pm12 cd12 ct12 oc13 kV13 dc13 pm13 cd13 ct13 oc14 kV14 dc14 pm14 cd14 ct14 oc15 kV15 dc15 pm15 cd15 ct15 oc16 kV16 dc16 pm16 cd16 ct16 oc17 kV17 dc17 pm17 cd17 ct17 oc18 kV18 dc18 pm18 cd18 ct18 oc19 kV19 dc19 pm19 cd19 ct19 oc20 kV20 dc20 pm20 cd20 ct20 oc21 kV21 dc21 pm21 cd21 ct21 oc22 kV22 dc22 pm22 cd22 ct22 oc23 kV23 dc23 pm23 cd23 ct23 oc24 kV24 dc24 pm24 cd24 ct24 oc25 kV25 dc25 pm25 cd25 ct25 oc26 kV26 dc26 pm26 cd26 ct26 oc27 kV27 dc27 pm27 cd27 ct27 oc28 kV28 dc28 pm28 cd28 ct28 oc29 kV29 dc29 pm29 cd29 ct29 oc30 kV30 dc30 pm30 cd30 ct30 oc31 kV31 dc31 pm31 cd31 ct31 oc32 kV32 dc32 pm32 cd32 ct32 oc33 kV33 dc33 pm33 cd33 ct33 oc34 kV34 dc34 pm34 cd34 ct34 oc35 kV35 dc35 pm35 cd35 ct35 oc36 kV36 dc36 pm36 cd36 ct36 oc37 kV37 dc37 pm37 cd37 ct37 oc38 kV38 dc38 pm38 cd38 ct38 oc39 kV39 dc39 pm39 cd39 ct39 oc40 kV40 dc40 pm40 cd40 ct40:Value}
  (a1:PySem.W.nsIn K mainGlobals "from_on" = some (some (.ref f1))) (l1:K.lookup f1=some ⟨oc1,od1,.func (PySem.W.fnOf "from_on" "from_on" (kR wI) (kQ wI) (kF wI) .none kV1 dc1 pm1 an1 cd1 ct1),sl1⟩) (c1:PySem.W.codeIn K cd1 "from_on" = true) (k1:PySem.W.keepIn K (.ref f1)=true)
  (a2:PySem.W.nsIn K mainGlobals "from_least" = some (some (.ref f2))) (l2:K.lookup f2=some ⟨oc2,od2,.func (PySem.W.fnOf "from_least" "from_least" (kR xU) (kQ xU) (kF xU) .none kV2 dc2 pm2 an2 cd2 ct2),sl2⟩) (c2:PySem.W.codeIn K cd2 "from_least" = true) (k2:PySem.W.keepIn K (.ref f2)=true)
  (a3:PySem.W.nsIn K mainGlobals "steps_of" = some (some (.ref f3))) (l3:K.lookup f3=some ⟨oc3,od3,.func (PySem.W.fnOf "steps_of" "steps_of" (kR zD) (kQ zD) (kF zD) .none kV3 dc3 pm3 an3 cd3 ct3),sl3⟩) (c3:PySem.W.codeIn K cd3 "steps_of" = true) (k3:PySem.W.keepIn K (.ref f3)=true)
  (a4:PySem.W.nsIn K mainGlobals "hang_together" = some (some (.ref f4))) (l4:K.lookup f4=some ⟨oc4,od4,.func (PySem.W.fnOf "hang_together" "hang_together" (kR jE) (kQ jE) (kF jE) .none kV4 dc4 pm4 an4 cd4 ct4),sl4⟩) (c4:PySem.W.codeIn K cd4 "hang_together" = true) (k4:PySem.W.keepIn K (.ref f4)=true)
  (a5:PySem.W.nsIn K mainGlobals "ties" = some (some (.ref f5))) (l5:K.lookup f5=some ⟨oc5,od5,.func (PySem.W.fnOf "ties" "ties" (kR cZ) (kQ cZ) (kF cZ) .none kV5 dc5 pm5 an5 cd5 ct5),sl5⟩) (c5:PySem.W.codeIn K cd5 "ties" = true) (k5:PySem.W.keepIn K (.ref f5)=true)
  (a6:PySem.W.nsIn K mainGlobals "behind" = some (some (.ref f6))) (l6:K.lookup f6=some ⟨oc6,od6,.func (PySem.W.fnOf "behind" "behind" (kR vN) (kQ vN) (kF vN) .none kV6 dc6 pm6 an6 cd6 ct6),sl6⟩) (c6:PySem.W.codeIn K cd6 "behind" = true) (k6:PySem.W.keepIn K (.ref f6)=true)
  (a7:PySem.W.nsIn K mainGlobals "steps_round" = some (some (.ref f7))) (l7:K.lookup f7=some ⟨oc7,od7,.func (PySem.W.fnOf "steps_round" "steps_round" (kR xE) (kQ xE) (kF xE) .none kV7 dc7 pm7 an7 cd7 ct7),sl7⟩) (c7:PySem.W.codeIn K cd7 "steps_round" = true) (k7:PySem.W.keepIn K (.ref f7)=true)
  (a8:PySem.W.nsIn K mainGlobals "faces" = some (some (.ref f8))) (l8:K.lookup f8=some ⟨oc8,od8,.func (PySem.W.fnOf "faces" "faces" (kR aG) (kQ aG) (kF aG) .none kV8 dc8 pm8 an8 cd8 ct8),sl8⟩) (c8:PySem.W.codeIn K cd8 "faces" = true) (k8:PySem.W.keepIn K (.ref f8)=true)
  (a9:PySem.W.nsIn K mainGlobals "is_flat" = some (some (.ref f9))) (l9:K.lookup f9=some ⟨oc9,od9,.func (PySem.W.fnOf "is_flat" "is_flat" (kR wH) (kQ wH) (kF wH) .none kV9 dc9 pm9 an9 cd9 ct9),sl9⟩) (c9:PySem.W.codeIn K cd9 "is_flat" = true) (k9:PySem.W.keepIn K (.ref f9)=true)
  (a10:PySem.W.nsIn K mainGlobals "must_be_flat" = some (some (.ref f10))) (l10:K.lookup f10=some ⟨oc10,od10,.func (PySem.W.fnOf "must_be_flat" "must_be_flat" (kR jS) (kQ jS) (kF jS) .none kV10 dc10 pm10 an10 cd10 ct10),sl10⟩) (c10:PySem.W.codeIn K cd10 "must_be_flat" = true) (k10:PySem.W.keepIn K (.ref f10)=true)
  (a11:PySem.W.nsIn K mainGlobals "uncornered_face" = some (some (.ref f11))) (l11:K.lookup f11=some ⟨oc11,od11,.func (PySem.W.fnOf "uncornered_face" "uncornered_face" (kR qS) (kQ qS) (kF qS) .none kV11 dc11 pm11 an11 cd11 ct11),sl11⟩) (c11:PySem.W.codeIn K cd11 "uncornered_face" = true) (k11:PySem.W.keepIn K (.ref f11)=true)
  (a12:PySem.W.nsIn K mainGlobals "is_step" = some (some (.ref f12))) (l12:K.lookup f12=some ⟨oc12,od12,.func (PySem.W.fnOf "is_step" "is_step" (kR wG) (kQ wG) (kF wG) .none kV12 dc12 pm12 an12 cd12 ct12),sl12⟩) (c12:PySem.W.codeIn K cd12 "is_step" = true) (k12:PySem.W.keepIn K (.ref f12)=true)
  (a13:PySem.W.nsIn K mainGlobals "with_behind" = some (some (.ref f13))) (l13:K.lookup f13=some ⟨oc13,od13,.func (PySem.W.fnOf "with_behind" "with_behind" (kR xD) (kQ xD) (kF xD) .none kV13 dc13 pm13 an13 cd13 ct13),sl13⟩) (c13:PySem.W.codeIn K cd13 "with_behind" = true) (k13:PySem.W.keepIn K (.ref f13)=true)
  (a14:PySem.W.nsIn K mainGlobals "put_in" = some (some (.ref f14))) (l14:K.lookup f14=some ⟨oc14,od14,.func (PySem.W.fnOf "put_in" "put_in" (kR vL) (kQ vL) (kF vL) .none kV14 dc14 pm14 an14 cd14 ct14),sl14⟩) (c14:PySem.W.codeIn K cd14 "put_in" = true) (k14:PySem.W.keepIn K (.ref f14)=true)
  (a15:PySem.W.nsIn K mainGlobals "row_without" = some (some (.ref f15))) (l15:K.lookup f15=some ⟨oc15,od15,.func (PySem.W.fnOf "row_without" "row_without" (kR xF) (kQ xF) (kF xF) .none kV15 dc15 pm15 an15 cd15 ct15),sl15⟩) (c15:PySem.W.codeIn K cd15 "row_without" = true) (k15:PySem.W.keepIn K (.ref f15)=true)
  (a16:PySem.W.nsIn K mainGlobals "taken_out" = some (some (.ref f16))) (l16:K.lookup f16=some ⟨oc16,od16,.func (PySem.W.fnOf "taken_out" "taken_out" (kR yL) (kQ yL) (kF yL) .none kV16 dc16 pm16 an16 cd16 ct16),sl16⟩) (c16:PySem.W.codeIn K cd16 "taken_out" = true) (k16:PySem.W.keepIn K (.ref f16)=true)
  (a17:PySem.W.nsIn K mainGlobals "cut" = some (some (.ref f17))) (l17:K.lookup f17=some ⟨oc17,od17,.func (PySem.W.fnOf "cut" "cut" (kR nA) (kQ nA) (kF nA) .none kV17 dc17 pm17 an17 cd17 ct17),sl17⟩) (c17:PySem.W.codeIn K cd17 "cut" = true) (k17:PySem.W.keepIn K (.ref f17)=true)
  (a18:PySem.W.nsIn K mainGlobals "filled" = some (some (.ref f18))) (l18:K.lookup f18=some ⟨oc18,od18,.func (PySem.W.fnOf "filled" "filled" (kR vM) (kQ vM) (kF vM) .none kV18 dc18 pm18 an18 cd18 ct18),sl18⟩) (c18:PySem.W.codeIn K cd18 "filled" = true) (k18:PySem.W.keepIn K (.ref f18)=true)
  (a19:PySem.W.nsIn K mainGlobals "_law_pot" = some (some (.ref f19))) (l19:K.lookup f19=some ⟨oc19,od19,.func (PySem.W.fnOf "_law_pot" "_law_pot" (kR wD) (kQ wD) (kF wD) .none kV19 dc19 pm19 an19 cd19 ct19),sl19⟩) (c19:PySem.W.codeIn K cd19 "_law_pot" = true) (k19:PySem.W.keepIn K (.ref f19)=true)
  (a20:PySem.W.nsIn K mainGlobals "_law_digit" = some (some (.ref f20))) (l20:K.lookup f20=some ⟨oc20,od20,.func (PySem.W.fnOf "_law_digit" "_law_digit" (kR yQ) (kQ yQ) (kF yQ) .none kV20 dc20 pm20 an20 cd20 ct20),sl20⟩) (c20:PySem.W.codeIn K cd20 "_law_digit" = true) (k20:PySem.W.keepIn K (.ref f20)=true)
  (a21:PySem.W.nsIn K mainGlobals "_law_ahead" = some (some (.ref f21))) (l21:K.lookup f21=some ⟨oc21,od21,.func (PySem.W.fnOf "_law_ahead" "_law_ahead" (kR yR) (kQ yR) (kF yR) .none kV21 dc21 pm21 an21 cd21 ct21),sl21⟩) (c21:PySem.W.codeIn K cd21 "_law_ahead" = true) (k21:PySem.W.keepIn K (.ref f21)=true)
  (a22:PySem.W.nsIn K mainGlobals "_law_behind" = some (some (.ref f22))) (l22:K.lookup f22=some ⟨oc22,od22,.func (PySem.W.fnOf "_law_behind" "_law_behind" (kR xT) (kQ xT) (kF xT) .none kV22 dc22 pm22 an22 cd22 ct22),sl22⟩) (c22:PySem.W.codeIn K cd22 "_law_behind" = true) (k22:PySem.W.keepIn K (.ref f22)=true)
  (a23:PySem.W.nsIn K mainGlobals "_law_add" = some (some (.ref f23))) (l23:K.lookup f23=some ⟨oc23,od23,.func (PySem.W.fnOf "_law_add" "_law_add" (kR wF) (kQ wF) (kF wF) .none kV23 dc23 pm23 an23 cd23 ct23),sl23⟩) (c23:PySem.W.codeIn K cd23 "_law_add" = true) (k23:PySem.W.keepIn K (.ref f23)=true)
  (a24:PySem.W.nsIn K mainGlobals "_law_flip" = some (some (.ref f24))) (l24:K.lookup f24=some ⟨oc24,od24,.func (PySem.W.fnOf "_law_flip" "_law_flip" (kR zF) (kQ zF) (kF zF) .none kV24 dc24 pm24 an24 cd24 ct24),sl24⟩) (c24:PySem.W.codeIn K cd24 "_law_flip" = true) (k24:PySem.W.keepIn K (.ref f24)=true)
  (a25:PySem.W.nsIn K mainGlobals "_law_step" = some (some (.ref f25))) (l25:K.lookup f25=some ⟨oc25,od25,.func (PySem.W.fnOf "_law_step" "_law_step" (kR zE) (kQ zE) (kF zE) .none kV25 dc25 pm25 an25 cd25 ct25),sl25⟩) (c25:PySem.W.codeIn K cd25 "_law_step" = true) (k25:PySem.W.keepIn K (.ref f25)=true)
  (a26:PySem.W.nsIn K mainGlobals "_law_cornered" = some (some (.ref f26))) (l26:K.lookup f26=some ⟨oc26,od26,.func (PySem.W.fnOf "_law_cornered" "_law_cornered" (kR jT) (kQ jT) (kF jT) .none kV26 dc26 pm26 an26 cd26 ct26),sl26⟩) (c26:PySem.W.codeIn K cd26 "_law_cornered" = true) (k26:PySem.W.keepIn K (.ref f26)=true)
  (a27:PySem.W.nsIn K mainGlobals "_law_hangs" = some (some (.ref f27))) (l27:K.lookup f27=some ⟨oc27,od27,.func (PySem.W.fnOf "_law_hangs" "_law_hangs" (kR yO) (kQ yO) (kF yO) .none kV27 dc27 pm27 an27 cd27 ct27),sl27⟩) (c27:PySem.W.codeIn K cd27 "_law_hangs" = true) (k27:PySem.W.keepIn K (.ref f27)=true)
  (a28:PySem.W.nsIn K mainGlobals "_law_without" = some (some (.ref f28))) (l28:K.lookup f28=some ⟨oc28,od28,.func (PySem.W.fnOf "_law_without" "_law_without" (kR xG) (kQ xG) (kF xG) .none kV28 dc28 pm28 an28 cd28 ct28),sl28⟩) (c28:PySem.W.codeIn K cd28 "_law_without" = true) (k28:PySem.W.keepIn K (.ref f28)=true)
  (a29:PySem.W.nsIn K mainGlobals "_law_thinned" = some (some (.ref f29))) (l29:K.lookup f29=some ⟨oc29,od29,.func (PySem.W.fnOf "_law_thinned" "_law_thinned" (kR xH) (kQ xH) (kF xH) .none kV29 dc29 pm29 an29 cd29 ct29),sl29⟩) (c29:PySem.W.codeIn K cd29 "_law_thinned" = true) (k29:PySem.W.keepIn K (.ref f29)=true)
  (a30:PySem.W.nsIn K mainGlobals "_law_names" = some (some (.ref f30))) (l30:K.lookup f30=some ⟨oc30,od30,.func (PySem.W.fnOf "_law_names" "_law_names" (kR yN) (kQ yN) (kF yN) .none kV30 dc30 pm30 an30 cd30 ct30),sl30⟩) (c30:PySem.W.codeIn K cd30 "_law_names" = true) (k30:PySem.W.keepIn K (.ref f30)=true)
  (a31:PySem.W.nsIn K mainGlobals "_law_from_least" = some (some (.ref f31))) (l31:K.lookup f31=some ⟨oc31,od31,.func (PySem.W.fnOf "_law_from_least" "_law_from_least" (kR jA) (kQ jA) (kF jA) .none kV31 dc31 pm31 an31 cd31 ct31),sl31⟩) (c31:PySem.W.codeIn K cd31 "_law_from_least" = true) (k31:PySem.W.keepIn K (.ref f31)=true)
  (a32:PySem.W.nsIn K mainGlobals "_law_web" = some (some (.ref f32))) (l32:K.lookup f32=some ⟨oc32,od32,.func (PySem.W.fnOf "_law_web" "_law_web" (kR wC) (kQ wC) (kF wC) .none kV32 dc32 pm32 an32 cd32 ct32),sl32⟩) (c32:PySem.W.codeIn K cd32 "_law_web" = true) (k32:PySem.W.keepIn K (.ref f32)=true)
  (a33:PySem.W.nsIn K mainGlobals "_law_drawn" = some (some (.ref f33))) (l33:K.lookup f33=some ⟨oc33,od33,.func (PySem.W.fnOf "_law_drawn" "_law_drawn" (kR yP) (kQ yP) (kF yP) .none kV33 dc33 pm33 an33 cd33 ct33),sl33⟩) (c33:PySem.W.codeIn K cd33 "_law_drawn" = true) (k33:PySem.W.keepIn K (.ref f33)=true)
  (a34:PySem.W.nsIn K mainGlobals "_law_out" = some (some (.ref f34))) (l34:K.lookup f34=some ⟨oc34,od34,.func (PySem.W.fnOf "_law_out" "_law_out" (kR wE) (kQ wE) (kF wE) .none kV34 dc34 pm34 an34 cd34 ct34),sl34⟩) (c34:PySem.W.codeIn K cd34 "_law_out" = true) (k34:PySem.W.keepIn K (.ref f34)=true)
  (a35:PySem.W.nsIn K mainGlobals "_law_is_web" = some (some (.ref f35))) (l35:K.lookup f35=some ⟨oc35,od35,.func (PySem.W.fnOf "_law_is_web" "_law_is_web" (kR xS) (kQ xS) (kF xS) .none kV35 dc35 pm35 an35 cd35 ct35),sl35⟩) (c35:PySem.W.codeIn K cd35 "_law_is_web" = true) (k35:PySem.W.keepIn K (.ref f35)=true)
  (a36:PySem.W.nsIn K mainGlobals "_law_three_cornered" = some (some (.ref f36))) (l36:K.lookup f36=some ⟨oc36,od36,.func (PySem.W.fnOf "_law_three_cornered" "_law_three_cornered" (kR qL) (kQ qL) (kF qL) .none kV36 dc36 pm36 an36 cd36 ct36),sl36⟩) (c36:PySem.W.codeIn K cd36 "_law_three_cornered" = true) (k36:PySem.W.keepIn K (.ref f36)=true)
  (a37:PySem.W.nsIn K mainGlobals "_law_are_ties" = some (some (.ref f37))) (l37:K.lookup f37=some ⟨oc37,od37,.func (PySem.W.fnOf "_law_are_ties" "_law_are_ties" (kR jU) (kQ jU) (kF jU) .none kV37 dc37 pm37 an37 cd37 ct37),sl37⟩) (c37:PySem.W.codeIn K cd37 "_law_are_ties" = true) (k37:PySem.W.keepIn K (.ref f37)=true)
  (a38:PySem.W.nsIn K mainGlobals "_law_back" = some (some (.ref f38))) (l38:K.lookup f38=some ⟨oc38,od38,.func (PySem.W.fnOf "_law_back" "_law_back" (kR zG) (kQ zG) (kF zG) .none kV38 dc38 pm38 an38 cd38 ct38),sl38⟩) (c38:PySem.W.codeIn K cd38 "_law_back" = true) (k38:PySem.W.keepIn K (.ref f38)=true)
  (a39:PySem.W.nsIn K mainGlobals "_law_right" = some (some (.ref f39))) (l39:K.lookup f39=some ⟨oc39,od39,.func (PySem.W.fnOf "_law_right" "_law_right" (kR yM) (kQ yM) (kF yM) .none kV39 dc39 pm39 an39 cd39 ct39),sl39⟩) (c39:PySem.W.codeIn K cd39 "_law_right" = true) (k39:PySem.W.keepIn K (.ref f39)=true)
  (a40:PySem.W.nsIn K mainGlobals "law" = some (some (.ref f40))) (l40:K.lookup f40=some ⟨oc40,od40,.func (PySem.W.fnOf "law" "law" (kR bR) (kQ bR) (kF bR) .none kV40 dc40 pm40 an40 cd40 ct40),sl40⟩) (c40:PySem.W.codeIn K cd40 "law" = true) (k40:PySem.W.keepIn K (.ref f40)=true)
  (y1:PySem.W.nsIn K mainGlobals "tuple" = some none)
  (y2:PySem.W.nsIn K mainGlobals "min" = some none)
  (y3:PySem.W.nsIn K mainGlobals "sorted" = some none)
  (y4:PySem.W.nsIn K mainGlobals "enumerate" = some none)
  (y5:PySem.W.nsIn K mainGlobals "range" = some none)
  (y6:PySem.W.nsIn K mainGlobals "len" = some none)
  (y7:PySem.W.nsIn K mainGlobals "all" = some none)
  (y8:PySem.W.nsIn K mainGlobals "list" = some none)
  (y9:PySem.W.nsIn K mainGlobals "abs" = some none)
  (y10:PySem.W.nsIn K mainGlobals "max" = some none)
  (y11:PySem.W.nsIn K mainGlobals "divmod" = some none)
  (y12:PySem.W.nsIn K mainGlobals "int" = some none)
  (y13:PySem.W.nsIn K mainGlobals "isinstance" = some none)
  (y14:PySem.W.nsIn K mainGlobals "bool" = some none)
  : ∃ fd:FuncData,(∀ (s:Shared) (v:Value),BindsTo s fd ⟨[v],[]⟩ [("_law_script",v)])/\∀ base:Heap,K.In base->base.Ns mainGlobals mg->FnOk l.prog w K mg base CX0 8 fa fd ["_law_script"] (kBF K):=by
 have e:=hfa.symm.trans (PySem.W.mg_of X G a40);cases e
 have z_tuple:=PySem.W.mg_none_of X G y1;have z_min:=PySem.W.mg_none_of X G y2;have z_sorted:=PySem.W.mg_none_of X G y3;have z_enumerate:=PySem.W.mg_none_of X G y4;have z_range:=PySem.W.mg_none_of X G y5;have z_len:=PySem.W.mg_none_of X G y6;have z_all:=PySem.W.mg_none_of X G y7;have z_list:=PySem.W.mg_none_of X G y8;have z_abs:=PySem.W.mg_none_of X G y9;have z_max:=PySem.W.mg_none_of X G y10;have z_divmod:=PySem.W.mg_none_of X G y11;have z_int:=PySem.W.mg_none_of X G y12;have z_isinstance:=PySem.W.mg_none_of X G y13;have z_bool:=PySem.W.mg_none_of X G y14;have F1:=qA (st:=wI) l1 c1 k1;have F2:=qA (st:=xU) l2 c2 k2;have F3:=qA (st:=zD) l3 c3 k3;have F4:=qA (st:=jE) l4 c4 k4;have F5:=qA (st:=cZ) l5 c5 k5;have F6:=qA (st:=vN) l6 c6 k6;have F7:=qA (st:=xE) l7 c7 k7;have F8:=qA (st:=aG) l8 c8 k8;have F9:=qA (st:=wH) l9 c9 k9;have F10:=qA (st:=jS) l10 c10 k10;have F11:=qA (st:=qS) l11 c11 k11;have F12:=qA (st:=wG) l12 c12 k12;have F13:=qA (st:=xD) l13 c13 k13;have F14:=qA (st:=vL) l14 c14 k14;have F15:=qA (st:=xF) l15 c15 k15;have F16:=qA (st:=yL) l16 c16 k16;have F17:=qA (st:=nA) l17 c17 k17;have F18:=qA (st:=vM) l18 c18 k18;have F19:=qA (st:=wD) l19 c19 k19;have F20:=qA (st:=yQ) l20 c20 k20;have F21:=qA (st:=yR) l21 c21 k21;have F22:=qA (st:=xT) l22 c22 k22;have F23:=qA (st:=wF) l23 c23 k23;have F24:=qA (st:=zF) l24 c24 k24;have F25:=qA (st:=zE) l25 c25 k25;have F26:=qA (st:=jT) l26 c26 k26;have F27:=qA (st:=yO) l27 c27 k27;have F28:=qA (st:=xG) l28 c28 k28;have F29:=qA (st:=xH) l29 c29 k29;have F30:=qA (st:=yN) l30 c30 k30;have F31:=qA (st:=jA) l31 c31 k31;have F32:=qA (st:=wC) l32 c32 k32;have F33:=qA (st:=yP) l33 c33 k33;have F34:=qA (st:=wE) l34 c34 k34;have F35:=qA (st:=xS) l35 c35 k35;have F36:=qA (st:=qL) l36 c36 k36;have F37:=qA (st:=jU) l37 c37 k37;have F38:=qA (st:=zG) l38 c38 k38;have F39:=qA (st:=yM) l39 c39 k39;have F40:=qA (st:=bR) l40 c40 k40;have b1:=F1.binds (ps:=["row","first"]) λ _ _ _ _ _ _ us hl=>by obtain ⟨_,_,rfl⟩:=zV (n:=2) rfl hl;rfl
 have b2:=F2.binds (ps:=["row"]) λ _ _ _ _ _ _ us hl=>by obtain ⟨_,rfl⟩:=uH (n:=1) rfl hl;rfl
 have b3:=F3.binds (ps:=["web"]) λ _ _ _ _ _ _ us hl=>by obtain ⟨_,rfl⟩:=uH (n:=1) rfl hl;rfl
 have b4:=F4.binds (ps:=["rows","without"]) λ _ _ _ _ _ _ us hl=>by obtain ⟨_,_,rfl⟩:=zV (n:=2) rfl hl;rfl
 have b5:=F5.binds (ps:=["web"]) λ _ _ _ _ _ _ us hl=>by obtain ⟨_,rfl⟩:=uH (n:=1) rfl hl;rfl
 have b6:=F6.binds (ps:=["web","step"]) λ _ _ _ _ _ _ us hl=>by obtain ⟨_,_,rfl⟩:=zV (n:=2) rfl hl;rfl
 have b7:=F7.binds (ps:=["web","step"]) λ _ _ _ _ _ _ us hl=>by obtain ⟨_,_,rfl⟩:=zV (n:=2) rfl hl;rfl
 have b8:=F8.binds (ps:=["web"]) λ _ _ _ _ _ _ us hl=>by obtain ⟨_,rfl⟩:=uH (n:=1) rfl hl;rfl
 have b9:=F9.binds (ps:=["web"]) λ _ _ _ _ _ _ us hl=>by obtain ⟨_,rfl⟩:=uH (n:=1) rfl hl;rfl
 have b10:=F10.binds (ps:=["web"]) λ _ _ _ _ _ _ us hl=>by obtain ⟨_,rfl⟩:=uH (n:=1) rfl hl;rfl
 have b11:=F11.binds (ps:=["web"]) λ _ _ _ _ _ _ us hl=>by obtain ⟨_,rfl⟩:=uH (n:=1) rfl hl;rfl
 have b12:=F12.binds (ps:=["web","pair"]) λ _ _ _ _ _ _ us hl=>by obtain ⟨_,_,rfl⟩:=zV (n:=2) rfl hl;rfl
 have b13:=F13.binds (ps:=["row","place","added"]) λ _ _ _ _ _ _ us hl=>by obtain ⟨_,_,_,rfl⟩:=cA (n:=3) rfl hl;rfl
 have b14:=F14.binds (ps:=["web","step","other"]) λ _ _ _ _ _ _ us hl=>by obtain ⟨_,_,_,rfl⟩:=cA (n:=3) rfl hl;rfl
 have b15:=F15.binds (ps:=["row","place"]) λ _ _ _ _ _ _ us hl=>by obtain ⟨_,_,rfl⟩:=zV (n:=2) rfl hl;rfl
 have b16:=F16.binds (ps:=["web","tie"]) λ _ _ _ _ _ _ us hl=>by obtain ⟨_,_,rfl⟩:=zV (n:=2) rfl hl;rfl
 have b17:=F17.binds (ps:=["web","face"]) λ _ _ _ _ _ _ us hl=>by obtain ⟨_,_,rfl⟩:=zV (n:=2) rfl hl;rfl
 have b18:=F18.binds (ps:=["web"]) λ _ _ _ _ _ _ us hl=>by obtain ⟨_,rfl⟩:=uH (n:=1) rfl hl;rfl
 have b19:=F19.binds (ps:=["_law_script","_law_k"]) λ _ _ _ _ _ _ us hl=>by obtain ⟨_,_,rfl⟩:=zV (n:=2) rfl hl;rfl
 have b20:=F20.binds (ps:=["_law_pot_here","_law_many"]) λ _ _ _ _ _ _ us hl=>by obtain ⟨_,_,rfl⟩:=zV (n:=2) rfl hl;rfl
 have b21:=F21.binds (ps:=["_law_rows","_law_p","_law_q"]) λ _ _ _ _ _ _ us hl=>by obtain ⟨_,_,_,rfl⟩:=cA (n:=3) rfl hl;rfl
 have b22:=F22.binds (ps:=["_law_rows","_law_p","_law_v","_law_new"]) λ _ _ _ _ _ _ us hl=>by obtain ⟨_,_,_,_,rfl⟩:=kNN (n:=4) rfl hl;rfl
 have b23:=F23.binds (ps:=["_law_rows","_law_p","_law_q"]) λ _ _ _ _ _ _ us hl=>by obtain ⟨_,_,_,rfl⟩:=cA (n:=3) rfl hl;rfl
 have b24:=F24.binds (ps:=["_law_rows","_law_p","_law_q"]) λ _ _ _ _ _ _ us hl=>by obtain ⟨_,_,_,rfl⟩:=cA (n:=3) rfl hl;rfl
 have b25:=F25.binds (ps:=["_law_pot_here","_law_rows"]) λ _ _ _ _ _ _ us hl=>by obtain ⟨_,_,rfl⟩:=zV (n:=2) rfl hl;rfl
 have b26:=F26.binds (ps:=["_law_pot_here","_law_n"]) λ _ _ _ _ _ _ us hl=>by obtain ⟨_,_,rfl⟩:=zV (n:=2) rfl hl;rfl
 have b27:=F27.binds (ps:=["_law_rows"]) λ _ _ _ _ _ _ us hl=>by obtain ⟨_,rfl⟩:=uH (n:=1) rfl hl;rfl
 have b28:=F28.binds (ps:=["_law_rows","_law_p","_law_q"]) λ _ _ _ _ _ _ us hl=>by obtain ⟨_,_,_,rfl⟩:=cA (n:=3) rfl hl;rfl
 have b29:=F29.binds (ps:=["_law_pot_here","_law_rows","_law_many"]) λ _ _ _ _ _ _ us hl=>by obtain ⟨_,_,_,rfl⟩:=cA (n:=3) rfl hl;rfl
 have b30:=F30.binds (ps:=["_law_pot_here","_law_n"]) λ _ _ _ _ _ _ us hl=>by obtain ⟨_,_,rfl⟩:=zV (n:=2) rfl hl;rfl
 have b31:=F31.binds (ps:=["_law_row"]) λ _ _ _ _ _ _ us hl=>by obtain ⟨_,rfl⟩:=uH (n:=1) rfl hl;rfl
 have b32:=F32.binds (ps:=["_law_rows","_law_names_here"]) λ _ _ _ _ _ _ us hl=>by obtain ⟨_,_,rfl⟩:=zV (n:=2) rfl hl;rfl
 have b33:=F33.binds (ps:=["_law_pot_here"]) λ _ _ _ _ _ _ us hl=>by obtain ⟨_,rfl⟩:=uH (n:=1) rfl hl;rfl
 have b34:=F34.binds (ps:=["_law_web_here","_law_tie"]) λ _ _ _ _ _ _ us hl=>by obtain ⟨_,_,rfl⟩:=zV (n:=2) rfl hl;rfl
 have b35:=F35.binds (ps:=["_law_found","_law_due"]) λ _ _ _ _ _ _ us hl=>by obtain ⟨_,_,rfl⟩:=zV (n:=2) rfl hl;rfl
 have b36:=F36.binds (ps:=["_law_web_here"]) λ _ _ _ _ _ _ us hl=>by obtain ⟨_,rfl⟩:=uH (n:=1) rfl hl;rfl
 have b37:=F37.binds (ps:=["_law_added","_law_web_here","_law_made"]) λ _ _ _ _ _ _ us hl=>by obtain ⟨_,_,_,rfl⟩:=cA (n:=3) rfl hl;rfl
 have b38:=F38.binds (ps:=["_law_pot_here","_law_made","_law_added"]) λ _ _ _ _ _ _ us hl=>by obtain ⟨_,_,_,rfl⟩:=cA (n:=3) rfl hl;rfl
 have b39:=F39.binds (ps:=["_law_pot_here","_law_web_here"]) λ _ _ _ _ _ _ us hl=>by obtain ⟨_,_,rfl⟩:=zV (n:=2) rfl hl;rfl
 refine ⟨PySem.W.fnOf "law" "law" (kR bR) (kQ bR) (kF bR) .none kV40 dc40 pm40 an40 cd40 ct40,λ s v=>.of_eq rfl,λ base _ _=>?_⟩;have aO:Own.Has l.prog w K mg base "from_on" ["row","first"] 1 (gJ):=⟨_,_,kAH (P:=l.prog) (w:=w) (base:=base) (mg:=mg) F1 z_tuple,b1,k1,PySem.W.mg_of X G a1⟩;have xY:Own.Has l.prog w K mg base "from_least" ["row"] 2 (bK):=⟨_,_,mN (P:=l.prog) (w:=w) (base:=base) (mg:=mg) F2 aO z_min,b2,k2,PySem.W.mg_of X G a2⟩;have zL:Own.Has l.prog w K mg base "steps_of" ["web"] 1 (fN):=⟨_,_,rO (P:=l.prog) (w:=w) (base:=base) (mg:=mg) F3 z_sorted z_enumerate,b3,k3,PySem.W.mg_of X G a3⟩;have zX:Own.Has l.prog w K mg base "hang_together" ["rows","without"] 1 (tI):=⟨_,_,dG (P:=l.prog) (w:=w) (base:=base) (mg:=mg) F4 z_range z_len z_all,b4,k4,PySem.W.mg_of X G a4⟩;have bC:Own.Has l.prog w K mg base "ties" ["web"] 2 (oG):=⟨_,_,kII (P:=l.prog) (w:=w) (base:=base) (mg:=mg) F5 zL,b5,k5,PySem.W.mg_of X G a5⟩;have cF:Own.Has l.prog w K mg base "behind" ["web","step"] 1 (cX):=⟨_,_,kDD (P:=l.prog) (w:=w) (base:=base) (mg:=mg) F6,b6,k6,PySem.W.mg_of X G a6⟩;have xI:Own.Has l.prog w K mg base "steps_round" ["web","step"] 2 (bJ):=⟨_,_,hV (P:=l.prog) (w:=w) (base:=base) (mg:=mg) F7 cF,b7,k7,PySem.W.mg_of X G a7⟩;have aP:Own.Has l.prog w K mg base "faces" ["web"] 3 (fQ):=⟨_,_,kFX (P:=l.prog) (w:=w) (base:=base) (mg:=mg) F8 zL xI z_tuple z_sorted,b8,k8,PySem.W.mg_of X G a8⟩;have dS:Own.Has l.prog w K mg base "is_flat" ["web"] 4 (tL):=⟨_,_,kAG (P:=l.prog) (w:=w) (base:=base) (mg:=mg) F9 aP bC z_len,b9,k9,PySem.W.mg_of X G a9⟩;have wU:Own.Has l.prog w K mg base "must_be_flat" ["web"] 5 (aV):=⟨_,_,fI (P:=l.prog) (w:=w) (base:=base) (mg:=mg) F10 dS,b10,k10,PySem.W.mg_of X G a10⟩;have xK:Own.Has l.prog w K mg base "uncornered_face" ["web"] 4 (kFA):=⟨_,_,bA (P:=l.prog) (w:=w) (base:=base) (mg:=mg) F11 aP z_len,b11,k11,PySem.W.mg_of X G a11⟩;have wJ:Own.Has l.prog w K mg base "is_step" ["web","pair"] 1 (bL):=⟨_,_,kAF (P:=l.prog) (w:=w) (base:=base) (mg:=mg) F12 z_len,b12,k12,PySem.W.mg_of X G a12⟩;have zO:Own.Has l.prog w K mg base "with_behind" ["row","place","added"] 3 (oF):=⟨_,_,hJ (P:=l.prog) (w:=w) (base:=base) (mg:=mg) F13 xY,b13,k13,PySem.W.mg_of X G a13⟩;have lS:Own.Has l.prog w K mg base "put_in" ["web","step","other"] 4 (kEX):=⟨_,_,kDB (P:=l.prog) (w:=w) (base:=base) (mg:=mg) F14 xI wJ zO z_list z_tuple,b14,k14,PySem.W.mg_of X G a14⟩;have zP:Own.Has l.prog w K mg base "row_without" ["row","place"] 3 (oH):=⟨_,_,hZ (P:=l.prog) (w:=w) (base:=base) (mg:=mg) F15 xY,b15,k15,PySem.W.mg_of X G a15⟩;have uW:Own.Has l.prog w K mg base "taken_out" ["web","tie"] 4 (kEZ):=⟨_,_,oY (P:=l.prog) (w:=w) (base:=base) (mg:=mg) F16 wJ zP zX z_list z_tuple,b16,k16,PySem.W.mg_of X G a16⟩;have kGK:Own.Has l.prog w K mg base "cut" ["web","face"] 1 (kFB):=⟨_,_,kLE (P:=l.prog) (w:=w) (base:=base) (mg:=mg) F17 z_range z_len,b17,k17,PySem.W.mg_of X G a17⟩;have cE:Own.Has l.prog w K mg base "filled" ["web"] 6 (tJ):=⟨_,_,kDC (P:=l.prog) (w:=w) (base:=base) (mg:=mg) F18 wU xK kGK lS bC,b18,k18,PySem.W.mg_of X G a18⟩;have dP:Own.Has l.prog w K mg base "_law_pot" ["_law_script","_law_k"] 1 (kEY K):=⟨_,_,kAC (P:=l.prog) (w:=w) (base:=base) (mg:=mg) F19 z_abs z_max,b19,k19,PySem.W.mg_of X G a19⟩;have kU:Own.Has l.prog w K mg base "_law_digit" ["_law_pot_here","_law_many"] 1 (vX):=⟨_,_,pH (P:=l.prog) (w:=w) (base:=base) (mg:=mg) F20 z_divmod,b20,k20,PySem.W.mg_of X G a20⟩;have qP:Own.Has l.prog w K mg base "_law_ahead" ["_law_rows","_law_p","_law_q"] 1 (bN):=⟨_,_,pI (P:=l.prog) (w:=w) (base:=base) (mg:=mg) F21,b21,k21,PySem.W.mg_of X G a21⟩;have qY:Own.Has l.prog w K mg base "_law_behind" ["_law_rows","_law_p","_law_v","_law_new"] 1 (bM):=⟨_,_,mL (P:=l.prog) (w:=w) (base:=base) (mg:=mg) F22,b22,k22,PySem.W.mg_of X G a22⟩;have dR:Own.Has l.prog w K mg base "_law_add" ["_law_rows","_law_p","_law_q"] 2 (kFC):=⟨_,_,kAE (P:=l.prog) (w:=w) (base:=base) (mg:=mg) F23 qP qY z_len,b23,k23,PySem.W.mg_of X G a23⟩;have bE:Own.Has l.prog w K mg base "_law_flip" ["_law_rows","_law_p","_law_q"] 2 (tK):=⟨_,_,rQ (P:=l.prog) (w:=w) (base:=base) (mg:=mg) F24 qP qY,b24,k24,PySem.W.mg_of X G a24⟩;have yK:Own.Has l.prog w K mg base "_law_step" ["_law_pot_here","_law_rows"] 2 (fO):=⟨_,_,rP (P:=l.prog) (w:=w) (base:=base) (mg:=mg) F25 kU z_len,b25,k25,PySem.W.mg_of X G a25⟩;have wV:Own.Has l.prog w K mg base "_law_cornered" ["_law_pot_here","_law_n"] 3 (aW):=⟨_,_,fJ (P:=l.prog) (w:=w) (base:=base) (mg:=mg) F26 yK dR kU bE z_range,b26,k26,PySem.W.mg_of X G a26⟩;have uZ:Own.Has l.prog w K mg base "_law_hangs" ["_law_rows"] 1 (gI):=⟨_,_,pF (P:=l.prog) (w:=w) (base:=base) (mg:=mg) F27 z_len,b27,k27,PySem.W.mg_of X G a27⟩;have zQ:Own.Has l.prog w K mg base "_law_without" ["_law_rows","_law_p","_law_q"] 1 (cV):=⟨_,_,lC (P:=l.prog) (w:=w) (base:=base) (mg:=mg) F28 z_list,b28,k28,PySem.W.mg_of X G a28⟩;have vI:Own.Has l.prog w K mg base "_law_thinned" ["_law_pot_here","_law_rows","_law_many"] 3 (cW):=⟨_,_,lD (P:=l.prog) (w:=w) (base:=base) (mg:=mg) F29 yK uZ zQ z_range z_len,b29,k29,PySem.W.mg_of X G a29⟩;have uY:Own.Has l.prog w K mg base "_law_names" ["_law_pot_here","_law_n"] 2 (oI):=⟨_,_,pE (P:=l.prog) (w:=w) (base:=base) (mg:=mg) F30 kU z_range,b30,k30,PySem.W.mg_of X G a30⟩;have qH:Own.Has l.prog w K mg base "_law_from_least" ["_law_row"] 1 (uN):=⟨_,_,bW (P:=l.prog) (w:=w) (base:=base) (mg:=mg) F31 z_min z_tuple,b31,k31,PySem.W.mg_of X G a31⟩;have dO:Own.Has l.prog w K mg base "_law_web" ["_law_rows","_law_names_here"] 2 (kEW):=⟨_,_,kAB (P:=l.prog) (w:=w) (base:=base) (mg:=mg) F32 qH z_len z_enumerate z_tuple,b32,k32,PySem.W.mg_of X G a32⟩;have aA:Own.Has l.prog w K mg base "_law_drawn" ["_law_pot_here"] 4 (gK):=⟨_,_,pG (P:=l.prog) (w:=w) (base:=base) (mg:=mg) F33 kU wV vI dO uY z_int,b33,k33,PySem.W.mg_of X G a33⟩;have dQ:Own.Has l.prog w K mg base "_law_out" ["_law_web_here","_law_tie"] 2 (tH):=⟨_,_,kAD (P:=l.prog) (w:=w) (base:=base) (mg:=mg) F34 qH z_list z_tuple,b34,k34,PySem.W.mg_of X G a34⟩;have xX:Own.Has l.prog w K mg base "_law_is_web" ["_law_found","_law_due"] 1 (fP):=⟨_,_,mK (P:=l.prog) (w:=w) (base:=base) (mg:=mg) F35 z_isinstance z_tuple z_bool z_int,b35,k35,PySem.W.mg_of X G a35⟩;have xP:Own.Has l.prog w K mg base "_law_three_cornered" ["_law_web_here"] 2 (gG):=⟨_,_,uI (P:=l.prog) (w:=w) (base:=base) (mg:=mg) F36 qP z_range z_len,b36,k36,PySem.W.mg_of X G a36⟩;have wW:Own.Has l.prog w K mg base "_law_are_ties" ["_law_added","_law_web_here","_law_made"] 1 (cY):=⟨_,_,fK (P:=l.prog) (w:=w) (base:=base) (mg:=mg) F37 z_isinstance z_list z_enumerate z_len z_tuple,b37,k37,PySem.W.mg_of X G a37⟩;have bF:Own.Has l.prog w K mg base "_law_back" ["_law_pot_here","_law_made","_law_added"] 5 (oJ):=⟨_,_,rR (P:=l.prog) (w:=w) (base:=base) (mg:=mg) F38 kU dQ uW xX z_list z_len,b38,k38,PySem.W.mg_of X G a38⟩;have uX:Own.Has l.prog w K mg base "_law_right" ["_law_pot_here","_law_web_here"] 7 (gH):=⟨_,_,oZ (P:=l.prog) (w:=w) (base:=base) (mg:=mg) F39 cE xP xX qH bF wW z_isinstance z_tuple z_len z_all z_list,b39,k39,PySem.W.mg_of X G a39⟩;exact kLD (P:=l.prog) (w:=w) (base:=base) (mg:=mg) F40 dP aA uX z_range z_max z_min z_len
theorem walk {l:PySem.W.OpenLaw} {q:Program} {loose:List Str} {XP:(Str->Option Value)->Heap->Prop} {YP:World->Heap->Prop} {d:DefRec} {K:Params->PySem.W.Frag} (hn:l.most=some 63) (hdf:d.params.defaults=[])
  (hY:∀ (w:World) (h:Heap),YP w h->(K w.params).In h)
  (F:∀ (w:World) (mg:Str->Option Value) (fa:Addr) (h:Heap),(K w.params).In h->h.Ns mainGlobals mg->mg d.name=some (.ref fa) ->
   ∃ fd:FuncData,(∀ (s:Shared) (u:Value),BindsTo s fd ⟨[u],[]⟩ [("_law_script",u)])/\∀ base:Heap,(K w.params).In base->base.Ns mainGlobals mg->FnOk l.prog w (K w.params) mg base CX0 8 fa fd ["_law_script"] (kBF (K w.params))) :
  PySem.W.WalkO q loose XP YP l.row.toRowW d [] (λ f vs=>PySem.call f vs) :=
 L2.walk_of (n:=63) (k:=8) (x:="_law_script") (CX:=λ _=>CX0) (sp:=λ w=>kBF (K w.params)) hn (by decide) hdf ⟨rfl,by decide,by decide,rfl⟩ hY F (λ _ _ a ns hl _ hS=>⟨a,ns,rfl,hS,hl,λ _=>rfl⟩) λ _ _ _ _ _ z=>z
end Prf
def PySem.W.Fast.tw5001314583839635360:Nat:=0
def PySem.W.Fast.tw17327174473334365474:Nat:=0
def PySem.W.Fast.tw9896733462414354477:Nat:=0
def PySem.W.Fast.tw6936025887157892448:Nat:=0
def PySem.W.Fast.tw7604014901968583559:Nat:=0
def PySem.W.Fast.tw13307474092758618976:Nat:=0
def PySem.W.Fast.tw9634507268949097116:Nat:=0
def PySem.W.Fast.tw8366130792692052516:Nat:=0
def PySem.W.Fast.tw12146243138203733665:Nat:=0
def PySem.W.Fast.tw1067885210850817986:Nat:=0
def PySem.W.Fast.tw3490506791611330822:Nat:=0
def PySem.W.Fast.tw10739064728365131051:Nat:=0
def PySem.W.Fast.tw3152005068219636651:Nat:=0
def PySem.W.Fast.tw5600445882167016332:Nat:=0
def PySem.W.Fast.tw12184588580687061903:Nat:=0
def PySem.W.Fast.tw1819381663908189171:Nat:=0
def PySem.W.Fast.tw6965866749573923412:Nat:=0
def PySem.W.Fast.tw14418541287386101494:Nat:=0
def PySem.W.Fast.tw7662225705201566425:Nat:=0
def PySem.W.Fast.tw7339381999605928926:Nat:=0
def PySem.W.Fast.tw7156211503633370527:Nat:=0
open PySem PySem.W PyProof.Rows
set_option maxRecDepth 100000 in
set_option maxHeartbeats 0 in
theorem PySem.Challenge.cw_restdraw_k25_whole_filled_holds : PySem.Challenge.rw_restdraw_k25_whole_filled.Holds := by
 w_on;o_law;k_head;(case hw=>w_witness2)
 k_fill
 refine Prf.walk (l:=PySem.Challenge.rw_restdraw_k25_whole_filled) rfl rfl (λ w h Y=>PySem.W.kIn_of Y) ?F
 case F =>
  intro w mg fa h KX G hmg;refine' Prf.all_mk KX G hmg ?a1 ?l1 ?c1 ?k1 ?a2 ?l2 ?c2 ?k2 ?a3 ?l3 ?c3 ?k3 ?a4 ?l4 ?c4 ?k4 ?a5 ?l5 ?c5 ?k5 ?a6 ?l6 ?c6 ?k6 ?a7 ?l7 ?c7 ?k7 ?a8 ?l8 ?c8 ?k8 ?a9 ?l9 ?c9 ?k9 ?a10 ?l10 ?c10 ?k10 ?a11 ?l11 ?c11 ?k11 ?a12 ?l12 ?c12 ?k12 ?a13 ?l13 ?c13 ?k13 ?a14 ?l14 ?c14 ?k14 ?a15 ?l15 ?c15 ?k15 ?a16 ?l16 ?c16 ?k16 ?a17 ?l17 ?c17 ?k17 ?a18 ?l18 ?c18 ?k18 ?a19 ?l19 ?c19 ?k19 ?a20 ?l20 ?c20 ?k20 ?a21 ?l21 ?c21 ?k21 ?a22 ?l22 ?c22 ?k22 ?a23 ?l23 ?c23 ?k23 ?a24 ?l24 ?c24 ?k24 ?a25 ?l25 ?c25 ?k25 ?a26 ?l26 ?c26 ?k26 ?a27 ?l27 ?c27 ?k27 ?a28 ?l28 ?c28 ?k28 ?a29 ?l29 ?c29 ?k29 ?a30 ?l30 ?c30 ?k30 ?a31 ?l31 ?c31 ?k31 ?a32 ?l32 ?c32 ?k32 ?a33 ?l33 ?c33 ?k33 ?a34 ?l34 ?c34 ?k34 ?a35 ?l35 ?c35 ?k35 ?a36 ?l36 ?c36 ?k36 ?a37 ?l37 ?c37 ?k37 ?a38 ?l38 ?c38 ?k38 ?a39 ?l39 ?c39 ?k39 ?a40 ?l40 ?c40 ?k40 ?y1 ?y2 ?y3 ?y4 ?y5 ?y6 ?y7 ?y8 ?y9 ?y10 ?y11 ?y12 ?y13 ?y14
  (case a1=>k_is);(case l1=>k_is);(case c1=>k_is);(case k1=>k_is)
  (case a2=>k_is);(case l2=>k_is);(case c2=>k_is);(case k2=>k_is)
  (case a3=>k_is);(case l3=>k_is);(case c3=>k_is);(case k3=>k_is)
  (case a4=>k_is);(case l4=>k_is);(case c4=>k_is);(case k4=>k_is)
  (case a5=>k_is);(case l5=>k_is);(case c5=>k_is);(case k5=>k_is)
  (case a6=>k_is);(case l6=>k_is);(case c6=>k_is);(case k6=>k_is)
  (case a7=>k_is);(case l7=>k_is);(case c7=>k_is);(case k7=>k_is)
  (case a8=>k_is);(case l8=>k_is);(case c8=>k_is);(case k8=>k_is)
  (case a9=>k_is);(case l9=>k_is);(case c9=>k_is);(case k9=>k_is)
  (case a10=>k_is);(case l10=>k_is);(case c10=>k_is);(case k10=>k_is)
  (case a11=>k_is);(case l11=>k_is);(case c11=>k_is);(case k11=>k_is)
  (case a12=>k_is);(case l12=>k_is);(case c12=>k_is);(case k12=>k_is)
  (case a13=>k_is);(case l13=>k_is);(case c13=>k_is);(case k13=>k_is)
  (case a14=>k_is);(case l14=>k_is);(case c14=>k_is);(case k14=>k_is)
  (case a15=>k_is);(case l15=>k_is);(case c15=>k_is);(case k15=>k_is)
  (case a16=>k_is);(case l16=>k_is);(case c16=>k_is);(case k16=>k_is)
  (case a17=>k_is);(case l17=>k_is);(case c17=>k_is);(case k17=>k_is)
  (case a18=>k_is);(case l18=>k_is);(case c18=>k_is);(case k18=>k_is)
  (case a19=>k_is);(case l19=>k_is);(case c19=>k_is);(case k19=>k_is)
  (case a20=>k_is);(case l20=>k_is);(case c20=>k_is);(case k20=>k_is)
  (case a21=>k_is);(case l21=>k_is);(case c21=>k_is);(case k21=>k_is)
  (case a22=>k_is);(case l22=>k_is);(case c22=>k_is);(case k22=>k_is)
  (case a23=>k_is);(case l23=>k_is);(case c23=>k_is);(case k23=>k_is)
  (case a24=>k_is);(case l24=>k_is);(case c24=>k_is);(case k24=>k_is)
  (case a25=>k_is);(case l25=>k_is);(case c25=>k_is);(case k25=>k_is)
  (case a26=>k_is);(case l26=>k_is);(case c26=>k_is);(case k26=>k_is)
  (case a27=>k_is);(case l27=>k_is);(case c27=>k_is);(case k27=>k_is)
  (case a28=>k_is);(case l28=>k_is);(case c28=>k_is);(case k28=>k_is)
  (case a29=>k_is);(case l29=>k_is);(case c29=>k_is);(case k29=>k_is)
  (case a30=>k_is);(case l30=>k_is);(case c30=>k_is);(case k30=>k_is)
  (case a31=>k_is);(case l31=>k_is);(case c31=>k_is);(case k31=>k_is)
  (case a32=>k_is);(case l32=>k_is);(case c32=>k_is);(case k32=>k_is)
  (case a33=>k_is);(case l33=>k_is);(case c33=>k_is);(case k33=>k_is)
  (case a34=>k_is);(case l34=>k_is);(case c34=>k_is);(case k34=>k_is)
  (case a35=>k_is);(case l35=>k_is);(case c35=>k_is);(case k35=>k_is)
  (case a36=>k_is);(case l36=>k_is);(case c36=>k_is);(case k36=>k_is)
  (case a37=>k_is);(case l37=>k_is);(case c37=>k_is);(case k37=>k_is)
  (case a38=>k_is);(case l38=>k_is);(case c38=>k_is);(case k38=>k_is)
  (case a39=>k_is);(case l39=>k_is);(case c39=>k_is);(case k39=>k_is)
  (case a40=>k_is);(case l40=>k_is);(case c40=>k_is);(case k40=>k_is)
  (case y1=>k_is);(case y2=>k_is);(case y3=>k_is);(case y4=>k_is)
  (case y5=>k_is);(case y6=>k_is);(case y7=>k_is);(case y8=>k_is)
  (case y9=>k_is);(case y10=>k_is);(case y11=>k_is);(case y12=>k_is)
  (case y13=>k_is);(case y14=>k_is)
