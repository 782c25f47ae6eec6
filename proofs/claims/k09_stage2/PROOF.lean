import PyProof.Rows.All
import Wide.All
import OpenK.AllK
import Wide.FinOn
import Lean
import PyProof.EqAt
import PyProof.EqKinds
import PyProof.TupleCall
import PySem.Challenge.RW_stampword_k09_stamps_refused
set_option Elab.async false
set_option linter.all false
set_option maxRecDepth 100000
set_option maxHeartbeats 4000000
namespace QW
open PySem PySem.W PyProof.Rows
abbrev pw := PySem.Challenge.pw_stampword_k09_stamps_refused
abbrev rw := PySem.Challenge.rw_stampword_k09_stamps_refused
def tq (i : Nat) : Stmt := pw.main.body.getD i (.Pass ⟨0, 0, 0, 0⟩)
def qv : Program := { pw with main := { pw.main with body := [tq 1, tq 2, tq 3, tq 4, tq 6, tq 7, tq 8, tq 9, tq 10, tq 12, tq 13, tq 14, tq 15, tq 17, tq 18, tq 19, tq 21, tq 22, tq 23, tq 24, tq 25, tq 26, tq 27, tq 28, tq 29, tq 31, tq 32, tq 33, tq 34, tq 35, tq 36, tq 37, tq 38, tq 39, tq 40, tq 41, tq 42, tq 43, tq 44] } }
abbrev Xt : Shared → Bool := fun s => xlAt qv [] s && recOk (RowW.records (OpenRow.toRowW rw.row)) s
theorem lfG {p q : Program} {X : Shared → Bool} {N : Nat} {α : Type} {Yf : Shared → α} {Ya : World → α} (a : ∀ w, (openEnds treeTable p w N).map (fun s => (seen ((recsOf q).map (·.name)) (ownsOf q) [] { s with gens := #[] }, s.heap.bltView)) = some (expectedOf q, bltViewBooted)) (b : ∀ w, (openEnds treeTable p w N).map (fun s => (openSeen q [] (importedModules p.main.body) X true s).2.2) = some (openGood q []).2.2) (c : ∀ w, (openEnds treeTable p w N).map Yf = some (Ya w)) : LeftO p q [] X Yf Ya N := fun w => by
  have a := a w
  have b := b w
  have c := c w
  revert a b c
  cases openEnds treeTable p w N with
  | none => intro a; cases a
  | some s =>
    intro a b c
    have a := Prod.mk.inj (Option.some.inj a)
    exact congrArg some (Prod.ext (Prod.ext a.1 (Prod.ext a.2 (Option.some.inj b))) (Option.some.inj c))
theorem ws : rw.wellSaid = true := by decide +kernel
theorem ta (w : World) : (openEnds treeTable pw w 5388).map (fun s => (seen ((recsOf qv).map (·.name)) (ownsOf qv) [] { s with gens := #[] }, s.heap.bltView)) = some (expectedOf qv, bltViewBooted) := by kernel_rfl
theorem tb (w : World) : (openEnds treeTable pw w 5388).map (fun s => (openSeen qv [] (importedModules pw.main.body) Xt true s).2.2) = some (openGood qv []).2.2 := by kernel_rfl
end QW
section
open PySem PySem.W PyProof.Rows
set_option hygiene false in
local macro_rules | `(tactic| o_law) => `(tactic| refine holds_law QW.ws fun said => ?_)
set_option hygiene false in
local macro_rules | `(tactic| o_head $H) => `(tactic| (refine holds_open (q := QW.qv) (loose := []) (Xt := QW.Xt) (XP := XL QW.qv []) (Yf := Hook.obs $H) (Ya := Hook.val $H) (YP := Hook.says $H) (N := 5388) (QW.lfG QW.ta QW.tb fun _ => by kernel_rfl) (Hook.of $H) (Hook.keeps $H) (fun s e => xl_of s (Bool.and_eq_true_iff.mp e).1) XL.keeps (by rfl) (by rfl) (by rfl) (fun s e => recFacts_of (Bool.and_eq_true_iff.mp e).2) (by rfl) (by assumption) (by decide +kernel) ⟨rfl, rfl, rfl, rfl, rfl, by decide +kernel⟩ ?hw ?hc <;> clear said))
open_top QWtp for PySem.Challenge.rw_stampword_k09_stamps_refused
end

namespace L2
open PySem PySem.Spec PyProof.Rows
abbrev Key:=Sum Int Str
def jbg:Key→Value→Bool
 | .inl k,v=>Value.isInt k v
 | .inr x,v=>Value.isStrOf x v
def keyH (w:World):Key→Int
 | .inl k=>hashInt k
 | .inr x=>hashStr w x
theorem jxm:∀ {k:Key} {v:Value},jbg k v=true→(∃ i t,k=Sum.inl i∧v=Value.int i t)∨(∃ x t,k=Sum.inr x∧v=Value.str x t)
 | .inl i,v,h=>by
  obtain ⟨t,e⟩:=Value.isInt_shape (k:=i) (v:=v) h
  exact .inl ⟨i,t,rfl,e⟩
 | .inr x,v,h=>by
  obtain ⟨t,e⟩:=Value.isStrOf_shape (x:=x) (v:=v) h
  exact .inr ⟨x,t,rfl,e⟩
theorem jfe (i:Int) (t:Tok):jbg (.inl i) (.int i t)=true:=by simp [jbg,Value.isInt]
theorem jfd (x:Str) (t:Tok):jbg (.inr x) (.str x t)=true:=by simp [jbg,Value.isStrOf]
theorem jrn (a b:Int):decide ((Sum.inl a:Key)=Sum.inl b)=(a == b):=by
 by_cases e:a=b
 ·subst e;simp
 ·have h:¬ (Sum.inl a:Key)=Sum.inl b:=fun q=>e (Sum.inl.inj q)
  rw [decide_eq_false h]
  exact (beq_eq_false_iff_ne.mpr e).symm
theorem jrk (a b:Str):decide ((Sum.inr a:Key)=Sum.inr b)=decide (a=b):=by
 by_cases e:a=b
 ·subst e;simp
 ·have h:¬ (Sum.inr a:Key)=Sum.inr b:=fun q=>e (Sum.inr.inj q)
  rw [decide_eq_false h,decide_eq_false e]
theorem jrm (a:Int) (b:Str):decide ((Sum.inl a:Key)=Sum.inr b)=false:=decide_eq_false (fun q=>nomatch q)
theorem jrl (a:Str) (b:Int):decide ((Sum.inr a:Key)=Sum.inl b)=false:=decide_eq_false (fun q=>nomatch q)
def jxy (prog:Program) (w:World):PySem.KeyKind prog w Key where
 is:=jbg
 hash:=keyH w
 inj:=fun v a b ha hb=>by
  rcases jxm ha with ⟨i,t,rfl,rfl⟩|⟨x,t,rfl,rfl⟩
  ·rcases jxm hb with ⟨j,u,rfl,e⟩|⟨y,u,rfl,e⟩
   ·injection e with e1 _;rw [e1]
   ·exact nomatch e
  ·rcases jxm hb with ⟨j,u,rfl,e⟩|⟨y,u,rfl,e⟩
   ·exact nomatch e
   ·injection e with e1 _;rw [e1]
 byValue:=fun k v h=>by
  rcases jxm h with ⟨i,t,rfl,rfl⟩|⟨x,t,rfl,rfl⟩<;>rfl
 pyHash:=fun hv h=>by
  rcases jxm hv with ⟨i,t,rfl,rfl⟩|⟨x,t,rfl,rfl⟩
  ·exact wpAny_pyHash_int h
  ·exact wpAny_pyHash_str h
 eqBool:=fun hu hv h=>by
  rcases jxm hu with ⟨i,t,rfl,rfl⟩|⟨x,t,rfl,rfl⟩
  ·rcases jxm hv with ⟨j,u,rfl,rfl⟩|⟨y,u,rfl,rfl⟩
   ·rw [jrn] at h;exact wpAny_eqBool_int h
   ·rw [jrm] at h;exact SeqAt.EqAt.int_str i t y u _ _ _ _ h
  ·rcases jxm hv with ⟨j,u,rfl,rfl⟩|⟨y,u,rfl,rfl⟩
   ·rw [jrl] at h;exact SeqAt.EqAt.str_int x t j u _ _ _ _ h
   ·rw [jrk] at h;exact wpAny_eqBool_str h
 «strs»:=fun k x t v h=>by
  rcases jxm h with ⟨i,u,rfl,e⟩|⟨y,u,rfl,e⟩
  ·exact nomatch e
  ·injection e with e1 _
   subst e1
   cases v<;>rfl
theorem jbd (prog:Program) (w:World) (i:Int) (t:Tok):(jxy prog w).is (.inl i) (.int i t)=true:=jfe i t
theorem jbc (prog:Program) (w:World) (x:Str) (t:Tok):(jxy prog w).is (.inr x) (.str x t)=true:=jfd x t
end L2
namespace L2
open PySem PySem.Spec PyProof.Rows
inductive V where
 | non|bl (b:Bool)|int (i:Int)|str (x:Str)|byt (b:Array UInt8)|flt (b:UInt64)|ref (a:Addr)|ty (n:String)
 deriving DecidableEq
def RelV:V→Value→Prop
 | .non,u=>u=Value.none
 | .bl b,u=>u=Value.bool b
 | .int i,u=>∃ t,u=Value.int i t
 | .str x,u=>∃ t,u=Value.str x t
 | .byt b,u=>∃ t,u=Value.bytes b t
 | .flt b,u=>∃ t,u=Value.float b t
 | .ref a,u=>u=Value.ref a
 | .ty n,u=>u=Value.type n
abbrev Vals:List V→List Value→Prop:=Paired RelV
theorem Vals.length {xs:List V} {us:List Value} (r:Vals xs us):xs.length=us.length:=Paired.length r
theorem Vals.get:∀ {xs:List V} {us:List Value} {i:Nat} {x:V},Vals xs us→xs[i]?=some x→∃ u,us[i]?=some u∧RelV x u
 | _,_,_,_,.nil,e=>by simp at e
 | _,_,0,_,.cons r _,e=>by simp at e;subst e;exact ⟨_,rfl,r⟩
 | _,_,i+1,x,.cons _ t,e=>by
  obtain ⟨u,h1,h2⟩:=Vals.get (i:=i) (x:=x) t (by simpa using e)
  exact ⟨u,by simpa using h1,h2⟩
theorem Vals.set {x:V} {u:Value} (r:RelV x u):∀ {xs:List V} {us:List Value} (i:Nat),Vals xs us→Vals (xs.set i x) (us.set i u)
 | _,_,_,.nil=>.nil
 | _,_,0,.cons _ t=>.cons r t
 | _,_,i+1,.cons q t=>.cons q (Vals.set r i t)
theorem Vals.append:∀ {xs ys:List V} {us ws:List Value},Vals xs us→Vals ys ws→Vals (xs++ys) (us++ws)
 | _,_,_,_,.nil,s=>s
 | _,_,_,_,.cons r t,s=>.cons r (Vals.append t s)
theorem Vals.take:∀ {xs:List V} {us:List Value} (n:Nat),Vals xs us→Vals (xs.take n) (us.take n)
 | _,_,0,_=>.nil
 | _,_,_+1,.nil=>.nil
 | _,_,n+1,.cons r t=>.cons r (Vals.take n t)
theorem Vals.drop:∀ {xs:List V} {us:List Value} (n:Nat),Vals xs us→Vals (xs.drop n) (us.drop n)
 | _,_,0,r=>r
 | _,_,_+1,.nil=>.nil
 | _,_,n+1,.cons _ t=>Vals.drop n t
def RelO:Option V→Option Value→Prop
 | some v,some u=>RelV v u
 | none,none=>True
 | _,_=>False
def KV {κ:Type}:List (κ×V)→List (κ×Value)→Prop:=Paired fun (p:κ×V) (q:κ×Value)=>p.1=q.1∧RelV p.2 q.2
def kV:Key→V
 | .inl i=>.int i
 | .inr x=>.str x
inductive HO where
 | lst (xs:List V)
 | tup (xs:List V)
 | dK (kvs:List (Key×V))|dT (kvs:List (List Key×V))
 | set (S:Int→Bool) (n:Nat)
 | ins (C dx:Addr) (fs:List (Str×V))
 | own (x:Addr)
 | xd (fs:List (Str×V))
 | met (f x:Addr)
 | rng (lo hi:Int)
 | frz (o:Obj) (u:HO)
 | tbl (ps:Array Value)
 | ext (φ:Heap→Prop)
abbrev Hp:=Addr→Option HO
def upd (H:Hp) (a:Addr) (o:HO):Hp:=fun b=>if b=a then some o else H b
theorem jq1 {H:Hp} {a:Addr} {o:HO}:upd H a o a=some o:=by unfold upd;rw [if_pos rfl]
theorem jqb {H:Hp} {a b:Addr} {o:HO} (h:b≠a):upd H a o b=H b:=by unfold upd;rw [if_neg h]
theorem jxk {H:Hp} {a b:Addr} {o u:HO} (h:H a=some o) (h':H b=some u) (d:o≠u):a≠b:=by
 intro e;subst e;rw [h] at h';exact d (Option.some.inj h')
theorem jq9 {H:Hp} {a b:Addr} {o:HO} (h:H a=some o) (h':H b=none):a≠b:=by
 intro e;subst e;rw [h] at h';cases h'
section
variable (P:Program) (w:World)
def ObjOk (H:Hp) (h:Heap) (a:Addr):HO→Prop
 | .lst xs=>xs.length≤sizeLine∧∃ (its:List Value) (n:Nat),Vals xs its∧h.get? a=some { cls:=.type "list",data:=.seq its.toArray n}
 | .tup xs=>xs.length≤sizeLine∧∃ its:List Value,Vals xs its∧IsTup h a its.toArray
 | .dK kvs=>kvs.length≤sizeLine∧(a == sysModules)=false∧∃ vs,KV kvs vs∧h.DictOf (jxy P w) a vs
 | .dT kvs=>kvs.length≤sizeLine∧(a == sysModules)=false∧∃ xs:List (List Key×Addr×Value),
   Paired (fun (p:List Key×V) (q:List Key×Addr×Value)=>p.1=q.1∧H q.2.1=some (.tup (p.1.map kV))∧RelV p.2 q.2.2) kvs xs∧
   ∃ o es ep,h.get? a=some o∧o.ExactDict∧o.data=.dict es ep∧es.toList=xs.map (entryOfKey (tupleKind (jxy P w)))∧(xs.map (·.1)).Nodup
 | .set S n=>h.SetOf (intKind P w) a S n
 | .ins C dx fs=>H dx=some (.own a)∧fs.length≤1000∧dx≠a∧h.get? a=some (PySem.W.instObj C dx)∧
   ∃ mA,h.Ns1 dx mA∧(∀ f,RelO (fs.lookup f) (mA f))∧PySem.Within mA (fs.map (·.1))
 | .own _=>∃ o,h.get? a=some o
 | .xd fs=>∃ mA,h.Ns1 a mA∧∀ f,RelO (fs.lookup f) (mA f)
 | .rng lo hi=>∃ t u v,h.get? a=some { cls:=.type "range",data:=.fields #[.int lo t,.int hi u,.int 1 v]}
 | .frz o u=>h.get? a=some o∧ObjOk H h a u
 | .tbl ps=>h.get? a=some { cls:=.none,data:=.fields ps}
 | .met f x=>h.get? a=some (PySem.W.methodObj (.ref f) (.ref x))
 | .ext φ=>φ h∧(∃ o,h.get? a=some o)∧∀ h1 h2:Heap,φ h1→(∀ o,h1.get? a=some o→h2.get? a=some o)→φ h2
def HOk (H:Hp) (h:Heap):Prop:=∀ a o,H a=some o→ObjOk P w H h a o
end
section
variable {P:Program} {w:World} {H H':Hp} {h h':Heap} {a:Addr} {o:HO}
theorem ObjOk.lt (x:ObjOk P w H h a o):a < h.objs.size:=by
 cases o with
 | lst xs=>obtain ⟨_,_,_,_,e⟩:=x;exact Heap.lt_size e
 | tup xs=>obtain ⟨_,_,_,p⟩:=x;exact p.lt
 | dK kvs=>obtain ⟨_,_,_,_,o,_,_,e,_⟩:=x;exact Heap.lt_size e
 | dT kvs=>obtain ⟨_,_,_,_,o,_,_,e,_⟩:=x;exact Heap.lt_size e
 | set S n=>obtain ⟨o,_,_,_,e,_⟩:=x;exact Heap.lt_size e
 | ins C dx fs=>obtain ⟨_,_,_,e,_⟩:=x;exact Heap.lt_size e
 | own y=>obtain ⟨_,e⟩:=x;exact Heap.lt_size e
 | xd fs=>obtain ⟨_,⟨_,_,_,e,_⟩,_⟩:=x;exact Heap.lt_size e
 | rng lo hi=>obtain ⟨_,_,_,e⟩:=x;exact Heap.lt_size e
 | frz ob u=>obtain ⟨e,_⟩:=x;exact Heap.lt_size e
 | tbl ps=>exact Heap.lt_size (show h.get? a=some _ from x)
 | met f y=>exact Heap.lt_size (show h.get? a=some _ from x)
 | ext φ=>obtain ⟨_,⟨_,e⟩,_⟩:=x;exact Heap.lt_size e
theorem Paired.mapP {α β:Type} {F G:α→β→Prop}:∀ {l₁:List α} {l₂:List β},Paired F l₁ l₂→(∀ a b,F a b→G a b)→Paired G l₁ l₂
 | _,_,.nil,_=>.nil
 | _,_,.cons r t,f=>.cons (f _ _ r) (Paired.mapP t f)
theorem ObjOk.stay (x:ObjOk P w H h a o) (k:∀ b u,(b=a∨H b=some (.own a))→h.get? b=some u→h'.get? b=some u)
  (ho:∀ b,H b=some (.own a)→H' b=some (.own a)) (ht:∀ b xs,H b=some (.tup xs)→H' b=some (.tup xs)):ObjOk P w H' h' a o:=by
 induction o with
 | lst xs=>obtain ⟨z,its,n,r,e⟩:=x;exact ⟨z,its,n,r,k _ _ (.inl rfl) e⟩
 | tup xs=>obtain ⟨z,its,r,ob,e,c⟩:=x;exact ⟨z,its,r,ob,k _ _ (.inl rfl) e,c⟩
 | dK kvs=>obtain ⟨z,y,vs,r,ob,es,ep,e,c⟩:=x;exact ⟨z,y,vs,r,ob,es,ep,k _ _ (.inl rfl) e,c⟩
 | dT kvs=>
  obtain ⟨z,y,xs,r,ob,es,ep,e,c⟩:=x
  exact ⟨z,y,xs,Paired.mapP r fun p q z=>⟨z.1,ht _ _ z.2.1,z.2.2⟩,ob,es,ep,k _ _ (.inl rfl) e,c⟩
 | set S n=>obtain ⟨ob,es,ep,t,e,c⟩:=x;exact ⟨ob,es,ep,t,k _ _ (.inl rfl) e,c⟩
 | ins C dx fs=>
  obtain ⟨d,z,ne,e,mA,⟨od,es,ep,e2,c⟩,r⟩:=x
  exact ⟨ho _ d,z,ne,k _ _ (.inl rfl) e,mA,⟨od,es,ep,k _ _ (.inr d) e2,c⟩,r⟩
 | own y=>obtain ⟨ob,e⟩:=x;exact ⟨ob,k _ _ (.inl rfl) e⟩
 | xd fs=>obtain ⟨mA,⟨od,es,ep,e,c⟩,r⟩:=x;exact ⟨mA,⟨od,es,ep,k _ _ (.inl rfl) e,c⟩,r⟩
 | rng lo hi=>obtain ⟨t,u,v,e⟩:=x;exact ⟨t,u,v,k _ _ (.inl rfl) e⟩
 | frz ob u ih=>obtain ⟨e,q⟩:=x;exact ⟨k _ _ (.inl rfl) e,ih q⟩
 | tbl ps=>
  have e:h.get? a=some { cls:=.none,data:=.fields ps}:=x
  show h'.get? a=some { cls:=.none,data:=.fields ps}
  exact k a _ (.inl rfl) e
 | met f y=>
  have e:h.get? a=some (PySem.W.methodObj (.ref f) (.ref y)):=x
  show h'.get? a=some (PySem.W.methodObj (.ref f) (.ref y))
  exact k a _ (.inl rfl) e
 | ext φ=>obtain ⟨p,⟨o,e⟩,st⟩:=x;exact ⟨st _ _ p fun o q=>k _ _ (.inl rfl) q,⟨o,k _ _ (.inl rfl) e⟩,st⟩
theorem HOk.lt (x:HOk P w H h) (e:H a=some o):a < h.objs.size:=(x a o e).lt
theorem HOk.fresh (x:HOk P w H h) (e:h.objs.size≤a):H a=none:=by
 cases q:H a with
 | none=>rfl
 | some u=>exact absurd (Nat.lt_of_lt_of_le (x.lt q) e) (Nat.lt_irrefl _)
theorem HOk.kept (x:HOk P w H h) (k:∀ b u,h.get? b=some u→h'.get? b=some u):HOk P w H h':=fun a o e=>
 (x a o e).stay (fun b u _ q=>k b u q) (fun _ q=>q) fun _ _ q=>q
theorem HOk.laid (x:HOk P w H h) (k:∀ b u,h.get? b=some u→h'.get? b=some u) (hp:h.objs.size≤a) (new:ObjOk P w (upd H a o) h' a o):HOk P w (upd H a o) h':=fun b u e=>by
 have hn:=x.fresh hp
 by_cases hb:b=a
 ·subst hb;rw [jq1] at e;cases e;exact new
 ·rw [jqb hb] at e
  exact (x b u e).stay (fun c v _ q=>k c v q) (fun c q=>by rw [jqb (jq9 q hn)];exact q) fun c xs q=>by rw [jqb (jq9 q hn)];exact q
end
def Rd (H:Hp) (a:Addr) (u:HO):Prop:=H a=some u∨∃ o,H a=some (.frz o u)
theorem Rd.ok {P:Program} {w:World} {H:Hp} {h:Heap} {a:Addr} {u:HO} (r:Rd H a u) (x:HOk P w H h):ObjOk P w H h a u:=by
 rcases r with r|⟨o,r⟩
 ·exact x a u r
 ·obtain ⟨_,q⟩:=x a _ r
  exact q
def Mut:Option HO→Prop
 | some (.lst _)=>True
 | some (.dK _)=>True
 | some (.dT _)=>True
 | some (.set _ _)=>True
 | some (.ins _ _ _)=>True
 | some (.ext _)=>True
 | _=>False
section
variable {P:Program} {w:World} {H:Hp} {h h':Heap} {x e:Addr} {o':HO}
theorem HOk.write (ok:HOk P w H h) (mu:Mut (H x)) (he:e=x∨H e=some (.own x)) (k:∀ b u,b≠e→h.get? b=some u→h'.get? b=some u) (heo:∃ u,h'.get? e=some u)
  (new:ObjOk P w (upd H x o') h' x o'):HOk P w (upd H x o') h':=fun b u q=>by
 have nown:∀ c y,H c=some (.own y)→c≠x:=fun c y r z=>by subst z;rw [r] at mu;exact mu
 have ntup:∀ c xs,H c=some (.tup xs)→c≠x:=fun c xs r z=>by subst z;rw [r] at mu;exact mu
 by_cases hb:b=x
 ·subst hb;rw [jq1] at q;cases q;exact new
 ·rw [jqb hb] at q
  by_cases hbe:b=e
  ·have q':H b=some (.own x):=by
    rcases he with z|z
    ·exact absurd (hbe.trans z) hb
    ·rw [hbe];exact z
   rw [q] at q';cases q'
   obtain ⟨v,hv⟩:=heo
   exact ⟨v,by rw [hbe];exact hv⟩
  ·refine (ok b u q).stay (fun c v hc r=>k c v ?_ r) (fun c r=>by rw [jqb (nown c b r)];exact r) fun c xs r=>by rw [jqb (ntup c xs r)];exact r
   rcases hc with rfl|hc
   ·exact hbe
   ·rintro rfl
    rcases he with z|z
    ·exact nown c b hc z
    ·rw [hc] at z;cases z;exact hb rfl
end
structure Un (fs ex:List Addr) (H H':Hp) (h h':Heap):Prop where
 keep:∀ b o,h.get? b=some o→H b=none→b∉fs→b∉ex→h'.get? b=some o
 slot:∀ b o,h.get? b=some o→H b=none→b∈fs→b∉ex→∃ sl,h'.get? b=some { o with slots:=sl}
 free:∀ b o,h.get? b=some o→H b=none→b∉ex→H' b=none
 there:∀ b o,h.get? b=some o→b∉ex→∃ o',h'.get? b=some o'
 tups:∀ b xs,H b=some (.tup xs)→H' b=some (.tup xs)
 frzs:∀ b o u,H b=some (.frz o u)→H' b=some (.frz o u)
 tbls:∀ b ps,H b=some (.tbl ps)→∃ more,H' b=some (.tbl (ps++more))
section
variable {fs fs' ex ex':List Addr} {H H1 H2:Hp} {h h1 h2 h':Heap} {a x e:Addr} {o:HO}
theorem Un.any (u:Un fs ex H H1 h h1) {b:Addr} {ob:Obj} (q:h.get? b=some ob) (n:H b=none) (hx:b∉ex):∃ sl,h1.get? b=some { ob with slots:=sl}:=by
 by_cases hb:b∈fs
 ·exact u.slot b ob q n hb hx
 ·exact ⟨ob.slots,u.keep b ob q n hb hx⟩
theorem Un.kept (k:∀ b u,h.get? b=some u→h'.get? b=some u):Un fs ex H H h h':=
 ⟨fun b ob q _ _ _=>k b ob q,fun b ob q _ _ _=>⟨ob.slots,k b ob q⟩,fun _ _ _ n _=>n,fun b ob q _=>⟨ob,k b ob q⟩,fun _ _ q=>q,fun _ _ _ q=>q,fun _ ps q=>⟨#[],by rw [q];simp⟩⟩
theorem Un.refl:Un fs ex H H h h:=Un.kept fun _ _ q=>q
theorem Un.laid (k:∀ b u,h.get? b=some u→h'.get? b=some u) (hp:h.objs.size≤a) (hn:H a=none):Un fs ex H (upd H a o) h h' where
 keep:=fun b u q _ _ _=>k b u q
 slot:=fun b u q _ _ _=>⟨u.slots,k b u q⟩
 free:=fun b u q n _=>by rw [jqb (Nat.ne_of_lt (Nat.lt_of_lt_of_le (Heap.lt_size q) hp))];exact n
 there:=fun b u q _=>⟨u,k b u q⟩
 tups:=fun b xs q=>by rw [jqb (jq9 q hn)];exact q
 frzs:=fun b u xs q=>by rw [jqb (jq9 q hn)];exact q
 tbls:=fun b ps q=>⟨#[],by rw [jqb (jq9 q hn),q];simp⟩
theorem Un.write (mu:Mut (H x)) (he:e=x∨H e=some (.own x)) (k:∀ b u,b≠e→h.get? b=some u→h'.get? b=some u) (heo:∃ u,h'.get? e=some u):Un fs ex H (upd H x o) h h':=by
 have hx:∀ b,H b=none→b≠x:=fun b n z=>by subst z;rw [n] at mu;exact mu
 have hb:∀ b,H b=none→b≠e:=fun b n z=>by
  subst z
  rcases he with r|r
  ·exact hx b n r
  ·rw [n] at r;cases r
 have hm:∀ b u,H b=some u→¬ Mut (some u)→b≠x:=fun b u q nm z=>by subst z;rw [q] at mu;exact nm mu
 refine ⟨fun b u q n _ _=>k b u (hb b n) q,fun b u q n _ _=>⟨u.slots,k b u (hb b n) q⟩,fun b u q n _=>by rw [jqb (hx b n)];exact n,fun b u q _=>?_,
  fun b xs q=>by rw [jqb (hm b _ q fun z=>z)];exact q,fun b u xs q=>by rw [jqb (hm b _ q fun z=>z)];exact q,fun b ps q=>⟨#[],by rw [jqb (hm b _ q fun z=>z),q];simp⟩⟩
 by_cases hbe:b=e
 ·subst hbe;exact heo
 ·exact ⟨u,k b u hbe q⟩
end
def trk (h:Heap) (H:Hp):List Addr:=(List.range h.objs.size).filter fun a=>(H a).isSome
def hidT (h:Heap) (H:Hp):Heap:=PySem.W.hideAll h (trk h H)
theorem jfj (h:Heap) (H:Hp):(hidT h H).objs.size=h.objs.size:=PySem.W.hideAll_size _ _
theorem jh5 {h:Heap} {H:Hp} {b:Addr} {o:Obj} (e:h.get? b=some o) (n:H b=none):(hidT h H).get? b=some o:=
 PySem.W.hideAll_get _ e fun hm=>by
  have q:(H b).isSome=true:=(List.mem_filter.mp hm).2
  rw [n] at q;simp at q
theorem jmq {h:Heap} {H:Hp} {b:Addr} {o:Obj} (e:(hidT h H).get? b=some o):h.get? b=some o∧H b=none:=by
 have e':h.get? b=some o:=PySem.W.of_hideAll (trk h H) e
 refine ⟨e',?_⟩
 cases q:H b with
 | none=>rfl
 | some x=>
  have hm:b∈trk h H:=List.mem_filter.mpr ⟨List.mem_range.mpr (Heap.lt_size e'),by simp [q]⟩
  have z:(hidT h H).get? b=none:=PySem.W.hideAll_none (trk h H) hm
  rw [z] at e;cases e
end L2
namespace L2
open PySem PySem.Spec PyProof.Rows
structure Mod (K:PySem.W.Frag) (mg:Str→Option Value) (base:Heap):Prop where
 kin:K.In base
 glob:base.Ns mainGlobals mg
 blt:∃ mb,base.Ns builtinsNs mb∧∀ x:Str,x≠"__name__"→mb x=bootBuiltins x
 nolimit:base.NoLimit
structure Cx where
 prog:Program
 w:World
 K:PySem.W.Frag
 mg:Str→Option Value
 base:Heap
 A:Around
 N:List Str
 s₀:Shared
 H₀:Hp
 env:Env
 outer:List Env
 stack:List Env
 ex:List Addr
 fn:Str→Bool
 calm:Bool
 pn:List (Addr×Obj)
 xe:Value→Shared→Prop
def frs (l:List Env):List Addr:=l.filterMap (·.frame)
abbrev Cx.fs (X:Cx):List Addr:=frs X.outer
def Vis (sc:Scope) (x:Str):Prop:=sc.names.lookup x=some .local∨sc.names.lookup x=some .cell∨sc.names.lookup x=some .free
def Loc (sc:Scope) (x:Str):Prop:=sc.names.lookup x=some .local∨sc.names.lookup x=some .cell
def Look (env:Env) (h:Heap) (m:Str→Option Value) (x:Str) (u:Value):Prop:=
 (env.kindOf x=some .local∧m x=some u)∨((env.kindOf x=some .cell∨env.kindOf x=some .free)∧∃ c,env.cells.lookup x=some c∧h.IsCell c (some u))
structure Cx.Ok (X:Cx):Prop where
 mod:Mod X.K X.mg X.base
 kind:X.env.scope.kind=.function
 glob:X.env.globals=mainGlobals
 blt:X.env.builtins=builtinsNs
 above:X.s₀.heap.objs.size≤X.env.locals
 inj:∀ x y c,X.env.cells.lookup x=some c→X.env.cells.lookup y=some c→x=y
 has:∀ x,(X.env.kindOf x=some .cell∨X.env.kindOf x=some .free)→∃ c,X.env.cells.lookup x=some c
 cab:∀ x c,X.fn x=true→X.env.cells.lookup x=some c→X.s₀.heap.objs.size≤c
 hd:X.calm=true→X.A.handled=none
 frames:X.A.frames=some X.stack
 stk:X.stack=X.outer∨(X.stack=X.env :: X.outer∧X.env.frame=some X.env.locals)
 exf:∀ b∈X.ex,b≠X.env.locals∧∀ x c,X.env.cells.lookup x=some c→c≠b
 bs:∀ b o,X.base.get? b=some o→X.s₀.heap.get? b=some o∧X.H₀ b=none
 bsz:X.base.objs.size≤X.s₀.heap.objs.size
 noex:∀ b o,X.base.get? b=some o→b∉X.ex
 exfs:∀ b∈X.ex,b∉X.fs
 funs:X.s₀.heap.FunFrames X.base X.outer
 frf:∀ b∈X.fs,X.H₀ b=none
structure Inv (X:Cx) (pins:List (Addr×Obj)) (σ:List (Option V)) (H:Hp) (s:Shared):Prop where
 ok:X.Ok
 os:s.os=X.s₀.os
 bare:AllBare s.gens
 base:Un X.fs X.ex X.H₀ H X.s₀.heap s.heap
 loc:∃ m,s.heap.Ns X.env.locals m∧∀ (i:Nat) (x:Str) (v:V),X.N[i]?=some x→σ[i]?=some (some v)→Vis X.env.scope x→∃ u,RelV v u∧Look X.env s.heap m x u
 cell:∀ x c,X.env.cells.lookup x=some c→∃ v,s.heap.IsCell c v
 free:H X.env.locals=none
 freeC:∀ x c,X.env.cells.lookup x=some c→H c=none
 pin:∀ p∈X.pn++pins,s.heap.get? p.1=some p.2∧H p.1=none∧p.1≠X.env.locals∧p.1∉X.fs∧∀ v,p.2.data≠.cell v
 hok:HOk X.prog X.w H s.heap
 len:σ.length=X.N.length
section
variable {X:Cx} {pins:List (Addr×Obj)} {σ:List (Option V)} {H H':Hp} {s:Shared} {h':Heap}
theorem Cx.Ok.nofr (ok:X.Ok) {b:Addr} {o:Obj} (e:X.base.get? b=some o):b∉X.fs:=fun hb=>by
 have:=(ok.funs.mem hb).1
 rw [e] at this;cases this
theorem Inv.bs (I:Inv X pins σ H s):∀ b o,X.base.get? b=some o→s.heap.get? b=some o∧H b=none:=fun b o e=>
 ⟨I.base.keep b o (I.ok.bs b o e).1 (I.ok.bs b o e).2 (I.ok.nofr e) (I.ok.noex b o e),I.base.free b o (I.ok.bs b o e).1 (I.ok.bs b o e).2 (I.ok.noex b o e)⟩
theorem Inv.bk (I:Inv X pins σ H s):∀ b o,X.base.get? b=some o→s.heap.get? b=some o:=fun b o e=>(I.bs b o e).1
theorem Inv.mod (I:Inv X pins σ H s):Mod X.K X.mg X.base:=I.ok.mod
theorem Inv.kIn (I:Inv X pins σ H s):X.K.In s.heap:=I.ok.mod.kin.keeps I.bk
theorem Inv.lt (I:Inv X pins σ H s):X.env.locals < s.heap.objs.size:=let ⟨_,hn,_⟩:=I.loc;hn.lt
theorem Inv.sz (I:Inv X pins σ H s):X.s₀.heap.objs.size≤s.heap.objs.size:=Nat.le_trans I.ok.above (Nat.le_of_lt I.lt)
theorem Inv.nofs (I:Inv X pins σ H s) {a:Addr} (h:s.heap.objs.size≤a):a∉X.fs:=fun hb=>by
 obtain ⟨_,o,ho,_⟩:=I.ok.funs.mem hb
 exact absurd (Nat.lt_of_lt_of_le (Heap.lt_size ho) (Nat.le_trans I.sz h)) (Nat.lt_irrefl _)
theorem Inv.cne (I:Inv X pins σ H s):∀ x c,X.env.cells.lookup x=some c→c≠X.env.locals:=fun x c e z=>by
 obtain ⟨v,o,ho,hd⟩:=I.cell x c e
 obtain ⟨m,⟨o',es,ep,ho',hd',_⟩,_⟩:=I.loc
 rw [z,ho'] at ho;cases ho;rw [hd'] at hd;cases hd
theorem Inv.funs (I:Inv X pins σ H s):s.heap.FunFrames X.base X.outer:=by
 have all:∀ (l:List Env),(∀ b∈frs l,b∈X.fs)→X.s₀.heap.FunFrames X.base l→s.heap.FunFrames X.base l:=by
  intro l
  induction l with
  | nil=>intro _ _;trivial
  | cons env r ih=>
   intro hs hl
   obtain ⟨hk,⟨L,o,hf,hn,ho,hd⟩,hr⟩:=hl
   have hL:L∈X.fs:=hs L (by unfold frs;rw [List.filterMap_cons,hf];exact List.mem_cons_self)
   obtain ⟨sl,e⟩:=I.base.slot L o ho (I.ok.frf L hL) hL fun z=>I.ok.exfs L z hL
   exact ⟨hk,⟨L,_,hf,hn,e,hd⟩,ih (fun b hb=>hs b (by unfold frs;rw [List.filterMap_cons,hf];exact List.mem_cons_of_mem _ hb)) hr⟩
 exact all X.outer (fun _ hb=>hb) I.ok.funs
theorem Inv.stack (I:Inv X pins σ H s):s.heap.FunFrames X.base X.stack:=by
 rcases I.ok.stk with e|⟨e,hf⟩
 ·rw [e];exact I.funs
 ·rw [e]
  obtain ⟨m,hn,_⟩:=I.loc
  refine .cons (by rw [I.ok.kind];decide) hf hn ?_ I.funs
  exact Heap.get?_none_of_le (Nat.le_trans I.ok.bsz I.ok.above)
theorem Inv.stkSub (I:Inv X pins σ H s):∀ b∈frs X.stack,b∈X.env.locals :: X.fs:=fun b hb=>by
 rcases I.ok.stk with e|⟨e,hf⟩
 ·rw [e] at hb;exact List.mem_cons_of_mem _ hb
 ·rw [e] at hb
  unfold frs at hb
  rw [List.filterMap_cons,hf] at hb
  exact hb
theorem Inv.stkFree (I:Inv X pins σ H s):∀ b∈frs X.stack,H b=none:=fun b hb=>by
 rcases List.mem_cons.mp (I.stkSub b hb) with e|hb
 ·rw [e];exact I.free
 ·obtain ⟨_,o,ho,_⟩:=I.ok.funs.mem hb
  exact I.base.free b o ho (I.ok.frf b hb) fun z=>I.ok.exfs b z hb
theorem Inv.step {g':Array GenState} {t':Nat} {d':Drawn} {ch:List Addr} (I:Inv X pins σ H s)
  (hch:∀ b∈ch,(b∈X.ex∨X.s₀.heap.objs.size≤b)∧b≠X.env.locals∧(∀ x c,X.env.cells.lookup x=some c→c≠b)∧∀ p∈X.pn++pins,p.1≠b)
  (keep:∀ b o,b≠X.env.locals→b∉X.fs→b∉ch→s.heap.get? b=some o→H b=none→h'.get? b=some o)
  (slot:∀ b o,b≠X.env.locals→b∈X.fs→b∉ch→s.heap.get? b=some o→H b=none→∃ sl,h'.get? b=some { o with slots:=sl}) (free:∀ b o,b∉ch→s.heap.get? b=some o→H b=none→H' b=none)
  (there:∀ b o,b∉ch→s.heap.get? b=some o→∃ o',h'.get? b=some o')
  (tups:∀ b xs,H b=some (.tup xs)→H' b=some (.tup xs)) (frzs:∀ b o u,H b=some (.frz o u)→H' b=some (.frz o u)) (tbls:∀ b ps,H b=some (.tbl ps)→∃ more,H' b=some (.tbl (ps++more)))
  (ns:∀ m,s.heap.Ns X.env.locals m→h'.Ns X.env.locals m) (hok:HOk X.prog X.w H' h') (hg:AllBare g') :
  Inv X pins σ H' { s with heap:=h',gens:=g',drawn:=d',toks:=t'}:=by
 have neL:∀ b o,X.s₀.heap.get? b=some o→b≠X.env.locals:=fun b o e=>Nat.ne_of_lt (Nat.lt_of_lt_of_le (Heap.lt_size e) I.ok.above)
 have neC:∀ b o,X.s₀.heap.get? b=some o→b∉X.ex→b∉ch:=fun b o e hx hb=>by
  rcases (hch b hb).1 with z|z
  ·exact hx z
  ·exact absurd (Nat.lt_of_lt_of_le (Heap.lt_size e) z) (Nat.lt_irrefl _)
 have cellK:∀ x c,X.env.cells.lookup x=some c→∀ v,s.heap.IsCell c v→h'.IsCell c v:=fun x c e v ⟨o,ho,hd⟩=>by
  have nch:c∉ch:=fun z=>(hch c z).2.2.1 x c e rfl
  by_cases hc:c∈X.fs
  ·obtain ⟨sl,q⟩:=slot c o (I.cne x c e) hc nch ho (I.freeC x c e)
   exact ⟨_,q,hd⟩
  ·exact ⟨o,keep c o (I.cne x c e) hc nch ho (I.freeC x c e),hd⟩
 refine ⟨I.ok,I.os,hg,⟨fun b o e n hb hx=>?_,fun b o e n hb hx=>?_,fun b o e n hx=>?_,fun b o e hx=>?_,fun b xs e=>tups b xs (I.base.tups b xs e),fun b o xs e=>frzs b o xs (I.base.frzs b o xs e),fun b ps e=>?_⟩,?_,fun x c e=>?_,?_,fun x c e=>?_,fun p hp=>?_,hok,I.len⟩
 ·exact keep b o (neL b o e) hb (neC b o e hx) (I.base.keep b o e n hb hx) (I.base.free b o e n hx)
 ·obtain ⟨sl,e1⟩:=I.base.slot b o e n hb hx
  obtain ⟨sl',e2⟩:=slot b _ (neL b o e) hb (neC b o e hx) e1 (I.base.free b o e n hx)
  exact ⟨sl',e2⟩
 ·obtain ⟨o',e1⟩:=I.base.there b o e hx
  exact free b o' (neC b o e hx) e1 (I.base.free b o e n hx)
 ·obtain ⟨o',e1⟩:=I.base.there b o e hx
  exact there b o' (neC b o e hx) e1
 ·obtain ⟨m1,e1⟩:=I.base.tbls b ps e
  obtain ⟨m2,e2⟩:=tbls b _ e1
  exact ⟨m1++m2,by rw [e2,Array.append_assoc]⟩
 ·obtain ⟨m,hn,hl⟩:=I.loc
  refine ⟨m,ns m hn,fun i x v e1 e2 e3=>?_⟩
  obtain ⟨u,r,l⟩:=hl i x v e1 e2 e3
  refine ⟨u,r,?_⟩
  rcases l with l|⟨k,c,e,z⟩
  ·exact .inl l
  ·exact .inr ⟨k,c,e,cellK x c e _ z⟩
 ·obtain ⟨v,z⟩:=I.cell x c e
  exact ⟨v,cellK x c e v z⟩
 ·obtain ⟨m,⟨o,_,_,ho,_⟩,_⟩:=I.loc
  exact free _ o (fun z=>(hch _ z).2.1 rfl) ho I.free
 ·obtain ⟨v,o,ho,hd⟩:=I.cell x c e
  exact free c o (fun z=>(hch c z).2.2.1 x c e rfl) ho (I.freeC x c e)
 ·obtain ⟨e,n,ne,nf,d⟩:=I.pin p hp
  have nch:p.1∉ch:=fun z=>(hch p.1 z).2.2.2 p hp rfl
  exact ⟨keep p.1 p.2 ne nf nch e n,free p.1 p.2 nch e n,ne,nf,d⟩
theorem Inv.un {t':Nat} (I:Inv X pins σ H s) (u:Un X.fs [] H H' s.heap h') (hok:HOk X.prog X.w H' h'):Inv X pins σ H' { s with heap:=h',toks:=t'}:=by
 obtain ⟨m,⟨o,es,ep,ho,r⟩,_⟩:=id I.loc
 obtain ⟨sl,hL⟩:=u.any ho I.free (by simp)
 exact I.step (g':=s.gens) (d':=s.drawn) (ch:=[]) (fun _ z=>nomatch z) (fun b o _ hb _ e n=>u.keep b o e n hb (by simp)) (fun b o _ hb _ e n=>u.slot b o e n hb (by simp)) (fun b o _ e n=>u.free b o e n (by simp)) (fun b o _ e=>u.there b o e (by simp)) u.tups u.frzs u.tbls (fun m' hm=>by
  obtain ⟨o',es',ep',ho',r'⟩:=hm
  rw [ho] at ho';cases ho'
  exact ⟨_,es',ep',hL,r'⟩) hok I.bare
theorem Inv.call {g':Array GenState} {t':Nat} {d':Drawn} {ch:List Addr} (I:Inv X pins σ H s) (u:Un (frs X.stack) ch H H' s.heap h') (hok:HOk X.prog X.w H' h') (hg:AllBare g')
  (hch:∀ b∈ch,(b∈X.ex∨X.s₀.heap.objs.size≤b)∧b≠X.env.locals∧(∀ x c,X.env.cells.lookup x=some c→c≠b)∧∀ p∈X.pn++pins,p.1≠b) :
  Inv X pins σ H' { s with heap:=h',gens:=g',drawn:=d',toks:=t'}:=by
 obtain ⟨m,⟨o,es,ep,ho,r⟩,_⟩:=id I.loc
 obtain ⟨sl,hL⟩:=u.any ho I.free fun z=>(hch _ z).2.1 rfl
 exact I.step (ch:=ch) hch (fun b o hL hb hc e n=>u.keep b o e n (fun z=>(List.mem_cons.mp (I.stkSub b z)).elim hL hb) hc) (fun b o _ _ hc e n=>u.any e n hc) (fun b o hc e n=>u.free b o e n hc) (fun b o hc e=>u.there b o e hc) u.tups u.frzs u.tbls (fun m' hm=>by
  obtain ⟨o',es',ep',ho',r'⟩:=hm
  rw [ho] at ho';cases ho'
  exact ⟨_,es',ep',hL,r'⟩) hok hg
theorem Inv.turned {t':Nat} {it:Addr} (I:Inv X pins σ H s) (k:∀ b o,b≠it→s.heap.get? b=some o→h'.get? b=some o) (hn:H it=none) (hL:it≠X.env.locals)
  (h1:it∈X.ex∨X.s₀.heap.objs.size≤it) (h2:∀ x c,X.env.cells.lookup x=some c→c≠it) (h3:∀ p∈X.pn++pins,p.1≠it):Inv X pins σ H { s with heap:=h',toks:=t'}:=by
 have nit:∀ b u,H b=some u→b≠it:=fun b u e z=>by rw [z,hn] at e;cases e
 refine I.step (g':=s.gens) (d':=s.drawn) (ch:=[it]) (fun b hb=>?_) (fun b o _ _ hc e _=>k b o (fun z=>hc (by simp [z])) e) (fun b o _ _ hc e _=>⟨o.slots,k b o (fun z=>hc (by simp [z])) e⟩) (fun _ _ _ _ n=>n)
  (fun b o hc e=>⟨o,k b o (fun z=>hc (by simp [z])) e⟩) (fun _ _ e=>e) (fun _ _ _ e=>e) (fun b ps e=>⟨#[],by rw [e];simp⟩) (fun m hm=>?_) (fun b u e=>?_) I.bare
 ·have e:b=it:=by simpa using hb
  subst e
  exact ⟨h1,hL,h2,h3⟩
 ·obtain ⟨o,es,ep,ho,r⟩:=hm
  exact ⟨o,es,ep,k _ o (Ne.symm hL) ho,r⟩
 ·refine (I.hok b u e).stay (fun c v hc q=>k c v ?_ q) (fun _ q=>q) fun _ _ q=>q
  rcases hc with z|z
  ·rw [z];exact nit b u e
  ·exact nit c _ z
theorem Inv.tok (I:Inv X pins σ H s) (t:Nat):Inv X pins σ H { s with toks:=t}:=I.un (h':=s.heap) (t':=t) Un.refl I.hok
theorem Inv.kept {t':Nat} (I:Inv X pins σ H s) (k:∀ b u,s.heap.get? b=some u→h'.get? b=some u):Inv X pins σ H { s with heap:=h',toks:=t'}:=I.un (Un.kept k) (I.hok.kept k)
theorem Inv.laid {a:Addr} {o:HO} {t':Nat} (I:Inv X pins σ H s) (k:∀ b u,s.heap.get? b=some u→h'.get? b=some u) (hp:s.heap.objs.size≤a) (new:ObjOk X.prog X.w (upd H a o) h' a o) :
  Inv X pins σ (upd H a o) { s with heap:=h',toks:=t'}:=I.un (Un.laid k hp (I.hok.fresh hp)) (I.hok.laid k hp new)
theorem Inv.write {x e:Addr} {o:HO} {t':Nat} (I:Inv X pins σ H s) (mu:Mut (H x)) (he:e=x∨H e=some (.own x)) (k:∀ b u,b≠e→s.heap.get? b=some u→h'.get? b=some u) (heo:∃ u,h'.get? e=some u)
  (new:ObjOk X.prog X.w (upd H x o) h' x o):Inv X pins σ (upd H x o) { s with heap:=h',toks:=t'}:=I.un (Un.write mu he k heo) (I.hok.write mu he k heo new)
theorem Inv.pins_of {pins':List (Addr×Obj)} (I:Inv X pins σ H s) (h:∀ p∈pins',s.heap.get? p.1=some p.2∧H p.1=none∧p.1≠X.env.locals∧p.1∉X.fs∧∀ v,p.2.data≠.cell v):Inv X pins' σ H s:=
 ⟨I.ok,I.os,I.bare,I.base,I.loc,I.cell,I.free,I.freeC,fun p hp=>(List.mem_append.mp hp).elim (fun z=>I.pin p (List.mem_append_left _ z)) (h p),I.hok,I.len⟩
theorem jcb {N:List Str} (hN:N.Nodup) {i j:Nat} {x:Str} (a:N[i]?=some x) (b:N[j]?=some x):i=j:=by
 obtain ⟨h1,e1⟩:=List.getElem?_eq_some_iff.mp a
 obtain ⟨h2,e2⟩:=List.getElem?_eq_some_iff.mp b
 exact (List.getElem_inj hN).mp (e1.trans e2.symm)
theorem je7 {M:Model} {A:Around} {E:Value→Shared→Prop} {i:Nat} {x:Str} {v:V} {u:Value} {Q:Unit→Shared→Prop} (I:Inv X pins σ H s) (hN:X.N.Nodup) (hi:X.N[i]?=some x) (hx:Loc X.env.scope x) (r:RelV v u)
  (h:∀ s',Inv X pins (σ.set i (some v)) H s'→(∃ a,Heap.SameBut a s.heap s'.heap∧(a=X.env.locals∨X.env.cells.lookup x=some a))→Q () s') (hf:X.fn x=true∨X.env.scope.names.lookup x=some .local:=by first|exact .inl rfl|exact .inr rfl|assumption):wpAny M A (storeName X.env x u) Q E s:=by
 obtain ⟨m,hn,hl⟩:=id I.loc
 have hcls:(X.env.scope.kind == .class || (X.env.scope.kind == .module && X.env.locals != X.env.globals))=false:=by rw [I.ok.kind];rfl
 have hiσ:i < σ.length:=by rw [I.len];exact (List.getElem?_eq_some_iff.mp hi).1
 have cne:=I.cne
 have tracked:∀ {a:Addr} {h':Heap},(∃ o,s.heap.get? a=some o∧H a=none)→Heap.SameBut a s.heap h'→HOk X.prog X.w H h':=fun {a h'} ha hs b ob e=>by
  obtain ⟨_,_,hfree⟩:=ha
  refine (I.hok b ob e).stay (fun c w' hc q=>(hs.2 c ?_).trans q) (fun _ q=>q) fun _ _ q=>q
  rintro rfl
  rcases hc with rfl|hc
  ·rw [hfree] at e;cases e
  ·rw [hfree] at hc;cases hc
 rcases hx with hk|hk
 ·refine wpAny_storeName_local hk hn (fun h' hn' hs=>?_) hcls
  obtain ⟨oL,_,_,hoL,_⟩:=id hn
  refine h _ ⟨I.ok,I.os,I.bare,⟨fun b o e n hb hx=>?_,fun b o e n hb hx=>?_,I.base.free,fun b o e hx=>?_,I.base.tups,I.base.frzs,I.base.tbls⟩,⟨_,hn',fun j y v' e1 e2 e3=>?_⟩,fun y c e=>?_,I.free,I.freeC,fun p hp=>?_,tracked ⟨oL,hoL,I.free⟩ hs,by simpa using I.len⟩ ⟨_,hs,.inl rfl⟩
  ·exact (hs.2 b (Nat.ne_of_lt (Nat.lt_of_lt_of_le (Heap.lt_size e) I.ok.above))).trans (I.base.keep b o e n hb hx)
  ·obtain ⟨sl,e1⟩:=I.base.slot b o e n hb hx
   exact ⟨sl,(hs.2 b (Nat.ne_of_lt (Nat.lt_of_lt_of_le (Heap.lt_size e) I.ok.above))).trans e1⟩
  ·obtain ⟨o',e1⟩:=I.base.there b o e hx
   exact ⟨o',(hs.2 b (Nat.ne_of_lt (Nat.lt_of_lt_of_le (Heap.lt_size e) I.ok.above))).trans e1⟩
  ·by_cases hj:j=i
   ·subst hj
    rw [hi] at e1;cases e1
    rw [List.getElem?_set_self hiσ] at e2
    cases e2
    exact ⟨u,r,.inl ⟨hk,by simp⟩⟩
   ·rw [List.getElem?_set_ne (Ne.symm hj)] at e2
    obtain ⟨u',r',q⟩:=hl j y v' e1 e2 e3
    refine ⟨u',r',?_⟩
    rcases q with ⟨k,e⟩|⟨k,c,e,z⟩
    ·refine .inl ⟨k,?_⟩
     have:y≠x:=fun e=>hj (jcb hN e1 (e▸hi))
     simp [this,e]
    ·exact .inr ⟨k,c,e,z.sameBut hs (cne y c e)⟩
  ·obtain ⟨w',z⟩:=I.cell y c e
   exact ⟨w',z.sameBut hs (cne y c e)⟩
  ·obtain ⟨e,n,ne,nf,d⟩:=I.pin p hp
   exact ⟨(hs.2 p.1 ne).trans e,n,ne,nf,d⟩
 ·have hfn:X.fn x=true:=by
   rcases hf with z|z
   ·exact z
   ·rw [z] at hk;cases hk
  obtain ⟨c,hc⟩:=I.ok.has x (.inl hk)
  obtain ⟨w',z⟩:=I.cell x c hc
  refine wpAny_storeName_cell I.ok.kind hk hc z (fun h' hc' hs=>?_)
  obtain ⟨oc,hoc,hocd⟩:=id z
  refine h { s with heap:=h'} ⟨I.ok,I.os,I.bare,⟨fun b o e n hb hx=>?_,fun b o e n hb hx=>?_,I.base.free,fun b o e hx=>?_,I.base.tups,I.base.frzs,I.base.tbls⟩,⟨m,hn.sameBut hs (Ne.symm (cne x c hc)),fun j y v' e1 e2 e3=>?_⟩,fun y c' e=>?_,I.free,I.freeC,fun p hp=>?_,tracked ⟨oc,hoc,I.freeC x c hc⟩ hs,by simpa using I.len⟩ ⟨c,hs,.inr hc⟩
  ·exact (hs.2 b (Nat.ne_of_lt (Nat.lt_of_lt_of_le (Heap.lt_size e) (I.ok.cab x c hfn hc)))).trans (I.base.keep b o e n hb hx)
  ·obtain ⟨sl,e1⟩:=I.base.slot b o e n hb hx
   exact ⟨sl,(hs.2 b (Nat.ne_of_lt (Nat.lt_of_lt_of_le (Heap.lt_size e) (I.ok.cab x c hfn hc)))).trans e1⟩
  ·obtain ⟨o',e1⟩:=I.base.there b o e hx
   exact ⟨o',(hs.2 b (Nat.ne_of_lt (Nat.lt_of_lt_of_le (Heap.lt_size e) (I.ok.cab x c hfn hc)))).trans e1⟩
  ·by_cases hj:j=i
   ·subst hj
    rw [hi] at e1;cases e1
    rw [List.getElem?_set_self hiσ] at e2
    cases e2
    exact ⟨u,r,.inr ⟨.inl hk,c,hc,hc'⟩⟩
   ·rw [List.getElem?_set_ne (Ne.symm hj)] at e2
    obtain ⟨u',r',q⟩:=hl j y v' e1 e2 e3
    refine ⟨u',r',?_⟩
    rcases q with q|⟨k,c',e,z'⟩
    ·exact .inl q
    ·refine .inr ⟨k,c',e,z'.sameBut hs ?_⟩
     rintro rfl
     exact hj (jcb hN e1 (I.ok.inj _ _ _ e hc▸hi))
  ·by_cases hcc:c'=c
   ·subst hcc;exact ⟨_,hc'⟩
   ·obtain ⟨w2,z2⟩:=I.cell y c' e
    exact ⟨w2,z2.sameBut hs hcc⟩
  ·obtain ⟨e,n,ne,nf,d⟩:=I.pin p hp
   refine ⟨(hs.2 p.1 ?_).trans e,n,ne,nf,d⟩
   intro q
   rw [q,hoc] at e
   have q':oc=p.2:=Option.some.inj e
   exact d w' (by rw [← q'];exact hocd)
theorem jv2 {M:Model} {A:Around} {E:Value→Shared→Prop} {i:Nat} {x:Str} {v:V} {u:Value} {Q:Unit→Shared→Prop} (I:Inv X pins σ H s) (hN:X.N.Nodup) (hi:X.N[i]?=some x) (hx:Loc X.env.scope x) (r:RelV v u)
  (h:∀ s',Inv X pins (σ.set i (some v)) H s'→Q () s') (hf:X.fn x=true∨X.env.scope.names.lookup x=some .local:=by first|exact .inl rfl|exact .inr rfl|assumption):wpAny M A (storeName X.env x u) Q E s:=
 je7 I hN hi hx r (fun s' I' _=>h s' I') hf
theorem Inv.call' {s':Shared} {ch:List Addr} (I:Inv X pins σ H s) (ho:s'.os=s.os) (u:Un (frs X.stack) ch H H' s.heap s'.heap) (hok:HOk X.prog X.w H' s'.heap) (hg:AllBare s'.gens)
  (hch:∀ b∈ch,(b∈X.ex∨X.s₀.heap.objs.size≤b)∧b≠X.env.locals∧(∀ x c,X.env.cells.lookup x=some c→c≠b)∧∀ p∈X.pn++pins,p.1≠b):Inv X pins σ H' s':=by
 obtain ⟨h',g',d',t',o'⟩:=s'
 have e:o'=s.os:=ho
 subst e
 exact I.call (g':=g') (t':=t') (d':=d') u hok hg hch
end
abbrev XK:=Value→Option Addr→Hp→Prop
abbrev St:=List (Option V)
abbrev VK:=V→Hp→Prop
abbrev TE:=St→Hp→VK→Prop
abbrev TT:=St→Hp→(Bool→Hp→Prop)→Prop
abbrev TA:=St→Hp→(List V→Hp→Prop)→Prop
structure Ends where
 nx:St→Hp→Prop
 rt:VK
 bk:St→Hp→Prop:=fun _ _=>False
 ct:St→Hp→Prop:=fun _ _=>False
abbrev TS:=Ends→St→Hp→Prop
def EP (X:Cx) (pins:List (Addr×Obj)) (σ:St) (Q:VK) (u:Value) (s':Shared):Prop:=∃ v H',Inv X pins σ H' s'∧RelV v u∧Q v H'
def TP (X:Cx) (pins:List (Addr×Obj)) (σ:St) (Q:Bool→Hp→Prop) (b:Bool) (s':Shared):Prop:=∃ H',Inv X pins σ H' s'∧Q b H'
def AP (X:Cx) (pins:List (Addr×Obj)) (σ:St) (Q:List V→Hp→Prop) (us:List Value) (s':Shared):Prop:=∃ vs H',Inv X pins σ H' s'∧Vals vs us∧Q vs H'
def SP (X:Cx) (pins:List (Addr×Obj)) (D:Ends) (f:Flow) (s':Shared):Prop:=
 match f with
 | .next=>∃ σ' H',Inv X pins σ' H' s'∧D.nx σ' H'
 | .brk=>∃ σ' H',Inv X pins σ' H' s'∧D.bk σ' H'
 | .cont=>∃ σ' H',Inv X pins σ' H' s'∧D.ct σ' H'
 | .ret u=>∃ v σ' H',Inv X pins σ' H' s'∧RelV v u∧D.rt v H'
def PE (X:Cx) (e:Expr) (t:TE):Prop:=
 ∀ (pins:List (Addr×Obj)) (s:Shared) (σ:St) (H:Hp) (Q:VK),Inv X pins σ H s→t σ H Q→wpAny (model X.prog X.w) X.A (eval e X.env) (EP X pins σ Q) X.xe s
def PT (X:Cx) (e:Expr) (t:TT):Prop:=
 ∀ (pins:List (Addr×Obj)) (s:Shared) (σ:St) (H:Hp) (Q:Bool→Hp→Prop),Inv X pins σ H s→t σ H Q→wpAny (model X.prog X.w) X.A (isTrue e X.env (eval e X.env)) (TP X pins σ Q) X.xe s
def PW (X:Cx) (e:Expr) (t:TT):Prop:=
 ∀ (whole:Sem Value) (pins:List (Addr×Obj)) (s:Shared) (σ:St) (H:Hp) (Q:Bool→Hp→Prop),Inv X pins σ H s→t σ H Q→wpAny (model X.prog X.w) X.A (isTrue e X.env whole) (TP X pins σ Q) X.xe s
theorem PW.pt {X:Cx} {e:Expr} {t:TT} (h:PW X e t):PT X e t:=h _
def PA (X:Cx) (es:List Expr) (t:TA):Prop:=
 ∀ (pos:Pos) (pins:List (Addr×Obj)) (s:Shared) (σ:St) (H:Hp) (Q:List V→Hp→Prop),Inv X pins σ H s→t σ H Q→wpAny (model X.prog X.w) X.A (spliced (backTo pos (starEach es X.env))) (AP X pins σ Q) X.xe s
def PS (X:Cx) (st:Stmt) (t:TS):Prop:=
 ∀ (pins:List (Addr×Obj)) (s:Shared) (σ:St) (H:Hp) (D:Ends),Inv X pins σ H s→t D σ H→wpAny (model X.prog X.w) X.A (exec st X.env) (SP X pins D) X.xe s
def PSs (X:Cx) (st:List Stmt) (t:TS):Prop:=
 ∀ (pins:List (Addr×Obj)) (s:Shared) (σ:St) (H:Hp) (D:Ends),Inv X pins σ H s→t D σ H→wpAny (model X.prog X.w) X.A (execs st X.env) (SP X pins D) X.xe s
theorem thn {α:Type} {t:Sem α} {Q Q':α→Shared→Prop} {M:Model} {A:Around} {E:Value→Shared→Prop} {s:Shared} (h:wpAny M A t Q E s) (hQ:∀ a s,Q a s→Q' a s):wpAny M A t Q' E s:=wpAny_mono h hQ fun _ _ x=>x
end L2
namespace L2
open PySem PySem.Spec PyProof.Rows
section
variable {X:Cx}
def tVar (i:Nat):TE:=fun σ H Q=>∃ v,σ[i]?=some (some v)∧Q v H
def tC (v:V):TE:=fun _ H Q=>Q v H
theorem jpv {i:Nat} {x:Str} {pos:Pos} (hN:X.N[i]?=some x) (hv:Vis X.env.scope x) (hd:(x == ("__debug__":Str))=false:=by decide) (hcd:(x == ("__classdict__":Str))=false:=by decide):PE X (.Name x pos) (tVar i):=by
 intro pins s σ H Q I h
 obtain ⟨v,e,h⟩:=h
 obtain ⟨m,hn,hl⟩:=I.loc
 obtain ⟨u,r,l⟩:=hl i x v hN e hv
 have fin:EP X pins σ Q u s:=⟨v,H,I,r,h⟩
 rcases l with ⟨hk,hm⟩|⟨hk,c,hc,hcell⟩
 ·exact wpAny_Name (wpAny_loadName_local I.ok.kind hk hn hm fin) hd
 ·rcases hk with hk|hk
  ·exact wpAny_Name (wpAny_loadName_cell I.ok.kind hk hc hcell fin) hd
  ·exact wpAny_Name (wpAny_loadName_free I.ok.kind hk hc hcell fin hcd) hd
theorem jq6 {i j pos}:PE X (.Constant (.int i) j pos) (tC (.int i)):=fun _ _ _ H _ I h=>wpAny_Constant_int ⟨.int i,H,I.tok _,⟨_,rfl⟩,h⟩
theorem jzb {b j pos}:PE X (.Constant (.bool b) j pos) (tC (.bl b)):=fun _ _ _ H _ I h=>Constant_bool ⟨.bl b,H,I,rfl,h⟩
theorem jex {j pos}:PE X (.Constant .none j pos) (tC .non):=fun _ _ _ H _ I h=>Constant_none ⟨.non,H,I,rfl,h⟩
theorem jqf {x j pos}:PE X (.Constant (.str x) j pos) (tC (.str x)):=fun _ _ _ H _ I h=>Calls.Constant_str ⟨.str x,H,I.tok _,⟨_,rfl⟩,h⟩
def Gl (X:Cx) (x:Str):Prop:=X.env.kindOf x=some .globalImplicit
theorem jk9 {E:Value→Shared→Prop} {pins:List (Addr×Obj)} {s:Shared} {σ:St} {H:Hp} {x:Str} {u:Value} {pos:Pos} {Q:Value→Shared→Prop} (I:Inv X pins σ H s) (hg:Gl X x) (hm:X.mg x=some u) (h:Q u s)
  (hd:(x == ("__debug__":Str))=false:=by decide):wpAny (model X.prog X.w) X.A (eval (.Name x pos) X.env) Q E s:=
 Calls.Name_function_global I.ok.kind hg (Calls.loadGlobal_global (by rw [I.ok.glob];exact I.mod.glob.keeps I.bk) hm h) hd
theorem jvs {E:Value→Shared→Prop} {pins:List (Addr×Obj)} {s:Shared} {σ:St} {H:Hp} {x:Str} {u:Value} {pos:Pos} {Q:Value→Shared→Prop} (I:Inv X pins σ H s) (hg:Gl X x) (hm:X.mg x=none) (hv:bootBuiltins x=some u) (h:Q u s)
  (hn:x≠"__name__":=by decide) (hd:(x == ("__debug__":Str))=false:=by decide):wpAny (model X.prog X.w) X.A (eval (.Name x pos) X.env) Q E s:=by
 obtain ⟨mb,h1,h2⟩:=I.mod.blt
 exact Calls.Name_function_global I.ok.kind hg (Calls.loadGlobal_builtin (by rw [I.ok.glob];exact I.mod.glob.keeps I.bk) hm (by rw [I.ok.blt];exact h1.keeps I.bk) ((h2 x hn).trans hv) h) hd
theorem jjf {x:Str} {v:V} {u:Value} {pos:Pos} (hg:Gl X x) (hm:X.mg x=some u) (r:RelV v u) (hd:(x == ("__debug__":Str))=false:=by decide):PE X (.Name x pos) (tC v):=
 fun _ _ _ H _ I h=>jk9 I hg hm ⟨v,H,I,r,h⟩ hd
theorem jxg {x:Str} {v:V} {u:Value} {pos:Pos} (hg:Gl X x) (hm:X.mg x=none) (hv:bootBuiltins x=some u) (r:RelV v u) (hn:x≠"__name__":=by decide) (hd:(x == ("__debug__":Str))=false:=by decide):PE X (.Name x pos) (tC v):=
 fun _ _ _ H _ I h=>jvs I hg hm hv ⟨v,H,I,r,h⟩ hn hd
variable {a b:Expr} {ta tb:TE} {pos:Pos}
def PC (X:Cx) (op:CmpOp) (a b:Expr) (t:TE):Prop:=
 ∀ (pins:List (Addr×Obj)) (s:Shared) (σ:St) (H:Hp) (Q:VK),Inv X pins σ H s→t σ H Q→
  wpAny (model X.prog X.w) X.A (eval a X.env) (fun v s₁=>wpAny (model X.prog X.w) X.A (eval b X.env) (fun u s₂=>wpAny (model X.prog X.w) X.A (compareOp op v u) (EP X pins σ Q) X.xe s₂) X.xe s₁) X.xe s
def tB (t:TE):TT:=fun σ H Q=>t σ H fun x H1=>∃ c,x=.bl c∧Q c H1
theorem jc1 {op:CmpOp} {t:TE} (h:PC X op a b t) (h1:behindInMarks op b=false:=by first|exact nobehind _ (by decide) (by decide)|rfl):PT X (.Compare a [op] [b] pos) (tB t):=by
 intro pins s σ H Q I hw
 refine wpAny_isTrue_Compare1 (thn (h pins s σ H _ I hw) fun v s1 h1=>thn h1 fun u s2 h2=>thn h2 fun c s3 ⟨x,H1,I1,r1,q1⟩=>?_) h1
 obtain ⟨d,rfl,q⟩:=q1
 cases r1
 exact wpAny_truthy_bool ⟨H1,I1,q⟩
theorem jz1 {e:Expr} {t:TE} (h:PE X e t) (he:∀ whole,isTrue e X.env whole=(do let v ← whole;standAt e.pos;holding [v] (truthy v)):=by intro _;rfl):PT X e (tB t):=by
 intro pins s σ H Q I hw
 refine isTrue_plain (thn (h pins s σ H _ I hw) fun v s1 ⟨x,H1,I1,r1,q1⟩=>?_) (he _)
 obtain ⟨d,rfl,q⟩:=q1
 cases r1
 exact wpAny_truthy_bool ⟨H1,I1,q⟩
variable {tA tB':TT} {rest:List Expr}
def tAnd (t u:TT):TT:=fun σ H Q=>t σ H fun c H1=>if c=true then u σ H1 Q else Q false H1
def tOr (t u:TT):TT:=fun σ H Q=>t σ H fun c H1=>if c=true then Q true H1 else u σ H1 Q
def tNot (t:TT):TT:=fun σ H Q=>t σ H fun c H1=>Q (!c) H1
theorem jzt (ha:PT X a tA):PW X (.BoolOp .And [a] pos) tA:=by
 intro wh pins s σ H Q I h
 refine isTrue_and (thn (ha pins s σ H Q I h) fun c s1 e=>?_)
 cases c with
 | true=>exact isTrue_and_nil e
 | false=>exact e
theorem jjr (ha:PT X a tA):PW X (.BoolOp .Or [a] pos) tA:=by
 intro wh pins s σ H Q I h
 refine isTrue_or (thn (ha pins s σ H Q I h) fun c s1 e=>?_)
 cases c with
 | false=>exact isTrue_or_nil e
 | true=>exact e
theorem jjs (ha:PT X a tA) (hb:PW X (.BoolOp .And (b :: rest) pos) tB'):PW X (.BoolOp .And (a :: b :: rest) pos) (tAnd tA tB'):=by
 intro wh pins s σ H Q I h
 refine isTrue_and (thn (ha pins s σ H _ I h) fun c s1 ⟨H1,I1,q1⟩=>?_)
 cases c with
 | true=>exact hb wh pins s1 σ H1 Q I1 q1
 | false=>exact ⟨H1,I1,q1⟩
theorem jk0 (ha:PT X a tA) (hb:PW X (.BoolOp .Or (b :: rest) pos) tB'):PW X (.BoolOp .Or (a :: b :: rest) pos) (tOr tA tB'):=by
 intro wh pins s σ H Q I h
 refine isTrue_or (thn (ha pins s σ H _ I h) fun c s1 ⟨H1,I1,q1⟩=>?_)
 cases c with
 | true=>exact ⟨H1,I1,q1⟩
 | false=>exact hb wh pins s1 σ H1 Q I1 q1
theorem jzu (ha:PT X a tA):PT X (.UnaryOp .Not a pos) (tNot tA):=by
 intro pins s σ H Q I h
 exact isTrue_not (ha pins s σ H (fun c H1=>Q (!c) H1) I h)
def je3 (ta tb:TE):TE:=fun σ H Q=>ta σ H fun x H1=>∃ c,x=.bl c∧if c=true then tb σ H1 Q else Q (.bl false) H1
def tOrV (ta tb:TE):TE:=fun σ H Q=>ta σ H fun x H1=>∃ c,x=.bl c∧if c=true then Q (.bl true) H1 else tb σ H1 Q
def jph (ta:TE):TE:=fun σ H Q=>ta σ H fun x H1=>∃ c,x=.bl c∧Q (.bl (!c)) H1
theorem jc5 {op} {t:TE} (h:PE X a t):PE X (.BoolOp op [a] pos) t:=fun pins s σ H Q I hw=>BoolOp_one (h pins s σ H Q I hw)
theorem jc7 (ha:PE X a ta) (hb:PE X (.BoolOp .And (b :: rest) pos) tb):PE X (.BoolOp .And (a :: b :: rest) pos) (je3 ta tb):=by
 intro pins s σ H Q I h
 refine BoolOp_and (thn (ha pins s σ H _ I h) fun v s1 ⟨x,H1,I1,r1,q1⟩=>?_)
 obtain ⟨c,rfl,q1⟩:=q1
 cases r1
 refine wpAny_truthy_bool ?_
 cases c with
 | true=>exact hb pins s1 σ H1 Q I1 q1
 | false=>exact ⟨.bl false,H1,I1,rfl,q1⟩
theorem pe_or (ha:PE X a ta) (hb:PE X (.BoolOp .Or (b :: rest) pos) tb):PE X (.BoolOp .Or (a :: b :: rest) pos) (tOrV ta tb):=by
 intro pins s σ H Q I h
 refine BoolOp_or (thn (ha pins s σ H _ I h) fun v s1 ⟨x,H1,I1,r1,q1⟩=>?_)
 obtain ⟨c,rfl,q1⟩:=q1
 cases r1
 refine wpAny_truthy_bool ?_
 cases c with
 | false=>exact hb pins s1 σ H1 Q I1 q1
 | true=>exact ⟨.bl true,H1,I1,rfl,q1⟩
theorem jpw (ha:PE X a ta):PE X (.UnaryOp .Not a pos) (jph ta):=by
 intro pins s σ H Q I h
 refine UnaryOp_ (thn (ha pins s σ H _ I h) fun v s1 ⟨x,H1,I1,r1,q1⟩=>?_)
 obtain ⟨c,rfl,q1⟩:=q1
 cases r1
 exact not_of (wpAny_truthy_bool ⟨.bl (!c),H1,I1,rfl,q1⟩)
end
end L2
namespace L2
open PySem PySem.Spec PyProof.Rows
def SqL (K:PySem.W.Frag) (H:Hp) (a:Addr) (xs:List V):Prop:=
 Rd H a (.lst xs)∨
  ∃ (o:Obj) (its:Array Value) (n:Nat),K.lookup a=some o∧o.cls=.type "list"∧o.dict=none∧o.data=.seq its n∧its.size≤sizeLine∧Vals xs its.toList
def SqT (K:PySem.W.Frag) (H:Hp) (a:Addr) (xs:List V):Prop:=
 Rd H a (.tup xs)∨
  ∃ (o:Obj) (its:Array Value) (n:Nat),K.lookup a=some o∧o.cls=.type "tuple"∧o.data=.seq its n∧its.size≤sizeLine∧Vals xs its.toList
def absV:Value→Option V
 | .none=>some .non
 | .bool b=>some (.bl b)
 | .int i _=>some (.int i)
 | .str x _=>some (.str x)
 | .bytes b _=>some (.byt b)
 | .float b _=>some (.flt b)
 | .ref a=>some (.ref a)
 | .type n=>some (.ty n)
 | _=>none
theorem RelV.abs {x:V} {u:Value} (r:RelV x u):absV u=some x:=by
 cases x with
 | non=>cases r;rfl
 | bl _=>cases r;rfl
 | int _=>obtain ⟨t,rfl⟩:=r;rfl
 | str _=>obtain ⟨t,rfl⟩:=r;rfl
 | byt _=>obtain ⟨t,rfl⟩:=r;rfl
 | flt _=>obtain ⟨t,rfl⟩:=r;rfl
 | ref _=>cases r;rfl
 | ty _=>cases r;rfl
theorem RelV.inj {x y:V} {u:Value} (r:RelV x u) (q:RelV y u):x=y:=Option.some.inj (r.abs.symm.trans q.abs)
theorem Vals.inj:∀ {xs ys:List V} {us:List Value},Vals xs us→Vals ys us→xs=ys
 | _,_,_,.nil,.nil=>rfl
 | _,_,_,.cons r t,.cons r' t'=>by rw [r.inj r',Vals.inj t t']
section
variable {X:Cx} {pins:List (Addr×Obj)} {σ:St} {H:Hp} {s:Shared} {a:Addr} {xs ys:List V}
theorem SqL.of {K:PySem.W.Frag} (h:H a=some (.lst xs)):SqL K H a xs:=.inl (.inl h)
theorem SqT.of {K:PySem.W.Frag} (h:H a=some (.tup xs)):SqT K H a xs:=.inl (.inl h)
theorem Inv.list (I:Inv X pins σ H s) (h:SqL X.K H a xs):∃ its:List Value,Vals xs its∧PlainL s.heap a its.toArray∧xs.length≤sizeLine:=by
 rcases h with h|⟨o,its,n,hk,hc,hd,hs,hz,r⟩
 ·obtain ⟨z,its,n,r,e⟩:=h.ok I.hok
  exact ⟨its,r,⟨_,n,e,rfl,rfl,rfl⟩,z⟩
 ·refine ⟨its.toList,r,⟨o,n,I.kIn a o hk,hc,hd,by simpa using hs⟩,?_⟩
  have e:=r.length
  simp only [Array.length_toList] at e
  omega
theorem Inv.tuple (I:Inv X pins σ H s) (h:SqT X.K H a xs):∃ its:List Value,Vals xs its∧IsTup s.heap a its.toArray∧xs.length≤sizeLine:=by
 rcases h with h|⟨o,its,n,hk,hc,hs,hz,r⟩
 ·obtain ⟨z,its,r,p⟩:=h.ok I.hok
  exact ⟨its,r,p,z⟩
 ·refine ⟨its.toList,r,⟨o,I.kIn a o hk,hc,n,by simpa using hs⟩,?_⟩
  have e:=r.length
  simp only [Array.length_toList] at e
  omega
theorem Inv.list_inj (I:Inv X pins σ H s) (h:SqL X.K H a xs) (h':SqL X.K H a ys):xs=ys:=by
 obtain ⟨its,r,⟨o,n,e,_,_,d⟩,_⟩:=I.list h
 obtain ⟨its',r',⟨o',n',e',_,_,d'⟩,_⟩:=I.list h'
 rw [e] at e';cases e'
 rw [d] at d'
 injection d' with d1 _
 have:its=its':=by simpa using congrArg Array.toList d1
 subst this
 exact r.inj r'
theorem Inv.tuple_inj (I:Inv X pins σ H s) (h:SqT X.K H a xs) (h':SqT X.K H a ys):xs=ys:=by
 obtain ⟨its,r,⟨o,e,_,n,d⟩,_⟩:=I.tuple h
 obtain ⟨its',r',⟨o',e',_,n',d'⟩,_⟩:=I.tuple h'
 rw [e] at e';cases e'
 rw [d] at d'
 injection d' with d1 _
 have:its=its':=by simpa using congrArg Array.toList d1
 subst this
 exact r.inj r'
end
abbrev Cx.wish (X:Cx) (E:Value→Shared→Prop):Cx:={ X with xe:=E}
abbrev Cx.nox (X:Cx):Cx:=X.wish fun _ _=>False
theorem Cx.Ok.wish {X:Cx} (ok:X.Ok) (E:Value→Shared→Prop):(X.wish E).Ok:=
 ⟨ok.mod,ok.kind,ok.glob,ok.blt,ok.above,ok.inj,ok.has,ok.cab,ok.hd,ok.frames,ok.stk,ok.exf,ok.bs,ok.bsz,ok.noex,ok.exfs,ok.funs,ok.frf⟩
theorem Cx.Ok.unwish {X:Cx} {E:Value→Shared→Prop} (ok:(X.wish E).Ok):X.Ok:=
 ⟨ok.mod,ok.kind,ok.glob,ok.blt,ok.above,ok.inj,ok.has,ok.cab,ok.hd,ok.frames,ok.stk,ok.exf,ok.bs,ok.bsz,ok.noex,ok.exfs,ok.funs,ok.frf⟩
section
variable {X:Cx} {pins:List (Addr×Obj)} {σ:St} {H:Hp} {s:Shared} {E:Value→Shared→Prop}
theorem Inv.wish (I:Inv X pins σ H s) (E:Value→Shared→Prop):Inv (X.wish E) pins σ H s:=⟨I.ok.wish E,I.os,I.bare,I.base,I.loc,I.cell,I.free,I.freeC,I.pin,I.hok,I.len⟩
theorem Inv.unwish (I:Inv (X.wish E) pins σ H s):Inv X pins σ H s:=⟨I.ok.unwish,I.os,I.bare,I.base,I.loc,I.cell,I.free,I.freeC,I.pin,I.hok,I.len⟩
theorem SP.unwish {D:Ends} {f:Flow} {s':Shared} (h:SP (X.wish E) pins D f s'):SP X pins D f s':=by
 cases f with
 | next=>obtain ⟨σ',H',I,q⟩:=h;exact ⟨σ',H',I.unwish,q⟩
 | brk=>obtain ⟨σ',H',I,q⟩:=h;exact ⟨σ',H',I.unwish,q⟩
 | cont=>obtain ⟨σ',H',I,q⟩:=h;exact ⟨σ',H',I.unwish,q⟩
 | ret u=>obtain ⟨v,σ',H',I,r,q⟩:=h;exact ⟨v,σ',H',I.unwish,r,q⟩
theorem PSs.nox {st:List Stmt} {t:TS} (h:PSs X.nox st t):PSs X st t:=fun pins s σ H D I hw=>
 wpAny_mono (h pins s σ H D (I.wish _) hw) (fun _ _ q=>q.unwish) fun _ _ z=>False.elim z
end
section
variable {X:Cx} {st:Stmt} {rest:List Stmt} {t u:TS} {e:Expr} {te:TE} {pos:Pos}
def jxt:TS:=fun D σ H=>D.nx σ H
def tSeq (t u:TS):TS:=fun D σ H=>t { D with nx:=u D} σ H
theorem jqz:PSs X [] jxt:=fun _ _ σ H _ I h=>wpAny_execs_nil ⟨σ,H,I,h⟩
theorem jq5 (h1:PS X st t) (h2:PSs X rest u):PSs X (st :: rest) (tSeq t u):=by
 intro pins s σ H D I h
 refine wpAny_execs_cons (thn (h1 pins s σ H { D with nx:=u D} I h) fun f s1 q=>?_)
 cases f with
 | next=>
  obtain ⟨σ',H',I',q⟩:=q
  exact h2 pins s1 σ' H' D I' q
 | ret v=>exact q
 | brk=>exact q
 | cont=>exact q
theorem jq7 (h1:PS X st t):PSs X [st] t:=by
 intro pins s σ H D I h
 refine wpAny_execs_cons (thn (h1 pins s σ H D I h) fun f s1 q=>?_)
 cases f with
 | next=>exact wpAny_execs_nil q
 | ret v=>exact q
 | brk=>exact q
 | cont=>exact q
theorem Inv.quiet {pins:List (Addr×Obj)} {σ:St} {H:Hp} {s:Shared} (I:Inv X pins σ H s):interactive X.env=false:=by simp [interactive,I.ok.kind]
def jxn (te:TE):TS:=fun D σ H=>te σ H fun _ H1=>D.nx σ H1
theorem jqx (he:PE X e te) (hs:swapsWith e none pos.line X.env=pure false:=by rfl):PS X (.Expr e pos) (jxn te):=by
 intro pins s σ H D I h
 exact wpAny_Expr_any (thn (he pins s σ H _ I h) fun v s1 ⟨x,H1,I1,r1,q1⟩=>⟨σ,H1,I1,q1⟩) I.quiet hs
def tRet (te:TE):TS:=fun D σ H=>te σ H D.rt
theorem jqs (he:PE X e te):PS X (.Return (some e) pos) (tRet te):=by
 intro pins s σ H D I h
 exact wpAny_Return_some (thn (he pins s σ H _ I h) fun v s1 ⟨x,H1,I1,r1,q1⟩=>⟨x,σ,H1,I1,r1,q1⟩)
def tIfS (c:TT) (t u:TS):TS:=fun D σ H=>c σ H fun b H1=>if b=true then t D σ H1 else u D σ H1
theorem jx8 {c:Expr} {a b:List Stmt} {tc:TT} (hc:PT X c tc) (ha:PSs X a t) (hb:PSs X b u):PS X (.If c a b pos) (tIfS tc t u):=by
 intro pins s σ H D I h
 refine wpAny_If (thn (hc pins s σ H _ I h) fun d s1 ⟨H1,I1,q1⟩=>?_)
 cases d with
 | true=>exact ha pins s1 σ H1 D I1 q1
 | false=>exact hb pins s1 σ H1 D I1 q1
end
abbrev TG:=V→St→Hp→(St→Hp→Prop)→Prop
abbrev TGs:=List V→St→Hp→(St→Hp→Prop)→Prop
def PG (X:Cx) (target:Expr) (t:TG):Prop:=
 ∀ (pins:List (Addr×Obj)) (s:Shared) (σ:St) (H:Hp) (v:V) (u:Value) (Q:St→Hp→Prop),Inv X pins σ H s→RelV v u→t v σ H Q→
  wpAny (model X.prog X.w) X.A (assign target X.env u) (fun _ s'=>∃ σ' H',Inv X pins σ' H' s'∧Q σ' H') X.xe s
def PGs (X:Cx) (ts:List Expr) (t:TGs):Prop:=
 ∀ (pins:List (Addr×Obj)) (s:Shared) (σ:St) (H:Hp) (vs:List V) (us:List Value) (Q:St→Hp→Prop),Inv X pins σ H s→Vals vs us→t vs σ H Q→
  wpAny (model X.prog X.w) X.A (assignInOrder ((assignEach ts X.env).map (·.2)) us) (fun _ s'=>∃ σ' H',Inv X pins σ' H' s'∧Q σ' H') X.xe s
abbrev TSet:=V→V→V→Hp→(Hp→Prop)→Prop
def PSet (X:Cx) (t:TSet):Prop:=
 ∀ (pins:List (Addr×Obj)) (s:Shared) (σ:St) (H:Hp) (o i v:V) (ov iv u:Value) (Q:Hp→Prop),Inv X pins σ H s→RelV o ov→RelV i iv→RelV v u→t o i v H Q→
  wpAny (model X.prog X.w) X.A (setItem ov iv u) (fun _ s'=>∃ H',Inv X pins σ H' s'∧Q H') X.xe s
section
variable {X:Cx} {pos:Pos}
def jqk (i:Nat):TG:=fun v σ H Q=>Q (σ.set i (some v)) H
theorem jwp {i:Nat} {x:Str} (hN:X.N.Nodup) (hi:X.N[i]?=some x) (hx:Loc X.env.scope x) (hf:X.fn x=true∨X.env.scope.names.lookup x=some .local:=by first|exact .inl rfl|exact .inr rfl|assumption):PG X (.Name x pos) (jqk i):=by
 intro pins s σ H v u Q I r h
 exact wpAny_assign_Name (jv2 I hN hi hx r (fun s' I'=>⟨_,H,I',h⟩) hf)
def gNil:TGs:=fun vs σ H Q=>vs=[]∧Q σ H
def jkg (t:TG) (u:TGs):TGs:=fun vs σ H Q=>∃ v r,vs=v :: r∧t v σ H fun σ' H'=>u r σ' H' Q
theorem jvk:PGs X [] gNil:=by
 intro pins s σ H vs us Q I r h
 obtain ⟨e,h⟩:=h
 subst e
 cases r
 exact assignInOrder_nil ⟨σ,H,I,h⟩
theorem jz9 {e:Expr} {es:List Expr} {t:TG} {u:TGs} (h1:PG X e t) (h2:PGs X es u)
  (hs:(assignEach (e :: es) X.env).map (·.2)=assign e X.env :: (assignEach es X.env).map (·.2):=by rfl):PGs X (e :: es) (jkg t u):=by
 intro pins s σ H vs us Q I r h
 obtain ⟨v,vr,e1,h⟩:=h
 subst e1
 cases r with
 | cons r rr=>
  rw [hs]
  refine assignInOrder_cons (thn (h1 pins s σ H _ _ _ I r h) fun _ s1 ⟨σ1,H1,I1,q1⟩=>?_)
  exact h2 pins s1 σ1 H1 _ _ Q I1 rr q1
def gTup (K:PySem.W.Frag) (n:Nat) (t:TGs):TG:=fun v σ H Q=>∃ a xs,v=.ref a∧SqT K H a xs∧xs.length=n∧t xs σ H Q
theorem jal {es:List Expr} {k:Nat} {t:TGs} {n:Nat} (hc:X.calm=true) (h:PGs X es t)
  (hn:(assignEach es X.env).length=n:=by rfl) (hst:(assignEach es X.env).findIdx? (·.1)=none:=by rfl):PG X (.Tuple es k pos) (gTup X.K n t):=by
 intro pins s σ H v u Q I r hw
 obtain ⟨a,xs,e1,hq,hl,hw⟩:=hw
 subst e1
 cases r
 obtain ⟨its,rv,ht,hz⟩:=I.tuple hq
 refine assign_Tuple_tuple (I.ok.hd hc) ht (by simp [hn,← hl,rv.length]) hst fun h' hx=>?_
 have I1:Inv X pins σ H { s with heap:=h'}:=I.kept (t':=s.toks) fun b o e=>hx b o (Nat.ne_of_lt (Heap.lt_size e)) e
 exact h pins _ σ H xs _ Q I1 (by simpa using rv) hw
def gSub (to ti:TE) (t:TSet):TG:=fun v σ H Q=>to σ H fun o H1=>ti σ H1 fun i H2=>t o i v H2 fun H3=>Q σ H3
theorem ji9 {o i:Expr} {to ti:TE} {t:TSet} (ho:PE X o to) (hi:PE X i ti) (hs:PSet X t)
  (ha:∀ v,assign (.Subscript o i pos) X.env v=(do
   let ov ← holding [v] (eval o X.env)
   let iv ← holding [v,ov] (eval i X.env)
   standAt pos
   holding [v,ov,iv] (setItem ov iv v)
   release [v,ov,iv] []):=by intro _;rfl):PG X (.Subscript o i pos) (gSub to ti t):=by
 intro pins s σ H v u Q I r h
 rw [ha]
 refine wpAny_bind (wpAny_holding (thn (ho pins s σ H _ I h) fun ov s1 ⟨x,H1,I1,r1,q1⟩=>?_))
 refine wpAny_bind (wpAny_holding (thn (hi pins s1 σ H1 _ I1 q1) fun iv s2 ⟨y,H2,I2,r2,q2⟩=>?_))
 refine wpAny_bind (wpAny_standAt (wpAny_bind (wpAny_holding (thn (hs pins s2 σ H2 x y v ov iv u _ I2 r1 r2 r q2) fun _ s3 ⟨H3,I3,q3⟩=>?_))))
 exact wpAny_release ⟨σ,H3,I3,q3⟩
def tAsg (te:TE) (g:TG):TS:=fun D σ H=>te σ H fun x H1=>g x σ H1 D.nx
theorem jak {tg e:Expr} {te:TE} {g:TG} (he:PE X e te) (hg:PG X tg g) (hs:swapsWithSole [tg] e pos.line X.env=pure false:=by rfl) (hw:swappedStores [tg] e X.env=pure none:=by rfl)
  (h1:(assignEach [tg] X.env).map (·.2)=[assign tg X.env]:=by rfl):PS X (.Assign [tg] e pos) (tAsg te g):=by
 intro pins s σ H D I h
 refine wpAny_Assign_stores (thn (he pins s σ H _ I h) fun v s1 ⟨x,H1,I1,r1,q1⟩=>?_) hs hw
 rw [h1]
 exact thn (hg pins s1 σ H1 x v _ I1 r1 q1) fun _ s2 q=>q
theorem jqj {i:Nat} {x:Str} {e:Expr} {te:TE} {pos':Pos} (hN:X.N.Nodup) (hi:X.N[i]?=some x) (hx:Loc X.env.scope x) (he:PE X e te) (hs:swapsWith e (some (.Name x pos')) pos.line X.env=pure false:=by rfl) (hf:X.fn x=true∨X.env.scope.names.lookup x=some .local:=by first|exact .inl rfl|exact .inr rfl|assumption) :
  PS X (.Assign [.Name x pos'] e pos) (tAsg te (jqk i)):=by
 intro pins s σ H D I h
 refine wpAny_Assign_Name (thn (he pins s σ H _ I h) fun v s1 ⟨y,H1,I1,r1,q1⟩=>?_) hs
 exact jv2 I1 hN hi hx r1 (fun s2 I2=>⟨_,H1,I2,q1⟩) hf
end
section
variable {X:Cx} {pos:Pos}
def jji (c:TT) (tb:TS):TS:=fun D σ H=>∃ W:Nat→St→Hp→Prop,(∃ m,W m σ H)∧∀ m σ H,W m σ H→
 c σ H fun b H1=>if b=true then ∃ N:St→Hp→Prop,(∀ σ' H',N σ' H'→∃ m',m' < m∧W m' σ' H')∧tb { D with nx:=N,ct:=N,bk:=D.nx} σ H1 else D.nx σ H1
theorem jz8 {c:Expr} {body:List Stmt} {tc:TT} {tb:TS} (hp:PassesOwn (model X.prog X.w) X.A X.env X.xe) (hc:PT X c tc) (hb:PSs X body tb):PS X (.While c body [] pos) (jji tc tb):=by
 intro pins s σ H D I h
 obtain ⟨W,⟨m0,w0⟩,turn⟩:=h
 refine wpAny_While (codeAny_whileLoop (fun n s'=>∃ σ' H',Inv X pins σ' H' s'∧W n σ' H') ?_ m0 ⟨σ,H,I,w0⟩)
 rintro n s1 ⟨σ1,H1,I1,w1⟩
 refine wpAny_passesOwn hp (thn (hc pins s1 σ1 H1 _ I1 (turn n σ1 H1 w1)) fun b s2 ⟨H2,I2,q2⟩=>?_)
 cases b with
 | true=>
  obtain ⟨N,hN,q2⟩:=q2
  rw [if_pos rfl]
  refine wpAny_passesOwn hp (thn (hb pins s2 σ1 H2 _ I2 q2) fun f s3 q3=>?_)
  cases f with
  | next=>
   obtain ⟨σ3,H3,I3,n3⟩:=q3
   obtain ⟨m',hm,w3⟩:=hN σ3 H3 n3
   exact ⟨m',hm,σ3,H3,I3,w3⟩
  | cont=>
   obtain ⟨σ3,H3,I3,n3⟩:=q3
   obtain ⟨m',hm,w3⟩:=hN σ3 H3 n3
   exact ⟨m',hm,σ3,H3,I3,w3⟩
  | brk=>exact q3
  | ret v=>exact q3
 | false=>
  rw [if_neg Bool.false_ne_true]
  exact wpAny_execs_nil ⟨σ1,H2,I2,q2⟩
end
structure It where
 go:Nat→Hp→Prop
 yld:Nat→Hp→V→Hp→Prop
 stop:Nat→Hp→Prop
def FpOk (X:Cx) (pins:List (Addr×Obj)) (H:Hp) (b:Addr):Prop:=
 H b=none∧b≠X.env.locals∧b∉X.fs∧(b∈X.ex∨X.s₀.heap.objs.size≤b)∧(∀ x c,X.env.cells.lookup x=some c→c≠b)∧∀ p∈X.pn++pins,p.1≠b
theorem Inv.fpOk {X:Cx} {pins:List (Addr×Obj)} {σ:St} {H H':Hp} {s:Shared} {b:Addr} (I:Inv X pins σ H s) (hb:s.heap.objs.size≤b) (hn:H' b=none):FpOk X pins H' b:=by
 refine ⟨hn,Nat.ne_of_gt (Nat.lt_of_lt_of_le I.lt hb),I.nofs hb,.inr (Nat.le_trans I.sz hb),fun x c e z=>?_,fun p hp z=>?_⟩
 ·obtain ⟨v,q⟩:=I.cell x c e
  exact absurd (Nat.lt_of_lt_of_le q.lt (by rw [z];exact hb)) (Nat.lt_irrefl _)
 ·exact absurd (Nat.lt_of_lt_of_le (Heap.lt_size (I.pin p hp).1) (by rw [z];exact hb)) (Nat.lt_irrefl _)
structure Turn (P:Program) (w:World) (K:PySem.W.Frag) (tg:Expr) (J:It) (fp:List Addr) (it:Addr) (tn:Nat→Heap→Prop):Prop where
 mem:it∈fp
 obj:∀ i h,tn i h→∀ b∈fp,∃ o,h.get? b=some o∧∀ v,o.data≠.cell v
 keep:∀ i h h',tn i h→(∀ b∈fp,∀ o,h.get? b=some o→h'.get? b=some o)→tn i h'
 item:∀ (X:Cx),X.prog=P→X.w=w→X.K=K→X.calm=true→∀ (i:Nat) (pins:List (Addr×Obj)) (s:Shared) (σ:St) (H:Hp) (E:Value→Shared→Prop),Inv X pins σ H s→(∀ b∈fp,FpOk X pins H b)→tn i s.heap→J.go i H→
  wpAny (model P w) X.A (pyNext (.ref it)) (fun r s1=>∃ u,r=some u∧
   wpAny (model P w) X.A (letOwnedTupleGo tg (.ref it) u) (fun _ s2=>∃ x H',Inv X pins σ H' s2∧RelV x u∧J.yld i H x H'∧tn (i+1) s2.heap∧∀ b∈fp,H' b=none) E s1) E s
 done:∀ (X:Cx),X.prog=P→X.w=w→X.K=K→X.calm=true→∀ (i:Nat) (pins:List (Addr×Obj)) (s:Shared) (σ:St) (H:Hp) (E:Value→Shared→Prop),Inv X pins σ H s→(∀ b∈fp,FpOk X pins H b)→tn i s.heap→J.stop i H→
  wpAny (model P w) X.A (pyNext (.ref it)) (fun r s1=>r=none∧Inv X pins σ H s1) E s
 self:∀ (A:Around) (i:Nat) (s:Shared) (Q:Value→Shared→Prop) (E:Value→Shared→Prop),tn i s.heap→Q (.ref it) s→wpAny (model P w) A (pyIter (.ref it)) Q E s
abbrev TI:=St→Hp→(It→Hp→Prop)→Prop
def PIE (X:Cx) (pins:List (Addr×Obj)) (σ:St) (tg:Expr) (R:It→Hp→Prop) (itv:Value) (s2:Shared):Prop:=
 ∃ (it:Addr) (fp:List Addr) (tn:Nat→Heap→Prop) (J:It) (H':Hp),itv=.ref it∧Inv X pins σ H' s2∧Turn X.prog X.w X.K tg J fp it tn∧tn 0 s2.heap∧(∀ b∈fp,FpOk X pins H' b)∧R J H'
def PI (X:Cx) (tg iter:Expr) (wi:TI):Prop:=
 ∀ (pins:List (Addr×Obj)) (s:Shared) (σ:St) (H:Hp) (R:It→Hp→Prop),Inv X pins σ H s→wi σ H R→
  wpAny (model X.prog X.w) X.A (eval iter X.env) (fun v s1=>wpAny (model X.prog X.w) X.A (pyIter v) (PIE X pins σ tg R) X.xe s1) X.xe s
theorem jh6 {M:Model} {A:Around} {E:Value→Shared→Prop} {s:Shared} {tg:Expr} {it:Addr} {u:Value} {o:Obj} {n:String} {vs:Array Value} {Q:Unit→Shared→Prop} (ho:s.heap.get? it=some o) (hc:o.cls=.type n) (hd:o.data=.fields vs)
    (hn:["enumerate","zip","dict_itemiterator","dict_reverseitemiterator","odict_iterator","itertools.zip_longest","itertools.pairwise"].contains n=false) (hQ:Q () s):wpAny M A (letOwnedTupleGo tg (.ref it) u) Q E s:=by
  unfold letOwnedTupleGo
  cases tg<;>first
    | exact wpAny_pure hQ
    | (cases u<;>first
        | exact wpAny_pure hQ
        | (refine wpAny_bind (wpAny_load ho ?_)
           rw [hc,hd]
           show wpAny M A (if (["enumerate","zip","dict_itemiterator","dict_reverseitemiterator","odict_iterator","itertools.zip_longest","itertools.pairwise"].contains n && vs[0]? == some (rawInt _))=true then _ else _) Q E s
           rw [if_neg (by intro h;rw [hn,Bool.false_and] at h;cases h)]
           exact wpAny_pure hQ))
def Itl (K:PySem.W.Frag) (a:Addr):It:=
 ⟨fun i H=>∃ xs x,SqL K H a xs∧xs[i]?=some x,fun i H x H'=>H'=H∧∀ xs,SqL K H a xs→xs[i]?=some x,fun i H=>∃ xs,SqL K H a xs∧xs.length≤i⟩
def Itt (K:PySem.W.Frag) (a:Addr):It:=
 ⟨fun i H=>∃ xs x,SqT K H a xs∧xs[i]?=some x,fun i H x H'=>H'=H∧∀ xs,SqT K H a xs→xs[i]?=some x,fun i H=>∃ xs,SqT K H a xs∧xs.length≤i⟩
def Itr (lo:Int) (n:Nat):It:=⟨fun i _=>i < n,fun i H x H'=>H'=H∧x=.int (lo+i),fun i _=>n≤i⟩
theorem jdj {P:Program} {w:World} {K:PySem.W.Frag} {tg:Expr} (a it:Addr):Turn P w K tg (Itl K a) [it] it (fun i h=>h.IsListIter it a i) where
 mem:=by simp
 obj:=fun i h st b hb=>by
  have e:b=it:=by simpa using hb
  subst e
  obtain ⟨o,e,c,d⟩:=st
  exact ⟨o,e,fun v z=>by rw [d] at z;cases z⟩
 keep:=fun i h h' st k=>st.at fun o e=>k it (by simp) o e
 item:=by
  intro X hP hw hK hc i pins s σ H E I hf st hg
  subst hP hw hK
  obtain ⟨xs,x,hq,hx⟩:=hg
  obtain ⟨its,rv,p,hz⟩:=I.list hq
  obtain ⟨u,hu,ru⟩:=rv.get hx
  obtain ⟨f0,f1,f2,f3,f4,f5⟩:=hf it (by simp)
  refine wpAny_pyNext_list_item st p.isList (x:=u) (by simpa using hu) fun h' st' sb=>?_
  have I1:Inv X pins σ H { s with heap:=h'}:=I.turned (t':=s.toks) (fun b o hb e=>(sb.2 b hb).trans e) f0 f1 f3 f4 f5
  obtain ⟨o,e,c,d⟩:=id st'
  exact ⟨u,rfl,jh6 (s:={ s with heap:=h'}) e c d (by decide) ⟨x,H,I1,ru,⟨rfl,fun ys hy=>by rw [I.list_inj hy hq];exact hx⟩,st',fun b hb=>(hf b hb).1⟩⟩
 done:=by
  intro X hP hw hK hc i pins s σ H E I hf st hg
  subst hP hw hK
  obtain ⟨xs,hq,hx⟩:=hg
  obtain ⟨its,rv,p,hz⟩:=I.list hq
  obtain ⟨f0,f1,f2,f3,f4,f5⟩:=hf it (by simp)
  have hl:=rv.length
  exact wpAny_pyNext_list_end (I.ok.hd hc) st p.isList (by simp;omega) fun h' eb=>⟨rfl,I.turned (t':=s.toks) (fun b o hb e=>eb b o hb e) f0 f1 f3 f4 f5⟩
 self:=fun _ _ _ _ _ st h=>wpAny_pyIter_listiter st h
theorem jcn {P:Program} {w:World} {K:PySem.W.Frag} {tg:Expr} (a it:Addr):Turn P w K tg (Itt K a) [it] it (fun i h=>h.IsTupleIter it a i) where
 mem:=by simp
 obj:=fun i h st b hb=>by
  have e:b=it:=by simpa using hb
  subst e
  obtain ⟨o,e,c,d⟩:=st
  exact ⟨o,e,fun v z=>by rw [d] at z;cases z⟩
 keep:=fun i h h' st k=>st.at fun o e=>k it (by simp) o e
 item:=by
  intro X hP hw hK hc i pins s σ H E I hf st hg
  subst hP hw hK
  obtain ⟨xs,x,hq,hx⟩:=hg
  obtain ⟨its,rv,p,hz⟩:=I.tuple hq
  obtain ⟨u,hu,ru⟩:=rv.get hx
  obtain ⟨f0,f1,f2,f3,f4,f5⟩:=hf it (by simp)
  refine wpAny_pyNext_tuple_item st (show s.heap.IsTuple a its.toArray from p) (x:=u) (by simpa using hu) fun h' st' sb=>?_
  have I1:Inv X pins σ H { s with heap:=h'}:=I.turned (t':=s.toks) (fun b o hb e=>(sb.2 b hb).trans e) f0 f1 f3 f4 f5
  obtain ⟨o,e,c,d⟩:=id st'
  exact ⟨u,rfl,jh6 (s:={ s with heap:=h'}) e c d (by decide) ⟨x,H,I1,ru,⟨rfl,fun ys hy=>by rw [I.tuple_inj hy hq];exact hx⟩,st',fun b hb=>(hf b hb).1⟩⟩
 done:=by
  intro X hP hw hK hc i pins s σ H E I hf st hg
  subst hP hw hK
  obtain ⟨xs,hq,hx⟩:=hg
  obtain ⟨its,rv,p,hz⟩:=I.tuple hq
  obtain ⟨f0,f1,f2,f3,f4,f5⟩:=hf it (by simp)
  have hl:=rv.length
  exact wpAny_pyNext_tuple_end (I.ok.hd hc) st (show s.heap.IsTuple a its.toArray from p) (by simp;omega) fun h' eb=>⟨rfl,I.turned (t':=s.toks) (fun b o hb e=>eb b o hb e) f0 f1 f3 f4 f5⟩
 self:=fun _ _ _ _ _ st h=>wpAny_pyIter_tupleiter st h
theorem jco {P:Program} {w:World} {K:PySem.W.Frag} {tg:Expr} (it:Addr) (lo:Int) (n:Nat):Turn P w K tg (Itr lo n) [it] it (fun i h=>IsRangeIter h it (lo+(i:Nat) * 1) ((n:Int) - (i:Nat)) 1) where
 mem:=by simp
 obj:=fun i h st b hb=>by
  have e:b=it:=by simpa using hb
  subst e
  exact ⟨_,st,fun v z=>by
   have z':Data.fields _=Data.cell v:=z
   cases z'⟩
 keep:=fun i h h' st k=>k it (by simp) _ st
 item:=by
  intro X hP hw hK hc i pins s σ H E I hf st hg
  subst hP hw hK
  obtain ⟨f0,f1,f2,f3,f4,f5⟩:=hf it (by simp)
  have W:=Walks.range (prog:=X.prog) (w:=X.w) (I.ok.hd hc) it lo 1 n
  refine W.item i s _ _ hg st fun v h' tk hv st' kk=>?_
  obtain ⟨t,rfl⟩:=hv
  have I1:Inv X pins σ H { s with heap:=h',toks:=tk}:=I.turned (fun b o hb e=>kk b o (by simpa using hb) e) f0 f1 f3 f4 f5
  refine ⟨_,rfl,jh6 (s:={ s with heap:=h',toks:=tk}) (n:="range_iterator") st' rfl rfl (by decide) ⟨.int (lo+i),H,I1,⟨t,?_⟩,⟨rfl,rfl⟩,st',fun b hb=>(hf b hb).1⟩⟩
  rw [Int.mul_one]
 done:=by
  intro X hP hw hK hc i pins s σ H E I hf st hg
  subst hP hw hK
  obtain ⟨f0,f1,f2,f3,f4,f5⟩:=hf it (by simp)
  exact wpAny_pyNext_range_end (I.ok.hd hc) st (by have:n≤i:=hg;omega) fun h' eb=>⟨rfl,I.turned (t':=s.toks) (fun b o hb e=>eb b o hb e) f0 f1 f3 f4 f5⟩
 self:=fun _ _ _ _ _ st h=>wpAny_pyIter_rangeiter st h
end L2
namespace L2
open PySem PySem.Spec PyProof.Rows
section
variable {X:Cx} {tg:Expr}
def jkr (K:PySem.W.Frag) (tl:TE):TI:=fun σ H R=>tl σ H fun x H1=>∃ a,x=.ref a∧(∃ xs,SqL K H1 a xs)∧R (Itl K a) H1
def iTup (K:PySem.W.Frag) (tl:TE):TI:=fun σ H R=>tl σ H fun x H1=>∃ a,x=.ref a∧(∃ xs,SqT K H1 a xs)∧R (Itt K a) H1
theorem jzn {l:Expr} {tl:TE} (hl:PE X l tl):PI X tg l (jkr X.K tl):=by
 intro pins s σ H R I h
 refine thn (hl pins s σ H _ I h) fun v s1 ⟨x,H1,I1,r1,q1⟩=>?_
 obtain ⟨a,e,⟨xs,hq⟩,q⟩:=q1
 subst e
 cases r1
 obtain ⟨its,rv,p,hz⟩:=I1.list hq
 refine wpAny_pyIter_list p.isList ?_
 refine ⟨s1.heap.objs.size,[s1.heap.objs.size],_,_,H1,rfl,I1.kept (t':=s1.toks) fun b o e=>Heap.get?_push_of_some _ e,jdj a _,⟨_,Heap.get?_push_size _ rfl,rfl,rfl⟩,fun b hb=>?_,q⟩
 have e:b=s1.heap.objs.size:=by simpa using hb
 subst e
 exact I1.fpOk (Nat.le_refl _) (I1.hok.fresh (Nat.le_refl _))
theorem ji7 {l:Expr} {tl:TE} (hl:PE X l tl):PI X tg l (iTup X.K tl):=by
 intro pins s σ H R I h
 refine thn (hl pins s σ H _ I h) fun v s1 ⟨x,H1,I1,r1,q1⟩=>?_
 obtain ⟨a,e,⟨xs,hq⟩,q⟩:=q1
 subst e
 cases r1
 obtain ⟨its,rv,p,hz⟩:=I1.tuple hq
 refine wpAny_pyIter_tuple (show s1.heap.IsTuple a its.toArray from p) ?_
 refine ⟨s1.heap.objs.size,[s1.heap.objs.size],_,_,H1,rfl,I1.kept (t':=s1.toks) fun b o e=>Heap.get?_push_of_some _ e,jcn a _,⟨_,Heap.get?_push_size _ rfl,rfl,rfl⟩,fun b hb=>?_,q⟩
 have e:b=s1.heap.objs.size:=by simpa using hb
 subst e
 exact I1.fpOk (Nat.le_refl _) (I1.hok.fresh (Nat.le_refl _))
theorem jgn {pins:List (Addr×Obj)} {σ:St} {H:Hp} {s:Shared} {R:It→Hp→Prop} {E:Value→Shared→Prop} {lo hi:Int} {t u v:Tok} {tk:Nat} (I:Inv X pins σ H s) (h1 : -(2 ^ 62)≤lo) (h2:lo < 2 ^ 62) (h3 : -(2 ^ 62)≤hi) (h4:hi < 2 ^ 62)
  (q:R (Itr lo (hi - lo).toNat) H):wpAny (model X.prog X.w) X.A (pyIter (.ref s.heap.objs.size)) (PIE X pins σ tg R) E { s with heap:=s.heap.push { cls:=.type "range",data:=.fields #[.int lo t,.int hi u,.int 1 v]},toks:=tk}:=by
 refine wpAny_pyIter_range (IsRange.new ..) (small_one h1 h2 h3 h4) ?_
 have I1:Inv X pins σ H { s with heap:=s.heap.push { cls:=.type "range",data:=.fields #[.int lo t,.int hi u,.int 1 v]},toks:=tk}:=I.kept fun b o e=>Heap.get?_push_of_some _ e
 refine ⟨(s.heap.push { cls:=.type "range",data:=.fields #[.int lo t,.int hi u,.int 1 v]}).objs.size,[(s.heap.push { cls:=.type "range",data:=.fields #[.int lo t,.int hi u,.int 1 v]}).objs.size],_,_,H,rfl,
  I1.kept (t':=tk) fun b o e=>Heap.get?_push_of_some _ e,jco _ lo (hi - lo).toNat,?_,fun b hb=>?_,q⟩
 ·have e1:lo+((0:Nat):Int) * 1=lo:=by simp
  have e2:(((hi - lo).toNat:Nat):Int) - ((0:Nat):Int)=Builtin.Range.rangeSize lo hi 1:=by rw [rangeSize_one];split<;>omega
  show IsRangeIter _ _ (lo+((0:Nat):Int) * 1) ((((hi - lo).toNat:Nat):Int) - ((0:Nat):Int)) 1
  rw [e1,e2]
  exact Heap.get?_push_size _ rfl
 ·have e:b=(s.heap.push { cls:=.type "range",data:=.fields #[.int lo t,.int hi u,.int 1 v]}).objs.size:=by simpa using hb
  subst e
  exact I1.fpOk (Nat.le_refl _) (I1.hok.fresh (Nat.le_refl _))
def jrq (ta:TA):TI:=fun σ H R=>ta σ H fun vs H1=>∃ j:Int,vs=[.int j]∧-(2 ^ 62)≤j∧j < 2 ^ 62∧R (Itr 0 j.toNat) H1
theorem jew {a:Expr} {ta:TA} {p pos:Pos} (hg:Gl X "range") (hm:X.mg "range"=none) (ha:PA X [a] ta) (hs:starEach [a] X.env=[(false,eval a X.env)]:=by rfl):PI X tg (.Call (.Name "range" p) [a] [] pos) (jrq ta):=by
 intro pins s σ H R I h
 refine Call_ (jvs I hg hm boot_range (PyProof.Rows.callWith_type1 (thn (ha pos pins s σ H _ I h) fun us s1 ⟨vs,H1,I1,r1,q1⟩=>?_) hs rfl))
 obtain ⟨j,e,q1,q2,q⟩:=q1
 subst e
 cases r1 with
 | cons r rr=>
  cases rr
  obtain ⟨t,rfl⟩:=r
  exact call_range_1 (jgn I1 (by omega) (by omega) q1 q2 (by simpa using q))
def tFor (wi:TI) (g:TG) (tb:TS):TS:=fun D σ H=>wi σ H fun J H1=>∃ W:Nat→Nat→St→Hp→Prop,(∃ m,W 0 m σ H1)∧∀ i m σ H,W i m σ H→
 (J.stop i H∧D.nx σ H)∨(J.go i H∧∃ N:St→Hp→Prop,(∀ σ' H',N σ' H'→∃ m',m' < m∧W (i+1) m' σ' H')∧∀ x H',J.yld i H x H'→g x σ H' fun σ2 H2=>tb { D with nx:=N,ct:=N,bk:=D.nx} σ2 H2)
def jc4 (fp:List Addr) (h:Heap):List (Addr×Obj):=fp.filterMap fun b=>(h.get? b).map fun o=>(b,o)
theorem jjz {fp:List Addr} {h:Heap} {b:Addr} {o:Obj} (hb:b∈fp) (e:h.get? b=some o):(b,o)∈jc4 fp h:=List.mem_filterMap.mpr ⟨b,hb,by rw [e];rfl⟩
theorem jf3 {fp:List Addr} {h:Heap} {p:Addr×Obj} (hp:p∈jc4 fp h):p.1∈fp∧h.get? p.1=some p.2:=by
 obtain ⟨b,hb,e⟩:=List.mem_filterMap.mp hp
 cases q:h.get? b with
 | none=>rw [q] at e;cases e
 | some o=>
  rw [q] at e
  have e':(b,o)=p:=Option.some.inj e
  subst e'
  exact ⟨hb,q⟩
theorem Inv.pinned {pins:List (Addr×Obj)} {σ:St} {H:Hp} {s:Shared} {fp:List Addr} (I:Inv X pins σ H s) (hf:∀ b∈fp,FpOk X pins H b) (ho:∀ b∈fp,∃ o,s.heap.get? b=some o∧∀ v,o.data≠.cell v):Inv X (pins++jc4 fp s.heap) σ H s:=
 I.pins_of fun p hp=>(List.mem_append.mp hp).elim (fun z=>I.pin p (List.mem_append_right _ z)) fun z=>by
  obtain ⟨hb,e⟩:=jf3 z
  obtain ⟨f0,f1,f2,_⟩:=hf p.1 hb
  obtain ⟨o,e',d⟩:=ho p.1 hb
  rw [e] at e';cases e'
  exact ⟨e,f0,f1,f2,d⟩
theorem Inv.unpinned {pins pl:List (Addr×Obj)} {σ:St} {H:Hp} {s:Shared} (I:Inv X (pins++pl) σ H s):Inv X pins σ H s:=I.pins_of fun p hp=>I.pin p (List.mem_append_right _ (List.mem_append_left _ hp))
theorem jzo {iter:Expr} {body:List Stmt} {wi:TI} {g:TG} {tb:TS} {pos:Pos} (hp:PassesOwn (model X.prog X.w) X.A X.env X.xe) (hc:X.calm=true) (hi:PI X tg iter wi) (hg:PG X tg g) (hb:PSs X body tb)
  (hs:∀ x,foldedSetIterable iter X.env x=pure x:=by intro _;rfl):PS X (.For tg iter body [] pos) (tFor wi g tb):=by
 intro pins s σ H D I h
 refine wpAny_For (thn (hi pins s σ H _ I h) fun v s1 h1=>thn h1 fun itv s2 h2=>?_) hs
 obtain ⟨it,fp,tn,J,H2,e,I2,T,st2,f2,W,⟨m0,w0⟩,turn⟩:=h2
 subst e
 have stat:∀ {H':Hp},(∀ b∈fp,H' b=none)→∀ b∈fp,FpOk X pins H' b:=fun hn b hb=>⟨hn b hb,(f2 b hb).2⟩
 refine codeAny_forLoop_any (fun n s'=>∃ i σ' H',Inv X pins σ' H' s'∧tn i s'.heap∧(∀ b∈fp,H' b=none)∧W i n σ' H') ?_ m0 ⟨0,σ,H2,I2,st2,fun b hb=>(f2 b hb).1,w0⟩
 rintro n s3 ⟨i,σ3,H3,I3,st3,fr3,w3⟩
 rcases turn i n σ3 H3 w3 with ⟨stop,qn⟩|⟨go,N,hN,step⟩
 ·refine wpAny_passesOwn hp (thn (T.done X rfl rfl rfl hc i pins s3 σ3 H3 X.xe I3 (stat fr3) st3 stop) fun r s4 ⟨hr,I4⟩=>?_)
  subst hr
  exact wpAny_execs_nil ⟨σ3,H3,I4,qn⟩
 ·refine wpAny_passesOwn hp (thn (T.item X rfl rfl rfl hc i pins s3 σ3 H3 X.xe I3 (stat fr3) st3 go) fun r s4 ⟨u,hr,h4⟩=>?_)
  subst hr
  refine wpAny_passesOwn hp (thn h4 fun _ s5 ⟨x,H5,I5,r5,y5,st5,fr5⟩=>?_)
  have I5':=I5.pinned (stat fr5) (T.obj _ _ st5)
  refine wpAny_passesOwn hp (thn (hg _ s5 σ3 H5 x u _ I5' r5 (step x H5 y5)) fun _ s6 ⟨σ6,H6,I6,q6⟩=>?_)
  refine wpAny_passesOwn hp (thn (hb _ s6 σ6 H6 _ I6 q6) fun f s7 q7=>?_)
  have again:∀ {σ7:St} {H7:Hp},Inv X (pins++jc4 fp s5.heap) σ7 H7 s7→N σ7 H7→∃ m,m < n∧∃ i σ' H',Inv X pins σ' H' s7∧tn i s7.heap∧(∀ b∈fp,H' b=none)∧W i m σ' H':=fun {σ7 H7} I7 n7=>by
   obtain ⟨m',hm,w7⟩:=hN σ7 H7 n7
   refine ⟨m',hm,i+1,σ7,H7,I7.unpinned,T.keep _ _ _ st5 fun b hb o e=>(I7.pin (b,o) (List.mem_append_right _ (List.mem_append_right _ (jjz hb e)))).1,fun b hb=>?_,w7⟩
   obtain ⟨o,e,d⟩:=T.obj _ _ st5 b hb
   exact (I7.pin (b,o) (List.mem_append_right _ (List.mem_append_right _ (jjz hb e)))).2.1
  cases f with
  | next=>obtain ⟨σ7,H7,I7,n7⟩:=q7;exact again I7 n7
  | cont=>obtain ⟨σ7,H7,I7,n7⟩:=q7;exact again I7 n7
  | brk=>obtain ⟨σ7,H7,I7,q7⟩:=q7;exact ⟨σ7,H7,I7.unpinned,q7⟩
  | ret v=>obtain ⟨x7,σ7,H7,I7,r7,q7⟩:=q7;exact ⟨x7,σ7,H7,I7.unpinned,r7,q7⟩
end
theorem jzc {K:PySem.W.Frag} {a:Addr} {xs:List V} {g:TG} {tb:TS} {D:Ends} {σ:St} {H:Hp} (Pv:Nat→St→Hp→Prop) (h0:Pv 0 σ H) (hl:∀ i σ H,i≤xs.length→Pv i σ H→SqL K H a xs)
  (hs:∀ i x σ H,xs[i]?=some x→Pv i σ H→g x σ H fun σ2 H2=>tb { D with nx:=Pv (i+1),ct:=Pv (i+1),bk:=D.nx} σ2 H2) (hd:∀ σ H,Pv xs.length σ H→D.nx σ H) :
  ∃ W:Nat→Nat→St→Hp→Prop,(∃ m,W 0 m σ H)∧∀ i m σ H,W i m σ H→
   ((Itl K a).stop i H∧D.nx σ H)∨((Itl K a).go i H∧∃ N:St→Hp→Prop,(∀ σ' H',N σ' H'→∃ m',m' < m∧W (i+1) m' σ' H')∧∀ x H',(Itl K a).yld i H x H'→g x σ H' fun σ2 H2=>tb { D with nx:=N,ct:=N,bk:=D.nx} σ2 H2):=by
 refine ⟨fun i m σ H=>m=xs.length - i∧i≤xs.length∧Pv i σ H,⟨xs.length,by simp,Nat.zero_le _,h0⟩,?_⟩
 rintro i m σ H ⟨rfl,hi,p⟩
 have q:=hl i σ H hi p
 by_cases hlt:i < xs.length
 ·refine .inr ⟨⟨xs,xs[i],q,by simp [hlt]⟩,Pv (i+1),fun σ' H' p'=>⟨xs.length - (i+1),by omega,rfl,hlt,p'⟩,fun x H' y=>?_⟩
  obtain ⟨e,y⟩:=y
  subst e
  exact hs i x σ _ (y xs q) p
 ·have e:i=xs.length:=by omega
  subst e
  exact .inl ⟨⟨xs,q,Nat.le_refl _⟩,hd σ H p⟩
end L2
namespace L2
open PySem PySem.Spec PyProof.Rows
abbrev R2:=V→V→Hp→VK→Prop
def OpR (X:Cx) (f:Value→Value→Sem Value) (r:R2):Prop:=
 ∀ (pins:List (Addr×Obj)) (s:Shared) (σ:St) (H:Hp) (x y:V) (v u:Value) (Q:VK),Inv X pins σ H s→RelV x v→RelV y u→r x y H Q→
  wpAny (model X.prog X.w) X.A (f v u) (EP X pins σ Q) X.xe s
def UnR (X:Cx) (f:Value→Sem Value) (r:V→Hp→VK→Prop):Prop:=
 ∀ (pins:List (Addr×Obj)) (s:Shared) (σ:St) (H:Hp) (x:V) (v:Value) (Q:VK),Inv X pins σ H s→RelV x v→r x H Q→
  wpAny (model X.prog X.w) X.A (f v) (EP X pins σ Q) X.xe s
def jki (X:Cx) (f:Value) (r:List V→Hp→VK→Prop):Prop:=
 ∀ (pins:List (Addr×Obj)) (s:Shared) (σ:St) (H:Hp) (xs:List V) (us:List Value) (Q:VK),Inv X pins σ H s→Vals xs us→r xs H Q→
  wpAny (model X.prog X.w) X.A (call f us) (EP X pins σ Q) X.xe s
def tOp (r:R2) (ta tb:TE):TE:=fun σ H Q=>ta σ H fun x H1=>tb σ H1 fun y H2=>r x y H2 Q
def tUn (r:V→Hp→VK→Prop) (ta:TE):TE:=fun σ H Q=>ta σ H fun x H1=>r x H1 Q
def rI (C:Int→Int→Prop) (g:Int→Int→V):R2:=fun x y H Q=>∃ i j,x=.int i∧y=.int j∧C i j∧Q (g i j) H
def rI0 (g:Int→Int→V):R2:=fun x y H Q=>∃ i j,x=.int i∧y=.int j∧Q (g i j) H
def rU (g:Int→V):V→Hp→VK→Prop:=fun x H Q=>∃ i,x=.int i∧Q (g i) H
section
variable {X:Cx} {a b c:Expr} {ta tb tc:TE} {pos:Pos}
theorem binT (ha:PE X a ta) (hb:PE X b tb) {pins:List (Addr×Obj)} {s:Shared} {σ:St} {H:Hp} {R:V→V→Hp→Prop} (I:Inv X pins σ H s)
  (h:ta σ H fun x H1=>tb σ H1 fun y H2=>R x y H2) {Q:Value→Shared→Prop} {f:Value→Value→Sem Value}
  (hf:∀ v u s2 x y H2,Inv X pins σ H2 s2→RelV x v→RelV y u→R x y H2→wpAny (model X.prog X.w) X.A (f v u) Q X.xe s2) :
  wpAny (model X.prog X.w) X.A (eval a X.env) (fun v s₁=>wpAny (model X.prog X.w) X.A (eval b X.env) (fun u s₂=>wpAny (model X.prog X.w) X.A (f v u) Q X.xe s₂) X.xe s₁) X.xe s:=by
 refine thn (ha pins s σ H _ I h) fun v s1 ⟨x,H1,I1,r1,q1⟩=>?_
 refine thn (hb pins s1 σ H1 _ I1 q1) fun u s2 ⟨y,H2,I2,r2,q2⟩=>?_
 exact hf v u s2 x y H2 I2 r1 r2 q2
theorem jxb {op:Operator} {r:R2} (ho:OpR X (binaryOp op) r) (ha:PE X a ta) (hb:PE X b tb):PE X (.BinOp a op b pos) (tOp r ta tb):=by
 intro pins s σ H Q I h
 exact wpAny_BinOp (binT ha hb I h fun v u s2 x y H2 I2 rx ry q=>ho pins s2 σ H2 x y v u Q I2 rx ry q)
theorem jw2 {op:UnaryOp} {r:V→Hp→VK→Prop} (ho:UnR X (unaryOp op) r) (ha:PE X a ta):PE X (.UnaryOp op a pos) (tUn r ta):=by
 intro pins s σ H Q I h
 exact UnaryOp_ (thn (ha pins s σ H _ I h) fun v s1 ⟨x,H1,I1,r1,q1⟩=>ho pins s1 σ H1 x v Q I1 r1 q1)
theorem opI {f:Value→Value→Sem Value} {C:Int→Int→Prop} {g:Int→Int→Int}
  (rule:∀ (i j:Int) (t u:Tok) (s:Shared) (Q:Value→Shared→Prop) (E:Value→Shared→Prop),C i j→Q (.int (g i j) s.toks) { s with toks:=s.toks+1}→wpAny (model X.prog X.w) X.A (f (.int i t) (.int j u)) Q E s) :
  OpR X f (rI C fun i j=>.int (g i j)):=by
 intro pins s σ H x y v u Q I rx ry h
 obtain ⟨i,j,rfl,rfl,hc,q⟩:=h
 obtain ⟨t,rfl⟩:=rx
 obtain ⟨t',rfl⟩:=ry
 exact rule i j t t' s _ _ hc ⟨.int (g i j),H,I.tok _,⟨_,rfl⟩,q⟩
theorem opI0 {f:Value→Value→Sem Value} {g:Int→Int→Int}
  (rule:∀ (i j:Int) (t u:Tok) (s:Shared) (Q:Value→Shared→Prop) (E:Value→Shared→Prop),Q (.int (g i j) s.toks) { s with toks:=s.toks+1}→wpAny (model X.prog X.w) X.A (f (.int i t) (.int j u)) Q E s) :
  OpR X f (rI0 fun i j=>.int (g i j)):=by
 intro pins s σ H x y v u Q I rx ry h
 obtain ⟨i,j,rfl,rfl,q⟩:=h
 obtain ⟨t,rfl⟩:=rx
 obtain ⟨t',rfl⟩:=ry
 exact rule i j t t' s _ _ ⟨.int (g i j),H,I.tok _,⟨_,rfl⟩,q⟩
theorem opB0 {f:Value→Value→Sem Value} {g:Int→Int→Bool}
  (rule:∀ (i j:Int) (t u:Tok) (s:Shared) (Q:Value→Shared→Prop) (E:Value→Shared→Prop),Q (.bool (g i j)) s→wpAny (model X.prog X.w) X.A (f (.int i t) (.int j u)) Q E s) :
  OpR X f (rI0 fun i j=>.bl (g i j)):=by
 intro pins s σ H x y v u Q I rx ry h
 obtain ⟨i,j,rfl,rfl,q⟩:=h
 obtain ⟨t,rfl⟩:=rx
 obtain ⟨t',rfl⟩:=ry
 exact rule i j t t' s _ _ ⟨.bl (g i j),H,I,rfl,q⟩
def CDiv (i j:Int):Prop:=0 < j∧j < 1073741824
def CPow (i j:Int):Prop:=0≤j∧j≤1000000∧i.natAbs < 2 ^ 64
def CMul (i j:Int):Prop:=(-(2 ^ 64) < i∧i < 2 ^ 64)∨(-(2 ^ 64) < j∧j < 2 ^ 64)
theorem CMul.ok {i j:Int} (h:CMul i j):IntMulOk i j:=by
 rcases h with ⟨h1,h2⟩|⟨h1,h2⟩
 ·exact .of_left (intBits_le_64 h1 h2)
 ·exact .of_right (intBits_le_64 h1 h2)
theorem jf1:OpR X (binaryOp .Add) (rI0 fun i j=>.int (i+j)):=opI0 fun _ _ _ _ _ _ _ q=>add_int q
theorem jkx:OpR X (binaryOp .Sub) (rI0 fun i j=>.int (i - j)):=opI0 fun _ _ _ _ _ _ _ q=>sub_int q
theorem jr1:OpR X (binaryOp .Mult) (rI CMul fun i j=>.int (i * j)):=opI fun _ _ _ _ _ _ _ hc q=>mul_int q hc.ok
theorem jk8:OpR X (binaryOp .FloorDiv) (rI CDiv fun i j=>.int (i / j)):=opI fun i j _ _ _ _ _ hc q=>by
 have h1:(0:Int) < j:=hc.1
 have h2:j < 1073741824:=hc.2
 exact floordiv_int (by omega) (by rw [Int.fdiv_eq_ediv_of_nonneg i (by omega)];exact q) (.inl (PyProof.noPylong_small (by omega)))
theorem jz2:OpR X (binaryOp .Mod) (rI (fun _ j=>0 < j) fun i j=>.int (i % j)):=opI fun i j _ _ _ _ _ hc q=>by
 have h1:(0:Int) < j:=hc
 exact mod_int' (by omega) (by rw [Int.fmod_eq_emod_of_nonneg i (by omega)];exact q)
theorem jib:OpR X (binaryOp .Pow) (rI CPow fun i j=>.int (i ^ j.toNat)):=opI fun _ _ _ _ _ _ _ hc q=>pow_int_small hc.1 hc.2.1 hc.2.2 q
theorem unI {f:Value→Sem Value} {g:Int→Int}
  (rule:∀ (i:Int) (t:Tok) (s:Shared) (Q:Value→Shared→Prop) (E:Value→Shared→Prop),Q (.int (g i) s.toks) { s with toks:=s.toks+1}→wpAny (model X.prog X.w) X.A (f (.int i t)) Q E s) :
  UnR X f (rU fun i=>.int (g i)):=by
 intro pins s σ H x v Q I rx h
 obtain ⟨i,rfl,q⟩:=h
 obtain ⟨t,rfl⟩:=rx
 exact rule i t s _ _ ⟨.int (g i),H,I.tok _,⟨_,rfl⟩,q⟩
theorem jk1:UnR X (unaryOp .USub) (rU fun i=>.int (-i)):=unI fun _ _ _ _ _ q=>neg_int q
end
def scal:V→V→Bool
 | .non,.non=>true|.non,.int _=>true|.int _,.non=>true|.non,.bl _=>true|.bl _,.non=>true|.non,.str _=>true|.str _,.non=>true
 | .int _,.int _=>true|.bl _,.bl _=>true|.str _,.str _=>true|.byt _,.byt _=>true
 | .int _,.str _=>true|.str _,.int _=>true|.bl _,.str _=>true|.str _,.bl _=>true
 | _,_=>false
def rEq:R2:=fun x y H Q=>scal x y=true∧Q (.bl (decide (x=y))) H
def rNe:R2:=fun x y H Q=>scal x y=true∧Q (.bl (!decide (x=y))) H
theorem jfs {i j:Int}:decide (V.int i=V.int j)=(i == j):=by
 rw [Bool.eq_iff_iff]
 simp
theorem jif {i j:Bool}:decide (V.bl i=V.bl j)=(i == j):=by
 rw [Bool.eq_iff_iff]
 simp
theorem jfr {i j:Str}:decide (V.str i=V.str j)=(i == j):=by
 rw [Bool.eq_iff_iff]
 simp
theorem jft {i j:Array UInt8}:decide (V.byt i=V.byt j)=(i.toList == j.toList):=by
 rw [Bool.eq_iff_iff]
 cases i
 cases j
 simp
section
variable {X:Cx} {a b c:Expr} {ta tb tc:TE} {pos:Pos}
theorem jxi {pins:List (Addr×Obj)} {σ:St} {H:Hp} {s:Shared} {Q:VK} {k k':Bool} (I:Inv X pins σ H s) (q:Q (.bl k) H) (e:k=k'):EP X pins σ Q (.bool k') s:=by
 subst e
 exact ⟨.bl k,H,I,rfl,q⟩
theorem jz7:OpR X (compareOp .Eq) rEq:=by
 intro pins s σ H x y v u Q I rx ry h
 obtain ⟨hs,q⟩:=h
 cases x with
 | non=>
  cases rx
  cases y with
  | non=>cases ry;exact PySem.EqNone.eq_none_none (jxi I q (by simp))
  | bl j=>cases ry;exact PySem.EqNone.eq_none_bool (jxi I q (by simp))
  | int j=>obtain ⟨t',rfl⟩:=ry;exact PySem.EqNone.eq_none_int (jxi I q (by simp))
  | str j=>obtain ⟨t',rfl⟩:=ry;exact PySem.EqNone.eq_none_str (jxi I q (by simp))
  | _=>exact absurd (show false=true from hs) Bool.false_ne_true
 | bl i=>
  cases rx
  cases y with
  | non=>cases ry;exact PySem.EqNone.eq_bool_none (jxi I q (by simp))
  | bl j=>cases ry;exact eq_bool (jxi I q jif)
  | str j=>obtain ⟨t',rfl⟩:=ry;exact PySem.EqMixed.eq_bool_str (jxi I q (by simp))
  | _=>exact absurd (show false=true from hs) Bool.false_ne_true
 | int i=>
  obtain ⟨t,rfl⟩:=rx
  cases y with
  | non=>cases ry;exact PySem.EqNone.eq_int_none (jxi I q (by simp))
  | int j=>obtain ⟨t',rfl⟩:=ry;exact eq_int (jxi I q jfs)
  | str j=>obtain ⟨t',rfl⟩:=ry;exact PySem.EqMixed.eq_int_str (jxi I q (by simp))
  | _=>exact absurd (show false=true from hs) Bool.false_ne_true
 | str i=>
  obtain ⟨t,rfl⟩:=rx
  cases y with
  | non=>cases ry;exact PySem.EqNone.eq_str_none (jxi I q (by simp))
  | bl j=>cases ry;exact PySem.EqMixed.eq_str_bool (jxi I q (by simp))
  | int j=>obtain ⟨t',rfl⟩:=ry;exact PySem.EqMixed.eq_str_int (jxi I q (by simp))
  | str j=>obtain ⟨t',rfl⟩:=ry;exact eq_str (jxi I q jfr)
  | _=>exact absurd (show false=true from hs) Bool.false_ne_true
 | byt i=>
  obtain ⟨t,rfl⟩:=rx
  cases y with
  | byt j=>obtain ⟨t',rfl⟩:=ry;exact PySem.W.eq_bytes (jxi I q jft)
  | _=>exact absurd (show false=true from hs) Bool.false_ne_true
 | _=>cases y<;>exact absurd (show false=true from hs) Bool.false_ne_true
theorem jv0:OpR X (compareOp .NotEq) rNe:=by
 intro pins s σ H x y v u Q I rx ry h
 obtain ⟨hs,q⟩:=h
 cases x with
 | non=>
  cases rx
  cases y with
  | non=>cases ry;exact PySem.EqNone.ne_none_none (jxi I q (by simp))
  | bl j=>cases ry;exact PySem.EqNone.ne_none_bool (jxi I q (by simp))
  | int j=>obtain ⟨t',rfl⟩:=ry;exact PySem.EqNone.ne_none_int (jxi I q (by simp))
  | str j=>obtain ⟨t',rfl⟩:=ry;exact PySem.EqNone.ne_none_str (jxi I q (by simp))
  | _=>exact absurd (show false=true from hs) Bool.false_ne_true
 | bl i=>
  cases rx
  cases y with
  | non=>cases ry;exact PySem.EqNone.ne_bool_none (jxi I q (by simp))
  | bl j=>cases ry;exact ne_bool (jxi I q (congrArg not jif))
  | str j=>obtain ⟨t',rfl⟩:=ry;exact PySem.EqMixed.ne_bool_str (jxi I q (by simp))
  | _=>exact absurd (show false=true from hs) Bool.false_ne_true
 | int i=>
  obtain ⟨t,rfl⟩:=rx
  cases y with
  | non=>cases ry;exact PySem.EqNone.ne_int_none (jxi I q (by simp))
  | int j=>obtain ⟨t',rfl⟩:=ry;exact ne_int (jxi I q (congrArg not jfs))
  | str j=>obtain ⟨t',rfl⟩:=ry;exact PySem.EqMixed.ne_int_str (jxi I q (by simp))
  | _=>exact absurd (show false=true from hs) Bool.false_ne_true
 | str i=>
  obtain ⟨t,rfl⟩:=rx
  cases y with
  | non=>cases ry;exact PySem.EqNone.ne_str_none (jxi I q (by simp))
  | bl j=>cases ry;exact PySem.EqMixed.ne_str_bool (jxi I q (by simp))
  | int j=>obtain ⟨t',rfl⟩:=ry;exact PySem.EqMixed.ne_str_int (jxi I q (by simp))
  | str j=>obtain ⟨t',rfl⟩:=ry;exact ne_str (jxi I q (congrArg not jfr))
  | _=>exact absurd (show false=true from hs) Bool.false_ne_true
 | byt i=>
  obtain ⟨t,rfl⟩:=rx
  cases y with
  | byt j=>obtain ⟨t',rfl⟩:=ry;exact PySem.W.ne_bytes (jxi I q (congrArg not jft))
  | _=>exact absurd (show false=true from hs) Bool.false_ne_true
 | _=>cases y<;>exact absurd (show false=true from hs) Bool.false_ne_true
theorem jba:OpR X (compareOp .Lt) (rI0 fun i j=>.bl (decide (i < j))):=opB0 fun _ _ _ _ _ _ _ q=>lt_int q
theorem jr2:OpR X (compareOp .LtE) (rI0 fun i j=>.bl (decide (i≤j))):=opB0 fun _ _ _ _ _ _ _ q=>le_int q
theorem jkl:OpR X (compareOp .Gt) (rI0 fun i j=>.bl (decide (j < i))):=opB0 fun _ _ _ _ _ _ _ q=>gt_int q
theorem op_ge:OpR X (compareOp .GtE) (rI0 fun i j=>.bl (decide (j≤i))):=opB0 fun _ _ _ _ _ _ _ q=>ge_int q
theorem jr3:OpR X (compareOp .Is) (fun x y H Q=>y=.non∧Q (.bl (decide (x=.non))) H):=by
 intro pins s σ H x y v u Q I rx ry h
 obtain ⟨rfl,q⟩:=h
 cases ry
 refine is_none_gen (jxi I q ?_)
 cases x<;>first
  | (cases rx;rfl)
  | (obtain ⟨t,rfl⟩:=rx;rfl)
theorem jmk:OpR X (compareOp .IsNot) (fun x y H Q=>y=.non∧Q (.bl (!decide (x=.non))) H):=by
 intro pins s σ H x y v u Q I rx ry h
 obtain ⟨rfl,q⟩:=h
 cases ry
 refine isnot_none_gen (jxi I q ?_)
 cases x<;>first
  | (cases rx;rfl)
  | (obtain ⟨t,rfl⟩:=rx;rfl)
theorem jqo (b:Expr) {op:CmpOp} (h:op≠.In:=by decide) (h2:op≠.NotIn:=by decide):behindInMarks op b=false:=by
 have e1:(op == CmpOp.In)=false:=by cases op<;>first|rfl|exact absurd rfl h
 have e2:(op == CmpOp.NotIn)=false:=by cases op<;>first|rfl|exact absurd rfl h2
 cases b<;>simp [behindInMarks,e1,e2]
theorem jwq {op:CmpOp} {r:R2} (ho:OpR X (compareOp op) r) (ha:PE X a ta) (hb:PE X b tb) (hm:behindInMarks op b=false):PE X (.Compare a [op] [b] pos) (tOp r ta tb):=by
 intro pins s σ H Q I h
 exact wpAny_Compare1 (binT ha hb I h fun v u s2 x y H2 I2 rx ry q=>ho pins s2 σ H2 x y v u Q I2 rx ry q) hm
def jx0 (t:TE):TT:=fun σ H Q=>t σ H fun x H'=>∃ k,x=.bl k∧Q k H'
theorem jqg {op:CmpOp} {r:R2} (ho:OpR X (compareOp op) r) (ha:PE X a ta) (hb:PE X b tb) (hm:behindInMarks op b=false):PT X (.Compare a [op] [b] pos) (jx0 (tOp r ta tb)):=by
 intro pins s σ H Q I h
 refine wpAny_isTrue_Compare1 (thn (ha pins s σ H _ I h) fun v s1 ⟨x,H1,I1,r1,q1⟩=>thn (hb pins s1 σ H1 _ I1 q1) fun u s2 ⟨y,H2,I2,r2,q2⟩=>
  thn (ho pins s2 σ H2 x y v u _ I2 r1 r2 q2) fun c s3 ⟨z,H3,I3,r3,k,e,q3⟩=>?_) hm
 subst e
 cases r3
 exact wpAny_truthy_bool ⟨H3,I3,q3⟩
def ji2 (r r':R2) (ta tb tc:TE):TE:=fun σ H Q=>ta σ H fun x H1=>tb σ H1 fun y H2=>r x y H2 fun z H3=>∃ k,z=.bl k∧
 (if k=true then tc σ H3 fun w' H4=>r' y w' H4 Q else Q (.bl false) H3)
theorem jgq {op op':CmpOp} {r r':R2} (ho:OpR X (compareOp op) r) (ho':OpR X (compareOp op') r') (ha:PE X a ta) (hb:PE X b tb) (hc:PE X c tc)
  (hm:lastMarks [op,op'] [b,c]=false:=by with_unfolding_all rfl):PT X (.Compare a [op,op'] [b,c] pos) (jx0 (ji2 r r' ta tb tc)):=by
 intro pins s σ H Q I h
 refine isTrue_chain (thn (ha pins s σ H _ I h) fun v s1 ⟨x,H1,I1,r1,q1⟩=>test_link (thn (hb pins s1 σ H1 _ I1 q1) fun u s2 ⟨y,H2,I2,r2,q2⟩=>
  thn (ho pins s2 σ H2 x y v u _ I2 r1 r2 q2) fun d s3 ⟨z,H3,I3,r3,k,e,q3⟩=>?_)) hm
 subst e
 cases r3
 refine wpAny_truthy_bool ?_
 cases k with
 | false=>
  obtain ⟨k',e',q'⟩:=q3
  cases e'
  exact ite_ff ⟨H3,I3,q'⟩
 | true=>
  refine ite_tt (test_last (thn (hc pins s3 σ H3 _ I3 q3) fun w' s4 ⟨z',H4,I4,r4,q4⟩=>thn (ho' pins s4 σ H4 y z' u w' _ I4 r2 r4 q4) fun d' s5 ⟨z2,H5,I5,r5,k2,e2,q5⟩=>?_))
  subst e2
  cases r5
  exact wpAny_truthy_bool ⟨H5,I5,q5⟩
theorem jwb:(sizeLine:Nat) < 2 ^ 63:=by rw [sizeLine_eq];decide
theorem jkm:OpR X (binaryOp .Add) (fun x y H Q=>∃ i j,x=.str i∧y=.str j∧i.length+j.length≤sizeLine∧Q (.str (i++j)) H):=by
 intro pins s σ H x y v u Q I rx ry h
 obtain ⟨i,j,rfl,rfl,hz,q⟩:=h
 obtain ⟨t,rfl⟩:=rx
 obtain ⟨t',rfl⟩:=ry
 exact add_str (fun t' tk=>⟨.str (i++j),H,I.tok _,⟨_,rfl⟩,q⟩) hz
theorem jw1 {x:V} {us:List Value} (r:Vals [x] us):∃ u,us=[u]∧RelV x u:=by
 cases r with
 | cons r1 r2=>cases r2;exact ⟨_,rfl,r1⟩
theorem jdh {x y:V} {us:List Value} (r:Vals [x,y] us):∃ u w',us=[u,w']∧RelV x u∧RelV y w':=by
 cases r with
 | cons r1 r2=>
  cases r2 with
  | cons r3 r4=>cases r4;exact ⟨_,_,rfl,r1,r3⟩
theorem jhh:jki X (.builtin "abs") (fun xs H Q=>∃ i,xs=[.int i]∧Q (.int (if i < 0 then -i else i)) H):=by
 intro pins s σ H xs us Q I r h
 obtain ⟨i,rfl,q⟩:=h
 obtain ⟨u,rfl,t,rfl⟩:=jw1 r
 exact call_abs_int fun u tk=>⟨.int (if i < 0 then -i else i),H,I.tok _,⟨_,rfl⟩,q⟩
theorem jfy (hc:X.calm=true):jki X (.builtin "min") (fun xs H Q=>∃ i j,xs=[.int i,.int j]∧Q (.int (if j < i then j else i)) H):=by
 intro pins s σ H xs us Q I r h
 obtain ⟨i,j,rfl,q⟩:=h
 obtain ⟨u,w',rfl,⟨t,rfl⟩,⟨t',rfl⟩⟩:=jdh r
 refine min_two_ints (I.ok.hd hc) fun h' tk k=>⟨_,H,I.kept k,?_,q⟩
 by_cases hj:j < i
 ·rw [if_pos hj,if_pos hj];exact ⟨_,rfl⟩
 ·rw [if_neg hj,if_neg hj];exact ⟨_,rfl⟩
theorem jju:jki X (.type "int") (fun xs H Q=>(∃ i,xs=[.int i]∧Q (.int i) H)∨∃ k,xs=[.bl k]∧Q (.int (if k then 1 else 0)) H):=by
 intro pins s σ H xs us Q I r h
 rcases h with ⟨i,rfl,q⟩|⟨k,rfl,q⟩
 ·obtain ⟨u,rfl,t,rfl⟩:=jw1 r
  exact call_int_int ⟨.int i,H,I,⟨_,rfl⟩,q⟩
 ·obtain ⟨u,rfl,r1⟩:=jw1 r
  cases r1
  exact call_int_bool ⟨.int (if k then 1 else 0),H,I.tok _,⟨_,rfl⟩,q⟩
end
end L2
namespace L2
open PySem PySem.Spec PyProof.Rows
structure ObjM (h:Heap) (x dx C:Addr) (mA:Str→Option Value):Prop where
 obj:h.get? x=some (PySem.W.instObj C dx)
 ns:h.Ns1 dx mA
 ne:dx≠x
theorem jf7 {h:Heap} {dx:Addr} {mA:Str→Option Value} (n:h.Ns1 dx mA):∃ od,h.get? dx=some od∧∀ name,PySem.W.lookIn name od=some (mA name):=by
 obtain ⟨o,es,ep,ho,hd,hk,_,hm⟩:=n
 refine ⟨o,ho,fun name=>?_⟩
 have e:=hm name
 unfold nsFind findBy at e
 rw [← Array.find?_toList] at e
 unfold PySem.W.lookIn
 rw [hd]
 dsimp only
 split
 ·rename_i y q
  rw [q] at e
  exact congrArg some e
 ·rename_i q
  rw [q] at e
  have a:es.toList.any (·.refKey)=false:=by
   rw [List.any_eq_false]
   intro y hy
   obtain ⟨z,t,hkey⟩:=hk y (Array.mem_toList_iff.mp hy)
   simp [DictEntry.refKey,hkey]
  have a':¬ es.toList.any (·.refKey)=true:=by rw [a];exact Bool.false_ne_true
  rw [if_neg a']
  exact congrArg some e
theorem ObjM.look {h:Heap} {x dx C:Addr} {mA:Str→Option Value} (I:ObjM h x dx C mA):∃ od,PySem.W.InstAt h x (PySem.W.instObj C dx) C (some od)∧∀ name,PySem.W.lookIn name od=some (mA name):=
 let ⟨od,ho,hl⟩:=jf7 I.ns
 ⟨od,⟨I.obj,rfl,rfl,ho⟩,hl⟩
section
variable {prog:Program} {w:World} {A:Around} {E:Value→Shared→Prop} {s:Shared} {K:PySem.W.Frag} {x dx C f:Addr} {mA:Str→Option Value} {name:Str} {v:Value}
theorem jmw {expr:Bool} {Q:Value→Shared→Prop} (X:K.In s.heap) (I:ObjM s.heap x dx C mA) (hg:PySem.W.plainGet K C name=true) (hh:PySem.W.hasDictIn K C=true)
  (ha:PySem.W.findIn K (.ref C) name=some none) (hv:mA name=some v) (hv':PySem.W.handedIn v=true) (h:Q v { s with toks:=s.toks+1}) :
  wpAny (model prog w) A (getAttr (.ref x) name expr) Q E s:=by
 obtain ⟨od,J,hl⟩:=I.look
 exact PySem.W.get_value X J (PySem.W.plainGet_of hg).1 (PySem.W.findObj_own hh ha rfl (by rw [hl,hv])) hv' h
theorem jh7 {pl:Sem Bool} {Q:Value×List Value→Shared→Prop} (X:K.In s.heap) (I:ObjM s.heap x dx C mA) (hg:PySem.W.plainGet K C name=true)
  (hf:PySem.W.findIn K (.ref C) name=some (some (.ref f))) (ht:PySem.W.isFn K (.ref f)=true) (hv:mA name=none) (h:Q (.ref f,[.ref x]) s) :
  wpAny (model prog w) A (getMethod (.ref x) name pl) Q E s:=by
 obtain ⟨od,J,hl⟩:=I.look
 exact PySem.W.method_fn X J (PySem.W.plainGet_of hg).1 (PySem.W.plainGet_of hg).2 hf (beq_iff_eq.mp ht) (by show (PySem.W.lookIn name od).map (·.isSome)=some false;rw [hl,hv];rfl) h
theorem jm3 {ns:List Str} {Q:Unit→Shared→Prop} (X:K.In s.heap) (I:ObjM s.heap x dx C mA)
  (hs:PySem.W.findIn K (.ref C) "__setattr__"=some (some (.builtin "object.__setattr__"))) (hp:PySem.W.plainOver K C=true) (ht:PySem.W.takerIn K C name=some none) (hh:PySem.W.hasDictIn K C=true)
  (hw:PySem.Within mA ns) (hsz:ns.length≤sizeLine)
  (h:∀ h',ObjM h' x dx C (fun y=>if y=name then some v else mA y)→Heap.SameBut dx s.heap h'→Q () { s with heap:=h',toks:=s.toks+2}) :
  wpAny (model prog w) A (setAttr (.ref x) name v) Q E s:=by
 obtain ⟨od,J,hl⟩:=I.look
 refine PySem.W.set_plain X J hs (PySem.W.osa_open (s:={ s with toks:=s.toks+1}) (r:=none) X J hp ht fun b=>?_)
 obtain ⟨cd,hc,hd'⟩:=PySem.W.any_some hh
 have hx:s.heap.get? x=some ⟨.ref C,some dx,.plain,#[]⟩:=I.obj
 refine wpAny_bind (wpAny_pure (wpAny_bind (wpAny_bind (wpAny_loadPart hx (wpAny_bind (PySem.W.Looks.here (s:={ s with toks:=s.toks+1}) (PySem.W.looks_clsIn X hc) ?_))))))
 rw [hd']
 refine wpAny_pure (a:=some dx) (wpAny_bind (wpAny_pure (wpAny_bind ?_)))
 refine wpAny_nsSet1 (s:={ s with toks:=s.toks+1}) I.ns fun h' hn2 hs2=>?_
 obtain ⟨oD,esD,epD,hoD,hdD,hcD⟩:=hn2.count (PySem.Within.cons name v hw)
 refine wpAny_bind (wpAny_lookBehind hoD (by rw [hdD];exact pastItsLine_dict (Nat.le_trans hcD (by rw [List.length_cons];omega))) ?_)
 exact wpAny_pure (h _ ⟨(hs2.2 _ (Ne.symm I.ne)).trans I.obj,hn2,I.ne⟩ hs2)
theorem jgz {R:Result→Shared→Prop} {vs:List Value} {kw:List (Str×Value)} (X:K.In s.heap) (hm:PySem.W.makesIn K C=true)
  (hi:PySem.W.findIn K (.ref C) "__init__"=some (some (.ref f))) (hf:PySem.W.typeIn K (.ref f)=some (.type "function"))
  (h:codeAny (model prog w) (A.under (.builtin "type.__call__" ⟨.ref C :: vs,kw⟩)) (.call (.ref f) ⟨.ref (s.heap.objs.size+1) :: vs,kw⟩) (PySem.W.InitBack (s.heap.objs.size+1) R)
   { s with heap:=(s.heap.push PySem.W.emptyDict).push (PySem.W.instObj C s.heap.objs.size)}) :
  codeAny (model prog w) A (.call (.ref C) ⟨vs,kw⟩) R s:=by
 obtain ⟨hh,g,d,t,os⟩:=s
 exact PySem.W.make_core (PySem.W.makes_of X hm) (PySem.W.looks_findIn X hi) (fun self=>PySem.W.bind_fn X self hf) (.inl rfl) h
end
def putF (f:Str) (v:V):List (Str×V)→List (Str×V)
 | []=>[(f,v)]
 | (g,x) :: r=>if g=f then (g,v) :: r else (g,x) :: putF f v r
theorem jvp (f g:Str) (v:V):∀ fs:List (Str×V),(putF f v fs).lookup g=if g=f then some v else fs.lookup g
 | []=>by
  show List.lookup g [(f,v)]=_
  by_cases h:g=f
  ·have hb:(g == f)=true:=beq_iff_eq.mpr h
   simp only [List.lookup,hb,if_pos h]
  ·have hb:(g == f)=false:=beq_eq_false_iff_ne.mpr h
   simp only [List.lookup,hb,if_neg h]
 | (k,x) :: r=>by
  have ih:=jvp f g v r
  rw [show putF f v ((k,x) :: r)=(if k=f then (k,v) :: r else (k,x) :: putF f v r) from rfl]
  by_cases hk:k=f
  ·rw [if_pos hk]
   by_cases h:g=k
   ·have hb:(g == k)=true:=beq_iff_eq.mpr h
    simp only [List.lookup,hb,if_pos (h.trans hk)]
   ·have hb:(g == k)=false:=beq_eq_false_iff_ne.mpr h
    simp only [List.lookup,hb,if_neg (fun e:g=f=>h (e.trans hk.symm))]
  ·rw [if_neg hk]
   by_cases h:g=k
   ·have hb:(g == k)=true:=beq_iff_eq.mpr h
    simp only [List.lookup,hb,if_neg (fun e:g=f=>hk (h.symm.trans e))]
   ·have hb:(g == k)=false:=beq_eq_false_iff_ne.mpr h
    simp only [List.lookup,hb]
    exact ih
theorem jvt (f:Str) (v:V):∀ fs:List (Str×V),f∈(putF f v fs).map (·.1)∧∀ g,g∈fs.map (·.1)→g∈(putF f v fs).map (·.1)
 | []=>⟨by simp [putF],fun g h=>by simp at h⟩
 | (k,x) :: r=>by
  obtain ⟨i1,i2⟩:=jvt f v r
  rw [show putF f v ((k,x) :: r)=(if k=f then (k,v) :: r else (k,x) :: putF f v r) from rfl]
  by_cases hk:k=f
  ·rw [if_pos hk]
   subst hk
   exact ⟨by simp,fun g h=>by simpa using h⟩
  ·rw [if_neg hk]
   refine ⟨?_,fun g h=>?_⟩
   ·rw [List.map_cons]
    exact List.mem_cons_of_mem _ i1
   ·rw [List.map_cons] at h ⊢
    rcases List.mem_cons.mp h with e|e
    ·exact List.mem_cons.mpr (.inl e)
    ·exact List.mem_cons_of_mem _ (i2 g e)
theorem jvq (f:Str) (v:V):∀ fs:List (Str×V),(putF f v fs).length≤fs.length+1
 | []=>by simp [putF]
 | (k,x) :: r=>by
  have ih:=jvq f v r
  rw [show putF f v ((k,x) :: r)=(if k=f then (k,v) :: r else (k,x) :: putF f v r) from rfl]
  by_cases hk:k=f
  ·rw [if_pos hk,List.length_cons,List.length_cons];omega
  ·rw [if_neg hk,List.length_cons,List.length_cons];omega
theorem RelO.some_of {v:V} {o:Option Value} (r:RelO (some v) o):∃ u,o=some u∧RelV v u:=by
 cases o with
 | none=>exact (show False from r).elim
 | some u=>exact ⟨u,rfl,r⟩
theorem RelO.none_of {o:Option Value} (r:RelO none o):o=none:=by
 cases o with
 | none=>rfl
 | some u=>exact (show False from r).elim
theorem jfk {v:V} {u:Value} (r:RelV v u):PySem.W.handedIn u=true:=by
 cases v with
 | non=>cases (show u=Value.none from r);rfl
 | bl b=>cases (show u=Value.bool b from r);rfl
 | int i=>obtain ⟨t,e⟩:=(show ∃ t,u=Value.int i t from r);cases e;rfl
 | str x=>obtain ⟨t,e⟩:=(show ∃ t,u=Value.str x t from r);cases e;rfl
 | byt b=>obtain ⟨t,e⟩:=(show ∃ t,u=Value.bytes b t from r);cases e;rfl
 | flt b=>obtain ⟨t,e⟩:=(show ∃ t,u=Value.float b t from r);cases e;rfl
 | ref a=>cases (show u=Value.ref a from r);rfl
 | ty n=>cases (show u=Value.type n from r);rfl
section
variable {P:Program} {w:World} {H H':Hp} {h h':Heap} {a C dx:Addr} {fs fs':List (Str×V)}
theorem jvv (hok:HOk P w H h) (e:H a=some (.ins C dx fs)):∃ mA,ObjM h a dx C mA∧(∀ f,RelO (fs.lookup f) (mA f))∧PySem.Within mA (fs.map (·.1))∧fs.length≤1000∧H dx=some (.own a):=by
 obtain ⟨d,z,ne,ob,mA,n,r,q⟩:=(show ObjOk P w H h a (.ins C dx fs) from hok a _ e)
 exact ⟨mA,⟨ob,n,ne⟩,r,q,z,d⟩
end
structure Cls (K:PySem.W.Frag) (C:Addr):Prop where
 pg:PySem.W.plainGet K C Str.empty=true
 hd:PySem.W.hasDictIn K C=true
 po:PySem.W.plainOver K C=true
 sa:PySem.W.findIn K (.ref C) "__setattr__"=some (some (.builtin "object.__setattr__"))
theorem Cls.get {K:PySem.W.Frag} {C:Addr} (c:Cls K C) (f:Str):PySem.W.plainGet K C f=true:=c.pg
def NoAttr (K:PySem.W.Frag) (C:Addr) (f:Str):Prop:=PySem.W.findIn K (.ref C) f=some none
theorem NoAttr.taker {K:PySem.W.Frag} {C:Addr} {f:Str} (n:NoAttr K C f):PySem.W.takerIn K C f=some none:=by
 unfold PySem.W.takerIn
 rw [show PySem.W.findIn K (.ref C) f=some none from n]
 rfl
structure Meth (K:PySem.W.Frag) (C:Addr) (m:Str) (f:Addr):Prop where
 at_:PySem.W.findIn K (.ref C) m=some (some (.ref f))
 fn:PySem.W.isFn K (.ref f)=true
 kp:PySem.W.keepIn K (.ref f)=true
section
variable {X:Cx} {pins:List (Addr×Obj)} {σ:St} {H:Hp} {s:Shared} {a C dx:Addr} {fs:List (Str×V)} {f:Str} {v:V} {A:Around} {E:Value→Shared→Prop}
theorem jwd {b:Bool} {Q:Value→Shared→Prop} (I:Inv X pins σ H s) (e:H a=some (.ins C dx fs)) (c:Cls X.K C) (n:NoAttr X.K C f) (l:fs.lookup f=some v)
  (h:∀ u s',Inv X pins σ H s'→RelV v u→Q u s'):wpAny (model X.prog X.w) A (getAttr (.ref a) f b) Q E s:=by
 obtain ⟨mA,O,r,_,_,_⟩:=jvv I.hok e
 obtain ⟨u,hu,ru⟩:=RelO.some_of (v:=v) (o:=mA f) (by rw [← l];exact r f)
 exact jmw I.kIn O (c.get f) c.hd n hu (jfk ru) (h u _ (I.tok _) ru)
theorem jd5 {m:Str} {g:Addr} {pl:Sem Bool} {Q:Value×List Value→Shared→Prop} (I:Inv X pins σ H s) (e:H a=some (.ins C dx fs)) (c:Cls X.K C) (k:Meth X.K C m g) (l:fs.lookup m=none)
  (h:Q (.ref g,[.ref a]) s):wpAny (model X.prog X.w) A (getMethod (.ref a) m pl) Q E s:=by
 obtain ⟨mA,O,r,_,_,_⟩:=jvv I.hok e
 have hn:mA m=none:=RelO.none_of (by rw [← l];exact r m)
 exact jh7 I.kIn O (c.get m) k.at_ k.fn hn h
theorem jw9 {y:V} {u:Value} {Q:Unit→Shared→Prop} (I:Inv X pins σ H s) (e:H a=some (.ins C dx fs)) (c:Cls X.K C) (n:NoAttr X.K C f) (hl:fs.length < 1000) (ry:RelV y u)
  (h:∀ s',Inv X pins σ (upd H a (.ins C dx (putF f y fs))) s'→Q () s'):wpAny (model X.prog X.w) A (setAttr (.ref a) f u) Q E s:=by
 obtain ⟨mA,O,r,wi,_,ho⟩:=jvv I.hok e
 have hz:(fs.map (·.1)).length≤sizeLine:=by rw [List.length_map,sizeLine_eq];omega
 refine jm3 I.kIn O c.sa c.po n.taker c.hd wi hz fun h' O' sb=>h _ ?_
 have hd:∃ o,h'.get? dx=some o:=let ⟨o,_,_,e',_⟩:=O'.ns;⟨o,e'⟩
 refine I.write (x:=a) (e:=dx) (by rw [e];exact True.intro) (.inr ho) (fun b q hb z=>(sb.2 b hb).trans z) hd ?_
 refine ⟨by rw [jqb O.ne];exact ho,?_,O.ne,O'.obj,_,O'.ns,fun g=>?_,fun g hg=>?_⟩
 ·have:=jvq f y fs;omega
 ·show RelO ((putF f y fs).lookup g) (if g=f then some u else mA g)
  rw [jvp]
  by_cases q:g=f
  ·rw [if_pos q,if_pos q];exact ry
  ·rw [if_neg q,if_neg q];exact r g
 ·by_cases q:g=f
  ·rw [q];exact (jvt f y fs).1
  ·refine (jvt f y fs).2 g (wi g fun z=>hg ?_)
   show (if g=f then some u else mA g)=none
   rw [if_neg q];exact z
theorem Inv.made (I:Inv X pins σ H s):Inv X pins σ (upd (upd H s.heap.objs.size (.own (s.heap.objs.size+1))) (s.heap.objs.size+1) (.ins C s.heap.objs.size []))
  { s with heap:=(s.heap.push PySem.W.emptyDict).push (PySem.W.instObj C s.heap.objs.size)}:=by
 have e1:(s.heap.push PySem.W.emptyDict).get? s.heap.objs.size=some PySem.W.emptyDict:=Heap.get?_push_size s.heap rfl
 have e2:((s.heap.push PySem.W.emptyDict).push (PySem.W.instObj C s.heap.objs.size)).get? (s.heap.objs.size+1)=some (PySem.W.instObj C s.heap.objs.size):=by
  have:=Heap.get?_push_size (s.heap.push PySem.W.emptyDict) (o:=PySem.W.instObj C s.heap.objs.size) rfl
  rwa [Heap.size_push] at this
 have e3:(s.heap.push PySem.W.emptyDict).Ns s.heap.objs.size (fun _=>none):=⟨PySem.W.emptyDict,#[],_,e1,rfl,(fun e he=>absurd he (by simp)),fun _=>rfl⟩
 have I1:=I.laid (a:=s.heap.objs.size) (o:=.own (s.heap.objs.size+1)) (h':=s.heap.push PySem.W.emptyDict) (t':=s.toks) (fun b u q=>Heap.get?_push_of_some _ q) (Nat.le_refl _) ⟨_,e1⟩
 refine I1.laid (a:=s.heap.objs.size+1) (o:=.ins C s.heap.objs.size []) (t':=s.toks) (fun b u q=>Heap.get?_push_of_some _ q) (Nat.le_of_eq (Heap.size_push _ _)) ?_
 have ne:s.heap.objs.size≠s.heap.objs.size+1:=Nat.ne_of_lt (Nat.lt_succ_self _)
 refine ⟨by rw [jqb ne,jq1],Nat.zero_le _,ne,e2,fun _=>none,(Heap.Ns1.of_empty e3).at fun o q=>Heap.get?_push_of_some _ q,fun _=>True.intro,fun y hy=>absurd rfl hy⟩
theorem jn3 {prog:Program} {w:World} {env:Env} {e:Expr} {f:Str} {pos:Pos} {s:Shared} {Q:Value→Shared→Prop} (hb:attributeBase e f env (eval e env)=eval e env)
  (h:wpAny (model prog w) A (eval e env) (fun o s₁=>wpAny (model prog w) A (getAttr o f true) Q E s₁) E s):wpAny (model prog w) A (eval (.Attribute e f pos) env) Q E s:=
 Attribute_any_ h (by rw [arm_eval_Attribute,hb])
end
def tFld (K:PySem.W.Frag) (ta:TE) (f:Str):TE:=fun σ H Q=>ta σ H fun x H1=>∃ a C dx fs v,x=.ref a∧H1 a=some (.ins C dx fs)∧Cls K C∧NoAttr K C f∧fs.lookup f=some v∧Q v H1
def sFld (K:PySem.W.Frag) (ta tv:TE) (f:Str):TS:=fun D σ H=>tv σ H fun y H1=>ta σ H1 fun x H2=>∃ a C dx fs,x=.ref a∧H2 a=some (.ins C dx fs)∧Cls K C∧NoAttr K C f∧fs.length < 1000∧
 D.nx σ (upd H2 a (.ins C dx (putF f y fs)))
def InOp (X:Cx) (op:Operator) (rd:V→V→Hp→VK→Prop):Prop:=
 ∀ (pins:List (Addr×Obj)) (s:Shared) (σ:St) (H:Hp) (x y:V) (u v:Value) (Q:VK),Inv X pins σ H s→RelV x u→RelV y v→rd x y H Q→wpAny (model X.prog X.w) X.A (inplaceOp op u v) (EP X pins σ Q) X.xe s
def jwn (K:PySem.W.Frag) (ta tv:TE) (rd:V→V→Hp→VK→Prop) (f:Str):TS:=fun D σ H=>ta σ H fun x H1=>∃ a C dx fs v,x=.ref a∧H1 a=some (.ins C dx fs)∧Cls K C∧NoAttr K C f∧fs.lookup f=some v∧
 tv σ H1 fun y H2=>rd v y H2 fun z H3=>∃ dx' fs',H3 a=some (.ins C dx' fs')∧fs'.length < 1000∧D.nx σ (upd H3 a (.ins C dx' (putF f z fs')))
section
variable {X:Cx} {o e value:Expr} {f:Str} {pos pos' tpos:Pos} {ta tv:TE}
theorem jzw (he:PE X e ta) (hb:attributeBase e f X.env (eval e X.env)=eval e X.env):PE X (.Attribute e f pos) (tFld X.K ta f):=by
 intro pins s σ H Q I h
 refine jn3 hb (thn (he pins s σ H _ I h) fun u s1 ⟨x,H1,I1,rx,a,C,dx,fs,v,ex,ea,c,n,l,q⟩=>?_)
 subst ex
 obtain rfl:u=Value.ref a:=rx
 exact jwd I1 ea c n l fun u' s2 I2 ru=>⟨v,H1,I2,ru,q⟩
theorem jvj (ha:PE X o ta) (hv:PE X value tv) (hs:swapsWith value (some (.Attribute o f pos')) pos.line X.env=pure false):PS X (.Assign [.Attribute o f pos'] value pos) (sFld X.K ta tv f):=by
 intro pins s σ H D I h
 refine plainObj_wpAny_Assign_Attribute (thn (hv pins s σ H _ I h) fun u s1 ⟨y,H1,I1,ry,q⟩=>thn (ha pins s1 σ H1 _ I1 q) fun ov s2 ⟨x,H2,I2,rx,a,C,dx,fs,ex,ea,c,n,l,q2⟩=>?_) hs
 subst ex
 obtain rfl:ov=Value.ref a:=rx
 exact jw9 I2 ea c n l ry fun s3 I3=>⟨σ,_,I3,q2⟩
theorem jvi {op:Operator} {rd:V→V→Hp→VK→Prop} (ha:PE X o ta) (hv:PE X value tv) (hop:InOp X op rd):PS X (.AugAssign (.Attribute o f tpos) op value pos) (jwn X.K ta tv rd f):=by
 intro pins s σ H D I h
 refine wpAny_AugAssign_AttributeAny (thn (ha pins s σ H _ I h) fun ov s1 ⟨x,H1,I1,rx,a,C,dx,fs,v,ex,ea,c,n,l,q⟩=>?_)
 subst ex
 obtain rfl:ov=Value.ref a:=rx
 refine jwd I1 ea c n l fun u s2 I2 ru=>thn (hv pins s2 σ H1 _ I2 q) fun w3 s3 ⟨y,H2,I3,ry,q3⟩=>thn (hop pins s3 σ H2 v y u w3 _ I3 ru ry q3) fun w4 s4 ⟨z,H3,I4,rz,dx',fs',ea',l',q4⟩=>?_
 exact jw9 I4 ea' c n l' rz fun s5 I5=>⟨σ,_,I5,q4⟩
def rAdd:V→V→Hp→VK→Prop:=fun x y H Q=>∃ i j,x=.int i∧y=.int j∧Q (.int (i+j)) H
theorem jfi:InOp X .Add rAdd:=by
 rintro pins s σ H x y u v Q I rx ry ⟨i,j,rfl,rfl,q⟩
 obtain ⟨t,rfl⟩:=(show ∃ t,u=Value.int i t from rx)
 obtain ⟨t',rfl⟩:=(show ∃ t',v=Value.int j t' from ry)
 exact PyProof.Rows.iadd_int ⟨.int (i+j),H,I.tok _,⟨_,rfl⟩,q⟩
end
section
variable {X:Cx} {pins:List (Addr×Obj)} {σ:St} {H:Hp} {s:Shared} {A:Around} {E:Value→Shared→Prop} {Q:Value→Shared→Prop} {c:Value} {b:Bool}
inductive TyOf (K:PySem.W.Frag) (H:Hp):V→Value→Prop where
 | non:TyOf K H .non (.type "NoneType")
 | bl (x:Bool):TyOf K H (.bl x) (.type "bool")
 | int (i:Int):TyOf K H (.int i) (.type "int")
 | str (x:Str):TyOf K H (.str x) (.type "str")
 | flt (x:UInt64):TyOf K H (.flt x) (.type "float")
 | lst {a:Addr} {xs:List V} (e:H a=some (.lst xs)):TyOf K H (.ref a) (.type "list")
 | frz {a:Addr} {o:Obj} {xs:List V} (e:H a=some (.frz o (.lst xs))):TyOf K H (.ref a) (.type "list")
 | tup {a:Addr} {xs:List V} (e:H a=some (.tup xs)):TyOf K H (.ref a) (.type "tuple")
 | dK {a:Addr} {kvs:List (Key×V)} (e:H a=some (.dK kvs)):TyOf K H (.ref a) (.type "dict")
 | dT {a:Addr} {kvs:List (List Key×V)} (e:H a=some (.dT kvs)):TyOf K H (.ref a) (.type "dict")
 | ins {a C dx:Addr} {fs:List (Str×V)} (e:H a=some (.ins C dx fs)) (cl:Cls K C) (ha:PySem.W.findIn K (.ref C) "__class__"=some (some (.builtin "object.__class__")))
   (hn:PySem.W.specialIn K (.builtin "object.__class__") "__get__"=some (some (.builtin "getset_descriptor.__get__"))) (htk:PySem.W.takesIn K (.builtin "object.__class__")=some true)
   (hm:PySem.W.mroIn K C (.type "object")=some true):TyOf K H (.ref a) (.ref C)
theorem jfh {x:V} {u t:Value} (I:Inv X pins σ H s) (rx:RelV x u) (ty:TyOf X.K H x t) (e:PySem.W.kitOne X.K t c=some b) (h:∀ tk,Q (.bool b) { s with toks:=tk}) :
  wpAny (model X.prog X.w) A (call (.builtin "isinstance") [u,c]) Q E s:=by
 cases ty with
 | non=>cases (show u=Value.none from rx);exact PySem.W.kia_one PySem.W.kitx_none I.kIn True.intro e (fun z=>nomatch z) h
 | bl y=>cases (show u=Value.bool y from rx);exact PySem.W.kia_one PySem.W.kitx_bool I.kIn True.intro e (fun z=>nomatch z) h
 | int i=>obtain ⟨t,q⟩:=(show ∃ t,u=Value.int i t from rx);cases q;exact PySem.W.kia_one PySem.W.kitx_int I.kIn True.intro e (fun z=>nomatch z) h
 | str y=>obtain ⟨t,q⟩:=(show ∃ t,u=Value.str y t from rx);cases q;exact PySem.W.kia_one PySem.W.kitx_str I.kIn True.intro e (fun z=>nomatch z) h
 | flt y=>obtain ⟨t,q⟩:=(show ∃ t,u=Value.float y t from rx);cases q;exact PySem.W.kia_one PySem.W.kitx_float I.kIn True.intro e (fun z=>nomatch z) h
 | @lst a xs ea=>
  cases (show u=Value.ref a from rx)
  obtain ⟨_,_,n,_,h1⟩:=(show ObjOk X.prog X.w H s.heap a (.lst xs) from I.hok a _ ea)
  exact PySem.W.kia_one PySem.W.kitx_list I.kIn ⟨_,h1,rfl⟩ e (fun z=>nomatch z) h
 | @frz a ob xs ea=>
  cases (show u=Value.ref a from rx)
  obtain ⟨_,_,_,n,_,h1⟩:=(show ObjOk X.prog X.w H s.heap a (.frz ob (.lst xs)) from I.hok a _ ea)
  exact PySem.W.kia_one PySem.W.kitx_list I.kIn ⟨_,h1,rfl⟩ e (fun z=>nomatch z) h
 | @tup a xs ea=>
  cases (show u=Value.ref a from rx)
  obtain ⟨_,_,_,p⟩:=(show ObjOk X.prog X.w H s.heap a (.tup xs) from I.hok a _ ea)
  obtain ⟨o,h1,h2,_⟩:=p
  exact PySem.W.kia_one PySem.W.kitx_tuple I.kIn ⟨o,h1,h2⟩ e (fun z=>nomatch z) h
 | @dK a kvs ea=>
  cases (show u=Value.ref a from rx)
  obtain ⟨_,_,vs,_,p⟩:=(show ObjOk X.prog X.w H s.heap a (.dK kvs) from I.hok a _ ea)
  obtain ⟨o,es,ep,h1,h2,_⟩:=p
  exact PySem.W.kia_one PySem.W.kitx_dict I.kIn ⟨o,h1,h2.1⟩ e (fun z=>nomatch z) h
 | @dT a kvs ea=>
  cases (show u=Value.ref a from rx)
  obtain ⟨_,_,xs,_,o,es,ep,h1,h2,_⟩:=(show ObjOk X.prog X.w H s.heap a (.dT kvs) from I.hok a _ ea)
  exact PySem.W.kia_one PySem.W.kitx_dict I.kIn ⟨o,h1,h2.1⟩ e (fun z=>nomatch z) h
 | @ins a C dx fs ea cl ha hn htk hm=>
  cases (show u=Value.ref a from rx)
  obtain ⟨mA,O,_⟩:=jvv I.hok ea
  obtain ⟨od,J,_⟩:=O.look
  exact PySem.W.kia_one (PySem.W.kitx_own (cl.get _) cl.hd ha hn htk hm) I.kIn J e (fun z=>nomatch z) h
end
end L2
namespace L2
open PySem PySem.Spec PyProof.Rows
structure Room (k:Nat) (A:Around):Prop where
 hd:A.handled=none
 dp:A.depth+3 * k+5 < recursionLimit
 un:A.units+16 * k+200 < cLine
theorem Room.mono {j k:Nat} {A:Around} (r:Room k A) (h:j≤k):Room j A:=⟨r.hd,by have:=r.dp;omega,by have:=r.un;omega⟩
theorem Room.deeper {k:Nat} {A:Around} (r:Room (k+1) A) (env:Env):Room k (A.deeper env):=
 ⟨r.hd,by have:=r.dp;show A.depth+1+3 * k+5 < _;omega,by have:=r.un;show A.units+3+16 * k+200 < _;omega⟩
theorem jd0 {A:Around} {C:Addr} {us:List Value} {kw:List (Str×Value)}:(A.under (.builtin "type.__call__" ⟨.ref C :: us,kw⟩)).depth=A.depth+1:=by
 first|rfl|simp [Around.under,Code.weight,Code.isCreation,Code.isGuard,Code.isCaller,Code.frames,Code.isFrame,guardIds]
theorem jcz {A:Around} {C:Addr} {us:List Value} {kw:List (Str×Value)}:(A.under (.builtin "type.__call__" ⟨.ref C :: us,kw⟩)).units=A.units+1:=by
 first|rfl|simp [Around.under,Code.cUnits,Code.frames,Code.isFrame]
theorem Room.make {k:Nat} {A:Around} (r:Room (k+1) A) (C:Addr) (us:List Value) (kw:List (Str×Value)):Room k (A.under (.builtin "type.__call__" ⟨.ref C :: us,kw⟩)):=
 ⟨r.hd,by have:=r.dp;rw [jd0];omega,by have:=r.un;rw [jcz];omega⟩
theorem Room.depth {k:Nat} {A:Around} (r:Room k A):A.depth < recursionLimit:=by have:=r.dp;omega
theorem Room.units {k:Nat} {A:Around} (r:Room k A):A.units+64 < cLine:=by have:=r.un;omega
theorem Room.units0 {k:Nat} {A:Around} (r:Room k A):A.units < cLine:=by have:=r.un;omega
def tNil:TA:=fun _ H Q=>Q [] H
def jq3 (ta:TE) (tr:TA):TA:=fun σ H Q=>ta σ H fun x H1=>tr σ H1 fun xs H2=>Q (x :: xs) H2
section
variable {X:Cx} {e:Expr} {es:List Expr} {te:TE} {t:TA} {pos:Pos}
theorem jq4:PA X [] tNil:=fun _ _ _ _ H Q I h=>Calls.spliced_nil ⟨[],H,I,.nil,h⟩
theorem jq0 (ha:PE X e te) (hr:PA X es t) (hs:starEach (e :: es) X.env=(false,eval e X.env) :: starEach es X.env:=by rfl):PA X (e :: es) (jq3 te t):=by
 intro pos pins s σ H Q I h
 rw [hs]
 show wpAny _ _ (spliced ((false,eval e X.env) :: backTo pos (starEach es X.env))) _ _ s
 refine Calls.spliced_cons (thn (ha pins s σ H _ I h) fun u s1 ⟨x,H1,I1,r1,q1⟩=>?_)
 exact thn (hr pos pins s1 σ H1 _ I1 q1) fun us s2 ⟨xs,H2,I2,r2,q2⟩=>⟨x :: xs,H2,I2,.cons r1 r2,q2⟩
def tTup (t:TA):TE:=fun σ H Q=>t σ H fun xs H1=>xs.length≤sizeLine∧∀ p,H1 p=none→Q (.ref p) (upd H1 p (.tup xs))
def tLst (t:TA):TE:=fun σ H Q=>t σ H fun xs H1=>xs.length≤sizeLine∧∀ p,H1 p=none→Q (.ref p) (upd H1 p (.lst xs))
theorem jqu {x1} (h:PA X es t):PE X (.Tuple es x1 pos) (tTup t):=by
 intro pins s σ H Q I hq
 refine wpAny_Tuple_spliced (thn (h pos pins s σ H _ I hq) fun us s1 ⟨xs,H1,I1,r,z,q⟩=>⟨by rw [← r.length];exact z,?_⟩)
 have hf:H1 s1.heap.objs.size=none:=I1.hok.fresh (Nat.le_refl _)
 refine ⟨.ref s1.heap.objs.size,upd H1 s1.heap.objs.size (.tup xs),I1.laid (t':=s1.toks) (fun b u e=>Heap.get?_push_of_some _ e) (Nat.le_refl _) ?_,rfl,q _ hf⟩
 exact ⟨z,us,r,⟨_,Heap.get?_push_size _ rfl,rfl,_,rfl⟩⟩
theorem jx2 (h:PA X es t):PE X (.List es pos) (tLst t):=by
 intro pins s σ H Q I hq
 refine wpAny_List_spliced (thn (h pos pins s σ H _ I hq) fun us s1 ⟨xs,H1,I1,r,z,q⟩=>⟨by rw [← r.length];exact z,?_⟩)
 have hf:H1 s1.heap.objs.size=none:=I1.hok.fresh (Nat.le_refl _)
 refine ⟨.ref s1.heap.objs.size,upd H1 s1.heap.objs.size (.lst xs),I1.laid (t':=s1.toks) (fun b u e=>Heap.get?_push_of_some _ e) (Nat.le_refl _) ?_,rfl,q _ hf⟩
 exact ⟨z,us,0,r,Heap.get?_push_size _ rfl⟩
end
abbrev Sp:=List V→Hp→VK→XK→Prop
abbrev CXT:=List Env→Hp→Shared→XK→Value→Shared→Prop
structure Env0 (P:Program) (w:World) (K:PySem.W.Frag) (mg:Str→Option Value) (base:Heap) (A:Around) (outer:List Env) (s:Shared) (H:Hp):Prop where
 frames:A.frames=some outer
 mod:Mod K mg base
 bs:∀ b o,base.get? b=some o→s.heap.get? b=some o∧H b=none
 bsz:base.objs.size≤s.heap.objs.size
 funs:s.heap.FunFrames base outer
 frf:∀ b∈frs outer,H b=none
 hok:HOk P w H s.heap
 bare:AllBare s.gens
def CE (outer:List Env) (P:Program) (w:World) (H:Hp) (s:Shared) (Q:VK) (u:Value) (s':Shared):Prop:=
 ∃ v H',s'.os=s.os∧AllBare s'.gens∧Un (frs outer) [] H H' s.heap s'.heap∧HOk P w H' s'.heap∧RelV v u∧Q v H'
def CR (CX:CXT) (outer:List Env) (P:Program) (w:World) (H:Hp) (s:Shared) (Q:VK) (E:XK) (r:Result) (s':Shared):Prop:=
 match r with
 | .ok (.ret u)=>CE outer P w H s Q u s'
 | .ok _=>False
 | .error e=>CX outer H s E e s'
structure FnOk (P:Program) (w:World) (K:PySem.W.Frag) (mg:Str→Option Value) (base:Heap) (CX:CXT) (k:Nat) (f:Addr) (fd:FuncData) (ps:List Str) (sp:Sp):Prop where
 len:∀ vs H Q E,sp vs H Q E→vs.length=ps.length
 run:∀ (A:Around) (outer:List Env) (s:Shared) (H:Hp) (args:Args) (us:List Value) (vs:List V) (Q:VK) (E:XK),Room k A→Env0 P w K mg base A outer s H→BindsTo s fd args (ps.zip us)→Vals vs us→sp vs H Q E→
  codeAny (model P w) A (.call (.ref f) args) (CR CX outer P w H s Q E) s
theorem FnOk.imp {P:Program} {w:World} {K:PySem.W.Frag} {mg:Str→Option Value} {base:Heap} {CX:CXT} {k:Nat} {f:Addr} {fd:FuncData} {ps:List Str} {sp sp':Sp} (F:FnOk P w K mg base CX k f fd ps sp)
  (h:∀ vs H Q E,sp' vs H Q E→sp vs H Q E):FnOk P w K mg base CX k f fd ps sp':=
 ⟨fun vs H Q E q=>F.len vs H Q E (h _ _ _ _ q),fun A outer s H args us vs Q E hr he hb hv hs=>F.run A outer s H args us vs Q E hr he hb hv (h _ _ _ _ hs)⟩
theorem Env0.make {P:Program} {w:World} {K:PySem.W.Frag} {mg:Str→Option Value} {base:Heap} {A:Around} {outer:List Env} {s:Shared} {H:Hp} (e:Env0 P w K mg base A outer s H) (C:Addr) (us:List Value) (kw:List (Str×Value)) :
  Env0 P w K mg base (A.under (.builtin "type.__call__" ⟨.ref C :: us,kw⟩)) outer s H:=⟨by first|exact e.frames|(simpa [Around.under,Code.envs,Code.isFrame,pushEnvs] using e.frames),e.mod,e.bs,e.bsz,e.funs,e.frf,e.hok,e.bare⟩
section
variable {X:Cx} {pins:List (Addr×Obj)} {σ:St} {H:Hp} {s s':Shared}
theorem Inv.env0 (I:Inv X pins σ H s):Env0 X.prog X.w X.K X.mg X.base X.A X.stack s H:=
 ⟨I.ok.frames,I.ok.mod,I.bs,Nat.le_trans I.ok.bsz I.sz,I.stack,I.stkFree,I.hok,I.bare⟩
theorem Inv.after {Q:VK} {u:Value} (I:Inv X pins σ H s) (h:CE X.stack X.prog X.w H s Q u s'):EP X pins σ Q u s':=by
 obtain ⟨v,H',os,bare,un,hok,r,q⟩:=h
 obtain ⟨hh,g,d,t,os'⟩:=s'
 obtain rfl:os'=s.os:=os
 exact ⟨v,H',I.call (h':=hh) (g':=g) (d':=d) (t':=t) (ch:=[]) un hok bare (fun b z=>absurd z (by simp)),r,q⟩
end
def jx7 (sp:Sp) (dvs:List V) (E:XK) (t:TA):TE:=fun σ H Q=>t σ H fun vs H1=>sp (vs++dvs) H1 Q E
def jkz (C:Addr) (m:Str) (sp:Sp) (dvs:List V) (E:XK) (ta:TE) (t:TA):TE:=fun σ H Q=>ta σ H fun x H1=>∃ a dx fs,x=.ref a∧H1 a=some (.ins C dx fs)∧fs.lookup m=none∧
 t σ H1 fun vs H2=>sp (x :: (vs++dvs)) H2 Q E
def jlw (C:Addr) (sp:Sp) (dvs:List V) (E:XK) (t:TA):TE:=fun σ H Q=>t σ H fun vs H1=>∀ x dx,H1 x=none→H1 dx=none→dx≠x→
 sp (.ref x :: (vs++dvs)) (upd (upd H1 dx (.own x)) x (.ins C dx [])) (fun v H2=>v=.non∧Q (.ref x) H2) E
def Binds (K:PySem.W.Frag) (fd:FuncData) (ps:List Str) (ds:List Value):Prop:=
 ∀ (s:Shared) (us:List Value),K.In s.heap→(us++ds).length=ps.length→BindsTo s fd ⟨us,[]⟩ (ps.zip (us++ds))
theorem Binds.all {K:PySem.W.Frag} {fd:FuncData} {ps:List Str} (h:∀ us:List Value,us.length=ps.length→bindArgs fd ⟨us,[]⟩=pure (ps.zip us)):Binds K fd ps []:=fun s us _ hl=>by
 rw [List.append_nil] at hl ⊢
 exact .of_eq (h us hl)
def jw0 (CX:CXT) (X:Cx) (E:XK):Prop:=∀ (pins:List (Addr×Obj)) (σ:St) (H:Hp) (s:Shared) (e:Value) (s':Shared),Inv X pins σ H s→CX X.stack H s E e s'→X.xe e s'
section
variable {X:Cx} {CX:CXT} {k:Nat} {f C:Addr} {fd:FuncData} {ps:List Str} {sp:Sp} {dvs:List V} {ds:List Value} {E:XK} {x m:Str} {p pos apos:Pos} {e o:Expr} {es:List Expr} {ta:TE} {t:TA}
theorem ji4 {pins:List (Addr×Obj)} {σ:St} {H:Hp} {s:Shared} {Q:VK} {us:List Value} {vs:List V} (F:FnOk X.prog X.w X.K X.mg X.base CX k f fd ps sp) (hr:Room k X.A) (hb:Binds X.K fd ps ds) (hd:Vals dvs ds) (hx:jw0 CX X E)
  (I:Inv X pins σ H s) (r:Vals vs us) (h:sp (vs++dvs) H Q E):wpAny (model X.prog X.w) X.A (call (.ref f) us) (EP X pins σ Q) X.xe s:=by
 have r2:Vals (vs++dvs) (us++ds):=r.append hd
 have hl:(us++ds).length=ps.length:=by rw [← r2.length];exact F.len _ _ _ _ h
 refine wpAny_call (codeAny_mono (F.run X.A X.stack s H ⟨us,[]⟩ (us++ds) (vs++dvs) Q E hr I.env0 (hb s us I.kIn hl) r2 h) fun r s' hq=>?_)
 cases r with
 | error e=>exact hx pins σ H s e s' I hq
 | ok fl=>
  cases fl with
  | ret u=>exact I.after hq
  | next=>exact False.elim hq
  | brk=>exact False.elim hq
  | cont=>exact False.elim hq
theorem jqp (F:FnOk X.prog X.w X.K X.mg X.base CX k f fd ps sp) (hr:Room k X.A) (hg:Gl X x) (hm:X.mg x=some (.ref f)) (hk:PySem.W.keepIn X.K (.ref f)=true) (hb:Binds X.K fd ps ds) (hd:Vals dvs ds) (hx:jw0 CX X E)
  (ha:PA X (e :: es) t) (hdb:(x == ("__debug__":Str))=false:=by decide) (he:starEach (e :: es) X.env=(false,eval e X.env) :: starEach es X.env:=by rfl) (hpl:(backTo pos (starEach es X.env)).any (·.1)=false:=by rfl) :
  PE X (.Call (.Name x p) (e :: es) [] pos) (jx7 sp dvs E t):=by
 intro pins s σ H Q I h
 refine wpAny_Call_Name_kw (jk9 I hg hm ?_ hdb)
 refine PySem.W.callWith_K (h₀:=X.base) I.ok.mod.kin hk (thn (ha pos pins s σ H _ I h) fun us s1 ⟨vs,H1,I1,r,q⟩=>⟨I1.kIn,?_⟩) he hpl
 exact ji4 F hr hb hd hx I1 r q
theorem jza {pl:Sem Bool} (he:PE X o ta) (c:Cls X.K C) (hm:Meth X.K C m f) (F:FnOk X.prog X.w X.K X.mg X.base CX k f fd ps sp) (hr:Room k X.A) (hb:Binds X.K fd ps ds) (hd:Vals dvs ds) (hx:jw0 CX X E) (ha:PA X (e :: es) t)
  (hst:starEach (e :: es) X.env=(false,eval e X.env) :: starEach es X.env:=by rfl) (hpl:(backTo pos (starEach es X.env)).any (·.1)=false:=by rfl)
  (ht:eval (.Call (.Attribute o m apos) (e :: es) [] pos) X.env=(do
   let ov ← eval o X.env
   standAt apos.atName
   let (f,first) ← holding [ov] (getMethod ov m pl)
   callWith pos f first (backTo pos (starEach (e :: es) X.env)) (backToKw pos (keywordEach [] X.env))):=by rfl) :
  PE X (.Call (.Attribute o m apos) (e :: es) [] pos) (jkz C m sp dvs E ta t):=by
 intro pins s σ H Q I h
 refine PySem.W.methodCall_KW (pl:=pl) (thn (he pins s σ H _ I h) fun u s1 ⟨x,H1,I1,rx,a,dx,fs,ex,ea,l,q⟩=>?_) ht
 subst ex
 obtain rfl:u=Value.ref a:=rx
 refine jd5 I1 ea c hm l ?_
 refine PySem.W.callWith_K (first:=[.ref a]) (h₀:=X.base) I.ok.mod.kin hm.kp (thn (ha pos pins s1 σ H1 _ I1 q) fun us s2 ⟨vs,H2,I2,r,q2⟩=>⟨I2.kIn,?_⟩) hst hpl
 exact ji4 (us:=.ref a :: us) (vs:=.ref a :: vs) F hr hb hd hx I2 (.cons rfl r) q2
structure Mk (K:PySem.W.Frag) (C f:Addr):Prop where
 makes:PySem.W.makesIn K C=true
 init:PySem.W.findIn K (.ref C) "__init__"=some (some (.ref f))
 fn:PySem.W.isFn K (.ref f)=true
 kp:PySem.W.keepIn K (.ref C)=true
theorem jgj {pins:List (Addr×Obj)} {σ:St} {H:Hp} {s:Shared} {Q:VK} {us:List Value} {vs:List V} (M:Mk X.K C f) (F:FnOk X.prog X.w X.K X.mg X.base CX k f fd ps sp) (hr:Room (k+1) X.A) (hb:Binds X.K fd ps ds) (hd:Vals dvs ds)
  (hx:jw0 CX X E) (I:Inv X pins σ H s) (r:Vals vs us)
  (h:∀ x dx,H x=none→H dx=none→dx≠x→sp (.ref x :: (vs++dvs)) (upd (upd H dx (.own x)) x (.ins C dx [])) (fun v H2=>v=.non∧Q (.ref x) H2) E) :
  wpAny (model X.prog X.w) X.A (call (.ref C) us) (EP X pins σ Q) X.xe s:=by
 have hq:=h (s.heap.objs.size+1) s.heap.objs.size (I.hok.fresh (Nat.le_succ _)) (I.hok.fresh (Nat.le_refl _)) (Nat.ne_of_lt (Nat.lt_succ_self _))
 have I2:=Inv.made (C:=C) I
 have r2:Vals (V.ref (s.heap.objs.size+1) :: (vs++dvs)) (Value.ref (s.heap.objs.size+1) :: (us++ds)):=.cons rfl (r.append hd)
 have hl:(Value.ref (s.heap.objs.size+1) :: us++ds).length=ps.length:=by
  have e:=r2.length
  rw [F.len _ _ _ _ hq] at e
  exact e.symm
 refine wpAny_call (jgz (f:=f) I.kIn M.makes M.init (beq_iff_eq.mp M.fn) (codeAny_mono (F.run _ X.stack _ _ ⟨Value.ref (s.heap.objs.size+1) :: us,[]⟩ (Value.ref (s.heap.objs.size+1) :: (us++ds)) _ _ E (hr.make C us [])
  (I2.env0.make C us []) (hb _ (Value.ref (s.heap.objs.size+1) :: us) I2.kIn hl) r2 hq) fun r s' hq'=>?_))
 cases r with
 | error e=>exact hx pins σ _ _ e s' I2 hq'
 | ok fl=>
  cases fl with
  | ret u=>
   obtain ⟨v,H',I3,rv,ev,q3⟩:=I2.after hq'
   subst ev
   exact ⟨rv,⟨V.ref (s.heap.objs.size+1),H',I3,rfl,q3⟩⟩
  | next=>exact False.elim hq'
  | brk=>exact False.elim hq'
  | cont=>exact False.elim hq'
theorem jey (M:Mk X.K C f) (F:FnOk X.prog X.w X.K X.mg X.base CX k f fd ps sp) (hr:Room (k+1) X.A) (hg:Gl X x) (hm:X.mg x=some (.ref C)) (hb:Binds X.K fd ps ds) (hd:Vals dvs ds) (hx:jw0 CX X E)
  (ha:PA X (e :: es) t) (hdb:(x == ("__debug__":Str))=false:=by decide) (he:starEach (e :: es) X.env=(false,eval e X.env) :: starEach es X.env:=by rfl) (hpl:(backTo pos (starEach es X.env)).any (·.1)=false:=by rfl) :
  PE X (.Call (.Name x p) (e :: es) [] pos) (jlw C sp dvs E t):=by
 intro pins s σ H Q I h
 refine wpAny_Call_Name_kw (jk9 I hg hm ?_ hdb)
 refine PySem.W.callWith_K (h₀:=X.base) I.ok.mod.kin M.kp (thn (ha pos pins s σ H _ I h) fun us s1 ⟨vs,H1,I1,r,q⟩=>⟨I1.kIn,?_⟩) he hpl
 exact jgj M F hr hb hd hx I1 r q
end
section
variable {X:Cx} {CX:CXT} {k:Nat} {f C:Addr} {fd:FuncData} {ps ks:List Str} {sp:Sp} {E:XK} {x m:Str} {p pos apos kpos:Pos} {e o:Expr} {es:List Expr} {kws:List Keyword} {te ta:TE} {t tk:TA} {nm:Option Str}
variable {g:List Value→List Value→List Value} {gV:List V→List V→List V}
end
structure FnScope (N P:List Str) (sc:Scope):Prop where
 kind:sc.kind=.function
 co:sc.isCoroutine=false
 gen:sc.isGenerator=false
 nd:N.Nodup
 pre:N.take P.length=P
 par:∀ x∈P,sc.names.lookup x=some .local∨sc.names.lookup x=some .cell
 nofree:∀ y∈sc.names,y.2≠.free
theorem jaw {kindOf:Str→Option NameKind} {x:Str}:∀ {binds:List (Str×Value)} {m:Str→Option Value},(∀ v,(x,v)∉binds)→bindL kindOf binds m x=m x
 | [],_,_=>rfl
 | (n,v) :: r,m,h=>by
  unfold bindL
  rw [jaw fun w hw=>h w (List.mem_cons_of_mem _ hw)]
  split
  ·have:x≠n:=by rintro rfl;exact h v List.mem_cons_self
   simp [this]
  ·rfl
theorem jay {kindOf:Str→Option NameKind} {x:Str}:∀ {binds:List (Str×Value)} {m:Str→Option Value},(∀ v,(x,v)∉binds)→bindC kindOf binds m x=m x
 | [],_,_=>rfl
 | (n,v) :: r,m,h=>by
  unfold bindC
  rw [jay fun w hw=>h w (List.mem_cons_of_mem _ hw)]
  split
  ·rfl
  ·have:x≠n:=by rintro rfl;exact h v List.mem_cons_self
   simp [this]
theorem jax {kindOf:Str→Option NameKind} {x:Str} {v:Value}:∀ {P:List Str} {vs:List Value} {i:Nat} {m:Str→Option Value},P.Nodup→P[i]?=some x→vs[i]?=some v→kindOf x=some .local→
  bindL kindOf (P.zip vs) m x=some v
 | [],_,_,_,_,h,_,_=>by simp at h
 | _ :: _,[],_,_,_,_,h,_=>by simp at h
 | p :: P,w :: vs,0,m,nd,h1,h2,hk=>by
  simp at h1 h2;subst h1;subst h2
  show bindL kindOf ((p,w) :: P.zip vs) m p=_
  unfold bindL
  rw [jaw fun v hv=>(List.nodup_cons.mp nd).1 (List.of_mem_zip hv).1,if_pos hk]
  simp
 | p :: P,w :: vs,i+1,m,nd,h1,h2,hk=>by
  show bindL kindOf ((p,w) :: P.zip vs) m x=_
  unfold bindL
  exact jax (i:=i) (List.nodup_cons.mp nd).2 (by simpa using h1) (by simpa using h2) hk
theorem jaz {kindOf:Str→Option NameKind} {x:Str} {v:Value}:∀ {P:List Str} {vs:List Value} {i:Nat} {m:Str→Option Value},P.Nodup→P[i]?=some x→vs[i]?=some v→kindOf x≠some .local→
  bindC kindOf (P.zip vs) m x=some v
 | [],_,_,_,_,h,_,_=>by simp at h
 | _ :: _,[],_,_,_,_,h,_=>by simp at h
 | p :: P,w :: vs,0,m,nd,h1,h2,hk=>by
  simp at h1 h2;subst h1;subst h2
  show bindC kindOf ((p,w) :: P.zip vs) m p=_
  unfold bindC
  rw [jay fun v hv=>(List.nodup_cons.mp nd).1 (List.of_mem_zip hv).1,if_neg hk]
  simp
 | p :: P,w :: vs,i+1,m,nd,h1,h2,hk=>by
  show bindC kindOf ((p,w) :: P.zip vs) m x=_
  unfold bindC
  exact jaz (i:=i) (List.nodup_cons.mp nd).2 (by simpa using h1) (by simpa using h2) hk
def start (N:List Str) (vs:List V):St:=vs.map some++List.replicate (N.length - vs.length) none
def cxOf (CX:CXT) (P:Program) (w:World) (K:PySem.W.Frag) (mg:Str→Option Value) (base:Heap) (N:List Str) (qual:Str) (scope:Scope) (f:Addr) (cd:Value) (A:Around) (outer:List Env) (s:Shared) (H:Hp) (E:XK):Cx where
 prog:=P
 w:=w
 K:=K
 mg:=mg
 base:=base
 A:=A.deeper (envOfC qual scope s.heap.objs.size f cd)
 N:=N
 s₀:=s
 H₀:=H
 env:=envOfC qual scope s.heap.objs.size f cd
 outer:=outer
 stack:=envOfC qual scope s.heap.objs.size f cd :: outer
 ex:=[]
 calm:=true
 fn:=fun _=>true
 pn:=[]
 xe:=fun e s'=>wpAny (model P w) (A.deeper (envOfC qual scope s.heap.objs.size f cd)) (leaving (envOfC qual scope s.heap.objs.size f cd) e) (fun _ s''=>CX outer H s E e s'') (fun e' s''=>CX outer H s E e' s'') s'
theorem jci {sc:Scope} {n:Nat} {x:Str} (h:sc.names.lookup x=some .cell):∃ c,(cellsFrom n sc.names []).lookup x=some c:=by
 have q:=PySem.W.cellsFrom_some sc.names n [] (.inl h)
 exact Option.isSome_iff_exists.mp q
theorem jzz {CX:CXT} {P:Program} {w:World} {K:PySem.W.Frag} {mg:Str→Option Value} {base:Heap} {N ps:List Str} {qual:Str} {scope:Scope} {f:Addr} {cd:Value} {A:Around} {outer:List Env} {s s1:Shared} {H:Hp} {E:XK} {us:List Value} {vs:List V}
  (S:FnScope N ps scope) (hd:A.handled=none) (e0:Env0 P w K mg base A outer s H) (hl:vs.length=ps.length) (r:Vals vs us)
  (x:InCallC s s.heap.objs.size (bindL (envOfC qual scope s.heap.objs.size f cd).kindOf (ps.zip us) fun _=>none) (cellsFrom (s.heap.objs.size+1) scope.names []) (bindC (envOfC qual scope s.heap.objs.size f cd).kindOf (ps.zip us) fun _=>none) s1) :
  Inv (cxOf CX P w K mg base N qual scope f cd A outer s H E) [] (start N vs) H s1:=by
 have hpl:ps.length≤N.length:=by have:=congrArg List.length S.pre;rw [List.length_take] at this;omega
 obtain ⟨h1,tk,rfl,hk⟩:=x.done
 have noA:∀ b:Addr,b∉(cxOf CX P w K mg base N qual scope f cd A outer s H E).ex:=fun b z=>absurd (show b∈([]:List Addr) from z) (by simp)
 refine ⟨⟨e0.mod,S.kind,rfl,rfl,Nat.le_refl _,fun y z c h1 h2=>?_,fun y hy=>?_,fun y c _ h=>?_,fun _=>hd,Around.frames_deeper e0.frames,.inr ⟨rfl,rfl⟩,fun b z=>absurd z (noA b),e0.bs,e0.bsz,fun b _ _=>noA b,fun b z=>absurd z (noA b),e0.funs,e0.frf⟩,
  rfl,e0.bare,Un.kept hk,⟨_,x.toInCall.ns,fun i y v h1 h2 h3=>?_⟩,fun y c h=>⟨_,x.cell y c h⟩,e0.hok.fresh (Nat.le_refl _),fun y c h=>?_,fun p hp=>absurd (show p∈([]:List (Addr×Obj)) from hp) (by simp),e0.hok.kept hk,?_⟩
 ·exact name_of_addr x.apart (PySem.mem_of_lookup h1) (PySem.mem_of_lookup h2)
 ·have hy:scope.names.lookup y=some .cell∨scope.names.lookup y=some .free:=hy
  rcases hy with hy|hy
  ·exact jci hy
  ·exact absurd rfl (S.nofree _ (PySem.mem_of_lookup hy))
 ·exact Nat.le_of_lt (x.above y c (PySem.mem_of_lookup h))
 ·have hi:i < vs.length:=by
   unfold start at h2
   by_cases hi:i < vs.length
   ·exact hi
   ·rw [List.getElem?_append_right (by simpa using hi)] at h2
    rw [List.getElem?_replicate] at h2
    split at h2<;>cases h2
  have ha:vs[i]?=some v:=by
   unfold start at h2
   rw [List.getElem?_append_left (by simpa using hi),List.getElem?_map] at h2
   cases e:vs[i]? with
   | none=>rw [e] at h2;cases h2
   | some a=>rw [e] at h2;cases h2;rfl
  obtain ⟨u,hu,rv⟩:=r.get ha
  have hp:ps[i]?=some y:=by
   rw [← S.pre,List.getElem?_take_of_lt (by omega)];exact h1
  have ndP:ps.Nodup:=by rw [← S.pre];exact S.nd.sublist (List.take_sublist _ _)
  refine ⟨u,rv,?_⟩
  rcases S.par y (List.mem_of_getElem? hp) with k|k
  ·exact .inl ⟨k,jax ndP hp hu k⟩
  ·obtain ⟨c,e⟩:=jci (n:=s.heap.objs.size+1) k
   refine .inr ⟨.inl k,c,e,?_⟩
   have q:=x.cell y c e
   rw [jaz ndP hp hu (by show scope.names.lookup y≠_;rw [k];decide)] at q
   exact q
 ·exact e0.hok.fresh (Nat.le_of_lt (x.above y c (PySem.mem_of_lookup h)))
 ·unfold start
  show _=N.length
  rw [List.length_append,List.length_map,List.length_replicate]
  omega
theorem jrv {CX:CXT} {P:Program} {w:World} {K:PySem.W.Frag} {mg:Str→Option Value} {base:Heap} {k:Nat} {f:Addr} {name qual:Str} {params:Arguments} {body:List Stmt} {scope:Scope} {dV kV doc pm cdv ct oc:Value} {an od:Option Addr}
  {osl:Array (Option Value)} {N ps:List Str} {sp:Sp} (lk:K.lookup f=some ⟨oc,od,.func (PySem.W.fnOf name qual params body scope dV kV doc pm an cdv ct),osl⟩) (hcd:PySem.W.codeIn K cdv qual=true) (S:FnScope N ps scope)
  (len:∀ vs H Q E,sp vs H Q E→vs.length=ps.length)
  (hbody:∀ (A:Around) (outer:List Env) (s:Shared) (H:Hp) (vs:List V) (Q:VK) (E:XK),Room k (A.deeper (envOfC qual scope s.heap.objs.size f cdv))→sp vs H Q E→
   ∃ t,PSs (cxOf CX P w K mg base N qual scope f cdv A outer s H E) body t∧t { nx:=fun _ H'=>Q .non H',rt:=Q} (start N vs) H) :
  FnOk P w K mg base CX (k+1) f (PySem.W.fnOf name qual params body scope dV kV doc pm an cdv ct) ps sp:=by
 refine ⟨len,fun A outer s H args us vs Q E hr e0 hb r hsp=>?_⟩
 have hl:=len _ _ _ _ hsp
 have KX:K.In s.heap:=e0.mod.kin.keeps fun b o e=>(e0.bs b o e).1
 have lim:s.heap.NoLimit:=e0.mod.nolimit.keeps fun b o e=>(e0.bs b o e).1
 have hkind:∀ y∈ps.zip us,scope.names.lookup y.1=some .local∨(scope.names.lookup y.1=some .cell∧((cellsFrom (s.heap.objs.size+1) scope.names []).lookup y.1).isSome=true):=fun ⟨n,v⟩ hy=>by
  rcases S.par n (List.of_mem_zip hy).1 with q|q
  ·exact .inl q
  ·exact .inr ⟨q,PySem.W.cellsFrom_some _ _ _ (.inl q)⟩
 refine codeAny_call_function hr.depth (KX _ _ lk) rfl S.co S.gen rfl (PySem.W.codeRec_of KX hcd) (hb _ _ _ _ ?_)
 refine wpAny_newFunctionEnv_cells S.kind hkind fun env he s1 x=>?_
 subst he
 refine ⟨lim.keeps x.toInCall.keep,codeAny_func ?_⟩
 obtain ⟨t,ht,hq⟩:=hbody A outer s H vs Q E (hr.deeper _) hsp
 have I:Inv (cxOf CX P w K mg base N qual scope f cdv A outer s H E) [] (start N vs) H s1:=jzz S hr.hd e0 hl r x
 refine wpAny_mono (ht [] s1 (start N vs) H _ I hq) (fun fl s' hs=>?_) fun e s' hs=>hs
 have fin:∀ {σ':St} {H':Hp} {v:V} {u:Value},Inv (cxOf CX P w K mg base N qual scope f cdv A outer s H E) [] σ' H' s'→RelV v u→Q v H'→CE outer P w H s Q u s':=
  fun {σ' H' v u} J rv q=>⟨v,H',J.os,J.bare,J.base,J.hok,rv,q⟩
 cases fl with
 | ret u=>
  obtain ⟨v,σ',H',J,rv,q⟩:=hs
  exact fin J rv q
 | next=>
  obtain ⟨σ',H',J,q⟩:=hs
  exact fin (v:=V.non) (u:=Value.none) J rfl q
 | brk=>
  obtain ⟨_,_,_,q⟩:=hs
  exact False.elim q
 | cont=>
  obtain ⟨_,_,_,q⟩:=hs
  exact False.elim q
end L2
namespace L2
open PySem PySem.Spec PyProof.Rows
section
variable {X:Cx} {x:Str} {p pos:Pos} {e:Expr} {es:List Expr} {t:TA} {id T:String} {r:List V→Hp→VK→Prop}
def tCB (r:List V→Hp→VK→Prop) (t:TA):TE:=fun σ H Q=>t σ H fun vs H1=>r vs H1 Q
theorem jqe (hc:jki X (.builtin id) r) (hg:Gl X x) (hm:X.mg x=none) (hv:bootBuiltins x=some (.builtin id)) (ha:PA X (e :: es) t) (hn:x≠"__name__":=by decide) (hdb:(x == ("__debug__":Str))=false:=by decide)
  (he:starEach (e :: es) X.env=(false,eval e X.env) :: starEach es X.env:=by rfl) (hpl:(backTo pos (starEach es X.env)).any (·.1)=false:=by rfl):PE X (.Call (.Name x p) (e :: es) [] pos) (tCB r t):=by
 intro pins s σ H Q I h
 refine wpAny_Call_Name_kw (jvs I hg hm hv ?_ hn hdb)
 exact PyProof.Rows.callWith_builtin1 (thn (ha pos pins s σ H _ I h) fun us s1 ⟨vs,H1,I1,r1,q1⟩=>hc pins s1 σ H1 vs us Q I1 r1 q1) he hpl
theorem jz6 (hc:jki X (.type T) r) (hg:Gl X x) (hm:X.mg x=none) (hv:bootBuiltins x=some (.type T)) (ha:PA X (e :: es) t) (hn:x≠"__name__":=by decide) (hdb:(x == ("__debug__":Str))=false:=by decide)
  (he:starEach (e :: es) X.env=(false,eval e X.env) :: starEach es X.env:=by rfl) (hpl:(backTo pos (starEach es X.env)).any (·.1)=false:=by rfl):PE X (.Call (.Name x p) (e :: es) [] pos) (tCB r t):=by
 intro pins s σ H Q I h
 refine wpAny_Call_Name_kw (jvs I hg hm hv ?_ hn hdb)
 exact PyProof.Rows.callWith_type1 (thn (ha pos pins s σ H _ I h) fun us s1 ⟨vs,H1,I1,r1,q1⟩=>hc pins s1 σ H1 vs us Q I1 r1 q1) he hpl
end
end L2
namespace HT
open PySem PyProof.Rows
section
open PySem.SeqAt
open PySem.AutoSeq1 (wpAny_loadPart')
open PySem.MeetsSeq PySem.MeetsSeq2 PySem.MeetsSeq3
end
section
variable {prog:Program} {w:World} {A:Around} {E:Value→Shared→Prop} {s:Shared}
theorem cat_tup {t b:Addr} {vs ws:List Value} {Q:Value→Shared→Prop} (ht:IsTup s.heap t vs.toArray) (hb:IsTup s.heap b ws.toArray) (hv:vs≠[])
  (h1:ws=[]→Q (.ref t) s) (h2:ws≠[]→Q (.ref s.heap.objs.size) { s with heap:=s.heap.push { cls:=.type "tuple",data:=.seq (vs++ws).toArray}})
  (hsz:vs.length+ws.length≤sizeLine):wpAny (model prog w) A (binaryOp .Add (.ref t) (.ref b)) Q E s:=by
 obtain ⟨⟨cls,dd,data,sl⟩,ho,hc,n,hd⟩:=id ht
 obtain ⟨⟨cls2,dd2,data2,sl2⟩,ho2,hc2,n2,hd2⟩:=id hb
 simp only at hc hd hc2 hd2
 subst hc hd hc2 hd2
 have e:vs.toArray++ws.toArray=(vs++ws).toArray:=by simp
 by_cases hw:ws=[]
 ·exact concat_meets ⟨_,ho,rfl⟩ ⟨_,ho2,rfl⟩ noFill_tuple_add seq_tuple_add PySem.F.slot_tuple_add PySem.F.entry_tuple_add (PySem.F.args_tuple_add_2 _ _)
   (tuple_addW1 t b vs.toArray ws.toArray n n2 dd dd2 sl sl2 (by simpa using hv) (by simp [hw])) ⟨ho,ho2,h1 hw⟩
 ·refine concat_meets ⟨_,ho,rfl⟩ ⟨_,ho2,rfl⟩ noFill_tuple_add seq_tuple_add PySem.F.slot_tuple_add PySem.F.entry_tuple_add (PySem.F.args_tuple_add_2 _ _)
   (tuple_addW2 t b vs.toArray ws.toArray n n2 dd dd2 sl sl2 (by simpa using hv) (by simpa using hw) (by rw [List.size_toArray,List.size_toArray];exact hsz)) ⟨ho,ho2,?_⟩
  rw [e]
  exact h2 hw
def sIx (n d:Nat):Option Int→Nat
 | none=>d
 | some v=>if v < 0 then (v+(n:Int)).toNat else min v.toNat n
theorem sIx_none (n d:Nat):sIx n d none=d:=rfl
theorem sIx_nat (n d k:Nat):sIx n d (some (k:Int))=min k n:=by
 show (if (k:Int) < 0 then ((k:Int)+(n:Int)).toNat else min (k:Int).toNat n)=min k n
 rw [if_neg (by omega),Int.toNat_natCast]
theorem jpl (n d:Nat) (hd:d≤n) (o:Option Int):sIx n d o≤n:=by
 cases o with
 | none=>exact hd
 | some v=>
  show (if v < 0 then (v+(n:Int)).toNat else min v.toNat n)≤n
  by_cases hv:v < 0
  ·rw [if_pos hv];omega
  ·rw [if_neg hv];exact Nat.min_le_right _ _
theorem jfx (v:Int) (n d:Nat):(if v < 0 then max (v+(n:Int)) 0 else min v (n:Int))=((sIx n d (some v):Nat):Int):=by
 show (if v < 0 then max (v+(n:Int)) 0 else min v (n:Int))=(((if v < 0 then (v+(n:Int)).toNat else min v.toNat n):Nat):Int)
 by_cases hv:v < 0
 ·simp only [if_pos hv];omega
 ·simp only [if_neg hv];omega
theorem jd9 (lo hi:Option Int) (n:Nat):Builtin.Slice.sliceAdjust lo hi 1 (n:Int)=(((sIx n 0 lo:Nat):Int),((sIx n n hi:Nat):Int)):=by
 have h1:¬ ((1:Int) < 0):=by omega
 unfold Builtin.Slice.sliceAdjust
 simp only [h1,if_false]
 refine Prod.ext ?_ ?_
 ·cases lo with
  | none=>rfl
  | some v=>exact jfx v n 0
 ·cases hi with
  | none=>rfl
  | some v=>exact jfx v n n
theorem jcw (i j:Nat):Builtin.Slice.slicePlaces (i:Int) (j:Int) 1=j - i:=by
 unfold Builtin.Slice.slicePlaces
 have h1:(1:Int) > 0:=by omega
 simp only [h1,if_true,Int.ediv_one]
 split<;>omega
theorem jw7 {v:Value} {o:Option Int} {Q:Option Int→Shared→Prop} (p:IsPart v o) (h:Q o s):wpAny (model prog w) A (Builtin.Slice.slicePartIndex v) Q E s:=by
 cases p with
 | none=>exact slicePart_none h
 | int i t=>exact slicePart_int h
theorem jjj {sl:Addr} {vl vu:Value} {lo hi:Option Int} {n:Nat} {Q:Int×Int×Nat→Shared→Prop} (hs:s.heap.IsSliceOf sl vl vu .none) (pl:IsPart vl lo) (pu:IsPart vu hi)
  (h:Q (((sIx n 0 lo:Nat):Int),1,sIx n n hi - sIx n 0 lo) s):wpAny (model prog w) A (Builtin.Slice.sliceApplied (.ref sl) (pure (n:Int))) Q E s:=by
 obtain ⟨os,hos,hcs,hds⟩:=id hs
 unfold Builtin.Slice.sliceApplied Builtin.Slice.sliceFields
 refine wpAny_bind (wpAny_bind (wpAny_field hos hds (x:=vl) rfl (wpAny_bind (wpAny_field hos hds (x:=vu) rfl (wpAny_bind (wpAny_field hos hds (x:=.none) rfl (wpAny_pure ?_)))))))
 refine wpAny_bind (slicePart_none ?_)
 show wpAny _ _ (if ((1:Int) == 0)=true then _ else _) _ _ s
 rw [if_neg (by decide)]
 refine wpAny_bind (jw7 pl (wpAny_bind (jw7 pu (wpAny_bind (wpAny_pure ?_)))))
 show wpAny _ _ (match Builtin.Slice.sliceAdjust lo hi 1 (n:Int) with|(lo,hi)=>pure (lo,(1:Int),Builtin.Slice.slicePlaces lo hi 1)) _ _ s
 rw [jd9 lo hi n]
 show wpAny _ _ (pure (((sIx n 0 lo:Nat):Int),(1:Int),Builtin.Slice.slicePlaces ((sIx n 0 lo:Nat):Int) ((sIx n n hi:Nat):Int) 1)) _ _ s
 rw [jcw]
 exact wpAny_pure h
theorem jgs (xs:Array Value) (i k:Nat):((List.range k).filterMap fun (m:Nat)=>xs[((i:Int)+(m:Int) * 1).toNat]?).toArray=((xs.toList.drop i).take k).toArray:=by
 have e:(fun (m:Nat)=>xs[((i:Int)+(m:Int) * 1).toNat]?)=fun m=>xs[i+m]?:=by
  funext m
  have:((i:Int)+(m:Int) * 1).toNat=i+m:=by omega
  rw [this]
 rw [e]
 have:=pick_run xs i k
 rw [List.filterMap_map] at this
 have e2:((fun x=>xs[x]?) ∘ fun x=>i+x)=fun m=>xs[i+m]?:=rfl
 rw [e2] at this
 rw [this]
theorem getItem_tuple_cut {t sl:Addr} {items:Array Value} {vl vu:Value} {lo hi:Option Int} {Q:Value→Shared→Prop} (ht:IsTup s.heap t items) (hs:s.heap.IsSliceOf sl vl vu .none) (pl:IsPart vl lo) (pu:IsPart vu hi)
  (hw:¬ (sIx items.size 0 lo=0∧sIx items.size items.size hi=items.size))
  (h:Q (.ref s.heap.objs.size) { s with heap:=s.heap.push { cls:=.type "tuple",data:=.seq ((items.toList.drop (sIx items.size 0 lo)).take (sIx items.size items.size hi - sIx items.size 0 lo)).toArray}})
  (hsz:items.size≤sizeLine):wpAny (model prog w) A (getItem (.ref t) (.ref sl)) Q E s:=by
 have htake:sizeOk (.seq ((items.toList.drop (sIx items.size 0 lo)).take (sIx items.size items.size hi - sIx items.size 0 lo)).toArray):=by
  show ((items.toList.drop (sIx items.size 0 lo)).take (sIx items.size items.size hi - sIx items.size 0 lo)).toArray.size≤sizeLine
  rw [List.size_toArray,List.length_take,List.length_drop,Array.length_toList]
  omega
 have hj:sIx items.size items.size hi≤items.size:=jpl _ _ (Nat.le_refl _) hi
 obtain ⟨os,hos,hcs,hds⟩:=id hs
 have hTs:s.TypeIs (.ref sl) "slice":=⟨os,hos,hcs⟩
 unfold getItem
 try with_reducible refine wpAny_holding ?_
 first|refine wpAny_bind (wpAny_pure ?_)|skip
 refine wpAny_bind (wpAny_sequenceKey ht.typeIs (by decide) ?_)
 refine wpAny_bind (wpAny_callSpecial?_slot (name:=Str.ofString "__getitem__") ht.typeIs PyProof.Rows.slot_tuple_getitem
  (wpAny_call_entry PyProof.Rows.slot_tuple_getitem ht.typeIs entry_tuple_getitem ?_ (args_tuple_getitem _ _)))
 show wpAny _ _ (Builtin.Tuple.tupleItemsOf (.ref t) >>= _) _ _ s
 refine wpAny_bind (tupleItemsOf_ ht ?_)
 refine wpAny_bind (wpAny_typeOf hTs ?_)
 rw [if_pos (by decide)]
 refine wpAny_bind (jjj hs pl pu ?_)
 have hno:¬ ((((sIx items.size 0 lo:Nat):Int) == 0 && (1:Int) == 1 && (sIx items.size items.size hi - sIx items.size 0 lo) == items.size)=true):=by
  intro q
  rw [Bool.and_eq_true,Bool.and_eq_true] at q
  have q1:((sIx items.size 0 lo:Nat):Int)=0:=eq_of_beq q.1.1
  have q2:sIx items.size items.size hi - sIx items.size 0 lo=items.size:=eq_of_beq q.2
  exact hw ⟨by omega,by omega⟩
 show wpAny _ _ (if (((sIx items.size 0 lo:Nat):Int) == 0 && (1:Int) == 1 && (sIx items.size items.size hi - sIx items.size 0 lo) == items.size)=true then _ else _) _ _ s
 rw [if_neg hno,jgs]
 first
  | exact wpAny_bind (m:=Builtin.Tuple.tupleExact _) (wpAny_newObj_type (wpAny_pure ⟨_,rfl,wpAny_pure h⟩) htake)
  | exact wpAny_bind (m:=Builtin.Tuple.tupleExact _) (wpAny_newObj_type (wpAny_bind (wpAny_pure (wpAny_pure ⟨_,rfl,wpAny_pure h⟩))) htake)
  | exact wpAny_bind (wpAny_bind (m:=Builtin.Tuple.tupleExact _) (wpAny_newObj_type (wpAny_pure (wpAny_pure ⟨_,rfl,wpAny_pure h⟩)) htake))
  | exact wpAny_bind (wpAny_bind (m:=Builtin.Tuple.tupleExact _) (wpAny_newObj_type (wpAny_pure ⟨_,rfl,wpAny_pure h⟩) htake))
end
end HT
namespace L2
open PySem PySem.Spec PyProof.Rows
abbrev TO:=St→Hp→(Option Int→Hp→Prop)→Prop
def PO (X:Cx) (e:Option Expr) (t:TO):Prop:=
 ∀ (pins:List (Addr×Obj)) (s:Shared) (σ:St) (H:Hp) (Q:Option Int→Hp→Prop),Inv X pins σ H s→t σ H Q→
  wpAny (model X.prog X.w) X.A (evalPart e X.env) (fun u s'=>∃ o H',Inv X pins σ H' s'∧IsPart u o∧Q o H') X.xe s
def jz5:TO:=fun _ H Q=>Q none H
def jzd (t:TE):TO:=fun σ H Q=>t σ H fun x H1=>∃ i,x=.int i∧Q (some i) H1
section
variable {X:Cx} {e:Expr} {te:TE} {lo hi:Option Expr} {tl th:TO} {pos p2:Pos}
theorem jzv:PO X none jz5:=by
 intro pins s σ H Q I h
 rw [evalPart_none]
 exact wpAny_pure ⟨none,H,I,.none,h⟩
theorem jxq (h:PE X e te):PO X (some e) (jzd te):=by
 intro pins s σ H Q I hw
 rw [evalPart_some]
 refine thn (h pins s σ H _ I hw) fun u s1 ⟨x,H1,I1,r1,q1⟩=>?_
 obtain ⟨i,rfl,q⟩:=q1
 obtain ⟨t,rfl⟩:=r1
 exact ⟨some i,H1,I1,.int i t,q⟩
def SlR (X:Cx) (r:V→Option Int→Option Int→Hp→VK→Prop):Prop:=
 ∀ (pins:List (Addr×Obj)) (s:Shared) (σ:St) (H:Hp) (x:V) (v vl vu:Value) (lo hi:Option Int) (sl:Addr) (Q:VK),Inv X pins σ H s→RelV x v→s.heap.IsSliceOf sl vl vu .none→IsPart vl lo→IsPart vu hi→r x lo hi H Q→
  ∃ T id,typeLookup (.type T) "__getitem__"=pure (some (.builtin id))∧s.TypeIs v T∧wpAny (model X.prog X.w) X.A (getItem v (.ref sl)) (EP X pins σ Q) X.xe s
theorem SlR.or {r r':V→Option Int→Option Int→Hp→VK→Prop} (h:SlR X r) (h':SlR X r'):SlR X (fun x lo hi H Q=>r x lo hi H Q∨r' x lo hi H Q):=by
 intro pins s σ H x v vl vu lo hi sl Q I rx hs pl pu q
 rcases q with q|q
 ·exact h pins s σ H x v vl vu lo hi sl Q I rx hs pl pu q
 ·exact h' pins s σ H x v vl vu lo hi sl Q I rx hs pl pu q
def tSl (r:V→Option Int→Option Int→Hp→VK→Prop) (te:TE) (tl th:TO):TE:=fun σ H Q=>te σ H fun x H1=>tl σ H1 fun l H2=>th σ H2 fun u H3=>r x l u H3 Q
theorem jxr {r:V→Option Int→Option Int→Hp→VK→Prop} (hr:SlR X r) (he:PE X e te) (hl:PO X lo tl) (hu:PO X hi th):PE X (.Subscript e (.Slice lo hi none p2) pos) (tSl r te tl th):=by
 intro pins s σ H Q I h
 refine Subscript_ (thn (he pins s σ H _ I h) fun v s1 ⟨x,H1,I1,r1,q1⟩=>?_)
 refine wpAny_Slice (thn (hl pins s1 σ H1 _ I1 q1) fun vl s2 ⟨l,H2,I2,pl,q2⟩=>thn (hu pins s2 σ H2 _ I2 q2) fun vu s3 ⟨u,H3,I3,pu,q3⟩=>?_)
 rw [evalPart_none]
 refine wpAny_pure ?_
 have I4:Inv X pins σ H3 { s3 with heap:=s3.heap.push { cls:=.type "slice",data:=.fields #[vl,vu,.none]}}:=I3.kept (t':=s3.toks) fun b ob q=>Heap.get?_push_of_some _ q
 obtain ⟨T,id,hT,ht,hg⟩:=hr pins { s3 with heap:=s3.heap.push { cls:=.type "slice",data:=.fields #[vl,vu,.none]}} σ H3 x v vl vu l u s3.heap.objs.size Q I4 r1 (Heap.IsSliceOf.new ..) pl pu q3
 show wpAny (model X.prog X.w) X.A (subscriptTail e (.Slice lo hi none p2) v (.ref s3.heap.objs.size)) (EP X pins σ Q) X.xe { s3 with heap:=s3.heap.push { cls:=.type "slice",data:=.fields #[vl,vu,.none]}}
 exact tail_any (ops:=[.ref s3.heap.objs.size,v]) ht hT hg (by with_unfolding_all rfl)
def cutV (xs:List V) (lo hi:Option Int):List V:=(xs.drop (HT.sIx xs.length 0 lo)).take (HT.sIx xs.length xs.length hi - HT.sIx xs.length 0 lo)
theorem jvy (xs:List V) (lo hi:Option Int):(cutV xs lo hi).length≤xs.length:=by
 unfold cutV
 rw [List.length_take,List.length_drop]
 omega
def rSlT (K:PySem.W.Frag):V→Option Int→Option Int→Hp→VK→Prop:=fun x lo hi H Q=>∃ a xs,x=.ref a∧SqT K H a xs∧
 ¬ (HT.sIx xs.length 0 lo=0∧HT.sIx xs.length xs.length hi=xs.length)∧∀ p,H p=none→Q (.ref p) (upd H p (.tup (cutV xs lo hi)))
theorem jbx:SlR X (rSlT X.K):=by
 intro pins s σ H x v vl vu lo hi sl Q I rx hs pl pu h
 obtain ⟨a,xs,rfl,hx,hw,q⟩:=h
 cases rx
 obtain ⟨its,r,ht,hz⟩:=I.tuple hx
 have hlen:its.toArray.size=xs.length:=by rw [List.size_toArray];exact r.length.symm
 refine ⟨"tuple",_,PyProof.Rows.slot_tuple_getitem.lookup,ht.typeIs,?_⟩
 refine HT.getItem_tuple_cut ht hs pl pu (by rw [hlen];exact hw) ?_ (by rw [hlen];exact hz)
 rw [hlen]
 refine ⟨.ref s.heap.objs.size,_,I.laid (t':=s.toks) (o:=.tup (cutV xs lo hi)) (fun b ob q=>Heap.get?_push_of_some _ q) (Nat.le_refl _) ?_,rfl,q _ (I.hok.fresh (Nat.le_refl _))⟩
 exact ⟨Nat.le_trans (jvy xs lo hi) hz,_,(r.drop (HT.sIx xs.length 0 lo)).take (HT.sIx xs.length xs.length hi - HT.sIx xs.length 0 lo),IsTup.new _ _⟩
def rCatT (K:PySem.W.Frag):R2:=fun x y H Q=>∃ a b xs ys,x=.ref a∧y=.ref b∧SqT K H a xs∧SqT K H b ys∧xs≠[]∧xs.length+ys.length≤sizeLine∧
 (ys=[]→Q (.ref a) H)∧(ys≠[]→∀ p,H p=none→Q (.ref p) (upd H p (.tup (xs++ys))))
theorem Vals.nil_iff {xs:List V} {us:List Value} (r:Vals xs us):us=[]↔xs=[]:=by
 cases r with
 | nil=>simp
 | cons _ _=>simp
theorem jml:OpR X (binaryOp .Add) (rCatT X.K):=by
 intro pins s σ H x y v u Q I rx ry h
 obtain ⟨a,b,xs,ys,rfl,rfl,ha,hb,hx,hz,q1,q2⟩:=h
 cases rx
 cases ry
 obtain ⟨its,r1,p1,_⟩:=I.tuple ha
 obtain ⟨its2,r2,p2,_⟩:=I.tuple hb
 refine HT.cat_tup p1 p2 (fun z=>hx (r1.nil_iff.mp z)) (fun z=>⟨.ref a,H,I,rfl,q1 (r2.nil_iff.mp z)⟩) (fun z=>?_) (by rw [← r1.length,← r2.length];exact hz)
 refine ⟨.ref s.heap.objs.size,_,I.laid (t':=s.toks) (o:=.tup (xs++ys)) (fun b ob q=>Heap.get?_push_of_some _ q) (Nat.le_refl _) ?_,rfl,q2 (fun w=>z (r2.nil_iff.mpr w)) _ (I.hok.fresh (Nat.le_refl _))⟩
 exact ⟨by rw [List.length_append];exact hz,_,r1.append r2,IsTup.new _ _⟩
end
end L2
namespace L2
open PySem PySem.Spec PyProof.Rows
def ixN (n:Nat) (i:Int):Option Nat:=if 0≤i then (if i < n then some i.toNat else none) else if -(n:Int)≤i then some (i+n).toNat else none
def atI {α:Type} (xs:List α) (i:Int):Option α:=(ixN xs.length i).bind fun j=>xs[j]?
theorem jfg {n:Nat} {i:Int} {j:Nat} (h:ixN n i=some j):seqIndex? i n=some j∧j < n∧-(n:Int)≤i∧i < n:=by
 unfold ixN at h
 by_cases h0:0≤i
 ·rw [if_pos h0] at h
  by_cases h1:i < n
  ·rw [if_pos h1] at h
   have e:i.toNat=j:=Option.some.inj h
   exact ⟨by rw [seqIndex_of h0 h1,e],by omega,by omega,h1⟩
  ·rw [if_neg h1] at h;cases h
 ·rw [if_neg h0] at h
  by_cases h1 : -(n:Int)≤i
  ·rw [if_pos h1] at h
   have e:(i+n).toNat=j:=Option.some.inj h
   exact ⟨by rw [seqIndex_neg (by omega) h1,e],by omega,h1,by omega⟩
  ·rw [if_neg h1] at h;cases h
theorem jbo {α:Type} {xs:List α} {i:Int} {v:α} (h:atI xs i=some v):∃ j,seqIndex? i xs.length=some j∧xs[j]?=some v∧j < xs.length∧-(xs.length:Int)≤i∧i < xs.length:=by
 unfold atI at h
 cases e:ixN xs.length i with
 | none=>rw [e] at h;cases h
 | some j=>
  rw [e] at h
  obtain ⟨h1,h2,h3,h4⟩:=jfg e
  exact ⟨j,h1,h,h2,h3,h4⟩
theorem jqd {α:Type} {xs:List α} {j:Nat} {v:α} (h:xs[j]?=some v):atI xs (j:Int)=some v:=by
 have hj:j < xs.length:=(List.getElem?_eq_some_iff.mp h).1
 have e:ixN xs.length (j:Int)=some j:=by
  unfold ixN
  rw [if_pos (by omega),if_pos (by omega)];simp
 unfold atI;rw [e];exact h
theorem jhk {α:Type} (xs:List α) (v:α):atI (xs++[v]) (-1)=some v:=by
 have hl:(xs++[v]).length=xs.length+1:=by simp
 have e:ixN (xs++[v]).length (-1)=some xs.length:=by
  unfold ixN
  rw [hl,if_neg (by decide),if_pos (by omega)]
  congr 1
  omega
 unfold atI
 rw [e]
 show (xs++[v])[xs.length]?=some v
 simp
def jn5 (b:Expr):Prop:=∀ o i,subscripted b false o i=operate [o,i] (getItem o i)
def IxR (X:Cx) (r:R2):Prop:=
 ∀ (value slice:Expr) (pins:List (Addr×Obj)) (s:Shared) (σ:St) (H:Hp) (x y:V) (v u:Value) (Q:VK),Inv X pins σ H s→RelV x v→RelV y u→r x y H Q→
  subscripted slice false v u=operate [v,u] (getItem v u)→wpAny (model X.prog X.w) X.A (subscriptTail value slice v u) (EP X pins σ Q) X.xe s
def MtR (X:Cx) (id:String) (r:V→List V→Hp→VK→Prop):Prop:=
 ∀ (pins:List (Addr×Obj)) (s:Shared) (σ:St) (H:Hp) (x:V) (xs:List V) (v:Value) (us:List Value) (Q:VK),Inv X pins σ H s→RelV x v→Vals xs us→r x xs H Q→
  wpAny (model X.prog X.w) X.A (call (.builtin id) (v :: us)) (EP X pins σ Q) X.xe s
section
variable {X:Cx} {a b:Expr} {ta tb:TE} {pos:Pos}
theorem jqm {r:R2} (hr:IxR X r) (ha:PE X a ta) (hb:PE X b tb) (hs:jn5 b):PE X (.Subscript a b pos) (tOp r ta tb):=by
 intro pins s σ H Q I h
 exact Subscript_ (binT ha hb I h fun v u s2 x y H2 I2 rx ry q=>hr a b pins s2 σ H2 x y v u Q I2 rx ry q (hs _ _))
def rIxL (K:PySem.W.Frag):R2:=fun x y H Q=>∃ p xs i v,x=.ref p∧y=.int i∧SqL K H p xs∧atI xs i=some v∧Q v H
def rIxT (K:PySem.W.Frag):R2:=fun x y H Q=>∃ p xs i v,x=.ref p∧y=.int i∧SqT K H p xs∧atI xs i=some v∧Q v H
def rIxS:R2:=fun x y H Q=>∃ z i c,x=.str z∧y=.int i∧z.length≤sizeLine∧atI z.cps.toList i=some c∧Q (.str ⟨#[c]⟩) H
theorem jxf:IxR X (rIxL X.K):=by
 intro value slice pins s σ H x y v u Q I rx ry h hs
 obtain ⟨p,xs,i,z,rfl,rfl,hq,he,q⟩:=h
 cases rx
 obtain ⟨t,rfl⟩:=ry
 obtain ⟨its,r,pl,hz⟩:=I.list hq
 obtain ⟨j,h1,h2,h3,h4,h5⟩:=jbo he
 obtain ⟨w,ew,rw'⟩:=r.get h2
 have hl:=r.length
 have hn:=jwb
 have fin:EP X pins σ Q w s:=⟨z,H,I,rw',q⟩
 by_cases h0:0≤i
 ·have hj:i.toNat=j:=by
   rw [seqIndex_of h0 h5] at h1
   exact Option.some.inj h1
  exact item_listR pl.isList h0 (by omega) (by rw [hj];simpa using ew) fin hs
 ·have hj:(i+(its.toArray.size:Int)).toNat=j:=by
   rw [seqIndex_neg (by omega) h4] at h1
   rw [List.size_toArray,← hl]
   exact Option.some.inj h1
  exact subscriptTail_builtinR (x:=w) pl.isList.typeIs slot_list_getitem.lookup
   (wpAny_getItem_list_neg (Q:=fun r s'=>r=w∧EP X pins σ Q r s') pl.isList (by omega) (by rw [List.size_toArray]<;>omega) (by omega) (by rw [hj];simpa using ew) ⟨rfl,fin⟩) hs
theorem jqh:IxR X (rIxT X.K):=by
 intro value slice pins s σ H x y v u Q I rx ry h hs
 obtain ⟨p,xs,i,z,rfl,rfl,hq,he,q⟩:=h
 cases rx
 obtain ⟨t,rfl⟩:=ry
 obtain ⟨its,r,pl,hz⟩:=I.tuple hq
 obtain ⟨j,h1,h2,h3,h4,h5⟩:=jbo he
 obtain ⟨w,ew,rw'⟩:=r.get h2
 have hl:=r.length
 have hn:=jwb
 have fin:EP X pins σ Q w s:=⟨z,H,I,rw',q⟩
 exact subscriptTail_builtinR (x:=w) pl.typeIs slot_tuple_getitem.lookup
  (getItem_tuple (j:=j) (Q:=fun r s'=>r=w∧EP X pins σ Q r s') pl (by omega) (by omega) (by rw [List.size_toArray,← hl];exact h1) (by simpa using ew) ⟨rfl,fin⟩) hs
theorem jff:IxR X rIxS:=by
 intro value slice pins s σ H x y v u Q I rx ry h hs
 obtain ⟨z,i,c,rfl,rfl,hz,he,q⟩:=h
 obtain ⟨t,rfl⟩:=rx
 obtain ⟨t',rfl⟩:=ry
 obtain ⟨j,h1,h2,h3,h4,h5⟩:=jbo he
 have hl:z.cps.toList.length=z.length:=by simp [Str.length]
 rw [hl] at h1 h4 h5
 have hn:=jwb
 exact tail_any (typeIs_str s z t) slot_str_getitem.lookup (getItem_str (c:=c) (by
  have e1:decide (i < -(2 ^ 63:Int))=false:=decide_eq_false (by omega)
  have e2:decide (i≥2 ^ 63)=false:=decide_eq_false (by omega)
  rw [e1,e2,Bool.or_false]) (by rw [h1];simpa using h2) ⟨.str ⟨#[c]⟩,H,I.tok _,⟨_,rfl⟩,q⟩) hs
theorem jcy (its:List Value) (n j:Nat) (u:Value):Obj.mapSeq (·.setIfInBounds j u) { cls:=.type "list",data:=.seq its.toArray n}={ cls:=.type "list",data:=.seq (its.set j u).toArray n}:=by
 simp [Obj.mapSeq]
theorem Inv.lst {pins:List (Addr×Obj)} {σ:St} {H:Hp} {s:Shared} {p:Addr} {xs:List V} (I:Inv X pins σ H s) (h:H p=some (.lst xs)) :
  ∃ (its:List Value) (n:Nat),Vals xs its∧s.heap.get? p=some { cls:=.type "list",data:=.seq its.toArray n}∧xs.length≤sizeLine:=by
 obtain ⟨z,its,n,r,e⟩:=I.hok p _ h
 exact ⟨its,n,r,e,z⟩
theorem Inv.lstUpd {pins:List (Addr×Obj)} {σ:St} {H:Hp} {s:Shared} {p:Addr} {xs ys:List V} {its its':List Value} {n n':Nat} {f:Obj→Obj} (I:Inv X pins σ H s) (h:H p=some (.lst xs))
  (ho:s.heap.get? p=some { cls:=.type "list",data:=.seq its.toArray n}) (hf:f { cls:=.type "list",data:=.seq its.toArray n}={ cls:=.type "list",data:=.seq its'.toArray n'}) (r:Vals ys its') (hz:ys.length≤sizeLine) (t:Nat) :
  Inv X pins σ (upd H p (.lst ys)) { s with heap:=s.heap.update p f,toks:=t}:=by
 have e:(s.heap.update p f).get? p=some { cls:=.type "list",data:=.seq its'.toArray n'}:=by
  rw [Heap.get?_update_self f ho (by rw [hf]<;>rfl),hf]
 refine I.write (x:=p) (e:=p) (by rw [h];trivial) (.inl rfl) (fun b u hb q=>(Heap.get?_update_other _ _ (Ne.symm hb)).trans q) ⟨_,e⟩ ?_
 exact ⟨hz,its',n',r,e⟩
def jm7:V→V→V→Hp→(Hp→Prop)→Prop:=fun o i v H Q=>∃ p xs k j,o=.ref p∧i=.int k∧H p=some (.lst xs)∧ixN xs.length k=some j∧Q (upd H p (.lst (xs.set j v)))
theorem jby:PSet X jm7:=by
 intro pins s σ H o i v ov iv u Q I ro ri rv h
 obtain ⟨p,xs,k,j,rfl,rfl,hp,hj,q⟩:=h
 cases ro
 obtain ⟨t,rfl⟩:=ri
 obtain ⟨its,n,r,ho,hz⟩:=I.lst hp
 obtain ⟨h1,h2,h3,h4⟩:=jfg hj
 have hl:=r.length
 have hn:=jwb
 have I':Inv X pins σ (upd H p (.lst (xs.set j v))) { s with heap:=s.heap.update p (Obj.mapSeq (·.setIfInBounds j u))}:=
  I.lstUpd hp ho (jcy its n j u) (r.set rv j) (by rw [List.length_set];exact hz) s.toks
 by_cases h0:0≤k
 ·have hk:k.toNat=j:=by
   rw [seqIndex_of h0 h4] at h1
   exact Option.some.inj h1
  exact PySem.W.ki_setAt ho h0 (by omega) (by rw [List.size_toArray,← hl];exact h4) (by rw [hk];exact ⟨_,I',q⟩)
 ·have hk:(k+(its.toArray.size:Int)).toNat=j:=by
   rw [seqIndex_neg (by omega) h3] at h1
   rw [List.size_toArray,← hl]
   exact Option.some.inj h1
  exact PySem.W.ki_setBack ho (by omega) (by rw [List.size_toArray,← hl];exact h3) (by omega) (by rw [hk];exact ⟨_,I',q⟩)
theorem jah (lo hi:Option Int) (n:Nat):(sliceBounds lo hi none n).1=((HT.sIx n 0 lo:Nat):Int)∧(sliceBounds lo hi none n).2.1=((HT.sIx n n hi:Nat):Int)∧(sliceBounds lo hi none n).2.2=1:=by
 refine ⟨?_,?_,rfl⟩
 ·cases lo with
  | none=>simp [sliceBounds,HT.sIx]
  | some i=>
   simp only [sliceBounds,HT.sIx,Option.getD_none,show (1:Int) > 0 by decide,if_true]
   by_cases h:i < 0
   ·simp only [h,if_true]<;>omega
   ·simp only [h,if_false]<;>omega
 ·cases hi with
  | none=>simp [sliceBounds,HT.sIx]
  | some i=>
   simp only [sliceBounds,HT.sIx,Option.getD_none,show (1:Int) > 0 by decide,if_true]
   by_cases h:i < 0
   ·simp only [h,if_true]<;>omega
   ·simp only [h,if_false]<;>omega
theorem jwk (its:List Value) (lo hi:Option Int):slicePick its.toArray lo hi none=((its.drop (HT.sIx its.length 0 lo)).take (HT.sIx its.length its.length hi - HT.sIx its.length 0 lo)).toArray:=by
 obtain ⟨h1,h2,h3⟩:=jah lo hi its.toArray.size
 unfold slicePick
 rw [h1,h2,h3]
 simp only [sliceRange_one,pick_run,List.size_toArray]<;>rfl
def rSlL (K:PySem.W.Frag):V→Option Int→Option Int→Hp→VK→Prop:=fun x lo hi H Q=>∃ a xs,x=.ref a∧SqL K H a xs∧∀ p,H p=none→Q (.ref p) (upd H p (.lst (cutV xs lo hi)))
theorem jzs:SlR X (rSlL X.K):=by
 intro pins s σ H x v vl vu lo hi sl Q I rx hs pl pu h
 obtain ⟨a,xs,rfl,hx,q⟩:=h
 cases rx
 obtain ⟨its,r,ht,hz⟩:=I.list hx
 have hlen:=r.length
 refine ⟨"list",_,slot_list_getitem.lookup,ht.isList.typeIs,?_⟩
 refine wpAny_getItem_list_slice ht.isList hs pl pu .none (by simp) ?_ (by rw [List.size_toArray]<;>omega)
 rw [jwk,← hlen]
 refine ⟨.ref s.heap.objs.size,_,I.laid (t':=s.toks) (o:=.lst (cutV xs lo hi)) (fun b ob q=>Heap.get?_push_of_some _ q) (Nat.le_refl _) ?_,rfl,q _ (I.hok.fresh (Nat.le_refl _))⟩
 exact ⟨Nat.le_trans (jvy xs lo hi) hz,_,0,(r.drop (HT.sIx xs.length 0 lo)).take (HT.sIx xs.length xs.length hi - HT.sIx xs.length 0 lo),Heap.get?_push_size _ rfl⟩
def jas:V→Bool
 | .non=>true
 | .bl _=>true
 | .int _=>true
 | .str _=>true
 | _=>false
def eqV:V→V→Bool
 | .non,.non=>true
 | .bl a,.bl b=>a == b
 | .bl a,.int b=>(if a then 1 else 0) == b
 | .int a,.bl b=>a == (if b then 1 else 0)
 | .int a,.int b=>a == b
 | .str a,.str b=>a == b
 | _,_=>false
theorem jrw {A:Around} {s:Shared} {y x:V} {u v:Value} (ry:RelV y u) (rx:RelV x v) (fy:jas y=true) (fx:jas x=true):SeqAt.EqAt A s u v (eqV y x):=by
 cases y with
 | non=>
  cases ry
  cases x with
  | non=>cases rx;exact SeqAt.EqAt.same _
  | bl b=>cases rx;exact SeqAt.EqAt.none_bool b
  | int b=>obtain ⟨t,rfl⟩:=rx;exact SeqAt.EqAt.none_int b t
  | str b=>obtain ⟨t,rfl⟩:=rx;exact SeqAt.EqAt.none_str b t
  | _=>exact absurd (show false=true from fx) Bool.false_ne_true
 | bl a=>
  cases ry
  cases x with
  | non=>cases rx;exact SeqAt.EqAt.bool_none a
  | bl b=>cases rx;exact SeqAt.EqAt.bool_bool a b
  | int b=>obtain ⟨t,rfl⟩:=rx;exact SeqAt.EqAt.bool_int a b t
  | str b=>obtain ⟨t,rfl⟩:=rx;exact SeqAt.EqAt.bool_str a b t
  | _=>exact absurd (show false=true from fx) Bool.false_ne_true
 | int a=>
  obtain ⟨t',rfl⟩:=ry
  cases x with
  | non=>cases rx;exact SeqAt.EqAt.int_none a t'
  | bl b=>cases rx;exact SeqAt.EqAt.int_bool a t' b
  | int b=>obtain ⟨t,rfl⟩:=rx;exact SeqAt.EqAt.int_int a t' b t
  | str b=>obtain ⟨t,rfl⟩:=rx;exact SeqAt.EqAt.int_str a t' b t
  | _=>exact absurd (show false=true from fx) Bool.false_ne_true
 | str a=>
  obtain ⟨t',rfl⟩:=ry
  cases x with
  | non=>cases rx;exact SeqAt.EqAt.str_none a t'
  | bl b=>cases rx;exact SeqAt.EqAt.str_bool a t' b
  | int b=>obtain ⟨t,rfl⟩:=rx;exact SeqAt.EqAt.str_int a t' b t
  | str b=>obtain ⟨t,rfl⟩:=rx;exact SeqAt.EqAt.str_str a t' b t
  | _=>exact absurd (show false=true from fx) Bool.false_ne_true
 | _=>exact absurd (show false=true from fy) Bool.false_ne_true
def eqU (x:V) (u:Value):Bool:=match u with
 | .none=>eqV .non x
 | .bool b=>eqV (.bl b) x
 | .int i _=>eqV (.int i) x
 | .str z _=>eqV (.str z) x
 | _=>false
theorem jie {x y:V} {u:Value} (r:RelV y u) (f:jas y=true):eqU x u=eqV y x:=by
 cases y with
 | non=>cases r;rfl
 | bl b=>cases r;rfl
 | int i=>obtain ⟨t,rfl⟩:=r;rfl
 | str z=>obtain ⟨t,rfl⟩:=r;rfl
 | _=>exact absurd (show false=true from f) Bool.false_ne_true
theorem jbp {x:V}:∀ {xs:List V} {us:List Value},Vals xs us→xs.all jas=true→us.any (eqU x)=xs.any fun y=>eqV y x
 | _,_,.nil,_=>rfl
 | y :: xs,u :: us,.cons r t,f=>by
  rw [List.all_cons,Bool.and_eq_true] at f
  rw [List.any_cons,List.any_cons,jie r f.1,jbp t f.2]
theorem jwv {A:Around} {s:Shared} {x:V} {v:Value} (rx:RelV x v) (fx:jas x=true):∀ {xs:List V} {us:List Value},Vals xs us→xs.all jas=true→∀ u∈us,SeqAt.EqAt A s u v (eqU x u)
 | _,_,.nil,_=>fun u hu=>by cases hu
 | y :: xs,u :: us,.cons r t,f=>fun u' hu=>by
  rw [List.all_cons,Bool.and_eq_true] at f
  rcases List.mem_cons.mp hu with rfl|hu
  ·rw [jie r f.1];exact jrw r rx f.1 fx
  ·exact jwv rx fx t f.2 u' hu
def inV (x:V) (xs:List V):Bool:=xs.any fun y=>eqV y x
def rIn (K:PySem.W.Frag) (neg:Bool):R2:=fun x y H Q=>∃ p xs,y=.ref p∧(SqL K H p xs∨SqT K H p xs)∧jas x=true∧xs.all jas=true∧Q (.bl (if neg then !inV x xs else inV x xs)) H
theorem jkd:OpR X (compareOp .In) (rIn X.K false):=by
 intro pins s σ H x y v u Q I rx ry h
 obtain ⟨p,xs,rfl,hq,fx,fs,q⟩:=h
 cases ry
 rcases hq with hq|hq
 ·obtain ⟨its,r,pl,hz⟩:=I.list hq
  refine SeqAt.in_listAt (eqU x) pl.isList (fun w hw=>jwv rx fx r fs w (by simpa using hw)) ⟨.bl _,H,I,rfl,?_⟩
  rw [show its.toArray.any (eqU x)=its.any (eqU x) by simp,jbp r fs]
  exact q
 ·obtain ⟨its,r,pl,hz⟩:=I.tuple hq
  refine SeqAt.in_tupleAt (eqU x) pl (fun w hw=>jwv rx fx r fs w (by simpa using hw)) ⟨.bl _,H,I,rfl,?_⟩
  rw [show its.toArray.any (eqU x)=its.any (eqU x) by simp,jbp r fs]
  exact q
theorem jql:jki X (.builtin "len") (fun xs H Q=>∃ p ys,xs=[.ref p]∧(SqL X.K H p ys∨SqT X.K H p ys)∧Q (.int ys.length) H):=by
 intro pins s σ H xs us Q I r h
 obtain ⟨p,ys,rfl,hq,q⟩:=h
 obtain ⟨u,rfl,rx⟩:=jw1 r
 cases rx
 have hn:=jwb
 rcases hq with hq|hq
 ·obtain ⟨its,r',pl,hz⟩:=I.list hq
  have hlen:=r'.length
  exact Calls.call_len_list pl.isList (by simp only [List.size_toArray]<;>omega) ⟨.int ys.length,H,I.tok _,⟨s.toks+1,by rw [List.size_toArray,hlen]⟩,q⟩
 ·obtain ⟨its,r',pl,hz⟩:=I.tuple hq
  have hlen:=r'.length
  exact len_tuple pl (by simp only [List.size_toArray]<;>omega) ⟨.int ys.length,H,I.tok _,⟨s.toks+1,by rw [List.size_toArray,hlen]⟩,q⟩
theorem jj3:jki X (.builtin "len") (fun xs H Q=>∃ z,xs=[.str z]∧z.length≤sizeLine∧Q (.int z.length) H):=by
 intro pins s σ H xs us Q I r h
 obtain ⟨z,rfl,hz,q⟩:=h
 obtain ⟨u,rfl,t,rfl⟩:=jw1 r
 have hn:=jwb
 exact len_str (by omega) ⟨.int z.length,H,I.tok _,⟨_,rfl⟩,q⟩
theorem jky:jki X (.type "list") (fun xs H Q=>∃ p ys,xs=[.ref p]∧(SqL X.K H p ys∨SqT X.K H p ys)∧∀ l,H l=none→Q (.ref l) (upd H l (.lst ys))):=by
 intro pins s σ H xs us Q I r h
 obtain ⟨p,ys,rfl,hq,q⟩:=h
 obtain ⟨u,rfl,rx⟩:=jw1 r
 cases rx
 have fin:∀ (its:List Value),Vals ys its→ys.length≤sizeLine→∀ (h':Heap) (c':Nat),(∀ b o',s.heap.get? b=some o'→h'.get? b=some o')→
   h'.get? s.heap.objs.size=some { cls:=.type "list",dict:=none,data:=.seq its.toArray c',slots:=#[]}→EP X pins σ Q (.ref s.heap.objs.size) { s with heap:=h'}:=fun its r' hz h' c' kp e=>
  ⟨.ref s.heap.objs.size,_,I.laid (t':=s.toks) kp (Nat.le_refl _) (show ObjOk X.prog X.w _ h' _ (.lst ys) from ⟨hz,its,c',r',e⟩),rfl,q _ (I.hok.fresh (Nat.le_refl _))⟩
 rcases hq with hq|hq
 ·obtain ⟨its,r',pl,hz⟩:=I.list hq
  have hlen:=r'.length
  obtain ⟨o,ho,hc,n,hd⟩:=pl.isList
  exact call_list_seq p (.inl rfl) ho hc hd (fun h' c' kp e=>fin its r' hz h' c' kp e) (by simp only [List.size_toArray]<;>omega)
 ·obtain ⟨its,r',pl,hz⟩:=I.tuple hq
  have hlen:=r'.length
  obtain ⟨o,ho,hc,n,hd⟩:=pl
  exact call_list_seq p (.inr rfl) ho hc hd (fun h' c' kp e=>fin its r' hz h' c' kp e) (by simp only [List.size_toArray]<;>omega)
theorem jkh:jki X (.type "tuple") (fun xs H Q=>∃ p ys,xs=[.ref p]∧((SqL X.K H p ys∧∀ l,H l=none→Q (.ref l) (upd H l (.tup ys)))∨(SqT X.K H p ys∧Q (.ref p) H))):=by
 intro pins s σ H xs us Q I r h
 obtain ⟨p,ys,rfl,h⟩:=h
 obtain ⟨u,rfl,rx⟩:=jw1 r
 cases rx
 rcases h with ⟨hq,q⟩|⟨hq,q⟩
 ·obtain ⟨its,r',pl,hz⟩:=I.list hq
  have hlen:=r'.length
  refine call_tuple_list pl.isList (fun h' kp=>?_) (by simp only [List.size_toArray]<;>omega)
  have I1:Inv X pins σ H { s with heap:=h'}:=I.kept (t':=s.toks) kp
  have I2:Inv X pins σ (upd H h'.objs.size (.tup ys)) { s with heap:=h'.push { cls:=.type "tuple",data:=.seq its.toArray}}:=
   I1.laid (t':=s.toks) (fun b o e=>Heap.get?_push_of_some _ e) (Nat.le_refl _) (show ObjOk X.prog X.w _ _ _ (.tup ys) from ⟨hz,its,r',IsTup.new _ _⟩)
  exact ⟨.ref h'.objs.size,_,I2,rfl,q _ (I1.hok.fresh (Nat.le_refl _))⟩
 ·obtain ⟨its,r',pl,hz⟩:=I.tuple hq
  exact call_tuple_same pl ⟨.ref p,H,I,rfl,q⟩
def tyV (K:PySem.W.Frag) (T:String) (x:V) (H:Hp):Prop:=match x with
 | .str _=>T="str"
 | .int _=>T="int"
 | .ref p=>(T="list"∧∃ xs,SqL K H p xs)∨(T="tuple"∧∃ o,K.lookup p=some o∧o.cls=.type "tuple"∧o.dict=none)∨
   (T="dict"∧((∃ kvs,H p=some (.dK kvs))∨∃ kvs,H p=some (.dT kvs)))∨(T="set"∧∃ S n,H p=some (.set S n))
 | _=>False
theorem jhp {pins:List (Addr×Obj)} {σ:St} {H:Hp} {s:Shared} {T:String} {x:V} {v:Value} (I:Inv X pins σ H s) (r:RelV x v) (ty:tyV X.K T x H) :
  s.TypeIs v T∧∀ a,v=.ref a→∃ ob,s.heap.get? a=some ob∧ob.dict=none:=by
 cases x with
 | str z=>
  obtain ⟨t,rfl⟩:=r
  cases (show T="str" from ty)
  exact ⟨typeIs_str s z t,fun _ e=>nomatch e⟩
 | int i=>
  obtain ⟨t,rfl⟩:=r
  cases (show T="int" from ty)
  exact ⟨typeIs_int s i t,fun _ e=>nomatch e⟩
 | ref p=>
  cases r
  rcases ty with ⟨rfl,xs,hq⟩|⟨rfl,o,hk,hc,hd⟩|⟨rfl,hk⟩|⟨rfl,S,n,hk⟩
  ·obtain ⟨its,_,pl,_⟩:=I.list hq
   refine ⟨pl.isList.typeIs,fun a e=>?_⟩
   cases e
   obtain ⟨o,n,e,c,hd,_⟩:=pl
   exact ⟨o,e,hd⟩
  ·refine ⟨⟨o,I.kIn p o hk,hc⟩,fun a e=>?_⟩
   cases e
   exact ⟨o,I.kIn _ o hk,hd⟩
  ·have z:∃ o,s.heap.get? p=some o∧o.ExactDict:=by
    rcases hk with ⟨kvs,hk⟩|⟨kvs,hk⟩
    ·obtain ⟨_,_,_,_,o,_,_,e,ex,_⟩:=I.hok p _ hk
     exact ⟨o,e,ex⟩
    ·obtain ⟨_,_,_,_,o,_,_,e,ex,_⟩:=I.hok p _ hk
     exact ⟨o,e,ex⟩
   obtain ⟨o,e,ex⟩:=z
   refine ⟨⟨o,e,ex.1⟩,fun a e2=>?_⟩
   cases e2
   exact ⟨o,e,ex.2.1⟩
  ·obtain ⟨o,_,_,_,e,ex,_⟩:=I.hok p _ hk
   refine ⟨⟨o,e,ex.1⟩,fun a e2=>?_⟩
   cases e2
   exact ⟨o,e,ex.2.1⟩
 | _=>exact False.elim ty
def tBM0 (K:PySem.W.Frag) (T:String) (r:V→List V→Hp→VK→Prop) (to:TE):TE:=fun σ H Q=>to σ H fun x H1=>tyV K T x H1∧r x [] H1 Q
def tBM (K:PySem.W.Frag) (T:String) (r:V→List V→Hp→VK→Prop) (to:TE) (t:TA):TE:=fun σ H Q=>to σ H fun x H1=>tyV K T x H1∧t σ H1 fun xs H2=>r x xs H2 Q
variable {o e:Expr} {es:List Expr} {to:TE} {t:TA} {name:Str} {apos cpos:Pos} {T id:String} {r:V→List V→Hp→VK→Prop}
theorem jk2 (pa:PlainAttrs T) (slot:Slot T name id) (hty:typeOf (.builtin id)=pure (.type "method_descriptor")) (hm:MtR X id r) (ho:PE X o to)
  (hbase:attributeBase o name X.env (eval o X.env)=eval o X.env:=by rfl) (hline:(apos.endLine == cpos.line)=true:=by rfl):PE X (.Call (.Attribute o name apos) [] [] cpos) (tBM0 X.K T r to):=by
 intro pins s σ H Q I h
 refine wpAny_Call_method0_late hbase hline (thn (ho pins s σ H _ I h) fun v s1 ⟨x,H1,I1,r1,ty,q1⟩=>?_)
 obtain ⟨h1,h2⟩:=jhp I1 r1 ty
 exact ⟨T,id,pa,slot,hty,h1,h2,Calls.callWith_builtin rfl (PySem.evalArgs_none (hm pins s1 σ H1 x [] v [] Q I1 r1 .nil q1))⟩
theorem jzg (pa:PlainAttrs T) (slot:Slot T name id) (hty:typeOf (.builtin id)=pure (.type "method_descriptor")) (hm:MtR X id r) (ho:PE X o to) (ha:PA X (e :: es) t)
  (hbase:attributeBase o name X.env (eval o X.env)=eval o X.env:=by rfl)
  (hfew:((backTo cpos (starEach (e :: es) X.env)).all (fun x=>!x.1) && (backToKw cpos (keywordEach [] X.env)).all (fun x=>x.1.isSome)
   && decide ((e :: es).length+([]:List Keyword).length+(if ([]:List Keyword).isEmpty then 0 else 1) < 30))=true:=by rfl)
  (hline:(apos.endLine == cpos.line)=true:=by rfl) (hs:starEach (e :: es) X.env=(false,eval e X.env) :: starEach es X.env:=by rfl) (hplain:(backTo cpos (starEach es X.env)).any (·.1)=false:=by rfl) :
  PE X (.Call (.Attribute o name apos) (e :: es) [] cpos) (tBM X.K T r to t):=by
 intro pins s σ H Q I h
 refine wpAny_Call_method_late hbase hfew hline rfl (thn (ho pins s σ H _ I h) fun v s1 ⟨x,H1,I1,r1,ty,q1⟩=>?_)
 obtain ⟨h1,h2⟩:=jhp I1 r1 ty
 refine ⟨T,id,pa,slot,hty,h1,h2,?_⟩
 have hA:=ha cpos pins s1 σ H1 _ I1 q1
 rw [hs] at hA ⊢
 refine Calls.callWith_builtin (by show (false || (backTo cpos (starEach es X.env)).any (·.1))=false;rw [hplain]<;>rfl) (Calls.evalArgs_plain ?_)
 exact thn hA fun us s2 ⟨vs,H2,I2,r2,q2⟩=>hm pins s2 σ H2 x vs v us Q I2 r1 r2 q2
end
end L2
namespace L2
open PySem PySem.Spec PyProof.Rows
def MtM (X:Cx) (id:String) (r:V→List V→Hp→VK→Prop):Prop:=
 ∀ (pins:List (Addr×Obj)) (s:Shared) (σ:St) (H:Hp) (x:V) (xs:List V) (v:Value) (us:List Value) (Q:VK),Inv X pins σ H s→RelV x v→Vals xs us→r x xs H Q→
  wpAny (model X.prog X.w) X.A (call (.builtin id) (v :: us)) (EP X pins σ Q) X.xe s
theorem Vals.one:∀ {x:V} {us:List Value},Vals [x] us→∃ u,us=[u]∧RelV x u
 | _,_,.cons r .nil=>⟨_,rfl,r⟩
theorem Vals.two:∀ {x y:V} {us:List Value},Vals [x,y] us→∃ u v,us=[u,v]∧RelV x u∧RelV y v
 | _,_,_,.cons r (.cons q .nil)=>⟨_,_,rfl,r,q⟩
theorem Vals.zero:∀ {us:List Value},Vals [] us→us=[]
 | _,.nil=>rfl
theorem Vals.dropLast {xs:List V} {us:List Value} (h:Vals xs us):Vals xs.dropLast us.dropLast:=by
 induction h with
 | nil=>exact .nil
 | cons r t ih=>
  cases t with
  | nil=>exact .nil
  | cons q t'=>exact .cons r ih
theorem jd6 {α:Type} (l:List α):l.eraseIdx (l.length - 1)=l.dropLast:=by
 induction l with
 | nil=>rfl
 | cons a r ih=>
  cases r with
  | nil=>rfl
  | cons b r=>
   have e:(a :: b :: r).length - 1=((b :: r).length - 1)+1:=by
    have h1:(a :: b :: r).length=r.length+2:=rfl
    have h2:(b :: r).length=r.length+1:=rfl
    omega
   rw [e,List.eraseIdx_cons_succ,ih]
   all_goals rfl
section
variable {X:Cx} {pins:List (Addr×Obj)} {σ:St} {H:Hp} {s:Shared} {l b:Addr} {xs ys zs:List V}
theorem Inv.lset {its its':List Value} {n:Nat} {f:Array Value→Array Value} {t':Nat} (I:Inv X pins σ H s) (hH:H l=some (.lst xs))
  (e:s.heap.get? l=some { cls:=.type "list",data:=.seq its.toArray n}) (hf:f its.toArray=its'.toArray) (hv:Vals ys its') (hz:ys.length≤sizeLine) :
  Inv X pins σ (upd H l (.lst ys)) { s with heap:=s.heap.update l (Obj.mapSeq f),toks:=t'}:=by
 have q:=PySem.IsL.update e f
 rw [hf] at q
 refine I.write (x:=l) (e:=l) (by rw [hH];exact trivial) (.inl rfl) (fun b' u hb hu=>(Heap.get?_update_other s.heap (Obj.mapSeq f) (Ne.symm hb)).trans hu) ⟨_,q⟩ ?_
 exact ⟨hz,its',_,hv,q⟩
theorem Inv.lnew {its:List Value} {t':Nat} (I:Inv X pins σ H s) (hv:Vals ys its) (hz:ys.length≤sizeLine) :
  Inv X pins σ (upd H s.heap.objs.size (.lst ys)) { s with heap:=s.heap.push { cls:=.type "list",data:=.seq its.toArray},toks:=t'}:=
 I.laid (fun _ _ q=>Heap.get?_push_of_some _ q) (Nat.le_refl _) ⟨hz,its,0,hv,Heap.get?_push_size _ rfl⟩
theorem Inv.fresh (I:Inv X pins σ H s):H s.heap.objs.size=none:=I.hok.fresh (Nat.le_refl _)
theorem Inv.lstM (I:Inv X pins σ H s) (hH:H l=some (.lst xs)):xs.length≤sizeLine∧∃ (its:List Value) (n:Nat),Vals xs its∧xs.length=its.length∧s.heap.get? l=some { cls:=.type "list",data:=.seq its.toArray n}:=by
 obtain ⟨z,its,n,r,e⟩:=I.hok l _ hH
 exact ⟨z,its,n,r,r.length,e⟩
theorem jca {n:Nat} (h:n≤sizeLine):Builtin.List.listTooLong n=false:=by
 unfold Builtin.List.listTooLong
 exact decide_eq_false (by omega)
end
section
variable {X:Cx}
def jxa:V→List V→Hp→VK→Prop:=fun x vs H Q=>∃ l xs y,x=.ref l∧vs=[y]∧H l=some (.lst xs)∧xs.length < sizeLine∧Q .non (upd H l (.lst (xs++[y])))
theorem jx1:MtM X "list.append" jxa:=by
 intro pins s σ H x vs v us Q I rx rv h
 obtain ⟨l,xs,y,rfl,rfl,hH,hz,q⟩:=h
 cases rx
 obtain ⟨u,rfl,ru⟩:=rv.one
 obtain ⟨z,its,n,r,hl,e⟩:=I.lstM hH
 refine call_meets F.slot_list_append ⟨_,e,rfl⟩ F.entry_list_append (F.args_list_append_2 _ _) (PySem.list_append l its.toArray n u (by rw [List.size_toArray];omega)) ⟨e,?_⟩
 refine ⟨.non,_,I.lset (its':=its++[u]) hH e (by simp) (r.append (.cons ru .nil)) ?_,rfl,q⟩
 rw [List.length_append,List.length_singleton]
 omega
def jvg:V→List V→Hp→VK→Prop:=fun x vs H Q=>∃ l b xs zs,x=.ref l∧vs=[.ref b]∧H l=some (.lst xs)∧H b=some (.lst zs)∧xs.length+zs.length≤sizeLine∧Q .non (upd H l (.lst (xs++zs)))
theorem jvo:MtM X "list.extend" jvg:=by
 intro pins s σ H x vs v us Q I rx rv h
 obtain ⟨l,b,xs,zs,rfl,rfl,hH,hB,hz,q⟩:=h
 cases rx
 obtain ⟨u,rfl,ru⟩:=rv.one
 cases ru
 obtain ⟨z,its,n,r,hl,e⟩:=I.lstM hH
 obtain ⟨z2,its2,n2,r2,hl2,e2⟩:=I.lstM hB
 have hsz:its.toArray.size+its2.toArray.size≤sizeLine:=by rw [List.size_toArray,List.size_toArray];omega
 have hlong:¬ (!its.toArray.isEmpty && Builtin.List.listTooLong (its.toArray.size+its2.toArray.size))=true:=by
  rw [jca hsz,Bool.and_false]
  exact Bool.false_ne_true
 refine call_meets F.slot_list_extend ⟨_,e,rfl⟩ F.entry_list_extend (F.args_list_extend_2 _ _)
  (AutoSeq1.list_extend_list_list_0 l its.toArray n b its2.toArray n2 hlong (by rw [List.size_toArray];omega) (by omega)) ⟨e,e2,?_⟩
 refine ⟨.non,_,I.lset (its':=its++its2) hH e (by simp) (r.append r2) ?_,rfl,q⟩
 rw [List.length_append]
 omega
def rPop:V→List V→Hp→VK→Prop:=fun x vs H Q=>∃ l xs y,x=.ref l∧vs=[]∧H l=some (.lst xs)∧xs[xs.length - 1]?=some y∧Q y (upd H l (.lst xs.dropLast))
theorem jk3:MtM X "list.pop" rPop:=by
 intro pins s σ H x vs v us Q I rx rv h
 obtain ⟨l,xs,y,rfl,rfl,hH,hy,q⟩:=h
 cases rx
 have hus:=rv.zero
 subst hus
 obtain ⟨z,its,n,r,hl,e⟩:=I.lstM hH
 obtain ⟨u,hu,ru⟩:=r.get hy
 have hy':its.toArray[its.toArray.size - 1]?=some u:=by
  show its.toArray[its.length - 1]?=some u
  rw [← Array.getElem?_toList,← hl]
  exact hu
 refine call_meets F.slot_list_pop ⟨_,e,rfl⟩ F.entry_list_pop (F.args_list_pop_1 _) (MeetsSeq.list_pop_last l its.toArray n u hy' (by rw [List.size_toArray];omega)) ⟨e,?_⟩
 refine ⟨y,_,I.lset (its':=its.dropLast) hH e ?_ r.dropLast ?_,ru,q⟩
 ·show its.toArray.eraseIdxIfInBounds (its.toArray.size - 1)=its.dropLast.toArray
  rw [List.size_toArray,List.eraseIdxIfInBounds_toArray,jd6]
 ·rw [List.length_dropLast]
  omega
def rCat:R2:=fun x y H Q=>∃ l b xs zs,x=.ref l∧y=.ref b∧H l=some (.lst xs)∧H b=some (.lst zs)∧xs.length+zs.length≤sizeLine∧∀ p,H p=none→Q (.ref p) (upd H p (.lst (xs++zs)))
theorem jvl:OpR X (binaryOp .Add) rCat:=by
 intro pins s σ H x y v u Q I rx ry h
 obtain ⟨l,b,xs,zs,rfl,rfl,hH,hB,hz,q⟩:=h
 cases rx
 cases ry
 obtain ⟨z,its,n,r,hl,e⟩:=I.lstM hH
 obtain ⟨z2,its2,n2,r2,hl2,e2⟩:=I.lstM hB
 refine PySem.P.add_list e e2 ?_ (by rw [List.size_toArray,List.size_toArray];omega)
 have ea:its.toArray++its2.toArray=(its++its2).toArray:=by simp
 rw [ea]
 exact ⟨.ref _,_,I.lnew (t':=s.toks) (r.append r2) (by rw [List.length_append];omega),rfl,q _ I.fresh⟩
end
section
variable {prog:Program} {w:World} {A:Around} {E:Value→Shared→Prop} {s:Shared}
end
section
variable {X:Cx}
end
end L2
namespace L2
open PySem PySem.Spec PyProof.Rows
section
variable {κ:Type} [DecidableEq κ]
def valV (kvs:List (κ×V)) (k:κ):Option V:=(kvs.find? fun kv=>decide (kv.1=k)).map (·.2)
def putK (kvs:List (κ×V)) (k:κ) (v:V):List (κ×V):=
 if (kvs.any fun kv=>decide (kv.1=k))=true then kvs.map (fun kv=>if kv.1=k then (kv.1,v) else kv) else kvs++[(k,v)]
theorem jg7 {k:κ}:valV ([]:List (κ×V)) k=none:=rfl
theorem jxo {p:κ×V} {r:List (κ×V)} {k:κ} (e:p.1=k):valV (p :: r) k=some p.2:=by simp [valV,List.find?_cons,e]
theorem jxp {p:κ×V} {r:List (κ×V)} {k:κ} (e:¬ p.1=k):valV (p :: r) k=valV r k:=by simp [valV,List.find?_cons,e]
theorem jj2 (k:κ):∀ kvs:List (κ×V),(kvs.any fun kv=>decide (kv.1=k))=(valV kvs k).isSome
 | []=>rfl
 | p :: r=>by
  rw [List.any_cons]
  by_cases e:p.1=k
  ·simp only [jxo e,decide_eq_true e,Bool.true_or,Option.isSome_some]
  ·rw [jxp e,decide_eq_false e,Bool.false_or];exact jj2 k r
theorem jbu (k j:κ) (y:V):∀ kvs:List (κ×V),valV (kvs.map fun kv=>if kv.1=k then (kv.1,y) else kv) j=(valV kvs j).map fun x=>if j=k then y else x
 | []=>rfl
 | p :: r=>by
  have ih:=jbu k j y r
  rw [List.map_cons]
  by_cases h:p.1=k
  ·rw [if_pos h]
   by_cases e:p.1=j
   ·rw [jxo (p:=(p.1,y)) e,jxo e,Option.map_some,if_pos (e.symm.trans h)]
   ·rw [jxp (p:=(p.1,y)) e,jxp e,ih]
  ·rw [if_neg h]
   by_cases e:p.1=j
   ·rw [jxo (p:=p) e,jxo e,Option.map_some,if_neg (fun z=>h (e.trans z))]
   ·rw [jxp (p:=p) e,jxp e,ih]
theorem ja9 (k j:κ) (y:V):∀ kvs:List (κ×V),valV kvs k=none→valV (kvs++[(k,y)]) j=if j=k then some y else valV kvs j
 | [],_=>by
  by_cases e:k=j
  ·rw [if_pos e.symm];exact jxo (p:=(k,y)) e
  ·rw [if_neg (fun z=>e z.symm)];exact jxp (p:=(k,y)) e
 | p :: r,hn=>by
  rw [List.cons_append]
  have hk:¬ p.1=k:=fun z=>by rw [jxo z] at hn;cases hn
  rw [jxp hk] at hn
  have ih:=ja9 k j y r hn
  by_cases e:p.1=j
  ·rw [jxo e,jxo e,if_neg (fun z=>hk (e.trans z))]
  ·rw [jxp e,jxp e,ih]
theorem jg6 (kvs:List (κ×V)) (k j:κ) (y:V):valV (putK kvs k y) j=if j=k then some y else valV kvs j:=by
 unfold putK
 by_cases a:(kvs.any fun kv=>decide (kv.1=k))=true
 ·rw [if_pos a,jbu]
  rw [jj2] at a
  by_cases e:j=k
  ·obtain ⟨x,hx⟩:=Option.isSome_iff_exists.mp a
   rw [if_pos e,e,hx,Option.map_some,if_pos rfl]
  ·rw [if_neg e]
   cases valV kvs j with
   | none=>rfl
   | some x=>rw [Option.map_some,if_neg e]
 ·rw [if_neg a]
  refine ja9 k j y kvs ?_
  rw [jj2] at a
  cases q:valV kvs k with
  | none=>rfl
  | some x=>rw [q] at a;exact (a rfl).elim
theorem jzy (kvs:List (κ×V)) (k:κ) (v:V):(putK kvs k v).length≤kvs.length+1:=by
 unfold putK
 split
 ·rw [List.length_map];omega
 ·rw [List.length_append,List.length_cons,List.length_nil];omega
theorem jgo {kvs:List (κ×V)} {k:κ} (v:V) (h:valV kvs k=none):putK kvs k v=kvs++[(k,v)]:=by
 unfold putK
 rw [jj2,h]
 exact if_neg (by decide)
theorem RelO.isSome_eq {o:Option V} {u:Option Value} (r:RelO o u):o.isSome=u.isSome:=by
 cases o with
 | none=>cases u with
  | none=>rfl
  | some _=>exact (show False from r).elim
 | some _=>cases u with
  | none=>exact (show False from r).elim
  | some _=>rfl
theorem RelO.getD {o:Option V} {u:Option Value} {d:V} {d':Value} (r:RelO o u) (rd:RelV d d'):RelV (o.getD d) (u.getD d'):=by
 cases o with
 | none=>cases u with
  | none=>exact rd
  | some _=>exact (show False from r).elim
 | some _=>cases u with
  | none=>exact (show False from r).elim
  | some _=>exact r
theorem KV.val {kvs:List (κ×V)} {vs:List (κ×Value)} (r:KV kvs vs) (k:κ):RelO (valV kvs k) (valueAt vs k):=by
 unfold KV at r
 induction r with
 | nil=>exact True.intro
 | @cons p q ps qs h t ih=>
  obtain ⟨h1,h2⟩:=h
  by_cases e:p.1=k
  ·have e':q.1=k:=h1.symm.trans e
   have b:valueAt (q :: qs) k=some q.2:=by simp [valueAt,List.find?_cons,e']
   rw [jxo e,b];exact h2
  ·have e':¬ q.1=k:=fun z=>e (h1.trans z)
   have b:valueAt (q :: qs) k=valueAt qs k:=by simp [valueAt,List.find?_cons,e']
   rw [jxp e,b];exact ih
theorem KV.any {kvs:List (κ×V)} {vs:List (κ×Value)} (r:KV kvs vs) (k:κ):(kvs.any fun kv=>decide (kv.1=k))=vs.any fun kv=>decide (kv.1=k):=by
 unfold KV at r
 induction r with
 | nil=>rfl
 | cons h t ih=>rw [List.any_cons,List.any_cons,ih,h.1]
theorem KV.repl {kvs:List (κ×V)} {vs:List (κ×Value)} (r:KV kvs vs) (k:κ) {y:V} {u:Value} (ry:RelV y u) :
  KV (kvs.map fun kv=>if kv.1=k then (kv.1,y) else kv) (vs.map fun kv=>if kv.1=k then (kv.1,u) else kv):=by
 unfold KV at r ⊢
 induction r with
 | nil=>exact .nil
 | @cons p q ps qs h t ih=>
  rw [List.map_cons,List.map_cons]
  refine .cons ?_ ih
  obtain ⟨h1,h2⟩:=h
  by_cases e:p.1=k
  ·rw [if_pos e,if_pos (h1.symm.trans e)];exact ⟨h1,ry⟩
  ·rw [if_neg e,if_neg (fun z=>e (h1.trans z))];exact ⟨h1,h2⟩
theorem KV.put {kvs:List (κ×V)} {vs:List (κ×Value)} (r:KV kvs vs) (k:κ) {y:V} {u:Value} (ry:RelV y u):KV (putK kvs k y) (stored vs k u):=by
 unfold putK stored
 rw [r.any k]
 by_cases e:(vs.any fun kv=>decide (kv.1=k))=true
 ·rw [if_pos e,if_pos e];exact r.repl k ry
 ·rw [if_neg e,if_neg e];exact Paired.snoc r ⟨rfl,ry⟩
theorem KV.keys {kvs:List (κ×V)} {vs:List (κ×Value)} (r:KV kvs vs):kvs.map (·.1)=vs.map (·.1):=by
 unfold KV at r
 induction r with
 | nil=>rfl
 | cons h t ih=>rw [List.map_cons,List.map_cons,ih,h.1]
theorem KV.length {kvs:List (κ×V)} {vs:List (κ×Value)} (r:KV kvs vs):kvs.length=vs.length:=Paired.length r
end
theorem jbh {P:Program} {w:World} {k:Key} {u:Value} (r:RelV (kV k) u):(jxy P w).is k u=true:=by
 cases k with
 | inl i=>obtain ⟨t,e⟩:=(show ∃ t,u=Value.int i t from r);subst e;exact jbd P w i t
 | inr x=>obtain ⟨t,e⟩:=(show ∃ t,u=Value.str x t from r);subst e;exact jbc P w x t
theorem jar {P:Program} {w:World}:∀ {ks:List Key} {us:List Value},Vals (ks.map kV) us→ItemsAre (jxy P w) ks us
 | [],_,r=>by rw [List.map_nil] at r;cases r;exact .nil
 | k :: ks,_,r=>by
  rw [List.map_cons] at r
  cases r with
  | cons h t=>exact .cons (jbh h) (jar t)
abbrev KT (H:Hp):List (List Key×V)→List (List Key×Addr×Value)→Prop:=Paired fun p q=>p.1=q.1∧H q.2.1=some (.tup (p.1.map kV))∧RelV p.2 q.2.2
theorem KT.val {H:Hp} {kvs:List (List Key×V)} {xs:List (List Key×Addr×Value)} (r:KT H kvs xs) (k:List Key):RelO (valV kvs k) ((atKey xs k).map (·.2)):=by
 induction r with
 | nil=>exact True.intro
 | @cons p q ps qs h t ih=>
  obtain ⟨h1,_,h2⟩:=h
  by_cases e:p.1=k
  ·have e':q.1=k:=h1.symm.trans e
   have b:atKey (q :: qs) k=some q.2:=by simp [atKey,List.find?_cons,e']
   rw [jxo e,b];exact h2
  ·have e':¬ q.1=k:=fun z=>e (h1.trans z)
   have b:atKey (q :: qs) k=atKey qs k:=by simp [atKey,List.find?_cons,e']
   rw [jxp e,b];exact ih
theorem KT.repl {H:Hp} {kvs:List (List Key×V)} {xs:List (List Key×Addr×Value)} (r:KT H kvs xs) (k:List Key) {y:V} {u:Value} (ry:RelV y u) :
  KT H (kvs.map fun kv=>if kv.1=k then (kv.1,y) else kv) (xs.map (putAt k u)):=by
 induction r with
 | nil=>exact .nil
 | @cons p q ps qs h t ih=>
  rw [List.map_cons,List.map_cons]
  refine .cons ?_ ih
  obtain ⟨h1,h2,h3⟩:=h
  unfold putAt
  by_cases e:p.1=k
  ·rw [if_pos e,if_pos (h1.symm.trans e)];exact ⟨h1,h2,ry⟩
  ·rw [if_neg e,if_neg (fun z=>e (h1.trans z))];exact ⟨h1,h2,h3⟩
theorem KT.put {H:Hp} {kvs:List (List Key×V)} {xs:List (List Key×Addr×Value)} (r:KT H kvs xs) (k:List Key) {b:Addr} {y:V} {u:Value} (hb:H b=some (.tup (k.map kV))) (ry:RelV y u) :
  KT H (putK kvs k y) (storedH xs k b u):=by
 have e:(kvs.any fun kv=>decide (kv.1=k))=(atKey xs k).isSome:=by
  rw [jj2,(r.val k).isSome_eq,Option.isSome_map]
 unfold putK storedH
 rw [e]
 by_cases q:(atKey xs k).isSome=true
 ·rw [if_pos q,if_pos q];exact r.repl k ry
 ·rw [if_neg q,if_neg q];exact Paired.snoc r ⟨rfl,hb,ry⟩
theorem KT.keeps {H H':Hp} {kvs:List (List Key×V)} {xs:List (List Key×Addr×Value)} (r:KT H kvs xs) (ht:∀ b ys,H b=some (.tup ys)→H' b=some (.tup ys)):KT H' kvs xs:=
 Paired.mapP r fun _ _ z=>⟨z.1,ht _ _ z.2.1,z.2.2⟩
section
variable {P:Program} {w:World} {H:Hp} {h:Heap} {a:Addr}
theorem jpp {u:HO} (ok:HOk P w H h) (e:Rd H a u):ObjOk P w H h a u:=e.ok ok
theorem jwz {kvs:List (Key×V)} (ok:HOk P w H h) (e:Rd H a (.dK kvs)):kvs.length≤sizeLine∧(a == sysModules)=false∧∃ vs,KV kvs vs∧h.DictOf (jxy P w) a vs:=
 show ObjOk P w H h a (.dK kvs) from jpp ok e
theorem jrx {kvs:List (Key×V)} (ok:HOk P w H h) (e:H a=some (.dK kvs)):kvs.length≤sizeLine∧(a == sysModules)=false∧∃ vs,KV kvs vs∧h.DictOf (jxy P w) a vs:=jwz ok (.inl e)
theorem jwc {ks:List Key} (ok:HOk P w H h) (e:H a=some (.tup (ks.map kV))):(tupleKind (jxy P w)).is h ks a:=by
 obtain ⟨_,its,r,o,h1,h2,n,h3⟩:=(show ObjOk P w H h a (.tup (ks.map kV)) from ok a _ e)
 exact ⟨o,its.toArray,n,h1,h2,h3,by simpa using jar r⟩
theorem jbi {kvs:List (List Key×V)} (ok:HOk P w H h) (e:Rd H a (.dT kvs)):kvs.length≤sizeLine∧(a == sysModules)=false∧
  ∃ xs,KT H kvs xs∧h.DictOfH (tupleKind (jxy P w)) a xs:=by
 obtain ⟨z,y,xs,r,o,es,ep,h1,h2,h3,h4,h5⟩:=(show ObjOk P w H h a (.dT kvs) from jpp ok e)
 refine ⟨z,y,xs,r,o,es,ep,h1,h2,h3,h4,fun x hx=>?_,h5⟩
 have all:∀ {l:List (List Key×V)} {m:List (List Key×Addr×Value)},KT H l m→∀ x∈m,(tupleKind (jxy P w)).is h x.1 x.2.1:=by
  intro l m q
  induction q with
  | nil=>intro x hx;exact nomatch hx
  | @cons p q ps qs hq t ih=>
   intro x hx
   rcases List.mem_cons.mp hx with e|hx
   ·subst e
    exact jwc ok (by rw [← hq.1];exact hq.2.1)
   ·exact ih x hx
 exact all r x hx
theorem dt_of {kvs:List (List Key×V)} (ok:HOk P w H h) (e:H a=some (.dT kvs)):kvs.length≤sizeLine∧(a == sysModules)=false∧
  ∃ xs,KT H kvs xs∧h.DictOfH (tupleKind (jxy P w)) a xs:=jbi ok (.inl e)
end
def DGet (H:Hp) (a:Addr) (y:V) (r:Option V):Prop:=
 (∃ kvs k,Rd H a (.dK kvs)∧y=kV k∧r=valV kvs k)∨∃ kvs k b,Rd H a (.dT kvs)∧y=.ref b∧H b=some (.tup (k.map kV))∧r=valV kvs k
def DPut (H:Hp) (a:Addr) (y v:V) (H':Hp):Prop:=
 (∃ kvs k,H a=some (.dK kvs)∧y=kV k∧kvs.length < sizeLine∧H'=upd H a (.dK (putK kvs k v)))∨
 ∃ kvs k b,H a=some (.dT kvs)∧y=.ref b∧H b=some (.tup (k.map kV))∧kvs.length < sizeLine∧H'=upd H a (.dT (putK kvs k v))
theorem DGet.k {H:Hp} {a:Addr} {kvs:List (Key×V)} {k:Key} (e:H a=some (.dK kvs)):DGet H a (kV k) (valV kvs k):=.inl ⟨kvs,k,.inl e,rfl,rfl⟩
theorem DPut.k {H:Hp} {a:Addr} {kvs:List (Key×V)} {k:Key} {v:V} (e:H a=some (.dK kvs)) (hl:kvs.length < sizeLine):DPut H a (kV k) v (upd H a (.dK (putK kvs k v))):=.inl ⟨kvs,k,e,rfl,hl,rfl⟩
section
variable {X:Cx} {pins:List (Addr×Obj)} {σ:St} {H:Hp} {s:Shared} {a:Addr} {y v:V} {u r:Value} {o:Option V} {A:Around} {E:Value→Shared→Prop}
theorem Inv.big (I:Inv X pins σ H s):sysModules < s.heap.objs.size:=by
 have h:mainGlobals < s.heap.objs.size:=(I.mod.glob.keeps I.bk).lt
 exact Nat.lt_trans (by decide) h
theorem jfv {Q:Value→Shared→Prop} (hu:A.units+1 < cLine) (I:Inv X pins σ H s) (g:DGet H a y (some v)) (ry:RelV y u) (h:∀ w' s',Inv X pins σ H s'→RelV v w'→Q w' s') :
  wpAny (model X.prog X.w) A (getItem (.ref a) u) Q E s:=by
 rcases g with ⟨kvs,k,e,ey,l⟩|⟨kvs,k,b,e,ey,eb,l⟩
 ·subst ey
  obtain ⟨z,hd,vs,rel,dd⟩:=jwz I.hok e
  obtain ⟨w',hw,rw'⟩:=RelO.some_of (v:=v) (o:=valueAt vs k) (by rw [l];exact rel.val k)
  exact wpAny_getItem_of (jbh ry) dd.mapOf hw (h w' _ (I.tok _) rw')
 ·subst ey
  cases (show u=Value.ref b from ry)
  obtain ⟨z,hd,xs,rel,dd⟩:=jbi I.hok e
  obtain ⟨w',hw,rw'⟩:=RelO.some_of (v:=v) (o:=(atKey xs k).map (·.2)) (by rw [l];exact rel.val k)
  obtain ⟨p,hp,hp2⟩:=Option.map_eq_some_iff.mp hw
  refine wpAny_getItem_heap (tupleKind_room_in1 hu) (jwc I.hok eb) dd hp ?_
  rw [hp2]
  exact h w' _ (I.tok _) rw'
theorem d_in {Q:Value→Shared→Prop} (hu:A.units+1 < cLine) (I:Inv X pins σ H s) (g:DGet H a y o) (ry:RelV y u) (h:∀ s',Inv X pins σ H s'→Q (.bool o.isSome) s') :
  wpAny (model X.prog X.w) A (compareOp .In u (.ref a)) Q E s:=by
 rcases g with ⟨kvs,k,e,ey,l⟩|⟨kvs,k,b,e,ey,eb,l⟩
 ·subst ey
  obtain ⟨z,hd,vs,rel,dd⟩:=jwz I.hok e
  refine wpAny_in_of (jbh ry) hd dd.mapOf ?_
  rw [← (rel.val k).isSome_eq,← l]
  exact h _ (I.tok _)
 ·subst ey
  cases (show u=Value.ref b from ry)
  obtain ⟨z,hd,xs,rel,dd⟩:=jbi I.hok e
  refine wpAny_in_heap (tupleKind_room_in1 hu) (jwc I.hok eb) hd dd ?_
  have q:=(rel.val k).isSome_eq
  rw [Option.isSome_map] at q
  rw [← q,← l]
  exact h _ (I.tok _)
theorem jn0 {Q:Value→Shared→Prop} (hu:A.units+1 < cLine) (I:Inv X pins σ H s) (g:DGet H a y o) (ry:RelV y u) (h:∀ s',Inv X pins σ H s'→Q (.bool (!o.isSome)) s') :
  wpAny (model X.prog X.w) A (compareOp .NotIn u (.ref a)) Q E s:=by
 rcases g with ⟨kvs,k,e,ey,l⟩|⟨kvs,k,b,e,ey,eb,l⟩
 ·subst ey
  obtain ⟨z,hd,vs,rel,dd⟩:=jwz I.hok e
  refine wpAny_notIn_of (jbh ry) hd dd.mapOf ?_
  rw [← (rel.val k).isSome_eq,← l]
  exact h _ (I.tok _)
 ·subst ey
  cases (show u=Value.ref b from ry)
  obtain ⟨z,hd,xs,rel,dd⟩:=jbi I.hok e
  refine wpAny_notIn_heap (tupleKind_room_in1 hu) (jwc I.hok eb) hd dd ?_
  have q:=(rel.val k).isSome_eq
  rw [Option.isSome_map] at q
  rw [← q,← l]
  exact h _ (I.tok _)
theorem jbl {h':Heap} {t':Nat} {ob:HO} (I:Inv X pins σ H s) (mu:Mut (H a)) (hs:Heap.SameBut a s.heap h') (he:∃ q,h'.get? a=some q) (new:ObjOk X.prog X.w (upd H a ob) h' a ob) :
  Inv X pins σ (upd H a ob) { s with heap:=h',toks:=t'}:=
 I.write (x:=a) (e:=a) mu (.inl rfl) (fun b q hb z=>(hs.2 b hb).trans z) he new
theorem jfq {P:Program} {w:World} {H':Hp} {h':Heap} {kvs:List (Key×V)} {vs:List (Key×Value)} (z:kvs.length≤sizeLine) (hd:(a == sysModules)=false) (rel:KV kvs vs) (dd:h'.DictOf (jxy P w) a vs) :
  ObjOk P w H' h' a (.dK kvs):=⟨z,hd,vs,rel,dd⟩
theorem jfu {H':Hp} {Q:Unit→Shared→Prop} (hu:A.units+1 < cLine) (I:Inv X pins σ H s) (g:DPut H a y v H') (ry:RelV y u) (rv:RelV v r) (h:∀ s',Inv X pins σ H' s'→Q () s') :
  wpAny (model X.prog X.w) A (setItem (.ref a) u r) Q E s:=by
 rcases g with ⟨kvs,k,e,ey,l,eH⟩|⟨kvs,k,b,e,ey,eb,l,eH⟩
 ·subst ey eH
  obtain ⟨z,hd,vs,rel,dd⟩:=jrx I.hok e
  have hz:vs.length≤sizeLine:=by rw [← rel.length];exact z
  have hl:(putK kvs k v).length≤sizeLine:=by have:=jzy kvs k v;omega
  refine wpAny_setItem_pairs (hsz:=hz) (jbh ry) dd fun h' dd' hs=>h _ ?_
  have he:∃ q,h'.get? a=some q:=let ⟨q,_,_,hq,_⟩:=dd';⟨q,hq⟩
  exact jbl I (by rw [e];exact True.intro) hs he (jfq hl hd (rel.put k rv) dd')
 ·subst ey eH
  cases (show u=Value.ref b from ry)
  obtain ⟨z,hd,xs,rel,dd⟩:=dt_of I.hok e
  have hz:xs.length≤sizeLine:=by rw [← Paired.length rel];exact z
  have hl:(putK kvs k v).length≤sizeLine:=by have:=jzy kvs k v;omega
  refine wpAny_setItem_heap (hsz:=hz) (tupleKind_room_in1 hu) (jwc I.hok eb) dd fun h' dd' hs=>h _ ?_
  obtain ⟨q,es,ep,hq,h2,h3,h4,_,h5⟩:=dd'
  refine jbl I (by rw [e];exact True.intro) hs ⟨q,hq⟩ ⟨hl,hd,_,(rel.put k eb rv).keeps fun c ys ec=>?_,q,es,ep,hq,h2,h3,h4,h5⟩
  rw [jqb (jxk ec e (fun z=>nomatch z))]
  exact ec
end
section
variable {X:Cx} {pins:List (Addr×Obj)} {σ:St} {H:Hp} {s:Shared} {a:Addr} {kvs:List (Key×V)} {k:Key} {u:Value} {A:Around} {E:Value→Shared→Prop}
end
def NoSl (i:Expr):Prop:=∀ ov iv,subscripted i false ov iv=operate [ov,iv] (getItem ov iv)
theorem jly {prog:Program} {w:World} {A:Around} {E:Value→Shared→Prop} {s:Shared} {env:Env} {value slice:Expr} {pos:Pos} {T id:String} {Q:Value→Shared→Prop}
  (hl:typeLookup (.type T) "__getitem__"=pure (some (.builtin id))) (hs:NoSl slice)
  (h:wpAny (model prog w) A (eval value env) (fun o s₁=>wpAny (model prog w) A (eval slice env) (fun i s₂=>s₂.TypeIs o T∧wpAny (model prog w) A (getItem o i) Q E s₂) E s₁) E s) :
  wpAny (model prog w) A (eval (.Subscript value slice pos) env) Q E s:=by
 refine Subscript_ (wpAny_mono h (fun o s₁ h₁=>wpAny_mono h₁ (fun i s₂ h₂=>?_) fun _ _ x=>x) fun _ _ x=>x)
 obtain ⟨hT,h₂⟩:=h₂
 unfold subscriptTail
 refine wpAny_bind ?_
 rw [getitemInPython_of_ne hT.not_modules]
 refine wpAny_bind (wpAny_specialOf hT hl ?_)
 have fin:wpAny (model prog w) A (subscripted slice false o i) (fun r s₃=>wpAny (model prog w) A (letTemporaryGo value o r >>= fun _=>pure r) Q E s₃) E s₂:=by
  rw [hs o i]
  exact wpAny_operating (wpAny_mono h₂ (fun r s₃ h₃=>wpAny_bind (wpAny_letTemporaryGo (wpAny_pure h₃))) fun _ _ x=>x)
 first
  | exact wpAny_pure (wpAny_bind fin)
  | exact wpAny_bind (wpAny_pure (wpAny_bind fin))
  | exact wpAny_bind fin
theorem jbj {X:Cx} {pins:List (Addr×Obj)} {σ:St} {H:Hp} {s:Shared} {a:Addr} {y:V} {o:Option V} (I:Inv X pins σ H s) (g:DGet H a y o):s.TypeIs (.ref a) "dict":=by
 rcases g with ⟨kvs,k,e,_,_⟩|⟨kvs,k,b,e,_,_,_⟩
 ·obtain ⟨_,_,vs,_,dd⟩:=jwz I.hok e
  exact dd.typeIs
 ·obtain ⟨_,_,xs,_,dd⟩:=jbi I.hok e
  exact dd.typeIs
def jgd (td ty:TE):TE:=fun σ H Q=>td σ H fun x H1=>ty σ H1 fun y H2=>∃ a v,x=.ref a∧DGet H2 a y (some v)∧Q v H2
def tDIn (ty td:TE):TE:=fun σ H Q=>ty σ H fun y H1=>td σ H1 fun x H2=>∃ a o,x=.ref a∧DGet H2 a y o∧Q (.bl o.isSome) H2
def jb3 (ty td:TE):TE:=fun σ H Q=>ty σ H fun y H1=>td σ H1 fun x H2=>∃ a o,x=.ref a∧DGet H2 a y o∧Q (.bl (!o.isSome)) H2
def jb6 (td ty tv:TE):TS:=fun D σ H=>tv σ H fun v H1=>td σ H1 fun x H2=>ty σ H2 fun y H3=>∃ a H4,x=.ref a∧DPut H3 a y v H4∧D.nx σ H4
section
variable {X:Cx} {o i e value:Expr} {pos pos' tpos:Pos} {td ty tv:TE}
theorem jb9 (hu:X.A.units+1 < cLine) (ho:PE X o td) (hi:PE X i ty) (hs:NoSl i):PE X (.Subscript o i pos) (jgd td ty):=by
 intro pins s σ H Q I h
 refine jly PySem.F.slot_dict_getitem.lookup hs (thn (ho pins s σ H _ I h) fun u s1 ⟨x,H1,I1,rx,q1⟩=>thn (hi pins s1 σ H1 _ I1 q1) fun iv s2 ⟨y,H2,I2,ry,a,v,ex,g,q2⟩=>?_)
 subst ex
 obtain rfl:u=Value.ref a:=rx
 exact ⟨jbj I2 g,jfv hu I2 g ry fun w' s3 I3 rw'=>⟨v,H2,I3,rw',q2⟩⟩
theorem jia (hu:X.A.units+1 < cLine) (hi:PE X i ty) (ho:PE X o td):PC X .In i o (tDIn ty td):=by
 intro pins s σ H Q I h
 refine thn (hi pins s σ H _ I h) fun iv s1 ⟨y,H1,I1,ry,q1⟩=>thn (ho pins s1 σ H1 _ I1 q1) fun u s2 ⟨x,H2,I2,rx,a,ov,ex,g,q2⟩=>?_
 subst ex
 obtain rfl:u=Value.ref a:=rx
 exact d_in hu I2 g ry fun s3 I3=>⟨.bl ov.isSome,H2,I3,rfl,q2⟩
theorem jam (hu:X.A.units+1 < cLine) (hi:PE X i ty) (ho:PE X o td):PC X .NotIn i o (jb3 ty td):=by
 intro pins s σ H Q I h
 refine thn (hi pins s σ H _ I h) fun iv s1 ⟨y,H1,I1,ry,q1⟩=>thn (ho pins s1 σ H1 _ I1 q1) fun u s2 ⟨x,H2,I2,rx,a,ov,ex,g,q2⟩=>?_
 subst ex
 obtain rfl:u=Value.ref a:=rx
 exact jn0 hu I2 g ry fun s3 I3=>⟨.bl (!ov.isSome),H2,I3,rfl,q2⟩
theorem jkk (hu:X.A.units+1 < cLine) (ho:PE X o td) (hi:PE X i ty) (hv:PE X value tv) (hs:swapsWith value (some (.Subscript o i pos')) pos.line X.env=pure false) :
  PS X (.Assign [.Subscript o i pos'] value pos) (jb6 td ty tv):=by
 intro pins s σ H D I h
 refine wpAny_Assign_Subscript (thn (hv pins s σ H _ I h) fun r s1 ⟨v,H1,I1,rv,q1⟩=>thn (ho pins s1 σ H1 _ I1 q1) fun u s2 ⟨x,H2,I2,rx,q2⟩=>thn (hi pins s2 σ H2 _ I2 q2) fun iv s3 ⟨y,H3,I3,ry,a,H4,ex,g,q3⟩=>?_) hs
 subst ex
 obtain rfl:u=Value.ref a:=rx
 exact jfu hu I3 g ry rv fun s4 I4=>⟨σ,H4,I4,q3⟩
end
theorem jcg {P:Program} {w:World} {H:Hp} (h:Heap) (hb:sysModules < h.objs.size):ObjOk P w H (h.push { cls:=.type "dict",data:=.dict #[]}) h.objs.size (.dK []):=
 ⟨Nat.zero_le _,beq_eq_false_iff_ne.mpr (Ne.symm (Nat.ne_of_lt hb)),[],.nil,Heap.DictOf.new h⟩
def jku:TE:=fun _ H Q=>∀ p,H p=none→Q (.ref p) (upd H p (.dK []))
section
variable {X:Cx} {pos:Pos}
theorem jjy:PE X (.Dict [] [] pos) jku:=fun pins s σ H Q I h=>
 wpAny_Dict_empty ⟨.ref s.heap.objs.size,_,I.laid (a:=s.heap.objs.size) (o:=.dK []) (t':=s.toks) (fun _ _ q=>Heap.get?_push_of_some _ q) (Nat.le_refl _) (jcg s.heap I.big),rfl,h _ (I.hok.fresh (Nat.le_refl _))⟩
end
def je1:List (TE×TE)→St→Hp→(List (V×V)→Hp→Prop)→Prop
 | [],_,H,Q=>Q [] H
 | (tk,tv) :: r,σ,H,Q=>tk σ H fun x H1=>tv σ H1 fun y H2=>je1 r σ H2 fun ps H3=>Q ((x,y) :: ps) H3
abbrev VV:List (V×V)→List (Value×Value)→Prop:=Paired fun p q=>RelV p.1 q.1∧RelV p.2 q.2
def PPs (X:Cx) (pos:Pos) (keys:List (Option Expr)) (values:List Expr) (trs:List (TE×TE)):Prop:=
 ∀ (pins:List (Addr×Obj)) (s:Shared) (σ:St) (H:Hp) (Q:List (V×V)→Hp→Prop),Inv X pins σ H s→je1 trs σ H Q→
  wpAny (model X.prog X.w) X.A (evalPairs (pairTrees keys values X.env pos)) (fun vs s'=>∃ ps H',Inv X pins σ H' s'∧VV ps vs∧Q ps H') X.xe s
theorem jmc {X:Cx} {pos:Pos}:PPs X pos [] [] []:=fun pins s σ H Q I h=>pairTrees_nil_walk ⟨[],H,I,.nil,h⟩
theorem jjx {X:Cx} {pos:Pos} {k v:Expr} {ks:List (Option Expr)} {vs:List Expr} {tk tv:TE} {trs:List (TE×TE)} (hk:PE X k tk) (hv:PE X v tv) (hr:PPs X pos ks vs trs) :
  PPs X pos (some k :: ks) (v :: vs) ((tk,tv) :: trs):=fun pins s σ H Q I h=>
 pairTrees_cons_walk (thn (hk pins s σ H _ I h) fun u s1 ⟨x,H1,I1,rx,q1⟩=>thn (hv pins s1 σ H1 _ I1 q1) fun w2 s2 ⟨y,H2,I2,ry,q2⟩=>
  thn (hr pins s2 σ H2 _ I2 q2) fun ws s3 ⟨ps,H3,I3,rel,q3⟩=>⟨(x,y) :: ps,H3,I3,.cons ⟨rx,ry⟩ rel,q3⟩)
def jqy (kvs more:List (Key×V)):List (Key×V):=more.foldl (fun acc kv=>putK acc kv.1 kv.2) kvs
theorem KV.merge:∀ {more:List (Key×V)} {rs:List (Key×Value)} {kvs:List (Key×V)} {vs:List (Key×Value)},KV more rs→KV kvs vs→KV (jqy kvs more) (merged vs rs):=by
 intro more rs kvs vs r
 unfold KV at r
 induction r generalizing kvs vs with
 | nil=>intro q;exact q
 | @cons p q ps qs h t ih=>
  intro r0
  have e:KV (putK kvs p.1 p.2) (stored vs q.1 q.2):=by
   have:=r0.put p.1 h.2
   rw [← h.1];exact this
  exact ih e
theorem jke:∀ (more kvs:List (Key×V)),(jqy kvs more).length≤kvs.length+more.length
 | [],kvs=>by show kvs.length≤kvs.length+0;omega
 | p :: r,kvs=>by
  have h1:=jke r (putK kvs p.1 p.2)
  have h2:=jzy kvs p.1 p.2
  show (jqy (putK kvs p.1 p.2) r).length≤_
  rw [List.length_cons];omega
theorem jwe {P:Program} {w:World}:∀ {kvs:List (Key×V)} {ws:List (Value×Value)},VV (kvs.map fun kv=>(kV kv.1,kv.2)) ws→∃ rs,Carries (jxy P w) ws rs∧KV kvs rs
 | [],_,r=>by rw [List.map_nil] at r;cases r;exact ⟨[],True.intro,.nil⟩
 | p :: kvs,_,r=>by
  rw [List.map_cons] at r
  cases r with
  | @cons a b as bs h t=>
   obtain ⟨rs,c,q⟩:=jwe (P:=P) (w:=w) t
   obtain ⟨b1,b2⟩:=b
   exact ⟨(p.1,b2) :: rs,⟨jbh h.1,rfl,c⟩,.cons ⟨rfl,h.2⟩ q⟩
def jlx (trs:List (TE×TE)):TE:=fun σ H Q=>∀ p,H p=none→je1 trs σ (upd H p (.dK [])) fun ps H2=>H2 p=some (.dK [])∧∃ kvs:List (Key×V),ps=kvs.map (fun kv=>(kV kv.1,kv.2))∧kvs.length≤15∧Q (.ref p) (upd H2 p (.dK (jqy [] kvs)))
theorem jmg {X:Cx} {pos:Pos} {keys:List (Option Expr)} {values:List Expr} {trs:List (TE×TE)} (h:PPs X pos keys values trs) (hall:keys.all (·.isSome)=true) (hl:keys.length=values.length) (h0:keys≠[])
  (h15:keys.length≤15):PE X (.Dict keys values pos) (jlx trs):=by
 intro pins s σ H Q I q
 have hn:=I.hok.fresh (Nat.le_refl s.heap.objs.size)
 have I1:=I.laid (a:=s.heap.objs.size) (o:=.dK []) (h':=s.heap.push { cls:=.type "dict",data:=.dict #[]}) (t':=s.toks) (fun _ _ q=>Heap.get?_push_of_some _ q) (Nat.le_refl _) (jcg s.heap I.big)
 refine wpAny_Dict_walk (knd:=jxy X.prog X.w) hall hl h0 h15 (thn (h pins _ σ _ _ I1 (q _ hn)) fun ws s2 ⟨ps,H2,I2,rel,e,kvs,ep,lk,q2⟩=>?_)
 subst ep
 obtain ⟨rs,c,rk⟩:=jwe (P:=X.prog) (w:=X.w) rel
 obtain ⟨z,hd,vs0,r0,dd⟩:=jrx I2.hok e
 cases r0
 refine ⟨rs,c,dd,fun h' dd' hs=>⟨.ref s.heap.objs.size,_,?_,rfl,q2⟩⟩
 have hz:(jqy [] kvs).length≤sizeLine:=by
  have h1:=jke kvs []
  rw [List.length_nil] at h1
  rw [sizeLine_eq];omega
 have he:∃ q,h'.get? s.heap.objs.size=some q:=let ⟨q,_,_,hq,_⟩:=dd';⟨q,hq⟩
 exact jbl I2 (by rw [e];exact True.intro) hs he (jfq hz hd (rk.merge .nil) dd')
structure M2 (X:Cx) (o:Expr) (m:Str) (apos:Pos) (e f:Expr) (cpos:Pos):Prop where
 base:attributeBase o m X.env (eval o X.env)=eval o X.env
 few:((backTo cpos (starEach [e,f] X.env)).all (fun x=>!x.1) && (backToKw cpos (keywordEach [] X.env)).all (fun x=>x.1.isSome)
  && decide (([e,f]:List Expr).length+([]:List Keyword).length+(if ([]:List Keyword).isEmpty then 0 else 1) < 30))=true
 line:(apos.endLine == cpos.line)=true
 trees:backTo cpos (starEach [e,f] X.env)=[(false,eval e X.env),(false,eval f X.env)]
def IsD (H:Hp) (a:Addr):Prop:=(∃ kvs,Rd H a (.dK kvs))∨∃ kvs,Rd H a (.dT kvs)
theorem jrp {X:Cx} {pins:List (Addr×Obj)} {σ:St} {H:Hp} {s:Shared} {a:Addr} (I:Inv X pins σ H s) (d:IsD H a) :
  s.TypeIs (.ref a) "dict"∧(∀ b,Value.ref a=.ref b→∃ ob,s.heap.get? b=some ob∧ob.dict=none)∧(a == sysModules)=false:=by
 rcases d with ⟨kvs,e⟩|⟨kvs,e⟩
 ·obtain ⟨_,hd,vs,_,dd⟩:=jwz I.hok e
  refine ⟨dd.typeIs,fun b q=>?_,hd⟩
  cases q
  obtain ⟨ob,_,_,h1,h2,_⟩:=dd
  exact ⟨ob,h1,h2.2.1⟩
 ·obtain ⟨_,hd,xs,_,dd⟩:=jbi I.hok e
  refine ⟨dd.typeIs,fun b q=>?_,hd⟩
  cases q
  obtain ⟨ob,_,_,h1,h2,_⟩:=dd
  exact ⟨ob,h1,h2.2.1⟩
section
variable {X:Cx} {pins:List (Addr×Obj)} {σ:St} {H:Hp} {s:Shared} {a:Addr} {y d:V} {u r:Value} {o:Option V} {A:Around} {E:Value→Shared→Prop}
theorem jry {Q:Value→Shared→Prop} (hu:A.units+1 < cLine) (I:Inv X pins σ H s) (g:DGet H a y o) (ry:RelV y u) (rd:RelV d r) (h:∀ w' s',Inv X pins σ H s'→RelV (o.getD d) w'→Q w' s') :
  wpAny (model X.prog X.w) A (call (.builtin "dict.get") [.ref a,u,r]) Q E s:=by
 rcases g with ⟨kvs,k,e,ey,l⟩|⟨kvs,k,b,e,ey,eb,l⟩
 ·subst ey
  obtain ⟨z,hd,vs,rel,dd⟩:=jwz I.hok e
  refine call_meetsIn PySem.F.slot_dict_get dd.typeIs PySem.F.entry_dict_get (PySem.F.args_dict_get_3 _ _ _) (meets_dict_get_default (jxy X.prog X.w) a (jbh ry) hd r) ⟨_,dd.mapOf,h _ _ (I.tok _) ?_⟩
  rw [l]
  exact (rel.val k).getD rd
 ·subst ey
  cases (show u=Value.ref b from ry)
  obtain ⟨z,hd,xs,rel,dd⟩:=jbi I.hok e
  refine call_meetsIn PySem.F.slot_dict_get dd.typeIs PySem.F.entry_dict_get (PySem.F.args_dict_get_3 _ _ _) (meetsH_dict_get_default (tupleKind (jxy X.prog X.w)) a b hd r) ⟨tupleKind_room_in1 hu,k,xs,jwc I.hok eb,dd,h _ _ (I.tok _) ?_⟩
  rw [l]
  exact (rel.val k).getD rd
end
def je2 (td ty tx:TE):TE:=fun σ H Q=>td σ H fun x H1=>∃ a,x=.ref a∧IsD H1 a∧ty σ H1 fun y H2=>tx σ H2 fun z H3=>∃ o,DGet H3 a y o∧Q (o.getD z) H3
section
variable {X:Cx} {o e f:Expr} {apos cpos:Pos} {td ty tx:TE}
theorem jc6 (hu:X.A.units+1 < cLine) (ho:PE X o td) (he:PE X e ty) (hf:PE X f tx) (m:M2 X o "get" apos e f cpos):PE X (.Call (.Attribute o "get" apos) [e,f] [] cpos) (je2 td ty tx):=by
 intro pins s σ H Q I h
 refine wpAny_Call_method m.base m.few m.line PySem.F.plainAttrs_dict PySem.F.slot_dict_get PySem.F.type_dict_get (thn (ho pins s σ H _ I h) fun u s1 ⟨x,H1,I1,rx,a,ex,d,q1⟩=>?_)
 subst ex
 obtain rfl:u=Value.ref a:=rx
 obtain ⟨t1,t2,_⟩:=jrp I1 d
 refine ⟨t1,t2,?_⟩
 rw [m.trees]
 refine Calls.callWith_builtin rfl (Calls.evalArgs_plain (Calls.spliced_cons (thn (he pins s1 σ H1 _ I1 q1) fun iv s2 ⟨y,H2,I2,ry,q2⟩=>
  Calls.spliced_cons (thn (hf pins s2 σ H2 _ I2 q2) fun fv s3 ⟨z,H3,I3,rz,ov,g,q3⟩=>Calls.spliced_nil ?_))))
 exact jry hu I3 g ry rz fun w' s4 I4 rw'=>⟨_,H3,I4,rw',q3⟩
end
section
variable {X:Cx} {pins:List (Addr×Obj)} {σ:St} {H:Hp} {s:Shared} {a:Addr} {kvs:List (Key×V)} {A:Around} {E:Value→Shared→Prop}
theorem jhe {Q:Value→Shared→Prop} (I:Inv X pins σ H s) (e:Rd H a (.dK kvs)) (h:∀ p s',H p=none→Inv X pins σ (upd H p (.dK kvs)) s'→Q (.ref p) s'):wpAny (model X.prog X.w) A (call (.type "dict") [.ref a]) Q E s:=by
 obtain ⟨z,hd,vs,rel,dd⟩:=jwz I.hok e
 refine kt_call_dict hd dd (by rw [← rel.length];exact z) fun h' dd' hs=>?_
 refine h _ _ (I.hok.fresh (Nat.le_refl _)) (I.laid (a:=s.heap.objs.size) (o:=.dK kvs) (t':=s.toks) (fun b q hq=>?_) (Nat.le_refl _) (jfq z (beq_eq_false_iff_ne.mpr (Ne.symm (Nat.ne_of_lt I.big))) rel dd'))
 exact (hs.2 b (Nat.ne_of_lt (Heap.lt_size hq))).trans (Heap.get?_push_of_some _ hq)
end
section
variable {X:Cx} {pins:List (Addr×Obj)} {σ:St} {H:Hp} {s:Shared} {a:Addr} {y:V} {u:Value} {A:Around} {E:Value→Shared→Prop}
end
end L2
namespace Att
open PySem PySem.W PySem.Calls PyProof.Rows
theorem jvu {P:Params} {h:Heap}:∀ (ns:List Int) (vs:List Value),WellAll P h vs (ns.map WData.int)→IntsAre vs ns:=by
 intro ns
 induction ns with
 | nil=>
  intro vs w
  rw [List.map_nil] at w
  cases w
  exact .nil
 | cons n ns ih=>
  intro vs w
  rw [List.map_cons] at w
  cases w with
  | cons a b=>
   cases a
   exact .cons _ _ (ih _ b)
theorem jek {l:OpenLaw} {n:Nat} (hn:l.most=some n) {P:Params} {h:Heap} {args:List WData} {vals:List Value}
  (hpre:l.row.toRowW.claim.pre args=true) (hwl:WellAll P h vals args) :
  ∃ a vs ns,vals=[Value.ref a]∧args=[WData.list (ns.map WData.int)]∧h.get? a=some { cls:=.type "list",data:=.seq vs.toArray}∧IntsAre vs ns∧ns.length≤n:=by
 have hsh:WShape.hasAll [] args [.list .int]=true:=(pre_splitW hpre).1
 have hc:l.pre.holds [] { args:=args}=true:=(pre_splitW hpre).2
 obtain ⟨d,r,rfl,h1,h2⟩:=hasAllW_cons hsh
 obtain rfl:=hasAllW_nil h2
 obtain ⟨xs,rfl,h3⟩:=hasW_list h1
 obtain ⟨ns,rfl⟩:=items_int h3
 have hlen:ns.length≤n:=by
  unfold OpenLaw.pre at hc
  have h4:(WTm.not (.lt (.lit (.int (n:Int))) (.len (.arg 0)))).holds [] { args:=[.list (ns.map .int)]}=true:=by
   have h4:=(holds_andW hc).1
   rw [hn] at h4
   exact h4
  have h5:=condW_of h4 (w_not (w_lt w_lit (w_len_list (w_arg rfl))))
  rw [List.length_map] at h5
  refine Nat.le_of_not_lt fun q=>?_
  have q':(n:Int) < ((ns.length:Nat):Int):=by omega
  first
   | (rw [decide_eq_true q'] at h5;exact absurd h5 (by decide))
   | (simp at h5;omega)
 cases hwl with
 | cons w1 w2=>
  cases w2
  cases w1 with
  | list ho hall=>exact ⟨_,_,ns,rfl,rfl,ho,jvu ns _ hall,hlen⟩
theorem jeu (l:OpenLaw) (args:List WData):l.row.toRowW.claim.post args (.bool true) args=true:=
 postW_of (r:=l.row.toRowW) (X:=(true == true))
  (show WShape.has [] (.bool true) .bool=true by first|rfl|decide|simp [WShape.has,WShape.arms,WShape.armsAll])
  (show (WTm.eq .res (.lit (.bool true))).value [] { args:=args,res:=some (.bool true),after:=args}=some (.bool (true == true)) from w_eq_bool (w_res rfl) w_lit) rfl
theorem attach_call {l:OpenLaw} {n:Nat} {q:Program} {loose:List Str} {XP:(Str→Option Value)→Heap→Prop} {YP:World→Heap→Prop} {d:DefRec}
  (hn:l.most=some n) (hdf:d.params.defaults=[])
  (call:∀ (w:World) (s₀ s₁:Shared) (mg mb:Str→Option Value) (fa:Addr) (o:Obj) (pm cd doc:Value) (a:Addr) (vs:List Value) (ns:List Int),
   Ground q loose [] XP w s₀ mg mb s₁.heap→YP w s₁.heap→
   s₁.heap.get? fa=some o→o.data=.func (docDef d.name d.params d.body d.scope pm cd doc)→s₁.heap.CodeRec cd d.name→mg d.name=some (.ref fa)→
   s₁.heap.get? a=some { cls:=.type "list",data:=.seq vs.toArray}→IntsAre vs ns→ns.length≤n→s₁.gens = #[]→
   codeAny (model l.prog w) callerA (.call (.ref fa) ⟨[.ref a],[]⟩) (fun r s'=>r=.ok (.ret (.bool true))∧OldK s₁.heap s'.heap∧s'.os=s₁.os∧AllBare s'.gens) s₁) :
  WalkO q loose XP YP l.row.toRowW d [] (fun f vs=>PySem.call f vs):=by
 intro w s₀ s₁ mg mb G Y fa o pm cd doc dV kV ho hd hcd hD hmg hg args vals as hpre hlay hrd hwl hlo
 obtain rfl:dV=.none:=Dflts.none hD hdf
 obtain rfl:kV=.none:=Dflts.noKw hD
 obtain ⟨a,vs,ns,rfl,rfl,hobj,hints,hlen⟩:=jek hn hpre hwl
 refine enter_call (codeAny_mono (call w s₀ s₁ mg mb fa o pm cd doc a vs ns G Y ho (fd_plain hd) hcd hmg hobj hints hlen hg) fun r s' hq=>?_)
 obtain ⟨rfl,h2,h3,h4⟩:=hq
 exact ⟨.inl ⟨.bool true,.bool true,[],rfl,fun _=>rfl,.bool true,jeu l _,fun _=>⟨List.Pairwise.nil,fun _ hm=>(nomatch hm)⟩⟩,h2,h3,h4⟩
section
variable {prog:Program} {w:World} {A:Around} {E:Value→Shared→Prop} {s:Shared} {K:Frag}
end
end Att
namespace L2
open PySem PySem.Spec PyProof.Rows
theorem ja8:∀ {vs:List Value} {ns:List Int},IntsAre vs ns→Vals (ns.map V.int) vs
 | _,_,.nil=>.nil
 | _,_,.cons n t h=>.cons ⟨t,rfl⟩ (ja8 h)
def Only (H:Hp):Prop:=∀ b,H b=none∨∃ o xs,H b=some (.frz o (.lst xs))
theorem jh0 {P:Program} {w:World} {K:PySem.W.Frag} {mg mb:Str→Option Value} {CX:CXT} {k:Nat} {fa a:Addr} {fd:FuncData} {x:Str} {sp:Sp} {s₁:Shared} {vs:List Value} {ns:List Int}
  (KX:K.In s₁.heap) (hns:s₁.heap.Ns mainGlobals mg) (hb:s₁.heap.Ns builtinsNs mb) (hbb:∀ x:Str,x≠"__name__"→mb x=bootBuiltins x) (hlim:s₁.heap.NoLimit) (hg:s₁.gens = #[])
  (ha:s₁.heap.get? a=some { cls:=.type "list",data:=.seq vs.toArray}) (hi:IntsAre vs ns) (hl:ns.length≤sizeLine) (hr:Room k callerA)
  (F:∀ base:Heap,K.In base→base.Ns mainGlobals mg→FnOk P w K mg base CX k fa fd [x] sp) (hbind:∀ (s:Shared) (u:Value),BindsTo s fd ⟨[u],[]⟩ [(x,u)])
  (hsp:∀ H:Hp,Only H→SqL K H a (ns.map V.int)→sp [.ref a] H (fun v _=>v=.bl true) fun _ _ _=>False)
  (hCX:∀ H e s',CX [] H s₁ (fun _ _ _=>False) e s'→False) :
  codeAny (model P w) callerA (.call (.ref fa) ⟨[.ref a],[]⟩) (fun r s'=>r=.ok (.ret (.bool true))∧OldK s₁.heap s'.heap∧s'.os=s₁.os∧AllBare s'.gens) s₁:=by
 have rv:=ja8 hi
 have lenV:=hi.length
 have core:∀ H:Hp,Only H→SqL K H a (ns.map V.int)→HOk P w H s₁.heap→(∀ b,H b≠none→b=a)→(H a≠none→K.lookup a=none)→
   codeAny (model P w) callerA (.call (.ref fa) ⟨[.ref a],[]⟩) (fun r s'=>r=.ok (.ret (.bool true))∧OldK s₁.heap s'.heap∧s'.os=s₁.os∧AllBare s'.gens) s₁:=by
  intro H hO hS hok hA hK
  have base_of:∀ {b:Addr} {o:Obj},s₁.heap.get? b=some o→H b=none→(hidT s₁.heap H).get? b=some o:=fun e n=>jh5 e n
  have noA:∀ {b:Addr} {o:Obj} {es:Array DictEntry} {ep:Nat},s₁.heap.get? b=some o→o.data=.dict es ep→H b=none:=fun {b o es ep} e d=>by
   cases q:H b with
   | none=>rfl
   | some u=>
    have e':b=a:=hA b (by rw [q];simp)
    subst e'
    rw [ha] at e;cases e
    have d':Data.seq vs.toArray _=Data.dict es ep:=d
    cases d'
  have nsK:∀ {b:Addr} {m:Str→Option Value},s₁.heap.Ns b m→(hidT s₁.heap H).Ns b m:=fun {b m} ⟨o,es,ep,e,d,r⟩=>⟨o,es,ep,base_of e (noA e d),d,r⟩
  have hKb:K.In (hidT s₁.heap H):=fun b o e=>base_of (KX b o e) (by
   cases q:H b with
   | none=>rfl
   | some u=>
    have e':b=a:=hA b (by rw [q];simp)
    subst e'
    rw [hK (by rw [q];simp)] at e;cases e)
  have hM:Mod K mg (hidT s₁.heap H):=⟨hKb,nsK hns,⟨mb,nsK hb,hbb⟩,let ⟨mc,h1,h2⟩:=hlim;⟨mc,nsK h1,h2⟩⟩
  have e0:Env0 P w K mg (hidT s₁.heap H) callerA [] s₁ H:=⟨rfl,hM,fun b o e=>jmq e,Nat.le_of_eq (jfj _ _),trivial,fun b hb=>absurd (show b∈([]:List Addr) from hb) (by simp),hok,.of_eq hg⟩
  refine codeAny_mono ((F _ hKb (nsK hns)).run callerA [] s₁ H ⟨[.ref a],[]⟩ [.ref a] [.ref a] _ _ hr e0 (hbind s₁ (.ref a)) (.cons rfl .nil) (hsp H hO hS)) fun r s' h=>?_
  cases r with
  | error e=>exact (hCX H e s' h).elim
  | ok fl=>
   cases fl with
   | next=>exact False.elim h
   | brk=>exact False.elim h
   | cont=>exact False.elim h
   | ret u=>
    obtain ⟨v,H',os,bare,un,hok',r',q⟩:=h
    have q':v=.bl true:=q
    subst q'
    obtain rfl:u=Value.bool true:=r'
    refine ⟨rfl,OldK.of_keep fun b o e=>?_,os,bare⟩
    cases q:H b with
    | none=>exact un.keep b o e q (by intro z;exact absurd (show b∈([]:List Addr) from z) (by simp)) (by simp)
    | some u=>
     rcases hO b with z|⟨ob,xs,z⟩
     ·rw [q] at z;cases z
     ·have z2:=un.frzs b ob _ z
      obtain ⟨e1,_⟩:=hok b _ z
      obtain ⟨e2,_⟩:=hok' b _ z2
      rw [e] at e1;cases e1
      exact e2
 cases hk:K.lookup a with
 | some o=>
  have e:=KX a o hk
  rw [ha] at e
  cases e
  refine core (fun _=>none) (fun _=>.inl rfl) (.inr ⟨_,vs.toArray,_,hk,rfl,rfl,rfl,by rw [List.size_toArray,lenV];exact hl,by simpa using rv⟩) (fun b u z=>by have z':(none:Option HO)=some u:=z;cases z') (fun b z=>absurd rfl z) fun z=>absurd rfl z
 | none=>
  refine core (fun b=>if b=a then some (.frz { cls:=.type "list",data:=.seq vs.toArray} (.lst (ns.map V.int))) else none) (fun b=>?_) (.inl (.inr ⟨{ cls:=.type "list",data:=.seq vs.toArray},if_pos rfl⟩)) (fun b u z=>?_) (fun b z=>?_) fun _=>hk
  ·by_cases hb:b=a
   ·exact .inr ⟨_,_,if_pos hb⟩
   ·exact .inl (if_neg hb)
  ·by_cases hb:b=a
   ·have z':=(if_pos hb).symm.trans z
    cases z'
    subst hb
    exact ⟨ha,by rw [List.length_map];exact hl,vs,_,rv,ha⟩
   ·have z':=(if_neg hb).symm.trans z
    cases z'
  ·by_cases hb:b=a
   ·exact hb
   ·exact absurd (if_neg hb) z
end L2
namespace L2
open PySem PySem.Spec PyProof.Rows
theorem walk_of {l:PySem.W.OpenLaw} {n k:Nat} {q:Program} {loose:List Str} {XP:(Str→Option Value)→Heap→Prop} {YP:World→Heap→Prop} {d:DefRec} {K:Params→PySem.W.Frag} {CX:World→CXT} {sp:World→Sp} {x:Str}
  (hn:l.most=some n) (hn2:n≤sizeLine) (hdf:d.params.defaults=[]) (hr:Room k callerA)
  (hY:∀ (w:World) (h:Heap),YP w h→(K w.params).In h)
  (F:∀ (w:World) (mg:Str→Option Value) (fa:Addr) (h:Heap),(K w.params).In h→h.Ns mainGlobals mg→mg d.name=some (.ref fa)→
   ∃ fd:FuncData,(∀ (s:Shared) (u:Value),BindsTo s fd ⟨[u],[]⟩ [(x,u)])∧
    ∀ base:Heap,(K w.params).In base→base.Ns mainGlobals mg→FnOk l.prog w (K w.params) mg base (CX w) k fa fd [x] (sp w))
  (hsp:∀ (w:World) (H:Hp) (a:Addr) (ns:List Int),ns.length≤n→Only H→SqL (K w.params) H a (ns.map V.int)→sp w [.ref a] H (fun v _=>v=.bl true) fun _ _ _=>False)
  (hCX:∀ (w:World) (H:Hp) (s:Shared) (e:Value) (s':Shared),CX w [] H s (fun _ _ _=>False) e s'→False) :
  PySem.W.WalkO q loose XP YP l.row.toRowW d [] (fun f vs=>PySem.call f vs):=by
 refine Att.attach_call hn hdf fun w s₀ s₁ mg mb fa o pm cd doc a vs ns G Y ho hd hcd hmg hobj hints hlen hg=>?_
 have KX:=hY w _ Y
 obtain ⟨fd,hb,hF⟩:=F w mg fa _ KX G.T.g hmg
 exact jh0 KX G.T.g G.T.b G.T.builtins G.T.nolimit hg hobj hints (Nat.le_trans hlen hn2) hr hF hb (fun H hO hS=>hsp w H a ns hlen hO hS) fun H e s'=>hCX w H s₁ e s'
end L2
namespace L2
open PySem PySem.Spec PyProof.Rows
def jqc (s:Stmt) (j:Nat):Stmt:=match s with
 | .ClassDef _ _ _ body _ _ _ _ _ _ _=>body.getD j (.Pass ⟨0,0,0,0⟩)
 | _=>.Pass ⟨0,0,0,0⟩
def jqq (s:Stmt):Arguments:=match s with
 | .FunctionDef _ a _ _ _ _ _ _ _ _=>a
 | _=>{ posonlyargs:=[],args:=[],vararg:=none,kwonlyargs:=[],kw_defaults:=[],kwarg:=none,defaults:=[]}
def jqn (s:Stmt):List Stmt:=match s with
 | .FunctionDef _ _ b _ _ _ _ _ _ _=>b
 | _=>[]
def jq8 (s:Stmt):Scope:=match s with
 | .FunctionDef _ _ _ _ _ _ sc _ _ _=>sc
 | _=>{ kind:=.function,names:=[],isGenerator:=false,isCoroutine:=false}
abbrev CX0:CXT:=fun _ _ _ _ _ _=>False
abbrev E0:XK:=fun _ _ _=>False
theorem jx6 {X:Cx}:jw0 CX0 X E0:=fun _ _ _ _ _ _ _ h=>h.elim
structure Fun (K:PySem.W.Frag) (x qual:Str) (st:Stmt) (f:Addr) (fd:FuncData):Prop where
 ex:∃ (oc:Value) (od:Option Addr) (kV doc pm:Value) (an:Option Addr) (cdv ct:Value) (osl:Array (Option Value)),
  fd=PySem.W.fnOf x qual (jqq st) (jqn st) (jq8 st) .none kV doc pm an cdv ct∧K.lookup f=some ⟨oc,od,.func fd,osl⟩∧PySem.W.codeIn K cdv qual=true
 kp:PySem.W.keepIn K (.ref f)=true
section
variable {P:Program} {w:World} {K:PySem.W.Frag} {mg:Str→Option Value} {base:Heap}
theorem Fun.ok {x qual:Str} {st:Stmt} {f:Addr} {fd:FuncData} {N ps:List Str} {k:Nat} {sp:Sp} (F:Fun K x qual st f fd) (S:FnScope N ps (jq8 st)) (len:∀ vs H Q E,sp vs H Q E→vs.length=ps.length)
  (hbody:∀ (cdv:Value) (A:Around) (outer:List Env) (s:Shared) (H:Hp) (vs:List V) (Q:VK) (E:XK),Room k (A.deeper (envOfC qual (jq8 st) s.heap.objs.size f cdv))→sp vs H Q E→
   ∃ t,PSs (cxOf CX0 P w K mg base N qual (jq8 st) f cdv A outer s H E).nox (jqn st) t∧t { nx:=fun _ H'=>Q .non H',rt:=Q} (start N vs) H):FnOk P w K mg base CX0 (k+1) f fd ps sp:=by
 obtain ⟨oc,od,kV,doc,pm,an,cdv,ct,osl,rfl,lk,hcd⟩:=F.ex
 refine jrv lk hcd S len fun A outer s H vs Q E hr hsp=>?_
 obtain ⟨t,h,q⟩:=hbody cdv A outer s H vs Q E hr hsp
 exact ⟨t,h.nox,q⟩
theorem Fun.binds {x qual:Str} {st:Stmt} {f:Addr} {fd:FuncData} {ps:List Str} (F:Fun K x qual st f fd)
  (h:∀ (kV doc pm:Value) (an:Option Addr) (cdv ct:Value) (us:List Value),us.length=ps.length→bindArgs (PySem.W.fnOf x qual (jqq st) (jqn st) (jq8 st) .none kV doc pm an cdv ct) ⟨us,[]⟩=pure (ps.zip us)):Binds K fd ps []:=by
 obtain ⟨oc,od,kV,doc,pm,an,cdv,ct,osl,rfl,lk,hcd⟩:=F.ex
 exact .all (h kV doc pm an cdv ct)
theorem jx4 {x qual:Str} {st:Stmt} {f:Addr} {oc:Value} {od an:Option Addr} {osl:Array (Option Value)} {kV doc pm cdv ct:Value} (l:K.lookup f=some ⟨oc,od,.func (PySem.W.fnOf x qual (jqq st) (jqn st) (jq8 st) .none kV doc pm an cdv ct),osl⟩)
  (c:PySem.W.codeIn K cdv qual=true) (k:PySem.W.keepIn K (.ref f)=true):Fun K x qual st f (PySem.W.fnOf x qual (jqq st) (jqn st) (jq8 st) .none kV doc pm an cdv ct):=⟨⟨oc,od,kV,doc,pm,an,cdv,ct,osl,rfl,l,c⟩,k⟩
end
theorem jxl {A:Around} {k:Nat} (hr:Room k A):A.units+1 < cLine:=Nat.lt_of_le_of_lt (Nat.add_le_add_left (by decide:1≤64) _) hr.units
theorem jjp {n:Nat} (h:n≤1000):n < sizeLine:=Nat.lt_of_le_of_lt h (by decide)
section
variable {X:Cx}
theorem pv (i:Nat) {x:Str} {pos:Pos} (hN:X.N[i]?=some x:=by rfl) (hv:Vis X.env.scope x:=by first|exact Or.inl rfl|exact Or.inr (Or.inl rfl)|exact Or.inr (Or.inr rfl)) (hd:(x == ("__debug__":Str))=false:=by decide)
  (hcd:(x == ("__classdict__":Str))=false:=by decide):PE X (.Name x pos) (tVar i):=jpv hN hv hd hcd
end
theorem iteF {A B:Prop} (h:B):if false=true then A else B:=by
 rw [if_neg Bool.false_ne_true]
 exact h
theorem iteT {A B:Prop} (h:A):if true=true then A else B:=by
 rw [if_pos rfl]
 exact h
theorem ite2 {c A B:Prop} [Decidable c] (h1:c→A) (h2:¬ c→B):if c then A else B:=by
 by_cases h:c
 ·rw [if_pos h]
  exact h1 h
 ·rw [if_neg h]
  exact h2 h
def Same (H H':Hp):Prop:=∀ b o,H b=some o→H' b=some o
theorem Same.refl (H:Hp):Same H H:=fun _ _ h=>h
theorem Same.trans {H H1 H2:Hp} (a:Same H H1) (b:Same H1 H2):Same H H2:=fun c o h=>b c o (a c o h)
theorem Same.free {H H':Hp} (e:Same H H') {l:Addr} (h:H' l=Option.none):H l=Option.none:=by
 cases q:H l with
 | none=>rfl
 | some o=>
  rw [e l o q] at h
  cases h
theorem Same.seq {K:PySem.W.Frag} {H H':Hp} {a:Addr} {xs:List V} (e:Same H H') (h:SqL K H a xs):SqL K H' a xs:=by
 rcases h with (h|⟨o,h⟩)|h
 ·exact .inl (.inl (e _ _ h))
 ·exact .inl (.inr ⟨o,e _ _ h⟩)
 ·exact .inr h
section
variable {κ:Type} [DecidableEq κ]
theorem jf5:∀ {l:List κ} {k:κ},l.Nodup→¬ k∈l→(l++[k]).Nodup
 | [],k,_,_=>by simp
 | a :: r,k,h,hk=>by
  obtain ⟨h1,h2⟩:=List.nodup_cons.mp h
  show (a :: (r++[k])).Nodup
  refine List.nodup_cons.mpr ⟨fun m=>?_,jf5 h2 fun m=>hk (List.mem_cons.mpr (Or.inr m))⟩
  rcases List.mem_append.mp m with q|q
  ·exact h1 q
  ·exact hk (List.mem_cons.mpr (Or.inl (List.mem_singleton.mp q).symm))
end
end L2
namespace L2
open PySem PySem.Spec PyProof.Rows
theorem jxj:bootBuiltins "len"=some (.builtin "len"):=by decide+kernel
theorem jvz:bootBuiltins "int"=some (.type "int"):=by decide+kernel
theorem jwf:bootBuiltins "str"=some (.type "str"):=by decide+kernel
theorem ja1:bootBuiltins "bool"=some (.type "bool"):=by decide+kernel
theorem jks:bootBuiltins "list"=some (.type "list"):=by decide+kernel
theorem jzp:bootBuiltins "tuple"=some (.type "tuple"):=by decide+kernel
theorem jn2:bootBuiltins "dict"=some (.type "dict"):=by decide+kernel
theorem jg1:bootBuiltins "sorted"=some (.builtin "sorted"):=by decide+kernel
theorem jqi:bootBuiltins "isinstance"=some (.builtin "isinstance"):=by decide+kernel
theorem js3:bootBuiltins "min"=some (.builtin "min"):=by decide+kernel
theorem js4:bootBuiltins "abs"=some (.builtin "abs"):=by decide+kernel
theorem jcc {h:Heap} {a:Addr} {its:Array Value} (p:PlainL h a its):h.IsList a its:=by
 obtain ⟨o,n,e,c,_,d⟩:=p
 exact ⟨o,e,c,n,d⟩
theorem jdg:∀ {xs:List V} {us:List Value},xs.length=us.length→(∀ (i:Nat) x u,xs[i]?=some x→us[i]?=some u→RelV x u)→Vals xs us
 | [],[],_,_=>.nil
 | [],_ :: _,h,_=>by simp at h
 | _ :: _,[],h,_=>by simp at h
 | x :: xs,u :: us,h,k=>.cons (k 0 x u rfl rfl) (jdg (by simpa using h) fun i y w a b=>k (i+1) y w (by simpa using a) (by simpa using b))
theorem jm5 {k:Key} {u:Value} (h:jbg k u=true):RelV (kV k) u:=by
 rcases jxm h with ⟨i,t,rfl,rfl⟩|⟨x,t,rfl,rfl⟩
 ·exact ⟨t,rfl⟩
 ·exact ⟨t,rfl⟩
def jw3 (kvs:List (Key×V)):List V:=kvs.map fun kv=>kV kv.1
theorem jfc {P:Program} {w:World} {kvs:List (Key×V)} {vs:List (Key×Value)} (r:KV kvs vs) {acc:Array Value} (h:ItemsOf (fun i v=>∃ k x,vs[i]?=some (k,x)∧(jxy P w).is k v=true) acc vs.length):Vals (jw3 kvs) acc.toList:=by
 refine jdg ?_ fun i x u hx hu=>?_
 ·have e1:acc.toList.length=vs.length:=by rw [Array.length_toList];exact h.1
  have e2:(jw3 kvs).length=kvs.length:=by simp [jw3]
  rw [e1,e2];exact r.length
 ·obtain ⟨k,y,e,hk⟩:=h.2 i u (by rw [← Array.getElem?_toList];exact hu)
  have q:(kvs.map (·.1))[i]?=some k:=by rw [r.keys,List.getElem?_map,e];rfl
  have q2:(jw3 kvs)[i]?=some (kV k):=by
   have:jw3 kvs=(kvs.map (·.1)).map kV:=by simp [jw3]
   rw [this,List.getElem?_map,q];rfl
  rw [q2] at hx
  cases hx
  exact jm5 hk
section
variable {X:Cx}
def jbz (K:PySem.W.Frag):R2:=fun x y H Q=>∃ a b xs,x=.ref a∧y=.ref b∧SqL K H a xs∧SqL K H b []∧Q (.bl (!xs.isEmpty)) H
theorem jwr (hu:X.A.units < cLine):OpR X (compareOp .NotEq) (jbz X.K):=by
 intro pins s σ H x y v u Q I rx ry h
 obtain ⟨a,b,xs,rfl,rfl,ha,hb,q⟩:=h
 cases rx
 cases ry
 obtain ⟨its,r1,p1,_⟩:=I.list ha
 obtain ⟨its2,r2,p2,_⟩:=I.list hb
 cases r2
 cases r1 with
 | nil=>exact SeqAt.RcNeAt.lists (e:=fun _=>true) (jcc p1) (jcc p2) rfl hu (fun j h1 _=>absurd h1 (Nat.not_lt_zero _)) _ _ _ _ ⟨.bl false,H,I,rfl,q⟩
 | cons _ _=>exact SeqAt.RcNeAt.lists_lengths (jcc p1) (jcc p2) rfl hu _ _ _ _ ⟨.bl true,H,I,rfl,q⟩
theorem jd8:jki X (.type "dict") (fun xs H Q=>∃ a kvs,xs=[.ref a]∧Rd H a (.dK kvs)∧∀ p,H p=none→Q (.ref p) (upd H p (.dK kvs))):=by
 intro pins s σ H xs us Q I r h
 obtain ⟨a,kvs,rfl,ha,q⟩:=h
 obtain ⟨u,rfl,ru⟩:=jw1 r
 cases ru
 exact jhe I ha fun p s' hp I'=>⟨.ref p,_,I',rfl,q p hp⟩
theorem je5:∀ {ws:List Str} {us:List Value},Vals (ws.map V.str) us→StrsAre us ws
 | [],_,r=>by rw [List.map_nil] at r;cases r;exact .nil
 | w :: ws,_,r=>by
  rw [List.map_cons] at r
  cases r with
  | cons h t=>obtain ⟨t',rfl⟩:=h;exact .cons w t' (je5 t)
theorem jf2:∀ {ws:List Str} {us:List Value},StrsAre us ws→Vals (ws.map V.str) us
 | _,_,.nil=>.nil
 | _,_,.cons _ t h=>.cons ⟨t,rfl⟩ (jf2 h)
theorem jxe:jki X (.builtin "isinstance") (fun xs H Q=>∃ x t c b,xs=[x,.ty c]∧TyOf X.K H x t∧PySem.W.kitOne X.K t (.type c)=some b∧Q (.bl b) H):=by
 intro pins s σ H xs us Q I r h
 obtain ⟨x,t,c,b,rfl,ty,e,q⟩:=h
 obtain ⟨u,w',rfl,ru,rw'⟩:=jdh r
 cases rw'
 exact jfh I ru ty e fun tk=>⟨.bl b,H,I.tok tk,rfl,q⟩
end
end L2
namespace SW
open PySem PySem.Spec PyProof.Rows
inductive T where
 | num (n:Int)|name (w:Str)
 | sum (a b:T)|less (a b:T)|cho (a b c:T)|lt (w:Str) (a b:T)
 | st0 (w:Str)|st1 (w:Str) (a:T)|st2 (w:Str) (a b:T)
def T.size:T→Nat
 | .num _=>1
 | .name _=>1
 | .sum a b=>a.size+b.size+1
 | .less a b=>a.size+b.size+1
 | .cho a b c=>a.size+b.size+c.size+1
 | .lt _ a b=>a.size+b.size+1
 | .st0 _=>1
 | .st1 _ a=>a.size+1
 | .st2 _ a b=>a.size+b.size+1
theorem T.size_pos (t:T):0 < t.size:=by cases t<;>simp [T.size]
def T.kids:T→List T
 | .num _=>[]
 | .name _=>[]
 | .sum a b=>[a,b]
 | .less a b=>[a,b]
 | .cho a b c=>[a,b,c]
 | .lt _ a b=>[a,b]
 | .st0 _=>[]
 | .st1 _ a=>[a]
 | .st2 _ a b=>[a,b]
def jxc (ts:List T):Nat:=(ts.map T.size).sum
theorem jj8:jxc []=0:=rfl
theorem jz0 (t:T) (ts:List T):jxc (t :: ts)=t.size+jxc ts:=by simp [jxc]
theorem jx5 (a b:List T):jxc (a++b)=jxc a+jxc b:=by simp [jxc]
theorem jw8 (t:T):jxc t.kids+1=t.size:=by cases t<;>simp [T.kids,T.size,jxc]<;>omega
theorem jqt:∀ ts:List T,ts.length≤jxc ts
 | []=>Nat.le_refl _
 | t :: ts=>by
  have h:=jqt ts
  have h2:=t.size_pos
  rw [jz0,List.length_cons];omega
def T.occ (w:Str):T→Prop
 | .num _=>False
 | .name v=>v=w
 | .sum a b=>a.occ w∨b.occ w
 | .less a b=>a.occ w∨b.occ w
 | .cho a b c=>a.occ w∨b.occ w∨c.occ w
 | .lt _ a b=>a.occ w∨b.occ w
 | .st0 _=>False
 | .st1 _ a=>a.occ w
 | .st2 _ a b=>a.occ w∨b.occ w
def T.out (w:Str):T→Prop
 | .num _=>False
 | .name v=>v=w
 | .sum a b=>a.out w∨b.out w
 | .less a b=>a.out w∨b.out w
 | .cho a b c=>a.out w∨b.out w∨c.out w
 | .lt v a b=>a.out w∨(v≠w∧b.out w)
 | .st0 _=>False
 | .st1 _ a=>a.out w
 | .st2 _ a b=>a.out w∨b.out w
theorem T.out_occ {w:Str}:∀ {t:T},t.out w→t.occ w
 | .num _,h=>h
 | .name _,h=>h
 | .sum _ _,h=>h.elim (fun x=>.inl (out_occ x)) fun x=>.inr (out_occ x)
 | .less _ _,h=>h.elim (fun x=>.inl (out_occ x)) fun x=>.inr (out_occ x)
 | .cho _ _ _,h=>h.elim (fun x=>.inl (out_occ x)) fun x=>.inr (x.elim (fun x=>.inl (out_occ x)) fun x=>.inr (out_occ x))
 | .lt _ _ _,h=>h.elim (fun x=>.inl (out_occ x)) fun x=>.inr (out_occ x.2)
 | .st0 _,h=>h
 | .st1 _ a,h=>out_occ (t:=a) h
 | .st2 _ _ _,h=>h.elim (fun x=>.inl (out_occ x)) fun x=>.inr (out_occ x)
def T.names:T→List Str
 | .num _=>[]
 | .name v=>[v]
 | .sum a b=>a.names++b.names
 | .less a b=>a.names++b.names
 | .cho a b c=>a.names++b.names++c.names
 | .lt _ a b=>a.names++b.names
 | .st0 _=>[]
 | .st1 _ a=>a.names
 | .st2 _ a b=>a.names++b.names
theorem T.names_occ {w:Str}:∀ {t:T},w∈t.names↔t.occ w
 | .num _=>by simp [names,occ]
 | .name _=>by simp [names,occ,eq_comm]
 | .sum a b=>by simp [names,occ,names_occ (t:=a),names_occ (t:=b)]
 | .less a b=>by simp [names,occ,names_occ (t:=a),names_occ (t:=b)]
 | .cho a b c=>by simp [names,occ,names_occ (t:=a),names_occ (t:=b),names_occ (t:=c)]
 | .lt _ a b=>by simp [names,occ,names_occ (t:=a),names_occ (t:=b)]
 | .st0 _=>by simp [names,occ]
 | .st1 _ a=>by simp [names,occ,names_occ (t:=a)]
 | .st2 _ a b=>by simp [names,occ,names_occ (t:=a),names_occ (t:=b)]
theorem T.names_len:∀ t:T,t.names.length≤t.size
 | .num _=>by simp [names]
 | .name _=>by simp [names,size]
 | .sum a b=>by have:=names_len a;have:=names_len b;simp [names,size];omega
 | .less a b=>by have:=names_len a;have:=names_len b;simp [names,size];omega
 | .cho a b c=>by have:=names_len a;have:=names_len b;have:=names_len c;simp [names,size];omega
 | .lt _ a b=>by have:=names_len a;have:=names_len b;simp [names,size];omega
 | .st0 _=>by simp [names]
 | .st1 _ a=>by have:=names_len a;simp [names,size];omega
 | .st2 _ a b=>by have:=names_len a;have:=names_len b;simp [names,size];omega
def jxd (ts:List T):Nat:=(ts.map fun t=>t.names.length).sum
def SLt (a b:Str):Prop:=a.cps.toList < b.cps.toList
theorem SLt.irrefl (a:Str):¬ SLt a a:=List.lt_irrefl _
theorem SLt.trans {a b c:Str} (h:SLt a b) (k:SLt b c):SLt a c:=List.lt_trans h k
theorem SLt.total {a b:Str} (h:¬ SLt a b) (k:¬ SLt b a):a=b:=by
 have e:a.cps.toList=b.cps.toList:=List.le_antisymm (List.not_lt.mp k) (List.not_lt.mp h)
 cases a;cases b;congr;exact Array.toList_inj.mp e
theorem jai:∀ (l:List Str) (p:Str),risingS p l=true→(∀ x∈l,¬ SLt x p)∧l.Pairwise (fun a b=>¬ SLt b a)
 | [],_,_=>⟨fun _ h=>(nomatch h),List.Pairwise.nil⟩
 | x :: r,p,h=>by
  have h:(!ltCps x.cps.toList p.cps.toList && risingS x r)=true:=h
  rw [Bool.and_eq_true,ltCps_eq] at h
  obtain ⟨i1,i2⟩:=jai r x h.2
  have h1:¬ SLt x p:=by simpa [SLt] using h.1
  refine ⟨fun y hy=>?_,List.pairwise_cons.mpr ⟨fun y hy=>i1 y hy,i2⟩⟩
  rcases List.mem_cons.mp hy with rfl|hy
  ·exact h1
  ·intro z
   have h3:=i1 y hy
   by_cases q:SLt x y
   ·exact h1 (q.trans z)
   ·exact h1 (SLt.total q h3▸z)
theorem jeg {l:List Str} (h:sortedS l=true):l.Pairwise (fun a b=>¬ SLt b a):=by
 cases l with
 | nil=>exact .nil
 | cons x r=>
  obtain ⟨i1,i2⟩:=jai r x h
  exact List.pairwise_cons.mpr ⟨i1,i2⟩
abbrev Up (l:List Str):Prop:=l.Pairwise SLt
theorem jne:∀ {l:List Str},l.Pairwise (fun a b=>¬ SLt b a)→l.Nodup→Up l
 | [],_,_=>.nil
 | x :: r,h,n=>by
  obtain ⟨h1,h2⟩:=List.pairwise_cons.mp h
  obtain ⟨n1,n2⟩:=List.nodup_cons.mp n
  refine List.pairwise_cons.mpr ⟨fun y hy=>?_,jne h2 n2⟩
  by_cases q:SLt x y
  ·exact q
  ·exact absurd (SLt.total q (h1 y hy)) (fun e=>n1 (e▸hy))
end SW
namespace SW
open PySem L2
def TupLe (H H':Hp):Prop:=∀ b xs,H b=some (.tup xs)→H' b=some (.tup xs)
theorem TupLe.refl {H:Hp}:TupLe H H:=fun _ _ h=>h
theorem TupLe.trans {H H1 H2:Hp} (a:TupLe H H1) (b:TupLe H1 H2):TupLe H H2:=fun c xs h=>b c xs (a c xs h)
theorem jqa {H H':Hp} (s:Same H H'):TupLe H H':=fun b _ h=>s b _ h
theorem jzk {H:Hp} {p:Addr} {o:HO} (h:H p=none):TupLe H (upd H p o):=fun b xs e=>by rw [jqb (jq9 e h)];exact e
theorem jxh {H:Hp} {l:Addr} {ys:List V} {o:HO} (h:H l=some (.lst ys)):TupLe H (upd H l o):=fun b xs e=>by rw [jqb (jxk e h (by intro z;cases z))];exact e
theorem jip {H:Hp} {l:Addr} {ys:List (Key×V)} {o:HO} (h:H l=some (.dK ys)):TupLe H (upd H l o):=fun b xs e=>by rw [jqb (jxk e h (by intro z;cases z))];exact e
theorem jq2 {H:Hp} {p:Addr} {o:HO} (h:H p=none):Same H (upd H p o):=fun b u e=>by rw [jqb (jq9 e h)];exact e
theorem jqr {H₀ H:Hp} {l:Addr} {o:HO} (s:Same H₀ H) (h:H₀ l=none):Same H₀ (upd H l o):=fun b u e=>by rw [jqb (jq9 e h)];exact s b u e
def kind:T→Str
 | .num _=>"number"
 | .name _=>"name"
 | .sum _ _=>"sum"
 | .less _ _=>"less"
 | .cho _ _ _=>"choose"
 | .lt _ _ _=>"let"
 | .st0 _=>"stamp"
 | .st1 _ _=>"stamp"
 | .st2 _ _ _=>"stamp"
def Den (H:Hp):T→V→Prop
 | .num n,v=>∃ p,v=.ref p∧H p=some (.tup [.str "number",.int n])
 | .name w,v=>∃ p,v=.ref p∧H p=some (.tup [.str "name",.str w])
 | .sum a b,v=>∃ p x y,v=.ref p∧H p=some (.tup [.str "sum",x,y])∧Den H a x∧Den H b y
 | .less a b,v=>∃ p x y,v=.ref p∧H p=some (.tup [.str "less",x,y])∧Den H a x∧Den H b y
 | .cho a b c,v=>∃ p x y z,v=.ref p∧H p=some (.tup [.str "choose",x,y,z])∧Den H a x∧Den H b y∧Den H c z
 | .lt w a b,v=>∃ p x y,v=.ref p∧H p=some (.tup [.str "let",.str w,x,y])∧Den H a x∧Den H b y
 | .st0 w,v=>∃ p,v=.ref p∧H p=some (.tup [.str "stamp",.str w])
 | .st1 w a,v=>∃ p x,v=.ref p∧H p=some (.tup [.str "stamp",.str w,x])∧Den H a x
 | .st2 w a b,v=>∃ p x y,v=.ref p∧H p=some (.tup [.str "stamp",.str w,x,y])∧Den H a x∧Den H b y
theorem Den.mono {H H':Hp} (k:TupLe H H'):∀ {t:T} {v:V},Den H t v→Den H' t v
 | .num _,_,⟨p,e,h⟩=>⟨p,e,k _ _ h⟩
 | .name _,_,⟨p,e,h⟩=>⟨p,e,k _ _ h⟩
 | .sum _ _,_,⟨p,x,y,e,h,a,b⟩=>⟨p,x,y,e,k _ _ h,Den.mono k a,Den.mono k b⟩
 | .less _ _,_,⟨p,x,y,e,h,a,b⟩=>⟨p,x,y,e,k _ _ h,Den.mono k a,Den.mono k b⟩
 | .cho _ _ _,_,⟨p,x,y,z,e,h,a,b,c⟩=>⟨p,x,y,z,e,k _ _ h,Den.mono k a,Den.mono k b,Den.mono k c⟩
 | .lt _ _ _,_,⟨p,x,y,e,h,a,b⟩=>⟨p,x,y,e,k _ _ h,Den.mono k a,Den.mono k b⟩
 | .st0 _,_,⟨p,e,h⟩=>⟨p,e,k _ _ h⟩
 | .st1 _ _,_,⟨p,x,e,h,a⟩=>⟨p,x,e,k _ _ h,Den.mono k a⟩
 | .st2 _ _ _,_,⟨p,x,y,e,h,a,b⟩=>⟨p,x,y,e,k _ _ h,Den.mono k a,Den.mono k b⟩
inductive DenL (H:Hp):List T→List V→Prop where
 | nil:DenL H [] []
 | cons {t:T} {v:V} {ts:List T} {vs:List V}:Den H t v→DenL H ts vs→DenL H (t :: ts) (v :: vs)
theorem DenL.mono {H H':Hp} (k:TupLe H H'):∀ {ts:List T} {vs:List V},DenL H ts vs→DenL H' ts vs
 | _,_,.nil=>.nil
 | _,_,.cons a r=>.cons (a.mono k) (DenL.mono k r)
theorem DenL.length {H:Hp}:∀ {ts:List T} {vs:List V},DenL H ts vs→vs.length=ts.length
 | _,_,.nil=>rfl
 | _,_,.cons _ r=>by rw [List.length_cons,List.length_cons,DenL.length r]
theorem DenL.append {H:Hp}:∀ {ts us:List T} {vs ws:List V},DenL H ts vs→DenL H us ws→DenL H (ts++us) (vs++ws)
 | _,_,_,_,.nil,q=>q
 | _,_,_,_,.cons a r,q=>.cons a (DenL.append r q)
theorem DenL.snoc {H:Hp}:∀ {ts:List T} {vs:List V} {v:V},DenL H ts (vs++[v])→∃ us t,ts=us++[t]∧DenL H us vs∧Den H t v
 | _,[],v,.cons a .nil=>⟨[],_,rfl,.nil,a⟩
 | _,x :: vs,v,.cons a r=>by
  obtain ⟨us,t,rfl,h1,h2⟩:=DenL.snoc (vs:=vs) r
  exact ⟨_ :: us,t,rfl,.cons a h1,h2⟩
def hd:T→List V
 | .num n=>[.str "number",.int n]
 | .name w=>[.str "name",.str w]
 | .sum _ _=>[.str "sum"]
 | .less _ _=>[.str "less"]
 | .cho _ _ _=>[.str "choose"]
 | .lt w _ _=>[.str "let",.str w]
 | .st0 w=>[.str "stamp",.str w]
 | .st1 w _=>[.str "stamp",.str w]
 | .st2 w _ _=>[.str "stamp",.str w]
theorem Den.open {H:Hp} {t:T} {v:V} (h:Den H t v):∃ p us,v=.ref p∧H p=some (.tup (hd t++us))∧DenL H t.kids us:=by
 cases t with
 | num n=>obtain ⟨p,e,h⟩:=h;exact ⟨p,[],e,h,.nil⟩
 | name n=>obtain ⟨p,e,h⟩:=h;exact ⟨p,[],e,h,.nil⟩
 | sum a b=>obtain ⟨p,x,y,e,h,d1,d2⟩:=h;exact ⟨p,[x,y],e,h,.cons d1 (.cons d2 .nil)⟩
 | less a b=>obtain ⟨p,x,y,e,h,d1,d2⟩:=h;exact ⟨p,[x,y],e,h,.cons d1 (.cons d2 .nil)⟩
 | cho a b c=>obtain ⟨p,x,y,z,e,h,d1,d2,d3⟩:=h;exact ⟨p,[x,y,z],e,h,.cons d1 (.cons d2 (.cons d3 .nil))⟩
 | lt w a b=>obtain ⟨p,x,y,e,h,d1,d2⟩:=h;exact ⟨p,[x,y],e,h,.cons d1 (.cons d2 .nil)⟩
 | st0 w=>obtain ⟨p,e,h⟩:=h;exact ⟨p,[],e,h,.nil⟩
 | st1 w a=>obtain ⟨p,x,e,h,d1⟩:=h;exact ⟨p,[x],e,h,.cons d1 .nil⟩
 | st2 w a b=>obtain ⟨p,x,y,e,h,d1,d2⟩:=h;exact ⟨p,[x,y],e,h,.cons d1 (.cons d2 .nil)⟩
theorem szl {n:Nat} (h:Nat.ble n 1000=true:=by rfl):n≤sizeLine:=Nat.le_trans (Nat.le_of_ble_eq_true h) (by decide)
theorem iteY {c:Bool} {A B:Prop} (h:c=true) (k:A):if c=true then A else B:=by rw [if_pos h];exact k
theorem iteN {c:Bool} {A B:Prop} (h:c=false) (k:B):if c=true then A else B:=by rw [h];exact iteF k
end SW
namespace SW
open PySem L2
theorem jkt {xs:List V} {i:Int} (h0:0≤i) (h1:i < xs.length):∃ v,v∈xs∧atI xs i=some v:=by
 obtain ⟨n,rfl⟩:=Int.eq_ofNat_of_zero_le h0
 have hn:n < xs.length:=by omega
 exact ⟨xs[n],List.getElem_mem hn,jqd (by simp [hn])⟩
def jef:Sp:=fun vs H Q _=>∃ c:Int,vs=[.int c]∧∀ (n:Int) (H':Hp),-(10 ^ 59) < n∧n < 10 ^ 59→Same H H'→Q (.int n) H'
structure Wd (x:Str):Prop where
 one:1≤x.length
 few:x.length≤200
 abc:∀ c∈x.cps.toList,97≤c∧c≤122
def jab:Sp:=fun vs H Q _=>∃ c:Int,vs=[.int c]∧∀ x:Str,Wd x∧x.length≤132→Q (.str x) H
structure WordTo (l:Int) (x:Str):Prop where
 one:l < 0→1≤x.length
 few:x.length≤132
 sm:0≤l→∃ m:Nat,l < 2 ^ m∧x.length+m≤131
 abc:∀ c∈x.cps.toList,97≤c∧c≤122
theorem jao:(("":Str)).length=0:=by decide+kernel
theorem ja6 (c:Int):WordTo (c % 10 ^ (39:Int).toNat) "":=by
 have e:(10:Int) ^ (39:Int).toNat=1000000000000000000000000000000000000000:=by decide
 rw [e]
 refine ⟨fun h=>?_,by rw [jao];omega,fun _=>⟨130,?_,by rw [jao];omega⟩,?_⟩
 ·omega
 ·have e2:(2:Int) ^ 130=1361129467683753853853498429727072845824:=by decide
  rw [e2];omega
 ·have e3:(("":Str)).cps.toList=[]:=by decide+kernel
  rw [e3];intro c hc;cases hc
theorem ja7 {l:Int} {x:Str} {c:Nat} (h:WordTo l x):(⟨#[c]⟩:Str).length+x.length≤sizeLine:=by
 have e:(⟨#[c]⟩:Str).length=1:=rfl
 have:=h.few
 rw [e,sizeLine_eq];omega
theorem jb1 {l:Int} {x:Str} {c:Nat} (h:WordTo l x) (hl:0≤l) (hc:97≤c∧c≤122):WordTo (l / 26 - 1) (⟨#[c]⟩++x):=by
 have el:((⟨#[c]⟩:Str)++x).length=x.length+1:=by
  show (#[c]++x.cps).size=x.cps.size+1
  simp [Nat.add_comm]
 obtain ⟨m,h1,h2⟩:=h.sm hl
 refine ⟨fun _=>by rw [el];omega,by rw [el];omega,fun h0=>?_,?_⟩
 ·cases m with
  | zero=>simp at h1;omega
  | succ m=>
   refine ⟨m,?_,by rw [el];omega⟩
   have e:(2:Int) ^ (m+1)=2 ^ m * 2:=Int.pow_succ ..
   rw [e] at h1
   generalize (2:Int) ^ m=z at *
   omega
 ·intro d hd
  have hd:d∈(#[c]++x.cps).toList:=hd
  rw [Array.toList_append] at hd
  rcases List.mem_append.mp hd with q|q
  ·have:d=c:=by simpa using q
   rw [this];exact hc
  ·exact h.abc d q
theorem jcm {l:Int} {x:Str} (h:WordTo l x) (hl:¬ 0≤l):Wd x∧x.length≤132:=⟨⟨h.one (by omega),by have:=h.few;omega,h.abc⟩,h.few⟩
theorem jf8:(("abcdefghijklmnopqrstuvwxyz":Str)).cps.toList=(List.range 26).map (·+97):=by decide+kernel
theorem jfa (l:Int):∃ c:Nat,(97≤c∧c≤122)∧atI (("abcdefghijklmnopqrstuvwxyz":Str)).cps.toList (l % 26)=some c:=by
 have h:0≤l % 26∧l % 26 < 26:=by omega
 obtain ⟨n,e⟩:=Int.eq_ofNat_of_zero_le h.1
 rw [e] at h ⊢
 have hn:n < 26:=by omega
 refine ⟨n+97,by omega,jqd ?_⟩
 rw [jf8,List.getElem?_map,List.getElem?_range hn]
 rfl
end SW
namespace SW
open PySem L2
theorem jj7 {n:Nat} (k:Nat) (h:0 < k) (h2:k≤n):¬ (HT.sIx n 0 (some (k:Int))=0∧HT.sIx n n none=n):=by
 rintro ⟨z,_⟩
 rw [HT.sIx_nat,Nat.min_eq_left h2] at z
 omega
def jzf:Sp:=fun vs H Q _=>∃ d x v kvs,vs=[.ref d,.str x,v]∧H d=some (.dK kvs)∧kvs.length≤1000∧∀ p H',H p=none→Same H H'→H' p=some (.dK (putK kvs (.inr x) v))→Q (.ref p) H'
def jb4:Sp:=fun vs H Q _=>∃ t v,vs=[v]∧Den H t v∧∀ p us H',Same H H'→H' p=some (.tup us)→DenL H' t.kids us→Q (.ref p) H'
def jjd:Sp:=fun vs H Q _=>∃ t v,vs=[v]∧Den H t v∧∀ l us H',Same H H'→H l=none→H' l=some (.lst us)→DenL H' t.kids us→Q (.ref l) H'
end SW
namespace SW
open PySem L2
def WT (S:Str→Nat→Prop):T→Prop
 | .num n=>-(10 ^ 60) < n∧n < 10 ^ 60
 | .name w=>Wd w
 | .sum a b=>WT S a∧WT S b
 | .less a b=>WT S a∧WT S b
 | .cho a b c=>WT S a∧WT S b∧WT S c
 | .lt w a b=>Wd w∧WT S a∧WT S b
 | .st0 w=>S w 0
 | .st1 w a=>S w 1∧WT S a
 | .st2 w a b=>S w 2∧WT S a∧WT S b
structure Pile (S:Str→Nat→Prop) (H₀ H:Hp) (n:Nat) (l:Addr) (vs:List V) (ts:List T):Prop where
 same:Same H₀ H
 new:H₀ l=none
 at_:H l=some (.lst vs)
 den:DenL H ts vs
 sz:jxc ts≤n
 one:ts≠[]
 wt:∀ t∈ts,WT S t
theorem jho:Wd "sab":=⟨by decide+kernel,by decide+kernel,by decide+kernel⟩
theorem jnb:Wd "tab":=⟨by decide+kernel,by decide+kernel,by decide+kernel⟩
theorem jnc:Wd "sob":=⟨by decide+kernel,by decide+kernel,by decide+kernel⟩
theorem jnd:Wd "sat":=⟨by decide+kernel,by decide+kernel,by decide+kernel⟩
theorem jio {v:V} (h:v∈[V.str "sab",V.str "tab",V.str "sob",V.str "sat"]):∃ x,v=.str x∧Wd x:=by
 rcases List.mem_cons.mp h with rfl|h
 ·exact ⟨_,rfl,jho⟩
 rcases List.mem_cons.mp h with rfl|h
 ·exact ⟨_,rfl,jnb⟩
 rcases List.mem_cons.mp h with rfl|h
 ·exact ⟨_,rfl,jnc⟩
 rcases List.mem_cons.mp h with rfl|h
 ·exact ⟨_,rfl,jnd⟩
 ·cases h
theorem wd_k {x:Str} (h:Wd x) (hl:x.length≤132):Wd (x++("k":Str)):=by
 have e:(("k":Str)).cps = #[107]:=by decide+kernel
 have el:(x++("k":Str)).length=x.length+1:=by
  show (x.cps++(("k":Str)).cps).size=_
  rw [e];simp [Str.length]
 refine ⟨by rw [el];omega,by rw [el];omega,fun c hc=>?_⟩
 have hc:c∈(x.cps++(("k":Str)).cps).toList:=hc
 rw [e,Array.toList_append] at hc
 rcases List.mem_append.mp hc with q|q
 ·exact h.abc c q
 ·have:c=107:=by simpa using q
  omega
def jjh (S:Str→Nat→Prop) (H:Hp) (xs:List V):Prop:=∀ x∈xs,∃ (q:Addr) (nm:Str) (m:Nat),x=.ref q∧H q=some (.tup [.str nm,.int m])∧m≤2∧S nm m
def jwj (K:PySem.W.Frag) (S:Str→Nat→Prop):Sp:=fun vs H Q _=>∃ (c st:Addr) (ns:List Int) (xs:List V),vs=[.ref c,.ref st]∧SqL K H c (ns.map V.int)∧ns.length≤100∧H st=some (.lst xs)∧xs.length≤1000∧jjh S H xs∧
 ∀ (t:T) (v:V) (H':Hp),Same H H'→Den H' t v→WT S t→t.size≤2 * ns.length+2→t.names.length≤ns.length+1→Q v H'
end SW
namespace L2
open PySem PySem.Spec PyProof.Rows
def jz3 (X:Cx) (scope:Scope) (cl:List (Str×Addr)) (N:List Str) (fp:List Addr) (s:Shared) (H:Hp) (C:Addr):Cx where
 prog:=X.prog
 w:=X.w
 K:=X.K
 mg:=X.mg
 base:=X.base
 A:=X.A
 N:=N
 s₀:=s
 H₀:=H
 env:=compEnvC scope cl C X.env
 outer:=X.stack
 stack:=X.stack
 ex:=fp
 fn:=fun _=>false
 calm:=X.calm
 pn:=[]
 xe:=fun _ _=>False
structure CompSc (X:Cx) (scope:Scope) (cl:List (Str×Addr)) (x:Str) (ys:List Str) (js:List Nat):Prop where
 clos:closureFor scope X.env=pure cl
 ncell:∀ y∈scope.names,y.2≠.cell
 kind:scope.kind=.function
 names:∀ y∈scope.names,y.2=.local→scope.names.lookup y.1=some .local
 loc:scope.names.lookup x=some .local
 cells:∀ y c,cl.lookup y=some c→X.env.cells.lookup y=some c
 has:∀ y,((relabel scope X.env).names.lookup y=some .cell∨(relabel scope X.env).names.lookup y=some .free)→∃ c,cl.lookup y=some c
 nd:(x :: ys).Nodup
 free:∀ (k:Nat) (y:Str),ys[k]?=some y→∃ j:Nat,js[k]?=some j∧X.N[j]?=some y∧X.env.scope.names.lookup y=some .cell∧((relabel scope X.env).names.lookup y=some .cell∨(relabel scope X.env).names.lookup y=some .free)
 len:js.length=ys.length
def got (σ:St) (js:List Nat):St:=js.map fun j=>σ.getD j none
def lstN (its:List Value) (n:Nat):Obj:={ cls:=.type "list",data:=.seq its.toArray n}
section
variable {X:Cx} {pins:List (Addr×Obj)} {σ:St} {H:Hp} {s:Shared} {scope:Scope} {cl:List (Str×Addr)} {x:Str} {ys:List Str} {js:List Nat} {fp:List Addr} {C D:Addr} {h':Heap}
theorem Inv.compOk (I:Inv X pins σ H s) (S:CompSc X scope cl x ys js) (hf:∀ b∈fp,FpOk X pins H b) (hfb:∀ b∈fp,b < s.heap.objs.size) (hC:s.heap.objs.size≤C):(jz3 X scope cl (x :: ys) fp s H C).Ok where
 mod:=I.ok.mod
 kind:=S.kind
 glob:=I.ok.glob
 blt:=I.ok.blt
 above:=hC
 inj:=fun y z c h1 h2=>I.ok.inj y z c (S.cells y c h1) (S.cells z c h2)
 has:=fun y h=>S.has y h
 cab:=fun _ _ h=>by cases h
 hd:=I.ok.hd
 frames:=I.ok.frames
 stk:=.inl rfl
 exf:=fun b hb=>by
  obtain ⟨_,h1,_,h3,h4,_⟩:=hf b hb
  exact ⟨Nat.ne_of_lt (Nat.lt_of_lt_of_le (hfb b hb) hC),fun y c e=>h4 y c (S.cells y c e)⟩
 bs:=I.bs
 bsz:=Nat.le_trans I.ok.bsz I.sz
 noex:=fun b o e hb=>by
  obtain ⟨_,_,_,h3,_⟩:=hf b hb
  rcases h3 with z|z
  ·exact I.ok.noex b o e z
  ·exact absurd (Nat.lt_of_lt_of_le (Heap.lt_size e) (Nat.le_trans I.ok.bsz z)) (Nat.lt_irrefl _)
 exfs:=fun b hb z=>by
  obtain ⟨_,h1,h2,_⟩:=hf b hb
  rcases List.mem_cons.mp (I.stkSub b z) with e|e
  ·exact h1 e
  ·exact h2 e
 funs:=I.stack
 frf:=I.stkFree
theorem Inv.nostk (I:Inv X pins σ H s) {b:Addr} (h1:b≠X.env.locals) (h2:b∉X.fs):b∉frs X.stack:=fun z=>by
 rcases List.mem_cons.mp (I.stkSub b z) with e|e
 ·exact h1 e
 ·exact h2 e
theorem Inv.compIn {m:Str→Option Value} {n t':Nat} (I:Inv X pins σ H s) (S:CompSc X scope cl x ys js) (hf:∀ b∈fp,FpOk X pins H b) (hfb:∀ b∈fp,b < s.heap.objs.size) (hC:s.heap.objs.size≤C) (hD:s.heap.objs.size≤D) (hDC:D≠C)
  (keep:∀ b o,s.heap.get? b=some o→h'.get? b=some o) (ns:h'.Ns C m) (ho:h'.get? D=some (lstN [] n)) :
  Inv (jz3 X scope cl (x :: ys) fp s H C) ((X.pn++pins)++[(D,lstN [] n)]) (none :: got σ js) H { s with heap:=h',toks:=t'} where
 ok:=I.compOk S hf hfb hC
 os:=rfl
 bare:=I.bare
 base:=Un.kept keep
 loc:=by
  refine ⟨m,ns,fun i y v e1 e2 e3=>?_⟩
  cases i with
  | zero=>simp at e2
  | succ k=>
   have e1:ys[k]?=some y:=by simpa [jz3] using e1
   have e2:(got σ js)[k]?=some (some v):=by simpa using e2
   obtain ⟨j,hj,hN,hk,hk2⟩:=S.free k y e1
   have e4:σ[j]?=some (some v):=by
    unfold got at e2
    rw [List.getElem?_map,hj] at e2
    have e2:σ.getD j none=some v:=Option.some.inj e2
    rw [List.getD_eq_getElem?_getD] at e2
    cases q:σ[j]? with
    | none=>rw [q] at e2;cases e2
    | some z=>rw [q] at e2;exact congrArg some e2
   obtain ⟨m0,hn0,hl⟩:=I.loc
   obtain ⟨u,ru,l⟩:=hl j y v hN e4 (.inr (.inl hk))
   refine ⟨u,ru,.inr ⟨hk2,?_⟩⟩
   obtain ⟨c,hc⟩:=S.has y hk2
   rcases l with ⟨z,_⟩|⟨_,c',hc',hcell⟩
   ·have z:X.env.scope.names.lookup y=some .local:=z
    rw [hk] at z;cases z
   ·have q:=S.cells y c hc
    rw [hc'] at q
    cases q
    obtain ⟨oc,a1,a2⟩:=hcell
    exact ⟨_,hc,oc,keep _ _ a1,a2⟩
 cell:=fun y c e=>by
  obtain ⟨v,oc,a1,a2⟩:=I.cell y c (S.cells y c e)
  exact ⟨v,oc,keep _ _ a1,a2⟩
 free:=I.hok.fresh hC
 freeC:=fun y c e=>I.freeC y c (S.cells y c e)
 pin:=fun p hp=>by
  rcases List.mem_append.mp (show p∈(X.pn++pins)++[(D,lstN [] n)] from hp) with z|z
  ·obtain ⟨e,nn,ne,nf,d⟩:=I.pin p z
   exact ⟨keep _ _ e,nn,Nat.ne_of_lt (Nat.lt_of_lt_of_le (Heap.lt_size e) hC),I.nostk ne nf,d⟩
  ·rw [List.mem_singleton] at z
   subst z
   exact ⟨ho,I.hok.fresh hD,hDC,I.nostk (Nat.ne_of_gt (Nat.lt_of_lt_of_le I.lt hD)) (I.nofs hD),fun v z=>by cases (show Data.seq _ _=Data.cell v from z)⟩
 hok:=I.hok.kept keep
 len:=by simp [got,jz3,S.len]
theorem Inv.compOut {s':Shared} {σ':St} {H':Hp} {P:List (Addr×Obj)} {its:List Value} {vs:List V} {n:Nat} (I:Inv X pins σ H s) (hf:∀ b∈fp,FpOk X pins H b) (hC:s.heap.objs.size≤C) (hD:s.heap.objs.size≤D) (hDC:D≠C)
  (I':Inv (jz3 X scope cl (x :: ys) fp s H C) P σ' H' s') (hp:(D,lstN its n)∈P) (r:Vals vs its) (hz:vs.length≤sizeLine) (hs:Heap.SameBut C s'.heap h'):Inv X pins σ (upd H' D (.lst vs)) { s' with heap:=h'}:=by
 obtain ⟨pe,pn,_,_,_⟩:=I'.pin (D,lstN its n) (List.mem_append_right _ hp)
 have u:Un (frs X.stack) fp H H' s.heap s'.heap:=I'.base
 have hCn:H' C=none:=I'.free
 have lt:∀ b o,s.heap.get? b=some o→b≠C∧b≠D:=fun b o e=>⟨Nat.ne_of_lt (Nat.lt_of_lt_of_le (Heap.lt_size e) hC),Nat.ne_of_lt (Nat.lt_of_lt_of_le (Heap.lt_size e) hD)⟩
 have nD:∀ b o,H' b=some o→b≠D:=fun b o e=>jq9 e pn
 refine I.call' (ch:=fp) (s':={ s' with heap:=h'}) I'.os ⟨fun b o q nn hb hx=>?_,fun b o q nn hb hx=>?_,fun b o q nn hx=>?_,fun b o q hx=>?_,fun b xs q=>?_,fun b o xs q=>?_,fun b ps q=>?_⟩ ?_ I'.bare fun b hb=>?_
 ·exact (hs.2 b (lt b o q).1).trans (u.keep b o q nn hb hx)
 ·obtain ⟨sl,e⟩:=u.slot b o q nn hb hx
  exact ⟨sl,(hs.2 b (lt b o q).1).trans e⟩
 ·rw [jqb (lt b o q).2];exact u.free b o q nn hx
 ·obtain ⟨o',e⟩:=u.there b o q hx
  exact ⟨o',(hs.2 b (lt b o q).1).trans e⟩
 ·have e:=u.tups b xs q;rw [jqb (nD _ _ e)];exact e
 ·have e:=u.frzs b o xs q;rw [jqb (nD _ _ e)];exact e
 ·obtain ⟨more,e⟩:=u.tbls b ps q
  exact ⟨more,by rw [jqb (nD _ _ e)];exact e⟩
 ·intro b ob e
  by_cases hb:b=D
  ·subst hb
   rw [jq1] at e
   cases e
   exact ⟨hz,its,n,r,(hs.2 b hDC).trans pe⟩
  ·rw [jqb hb] at e
   refine (I'.hok b ob e).stay (fun c v hc q=>(hs.2 c ?_).trans q) (fun c q=>by rw [jqb (nD _ _ q)];exact q) fun c xs q=>by rw [jqb (nD _ _ q)];exact q
   rcases hc with rfl|hc
   ·exact jq9 e hCn
   ·exact jq9 hc hCn
 ·obtain ⟨_,h1,_,h3,h4,h5⟩:=hf b hb
  exact ⟨h3,h1,h4,h5⟩
end
def tLC (wi:TI) (te:TE) (js:List Nat):TE:=fun σ H Q=>wi σ H fun J H1=>∃ W:Nat→Nat→List V→Hp→Prop,(∃ m,W 0 m [] H1)∧∀ i m vs H,W i m vs H→
 (J.stop i H∧vs.length≤sizeLine∧∀ p,H p=none→Q (.ref p) (upd H p (.lst vs)))∨
 (J.go i H∧∀ x H',J.yld i H x H'→te (some x :: got σ js) H' fun y H''=>vs.length < sizeLine∧∃ m',m' < m∧W (i+1) m' (vs++[y]) H'')
theorem jpy {X:Cx} {elt iter:Expr} {x:Str} {px:Pos} {scope:Scope} {cl:List (Str×Addr)} {pos:Pos} {ys:List Str} {js:List Nat} {wi:TI} {te:TE} (hc:X.calm=true) (S:CompSc X scope cl x ys js) (hi:PI X (.Name x px) iter wi)
  (he:∀ (fp:List Addr) (s:Shared) (H:Hp) (C:Addr),PE (jz3 X scope cl (x :: ys) fp s H C) elt te) (hs:∀ x,foldedSetIterable iter X.env x=pure x:=by intro _;rfl) :
  PE X (.ListComp elt [⟨.Name x px,iter,[],0⟩] scope pos) (tLC wi te js):=by
 intro pins s σ H Q I h
 rw [eval_ListComp]
 refine wpAny_comprehension_free (use:=none) rfl hs S.clos S.kind S.names (thn (hi pins s σ H _ I h) fun v s1 h1=>thn h1 fun itv s2 h2=>?_)
 obtain ⟨it,fp,tn,J,H2,e,I2,T,st2,f2,W,⟨m0,w0⟩,turn⟩:=h2
 subst e
 have fpb:∀ b∈fp,b < s2.heap.objs.size:=fun b hb=>by
  obtain ⟨o,e,_⟩:=T.obj _ _ st2 b hb
  exact Heap.lt_size e
 refine wpAny_newObj_type (wpAny_newFunctionEnv S.ncell (by intro y hy;simp at hy) (fun h₁ hns₁ hsb₁=>?_) S.kind)
 dsimp only at hns₁ hsb₁ ⊢
 generalize hH2:s2.heap.push { cls:=.type "list",dict:=none,data:=.seq ([]:List Value).toArray}=G2 at hns₁ hsb₁ ⊢
 have hC:G2.objs.size=s2.heap.objs.size+1:=by rw [← hH2,Heap.size_push]
 have hDC:s2.heap.objs.size≠G2.objs.size:=by rw [hC];exact Nat.ne_of_lt (Nat.lt_succ_self _)
 have hCle:s2.heap.objs.size≤G2.objs.size:=by rw [hC];exact Nat.le_succ _
 have below:∀ b,b < s2.heap.objs.size→b≠G2.objs.size∧b≠s2.heap.objs.size:=fun b hb=>⟨by rw [hC];exact Nat.ne_of_lt (Nat.lt_succ_of_lt hb),Nat.ne_of_lt hb⟩
 have old:∀ b o,s2.heap.get? b=some o→h₁.get? b=some o:=fun b o e=>hsb₁.extBut b o (below b (Heap.lt_size e)).1 (Heap.get?_push_of_some _ (hH2▸Heap.get?_push_of_some _ e))
 have hacc:h₁.get? s2.heap.objs.size=some (lstN [] 0):=hsb₁.extBut _ _ hDC (Heap.get?_push_of_some _ (hH2▸Heap.get?_push_size _ rfl))
 have st4:tn 0 h₁:=T.keep _ _ _ st2 fun b _ o e=>old b o e
 have I4:=fun (t':Nat)=>I2.compIn (t':=t') S f2 fpb hCle (Nat.le_refl _) hDC old hns₁ hacc
 have loop:∀ t':Nat,codeAny (model X.prog X.w) X.A (.compLoop (.ListComp elt [⟨.Name x px,iter,[],0⟩] scope pos) 0 (.ref it) (.ref s2.heap.objs.size) (compEnvC scope cl G2.objs.size X.env))
   (compPost (model X.prog X.w) X.A X.xe none (EP X pins σ Q) (.ref s2.heap.objs.size) G2.objs.size) { s2 with heap:=h₁,toks:=t'}:=by
  intro t'
  refine codeAny_compLoop_tests (fun n s'=>∃ i x0 H' vs its c,Inv (jz3 X scope cl (x :: ys) fp s2 H2 G2.objs.size) ((X.pn++pins)++[(s2.heap.objs.size,lstN its c)]) (x0 :: got σ js) H' s'∧tn i s'.heap∧(∀ b∈fp,H' b=none)∧Vals vs its∧W i n vs H') ?_ m0
   ⟨0,none,H2,[],[],0,I4 t',st4,fun b hb=>(f2 b hb).1,.nil,w0⟩
  rintro n s3 ⟨i,x0,H3,vs,its,c,I3,st3,fr3,rv,w3⟩
  have stat:∀ {H':Hp} {its':List Value} {c':Nat},(∀ b∈fp,H' b=none)→∀ b∈fp,FpOk (jz3 X scope cl (x :: ys) fp s2 H2 G2.objs.size) ((X.pn++pins)++[(s2.heap.objs.size,lstN its' c')]) H' b:=fun hn b hb=>by
   obtain ⟨_,h1,h2,h3,h4,h5⟩:=f2 b hb
   refine ⟨hn b hb,(below b (fpb b hb)).1,I2.nostk h1 h2,.inl hb,fun y c e=>h4 y c (S.cells y c e),fun p hp=>?_⟩
   rcases List.mem_append.mp (show p∈(X.pn++pins)++[(s2.heap.objs.size,_)] from hp) with z|z
   ·exact h5 p z
   ·rw [List.mem_singleton] at z
    subst z
    exact Ne.symm (below b (fpb b hb)).2
  rcases turn i n vs H3 w3 with ⟨stop,hz,q⟩|⟨go,step⟩
  ·refine thn (T.done (jz3 X scope cl (x :: ys) fp s2 H2 G2.objs.size) rfl rfl rfl hc i _ s3 _ H3 _ I3 (stat fr3) st3 stop) fun r s4 ⟨hr,I5⟩=>?_
   subst hr
   obtain ⟨mm,hn,_⟩:=I5.loc
   refine ⟨mm,hn,fun h'' hs''=>⟨.ref s2.heap.objs.size,_,I2.compOut f2 hCle (Nat.le_refl _) hDC I5 (List.mem_append_right _ (List.mem_singleton.mpr rfl)) rv hz hs'',rfl,q _ ?_⟩⟩
   exact (I5.pin _ (List.mem_append_right _ (List.mem_append_right _ (List.mem_singleton.mpr rfl)))).2.1
  ·refine thn (T.item (jz3 X scope cl (x :: ys) fp s2 H2 G2.objs.size) rfl rfl rfl hc i _ s3 _ H3 _ I3 (stat fr3) st3 go) fun r s4 ⟨u,hr,h4⟩=>?_
   subst hr
   have e0:(letOwnedTupleGo (.Name x px) (.ref it) u >>= fun _=>assign (.Name x px) (compEnvC scope cl G2.objs.size X.env) u)=assign (.Name x px) (compEnvC scope cl G2.objs.size X.env) u:=rfl
   show wpAny (model X.prog X.w) X.A (assign (.Name x px) (compEnvC scope cl G2.objs.size X.env) u) _ _ s4
   rw [← e0]
   refine wpAny_bind (thn h4 fun _ s5 ⟨xv,H5,I5,r5,y5,st5,fr5⟩=>?_)
   have I5':=I5.pinned (stat fr5) (T.obj _ _ st5)
   refine wpAny_mono (jwp (X:=jz3 X scope cl (x :: ys) fp s2 H2 G2.objs.size) (i:=0) S.nd rfl (Or.inl (lookup_relabel_local S.loc)) (.inr (lookup_relabel_local S.loc)) _ s5 _ H5 xv u (fun σ' H'=>σ'=some xv :: got σ js∧H'=H5) I5' r5 ⟨rfl,rfl⟩)
    (fun _ s6 ⟨σ6,H6,I6,e6,e7⟩=>?_) (fun _ _ z=>False.elim z)
   subst e6 e7
   refine wpAny_tests_nil ?_
   rw [if_pos rfl]
   refine wpAny_mono (he fp s2 H2 G2.objs.size _ s6 _ _ _ I6 (step xv H6 y5)) (fun y s7 ⟨yv,H7,I7,r7,hz,m',hm,w7⟩=>?_) (fun _ _ z=>False.elim z)
   have mD:(s2.heap.objs.size,lstN its c)∈(X.pn++pins)++[(s2.heap.objs.size,lstN its c)]:=List.mem_append_right _ (List.mem_singleton.mpr rfl)
   have pD:=I7.pin (s2.heap.objs.size,lstN its c) (List.mem_append_right _ (List.mem_append_left _ mD))
   have pfp:∀ b∈fp,∀ o,s5.heap.get? b=some o→s7.heap.get? b=some o∧H7 b=none:=fun b hb o e=>by
    have z:=I7.pin (b,o) (List.mem_append_right _ (List.mem_append_right _ (jjz hb e)))
    exact ⟨z.1,z.2.1⟩
   refine append_at pD.1 (fun h8 hs8 hD8=>?_) (by rw [List.size_toArray,← rv.length];exact Nat.le_of_lt hz)
   have I7a:Inv (jz3 X scope cl (x :: ys) fp s2 H2 G2.objs.size) (X.pn++pins) (some xv :: got σ js) H7 s7:=I7.pins_of fun p hp=>I7.pin p (List.mem_append_right _ (List.mem_append_left _ (List.mem_append_left _ hp)))
   have I8:=I7a.turned (t':=s7.toks) (it:=s2.heap.objs.size) (fun b o hb e=>(hs8.2 b hb).trans e) pD.2.1 pD.2.2.1 (.inr (Nat.le_refl _)) (fun z cc e=>by
     obtain ⟨v,o,e1,e2⟩:=I2.cell z cc (S.cells z cc e)
     exact Nat.ne_of_lt (Heap.lt_size e1)) (fun p hp=>by
     obtain ⟨e1,_⟩:=I2.pin p hp
     exact Nat.ne_of_lt (Heap.lt_size e1))
   refine ⟨m',hm,i+1,some xv,H7,vs++[yv],its++[y],c+1,I8.pins_of fun p hp=>?_,?_,fun b hb=>?_,Vals.append rv (.cons r7 .nil),w7⟩
   ·rcases List.mem_append.mp hp with z|z
    ·exact I8.pin p (List.mem_append_right _ z)
    ·rw [List.mem_singleton] at z
     subst z
     refine ⟨?_,pD.2.1,pD.2.2.1,pD.2.2.2.1,fun v z=>by cases (show Data.seq _ _=Data.cell v from z)⟩
     rw [show lstN (its++[y]) (c+1)={ cls:=.type "list",data:=.seq (its.toArray.push y) (c+1)} by unfold lstN;rw [List.push_toArray]]
     exact hD8
   ·exact T.keep _ _ _ st5 fun b hb o e=>(hs8.2 b (Nat.ne_of_lt (fpb b hb))).trans (pfp b hb o e).1
   ·obtain ⟨o,e,_⟩:=T.obj _ _ st5 b hb
    exact (pfp b hb o e).2
 exact codeAny_compStart_list (loop _) (T.self _ 0 _ _ _ st4 (loop _))
end L2
namespace SW
open PySem L2
abbrev jm9:R2:=rI0 fun i j=>.int (i+j)
abbrev jwo:R2:=rI0 fun i j=>.int (i - j)
abbrev rMulI:R2:=rI CMul fun i j=>.int (i * j)
abbrev jb8:R2:=rI CDiv fun i j=>.int (i / j)
abbrev jj0:R2:=rI (fun _ j=>0 < j) fun i j=>.int (i % j)
abbrev jpq:R2:=rI CPow fun i j=>.int (i ^ j.toNat)
abbrev jjq:V→Hp→VK→Prop:=rU fun i=>.int (-i)
abbrev rLtI:R2:=rI0 fun i j=>.bl (decide (i < j))
abbrev rLeI:R2:=rI0 fun i j=>.bl (decide (i≤j))
abbrev rGtI:R2:=rI0 fun i j=>.bl (decide (j < i))
abbrev rGeI:R2:=rI0 fun i j=>.bl (decide (j≤i))
abbrev jm8:R2:=fun x y H Q=>∃ i j,x=.str i∧y=.str j∧i.length+j.length≤sizeLine∧Q (.str (i++j)) H
abbrev rIsN:R2:=fun x y H Q=>y=.non∧Q (.bl (decide (x=.non))) H
abbrev rNotN:R2:=fun x y H Q=>y=.non∧Q (.bl (!decide (x=.non))) H
abbrev cLen (K:PySem.W.Frag):List V→Hp→VK→Prop:=fun xs H Q=>∃ p ys,xs=[.ref p]∧(SqL K H p ys∨SqT K H p ys)∧Q (.int ys.length) H
abbrev jhj:List V→Hp→VK→Prop:=fun xs H Q=>∃ z,xs=[.str z]∧z.length≤sizeLine∧Q (.int z.length) H
abbrev cInt:List V→Hp→VK→Prop:=fun xs H Q=>(∃ i,xs=[.int i]∧Q (.int i) H)∨∃ k,xs=[.bl k]∧Q (.int (if k then 1 else 0)) H
abbrev cAbs:List V→Hp→VK→Prop:=fun xs H Q=>∃ i,xs=[.int i]∧Q (.int (if i < 0 then -i else i)) H
abbrev cMin:List V→Hp→VK→Prop:=fun xs H Q=>∃ i j,xs=[.int i,.int j]∧Q (.int (if j < i then j else i)) H
abbrev jg0 (K:PySem.W.Frag):List V→Hp→VK→Prop:=fun xs H Q=>∃ p ys,xs=[.ref p]∧(SqL K H p ys∨SqT K H p ys)∧∀ l,H l=none→Q (.ref l) (upd H l (.lst ys))
abbrev jcj (K:PySem.W.Frag):List V→Hp→VK→Prop:=fun xs H Q=>∃ p ys,xs=[.ref p]∧((SqL K H p ys∧∀ l,H l=none→Q (.ref l) (upd H l (.tup ys)))∨(SqT K H p ys∧Q (.ref p) H))
abbrev js1:List V→Hp→VK→Prop:=fun xs H Q=>∃ a kvs,xs=[.ref a]∧Rd H a (.dK kvs)∧∀ p,H p=none→Q (.ref p) (upd H p (.dK kvs))
abbrev jhi:List V→Hp→VK→Prop:=fun xs H Q=>∃ a kvs ws,xs=[.ref a]∧Rd H a (.dK kvs)∧jw3 kvs=ws.map V.str∧ws.length < 64∧∀ p ws',H p=none→ws'.Perm ws→PyProof.Rows.sortedS ws'=true→Q (.ref p) (upd H p (.lst (ws'.map V.str)))
abbrev cIsi (K:PySem.W.Frag):List V→Hp→VK→Prop:=fun xs H Q=>∃ x t c b,xs=[x,.ty c]∧TyOf K H x t∧PySem.W.kitOne K t (.type c)=some b∧Q (.bl b) H
end SW
namespace SW
open PySem L2
def jg3:Str→Nat→Prop:=fun x n=>(x="st"∧n=2)∨(x="sta"∧n=1)∨(x="star"∧n=0)
def jae (K:PySem.W.Frag):Sp:=fun vs H Q _=>∃ (c:Addr) (ns:List Int),vs=[.ref c]∧SqL K H c (ns.map V.int)∧ns.length≤100∧
 ∀ (t:T) (v:V) (H':Hp),Same H H'→Den H' t v→WT jg3 t→t.size≤2 * ns.length+2→t.names.length≤ns.length+1→Q v H'
def jac:Sp:=fun vs H Q _=>∃ (t:T) (v:V),vs=[v]∧Den H t v∧t.size≤900∧t.names.length < 64∧
 ∀ (l:Addr) (ws:List Str) (H':Hp),Same H H'→H l=none→H' l=some (.lst (ws.map V.str))→Up ws→(∀ x,x∈ws↔t.out x)→Q (.ref l) H'
def PairAt (D:Addr→Prop) (H:Hp) (q:T×List (Key×V)) (u:V):Prop:=∃ p v d,u=.ref p∧H p=some (.tup [v,.ref d])∧Den H q.1 v∧H d=some (.dK q.2)∧D d
inductive PairL (D:Addr→Prop) (H:Hp):List (T×List (Key×V))→List V→Prop where
 | nil:PairL D H [] []
 | cons {q:T×List (Key×V)} {u:V} {qs:List (T×List (Key×V))} {us:List V}:PairAt D H q u→PairL D H qs us→PairL D H (q :: qs) (u :: us)
theorem PairAt.mono {D D':Addr→Prop} {H H':Hp} {q:T×List (Key×V)} {u:V} (k1:TupLe H H') (k2:∀ d kvs,D d→H d=some (.dK kvs)→H' d=some (.dK kvs)∧D' d) (h:PairAt D H q u):PairAt D' H' q u:=by
 obtain ⟨p,v,d,e,h1,h2,h3,h4⟩:=h
 exact ⟨p,v,d,e,k1 _ _ h1,h2.mono k1,(k2 _ _ h4 h3).1,(k2 _ _ h4 h3).2⟩
theorem PairL.mono {D D':Addr→Prop} {H H':Hp} (k1:TupLe H H') (k2:∀ d kvs,D d→H d=some (.dK kvs)→H' d=some (.dK kvs)∧D' d):∀ {qs:List (T×List (Key×V))} {us:List V},PairL D H qs us→PairL D' H' qs us
 | _,_,.nil=>.nil
 | _,_,.cons a r=>.cons (a.mono k1 k2) (PairL.mono k1 k2 r)
theorem PairL.append {D:Addr→Prop} {H:Hp}:∀ {qs rs:List (T×List (Key×V))} {us ws:List V},PairL D H qs us→PairL D H rs ws→PairL D H (qs++rs) (us++ws)
 | _,_,_,_,.nil,q=>q
 | _,_,_,_,.cons a r,q=>.cons a (PairL.append r q)
theorem PairL.snoc {D:Addr→Prop} {H:Hp}:∀ {qs:List (T×List (Key×V))} {us:List V} {u:V},PairL D H qs (us++[u])→∃ rs q,qs=rs++[q]∧PairL D H rs us∧PairAt D H q u
 | _,[],_,.cons a .nil=>⟨[],_,rfl,.nil,a⟩
 | _,_ :: us,_,.cons a r=>by
  obtain ⟨rs,q,rfl,h1,h2⟩:=PairL.snoc (us:=us) r
  exact ⟨_ :: rs,q,rfl,.cons a h1,h2⟩
theorem PairL.length {D:Addr→Prop} {H:Hp}:∀ {qs:List (T×List (Key×V))} {us:List V},PairL D H qs us→us.length=qs.length
 | _,_,.nil=>rfl
 | _,_,.cons _ r=>by rw [List.length_cons,List.length_cons,PairL.length r]
def pwlM (t:T) (kvs:List (Key×V)):List (T×List (Key×V)):=match t with
 | .lt x a b=>[(b,putK kvs (.inr x) (.bl true)),(a,kvs)]
 | t=>t.kids.map fun k=>(k,kvs)
def jcq:Sp:=fun vs H Q _=>∃ (t:T) (v:V) (d:Addr) (kvs:List (Key×V)),vs=[v,.ref d]∧Den H t v∧H d=some (.dK kvs)∧kvs.length≤1000∧
 ∀ (l:Addr) (us:List V) (H':Hp),Same H H'→H l=none→H' l=some (.lst us)→PairL (fun e=>e=d∨H e=none) H' (pwlM t kvs) us→Q (.ref l) H'
end SW
namespace SW
open PySem L2
def t_any (K:PySem.W.Frag):TS:=(tSeq (tAsg (tOp jj0 (tOp jb8 (tVar 0) (tC (.int 2))) (tOp jpq (tC (.int 10)) (tC (.int 59)))) (jqk 1)) (tRet (tOp rMulI (tVar 1) (tOp (rIxL K) (tLst (jq3 (tC (.int 1)) (jq3 (tUn jjq (tC (.int 1))) tNil))) (tOp jj0 (tVar 0) (tC (.int 2)))))))
def jpg (K:PySem.W.Frag):TS:=(tSeq (tAsg (tOp jm8 (tOp rIxS (tC (.str "abcdefghijklmnopqrstuvwxyz")) (tOp jj0 (tVar 1) (tC (.int 26)))) (tVar 2)) (jqk 2)) (tAsg (tOp jwo (tOp jb8 (tVar 1) (tC (.int 26))) (tC (.int 1))) (jqk 1)))
def t_aw (K:PySem.W.Frag):TS:=(tSeq (tAsg (tOp jj0 (tCB cAbs (jq3 (tVar 0) tNil)) (tOp jpq (tC (.int 10)) (tC (.int 39)))) (jqk 1)) (tSeq (tAsg (tC (.str "")) (jqk 2)) (tSeq (jji (jx0 (tOp rGeI (tVar 1) (tC (.int 0)))) (jpg K)) (tRet (tVar 2)))))
def t_ww (K:PySem.W.Frag):TS:=(tSeq (tAsg (tCB js1 (jq3 (tVar 0) tNil)) (jqk 3)) (tSeq (jb6 (tVar 3) (tVar 1) (tVar 2)) (tRet (tVar 3))))
def jdp (K:PySem.W.Frag):TS:=(tRet (tTup tNil))
def jdo (K:PySem.W.Frag):TS:=(tIfS (tOr (jx0 (tOp rEq (tVar 1) (tC (.str "number")))) (jx0 (tOp rEq (tVar 1) (tC (.str "name"))))) (jdp K) jxt)
def jdn (K:PySem.W.Frag):TS:=(tRet (tSl (rSlT K) (tVar 0) (jzd (tC (.int 2))) jz5))
def jdm (K:PySem.W.Frag):TS:=(tIfS (tOr (jx0 (tOp rEq (tVar 1) (tC (.str "let")))) (jx0 (tOp rEq (tVar 1) (tC (.str "stamp"))))) (jdn K) jxt)
def t_parts (K:PySem.W.Frag):TS:=(tSeq (tAsg (tOp (rIxT K) (tVar 0) (tC (.int 0))) (jqk 1)) (tSeq (jdo K) (tSeq (jdm K) (tRet (tSl (rSlT K) (tVar 0) (jzd (tC (.int 1))) jz5)))))
def jll (K:PySem.W.Frag):TS:=(tRet (tLst tNil))
def jlk (K:PySem.W.Frag):TS:=(tIfS (jx0 (tOp (rIn K false) (tOp (rIxT K) (tVar 0) (tC (.int 0))) (tLst (jq3 (tC (.str "number")) (jq3 (tC (.str "name")) tNil))))) (jll K) jxt)
def t_ins (K:PySem.W.Frag):TS:=(tSeq (jlk K) (tRet (tCB (jg0 K) (jq3 (tSl (rSlT K) (tVar 0) (jzd (tOp jm9 (tC (.int 1)) (tCB cInt (jq3 (tOp (rIn K false) (tOp (rIxT K) (tVar 0) (tC (.int 0))) (tLst (jq3 (tC (.str "let")) (jq3 (tC (.str "stamp")) tNil)))) tNil)))) jz5) tNil))))
def jl9 (K:PySem.W.Frag):TS:=(tRet (tLst (jq3 (tTup (jq3 (tOp (rIxT K) (tVar 0) (tC (.int 3))) (jq3 (jx7 jzf [] E0 (jq3 (tVar 1) (jq3 (tOp (rIxT K) (tVar 0) (tC (.int 1))) (jq3 (tC (.bl true)) tNil)))) tNil))) (jq3 (tTup (jq3 (tOp (rIxT K) (tVar 0) (tC (.int 2))) (jq3 (tVar 1) tNil))) tNil))))
def jl8 (K:PySem.W.Frag):TS:=(tIfS (jx0 (tOp rEq (tOp (rIxT K) (tVar 0) (tC (.int 0))) (tC (.str "let")))) (jl9 K) jxt)
def t_pwl (K:PySem.W.Frag):TS:=(tSeq (jl8 K) (tRet (tLC (iTup K (jx7 jb4 [] E0 (jq3 (tVar 0) tNil))) (tTup (jq3 (tVar 0) (jq3 (tVar 1) tNil))) [1])))
def jlc (K:PySem.W.Frag):TS:=(jb6 (tVar 1) (tOp (rIxT K) (tVar 4) (tC (.int 1))) (tC (.bl true)))
def jlb (K:PySem.W.Frag):TS:=(tIfS (tAnd (jx0 (tOp rEq (tOp (rIxT K) (tVar 4) (tC (.int 0))) (tC (.str "name")))) (tB (jb3 (tOp (rIxT K) (tVar 4) (tC (.int 1))) (tVar 5)))) (jlc K) jxt)
def jla (K:PySem.W.Frag):TS:=(tSeq (tAsg (tBM0 K "list" rPop (tVar 2)) (jqk 3)) (tSeq (tAsg (tOp (rIxT K) (tVar 3) (tC (.int 0))) (jqk 4)) (tSeq (tAsg (tOp (rIxT K) (tVar 3) (tC (.int 1))) (jqk 5)) (tSeq (jlb K) (jxn (tBM K "list" jvg (tVar 2) (jq3 (jx7 jcq [] E0 (jq3 (tVar 4) (jq3 (tVar 5) tNil))) tNil)))))))
def t_out (K:PySem.W.Frag):TS:=(tSeq (tAsg jku (jqk 1)) (tSeq (tAsg (tLst (jq3 (tTup (jq3 (tVar 0) (jq3 jku tNil))) tNil)) (jqk 2)) (tSeq (jji (jx0 (tOp rGtI (tCB (cLen K) (jq3 (tVar 2) tNil)) (tC (.int 0)))) (jla K)) (tRet (tCB jhi (jq3 (tVar 1) tNil))))))
def jow (K:PySem.W.Frag):TS:=(tAsg (tOp jm8 (jx7 jab [] E0 (jq3 (tOp jb8 (tVar 4) (tC (.int 29))) tNil)) (tC (.str "k"))) (jqk 6))
def jov (K:PySem.W.Frag):TS:=(tIfS (jx0 (tOp rEq (tOp jj0 (tVar 4) (tC (.int 29))) (tC (.int 7)))) (jow K) jxt)
def jhy (K:PySem.W.Frag):TS:=(jxn (tBM K "list" jxa (tVar 2) (jq3 (tTup (jq3 (tC (.str "number")) (jq3 (tOp (rIxL K) (tLst (jq3 (tOp jwo (tOp jj0 (tVar 4) (tC (.int 4))) (tC (.int 1))) (jq3 (jx7 jef [] E0 (jq3 (tVar 4) tNil)) tNil))) (tCB cInt (jq3 (tOp rEq (tOp jj0 (tVar 4) (tC (.int 5))) (tC (.int 3))) tNil))) tNil))) tNil)))
def jhx (K:PySem.W.Frag):TS:=(jxn (tBM K "list" jxa (tVar 2) (jq3 (tTup (jq3 (tC (.str "name")) (jq3 (tVar 6) tNil))) tNil)))
def jhw (K:PySem.W.Frag):TS:=(tAsg (tOp rCat (tSl (rSlL K) (tVar 2) jz5 (jzd (tUn jjq (tC (.int 3))))) (tLst (jq3 (tTup (jq3 (tC (.str "choose")) (jq3 (tOp (rIxL K) (tVar 7) (tC (.int 0))) (jq3 (tOp (rIxL K) (tVar 7) (tC (.int 1))) (jq3 (tOp (rIxL K) (tVar 7) (tC (.int 2))) tNil))))) tNil))) (jqk 2))
def jhv (K:PySem.W.Frag):TS:=(tAsg (tOp rCat (tSl (rSlL K) (tVar 2) jz5 (jzd (tUn jjq (tC (.int 2))))) (tLst (jq3 (tTup (jq3 (tOp (rIxL K) (tLst (jq3 (tC (.str "sum")) (jq3 (tC (.str "less")) tNil))) (tOp jj0 (tVar 5) (tC (.int 2)))) (jq3 (tOp (rIxL K) (tVar 7) (tUn jjq (tC (.int 2)))) (jq3 (tOp (rIxL K) (tVar 7) (tUn jjq (tC (.int 1)))) tNil)))) tNil))) (jqk 2))
def jou (K:PySem.W.Frag):TS:=(tAsg (tOp (rIxT K) (tVar 8) (tC (.int 2))) (jqk 8))
def jot (K:PySem.W.Frag):TS:=(tIfS (jx0 (tOp (rIn K false) (tOp (rIxT K) (tVar 8) (tC (.int 0))) (tLst (jq3 (tC (.str "sum")) (jq3 (tC (.str "less")) tNil))))) (jou K) jxt)
def jos (K:PySem.W.Frag):TS:=(tAsg (tOp (rIxT K) (tVar 8) (tC (.int 1))) (jqk 6))
def jdy (K:PySem.W.Frag):TS:=(tIfS (tAnd (jx0 (tOp rEq (tOp (rIxT K) (tVar 8) (tC (.int 0))) (tC (.str "name")))) (jx0 (tOp rGtI (tOp jj0 (tVar 4) (tC (.int 3))) (tC (.int 0))))) (jos K) jxt)
def jdx (K:PySem.W.Frag):TS:=(tSeq (tAsg (tOp (rIxL K) (tVar 7) (tUn jjq (tC (.int 1)))) (jqk 8)) (tSeq (jot K) (tSeq (jdy K) (tAsg (tOp rCat (tSl (rSlL K) (tVar 2) jz5 (jzd (tUn jjq (tC (.int 2))))) (tLst (jq3 (tTup (jq3 (tC (.str "let")) (jq3 (tVar 6) (jq3 (tOp (rIxL K) (tVar 7) (tUn jjq (tC (.int 2)))) (jq3 (tOp (rIxL K) (tVar 7) (tUn jjq (tC (.int 1)))) tNil))))) tNil))) (jqk 2)))))
def jlr (K:PySem.W.Frag):TS:=(tSeq (tAsg (tCB (jcj K) (jq3 (tOp rCat (tLst (jq3 (tC (.str "stamp")) (jq3 (tVar 9) tNil))) (tSl (rSlL K) (tVar 2) (jzd (tOp jwo (tCB (cLen K) (jq3 (tVar 2) tNil)) (tVar 10))) jz5)) tNil)) (jqk 11)) (tAsg (tOp rCat (tSl (rSlL K) (tVar 2) jz5 (jzd (tOp jwo (tCB (cLen K) (jq3 (tVar 2) tNil)) (tVar 10)))) (tLst (jq3 (tVar 11) tNil))) (jqk 2)))
def jlq (K:PySem.W.Frag):TS:=(tIfS (jx0 (tOp rEq (tVar 10) (tOp (rIxT K) (tOp (rIxL K) (tVar 1) (tOp jj0 (tVar 4) (tCB (cLen K) (jq3 (tVar 1) tNil)))) (tC (.int 1))))) (jlr K) jxt)
def jdw (K:PySem.W.Frag):TS:=(tSeq (tAsg (tOp (rIxL K) (tVar 1) (tOp jj0 (tVar 4) (tCB (cLen K) (jq3 (tVar 1) tNil)))) (gTup K 2 (jkg (jqk 9) (jkg (jqk 10) gNil)))) (tSeq (tAsg (tCB cMin (jq3 (tVar 10) (jq3 (tCB (cLen K) (jq3 (tVar 2) tNil)) tNil))) (jqk 10)) (jlq K)))
def jlp (K:PySem.W.Frag):TS:=(tIfS (jx0 (tOp (jbz K) (tVar 1) (tLst tNil))) (jdw K) jxt)
def jlo (K:PySem.W.Frag):TS:=(tIfS (jx0 (tOp rEq (tVar 5) (tC (.int 6)))) (jdx K) (jlp K))
def jdv (K:PySem.W.Frag):TS:=(tIfS (jx0 (tOp rLtI (tVar 5) (tC (.int 6)))) (jhv K) (jlo K))
def jln (K:PySem.W.Frag):TS:=(tIfS (tAnd (jx0 (tOp rEq (tVar 5) (tC (.int 5)))) (jx0 (tOp rEq (tCB (cLen K) (jq3 (tVar 7) tNil)) (tC (.int 3))))) (jhw K) (jdv K))
def jdu (K:PySem.W.Frag):TS:=(tIfS (jx0 (tOp rLtI (tVar 5) (tC (.int 3)))) (jhx K) (jln K))
def jb2 (K:PySem.W.Frag):TS:=(tIfS (tOr (jx0 (tOp rEq (tVar 5) (tC (.int 0)))) (tAnd (jx0 (tOp rEq (tCB (cLen K) (jq3 (tVar 7) tNil)) (tC (.int 1)))) (jx0 (ji2 rLtI rLtI (tC (.int 2)) (tVar 5) (tC (.int 7)))))) (jhy K) (jdu K))
def jdt (K:PySem.W.Frag):TS:=(tSeq (tAsg (tOp jb8 (tVar 3) (tC (.int 9))) (jqk 4)) (tSeq (tAsg (tOp jj0 (tVar 3) (tC (.int 9))) (jqk 5)) (tSeq (tAsg (tOp (rIxL K) (tLst (jq3 (tC (.str "sab")) (jq3 (tC (.str "tab")) (jq3 (tC (.str "sob")) (jq3 (tC (.str "sat")) tNil))))) (tOp jj0 (tVar 4) (tC (.int 4)))) (jqk 6)) (tSeq (jov K) (tSeq (tAsg (tSl (rSlL K) (tVar 2) (jzd (tUn jjq (tC (.int 3)))) jz5) (jqk 7)) (jb2 K))))))
def jlm (K:PySem.W.Frag):TS:=(tSeq (tAsg (tBM0 K "list" rPop (tVar 2)) (jqk 12)) (jxn (tBM K "list" jxa (tVar 2) (jq3 (tTup (jq3 (tC (.str "sum")) (jq3 (tBM0 K "list" rPop (tVar 2)) (jq3 (tVar 12) tNil)))) tNil))))
def t_dp (K:PySem.W.Frag):TS:=(tSeq (tAsg (tLst (jq3 (tTup (jq3 (tC (.str "name")) (jq3 (tC (.str "sab")) tNil))) tNil)) (jqk 2)) (tSeq (tFor (jkr K (tVar 0)) (jqk 3) (jdt K)) (tSeq (jji (jx0 (tOp rGtI (tCB (cLen K) (jq3 (tVar 2) tNil)) (tC (.int 1)))) (jlm K)) (tRet (tOp (rIxL K) (tVar 2) (tC (.int 0)))))))
def t_main (K:PySem.W.Frag) (S:Str→Nat→Prop):TS:=(tRet (jx7 (jwj K S) [] E0 (jq3 (tVar 0) (jq3 (tLst (jq3 (tTup (jq3 (tC (.str "st")) (jq3 (tC (.int 2)) tNil))) (jq3 (tTup (jq3 (tC (.str "sta")) (jq3 (tC (.int 1)) tNil))) (jq3 (tTup (jq3 (tC (.str "st")) (jq3 (tC (.int 2)) tNil))) (jq3 (tTup (jq3 (tC (.str "star")) (jq3 (tC (.int 0)) tNil))) tNil))))) tNil))))
end SW
namespace SW
open PySem L2
variable {K:PySem.W.Frag} {vs:List V} {H:Hp} {Q:VK} {E:XK}
abbrev fin (Q:VK):Ends:={ nx:=fun _ H'=>Q .non H',rt:=Q}
theorem rd_any (h:jef vs H Q E):t_any K (fin Q) (start ["_law_cell","_law_size"] vs) H:=by
 obtain ⟨c,rfl,k⟩:=h
 refine ⟨_,rfl,_,_,rfl,rfl,⟨by decide,by decide⟩,_,_,rfl,rfl,⟨by decide,by decide,by decide⟩,_,_,rfl,rfl,(show (0:Int) < 10 ^ (59:Int).toNat by decide),?_⟩
 refine ⟨_,rfl,_,rfl,szl,fun p hp=>?_⟩
 have h2:0≤c % 2∧c % 2 < 2:=by omega
 obtain ⟨v,hv,e⟩:=jkt (xs:=[V.int 1,V.int (-1)]) h2.1 h2.2
 refine ⟨_,rfl,_,_,rfl,rfl,(show (0:Int) < 2 by decide),p,_,_,v,rfl,rfl,SqL.of jq1,e,?_⟩
 have b0:=Int.emod_nonneg (c / 2) (show (10:Int) ^ (59:Int).toNat≠0 by decide)
 have b1:=Int.emod_lt_of_pos (c / 2) (show (0:Int) < 10 ^ (59:Int).toNat by decide)
 have e59:(10:Int) ^ (59:Int).toNat=10 ^ 59:=rfl
 rw [e59] at b0 b1
 rcases List.mem_cons.mp hv with rfl|hv
 ·refine ⟨_,_,rfl,rfl,.inr ⟨by decide,by decide⟩,k _ _ ?_ (jq2 hp)⟩
  rw [e59]
  generalize c / 2 % 10 ^ 59=z at *
  generalize (10:Int) ^ 59=y at *
  omega
 ·rw [List.mem_singleton] at hv
  subst hv
  refine ⟨_,_,rfl,rfl,.inr ⟨by decide,by decide⟩,k _ _ ?_ (jq2 hp)⟩
  rw [e59]
  generalize c / 2 % 10 ^ 59=z at *
  generalize (10:Int) ^ 59=y at *
  omega
theorem rd_aw (h:jab vs H Q E):t_aw K (fin Q) (start ["_law_cell","_law_left","_law_word"] vs) H:=by
 obtain ⟨c,rfl,k⟩:=h
 refine ⟨_,rfl,_,rfl,_,_,rfl,rfl,⟨by decide,by decide,by decide⟩,_,_,rfl,rfl,(show (0:Int) < 10 ^ (39:Int).toNat by decide),?_⟩
 refine ⟨fun m σ H'=>H'=H∧∃ (l:Int) (x:Str),σ=[some (.int c),some (.int l),some (.str x)]∧WordTo l x∧-1≤l∧(m:Int)=l+1,⟨((if c < 0 then -c else c) % 10 ^ (39:Int).toNat+1).toNat,rfl,_,_,rfl,ja6 _,?_,?_⟩,?_⟩
 ·have:=Int.emod_nonneg (if c < 0 then -c else c) (show (10:Int) ^ (39:Int).toNat≠0 by decide)
  omega
 ·have:=Int.emod_nonneg (if c < 0 then -c else c) (show (10:Int) ^ (39:Int).toNat≠0 by decide)
  exact Int.toNat_of_nonneg (by omega)
 ·rintro m σ H' ⟨rfl,l,x,rfl,hw,hl1,hm⟩
  refine ⟨_,rfl,_,_,rfl,rfl,_,rfl,?_⟩
  refine ite2 (fun hl=>?_) (fun hl=>?_)
  ·have hl:(0:Int)≤l:=of_decide_eq_true hl
   refine ⟨fun σ' H''=>∃ m',m' < m∧(H''=H'∧∃ (l:Int) (x:Str),σ'=[some (.int c),some (.int l),some (.str x)]∧WordTo l x∧-1≤l∧(m':Int)=l+1),fun _ _ h=>h,?_⟩
   obtain ⟨ch,hc,e⟩:=jfa l
   refine ⟨_,rfl,_,_,rfl,rfl,(show (0:Int) < 26 by decide),_,_,ch,rfl,rfl,szl (by decide+kernel),e,_,rfl,_,_,rfl,rfl,ja7 hw,?_⟩
   refine ⟨_,rfl,_,_,rfl,rfl,⟨by decide,by decide⟩,_,_,rfl,rfl,?_⟩
   refine ⟨(l / 26 - 1+1).toNat,?_,rfl,_,_,rfl,jb1 hw hl hc,?_,?_⟩
   ·omega
   ·omega
   ·omega
  ·have hl:¬ (0:Int)≤l:=fun z=>hl (decide_eq_true z)
   exact ⟨_,rfl,k _ (jcm hw hl)⟩
theorem rd_ww (h:jzf vs H Q E):t_ww K (fin Q) (start ["words","word","value","more"] vs) H:=by
 obtain ⟨d,x,v,kvs,rfl,hd,hl,k⟩:=h
 refine ⟨_,rfl,d,kvs,rfl,.inl hd,fun p hp=>?_⟩
 refine ⟨_,rfl,_,rfl,_,rfl,p,_,rfl,DPut.k (k:=.inr x) jq1 (jjp hl),?_⟩
 exact ⟨_,rfl,k p _ hp (jqr (jq2 hp) hp) jq1⟩
theorem rd_ins (h:jjd vs H Q E):t_ins K (fin Q) (start ["_law_piece"] vs) H:=by
  obtain ⟨t,v,rfl,hd,k⟩:=h
  cases t with
  | num n=>
   obtain ⟨p,rfl,hp⟩:=hd
   refine ⟨_,rfl,p,_,_,_,rfl,rfl,SqT.of hp,rfl,szl,fun q hq=>?_⟩
   refine ⟨q,_,rfl,.inl (SqL.of jq1),rfl,rfl,_,rfl,?_⟩
   refine iteY (by decide+kernel) ⟨szl,fun l hl=>?_⟩
   exact k l [] _ ((jq2 hq).trans (jq2 hl)) ((jq2 hq).free hl) jq1 .nil
  | name x=>
   obtain ⟨p,rfl,hp⟩:=hd
   refine ⟨_,rfl,p,_,_,_,rfl,rfl,SqT.of hp,rfl,szl,fun q hq=>?_⟩
   refine ⟨q,_,rfl,.inl (SqL.of jq1),rfl,rfl,_,rfl,?_⟩
   refine iteY (by decide+kernel) ⟨szl,fun l hl=>?_⟩
   exact k l [] _ ((jq2 hq).trans (jq2 hl)) ((jq2 hq).free hl) jq1 .nil
  | sum a b=>
   obtain ⟨p,x,y,rfl,hp,d1,d2⟩:=hd
   refine ⟨_,rfl,p,_,_,_,rfl,rfl,SqT.of hp,rfl,szl,fun q hq=>?_⟩
   refine ⟨q,_,rfl,.inl (SqL.of jq1),rfl,rfl,_,rfl,?_⟩
   have h1:=jzk (o:=.lst [.str "number",.str "name"]) hq _ _ hp
   refine iteN (by decide+kernel) ⟨_,rfl,_,rfl,p,_,_,_,rfl,rfl,SqT.of h1,rfl,szl,fun q2 hq2=>?_⟩
   have h2:=jzk (o:=.lst [.str "let",.str "stamp"]) hq2 _ _ h1
   refine ⟨q2,_,rfl,.inl (SqL.of jq1),rfl,rfl,?_⟩
   rw [if_neg Bool.false_ne_true,show inV (V.str "sum") [V.str "let",V.str "stamp"]=false from by decide+kernel]
   refine .inr ⟨_,rfl,?_⟩
   refine ⟨_,_,rfl,rfl,_,rfl,p,_,rfl,SqT.of h2,jj7 1 (by decide) (Nat.le_of_ble_eq_true rfl),fun q3 hq3=>?_⟩
   refine ⟨q3,[x,y],rfl,.inr (SqT.of jq1),fun l hl=>?_⟩
   have s:=(((jq2 (o:=.lst [.str "number",.str "name"]) hq).trans (jq2 (o:=.lst [.str "let",.str "stamp"]) hq2)).trans (jq2 (o:=.tup [x,y]) hq3)).trans (jq2 (o:=.lst [x,y]) hl)
   have s3:=((jq2 (o:=.lst [.str "number",.str "name"]) hq).trans (jq2 (o:=.lst [.str "let",.str "stamp"]) hq2)).trans (jq2 (o:=.tup [x,y]) hq3)
   exact k l [x,y] _ s (s3.free hl) jq1 (.cons (d1.mono (jqa s)) (.cons (d2.mono (jqa s)) .nil))
  | less a b=>
   obtain ⟨p,x,y,rfl,hp,d1,d2⟩:=hd
   refine ⟨_,rfl,p,_,_,_,rfl,rfl,SqT.of hp,rfl,szl,fun q hq=>?_⟩
   refine ⟨q,_,rfl,.inl (SqL.of jq1),rfl,rfl,_,rfl,?_⟩
   have h1:=jzk (o:=.lst [.str "number",.str "name"]) hq _ _ hp
   refine iteN (by decide+kernel) ⟨_,rfl,_,rfl,p,_,_,_,rfl,rfl,SqT.of h1,rfl,szl,fun q2 hq2=>?_⟩
   have h2:=jzk (o:=.lst [.str "let",.str "stamp"]) hq2 _ _ h1
   refine ⟨q2,_,rfl,.inl (SqL.of jq1),rfl,rfl,?_⟩
   rw [if_neg Bool.false_ne_true,show inV (V.str "less") [V.str "let",V.str "stamp"]=false from by decide+kernel]
   refine .inr ⟨_,rfl,?_⟩
   refine ⟨_,_,rfl,rfl,_,rfl,p,_,rfl,SqT.of h2,jj7 1 (by decide) (Nat.le_of_ble_eq_true rfl),fun q3 hq3=>?_⟩
   refine ⟨q3,[x,y],rfl,.inr (SqT.of jq1),fun l hl=>?_⟩
   have s:=(((jq2 (o:=.lst [.str "number",.str "name"]) hq).trans (jq2 (o:=.lst [.str "let",.str "stamp"]) hq2)).trans (jq2 (o:=.tup [x,y]) hq3)).trans (jq2 (o:=.lst [x,y]) hl)
   have s3:=((jq2 (o:=.lst [.str "number",.str "name"]) hq).trans (jq2 (o:=.lst [.str "let",.str "stamp"]) hq2)).trans (jq2 (o:=.tup [x,y]) hq3)
   exact k l [x,y] _ s (s3.free hl) jq1 (.cons (d1.mono (jqa s)) (.cons (d2.mono (jqa s)) .nil))
  | cho a b c=>
   obtain ⟨p,x,y,z,rfl,hp,d1,d2,d3⟩:=hd
   refine ⟨_,rfl,p,_,_,_,rfl,rfl,SqT.of hp,rfl,szl,fun q hq=>?_⟩
   refine ⟨q,_,rfl,.inl (SqL.of jq1),rfl,rfl,_,rfl,?_⟩
   have h1:=jzk (o:=.lst [.str "number",.str "name"]) hq _ _ hp
   refine iteN (by decide+kernel) ⟨_,rfl,_,rfl,p,_,_,_,rfl,rfl,SqT.of h1,rfl,szl,fun q2 hq2=>?_⟩
   have h2:=jzk (o:=.lst [.str "let",.str "stamp"]) hq2 _ _ h1
   refine ⟨q2,_,rfl,.inl (SqL.of jq1),rfl,rfl,?_⟩
   rw [if_neg Bool.false_ne_true,show inV (V.str "choose") [V.str "let",V.str "stamp"]=false from by decide+kernel]
   refine .inr ⟨_,rfl,?_⟩
   refine ⟨_,_,rfl,rfl,_,rfl,p,_,rfl,SqT.of h2,jj7 1 (by decide) (Nat.le_of_ble_eq_true rfl),fun q3 hq3=>?_⟩
   refine ⟨q3,[x,y,z],rfl,.inr (SqT.of jq1),fun l hl=>?_⟩
   have s:=(((jq2 (o:=.lst [.str "number",.str "name"]) hq).trans (jq2 (o:=.lst [.str "let",.str "stamp"]) hq2)).trans (jq2 (o:=.tup [x,y,z]) hq3)).trans (jq2 (o:=.lst [x,y,z]) hl)
   have s3:=((jq2 (o:=.lst [.str "number",.str "name"]) hq).trans (jq2 (o:=.lst [.str "let",.str "stamp"]) hq2)).trans (jq2 (o:=.tup [x,y,z]) hq3)
   exact k l [x,y,z] _ s (s3.free hl) jq1 (.cons (d1.mono (jqa s)) (.cons (d2.mono (jqa s)) (.cons (d3.mono (jqa s)) .nil)))
  | lt w a b=>
   obtain ⟨p,x,y,rfl,hp,d1,d2⟩:=hd
   refine ⟨_,rfl,p,_,_,_,rfl,rfl,SqT.of hp,rfl,szl,fun q hq=>?_⟩
   refine ⟨q,_,rfl,.inl (SqL.of jq1),rfl,rfl,_,rfl,?_⟩
   have h1:=jzk (o:=.lst [.str "number",.str "name"]) hq _ _ hp
   refine iteN (by decide+kernel) ⟨_,rfl,_,rfl,p,_,_,_,rfl,rfl,SqT.of h1,rfl,szl,fun q2 hq2=>?_⟩
   have h2:=jzk (o:=.lst [.str "let",.str "stamp"]) hq2 _ _ h1
   refine ⟨q2,_,rfl,.inl (SqL.of jq1),rfl,rfl,?_⟩
   rw [if_neg Bool.false_ne_true,show inV (V.str "let") [V.str "let",V.str "stamp"]=true from by decide+kernel]
   refine .inr ⟨_,rfl,?_⟩
   refine ⟨_,_,rfl,rfl,_,rfl,p,_,rfl,SqT.of h2,jj7 2 (by decide) (Nat.le_of_ble_eq_true rfl),fun q3 hq3=>?_⟩
   refine ⟨q3,[x,y],rfl,.inr (SqT.of jq1),fun l hl=>?_⟩
   have s:=(((jq2 (o:=.lst [.str "number",.str "name"]) hq).trans (jq2 (o:=.lst [.str "let",.str "stamp"]) hq2)).trans (jq2 (o:=.tup [x,y]) hq3)).trans (jq2 (o:=.lst [x,y]) hl)
   have s3:=((jq2 (o:=.lst [.str "number",.str "name"]) hq).trans (jq2 (o:=.lst [.str "let",.str "stamp"]) hq2)).trans (jq2 (o:=.tup [x,y]) hq3)
   exact k l [x,y] _ s (s3.free hl) jq1 (.cons (d1.mono (jqa s)) (.cons (d2.mono (jqa s)) .nil))
  | st0 w=>
   obtain ⟨p,rfl,hp⟩:=hd
   refine ⟨_,rfl,p,_,_,_,rfl,rfl,SqT.of hp,rfl,szl,fun q hq=>?_⟩
   refine ⟨q,_,rfl,.inl (SqL.of jq1),rfl,rfl,_,rfl,?_⟩
   have h1:=jzk (o:=.lst [.str "number",.str "name"]) hq _ _ hp
   refine iteN (by decide+kernel) ⟨_,rfl,_,rfl,p,_,_,_,rfl,rfl,SqT.of h1,rfl,szl,fun q2 hq2=>?_⟩
   have h2:=jzk (o:=.lst [.str "let",.str "stamp"]) hq2 _ _ h1
   refine ⟨q2,_,rfl,.inl (SqL.of jq1),rfl,rfl,?_⟩
   rw [if_neg Bool.false_ne_true,show inV (V.str "stamp") [V.str "let",V.str "stamp"]=true from by decide+kernel]
   refine .inr ⟨_,rfl,?_⟩
   refine ⟨_,_,rfl,rfl,_,rfl,p,_,rfl,SqT.of h2,jj7 2 (by decide) (Nat.le_of_ble_eq_true rfl),fun q3 hq3=>?_⟩
   refine ⟨q3,[],rfl,.inr (SqT.of jq1),fun l hl=>?_⟩
   have s:=(((jq2 (o:=.lst [.str "number",.str "name"]) hq).trans (jq2 (o:=.lst [.str "let",.str "stamp"]) hq2)).trans (jq2 (o:=.tup []) hq3)).trans (jq2 (o:=.lst []) hl)
   have s3:=((jq2 (o:=.lst [.str "number",.str "name"]) hq).trans (jq2 (o:=.lst [.str "let",.str "stamp"]) hq2)).trans (jq2 (o:=.tup []) hq3)
   exact k l [] _ s (s3.free hl) jq1 .nil
  | st1 w a=>
   obtain ⟨p,x,rfl,hp,d1⟩:=hd
   refine ⟨_,rfl,p,_,_,_,rfl,rfl,SqT.of hp,rfl,szl,fun q hq=>?_⟩
   refine ⟨q,_,rfl,.inl (SqL.of jq1),rfl,rfl,_,rfl,?_⟩
   have h1:=jzk (o:=.lst [.str "number",.str "name"]) hq _ _ hp
   refine iteN (by decide+kernel) ⟨_,rfl,_,rfl,p,_,_,_,rfl,rfl,SqT.of h1,rfl,szl,fun q2 hq2=>?_⟩
   have h2:=jzk (o:=.lst [.str "let",.str "stamp"]) hq2 _ _ h1
   refine ⟨q2,_,rfl,.inl (SqL.of jq1),rfl,rfl,?_⟩
   rw [if_neg Bool.false_ne_true,show inV (V.str "stamp") [V.str "let",V.str "stamp"]=true from by decide+kernel]
   refine .inr ⟨_,rfl,?_⟩
   refine ⟨_,_,rfl,rfl,_,rfl,p,_,rfl,SqT.of h2,jj7 2 (by decide) (Nat.le_of_ble_eq_true rfl),fun q3 hq3=>?_⟩
   refine ⟨q3,[x],rfl,.inr (SqT.of jq1),fun l hl=>?_⟩
   have s:=(((jq2 (o:=.lst [.str "number",.str "name"]) hq).trans (jq2 (o:=.lst [.str "let",.str "stamp"]) hq2)).trans (jq2 (o:=.tup [x]) hq3)).trans (jq2 (o:=.lst [x]) hl)
   have s3:=((jq2 (o:=.lst [.str "number",.str "name"]) hq).trans (jq2 (o:=.lst [.str "let",.str "stamp"]) hq2)).trans (jq2 (o:=.tup [x]) hq3)
   exact k l [x] _ s (s3.free hl) jq1 (.cons (d1.mono (jqa s)) .nil)
  | st2 w a b=>
   obtain ⟨p,x,y,rfl,hp,d1,d2⟩:=hd
   refine ⟨_,rfl,p,_,_,_,rfl,rfl,SqT.of hp,rfl,szl,fun q hq=>?_⟩
   refine ⟨q,_,rfl,.inl (SqL.of jq1),rfl,rfl,_,rfl,?_⟩
   have h1:=jzk (o:=.lst [.str "number",.str "name"]) hq _ _ hp
   refine iteN (by decide+kernel) ⟨_,rfl,_,rfl,p,_,_,_,rfl,rfl,SqT.of h1,rfl,szl,fun q2 hq2=>?_⟩
   have h2:=jzk (o:=.lst [.str "let",.str "stamp"]) hq2 _ _ h1
   refine ⟨q2,_,rfl,.inl (SqL.of jq1),rfl,rfl,?_⟩
   rw [if_neg Bool.false_ne_true,show inV (V.str "stamp") [V.str "let",V.str "stamp"]=true from by decide+kernel]
   refine .inr ⟨_,rfl,?_⟩
   refine ⟨_,_,rfl,rfl,_,rfl,p,_,rfl,SqT.of h2,jj7 2 (by decide) (Nat.le_of_ble_eq_true rfl),fun q3 hq3=>?_⟩
   refine ⟨q3,[x,y],rfl,.inr (SqT.of jq1),fun l hl=>?_⟩
   have s:=(((jq2 (o:=.lst [.str "number",.str "name"]) hq).trans (jq2 (o:=.lst [.str "let",.str "stamp"]) hq2)).trans (jq2 (o:=.tup [x,y]) hq3)).trans (jq2 (o:=.lst [x,y]) hl)
   have s3:=((jq2 (o:=.lst [.str "number",.str "name"]) hq).trans (jq2 (o:=.lst [.str "let",.str "stamp"]) hq2)).trans (jq2 (o:=.tup [x,y]) hq3)
   exact k l [x,y] _ s (s3.free hl) jq1 (.cons (d1.mono (jqa s)) (.cons (d2.mono (jqa s)) .nil))
end SW
namespace SW
open PySem L2
def addW (ws:List Str) (x:Str):List Str:=if x∈ws then ws else ws++[x]
def jj9 (ws:List Str):List (Key×V):=ws.map fun x=>(Sum.inr x,V.bl true)
theorem jgy {ws:List Str} {x y:Str}:y∈addW ws x↔y∈ws∨y=x:=by
 unfold addW
 split
 ·rename_i h
  exact ⟨.inl,fun z=>z.elim id fun e=>e▸h⟩
 ·simp
theorem jda {ws:List Str} {x:Str} (h:ws.Nodup):(addW ws x).Nodup:=by
 unfold addW
 split
 ·exact h
 ·rename_i n
  exact jf5 h n
theorem jbq (ws:List Str) (x:Str):(addW ws x).length≤ws.length+1:=by
 unfold addW
 split
 ·omega
 ·simp
theorem jd2 (ws:List Str):jw3 (jj9 ws)=ws.map V.str:=by simp [jw3,jj9,kV]
theorem jvr (ws:List Str):(jj9 ws).length=ws.length:=by simp [jj9]
theorem jv8 (ws:List Str) (x:Str):(valV (jj9 ws) (Sum.inr x:Key)).isSome=decide (x∈ws):=by
 rw [← jj2]
 unfold jj9
 rw [List.any_map]
 by_cases h:x∈ws
 ·rw [decide_eq_true h]
  exact List.any_eq_true.mpr ⟨x,h,by simp⟩
 ·rw [decide_eq_false h]
  refine List.any_eq_false.mpr fun y hy=>?_
  simp only [Function.comp_apply,decide_eq_true_eq]
  intro e
  cases e
  exact h hy
theorem jvh (ws:List Str) (x:Str):putK (jj9 ws) (Sum.inr x:Key) (.bl true)=jj9 (addW ws x):=by
 unfold addW
 by_cases h:x∈ws
 ·rw [if_pos h]
  unfold putK
  rw [jj2,jv8,decide_eq_true h,if_pos rfl]
  unfold jj9
  rw [List.map_map]
  refine List.map_congr_left fun y _=>?_
  simp only [Function.comp_apply]
  split
  ·rename_i e;rw [e]
  ·rfl
 ·rw [if_neg h,jgo _ (by cases e:valV (jj9 ws) (Sum.inr x:Key) with|none=>rfl|some z=>have:=jv8 ws x;rw [e,decide_eq_false h] at this;cases this)]
  simp [jj9]
theorem jaq {t:T} (h:kind t="name"):∃ x,t=.name x:=by
 cases t with
 | name x=>exact ⟨x,rfl⟩
 | _=>simp only [kind] at h;exact absurd h (by decide+kernel)
theorem jh2 {t:T} (h:kind t="let"):∃ x a b,t=.lt x a b:=by
 cases t with
 | lt x a b=>exact ⟨x,a,b,rfl⟩
 | _=>simp only [kind] at h;exact absurd h (by decide+kernel)
theorem jwx (t:T) (us:List V):atI (hd t++us) 0=some (.str (kind t)):=by cases t<;>exact jqd (j:=0) rfl
theorem jzx (a b:List T):jxd (a++b)=jxd a+jxd b:=by simp [jxd]
theorem jwu {t:T} (h:∀ y,t≠.name y):jxd t.kids=t.names.length:=by
 cases t with
 | name y=>exact absurd rfl (h y)
 | _=>simp [jxd,T.kids,T.names]<;>omega
theorem jxw {α:Type} {l:List α} (h:l≠[]):∃ us u,l=us++[u]:=⟨l.dropLast,l.getLast h,(List.dropLast_concat_getLast h).symm⟩
theorem jkw {us:List V} {u:V}:(us++[u])[(us++[u]).length - 1]?=some u:=by simp
theorem jjt {us:List V} {u:V}:(us++[u]).dropLast=us:=by simp
end SW
namespace SW
open PySem L2
variable {K:PySem.W.Frag} {vs:List V} {H:Hp} {Q:VK} {E:XK}
end SW
namespace SW
open PySem L2
variable {K:PySem.W.Frag} {vs:List V} {H:Hp} {Q:VK} {E:XK}
theorem jc8 {D:Addr→Prop} {H:Hp} {d:Addr} (hD:D d) {kvs:List (Key×V)}:∀ {ts:List T} {us:List V} {vs:List V},DenL H ts vs→H d=some (.dK kvs)→us.length=vs.length→(∀ (i:Nat) u v,us[i]?=some u→vs[i]?=some v→∃ p,u=.ref p∧H p=some (.tup [v,.ref d]))→PairL D H (ts.map fun k=>(k,kvs)) us
 | _,us,_,.nil,_,hl,_=>by
  have:us=[]:=by simpa using hl
  subst this
  exact .nil
 | _,[],_,.cons _ _,_,hl,_=>by simp at hl
 | _,u :: us,_,.cons a r,hd,hl,k=>by
  obtain ⟨p,e,hp⟩:=k 0 u _ rfl rfl
  exact .cons ⟨p,_,d,e,hp,a,hd,hD⟩ (jc8 hD r hd (by simpa using hl) fun i u v h1 h2=>k (i+1) u v (by simpa using h1) (by simpa using h2))
theorem rd_pwl (h:jcq vs H Q E):t_pwl K (fin Q) (start ["piece","lets"] vs) H:=by
 obtain ⟨t,v,d,kvs,rfl,hd,hk,hl,k⟩:=h
 obtain ⟨p,ks,rfl,hp,dk⟩:=hd.open
 refine ⟨_,rfl,p,_,_,_,rfl,rfl,SqT.of hp,jwx t ks,rfl,_,rfl,?_⟩
 refine ite2 (fun hn=>?_) (fun hn=>?_)
 ·obtain ⟨x,a,b,rfl⟩:=jh2 (V.str.inj (of_decide_eq_true hn))
  obtain ⟨p',u1,u2,e,hp',d1,d2⟩:=hd
  cases e
  refine ⟨_,rfl,p,_,_,_,rfl,rfl,SqT.of hp',rfl,_,rfl,_,rfl,p,_,_,_,rfl,rfl,SqT.of hp',rfl,?_⟩
  refine ⟨d,x,.bl true,kvs,rfl,hk,hl,fun e1 H1 n1 s1 h1=>?_⟩
  refine ⟨szl,fun q1 hq1=>?_⟩
  have s2:Same H1 (upd H1 q1 (.tup [u2,.ref e1])):=jq2 hq1
  have g2:(upd H1 q1 (.tup [u2,.ref e1])) q1=some (.tup [u2,.ref e1]):=jq1
  generalize upd H1 q1 (.tup [u2,.ref e1])=H2 at s2 g2 ⊢
  refine ⟨_,rfl,p,_,_,_,rfl,rfl,SqT.of (s2 _ _ (s1 _ _ hp')),rfl,_,rfl,szl,fun q2 hq2=>?_⟩
  have s3:Same H2 (upd H2 q2 (.tup [u1,.ref d])):=jq2 hq2
  have g3:(upd H2 q2 (.tup [u1,.ref d])) q2=some (.tup [u1,.ref d]):=jq1
  generalize upd H2 q2 (.tup [u1,.ref d])=H3 at s3 g3 ⊢
  refine ⟨szl,fun l hl=>?_⟩
  have s4:Same H3 (upd H3 l (.lst [.ref q1,.ref q2])):=jq2 hl
  have s:=(s1.trans s2).trans (s3.trans s4)
  refine k l [.ref q1,.ref q2] _ s (((s1.trans s2).trans s3).free hl) jq1 (.cons ⟨q1,u2,e1,rfl,s4 _ _ (s3 _ _ g2),d2.mono (jqa s),s4 _ _ (s3 _ _ (s2 _ _ h1)),.inr n1⟩ (.cons ⟨q2,u1,d,rfl,s4 _ _ g3,d1.mono (jqa s),s _ _ hk,.inl rfl⟩ .nil))
 ·have nn:∀ x a b,t≠.lt x a b:=fun x a b z=>hn (by rw [z];exact decide_eq_true rfl)
  have em:pwlM t kvs=t.kids.map fun k=>(k,kvs):=by
   cases t with
   | lt x a b=>exact absurd rfl (nn x a b)
   | _=>rfl
  rw [em] at k
  refine ⟨_,rfl,t,.ref p,rfl,hd,fun q us H1 s1 h1 d1=>⟨q,rfl,⟨us,SqT.of h1⟩,?_⟩⟩
  have hlen:=d1.length
  have hks:=jqt t.kids
  have hsm:us.length≤3:=by rw [hlen];cases t<;>simp [T.kids]
  refine ⟨fun i m zs H'=>m=us.length - i∧i≤us.length∧zs.length=i∧Same H1 H'∧∀ (j:Nat) z v,zs[j]?=some z→us[j]?=some v→∃ p,z=.ref p∧H' p=some (.tup [v,.ref d]),⟨us.length,by simp,Nat.zero_le _,rfl,fun _ _ h=>h,fun j z v h=>by simp at h⟩,?_⟩
  rintro i m zs H' ⟨rfl,hi,hz,s2,hw⟩
  by_cases hlt:i < us.length
  ·refine .inr ⟨⟨us,us[i],SqT.of (s2 _ _ h1),by simp [hlt]⟩,fun x H2 y=>?_⟩
   obtain ⟨e,y⟩:=y
   subst e
   have hx:=y us (SqT.of (s2 _ _ h1))
   refine ⟨_,rfl,_,rfl,szl,fun p2 hp2=>⟨by rw [hz,sizeLine_eq];omega,us.length - (i+1),by omega,rfl,hlt,by simp [hz],s2.trans (jq2 hp2),fun j z v h1 h2=>?_⟩⟩
   rcases Nat.lt_or_ge j zs.length with hj|hj
   ·rw [List.getElem?_append_left hj] at h1
    obtain ⟨p3,e3,g3⟩:=hw j z v h1 h2
    exact ⟨p3,e3,jq2 hp2 _ _ g3⟩
   ·rw [List.getElem?_append_right hj] at h1
    have hj0:j - zs.length=0:=by
     cases q:j - zs.length with
     | zero=>rfl
     | succ n=>rw [q] at h1;simp at h1
    rw [hj0] at h1
    have ej:j=i:=by omega
    subst ej
    rw [hx] at h2
    cases h2
    have:z=.ref p2:=by simpa using h1.symm
    exact ⟨p2,this,jq1⟩
  ·have e:i=us.length:=by omega
   refine .inl ⟨⟨us,SqT.of (s2 _ _ h1),by omega⟩,by rw [hz,sizeLine_eq];omega,fun l hl=>?_⟩
   have s3:=s2.trans (jq2 (o:=.lst zs) hl)
   refine k l zs _ (s1.trans s3) ((s1.trans s2).free hl) jq1 (jc8 (.inl rfl) (d1.mono (jqa s3)) (s3 _ _ (s1 _ _ hk)) (by omega) fun i u v h1 h2=>?_)
   obtain ⟨p3,e3,g3⟩:=hw i u v h1 h2
   exact ⟨p3,e3,jq2 hl _ _ g3⟩
end SW
namespace SW
open PySem L2
variable {K:PySem.W.Frag} {vs:List V} {H:Hp} {Q:VK} {E:XK}
def fsts (qs:List (T×List (Key×V))):List T:=qs.map (·.1)
theorem jzh (a b:List (T×List (Key×V))):fsts (a++b)=fsts a++fsts b:=by simp [fsts]
def outQ (x:Str) (qs:List (T×List (Key×V))):Prop:=∃ q∈qs,q.1.out x∧valV q.2 (Sum.inr x:Key)=none
theorem jjg {x:Str} {a b:List (T×List (Key×V))}:outQ x (a++b)↔outQ x a∨outQ x b:=by
 unfold outQ
 constructor
 ·rintro ⟨t,h,o⟩
  rcases List.mem_append.mp h with z|z
  ·exact .inl ⟨t,z,o⟩
  ·exact .inr ⟨t,z,o⟩
 ·rintro (⟨t,h,o⟩|⟨t,h,o⟩)
  ·exact ⟨t,List.mem_append_left _ h,o⟩
  ·exact ⟨t,List.mem_append_right _ h,o⟩
theorem jv5 {x:Str} {q:T×List (Key×V)}:outQ x [q]↔q.1.out x∧valV q.2 (Sum.inr x:Key)=none:=by simp [outQ]
theorem jc9 {x:Str}:¬ outQ x []:=by simp [outQ]
theorem jgu {x:Str} {ts:List T} {kvs:List (Key×V)}:outQ x (ts.map fun k=>(k,kvs))↔(∃ k∈ts,k.out x)∧valV kvs (Sum.inr x:Key)=none:=by
 unfold outQ
 constructor
 ·rintro ⟨q,h,o,v⟩
  obtain ⟨k,hk,rfl⟩:=List.mem_map.mp h
  exact ⟨⟨k,hk,o⟩,v⟩
 ·rintro ⟨⟨k,hk,o⟩,v⟩
  exact ⟨(k,kvs),List.mem_map.mpr ⟨k,hk,rfl⟩,o,v⟩
theorem jeh (t:T) (kvs:List (Key×V)):jxc (fsts (pwlM t kvs))+1=t.size:=by
 have h:=jw8 t
 cases t with
 | lt x a b=>simp [fsts,pwlM,jxc,T.size]<;>omega
 | _=>rw [← h];simp [fsts,pwlM,T.kids,jxc]
theorem jf6 {t:T} (kvs:List (Key×V)) (h:∀ y,t≠.name y):jxd (fsts (pwlM t kvs))=t.names.length:=by
 have e:=jwu h
 cases t with
 | lt x a b=>simp [fsts,pwlM,jxd,T.names]<;>omega
 | _=>rw [← e];simp [fsts,pwlM,T.kids,jxd]
theorem jmh {x:Str} {t:T} {kvs:List (Key×V)} (h:∀ y,t≠.name y):outQ x (pwlM t kvs)↔t.out x∧valV kvs (Sum.inr x:Key)=none:=by
 cases t with
 | name y=>exact absurd rfl (h y)
 | lt w a b=>
  have e:valV (putK kvs (Sum.inr w:Key) (.bl true)) (Sum.inr x:Key)=none↔w≠x∧valV kvs (Sum.inr x:Key)=none:=by
   rw [jg6]
   by_cases q:w=x
   ·subst q;simp
   ·have q':¬ (Sum.inr x:Key)=Sum.inr w:=fun z=>q (Sum.inr.inj z).symm
    rw [if_neg q'];simp [q]
  simp only [outQ,pwlM,List.mem_cons,List.not_mem_nil,or_false,T.out]
  constructor
  ·rintro ⟨q,rfl|rfl,o,v⟩
   ·exact ⟨.inr ⟨(e.mp v).1,o⟩,(e.mp v).2⟩
   ·exact ⟨.inl o,v⟩
  ·rintro ⟨o|⟨n,o⟩,v⟩
   ·exact ⟨_,.inr rfl,o,v⟩
   ·exact ⟨_,.inl rfl,o,e.mpr ⟨n,v⟩⟩
 | _=>
  rw [show pwlM _ kvs=(T.kids _).map (fun k=>(k,kvs)) from rfl,jgu]
  simp [T.kids,T.out]
theorem jhd {t:T} {kvs:List (Key×V)} {n:Nat} (h:kvs.length+t.size≤n):∀ q∈pwlM t kvs,q.2.length+q.1.size≤n:=by
 have e:=jzy kvs (Sum.inr (match t with|.lt x _ _=>x|_=>""):Key) (.bl true)
 cases t with
 | lt x a b=>
  have e:=jzy kvs (Sum.inr x:Key) (.bl true)
  simp only [T.size] at h
  intro q hq
  simp only [pwlM,List.mem_cons,List.not_mem_nil,or_false] at hq
  rcases hq with rfl|rfl
  ·show (putK kvs (Sum.inr x) (V.bl true)).length+b.size≤n;omega
  ·show kvs.length+a.size≤n;omega
 | _=>
  simp only [T.size] at h
  intro q hq
  simp only [pwlM,T.kids,List.map_cons,List.map_nil,List.mem_cons,List.not_mem_nil,or_false] at hq<;>first
   | exact hq.elim
   | (rcases hq with rfl|rfl|rfl<;>(simp only;omega))
   | (rcases hq with rfl|rfl<;>(simp only;omega))
   | (subst hq;simp only;omega)
structure OutSt (t:T) (H₀ H:Hp) (f l:Addr) (ws:List Str) (qs:List (T×List (Key×V))) (us:List V):Prop where
 same:Same H₀ H
 nf:H₀ f=none
 nl:H₀ l=none
 f_:H f=some (.dK (jj9 ws))
 l_:H l=some (.lst us)
 pr:PairL (fun e=>e≠f) H qs us
 nd:ws.Nodup
 cnt:ws.length+jxd (fsts qs)≤t.names.length
 sz:jxc (fsts qs)≤900
 dp:∀ q∈qs,q.2.length+q.1.size≤950
 iff:∀ x,x∈ws∨outQ x qs↔t.out x
theorem rd_out (h:jac vs H Q E):t_out K (fin Q) (start ["piece","found","waiting","pair","current","lets"] vs) H:=by
 obtain ⟨t,v,rfl,hd,hsz,hnm,k⟩:=h
 intro f hf
 refine ⟨_,rfl,fun d hdn=>⟨szl,fun p hp=>⟨szl,fun l hl=>?_⟩⟩⟩
 have s1:Same H (upd H f (.dK [])):=jq2 hf
 have s2:=jq2 (o:=.dK []) hdn
 have s3:=jq2 (o:=.tup [v,.ref d]) hp
 have s4:=jq2 (o:=.lst [.ref p]) hl
 have hfd:d≠f:=(jq9 (jq1 (H:=H) (a:=f) (o:=.dK [])) hdn).symm
 refine ⟨fun m σ H'=>∃ f l j3 j4 j5 ws qs us,σ=[some v,some (.ref f),some (.ref l),j3,j4,j5]∧OutSt t H H' f l ws qs us∧m=jxc (fsts qs),⟨_,f,l,none,none,none,[],[(t,[])],[.ref p],rfl,?_,rfl⟩,?_⟩
 ·refine ⟨s1.trans (s2.trans (s3.trans s4)),hf,((s1.trans s2).trans s3).free hl,s4 _ _ (s3 _ _ (s2 _ _ jq1)),jq1,.cons ⟨p,v,d,rfl,s4 _ _ jq1,hd.mono (jqa (s1.trans (s2.trans (s3.trans s4)))),s4 _ _ (s3 _ _ jq1),hfd⟩ .nil,List.nodup_nil,?_,?_,?_,fun x=>?_⟩
  ·simp [fsts,jxd]
  ·simp [fsts,jxc];omega
  ·intro q hq
   rw [List.mem_singleton] at hq
   subst hq
   simp;omega
  ·rw [jv5];simp [jg7]
 ·rintro m σ H1 ⟨f,l,j3,j4,j5,ws,qs,us,rfl,A,rfl⟩
  refine ⟨_,rfl,l,us,rfl,.inl (SqL.of A.l_),_,_,rfl,rfl,_,rfl,?_⟩
  by_cases hv:us=[]
  ·subst hv
   cases A.pr
   refine iteN rfl ?_
   have hlen:ws.length < 64:=Nat.lt_of_le_of_lt (Nat.le_trans (Nat.le_add_right _ _) A.cnt) hnm
   refine ⟨_,rfl,f,_,ws,rfl,.inl A.f_,jd2 ws,hlen,fun q ws' hq pm so=>?_⟩
   refine k q ws' _ (A.same.trans (jq2 hq)) (A.same.free hq) jq1 (jne (jeg so) (pm.nodup_iff.mpr A.nd)) fun x=>?_
   rw [pm.mem_iff,← A.iff x]
   exact ⟨.inl,fun z=>z.elim id fun z=>(jc9 z).elim⟩
  ·obtain ⟨us,u,rfl⟩:=jxw hv
   refine iteY (decide_eq_true (by simp)) ?_
   obtain ⟨qs',⟨t',kvs⟩,rfl,d1,p',v',d',rfl,hp',dn,hd',hdf⟩:=A.pr.snoc
   refine ⟨fun σ' H'=>∃ m',m' < jxc (fsts (qs'++[(t',kvs)]))∧∃ f l j3 j4 j5 ws qs us,σ'=[some v,some (.ref f),some (.ref l),j3,j4,j5]∧OutSt t H H' f l ws qs us∧m'=jxc (fsts qs),fun _ _ h=>h,?_⟩
   refine ⟨_,rfl,.inl ⟨rfl,_,SqL.of A.l_⟩,l,_,_,rfl,rfl,A.l_,jkw,?_⟩
   rw [jjt]
   have hfl:f≠l:=jxk A.f_ A.l_ (by intro z;cases z)
   have hdl:d'≠l:=jxk hd' A.l_ (by intro z;cases z)
   have tl1:TupLe H1 (upd H1 l (.lst us)):=jxh A.l_
   have s3:Same H (upd H1 l (.lst us)):=jqr A.same A.nl
   have f3:(upd H1 l (.lst us)) f=some (.dK (jj9 ws)):=by rw [jqb hfl];exact A.f_
   have l3:(upd H1 l (.lst us)) l=some (.lst us):=jq1
   have g3:(upd H1 l (.lst us)) d'=some (.dK kvs):=by rw [jqb hdl];exact hd'
   have d3:PairL (fun e=>e≠f) (upd H1 l (.lst us)) qs' us:=d1.mono tl1 fun e kv h1 h2=>⟨by rw [jqb (jxk h2 A.l_ (by intro z;cases z))];exact h2,h1⟩
   have e3:=dn.mono tl1
   have hp3:=tl1 _ _ hp'
   generalize upd H1 l (.lst us)=H3 at s3 f3 l3 d3 e3 hp3 g3 ⊢
   have hcnt:=A.cnt
   have hsz2:=A.sz
   have hdp:=A.dp (t',kvs) (List.mem_append_right _ (List.mem_singleton.mpr rfl))
   simp only at hdp
   rw [jzh,jx5] at hsz2
   rw [jzh,jzx] at hcnt
   have eq1:jxc (fsts [(t',kvs)])=t'.size:=by simp [fsts,jxc]
   have eq2:jxd (fsts [(t',kvs)])=t'.names.length:=by simp [fsts,jxd]
   rw [eq1] at hsz2
   rw [eq2] at hcnt
   obtain ⟨pc,ks,rfl,hpc,dk⟩:=e3.open
   refine ⟨_,rfl,p',_,_,_,rfl,rfl,SqT.of hp3,rfl,?_⟩
   refine ⟨_,rfl,p',_,_,_,rfl,rfl,SqT.of hp3,rfl,?_⟩
   have rest:∀ (ws':List Str) (H4:Hp),Same H H4→H4 f=some (.dK (jj9 ws'))→H4 l=some (.lst us)→H4 d'=some (.dK kvs)→PairL (fun e=>e≠f) H4 qs' us→Den H4 t' (.ref pc)→ws'.Nodup→ws'.length+jxd (fsts qs')+jxd (fsts (pwlM t' kvs))≤t.names.length→
     (∀ x,x∈ws'∨outQ x qs'∨outQ x (pwlM t' kvs)↔t.out x)→
     (jxn (tBM K "list" jvg (tVar 2) (jq3 (jx7 jcq [] E0 (jq3 (tVar 4) (jq3 (tVar 5) tNil))) tNil))) { fin Q with nx:=fun σ' H'=>∃ m',m' < jxc (fsts (qs'++[(t',kvs)]))∧∃ f l j3 j4 j5 ws qs us,σ'=[some v,some (.ref f),some (.ref l),j3,j4,j5]∧OutSt t H H' f l ws qs us∧m'=jxc (fsts qs)}
      [some v,some (.ref f),some (.ref l),some (.ref p'),some (.ref pc),some (.ref d')] H4:=by
    intro ws' H4 s4 f4 l4 g4 d4 e4 nd4 c4 i4
    refine ⟨_,rfl,.inl ⟨rfl,_,SqL.of l4⟩,_,rfl,_,rfl,t',.ref pc,d',kvs,rfl,e4,g4,by omega,fun l2 us2 H5 s5 n5 h5 d5=>?_⟩
    have hk:=jeh t' kvs
    have q1:=d4.length
    have q2:=d5.length
    have q3:=jqt (fsts qs')
    have q4:=jqt (fsts (pwlM t' kvs))
    have q5:(fsts qs').length=qs'.length:=by simp [fsts]
    have q6:(fsts (pwlM t' kvs)).length=(pwlM t' kvs).length:=by simp [fsts]
    refine ⟨l,l2,us,us2,rfl,rfl,s5 _ _ l4,h5,by rw [sizeLine_eq];omega,?_⟩
    have l5:=s5 _ _ l4
    have t6:TupLe H5 (upd H5 l (.lst (us++us2))):=jxh l5
    have dl6:∀ (D:Addr→Prop) e kv,D e→H5 e=some (.dK kv)→(upd H5 l (.lst (us++us2))) e=some (.dK kv)∧D e:=fun D e kv h1 h2=>⟨by rw [jqb (jxk h2 l5 (by intro z;cases z))];exact h2,h1⟩
    have d6:PairL (fun e=>e≠f) H5 (pwlM t' kvs) us2:=d5.mono TupLe.refl fun e kv h1 h2=>⟨h2,by
     rcases h1 with rfl|h1
     ·exact hdf
     ·exact (jq9 f4 h1).symm⟩
    have d7:PairL (fun e=>e≠f) H5 qs' us:=d4.mono (jqa s5) fun e kv h1 h2=>⟨s5 _ _ h2,h1⟩
    refine ⟨jxc (fsts (qs'++pwlM t' kvs)),by rw [jzh,jzh,jx5,jx5,eq1];omega,f,l,_,_,_,ws',qs'++pwlM t' kvs,us++us2,rfl,⟨jqr (s4.trans s5) A.nl,A.nf,A.nl,?_,jq1,(d7.append d6).mono t6 (dl6 _),nd4,?_,?_,fun q hq=>?_,fun x=>?_⟩,rfl⟩
    ·rw [jqb hfl];exact s5 _ _ f4
    ·rw [jzh,jzx];omega
    ·rw [jzh,jx5];omega
    ·rcases List.mem_append.mp hq with z|z
     ·exact A.dp q (List.mem_append_left _ z)
     ·exact jhd hdp q z
    ·rw [jjg];exact i4 x
   have nameOnly:∀ x,t'=.name x→pwlM t' kvs=[]:=fun x e=>by subst e;rfl
   refine ⟨_,rfl,pc,_,_,_,rfl,rfl,SqT.of hpc,jwx t' ks,rfl,_,rfl,?_⟩
   refine ite2 (fun hn=>?_) (fun hn=>?_)
   ·obtain ⟨x,rfl⟩:=jaq (V.str.inj (of_decide_eq_true hn))
    refine ⟨_,rfl,pc,_,_,_,rfl,rfl,SqT.of hpc,jqd (j:=1) rfl,_,rfl,d',_,rfl,DGet.k (k:=.inr x) g3,_,rfl,?_⟩
    have q2:(T.name x).names.length=1:=rfl
    have q3:jxd (fsts (pwlM (T.name x) kvs))=0:=rfl
    have q4:∀ y,¬ outQ y (pwlM (T.name x) kvs):=fun y=>jc9
    refine ite2 (fun hx=>?_) (fun hx=>?_)
    ·have hx:valV kvs (Sum.inr x:Key)=none:=by
      cases q:valV kvs (Sum.inr x:Key) with
      | none=>rfl
      | some z=>rw [q] at hx;cases hx
     refine ⟨_,rfl,_,rfl,pc,_,_,_,rfl,rfl,SqT.of hpc,jqd (j:=1) rfl,f,_,rfl,DPut.k (k:=.inr x) f3 (jjp (by rw [jvr];omega)),?_⟩
     rw [jvh]
     have tf:TupLe H3 (upd H3 f (.dK (jj9 (addW ws x)))):=jip f3
     refine rest (addW ws x) _ (jqr s3 A.nf) jq1 ?_ ?_ (d3.mono tf fun e kv h1 h2=>⟨by rw [jqb h1];exact h2,h1⟩) (e3.mono tf) (jda A.nd) ?_ fun y=>?_
     ·rw [jqb hfl.symm];exact l3
     ·rw [jqb hdf];exact g3
     ·have q1:=jbq ws x
      omega
     ·rw [jgy,← A.iff y,jjg,jv5]
      have q5:(T.name x).out y∧valV kvs (Sum.inr y:Key)=none↔y=x:=⟨fun z=>z.1.symm,fun z=>⟨z.symm,z▸hx⟩⟩
      show _↔y∈ws∨outQ y qs'∨((T.name x).out y∧valV kvs (Sum.inr y:Key)=none)
      rw [q5]
      constructor
      ·rintro ((z|z)|z|z)
       ·exact .inl z
       ·exact .inr (.inr z)
       ·exact .inr (.inl z)
       ·exact (q4 y z).elim
      ·rintro (z|z|z)
       ·exact .inl (.inl z)
       ·exact .inr (.inl z)
       ·exact .inl (.inr z)
    ·refine rest ws _ s3 f3 l3 g3 d3 e3 A.nd (by omega) fun y=>?_
     rw [← A.iff y,jjg,jv5]
     have q5:¬ ((T.name x).out y∧valV kvs (Sum.inr y:Key)=none):=fun z=>by
      have e:x=y:=z.1
      subst e
      rw [z.2] at hx
      exact hx rfl
     constructor
     ·rintro (z|z|z)
      ·exact .inl z
      ·exact .inr (.inl z)
      ·exact (q4 y z).elim
     ·rintro (z|z|z)
      ·exact .inl z
      ·exact .inr (.inl z)
      ·exact (q5 z).elim
   ·have nn:∀ y,t'≠.name y:=fun y z=>hn (by rw [z];exact decide_eq_true rfl)
    refine iteF ?_
    refine rest ws _ s3 f3 l3 g3 d3 e3 A.nd ?_ fun y=>?_
    ·rw [jf6 kvs nn];omega
    ·rw [jmh nn,← A.iff y,jjg,jv5]
end SW
namespace SW
open PySem L2
variable {K:PySem.W.Frag} {vs:List V} {H:Hp} {Q:VK} {E:XK}
theorem jhf (xs:List V) (k:Nat) (hk:0 < k):cutV xs (some (-(k:Int))) none=xs.drop (xs.length - k):=by
 unfold cutV HT.sIx
 have h1:(-(k:Int)) < 0:=by omega
 simp only [h1,if_true]
 have e:(-(k:Int)+(xs.length:Int)).toNat=xs.length - k:=by omega
 rw [e,List.take_of_length_le]
 rw [List.length_drop];omega
theorem jvx (xs:List V) (k:Nat) (hk:0 < k):cutV xs none (some (-(k:Int)))=xs.take (xs.length - k):=by
 unfold cutV HT.sIx
 have h1:(-(k:Int)) < 0:=by omega
 simp only [h1,if_true,List.drop_zero,Nat.sub_zero]
 have e:(-(k:Int)+(xs.length:Int)).toNat=xs.length - k:=by omega
 rw [e]
theorem ja0 (xs:List V) (k:Nat) (hk:k≤xs.length):cutV xs (some (k:Int)) none=xs.drop k:=by
 unfold cutV
 rw [HT.sIx_nat,HT.sIx_none,Nat.min_eq_left hk,List.take_of_length_le]
 rw [List.length_drop];omega
theorem jig (xs:List V) (k:Nat) (hk:k≤xs.length):cutV xs none (some (k:Int))=xs.take k:=by
 unfold cutV
 rw [HT.sIx_nat,HT.sIx_none,Nat.min_eq_left hk,List.drop_zero,Nat.sub_zero]
theorem DenL.split {H:Hp}:∀ {us:List V} {ts:List T} {ws:List V},DenL H ts (us++ws)→∃ ta tb,ts=ta++tb∧DenL H ta us∧DenL H tb ws
 | [],ts,ws,h=>⟨[],ts,rfl,.nil,h⟩
 | u :: us,_,ws,.cons a r=>by
  obtain ⟨ta,tb,rfl,h1,h2⟩:=DenL.split (us:=us) r
  exact ⟨_ :: ta,tb,rfl,.cons a h1,h2⟩
theorem jcl (xs:List V) (a b:V):atI (xs++[a,b]) (-2)=some a:=by
 unfold atI ixN
 have h1:¬ (0:Int)≤-2:=by decide
 have h2 : -((xs++[a,b]).length:Int)≤-2:=by simp;omega
 rw [if_neg h1,if_pos h2]
 have e:(-2+((xs++[a,b]).length:Int)).toNat=xs.length:=by simp;omega
 show (xs++[a,b])[(-2+((xs++[a,b]).length:Int)).toNat]?=some a
 rw [e];simp
theorem ja4 (xs:List V) (a b:V):atI (xs++[a,b]) (-1)=some b:=by
 have:=jhk (xs++[a]) b
 rw [List.append_assoc] at this
 exact this
section
variable {S:Str→Nat→Prop} {H₀ H1:Hp} {n:Nat} {l p:Addr} {ts:List T} {t:T} {v:V}
theorem Pile.mono (P:Pile S H₀ H n l vs ts) (s:Same H H1):Pile S H₀ H1 n l vs ts:=⟨P.same.trans s,P.new,s _ _ P.at_,P.den.mono (jqa s),P.sz,P.one,P.wt⟩
theorem Pile.push (P:Pile S H₀ H n l vs ts) (hd:Den H t v) (wt:WT S t) (hs:t.size=1):Pile S H₀ (upd H l (.lst (vs++[v]))) (n+1) l (vs++[v]) (ts++[t]):=by
 have tl:=jxh (o:=.lst (vs++[v])) P.at_
 refine ⟨jqr P.same P.new,P.new,jq1,(P.den.mono tl).append (.cons (hd.mono tl) .nil),?_,by simp,fun u hu=>?_⟩
 ·rw [jx5,jz0,jj8];have:=P.sz;omega
 ·rcases List.mem_append.mp hu with z|z
  ·exact P.wt u z
  ·rw [List.mem_singleton] at z;subst z;exact wt
theorem Pile.fold {us ws:List V} {ta tb:List T} (P:Pile S H₀ H n l (us++ws) (ta++tb)) (s:Same H H1) (hp:H1 p=none) (d:DenL H ta us) (hd:Den H1 t v) (wt:WT S t) (hs:t.size=jxc tb+1):Pile S H₀ (upd H1 p (.lst (us++[v]))) (n+1) p (us++[v]) (ta++[t]):=by
 have tl:=jzk (o:=.lst (us++[v])) hp
 refine ⟨(P.same.trans s).trans (jq2 hp),(P.same.trans s).free hp,jq1,((d.mono (jqa s)).mono tl).append (.cons (hd.mono tl) .nil),?_,by simp,fun u hu=>?_⟩
 ·have:=P.sz
  rw [jx5] at this ⊢
  rw [jz0,jj8];omega
 ·rcases List.mem_append.mp hu with z|z
  ·exact P.wt u (List.mem_append_left _ z)
  ·rw [List.mem_singleton] at z;subst z;exact wt
def DpN (S:Str→Nat→Prop) (H₀:Hp) (c st:Addr) (n:Nat) (σ:L2.St) (H:Hp):Prop:=
 ∃ l vs ts j3 j4 j5 j6 j7 j8 j9 j10 j11 j12,σ=[some (.ref c),some (.ref st),some (.ref l),j3,j4,j5,j6,j7,j8,j9,j10,j11,j12]∧Pile S H₀ H n l vs ts
end
section
variable {S:Str→Nat→Prop} {H₀:Hp} {n:Nat} {l c st li:Addr} {ts:List T} {D:Ends} {cell rest way:Int} {x:Str} {j8 j9 j10 j11 j12:Option V}
theorem jkv (P:Pile S H₀ H n l vs ts) (hn:n≤1000) (hD:∀ σ H,DpN S H₀ c st (n+1) σ H→D.nx σ H) :
  jhy K D [some (.ref c),some (.ref st),some (.ref l),some (.int cell),some (.int rest),some (.int way),some (.str x),some (.ref li),j8,j9,j10,j11,j12] H:=by
 refine ⟨_,rfl,.inl ⟨rfl,_,SqL.of P.at_⟩,?_⟩
 refine ⟨_,rfl,_,_,rfl,rfl,(show (0:Int) < 4 by decide),_,_,rfl,rfl,_,rfl,rest,rfl,fun z H1 hz s1=>⟨szl,fun q hq=>?_⟩⟩
 have P1:=(P.mono s1).mono (jq2 (o:=.lst [.int (rest % 4 - 1),.int z]) hq)
 have hq1:(upd H1 q (.lst [.int (rest % 4 - 1),.int z])) q=some (.lst [.int (rest % 4 - 1),.int z]):=jq1
 generalize upd H1 q (.lst [.int (rest % 4 - 1),.int z])=H2 at P1 hq1 ⊢
 refine ⟨_,rfl,_,_,rfl,rfl,(show (0:Int) < 5 by decide),rfl,.inr ⟨_,rfl,?_⟩⟩
 have hi:0≤(if decide (V.int (rest % 5)=V.int 3)=true then (1:Int) else 0)∧(if decide (V.int (rest % 5)=V.int 3)=true then (1:Int) else 0) < ([V.int (rest % 4 - 1),V.int z]:List V).length:=by
  constructor
  ·split<;>decide
  ·show _ < ((2:Nat):Int)
   split<;>decide
 obtain ⟨u,hu,e⟩:=jkt hi.1 hi.2
 obtain ⟨y,rfl,hy⟩:∃ y,u=.int y∧(-(10 ^ 60) < y∧y < 10 ^ 60):=by
  have e60:(10:Int) ^ 60=1000000000000000000000000000000000000000000000000000000000000:=by decide
  have e59:(10:Int) ^ 59=100000000000000000000000000000000000000000000000000000000000:=by decide
  rw [e60];rw [e59] at hz
  rcases List.mem_cons.mp hu with rfl|hu
  ·exact ⟨_,rfl,by omega⟩
  ·rw [List.mem_singleton] at hu
   exact ⟨_,hu,by omega⟩
 refine ⟨q,_,_,.int y,rfl,rfl,SqL.of hq1,e,szl,fun p hp=>?_⟩
 have P2:=P1.mono (jq2 (o:=.tup [.str "number",.int y]) hp)
 have hl:vs.length≤n:=by rw [P.den.length];exact Nat.le_trans (jqt ts) P.sz
 refine ⟨l,vs,.ref p,rfl,rfl,P2.at_,by rw [sizeLine_eq];omega,hD _ _ ⟨l,vs++[.ref p],ts++[.num y],_,_,_,_,_,_,_,_,_,_,rfl,P2.push (t:=.num y) (v:=.ref p) ⟨p,rfl,jq1⟩ hy rfl⟩⟩
theorem jcv (P:Pile S H₀ H n l vs ts) (hn:n≤1000) (hx:Wd x) (hD:∀ σ H,DpN S H₀ c st (n+1) σ H→D.nx σ H) :
  jhx K D [some (.ref c),some (.ref st),some (.ref l),some (.int cell),some (.int rest),some (.int way),some (.str x),some (.ref li),j8,j9,j10,j11,j12] H:=by
 refine ⟨_,rfl,.inl ⟨rfl,_,SqL.of P.at_⟩,_,rfl,szl,fun p hp=>?_⟩
 have P2:=P.mono (jq2 (o:=.tup [.str "name",.str x]) hp)
 have hl:vs.length≤n:=by rw [P.den.length];exact Nat.le_trans (jqt ts) P.sz
 refine ⟨l,vs,.ref p,rfl,rfl,P2.at_,by rw [sizeLine_eq];omega,hD _ _ ⟨l,vs++[.ref p],ts++[.name x],_,_,_,_,_,_,_,_,_,_,rfl,P2.push (t:=.name x) (v:=.ref p) ⟨p,rfl,jq1⟩ hx rfl⟩⟩
theorem jaj {us:List V} {a b d:V} {ta:List T} {t1 t2 t3:T} (P:Pile S H₀ H n l (us++[a,b,d]) (ta++[t1,t2,t3])) (hn:n≤1000) (d0:DenL H ta us) (d1:Den H t1 a) (d2:Den H t2 b) (d3:Den H t3 d) (hli:H li=some (.lst [a,b,d])) (hD:∀ σ H,DpN S H₀ c st (n+1) σ H→D.nx σ H) :
  jhw K D [some (.ref c),some (.ref st),some (.ref l),some (.int cell),some (.int rest),some (.int way),some (.str x),some (.ref li),j8,j9,j10,j11,j12] H:=by
 refine ⟨_,rfl,_,rfl,_,rfl,l,_,rfl,SqL.of P.at_,fun q hq=>?_⟩
 rw [show (-3:Int)=-((3:Nat):Int) from rfl,jvx _ 3 (by decide),show (us++[a,b,d]).length - 3=us.length by simp,List.take_left']
 have s1:=jq2 (o:=.lst us) hq
 have g1:(upd H q (.lst us)) q=some (.lst us):=jq1
 generalize upd H q (.lst us)=G1 at s1 g1 ⊢
 refine ⟨_,rfl,li,_,_,_,rfl,rfl,SqL.of (s1 _ _ hli),rfl,_,rfl,li,_,_,_,rfl,rfl,SqL.of (s1 _ _ hli),rfl,_,rfl,li,_,_,_,rfl,rfl,SqL.of (s1 _ _ hli),rfl,szl,fun p hp=>?_⟩
 have s2:=jq2 (o:=.tup [.str "choose",a,b,d]) hp
 have g2:(upd G1 p (.tup [.str "choose",a,b,d])) p=some (.tup [.str "choose",a,b,d]):=jq1
 generalize upd G1 p (.tup [.str "choose",a,b,d])=G2 at s2 g2 ⊢
 refine ⟨szl,fun q2 hq2=>?_⟩
 have s3:=jq2 (o:=.lst [.ref p]) hq2
 have g3:(upd G2 q2 (.lst [.ref p])) q2=some (.lst [.ref p]):=jq1
 generalize upd G2 q2 (.lst [.ref p])=G3 at s3 g3 ⊢
 have sA:=s1.trans (s2.trans s3)
 have hl:(us++[a,b,d]).length≤n:=by rw [P.den.length];exact Nat.le_trans (jqt _) P.sz
 rw [List.length_append] at hl
 refine ⟨q,q2,us,[.ref p],rfl,rfl,s3 _ _ (s2 _ _ g1),g3,by rw [sizeLine_eq];simp;omega,fun p3 hp3=>hD _ _ ⟨p3,us++[.ref p],ta++[.cho t1 t2 t3],_,_,_,_,_,_,_,_,_,_,rfl,P.fold (t:=.cho t1 t2 t3) (v:=.ref p) sA hp3 d0 ⟨p,a,b,d,rfl,s3 _ _ g2,d1.mono (jqa sA),d2.mono (jqa sA),d3.mono (jqa sA)⟩ ⟨P.wt _ (by simp),P.wt _ (by simp),P.wt _ (by simp)⟩ (by simp [T.size,jxc];omega)⟩⟩
 simp
theorem jeo {us zs:List V} {a b:V} {ta:List T} {t1 t2:T} (P:Pile S H₀ H n l (us++[a,b]) (ta++[t1,t2])) (hn:n≤1000) (d0:DenL H ta us) (d1:Den H t1 a) (d2:Den H t2 b) (hli:H li=some (.lst (zs++[a,b]))) (hD:∀ σ H,DpN S H₀ c st (n+1) σ H→D.nx σ H) :
  jhv K D [some (.ref c),some (.ref st),some (.ref l),some (.int cell),some (.int rest),some (.int way),some (.str x),some (.ref li),j8,j9,j10,j11,j12] H:=by
 refine ⟨_,rfl,_,rfl,_,rfl,l,_,rfl,SqL.of P.at_,fun q hq=>?_⟩
 rw [show (-2:Int)=-((2:Nat):Int) from rfl,jvx _ 2 (by decide),show (us++[a,b]).length - 2=us.length by simp,List.take_left']
 have s1:=jq2 (o:=.lst us) hq
 have g1:(upd H q (.lst us)) q=some (.lst us):=jq1
 generalize upd H q (.lst us)=G1 at s1 g1 ⊢
 refine ⟨szl,fun q1 hq1=>?_⟩
 have s1b:=jq2 (o:=.lst [.str "sum",.str "less"]) hq1
 have g1b:(upd G1 q1 (.lst [.str "sum",.str "less"])) q1=some (.lst [.str "sum",.str "less"]):=jq1
 generalize upd G1 q1 (.lst [.str "sum",.str "less"])=G1b at s1b g1b ⊢
 have sB:=s1.trans s1b
 have hw:0≤way % 2∧way % 2 < 2:=by omega
 obtain ⟨u,hu,e⟩:=jkt (xs:=[V.str "sum",V.str "less"]) hw.1 hw.2
 refine ⟨_,rfl,_,_,rfl,rfl,(show (0:Int) < 2 by decide),q1,_,_,u,rfl,rfl,SqL.of g1b,e,?_⟩
 refine ⟨_,rfl,_,rfl,li,_,_,_,rfl,rfl,SqL.of (sB _ _ hli),jcl zs a b,_,rfl,_,rfl,li,_,_,_,rfl,rfl,SqL.of (sB _ _ hli),ja4 zs a b,szl,fun p hp=>?_⟩
 have s2:=jq2 (o:=.tup [u,a,b]) hp
 have g2:(upd G1b p (.tup [u,a,b])) p=some (.tup [u,a,b]):=jq1
 generalize upd G1b p (.tup [u,a,b])=G2 at s2 g2 ⊢
 refine ⟨szl,fun q2 hq2=>?_⟩
 have s3:=jq2 (o:=.lst [.ref p]) hq2
 have g3:(upd G2 q2 (.lst [.ref p])) q2=some (.lst [.ref p]):=jq1
 generalize upd G2 q2 (.lst [.ref p])=G3 at s3 g3 ⊢
 have sA:=sB.trans (s2.trans s3)
 have hl:(us++[a,b]).length≤n:=by rw [P.den.length];exact Nat.le_trans (jqt _) P.sz
 rw [List.length_append] at hl
 have e1:=d1.mono (jqa sA)
 have e2:=d2.mono (jqa sA)
 have w1:WT S t1:=P.wt _ (by simp)
 have w2:WT S t2:=P.wt _ (by simp)
 refine ⟨q,q2,us,[.ref p],rfl,rfl,s3 _ _ (s2 _ _ (s1b _ _ g1)),g3,by rw [sizeLine_eq];simp;omega,fun p3 hp3=>?_⟩
 rcases List.mem_cons.mp hu with rfl|hu
 ·exact hD _ _ ⟨p3,us++[.ref p],ta++[.sum t1 t2],_,_,_,_,_,_,_,_,_,_,rfl,P.fold (t:=.sum t1 t2) (v:=.ref p) sA hp3 d0 ⟨p,a,b,rfl,s3 _ _ g2,e1,e2⟩ ⟨w1,w2⟩ (by simp [T.size,jxc])⟩
 ·rw [List.mem_singleton] at hu
  subst hu
  exact hD _ _ ⟨p3,us++[.ref p],ta++[.less t1 t2],_,_,_,_,_,_,_,_,_,_,rfl,P.fold (t:=.less t1 t2) (v:=.ref p) sA hp3 d0 ⟨p,a,b,rfl,s3 _ _ g2,e1,e2⟩ ⟨w1,w2⟩ (by simp [T.size,jxc])⟩
 all_goals simp
end
end SW
namespace SW
open PySem L2
variable {K:PySem.W.Frag} {vs:List V} {H:Hp} {Q:VK} {E:XK}
theorem jd4 {t:T} (h:(if false=true then !inV (V.str (kind t)) [V.str "sum",V.str "less"] else inV (V.str (kind t)) [V.str "sum",V.str "less"])=true):(∃ a b,t=.sum a b)∨∃ a b,t=.less a b:=by
 rw [if_neg Bool.false_ne_true] at h
 cases t with
 | sum a b=>exact .inl ⟨a,b,rfl⟩
 | less a b=>exact .inr ⟨a,b,rfl⟩
 | _=>simp only [kind] at h;exact absurd h (by decide+kernel)
section
variable {S:Str→Nat→Prop} {H₀:Hp} {n:Nat} {l c st li:Addr} {ts:List T} {D:Ends} {cell rest way:Int} {x:Str} {j8 j9 j10 j11 j12:Option V}
theorem jep {us zs:List V} {a b:V} {ta:List T} {t1 t2:T} (P:Pile S H₀ H n l (us++[a,b]) (ta++[t1,t2])) (hn:n≤1000) (d0:DenL H ta us) (d1:Den H t1 a) (d2:Den H t2 b) (hli:H li=some (.lst (zs++[a,b]))) (hx:Wd x) (hD:∀ σ H,DpN S H₀ c st (n+1) σ H→D.nx σ H) :
  jdx K D [some (.ref c),some (.ref st),some (.ref l),some (.int cell),some (.int rest),some (.int way),some (.str x),some (.ref li),j8,j9,j10,j11,j12] H:=by
 have w1:WT S t1:=P.wt _ (by simp)
 have w2:WT S t2:=P.wt _ (by simp)
 have last:∀ (y:Str) (vl:V) (G:Hp),Wd y→Same H G→
   (tAsg (tOp rCat (tSl (rSlL K) (tVar 2) jz5 (jzd (tUn jjq (tC (.int 2))))) (tLst (jq3 (tTup (jq3 (tC (.str "let")) (jq3 (tVar 6) (jq3 (tOp (rIxL K) (tVar 7) (tUn jjq (tC (.int 2)))) (jq3 (tOp (rIxL K) (tVar 7) (tUn jjq (tC (.int 1)))) tNil))))) tNil))) (jqk 2)) D
    [some (.ref c),some (.ref st),some (.ref l),some (.int cell),some (.int rest),some (.int way),some (.str y),some (.ref li),some vl,j9,j10,j11,j12] G:=by
  intro y vl G hy sG
  have PG:=P.mono sG
  refine ⟨_,rfl,_,rfl,_,rfl,l,_,rfl,SqL.of PG.at_,fun q hq=>?_⟩
  rw [show (-2:Int)=-((2:Nat):Int) from rfl,jvx _ 2 (by decide),show (us++[a,b]).length - 2=us.length by simp,List.take_left']
  have s1:=jq2 (o:=.lst us) hq
  have g1:(upd G q (.lst us)) q=some (.lst us):=jq1
  generalize upd G q (.lst us)=G1 at s1 g1 ⊢
  have hli1:=s1 _ _ (sG _ _ hli)
  refine ⟨_,rfl,_,rfl,_,rfl,li,_,_,_,rfl,rfl,SqL.of hli1,jcl zs a b,_,rfl,_,rfl,li,_,_,_,rfl,rfl,SqL.of hli1,ja4 zs a b,szl,fun p hp=>?_⟩
  have s2:=jq2 (o:=.tup [.str "let",.str y,a,b]) hp
  have g2:(upd G1 p (.tup [.str "let",.str y,a,b])) p=some (.tup [.str "let",.str y,a,b]):=jq1
  generalize upd G1 p (.tup [.str "let",.str y,a,b])=G2 at s2 g2 ⊢
  refine ⟨szl,fun q2 hq2=>?_⟩
  have s3:=jq2 (o:=.lst [.ref p]) hq2
  have g3:(upd G2 q2 (.lst [.ref p])) q2=some (.lst [.ref p]):=jq1
  generalize upd G2 q2 (.lst [.ref p])=G3 at s3 g3 ⊢
  have sA:=s1.trans (s2.trans s3)
  have hl:(us++[a,b]).length≤n:=by rw [P.den.length];exact Nat.le_trans (jqt _) P.sz
  rw [List.length_append] at hl
  have e1:=(d1.mono (jqa sG)).mono (jqa sA)
  have e2:=(d2.mono (jqa sG)).mono (jqa sA)
  refine ⟨q,q2,us,[.ref p],rfl,rfl,s3 _ _ (s2 _ _ g1),g3,by rw [sizeLine_eq];simp;omega,fun p3 hp3=>?_⟩
  exact hD _ _ ⟨p3,us++[.ref p],ta++[.lt y t1 t2],_,_,_,_,_,_,_,_,_,_,rfl,PG.fold (t:=.lt y t1 t2) (v:=.ref p) sA hp3 (d0.mono (jqa sG)) ⟨p,a,b,rfl,s3 _ _ g2,e1,e2⟩ ⟨hy,w1,w2⟩ (by simp [T.size,jxc])⟩
  simp
 have rest2:∀ (tl:T) (vl:V) (G:Hp),Same H G→Den G tl vl→WT S tl→
   (tSeq (jdy K) (tAsg (tOp rCat (tSl (rSlL K) (tVar 2) jz5 (jzd (tUn jjq (tC (.int 2))))) (tLst (jq3 (tTup (jq3 (tC (.str "let")) (jq3 (tVar 6) (jq3 (tOp (rIxL K) (tVar 7) (tUn jjq (tC (.int 2)))) (jq3 (tOp (rIxL K) (tVar 7) (tUn jjq (tC (.int 1)))) tNil))))) tNil))) (jqk 2))) D
    [some (.ref c),some (.ref st),some (.ref l),some (.int cell),some (.int rest),some (.int way),some (.str x),some (.ref li),some vl,j9,j10,j11,j12] G:=by
  intro tl vl G sG dl wl
  obtain ⟨pl,ks,rfl,hpl,_⟩:=dl.open
  refine ⟨_,rfl,pl,_,_,_,rfl,rfl,SqT.of hpl,jwx tl ks,rfl,_,rfl,?_⟩
  refine ite2 (fun hk=>?_) (fun hk=>?_)
  ·obtain ⟨y,rfl⟩:=jaq (V.str.inj (of_decide_eq_true hk))
   refine ⟨_,rfl,_,_,rfl,rfl,(show (0:Int) < 3 by decide),_,_,rfl,rfl,_,rfl,?_⟩
   refine ite2 (fun _=>?_) (fun _=>?_)
   ·exact ⟨_,rfl,pl,_,_,_,rfl,rfl,SqT.of hpl,jqd (j:=1) rfl,last y _ G wl sG⟩
   ·exact last x _ G hx sG
  ·exact iteF (last x _ G hx sG)
 obtain ⟨pb,ks,rfl,hpb,_⟩:=d2.open
 refine ⟨_,rfl,_,rfl,li,_,_,_,rfl,rfl,SqL.of hli,ja4 zs a _,?_⟩
 refine ⟨_,rfl,pb,_,_,_,rfl,rfl,SqT.of hpb,jwx t2 ks,szl,fun q hq=>?_⟩
 have s1:=jq2 (o:=.lst [.str "sum",.str "less"]) hq
 have g1:(upd H q (.lst [.str "sum",.str "less"])) q=some (.lst [.str "sum",.str "less"]):=jq1
 generalize upd H q (.lst [.str "sum",.str "less"])=G1 at s1 g1 ⊢
 refine ⟨q,_,rfl,.inl (SqL.of g1),rfl,rfl,_,rfl,?_⟩
 refine ite2 (fun hk=>?_) (fun hk=>?_)
 ·rcases jd4 hk with ⟨a',b',rfl⟩|⟨a',b',rfl⟩
  ·obtain ⟨p',u1,u2,e,h3,e1,e2⟩:=d2
   cases e
   exact ⟨_,rfl,pb,_,_,_,rfl,rfl,SqT.of (s1 _ _ h3),rfl,rest2 b' u2 G1 s1 (e2.mono (jqa s1)) w2.2⟩
  ·obtain ⟨p',u1,u2,e,h3,e1,e2⟩:=d2
   cases e
   exact ⟨_,rfl,pb,_,_,_,rfl,rfl,SqT.of (s1 _ _ h3),rfl,rest2 b' u2 G1 s1 (e2.mono (jqa s1)) w2.2⟩
 ·exact rest2 t2 _ G1 s1 (d2.mono (jqa s1)) w2
theorem jgf {S:Str→Nat→Prop} {H:Hp} {nm:Str} {m:Nat} {ws:List V} {tb:List T} {p:Addr} (hm:m≤2) (hS:S nm m) (hl:ws.length=m) (d:DenL H tb ws) (wt:∀ t∈tb,WT S t) (hp:H p=some (.tup ([.str "stamp",.str nm]++ws))) :
  ∃ t,Den H t (.ref p)∧WT S t∧t.size=jxc tb+1:=by
 cases d with
 | nil=>
  subst hl
  exact ⟨.st0 nm,⟨p,rfl,hp⟩,hS,rfl⟩
 | @cons t1 v1 tb ws a r=>
  cases r with
  | nil=>
   subst hl
   exact ⟨.st1 nm t1,⟨p,v1,rfl,hp,a⟩,⟨hS,wt _ (by simp)⟩,by simp [T.size,jxc]⟩
  | @cons t2 v2 tb ws b r=>
   cases r with
   | nil=>
    subst hl
    exact ⟨.st2 nm t1 t2,⟨p,v1,v2,rfl,hp,a,b⟩,⟨hS,wt _ (by simp),wt _ (by simp)⟩,by simp [T.size,jxc]⟩
   | cons _ _=>simp at hl;omega
theorem jb7 {xs:List V} (P:Pile S H₀ H n l vs ts) (hn:n≤1000) (hst:H st=some (.lst xs)) (hxs:xs≠[]) (hS:jjh S H xs) (hD:∀ σ H,DpN S H₀ c st (n+1) σ H→D.nx σ H) (hD0:∀ σ H,DpN S H₀ c st n σ H→D.nx σ H) :
  jdw K D [some (.ref c),some (.ref st),some (.ref l),some (.int cell),some (.int rest),some (.int way),some (.str x),some (.ref li),j8,j9,j10,j11,j12] H:=by
 have hpos:(0:Int) < (xs.length:Int):=by
  cases xs with
  | nil=>exact absurd rfl hxs
  | cons _ _=>simp
 have hr:=Int.emod_nonneg rest (Int.ne_of_gt hpos)
 have hr2:=Int.emod_lt_of_pos rest hpos
 obtain ⟨v,hv,e⟩:=jkt hr hr2
 obtain ⟨q,nm,m,rfl,hq,hm,hSm⟩:=hS v hv
 refine ⟨_,rfl,_,rfl,_,rfl,st,xs,rfl,.inl (SqL.of hst),_,_,rfl,rfl,hpos,st,xs,_,_,rfl,rfl,SqL.of hst,e,q,_,rfl,SqT.of hq,rfl,_,_,rfl,_,_,rfl,rfl,?_⟩
 refine ⟨_,rfl,_,rfl,l,vs,rfl,.inl (SqL.of P.at_),_,_,rfl,?_⟩
 refine ⟨_,rfl,_,rfl,_,rfl,_,rfl,st,xs,rfl,.inl (SqL.of hst),_,_,rfl,rfl,hpos,st,xs,_,_,rfl,rfl,SqL.of hst,e,q,_,_,_,rfl,rfl,SqT.of hq,jqd (j:=1) rfl,rfl,_,rfl,?_⟩
 refine ite2 (fun hk=>?_) (fun hk=>?_)
 ·have hk:(if (vs.length:Int) < (m:Int) then (vs.length:Int) else (m:Int))=m:=V.int.inj (of_decide_eq_true hk)
  have hml:m≤vs.length:=by
   split at hk
   ·omega
   ·omega
  rw [hk]
  obtain ⟨us,ws,rfl,hws⟩:∃ us ws,vs=us++ws∧ws.length=m:=⟨vs.take (vs.length - m),vs.drop (vs.length - m),(List.take_append_drop _ _).symm,by rw [List.length_drop];omega⟩
  obtain ⟨ta,tb,rfl,d0,d1⟩:=P.den.split
  have hel:((us++ws).length:Int) - (m:Int)=((us.length:Nat):Int):=by rw [List.length_append];omega
  have hl:(us++ws).length≤n:=by rw [P.den.length];exact Nat.le_trans (jqt _) P.sz
  rw [List.length_append] at hl
  refine ⟨_,rfl,szl,fun q1 hq1=>?_⟩
  have s1:=jq2 (o:=.lst [.str "stamp",.str nm]) hq1
  have g1:(upd H q1 (.lst [.str "stamp",.str nm])) q1=some (.lst [.str "stamp",.str nm]):=jq1
  generalize upd H q1 (.lst [.str "stamp",.str nm])=G1 at s1 g1 ⊢
  refine ⟨_,rfl,_,rfl,l,_,rfl,.inl (SqL.of (s1 _ _ P.at_)),_,rfl,_,_,rfl,rfl,_,rfl,l,_,rfl,SqL.of (s1 _ _ P.at_),fun q2 hq2=>?_⟩
  rw [hel,ja0 _ _ (by simp),List.drop_left']
  have s2:=jq2 (o:=.lst ws) hq2
  have g2:(upd G1 q2 (.lst ws)) q2=some (.lst ws):=jq1
  generalize upd G1 q2 (.lst ws)=G2 at s2 g2 ⊢
  refine ⟨q1,q2,_,_,rfl,rfl,s2 _ _ g1,g2,by rw [sizeLine_eq];simp;omega,fun q3 hq3=>?_⟩
  have s3:=jq2 (o:=.lst ([.str "stamp",.str nm]++ws)) hq3
  have g3:(upd G2 q3 (.lst ([.str "stamp",.str nm]++ws))) q3=some (.lst ([.str "stamp",.str nm]++ws)):=jq1
  generalize upd G2 q3 (.lst ([.str "stamp",.str nm]++ws))=G3 at s3 g3 ⊢
  refine ⟨q3,_,rfl,.inl ⟨SqL.of g3,fun q4 hq4=>?_⟩⟩
  have s4:=jq2 (o:=.tup ([.str "stamp",.str nm]++ws)) hq4
  have g4:(upd G3 q4 (.tup ([.str "stamp",.str nm]++ws))) q4=some (.tup ([.str "stamp",.str nm]++ws)):=jq1
  generalize upd G3 q4 (.tup ([.str "stamp",.str nm]++ws))=G4 at s4 g4 ⊢
  have sB:=(s1.trans s2).trans (s3.trans s4)
  refine ⟨_,rfl,_,rfl,l,_,rfl,.inl (SqL.of (sB _ _ P.at_)),_,rfl,_,_,rfl,rfl,_,rfl,l,_,rfl,SqL.of (sB _ _ P.at_),fun q5 hq5=>?_⟩
  rw [hel,jig _ _ (by simp),List.take_left']
  have s5:=jq2 (o:=.lst us) hq5
  have g5:(upd G4 q5 (.lst us)) q5=some (.lst us):=jq1
  generalize upd G4 q5 (.lst us)=G5 at s5 g5 ⊢
  refine ⟨_,rfl,szl,fun q6 hq6=>?_⟩
  have s6:=jq2 (o:=.lst [.ref q4]) hq6
  have g6:(upd G5 q6 (.lst [.ref q4])) q6=some (.lst [.ref q4]):=jq1
  generalize upd G5 q6 (.lst [.ref q4])=G6 at s6 g6 ⊢
  have sA:=sB.trans (s5.trans s6)
  obtain ⟨t,dt,wt,hs⟩:=jgf hm hSm hws (d1.mono (jqa sA)) (fun t ht=>P.wt t (List.mem_append_right _ ht)) (s6 _ _ (s5 _ _ g4))
  refine ⟨q5,q6,us,[.ref q4],rfl,rfl,s6 _ _ g5,g6,by rw [sizeLine_eq];simp;omega,fun p3 hp3=>?_⟩
  exact hD _ _ ⟨p3,us++[.ref q4],ta++[t],_,_,_,_,_,_,_,_,_,_,rfl,P.fold sA hp3 d0 dt wt hs⟩
  all_goals rfl
 ·exact hD0 _ _ ⟨l,vs,ts,_,_,_,_,_,_,_,_,_,_,rfl,P⟩
end
end SW
namespace SW
open PySem L2
variable {K:PySem.W.Frag} {vs:List V} {H:Hp} {Q:VK} {E:XK}
theorem jwh {α:Type}:∀ {l:List α},2≤l.length→∃ us a b,l=us++[a,b]:=fun {l} h=>by
 have hne:l≠[]:=by intro e;subst e;simp at h
 obtain ⟨us,b,rfl⟩:=jxw hne
 have hne:us≠[]:=by intro e;subst e;simp at h
 obtain ⟨us,a,rfl⟩:=jxw hne
 exact ⟨us,a,b,by simp⟩
theorem jcp {α:Type}:∀ {l:List α},3≤l.length→∃ us a b c,l=us++[a,b,c]:=fun {l} h=>by
 have hne:l≠[]:=by intro e;subst e;simp at h
 obtain ⟨us,c,rfl⟩:=jxw hne
 obtain ⟨us,a,b,rfl⟩:=jwh (l:=us) (by simp at h;omega)
 exact ⟨us,a,b,c,by simp⟩
section
variable {S:Str→Nat→Prop} {H₀:Hp} {n:Nat} {l c st li:Addr} {ts:List T} {D:Ends} {cell rest way:Int} {x:Str} {j8 j9 j10 j11 j12:Option V}
theorem jgl {xs:List V} (P:Pile S H₀ H n l vs ts) (hn:n≤1000) (hli:H li=some (.lst (vs.drop (vs.length - 3)))) (hw:0≤way∧way < 9) (hx:Wd x) (hst:H st=some (.lst xs)) (hS:jjh S H xs)
  (hD:∀ σ H,DpN S H₀ c st (n+1) σ H→D.nx σ H) :
  jb2 K D [some (.ref c),some (.ref st),some (.ref l),some (.int cell),some (.int rest),some (.int way),some (.str x),some (.ref li),j8,j9,j10,j11,j12] H:=by
 have hD0:∀ σ H,DpN S H₀ c st n σ H→D.nx σ H:=fun σ H h=>hD σ H (by
  obtain ⟨l,vs,ts,j3,j4,j5,j6,j7,j8,j9,j10,j11,j12,e,P⟩:=h
  exact ⟨l,vs,ts,j3,j4,j5,j6,j7,j8,j9,j10,j11,j12,e,P.same,P.new,P.at_,P.den,by have:=P.sz;omega,P.one,P.wt⟩)
 have hlen:(vs.drop (vs.length - 3)).length=min 3 vs.length:=by rw [List.length_drop];omega
 have h1:1≤vs.length:=by
  rw [P.den.length]
  cases ts with
  | nil=>exact absurd rfl P.one
  | cons _ _=>simp
 have two:2≤vs.length→∃ us a b ta t1 t2,vs=us++[a,b]∧ts=ta++[t1,t2]∧DenL H ta us∧Den H t1 a∧Den H t2 b∧∃ zs,vs.drop (vs.length - 3)=zs++[a,b]:=fun h2=>by
  obtain ⟨us,a,b,rfl⟩:=jwh h2
  obtain ⟨ta,tb,rfl,d0,d1⟩:=P.den.split
  cases d1 with
  | cons e1 r=>
  cases r with
  | cons e2 r=>
  cases r
  refine ⟨us,a,b,ta,_,_,rfl,rfl,d0,e1,e2,us.drop (us.length - 1),?_⟩
  rw [show (us++[a,b]).length - 3=us.length - 1 by simp,List.drop_append_of_le_length (by omega)]
 have other:way≠0→((vs.drop (vs.length - 3)).length=1→¬ (2 < way∧way < 7))→
   jdu K D [some (.ref c),some (.ref st),some (.ref l),some (.int cell),some (.int rest),some (.int way),some (.str x),some (.ref li),j8,j9,j10,j11,j12] H:=by
  intro h0 hno
  have hge:2 < way→way < 7→2≤vs.length:=fun a b=>by
   rcases Nat.lt_or_ge vs.length 2 with z|z
   ·exact absurd ⟨a,b⟩ (hno (by rw [hlen];omega))
   ·exact z
  refine ⟨_,rfl,_,_,rfl,rfl,_,rfl,?_⟩
  refine ite2 (fun h3=>jcv P hn hx hD) (fun h3=>?_)
  have h3:¬ way < 3:=fun z=>h3 (decide_eq_true z)
  have low:jdv K D [some (.ref c),some (.ref st),some (.ref l),some (.int cell),some (.int rest),some (.int way),some (.str x),some (.ref li),j8,j9,j10,j11,j12] H:=by
   refine ⟨_,rfl,_,_,rfl,rfl,_,rfl,?_⟩
   refine ite2 (fun h6=>?_) (fun h6=>?_)
   ·have h6:way < 6:=of_decide_eq_true h6
    obtain ⟨us,a,b,ta,t1,t2,rfl,rfl,d0,d1,d2,zs,ez⟩:=two (hge (by omega) (by omega))
    rw [ez] at hli
    exact jeo P hn d0 d1 d2 hli hD
   ·have h6:¬ way < 6:=fun z=>h6 (decide_eq_true z)
    refine ⟨_,rfl,rfl,_,rfl,?_⟩
    refine ite2 (fun h7=>?_) (fun h7=>?_)
    ·have h7:way=6:=V.int.inj (of_decide_eq_true h7)
     obtain ⟨us,a,b,ta,t1,t2,rfl,rfl,d0,d1,d2,zs,ez⟩:=two (hge (by omega) (by omega))
     rw [ez] at hli
     exact jep P hn d0 d1 d2 hli hx hD
    ·refine ⟨_,rfl,szl,fun e he=>?_⟩
     have s1:=jq2 (o:=.lst []) he
     have g1:(upd H e (.lst [])) e=some (.lst []):=jq1
     generalize upd H e (.lst [])=G at s1 g1 ⊢
     refine ⟨st,e,xs,rfl,rfl,SqL.of (s1 _ _ hst),SqL.of g1,_,rfl,?_⟩
     have hSG:jjh S G xs:=fun v hv=>by
      obtain ⟨q,nm,m,e1,e2,e3⟩:=hS v hv
      exact ⟨q,nm,m,e1,s1 _ _ e2,e3⟩
     refine ite2 (fun hk=>?_) (fun hk=>?_)
     ·exact jb7 (P.mono s1) hn (s1 _ _ hst) (by intro z;subst z;cases hk) hSG hD hD0
     ·exact hD0 _ _ ⟨l,vs,ts,_,_,_,_,_,_,_,_,_,_,rfl,P.mono s1⟩
  refine ⟨_,rfl,rfl,_,rfl,?_⟩
  refine ite2 (fun h5=>?_) (fun h5=>iteF low)
  refine ⟨_,rfl,li,_,rfl,.inl (SqL.of hli),rfl,_,rfl,?_⟩
  refine ite2 (fun hl3=>?_) (fun hl3=>low)
  have hl3:(((vs.drop (vs.length - 3)).length:Nat):Int)=3:=V.int.inj (of_decide_eq_true hl3)
  obtain ⟨us,a,b,d,rfl⟩:=jcp (l:=vs) (by omega)
  obtain ⟨ta,tb,rfl,d0,d1⟩:=P.den.split
  cases d1 with
  | cons e1 r=>
  cases r with
  | cons e2 r=>
  cases r with
  | cons e3 r=>
  cases r
  rw [show (us++[a,b,d]).length - 3=us.length by simp,List.drop_left'] at hli
  exact jaj P hn d0 e1 e2 e3 hli hD
  rfl
 refine ⟨_,rfl,rfl,_,rfl,?_⟩
 refine ite2 (fun h0=>iteT (jkv P hn hD)) (fun h0=>?_)
 have h0:way≠0:=fun z=>h0 (by rw [z];exact decide_eq_true rfl)
 refine ⟨_,rfl,li,_,rfl,.inl (SqL.of hli),rfl,_,rfl,?_⟩
 refine ite2 (fun hl1=>?_) (fun hl1=>?_)
 ·refine ⟨_,rfl,_,_,rfl,rfl,_,rfl,?_⟩
  refine ite2 (fun h2=>⟨_,_,rfl,rfl,_,rfl,?_⟩) (fun h2=>⟨_,rfl,?_⟩)
  ·refine ite2 (fun _=>jkv P hn hD) (fun h7=>?_)
   exact other h0 fun _ z=>h7 (decide_eq_true z.2)
  ·exact iteF (other h0 fun _ z=>h2 (decide_eq_true z.1))
 ·refine iteF (other h0 fun z=>?_)
  exact absurd (decide_eq_true (congrArg V.int (by rw [z];rfl))) hl1
theorem jcu {xs:List V} {j4 j5 j6 j7:Option V} (P:Pile S H₀ H n l vs ts) (hn:n≤1000) (hst:H st=some (.lst xs)) (hS:jjh S H xs) (hD:∀ σ H,DpN S H₀ c st (n+1) σ H→D.nx σ H) :
  jdt K D [some (.ref c),some (.ref st),some (.ref l),some (.int cell),j4,j5,j6,j7,j8,j9,j10,j11,j12] H:=by
 refine ⟨_,rfl,_,_,rfl,rfl,⟨by decide,by decide⟩,_,rfl,_,_,rfl,rfl,(show (0:Int) < 9 by decide),szl,fun q hq=>?_⟩
 have hw:0≤cell % 9∧cell % 9 < 9:=by omega
 have s1:=jq2 (o:=.lst [.str "sab",.str "tab",.str "sob",.str "sat"]) hq
 have g1:(upd H q (.lst [.str "sab",.str "tab",.str "sob",.str "sat"])) q=some (.lst [.str "sab",.str "tab",.str "sob",.str "sat"]):=jq1
 generalize upd H q (.lst [.str "sab",.str "tab",.str "sob",.str "sat"])=G at s1 g1 ⊢
 have h4:0≤(cell / 9) % 4∧(cell / 9) % 4 < 4:=by omega
 obtain ⟨v,hv,e⟩:=jkt (xs:=[V.str "sab",V.str "tab",V.str "sob",V.str "sat"]) h4.1 h4.2
 obtain ⟨x,rfl,hx⟩:=jio hv
 refine ⟨_,rfl,_,_,rfl,rfl,(show (0:Int) < 4 by decide),q,_,_,_,rfl,rfl,SqL.of g1,e,?_⟩
 have PG:=P.mono s1
 have hSG:∀ {G'},Same G G'→jjh S G' xs:=fun {G'} s v hv=>by
  obtain ⟨q,nm,m,e1,e2,e3⟩:=hS v hv
  exact ⟨q,nm,m,e1,s _ _ (s1 _ _ e2),e3⟩
 have go:∀ y,Wd y→(tSeq (tAsg (tSl (rSlL K) (tVar 2) (jzd (tUn jjq (tC (.int 3)))) jz5) (jqk 7)) (jb2 K)) D [some (.ref c),some (.ref st),some (.ref l),some (.int cell),some (.int (cell / 9)),some (.int (cell % 9)),some (.str y),j7,j8,j9,j10,j11,j12] G:=by
  intro y hy
  refine ⟨_,rfl,_,rfl,_,rfl,l,vs,rfl,SqL.of PG.at_,fun li hli=>?_⟩
  rw [show (-3:Int)=-((3:Nat):Int) from rfl,jhf _ 3 (by decide)]
  have s2:=jq2 (o:=.lst (vs.drop (vs.length - 3))) hli
  exact jgl (PG.mono s2) hn jq1 hw hy (s2 _ _ (s1 _ _ hst)) (hSG s2) hD
 refine ⟨_,rfl,_,_,rfl,rfl,(show (0:Int) < 29 by decide),rfl,_,rfl,?_⟩
 refine ite2 (fun _=>?_) (fun _=>go x hx)
 refine ⟨_,rfl,_,_,rfl,rfl,⟨by decide,by decide⟩,_,rfl,fun y hy=>?_⟩
 refine ⟨_,_,rfl,rfl,?_,go _ (wd_k hy.1 hy.2)⟩
 have:(("k":Str)).length=1:=by decide+kernel
 have:=hy.2
 rw [sizeLine_eq];omega
structure Tail (S:Str→Nat→Prop) (H₀ H:Hp) (n:Nat) (l:Addr) (vs:List V) (ts:List T):Prop where
 same:Same H₀ H
 new:H₀ l=none
 at_:H l=some (.lst vs)
 den:DenL H ts vs
 sz:jxc ts+ts.length≤2 * n
 nm:jxd ts≤n
 one:ts≠[]
 wt:∀ t∈ts,WT S t
theorem jvn:∀ ts:List T,jxd ts≤jxc ts
 | []=>Nat.le_refl _
 | t :: ts=>by
  have h:=jvn ts
  have h2:=t.names_len
  simp only [jxd,jxc,List.map_cons,List.sum_cons] at *
  omega
theorem rd_dp (h:jwj K S vs H Q E):t_dp K (fin Q) (start ["_law_cells","_law_stamps","_law_pile","_law_cell","_law_rest","_law_way","_law_word","_law_inner","_law_look","_law_name","_law_many","_law_made","_law_last"] vs) H:=by
 obtain ⟨c,st,ns,xs,rfl,hc,hns,hst,hxl,hS,k⟩:=h
 refine ⟨szl,fun p hp=>⟨szl,fun l hl=>?_⟩⟩
 have s1:=jq2 (o:=.tup [.str "name",.str "sab"]) hp
 have s2:=jq2 (o:=.lst [.ref p]) hl
 have P0:Pile S H (upd (upd H p (.tup [.str "name",.str "sab"])) l (.lst [.ref p])) 1 l [.ref p] [.name "sab"]:=
  ⟨s1.trans s2,s1.free hl,jq1,.cons ⟨p,rfl,s2 _ _ jq1⟩ .nil,by simp [jxc,T.size],by simp,fun t ht=>by rw [List.mem_singleton] at ht;subst ht;exact jho⟩
 refine ⟨_,rfl,c,rfl,⟨_,(s1.trans s2).seq hc⟩,jzc (K:=K) (a:=c) (xs:=ns.map V.int) (fun i σ H2=>DpN S H c st (i+1) σ H2) ⟨l,_,_,_,_,_,_,_,_,_,_,_,_,rfl,P0⟩ (fun i σ H2 _ hN=>?_) ?_ ?_⟩
 ·obtain ⟨l,vs,ts,j3,j4,j5,j6,j7,j8,j9,j10,j11,j12,e,P⟩:=hN
  exact P.same.seq hc
 ·rintro i y σ H2 hi ⟨l,vs,ts,j3,j4,j5,j6,j7,j8,j9,j10,j11,j12,rfl,P⟩
  have hil:i < (ns.map V.int).length:=(List.getElem?_eq_some_iff.mp hi).1
  rw [List.length_map] at hil
  obtain ⟨z,rfl⟩:∃ z,y=V.int z:=by
   rw [List.getElem?_map] at hi
   cases e:ns[i]? with
   | none=>rw [e] at hi;cases hi
   | some z=>rw [e] at hi;exact ⟨z,(Option.some.inj hi).symm⟩
  refine jcu P (by omega) (P.same _ _ hst) (fun v hv=>?_) (fun σ H h=>h)
  obtain ⟨q,nm,m,e1,e2,e3⟩:=hS v hv
  exact ⟨q,nm,m,e1,P.same _ _ e2,e3⟩
 ·rintro σ H2 ⟨l,vs,ts,j3,j4,j5,j6,j7,j8,j9,j10,j11,j12,rfl,P⟩
  rw [List.length_map] at P
  refine ⟨fun m σ H'=>∃ l vs ts j3 j4 j5 j6 j7 j8 j9 j10 j11 j12,σ=[some (.ref c),some (.ref st),some (.ref l),j3,j4,j5,j6,j7,j8,j9,j10,j11,j12]∧Tail S H H' (ns.length+1) l vs ts∧m=ts.length,⟨_,l,vs,ts,_,_,_,_,_,_,_,_,_,_,rfl,?_,rfl⟩,?_⟩
  ·refine ⟨P.same,P.new,P.at_,P.den,?_,?_,P.one,P.wt⟩
   ·have:=jqt ts;have:=P.sz;omega
   ·have:=jvn ts;have:=P.sz;omega
  ·clear P j3 j4 j5 j6 j7 j8 j9 j10 j11 j12
   rintro m σ H3 ⟨l,vs,ts,j3,j4,j5,j6,j7,j8,j9,j10,j11,j12,rfl,A,rfl⟩
   refine ⟨_,rfl,l,vs,rfl,.inl (SqL.of A.at_),_,_,rfl,rfl,_,rfl,?_⟩
   refine ite2 (fun h1=>?_) (fun h1=>?_)
   ·have h1:(1:Int) < (vs.length:Int):=of_decide_eq_true h1
    obtain ⟨us,a,b,rfl⟩:=jwh (l:=vs) (by omega)
    obtain ⟨ta,tb,rfl,d0,d1⟩:=A.den.split
    cases d1 with
    | @cons t1 _ _ _ e1 r=>
    cases r with
    | @cons t2 _ _ _ e2 r=>
    cases r
    refine ⟨fun σ' H'=>∃ m',m' < (ta++[t1,t2]).length∧∃ l vs ts j3 j4 j5 j6 j7 j8 j9 j10 j11 j12,σ'=[some (.ref c),some (.ref st),some (.ref l),j3,j4,j5,j6,j7,j8,j9,j10,j11,j12]∧Tail S H H' (ns.length+1) l vs ts∧m'=ts.length,fun _ _ h=>h,?_⟩
    have ha:=A.at_
    rw [show us++[a,b]=(us++[a])++[b] by simp] at ha
    refine ⟨_,rfl,.inl ⟨rfl,_,SqL.of ha⟩,l,_,_,rfl,rfl,ha,jkw,?_⟩
    rw [jjt]
    have tl1:=jxh (o:=.lst (us++[a])) ha
    have sO:=jqr (o:=.lst (us++[a])) A.same A.new
    have g1:(upd H3 l (.lst (us++[a]))) l=some (.lst (us++[a])):=jq1
    generalize upd H3 l (.lst (us++[a]))=G1 at tl1 sO g1 ⊢
    refine ⟨_,rfl,.inl ⟨rfl,_,SqL.of g1⟩,_,rfl,.inl ⟨rfl,_,SqL.of g1⟩,l,_,_,rfl,rfl,g1,jkw,?_⟩
    rw [jjt]
    have tl2:=jxh (o:=.lst us) g1
    have sO2:=jqr (o:=.lst us) sO A.new
    have g2:(upd G1 l (.lst us)) l=some (.lst us):=jq1
    generalize upd G1 l (.lst us)=G2 at tl2 sO2 g2 ⊢
    refine ⟨_,rfl,szl,fun p hp=>?_⟩
    have s3:=jq2 (o:=.tup [.str "sum",a,b]) hp
    have g3:(upd G2 p (.tup [.str "sum",a,b])) p=some (.tup [.str "sum",a,b]):=jq1
    generalize upd G2 p (.tup [.str "sum",a,b])=G3 at s3 g3 ⊢
    have hlen:=d0.length
    have hsz:=A.sz
    rw [jx5,List.length_append] at hsz
    have hq:=jqt ta
    have tl4:=jxh (o:=.lst (us++[.ref p])) (s3 _ _ g2)
    have tlA:=tl1.trans (tl2.trans ((jqa s3).trans tl4))
    refine ⟨l,us,.ref p,rfl,rfl,s3 _ _ g2,by rw [sizeLine_eq];omega,(ta++[T.sum t1 t2]).length,by simp,l,us++[.ref p],ta++[T.sum t1 t2],_,_,_,_,_,_,_,_,_,_,rfl,⟨jqr (sO2.trans s3) A.new,A.new,jq1,(d0.mono tlA).append (.cons (show Den _ (T.sum t1 t2) (.ref p) from ⟨p,a,b,rfl,tl4 _ _ g3,e1.mono tlA,e2.mono tlA⟩) .nil),?_,?_,by simp,fun t ht=>?_⟩,rfl⟩
    ·rw [jx5,List.length_append]
     simp [jxc,T.size] at hsz ⊢
     omega
    ·have:=A.nm
     rw [jzx] at this ⊢
     simp [jxd,T.names] at this ⊢
     omega
    ·rcases List.mem_append.mp ht with z|z
     ·exact A.wt t (List.mem_append_left _ z)
     ·rw [List.mem_singleton] at z
      subst z
      exact ⟨A.wt _ (by simp),A.wt _ (by simp)⟩
   ·have h1:¬ (1:Int) < (vs.length:Int):=fun z=>h1 (decide_eq_true z)
    have hlen:=A.den.length
    obtain ⟨t,rfl⟩:∃ t,ts=[t]:=by
     cases ts with
     | nil=>exact absurd rfl A.one
     | cons t ts=>
      cases ts with
      | nil=>exact ⟨t,rfl⟩
      | cons _ _=>simp at hlen;omega
    obtain ⟨v,rfl⟩:∃ v,vs=[v]:=by
     cases A.den with
     | cons a r=>cases r;exact ⟨_,rfl⟩
    have d1:Den H3 t v:=by cases A.den with|cons a r=>exact a
    have hsz:=A.sz
    have hnm:=A.nm
    refine ⟨_,rfl,l,_,_,_,rfl,rfl,SqL.of A.at_,rfl,k t v H3 A.same d1 (A.wt t (by simp)) ?_ ?_⟩
    ·simp [jxc] at hsz;omega
    ·simp [jxd] at hnm;omega
end
theorem rd_main (h:jae K vs H Q E):t_main K jg3 (fin Q) (start ["_law_cells"] vs) H:=by
 obtain ⟨c,ns,rfl,hc,hns,k⟩:=h
 refine ⟨_,rfl,szl,fun q1 h1=>⟨szl,fun q2 h2=>⟨szl,fun q3 h3=>⟨szl,fun q4 h4=>⟨szl,fun l hl=>?_⟩⟩⟩⟩⟩
 have s1:=jq2 (o:=.tup [.str "st",.int 2]) h1
 have g1:(upd H q1 (.tup [.str "st",.int 2])) q1=some (.tup [.str "st",.int 2]):=jq1
 generalize upd H q1 (.tup [.str "st",.int 2])=G1 at *
 have s2:=jq2 (o:=.tup [.str "sta",.int 1]) h2
 have g2:(upd G1 q2 (.tup [.str "sta",.int 1])) q2=some (.tup [.str "sta",.int 1]):=jq1
 generalize upd G1 q2 (.tup [.str "sta",.int 1])=G2 at *
 have s3:=jq2 (o:=.tup [.str "st",.int 2]) h3
 have g3:(upd G2 q3 (.tup [.str "st",.int 2])) q3=some (.tup [.str "st",.int 2]):=jq1
 generalize upd G2 q3 (.tup [.str "st",.int 2])=G3 at *
 have s4:=jq2 (o:=.tup [.str "star",.int 0]) h4
 have g4:(upd G3 q4 (.tup [.str "star",.int 0])) q4=some (.tup [.str "star",.int 0]):=jq1
 generalize upd G3 q4 (.tup [.str "star",.int 0])=G4 at *
 have s5:=jq2 (o:=.lst [.ref q1,.ref q2,.ref q3,.ref q4]) hl
 have g5:(upd G4 l (.lst [.ref q1,.ref q2,.ref q3,.ref q4])) l=some (.lst [.ref q1,.ref q2,.ref q3,.ref q4]):=jq1
 generalize upd G4 l (.lst [.ref q1,.ref q2,.ref q3,.ref q4])=G5 at *
 have sA:=(s1.trans s2).trans ((s3.trans s4).trans s5)
 refine ⟨c,l,ns,_,rfl,sA.seq hc,hns,g5,by simp,fun x hx=>?_,fun t v H' s d w a b=>k t v H' (sA.trans s) d w a b⟩
 rcases List.mem_cons.mp hx with rfl|hx
 ·exact ⟨q1,"st",2,rfl,s5 _ _ (s4 _ _ (s3 _ _ (s2 _ _ g1))),by decide,.inl ⟨rfl,rfl⟩⟩
 rcases List.mem_cons.mp hx with rfl|hx
 ·exact ⟨q2,"sta",1,rfl,s5 _ _ (s4 _ _ (s3 _ _ g2)),by decide,.inr (.inl ⟨rfl,rfl⟩)⟩
 rcases List.mem_cons.mp hx with rfl|hx
 ·exact ⟨q3,"st",2,rfl,s5 _ _ (s4 _ _ g3),by decide,.inl ⟨rfl,rfl⟩⟩
 rcases List.mem_cons.mp hx with rfl|hx
 ·exact ⟨q4,"star",0,rfl,s5 _ _ g4,by decide,.inr (.inr ⟨rfl,rfl⟩)⟩
 ·cases hx
end SW
namespace SW
open PySem L2
variable {K:PySem.W.Frag} {vs:List V} {H:Hp} {Q:VK} {E:XK}
end SW
namespace SW
open PySem L2
variable {K:PySem.W.Frag} {vs:List V} {H:Hp} {Q:VK} {E:XK}
end SW
namespace L2
open PySem PySem.Spec PyProof.Rows
section
variable {X:Cx}
end
section
variable {prog:Program} {w:World} {A:Around} {E:Value→Shared→Prop} {s:Shared} {κ:Type} [DecidableEq κ] {knd:KeyKind prog w κ} {d:Addr} {kvs:List (κ×Value)} {ep:Nat}
theorem jat {Q:List Value→Shared→Prop} (lo:(d == sysModules)=false) (hh:A.handled=none) (da:s.heap.DictAt knd d kvs ep) (hn:kvs.length≤sizeLine)
  (h:∀ h' tk acc,(∀ b o,s.heap.get? b=some o→h'.get? b=some o)→s.heap.objs.size < h'.objs.size→ItemsOf (fun i v=>∃ k x,kvs[i]?=some (k,x)∧knd.is k v=true) acc kvs.length→Q acc.toList { s with heap:=h',toks:=tk}) :
  wpAny (model prog w) A (collect (.ref d)) Q E s:=by
 unfold collect
 refine wpAny_bind (wpAny_runValue (codeAny_builtin entry_proto_collect' ?_))
 show wpAny _ _ (do again (.builtin "list.__iadd__" ⟨[← newList [],.ref d],[]⟩)) _ _ s
 refine wpAny_bind (wpAny_newList (wpAny_pure ⟨Code.quiet_builtin _ (by decide+kernel),codeAny_builtin entry_list_iadd' ?_⟩))
 show wpAny _ _ (Builtin.List.listExtendWith (.ref s.heap.objs.size) (.ref d) (.ref s.heap.objs.size)) _ _ { s with heap:=s.heap.push (seqObj "list" #[] 0)}
 rw [Around.under_plainId (by decide+kernel) _]
 have hlt:=da.lt_size
 have up:∀ b o,s.heap.get? b=some o→(s.heap.push (seqObj "list" #[] 0)).get? b=some o:=fun b o e=>Heap.get?_push_of_some _ e
 have key:=PySem.W.kdl_extend (A:=A) (R:=fun r s'=>match r with
   | .ok (.ret v)=>wpAny (model prog w) A (match v with
     | .ref a=>do
      let o ← load a
      match o.data with
      | .seq xs _=>pure xs.toList
      | _=>unsupported "internal:collect"
     | _=>unsupported "internal:collect") Q E s'
   | .ok _=>False
   | .error e=>E e s') (PySem.W.kdl_dict (knd:=knd) lo) hh (s:={ s with heap:=s.heap.push (seqObj "list" #[] 0)}) (da.push _) s.heap.objs.size (Nat.ne_of_gt hlt) (Nat.ne_of_gt hlt) (.ref s.heap.objs.size) 0 (Heap.get?_push_size _ rfl) (fun h' tk acc c hk hS hacc=>?_) hn
 ·refine wpAny_mono key (fun f s' h=>?_) fun e s' h=>h
  cases f with
  | done f=>exact h
  | again c=>exact h
 ·refine wpAny_bind (wpAny_load hS ?_)
  exact wpAny_pure (h h' tk acc (fun b o e=>hk b o (Nat.ne_of_lt (Heap.lt_size e)) (up b o e)) (Heap.lt_size hS) hacc)
end
section
variable {X:Cx}
theorem jau (hh:X.calm=true):jki X (.builtin "sorted") (fun xs H Q=>∃ a kvs ws,xs=[.ref a]∧Rd H a (.dK kvs)∧jw3 kvs=ws.map V.str∧ws.length < 64∧∀ p ws',H p=none→ws'.Perm ws→sortedS ws'=true→Q (.ref p) (upd H p (.lst (ws'.map V.str)))):=by
 intro pins s σ H xs us Q I r h
 obtain ⟨a,kvs,ws,rfl,ha,ek,hl,q⟩:=h
 obtain ⟨u,rfl,ru⟩:=jw1 r
 cases ru
 obtain ⟨z,hd,vs,rel,dd⟩:=jwz I.hok ha
 obtain ⟨ep,da⟩:=dd.dictAt
 have hA:=I.ok.hd hh
 refine Calls.call_function_entry PyProof.Rows.kind_sorted PyProof.Rows.plain_sorted PyProof.Rows.entry_sorted (PyProof.Rows.args_sorted1 _) ?_
 unfold Builtin.«sorted»
 refine wpAny_bind (m:=checkCount "sorted" 1 1 _) (wpAny_pure ?_)
 refine wpAny_bind (jat hd hA da (by rw [← rel.length];exact z) fun h' tk acc keep hsz hacc=>?_)
 have hv:=jfc rel hacc
 rw [ek] at hv
 have hS:=je5 hv
 have hlen:acc.toList.length < 64:=by rw [← hv.length];simpa using hl
 refine wpAny_bind (wpAny_newList ?_)
 have hoL:(h'.push (seqObj "list" acc.toList.toArray 0)).get? h'.objs.size=some (seqObj "list" acc.toList.toArray 0):=Heap.get?_push_size _ rfl
 refine wpAny_bind (wpAny_holding (wpAny_call_entry slot_list_sort ⟨_,hoL,rfl⟩ entry_list_sort (list_sort_treeK strKind_oneLt (s:={ s with heap:=h'.push (seqObj "list" acc.toList.toArray 0),toks:=tk}) hoL hS.keysOf (fun v₁ v₂ rest e=>keyKind_strs (by rw [← e];exact hS)) hlen fun st' a1 a2=>⟨_,rfl,?_⟩) (args_list_sort _)))
 refine wpAny_pure ⟨_,rfl,?_⟩
 obtain ⟨ss',b1,b2,b3⟩:=sorted_out_str hS a1 a2
 obtain ⟨e,he⟩:=sortedHeap_at (out:=(arrOf st').map (·.2)) hoL
 have hl2:ss'.length < 64:=by rw [b2.length_eq];exact hl
 have hn:H h'.objs.size=none:=I.hok.fresh (Nat.le_of_lt hsz)
 refine ⟨.ref h'.objs.size,_,I.laid (a:=h'.objs.size) (o:=.lst (ss'.map V.str)) (t':=tk) (fun b o q=>?_) (Nat.le_of_lt hsz) ⟨by rw [List.length_map,sizeLine_eq];omega,((arrOf st').map (·.2)).toList,e,jf2 b1,he⟩,rfl,q _ ss' hn b2 b3⟩
 have hb:=Heap.lt_size q
 rw [sortedHeap_old (Nat.ne_of_lt (Nat.lt_trans hb hsz)) (by rw [Heap.size_push];exact Nat.lt_succ_of_lt (Nat.lt_trans hb hsz))]
 exact Heap.get?_push_of_some _ (keep b o q)
end
end L2
namespace L2
open PySem PySem.Spec PyProof.Rows
theorem ObjOk.at_ {P:Program} {w:World} {H:Hp} {h:Heap} {a:Addr} {o:HO} (x:ObjOk P w H h a o):∃ u,h.get? a=some u:=by
 cases o with
 | lst xs=>obtain ⟨_,_,_,_,e⟩:=x;exact ⟨_,e⟩
 | tup xs=>obtain ⟨_,_,_,o,e,_⟩:=x;exact ⟨_,e⟩
 | dK kvs=>obtain ⟨_,_,_,_,o,_,_,e,_⟩:=x;exact ⟨_,e⟩
 | dT kvs=>obtain ⟨_,_,_,_,o,_,_,e,_⟩:=x;exact ⟨_,e⟩
 | set S n=>obtain ⟨o,_,_,_,e,_⟩:=x;exact ⟨_,e⟩
 | ins C dx fs=>obtain ⟨_,_,_,e,_⟩:=x;exact ⟨_,e⟩
 | own y=>obtain ⟨_,e⟩:=x;exact ⟨_,e⟩
 | xd fs=>obtain ⟨_,⟨_,_,_,e,_⟩,_⟩:=x;exact ⟨_,e⟩
 | rng lo hi=>obtain ⟨_,_,_,e⟩:=x;exact ⟨_,e⟩
 | frz ob u=>obtain ⟨e,_⟩:=x;exact ⟨_,e⟩
 | tbl ps=>exact ⟨_,(show h.get? a=some _ from x)⟩
 | met f y=>exact ⟨_,(show h.get? a=some _ from x)⟩
 | ext φ=>obtain ⟨_,⟨_,e⟩,_⟩:=x;exact ⟨_,e⟩
theorem HOk.new {P:Program} {w:World} {H:Hp} {h:Heap} {a:Addr} (x:HOk P w H h) (e:h.get? a=none):H a=none:=by
 cases q:H a with
 | none=>rfl
 | some u=>obtain ⟨o,z⟩:=(x a u q).at_;rw [e] at z;cases z
structure Fly (P:Program) (w:World) (outer:List Env) (H H':Hp) (s s':Shared) (ea:Addr) (cls:Value) (B:Heap) (a0:Value):Prop where
 os:s'.os=s.os
 bare:AllBare s'.gens
 un:Un (frs outer) [] H H' s.heap s'.heap
 hok:HOk P w H' s'.heap
 free:H' ea=none
 fly:Heap.FlyingW B outer ea cls a0 s'.heap
 b1:∀ b o,s'.heap.get? b=some o→(H' b).isSome=true→B.get? b=some o
 b2:∀ b o,s.heap.get? b=some o→H b=none→b∉frs outer→B.get? b=some o
 b3:∀ b o,s.heap.get? b=some o→b∉frs outer→∃ o',B.get? b=some o'
def CXx (P:Program) (w:World):CXT:=fun outer H s E e s'=>∃ ea cls H' B a0,e=.ref ea∧Fly P w outer H H' s s' ea cls B a0∧E cls none H'
theorem jrs {P:Program} {w:World} {H:Hp} {h h' B:Heap} (x:HOk P w H h) (b1:∀ b o,h.get? b=some o→(H b).isSome=true→B.get? b=some o) (k:B.StaysIn h'):HOk P w H h':=fun b o e=>
 (x b o e).stay (fun c v hc q=>k c v (b1 c v q (by rcases hc with rfl|hc;(· rw [e];rfl);(· rw [hc];rfl)))) (fun _ q=>q) fun _ _ q=>q
theorem Fly.on {P:Program} {w:World} {outer:List Env} {H H':Hp} {s s':Shared} {ea:Addr} {cls a0:Value} {B h':Heap} (F:Fly P w outer H H' s s' ea cls B a0) (fl:Heap.FlyingW B outer ea cls a0 h') (up:s'.heap.UpToSlots h') :
  Fly P w outer H H' s { s' with heap:=h'} ea cls B a0 where
 os:=F.os
 bare:=F.bare
 un:=⟨fun b o e n hb _=>fl.1 b o (F.b2 b o e n hb),fun b o e n hb hx=>by
   obtain ⟨sl,e1⟩:=F.un.slot b o e n hb hx
   obtain ⟨_,o2,e2,hd⟩:=F.fly.2.2.1.mem hb
   rw [e1] at e2;cases e2
   obtain ⟨sl',e3⟩:=up b _ e1 hd
   exact ⟨sl',e3⟩,F.un.free,fun b o e hx=>by
   by_cases hb:b∈frs outer
   ·obtain ⟨o1,e1⟩:=F.un.there b o e hx
    obtain ⟨_,o2,e2,hd⟩:=F.fly.2.2.1.mem hb
    obtain ⟨sl',e3⟩:=up b _ e2 hd
    exact ⟨_,e3⟩
   ·obtain ⟨o',e'⟩:=F.b3 b o e hb
    exact ⟨o',fl.1 b o' e'⟩,F.un.tups,F.un.frzs,F.un.tbls⟩
 hok:=jrs F.hok F.b1 fl.1
 free:=F.free
 fly:=fl
 b1:=fun b o e q=>by
  cases z:H' b with
  | none=>rw [z] at q;cases q
  | some u=>
   obtain ⟨o',e'⟩:=(F.hok b u z).at_
   have e2:=F.b1 b o' e' q
   have e3:=fl.1 b o' e2
   rw [show h'.get? b=some o from e] at e3
   cases e3;exact e2
 b2:=F.b2
 b3:=F.b3
section
variable {X:Cx} {pins:List (Addr×Obj)} {σ:St} {H H':Hp} {s s':Shared} {ea:Addr} {cls a0:Value} {B:Heap}
theorem Inv.flown (I:Inv X pins σ H s) (F:Fly X.prog X.w X.stack H H' s s' ea cls B a0):Inv X pins σ H' s':=
 I.call' (ch:=[]) F.os F.un F.hok F.bare fun b z=>absurd z (by simp)
theorem Inv.ne0 (I:Inv X pins σ H s) {b:Addr} {o:Obj} (e:X.s₀.heap.get? b=some o):b≠X.env.locals:=Nat.ne_of_lt (Nat.lt_of_lt_of_le (Heap.lt_size e) I.ok.above)
theorem Inv.nstk (I:Inv X pins σ H s) {b:Addr} {o:Obj} (e:X.s₀.heap.get? b=some o) (n:b∉X.fs):b∉frs X.stack:=fun z=>
 (List.mem_cons.mp (I.stkSub b z)).elim (I.ne0 e) n
theorem Inv.leave (I:Inv X pins σ H s) (hex:X.ex=[]) (hfree:H ea=none) {h':Heap} (fl:Heap.FlyingW B X.outer ea cls a0 h') (up:s.heap.UpToSlots h')
  (b1:∀ b o,s.heap.get? b=some o→(H b).isSome=true→B.get? b=some o)
  (b2:∀ b o,X.s₀.heap.get? b=some o→X.H₀ b=none→b∉X.fs→B.get? b=some o) (b3:∀ b o,X.s₀.heap.get? b=some o→b∉X.fs→∃ o',B.get? b=some o') {g':Array GenState} {d':Drawn} {t':Nat} (hg:AllBare g') :
  Fly X.prog X.w X.outer X.H₀ H X.s₀ { s with heap:=h',gens:=g',drawn:=d',toks:=t'} ea cls B a0 where
 os:=I.os
 bare:=hg
 un:=⟨fun b o e n hb _=>fl.1 b o (b2 b o e n hb),fun b o e n hb _=>by
   obtain ⟨sl,e1⟩:=I.base.slot b o e n hb (by rw [hex];simp)
   obtain ⟨_,o2,e2,hd⟩:=I.ok.funs.mem hb
   rw [e] at e2;cases e2
   obtain ⟨sl',e3⟩:=up b _ e1 hd
   exact ⟨sl',e3⟩,fun b o e n _=>I.base.free b o e n (by rw [hex];simp),fun b o e _=>by
   by_cases hb:b∈X.fs
   ·obtain ⟨_,o2,e2,hd⟩:=I.ok.funs.mem hb
    rw [e] at e2;cases e2
    obtain ⟨sl,e1⟩:=I.base.slot b o e (I.ok.frf b hb) hb (by rw [hex];simp)
    obtain ⟨sl',e3⟩:=up b _ e1 hd
    exact ⟨_,e3⟩
   ·obtain ⟨o',e'⟩:=b3 b o e hb
    exact ⟨o',fl.1 b o' e'⟩,I.base.tups,I.base.frzs,I.base.tbls⟩
 hok:=jrs I.hok b1 fl.1
 free:=hfree
 fly:=fl
 b1:=fun b o e q=>by
  cases z:H b with
  | none=>rw [z] at q;cases q
  | some u=>
   obtain ⟨o',e'⟩:=(I.hok b u z).at_
   have e2:=b1 b o' e' q
   have e3:=fl.1 b o' e2
   rw [show h'.get? b=some o from e] at e3
   cases e3;exact e2
 b2:=b2
 b3:=b3
end
section
variable {P:Program} {w:World} {K:PySem.W.Frag} {mg:Str→Option Value} {base:Heap} {N:List Str} {qual:Str} {scope:Scope} {f:Addr} {cd:Value} {A:Around} {outer:List Env} {s:Shared} {H:Hp} {E E':XK}
theorem jgt (hE:∀ c o H',E c o H'→E' c o H'):jw0 (CXx P w) (cxOf (CXx P w) P w K mg base N qual scope f cd A outer s H E') E:=by
 intro pins σ H1 s1 e s2 I h
 obtain ⟨ea,cls,H2,B,a0,rfl,F,q⟩:=h
 have J:=I.flown F
 show wpAny _ _ (leaving _ _) _ _ _
 refine wpAny_leaves_onW (I.ok.frames) rfl F.fly fun h' fl up=>?_
 refine ⟨ea,cls,H2,B,a0,rfl,?_,hE _ _ _ q⟩
 exact J.leave (X:=cxOf (CXx P w) P w K mg base N qual scope f cd A outer s H E') rfl F.free fl up F.b1 (fun b o e n hb=>F.b2 b o (I.base.keep b o e n hb (by intro z;cases z)) (I.base.free b o e n (by intro z;cases z)) (I.nstk e hb))
  (fun b o e hb=>by
   obtain ⟨o1,e1⟩:=I.base.there b o e (by intro z;cases z)
   exact F.b3 b o1 e1 (I.nstk e hb)) F.bare
def je0 (C:Addr) (E:XK) (ta:TE):TS:=fun _ σ H=>ta σ H fun _ H1=>E (.ref C) none H1
theorem jc2 {x:Str} {C:Addr} {Bn newId initId:String} {bmB:List Value} {np cpos pos:Pos} {e:Expr} {ta:TE} (FB:ExcBaseFacts Bn newId initId bmB)
  (hg:Gl (cxOf (CXx P w) P w K mg base N qual scope f cd A outer s H E) x) (hm:mg x=some (.ref C)) (q:PySem.W.excIn K C bmB newId=true)
  (he:PE (cxOf (CXx P w) P w K mg base N qual scope f cd A outer s H E) e ta) (hdb:(x == ("__debug__":Str))=false:=by decide)
  (hst:starEach [e] (cxOf (CXx P w) P w K mg base N qual scope f cd A outer s H E).env=[(false,eval e (cxOf (CXx P w) P w K mg base N qual scope f cd A outer s H E).env)]:=by rfl) :
  PS (cxOf (CXx P w) P w K mg base N qual scope f cd A outer s H E) (.Raise (some (.Call (.Name x np) [e] [] cpos)) none pos) (je0 C E ta):=by
 intro pins s1 σ H1 D I h
 have KX:=I.kIn
 unfold PySem.W.excIn at q
 split at q
 ·rename_i dd cd' sl ho
  split at q
  ·rename_i C' bm k0 k1 k2 k3 n k5 hmr hs
   simp only [Bool.and_eq_true,beq_iff_eq,Bool.not_eq_true'] at q
   obtain ⟨⟨⟨⟨⟨rfl,rfl⟩,hdel⟩,ht⟩,hok⟩,hni⟩:=q
   obtain ⟨nm,bs,mro,ns,qn,hd,sn,sub,ab,col,del⟩:=cd'
   dsimp only at hmr hdel hok hni
   subst hmr hdel
   have hsl:sl = #[k0,k1,k2,k3,some (.builtin n),k5]:=by
    obtain ⟨l⟩:=sl
    simp only at hs
    rw [hs]
   subst hsl
   have KB:=I.ok.mod.kin
   have T:=PySem.W.tail_of_in KB ht
   have hN:Heap.Ns _ ns (Heap.nsMap _ ns):=.of_isNs (PySem.W.isNs_of_in KB hok)
   refine wpAny_Raise_call_subT (C:=C') (nm:=nm) (q:=qn) (N:=ns) (bs:=bs) (bm:=bm) (hdct:=hd) (sn:=sn) (sub:=sub) (ab:=ab) (col:=col) (dd:=dd) (k0:=k0) (k1:=k1) (k2:=k2) (k3:=k3) (k5:=k5) (newId:=n)
    FB (mN:=base.nsMap ns) (T.hasType FB.hasBase) (I.ok.hd rfl) (by rw [hst];rfl) (PySem.W.nsMap_none_of_in KB hok hni) (jk9 I hg hm ⟨rfl,?_⟩ hdb)
   have ea:=he pins s1 σ H1 _ I h
   rw [hst]
   refine Calls.evalArgs_plain (Calls.spliced_cons (thn ea fun v s2 ⟨y,H2,I2,r,q2⟩=>Calls.spliced_nil ⟨rfl,Nat.le_trans (by decide:1≤1) (by rw [sizeLine_eq];decide),I2.kIn _ _ ho,hN.keeps I2.bk,T.keeps I2.bk,fun h' e hx=>?_⟩))
   show wpAny _ _ (leaving _ _) _ _ _
   have hin:∀ env∈(cxOf (CXx P w) P w K mg base N qual scope f cd A outer s H E).stack,∀ b,env.frame=some b→b∈frs (cxOf (CXx P w) P w K mg base N qual scope f cd A outer s H E).stack:=fun env he b hb=>List.mem_filterMap.mpr ⟨env,he,hb⟩
   refine wpAny_leaves_madeW (base:=PySem.W.hideAll s2.heap (frs (cxOf (CXx P w) P w K mg base N qual scope f cd A outer s H E).stack)) I.ok.frames rfl (fun b o q=>PySem.W.of_hideAll _ q) (PySem.W.funFrames_hide I2.stack hin) hx fun h'' t x1 x2 x3 x4=>?_
   refine ⟨e,.ref C',H2,PySem.W.hideAll s2.heap (frs (cxOf (CXx P w) P w K mg base N qual scope f cd A outer s H E).stack),.ref t,rfl,?_,q2⟩
   exact I2.leave (X:=cxOf (CXx P w) P w K mg base N qual scope f cd A outer s H E) rfl (I2.hok.new hx.new) x1 ((Heap.UpToSlots.of_keeps hx.keeps).trans x4)
    (fun b o e q=>PySem.W.hideAll_get _ e fun z=>by rw [I2.stkFree b z] at q;cases q)
    (fun b o e n hb=>PySem.W.hideAll_get _ (I2.base.keep b o e n hb (by intro z;cases z)) (I2.nstk e hb))
    (fun b o e hb=>by
     obtain ⟨o1,e1⟩:=I2.base.there b o e (by intro z;cases z)
     exact ⟨o1,PySem.W.hideAll_get _ e1 (I2.nstk e hb)⟩) I2.bare
  ·cases q
 ·cases q
end
end L2
namespace L2
open PySem PySem.Spec PyProof.Rows
def Cx.inH (X:Cx) (ea:Addr) (oe:Obj):Cx:={ X with A:=X.A.mark (some (.ref ea)),calm:=false,pn:=(ea,oe) :: X.pn}
section
variable {X:Cx} {pins:List (Addr×Obj)} {σ:St} {H H':Hp} {s s':Shared} {ea:Addr} {oe:Obj} {cls a0:Value} {B:Heap}
theorem Cx.Ok.inH (ok:X.Ok) (ea:Addr) (oe:Obj):(X.inH ea oe).Ok:=
 ⟨ok.mod,ok.kind,ok.glob,ok.blt,ok.above,ok.inj,ok.has,ok.cab,fun h=>absurd h Bool.false_ne_true,ok.frames,ok.stk,ok.exf,ok.bs,ok.bsz,ok.noex,ok.exfs,ok.funs,ok.frf⟩
theorem Inv.inH (I:Inv X pins σ H s) (h:s.heap.get? ea=some oe∧H ea=none∧ea≠X.env.locals∧ea∉X.fs∧∀ v,oe.data≠.cell v):Inv (X.inH ea oe) pins σ H s:=
 ⟨I.ok.inH ea oe,I.os,I.bare,I.base,I.loc,I.cell,I.free,I.freeC,fun p hp=>(List.mem_cons.mp (show p∈(ea,oe) :: (X.pn++pins) from hp)).elim (fun e=>by subst e;exact h) (I.pin p),I.hok,I.len⟩
theorem Inv.outH (ok:X.Ok) (I:Inv (X.inH ea oe) pins σ H s):Inv X pins σ H s:=
 ⟨ok,I.os,I.bare,I.base,I.loc,I.cell,I.free,I.freeC,fun p hp=>I.pin p (List.mem_cons_of_mem _ hp),I.hok,I.len⟩
theorem SP.outH {D:Ends} {f:Flow} (ok:X.Ok) (h:SP (X.inH ea oe) pins D f s):SP X pins D f s:=by
 cases f with
 | next=>obtain ⟨σ',H',I,q⟩:=h;exact ⟨σ',H',I.outH ok,q⟩
 | brk=>obtain ⟨σ',H',I,q⟩:=h;exact ⟨σ',H',I.outH ok,q⟩
 | cont=>obtain ⟨σ',H',I,q⟩:=h;exact ⟨σ',H',I.outH ok,q⟩
 | ret u=>obtain ⟨v,σ',H',I,r,q⟩:=h;exact ⟨v,σ',H',I.outH ok,r,q⟩
theorem Fly.pin (J:Inv X pins σ H' s') (F:Fly X.prog X.w X.stack H H' s s' ea cls B a0):∃ oe vs,oe.cls=cls∧oe.data=.fields vs∧(s'.heap.get? ea=some oe∧H' ea=none∧ea≠X.env.locals∧ea∉X.fs∧∀ v,oe.data≠.cell v):=by
 obtain ⟨oe,vs,h1,h2,h3,_⟩:=F.fly.first
 refine ⟨oe,vs,h2,h3,h1,F.free,?_,?_,fun v q=>by rw [h3] at q;cases q⟩
 ·rintro rfl
  obtain ⟨m,⟨o,es,ep,ho,hd,_⟩,_⟩:=J.loc
  rw [h1] at ho;cases ho
  rw [h3] at hd;cases hd
 ·intro z
  obtain ⟨_,o,ho,hn⟩:=J.funs.mem z
  rw [h1] at ho;cases ho
  exact hn vs h3
end
def PX (X:Cx) (st:Stmt) (t:(St→XK)→TS):Prop:=
 ∀ (pins:List (Addr×Obj)) (s:Shared) (σ:St) (H:Hp) (D:Ends) (Ex:St→XK) (Eh:Value→Shared→Prop),Inv X pins σ H s→t Ex D σ H→
  (∀ σ1 H1 s1 e s',Inv X pins σ1 H1 s1→CXx X.prog X.w X.stack H1 s1 (Ex σ1) e s'→Eh e s')→wpAny (model X.prog X.w) X.A (exec st X.env) (SP X pins D) Eh s
section
variable {X:Cx} {k:Nat} {f:Addr} {fd:FuncData} {ps:List Str} {sp:Sp} {x:Str} {p pos cpos:Pos} {e:Expr} {es:List Expr} {t:TA}
theorem jm4 {pins:List (Addr×Obj)} {σ:St} {H:Hp} {s:Shared} {Q:VK} {E:XK} {us:List Value} {vs:List V} {Q':Value→Shared→Prop} {Eh:Value→Shared→Prop} (F:FnOk X.prog X.w X.K X.mg X.base (CXx X.prog X.w) k f fd ps sp) (hr:Room k X.A) (hb:Binds X.K fd ps [])
  (I:Inv X pins σ H s) (r:Vals vs us) (h:sp vs H Q E) (hq:∀ u s',EP X pins σ Q u s'→Q' u s') (hx:∀ e s',CXx X.prog X.w X.stack H s E e s'→Eh e s'):wpAny (model X.prog X.w) X.A (call (.ref f) us) Q' Eh s:=by
 have hl:(us++[]).length=ps.length:=by rw [List.append_nil,← r.length];exact F.len _ _ _ _ h
 have hb':=hb s us I.kIn hl
 rw [List.append_nil] at hb'
 refine wpAny_call (codeAny_mono (F.run X.A X.stack s H ⟨us,[]⟩ us vs Q E hr I.env0 hb' r h) fun r s' hq'=>?_)
 cases r with
 | error e=>exact hx e s' hq'
 | ok fl=>
  cases fl with
  | ret u=>exact hq _ _ (I.after hq')
  | next=>exact False.elim hq'
  | brk=>exact False.elim hq'
  | cont=>exact False.elim hq'
def xAsg (sp:Sp) (i:Nat) (t:TA):(St→XK)→TS:=fun Ex D σ H=>t σ H fun vs H1=>sp vs H1 (fun v H2=>D.nx (σ.set i (some v)) H2) (Ex σ)
def jn7 (sp:Sp) (t:TA):(St→XK)→TS:=fun Ex D σ H=>t σ H fun vs H1=>sp vs H1 (fun _ H2=>D.nx σ H2) (Ex σ)
theorem jes {pins:List (Addr×Obj)} {σ:St} {H:Hp} {s:Shared} {E:XK} {Q':Value→Shared→Prop} {Eh:Value→Shared→Prop} {Q:List V→Hp→VK} (F:FnOk X.prog X.w X.K X.mg X.base (CXx X.prog X.w) k f fd ps sp) (hr:Room k X.A) (hg:Gl X x) (hm:X.mg x=some (.ref f)) (hk:PySem.W.keepIn X.K (.ref f)=true) (hb:Binds X.K fd ps [])
  (ha:PA X (e :: es) t) (hne:∀ e s,¬ X.xe e s) (hdb:(x == ("__debug__":Str))=false) (he:starEach (e :: es) X.env=(false,eval e X.env) :: starEach es X.env) (hpl:(backTo cpos (starEach es X.env)).any (·.1)=false)
  (I:Inv X pins σ H s) (h:t σ H fun vs H1=>sp vs H1 (Q vs H1) E) (hq:∀ vs H1 u s',EP X pins σ (Q vs H1) u s'→Q' u s') (hx:∀ H1 s1 e s',Inv X pins σ H1 s1→CXx X.prog X.w X.stack H1 s1 E e s'→Eh e s') :
  wpAny (model X.prog X.w) X.A (eval (.Call (.Name x p) (e :: es) [] cpos) X.env) Q' Eh s:=by
 refine wpAny_Call_Name_kw (jk9 I hg hm ?_ hdb)
 refine PySem.W.callWith_K (h₀:=X.base) I.ok.mod.kin hk (wpAny_mono (ha cpos pins s σ H _ I h) (fun us s1 ⟨vs,H1,I1,r,q⟩=>⟨I1.kIn,?_⟩) fun e s z=>absurd z (hne e s)) he hpl
 exact jm4 F hr hb I1 r q (fun u s' z=>hq vs H1 u s' z) fun e s' z=>hx H1 s1 e s' I1 z
theorem jpr {i:Nat} {y:Str} {pos':Pos} (F:FnOk X.prog X.w X.K X.mg X.base (CXx X.prog X.w) k f fd ps sp) (hr:Room k X.A) (hg:Gl X x) (hm:X.mg x=some (.ref f)) (hk:PySem.W.keepIn X.K (.ref f)=true) (hb:Binds X.K fd ps [])
  (ha:PA X (e :: es) t) (hne:∀ e s,¬ X.xe e s) (hN:X.N.Nodup) (hi:X.N[i]?=some y) (hy:Loc X.env.scope y) (hs:swapsWith (.Call (.Name x p) (e :: es) [] cpos) (some (.Name y pos')) pos.line X.env=pure false:=by rfl)
  (hf:X.fn y=true∨X.env.scope.names.lookup y=some .local:=by first|exact .inl rfl|exact .inr rfl|assumption)
  (hdb:(x == ("__debug__":Str))=false:=by decide) (he:starEach (e :: es) X.env=(false,eval e X.env) :: starEach es X.env:=by rfl) (hpl:(backTo cpos (starEach es X.env)).any (·.1)=false:=by rfl) :
  PX X (.Assign [.Name y pos'] (.Call (.Name x p) (e :: es) [] cpos) pos) (xAsg sp i t):=by
 intro pins s σ H D Ex Eh I h hx
 refine wpAny_Assign_Name (jes (Q:=fun _ _ v H2=>D.nx (σ.set i (some v)) H2) F hr hg hm hk hb ha hne hdb he hpl I h (fun vs H1 u s1 ⟨v,H2,I2,r,q⟩=>?_) fun H1 s1 e s' I1 z=>hx σ H1 s1 e s' I1 z) hs
 exact jv2 I2 hN hi hy r (fun s2 I3=>⟨_,H2,I3,q⟩) hf
theorem jma (F:FnOk X.prog X.w X.K X.mg X.base (CXx X.prog X.w) k f fd ps sp) (hr:Room k X.A) (hg:Gl X x) (hm:X.mg x=some (.ref f)) (hk:PySem.W.keepIn X.K (.ref f)=true) (hb:Binds X.K fd ps [])
  (ha:PA X (e :: es) t) (hne:∀ e s,¬ X.xe e s) (hs:swapsWith (.Call (.Name x p) (e :: es) [] cpos) none pos.line X.env=pure false:=by rfl)
  (hdb:(x == ("__debug__":Str))=false:=by decide) (he:starEach (e :: es) X.env=(false,eval e X.env) :: starEach es X.env:=by rfl) (hpl:(backTo cpos (starEach es X.env)).any (·.1)=false:=by rfl) :
  PX X (.Expr (.Call (.Name x p) (e :: es) [] cpos) pos) (jn7 sp t):=by
 intro pins s σ H D Ex Eh I h hx
 exact wpAny_Expr_any (jes (Q:=fun _ _ _ H2=>D.nx σ H2) F hr hg hm hk hb ha hne hdb he hpl I h (fun vs H1 u s1 ⟨v,H2,I2,r,q⟩=>⟨σ,H2,I2,q⟩) fun H1 s1 e s' I1 z=>hx σ H1 s1 e s' I1 z) I.quiet hs
end
section
variable {X:Cx} {st b₀:Stmt} {suite:List Stmt} {c:Str} {C:Addr} {np hpos pos:Pos} {tb:(St→XK)→TS} {th:TS}
theorem ty_at {M:Model} {h:Heap} {a:Addr} {o:Obj} {cls:Value} (h1:h.get? a=some o) (h2:o.cls=cls):PySem.W.Looks M h (typeOf (.ref a)) cls:=h2▸(PySem.W.Looks.ld h1).andThen .now
def tTry (K:PySem.W.Frag) (C:Addr) (tb:(St→XK)→TS) (th:TS):TS:=fun D σ H=>tb (fun σ1 cls _ H1=>PySem.W.exmOne K cls (.ref C)=some true∧th D σ1 H1) D σ H
theorem jps (hstk:X.stack=X.env :: X.outer∧X.env.frame=some X.env.locals) (hne:∀ e s,¬ X.xe e s) (hb:PX X st tb) (hg:Gl X c) (hm:X.mg c=some (.ref C)) (hth:∀ ea oe,PSs (X.inH ea oe) (b₀ :: suite) th) (hdb:(c == ("__debug__":Str))=false:=by decide) :
  PS X (.Try [st] [.ExceptHandler (some (.Name c np)) none (b₀ :: suite) hpos] [] [] pos) (tTry X.K C tb th):=by
 intro pins s σ H D I h
 refine wpAny_Try_except (wpAny_execs_cons ?_)
 refine wpAny_mono (hb pins s σ H D _ _ I h ?_) (fun f s1 q=>?_) fun _ _ z=>z
 case refine_2=>
  cases f with
  | next=>exact wpAny_execs_nil (wpAny_execs_nil q)
  | ret v=>exact q
  | brk=>exact q
  | cont=>exact q
 intro σ1 H1 s1 e s' I1 hx
 obtain ⟨ea,cls,H2,B,a0,rfl,F,he,hd⟩:=hx
 have hfr:X.A.frames=some (X.env :: X.outer):=by rw [← hstk.1];exact I.ok.frames
 have fl0:=F.fly
 rw [hstk.1] at fl0
 refine wpAny_looks_onW hfr hstk.2 fl0 fun h4 held4 up4=>?_
 refine wpAny_landsW held4 fun h5 fl5 up5=>?_
 rw [← hstk.1] at fl5
 have F5:=F.on fl5 (up4.trans up5)
 have J5:=I1.flown F5
 obtain ⟨oe,vs,o1,o2,o3⟩:=F5.pin J5
 have J5':=J5.inH o3
 refine wpAny_handleBy_cons (codeAny_handlers_test ?_) (by intro q;cases q)
 refine jk9 (X:=X.inH ea oe) J5' hg hm ?_ hdb
 refine (PySem.W.exm_one J5.kIn (ty_at o3.1 o1) he).here ?_
 refine codeAny_handlers_suite ?_
 refine lands_againW fl5 fun h6 fl6 up6=>?_
 have F6:=F5.on fl6 up6
 have J6:=I1.flown F6
 obtain ⟨oe6,vs6,_,_,o6⟩:=F6.pin J6
 exact wpAny_mono (hth ea oe6 pins _ σ1 H2 D (J6.inH o6) hd) (fun f s2 q=>q.outH I.ok) fun e s2 z=>absurd z (hne e s2)
end
end L2
namespace PySem.W
open PySem PySem.Spec PySem.Calls PyProof.Rows Builtin Builtin.ObjectAttr Builtin.Getset_descriptor
section
variable {prog:Program} {w:World} {A:Around} {E:Value→Shared→Prop} {K:Frag} {h:Heap} {g:Array GenState} {d:Drawn} {t:Nat} {os:OsState} {a D:Addr} {o:Obj}
theorem jn6 {R:Result→Shared→Prop} {tp:Value} (X:K.In h) (hx:h.get? a=some o) (hc:o.cls=.ref D) (hm:mroIn K D (.type "object")=some true) (hq:R (.ok (.ret (.ref D))) ⟨h,g,d,t,os⟩) :
  codeAny (model prog w) A (.call (.builtin "getset_descriptor.__get__") ⟨[.builtin "object.__class__",.ref a,tp],[]⟩) R ⟨h,g,d,t,os⟩:=by
 have L0:Looks (model prog w) h (typeOf (.ref a)) (.ref D):=L2.ty_at hx hc
 have L1:=looks_mroIn (M:=model prog w) X hm
 refine codeAny_call_builtin KF.slot_gs.plain KF.entry_gs (KF.slot_gs.check _ _ _ _ _ _ _ _ KF.type_class (KF.args_gs _ _ _) ?_)
 unfold Builtin.«getset_descriptor.__get__» descrGet
 rw [dga_obj]
 refine wpAny_bind (wpAny_pure ?_)
 unfold descrGetter descrCheckInstance descrNameAndClass isInstance
 simp only [KF.owner_class]
 repeat lk
 refine ⟨Code.quiet_builtin _ (by decide+kernel),codeAny_builtin KF.entry_class ?_⟩
 unfold Builtin.«object.__class__» shownTypeOf
 repeat lk
 exact hq
theorem jg4 {tk:Tok} {Q:Fin→Shared→Prop} (X:K.In h) (hx:h.get? a=some o) (hc:o.cls=.ref D) (hm:mroIn K D (.type "object")=some true) (hcl:findIn K (.ref D) "__class__"=some (some (.builtin "object.__class__")))
  (hq:Q (.done (.ret (.ref D))) ⟨h,g,d,t,os⟩):wpAny (model prog w) A (Builtin.«object.__getattribute__» ⟨[.ref a,.str "__class__" tk],[]⟩) Q E ⟨h,g,d,t,os⟩:=by
 have hT5:(⟨h,g,d,t,os⟩:Shared).TypeIs (.builtin "object.__class__") "getset_descriptor":=F.typeOf_object_class
 have f5:=F.typeOf_object_class
 have f6:=F.slot_gs_get.lookup
 have f7:=F.slot_gs_set.lookup
 have LC:=looks_findIn (M:=model prog w) X hcl
 repeat (any_goals (first|assumption|(with_reducible refine wpAny_loadPart_at hx ?_;rw [hc])|with_reducible refine LC.at ?_|wp_step))
 refine jn6 X hx hc hm ?_
 repeat (any_goals (first|assumption|wp_step))
theorem jg5 {nameV:Value} {Q:Unit→Shared→Prop} (X:K.In h) (hx:h.get? a=some o) (hc:o.cls=.ref D) (hb:mroIn K D (.type "BaseException")=some true)
  (hq:Q () ⟨h,g,d,t,os⟩):wpAny (model prog w) A (checkBuiltinCall "BaseException.__getattribute__" ⟨[.ref a,nameV],[]⟩) Q E ⟨h,g,d,t,os⟩:=by
 have hk:builtinKind "BaseException.__getattribute__"=some .slot:=by decide+kernel
 have hsplit:splitId "BaseException.__getattribute__"=some ("BaseException","__getattribute__"):=by decide+kernel
 have ha:=F.args_bexc_ga (.ref a) nameV
 have L0:Looks (model prog w) h (typeOf (.ref a)) (.ref D):=L2.ty_at hx hc
 have L1:=looks_mroIn (M:=model prog w) X hb
 have LI:Looks (model prog w) h (isInstance (.ref a) (.type "BaseException")) true:=L0.andThen L1
 simp only [checkBuiltinCall,hk,hsplit]
 refine wpAny_bind (LI.at ?_)
 repeat (first|exact hq|wp_step)
theorem xc_by {tk:Tok} {fill expr:Bool} {Q:Value→Shared→Prop} (X:K.In h) (hx:h.get? a=some o) (hc:o.cls=.ref D) (hm:mroIn K D (.type "object")=some true) (hb:mroIn K D (.type "BaseException")=some true) (hcl:findIn K (.ref D) "__class__"=some (some (.builtin "object.__class__")))
  (hga:findIn K (.ref D) "__getattribute__"=some (some (.builtin "BaseException.__getattribute__"))) (hgt:findIn K (.ref D) "__getattr__"=some none)
  (hq:Q (.ref D) ⟨h,g,d,t,os⟩):wpAny (model prog w) A (getAttrBy (.ref a) (.str "__class__" tk) fill expr) Q E ⟨h,g,d,t,os⟩:=by
 have f3:=F.excAttr_ValueError.ga.bind (.ref a)
 have hx0:(expr && onTheHeap (Value.builtin "BaseException.__getattribute__"))=false:=by cases expr<;>rfl
 have hx2:(Value.builtin "BaseException.__getattribute__" == Value.builtin "object.__getattribute__")=false:=by decide+kernel
 have hx1:(onTheHeap (Value.ref D) && Value.builtin "BaseException.__getattribute__" == Value.builtin "object.__getattribute__")=false:=by rw [hx2];rfl
 have LA:=looks_findIn (M:=model prog w) X hga
 have LG:=looks_findIn (M:=model prog w) X hgt
 repeat (any_goals (first|assumption|(with_reducible refine wpAny_loadPart_at hx ?_;rw [hc])|with_reducible refine LA.at ?_|with_reducible refine LG.at ?_|wp_step))
 refine codeAny_call_builtin F.excAttr_ValueError.ga.plain F.entry_bexc_ga (jg5 X hx hc hb (jg4 X hx hc hm hcl ?_))
 repeat (any_goals (first|assumption|wp_step))
theorem jin {Q:Option Value→Shared→Prop} (X:K.In h) (hx:h.get? a=some o) (hc:o.cls=.ref D) (hm:mroIn K D (.type "object")=some true) (hb:mroIn K D (.type "BaseException")=some true) (hcl:findIn K (.ref D) "__class__"=some (some (.builtin "object.__class__")))
  (hga:findIn K (.ref D) "__getattribute__"=some (some (.builtin "BaseException.__getattribute__"))) (hgt:findIn K (.ref D) "__getattr__"=some none)
  (hq:Q (some (.ref D)) ⟨h,g,d,t+1,os⟩):wpAny (model prog w) A (getAttr? (.ref a) "__class__") Q E ⟨h,g,d,t,os⟩:=by
 unfold getAttr? getAttrBy?
 repeat (any_goals (first|assumption|with_reducible apply xc_by X hx hc hm hb hcl hga hgt|wp_step))
structure XCls (K:Frag) (D:Addr):Prop where
 hm:mroIn K D (.type "object")=some true
 hb:mroIn K D (.type "BaseException")=some true
 hcl:findIn K (.ref D) "__class__"=some (some (.builtin "object.__class__"))
 hga:findIn K (.ref D) "__getattribute__"=some (some (.builtin "BaseException.__getattribute__"))
 hgt:findIn K (.ref D) "__getattr__"=some none
theorem kitx_exc (C:XCls K D):KitX K (.ref a) (.ref D) (fun h=>∃ o,h.get? a=some o∧o.cls=.ref D) where
 ty:=fun _ _ _ ⟨_,h1,h2⟩=>L2.ty_at h1 h2
 it:=fun _ _ X _=>by
  obtain ⟨cdD,hcD,_⟩:=Option.bind_eq_some_iff.mp C.hm
  unfold clsIn at hcD
  split at hcD
  ·rename_i c' d' cd' sl' ho
   intro A' Q' E' s' k q
   unfold isType loadHead
   exact wpAny_bind (wpAny_loadPart (k _ _ (X _ _ ho)) (wpAny_pure q))
  ·cases hcD
 ne:=fun h tp dd its n sl X htp=>by
  obtain ⟨cdD,hcD,_⟩:=Option.bind_eq_some_iff.mp C.hm
  refine Bool.eq_false_iff.mpr fun q=>?_
  have e:D=tp:=Value.ref.inj (beq_iff_eq.mp q)
  subst e
  unfold clsIn at hcD
  split at hcD
  ·rename_i c' d' cd' sl' ho
   have z:=(X _ _ ho).symm.trans htp
   cases z
  ·cases hcD
 ca:=fun {_ _ _ _ _ s} X ⟨_,h1,h2⟩ k=>by
  obtain ⟨h,g,d,t,os⟩:=s
  exact jin X h1 h2 C.hm C.hb C.hcl C.hga C.hgt k
end
end PySem.W
namespace L2
open PySem PySem.Spec PyProof.Rows
section
variable {X:Cx} {ea:Addr} {oe:Obj} {D:Addr}
theorem jhg (C:PySem.W.XCls X.K D) (hp:(ea,oe)∈X.pn) (ho:oe.cls=.ref D) {c:Value} {b:Bool} (e:PySem.W.kitOne X.K (.ref D) c=some b) {pins:List (Addr×Obj)} {s:Shared} {σ:St} {H:Hp} (I:Inv X pins σ H s) {A:Around} {E:Value→Shared→Prop} {Q:Value→Shared→Prop}
  (h:∀ tk,Q (.bool b) { s with toks:=tk}):wpAny (model X.prog X.w) A (call (.builtin "isinstance") [.ref ea,c]) Q E s:=
 PySem.W.kia_one (PySem.W.kitx_exc C) I.kIn ⟨oe,(I.pin _ (List.mem_append_left _ hp)).1,ho⟩ e (fun z=>nomatch z) h
def rIsX (K:PySem.W.Frag) (D ea:Addr):List V→Hp→VK→Prop:=fun xs H Q=>∃ c cv b,xs=[.ref ea,c]∧RelV c cv∧(∀ u,RelV c u→u=cv)∧PySem.W.kitOne K (.ref D) cv=some b∧Q (.bl b) H
theorem jv6 (C:PySem.W.XCls X.K D) (hp:(ea,oe)∈X.pn) (ho:oe.cls=.ref D):jki X (.builtin "isinstance") (rIsX X.K D ea):=by
 intro pins s σ H xs us Q I r h
 obtain ⟨c,cv,b,rfl,_,hc,e,q⟩:=h
 obtain ⟨u,w',rfl,ru,rw'⟩:=jdh r
 cases ru
 obtain rfl:=hc _ rw'
 exact jhg C hp ho e I fun tk=>⟨.bl b,H,I.tok tk,rfl,q⟩
end
section
variable {X:Cx} {pins:List (Addr×Obj)} {σ:St} {H:Hp} {s:Shared}
theorem Inv.gone {h':Heap} {m':Str→Option Value} {t':Nat} (I:Inv X pins σ H s) (hn:h'.Ns X.env.locals m') (hs:Heap.SameBut X.env.locals s.heap h'):Inv X pins (List.replicate σ.length none) H { s with heap:=h',toks:=t'}:=by
 have ne0:∀ b o,X.s₀.heap.get? b=some o→h'.get? b=s.heap.get? b:=fun b o e=>hs.2 b (I.ne0 e)
 refine ⟨I.ok,I.os,I.bare,⟨fun b o e n hb hx=>(ne0 b o e).trans (I.base.keep b o e n hb hx),fun b o e n hb hx=>?_,I.base.free,fun b o e hx=>?_,I.base.tups,I.base.frzs,I.base.tbls⟩,⟨m',hn,fun j y v e1 e2 e3=>?_⟩,fun y c e=>?_,I.free,I.freeC,fun p hp=>?_,fun b ob e=>?_,by simpa using I.len⟩
 ·obtain ⟨sl,e1⟩:=I.base.slot b o e n hb hx
  exact ⟨sl,(ne0 b o e).trans e1⟩
 ·obtain ⟨o',e1⟩:=I.base.there b o e hx
  exact ⟨o',(ne0 b o e).trans e1⟩
 ·rw [List.getElem?_replicate] at e2
  split at e2<;>cases e2
 ·obtain ⟨v,o,ho,hd⟩:=I.cell y c e
  exact ⟨v,o,(hs.2 c (I.cne y c e)).trans ho,hd⟩
 ·obtain ⟨a1,a2,a3,a4⟩:=I.pin p hp
  exact ⟨(hs.2 _ a3).trans a1,a2,a3,a4⟩
 ·have nl:∀ c u,H c=some u→c≠X.env.locals:=fun c u q z=>by subst z;rw [I.free] at q;cases q
  refine (I.hok b ob e).stay (fun c v hc q=>(hs.2 c ?_).trans q) (fun _ q=>q) fun _ _ q=>q
  rcases hc with rfl|hc
  ·exact nl _ _ e
  ·exact nl _ _ hc
end
section
variable {X:Cx} {st b₀:Stmt} {suite:List Stmt} {c n:Str} {C CN:Addr} {j:Nat} {np hpos pos:Pos} {tb:(St→XK)→TS} {th:Addr→TS}
def ji1 (K:PySem.W.Frag) (CN C:Addr) (j:Nat) (tb:(St→XK)→TS) (th:Addr→TS):TS:=fun D σ H=>tb (fun σ1 cls _ H1=>cls=.ref CN∧PySem.W.exmOne K (.ref CN) (.ref C)=some true∧∀ ea,H1 ea=none→th ea { nx:=fun _ _=>False,rt:=D.rt} (σ1.set j (some (.ref ea))) H1) D σ H
theorem jgr (hstk:X.stack=X.env :: X.outer∧X.env.frame=some X.env.locals) (hne:∀ e s,¬ X.xe e s) (hb:PX X st tb) (hg:Gl X c) (hm:X.mg c=some (.ref C)) (hN:X.N.Nodup) (hj:X.N[j]?=some n) (hl:X.env.kindOf n=some .local)
  (hth:∀ ea oe,oe.cls=.ref CN→PSs (X.inH ea oe) (b₀ :: suite) (th ea)) (hdb:(c == ("__debug__":Str))=false:=by decide) :
  PS X (.Try [st] [.ExceptHandler (some (.Name c np)) (some n) (b₀ :: suite) hpos] [] [] pos) (ji1 X.K CN C j tb th):=by
 intro pins s σ H D I h
 refine wpAny_Try_except (wpAny_execs_cons ?_)
 refine wpAny_mono (hb pins s σ H D _ _ I h ?_) (fun f s1 q=>?_) fun _ _ z=>z
 case refine_2=>
  cases f with
  | next=>exact wpAny_execs_nil (wpAny_execs_nil q)
  | ret v=>exact q
  | brk=>exact q
  | cont=>exact q
 intro σ1 H1 s1 e s' I1 hx
 obtain ⟨ea,cls,H2,B,a0,rfl,F,rfl,he,hd⟩:=hx
 have hfr:X.A.frames=some (X.env :: X.outer):=by rw [← hstk.1];exact I.ok.frames
 have fl0:=F.fly
 rw [hstk.1] at fl0
 refine wpAny_looks_onW hfr hstk.2 fl0 fun h4 held4 up4=>?_
 refine wpAny_landsW held4 fun h5 fl5 up5=>?_
 rw [← hstk.1] at fl5
 have F5:=F.on fl5 (up4.trans up5)
 have J5:=I1.flown F5
 obtain ⟨oe,vs,o1,o2,o3⟩:=F5.pin J5
 have J5':=J5.inH o3
 refine wpAny_handleBy_cons (codeAny_handlers_test ?_) (by intro q;cases q)
 refine jk9 (X:=X.inH ea oe) J5' hg hm ?_ hdb
 refine (PySem.W.exm_one J5.kIn (ty_at o3.1 o1) he).here ?_
 refine codeAny_handlers_suite_as ?_
 refine lands_againW fl5 fun h6 fl6 up6=>?_
 have F6:=F5.on fl6 up6
 have J6:=I1.flown F6
 obtain ⟨oe6,vs6,p1,p2,o6⟩:=F6.pin J6
 refine jv2 (X:=X.inH ea oe6) (i:=j) (v:=.ref ea) (J6.inH o6) hN hj (.inl hl) rfl (fun s7 I7=>?_) (.inr hl)
 refine wpAny_mono (hth ea oe6 p1 pins _ _ H2 _ I7 (hd ea o6.2.1)) (fun f s2 q=>?_) fun e s2 z=>absurd z (hne e s2)
 cases f with
 | next=>obtain ⟨_,_,_,z⟩:=q;exact z.elim
 | brk=>obtain ⟨_,_,_,z⟩:=q;exact z.elim
 | cont=>obtain ⟨_,_,_,z⟩:=q;exact z.elim
 | ret u=>
  obtain ⟨v,σ',H',I8,r,q⟩:=q
  have I9:=I8.outH I.ok
  obtain ⟨m,hn,_⟩:=id I9.loc
  refine wpAny_nameGoes hl hn (by rw [I.ok.kind];rfl) fun h' m' hn' hs'=>?_
  exact ⟨v,_,H',I9.gone hn' hs',r,q⟩
end
end L2
namespace L2
open PySem PySem.Spec PyProof.Rows
def jdb (K:PySem.W.Frag) (a:Addr) (n:Nat):It:=
 ⟨fun i H=>i < n∧∃ xs x,SqL K H a xs∧xs.length=n∧xs[n - 1 - i]?=some x,fun i H x H'=>H'=H∧∀ xs,SqL K H a xs→xs[n - 1 - i]?=some x,fun i _=>i=n⟩
theorem jg9 {P:Program} {w:World} {K:PySem.W.Frag} {tg:Expr} (a it:Addr) (n:Nat):Turn P w K tg (jdb K a n) [it] it (fun i h=>h.IsRevIter it a ((n:Int) - 1 - i)) where
 mem:=by simp
 obj:=fun i h st b hb=>by
  have e:b=it:=by simpa using hb
  subst e
  obtain ⟨o,e,c,d⟩:=st
  exact ⟨o,e,fun v z=>by rw [d] at z;cases z⟩
 keep:=fun i h h' st k=>st.at fun o e=>k it (by simp) o e
 item:=by
  intro X hP hw hK hc i pins s σ H E I hf st hg
  subst hP hw hK
  obtain ⟨hi,xs,x,hq,hl,hx⟩:=hg
  obtain ⟨its,rv,p,hz⟩:=I.list hq
  obtain ⟨u,hu,ru⟩:=rv.get hx
  obtain ⟨f0,f1,f2,f3,f4,f5⟩:=hf it (by simp)
  have e1:(n:Int) - 1 - i=((n - 1 - i:Nat):Int):=by omega
  have st1:s.heap.IsRevIter it a ((n - 1 - i:Nat):Int):=by rw [← e1];exact st
  refine wpAny_pyNext_rev_item st1 p.isList (x:=u) (by simpa using hu) fun h' st' sb=>?_
  have I1:Inv X pins σ H { s with heap:=h'}:=I.turned (t':=s.toks) (fun b o hb e=>(sb.2 b hb).trans e) f0 f1 f3 f4 f5
  obtain ⟨o,e,c,d⟩:=id st'
  have e2:((n - 1 - i:Nat):Int) - 1=(n:Int) - 1 - (i+1:Nat):=by omega
  exact ⟨u,rfl,jh6 (s:={ s with heap:=h'}) e c d (by decide) ⟨x,H,I1,ru,⟨rfl,fun ys hy=>by rw [I.list_inj hy hq];exact hx⟩,by rw [← e2];exact st',fun b hb=>(hf b hb).1⟩⟩
 done:=by
  intro X hP hw hK hc i pins s σ H E I hf st hg
  subst hP hw hK
  obtain rfl:i=n:=hg
  obtain ⟨f0,f1,f2,f3,f4,f5⟩:=hf it (by simp)
  have st1:s.heap.IsRevIter it a (-1):=(show (i:Int) - 1 - i=-1 by omega)▸st
  exact wpAny_pyNext_rev_end (I.ok.hd hc) st1 fun h' eb=>⟨rfl,I.turned (t':=s.toks) (fun b o hb e=>eb b o hb e) f0 f1 f3 f4 f5⟩
 self:=fun _ _ _ _ _ st h=>wpAny_pyIter_revIter st h
def iRev (K:PySem.W.Frag) (tl:TE):TI:=fun σ H R=>tl σ H fun x H1=>∃ a xs,[x]=[V.ref a]∧SqL K H1 a xs∧R (jdb K a xs.length) H1
theorem jbn:bootBuiltins "reversed"=some (.type "reversed"):=by decide+kernel
section
variable {X:Cx} {tg:Expr}
theorem ji8 {l:Expr} {tl:TE} {np pos:Pos} (hg:Gl X "reversed") (hm:X.mg "reversed"=none) (hl:PE X l tl) (he:starEach [l] X.env=[(false,eval l X.env)]:=by rfl):PI X tg (.Call (.Name "reversed" np) [l] [] pos) (iRev X.K tl):=by
 intro pins s σ H R I h
 refine wpAny_Call_Name_kw (jvs I hg hm jbn ?_)
 have he':starEach (l :: []) X.env=(false,eval l X.env) :: starEach [] X.env:=he
 refine PyProof.Rows.callWith_type1 (thn ((jq0 hl jq4 he':PA X [l] (jq3 tl tNil)) pos pins s σ H (fun vs H1=>∃ a xs,vs=[V.ref a]∧SqL X.K H1 a xs∧R (jdb X.K a xs.length) H1) I h) fun us s1 ⟨vs,H1,I1,r1,q1⟩=>?_) he' (by rfl)
 ·obtain ⟨a,xs,rfl,hq,q⟩:=q1
  obtain ⟨u,rfl,ru⟩:=jw1 r1
  cases ru
  obtain ⟨its,rv,p,hz⟩:=I1.list hq
  refine call_reversed_list p.isList ?_
  refine wpAny_pyIter_revIter (l:=a) (i:=(xs.length:Int) - 1) ⟨_,Heap.get?_push_size _ rfl,rfl,by simp [revObj,rv.length]⟩ ?_
  refine ⟨s1.heap.objs.size,[s1.heap.objs.size],_,_,H1,rfl,I1.kept (t':=s1.toks) fun b o e=>Heap.get?_push_of_some _ e,jg9 a _ xs.length,⟨_,Heap.get?_push_size _ rfl,rfl,by simp [revObj,rv.length]⟩,fun b hb=>?_,q⟩
  have e:b=s1.heap.objs.size:=by simpa using hb
  subst e
  exact I1.fpOk (Nat.le_refl _) (I1.hok.fresh (Nat.le_refl _))
def tFS1 (ta:TE) (x:Str):TE:=fun σ H Q=>ta σ H fun v H1=>∃ y,v=.str y∧x.length+y.length≤sizeLine∧Q (.str (x++y)) H1
theorem jr0 {x:Str} {j:Nat} {e:Expr} {ta:TE} {p1 p2 p3:Pos} (he:PE X e ta) (hx:(Str.empty++x)=x:=by decide+kernel) (hz:Nat.ble x.length 1000=true:=by decide+kernel):PE X (.JoinedStr [.Constant (.str x) j p1,.FormattedValue e (-1) none p2] p3) (tFS1 ta x):=by
 intro pins s σ H Q I h
 refine JoinedStr_many (joinParts_cons (Calls.Constant_str ⟨?_,joinParts_cons (FormattedValue_plain (thn (he pins _ σ H _ (I.tok _) h) fun v s1 ⟨y,H1,I1,r,z,ey,hl,q⟩=>?_))⟩))
 ·rw [hx];exact Nat.le_trans (Nat.le_of_ble_eq_true hz) (by rw [sizeLine_eq];decide)
 ·subst ey
  obtain ⟨tk,rfl⟩:=r
  refine formatField_str (fun t' tk'=>?_) (by omega)
  rw [hx]
  refine ⟨by rw [strLen_append];exact hl,joinParts_nil ?_ (by rw [strLen_append];exact hl)⟩
  exact ⟨.str (x++z),H1,(I1.tok _).tok _,⟨_,rfl⟩,q⟩
theorem kia2 {pins:List (Addr×Obj)} {σ:St} {H:Hp} {s:Shared} {A:Around} {E:Value→Shared→Prop} {Q:Value→Shared→Prop} {b:Bool} {x:V} {u t:Value} {p:Addr} {cs:List Value} (I:Inv X pins σ H s) (rx:RelV x u) (ty:TyOf X.K H x t) (hp:∃ o n,s.heap.get? p=some o∧o.cls=.type "tuple"∧o.data=.seq cs.toArray n)
  (e:PySem.W.kitAny X.K t cs=some b) (h:∀ tk,Q (.bool b) { s with toks:=tk}):wpAny (model X.prog X.w) A (call (.builtin "isinstance") [u,.ref p]) Q E s:=by
 obtain ⟨⟨oc,od,odt,osl⟩,n,h1,h2,h3⟩:=hp
 dsimp only at h2 h3
 subst h2 h3
 cases ty with
 | non=>cases (show u=Value.none from rx);exact PySem.W.kia_tup PySem.W.kitx_none I.kIn True.intro h1 e (fun z=>nomatch z) h
 | bl y=>cases (show u=Value.bool y from rx);exact PySem.W.kia_tup PySem.W.kitx_bool I.kIn True.intro h1 e (fun z=>nomatch z) h
 | int i=>obtain ⟨t,q⟩:=(show ∃ t,u=Value.int i t from rx);cases q;exact PySem.W.kia_tup PySem.W.kitx_int I.kIn True.intro h1 e (fun z=>nomatch z) h
 | str y=>obtain ⟨t,q⟩:=(show ∃ t,u=Value.str y t from rx);cases q;exact PySem.W.kia_tup PySem.W.kitx_str I.kIn True.intro h1 e (fun z=>nomatch z) h
 | flt y=>obtain ⟨t,q⟩:=(show ∃ t,u=Value.float y t from rx);cases q;exact PySem.W.kia_tup PySem.W.kitx_float I.kIn True.intro h1 e (fun z=>nomatch z) h
 | @lst a xs ea=>
  cases (show u=Value.ref a from rx)
  obtain ⟨_,_,n,_,h2⟩:=(show ObjOk X.prog X.w H s.heap a (.lst xs) from I.hok a _ ea)
  exact PySem.W.kia_tup PySem.W.kitx_list I.kIn ⟨_,h2,rfl⟩ h1 e (fun z=>nomatch z) h
 | @frz a ob xs ea=>
  cases (show u=Value.ref a from rx)
  obtain ⟨_,_,_,n,_,h2⟩:=(show ObjOk X.prog X.w H s.heap a (.frz ob (.lst xs)) from I.hok a _ ea)
  exact PySem.W.kia_tup PySem.W.kitx_list I.kIn ⟨_,h2,rfl⟩ h1 e (fun z=>nomatch z) h
 | @tup a xs ea=>
  cases (show u=Value.ref a from rx)
  obtain ⟨_,_,_,p⟩:=(show ObjOk X.prog X.w H s.heap a (.tup xs) from I.hok a _ ea)
  obtain ⟨o,h2,h3,_⟩:=p
  exact PySem.W.kia_tup PySem.W.kitx_tuple I.kIn ⟨o,h2,h3⟩ h1 e (fun z=>nomatch z) h
 | @dK a kvs ea=>
  cases (show u=Value.ref a from rx)
  obtain ⟨_,_,vs,_,p⟩:=(show ObjOk X.prog X.w H s.heap a (.dK kvs) from I.hok a _ ea)
  obtain ⟨o,es,ep,h2,h3,_⟩:=p
  exact PySem.W.kia_tup PySem.W.kitx_dict I.kIn ⟨o,h2,h3.1⟩ h1 e (fun z=>nomatch z) h
 | @dT a kvs ea=>
  cases (show u=Value.ref a from rx)
  obtain ⟨_,_,xs,_,o,es,ep,h2,h3,_⟩:=(show ObjOk X.prog X.w H s.heap a (.dT kvs) from I.hok a _ ea)
  exact PySem.W.kia_tup PySem.W.kitx_dict I.kIn ⟨o,h2,h3.1⟩ h1 e (fun z=>nomatch z) h
 | @ins a C dx fs ea cl ha hn htk hm=>
  cases (show u=Value.ref a from rx)
  obtain ⟨mA,O,_⟩:=jvv I.hok ea
  obtain ⟨od,J,_⟩:=O.look
  exact PySem.W.kia_tup (PySem.W.kitx_own (cl.get _) cl.hd ha hn htk hm) I.kIn J h1 e (fun z=>nomatch z) h
def js0 (K:PySem.W.Frag):List V→Hp→VK→Prop:=fun xs H Q=>∃ x t p c d b,xs=[x,.ref p]∧H p=some (.tup [.ty c,.ty d])∧TyOf K H x t∧PySem.W.kitAny K t [.type c,.type d]=some b∧Q (.bl b) H
theorem jfz:jki X (.builtin "isinstance") (js0 X.K):=by
 intro pins s σ H xs us Q I r h
 obtain ⟨x,t,p,c,d,b,rfl,hp,ty,e,q⟩:=h
 obtain ⟨u,w',rfl,ru,rw'⟩:=jdh r
 cases rw'
 obtain ⟨_,its,rv,o,h1,h2,n,h3⟩:=(show ObjOk X.prog X.w H s.heap p (.tup _) from I.hok p _ hp)
 obtain ⟨u1,u2,rfl,r1,r2⟩:=jdh rv
 cases r1;cases r2
 exact kia2 I ru ty ⟨o,n,h1,h2,h3⟩ e fun tk=>⟨.bl b,H,I.tok tk,rfl,q⟩
end
end L2
namespace L2
open PySem PySem.Spec PyProof.Rows SW
section
variable {X:Cx} {pins:List (Addr×Obj)} {σ:St} {H:Hp} {s:Shared}
end
section
variable {X:Cx}
end
end L2
namespace L2
open PySem PySem.Spec PyProof.Rows
section
variable {X:Cx} {tg:Expr}
end
end L2
namespace PySem.W
open PySem PySem.Spec PySem.Calls PyProof.Rows
section
variable {prog:Program} {w:World} {A:Around} {E:Value→Shared→Prop} {s:Shared} {r l:Addr} {items:Array Value}
end
end PySem.W
namespace L2
open PySem PySem.Spec PyProof.Rows
section
variable {X:Cx}
end
end L2
namespace L2
open PySem PySem.Spec PyProof.Rows
section
variable {X:Cx}
def jer (K:PySem.W.Frag):R2:=fun x y H Q=>∃ a b xs ys,x=.ref a∧y=.ref b∧SqT K H a xs∧SqT K H b ys∧xs.length+ys.length≤sizeLine∧
 (xs=[]→Q (.ref b) H)∧(xs≠[]→ys=[]→Q (.ref a) H)∧(xs≠[]→ys≠[]→∀ p,H p=none→Q (.ref p) (upd H p (.tup (xs++ys))))
theorem jf0:OpR X (binaryOp .Add) (jer X.K):=by
 intro pins s σ H x y v u Q I rx ry h
 obtain ⟨a,b,xs,ys,rfl,rfl,ha,hb,hz,q0,q1,q2⟩:=h
 by_cases hx:xs=[]
 ·subst hx
  cases rx
  cases ry
  obtain ⟨its,r1,p1,_⟩:=I.tuple ha
  obtain ⟨its2,r2,p2,_⟩:=I.tuple hb
  cases r1
  obtain ⟨⟨cls,dd,data,sl⟩,ho,hc,n,hd⟩:=id p1
  obtain ⟨⟨cls2,dd2,data2,sl2⟩,ho2,hc2,n2,hd2⟩:=id p2
  simp only at hc hd hc2 hd2
  subst hc hd hc2 hd2
  exact concat_meets ⟨_,ho,rfl⟩ ⟨_,ho2,rfl⟩ noFill_tuple_add seq_tuple_add PySem.F.slot_tuple_add PySem.F.entry_tuple_add (PySem.F.args_tuple_add_2 _ _)
   (tuple_addW0 a b #[] its2.toArray n n2 dd dd2 sl sl2 rfl) ⟨ho,ho2,.ref b,H,I,rfl,q0 rfl⟩
 ·exact jml pins s σ H _ _ v u Q I rx ry ⟨a,b,xs,ys,rfl,rfl,ha,hb,hx,hz,q1 hx,q2 hx⟩
end
end L2
namespace PySem
section
variable {prog:Program} {w:World} {A:Around} {E:Value→Shared→Prop} {s:Shared}
theorem jim {c t:Addr} {j:Nat} {its} {v:Value} {Q:Value→Shared→Prop} (hc:s.heap.IsTupleIter c t j) (ht:s.heap.IsTuple t its) (hv:its[j]?=some v)
  (hQ:∀ k,k.IsTupleIter c t (j+1)→Heap.SameBut c s.heap k→Q v { s with heap:=k}):wpAny (model prog w) A (Builtin.SmallTypes.nextOf (.ref c)) Q E s:=by
 obtain ⟨ob,h1,h2,h3⟩:=id hc
 obtain ⟨ot,h4,_,m,h5⟩:=ht
 unfold Builtin.SmallTypes.nextOf
 refine wpAny_bind (wpAny_callSpecial?_slot (name:=Str.ofString "__next__") hc.typeIs F.slot_tuple_iterator_next (wpAny_call_entry F.slot_tuple_iterator_next hc.typeIs F.entry_tuple_iterator_next ?_ (F.args_tuple_iterator_next_1 _)))
 show wpAny _ _ (field (.ref c) 0 >>= _) _ _ s
 refine wpAny_bind (wpAny_field h1 h3 (x:=.ref t) rfl ?_)
 show wpAny _ _ (if (Value.ref t == Value.none)=true then _ else _) _ _ s
 rw [if_neg (show ¬ (Value.ref t == Value.none)=true from Bool.false_ne_true)]
 show wpAny _ _ (field (.ref c) 1 >>= _) _ _ s
 refine wpAny_bind (wpAny_field h1 h3 (x:=.int j 0) rfl ?_)
 show wpAny _ _ (seqItems? (.ref t) >>= _) _ _ s
 refine wpAny_bind (wpAny_seqItems h4 h5 ?_)
 simp only [Int.toNat_natCast,hv]
 refine wpAny_bind (wpAny_setField h1 h3 (by simp) (wpAny_pure ⟨v,rfl,wpAny_pure (hQ _ ?_ (Heap.SameBut.update ..))⟩))
 exact ⟨_,Heap.get?_update_self _ h1 (Obj.isFreed_of_fields (Obj.data_mapFields h3 _)),(Obj.cls_mapFields ..).trans h2,by rw [Obj.data_mapFields h3];simp [rawInt]⟩
theorem jil {c t:Addr} {j:Nat} {its} {Q:Value→Shared→Prop} (hh:A.handled=none) (hc:s.heap.IsTupleIter c t j) (ht:s.heap.IsTuple t its) (hv:its[j]?=none)
  (hE:∀ k e,Heap.ExtBut c s.heap k→(∃ o,k.get? e=some o∧o.cls=.type "StopIteration")→E (.ref e) { s with heap:=k}):wpAny (model prog w) A (Builtin.SmallTypes.nextOf (.ref c)) Q E s:=by
 obtain ⟨ob,h1,h2,h3⟩:=id hc
 obtain ⟨ot,h4,_,m,h5⟩:=ht
 unfold Builtin.SmallTypes.nextOf
 refine wpAny_bind (wpAny_callSpecial?_slot (name:=Str.ofString "__next__") hc.typeIs F.slot_tuple_iterator_next (wpAny_call_entry F.slot_tuple_iterator_next hc.typeIs F.entry_tuple_iterator_next ?_ (F.args_tuple_iterator_next_1 _)))
 show wpAny _ _ (field (.ref c) 0 >>= _) _ _ s
 refine wpAny_bind (wpAny_field h1 h3 (x:=.ref t) rfl ?_)
 show wpAny _ _ (if (Value.ref t == Value.none)=true then _ else _) _ _ s
 rw [if_neg (show ¬ (Value.ref t == Value.none)=true from Bool.false_ne_true)]
 show wpAny _ _ (field (.ref c) 1 >>= _) _ _ s
 refine wpAny_bind (wpAny_field h1 h3 (x:=.int j 0) rfl ?_)
 show wpAny _ _ (seqItems? (.ref t) >>= _) _ _ s
 refine wpAny_bind (wpAny_seqItems h4 h5 ?_)
 simp only [Int.toNat_natCast,hv]
 refine wpAny_bind (wpAny_rule (wpAny_bind (wpAny_setField h1 h3 (by simp) ?_)))
 show wpAny _ _ (newExc (.type "StopIteration") [] >>= _) _ _ _
 refine wpAny_bind ?_;simp only [newExc,newTuple]
 refine wpAny_bind (wpAny_newObj_type ?_ (by size_fits))
 refine wpAny_bind (m:=firstArgMember _ _) (wpAny_of_eq (a:=.none) (by first|rfl|(simp only [firstArgMember];rfl)) ?_)
 refine wpAny_newObj_type ?_ (by size_fits)
 simp only [raiseNew]
 refine wpAny_bind (wpAny_handled ?_)
 first|rw [show A.in1.handled=none from hh]|rw [hh]
 refine wpAny_bind (wpAny_pure (wpAny_throw ?_))
 exact hE _ _ (((Heap.SameBut.update ..).extBut.push _).push _) ⟨_,Heap.get?_push_size _ rfl,rfl⟩
end
section
variable {prog:Program} {w:World} {A:Around} {E:Value→Shared→Prop} {s:Shared}
end
end PySem
namespace L2
open PySem PySem.Spec PyProof.Rows
section
variable {X:Cx} {pins:List (Addr×Obj)} {σ:List (Option V)} {H:Hp} {s:Shared} {h':Heap}
theorem Inv.turnedN {t':Nat} {fp:List Addr} {a:Addr} {o:HO} (I:Inv X pins σ H s) (hf:∀ b∈fp,FpOk X pins H b) (k:∀ b u,b∉fp→s.heap.get? b=some u→h'.get? b=some u) (hp:s.heap.objs.size≤a)
  (new:ObjOk X.prog X.w (upd H a o) h' a o):Inv X pins σ (upd H a o) { s with heap:=h',toks:=t'}:=by
 have hn:=I.hok.fresh hp
 have nfp:∀ b u,H b=some u→b∉fp:=fun b u e z=>by rw [(hf b z).1] at e;cases e
 have na:∀ b u,s.heap.get? b=some u→b≠a:=fun b u e=>Nat.ne_of_lt (Nat.lt_of_lt_of_le (Heap.lt_size e) hp)
 have up:∀ b u,H b=some u→upd H a o b=some u:=fun b u e=>by rw [jqb (jq9 e hn)];exact e
 refine I.step (g':=s.gens) (d':=s.drawn) (ch:=fp) (fun b hb=>?_) (fun b u _ _ hc e _=>k b u hc e) (fun b u _ _ hc e _=>⟨u.slots,k b u hc e⟩) (fun b u _ e n=>by rw [jqb (na b u e)];exact n)
  (fun b u hc e=>⟨u,k b u hc e⟩) (fun b _ e=>up b _ e) (fun b _ _ e=>up b _ e) (fun b ps e=>⟨#[],by rw [up b _ e];simp⟩) (fun m hm=>?_) (fun b u e=>?_) I.bare
 ·obtain ⟨_,h1,_,h3,h4,h5⟩:=hf b hb
  exact ⟨h3,h1,h4,h5⟩
 ·obtain ⟨u,es,ep,ho,r⟩:=hm
  exact ⟨u,es,ep,k _ u (fun z=>(hf _ z).2.1 rfl) ho,r⟩
 ·by_cases hb:b=a
  ·subst hb;rw [jq1] at e;cases e;exact new
  ·rw [jqb hb] at e
   refine (I.hok b u e).stay (fun c v hc q=>k c v ?_ q) (fun c q=>up c _ q) fun c xs q=>up c _ q
   rcases hc with z|z
   ·rw [z];exact nfp b u e
   ·exact nfp c _ z
theorem Inv.turnedL {t':Nat} {fp:List Addr} (I:Inv X pins σ H s) (hf:∀ b∈fp,FpOk X pins H b) (k:∀ b u,b∉fp→s.heap.get? b=some u→h'.get? b=some u):Inv X pins σ H { s with heap:=h',toks:=t'}:=by
 have nfp:∀ b u,H b=some u→b∉fp:=fun b u e z=>by rw [(hf b z).1] at e;cases e
 refine I.step (g':=s.gens) (d':=s.drawn) (ch:=fp) (fun b hb=>?_) (fun b u _ _ hc e _=>k b u hc e) (fun b u _ _ hc e _=>⟨u.slots,k b u hc e⟩) (fun b u _ e n=>n)
  (fun b u hc e=>⟨u,k b u hc e⟩) (fun b _ e=>e) (fun b _ _ e=>e) (fun b ps e=>⟨#[],by rw [e];simp⟩) (fun m hm=>?_) (fun b u e=>?_) I.bare
 ·obtain ⟨_,h1,_,h3,h4,h5⟩:=hf b hb
  exact ⟨h3,h1,h4,h5⟩
 ·obtain ⟨u,es,ep,ho,r⟩:=hm
  exact ⟨u,es,ep,k _ u (fun z=>(hf _ z).2.1 rfl) ho,r⟩
 ·refine (I.hok b u e).stay (fun c v hc q=>k c v ?_ q) (fun c q=>q) fun c xs q=>q
  rcases hc with z|z
  ·rw [z];exact nfp b u e
  ·exact nfp c _ z
end
theorem js2:bootBuiltins "zip"=some (.type "zip"):=by decide+kernel
section
variable {X:Cx} {es:List Expr} {x1:Nat} {tp:Pos}
end
structure CompScT (X:Cx) (scope:Scope) (cl:List (Str×Addr)) (xs ys:List Str) (js:List Nat):Prop where
 clos:closureFor scope X.env=pure cl
 ncell:∀ y∈scope.names,y.2≠.cell
 kind:scope.kind=.function
 names:∀ y∈scope.names,y.2=.local→scope.names.lookup y.1=some .local
 cells:∀ y c,cl.lookup y=some c→X.env.cells.lookup y=some c
 has:∀ y,((relabel scope X.env).names.lookup y=some .cell∨(relabel scope X.env).names.lookup y=some .free)→∃ c,cl.lookup y=some c
 free:∀ (k:Nat) (y:Str),ys[k]?=some y→∃ j:Nat,js[k]?=some j∧X.N[j]?=some y∧X.env.scope.names.lookup y=some .cell∧((relabel scope X.env).names.lookup y=some .cell∨(relabel scope X.env).names.lookup y=some .free)
 len:js.length=ys.length
section
variable {X:Cx} {pins:List (Addr×Obj)} {σ:St} {H:Hp} {s:Shared} {scope:Scope} {cl:List (Str×Addr)} {xs ys:List Str} {js:List Nat} {fp:List Addr} {C D:Addr} {h':Heap}
theorem Inv.compOkT (I:Inv X pins σ H s) (S:CompScT X scope cl xs ys js) (hf:∀ b∈fp,FpOk X pins H b) (hfb:∀ b∈fp,b < s.heap.objs.size) (hC:s.heap.objs.size≤C):(jz3 X scope cl (xs++ys) fp s H C).Ok where
 mod:=I.ok.mod
 kind:=S.kind
 glob:=I.ok.glob
 blt:=I.ok.blt
 above:=hC
 inj:=fun y z c h1 h2=>I.ok.inj y z c (S.cells y c h1) (S.cells z c h2)
 has:=fun y h=>S.has y h
 cab:=fun _ _ h=>by cases h
 hd:=I.ok.hd
 frames:=I.ok.frames
 stk:=.inl rfl
 exf:=fun b hb=>by
  obtain ⟨_,h1,_,h3,h4,_⟩:=hf b hb
  exact ⟨Nat.ne_of_lt (Nat.lt_of_lt_of_le (hfb b hb) hC),fun y c e=>h4 y c (S.cells y c e)⟩
 bs:=I.bs
 bsz:=Nat.le_trans I.ok.bsz I.sz
 noex:=fun b o e hb=>by
  obtain ⟨_,_,_,h3,_⟩:=hf b hb
  rcases h3 with z|z
  ·exact I.ok.noex b o e z
  ·exact absurd (Nat.lt_of_lt_of_le (Heap.lt_size e) (Nat.le_trans I.ok.bsz z)) (Nat.lt_irrefl _)
 exfs:=fun b hb z=>by
  obtain ⟨_,h1,h2,_⟩:=hf b hb
  rcases List.mem_cons.mp (I.stkSub b z) with e|e
  ·exact h1 e
  ·exact h2 e
 funs:=I.stack
 frf:=I.stkFree
theorem Inv.compInT {m:Str→Option Value} {n t':Nat} (I:Inv X pins σ H s) (S:CompScT X scope cl xs ys js) (hf:∀ b∈fp,FpOk X pins H b) (hfb:∀ b∈fp,b < s.heap.objs.size) (hC:s.heap.objs.size≤C) (hD:s.heap.objs.size≤D) (hDC:D≠C)
  (keep:∀ b o,s.heap.get? b=some o→h'.get? b=some o) (ns:h'.Ns C m) (ho:h'.get? D=some (lstN [] n)) :
  Inv (jz3 X scope cl (xs++ys) fp s H C) ((X.pn++pins)++[(D,lstN [] n)]) (List.replicate xs.length none++got σ js) H { s with heap:=h',toks:=t'} where
 ok:=I.compOkT S hf hfb hC
 os:=rfl
 bare:=I.bare
 base:=Un.kept keep
 loc:=by
  refine ⟨m,ns,fun i y v e1 e2 e3=>?_⟩
  have e1:(xs++ys)[i]?=some y:=e1
  by_cases hi:i < xs.length
  ·rw [List.getElem?_append_left (by simpa using hi),List.getElem?_replicate,if_pos hi] at e2
   cases e2
  ·obtain ⟨k,rfl⟩:∃ k,i=xs.length+k:=⟨i - xs.length,by omega⟩
   rw [List.getElem?_append_right (by omega),Nat.add_sub_cancel_left] at e1
   rw [List.getElem?_append_right (by simp),List.length_replicate,Nat.add_sub_cancel_left] at e2
   obtain ⟨j,hj,hN,hk,hk2⟩:=S.free k y e1
   have e4:σ[j]?=some (some v):=by
    unfold got at e2
    rw [List.getElem?_map,hj] at e2
    have e2:σ.getD j none=some v:=Option.some.inj e2
    rw [List.getD_eq_getElem?_getD] at e2
    cases q:σ[j]? with
    | none=>rw [q] at e2;cases e2
    | some z=>rw [q] at e2;exact congrArg some e2
   obtain ⟨m0,hn0,hl⟩:=I.loc
   obtain ⟨u,ru,l⟩:=hl j y v hN e4 (.inr (.inl hk))
   refine ⟨u,ru,.inr ⟨hk2,?_⟩⟩
   obtain ⟨c,hc⟩:=S.has y hk2
   rcases l with ⟨z,_⟩|⟨_,c',hc',hcell⟩
   ·have z:X.env.scope.names.lookup y=some .local:=z
    rw [hk] at z;cases z
   ·have q:=S.cells y c hc
    rw [hc'] at q
    cases q
    obtain ⟨oc,a1,a2⟩:=hcell
    exact ⟨_,hc,oc,keep _ _ a1,a2⟩
 cell:=fun y c e=>by
  obtain ⟨v,oc,a1,a2⟩:=I.cell y c (S.cells y c e)
  exact ⟨v,oc,keep _ _ a1,a2⟩
 free:=I.hok.fresh hC
 freeC:=fun y c e=>I.freeC y c (S.cells y c e)
 pin:=fun p hp=>by
  rcases List.mem_append.mp (show p∈(X.pn++pins)++[(D,lstN [] n)] from hp) with z|z
  ·obtain ⟨e,nn,ne,nf,d⟩:=I.pin p z
   exact ⟨keep _ _ e,nn,Nat.ne_of_lt (Nat.lt_of_lt_of_le (Heap.lt_size e) hC),I.nostk ne nf,d⟩
  ·rw [List.mem_singleton] at z
   subst z
   exact ⟨ho,I.hok.fresh hD,hDC,I.nostk (Nat.ne_of_gt (Nat.lt_of_lt_of_le I.lt hD)) (I.nofs hD),fun v z=>by cases (show Data.seq _ _=Data.cell v from z)⟩
 hok:=I.hok.kept keep
 len:=by simp [got,jz3,S.len]
end
section
variable {prog:Program} {w:World} {A:Around} {s:Shared} {R:Result→Shared→Prop}
theorem jbm {elt tg iter:Expr} {scope:Scope} {pos:Pos} {it acc:Value} {env:Env} (J:Nat→Shared→Prop)
  (turn:∀ n s,J n s→wpAny (model prog w) A (pyNext it) (fun r s1=>match r with
   | none=>R (.ok .next) s1
   | some v=>wpAny (model prog w) A (letOwnedTupleGo tg it v) (fun _ s2=>wpAny (model prog w) A (assign tg env v) (fun _ s3=>wpAny (model prog w) A (eval elt env) (fun x s4=>
     wpAny (model prog w) A (call (.builtin "list.append") [acc,x]) (fun _ s5=>∃ m,m < n∧J m s5) (notedBy (model prog w) A env fun e s'=>R (.error e) s') s4) (notedBy (model prog w) A env fun e s'=>R (.error e) s') s3) (notedBy (model prog w) A env fun e s'=>R (.error e) s') s2) (notedBy (model prog w) A env fun e s'=>R (.error e) s') s1) (notedBy (model prog w) A env fun e s'=>R (.error e) s') s)
  (n:Nat) (h:J n s):codeAny (model prog w) A (.compLoop (.ListComp elt [⟨tg,iter,[],0⟩] scope pos) 0 it acc env) R s:=by
 refine codeAny_loop rfl J (fun n s hJ=>?_) n h
 show wpAny _ A ((compTurn (.ListComp elt [⟨tg,iter,[],0⟩] scope pos) 0 it acc env).onRaise (fun x=>do noteFrame x env;theTreesLotGoes x)) _ _ s
 refine wpAny_noted ?_
 rw [compTurn_list]
 refine wpAny_bind (wpAny_standAt (wpAny_bind (wpAny_mono (turn n s hJ) (fun r s1 h1=>?_) fun _ _ z=>z)))
 cases r with
 | none=>exact wpAny_pure h1
 | some v=>
  refine wpAny_bind (wpAny_mono h1 (fun _ s2 h2=>wpAny_bind (wpAny_mono h2 (fun _ s3 h3=>wpAny_bind (wpAny_tests_nil ?_)) fun _ _ z=>z)) fun _ _ z=>z)
  exact wpAny_bind (wpAny_bind (wpAny_mono h3 (fun x s4 h4=>wpAny_bind (wpAny_mono h4 (fun _ s5 h5=>wpAny_pure (wpAny_pure ⟨rfl,h5⟩)) fun _ _ z=>z)) fun _ _ z=>z))
end
def tLCT (wi:TI) (g:TG) (te:TE) (js:List Nat):TE:=fun σ H Q=>wi σ H fun J H1=>∃ W:Nat→Nat→List V→Hp→Prop,(∃ m,W 0 m [] H1)∧∀ i m vs H,W i m vs H→
 (J.stop i H∧vs.length≤sizeLine∧∀ p,H p=none→Q (.ref p) (upd H p (.lst vs)))∨
 (J.go i H∧∀ x H',J.yld i H x H'→∀ o1 o2,g x (o1 :: o2 :: got σ js) H' fun σ2 H2=>(∃ o1 o2,σ2=o1 :: o2 :: got σ js)∧te σ2 H2 fun y H''=>vs.length < sizeLine∧∃ m',m' < m∧W (i+1) m' (vs++[y]) H'')
theorem jpx {X:Cx} {elt iter tg:Expr} {x x2:Str} {scope:Scope} {cl:List (Str×Addr)} {pos:Pos} {ys:List Str} {js:List Nat} {wi:TI} {g:TG} {te:TE} (hc:X.calm=true) (S:CompScT X scope cl [x,x2] ys js) (hi:PI X tg iter wi)
  (hg:∀ (fp:List Addr) (s:Shared) (H:Hp) (C:Addr),PG (jz3 X scope cl (x :: x2 :: ys) fp s H C) tg g)
  (he:∀ (fp:List Addr) (s:Shared) (H:Hp) (C:Addr),PE (jz3 X scope cl (x :: x2 :: ys) fp s H C) elt te) (hs:∀ x,foldedSetIterable iter X.env x=pure x:=by intro _;rfl) :
  PE X (.ListComp elt [⟨tg,iter,[],0⟩] scope pos) (tLCT wi g te js):=by
 intro pins s σ H Q I h
 rw [eval_ListComp]
 refine wpAny_comprehension_free (use:=none) rfl hs S.clos S.kind S.names (thn (hi pins s σ H _ I h) fun v s1 h1=>thn h1 fun itv s2 h2=>?_)
 obtain ⟨it,fp,tn,J,H2,e,I2,T,st2,f2,W,⟨m0,w0⟩,turn⟩:=h2
 subst e
 have fpb:∀ b∈fp,b < s2.heap.objs.size:=fun b hb=>by
  obtain ⟨o,e,_⟩:=T.obj _ _ st2 b hb
  exact Heap.lt_size e
 refine wpAny_newObj_type (wpAny_newFunctionEnv S.ncell (by intro y hy;simp at hy) (fun h₁ hns₁ hsb₁=>?_) S.kind)
 dsimp only at hns₁ hsb₁ ⊢
 generalize hH2:s2.heap.push { cls:=.type "list",dict:=none,data:=.seq ([]:List Value).toArray}=G2 at hns₁ hsb₁ ⊢
 have hC:G2.objs.size=s2.heap.objs.size+1:=by rw [← hH2,Heap.size_push]
 have hDC:s2.heap.objs.size≠G2.objs.size:=by rw [hC];exact Nat.ne_of_lt (Nat.lt_succ_self _)
 have hCle:s2.heap.objs.size≤G2.objs.size:=by rw [hC];exact Nat.le_succ _
 have below:∀ b,b < s2.heap.objs.size→b≠G2.objs.size∧b≠s2.heap.objs.size:=fun b hb=>⟨by rw [hC];exact Nat.ne_of_lt (Nat.lt_succ_of_lt hb),Nat.ne_of_lt hb⟩
 have old:∀ b o,s2.heap.get? b=some o→h₁.get? b=some o:=fun b o e=>hsb₁.extBut b o (below b (Heap.lt_size e)).1 (Heap.get?_push_of_some _ (hH2▸Heap.get?_push_of_some _ e))
 have hacc:h₁.get? s2.heap.objs.size=some (lstN [] 0):=hsb₁.extBut _ _ hDC (Heap.get?_push_of_some _ (hH2▸Heap.get?_push_size _ rfl))
 have st4:tn 0 h₁:=T.keep _ _ _ st2 fun b _ o e=>old b o e
 have I4:=fun (t':Nat)=>I2.compInT (t':=t') S f2 fpb hCle (Nat.le_refl _) hDC old hns₁ hacc
 have loop:∀ t':Nat,codeAny (model X.prog X.w) X.A (.compLoop (.ListComp elt [⟨tg,iter,[],0⟩] scope pos) 0 (.ref it) (.ref s2.heap.objs.size) (compEnvC scope cl G2.objs.size X.env))
   (compPost (model X.prog X.w) X.A X.xe none (EP X pins σ Q) (.ref s2.heap.objs.size) G2.objs.size) { s2 with heap:=h₁,toks:=t'}:=by
  intro t'
  refine jbm (fun n s'=>∃ i o1 o2 H' vs its c,Inv (jz3 X scope cl (x :: x2 :: ys) fp s2 H2 G2.objs.size) ((X.pn++pins)++[(s2.heap.objs.size,lstN its c)]) (o1 :: o2 :: got σ js) H' s'∧tn i s'.heap∧(∀ b∈fp,H' b=none)∧Vals vs its∧W i n vs H') ?_ m0
   ⟨0,none,none,H2,[],[],0,I4 t',st4,fun b hb=>(f2 b hb).1,.nil,w0⟩
  rintro n s3 ⟨i,o1,o2,H3,vs,its,c,I3,st3,fr3,rv,w3⟩
  have stat:∀ {H':Hp} {its':List Value} {c':Nat},(∀ b∈fp,H' b=none)→∀ b∈fp,FpOk (jz3 X scope cl (x :: x2 :: ys) fp s2 H2 G2.objs.size) ((X.pn++pins)++[(s2.heap.objs.size,lstN its' c')]) H' b:=fun hn b hb=>by
   obtain ⟨_,h1,h2,h3,h4,h5⟩:=f2 b hb
   refine ⟨hn b hb,(below b (fpb b hb)).1,I2.nostk h1 h2,.inl hb,fun y c e=>h4 y c (S.cells y c e),fun p hp=>?_⟩
   rcases List.mem_append.mp (show p∈(X.pn++pins)++[(s2.heap.objs.size,_)] from hp) with z|z
   ·exact h5 p z
   ·rw [List.mem_singleton] at z
    subst z
    exact Ne.symm (below b (fpb b hb)).2
  rcases turn i n vs H3 w3 with ⟨stop,hz,q⟩|⟨go,step⟩
  ·refine thn (T.done (jz3 X scope cl (x :: x2 :: ys) fp s2 H2 G2.objs.size) rfl rfl rfl hc i _ s3 _ H3 _ I3 (stat fr3) st3 stop) fun r s4 ⟨hr,I5⟩=>?_
   subst hr
   obtain ⟨mm,hn,_⟩:=I5.loc
   refine ⟨mm,hn,fun h'' hs''=>⟨.ref s2.heap.objs.size,_,I2.compOut f2 hCle (Nat.le_refl _) hDC I5 (List.mem_append_right _ (List.mem_singleton.mpr rfl)) rv hz hs'',rfl,q _ ?_⟩⟩
   exact (I5.pin _ (List.mem_append_right _ (List.mem_append_right _ (List.mem_singleton.mpr rfl)))).2.1
  ·refine thn (T.item (jz3 X scope cl (x :: x2 :: ys) fp s2 H2 G2.objs.size) rfl rfl rfl hc i _ s3 _ H3 _ I3 (stat fr3) st3 go) fun r s4 ⟨u,hr,h4⟩=>?_
   subst hr
   refine thn h4 fun _ s5 ⟨xv,H5,I5,r5,y5,st5,fr5⟩=>?_
   have I5':=I5.pinned (stat fr5) (T.obj _ _ st5)
   refine wpAny_mono (hg fp s2 H2 G2.objs.size _ s5 _ H5 xv u _ I5' r5 (step xv H5 y5 o1 o2)) (fun _ s6 ⟨σ6,H6,I6,⟨p1,p2,e6⟩,h6⟩=>?_) (fun _ _ z=>False.elim z)
   subst e6
   refine wpAny_mono (he fp s2 H2 G2.objs.size _ s6 _ _ _ I6 h6) (fun y s7 ⟨yv,H7,I7,r7,hz,m',hm,w7⟩=>?_) (fun _ _ z=>False.elim z)
   have mD:(s2.heap.objs.size,lstN its c)∈(X.pn++pins)++[(s2.heap.objs.size,lstN its c)]:=List.mem_append_right _ (List.mem_singleton.mpr rfl)
   have pD:=I7.pin (s2.heap.objs.size,lstN its c) (List.mem_append_right _ (List.mem_append_left _ mD))
   have pfp:∀ b∈fp,∀ o,s5.heap.get? b=some o→s7.heap.get? b=some o∧H7 b=none:=fun b hb o e=>by
    have z:=I7.pin (b,o) (List.mem_append_right _ (List.mem_append_right _ (jjz hb e)))
    exact ⟨z.1,z.2.1⟩
   refine append_at pD.1 (fun h8 hs8 hD8=>?_) (by rw [List.size_toArray,← rv.length];exact Nat.le_of_lt hz)
   have I7a:Inv (jz3 X scope cl (x :: x2 :: ys) fp s2 H2 G2.objs.size) (X.pn++pins) (p1 :: p2 :: got σ js) H7 s7:=I7.pins_of fun p hp=>I7.pin p (List.mem_append_right _ (List.mem_append_left _ (List.mem_append_left _ hp)))
   have I8:=I7a.turned (t':=s7.toks) (it:=s2.heap.objs.size) (fun b o hb e=>(hs8.2 b hb).trans e) pD.2.1 pD.2.2.1 (.inr (Nat.le_refl _)) (fun z cc e=>by
     obtain ⟨v,o,e1,e2⟩:=I2.cell z cc (S.cells z cc e)
     exact Nat.ne_of_lt (Heap.lt_size e1)) (fun p hp=>by
     obtain ⟨e1,_⟩:=I2.pin p hp
     exact Nat.ne_of_lt (Heap.lt_size e1))
   refine ⟨m',hm,i+1,p1,p2,H7,vs++[yv],its++[y],c+1,I8.pins_of fun p hp=>?_,?_,fun b hb=>?_,Vals.append rv (.cons r7 .nil),w7⟩
   ·rcases List.mem_append.mp hp with z|z
    ·exact I8.pin p (List.mem_append_right _ z)
    ·rw [List.mem_singleton] at z
     subst z
     refine ⟨?_,pD.2.1,pD.2.2.1,pD.2.2.2.1,fun v z=>by cases (show Data.seq _ _=Data.cell v from z)⟩
     rw [show lstN (its++[y]) (c+1)={ cls:=.type "list",data:=.seq (its.toArray.push y) (c+1)} by unfold lstN;rw [List.push_toArray]]
     exact hD8
   ·exact T.keep _ _ _ st5 fun b hb o e=>(hs8.2 b (Nat.ne_of_lt (fpb b hb))).trans (pfp b hb o e).1
   ·obtain ⟨o,e,_⟩:=T.obj _ _ st5 b hb
    exact (pfp b hb o e).2
 exact codeAny_compStart_list (loop _) (T.self _ 0 _ _ _ st4 (loop _))
end L2
namespace L2
open PySem PySem.Spec PyProof.Rows
def ItzL (K:PySem.W.Frag) (a b:Addr):It:=
  ⟨fun i H=>∃ xs ys x y,SqL K H a xs∧SqL K H b ys∧xs[i]?=some x∧ys[i]?=some y,
   fun i H v H'=>∃ p x y,v=.ref p∧H p=none∧H'=upd H p (.tup [x,y])∧(∀ xs,SqL K H a xs→xs[i]?=some x)∧∀ ys,SqL K H b ys→ys[i]?=some y,
   fun i H=>∃ xs ys,SqL K H a xs∧SqL K H b ys∧xs.length≤i⟩
theorem jdi {P:Program} {w:World} {K:PySem.W.Frag} {es:List Expr} {x1} {pos:Pos} {z p q c d a b:Addr} (D:ZipApart z p q c d a b):Turn P w K (.Tuple es x1 pos) (ItzL K a b) [z,p,q,c,d] z
  (fun i h=>IsZip h z p q .none∧IsPair h p (.ref c) (.ref d)∧(∃ u v,IsPair h q u v)∧h.IsListIter c a i∧h.IsListIter d b i) where
 mem:=by simp
 obj:=fun i h st b hb=>by
  obtain ⟨hz,hp,⟨u,v,hq⟩,⟨oc,ec,_,dc⟩,⟨od,ed,_,dd⟩⟩:=st
  simp only [List.mem_cons,List.not_mem_nil,or_false] at hb
  rcases hb with rfl|rfl|rfl|rfl|rfl
  ·exact ⟨_,hz,fun v e=>by cases (show Data.fields _=Data.cell v from e)⟩
  ·exact ⟨_,hp,fun v e=>by cases (show Data.seq _ _=Data.cell v from e)⟩
  ·exact ⟨_,hq,fun v e=>by cases (show Data.seq _ _=Data.cell v from e)⟩
  ·exact ⟨oc,ec,fun v e=>by rw [dc] at e;cases e⟩
  ·exact ⟨od,ed,fun v e=>by rw [dd] at e;cases e⟩
 keep:=fun i h h' st k=>by
  obtain ⟨hz,hp,⟨u,v,hq⟩,⟨oc,ec,rc⟩,⟨od,ed,rd⟩⟩:=st
  exact ⟨k z (by simp) _ hz,k p (by simp) _ hp,⟨u,v,k q (by simp) _ hq⟩,⟨oc,k c (by simp) _ ec,rc⟩,⟨od,k d (by simp) _ ed,rd⟩⟩
 item:=by
  intro X hP hw hK hc i pins s σ H E I hf st hg
  subst hP hw hK
  obtain ⟨hz,hp,⟨u0,v0,hq⟩,h1,h2⟩:=st
  obtain ⟨xs,ys,x,y,hxs,hys,hx,hy⟩:=hg
  obtain ⟨its,rv,pa,za⟩:=I.list hxs
  obtain ⟨jts,rw',pb,zb⟩:=I.list hys
  obtain ⟨u,hu,ru⟩:=rv.get hx
  obtain ⟨v,hv,ru'⟩:=rw'.get hy
  refine wpAny_pyNext_zip_item D hz hp hq h1 h2 pa.isList pb.isList (x:=u) (y:=v) (by simpa using hu) (by simpa using hv) fun g g1 g2 g3 g4 g5 g6 g7=>?_
  refine ⟨_,rfl,wpAny_letOwnedTupleGo_zip g1 fun g' z' sb=>?_⟩
  replace sb:Heap.SameBut z g g':=sb
  have zl:z < s.heap.objs.size:=Heap.lt_size hz
  have kk:∀ b u,b∉[z,p,q,c,d]→s.heap.get? b=some u→g'.get? b=some u:=fun b u hb e=>by
   simp only [List.mem_cons,List.not_mem_nil,or_false,not_or] at hb
   exact sb.extBut _ _ hb.1 (g7 b u hb.1 hb.2.2.1 hb.2.2.2.1 hb.2.2.2.2 e)
  have pT:IsPair g' s.heap.objs.size u v:=sb.extBut _ _ (Nat.ne_of_gt zl) g5
  have new:ObjOk X.prog X.w (upd H s.heap.objs.size (.tup [x,y])) g' s.heap.objs.size (.tup [x,y]):=⟨(by show 2≤sizeLine;rw [sizeLine_eq];decide),[u,v],.cons ru (.cons ru' .nil),_,pT,rfl,_,rfl⟩
  have I1:Inv X pins σ (upd H s.heap.objs.size (.tup [x,y])) { s with heap:=g'}:=I.turnedN (t':=s.toks) hf kk (Nat.le_refl _) new
  obtain ⟨oc,ec,rc⟩:=g3
  obtain ⟨od,ed,rd⟩:=g4
  refine ⟨.ref s.heap.objs.size,_,I1,rfl,⟨s.heap.objs.size,x,y,rfl,I.hok.fresh (Nat.le_refl _),rfl,fun zs hzs=>by rw [I.list_inj hzs hxs];exact hx,fun zs hzs=>by rw [I.list_inj hzs hys];exact hy⟩,
   ⟨z',sb.extBut _ _ D.TIz (g7 p _ D.TIz D.TITO D.TIi1 D.TIi2 hp),⟨u,v,sb.extBut _ _ D.TOz g2⟩,⟨oc,sb.extBut _ _ D.i1z ec,rc⟩,⟨od,sb.extBut _ _ D.i2z ed,rd⟩⟩,fun b hb=>?_⟩
  have hbn:=(hf b hb).1
  have:b≠s.heap.objs.size:=by
   have st0:∀ b∈[z,p,q,c,d],b < s.heap.objs.size:=by
    intro b hb
    simp only [List.mem_cons,List.not_mem_nil,or_false] at hb
    rcases hb with rfl|rfl|rfl|rfl|rfl
    ·exact Heap.lt_size hz
    ·exact Heap.lt_size hp
    ·exact Heap.lt_size hq
    ·obtain ⟨_,e,_⟩:=h1;exact Heap.lt_size e
    ·obtain ⟨_,e,_⟩:=h2;exact Heap.lt_size e
   exact Nat.ne_of_lt (st0 b hb)
  rw [jqb this];exact hbn
 done:=by
  intro X hP hw hK hc i pins s σ H E I hf st hg
  subst hP hw hK
  obtain ⟨hz,hp,⟨u0,v0,hq⟩,h1,h2⟩:=st
  obtain ⟨xs,ys,hxs,hys,hl⟩:=hg
  obtain ⟨its,rv,pa,za⟩:=I.list hxs
  obtain ⟨jts,rw',pb,zb⟩:=I.list hys
  have hlen:=rv.length
  refine wpAny_pyNext_zip_end (I.ok.hd hc) D hz hp hq h1 h2 pa.isList pb.isList (.inl (by simp;omega)) fun g kg=>⟨rfl,I.turnedL (t':=s.toks) hf fun b u hb e=>?_⟩
  simp only [List.mem_cons,List.not_mem_nil,or_false,not_or] at hb
  exact kg b u hb.1 hb.2.2.1 hb.2.2.2.1 hb.2.2.2.2 e
 self:=fun _ _ _ _ _ st h=>wpAny_pyIter_zip st.1 h
def jmv (K:PySem.W.Frag) (ta tb:TE):TI:=fun σ H R=>ta σ H fun x H1=>tb σ H1 fun y H2=>∃ a b xs ys,[x,y]=[V.ref a,V.ref b]∧SqL K H2 a xs∧SqL K H2 b ys∧R (ItzL K a b) H2
section
variable {X:Cx} {es:List Expr} {x1:Nat} {tp:Pos}
theorem jme {l r:Expr} {ta tb:TE} {np pos:Pos} (hg:Gl X "zip") (hm:X.mg "zip"=none) (ha:PE X l ta) (hb:PE X r tb) (he:starEach [l,r] X.env=[(false,eval l X.env),(false,eval r X.env)]:=by rfl) (he2:starEach [r] X.env=[(false,eval r X.env)]:=by rfl) :
  PI X (.Tuple es x1 tp) (.Call (.Name "zip" np) [l,r] [] pos) (jmv X.K ta tb):=by
 intro pins s σ H R I h
 refine wpAny_Call_Name_kw (jvs I hg hm js2 ?_)
 have h2:starEach (r :: []) X.env=(false,eval r X.env) :: starEach [] X.env:=he2
 have h1:starEach (l :: [r]) X.env=(false,eval l X.env) :: starEach [r] X.env:=by rw [he,he2]
 refine PyProof.Rows.callWith_type1 (thn ((jq0 ha (jq0 hb jq4 h2) h1:PA X [l,r] (jq3 ta (jq3 tb tNil))) pos pins s σ H (fun vs H2=>∃ a b xs ys,vs=[V.ref a,V.ref b]∧SqL X.K H2 a xs∧SqL X.K H2 b ys∧R (ItzL X.K a b) H2) I h) fun us s1 ⟨vs,H1,I1,r1,q1⟩=>?_) h1 (by rw [he2];rfl)
 obtain ⟨a,b,xs,ys,rfl,hxs,hys,q⟩:=q1
 obtain ⟨u,v,rfl,ru,rv⟩:=Vals.two r1
 cases ru
 cases rv
 obtain ⟨its,rva,pa,_⟩:=I1.list hxs
 obtain ⟨jts,rvb,pb,_⟩:=I1.list hys
 refine call_zip_2 pa.isList pb.isList fun g g1 g2 g3 g4 g5 g6 g7=>?_
 have hla:a < s1.heap.objs.size:=by obtain ⟨_,e,_⟩:=pa.isList;exact Heap.lt_size e
 have hlb:b < s1.heap.objs.size:=by obtain ⟨_,e,_⟩:=pb.isList;exact Heap.lt_size e
 generalize en:s1.heap.objs.size=n at *
 refine wpAny_pyIter_zip g1 ?_
 refine ⟨n+4,[n+4,n+2,n+3,n,n+1],_,_,H1,rfl,I1.kept (t':=s1.toks) g7,jdi (PyProof.Rows.zipApart_new hla hlb),⟨g1,g2,⟨_,_,g3⟩,g4,g5⟩,fun c hc=>?_,q⟩
 have:s1.heap.objs.size≤c:=by
  simp only [List.mem_cons,List.not_mem_nil,or_false] at hc
  rw [en]
  rcases hc with e|e|e|e|e<;>rw [e]
  ·exact Nat.le_add_right n 4
  ·exact Nat.le_add_right n 2
  ·exact Nat.le_add_right n 3
  ·exact Nat.le_refl n
  ·exact Nat.le_add_right n 1
 exact I1.fpOk this (I1.hok.fresh this)
end
end L2
namespace PySem
open AutoSeq1 (wpAny_loadPart')
section
variable {prog:Program} {w:World} {A:Around} {E:Value→Shared→Prop} {s:Shared}
theorem jmy {e c t:Addr} {j:Nat} {xs:Array Value} {x old:Value} {Q:Value→Shared→Prop} (he:IsEnum s.heap e c j old) (hc:s.heap.IsTupleIter c t j) (ht:s.heap.IsTuple t xs) (hx:xs[j]?=some x) (hne:e≠c)
  (hQ:∀ g,IsEnumOut g e c ((j:Int)+1) x s.heap.objs.size→g.IsTupleIter c t (j+1)→g.get? s.heap.objs.size=some { cls:=.type "tuple",data:=.seq #[.int j s.toks,x]}→g.objs.size=s.heap.objs.size+1→
   (∀ b o,b≠e→b≠c→s.heap.get? b=some o→g.get? b=some o)→Q (.ref s.heap.objs.size) { s with heap:=g,toks:=s.toks+1}) :
  wpAny (model prog w) A (Builtin.«enumerate.__next__» ⟨[.ref e],[]⟩) (fun fin s'=>∃ v,fin=.done (.ret v)∧Q v s') E s:=by
 obtain ⟨hp,gg,d,tk,os⟩:=s
 show wpAny _ _ (field (.ref e) 2 >>= _) _ _ _
 refine wpAny_bind (wpAny_field he rfl (x:=.ref c) rfl ?_)
 refine wpAny_bind (jim hc ht hx fun g1 c1 e1=>?_)
 replace e1:Heap.SameBut c hp g1:=e1
 have r1:IsEnum g1 e c j old:=(e1.2 e hne).trans he
 show wpAny _ _ (field (.ref e) 3 >>= _) _ _ ⟨g1,gg,d,tk,os⟩
 refine wpAny_bind (wpAny_field r1 rfl (x:=rawInt j) rfl ?_)
 show wpAny _ _ (field (.ref e) 4 >>= _) _ _ ⟨g1,gg,d,tk,os⟩
 refine wpAny_bind (wpAny_field r1 rfl (x:=.none) rfl ?_)
 show wpAny _ _ (mkInt j >>= _) _ _ ⟨g1,gg,d,tk,os⟩
 refine wpAny_bind (wpAny_mkInt ?_)
 show wpAny _ _ (setField (.ref e) 3 (rawInt ((j:Int)+1)) >>= _) _ _ ⟨g1,gg,d,tk+1,os⟩
 refine wpAny_bind (wpAny_setField_rec r1 (by simp) fun g2 r2 e2=>?_)
 replace e2:Heap.SameBut e g1 g2:=e2
 replace r2:IsEnum g2 e c ((j:Int)+1) old:=r2
 show wpAny _ _ (setField (.ref e) 4 .none >>= _) _ _ ⟨g2,gg,d,tk+1,os⟩
 refine wpAny_bind (wpAny_setField_rec r2 (by simp) fun g3 r3 e3=>?_)
 replace e3:Heap.SameBut e g2 g3:=e3
 replace r3:IsEnum g3 e c ((j:Int)+1) old:=r3
 show wpAny _ _ (newTuple [.int j tk,x] >>= _) _ _ ⟨g3,gg,d,tk+1,os⟩
 refine wpAny_bind (wpAny_newTuple ?_)
 have r4:IsEnum (g3.push { cls:=.type "tuple",data:=.seq #[.int j tk,x]}) e c ((j:Int)+1) old:=Heap.get?_push_of_some _ r3
 generalize q4:g3.push { cls:=.type "tuple",data:=.seq #[.int j tk,x]}=g4 at r4
 have sz:g3.objs.size=hp.objs.size:=by rw [e3.1,e2.1,e1.1]
 have el:e < hp.objs.size:=Heap.lt_size he
 have t4:g4.get? hp.objs.size=some { cls:=.type "tuple",data:=.seq #[.int j tk,x]}:=by rw [← q4,← sz];exact Heap.get?_push_size _ rfl
 have n4:g4.objs.size=hp.objs.size+1:=by rw [← q4,Heap.size_push,sz]
 have k4:∀ b o,b≠e→b≠c→hp.get? b=some o→g4.get? b=some o:=fun b o hb1 hb2 hb=>by rw [← q4];exact Heap.get?_push_of_some _ (e3.extBut b o hb1 (e2.extBut b o hb1 (e1.extBut b o hb2 hb)))
 have c4:g4.IsTupleIter c t (j+1):=by
  rw [← q4]
  obtain ⟨o,ho,r⟩:=(c1.extBut e2.extBut (Ne.symm hne)).extBut e3.extBut (Ne.symm hne)
  exact ⟨o,Heap.get?_push_of_some _ ho,r⟩
 show wpAny _ _ (Builtin.SmallTypes.ownedTupleIsFree (.ref e) >>= _) _ _ ⟨g4,gg,d,tk+1,os⟩
 rw [sz]
 clear q4 r3 e3 r2 e2 r1 e1 c1 sz g3 g2 g1
 refine wpAny_bind ?_
 ·unfold Builtin.SmallTypes.ownedTupleIsFree
  refine wpAny_bind (wpAny_field r4 rfl (x:=.none) rfl (wpAny_pure ?_))
  simp only [if_true]
  refine wpAny_bind (wpAny_rule ?_)
  refine wpAny_bind (wpAny_field r4 rfl (x:=old) rfl ?_)
  refine wpAny_bind (wpAny_setField_rec r4 (by simp) fun g5 r5 e5=>?_)
  replace e5:Heap.SameBut e g4 g5:=e5
  replace r5:IsEnum g5 e c ((j:Int)+1) x:=r5
  show wpAny _ _ (Builtin.SmallTypes.ownedTupleHandOut (.ref e) (.ref hp.objs.size) >>= _) _ _ ⟨g5,gg,d,tk+1,os⟩
  refine wpAny_bind ?_
  ·unfold Builtin.SmallTypes.ownedTupleHandOut
   refine wpAny_bind (wpAny_setField_rec r5 (by simp) fun g6 r6 e6=>?_)
   replace e6:Heap.SameBut e g5 g6:=e6
   replace r6:IsEnumOut g6 e c ((j:Int)+1) x hp.objs.size:=r6
   refine wpAny_setField_rec r6 (by simp) fun g7 r7 e7=>?_
   replace e7:Heap.SameBut e g6 g7:=e7
   replace r7:IsEnumOut g7 e c ((j:Int)+1) x hp.objs.size:=r7
   refine wpAny_bind (wpAny_letGo (wpAny_pure ⟨_,rfl,hQ g7 r7 ?_ ?_ ?_ ?_⟩))
   ·exact ((c4.extBut e5.extBut (Ne.symm hne)).extBut e6.extBut (Ne.symm hne)).extBut e7.extBut (Ne.symm hne)
   ·exact e7.extBut _ _ (Nat.ne_of_gt el) (e6.extBut _ _ (Nat.ne_of_gt el) (e5.extBut _ _ (Nat.ne_of_gt el) t4))
   ·rw [e7.1,e6.1,e5.1,n4]
   ·exact fun b o hb1 hb2 hb=>e7.extBut b o hb1 (e6.extBut b o hb1 (e5.extBut b o hb1 (k4 b o hb1 hb2 hb)))
theorem jfm {e c t:Addr} {j:Nat} {xs:Array Value} {x old:Value} {Q:Option Value→Shared→Prop} (he:IsEnum s.heap e c j old) (hc:s.heap.IsTupleIter c t j) (ht:s.heap.IsTuple t xs) (hx:xs[j]?=some x) (hne:e≠c)
  (hQ:∀ g,IsEnumOut g e c ((j:Int)+1) x s.heap.objs.size→g.IsTupleIter c t (j+1)→g.get? s.heap.objs.size=some { cls:=.type "tuple",data:=.seq #[.int j s.toks,x]}→g.objs.size=s.heap.objs.size+1→
   (∀ b o,b≠e→b≠c→s.heap.get? b=some o→g.get? b=some o)→Q (some (.ref s.heap.objs.size)) { s with heap:=g,toks:=s.toks+1}):wpAny (model prog w) A (pyNext (.ref e)) Q E s:=by
 have hT:s.TypeIs (.ref e) "enumerate":=⟨_,he,rfl⟩
 unfold pyNext
 exact wpAny_bind (wpAny_attempt (wpAny_callSpecial?_slot (name:=Str.ofString "__next__") hT F.slot_enumerate_next (wpAny_call_entry F.slot_enumerate_next hT F.entry_enumerate_next (jmy he hc ht hx hne fun g a b c d k=>wpAny_pure (hQ g a b c d k)) (F.args_enumerate_next_1 _))))
theorem jhb {e c t:Addr} {j:Nat} {xs:Array Value} {old:Value} {Q:Option Value→Shared→Prop} (hh:A.handled=none) (he:IsEnum s.heap e c j old) (hc:s.heap.IsTupleIter c t j) (ht:s.heap.IsTuple t xs) (hx:xs[j]?=none)
  (hQ:∀ g,Heap.ExtBut c s.heap g→Q none { s with heap:=g}):wpAny (model prog w) A (pyNext (.ref e)) Q E s:=by
 have hT:s.TypeIs (.ref e) "enumerate":=⟨_,he,rfl⟩
 unfold pyNext
 refine wpAny_bind (wpAny_attempt (wpAny_callSpecial?_slot (name:=Str.ofString "__next__") hT F.slot_enumerate_next (wpAny_call_entry F.slot_enumerate_next hT F.entry_enumerate_next ?_ (F.args_enumerate_next_1 _))))
 show wpAny _ _ (field (.ref e) 2 >>= _) _ _ _
 refine wpAny_bind (wpAny_field he rfl (x:=.ref c) rfl ?_)
 refine wpAny_bind (jil hh hc ht hx fun g y he' hy=>?_)
 obtain ⟨o,ho,hcl⟩:=hy
 exact wpAny_bind (wpAny_isInstance (T:="StopIteration") (b:=true) ⟨o,ho,hcl⟩ isSubtype_stop (wpAny_pure (hQ _ he')))
end
theorem jhc (t:Addr) (o:Obj) (xs:Array Value) (hcls:o.cls=.type "tuple") (n:Nat) (hdat:o.data=.seq xs n) :
  Meets (Builtin.«enumerate.__new__» ⟨[.type "enumerate",.ref t],[]⟩) (fun _ R s=>s.heap.get? t=some o∧
   R (.ok (.ret (.ref (s.heap.push { cls:=.type "tuple_iterator",data:=.fields #[.ref t,.int 0 0]}).objs.size)))
    { s with heap:=(s.heap.push { cls:=.type "tuple_iterator",data:=.fields #[.ref t,.int 0 0]}).push { cls:=.type "enumerate",data:=.fields #[.none,.bool false,.ref s.heap.objs.size,rawInt 0,.none,.none]}}):=
 .of_wp fun prog w A R s h=>by
  obtain ⟨hp,g,d,tk,os⟩:=s;obtain ⟨hl,h⟩:=h
  obtain ⟨oc,od,oda,osl⟩:=o
  cases hcls
  cases hdat
  have hsub:=sub_enumerate
  have hL:Heap.IsTuple (Shared.heap ⟨hp,g,d,tk,os⟩) t xs:=⟨_,hl,rfl,n,rfl⟩
  wp_walk using wpAny_loadPart' hl
  refine wpAny_stack_any fun st=>wpAny_pure ?_
  split
  ·rename_i c _ _ _ _ _
   cases (c == Value.type "enumerate")
   ·wp_walk using wpAny_loadPart' hl,wpAny_pyIter_tuple hL
    exact ⟨_,rfl,h⟩
   ·wp_walk using wpAny_loadPart' hl,wpAny_pyIter_tuple hL
    exact ⟨_,rfl,h⟩
  ·wp_walk using wpAny_loadPart' hl,wpAny_pyIter_tuple hL
   exact ⟨_,rfl,h⟩
section
variable {prog:Program} {w:World} {A:Around} {E:Value→Shared→Prop} {s:Shared}
theorem jmz {t:Addr} {xs:Array Value} {Q:Value→Shared→Prop} (ht:s.heap.IsTuple t xs)
  (h:∀ g n,n=s.heap.objs.size→IsEnum g (n+1) n 0 .none→g.IsTupleIter n t 0→g.objs.size=n+2→(∀ c o,s.heap.get? c=some o→g.get? c=some o)→Q (.ref (n+1)) { s with heap:=g}):wpAny (model prog w) A (call (.type "enumerate") [.ref t]) Q E s:=by
 obtain ⟨o,ho,hc,n,hd⟩:=ht
 refine callType_new F.called_enumerate (by decide) (F.typeCall_enumerate_1 _) (F.newCall_enumerate_1 _) (fun obj=>F.args_object_init_2 obj _) F.entry_enumerate_new (jhc t o xs hc n hd) ⟨ho,?_⟩
 have z1:(s.heap.push { cls:=.type "tuple_iterator",data:=.fields #[.ref t,.int 0 0]}).objs.size=s.heap.objs.size+1:=Heap.size_push ..
 show _∧_
 have g2:((s.heap.push { cls:=.type "tuple_iterator",data:=.fields #[.ref t,.int 0 0]}).push { cls:=.type "enumerate",data:=.fields #[.none,.bool false,.ref s.heap.objs.size,rawInt 0,.none,.none]}).get? (s.heap.push { cls:=.type "tuple_iterator",data:=.fields #[.ref t,.int 0 0]}).objs.size=some _:=Heap.get?_push_size _ rfl
 rw [z1] at g2 ⊢
 exact ⟨⟨_,g2,rfl⟩,h _ _ rfl g2 ⟨_,Heap.get?_push_of_some _ (Heap.get?_push_size _ rfl),rfl,rfl⟩ (by rw [Heap.size_push,z1]) fun c o e=>Heap.get?_push_of_some _ (Heap.get?_push_of_some _ e)⟩
end
end PySem
namespace L2
open PySem PySem.Spec PyProof.Rows
def Ite (K:PySem.W.Frag) (a:Addr):It:=
  ⟨fun i H=>∃ xs x,SqT K H a xs∧xs[i]?=some x,
   fun i H v H'=>∃ p x,v=.ref p∧H p=none∧H'=upd H p (.tup [.int i,x])∧∀ xs,SqT K H a xs→xs[i]?=some x,
   fun i H=>∃ xs,SqT K H a xs∧xs.length≤i⟩
theorem jdk {P:Program} {w:World} {K:PySem.W.Frag} {es:List Expr} {x1} {pos:Pos} {e c a:Addr} (hne:e≠c):Turn P w K (.Tuple es x1 pos) (Ite K a) [e,c] e
  (fun i h=>(∃ old,IsEnum h e c i old)∧h.IsTupleIter c a i) where
 mem:=by simp
 obj:=fun i h st b hb=>by
  obtain ⟨⟨old,he⟩,⟨oc,ec,_,dc⟩⟩:=st
  simp only [List.mem_cons,List.not_mem_nil,or_false] at hb
  rcases hb with rfl|rfl
  ·exact ⟨_,he,fun v e=>by cases (show Data.fields _=Data.cell v from e)⟩
  ·exact ⟨oc,ec,fun v e=>by rw [dc] at e;cases e⟩
 keep:=fun i h h' st k=>by
  obtain ⟨⟨old,he⟩,⟨oc,ec,rc⟩⟩:=st
  exact ⟨⟨old,k e (by simp) _ he⟩,⟨oc,k c (by simp) _ ec,rc⟩⟩
 item:=by
  intro X hP hw hK hc i pins s σ H E I hf st hg
  subst hP hw hK
  obtain ⟨⟨old,he⟩,h1⟩:=st
  obtain ⟨xs,x,hxs,hx⟩:=hg
  obtain ⟨its,rv,pa,za⟩:=I.tuple hxs
  obtain ⟨u,hu,ru⟩:=rv.get hx
  have cl:c < s.heap.objs.size:=by obtain ⟨_,e,_⟩:=h1;exact Heap.lt_size e
  refine jfm he h1 (show s.heap.IsTuple a its.toArray from pa) (x:=u) (by simpa using hu) hne fun g g1 g2 g3 g4 g5=>?_
  refine ⟨_,rfl,wpAny_letOwnedTupleGo_enum g1 fun g' z' sb=>?_⟩
  replace sb:Heap.SameBut e g g':=sb
  have zl:e < s.heap.objs.size:=Heap.lt_size he
  have kk:∀ b u,b∉[e,c]→s.heap.get? b=some u→g'.get? b=some u:=fun b u hb ee=>by
   simp only [List.mem_cons,List.not_mem_nil,or_false,not_or] at hb
   exact sb.extBut _ _ hb.1 (g5 b u hb.1 hb.2 ee)
  have pT:g'.get? s.heap.objs.size=some { cls:=.type "tuple",data:=.seq #[.int i s.toks,u]}:=sb.extBut _ _ (Nat.ne_of_gt zl) g3
  have new:ObjOk X.prog X.w (upd H s.heap.objs.size (.tup [.int i,x])) g' s.heap.objs.size (.tup [.int i,x]):=⟨(by show 2≤sizeLine;rw [sizeLine_eq];decide),[.int i s.toks,u],.cons ⟨_,rfl⟩ (.cons ru .nil),_,pT,rfl,_,rfl⟩
  have I1:Inv X pins σ (upd H s.heap.objs.size (.tup [.int i,x])) { s with heap:=g',toks:=s.toks+1}:=I.turnedN (t':=s.toks+1) hf kk (Nat.le_refl _) new
  obtain ⟨oc,ec,rc⟩:=g2
  refine ⟨.ref s.heap.objs.size,_,I1,rfl,⟨s.heap.objs.size,x,rfl,I.hok.fresh (Nat.le_refl _),rfl,fun zs hzs=>by rw [I.tuple_inj hzs hxs];exact hx⟩,
   ⟨⟨_,z'⟩,⟨oc,sb.extBut _ _ (Ne.symm hne) ec,rc⟩⟩,fun b hb=>?_⟩
  have hbn:=(hf b hb).1
  have:b≠s.heap.objs.size:=by
   simp only [List.mem_cons,List.not_mem_nil,or_false] at hb
   rcases hb with rfl|rfl
   ·exact Nat.ne_of_lt zl
   ·exact Nat.ne_of_lt cl
  rw [jqb this];exact hbn
 done:=by
  intro X hP hw hK hc i pins s σ H E I hf st hg
  subst hP hw hK
  obtain ⟨⟨old,he⟩,h1⟩:=st
  obtain ⟨xs,hxs,hl⟩:=hg
  obtain ⟨its,rv,pa,za⟩:=I.tuple hxs
  have hlen:=rv.length
  refine jhb (I.ok.hd hc) he h1 (show s.heap.IsTuple a its.toArray from pa) (by simp;omega) fun g kg=>⟨rfl,I.turnedL (t':=s.toks) hf fun b u hb ee=>?_⟩
  simp only [List.mem_cons,List.not_mem_nil,or_false,not_or] at hb
  exact kg b u hb.2 ee
 self:=fun _ _ _ _ _ st h=>by obtain ⟨⟨_,he⟩,_⟩:=st;exact wpAny_pyIter_enum he h
def jrr (K:PySem.W.Frag) (ta:TE):TI:=fun σ H R=>ta σ H fun x H1=>∃ a xs,[x]=[V.ref a]∧SqT K H1 a xs∧R (Ite K a) H1
theorem jav:bootBuiltins "enumerate"=some (.type "enumerate"):=by decide+kernel
section
variable {X:Cx} {es:List Expr} {x1:Nat} {tp:Pos}
theorem jmf {l:Expr} {ta:TE} {np pos:Pos} (hg:Gl X "enumerate") (hm:X.mg "enumerate"=none) (ha:PE X l ta) (he:starEach [l] X.env=[(false,eval l X.env)]:=by rfl) :
  PI X (.Tuple es x1 tp) (.Call (.Name "enumerate" np) [l] [] pos) (jrr X.K ta):=by
 intro pins s σ H R I h
 refine wpAny_Call_Name_kw (jvs I hg hm jav ?_)
 have h1:starEach (l :: []) X.env=(false,eval l X.env) :: starEach [] X.env:=he
 refine PyProof.Rows.callWith_type1 (thn ((jq0 ha jq4 h1:PA X [l] (jq3 ta tNil)) pos pins s σ H (fun vs H2=>∃ a xs,vs=[V.ref a]∧SqT X.K H2 a xs∧R (Ite X.K a) H2) I h) fun us s1 ⟨vs,H1,I1,r1,q1⟩=>?_) h1 (by rfl)
 obtain ⟨a,xs,rfl,hxs,q⟩:=q1
 obtain ⟨u,rfl,ru⟩:=Vals.one r1
 cases ru
 obtain ⟨its,rva,pa,_⟩:=I1.tuple hxs
 refine jmz (show s1.heap.IsTuple a its.toArray from pa) fun g n en g1 g2 g3 g4=>?_
 refine wpAny_pyIter_enum g1 ?_
 refine ⟨n+1,[n+1,n],_,_,H1,rfl,I1.kept (t':=s1.toks) g4,jdk (a:=a) (Nat.succ_ne_self n),⟨⟨_,g1⟩,g2⟩,fun c hc=>?_,q⟩
 have:s1.heap.objs.size≤c:=by
  simp only [List.mem_cons,List.not_mem_nil,or_false] at hc
  rw [← en]
  rcases hc with e|e<;>rw [e]
  ·exact Nat.le_add_right n 1
  ·exact Nat.le_refl n
 exact I1.fpOk this (I1.hok.fresh this)
end
end L2
namespace L2
open PySem PySem.Spec PyProof.Rows
abbrev TJ:=St→Hp→(Hp→Prop)→Prop
def jng:TJ:=fun σ H Q=>Q H
def jga (ta:TE) (tj:TJ):TJ:=fun σ H Q=>ta σ H fun v H1=>((∃ y:Str,v=.str y∧y.length≤3000)∨∃ i:Int,v=.int i∧i.natAbs.log2 < 1920)∧tj σ H1 Q
def tFSN (tj:TJ):TE:=fun σ H Q=>tj σ H fun H1=>∀ z,Q (.str z) H1
def PJ (X:Cx) (es:List Expr) (n:Nat) (tj:TJ):Prop:=∀ (out:Str) (pins:List (Addr×Obj)) (s:Shared) (σ:St) (H:Hp) (Q:VK),out.length+3000 * n≤sizeLine→Inv X pins σ H s→tFSN tj σ H Q→
 wpAny (model X.prog X.w) X.A (joinParts out (evalEach es X.env)) (EP X pins σ Q) X.xe s
section
variable {X:Cx}
theorem jpu:PJ X [] 0 jng:=fun out pins s σ H Q hz I h=>joinParts_nilE (joinParts_nil ⟨.str out,H,I.tok _,⟨_,rfl⟩,h out⟩ (by omega))
theorem jc3 {x:Str} {j:Nat} {p:Pos} {es:List Expr} {n:Nat} {tj:TJ} (hj:PJ X es n tj) (hx:Nat.ble x.length 3000=true:=by decide+kernel):PJ X (.Constant (.str x) j p :: es) (n+1) tj:=fun out pins s σ H Q hz I h=>by
 have hx:=Nat.le_of_ble_eq_true hx
 refine joinParts_consE (joinParts_cons (Calls.Constant_str ⟨?_,hj _ pins _ σ H Q ?_ (I.tok _) h⟩))
 ·rw [strLen_append];omega
 ·rw [strLen_append];omega
theorem jev {e:Expr} {p:Pos} {es:List Expr} {n:Nat} {ta:TE} {tj:TJ} (he:PE X e ta) (hj:PJ X es n tj):PJ X (.FormattedValue e (-1) none p :: es) (n+1) (jga ta tj):=fun out pins s σ H Q hz I h=>by
 refine joinParts_consE (joinParts_cons (FormattedValue_plain (thn (he pins _ σ H _ I h) fun v s1 ⟨y,H1,I1,r,hv,q⟩=>?_)))
 rcases hv with ⟨y,rfl,hy⟩|⟨i,rfl,hi⟩
 ·obtain ⟨tk,rfl⟩:=r
  refine formatField_str (fun t' tk'=>?_) (by omega)
  refine ⟨by rw [strLen_append];omega,hj _ pins _ σ H1 Q (by rw [strLen_append];omega) (I1.tok _) q⟩
 ·obtain ⟨tk,rfl⟩:=r
  have hl:(Str.ofString (toString i)).length≤1921:=by rw [PySem.ofString_length];exact int_text_length_le (by decide) hi
  refine formatField_int_small hi ?_
  refine ⟨by rw [strLen_append];show _+(Str.ofString (toString i)).length≤_;omega,hj _ pins _ σ H1 Q (by rw [strLen_append];show _+(Str.ofString (toString i)).length+_≤_;omega) (I1.tok _) q⟩
theorem jpz {e1 e2:Expr} {es:List Expr} {p:Pos} {n:Nat} {tj:TJ} (hj:PJ X (e1 :: e2 :: es) n tj) (hn:Nat.ble n 20=true:=by decide):PE X (.JoinedStr (e1 :: e2 :: es) p) (tFSN tj):=fun pins s σ H Q I h=>by
 have hn:=Nat.le_of_ble_eq_true hn
 refine JoinedStr_many (hj Str.empty pins s σ H Q ?_ I h)
 rw [sizeLine_eq];show 0+_≤_;omega
end
end L2
namespace PySem
open AutoSeq1
theorem ext_tup (l:Addr) (items:Array Value) (n:Nat) (b:Addr) (o:Obj) (items2:Array Value) (n2:Nat) (hcls:o.cls=.type "tuple") (hdat:o.data=.seq items2 n2) (hs0:¬(!items.isEmpty && Builtin.List.listTooLong (items.size+items2.size))=true) (hs1:items.size≤sizeLine) (hs2:items.size+items2.size≤sizeLine+1) :
  Meets (Builtin.«list.extend» ⟨[.ref l,.ref b],[]⟩) (fun _ R s=>s.heap.get? l=some { cls:=.type "list",dict:=none,data:=.seq items n,slots:=#[]}∧s.heap.get? b=some o∧R (.ok (.ret Value.none)) { s with heap:=s.heap.update l (Obj.mapSeq fun x=>x++items2),toks:=s.toks}):=
 .of_wp fun prog w A R s h=>by
  obtain ⟨hp,g,d,tk,os⟩:=s;obtain ⟨hl,hb,h⟩:=h;have f1:=idx_int;have f2:=sub_tuple_tuple;have f3:=sub_list_list;have f4:=sub_tuple_list;have f5:=sub_list_tuple
  obtain ⟨oc,od,oda,osl⟩:=o
  cases hcls
  cases hdat
  have hz':(items++items2).size≤sizeLine+1:=by rw [Array.size_append];exact hs2
  wp_walk using (wpAny_updateSeq hl rfl (hz:=hs1) (_hz':=hz')),wpAny_loadPart' hl,wpAny_loadPart' hb
  exact ⟨_,rfl,h⟩
end PySem
namespace L2
open PySem PySem.Spec PyProof.Rows
section
variable {X:Cx}
def jc0:V→List V→Hp→VK→Prop:=fun x vs H Q=>∃ l b xs zs,x=.ref l∧vs=[.ref b]∧H l=some (.lst xs)∧H b=some (.tup zs)∧xs.length+zs.length≤sizeLine∧Q .non (upd H l (.lst (xs++zs)))
theorem jcx:MtM X "list.extend" jc0:=by
 intro pins s σ H x vs v us Q I rx rv h
 obtain ⟨l,b,xs,zs,rfl,rfl,hH,hB,hz,q⟩:=h
 cases rx
 obtain ⟨u,rfl,ru⟩:=rv.one
 cases ru
 obtain ⟨z,its,n,r,hl,e⟩:=I.lstM hH
 obtain ⟨z2,its2,r2,o,e2,hc,n2,hd⟩:=(show ObjOk X.prog X.w H s.heap b (.tup zs) from I.hok b _ hB)
 have hl2:=r2.length
 have hsz:its.toArray.size+its2.toArray.size≤sizeLine:=by rw [List.size_toArray,List.size_toArray];omega
 have hlong:¬ (!its.toArray.isEmpty && Builtin.List.listTooLong (its.toArray.size+its2.toArray.size))=true:=by
  rw [jca hsz,Bool.and_false]
  exact Bool.false_ne_true
 refine call_meets F.slot_list_extend ⟨_,e,rfl⟩ F.entry_list_extend (F.args_list_extend_2 _ _)
  (PySem.ext_tup l its.toArray n b o its2.toArray n2 hc hd hlong (by rw [List.size_toArray];omega) (by omega)) ⟨e,e2,?_⟩
 refine ⟨.non,_,I.lset (its':=its++its2) hH e (by simp) (r.append r2) ?_,rfl,q⟩
 rw [List.length_append]
 omega
end
end L2
namespace S9
open PySem L2 SW
inductive G where
 | leaf (k:Str) (x:V)
 | plain (k:Str) (ks:List G)
 | word (k w:Str) (ks:List G)
def G.kids:G→List G
 | .leaf _ _=>[]
 | .plain _ ks=>ks
 | .word _ _ ks=>ks
def G.hd:G→List V
 | .leaf k x=>[.str k,x]
 | .plain k _=>[.str k]
 | .word k w _=>[.str k,.str w]
def G.kind:G→Str
 | .leaf k _=>k
 | .plain k _=>k
 | .word k _ _=>k
def G.ok:G→Prop
 | .leaf k _=>k="number"∨k="name"
 | .plain k _=>k≠"number"∧k≠"name"∧k≠"let"∧k≠"stamp"
 | .word k w _=>k="let"∨k="stamp"
inductive DG (H:Hp):G→V→Prop where
 | mk {g:G} {p:Addr} {us:List V}:g.ok→H p=some (.tup (g.hd++us))→us.length=g.kids.length→(∀ (i:Nat) (k:G) (u:V),g.kids[i]?=some k→us[i]?=some u→DG H k u)→DG H g (.ref p)
def DGs (H:Hp) (gs:List G) (us:List V):Prop:=us.length=gs.length∧∀ (i:Nat) (k:G) (u:V),gs[i]?=some k→us[i]?=some u→DG H k u
theorem DG.mono {H H':Hp} (k:TupLe H H') {g:G} {v:V} (h:DG H g v):DG H' g v:=by
 induction h with
 | mk a b c d ih=>exact .mk a (k _ _ b) c ih
theorem DGs.mono {H H':Hp} (k:TupLe H H') {gs:List G} {us:List V} (h:DGs H gs us):DGs H' gs us:=⟨h.1,fun i a u e1 e2=>(h.2 i a u e1 e2).mono k⟩
theorem DG.open {H:Hp} {g:G} {v:V} (h:DG H g v):∃ p us,v=.ref p∧g.ok∧H p=some (.tup (g.hd++us))∧DGs H g.kids us:=by
 cases h with
 | mk a b c d=>exact ⟨_,_,rfl,a,b,c,d⟩
theorem DGs.nil {H:Hp}:DGs H [] []:=⟨rfl,fun i k u e=>by simp at e⟩
theorem DGs.cons {H:Hp} {g:G} {v:V} {gs:List G} {us:List V} (a:DG H g v) (b:DGs H gs us):DGs H (g :: gs) (v :: us):=by
 refine ⟨by rw [List.length_cons,List.length_cons,b.1],fun i k u e1 e2=>?_⟩
 cases i with
 | zero=>cases e1;cases e2;exact a
 | succ i=>exact b.2 i k u e1 e2
theorem DGs.head {H:Hp} {g:G} {v:V} {gs:List G} {us:List V} (h:DGs H (g :: gs) (v :: us)):DG H g v∧DGs H gs us:=
 ⟨h.2 0 g v rfl rfl,by have:=h.1;rw [List.length_cons,List.length_cons] at this;omega,fun i k u e1 e2=>h.2 (i+1) k u e1 e2⟩
theorem DGs.append {H:Hp} {gs ks:List G} {us vs:List V} (a:DGs H gs us) (b:DGs H ks vs):DGs H (gs++ks) (us++vs):=by
 induction gs generalizing us with
 | nil=>obtain ⟨e,_⟩:=a;cases us with
  | nil=>exact b
  | cons _ _=>cases e
 | cons g gs ih=>
  cases us with
  | nil=>have:=a.1;cases this
  | cons u us=>exact .cons a.head.1 (ih a.head.2)
theorem DGs.snoc {H:Hp} {gs:List G} {us:List V} {u:V} (h:DGs H gs (us++[u])):∃ ks k,gs=ks++[k]∧DGs H ks us∧DG H k u:=by
 have hl:=h.1
 have hne:gs≠[]:=fun e=>by subst e;simp at hl
 obtain ⟨ks,k,rfl⟩:=jxw hne
 have hl2:us.length=ks.length:=by simpa using hl
 refine ⟨ks,k,rfl,⟨hl2,fun i a u' e1 e2=>h.2 i a u' ?_ ?_⟩,h.2 ks.length k u ?_ ?_⟩
 ·rw [List.getElem?_append_left (List.getElem?_eq_some_iff.mp e1).1];exact e1
 ·rw [List.getElem?_append_left (List.getElem?_eq_some_iff.mp e2).1];exact e2
 ·simp
 ·rw [← hl2];simp
def gOf:T→G
 | .num n=>.leaf "number" (.int n)
 | .name w=>.leaf "name" (.str w)
 | .sum a b=>.plain "sum" [gOf a,gOf b]
 | .less a b=>.plain "less" [gOf a,gOf b]
 | .cho a b c=>.plain "choose" [gOf a,gOf b,gOf c]
 | .lt w a b=>.word "let" w [gOf a,gOf b]
 | .st0 w=>.word "stamp" w []
 | .st1 w a=>.word "stamp" w [gOf a]
 | .st2 w a b=>.word "stamp" w [gOf a,gOf b]
theorem jjk {H:Hp}:∀ {t:T} {v:V},Den H t v→DG H (gOf t) v
 | .num _,_,⟨p,e,h⟩=>by subst e;exact .mk (us:=[]) (.inl rfl) h rfl fun i k u e=>by simp [G.kids,gOf] at e
 | .name _,_,⟨p,e,h⟩=>by subst e;exact .mk (us:=[]) (.inr rfl) h rfl fun i k u e=>by simp [G.kids,gOf] at e
 | .sum _ _,_,⟨p,x,y,e,h,a,b⟩=>by
  subst e
  have d:=DGs.cons (jjk a) (.cons (jjk b) .nil)
  exact .mk (us:=[x,y]) ⟨by decide+kernel,by decide+kernel,by decide+kernel,by decide+kernel⟩ h rfl d.2
 | .less _ _,_,⟨p,x,y,e,h,a,b⟩=>by
  subst e
  have d:=DGs.cons (jjk a) (.cons (jjk b) .nil)
  exact .mk (us:=[x,y]) ⟨by decide+kernel,by decide+kernel,by decide+kernel,by decide+kernel⟩ h rfl d.2
 | .cho _ _ _,_,⟨p,x,y,z,e,h,a,b,c⟩=>by
  subst e
  have d:=DGs.cons (jjk a) (.cons (jjk b) (.cons (jjk c) .nil))
  exact .mk (us:=[x,y,z]) ⟨by decide+kernel,by decide+kernel,by decide+kernel,by decide+kernel⟩ h rfl d.2
 | .lt _ _ _,_,⟨p,x,y,e,h,a,b⟩=>by
  subst e
  have d:=DGs.cons (jjk a) (.cons (jjk b) .nil)
  exact .mk (us:=[x,y]) (.inl rfl) h rfl d.2
 | .st0 _,_,⟨p,e,h⟩=>by subst e;exact .mk (us:=[]) (.inr rfl) h rfl fun i k u e=>by simp [G.kids,gOf] at e
 | .st1 _ _,_,⟨p,x,e,h,a⟩=>by
  subst e
  have d:=DGs.cons (jjk a) DGs.nil
  exact .mk (us:=[x]) (.inr rfl) h rfl d.2
 | .st2 _ _ _,_,⟨p,x,y,e,h,a,b⟩=>by
  subst e
  have d:=DGs.cons (jjk a) (.cons (jjk b) .nil)
  exact .mk (us:=[x,y]) (.inr rfl) h rfl d.2
theorem DGs.two {H:Hp} {a b:G} {us:List V} (h:DGs H [a,b] us):∃ x y,us=[x,y]∧DG H a x∧DG H b y:=by
 obtain ⟨l,d⟩:=h
 match us,l with
 | [x,y],_=>exact ⟨x,y,rfl,d 0 a x rfl rfl,d 1 b y rfl rfl⟩
theorem DGs.three {H:Hp} {a b c:G} {us:List V} (h:DGs H [a,b,c] us):∃ x y z,us=[x,y,z]∧DG H a x∧DG H b y∧DG H c z:=by
 obtain ⟨l,d⟩:=h
 match us,l with
 | [x,y,z],_=>exact ⟨x,y,z,rfl,d 0 a x rfl rfl,d 1 b y rfl rfl,d 2 c z rfl rfl⟩
theorem DGs.one {H:Hp} {a:G} {us:List V} (h:DGs H [a] us):∃ x,us=[x]∧DG H a x:=by
 obtain ⟨l,d⟩:=h
 match us,l with
 | [x],_=>exact ⟨x,rfl,d 0 a x rfl rfl⟩
theorem DGs.none {H:Hp} {us:List V} (h:DGs H [] us):us=[]:=List.length_eq_zero_iff.mp h.1
theorem jzm {H:Hp}:∀ {t:T} {v:V},DG H (gOf t) v→Den H t v
 | .num _,_,d=>by obtain ⟨p,us,rfl,_,h,k⟩:=d.open;cases k.none;exact ⟨p,rfl,h⟩
 | .name _,_,d=>by obtain ⟨p,us,rfl,_,h,k⟩:=d.open;cases k.none;exact ⟨p,rfl,h⟩
 | .sum _ _,_,d=>by obtain ⟨p,us,rfl,_,h,k⟩:=d.open;obtain ⟨x,y,rfl,a,b⟩:=DGs.two k;exact ⟨p,x,y,rfl,h,jzm a,jzm b⟩
 | .less _ _,_,d=>by obtain ⟨p,us,rfl,_,h,k⟩:=d.open;obtain ⟨x,y,rfl,a,b⟩:=DGs.two k;exact ⟨p,x,y,rfl,h,jzm a,jzm b⟩
 | .cho _ _ _,_,d=>by obtain ⟨p,us,rfl,_,h,k⟩:=d.open;obtain ⟨x,y,z,rfl,a,b,c⟩:=DGs.three k;exact ⟨p,x,y,z,rfl,h,jzm a,jzm b,jzm c⟩
 | .lt _ _ _,_,d=>by obtain ⟨p,us,rfl,_,h,k⟩:=d.open;obtain ⟨x,y,rfl,a,b⟩:=DGs.two k;exact ⟨p,x,y,rfl,h,jzm a,jzm b⟩
 | .st0 _,_,d=>by obtain ⟨p,us,rfl,_,h,k⟩:=d.open;cases k.none;exact ⟨p,rfl,h⟩
 | .st1 _ _,_,d=>by obtain ⟨p,us,rfl,_,h,k⟩:=d.open;obtain ⟨x,rfl,a⟩:=DGs.one k;exact ⟨p,x,rfl,h,jzm a⟩
 | .st2 _ _ _,_,d=>by obtain ⟨p,us,rfl,_,h,k⟩:=d.open;obtain ⟨x,y,rfl,a,b⟩:=DGs.two k;exact ⟨p,x,y,rfl,h,jzm a,jzm b⟩
theorem jcd (t:T):(gOf t).kids=t.kids.map gOf:=by cases t<;>rfl
theorem jbk {H:Hp}:∀ {ts:List T} {us:List V},DGs H (ts.map gOf) us→DenL H ts us
 | [],us,h=>by cases h.none;exact .nil
 | t :: ts,[],h=>by have:=h.1;cases this
 | t :: ts,u :: us,h=>.cons (jzm h.head.1) (jbk h.head.2)
end S9
namespace S9
open PySem L2 SW
mutual
def G.size:G→Nat
 | .leaf _ _=>1
 | .plain _ ks=>1+jxu ks
 | .word _ _ ks=>1+jxu ks
def jxu:List G→Nat
 | []=>0
 | k :: ks=>k.size+jxu ks
end
theorem G.size_kids (g:G):g.size=1+jxu g.kids:=by cases g<;>simp [G.size,G.kids,jxu]
theorem jzl (a b:List G):jxu (a++b)=jxu a+jxu b:=by
 induction a with
 | nil=>simp [jxu]
 | cons k ks ih=>rw [List.cons_append,jxu,jxu,ih,Nat.add_assoc]
theorem jvd (g:G):jxu [g]=g.size:=by simp [jxu]
theorem jve (gs:List G):gs.length≤jxu gs:=by
 induction gs with
 | nil=>exact Nat.zero_le _
 | cons g gs ih=>
  have:=g.size_kids
  rw [List.length_cons,jxu];omega
inductive Od:List G→List G→Prop where
 | nil:Od [] []
 | step {s l:List G} {g:G}:Od (s++g.kids) l→Od (s++[g]) (g :: l)
inductive Inn (x:G):G→Prop where
 | refl:Inn x x
 | kid {g k:G}:k∈g.kids→Inn x k→Inn x g
theorem Od.mem {s l:List G} (h:Od s l) (x:G):x∈l↔∃ g∈s,Inn x g:=by
 induction h with
 | nil=>simp
 | @step s l g _ ih=>
  rw [List.mem_cons,ih]
  constructor
  ·rintro (rfl|⟨y,hy,i⟩)
   ·exact ⟨x,by simp,.refl⟩
   ·rcases List.mem_append.mp hy with z|z
    ·exact ⟨y,by simp [z],i⟩
    ·exact ⟨g,by simp,.kid z i⟩
  ·rintro ⟨y,hy,i⟩
   rcases List.mem_append.mp hy with z|z
   ·exact .inr ⟨y,List.mem_append_left _ z,i⟩
   ·rw [List.mem_singleton] at z
    subst z
    cases i with
    | refl=>exact .inl rfl
    | kid hk i=>exact .inr ⟨_,List.mem_append_right _ hk,i⟩
theorem Od.one {g:G} {l:List G} (h:Od [g] l) (x:G):x∈l↔Inn x g:=by rw [h.mem];simp
def jzj:Sp:=fun vs H Q _=>∃ g v,vs=[v]∧DG H g v∧∀ p us H',Same H H'→H' p=some (.tup us)→DGs H' g.kids us→Q (.ref p) H'
def jk6:Sp:=fun vs H Q _=>∃ g v,vs=[v]∧DG H g v∧g.size≤5000∧∀ l us L H',Same H H'→H l=none→H' l=some (.lst us)→Od [g] L→DGs H' L us→Q (.ref l) H'
variable {K:PySem.W.Frag} {vs:List V} {H:Hp} {Q:VK} {E:XK}
theorem nk {k w:Str} (h:k≠w):decide (V.str k=V.str w)=false:=decide_eq_false fun e=>h (V.str.inj e)
theorem rd_partsG (h:jzj vs H Q E):t_parts K (fin Q) (start ["piece","kind"] vs) H:=by
 obtain ⟨g,v,rfl,hd,k⟩:=h
 obtain ⟨p,us,rfl,ok,hp,dk⟩:=hd.open
 cases g with
 | leaf kd x=>
  have e:us=[]:=by have:=dk.1;simpa [G.kids] using this
  subst e
  refine ⟨_,rfl,p,_,_,_,rfl,rfl,SqT.of hp,rfl,?_⟩
  refine ⟨_,rfl,rfl,_,rfl,?_⟩
  rcases ok with rfl|rfl
  ·refine iteY (by decide+kernel) (iteT ?_)
   exact ⟨szl,fun q hq=>k q [] _ (jq2 hq) jq1 .nil⟩
  ·refine iteN (by decide+kernel) ?_
   refine ⟨_,rfl,rfl,_,rfl,?_⟩
   refine iteY (by decide+kernel) ?_
   exact ⟨szl,fun q hq=>k q [] _ (jq2 hq) jq1 .nil⟩
 | plain kd ks=>
  obtain ⟨o1,o2,o3,o4⟩:=ok
  have ec:cutV (.str kd :: us) (some 1) none=us:=(ja0 (.str kd :: us) 1 (by simp)).trans rfl
  refine ⟨_,rfl,p,_,_,_,rfl,rfl,SqT.of hp,jqd (j:=0) rfl,?_⟩
  refine ⟨_,rfl,rfl,_,rfl,iteN (nk o1) ⟨_,rfl,rfl,_,rfl,iteN (nk o2) ⟨_,rfl,rfl,_,rfl,iteN (nk o3) ⟨_,rfl,rfl,_,rfl,iteN (nk o4) ?_⟩⟩⟩⟩
  refine ⟨_,rfl,_,rfl,p,_,rfl,SqT.of hp,jj7 1 (by decide) (by simp [G.hd]),fun q hq=>?_⟩
  refine k q us _ (jq2 hq) ?_ (dk.mono (jzk hq))
  show upd H q (.tup (cutV (.str kd :: us) (some 1) none)) q=_
  rw [ec,jq1]
 | word kd w ks=>
  have ec:cutV (.str kd :: .str w :: us) (some 2) none=us:=(ja0 (.str kd :: .str w :: us) 2 (by simp)).trans rfl
  have fin2:∀ q,H q=none→Q (.ref q) (upd H q (.tup (cutV (.str kd :: .str w :: us) (some 2) none))):=fun q hq=>by
   refine k q us _ (jq2 hq) ?_ (dk.mono (jzk hq))
   rw [ec,jq1]
  refine ⟨_,rfl,p,_,_,_,rfl,rfl,SqT.of hp,jqd (j:=0) rfl,?_⟩
  refine ⟨_,rfl,rfl,_,rfl,?_⟩
  rcases ok with rfl|rfl
  ·refine iteN (by decide+kernel) ⟨_,rfl,rfl,_,rfl,iteN (by decide+kernel) ⟨_,rfl,rfl,_,rfl,iteY (by decide+kernel) (iteT ?_)⟩⟩
   exact ⟨_,rfl,_,rfl,p,_,rfl,SqT.of hp,jj7 2 (by decide) (by simp [G.hd]),fin2⟩
  ·refine iteN (by decide+kernel) ⟨_,rfl,rfl,_,rfl,iteN (by decide+kernel) ⟨_,rfl,rfl,_,rfl,iteN (by decide+kernel) ⟨_,rfl,rfl,_,rfl,iteY (by decide+kernel) ?_⟩⟩⟩
   exact ⟨_,rfl,_,rfl,p,_,rfl,SqT.of hp,jj7 2 (by decide) (by simp [G.hd]),fin2⟩
theorem parts_of (h:jb4 vs H Q E):jzj vs H Q E:=by
 obtain ⟨t,v,rfl,d,k⟩:=h
 exact ⟨gOf t,v,rfl,jjk d,fun p us H' s hp dk=>k p us H' s hp (jbk (by rw [jcd] at dk;exact dk))⟩
end S9
namespace S9
open PySem L2 SW
variable {K:PySem.W.Frag} {vs:List V} {H:Hp} {Q:VK} {E:XK}
def jor (K:PySem.W.Frag):TS:=(tSeq (tAsg (tBM0 K "list" rPop (tVar 2)) (jqk 3)) (tSeq (jxn (tBM K "list" jxa (tVar 1) (jq3 (tVar 3) tNil))) (jxn (tBM K "list" jc0 (tVar 2) (jq3 (jx7 jzj [] E0 (jq3 (tVar 3) tNil)) tNil)))))
def t_ep (K:PySem.W.Frag):TS:=(tSeq (tAsg (tLst tNil) (jqk 1)) (tSeq (tAsg (tLst (jq3 (tVar 0) tNil)) (jqk 2)) (tSeq (jji (jx0 (tOp rGtI (tCB (cLen K) (jq3 (tVar 2) tNil)) (tC (.int 0)))) (jor K)) (tRet (tVar 1)))))
structure EpSt (g:G) (H₀ H:Hp) (fl wl:Addr) (fs us:List V) (F S:List G):Prop where
 same:Same H₀ H
 nf:H₀ fl=none
 nw:H₀ wl=none
 ne:fl≠wl
 f_:H fl=some (.lst fs)
 w_:H wl=some (.lst us)
 df:DGs H F fs
 dw:DGs H S us
 od:∀ l,Od S l→Od [g] (F++l)
 sz:jxu S+F.length≤g.size
theorem rd_ep (h:jk6 vs H Q E):t_ep K (fin Q) (start ["piece","found","waiting","current"] vs) H:=by
 obtain ⟨g,v,rfl,hd,hsz,k⟩:=h
 refine ⟨szl,fun fl hf=>⟨_,rfl,szl,fun wl hw=>?_⟩⟩
 have s1:Same H (upd H fl (.lst [])):=jq2 hf
 have s2:=jq2 (o:=.lst [v]) hw
 have n1:fl≠wl:=jq9 (jq1 (H:=H) (a:=fl) (o:=.lst [])) hw
 refine ⟨fun m σ H'=>∃ j3 fs us F S,σ=[some v,some (.ref fl),some (.ref wl),j3]∧EpSt g H H' fl wl fs us F S∧m=jxu S,⟨_,none,[],[v],[],[g],rfl,?_,rfl⟩,?_⟩
 ·exact ⟨s1.trans s2,hf,s1.free hw,n1,s2 _ _ jq1,jq1,.nil,.cons (hd.mono (jqa (s1.trans s2))) .nil,fun l h=>h,by rw [jvd];simp⟩
 ·clear s1 s2
  rintro m σ H1 ⟨j3,fs,us,F,S,rfl,A,rfl⟩
  refine ⟨_,rfl,wl,us,rfl,.inl (SqL.of A.w_),_,_,rfl,rfl,_,rfl,?_⟩
  by_cases hv:us=[]
  ·subst hv
   refine iteN rfl ?_
   have e:S=[]:=List.length_eq_zero_iff.mp A.dw.1.symm
   subst e
   have od:=A.od [] .nil
   rw [List.append_nil] at od
   exact ⟨_,rfl,k fl fs F _ A.same hf A.f_ od A.df⟩
  ·obtain ⟨us,u,rfl⟩:=jxw hv
   refine iteY (decide_eq_true (by simp)) ?_
   obtain ⟨S',g',rfl,d1,d2⟩:=A.dw.snoc
   refine ⟨fun σ' H'=>∃ m',m' < jxu (S'++[g'])∧∃ j3 fs us F S,σ'=[some v,some (.ref fl),some (.ref wl),j3]∧EpSt g H H' fl wl fs us F S∧m'=jxu S,fun _ _ h=>h,?_⟩
   refine ⟨_,rfl,.inl ⟨rfl,_,SqL.of A.w_⟩,wl,_,_,rfl,rfl,A.w_,jkw,?_⟩
   rw [jjt]
   have hsz2:=A.sz
   rw [jzl,jvd] at hsz2
   have hk:=g'.size_kids
   have hf1:=A.df.1
   have t1:TupLe H1 (upd H1 wl (.lst us)):=jxh A.w_
   have s1:Same H (upd H1 wl (.lst us)):=jqr A.same A.nw
   have f1:(upd H1 wl (.lst us)) fl=some (.lst fs):=by rw [jqb A.ne];exact A.f_
   have w1:(upd H1 wl (.lst us)) wl=some (.lst us):=jq1
   have df1:=A.df.mono t1
   have dw1:=d1.mono t1
   have dg1:=d2.mono t1
   generalize upd H1 wl (.lst us)=H2 at s1 f1 w1 df1 dw1 dg1 ⊢
   refine ⟨_,rfl,.inl ⟨rfl,_,SqL.of f1⟩,_,rfl,fl,_,_,rfl,rfl,f1,by rw [sizeLine_eq];omega,?_⟩
   have t2:TupLe H2 (upd H2 fl (.lst (fs++[u]))):=jxh f1
   have s2:Same H (upd H2 fl (.lst (fs++[u]))):=jqr s1 hf
   have f2:(upd H2 fl (.lst (fs++[u]))) fl=some (.lst (fs++[u])):=jq1
   have w2:(upd H2 fl (.lst (fs++[u]))) wl=some (.lst us):=by rw [jqb A.ne.symm];exact w1
   have df2:=(df1.append (.cons dg1 .nil)).mono t2
   have dw2:=dw1.mono t2
   have dg2:=dg1.mono t2
   generalize upd H2 fl (.lst (fs++[u]))=H3 at s2 f2 w2 df2 dw2 dg2 ⊢
   refine ⟨_,rfl,.inl ⟨rfl,_,SqL.of w2⟩,_,rfl,g',u,rfl,dg2,fun p ks H4 s4 hp dk=>?_⟩
   have hl1:=dw2.1
   have hl2:=dk.1
   have hl3:=jve S'
   have hl4:=jve g'.kids
   refine ⟨wl,p,us,ks,rfl,rfl,s4 _ _ w2,hp,by rw [sizeLine_eq];omega,?_⟩
   have w4:=s4 _ _ w2
   have t5:TupLe H4 (upd H4 wl (.lst (us++ks))):=jxh w4
   refine ⟨jxu (S'++g'.kids),by rw [jzl,jzl,jvd];omega,_,fs++[u],us++ks,F++[g'],S'++g'.kids,rfl,⟨jqr (s2.trans s4) A.nw,hf,A.nw,A.ne,?_,jq1,(df2.mono (jqa s4)).mono t5,((dw2.mono (jqa s4)).append dk).mono t5,fun l h=>?_,?_⟩,rfl⟩
   ·rw [jqb A.ne];exact s4 _ _ f2
   ·rw [List.append_assoc];exact A.od _ (.step h)
   ·rw [jzl,List.length_append,List.length_singleton];omega
end S9
namespace S9
open PySem L2 SW
variable {K:PySem.W.Frag} {vs:List V} {H:Hp} {Q:VK} {E:XK} {N:Addr}
def StAt (H:Hp) (w:Str) (ps:List Str) (g:G) (v:V):Prop:=∃ p l x,v=.ref p∧H p=some (.tup [.str w,.ref l,x])∧H l=some (.lst (ps.map V.str))∧DG H g x
theorem StAt.mono {H H':Hp} {w:Str} {ps:List Str} {g:G} {v:V} (s:Same H H') (h:StAt H w ps g v):StAt H' w ps g v:=by
 obtain ⟨p,l,x,e,a,b,c⟩:=h
 exact ⟨p,l,x,e,s _ _ a,s _ _ b,c.mono (jqa s)⟩
structure Bk (H:Hp) (v1 v2 v3:V) (g1 g2 g3:G):Prop where
 a:StAt H "star" [] g1 v1
 b:StAt H "sta" ["sab"] g2 v2
 c:StAt H "st" ["sab","tab"] g3 v3
theorem Bk.mono {H H':Hp} {v1 v2 v3:V} {g1 g2 g3:G} (s:Same H H') (h:Bk H v1 v2 v3 g1 g2 g3):Bk H' v1 v2 v3 g1 g2 g3:=⟨h.a.mono s,h.b.mono s,h.c.mono s⟩
def kv3 (v1 v2 v3:V):List (Key×V):=[(.inr "star",v1),(.inr "sta",v2),(.inr "st",v3)]
theorem ne1:("star":Str)≠"sta":=by decide+kernel
theorem ne2:("star":Str)≠"st":=by decide+kernel
theorem ne3:("sta":Str)≠"st":=by decide+kernel
def fitN (w:Str):Option Nat:=if w="star" then some 0 else if w="sta" then some 1 else if w="st" then some 2 else none
def Fit:G→Prop
 | .word k w ks=>k="stamp"→fitN w=some ks.length
 | _=>True
def jkc (g:G):Prop:=∀ k w ks,Inn (.word k w ks) g→w.length≤1000
def jje:Sp:=fun vs H Q _=>∃ b v1 v2 v3 g1 g2 g3,vs=[.ref b]∧H b=some (.lst [v1,v2,v3])∧Bk H v1 v2 v3 g1 g2 g3∧∀ d H',Same H H'→H d=none→H' d=some (.dK (kv3 v1 v2 v3))→Q (.ref d) H'
def je8 (N:Addr):Sp:=fun vs H Q E=>∃ d v1 v2 v3 g1 g2 g3 w ks u,vs=[.ref d,u]∧H d=some (.dK (kv3 v1 v2 v3))∧Bk H v1 v2 v3 g1 g2 g3∧DG H (.word "stamp" w ks) u∧w.length≤1000∧ks.length≤5000∧
 (∀ H',Same H H'→fitN w=some ks.length→Q .non H')∧(∀ H',Same H H'→fitN w≠some ks.length→E (.ref N) none H')
def jcr (N:Addr):Sp:=fun vs H Q E=>∃ d v1 v2 v3 g1 g2 g3 g u,vs=[.ref d,u]∧H d=some (.dK (kv3 v1 v2 v3))∧Bk H v1 v2 v3 g1 g2 g3∧DG H g u∧g.size≤5000∧jkc g∧
 (∀ H',Same H H'→(∀ x,Inn x g→Fit x)→Q .non H')∧(∀ H',Same H H'→(∃ x,Inn x g∧¬ Fit x)→E (.ref N) none H')
def jed (N:Addr):Sp:=fun vs H Q E=>∃ b v1 v2 v3 g1 g2 g3 g u,vs=[.ref b,u]∧H b=some (.lst [v1,v2,v3])∧Bk H v1 v2 v3 g1 g2 g3∧DG H g u∧(∀ y∈[g,g1,g2,g3],y.size≤5000∧jkc y)∧
 (∀ H',Same H H'→(∀ y∈[g,g1,g2,g3],∀ x,Inn x y→Fit x)→Q .non H')∧(∀ H',Same H H'→(∃ y∈[g,g1,g2,g3],∃ x,Inn x y∧¬ Fit x)→E (.ref N) none H')
def jdl (K:PySem.W.Frag):TS:=(jb6 (tVar 1) (tOp (rIxT K) (tVar 2) (tC (.int 0))) (tVar 2))
def t_sbw (K:PySem.W.Frag):TS:=(tSeq (tAsg jku (jqk 1)) (tSeq (tFor (jkr K (tVar 0)) (jqk 2) (jdl K)) (tRet (tVar 1))))
def jpb (K:PySem.W.Frag) (a_NoStamp:Addr) (E:XK):TS:=(je0 a_NoStamp E (tFS1 (tVar 2) "the book has no stamp "))
def jpa (K:PySem.W.Frag) (a_NoStamp:Addr) (E:XK):TS:=(tIfS (tB (jb3 (tVar 2) (tVar 0))) (jpb K a_NoStamp E) jxt)
def jp9 (K:PySem.W.Frag) (a_NoStamp:Addr) (E:XK):TS:=(je0 a_NoStamp E (tFSN (jga (tVar 2) (jga (tVar 4) (jga (tVar 3) jng)))))
def jp8 (K:PySem.W.Frag) (a_NoStamp:Addr) (E:XK):TS:=(tIfS (jx0 (tOp rNe (tVar 3) (tVar 4))) (jp9 K a_NoStamp E) jxt)
def t_cu (K:PySem.W.Frag) (a_NoStamp:Addr) (E:XK):TS:=(tSeq (tAsg (tOp (rIxT K) (tVar 1) (tC (.int 1))) (jqk 2)) (tSeq (jpa K a_NoStamp E) (tSeq (tAsg (tCB (cLen K) (jq3 (jx7 jzj [] E0 (jq3 (tVar 1) tNil)) tNil)) (jqk 3)) (tSeq (tAsg (tCB (cLen K) (jq3 (tOp (rIxT K) (jgd (tVar 0) (tVar 2)) (tC (.int 1))) tNil)) (jqk 4)) (jp8 K a_NoStamp E)))))
def jpd (K:PySem.W.Frag) (a_NoStamp:Addr) (E:XK):TS:=(jxn (jx7 (je8 a_NoStamp) [] E (jq3 (tVar 0) (jq3 (tVar 2) tNil))))
def jpc (K:PySem.W.Frag) (a_NoStamp:Addr) (E:XK):TS:=(tIfS (jx0 (tOp rEq (tOp (rIxT K) (tVar 2) (tC (.int 0))) (tC (.str "stamp")))) (jpd K a_NoStamp E) jxt)
def t_cp (K:PySem.W.Frag) (a_NoStamp:Addr) (E:XK):TS:=(tFor (jkr K (jx7 jk6 [] E0 (jq3 (tVar 1) tNil))) (jqk 2) (jpc K a_NoStamp E))
def jhz (K:PySem.W.Frag) (a_NoStamp:Addr) (E:XK):TS:=(jxn (jx7 (jcr a_NoStamp) [] E (jq3 (tVar 2) (jq3 (tOp (rIxT K) (tVar 3) (tC (.int 2))) tNil))))
def t_ck (K:PySem.W.Frag) (a_NoStamp:Addr) (E:XK):TS:=(tSeq (tAsg (jx7 jje [] E0 (jq3 (tVar 0) tNil)) (jqk 2)) (tSeq (jxn (jx7 (jcr a_NoStamp) [] E (jq3 (tVar 2) (jq3 (tVar 1) tNil)))) (tFor (jkr K (tVar 0)) (jqk 3) (jhz K a_NoStamp E))))
theorem put1 {v:V}:putK ([]:List (Key×V)) (.inr "star") v=[(.inr "star",v)]:=rfl
theorem put2 {v1 v:V}:putK [((.inr "star":Key),v1)] (.inr "sta") v=[(.inr "star",v1),(.inr "sta",v)]:=by simp [putK,ne1]
theorem put3 {v1 v2 v:V}:putK [((.inr "star":Key),v1),(.inr "sta",v2)] (.inr "st") v=[(.inr "star",v1),(.inr "sta",v2),(.inr "st",v)]:=by simp [putK,ne2,ne3]
theorem rd_sbw (h:jje vs H Q E):t_sbw K (fin Q) (start ["book","stamps","stamp"] vs) H:=by
 obtain ⟨b,v1,v2,v3,g1,g2,g3,rfl,hb,bk,k⟩:=h
 intro d hd
 have s1:Same H (upd H d (.dK [])):=jq2 hd
 refine ⟨_,rfl,b,rfl,⟨_,SqL.of (s1 _ _ hb)⟩,?_⟩
 refine jzc (K:=K) (a:=b) (xs:=[v1,v2,v3]) (fun i σ H'=>∃ j2,σ=[some (.ref b),some (.ref d),j2]∧Same H H'∧H' d=some (.dK ((kv3 v1 v2 v3).take i))) ⟨none,rfl,s1,jq1⟩ (fun i σ H' _ hP=>?_) ?_ ?_
 ·obtain ⟨_,_,s,_⟩:=hP
  exact SqL.of (s _ _ hb)
 ·rintro i y σ H' hi ⟨j2,rfl,s,hd'⟩
  have B:=bk.mono s
  have go:∀ (w:Str) (ps:List Str) (g:G),StAt H' w ps g y→putK ((kv3 v1 v2 v3).take i) (.inr w) y=(kv3 v1 v2 v3).take (i+1)→i≤3→∀ D:Ends,(∀ σ H',(∃ j2,σ=[some (.ref b),some (.ref d),j2]∧Same H H'∧H' d=some (.dK ((kv3 v1 v2 v3).take (i+1))))→D.nx σ H')→jqk 2 y [some (.ref b),some (.ref d),j2] H' fun σ2 H2=>jdl K D σ2 H2:=by
   intro w ps g hst e hi3 D hD
   obtain ⟨p,l,x,rfl,hp,_⟩:=hst
   refine ⟨_,rfl,_,rfl,_,rfl,p,_,_,_,rfl,rfl,SqT.of hp,rfl,d,_,rfl,DPut.k (k:=.inr w) hd' (jjp (Nat.le_trans (List.length_take_le _ _) (by omega))),hD _ _ ⟨_,rfl,jqr s hd,?_⟩⟩
   rw [jq1,e]
  match i,hi,go with
  | 0,hi,go=>cases hi;exact go _ _ _ B.a put1 (by omega) _ (fun _ _ z=>z)
  | 1,hi,go=>cases hi;exact go _ _ _ B.b put2 (by omega) _ (fun _ _ z=>z)
  | 2,hi,go=>cases hi;exact go _ _ _ B.c put3 (by omega) _ (fun _ _ z=>z)
  | n+3,hi,_=>simp at hi
 ·rintro σ H' ⟨j2,rfl,s,hd'⟩
  exact ⟨_,rfl,k d H' s hd hd'⟩
end S9
namespace S9
open PySem L2 SW
variable {K:PySem.W.Frag} {vs:List V} {H:Hp} {Q:VK} {E:XK} {N:Addr}
theorem val3 (v1 v2 v3:V) (w:Str):valV (kv3 v1 v2 v3) (.inr w)=if w="star" then some v1 else if w="sta" then some v2 else if w="st" then some v3 else none:=by
 unfold kv3
 by_cases h1:w="star"
 ·subst h1;rw [if_pos rfl];exact jxo rfl
 rw [if_neg h1,jxp (by intro e;exact h1 (Sum.inr.inj e).symm)]
 by_cases h2:w="sta"
 ·subst h2;rw [if_pos rfl];exact jxo rfl
 rw [if_neg h2,jxp (by intro e;exact h2 (Sum.inr.inj e).symm)]
 by_cases h3:w="st"
 ·subst h3;rw [if_pos rfl];exact jxo rfl
 rw [if_neg h3,jxp (by intro e;exact h3 (Sum.inr.inj e).symm)]
 rfl
theorem look3 {H:Hp} {v1 v2 v3:V} {g1 g2 g3:G} (B:Bk H v1 v2 v3 g1 g2 g3) (w:Str):(valV (kv3 v1 v2 v3) (.inr w)=none∧fitN w=none)∨∃ v ps g,valV (kv3 v1 v2 v3) (.inr w)=some v∧StAt H w ps g v∧fitN w=some ps.length∧ps.length≤2:=by
 rw [val3]
 unfold fitN
 by_cases h1:w="star"
 ·subst h1;exact .inr ⟨v1,_,_,if_pos rfl,B.a,if_pos rfl,by decide⟩
 rw [if_neg h1,if_neg h1]
 by_cases h2:w="sta"
 ·subst h2;exact .inr ⟨v2,_,_,if_pos rfl,B.b,if_pos rfl,by decide⟩
 rw [if_neg h2,if_neg h2]
 by_cases h3:w="st"
 ·subst h3;exact .inr ⟨v3,_,_,if_pos rfl,B.c,if_pos rfl,by decide⟩
 rw [if_neg h3,if_neg h3]
 exact .inl ⟨rfl,rfl⟩
theorem jri {n k:Nat} (h:n < 2 ^ 13) (hk:13≤k):n.log2 < k:=by
 by_cases h0:n=0
 ·subst h0
  have:(0:Nat).log2=0:=by decide
  omega
 ·exact (Nat.log2_lt h0).mpr (Nat.lt_of_lt_of_le h (Nat.pow_le_pow_right (by decide) hk))
theorem jan {n:Nat} (h:n≤5000):((n:Int)).natAbs.log2 < 1920:=by
 rw [Int.natAbs_natCast]
 exact jri (by omega) (by omega)
theorem rd_cu (h:je8 N vs H Q E):t_cu K N E (fin Q) (start ["stamps","use","word","handed","places"] vs) H:=by
 obtain ⟨d,v1,v2,v3,g1,g2,g3,w,ks,u,rfl,hd,B,dg,hw,hk,k1,k2⟩:=h
 obtain ⟨p,us,rfl,_,hp,dk⟩:=dg.open
 refine ⟨_,rfl,p,_,_,_,rfl,rfl,SqT.of hp,jqd (j:=1) rfl,?_⟩
 have dgt:=DGet.k (k:=.inr w) hd
 refine ⟨_,rfl,_,rfl,d,_,rfl,dgt,_,rfl,?_⟩
 rcases look3 B w with ⟨e,f⟩|⟨v,ps,g,e,st,f,hps⟩
 ·rw [e]
  refine iteY rfl ?_
  refine ⟨_,rfl,w,rfl,?_,k2 _ (Same.refl _) (by rw [f];intro z;cases z)⟩
  have:(("the book has no stamp ":Str)).length=22:=by decide+kernel
  rw [this,sizeLine_eq];omega
 ·rw [e] at dgt ⊢
  refine iteN rfl ?_
  refine ⟨_,rfl,_,.ref p,rfl,dg,fun q us' H1 s1 hq dk1=>?_⟩
  have hl:us'.length=ks.length:=dk1.1
  refine ⟨q,us',rfl,.inr (SqT.of hq),?_⟩
  obtain ⟨pp,l,x,rfl,hpp,hl1,_⟩:=st.mono s1
  have dgt1:=DGet.k (k:=.inr w) (s1 _ _ hd)
  rw [e] at dgt1
  refine ⟨_,rfl,_,rfl,d,_,rfl,dgt1,pp,_,_,_,rfl,rfl,SqT.of hpp,rfl,l,_,rfl,.inl (SqL.of hl1),?_⟩
  refine ⟨_,rfl,_,rfl,rfl,_,rfl,?_⟩
  rw [List.length_map]
  by_cases hf:us'.length=ps.length
  ·refine iteN (by simp [hf]) (k1 _ s1 (by rw [f,← hf,hl]))
  ·refine iteY (by simp [hf];omega) ?_
   refine ⟨_,rfl,.inl ⟨w,rfl,by omega⟩,_,rfl,.inr ⟨_,rfl,jan (by omega)⟩,_,rfl,.inr ⟨_,rfl,jan (by omega)⟩,fun z=>k2 _ s1 ?_⟩
   rw [f]
   intro z
   exact hf (by rw [hl];exact (Option.some.inj z).symm)
theorem jh4 {x g:G} (h:Inn x g):x.size≤g.size:=by
 induction h with
 | refl=>exact Nat.le_refl _
 | @kid g k hk _ ih=>
  have:=g.size_kids
  have:k.size≤jxu g.kids:=by
   obtain ⟨a,b,e⟩:=List.append_of_mem hk
   rw [e,jzl,jxu];omega
  omega
theorem rd_cp (h:jcr N vs H Q E):t_cp K N E (fin Q) (start ["stamps","piece","current"] vs) H:=by
 obtain ⟨d,v1,v2,v3,g1,g2,g3,g,u,rfl,hd,B,dg,hsz,hsh,k1,k2⟩:=h
 refine ⟨_,rfl,g,u,rfl,dg,hsz,fun l us L H1 s1 n1 h1 od dL=>⟨l,rfl,⟨_,SqL.of h1⟩,?_⟩⟩
 have hlen:=dL.1
 refine jzc (K:=K) (a:=l) (xs:=us) (fun i σ H'=>∃ j2,σ=[some (.ref d),some u,j2]∧Same H1 H'∧∀ x∈L.take i,Fit x) ⟨none,rfl,Same.refl _,by simp⟩ (fun i σ H' _ hP=>?_) ?_ ?_
 ·obtain ⟨_,_,s,_⟩:=hP
  exact SqL.of (s _ _ h1)
 ·rintro i y σ H' hi ⟨j2,rfl,s,hF⟩
  have hil:i < us.length:=(List.getElem?_eq_some_iff.mp hi).1
  have hg:L[i]?=some L[i]:=List.getElem?_eq_getElem (by omega)
  generalize L[i]=c at hg
  have hcm:Inn c g:=(od.one c).mp (List.mem_of_getElem? hg)
  have tk:∀ x,x∈L.take (i+1)→x∈L.take i∨x=c:=fun x hx=>by
   rw [List.take_add_one,hg] at hx
   simpa using hx
  have dc:=(dL.2 i c y hg hi).mono (jqa s)
  have dc0:=dc
  obtain ⟨p,ks,rfl,ok,hp,dk⟩:=dc.open
  have h0:atI (c.hd++ks) 0=some (.str c.kind):=by cases c<;>exact jqd (j:=0) rfl
  refine ⟨_,rfl,p,_,_,_,rfl,rfl,SqT.of hp,h0,rfl,_,rfl,?_⟩
  by_cases hk:c.kind="stamp"
  ·refine iteY (by rw [hk];decide+kernel) ?_
   cases c with
   | leaf k x=>
    have hk:k="stamp":=hk
    subst hk
    rcases ok with z|z
    ·exact absurd z (by decide+kernel)
    ·exact absurd z (by decide+kernel)
   | plain k x=>exact absurd hk ok.2.2.2
   | word k w kk=>
    have hk:k="stamp":=hk
    subst hk
    have hs2:=jh4 hcm
    have hs3:=jve kk
    have hs4:(G.word "stamp" w kk).size=1+jxu kk:=by simp [G.size]
    have sS:=s1.trans s
    refine ⟨_,rfl,_,rfl,d,v1,v2,v3,g1,g2,g3,w,kk,_,rfl,sS _ _ hd,B.mono sS,dc0,hsh _ _ _ hcm,by omega,fun H2 s2 f=>⟨_,rfl,s.trans s2,fun x hx=>?_⟩,fun H2 s2 f=>k2 _ (sS.trans s2) ⟨_,hcm,fun z=>f (z rfl)⟩⟩
    rcases tk x hx with z|rfl
    ·exact hF x z
    ·exact fun _=>f
  ·refine iteN (nk hk) ⟨_,rfl,s,fun x hx=>?_⟩
   rcases tk x hx with z|rfl
   ·exact hF x z
   ·cases x with
    | word k w kk=>exact fun e=>absurd e hk
    | _=>exact True.intro
 ·rintro σ H' ⟨j2,rfl,s,hF⟩
  refine k1 _ (s1.trans s) fun x hx=>hF x ?_
  rw [hlen,List.take_length]
  exact (od.one x).mpr hx
end S9
namespace S9
open PySem L2 SW
variable {K:PySem.W.Frag} {vs:List V} {H:Hp} {Q:VK} {E:XK} {N:Addr}
theorem rd_ck (h:jed N vs H Q E):t_ck K N E (fin Q) (start ["book","piece","stamps","stamp"] vs) H:=by
 obtain ⟨b,v1,v2,v3,g1,g2,g3,g,u,rfl,hb,B,dg,hsz,k1,k2⟩:=h
 refine ⟨_,rfl,b,v1,v2,v3,g1,g2,g3,rfl,hb,B,fun d H1 s1 n1 hd=>?_⟩
 have hg:=hsz g (by simp)
 refine ⟨_,rfl,_,rfl,d,v1,v2,v3,g1,g2,g3,g,u,rfl,hd,B.mono s1,dg.mono (jqa s1),hg.1,hg.2,fun H2 s2 f2=>?_,fun H2 s2 f2=>k2 _ (s1.trans s2) ⟨g,by simp,f2⟩⟩
 have s12:=s1.trans s2
 refine ⟨_,rfl,b,rfl,⟨_,SqL.of (s12 _ _ hb)⟩,?_⟩
 refine jzc (K:=K) (a:=b) (xs:=[v1,v2,v3]) (fun i σ H'=>∃ j3,σ=[some (.ref b),some u,some (.ref d),j3]∧Same H2 H'∧∀ y∈[g1,g2,g3].take i,∀ x,Inn x y→Fit x) ⟨none,rfl,Same.refl _,by simp⟩ (fun i σ H' _ hP=>?_) ?_ ?_
 ·obtain ⟨_,_,s,_⟩:=hP
  exact SqL.of (s _ _ (s12 _ _ hb))
 ·rintro i y σ H' hi ⟨j3,rfl,s,hF⟩
  have s3:=s12.trans s
  have B3:=B.mono s3
  have go:∀ (w:Str) (ps:List Str) (gg:G),StAt H' w ps gg y→gg∈[g1,g2,g3]→[g1,g2,g3].take (i+1)=[g1,g2,g3].take i++[gg]→∀ D:Ends,(∀ σ H',(∃ j3,σ=[some (.ref b),some u,some (.ref d),j3]∧Same H2 H'∧∀ y∈[g1,g2,g3].take (i+1),∀ x,Inn x y→Fit x)→D.nx σ H')→jqk 3 y [some (.ref b),some u,some (.ref d),j3] H' fun σ2 H2=>jhz K N E D σ2 H2:=by
   intro w ps gg st hm e D hD
   obtain ⟨p,l,x,rfl,hp,_,dx⟩:=st
   have hg:=hsz gg (List.mem_cons_of_mem _ hm)
   refine ⟨_,rfl,_,rfl,p,_,_,_,rfl,rfl,SqT.of hp,rfl,d,v1,v2,v3,g1,g2,g3,gg,x,rfl,(s2.trans s) _ _ hd,B3,dx,hg.1,hg.2,fun H4 s4 f4=>hD _ _ ⟨_,rfl,s.trans s4,fun y hy=>?_⟩,fun H4 s4 f4=>k2 _ (s3.trans s4) ⟨gg,List.mem_cons_of_mem _ hm,f4⟩⟩
   rw [e] at hy
   rcases List.mem_append.mp hy with z|z
   ·exact hF y z
   ·rw [List.mem_singleton] at z
    subst z
    exact f4
  match i,hi,go with
  | 0,hi,go=>cases hi;exact go _ _ _ B3.a (by simp) rfl _ (fun _ _ z=>z)
  | 1,hi,go=>cases hi;exact go _ _ _ B3.b (by simp) rfl _ (fun _ _ z=>z)
  | 2,hi,go=>cases hi;exact go _ _ _ B3.c (by simp) rfl _ (fun _ _ z=>z)
  | n+3,hi,_=>simp at hi
 ·rintro σ H' ⟨j3,rfl,s,hF⟩
  refine k1 _ (s12.trans s) fun y hy=>?_
  rcases List.mem_cons.mp hy with rfl|z
  ·exact f2
  ·exact hF y z
end S9
namespace S9
open PySem L2 SW
variable {K:PySem.W.Frag} {vs:List V} {H:Hp} {Q:VK} {E:XK} {N:Addr}
def job (K:PySem.W.Frag):TS:=(tSeq (tAsg (tOp jm8 (tOp rIxS (tC (.str "abcdefghijklmnopqrstuvwxyz")) (tOp jj0 (tOp jwo (tVar 2) (tC (.int 1))) (tCB jhj (jq3 (tC (.str "abcdefghijklmnopqrstuvwxyz")) tNil)))) (tVar 1)) (jqk 1)) (tAsg (tOp jb8 (tOp jwo (tVar 2) (tC (.int 1))) (tCB jhj (jq3 (tC (.str "abcdefghijklmnopqrstuvwxyz")) tNil))) (jqk 2)))
def t_nw (K:PySem.W.Frag):TS:=(tSeq (tAsg (tOp rIxS (tC (.str "abcdefghijklmnopqrstuvwxyz")) (tOp jj0 (tVar 0) (tCB jhj (jq3 (tC (.str "abcdefghijklmnopqrstuvwxyz")) tNil)))) (jqk 1)) (tSeq (tAsg (tOp jb8 (tVar 0) (tCB jhj (jq3 (tC (.str "abcdefghijklmnopqrstuvwxyz")) tNil))) (jqk 2)) (tSeq (jji (jx0 (tOp rGtI (tVar 2) (tC (.int 0)))) (job K)) (tRet (tVar 1)))))
def Vw:List Nat→Nat
 | []=>0
 | [c]=>c - 97
 | c :: d :: w=>Vw (d :: w)+(c - 96) * 26 ^ (w.length+1)
theorem jn4 {c:Nat} {w:List Nat} (h:w≠[]):Vw (c :: w)=Vw w+(c - 96) * 26 ^ w.length:=by
 cases w with
 | nil=>exact absurd rfl h
 | cons d w=>rfl
theorem jfb:(("abcdefghijklmnopqrstuvwxyz":Str)).length=26:=by decide+kernel
theorem jf9 {n:Nat} (hn:n < 26):atI (("abcdefghijklmnopqrstuvwxyz":Str)).cps.toList (n:Int)=some (n+97):=by
 refine jqd ?_
 rw [jf8,List.getElem?_map,List.getElem?_range hn]
 rfl
structure NumTo (n r m:Nat) (x:Str):Prop where
 one:1≤x.length
 few:x.length+m≤30
 sm:r < 2 ^ m
 abc:∀ c∈x.cps.toList,97≤c∧c≤122
 val:Vw x.cps.toList+26 ^ x.length * r=n
theorem jf4 (n:Nat) (hn:n≤16000000):NumTo n (n / 26) 20 ⟨#[n % 26+97]⟩:=by
 refine ⟨Nat.le_refl _,by show 1+20≤30;omega,by omega,fun c hc=>?_,?_⟩
 ·have:c=n % 26+97:=by simpa using hc
  omega
 ·show n % 26+97 - 97+26 ^ 1 * (n / 26)=n
  omega
theorem jgw {n r m:Nat} {x:Str} (h:NumTo n r m x) (hr:0 < r):∃ m',NumTo n ((r - 1) / 26) m' (⟨#[(r - 1) % 26+97]⟩++x):=by
 cases m with
 | zero=>have:=h.sm;omega
 | succ m=>
  have el:((⟨#[(r - 1) % 26+97]⟩:Str)++x).length=x.length+1:=by
   show (#[(r - 1) % 26+97]++x.cps).size=x.cps.size+1
   simp [Nat.add_comm]
  have ec:((⟨#[(r - 1) % 26+97]⟩:Str)++x).cps.toList=((r - 1) % 26+97) :: x.cps.toList:=by
   show (#[(r - 1) % 26+97]++x.cps).toList=_
   rw [Array.toList_append];rfl
  have hl:x.cps.toList.length=x.length:=Array.length_toList
  have hf:=h.few
  have hs:=h.sm
  refine ⟨m,by rw [el];omega,by rw [el];omega,?_,fun c hc=>?_,?_⟩
  ·rw [Nat.pow_succ] at hs
   generalize 2 ^ m=z at *
   omega
  ·rw [ec] at hc
   rcases List.mem_cons.mp hc with e|e
   ·omega
   ·exact h.abc c e
  ·rw [ec,jn4 (fun z=>by have:=h.one;rw [z] at hl;simp at hl;omega),el,hl]
   have hv:=h.val
   have e1:(r - 1) % 26+97 - 96=(r - 1) % 26+1:=by omega
   rw [e1,Nat.pow_succ]
   have e2:r=(r - 1) % 26+1+26 * ((r - 1) / 26):=by omega
   generalize (r - 1) % 26=a at *
   generalize (r - 1) / 26=b at *
   rw [e2] at hv
   rw [← hv,Nat.mul_add,Nat.mul_comm (a+1),Nat.mul_assoc,Nat.add_assoc]
def jad:Sp:=fun vs H Q _=>∃ n:Nat,vs=[.int n]∧n≤16000000∧∀ x:Str,Wd x→x.length≤30→Vw x.cps.toList=n→Q (.str x) H
theorem rd_nw (h:jad vs H Q E):t_nw K (fin Q) (start ["number","word","rest"] vs) H:=by
 obtain ⟨n,rfl,hn,k⟩:=h
 have z26:(("abcdefghijklmnopqrstuvwxyz":Str)).length≤sizeLine:=by rw [jfb];exact szl
 have p26:(0:Int) < ((("abcdefghijklmnopqrstuvwxyz":Str)).length:Int):=by rw [jfb];decide
 have e0:∀ j:Nat,atI (("abcdefghijklmnopqrstuvwxyz":Str)).cps.toList ((j:Int) % ((("abcdefghijklmnopqrstuvwxyz":Str)).length:Int))=some (j % 26+97):=fun j=>by
  rw [jfb,← Int.natCast_emod]
  exact jf9 (Nat.mod_lt _ (by decide))
 refine ⟨_,rfl,_,rfl,z26,_,_,rfl,rfl,p26,_,_,_,rfl,rfl,z26,e0 n,?_⟩
 have c26:∀ i:Int,CDiv i ((("abcdefghijklmnopqrstuvwxyz":Str)).length:Int):=fun i=>by rw [jfb];exact ⟨by decide,by decide⟩
 refine ⟨_,rfl,_,rfl,z26,_,_,rfl,rfl,c26 _,?_⟩
 have ed:∀ j:Nat,((j:Int) / ((("abcdefghijklmnopqrstuvwxyz":Str)).length:Int))=((j / 26:Nat):Int):=fun j=>by rw [jfb];exact (Int.natCast_ediv j 26).symm
 dsimp only
 rw [ed]
 refine ⟨fun m σ H'=>H'=H∧∃ (r mm:Nat) (x:Str),σ=[some (.int n),some (.str x),some (.int r)]∧NumTo n r mm x∧m=r,⟨n / 26,rfl,_,_,_,rfl,jf4 n hn,rfl⟩,?_⟩
 rintro m σ H' ⟨rfl,r,mm,x,rfl,A,rfl⟩
 refine ⟨_,rfl,_,_,rfl,rfl,_,rfl,?_⟩
 refine ite2 (fun hl=>?_) (fun hl=>?_)
 ·have hl:(0:Int) < (m:Int):=of_decide_eq_true hl
  have hm:0 < m:=by omega
  refine ⟨fun σ' H''=>∃ m',m' < m∧(H''=H'∧∃ (r mm:Nat) (x:Str),σ'=[some (.int n),some (.str x),some (.int r)]∧NumTo n r mm x∧m'=r),fun _ _ h=>h,?_⟩
  obtain ⟨mm',A'⟩:=jgw A hm
  have ec:((m:Int) - 1)=((m - 1:Nat):Int):=by omega
  have hx:=A.few
  refine ⟨_,rfl,_,_,rfl,rfl,_,rfl,z26,_,_,rfl,rfl,p26,_,_,_,rfl,rfl,z26,by rw [ec];exact e0 (m - 1),_,rfl,_,_,rfl,rfl,?_,?_⟩
  ·show 1+x.length≤_
   rw [sizeLine_eq];omega
  refine ⟨_,rfl,_,_,rfl,rfl,_,rfl,z26,_,_,rfl,rfl,c26 _,?_⟩
  dsimp only
  rw [ec,ed]
  exact ⟨(m - 1) / 26,by omega,rfl,_,_,_,rfl,A',rfl⟩
 ·have hl:¬ (0:Int) < (m:Int):=fun z=>hl (decide_eq_true z)
  have hm:m=0:=by omega
  subst hm
  have hv:=A.val
  rw [Nat.mul_zero,Nat.add_zero] at hv
  have hf:=A.few
  exact ⟨_,rfl,k x ⟨A.one,by omega,A.abc⟩ (by omega) hv⟩
end S9
namespace S9
open PySem L2 SW
variable {K:PySem.W.Frag} {vs:List V} {H:Hp} {Q:VK} {E:XK} {N C:Addr}
structure RW (K:PySem.W.Frag) (C:Addr):Prop where
 cl:Cls K C
 nT:NoAttr K C "taken"
 nR:NoAttr K C "tried"
def wf (d:Addr) (n:Nat):List (Str×V):=[("taken",.ref d),("tried",.int n)]
theorem nTR:¬ (("taken":Str)="tried"):=by decide+kernel
theorem jbt {d:Addr} {n:Nat}:(wf d n).lookup ("taken":Str)=some (.ref d):=by
 have e:(("taken":Str) == "taken")=true:=by decide+kernel
 simp only [wf,List.lookup,e]
theorem jbs {d:Addr} {n:Nat}:(wf d n).lookup ("tried":Str)=some (.int n):=by
 have e:(("tried":Str) == "taken")=false:=by decide+kernel
 have e2:(("tried":Str) == "tried")=true:=by decide+kernel
 simp only [wf,List.lookup,e,e2]
theorem jna {d:Addr} {n:Nat} {i:Int}:putF "tried" (.int i) (wf d n)=([("taken",.ref d),("tried",.int i)]:List (Str×V)):=by
 simp only [wf,putF,if_neg nTR,if_true]
structure FW (C:Addr) (H:Hp) (p dx d:Addr) (n:Nat) (ws:List Str):Prop where
 ob:H p=some (.ins C dx (wf d n))
 dk:H d=some (.dK (jj9 ws))
def cnt (n:Nat):List Str→Nat
 | []=>0
 | y :: r=>(if n≤Vw y.cps.toList then 1 else 0)+cnt n r
theorem jih (n:Nat) (ws:List Str):cnt (n+1) ws≤cnt n ws:=by
 induction ws with
 | nil=>exact Nat.le_refl _
 | cons y r ih=>unfold cnt;split<;>split<;>omega
theorem jrz {n:Nat} {ws:List Str} {x:Str} (h:x∈ws) (e:Vw x.cps.toList=n):cnt (n+1) ws < cnt n ws:=by
 induction ws with
 | nil=>cases h
 | cons y r ih=>
  have:=jih n r
  rcases List.mem_cons.mp h with rfl|h
  ·unfold cnt;rw [if_neg (by omega),if_pos (by omega)];omega
  ·have:=ih h
   unfold cnt;split<;>split<;>omega
theorem jfw (n:Nat) (ws:List Str):cnt n ws≤ws.length:=by
 induction ws with
 | nil=>exact Nat.le_refl _
 | cons y r ih=>unfold cnt;rw [List.length_cons];split<;>omega
theorem jd7 (n:Nat) (ws:List Str) (x:Str):cnt n (ws++[x])=cnt n ws+(if n≤Vw x.cps.toList then 1 else 0):=by
 induction ws with
 | nil=>simp [cnt]
 | cons y r ih=>rw [List.cons_append,cnt,cnt,ih];omega
def Ap2 (p d:Addr) (H H':Hp):Prop:=∀ b o,b≠p→b≠d→H b=some o→H' b=some o
theorem Ap2.refl {p d:Addr} {H:Hp}:Ap2 p d H H:=fun _ _ _ _ h=>h
theorem Ap2.trans {p d:Addr} {H H1 H2:Hp} (a:Ap2 p d H H1) (b:Ap2 p d H1 H2):Ap2 p d H H2:=fun c o h1 h2 h=>b c o h1 h2 (a c o h1 h2 h)
def jvc (C:Addr):Sp:=fun vs H Q _=>∃ (p dx d:Addr) (n:Nat) (ws:List Str) (w:Str),vs=[.ref p,.str w]∧FW C H p dx d n ws∧Wd w∧ws.length≤8000000∧n+cnt n ws≤ws.length∧
 ∀ (x:Str) (n':Nat) (H':Hp),Wd x→x∉ws→(w∉ws→x=w)→n'+cnt n' (ws++[x])≤ws.length+1→Ap2 p d H H'→FW C H' p dx d n' (ws++[x])→Q (.str x) H'
def jni (K:PySem.W.Frag) (a_FreshWords:Addr):TS:=(tSeq (tAsg (jx7 jad [] E0 (jq3 (tFld K (tVar 0) "tried") tNil)) (jqk 2)) (jwn K (tVar 0) (tC (.int 1)) rAdd "tried"))
def t_wf (K:PySem.W.Frag) (a_FreshWords:Addr):TS:=(tSeq (tAsg (tVar 1) (jqk 2)) (tSeq (jji (tB (tDIn (tVar 2) (tFld K (tVar 0) "taken"))) (jni K a_FreshWords)) (tSeq (jb6 (tFld K (tVar 0) "taken") (tVar 2) (tC (.bl true))) (tRet (tVar 2)))))
def one (x:Str) (ws:List Str):Nat:=if x∈ws then 1 else 0
theorem rd_wf (rc:RW K C) (h:jvc C vs H Q E):t_wf K C (fin Q) (start ["self","word","free"] vs) H:=by
 obtain ⟨p,dx,d,n,ws,w,rfl,A,hw,hl,hn,k⟩:=h
 have hpd:p≠d:=jxk A.ob A.dk (by intro z;cases z)
 have c0:=jfw n ws
 have o0:one w ws≤1:=by unfold one;split<;>omega
 refine ⟨_,rfl,?_⟩
 refine ⟨fun m σ H'=>∃ (x:Str) (r:Nat),σ=[some (.ref p),some (.str w),some (.str x)]∧FW C H' p dx d r ws∧Ap2 p d H H'∧Wd x∧(w∉ws→x=w)∧m=cnt r ws+one x ws∧r+m≤n+(cnt n ws+one w ws)∧((x=w∧r=n)∨Vw x.cps.toList < r),⟨_,w,n,rfl,A,.refl,hw,fun _=>rfl,rfl,Nat.le_refl _,.inl ⟨rfl,rfl⟩⟩,?_⟩
 rintro m σ H1 ⟨x,r,rfl,A1,ap1,hx,hxw,rfl,hr,hv0⟩
 refine ⟨_,rfl,_,rfl,p,C,dx,_,_,rfl,A1.ob,rc.cl,rc.nT,jbt,d,_,rfl,DGet.k (k:=.inr x) A1.dk,_,rfl,?_⟩
 rw [jv8]
 by_cases hm:x∈ws
 ·refine iteY (decide_eq_true hm) ?_
  refine ⟨fun σ' H'=>∃ m',m' < cnt r ws+one x ws∧∃ (x:Str) (r:Nat),σ'=[some (.ref p),some (.str w),some (.str x)]∧FW C H' p dx d r ws∧Ap2 p d H H'∧Wd x∧(w∉ws→x=w)∧m'=cnt r ws+one x ws∧r+m'≤n+(cnt n ws+one w ws)∧((x=w∧r=n)∨Vw x.cps.toList < r),fun _ _ h=>h,?_⟩
  have o1:one x ws=1:=if_pos hm
  refine ⟨_,rfl,p,C,dx,_,_,rfl,A1.ob,rc.cl,rc.nR,jbs,r,rfl,by omega,fun y hy hy2 hv=>?_⟩
  refine ⟨_,rfl,p,C,dx,_,_,rfl,A1.ob,rc.cl,rc.nR,jbs,_,_,rfl,rfl,dx,_,A1.ob,by show 2 < 1000;decide,?_⟩
  rw [jna]
  have hc:cnt (r+1) ws+one y ws≤cnt r ws:=by
   by_cases hy3:y∈ws
   ·have:=jrz hy3 hv
    rw [show one y ws=1 from if_pos hy3];omega
   ·have:=jih r ws
    rw [show one y ws=0 from if_neg hy3];omega
  refine ⟨cnt (r+1) ws+one y ws,by omega,y,r+1,rfl,⟨by rw [jq1];rfl,by rw [jqb hpd.symm];exact A1.dk⟩,ap1.trans fun b o h1 _ e=>by rw [jqb h1];exact e,hy,fun z=>absurd (hxw z▸hm) z,rfl,by omega,.inr (by omega)⟩
 ·refine iteN (decide_eq_false hm) ?_
  refine ⟨_,rfl,p,C,dx,_,_,rfl,A1.ob,rc.cl,rc.nT,jbt,_,rfl,d,_,rfl,DPut.k (k:=.inr x) A1.dk (by rw [jvr,sizeLine_eq];omega),?_⟩
  rw [jvh]
  have ea:addW ws x=ws++[x]:=by unfold addW;rw [if_neg hm]
  rw [ea]
  have o1:one x ws=0:=if_neg hm
  have hc:r+cnt r (ws++[x])≤ws.length+1:=by
   rw [jd7]
   rcases hv0 with ⟨rfl,rfl⟩|hv0
   ·split<;>omega
   ·rw [if_neg (by omega)];omega
  refine ⟨_,rfl,k x r _ hx hm hxw hc (ap1.trans fun b o _ h2 e=>by rw [jqb h2];exact e) ⟨by rw [jqb hpd];exact A1.ob,jq1⟩⟩
end S9
namespace S9
open PySem L2 SW
variable {K:PySem.W.Frag} {vs:List V} {H:Hp} {Q:VK} {E:XK} {N C:Addr}
def jwi:Sp:=fun vs H Q _=>∃ (p q:Addr) (x:V) (src:Str) (path:V) (e hd:V) (n:Int),vs=[.ref p,hd,.int n]∧H p=some (.tup [x,.str src,path,e])∧
 ∀ (r s:Addr) (H':Hp),Same H H'→H' s=some (.tup [.str src,path])→H' r=some (.tup [.str "row",hd,.int n,.ref s])→Q (.ref r) H'
def t_ra (K:PySem.W.Frag):TS:=(tRet (tTup (jq3 (tC (.str "row")) (jq3 (tVar 1) (jq3 (tVar 2) (jq3 (tTup (jq3 (tOp (rIxT K) (tVar 0) (tC (.int 1))) (jq3 (tOp (rIxT K) (tVar 0) (tC (.int 2))) tNil))) tNil))))))
theorem rd_ra (h:jwi vs H Q E):t_ra K (fin Q) (start ["spot","head","many"] vs) H:=by
 obtain ⟨p,q,x,src,path,e,hd,n,rfl,hp,k⟩:=h
 refine ⟨_,rfl,_,rfl,_,rfl,p,_,_,_,rfl,rfl,SqT.of hp,rfl,_,rfl,p,_,_,_,rfl,rfl,SqT.of hp,rfl,szl,fun s hs=>⟨szl,fun r hr=>?_⟩⟩
 have s1:=jq2 (o:=.tup [.str src,path]) hs
 have s2:=jq2 (o:=.tup [.str "row",hd,.int n,.ref s]) hr
 exact k r s _ (s1.trans s2) (s2 _ _ jq1) jq1
end S9
namespace S9
open PySem L2 SW
variable {K:PySem.W.Frag} {vs:List V} {H:Hp} {Q:VK} {E:XK} {N C:Addr}
def jec (C:Addr):Sp:=fun vs H Q _=>∃ (p dx l:Addr) (us:List Str),vs=[.ref p,.ref l]∧H p=some (.ins C dx [])∧H l=some (.lst (us.map V.str))∧us.length≤900∧
 ∀ (d:Addr) (ws:List Str) (H':Hp),H d=none→(∀ x,x∈ws↔x∈us)→ws.length≤us.length→(∀ b o,b≠p→H b=some o→H' b=some o)→FW C H' p dx d 0 ws→Q .non H'
def jnh (K:PySem.W.Frag) (a_FreshWords:Addr):TS:=(jb6 (tFld K (tVar 0) "taken") (tVar 2) (tC (.bl true)))
def t_wi (K:PySem.W.Frag) (a_FreshWords:Addr):TS:=(tSeq (sFld K (tVar 0) jku "taken") (tSeq (tFor (jkr K (tVar 1)) (jqk 2) (jnh K a_FreshWords)) (sFld K (tVar 0) (tC (.int 0)) "tried")))
theorem jhl (ws:List Str) (x y:Str):y∈addW ws x↔y∈ws∨y=x:=by
 unfold addW
 split
 ·rename_i h
  exact ⟨.inl,fun z=>z.elim id fun e=>e▸h⟩
 ·simp
theorem jhm (ws:List Str) (x:Str):(addW ws x).length≤ws.length+1:=by
 unfold addW
 split
 ·omega
 ·simp
theorem jiu {d:Addr}:([(("taken":Str),V.ref d)]).lookup ("taken":Str)=some (V.ref d):=by
 have e:(("taken":Str) == "taken")=true:=by decide+kernel
 simp only [List.lookup,e]
theorem rd_wi (rc:RW K C) (h:jec C vs H Q E):t_wi K C (fin Q) (start ["self","taken","word"] vs) H:=by
 obtain ⟨p,dx,l,us,rfl,hp,hl,hn,k⟩:=h
 intro d hd
 have s1:Same H (upd H d (.dK [])):=jq2 hd
 have d1:(upd H d (.dK [])) d=some (.dK []):=jq1
 generalize upd H d (.dK [])=H1 at s1 d1 ⊢
 refine ⟨_,rfl,p,C,dx,[],rfl,s1 _ _ hp,rc.cl,rc.nT,by show 0 < 1000;decide,?_⟩
 have hpd:p≠d:=jq9 hp hd
 have hpl:l≠p:=jxk hl hp (by intro z;cases z)
 have hld:l≠d:=jq9 hl hd
 have o2:(upd H1 p (.ins C dx (putF "taken" (.ref d) []))) p=some (.ins C dx [("taken",.ref d)]):=jq1
 have d2:(upd H1 p (.ins C dx (putF "taken" (.ref d) []))) d=some (.dK (jj9 [])):=by rw [jqb hpd.symm];exact d1
 have a2:∀ b o,b≠p→H b=some o→(upd H1 p (.ins C dx (putF "taken" (.ref d) []))) b=some o:=fun b o h e=>by rw [jqb h];exact s1 _ _ e
 generalize upd H1 p (.ins C dx (putF "taken" (.ref d) []))=H2 at o2 d2 a2 ⊢
 refine ⟨_,rfl,l,rfl,⟨_,SqL.of (a2 _ _ hpl hl)⟩,?_⟩
 refine jzc (K:=K) (a:=l) (xs:=us.map V.str) (fun i σ H'=>∃ j2 ws,σ=[some (.ref p),some (.ref l),j2]∧H' p=some (.ins C dx [("taken",.ref d)])∧H' d=some (.dK (jj9 ws))∧(∀ b o,b≠p→H b=some o→H' b=some o)∧(∀ x,x∈ws↔x∈us.take i)∧ws.length≤i)
  ⟨none,[],rfl,o2,d2,a2,by simp,Nat.le_refl _⟩ (fun i σ H' _ hP=>?_) ?_ ?_
 ·obtain ⟨_,_,_,_,_,a,_⟩:=hP
  exact SqL.of (a _ _ hpl hl)
 ·rintro i y σ H3 hi ⟨j2,ws,rfl,o3,d3,a3,m3,l3⟩
  obtain ⟨x,hx,rfl⟩:∃ x,us[i]?=some x∧y=V.str x:=by
   rw [List.getElem?_map] at hi
   cases e:us[i]? with
   | none=>rw [e] at hi;cases hi
   | some z=>rw [e] at hi;exact ⟨z,rfl,(Option.some.inj hi).symm⟩
  have hil:i < us.length:=(List.getElem?_eq_some_iff.mp hx).1
  have hlen:=jhm ws x
  refine ⟨_,rfl,p,C,dx,_,_,rfl,o3,rc.cl,rc.nT,jiu,_,rfl,d,_,rfl,DPut.k (k:=.inr x) d3 (jjp (by rw [jvr];omega)),?_⟩
  rw [jvh]
  refine ⟨_,addW ws x,rfl,by rw [jqb hpd];exact o3,jq1,fun b o h e=>by rw [jqb (jq9 e hd)];exact a3 b o h e,fun z=>?_,by omega⟩
  rw [jhl,m3,List.take_add_one,hx]
  simp
 ·rintro σ H3 ⟨j2,ws,rfl,o3,d3,a3,m3,l3⟩
  rw [List.length_map] at m3 l3
  refine ⟨_,rfl,p,C,dx,_,rfl,o3,rc.cl,rc.nR,by show 1 < 1000;decide,?_⟩
  refine k d ws _ hd (fun x=>by rw [m3,List.take_length]) l3 (fun b o h e=>by rw [jqb h];exact a3 b o h e) ⟨?_,by rw [jqb hpd.symm];exact d3⟩
  rw [jq1]
  simp only [putF,if_neg nTR]
  rfl
end S9
namespace S9
open PySem L2 SW
variable {K:PySem.W.Frag} {vs:List V} {H:Hp} {Q:VK} {E:XK} {N C:Addr}
structure BkT (H:Hp) (v1 v2 v3:V) (t1 t2 t3:T):Prop where
 a:StAt H "star" [] (gOf t1) v1
 b:StAt H "sta" ["sab"] (gOf t2) v2
 c:StAt H "st" ["sab","tab"] (gOf t3) v3
theorem BkT.mono {H H':Hp} {v1 v2 v3:V} {t1 t2 t3:T} (s:Same H H') (h:BkT H v1 v2 v3 t1 t2 t3):BkT H' v1 v2 v3 t1 t2 t3:=⟨h.a.mono s,h.b.mono s,h.c.mono s⟩
theorem BkT.g {H:Hp} {v1 v2 v3:V} {t1 t2 t3:T} (h:BkT H v1 v2 v3 t1 t2 t3):Bk H v1 v2 v3 (gOf t1) (gOf t2) (gOf t3):=⟨h.a,h.b,h.c⟩
end S9
namespace S9
open PySem L2 SW
variable {K:PySem.W.Frag} {vs:List V} {H:Hp} {Q:VK} {E:XK} {N C:Addr}
theorem je4:∀ {ws ls:List Str},ws.Nodup→(∀ x∈ws,x∈ls)→ws.length≤ls.length
 | [],_,_,_=>Nat.zero_le _
 | x :: ws,ls,nd,h=>by
  have hx:=h x List.mem_cons_self
  obtain ⟨n1,n2⟩:=List.nodup_cons.mp nd
  have:=je4 (ls:=ls.erase x) n2 fun y hy=>(List.mem_erase_of_ne (by rintro rfl;exact n1 hy)).mpr (h y (List.mem_cons_of_mem _ hy))
  rw [List.length_erase_of_mem hx] at this
  have:=List.length_pos_of_mem hx
  rw [List.length_cons];omega
theorem jg8 {ws:List Str} (h:Up ws):ws.Nodup:=List.Pairwise.imp (fun {a b} (z:SLt a b) (e:a=b)=>by subst e;exact SLt.irrefl a z) h
theorem jez {ws:List Str} {t:T} (h:Up ws) (m:∀ x,x∈ws↔t.out x):ws.length≤t.names.length:=je4 (jg8 h) fun x hx=>T.names_occ.mpr (T.out_occ ((m x).mp hx))
def jee:Sp:=fun vs H Q _=>∃ (b:Addr) (v1 v2 v3 v:V) (t1 t2 t3 t:T),vs=[.ref b,v]∧H b=some (.lst [v1,v2,v3])∧BkT H v1 v2 v3 t1 t2 t3∧Den H t v∧(∀ y∈[t,t1,t2,t3],y.size≤900∧y.names.length < 64)∧
 ∀ (l:Addr) (us:List Str) (H':Hp),Same H H'→H l=none→H' l=some (.lst (us.map V.str))→us.length≤252→(∀ x,x∈us↔∃ y∈[t,t1,t2,t3],y.out x)→Q (.ref l) H'
def jdz (K:PySem.W.Frag):TS:=(jxn (tBM K "list" jvg (tVar 2) (jq3 (jx7 jac [] E0 (jq3 (tOp (rIxT K) (tVar 3) (tC (.int 2))) tNil)) tNil)))
def t_aon (K:PySem.W.Frag):TS:=(tSeq (tAsg (jx7 jac [] E0 (jq3 (tVar 1) tNil)) (jqk 2)) (tSeq (tFor (jkr K (tVar 0)) (jqk 3) (jdz K)) (tRet (tVar 2))))
theorem rd_aon (h:jee vs H Q E):t_aon K (fin Q) (start ["book","piece","words","stamp"] vs) H:=by
 obtain ⟨b,v1,v2,v3,v,t1,t2,t3,t,rfl,hb,B,hd,hs,k⟩:=h
 have ht:=hs t (by simp)
 refine ⟨_,rfl,t,v,rfl,hd,ht.1,ht.2,fun l ws H1 s1 n1 h1 up1 m1=>?_⟩
 refine ⟨_,rfl,b,rfl,⟨_,SqL.of (s1 _ _ hb)⟩,?_⟩
 have hlb:l≠b:=(jq9 hb n1).symm
 refine jzc (K:=K) (a:=b) (xs:=[v1,v2,v3]) (fun i σ H'=>∃ (j3:Option V) (us:List Str),σ=[some (.ref b),some v,some (.ref l),j3]∧Same H H'∧H' l=some (.lst (us.map V.str))∧us.length≤63 * (i+1)∧∀ x,x∈us↔∃ y∈t :: [t1,t2,t3].take i,y.out x)
  ⟨none,ws,rfl,s1,h1,by have:=jez up1 m1;omega,fun x=>by rw [m1];simp⟩ (fun i σ H' _ hP=>?_) ?_ ?_
 ·obtain ⟨_,_,_,s,_⟩:=hP
  exact SqL.of (s _ _ hb)
 ·rintro i y σ H2 hi ⟨j3,us,rfl,s2,h2,l2,m2⟩
  have B2:=B.mono s2
  have go:∀ (w:Str) (ps:List Str) (tt:T),StAt H2 w ps (gOf tt) y→tt∈[t,t1,t2,t3]→i≤3→[t1,t2,t3].take (i+1)=[t1,t2,t3].take i++[tt]→∀ D:Ends,(∀ σ H',(∃ (j3:Option V) (us:List Str),σ=[some (.ref b),some v,some (.ref l),j3]∧Same H H'∧H' l=some (.lst (us.map V.str))∧us.length≤63 * (i+1+1)∧∀ x,x∈us↔∃ y∈t :: [t1,t2,t3].take (i+1),y.out x)→D.nx σ H')→jqk 3 y [some (.ref b),some v,some (.ref l),j3] H2 fun σ2 H2=>jdz K D σ2 H2:=by
   intro w ps tt st hm hi3 e D hD
   obtain ⟨p,q,x,rfl,hp,_,dx⟩:=st
   have hg:=hs tt hm
   refine ⟨_,rfl,.inl ⟨rfl,_,SqL.of h2⟩,_,rfl,p,_,_,_,rfl,rfl,SqT.of hp,rfl,tt,x,rfl,jzm dx,hg.1,hg.2,fun l' ws' H3 s3 n3 h3 up3 m3=>?_⟩
   have hw:=jez up3 m3
   refine ⟨l,l',_,_,rfl,rfl,s3 _ _ h2,h3,by rw [List.length_map,List.length_map,sizeLine_eq];omega,hD _ _ ⟨_,us++ws',rfl,jqr (s2.trans s3) n1,by rw [jq1,List.map_append],by rw [List.length_append];omega,fun z=>?_⟩⟩
   rw [List.mem_append,m2,m3,e]
   constructor
   ·rintro (⟨y,hy,o⟩|o)
    ·refine ⟨y,?_,o⟩
     rcases List.mem_cons.mp hy with rfl|hy
     ·exact List.mem_cons_self
     ·exact List.mem_cons_of_mem _ (List.mem_append_left _ hy)
    ·exact ⟨tt,List.mem_cons_of_mem _ (List.mem_append_right _ (List.mem_singleton.mpr rfl)),o⟩
   ·rintro ⟨y,hy,o⟩
    rcases List.mem_cons.mp hy with rfl|hy
    ·exact .inl ⟨_,List.mem_cons_self,o⟩
    ·rcases List.mem_append.mp hy with hy|hy
     ·exact .inl ⟨y,List.mem_cons_of_mem _ hy,o⟩
     ·rw [List.mem_singleton] at hy
      subst hy
      exact .inr o
  match i,hi,go with
  | 0,hi,go=>cases hi;exact go _ _ _ B2.a (by simp) (by omega) rfl _ (fun _ _ z=>z)
  | 1,hi,go=>cases hi;exact go _ _ _ B2.b (by simp) (by omega) rfl _ (fun _ _ z=>z)
  | 2,hi,go=>cases hi;exact go _ _ _ B2.c (by simp) (by omega) rfl _ (fun _ _ z=>z)
  | n+3,hi,_=>simp at hi
 ·rintro σ H2 ⟨j3,us,rfl,s2,h2,l2,m2⟩
  exact ⟨_,rfl,k l us H2 s2 n1 h2 (by simp at l2;omega) m2⟩
end S9
namespace S9
open PySem SW
inductive Hd where
 | num (n:Int)|name (w:Str)|sum|less|cho|lt (w:Str)
def Hd.ar:Hd→Nat
 | .num _=>0
 | .name _=>0
 | .sum=>2
 | .less=>2
 | .cho=>3
 | .lt _=>2
inductive Rw where
 | row (h:Hd) (src:Str) (path:List Nat)
 | rdy (n z:Nat)
def Rw.ar:Rw→Nat
 | .row h _ _=>h.ar
 | .rdy _ _=>0
def Rw.wt:Rw→Nat
 | .row _ _ _=>1
 | .rdy _ z=>z
mutual
inductive Mg where
 | called (w:Str)
 | ready (n z:Nat)
 | handed (t:T) (src:Str) (path:List Nat) (e:En)
inductive En where
 | nil
 | cons (w:Str) (m:Mg) (e:En)
end
def En.look:En→Str→Option Mg
 | .nil,_=>none
 | .cons w m e,v=>if w=v then some m else e.look v
def En.put:En→Str→Mg→En
 | .nil,v,n=>.cons v n .nil
 | .cons w m e,v,n=>if w=v then .cons w n e else .cons w m (e.put v n)
def En.len:En→Nat
 | .nil=>0
 | .cons _ _ e=>e.len+1
theorem En.put_len (v:Str) (n:Mg):∀ e:En,(e.put v n).len≤e.len+1
 | .nil=>Nat.le_refl _
 | .cons w m e=>by
  have:=En.put_len v n e
  unfold En.put
  split<;>simp only [En.len]<;>omega
theorem En.look_put (v x:Str) (n:Mg):∀ e:En,(e.put v n).look x=if v=x then some n else e.look x
 | .nil=>by simp only [En.put,En.look]
 | .cons w m e=>by
  have ih:=En.look_put v x n e
  unfold En.put
  split
  ·rename_i h
   subst h
   simp only [En.look]
   split<;>rfl
  ·rename_i h
   simp only [En.look,ih]
   split
   ·rename_i h2
    subst h2
    rw [if_neg (fun z=>h z.symm)]
   ·rfl
structure Spot where
 t:T
 src:Str
 path:List Nat
 e:En
def Spot.kid (s:Spot) (i:Nat) (t:T):Spot:=⟨t,s.src,s.path++[i],s.e⟩
def wi (s:Spot):Nat→List T→List Spot
 | _,[]=>[]
 | i,t :: ts=>s.kid i t :: wi s (i+1) ts
def Spot.within (s:Spot):List Spot:=wi s 0 s.t.kids
theorem jdf (s:Spot):∀ (ts:List T) (i:Nat),(wi s i ts).length=ts.length
 | [],_=>rfl
 | _ :: ts,i=>by simp [wi,jdf s ts]
def pl:T→Option Hd
 | .num n=>some (.num n)
 | .sum _ _=>some .sum
 | .less _ _=>some .less
 | .cho _ _ _=>some .cho
 | _=>none
theorem jpt {t:T} {h:Hd} (e:pl t=some h):h.ar=t.kids.length:=by
 cases t<;>simp only [pl,Option.some.injEq,reduceCtorEq] at e<;>subst e<;>rfl
inductive Tk (ws:List Str):Spot→List Spot→List Rw→List Str→Prop where
 | plain {s:Spot} {h:Hd}:pl s.t=some h→Tk ws s s.within.reverse [.row h s.src s.path] ws
 | free {s:Spot} {w:Str}:s.t=.name w→s.e.look w=none→Tk ws s [] [.row (.name w) s.src s.path] ws
 | called {s:Spot} {w v:Str}:s.t=.name w→s.e.look w=some (.called v)→Tk ws s [] [.row (.name v) s.src s.path] ws
 | ready {s:Spot} {w:Str} {n z:Nat}:s.t=.name w→s.e.look w=some (.ready n z)→Tk ws s [] [.rdy n z] ws
 | handed {s:Spot} {w:Str} {t:T} {src:Str} {path:List Nat} {e:En}:s.t=.name w→s.e.look w=some (.handed t src path e)→Tk ws s [⟨t,src,path,e⟩] [] ws
 | lt {s:Spot} {w x:Str} {a b:T}:s.t=.lt w a b→Wd x→x∉ws→(w∉ws→x=w)→
  Tk ws s [⟨b,s.src,s.path++[1],s.e.put w (.called x)⟩,s.kid 0 a] [.row (.lt x) s.src s.path] (ws++[x])
inductive Run:List Spot→List Rw→List Str→List Rw→List Str→Prop where
 | nil {R:List Rw} {ws:List Str}:Run [] R ws R ws
 | step {S P:List Spot} {s:Spot} {R rs R':List Rw} {ws ws' ws'':List Str}:Tk ws s P rs ws'→Run (S++P) (R++rs) ws' R' ws''→Run (S++[s]) R ws R' ws''
def Sts:T→Prop
 | .num _=>False
 | .name _=>False
 | .sum a b=>Sts a∨Sts b
 | .less a b=>Sts a∨Sts b
 | .cho a b c=>Sts a∨Sts b∨Sts c
 | .lt _ a b=>Sts a∨Sts b
 | .st0 _=>True
 | .st1 _ _=>True
 | .st2 _ _ _=>True
def Mg.isH:Mg→Prop
 | .handed _ _ _ _=>True
 | _=>False
def Op (s:Spot):Prop:=Sts s.t∨∃ w m,s.t.out w∧s.e.look w=some m∧m.isH
theorem jid {s:Spot} {t:T} {i:Nat} (h:¬ Op s) (h1:Sts t→Sts s.t) (h2:∀ w,t.out w→s.t.out w):¬ Op (s.kid i t):=by
 rintro (z|⟨w,m,o,l,i⟩)
 ·exact h (.inl (h1 z))
 ·exact h (.inr ⟨w,m,h2 w o,l,i⟩)
theorem op_wi {s:Spot} {ts:List T} (h:¬ Op s) (h1:∀ t∈ts,(Sts t→Sts s.t)∧∀ w,t.out w→s.t.out w):∀ (i:Nat),∀ k∈wi s i ts,¬ Op k:=by
 induction ts with
 | nil=>intro i k hk;cases hk
 | cons t ts ih=>
  intro i k hk
  rcases List.mem_cons.mp hk with rfl|hk
  ·exact jid h (h1 t (.head _)).1 (h1 t (.head _)).2
  ·exact ih (fun t ht=>h1 t (.tail _ ht)) (i+1) k hk
theorem tk_op {ws ws':List Str} {s:Spot} {P:List Spot} {rs:List Rw} (h:Tk ws s P rs ws') (o:¬ Op s):∀ k∈P,¬ Op k:=by
 cases h with
 | plain e=>
  intro k hk
  rw [List.mem_reverse] at hk
  refine op_wi o (fun t ht=>?_) 0 k hk
  obtain ⟨st,src,path,en⟩:=s
  cases st<;>simp only [pl,reduceCtorEq] at e
  all_goals (simp only [T.kids,List.mem_cons,List.not_mem_nil,or_false] at ht)
  case sum=>rcases ht with rfl|rfl<;>exact ⟨fun z=>by simp [Sts,z],fun w z=>by simp [T.out,z]⟩
  case less=>rcases ht with rfl|rfl<;>exact ⟨fun z=>by simp [Sts,z],fun w z=>by simp [T.out,z]⟩
  case cho=>rcases ht with rfl|rfl|rfl<;>exact ⟨fun z=>by simp [Sts,z],fun w z=>by simp [T.out,z]⟩
 | free _ _=>intro k hk;cases hk
 | called _ _=>intro k hk;cases hk
 | ready _ _=>intro k hk;cases hk
 | handed e l=>exact absurd (.inr ⟨_,_,by rw [e];exact rfl,l,True.intro⟩) o
 | @lt w x a b e _ _ _=>
  intro k hk
  rcases List.mem_cons.mp hk with rfl|hk
  ·rintro (z|⟨v,m,o2,l,i⟩)
   ·exact o (.inl (by rw [e];exact .inr z))
   ·rw [En.look_put] at l
    by_cases hv:w=v
    ·subst hv
     rw [if_pos rfl] at l
     cases l
     exact i
    ·rw [if_neg hv] at l
     exact o (.inr ⟨v,m,by rw [e];exact .inr ⟨hv,o2⟩,l,i⟩)
  ·rw [List.mem_singleton] at hk
   subst hk
   exact jid o (fun z=>by rw [e];exact .inl z) (fun w z=>by rw [e];exact .inl z)
def wtT (f:Str→Nat):T→Nat
 | .num _=>1
 | .name w=>f w
 | .sum a b=>1+wtT f a+wtT f b
 | .less a b=>1+wtT f a+wtT f b
 | .cho a b c=>1+wtT f a+wtT f b+wtT f c
 | .lt w a b=>1+wtT f a+wtT (fun v=>if w=v then 1 else f v) b
 | .st0 _=>1
 | .st1 _ a=>1+wtT f a
 | .st2 _ a b=>1+wtT f a+wtT f b
mutual
def Mg.wt (h:Nat):Mg→Nat
 | .called _=>1
 | .ready _ z=>z
 | .handed t _ _ e=>h+wtT (e.fw h) t
def En.fw (h:Nat):En→Str→Nat
 | .nil=>fun _=>1
 | .cons w m e=>fun v=>if w=v then m.wt h else e.fw h v
end
def Spot.wt (h:Nat) (s:Spot):Nat:=wtT (s.e.fw h) s.t
def wtS (h:Nat) (S:List Spot):Nat:=(S.map (Spot.wt h)).sum
def wtR (R:List Rw):Nat:=(R.map Rw.wt).sum
theorem jx9 (h:Nat) (a b:List Spot):wtS h (a++b)=wtS h a+wtS h b:=by simp [wtS]
theorem jxx (h:Nat) (s:Spot):wtS h [s]=s.wt h:=by simp [wtS]
theorem jv1 (h:Nat) (s:Spot) (r:List Spot):wtS h (s :: r)=s.wt h+wtS h r:=by simp [wtS]
theorem jjm (h:Nat):wtS h []=0:=rfl
theorem jdd (h:Nat) (a:List Spot):wtS h a.reverse=wtS h a:=by simp [wtS]
theorem jjv (a b:List Rw):wtR (a++b)=wtR a+wtR b:=by simp [wtR]
theorem jj1 (r:Rw) (b:List Rw):wtR (r :: b)=r.wt+wtR b:=by simp [wtR]
theorem jj4:wtR []=0:=rfl
theorem jwy (h:Nat) (v:Str):∀ e:En,e.fw h v=match e.look v with|none=>1|some m=>m.wt h
 | .nil=>rfl
 | .cons w m e=>by
  simp only [En.fw,En.look]
  split
  ·rfl
  ·exact jwy h v e
theorem jru (h:Nat) (w x:Str) (e:En):(e.put w (.called x)).fw h=fun v=>if w=v then 1 else e.fw h v:=by
 funext v
 rw [jwy,En.look_put]
 by_cases hv:w=v
 ·rw [if_pos hv,if_pos hv];rfl
 ·rw [if_neg hv,if_neg hv,jwy]
theorem ja5 {s:Spot} {h:Nat} {hd:Hd} (e:pl s.t=some hd):s.wt h=1+wtS h s.within:=by
 obtain ⟨st,src,path,en⟩:=s
 cases st<;>simp only [pl,reduceCtorEq] at e
 all_goals simp only [Spot.wt,Spot.within,T.kids,wi,jv1,jjm,wtT,Spot.kid]
 all_goals omega
theorem jn8 {s:Spot} {h:Nat} {w x:Str} {a b:T} (e:s.t=.lt w a b):s.wt h=1+wtS h [⟨b,s.src,s.path++[1],s.e.put w (.called x)⟩,s.kid 0 a]:=by
 obtain ⟨st,src,path,en⟩:=s
 simp only at e
 subst e
 simp only [jv1,jjm,Spot.wt,jru,Spot.kid,wtT]
 omega
theorem jjl {s:Spot} {h:Nat} {w:Str} (e:s.t=.name w):s.wt h=match s.e.look w with|none=>1|some m=>m.wt h:=by
 unfold Spot.wt
 rw [e]
 exact jwy h w s.e
theorem jiq {ws ws':List Str} {s:Spot} {P:List Spot} {rs:List Rw} (h:Tk ws s P rs ws'):wtS 0 P+wtR rs=s.wt 0:=by
 cases h with
 | plain e=>rw [ja5 e,jdd,jj1,jj4];simp only [Rw.wt];omega
 | free e l=>rw [jjl e,l];rfl
 | called e l=>rw [jjl e,l];rfl
 | ready e l=>rw [jjl e,l];simp only [jjm,jj1,jj4,Rw.wt,Mg.wt];omega
 | handed e l=>rw [jjl e,l];simp only [jv1,jjm,jj4,Mg.wt,Spot.wt];omega
 | @lt w x a b e _ _ _=>rw [jn8 (x:=x) e,jj1,jj4];simp only [Rw.wt];omega
theorem jem {S:List Spot} {R R':List Rw} {ws ws':List Str} (h:Run S R ws R' ws'):wtR R'=wtS 0 S+wtR R:=by
 induction h with
 | nil=>rw [jjm,Nat.zero_add]
 | step a _ ih=>
  rw [ih,jx9,jx9,jxx,jjv,← jiq a];omega
end S9
namespace S9
open PySem SW
def SF (w:Str) (k:Nat):Prop:=fitN w=some k
def BT (t:T) (path:List Nat) (n:Nat):Prop:=WT SF t∧path.length+t.size≤1000∧n+t.size≤1000∧t.size≤900∧t.names.length < 64
mutual
def Mg.ok (P:Nat→Nat→Prop):Mg→Prop
 | .called _=>True
 | .ready n z=>1≤z∧P n z
 | .handed t _ path e=>BT t path e.len∧e.ok P
def En.ok (P:Nat→Nat→Prop):En→Prop
 | .nil=>True
 | .cons w m e=>m.ok P∧e.ok P∧e.look w=none
end
def Spot.ok (P:Nat→Nat→Prop) (s:Spot):Prop:=BT s.t s.path s.e.len∧s.e.ok P
def Rw.ok (P:Nat→Nat→Prop):Rw→Prop
 | .row _ _ _=>True
 | .rdy n z=>1≤z∧P n z
mutual
theorem Mg.ok_mono {P P':Nat→Nat→Prop} (h:∀ n z,P n z→P' n z):∀ {m:Mg},m.ok P→m.ok P'
 | .called _,_=>True.intro
 | .ready _ _,a=>⟨a.1,h _ _ a.2⟩
 | .handed _ _ _ e,a=>⟨a.1,En.ok_mono h (e:=e) a.2⟩
theorem En.ok_mono {P P':Nat→Nat→Prop} (h:∀ n z,P n z→P' n z):∀ {e:En},e.ok P→e.ok P'
 | .nil,_=>True.intro
 | .cons _ m e,a=>⟨Mg.ok_mono h (m:=m) a.1,En.ok_mono h (e:=e) a.2.1,a.2.2⟩
end
theorem Spot.ok_mono {P P':Nat→Nat→Prop} (h:∀ n z,P n z→P' n z) {s:Spot} (a:s.ok P):s.ok P':=⟨a.1,En.ok_mono h a.2⟩
theorem Rw.ok_mono {P P':Nat→Nat→Prop} (h:∀ n z,P n z→P' n z):∀ {r:Rw},r.ok P→r.ok P'
 | .row _ _ _,_=>True.intro
 | .rdy _ _,a=>⟨a.1,h _ _ a.2⟩
variable {P:Nat→Nat→Prop}
theorem jww {v:Str} {m:Mg}:∀ {e:En},e.ok P→e.look v=some m→m.ok P
 | .nil,_,h=>by simp only [En.look,reduceCtorEq] at h
 | .cons w n e,a,h=>by
  simp only [En.look] at h
  split at h
  ·cases h;exact a.1
  ·exact jww (e:=e) a.2.1 h
theorem ji6 {v:Str} {m:Mg} (hm:m.ok P):∀ {e:En},e.ok P→(e.put v m).ok P
 | .nil,_=>⟨hm,True.intro,rfl⟩
 | .cons w n e,a=>by
  unfold En.put
  split
  ·exact ⟨hm,a.2⟩
  ·rename_i hw
   exact ⟨a.1,ji6 hm (e:=e) a.2.1,by rw [En.look_put,if_neg (fun z=>hw z.symm)];exact a.2.2⟩
theorem jii {t u:T} {path:List Nat} {n m:Nat} (i:Nat) (h:BT t path n) (hu:u∈t.kids) (hm:m≤n+1):BT u (path++[i]) m:=by
 obtain ⟨a,b,c,d,e⟩:=h
 have key:WT SF u∧u.size+1≤t.size∧u.names.length≤t.names.length:=by
  cases t<;>simp only [T.kids,List.mem_cons,List.not_mem_nil,or_false] at hu
  case sum=>rcases hu with rfl|rfl<;>simp only [WT,T.size,T.names,List.length_append] at *<;>exact ⟨by simp [a],by omega,by omega⟩
  case less=>rcases hu with rfl|rfl<;>simp only [WT,T.size,T.names,List.length_append] at *<;>exact ⟨by simp [a],by omega,by omega⟩
  case cho=>rcases hu with rfl|rfl|rfl<;>simp only [WT,T.size,T.names,List.length_append] at *<;>exact ⟨by simp [a],by omega,by omega⟩
  case lt=>rcases hu with rfl|rfl<;>simp only [WT,T.size,T.names,List.length_append] at *<;>exact ⟨by simp [a],by omega,by omega⟩
  case st1=>subst hu;simp only [WT,T.size,T.names,List.length_append] at *;exact ⟨by simp [a],by omega,by omega⟩
  case st2=>rcases hu with rfl|rfl<;>simp only [WT,T.size,T.names,List.length_append] at *<;>exact ⟨by simp [a],by omega,by omega⟩
 refine ⟨key.1,?_,?_,?_,?_⟩
 ·rw [List.length_append,List.length_singleton];omega
 ·omega
 ·omega
 ·omega
theorem jk4 {s:Spot} {t:T} {i:Nat} (h:s.ok P) (ht:t∈s.t.kids):(s.kid i t).ok P:=⟨jii i h.1 ht (by show s.e.len≤_;omega),h.2⟩
theorem jn9 {s:Spot} (h:s.ok P):∀ (ts:List T) (i:Nat),(∀ t∈ts,t∈s.t.kids)→∀ k∈wi s i ts,k.ok P
 | [],_,_,k,hk=>by cases hk
 | t :: ts,i,ht,k,hk=>by
  rcases List.mem_cons.mp hk with rfl|hk
  ·exact jk4 h (ht t (.head _))
  ·exact jn9 h ts (i+1) (fun u hu=>ht u (.tail _ hu)) k hk
theorem jde {s:Spot} (h:s.ok P):∀ k∈s.within,k.ok P:=jn9 h _ 0 fun _ z=>z
theorem jis {ws ws':List Str} {s:Spot} {Q:List Spot} {rs:List Rw} (h:Tk ws s Q rs ws') (o:s.ok P):(∀ k∈Q,k.ok P)∧∀ r∈rs,r.ok P:=by
 cases h with
 | plain e=>
  refine ⟨fun k hk=>jde o k (List.mem_reverse.mp hk),fun r hr=>?_⟩
  rw [List.mem_singleton] at hr;subst hr;exact True.intro
 | free e l=>
  refine ⟨fun k hk=>(nomatch hk),fun r hr=>?_⟩
  rw [List.mem_singleton] at hr;subst hr;exact True.intro
 | called e l=>
  refine ⟨fun k hk=>(nomatch hk),fun r hr=>?_⟩
  rw [List.mem_singleton] at hr;subst hr;exact True.intro
 | ready e l=>
  refine ⟨fun k hk=>(nomatch hk),fun r hr=>?_⟩
  rw [List.mem_singleton] at hr;subst hr;exact jww o.2 l
 | handed e l=>
  refine ⟨fun k hk=>?_,fun r hr=>(nomatch hr)⟩
  rw [List.mem_singleton] at hk;subst hk;exact jww (m:=.handed _ _ _ _) o.2 l
 | @lt w x a b e _ _ _=>
  refine ⟨fun k hk=>?_,fun r hr=>?_⟩
  ·rcases List.mem_cons.mp hk with rfl|hk
   ·exact ⟨jii 1 o.1 (by rw [e];simp [T.kids]) (En.put_len _ _ _),ji6 (m:=.called x) True.intro o.2⟩
   ·rw [List.mem_singleton] at hk;subst hk;exact jk4 o (by rw [e];simp [T.kids])
  ·rw [List.mem_singleton] at hr;subst hr;exact True.intro
theorem jdc {f:Str→Nat} (h:∀ v,1≤f v) (t:T):1≤wtT f t:=by
 cases t<;>simp only [wtT]<;>first|exact h _|omega
mutual
theorem Mg.wt_pos {h:Nat}:∀ {m:Mg},m.ok P→1≤m.wt h
 | .called _,_=>Nat.le_refl _
 | .ready _ _,a=>a.1
 | .handed t _ _ e,a=>by
  have:=jdc (fun v=>En.fw_pos (h:=h) (e:=e) a.2 v) t
  simp only [Mg.wt];omega
theorem En.fw_pos {h:Nat}:∀ {e:En},e.ok P→∀ v,1≤e.fw h v
 | .nil,_,_=>Nat.le_refl _
 | .cons w m e,a,v=>by
  simp only [En.fw]
  split
  ·exact Mg.wt_pos (m:=m) a.1
  ·exact En.fw_pos (e:=e) a.2.1 v
end
theorem wt_pos {h:Nat} {s:Spot} (o:s.ok P):1≤s.wt h:=jdc (En.fw_pos o.2) _
theorem jb0 {h:Nat}:∀ {S:List Spot},(∀ s∈S,s.ok P)→S.length≤wtS h S
 | [],_=>Nat.le_refl _
 | s :: S,o=>by
  have h1:=wt_pos (h:=h) (o s (.head _))
  have h2:=jb0 (h:=h) (S:=S) fun x hx=>o x (.tail _ hx)
  rw [jv1,List.length_cons];omega
theorem jk5:∀ {R:List Rw},(∀ r∈R,r.ok P)→R.length≤wtR R
 | [],_=>Nat.le_refl _
 | r :: R,o=>by
  have h1:1≤r.wt:=by
   have:=o r (.head _)
   cases r with
   | row=>exact Nat.le_refl _
   | rdy=>exact this.1
  have h2:=jk5 (R:=R) fun x hx=>o x (.tail _ hx)
  rw [jj1,List.length_cons];omega
theorem jit {ws ws':List Str} {s:Spot} {Q:List Spot} {rs:List Rw} (h:Tk ws s Q rs ws') (o:s.ok P):wtS 1 Q < s.wt 1:=by
 cases h with
 | plain e=>rw [ja5 e,jdd];omega
 | free e l=>rw [jjl e,l,jjm];exact Nat.one_pos
 | called e l=>rw [jjl e,l,jjm];exact Nat.one_pos
 | ready e l=>rw [jjl e,l,jjm];exact (jww o.2 l).1
 | handed e l=>rw [jjl e,l,jxx];simp only [Mg.wt,Spot.wt];omega
 | @lt w x a b e _ _ _=>rw [jn8 (x:=x) e];omega
theorem jir {ws ws':List Str} {s:Spot} {Q:List Spot} {rs:List Rw} (h:Tk ws s Q rs ws'):ws'.length≤ws.length+rs.length:=by
 cases h<;>simp
theorem ji3 {S:List Spot} {R R':List Rw} {ws ws':List Str} (h:Run S R ws R' ws'):ws'.length+R.length≤ws.length+R'.length:=by
 induction h with
 | nil=>omega
 | step a _ ih=>
  have:=jir a
  rw [List.length_append] at ih;omega
theorem jen {S:List Spot} {R R':List Rw} {ws ws':List Str} (h:Run S R ws R' ws') (hS:∀ s∈S,s.ok P) (hR:∀ r∈R,r.ok P):∀ r∈R',r.ok P:=by
 induction h with
 | nil=>exact hR
 | step a _ ih=>
  have h2:=jis a (hS _ (List.mem_append_right _ (.head _)))
  refine ih (fun s hs=>?_) fun r hr=>?_
  ·rcases List.mem_append.mp hs with z|z
   ·exact hS s (List.mem_append_left _ z)
   ·exact h2.1 s z
  ·rcases List.mem_append.mp hr with z|z
   ·exact hR r z
   ·exact h2.2 r z
theorem jxz:∀ (t:T) {f g:Str→Nat},(∀ v,f v≤g v)→wtT f t≤wtT g t
 | .num _,_,_,_=>Nat.le_refl _
 | .name w,_,_,h=>h w
 | .sum a b,_,_,h=>by have:=jxz a h;have:=jxz b h;simp only [wtT];omega
 | .less a b,_,_,h=>by have:=jxz a h;have:=jxz b h;simp only [wtT];omega
 | .cho a b c,_,_,h=>by have:=jxz a h;have:=jxz b h;have:=jxz c h;simp only [wtT];omega
 | .lt w a b,f,g,h=>by
  have:=jxz a h
  have:=jxz b (f:=fun v=>if w=v then 1 else f v) (g:=fun v=>if w=v then 1 else g v) (fun v=>by split<;>first|exact h v|exact Nat.le_refl _)
  simp only [wtT];omega
 | .st0 _,_,_,_=>Nat.le_refl _
 | .st1 _ a,_,_,h=>by have:=jxz a h;simp only [wtT];omega
 | .st2 _ a b,_,_,h=>by have:=jxz a h;have:=jxz b h;simp only [wtT];omega
mutual
theorem Mg.wt01:∀ m:Mg,m.wt 0≤m.wt 1
 | .called _=>Nat.le_refl _
 | .ready _ _=>Nat.le_refl _
 | .handed t _ _ e=>by
  have:=jxz t (fun v=>En.fw01 e v)
  simp only [Mg.wt];omega
theorem En.fw01:∀ (e:En) (v:Str),e.fw 0 v≤e.fw 1 v
 | .nil,_=>Nat.le_refl _
 | .cons w m e,v=>by
  simp only [En.fw]
  split
  ·exact Mg.wt01 m
  ·exact En.fw01 e v
end
theorem wt01 (s:Spot):s.wt 0≤s.wt 1:=jxz _ (En.fw01 s.e)
theorem jzr {M:Nat} (hM:1≤M):∀ (t:T) {f:Str→Nat},(∀ v,f v≤M)→wtT f t+t.names.length≤t.size+t.names.length * M
 | .num _,_,_=>by simp [wtT,T.names,T.size]
 | .name w,f,h=>by have:=h w;simp only [wtT,T.names,T.size,List.length_singleton,Nat.one_mul];omega
 | .sum a b,_,h=>by have:=jzr hM a h;have:=jzr hM b h;simp only [wtT,T.names,T.size,List.length_append,Nat.add_mul];omega
 | .less a b,_,h=>by have:=jzr hM a h;have:=jzr hM b h;simp only [wtT,T.names,T.size,List.length_append,Nat.add_mul];omega
 | .cho a b c,_,h=>by have:=jzr hM a h;have:=jzr hM b h;have:=jzr hM c h;simp only [wtT,T.names,T.size,List.length_append,Nat.add_mul];omega
 | .lt w a b,f,h=>by
  have:=jzr hM a h
  have:=jzr hM b (f:=fun v=>if w=v then 1 else f v) (fun v=>by split<;>first|exact h v|exact hM)
  simp only [wtT,T.names,T.size,List.length_append,Nat.add_mul];omega
 | .st0 _,_,_=>by simp [wtT,T.names,T.size]
 | .st1 _ a,_,h=>by have:=jzr hM a h;simp only [wtT,T.names,T.size];omega
 | .st2 _ a b,_,h=>by have:=jzr hM a h;have:=jzr hM b h;simp only [wtT,T.names,T.size,List.length_append,Nat.add_mul];omega
theorem jwg {M:Nat} (hM:1≤M) (t:T) {f:Str→Nat} (h:∀ v,f v≤M):wtT f t≤t.size * M:=by
 have h1:=jzr hM t h
 have h2:=t.names_len
 obtain ⟨k,hk⟩:=Nat.le.dest h2
 rw [← hk,Nat.add_mul]
 have:k≤k * M:=Nat.le_mul_of_pos_right k hM
 omega
inductive Pn:List Rw→Nat→Prop where
 | start:Pn [] 1
 | add {R:List Rw} {c:Nat} {r:Rw}:Pn R (c+1)→Pn (R++[r]) (c+r.ar)
theorem jnf {ws ws':List Str} {s:Spot} {Q:List Spot} {rs R:List Rw} {c:Nat} (h:Tk ws s Q rs ws') (p:Pn R (c+1)):Pn (R++rs) (c+Q.length):=by
 cases h with
 | plain e=>
  rw [List.length_reverse,Spot.within,jdf,← jpt e]
  exact p.add (r:=.row _ _ _)
 | free e l=>exact p.add (r:=.row _ _ _)
 | called e l=>exact p.add (r:=.row _ _ _)
 | ready e l=>exact p.add (r:=.rdy _ _)
 | handed e l=>rw [List.append_nil];exact p
 | lt e _ _ _=>exact p.add (r:=.row _ _ _)
theorem jpm {S:List Spot} {R R':List Rw} {ws ws':List Str} (h:Run S R ws R' ws') (p:Pn R S.length):Pn R' 0:=by
 induction h with
 | nil=>exact p
 | step a _ ih=>
  refine ih ?_
  rw [List.length_append]
  refine jnf a ?_
  rw [List.length_append] at p
  exact p
inductive Bd:List Rw→Nat→Prop where
 | nil:Bd [] 0
 | cons {b:List Rw} {c:Nat} {r:Rw}:Bd b (r.ar+c)→Bd (r :: b) (c+1)
theorem jmd {a:List Rw} {k:Nat} (h:Pn a k):∀ {b:List Rw},Bd b k→Bd (a++b) 1:=by
 induction h with
 | start=>exact fun h=>h
 | @add R c r _ ih=>
  intro b h
  rw [List.append_assoc]
  exact ih (.cons (by rw [Nat.add_comm];exact h))
theorem jpn {s:Spot} {R':List Rw} {ws ws':List Str} (h:Run [s] [] ws R' ws'):Bd R' 1:=by
 have:=jmd (jpm h .start) .nil
 rwa [List.append_nil] at this
theorem jg2:∀ {a b:List Rw} {n:Nat},Bd (a++b) n→∃ c,Bd b c
 | [],b,n,h=>⟨n,h⟩
 | r :: a,b,_,.cons h=>jg2 (a:=a) h
end S9
namespace S9
open PySem SW
def Rf (rd:List (List Rw)) (n z:Nat):Prop:=∃ R,rd[n]?=some R∧wtR R≤z
theorem Rf.mono {rd:List (List Rw)} (x:List (List Rw)):∀ n z,Rf rd n z→Rf (rd++x) n z:=by
 rintro n z ⟨R,e,h⟩
 exact ⟨R,by rw [List.getElem?_append_left (List.getElem?_eq_some_iff.mp e).1];exact e,h⟩
inductive Mean:Bool→List (List Rw)→List Str→Spot→Mg→List (List Rw)→List Str→Prop where
 | handed {go:Bool} {rd:List (List Rw)} {ws:List Str} {s:Spot}:Op s→Mean go rd ws s (.handed s.t s.src s.path s.e) rd ws
 | ready {rd:List (List Rw)} {ws ws':List Str} {s:Spot} {R:List Rw}:¬ Op s→Run [s] [] ws R ws'→Mean true rd ws s (.ready rd.length (s.wt 0)) (rd++[R]) ws'
 | late {rd:List (List Rw)} {ws:List Str} {s:Spot}:¬ Op s→Mean false rd ws s (.ready rd.length (s.wt 0)) (rd++[[]]) ws
inductive Open (b1 b2 b3:T) (go:Bool) (rd:List (List Rw)) (ws:List Str) (s:Spot):Spot→List (List Rw)→List Str→Prop where
 | star:s.t=.st0 "star"→Open b1 b2 b3 go rd ws s ⟨b1,"star",[],.nil⟩ rd ws
 | sta {a:T} {m:Mg} {rd1:List (List Rw)} {ws1:List Str}:s.t=.st1 "sta" a→Mean go rd ws (s.kid 0 a) m rd1 ws1→Open b1 b2 b3 go rd ws s ⟨b2,"sta",[],.cons "sab" m .nil⟩ rd1 ws1
 | st {a b:T} {m n:Mg} {rd1 rd2:List (List Rw)} {ws1 ws2:List Str}:s.t=.st2 "st" a b→Mean go rd ws (s.kid 0 a) m rd1 ws1→Mean go rd1 ws1 (s.kid 1 b) n rd2 ws2→Open b1 b2 b3 go rd ws s ⟨b3,"st",[],.cons "sab" m (.cons "tab" n .nil)⟩ rd2 ws2
structure Sta where
 S:List Spot
 R:List Rw
 k:Nat
 ws:List Str
 rd:List (List Rw)
inductive Stp (b1 b2 b3:T) (F:Nat):Sta→Sta→Prop where
 | take {S Q:List Spot} {s:Spot} {R rs:List Rw} {k:Nat} {ws ws':List Str} {rd:List (List Rw)}:Tk ws s Q rs ws'→Stp b1 b2 b3 F ⟨S++[s],R,k,ws,rd⟩ ⟨S++Q,R++rs,k,ws',rd⟩
 | opn {S:List Spot} {s s':Spot} {R:List Rw} {k:Nat} {ws ws':List Str} {rd rd':List (List Rw)}:Open b1 b2 b3 (decide (k+1≤F)) rd ws s s' rd' ws'→Stp b1 b2 b3 F ⟨S++[s],R,k,ws,rd⟩ ⟨S++[s'],R,k+1,ws',rd'⟩
def RdOk (rd:List (List Rw)):Prop:=∀ i R,rd[i]?=some R→Bd R 1∧∀ r∈R,r.ok (Rf (rd.take i))
theorem RdOk.add {rd:List (List Rw)} {R:List Rw} (h:RdOk rd) (b:Bd R 1) (o:∀ r∈R,r.ok (Rf rd)):RdOk (rd++[R]):=by
 intro i R' e
 rcases Nat.lt_or_ge i rd.length with hi|hi
 ·rw [List.getElem?_append_left hi] at e
  rw [List.take_append_of_le_length (Nat.le_of_lt hi)]
  exact h i R' e
 ·rw [List.getElem?_append_right hi] at e
  have:i - rd.length=0:=by
   cases hq:i - rd.length with
   | zero=>rfl
   | succ n=>rw [hq] at e;simp at e
  rw [this] at e
  cases e
  have:i=rd.length:=by omega
  subst this
  rw [List.take_left]
  exact ⟨b,o⟩
theorem jko {go:Bool} {rd rd':List (List Rw)} {ws ws':List Str} {s:Spot} {m:Mg} (h:Mean go rd ws s m rd' ws') (o:s.ok (Rf rd)) :
  ∃ x,rd'=rd++x∧x.length≤1∧m.ok (Rf rd')∧m.wt 1≤s.wt 1+1∧m.wt 0=s.wt 0∧(go=true→RdOk rd→RdOk rd'):=by
 cases h with
 | handed p=>exact ⟨[],(List.append_nil _).symm,Nat.zero_le _,⟨o.1,o.2⟩,by simp only [Mg.wt,Spot.wt];omega,by simp only [Mg.wt,Spot.wt];omega,fun _ z=>z⟩
 | @ready _ _ _ _ R p r=>
  have hw:wtR R=s.wt 0:=by rw [jem r,jxx,jj4];omega
  refine ⟨[R],rfl,Nat.le_refl _,⟨wt_pos o,R,by simp,by omega⟩,?_,rfl,fun _ z=>z.add (jpn r) (jen r ?_ ?_)⟩
  ·have:=wt01 s
   simp only [Mg.wt];omega
  ·intro x hx
   rw [List.mem_singleton] at hx
   exact hx▸o
  ·intro x hx;cases hx
 | late p=>
  refine ⟨[[]],rfl,Nat.le_refl _,⟨wt_pos o,[],by simp,by rw [jj4];exact Nat.zero_le _⟩,?_,rfl,fun z=>by cases z⟩
  have:=wt01 s
  simp only [Mg.wt];omega
structure BkOk (b1 b2 b3:T):Prop where
 a:BT b1 [] 2
 b:BT b2 [] 2
 c:BT b3 [] 2
theorem BT.less {t:T} {p:List Nat} {n m:Nat} (h:BT t p n) (hm:m≤n):BT t p m:=⟨h.1,h.2.1,by have:=h.2.2.1;omega,h.2.2.2⟩
theorem jmj {b1 b2 b3:T} {go:Bool} {rd rd':List (List Rw)} {ws ws':List Str} {s s':Spot} (B:BkOk b1 b2 b3) (h:Open b1 b2 b3 go rd ws s s' rd' ws') (o:s.ok (Rf rd)) :
  ∃ x,rd'=rd++x∧x.length≤2∧s'.ok (Rf rd')∧s'.wt 1≤900 * s.wt 1∧(go=true→RdOk rd→RdOk rd'):=by
 have hp:=wt_pos (h:=1) o
 have big:∀ (t:T) (f:Str→Nat),t.size≤900→(∀ v,f v≤s.wt 1)→wtT f t≤900 * s.wt 1:=fun t f ht hf=>
  Nat.le_trans (jwg hp t hf) (Nat.mul_le_mul_right _ ht)
 cases h with
 | star e=>exact ⟨[],(List.append_nil _).symm,Nat.zero_le _,⟨B.a.less (by simp [En.len]),True.intro⟩,big _ _ B.a.2.2.2.1 fun v=>hp,fun _ z=>z⟩
 | @sta a m _ _ e h1=>
  have ok1:(s.kid 0 a).ok (Rf rd):=jk4 o (by rw [e];simp [T.kids])
  obtain ⟨x,rfl,hx,mo,mw,_,mr⟩:=jko h1 ok1
  have ew:s.wt 1=1+(s.kid 0 a).wt 1:=by unfold Spot.wt;rw [e];rfl
  refine ⟨x,rfl,by omega,⟨B.b.less (by simp [En.len]),mo,True.intro,rfl⟩,big _ _ B.b.2.2.2.1 fun v=>?_,mr⟩
  simp only [En.fw]
  split<;>omega
 | @st a b m n rd1 rd2 ws1 ws2 e h1 h2=>
  have ok1:(s.kid 0 a).ok (Rf rd):=jk4 o (by rw [e];simp [T.kids])
  have ok2:(s.kid 1 b).ok (Rf rd):=jk4 o (by rw [e];simp [T.kids])
  obtain ⟨x,rfl,hx,mo,mw,_,mr⟩:=jko h1 ok1
  obtain ⟨y,rfl,hy,no,nw,_,nr⟩:=jko h2 (Spot.ok_mono (Rf.mono x) ok2)
  have ew:s.wt 1=1+(s.kid 0 a).wt 1+(s.kid 1 b).wt 1:=by unfold Spot.wt;rw [e];rfl
  refine ⟨x++y,List.append_assoc _ _ _,by rw [List.length_append];omega,⟨B.c.less (by simp [En.len]),Mg.ok_mono (Rf.mono y) mo,⟨no,True.intro,rfl⟩,if_neg (by decide+kernel)⟩,big _ _ B.c.2.2.2.1 fun v=>?_,fun z1 z2=>nr z1 (mr z1 z2)⟩
  simp only [En.fw]
  split
  ·omega
  ·split<;>omega
structure Inv (F n0:Nat) (st:Sta):Prop where
 so:∀ s∈st.S,s.ok (Rf st.rd)
 ro:∀ r∈st.R,r.ok (Rf st.rd)
 pn:Pn st.R st.S.length
 rk:st.k≤F→RdOk st.rd
 mw:wtS 1 st.S≤n0 * 900 ^ st.k
 dl:st.rd.length≤2 * st.k
theorem je6 {b1 b2 b3:T} {F n0:Nat} {st st':Sta} (B:BkOk b1 b2 b3) (h:Stp b1 b2 b3 F st st') (I:Inv F n0 st):Inv F n0 st':=by
 cases h with
 | @take S Q s R rs k ws ws' rd a=>
  have os:=I.so s (List.mem_append_right _ (.head _))
  have h2:=jis a os
  have hm:=jit a os
  have mw:=I.mw
  have pn:=I.pn
  simp only [jx9,jxx] at mw
  refine ⟨fun x hx=>?_,fun r hr=>?_,?_,I.rk,?_,I.dl⟩
  ·rcases List.mem_append.mp hx with z|z
   ·exact I.so x (List.mem_append_left _ z)
   ·exact h2.1 x z
  ·rcases List.mem_append.mp hr with z|z
   ·exact I.ro r z
   ·exact h2.2 r z
  ·simp only [List.length_append] at pn ⊢
   exact jnf a pn
  ·show wtS 1 (S++Q)≤n0 * 900 ^ k
   rw [jx9];omega
 | @opn S s s' R k ws ws' rd rd' a=>
  have os:=I.so s (List.mem_append_right _ (.head _))
  obtain ⟨x,rfl,hx,ok',hw,hr⟩:=jmj B a os
  have mw:=I.mw
  have pn:=I.pn
  have dl:=I.dl
  simp only [jx9,jxx] at mw
  refine ⟨fun y hy=>?_,fun r hr=>Rw.ok_mono (Rf.mono x) (I.ro r hr),?_,fun hk=>?_,?_,?_⟩
  ·rcases List.mem_append.mp hy with z|z
   ·exact Spot.ok_mono (Rf.mono x) (I.so y (List.mem_append_left _ z))
   ·rw [List.mem_singleton] at z
    exact z▸ok'
  ·simp only [List.length_append,List.length_singleton] at pn ⊢
   exact pn
  ·exact hr (decide_eq_true hk) (I.rk (Nat.le_of_succ_le hk))
  ·show wtS 1 (S++[s'])≤n0 * 900 ^ (k+1)
   rw [jx9,jxx,Nat.pow_succ,← Nat.mul_assoc]
   generalize n0 * 900 ^ k=y at *
   omega
  ·simp only [List.length_append] at dl ⊢
   omega
def mu (F n0:Nat) (st:Sta):Nat:=(F+1 - st.k) * (n0 * 900 ^ (F+1)+1)+wtS 1 st.S
theorem jpi {b1 b2 b3:T} {F n0:Nat} {st st':Sta} (B:BkOk b1 b2 b3) (h:Stp b1 b2 b3 F st st') (I:Inv F n0 st) (hk:st.k≤F):mu F n0 st' < mu F n0 st:=by
 have I':=je6 B h I
 cases h with
 | @take S Q s R rs k ws ws' rd a=>
  have os:=I.so s (List.mem_append_right _ (.head _))
  have hm:=jit a os
  unfold mu
  simp only [jx9,jxx]
  omega
 | @opn S s s' R k ws ws' rd rd' a=>
  have mw:=I'.mw
  have hk:k≤F:=hk
  unfold mu
  simp only at mw ⊢
  have hp:n0 * 900 ^ (k+1)≤n0 * 900 ^ (F+1):=Nat.mul_le_mul_left _ (Nat.pow_le_pow_right (by decide) (by omega))
  have e:F+1 - k=(F+1 - (k+1))+1:=by omega
  rw [e,Nat.add_mul,Nat.one_mul]
  generalize (F+1 - (k+1)) * (n0 * 900 ^ (F+1)+1)=y at *
  generalize n0 * 900 ^ (F+1)=z at *
  generalize n0 * 900 ^ (k+1)=z2 at *
  omega
inductive Rch (b1 b2 b3:T) (F:Nat) (st0:Sta):Sta→Prop where
 | refl:Rch b1 b2 b3 F st0 st0
 | step {st st':Sta}:Rch b1 b2 b3 F st0 st→st.k≤F→Stp b1 b2 b3 F st st'→Rch b1 b2 b3 F st0 st'
theorem jvf {b1 b2 b3:T} {F n0:Nat} {st0 st:Sta} (B:BkOk b1 b2 b3) (h:Rch b1 b2 b3 F st0 st) (I:Inv F n0 st0):Inv F n0 st:=by
 induction h with
 | refl=>exact I
 | step _ _ a ih=>exact je6 B a ih
def mkT:Hd→List T→T
 | .num n,_=>.num n
 | .name w,_=>.name w
 | .sum,[a,b]=>.sum a b
 | .less,[a,b]=>.less a b
 | .cho,[a,b,c]=>.cho a b c
 | .lt w,[a,b]=>.lt w a b
 | _,_=>.num 0
def stB (W:List T) (m:List T):Rw→List T
 | .row h _ _=>mkT h (m.take h.ar) :: m.drop h.ar
 | .rdy n _=>(W[n]?.getD (.num 0)) :: m
def bld (W:List T):List Rw→List T
 | []=>[]
 | r :: b=>stB W (bld W b) r
theorem ja3 {W:List T}:∀ {b:List Rw} {c:Nat},Bd b c→(bld W b).length=c
 | _,_,.nil=>rfl
 | r :: b,_,.cons h=>by
  have ih:=ja3 (W:=W) h
  cases r with
  | row hd src path=>simp only [bld,stB,List.length_cons,List.length_drop,ih,Rw.ar];omega
  | rdy n z=>simp only [bld,stB,List.length_cons,ih,Rw.ar];omega
theorem jgx {h:Hd} {ts:List T} (hl:ts.length=h.ar):(mkT h ts).size=1+jxc ts:=by
 cases h with
 | num n=>cases ts with
  | nil=>rfl
  | cons=>simp [Hd.ar] at hl
 | name n=>cases ts with
  | nil=>rfl
  | cons=>simp [Hd.ar] at hl
 | sum=>match ts,hl with
  | [a,b],_=>simp [mkT,T.size,jxc];omega
 | less=>match ts,hl with
  | [a,b],_=>simp [mkT,T.size,jxc];omega
 | cho=>match ts,hl with
  | [a,b,c],_=>simp [mkT,T.size,jxc];omega
 | lt w=>match ts,hl with
  | [a,b],_=>simp [mkT,T.size,jxc];omega
theorem jmr {h:Hd} {ts:List T} (hn:∀ t∈ts,¬ Sts t):¬ Sts (mkT h ts):=by
 unfold mkT
 split
 ·exact not_false
 ·exact not_false
 ·rintro (z|z)<;>exact hn _ (by simp) z
 ·rintro (z|z)<;>exact hn _ (by simp) z
 ·rintro (z|z|z)<;>exact hn _ (by simp) z
 ·rintro (z|z)<;>exact hn _ (by simp) z
 ·exact not_false
def RfW (W:List T) (n z:Nat):Prop:=∃ t,W[n]?=some t∧t.size≤z∧¬ Sts t
theorem jck {W:List T}:∀ {b:List Rw} {c:Nat},Bd b c→(∀ r∈b,r.ok (RfW W))→jxc (bld W b)≤wtR b∧∀ t∈bld W b,¬ Sts t
 | _,_,.nil,_=>⟨Nat.le_refl _,fun t ht=>by cases ht⟩
 | r :: b,_,.cons h,o=>by
  have ih:=jck (W:=W) h fun x hx=>o x (.tail _ hx)
  have hl:=ja3 (W:=W) h
  cases r with
  | row hd src path=>
   have e:(mkT hd ((bld W b).take hd.ar)).size=1+jxc ((bld W b).take hd.ar):=jgx (by rw [List.length_take,hl];simp only [Rw.ar];omega)
   have e2:jxc ((bld W b).take hd.ar)+jxc ((bld W b).drop hd.ar)=jxc (bld W b):=by rw [← jx5,List.take_append_drop]
   refine ⟨?_,fun t ht=>?_⟩
   ·simp only [bld,stB,jz0,jj1,Rw.wt,e];omega
   ·rcases List.mem_cons.mp ht with rfl|ht
    ·exact jmr fun t ht=>ih.2 t (List.mem_of_mem_take ht)
    ·exact ih.2 t (List.mem_of_mem_drop ht)
  | rdy n z=>
   obtain ⟨h1,t,e,h2,h3⟩:=o _ (.head _)
   refine ⟨?_,fun u hu=>?_⟩
   ·simp only [bld,stB,jz0,jj1,Rw.wt,e,Option.getD_some];omega
   ·simp only [bld,stB,e,Option.getD_some] at hu
    rcases List.mem_cons.mp hu with rfl|hu
    ·exact h3
    ·exact ih.2 u hu
abbrev Src:=Str×List Nat
def srcs (W:List (List Src)):List Rw→List Src
 | []=>[]
 | .row _ s p :: b=>(s,p) :: srcs W b
 | .rdy n _ :: b=>(W[n]?.getD [])++srcs W b
theorem jjc (W:List (List Src)):∀ a b:List Rw,srcs W (a++b)=srcs W a++srcs W b
 | [],_=>rfl
 | .row _ s p :: a,b=>by simp only [List.cons_append,srcs,jjc W a b]
 | .rdy n _ :: a,b=>by simp only [List.cons_append,srcs,jjc W a b,List.append_assoc]
def RfS (W:List (List Src)) (n z:Nat):Prop:=∃ t,W[n]?=some t∧t.length≤z
theorem jv3 {W:List (List Src)}:∀ {b:List Rw},(∀ r∈b,r.ok (RfS W))→(srcs W b).length≤wtR b
 | [],_=>Nat.le_refl _
 | .row _ s p :: b,o=>by
  have:=jv3 (W:=W) (b:=b) fun x hx=>o x (.tail _ hx)
  simp only [srcs,List.length_cons,jj1,Rw.wt];omega
 | .rdy n z :: b,o=>by
  have:=jv3 (W:=W) (b:=b) fun x hx=>o x (.tail _ hx)
  obtain ⟨h1,t,e,h2⟩:=o _ (.head _)
  simp only [srcs,List.length_append,e,Option.getD_some,jj1,Rw.wt];omega
end S9
namespace S9
open PySem SW
structure Small (st:Sta):Prop where
 wt:wtS 0 st.S+wtR st.R≤1000000
 ws:st.ws.length≤1000000
 rd:∀ R∈st.rd,wtR R≤1000000
def sumR (rd:List (List Rw)):Nat:=(rd.map wtR).sum
def sumL (rd:List (List Rw)):Nat:=(rd.map List.length).sum
theorem jja (a b:List (List Rw)):sumR (a++b)=sumR a+sumR b:=by simp [sumR]
theorem jjb (a b:List (List Rw)):sumL (a++b)=sumL a+sumL b:=by simp [sumL]
theorem jbw {R:List Rw}:∀ {rd:List (List Rw)},R∈rd→wtR R≤sumR rd
 | x :: rd,h=>by
  have e:sumR (x :: rd)=wtR x+sumR rd:=by simp [sumR]
  rcases List.mem_cons.mp h with rfl|h
  ·omega
  ·have:=jbw h;omega
theorem jbe {rd rd':List (List Rw)} {ws ws':List Str} {s:Spot} {m:Mg} {P:Nat→Nat→Prop} (h:Mean true rd ws s m rd' ws') (o:s.ok P) :
  ∃ x,rd'=rd++x∧sumR x≤s.wt 0∧sumL x≤sumR x∧ws'.length≤ws.length+sumL x:=by
 cases h with
 | handed p=>exact ⟨[],(List.append_nil _).symm,Nat.zero_le _,Nat.le_refl _,Nat.le_refl _⟩
 | @ready _ _ _ _ R p r=>
  have hw:wtR R=s.wt 0:=by rw [jem r,jxx,jj4];omega
  have h2:=ji3 r
  have h3:=jk5 (jen r (P:=P) (fun x hx=>by rw [List.mem_singleton] at hx;exact hx▸o) (fun x hx=>by cases hx))
  refine ⟨[R],rfl,?_,?_,?_⟩
  ·simp [sumR];omega
  ·simp [sumR,sumL];omega
  ·simp [sumL] at h2 ⊢;omega
structure BkS (b1 b2 b3:T):Prop where
 a:b1.size≤4
 b:b2.size≤8∧b2.names.length≤4
 c:b3.size≤10∧b3.names.length≤5
theorem mulM {n k M:Nat} (h:n≤k):n * M≤k * M:=Nat.mul_le_mul_right _ h
theorem jmi {b1 b2 b3:T} {rd rd':List (List Rw)} {ws ws':List Str} {s s':Spot} (B:BkS b1 b2 b3) (h:Open b1 b2 b3 true rd ws s s' rd' ws') (o:s.ok (Rf rd)) :
  s'.wt 0≤5 * s.wt 0∧∃ x,rd'=rd++x∧sumR x≤s.wt 0∧sumL x≤sumR x∧ws'.length≤ws.length+sumL x:=by
 have hp:=wt_pos (h:=0) o
 cases h with
 | star e=>
  refine ⟨?_,[],(List.append_nil _).symm,Nat.zero_le _,Nat.le_refl _,Nat.le_refl _⟩
  have:=jwg (Nat.le_refl 1) b1 (f:=(En.nil).fw 0) fun v=>Nat.le_refl _
  have:=B.a
  show wtT ((En.nil).fw 0) b1≤_
  omega
 | @sta a m _ _ e h1=>
  have ok1:(s.kid 0 a).ok (Rf rd):=jk4 o (by rw [e];simp [T.kids])
  obtain ⟨_,_,_,_,_,mw,_⟩:=jko h1 ok1
  obtain ⟨x,rfl,h2,h3,h4⟩:=jbe h1 ok1
  have hp1:=wt_pos (h:=0) ok1
  have ew:s.wt 0=1+(s.kid 0 a).wt 0:=by unfold Spot.wt;rw [e];rfl
  refine ⟨?_,x,rfl,by omega,h3,h4⟩
  have h5:=jzr hp1 b2 (f:=(En.cons "sab" m .nil).fw 0) fun v=>by
   simp only [En.fw]
   split<;>omega
  obtain ⟨B1,B2⟩:=B.b
  obtain ⟨j,hj⟩:=Nat.le.dest hp1
  have h6:b2.names.length * (s.kid 0 a).wt 0=b2.names.length+b2.names.length * j:=by rw [← hj,Nat.mul_add,Nat.mul_one]
  have h7:=mulM (M:=j) B2
  show wtT ((En.cons "sab" m .nil).fw 0) b2≤_
  omega
 | @st a b m n rd1 rd2 ws1 ws2 e h1 h2=>
  have ok1:(s.kid 0 a).ok (Rf rd):=jk4 o (by rw [e];simp [T.kids])
  have ok2:(s.kid 1 b).ok (Rf rd):=jk4 o (by rw [e];simp [T.kids])
  obtain ⟨_,_,_,_,_,mw,_⟩:=jko h1 ok1
  obtain ⟨x,rfl,x2,x3,x4⟩:=jbe h1 ok1
  have ok3:(s.kid 1 b).ok (Rf (rd++x)):=Spot.ok_mono (Rf.mono x) ok2
  obtain ⟨_,_,_,_,_,nw,_⟩:=jko h2 ok3
  obtain ⟨y,rfl,y2,y3,y4⟩:=jbe h2 ok3
  have hp1:=wt_pos (h:=0) ok1
  have hp2:=wt_pos (h:=0) ok2
  have ew:s.wt 0=1+(s.kid 0 a).wt 0+(s.kid 1 b).wt 0:=by unfold Spot.wt;rw [e];rfl
  refine ⟨?_,x++y,List.append_assoc _ _ _,?_,?_,?_⟩
  ·obtain ⟨j,hj⟩:=Nat.le.dest (show 2≤s.wt 0 by omega)
   have h5:=jzr (M:=1+j) (by omega) b3 (f:=(En.cons "sab" m (.cons "tab" n .nil)).fw 0) fun v=>by
    simp only [En.fw]
    split
    ·omega
    ·split<;>omega
   obtain ⟨B1,B2⟩:=B.c
   rw [Nat.mul_add,Nat.mul_one] at h5
   have h7:=mulM (M:=j) B2
   show wtT ((En.cons "sab" m (.cons "tab" n .nil)).fw 0) b3≤_
   omega
  ·rw [jja];omega
  ·rw [jja,jjb];omega
  ·rw [jjb];omega
structure Inv2 (F n0 w0:Nat) (st:Sta):Prop where
 wt:wtS 0 st.S+wtR st.R≤n0 * 5 ^ st.k
 rd:sumR st.rd≤n0 * 5 ^ st.k
 sl:sumL st.rd≤sumR st.rd
 ws:st.ws.length≤w0+st.R.length+sumL st.rd
theorem jge {b1 b2 b3:T} {F n0 n1 w0:Nat} {st st':Sta} (B:BkOk b1 b2 b3) (BS:BkS b1 b2 b3) (h:Stp b1 b2 b3 F st st') (I:Inv F n1 st) (J:Inv2 F n0 w0 st) (hk:st'.k≤F):Inv2 F n0 w0 st':=by
 cases h with
 | @take S Q s R rs k ws ws' rd a=>
  have h1:=jiq a
  have h2:=jir a
  obtain ⟨j1,j2,j3,j4⟩:=J
  simp only [jx9,jxx] at j1
  refine ⟨?_,j2,j3,?_⟩
  ·show wtS 0 (S++Q)+wtR (R++rs)≤n0 * 5 ^ k
   rw [jx9,jjv];omega
  ·simp only [List.length_append] at j4 ⊢;omega
 | @opn S s s' R k ws ws' rd rd' a=>
  have hk:k+1≤F:=hk
  rw [show decide (k+1≤F)=true from decide_eq_true hk] at a
  have os:=I.so s (List.mem_append_right _ (.head _))
  obtain ⟨h1,x,rfl,h2,h3,h4⟩:=jmi BS a os
  obtain ⟨j1,j2,j3,j4⟩:=J
  simp only [jx9,jxx] at j1 j2 j3 j4
  have e:n0 * 5 ^ (k+1)=5 * (n0 * 5 ^ k):=by rw [Nat.pow_succ,← Nat.mul_assoc,Nat.mul_comm]
  refine ⟨?_,?_,?_,?_⟩
  ·show wtS 0 (S++[s'])+wtR R≤n0 * 5 ^ (k+1)
   rw [jx9,jxx,e]
   generalize n0 * 5 ^ k=y at *
   omega
  ·show sumR (rd++x)≤n0 * 5 ^ (k+1)
   rw [jja,e]
   generalize n0 * 5 ^ k=y at *
   omega
  ·show sumL (rd++x)≤sumR (rd++x)
   rw [jja,jjb];omega
  ·show ws'.length≤w0+R.length+sumL (rd++x)
   rw [jjb];omega
theorem jgm {b1 b2 b3:T} {F n0 n1 w0:Nat} {st0 st:Sta} (B:BkOk b1 b2 b3) (BS:BkS b1 b2 b3) (h:Rch b1 b2 b3 F st0 st) (I:Inv F n1 st0) (J:Inv2 F n0 w0 st0) (hk:st.k≤F):Inv2 F n0 w0 st:=by
 induction h with
 | refl=>exact J
 | @step st1 st2 r hk1 a ih=>exact jge B BS a (jvf B r I) (ih hk1) hk
def st0 (t:T) (ws:List Str):Sta:=⟨[⟨t,"",[],.nil⟩],[],0,ws,[]⟩
theorem jbr (h:Nat) (t:T):(Spot.mk t "" [] .nil).wt h≤t.size:=by
 have:=jwg (Nat.le_refl 1) t (f:=(En.nil).fw h) fun v=>Nat.le_refl _
 show wtT ((En.nil).fw h) t≤_
 omega
theorem jzz {F:Nat} {t:T} {ws:List Str} (h:BT t [] 0):Inv F t.size (st0 t ws):=by
 refine ⟨fun s hs=>?_,fun r hr=>(nomatch hr),.start,fun _ i R e=>by simp [st0] at e,?_,Nat.le_refl _⟩
 ·have hs:s=⟨t,"",[],.nil⟩:=by simpa [st0] using hs
  subst hs
  exact ⟨h,True.intro⟩
 ·show wtS 1 [⟨t,"",[],.nil⟩]≤t.size * 900 ^ 0
  have:=jbr 1 t
  rw [jxx];omega
theorem jd3 {F:Nat} {t:T} {ws:List Str}:Inv2 F t.size ws.length (st0 t ws):=by
 refine ⟨?_,Nat.zero_le _,Nat.le_refl _,Nat.le_refl _⟩
 show wtS 0 [⟨t,"",[],.nil⟩]+wtR []≤t.size * 5 ^ 0
 have:=jbr 0 t
 rw [jxx,jj4];omega
theorem jgh {F n0 w0 n1:Nat} {st:Sta} (I:Inv F n1 st) (J:Inv2 F n0 w0 st) (hw:w0≤1000) (hk:st.k≤F) (hF:n0 * 5 ^ F≤400000):Small st:=by
 have h:n0 * 5 ^ st.k≤n0 * 5 ^ F:=Nat.mul_le_mul_left _ (Nat.pow_le_pow_right (by decide) hk)
 have h2:=jk5 I.ro
 obtain ⟨j1,j2,j3,j4⟩:=J
 generalize n0 * 5 ^ st.k=y at *
 generalize n0 * 5 ^ F=z at *
 refine ⟨by omega,by omega,fun R hR=>?_⟩
 have:=jbw hR
 omega
end S9
namespace S9
open PySem L2 SW
inductive Al {α:Type} (A:α→V→Prop):List α→List V→Prop where
 | nil:Al A [] []
 | cons {a:α} {v:V} {as:List α} {vs:List V}:A a v→Al A as vs→Al A (a :: as) (v :: vs)
section
variable {α:Type} {A B:α→V→Prop}
theorem Al.mono (h:∀ a v,A a v→B a v):∀ {as:List α} {vs:List V},Al A as vs→Al B as vs
 | _,_,.nil=>.nil
 | _,_,.cons a r=>.cons (h _ _ a) (Al.mono h r)
theorem Al.length:∀ {as:List α} {vs:List V},Al A as vs→vs.length=as.length
 | _,_,.nil=>rfl
 | _,_,.cons _ r=>by rw [List.length_cons,List.length_cons,Al.length r]
theorem Al.append:∀ {as bs:List α} {vs us:List V},Al A as vs→Al A bs us→Al A (as++bs) (vs++us)
 | _,_,_,_,.nil,q=>q
 | _,_,_,_,.cons a r,q=>.cons a (Al.append r q)
theorem Al.one {a:α} {v:V} (h:A a v):Al A [a] [v]:=.cons h .nil
theorem Al.snoc:∀ {as:List α} {vs:List V} {v:V},Al A as (vs++[v])→∃ bs b,as=bs++[b]∧Al A bs vs∧A b v
 | _,[],v,.cons a .nil=>⟨[],_,rfl,.nil,a⟩
 | _,x :: vs,v,.cons a r=>by
  obtain ⟨us,t,rfl,h1,h2⟩:=Al.snoc (vs:=vs) r
  exact ⟨_ :: us,t,rfl,.cons a h1,h2⟩
theorem Al.get:∀ {as:List α} {vs:List V} {i:Nat} {v:V},Al A as vs→vs[i]?=some v→∃ a,as[i]?=some a∧A a v
 | _,_,0,_,.cons a r,h=>by cases h;exact ⟨_,rfl,a⟩
 | _,_,i+1,_,.cons a r,h=>Al.get (i:=i) r h
theorem Al.getA:∀ {as:List α} {vs:List V} {i:Nat} {a:α},Al A as vs→as[i]?=some a→∃ v,vs[i]?=some v∧A a v
 | _,_,0,_,.cons a r,h=>by cases h;exact ⟨_,rfl,a⟩
 | _,_,i+1,_,.cons a r,h=>Al.getA (i:=i) r h
theorem Al.reverse:∀ {as:List α} {vs:List V},Al A as vs→Al A as.reverse vs.reverse
 | _,_,.nil=>.nil
 | _,_,.cons a r=>by rw [List.reverse_cons,List.reverse_cons];exact (Al.reverse r).append (.cons a .nil)
end
def pth (l:List Nat):List V:=l.map fun i:Nat=>V.int (i:Int)
theorem jmb (l:List Nat):(pth l).length=l.length:=List.length_map _
mutual
def MgAt (tk:Addr→Prop) (H:Hp):Mg→V→Prop
 | .called w,v=>∃ p,v=.ref p∧H p=some (.tup [.str "called",.str w])
 | .ready n _,v=>∃ p,v=.ref p∧H p=some (.tup [.str "ready",.int (n:Int)])
 | .handed t src path e,v=>∃ p q x pp d kvs,v=.ref p∧H p=some (.tup [.str "handed",.ref q])∧H q=some (.tup [x,.str src,.ref pp,.ref d])∧Den H t x∧H pp=some (.tup (pth path))∧tk d∧H d=some (.dK kvs)∧EnAt tk H e kvs
def EnAt (tk:Addr→Prop) (H:Hp):En→List (Key×V)→Prop
 | .nil,kvs=>kvs=[]
 | .cons w m e,kvs=>∃ v r,kvs=(.inr w,v) :: r∧MgAt tk H m v∧EnAt tk H e r
end
def SpAt (tk:Addr→Prop) (H:Hp) (s:Spot) (v:V):Prop:=∃ q x pp d kvs,v=.ref q∧H q=some (.tup [x,.str s.src,.ref pp,.ref d])∧Den H s.t x∧H pp=some (.tup (pth s.path))∧tk d∧H d=some (.dK kvs)∧EnAt tk H s.e kvs
def Hd.vs:Hd→List V
 | .num n=>[.str "number",.int n]
 | .name w=>[.str "name",.str w]
 | .sum=>[.str "sum"]
 | .less=>[.str "less"]
 | .cho=>[.str "choose"]
 | .lt w=>[.str "let",.str w]
def SrAt (H:Hp) (s:Src) (v:V):Prop:=∃ q pp,v=.ref q∧H q=some (.tup [.str s.1,.ref pp])∧H pp=some (.tup (pth s.2))
def RwAt (H:Hp):Rw→V→Prop
 | .row h src path,v=>∃ r hp s,v=.ref r∧H r=some (.tup [.str "row",.ref hp,.int (h.ar:Int),s])∧H hp=some (.tup h.vs)∧SrAt H (src,path) s
 | .rdy n _,v=>∃ p,v=.ref p∧H p=some (.tup [.str "ready",.int (n:Int)])
structure Kp (tk:Addr→Prop) (H H':Hp):Prop where
 tup:TupLe H H'
 dct:∀ d kvs,tk d→H d=some (.dK kvs)→H' d=some (.dK kvs)
section
variable {tk:Addr→Prop} {H H' H2:Hp}
theorem Kp.refl:Kp tk H H:=⟨TupLe.refl,fun _ _ _ h=>h⟩
theorem Kp.trans (a:Kp tk H H') (b:Kp tk H' H2):Kp tk H H2:=⟨a.tup.trans b.tup,fun d kvs n h=>b.dct d kvs n (a.dct d kvs n h)⟩
theorem Kp.same (s:Same H H'):Kp tk H H':=⟨jqa s,fun d kvs _ h=>s _ _ h⟩
theorem Kp.lst {l:Addr} {ys:List V} {o:HO} (h:H l=some (.lst ys)):Kp tk H (upd H l o):=⟨jxh h,fun d kvs _ e=>by rw [jqb (jxk e h (by intro z;cases z))];exact e⟩
theorem Kp.ins {l C dx:Addr} {fs:List (Str×V)} {o:HO} (h:H l=some (.ins C dx fs)):Kp tk H (upd H l o):=
 ⟨fun b xs e=>by rw [jqb (jxk e h (by intro z;cases z))];exact e,fun d kvs _ e=>by rw [jqb (jxk e h (by intro z;cases z))];exact e⟩
mutual
theorem MgAt.mono (k:Kp tk H H'):∀ {m:Mg} {v:V},MgAt tk H m v→MgAt tk H' m v
 | .called _,_,h=>by
  obtain ⟨p,e,h⟩:=h
  exact ⟨p,e,k.tup _ _ h⟩
 | .ready _ _,_,h=>by
  obtain ⟨p,e,h⟩:=h
  exact ⟨p,e,k.tup _ _ h⟩
 | .handed t src path e,_,h=>by
  obtain ⟨p,q,x,pp,d,kvs,h0,h1,h2,h3,h4,h5,h6,h7⟩:=h
  exact ⟨p,q,x,pp,d,kvs,h0,k.tup _ _ h1,k.tup _ _ h2,h3.mono k.tup,k.tup _ _ h4,h5,k.dct _ _ h5 h6,EnAt.mono k (e:=e) h7⟩
theorem EnAt.mono (k:Kp tk H H'):∀ {e:En} {kvs:List (Key×V)},EnAt tk H e kvs→EnAt tk H' e kvs
 | .nil,_,h=>h
 | .cons w m e,_,h=>by
  obtain ⟨v,r,h0,h1,h2⟩:=h
  exact ⟨v,r,h0,MgAt.mono k (m:=m) h1,EnAt.mono k (e:=e) h2⟩
end
mutual
theorem MgAt.old {tk':Addr→Prop} (k:∀ d o,H d=some o→tk d→tk' d):∀ {m:Mg} {v:V},MgAt tk H m v→MgAt tk' H m v
 | .called _,_,h=>h
 | .ready _ _,_,h=>h
 | .handed t src path e,_,h=>by
  obtain ⟨p,q,x,pp,d,kvs,h0,h1,h2,h3,h4,h5,h6,h7⟩:=h
  exact ⟨p,q,x,pp,d,kvs,h0,h1,h2,h3,h4,k _ _ h6 h5,h6,EnAt.old k (e:=e) h7⟩
theorem EnAt.old {tk':Addr→Prop} (k:∀ d o,H d=some o→tk d→tk' d):∀ {e:En} {kvs:List (Key×V)},EnAt tk H e kvs→EnAt tk' H e kvs
 | .nil,_,h=>h
 | .cons w m e,_,h=>by
  obtain ⟨v,r,h0,h1,h2⟩:=h
  exact ⟨v,r,h0,MgAt.old k (m:=m) h1,EnAt.old k (e:=e) h2⟩
end
theorem SpAt.old {tk':Addr→Prop} (k:∀ d o,H d=some o→tk d→tk' d) {s:Spot} {v:V} (h:SpAt tk H s v):SpAt tk' H s v:=by
 obtain ⟨q,x,pp,d,kvs,h0,h2,h3,h4,h5,h6,h7⟩:=h
 exact ⟨q,x,pp,d,kvs,h0,h2,h3,h4,k _ _ h6 h5,h6,h7.old k⟩
theorem SpAt.mono (k:Kp tk H H') {s:Spot} {v:V} (h:SpAt tk H s v):SpAt tk H' s v:=by
 obtain ⟨q,x,pp,d,kvs,h0,h2,h3,h4,h5,h6,h7⟩:=h
 exact ⟨q,x,pp,d,kvs,h0,k.tup _ _ h2,h3.mono k.tup,k.tup _ _ h4,h5,k.dct _ _ h5 h6,h7.mono k⟩
theorem SrAt.mono (k:TupLe H H') {s:Src} {v:V} (h:SrAt H s v):SrAt H' s v:=by
 obtain ⟨q,pp,h0,h1,h2⟩:=h
 exact ⟨q,pp,h0,k _ _ h1,k _ _ h2⟩
theorem RwAt.mono (k:TupLe H H'):∀ {r:Rw} {v:V},RwAt H r v→RwAt H' r v
 | .row _ _ _,_,h=>by
  obtain ⟨r,hp,s,h0,h1,h2,h3⟩:=h
  exact ⟨r,hp,s,h0,k _ _ h1,k _ _ h2,h3.mono k⟩
 | .rdy _ _,_,h=>by
  obtain ⟨p,e,h⟩:=h
  exact ⟨p,e,k _ _ h⟩
theorem jfo:∀ {e:En} {kvs:List (Key×V)},EnAt tk H e kvs→kvs.length=e.len
 | .nil,_,h=>by subst h;rfl
 | .cons w m e,_,h=>by
  obtain ⟨v,r,rfl,_,h2⟩:=h
  rw [List.length_cons,En.len,jfo (e:=e) h2]
theorem jcf (w:Str):∀ {e:En} {kvs:List (Key×V)},EnAt tk H e kvs→(e.look w=none∧valV kvs (.inr w)=none)∨∃ m v,e.look w=some m∧valV kvs (.inr w)=some v∧MgAt tk H m v
 | .nil,_,h=>by subst h;exact .inl ⟨rfl,rfl⟩
 | .cons y m e,_,h=>by
  obtain ⟨v,r,rfl,h1,h2⟩:=h
  by_cases hy:y=w
  ·subst hy
   exact .inr ⟨m,v,by simp only [En.look,if_true],jxo rfl,h1⟩
  ·have e1:En.look (.cons y m e) w=e.look w:=by simp only [En.look,if_neg hy]
   have e2:valV (((.inr y,v):Key×V) :: r) (.inr w)=valV r (.inr w):=jxp fun z=>hy (Sum.inr.inj z)
   rw [e1,e2]
   exact jcf w (e:=e) h2
theorem jet {y w:Str} {v x:V} {r:List (Key×V)} (nd:y=w→valV r (.inr w)=none):putK (((.inr y,v):Key×V) :: r) (.inr w) x=if y=w then (.inr y,x) :: r else (.inr y,v) :: putK r (.inr w) x:=by
 by_cases hy:y=w
 ·subst hy
  rw [if_pos rfl]
  have h0:=jj2 (.inr y:Key) r
  rw [nd rfl] at h0
  have h1:∀ p∈r,¬ p.1=(.inr y:Key):=by
   intro p hp z
   have:(r.any fun kv=>decide (kv.1=(.inr y:Key)))=true:=List.any_eq_true.mpr ⟨p,hp,decide_eq_true z⟩
   rw [h0] at this
   cases this
  unfold putK
  rw [if_pos (by simp),List.map_cons,if_pos rfl]
  congr 1
  refine (List.map_congr_left fun p hp=>if_neg (h1 p hp)).trans (List.map_id' r)
 ·rw [if_neg hy]
  have hy2:¬ (Sum.inr y:Key)=.inr w:=fun z=>hy (Sum.inr.inj z)
  unfold putK
  rw [List.any_cons,decide_eq_false hy2,Bool.false_or]
  split
  ·rw [List.map_cons,if_neg hy2]
  ·rfl
end
abbrev Nk (a:Addr):Addr→Prop:=fun d=>d≠a
def En.nd:En→Prop
 | .nil=>True
 | .cons w _ e=>e.look w=none∧e.nd
theorem jr7 {P:Nat→Nat→Prop}:∀ {e:En},e.ok P→e.nd
 | .nil,_=>True.intro
 | .cons _ _ e,h=>⟨h.2.2,jr7 (e:=e) h.2.1⟩
theorem jic {w:Str} {n:Mg}:∀ {e:En},e.nd→(e.put w n).nd
 | .nil,_=>⟨rfl,True.intro⟩
 | .cons y m e,h=>by
  unfold En.put
  split
  ·exact h
  ·rename_i hy
   refine ⟨?_,jic (e:=e) h.2⟩
   rw [En.look_put,if_neg (fun z=>hy z.symm)]
   exact h.1
theorem jfn {tk:Addr→Prop} {H:Hp} {w:Str} {n:Mg} {x:V} (hn:MgAt tk H n x):∀ {e:En} {kvs:List (Key×V)},e.nd→EnAt tk H e kvs→EnAt tk H (e.put w n) (putK kvs (.inr w) x)
 | .nil,_,_,h=>by
  have h:_=[]:=h
  subst h
  exact ⟨x,[],rfl,hn,rfl⟩
 | .cons y m e,_,nd,h=>by
  obtain ⟨v,r,rfl,h1,h2⟩:=h
  have hnone:y=w→valV r (.inr w)=none:=fun z=>by
   subst z
   rcases jcf y h2 with ⟨_,e2⟩|⟨m',v',e1,_⟩
   ·exact e2
   ·have:=nd.1
    rw [e1] at this
    cases this
  rw [jet hnone]
  unfold En.put
  by_cases hy:y=w
  ·rw [if_pos hy,if_pos hy]
   exact ⟨x,r,rfl,hn,h2⟩
  ·rw [if_neg hy,if_neg hy]
   exact ⟨v,_,rfl,h1,jfn hn (e:=e) nd.2 h2⟩
end S9
namespace S9
open PySem L2 SW
structure RO (K:PySem.W.Frag) (C:Addr):Prop where
 cl:Cls K C
 nS:NoAttr K C "stamps"
 nL:NoAttr K C "lets"
 nF:NoAttr K C "fuel"
 nM:NoAttr K C "many"
 nR:NoAttr K C "ready"
def ofs (sd lp:Addr) (F k:Nat) (yl:Addr):List (Str×V):=[("stamps",.ref sd),("lets",.ref lp),("fuel",.int (F:Int)),("many",.int (k:Int)),("ready",.ref yl)]
section
variable {sd lp yl:Addr} {F k:Nat}
theorem jvm:(ofs sd lp F k yl).lookup ("stamps":Str)=some (.ref sd):=by
 have e1:(("stamps":Str) == "stamps")=true:=by decide+kernel
 simp only [ofs,List.lookup,e1]
theorem jmp:(ofs sd lp F k yl).lookup ("lets":Str)=some (.ref lp):=by
 have e1:(("lets":Str) == "stamps")=false:=by decide+kernel
 have e2:(("lets":Str) == "lets")=true:=by decide+kernel
 simp only [ofs,List.lookup,e1,e2]
theorem jbb:(ofs sd lp F k yl).lookup ("fuel":Str)=some (.int (F:Int)):=by
 have e1:(("fuel":Str) == "stamps")=false:=by decide+kernel
 have e2:(("fuel":Str) == "lets")=false:=by decide+kernel
 have e3:(("fuel":Str) == "fuel")=true:=by decide+kernel
 simp only [ofs,List.lookup,e1,e2,e3]
theorem jkn:(ofs sd lp F k yl).lookup ("many":Str)=some (.int (k:Int)):=by
 have e1:(("many":Str) == "stamps")=false:=by decide+kernel
 have e2:(("many":Str) == "lets")=false:=by decide+kernel
 have e3:(("many":Str) == "fuel")=false:=by decide+kernel
 have e4:(("many":Str) == "many")=true:=by decide+kernel
 simp only [ofs,List.lookup,e1,e2,e3,e4]
theorem jws:(ofs sd lp F k yl).lookup ("ready":Str)=some (.ref yl):=by
 have e1:(("ready":Str) == "stamps")=false:=by decide+kernel
 have e2:(("ready":Str) == "lets")=false:=by decide+kernel
 have e3:(("ready":Str) == "fuel")=false:=by decide+kernel
 have e4:(("ready":Str) == "many")=false:=by decide+kernel
 have e5:(("ready":Str) == "ready")=true:=by decide+kernel
 simp only [ofs,List.lookup,e1,e2,e3,e4,e5]
theorem jwt {m:Str} (e1:(m == "stamps")=false:=by decide+kernel) (e2:(m == "lets")=false:=by decide+kernel) (e3:(m == "fuel")=false:=by decide+kernel) (e4:(m == "many")=false:=by decide+kernel) (e5:(m == "ready")=false:=by decide+kernel):(ofs sd lp F k yl).lookup m=none:=by
 simp only [ofs,List.lookup,e1,e2,e3,e4,e5]
theorem nSM:¬ (("stamps":Str)="many"):=by decide+kernel
theorem nLM:¬ (("lets":Str)="many"):=by decide+kernel
theorem nFM:¬ (("fuel":Str)="many"):=by decide+kernel
theorem jre {z:Int} {j:Nat} (h:z=(j:Int)):putF "many" (.int z) (ofs sd lp F k yl)=ofs sd lp F j yl:=by
 subst h
 simp only [ofs,putF,if_neg nSM,if_neg nLM,if_neg nFM,if_true]
theorem jrf:(ofs sd lp F k yl).length < 1000:=by show 5 < 1000;decide
end
structure Ad where
 op:Addr
 dx:Addr
 sd:Addr
 lp:Addr
 lx:Addr
 tk:Addr
 yl:Addr
 v1:V
 v2:V
 v3:V
def StN (N:Addr→Prop) (H:Hp) (w:Str) (ps:List Str) (t:T) (v:V):Prop:=∃ p l x,v=.ref p∧H p=some (.tup [.str w,.ref l,x])∧H l=some (.lst (ps.map V.str))∧N l∧Den H t x
def RdAt (N:Addr→Prop) (H:Hp) (R:List Rw) (u:V):Prop:=∃ l vs,u=.ref l∧N l∧H l=some (.lst vs)∧Al (RwAt H) R vs
structure OpAt (C D:Addr) (A:Ad) (b1 b2 b3:T) (F:Nat) (N:Addr→Prop) (k:Nat) (ws:List Str) (rd:List (List Rw)) (H:Hp):Prop where
 ob:H A.op=some (.ins C A.dx (ofs A.sd A.lp F k A.yl))
 fw:∃ n,FW D H A.lp A.lx A.tk n ws∧n+cnt n ws≤ws.length
 sd:H A.sd=some (.dK (kv3 A.v1 A.v2 A.v3))
 st:A.sd≠A.tk
 s1:StN N H "star" [] b1 A.v1
 s2:StN N H "sta" ["sab"] b2 A.v2
 s3:StN N H "st" ["sab","tab"] b3 A.v3
 yl:∃ us,H A.yl=some (.lst us)∧Al (RdAt N H) rd us
def Ex (l:List Addr) (H H':Hp):Prop:=∀ b o,b∉l→H b=some o→H' b=some o
theorem Ex.refl {l:List Addr} {H:Hp}:Ex l H H:=fun _ _ _ h=>h
theorem Ex.trans {l:List Addr} {H H1 H2:Hp} (a:Ex l H H1) (b:Ex l H1 H2):Ex l H H2:=fun c o n h=>b c o n (a c o n h)
theorem Ex.same {l:List Addr} {H H1:Hp} (s:Same H H1):Ex l H H1:=fun c o _ h=>s c o h
theorem Ex.more {l l':List Addr} {H H1:Hp} (h:∀ a∈l,a∈l') (e:Ex l H H1):Ex l' H H1:=fun c o n z=>e c o (fun q=>n (h c q)) z
theorem Ex.upd {l:List Addr} {H:Hp} {a:Addr} {o:HO} (h:a∈l):Ex l H (upd H a o):=fun c u n z=>by rw [jqb (fun e=>n (by rw [e];exact h))];exact z
theorem Ex.new {l l':List Addr} {H H1:Hp} (h:∀ a∈l',a∈l∨H a=none) (e:Ex l' H H1):Ex l H H1:=fun c o n z=>e c o (fun q=>(h c q).elim n fun q2=>by rw [q2] at z;cases z) z
section
variable {C D:Addr} {A:Ad} {b1 b2 b3:T} {F k:Nat} {N N':Addr→Prop} {ws:List Str} {rd:List (List Rw)} {H H':Hp}
theorem StN.mono {w:Str} {ps:List Str} {t:T} {v:V} (hN:∀ a,N a→N' a) (ht:TupLe H H') (hl:∀ l xs,N l→H l=some (.lst xs)→H' l=some (.lst xs)) (h:StN N H w ps t v):StN N' H' w ps t v:=by
 obtain ⟨p,l,x,e,h1,h2,h3,h4⟩:=h
 exact ⟨p,l,x,e,ht _ _ h1,hl _ _ h3 h2,hN _ h3,h4.mono ht⟩
theorem RdAt.mono {R:List Rw} {u:V} (hN:∀ a,N a→N' a) (ht:TupLe H H') (hl:∀ l xs,N l→H l=some (.lst xs)→H' l=some (.lst xs)) (h:RdAt N H R u):RdAt N' H' R u:=by
 obtain ⟨l,vs,e,h1,h2,h3⟩:=h
 exact ⟨l,vs,e,hN _ h1,hl _ _ h1 h2,h3.mono fun _ _=>RwAt.mono ht⟩
theorem OpAt.nOL (O:OpAt C D A b1 b2 b3 F N k ws rd H):A.op≠A.lp:=by
 obtain ⟨n,f,_⟩:=O.fw
 exact jxk O.ob f.ob (by intro z;injection z with _ _ z;simp [ofs,wf] at z)
theorem OpAt.nOT (O:OpAt C D A b1 b2 b3 F N k ws rd H):A.op≠A.tk:=by
 obtain ⟨n,f,_⟩:=O.fw
 exact jxk O.ob f.dk (by intro z;cases z)
theorem OpAt.nOY (O:OpAt C D A b1 b2 b3 F N k ws rd H):A.op≠A.yl:=by
 obtain ⟨n,f,_⟩:=O.yl
 exact jxk O.ob f (by intro z;cases z)
theorem OpAt.ex {l:List Addr} (O:OpAt C D A b1 b2 b3 F N k ws rd H) (e:Ex l H H') (h1:A.op∉l) (h2:A.lp∉l) (h3:A.tk∉l) (h4:A.sd∉l) (h5:A.yl∉l) (ht:TupLe H H') (hl:∀ a,N a→a∉l):OpAt C D A b1 b2 b3 F N k ws rd H':=by
 have hL:∀ l xs,N l→H l=some (.lst xs)→H' l=some (.lst xs):=fun a xs n z=>e _ _ (hl a n) z
 obtain ⟨n,f,c⟩:=O.fw
 obtain ⟨us,y1,y2⟩:=O.yl
 exact ⟨e _ _ h1 O.ob,⟨n,⟨e _ _ h2 f.ob,e _ _ h3 f.dk⟩,c⟩,e _ _ h4 O.sd,O.st,O.s1.mono (fun _ z=>z) ht hL,O.s2.mono (fun _ z=>z) ht hL,O.s3.mono (fun _ z=>z) ht hL,us,e _ _ h5 y1,y2.mono fun _ _=>RdAt.mono (fun _ z=>z) ht hL⟩
theorem OpAt.same (O:OpAt C D A b1 b2 b3 F N k ws rd H) (s:Same H H'):OpAt C D A b1 b2 b3 F N k ws rd H':=
 O.ex (l:=[]) (Ex.same s) (by simp) (by simp) (by simp) (by simp) (by simp) (jqa s) (by simp)
theorem OpAt.lst (O:OpAt C D A b1 b2 b3 F N k ws rd H) {l:Addr} {xs:List V} {o:HO} (h:H l=some (.lst xs)) (ny:l≠A.yl) (nl:∀ a,N a→a≠l):OpAt C D A b1 b2 b3 F N k ws rd (upd H l o):=by
 obtain ⟨n,f,_⟩:=O.fw
 refine O.ex (l:=[l]) (Ex.upd (List.mem_singleton.mpr rfl)) ?_ ?_ ?_ ?_ ?_ (jxh h) (fun a z q=>nl a z (List.mem_singleton.mp q))
 ·exact fun q=>jxk O.ob h (by intro z;cases z) (List.mem_singleton.mp q)
 ·exact fun q=>jxk f.ob h (by intro z;cases z) (List.mem_singleton.mp q)
 ·exact fun q=>jxk f.dk h (by intro z;cases z) (List.mem_singleton.mp q)
 ·exact fun q=>jxk O.sd h (by intro z;cases z) (List.mem_singleton.mp q)
 ·exact fun q=>ny (List.mem_singleton.mp q).symm
theorem OpAt.weak (O:OpAt C D A b1 b2 b3 F N k ws rd H) (h:∀ a o,H a=some o→N a→N' a):OpAt C D A b1 b2 b3 F N' k ws rd H:=by
 have hS:∀ {w:Str} {ps:List Str} {t:T} {v:V},StN N H w ps t v→StN N' H w ps t v:=fun ⟨p,l,x,e,h1,h2,h3,h4⟩=>⟨p,l,x,e,h1,h2,h _ _ h2 h3,h4⟩
 obtain ⟨us,y1,y2⟩:=O.yl
 exact ⟨O.ob,O.fw,O.sd,O.st,hS O.s1,hS O.s2,hS O.s3,us,y1,y2.mono fun R u ⟨l,vs,e,h1,h2,h3⟩=>⟨l,vs,e,h _ _ h2 h1,h2,h3⟩⟩
theorem OpAt.kp {l:List Addr} (O:OpAt C D A b1 b2 b3 F N k ws rd H) (e:Ex l H H') (h:∀ a∈l,a=A.tk∨(∃ xs,H a=some (.lst xs))∨(∃ C dx fs,H a=some (.ins C dx fs))):Kp (Nk A.tk) H H':=by
 obtain ⟨n,f,_⟩:=O.fw
 refine ⟨fun b xs z=>e _ _ (fun q=>?_) z,fun d kvs nd z=>e _ _ (fun q=>?_) z⟩
 ·rcases h b q with rfl|⟨_,w⟩|⟨_,_,_,w⟩
  ·rw [f.dk] at z;cases z
  ·rw [w] at z;cases z
  ·rw [w] at z;cases z
 ·rcases h d q with rfl|⟨_,w⟩|⟨_,_,_,w⟩
  ·exact nd rfl
  ·rw [w] at z;cases z
  ·rw [w] at z;cases z
theorem OpAt.word (O:OpAt C D A b1 b2 b3 F N k ws rd H) {n':Nat} {ws':List Str} (e:Ap2 A.lp A.tk H H') (f':FW D H' A.lp A.lx A.tk n' ws') (c:n'+cnt n' ws'≤ws'.length):OpAt C D A b1 b2 b3 F N k ws' rd H':=by
 obtain ⟨n,f,_⟩:=O.fw
 have ex:Ex [A.lp,A.tk] H H':=fun b o nb z=>e b o (fun q=>nb (by simp [q])) (fun q=>nb (by simp [q])) z
 have kp:Kp (Nk A.tk) H H':=O.kp ex (fun a ha=>by
  rcases List.mem_cons.mp ha with rfl|ha
  ·exact .inr (.inr ⟨_,_,_,f.ob⟩)
  ·exact .inl (List.mem_singleton.mp ha))
 have hL:∀ l xs,N l→H l=some (.lst xs)→H' l=some (.lst xs):=fun a xs n z=>e _ _ (jxk z f.ob (by intro z;cases z)) (jxk z f.dk (by intro z;cases z)) z
 obtain ⟨us,y1,y2⟩:=O.yl
 exact ⟨e _ _ O.nOL O.nOT O.ob,⟨n',f',c⟩,e _ _ (jxk O.sd f.ob (by intro z;cases z)) O.st O.sd,O.st,O.s1.mono (fun _ z=>z) kp.tup hL,O.s2.mono (fun _ z=>z) kp.tup hL,O.s3.mono (fun _ z=>z) kp.tup hL,us,e _ _ (jxk y1 f.ob (by intro z;cases z)) (jxk y1 f.dk (by intro z;cases z)) y1,y2.mono fun _ _=>RdAt.mono (fun _ z=>z) kp.tup hL⟩
end
structure Aft (tk:Addr→Prop) (wl rl:Addr) (wus rus:List V) (P:List Spot) (rs:List Rw) (H':Hp):Prop where
 w:∃ pus,H' wl=some (.lst (wus++pus))∧Al (SpAt tk H') P pus
 r:∃ rvs,H' rl=some (.lst (rus++rvs))∧Al (RwAt H') rs rvs
structure NOk (A:Ad) (N:Addr→Prop) (H:Hp):Prop where
 y:∀ a,N a→a≠A.yl
 f:∀ a,H a=none→N a
end S9
namespace S9
open PySem L2 SW
variable {K:PySem.W.Frag} {vs:List V} {H:Hp} {Q:VK} {E:XK} {N C D:Addr}
theorem jn1 {a b:Addr} {xs ys:List V} {H:Hp} {Q:VK} (ha:H a=some (.tup xs)) (hb:H b=some (.tup ys)) (hl:xs.length+ys.length≤sizeLine) (hy:ys≠[]) (k:∀ r H',Same H H'→H' r=some (.tup (xs++ys))→Q (.ref r) H'):jer K (.ref a) (.ref b) H Q:=
 ⟨a,b,xs,ys,rfl,rfl,SqT.of ha,SqT.of hb,hl,fun e=>k b H (Same.refl _) (by rw [e];exact hb),fun _ z=>absurd z hy,fun _ _ p hp=>k p _ (jq2 hp) jq1⟩
theorem jjw (s:Spot):s.within.length=s.t.kids.length:=jdf s _ 0
theorem jhn (s:Spot):∀ (ts:List T) (j i:Nat) (t:T),ts[i]?=some t→(wi s j ts)[i]?=some (s.kid (j+i) t)
 | [],j,i,t,h=>by simp at h
 | u :: ts,j,0,t,h=>by cases h;rfl
 | u :: ts,j,i+1,t,h=>by
  have:=jhn s ts (j+1) i t h
  rw [show j+(i+1)=j+1+i by omega]
  exact this
theorem jw4 {s:Spot} {i:Nat} {t:T} (h:s.t.kids[i]?=some t):s.within[i]?=some (s.kid i t):=by
 have:=jhn s _ 0 i t h
 rwa [Nat.zero_add] at this
theorem jch {H:Hp}:∀ {ts:List T} {us:List V} {i:Nat} {u:V},DenL H ts us→us[i]?=some u→∃ t,ts[i]?=some t∧Den H t u
 | _,_,0,_,.cons a r,h=>by cases h;exact ⟨_,rfl,a⟩
 | _,_,i+1,_,.cons a r,h=>jch (i:=i) r h
theorem jmt (t:T):t.kids.length≤3:=by cases t<;>simp [T.kids]
theorem jgp (l:List Nat) (i:Nat):pth (l++[i])=pth l++[V.int (i:Int)]:=by simp [pth]
def jzi:Sp:=fun vs H Q _=>∃ (tk:Addr→Prop) (s:Spot) (u:V),vs=[u]∧SpAt tk H s u∧s.path.length≤1000∧∀ (l:Addr) (us:List V) (H':Hp),Same H H'→H l=none→H' l=some (.lst us)→Al (SpAt tk H') s.within us→Q (.ref l) H'
def t_sw (K:PySem.W.Frag):TS:=(tRet (tLCT (jrr K (jx7 jzj [] E0 (jq3 (tOp (rIxT K) (tVar 0) (tC (.int 0))) tNil))) (gTup K 2 (jkg (jqk 0) (jkg (jqk 1) gNil))) (tTup (jq3 (tVar 1) (jq3 (tOp (rIxT K) (tVar 2) (tC (.int 1))) (jq3 (tOp (jer K) (tOp (rIxT K) (tVar 2) (tC (.int 2))) (tTup (jq3 (tVar 0) tNil))) (jq3 (tOp (rIxT K) (tVar 2) (tC (.int 3))) tNil))))) [0]))
theorem rd_sw (h:jzi vs H Q E):t_sw K (fin Q) (start ["spot"] vs) H:=by
 obtain ⟨tk,s,u,rfl,⟨q,x,pp,d,kvs,rfl,hq,hx,hpp,nd,hd,he⟩,hlen,k⟩:=h
 refine ⟨_,rfl,q,_,_,_,rfl,rfl,SqT.of hq,jqd (j:=0) rfl,gOf s.t,x,rfl,jjk hx,fun pa us H1 s1 g1 dk=>?_⟩
 have dk:DenL H1 s.t.kids us:=jbk (by rw [jcd] at dk;exact dk)
 have hl:=dk.length
 have hk3:=jmt s.t
 refine ⟨pa,us,rfl,SqT.of g1,?_⟩
 refine ⟨fun i mm ws H'=>i≤us.length∧mm=us.length - i∧Same H1 H'∧Al (SpAt tk H') (s.within.take i) ws,⟨_,Nat.zero_le _,rfl,fun _ _ z=>z,.nil⟩,?_⟩
 rintro i mm ws H3 ⟨hi,rfl,s3,al⟩
 have s13:=s1.trans s3
 have hwl:=al.length
 rw [List.length_take,jjw] at hwl
 have g13:=s3 _ _ g1
 by_cases hn:i=us.length
 ·refine .inl ⟨⟨us,SqT.of g13,by omega⟩,by rw [sizeLine_eq];omega,fun l hl'=>?_⟩
  rw [List.take_of_length_le (by rw [jjw];omega)] at al
  have s4:=jq2 (o:=.lst ws) hl'
  exact k l ws _ (s13.trans s4) (s13.free hl') jq1 (al.mono fun _ _=>SpAt.mono (Kp.same s4))
 ·have hlt:i < us.length:=by omega
  obtain ⟨xa,hxa⟩:∃ xa,us[i]?=some xa:=⟨us[i],List.getElem?_eq_getElem _⟩
  refine .inr ⟨⟨us,xa,SqT.of g13,hxa⟩,?_⟩
  rintro z H4 ⟨pz,xa',rfl,hpz,rfl,q1⟩ o1 o2
  have ea:=q1 us (SqT.of g13)
  rw [hxa] at ea
  cases ea
  have s4:=jq2 (o:=.tup [.int (i:Int),xa]) hpz
  have g4:(upd H3 pz (.tup [.int (i:Int),xa])) pz=some (.tup [.int (i:Int),xa]):=jq1
  generalize upd H3 pz (.tup [.int (i:Int),xa])=H4 at s4 g4 ⊢
  have s14:=s13.trans s4
  have hq4:=s14 _ _ hq
  refine ⟨pz,_,rfl,SqT.of g4,rfl,_,_,rfl,_,_,rfl,rfl,⟨_,_,rfl⟩,?_⟩
  refine ⟨_,rfl,_,rfl,q,_,_,_,rfl,rfl,SqT.of hq4,jqd (j:=1) rfl,_,rfl,q,_,_,_,rfl,rfl,SqT.of hq4,jqd (j:=2) rfl,_,rfl,szl,fun c hc=>?_⟩
  have s5:=jq2 (o:=.tup [.int (i:Int)]) hc
  have g5:(upd H4 c (.tup [.int (i:Int)])) c=some (.tup [.int (i:Int)]):=jq1
  generalize upd H4 c (.tup [.int (i:Int)])=H5 at s5 g5 ⊢
  have s15:=s14.trans s5
  refine jn1 (s15 _ _ hpp) g5 (by rw [jmb,sizeLine_eq];simp;omega) (by simp) fun r H6 s6 hr=>?_
  have s16:=s15.trans s6
  refine ⟨_,rfl,q,_,_,_,rfl,rfl,SqT.of (s16 _ _ hq),jqd (j:=3) rfl,szl,fun y hy=>?_⟩
  have s7:=jq2 (o:=.tup [xa,.str s.src,.ref r,.ref d]) hy
  refine ⟨by rw [sizeLine_eq];omega,us.length - (i+1),by omega,hlt,rfl,s3.trans (s4.trans (s5.trans (s6.trans s7))),?_⟩
  obtain ⟨t,ht,dt⟩:=jch dk hxa
  rw [List.take_add_one,jw4 ht]
  have s37:=s4.trans (s5.trans (s6.trans s7))
  have s17:=s16.trans s7
  refine (al.mono fun _ _=>SpAt.mono (Kp.same s37)).append (.one ⟨y,xa,r,d,kvs,rfl,jq1,dt.mono (jqa (s3.trans s37)),?_,nd,s17 _ _ hd,he.mono (Kp.same s17)⟩)
  rw [s7 _ _ hr]
  show _=some (HO.tup (pth (s.path++[i])))
  rw [jgp]
theorem jj6:∀ (t:T) (x:G),Inn x (gOf t)→x.kind="stamp"→Sts t
 | .num n,x,h,e=>by
  cases h with
  | refl=>exact absurd e (by simp only [gOf,G.kind];decide+kernel)
  | kid hk _=>simp [gOf,G.kids] at hk
 | .name n,x,h,e=>by
  cases h with
  | refl=>exact absurd e (by simp only [gOf,G.kind];decide+kernel)
  | kid hk _=>simp [gOf,G.kids] at hk
 | .sum a b,x,h,e=>by
  cases h with
  | refl=>exact absurd e (by simp only [gOf,G.kind];decide+kernel)
  | kid hk i=>
   simp only [gOf,G.kids,List.mem_cons,List.not_mem_nil,or_false] at hk
   rcases hk with rfl|rfl
   ·exact .inl (jj6 a x i e)
   ·exact .inr (jj6 b x i e)
 | .less a b,x,h,e=>by
  cases h with
  | refl=>exact absurd e (by simp only [gOf,G.kind];decide+kernel)
  | kid hk i=>
   simp only [gOf,G.kids,List.mem_cons,List.not_mem_nil,or_false] at hk
   rcases hk with rfl|rfl
   ·exact .inl (jj6 a x i e)
   ·exact .inr (jj6 b x i e)
 | .cho a b c,x,h,e=>by
  cases h with
  | refl=>exact absurd e (by simp only [gOf,G.kind];decide+kernel)
  | kid hk i=>
   simp only [gOf,G.kids,List.mem_cons,List.not_mem_nil,or_false] at hk
   rcases hk with rfl|rfl|rfl
   ·exact .inl (jj6 a x i e)
   ·exact .inr (.inl (jj6 b x i e))
   ·exact .inr (.inr (jj6 c x i e))
 | .lt w a b,x,h,e=>by
  cases h with
  | refl=>exact absurd e (by simp only [gOf,G.kind];decide+kernel)
  | kid hk i=>
   simp only [gOf,G.kids,List.mem_cons,List.not_mem_nil,or_false] at hk
   rcases hk with rfl|rfl
   ·exact .inl (jj6 a x i e)
   ·exact .inr (jj6 b x i e)
 | .st0 _,_,_,_=>True.intro
 | .st1 _ _,_,_,_=>True.intro
 | .st2 _ _ _,_,_,_=>True.intro
theorem jj5:∀ (t:T),Sts t→∃ x,Inn x (gOf t)∧x.kind="stamp"
 | .num n,h=>h.elim
 | .name n,h=>h.elim
 | .sum a b,h=>h.elim (fun z=>(jj5 a z).elim fun x y=>⟨x,.kid (by simp [gOf,G.kids]) y.1,y.2⟩) (fun z=>(jj5 b z).elim fun x y=>⟨x,.kid (by simp [gOf,G.kids]) y.1,y.2⟩)
 | .less a b,h=>h.elim (fun z=>(jj5 a z).elim fun x y=>⟨x,.kid (by simp [gOf,G.kids]) y.1,y.2⟩) (fun z=>(jj5 b z).elim fun x y=>⟨x,.kid (by simp [gOf,G.kids]) y.1,y.2⟩)
 | .cho a b c,h=>by
  rcases h with z|z|z
  ·obtain ⟨x,y⟩:=jj5 a z
   exact ⟨x,.kid (k:=gOf a) (by simp [gOf,G.kids]) y.1,y.2⟩
  ·obtain ⟨x,y⟩:=jj5 b z
   exact ⟨x,.kid (k:=gOf b) (by simp [gOf,G.kids]) y.1,y.2⟩
  ·obtain ⟨x,y⟩:=jj5 c z
   exact ⟨x,.kid (k:=gOf c) (by simp [gOf,G.kids]) y.1,y.2⟩
 | .lt w a b,h=>h.elim (fun z=>(jj5 a z).elim fun x y=>⟨x,.kid (by simp [gOf,G.kids]) y.1,y.2⟩) (fun z=>(jj5 b z).elim fun x y=>⟨x,.kid (by simp [gOf,G.kids]) y.1,y.2⟩)
 | .st0 _,_=>⟨_,.refl,rfl⟩
 | .st1 _ _,_=>⟨_,.refl,rfl⟩
 | .st2 _ _ _,_=>⟨_,.refl,rfl⟩
theorem jxs:∀ t:T,(gOf t).size=t.size
 | .num n=>rfl
 | .name n=>rfl
 | .sum a b=>by simp only [gOf,G.size,jxu,T.size,jxs a,jxs b];omega
 | .less a b=>by simp only [gOf,G.size,jxu,T.size,jxs a,jxs b];omega
 | .cho a b c=>by simp only [gOf,G.size,jxu,T.size,jxs a,jxs b,jxs c];omega
 | .lt w a b=>by simp only [gOf,G.size,jxu,T.size,jxs a,jxs b];omega
 | .st0 _=>rfl
 | .st1 _ a=>by simp only [gOf,G.size,jxu,T.size,jxs a];omega
 | .st2 _ a b=>by simp only [gOf,G.size,jxu,T.size,jxs a,jxs b];omega
def jeb:Sp:=fun vs H Q _=>∃ (tk:Addr→Prop) (s:Spot) (u:V),vs=[u]∧SpAt tk H s u∧s.t.size≤900∧s.t.names.length < 64∧(∀ H',Same H H'→Op s→Q (.bl true) H')∧(∀ H',Same H H'→¬ Op s→Q (.bl false) H')
def jon (K:PySem.W.Frag):TS:=(tRet (tC (.bl true)))
def jom (K:PySem.W.Frag):TS:=(tIfS (jx0 (tOp rEq (tOp (rIxT K) (tVar 1) (tC (.int 0))) (tC (.str "stamp")))) (jon K) jxt)
def jol (K:PySem.W.Frag):TS:=(tRet (tC (.bl true)))
def jok (K:PySem.W.Frag):TS:=(tIfS (tAnd (tB (tDIn (tVar 2) (tOp (rIxT K) (tVar 0) (tC (.int 3))))) (jx0 (tOp rEq (tOp (rIxT K) (jgd (tOp (rIxT K) (tVar 0) (tC (.int 3))) (tVar 2)) (tC (.int 0))) (tC (.str "handed"))))) (jol K) jxt)
def t_hs (K:PySem.W.Frag):TS:=(tSeq (tFor (jkr K (jx7 jk6 [] E0 (jq3 (tOp (rIxT K) (tVar 0) (tC (.int 0))) tNil))) (jqk 1) (jom K)) (tSeq (tFor (jkr K (jx7 jac [] E0 (jq3 (tOp (rIxT K) (tVar 0) (tC (.int 0))) tNil))) (jqk 2) (jok K)) (tRet (tC (.bl false)))))
theorem rd_hs (h:jeb vs H Q E):t_hs K (fin Q) (start ["spot","piece","word"] vs) H:=by
 obtain ⟨tk,s,u,rfl,⟨q,x,pp,d,kvs,rfl,hq,hx,hpp,nd,hd,he⟩,hz1,hz2,k1,k2⟩:=h
 refine ⟨_,rfl,q,_,_,_,rfl,rfl,SqT.of hq,jqd (j:=0) rfl,gOf s.t,x,rfl,jjk hx,by rw [jxs];omega,fun l us L H1 s1 n1 h1 od dL=>⟨l,rfl,⟨_,SqL.of h1⟩,?_⟩⟩
 have hlen:=dL.1
 refine jzc (K:=K) (a:=l) (xs:=us) (fun i σ H'=>∃ j1,σ=[some (.ref q),j1,none]∧Same H1 H'∧∀ x∈L.take i,x.kind≠"stamp") ⟨none,rfl,Same.refl _,by simp⟩ (fun i σ H' _ hP=>?_) ?_ ?_
 ·obtain ⟨_,_,s,_⟩:=hP
  exact SqL.of (s _ _ h1)
 ·rintro i y σ H' hi ⟨j1,rfl,s',hF⟩
  have hil:i < us.length:=(List.getElem?_eq_some_iff.mp hi).1
  have hg:L[i]?=some L[i]:=List.getElem?_eq_getElem (by omega)
  generalize L[i]=c at hg
  have hcm:Inn c (gOf s.t):=(od.one c).mp (List.mem_of_getElem? hg)
  have dc:=(dL.2 i c y hg hi).mono (jqa s')
  obtain ⟨p,ks,rfl,ok,hp,dk⟩:=dc.open
  have h0:atI (c.hd++ks) 0=some (.str c.kind):=by cases c<;>exact jqd (j:=0) rfl
  refine ⟨_,rfl,p,_,_,_,rfl,rfl,SqT.of hp,h0,rfl,_,rfl,?_⟩
  by_cases hk:c.kind="stamp"
  ·refine iteY (by rw [hk];decide+kernel) ?_
   exact k1 _ (s1.trans s') (.inl (jj6 _ _ hcm hk))
  ·refine iteN (nk hk) ⟨_,rfl,s',fun x hx=>?_⟩
   rw [List.take_add_one,hg] at hx
   rcases List.mem_append.mp hx with z|z
   ·exact hF x z
   ·have:x=c:=by simpa using z
    exact this▸hk
 ·rintro σ H2 ⟨j1,rfl,s2,hF⟩
  have hns:¬ Sts s.t:=fun z=>by
   obtain ⟨x,i1,i2⟩:=jj5 _ z
   refine hF x ?_ i2
   rw [hlen,List.take_length]
   exact (od.one x).mpr i1
  have s12:=s1.trans s2
  refine ⟨_,rfl,q,_,_,_,rfl,rfl,SqT.of (s12 _ _ hq),jqd (j:=0) rfl,s.t,x,rfl,hx.mono (jqa s12),hz1,hz2,fun l' ws H3 s3 n3 h3 up3 m3=>⟨l',rfl,⟨_,SqL.of h3⟩,?_⟩⟩
  have s13:=s12.trans s3
  refine jzc (K:=K) (a:=l') (xs:=ws.map V.str) (fun i σ H'=>∃ j2,σ=[some (.ref q),j1,j2]∧Same H3 H'∧∀ w∈ws.take i,∀ m,s.e.look w=some m→¬ m.isH) ⟨none,rfl,Same.refl _,by simp⟩ (fun i σ H' _ hP=>?_) ?_ ?_
  ·obtain ⟨_,_,s,_⟩:=hP
   exact SqL.of (s _ _ h3)
  ·rintro i y σ H' hi ⟨j2,rfl,s',hF2⟩
   obtain ⟨w,hw,rfl⟩:∃ x,ws[i]?=some x∧y=V.str x:=by
    rw [List.getElem?_map] at hi
    cases e:ws[i]? with
    | none=>rw [e] at hi;cases hi
    | some z=>rw [e] at hi;exact ⟨z,rfl,(Option.some.inj hi).symm⟩
   have s0':=s13.trans s'
   have hq':=s0' _ _ hq
   have hd':=s0' _ _ hd
   have dg:=DGet.k (k:=.inr w) hd'
   have ho:s.t.out w:=(m3 w).mp (List.mem_of_getElem? hw)
   have nx:(∀ m,s.e.look w=some m→¬ m.isH)→∃ j2,([some (.ref q),j1,some (.str w)]:St)=[some (.ref q),j1,j2]∧Same H3 H'∧∀ w∈ws.take (i+1),∀ m,s.e.look w=some m→¬ m.isH:=fun hm=>⟨_,rfl,s',fun v hv=>by
    rw [List.take_add_one,hw] at hv
    rcases List.mem_append.mp hv with z|z
    ·exact hF2 v z
    ·have:v=w:=by simpa using z
     exact this▸hm⟩
   refine ⟨_,rfl,_,rfl,q,_,_,_,rfl,rfl,SqT.of hq',jqd (j:=3) rfl,d,_,rfl,dg,_,rfl,?_⟩
   rcases jcf w (he.mono (Kp.same s0')) with ⟨e1,e2⟩|⟨m,v,e1,e2,mm⟩
   ·rw [e2]
    refine iteN rfl (iteN rfl (nx fun m z=>by rw [e1] at z;cases z))
   ·rw [e2] at dg ⊢
    refine iteY rfl ?_
    cases m with
    | called v=>
     obtain ⟨p,rfl,hp⟩:=mm
     refine ⟨_,rfl,q,_,_,_,rfl,rfl,SqT.of hq',jqd (j:=3) rfl,_,rfl,d,_,rfl,dg,p,_,_,_,rfl,rfl,SqT.of hp,jqd (j:=0) rfl,rfl,_,rfl,iteN (by decide+kernel) (nx fun m z=>?_)⟩
     rw [e1] at z;cases z;exact id
    | ready n z=>
     obtain ⟨p,rfl,hp⟩:=mm
     refine ⟨_,rfl,q,_,_,_,rfl,rfl,SqT.of hq',jqd (j:=3) rfl,_,rfl,d,_,rfl,dg,p,_,_,_,rfl,rfl,SqT.of hp,jqd (j:=0) rfl,rfl,_,rfl,iteN (by decide+kernel) (nx fun m z=>?_)⟩
     rw [e1] at z;cases z;exact id
    | handed t src path e=>
     obtain ⟨p,q2,x2,pp2,d2,kvs2,rfl,hp,_⟩:=mm
     refine ⟨_,rfl,q,_,_,_,rfl,rfl,SqT.of hq',jqd (j:=3) rfl,_,rfl,d,_,rfl,dg,p,_,_,_,rfl,rfl,SqT.of hp,jqd (j:=0) rfl,rfl,_,rfl,iteY (by decide+kernel) ?_⟩
     exact k1 _ s0' (.inr ⟨w,_,ho,e1,True.intro⟩)
  ·rintro σ H4 ⟨j2,rfl,s4,hF2⟩
   refine k2 _ (s13.trans s4) ?_
   rintro (z|⟨w,m,o,l,i⟩)
   ·exact hns z
   ·refine hF2 w ?_ m l i
    rw [List.length_map,List.take_length]
    exact (m3 w).mpr o
end S9
namespace HT
open PySem PyProof.Rows
section
open PySem.SeqAt
open PySem.MeetsSeq PySem.MeetsSeq2 PySem.MeetsSeq3
variable {prog:Program} {w:World} {A:Around} {E:Value→Shared→Prop} {s:Shared}
theorem getItem_tuple_whole {t sl:Addr} {items:Array Value} {vl vu:Value} {lo hi:Option Int} {Q:Value→Shared→Prop} (ht:IsTup s.heap t items) (hs:s.heap.IsSliceOf sl vl vu .none) (pl:IsPart vl lo) (pu:IsPart vu hi)
  (h1:sIx items.size 0 lo=0) (h2:sIx items.size items.size hi=items.size) (h:Q (.ref t) s):wpAny (model prog w) A (getItem (.ref t) (.ref sl)) Q E s:=by
 obtain ⟨os,hos,hcs,hds⟩:=id hs
 have hTs:s.TypeIs (.ref sl) "slice":=⟨os,hos,hcs⟩
 unfold getItem
 try with_reducible refine wpAny_holding ?_
 first|refine wpAny_bind (wpAny_pure ?_)|skip
 refine wpAny_bind (wpAny_sequenceKey ht.typeIs (by decide) ?_)
 refine wpAny_bind (wpAny_callSpecial?_slot (name:=Str.ofString "__getitem__") ht.typeIs PyProof.Rows.slot_tuple_getitem
  (wpAny_call_entry PyProof.Rows.slot_tuple_getitem ht.typeIs entry_tuple_getitem ?_ (args_tuple_getitem _ _)))
 show wpAny _ _ (Builtin.Tuple.tupleItemsOf (.ref t) >>= _) _ _ s
 refine wpAny_bind (tupleItemsOf_ ht ?_)
 refine wpAny_bind (wpAny_typeOf hTs ?_)
 rw [if_pos (by decide)]
 refine wpAny_bind (jjj hs pl pu ?_)
 have hno:((((sIx items.size 0 lo:Nat):Int) == 0 && (1:Int) == 1 && (sIx items.size items.size hi - sIx items.size 0 lo) == items.size)=true):=by
  rw [h1,h2];simp
 show wpAny _ _ (if (((sIx items.size 0 lo:Nat):Int) == 0 && (1:Int) == 1 && (sIx items.size items.size hi - sIx items.size 0 lo) == items.size)=true then _ else _) _ _ s
 rw [if_pos hno]
 refine wpAny_bind (wpAny_bind (m:=typeOf (.ref t)) (wpAny_typeOf ht.typeIs (wpAny_pure ?_)))
 show wpAny _ _ (if _ then _ else _) _ _ s
 rw [if_pos (by decide)]
 refine wpAny_bind (wpAny_rule ?_)
 first
  | exact wpAny_pure ⟨_,rfl,wpAny_pure h⟩
  | exact wpAny_bind (wpAny_pure (wpAny_pure ⟨_,rfl,wpAny_pure h⟩))
  | exact wpAny_bind (wpAny_pure ⟨_,rfl,wpAny_pure h⟩)
end
end HT
namespace L2
open PySem PySem.Spec PyProof.Rows
def rSlW (K:PySem.W.Frag):V→Option Int→Option Int→Hp→VK→Prop:=fun x lo hi H Q=>∃ a xs,x=.ref a∧SqT K H a xs∧
 HT.sIx xs.length 0 lo=0∧HT.sIx xs.length xs.length hi=xs.length∧Q (.ref a) H
def jm6 (K:PySem.W.Frag):V→Option Int→Option Int→Hp→VK→Prop:=fun x lo hi H Q=>rSlT K x lo hi H Q∨rSlW K x lo hi H Q
section
variable {X:Cx}
theorem jgi:SlR X (rSlW X.K):=by
 intro pins s σ H x v vl vu lo hi sl Q I rx hs pl pu h
 obtain ⟨a,xs,rfl,hx,h1,h2,q⟩:=h
 cases rx
 obtain ⟨its,r,ht,hz⟩:=I.tuple hx
 have hlen:its.toArray.size=xs.length:=by rw [List.size_toArray];exact r.length.symm
 refine ⟨"tuple",_,PyProof.Rows.slot_tuple_getitem.lookup,ht.typeIs,?_⟩
 refine HT.getItem_tuple_whole ht hs pl pu (by rw [hlen];exact h1) (by rw [hlen];exact h2) ?_
 exact ⟨.ref a,H,I,rfl,q⟩
theorem jlz:SlR X (jm6 X.K):=SlR.or jbx jgi
end
end L2
namespace S9
open PySem L2 SW
variable {K:PySem.W.Frag} {vs:List V} {H:Hp} {Q:VK} {E:XK} {N C D:Addr}
theorem jel {H:Hp} {r hp sx pp:Addr} {h:Hd} {src:Str} {path:List Nat} {n:Int} (hr:H r=some (.tup [.str "row",.ref hp,.int n,.ref sx])) (hn:n=(h.ar:Int)) (hh:H hp=some (.tup h.vs)) (hs:H sx=some (.tup [.str src,.ref pp])) (hpp:H pp=some (.tup (pth path))):RwAt H (.row h src path) (.ref r):=by
 subst hn
 exact ⟨r,hp,_,rfl,hr,hh,sx,pp,rfl,hs,hpp⟩
def spTn:Sp:=fun vs H Q _=>∃ (tk:Addr→Prop) (wl rl:Addr) (s:Spot) (o u:V) (w:Str) (wus rus:List V) (ws:List Str),vs=[o,u,.ref wl,.ref rl]∧SpAt tk H s u∧s.t=.name w∧H wl=some (.lst wus)∧H rl=some (.lst rus)∧wl≠rl∧wus.length≤9000000∧rus.length≤9000000∧
 ∀ (P:List Spot) (rs:List Rw) (H':Hp),Tk ws s P rs ws→Aft tk wl rl wus rus P rs H'→Ex [wl,rl] H H'→Q .non H'
def jnn (K:PySem.W.Frag) (a_Opening a_FreshWords:Addr):TS:=(jxn (tBM K "list" jxa (tVar 2) (jq3 (tOp (rIxT K) (tVar 5) (tC (.int 1))) tNil)))
def jnm (K:PySem.W.Frag) (a_Opening a_FreshWords:Addr):TS:=(jxn (tBM K "list" jxa (tVar 3) (jq3 (tVar 5) tNil)))
def jnl (K:PySem.W.Frag) (a_Opening a_FreshWords:Addr):TS:=(jxn (tBM K "list" jxa (tVar 3) (jq3 (jx7 jwi [] E0 (jq3 (tVar 1) (jq3 (tTup (jq3 (tC (.str "name")) (jq3 (tOp (rIxT K) (tVar 5) (tC (.int 1))) tNil))) (jq3 (tC (.int 0)) tNil)))) tNil)))
def jnk (K:PySem.W.Frag) (a_Opening a_FreshWords:Addr):TS:=(tIfS (jx0 (tOp rEq (tOp (rIxT K) (tVar 5) (tC (.int 0))) (tC (.str "ready")))) (jnm K a_Opening a_FreshWords) (jnl K a_Opening a_FreshWords))
def jhq (K:PySem.W.Frag) (a_Opening a_FreshWords:Addr):TS:=(tIfS (jx0 (tOp rEq (tOp (rIxT K) (tVar 5) (tC (.int 0))) (tC (.str "handed")))) (jnn K a_Opening a_FreshWords) (jnk K a_Opening a_FreshWords))
def t_tn (K:PySem.W.Frag) (a_Opening a_FreshWords:Addr):TS:=(tSeq (tAsg (tOp (rIxT K) (tOp (rIxT K) (tVar 1) (tC (.int 0))) (tC (.int 1))) (jqk 4)) (tSeq (tAsg (je2 (tOp (rIxT K) (tVar 1) (tC (.int 3))) (tVar 4) (tTup (jq3 (tC (.str "called")) (jq3 (tVar 4) tNil)))) (jqk 5)) (jhq K a_Opening a_FreshWords)))
theorem rd_tn (h:spTn vs H Q E):t_tn K C D (fin Q) (start ["self","spot","waiting","rows","word","meaning"] vs) H:=by
 obtain ⟨tk,wl,rl,s,o,u,w,wus,rus,ws,rfl,⟨q,x,pp,d,kvs,rfl,hq,hx,hpp,nd,hd,he⟩,ht,hw,hr,hne,z1,z2,k⟩:=h
 rw [ht] at hx
 obtain ⟨p,rfl,hp⟩:=hx
 refine ⟨_,rfl,q,_,_,_,rfl,rfl,SqT.of hq,jqd (j:=0) rfl,p,_,_,_,rfl,rfl,SqT.of hp,jqd (j:=1) rfl,?_⟩
 refine ⟨_,rfl,q,_,_,_,rfl,rfl,SqT.of hq,jqd (j:=3) rfl,d,rfl,.inl ⟨kvs,.inl hd⟩,_,rfl,_,rfl,szl,fun z hz=>?_⟩
 have s1:=jq2 (o:=.tup [.str "called",.str w]) hz
 have g1:(upd H z (.tup [.str "called",.str w])) z=some (.tup [.str "called",.str w]):=jq1
 generalize upd H z (.tup [.str "called",.str w])=H1 at s1 g1 ⊢
 refine ⟨_,DGet.k (k:=.inr w) (s1 _ _ hd),?_⟩
 have hr1:=s1 _ _ hr
 have hw1:=s1 _ _ hw
 have called:∀ (mp:Addr) (v:Str),H1 mp=some (.tup [.str "called",.str v])→Tk ws s [] [.row (.name v) s.src s.path] ws→jhq K C D (fin Q) [some o,some (.ref q),some (.ref wl),some (.ref rl),some (.str w),some (.ref mp)] H1:=by
  intro mp v hm tkk
  refine ⟨_,rfl,mp,_,_,_,rfl,rfl,SqT.of hm,jqd (j:=0) rfl,rfl,_,rfl,iteN (by decide+kernel) ?_⟩
  refine ⟨_,rfl,mp,_,_,_,rfl,rfl,SqT.of hm,jqd (j:=0) rfl,rfl,_,rfl,iteN (by decide+kernel) ?_⟩
  refine ⟨_,rfl,.inl ⟨rfl,_,SqL.of hr1⟩,_,rfl,_,rfl,mp,_,_,_,rfl,rfl,SqT.of hm,jqd (j:=1) rfl,szl,fun hh hhh=>?_⟩
  have s2:=jq2 (o:=.tup [.str "name",.str v]) hhh
  have g2:(upd H1 hh (.tup [.str "name",.str v])) hh=some (.tup [.str "name",.str v]):=jq1
  generalize upd H1 hh (.tup [.str "name",.str v])=H2 at s2 g2 ⊢
  have s12:=s1.trans s2
  refine ⟨q,q,_,s.src,_,_,.ref hh,0,rfl,s12 _ _ hq,fun r sx H3 s3 g3 g4=>?_⟩
  have s13:=s12.trans s3
  have hr3:=s13 _ _ hr
  refine ⟨rl,_,_,rfl,rfl,hr3,by rw [sizeLine_eq];omega,?_⟩
  have t4:TupLe H3 (upd H3 rl (.lst (rus++[.ref r]))):=jxh hr3
  refine k [] _ _ tkk ⟨⟨[],by rw [jqb hne,List.append_nil];exact s13 _ _ hw,.nil⟩,[.ref r],jq1,.one ?_⟩ ((Ex.same s13).trans (Ex.upd (by simp)))
  exact jel (t4 _ _ g4) rfl (t4 _ _ (s3 _ _ g2)) (t4 _ _ g3) (t4 _ _ (s13 _ _ hpp))
 rcases jcf w he with ⟨e1,e2⟩|⟨m,v,e1,e2,mm⟩
 ·rw [e2]
  exact called z w g1 (.free ht e1)
 ·rw [e2]
  have mm:=mm.mono (Kp.same s1)
  cases m with
  | called v=>
   obtain ⟨p,rfl,hp⟩:=mm
   exact called p v hp (.called ht e1)
  | ready n zz=>
   obtain ⟨mp,rfl,hm⟩:=mm
   refine ⟨_,rfl,mp,_,_,_,rfl,rfl,SqT.of hm,jqd (j:=0) rfl,rfl,_,rfl,iteN (by decide+kernel) ?_⟩
   refine ⟨_,rfl,mp,_,_,_,rfl,rfl,SqT.of hm,jqd (j:=0) rfl,rfl,_,rfl,iteY (by decide+kernel) ?_⟩
   refine ⟨_,rfl,.inl ⟨rfl,_,SqL.of hr1⟩,_,rfl,rl,_,_,rfl,rfl,hr1,by rw [sizeLine_eq];omega,?_⟩
   have t4:TupLe H1 (upd H1 rl (.lst (rus++[.ref mp]))):=jxh hr1
   exact k [] _ _ (.ready ht e1) ⟨⟨[],by rw [jqb hne,List.append_nil];exact hw1,.nil⟩,[.ref mp],jq1,.one ⟨mp,rfl,t4 _ _ hm⟩⟩ ((Ex.same s1).trans (Ex.upd (by simp)))
  | handed t src path e=>
   obtain ⟨mp,q2,x2,pp2,d2,kvs2,rfl,hm,hq2,hx2,hpp2,nd2,hd2,he2⟩:=mm
   refine ⟨_,rfl,mp,_,_,_,rfl,rfl,SqT.of hm,jqd (j:=0) rfl,rfl,_,rfl,iteY (by decide+kernel) ?_⟩
   refine ⟨_,rfl,.inl ⟨rfl,_,SqL.of hw1⟩,_,rfl,mp,_,_,_,rfl,rfl,SqT.of hm,jqd (j:=1) rfl,wl,_,_,rfl,rfl,hw1,by rw [sizeLine_eq];omega,?_⟩
   have k4:Kp tk H1 (upd H1 wl (.lst (wus++[.ref q2]))):=Kp.lst hw1
   have sp:SpAt tk H1 ⟨t,src,path,e⟩ (.ref q2):=⟨q2,x2,pp2,d2,kvs2,rfl,hq2,hx2,hpp2,nd2,hd2,he2⟩
   exact k _ [] _ (.handed ht e1) ⟨⟨[.ref q2],jq1,.one (sp.mono k4)⟩,[],by rw [jqb hne.symm,List.append_nil];exact hr1,.nil⟩ ((Ex.same s1).trans (Ex.upd (by simp)))
def spTp:Sp:=fun vs H Q _=>∃ (tk:Addr→Prop) (wl rl:Addr) (s:Spot) (o u:V) (h:Hd) (wus rus:List V) (ws:List Str),vs=[o,u,.ref wl,.ref rl]∧SpAt tk H s u∧pl s.t=some h∧s.path.length≤1000∧H wl=some (.lst wus)∧H rl=some (.lst rus)∧wl≠rl∧wus.length≤9000000∧rus.length≤9000000∧
 ∀ (P:List Spot) (rs:List Rw) (H':Hp),Tk ws s P rs ws→Aft tk wl rl wus rus P rs H'→Ex [wl,rl] H H'→Q .non H'
def jnj (K:PySem.W.Frag) (a_Opening a_FreshWords:Addr):TS:=(jxn (tBM K "list" jxa (tVar 2) (jq3 (tVar 6) tNil)))
def t_tp (K:PySem.W.Frag) (a_Opening a_FreshWords:Addr):TS:=(tSeq (tAsg (tOp (rIxT K) (tVar 1) (tC (.int 0))) (jqk 4)) (tSeq (tAsg (jx7 jzi [] E0 (jq3 (tVar 1) tNil)) (jqk 5)) (tSeq (jxn (tBM K "list" jxa (tVar 3) (jq3 (jx7 jwi [] E0 (jq3 (tVar 1) (jq3 (tSl (jm6 K) (tVar 4) jz5 (jzd (tOp jwo (tCB (cLen K) (jq3 (tVar 4) tNil)) (tCB (cLen K) (jq3 (tVar 5) tNil))))) (jq3 (tCB (cLen K) (jq3 (tVar 5) tNil)) tNil)))) tNil))) (tFor (iRev K (tVar 5)) (jqk 6) (jnj K a_Opening a_FreshWords)))))
theorem jce {K:PySem.W.Frag} {a:Addr} {xs:List V} {g:TG} {tb:TS} {D:Ends} {σ:St} {H:Hp} (Pv:Nat→St→Hp→Prop) (h0:Pv 0 σ H) (hl:∀ i σ H,i≤xs.length→Pv i σ H→SqL K H a xs)
  (hs:∀ i x σ H,i < xs.length→xs[xs.length - 1 - i]?=some x→Pv i σ H→g x σ H fun σ2 H2=>tb { D with nx:=Pv (i+1),ct:=Pv (i+1),bk:=D.nx} σ2 H2) (hd:∀ σ H,Pv xs.length σ H→D.nx σ H) :
  ∃ W:Nat→Nat→St→Hp→Prop,(∃ m,W 0 m σ H)∧∀ i m σ H,W i m σ H→
   ((jdb K a xs.length).stop i H∧D.nx σ H)∨((jdb K a xs.length).go i H∧∃ N:St→Hp→Prop,(∀ σ' H',N σ' H'→∃ m',m' < m∧W (i+1) m' σ' H')∧∀ x H',(jdb K a xs.length).yld i H x H'→g x σ H' fun σ2 H2=>tb { D with nx:=N,ct:=N,bk:=D.nx} σ2 H2):=by
 refine ⟨fun i m σ H=>m=xs.length - i∧i≤xs.length∧Pv i σ H,⟨_,rfl,Nat.zero_le _,h0⟩,?_⟩
 rintro i m σ H ⟨rfl,hi,pv⟩
 by_cases e:i=xs.length
 ·subst e
  exact .inl ⟨rfl,hd _ _ pv⟩
 ·have hlt:i < xs.length:=by omega
  refine .inr ⟨⟨hlt,xs,xs[xs.length - 1 - i]'(by omega),hl _ _ _ hi pv,rfl,List.getElem?_eq_getElem _⟩,Pv (i+1),fun σ' H' h=>⟨xs.length - (i+1),by omega,rfl,hlt,h⟩,?_⟩
  rintro x H' ⟨rfl,hx⟩
  exact hs i x σ H' hlt (hx xs (hl _ _ _ hi pv)) pv
theorem hd_pl {t:T} {h:Hd} (e:pl t=some h):SW.hd t=h.vs:=by
 cases t<;>simp only [pl,Option.some.injEq,reduceCtorEq] at e<;>subst e<;>rfl
theorem jm0 {p:Addr} {xs ks:List V} {H:Hp} {Q:VK} {z:Int} (hp:H p=some (.tup (xs++ks))) (hz:z=(xs.length:Int)) (k:∀ r H',Same H H'→H' r=some (.tup xs)→Q (.ref r) H'):jm6 K (.ref p) none (some z) H Q:=by
 subst hz
 by_cases hk:ks=[]
 ·subst hk
  rw [List.append_nil] at hp
  exact .inr ⟨p,xs,rfl,SqT.of hp,rfl,by rw [HT.sIx_nat,Nat.min_self],k p H (Same.refl _) hp⟩
 ·refine .inl ⟨p,_,rfl,SqT.of hp,?_,fun r hr=>k r _ (jq2 hr) ?_⟩
  ·rintro ⟨_,z⟩
   have:0 < ks.length:=List.length_pos_iff.mpr hk
   rw [HT.sIx_nat,List.length_append] at z
   omega
  ·rw [jq1,jig _ _ (by simp),List.take_left]
theorem jgk {us:List V} {i:Nat} {x:V} (hi:i < us.length) (hx:us[us.length - 1 - i]?=some x):(us.drop (us.length - (i+1))).reverse=(us.drop (us.length - i)).reverse++[x]:=by
 obtain ⟨h1,h2⟩:=List.getElem?_eq_some_iff.mp hx
 have e:us.length - (i+1)=us.length - 1 - i:=by omega
 rw [e,List.drop_eq_getElem_cons h1,h2,List.reverse_cons]
 congr 3
 omega
theorem rd_tp (h:spTp vs H Q E):t_tp K C D (fin Q) (start ["self","spot","waiting","rows","piece","inner","part"] vs) H:=by
 obtain ⟨tk,wl,rl,s,o,u,h,wus,rus,ws,rfl,sp,hpl,hpath,hw,hr,hne,z1,z2,k⟩:=h
 have sp0:=sp
 obtain ⟨q,x,pp,d,kvs,rfl,hq,hx,hpp,nd,hd,he⟩:=sp
 refine ⟨_,rfl,q,_,_,_,rfl,rfl,SqT.of hq,jqd (j:=0) rfl,?_⟩
 refine ⟨_,rfl,tk,s,.ref q,rfl,sp0,hpath,fun il us H1 s1 n1 g1 al=>?_⟩
 obtain ⟨p,ks,rfl,hp,dk⟩:=hx.open
 rw [hd_pl hpl] at hp
 have hp1:=s1 _ _ hp
 have hal:=al.length
 rw [jjw] at hal
 have hkl:=dk.length
 have har:=jpt hpl
 have hk3:=jmt s.t
 refine ⟨_,rfl,.inl ⟨rfl,_,SqL.of (s1 _ _ hr)⟩,_,rfl,_,rfl,_,rfl,p,_,rfl,.inr (SqT.of hp1),_,rfl,il,_,rfl,.inl (SqL.of g1),_,_,rfl,rfl,_,rfl,?_⟩
 refine jm0 hp1 (by rw [List.length_append];omega) fun hh H2 s2 g2=>?_
 have s12:=s1.trans s2
 refine ⟨_,rfl,il,_,rfl,.inl (SqL.of (s2 _ _ g1)),q,q,_,s.src,_,_,.ref hh,us.length,rfl,s12 _ _ hq,fun r sx H3 s3 g3 g4=>?_⟩
 have s13:=s12.trans s3
 have hr3:=s13 _ _ hr
 refine ⟨rl,_,_,rfl,rfl,hr3,by rw [sizeLine_eq];omega,?_⟩
 have kp4:Kp tk H3 (upd H3 rl (.lst (rus++[.ref r]))):=Kp.lst hr3
 have ex4:Ex [wl,rl] H3 (upd H3 rl (.lst (rus++[.ref r]))):=Ex.upd (by simp)
 have w4:(upd H3 rl (.lst (rus++[.ref r]))) wl=some (.lst wus):=by rw [jqb hne];exact s13 _ _ hw
 have r4:(upd H3 rl (.lst (rus++[.ref r]))) rl=some (.lst (rus++[.ref r])):=jq1
 have nil_:il≠rl:=(jq9 hr n1).symm
 have niw:il≠wl:=(jq9 hw n1).symm
 have i4:(upd H3 rl (.lst (rus++[.ref r]))) il=some (.lst us):=by rw [jqb nil_];exact s3 _ _ (s2 _ _ g1)
 generalize upd H3 rl (.lst (rus++[.ref r]))=H4 at kp4 ex4 w4 r4 i4 ⊢
 have rw4:RwAt H4 (.row h s.src s.path) (.ref r):=jel (kp4.tup _ _ g4) (by omega) (kp4.tup _ _ (s3 _ _ g2)) (kp4.tup _ _ g3) (kp4.tup _ _ (s13 _ _ hpp))
 have al4:Al (SpAt tk H4) s.within us:=al.mono fun _ _=>SpAt.mono ((Kp.same (s2.trans s3)).trans kp4)
 have ex04:Ex [wl,rl] H H4:=(Ex.same s13).trans ex4
 refine ⟨_,rfl,il,us,rfl,SqL.of i4,?_⟩
 refine jce (K:=K) (a:=il) (xs:=us) (fun i σ H'=>∃ j6,σ=[some o,some (.ref q),some (.ref wl),some (.ref rl),some (.ref p),some (.ref il),j6]∧Kp tk H4 H'∧Ex [wl,rl] H4 H'∧H' wl=some (.lst (wus++(us.drop (us.length - i)).reverse))∧H' rl=some (.lst (rus++[.ref r]))∧H' il=some (.lst us))
  ⟨none,rfl,.refl,.refl,by simpa using w4,r4,i4⟩ (fun i σ H' _ hP=>?_) ?_ ?_
 ·obtain ⟨_,_,_,_,_,_,hi⟩:=hP
  exact SqL.of hi
 ·rintro i y σ H5 hi hy ⟨j6,rfl,kp5,ex5,w5,r5,i5⟩
  refine ⟨_,rfl,.inl ⟨rfl,_,SqL.of w5⟩,_,rfl,wl,_,_,rfl,rfl,w5,?_,?_⟩
  ·rw [List.length_append,List.length_reverse,List.length_drop,sizeLine_eq];omega
  ·refine ⟨_,rfl,kp5.trans (Kp.lst w5),ex5.trans (Ex.upd (by simp)),?_,by rw [jqb hne.symm];exact r5,by rw [jqb niw];exact i5⟩
   rw [jq1,jgk hi hy,List.append_assoc]
 ·rintro σ H5 ⟨j6,rfl,kp5,ex5,w5,r5,i5⟩
  rw [Nat.sub_self,List.drop_zero] at w5
  exact k _ _ _ (.plain hpl) ⟨⟨us.reverse,w5,(al4.mono fun _ _=>SpAt.mono kp5).reverse⟩,[.ref r],r5,.one (rw4.mono kp5.tup)⟩ (ex04.trans ex5)
def spTl (C D:Addr):Sp:=fun vs H Q _=>∃ (A:Ad) (b1 b2 b3:T) (F k:Nat) (N:Addr→Prop) (ws:List Str) (rd:List (List Rw)) (wl rl:Addr) (s:Spot) (u:V) (w:Str) (a b:T) (wus rus:List V) (P:Nat→Nat→Prop),
 vs=[.ref A.op,u,.ref wl,.ref rl]∧OpAt C D A b1 b2 b3 F N k ws rd H∧SpAt (Nk A.tk) H s u∧s.t=.lt w a b∧s.ok P∧ws.length≤8000000∧H wl=some (.lst wus)∧H rl=some (.lst rus)∧wl≠rl∧wl≠A.yl∧rl≠A.yl∧(∀ a,N a→a≠wl)∧(∀ a,N a→a≠rl)∧wus.length≤9000000∧rus.length≤9000000∧
 ∀ (P:List Spot) (rs:List Rw) (ws':List Str) (H':Hp),Tk ws s P rs ws'→OpAt C D A b1 b2 b3 F N k ws' rd H'→Aft (Nk A.tk) wl rl wus rus P rs H'→Ex [wl,rl,A.lp,A.tk] H H'→Q .non H'
def t_tl (K:PySem.W.Frag) (a_Opening a_FreshWords:Addr):TS:=(tSeq (tAsg (tOp (rIxT K) (tOp (rIxT K) (tVar 1) (tC (.int 0))) (tC (.int 1))) (jqk 4)) (tSeq (tAsg (jkz a_FreshWords "fresh" (jvc a_FreshWords) [] E0 (tFld K (tVar 0) "lets") (jq3 (tVar 4) tNil)) (jqk 5)) (tSeq (tAsg (jx7 jzi [] E0 (jq3 (tVar 1) tNil)) (jqk 6)) (tSeq (tAsg (tOp (rIxL K) (tVar 6) (tC (.int 1))) (jqk 7)) (tSeq (jxn (tBM K "list" jxa (tVar 3) (jq3 (jx7 jwi [] E0 (jq3 (tVar 1) (jq3 (tTup (jq3 (tC (.str "let")) (jq3 (tVar 5) tNil))) (jq3 (tC (.int 2)) tNil)))) tNil))) (tSeq (jxn (tBM K "list" jxa (tVar 2) (jq3 (tTup (jq3 (tOp (rIxT K) (tVar 7) (tC (.int 0))) (jq3 (tOp (rIxT K) (tVar 7) (tC (.int 1))) (jq3 (tOp (rIxT K) (tVar 7) (tC (.int 2))) (jq3 (jx7 jzf [] E0 (jq3 (tOp (rIxT K) (tVar 1) (tC (.int 3))) (jq3 (tVar 4) (jq3 (tTup (jq3 (tC (.str "called")) (jq3 (tVar 5) tNil))) tNil)))) tNil))))) tNil))) (jxn (tBM K "list" jxa (tVar 2) (jq3 (tOp (rIxL K) (tVar 6) (tC (.int 0))) tNil)))))))))
end S9
namespace S9
open PySem L2 SW
variable {K:PySem.W.Frag} {vs:List V} {H:Hp} {Q:VK} {E:XK} {C D:Addr}
theorem wf_no {d:Addr} {n:Nat} {m:Str} (e1:(m == "taken")=false:=by decide+kernel) (e2:(m == "tried")=false:=by decide+kernel):(wf d n).lookup m=none:=by
 simp only [wf,List.lookup,e1,e2]
theorem OpAt.kpW {A:Ad} {b1 b2 b3:T} {F k:Nat} {N:Addr→Prop} {ws:List Str} {rd:List (List Rw)} {H H':Hp} (O:OpAt C D A b1 b2 b3 F N k ws rd H) (e:Ex [A.lp,A.tk] H H'):Kp (Nk A.tk) H H':=by
 obtain ⟨n,f,_⟩:=O.fw
 refine O.kp e (fun a ha=>?_)
 rcases List.mem_cons.mp ha with rfl|ha
 ·exact .inr (.inr ⟨_,_,_,f.ob⟩)
 ·exact .inl (List.mem_singleton.mp ha)
theorem jij {p d:Addr} {H H':Hp} (e:Ap2 p d H H'):Ex [p,d] H H':=fun b o nb z=>e b o (fun q=>nb (by simp [q])) (fun q=>nb (by simp [q])) z
theorem rd_tl (ro:RO K C) (h:spTl C D vs H Q E):t_tl K C D (fin Q) (start ["self","spot","waiting","rows","own","word","inner","other"] vs) H:=by
 obtain ⟨A,b1,b2,b3,F,k,N,ws,rd,wl,rl,s,u,w,a,b,wus,rus,P,rfl,O,sp,ht,ok,hws,hw,hr,hne,ny,nz,nw,nr,z1,z2,kk⟩:=h
 have sp0:=sp
 obtain ⟨q,x,pp,d,kvs,rfl,hq,hx,hpp,nd,hd,he⟩:=sp
 rw [ht] at hx
 obtain ⟨p,x1,x2,rfl,hp,d1,d2⟩:=hx
 refine ⟨_,rfl,q,_,_,_,rfl,rfl,SqT.of hq,jqd (j:=0) rfl,p,_,_,_,rfl,rfl,SqT.of hp,jqd (j:=1) rfl,?_⟩
 obtain ⟨n,fw,cn⟩:=O.fw
 have wt:WT SF s.t:=ok.1.1
 rw [ht] at wt
 refine ⟨_,rfl,A.op,C,A.dx,_,_,rfl,O.ob,ro.cl,ro.nL,jmp,A.lp,A.lx,_,rfl,fw.ob,wf_no,_,rfl,A.lp,A.lx,A.tk,n,ws,w,rfl,fw,wt.1,hws,cn,fun y n' H1 wy hy hyw hn ap fw1=>?_⟩
 have O1:=O.word ap fw1 (by rw [List.length_append];exact hn)
 have kp1:=O.kpW (jij ap)
 have ex1:Ex [wl,rl,A.lp,A.tk] H H1:=(jij ap).more (by simp)
 have hw1:H1 wl=some (.lst wus):=ap _ _ (jxk hw fw.ob (by intro z;cases z)) (jxk hw fw.dk (by intro z;cases z)) hw
 have hr1:H1 rl=some (.lst rus):=ap _ _ (jxk hr fw.ob (by intro z;cases z)) (jxk hr fw.dk (by intro z;cases z)) hr
 have sp1:=sp0.mono kp1
 have hq1:=kp1.tup _ _ hq
 have hpp1:=kp1.tup _ _ hpp
 have hd1:=kp1.dct _ _ nd hd
 have he1:=he.mono kp1
 have htk1:=fw1.dk
 refine ⟨_,rfl,Nk A.tk,s,.ref q,rfl,sp1,by have:=ok.1.2.1;omega,fun il us H2 s2 n2 g2 al=>?_⟩
 have ew:s.within=[s.kid 0 a,s.kid 1 b]:=by unfold Spot.within;rw [ht];rfl
 rw [ew] at al
 cases al with|cons sa al=>cases al with|cons sb al=>cases al with|nil=>
 rename_i ua ub
 obtain ⟨q1,y1,pp1,dd1,kvs1,rfl,hq3,hy1,hpp3,_⟩:=sb
 have hq3:H2 q1=some (.tup [y1,.str s.src,.ref pp1,.ref dd1]):=hq3
 have hy1:Den H2 b y1:=hy1
 have hpp3:H2 pp1=some (.tup (pth (s.path++[1]))):=hpp3
 refine ⟨_,rfl,il,_,_,_,rfl,rfl,SqL.of g2,jqd (j:=1) rfl,?_⟩
 refine ⟨_,rfl,.inl ⟨rfl,_,SqL.of (s2 _ _ hr1)⟩,_,rfl,_,rfl,szl,fun hh hhh=>?_⟩
 have s3:=jq2 (o:=.tup [.str "let",.str y]) hhh
 have g3:(upd H2 hh (.tup [.str "let",.str y])) hh=some (.tup [.str "let",.str y]):=jq1
 generalize upd H2 hh (.tup [.str "let",.str y])=H3 at s3 g3 ⊢
 have s13:=s2.trans s3
 refine ⟨q,q,_,s.src,_,_,.ref hh,2,rfl,s13 _ _ hq1,fun r sx H4 s4 g4 g5=>?_⟩
 have s14:=s13.trans s4
 have hr4:=s14 _ _ hr1
 refine ⟨rl,_,_,rfl,rfl,hr4,by rw [sizeLine_eq];omega,?_⟩
 have nir:il≠rl:=(jq9 hr1 n2).symm
 have niw:il≠wl:=(jq9 hw1 n2).symm
 have O5:=(O1.same s14).lst (o:=.lst (rus++[.ref r])) hr4 nz nr
 have kp5:Kp (Nk A.tk) H4 (upd H4 rl (.lst (rus++[.ref r]))):=Kp.lst hr4
 have ex5:Ex [wl,rl,A.lp,A.tk] H4 (upd H4 rl (.lst (rus++[.ref r]))):=Ex.upd (by simp)
 have w5:(upd H4 rl (.lst (rus++[.ref r]))) wl=some (.lst wus):=by rw [jqb hne];exact s14 _ _ hw1
 have r5:(upd H4 rl (.lst (rus++[.ref r]))) rl=some (.lst (rus++[.ref r])):=jq1
 have i5:(upd H4 rl (.lst (rus++[.ref r]))) il=some (.lst [ua,.ref q1]):=by rw [jqb nir];exact s4 _ _ (s3 _ _ g2)
 have t5:(upd H4 rl (.lst (rus++[.ref r]))) A.tk=some (.dK (jj9 (ws++[y]))):=by rw [jqb (jxk (s14 _ _ htk1) hr4 (by intro z;cases z))];exact s14 _ _ htk1
 generalize upd H4 rl (.lst (rus++[.ref r]))=H5 at O5 kp5 ex5 w5 r5 i5 t5 ⊢
 have kp15:Kp (Nk A.tk) H1 H5:=(Kp.same s14).trans kp5
 have kp25:Kp (Nk A.tk) H2 H5:=(Kp.same (s3.trans s4)).trans kp5
 have rw5:RwAt H5 (.row (.lt y) s.src s.path) (.ref r):=jel (kp5.tup _ _ g5) rfl (kp5.tup _ _ (s4 _ _ g3)) (kp5.tup _ _ g4) (kp15.tup _ _ hpp1)
 have sa5:=sa.mono kp25
 have hq5:=kp15.tup _ _ hq1
 have hq35:=kp25.tup _ _ hq3
 have hy5:=hy1.mono kp25.tup
 have hpp5:=kp25.tup _ _ hpp3
 have hd5:=kp15.dct _ _ nd hd1
 have he5:=he1.mono kp15
 have ex05:Ex [wl,rl,A.lp,A.tk] H H5:=ex1.trans ((Ex.same s14).trans ex5)
 refine ⟨_,rfl,.inl ⟨rfl,_,SqL.of w5⟩,_,rfl,q1,_,_,_,rfl,rfl,SqT.of hq35,jqd (j:=0) rfl,_,rfl,q1,_,_,_,rfl,rfl,SqT.of hq35,jqd (j:=1) rfl,_,rfl,q1,_,_,_,rfl,rfl,SqT.of hq35,jqd (j:=2) rfl,_,rfl,q,_,_,_,rfl,rfl,SqT.of hq5,jqd (j:=3) rfl,_,rfl,_,rfl,szl,fun cc hcc=>?_⟩
 have s6:=jq2 (o:=.tup [.str "called",.str y]) hcc
 have g6:(upd H5 cc (.tup [.str "called",.str y])) cc=some (.tup [.str "called",.str y]):=jq1
 generalize upd H5 cc (.tup [.str "called",.str y])=H6 at s6 g6 ⊢
 refine ⟨d,w,.ref cc,kvs,rfl,s6 _ _ hd5,by rw [jfo he];have:=ok.1.2.2.1;omega,fun dn H7 nn s7 gd=>⟨szl,fun sp2 hsp2=>?_⟩⟩
 have s8:=jq2 (o:=.tup [y1,.str s.src,.ref pp1,.ref dn]) hsp2
 have g8:(upd H7 sp2 (.tup [y1,.str s.src,.ref pp1,.ref dn])) sp2=some (.tup [y1,.str s.src,.ref pp1,.ref dn]):=jq1
 have s58:=s6.trans (s7.trans s8)
 have dnt:dn≠A.tk:=(jq9 (s6 _ _ t5) nn).symm
 have spb:SpAt (Nk A.tk) (upd H7 sp2 (.tup [y1,.str s.src,.ref pp1,.ref dn])) ⟨b,s.src,s.path++[1],s.e.put w (.called y)⟩ (.ref sp2):=by
  refine ⟨sp2,y1,pp1,dn,_,rfl,g8,hy5.mono (jqa s58),s58 _ _ hpp5,dnt,s8 _ _ gd,?_⟩
  exact (jfn (n:=.called y) ⟨cc,rfl,s7 _ _ g6⟩ (jr7 ok.2) (he5.mono (Kp.same (s6.trans s7)))).mono (Kp.same s8)
 generalize upd H7 sp2 (.tup [y1,.str s.src,.ref pp1,.ref dn])=H8 at s8 g8 s58 spb ⊢
 have w8:=s58 _ _ w5
 refine ⟨wl,_,_,rfl,rfl,w8,by rw [sizeLine_eq];omega,?_⟩
 have O9:=(O5.same s58).lst (o:=.lst (wus++[.ref sp2])) w8 ny nw
 have kp9:Kp (Nk A.tk) H8 (upd H8 wl (.lst (wus++[.ref sp2]))):=Kp.lst w8
 have ex9:Ex [wl,rl,A.lp,A.tk] H8 (upd H8 wl (.lst (wus++[.ref sp2]))):=Ex.upd (by simp)
 have w9:(upd H8 wl (.lst (wus++[.ref sp2]))) wl=some (.lst (wus++[.ref sp2])):=jq1
 have r9:(upd H8 wl (.lst (wus++[.ref sp2]))) rl=some (.lst (rus++[.ref r])):=by rw [jqb hne.symm];exact s58 _ _ r5
 have i9:(upd H8 wl (.lst (wus++[.ref sp2]))) il=some (.lst [ua,.ref q1]):=by rw [jqb niw];exact s58 _ _ i5
 generalize upd H8 wl (.lst (wus++[.ref sp2]))=H9 at O9 kp9 ex9 w9 r9 i9 ⊢
 have kp59:Kp (Nk A.tk) H5 H9:=(Kp.same s58).trans kp9
 refine ⟨_,rfl,.inl ⟨rfl,_,SqL.of w9⟩,_,rfl,il,_,_,_,rfl,rfl,SqL.of i9,jqd (j:=0) rfl,wl,_,_,rfl,rfl,w9,by rw [List.length_append,List.length_singleton,sizeLine_eq];omega,?_⟩
 have kp10:Kp (Nk A.tk) H9 (upd H9 wl (.lst (wus++[.ref sp2]++[ua]))):=Kp.lst w9
 refine kk _ _ _ _ (.lt ht wy hy hyw) (O9.lst w9 ny nw) ⟨⟨[.ref sp2,ua],by rw [jq1,List.append_assoc];rfl,.cons (spb.mono (kp9.trans kp10)) (.one (sa5.mono (kp59.trans kp10)))⟩,[.ref r],by rw [jqb hne.symm];exact r9,.one (rw5.mono (kp59.trans kp10).tup)⟩ (ex05.trans ((Ex.same s58).trans (ex9.trans (Ex.upd (by simp)))))
end S9
namespace S9
open PySem L2 SW
variable {K:PySem.W.Frag} {vs:List V} {H:Hp} {Q:VK} {E:XK} {C D:Addr}
def spNo2:Sp:=fun vs _ _ _=>vs.length=2∧False
structure Pre (C D:Addr) (A:Ad) (b1 b2 b3:T) (F:Nat) (N:Addr→Prop) (k:Nat) (ws:List Str) (rd:List (List Rw)) (wl rl:Addr) (wus rus:List V) (s:Spot) (u:V) (P:Nat→Nat→Prop) (H:Hp):Prop where
 O:OpAt C D A b1 b2 b3 F N k ws rd H
 sp:SpAt (Nk A.tk) H s u
 ok:s.ok P
 zs:ws.length≤8000000
 w:H wl=some (.lst wus)
 r:H rl=some (.lst rus)
 ne:wl≠rl
 ny:wl≠A.yl
 nz:rl≠A.yl
 nw:∀ a,N a→a≠wl
 nr:∀ a,N a→a≠rl
 z1:wus.length≤9000000
 z2:rus.length≤9000000
section
variable {A:Ad} {b1 b2 b3:T} {F k:Nat} {N:Addr→Prop} {ws:List Str} {rd:List (List Rw)} {wl rl:Addr} {wus rus:List V} {s:Spot} {u:V} {P:Nat→Nat→Prop} {H':Hp}
theorem Pre.two (B:Pre C D A b1 b2 b3 F N k ws rd wl rl wus rus s u P H) (ex:Ex [wl,rl] H H'):OpAt C D A b1 b2 b3 F N k ws rd H':=by
 have kp:Kp (Nk A.tk) H H':=B.O.kp ex (fun a ha=>by
  rcases List.mem_cons.mp ha with rfl|ha
  ·exact .inr (.inl ⟨_,B.w⟩)
  ·rw [List.mem_singleton.mp ha];exact .inr (.inl ⟨_,B.r⟩))
 obtain ⟨n,f,_⟩:=B.O.fw
 have two:∀ a o,H a=some o→(∀ xs,o≠.lst xs)→a∉[wl,rl]:=fun a o h n q=>by
  rcases List.mem_cons.mp q with rfl|q
  ·rw [B.w] at h;exact n _ (Option.some.inj h).symm
  ·rw [List.mem_singleton.mp q,B.r] at h;exact n _ (Option.some.inj h).symm
 refine B.O.ex ex (two _ _ B.O.ob (by intro xs z;cases z)) (two _ _ f.ob (by intro xs z;cases z)) (two _ _ f.dk (by intro xs z;cases z)) (two _ _ B.O.sd (by intro xs z;cases z)) (fun q=>?_) kp.tup (fun a z q=>?_)
 ·rcases List.mem_cons.mp q with q|q
  ·exact B.ny q.symm
  ·exact B.nz (List.mem_singleton.mp q).symm
 ·rcases List.mem_cons.mp q with q|q
  ·exact B.nw a z q
  ·exact B.nr a z (List.mem_singleton.mp q)
end
def jea (C D:Addr):Sp:=fun vs H Q _=>∃ (A:Ad) (b1 b2 b3:T) (F k:Nat) (N:Addr→Prop) (ws:List Str) (rd:List (List Rw)) (wl rl:Addr) (wus rus:List V) (s:Spot) (u:V) (P:Nat→Nat→Prop),
 vs=[.ref A.op,u,.ref wl,.ref rl]∧Pre C D A b1 b2 b3 F N k ws rd wl rl wus rus s u P H∧¬ Op s∧
 ∀ (P:List Spot) (rs:List Rw) (ws':List Str) (H':Hp),Tk ws s P rs ws'→OpAt C D A b1 b2 b3 F N k ws' rd H'→Aft (Nk A.tk) wl rl wus rus P rs H'→Ex [wl,rl,A.lp,A.tk] H H'→Q .non H'
def jnt (K:PySem.W.Frag) (a_Opening a_FreshWords:Addr):TS:=(tSeq (jwn K (tVar 0) (tC (.int 1)) rAdd "many") (jxn (tBM K "list" jxa (tVar 2) (jq3 (jkz a_Opening "body_of" spNo2 [] E0 (tVar 0) (jq3 (tVar 1) tNil)) tNil))))
def jns (K:PySem.W.Frag) (a_Opening a_FreshWords:Addr):TS:=(jxn (jkz a_Opening "take_name" spTn [] E0 (tVar 0) (jq3 (tVar 1) (jq3 (tVar 2) (jq3 (tVar 3) tNil)))))
def jnr (K:PySem.W.Frag) (a_Opening a_FreshWords:Addr):TS:=(jxn (jkz a_Opening "take_let" (spTl a_Opening a_FreshWords) [] E0 (tVar 0) (jq3 (tVar 1) (jq3 (tVar 2) (jq3 (tVar 3) tNil)))))
def jnq (K:PySem.W.Frag) (a_Opening a_FreshWords:Addr):TS:=(jxn (jkz a_Opening "take_plain" spTp [] E0 (tVar 0) (jq3 (tVar 1) (jq3 (tVar 2) (jq3 (tVar 3) tNil)))))
def jnp (K:PySem.W.Frag) (a_Opening a_FreshWords:Addr):TS:=(tIfS (jx0 (tOp rEq (tVar 4) (tC (.str "let")))) (jnr K a_Opening a_FreshWords) (jnq K a_Opening a_FreshWords))
def jbv (K:PySem.W.Frag) (a_Opening a_FreshWords:Addr):TS:=(tIfS (jx0 (tOp rEq (tVar 4) (tC (.str "name")))) (jns K a_Opening a_FreshWords) (jnp K a_Opening a_FreshWords))
def jno (K:PySem.W.Frag) (a_Opening a_FreshWords:Addr):TS:=(tIfS (jx0 (tOp rEq (tVar 4) (tC (.str "stamp")))) (jnt K a_Opening a_FreshWords) (jbv K a_Opening a_FreshWords))
def t_tk (K:PySem.W.Frag) (a_Opening a_FreshWords:Addr):TS:=(tSeq (tAsg (tOp (rIxT K) (tOp (rIxT K) (tVar 1) (tC (.int 0))) (tC (.int 0))) (jqk 4)) (jno K a_Opening a_FreshWords))
theorem jrt (t:T) (ks:List V):atI (SW.hd t++ks) 0=some (.str (kind t)):=by cases t<;>exact jqd (j:=0) rfl
theorem ji5 {A:Ad} {b1 b2 b3:T} {F k:Nat} {N:Addr→Prop} {ws:List Str} {rd:List (List Rw)} {wl rl:Addr} {wus rus:List V} {s:Spot} {u:V} {P:Nat→Nat→Prop} (B:Pre C D A b1 b2 b3 F N k ws rd wl rl wus rus s u P H) (hk:kind s.t≠"stamp")
  (kk:∀ (P:List Spot) (rs:List Rw) (ws':List Str) (H':Hp),Tk ws s P rs ws'→OpAt C D A b1 b2 b3 F N k ws' rd H'→Aft (Nk A.tk) wl rl wus rus P rs H'→Ex [wl,rl,A.lp,A.tk] H H'→Q .non H') :
  jbv K C D (fin Q) [some (.ref A.op),some u,some (.ref wl),some (.ref rl),some (.str (kind s.t))] H:=by
 have path:s.path.length≤1000:=by have:=B.ok.1.2.1;omega
 have plain:∀ h,pl s.t=some h→kind s.t≠"name"→kind s.t≠"let"→jbv K C D (fin Q) [some (.ref A.op),some u,some (.ref wl),some (.ref rl),some (.str (kind s.t))] H:=fun h hp n1 n2=>by
  refine ⟨_,rfl,rfl,_,rfl,iteN (nk n1) ⟨_,rfl,rfl,_,rfl,iteN (nk n2) ?_⟩⟩
  refine ⟨_,rfl,A.op,A.dx,_,rfl,B.O.ob,jwt,_,rfl,_,rfl,_,rfl,Nk A.tk,wl,rl,s,_,_,h,wus,rus,ws,rfl,B.sp,hp,path,B.w,B.r,B.ne,B.z1,B.z2,fun P rs H' tk' aft ex=>?_⟩
  exact kk P rs ws H' tk' (B.two ex) aft (ex.more (by simp))
 cases e:s.t with
 | num n=>rw [← e];exact plain _ (by rw [e];rfl) (by rw [e];simp only [kind];decide+kernel) (by rw [e];simp only [kind];decide+kernel)
 | sum a b=>rw [← e];exact plain _ (by rw [e];rfl) (by rw [e];simp only [kind];decide+kernel) (by rw [e];simp only [kind];decide+kernel)
 | less a b=>rw [← e];exact plain _ (by rw [e];rfl) (by rw [e];simp only [kind];decide+kernel) (by rw [e];simp only [kind];decide+kernel)
 | cho a b c=>rw [← e];exact plain _ (by rw [e];rfl) (by rw [e];simp only [kind];decide+kernel) (by rw [e];simp only [kind];decide+kernel)
 | name w=>
  refine ⟨_,rfl,rfl,_,rfl,iteY (decide_eq_true rfl) ?_⟩
  refine ⟨_,rfl,A.op,A.dx,_,rfl,B.O.ob,jwt,_,rfl,_,rfl,_,rfl,Nk A.tk,wl,rl,s,_,_,w,wus,rus,ws,rfl,B.sp,e,B.w,B.r,B.ne,B.z1,B.z2,fun P rs H' tk' aft ex=>?_⟩
  exact kk P rs ws H' tk' (B.two ex) aft (ex.more (by simp))
 | lt w a b=>
  refine ⟨_,rfl,rfl,_,rfl,iteN (nk (show ("let":Str)≠"name" by decide+kernel)) ⟨_,rfl,rfl,_,rfl,iteY (decide_eq_true rfl) ?_⟩⟩
  exact ⟨_,rfl,A.op,A.dx,_,rfl,B.O.ob,jwt,_,rfl,_,rfl,_,rfl,A,b1,b2,b3,F,k,N,ws,rd,wl,rl,s,_,w,a,b,wus,rus,P,rfl,B.O,B.sp,e,B.ok,B.zs,B.w,B.r,B.ne,B.ny,B.nz,B.nw,B.nr,B.z1,B.z2,kk⟩
 | st0 w=>rw [e] at hk;exact absurd rfl hk
 | st1 w a=>rw [e] at hk;exact absurd rfl hk
 | st2 w a b=>rw [e] at hk;exact absurd rfl hk
theorem jh1 {t:T} (h:¬ Sts t):kind t≠"stamp":=by
 cases t<;>simp only [kind]<;>first|decide+kernel|exact absurd True.intro h
theorem rd_tk1 (h:jea C D vs H Q E):t_tk K C D (fin Q) (start ["self","spot","waiting","rows","kind"] vs) H:=by
 obtain ⟨A,b1,b2,b3,F,k,N,ws,rd,wl,rl,wus,rus,s,u,P,rfl,B,no,kk⟩:=h
 obtain ⟨q,x,pp,d,kvs,rfl,hq,hx,hpp,nd,hd,he⟩:=id B.sp
 obtain ⟨p,ks,rfl,hp,dk⟩:=hx.open
 refine ⟨_,rfl,q,_,_,_,rfl,rfl,SqT.of hq,jqd (j:=0) rfl,p,_,_,_,rfl,rfl,SqT.of hp,jrt s.t ks,?_⟩
 have hk:kind s.t≠"stamp":=jh1 fun z=>no (.inl z)
 exact ⟨_,rfl,rfl,_,rfl,iteN (nk hk) (ji5 B hk kk)⟩
def jvb (C D:Addr):Sp:=fun vs H Q _=>∃ (A:Ad) (b1 b2 b3:T) (F k:Nat) (N:Addr→Prop) (ws:List Str) (rd:List (List Rw)) (s:Spot) (u:V) (P:Nat→Nat→Prop),
 vs=[.ref A.op,u]∧OpAt C D A b1 b2 b3 F N k ws rd H∧NOk A N H∧SpAt (Nk A.tk) H s u∧s.ok P∧¬ Op s∧s.wt 0≤4000000∧ws.length≤4000000∧
 (k≤F→∀ (R:List Rw) (ws':List Str) (l:Addr) (rus:List V) (H':Hp),Run [s] [] ws R ws'→H l=none→H' l=some (.lst rus)→Al (RwAt H') R rus→OpAt C D A b1 b2 b3 F N k ws' rd H'→Ex [A.lp,A.tk] H H'→Q (.ref l) H')∧
 (¬ k≤F→∀ (l:Addr) (H':Hp),Same H H'→H l=none→H' l=some (.lst [])→Q (.ref l) H')
def jgc (K:PySem.W.Frag) (a_Opening a_FreshWords:Addr):TS:=(jxn (jkz a_Opening "take" (jea a_Opening a_FreshWords) [] E0 (tVar 0) (jq3 (tBM0 K "list" rPop (tVar 3)) (jq3 (tVar 3) (jq3 (tVar 2) tNil)))))
def t_rows (K:PySem.W.Frag) (a_Opening a_FreshWords:Addr):TS:=(tSeq (tAsg (tLst tNil) (jqk 2)) (tSeq (tAsg (tLst (jq3 (tVar 1) tNil)) (jqk 3)) (tSeq (jji (tAnd (jx0 (tOp rGtI (tCB (cLen K) (jq3 (tVar 3) tNil)) (tC (.int 0)))) (jx0 (tOp rLeI (tFld K (tVar 0) "many") (tFld K (tVar 0) "fuel")))) (jgc K a_Opening a_FreshWords)) (tRet (tVar 2)))))
structure R1St (C D:Addr) (A:Ad) (b1 b2 b3:T) (F:Nat) (N:Addr→Prop) (k:Nat) (ws:List Str) (rd:List (List Rw)) (wl rl:Addr) (s:Spot) (P:Nat→Nat→Prop) (H2:Hp) (S:List Spot) (R:List Rw) (ws1:List Str) (wus rus:List V) (H':Hp):Prop where
 O:OpAt C D A b1 b2 b3 F N k ws1 rd H'
 w:H' wl=some (.lst wus)
 r:H' rl=some (.lst rus)
 dw:Al (SpAt (Nk A.tk) H') S wus
 dr:Al (RwAt H') R rus
 ex:Ex [wl,rl,A.lp,A.tk] H2 H'
 run:∀ R' ws',Run S R ws1 R' ws'→Run [s] [] ws R' ws'
 so:∀ x∈S,x.ok P∧¬ Op x
 ro:∀ r∈R,r.ok P
 wt:wtS 0 S+wtR R=s.wt 0
 zs:ws1.length≤ws.length+R.length
theorem rd_rows1 (ro:RO K C) (h:jvb C D vs H Q E):t_rows K C D (fin Q) (start ["self","spot","rows","waiting"] vs) H:=by
 obtain ⟨A,b1,b2,b3,F,k,N,ws,rd,s,u,P,rfl,O,no,sp,ok,nop,z1,z2,k1,k2⟩:=h
 refine ⟨szl,fun rl hrl=>⟨_,rfl,szl,fun wl hwl=>?_⟩⟩
 have s1:Same H (upd H rl (.lst [])):=jq2 hrl
 have s2:=jq2 (o:=.lst [u]) hwl
 have hne:wl≠rl:=(jq9 (jq1 (H:=H) (a:=rl) (o:=.lst [])) hwl).symm
 have r2:(upd (upd H rl (.lst [])) wl (.lst [u])) rl=some (.lst []):=s2 _ _ jq1
 have w2:(upd (upd H rl (.lst [])) wl (.lst [u])) wl=some (.lst [u]):=jq1
 have hwl0:H wl=none:=s1.free hwl
 have s12:=s1.trans s2
 generalize upd (upd H rl (.lst [])) wl (.lst [u])=H2 at s2 r2 w2 s12 ⊢
 clear s1 s2 hwl
 have O2:=O.same s12
 by_cases hk:k≤F
 ·have hy:∃ us,H A.yl=some (.lst us):=O.yl.imp fun _ z=>z.1
  obtain ⟨ys,hy⟩:=hy
  have O2':OpAt C D A b1 b2 b3 F (fun a=>N a∧a≠wl∧a≠rl) k ws rd H2:=(O.weak (N':=fun a=>N a∧a≠wl∧a≠rl) fun a o h n=>⟨n,jq9 h hwl0,jq9 h hrl⟩).same s12
  have nyw:wl≠A.yl:=(jq9 hy hwl0).symm
  have nyr:rl≠A.yl:=(jq9 hy hrl).symm
  refine ⟨fun m σ H'=>∃ S R ws1 wus rus,σ=[some (.ref A.op),some u,some (.ref rl),some (.ref wl)]∧R1St C D A b1 b2 b3 F (fun a=>N a∧a≠wl∧a≠rl) k ws rd wl rl s P H2 S R ws1 wus rus H'∧m=wtS 1 S,⟨_,[s],[],ws,[u],[],rfl,?_,rfl⟩,?_⟩
  ·exact ⟨O2',w2,r2,.one (sp.mono (Kp.same s12)),.nil,.refl,fun _ _ z=>z,(fun x hx=>by rw [List.mem_singleton] at hx;exact hx▸⟨ok,nop⟩),(fun r hr=>by cases hr),(by rw [jxx,jj4];rfl),Nat.le_refl _⟩
  ·rintro m σ H3 ⟨S,R,ws1,wus,rus,rfl,B,rfl⟩
   refine ⟨_,rfl,wl,wus,rfl,.inl (SqL.of B.w),_,_,rfl,rfl,_,rfl,?_⟩
   by_cases hv:wus=[]
   ·subst hv
    refine iteN rfl (iteN rfl ?_)
    have e:S=[]:=List.length_eq_zero_iff.mp B.dw.length.symm
    subst e
    have O3:=B.O.weak (N':=N) fun a o h n=>n.1
    exact ⟨_,rfl,k1 hk R ws1 rl rus H3 (B.run _ _ .nil) hrl B.r B.dr O3 (Ex.new (l':=[wl,rl,A.lp,A.tk]) (fun a ha=>by
     simp only [List.mem_cons,List.not_mem_nil,or_false] at ha ⊢
     rcases ha with rfl|rfl|z|z
     ·exact .inr hwl0
     ·exact .inr hrl
     ·exact .inl (.inl z)
     ·exact .inl (.inr z)) ((Ex.same s12).trans B.ex))⟩
   ·obtain ⟨us,u1,rfl⟩:=jxw hv
    obtain ⟨S',s',rfl,d1,d2⟩:=B.dw.snoc
    refine iteY (decide_eq_true (by simp)) ?_
    refine ⟨_,rfl,A.op,C,A.dx,_,_,rfl,B.O.ob,ro.cl,ro.nM,jkn,_,rfl,A.op,C,A.dx,_,_,rfl,B.O.ob,ro.cl,ro.nF,jbb,_,_,rfl,rfl,_,rfl,?_⟩
    refine iteY (decide_eq_true (by omega)) ?_
    refine ⟨fun σ' H'=>∃ m',m' < wtS 1 (S'++[s'])∧∃ S R ws1 wus rus,σ'=[some (.ref A.op),some u,some (.ref rl),some (.ref wl)]∧R1St C D A b1 b2 b3 F (fun a=>N a∧a≠wl∧a≠rl) k ws rd wl rl s P H2 S R ws1 wus rus H'∧m'=wtS 1 S,fun _ _ h=>h,?_⟩
    refine ⟨_,rfl,A.op,A.dx,_,rfl,B.O.ob,jwt,_,rfl,.inl ⟨rfl,_,SqL.of B.w⟩,wl,_,_,rfl,rfl,B.w,jkw,?_⟩
    rw [jjt]
    have O4:=B.O.lst (o:=.lst us) B.w nyw (fun a z=>z.2.1)
    have kp4:Kp (Nk A.tk) H3 (upd H3 wl (.lst us)):=Kp.lst B.w
    have ex4:Ex [wl,rl,A.lp,A.tk] H3 (upd H3 wl (.lst us)):=Ex.upd (by simp)
    have w4:(upd H3 wl (.lst us)) wl=some (.lst us):=jq1
    have r4:(upd H3 wl (.lst us)) rl=some (.lst rus):=by rw [jqb hne.symm];exact B.r
    generalize upd H3 wl (.lst us)=H4 at O4 kp4 ex4 w4 r4 ⊢
    have os:=B.so s' (List.mem_append_right _ (.head _))
    have hwt:=B.wt
    rw [jx9,jxx] at hwt
    have hl1:=jb0 (h:=0) (S:=S') fun x hx=>(B.so x (List.mem_append_left _ hx)).1
    have hl2:=jk5 B.ro
    have hl3:=d1.length
    have hl4:=B.dr.length
    have hzs:=B.zs
    refine ⟨_,rfl,_,rfl,A,b1,b2,b3,F,k,_,ws1,rd,wl,rl,us,rus,s',u1,P,rfl,⟨O4,d2.mono kp4,os.1,by omega,w4,r4,hne,nyw,nyr,fun a z=>z.2.1,fun a z=>z.2.2,by omega,by omega⟩,os.2,fun Ps rs ws' H5 tkk O5 aft ex5=>?_⟩
    obtain ⟨⟨pus,w5,dp⟩,rvs,r5,dr5⟩:=aft
    have kp5:Kp (Nk A.tk) H4 H5:=by
     obtain ⟨n,f,_⟩:=O4.fw
     refine O4.kp ex5 (fun a ha=>?_)
     simp only [List.mem_cons,List.not_mem_nil,or_false] at ha
     rcases ha with rfl|rfl|rfl|z
     ·exact .inr (.inl ⟨_,w4⟩)
     ·exact .inr (.inl ⟨_,r4⟩)
     ·exact .inr (.inr ⟨_,_,_,f.ob⟩)
     ·exact .inl z
    have kp35:=kp4.trans kp5
    have h6:=jit tkk os.1
    have h7:=jis tkk os.1
    have h8:=tk_op tkk os.2
    have h9:=jiq tkk
    have h10:=jir tkk
    refine ⟨wtS 1 (S'++Ps),by rw [jx9,jx9,jxx];omega,S'++Ps,R++rs,ws',us++pus,rus++rvs,rfl,⟨O5,w5,r5,(d1.mono fun _ _=>SpAt.mono kp35).append dp,(B.dr.mono fun _ _=>RwAt.mono kp35.tup).append dr5,B.ex.trans (ex4.trans ex5),fun R' ws'' z=>B.run _ _ (.step tkk z),fun x hx=>?_,fun r hr=>?_,?_,?_⟩,rfl⟩
    ·rcases List.mem_append.mp hx with z|z
     ·exact B.so x (List.mem_append_left _ z)
     ·exact ⟨h7.1 x z,h8 x z⟩
    ·rcases List.mem_append.mp hr with z|z
     ·exact B.ro r z
     ·exact h7.2 r z
    ·rw [jx9,jjv];omega
    ·rw [List.length_append];omega
 ·refine ⟨fun m σ H'=>H'=H2∧σ=[some (.ref A.op),some u,some (.ref rl),some (.ref wl)],⟨0,rfl,rfl⟩,?_⟩
  rintro m σ H3 ⟨rfl,rfl⟩
  refine ⟨_,rfl,wl,_,rfl,.inl (SqL.of w2),_,_,rfl,rfl,_,rfl,iteY rfl ?_⟩
  refine ⟨_,rfl,A.op,C,A.dx,_,_,rfl,O2.ob,ro.cl,ro.nM,jkn,_,rfl,A.op,C,A.dx,_,_,rfl,O2.ob,ro.cl,ro.nF,jbb,_,_,rfl,rfl,_,rfl,iteN (decide_eq_false (by omega)) ?_⟩
  exact ⟨_,rfl,k2 hk rl _ s12 hrl r2⟩
end S9
namespace S9
open PySem L2 SW
variable {K:PySem.W.Frag} {vs:List V} {H:Hp} {Q:VK} {E:XK} {C D:Addr}
section
variable {A:Ad} {b1 b2 b3:T} {F k:Nat} {N:Addr→Prop} {ws:List Str} {rd:List (List Rw)} {H':Hp}
theorem OpAt.add (O:OpAt C D A b1 b2 b3 F N k ws rd H) (hN:∀ a,N a→a≠A.yl) {us:List V} (hy:H A.yl=some (.lst us)) {l:Addr} {rus:List V} {R:List Rw} (nl:N l) (hl:H l=some (.lst rus)) (dr:Al (RwAt H) R rus) :
  OpAt C D A b1 b2 b3 F N k ws (rd++[R]) (upd H A.yl (.lst (us++[.ref l]))):=by
 have ht:TupLe H (upd H A.yl (.lst (us++[.ref l]))):=jxh hy
 have hL:∀ l xs,N l→H l=some (.lst xs)→(upd H A.yl (.lst (us++[.ref l]))) l=some (.lst xs):=fun a xs n z=>by rw [jqb (hN a n)];exact z
 have hL2:∀ a xs,N a→H a=some (.lst xs)→(upd H A.yl (.lst (us++[.ref l]))) a=some (.lst xs):=fun a xs n z=>by rw [jqb (hN a n)];exact z
 obtain ⟨n,f,c⟩:=O.fw
 obtain ⟨us',y1,y2⟩:=O.yl
 rw [hy] at y1
 cases y1
 refine ⟨by rw [jqb O.nOY];exact O.ob,⟨n,⟨by rw [jqb (jxk f.ob hy (by intro z;cases z))];exact f.ob,by rw [jqb (jxk f.dk hy (by intro z;cases z))];exact f.dk⟩,c⟩,by rw [jqb (jxk O.sd hy (by intro z;cases z))];exact O.sd,O.st,O.s1.mono (fun _ z=>z) ht hL2,O.s2.mono (fun _ z=>z) ht hL2,O.s3.mono (fun _ z=>z) ht hL2,_,jq1,?_⟩
 exact (y2.mono fun _ _=>RdAt.mono (fun _ z=>z) ht hL2).append (.one ⟨l,rus,rfl,nl,hL2 _ _ nl hl,dr.mono fun _ _=>RwAt.mono ht⟩)
theorem OpAt.dct (O:OpAt C D A b1 b2 b3 F N k ws rd H) {d:Addr} {kvs:List (Key×V)} {o:HO} (h:H d=some (.dK kvs)) (nt:d≠A.tk) (ns:d≠A.sd):OpAt C D A b1 b2 b3 F N k ws rd (upd H d o):=by
 obtain ⟨n,f,c⟩:=O.fw
 obtain ⟨us,y1,y2⟩:=O.yl
 have ht:TupLe H (upd H d o):=jip h
 have hL:∀ a xs,N a→H a=some (.lst xs)→(upd H d o) a=some (.lst xs):=fun a xs n z=>by rw [jqb (jxk z h (by intro z;cases z))];exact z
 exact ⟨by rw [jqb (jxk O.ob h (by intro z;cases z))];exact O.ob,⟨n,⟨by rw [jqb (jxk f.ob h (by intro z;cases z))];exact f.ob,by rw [jqb nt.symm];exact f.dk⟩,c⟩,by rw [jqb ns.symm];exact O.sd,O.st,O.s1.mono (fun _ z=>z) ht hL,O.s2.mono (fun _ z=>z) ht hL,O.s3.mono (fun _ z=>z) ht hL,us,by rw [jqb (jxk y1 h (by intro z;cases z))];exact y1,y2.mono fun _ _=>RdAt.mono (fun _ z=>z) ht hL⟩
theorem OpAt.rdl (O:OpAt C D A b1 b2 b3 F N k ws rd H):∃ us,H A.yl=some (.lst us)∧us.length=rd.length:=by
 obtain ⟨us,y1,y2⟩:=O.yl
 exact ⟨us,y1,y2.length⟩
theorem OpAt.kp3 {tk:Addr→Prop} (O:OpAt C D A b1 b2 b3 F N k ws rd H) (ht:∀ d,tk d→d≠A.tk) (e:Ex [A.lp,A.tk,A.yl] H H'):Kp tk H H':=by
 obtain ⟨n,f,_⟩:=O.fw
 obtain ⟨us,y1,y2⟩:=O.yl
 have kp:Kp (Nk A.tk) H H':=O.kp e (fun a ha=>by
  simp only [List.mem_cons,List.not_mem_nil,or_false] at ha
  rcases ha with rfl|rfl|rfl
  ·exact .inr (.inr ⟨_,_,_,f.ob⟩)
  ·exact .inl rfl
  ·exact .inr (.inl ⟨_,y1⟩))
 exact ⟨kp.tup,fun d kvs n z=>kp.dct d kvs (ht d n) z⟩
end
def spMo (C D:Addr):Sp:=fun vs H Q _=>∃ (A:Ad) (b1 b2 b3:T) (F k:Nat) (N:Addr→Prop) (ws:List Str) (rd:List (List Rw)) (s:Spot) (u:V) (P:Nat→Nat→Prop) (tk:Addr→Prop),
 vs=[.ref A.op,u]∧OpAt C D A b1 b2 b3 F N k ws rd H∧NOk A N H∧(∀ d,tk d→d≠A.tk)∧SpAt tk H s u∧s.ok P∧s.wt 0≤4000000∧ws.length≤4000000∧rd.length≤4000000∧
 ∀ (m:Mg) (v:V) (rd':List (List Rw)) (ws':List Str) (H':Hp),Mean (decide (k≤F)) rd ws s m rd' ws'→OpAt C D A b1 b2 b3 F N k ws' rd' H'→MgAt tk H' m v→Ex [A.lp,A.tk,A.yl] H H'→Q v H'
def jod (K:PySem.W.Frag) (a_Opening a_FreshWords:Addr):TS:=(tRet (tTup (jq3 (tC (.str "handed")) (jq3 (tVar 1) tNil))))
def joc (K:PySem.W.Frag) (a_Opening a_FreshWords:Addr):TS:=(tIfS (tB (jx7 jeb [] E0 (jq3 (tVar 1) tNil))) (jod K a_Opening a_FreshWords) jxt)
def t_mo (K:PySem.W.Frag) (a_Opening a_FreshWords:Addr):TS:=(tSeq (joc K a_Opening a_FreshWords) (tSeq (jxn (tBM K "list" jxa (tFld K (tVar 0) "ready") (jq3 (jkz a_Opening "rows_of" (jvb a_Opening a_FreshWords) [] E0 (tVar 0) (jq3 (tVar 1) tNil)) tNil))) (tRet (tTup (jq3 (tC (.str "ready")) (jq3 (tOp jwo (tCB (cLen K) (jq3 (tFld K (tVar 0) "ready") tNil)) (tC (.int 1))) tNil))))))
theorem rd_mo (ro:RO K C) (h:spMo C D vs H Q E):t_mo K C D (fin Q) (start ["self","handed"] vs) H:=by
 obtain ⟨A,b1,b2,b3,F,k,N,ws,rd,s,u,P,tk,rfl,O,no,ht,sp,ok,z1,z2,z3,kk⟩:=h
 refine ⟨_,rfl,tk,s,u,rfl,sp,ok.1.2.2.2.1,ok.1.2.2.2.2,fun H1 s1 op=>⟨_,rfl,iteY rfl ?_⟩,fun H1 s1 nop=>⟨_,rfl,iteN rfl ?_⟩⟩
 ·refine ⟨_,rfl,szl,fun p hp=>?_⟩
  have s2:=jq2 (o:=.tup [.str "handed",u]) hp
  have g2:(upd H1 p (.tup [.str "handed",u])) p=some (.tup [.str "handed",u]):=jq1
  generalize upd H1 p (.tup [.str "handed",u])=H2 at s2 g2 ⊢
  have s12:=s1.trans s2
  obtain ⟨q,x,pp,d,kvs,rfl,hq,hx,hpp,nd,hd,he⟩:=sp.mono (Kp.same s12)
  exact kk _ _ _ _ _ (.handed op) (O.same s12) ⟨p,q,x,pp,d,kvs,rfl,g2,hq,hx,hpp,nd,hd,he⟩ (Ex.same s12)
 ·have O1:=O.same s1
  have no1:NOk A N H1:=⟨no.y,fun a z=>no.f a (s1.free z)⟩
  obtain ⟨us,y1,yl1⟩:=O1.rdl
  have fin2:∀ (R:List Rw) (ws':List Str) (l:Addr) (rus:List V) (H2:Hp),Mean (decide (k≤F)) rd ws s (.ready rd.length (s.wt 0)) (rd++[R]) ws'→H1 l=none→H2 l=some (.lst rus)→Al (RwAt H2) R rus→OpAt C D A b1 b2 b3 F N k ws' rd H2→Ex [A.lp,A.tk] H1 H2→
    jxa (.ref A.yl) [.ref l] H2 fun _ H3=>(tRet (tTup (jq3 (tC (.str "ready")) (jq3 (tOp jwo (tCB (cLen K) (jq3 (tFld K (tVar 0) "ready") tNil)) (tC (.int 1))) tNil)))) (fin Q) [some (.ref A.op),some u] H3:=by
   intro R ws' l rus H2 mean nl hl dr O2 ex2
   obtain ⟨us2,y2,yl2⟩:=O2.rdl
   refine ⟨A.yl,us2,.ref l,rfl,rfl,y2,by rw [sizeLine_eq];omega,?_⟩
   have O3:=O2.add no.y y2 (no1.f l nl) hl dr
   have y3:(upd H2 A.yl (.lst (us2++[.ref l]))) A.yl=some (.lst (us2++[.ref l])):=jq1
   have ex3:Ex [A.lp,A.tk,A.yl] H2 (upd H2 A.yl (.lst (us2++[.ref l]))):=Ex.upd (by simp)
   generalize upd H2 A.yl (.lst (us2++[.ref l]))=H3 at O3 y3 ex3 ⊢
   refine ⟨_,rfl,A.op,C,A.dx,_,_,rfl,O3.ob,ro.cl,ro.nR,jws,A.yl,_,rfl,.inl (SqL.of y3),_,_,rfl,rfl,szl,fun p hp=>?_⟩
   have e:(((us2++[V.ref l]).length:Int) - 1)=((rd.length:Nat):Int):=by rw [List.length_append];simp;omega
   have s4:=jq2 (o:=.tup [.str "ready",.int (((us2++[V.ref l]).length:Int) - 1)]) hp
   refine kk _ _ _ _ _ mean (O3.same s4) ⟨p,rfl,?_⟩ ((Ex.same s1).trans ((ex2.more (by simp)).trans (ex3.trans (Ex.same s4))))
   rw [jq1]
   dsimp only
   rw [e]
  refine ⟨_,rfl,A.op,C,A.dx,_,_,rfl,O1.ob,ro.cl,ro.nR,jws,.inl ⟨rfl,_,SqL.of y1⟩,_,rfl,A.op,A.dx,_,rfl,O1.ob,jwt,_,rfl,A,b1,b2,b3,F,k,N,ws,rd,s,u,P,rfl,O1,no1,(sp.mono (Kp.same s1)).old (fun d o _ z=>ht d z),ok,nop,z1,z2,fun hk R ws' l rus H2 run nl hl dr O2 ex2=>?_,fun hk l H2 s2 nl hl=>?_⟩
  ·exact fin2 R ws' l rus H2 (by rw [decide_eq_true hk];exact .ready nop run) nl hl dr O2 ex2
  ·exact fin2 [] ws l [] H2 (by rw [decide_eq_false hk];exact .late nop) nl hl .nil (O1.same s2) (Ex.same s2)
theorem jms {go:Bool} {rd rd':List (List Rw)} {ws ws':List Str} {s:Spot} {m:Mg} {P:Nat→Nat→Prop} (h:Mean go rd ws s m rd' ws') (o:s.ok P):ws'.length≤ws.length+s.wt 0∧rd'.length≤rd.length+1:=by
 cases h with
 | handed p=>exact ⟨by omega,by omega⟩
 | @ready _ _ _ _ R p r=>
  have hw:wtR R=s.wt 0:=by rw [jem r,jxx,jj4];omega
  have h2:=ji3 r
  have h3:=jk5 (jen r (P:=P) (fun x hx=>by rw [List.mem_singleton] at hx;exact hx▸o) (fun x hx=>by cases hx))
  simp only [List.length_nil] at h2
  exact ⟨by omega,by simp⟩
 | late p=>exact ⟨by omega,by simp⟩
inductive Msq (go:Bool) (rd:List (List Rw)) (ws:List Str) (s:Spot) (ps:List Str):Nat→En→List (List Rw)→List Str→Prop where
 | nil:Msq go rd ws s ps 0 .nil rd ws
 | snoc {i:Nat} {e:En} {rd1 rd2:List (List Rw)} {ws1 ws2:List Str} {p:Str} {t:T} {m:Mg}:Msq go rd ws s ps i e rd1 ws1→ps[i]?=some p→s.t.kids[i]?=some t→Mean go rd1 ws1 (s.kid i t) m rd2 ws2→Msq go rd ws s ps (i+1) (e.put p m) rd2 ws2
theorem Msq.len {go:Bool} {rd rd':List (List Rw)} {ws ws':List Str} {s:Spot} {ps:List Str} {P:Nat→Nat→Prop} {i:Nat} {e:En} (h:Msq go rd ws s ps i e rd' ws') (o:s.ok P) (w:∀ (i:Nat) (t:T),s.t.kids[i]?=some t→(s.kid i t).wt 0≤s.wt 0):ws'.length≤ws.length+i * s.wt 0∧rd'.length≤rd.length+i∧e.nd∧e.len≤i:=by
 induction h with
 | nil=>exact ⟨by omega,Nat.le_refl _,True.intro,Nat.le_refl _⟩
 | @snoc i e _ _ _ _ p t m _ _ ht mean ih=>
  have h1:=jms mean (jk4 o (List.mem_of_getElem? ht))
  have h2:=w i t ht
  have h3:=En.put_len p m e
  refine ⟨?_,by omega,jic ih.2.2.1,by omega⟩
  rw [Nat.add_mul];omega
theorem jh8 {a b:Addr} {xs ys:List V} {g:TG} {tb:TS} {D:Ends} {σ:St} {H:Hp} (Pv:Nat→St→Hp→Prop) (h0:Pv 0 σ H) (hlen:xs.length=ys.length) (hl:∀ i σ H,i≤xs.length→Pv i σ H→SqL K H a xs∧SqL K H b ys)
  (hs:∀ i x y p σ H,xs[i]?=some x→ys[i]?=some y→Pv i σ H→H p=none→g (.ref p) σ (upd H p (.tup [x,y])) fun σ2 H2=>tb { D with nx:=Pv (i+1),ct:=Pv (i+1),bk:=D.nx} σ2 H2) (hd:∀ σ H,Pv xs.length σ H→D.nx σ H) :
  ∃ W:Nat→Nat→St→Hp→Prop,(∃ m,W 0 m σ H)∧∀ i m σ H,W i m σ H→
   ((ItzL K a b).stop i H∧D.nx σ H)∨((ItzL K a b).go i H∧∃ N:St→Hp→Prop,(∀ σ' H',N σ' H'→∃ m',m' < m∧W (i+1) m' σ' H')∧∀ x H',(ItzL K a b).yld i H x H'→g x σ H' fun σ2 H2=>tb { D with nx:=N,ct:=N,bk:=D.nx} σ2 H2):=by
 refine ⟨fun i m σ H=>m=xs.length - i∧i≤xs.length∧Pv i σ H,⟨_,rfl,Nat.zero_le _,h0⟩,?_⟩
 rintro i m σ H ⟨rfl,hi,pv⟩
 obtain ⟨q1,q2⟩:=hl _ _ _ hi pv
 by_cases e:i=xs.length
 ·subst e
  exact .inl ⟨⟨xs,ys,q1,q2,Nat.le_refl _⟩,hd _ _ pv⟩
 ·have hlt:i < xs.length:=by omega
  refine .inr ⟨⟨xs,ys,xs[i],ys[i]'(by omega),q1,q2,List.getElem?_eq_getElem _,List.getElem?_eq_getElem _⟩,Pv (i+1),fun σ' H' h=>⟨xs.length - (i+1),by omega,rfl,hlt,h⟩,?_⟩
  rintro z H' ⟨p,x,y,rfl,hp,rfl,hx,hy⟩
  exact hs i x y p σ H (hx xs q1) (hy ys q2) pv hp
def spBo (C D:Addr):Sp:=fun vs H Q _=>∃ (A:Ad) (b1 b2 b3:T) (F k:Nat) (N:Addr→Prop) (ws:List Str) (rd:List (List Rw)) (s:Spot) (u:V) (P:Nat→Nat→Prop),
 vs=[.ref A.op,u]∧OpAt C D A b1 b2 b3 F N k ws rd H∧NOk A N H∧SpAt (Nk A.tk) H s u∧s.ok P∧kind s.t="stamp"∧s.wt 0≤1000000∧ws.length≤1000000∧rd.length≤1000000∧
 ∀ (s':Spot) (v:V) (rd':List (List Rw)) (ws':List Str) (H':Hp),Open b1 b2 b3 (decide (k≤F)) rd ws s s' rd' ws'→OpAt C D A b1 b2 b3 F N k ws' rd' H'→SpAt (Nk A.tk) H' s' v→Ex [A.lp,A.tk,A.yl] H H'→Q v H'
def ji0 (K:PySem.W.Frag) (a_Opening a_FreshWords:Addr):TS:=(jb6 (tVar 3) (tVar 4) (jkz a_Opening "meaning_of" (spMo a_Opening a_FreshWords) [] E0 (tVar 0) (jq3 (tVar 5) tNil)))
def jpf (K:PySem.W.Frag) (a_Opening a_FreshWords:Addr):TS:=(tSeq (tAsg jku (jqk 3)) (tSeq (tFor (jmv K (tOp (rIxT K) (tVar 2) (tC (.int 1))) (jx7 jzi [] E0 (jq3 (tVar 1) tNil))) (gTup K 2 (jkg (jqk 4) (jkg (jqk 5) gNil))) (ji0 K a_Opening a_FreshWords)) (tRet (tTup (jq3 (tOp (rIxT K) (tVar 2) (tC (.int 2))) (jq3 (tOp (rIxT K) (tVar 2) (tC (.int 0))) (jq3 (tTup tNil) (jq3 (tVar 3) tNil))))))))
def t_bo (K:PySem.W.Frag) (a_Opening a_FreshWords:Addr):TS:=(tSeq (tAsg (jgd (tFld K (tVar 0) "stamps") (tOp (rIxT K) (tOp (rIxT K) (tVar 1) (tC (.int 0))) (tC (.int 1)))) (jqk 2)) (tSeq (tAsg jku (jqk 3)) (tSeq (tFor (jmv K (tOp (rIxT K) (tVar 2) (tC (.int 1))) (jx7 jzi [] E0 (jq3 (tVar 1) tNil))) (gTup K 2 (jkg (jqk 4) (jkg (jqk 5) gNil))) (ji0 K a_Opening a_FreshWords)) (tRet (tTup (jq3 (tOp (rIxT K) (tVar 2) (tC (.int 2))) (jq3 (tOp (rIxT K) (tVar 2) (tC (.int 0))) (jq3 (tTup tNil) (jq3 (tVar 3) tNil)))))))))
theorem jeq (ro:RO K C) {A:Ad} {b1 b2 b3:T} {F k:Nat} {N:Addr→Prop} {ws:List Str} {rd:List (List Rw)} {s:Spot} {u:V} {P:Nat→Nat→Prop} {w:Str} {ps:List Str} {body:T} {v:V}
  (O:OpAt C D A b1 b2 b3 F N k ws rd H) (no:NOk A N H) (sp:SpAt (Nk A.tk) H s u) (ok:s.ok P) (hs:StN N H w ps body v) (hps:ps.length=s.t.kids.length) (hw0:∀ (i:Nat) (t:T),s.t.kids[i]?=some t→(s.kid i t).wt 0≤s.wt 0) (z1:s.wt 0≤1000000) (z2:ws.length≤1000000) (z3:rd.length≤1000000)
  (kk:∀ (e:En) (v:V) (rd':List (List Rw)) (ws':List Str) (H':Hp),Msq (decide (k≤F)) rd ws s ps ps.length e rd' ws'→OpAt C D A b1 b2 b3 F N k ws' rd' H'→SpAt (Nk A.tk) H' ⟨body,w,[],e⟩ v→Ex [A.lp,A.tk,A.yl] H H'→Q v H') :
  jpf K C D (fin Q) [some (.ref A.op),some u,some v,none,none,none] H:=by
 obtain ⟨pv,pl_,xb,rfl,hst,hpl,npl,hxb⟩:=hs
 intro nd hnd
 have s1:Same H (upd H nd (.dK [])):=jq2 hnd
 have g1:(upd H nd (.dK [])) nd=some (.dK []):=jq1
 generalize upd H nd (.dK [])=H1 at s1 g1 ⊢
 obtain ⟨n0,f0,_⟩:=O.fw
 have ndt:nd≠A.tk:=(jq9 f0.dk hnd).symm
 have nds:nd≠A.sd:=(jq9 O.sd hnd).symm
 have sp1:SpAt (fun d=>d≠A.tk∧d≠nd) H1 s u:=(sp.old (tk':=fun d=>d≠A.tk∧d≠nd) (fun d o h z=>⟨z,jq9 h hnd⟩)).mono (Kp.same s1)
 have path:s.path.length≤1000:=by have:=ok.1.2.1;omega
 have hk3:=jmt s.t
 refine ⟨_,rfl,pv,_,_,_,rfl,rfl,SqT.of (s1 _ _ hst),jqd (j:=1) rfl,_,rfl,_,s,u,rfl,sp1,path,fun il us H2 s2 n2 g2 al=>⟨pl_,il,_,_,rfl,SqL.of ((s1.trans s2) _ _ hpl),SqL.of g2,?_⟩⟩
 have s12:=s1.trans s2
 have hal:=al.length
 rw [jjw] at hal
 have O2:=O.same s12
 obtain ⟨ys,y2,_⟩:=O2.rdl
 have nil_:il≠A.yl:=by
  obtain ⟨ys0,y0,_⟩:=O.rdl
  exact (jq9 (s1 _ _ y0) n2).symm
 refine jh8 (K:=K) (a:=pl_) (b:=il) (xs:=ps.map V.str) (ys:=us) (fun i σ H'=>∃ j4 j5 e rd' ws' kvs,σ=[some (.ref A.op),some u,some (.ref pv),some (.ref nd),j4,j5]∧Msq (decide (k≤F)) rd ws s ps i e rd' ws'∧OpAt C D A b1 b2 b3 F N k ws' rd' H'∧H' nd=some (.dK kvs)∧EnAt (fun d=>d≠A.tk∧d≠nd) H' e kvs∧Ex [A.lp,A.tk,A.yl,nd] H2 H'∧Kp (fun d=>d≠A.tk∧d≠nd) H2 H')
  ⟨none,none,.nil,rd,ws,[],rfl,.nil,O2,s2 _ _ g1,rfl,.refl,.refl⟩ (by rw [List.length_map];omega) (fun i σ H' _ hP=>?_) ?_ ?_
 ·obtain ⟨_,_,e,rd',ws',kvs,_,_,O3,hn3,_,ex3,kp3⟩:=hP
  obtain ⟨n3,f3,_⟩:=O2.fw
  have lst:∀ l xs,H2 l=some (.lst xs)→l≠A.yl→H' l=some (.lst xs):=fun l xs h hy=>ex3 _ _ (fun q=>by
   simp only [List.mem_cons,List.not_mem_nil,or_false] at q
   rcases q with rfl|rfl|rfl|rfl
   ·rw [f3.ob] at h;cases h
   ·rw [f3.dk] at h;cases h
   ·exact hy rfl
   ·rw [s2 _ _ g1] at h;cases h) h
  exact ⟨SqL.of (lst _ _ (s12 _ _ hpl) (no.y _ npl)),SqL.of (lst _ _ g2 nil_)⟩
 ·rintro i x y p σ H3 hx hy ⟨j4,j5,e,rd',ws',kvs,rfl,ms,O3,hn3,en,ex3,kp3⟩ hp
  obtain ⟨pl1,hpl1,rfl⟩:∃ z,ps[i]?=some z∧x=V.str z:=by
   rw [List.getElem?_map] at hx
   cases e:ps[i]? with
   | none=>rw [e] at hx;cases hx
   | some z=>rw [e] at hx;exact ⟨z,rfl,(Option.some.inj hx).symm⟩
  have hil:i < us.length:=(List.getElem?_eq_some_iff.mp hy).1
  obtain ⟨t,ht⟩:∃ t,s.t.kids[i]?=some t:=⟨s.t.kids[i]'(by omega),List.getElem?_eq_getElem _⟩
  obtain ⟨s',hs',sp'⟩:=al.get hy
  rw [jw4 ht] at hs'
  cases hs'
  have s4:=jq2 (o:=.tup [.str pl1,y]) hp
  have g4:(upd H3 p (.tup [.str pl1,y])) p=some (.tup [.str pl1,y]):=jq1
  generalize upd H3 p (.tup [.str pl1,y])=H4 at s4 g4 ⊢
  have O4:=O3.same s4
  have no4:NOk A N H4:=by
   refine ⟨no.y,fun a z=>no.f a ?_⟩
   have z3:=s4.free z
   cases q:H a with
   | none=>rfl
   | some o=>
    exfalso
    have q2:=s12 _ _ q
    obtain ⟨n3,f3,_⟩:=O3.fw
    obtain ⟨ys3,y3,_⟩:=O3.rdl
    have:=ex3 a o (fun w=>by
     simp only [List.mem_cons,List.not_mem_nil,or_false] at w
     rcases w with rfl|rfl|rfl|rfl
     ·rw [f3.ob] at z3;cases z3
     ·rw [f3.dk] at z3;cases z3
     ·rw [y3] at z3;cases z3
     ·rw [hn3] at z3;cases z3) q2
    rw [this] at z3;cases z3
  obtain ⟨l1,l2,_,_⟩:=ms.len ok hw0
  have hl5:i * s.wt 0≤3 * s.wt 0:=Nat.mul_le_mul_right _ (by omega)
  refine ⟨p,_,rfl,SqT.of g4,rfl,_,_,rfl,_,_,rfl,rfl,?_⟩
  refine ⟨_,rfl,A.op,A.dx,_,rfl,O4.ob,jwt,_,rfl,A,b1,b2,b3,F,k,N,ws',rd',s.kid i t,y,P,(fun d=>d≠A.tk∧d≠nd),rfl,O4,no4,fun d z=>z.1,sp'.mono (kp3.trans (Kp.same s4)),jk4 ok (List.mem_of_getElem? ht),?_,?_,?_,fun m v rd2 ws2 H5 mean O5 mg ex5=>?_⟩
  ·have:=hw0 i t ht;omega
  ·omega
  ·omega
  have kp5:Kp (fun d=>d≠A.tk∧d≠nd) H4 H5:=O4.kp3 (fun d z=>z.1) ex5
  have hn5:H5 nd=some (.dK kvs):=by
   refine ex5 _ _ (fun w=>?_) (s4 _ _ hn3)
   obtain ⟨n4,f4,_⟩:=O4.fw
   obtain ⟨ys4,y4,_⟩:=O4.rdl
   have hn4:=s4 _ _ hn3
   simp only [List.mem_cons,List.not_mem_nil,or_false] at w
   rcases w with w|w|w
   ·rw [w,f4.ob] at hn4;cases hn4
   ·exact ndt w
   ·rw [w,y4] at hn4;cases hn4
  have ekl:=jfo en
  obtain ⟨_,_,nd3,el3⟩:=ms.len ok hw0
  refine ⟨_,rfl,_,rfl,nd,_,rfl,DPut.k (k:=.inr pl1) hn5 (jjp (by omega)),?_⟩
  have kp6:Kp (fun d=>d≠A.tk∧d≠nd) H5 (upd H5 nd (.dK (putK kvs (.inr pl1) v))):=⟨jip hn5,fun d kvs z h=>by rw [jqb z.2];exact h⟩
  have kp35:=(Kp.same s4).trans kp5
  refine ⟨_,_,e.put pl1 m,rd2,ws2,_,rfl,.snoc ms hpl1 ht mean,O5.dct hn5 ndt nds,jq1,?_,?_,?_⟩
  ·exact jfn (mg.mono kp6) nd3 ((en.mono kp35).mono kp6)
  ·exact ex3.trans ((Ex.same s4).trans ((ex5.more (by simp)).trans (Ex.upd (by simp))))
  ·exact kp3.trans (kp35.trans kp6)
 ·rintro σ H3 ⟨j4,j5,e,rd',ws',kvs,rfl,ms,O3,hn3,en,ex3,kp3⟩
  rw [List.length_map] at ms
  have hst3:=kp3.tup _ _ (s12 _ _ hst)
  refine ⟨_,rfl,pv,_,_,_,rfl,rfl,SqT.of hst3,jqd (j:=2) rfl,_,rfl,pv,_,_,_,rfl,rfl,SqT.of hst3,jqd (j:=0) rfl,szl,fun te hte=>⟨_,rfl,szl,fun r hr=>?_⟩⟩
  have s4:=jq2 (o:=.tup []) hte
  have g4:(upd H3 te (.tup [])) te=some (.tup []):=jq1
  generalize upd H3 te (.tup [])=H4 at s4 g4 hr ⊢
  have s5:=jq2 (o:=.tup [xb,.str w,.ref te,.ref nd]) hr
  have s45:=s4.trans s5
  refine kk e _ rd' ws' _ ms (O3.same s45) ⟨r,xb,te,nd,kvs,rfl,jq1,(hxb.mono (jqa s12)).mono (kp3.tup.trans (jqa s45)),s5 _ _ g4,ndt,s45 _ _ hn3,((en.mono (Kp.same s45)).old fun d o _ z=>z.1)⟩ ?_
  exact Ex.new (l':=[A.lp,A.tk,A.yl,nd]) (fun a ha=>by
   simp only [List.mem_cons,List.not_mem_nil,or_false] at ha ⊢
   rcases ha with z|z|z|rfl
   ·exact .inl (.inl z)
   ·exact .inl (.inr (.inl z))
   ·exact .inl (.inr (.inr z))
   ·exact .inr hnd) ((Ex.same s12).trans (ex3.trans (Ex.same s45)))
end S9
namespace S9
open PySem L2 SW
variable {K:PySem.W.Frag} {vs:List V} {H:Hp} {Q:VK} {E:XK} {C D:Addr}
theorem fit0 {w:Str} (h:SF w 0):w="star":=by
 unfold SF fitN at h
 split at h
 ·assumption
 ·split at h
  ·cases h
  ·split at h<;>cases h
theorem fit1 {w:Str} (h:SF w 1):w="sta":=by
 unfold SF fitN at h
 split at h
 ·cases h
 ·split at h
  ·assumption
  ·split at h<;>cases h
theorem fit2 {w:Str} (h:SF w 2):w="st":=by
 unfold SF fitN at h
 split at h
 ·cases h
 ·split at h
  ·cases h
  ·split at h
   ·assumption
   ·cases h
theorem rd_bo (ro:RO K C) (h:spBo C D vs H Q E):t_bo K C D (fin Q) (start ["self","spot","stamp","names","place","handed"] vs) H:=by
 obtain ⟨A,b1,b2,b3,F,k,N,ws,rd,s,u,P,rfl,O,no,sp,ok,hk,z1,z2,z3,kk⟩:=h
 obtain ⟨q,x,pp,d,kvs,rfl,hq,hx,_⟩:=id sp
 have wt:WT SF s.t:=ok.1.1
 cases e:s.t with
 | num n=>rw [e] at hk;exact absurd hk (by simp only [kind];decide+kernel)
 | name n=>rw [e] at hk;exact absurd hk (by simp only [kind];decide+kernel)
 | sum a b=>rw [e] at hk;exact absurd hk (by simp only [kind];decide+kernel)
 | less a b=>rw [e] at hk;exact absurd hk (by simp only [kind];decide+kernel)
 | cho a b c=>rw [e] at hk;exact absurd hk (by simp only [kind];decide+kernel)
 | lt w a b=>rw [e] at hk;exact absurd hk (by simp only [kind];decide+kernel)
 | st0 w=>
  rw [e] at hx wt
  obtain ⟨p,rfl,hp⟩:=hx
  cases fit0 wt
  have dg:=DGet.k (k:=.inr "star") O.sd
  rw [val3,if_pos rfl] at dg
  refine ⟨_,rfl,A.op,C,A.dx,_,_,rfl,O.ob,ro.cl,ro.nS,jvm,_,rfl,q,_,_,_,rfl,rfl,SqT.of hq,jqd (j:=0) rfl,p,_,_,_,rfl,rfl,SqT.of hp,jqd (j:=1) rfl,A.sd,A.v1,rfl,dg,?_⟩
  refine jeq ro O no sp ok O.s1 (by rw [e];rfl) (fun i t ht=>by rw [e] at ht;simp [T.kids] at ht) z1 z2 z3 fun e' v rd' ws' H' ms O' sp' ex=>kk _ v rd' ws' H' ?_ O' sp' ex
  cases ms
  exact .star e
 | st1 w a=>
  rw [e] at hx wt
  obtain ⟨p,xa,rfl,hp,_⟩:=hx
  cases fit1 wt.1
  have dg:=DGet.k (k:=.inr "sta") O.sd
  rw [val3,if_neg ne1.symm,if_pos rfl] at dg
  have ew:s.wt 0=1+(s.kid 0 a).wt 0:=by unfold Spot.wt;rw [e];rfl
  refine ⟨_,rfl,A.op,C,A.dx,_,_,rfl,O.ob,ro.cl,ro.nS,jvm,_,rfl,q,_,_,_,rfl,rfl,SqT.of hq,jqd (j:=0) rfl,p,_,_,_,rfl,rfl,SqT.of hp,jqd (j:=1) rfl,A.sd,A.v2,rfl,dg,?_⟩
  refine jeq ro O no sp ok O.s2 (by rw [e];rfl) (fun i t ht=>?_) z1 z2 z3 fun e' v rd' ws' H' ms O' sp' ex=>kk _ v rd' ws' H' ?_ O' sp' ex
  ·rw [e] at ht
   match i,ht with
   | 0,ht=>cases ht;omega
   | n+1,ht=>simp [T.kids] at ht
  ·cases ms with
   | snoc ms hp1 ht mean=>
   cases ms with
   | nil=>
   rw [e] at ht
   cases hp1
   cases ht
   exact .sta e mean
 | st2 w a b=>
  rw [e] at hx wt
  obtain ⟨p,xa,xb,rfl,hp,_⟩:=hx
  cases fit2 wt.1
  have dg:=DGet.k (k:=.inr "st") O.sd
  rw [val3,if_neg ne2.symm,if_neg ne3.symm,if_pos rfl] at dg
  have ew:s.wt 0=1+(s.kid 0 a).wt 0+(s.kid 1 b).wt 0:=by unfold Spot.wt;rw [e];rfl
  refine ⟨_,rfl,A.op,C,A.dx,_,_,rfl,O.ob,ro.cl,ro.nS,jvm,_,rfl,q,_,_,_,rfl,rfl,SqT.of hq,jqd (j:=0) rfl,p,_,_,_,rfl,rfl,SqT.of hp,jqd (j:=1) rfl,A.sd,A.v3,rfl,dg,?_⟩
  refine jeq ro O no sp ok O.s3 (by rw [e];rfl) (fun i t ht=>?_) z1 z2 z3 fun e' v rd' ws' H' ms O' sp' ex=>kk _ v rd' ws' H' ?_ O' sp' ex
  ·rw [e] at ht
   match i,ht with
   | 0,ht=>cases ht;omega
   | 1,ht=>cases ht;omega
   | n+2,ht=>simp [T.kids] at ht
  ·cases ms with
   | snoc ms hp2 ht2 mean2=>
   cases ms with
   | snoc ms hp1 ht1 mean1=>
   cases ms with
   | nil=>
   rw [e] at ht1 ht2
   cases hp1
   cases ht1
   cases hp2
   cases ht2
   rename_i m1 m2
   have ep:∀ m n:Mg,En.put (En.put .nil "sab" m) "tab" n=.cons "sab" m (.cons "tab" n .nil):=fun m n=>by
    simp only [En.put,if_neg (show ¬ ("sab":Str)="tab" by decide+kernel)]
   rw [ep]
   exact .st e mean1 mean2
theorem OpAt.many {A:Ad} {b1 b2 b3:T} {F k j:Nat} {N:Addr→Prop} {ws:List Str} {rd:List (List Rw)} (O:OpAt C D A b1 b2 b3 F N k ws rd H):OpAt C D A b1 b2 b3 F N j ws rd (upd H A.op (.ins C A.dx (ofs A.sd A.lp F j A.yl))):=by
 obtain ⟨n,f,c⟩:=O.fw
 obtain ⟨us,y1,y2⟩:=O.yl
 have ht:TupLe H (upd H A.op (.ins C A.dx (ofs A.sd A.lp F j A.yl))):=fun b xs e=>by rw [jqb (jxk e O.ob (by intro z;cases z))];exact e
 have hL:∀ a xs,N a→H a=some (.lst xs)→(upd H A.op (.ins C A.dx (ofs A.sd A.lp F j A.yl))) a=some (.lst xs):=fun a xs n z=>by rw [jqb (jxk z O.ob (by intro z;cases z))];exact z
 exact ⟨jq1,⟨n,⟨by rw [jqb O.nOL.symm];exact f.ob,by rw [jqb O.nOT.symm];exact f.dk⟩,c⟩,by rw [jqb (jxk O.sd O.ob (by intro z;cases z))];exact O.sd,O.st,O.s1.mono (fun _ z=>z) ht hL,O.s2.mono (fun _ z=>z) ht hL,O.s3.mono (fun _ z=>z) ht hL,us,by rw [jqb O.nOY.symm];exact y1,y2.mono fun _ _=>RdAt.mono (fun _ z=>z) ht hL⟩
def je9 (C D:Addr):Sp:=fun vs H Q _=>∃ (A:Ad) (b1 b2 b3:T) (F k:Nat) (N:Addr→Prop) (ws:List Str) (rd:List (List Rw)) (wl rl:Addr) (wus rus:List V) (s:Spot) (u:V) (P:Nat→Nat→Prop),
 vs=[.ref A.op,u,.ref wl,.ref rl]∧Pre C D A b1 b2 b3 F N k ws rd wl rl wus rus s u P H∧NOk A N H∧s.wt 0≤1000000∧ws.length≤1000000∧rd.length≤1000000∧
 (∀ (P:List Spot) (rs:List Rw) (ws':List Str) (H':Hp),Tk ws s P rs ws'→OpAt C D A b1 b2 b3 F N k ws' rd H'→Aft (Nk A.tk) wl rl wus rus P rs H'→Ex [wl,rl,A.lp,A.tk] H H'→Q .non H')∧
 (∀ (s':Spot) (rd':List (List Rw)) (ws':List Str) (H':Hp),Open b1 b2 b3 (decide (k+1≤F)) rd ws s s' rd' ws'→OpAt C D A b1 b2 b3 F N (k+1) ws' rd' H'→Aft (Nk A.tk) wl rl wus rus [s'] [] H'→Ex [wl,A.op,A.lp,A.tk,A.yl] H H'→Q .non H')
def jnv (K:PySem.W.Frag) (a_Opening a_FreshWords:Addr):TS:=(tSeq (jwn K (tVar 0) (tC (.int 1)) rAdd "many") (jxn (tBM K "list" jxa (tVar 2) (jq3 (jkz a_Opening "body_of" (spBo a_Opening a_FreshWords) [] E0 (tVar 0) (jq3 (tVar 1) tNil)) tNil))))
def jnu (K:PySem.W.Frag) (a_Opening a_FreshWords:Addr):TS:=(tIfS (jx0 (tOp rEq (tVar 4) (tC (.str "stamp")))) (jnv K a_Opening a_FreshWords) (jbv K a_Opening a_FreshWords))
def t_tj (K:PySem.W.Frag) (a_Opening a_FreshWords:Addr):TS:=(tSeq (tAsg (tOp (rIxT K) (tOp (rIxT K) (tVar 1) (tC (.int 0))) (tC (.int 0))) (jqk 4)) (jnu K a_Opening a_FreshWords))
theorem rd_tk2 (ro:RO K C) (h:je9 C D vs H Q E):t_tj K C D (fin Q) (start ["self","spot","waiting","rows","kind"] vs) H:=by
 obtain ⟨A,b1,b2,b3,F,k,N,ws,rd,wl,rl,wus,rus,s,u,P,rfl,B,no,z1,z2,z3,k1,k2⟩:=h
 obtain ⟨q,x,pp,d,kvs,rfl,hq,hx,hpp,nd,hd,he⟩:=id B.sp
 obtain ⟨p,ks,rfl,hp,dk⟩:=hx.open
 refine ⟨_,rfl,q,_,_,_,rfl,rfl,SqT.of hq,jqd (j:=0) rfl,p,_,_,_,rfl,rfl,SqT.of hp,jrt s.t ks,?_⟩
 by_cases hk:kind s.t="stamp"
 ·refine ⟨_,rfl,rfl,_,rfl,iteY (by rw [hk];decide+kernel) ?_⟩
  refine ⟨_,rfl,A.op,C,A.dx,_,_,rfl,B.O.ob,ro.cl,ro.nM,jkn,_,_,rfl,rfl,A.dx,_,B.O.ob,jrf,?_⟩
  rw [jre (j:=k+1) (by omega)]
  have O1:=B.O.many (j:=k+1)
  have kp1:Kp (Nk A.tk) H (upd H A.op (.ins C A.dx (ofs A.sd A.lp F (k+1) A.yl))):=Kp.ins B.O.ob
  have ex1:Ex [wl,A.op,A.lp,A.tk,A.yl] H (upd H A.op (.ins C A.dx (ofs A.sd A.lp F (k+1) A.yl))):=Ex.upd (by simp)
  have w1:(upd H A.op (.ins C A.dx (ofs A.sd A.lp F (k+1) A.yl))) wl=some (.lst wus):=by rw [jqb (jxk B.w B.O.ob (by intro z;cases z))];exact B.w
  have r1:(upd H A.op (.ins C A.dx (ofs A.sd A.lp F (k+1) A.yl))) rl=some (.lst rus):=by rw [jqb (jxk B.r B.O.ob (by intro z;cases z))];exact B.r
  have no1:NOk A N (upd H A.op (.ins C A.dx (ofs A.sd A.lp F (k+1) A.yl))):=⟨no.y,fun a z=>no.f a (by
   by_cases e:a=A.op
   ·subst e;rw [jq1] at z;cases z
   ·rw [jqb e] at z;exact z)⟩
  generalize upd H A.op (.ins C A.dx (ofs A.sd A.lp F (k+1) A.yl))=H1 at O1 kp1 ex1 w1 r1 no1 ⊢
  refine ⟨_,rfl,.inl ⟨rfl,_,SqL.of w1⟩,_,rfl,A.op,A.dx,_,rfl,O1.ob,jwt,_,rfl,A,b1,b2,b3,F,k+1,N,ws,rd,s,_,P,rfl,O1,no1,B.sp.mono kp1,B.ok,hk,z1,z2,z3,fun s' v rd' ws' H2 opn O2 sp2 ex2=>?_⟩
  have lst:∀ l xs,H1 l=some (.lst xs)→l≠A.yl→H2 l=some (.lst xs):=fun l xs h hy=>ex2 _ _ (fun q=>by
   obtain ⟨n3,f3,_⟩:=O1.fw
   simp only [List.mem_cons,List.not_mem_nil,or_false] at q
   rcases q with rfl|rfl|rfl
   ·rw [f3.ob] at h;cases h
   ·rw [f3.dk] at h;cases h
   ·exact hy rfl) h
  have w2:=lst _ _ w1 B.ny
  have r2:=lst _ _ r1 B.nz
  have hz:=B.z1
  refine ⟨wl,_,_,rfl,rfl,w2,by rw [sizeLine_eq];omega,?_⟩
  refine k2 s' rd' ws' _ opn (O2.lst w2 B.ny B.nw) ⟨⟨[v],jq1,.one (sp2.mono (Kp.lst w2))⟩,[],by rw [jqb B.ne.symm,List.append_nil];exact r2,.nil⟩ (ex1.trans ((ex2.more (by simp)).trans (Ex.upd (by simp))))
 ·exact ⟨_,rfl,rfl,_,rfl,iteN (nk hk) (ji5 B hk k1)⟩
def jva (C D:Addr):Sp:=fun vs H Q _=>∃ (A:Ad) (b1 b2 b3:T) (F:Nat) (N:Addr→Prop) (ws:List Str) (t:T) (u:V),
 vs=[.ref A.op,u]∧OpAt C D A b1 b2 b3 F N 0 ws [] H∧NOk A N H∧SpAt (Nk A.tk) H ⟨t,"",[],.nil⟩ u∧BkOk b1 b2 b3∧BT t [] 0∧(∀ st,Rch b1 b2 b3 F (st0 t ws) st→st.k≤F→Small st)∧F≤400000∧
 ∀ (st:Sta) (l:Addr) (rus:List V) (H':Hp),Rch b1 b2 b3 F (st0 t ws) st→(st.k≤F→st.S=[])→H l=none→H' l=some (.lst rus)→Al (RwAt H') st.R rus→OpAt C D A b1 b2 b3 F N st.k st.ws st.rd H'→Ex [A.op,A.lp,A.tk,A.yl] H H'→Q (.ref l) H'
def jgb (K:PySem.W.Frag) (a_Opening a_FreshWords:Addr):TS:=(jxn (jkz a_Opening "take" (je9 a_Opening a_FreshWords) [] E0 (tVar 0) (jq3 (tBM0 K "list" rPop (tVar 3)) (jq3 (tVar 3) (jq3 (tVar 2) tNil)))))
def t_rowt (K:PySem.W.Frag) (a_Opening a_FreshWords:Addr):TS:=(tSeq (tAsg (tLst tNil) (jqk 2)) (tSeq (tAsg (tLst (jq3 (tVar 1) tNil)) (jqk 3)) (tSeq (jji (tAnd (jx0 (tOp rGtI (tCB (cLen K) (jq3 (tVar 3) tNil)) (tC (.int 0)))) (jx0 (tOp rLeI (tFld K (tVar 0) "many") (tFld K (tVar 0) "fuel")))) (jgb K a_Opening a_FreshWords)) (tRet (tVar 2)))))
structure R2St (C D:Addr) (A:Ad) (b1 b2 b3:T) (F:Nat) (N:Addr→Prop) (wl rl:Addr) (t:T) (ws:List Str) (H2:Hp) (st:Sta) (wus rus:List V) (H':Hp):Prop where
 rch:Rch b1 b2 b3 F (st0 t ws) st
 O:OpAt C D A b1 b2 b3 F N st.k st.ws st.rd H'
 no:NOk A N H'
 w:H' wl=some (.lst wus)
 r:H' rl=some (.lst rus)
 dw:Al (SpAt (Nk A.tk) H') st.S wus
 dr:Al (RwAt H') st.R rus
 ex:Ex [wl,rl,A.op,A.lp,A.tk,A.yl] H2 H'
theorem rd_rows2 (ro:RO K C) (h:jva C D vs H Q E):t_rowt K C D (fin Q) (start ["self","spot","rows","waiting"] vs) H:=by
 obtain ⟨A,b1,b2,b3,F,N,ws,t,u,rfl,O,no,sp,bk,bt,sm,hF,kk⟩:=h
 refine ⟨szl,fun rl hrl=>⟨_,rfl,szl,fun wl hwl=>?_⟩⟩
 have s1:Same H (upd H rl (.lst [])):=jq2 hrl
 have s2:=jq2 (o:=.lst [u]) hwl
 have hne:wl≠rl:=(jq9 (jq1 (H:=H) (a:=rl) (o:=.lst [])) hwl).symm
 have r2:(upd (upd H rl (.lst [])) wl (.lst [u])) rl=some (.lst []):=s2 _ _ jq1
 have w2:(upd (upd H rl (.lst [])) wl (.lst [u])) wl=some (.lst [u]):=jq1
 have hwl0:H wl=none:=s1.free hwl
 have s12:=s1.trans s2
 generalize upd (upd H rl (.lst [])) wl (.lst [u])=H2 at s2 r2 w2 s12 ⊢
 clear s1 s2 hwl
 obtain ⟨ys,hy,_⟩:=O.rdl
 have O2:OpAt C D A b1 b2 b3 F (fun a=>N a∧a≠wl∧a≠rl) 0 ws [] H2:=(O.weak (N':=fun a=>N a∧a≠wl∧a≠rl) fun a o h n=>⟨n,jq9 h hwl0,jq9 h hrl⟩).same s12
 have no2:NOk A (fun a=>N a∧a≠wl∧a≠rl) H2:=⟨fun a z=>no.y a z.1,fun a z=>⟨no.f a (s12.free z),(jq9 w2 z).symm,(jq9 r2 z).symm⟩⟩
 have nyw:wl≠A.yl:=(jq9 hy hwl0).symm
 have nyr:rl≠A.yl:=(jq9 hy hrl).symm
 have I0:Inv F t.size (st0 t ws):=jzz bt
 refine ⟨fun m σ H'=>∃ st wus rus,σ=[some (.ref A.op),some u,some (.ref rl),some (.ref wl)]∧R2St C D A b1 b2 b3 F (fun a=>N a∧a≠wl∧a≠rl) wl rl t ws H2 st wus rus H'∧m=mu F t.size st,⟨_,st0 t ws,[u],[],rfl,?_,rfl⟩,?_⟩
 ·exact ⟨.refl,O2,no2,w2,r2,.one (sp.mono (Kp.same s12)),.nil,.refl⟩
 ·rintro m σ H3 ⟨st,wus,rus,rfl,B,rfl⟩
  have I:=jvf bk B.rch I0
  have done:(st.k≤F→st.S=[])→Q (.ref rl) H3:=fun z=>
   kk st rl rus H3 B.rch z hrl B.r B.dr (B.O.weak (N':=N) fun a o h n=>n.1) (Ex.new (l':=[wl,rl,A.op,A.lp,A.tk,A.yl]) (fun a ha=>by
     simp only [List.mem_cons,List.not_mem_nil,or_false] at ha ⊢
     rcases ha with rfl|rfl|z|z|z|z
     ·exact .inr hwl0
     ·exact .inr hrl
     ·exact .inl (.inl z)
     ·exact .inl (.inr (.inl z))
     ·exact .inl (.inr (.inr (.inl z)))
     ·exact .inl (.inr (.inr (.inr z)))) ((Ex.same s12).trans B.ex))
  refine ⟨_,rfl,wl,wus,rfl,.inl (SqL.of B.w),_,_,rfl,rfl,_,rfl,?_⟩
  by_cases hv:wus=[]
  ·subst hv
   refine iteN rfl (iteN rfl ?_)
   exact ⟨_,rfl,done fun _=>List.length_eq_zero_iff.mp B.dw.length.symm⟩
  ·refine iteY (decide_eq_true (by have:=List.length_pos_iff.mpr hv;omega)) ?_
   refine ⟨_,rfl,A.op,C,A.dx,_,_,rfl,B.O.ob,ro.cl,ro.nM,jkn,_,rfl,A.op,C,A.dx,_,_,rfl,B.O.ob,ro.cl,ro.nF,jbb,_,_,rfl,rfl,_,rfl,?_⟩
   by_cases hk:st.k≤F
   ·refine iteY (decide_eq_true (by omega)) ?_
    obtain ⟨us,u1,rfl⟩:=jxw hv
    obtain ⟨S,R,k,ws1,rd⟩:=st
    obtain ⟨S',s',rfl,d1,d2⟩:=B.dw.snoc
    refine ⟨fun σ' H'=>∃ m',m' < mu F t.size ⟨S'++[s'],R,k,ws1,rd⟩∧∃ st wus rus,σ'=[some (.ref A.op),some u,some (.ref rl),some (.ref wl)]∧R2St C D A b1 b2 b3 F (fun a=>N a∧a≠wl∧a≠rl) wl rl t ws H2 st wus rus H'∧m'=mu F t.size st,fun _ _ h=>h,?_⟩
    refine ⟨_,rfl,A.op,A.dx,_,rfl,B.O.ob,jwt,_,rfl,.inl ⟨rfl,_,SqL.of B.w⟩,wl,_,_,rfl,rfl,B.w,jkw,?_⟩
    rw [jjt]
    have O4:=B.O.lst (o:=.lst us) B.w nyw (fun a z=>z.2.1)
    have kp4:Kp (Nk A.tk) H3 (upd H3 wl (.lst us)):=Kp.lst B.w
    have ex4:Ex [wl,rl,A.op,A.lp,A.tk,A.yl] H3 (upd H3 wl (.lst us)):=Ex.upd (by simp)
    have w4:(upd H3 wl (.lst us)) wl=some (.lst us):=jq1
    have r4:(upd H3 wl (.lst us)) rl=some (.lst rus):=by rw [jqb hne.symm];exact B.r
    have no4:NOk A (fun a=>N a∧a≠wl∧a≠rl) (upd H3 wl (.lst us)):=⟨B.no.y,fun a z=>B.no.f a (by
     by_cases e:a=wl
     ·subst e;rw [jq1] at z;cases z
     ·rw [jqb e] at z;exact z)⟩
    generalize upd H3 wl (.lst us)=H4 at O4 kp4 ex4 w4 r4 no4 ⊢
    have os:=I.so s' (List.mem_append_right _ (.head _))
    have SM:=sm _ B.rch hk
    have hwt:=SM.wt
    have hzs:=SM.ws
    simp only [jx9,jxx] at hwt hzs
    have hl1:=jb0 (h:=0) (S:=S') fun x hx=>I.so x (List.mem_append_left _ hx)
    have hl2:=jk5 I.ro
    have hl3:=d1.length
    have hl4:=B.dr.length
    have hdl:=I.dl
    simp only at hl2 hl4 hdl
    have hk':k≤F:=hk
    have nxt:∀ (st':Sta) (P:List Spot) (rs:List Rw) (H5:Hp),Stp b1 b2 b3 F ⟨S'++[s'],R,k,ws1,rd⟩ st'→st'.S=S'++P→st'.R=R++rs→OpAt C D A b1 b2 b3 F (fun a=>N a∧a≠wl∧a≠rl) st'.k st'.ws st'.rd H5→Aft (Nk A.tk) wl rl us rus P rs H5→Ex [wl,rl,A.op,A.lp,A.tk,A.yl] H4 H5→
      ∃ m',m' < mu F t.size ⟨S'++[s'],R,k,ws1,rd⟩∧∃ st wus rus,([some (.ref A.op),some u,some (.ref rl),some (.ref wl)]:St)=[some (.ref A.op),some u,some (.ref rl),some (.ref wl)]∧R2St C D A b1 b2 b3 F (fun a=>N a∧a≠wl∧a≠rl) wl rl t ws H2 st wus rus H5∧m'=mu F t.size st:=by
     intro st' P rs H5 stp eS eR O5 aft ex5
     obtain ⟨⟨pus,w5,dp⟩,rvs,r5,dr5⟩:=aft
     obtain ⟨n4,f4,_⟩:=O4.fw
     obtain ⟨ys4,y4,_⟩:=O4.rdl
     have kp5:Kp (Nk A.tk) H4 H5:=O4.kp ex5 (fun a ha=>by
      simp only [List.mem_cons,List.not_mem_nil,or_false] at ha
      rcases ha with rfl|rfl|rfl|rfl|z|rfl
      ·exact .inr (.inl ⟨_,w4⟩)
      ·exact .inr (.inl ⟨_,r4⟩)
      ·exact .inr (.inr ⟨_,_,_,O4.ob⟩)
      ·exact .inr (.inr ⟨_,_,_,f4.ob⟩)
      ·exact .inl z
      ·exact .inr (.inl ⟨_,y4⟩))
     have kp35:=kp4.trans kp5
     have no5:NOk A (fun a=>N a∧a≠wl∧a≠rl) H5:=⟨no4.y,fun a z=>no4.f a (by
      cases q:H4 a with
      | none=>rfl
      | some o=>
       exfalso
       obtain ⟨n5,f5,_⟩:=O5.fw
       obtain ⟨ys5,y5,_⟩:=O5.rdl
       have:=ex5 a o (fun w=>by
        simp only [List.mem_cons,List.not_mem_nil,or_false] at w
        rcases w with rfl|rfl|rfl|rfl|rfl|rfl
        ·rw [w5] at z;cases z
        ·rw [r5] at z;cases z
        ·rw [O5.ob] at z;cases z
        ·rw [f5.ob] at z;cases z
        ·rw [f5.dk] at z;cases z
        ·rw [y5] at z;cases z) q
       rw [this] at z;cases z)⟩
     refine ⟨_,jpi bk stp I hk,st',us++pus,rus++rvs,rfl,⟨.step B.rch hk stp,O5,no5,w5,r5,?_,?_,B.ex.trans (ex4.trans ex5)⟩,rfl⟩
     ·rw [eS];exact (d1.mono fun _ _=>SpAt.mono kp35).append dp
     ·rw [eR];exact (B.dr.mono fun _ _=>RwAt.mono kp35.tup).append dr5
    refine ⟨_,rfl,_,rfl,A,b1,b2,b3,F,k,_,ws1,rd,wl,rl,us,rus,s',u1,_,rfl,⟨O4,d2.mono kp4,os,by omega,w4,r4,hne,nyw,nyr,fun a z=>z.2.1,fun a z=>z.2.2,by omega,by omega⟩,no4,by omega,by omega,by omega,fun Ps rs ws' H5 tkk O5 aft ex5=>?_,fun s2 rd' ws' H5 opn O5 aft ex5=>?_⟩
    ·exact nxt _ Ps rs H5 (.take tkk) rfl rfl O5 aft (ex5.more (by simp only [List.mem_cons,List.not_mem_nil,or_false];rintro a (z|z|z|z)<;>simp [z]))
    ·exact nxt _ [s2] [] H5 (.opn opn) rfl (List.append_nil _).symm O5 aft (ex5.more (by simp only [List.mem_cons,List.not_mem_nil,or_false];rintro a (z|z|z|z|z)<;>simp [z]))
   ·refine iteN (decide_eq_false (by omega)) ?_
    exact ⟨_,rfl,done fun z=>absurd z hk⟩
end S9
namespace S9
open PySem L2 SW
variable {K:PySem.W.Frag} {vs:List V} {H:Hp} {Q:VK} {E:XK} {C D:Addr}
theorem catA2 {a b:Addr} {xs ys:List V} {H:Hp} {Q:VK} (ha:H a=some (.tup xs)) (hb:H b=some (.tup ys)) (hl:xs.length+ys.length≤sizeLine) (k:∀ r H',Same H H'→H' r=some (.tup (xs++ys))→Q (.ref r) H'):jer K (.ref a) (.ref b) H Q:=
 ⟨a,b,xs,ys,rfl,rfl,SqT.of ha,SqT.of hb,hl,fun e=>k b H (Same.refl _) (by rw [e];exact hb),fun _ e=>k a H (Same.refl _) (by rw [e,List.append_nil];exact ha),fun _ _ p hp=>k p _ (jq2 hp) jq1⟩
def WrAt (N:Addr→Prop) (H:Hp) (w:T×List Src) (v:V):Prop:=∃ p x l us,v=.ref p∧H p=some (.tup [x,.ref l])∧Den H w.1 x∧H l=some (.lst us)∧Al (SrAt H) w.2 us∧N l
theorem WrAt.mono {N:Addr→Prop} {H H':Hp} (s:Same H H') {w:T×List Src} {v:V} (h:WrAt N H w v):WrAt N H' w v:=by
 obtain ⟨p,x,l,us,e,h1,h2,h3,h4,h5⟩:=h
 exact ⟨p,x,l,us,e,s _ _ h1,h2.mono (jqa s),s _ _ h3,h4.mono fun _ _=>SrAt.mono (jqa s),h5⟩
theorem WrAt.weak {N N':Addr→Prop} {H:Hp} (hN:∀ l,N l→N' l) {w:T×List Src} {v:V} (h:WrAt N H w v):WrAt N' H w v:=by
 obtain ⟨p,x,l,us,e,h1,h2,h3,h4,h5⟩:=h
 exact ⟨p,x,l,us,e,h1,h2,h3,h4,hN l h5⟩
theorem WrAt.put {wl:Addr} {H:Hp} {xs:List V} {o:HO} (hw:H wl=some (.lst xs)) {w:T×List Src} {v:V} (h:WrAt (fun l=>l≠wl) H w v):WrAt (fun l=>l≠wl) (upd H wl o) w v:=by
 obtain ⟨p,x,l,us,e,h1,h2,h3,h4,h5⟩:=h
 exact ⟨p,x,l,us,e,(jxh hw) _ _ h1,h2.mono (jxh hw),by rw [jqb h5];exact h3,h4.mono fun _ _=>SrAt.mono (jxh hw),h5⟩
theorem jrh {H:Hp} {h:Hd} {ts:List T} {us:List V} {q:Addr} (hl:ts.length=h.ar) (d:Al (Den H) ts us) (hq:H q=some (.tup (h.vs++us))):Den H (mkT h ts) (.ref q):=by
 cases h with
 | num n=>match ts,hl with
  | [],_=>cases d;exact ⟨q,rfl,hq⟩
 | name n=>match ts,hl with
  | [],_=>cases d;exact ⟨q,rfl,hq⟩
 | sum=>match ts,hl with
  | [a,b],_=>cases d with|cons d1 d=>cases d with|cons d2 d=>cases d;exact ⟨q,_,_,rfl,hq,d1,d2⟩
 | less=>match ts,hl with
  | [a,b],_=>cases d with|cons d1 d=>cases d with|cons d2 d=>cases d;exact ⟨q,_,_,rfl,hq,d1,d2⟩
 | cho=>match ts,hl with
  | [a,b,c],_=>cases d with|cons d1 d=>cases d with|cons d2 d=>cases d with|cons d3 d=>cases d;exact ⟨q,_,_,_,rfl,hq,d1,d2,d3⟩
 | lt w=>match ts,hl with
  | [a,b],_=>cases d with|cons d1 d=>cases d with|cons d2 d=>cases d;exact ⟨q,_,_,rfl,hq,d1,d2⟩
def Lt (m:Nat) (n z:Nat):Prop:=n < m
theorem jfp {α:Type} {l:List α} {i:Nat} {x:α} (hi:i < l.length) (hx:l[l.length - 1 - i]?=some x):l.drop (l.length - (i+1))=x :: l.drop (l.length - i):=by
 obtain ⟨h1,h2⟩:=List.getElem?_eq_some_iff.mp hx
 have e:l.length - (i+1)=l.length - 1 - i:=by omega
 rw [e,List.drop_eq_getElem_cons h1,h2]
 congr 2
 omega
def spPo:Sp:=fun vs H Q _=>∃ (N:Addr→Prop) (rl wl:Addr) (R:List Rw) (rus:List V) (W:List (T×List Src)) (wus:List V),vs=[.ref rl,.ref wl]∧H rl=some (.lst rus)∧Al (RwAt H) R rus∧H wl=some (.lst wus)∧Al (WrAt N H) W wus∧Bd R 1∧(∀ r∈R,r.ok (Lt W.length))∧R.length≤9000000∧
 ∀ (v:V) (t:T) (H':Hp),Same H H'→bld (W.map Prod.fst) R=[t]→Den H' t v→Q v H'
def joa (K:PySem.W.Frag):TS:=(jxn (tBM K "list" jxa (tVar 2) (jq3 (tOp (rIxT K) (tOp (rIxL K) (tVar 1) (tOp (rIxT K) (tVar 3) (tC (.int 1)))) (tC (.int 0))) tNil)))
def jo9 (K:PySem.W.Frag):TS:=(jxn (tBM K "list" jxa (tVar 4) (jq3 (tBM0 K "list" rPop (tVar 2)) tNil)))
def jhr (K:PySem.W.Frag):TS:=(tSeq (tAsg (tLst tNil) (jqk 4)) (tSeq (jji (jx0 (tOp rLtI (tCB (cLen K) (jq3 (tVar 4) tNil)) (tOp (rIxT K) (tVar 3) (tC (.int 2))))) (jo9 K)) (jxn (tBM K "list" jxa (tVar 2) (jq3 (tOp (jer K) (tOp (rIxT K) (tVar 3) (tC (.int 1))) (tCB (jcj K) (jq3 (tVar 4) tNil))) tNil)))))
def jo8 (K:PySem.W.Frag):TS:=(tIfS (jx0 (tOp rEq (tOp (rIxT K) (tVar 3) (tC (.int 0))) (tC (.str "ready")))) (joa K) (jhr K))
def t_po (K:PySem.W.Frag):TS:=(tSeq (tAsg (tLst tNil) (jqk 2)) (tSeq (tFor (iRev K (tVar 0)) (jqk 3) (jo8 K)) (tRet (tBM0 K "list" rPop (tVar 2)))))
theorem ar3 (h:Hd):h.ar≤3:=by cases h<;>simp [Hd.ar]
theorem hvs2 (h:Hd):h.vs.length≤2:=by cases h<;>simp [Hd.vs]
theorem jpo {rl wl ml p:Addr} {h:Hd} {src:Str} {path:List Nat} {m:List T} {mus:List V} {H₀:Hp} {j4:Option V} {Dd:Ends} (s0:Same H₀ H) (nm:H₀ ml=none) (hr:RwAt H (.row h src path) (.ref p)) (hm:H ml=some (.lst mus)) (dm:Al (Den H) m.reverse mus) (ha:h.ar≤m.length) (hz:m.length≤9000000)
  (k:∀ (j4:Option V) (us:List V) (H':Hp),Same H₀ H'→H' ml=some (.lst us)→Al (Den H') (mkT h (m.take h.ar) :: m.drop h.ar).reverse us→Dd.nx [some (.ref rl),some (.ref wl),some (.ref ml),some (.ref p),j4] H') :
  jhr K Dd [some (.ref rl),some (.ref wl),some (.ref ml),some (.ref p),j4] H:=by
 obtain ⟨p',hp,sx,e,hrow,hhd,hsx⟩:=hr
 cases e
 have har:=ar3 h
 refine ⟨szl,fun il hil=>?_⟩
 have s1:Same H (upd H il (.lst [])):=jq2 hil
 have i1:(upd H il (.lst [])) il=some (.lst []):=jq1
 have nim:il≠ml:=(jq9 hm hil).symm
 have hil0:H₀ il=none:=s0.free hil
 generalize upd H il (.lst [])=H1 at s1 i1 ⊢
 refine ⟨fun mm σ H'=>∃ (j:Nat) (us ius:List V),σ=[some (.ref rl),some (.ref wl),some (.ref ml),some (.ref p),some (.ref il)]∧j≤h.ar∧Same H₀ H'∧TupLe H H'∧H' ml=some (.lst us)∧H' il=some (.lst ius)∧Al (Den H') (m.take j) ius∧Al (Den H') (m.drop j).reverse us∧mm=h.ar - j,
  ⟨_,0,mus,[],rfl,Nat.zero_le _,s0.trans s1,jqa s1,s1 _ _ hm,i1,.nil,dm.mono fun _ _=>Den.mono (jqa s1),rfl⟩,?_⟩
 rintro mm σ H2 ⟨j,us,ius,rfl,hj,s2,t2,m2,i2,di,du,rfl⟩
 have hli:=di.length
 rw [List.length_take,Nat.min_eq_left (by omega)] at hli
 have row2:=t2 _ _ hrow
 refine ⟨_,rfl,il,ius,rfl,.inl (SqL.of i2),_,rfl,p,_,_,_,rfl,rfl,SqT.of row2,jqd (j:=2) rfl,_,_,rfl,rfl,_,rfl,?_⟩
 by_cases hlt:j < h.ar
 ·refine iteY (decide_eq_true (by omega)) ?_
  refine ⟨fun σ' H'=>∃ m',m' < h.ar - j∧∃ (j:Nat) (us ius:List V),σ'=[some (.ref rl),some (.ref wl),some (.ref ml),some (.ref p),some (.ref il)]∧j≤h.ar∧Same H₀ H'∧TupLe H H'∧H' ml=some (.lst us)∧H' il=some (.lst ius)∧Al (Den H') (m.take j) ius∧Al (Den H') (m.drop j).reverse us∧m'=h.ar - j,fun _ _ z=>z,?_⟩
  obtain ⟨x,hx⟩:∃ x,m[j]?=some x:=⟨m[j]'(by omega),List.getElem?_eq_getElem _⟩
  have hd:m.drop j=x :: m.drop (j+1):=by
   obtain ⟨h1,h2⟩:=List.getElem?_eq_some_iff.mp hx
   rw [List.drop_eq_getElem_cons h1,h2]
  rw [hd,List.reverse_cons] at du
  have hne:us≠[]:=fun z=>by have:=du.length;rw [z] at this;simp at this
  obtain ⟨us,u1,rfl⟩:=jxw hne
  obtain ⟨bs,b,eb,d1,d2⟩:=du.snoc
  obtain ⟨rfl,rfl⟩:bs=(m.drop (j+1)).reverse∧b=x:=by
   have:=List.append_inj' eb rfl
   exact ⟨this.1.symm,by simpa using this.2.symm⟩
  refine ⟨_,rfl,.inl ⟨rfl,_,SqL.of i2⟩,_,rfl,.inl ⟨rfl,_,SqL.of m2⟩,ml,_,_,rfl,rfl,m2,jkw,?_⟩
  rw [jjt]
  have t3:TupLe H2 (upd H2 ml (.lst us)):=jxh m2
  have s3:Same H₀ (upd H2 ml (.lst us)):=jqr s2 nm
  have m3:(upd H2 ml (.lst us)) ml=some (.lst us):=jq1
  have i3:(upd H2 ml (.lst us)) il=some (.lst ius):=by rw [jqb nim];exact i2
  generalize upd H2 ml (.lst us)=H3 at t3 s3 m3 i3 ⊢
  refine ⟨il,_,_,rfl,rfl,i3,by rw [sizeLine_eq];omega,?_⟩
  have t4:TupLe H3 (upd H3 il (.lst (ius++[u1]))):=jxh i3
  refine ⟨h.ar - (j+1),by omega,j+1,us,ius++[u1],rfl,hlt,jqr s3 hil0,t2.trans (t3.trans t4),by rw [jqb nim.symm];exact m3,jq1,?_,d1.mono fun _ _=>Den.mono (t3.trans t4),rfl⟩
  rw [List.take_add_one,hx]
  exact (di.mono fun _ _=>Den.mono (t3.trans t4)).append (.one (d2.mono (t3.trans t4)))
 ·refine iteN (decide_eq_false (by omega)) ?_
  have ej:j=h.ar:=by omega
  subst ej
  have hhd2:=t2 _ _ hhd
  have hv2:=hvs2 h
  refine ⟨_,rfl,.inl ⟨rfl,_,SqL.of m2⟩,_,rfl,p,_,_,_,rfl,rfl,SqT.of row2,jqd (j:=1) rfl,_,rfl,il,_,rfl,.inl ⟨SqL.of i2,fun q hq=>?_⟩⟩
  have s3:=jq2 (o:=.tup ius) hq
  have g3:(upd H2 q (.tup ius)) q=some (.tup ius):=jq1
  generalize upd H2 q (.tup ius)=H3 at s3 g3 ⊢
  refine catA2 (s3 _ _ hhd2) g3 (by rw [sizeLine_eq];omega) fun r H4 s4 g4=>?_
  have s24:=s3.trans s4
  have m4:=s24 _ _ m2
  have dul:=du.length
  rw [List.length_reverse,List.length_drop] at dul
  refine ⟨ml,_,_,rfl,rfl,m4,by rw [sizeLine_eq];omega,?_⟩
  have t5:TupLe H4 (upd H4 ml (.lst (us++[.ref r]))):=jxh m4
  refine k _ _ _ (jqr (s2.trans s24) nm) jq1 ?_
  rw [List.reverse_cons]
  refine ((du.mono fun _ _=>Den.mono (jqa s24)).mono fun _ _=>Den.mono t5).append (.one ?_)
  refine jrh (by rw [List.length_take];omega) ((di.mono fun _ _=>Den.mono (jqa s24)).mono fun _ _=>Den.mono t5) (t5 _ _ g4)
theorem rd_po (h:spPo vs H Q E):t_po K (fin Q) (start ["rows","written","made","row","inner"] vs) H:=by
 obtain ⟨N,rl,wl,R,rus,W,wus,rfl,hr,dr,hw,dw,bd,rok,hz,k⟩:=h
 refine ⟨szl,fun ml hml=>?_⟩
 have s1:Same H (upd H ml (.lst [])):=jq2 hml
 have m1:(upd H ml (.lst [])) ml=some (.lst []):=jq1
 generalize upd H ml (.lst [])=H1 at s1 m1 ⊢
 have hrl:=dr.length
 refine ⟨_,rfl,rl,rus,rfl,SqL.of (s1 _ _ hr),?_⟩
 refine jce (K:=K) (a:=rl) (xs:=rus) (fun i σ H'=>∃ (j3 j4:Option V) (mus:List V),σ=[some (.ref rl),some (.ref wl),some (.ref ml),j3,j4]∧Same H H'∧H' ml=some (.lst mus)∧Al (Den H') (bld (W.map Prod.fst) (R.drop (R.length - i))).reverse mus)
  ⟨none,none,[],rfl,s1,m1,by rw [Nat.sub_zero,List.drop_length];exact .nil⟩ (fun i σ H' _ hP=>?_) ?_ ?_
 ·obtain ⟨_,_,_,_,s,_⟩:=hP
  exact SqL.of (s _ _ hr)
 ·rintro i y σ H2 hi hy ⟨j3,j4,mus,rfl,s2,m2,dm⟩
  obtain ⟨r,hrr,rat⟩:=dr.get hy
  rw [hrl] at hrr hi
  have hdr:=jfp hi hrr
  have rat:=rat.mono (jqa s2)
  obtain ⟨c,hbd⟩:∃ c,Bd (R.drop (R.length - (i+1))) c:=jg2 (a:=R.take (R.length - (i+1))) (by rw [List.take_append_drop];exact bd)
  rw [hdr] at hbd
  have hbl:∃ c,Bd (R.drop (R.length - i)) (r.ar+c):=by
   cases hbd with
   | cons hb=>exact ⟨_,hb⟩
  obtain ⟨c,hbl⟩:=hbl
  have hml2:=ja3 (W:=W.map Prod.fst) hbl
  have hbz:(bld (W.map Prod.fst) (R.drop (R.length - i))).length≤9000000:=by
   have:∀ {b:List Rw} {c:Nat},Bd b c→c≤b.length:=fun h=>by
    induction h with
    | nil=>exact Nat.le_refl _
    | cons _ ih=>rw [List.length_cons];omega
   have:=this hbl
   rw [List.length_drop] at this
   omega
  rw [hdr]
  cases r with
  | rdy n z=>
   obtain ⟨p,rfl,hp⟩:=rat
   have hn:n < W.length:=(rok _ (List.mem_of_getElem? hrr)).2
   obtain ⟨w,hW⟩:∃ w,W[n]?=some w:=⟨W[n],List.getElem?_eq_getElem _⟩
   obtain ⟨v,hv,pw,xw,lw,usw,rfl,hpw,dxw,_⟩:=dw.getA hW
   refine ⟨_,rfl,p,_,_,_,rfl,rfl,SqT.of hp,jqd (j:=0) rfl,rfl,_,rfl,iteY (by decide+kernel) ?_⟩
   have dml:=dm.length
   rw [List.length_reverse] at dml
   refine ⟨_,rfl,.inl ⟨rfl,_,SqL.of m2⟩,_,rfl,_,rfl,p,_,_,_,rfl,rfl,SqT.of hp,jqd (j:=1) rfl,wl,_,_,_,rfl,rfl,SqL.of (s2 _ _ hw),jqd hv,pw,_,_,_,rfl,rfl,SqT.of (s2 _ _ hpw),jqd (j:=0) rfl,ml,_,_,rfl,rfl,m2,by rw [sizeLine_eq];omega,?_⟩
   have t3:TupLe H2 (upd H2 ml (.lst (mus++[xw]))):=jxh m2
   refine ⟨_,_,mus++[xw],rfl,jqr s2 hml,jq1,?_⟩
   have eW:(W.map Prod.fst)[n]?.getD (.num 0)=w.1:=by rw [List.getElem?_map,hW];rfl
   simp only [bld,stB,eW,List.reverse_cons]
   exact (dm.mono fun _ _=>Den.mono t3).append (.one ((dxw.mono (jqa s2)).mono t3))
  | row h src path=>
   have rat0:=rat
   obtain ⟨p,hp,sx,rfl,hrow,hhd,hsx⟩:=rat
   refine ⟨_,rfl,p,_,_,_,rfl,rfl,SqT.of hrow,jqd (j:=0) rfl,rfl,_,rfl,iteN (by decide+kernel) ?_⟩
   have har:h.ar≤(bld (W.map Prod.fst) (R.drop (R.length - i))).length:=by rw [hml2];simp only [Rw.ar];omega
   exact jpo s2 hml rat0 m2 dm har (by omega) fun j4 us H3 s3 m3 d3=>⟨_,_,us,rfl,s3,m3,by simp only [bld,stB];exact d3⟩
 ·rintro σ H2 ⟨j3,j4,mus,rfl,s2,m2,dm⟩
  rw [hrl,Nat.sub_self,List.drop_zero] at dm
  have hl:=ja3 (W:=W.map Prod.fst) bd
  obtain ⟨t,ht⟩:=List.length_eq_one_iff.mp hl
  rw [ht] at dm
  cases dm with|cons d0 dn=>cases dn with|nil=>
  refine ⟨_,rfl,.inl ⟨rfl,_,SqL.of m2⟩,ml,_,_,rfl,rfl,m2,rfl,?_⟩
  exact k _ t _ (jqr s2 hml) ht (d0.mono (jxh m2))
def RfL (W:List (T×List Src)) (n z:Nat):Prop:=∃ w,W[n]?=some w∧w.2.length≤z
def spSo:Sp:=fun vs H Q _=>∃ (N:Addr→Prop) (rl wl:Addr) (R:List Rw) (rus:List V) (W:List (T×List Src)) (wus:List V),vs=[.ref rl,.ref wl]∧H rl=some (.lst rus)∧Al (RwAt H) R rus∧H wl=some (.lst wus)∧Al (WrAt N H) W wus∧(∀ r∈R,r.ok (RfL W))∧wtR R≤9000000∧
 ∀ (l:Addr) (us:List V) (H':Hp),Same H H'→H l=none→H' l=some (.lst us)→Al (SrAt H') (srcs (W.map Prod.snd) R) us→Q (.ref l) H'
def jny (K:PySem.W.Frag):TS:=(jxn (tBM K "list" jvg (tVar 2) (jq3 (tOp (rIxT K) (tOp (rIxL K) (tVar 1) (tOp (rIxT K) (tVar 3) (tC (.int 1)))) (tC (.int 1))) tNil)))
def jnx (K:PySem.W.Frag):TS:=(jxn (tBM K "list" jxa (tVar 2) (jq3 (tOp (rIxT K) (tVar 3) (tC (.int 3))) tNil)))
def jnw (K:PySem.W.Frag):TS:=(tIfS (jx0 (tOp rEq (tOp (rIxT K) (tVar 3) (tC (.int 0))) (tC (.str "ready")))) (jny K) (jnx K))
def t_so (K:PySem.W.Frag):TS:=(tSeq (tAsg (tLst tNil) (jqk 2)) (tSeq (tFor (jkr K (tVar 0)) (jqk 3) (jnw K)) (tRet (tVar 2))))
theorem jiv (R:List Rw) (i:Nat):wtR (R.take i)≤wtR R:=by
 have e:=jjv (R.take i) (R.drop i)
 rw [List.take_append_drop] at e
 omega
theorem rd_so (h:spSo vs H Q E):t_so K (fin Q) (start ["rows","written","sources","row"] vs) H:=by
 obtain ⟨N,rl,wl,R,rus,W,wus,rfl,hr,dr,hw,dw,rok,hz,k⟩:=h
 refine ⟨szl,fun sl hsl=>?_⟩
 have s1:Same H (upd H sl (.lst [])):=jq2 hsl
 have m1:(upd H sl (.lst [])) sl=some (.lst []):=jq1
 generalize upd H sl (.lst [])=H1 at s1 m1 ⊢
 have hrl:=dr.length
 have rokS:∀ r∈R,r.ok (RfS (W.map Prod.snd)):=fun r h=>Rw.ok_mono (fun n z ⟨w,e,l⟩=>⟨w.2,by rw [List.getElem?_map,e];rfl,l⟩) (rok r h)
 refine ⟨_,rfl,rl,rfl,⟨_,SqL.of (s1 _ _ hr)⟩,?_⟩
 refine jzc (K:=K) (a:=rl) (xs:=rus) (fun i σ H'=>∃ (j3:Option V) (sus:List V),σ=[some (.ref rl),some (.ref wl),some (.ref sl),j3]∧Same H H'∧H' sl=some (.lst sus)∧Al (SrAt H') (srcs (W.map Prod.snd) (R.take i)) sus)
  ⟨none,[],rfl,s1,m1,.nil⟩ (fun i σ H' _ hP=>?_) ?_ ?_
 ·obtain ⟨_,_,_,s,_⟩:=hP
  exact SqL.of (s _ _ hr)
 ·rintro i y σ H2 hi ⟨j3,sus,rfl,s2,m2,ds⟩
  obtain ⟨r,hrr,rat⟩:=dr.get hi
  have rat:=rat.mono (jqa s2)
  have htk:R.take (i+1)=R.take i++[r]:=by rw [List.take_add_one,hrr];rfl
  have hsl1:=ds.length
  have hsl2:=jv3 (W:=W.map Prod.snd) (b:=R.take (i+1)) fun r h=>rokS r (List.mem_of_mem_take h)
  have hsl3:=jiv R (i+1)
  rw [htk,jjc,List.length_append] at hsl2
  rw [htk] at hsl3 ⊢
  rw [jjc]
  cases r with
  | rdy n z=>
   obtain ⟨p,rfl,hp⟩:=rat
   obtain ⟨_,w,hW,hwl⟩:=rok _ (List.mem_of_getElem? hrr)
   obtain ⟨v,hv,pw,xw,lw,usw,rfl,hpw,dxw,hlw,dlw,_⟩:=dw.getA hW
   have eW:(W.map Prod.snd)[n]?.getD []=w.2:=by rw [List.getElem?_map,hW];rfl
   have hdl:=dlw.length
   simp only [srcs,eW,List.append_nil] at hsl2 ⊢
   refine ⟨_,rfl,p,_,_,_,rfl,rfl,SqT.of hp,jqd (j:=0) rfl,rfl,_,rfl,iteY (by decide+kernel) ?_⟩
   refine ⟨_,rfl,.inl ⟨rfl,_,SqL.of m2⟩,_,rfl,_,rfl,p,_,_,_,rfl,rfl,SqT.of hp,jqd (j:=1) rfl,wl,_,_,_,rfl,rfl,SqL.of (s2 _ _ hw),jqd hv,pw,_,_,_,rfl,rfl,SqT.of (s2 _ _ hpw),jqd (j:=1) rfl,sl,lw,_,_,rfl,rfl,m2,s2 _ _ hlw,by rw [sizeLine_eq];omega,?_⟩
   have t3:TupLe H2 (upd H2 sl (.lst (sus++usw))):=jxh m2
   exact ⟨_,sus++usw,rfl,jqr s2 hsl,jq1,(ds.mono fun _ _=>SrAt.mono t3).append ((dlw.mono fun _ _=>SrAt.mono (jqa s2)).mono fun _ _=>SrAt.mono t3)⟩
  | row h src path=>
   obtain ⟨p,hp,sx,rfl,hrow,hhd,hsx⟩:=rat
   simp only [srcs] at hsl2 ⊢
   refine ⟨_,rfl,p,_,_,_,rfl,rfl,SqT.of hrow,jqd (j:=0) rfl,rfl,_,rfl,iteN (by decide+kernel) ?_⟩
   refine ⟨_,rfl,.inl ⟨rfl,_,SqL.of m2⟩,_,rfl,p,_,_,_,rfl,rfl,SqT.of hrow,jqd (j:=3) rfl,sl,_,_,rfl,rfl,m2,by rw [sizeLine_eq];omega,?_⟩
   have t3:TupLe H2 (upd H2 sl (.lst (sus++[sx]))):=jxh m2
   exact ⟨_,sus++[sx],rfl,jqr s2 hsl,jq1,(ds.mono fun _ _=>SrAt.mono t3).append (.one (hsx.mono t3))⟩
 ·rintro σ H2 ⟨j3,sus,rfl,s2,m2,ds⟩
  rw [hrl,List.take_length] at ds
  exact ⟨_,rfl,k sl sus H2 s2 hsl m2 ds⟩
def spWo:Sp:=fun vs H Q _=>∃ (N:Addr→Prop) (rl wl:Addr) (R:List Rw) (rus:List V) (W:List (T×List Src)) (wus:List V),vs=[.ref rl,.ref wl]∧H rl=some (.lst rus)∧Al (RwAt H) R rus∧H wl=some (.lst wus)∧Al (WrAt N H) W wus∧Bd R 1∧(∀ r∈R,r.ok (RfL W))∧wtR R≤9000000∧
 ∀ (u:V) (t:T) (H':Hp),Same H H'→bld (W.map Prod.fst) R=[t]→WrAt (fun l=>H l=none) H' (t,srcs (W.map Prod.snd) R) u→Q u H'
def t_wo (K:PySem.W.Frag):TS:=(tRet (tTup (jq3 (jx7 spPo [] E0 (jq3 (tVar 0) (jq3 (tVar 1) tNil))) (jq3 (jx7 spSo [] E0 (jq3 (tVar 0) (jq3 (tVar 1) tNil))) tNil))))
theorem rd_wo (h:spWo vs H Q E):t_wo K (fin Q) (start ["rows","written"] vs) H:=by
 obtain ⟨N,rl,wl,R,rus,W,wus,rfl,hr,dr,hw,dw,bd,rok,hz,k⟩:=h
 have hlen:=jk5 rok
 refine ⟨_,rfl,_,rfl,N,rl,wl,R,rus,W,wus,rfl,hr,dr,hw,dw,bd,fun r h=>Rw.ok_mono (fun n z ⟨w,e,_⟩=>(List.getElem?_eq_some_iff.mp e).1) (rok r h),by omega,fun v t H1 s1 hb dv=>?_⟩
 refine ⟨_,rfl,_,rfl,N,rl,wl,R,rus,W,wus,rfl,s1 _ _ hr,dr.mono fun _ _=>RwAt.mono (jqa s1),s1 _ _ hw,dw.mono fun _ _=>WrAt.mono s1,rok,hz,fun l us H2 s2 n2 hl ds=>⟨szl,fun p hp=>?_⟩⟩
 have s3:=jq2 (o:=.tup [v,.ref l]) hp
 exact k _ t _ ((s1.trans s2).trans s3) hb ⟨p,v,l,us,rfl,jq1,dv.mono (jqa (s2.trans s3)),s3 _ _ hl,ds.mono fun _ _=>SrAt.mono (jqa s3),s1.free n2⟩
end S9
namespace S9
open PySem L2 SW
variable {K:PySem.W.Frag} {vs:List V} {H:Hp} {Q:VK} {E:XK} {C D:Addr}
inductive Writ:List (List Rw)→List (T×List Src)→Prop where
 | nil:Writ [] []
 | snoc {rd:List (List Rw)} {W:List (T×List Src)} {R:List Rw} {t:T}:Writ rd W→bld (W.map Prod.fst) R=[t]→Writ (rd++[R]) (W++[(t,srcs (W.map Prod.snd) R)])
theorem RdOk.front {rd:List (List Rw)} {R:List Rw} (h:RdOk (rd++[R])):RdOk rd∧Bd R 1∧∀ r∈R,r.ok (Rf rd):=by
 refine ⟨fun i R' e=>?_,?_⟩
 ·have hi:i < rd.length:=(List.getElem?_eq_some_iff.mp e).1
  have:=h i R' (by rw [List.getElem?_append_left hi];exact e)
  rw [List.take_append_of_le_length (Nat.le_of_lt hi)] at this
  exact this
 ·have:=h rd.length R (by simp)
  rw [List.take_left] at this
  exact this
structure Fine (rd:List (List Rw)) (W:List (T×List Src)):Prop where
 len:W.length=rd.length
 all:∀ (i:Nat) (R:List Rw) (w:T×List Src),rd[i]?=some R→W[i]?=some w→w.1.size≤wtR R∧w.2.length≤wtR R∧¬ Sts w.1
theorem Fine.rf {rd:List (List Rw)} {W:List (T×List Src)} (f:Fine rd W):∀ n z,Rf rd n z→RfL W n z∧RfW (W.map Prod.fst) n z∧RfS (W.map Prod.snd) n z:=by
 rintro n z ⟨R,e,h⟩
 have hn:n < rd.length:=(List.getElem?_eq_some_iff.mp e).1
 have hn2:n < W.length:=by rw [f.len];exact hn
 have eW:W[n]?=some W[n]:=List.getElem?_eq_getElem hn2
 generalize W[n]=w at eW
 obtain ⟨h1,h2,h3⟩:=f.all n R w e eW
 exact ⟨⟨w,eW,by omega⟩,⟨w.1,by rw [List.getElem?_map,eW];rfl,by omega,h3⟩,⟨w.2,by rw [List.getElem?_map,eW];rfl,by omega⟩⟩
theorem Fine.one {rd:List (List Rw)} {W:List (T×List Src)} (f:Fine rd W) {R:List Rw} {t:T} (bd:Bd R 1) (ok:∀ r∈R,r.ok (Rf rd)) (hb:bld (W.map Prod.fst) R=[t]):t.size≤wtR R∧(srcs (W.map Prod.snd) R).length≤wtR R∧¬ Sts t:=by
 obtain ⟨h1,h2⟩:=jck bd (fun r h=>Rw.ok_mono (fun n z q=>(f.rf n z q).2.1) (ok r h))
 rw [hb] at h1 h2
 refine ⟨?_,jv3 fun r h=>Rw.ok_mono (fun n z q=>(f.rf n z q).2.2) (ok r h),h2 t (.head _)⟩
 rw [jz0,jj8] at h1;omega
theorem jv7 {rd:List (List Rw)} {W:List (T×List Src)} (h:Writ rd W):RdOk rd→Fine rd W:=by
 induction h with
 | nil=>exact fun _=>⟨rfl,fun i R w e=>by simp at e⟩
 | @snoc rd W R t _ hb ih=>
  intro ok
  obtain ⟨ok1,bd,ro⟩:=ok.front
  have f:=ih ok1
  have g:=f.one bd ro hb
  refine ⟨by simp [f.len],fun i R' w e1 e2=>?_⟩
  rcases Nat.lt_or_ge i rd.length with hi|hi
  ·rw [List.getElem?_append_left hi] at e1
   rw [List.getElem?_append_left (by rw [f.len];exact hi)] at e2
   exact f.all i R' w e1 e2
  ·have hi2:i < (rd++[R]).length:=(List.getElem?_eq_some_iff.mp e1).1
   rw [List.length_append,List.length_singleton] at hi2
   have ei:i=rd.length:=by omega
   subst ei
   rw [List.getElem?_append_right (Nat.le_refl _),Nat.sub_self] at e1
   rw [← f.len,List.getElem?_append_right (Nat.le_refl _),Nat.sub_self] at e2
   cases e1
   cases e2
   exact g
def spOi (C D:Addr):Sp:=fun vs H Q _=>∃ (op dx b:Addr) (v1 v2 v3 u:V) (b1 b2 b3 t:T) (F:Nat),vs=[.ref op,.ref b,u,.int (F:Int)]∧H op=some (.ins C dx [])∧H b=some (.lst [v1,v2,v3])∧BkT H v1 v2 v3 b1 b2 b3∧Den H t u∧(∀ y∈[t,b1,b2,b3],y.size≤900∧y.names.length < 64)∧
 ∀ (A:Ad) (ws:List Str) (H':Hp),A.op=op→OpAt C D A b1 b2 b3 F (fun a=>a≠A.yl) 0 ws [] H'→H A.lp=none→H A.tk=none→H A.yl=none→(∀ x,x∈ws↔∃ y∈[t,b1,b2,b3],y.out x)→ws.length≤252→Ex [op] H H'→Q .non H'
def t_oi (K:PySem.W.Frag) (a_Opening a_FreshWords:Addr):TS:=(tSeq (sFld K (tVar 0) (jx7 jje [] E0 (jq3 (tVar 1) tNil)) "stamps") (tSeq (sFld K (tVar 0) (jlw a_FreshWords (jec a_FreshWords) [] E0 (jq3 (jx7 jee [] E0 (jq3 (tVar 1) (jq3 (tVar 2) tNil))) tNil)) "lets") (tSeq (sFld K (tVar 0) (tVar 3) "fuel") (tSeq (sFld K (tVar 0) (tC (.int 0)) "many") (sFld K (tVar 0) (tLst tNil) "ready")))))
def of1 (sd:Addr):List (Str×V):=[("stamps",.ref sd)]
def of2 (sd lp:Addr):List (Str×V):=[("stamps",.ref sd),("lets",.ref lp)]
def of3 (sd lp:Addr) (F:Nat):List (Str×V):=[("stamps",.ref sd),("lets",.ref lp),("fuel",.int (F:Int))]
def of4 (sd lp:Addr) (F:Nat):List (Str×V):=[("stamps",.ref sd),("lets",.ref lp),("fuel",.int (F:Int)),("many",.int 0)]
theorem pu2 {sd lp:Addr}:putF "lets" (.ref lp) (of1 sd)=of2 sd lp:=by
 simp only [of1,of2,putF,if_neg (show ¬ ("stamps":Str)="lets" by decide+kernel)]
theorem pu3 {sd lp:Addr} {F:Nat}:putF "fuel" (.int (F:Int)) (of2 sd lp)=of3 sd lp F:=by
 simp only [of2,of3,putF,if_neg (show ¬ ("stamps":Str)="fuel" by decide+kernel),if_neg (show ¬ ("lets":Str)="fuel" by decide+kernel)]
theorem pu4 {sd lp:Addr} {F:Nat}:putF "many" (.int 0) (of3 sd lp F)=of4 sd lp F:=by
 simp only [of3,of4,putF,if_neg nSM,if_neg nLM,if_neg nFM]
theorem pu5 {sd lp yl:Addr} {F:Nat}:putF "ready" (.ref yl) (of4 sd lp F)=ofs sd lp F 0 yl:=by
 simp only [putF,of4,ofs,if_neg (show ¬ ("stamps":Str)="ready" by decide+kernel),if_neg (show ¬ ("lets":Str)="ready" by decide+kernel),if_neg (show ¬ ("fuel":Str)="ready" by decide+kernel),if_neg (show ¬ ("many":Str)="ready" by decide+kernel)]
 rfl
theorem rd_oi (ro:RO K C) (h:spOi C D vs H Q E):t_oi K C D (fin Q) (start ["self","book","piece","fuel"] vs) H:=by
 obtain ⟨op,dx,b,v1,v2,v3,u,b1,b2,b3,t,F,rfl,ho,hb,bk,hd,hs,k⟩:=h
 refine ⟨_,rfl,b,v1,v2,v3,_,_,_,rfl,hb,bk.g,fun sd H1 s1 n1 g1=>?_⟩
 refine ⟨_,rfl,op,C,dx,[],rfl,s1 _ _ ho,ro.cl,ro.nS,by show 0 < 1000;decide,?_⟩
 have nos:op≠sd:=jq9 ho n1
 have o2:(upd H1 op (.ins C dx (putF "stamps" (.ref sd) []))) op=some (.ins C dx (of1 sd)):=jq1
 have e2:Ex [op] H1 (upd H1 op (.ins C dx (putF "stamps" (.ref sd) []))):=Ex.upd (by simp)
 generalize upd H1 op (.ins C dx (putF "stamps" (.ref sd) []))=H2 at o2 e2 ⊢
 have e02:Ex [op] H H2:=(Ex.same s1).trans e2
 have bk2:BkT H2 v1 v2 v3 b1 b2 b3:=by
  have st:∀ {w:Str} {ps:List Str} {g:G} {v:V},StAt H w ps g v→StAt H2 w ps g v:=fun {w ps g v} ⟨p,l,x,e,h1,h2,h3⟩=>
   ⟨p,l,x,e,e02 _ _ (fun q=>by rw [List.mem_singleton] at q;subst q;rw [ho] at h1;cases h1) h1,e02 _ _ (fun q=>by rw [List.mem_singleton] at q;subst q;rw [ho] at h2;cases h2) h2,h3.mono fun a xs z=>e02 _ _ (fun q=>by rw [List.mem_singleton] at q;subst q;rw [ho] at z;cases z) z⟩
  exact ⟨st bk.a,st bk.b,st bk.c⟩
 have hb2:H2 b=some (.lst [v1,v2,v3]):=e02 _ _ (fun q=>by rw [List.mem_singleton] at q;subst q;rw [ho] at hb;cases hb) hb
 have hd2:Den H2 t u:=hd.mono fun a xs z=>e02 _ _ (fun q=>by rw [List.mem_singleton] at q;subst q;rw [ho] at z;cases z) z
 have g2:H2 sd=some (.dK (kv3 v1 v2 v3)):=e2 _ _ (fun q=>nos (List.mem_singleton.mp q).symm) g1
 refine ⟨_,rfl,_,rfl,b,v1,v2,v3,u,b1,b2,b3,t,rfl,hb2,bk2,hd2,hs,fun l us H3 s3 n3 g3 hlen hus=>?_⟩
 intro lp lx hlp hlx nlx
 have nlx':lp≠lx:=nlx.symm
 have s4:Same H3 (upd (upd H3 lx (.own lp)) lp (.ins D lx [])):=fun c o z=>by rw [jqb (jq9 z hlp),jqb (jq9 z hlx)];exact z
 have p4:(upd (upd H3 lx (.own lp)) lp (.ins D lx [])) lp=some (.ins D lx []):=jq1
 generalize upd (upd H3 lx (.own lp)) lp (.ins D lx [])=H4 at s4 p4 ⊢
 refine ⟨lp,lx,l,us,rfl,p4,s4 _ _ g3,by omega,fun tk ws H5 ntk hws hwl e5 fw5=>⟨rfl,?_⟩⟩
 have s24:=s3.trans s4
 have nlp2:H2 lp=none:=s3.free hlp
 have ntk2:H2 tk=none:=s24.free ntk
 have e25:Ex [lp] H2 H5:=fun c o n z=>e5 _ _ (fun q=>n (by rw [q];simp)) (s24 _ _ z)
 have nop:op≠lp:=jq9 o2 nlp2
 have o5:H5 op=some (.ins C dx (of1 sd)):=e25 _ _ (by simp [nop]) o2
 refine ⟨_,rfl,op,C,dx,_,rfl,o5,ro.cl,ro.nL,by show 1 < 1000;decide,?_⟩
 rw [pu2]
 have o6:(upd H5 op (.ins C dx (of2 sd lp))) op=some (.ins C dx (of2 sd lp)):=jq1
 have e6:Ex [op] H5 (upd H5 op (.ins C dx (of2 sd lp))):=Ex.upd (by simp)
 generalize upd H5 op (.ins C dx (of2 sd lp))=H6 at o6 e6 ⊢
 refine ⟨_,rfl,_,rfl,op,C,dx,_,rfl,o6,ro.cl,ro.nF,by show 2 < 1000;decide,?_⟩
 rw [pu3]
 have o7:(upd H6 op (.ins C dx (of3 sd lp F))) op=some (.ins C dx (of3 sd lp F)):=jq1
 have e7:Ex [op] H6 (upd H6 op (.ins C dx (of3 sd lp F))):=Ex.upd (by simp)
 generalize upd H6 op (.ins C dx (of3 sd lp F))=H7 at o7 e7 ⊢
 refine ⟨_,rfl,op,C,dx,_,rfl,o7,ro.cl,ro.nM,by show 3 < 1000;decide,?_⟩
 rw [pu4]
 have o8:(upd H7 op (.ins C dx (of4 sd lp F))) op=some (.ins C dx (of4 sd lp F)):=jq1
 have e8:Ex [op] H7 (upd H7 op (.ins C dx (of4 sd lp F))):=Ex.upd (by simp)
 generalize upd H7 op (.ins C dx (of4 sd lp F))=H8 at o8 e8 ⊢
 refine ⟨szl,fun yl hyl=>⟨_,rfl,op,C,dx,_,rfl,(jq2 hyl) _ _ o8,ro.cl,ro.nR,by show 4 < 1000;decide,?_⟩⟩
 have s9:Same H8 (upd H8 yl (.lst [])):=jq2 hyl
 have y9:(upd H8 yl (.lst [])) yl=some (.lst []):=jq1
 have o9:=s9 _ _ o8
 generalize upd H8 yl (.lst [])=H9 at s9 y9 o9 ⊢
 rw [pu5]
 have e10:Ex [op] H9 (upd H9 op (.ins C dx (ofs sd lp F 0 yl))):=Ex.upd (by simp)
 have o10:(upd H9 op (.ins C dx (ofs sd lp F 0 yl))) op=some (.ins C dx (ofs sd lp F 0 yl)):=jq1
 have noy:yl≠op:=(jq9 o8 hyl).symm
 have y10:(upd H9 op (.ins C dx (ofs sd lp F 0 yl))) yl=some (.lst []):=e10 _ _ (by simp [noy]) y9
 generalize upd H9 op (.ins C dx (ofs sd lp F 0 yl))=H10 at e10 o10 y10 ⊢
 have e510:Ex [op] H5 H10:=e6.trans (e7.trans (e8.trans ((Ex.same s9).trans e10)))
 have e210:Ex [op,lp] H2 H10:=(e25.more (by simp)).trans (e510.more (by simp))
 have ns:∀ a o,H2 a=some o→a≠op→H10 a=some o:=fun a o z n=>e210 _ _ (by simp [n,jq9 z nlp2]) z
 have nyl2:H2 yl=none:=by
  cases q:H2 yl with
  | none=>rfl
  | some o=>
   have:=ns yl o q noy
   rw [y10] at this
   cases this
   have h5:H5 yl=some (.lst []):=e25 _ _ (by simp [jq9 q nlp2]) q
   have h8:H8 yl=some (.lst []):=(e6.trans (e7.trans e8)) _ _ (by simp [noy]) h5
   rw [h8] at hyl;cases hyl
 have nOf:∀ a,H2 a=none→H a=none:=fun a z=>by
  cases q:H a with
  | none=>rfl
  | some o=>
   by_cases ha:a=op
   ·subst ha;rw [o2] at z;cases z
   ·have:=e02 a o (by simp [ha]) q
    rw [this] at z;cases z
 have stn:∀ {w:Str} {ps:List Str} {tt:T} {v:V},StAt H w ps (gOf tt) v→StN (fun a=>a≠yl) H10 w ps tt v:=fun {w ps tt v} ⟨p,l,x,e,h1,h2,h3⟩=>by
  have toH:∀ a o,H a=some o→a≠op→H10 a=some o:=fun a o z n=>ns a o (e02 _ _ (by simp [n]) z) n
  refine ⟨p,l,x,e,toH _ _ h1 (jxk h1 ho (by intro z;cases z)),toH _ _ h2 (jxk h2 ho (by intro z;cases z)),jq9 h2 (nOf _ nyl2),(jzm h3).mono fun a xs z=>toH _ _ z (jxk z ho (by intro z;cases z))⟩
 have ntp:tk≠op:=(jq9 o2 ntk2).symm
 refine k ⟨op,dx,sd,lp,lx,tk,yl,v1,v2,v3⟩ ws H10 rfl ⟨o10,⟨0,⟨e510 _ _ (by simp [nop.symm]) fw5.ob,e510 _ _ (by simp [ntp]) fw5.dk⟩,?_⟩,ns _ _ g2 nos.symm,jq9 g2 ntk2,stn bk.a,stn bk.b,stn bk.c,[],y10,.nil⟩ (nOf _ nlp2) (nOf _ ntk2) (nOf _ nyl2) (fun x=>by rw [hws,hus]) (by omega) ?_
 ·have:=jfw 0 ws
  omega
 ·refine e02.trans (Ex.new (l':=[op,lp]) (fun a ha=>?_) e210)
  simp only [List.mem_cons,List.not_mem_nil,or_false] at ha ⊢
  rcases ha with z|rfl
  ·exact .inl z
  ·exact .inr nlp2
end S9
namespace S9
open PySem L2 SW
variable {K:PySem.W.Frag} {vs:List V} {H:Hp} {Q:VK} {E:XK} {C D Nst:Addr}
structure Asked (b1 b2 b3 t:T) (F:Nat):Prop where
 bk:BkOk b1 b2 b3
 bt:BT t [] 0
 sm:∀ ws:List Str,ws.length≤252→∀ st,Rch b1 b2 b3 F (st0 t ws) st→st.k≤F→Small st
 fl:F≤400000
structure Ended (b1 b2 b3 t:T) (F:Nat) (ws:List Str) (st:Sta) (W:List (T×List Src)) (tt:T):Prop where
 ws_:∀ x,x∈ws↔∃ y∈[t,b1,b2,b3],y.out x
 wl:ws.length≤252
 rch:Rch b1 b2 b3 F (st0 t ws) st
 emp:st.S=[]
 few:st.k≤F
 wr:Writ st.rd W
 out:bld (W.map Prod.fst) st.R=[tt]
def jaf (Nst C D:Addr):Sp:=fun vs H Q E=>∃ (b:Addr) (v1 v2 v3 u:V) (g1 g2 g3 g:G) (F:Nat),vs=[.ref b,u,.int (F:Int)]∧H b=some (.lst [v1,v2,v3])∧Bk H v1 v2 v3 g1 g2 g3∧DG H g u∧(∀ y∈[g,g1,g2,g3],y.size≤5000∧jkc y)∧
 (∀ H',Same H H'→(∃ y∈[g,g1,g2,g3],∃ x,Inn x y∧¬ Fit x)→E (.ref Nst) none H')∧
 ((∀ y∈[g,g1,g2,g3],∀ x,Inn x y→Fit x)→∃ (t b1 b2 b3:T),g=gOf t∧g1=gOf b1∧g2=gOf b2∧g3=gOf b3∧Asked b1 b2 b3 t F∧
  (∀ (p:Addr) (ws:List Str) (st:Sta) (H':Hp),Same H H'→H' p=some (.tup [.str "more"])→(∀ x,x∈ws↔∃ y∈[t,b1,b2,b3],y.out x)→Rch b1 b2 b3 F (st0 t ws) st→F < st.k→Q (.ref p) H')∧
  (∀ (p l:Addr) (x:V) (us:List V) (ws:List Str) (st:Sta) (W:List (T×List Src)) (tt:T) (H':Hp),Same H H'→H' p=some (.tup [.str "done",x,.ref l,.int (st.k:Int)])→Ended b1 b2 b3 t F ws st W tt→Den H' tt x→H' l=some (.lst us)→Al (SrAt H') (srcs (W.map Prod.snd) st.R) us→Q (.ref p) H'))
def joq (K:PySem.W.Frag) (a_NoStamp a_Opening a_FreshWords:Addr) (E:XK):TS:=(tRet (tTup (jq3 (tC (.str "more")) tNil)))
def jop (K:PySem.W.Frag) (a_NoStamp a_Opening a_FreshWords:Addr) (E:XK):TS:=(tIfS (jx0 (tOp rGtI (tFld K (tVar 3) "many") (tVar 2))) (joq K a_NoStamp a_Opening a_FreshWords E) jxt)
def joo (K:PySem.W.Frag) (a_NoStamp a_Opening a_FreshWords:Addr) (E:XK):TS:=(jxn (tBM K "list" jxa (tVar 5) (jq3 (jx7 spWo [] E0 (jq3 (tVar 6) (jq3 (tVar 5) tNil))) tNil)))
def t_ex (K:PySem.W.Frag) (a_NoStamp a_Opening a_FreshWords:Addr) (E:XK):TS:=(tSeq (jxn (jx7 (jed a_NoStamp) [] E (jq3 (tVar 0) (jq3 (tVar 1) tNil)))) (tSeq (tAsg (jlw a_Opening (spOi a_Opening a_FreshWords) [] E0 (jq3 (tVar 0) (jq3 (tVar 1) (jq3 (tVar 2) tNil)))) (jqk 3)) (tSeq (tAsg (jkz a_Opening "rows_of" (jva a_Opening a_FreshWords) [] E0 (tVar 3) (jq3 (tTup (jq3 (tVar 1) (jq3 (tC (.str "")) (jq3 (tTup tNil) (jq3 jku tNil))))) tNil)) (jqk 4)) (tSeq (jop K a_NoStamp a_Opening a_FreshWords E) (tSeq (tAsg (tLst tNil) (jqk 5)) (tSeq (tFor (jkr K (tFld K (tVar 3) "ready")) (jqk 6) (joo K a_NoStamp a_Opening a_FreshWords E)) (tSeq (tAsg (jx7 spWo [] E0 (jq3 (tVar 4) (jq3 (tVar 5) tNil))) (jqk 7)) (tRet (tTup (jq3 (tC (.str "done")) (jq3 (tOp (rIxT K) (tVar 7) (tC (.int 0))) (jq3 (tOp (rIxT K) (tVar 7) (tC (.int 1))) (jq3 (tFld K (tVar 3) "many") tNil)))))))))))))
theorem rd_ex (ro:RO K C) (h:jaf Nst C D vs H Q E):t_ex K Nst C D E (fin Q) (start ["book","piece","fuel","opening","rows","written","earlier","left"] vs) H:=by
 obtain ⟨b,v1,v2,v3,u,g1,g2,g3,g,F,rfl,hb,B,dg,hsz,kE,kQ⟩:=h
 refine ⟨_,rfl,_,rfl,b,v1,v2,v3,g1,g2,g3,g,u,rfl,hb,B,dg,hsz,fun H1 s1 fit=>?_,kE⟩
 obtain ⟨t,b1,b2,b3,rfl,rfl,rfl,rfl,ask,kM,kD⟩:=kQ fit
 have hz:∀ y∈[t,b1,b2,b3],y.size≤900∧y.names.length < 64:=fun y hy=>by
  simp only [List.mem_cons,List.not_mem_nil,or_false] at hy
  rcases hy with rfl|rfl|rfl|rfl
  ·exact ask.bt.2.2.2
  ·exact ask.bk.a.2.2.2
  ·exact ask.bk.b.2.2.2
  ·exact ask.bk.c.2.2.2
 refine ⟨_,rfl,_,rfl,_,rfl,?_⟩
 intro op dx hop hdx ndx
 have s2:Same H1 (upd (upd H1 dx (.own op)) op (.ins C dx [])):=fun c o z=>by rw [jqb (jq9 z hop),jqb (jq9 z hdx)];exact z
 have p2:(upd (upd H1 dx (.own op)) op (.ins C dx [])) op=some (.ins C dx []):=jq1
 generalize upd (upd H1 dx (.own op)) op (.ins C dx [])=H2 at s2 p2 ⊢
 have s12:=s1.trans s2
 have BT2:BkT H2 v1 v2 v3 b1 b2 b3:=⟨B.a.mono s12,B.b.mono s12,B.c.mono s12⟩
 have du:Den H2 t u:=(jzm dg).mono (jqa s12)
 have nopH:H op=none:=s1.free hop
 refine ⟨op,dx,b,v1,v2,v3,u,b1,b2,b3,t,F,rfl,p2,s12 _ _ hb,BT2,du,hz,fun A ws H3 eop O3 nlp ntk nyl hws hwl e3=>⟨rfl,?_⟩⟩
 have s13:Same H H3:=fun c o z=>e3 _ _ (fun q=>by rw [List.mem_singleton] at q;subst q;rw [nopH] at z;cases z) (s12 _ _ z)
 have du3:Den H3 t u:=(jzm dg).mono (jqa s13)
 refine ⟨_,rfl,A.op,A.dx,_,by rw [eop],O3.ob,jwt,_,rfl,szl,fun te hte=>?_⟩
 have s4:=jq2 (o:=.tup []) hte
 have g4:(upd H3 te (.tup [])) te=some (.tup []):=jq1
 generalize upd H3 te (.tup [])=H4 at s4 g4 ⊢
 intro nd hnd
 have s5:=jq2 (o:=.dK []) hnd
 have g5:(upd H4 nd (.dK [])) nd=some (.dK []):=jq1
 generalize upd H4 nd (.dK [])=H5 at s5 g5 ⊢
 refine ⟨szl,fun sp hsp=>?_⟩
 have s6:=jq2 (o:=.tup [u,.str "",.ref te,.ref nd]) hsp
 have g6:(upd H5 sp (.tup [u,.str "",.ref te,.ref nd])) sp=some (.tup [u,.str "",.ref te,.ref nd]):=jq1
 generalize upd H5 sp (.tup [u,.str "",.ref te,.ref nd])=H6 at s6 g6 ⊢
 have s36:=s4.trans (s5.trans s6)
 have O6:=O3.same s36
 have ndt:nd≠A.tk:=by
  obtain ⟨n,f,_⟩:=O3.fw
  exact (jq9 (s4 _ _ f.dk) hnd).symm
 have spm:SpAt (Nk A.tk) H6 ⟨t,"",[],.nil⟩ (.ref sp):=⟨sp,u,te,nd,[],rfl,g6,du3.mono (jqa s36),s6 _ _ (s5 _ _ g4),ndt,s6 _ _ g5,rfl⟩
 have no6:NOk A (fun a=>a≠A.yl) H6:=⟨fun a z=>z,fun a z=>by
  obtain ⟨us,y,_⟩:=O6.yl
  exact (jq9 y z).symm⟩
 refine ⟨A,b1,b2,b3,F,_,ws,t,.ref sp,by rw [eop];rfl,O6,no6,spm,ask.bk,ask.bt,fun st r k=>ask.sm ws hwl st r k,ask.fl,fun st rl rus H7 rch hst nrl hrl dr O7 e7=>?_⟩
 have s17:Same H H7:=fun c o z=>e7 _ _ (fun q=>by
  simp only [List.mem_cons,List.not_mem_nil,or_false] at q
  have z2:=s12 _ _ z
  rcases q with rfl|rfl|rfl|rfl
  ·rw [eop,nopH] at z;cases z
  ·rw [nlp] at z2;cases z2
  ·rw [ntk] at z2;cases z2
  ·rw [nyl] at z2;cases z2) ((s13.trans s36) _ _ z)
 have ob7:=O7.ob
 rw [eop] at ob7
 refine ⟨_,rfl,op,C,A.dx,_,_,rfl,ob7,ro.cl,ro.nM,jkn,_,rfl,_,_,rfl,rfl,_,rfl,?_⟩
 by_cases hk:F < st.k
 ·refine iteY (decide_eq_true (by omega)) ?_
  refine ⟨szl,fun p hp=>?_⟩
  have s8:=jq2 (o:=.tup [.str "more"]) hp
  exact kM p ws st _ (s17.trans s8) jq1 hws rch hk
 ·refine iteN (decide_eq_false (by omega)) ?_
  have hk':st.k≤F:=by omega
  have hS:=hst hk'
  have I:=jvf ask.bk rch (jzz (ws:=ws) ask.bt)
  have SM:=ask.sm ws hwl st rch hk'
  have rdok:=I.rk hk'
  have bdR:Bd st.R 1:=by
   have:=I.pn
   rw [hS] at this
   have:=jmd this .nil
   rwa [List.append_nil] at this
  have hwl0:=hwl
  refine ⟨szl,fun wl hwl=>?_⟩
  have s8:=jq2 (o:=.lst []) hwl
  have w8:(upd H7 wl (.lst [])) wl=some (.lst []):=jq1
  generalize upd H7 wl (.lst [])=H8 at s8 w8 ⊢
  obtain ⟨us,y7,dus⟩:=O7.yl
  have hul:=dus.length
  have hdl:=I.dl
  have hfl:=ask.fl
  refine ⟨_,rfl,op,C,A.dx,_,_,rfl,s8 _ _ ob7,ro.cl,ro.nR,jws,A.yl,rfl,⟨_,SqL.of (s8 _ _ y7)⟩,?_⟩
  refine jzc (K:=K) (a:=A.yl) (xs:=us) (fun i σ H'=>∃ (j6:Option V) (W:List (T×List Src)) (wus:List V),σ=[some (.ref b),some u,some (.int (F:Int)),some (.ref op),some (.ref rl),some (.ref wl),j6,none]∧Same H7 H'∧H' wl=some (.lst wus)∧Al (WrAt (fun l=>l≠wl) H') W wus∧Writ (st.rd.take i) W)
   ⟨none,[],[],rfl,s8,w8,.nil,.nil⟩ (fun i σ H' _ hP=>?_) ?_ ?_
  ·obtain ⟨_,_,_,_,s,_⟩:=hP
   exact SqL.of (s _ _ y7)
  ·rintro i y σ H9 hi ⟨j6,W,wus,rfl,s9,w9,dw9,wr9⟩
   obtain ⟨R,hR,l,rvs,rfl,_,hl,drl⟩:=dus.get hi
   have hil:i < st.rd.length:=(List.getElem?_eq_some_iff.mp hR).1
   have htk:st.rd.take (i+1)=st.rd.take i++[R]:=by rw [List.take_add_one,hR];rfl
   have rk2:RdOk (st.rd.take i++[R]):=by
    rw [← htk]
    intro j R' e
    have hj:j < i+1:=by
     have:=(List.getElem?_eq_some_iff.mp e).1
     rw [List.length_take] at this;omega
    rw [List.getElem?_take_of_lt hj] at e
    rw [List.take_take,Nat.min_eq_left (by omega)]
    exact rdok j R' e
   obtain ⟨rk1,bdr,okr⟩:=rk2.front
   have fine:=jv7 wr9 rk1
   have hwt:=SM.rd R (List.mem_of_getElem? hR)
   have hWl:=fine.len
   rw [List.length_take] at hWl
   have hwul:=dw9.length
   refine ⟨_,rfl,.inl ⟨rfl,_,SqL.of w9⟩,_,rfl,_,rfl,_,l,wl,R,rvs,W,wus,rfl,s9 _ _ hl,drl.mono fun _ _=>RwAt.mono (jqa s9),w9,dw9,bdr,fun r h=>Rw.ok_mono (fun n z q=>(fine.rf n z q).1) (okr r h),by omega,fun v tt H10 s10 hb10 wat=>?_⟩
   have w10:=s10 _ _ w9
   refine ⟨wl,_,_,rfl,rfl,w10,by rw [sizeLine_eq];omega,?_⟩
   have wat2:WrAt (fun l=>l≠wl) H10 (tt,srcs (W.map Prod.snd) R) v:=wat.weak fun l z=>(jq9 w9 z).symm
   refine ⟨_,W++[(tt,srcs (W.map Prod.snd) R)],wus++[v],rfl,jqr (s9.trans s10) hwl,jq1,((dw9.mono fun _ _=>WrAt.mono s10).mono fun _ _=>WrAt.put w10).append (.one (wat2.put w10)),?_⟩
   rw [htk]
   exact .snoc wr9 hb10
  ·rintro σ H9 ⟨j6,W,wus,rfl,s9,w9,dw9,wr9⟩
   rw [hul,List.take_length] at wr9
   have fine:=jv7 wr9 rdok
   have hwt:=SM.wt
   refine ⟨_,rfl,_,rfl,_,rl,wl,st.R,rus,W,wus,rfl,s9 _ _ hrl,dr.mono fun _ _=>RwAt.mono (jqa s9),w9,dw9,bdR,fun r h=>Rw.ok_mono (fun n z q=>(fine.rf n z q).1) (I.ro r h),by omega,fun v tt H10 s10 hb10 wat=>?_⟩
   obtain ⟨pq,x,l,us2,rfl,h1,h2,h3,h4,_⟩:=wat
   have ob10:=s10 _ _ (s9 _ _ ob7)
   refine ⟨_,rfl,pq,_,_,_,rfl,rfl,SqT.of h1,jqd (j:=0) rfl,_,rfl,pq,_,_,_,rfl,rfl,SqT.of h1,jqd (j:=1) rfl,_,rfl,op,C,A.dx,_,_,rfl,ob10,ro.cl,ro.nM,jkn,szl,fun p hp=>?_⟩
   have s11:=jq2 (o:=.tup [.str "done",x,.ref l,.int (st.k:Int)]) hp
   exact kD p l x us2 ws st W tt _ (((s17.trans s9).trans s10).trans s11) jq1 ⟨hws,hwl0,rch,hS,hk',wr9,hb10⟩ (h2.mono (jqa s11)) (s11 _ _ h3) (h4.mono fun _ _=>SrAt.mono (jqa s11))
end S9
namespace SW
open PySem L2
def S0:Str→Nat→Prop:=fun _ _=>False
def jjn:Sp:=fun vs H Q _=>∃ n:Int,vs=[.int n]∧Q (.bl true) H
end SW
namespace S1
open PySem L2 SW
def t_wh (K:PySem.W.Frag):TS:=(tRet (je3 (tCB (cIsi K) (jq3 (tVar 0) (jq3 (tC (.ty "int")) tNil))) (jph (tCB (cIsi K) (jq3 (tVar 0) (jq3 (tC (.ty "bool")) tNil))))))
end S1
namespace L2
open PySem PySem.Spec PyProof.Rows
theorem Fun.okx {P:Program} {w:World} {K:PySem.W.Frag} {mg:Str→Option Value} {base:Heap} {x qual:Str} {st:Stmt} {f:Addr} {fd:FuncData} {N ps:List Str} {k:Nat} {sp:Sp} (F:Fun K x qual st f fd) (S:FnScope N ps (jq8 st)) (len:∀ vs H Q E,sp vs H Q E→vs.length=ps.length)
  (hbody:∀ (cdv:Value) (A:Around) (outer:List Env) (s:Shared) (H:Hp) (vs:List V) (Q:VK) (E:XK),Room k (A.deeper (envOfC qual (jq8 st) s.heap.objs.size f cdv))→sp vs H Q E→
   ∃ t,PSs (cxOf (CXx P w) P w K mg base N qual (jq8 st) f cdv A outer s H E) (jqn st) t∧t { nx:=fun _ H'=>Q .non H',rt:=Q} (start N vs) H):FnOk P w K mg base (CXx P w) (k+1) f fd ps sp:=by
 obtain ⟨oc,od,kV,doc,pm,an,cdv,ct,osl,rfl,lk,hcd⟩:=F.ex
 exact jrv lk hcd S len fun A outer s H vs Q E hr hsp=>hbody cdv A outer s H vs Q E hr hsp
theorem ja2:bootBuiltins "ValueError"=some (.type "ValueError"):=by decide+kernel
end L2
namespace S1
open PySem L2 SW
def spLaw (K:PySem.W.Frag):Sp:=fun vs H Q _=>∃ (a:Addr) (ns:List Int),vs=[.ref a]∧SqL K H a (ns.map V.int)∧ns.length≤63∧∀ H',Q (.bl true) H'
structure ClsOk (K:PySem.W.Frag) (n st pc se:Addr):Prop where
 e1:PySem.W.exmOne K (.ref n) (.ref n)=some true
 e2:PySem.W.exmOne K (.ref n) (.ref se)=some true
 k1:PySem.W.kitOne K (.ref n) (.ref n)=some true
 k2:PySem.W.kitOne K (.ref n) (.ref st)=some false
 k3:PySem.W.kitOne K (.ref n) (.ref pc)=some false
 k4:PySem.W.kitOne K (.ref n) (.type "ValueError")=some true
end S1
namespace S1
open PySem L2 SW
variable {K:PySem.W.Frag} {N:Addr} {vs:List V} {H:Hp} {Q:VK} {E:XK}
end S1
namespace SW
open PySem L2
end SW
namespace S1
open PySem L2 SW
variable {K:PySem.W.Frag} {N:Addr} {vs:List V} {H:Hp} {Q:VK} {E:XK}
end S1
namespace SW
open PySem L2
end SW
namespace S1
open PySem L2 SW
variable {K:PySem.W.Frag} {N:Addr} {vs:List V} {H:Hp} {Q:VK} {E:XK}
end S1
namespace SW
open PySem L2
variable {K:PySem.W.Frag}
theorem jd1:PySem.W.kitOne K (.type "int") (.type "int")=some true:=by kernel_rfl
theorem jbf:PySem.W.kitOne K (.type "int") (.type "bool")=some false:=by kernel_rfl
theorem jx3:PySem.W.kitOne K (.type "str") (.type "str")=some true:=by kernel_rfl
theorem jap:PySem.W.kitOne K (.type "list") (.type "list")=some true:=by kernel_rfl
theorem jro:PySem.W.kitAny K (.type "str") [.type "list",.type "tuple"]=some false:=by kernel_rfl
end SW
namespace S1
open PySem L2 SW
variable {K:PySem.W.Frag} {N:Addr} {vs:List V} {H:Hp} {Q:VK} {E:XK}
theorem rd_wh (h:jjn vs H Q E):t_wh K (fin Q) (start ["_law_found"] vs) H:=by
 obtain ⟨n,rfl,k⟩:=h
 refine ⟨_,rfl,_,_,_,_,rfl,.int n,jd1,_,rfl,iteT ?_⟩
 exact ⟨_,rfl,_,_,_,_,rfl,.int n,jbf,_,rfl,k⟩
end S1
namespace SW
open PySem L2
end SW
namespace S1
open PySem L2 SW
variable {K:PySem.W.Frag} {N:Addr} {vs:List V} {H:Hp} {Q:VK} {E:XK}
end S1
namespace SW
open PySem L2
end SW
namespace S1
open PySem L2 SW
variable {K:PySem.W.Frag} {N:Addr} {vs:List V} {H:Hp} {Q:VK} {E:XK}
end S1
namespace SW
open PySem L2
section
variable {H₀ H:Hp} {st nu q:Addr} {fs:List Fr} {us:List V} {ns ns':List Int} {o:HO} {f:Fr} {v z:V}
end
end SW
namespace S1
open PySem L2 SW
variable {K:PySem.W.Frag} {N:Addr} {vs:List V} {H H₀:Hp} {Q:VK} {E:XK}
end S1
namespace S1
open PySem L2 SW
variable {K:PySem.W.Frag} {N:Addr} {vs:List V} {H H₀:Hp} {Q:VK} {E:XK}
end S1
namespace SW
open PySem L2
end SW
namespace S1
open PySem L2 SW
variable {K:PySem.W.Frag} {N:Addr} {vs:List V} {H:Hp} {Q:VK} {E:XK}
end S1
namespace SW
open PySem L2
theorem jqw {K:PySem.W.Frag}:PySem.W.kitOne K (.type "tuple") (.type "tuple")=some true:=by kernel_rfl
def jqv:List (Key×V):=[(.inr "number",.int 2),(.inr "name",.int 2),(.inr "sum",.int 3),(.inr "less",.int 3),(.inr "choose",.int 4),(.inr "let",.int 4)]
def jjo:Sp:=fun vs H Q _=>∃ (t:T) (v:V),vs=[v]∧Den H t v∧t.size≤5000000∧∀ H',Same H H'→Q (.bl true) H'
end SW
namespace S10
open PySem L2 SW
def joj (K:PySem.W.Frag):TS:=(tRet (tC (.bl false)))
def jhu (K:PySem.W.Frag):TS:=(tIfS (tOr (tNot (tB (tCB (cIsi K) (jq3 (tVar 2) (jq3 (tC (.ty "tuple")) tNil))))) (tOr (jx0 (tOp rLtI (tCB (cLen K) (jq3 (tVar 2) tNil)) (tC (.int 2)))) (tNot (tB (tCB (cIsi K) (jq3 (tOp (rIxT K) (tVar 2) (tC (.int 0))) (jq3 (tC (.ty "str")) tNil))))))) (joj K) jxt)
def joi (K:PySem.W.Frag):TS:=(tRet (tC (.bl false)))
def jht (K:PySem.W.Frag):TS:=(tIfS (tAnd (jx0 (tOp rNe (je2 (tVar 3) (tOp (rIxT K) (tVar 2) (tC (.int 0))) (tC (.int 0))) (tCB (cLen K) (jq3 (tVar 2) tNil)))) (jx0 (tOp rNe (tOp (rIxT K) (tVar 2) (tC (.int 0))) (tC (.str "stamp"))))) (joi K) jxt)
def joh (K:PySem.W.Frag):TS:=(tRet (tC (.bl false)))
def jog (K:PySem.W.Frag):TS:=(tIfS (tNot (tB (jx7 jjn [] E0 (jq3 (tOp (rIxT K) (tVar 2) (tC (.int 1))) tNil)))) (joh K) jxt)
def jof (K:PySem.W.Frag):TS:=(tRet (tC (.bl false)))
def joe (K:PySem.W.Frag):TS:=(tIfS (tAnd (jx0 (tOp (rIn K false) (tOp (rIxT K) (tVar 2) (tC (.int 0))) (tLst (jq3 (tC (.str "name")) (jq3 (tC (.str "let")) (jq3 (tC (.str "stamp")) tNil)))))) (tNot (tB (tCB (cIsi K) (jq3 (tOp (rIxT K) (tVar 2) (tC (.int 1))) (jq3 (tC (.ty "str")) tNil)))))) (jof K) jxt)
def jhs (K:PySem.W.Frag):TS:=(tIfS (jx0 (tOp rEq (tOp (rIxT K) (tVar 2) (tC (.int 0))) (tC (.str "number")))) (jog K) (joe K))
def jlj (K:PySem.W.Frag):TS:=(tSeq (tAsg (tBM0 K "list" rPop (tVar 1)) (jqk 2)) (tSeq (jhu K) (tSeq (tAsg (jlx [((tC (.str "number")),(tC (.int 2))),((tC (.str "name")),(tC (.int 2))),((tC (.str "sum")),(tC (.int 3))),((tC (.str "less")),(tC (.int 3))),((tC (.str "choose")),(tC (.int 4))),((tC (.str "let")),(tC (.int 4)))]) (jqk 3)) (tSeq (jht K) (tSeq (jhs K) (tAsg (tOp rCat (tVar 1) (jx7 jjd [] E0 (jq3 (tVar 2) tNil))) (jqk 1)))))))
def t_ip (K:PySem.W.Frag):TS:=(tSeq (tAsg (tLst (jq3 (tVar 0) tNil)) (jqk 1)) (tSeq (jji (jx0 (tOp (jbz K) (tVar 1) (tLst tNil))) (jlj K)) (tRet (tC (.bl true)))))
variable {K:PySem.W.Frag} {vs:List V} {H:Hp} {Q:VK} {E:XK}
theorem jct {t:T} {v v0:V} {tl:Addr} {D:Ends} {j3:Option V} (hd:Den H t v)
  (k:∀ H',Same H H'→∀ j3,(tAsg (tOp rCat (tVar 1) (jx7 jjd [] E0 (jq3 (tVar 2) tNil))) (jqk 1)) D [some v0,some (.ref tl),some v,j3] H') :
  (tSeq (jhu K) (tSeq (tAsg (jlx [((tC (.str "number")),(tC (.int 2))),((tC (.str "name")),(tC (.int 2))),((tC (.str "sum")),(tC (.int 3))),((tC (.str "less")),(tC (.int 3))),((tC (.str "choose")),(tC (.int 4))),((tC (.str "let")),(tC (.int 4)))]) (jqk 3)) (tSeq (jht K) (tSeq (jhs K) (tAsg (tOp rCat (tVar 1) (jx7 jjd [] E0 (jq3 (tVar 2) tNil))) (jqk 1)))))) D [some v0,some (.ref tl),some v,j3] H:=by
 cases t with
 | num n=>
  obtain ⟨p,rfl,hp⟩:=id hd
  refine ⟨_,rfl,_,_,_,_,rfl,.tup hp,jqw,_,rfl,iteF ?_⟩
  refine ⟨_,rfl,p,_,rfl,.inr (SqT.of hp),_,_,rfl,rfl,_,rfl,iteN rfl ?_⟩
  refine ⟨_,rfl,p,_,_,_,rfl,rfl,SqT.of hp,rfl,_,_,_,_,rfl,.str _,jx3,_,rfl,iteF ?_⟩
  refine fun pd hpd=>⟨jq1,jqv,rfl,by decide,?_⟩
  have s1:Same H (upd (upd H pd (.dK [])) pd (.dK (jqy [] jqv))):=jqr (jq2 hpd) hpd
  have g1:(upd (upd H pd (.dK [])) pd (.dK (jqy [] jqv))) pd=some (.dK (jqy [] jqv)):=jq1
  generalize upd (upd H pd (.dK [])) pd (.dK (jqy [] jqv))=H1 at s1 g1 ⊢
  have hp1:=s1 _ _ hp
  have dg:=DGet.k (k:=.inr ("number":Str)) g1
  rw [show valV (jqy [] jqv) (.inr ("number":Str):Key)=some (.int 2) from by decide+kernel] at dg
  refine ⟨_,rfl,pd,rfl,.inl ⟨_,.inl g1⟩,_,rfl,p,_,_,_,rfl,rfl,SqT.of hp1,rfl,_,dg,_,rfl,p,_,rfl,.inr (SqT.of hp1),rfl,_,rfl,?_⟩
  refine iteN rfl (iteF ?_)
  refine ⟨_,rfl,p,_,_,_,rfl,rfl,SqT.of hp1,rfl,rfl,_,rfl,?_⟩
  refine iteY (by decide+kernel) ?_
  refine ⟨_,rfl,p,_,_,_,rfl,rfl,SqT.of hp1,rfl,n,rfl,_,rfl,iteF ?_⟩
  exact k H1 s1 _
 | name x=>
  obtain ⟨p,rfl,hp⟩:=id hd
  refine ⟨_,rfl,_,_,_,_,rfl,.tup hp,jqw,_,rfl,iteF ?_⟩
  refine ⟨_,rfl,p,_,rfl,.inr (SqT.of hp),_,_,rfl,rfl,_,rfl,iteN rfl ?_⟩
  refine ⟨_,rfl,p,_,_,_,rfl,rfl,SqT.of hp,rfl,_,_,_,_,rfl,.str _,jx3,_,rfl,iteF ?_⟩
  refine fun pd hpd=>⟨jq1,jqv,rfl,by decide,?_⟩
  have s1:Same H (upd (upd H pd (.dK [])) pd (.dK (jqy [] jqv))):=jqr (jq2 hpd) hpd
  have g1:(upd (upd H pd (.dK [])) pd (.dK (jqy [] jqv))) pd=some (.dK (jqy [] jqv)):=jq1
  generalize upd (upd H pd (.dK [])) pd (.dK (jqy [] jqv))=H1 at s1 g1 ⊢
  have hp1:=s1 _ _ hp
  have dg:=DGet.k (k:=.inr ("name":Str)) g1
  rw [show valV (jqy [] jqv) (.inr ("name":Str):Key)=some (.int 2) from by decide+kernel] at dg
  refine ⟨_,rfl,pd,rfl,.inl ⟨_,.inl g1⟩,_,rfl,p,_,_,_,rfl,rfl,SqT.of hp1,rfl,_,dg,_,rfl,p,_,rfl,.inr (SqT.of hp1),rfl,_,rfl,?_⟩
  refine iteN rfl (iteF ?_)
  refine ⟨_,rfl,p,_,_,_,rfl,rfl,SqT.of hp1,rfl,rfl,_,rfl,?_⟩
  refine iteN (by decide+kernel) ?_
  refine ⟨_,rfl,p,_,_,_,rfl,rfl,SqT.of hp1,rfl,szl,fun l hl=>?_⟩
  have s2:=jq2 (o:=.lst [.str "name",.str "let",.str "stamp"]) hl
  have g2:(upd H1 l (.lst [.str "name",.str "let",.str "stamp"])) l=some (.lst [.str "name",.str "let",.str "stamp"]):=jq1
  generalize upd H1 l (.lst [.str "name",.str "let",.str "stamp"])=H2 at s2 g2 ⊢
  refine ⟨l,_,rfl,.inl (SqL.of g2),rfl,rfl,_,rfl,?_⟩
  refine iteY (by decide+kernel) ?_
  refine ⟨_,rfl,p,_,_,_,rfl,rfl,SqT.of (s2 _ _ hp1),rfl,_,_,_,_,rfl,.str _,jx3,_,rfl,iteF ?_⟩
  exact k H2 (s1.trans s2) _
 | sum a b=>
  obtain ⟨p,x,y,rfl,hp,d1,d2⟩:=id hd
  refine ⟨_,rfl,_,_,_,_,rfl,.tup hp,jqw,_,rfl,iteF ?_⟩
  refine ⟨_,rfl,p,_,rfl,.inr (SqT.of hp),_,_,rfl,rfl,_,rfl,iteN rfl ?_⟩
  refine ⟨_,rfl,p,_,_,_,rfl,rfl,SqT.of hp,rfl,_,_,_,_,rfl,.str _,jx3,_,rfl,iteF ?_⟩
  refine fun pd hpd=>⟨jq1,jqv,rfl,by decide,?_⟩
  have s1:Same H (upd (upd H pd (.dK [])) pd (.dK (jqy [] jqv))):=jqr (jq2 hpd) hpd
  have g1:(upd (upd H pd (.dK [])) pd (.dK (jqy [] jqv))) pd=some (.dK (jqy [] jqv)):=jq1
  generalize upd (upd H pd (.dK [])) pd (.dK (jqy [] jqv))=H1 at s1 g1 ⊢
  have hp1:=s1 _ _ hp
  have dg:=DGet.k (k:=.inr ("sum":Str)) g1
  rw [show valV (jqy [] jqv) (.inr ("sum":Str):Key)=some (.int 3) from by decide+kernel] at dg
  refine ⟨_,rfl,pd,rfl,.inl ⟨_,.inl g1⟩,_,rfl,p,_,_,_,rfl,rfl,SqT.of hp1,rfl,_,dg,_,rfl,p,_,rfl,.inr (SqT.of hp1),rfl,_,rfl,?_⟩
  refine iteN rfl (iteF ?_)
  refine ⟨_,rfl,p,_,_,_,rfl,rfl,SqT.of hp1,rfl,rfl,_,rfl,?_⟩
  refine iteN (by decide+kernel) ?_
  refine ⟨_,rfl,p,_,_,_,rfl,rfl,SqT.of hp1,rfl,szl,fun l hl=>?_⟩
  have s2:=jq2 (o:=.lst [.str "name",.str "let",.str "stamp"]) hl
  have g2:(upd H1 l (.lst [.str "name",.str "let",.str "stamp"])) l=some (.lst [.str "name",.str "let",.str "stamp"]):=jq1
  generalize upd H1 l (.lst [.str "name",.str "let",.str "stamp"])=H2 at s2 g2 ⊢
  refine ⟨l,_,rfl,.inl (SqL.of g2),rfl,rfl,_,rfl,?_⟩
  refine iteN (by decide+kernel) (iteF ?_)
  exact k H2 (s1.trans s2) _
 | less a b=>
  obtain ⟨p,x,y,rfl,hp,d1,d2⟩:=id hd
  refine ⟨_,rfl,_,_,_,_,rfl,.tup hp,jqw,_,rfl,iteF ?_⟩
  refine ⟨_,rfl,p,_,rfl,.inr (SqT.of hp),_,_,rfl,rfl,_,rfl,iteN rfl ?_⟩
  refine ⟨_,rfl,p,_,_,_,rfl,rfl,SqT.of hp,rfl,_,_,_,_,rfl,.str _,jx3,_,rfl,iteF ?_⟩
  refine fun pd hpd=>⟨jq1,jqv,rfl,by decide,?_⟩
  have s1:Same H (upd (upd H pd (.dK [])) pd (.dK (jqy [] jqv))):=jqr (jq2 hpd) hpd
  have g1:(upd (upd H pd (.dK [])) pd (.dK (jqy [] jqv))) pd=some (.dK (jqy [] jqv)):=jq1
  generalize upd (upd H pd (.dK [])) pd (.dK (jqy [] jqv))=H1 at s1 g1 ⊢
  have hp1:=s1 _ _ hp
  have dg:=DGet.k (k:=.inr ("less":Str)) g1
  rw [show valV (jqy [] jqv) (.inr ("less":Str):Key)=some (.int 3) from by decide+kernel] at dg
  refine ⟨_,rfl,pd,rfl,.inl ⟨_,.inl g1⟩,_,rfl,p,_,_,_,rfl,rfl,SqT.of hp1,rfl,_,dg,_,rfl,p,_,rfl,.inr (SqT.of hp1),rfl,_,rfl,?_⟩
  refine iteN rfl (iteF ?_)
  refine ⟨_,rfl,p,_,_,_,rfl,rfl,SqT.of hp1,rfl,rfl,_,rfl,?_⟩
  refine iteN (by decide+kernel) ?_
  refine ⟨_,rfl,p,_,_,_,rfl,rfl,SqT.of hp1,rfl,szl,fun l hl=>?_⟩
  have s2:=jq2 (o:=.lst [.str "name",.str "let",.str "stamp"]) hl
  have g2:(upd H1 l (.lst [.str "name",.str "let",.str "stamp"])) l=some (.lst [.str "name",.str "let",.str "stamp"]):=jq1
  generalize upd H1 l (.lst [.str "name",.str "let",.str "stamp"])=H2 at s2 g2 ⊢
  refine ⟨l,_,rfl,.inl (SqL.of g2),rfl,rfl,_,rfl,?_⟩
  refine iteN (by decide+kernel) (iteF ?_)
  exact k H2 (s1.trans s2) _
 | cho a b c=>
  obtain ⟨p,x,y,z,rfl,hp,d1,d2,d3⟩:=id hd
  refine ⟨_,rfl,_,_,_,_,rfl,.tup hp,jqw,_,rfl,iteF ?_⟩
  refine ⟨_,rfl,p,_,rfl,.inr (SqT.of hp),_,_,rfl,rfl,_,rfl,iteN rfl ?_⟩
  refine ⟨_,rfl,p,_,_,_,rfl,rfl,SqT.of hp,rfl,_,_,_,_,rfl,.str _,jx3,_,rfl,iteF ?_⟩
  refine fun pd hpd=>⟨jq1,jqv,rfl,by decide,?_⟩
  have s1:Same H (upd (upd H pd (.dK [])) pd (.dK (jqy [] jqv))):=jqr (jq2 hpd) hpd
  have g1:(upd (upd H pd (.dK [])) pd (.dK (jqy [] jqv))) pd=some (.dK (jqy [] jqv)):=jq1
  generalize upd (upd H pd (.dK [])) pd (.dK (jqy [] jqv))=H1 at s1 g1 ⊢
  have hp1:=s1 _ _ hp
  have dg:=DGet.k (k:=.inr ("choose":Str)) g1
  rw [show valV (jqy [] jqv) (.inr ("choose":Str):Key)=some (.int 4) from by decide+kernel] at dg
  refine ⟨_,rfl,pd,rfl,.inl ⟨_,.inl g1⟩,_,rfl,p,_,_,_,rfl,rfl,SqT.of hp1,rfl,_,dg,_,rfl,p,_,rfl,.inr (SqT.of hp1),rfl,_,rfl,?_⟩
  refine iteN rfl (iteF ?_)
  refine ⟨_,rfl,p,_,_,_,rfl,rfl,SqT.of hp1,rfl,rfl,_,rfl,?_⟩
  refine iteN (by decide+kernel) ?_
  refine ⟨_,rfl,p,_,_,_,rfl,rfl,SqT.of hp1,rfl,szl,fun l hl=>?_⟩
  have s2:=jq2 (o:=.lst [.str "name",.str "let",.str "stamp"]) hl
  have g2:(upd H1 l (.lst [.str "name",.str "let",.str "stamp"])) l=some (.lst [.str "name",.str "let",.str "stamp"]):=jq1
  generalize upd H1 l (.lst [.str "name",.str "let",.str "stamp"])=H2 at s2 g2 ⊢
  refine ⟨l,_,rfl,.inl (SqL.of g2),rfl,rfl,_,rfl,?_⟩
  refine iteN (by decide+kernel) (iteF ?_)
  exact k H2 (s1.trans s2) _
 | lt w a b=>
  obtain ⟨p,x,y,rfl,hp,d1,d2⟩:=id hd
  refine ⟨_,rfl,_,_,_,_,rfl,.tup hp,jqw,_,rfl,iteF ?_⟩
  refine ⟨_,rfl,p,_,rfl,.inr (SqT.of hp),_,_,rfl,rfl,_,rfl,iteN rfl ?_⟩
  refine ⟨_,rfl,p,_,_,_,rfl,rfl,SqT.of hp,rfl,_,_,_,_,rfl,.str _,jx3,_,rfl,iteF ?_⟩
  refine fun pd hpd=>⟨jq1,jqv,rfl,by decide,?_⟩
  have s1:Same H (upd (upd H pd (.dK [])) pd (.dK (jqy [] jqv))):=jqr (jq2 hpd) hpd
  have g1:(upd (upd H pd (.dK [])) pd (.dK (jqy [] jqv))) pd=some (.dK (jqy [] jqv)):=jq1
  generalize upd (upd H pd (.dK [])) pd (.dK (jqy [] jqv))=H1 at s1 g1 ⊢
  have hp1:=s1 _ _ hp
  have dg:=DGet.k (k:=.inr ("let":Str)) g1
  rw [show valV (jqy [] jqv) (.inr ("let":Str):Key)=some (.int 4) from by decide+kernel] at dg
  refine ⟨_,rfl,pd,rfl,.inl ⟨_,.inl g1⟩,_,rfl,p,_,_,_,rfl,rfl,SqT.of hp1,rfl,_,dg,_,rfl,p,_,rfl,.inr (SqT.of hp1),rfl,_,rfl,?_⟩
  refine iteN rfl (iteF ?_)
  refine ⟨_,rfl,p,_,_,_,rfl,rfl,SqT.of hp1,rfl,rfl,_,rfl,?_⟩
  refine iteN (by decide+kernel) ?_
  refine ⟨_,rfl,p,_,_,_,rfl,rfl,SqT.of hp1,rfl,szl,fun l hl=>?_⟩
  have s2:=jq2 (o:=.lst [.str "name",.str "let",.str "stamp"]) hl
  have g2:(upd H1 l (.lst [.str "name",.str "let",.str "stamp"])) l=some (.lst [.str "name",.str "let",.str "stamp"]):=jq1
  generalize upd H1 l (.lst [.str "name",.str "let",.str "stamp"])=H2 at s2 g2 ⊢
  refine ⟨l,_,rfl,.inl (SqL.of g2),rfl,rfl,_,rfl,?_⟩
  refine iteY (by decide+kernel) ?_
  refine ⟨_,rfl,p,_,_,_,rfl,rfl,SqT.of (s2 _ _ hp1),rfl,_,_,_,_,rfl,.str _,jx3,_,rfl,iteF ?_⟩
  exact k H2 (s1.trans s2) _
 | st0 w=>
  obtain ⟨p,rfl,hp⟩:=id hd
  refine ⟨_,rfl,_,_,_,_,rfl,.tup hp,jqw,_,rfl,iteF ?_⟩
  refine ⟨_,rfl,p,_,rfl,.inr (SqT.of hp),_,_,rfl,rfl,_,rfl,iteN rfl ?_⟩
  refine ⟨_,rfl,p,_,_,_,rfl,rfl,SqT.of hp,rfl,_,_,_,_,rfl,.str _,jx3,_,rfl,iteF ?_⟩
  refine fun pd hpd=>⟨jq1,jqv,rfl,by decide,?_⟩
  have s1:Same H (upd (upd H pd (.dK [])) pd (.dK (jqy [] jqv))):=jqr (jq2 hpd) hpd
  have g1:(upd (upd H pd (.dK [])) pd (.dK (jqy [] jqv))) pd=some (.dK (jqy [] jqv)):=jq1
  generalize upd (upd H pd (.dK [])) pd (.dK (jqy [] jqv))=H1 at s1 g1 ⊢
  have hp1:=s1 _ _ hp
  have dg:=DGet.k (k:=.inr ("stamp":Str)) g1
  rw [show valV (jqy [] jqv) (.inr ("stamp":Str):Key)=none from by decide+kernel] at dg
  refine ⟨_,rfl,pd,rfl,.inl ⟨_,.inl g1⟩,_,rfl,p,_,_,_,rfl,rfl,SqT.of hp1,rfl,_,dg,_,rfl,p,_,rfl,.inr (SqT.of hp1),rfl,_,rfl,?_⟩
  refine iteY rfl ?_
  refine ⟨_,rfl,p,_,_,_,rfl,rfl,SqT.of hp1,rfl,rfl,_,rfl,iteN (by decide+kernel) ?_⟩
  refine ⟨_,rfl,p,_,_,_,rfl,rfl,SqT.of hp1,rfl,rfl,_,rfl,?_⟩
  refine iteN (by decide+kernel) ?_
  refine ⟨_,rfl,p,_,_,_,rfl,rfl,SqT.of hp1,rfl,szl,fun l hl=>?_⟩
  have s2:=jq2 (o:=.lst [.str "name",.str "let",.str "stamp"]) hl
  have g2:(upd H1 l (.lst [.str "name",.str "let",.str "stamp"])) l=some (.lst [.str "name",.str "let",.str "stamp"]):=jq1
  generalize upd H1 l (.lst [.str "name",.str "let",.str "stamp"])=H2 at s2 g2 ⊢
  refine ⟨l,_,rfl,.inl (SqL.of g2),rfl,rfl,_,rfl,?_⟩
  refine iteY (by decide+kernel) ?_
  refine ⟨_,rfl,p,_,_,_,rfl,rfl,SqT.of (s2 _ _ hp1),rfl,_,_,_,_,rfl,.str _,jx3,_,rfl,iteF ?_⟩
  exact k H2 (s1.trans s2) _
 | st1 w a=>
  obtain ⟨p,x,rfl,hp,d1⟩:=id hd
  refine ⟨_,rfl,_,_,_,_,rfl,.tup hp,jqw,_,rfl,iteF ?_⟩
  refine ⟨_,rfl,p,_,rfl,.inr (SqT.of hp),_,_,rfl,rfl,_,rfl,iteN rfl ?_⟩
  refine ⟨_,rfl,p,_,_,_,rfl,rfl,SqT.of hp,rfl,_,_,_,_,rfl,.str _,jx3,_,rfl,iteF ?_⟩
  refine fun pd hpd=>⟨jq1,jqv,rfl,by decide,?_⟩
  have s1:Same H (upd (upd H pd (.dK [])) pd (.dK (jqy [] jqv))):=jqr (jq2 hpd) hpd
  have g1:(upd (upd H pd (.dK [])) pd (.dK (jqy [] jqv))) pd=some (.dK (jqy [] jqv)):=jq1
  generalize upd (upd H pd (.dK [])) pd (.dK (jqy [] jqv))=H1 at s1 g1 ⊢
  have hp1:=s1 _ _ hp
  have dg:=DGet.k (k:=.inr ("stamp":Str)) g1
  rw [show valV (jqy [] jqv) (.inr ("stamp":Str):Key)=none from by decide+kernel] at dg
  refine ⟨_,rfl,pd,rfl,.inl ⟨_,.inl g1⟩,_,rfl,p,_,_,_,rfl,rfl,SqT.of hp1,rfl,_,dg,_,rfl,p,_,rfl,.inr (SqT.of hp1),rfl,_,rfl,?_⟩
  refine iteY rfl ?_
  refine ⟨_,rfl,p,_,_,_,rfl,rfl,SqT.of hp1,rfl,rfl,_,rfl,iteN (by decide+kernel) ?_⟩
  refine ⟨_,rfl,p,_,_,_,rfl,rfl,SqT.of hp1,rfl,rfl,_,rfl,?_⟩
  refine iteN (by decide+kernel) ?_
  refine ⟨_,rfl,p,_,_,_,rfl,rfl,SqT.of hp1,rfl,szl,fun l hl=>?_⟩
  have s2:=jq2 (o:=.lst [.str "name",.str "let",.str "stamp"]) hl
  have g2:(upd H1 l (.lst [.str "name",.str "let",.str "stamp"])) l=some (.lst [.str "name",.str "let",.str "stamp"]):=jq1
  generalize upd H1 l (.lst [.str "name",.str "let",.str "stamp"])=H2 at s2 g2 ⊢
  refine ⟨l,_,rfl,.inl (SqL.of g2),rfl,rfl,_,rfl,?_⟩
  refine iteY (by decide+kernel) ?_
  refine ⟨_,rfl,p,_,_,_,rfl,rfl,SqT.of (s2 _ _ hp1),rfl,_,_,_,_,rfl,.str _,jx3,_,rfl,iteF ?_⟩
  exact k H2 (s1.trans s2) _
 | st2 w a b=>
  obtain ⟨p,x,y,rfl,hp,d1,d2⟩:=id hd
  refine ⟨_,rfl,_,_,_,_,rfl,.tup hp,jqw,_,rfl,iteF ?_⟩
  refine ⟨_,rfl,p,_,rfl,.inr (SqT.of hp),_,_,rfl,rfl,_,rfl,iteN rfl ?_⟩
  refine ⟨_,rfl,p,_,_,_,rfl,rfl,SqT.of hp,rfl,_,_,_,_,rfl,.str _,jx3,_,rfl,iteF ?_⟩
  refine fun pd hpd=>⟨jq1,jqv,rfl,by decide,?_⟩
  have s1:Same H (upd (upd H pd (.dK [])) pd (.dK (jqy [] jqv))):=jqr (jq2 hpd) hpd
  have g1:(upd (upd H pd (.dK [])) pd (.dK (jqy [] jqv))) pd=some (.dK (jqy [] jqv)):=jq1
  generalize upd (upd H pd (.dK [])) pd (.dK (jqy [] jqv))=H1 at s1 g1 ⊢
  have hp1:=s1 _ _ hp
  have dg:=DGet.k (k:=.inr ("stamp":Str)) g1
  rw [show valV (jqy [] jqv) (.inr ("stamp":Str):Key)=none from by decide+kernel] at dg
  refine ⟨_,rfl,pd,rfl,.inl ⟨_,.inl g1⟩,_,rfl,p,_,_,_,rfl,rfl,SqT.of hp1,rfl,_,dg,_,rfl,p,_,rfl,.inr (SqT.of hp1),rfl,_,rfl,?_⟩
  refine iteY rfl ?_
  refine ⟨_,rfl,p,_,_,_,rfl,rfl,SqT.of hp1,rfl,rfl,_,rfl,iteN (by decide+kernel) ?_⟩
  refine ⟨_,rfl,p,_,_,_,rfl,rfl,SqT.of hp1,rfl,rfl,_,rfl,?_⟩
  refine iteN (by decide+kernel) ?_
  refine ⟨_,rfl,p,_,_,_,rfl,rfl,SqT.of hp1,rfl,szl,fun l hl=>?_⟩
  have s2:=jq2 (o:=.lst [.str "name",.str "let",.str "stamp"]) hl
  have g2:(upd H1 l (.lst [.str "name",.str "let",.str "stamp"])) l=some (.lst [.str "name",.str "let",.str "stamp"]):=jq1
  generalize upd H1 l (.lst [.str "name",.str "let",.str "stamp"])=H2 at s2 g2 ⊢
  refine ⟨l,_,rfl,.inl (SqL.of g2),rfl,rfl,_,rfl,?_⟩
  refine iteY (by decide+kernel) ?_
  refine ⟨_,rfl,p,_,_,_,rfl,rfl,SqT.of (s2 _ _ hp1),rfl,_,_,_,_,rfl,.str _,jx3,_,rfl,iteF ?_⟩
  exact k H2 (s1.trans s2) _
structure IpSt (H₀ H:Hp) (tl:Addr) (us:List V) (ts:List T):Prop where
 same:Same H₀ H
 new:H₀ tl=none
 at_:H tl=some (.lst us)
 den:DenL H ts us
 sz:jxc ts≤5000000
theorem rd_ip (h:jjo vs H Q E):t_ip K (fin Q) (start ["_law_found","_law_todo","_law_part","_law_sizes"] vs) H:=by
 obtain ⟨t,v,rfl,hd,hs,k⟩:=h
 refine ⟨_,rfl,szl,fun tl htl=>?_⟩
 have s1:=jq2 (o:=.lst [v]) htl
 have g1:(upd H tl (.lst [v])) tl=some (.lst [v]):=jq1
 generalize upd H tl (.lst [v])=H1 at s1 g1 ⊢
 refine ⟨fun m σ H'=>∃ tl us ts j2 j3,σ=[some v,some (.ref tl),j2,j3]∧IpSt H H' tl us ts∧m=jxc ts,⟨_,tl,[v],[t],none,none,rfl,⟨s1,htl,g1,.cons (hd.mono (jqa s1)) .nil,by rw [jz0,jj8];omega⟩,rfl⟩,?_⟩
 clear s1 g1 htl
 rintro m σ H2 ⟨tl,us,ts,j2,j3,rfl,A,rfl⟩
 refine ⟨_,rfl,szl,fun e he=>?_⟩
 have s3:=jq2 (o:=.lst []) he
 have g3:(upd H2 e (.lst [])) e=some (.lst []):=jq1
 have A3:IpSt H (upd H2 e (.lst [])) tl us ts:=⟨A.same.trans s3,A.new,s3 _ _ A.at_,A.den.mono (jqa s3),A.sz⟩
 generalize upd H2 e (.lst [])=H3 at g3 A3 ⊢
 refine ⟨tl,e,us,rfl,rfl,SqL.of A3.at_,SqL.of g3,_,rfl,?_⟩
 by_cases hv:us=[]
 ·subst hv
  exact iteN rfl (k _ A3.same)
 ·obtain ⟨us,u,rfl⟩:=jxw hv
  refine iteY (by simp) ?_
  obtain ⟨ts',t',rfl,d1,d2⟩:=A3.den.snoc
  refine ⟨fun σ' H'=>∃ m',m' < jxc (ts'++[t'])∧∃ tl us ts j2 j3,σ'=[some v,some (.ref tl),j2,j3]∧IpSt H H' tl us ts∧m'=jxc ts,fun _ _ h=>h,?_⟩
  refine ⟨_,rfl,.inl ⟨rfl,_,SqL.of A3.at_⟩,tl,_,_,rfl,rfl,A3.at_,jkw,?_⟩
  rw [jjt]
  have t4:=jxh (o:=.lst us) A3.at_
  have s4:Same H (upd H3 tl (.lst us)):=jqr A3.same A3.new
  have g4:(upd H3 tl (.lst us)) tl=some (.lst us):=jq1
  have c1:=d1.mono t4
  have c2:=d2.mono t4
  generalize upd H3 tl (.lst us)=H4 at s4 g4 c1 c2 ⊢
  refine jct c2 fun H5 s5 j3=>?_
  refine ⟨_,rfl,_,rfl,t',u,rfl,c2.mono (jqa s5),fun l us2 H6 s6 n6 h6 d6=>?_⟩
  have q1:=c1.length
  have q2:=d6.length
  have q3:=jqt ts'
  have q4:=jqt t'.kids
  have hk:=jw8 t'
  have hz:=A3.sz
  rw [jx5,jz0,jj8] at hz
  have s56:=s5.trans s6
  refine ⟨tl,l,us,us2,rfl,rfl,s56 _ _ g4,h6,by rw [sizeLine_eq];omega,fun p7 hp7=>?_⟩
  have s7:=jq2 (o:=.lst (us++us2)) hp7
  have s47:=s56.trans s7
  refine ⟨jxc (ts'++t'.kids),by rw [jx5,jx5,jz0,jj8];omega,p7,us++us2,ts'++t'.kids,_,_,rfl,⟨s4.trans s47,(s4.trans s56).free hp7,jq1,(c1.mono (jqa s47)).append (d6.mono (jqa s7)),by rw [jx5];omega⟩,rfl⟩
end S10
namespace SW
open PySem L2
end SW
namespace SW
open PySem L2
end SW
namespace S10
open PySem L2 SW
variable {K:PySem.W.Frag} {vs:List V} {H H₀:Hp} {Q:VK} {E:XK}
end S10
namespace SW
open PySem L2
def jxv (K:PySem.W.Frag):Sp:=fun vs H Q E=>∃ S,jwj K S vs H Q E
def SW0:Str→Nat→Prop:=fun x n=>x="st"∧n=2
def SB1:Str→Nat→Prop:=fun x n=>x="star"∧n=0
def SB2:Str→Nat→Prop:=fun x n=>(x="star"∧n=0)∨(x="sta"∧n=1)
def BkAt (H:Hp) (l:Addr) (b:Str×List Str×T) (u:V):Prop:=∃ (q p:Addr) (v:V),u=.ref q∧H q=some (.tup [.str b.1,.ref p,v])∧H p=some (.lst (b.2.1.map V.str))∧p≠l∧Den H b.2.2 v
inductive BkL (H:Hp) (l:Addr):List (Str×List Str×T)→List V→Prop where
 | nil:BkL H l [] []
 | cons {b:Str×List Str×T} {u:V} {bs:List (Str×List Str×T)} {us:List V}:BkAt H l b u→BkL H l bs us→BkL H l (b :: bs) (u :: us)
theorem BkAt.mono {H H':Hp} {l:Addr} {b:Str×List Str×T} {u:V} (m:TupLe H H') (k:∀ p xs,p≠l→H p=some (.lst xs)→H' p=some (.lst xs)) (h:BkAt H l b u):BkAt H' l b u:=by
 obtain ⟨q,p,v,e,h1,h2,h3,h4⟩:=h
 exact ⟨q,p,v,e,m _ _ h1,k _ _ h3 h2,h3,h4.mono m⟩
def jag (K:PySem.W.Frag):Sp:=fun vs H Q _=>∃ (c:Addr) (wild:Bool) (ns:List Int),vs=[.ref c,.bl wild]∧SqL K H c (ns.map V.int)∧ns.length≤100∧
 ∀ (l:Addr) (us:List V) (t0 t1 t2:T) (H':Hp),Same H H'→H l=none→H' l=some (.lst us)→BkL H' l [("star",[],t0),("sta",["sab"],t1),("st",["sab","tab"],t2)] us→WT (if wild then SW0 else S0) t0→WT SB1 t1→WT SB2 t2→t0.size≤4→t1.size≤8→t2.size≤10→t1.names.length≤4→t2.names.length≤5→Q (.ref l) H'
theorem jvw (ns:List Int) (lo hi:Option Int):∃ ms:List Int,cutV (ns.map V.int) lo hi=ms.map V.int∧ms.length≤HT.sIx ns.length ns.length hi - HT.sIx ns.length 0 lo∧ms.length≤ns.length:=by
 refine ⟨(ns.drop (HT.sIx ns.length 0 lo)).take (HT.sIx ns.length ns.length hi - HT.sIx ns.length 0 lo),?_,?_,?_⟩
 ·unfold cutV
  rw [List.length_map,List.map_take,List.map_drop]
 ·rw [List.length_take];omega
 ·rw [List.length_take,List.length_drop];omega
theorem jb5 (n d:Nat) (k:Nat):HT.sIx n d (some (k:Int))=min k n:=HT.sIx_nat ..
end SW
namespace S9
open PySem L2 SW
def jp7 (K:PySem.W.Frag):TS:=(tAsg (tLst (jq3 (tTup (jq3 (tC (.str "st")) (jq3 (tC (.int 2)) tNil))) tNil)) (gSub (tVar 2) (tC (.int 0)) jm7))
def jp6 (K:PySem.W.Frag):TS:=(tIfS (tB (tVar 1)) (jp7 K) jxt)
def t_db (K:PySem.W.Frag):TS:=(tSeq (tAsg (tLst (jq3 (tLst tNil) (jq3 (tLst (jq3 (tTup (jq3 (tC (.str "star")) (jq3 (tC (.int 0)) tNil))) tNil)) (jq3 (tLst (jq3 (tTup (jq3 (tC (.str "star")) (jq3 (tC (.int 0)) tNil))) (jq3 (tTup (jq3 (tC (.str "sta")) (jq3 (tC (.int 1)) tNil))) tNil))) tNil)))) (jqk 2)) (tSeq (jp6 K) (tSeq (tAsg (tLst (jq3 (tTup (jq3 (tC (.str "star")) (jq3 (tLst tNil) (jq3 (jx7 (jxv K) [] E0 (jq3 (tSl (rSlL K) (tVar 0) jz5 (jzd (tC (.int 1)))) (jq3 (tOp (rIxL K) (tVar 2) (tC (.int 0))) tNil))) tNil)))) tNil)) (jqk 3)) (tSeq (jxn (tBM K "list" jxa (tVar 3) (jq3 (tTup (jq3 (tC (.str "sta")) (jq3 (tLst (jq3 (tC (.str "sab")) tNil)) (jq3 (jx7 (jxv K) [] E0 (jq3 (tSl (rSlL K) (tVar 0) (jzd (tC (.int 1))) (jzd (tC (.int 4)))) (jq3 (tOp (rIxL K) (tVar 2) (tC (.int 1))) tNil))) tNil)))) tNil))) (tSeq (jxn (tBM K "list" jxa (tVar 3) (jq3 (tTup (jq3 (tC (.str "st")) (jq3 (tLst (jq3 (tC (.str "sab")) (jq3 (tC (.str "tab")) tNil))) (jq3 (jx7 (jxv K) [] E0 (jq3 (tSl (rSlL K) (tVar 0) (jzd (tC (.int 4))) (jzd (tC (.int 8)))) (jq3 (tOp (rIxL K) (tVar 2) (tC (.int 2))) tNil))) tNil)))) tNil))) (tRet (tVar 3)))))))
def jp5 (K:PySem.W.Frag):TS:=(tRet (tC (.bl false)))
def jp4 (K:PySem.W.Frag):TS:=(tIfS (tOr (tNot (tB (tCB (cIsi K) (jq3 (tVar 0) (jq3 (tC (.ty "tuple")) tNil))))) (tOr (jx0 (tOp rNe (tCB (cLen K) (jq3 (tVar 0) tNil)) (tC (.int 4)))) (tNot (tB (tCB (cIsi K) (jq3 (tOp (rIxT K) (tVar 0) (tC (.int 0))) (jq3 (tC (.ty "str")) tNil))))))) (jp5 K) jxt)
def jp3 (K:PySem.W.Frag):TS:=(tRet (tC (.bl false)))
def jp2 (K:PySem.W.Frag):TS:=(tIfS (tOr (jx0 (tOp rNe (tOp (rIxT K) (tVar 0) (tC (.int 0))) (tC (.str "done")))) (tOr (tNot (tB (jx7 jjn [] E0 (jq3 (tOp (rIxT K) (tVar 0) (tC (.int 3))) tNil)))) (tNot (tB (tCB (cIsi K) (jq3 (tOp (rIxT K) (tVar 0) (tC (.int 2))) (jq3 (tC (.ty "list")) tNil))))))) (jp3 K) jxt)
def jp1 (K:PySem.W.Frag):TS:=(tRet (tC (.bl false)))
def jp0 (K:PySem.W.Frag):TS:=(tIfS (tOr (tNot (tB (tCB (cIsi K) (jq3 (tVar 1) (jq3 (tC (.ty "tuple")) tNil))))) (tOr (jx0 (tOp rNe (tCB (cLen K) (jq3 (tVar 1) tNil)) (tC (.int 2)))) (tNot (tB (tCB (cIsi K) (jq3 (tOp (rIxT K) (tVar 1) (tC (.int 0))) (jq3 (tC (.ty "str")) tNil))))))) (jp1 K) jxt)
def joz (K:PySem.W.Frag):TS:=(tRet (tC (.bl false)))
def joy (K:PySem.W.Frag):TS:=(tIfS (tNot (tB (tCB (cIsi K) (jq3 (tOp (rIxT K) (tVar 1) (tC (.int 1))) (jq3 (tC (.ty "tuple")) tNil))))) (joz K) jxt)
def jox (K:PySem.W.Frag):TS:=(tRet (tC (.bl false)))
def jlt (K:PySem.W.Frag):TS:=(tIfS (tNot (tB (jx7 jjn [] E0 (jq3 (tVar 2) tNil)))) (jox K) jxt)
def jls (K:PySem.W.Frag):TS:=(tSeq (jp0 K) (tSeq (joy K) (tFor (iTup K (tOp (rIxT K) (tVar 1) (tC (.int 1)))) (jqk 2) (jlt K))))
def t_dn (K:PySem.W.Frag):TS:=(tSeq (jp4 K) (tSeq (jp2 K) (tSeq (tFor (jkr K (tOp (rIxT K) (tVar 0) (tC (.int 2)))) (jqk 1) (jls K)) (tRet (jx7 jjo [] E0 (jq3 (tOp (rIxT K) (tVar 0) (tC (.int 1))) tNil))))))
def t_bc (K:PySem.W.Frag):TS:=(tRet (tLC (jkr K (tVar 0)) (tTup (jq3 (tOp (rIxT K) (tVar 0) (tC (.int 0))) (jq3 (tCB (jg0 K) (jq3 (tOp (rIxT K) (tVar 0) (tC (.int 1))) tNil)) (jq3 (tOp (rIxT K) (tVar 0) (tC (.int 2))) tNil)))) []))
variable {K:PySem.W.Frag} {vs:List V} {H:Hp} {Q:VK} {E:XK}
theorem rd_dpA (h:jxv K vs H Q E):SW.t_dp K (fin Q) (start ["_law_cells","_law_stamps","_law_pile","_law_cell","_law_rest","_law_way","_law_word","_law_inner","_law_look","_law_name","_law_many","_law_made","_law_last"] vs) H:=by
 obtain ⟨S,h⟩:=h
 exact rd_dp h
theorem jwa {c low z0 l1 l2 a1 a2 a3:Addr} {ns:List Int} {xs0:List V} {Sx:Str→Nat→Prop} {j1:Option V} (hc:SqL K H c (ns.map V.int)) (hn:ns.length≤100) (hlow:H low=some (.lst [.ref z0,.ref l1,.ref l2])) (h0:H z0=some (.lst xs0)) (hx0:xs0.length≤1000) (st0:jjh Sx H xs0)
  (h1:H l1=some (.lst [.ref a1])) (e1:H a1=some (.tup [.str "star",.int 0])) (h2:H l2=some (.lst [.ref a2,.ref a3])) (e2:H a2=some (.tup [.str "star",.int 0])) (e3:H a3=some (.tup [.str "sta",.int 1]))
  (k:∀ (l:Addr) (us:List V) (t0 t1 t2:T) (H':Hp),Same H H'→H l=none→H' l=some (.lst us)→BkL H' l [("star",[],t0),("sta",["sab"],t1),("st",["sab","tab"],t2)] us→WT Sx t0→WT SB1 t1→WT SB2 t2→t0.size≤4→t1.size≤8→t2.size≤10→t1.names.length≤4→t2.names.length≤5→Q (.ref l) H') :
  (tSeq (tAsg (tLst (jq3 (tTup (jq3 (tC (.str "star")) (jq3 (tLst tNil) (jq3 (jx7 (jxv K) [] E0 (jq3 (tSl (rSlL K) (tVar 0) jz5 (jzd (tC (.int 1)))) (jq3 (tOp (rIxL K) (tVar 2) (tC (.int 0))) tNil))) tNil)))) tNil)) (jqk 3)) (tSeq (jxn (tBM K "list" jxa (tVar 3) (jq3 (tTup (jq3 (tC (.str "sta")) (jq3 (tLst (jq3 (tC (.str "sab")) tNil)) (jq3 (jx7 (jxv K) [] E0 (jq3 (tSl (rSlL K) (tVar 0) (jzd (tC (.int 1))) (jzd (tC (.int 4)))) (jq3 (tOp (rIxL K) (tVar 2) (tC (.int 1))) tNil))) tNil)))) tNil))) (tSeq (jxn (tBM K "list" jxa (tVar 3) (jq3 (tTup (jq3 (tC (.str "st")) (jq3 (tLst (jq3 (tC (.str "sab")) (jq3 (tC (.str "tab")) tNil))) (jq3 (jx7 (jxv K) [] E0 (jq3 (tSl (rSlL K) (tVar 0) (jzd (tC (.int 4))) (jzd (tC (.int 8)))) (jq3 (tOp (rIxL K) (tVar 2) (tC (.int 2))) tNil))) tNil)))) tNil))) (tRet (tVar 3))))) (fin Q) [some (.ref c),j1,some (.ref low),none] H:=by
 refine ⟨szl,fun p0 hp0=>?_⟩
 have s1:=jq2 (o:=.lst []) hp0
 have g1:(upd H p0 (.lst [])) p0=some (.lst []):=jq1
 generalize upd H p0 (.lst [])=H1 at s1 g1 ⊢
 obtain ⟨m0,em0,q0,_⟩:=jvw ns none (some 1)
 refine ⟨_,rfl,_,rfl,c,_,rfl,s1.seq hc,fun c0 hc0=>?_⟩
 rw [em0]
 have s2:=jq2 (o:=.lst (m0.map V.int)) hc0
 have g2:(upd H1 c0 (.lst (m0.map V.int))) c0=some (.lst (m0.map V.int)):=jq1
 generalize upd H1 c0 (.lst (m0.map V.int))=H2 at s2 g2 ⊢
 have s12:=s1.trans s2
 have q0:m0.length≤1:=by
  have e:HT.sIx ns.length ns.length (some 1)=min 1 ns.length:=jb5 ns.length ns.length 1
  rw [e] at q0;omega
 refine ⟨_,rfl,low,_,_,_,rfl,rfl,SqL.of (s12 _ _ hlow),jqd (j:=0) rfl,?_⟩
 refine ⟨Sx,c0,z0,m0,xs0,rfl,SqL.of g2,by omega,s12 _ _ h0,hx0,fun x hx=>?_,fun t0 v0 H3 s3 d0 w0 z0' _=>?_⟩
 ·obtain ⟨q,nm,m,r1,r2,r3⟩:=st0 x hx
  exact ⟨q,nm,m,r1,s12 _ _ r2,r3⟩
 have s13:=s12.trans s3
 have gp0:=(s2.trans s3) _ _ g1
 refine ⟨szl,fun b0 hb0=>?_⟩
 have s4:=jq2 (o:=.tup [.str "star",.ref p0,v0]) hb0
 have g4:(upd H3 b0 (.tup [.str "star",.ref p0,v0])) b0=some (.tup [.str "star",.ref p0,v0]):=jq1
 generalize upd H3 b0 (.tup [.str "star",.ref p0,v0])=H4 at s4 g4 ⊢
 refine ⟨szl,fun l hl=>?_⟩
 have s5:=jq2 (o:=.lst [.ref b0]) hl
 have g5:(upd H4 l (.lst [.ref b0])) l=some (.lst [.ref b0]):=jq1
 generalize upd H4 l (.lst [.ref b0])=H5 at s5 g5 ⊢
 have s35:=s4.trans s5
 have s15:=s13.trans s35
 have nl:H l=none:=(s13.trans s4).free hl
 have np0:p0≠l:=jq9 (s4 _ _ gp0) hl
 have B0:BkAt H5 l ("star",[],t0) (.ref b0):=⟨b0,p0,v0,rfl,s5 _ _ g4,s35 _ _ gp0,np0,d0.mono (jqa s35)⟩
 have nlow:low≠l:=jq9 hlow nl
 have keep:∀ {Ha Hb:Hp} {us us':List V},Ha l=some (.lst us)→Hb=upd Ha l (.lst us')→∀ p xs,p≠l→Ha p=some (.lst xs)→Hb p=some (.lst xs):=fun _ e p xs n h=>by subst e;rw [jqb n];exact h
 clear s1 g1 s2 g2 s12 s3 s13 gp0 s4 g4 s35 hp0 hc0 hb0 hl em0
 refine ⟨_,rfl,.inl ⟨rfl,_,SqL.of g5⟩,szl,fun p1 hp1=>?_⟩
 have s6:=jq2 (o:=.lst [.str "sab"]) hp1
 have g6:(upd H5 p1 (.lst [.str "sab"])) p1=some (.lst [.str "sab"]):=jq1
 generalize upd H5 p1 (.lst [.str "sab"])=H6 at s6 g6 ⊢
 obtain ⟨m1,em1,q1,_⟩:=jvw ns (some 1) (some 4)
 refine ⟨_,rfl,_,rfl,_,rfl,c,_,rfl,(s15.trans s6).seq hc,fun c1 hc1=>?_⟩
 rw [em1]
 have s7:=jq2 (o:=.lst (m1.map V.int)) hc1
 have g7:(upd H6 c1 (.lst (m1.map V.int))) c1=some (.lst (m1.map V.int)):=jq1
 generalize upd H6 c1 (.lst (m1.map V.int))=H7 at s7 g7 ⊢
 have s67:=s6.trans s7
 have q1:m1.length≤3:=by
  have ea:HT.sIx ns.length ns.length (some 4)=min 4 ns.length:=jb5 ns.length ns.length 4
  have eb:HT.sIx ns.length 0 (some 1)=min 1 ns.length:=jb5 ns.length 0 1
  rw [ea,eb] at q1;omega
 have s17:=s15.trans s67
 refine ⟨_,rfl,low,_,_,_,rfl,rfl,SqL.of (s17 _ _ hlow),jqd (j:=1) rfl,?_⟩
 refine ⟨SB1,c1,l1,m1,_,rfl,SqL.of g7,by omega,s17 _ _ h1,by simp,fun x hx=>?_,fun t1 v1 H8 s8 d1 w1 z1' y1'=>?_⟩
 ·obtain rfl:x=.ref a1:=by simpa using hx
  exact ⟨a1,"star",0,rfl,s17 _ _ e1,by decide,rfl,rfl⟩
 have s68:=s67.trans s8
 refine ⟨szl,fun b1 hb1=>?_⟩
 have s9:=jq2 (o:=.tup [.str "sta",.ref p1,v1]) hb1
 have g9:(upd H8 b1 (.tup [.str "sta",.ref p1,v1])) b1=some (.tup [.str "sta",.ref p1,v1]):=jq1
 generalize upd H8 b1 (.tup [.str "sta",.ref p1,v1])=H9 at s9 g9 ⊢
 have s69:=s68.trans s9
 have at9:=s69 _ _ g5
 have np1:p1≠l:=fun z=>by subst z;rw [g5] at hp1;cases hp1
 refine ⟨l,_,_,rfl,rfl,at9,by rw [sizeLine_eq];simp,?_⟩
 have t10:=jxh (o:=.lst ([.ref b0]++[.ref b1])) at9
 have k10:=keep at9 (rfl:upd H9 l (.lst ([.ref b0]++[.ref b1]))=_)
 have s10:Same H (upd H9 l (.lst ([.ref b0]++[.ref b1]))):=jqr (s15.trans s69) nl
 have g10:(upd H9 l (.lst ([.ref b0]++[.ref b1]))) l=some (.lst ([.ref b0]++[.ref b1])):=jq1
 have B0':BkAt (upd H9 l (.lst ([.ref b0]++[.ref b1]))) l ("star",[],t0) (.ref b0):=(B0.mono (jqa s69) fun p xs _ h=>s69 _ _ h).mono t10 k10
 have B1:BkAt (upd H9 l (.lst ([.ref b0]++[.ref b1]))) l ("sta",["sab"],t1) (.ref b1):=⟨b1,p1,v1,rfl,t10 _ _ g9,k10 _ _ np1 (((s7.trans s8).trans s9) _ _ g6),np1,(d1.mono (jqa s9)).mono t10⟩
 generalize upd H9 l (.lst ([.ref b0]++[.ref b1]))=G at t10 k10 s10 g10 B0' B1 ⊢
 clear s6 g6 s7 g7 s67 s8 s68 s9 g9 s69 at9 hp1 hc1 hb1 em1 B0 s17
 refine ⟨_,rfl,.inl ⟨rfl,_,SqL.of g10⟩,szl,fun p2 hp2=>?_⟩
 have s6:=jq2 (o:=.lst [.str "sab",.str "tab"]) hp2
 have g6:(upd G p2 (.lst [.str "sab",.str "tab"])) p2=some (.lst [.str "sab",.str "tab"]):=jq1
 generalize upd G p2 (.lst [.str "sab",.str "tab"])=H6 at s6 g6 ⊢
 obtain ⟨m2,em2,q2,_⟩:=jvw ns (some 4) (some 8)
 refine ⟨_,rfl,_,rfl,_,rfl,c,_,rfl,(s10.trans s6).seq hc,fun c2 hc2=>?_⟩
 rw [em2]
 have s7:=jq2 (o:=.lst (m2.map V.int)) hc2
 have g7:(upd H6 c2 (.lst (m2.map V.int))) c2=some (.lst (m2.map V.int)):=jq1
 generalize upd H6 c2 (.lst (m2.map V.int))=H7 at s7 g7 ⊢
 have s67:=s6.trans s7
 have q2:m2.length≤4:=by
  have ea:HT.sIx ns.length ns.length (some 8)=min 8 ns.length:=jb5 ns.length ns.length 8
  have eb:HT.sIx ns.length 0 (some 4)=min 4 ns.length:=jb5 ns.length 0 4
  rw [ea,eb] at q2;omega
 have s17:=s10.trans s67
 refine ⟨_,rfl,low,_,_,_,rfl,rfl,SqL.of (s17 _ _ hlow),jqd (j:=2) rfl,?_⟩
 refine ⟨SB2,c2,l2,m2,_,rfl,SqL.of g7,by omega,s17 _ _ h2,by simp,fun x hx=>?_,fun t2 v2 H8 s8 d2 w2 z2' y2'=>?_⟩
 ·simp only [List.mem_cons,List.not_mem_nil,or_false] at hx
  rcases hx with rfl|rfl
  ·exact ⟨a2,"star",0,rfl,s17 _ _ e2,by decide,.inl ⟨rfl,rfl⟩⟩
  ·exact ⟨a3,"sta",1,rfl,s17 _ _ e3,by decide,.inr ⟨rfl,rfl⟩⟩
 have s68:=s67.trans s8
 refine ⟨szl,fun b2 hb2=>?_⟩
 have s9:=jq2 (o:=.tup [.str "st",.ref p2,v2]) hb2
 have g9:(upd H8 b2 (.tup [.str "st",.ref p2,v2])) b2=some (.tup [.str "st",.ref p2,v2]):=jq1
 generalize upd H8 b2 (.tup [.str "st",.ref p2,v2])=H9 at s9 g9 ⊢
 have s69:=s68.trans s9
 have at9:=s69 _ _ g10
 have np2:p2≠l:=fun z=>by subst z;rw [g10] at hp2;cases hp2
 refine ⟨l,_,_,rfl,rfl,at9,by rw [sizeLine_eq];simp,?_⟩
 have t10:=jxh (o:=.lst ([.ref b0]++[.ref b1]++[.ref b2])) at9
 have k10:=keep at9 (rfl:upd H9 l (.lst ([.ref b0]++[.ref b1]++[.ref b2]))=_)
 refine ⟨_,rfl,k l [.ref b0,.ref b1,.ref b2] t0 t1 t2 _ (jqr (s10.trans s69) nl) nl jq1 (.cons ((B0'.mono (jqa s69) fun p xs _ h=>s69 _ _ h).mono t10 k10) (.cons ((B1.mono (jqa s69) fun p xs _ h=>s69 _ _ h).mono t10 k10) (.cons ⟨b2,p2,v2,rfl,t10 _ _ g9,k10 _ _ np2 (((s7.trans s8).trans s9) _ _ g6),np2,(d2.mono (jqa s9)).mono t10⟩ .nil))) w0 w1 w2 (by omega) (by omega) (by omega) (by omega) (by omega)⟩
theorem rd_db (h:jag K vs H Q E):t_db K (fin Q) (start ["_law_cells","_law_wild","_law_low","_law_book"] vs) H:=by
 obtain ⟨c,wild,ns,rfl,hc,hn,k⟩:=h
 refine ⟨szl,fun l0 hl0=>?_⟩
 have s0:=jq2 (o:=.lst []) hl0
 have g0:(upd H l0 (.lst [])) l0=some (.lst []):=jq1
 generalize upd H l0 (.lst [])=H0 at s0 g0 ⊢
 refine ⟨szl,fun a1 ha1=>?_⟩
 have s1:=jq2 (o:=.tup [.str "star",.int 0]) ha1
 have g1:(upd H0 a1 (.tup [.str "star",.int 0])) a1=some (.tup [.str "star",.int 0]):=jq1
 generalize upd H0 a1 (.tup [.str "star",.int 0])=H1 at s1 g1 ⊢
 refine ⟨szl,fun l1 hl1=>?_⟩
 have s2:=jq2 (o:=.lst [.ref a1]) hl1
 have g2:(upd H1 l1 (.lst [.ref a1])) l1=some (.lst [.ref a1]):=jq1
 generalize upd H1 l1 (.lst [.ref a1])=H2 at s2 g2 ⊢
 refine ⟨szl,fun a2 ha2=>?_⟩
 have s3:=jq2 (o:=.tup [.str "star",.int 0]) ha2
 have g3:(upd H2 a2 (.tup [.str "star",.int 0])) a2=some (.tup [.str "star",.int 0]):=jq1
 generalize upd H2 a2 (.tup [.str "star",.int 0])=H3 at s3 g3 ⊢
 refine ⟨szl,fun a3 ha3=>?_⟩
 have s4:=jq2 (o:=.tup [.str "sta",.int 1]) ha3
 have g4:(upd H3 a3 (.tup [.str "sta",.int 1])) a3=some (.tup [.str "sta",.int 1]):=jq1
 generalize upd H3 a3 (.tup [.str "sta",.int 1])=H4 at s4 g4 ⊢
 refine ⟨szl,fun l2 hl2=>?_⟩
 have s5:=jq2 (o:=.lst [.ref a2,.ref a3]) hl2
 have g5:(upd H4 l2 (.lst [.ref a2,.ref a3])) l2=some (.lst [.ref a2,.ref a3]):=jq1
 generalize upd H4 l2 (.lst [.ref a2,.ref a3])=H5 at s5 g5 ⊢
 refine ⟨szl,fun low hlow=>?_⟩
 have s6:=jq2 (o:=.lst [.ref l0,.ref l1,.ref l2]) hlow
 have g6:(upd H5 low (.lst [.ref l0,.ref l1,.ref l2])) low=some (.lst [.ref l0,.ref l1,.ref l2]):=jq1
 generalize upd H5 low (.lst [.ref l0,.ref l1,.ref l2])=H6 at s6 g6 ⊢
 have u5:=s5.trans s6
 have u4:=s4.trans u5
 have u3:=s3.trans u4
 have u2:=s2.trans u3
 have u1:=s1.trans u2
 have u0:=s0.trans u1
 have nlow:H low=none:=(s0.trans (s1.trans (s2.trans (s3.trans (s4.trans s5))))).free hlow
 refine ⟨_,rfl,_,rfl,?_⟩
 cases wild with
 | false=>
  refine iteF ?_
  exact jwa (Sx:=S0) (u0.seq hc) hn g6 (u1 _ _ g0) (by simp) (fun x hx=>by cases hx) (u3 _ _ g2) (u2 _ _ g1) (s6 _ _ g5) (u4 _ _ g3) (u5 _ _ g4) fun l us t0 t1 t2 H' s n h b w0 w1 w2=>k l us t0 t1 t2 H' (u0.trans s) (u0.free n) h b w0 w1 w2
 | true=>
  refine iteT ?_
  refine ⟨szl,fun b hb=>?_⟩
  have s7:=jq2 (o:=.tup [.str "st",.int 2]) hb
  have g7:(upd H6 b (.tup [.str "st",.int 2])) b=some (.tup [.str "st",.int 2]):=jq1
  generalize upd H6 b (.tup [.str "st",.int 2])=H7 at s7 g7 ⊢
  refine ⟨szl,fun lw hlw=>?_⟩
  have s8:=jq2 (o:=.lst [.ref b]) hlw
  have g8:(upd H7 lw (.lst [.ref b])) lw=some (.lst [.ref b]):=jq1
  generalize upd H7 lw (.lst [.ref b])=H8 at s8 g8 ⊢
  have v8:=s7.trans s8
  have e8:=v8 _ _ g6
  refine ⟨_,rfl,low,_,0,0,rfl,rfl,e8,rfl,?_⟩
  have t9:=jxh (o:=.lst [.ref lw,.ref l1,.ref l2]) e8
  have n1:l1≠low:=fun z=>by subst z;rw [(s3.trans (s4.trans s5)) _ _ g2] at hlow;cases hlow
  have n2:l2≠low:=fun z=>by subst z;rw [g5] at hlow;cases hlow
  have nw:lw≠low:=fun z=>by subst z;rw [s7 _ _ g6] at hlw;cases hlw
  have u9:Same H (upd H8 low (.lst [.ref lw,.ref l1,.ref l2])):=jqr (u0.trans v8) nlow
  refine jwa (Sx:=SW0) (z0:=lw) (u9.seq hc) hn jq1 (by rw [jqb nw];exact g8) (by simp) (fun x hx=>?_) (by rw [jqb n1];exact v8 _ _ (u3 _ _ g2)) (t9 _ _ (v8 _ _ (u2 _ _ g1))) (by rw [jqb n2];exact v8 _ _ (s6 _ _ g5)) (t9 _ _ (v8 _ _ (u4 _ _ g3))) (t9 _ _ (v8 _ _ (u5 _ _ g4))) fun l us t0 t1 t2 H' s n h b w0 w1 w2=>k l us t0 t1 t2 H' (u9.trans s) (u9.free n) h b w0 w1 w2
  obtain rfl:x=.ref b:=by simpa using hx
  exact ⟨b,"st",2,rfl,t9 _ _ (s8 _ _ g7),by decide,rfl,rfl⟩
end S9
namespace SW
open PySem L2
def js6 (H:Hp) (u:V):Prop:=∃ (q r:Addr) (w:Str) (ks:List Int),u=.ref q∧H q=some (.tup [.str w,.ref r])∧H r=some (.tup (ks.map V.int))
def jw6:Sp:=fun vs H Q _=>∃ (p sl:Addr) (pv:V) (t:T) (m:Int) (us:List V),vs=[.ref p]∧H p=some (.tup [.str "done",pv,.ref sl,.int m])∧Den H t pv∧t.size≤5000000∧H sl=some (.lst us)∧(∀ u∈us,js6 H u)∧∀ H',Same H H'→Q (.bl true) H'
end SW
namespace S9
open PySem L2 SW
variable {K:PySem.W.Frag} {vs:List V} {H:Hp} {Q:VK} {E:XK}
theorem rd_dn (h:jw6 vs H Q E):t_dn K (fin Q) (start ["_law_found","_law_one","_law_k"] vs) H:=by
 obtain ⟨p,sl,pv,t,m,us,rfl,hp,hd,ht,hs,ha,k⟩:=h
 refine ⟨_,rfl,_,_,_,_,rfl,.tup hp,jqw,_,rfl,iteF ?_⟩
 refine ⟨_,rfl,p,_,rfl,.inr (SqT.of hp),rfl,_,rfl,iteN rfl ?_⟩
 refine ⟨_,rfl,p,_,_,_,rfl,rfl,SqT.of hp,rfl,_,_,_,_,rfl,.str _,jx3,_,rfl,iteF ?_⟩
 refine ⟨_,rfl,p,_,_,_,rfl,rfl,SqT.of hp,rfl,rfl,_,rfl,iteN (by decide+kernel) ?_⟩
 refine ⟨_,rfl,p,_,_,_,rfl,rfl,SqT.of hp,rfl,m,rfl,_,rfl,iteF ?_⟩
 refine ⟨_,rfl,p,_,_,_,rfl,rfl,SqT.of hp,rfl,_,_,_,_,rfl,.lst hs,jap,_,rfl,iteF ?_⟩
 refine ⟨_,rfl,p,_,_,_,rfl,rfl,SqT.of hp,rfl,sl,rfl,⟨_,SqL.of hs⟩,?_⟩
 refine jzc (K:=K) (a:=sl) (xs:=us) (fun i σ H'=>(∃ j1 j2,σ=[some (.ref p),j1,j2])∧H'=H) ⟨⟨_,_,rfl⟩,rfl⟩ (fun i σ H' _ hP=>by rw [hP.2];exact SqL.of hs) ?_ ?_
 ·rintro i u σ H1 hi ⟨⟨j1,j2,rfl⟩,rfl⟩
  obtain ⟨q,r,w,ks,rfl,h1,h2⟩:=ha u (List.mem_of_getElem? hi)
  refine ⟨_,rfl,_,_,_,_,rfl,.tup h1,jqw,_,rfl,iteF ?_⟩
  refine ⟨_,rfl,q,_,rfl,.inr (SqT.of h1),rfl,_,rfl,iteN rfl ?_⟩
  refine ⟨_,rfl,q,_,_,_,rfl,rfl,SqT.of h1,rfl,_,_,_,_,rfl,.str _,jx3,_,rfl,iteF ?_⟩
  refine ⟨_,rfl,q,_,_,_,rfl,rfl,SqT.of h1,rfl,_,_,_,_,rfl,.tup h2,jqw,_,rfl,iteF ?_⟩
  refine ⟨_,rfl,q,_,_,_,rfl,rfl,SqT.of h1,rfl,r,rfl,⟨_,SqT.of h2⟩,?_⟩
  refine ⟨fun i m σ H'=>m=ks.length - i∧i≤ks.length∧(∃ j2,σ=[some (.ref p),some (.ref q),j2])∧H'=H1,⟨_,rfl,Nat.zero_le _,⟨_,rfl⟩,rfl⟩,?_⟩
  rintro i' m' σ' H' ⟨rfl,hi',⟨j2',rfl⟩,rfl⟩
  by_cases e:i'=ks.length
  ·exact .inl ⟨⟨_,SqT.of h2,by simp [e]⟩,⟨_,_,rfl⟩,rfl⟩
  ·have hlt:i' < ks.length:=by omega
   refine .inr ⟨⟨_,.int ks[i'],SqT.of h2,by simp [hlt]⟩,_,fun σ2 H2 h=>⟨ks.length - (i'+1),by omega,h⟩,?_⟩
   rintro x H2 ⟨rfl,hx⟩
   have hx:=hx _ (SqT.of h2)
   rw [List.getElem?_map,List.getElem?_eq_getElem hlt] at hx
   cases hx
   refine ⟨_,rfl,ks[i'],rfl,_,rfl,iteF ?_⟩
   exact ⟨rfl,by omega,⟨_,rfl⟩,rfl⟩
 ·rintro σ H1 ⟨⟨j1,j2,rfl⟩,rfl⟩
  exact ⟨_,rfl,p,_,_,_,rfl,rfl,SqT.of hp,rfl,t,pv,rfl,hd,ht,k⟩
end S9
namespace S9
open PySem L2 SW
variable {K:PySem.W.Frag} {vs:List V} {H:Hp} {Q:VK} {E:XK} {C D:Addr}
def jcs (K:PySem.W.Frag):Sp:=fun vs H Q _=>∃ (a:Addr) (ns:List Int) (i:Nat),vs=[.ref a,.int i]∧SqL K H a (ns.map V.int)∧∀ n,Q (.int n) H
def jlv (K:PySem.W.Frag):TS:=(tRet (tOp (rIxL K) (tVar 0) (tVar 1)))
def jlu (K:PySem.W.Frag):TS:=(tIfS (jx0 (tOp rLtI (tVar 1) (tCB (cLen K) (jq3 (tVar 0) tNil)))) (jlv K) jxt)
def t_atg (K:PySem.W.Frag):TS:=(tSeq (jlu K) (tRet (tC (.int 0))))
theorem rd_atg (h:jcs K vs H Q E):t_atg K (fin Q) (start ["_law_script","_law_k"] vs) H:=by
 obtain ⟨a,ns,i,rfl,ha,hQ⟩:=h
 refine ⟨_,rfl,_,rfl,a,_,rfl,.inl ha,_,_,rfl,rfl,_,rfl,?_⟩
 refine ite2 (fun hlt=>?_) (fun _=>hQ 0)
 have hlt:(i:Int) < ((ns.map V.int).length:Int):=of_decide_eq_true hlt
 rw [List.length_map] at hlt
 have hi:i < ns.length:=by omega
 exact ⟨_,rfl,_,rfl,a,_,_,_,rfl,rfl,ha,jqd (v:=V.int ns[i]) (by rw [List.getElem?_map,List.getElem?_eq_getElem hi];rfl),hQ _⟩
theorem jkf {K:PySem.W.Frag}:PySem.W.kitOne K (.type "tuple") (.type "list")=some false:=by kernel_rfl
theorem jh3 {K:PySem.W.Frag}:PySem.W.kitAny K (.type "tuple") [.type "list",.type "tuple"]=some true:=by kernel_rfl
def jw5:Sp:=fun vs H Q _=>∃ (f d:Addr) (xs:List V),vs=[.ref f,.ref d]∧H f=some (.tup xs)∧H d=some (.tup [.str "more"])∧((xs=[.str "more"]∧∀ H',Same H H'→Q (.bl true) H')∨(xs.length≠1∧∀ H',Same H H'→Q (.bl false) H'))
def jo7 (K:PySem.W.Frag):TS:=(tRet (tC (.bl false)))
def jo6 (K:PySem.W.Frag):TS:=(tIfS (jx0 (tOp rNe (tCB (cIsi K) (jq3 (tVar 3) (jq3 (tC (.ty "list")) tNil))) (tCB (cIsi K) (jq3 (tVar 4) (jq3 (tC (.ty "list")) tNil))))) (jo7 K) jxt)
def jo5 (K:PySem.W.Frag):TS:=(tRet (tC (.bl false)))
def jo4 (K:PySem.W.Frag):TS:=(tIfS (jx0 (tOp rNe (tCB (cIsi K) (jq3 (tVar 3) (jq3 (tC (.ty "tuple")) tNil))) (tCB (cIsi K) (jq3 (tVar 4) (jq3 (tC (.ty "tuple")) tNil))))) (jo5 K) jxt)
def jo3 (K:PySem.W.Frag):TS:=(tRet (tC (.bl false)))
def jo2 (K:PySem.W.Frag):TS:=(tIfS (jx0 (tOp rNe (tCB (cLen K) (jq3 (tVar 3) tNil)) (tCB (cLen K) (jq3 (tVar 4) tNil)))) (jo3 K) jxt)
def jo1 (K:PySem.W.Frag):TS:=(jxn (tBM K "list" jxa (tVar 2) (jq3 (tTup (jq3 (tOp (rIxT K) (tVar 3) (tVar 5)) (jq3 (tOp (rIxT K) (tVar 4) (tVar 5)) tNil))) tNil)))
def jo0 (K:PySem.W.Frag):TS:=(tSeq (jo6 K) (tSeq (jo4 K) (tSeq (jo2 K) (tFor (jrq (jq3 (tCB (cLen K) (jq3 (tVar 4) tNil)) tNil)) (jqk 5) (jo1 K)))))
def jnz (K:PySem.W.Frag):TS:=(tRet (tC (.bl false)))
def jl7 (K:PySem.W.Frag):TS:=(tIfS (tOr (tNot (tB (tCB (cIsi K) (jq3 (tVar 3) (jq3 (tC (.ty "str")) tNil))))) (jx0 (tOp rNe (tVar 3) (tVar 4)))) (jnz K) jxt)
def jl6 (K:PySem.W.Frag):TS:=(tRet (tC (.bl false)))
def jl5 (K:PySem.W.Frag):TS:=(tIfS (tOr (tNot (tB (tCB (cIsi K) (jq3 (tVar 3) (jq3 (tC (.ty "bool")) tNil))))) (jx0 (tOp rNe (tVar 3) (tVar 4)))) (jl6 K) jxt)
def jl4 (K:PySem.W.Frag):TS:=(tRet (tC (.bl false)))
def jl3 (K:PySem.W.Frag):TS:=(tIfS (jx0 (tOp rNotN (tVar 3) (tC .non))) (jl4 K) jxt)
def jl2 (K:PySem.W.Frag):TS:=(tRet (tC (.bl false)))
def jl1 (K:PySem.W.Frag):TS:=(tIfS (tOr (tNot (tB (tCB (cIsi K) (jq3 (tVar 3) (jq3 (tC (.ty "int")) tNil))))) (tOr (tB (tCB (cIsi K) (jq3 (tVar 3) (jq3 (tC (.ty "bool")) tNil)))) (jx0 (tOp rNe (tVar 3) (tVar 4))))) (jl2 K) jxt)
def jl0 (K:PySem.W.Frag):TS:=(tIfS (jx0 (tOp rIsN (tVar 4) (tC .non))) (jl3 K) (jl1 K))
def jiz (K:PySem.W.Frag):TS:=(tIfS (tB (tCB (cIsi K) (jq3 (tVar 4) (jq3 (tC (.ty "bool")) tNil)))) (jl5 K) (jl0 K))
def jiy (K:PySem.W.Frag):TS:=(tIfS (tB (tCB (cIsi K) (jq3 (tVar 4) (jq3 (tC (.ty "str")) tNil)))) (jl7 K) (jiz K))
def jix (K:PySem.W.Frag):TS:=(tIfS (tB (tCB (js0 K) (jq3 (tVar 4) (jq3 (tTup (jq3 (tC (.ty "list")) (jq3 (tC (.ty "tuple")) tNil))) tNil)))) (jo0 K) (jiy K))
def jiw (K:PySem.W.Frag):TS:=(tSeq (tAsg (tBM0 K "list" rPop (tVar 2)) (gTup K 2 (jkg (jqk 3) (jkg (jqk 4) gNil)))) (jix K))
def t_sm (K:PySem.W.Frag):TS:=(tSeq (tAsg (tLst (jq3 (tTup (jq3 (tVar 0) (jq3 (tVar 1) tNil))) tNil)) (jqk 2)) (tSeq (jji (jx0 (tOp (jbz K) (tVar 2) (tLst tNil))) (jiw K)) (tRet (tC (.bl true)))))
theorem rd_sm (h:jw5 vs H Q E):t_sm K (fin Q) (start ["_law_found","_law_due","_law_todo","_law_one","_law_other","_law_k"] vs) H:=by
 obtain ⟨f,d,xs,rfl,hf,hd,hx⟩:=h
 refine ⟨_,rfl,_,rfl,szl,fun p hp=>?_⟩
 have s1:=jq2 (o:=.tup [.ref f,.ref d]) hp
 have g1:(upd H p (.tup [.ref f,.ref d])) p=some (.tup [.ref f,.ref d]):=jq1
 generalize upd H p (.tup [.ref f,.ref d])=H1 at s1 g1 ⊢
 refine ⟨szl,fun tl htl=>?_⟩
 have s2:=jq2 (o:=.lst [.ref p]) htl
 have g2:(upd H1 tl (.lst [.ref p])) tl=some (.lst [.ref p]):=jq1
 generalize upd H1 tl (.lst [.ref p])=H2 at s2 g2 ⊢
 have s12:=s1.trans s2
 have n2:H tl=none:=s1.free htl
 refine ⟨fun m σ H'=>∃ j3 j4 j5,σ=[some (.ref f),some (.ref d),some (.ref tl),j3,j4,j5]∧Same H H'∧
  ((m=2∧H' tl=some (.lst [.ref p])∧H' p=some (.tup [.ref f,.ref d]))∨(m=1∧xs=[.str "more"]∧∃ q,H' tl=some (.lst [.ref q])∧H' q=some (.tup [.str "more",.str "more"]))∨(m=0∧xs=[.str "more"]∧H' tl=some (.lst []))),
  ⟨2,none,none,none,rfl,s12,.inl ⟨rfl,g2,s2 _ _ g1⟩⟩,?_⟩
 clear s1 g1 s2 g2 s12 hp htl
 rintro m σ H3 ⟨j3,j4,j5,rfl,s3,hc⟩
 refine ⟨_,rfl,szl,fun e he=>?_⟩
 have s4:=jq2 (o:=.lst []) he
 have g4:(upd H3 e (.lst [])) e=some (.lst []):=jq1
 generalize upd H3 e (.lst [])=H4 at s4 g4 ⊢
 have s04:=s3.trans s4
 rcases hc with ⟨rfl,ht,hp⟩|⟨rfl,hxs,q,ht,hq⟩|⟨rfl,hxs,ht⟩
 ·refine ⟨tl,e,_,rfl,rfl,SqL.of (s4 _ _ ht),SqL.of g4,_,rfl,iteY rfl ?_⟩
  refine ⟨fun σ' H'=>∃ m',m' < 2∧∃ j3 j4 j5,σ'=[some (.ref f),some (.ref d),some (.ref tl),j3,j4,j5]∧Same H H'∧
   ((m'=2∧H' tl=some (.lst [.ref p])∧H' p=some (.tup [.ref f,.ref d]))∨(m'=1∧xs=[.str "more"]∧∃ q,H' tl=some (.lst [.ref q])∧H' q=some (.tup [.str "more",.str "more"]))∨(m'=0∧xs=[.str "more"]∧H' tl=some (.lst []))),fun _ _ h=>h,?_⟩
  have t4:=s4 _ _ ht
  refine ⟨_,rfl,.inl ⟨rfl,_,SqL.of t4⟩,tl,_,_,rfl,rfl,t4,rfl,?_⟩
  have s5:Same H (upd H4 tl (.lst [])):=jqr s04 n2
  have p5:(upd H4 tl (.lst [])) p=some (.tup [.ref f,.ref d]):=(jxh t4) _ _ (s4 _ _ hp)
  have t5:(upd H4 tl (.lst [])) tl=some (.lst []):=jq1
  show gTup K 2 _ _ _ (upd H4 tl (.lst [])) _
  generalize upd H4 tl (.lst [])=H5 at s5 p5 t5 ⊢
  refine ⟨p,_,rfl,SqT.of p5,rfl,_,_,rfl,_,_,rfl,rfl,?_⟩
  refine ⟨_,rfl,szl,fun q hq=>?_⟩
  have s6:=jq2 (o:=.tup [.ty "list",.ty "tuple"]) hq
  have g6:(upd H5 q (.tup [.ty "list",.ty "tuple"])) q=some (.tup [.ty "list",.ty "tuple"]):=jq1
  generalize upd H5 q (.tup [.ty "list",.ty "tuple"])=H6 at s6 g6 ⊢
  have s06:=s5.trans s6
  have f6:=s06 _ _ hf
  have d6:=s06 _ _ hd
  refine ⟨_,_,_,_,_,_,rfl,g6,.tup d6,jh3,_,rfl,iteT ?_⟩
  refine ⟨_,rfl,_,_,_,_,rfl,.tup f6,jkf,_,rfl,_,_,_,_,rfl,.tup d6,jkf,rfl,_,rfl,iteN rfl ?_⟩
  refine ⟨_,rfl,_,_,_,_,rfl,.tup f6,jqw,_,rfl,_,_,_,_,rfl,.tup d6,jqw,rfl,_,rfl,iteN rfl ?_⟩
  refine ⟨_,rfl,f,_,rfl,.inr (SqT.of f6),_,rfl,d,_,rfl,.inr (SqT.of d6),rfl,_,rfl,?_⟩
  rcases hx with ⟨rfl,k⟩|⟨hl,k⟩
  ·refine iteN rfl ?_
   refine ⟨_,rfl,d,_,rfl,.inr (SqT.of d6),(1:Int),rfl,by decide,by decide,?_⟩
   refine ⟨fun i n σ H'=>n=1 - i∧i≤1∧(∃ j5,σ=[some (.ref f),some (.ref d),some (.ref tl),some (.ref f),some (.ref d),j5])∧Same H H'∧((i=0∧H' tl=some (.lst []))∨(i=1∧∃ q,H' tl=some (.lst [.ref q])∧H' q=some (.tup [.str "more",.str "more"]))),⟨_,rfl,by omega,⟨_,rfl⟩,s06,.inl ⟨rfl,s6 _ _ t5⟩⟩,?_⟩
   rintro i n σ H7 ⟨rfl,hi,⟨j5,rfl⟩,s7,hc⟩
   rcases hc with ⟨rfl,t7⟩|⟨rfl,q7,t7,h7⟩
   ·refine .inr ⟨by show 0 < (1:Int).toNat;decide,_,fun σ2 H2 h=>⟨0,by omega,h⟩,?_⟩
    rintro v H8 ⟨rfl,rfl⟩
    refine ⟨_,rfl,.inl ⟨rfl,_,SqL.of t7⟩,?_⟩
    refine ⟨_,rfl,_,rfl,f,_,_,_,rfl,rfl,SqT.of (s7 _ _ hf),rfl,?_⟩
    refine ⟨_,rfl,_,rfl,d,_,_,_,rfl,rfl,SqT.of (s7 _ _ hd),rfl,szl,fun q2 hq2=>?_⟩
    have s8:=jq2 (o:=.tup [.str "more",.str "more"]) hq2
    have g8:(upd H8 q2 (.tup [.str "more",.str "more"])) q2=some (.tup [.str "more",.str "more"]):=jq1
    generalize upd H8 q2 (.tup [.str "more",.str "more"])=H9 at s8 g8 ⊢
    have t8:=s8 _ _ t7
    refine ⟨tl,_,_,rfl,rfl,t8,by rw [sizeLine_eq];simp,?_⟩
    exact ⟨rfl,by omega,⟨_,rfl⟩,jqr (s7.trans s8) n2,.inr ⟨rfl,q2,jq1,(jxh t8) _ _ g8⟩⟩
   ·refine .inl ⟨by show (1:Int).toNat≤1;decide,?_⟩
    exact ⟨1,by omega,_,_,_,rfl,s7,.inr (.inl ⟨rfl,rfl,q7,t7,h7⟩)⟩
  ·refine iteY (by simp;omega) ?_
   exact k _ s06
 ·refine ⟨tl,e,_,rfl,rfl,SqL.of (s4 _ _ ht),SqL.of g4,_,rfl,iteY rfl ?_⟩
  refine ⟨fun σ' H'=>∃ m',m' < 1∧∃ j3 j4 j5,σ'=[some (.ref f),some (.ref d),some (.ref tl),j3,j4,j5]∧Same H H'∧
   ((m'=2∧H' tl=some (.lst [.ref p])∧H' p=some (.tup [.ref f,.ref d]))∨(m'=1∧xs=[.str "more"]∧∃ q,H' tl=some (.lst [.ref q])∧H' q=some (.tup [.str "more",.str "more"]))∨(m'=0∧xs=[.str "more"]∧H' tl=some (.lst []))),fun _ _ h=>h,?_⟩
  have t4:=s4 _ _ ht
  refine ⟨_,rfl,.inl ⟨rfl,_,SqL.of t4⟩,tl,_,_,rfl,rfl,t4,rfl,?_⟩
  have s5:Same H (upd H4 tl (.lst [])):=jqr s04 n2
  have q5:(upd H4 tl (.lst [])) q=some (.tup [.str "more",.str "more"]):=(jxh t4) _ _ (s4 _ _ hq)
  have t5:(upd H4 tl (.lst [])) tl=some (.lst []):=jq1
  show gTup K 2 _ _ _ (upd H4 tl (.lst [])) _
  generalize upd H4 tl (.lst [])=H5 at s5 q5 t5 ⊢
  refine ⟨q,_,rfl,SqT.of q5,rfl,_,_,rfl,_,_,rfl,rfl,?_⟩
  refine ⟨_,rfl,szl,fun q hq=>?_⟩
  have s6:=jq2 (o:=.tup [.ty "list",.ty "tuple"]) hq
  have g6:(upd H5 q (.tup [.ty "list",.ty "tuple"])) q=some (.tup [.ty "list",.ty "tuple"]):=jq1
  generalize upd H5 q (.tup [.ty "list",.ty "tuple"])=H6 at s6 g6 ⊢
  refine ⟨_,_,_,_,_,_,rfl,g6,.str _,jro,_,rfl,iteF ?_⟩
  refine ⟨_,rfl,_,_,_,_,rfl,.str _,jx3,_,rfl,iteT ?_⟩
  refine ⟨_,rfl,_,_,_,_,rfl,.str _,jx3,_,rfl,iteF ?_⟩
  refine ⟨_,rfl,_,rfl,rfl,_,rfl,iteN (by simp) ?_⟩
  exact ⟨0,by omega,_,_,_,rfl,s5.trans s6,.inr (.inr ⟨rfl,hxs,s6 _ _ t5⟩)⟩
 ·refine ⟨tl,e,_,rfl,rfl,SqL.of (s4 _ _ ht),SqL.of g4,_,rfl,iteN rfl ?_⟩
  rcases hx with ⟨_,k⟩|⟨hl,k⟩
  ·exact k _ s04
  ·exact absurd (by rw [hxs];rfl) hl
def jkj:Sp:=fun vs H Q _=>∃ (l:Addr) (v1 v2 v3:V) (g1 g2 g3:G),vs=[.ref l]∧H l=some (.lst [v1,v2,v3])∧Bk H v1 v2 v3 g1 g2 g3∧
 ∀ (l':Addr) (w1 w2 w3:V) (H':Hp),Same H H'→H l'=none→H' l'=some (.lst [w1,w2,w3])→Bk H' w1 w2 w3 g1 g2 g3→Q (.ref l') H'
theorem rd_bcG (h:jkj vs H Q E):t_bc K (fin Q) (start ["_law_book"] vs) H:=by
 obtain ⟨l,v1,v2,v3,g1,g2,g3,rfl,hl,B,k⟩:=h
 let bs:List (Str×List Str×G):=[("star",[],g1),("sta",["sab"],g2),("st",["sab","tab"],g3)]
 have hget:∀ (i:Nat) (x:V),[v1,v2,v3][i]?=some x→∃ b,bs[i]?=some b∧StAt H b.1 b.2.1 b.2.2 x:=fun i x hx=>by
  match i,hx with
  | 0,hx=>cases hx;exact ⟨_,rfl,B.a⟩
  | 1,hx=>cases hx;exact ⟨_,rfl,B.b⟩
  | 2,hx=>cases hx;exact ⟨_,rfl,B.c⟩
  | n+3,hx=>simp at hx
 refine ⟨_,rfl,l,rfl,⟨_,SqL.of hl⟩,?_⟩
 refine ⟨fun i m zs H'=>m=3 - i∧i≤3∧zs.length=i∧Same H H'∧∀ (j:Nat) z b,zs[j]?=some z→bs[j]?=some b→StAt H' b.1 b.2.1 b.2.2 z,⟨3,by simp,Nat.zero_le _,rfl,fun _ _ h=>h,fun j z v h=>by simp at h⟩,?_⟩
 rintro i m zs H' ⟨rfl,hi,hz,s2,hw⟩
 by_cases hlt:i < 3
 ·refine .inr ⟨⟨_,[v1,v2,v3][i]'(by simpa using hlt),SqL.of (s2 _ _ hl),List.getElem?_eq_getElem _⟩,fun x H2 y=>?_⟩
  obtain ⟨e,y⟩:=y
  subst e
  have hx:=y _ (SqL.of (s2 _ _ hl))
  obtain ⟨b,eb,q,p,v,rfl,h1,h2,h4⟩:=hget i x hx
  have h1':=s2 _ _ h1
  refine ⟨_,rfl,q,_,_,_,rfl,rfl,SqT.of h1',rfl,_,rfl,q,_,_,_,rfl,rfl,SqT.of h1',rfl,p,_,rfl,.inl (SqL.of (s2 _ _ h2)),fun p' hp'=>?_⟩
  have s3:=jq2 (o:=.lst (b.2.1.map V.str)) hp'
  have g3:(upd H2 p' (.lst (b.2.1.map V.str))) p'=some (.lst (b.2.1.map V.str)):=jq1
  generalize upd H2 p' (.lst (b.2.1.map V.str))=H3 at s3 g3 ⊢
  refine ⟨_,rfl,q,_,_,_,rfl,rfl,SqT.of (s3 _ _ h1'),rfl,szl,fun q' hq'=>?_⟩
  have s4:=jq2 (o:=.tup [.str b.1,.ref p',v]) hq'
  have s34:=s3.trans s4
  refine ⟨by rw [hz,sizeLine_eq];omega,3 - (i+1),by omega,rfl,hlt,by simp [hz],s2.trans s34,fun j z c e1 e2=>?_⟩
  rcases Nat.lt_or_ge j zs.length with hj|hj
  ·rw [List.getElem?_append_left hj] at e1
   exact (hw j z c e1 e2).mono s34
  ·have hj2:j=i:=by
    have:=(List.getElem?_eq_some_iff.mp e1).1
    rw [List.length_append,List.length_singleton] at this;omega
   subst hj2
   rw [List.getElem?_append_right hj,hz,Nat.sub_self] at e1
   rw [eb] at e2
   cases e2
   have:z=.ref q':=by simpa using e1.symm
   exact ⟨q',p',v,this,jq1,s4 _ _ g3,(h4.mono (jqa s2)).mono (jqa s34)⟩
 ·have e:i=3:=by omega
  subst e
  refine .inl ⟨⟨_,SqL.of (s2 _ _ hl),by simp⟩,by rw [hz,sizeLine_eq];omega,fun l' hl'=>?_⟩
  match zs,hz with
  | [w1,w2,w3],_=>
   have s3:=jq2 (o:=.lst [w1,w2,w3]) hl'
   exact k l' w1 w2 w3 _ (s2.trans s3) (s2.free hl') jq1 ⟨(hw 0 w1 _ rfl rfl).mono s3,(hw 1 w2 _ rfl rfl).mono s3,(hw 2 w3 _ rfl rfl).mono s3⟩
def jv9 (Nst:Addr):Sp:=fun vs H Q _=>∃ (b:Addr) (v1 v2 v3 u:V) (g1 g2 g3 g:G),vs=[.ref b,u]∧H b=some (.lst [v1,v2,v3])∧Bk H v1 v2 v3 g1 g2 g3∧DG H g u∧(∀ y∈[g,g1,g2,g3],y.size≤5000∧jkc y)∧
 (∃ y∈[g,g1,g2,g3],∃ x,Inn x y∧¬ Fit x)∧∀ H',Q (.bl true) H'
def jpe (K:PySem.W.Frag) (a_NoStamp a_NoName a_NoPiece a_StampError a_Opening a_FreshWords:Addr) (ea:Addr):TS:=(tSeq (tAsg (tOp jm9 (tCB cInt (jq3 (tCB (rIsX K a_NoStamp ea) (jq3 (tVar 2) (jq3 (tC (.ref a_NoName)) tNil))) tNil)) (tCB cInt (jq3 (tCB (rIsX K a_NoStamp ea) (jq3 (tVar 2) (jq3 (tC (.ref a_NoStamp)) tNil))) tNil))) (jqk 3)) (tSeq (tAsg (tOp jm9 (tVar 3) (tCB cInt (jq3 (tCB (rIsX K a_NoStamp ea) (jq3 (tVar 2) (jq3 (tC (.ref a_NoPiece)) tNil))) tNil))) (jqk 3)) (tRet (je3 (tCB (rIsX K a_NoStamp ea) (jq3 (tVar 2) (jq3 (tC (.ty "ValueError")) tNil))) (tOp rEq (tVar 3) (tC (.int 1)))))))
def t_bt (K:PySem.W.Frag) (a_NoStamp a_NoName a_NoPiece a_StampError a_Opening a_FreshWords:Addr):TS:=(tSeq (ji1 K a_NoStamp a_StampError 2 (jn7 (jaf a_NoStamp a_Opening a_FreshWords) (jq3 (tVar 0) (jq3 (tVar 1) (jq3 (tC (.int 6)) tNil)))) (fun ea=>(jpe K a_NoStamp a_NoName a_NoPiece a_StampError a_Opening a_FreshWords ea))) (tRet (tC (.bl false))))
theorem rd_bt {n st pc se:Addr} (CC:S1.ClsOk K n st pc se) (h:jv9 n vs H Q E):t_bt K n st pc se C D (fin Q) (start ["_law_book","_law_piece","e","_law_many"] vs) H:=by
 obtain ⟨b,v1,v2,v3,u,g1,g2,g3,g,rfl,hb,B,dg,hsz,⟨y,hy,x,hx,nf⟩,k⟩:=h
 refine ⟨_,rfl,_,rfl,b,v1,v2,v3,u,g1,g2,g3,g,6,rfl,hb,B,dg,hsz,fun H' s _=>⟨rfl,CC.e2,fun ea hea=>?_⟩,fun fit=>absurd (fit y hy x hx) nf⟩
 refine ⟨_,rfl,.ref st,.ref st,false,rfl,rfl,fun _ z=>z,CC.k2,.inr ⟨false,rfl,?_⟩⟩
 refine ⟨_,rfl,.ref n,.ref n,true,rfl,rfl,fun _ z=>z,CC.k1,.inr ⟨true,rfl,_,_,rfl,rfl,?_⟩⟩
 refine ⟨_,rfl,_,rfl,.ref pc,.ref pc,false,rfl,rfl,fun _ z=>z,CC.k3,.inr ⟨false,rfl,_,_,rfl,rfl,?_⟩⟩
 refine ⟨_,rfl,.ty "ValueError",.type "ValueError",true,rfl,rfl,fun _ z=>z,CC.k4,true,rfl,iteT ?_⟩
 exact ⟨_,rfl,rfl,k _⟩
end S9
namespace S9
open PySem L2 SW
variable {K:PySem.W.Frag} {vs:List V} {H:Hp} {Q:VK} {E:XK} {C D:Addr}
theorem jz4 {S S':Str→Nat→Prop} (h:∀ w k,S w k→S' w k):∀ {t:T},WT S t→WT S' t
 | .num _,a=>a
 | .name _,a=>a
 | .sum _ _,a=>⟨jz4 h a.1,jz4 h a.2⟩
 | .less _ _,a=>⟨jz4 h a.1,jz4 h a.2⟩
 | .cho _ _ _,a=>⟨jz4 h a.1,jz4 h a.2.1,jz4 h a.2.2⟩
 | .lt _ _ _,a=>⟨a.1,jz4 h a.2.1,jz4 h a.2.2⟩
 | .st0 _,a=>h _ _ a
 | .st1 _ _,a=>⟨h _ _ a.1,jz4 h a.2⟩
 | .st2 _ _ _,a=>⟨h _ _ a.1,jz4 h a.2.1,jz4 h a.2.2⟩
theorem jwm:SF "star" 0:=if_pos rfl
theorem jei:SF "sta" 1:=by unfold SF fitN;rw [if_neg ne1.symm,if_pos rfl]
theorem jpk:SF "st" 2:=by unfold SF fitN;rw [if_neg ne2.symm,if_neg ne3.symm,if_pos rfl]
theorem jm2 {w:Str} {k:Nat} (h:jg3 w k):SF w k:=by
 rcases h with ⟨rfl,rfl⟩|⟨rfl,rfl⟩|⟨rfl,rfl⟩
 ·exact jpk
 ·exact jei
 ·exact jwm
theorem sf_b2 {w:Str} {k:Nat} (h:SB2 w k):SF w k:=by
 rcases h with ⟨rfl,rfl⟩|⟨rfl,rfl⟩
 ·exact jwm
 ·exact jei
theorem sf_b1 {w:Str} {k:Nat} (h:SB1 w k):SF w k:=by
 obtain ⟨rfl,rfl⟩:=h
 exact jwm
theorem jej {w:Str} {k:Nat} (h:SF w k):w.length≤1000:=by
 unfold SF fitN at h
 split at h
 ·rename_i e;subst e;decide+kernel
 ·split at h
  ·rename_i e;subst e;decide+kernel
  ·split at h
   ·rename_i e;subst e;decide+kernel
   ·cases h
def AllG (P:G→Prop) (g:G):Prop:=∀ x,Inn x g→P x
theorem AllG.mk {P:G→Prop} {g:G} (h:P g) (k:∀ x∈g.kids,AllG P x):AllG P g:=fun x i=>by
 cases i with
 | refl=>exact h
 | kid hk i=>exact k _ hk x i
def Sh (g:G):Prop:=∀ k w ks,g=.word k w ks→w.length≤1000
theorem jwl {g:G} (h:AllG Sh g):jkc g:=fun k w ks i=>h _ i k w ks rfl
theorem jze:∀ {t:T},WT SF t→AllG (fun g=>Fit g∧Sh g) (gOf t)
 | .num n,a=>.mk ⟨True.intro,fun _ _ _ e=>by cases e⟩ (fun x hx=>by simp [gOf,G.kids] at hx)
 | .name n,a=>.mk ⟨True.intro,fun _ _ _ e=>by cases e⟩ (fun x hx=>by simp [gOf,G.kids] at hx)
 | .sum p q,a=>.mk ⟨True.intro,fun _ _ _ e=>by cases e⟩ (fun x hx=>by
  simp only [gOf,G.kids,List.mem_cons,List.not_mem_nil,or_false] at hx
  rcases hx with rfl|rfl
  ·exact jze a.1
  ·exact jze a.2)
 | .less p q,a=>.mk ⟨True.intro,fun _ _ _ e=>by cases e⟩ (fun x hx=>by
  simp only [gOf,G.kids,List.mem_cons,List.not_mem_nil,or_false] at hx
  rcases hx with rfl|rfl
  ·exact jze a.1
  ·exact jze a.2)
 | .cho p q r,a=>.mk ⟨True.intro,fun _ _ _ e=>by cases e⟩ (fun x hx=>by
  simp only [gOf,G.kids,List.mem_cons,List.not_mem_nil,or_false] at hx
  rcases hx with rfl|rfl|rfl
  ·exact jze a.1
  ·exact jze a.2.1
  ·exact jze a.2.2)
 | .lt w p q,a=>.mk ⟨fun e=>absurd e (by decide+kernel),fun _ _ _ e=>by cases e;have:=a.1.few;omega⟩ (fun x hx=>by
  simp only [gOf,G.kids,List.mem_cons,List.not_mem_nil,or_false] at hx
  rcases hx with rfl|rfl
  ·exact jze a.2.1
  ·exact jze a.2.2)
 | .st0 w,a=>.mk ⟨fun _=>a,fun _ _ _ e=>by cases e;exact jej a⟩ (fun x hx=>by simp [gOf,G.kids] at hx)
 | .st1 w p,a=>.mk ⟨fun _=>a.1,fun _ _ _ e=>by cases e;exact jej a.1⟩ (fun x hx=>by
  simp only [gOf,G.kids,List.mem_cons,List.not_mem_nil,or_false] at hx
  subst hx
  exact jze a.2)
 | .st2 w p q,a=>.mk ⟨fun _=>a.1,fun _ _ _ e=>by cases e;exact jej a.1⟩ (fun x hx=>by
  simp only [gOf,G.kids,List.mem_cons,List.not_mem_nil,or_false] at hx
  rcases hx with rfl|rfl
  ·exact jze a.2.1
  ·exact jze a.2.2)
def lf:G:=.leaf "number" (.int 0)
def odds:List G:=[.word "stamp" "stay" [],.word "stamp" "st" [lf],.word "stamp" "st" [lf,lf,lf],.word "stamp" "st" [],.word "stamp" "sta" [],.word "stamp" "star" [lf]]
theorem jfl:fitN "st"=some 2:=jpk
theorem jmx:fitN "sta"=some 1:=jei
theorem jha:fitN "star"=some 0:=jwm
theorem jh9:fitN "stay"=none:=by
 unfold fitN
 rw [if_neg (by decide+kernel),if_neg (by decide+kernel),if_neg (by decide+kernel)]
theorem jrg {g:G} (h:g∈odds):¬ Fit g∧g.size≤4∧AllG Sh g:=by
 have lfs:AllG Sh lf:=.mk (fun _ _ _ e=>by cases e) (fun x hx=>by simp [lf,G.kids] at hx)
 have l3:∀ x∈[lf,lf,lf],AllG Sh x:=fun x hx=>by simp at hx;subst hx;exact lfs
 have l1:∀ x∈[lf],AllG Sh x:=fun x hx=>by simp at hx;subst hx;exact lfs
 have l0:∀ x∈([]:List G),AllG Sh x:=fun x hx=>by cases hx
 simp only [odds,List.mem_cons,List.not_mem_nil,or_false] at h
 rcases h with rfl|rfl|rfl|rfl|rfl|rfl
 ·exact ⟨(fun f=>by have:=f rfl;rw [jh9] at this;cases this),by simp [G.size,jxu],.mk (fun _ _ _ e=>by cases e;decide+kernel) l0⟩
 ·exact ⟨(fun f=>by have:=f rfl;rw [jfl] at this;cases this),by simp [G.size,jxu,lf],.mk (fun _ _ _ e=>by cases e;decide+kernel) l1⟩
 ·exact ⟨(fun f=>by have:=f rfl;rw [jfl] at this;cases this),by simp [G.size,jxu,lf],.mk (fun _ _ _ e=>by cases e;decide+kernel) l3⟩
 ·exact ⟨(fun f=>by have:=f rfl;rw [jfl] at this;cases this),by simp [G.size,jxu],.mk (fun _ _ _ e=>by cases e;decide+kernel) l0⟩
 ·exact ⟨(fun f=>by have:=f rfl;rw [jmx] at this;cases this),by simp [G.size,jxu],.mk (fun _ _ _ e=>by cases e;decide+kernel) l0⟩
 ·exact ⟨(fun f=>by have:=f rfl;rw [jha] at this;cases this),by simp [G.size,jxu,lf],.mk (fun _ _ _ e=>by cases e;decide+kernel) l1⟩
theorem js5 {b1 b2 b3 t:T} (w1:WT SF b1) (w2:WT SF b2) (w3:WT SF b3) (w:WT SF t) (z1:b1.size≤4) (z2:b2.size≤8) (z3:b3.size≤10) (y2:b2.names.length≤4) (y3:b3.names.length≤5) (z:t.size≤16):Asked b1 b2 b3 t 6:=by
 have bt:∀ (u:T) (n:Nat),WT SF u→u.size≤16→n≤2→BT u [] n:=fun u n hw hz hn=>by
  have:=u.names_len
  exact ⟨hw,by simp;omega,by omega,by omega,by omega⟩
 have bk:BkOk b1 b2 b3:=⟨bt _ _ w1 (by omega) (by omega),bt _ _ w2 (by omega) (by omega),bt _ _ w3 (by omega) (by omega)⟩
 have bm:BT t [] 0:=bt _ _ w z (by omega)
 refine ⟨bk,bm,fun ws hws st r hk=>?_,by decide⟩
 have I:=jvf bk r (jzz (F:=6) (ws:=ws) bm)
 have J:=jgm bk ⟨z1,⟨z2,y2⟩,⟨z3,y3⟩⟩ r (jzz (F:=6) (ws:=ws) bm) jd3 hk
 refine jgh I J (by omega) hk ?_
 have:t.size * 5 ^ 6≤16 * 5 ^ 6:=Nat.mul_le_mul_right _ z
 omega
def jli (K:PySem.W.Frag) (a_NoStamp a_NoName a_NoPiece a_StampError a_Opening a_FreshWords:Addr):TS:=(tAsg (tTup (jq3 (tC (.str "sum")) (jq3 (tVar 6) (jq3 (tVar 2) tNil)))) (jqk 2))
def jlh (K:PySem.W.Frag) (a_NoStamp a_NoName a_NoPiece a_StampError a_Opening a_FreshWords:Addr):TS:=(tAsg (tTup (jq3 (tC (.str "stamp")) (jq3 (tC (.str "st")) (jq3 (tVar 6) (jq3 (tVar 2) tNil))))) (jqk 2))
def jds (K:PySem.W.Frag) (a_NoStamp a_NoName a_NoPiece a_StampError a_Opening a_FreshWords:Addr):TS:=(tSeq (tAsg (tOp (rIxL K) (tVar 1) (tVar 7)) (gTup K 3 (jkg (jqk 8) (jkg (jqk 9) (jkg (jqk 10) gNil))))) (tAsg (tTup (jq3 (tVar 8) (jq3 (tVar 9) (jq3 (tTup (jq3 (tC (.str "sum")) (jq3 (tVar 10) (jq3 (tVar 6) tNil)))) tNil)))) (gSub (tVar 1) (tVar 7) jm7)))
def jlg (K:PySem.W.Frag) (a_NoStamp a_NoName a_NoPiece a_StampError a_Opening a_FreshWords:Addr):TS:=(tIfS (jx0 (tOp rGtI (tOp jj0 (tVar 3) (tC (.int 3))) (tC (.int 0)))) (jds K a_NoStamp a_NoName a_NoPiece a_StampError a_Opening a_FreshWords) jxt)
def jlf (K:PySem.W.Frag) (a_NoStamp a_NoName a_NoPiece a_StampError a_Opening a_FreshWords:Addr):TS:=(tIfS (tAnd (jx0 (tOp rGtI (tOp jj0 (tVar 3) (tC (.int 3))) (tC (.int 0)))) (jx0 (tOp rEq (tVar 7) (tC (.int 4))))) (jlh K a_NoStamp a_NoName a_NoPiece a_StampError a_Opening a_FreshWords) (jlg K a_NoStamp a_NoName a_NoPiece a_StampError a_Opening a_FreshWords))
def jle (K:PySem.W.Frag) (a_NoStamp a_NoName a_NoPiece a_StampError a_Opening a_FreshWords:Addr):TS:=(tIfS (tAnd (jx0 (tOp rGtI (tOp jj0 (tVar 3) (tC (.int 3))) (tC (.int 0)))) (jx0 (tOp rEq (tVar 7) (tC (.int 3))))) (jli K a_NoStamp a_NoName a_NoPiece a_StampError a_Opening a_FreshWords) (jlf K a_NoStamp a_NoName a_NoPiece a_StampError a_Opening a_FreshWords))
def jdr (K:PySem.W.Frag) (a_NoStamp a_NoName a_NoPiece a_StampError a_Opening a_FreshWords:Addr):TS:=(tAsg (tC (.bl true)) (jqk 12))
def jld (K:PySem.W.Frag) (a_NoStamp a_NoName a_NoPiece a_StampError a_Opening a_FreshWords:Addr):TS:=(tRet (je3 (tVar 12) (je3 (tOp rGtI (tOp jj0 (tVar 3) (tC (.int 3))) (tC (.int 0))) (jx7 (jv9 a_NoStamp) [] E0 (jq3 (tVar 1) (jq3 (tVar 2) tNil))))))
def jdq (K:PySem.W.Frag) (a_NoStamp a_NoName a_NoPiece a_StampError a_Opening a_FreshWords:Addr):TS:=(tIfS (tOr (tB (tVar 12)) (jx0 (tOp rGtI (tOp jj0 (tVar 3) (tC (.int 3))) (tC (.int 0))))) (jld K a_NoStamp a_NoName a_NoPiece a_StampError a_Opening a_FreshWords) jxt)
def t_law (K:PySem.W.Frag) (a_NoStamp a_NoName a_NoPiece a_StampError a_Opening a_FreshWords:Addr):TS:=(tSeq (tAsg (jx7 (jag K) [] E0 (jq3 (tSl (rSlL K) (tVar 0) (jzd (tC (.int 2))) (jzd (tC (.int 10)))) (jq3 (tC (.bl false)) tNil))) (jqk 1)) (tSeq (tAsg (jx7 (jae K) [] E0 (jq3 (tSl (rSlL K) (tVar 0) (jzd (tC (.int 10))) (jzd (tC (.int 17)))) tNil)) (jqk 2)) (tSeq (tAsg (jx7 (jcs K) [] E0 (jq3 (tVar 0) (jq3 (tC (.int 0)) tNil))) (jqk 3)) (tSeq (tAsg (tTup (jq3 (tC (.str "number")) (jq3 (tC (.int 0)) tNil))) (jqk 4)) (tSeq (tAsg (tLst (jq3 (tTup (jq3 (tC (.str "stamp")) (jq3 (tC (.str "stay")) tNil))) (jq3 (tTup (jq3 (tC (.str "stamp")) (jq3 (tC (.str "st")) (jq3 (tVar 4) tNil)))) (jq3 (tTup (jq3 (tC (.str "stamp")) (jq3 (tC (.str "st")) (jq3 (tVar 4) (jq3 (tVar 4) (jq3 (tVar 4) tNil)))))) tNil)))) (jqk 5)) (tSeq (tAsg (tOp rCat (tVar 5) (tLst (jq3 (tTup (jq3 (tC (.str "stamp")) (jq3 (tC (.str "st")) tNil))) (jq3 (tTup (jq3 (tC (.str "stamp")) (jq3 (tC (.str "sta")) tNil))) (jq3 (tTup (jq3 (tC (.str "stamp")) (jq3 (tC (.str "star")) (jq3 (tVar 4) tNil)))) tNil))))) (jqk 5)) (tSeq (tAsg (tOp (rIxL K) (tVar 5) (tOp jj0 (tOp jb8 (tVar 3) (tC (.int 3))) (tC (.int 6)))) (jqk 6)) (tSeq (tAsg (tOp jj0 (jx7 (jcs K) [] E0 (jq3 (tVar 0) (jq3 (tC (.int 1)) tNil))) (tC (.int 5))) (jqk 7)) (tSeq (jle K a_NoStamp a_NoName a_NoPiece a_StampError a_Opening a_FreshWords) (tSeq (tAsg (tC .non) (jqk 11)) (tSeq (tAsg (tC (.bl false)) (jqk 12)) (tSeq (tTry K a_NoStamp (xAsg (jaf a_NoStamp a_Opening a_FreshWords) 11 (jq3 (jx7 jkj [] E0 (jq3 (tVar 1) tNil)) (jq3 (tVar 2) (jq3 (tC (.int 6)) tNil)))) (jdr K a_NoStamp a_NoName a_NoPiece a_StampError a_Opening a_FreshWords)) (tSeq (jdq K a_NoStamp a_NoName a_NoPiece a_StampError a_Opening a_FreshWords) (tRet (tOrV (jx7 jw5 [] E0 (jq3 (tVar 11) (jq3 (tTup (jq3 (tC (.str "more")) tNil)) tNil))) (jx7 jw6 [] E0 (jq3 (tVar 11) tNil)))))))))))))))))
theorem jpj {H:Hp} {s:Src} {v:V} (h:SrAt H s v):js6 H v:=by
 obtain ⟨q,pp,e,h1,h2⟩:=h
 refine ⟨q,pp,s.1,s.2.map fun i:Nat=>(i:Int),e,h1,?_⟩
 rw [h2,List.map_map]
 rfl
theorem jik {α:Type} {A:α→V→Prop}:∀ {as:List α} {vs:List V} {v:V},Al A as vs→v∈vs→∃ a,A a v
 | _,_,_,.cons h r,m=>by
  rcases List.mem_cons.mp m with rfl|m
  ·exact ⟨_,h⟩
  ·exact jik r m
theorem jzq {Ns Nn Np Se:Addr} (CC:S1.ClsOk K Ns Nn Np Se) {a bl:Addr} {seed spot:Int} {v1 v2 v3 u lfv badv oddv:V} {g1 g2 g3 g:G} {j8 j9 j10:Option V} (hb:H bl=some (.lst [v1,v2,v3])) (B:Bk H v1 v2 v3 g1 g2 g3) (dg:DG H g u) (hsz:∀ y∈[g,g1,g2,g3],y.size≤5000∧jkc y)
  (hc:(0 < seed % 3∧∃ y∈[g,g1,g2,g3],∃ x,Inn x y∧¬ Fit x)∨(¬ 0 < seed % 3∧(∀ y∈[g,g1,g2,g3],∀ x,Inn x y→Fit x)∧∃ t b1 b2 b3,g=gOf t∧g1=gOf b1∧g2=gOf b2∧g3=gOf b3∧Asked b1 b2 b3 t 6)) (hQ:∀ H',Q (.bl true) H') :
  (tSeq (tAsg (tC .non) (jqk 11)) (tSeq (tAsg (tC (.bl false)) (jqk 12)) (tSeq (tTry K Ns (xAsg (jaf Ns C D) 11 (jq3 (jx7 jkj [] E0 (jq3 (tVar 1) tNil)) (jq3 (tVar 2) (jq3 (tC (.int 6)) tNil)))) (jdr K Ns Nn Np Se C D)) (tSeq (jdq K Ns Nn Np Se C D) (tRet (tOrV (jx7 jw5 [] E0 (jq3 (tVar 11) (jq3 (tTup (jq3 (tC (.str "more")) tNil)) tNil))) (jx7 jw6 [] E0 (jq3 (tVar 11) tNil)))))))) (fin Q) [some (.ref a),some (.ref bl),some u,some (.int seed),some lfv,some badv,some oddv,some (.int spot),j8,j9,j10,none,none] H:=by
 refine ⟨_,rfl,bl,v1,v2,v3,g1,g2,g3,rfl,hb,B,fun l' w1 w2 w3 H1 s1 n1 h1 B1=>?_⟩
 refine ⟨_,rfl,l',w1,w2,w3,u,g1,g2,g3,g,6,rfl,h1,B1,dg.mono (jqa s1),hsz,fun H2 s2 bad=>⟨CC.e1,?_⟩,fun fit=>?_⟩
 ·rcases hc with ⟨hpos,hbad⟩|⟨_,hfit,_⟩
  ·have s12:=s1.trans s2
   refine ⟨_,rfl,_,rfl,iteT (iteT ?_)⟩
   refine ⟨_,rfl,true,rfl,iteT ⟨_,rfl,_,_,rfl,rfl,(show (0:Int) < 3 by decide),_,_,rfl,rfl,_,rfl,iteY (decide_eq_true hpos) ?_⟩⟩
   exact ⟨_,rfl,_,rfl,bl,v1,v2,v3,u,g1,g2,g3,g,rfl,s12 _ _ hb,B.mono s12,dg.mono (jqa s12),hsz,hbad,fun H'=>hQ H'⟩
  ·obtain ⟨y,hy,x,hx,nf⟩:=bad
   exact absurd (hfit y hy x hx) nf
 ·rcases hc with ⟨hpos,y,hy,x,hx,nf⟩|⟨hneg,hfit,t,b1,b2,b3,e,e1,e2,e3,ask⟩
  ·exact absurd (fit y hy x hx) nf
  ·refine ⟨t,b1,b2,b3,e,e1,e2,e3,ask,fun p ws st H2 s2 hp hws rch hk=>?_,fun p l x us ws st W tt H2 s2 hp en dx hl ds=>?_⟩
   ·refine ⟨_,rfl,_,rfl,iteF ⟨_,rfl,_,_,rfl,rfl,(show (0:Int) < 3 by decide),_,_,rfl,rfl,_,rfl,iteN (decide_eq_false hneg) ?_⟩⟩
    refine ⟨_,rfl,szl,fun d hd=>?_⟩
    have s3:=jq2 (o:=.tup [.str "more"]) hd
    exact ⟨p,d,_,rfl,s3 _ _ hp,jq1,.inl ⟨rfl,fun H' s=>⟨true,rfl,iteT (hQ _)⟩⟩⟩
   ·refine ⟨_,rfl,_,rfl,iteF ⟨_,rfl,_,_,rfl,rfl,(show (0:Int) < 3 by decide),_,_,rfl,rfl,_,rfl,iteN (decide_eq_false hneg) ?_⟩⟩
    refine ⟨_,rfl,szl,fun d hd=>?_⟩
    have s3:=jq2 (o:=.tup [.str "more"]) hd
    refine ⟨p,d,_,rfl,s3 _ _ hp,jq1,.inr ⟨by simp,fun H' s=>⟨false,rfl,iteF ?_⟩⟩⟩
    have I:=jvf ask.bk en.rch (jzz (ws:=ws) ask.bt)
    have fine:=jv7 en.wr (I.rk en.few)
    have bdR:Bd st.R 1:=by
     have:=I.pn
     rw [en.emp] at this
     have:=jmd this .nil
     rwa [List.append_nil] at this
    have hf:=fine.one bdR I.ro en.out
    have SM:=(ask.sm ws en.wl st en.rch en.few).wt
    refine ⟨_,rfl,p,l,x,tt,st.k,us,rfl,(s3.trans s) _ _ hp,dx.mono (jqa (s3.trans s)),by omega,(s3.trans s) _ _ hl,fun v hv=>?_,fun H'' _=>hQ _⟩
    obtain ⟨sr,hsr⟩:=jik ds hv
    exact jpj (hsr.mono (jqa (s3.trans s)))
end S9
namespace S9
open PySem L2 SW
variable {K:PySem.W.Frag} {vs:List V} {H:Hp} {Q:VK} {E:XK} {C D Ns Nn Np Se:Addr}
theorem jmu {n j:Nat} (h:j < n):ixN n (j:Int)=some j:=by
 unfold ixN
 rw [if_pos (by omega),if_pos (by omega)];simp
theorem jkb {H:Hp} {l:Addr} {w:Str} {ps:List Str} {t:T} {u:V} (h:BkAt H l (w,ps,t) u):StAt H w ps (gOf t) u:=by
 obtain ⟨q,p,v,e,h1,h2,_,h4⟩:=h
 exact ⟨q,p,v,e,h1,h2,jjk h4⟩
theorem jk7 {a bl:Addr} {us:List V} {bv u oddv lfv badv:V} {seed spot:Int} {j:Nat} {w:Str} {ps:List Str} {tj:T} {odd:G} {Dd:Ends} {j8 j9 j10:Option V} (hbl:H bl=some (.lst us)) (hj:us[j]?=some bv) (bat:BkAt H bl (w,ps,tj) bv) (dodd:DG H odd oddv) (hs:spot=(j:Int))
  (k:∀ (nv:V) (H':Hp) (j8 j9 j10:Option V),TupLe H H'→(∀ p xs,p≠bl→H p=some (.lst xs)→H' p=some (.lst xs))→H' bl=some (.lst (us.set j nv))→StAt H' w ps (.plain "sum" [gOf tj,odd]) nv→Dd.nx [some (.ref a),some (.ref bl),some u,some (.int seed),some lfv,some badv,some oddv,some (.int spot),j8,j9,j10,none,none] H') :
  jds K Ns Nn Np Se C D Dd [some (.ref a),some (.ref bl),some u,some (.int seed),some lfv,some badv,some oddv,some (.int spot),j8,j9,j10,none,none] H:=by
 subst hs
 obtain ⟨q,p,x,rfl,h1,h2,hp,h4⟩:=bat
 have hjl:j < us.length:=(List.getElem?_eq_some_iff.mp hj).1
 refine ⟨_,rfl,_,rfl,bl,_,_,_,rfl,rfl,SqL.of hbl,jqd hj,q,_,rfl,SqT.of h1,rfl,_,_,rfl,_,_,rfl,_,_,rfl,rfl,?_⟩
 refine ⟨_,rfl,_,rfl,_,rfl,_,rfl,szl,fun p1 hp1=>⟨szl,fun p2 hp2=>?_⟩⟩
 have s1:=jq2 (o:=.tup [.str "sum",x,oddv]) hp1
 have g1:(upd H p1 (.tup [.str "sum",x,oddv])) p1=some (.tup [.str "sum",x,oddv]):=jq1
 generalize upd H p1 (.tup [.str "sum",x,oddv])=H1 at s1 g1 hp2 ⊢
 have s2:=jq2 (o:=.tup [.str w,.ref p,.ref p1]) hp2
 have g2:(upd H1 p2 (.tup [.str w,.ref p,.ref p1])) p2=some (.tup [.str w,.ref p,.ref p1]):=jq1
 show gSub _ _ _ _ _ (upd H1 p2 (.tup [.str w,.ref p,.ref p1])) _
 generalize upd H1 p2 (.tup [.str w,.ref p,.ref p1])=H2 at s2 g2 ⊢
 have s12:=s1.trans s2
 have b2:=s12 _ _ hbl
 refine ⟨_,rfl,_,rfl,bl,_,_,j,rfl,rfl,b2,jmu hjl,?_⟩
 have t3:TupLe H2 (upd H2 bl (.lst (us.set j (.ref p2)))):=jxh b2
 refine k (.ref p2) _ _ _ _ ((jqa s12).trans t3) (fun p xs n h=>by rw [jqb n];exact s12 _ _ h) jq1 ⟨p2,p,.ref p1,rfl,t3 _ _ g2,by rw [jqb hp];exact s12 _ _ h2,?_⟩
 have d:=DGs.cons (((jjk h4).mono (jqa s12)).mono t3) (.cons ((dodd.mono (jqa s12)).mono t3) .nil)
 exact .mk (g:=.plain "sum" [gOf tj,odd]) (us:=[x,oddv]) ⟨by decide+kernel,by decide+kernel,by decide+kernel,by decide+kernel⟩ (t3 _ _ (s2 _ _ g1)) rfl d.2
theorem jv4 {t:T} {n:Nat} (h:t.size≤n) (hn:n≤100) (w:WT SF t):(gOf t).size≤5000∧jkc (gOf t):=⟨by rw [jxs];omega,jwl fun x i=>(jze w x i).2⟩
theorem jaa {a b:G} {k:Str} (h1:AllG Sh a) (h2:AllG Sh b):jkc (.plain k [a,b]):=jwl (.mk (fun _ _ _ e=>by cases e) (fun x hx=>by
 simp only [G.kids,List.mem_cons,List.not_mem_nil,or_false] at hx
 rcases hx with rfl|rfl
 ·exact h1
 ·exact h2))
theorem jgg {a b:G} (h1:AllG Sh a) (h2:AllG Sh b):jkc (.word "stamp" "st" [a,b]):=jwl (.mk (fun _ _ _ e=>by cases e;decide+kernel) (fun x hx=>by
 simp only [G.kids,List.mem_cons,List.not_mem_nil,or_false] at hx
 rcases hx with rfl|rfl
 ·exact h1
 ·exact h2))
theorem jm1 {t:T} (w:WT SF t):AllG Sh (gOf t):=fun x i=>(jze w x i).2
theorem rd_law (CC:S1.ClsOk K Ns Nn Np Se) (h:S1.spLaw K vs H Q E):t_law K Ns Nn Np Se C D (fin Q) (start ["_law_script","_law_book","_law_piece","_law_seed","_law_leaf","_law_bad","_law_odd","_law_spot","_law_word","_law_places","_law_body","_law_found","_law_refused"] vs) H:=by
 obtain ⟨a,ns,rfl,ha,hl,hQ⟩:=h
 obtain ⟨ms,em,hm1,hm2⟩:=jvw ns (some 2) (some 10)
 refine ⟨_,rfl,_,rfl,_,rfl,a,_,rfl,ha,fun q hq=>?_⟩
 refine ⟨q,false,ms,rfl,SqL.of (by rw [jq1,em]),by omega,fun bl bus t0 t1 t2 H1 s1 nbl hbl bkl w0 w1 w2 z0 z1 z2 y1 y2=>?_⟩
 have sA:=(jq2 (o:=.lst (cutV (ns.map V.int) (some 2) (some 10))) hq).trans s1
 clear s1 hq
 obtain ⟨ms2,em2,hm3,hm4⟩:=jvw ns (some 10) (some 17)
 refine ⟨_,rfl,_,rfl,_,rfl,a,_,rfl,sA.seq ha,fun q2 hq2=>?_⟩
 refine ⟨q2,ms2,rfl,SqL.of (by rw [jq1,em2]),by omega,fun t v H2 s2 dt wt hsz hnm=>?_⟩
 have hm7:ms2.length≤7:=by
  have ea:HT.sIx ns.length ns.length (some 17)=min 17 ns.length:=jb5 ns.length ns.length 17
  have eb:HT.sIx ns.length 0 (some 10)=min 10 ns.length:=jb5 ns.length 0 10
  rw [ea,eb] at hm3;omega
 have sB:Same H1 H2:=(jq2 (o:=.lst (cutV (ns.map V.int) (some 10) (some 17))) hq2).trans s2
 clear s2 hq2
 have w0:WT SF t0:=jz4 (fun w k z=>z.elim) w0
 have w1:WT SF t1:=jz4 (fun w k=>sf_b1) w1
 have w2:WT SF t2:=jz4 (fun w k=>sf_b2) w2
 have wt:WT SF t:=jz4 (fun w k=>jm2) wt
 cases bkl with|cons B0 bkl=>cases bkl with|cons B1 bkl=>cases bkl with|cons B2 bkl=>cases bkl with|nil=>
 rename_i u0 u1 u2
 refine ⟨_,rfl,a,ns,0,rfl,(sA.trans sB).seq ha,fun seed=>?_⟩
 refine ⟨szl,fun lv hlv=>?_⟩
 have s3:=jq2 (o:=.tup [.str "number",.int 0]) hlv
 have g3:(upd H2 lv (.tup [.str "number",.int 0])) lv=some (.tup [.str "number",.int 0]):=jq1
 show tSeq _ _ _ _ (upd H2 lv (.tup [.str "number",.int 0]))
 generalize upd H2 lv (.tup [.str "number",.int 0])=H3 at s3 g3 ⊢
 have dlf:DG H3 lf (.ref lv):=.mk (us:=[]) (.inl rfl) g3 rfl fun i k u e=>by simp [lf,G.kids] at e
 refine ⟨szl,fun o1 ho1=>?_⟩
 have r1:=jq2 (o:=.tup [.str "stamp",.str "stay"]) ho1
 have e1:(upd H3 o1 (.tup [.str "stamp",.str "stay"])) o1=some (.tup [.str "stamp",.str "stay"]):=jq1
 generalize upd H3 o1 (.tup [.str "stamp",.str "stay"])=I1 at r1 e1 ⊢
 refine ⟨_,rfl,szl,fun o2 ho2=>?_⟩
 have r2:=jq2 (o:=.tup [.str "stamp",.str "st",.ref lv]) ho2
 have e2:(upd I1 o2 (.tup [.str "stamp",.str "st",.ref lv])) o2=some (.tup [.str "stamp",.str "st",.ref lv]):=jq1
 generalize upd I1 o2 (.tup [.str "stamp",.str "st",.ref lv])=I2 at r2 e2 ⊢
 refine ⟨_,rfl,_,rfl,_,rfl,szl,fun o3 ho3=>?_⟩
 have r3:=jq2 (o:=.tup [.str "stamp",.str "st",.ref lv,.ref lv,.ref lv]) ho3
 have e3:(upd I2 o3 (.tup [.str "stamp",.str "st",.ref lv,.ref lv,.ref lv])) o3=some (.tup [.str "stamp",.str "st",.ref lv,.ref lv,.ref lv]):=jq1
 generalize upd I2 o3 (.tup [.str "stamp",.str "st",.ref lv,.ref lv,.ref lv])=I3 at r3 e3 ⊢
 refine ⟨szl,fun l1 hl1=>?_⟩
 have r4:=jq2 (o:=.lst [.ref o1,.ref o2,.ref o3]) hl1
 have e4:(upd I3 l1 (.lst [.ref o1,.ref o2,.ref o3])) l1=some (.lst [.ref o1,.ref o2,.ref o3]):=jq1
 show tSeq _ _ _ _ (upd I3 l1 (.lst [.ref o1,.ref o2,.ref o3]))
 generalize upd I3 l1 (.lst [.ref o1,.ref o2,.ref o3])=I4 at r4 e4 ⊢
 refine ⟨_,rfl,szl,fun o4 ho4=>?_⟩
 have r5:=jq2 (o:=.tup [.str "stamp",.str "st"]) ho4
 have e5:(upd I4 o4 (.tup [.str "stamp",.str "st"])) o4=some (.tup [.str "stamp",.str "st"]):=jq1
 generalize upd I4 o4 (.tup [.str "stamp",.str "st"])=I5 at r5 e5 ⊢
 refine ⟨szl,fun o5 ho5=>?_⟩
 have r6:=jq2 (o:=.tup [.str "stamp",.str "sta"]) ho5
 have e6:(upd I5 o5 (.tup [.str "stamp",.str "sta"])) o5=some (.tup [.str "stamp",.str "sta"]):=jq1
 generalize upd I5 o5 (.tup [.str "stamp",.str "sta"])=I6 at r6 e6 ⊢
 refine ⟨_,rfl,szl,fun o6 ho6=>?_⟩
 have r7:=jq2 (o:=.tup [.str "stamp",.str "star",.ref lv]) ho6
 have e7:(upd I6 o6 (.tup [.str "stamp",.str "star",.ref lv])) o6=some (.tup [.str "stamp",.str "star",.ref lv]):=jq1
 generalize upd I6 o6 (.tup [.str "stamp",.str "star",.ref lv])=I7 at r7 e7 ⊢
 refine ⟨szl,fun l2 hl2=>?_⟩
 have r8:=jq2 (o:=.lst [.ref o4,.ref o5,.ref o6]) hl2
 have e8:(upd I7 l2 (.lst [.ref o4,.ref o5,.ref o6])) l2=some (.lst [.ref o4,.ref o5,.ref o6]):=jq1
 generalize upd I7 l2 (.lst [.ref o4,.ref o5,.ref o6])=I8 at r8 e8 ⊢
 have q78:=r8
 have q68:=r7.trans q78
 have q58:=r6.trans q68
 have q48:=r5.trans q58
 have q38:=r4.trans q48
 have q28:=r3.trans q38
 have q18:=r2.trans q28
 have q08:=r1.trans q18
 refine ⟨l1,l2,_,_,rfl,rfl,q48 _ _ e4,e8,by rw [sizeLine_eq];simp,fun l3 hl3=>?_⟩
 have r9:=jq2 (o:=.lst ([.ref o1,.ref o2,.ref o3]++[.ref o4,.ref o5,.ref o6])) hl3
 have e9:(upd I8 l3 (.lst ([.ref o1,.ref o2,.ref o3]++[.ref o4,.ref o5,.ref o6]))) l3=some (.lst [.ref o1,.ref o2,.ref o3,.ref o4,.ref o5,.ref o6]):=jq1
 show tSeq _ _ _ _ (upd I8 l3 (.lst ([.ref o1,.ref o2,.ref o3]++[.ref o4,.ref o5,.ref o6])))
 generalize upd I8 l3 (.lst ([.ref o1,.ref o2,.ref o3]++[.ref o4,.ref o5,.ref o6]))=I9 at r9 e9 ⊢
 have dl9:=dlf.mono (jqa (q08.trans r9))
 have all9:∀ x∈[V.ref o1,.ref o2,.ref o3,.ref o4,.ref o5,.ref o6],∃ g∈odds,DG I9 g x:=by
  intro x hx
  simp only [List.mem_cons,List.not_mem_nil,or_false] at hx
  have dn:DGs I9 [] []:=.nil
  have d1:DGs I9 [lf] [.ref lv]:=.cons dl9 .nil
  have d3:DGs I9 [lf,lf,lf] [.ref lv,.ref lv,.ref lv]:=.cons dl9 (.cons dl9 (.cons dl9 .nil))
  rcases hx with rfl|rfl|rfl|rfl|rfl|rfl
  ·exact ⟨.word "stamp" "stay" [],by simp [odds],.mk (us:=[]) (.inr rfl) ((q18.trans r9) _ _ e1) rfl dn.2⟩
  ·exact ⟨.word "stamp" "st" [lf],by simp [odds],.mk (us:=[.ref lv]) (.inr rfl) ((q28.trans r9) _ _ e2) rfl d1.2⟩
  ·exact ⟨.word "stamp" "st" [lf,lf,lf],by simp [odds],.mk (us:=[.ref lv,.ref lv,.ref lv]) (.inr rfl) ((q38.trans r9) _ _ e3) rfl d3.2⟩
  ·exact ⟨.word "stamp" "st" [],by simp [odds],.mk (us:=[]) (.inr rfl) ((q58.trans r9) _ _ e5) rfl dn.2⟩
  ·exact ⟨.word "stamp" "sta" [],by simp [odds],.mk (us:=[]) (.inr rfl) ((q68.trans r9) _ _ e6) rfl dn.2⟩
  ·exact ⟨.word "stamp" "star" [lf],by simp [odds],.mk (us:=[.ref lv]) (.inr rfl) ((q78.trans r9) _ _ e7) rfl d1.2⟩
 have s29:Same H2 I9:=s3.trans (q08.trans r9)
 have s09:Same H I9:=(sA.trans sB).trans s29
 have s19:Same H1 I9:=sB.trans s29
 clear r1 r2 r3 r4 r5 r6 r7 r8 r9 e1 e2 e3 e4 e5 e6 e7 e8 q78 q68 q58 q48 q38 q28 q18 q08 ho1 ho2 ho3 ho4 ho5 ho6 hl1 hl2 hl3 hlv dlf s3 g3 dl9
 obtain ⟨ov,hov,eov⟩:=jkt (xs:=[V.ref o1,.ref o2,.ref o3,.ref o4,.ref o5,.ref o6]) (i:=seed / 3 % 6) (by omega) (by simp;omega)
 obtain ⟨odd,hodd,dodd⟩:=all9 ov hov
 obtain ⟨nf,zo,so⟩:=jrg hodd
 have c3:(0:Int) < 3:=by decide
 refine ⟨_,rfl,_,rfl,_,_,rfl,rfl,⟨c3,by decide⟩,_,_,rfl,rfl,(show (0:Int) < 6 by decide),l3,_,_,_,rfl,rfl,SqL.of e9,eov,?_⟩
 refine ⟨_,rfl,a,ns,1,rfl,s09.seq ha,fun n1=>⟨_,_,rfl,rfl,(show (0:Int) < 5 by decide),?_⟩⟩
 have b9:=s19 _ _ hbl
 have B0:=B0.mono (jqa s19) fun p xs _ h=>s19 _ _ h
 have B1:=B1.mono (jqa s19) fun p xs _ h=>s19 _ _ h
 have B2:=B2.mono (jqa s19) fun p xs _ h=>s19 _ _ h
 have dt9:=jjk (dt.mono (jqa s29))
 have Z0:=jv4 z0 (by omega) w0
 have Z1:=jv4 z1 (by omega) w1
 have Z2:=jv4 z2 (by omega) w2
 have ZT:=jv4 (n:=16) (t:=t) (by omega) (by omega) wt
 have four:∀ {g g1 g2 g3:G},(g.size≤5000∧jkc g)→(g1.size≤5000∧jkc g1)→(g2.size≤5000∧jkc g2)→(g3.size≤5000∧jkc g3)→∀ y∈[g,g1,g2,g3],y.size≤5000∧jkc y:=fun a b c d y hy=>by
  simp only [List.mem_cons,List.not_mem_nil,or_false] at hy
  rcases hy with rfl|rfl|rfl|rfl
  ·exact a
  ·exact b
  ·exact c
  ·exact d
 have gs:∀ {g:T} {n:Nat},g.size≤n→n≤100→(gOf g).size≤100:=fun h hn=>by rw [jxs];omega
 by_cases hp:0 < seed % 3
 ·refine ⟨_,rfl,_,_,rfl,rfl,c3,_,_,rfl,rfl,_,rfl,iteY (decide_eq_true hp) ⟨_,rfl,rfl,_,rfl,?_⟩⟩
  by_cases h3:n1 % 5=3
  ·refine iteY (decide_eq_true (congrArg V.int h3)) ?_
   refine ⟨_,rfl,_,rfl,szl,fun p hpn=>?_⟩
   have s:=jq2 (o:=.tup [.str "sum",ov,v]) hpn
   have e:(upd I9 p (.tup [.str "sum",ov,v])) p=some (.tup [.str "sum",ov,v]):=jq1
   show tSeq _ _ _ _ (upd I9 p (.tup [.str "sum",ov,v]))
   generalize upd I9 p (.tup [.str "sum",ov,v])=J at s e ⊢
   have d:=DGs.cons (dodd.mono (jqa s)) (.cons (dt9.mono (jqa s)) .nil)
   refine jzq CC (g:=.plain "sum" [odd,gOf t]) (s _ _ b9) ⟨(jkb B0).mono s,(jkb B1).mono s,(jkb B2).mono s⟩ (.mk (us:=[ov,v]) ⟨by decide+kernel,by decide+kernel,by decide+kernel,by decide+kernel⟩ e rfl d.2) (four ⟨?_,jaa so (jm1 wt)⟩ Z0 Z1 Z2) (.inl ⟨hp,_,.head _,odd,.kid (by simp [G.kids]) .refl,nf⟩) hQ
   have:=gs (g:=t) (n:=16) (by omega) (by omega)
   simp only [G.size,jxu];omega
  ·refine iteN (decide_eq_false fun z=>h3 (V.int.inj z)) ?_
   refine ⟨_,rfl,_,_,rfl,rfl,c3,_,_,rfl,rfl,_,rfl,iteY (decide_eq_true hp) ⟨_,rfl,rfl,_,rfl,?_⟩⟩
   by_cases h4:n1 % 5=4
   ·refine iteY (decide_eq_true (congrArg V.int h4)) ?_
    refine ⟨_,rfl,_,rfl,szl,fun p hpn=>?_⟩
    have s:=jq2 (o:=.tup [.str "stamp",.str "st",ov,v]) hpn
    have e:(upd I9 p (.tup [.str "stamp",.str "st",ov,v])) p=some (.tup [.str "stamp",.str "st",ov,v]):=jq1
    show tSeq _ _ _ _ (upd I9 p (.tup [.str "stamp",.str "st",ov,v]))
    generalize upd I9 p (.tup [.str "stamp",.str "st",ov,v])=J at s e ⊢
    have d:=DGs.cons (dodd.mono (jqa s)) (.cons (dt9.mono (jqa s)) .nil)
    refine jzq CC (g:=.word "stamp" "st" [odd,gOf t]) (s _ _ b9) ⟨(jkb B0).mono s,(jkb B1).mono s,(jkb B2).mono s⟩ (.mk (us:=[ov,v]) (.inr rfl) e rfl d.2) (four ⟨?_,jgg so (jm1 wt)⟩ Z0 Z1 Z2) (.inl ⟨hp,_,.head _,odd,.kid (by simp [G.kids]) .refl,nf⟩) hQ
    have:=gs (g:=t) (n:=16) (by omega) (by omega)
    simp only [G.size,jxu];omega
   ·refine iteN (decide_eq_false fun z=>h4 (V.int.inj z)) ?_
    refine ⟨_,rfl,_,_,rfl,rfl,c3,_,_,rfl,rfl,_,rfl,iteY (decide_eq_true hp) ?_⟩
    have odz:∀ {g:T} {n:Nat},g.size≤n→n≤100→WT SF g→(G.plain "sum" [gOf g,odd]).size≤5000∧jkc (G.plain "sum" [gOf g,odd]):=fun {g n} h hn hw=>by
     have:=gs h hn
     exact ⟨by simp only [G.size,jxu];omega,jaa (jm1 hw) so⟩
    have cases3:n1 % 5=((0:Nat):Int)∨n1 % 5=((1:Nat):Int)∨n1 % 5=((2:Nat):Int):=by omega
    rcases cases3 with h|h|h
    ·refine jk7 b9 (j:=0) rfl B0 dodd h fun nv J j8 j9 j10 tl lk hb st=>?_
     exact jzq CC (g:=gOf t) (g1:=.plain "sum" [gOf t0,odd]) hb ⟨st,jkb (B1.mono tl lk),jkb (B2.mono tl lk)⟩ (dt9.mono tl) (four ZT (odz z0 (by omega) w0) Z1 Z2) (.inl ⟨hp,.plain "sum" [gOf t0,odd],by simp,odd,.kid (by simp [G.kids]) .refl,nf⟩) hQ
    ·refine jk7 b9 (j:=1) rfl B1 dodd h fun nv J j8 j9 j10 tl lk hb st=>?_
     exact jzq CC (g:=gOf t) (g2:=.plain "sum" [gOf t1,odd]) hb ⟨jkb (B0.mono tl lk),st,jkb (B2.mono tl lk)⟩ (dt9.mono tl) (four ZT Z0 (odz z1 (by omega) w1) Z2) (.inl ⟨hp,.plain "sum" [gOf t1,odd],by simp,odd,.kid (by simp [G.kids]) .refl,nf⟩) hQ
    ·refine jk7 b9 (j:=2) rfl B2 dodd h fun nv J j8 j9 j10 tl lk hb st=>?_
     exact jzq CC (g:=gOf t) (g3:=.plain "sum" [gOf t2,odd]) hb ⟨jkb (B0.mono tl lk),jkb (B1.mono tl lk),st⟩ (dt9.mono tl) (four ZT Z0 Z1 (odz z2 (by omega) w2)) (.inl ⟨hp,.plain "sum" [gOf t2,odd],by simp,odd,.kid (by simp [G.kids]) .refl,nf⟩) hQ
 ·have fin2:=decide_eq_false hp
  refine ⟨_,rfl,_,_,rfl,rfl,c3,_,_,rfl,rfl,_,rfl,iteN fin2 (iteN rfl ?_)⟩
  refine ⟨_,rfl,_,_,rfl,rfl,c3,_,_,rfl,rfl,_,rfl,iteN fin2 (iteN rfl ?_)⟩
  refine ⟨_,rfl,_,_,rfl,rfl,c3,_,_,rfl,rfl,_,rfl,iteN fin2 ?_⟩
  refine jzq CC b9 ⟨jkb B0,jkb B1,jkb B2⟩ dt9 (four ZT Z0 Z1 Z2) (.inr ⟨hp,fun y hy x i=>?_,t,t0,t1,t2,rfl,rfl,rfl,rfl,js5 w0 w1 w2 wt z0 z1 z2 y1 y2 (by omega)⟩) hQ
  simp only [List.mem_cons,List.not_mem_nil,or_false] at hy
  rcases hy with rfl|rfl|rfl|rfl
  ·exact (jze wt x i).1
  ·exact (jze w0 x i).1
  ·exact (jze w1 x i).1
  ·exact (jze w2 x i).1
end S9
namespace L2
open PySem PySem.Spec PyProof.Rows
section
variable {X:Cx} {body:List Stmt} {t:TS}
theorem wp (i:Nat) (x:Str) (h:∀ {pos:Pos},PE X (.Name x pos) (tVar i)) (k:(∀ {pos:Pos},PE X (.Name x pos) (tVar i))→PSs X body t):PSs X body t:=k h
theorem wg (i:Nat) (x:Str) (nd:X.N.Nodup) (k:Loc X.env.scope x→(∀ {pos:Pos},PG X (.Name x pos) (jqk i))→PSs X body t) (hi:X.N[i]?=some x:=by rfl) (hx:Loc X.env.scope x:=by first|exact Or.inl rfl|exact Or.inr rfl)
  (hf:X.fn x=true∨X.env.scope.names.lookup x=some .local:=by first|exact .inl rfl|exact .inr rfl):PSs X body t:=k hx (fun {pos}=>jwp (i:=i) nd hi hx hf)
theorem wk (x:Str) (k:Gl X x→PSs X body t) (h:Gl X x:=by rfl):PSs X body t:=k h
end
end L2
namespace K9
open PySem L2 SW S9
def top (i:Nat):Stmt:=PySem.Challenge.pw_stampword_k09_stamps_refused.main.body.getD i (.Pass ⟨0,0,0,0⟩)
structure Adr where
 a__law_any:Addr
 a__law_any_word:Addr
 a__law_whole:Addr
 a__law_inside:Addr
 a__law_at:Addr
 a__law_drawn_piece:Addr
 a__law_drawn_main:Addr
 a__law_is_piece:Addr
 a__law_drawn_book:Addr
 a__law_is_done:Addr
 a__law_book_copied:Addr
 a__law_so:Addr
 a_parts:Addr
 a_every_piece:Addr
 a_with_word:Addr
 a_pieces_with_lets:Addr
 a_outside_names:Addr
 a_stamps_by_word:Addr
 a_check_use:Addr
 a_check_piece:Addr
 a_check_stamps:Addr
 a_numbered_word:Addr
 a_FreshWords___init__:Addr
 a_FreshWords_fresh:Addr
 a_all_outside_names:Addr
 a_spots_within:Addr
 a_has_stamps_to_open:Addr
 a_row_at:Addr
 a_Opening___init__:Addr
 a_Opening_take_name:Addr
 a_Opening_take_plain:Addr
 a_Opening_take_let:Addr
 a_Opening_body_of:Addr
 a_Opening_take:Addr
 a_Opening_rows_of:Addr
 a_Opening_meaning_of:Addr
 a_piece_of:Addr
 a_sources_of:Addr
 a_write_out:Addr
 a_expanded:Addr
 a__law_base_tells:Addr
 a_Opening:Addr
 a_FreshWords:Addr
 a_StampError:Addr
 a_NoName:Addr
 a_NoStamp:Addr
 a_NoPiece:Addr
structure Txt (K:PySem.W.Frag) (mg:Str→Option Value) (a:Adr):Prop where
 n_abs:mg "abs"=none
 n_bool:mg "bool"=none
 n_isinstance:mg "isinstance"=none
 n_int:mg "int"=none
 n_list:mg "list"=none
 n_len:mg "len"=none
 n_min:mg "min"=none
 n_tuple:mg "tuple"=none
 n_str:mg "str"=none
 n_range:mg "range"=none
 n_dict:mg "dict"=none
 n_sorted:mg "sorted"=none
 n_enumerate:mg "enumerate"=none
 n_reversed:mg "reversed"=none
 n_zip:mg "zip"=none
 n_ValueError:mg "ValueError"=none
 g__law_any:mg "_law_any"=some (.ref a.a__law_any)
 g__law_any_word:mg "_law_any_word"=some (.ref a.a__law_any_word)
 g__law_whole:mg "_law_whole"=some (.ref a.a__law_whole)
 g__law_inside:mg "_law_inside"=some (.ref a.a__law_inside)
 g__law_at:mg "_law_at"=some (.ref a.a__law_at)
 g__law_drawn_piece:mg "_law_drawn_piece"=some (.ref a.a__law_drawn_piece)
 g__law_drawn_main:mg "_law_drawn_main"=some (.ref a.a__law_drawn_main)
 g__law_is_piece:mg "_law_is_piece"=some (.ref a.a__law_is_piece)
 g__law_drawn_book:mg "_law_drawn_book"=some (.ref a.a__law_drawn_book)
 g__law_is_done:mg "_law_is_done"=some (.ref a.a__law_is_done)
 g__law_book_copied:mg "_law_book_copied"=some (.ref a.a__law_book_copied)
 g__law_so:mg "_law_so"=some (.ref a.a__law_so)
 g_parts:mg "parts"=some (.ref a.a_parts)
 g_every_piece:mg "every_piece"=some (.ref a.a_every_piece)
 g_with_word:mg "with_word"=some (.ref a.a_with_word)
 g_pieces_with_lets:mg "pieces_with_lets"=some (.ref a.a_pieces_with_lets)
 g_outside_names:mg "outside_names"=some (.ref a.a_outside_names)
 g_stamps_by_word:mg "stamps_by_word"=some (.ref a.a_stamps_by_word)
 g_check_use:mg "check_use"=some (.ref a.a_check_use)
 g_check_piece:mg "check_piece"=some (.ref a.a_check_piece)
 g_check_stamps:mg "check_stamps"=some (.ref a.a_check_stamps)
 g_numbered_word:mg "numbered_word"=some (.ref a.a_numbered_word)
 g_all_outside_names:mg "all_outside_names"=some (.ref a.a_all_outside_names)
 g_spots_within:mg "spots_within"=some (.ref a.a_spots_within)
 g_has_stamps_to_open:mg "has_stamps_to_open"=some (.ref a.a_has_stamps_to_open)
 g_row_at:mg "row_at"=some (.ref a.a_row_at)
 g_piece_of:mg "piece_of"=some (.ref a.a_piece_of)
 g_sources_of:mg "sources_of"=some (.ref a.a_sources_of)
 g_write_out:mg "write_out"=some (.ref a.a_write_out)
 g_expanded:mg "expanded"=some (.ref a.a_expanded)
 g__law_base_tells:mg "_law_base_tells"=some (.ref a.a__law_base_tells)
 g_StampError:mg "StampError"=some (.ref a.a_StampError)
 g_NoName:mg "NoName"=some (.ref a.a_NoName)
 g_NoStamp:mg "NoStamp"=some (.ref a.a_NoStamp)
 g_NoPiece:mg "NoPiece"=some (.ref a.a_NoPiece)
 g_LETTERS:∃ t,mg "LETTERS"=some (.str "abcdefghijklmnopqrstuvwxyz" t)
 g_Opening:mg "Opening"=some (.ref a.a_Opening)
 cl_Opening:Cls K a.a_Opening
 g_FreshWords:mg "FreshWords"=some (.ref a.a_FreshWords)
 cl_FreshWords:Cls K a.a_FreshWords
seal L2.PE L2.PT L2.PW L2.PA L2.PS L2.PSs L2.PC L2.PG L2.PGs L2.PI L2.PO L2.PPs
section
variable {P:Program} {w:World} {K:PySem.W.Frag} {mg:Str→Option Value} {base:Heap} {a:Adr} {f:Addr} {fd:FuncData}
theorem jra:FnOk P w K mg base CX0 1 f fd ["self","spot"] S9.spNo2:=⟨fun vs H Q E h=>h.1,fun A outer s H args us vs Q E _ _ _ _ h=>h.2.elim⟩
theorem sc_any:FnScope ["_law_cell","_law_size"] ["_law_cell"] (jq8 (top 40)):=⟨rfl,rfl,rfl,by decide+kernel,rfl,by decide+kernel,by decide+kernel⟩
theorem jrd (F:Fun K "_law_any" "_law_any" (top 40) f fd) (T:Txt K mg a) (ro:RO K a.a_Opening) (rw:RW K a.a_FreshWords):FnOk P w K mg base CX0 1 f fd ["_law_cell"] jef:=by
 refine F.ok sc_any (fun vs H Q E h=>?_) (fun cdv A outer s H vs Q E hr h=>⟨SW.t_any K,?_,SW.rd_any h⟩)
 ·obtain ⟨_,rfl,_⟩:=h
  rfl
 have nd:=sc_any.nd
 have hu:=jxl hr
 have hu0:=hr.units0
 refine wp 0 "_law_cell" (pv 0) fun p0=>?_
 refine wp 1 "_law_size" (pv 1) fun p1=>?_
 refine wg 1 "_law_size" nd fun l1 g1=>?_
 exact (jq5 (jqj (i:=1) nd rfl l1 (jxb jz2 (jxb jk8 p0 jq6) (jxb jib jq6 jq6))) (jq7 (jqs (jxb jr1 p1 (jqm jxf (jx2 (jq0 jq6 (jq0 (jw2 jk1 jq6) jq4))) (jxb jz2 p0 jq6) (fun _ _=>rfl))))))
theorem sc_aw:FnScope ["_law_cell","_law_left","_law_word"] ["_law_cell"] (jq8 (top 39)):=⟨rfl,rfl,rfl,by decide+kernel,rfl,by decide+kernel,by decide+kernel⟩
theorem ok_aw (F:Fun K "_law_any_word" "_law_any_word" (top 39) f fd) (T:Txt K mg a) (ro:RO K a.a_Opening) (rw:RW K a.a_FreshWords):FnOk P w K mg base CX0 1 f fd ["_law_cell"] jab:=by
 refine F.ok sc_aw (fun vs H Q E h=>?_) (fun cdv A outer s H vs Q E hr h=>⟨SW.t_aw K,?_,SW.rd_aw h⟩)
 ·obtain ⟨_,rfl,_⟩:=h
  rfl
 have nd:=sc_aw.nd
 have hu:=jxl hr
 have hu0:=hr.units0
 refine wp 0 "_law_cell" (pv 0) fun p0=>?_
 refine wp 1 "_law_left" (pv 1) fun p1=>?_
 refine wp 2 "_law_word" (pv 2) fun p2=>?_
 refine wg 1 "_law_left" nd fun l1 g1=>?_
 refine wg 2 "_law_word" nd fun l2 g2=>?_
 refine wk "abs" fun k_abs=>?_
 exact (jq5 (jqj (i:=1) nd rfl l1 (jxb jz2 (jqe jhh k_abs T.n_abs js4 (jq0 p0 jq4)) (jxb jib jq6 jq6))) (jq5 (jqj (i:=2) nd rfl l2 jqf) (jq5 (jz8 PassesOwn.never (jqg op_ge p1 jq6 (jqo _)) (jq5 (jqj (i:=2) nd rfl l2 (jxb jkm (jqm jff jqf (jxb jz2 p1 jq6) (fun _ _=>rfl)) p2)) (jq7 (jqj (i:=1) nd rfl l1 (jxb jkx (jxb jk8 p1 jq6) jq6))))) (jq7 (jqs p2)))))
theorem sc_wh:FnScope ["_law_found"] ["_law_found"] (jq8 (top 31)):=⟨rfl,rfl,rfl,by decide+kernel,rfl,by decide+kernel,by decide+kernel⟩
theorem ok_wh (F:Fun K "_law_whole" "_law_whole" (top 31) f fd) (T:Txt K mg a) (ro:RO K a.a_Opening) (rw:RW K a.a_FreshWords):FnOk P w K mg base CX0 1 f fd ["_law_found"] jjn:=by
 refine F.ok sc_wh (fun vs H Q E h=>?_) (fun cdv A outer s H vs Q E hr h=>⟨S1.t_wh K,?_,S1.rd_wh h⟩)
 ·obtain ⟨_,rfl,_⟩:=h
  rfl
 have nd:=sc_wh.nd
 have hu:=jxl hr
 have hu0:=hr.units0
 refine wp 0 "_law_found" (pv 0) fun p0=>?_
 refine wk "bool" fun k_bool=>?_
 refine wk "isinstance" fun k_isinstance=>?_
 refine wk "int" fun k_int=>?_
 exact (jq7 (jqs (jc7 (jqe jxe k_isinstance T.n_isinstance jqi (jq0 p0 (jq0 (jxg (v:=.ty "int") k_int T.n_int jvz rfl) jq4))) (jc5 (jpw (jqe jxe k_isinstance T.n_isinstance jqi (jq0 p0 (jq0 (jxg (v:=.ty "bool") k_bool T.n_bool ja1 rfl) jq4))))))))
theorem sc_ins:FnScope ["_law_piece"] ["_law_piece"] (jq8 (top 34)):=⟨rfl,rfl,rfl,by decide+kernel,rfl,by decide+kernel,by decide+kernel⟩
theorem jr9 (F:Fun K "_law_inside" "_law_inside" (top 34) f fd) (T:Txt K mg a) (ro:RO K a.a_Opening) (rw:RW K a.a_FreshWords):FnOk P w K mg base CX0 1 f fd ["_law_piece"] jjd:=by
 refine F.ok sc_ins (fun vs H Q E h=>?_) (fun cdv A outer s H vs Q E hr h=>⟨SW.t_ins K,?_,SW.rd_ins h⟩)
 ·obtain ⟨_,_,rfl,_⟩:=h
  rfl
 have nd:=sc_ins.nd
 have hu:=jxl hr
 have hu0:=hr.units0
 refine wp 0 "_law_piece" (pv 0) fun p0=>?_
 refine wk "int" fun k_int=>?_
 refine wk "list" fun k_list=>?_
 exact (jq5 (jx8 (jqg jkd (jqm jqh p0 jq6 (fun _ _=>rfl)) (jx2 (jq0 jqf (jq0 jqf jq4))) (by with_unfolding_all rfl)) (jq7 (jqs (jx2 jq4))) jqz) (jq7 (jqs (jz6 jky k_list T.n_list jks (jq0 (jxr jbx p0 (jxq (jxb jf1 jq6 (jz6 jju k_int T.n_int jvz (jq0 (jwq jkd (jqm jqh p0 jq6 (fun _ _=>rfl)) (jx2 (jq0 jqf (jq0 jqf jq4))) (by with_unfolding_all rfl)) jq4)))) jzv) jq4)))))
theorem sc_atg:FnScope ["_law_script","_law_k"] ["_law_script","_law_k"] (jq8 (top 32)):=⟨rfl,rfl,rfl,by decide+kernel,rfl,by decide+kernel,by decide+kernel⟩
theorem jrb (F:Fun K "_law_at" "_law_at" (top 32) f fd) (T:Txt K mg a) (ro:RO K a.a_Opening) (rw:RW K a.a_FreshWords):FnOk P w K mg base CX0 1 f fd ["_law_script","_law_k"] (jcs K):=by
 refine F.ok sc_atg (fun vs H Q E h=>?_) (fun cdv A outer s H vs Q E hr h=>⟨S9.t_atg K,?_,S9.rd_atg h⟩)
 ·obtain ⟨_,_,_,rfl,_⟩:=h
  rfl
 have nd:=sc_atg.nd
 have hu:=jxl hr
 have hu0:=hr.units0
 refine wp 0 "_law_script" (pv 0) fun p0=>?_
 refine wp 1 "_law_k" (pv 1) fun p1=>?_
 refine wk "len" fun k_len=>?_
 exact (jq5 (jx8 (jqg jba p1 (jqe jql k_len T.n_len jxj (jq0 p0 jq4)) (jqo _)) (jq7 (jqs (jqm jxf p0 p1 (fun _ _=>rfl)))) jqz) (jq7 (jqs jq6)))
theorem sc_dp:FnScope ["_law_cells","_law_stamps","_law_pile","_law_cell","_law_rest","_law_way","_law_word","_law_inner","_law_look","_law_name","_law_many","_law_made","_law_last"] ["_law_cells","_law_stamps"] (jq8 (top 33)):=⟨rfl,rfl,rfl,by decide+kernel,rfl,by decide+kernel,by decide+kernel⟩
theorem ok_dp (F:Fun K "_law_drawn_piece" "_law_drawn_piece" (top 33) f fd) (T:Txt K mg a) (ro:RO K a.a_Opening) (rw:RW K a.a_FreshWords)
  {fd__law_any_word:FuncData} (G__law_any_word:FnOk P w K mg base CX0 1 a.a__law_any_word fd__law_any_word ["_law_cell"] jab) (F__law_any_word:Fun K "_law_any_word" "_law_any_word" (top 39) a.a__law_any_word fd__law_any_word) (b__law_any_word:Binds K fd__law_any_word ["_law_cell"] [])
  {fd__law_any:FuncData} (G__law_any:FnOk P w K mg base CX0 1 a.a__law_any fd__law_any ["_law_cell"] jef) (F__law_any:Fun K "_law_any" "_law_any" (top 40) a.a__law_any fd__law_any) (b__law_any:Binds K fd__law_any ["_law_cell"] []):FnOk P w K mg base CX0 2 f fd ["_law_cells","_law_stamps"] (jxv K):=by
 refine F.ok sc_dp (fun vs H Q E h=>?_) (fun cdv A outer s H vs Q E hr h=>⟨SW.t_dp K,?_,S9.rd_dpA h⟩)
 ·obtain ⟨_,_,_,_,_,rfl,_⟩:=h
  rfl
 have nd:=sc_dp.nd
 have hu:=jxl hr
 have hu0:=hr.units0
 refine wp 0 "_law_cells" (pv 0) fun p0=>?_
 refine wp 1 "_law_stamps" (pv 1) fun p1=>?_
 refine wp 2 "_law_pile" (pv 2) fun p2=>?_
 refine wp 3 "_law_cell" (pv 3) fun p3=>?_
 refine wp 4 "_law_rest" (pv 4) fun p4=>?_
 refine wp 5 "_law_way" (pv 5) fun p5=>?_
 refine wp 6 "_law_word" (pv 6) fun p6=>?_
 refine wp 7 "_law_inner" (pv 7) fun p7=>?_
 refine wp 8 "_law_look" (pv 8) fun p8=>?_
 refine wp 9 "_law_name" (pv 9) fun p9=>?_
 refine wp 10 "_law_many" (pv 10) fun p10=>?_
 refine wp 11 "_law_made" (pv 11) fun p11=>?_
 refine wp 12 "_law_last" (pv 12) fun p12=>?_
 refine wg 2 "_law_pile" nd fun l2 g2=>?_
 refine wg 3 "_law_cell" nd fun l3 g3=>?_
 refine wg 4 "_law_rest" nd fun l4 g4=>?_
 refine wg 5 "_law_way" nd fun l5 g5=>?_
 refine wg 6 "_law_word" nd fun l6 g6=>?_
 refine wg 7 "_law_inner" nd fun l7 g7=>?_
 refine wg 8 "_law_look" nd fun l8 g8=>?_
 refine wg 9 "_law_name" nd fun l9 g9=>?_
 refine wg 10 "_law_many" nd fun l10 g10=>?_
 refine wg 11 "_law_made" nd fun l11 g11=>?_
 refine wg 12 "_law_last" nd fun l12 g12=>?_
 refine wk "len" fun k_len=>?_
 refine wk "int" fun k_int=>?_
 refine wk "min" fun k_min=>?_
 refine wk "tuple" fun k_tuple=>?_
 refine wk "_law_any_word" fun k__law_any_word=>?_
 refine wk "_law_any" fun k__law_any=>?_
 exact (jq5 (jqj (i:=2) nd rfl l2 (jx2 (jq0 (jqu (jq0 jqf (jq0 jqf jq4))) jq4))) (jq5 (jzo PassesOwn.never rfl (jzn p0) g3 (jq5 (jqj (i:=4) nd rfl l4 (jxb jk8 p3 jq6)) (jq5 (jqj (i:=5) nd rfl l5 (jxb jz2 p3 jq6)) (jq5 (jqj (i:=6) nd rfl l6 (jqm jxf (jx2 (jq0 jqf (jq0 jqf (jq0 jqf (jq0 jqf jq4))))) (jxb jz2 p4 jq6) (fun _ _=>rfl))) (jq5 (jx8 (jqg jz7 (jxb jz2 p4 jq6) jq6 (jqo _)) (jq7 (jqj (i:=6) nd rfl l6 (jxb jkm (jqp G__law_any_word (hr.mono (by decide)) k__law_any_word T.g__law_any_word F__law_any_word.kp b__law_any_word .nil jx6 (jq0 (jxb jk8 p4 jq6) jq4)) jqf))) jqz) (jq5 (jqj (i:=7) nd rfl l7 (jxr jzs p2 (jxq (jw2 jk1 jq6)) jzv)) (jq7 (jx8 (jk0 (jqg jz7 p5 jq6 (jqo _)) (jjr (jjs (jqg jz7 (jqe jql k_len T.n_len jxj (jq0 p7 jq4)) jq6 (jqo _)) (jzt (jgq jba jba jq6 p5 jq6))).pt)).pt (jq7 (jqx (jzg PySem.F.plainAttrs_list PySem.F.slot_list_append PySem.F.type_list_append jx1 p2 (jq0 (jqu (jq0 jqf (jq0 (jqm jxf (jx2 (jq0 (jxb jkx (jxb jz2 p4 jq6) jq6) (jq0 (jqp G__law_any (hr.mono (by decide)) k__law_any T.g__law_any F__law_any.kp b__law_any .nil jx6 (jq0 p4 jq4)) jq4))) (jz6 jju k_int T.n_int jvz (jq0 (jwq jz7 (jxb jz2 p4 jq6) jq6 (jqo _)) jq4)) (fun _ _=>rfl)) jq4))) jq4)))) (jq7 (jx8 (jqg jba p5 jq6 (jqo _)) (jq7 (jqx (jzg PySem.F.plainAttrs_list PySem.F.slot_list_append PySem.F.type_list_append jx1 p2 (jq0 (jqu (jq0 jqf (jq0 p6 jq4))) jq4)))) (jq7 (jx8 (jjs (jqg jz7 p5 jq6 (jqo _)) (jzt (jqg jz7 (jqe jql k_len T.n_len jxj (jq0 p7 jq4)) jq6 (jqo _)))).pt (jq7 (jqj (i:=2) nd rfl l2 (jxb jvl (jxr jzs p2 jzv (jxq (jw2 jk1 jq6))) (jx2 (jq0 (jqu (jq0 jqf (jq0 (jqm jxf p7 jq6 (fun _ _=>rfl)) (jq0 (jqm jxf p7 jq6 (fun _ _=>rfl)) (jq0 (jqm jxf p7 jq6 (fun _ _=>rfl)) jq4))))) jq4))))) (jq7 (jx8 (jqg jba p5 jq6 (jqo _)) (jq7 (jqj (i:=2) nd rfl l2 (jxb jvl (jxr jzs p2 jzv (jxq (jw2 jk1 jq6))) (jx2 (jq0 (jqu (jq0 (jqm jxf (jx2 (jq0 jqf (jq0 jqf jq4))) (jxb jz2 p5 jq6) (fun _ _=>rfl)) (jq0 (jqm jxf p7 (jw2 jk1 jq6) (fun _ _=>rfl)) (jq0 (jqm jxf p7 (jw2 jk1 jq6) (fun _ _=>rfl)) jq4)))) jq4))))) (jq7 (jx8 (jqg jz7 p5 jq6 (jqo _)) (jq5 (jqj (i:=8) nd rfl l8 (jqm jxf p7 (jw2 jk1 jq6) (fun _ _=>rfl))) (jq5 (jx8 (jqg jkd (jqm jqh p8 jq6 (fun _ _=>rfl)) (jx2 (jq0 jqf (jq0 jqf jq4))) (by with_unfolding_all rfl)) (jq7 (jqj (i:=8) nd rfl l8 (jqm jqh p8 jq6 (fun _ _=>rfl)))) jqz) (jq5 (jx8 (jjs (jqg jz7 (jqm jqh p8 jq6 (fun _ _=>rfl)) jqf (jqo _)) (jzt (jqg jkl (jxb jz2 p4 jq6) jq6 (jqo _)))).pt (jq7 (jqj (i:=6) nd rfl l6 (jqm jqh p8 jq6 (fun _ _=>rfl)))) jqz) (jq7 (jqj (i:=2) nd rfl l2 (jxb jvl (jxr jzs p2 jzv (jxq (jw2 jk1 jq6))) (jx2 (jq0 (jqu (jq0 jqf (jq0 p6 (jq0 (jqm jxf p7 (jw2 jk1 jq6) (fun _ _=>rfl)) (jq0 (jqm jxf p7 (jw2 jk1 jq6) (fun _ _=>rfl)) jq4))))) jq4)))))))) (jq7 (jx8 (jqg (jwr hu0) p1 (jx2 jq4) (jqo _)) (jq5 (jak (jqm jxf p1 (jxb jz2 p4 (jqe jql k_len T.n_len jxj (jq0 p1 jq4))) (fun _ _=>rfl)) (jal rfl (jz9 g9 (jz9 g10 jvk)))) (jq5 (jqj (i:=10) nd rfl l10 (jqe (jfy rfl) k_min T.n_min js3 (jq0 p10 (jq0 (jqe jql k_len T.n_len jxj (jq0 p2 jq4)) jq4)))) (jq7 (jx8 (jqg jz7 p10 (jqm jqh (jqm jxf p1 (jxb jz2 p4 (jqe jql k_len T.n_len jxj (jq0 p1 jq4))) (fun _ _=>rfl)) jq6 (fun _ _=>rfl)) (jqo _)) (jq5 (jqj (i:=11) nd rfl l11 (jz6 jkh k_tuple T.n_tuple jzp (jq0 (jxb jvl (jx2 (jq0 jqf (jq0 p9 jq4))) (jxr jzs p2 (jxq (jxb jkx (jqe jql k_len T.n_len jxj (jq0 p2 jq4)) p10)) jzv)) jq4))) (jq7 (jqj (i:=2) nd rfl l2 (jxb jvl (jxr jzs p2 jzv (jxq (jxb jkx (jqe jql k_len T.n_len jxj (jq0 p2 jq4)) p10))) (jx2 (jq0 p11 jq4)))))) jqz)))) jqz)))))))))))))))))) (jq5 (jz8 PassesOwn.never (jqg jkl (jqe jql k_len T.n_len jxj (jq0 p2 jq4)) jq6 (jqo _)) (jq5 (jqj (i:=12) nd rfl l12 (jk2 PySem.F.plainAttrs_list PySem.F.slot_list_pop PySem.F.type_list_pop jk3 p2)) (jq7 (jqx (jzg PySem.F.plainAttrs_list PySem.F.slot_list_append PySem.F.type_list_append jx1 p2 (jq0 (jqu (jq0 jqf (jq0 (jk2 PySem.F.plainAttrs_list PySem.F.slot_list_pop PySem.F.type_list_pop jk3 p2) (jq0 p12 jq4)))) jq4)))))) (jq7 (jqs (jqm jxf p2 jq6 (fun _ _=>rfl)))))))
theorem sc_main:FnScope ["_law_cells"] ["_law_cells"] (jq8 (top 36)):=⟨rfl,rfl,rfl,by decide+kernel,rfl,by decide+kernel,by decide+kernel⟩
theorem jmo (F:Fun K "_law_drawn_main" "_law_drawn_main" (top 36) f fd) (T:Txt K mg a) (ro:RO K a.a_Opening) (rw:RW K a.a_FreshWords)
  {fd__law_drawn_piece:FuncData} (G__law_drawn_piece:FnOk P w K mg base CX0 2 a.a__law_drawn_piece fd__law_drawn_piece ["_law_cells","_law_stamps"] (jwj K jg3)) (F__law_drawn_piece:Fun K "_law_drawn_piece" "_law_drawn_piece" (top 33) a.a__law_drawn_piece fd__law_drawn_piece) (b__law_drawn_piece:Binds K fd__law_drawn_piece ["_law_cells","_law_stamps"] []):FnOk P w K mg base CX0 3 f fd ["_law_cells"] (jae K):=by
 refine F.ok sc_main (fun vs H Q E h=>?_) (fun cdv A outer s H vs Q E hr h=>⟨SW.t_main K jg3,?_,SW.rd_main h⟩)
 ·obtain ⟨_,_,rfl,_⟩:=h
  rfl
 have nd:=sc_main.nd
 have hu:=jxl hr
 have hu0:=hr.units0
 refine wp 0 "_law_cells" (pv 0) fun p0=>?_
 refine wk "_law_drawn_piece" fun k__law_drawn_piece=>?_
 exact (jq7 (jqs (jqp G__law_drawn_piece (hr.mono (by decide)) k__law_drawn_piece T.g__law_drawn_piece F__law_drawn_piece.kp b__law_drawn_piece .nil jx6 (jq0 p0 (jq0 (jx2 (jq0 (jqu (jq0 jqf (jq0 jq6 jq4))) (jq0 (jqu (jq0 jqf (jq0 jq6 jq4))) (jq0 (jqu (jq0 jqf (jq0 jq6 jq4))) (jq0 (jqu (jq0 jqf (jq0 jq6 jq4))) jq4))))) jq4)))))
theorem sc_ip:FnScope ["_law_found","_law_todo","_law_part","_law_sizes"] ["_law_found"] (jq8 (top 37)):=⟨rfl,rfl,rfl,by decide+kernel,rfl,by decide+kernel,by decide+kernel⟩
theorem ok_ip (F:Fun K "_law_is_piece" "_law_is_piece" (top 37) f fd) (T:Txt K mg a) (ro:RO K a.a_Opening) (rw:RW K a.a_FreshWords)
  {fd__law_whole:FuncData} (G__law_whole:FnOk P w K mg base CX0 1 a.a__law_whole fd__law_whole ["_law_found"] jjn) (F__law_whole:Fun K "_law_whole" "_law_whole" (top 31) a.a__law_whole fd__law_whole) (b__law_whole:Binds K fd__law_whole ["_law_found"] [])
  {fd__law_inside:FuncData} (G__law_inside:FnOk P w K mg base CX0 1 a.a__law_inside fd__law_inside ["_law_piece"] jjd) (F__law_inside:Fun K "_law_inside" "_law_inside" (top 34) a.a__law_inside fd__law_inside) (b__law_inside:Binds K fd__law_inside ["_law_piece"] []):FnOk P w K mg base CX0 2 f fd ["_law_found"] jjo:=by
 refine F.ok sc_ip (fun vs H Q E h=>?_) (fun cdv A outer s H vs Q E hr h=>⟨S10.t_ip K,?_,S10.rd_ip h⟩)
 ·obtain ⟨_,_,rfl,_⟩:=h
  rfl
 have nd:=sc_ip.nd
 have hu:=jxl hr
 have hu0:=hr.units0
 refine wp 0 "_law_found" (pv 0) fun p0=>?_
 refine wp 1 "_law_todo" (pv 1) fun p1=>?_
 refine wp 2 "_law_part" (pv 2) fun p2=>?_
 refine wp 3 "_law_sizes" (pv 3) fun p3=>?_
 refine wg 1 "_law_todo" nd fun l1 g1=>?_
 refine wg 2 "_law_part" nd fun l2 g2=>?_
 refine wg 3 "_law_sizes" nd fun l3 g3=>?_
 refine wk "str" fun k_str=>?_
 refine wk "isinstance" fun k_isinstance=>?_
 refine wk "len" fun k_len=>?_
 refine wk "tuple" fun k_tuple=>?_
 refine wk "_law_whole" fun k__law_whole=>?_
 refine wk "_law_inside" fun k__law_inside=>?_
 exact (jq5 (jqj (i:=1) nd rfl l1 (jx2 (jq0 p0 jq4))) (jq5 (jz8 PassesOwn.never (jqg (jwr hu0) p1 (jx2 jq4) (jqo _)) (jq5 (jqj (i:=2) nd rfl l2 (jk2 PySem.F.plainAttrs_list PySem.F.slot_list_pop PySem.F.type_list_pop jk3 p1)) (jq5 (jx8 (jk0 (jzu (jz1 (jqe jxe k_isinstance T.n_isinstance jqi (jq0 p2 (jq0 (jxg (v:=.ty "tuple") k_tuple T.n_tuple jzp rfl) jq4))))) (jk0 (jqg jba (jqe jql k_len T.n_len jxj (jq0 p2 jq4)) jq6 (jqo _)) (jjr (jzu (jz1 (jqe jxe k_isinstance T.n_isinstance jqi (jq0 (jqm jqh p2 jq6 (fun _ _=>rfl)) (jq0 (jxg (v:=.ty "str") k_str T.n_str jwf rfl) jq4)))))))).pt (jq7 (jqs jzb)) jqz) (jq5 (jqj (i:=3) nd rfl l3 (jmg (jjx jqf jq6 (jjx jqf jq6 (jjx jqf jq6 (jjx jqf jq6 (jjx jqf jq6 (jjx jqf jq6 jmc)))))) rfl rfl (by intro z;cases z) (by decide))) (jq5 (jx8 (jjs (jqg jv0 (jc6 hu p3 (jqm jqh p2 jq6 (fun _ _=>rfl)) jq6 ⟨rfl,rfl,rfl,rfl⟩) (jqe jql k_len T.n_len jxj (jq0 p2 jq4)) (jqo _)) (jzt (jqg jv0 (jqm jqh p2 jq6 (fun _ _=>rfl)) jqf (jqo _)))).pt (jq7 (jqs jzb)) jqz) (jq5 (jx8 (jqg jz7 (jqm jqh p2 jq6 (fun _ _=>rfl)) jqf (jqo _)) (jq7 (jx8 (jzu (jz1 (jqp G__law_whole (hr.mono (by decide)) k__law_whole T.g__law_whole F__law_whole.kp b__law_whole .nil jx6 (jq0 (jqm jqh p2 jq6 (fun _ _=>rfl)) jq4)))) (jq7 (jqs jzb)) jqz)) (jq7 (jx8 (jjs (jqg jkd (jqm jqh p2 jq6 (fun _ _=>rfl)) (jx2 (jq0 jqf (jq0 jqf (jq0 jqf jq4)))) (by with_unfolding_all rfl)) (jzt (jzu (jz1 (jqe jxe k_isinstance T.n_isinstance jqi (jq0 (jqm jqh p2 jq6 (fun _ _=>rfl)) (jq0 (jxg (v:=.ty "str") k_str T.n_str jwf rfl) jq4))))))).pt (jq7 (jqs jzb)) jqz))) (jq7 (jqj (i:=1) nd rfl l1 (jxb jvl p1 (jqp G__law_inside (hr.mono (by decide)) k__law_inside T.g__law_inside F__law_inside.kp b__law_inside .nil jx6 (jq0 p2 jq4))))))))))) (jq7 (jqs jzb))))
theorem sc_db:FnScope ["_law_cells","_law_wild","_law_low","_law_book"] ["_law_cells","_law_wild"] (jq8 (top 35)):=⟨rfl,rfl,rfl,by decide+kernel,rfl,by decide+kernel,by decide+kernel⟩
theorem ok_db (F:Fun K "_law_drawn_book" "_law_drawn_book" (top 35) f fd) (T:Txt K mg a) (ro:RO K a.a_Opening) (rw:RW K a.a_FreshWords)
  {fd__law_drawn_piece:FuncData} (G__law_drawn_piece:FnOk P w K mg base CX0 2 a.a__law_drawn_piece fd__law_drawn_piece ["_law_cells","_law_stamps"] (jxv K)) (F__law_drawn_piece:Fun K "_law_drawn_piece" "_law_drawn_piece" (top 33) a.a__law_drawn_piece fd__law_drawn_piece) (b__law_drawn_piece:Binds K fd__law_drawn_piece ["_law_cells","_law_stamps"] []):FnOk P w K mg base CX0 3 f fd ["_law_cells","_law_wild"] (jag K):=by
 refine F.ok sc_db (fun vs H Q E h=>?_) (fun cdv A outer s H vs Q E hr h=>⟨S9.t_db K,?_,S9.rd_db h⟩)
 ·obtain ⟨_,_,_,rfl,_⟩:=h
  rfl
 have nd:=sc_db.nd
 have hu:=jxl hr
 have hu0:=hr.units0
 refine wp 0 "_law_cells" (pv 0) fun p0=>?_
 refine wp 1 "_law_wild" (pv 1) fun p1=>?_
 refine wp 2 "_law_low" (pv 2) fun p2=>?_
 refine wp 3 "_law_book" (pv 3) fun p3=>?_
 refine wg 2 "_law_low" nd fun l2 g2=>?_
 refine wg 3 "_law_book" nd fun l3 g3=>?_
 refine wk "_law_drawn_piece" fun k__law_drawn_piece=>?_
 exact (jq5 (jqj (i:=2) nd rfl l2 (jx2 (jq0 (jx2 jq4) (jq0 (jx2 (jq0 (jqu (jq0 jqf (jq0 jq6 jq4))) jq4)) (jq0 (jx2 (jq0 (jqu (jq0 jqf (jq0 jq6 jq4))) (jq0 (jqu (jq0 jqf (jq0 jq6 jq4))) jq4))) jq4))))) (jq5 (jx8 (jz1 p1) (jq7 (jak (jx2 (jq0 (jqu (jq0 jqf (jq0 jq6 jq4))) jq4)) (ji9 p2 jq6 jby))) jqz) (jq5 (jqj (i:=3) nd rfl l3 (jx2 (jq0 (jqu (jq0 jqf (jq0 (jx2 jq4) (jq0 (jqp G__law_drawn_piece (hr.mono (by decide)) k__law_drawn_piece T.g__law_drawn_piece F__law_drawn_piece.kp b__law_drawn_piece .nil jx6 (jq0 (jxr jzs p0 jzv (jxq jq6)) (jq0 (jqm jxf p2 jq6 (fun _ _=>rfl)) jq4))) jq4)))) jq4))) (jq5 (jqx (jzg PySem.F.plainAttrs_list PySem.F.slot_list_append PySem.F.type_list_append jx1 p3 (jq0 (jqu (jq0 jqf (jq0 (jx2 (jq0 jqf jq4)) (jq0 (jqp G__law_drawn_piece (hr.mono (by decide)) k__law_drawn_piece T.g__law_drawn_piece F__law_drawn_piece.kp b__law_drawn_piece .nil jx6 (jq0 (jxr jzs p0 (jxq jq6) (jxq jq6)) (jq0 (jqm jxf p2 jq6 (fun _ _=>rfl)) jq4))) jq4)))) jq4))) (jq5 (jqx (jzg PySem.F.plainAttrs_list PySem.F.slot_list_append PySem.F.type_list_append jx1 p3 (jq0 (jqu (jq0 jqf (jq0 (jx2 (jq0 jqf (jq0 jqf jq4))) (jq0 (jqp G__law_drawn_piece (hr.mono (by decide)) k__law_drawn_piece T.g__law_drawn_piece F__law_drawn_piece.kp b__law_drawn_piece .nil jx6 (jq0 (jxr jzs p0 (jxq jq6) (jxq jq6)) (jq0 (jqm jxf p2 jq6 (fun _ _=>rfl)) jq4))) jq4)))) jq4))) (jq7 (jqs p3)))))))
theorem sc_dn:FnScope ["_law_found","_law_one","_law_k"] ["_law_found"] (jq8 (top 38)):=⟨rfl,rfl,rfl,by decide+kernel,rfl,by decide+kernel,by decide+kernel⟩
theorem ok_dn (F:Fun K "_law_is_done" "_law_is_done" (top 38) f fd) (T:Txt K mg a) (ro:RO K a.a_Opening) (rw:RW K a.a_FreshWords)
  {fd__law_whole:FuncData} (G__law_whole:FnOk P w K mg base CX0 1 a.a__law_whole fd__law_whole ["_law_found"] jjn) (F__law_whole:Fun K "_law_whole" "_law_whole" (top 31) a.a__law_whole fd__law_whole) (b__law_whole:Binds K fd__law_whole ["_law_found"] [])
  {fd__law_is_piece:FuncData} (G__law_is_piece:FnOk P w K mg base CX0 2 a.a__law_is_piece fd__law_is_piece ["_law_found"] jjo) (F__law_is_piece:Fun K "_law_is_piece" "_law_is_piece" (top 37) a.a__law_is_piece fd__law_is_piece) (b__law_is_piece:Binds K fd__law_is_piece ["_law_found"] []):FnOk P w K mg base CX0 3 f fd ["_law_found"] jw6:=by
 refine F.ok sc_dn (fun vs H Q E h=>?_) (fun cdv A outer s H vs Q E hr h=>⟨S9.t_dn K,?_,S9.rd_dn h⟩)
 ·obtain ⟨_,_,_,_,_,_,rfl,_⟩:=h
  rfl
 have nd:=sc_dn.nd
 have hu:=jxl hr
 have hu0:=hr.units0
 refine wp 0 "_law_found" (pv 0) fun p0=>?_
 refine wp 1 "_law_one" (pv 1) fun p1=>?_
 refine wp 2 "_law_k" (pv 2) fun p2=>?_
 refine wg 1 "_law_one" nd fun l1 g1=>?_
 refine wg 2 "_law_k" nd fun l2 g2=>?_
 refine wk "str" fun k_str=>?_
 refine wk "isinstance" fun k_isinstance=>?_
 refine wk "len" fun k_len=>?_
 refine wk "tuple" fun k_tuple=>?_
 refine wk "list" fun k_list=>?_
 refine wk "_law_whole" fun k__law_whole=>?_
 refine wk "_law_is_piece" fun k__law_is_piece=>?_
 exact (jq5 (jx8 (jk0 (jzu (jz1 (jqe jxe k_isinstance T.n_isinstance jqi (jq0 p0 (jq0 (jxg (v:=.ty "tuple") k_tuple T.n_tuple jzp rfl) jq4))))) (jk0 (jqg jv0 (jqe jql k_len T.n_len jxj (jq0 p0 jq4)) jq6 (jqo _)) (jjr (jzu (jz1 (jqe jxe k_isinstance T.n_isinstance jqi (jq0 (jqm jqh p0 jq6 (fun _ _=>rfl)) (jq0 (jxg (v:=.ty "str") k_str T.n_str jwf rfl) jq4)))))))).pt (jq7 (jqs jzb)) jqz) (jq5 (jx8 (jk0 (jqg jv0 (jqm jqh p0 jq6 (fun _ _=>rfl)) jqf (jqo _)) (jk0 (jzu (jz1 (jqp G__law_whole (hr.mono (by decide)) k__law_whole T.g__law_whole F__law_whole.kp b__law_whole .nil jx6 (jq0 (jqm jqh p0 jq6 (fun _ _=>rfl)) jq4)))) (jjr (jzu (jz1 (jqe jxe k_isinstance T.n_isinstance jqi (jq0 (jqm jqh p0 jq6 (fun _ _=>rfl)) (jq0 (jxg (v:=.ty "list") k_list T.n_list jks rfl) jq4)))))))).pt (jq7 (jqs jzb)) jqz) (jq5 (jzo PassesOwn.never rfl (jzn (jqm jqh p0 jq6 (fun _ _=>rfl))) g1 (jq5 (jx8 (jk0 (jzu (jz1 (jqe jxe k_isinstance T.n_isinstance jqi (jq0 p1 (jq0 (jxg (v:=.ty "tuple") k_tuple T.n_tuple jzp rfl) jq4))))) (jk0 (jqg jv0 (jqe jql k_len T.n_len jxj (jq0 p1 jq4)) jq6 (jqo _)) (jjr (jzu (jz1 (jqe jxe k_isinstance T.n_isinstance jqi (jq0 (jqm jqh p1 jq6 (fun _ _=>rfl)) (jq0 (jxg (v:=.ty "str") k_str T.n_str jwf rfl) jq4)))))))).pt (jq7 (jqs jzb)) jqz) (jq5 (jx8 (jzu (jz1 (jqe jxe k_isinstance T.n_isinstance jqi (jq0 (jqm jqh p1 jq6 (fun _ _=>rfl)) (jq0 (jxg (v:=.ty "tuple") k_tuple T.n_tuple jzp rfl) jq4))))) (jq7 (jqs jzb)) jqz) (jq7 (jzo PassesOwn.never rfl (ji7 (jqm jqh p1 jq6 (fun _ _=>rfl))) g2 (jq7 (jx8 (jzu (jz1 (jqp G__law_whole (hr.mono (by decide)) k__law_whole T.g__law_whole F__law_whole.kp b__law_whole .nil jx6 (jq0 p2 jq4)))) (jq7 (jqs jzb)) jqz))))))) (jq7 (jqs (jqp G__law_is_piece (hr.mono (by decide)) k__law_is_piece T.g__law_is_piece F__law_is_piece.kp b__law_is_piece .nil jx6 (jq0 (jqm jqh p0 jq6 (fun _ _=>rfl)) jq4)))))))
theorem sc_bc:FnScope ["_law_book"] ["_law_book"] (jq8 (top 42)):=⟨rfl,rfl,rfl,by decide+kernel,rfl,by decide+kernel,by decide+kernel⟩
def jkq (s:Stmt):Scope:=match (jqn s).getLast? with
 | some (.Return (some (.ListComp _ _ sc _)) _)=>sc
 | _=>jq8 s
theorem lc_bc {cdv:Value} {A:Around} {outer:List Env} {s:Shared} {H:Hp} {E:XK}:CompSc ((cxOf CX0 P w K mg base ["_law_book"] "_law_book_copied" (jq8 (top 42)) f cdv A outer s H E).nox) (jkq (top 42)) [] "_law_one" [] [] where
 clos:=rfl
 ncell:=by decide+kernel
 kind:=rfl
 names:=by decide+kernel
 loc:=rfl
 cells:=fun y c h=>h
 has:=fun y h=>by
  have e:(relabel (jkq (top 42)) ((cxOf CX0 P w K mg base ["_law_book"] "_law_book_copied" (jq8 (top 42)) f cdv A outer s H E).nox).env).names=([((".0":Str),NameKind.local),(("_law_one":Str),NameKind.local),(("list":Str),NameKind.globalImplicit)]:List (Str×NameKind)):=rfl
  rw [e] at h
  exfalso
  by_cases e2:y=".0"
  ·subst e2;revert h;decide+kernel
  ·by_cases e3:y="_law_one"
   ·subst e3;revert h;decide+kernel
   ·by_cases e4:y="list"
    ·subst e4;revert h;decide+kernel
    ·have q2:(y == (".0":Str))=false:=beq_eq_false_iff_ne.mpr e2
     have q3:(y == ("_law_one":Str))=false:=beq_eq_false_iff_ne.mpr e3
     have q4:(y == ("list":Str))=false:=beq_eq_false_iff_ne.mpr e4
     simp [List.lookup,q2,q3,q4] at h
 nd:=by decide+kernel
 free:=fun k y hy=>by simp at hy
 len:=rfl
theorem ok_bc (F:Fun K "_law_book_copied" "_law_book_copied" (top 42) f fd) (T:Txt K mg a) (ro:RO K a.a_Opening) (rw:RW K a.a_FreshWords):FnOk P w K mg base CX0 1 f fd ["_law_book"] jkj:=by
 refine F.ok sc_bc (fun vs H Q E h=>?_) (fun cdv A outer s H vs Q E hr h=>⟨S9.t_bc K,?_,S9.rd_bcG h⟩)
 ·obtain ⟨_,_,_,_,_,_,_,rfl,_⟩:=h
  rfl
 have nd:=sc_bc.nd
 have hu:=jxl hr
 have hu0:=hr.units0
 refine wp 0 "_law_book" (pv 0) fun p0=>?_
 have LS:CompSc ((cxOf CX0 P w K mg base ["_law_book"] "_law_book_copied" (jq8 (top 42)) f cdv A outer s H E).nox) (jkq (top 42)) [] "_law_one" [] []:=lc_bc
 exact (jq7 (jqs (jpy rfl LS (jzn p0) (fun fp s H C=>(jqu (jq0 (jqm jqh (pv 0) jq6 (fun _ _=>rfl)) (jq0 (jz6 jky (by rfl) T.n_list jks (jq0 (jqm jqh (pv 0) jq6 (fun _ _=>rfl)) jq4)) (jq0 (jqm jqh (pv 0) jq6 (fun _ _=>rfl)) jq4))))))))
theorem sc_sm:FnScope ["_law_found","_law_due","_law_todo","_law_one","_law_other","_law_k"] ["_law_found","_law_due"] (jq8 (top 43)):=⟨rfl,rfl,rfl,by decide+kernel,rfl,by decide+kernel,by decide+kernel⟩
theorem ok_sm (F:Fun K "_law_so" "_law_so" (top 43) f fd) (T:Txt K mg a) (ro:RO K a.a_Opening) (rw:RW K a.a_FreshWords):FnOk P w K mg base CX0 1 f fd ["_law_found","_law_due"] jw5:=by
 refine F.ok sc_sm (fun vs H Q E h=>?_) (fun cdv A outer s H vs Q E hr h=>⟨S9.t_sm K,?_,S9.rd_sm h⟩)
 ·obtain ⟨_,_,_,rfl,_⟩:=h
  rfl
 have nd:=sc_sm.nd
 have hu:=jxl hr
 have hu0:=hr.units0
 refine wp 0 "_law_found" (pv 0) fun p0=>?_
 refine wp 1 "_law_due" (pv 1) fun p1=>?_
 refine wp 2 "_law_todo" (pv 2) fun p2=>?_
 refine wp 3 "_law_one" (pv 3) fun p3=>?_
 refine wp 4 "_law_other" (pv 4) fun p4=>?_
 refine wp 5 "_law_k" (pv 5) fun p5=>?_
 refine wg 2 "_law_todo" nd fun l2 g2=>?_
 refine wg 3 "_law_one" nd fun l3 g3=>?_
 refine wg 4 "_law_other" nd fun l4 g4=>?_
 refine wg 5 "_law_k" nd fun l5 g5=>?_
 refine wk "tuple" fun k_tuple=>?_
 refine wk "list" fun k_list=>?_
 refine wk "isinstance" fun k_isinstance=>?_
 refine wk "len" fun k_len=>?_
 refine wk "range" fun k_range=>?_
 refine wk "str" fun k_str=>?_
 refine wk "bool" fun k_bool=>?_
 refine wk "int" fun k_int=>?_
 exact (jq5 (jqj (i:=2) nd rfl l2 (jx2 (jq0 (jqu (jq0 p0 (jq0 p1 jq4))) jq4))) (jq5 (jz8 PassesOwn.never (jqg (jwr hu0) p2 (jx2 jq4) (jqo _)) (jq5 (jak (jk2 PySem.F.plainAttrs_list PySem.F.slot_list_pop PySem.F.type_list_pop jk3 p2) (jal rfl (jz9 g3 (jz9 g4 jvk)))) (jq7 (jx8 (jz1 (jqe jfz k_isinstance T.n_isinstance jqi (jq0 p4 (jq0 (jqu (jq0 (jxg (v:=.ty "list") k_list T.n_list jks rfl) (jq0 (jxg (v:=.ty "tuple") k_tuple T.n_tuple jzp rfl) jq4))) jq4)))) (jq5 (jx8 (jqg jv0 (jqe jxe k_isinstance T.n_isinstance jqi (jq0 p3 (jq0 (jxg (v:=.ty "list") k_list T.n_list jks rfl) jq4))) (jqe jxe k_isinstance T.n_isinstance jqi (jq0 p4 (jq0 (jxg (v:=.ty "list") k_list T.n_list jks rfl) jq4))) (jqo _)) (jq7 (jqs jzb)) jqz) (jq5 (jx8 (jqg jv0 (jqe jxe k_isinstance T.n_isinstance jqi (jq0 p3 (jq0 (jxg (v:=.ty "tuple") k_tuple T.n_tuple jzp rfl) jq4))) (jqe jxe k_isinstance T.n_isinstance jqi (jq0 p4 (jq0 (jxg (v:=.ty "tuple") k_tuple T.n_tuple jzp rfl) jq4))) (jqo _)) (jq7 (jqs jzb)) jqz) (jq5 (jx8 (jqg jv0 (jqe jql k_len T.n_len jxj (jq0 p3 jq4)) (jqe jql k_len T.n_len jxj (jq0 p4 jq4)) (jqo _)) (jq7 (jqs jzb)) jqz) (jq7 (jzo PassesOwn.never rfl (jew k_range T.n_range (jq0 (jqe jql k_len T.n_len jxj (jq0 p4 jq4)) jq4)) g5 (jq7 (jqx (jzg PySem.F.plainAttrs_list PySem.F.slot_list_append PySem.F.type_list_append jx1 p2 (jq0 (jqu (jq0 (jqm jqh p3 p5 (fun _ _=>rfl)) (jq0 (jqm jqh p4 p5 (fun _ _=>rfl)) jq4))) jq4))))))))) (jq7 (jx8 (jz1 (jqe jxe k_isinstance T.n_isinstance jqi (jq0 p4 (jq0 (jxg (v:=.ty "str") k_str T.n_str jwf rfl) jq4)))) (jq7 (jx8 (jk0 (jzu (jz1 (jqe jxe k_isinstance T.n_isinstance jqi (jq0 p3 (jq0 (jxg (v:=.ty "str") k_str T.n_str jwf rfl) jq4))))) (jjr (jqg jv0 p3 p4 (jqo _)))).pt (jq7 (jqs jzb)) jqz)) (jq7 (jx8 (jz1 (jqe jxe k_isinstance T.n_isinstance jqi (jq0 p4 (jq0 (jxg (v:=.ty "bool") k_bool T.n_bool ja1 rfl) jq4)))) (jq7 (jx8 (jk0 (jzu (jz1 (jqe jxe k_isinstance T.n_isinstance jqi (jq0 p3 (jq0 (jxg (v:=.ty "bool") k_bool T.n_bool ja1 rfl) jq4))))) (jjr (jqg jv0 p3 p4 (jqo _)))).pt (jq7 (jqs jzb)) jqz)) (jq7 (jx8 (jqg jr3 p4 jex (jqo _)) (jq7 (jx8 (jqg jmk p3 jex (jqo _)) (jq7 (jqs jzb)) jqz)) (jq7 (jx8 (jk0 (jzu (jz1 (jqe jxe k_isinstance T.n_isinstance jqi (jq0 p3 (jq0 (jxg (v:=.ty "int") k_int T.n_int jvz rfl) jq4))))) (jk0 (jz1 (jqe jxe k_isinstance T.n_isinstance jqi (jq0 p3 (jq0 (jxg (v:=.ty "bool") k_bool T.n_bool ja1 rfl) jq4)))) (jjr (jqg jv0 p3 p4 (jqo _))))).pt (jq7 (jqs jzb)) jqz)))))))))))) (jq7 (jqs jzb))))
theorem sc_parts:FnScope ["piece","kind"] ["piece"] (jq8 (top 6)):=⟨rfl,rfl,rfl,by decide+kernel,rfl,by decide+kernel,by decide+kernel⟩
theorem jgv (F:Fun K "parts" "parts" (top 6) f fd) (T:Txt K mg a) (ro:RO K a.a_Opening) (rw:RW K a.a_FreshWords):FnOk P w K mg base CX0 1 f fd ["piece"] jzj:=by
 refine F.ok sc_parts (fun vs H Q E h=>?_) (fun cdv A outer s H vs Q E hr h=>⟨SW.t_parts K,?_,S9.rd_partsG h⟩)
 ·obtain ⟨_,_,rfl,_⟩:=h
  rfl
 have nd:=sc_parts.nd
 have hu:=jxl hr
 have hu0:=hr.units0
 refine wp 0 "piece" (pv 0) fun p0=>?_
 refine wp 1 "kind" (pv 1) fun p1=>?_
 refine wg 1 "kind" nd fun l1 g1=>?_
 exact (jq5 (jqj (i:=1) nd rfl l1 (jqm jqh p0 jq6 (fun _ _=>rfl))) (jq5 (jx8 (jk0 (jqg jz7 p1 jqf (jqo _)) (jjr (jqg jz7 p1 jqf (jqo _)))).pt (jq7 (jqs (jqu jq4))) jqz) (jq5 (jx8 (jk0 (jqg jz7 p1 jqf (jqo _)) (jjr (jqg jz7 p1 jqf (jqo _)))).pt (jq7 (jqs (jxr jbx p0 (jxq jq6) jzv))) jqz) (jq7 (jqs (jxr jbx p0 (jxq jq6) jzv))))))
theorem sc_ep:FnScope ["piece","found","waiting","current"] ["piece"] (jq8 (top 7)):=⟨rfl,rfl,rfl,by decide+kernel,rfl,by decide+kernel,by decide+kernel⟩
theorem ok_ep (F:Fun K "every_piece" "every_piece" (top 7) f fd) (T:Txt K mg a) (ro:RO K a.a_Opening) (rw:RW K a.a_FreshWords)
  {fd_parts:FuncData} (G_parts:FnOk P w K mg base CX0 1 a.a_parts fd_parts ["piece"] jzj) (F_parts:Fun K "parts" "parts" (top 6) a.a_parts fd_parts) (b_parts:Binds K fd_parts ["piece"] []):FnOk P w K mg base CX0 2 f fd ["piece"] jk6:=by
 refine F.ok sc_ep (fun vs H Q E h=>?_) (fun cdv A outer s H vs Q E hr h=>⟨S9.t_ep K,?_,S9.rd_ep h⟩)
 ·obtain ⟨_,_,rfl,_⟩:=h
  rfl
 have nd:=sc_ep.nd
 have hu:=jxl hr
 have hu0:=hr.units0
 refine wp 0 "piece" (pv 0) fun p0=>?_
 refine wp 1 "found" (pv 1) fun p1=>?_
 refine wp 2 "waiting" (pv 2) fun p2=>?_
 refine wp 3 "current" (pv 3) fun p3=>?_
 refine wg 1 "found" nd fun l1 g1=>?_
 refine wg 2 "waiting" nd fun l2 g2=>?_
 refine wg 3 "current" nd fun l3 g3=>?_
 refine wk "len" fun k_len=>?_
 refine wk "parts" fun k_parts=>?_
 exact (jq5 (jqj (i:=1) nd rfl l1 (jx2 jq4)) (jq5 (jqj (i:=2) nd rfl l2 (jx2 (jq0 p0 jq4))) (jq5 (jz8 PassesOwn.never (jqg jkl (jqe jql k_len T.n_len jxj (jq0 p2 jq4)) jq6 (jqo _)) (jq5 (jqj (i:=3) nd rfl l3 (jk2 PySem.F.plainAttrs_list PySem.F.slot_list_pop PySem.F.type_list_pop jk3 p2)) (jq5 (jqx (jzg PySem.F.plainAttrs_list PySem.F.slot_list_append PySem.F.type_list_append jx1 p1 (jq0 p3 jq4))) (jq7 (jqx (jzg PySem.F.plainAttrs_list PySem.F.slot_list_extend PySem.F.type_list_extend jcx p2 (jq0 (jqp G_parts (hr.mono (by decide)) k_parts T.g_parts F_parts.kp b_parts .nil jx6 (jq0 p3 jq4)) jq4))))))) (jq7 (jqs p1)))))
theorem sc_ww:FnScope ["words","word","value","more"] ["words","word","value"] (jq8 (top 8)):=⟨rfl,rfl,rfl,by decide+kernel,rfl,by decide+kernel,by decide+kernel⟩
theorem ok_ww (F:Fun K "with_word" "with_word" (top 8) f fd) (T:Txt K mg a) (ro:RO K a.a_Opening) (rw:RW K a.a_FreshWords):FnOk P w K mg base CX0 1 f fd ["words","word","value"] jzf:=by
 refine F.ok sc_ww (fun vs H Q E h=>?_) (fun cdv A outer s H vs Q E hr h=>⟨SW.t_ww K,?_,SW.rd_ww h⟩)
 ·obtain ⟨_,_,_,_,rfl,_⟩:=h
  rfl
 have nd:=sc_ww.nd
 have hu:=jxl hr
 have hu0:=hr.units0
 refine wp 0 "words" (pv 0) fun p0=>?_
 refine wp 1 "word" (pv 1) fun p1=>?_
 refine wp 2 "value" (pv 2) fun p2=>?_
 refine wp 3 "more" (pv 3) fun p3=>?_
 refine wg 3 "more" nd fun l3 g3=>?_
 refine wk "dict" fun k_dict=>?_
 exact (jq5 (jqj (i:=3) nd rfl l3 (jz6 jd8 k_dict T.n_dict jn2 (jq0 p0 jq4))) (jq5 (jkk hu p3 p1 p2 rfl) (jq7 (jqs p3))))
theorem sc_pwl:FnScope ["piece","lets"] ["piece","lets"] (jq8 (top 9)):=⟨rfl,rfl,rfl,by decide+kernel,rfl,by decide+kernel,by decide+kernel⟩
def jka (s:Stmt):Scope:=match (jqn s).getLast? with
 | some (.Return (some (.ListComp _ _ sc _)) _)=>sc
 | _=>jq8 s
theorem jrj {cdv:Value} {A:Around} {outer:List Env} {s:Shared} {H:Hp} {E:XK}:CompSc ((cxOf CX0 P w K mg base ["piece","lets"] "pieces_with_lets" (jq8 (top 9)) f cdv A outer s H E).nox) (jka (top 9)) [("lets",s.heap.objs.size+1)] "part" ["lets"] [1] where
 clos:=rfl
 ncell:=by decide+kernel
 kind:=rfl
 names:=by decide+kernel
 loc:=rfl
 cells:=fun y c h=>h
 has:=fun y h=>by
  have e:(relabel (jka (top 9)) ((cxOf CX0 P w K mg base ["piece","lets"] "pieces_with_lets" (jq8 (top 9)) f cdv A outer s H E).nox).env).names=([((".0":Str),NameKind.local),(("part":Str),NameKind.local),(("lets":Str),NameKind.cell)]:List (Str×NameKind)):=rfl
  rw [e] at h
  by_cases e1:y="lets"
  ·subst e1;exact ⟨_,rfl⟩
  ·exfalso
   have q1:(y == ("lets":Str))=false:=beq_eq_false_iff_ne.mpr e1
   by_cases e2:y=".0"
   ·subst e2;revert h;decide+kernel
   ·by_cases e3:y="part"
    ·subst e3;revert h;decide+kernel
    ·have q2:(y == (".0":Str))=false:=beq_eq_false_iff_ne.mpr e2
     have q3:(y == ("part":Str))=false:=beq_eq_false_iff_ne.mpr e3
     simp [List.lookup,q1,q2,q3] at h
 nd:=by decide+kernel
 free:=fun k y hy=>by
  cases k with
  | zero=>
   have:y="lets":=(Option.some.inj hy).symm
   subst this
   exact ⟨1,rfl,rfl,rfl,.inl rfl⟩
  | succ k=>simp at hy
 len:=rfl
theorem jr5 (F:Fun K "pieces_with_lets" "pieces_with_lets" (top 9) f fd) (T:Txt K mg a) (ro:RO K a.a_Opening) (rw:RW K a.a_FreshWords)
  {fd_with_word:FuncData} (G_with_word:FnOk P w K mg base CX0 1 a.a_with_word fd_with_word ["words","word","value"] jzf) (F_with_word:Fun K "with_word" "with_word" (top 8) a.a_with_word fd_with_word) (b_with_word:Binds K fd_with_word ["words","word","value"] [])
  {fd_parts:FuncData} (G_parts:FnOk P w K mg base CX0 1 a.a_parts fd_parts ["piece"] jb4) (F_parts:Fun K "parts" "parts" (top 6) a.a_parts fd_parts) (b_parts:Binds K fd_parts ["piece"] []):FnOk P w K mg base CX0 2 f fd ["piece","lets"] jcq:=by
 refine F.ok sc_pwl (fun vs H Q E h=>?_) (fun cdv A outer s H vs Q E hr h=>⟨SW.t_pwl K,?_,SW.rd_pwl h⟩)
 ·first|(obtain ⟨_,rfl,_⟩:=h;rfl)|(obtain ⟨_,_,rfl,_⟩:=h;rfl)|(obtain ⟨_,_,_,rfl,_⟩:=h;rfl)|(obtain ⟨_,_,_,_,rfl,_⟩:=h;rfl)|(obtain ⟨_,_,_,_,_,rfl,_⟩:=h;rfl)
 have nd:=sc_pwl.nd
 have hu:=jxl hr
 have hu0:=hr.units0
 refine wp 0 "piece" (pv 0) fun p0=>?_
 refine wp 1 "lets" (pv 1) fun p1=>?_
 refine wk "with_word" fun k_with_word=>?_
 refine wk "parts" fun k_parts=>?_
 have LS:CompSc ((cxOf CX0 P w K mg base ["piece","lets"] "pieces_with_lets" (jq8 (top 9)) f cdv A outer s H E).nox) (jka (top 9)) [("lets",s.heap.objs.size+1)] "part" ["lets"] [1]:=jrj
 exact (jq5 (jx8 (jqg jz7 (jqm jqh p0 jq6 (fun _ _=>rfl)) jqf (jqo _)) (jq7 (jqs (jx2 (jq0 (jqu (jq0 (jqm jqh p0 jq6 (fun _ _=>rfl)) (jq0 (jqp G_with_word (hr.mono (by decide)) k_with_word T.g_with_word F_with_word.kp b_with_word .nil jx6 (jq0 p1 (jq0 (jqm jqh p0 jq6 (fun _ _=>rfl)) (jq0 jzb jq4)))) jq4))) (jq0 (jqu (jq0 (jqm jqh p0 jq6 (fun _ _=>rfl)) (jq0 p1 jq4))) jq4))))) jqz) (jq7 (jqs (jpy rfl LS (ji7 (jqp G_parts (hr.mono (by decide)) k_parts T.g_parts F_parts.kp b_parts .nil jx6 (jq0 p0 jq4))) (fun fp s H C=>(jqu (jq0 (pv 0) (jq0 (pv 1) jq4))))))))
theorem sc_out:FnScope ["piece","found","waiting","pair","current","lets"] ["piece"] (jq8 (top 10)):=⟨rfl,rfl,rfl,by decide+kernel,rfl,by decide+kernel,by decide+kernel⟩
theorem jr6 (F:Fun K "outside_names" "outside_names" (top 10) f fd) (T:Txt K mg a) (ro:RO K a.a_Opening) (rw:RW K a.a_FreshWords)
  {fd_pieces_with_lets:FuncData} (G_pieces_with_lets:FnOk P w K mg base CX0 2 a.a_pieces_with_lets fd_pieces_with_lets ["piece","lets"] jcq) (F_pieces_with_lets:Fun K "pieces_with_lets" "pieces_with_lets" (top 9) a.a_pieces_with_lets fd_pieces_with_lets) (b_pieces_with_lets:Binds K fd_pieces_with_lets ["piece","lets"] []):FnOk P w K mg base CX0 3 f fd ["piece"] jac:=by
 refine F.ok sc_out (fun vs H Q E h=>?_) (fun cdv A outer s H vs Q E hr h=>⟨SW.t_out K,?_,SW.rd_out h⟩)
 ·obtain ⟨_,_,rfl,_⟩:=h
  rfl
 have nd:=sc_out.nd
 have hu:=jxl hr
 have hu0:=hr.units0
 refine wp 0 "piece" (pv 0) fun p0=>?_
 refine wp 1 "found" (pv 1) fun p1=>?_
 refine wp 2 "waiting" (pv 2) fun p2=>?_
 refine wp 3 "pair" (pv 3) fun p3=>?_
 refine wp 4 "current" (pv 4) fun p4=>?_
 refine wp 5 "lets" (pv 5) fun p5=>?_
 refine wg 1 "found" nd fun l1 g1=>?_
 refine wg 2 "waiting" nd fun l2 g2=>?_
 refine wg 3 "pair" nd fun l3 g3=>?_
 refine wg 4 "current" nd fun l4 g4=>?_
 refine wg 5 "lets" nd fun l5 g5=>?_
 refine wk "len" fun k_len=>?_
 refine wk "sorted" fun k_sorted=>?_
 refine wk "pieces_with_lets" fun k_pieces_with_lets=>?_
 exact (jq5 (jqj (i:=1) nd rfl l1 jjy) (jq5 (jqj (i:=2) nd rfl l2 (jx2 (jq0 (jqu (jq0 p0 (jq0 jjy jq4))) jq4))) (jq5 (jz8 PassesOwn.never (jqg jkl (jqe jql k_len T.n_len jxj (jq0 p2 jq4)) jq6 (jqo _)) (jq5 (jqj (i:=3) nd rfl l3 (jk2 PySem.F.plainAttrs_list PySem.F.slot_list_pop PySem.F.type_list_pop jk3 p2)) (jq5 (jqj (i:=4) nd rfl l4 (jqm jqh p3 jq6 (fun _ _=>rfl))) (jq5 (jqj (i:=5) nd rfl l5 (jqm jqh p3 jq6 (fun _ _=>rfl))) (jq5 (jx8 (jjs (jqg jz7 (jqm jqh p4 jq6 (fun _ _=>rfl)) jqf (jqo _)) (jzt (jc1 (jam hu (jqm jqh p4 jq6 (fun _ _=>rfl)) p5)))).pt (jq7 (jkk hu p1 (jqm jqh p4 jq6 (fun _ _=>rfl)) jzb rfl)) jqz) (jq7 (jqx (jzg PySem.F.plainAttrs_list PySem.F.slot_list_extend PySem.F.type_list_extend jvo p2 (jq0 (jqp G_pieces_with_lets (hr.mono (by decide)) k_pieces_with_lets T.g_pieces_with_lets F_pieces_with_lets.kp b_pieces_with_lets .nil jx6 (jq0 p4 (jq0 p5 jq4))) jq4))))))))) (jq7 (jqs (jqe (jau rfl) k_sorted T.n_sorted jg1 (jq0 p1 jq4)))))))
theorem sc_sbw:FnScope ["book","stamps","stamp"] ["book"] (jq8 (top 12)):=⟨rfl,rfl,rfl,by decide+kernel,rfl,by decide+kernel,by decide+kernel⟩
theorem jr4 (F:Fun K "stamps_by_word" "stamps_by_word" (top 12) f fd) (T:Txt K mg a) (ro:RO K a.a_Opening) (rw:RW K a.a_FreshWords):FnOk P w K mg base CX0 1 f fd ["book"] jje:=by
 refine F.ok sc_sbw (fun vs H Q E h=>?_) (fun cdv A outer s H vs Q E hr h=>⟨S9.t_sbw K,?_,S9.rd_sbw h⟩)
 ·obtain ⟨_,_,_,_,_,_,_,rfl,_⟩:=h
  rfl
 have nd:=sc_sbw.nd
 have hu:=jxl hr
 have hu0:=hr.units0
 refine wp 0 "book" (pv 0) fun p0=>?_
 refine wp 1 "stamps" (pv 1) fun p1=>?_
 refine wp 2 "stamp" (pv 2) fun p2=>?_
 refine wg 1 "stamps" nd fun l1 g1=>?_
 refine wg 2 "stamp" nd fun l2 g2=>?_
 exact (jq5 (jqj (i:=1) nd rfl l1 jjy) (jq5 (jzo PassesOwn.never rfl (jzn p0) g2 (jq7 (jkk hu p1 (jqm jqh p2 jq6 (fun _ _=>rfl)) p2 rfl))) (jq7 (jqs p1))))
theorem sc_cu:FnScope ["stamps","use","word","handed","places"] ["stamps","use"] (jq8 (top 13)):=⟨rfl,rfl,rfl,by decide+kernel,rfl,by decide+kernel,by decide+kernel⟩
theorem ok_cu (F:Fun K "check_use" "check_use" (top 13) f fd) (T:Txt K mg a) (ro:RO K a.a_Opening) (rw:RW K a.a_FreshWords) (hx_NoStamp:PySem.W.excIn K a.a_NoStamp [.type "ValueError",.type "Exception",.type "BaseException",.type "object"] "ValueError.__new__"=true)
  {fd_parts:FuncData} (G_parts:FnOk P w K mg base CX0 1 a.a_parts fd_parts ["piece"] jzj) (F_parts:Fun K "parts" "parts" (top 6) a.a_parts fd_parts) (b_parts:Binds K fd_parts ["piece"] []):FnOk P w K mg base (CXx P w) 2 f fd ["stamps","use"] (je8 a.a_NoStamp):=by
 refine F.okx sc_cu (fun vs H Q E h=>?_) (fun cdv A outer s H vs Q E hr h=>⟨S9.t_cu K a.a_NoStamp E,?_,S9.rd_cu h⟩)
 ·obtain ⟨_,_,_,_,_,_,_,_,_,_,rfl,_⟩:=h
  rfl
 have nd:=sc_cu.nd
 have hu:=jxl hr
 have hu0:=hr.units0
 refine wp 0 "stamps" (pv 0) fun p0=>?_
 refine wp 1 "use" (pv 1) fun p1=>?_
 refine wp 2 "word" (pv 2) fun p2=>?_
 refine wp 3 "handed" (pv 3) fun p3=>?_
 refine wp 4 "places" (pv 4) fun p4=>?_
 refine wg 2 "word" nd fun l2 g2=>?_
 refine wg 3 "handed" nd fun l3 g3=>?_
 refine wg 4 "places" nd fun l4 g4=>?_
 refine wk "len" fun k_len=>?_
 refine wk "parts" fun k_parts=>?_
 refine wk "NoStamp" fun k_NoStamp=>?_
 exact (jq5 (jqj (i:=2) nd rfl l2 (jqm jqh p1 jq6 (fun _ _=>rfl))) (jq5 (jx8 (jc1 (jam hu p2 p0)) (jq7 (jc2 PySem.F.excBase_ValueError k_NoStamp T.g_NoStamp hx_NoStamp (jr0 p2))) jqz) (jq5 (jqj (i:=3) nd rfl l3 (jqe jql k_len T.n_len jxj (jq0 (jqp G_parts (hr.mono (by decide)) k_parts T.g_parts F_parts.kp b_parts .nil jx6 (jq0 p1 jq4)) jq4))) (jq5 (jqj (i:=4) nd rfl l4 (jqe jql k_len T.n_len jxj (jq0 (jqm jqh (jb9 hu p0 p2 (fun _ _=>rfl)) jq6 (fun _ _=>rfl)) jq4))) (jq7 (jx8 (jqg jv0 p3 p4 (jqo _)) (jq7 (jc2 PySem.F.excBase_ValueError k_NoStamp T.g_NoStamp hx_NoStamp (jpz (jc3 (jev p2 (jc3 (jev p4 (jc3 (jev p3 (jc3 jpu)))))))))) jqz))))))
theorem sc_cp:FnScope ["stamps","piece","current"] ["stamps","piece"] (jq8 (top 14)):=⟨rfl,rfl,rfl,by decide+kernel,rfl,by decide+kernel,by decide+kernel⟩
theorem ok_cp (F:Fun K "check_piece" "check_piece" (top 14) f fd) (T:Txt K mg a) (ro:RO K a.a_Opening) (rw:RW K a.a_FreshWords)
  {fd_every_piece:FuncData} (G_every_piece:FnOk P w K mg base CX0 2 a.a_every_piece fd_every_piece ["piece"] jk6) (F_every_piece:Fun K "every_piece" "every_piece" (top 7) a.a_every_piece fd_every_piece) (b_every_piece:Binds K fd_every_piece ["piece"] [])
  {fd_check_use:FuncData} (G_check_use:FnOk P w K mg base (CXx P w) 2 a.a_check_use fd_check_use ["stamps","use"] (je8 a.a_NoStamp)) (F_check_use:Fun K "check_use" "check_use" (top 13) a.a_check_use fd_check_use) (b_check_use:Binds K fd_check_use ["stamps","use"] []):FnOk P w K mg base (CXx P w) 3 f fd ["stamps","piece"] (jcr a.a_NoStamp):=by
 refine F.okx sc_cp (fun vs H Q E h=>?_) (fun cdv A outer s H vs Q E hr h=>⟨S9.t_cp K a.a_NoStamp E,?_,S9.rd_cp h⟩)
 ·obtain ⟨_,_,_,_,_,_,_,_,_,rfl,_⟩:=h
  rfl
 have nd:=sc_cp.nd
 have hu:=jxl hr
 have hu0:=hr.units0
 refine wp 0 "stamps" (pv 0) fun p0=>?_
 refine wp 1 "piece" (pv 1) fun p1=>?_
 refine wp 2 "current" (pv 2) fun p2=>?_
 refine wg 2 "current" nd fun l2 g2=>?_
 refine wk "every_piece" fun k_every_piece=>?_
 refine wk "check_use" fun k_check_use=>?_
 exact (jq7 (jzo PassesOwn.leaving rfl (jzn (jqp G_every_piece (hr.mono (by decide)) k_every_piece T.g_every_piece F_every_piece.kp b_every_piece .nil jx6 (jq0 p1 jq4))) g2 (jq7 (jx8 (jqg jz7 (jqm jqh p2 jq6 (fun _ _=>rfl)) jqf (jqo _)) (jq7 (jqx (jqp G_check_use (hr.mono (by decide)) k_check_use T.g_check_use F_check_use.kp b_check_use .nil (jgt fun _ _ _ z=>z) (jq0 p0 (jq0 p2 jq4))))) jqz))))
theorem sc_ck:FnScope ["book","piece","stamps","stamp"] ["book","piece"] (jq8 (top 15)):=⟨rfl,rfl,rfl,by decide+kernel,rfl,by decide+kernel,by decide+kernel⟩
theorem ok_ck (F:Fun K "check_stamps" "check_stamps" (top 15) f fd) (T:Txt K mg a) (ro:RO K a.a_Opening) (rw:RW K a.a_FreshWords)
  {fd_stamps_by_word:FuncData} (G_stamps_by_word:FnOk P w K mg base CX0 1 a.a_stamps_by_word fd_stamps_by_word ["book"] jje) (F_stamps_by_word:Fun K "stamps_by_word" "stamps_by_word" (top 12) a.a_stamps_by_word fd_stamps_by_word) (b_stamps_by_word:Binds K fd_stamps_by_word ["book"] [])
  {fd_check_piece:FuncData} (G_check_piece:FnOk P w K mg base (CXx P w) 3 a.a_check_piece fd_check_piece ["stamps","piece"] (jcr a.a_NoStamp)) (F_check_piece:Fun K "check_piece" "check_piece" (top 14) a.a_check_piece fd_check_piece) (b_check_piece:Binds K fd_check_piece ["stamps","piece"] []):FnOk P w K mg base (CXx P w) 4 f fd ["book","piece"] (jed a.a_NoStamp):=by
 refine F.okx sc_ck (fun vs H Q E h=>?_) (fun cdv A outer s H vs Q E hr h=>⟨S9.t_ck K a.a_NoStamp E,?_,S9.rd_ck h⟩)
 ·obtain ⟨_,_,_,_,_,_,_,_,_,rfl,_⟩:=h
  rfl
 have nd:=sc_ck.nd
 have hu:=jxl hr
 have hu0:=hr.units0
 refine wp 0 "book" (pv 0) fun p0=>?_
 refine wp 1 "piece" (pv 1) fun p1=>?_
 refine wp 2 "stamps" (pv 2) fun p2=>?_
 refine wp 3 "stamp" (pv 3) fun p3=>?_
 refine wg 2 "stamps" nd fun l2 g2=>?_
 refine wg 3 "stamp" nd fun l3 g3=>?_
 refine wk "stamps_by_word" fun k_stamps_by_word=>?_
 refine wk "check_piece" fun k_check_piece=>?_
 exact (jq5 (jqj (i:=2) nd rfl l2 (jqp G_stamps_by_word (hr.mono (by decide)) k_stamps_by_word T.g_stamps_by_word F_stamps_by_word.kp b_stamps_by_word .nil jx6 (jq0 p0 jq4))) (jq5 (jqx (jqp G_check_piece (hr.mono (by decide)) k_check_piece T.g_check_piece F_check_piece.kp b_check_piece .nil (jgt fun _ _ _ z=>z) (jq0 p2 (jq0 p1 jq4)))) (jq7 (jzo PassesOwn.leaving rfl (jzn p0) g3 (jq7 (jqx (jqp G_check_piece (hr.mono (by decide)) k_check_piece T.g_check_piece F_check_piece.kp b_check_piece .nil (jgt fun _ _ _ z=>z) (jq0 p2 (jq0 (jqm jqh p3 jq6 (fun _ _=>rfl)) jq4)))))))))
theorem sc_nw:FnScope ["number","word","rest"] ["number"] (jq8 (top 18)):=⟨rfl,rfl,rfl,by decide+kernel,rfl,by decide+kernel,by decide+kernel⟩
theorem ok_nw (F:Fun K "numbered_word" "numbered_word" (top 18) f fd) (T:Txt K mg a) (ro:RO K a.a_Opening) (rw:RW K a.a_FreshWords):FnOk P w K mg base CX0 1 f fd ["number"] jad:=by
 refine F.ok sc_nw (fun vs H Q E h=>?_) (fun cdv A outer s H vs Q E hr h=>⟨S9.t_nw K,?_,S9.rd_nw h⟩)
 ·obtain ⟨_,rfl,_⟩:=h
  rfl
 have nd:=sc_nw.nd
 have hu:=jxl hr
 have hu0:=hr.units0
 refine wp 0 "number" (pv 0) fun p0=>?_
 refine wp 1 "word" (pv 1) fun p1=>?_
 refine wp 2 "rest" (pv 2) fun p2=>?_
 refine wg 1 "word" nd fun l1 g1=>?_
 refine wg 2 "rest" nd fun l2 g2=>?_
 refine wk "len" fun k_len=>?_
 refine wk "LETTERS" fun k_LETTERS=>?_
 obtain ⟨tk_LETTERS,v_LETTERS⟩:=T.g_LETTERS
 exact (jq5 (jqj (i:=1) nd rfl l1 (jqm jff (jjf (v:=.str "abcdefghijklmnopqrstuvwxyz") k_LETTERS v_LETTERS ⟨_,rfl⟩) (jxb jz2 p0 (jqe jj3 k_len T.n_len jxj (jq0 (jjf (v:=.str "abcdefghijklmnopqrstuvwxyz") k_LETTERS v_LETTERS ⟨_,rfl⟩) jq4))) (fun _ _=>rfl))) (jq5 (jqj (i:=2) nd rfl l2 (jxb jk8 p0 (jqe jj3 k_len T.n_len jxj (jq0 (jjf (v:=.str "abcdefghijklmnopqrstuvwxyz") k_LETTERS v_LETTERS ⟨_,rfl⟩) jq4)))) (jq5 (jz8 PassesOwn.never (jqg jkl p2 jq6 (jqo _)) (jq5 (jqj (i:=1) nd rfl l1 (jxb jkm (jqm jff (jjf (v:=.str "abcdefghijklmnopqrstuvwxyz") k_LETTERS v_LETTERS ⟨_,rfl⟩) (jxb jz2 (jxb jkx p2 jq6) (jqe jj3 k_len T.n_len jxj (jq0 (jjf (v:=.str "abcdefghijklmnopqrstuvwxyz") k_LETTERS v_LETTERS ⟨_,rfl⟩) jq4))) (fun _ _=>rfl)) p1)) (jq7 (jqj (i:=2) nd rfl l2 (jxb jk8 (jxb jkx p2 jq6) (jqe jj3 k_len T.n_len jxj (jq0 (jjf (v:=.str "abcdefghijklmnopqrstuvwxyz") k_LETTERS v_LETTERS ⟨_,rfl⟩) jq4))))))) (jq7 (jqs p1)))))
theorem sc_wi:FnScope ["self","taken","word"] ["self","taken"] (jq8 (jqc (top 19) 0)):=⟨rfl,rfl,rfl,by decide+kernel,rfl,by decide+kernel,by decide+kernel⟩
theorem ok_wi (F:Fun K "__init__" "FreshWords.__init__" (jqc (top 19) 0) f fd) (T:Txt K mg a) (ro:RO K a.a_Opening) (rw:RW K a.a_FreshWords):FnOk P w K mg base CX0 1 f fd ["self","taken"] (jec a.a_FreshWords):=by
 refine F.ok sc_wi (fun vs H Q E h=>?_) (fun cdv A outer s H vs Q E hr h=>⟨S9.t_wi K a.a_FreshWords,?_,S9.rd_wi rw h⟩)
 ·obtain ⟨_,_,_,_,rfl,_⟩:=h
  rfl
 have nd:=sc_wi.nd
 have hu:=jxl hr
 have hu0:=hr.units0
 refine wp 0 "self" (pv 0) fun p0=>?_
 refine wp 1 "taken" (pv 1) fun p1=>?_
 refine wp 2 "word" (pv 2) fun p2=>?_
 refine wg 2 "word" nd fun l2 g2=>?_
 exact (jq5 (jvj p0 jjy rfl) (jq5 (jzo PassesOwn.never rfl (jzn p1) g2 (jq7 (jkk hu (jzw p0 rfl) p2 jzb rfl))) (jq7 (jvj p0 jq6 rfl))))
theorem sc_wf:FnScope ["self","word","free"] ["self","word"] (jq8 (jqc (top 19) 1)):=⟨rfl,rfl,rfl,by decide+kernel,rfl,by decide+kernel,by decide+kernel⟩
theorem ok_wf (F:Fun K "fresh" "FreshWords.fresh" (jqc (top 19) 1) f fd) (T:Txt K mg a) (ro:RO K a.a_Opening) (rw:RW K a.a_FreshWords)
  {fd_numbered_word:FuncData} (G_numbered_word:FnOk P w K mg base CX0 1 a.a_numbered_word fd_numbered_word ["number"] jad) (F_numbered_word:Fun K "numbered_word" "numbered_word" (top 18) a.a_numbered_word fd_numbered_word) (b_numbered_word:Binds K fd_numbered_word ["number"] []):FnOk P w K mg base CX0 2 f fd ["self","word"] (jvc a.a_FreshWords):=by
 refine F.ok sc_wf (fun vs H Q E h=>?_) (fun cdv A outer s H vs Q E hr h=>⟨S9.t_wf K a.a_FreshWords,?_,S9.rd_wf rw h⟩)
 ·obtain ⟨_,_,_,_,_,_,rfl,_⟩:=h
  rfl
 have nd:=sc_wf.nd
 have hu:=jxl hr
 have hu0:=hr.units0
 refine wp 0 "self" (pv 0) fun p0=>?_
 refine wp 1 "word" (pv 1) fun p1=>?_
 refine wp 2 "free" (pv 2) fun p2=>?_
 refine wg 2 "free" nd fun l2 g2=>?_
 refine wk "numbered_word" fun k_numbered_word=>?_
 exact (jq5 (jqj (i:=2) nd rfl l2 p1) (jq5 (jz8 PassesOwn.never (jc1 (jia hu p2 (jzw p0 rfl))) (jq5 (jqj (i:=2) nd rfl l2 (jqp G_numbered_word (hr.mono (by decide)) k_numbered_word T.g_numbered_word F_numbered_word.kp b_numbered_word .nil jx6 (jq0 (jzw p0 rfl) jq4))) (jq7 (jvi p0 jq6 jfi)))) (jq5 (jkk hu (jzw p0 rfl) p2 jzb rfl) (jq7 (jqs p2)))))
theorem sc_aon:FnScope ["book","piece","words","stamp"] ["book","piece"] (jq8 (top 21)):=⟨rfl,rfl,rfl,by decide+kernel,rfl,by decide+kernel,by decide+kernel⟩
theorem jrc (F:Fun K "all_outside_names" "all_outside_names" (top 21) f fd) (T:Txt K mg a) (ro:RO K a.a_Opening) (rw:RW K a.a_FreshWords)
  {fd_outside_names:FuncData} (G_outside_names:FnOk P w K mg base CX0 3 a.a_outside_names fd_outside_names ["piece"] jac) (F_outside_names:Fun K "outside_names" "outside_names" (top 10) a.a_outside_names fd_outside_names) (b_outside_names:Binds K fd_outside_names ["piece"] []):FnOk P w K mg base CX0 4 f fd ["book","piece"] jee:=by
 refine F.ok sc_aon (fun vs H Q E h=>?_) (fun cdv A outer s H vs Q E hr h=>⟨S9.t_aon K,?_,S9.rd_aon h⟩)
 ·obtain ⟨_,_,_,_,_,_,_,_,_,rfl,_⟩:=h
  rfl
 have nd:=sc_aon.nd
 have hu:=jxl hr
 have hu0:=hr.units0
 refine wp 0 "book" (pv 0) fun p0=>?_
 refine wp 1 "piece" (pv 1) fun p1=>?_
 refine wp 2 "words" (pv 2) fun p2=>?_
 refine wp 3 "stamp" (pv 3) fun p3=>?_
 refine wg 2 "words" nd fun l2 g2=>?_
 refine wg 3 "stamp" nd fun l3 g3=>?_
 refine wk "outside_names" fun k_outside_names=>?_
 exact (jq5 (jqj (i:=2) nd rfl l2 (jqp G_outside_names (hr.mono (by decide)) k_outside_names T.g_outside_names F_outside_names.kp b_outside_names .nil jx6 (jq0 p1 jq4))) (jq5 (jzo PassesOwn.never rfl (jzn p0) g3 (jq7 (jqx (jzg PySem.F.plainAttrs_list PySem.F.slot_list_extend PySem.F.type_list_extend jvo p2 (jq0 (jqp G_outside_names (hr.mono (by decide)) k_outside_names T.g_outside_names F_outside_names.kp b_outside_names .nil jx6 (jq0 (jqm jqh p3 jq6 (fun _ _=>rfl)) jq4)) jq4))))) (jq7 (jqs p2))))
theorem sc_sw:FnScope ["spot"] ["spot"] (jq8 (top 22)):=⟨rfl,rfl,rfl,by decide+kernel,rfl,by decide+kernel,by decide+kernel⟩
def jkp (s:Stmt):Scope:=match (jqn s).getLast? with
 | some (.Return (some (.ListComp _ _ sc _)) _)=>sc
 | _=>jq8 s
theorem lc_sw {cdv:Value} {A:Around} {outer:List Env} {s:Shared} {H:Hp} {E:XK}:CompScT ((cxOf CX0 P w K mg base ["spot"] "spots_within" (jq8 (top 22)) f cdv A outer s H E).nox) (jkp (top 22)) [("spot",s.heap.objs.size+1)] ["place","part"] ["spot"] [0] where
 clos:=rfl
 ncell:=by decide+kernel
 kind:=rfl
 names:=by decide+kernel
 cells:=fun y c h=>h
 has:=fun y h=>by
  have e:(relabel (jkp (top 22)) ((cxOf CX0 P w K mg base ["spot"] "spots_within" (jq8 (top 22)) f cdv A outer s H E).nox).env).names=([((".0":Str),NameKind.local),(("place":Str),NameKind.local),(("part":Str),NameKind.local),(("spot":Str),NameKind.cell)]:List (Str×NameKind)):=rfl
  rw [e] at h
  by_cases e1:y="spot"
  ·subst e1;exact ⟨_,rfl⟩
  ·exfalso
   have q1:(y == ("spot":Str))=false:=beq_eq_false_iff_ne.mpr e1
   by_cases e2:y=".0"
   ·subst e2;revert h;decide+kernel
   ·by_cases e3:y="place"
    ·subst e3;revert h;decide+kernel
    ·by_cases e4:y="part"
     ·subst e4;revert h;decide+kernel
     ·have q2:(y == (".0":Str))=false:=beq_eq_false_iff_ne.mpr e2
      have q3:(y == ("place":Str))=false:=beq_eq_false_iff_ne.mpr e3
      have q4:(y == ("part":Str))=false:=beq_eq_false_iff_ne.mpr e4
      simp [List.lookup,q1,q2,q3,q4] at h
 free:=fun k y hy=>by
  cases k with
  | zero=>
   have:y="spot":=(Option.some.inj hy).symm
   subst this
   exact ⟨0,rfl,rfl,rfl,.inl rfl⟩
  | succ k=>simp at hy
 len:=rfl
theorem ok_sw (F:Fun K "spots_within" "spots_within" (top 22) f fd) (T:Txt K mg a) (ro:RO K a.a_Opening) (rw:RW K a.a_FreshWords)
  {fd_parts:FuncData} (G_parts:FnOk P w K mg base CX0 1 a.a_parts fd_parts ["piece"] jzj) (F_parts:Fun K "parts" "parts" (top 6) a.a_parts fd_parts) (b_parts:Binds K fd_parts ["piece"] []):FnOk P w K mg base CX0 2 f fd ["spot"] jzi:=by
 refine F.ok sc_sw (fun vs H Q E h=>?_) (fun cdv A outer s H vs Q E hr h=>⟨S9.t_sw K,?_,S9.rd_sw h⟩)
 ·obtain ⟨_,_,_,rfl,_⟩:=h
  rfl
 have nd:=sc_sw.nd
 have hu:=jxl hr
 have hu0:=hr.units0
 refine wp 0 "spot" (pv 0) fun p0=>?_
 refine wk "enumerate" fun k_enumerate=>?_
 refine wk "parts" fun k_parts=>?_
 have LS:CompScT ((cxOf CX0 P w K mg base ["spot"] "spots_within" (jq8 (top 22)) f cdv A outer s H E).nox) (jkp (top 22)) [("spot",s.heap.objs.size+1)] ["place","part"] ["spot"] [0]:=lc_sw
 exact (jq7 (jqs (jpx rfl LS (jmf k_enumerate T.n_enumerate (jqp G_parts (hr.mono (by decide)) k_parts T.g_parts F_parts.kp b_parts .nil jx6 (jq0 (jqm jqh p0 jq6 (fun _ _=>rfl)) jq4))) (fun fp s H C=>jal rfl (jz9 (jwp (i:=0) (by show (["place","part","spot"]:List Str).Nodup;decide+kernel) rfl (Or.inl rfl) (.inr rfl)) (jz9 (jwp (i:=1) (by show (["place","part","spot"]:List Str).Nodup;decide+kernel) rfl (Or.inl rfl) (.inr rfl)) jvk))) (fun fp s H C=>(jqu (jq0 (pv 1) (jq0 (jqm jqh (pv 2) jq6 (fun _ _=>rfl)) (jq0 (jxb jf0 (jqm jqh (pv 2) jq6 (fun _ _=>rfl)) (jqu (jq0 (pv 0) jq4))) (jq0 (jqm jqh (pv 2) jq6 (fun _ _=>rfl)) jq4)))))))))
theorem sc_hs:FnScope ["spot","piece","word"] ["spot"] (jq8 (top 23)):=⟨rfl,rfl,rfl,by decide+kernel,rfl,by decide+kernel,by decide+kernel⟩
theorem ok_hs (F:Fun K "has_stamps_to_open" "has_stamps_to_open" (top 23) f fd) (T:Txt K mg a) (ro:RO K a.a_Opening) (rw:RW K a.a_FreshWords)
  {fd_every_piece:FuncData} (G_every_piece:FnOk P w K mg base CX0 2 a.a_every_piece fd_every_piece ["piece"] jk6) (F_every_piece:Fun K "every_piece" "every_piece" (top 7) a.a_every_piece fd_every_piece) (b_every_piece:Binds K fd_every_piece ["piece"] [])
  {fd_outside_names:FuncData} (G_outside_names:FnOk P w K mg base CX0 3 a.a_outside_names fd_outside_names ["piece"] jac) (F_outside_names:Fun K "outside_names" "outside_names" (top 10) a.a_outside_names fd_outside_names) (b_outside_names:Binds K fd_outside_names ["piece"] []):FnOk P w K mg base CX0 4 f fd ["spot"] jeb:=by
 refine F.ok sc_hs (fun vs H Q E h=>?_) (fun cdv A outer s H vs Q E hr h=>⟨S9.t_hs K,?_,S9.rd_hs h⟩)
 ·obtain ⟨_,_,_,rfl,_⟩:=h
  rfl
 have nd:=sc_hs.nd
 have hu:=jxl hr
 have hu0:=hr.units0
 refine wp 0 "spot" (pv 0) fun p0=>?_
 refine wp 1 "piece" (pv 1) fun p1=>?_
 refine wp 2 "word" (pv 2) fun p2=>?_
 refine wg 1 "piece" nd fun l1 g1=>?_
 refine wg 2 "word" nd fun l2 g2=>?_
 refine wk "every_piece" fun k_every_piece=>?_
 refine wk "outside_names" fun k_outside_names=>?_
 exact (jq5 (jzo PassesOwn.never rfl (jzn (jqp G_every_piece (hr.mono (by decide)) k_every_piece T.g_every_piece F_every_piece.kp b_every_piece .nil jx6 (jq0 (jqm jqh p0 jq6 (fun _ _=>rfl)) jq4))) g1 (jq7 (jx8 (jqg jz7 (jqm jqh p1 jq6 (fun _ _=>rfl)) jqf (jqo _)) (jq7 (jqs jzb)) jqz))) (jq5 (jzo PassesOwn.never rfl (jzn (jqp G_outside_names (hr.mono (by decide)) k_outside_names T.g_outside_names F_outside_names.kp b_outside_names .nil jx6 (jq0 (jqm jqh p0 jq6 (fun _ _=>rfl)) jq4))) g2 (jq7 (jx8 (jjs (jc1 (jia hu p2 (jqm jqh p0 jq6 (fun _ _=>rfl)))) (jzt (jqg jz7 (jqm jqh (jb9 hu (jqm jqh p0 jq6 (fun _ _=>rfl)) p2 (fun _ _=>rfl)) jq6 (fun _ _=>rfl)) jqf (jqo _)))).pt (jq7 (jqs jzb)) jqz))) (jq7 (jqs jzb))))
theorem sc_ra:FnScope ["spot","head","many"] ["spot","head","many"] (jq8 (top 24)):=⟨rfl,rfl,rfl,by decide+kernel,rfl,by decide+kernel,by decide+kernel⟩
theorem ok_ra (F:Fun K "row_at" "row_at" (top 24) f fd) (T:Txt K mg a) (ro:RO K a.a_Opening) (rw:RW K a.a_FreshWords):FnOk P w K mg base CX0 1 f fd ["spot","head","many"] jwi:=by
 refine F.ok sc_ra (fun vs H Q E h=>?_) (fun cdv A outer s H vs Q E hr h=>⟨S9.t_ra K,?_,S9.rd_ra h⟩)
 ·obtain ⟨_,_,_,_,_,_,_,_,rfl,_⟩:=h
  rfl
 have nd:=sc_ra.nd
 have hu:=jxl hr
 have hu0:=hr.units0
 refine wp 0 "spot" (pv 0) fun p0=>?_
 refine wp 1 "head" (pv 1) fun p1=>?_
 refine wp 2 "many" (pv 2) fun p2=>?_
 exact (jq7 (jqs (jqu (jq0 jqf (jq0 p1 (jq0 p2 (jq0 (jqu (jq0 (jqm jqh p0 jq6 (fun _ _=>rfl)) (jq0 (jqm jqh p0 jq6 (fun _ _=>rfl)) jq4))) jq4)))))))
theorem sc_oi:FnScope ["self","book","piece","fuel"] ["self","book","piece","fuel"] (jq8 (jqc (top 25) 0)):=⟨rfl,rfl,rfl,by decide+kernel,rfl,by decide+kernel,by decide+kernel⟩
theorem ok_oi (F:Fun K "__init__" "Opening.__init__" (jqc (top 25) 0) f fd) (T:Txt K mg a) (ro:RO K a.a_Opening) (rw:RW K a.a_FreshWords)
  {fd_stamps_by_word:FuncData} (G_stamps_by_word:FnOk P w K mg base CX0 1 a.a_stamps_by_word fd_stamps_by_word ["book"] jje) (F_stamps_by_word:Fun K "stamps_by_word" "stamps_by_word" (top 12) a.a_stamps_by_word fd_stamps_by_word) (b_stamps_by_word:Binds K fd_stamps_by_word ["book"] [])
  {fd_all_outside_names:FuncData} (G_all_outside_names:FnOk P w K mg base CX0 4 a.a_all_outside_names fd_all_outside_names ["book","piece"] jee) (F_all_outside_names:Fun K "all_outside_names" "all_outside_names" (top 21) a.a_all_outside_names fd_all_outside_names) (b_all_outside_names:Binds K fd_all_outside_names ["book","piece"] [])
  {fd_FreshWords___init__:FuncData} (G_FreshWords___init__:FnOk P w K mg base CX0 1 a.a_FreshWords___init__ fd_FreshWords___init__ ["self","taken"] (jec a.a_FreshWords)) (F_FreshWords___init__:Fun K "__init__" "FreshWords.__init__" (jqc (top 19) 0) a.a_FreshWords___init__ fd_FreshWords___init__) (b_FreshWords___init__:Binds K fd_FreshWords___init__ ["self","taken"] []) (M_FreshWords:Mk K a.a_FreshWords a.a_FreshWords___init__):FnOk P w K mg base CX0 5 f fd ["self","book","piece","fuel"] (spOi a.a_Opening a.a_FreshWords):=by
 refine F.ok sc_oi (fun vs H Q E h=>?_) (fun cdv A outer s H vs Q E hr h=>⟨S9.t_oi K a.a_Opening a.a_FreshWords,?_,S9.rd_oi ro h⟩)
 ·obtain ⟨_,_,_,_,_,_,_,_,_,_,_,_,rfl,_⟩:=h
  rfl
 have nd:=sc_oi.nd
 have hu:=jxl hr
 have hu0:=hr.units0
 refine wp 0 "self" (pv 0) fun p0=>?_
 refine wp 1 "book" (pv 1) fun p1=>?_
 refine wp 2 "piece" (pv 2) fun p2=>?_
 refine wp 3 "fuel" (pv 3) fun p3=>?_
 refine wk "stamps_by_word" fun k_stamps_by_word=>?_
 refine wk "all_outside_names" fun k_all_outside_names=>?_
 refine wk "FreshWords" fun k_FreshWords=>?_
 exact (jq5 (jvj p0 (jqp G_stamps_by_word (hr.mono (by decide)) k_stamps_by_word T.g_stamps_by_word F_stamps_by_word.kp b_stamps_by_word .nil jx6 (jq0 p1 jq4)) rfl) (jq5 (jvj p0 (jey M_FreshWords G_FreshWords___init__ (hr.mono (by decide)) k_FreshWords T.g_FreshWords b_FreshWords___init__ .nil jx6 (jq0 (jqp G_all_outside_names (hr.mono (by decide)) k_all_outside_names T.g_all_outside_names F_all_outside_names.kp b_all_outside_names .nil jx6 (jq0 p1 (jq0 p2 jq4))) jq4)) rfl) (jq5 (jvj p0 p3 rfl) (jq5 (jvj p0 jq6 rfl) (jq7 (jvj p0 (jx2 jq4) rfl))))))
theorem sc_tn:FnScope ["self","spot","waiting","rows","word","meaning"] ["self","spot","waiting","rows"] (jq8 (jqc (top 25) 5)):=⟨rfl,rfl,rfl,by decide+kernel,rfl,by decide+kernel,by decide+kernel⟩
theorem ok_tn (F:Fun K "take_name" "Opening.take_name" (jqc (top 25) 5) f fd) (T:Txt K mg a) (ro:RO K a.a_Opening) (rw:RW K a.a_FreshWords)
  {fd_row_at:FuncData} (G_row_at:FnOk P w K mg base CX0 1 a.a_row_at fd_row_at ["spot","head","many"] jwi) (F_row_at:Fun K "row_at" "row_at" (top 24) a.a_row_at fd_row_at) (b_row_at:Binds K fd_row_at ["spot","head","many"] []):FnOk P w K mg base CX0 2 f fd ["self","spot","waiting","rows"] spTn:=by
 refine F.ok sc_tn (fun vs H Q E h=>?_) (fun cdv A outer s H vs Q E hr h=>⟨S9.t_tn K a.a_Opening a.a_FreshWords,?_,S9.rd_tn h⟩)
 ·obtain ⟨_,_,_,_,_,_,_,_,_,_,rfl,_⟩:=h
  rfl
 have nd:=sc_tn.nd
 have hu:=jxl hr
 have hu0:=hr.units0
 refine wp 1 "spot" (pv 1) fun p1=>?_
 refine wp 2 "waiting" (pv 2) fun p2=>?_
 refine wp 3 "rows" (pv 3) fun p3=>?_
 refine wp 4 "word" (pv 4) fun p4=>?_
 refine wp 5 "meaning" (pv 5) fun p5=>?_
 refine wg 4 "word" nd fun l4 g4=>?_
 refine wg 5 "meaning" nd fun l5 g5=>?_
 refine wk "row_at" fun k_row_at=>?_
 exact (jq5 (jqj (i:=4) nd rfl l4 (jqm jqh (jqm jqh p1 jq6 (fun _ _=>rfl)) jq6 (fun _ _=>rfl))) (jq5 (jqj (i:=5) nd rfl l5 (jc6 hu (jqm jqh p1 jq6 (fun _ _=>rfl)) p4 (jqu (jq0 jqf (jq0 p4 jq4))) ⟨rfl,rfl,rfl,rfl⟩)) (jq7 (jx8 (jqg jz7 (jqm jqh p5 jq6 (fun _ _=>rfl)) jqf (jqo _)) (jq7 (jqx (jzg PySem.F.plainAttrs_list PySem.F.slot_list_append PySem.F.type_list_append jx1 p2 (jq0 (jqm jqh p5 jq6 (fun _ _=>rfl)) jq4)))) (jq7 (jx8 (jqg jz7 (jqm jqh p5 jq6 (fun _ _=>rfl)) jqf (jqo _)) (jq7 (jqx (jzg PySem.F.plainAttrs_list PySem.F.slot_list_append PySem.F.type_list_append jx1 p3 (jq0 p5 jq4)))) (jq7 (jqx (jzg PySem.F.plainAttrs_list PySem.F.slot_list_append PySem.F.type_list_append jx1 p3 (jq0 (jqp G_row_at (hr.mono (by decide)) k_row_at T.g_row_at F_row_at.kp b_row_at .nil jx6 (jq0 p1 (jq0 (jqu (jq0 jqf (jq0 (jqm jqh p5 jq6 (fun _ _=>rfl)) jq4))) (jq0 jq6 jq4)))) jq4))))))))))
theorem sc_tp:FnScope ["self","spot","waiting","rows","piece","inner","part"] ["self","spot","waiting","rows"] (jq8 (jqc (top 25) 7)):=⟨rfl,rfl,rfl,by decide+kernel,rfl,by decide+kernel,by decide+kernel⟩
theorem ok_tp (F:Fun K "take_plain" "Opening.take_plain" (jqc (top 25) 7) f fd) (T:Txt K mg a) (ro:RO K a.a_Opening) (rw:RW K a.a_FreshWords)
  {fd_spots_within:FuncData} (G_spots_within:FnOk P w K mg base CX0 2 a.a_spots_within fd_spots_within ["spot"] jzi) (F_spots_within:Fun K "spots_within" "spots_within" (top 22) a.a_spots_within fd_spots_within) (b_spots_within:Binds K fd_spots_within ["spot"] [])
  {fd_row_at:FuncData} (G_row_at:FnOk P w K mg base CX0 1 a.a_row_at fd_row_at ["spot","head","many"] jwi) (F_row_at:Fun K "row_at" "row_at" (top 24) a.a_row_at fd_row_at) (b_row_at:Binds K fd_row_at ["spot","head","many"] []):FnOk P w K mg base CX0 3 f fd ["self","spot","waiting","rows"] spTp:=by
 refine F.ok sc_tp (fun vs H Q E h=>?_) (fun cdv A outer s H vs Q E hr h=>⟨S9.t_tp K a.a_Opening a.a_FreshWords,?_,S9.rd_tp h⟩)
 ·obtain ⟨_,_,_,_,_,_,_,_,_,_,rfl,_⟩:=h
  rfl
 have nd:=sc_tp.nd
 have hu:=jxl hr
 have hu0:=hr.units0
 refine wp 1 "spot" (pv 1) fun p1=>?_
 refine wp 2 "waiting" (pv 2) fun p2=>?_
 refine wp 3 "rows" (pv 3) fun p3=>?_
 refine wp 4 "piece" (pv 4) fun p4=>?_
 refine wp 5 "inner" (pv 5) fun p5=>?_
 refine wp 6 "part" (pv 6) fun p6=>?_
 refine wg 4 "piece" nd fun l4 g4=>?_
 refine wg 5 "inner" nd fun l5 g5=>?_
 refine wg 6 "part" nd fun l6 g6=>?_
 refine wk "len" fun k_len=>?_
 refine wk "reversed" fun k_reversed=>?_
 refine wk "spots_within" fun k_spots_within=>?_
 refine wk "row_at" fun k_row_at=>?_
 exact (jq5 (jqj (i:=4) nd rfl l4 (jqm jqh p1 jq6 (fun _ _=>rfl))) (jq5 (jqj (i:=5) nd rfl l5 (jqp G_spots_within (hr.mono (by decide)) k_spots_within T.g_spots_within F_spots_within.kp b_spots_within .nil jx6 (jq0 p1 jq4))) (jq5 (jqx (jzg PySem.F.plainAttrs_list PySem.F.slot_list_append PySem.F.type_list_append jx1 p3 (jq0 (jqp G_row_at (hr.mono (by decide)) k_row_at T.g_row_at F_row_at.kp b_row_at .nil jx6 (jq0 p1 (jq0 (jxr jlz p4 jzv (jxq (jxb jkx (jqe jql k_len T.n_len jxj (jq0 p4 jq4)) (jqe jql k_len T.n_len jxj (jq0 p5 jq4))))) (jq0 (jqe jql k_len T.n_len jxj (jq0 p5 jq4)) jq4)))) jq4))) (jq7 (jzo PassesOwn.never rfl (ji8 k_reversed T.n_reversed p5) g6 (jq7 (jqx (jzg PySem.F.plainAttrs_list PySem.F.slot_list_append PySem.F.type_list_append jx1 p2 (jq0 p6 jq4)))))))))
theorem sc_tl:FnScope ["self","spot","waiting","rows","own","word","inner","other"] ["self","spot","waiting","rows"] (jq8 (jqc (top 25) 6)):=⟨rfl,rfl,rfl,by decide+kernel,rfl,by decide+kernel,by decide+kernel⟩
theorem ok_tl (F:Fun K "take_let" "Opening.take_let" (jqc (top 25) 6) f fd) (T:Txt K mg a) (ro:RO K a.a_Opening) (rw:RW K a.a_FreshWords)
  {fd_FreshWords_fresh:FuncData} (G_FreshWords_fresh:FnOk P w K mg base CX0 2 a.a_FreshWords_fresh fd_FreshWords_fresh ["self","word"] (jvc a.a_FreshWords)) (F_FreshWords_fresh:Fun K "fresh" "FreshWords.fresh" (jqc (top 19) 1) a.a_FreshWords_fresh fd_FreshWords_fresh) (b_FreshWords_fresh:Binds K fd_FreshWords_fresh ["self","word"] []) (m_FreshWords_fresh:Meth K a.a_FreshWords "fresh" a.a_FreshWords_fresh)
  {fd_spots_within:FuncData} (G_spots_within:FnOk P w K mg base CX0 2 a.a_spots_within fd_spots_within ["spot"] jzi) (F_spots_within:Fun K "spots_within" "spots_within" (top 22) a.a_spots_within fd_spots_within) (b_spots_within:Binds K fd_spots_within ["spot"] [])
  {fd_row_at:FuncData} (G_row_at:FnOk P w K mg base CX0 1 a.a_row_at fd_row_at ["spot","head","many"] jwi) (F_row_at:Fun K "row_at" "row_at" (top 24) a.a_row_at fd_row_at) (b_row_at:Binds K fd_row_at ["spot","head","many"] [])
  {fd_with_word:FuncData} (G_with_word:FnOk P w K mg base CX0 1 a.a_with_word fd_with_word ["words","word","value"] jzf) (F_with_word:Fun K "with_word" "with_word" (top 8) a.a_with_word fd_with_word) (b_with_word:Binds K fd_with_word ["words","word","value"] []):FnOk P w K mg base CX0 3 f fd ["self","spot","waiting","rows"] (spTl a.a_Opening a.a_FreshWords):=by
 refine F.ok sc_tl (fun vs H Q E h=>?_) (fun cdv A outer s H vs Q E hr h=>⟨S9.t_tl K a.a_Opening a.a_FreshWords,?_,S9.rd_tl ro h⟩)
 ·obtain ⟨_,_,_,_,_,_,_,_,_,_,_,_,_,_,_,_,_,_,_,rfl,_⟩:=h
  rfl
 have nd:=sc_tl.nd
 have hu:=jxl hr
 have hu0:=hr.units0
 refine wp 0 "self" (pv 0) fun p0=>?_
 refine wp 1 "spot" (pv 1) fun p1=>?_
 refine wp 2 "waiting" (pv 2) fun p2=>?_
 refine wp 3 "rows" (pv 3) fun p3=>?_
 refine wp 4 "own" (pv 4) fun p4=>?_
 refine wp 5 "word" (pv 5) fun p5=>?_
 refine wp 6 "inner" (pv 6) fun p6=>?_
 refine wp 7 "other" (pv 7) fun p7=>?_
 refine wg 4 "own" nd fun l4 g4=>?_
 refine wg 5 "word" nd fun l5 g5=>?_
 refine wg 6 "inner" nd fun l6 g6=>?_
 refine wg 7 "other" nd fun l7 g7=>?_
 refine wk "spots_within" fun k_spots_within=>?_
 refine wk "row_at" fun k_row_at=>?_
 refine wk "with_word" fun k_with_word=>?_
 exact (jq5 (jqj (i:=4) nd rfl l4 (jqm jqh (jqm jqh p1 jq6 (fun _ _=>rfl)) jq6 (fun _ _=>rfl))) (jq5 (jqj (i:=5) nd rfl l5 (jza (jzw p0 rfl) T.cl_FreshWords m_FreshWords_fresh G_FreshWords_fresh (hr.mono (by decide)) b_FreshWords_fresh .nil jx6 (jq0 p4 jq4))) (jq5 (jqj (i:=6) nd rfl l6 (jqp G_spots_within (hr.mono (by decide)) k_spots_within T.g_spots_within F_spots_within.kp b_spots_within .nil jx6 (jq0 p1 jq4))) (jq5 (jqj (i:=7) nd rfl l7 (jqm jxf p6 jq6 (fun _ _=>rfl))) (jq5 (jqx (jzg PySem.F.plainAttrs_list PySem.F.slot_list_append PySem.F.type_list_append jx1 p3 (jq0 (jqp G_row_at (hr.mono (by decide)) k_row_at T.g_row_at F_row_at.kp b_row_at .nil jx6 (jq0 p1 (jq0 (jqu (jq0 jqf (jq0 p5 jq4))) (jq0 jq6 jq4)))) jq4))) (jq5 (jqx (jzg PySem.F.plainAttrs_list PySem.F.slot_list_append PySem.F.type_list_append jx1 p2 (jq0 (jqu (jq0 (jqm jqh p7 jq6 (fun _ _=>rfl)) (jq0 (jqm jqh p7 jq6 (fun _ _=>rfl)) (jq0 (jqm jqh p7 jq6 (fun _ _=>rfl)) (jq0 (jqp G_with_word (hr.mono (by decide)) k_with_word T.g_with_word F_with_word.kp b_with_word .nil jx6 (jq0 (jqm jqh p1 jq6 (fun _ _=>rfl)) (jq0 p4 (jq0 (jqu (jq0 jqf (jq0 p5 jq4))) jq4)))) jq4))))) jq4))) (jq7 (jqx (jzg PySem.F.plainAttrs_list PySem.F.slot_list_append PySem.F.type_list_append jx1 p2 (jq0 (jqm jxf p6 jq6 (fun _ _=>rfl)) jq4))))))))))
theorem sc_tk:FnScope ["self","spot","waiting","rows","kind"] ["self","spot","waiting","rows"] (jq8 (jqc (top 25) 2)):=⟨rfl,rfl,rfl,by decide+kernel,rfl,by decide+kernel,by decide+kernel⟩
theorem ok_tk (F:Fun K "take" "Opening.take" (jqc (top 25) 2) f fd) (T:Txt K mg a) (ro:RO K a.a_Opening) (rw:RW K a.a_FreshWords)
  {fd_Opening_body_of:FuncData} (G_Opening_body_of:FnOk P w K mg base CX0 1 a.a_Opening_body_of fd_Opening_body_of ["self","spot"] spNo2) (F_Opening_body_of:Fun K "body_of" "Opening.body_of" (jqc (top 25) 3) a.a_Opening_body_of fd_Opening_body_of) (b_Opening_body_of:Binds K fd_Opening_body_of ["self","spot"] []) (m_Opening_body_of:Meth K a.a_Opening "body_of" a.a_Opening_body_of)
  {fd_Opening_take_name:FuncData} (G_Opening_take_name:FnOk P w K mg base CX0 2 a.a_Opening_take_name fd_Opening_take_name ["self","spot","waiting","rows"] spTn) (F_Opening_take_name:Fun K "take_name" "Opening.take_name" (jqc (top 25) 5) a.a_Opening_take_name fd_Opening_take_name) (b_Opening_take_name:Binds K fd_Opening_take_name ["self","spot","waiting","rows"] []) (m_Opening_take_name:Meth K a.a_Opening "take_name" a.a_Opening_take_name)
  {fd_Opening_take_let:FuncData} (G_Opening_take_let:FnOk P w K mg base CX0 3 a.a_Opening_take_let fd_Opening_take_let ["self","spot","waiting","rows"] (spTl a.a_Opening a.a_FreshWords)) (F_Opening_take_let:Fun K "take_let" "Opening.take_let" (jqc (top 25) 6) a.a_Opening_take_let fd_Opening_take_let) (b_Opening_take_let:Binds K fd_Opening_take_let ["self","spot","waiting","rows"] []) (m_Opening_take_let:Meth K a.a_Opening "take_let" a.a_Opening_take_let)
  {fd_Opening_take_plain:FuncData} (G_Opening_take_plain:FnOk P w K mg base CX0 3 a.a_Opening_take_plain fd_Opening_take_plain ["self","spot","waiting","rows"] spTp) (F_Opening_take_plain:Fun K "take_plain" "Opening.take_plain" (jqc (top 25) 7) a.a_Opening_take_plain fd_Opening_take_plain) (b_Opening_take_plain:Binds K fd_Opening_take_plain ["self","spot","waiting","rows"] []) (m_Opening_take_plain:Meth K a.a_Opening "take_plain" a.a_Opening_take_plain):FnOk P w K mg base CX0 4 f fd ["self","spot","waiting","rows"] (jea a.a_Opening a.a_FreshWords):=by
 refine F.ok sc_tk (fun vs H Q E h=>?_) (fun cdv A outer s H vs Q E hr h=>⟨S9.t_tk K a.a_Opening a.a_FreshWords,?_,S9.rd_tk1 h⟩)
 ·obtain ⟨_,_,_,_,_,_,_,_,_,_,_,_,_,_,_,_,rfl,_⟩:=h
  rfl
 have nd:=sc_tk.nd
 have hu:=jxl hr
 have hu0:=hr.units0
 refine wp 0 "self" (pv 0) fun p0=>?_
 refine wp 1 "spot" (pv 1) fun p1=>?_
 refine wp 2 "waiting" (pv 2) fun p2=>?_
 refine wp 3 "rows" (pv 3) fun p3=>?_
 refine wp 4 "kind" (pv 4) fun p4=>?_
 refine wg 4 "kind" nd fun l4 g4=>?_
 exact (jq5 (jqj (i:=4) nd rfl l4 (jqm jqh (jqm jqh p1 jq6 (fun _ _=>rfl)) jq6 (fun _ _=>rfl))) (jq7 (jx8 (jqg jz7 p4 jqf (jqo _)) (jq5 (jvi p0 jq6 jfi) (jq7 (jqx (jzg PySem.F.plainAttrs_list PySem.F.slot_list_append PySem.F.type_list_append jx1 p2 (jq0 (jza p0 T.cl_Opening m_Opening_body_of G_Opening_body_of (hr.mono (by decide)) b_Opening_body_of .nil jx6 (jq0 p1 jq4)) jq4))))) (jq7 (jx8 (jqg jz7 p4 jqf (jqo _)) (jq7 (jqx (jza p0 T.cl_Opening m_Opening_take_name G_Opening_take_name (hr.mono (by decide)) b_Opening_take_name .nil jx6 (jq0 p1 (jq0 p2 (jq0 p3 jq4)))))) (jq7 (jx8 (jqg jz7 p4 jqf (jqo _)) (jq7 (jqx (jza p0 T.cl_Opening m_Opening_take_let G_Opening_take_let (hr.mono (by decide)) b_Opening_take_let .nil jx6 (jq0 p1 (jq0 p2 (jq0 p3 jq4)))))) (jq7 (jqx (jza p0 T.cl_Opening m_Opening_take_plain G_Opening_take_plain (hr.mono (by decide)) b_Opening_take_plain .nil jx6 (jq0 p1 (jq0 p2 (jq0 p3 jq4)))))))))))))
theorem sc_rows:FnScope ["self","spot","rows","waiting"] ["self","spot"] (jq8 (jqc (top 25) 1)):=⟨rfl,rfl,rfl,by decide+kernel,rfl,by decide+kernel,by decide+kernel⟩
theorem jmn (F:Fun K "rows_of" "Opening.rows_of" (jqc (top 25) 1) f fd) (T:Txt K mg a) (ro:RO K a.a_Opening) (rw:RW K a.a_FreshWords)
  {fd_Opening_take:FuncData} (G_Opening_take:FnOk P w K mg base CX0 4 a.a_Opening_take fd_Opening_take ["self","spot","waiting","rows"] (jea a.a_Opening a.a_FreshWords)) (F_Opening_take:Fun K "take" "Opening.take" (jqc (top 25) 2) a.a_Opening_take fd_Opening_take) (b_Opening_take:Binds K fd_Opening_take ["self","spot","waiting","rows"] []) (m_Opening_take:Meth K a.a_Opening "take" a.a_Opening_take):FnOk P w K mg base CX0 5 f fd ["self","spot"] (jvb a.a_Opening a.a_FreshWords):=by
 refine F.ok sc_rows (fun vs H Q E h=>?_) (fun cdv A outer s H vs Q E hr h=>⟨S9.t_rows K a.a_Opening a.a_FreshWords,?_,S9.rd_rows1 ro h⟩)
 ·obtain ⟨_,_,_,_,_,_,_,_,_,_,_,_,rfl,_⟩:=h
  rfl
 have nd:=sc_rows.nd
 have hu:=jxl hr
 have hu0:=hr.units0
 refine wp 0 "self" (pv 0) fun p0=>?_
 refine wp 1 "spot" (pv 1) fun p1=>?_
 refine wp 2 "rows" (pv 2) fun p2=>?_
 refine wp 3 "waiting" (pv 3) fun p3=>?_
 refine wg 2 "rows" nd fun l2 g2=>?_
 refine wg 3 "waiting" nd fun l3 g3=>?_
 refine wk "len" fun k_len=>?_
 exact (jq5 (jqj (i:=2) nd rfl l2 (jx2 jq4)) (jq5 (jqj (i:=3) nd rfl l3 (jx2 (jq0 p1 jq4))) (jq5 (jz8 PassesOwn.never (jjs (jqg jkl (jqe jql k_len T.n_len jxj (jq0 p3 jq4)) jq6 (jqo _)) (jzt (jqg jr2 (jzw p0 rfl) (jzw p0 rfl) (jqo _)))).pt (jq7 (jqx (jza p0 T.cl_Opening m_Opening_take G_Opening_take (hr.mono (by decide)) b_Opening_take .nil jx6 (jq0 (jk2 PySem.F.plainAttrs_list PySem.F.slot_list_pop PySem.F.type_list_pop jk3 p3) (jq0 p3 (jq0 p2 jq4))))))) (jq7 (jqs p2)))))
theorem sc_mo:FnScope ["self","handed"] ["self","handed"] (jq8 (jqc (top 25) 4)):=⟨rfl,rfl,rfl,by decide+kernel,rfl,by decide+kernel,by decide+kernel⟩
theorem ok_mo (F:Fun K "meaning_of" "Opening.meaning_of" (jqc (top 25) 4) f fd) (T:Txt K mg a) (ro:RO K a.a_Opening) (rw:RW K a.a_FreshWords)
  {fd_has_stamps_to_open:FuncData} (G_has_stamps_to_open:FnOk P w K mg base CX0 4 a.a_has_stamps_to_open fd_has_stamps_to_open ["spot"] jeb) (F_has_stamps_to_open:Fun K "has_stamps_to_open" "has_stamps_to_open" (top 23) a.a_has_stamps_to_open fd_has_stamps_to_open) (b_has_stamps_to_open:Binds K fd_has_stamps_to_open ["spot"] [])
  {fd_Opening_rows_of:FuncData} (G_Opening_rows_of:FnOk P w K mg base CX0 5 a.a_Opening_rows_of fd_Opening_rows_of ["self","spot"] (jvb a.a_Opening a.a_FreshWords)) (F_Opening_rows_of:Fun K "rows_of" "Opening.rows_of" (jqc (top 25) 1) a.a_Opening_rows_of fd_Opening_rows_of) (b_Opening_rows_of:Binds K fd_Opening_rows_of ["self","spot"] []) (m_Opening_rows_of:Meth K a.a_Opening "rows_of" a.a_Opening_rows_of):FnOk P w K mg base CX0 6 f fd ["self","handed"] (spMo a.a_Opening a.a_FreshWords):=by
 refine F.ok sc_mo (fun vs H Q E h=>?_) (fun cdv A outer s H vs Q E hr h=>⟨S9.t_mo K a.a_Opening a.a_FreshWords,?_,S9.rd_mo ro h⟩)
 ·obtain ⟨_,_,_,_,_,_,_,_,_,_,_,_,_,rfl,_⟩:=h
  rfl
 have nd:=sc_mo.nd
 have hu:=jxl hr
 have hu0:=hr.units0
 refine wp 0 "self" (pv 0) fun p0=>?_
 refine wp 1 "handed" (pv 1) fun p1=>?_
 refine wk "len" fun k_len=>?_
 refine wk "has_stamps_to_open" fun k_has_stamps_to_open=>?_
 exact (jq5 (jx8 (jz1 (jqp G_has_stamps_to_open (hr.mono (by decide)) k_has_stamps_to_open T.g_has_stamps_to_open F_has_stamps_to_open.kp b_has_stamps_to_open .nil jx6 (jq0 p1 jq4))) (jq7 (jqs (jqu (jq0 jqf (jq0 p1 jq4))))) jqz) (jq5 (jqx (jzg PySem.F.plainAttrs_list PySem.F.slot_list_append PySem.F.type_list_append jx1 (jzw p0 rfl) (jq0 (jza p0 T.cl_Opening m_Opening_rows_of G_Opening_rows_of (hr.mono (by decide)) b_Opening_rows_of .nil jx6 (jq0 p1 jq4)) jq4))) (jq7 (jqs (jqu (jq0 jqf (jq0 (jxb jkx (jqe jql k_len T.n_len jxj (jq0 (jzw p0 rfl) jq4)) jq6) jq4)))))))
theorem sc_bo:FnScope ["self","spot","stamp","names","place","handed"] ["self","spot"] (jq8 (jqc (top 25) 3)):=⟨rfl,rfl,rfl,by decide+kernel,rfl,by decide+kernel,by decide+kernel⟩
theorem ok_bo (F:Fun K "body_of" "Opening.body_of" (jqc (top 25) 3) f fd) (T:Txt K mg a) (ro:RO K a.a_Opening) (rw:RW K a.a_FreshWords)
  {fd_spots_within:FuncData} (G_spots_within:FnOk P w K mg base CX0 2 a.a_spots_within fd_spots_within ["spot"] jzi) (F_spots_within:Fun K "spots_within" "spots_within" (top 22) a.a_spots_within fd_spots_within) (b_spots_within:Binds K fd_spots_within ["spot"] [])
  {fd_Opening_meaning_of:FuncData} (G_Opening_meaning_of:FnOk P w K mg base CX0 6 a.a_Opening_meaning_of fd_Opening_meaning_of ["self","handed"] (spMo a.a_Opening a.a_FreshWords)) (F_Opening_meaning_of:Fun K "meaning_of" "Opening.meaning_of" (jqc (top 25) 4) a.a_Opening_meaning_of fd_Opening_meaning_of) (b_Opening_meaning_of:Binds K fd_Opening_meaning_of ["self","handed"] []) (m_Opening_meaning_of:Meth K a.a_Opening "meaning_of" a.a_Opening_meaning_of):FnOk P w K mg base CX0 7 f fd ["self","spot"] (spBo a.a_Opening a.a_FreshWords):=by
 refine F.ok sc_bo (fun vs H Q E h=>?_) (fun cdv A outer s H vs Q E hr h=>⟨S9.t_bo K a.a_Opening a.a_FreshWords,?_,S9.rd_bo ro h⟩)
 ·obtain ⟨_,_,_,_,_,_,_,_,_,_,_,_,rfl,_⟩:=h
  rfl
 have nd:=sc_bo.nd
 have hu:=jxl hr
 have hu0:=hr.units0
 refine wp 0 "self" (pv 0) fun p0=>?_
 refine wp 1 "spot" (pv 1) fun p1=>?_
 refine wp 2 "stamp" (pv 2) fun p2=>?_
 refine wp 3 "names" (pv 3) fun p3=>?_
 refine wp 4 "place" (pv 4) fun p4=>?_
 refine wp 5 "handed" (pv 5) fun p5=>?_
 refine wg 2 "stamp" nd fun l2 g2=>?_
 refine wg 3 "names" nd fun l3 g3=>?_
 refine wg 4 "place" nd fun l4 g4=>?_
 refine wg 5 "handed" nd fun l5 g5=>?_
 refine wk "zip" fun k_zip=>?_
 refine wk "spots_within" fun k_spots_within=>?_
 exact (jq5 (jqj (i:=2) nd rfl l2 (jb9 hu (jzw p0 rfl) (jqm jqh (jqm jqh p1 jq6 (fun _ _=>rfl)) jq6 (fun _ _=>rfl)) (fun _ _=>rfl))) (jq5 (jqj (i:=3) nd rfl l3 jjy) (jq5 (jzo PassesOwn.never rfl (jme k_zip T.n_zip (jqm jqh p2 jq6 (fun _ _=>rfl)) (jqp G_spots_within (hr.mono (by decide)) k_spots_within T.g_spots_within F_spots_within.kp b_spots_within .nil jx6 (jq0 p1 jq4))) (jal rfl (jz9 g4 (jz9 g5 jvk))) (jq7 (jkk hu p3 p4 (jza p0 T.cl_Opening m_Opening_meaning_of G_Opening_meaning_of (hr.mono (by decide)) b_Opening_meaning_of .nil jx6 (jq0 p5 jq4)) rfl))) (jq7 (jqs (jqu (jq0 (jqm jqh p2 jq6 (fun _ _=>rfl)) (jq0 (jqm jqh p2 jq6 (fun _ _=>rfl)) (jq0 (jqu jq4) (jq0 p3 jq4))))))))))
theorem sc_tj:FnScope ["self","spot","waiting","rows","kind"] ["self","spot","waiting","rows"] (jq8 (jqc (top 25) 2)):=⟨rfl,rfl,rfl,by decide+kernel,rfl,by decide+kernel,by decide+kernel⟩
theorem ok_tj (F:Fun K "take" "Opening.take" (jqc (top 25) 2) f fd) (T:Txt K mg a) (ro:RO K a.a_Opening) (rw:RW K a.a_FreshWords)
  {fd_Opening_body_of:FuncData} (G_Opening_body_of:FnOk P w K mg base CX0 7 a.a_Opening_body_of fd_Opening_body_of ["self","spot"] (spBo a.a_Opening a.a_FreshWords)) (F_Opening_body_of:Fun K "body_of" "Opening.body_of" (jqc (top 25) 3) a.a_Opening_body_of fd_Opening_body_of) (b_Opening_body_of:Binds K fd_Opening_body_of ["self","spot"] []) (m_Opening_body_of:Meth K a.a_Opening "body_of" a.a_Opening_body_of)
  {fd_Opening_take_name:FuncData} (G_Opening_take_name:FnOk P w K mg base CX0 2 a.a_Opening_take_name fd_Opening_take_name ["self","spot","waiting","rows"] spTn) (F_Opening_take_name:Fun K "take_name" "Opening.take_name" (jqc (top 25) 5) a.a_Opening_take_name fd_Opening_take_name) (b_Opening_take_name:Binds K fd_Opening_take_name ["self","spot","waiting","rows"] []) (m_Opening_take_name:Meth K a.a_Opening "take_name" a.a_Opening_take_name)
  {fd_Opening_take_let:FuncData} (G_Opening_take_let:FnOk P w K mg base CX0 3 a.a_Opening_take_let fd_Opening_take_let ["self","spot","waiting","rows"] (spTl a.a_Opening a.a_FreshWords)) (F_Opening_take_let:Fun K "take_let" "Opening.take_let" (jqc (top 25) 6) a.a_Opening_take_let fd_Opening_take_let) (b_Opening_take_let:Binds K fd_Opening_take_let ["self","spot","waiting","rows"] []) (m_Opening_take_let:Meth K a.a_Opening "take_let" a.a_Opening_take_let)
  {fd_Opening_take_plain:FuncData} (G_Opening_take_plain:FnOk P w K mg base CX0 3 a.a_Opening_take_plain fd_Opening_take_plain ["self","spot","waiting","rows"] spTp) (F_Opening_take_plain:Fun K "take_plain" "Opening.take_plain" (jqc (top 25) 7) a.a_Opening_take_plain fd_Opening_take_plain) (b_Opening_take_plain:Binds K fd_Opening_take_plain ["self","spot","waiting","rows"] []) (m_Opening_take_plain:Meth K a.a_Opening "take_plain" a.a_Opening_take_plain):FnOk P w K mg base CX0 8 f fd ["self","spot","waiting","rows"] (je9 a.a_Opening a.a_FreshWords):=by
 refine F.ok sc_tj (fun vs H Q E h=>?_) (fun cdv A outer s H vs Q E hr h=>⟨S9.t_tj K a.a_Opening a.a_FreshWords,?_,S9.rd_tk2 ro h⟩)
 ·obtain ⟨_,_,_,_,_,_,_,_,_,_,_,_,_,_,_,_,rfl,_⟩:=h
  rfl
 have nd:=sc_tj.nd
 have hu:=jxl hr
 have hu0:=hr.units0
 refine wp 0 "self" (pv 0) fun p0=>?_
 refine wp 1 "spot" (pv 1) fun p1=>?_
 refine wp 2 "waiting" (pv 2) fun p2=>?_
 refine wp 3 "rows" (pv 3) fun p3=>?_
 refine wp 4 "kind" (pv 4) fun p4=>?_
 refine wg 4 "kind" nd fun l4 g4=>?_
 exact (jq5 (jqj (i:=4) nd rfl l4 (jqm jqh (jqm jqh p1 jq6 (fun _ _=>rfl)) jq6 (fun _ _=>rfl))) (jq7 (jx8 (jqg jz7 p4 jqf (jqo _)) (jq5 (jvi p0 jq6 jfi) (jq7 (jqx (jzg PySem.F.plainAttrs_list PySem.F.slot_list_append PySem.F.type_list_append jx1 p2 (jq0 (jza p0 T.cl_Opening m_Opening_body_of G_Opening_body_of (hr.mono (by decide)) b_Opening_body_of .nil jx6 (jq0 p1 jq4)) jq4))))) (jq7 (jx8 (jqg jz7 p4 jqf (jqo _)) (jq7 (jqx (jza p0 T.cl_Opening m_Opening_take_name G_Opening_take_name (hr.mono (by decide)) b_Opening_take_name .nil jx6 (jq0 p1 (jq0 p2 (jq0 p3 jq4)))))) (jq7 (jx8 (jqg jz7 p4 jqf (jqo _)) (jq7 (jqx (jza p0 T.cl_Opening m_Opening_take_let G_Opening_take_let (hr.mono (by decide)) b_Opening_take_let .nil jx6 (jq0 p1 (jq0 p2 (jq0 p3 jq4)))))) (jq7 (jqx (jza p0 T.cl_Opening m_Opening_take_plain G_Opening_take_plain (hr.mono (by decide)) b_Opening_take_plain .nil jx6 (jq0 p1 (jq0 p2 (jq0 p3 jq4)))))))))))))
theorem sc_rowt:FnScope ["self","spot","rows","waiting"] ["self","spot"] (jq8 (jqc (top 25) 1)):=⟨rfl,rfl,rfl,by decide+kernel,rfl,by decide+kernel,by decide+kernel⟩
theorem jmm (F:Fun K "rows_of" "Opening.rows_of" (jqc (top 25) 1) f fd) (T:Txt K mg a) (ro:RO K a.a_Opening) (rw:RW K a.a_FreshWords)
  {fd_Opening_take:FuncData} (G_Opening_take:FnOk P w K mg base CX0 8 a.a_Opening_take fd_Opening_take ["self","spot","waiting","rows"] (je9 a.a_Opening a.a_FreshWords)) (F_Opening_take:Fun K "take" "Opening.take" (jqc (top 25) 2) a.a_Opening_take fd_Opening_take) (b_Opening_take:Binds K fd_Opening_take ["self","spot","waiting","rows"] []) (m_Opening_take:Meth K a.a_Opening "take" a.a_Opening_take):FnOk P w K mg base CX0 9 f fd ["self","spot"] (jva a.a_Opening a.a_FreshWords):=by
 refine F.ok sc_rowt (fun vs H Q E h=>?_) (fun cdv A outer s H vs Q E hr h=>⟨S9.t_rowt K a.a_Opening a.a_FreshWords,?_,S9.rd_rows2 ro h⟩)
 ·obtain ⟨_,_,_,_,_,_,_,_,_,rfl,_⟩:=h
  rfl
 have nd:=sc_rowt.nd
 have hu:=jxl hr
 have hu0:=hr.units0
 refine wp 0 "self" (pv 0) fun p0=>?_
 refine wp 1 "spot" (pv 1) fun p1=>?_
 refine wp 2 "rows" (pv 2) fun p2=>?_
 refine wp 3 "waiting" (pv 3) fun p3=>?_
 refine wg 2 "rows" nd fun l2 g2=>?_
 refine wg 3 "waiting" nd fun l3 g3=>?_
 refine wk "len" fun k_len=>?_
 exact (jq5 (jqj (i:=2) nd rfl l2 (jx2 jq4)) (jq5 (jqj (i:=3) nd rfl l3 (jx2 (jq0 p1 jq4))) (jq5 (jz8 PassesOwn.never (jjs (jqg jkl (jqe jql k_len T.n_len jxj (jq0 p3 jq4)) jq6 (jqo _)) (jzt (jqg jr2 (jzw p0 rfl) (jzw p0 rfl) (jqo _)))).pt (jq7 (jqx (jza p0 T.cl_Opening m_Opening_take G_Opening_take (hr.mono (by decide)) b_Opening_take .nil jx6 (jq0 (jk2 PySem.F.plainAttrs_list PySem.F.slot_list_pop PySem.F.type_list_pop jk3 p3) (jq0 p3 (jq0 p2 jq4))))))) (jq7 (jqs p2)))))
theorem sc_po:FnScope ["rows","written","made","row","inner"] ["rows","written"] (jq8 (top 26)):=⟨rfl,rfl,rfl,by decide+kernel,rfl,by decide+kernel,by decide+kernel⟩
theorem ok_po (F:Fun K "piece_of" "piece_of" (top 26) f fd) (T:Txt K mg a) (ro:RO K a.a_Opening) (rw:RW K a.a_FreshWords):FnOk P w K mg base CX0 1 f fd ["rows","written"] spPo:=by
 refine F.ok sc_po (fun vs H Q E h=>?_) (fun cdv A outer s H vs Q E hr h=>⟨S9.t_po K,?_,S9.rd_po h⟩)
 ·obtain ⟨_,_,_,_,_,_,_,rfl,_⟩:=h
  rfl
 have nd:=sc_po.nd
 have hu:=jxl hr
 have hu0:=hr.units0
 refine wp 0 "rows" (pv 0) fun p0=>?_
 refine wp 1 "written" (pv 1) fun p1=>?_
 refine wp 2 "made" (pv 2) fun p2=>?_
 refine wp 3 "row" (pv 3) fun p3=>?_
 refine wp 4 "inner" (pv 4) fun p4=>?_
 refine wg 2 "made" nd fun l2 g2=>?_
 refine wg 3 "row" nd fun l3 g3=>?_
 refine wg 4 "inner" nd fun l4 g4=>?_
 refine wk "reversed" fun k_reversed=>?_
 refine wk "len" fun k_len=>?_
 refine wk "tuple" fun k_tuple=>?_
 exact (jq5 (jqj (i:=2) nd rfl l2 (jx2 jq4)) (jq5 (jzo PassesOwn.never rfl (ji8 k_reversed T.n_reversed p0) g3 (jq7 (jx8 (jqg jz7 (jqm jqh p3 jq6 (fun _ _=>rfl)) jqf (jqo _)) (jq7 (jqx (jzg PySem.F.plainAttrs_list PySem.F.slot_list_append PySem.F.type_list_append jx1 p2 (jq0 (jqm jqh (jqm jxf p1 (jqm jqh p3 jq6 (fun _ _=>rfl)) (fun _ _=>rfl)) jq6 (fun _ _=>rfl)) jq4)))) (jq5 (jqj (i:=4) nd rfl l4 (jx2 jq4)) (jq5 (jz8 PassesOwn.never (jqg jba (jqe jql k_len T.n_len jxj (jq0 p4 jq4)) (jqm jqh p3 jq6 (fun _ _=>rfl)) (jqo _)) (jq7 (jqx (jzg PySem.F.plainAttrs_list PySem.F.slot_list_append PySem.F.type_list_append jx1 p4 (jq0 (jk2 PySem.F.plainAttrs_list PySem.F.slot_list_pop PySem.F.type_list_pop jk3 p2) jq4))))) (jq7 (jqx (jzg PySem.F.plainAttrs_list PySem.F.slot_list_append PySem.F.type_list_append jx1 p2 (jq0 (jxb jf0 (jqm jqh p3 jq6 (fun _ _=>rfl)) (jz6 jkh k_tuple T.n_tuple jzp (jq0 p4 jq4))) jq4))))))))) (jq7 (jqs (jk2 PySem.F.plainAttrs_list PySem.F.slot_list_pop PySem.F.type_list_pop jk3 p2)))))
theorem sc_so:FnScope ["rows","written","sources","row"] ["rows","written"] (jq8 (top 27)):=⟨rfl,rfl,rfl,by decide+kernel,rfl,by decide+kernel,by decide+kernel⟩
theorem ok_so (F:Fun K "sources_of" "sources_of" (top 27) f fd) (T:Txt K mg a) (ro:RO K a.a_Opening) (rw:RW K a.a_FreshWords):FnOk P w K mg base CX0 1 f fd ["rows","written"] S9.spSo:=by
 refine F.ok sc_so (fun vs H Q E h=>?_) (fun cdv A outer s H vs Q E hr h=>⟨S9.t_so K,?_,S9.rd_so h⟩)
 ·obtain ⟨_,_,_,_,_,_,_,rfl,_⟩:=h
  rfl
 have nd:=sc_so.nd
 have hu:=jxl hr
 have hu0:=hr.units0
 refine wp 0 "rows" (pv 0) fun p0=>?_
 refine wp 1 "written" (pv 1) fun p1=>?_
 refine wp 2 "sources" (pv 2) fun p2=>?_
 refine wp 3 "row" (pv 3) fun p3=>?_
 refine wg 2 "sources" nd fun l2 g2=>?_
 refine wg 3 "row" nd fun l3 g3=>?_
 exact (jq5 (jqj (i:=2) nd rfl l2 (jx2 jq4)) (jq5 (jzo PassesOwn.never rfl (jzn p0) g3 (jq7 (jx8 (jqg jz7 (jqm jqh p3 jq6 (fun _ _=>rfl)) jqf (jqo _)) (jq7 (jqx (jzg PySem.F.plainAttrs_list PySem.F.slot_list_extend PySem.F.type_list_extend jvo p2 (jq0 (jqm jqh (jqm jxf p1 (jqm jqh p3 jq6 (fun _ _=>rfl)) (fun _ _=>rfl)) jq6 (fun _ _=>rfl)) jq4)))) (jq7 (jqx (jzg PySem.F.plainAttrs_list PySem.F.slot_list_append PySem.F.type_list_append jx1 p2 (jq0 (jqm jqh p3 jq6 (fun _ _=>rfl)) jq4))))))) (jq7 (jqs p2))))
theorem sc_wo:FnScope ["rows","written"] ["rows","written"] (jq8 (top 28)):=⟨rfl,rfl,rfl,by decide+kernel,rfl,by decide+kernel,by decide+kernel⟩
theorem ok_wo (F:Fun K "write_out" "write_out" (top 28) f fd) (T:Txt K mg a) (ro:RO K a.a_Opening) (rw:RW K a.a_FreshWords)
  {fd_sources_of:FuncData} (G_sources_of:FnOk P w K mg base CX0 1 a.a_sources_of fd_sources_of ["rows","written"] S9.spSo) (F_sources_of:Fun K "sources_of" "sources_of" (top 27) a.a_sources_of fd_sources_of) (b_sources_of:Binds K fd_sources_of ["rows","written"] [])
  {fd_piece_of:FuncData} (G_piece_of:FnOk P w K mg base CX0 1 a.a_piece_of fd_piece_of ["rows","written"] spPo) (F_piece_of:Fun K "piece_of" "piece_of" (top 26) a.a_piece_of fd_piece_of) (b_piece_of:Binds K fd_piece_of ["rows","written"] []):FnOk P w K mg base CX0 2 f fd ["rows","written"] spWo:=by
 refine F.ok sc_wo (fun vs H Q E h=>?_) (fun cdv A outer s H vs Q E hr h=>⟨S9.t_wo K,?_,S9.rd_wo h⟩)
 ·obtain ⟨_,_,_,_,_,_,_,rfl,_⟩:=h
  rfl
 have nd:=sc_wo.nd
 have hu:=jxl hr
 have hu0:=hr.units0
 refine wp 0 "rows" (pv 0) fun p0=>?_
 refine wp 1 "written" (pv 1) fun p1=>?_
 refine wk "sources_of" fun k_sources_of=>?_
 refine wk "piece_of" fun k_piece_of=>?_
 exact (jq7 (jqs (jqu (jq0 (jqp G_piece_of (hr.mono (by decide)) k_piece_of T.g_piece_of F_piece_of.kp b_piece_of .nil jx6 (jq0 p0 (jq0 p1 jq4))) (jq0 (jqp G_sources_of (hr.mono (by decide)) k_sources_of T.g_sources_of F_sources_of.kp b_sources_of .nil jx6 (jq0 p0 (jq0 p1 jq4))) jq4)))))
theorem sc_ex:FnScope ["book","piece","fuel","opening","rows","written","earlier","left"] ["book","piece","fuel"] (jq8 (top 29)):=⟨rfl,rfl,rfl,by decide+kernel,rfl,by decide+kernel,by decide+kernel⟩
theorem ok_ex (F:Fun K "expanded" "expanded" (top 29) f fd) (T:Txt K mg a) (ro:RO K a.a_Opening) (rw:RW K a.a_FreshWords)
  {fd_check_stamps:FuncData} (G_check_stamps:FnOk P w K mg base (CXx P w) 4 a.a_check_stamps fd_check_stamps ["book","piece"] (jed a.a_NoStamp)) (F_check_stamps:Fun K "check_stamps" "check_stamps" (top 15) a.a_check_stamps fd_check_stamps) (b_check_stamps:Binds K fd_check_stamps ["book","piece"] [])
  {fd_Opening___init__:FuncData} (G_Opening___init__:FnOk P w K mg base CX0 5 a.a_Opening___init__ fd_Opening___init__ ["self","book","piece","fuel"] (spOi a.a_Opening a.a_FreshWords)) (F_Opening___init__:Fun K "__init__" "Opening.__init__" (jqc (top 25) 0) a.a_Opening___init__ fd_Opening___init__) (b_Opening___init__:Binds K fd_Opening___init__ ["self","book","piece","fuel"] []) (M_Opening:Mk K a.a_Opening a.a_Opening___init__)
  {fd_Opening_rows_of:FuncData} (G_Opening_rows_of:FnOk P w K mg base CX0 9 a.a_Opening_rows_of fd_Opening_rows_of ["self","spot"] (jva a.a_Opening a.a_FreshWords)) (F_Opening_rows_of:Fun K "rows_of" "Opening.rows_of" (jqc (top 25) 1) a.a_Opening_rows_of fd_Opening_rows_of) (b_Opening_rows_of:Binds K fd_Opening_rows_of ["self","spot"] []) (m_Opening_rows_of:Meth K a.a_Opening "rows_of" a.a_Opening_rows_of)
  {fd_write_out:FuncData} (G_write_out:FnOk P w K mg base CX0 2 a.a_write_out fd_write_out ["rows","written"] spWo) (F_write_out:Fun K "write_out" "write_out" (top 28) a.a_write_out fd_write_out) (b_write_out:Binds K fd_write_out ["rows","written"] []):FnOk P w K mg base (CXx P w) 10 f fd ["book","piece","fuel"] (jaf a.a_NoStamp a.a_Opening a.a_FreshWords):=by
 refine F.okx sc_ex (fun vs H Q E h=>?_) (fun cdv A outer s H vs Q E hr h=>⟨S9.t_ex K a.a_NoStamp a.a_Opening a.a_FreshWords E,?_,S9.rd_ex ro h⟩)
 ·obtain ⟨_,_,_,_,_,_,_,_,_,_,rfl,_⟩:=h
  rfl
 have nd:=sc_ex.nd
 have hu:=jxl hr
 have hu0:=hr.units0
 refine wp 0 "book" (pv 0) fun p0=>?_
 refine wp 1 "piece" (pv 1) fun p1=>?_
 refine wp 2 "fuel" (pv 2) fun p2=>?_
 refine wp 3 "opening" (pv 3) fun p3=>?_
 refine wp 4 "rows" (pv 4) fun p4=>?_
 refine wp 5 "written" (pv 5) fun p5=>?_
 refine wp 6 "earlier" (pv 6) fun p6=>?_
 refine wp 7 "left" (pv 7) fun p7=>?_
 refine wg 3 "opening" nd fun l3 g3=>?_
 refine wg 4 "rows" nd fun l4 g4=>?_
 refine wg 5 "written" nd fun l5 g5=>?_
 refine wg 6 "earlier" nd fun l6 g6=>?_
 refine wg 7 "left" nd fun l7 g7=>?_
 refine wk "check_stamps" fun k_check_stamps=>?_
 refine wk "write_out" fun k_write_out=>?_
 refine wk "Opening" fun k_Opening=>?_
 exact (jq5 (jqx (jqp G_check_stamps (hr.mono (by decide)) k_check_stamps T.g_check_stamps F_check_stamps.kp b_check_stamps .nil (jgt fun _ _ _ z=>z) (jq0 p0 (jq0 p1 jq4)))) (jq5 (jqj (i:=3) nd rfl l3 (jey M_Opening G_Opening___init__ (hr.mono (by decide)) k_Opening T.g_Opening b_Opening___init__ .nil jx6 (jq0 p0 (jq0 p1 (jq0 p2 jq4))))) (jq5 (jqj (i:=4) nd rfl l4 (jza p3 T.cl_Opening m_Opening_rows_of G_Opening_rows_of (hr.mono (by decide)) b_Opening_rows_of .nil jx6 (jq0 (jqu (jq0 p1 (jq0 jqf (jq0 (jqu jq4) (jq0 jjy jq4))))) jq4))) (jq5 (jx8 (jqg jkl (jzw p3 rfl) p2 (jqo _)) (jq7 (jqs (jqu (jq0 jqf jq4)))) jqz) (jq5 (jqj (i:=5) nd rfl l5 (jx2 jq4)) (jq5 (jzo PassesOwn.leaving rfl (jzn (jzw p3 rfl)) g6 (jq7 (jqx (jzg PySem.F.plainAttrs_list PySem.F.slot_list_append PySem.F.type_list_append jx1 p5 (jq0 (jqp G_write_out (hr.mono (by decide)) k_write_out T.g_write_out F_write_out.kp b_write_out .nil jx6 (jq0 p6 (jq0 p5 jq4))) jq4))))) (jq5 (jqj (i:=7) nd rfl l7 (jqp G_write_out (hr.mono (by decide)) k_write_out T.g_write_out F_write_out.kp b_write_out .nil jx6 (jq0 p4 (jq0 p5 jq4)))) (jq7 (jqs (jqu (jq0 jqf (jq0 (jqm jqh p7 jq6 (fun _ _=>rfl)) (jq0 (jqm jqh p7 jq6 (fun _ _=>rfl)) (jq0 (jzw p3 rfl) jq4))))))))))))))
theorem sc_bt:FnScope ["_law_book","_law_piece","e","_law_many"] ["_law_book","_law_piece"] (jq8 (top 41)):=⟨rfl,rfl,rfl,by decide+kernel,rfl,by decide+kernel,by decide+kernel⟩
theorem ok_bt (F:Fun K "_law_base_tells" "_law_base_tells" (top 41) f fd) (T:Txt K mg a) (ro:RO K a.a_Opening) (rw:RW K a.a_FreshWords) (XN:PySem.W.XCls K a.a_NoStamp) (CC:S1.ClsOk K a.a_NoStamp a.a_NoName a.a_NoPiece a.a_StampError)
  {fd_expanded:FuncData} (G_expanded:FnOk P w K mg base (CXx P w) 10 a.a_expanded fd_expanded ["book","piece","fuel"] (jaf a.a_NoStamp a.a_Opening a.a_FreshWords)) (F_expanded:Fun K "expanded" "expanded" (top 29) a.a_expanded fd_expanded) (b_expanded:Binds K fd_expanded ["book","piece","fuel"] []):FnOk P w K mg base CX0 11 f fd ["_law_book","_law_piece"] (jv9 a.a_NoStamp):=by
 refine F.ok sc_bt (fun vs H Q E h=>?_) (fun cdv A outer s H vs Q E hr h=>⟨S9.t_bt K a.a_NoStamp a.a_NoName a.a_NoPiece a.a_StampError a.a_Opening a.a_FreshWords,?_,S9.rd_bt CC h⟩)
 ·obtain ⟨_,_,_,_,_,_,_,_,_,rfl,_⟩:=h
  rfl
 have nd:=sc_bt.nd
 have hu:=jxl hr
 have hu0:=hr.units0
 refine wp 0 "_law_book" (pv 0) fun p0=>?_
 refine wp 1 "_law_piece" (pv 1) fun p1=>?_
 refine wk "isinstance" fun k_isinstance=>?_
 refine wk "int" fun k_int=>?_
 refine wk "ValueError" fun k_ValueError=>?_
 refine wk "expanded" fun k_expanded=>?_
 refine wk "StampError" fun k_StampError=>?_
 refine wk "NoName" fun k_NoName=>?_
 refine wk "NoStamp" fun k_NoStamp=>?_
 refine wk "NoPiece" fun k_NoPiece=>?_
 exact (jq5 (jgr (CN:=a.a_NoStamp) ⟨rfl,rfl⟩ (fun _ _ z=>z) (jma G_expanded (hr.mono (by decide)) k_expanded T.g_expanded F_expanded.kp b_expanded (jq0 p0 (jq0 p1 (jq0 jq6 jq4))) (fun _ _ z=>z)) k_StampError T.g_StampError nd (j:=2) rfl rfl (fun ea oe ho=>(jq5 (jqj (i:=3) nd rfl (Or.inl rfl) (jxb jf1 (jz6 jju k_int T.n_int jvz (jq0 (jqe (jv6 XN (.head _) ho) k_isinstance T.n_isinstance jqi (jq0 (pv 2) (jq0 (jjf (v:=.ref a.a_NoName) k_NoName T.g_NoName rfl) jq4))) jq4)) (jz6 jju k_int T.n_int jvz (jq0 (jqe (jv6 XN (.head _) ho) k_isinstance T.n_isinstance jqi (jq0 (pv 2) (jq0 (jjf (v:=.ref a.a_NoStamp) k_NoStamp T.g_NoStamp rfl) jq4))) jq4)))) (jq5 (jqj (i:=3) nd rfl (Or.inl rfl) (jxb jf1 (pv 3) (jz6 jju k_int T.n_int jvz (jq0 (jqe (jv6 XN (.head _) ho) k_isinstance T.n_isinstance jqi (jq0 (pv 2) (jq0 (jjf (v:=.ref a.a_NoPiece) k_NoPiece T.g_NoPiece rfl) jq4))) jq4)))) (jq7 (jqs (jc7 (jqe (jv6 XN (.head _) ho) k_isinstance T.n_isinstance jqi (jq0 (pv 2) (jq0 (jxg (v:=.ty "ValueError") k_ValueError T.n_ValueError ja2 rfl) jq4))) (jc5 (jwq jz7 (pv 3) jq6 (jqo _)))))))))) (jq7 (jqs jzb)))
theorem sc_law:FnScope ["_law_script","_law_book","_law_piece","_law_seed","_law_leaf","_law_bad","_law_odd","_law_spot","_law_word","_law_places","_law_body","_law_found","_law_refused"] ["_law_script"] (jq8 (top 44)):=⟨rfl,rfl,rfl,by decide+kernel,rfl,by decide+kernel,by decide+kernel⟩
theorem jr8 (F:Fun K "law" "law" (top 44) f fd) (T:Txt K mg a) (ro:RO K a.a_Opening) (rw:RW K a.a_FreshWords) (CC:S1.ClsOk K a.a_NoStamp a.a_NoName a.a_NoPiece a.a_StampError)
  {fd__law_drawn_book:FuncData} (G__law_drawn_book:FnOk P w K mg base CX0 3 a.a__law_drawn_book fd__law_drawn_book ["_law_cells","_law_wild"] (jag K)) (F__law_drawn_book:Fun K "_law_drawn_book" "_law_drawn_book" (top 35) a.a__law_drawn_book fd__law_drawn_book) (b__law_drawn_book:Binds K fd__law_drawn_book ["_law_cells","_law_wild"] [])
  {fd__law_drawn_main:FuncData} (G__law_drawn_main:FnOk P w K mg base CX0 3 a.a__law_drawn_main fd__law_drawn_main ["_law_cells"] (jae K)) (F__law_drawn_main:Fun K "_law_drawn_main" "_law_drawn_main" (top 36) a.a__law_drawn_main fd__law_drawn_main) (b__law_drawn_main:Binds K fd__law_drawn_main ["_law_cells"] [])
  {fd__law_at:FuncData} (G__law_at:FnOk P w K mg base CX0 1 a.a__law_at fd__law_at ["_law_script","_law_k"] (jcs K)) (F__law_at:Fun K "_law_at" "_law_at" (top 32) a.a__law_at fd__law_at) (b__law_at:Binds K fd__law_at ["_law_script","_law_k"] [])
  {fd_expanded:FuncData} (G_expanded:FnOk P w K mg base (CXx P w) 10 a.a_expanded fd_expanded ["book","piece","fuel"] (jaf a.a_NoStamp a.a_Opening a.a_FreshWords)) (F_expanded:Fun K "expanded" "expanded" (top 29) a.a_expanded fd_expanded) (b_expanded:Binds K fd_expanded ["book","piece","fuel"] [])
  {fd__law_book_copied:FuncData} (G__law_book_copied:FnOk P w K mg base CX0 1 a.a__law_book_copied fd__law_book_copied ["_law_book"] jkj) (F__law_book_copied:Fun K "_law_book_copied" "_law_book_copied" (top 42) a.a__law_book_copied fd__law_book_copied) (b__law_book_copied:Binds K fd__law_book_copied ["_law_book"] [])
  {fd__law_base_tells:FuncData} (G__law_base_tells:FnOk P w K mg base CX0 11 a.a__law_base_tells fd__law_base_tells ["_law_book","_law_piece"] (jv9 a.a_NoStamp)) (F__law_base_tells:Fun K "_law_base_tells" "_law_base_tells" (top 41) a.a__law_base_tells fd__law_base_tells) (b__law_base_tells:Binds K fd__law_base_tells ["_law_book","_law_piece"] [])
  {fd__law_is_done:FuncData} (G__law_is_done:FnOk P w K mg base CX0 3 a.a__law_is_done fd__law_is_done ["_law_found"] jw6) (F__law_is_done:Fun K "_law_is_done" "_law_is_done" (top 38) a.a__law_is_done fd__law_is_done) (b__law_is_done:Binds K fd__law_is_done ["_law_found"] [])
  {fd__law_so:FuncData} (G__law_so:FnOk P w K mg base CX0 1 a.a__law_so fd__law_so ["_law_found","_law_due"] jw5) (F__law_so:Fun K "_law_so" "_law_so" (top 43) a.a__law_so fd__law_so) (b__law_so:Binds K fd__law_so ["_law_found","_law_due"] []):FnOk P w K mg base CX0 12 f fd ["_law_script"] (S1.spLaw K):=by
 refine F.ok sc_law (fun vs H Q E h=>?_) (fun cdv A outer s H vs Q E hr h=>⟨S9.t_law K a.a_NoStamp a.a_NoName a.a_NoPiece a.a_StampError a.a_Opening a.a_FreshWords,?_,S9.rd_law CC h⟩)
 ·obtain ⟨_,_,rfl,_⟩:=h
  rfl
 have nd:=sc_law.nd
 have hu:=jxl hr
 have hu0:=hr.units0
 refine wp 0 "_law_script" (pv 0) fun p0=>?_
 refine wp 1 "_law_book" (pv 1) fun p1=>?_
 refine wp 2 "_law_piece" (pv 2) fun p2=>?_
 refine wp 3 "_law_seed" (pv 3) fun p3=>?_
 refine wp 4 "_law_leaf" (pv 4) fun p4=>?_
 refine wp 5 "_law_bad" (pv 5) fun p5=>?_
 refine wp 6 "_law_odd" (pv 6) fun p6=>?_
 refine wp 7 "_law_spot" (pv 7) fun p7=>?_
 refine wp 8 "_law_word" (pv 8) fun p8=>?_
 refine wp 9 "_law_places" (pv 9) fun p9=>?_
 refine wp 10 "_law_body" (pv 10) fun p10=>?_
 refine wp 11 "_law_found" (pv 11) fun p11=>?_
 refine wp 12 "_law_refused" (pv 12) fun p12=>?_
 refine wg 1 "_law_book" nd fun l1 g1=>?_
 refine wg 2 "_law_piece" nd fun l2 g2=>?_
 refine wg 3 "_law_seed" nd fun l3 g3=>?_
 refine wg 4 "_law_leaf" nd fun l4 g4=>?_
 refine wg 5 "_law_bad" nd fun l5 g5=>?_
 refine wg 6 "_law_odd" nd fun l6 g6=>?_
 refine wg 7 "_law_spot" nd fun l7 g7=>?_
 refine wg 8 "_law_word" nd fun l8 g8=>?_
 refine wg 9 "_law_places" nd fun l9 g9=>?_
 refine wg 10 "_law_body" nd fun l10 g10=>?_
 refine wg 11 "_law_found" nd fun l11 g11=>?_
 refine wg 12 "_law_refused" nd fun l12 g12=>?_
 refine wk "_law_drawn_book" fun k__law_drawn_book=>?_
 refine wk "_law_drawn_main" fun k__law_drawn_main=>?_
 refine wk "_law_at" fun k__law_at=>?_
 refine wk "expanded" fun k_expanded=>?_
 refine wk "_law_book_copied" fun k__law_book_copied=>?_
 refine wk "_law_base_tells" fun k__law_base_tells=>?_
 refine wk "_law_is_done" fun k__law_is_done=>?_
 refine wk "_law_so" fun k__law_so=>?_
 refine wk "NoStamp" fun k_NoStamp=>?_
 exact (jq5 (jqj (i:=1) nd rfl l1 (jqp G__law_drawn_book (hr.mono (by decide)) k__law_drawn_book T.g__law_drawn_book F__law_drawn_book.kp b__law_drawn_book .nil jx6 (jq0 (jxr jzs p0 (jxq jq6) (jxq jq6)) (jq0 jzb jq4)))) (jq5 (jqj (i:=2) nd rfl l2 (jqp G__law_drawn_main (hr.mono (by decide)) k__law_drawn_main T.g__law_drawn_main F__law_drawn_main.kp b__law_drawn_main .nil jx6 (jq0 (jxr jzs p0 (jxq jq6) (jxq jq6)) jq4))) (jq5 (jqj (i:=3) nd rfl l3 (jqp G__law_at (hr.mono (by decide)) k__law_at T.g__law_at F__law_at.kp b__law_at .nil jx6 (jq0 p0 (jq0 jq6 jq4)))) (jq5 (jqj (i:=4) nd rfl l4 (jqu (jq0 jqf (jq0 jq6 jq4)))) (jq5 (jqj (i:=5) nd rfl l5 (jx2 (jq0 (jqu (jq0 jqf (jq0 jqf jq4))) (jq0 (jqu (jq0 jqf (jq0 jqf (jq0 p4 jq4)))) (jq0 (jqu (jq0 jqf (jq0 jqf (jq0 p4 (jq0 p4 (jq0 p4 jq4)))))) jq4))))) (jq5 (jqj (i:=5) nd rfl l5 (jxb jvl p5 (jx2 (jq0 (jqu (jq0 jqf (jq0 jqf jq4))) (jq0 (jqu (jq0 jqf (jq0 jqf jq4))) (jq0 (jqu (jq0 jqf (jq0 jqf (jq0 p4 jq4)))) jq4)))))) (jq5 (jqj (i:=6) nd rfl l6 (jqm jxf p5 (jxb jz2 (jxb jk8 p3 jq6) jq6) (fun _ _=>rfl))) (jq5 (jqj (i:=7) nd rfl l7 (jxb jz2 (jqp G__law_at (hr.mono (by decide)) k__law_at T.g__law_at F__law_at.kp b__law_at .nil jx6 (jq0 p0 (jq0 jq6 jq4))) jq6)) (jq5 (jx8 (jjs (jqg jkl (jxb jz2 p3 jq6) jq6 (jqo _)) (jzt (jqg jz7 p7 jq6 (jqo _)))).pt (jq7 (jqj (i:=2) nd rfl l2 (jqu (jq0 jqf (jq0 p6 (jq0 p2 jq4)))))) (jq7 (jx8 (jjs (jqg jkl (jxb jz2 p3 jq6) jq6 (jqo _)) (jzt (jqg jz7 p7 jq6 (jqo _)))).pt (jq7 (jqj (i:=2) nd rfl l2 (jqu (jq0 jqf (jq0 jqf (jq0 p6 (jq0 p2 jq4))))))) (jq7 (jx8 (jqg jkl (jxb jz2 p3 jq6) jq6 (jqo _)) (jq5 (jak (jqm jxf p1 p7 (fun _ _=>rfl)) (jal rfl (jz9 g8 (jz9 g9 (jz9 g10 jvk))))) (jq7 (jak (jqu (jq0 p8 (jq0 p9 (jq0 (jqu (jq0 jqf (jq0 p10 (jq0 p6 jq4)))) jq4)))) (ji9 p1 p7 jby)))) jqz))))) (jq5 (jqj (i:=11) nd rfl l11 jex) (jq5 (jqj (i:=12) nd rfl l12 jzb) (jq5 (jps ⟨rfl,rfl⟩ (fun _ _ z=>z) (jpr (i:=11) G_expanded (hr.mono (by decide)) k_expanded T.g_expanded F_expanded.kp b_expanded (jq0 (jqp G__law_book_copied (hr.mono (by decide)) k__law_book_copied T.g__law_book_copied F__law_book_copied.kp b__law_book_copied .nil jx6 (jq0 p1 jq4)) (jq0 p2 (jq0 jq6 jq4))) (fun _ _ z=>z) nd rfl l11) k_NoStamp T.g_NoStamp (fun ea oe=>(jq7 (jqj (i:=12) nd rfl (Or.inl rfl) jzb)))) (jq5 (jx8 (jk0 (jz1 p12) (jjr (jqg jkl (jxb jz2 p3 jq6) jq6 (jqo _)))).pt (jq7 (jqs (jc7 p12 (jc7 (jwq jkl (jxb jz2 p3 jq6) jq6 (jqo _)) (jc5 (jqp G__law_base_tells (hr.mono (by decide)) k__law_base_tells T.g__law_base_tells F__law_base_tells.kp b__law_base_tells .nil jx6 (jq0 p1 (jq0 p2 jq4)))))))) jqz) (jq7 (jqs (pe_or (jqp G__law_so (hr.mono (by decide)) k__law_so T.g__law_so F__law_so.kp b__law_so .nil jx6 (jq0 p11 (jq0 (jqu (jq0 jqf jq4)) jq4))) (jc5 (jqp G__law_is_done (hr.mono (by decide)) k__law_is_done T.g__law_is_done F__law_is_done.kp b__law_is_done .nil jx6 (jq0 p11 jq4)))))))))))))))))))
end
end K9
namespace K9
open PySem L2 SW S9
theorem all_mk {l:PySem.W.OpenLaw} {w:World} {K:PySem.W.Frag} {h:Heap} {mg:Str→Option Value} {fa:Addr} (X:K.In h) (G:h.Ns mainGlobals mg) (hfa:mg "law"=some (.ref fa))
  {f0:Addr} {od0 an0:Option Addr} {sl0:Array (Option Value)} {oc0 kV0 dc0 pm0 cd0 ct0:Value}
  {f1:Addr} {od1 an1:Option Addr} {sl1:Array (Option Value)} {oc1 kV1 dc1 pm1 cd1 ct1:Value}
  {f2:Addr} {od2 an2:Option Addr} {sl2:Array (Option Value)} {oc2 kV2 dc2 pm2 cd2 ct2:Value}
  {f3:Addr} {od3 an3:Option Addr} {sl3:Array (Option Value)} {oc3 kV3 dc3 pm3 cd3 ct3:Value}
  {f4:Addr} {od4 an4:Option Addr} {sl4:Array (Option Value)} {oc4 kV4 dc4 pm4 cd4 ct4:Value}
  {f5:Addr} {od5 an5:Option Addr} {sl5:Array (Option Value)} {oc5 kV5 dc5 pm5 cd5 ct5:Value}
  {f6:Addr} {od6 an6:Option Addr} {sl6:Array (Option Value)} {oc6 kV6 dc6 pm6 cd6 ct6:Value}
  {f7:Addr} {od7 an7:Option Addr} {sl7:Array (Option Value)} {oc7 kV7 dc7 pm7 cd7 ct7:Value}
  {f8:Addr} {od8 an8:Option Addr} {sl8:Array (Option Value)} {oc8 kV8 dc8 pm8 cd8 ct8:Value}
  {f9:Addr} {od9 an9:Option Addr} {sl9:Array (Option Value)} {oc9 kV9 dc9 pm9 cd9 ct9:Value}
  {f10:Addr} {od10 an10:Option Addr} {sl10:Array (Option Value)} {oc10 kV10 dc10 pm10 cd10 ct10:Value}
  {f11:Addr} {od11 an11:Option Addr} {sl11:Array (Option Value)} {oc11 kV11 dc11 pm11 cd11 ct11:Value}
  {f12:Addr} {od12 an12:Option Addr} {sl12:Array (Option Value)} {oc12 kV12 dc12 pm12 cd12 ct12:Value}
  {f13:Addr} {od13 an13:Option Addr} {sl13:Array (Option Value)} {oc13 kV13 dc13 pm13 cd13 ct13:Value}
  {f14:Addr} {od14 an14:Option Addr} {sl14:Array (Option Value)} {oc14 kV14 dc14 pm14 cd14 ct14:Value}
  {f15:Addr} {od15 an15:Option Addr} {sl15:Array (Option Value)} {oc15 kV15 dc15 pm15 cd15 ct15:Value}
  {f16:Addr} {od16 an16:Option Addr} {sl16:Array (Option Value)} {oc16 kV16 dc16 pm16 cd16 ct16:Value}
  {f17:Addr} {od17 an17:Option Addr} {sl17:Array (Option Value)} {oc17 kV17 dc17 pm17 cd17 ct17:Value}
  {f18:Addr} {od18 an18:Option Addr} {sl18:Array (Option Value)} {oc18 kV18 dc18 pm18 cd18 ct18:Value}
  {f19:Addr} {od19 an19:Option Addr} {sl19:Array (Option Value)} {oc19 kV19 dc19 pm19 cd19 ct19:Value}
  {f20:Addr} {od20 an20:Option Addr} {sl20:Array (Option Value)} {oc20 kV20 dc20 pm20 cd20 ct20:Value}
  {f21:Addr} {od21 an21:Option Addr} {sl21:Array (Option Value)} {oc21 kV21 dc21 pm21 cd21 ct21:Value}
  {f22:Addr} {od22 an22:Option Addr} {sl22:Array (Option Value)} {oc22 kV22 dc22 pm22 cd22 ct22:Value}
  {f23:Addr} {od23 an23:Option Addr} {sl23:Array (Option Value)} {oc23 kV23 dc23 pm23 cd23 ct23:Value}
  {f24:Addr} {od24 an24:Option Addr} {sl24:Array (Option Value)} {oc24 kV24 dc24 pm24 cd24 ct24:Value}
  {f25:Addr} {od25 an25:Option Addr} {sl25:Array (Option Value)} {oc25 kV25 dc25 pm25 cd25 ct25:Value}
  {f26:Addr} {od26 an26:Option Addr} {sl26:Array (Option Value)} {oc26 kV26 dc26 pm26 cd26 ct26:Value}
  {f27:Addr} {od27 an27:Option Addr} {sl27:Array (Option Value)} {oc27 kV27 dc27 pm27 cd27 ct27:Value}
  {f28:Addr} {od28 an28:Option Addr} {sl28:Array (Option Value)} {oc28 kV28 dc28 pm28 cd28 ct28:Value}
  {f29:Addr} {od29 an29:Option Addr} {sl29:Array (Option Value)} {oc29 kV29 dc29 pm29 cd29 ct29:Value}
  {f30:Addr} {od30 an30:Option Addr} {sl30:Array (Option Value)} {oc30 kV30 dc30 pm30 cd30 ct30:Value}
  {f31:Addr} {od31 an31:Option Addr} {sl31:Array (Option Value)} {oc31 kV31 dc31 pm31 cd31 ct31:Value}
  {f32:Addr} {od32 an32:Option Addr} {sl32:Array (Option Value)} {oc32 kV32 dc32 pm32 cd32 ct32:Value}
  {f33:Addr} {od33 an33:Option Addr} {sl33:Array (Option Value)} {oc33 kV33 dc33 pm33 cd33 ct33:Value}
  {f34:Addr} {od34 an34:Option Addr} {sl34:Array (Option Value)} {oc34 kV34 dc34 pm34 cd34 ct34:Value}
  {f35:Addr} {od35 an35:Option Addr} {sl35:Array (Option Value)} {oc35 kV35 dc35 pm35 cd35 ct35:Value}
  {f36:Addr} {od36 an36:Option Addr} {sl36:Array (Option Value)} {oc36 kV36 dc36 pm36 cd36 ct36:Value}
  {f37:Addr} {od37 an37:Option Addr} {sl37:Array (Option Value)} {oc37 kV37 dc37 pm37 cd37 ct37:Value}
  {f38:Addr} {od38 an38:Option Addr} {sl38:Array (Option Value)} {oc38 kV38 dc38 pm38 cd38 ct38:Value}
  {f39:Addr} {od39 an39:Option Addr} {sl39:Array (Option Value)} {oc39 kV39 dc39 pm39 cd39 ct39:Value}
  {f40:Addr} {od40 an40:Option Addr} {sl40:Array (Option Value)} {oc40 kV40 dc40 pm40 cd40 ct40:Value}
  {f41:Addr} {od41 an41:Option Addr} {sl41:Array (Option Value)} {oc41 kV41 dc41 pm41 cd41 ct41:Value}
  {C0 C1 y0 y1 y2 y3:Addr} {tk0:Tok}
  (aC0:PySem.W.nsIn K mainGlobals "Opening"=some (some (.ref C0)))
  (aC1:PySem.W.nsIn K mainGlobals "FreshWords"=some (some (.ref C1)))
  (a0:PySem.W.nsIn K mainGlobals "_law_any"=some (some (.ref f0)))
  (l0:K.lookup f0=some ⟨oc0,od0,.func (PySem.W.fnOf "_law_any" "_law_any" (jqq (top 40)) (jqn (top 40)) (jq8 (top 40)) .none kV0 dc0 pm0 an0 cd0 ct0),sl0⟩)
  (c0:PySem.W.codeIn K cd0 "_law_any"=true)
  (k0:PySem.W.keepIn K (.ref f0)=true)
  (a1:PySem.W.nsIn K mainGlobals "_law_any_word"=some (some (.ref f1)))
  (l1:K.lookup f1=some ⟨oc1,od1,.func (PySem.W.fnOf "_law_any_word" "_law_any_word" (jqq (top 39)) (jqn (top 39)) (jq8 (top 39)) .none kV1 dc1 pm1 an1 cd1 ct1),sl1⟩)
  (c1:PySem.W.codeIn K cd1 "_law_any_word"=true)
  (k1:PySem.W.keepIn K (.ref f1)=true)
  (a2:PySem.W.nsIn K mainGlobals "_law_whole"=some (some (.ref f2)))
  (l2:K.lookup f2=some ⟨oc2,od2,.func (PySem.W.fnOf "_law_whole" "_law_whole" (jqq (top 31)) (jqn (top 31)) (jq8 (top 31)) .none kV2 dc2 pm2 an2 cd2 ct2),sl2⟩)
  (c2:PySem.W.codeIn K cd2 "_law_whole"=true)
  (k2:PySem.W.keepIn K (.ref f2)=true)
  (a3:PySem.W.nsIn K mainGlobals "_law_inside"=some (some (.ref f3)))
  (l3:K.lookup f3=some ⟨oc3,od3,.func (PySem.W.fnOf "_law_inside" "_law_inside" (jqq (top 34)) (jqn (top 34)) (jq8 (top 34)) .none kV3 dc3 pm3 an3 cd3 ct3),sl3⟩)
  (c3:PySem.W.codeIn K cd3 "_law_inside"=true)
  (k3:PySem.W.keepIn K (.ref f3)=true)
  (a4:PySem.W.nsIn K mainGlobals "_law_at"=some (some (.ref f4)))
  (l4:K.lookup f4=some ⟨oc4,od4,.func (PySem.W.fnOf "_law_at" "_law_at" (jqq (top 32)) (jqn (top 32)) (jq8 (top 32)) .none kV4 dc4 pm4 an4 cd4 ct4),sl4⟩)
  (c4:PySem.W.codeIn K cd4 "_law_at"=true)
  (k4:PySem.W.keepIn K (.ref f4)=true)
  (a5:PySem.W.nsIn K mainGlobals "_law_drawn_piece"=some (some (.ref f5)))
  (l5:K.lookup f5=some ⟨oc5,od5,.func (PySem.W.fnOf "_law_drawn_piece" "_law_drawn_piece" (jqq (top 33)) (jqn (top 33)) (jq8 (top 33)) .none kV5 dc5 pm5 an5 cd5 ct5),sl5⟩)
  (c5:PySem.W.codeIn K cd5 "_law_drawn_piece"=true)
  (k5:PySem.W.keepIn K (.ref f5)=true)
  (a6:PySem.W.nsIn K mainGlobals "_law_drawn_main"=some (some (.ref f6)))
  (l6:K.lookup f6=some ⟨oc6,od6,.func (PySem.W.fnOf "_law_drawn_main" "_law_drawn_main" (jqq (top 36)) (jqn (top 36)) (jq8 (top 36)) .none kV6 dc6 pm6 an6 cd6 ct6),sl6⟩)
  (c6:PySem.W.codeIn K cd6 "_law_drawn_main"=true)
  (k6:PySem.W.keepIn K (.ref f6)=true)
  (a7:PySem.W.nsIn K mainGlobals "_law_is_piece"=some (some (.ref f7)))
  (l7:K.lookup f7=some ⟨oc7,od7,.func (PySem.W.fnOf "_law_is_piece" "_law_is_piece" (jqq (top 37)) (jqn (top 37)) (jq8 (top 37)) .none kV7 dc7 pm7 an7 cd7 ct7),sl7⟩)
  (c7:PySem.W.codeIn K cd7 "_law_is_piece"=true)
  (k7:PySem.W.keepIn K (.ref f7)=true)
  (a8:PySem.W.nsIn K mainGlobals "_law_drawn_book"=some (some (.ref f8)))
  (l8:K.lookup f8=some ⟨oc8,od8,.func (PySem.W.fnOf "_law_drawn_book" "_law_drawn_book" (jqq (top 35)) (jqn (top 35)) (jq8 (top 35)) .none kV8 dc8 pm8 an8 cd8 ct8),sl8⟩)
  (c8:PySem.W.codeIn K cd8 "_law_drawn_book"=true)
  (k8:PySem.W.keepIn K (.ref f8)=true)
  (a9:PySem.W.nsIn K mainGlobals "_law_is_done"=some (some (.ref f9)))
  (l9:K.lookup f9=some ⟨oc9,od9,.func (PySem.W.fnOf "_law_is_done" "_law_is_done" (jqq (top 38)) (jqn (top 38)) (jq8 (top 38)) .none kV9 dc9 pm9 an9 cd9 ct9),sl9⟩)
  (c9:PySem.W.codeIn K cd9 "_law_is_done"=true)
  (k9:PySem.W.keepIn K (.ref f9)=true)
  (a10:PySem.W.nsIn K mainGlobals "_law_book_copied"=some (some (.ref f10)))
  (l10:K.lookup f10=some ⟨oc10,od10,.func (PySem.W.fnOf "_law_book_copied" "_law_book_copied" (jqq (top 42)) (jqn (top 42)) (jq8 (top 42)) .none kV10 dc10 pm10 an10 cd10 ct10),sl10⟩)
  (c10:PySem.W.codeIn K cd10 "_law_book_copied"=true)
  (k10:PySem.W.keepIn K (.ref f10)=true)
  (a11:PySem.W.nsIn K mainGlobals "_law_so"=some (some (.ref f11)))
  (l11:K.lookup f11=some ⟨oc11,od11,.func (PySem.W.fnOf "_law_so" "_law_so" (jqq (top 43)) (jqn (top 43)) (jq8 (top 43)) .none kV11 dc11 pm11 an11 cd11 ct11),sl11⟩)
  (c11:PySem.W.codeIn K cd11 "_law_so"=true)
  (k11:PySem.W.keepIn K (.ref f11)=true)
  (a12:PySem.W.nsIn K mainGlobals "parts"=some (some (.ref f12)))
  (l12:K.lookup f12=some ⟨oc12,od12,.func (PySem.W.fnOf "parts" "parts" (jqq (top 6)) (jqn (top 6)) (jq8 (top 6)) .none kV12 dc12 pm12 an12 cd12 ct12),sl12⟩)
  (c12:PySem.W.codeIn K cd12 "parts"=true)
  (k12:PySem.W.keepIn K (.ref f12)=true)
  (a13:PySem.W.nsIn K mainGlobals "every_piece"=some (some (.ref f13)))
  (l13:K.lookup f13=some ⟨oc13,od13,.func (PySem.W.fnOf "every_piece" "every_piece" (jqq (top 7)) (jqn (top 7)) (jq8 (top 7)) .none kV13 dc13 pm13 an13 cd13 ct13),sl13⟩)
  (c13:PySem.W.codeIn K cd13 "every_piece"=true)
  (k13:PySem.W.keepIn K (.ref f13)=true)
  (a14:PySem.W.nsIn K mainGlobals "with_word"=some (some (.ref f14)))
  (l14:K.lookup f14=some ⟨oc14,od14,.func (PySem.W.fnOf "with_word" "with_word" (jqq (top 8)) (jqn (top 8)) (jq8 (top 8)) .none kV14 dc14 pm14 an14 cd14 ct14),sl14⟩)
  (c14:PySem.W.codeIn K cd14 "with_word"=true)
  (k14:PySem.W.keepIn K (.ref f14)=true)
  (a15:PySem.W.nsIn K mainGlobals "pieces_with_lets"=some (some (.ref f15)))
  (l15:K.lookup f15=some ⟨oc15,od15,.func (PySem.W.fnOf "pieces_with_lets" "pieces_with_lets" (jqq (top 9)) (jqn (top 9)) (jq8 (top 9)) .none kV15 dc15 pm15 an15 cd15 ct15),sl15⟩)
  (c15:PySem.W.codeIn K cd15 "pieces_with_lets"=true)
  (k15:PySem.W.keepIn K (.ref f15)=true)
  (a16:PySem.W.nsIn K mainGlobals "outside_names"=some (some (.ref f16)))
  (l16:K.lookup f16=some ⟨oc16,od16,.func (PySem.W.fnOf "outside_names" "outside_names" (jqq (top 10)) (jqn (top 10)) (jq8 (top 10)) .none kV16 dc16 pm16 an16 cd16 ct16),sl16⟩)
  (c16:PySem.W.codeIn K cd16 "outside_names"=true)
  (k16:PySem.W.keepIn K (.ref f16)=true)
  (a17:PySem.W.nsIn K mainGlobals "stamps_by_word"=some (some (.ref f17)))
  (l17:K.lookup f17=some ⟨oc17,od17,.func (PySem.W.fnOf "stamps_by_word" "stamps_by_word" (jqq (top 12)) (jqn (top 12)) (jq8 (top 12)) .none kV17 dc17 pm17 an17 cd17 ct17),sl17⟩)
  (c17:PySem.W.codeIn K cd17 "stamps_by_word"=true)
  (k17:PySem.W.keepIn K (.ref f17)=true)
  (a18:PySem.W.nsIn K mainGlobals "check_use"=some (some (.ref f18)))
  (l18:K.lookup f18=some ⟨oc18,od18,.func (PySem.W.fnOf "check_use" "check_use" (jqq (top 13)) (jqn (top 13)) (jq8 (top 13)) .none kV18 dc18 pm18 an18 cd18 ct18),sl18⟩)
  (c18:PySem.W.codeIn K cd18 "check_use"=true)
  (k18:PySem.W.keepIn K (.ref f18)=true)
  (a19:PySem.W.nsIn K mainGlobals "check_piece"=some (some (.ref f19)))
  (l19:K.lookup f19=some ⟨oc19,od19,.func (PySem.W.fnOf "check_piece" "check_piece" (jqq (top 14)) (jqn (top 14)) (jq8 (top 14)) .none kV19 dc19 pm19 an19 cd19 ct19),sl19⟩)
  (c19:PySem.W.codeIn K cd19 "check_piece"=true)
  (k19:PySem.W.keepIn K (.ref f19)=true)
  (a20:PySem.W.nsIn K mainGlobals "check_stamps"=some (some (.ref f20)))
  (l20:K.lookup f20=some ⟨oc20,od20,.func (PySem.W.fnOf "check_stamps" "check_stamps" (jqq (top 15)) (jqn (top 15)) (jq8 (top 15)) .none kV20 dc20 pm20 an20 cd20 ct20),sl20⟩)
  (c20:PySem.W.codeIn K cd20 "check_stamps"=true)
  (k20:PySem.W.keepIn K (.ref f20)=true)
  (a21:PySem.W.nsIn K mainGlobals "numbered_word"=some (some (.ref f21)))
  (l21:K.lookup f21=some ⟨oc21,od21,.func (PySem.W.fnOf "numbered_word" "numbered_word" (jqq (top 18)) (jqn (top 18)) (jq8 (top 18)) .none kV21 dc21 pm21 an21 cd21 ct21),sl21⟩)
  (c21:PySem.W.codeIn K cd21 "numbered_word"=true)
  (k21:PySem.W.keepIn K (.ref f21)=true)
  (a22:PySem.W.findIn K (.ref C1) "__init__"=some (some (.ref f22)))
  (i22:PySem.W.isFn K (.ref f22)=true)
  (l22:K.lookup f22=some ⟨oc22,od22,.func (PySem.W.fnOf "__init__" "FreshWords.__init__" (jqq (jqc (top 19) 0)) (jqn (jqc (top 19) 0)) (jq8 (jqc (top 19) 0)) .none kV22 dc22 pm22 an22 cd22 ct22),sl22⟩)
  (c22:PySem.W.codeIn K cd22 "FreshWords.__init__"=true)
  (k22:PySem.W.keepIn K (.ref f22)=true)
  (a23:PySem.W.findIn K (.ref C1) "fresh"=some (some (.ref f23)))
  (i23:PySem.W.isFn K (.ref f23)=true)
  (l23:K.lookup f23=some ⟨oc23,od23,.func (PySem.W.fnOf "fresh" "FreshWords.fresh" (jqq (jqc (top 19) 1)) (jqn (jqc (top 19) 1)) (jq8 (jqc (top 19) 1)) .none kV23 dc23 pm23 an23 cd23 ct23),sl23⟩)
  (c23:PySem.W.codeIn K cd23 "FreshWords.fresh"=true)
  (k23:PySem.W.keepIn K (.ref f23)=true)
  (a24:PySem.W.nsIn K mainGlobals "all_outside_names"=some (some (.ref f24)))
  (l24:K.lookup f24=some ⟨oc24,od24,.func (PySem.W.fnOf "all_outside_names" "all_outside_names" (jqq (top 21)) (jqn (top 21)) (jq8 (top 21)) .none kV24 dc24 pm24 an24 cd24 ct24),sl24⟩)
  (c24:PySem.W.codeIn K cd24 "all_outside_names"=true)
  (k24:PySem.W.keepIn K (.ref f24)=true)
  (a25:PySem.W.nsIn K mainGlobals "spots_within"=some (some (.ref f25)))
  (l25:K.lookup f25=some ⟨oc25,od25,.func (PySem.W.fnOf "spots_within" "spots_within" (jqq (top 22)) (jqn (top 22)) (jq8 (top 22)) .none kV25 dc25 pm25 an25 cd25 ct25),sl25⟩)
  (c25:PySem.W.codeIn K cd25 "spots_within"=true)
  (k25:PySem.W.keepIn K (.ref f25)=true)
  (a26:PySem.W.nsIn K mainGlobals "has_stamps_to_open"=some (some (.ref f26)))
  (l26:K.lookup f26=some ⟨oc26,od26,.func (PySem.W.fnOf "has_stamps_to_open" "has_stamps_to_open" (jqq (top 23)) (jqn (top 23)) (jq8 (top 23)) .none kV26 dc26 pm26 an26 cd26 ct26),sl26⟩)
  (c26:PySem.W.codeIn K cd26 "has_stamps_to_open"=true)
  (k26:PySem.W.keepIn K (.ref f26)=true)
  (a27:PySem.W.nsIn K mainGlobals "row_at"=some (some (.ref f27)))
  (l27:K.lookup f27=some ⟨oc27,od27,.func (PySem.W.fnOf "row_at" "row_at" (jqq (top 24)) (jqn (top 24)) (jq8 (top 24)) .none kV27 dc27 pm27 an27 cd27 ct27),sl27⟩)
  (c27:PySem.W.codeIn K cd27 "row_at"=true)
  (k27:PySem.W.keepIn K (.ref f27)=true)
  (a28:PySem.W.findIn K (.ref C0) "__init__"=some (some (.ref f28)))
  (i28:PySem.W.isFn K (.ref f28)=true)
  (l28:K.lookup f28=some ⟨oc28,od28,.func (PySem.W.fnOf "__init__" "Opening.__init__" (jqq (jqc (top 25) 0)) (jqn (jqc (top 25) 0)) (jq8 (jqc (top 25) 0)) .none kV28 dc28 pm28 an28 cd28 ct28),sl28⟩)
  (c28:PySem.W.codeIn K cd28 "Opening.__init__"=true)
  (k28:PySem.W.keepIn K (.ref f28)=true)
  (a29:PySem.W.findIn K (.ref C0) "take_name"=some (some (.ref f29)))
  (i29:PySem.W.isFn K (.ref f29)=true)
  (l29:K.lookup f29=some ⟨oc29,od29,.func (PySem.W.fnOf "take_name" "Opening.take_name" (jqq (jqc (top 25) 5)) (jqn (jqc (top 25) 5)) (jq8 (jqc (top 25) 5)) .none kV29 dc29 pm29 an29 cd29 ct29),sl29⟩)
  (c29:PySem.W.codeIn K cd29 "Opening.take_name"=true)
  (k29:PySem.W.keepIn K (.ref f29)=true)
  (a30:PySem.W.findIn K (.ref C0) "take_plain"=some (some (.ref f30)))
  (i30:PySem.W.isFn K (.ref f30)=true)
  (l30:K.lookup f30=some ⟨oc30,od30,.func (PySem.W.fnOf "take_plain" "Opening.take_plain" (jqq (jqc (top 25) 7)) (jqn (jqc (top 25) 7)) (jq8 (jqc (top 25) 7)) .none kV30 dc30 pm30 an30 cd30 ct30),sl30⟩)
  (c30:PySem.W.codeIn K cd30 "Opening.take_plain"=true)
  (k30:PySem.W.keepIn K (.ref f30)=true)
  (a31:PySem.W.findIn K (.ref C0) "take_let"=some (some (.ref f31)))
  (i31:PySem.W.isFn K (.ref f31)=true)
  (l31:K.lookup f31=some ⟨oc31,od31,.func (PySem.W.fnOf "take_let" "Opening.take_let" (jqq (jqc (top 25) 6)) (jqn (jqc (top 25) 6)) (jq8 (jqc (top 25) 6)) .none kV31 dc31 pm31 an31 cd31 ct31),sl31⟩)
  (c31:PySem.W.codeIn K cd31 "Opening.take_let"=true)
  (k31:PySem.W.keepIn K (.ref f31)=true)
  (a32:PySem.W.findIn K (.ref C0) "body_of"=some (some (.ref f32)))
  (i32:PySem.W.isFn K (.ref f32)=true)
  (l32:K.lookup f32=some ⟨oc32,od32,.func (PySem.W.fnOf "body_of" "Opening.body_of" (jqq (jqc (top 25) 3)) (jqn (jqc (top 25) 3)) (jq8 (jqc (top 25) 3)) .none kV32 dc32 pm32 an32 cd32 ct32),sl32⟩)
  (c32:PySem.W.codeIn K cd32 "Opening.body_of"=true)
  (k32:PySem.W.keepIn K (.ref f32)=true)
  (a33:PySem.W.findIn K (.ref C0) "take"=some (some (.ref f33)))
  (i33:PySem.W.isFn K (.ref f33)=true)
  (l33:K.lookup f33=some ⟨oc33,od33,.func (PySem.W.fnOf "take" "Opening.take" (jqq (jqc (top 25) 2)) (jqn (jqc (top 25) 2)) (jq8 (jqc (top 25) 2)) .none kV33 dc33 pm33 an33 cd33 ct33),sl33⟩)
  (c33:PySem.W.codeIn K cd33 "Opening.take"=true)
  (k33:PySem.W.keepIn K (.ref f33)=true)
  (a34:PySem.W.findIn K (.ref C0) "rows_of"=some (some (.ref f34)))
  (i34:PySem.W.isFn K (.ref f34)=true)
  (l34:K.lookup f34=some ⟨oc34,od34,.func (PySem.W.fnOf "rows_of" "Opening.rows_of" (jqq (jqc (top 25) 1)) (jqn (jqc (top 25) 1)) (jq8 (jqc (top 25) 1)) .none kV34 dc34 pm34 an34 cd34 ct34),sl34⟩)
  (c34:PySem.W.codeIn K cd34 "Opening.rows_of"=true)
  (k34:PySem.W.keepIn K (.ref f34)=true)
  (a35:PySem.W.findIn K (.ref C0) "meaning_of"=some (some (.ref f35)))
  (i35:PySem.W.isFn K (.ref f35)=true)
  (l35:K.lookup f35=some ⟨oc35,od35,.func (PySem.W.fnOf "meaning_of" "Opening.meaning_of" (jqq (jqc (top 25) 4)) (jqn (jqc (top 25) 4)) (jq8 (jqc (top 25) 4)) .none kV35 dc35 pm35 an35 cd35 ct35),sl35⟩)
  (c35:PySem.W.codeIn K cd35 "Opening.meaning_of"=true)
  (k35:PySem.W.keepIn K (.ref f35)=true)
  (a36:PySem.W.nsIn K mainGlobals "piece_of"=some (some (.ref f36)))
  (l36:K.lookup f36=some ⟨oc36,od36,.func (PySem.W.fnOf "piece_of" "piece_of" (jqq (top 26)) (jqn (top 26)) (jq8 (top 26)) .none kV36 dc36 pm36 an36 cd36 ct36),sl36⟩)
  (c36:PySem.W.codeIn K cd36 "piece_of"=true)
  (k36:PySem.W.keepIn K (.ref f36)=true)
  (a37:PySem.W.nsIn K mainGlobals "sources_of"=some (some (.ref f37)))
  (l37:K.lookup f37=some ⟨oc37,od37,.func (PySem.W.fnOf "sources_of" "sources_of" (jqq (top 27)) (jqn (top 27)) (jq8 (top 27)) .none kV37 dc37 pm37 an37 cd37 ct37),sl37⟩)
  (c37:PySem.W.codeIn K cd37 "sources_of"=true)
  (k37:PySem.W.keepIn K (.ref f37)=true)
  (a38:PySem.W.nsIn K mainGlobals "write_out"=some (some (.ref f38)))
  (l38:K.lookup f38=some ⟨oc38,od38,.func (PySem.W.fnOf "write_out" "write_out" (jqq (top 28)) (jqn (top 28)) (jq8 (top 28)) .none kV38 dc38 pm38 an38 cd38 ct38),sl38⟩)
  (c38:PySem.W.codeIn K cd38 "write_out"=true)
  (k38:PySem.W.keepIn K (.ref f38)=true)
  (a39:PySem.W.nsIn K mainGlobals "expanded"=some (some (.ref f39)))
  (l39:K.lookup f39=some ⟨oc39,od39,.func (PySem.W.fnOf "expanded" "expanded" (jqq (top 29)) (jqn (top 29)) (jq8 (top 29)) .none kV39 dc39 pm39 an39 cd39 ct39),sl39⟩)
  (c39:PySem.W.codeIn K cd39 "expanded"=true)
  (k39:PySem.W.keepIn K (.ref f39)=true)
  (a40:PySem.W.nsIn K mainGlobals "_law_base_tells"=some (some (.ref f40)))
  (l40:K.lookup f40=some ⟨oc40,od40,.func (PySem.W.fnOf "_law_base_tells" "_law_base_tells" (jqq (top 41)) (jqn (top 41)) (jq8 (top 41)) .none kV40 dc40 pm40 an40 cd40 ct40),sl40⟩)
  (c40:PySem.W.codeIn K cd40 "_law_base_tells"=true)
  (k40:PySem.W.keepIn K (.ref f40)=true)
  (a41:PySem.W.nsIn K mainGlobals "law"=some (some (.ref f41)))
  (l41:K.lookup f41=some ⟨oc41,od41,.func (PySem.W.fnOf "law" "law" (jqq (top 44)) (jqn (top 44)) (jq8 (top 44)) .none kV41 dc41 pm41 an41 cd41 ct41),sl41⟩)
  (c41:PySem.W.codeIn K cd41 "law"=true)
  (k41:PySem.W.keepIn K (.ref f41)=true)
  (z0:PySem.W.nsIn K mainGlobals "abs"=some none)
  (z1:PySem.W.nsIn K mainGlobals "bool"=some none)
  (z2:PySem.W.nsIn K mainGlobals "isinstance"=some none)
  (z3:PySem.W.nsIn K mainGlobals "int"=some none)
  (z4:PySem.W.nsIn K mainGlobals "list"=some none)
  (z5:PySem.W.nsIn K mainGlobals "len"=some none)
  (z6:PySem.W.nsIn K mainGlobals "min"=some none)
  (z7:PySem.W.nsIn K mainGlobals "tuple"=some none)
  (z8:PySem.W.nsIn K mainGlobals "str"=some none)
  (z9:PySem.W.nsIn K mainGlobals "range"=some none)
  (z10:PySem.W.nsIn K mainGlobals "dict"=some none)
  (z11:PySem.W.nsIn K mainGlobals "sorted"=some none)
  (z12:PySem.W.nsIn K mainGlobals "enumerate"=some none)
  (z13:PySem.W.nsIn K mainGlobals "reversed"=some none)
  (z14:PySem.W.nsIn K mainGlobals "zip"=some none)
  (z15:PySem.W.nsIn K mainGlobals "ValueError"=some none)
  (u0:PySem.W.nsIn K mainGlobals "LETTERS"=some (some (.str "abcdefghijklmnopqrstuvwxyz" tk0)))
  (s0:PySem.W.nsIn K mainGlobals "StampError"=some (some (.ref y0)))
  (s1:PySem.W.nsIn K mainGlobals "NoName"=some (some (.ref y1)))
  (s2:PySem.W.nsIn K mainGlobals "NoStamp"=some (some (.ref y2)))
  (s3:PySem.W.nsIn K mainGlobals "NoPiece"=some (some (.ref y3)))
  (pg0:PySem.W.plainGet K C0 Str.empty=true)
  (hd0:PySem.W.hasDictIn K C0=true)
  (po0:PySem.W.plainOver K C0=true)
  (sa0:PySem.W.findIn K (.ref C0) "__setattr__"=some (some (.builtin "object.__setattr__")))
  (mk0:PySem.W.makesIn K C0=true)
  (kc0:PySem.W.keepIn K (.ref C0)=true)
  (n0_stamps:PySem.W.findIn K (.ref C0) "stamps"=some none)
  (n0_lets:PySem.W.findIn K (.ref C0) "lets"=some none)
  (n0_fuel:PySem.W.findIn K (.ref C0) "fuel"=some none)
  (n0_many:PySem.W.findIn K (.ref C0) "many"=some none)
  (n0_ready:PySem.W.findIn K (.ref C0) "ready"=some none)
  (pg1:PySem.W.plainGet K C1 Str.empty=true)
  (hd1:PySem.W.hasDictIn K C1=true)
  (po1:PySem.W.plainOver K C1=true)
  (sa1:PySem.W.findIn K (.ref C1) "__setattr__"=some (some (.builtin "object.__setattr__")))
  (mk1:PySem.W.makesIn K C1=true)
  (kc1:PySem.W.keepIn K (.ref C1)=true)
  (n1_taken:PySem.W.findIn K (.ref C1) "taken"=some none)
  (n1_tried:PySem.W.findIn K (.ref C1) "tried"=some none)
  (xx:PySem.W.excIn K y2 [.type "ValueError",.type "Exception",.type "BaseException",.type "object"] "ValueError.__new__"=true)
  (x1:PySem.W.mroIn K y2 (.type "object")=some true)
  (x2:PySem.W.mroIn K y2 (.type "BaseException")=some true)
  (x3:PySem.W.findIn K (.ref y2) "__class__"=some (some (.builtin "object.__class__")))
  (x4:PySem.W.findIn K (.ref y2) "__getattribute__"=some (some (.builtin "BaseException.__getattribute__")))
  (x5:PySem.W.findIn K (.ref y2) "__getattr__"=some none)
  (e1:PySem.W.exmOne K (.ref y2) (.ref y2)=some true)
  (e2:PySem.W.exmOne K (.ref y2) (.ref y0)=some true)
  (t1:PySem.W.kitOne K (.ref y2) (.ref y2)=some true)
  (t2:PySem.W.kitOne K (.ref y2) (.ref y1)=some false)
  (t3:PySem.W.kitOne K (.ref y2) (.ref y3)=some false)
  (t4:PySem.W.kitOne K (.ref y2) (.type "ValueError")=some true) :
  ∃ fd:FuncData,(∀ (s:Shared) (v:Value),BindsTo s fd ⟨[v],[]⟩ [("_law_script",v)])∧∀ base:Heap,K.In base→base.Ns mainGlobals mg→FnOk l.prog w K mg base CX0 12 fa fd ["_law_script"] (S1.spLaw K):=by
 have e:=hfa.symm.trans (PySem.W.mg_of X G a41)
 cases e
 have T:Txt K mg ⟨f0,f1,f2,f3,f4,f5,f6,f7,f8,f9,f10,f11,f12,f13,f14,f15,f16,f17,f18,f19,f20,f21,f22,f23,f24,f25,f26,f27,f28,f29,f30,f31,f32,f33,f34,f35,f36,f37,f38,f39,f40,C0,C1,y0,y1,y2,y3⟩:=⟨PySem.W.mg_none_of X G z0,PySem.W.mg_none_of X G z1,PySem.W.mg_none_of X G z2,PySem.W.mg_none_of X G z3,PySem.W.mg_none_of X G z4,PySem.W.mg_none_of X G z5,PySem.W.mg_none_of X G z6,PySem.W.mg_none_of X G z7,PySem.W.mg_none_of X G z8,PySem.W.mg_none_of X G z9,PySem.W.mg_none_of X G z10,PySem.W.mg_none_of X G z11,PySem.W.mg_none_of X G z12,PySem.W.mg_none_of X G z13,PySem.W.mg_none_of X G z14,PySem.W.mg_none_of X G z15,PySem.W.mg_of X G a0,PySem.W.mg_of X G a1,PySem.W.mg_of X G a2,PySem.W.mg_of X G a3,PySem.W.mg_of X G a4,PySem.W.mg_of X G a5,PySem.W.mg_of X G a6,PySem.W.mg_of X G a7,PySem.W.mg_of X G a8,PySem.W.mg_of X G a9,PySem.W.mg_of X G a10,PySem.W.mg_of X G a11,PySem.W.mg_of X G a12,PySem.W.mg_of X G a13,PySem.W.mg_of X G a14,PySem.W.mg_of X G a15,PySem.W.mg_of X G a16,PySem.W.mg_of X G a17,PySem.W.mg_of X G a18,PySem.W.mg_of X G a19,PySem.W.mg_of X G a20,PySem.W.mg_of X G a21,PySem.W.mg_of X G a24,PySem.W.mg_of X G a25,PySem.W.mg_of X G a26,PySem.W.mg_of X G a27,PySem.W.mg_of X G a36,PySem.W.mg_of X G a37,PySem.W.mg_of X G a38,PySem.W.mg_of X G a39,PySem.W.mg_of X G a40,PySem.W.mg_of X G s0,PySem.W.mg_of X G s1,PySem.W.mg_of X G s2,PySem.W.mg_of X G s3,⟨_,PySem.W.mg_of X G u0⟩,PySem.W.mg_of X G aC0,⟨pg0,hd0,po0,sa0⟩,PySem.W.mg_of X G aC1,⟨pg1,hd1,po1,sa1⟩⟩
 have ro:RO K C0:=⟨⟨pg0,hd0,po0,sa0⟩,n0_stamps,n0_lets,n0_fuel,n0_many,n0_ready⟩
 have rw:RW K C1:=⟨⟨pg1,hd1,po1,sa1⟩,n1_taken,n1_tried⟩
 have XN:PySem.W.XCls K y2:=⟨x1,x2,x3,x4,x5⟩
 have CC:S1.ClsOk K y2 y1 y3 y0:=⟨e1,e2,t1,t2,t3,t4⟩
 have F0:=jx4 (st:=top 40) l0 c0 k0
 have b0:=F0.binds (ps:=["_law_cell"]) fun _ _ _ _ _ _ us hl=>match us,hl with|[_],_=>rfl
 have F1:=jx4 (st:=top 39) l1 c1 k1
 have b1:=F1.binds (ps:=["_law_cell"]) fun _ _ _ _ _ _ us hl=>match us,hl with|[_],_=>rfl
 have F2:=jx4 (st:=top 31) l2 c2 k2
 have b2:=F2.binds (ps:=["_law_found"]) fun _ _ _ _ _ _ us hl=>match us,hl with|[_],_=>rfl
 have F3:=jx4 (st:=top 34) l3 c3 k3
 have b3:=F3.binds (ps:=["_law_piece"]) fun _ _ _ _ _ _ us hl=>match us,hl with|[_],_=>rfl
 have F4:=jx4 (st:=top 32) l4 c4 k4
 have b4:=F4.binds (ps:=["_law_script","_law_k"]) fun _ _ _ _ _ _ us hl=>match us,hl with|[_,_],_=>rfl
 have F5:=jx4 (st:=top 33) l5 c5 k5
 have b5:=F5.binds (ps:=["_law_cells","_law_stamps"]) fun _ _ _ _ _ _ us hl=>match us,hl with|[_,_],_=>rfl
 have F6:=jx4 (st:=top 36) l6 c6 k6
 have b6:=F6.binds (ps:=["_law_cells"]) fun _ _ _ _ _ _ us hl=>match us,hl with|[_],_=>rfl
 have F7:=jx4 (st:=top 37) l7 c7 k7
 have b7:=F7.binds (ps:=["_law_found"]) fun _ _ _ _ _ _ us hl=>match us,hl with|[_],_=>rfl
 have F8:=jx4 (st:=top 35) l8 c8 k8
 have b8:=F8.binds (ps:=["_law_cells","_law_wild"]) fun _ _ _ _ _ _ us hl=>match us,hl with|[_,_],_=>rfl
 have F9:=jx4 (st:=top 38) l9 c9 k9
 have b9:=F9.binds (ps:=["_law_found"]) fun _ _ _ _ _ _ us hl=>match us,hl with|[_],_=>rfl
 have F10:=jx4 (st:=top 42) l10 c10 k10
 have b10:=F10.binds (ps:=["_law_book"]) fun _ _ _ _ _ _ us hl=>match us,hl with|[_],_=>rfl
 have F11:=jx4 (st:=top 43) l11 c11 k11
 have b11:=F11.binds (ps:=["_law_found","_law_due"]) fun _ _ _ _ _ _ us hl=>match us,hl with|[_,_],_=>rfl
 have F12:=jx4 (st:=top 6) l12 c12 k12
 have b12:=F12.binds (ps:=["piece"]) fun _ _ _ _ _ _ us hl=>match us,hl with|[_],_=>rfl
 have F13:=jx4 (st:=top 7) l13 c13 k13
 have b13:=F13.binds (ps:=["piece"]) fun _ _ _ _ _ _ us hl=>match us,hl with|[_],_=>rfl
 have F14:=jx4 (st:=top 8) l14 c14 k14
 have b14:=F14.binds (ps:=["words","word","value"]) fun _ _ _ _ _ _ us hl=>match us,hl with|[_,_,_],_=>rfl
 have F15:=jx4 (st:=top 9) l15 c15 k15
 have b15:=F15.binds (ps:=["piece","lets"]) fun _ _ _ _ _ _ us hl=>match us,hl with|[_,_],_=>rfl
 have F16:=jx4 (st:=top 10) l16 c16 k16
 have b16:=F16.binds (ps:=["piece"]) fun _ _ _ _ _ _ us hl=>match us,hl with|[_],_=>rfl
 have F17:=jx4 (st:=top 12) l17 c17 k17
 have b17:=F17.binds (ps:=["book"]) fun _ _ _ _ _ _ us hl=>match us,hl with|[_],_=>rfl
 have F18:=jx4 (st:=top 13) l18 c18 k18
 have b18:=F18.binds (ps:=["stamps","use"]) fun _ _ _ _ _ _ us hl=>match us,hl with|[_,_],_=>rfl
 have F19:=jx4 (st:=top 14) l19 c19 k19
 have b19:=F19.binds (ps:=["stamps","piece"]) fun _ _ _ _ _ _ us hl=>match us,hl with|[_,_],_=>rfl
 have F20:=jx4 (st:=top 15) l20 c20 k20
 have b20:=F20.binds (ps:=["book","piece"]) fun _ _ _ _ _ _ us hl=>match us,hl with|[_,_],_=>rfl
 have F21:=jx4 (st:=top 18) l21 c21 k21
 have b21:=F21.binds (ps:=["number"]) fun _ _ _ _ _ _ us hl=>match us,hl with|[_],_=>rfl
 have F22:=jx4 (st:=jqc (top 19) 0) l22 c22 k22
 have b22:=F22.binds (ps:=["self","taken"]) fun _ _ _ _ _ _ us hl=>match us,hl with|[_,_],_=>rfl
 have F23:=jx4 (st:=jqc (top 19) 1) l23 c23 k23
 have b23:=F23.binds (ps:=["self","word"]) fun _ _ _ _ _ _ us hl=>match us,hl with|[_,_],_=>rfl
 have F24:=jx4 (st:=top 21) l24 c24 k24
 have b24:=F24.binds (ps:=["book","piece"]) fun _ _ _ _ _ _ us hl=>match us,hl with|[_,_],_=>rfl
 have F25:=jx4 (st:=top 22) l25 c25 k25
 have b25:=F25.binds (ps:=["spot"]) fun _ _ _ _ _ _ us hl=>match us,hl with|[_],_=>rfl
 have F26:=jx4 (st:=top 23) l26 c26 k26
 have b26:=F26.binds (ps:=["spot"]) fun _ _ _ _ _ _ us hl=>match us,hl with|[_],_=>rfl
 have F27:=jx4 (st:=top 24) l27 c27 k27
 have b27:=F27.binds (ps:=["spot","head","many"]) fun _ _ _ _ _ _ us hl=>match us,hl with|[_,_,_],_=>rfl
 have F28:=jx4 (st:=jqc (top 25) 0) l28 c28 k28
 have b28:=F28.binds (ps:=["self","book","piece","fuel"]) fun _ _ _ _ _ _ us hl=>match us,hl with|[_,_,_,_],_=>rfl
 have F29:=jx4 (st:=jqc (top 25) 5) l29 c29 k29
 have b29:=F29.binds (ps:=["self","spot","waiting","rows"]) fun _ _ _ _ _ _ us hl=>match us,hl with|[_,_,_,_],_=>rfl
 have F30:=jx4 (st:=jqc (top 25) 7) l30 c30 k30
 have b30:=F30.binds (ps:=["self","spot","waiting","rows"]) fun _ _ _ _ _ _ us hl=>match us,hl with|[_,_,_,_],_=>rfl
 have F31:=jx4 (st:=jqc (top 25) 6) l31 c31 k31
 have b31:=F31.binds (ps:=["self","spot","waiting","rows"]) fun _ _ _ _ _ _ us hl=>match us,hl with|[_,_,_,_],_=>rfl
 have F32:=jx4 (st:=jqc (top 25) 3) l32 c32 k32
 have b32:=F32.binds (ps:=["self","spot"]) fun _ _ _ _ _ _ us hl=>match us,hl with|[_,_],_=>rfl
 have F33:=jx4 (st:=jqc (top 25) 2) l33 c33 k33
 have b33:=F33.binds (ps:=["self","spot","waiting","rows"]) fun _ _ _ _ _ _ us hl=>match us,hl with|[_,_,_,_],_=>rfl
 have F34:=jx4 (st:=jqc (top 25) 1) l34 c34 k34
 have b34:=F34.binds (ps:=["self","spot"]) fun _ _ _ _ _ _ us hl=>match us,hl with|[_,_],_=>rfl
 have F35:=jx4 (st:=jqc (top 25) 4) l35 c35 k35
 have b35:=F35.binds (ps:=["self","handed"]) fun _ _ _ _ _ _ us hl=>match us,hl with|[_,_],_=>rfl
 have F36:=jx4 (st:=top 26) l36 c36 k36
 have b36:=F36.binds (ps:=["rows","written"]) fun _ _ _ _ _ _ us hl=>match us,hl with|[_,_],_=>rfl
 have F37:=jx4 (st:=top 27) l37 c37 k37
 have b37:=F37.binds (ps:=["rows","written"]) fun _ _ _ _ _ _ us hl=>match us,hl with|[_,_],_=>rfl
 have F38:=jx4 (st:=top 28) l38 c38 k38
 have b38:=F38.binds (ps:=["rows","written"]) fun _ _ _ _ _ _ us hl=>match us,hl with|[_,_],_=>rfl
 have F39:=jx4 (st:=top 29) l39 c39 k39
 have b39:=F39.binds (ps:=["book","piece","fuel"]) fun _ _ _ _ _ _ us hl=>match us,hl with|[_,_,_],_=>rfl
 have F40:=jx4 (st:=top 41) l40 c40 k40
 have b40:=F40.binds (ps:=["_law_book","_law_piece"]) fun _ _ _ _ _ _ us hl=>match us,hl with|[_,_],_=>rfl
 have F41:=jx4 (st:=top 44) l41 c41 k41
 have g__law_any:∀ base:Heap,FnOk l.prog w K mg base CX0 1 f0 _ ["_law_cell"] jef:=fun base=>jrd F0 T ro rw
 have g__law_any_word:∀ base:Heap,FnOk l.prog w K mg base CX0 1 f1 _ ["_law_cell"] jab:=fun base=>ok_aw F1 T ro rw
 have g__law_whole:∀ base:Heap,FnOk l.prog w K mg base CX0 1 f2 _ ["_law_found"] jjn:=fun base=>ok_wh F2 T ro rw
 have g__law_inside:∀ base:Heap,FnOk l.prog w K mg base CX0 1 f3 _ ["_law_piece"] jjd:=fun base=>jr9 F3 T ro rw
 have g__law_at:∀ base:Heap,FnOk l.prog w K mg base CX0 1 f4 _ ["_law_script","_law_k"] (jcs K):=fun base=>jrb F4 T ro rw
 have g__law_drawn_piece:∀ base:Heap,FnOk l.prog w K mg base CX0 2 f5 _ ["_law_cells","_law_stamps"] (jxv K):=fun base=>ok_dp F5 T ro rw (g__law_any_word base) F1 b1 (g__law_any base) F0 b0
 have g__law_drawn_main:∀ base:Heap,FnOk l.prog w K mg base CX0 3 f6 _ ["_law_cells"] (jae K):=fun base=>jmo F6 T ro rw ((g__law_drawn_piece base).imp (fun _ _ _ _ z=>⟨_,z⟩)) F5 b5
 have g__law_is_piece:∀ base:Heap,FnOk l.prog w K mg base CX0 2 f7 _ ["_law_found"] jjo:=fun base=>ok_ip F7 T ro rw (g__law_whole base) F2 b2 (g__law_inside base) F3 b3
 have g__law_drawn_book:∀ base:Heap,FnOk l.prog w K mg base CX0 3 f8 _ ["_law_cells","_law_wild"] (jag K):=fun base=>ok_db F8 T ro rw (g__law_drawn_piece base) F5 b5
 have g__law_is_done:∀ base:Heap,FnOk l.prog w K mg base CX0 3 f9 _ ["_law_found"] jw6:=fun base=>ok_dn F9 T ro rw (g__law_whole base) F2 b2 (g__law_is_piece base) F7 b7
 have g__law_book_copied:∀ base:Heap,FnOk l.prog w K mg base CX0 1 f10 _ ["_law_book"] jkj:=fun base=>ok_bc F10 T ro rw
 have g__law_so:∀ base:Heap,FnOk l.prog w K mg base CX0 1 f11 _ ["_law_found","_law_due"] jw5:=fun base=>ok_sm F11 T ro rw
 have g_parts:∀ base:Heap,FnOk l.prog w K mg base CX0 1 f12 _ ["piece"] jzj:=fun base=>jgv F12 T ro rw
 have g_every_piece:∀ base:Heap,FnOk l.prog w K mg base CX0 2 f13 _ ["piece"] jk6:=fun base=>ok_ep F13 T ro rw (g_parts base) F12 b12
 have g_with_word:∀ base:Heap,FnOk l.prog w K mg base CX0 1 f14 _ ["words","word","value"] jzf:=fun base=>ok_ww F14 T ro rw
 have g_pieces_with_lets:∀ base:Heap,FnOk l.prog w K mg base CX0 2 f15 _ ["piece","lets"] jcq:=fun base=>jr5 F15 T ro rw (g_with_word base) F14 b14 ((g_parts base).imp (fun _ _ _ _ z=>S9.parts_of z)) F12 b12
 have g_outside_names:∀ base:Heap,FnOk l.prog w K mg base CX0 3 f16 _ ["piece"] jac:=fun base=>jr6 F16 T ro rw (g_pieces_with_lets base) F15 b15
 have g_stamps_by_word:∀ base:Heap,FnOk l.prog w K mg base CX0 1 f17 _ ["book"] jje:=fun base=>jr4 F17 T ro rw
 have g_check_use:∀ base:Heap,FnOk l.prog w K mg base (CXx l.prog w) 2 f18 _ ["stamps","use"] (je8 y2):=fun base=>ok_cu F18 T ro rw xx (g_parts base) F12 b12
 have g_check_piece:∀ base:Heap,FnOk l.prog w K mg base (CXx l.prog w) 3 f19 _ ["stamps","piece"] (jcr y2):=fun base=>ok_cp F19 T ro rw (g_every_piece base) F13 b13 (g_check_use base) F18 b18
 have g_check_stamps:∀ base:Heap,FnOk l.prog w K mg base (CXx l.prog w) 4 f20 _ ["book","piece"] (jed y2):=fun base=>ok_ck F20 T ro rw (g_stamps_by_word base) F17 b17 (g_check_piece base) F19 b19
 have g_numbered_word:∀ base:Heap,FnOk l.prog w K mg base CX0 1 f21 _ ["number"] jad:=fun base=>ok_nw F21 T ro rw
 have g_FreshWords___init__:∀ base:Heap,FnOk l.prog w K mg base CX0 1 f22 _ ["self","taken"] (jec C1):=fun base=>ok_wi F22 T ro rw
 have g_FreshWords_fresh:∀ base:Heap,FnOk l.prog w K mg base CX0 2 f23 _ ["self","word"] (jvc C1):=fun base=>ok_wf F23 T ro rw (g_numbered_word base) F21 b21
 have g_all_outside_names:∀ base:Heap,FnOk l.prog w K mg base CX0 4 f24 _ ["book","piece"] jee:=fun base=>jrc F24 T ro rw (g_outside_names base) F16 b16
 have g_spots_within:∀ base:Heap,FnOk l.prog w K mg base CX0 2 f25 _ ["spot"] jzi:=fun base=>ok_sw F25 T ro rw (g_parts base) F12 b12
 have g_has_stamps_to_open:∀ base:Heap,FnOk l.prog w K mg base CX0 4 f26 _ ["spot"] jeb:=fun base=>ok_hs F26 T ro rw (g_every_piece base) F13 b13 (g_outside_names base) F16 b16
 have g_row_at:∀ base:Heap,FnOk l.prog w K mg base CX0 1 f27 _ ["spot","head","many"] jwi:=fun base=>ok_ra F27 T ro rw
 have g_Opening___init__:∀ base:Heap,FnOk l.prog w K mg base CX0 5 f28 _ ["self","book","piece","fuel"] (spOi C0 C1):=fun base=>ok_oi F28 T ro rw (g_stamps_by_word base) F17 b17 (g_all_outside_names base) F24 b24 (g_FreshWords___init__ base) F22 b22 ⟨mk1,a22,i22,kc1⟩
 have g_Opening_take_name:∀ base:Heap,FnOk l.prog w K mg base CX0 2 f29 _ ["self","spot","waiting","rows"] spTn:=fun base=>ok_tn F29 T ro rw (g_row_at base) F27 b27
 have g_Opening_take_plain:∀ base:Heap,FnOk l.prog w K mg base CX0 3 f30 _ ["self","spot","waiting","rows"] spTp:=fun base=>ok_tp F30 T ro rw (g_spots_within base) F25 b25 (g_row_at base) F27 b27
 have g_Opening_take_let:∀ base:Heap,FnOk l.prog w K mg base CX0 3 f31 _ ["self","spot","waiting","rows"] (spTl C0 C1):=fun base=>ok_tl F31 T ro rw (g_FreshWords_fresh base) F23 b23 ⟨a23,i23,k23⟩ (g_spots_within base) F25 b25 (g_row_at base) F27 b27 (g_with_word base) F14 b14
 have g_Opening_body_of_v0:∀ base:Heap,FnOk l.prog w K mg base CX0 1 f32 _ ["self","spot"] spNo2:=fun base=>(jra (fd:=PySem.W.fnOf "body_of" "Opening.body_of" (jqq (jqc (top 25) 3)) (jqn (jqc (top 25) 3)) (jq8 (jqc (top 25) 3)) .none kV32 dc32 pm32 an32 cd32 ct32))
 have g_Opening_take_v1:∀ base:Heap,FnOk l.prog w K mg base CX0 4 f33 _ ["self","spot","waiting","rows"] (jea C0 C1):=fun base=>ok_tk F33 T ro rw (g_Opening_body_of_v0 base) F32 b32 ⟨a32,i32,k32⟩ (g_Opening_take_name base) F29 b29 ⟨a29,i29,k29⟩ (g_Opening_take_let base) F31 b31 ⟨a31,i31,k31⟩ (g_Opening_take_plain base) F30 b30 ⟨a30,i30,k30⟩
 have g_Opening_rows_of_v1:∀ base:Heap,FnOk l.prog w K mg base CX0 5 f34 _ ["self","spot"] (jvb C0 C1):=fun base=>jmn F34 T ro rw (g_Opening_take_v1 base) F33 b33 ⟨a33,i33,k33⟩
 have g_Opening_meaning_of:∀ base:Heap,FnOk l.prog w K mg base CX0 6 f35 _ ["self","handed"] (spMo C0 C1):=fun base=>ok_mo F35 T ro rw (g_has_stamps_to_open base) F26 b26 (g_Opening_rows_of_v1 base) F34 b34 ⟨a34,i34,k34⟩
 have g_Opening_body_of:∀ base:Heap,FnOk l.prog w K mg base CX0 7 f32 _ ["self","spot"] (spBo C0 C1):=fun base=>ok_bo F32 T ro rw (g_spots_within base) F25 b25 (g_Opening_meaning_of base) F35 b35 ⟨a35,i35,k35⟩
 have g_Opening_take_v2:∀ base:Heap,FnOk l.prog w K mg base CX0 8 f33 _ ["self","spot","waiting","rows"] (je9 C0 C1):=fun base=>ok_tj F33 T ro rw (g_Opening_body_of base) F32 b32 ⟨a32,i32,k32⟩ (g_Opening_take_name base) F29 b29 ⟨a29,i29,k29⟩ (g_Opening_take_let base) F31 b31 ⟨a31,i31,k31⟩ (g_Opening_take_plain base) F30 b30 ⟨a30,i30,k30⟩
 have g_Opening_rows_of_v2:∀ base:Heap,FnOk l.prog w K mg base CX0 9 f34 _ ["self","spot"] (jva C0 C1):=fun base=>jmm F34 T ro rw (g_Opening_take_v2 base) F33 b33 ⟨a33,i33,k33⟩
 have g_piece_of:∀ base:Heap,FnOk l.prog w K mg base CX0 1 f36 _ ["rows","written"] spPo:=fun base=>ok_po F36 T ro rw
 have g_sources_of:∀ base:Heap,FnOk l.prog w K mg base CX0 1 f37 _ ["rows","written"] S9.spSo:=fun base=>ok_so F37 T ro rw
 have g_write_out:∀ base:Heap,FnOk l.prog w K mg base CX0 2 f38 _ ["rows","written"] spWo:=fun base=>ok_wo F38 T ro rw (g_sources_of base) F37 b37 (g_piece_of base) F36 b36
 have g_expanded:∀ base:Heap,FnOk l.prog w K mg base (CXx l.prog w) 10 f39 _ ["book","piece","fuel"] (jaf y2 C0 C1):=fun base=>ok_ex F39 T ro rw (g_check_stamps base) F20 b20 (g_Opening___init__ base) F28 b28 ⟨mk0,a28,i28,kc0⟩ (g_Opening_rows_of_v2 base) F34 b34 ⟨a34,i34,k34⟩ (g_write_out base) F38 b38
 have g__law_base_tells:∀ base:Heap,FnOk l.prog w K mg base CX0 11 f40 _ ["_law_book","_law_piece"] (jv9 y2):=fun base=>ok_bt F40 T ro rw XN CC (g_expanded base) F39 b39
 exact ⟨PySem.W.fnOf "law" "law" (jqq (top 44)) (jqn (top 44)) (jq8 (top 44)) .none kV41 dc41 pm41 an41 cd41 ct41,fun s v=>.of_eq rfl,fun base _ _=>jr8 F41 T ro rw CC (g__law_drawn_book base) F8 b8 (g__law_drawn_main base) F6 b6 (g__law_at base) F4 b4 (g_expanded base) F39 b39 (g__law_book_copied base) F10 b10 (g__law_base_tells base) F40 b40 (g__law_is_done base) F9 b9 (g__law_so base) F11 b11⟩
theorem walk {l:PySem.W.OpenLaw} {q:Program} {loose:List Str} {XP:(Str→Option Value)→Heap→Prop} {YP:World→Heap→Prop} {d:DefRec} {K:Params→PySem.W.Frag} (hn:l.most=some 63) (hdf:d.params.defaults=[])
  (hY:∀ (w:World) (h:Heap),YP w h→(K w.params).In h)
  (F:∀ (w:World) (mg:Str→Option Value) (fa:Addr) (h:Heap),(K w.params).In h→h.Ns mainGlobals mg→mg d.name=some (.ref fa)→
   ∃ fd:FuncData,(∀ (s:Shared) (u:Value),BindsTo s fd ⟨[u],[]⟩ [("_law_script",u)])∧∀ base:Heap,(K w.params).In base→base.Ns mainGlobals mg→FnOk l.prog w (K w.params) mg base CX0 12 fa fd ["_law_script"] (S1.spLaw (K w.params))) :
  PySem.W.WalkO q loose XP YP l.row.toRowW d [] (fun f vs=>PySem.call f vs):=
 L2.walk_of (n:=63) (k:=12) (x:="_law_script") (CX:=fun _=>CX0) (sp:=fun w=>S1.spLaw (K w.params)) hn (by decide) hdf ⟨rfl,by decide,by decide⟩ hY F (fun _ _ a ns hl _ hS=>⟨a,ns,rfl,hS,hl,fun _=>rfl⟩) fun _ _ _ _ _ z=>z
end K9
open PySem PySem.W PyProof.Rows
set_option maxRecDepth 100000 in
set_option maxHeartbeats 0 in
theorem PySem.Challenge.cw_stampword_k09_stamps_refused_holds : PySem.Challenge.rw_stampword_k09_stamps_refused.Holds := by
 w_on;refine QWtp ?_
 k_fill
 refine K9.walk (l:=PySem.Challenge.rw_stampword_k09_stamps_refused) rfl rfl (fun w h Y=>PySem.W.kIn_of Y) ?F
 case F=>
  intro w mg fa h KX G hmg
  refine' K9.all_mk KX G hmg ?aC0 ?aC1 ?a0 ?l0 ?c0 ?k0 ?a1 ?l1 ?c1 ?k1 ?a2 ?l2 ?c2 ?k2 ?a3 ?l3 ?c3 ?k3 ?a4 ?l4 ?c4 ?k4 ?a5 ?l5 ?c5 ?k5 ?a6 ?l6 ?c6 ?k6 ?a7 ?l7 ?c7 ?k7 ?a8 ?l8 ?c8 ?k8 ?a9 ?l9 ?c9 ?k9 ?a10 ?l10 ?c10 ?k10 ?a11 ?l11 ?c11 ?k11 ?a12 ?l12 ?c12 ?k12 ?a13 ?l13 ?c13 ?k13 ?a14 ?l14 ?c14 ?k14 ?a15 ?l15 ?c15 ?k15 ?a16 ?l16 ?c16 ?k16 ?a17 ?l17 ?c17 ?k17 ?a18 ?l18 ?c18 ?k18 ?a19 ?l19 ?c19 ?k19 ?a20 ?l20 ?c20 ?k20 ?a21 ?l21 ?c21 ?k21 ?a22 ?i22 ?l22 ?c22 ?k22 ?a23 ?i23 ?l23 ?c23 ?k23 ?a24 ?l24 ?c24 ?k24 ?a25 ?l25 ?c25 ?k25 ?a26 ?l26 ?c26 ?k26 ?a27 ?l27 ?c27 ?k27 ?a28 ?i28 ?l28 ?c28 ?k28 ?a29 ?i29 ?l29 ?c29 ?k29 ?a30 ?i30 ?l30 ?c30 ?k30 ?a31 ?i31 ?l31 ?c31 ?k31 ?a32 ?i32 ?l32 ?c32 ?k32 ?a33 ?i33 ?l33 ?c33 ?k33 ?a34 ?i34 ?l34 ?c34 ?k34 ?a35 ?i35 ?l35 ?c35 ?k35 ?a36 ?l36 ?c36 ?k36 ?a37 ?l37 ?c37 ?k37 ?a38 ?l38 ?c38 ?k38 ?a39 ?l39 ?c39 ?k39 ?a40 ?l40 ?c40 ?k40 ?a41 ?l41 ?c41 ?k41 ?z0 ?z1 ?z2 ?z3 ?z4 ?z5 ?z6 ?z7 ?z8 ?z9 ?z10 ?z11 ?z12 ?z13 ?z14 ?z15 ?u0 ?s0 ?s1 ?s2 ?s3 ?pg0 ?hd0 ?po0 ?sa0 ?mk0 ?kc0 ?n0_stamps ?n0_lets ?n0_fuel ?n0_many ?n0_ready ?pg1 ?hd1 ?po1 ?sa1 ?mk1 ?kc1 ?n1_taken ?n1_tried ?xx ?x1 ?x2 ?x3 ?x4 ?x5 ?e1 ?e2 ?t1 ?t2 ?t3 ?t4
  (case aC0=>k_is)
  (case aC1=>k_is)
  (case a0=>k_is)
  (case l0=>k_is)
  (case c0=>k_is)
  (case k0=>k_is)
  (case a1=>k_is)
  (case l1=>k_is)
  (case c1=>k_is)
  (case k1=>k_is)
  (case a2=>k_is)
  (case l2=>k_is)
  (case c2=>k_is)
  (case k2=>k_is)
  (case a3=>k_is)
  (case l3=>k_is)
  (case c3=>k_is)
  (case k3=>k_is)
  (case a4=>k_is)
  (case l4=>k_is)
  (case c4=>k_is)
  (case k4=>k_is)
  (case a5=>k_is)
  (case l5=>k_is)
  (case c5=>k_is)
  (case k5=>k_is)
  (case a6=>k_is)
  (case l6=>k_is)
  (case c6=>k_is)
  (case k6=>k_is)
  (case a7=>k_is)
  (case l7=>k_is)
  (case c7=>k_is)
  (case k7=>k_is)
  (case a8=>k_is)
  (case l8=>k_is)
  (case c8=>k_is)
  (case k8=>k_is)
  (case a9=>k_is)
  (case l9=>k_is)
  (case c9=>k_is)
  (case k9=>k_is)
  (case a10=>k_is)
  (case l10=>k_is)
  (case c10=>k_is)
  (case k10=>k_is)
  (case a11=>k_is)
  (case l11=>k_is)
  (case c11=>k_is)
  (case k11=>k_is)
  (case a12=>k_is)
  (case l12=>k_is)
  (case c12=>k_is)
  (case k12=>k_is)
  (case a13=>k_is)
  (case l13=>k_is)
  (case c13=>k_is)
  (case k13=>k_is)
  (case a14=>k_is)
  (case l14=>k_is)
  (case c14=>k_is)
  (case k14=>k_is)
  (case a15=>k_is)
  (case l15=>k_is)
  (case c15=>k_is)
  (case k15=>k_is)
  (case a16=>k_is)
  (case l16=>k_is)
  (case c16=>k_is)
  (case k16=>k_is)
  (case a17=>k_is)
  (case l17=>k_is)
  (case c17=>k_is)
  (case k17=>k_is)
  (case a18=>k_is)
  (case l18=>k_is)
  (case c18=>k_is)
  (case k18=>k_is)
  (case a19=>k_is)
  (case l19=>k_is)
  (case c19=>k_is)
  (case k19=>k_is)
  (case a20=>k_is)
  (case l20=>k_is)
  (case c20=>k_is)
  (case k20=>k_is)
  (case a21=>k_is)
  (case l21=>k_is)
  (case c21=>k_is)
  (case k21=>k_is)
  (case a22=>k_is)
  (case i22=>k_is)
  (case l22=>k_is)
  (case c22=>k_is)
  (case k22=>k_is)
  (case a23=>k_is)
  (case i23=>k_is)
  (case l23=>k_is)
  (case c23=>k_is)
  (case k23=>k_is)
  (case a24=>k_is)
  (case l24=>k_is)
  (case c24=>k_is)
  (case k24=>k_is)
  (case a25=>k_is)
  (case l25=>k_is)
  (case c25=>k_is)
  (case k25=>k_is)
  (case a26=>k_is)
  (case l26=>k_is)
  (case c26=>k_is)
  (case k26=>k_is)
  (case a27=>k_is)
  (case l27=>k_is)
  (case c27=>k_is)
  (case k27=>k_is)
  (case a28=>k_is)
  (case i28=>k_is)
  (case l28=>k_is)
  (case c28=>k_is)
  (case k28=>k_is)
  (case a29=>k_is)
  (case i29=>k_is)
  (case l29=>k_is)
  (case c29=>k_is)
  (case k29=>k_is)
  (case a30=>k_is)
  (case i30=>k_is)
  (case l30=>k_is)
  (case c30=>k_is)
  (case k30=>k_is)
  (case a31=>k_is)
  (case i31=>k_is)
  (case l31=>k_is)
  (case c31=>k_is)
  (case k31=>k_is)
  (case a32=>k_is)
  (case i32=>k_is)
  (case l32=>k_is)
  (case c32=>k_is)
  (case k32=>k_is)
  (case a33=>k_is)
  (case i33=>k_is)
  (case l33=>k_is)
  (case c33=>k_is)
  (case k33=>k_is)
  (case a34=>k_is)
  (case i34=>k_is)
  (case l34=>k_is)
  (case c34=>k_is)
  (case k34=>k_is)
  (case a35=>k_is)
  (case i35=>k_is)
  (case l35=>k_is)
  (case c35=>k_is)
  (case k35=>k_is)
  (case a36=>k_is)
  (case l36=>k_is)
  (case c36=>k_is)
  (case k36=>k_is)
  (case a37=>k_is)
  (case l37=>k_is)
  (case c37=>k_is)
  (case k37=>k_is)
  (case a38=>k_is)
  (case l38=>k_is)
  (case c38=>k_is)
  (case k38=>k_is)
  (case a39=>k_is)
  (case l39=>k_is)
  (case c39=>k_is)
  (case k39=>k_is)
  (case a40=>k_is)
  (case l40=>k_is)
  (case c40=>k_is)
  (case k40=>k_is)
  (case a41=>k_is)
  (case l41=>k_is)
  (case c41=>k_is)
  (case k41=>k_is)
  (case z0=>k_is)
  (case z1=>k_is)
  (case z2=>k_is)
  (case z3=>k_is)
  (case z4=>k_is)
  (case z5=>k_is)
  (case z6=>k_is)
  (case z7=>k_is)
  (case z8=>k_is)
  (case z9=>k_is)
  (case z10=>k_is)
  (case z11=>k_is)
  (case z12=>k_is)
  (case z13=>k_is)
  (case z14=>k_is)
  (case z15=>k_is)
  (case u0=>k_is)
  (case s0=>k_is)
  (case s1=>k_is)
  (case s2=>k_is)
  (case s3=>k_is)
  (case pg0=>k_is)
  (case hd0=>k_is)
  (case po0=>k_is)
  (case sa0=>k_is)
  (case mk0=>k_is)
  (case kc0=>k_is)
  (case n0_stamps=>k_is)
  (case n0_lets=>k_is)
  (case n0_fuel=>k_is)
  (case n0_many=>k_is)
  (case n0_ready=>k_is)
  (case pg1=>k_is)
  (case hd1=>k_is)
  (case po1=>k_is)
  (case sa1=>k_is)
  (case mk1=>k_is)
  (case kc1=>k_is)
  (case n1_taken=>k_is)
  (case n1_tried=>k_is)
  (case xx=>k_exc)
  (case x1=>k_is)
  (case x2=>k_is)
  (case x3=>k_is)
  (case x4=>k_is)
  (case x5=>k_is)
  (case e1=>kts_exm)
  (case e2=>kts_exm)
  (case t1=>kit_is)
  (case t2=>kit_is)
  (case t3=>kit_is)
  (case t4=>kit_is)
#print axioms PySem.Challenge.cw_stampword_k09_stamps_refused_holds
