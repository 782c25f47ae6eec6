import PyProof.Rows.All
import Wide.All
import OpenK.AllK
import Wide.FinOn
import Lean
import PyProof.EqAt
import PyProof.EqKinds
import PyProof.TupleCall
import PySem.Challenge.RW_stampword_k06_whole_own_names_of_stamps
set_option Elab.async false
set_option linter.all false
set_option maxRecDepth 100000
set_option maxHeartbeats 4000000
namespace QW
open PySem PySem.W PyProof.Rows
abbrev pw := PySem.Challenge.pw_stampword_k06_whole_own_names_of_stamps
abbrev rw := PySem.Challenge.rw_stampword_k06_whole_own_names_of_stamps
def tq (i : Nat) : Stmt := pw.main.body.getD i (.Pass ⟨0, 0, 0, 0⟩)
def qv : Program := { pw with main := { pw.main with body := [tq 1, tq 2, tq 4, tq 5, tq 6, tq 7, tq 8, tq 10, tq 11, tq 12, tq 13, tq 15, tq 16, tq 17, tq 19, tq 20, tq 21, tq 22, tq 23, tq 24, tq 25, tq 26, tq 27, tq 29, tq 30, tq 31, tq 32, tq 33, tq 34, tq 35, tq 36, tq 37, tq 38, tq 39, tq 40, tq 41, tq 42, tq 43, tq 44, tq 45, tq 46, tq 47] } }
abbrev Xt : Shared → Bool := fun s => xlAt qv [] s && recOk (RowW.records (OpenRow.toRowW rw.row)) s
theorem lfG {p q : Program} {X : Shared → Bool} {N : Nat} {α : Type} {Yf : Shared → α} {Ya : World → α} (a : ∀ w, (openEnds treeTable p w N).map (fun s => (seen ((recsOf q).map (·.name)) (ownsOf q) [] { s with gens := #[] }, s.heap.bltView)) = some (expectedOf q, bltViewBooted)) (b : ∀ w, (openEnds treeTable p w N).map (fun s => (openSeen q [] (importedModules p.main.body) X true s).2.2) = some (openGood q []).2.2) (c : ∀ w, (openEnds treeTable p w N).map Yf = some (Ya w)) : LeftO p q [] X Yf Ya N := fun w => by
  have a := a w
  have b := b w
  have c := c w
  revert a b c
  cases openEnds treeTable p w N with
  | none => intro a; cases a
  | some s =>
    intro a b c
    have a := Prod.mk.inj (Option.some.inj a)
    exact congrArg some (Prod.ext (Prod.ext a.1 (Prod.ext a.2 (Option.some.inj b))) (Option.some.inj c))
theorem ws : rw.wellSaid = true := by decide +kernel
theorem ta (w : World) : (openEnds treeTable pw w 4880).map (fun s => (seen ((recsOf qv).map (·.name)) (ownsOf qv) [] { s with gens := #[] }, s.heap.bltView)) = some (expectedOf qv, bltViewBooted) := by kernel_rfl
theorem tb (w : World) : (openEnds treeTable pw w 4880).map (fun s => (openSeen qv [] (importedModules pw.main.body) Xt true s).2.2) = some (openGood qv []).2.2 := by kernel_rfl
end QW
section
open PySem PySem.W PyProof.Rows
set_option hygiene false in
local macro_rules | `(tactic| o_law) => `(tactic| refine holds_law QW.ws fun said => ?_)
set_option hygiene false in
local macro_rules | `(tactic| o_head $H) => `(tactic| (refine holds_open (q := QW.qv) (loose := []) (Xt := QW.Xt) (XP := XL QW.qv []) (Yf := Hook.obs $H) (Ya := Hook.val $H) (YP := Hook.says $H) (N := 4880) (QW.lfG QW.ta QW.tb fun _ => by kernel_rfl) (Hook.of $H) (Hook.keeps $H) (fun s e => xl_of s (Bool.and_eq_true_iff.mp e).1) XL.keeps (by rfl) (by rfl) (by rfl) (fun s e => recFacts_of (Bool.and_eq_true_iff.mp e).2) (by rfl) (by assumption) (by decide +kernel) ⟨rfl, rfl, rfl, rfl, rfl, by decide +kernel⟩ ?hw ?hc <;> clear said))
open_top QWtp for PySem.Challenge.rw_stampword_k06_whole_own_names_of_stamps
end
local macro_rules|`(tactic|decide)=>`(tactic|decide+kernel)

abbrev aA:=PySem.W.Frag
abbrev aB:=@List.mem_cons
abbrev aC:=@Nat.le_refl
abbrev aD:=@List.length_append
abbrev aE:=@List.length_cons
abbrev aF:=@List.not_mem_nil
abbrev aG:=@List.mem_singleton
abbrev aH:=@PySem.F.plainAttrs_list
abbrev aI:=@List.getElem?_eq_getElem
abbrev aJ:=@True.intro
abbrev aK:=@PySem.W.mg_of
abbrev aL:=@List.size_toArray
abbrev aM:=@Nat.ne_of_lt
abbrev aN:=@List.getElem?_eq_some_iff
abbrev aO:=@List.cons_append
abbrev aP:=@PySem.F.slot_list_append
abbrev aQ:=@PySem.F.type_list_append
abbrev aR:=@Bool.false_ne_true
abbrev aS:=@List.mem_append_right
abbrev aT:=@List.length_map
abbrev aU:=@Nat.zero_le
abbrev aV:=@List.append_assoc
abbrev aW:=@List.mem_append
abbrev aX:=@List.map_cons
abbrev aY:=@Nat.le_trans
abbrev aZ:=@List.append_nil
abbrev aa:=@Nat.lt_of_lt_of_le
abbrev ac:=@List.mem_of_getElem?
abbrev ae:=@List.getElem?_map
abbrev af:=@Ne.symm
abbrev ag:=@List.mem_append_left
abbrev ah:=@List.length_take
abbrev ai:=@List.drop_zero
abbrev aj:=@List.length_drop
abbrev ak:=@List.nil_append
abbrev am:=@List.length_nil
abbrev aq:=@List.reverse_cons
abbrev au:=@Nat.add_mul
abbrev av:=@PySem.W.mg_none_of
abbrev aw:=@List.length_singleton
abbrev ax:=@List.take_add_one
abbrev ay:=@List.take_zero
abbrev az:=@PySem.F.slot_list_pop
abbrev bA:=@PySem.F.type_list_pop
abbrev bB:=@List.getElem?_append_left
abbrev bC:=@List.mem_cons_of_mem
abbrev bD:=@Nat.ne_of_gt
abbrev bE:=@PySem.W.kia_one
abbrev bF:=@Or.inl
abbrev bG:=@List.take_length
abbrev bH:=@List.drop_succ_cons
abbrev bI:=@List.length_reverse
abbrev bJ:=@Nat.sub_self
abbrev bK:=@List.take_succ_cons
abbrev bL:=@List.getElem?_append_right
abbrev bM:=@Nat.lt_or_ge
abbrev bN:=@List.drop_eq_getElem_cons
abbrev bO:=@Nat.le_of_lt
abbrev bP:=@PyProof.Rows.callWith_type1
abbrev bQ:=@Nat.le_succ
abbrev bR:=@List.nodup_cons
abbrev bS:=@Or.inr
abbrev bT:=@Nat.le_of_ble_eq_true
abbrev bU:=@Nat.lt_irrefl
abbrev bV:=@List.map_nil
abbrev bW:=@List.map_append
abbrev bX:=@Nat.mul_le_mul_right
abbrev bY:=@List.mem_cons_self
abbrev bZ:=@PyProof.Rows.slot_tuple_getitem
abbrev bb:=@Bool.and_eq_true
abbrev bc:=@List.any_cons
abbrev be:=@List.find?_cons
abbrev bf:=@Option.map_some
abbrev bg:=@Nat.le_add_right
abbrev bh:=@List.take_of_length_le
abbrev bi:=@Nat.sub_zero
abbrev bj:=@Array.length_toList
abbrev bn:=@PySem.mem_of_lookup
abbrev bp:=@Int.toNat_natCast
abbrev br:=@Array.toList_append
abbrev bu:=@Nat.min_eq_left
abbrev bw:=@List.mem_map
abbrev bx:=@Nat.zero_add
abbrev bz:=@Nat.one_mul
abbrev b4:=@Option.getD_some
abbrev b5:=@List.drop_of_length_le
abbrev b9:=@List.reverse_append
abbrev cA:=@List.getElem?_set_ne
abbrev cB:=@Bool.eq_iff_iff
abbrev cC:=@Nat.lt_succ_self
abbrev cD:=@List.of_mem_zip
abbrev cE:=@List.pairwise_cons
abbrev cF:=@Int.emod_nonneg
abbrev cG:=@List.map_map
abbrev cH:=@List.take_left'
abbrev cI:=@List.take_append_drop
abbrev cJ:=@List.sum_cons
abbrev cK:=@List.length_eq_zero_iff
abbrev cL:=@List.reverse_reverse
abbrev cM:=@PySem.F.slot_list_extend
abbrev cN:=@PySem.F.type_list_extend
abbrev cO:=@List.filterMap_cons
abbrev cP:=@PySem.W.plainGet_of
abbrev cQ:=@PySem.W.callWith_K
abbrev cR:=@List.length_replicate
abbrev cS:=@PySem.F.slot_tuple_add
abbrev cT:=@PySem.F.entry_tuple_add
abbrev cU:=@PySem.F.args_tuple_add_2
abbrev cV:=@Array.getElem?_toList
abbrev cW:=@Option.isSome_map
abbrev cX:=@Nat.lt_trans
abbrev cY:=@PySem.F.slot_dict_get
abbrev cZ:=@Nat.lt_of_le_of_lt
abbrev ca:=@Nat.not_lt_zero
abbrev cb:=@Nat.add_comm
abbrev ce:=@List.any_eq_true
abbrev cf:=@Nat.lt_succ_of_lt
abbrev cg:=@Nat.pow_succ
abbrev ci:=@Nat.mul_add
abbrev cj:=@List.take_left
abbrev ck:=@List.append_inj'
abbrev cm:=@List.take_reverse
abbrev cp:=@Function.comp_def
abbrev cq:=@List.mem_or_eq_of_mem_set
abbrev cr:=@List.getElem_toArray
abbrev cs:=@List.getElem?_set_self
abbrev cu:=@PyProof.noPylong_small
abbrev cw:=@PySem.W.cellsFrom_some
abbrev cy:=@Option.isSome_iff_exists
abbrev cz:=@List.getElem?_replicate
abbrev c3:=@List.getElem?_take_of_lt
abbrev dA:=@PySem.F.entry_dict_get
abbrev dB:=@PySem.F.args_dict_get_3
abbrev dC:=@Int.eq_ofNat_of_zero_le
abbrev dD:=@List.getElem?_range
abbrev dE:=@List.getLast?_append
abbrev dG:=@Function.comp_apply
abbrev dH:=@List.map_congr_left
abbrev dI:=@List.getElem?_eq_none
abbrev dJ:=@Nat.add_sub_cancel_left
abbrev dM:=@List.take_append_of_le_length
abbrev dN:=@List.mem_of_mem_take
abbrev dO:=@List.length_pos_iff
namespace L2
open PySem PySem.Spec PyProof.Rows
abbrev fO:=Sum Int Str
def qa:fO→Value→Bool
 | .inl k,v=>Value.isInt k v
 | .inr x,v=>Value.isStrOf x v
def M7(w:World):fO→Int
 | .inl k=>hashInt k
 | .inr x=>hashStr w x
theorem gW:∀{k:fO}{v:Value},qa k v=true→(∃i t,k=Sum.inl i∧v=Value.int i t)∨(∃x t,k=Sum.inr x∧v=Value.str x t)
 | .inl i,v,h=>by obtain⟨t,e⟩:=Value.isInt_shape (k:=i) (v:=v) h;exact .inl ⟨i,t,rfl,e⟩
 | .inr x,v,h=>by obtain⟨t,e⟩:=Value.isStrOf_shape (x:=x) (v:=v) h;exact .inr ⟨x,t,rfl,e⟩
theorem zh(i:Int)(t:Tok):qa (.inl i) (.int i t)=true:=by simp[qa,Value.isInt]
theorem zg(x:Str)(t:Tok):qa (.inr x) (.str x t)=true:=by simp[qa,Value.isStrOf]
theorem JC(a b:Int):decide ((Sum.inl a:fO)=Sum.inl b)=(a==b):=by
 by_cases e:a=b
 ·subst e;simp
 ·have h:¬(Sum.inl a:fO)=Sum.inl b:=λq=>e (Sum.inl.inj q);rw[decide_eq_false h];exact(beq_eq_false_iff_ne.mpr e).symm
theorem I9(a b:Str):decide ((Sum.inr a:fO)=Sum.inr b)=decide (a=b):=by
 by_cases e:a=b
 ·subst e;simp
 ·have h:¬(Sum.inr a:fO)=Sum.inr b:=λq=>e (Sum.inr.inj q);rw[decide_eq_false h,decide_eq_false e]
theorem JB(a:Int)(b:Str):decide ((Sum.inl a:fO)=Sum.inr b)=false:=decide_eq_false (λq=>nomatch q)
theorem JA(a:Str)(b:Int):decide ((Sum.inr a:fO)=Sum.inl b)=false:=decide_eq_false (λq=>nomatch q)
def gj(prog:Program)(w:World):PySem.KeyKind prog w fO where
 is:=qa
 hash:=M7 w
 inj:=λv a b ha hb=>by
  rcases gW ha with⟨i,t,rfl,rfl⟩|⟨x,t,rfl,rfl⟩
  ·rcases gW hb with⟨j,u,rfl,e⟩|⟨y,u,rfl,e⟩
   ·injection e with e1 _;rw[e1]
   ·exact nomatch e
  ·rcases gW hb with⟨j,u,rfl,e⟩|⟨y,u,rfl,e⟩
   ·exact nomatch e
   ·injection e with e1 _;rw[e1]
 byValue:=λk v h=>by rcases gW h with⟨i,t,rfl,rfl⟩|⟨x,t,rfl,rfl⟩<;>rfl
 pyHash:=λhv h=>by
  rcases gW hv with⟨i,t,rfl,rfl⟩|⟨x,t,rfl,rfl⟩
  ·exact wpAny_pyHash_int h
  ·exact wpAny_pyHash_str h
 eqBool:=λhu hv h=>by
  rcases gW hu with⟨i,t,rfl,rfl⟩|⟨x,t,rfl,rfl⟩
  ·rcases gW hv with⟨j,u,rfl,rfl⟩|⟨y,u,rfl,rfl⟩
   ·rw[JC]at h;exact wpAny_eqBool_int h
   ·rw[JB]at h;exact SeqAt.EqAt.int_str i t y u _ _ _ _ h
  ·rcases gW hv with⟨j,u,rfl,rfl⟩|⟨y,u,rfl,rfl⟩
   ·rw[JA]at h;exact SeqAt.EqAt.str_int x t j u _ _ _ _ h
   ·rw[I9]at h;exact wpAny_eqBool_str h
 «strs»:=λk x t v h=>by
  rcases gW h with⟨i,u,rfl,e⟩|⟨y,u,rfl,e⟩
  ·exact nomatch e
  ·injection e with e1 _;subst e1;cases v<;>rfl
theorem uw(prog:Program)(w:World)(i:Int)(t:Tok):(gj prog w).is (.inl i) (.int i t)=true:=zh i t
theorem uv(prog:Program)(w:World)(x:Str)(t:Tok):(gj prog w).is (.inr x) (.str x t)=true:=zg x t
inductive V where
 | non|bl(b:Bool)|int(i:Int)|str(x:Str)|byt(b:Array UInt8)|flt(b:UInt64)|ref(a:Addr)|ty(n:String)
 deriving DecidableEq
def fT:V→Value→Prop
 | .non,u=>u=Value.none
 | .bl b,u=>u=Value.bool b
 | .int i,u=>∃t,u=Value.int i t
 | .str x,u=>∃t,u=Value.str x t
 | .byt b,u=>∃t,u=Value.bytes b t
 | .flt b,u=>∃t,u=Value.float b t
 | .ref a,u=>u=Value.ref a
 | .ty n,u=>u=Value.type n
abbrev fL:List V→List Value→Prop:=Paired fT
theorem fL.length(r:fL xs us):xs.length=us.length:=Paired.length r
theorem fL.get:∀{xs:List V}{us:List Value}{i:Nat}{x:V},fL xs us→xs[i]?=some x→∃u,us[i]?=some u∧fT x u
 | _,_,_,_,.nil,e=>by simp at e
 | _,_,0,_,.cons r _,e=>by simp at e;subst e;exact⟨_,rfl,r⟩
 | _,_,i+1,x,.cons _ t,e=>by obtain⟨u,h1,h2⟩:=fL.get (i:=i) (x:=x) t (by simpa using e);exact⟨u,by simpa using h1,h2⟩
theorem fL.set(r:fT x u):∀{xs:List V}{us:List Value}(i:Nat),fL xs us→fL (xs.set i x) (us.set i u)
 | _,_,_,.nil=>.nil
 | _,_,0,.cons _ t=>.cons r t
 | _,_,i+1,.cons q t=>.cons q (fL.set r i t)
theorem fL.append:∀{xs ys:List V}{us ws:List Value},fL xs us→fL ys ws→fL (xs++ys) (us++ws)
 | _,_,_,_,.nil,s=>s
 | _,_,_,_,.cons r t,s=>.cons r (fL.append t s)
theorem fL.take:∀{xs:List V}{us:List Value}(n:Nat),fL xs us→fL (xs.take n) (us.take n)
 | _,_,0,_=>.nil
 | _,_,_+1,.nil=>.nil
 | _,_,n+1,.cons r t=>.cons r (fL.take n t)
theorem fL.drop:∀{xs:List V}{us:List Value}(n:Nat),fL xs us→fL (xs.drop n) (us.drop n)
 | _,_,0,r=>r
 | _,_,_+1,.nil=>.nil
 | _,_,n+1,.cons _ t=>fL.drop n t
def lO:Option V→Option Value→Prop
 | some v,some u=>fT v u
 | none,none=>True
 | _,_=>False
def KV{κ:Type}:List (κ×V)→List (κ×Value)→Prop:=Paired λ(p:κ×V)(q:κ×Value)=>p.1=q.1∧fT p.2 q.2
def kV:fO→V
 | .inl i=>.int i
 | .inr x=>.str x
inductive HO where
 | lst(xs:List V)
 | tup(xs:List V)
 | dK(kvs:List (fO×V))|dT(kvs:List (List fO×V))
 | set(S:Int→Bool)(n:Nat)
 | ins(C dx:Addr)(fs:List (Str×V))
 | own(x:Addr)
 | xd(fs:List (Str×V))
 | met(f x:Addr)
 | rng(lo hi:Int)
 | frz(o:Obj)(u:HO)
 | tbl(ps:Array Value)
 | ext(φ:Heap→Prop)
abbrev Hp:=Addr→Option HO
def upd(H:Hp)(a:Addr)(o:HO):Hp:=λb=>if b=a then some o else H b
theorem dR:upd H a o a=some o:=by unfold upd;rw[if_pos rfl]
theorem dj(h:b≠a):upd H a o b=H b:=by unfold upd;rw[if_neg h]
theorem fF{H:Hp}{a b:Addr}{o u:HO}(h:H a=some o)(h':H b=some u)(d:o≠u):a≠b:=by intro e;subst e;rw[h]at h';exact d (Option.some.inj h')
theorem de{H:Hp}{a b:Addr}{o:HO}(h:H a=some o)(h':H b=none):a≠b:=by intro e;subst e;rw[h]at h';cases h'
section
variable (P:Program)(w:World)
def gf(H:Hp)(h:Heap)(a:Addr):HO→Prop
 | .lst xs=>xs.length≤sizeLine∧∃(its:List Value)(n:Nat),fL xs its∧h.get? a=some {cls:=.type "list",data:=.seq its.toArray n}
 | .tup xs=>xs.length≤sizeLine∧∃its:List Value,fL xs its∧IsTup h a its.toArray
 | .dK kvs=>kvs.length≤sizeLine∧(a==sysModules)=false∧∃vs,KV kvs vs∧h.DictOf (gj P w) a vs
 | .dT kvs=>kvs.length≤sizeLine∧(a==sysModules)=false∧∃xs:List (List fO×Addr×Value),
   Paired (λ(p:List fO×V)(q:List fO×Addr×Value)=>p.1=q.1∧H q.2.1=some (.tup (p.1.map kV))∧fT p.2 q.2.2) kvs xs∧
   ∃o es ep,h.get? a=some o∧o.ExactDict∧o.data=.dict es ep∧es.toList=xs.map (entryOfKey (tupleKind (gj P w)))∧(xs.map (·.1)).Nodup
 | .set S n=>h.SetOf (intKind P w) a S n
 | .ins C dx fs=>H dx=some (.own a)∧fs.length≤1000∧dx≠a∧h.get? a=some (PySem.W.instObj C dx)∧
   ∃mA,h.Ns1 dx mA∧(∀f,lO (fs.lookup f) (mA f))∧PySem.Within mA (fs.map (·.1))
 | .own _=>∃o,h.get? a=some o
 | .xd fs=>∃mA,h.Ns1 a mA∧∀f,lO (fs.lookup f) (mA f)
 | .rng lo hi=>∃t u v,h.get? a=some {cls:=.type "range",data:=.fields #[.int lo t,.int hi u,.int 1 v]}
 | .frz o u=>h.get? a=some o∧gf H h a u
 | .tbl ps=>h.get? a=some {cls:=.none,data:=.fields ps}
 | .met f x=>h.get? a=some (PySem.W.methodObj (.ref f) (.ref x))
 | .ext φ=>φ h∧(∃o,h.get? a=some o)∧∀h1 h2:Heap,φ h1→(∀o,h1.get? a=some o→h2.get? a=some o)→φ h2
def mq(H:Hp)(h:Heap):Prop:=∀a o,H a=some o→gf P w H h a o
end
section
variable {P:Program}{w:World}{H H':Hp}{h h':Heap}{a:Addr}{o:HO}
theorem gf.lt(x:gf P w H h a o):a<h.objs.size:=by
 cases o with
 | lst xs=>obtain⟨_,_,_,_,e⟩:=x;exact Heap.lt_size e
 | tup xs=>obtain⟨_,_,_,p⟩:=x;exact p.lt
 | dK kvs=>obtain⟨_,_,_,_,o,_,_,e,_⟩:=x;exact Heap.lt_size e
 | dT kvs=>obtain⟨_,_,_,_,o,_,_,e,_⟩:=x;exact Heap.lt_size e
 | set S n=>obtain⟨o,_,_,_,e,_⟩:=x;exact Heap.lt_size e
 | ins C dx fs=>obtain⟨_,_,_,e,_⟩:=x;exact Heap.lt_size e
 | own y=>obtain⟨_,e⟩:=x;exact Heap.lt_size e
 | xd fs=>obtain⟨_,⟨_,_,_,e,_⟩,_⟩:=x;exact Heap.lt_size e
 | rng lo hi=>obtain⟨_,_,_,e⟩:=x;exact Heap.lt_size e
 | frz ob u=>obtain⟨e,_⟩:=x;exact Heap.lt_size e
 | tbl ps=>exact Heap.lt_size (show h.get? a=some _ from x)
 | met f y=>exact Heap.lt_size (show h.get? a=some _ from x)
 | ext φ=>obtain⟨_,⟨_,e⟩,_⟩:=x;exact Heap.lt_size e
theorem Paired.mapP:∀{l₁:List α}{l₂:List β},Paired F l₁ l₂→(∀a b,F a b→G a b)→Paired G l₁ l₂
 | _,_,.nil,_=>.nil
 | _,_,.cons r t,f=>.cons (f _ _ r) (Paired.mapP t f)
theorem gf.stay(x:gf P w H h a o)(k:∀b u,(b=a∨H b=some (.own a))→h.get? b=some u→h'.get? b=some u)
  (ho:∀b,H b=some (.own a)→H' b=some (.own a)) (ht:∀b xs,H b=some (.tup xs)→H' b=some (.tup xs)):gf P w H' h' a o:=by
 induction o with
 | lst xs=>obtain⟨z,its,n,r,e⟩:=x;exact⟨z,its,n,r,k _ _ (.inl rfl) e⟩
 | tup xs=>obtain⟨z,its,r,ob,e,c⟩:=x;exact⟨z,its,r,ob,k _ _ (.inl rfl) e,c⟩
 | dK kvs=>obtain⟨z,y,vs,r,ob,es,ep,e,c⟩:=x;exact⟨z,y,vs,r,ob,es,ep,k _ _ (.inl rfl) e,c⟩
 | dT kvs=>obtain⟨z,y,xs,r,ob,es,ep,e,c⟩:=x;exact⟨z,y,xs,Paired.mapP r λp q z=>⟨z.1,ht _ _ z.2.1,z.2.2⟩,ob,es,ep,k _ _ (.inl rfl) e,c⟩
 | set S n=>obtain⟨ob,es,ep,t,e,c⟩:=x;exact⟨ob,es,ep,t,k _ _ (.inl rfl) e,c⟩
 | ins C dx fs=>obtain⟨d,z,ne,e,mA,⟨od,es,ep,e2,c⟩,r⟩:=x;exact⟨ho _ d,z,ne,k _ _ (.inl rfl) e,mA,⟨od,es,ep,k _ _ (.inr d) e2,c⟩,r⟩
 | own y=>obtain⟨ob,e⟩:=x;exact⟨ob,k _ _ (.inl rfl) e⟩
 | xd fs=>obtain⟨mA,⟨od,es,ep,e,c⟩,r⟩:=x;exact⟨mA,⟨od,es,ep,k _ _ (.inl rfl) e,c⟩,r⟩
 | rng lo hi=>obtain⟨t,u,v,e⟩:=x;exact⟨t,u,v,k _ _ (.inl rfl) e⟩
 | frz ob u ih=>obtain⟨e,q⟩:=x;exact⟨k _ _ (.inl rfl) e,ih q⟩
 | tbl ps=>have e:h.get? a=some {cls:=.none,data:=.fields ps}:=x;show h'.get? a=some {cls:=.none,data:=.fields ps};exact k a _ (.inl rfl) e
 | met f y=>have e:h.get? a=some (PySem.W.methodObj (.ref f) (.ref y)):=x;show h'.get? a=some (PySem.W.methodObj (.ref f) (.ref y));exact k a _ (.inl rfl) e
 | ext φ=>obtain⟨p,⟨o,e⟩,st⟩:=x;exact⟨st _ _ p λo q=>k _ _ (.inl rfl) q,⟨o,k _ _ (.inl rfl) e⟩,st⟩
theorem mq.lt(x:mq P w H h)(e:H a=some o):a<h.objs.size:=(x a o e).lt
theorem mq.fresh(x:mq P w H h)(e:h.objs.size≤a):H a=none:=by
 cases q:H a with
 | none=>rfl
 | some u=>exact absurd (aa (x.lt q) e) (bU _)
theorem mq.kept(x:mq P w H h)(k:∀b u,h.get? b=some u→h'.get? b=some u):mq P w H h':=λa o e=>
 (x a o e).stay (λb u _ q=>k b u q) (λ_ q=>q) λ_ _ q=>q
theorem mq.laid(x:mq P w H h)(k:∀b u,h.get? b=some u→h'.get? b=some u)(hp:h.objs.size≤a)(new:gf P w (upd H a o) h' a o):mq P w (upd H a o) h':=λb u e=>by
 have hn:=x.fresh hp;by_cases hb:b=a
 ·subst hb;rw[dR]at e;cases e;exact new
 ·rw[dj hb]at e;exact(x b u e).stay (λc v _ q=>k c v q) (λc q=>by rw[dj (de q hn)];exact q) λc xs q=>by rw[dj (de q hn)];exact q
end
def Rd(H:Hp)(a:Addr)(u:HO):Prop:=H a=some u∨∃o,H a=some (.frz o u)
theorem Rd.ok(r:Rd H a u)(x:mq P w H h):gf P w H h a u:=by
 rcases r with r|⟨o,r⟩
 ·exact x a u r
 ·obtain⟨_,q⟩:=x a _ r;exact q
def LN:Option HO→Prop
 | some (.lst _)=>True
 | some (.dK _)=>True
 | some (.dT _)=>True
 | some (.set _ _)=>True
 | some (.ins _ _ _)=>True
 | some (.ext _)=>True
 | _=>False
section
variable {P:Program}{w:World}{H:Hp}{h h':Heap}{x e:Addr}{o':HO}
theorem mq.write(ok:mq P w H h)(mu:LN (H x))(he:e=x∨H e=some (.own x))(k:∀b u,b≠e→h.get? b=some u→h'.get? b=some u)(heo:∃u,h'.get? e=some u)
  (new:gf P w (upd H x o') h' x o'):mq P w (upd H x o') h':=λb u q=>by
 have nown:∀c y,H c=some (.own y)→c≠x:=λc y r z=>by subst z;rw[r]at mu;exact mu
 have ntup:∀c xs,H c=some (.tup xs)→c≠x:=λc xs r z=>by subst z;rw[r]at mu;exact mu
 by_cases hb:b=x
 ·subst hb;rw[dR]at q;cases q;exact new
 ·rw[dj hb]at q;by_cases hbe:b=e
  ·have q':H b=some (.own x):=by
    rcases he with z|z
    ·exact absurd (hbe.trans z) hb
    ·rw[hbe];exact z
   rw[q]at q';cases q';obtain⟨v,hv⟩:=heo;exact⟨v,by rw[hbe];exact hv⟩
  ·refine(ok b u q).stay (λc v hc r=>k c v ?_ r) (λc r=>by rw[dj (nown c b r)];exact r) λc xs r=>by rw[dj (ntup c xs r)];exact r
   rcases hc with rfl|hc
   ·exact hbe
   ·rintro rfl;rcases he with z|z
    ·exact nown c b hc z
    ·rw[hc]at z;cases z;exact hb rfl
end
structure Un(fs ex:List Addr)(H H':Hp)(h h':Heap):Prop where
 keep:∀b o,h.get? b=some o→H b=none→b∉fs→b∉ex→h'.get? b=some o
 slot:∀b o,h.get? b=some o→H b=none→b∈fs→b∉ex→∃sl,h'.get? b=some {o with slots:=sl}
 free:∀b o,h.get? b=some o→H b=none→b∉ex→H' b=none
 there:∀b o,h.get? b=some o→b∉ex→∃o',h'.get? b=some o'
 tups:∀b xs,H b=some (.tup xs)→H' b=some (.tup xs)
 frzs:∀b o u,H b=some (.frz o u)→H' b=some (.frz o u)
 tbls:∀b ps,H b=some (.tbl ps)→∃more,H' b=some (.tbl (ps++more))
section
variable {fs fs' ex ex':List Addr}{H H1 H2:Hp}{h h1 h2 h':Heap}{a x e:Addr}{o:HO}
theorem Un.any(u:Un fs ex H H1 h h1)(q:h.get? b=some ob)(n:H b=none)(hx:b∉ex):∃sl,h1.get? b=some {ob with slots:=sl}:=by
 by_cases hb:b∈fs
 ·exact u.slot b ob q n hb hx
 ·exact⟨ob.slots,u.keep b ob q n hb hx⟩
theorem Un.kept(k:∀b u,h.get? b=some u→h'.get? b=some u):Un fs ex H H h h':=
 ⟨λb ob q _ _ _=>k b ob q,λb ob q _ _ _=>⟨ob.slots,k b ob q⟩,λ_ _ _ n _=>n,λb ob q _=>⟨ob,k b ob q⟩,λ_ _ q=>q,λ_ _ _ q=>q,λ_ ps q=>⟨#[],by rw[q];simp⟩⟩
theorem Un.refl:Un fs ex H H h h:=Un.kept λ_ _ q=>q
theorem Un.laid(k:∀b u,h.get? b=some u→h'.get? b=some u)(hp:h.objs.size≤a)(hn:H a=none):Un fs ex H (upd H a o) h h' where
 keep:=λb u q _ _ _=>k b u q
 slot:=λb u q _ _ _=>⟨u.slots,k b u q⟩
 free:=λb u q n _=>by rw[dj (aM (aa (Heap.lt_size q) hp))];exact n
 there:=λb u q _=>⟨u,k b u q⟩
 tups:=λb xs q=>by rw[dj (de q hn)];exact q
 frzs:=λb u xs q=>by rw[dj (de q hn)];exact q
 tbls:=λb ps q=>⟨#[],by rw[dj (de q hn),q];simp⟩
theorem Un.write(mu:LN (H x))(he:e=x∨H e=some (.own x))(k:∀b u,b≠e→h.get? b=some u→h'.get? b=some u)(heo:∃u,h'.get? e=some u):Un fs ex H (upd H x o) h h':=by
 have hx:∀b,H b=none→b≠x:=λb n z=>by subst z;rw[n]at mu;exact mu
 have hb:∀b,H b=none→b≠e:=λb n z=>by
  subst z;rcases he with r|r
  ·exact hx b n r
  ·rw[n]at r;cases r
 have hm:∀b u,H b=some u→¬LN (some u)→b≠x:=λb u q nm z=>by subst z;rw[q]at mu;exact nm mu
 refine⟨λb u q n _ _=>k b u (hb b n) q,λb u q n _ _=>⟨u.slots,k b u (hb b n) q⟩,λb u q n _=>by rw[dj (hx b n)];exact n,λb u q _=>?_,
  λb xs q=>by rw[dj (hm b _ q λz=>z)];exact q,λb u xs q=>by rw[dj (hm b _ q λz=>z)];exact q,λb ps q=>⟨#[],by rw[dj (hm b _ q λz=>z),q];simp⟩⟩
 by_cases hbe:b=e
 ·subst hbe;exact heo
 ·exact⟨u,k b u hbe q⟩
end
def LX(h:Heap)(H:Hp):List Addr:=(List.range h.objs.size).filter λa=>(H a).isSome
def tT(h:Heap)(H:Hp):Heap:=PySem.W.hideAll h (LX h H)
theorem zj(h:Heap)(H:Hp):(tT h H).objs.size=h.objs.size:=PySem.W.hideAll_size _ _
theorem CW(e:h.get? b=some o)(n:H b=none):(tT h H).get? b=some o:=
 PySem.W.hideAll_get _ e λhm=>by have q:(H b).isSome=true:=(List.mem_filter.mp hm).2;rw[n]at q;simp at q
theorem Er(e:(tT h H).get? b=some o):h.get? b=some o∧H b=none:=by
 have e':h.get? b=some o:=PySem.W.of_hideAll (LX h H) e;refine⟨e',?_⟩;cases q:H b with
 | none=>rfl
 | some x=>have hm:b∈LX h H:=List.mem_filter.mpr ⟨List.mem_range.mpr (Heap.lt_size e'),by simp[q]⟩;have z:(tT h H).get? b=none:=PySem.W.hideAll_none (LX h H) hm;rw[z]at e;cases e
structure Mod(K:aA)(mg:Str→Option Value)(base:Heap):Prop where
 kin:K.In base
 glob:base.Ns mainGlobals mg
 blt:∃mb,base.Ns builtinsNs mb∧∀x:Str,x≠"__name__"→mb x=bootBuiltins x
 nolimit:base.NoLimit
structure Cx where
 prog:Program
 w:World
 K:aA
 mg:Str→Option Value
 base:Heap
 A:Around
 N:List Str
 s₀:Shared
 H₀:Hp
 env:Env
 outer:List Env
 stack:List Env
 ex:List Addr
 fn:Str→Bool
 calm:Bool
 pn:List (Addr×Obj)
 xe:Value→Shared→Prop
def zn(l:List Env):List Addr:=l.filterMap (·.frame)
abbrev Cx.fs(X:Cx):List Addr:=zn X.outer
def Li(sc:Scope)(x:Str):Prop:=sc.names.lookup x=some .local∨sc.names.lookup x=some .cell∨sc.names.lookup x=some .free
def FG(sc:Scope)(x:Str):Prop:=sc.names.lookup x=some .local∨sc.names.lookup x=some .cell
def NW(env:Env)(h:Heap)(m:Str→Option Value)(x:Str)(u:Value):Prop:=
 (env.kindOf x=some .local∧m x=some u)∨((env.kindOf x=some .cell∨env.kindOf x=some .free)∧∃c,env.cells.lookup x=some c∧h.IsCell c (some u))
structure Cx.Ok(X:Cx):Prop where
 mod:Mod X.K X.mg X.base
 kind:X.env.scope.kind=.function
 glob:X.env.globals=mainGlobals
 blt:X.env.builtins=builtinsNs
 above:X.s₀.heap.objs.size≤X.env.locals
 inj:∀x y c,X.env.cells.lookup x=some c→X.env.cells.lookup y=some c→x=y
 has:∀x,(X.env.kindOf x=some .cell∨X.env.kindOf x=some .free)→∃c,X.env.cells.lookup x=some c
 cab:∀x c,X.fn x=true→X.env.cells.lookup x=some c→X.s₀.heap.objs.size≤c
 hd:X.calm=true→X.A.handled=none
 frames:X.A.frames=some X.stack
 stk:X.stack=X.outer∨(X.stack=X.env::X.outer∧X.env.frame=some X.env.locals)
 exf:∀b∈X.ex,b≠X.env.locals∧∀x c,X.env.cells.lookup x=some c→c≠b
 bs:∀b o,X.base.get? b=some o→X.s₀.heap.get? b=some o∧X.H₀ b=none
 bsz:X.base.objs.size≤X.s₀.heap.objs.size
 noex:∀b o,X.base.get? b=some o→b∉X.ex
 exfs:∀b∈X.ex,b∉X.fs
 funs:X.s₀.heap.FunFrames X.base X.outer
 frf:∀b∈X.fs,X.H₀ b=none
structure eZ(X:Cx)(pins:List (Addr×Obj))(σ:List (Option V))(H:Hp)(s:Shared):Prop where
 ok:X.Ok
 os:s.os=X.s₀.os
 bare:AllBare s.gens
 base:Un X.fs X.ex X.H₀ H X.s₀.heap s.heap
 loc:∃m,s.heap.Ns X.env.locals m∧∀(i:Nat)(x:Str)(v:V),X.N[i]?=some x→σ[i]?=some (some v)→Li X.env.scope x→∃u,fT v u∧NW X.env s.heap m x u
 cell:∀x c,X.env.cells.lookup x=some c→∃v,s.heap.IsCell c v
 free:H X.env.locals=none
 freeC:∀x c,X.env.cells.lookup x=some c→H c=none
 pin:∀p∈X.pn++pins,s.heap.get? p.1=some p.2∧H p.1=none∧p.1≠X.env.locals∧p.1∉X.fs∧∀v,p.2.data≠.cell v
 hok:mq X.prog X.w H s.heap
 len:σ.length=X.N.length
section
variable {X:Cx}{pins:List (Addr×Obj)}{σ:List (Option V)}{H H':Hp}{s:Shared}{h':Heap}
theorem Cx.Ok.nofr(ok:X.Ok)(e:X.base.get? b=some o):b∉X.fs:=λhb=>by have:=(ok.funs.mem hb).1;rw[e]at this;cases this
theorem eZ.bs(I:eZ X pins σ H s):∀b o,X.base.get? b=some o→s.heap.get? b=some o∧H b=none:=λb o e=>
 ⟨I.base.keep b o (I.ok.bs b o e).1 (I.ok.bs b o e).2 (I.ok.nofr e) (I.ok.noex b o e),I.base.free b o (I.ok.bs b o e).1 (I.ok.bs b o e).2 (I.ok.noex b o e)⟩
theorem eZ.bk(I:eZ X pins σ H s):∀b o,X.base.get? b=some o→s.heap.get? b=some o:=λb o e=>(I.bs b o e).1
theorem eZ.mod(I:eZ X pins σ H s):Mod X.K X.mg X.base:=I.ok.mod
theorem eZ.kIn(I:eZ X pins σ H s):X.K.In s.heap:=I.ok.mod.kin.keeps I.bk
theorem eZ.lt(I:eZ X pins σ H s):X.env.locals<s.heap.objs.size:=let ⟨_,hn,_⟩:=I.loc;hn.lt
theorem eZ.sz(I:eZ X pins σ H s):X.s₀.heap.objs.size≤s.heap.objs.size:=aY I.ok.above (bO I.lt)
theorem eZ.nofs(I:eZ X pins σ H s)(h:s.heap.objs.size≤a):a∉X.fs:=λhb=>by obtain⟨_,o,ho,_⟩:=I.ok.funs.mem hb;exact absurd (aa (Heap.lt_size ho) (aY I.sz h)) (bU _)
theorem eZ.cne(I:eZ X pins σ H s):∀x c,X.env.cells.lookup x=some c→c≠X.env.locals:=λx c e z=>by obtain⟨v,o,ho,hd⟩:=I.cell x c e;obtain⟨m,⟨o',es,ep,ho',hd',_⟩,_⟩:=I.loc;rw[z,ho']at ho;cases ho;rw[hd']at hd;cases hd
theorem eZ.funs(I:eZ X pins σ H s):s.heap.FunFrames X.base X.outer:=by
 have all:∀(l:List Env),(∀b∈zn l,b∈X.fs)→X.s₀.heap.FunFrames X.base l→s.heap.FunFrames X.base l:=by
  intro l;induction l with
  | nil=>intro _ _;trivial
  | cons env r ih=>intro hs hl;obtain⟨hk,⟨L,o,hf,hn,ho,hd⟩,hr⟩:=hl;have hL:L∈X.fs:=hs L (by unfold zn;rw[cO,hf];exact bY);obtain⟨sl,e⟩:=I.base.slot L o ho (I.ok.frf L hL) hL λz=>I.ok.exfs L z hL;exact⟨hk,⟨L,_,hf,hn,e,hd⟩,ih (λb hb=>hs b (by unfold zn;rw[cO,hf];exact bC _ hb)) hr⟩
 exact all X.outer (λ_ hb=>hb) I.ok.funs
theorem eZ.stack(I:eZ X pins σ H s):s.heap.FunFrames X.base X.stack:=by
 rcases I.ok.stk with e|⟨e,hf⟩
 ·rw[e];exact I.funs
 ·rw[e];obtain⟨m,hn,_⟩:=I.loc;refine .cons (by rw[I.ok.kind];decide) hf hn ?_ I.funs;exact Heap.get?_none_of_le (aY I.ok.bsz I.ok.above)
theorem eZ.stkSub(I:eZ X pins σ H s):∀b∈zn X.stack,b∈X.env.locals::X.fs:=λb hb=>by
 rcases I.ok.stk with e|⟨e,hf⟩
 ·rw[e]at hb;exact bC _ hb
 ·rw[e]at hb;unfold zn at hb;rw[cO,hf]at hb;exact hb
theorem eZ.stkFree(I:eZ X pins σ H s):∀b∈zn X.stack,H b=none:=λb hb=>by
 rcases aB.mp (I.stkSub b hb)with e|hb
 ·rw[e];exact I.free
 ·obtain⟨_,o,ho,_⟩:=I.ok.funs.mem hb;exact I.base.free b o ho (I.ok.frf b hb) λz=>I.ok.exfs b z hb
theorem eZ.step{g':Array GenState}{t':Nat}{d':Drawn}{ch:List Addr}(I:eZ X pins σ H s)
  (hch:∀b∈ch,(b∈X.ex∨X.s₀.heap.objs.size≤b)∧b≠X.env.locals∧(∀x c,X.env.cells.lookup x=some c→c≠b)∧∀p∈X.pn++pins,p.1≠b)
  (keep:∀b o,b≠X.env.locals→b∉X.fs→b∉ch→s.heap.get? b=some o→H b=none→h'.get? b=some o)
  (slot:∀b o,b≠X.env.locals→b∈X.fs→b∉ch→s.heap.get? b=some o→H b=none→∃sl,h'.get? b=some {o with slots:=sl}) (free:∀b o,b∉ch→s.heap.get? b=some o→H b=none→H' b=none)
  (there:∀b o,b∉ch→s.heap.get? b=some o→∃o',h'.get? b=some o')
  (tups:∀b xs,H b=some (.tup xs)→H' b=some (.tup xs)) (frzs:∀b o u,H b=some (.frz o u)→H' b=some (.frz o u)) (tbls:∀b ps,H b=some (.tbl ps)→∃more,H' b=some (.tbl (ps++more)))
  (ns:∀m,s.heap.Ns X.env.locals m→h'.Ns X.env.locals m) (hok:mq X.prog X.w H' h') (hg:AllBare g'):
  eZ X pins σ H' {s with heap:=h',gens:=g',drawn:=d',toks:=t'}:=by
 have neL:∀b o,X.s₀.heap.get? b=some o→b≠X.env.locals:=λb o e=>aM (aa (Heap.lt_size e) I.ok.above);have neC:∀b o,X.s₀.heap.get? b=some o→b∉X.ex→b∉ch:=λb o e hx hb=>by
  rcases(hch b hb).1 with z|z
  ·exact hx z
  ·exact absurd (aa (Heap.lt_size e) z) (bU _)
 have cellK:∀x c,X.env.cells.lookup x=some c→∀v,s.heap.IsCell c v→h'.IsCell c v:=λx c e v ⟨o,ho,hd⟩=>by
  have nch:c∉ch:=λz=>(hch c z).2.2.1 x c e rfl;by_cases hc:c∈X.fs
  ·obtain⟨sl,q⟩:=slot c o (I.cne x c e) hc nch ho (I.freeC x c e);exact⟨_,q,hd⟩
  ·exact⟨o,keep c o (I.cne x c e) hc nch ho (I.freeC x c e),hd⟩
 refine⟨I.ok,I.os,hg,⟨λb o e n hb hx=>?_,λb o e n hb hx=>?_,λb o e n hx=>?_,λb o e hx=>?_,λb xs e=>tups b xs (I.base.tups b xs e),λb o xs e=>frzs b o xs (I.base.frzs b o xs e),λb ps e=>?_⟩,?_,λx c e=>?_,?_,λx c e=>?_,λp hp=>?_,hok,I.len⟩
 ·exact keep b o (neL b o e) hb (neC b o e hx) (I.base.keep b o e n hb hx) (I.base.free b o e n hx)
 ·obtain⟨sl,e1⟩:=I.base.slot b o e n hb hx;obtain⟨sl',e2⟩:=slot b _ (neL b o e) hb (neC b o e hx) e1 (I.base.free b o e n hx);exact⟨sl',e2⟩
 ·obtain⟨o',e1⟩:=I.base.there b o e hx;exact free b o' (neC b o e hx) e1 (I.base.free b o e n hx)
 ·obtain⟨o',e1⟩:=I.base.there b o e hx;exact there b o' (neC b o e hx) e1
 ·obtain⟨m1,e1⟩:=I.base.tbls b ps e;obtain⟨m2,e2⟩:=tbls b _ e1;exact⟨m1++m2,by rw[e2,Array.append_assoc]⟩
 ·obtain⟨m,hn,hl⟩:=I.loc;refine⟨m,ns m hn,λi x v e1 e2 e3=>?_⟩;obtain⟨u,r,l⟩:=hl i x v e1 e2 e3;refine⟨u,r,?_⟩;rcases l with l|⟨k,c,e,z⟩
  ·exact .inl l
  ·exact .inr ⟨k,c,e,cellK x c e _ z⟩
 ·obtain⟨v,z⟩:=I.cell x c e;exact⟨v,cellK x c e v z⟩
 ·obtain⟨m,⟨o,_,_,ho,_⟩,_⟩:=I.loc;exact free _ o (λz=>(hch _ z).2.1 rfl) ho I.free
 ·obtain⟨v,o,ho,hd⟩:=I.cell x c e;exact free c o (λz=>(hch c z).2.2.1 x c e rfl) ho (I.freeC x c e)
 ·obtain⟨e,n,ne,nf,d⟩:=I.pin p hp;have nch:p.1∉ch:=λz=>(hch p.1 z).2.2.2 p hp rfl;exact⟨keep p.1 p.2 ne nf nch e n,free p.1 p.2 nch e n,ne,nf,d⟩
theorem eZ.un{t':Nat}(I:eZ X pins σ H s)(u:Un X.fs [] H H' s.heap h')(hok:mq X.prog X.w H' h'):eZ X pins σ H' {s with heap:=h',toks:=t'}:=by
 obtain⟨m,⟨o,es,ep,ho,r⟩,_⟩:=id I.loc;obtain⟨sl,hL⟩:=u.any ho I.free (by simp);exact I.step (g':=s.gens) (d':=s.drawn) (ch:=[]) (λ_ z=>nomatch z) (λb o _ hb _ e n=>u.keep b o e n hb (by simp)) (λb o _ hb _ e n=>u.slot b o e n hb (by simp)) (λb o _ e n=>u.free b o e n (by simp)) (λb o _ e=>u.there b o e (by simp)) u.tups u.frzs u.tbls (λm' hm=>by
  obtain⟨o',es',ep',ho',r'⟩:=hm;rw[ho]at ho';cases ho';exact⟨_,es',ep',hL,r'⟩) hok I.bare
theorem eZ.call{g':Array GenState}{t':Nat}{d':Drawn}{ch:List Addr}(I:eZ X pins σ H s)(u:Un (zn X.stack) ch H H' s.heap h')(hok:mq X.prog X.w H' h')(hg:AllBare g')
  (hch:∀b∈ch,(b∈X.ex∨X.s₀.heap.objs.size≤b)∧b≠X.env.locals∧(∀x c,X.env.cells.lookup x=some c→c≠b)∧∀p∈X.pn++pins,p.1≠b):
  eZ X pins σ H' {s with heap:=h',gens:=g',drawn:=d',toks:=t'}:=by
 obtain⟨m,⟨o,es,ep,ho,r⟩,_⟩:=id I.loc;obtain⟨sl,hL⟩:=u.any ho I.free λz=>(hch _ z).2.1 rfl;exact I.step (ch:=ch) hch (λb o hL hb hc e n=>u.keep b o e n (λz=>(aB.mp (I.stkSub b z)).elim hL hb) hc) (λb o _ _ hc e n=>u.any e n hc) (λb o hc e n=>u.free b o e n hc) (λb o hc e=>u.there b o e hc) u.tups u.frzs u.tbls (λm' hm=>by
  obtain⟨o',es',ep',ho',r'⟩:=hm;rw[ho]at ho';cases ho';exact⟨_,es',ep',hL,r'⟩) hok hg
theorem eZ.turned{t':Nat}{it:Addr}(I:eZ X pins σ H s)(k:∀b o,b≠it→s.heap.get? b=some o→h'.get? b=some o)(hn:H it=none)(hL:it≠X.env.locals)
  (h1:it∈X.ex∨X.s₀.heap.objs.size≤it) (h2:∀x c,X.env.cells.lookup x=some c→c≠it) (h3:∀p∈X.pn++pins,p.1≠it):eZ X pins σ H {s with heap:=h',toks:=t'}:=by
 have nit:∀b u,H b=some u→b≠it:=λb u e z=>by rw[z,hn]at e;cases e
 refine I.step (g':=s.gens) (d':=s.drawn) (ch:=[it]) (λb hb=>?_) (λb o _ _ hc e _=>k b o (λz=>hc (by simp[z])) e) (λb o _ _ hc e _=>⟨o.slots,k b o (λz=>hc (by simp[z])) e⟩) (λ_ _ _ _ n=>n)
  (λb o hc e=>⟨o,k b o (λz=>hc (by simp[z])) e⟩) (λ_ _ e=>e) (λ_ _ _ e=>e) (λb ps e=>⟨#[],by rw[e];simp⟩) (λm hm=>?_) (λb u e=>?_) I.bare
 ·have e:b=it:=by simpa using hb
  subst e;exact⟨h1,hL,h2,h3⟩
 ·obtain⟨o,es,ep,ho,r⟩:=hm;exact⟨o,es,ep,k _ o (af hL) ho,r⟩
 ·refine(I.hok b u e).stay (λc v hc q=>k c v ?_ q) (λ_ q=>q) λ_ _ q=>q;rcases hc with z|z
  ·rw[z];exact nit b u e
  ·exact nit c _ z
theorem eZ.tok(I:eZ X pins σ H s)(t:Nat):eZ X pins σ H {s with toks:=t}:=I.un (h':=s.heap) (t':=t) Un.refl I.hok
theorem eZ.kept(I:eZ X pins σ H s)(k:∀b u,s.heap.get? b=some u→h'.get? b=some u):eZ X pins σ H {s with heap:=h',toks:=t'}:=I.un (Un.kept k) (I.hok.kept k)
theorem eZ.laid(I:eZ X pins σ H s)(k:∀b u,s.heap.get? b=some u→h'.get? b=some u)(hp:s.heap.objs.size≤a)(new:gf X.prog X.w (upd H a o) h' a o):
  eZ X pins σ (upd H a o) {s with heap:=h',toks:=t'}:=I.un (Un.laid k hp (I.hok.fresh hp)) (I.hok.laid k hp new)
theorem eZ.write(I:eZ X pins σ H s)(mu:LN (H x))(he:e=x∨H e=some (.own x))(k:∀b u,b≠e→s.heap.get? b=some u→h'.get? b=some u)(heo:∃u,h'.get? e=some u)
  (new:gf X.prog X.w (upd H x o) h' x o):eZ X pins σ (upd H x o) {s with heap:=h',toks:=t'}:=I.un (Un.write mu he k heo) (I.hok.write mu he k heo new)
theorem eZ.pins_of(I:eZ X pins σ H s)(h:∀p∈pins',s.heap.get? p.1=some p.2∧H p.1=none∧p.1≠X.env.locals∧p.1∉X.fs∧∀v,p.2.data≠.cell v):eZ X pins' σ H s:=
 ⟨I.ok,I.os,I.bare,I.base,I.loc,I.cell,I.free,I.freeC,λp hp=>(aW.mp hp).elim (λz=>I.pin p (ag _ z)) (h p),I.hok,I.len⟩
theorem uu{N:List Str}(hN:N.Nodup){i j:Nat}{x:Str}(a:N[i]?=some x)(b:N[j]?=some x):i=j:=by obtain⟨h1,e1⟩:=aN.mp a;obtain⟨h2,e2⟩:=aN.mp b;exact(List.getElem_inj hN).mp (e1.trans e2.symm)
theorem rC{M:Model}{A:Around}{E:Value→Shared→Prop}{i:Nat}{x:Str}{v:V}{u:Value}{Q:Unit→Shared→Prop}(I:eZ X pins σ H s)(hN:X.N.Nodup)(hi:X.N[i]?=some x)(hx:FG X.env.scope x)(r:fT v u)
  (h:∀s',eZ X pins (σ.set i (some v)) H s'→(∃a,Heap.SameBut a s.heap s'.heap∧(a=X.env.locals∨X.env.cells.lookup x=some a))→Q () s') (hf:X.fn x=true∨X.env.scope.names.lookup x=some .local:=by first|exact .inl rfl|exact .inr rfl|assumption):wpAny M A (storeName X.env x u) Q E s:=by
 obtain⟨m,hn,hl⟩:=id I.loc;have hcls:(X.env.scope.kind==.class||(X.env.scope.kind==.module&&X.env.locals != X.env.globals))=false:=by rw[I.ok.kind];rfl
 have hiσ:i<σ.length:=by rw[I.len];exact(aN.mp hi).1
 have cne:=I.cne;have tracked:∀{a:Addr}{h':Heap},(∃o,s.heap.get? a=some o∧H a=none)→Heap.SameBut a s.heap h'→mq X.prog X.w H h':=λ{a h'} ha hs b ob e=>by
  obtain⟨_,_,hfree⟩:=ha;refine(I.hok b ob e).stay (λc w' hc q=>(hs.2 c ?_).trans q) (λ_ q=>q) λ_ _ q=>q;rintro rfl;rcases hc with rfl|hc
  ·rw[hfree]at e;cases e
  ·rw[hfree]at hc;cases hc
 rcases hx with hk|hk
 ·refine wpAny_storeName_local hk hn (λh' hn' hs=>?_) hcls;obtain⟨oL,_,_,hoL,_⟩:=id hn;refine h _ ⟨I.ok,I.os,I.bare,⟨λb o e n hb hx=>?_,λb o e n hb hx=>?_,I.base.free,λb o e hx=>?_,I.base.tups,I.base.frzs,I.base.tbls⟩,⟨_,hn',λj y v' e1 e2 e3=>?_⟩,λy c e=>?_,I.free,I.freeC,λp hp=>?_,tracked ⟨oL,hoL,I.free⟩ hs,by simpa using I.len⟩ ⟨_,hs,.inl rfl⟩
  ·exact(hs.2 b (aM (aa (Heap.lt_size e) I.ok.above))).trans (I.base.keep b o e n hb hx)
  ·obtain⟨sl,e1⟩:=I.base.slot b o e n hb hx;exact⟨sl,(hs.2 b (aM (aa (Heap.lt_size e) I.ok.above))).trans e1⟩
  ·obtain⟨o',e1⟩:=I.base.there b o e hx;exact⟨o',(hs.2 b (aM (aa (Heap.lt_size e) I.ok.above))).trans e1⟩
  ·by_cases hj:j=i
   ·subst hj;rw[hi]at e1;cases e1;rw[cs hiσ]at e2;cases e2;exact⟨u,r,.inl ⟨hk,by simp⟩⟩
   ·rw[cA (af hj)]at e2;obtain⟨u',r',q⟩:=hl j y v' e1 e2 e3;refine⟨u',r',?_⟩;rcases q with⟨k,e⟩|⟨k,c,e,z⟩
    ·refine .inl ⟨k,?_⟩;have:y≠x:=λe=>hj (uu hN e1 (e▸hi));simp[this,e]
    ·exact .inr ⟨k,c,e,z.sameBut hs (cne y c e)⟩
  ·obtain⟨w',z⟩:=I.cell y c e;exact⟨w',z.sameBut hs (cne y c e)⟩
  ·obtain⟨e,n,ne,nf,d⟩:=I.pin p hp;exact⟨(hs.2 p.1 ne).trans e,n,ne,nf,d⟩
 ·have hfn:X.fn x=true:=by
   rcases hf with z|z
   ·exact z
   ·rw[z]at hk;cases hk
  obtain⟨c,hc⟩:=I.ok.has x (.inl hk);obtain⟨w',z⟩:=I.cell x c hc;refine wpAny_storeName_cell I.ok.kind hk hc z (λh' hc' hs=>?_);obtain⟨oc,hoc,hocd⟩:=id z;refine h {s with heap:=h'} ⟨I.ok,I.os,I.bare,⟨λb o e n hb hx=>?_,λb o e n hb hx=>?_,I.base.free,λb o e hx=>?_,I.base.tups,I.base.frzs,I.base.tbls⟩,⟨m,hn.sameBut hs (af (cne x c hc)),λj y v' e1 e2 e3=>?_⟩,λy c' e=>?_,I.free,I.freeC,λp hp=>?_,tracked ⟨oc,hoc,I.freeC x c hc⟩ hs,by simpa using I.len⟩ ⟨c,hs,.inr hc⟩
  ·exact(hs.2 b (aM (aa (Heap.lt_size e) (I.ok.cab x c hfn hc)))).trans (I.base.keep b o e n hb hx)
  ·obtain⟨sl,e1⟩:=I.base.slot b o e n hb hx;exact⟨sl,(hs.2 b (aM (aa (Heap.lt_size e) (I.ok.cab x c hfn hc)))).trans e1⟩
  ·obtain⟨o',e1⟩:=I.base.there b o e hx;exact⟨o',(hs.2 b (aM (aa (Heap.lt_size e) (I.ok.cab x c hfn hc)))).trans e1⟩
  ·by_cases hj:j=i
   ·subst hj;rw[hi]at e1;cases e1;rw[cs hiσ]at e2;cases e2;exact⟨u,r,.inr ⟨.inl hk,c,hc,hc'⟩⟩
   ·rw[cA (af hj)]at e2;obtain⟨u',r',q⟩:=hl j y v' e1 e2 e3;refine⟨u',r',?_⟩;rcases q with q|⟨k,c',e,z'⟩
    ·exact .inl q
    ·refine .inr ⟨k,c',e,z'.sameBut hs ?_⟩;rintro rfl;exact hj (uu hN e1 (I.ok.inj _ _ _ e hc▸hi))
  ·by_cases hcc:c'=c
   ·subst hcc;exact⟨_,hc'⟩
   ·obtain⟨w2,z2⟩:=I.cell y c' e;exact⟨w2,z2.sameBut hs hcc⟩
  ·obtain⟨e,n,ne,nf,d⟩:=I.pin p hp;refine⟨(hs.2 p.1 ?_).trans e,n,ne,nf,d⟩;intro q;rw[q,hoc]at e;have q':oc=p.2:=Option.some.inj e;exact d w' (by rw[←q'];exact hocd)
theorem ud(I:eZ X pins σ H s)(hN:X.N.Nodup)(hi:X.N[i]?=some x)(hx:FG X.env.scope x)(r:fT v u)
  (h:∀s',eZ X pins (σ.set i (some v)) H s'→Q () s') (hf:X.fn x=true∨X.env.scope.names.lookup x=some .local:=by first|exact .inl rfl|exact .inr rfl|assumption):wpAny M A (storeName X.env x u) Q E s:=
 rC I hN hi hx r (λs' I' _=>h s' I') hf
theorem eZ.call'(I:eZ X pins σ H s)(ho:s'.os=s.os)(u:Un (zn X.stack) ch H H' s.heap s'.heap)(hok:mq X.prog X.w H' s'.heap)(hg:AllBare s'.gens)
  (hch:∀b∈ch,(b∈X.ex∨X.s₀.heap.objs.size≤b)∧b≠X.env.locals∧(∀x c,X.env.cells.lookup x=some c→c≠b)∧∀p∈X.pn++pins,p.1≠b):eZ X pins σ H' s':=by
 obtain⟨h',g',d',t',o'⟩:=s';have e:o'=s.os:=ho;subst e;exact I.call (g':=g') (t':=t') (d':=d') u hok hg hch
end
abbrev XK:=Value→Option Addr→Hp→Prop
abbrev St:=List (Option V)
abbrev VK:=V→Hp→Prop
abbrev TE:=St→Hp→VK→Prop
abbrev TT:=St→Hp→(Bool→Hp→Prop)→Prop
abbrev TA:=St→Hp→(List V→Hp→Prop)→Prop
structure iN where
 nx:St→Hp→Prop
 rt:VK
 bk:St→Hp→Prop:=λ_ _=>False
 ct:St→Hp→Prop:=λ_ _=>False
abbrev TS:=iN→St→Hp→Prop
def iN.thn(D:iN)(u:TS):iN:={D with nx:=u D}
def iN.lp(D:iN)(N:St→Hp→Prop):iN:=⟨N,D.rt,D.nx,N⟩
def EP(X:Cx)(pins:List (Addr×Obj))(σ:St)(Q:VK)(u:Value)(s':Shared):Prop:=∃v H',eZ X pins σ H' s'∧fT v u∧Q v H'
def TP(X:Cx)(pins:List (Addr×Obj))(σ:St)(Q:Bool→Hp→Prop)(b:Bool)(s':Shared):Prop:=∃H',eZ X pins σ H' s'∧Q b H'
def AP(X:Cx)(pins:List (Addr×Obj))(σ:St)(Q:List V→Hp→Prop)(us:List Value)(s':Shared):Prop:=∃vs H',eZ X pins σ H' s'∧fL vs us∧Q vs H'
def SP(X:Cx)(pins:List (Addr×Obj))(D:iN)(f:Flow)(s':Shared):Prop:=
 match f with
 | .next=>∃σ' H',eZ X pins σ' H' s'∧D.nx σ' H'
 | .brk=>∃σ' H',eZ X pins σ' H' s'∧D.bk σ' H'
 | .cont=>∃σ' H',eZ X pins σ' H' s'∧D.ct σ' H'
 | .ret u=>∃v σ' H',eZ X pins σ' H' s'∧fT v u∧D.rt v H'
def PE(X:Cx)(e:Expr)(t:TE):Prop:=
 ∀(pins:List (Addr×Obj))(s:Shared)(σ:St)(H:Hp)(Q:VK),eZ X pins σ H s→t σ H Q→wpAny (model X.prog X.w) X.A (eval e X.env) (EP X pins σ Q) X.xe s
def PT(X:Cx)(e:Expr)(t:TT):Prop:=
 ∀(pins:List (Addr×Obj))(s:Shared)(σ:St)(H:Hp)(Q:Bool→Hp→Prop),eZ X pins σ H s→t σ H Q→wpAny (model X.prog X.w) X.A (isTrue e X.env (eval e X.env)) (TP X pins σ Q) X.xe s
def PW(X:Cx)(e:Expr)(t:TT):Prop:=
 ∀(whole:Sem Value)(pins:List (Addr×Obj))(s:Shared)(σ:St)(H:Hp)(Q:Bool→Hp→Prop),eZ X pins σ H s→t σ H Q→wpAny (model X.prog X.w) X.A (isTrue e X.env whole) (TP X pins σ Q) X.xe s
theorem PW.pt(h:PW X e t):PT X e t:=h _
def PA(X:Cx)(es:List Expr)(t:TA):Prop:=
 ∀(pos:Pos)(pins:List (Addr×Obj))(s:Shared)(σ:St)(H:Hp)(Q:List V→Hp→Prop),eZ X pins σ H s→t σ H Q→wpAny (model X.prog X.w) X.A (spliced (backTo pos (starEach es X.env))) (AP X pins σ Q) X.xe s
def PS(X:Cx)(st:Stmt)(t:TS):Prop:=
 ∀(pins:List (Addr×Obj))(s:Shared)(σ:St)(H:Hp)(D:iN),eZ X pins σ H s→t D σ H→wpAny (model X.prog X.w) X.A (exec st X.env) (SP X pins D) X.xe s
def uH(X:Cx)(st:List Stmt)(t:TS):Prop:=
 ∀(pins:List (Addr×Obj))(s:Shared)(σ:St)(H:Hp)(D:iN),eZ X pins σ H s→t D σ H→wpAny (model X.prog X.w) X.A (execs st X.env) (SP X pins D) X.xe s
theorem thn(h:wpAny M A t Q E s)(hQ:∀a s,Q a s→Q' a s):wpAny M A t Q' E s:=wpAny_mono h hQ λ_ _ x=>x
section
variable {X:Cx}
def k6(H:Hp)(o:HO)(Q:VK):Prop:=∀p,H p=none→Q (.ref p) (upd H p o)
@[reducible] def nmQ:Option (Option V)→(V→Prop)→Prop
 | some (some v),k=>k v
 | _,_=>False
theorem nmQ.ex(h:nmQ o k):∃v,o=some (some v)∧k v:=by
 match o,h with
 | some (some v),h=>exact⟨v,rfl,h⟩
theorem nmQ.of(h:o=some (some v))(q:k v):nmQ o k:=by subst h;exact q
@[reducible] def onI:V→(Int→Prop)→Prop
 | .int c,k=>k c
 | _,_=>False
theorem onI.ex(h:onI x k):∃c,x=.int c∧k c:=by cases x<;>first|exact⟨_,rfl,h⟩|exact h.elim
@[reducible] def onR:V→(Addr→Prop)→Prop
 | .ref c,k=>k c
 | _,_=>False
theorem onR.ex(h:onR x k):∃c,x=.ref c∧k c:=by cases x<;>first|exact⟨_,rfl,h⟩|exact h.elim
@[reducible] def onS:V→(Str→Prop)→Prop
 | .str c,k=>k c
 | _,_=>False
theorem onS.ex(h:onS x k):∃c,x=.str c∧k c:=by cases x<;>first|exact⟨_,rfl,h⟩|exact h.elim
@[reducible] def onY:V→(String→Prop)→Prop
 | .ty c,k=>k c
 | _,_=>False
theorem onY.ex(h:onY x k):∃c,x=.ty c∧k c:=by cases x<;>first|exact⟨_,rfl,h⟩|exact h.elim
@[reducible] def on1:List V→(V→Prop)→Prop
 | [x],k=>k x
 | _,_=>False
theorem on1.ex:∀{vs:List V},on1 vs k→∃x,vs=[x]∧k x
 | [_],h=>⟨_,rfl,h⟩
 | [],h=>h.elim
 | _::_::_,h=>h.elim
@[reducible] def on0:List V→Prop→Prop
 | [],k=>k
 | _,_=>False
theorem on0.ex:∀{vs:List V},on0 vs k→vs=[]∧k
 | [],h=>⟨rfl,h⟩
 | _::_,h=>h.elim
@[reducible] def onC{α:Type}:List α→(α→List α→Prop)→Prop
 | x::r,k=>k x r
 | _,_=>False
theorem onC.ex{α:Type}{k:α→List α→Prop}:∀{vs:List α},onC vs k→∃x r,vs=x::r∧k x r
 | _::_,h=>⟨_,_,rfl,h⟩
 | [],h=>h.elim
inductive lP{α:Type}(S:α→Prop)(k:α→Prop):Prop
 | mk{a:α}(h:S a)(q:k a):lP S k
def dQ(i:Nat):TE:=λσ H Q=>nmQ σ[i]? λv=>Q v H
def tC(v:V):TE:=λ_ H Q=>Q v H
theorem Bu(hN:X.N[i]?=some x)(hv:Li X.env.scope x)(hd:(x==("__debug__":Str))=false:=by decide)(hcd:(x==("__classdict__":Str))=false:=by decide):PE X (.Name x pos) (dQ i):=by
 intro pins s σ H Q I h;obtain⟨v,e,h⟩:=nmQ.ex h;obtain⟨m,hn,hl⟩:=I.loc;obtain⟨u,r,l⟩:=hl i x v hN e hv;have gr:EP X pins σ Q u s:=⟨v,H,I,r,h⟩;rcases l with⟨hk,hm⟩|⟨hk,c,hc,hcell⟩
 ·exact wpAny_Name (wpAny_loadName_local I.ok.kind hk hn hm gr) hd
 ·rcases hk with hk|hk
  ·exact wpAny_Name (wpAny_loadName_cell I.ok.kind hk hc hcell gr) hd
  ·exact wpAny_Name (wpAny_loadName_free I.ok.kind hk hc hcell gr hcd) hd
theorem dU:PE X (.Constant (.int i) j pos) (tC (.int i)):=λ_ _ _ H _ I h=>wpAny_Constant_int ⟨.int i,H,I.tok _,⟨_,rfl⟩,h⟩
theorem hU:PE X (.Constant (.bool b) j pos) (tC (.bl b)):=λ_ _ _ H _ I h=>Constant_bool ⟨.bl b,H,I,rfl,h⟩
theorem wO:PE X (.Constant .none j pos) (tC .non):=λ_ _ _ H _ I h=>Constant_none ⟨.non,H,I,rfl,h⟩
theorem eB:PE X (.Constant (.str x) j pos) (tC (.str x)):=λ_ _ _ H _ I h=>Calls.Constant_str ⟨.str x,H,I.tok _,⟨_,rfl⟩,h⟩
def Gl(X:Cx)(x:Str):Prop:=X.env.kindOf x=some .globalImplicit
theorem tP(I:eZ X pins σ H s)(hg:Gl X x)(hm:X.mg x=some u)(h:Q u s)
  (hd:(x==("__debug__":Str))=false:=by decide):wpAny (model X.prog X.w) X.A (eval (.Name x pos) X.env) Q E s:=
 Calls.Name_function_global I.ok.kind hg (Calls.loadGlobal_global (by rw[I.ok.glob];exact I.mod.glob.keeps I.bk) hm h) hd
theorem kO(I:eZ X pins σ H s)(hg:Gl X x)(hm:X.mg x=none)(hv:bootBuiltins x=some u)(h:Q u s)
  (hn:x≠"__name__":=by decide) (hd:(x==("__debug__":Str))=false:=by decide):wpAny (model X.prog X.w) X.A (eval (.Name x pos) X.env) Q E s:=by
 obtain⟨mb,h1,h2⟩:=I.mod.blt;exact Calls.Name_function_global I.ok.kind hg (Calls.loadGlobal_builtin (by rw[I.ok.glob];exact I.mod.glob.keeps I.bk) hm (by rw[I.ok.blt];exact h1.keeps I.bk) ((h2 x hn).trans hv) h) hd
theorem mE(hg:Gl X x)(hm:X.mg x=some u)(r:fT v u)(hd:(x==("__debug__":Str))=false:=by decide):PE X (.Name x pos) (tC v):=
 λ_ _ _ H _ I h=>tP I hg hm ⟨v,H,I,r,h⟩ hd
theorem jE(hg:Gl X x)(hm:X.mg x=none)(hv:bootBuiltins x=some u)(r:fT v u)(hn:x≠"__name__":=by decide)(hd:(x==("__debug__":Str))=false:=by decide):PE X (.Name x pos) (tC v):=
 λ_ _ _ H _ I h=>kO I hg hm hv ⟨v,H,I,r,h⟩ hn hd
variable {a b:Expr}{ta tb:TE}{pos:Pos}
def PC(X:Cx)(op:CmpOp)(a b:Expr)(t:TE):Prop:=
 ∀(pins:List (Addr×Obj))(s:Shared)(σ:St)(H:Hp)(Q:VK),eZ X pins σ H s→t σ H Q→
  wpAny (model X.prog X.w) X.A (eval a X.env) (λv s₁=>wpAny (model X.prog X.w) X.A (eval b X.env) (λu s₂=>wpAny (model X.prog X.w) X.A (compareOp op v u) (EP X pins σ Q) X.xe s₂) X.xe s₁) X.xe s
def tB(t:TE):TT:=λσ H Q=>t σ H λx H1=>∃c,x=.bl c∧Q c H1
theorem mZ(h:PC X op a b t)(h1:behindInMarks op b=false:=by first|exact nobehind _ (by decide) (by decide)|rfl):PT X (.Compare a [op] [b] pos) (tB t):=by intro pins s σ H Q I hw;refine wpAny_isTrue_Compare1 (thn (h pins s σ H _ I hw) λv s1 h1=>thn h1 λu s2 h2=>thn h2 λc s3 ⟨x,H1,I1,r1,q1⟩=>?_) h1;obtain⟨d,rfl,q⟩:=q1;cases r1;exact wpAny_truthy_bool ⟨H1,I1,q⟩
theorem ib(h:PE X e t)(he:∀whole,isTrue e X.env whole=(do let v ← whole;standAt e.pos;holding [v] (truthy v)):=by intro _;rfl):PT X e (tB t):=by intro pins s σ H Q I hw;refine isTrue_plain (thn (h pins s σ H _ I hw) λv s1 ⟨x,H1,I1,r1,q1⟩=>?_) (he _);obtain⟨d,rfl,q⟩:=q1;cases r1;exact wpAny_truthy_bool ⟨H1,I1,q⟩
variable {tA tB':TT}{rest:List Expr}
def kU(t u:TT):TT:=λσ H Q=>t σ H λc H1=>if c=true then u σ H1 Q else Q false H1
def xi(t u:TT):TT:=λσ H Q=>t σ H λc H1=>if c=true then Q true H1 else u σ H1 Q
def mU(t:TT):TT:=λσ H Q=>t σ H λc H1=>Q (!c) H1
theorem gv(ha:PT X a tA):PW X (.BoolOp .And [a] pos) tA:=by
 intro wh pins s σ H Q I h;refine isTrue_and (thn (ha pins s σ H Q I h) λc s1 e=>?_);cases c with
 | true=>exact isTrue_and_nil e
 | false=>exact e
theorem kx(ha:PT X a tA):PW X (.BoolOp .Or [a] pos) tA:=by
 intro wh pins s σ H Q I h;refine isTrue_or (thn (ha pins s σ H Q I h) λc s1 e=>?_);cases c with
 | false=>exact isTrue_or_nil e
 | true=>exact e
theorem iL(ha:PT X a tA)(hb:PW X (.BoolOp .And (b::rest) pos) tB'):PW X (.BoolOp .And (a::b::rest) pos) (kU tA tB'):=by
 intro wh pins s σ H Q I h;refine isTrue_and (thn (ha pins s σ H _ I h) λc s1 ⟨H1,I1,q1⟩=>?_);cases c with
 | true=>exact hb wh pins s1 σ H1 Q I1 q1
 | false=>exact⟨H1,I1,q1⟩
theorem ka(ha:PT X a tA)(hb:PW X (.BoolOp .Or (b::rest) pos) tB'):PW X (.BoolOp .Or (a::b::rest) pos) (xi tA tB'):=by
 intro wh pins s σ H Q I h;refine isTrue_or (thn (ha pins s σ H _ I h) λc s1 ⟨H1,I1,q1⟩=>?_);cases c with
 | true=>exact⟨H1,I1,q1⟩
 | false=>exact hb wh pins s1 σ H1 Q I1 q1
theorem jC(ha:PT X a tA):PT X (.UnaryOp .Not a pos) (mU tA):=by intro pins s σ H Q I h;exact isTrue_not (ha pins s σ H (λc H1=>Q (!c) H1) I h)
def FQ(ta tb:TE):TE:=λσ H Q=>ta σ H λx H1=>∃c,x=.bl c∧if c=true then tb σ H1 Q else Q (.bl false) H1
def FP(ta:TE):TE:=λσ H Q=>ta σ H λx H1=>∃c,x=.bl c∧Q (.bl (!c)) H1
theorem IW(h:PE X a t):PE X (.BoolOp op [a] pos) t:=λpins s σ H Q I hw=>BoolOp_one (h pins s σ H Q I hw)
theorem IZ(ha:PE X a ta)(hb:PE X (.BoolOp .And (b::rest) pos) tb):PE X (.BoolOp .And (a::b::rest) pos) (FQ ta tb):=by
 intro pins s σ H Q I h;refine BoolOp_and (thn (ha pins s σ H _ I h) λv s1 ⟨x,H1,I1,r1,q1⟩=>?_);obtain⟨c,rfl,q1⟩:=q1;cases r1;refine wpAny_truthy_bool ?_;cases c with
 | true=>exact hb pins s1 σ H1 Q I1 q1
 | false=>exact⟨.bl false,H1,I1,rfl,q1⟩
theorem IX(ha:PE X a ta):PE X (.UnaryOp .Not a pos) (FP ta):=by intro pins s σ H Q I h;refine UnaryOp_ (thn (ha pins s σ H _ I h) λv s1 ⟨x,H1,I1,r1,q1⟩=>?_);obtain⟨c,rfl,q1⟩:=q1;cases r1;exact not_of (wpAny_truthy_bool ⟨.bl (!c),H1,I1,rfl,q1⟩)
end
def eJ(K:aA)(H:Hp)(a:Addr)(xs:List V):Prop:=
 Rd H a (.lst xs)∨
  ∃(o:Obj)(its:Array Value)(n:Nat),K.lookup a=some o∧o.cls=.type "list"∧o.dict=none∧o.data=.seq its n∧its.size≤sizeLine∧fL xs its.toList
def eD(K:aA)(H:Hp)(a:Addr)(xs:List V):Prop:=
 Rd H a (.tup xs)∨
  ∃(o:Obj)(its:Array Value)(n:Nat),K.lookup a=some o∧o.cls=.type "tuple"∧o.data=.seq its n∧its.size≤sizeLine∧fL xs its.toList
def NK:Value→Option V
 | .none=>some .non
 | .bool b=>some (.bl b)
 | .int i _=>some (.int i)
 | .str x _=>some (.str x)
 | .bytes b _=>some (.byt b)
 | .float b _=>some (.flt b)
 | .ref a=>some (.ref a)
 | .type n=>some (.ty n)
 | _=>none
theorem fT.abs(r:fT x u):NK u=some x:=by
 cases x with
 | non=>cases r;rfl
 | bl _=>cases r;rfl
 | int _=>obtain⟨t,rfl⟩:=r;rfl
 | str _=>obtain⟨t,rfl⟩:=r;rfl
 | byt _=>obtain⟨t,rfl⟩:=r;rfl
 | flt _=>obtain⟨t,rfl⟩:=r;rfl
 | ref _=>cases r;rfl
 | ty _=>cases r;rfl
theorem fT.inj(r:fT x u)(q:fT y u):x=y:=Option.some.inj (r.abs.symm.trans q.abs)
theorem fL.inj:∀{xs ys:List V}{us:List Value},fL xs us→fL ys us→xs=ys
 | _,_,_,.nil,.nil=>rfl
 | _,_,_,.cons r t,.cons r' t'=>by rw[r.inj r',fL.inj t t']
section
variable {X:Cx}{pins:List (Addr×Obj)}{σ:St}{H:Hp}{s:Shared}{a:Addr}{xs ys:List V}
theorem eJ.of{K:aA}(h:H a=some (.lst xs)):eJ K H a xs:=.inl (.inl h)
theorem eD.of{K:aA}(h:H a=some (.tup xs)):eD K H a xs:=.inl (.inl h)
theorem eZ.list(I:eZ X pins σ H s)(h:eJ X.K H a xs):∃its:List Value,fL xs its∧PlainL s.heap a its.toArray∧xs.length≤sizeLine:=by
 rcases h with h|⟨o,its,n,hk,hc,hd,hs,hz,r⟩
 ·obtain⟨z,its,n,r,e⟩:=h.ok I.hok;exact⟨its,r,⟨_,n,e,rfl,rfl,rfl⟩,z⟩
 ·refine⟨its.toList,r,⟨o,n,I.kIn a o hk,hc,hd,by simpa using hs⟩,?_⟩;have e:=r.length;simp only[bj]at e;lia
theorem eZ.tuple(I:eZ X pins σ H s)(h:eD X.K H a xs):∃its:List Value,fL xs its∧IsTup s.heap a its.toArray∧xs.length≤sizeLine:=by
 rcases h with h|⟨o,its,n,hk,hc,hs,hz,r⟩
 ·obtain⟨z,its,r,p⟩:=h.ok I.hok;exact⟨its,r,p,z⟩
 ·refine⟨its.toList,r,⟨o,I.kIn a o hk,hc,n,by simpa using hs⟩,?_⟩;have e:=r.length;simp only[bj]at e;lia
theorem eZ.list_inj(I:eZ X pins σ H s)(h:eJ X.K H a xs)(h':eJ X.K H a ys):xs=ys:=by
 obtain⟨its,r,⟨o,n,e,_,_,d⟩,_⟩:=I.list h;obtain⟨its',r',⟨o',n',e',_,_,d'⟩,_⟩:=I.list h';rw[e]at e';cases e';rw[d]at d';injection d' with d1 _;have:its=its':=by simpa using congrArg Array.toList d1
 subst this;exact r.inj r'
theorem eZ.tuple_inj(I:eZ X pins σ H s)(h:eD X.K H a xs)(h':eD X.K H a ys):xs=ys:=by
 obtain⟨its,r,⟨o,e,_,n,d⟩,_⟩:=I.tuple h;obtain⟨its',r',⟨o',e',_,n',d'⟩,_⟩:=I.tuple h';rw[e]at e';cases e';rw[d]at d';injection d' with d1 _;have:its=its':=by simpa using congrArg Array.toList d1
 subst this;exact r.inj r'
end
abbrev Cx.wish(X:Cx)(E:Value→Shared→Prop):Cx:={X with xe:=E}
abbrev Cx.nox(X:Cx):Cx:=X.wish λ_ _=>False
theorem Cx.Ok.wish{X:Cx}(ok:X.Ok)(E:Value→Shared→Prop):(X.wish E).Ok:=
 ⟨ok.mod,ok.kind,ok.glob,ok.blt,ok.above,ok.inj,ok.has,ok.cab,ok.hd,ok.frames,ok.stk,ok.exf,ok.bs,ok.bsz,ok.noex,ok.exfs,ok.funs,ok.frf⟩
theorem Cx.Ok.unwish{X:Cx}{E:Value→Shared→Prop}(ok:(X.wish E).Ok):X.Ok:=
 ⟨ok.mod,ok.kind,ok.glob,ok.blt,ok.above,ok.inj,ok.has,ok.cab,ok.hd,ok.frames,ok.stk,ok.exf,ok.bs,ok.bsz,ok.noex,ok.exfs,ok.funs,ok.frf⟩
section
variable {X:Cx}{pins:List (Addr×Obj)}{σ:St}{H:Hp}{s:Shared}{E:Value→Shared→Prop}
theorem eZ.wish(I:eZ X pins σ H s)(E:Value→Shared→Prop):eZ (X.wish E) pins σ H s:=⟨I.ok.wish E,I.os,I.bare,I.base,I.loc,I.cell,I.free,I.freeC,I.pin,I.hok,I.len⟩
theorem eZ.unwish(I:eZ (X.wish E) pins σ H s):eZ X pins σ H s:=⟨I.ok.unwish,I.os,I.bare,I.base,I.loc,I.cell,I.free,I.freeC,I.pin,I.hok,I.len⟩
theorem SP.unwish(h:SP (X.wish E) pins D f s'):SP X pins D f s':=by
 cases f with
 | next=>obtain⟨σ',H',I,q⟩:=h;exact⟨σ',H',I.unwish,q⟩
 | brk=>obtain⟨σ',H',I,q⟩:=h;exact⟨σ',H',I.unwish,q⟩
 | cont=>obtain⟨σ',H',I,q⟩:=h;exact⟨σ',H',I.unwish,q⟩
 | ret u=>obtain⟨v,σ',H',I,r,q⟩:=h;exact⟨v,σ',H',I.unwish,r,q⟩
theorem uH.nox{st:List Stmt}{t:TS}(h:uH X.nox st t):uH X st t:=λpins s σ H D I hw=>
 wpAny_mono (h pins s σ H D (I.wish _) hw) (λ_ _ q=>q.unwish) λ_ _ z=>False.elim z
end
section
variable {X:Cx}{st:Stmt}{rest:List Stmt}{t u:TS}{e:Expr}{te:TE}{pos:Pos}
def fU:TS:=λD σ H=>D.nx σ H
def dq(t u:TS):TS:=λD σ H=>t (D.thn u) σ H
theorem eV:uH X [] fU:=λ_ _ σ H _ I h=>wpAny_execs_nil ⟨σ,H,I,h⟩
theorem dS(h1:PS X st t)(h2:uH X rest u):uH X (st::rest) (dq t u):=by
 intro pins s σ H D I h;refine wpAny_execs_cons (thn (h1 pins s σ H (D.thn u) I h) λf s1 q=>?_);cases f with
 | next=>obtain⟨σ',H',I',q⟩:=q;exact h2 pins s1 σ' H' D I' q
 | ret v=>exact q
 | brk=>exact q
 | cont=>exact q
theorem dY(h1:PS X st t):uH X [st] t:=by
 intro pins s σ H D I h;refine wpAny_execs_cons (thn (h1 pins s σ H D I h) λf s1 q=>?_);cases f with
 | next=>exact wpAny_execs_nil q
 | ret v=>exact q
 | brk=>exact q
 | cont=>exact q
theorem eZ.quiet(I:eZ X pins σ H s):interactive X.env=false:=by simp[interactive,I.ok.kind]
def fG(te:TE):TS:=λD σ H=>te σ H λ_ H1=>D.nx σ H1
theorem eQ(he:PE X e te)(hs:swapsWith e none pos.line X.env=pure false:=by rfl):PS X (.Expr e pos) (fG te):=by intro pins s σ H D I h;exact wpAny_Expr_any (thn (he pins s σ H _ I h) λv s1 ⟨x,H1,I1,r1,q1⟩=>⟨σ,H1,I1,q1⟩) I.quiet hs
def fY(te:TE):TS:=λD σ H=>te σ H D.rt
theorem eP(he:PE X e te):PS X (.Return (some e) pos) (fY te):=by intro pins s σ H D I h;exact wpAny_Return_some (thn (he pins s σ H _ I h) λv s1 ⟨x,H1,I1,r1,q1⟩=>⟨x,σ,H1,I1,r1,q1⟩)
def fj(c:TT)(t u:TS):TS:=λD σ H=>c σ H λb H1=>if b=true then t D σ H1 else u D σ H1
theorem fB(hc:PT X c tc)(ha:uH X a t)(hb:uH X b u):PS X (.If c a b pos) (fj tc t u):=by
 intro pins s σ H D I h;refine wpAny_If (thn (hc pins s σ H _ I h) λd s1 ⟨H1,I1,q1⟩=>?_);cases d with
 | true=>exact ha pins s1 σ H1 D I1 q1
 | false=>exact hb pins s1 σ H1 D I1 q1
def vm:TS:=λ_ _ _=>False
theorem ul:PS X st vm:=λ_ _ _ _ _ _ h=>h.elim
end
abbrev TG:=V→St→Hp→(St→Hp→Prop)→Prop
abbrev LF:=List V→St→Hp→(St→Hp→Prop)→Prop
def PG(X:Cx)(target:Expr)(t:TG):Prop:=
 ∀(pins:List (Addr×Obj))(s:Shared)(σ:St)(H:Hp)(v:V)(u:Value)(Q:St→Hp→Prop),eZ X pins σ H s→fT v u→t v σ H Q→
  wpAny (model X.prog X.w) X.A (assign target X.env u) (λ_ s'=>∃σ' H',eZ X pins σ' H' s'∧Q σ' H') X.xe s
def Ln(X:Cx)(ts:List Expr)(t:LF):Prop:=
 ∀(pins:List (Addr×Obj))(s:Shared)(σ:St)(H:Hp)(vs:List V)(us:List Value)(Q:St→Hp→Prop),eZ X pins σ H s→fL vs us→t vs σ H Q→
  wpAny (model X.prog X.w) X.A (assignInOrder ((assignEach ts X.env).map (·.2)) us) (λ_ s'=>∃σ' H',eZ X pins σ' H' s'∧Q σ' H') X.xe s
abbrev LE:=V→V→V→Hp→(Hp→Prop)→Prop
def LK(X:Cx)(t:LE):Prop:=
 ∀(pins:List (Addr×Obj))(s:Shared)(σ:St)(H:Hp)(o i v:V)(ov iv u:Value)(Q:Hp→Prop),eZ X pins σ H s→fT o ov→fT i iv→fT v u→t o i v H Q→
  wpAny (model X.prog X.w) X.A (setItem ov iv u) (λ_ s'=>∃H',eZ X pins σ H' s'∧Q H') X.xe s
section
variable {X:Cx}{pos:Pos}
def db(i:Nat):TG:=λv σ H Q=>Q (σ.set i (some v)) H
theorem mC(hN:X.N.Nodup)(hi:X.N[i]?=some x)(hx:FG X.env.scope x)(hf:X.fn x=true∨X.env.scope.names.lookup x=some .local:=by first|exact .inl rfl|exact .inr rfl|assumption):PG X (.Name x pos) (db i):=by intro pins s σ H v u Q I r h;exact wpAny_assign_Name (ud I hN hi hx r (λs' I'=>⟨_,H,I',h⟩) hf)
def lc:LF:=λvs σ H Q=>vs=[]∧Q σ H
def gI(t:TG)(u:LF):LF:=λvs σ H Q=>onC vs λv r=>t v σ H λσ' H'=>u r σ' H' Q
theorem io:Ln X [] lc:=by intro pins s σ H vs us Q I r h;obtain⟨e,h⟩:=h;subst e;cases r;exact assignInOrder_nil ⟨σ,H,I,h⟩
theorem fH(h1:PG X e t)(h2:Ln X es u)
  (hs:(assignEach (e::es) X.env).map (·.2)=assign e X.env::(assignEach es X.env).map (·.2):=by rfl):Ln X (e::es) (gI t u):=by
 intro pins s σ H vs us Q I r h;obtain⟨v,vr,e1,h⟩:=onC.ex h;subst e1;cases r with
 | cons r rr=>rw[hs];refine assignInOrder_cons (thn (h1 pins s σ H _ _ _ I r h) λ_ s1 ⟨σ1,H1,I1,q1⟩=>?_);exact h2 pins s1 σ1 H1 _ _ Q I1 rr q1
def lb(K:aA)(n:Nat)(t:LF):TG:=λv σ H Q=>onR v λa=>lP (eD K H a) λxs=>xs.length=n∧t xs σ H Q
theorem jb(hc:X.calm=true)(h:Ln X es t)
  (hn:(assignEach es X.env).length=n:=by rfl) (hst:(assignEach es X.env).findIdx? (·.1)=none:=by rfl):PG X (.Tuple es k pos) (lb X.K n t):=by
 intro pins s σ H v u Q I r hw;obtain⟨a,rfl,hw⟩:=onR.ex hw;obtain @⟨xs,hq,hl,hw⟩:=hw;cases r;obtain⟨its,rv,ht,hz⟩:=I.tuple hq;refine assign_Tuple_tuple (I.ok.hd hc) ht (by simp[hn,←hl,rv.length]) hst λh' hx=>?_;have I1:eZ X pins σ H {s with heap:=h'}:=I.kept (t':=s.toks) λb o e=>hx b o (aM (Heap.lt_size e)) e;exact h pins _ σ H xs _ Q I1 (by simpa using rv) hw
def JH(to ti:TE)(t:LE):TG:=λv σ H Q=>to σ H λo H1=>ti σ H1 λi H2=>t o i v H2 λH3=>Q σ H3
theorem Bt(ho:PE X o to)(hi:PE X i ti)(hs:LK X t)
  (ha:∀v,assign (.Subscript o i pos) X.env v=(do
   let ov ← holding [v] (eval o X.env)
   let iv ← holding [v,ov] (eval i X.env)
   standAt pos
   holding [v,ov,iv] (setItem ov iv v)
   release [v,ov,iv] []):=by intro _;rfl):PG X (.Subscript o i pos) (JH to ti t):=by
 intro pins s σ H v u Q I r h;rw[ha];refine wpAny_bind (wpAny_holding (thn (ho pins s σ H _ I h) λov s1 ⟨x,H1,I1,r1,q1⟩=>?_));refine wpAny_bind (wpAny_holding (thn (hi pins s1 σ H1 _ I1 q1) λiv s2 ⟨y,H2,I2,r2,q2⟩=>?_));refine wpAny_bind (wpAny_standAt (wpAny_bind (wpAny_holding (thn (hs pins s2 σ H2 x y v ov iv u _ I2 r1 r2 r q2) λ_ s3 ⟨H3,I3,q3⟩=>?_))));exact wpAny_release ⟨σ,H3,I3,q3⟩
def eG(te:TE)(g:TG):TS:=λD σ H=>te σ H λx H1=>g x σ H1 D.nx
theorem jt(he:PE X e te)(hg:PG X tg g)(hs:swapsWithSole [tg] e pos.line X.env=pure false:=by rfl)(hw:swappedStores [tg] e X.env=pure none:=by rfl)
  (h1:(assignEach [tg] X.env).map (·.2)=[assign tg X.env]:=by rfl):PS X (.Assign [tg] e pos) (eG te g):=by
 intro pins s σ H D I h;refine wpAny_Assign_stores (thn (he pins s σ H _ I h) λv s1 ⟨x,H1,I1,r1,q1⟩=>?_) hs hw;rw[h1];exact thn (hg pins s1 σ H1 x v _ I1 r1 q1) λ_ s2 q=>q
theorem IS(hN:X.N.Nodup)(hi:X.N[i]?=some x)(hx:FG X.env.scope x)(he:PE X e te)(hs:swapsWith e (some (.Name x pos')) pos.line X.env=pure false:=by rfl)(hf:X.fn x=true∨X.env.scope.names.lookup x=some .local:=by first|exact .inl rfl|exact .inr rfl|assumption):
  PS X (.Assign [.Name x pos'] e pos) (eG te (db i)):=by
 intro pins s σ H D I h;refine wpAny_Assign_Name (thn (he pins s σ H _ I h) λv s1 ⟨y,H1,I1,r1,q1⟩=>?_) hs;exact ud I1 hN hi hx r1 (λs2 I2=>⟨_,H1,I2,q1⟩) hf
end
section
variable {X:Cx}{pos:Pos}
def iF(c:TT)(tb:TS):TS:=λD σ H=>∃W:Nat→St→Hp→Prop,(∃m,W m σ H)∧∀m σ H,W m σ H→
 c σ H λb H1=>if b=true then ∃N:St→Hp→Prop,(∀σ' H',N σ' H'→∃m',m'<m∧W m' σ' H')∧tb (D.lp (N)) σ H1 else D.nx σ H1
theorem gQ(hp:PassesOwn (model X.prog X.w) X.A X.env X.xe)(hc:PT X c tc)(hb:uH X body tb):PS X (.While c body [] pos) (iF tc tb):=by
 intro pins s σ H D I h;obtain⟨W,⟨m0,w0⟩,turn⟩:=h;refine wpAny_While (codeAny_whileLoop (λn s'=>∃σ' H',eZ X pins σ' H' s'∧W n σ' H') ?_ m0 ⟨σ,H,I,w0⟩);rintro n s1 ⟨σ1,H1,I1,w1⟩;refine wpAny_passesOwn hp (thn (hc pins s1 σ1 H1 _ I1 (turn n σ1 H1 w1)) λb s2 ⟨H2,I2,q2⟩=>?_);cases b with
 | true=>
  obtain⟨N,hN,q2⟩:=q2;rw[if_pos rfl];refine wpAny_passesOwn hp (thn (hb pins s2 σ1 H2 _ I2 q2) λf s3 q3=>?_);cases f with
  | next=>obtain⟨σ3,H3,I3,n3⟩:=q3;obtain⟨m',hm,w3⟩:=hN σ3 H3 n3;exact⟨m',hm,σ3,H3,I3,w3⟩
  | cont=>obtain⟨σ3,H3,I3,n3⟩:=q3;obtain⟨m',hm,w3⟩:=hN σ3 H3 n3;exact⟨m',hm,σ3,H3,I3,w3⟩
  | brk=>exact q3
  | ret v=>exact q3
 | false=>rw[if_neg aR];exact wpAny_execs_nil ⟨σ1,H2,I2,q2⟩
end
structure It where
 go:Nat→Hp→Prop
 yld:Nat→Hp→V→Hp→Prop
 stop:Nat→Hp→Prop
def pH(X:Cx)(pins:List (Addr×Obj))(H:Hp)(b:Addr):Prop:=
 H b=none∧b≠X.env.locals∧b∉X.fs∧(b∈X.ex∨X.s₀.heap.objs.size≤b)∧(∀x c,X.env.cells.lookup x=some c→c≠b)∧∀p∈X.pn++pins,p.1≠b
theorem eZ.fpOk(I:eZ X pins σ H s)(hb:s.heap.objs.size≤b)(hn:H' b=none):pH X pins H' b:=by
 refine⟨hn,bD (aa I.lt hb),I.nofs hb,.inr (aY I.sz hb),λx c e z=>?_,λp hp z=>?_⟩
 ·obtain⟨v,q⟩:=I.cell x c e;exact absurd (aa q.lt (by rw[z];exact hb)) (bU _)
 ·exact absurd (aa (Heap.lt_size (I.pin p hp).1) (by rw[z];exact hb)) (bU _)
structure vR(P:Program)(w:World)(K:aA)(tg:Expr)(J:It)(fp:List Addr)(it:Addr)(tn:Nat→Heap→Prop):Prop where
 mem:it∈fp
 obj:∀i h,tn i h→∀b∈fp,∃o,h.get? b=some o∧∀v,o.data≠.cell v
 keep:∀i h h',tn i h→(∀b∈fp,∀o,h.get? b=some o→h'.get? b=some o)→tn i h'
 item:∀(X:Cx),X.prog=P→X.w=w→X.K=K→X.calm=true→∀(i:Nat)(pins:List (Addr×Obj))(s:Shared)(σ:St)(H:Hp)(E:Value→Shared→Prop),eZ X pins σ H s→(∀b∈fp,pH X pins H b)→tn i s.heap→J.go i H→
  wpAny (model P w) X.A (pyNext (.ref it)) (λr s1=>∃u,r=some u∧
   wpAny (model P w) X.A (letOwnedTupleGo tg (.ref it) u) (λ_ s2=>∃x H',eZ X pins σ H' s2∧fT x u∧J.yld i H x H'∧tn (i+1) s2.heap∧∀b∈fp,H' b=none) E s1) E s
 done:∀(X:Cx),X.prog=P→X.w=w→X.K=K→X.calm=true→∀(i:Nat)(pins:List (Addr×Obj))(s:Shared)(σ:St)(H:Hp)(E:Value→Shared→Prop),eZ X pins σ H s→(∀b∈fp,pH X pins H b)→tn i s.heap→J.stop i H→
  wpAny (model P w) X.A (pyNext (.ref it)) (λr s1=>r=none∧eZ X pins σ H s1) E s
 self:∀(A:Around)(i:Nat)(s:Shared)(Q:Value→Shared→Prop)(E:Value→Shared→Prop),tn i s.heap→Q (.ref it) s→wpAny (model P w) A (pyIter (.ref it)) Q E s
abbrev TI:=St→Hp→(It→Hp→Prop)→Prop
def NS(X:Cx)(pins:List (Addr×Obj))(σ:St)(tg:Expr)(R:It→Hp→Prop)(itv:Value)(s2:Shared):Prop:=
 ∃(it:Addr)(fp:List Addr)(tn:Nat→Heap→Prop)(J:It)(H':Hp),itv=.ref it∧eZ X pins σ H' s2∧vR X.prog X.w X.K tg J fp it tn∧tn 0 s2.heap∧(∀b∈fp,pH X pins H' b)∧R J H'
def PI(X:Cx)(tg iter:Expr)(wi:TI):Prop:=
 ∀(pins:List (Addr×Obj))(s:Shared)(σ:St)(H:Hp)(R:It→Hp→Prop),eZ X pins σ H s→wi σ H R→
  wpAny (model X.prog X.w) X.A (eval iter X.env) (λv s1=>wpAny (model X.prog X.w) X.A (pyIter v) (NS X pins σ tg R) X.xe s1) X.xe s
theorem vA(ho:s.heap.get? it=some o)(hc:o.cls=.type n)(hd:o.data=.fields vs)
    (hn:["enumerate","zip","dict_itemiterator","dict_reverseitemiterator","odict_iterator","itertools.zip_longest","itertools.pairwise"].contains n=false) (hQ:Q () s):wpAny M A (letOwnedTupleGo tg (.ref it) u) Q E s:=by
  unfold letOwnedTupleGo;cases tg<;>first
    | exact wpAny_pure hQ
    | (cases u<;>first
        | exact wpAny_pure hQ
        | (refine wpAny_bind (wpAny_load ho ?_)
           rw[hc,hd];show wpAny M A (if(["enumerate","zip","dict_itemiterator","dict_reverseitemiterator","odict_iterator","itertools.zip_longest","itertools.pairwise"].contains n&&vs[0]? == some (rawInt _))=true then _ else _) Q E s;rw[if_neg (by intro h;rw[hn,Bool.false_and]at h;cases h)];exact wpAny_pure hQ))
def LP(K:aA)(a:Addr):It:=
 ⟨λi H=>∃xs x,eJ K H a xs∧xs[i]?=some x,λi H x H'=>H'=H∧∀xs,eJ K H a xs→xs[i]?=some x,λi H=>∃xs,eJ K H a xs∧xs.length≤i⟩
def OU(K:aA)(a:Addr):It:=
 ⟨λi H=>∃xs x,eD K H a xs∧xs[i]?=some x,λi H x H'=>H'=H∧∀xs,eD K H a xs→xs[i]?=some x,λi H=>∃xs,eD K H a xs∧xs.length≤i⟩
def Jg(lo:Int)(n:Nat):It:=⟨λi _=>i<n,λi H x H'=>H'=H∧x=.int (lo+i),λi _=>n≤i⟩
theorem yk{P:Program}{w:World}{K:aA}{tg:Expr}(a it:Addr):vR P w K tg (LP K a) [it] it (λi h=>h.IsListIter it a i) where
 mem:=by simp
 obj:=λi h st b hb=>by
  have e:b=it:=by simpa using hb
  subst e;obtain⟨o,e,c,d⟩:=st;exact⟨o,e,λv z=>by rw[d]at z;cases z⟩
 keep:=λi h h' st k=>st.at λo e=>k it (by simp) o e
 item:=by intro X hP hw hK hc i pins s σ H E I hf st hg;subst hP hw hK;obtain⟨xs,x,hq,hx⟩:=hg;obtain⟨its,rv,p,hz⟩:=I.list hq;obtain⟨u,hu,ru⟩:=rv.get hx;obtain⟨f0,f1,f2,f3,f4,f5⟩:=hf it (by simp);refine wpAny_pyNext_list_item st p.isList (x:=u) (by simpa using hu) λh' st' sb=>?_;have I1:eZ X pins σ H {s with heap:=h'}:=I.turned (t':=s.toks) (λb o hb e=>(sb.2 b hb).trans e) f0 f1 f3 f4 f5;obtain⟨o,e,c,d⟩:=id st';exact⟨u,rfl,vA (s:={s with heap:=h'}) e c d (by decide) ⟨x,H,I1,ru,⟨rfl,λys hy=>by rw[I.list_inj hy hq];exact hx⟩,st',λb hb=>(hf b hb).1⟩⟩
 done:=by intro X hP hw hK hc i pins s σ H E I hf st hg;subst hP hw hK;obtain⟨xs,hq,hx⟩:=hg;obtain⟨its,rv,p,hz⟩:=I.list hq;obtain⟨f0,f1,f2,f3,f4,f5⟩:=hf it (by simp);have hl:=rv.length;exact wpAny_pyNext_list_end (I.ok.hd hc) st p.isList (by simp;lia) λh' eb=>⟨rfl,I.turned (t':=s.toks) (λb o hb e=>eb b o hb e) f0 f1 f3 f4 f5⟩
 self:=λ_ _ _ _ _ st h=>wpAny_pyIter_listiter st h
theorem ve{P:Program}{w:World}{K:aA}{tg:Expr}(a it:Addr):vR P w K tg (OU K a) [it] it (λi h=>h.IsTupleIter it a i) where
 mem:=by simp
 obj:=λi h st b hb=>by
  have e:b=it:=by simpa using hb
  subst e;obtain⟨o,e,c,d⟩:=st;exact⟨o,e,λv z=>by rw[d]at z;cases z⟩
 keep:=λi h h' st k=>st.at λo e=>k it (by simp) o e
 item:=by intro X hP hw hK hc i pins s σ H E I hf st hg;subst hP hw hK;obtain⟨xs,x,hq,hx⟩:=hg;obtain⟨its,rv,p,hz⟩:=I.tuple hq;obtain⟨u,hu,ru⟩:=rv.get hx;obtain⟨f0,f1,f2,f3,f4,f5⟩:=hf it (by simp);refine wpAny_pyNext_tuple_item st (show s.heap.IsTuple a its.toArray from p) (x:=u) (by simpa using hu) λh' st' sb=>?_;have I1:eZ X pins σ H {s with heap:=h'}:=I.turned (t':=s.toks) (λb o hb e=>(sb.2 b hb).trans e) f0 f1 f3 f4 f5;obtain⟨o,e,c,d⟩:=id st';exact⟨u,rfl,vA (s:={s with heap:=h'}) e c d (by decide) ⟨x,H,I1,ru,⟨rfl,λys hy=>by rw[I.tuple_inj hy hq];exact hx⟩,st',λb hb=>(hf b hb).1⟩⟩
 done:=by intro X hP hw hK hc i pins s σ H E I hf st hg;subst hP hw hK;obtain⟨xs,hq,hx⟩:=hg;obtain⟨its,rv,p,hz⟩:=I.tuple hq;obtain⟨f0,f1,f2,f3,f4,f5⟩:=hf it (by simp);have hl:=rv.length;exact wpAny_pyNext_tuple_end (I.ok.hd hc) st (show s.heap.IsTuple a its.toArray from p) (by simp;lia) λh' eb=>⟨rfl,I.turned (t':=s.toks) (λb o hb e=>eb b o hb e) f0 f1 f3 f4 f5⟩
 self:=λ_ _ _ _ _ st h=>wpAny_pyIter_tupleiter st h
theorem vf{P:Program}{w:World}{K:aA}{tg:Expr}(it:Addr)(lo:Int)(n:Nat):vR P w K tg (Jg lo n) [it] it (λi h=>IsRangeIter h it (lo+(i:Nat)*1) ((n:Int)-(i:Nat)) 1) where
 mem:=by simp
 obj:=λi h st b hb=>by
  have e:b=it:=by simpa using hb
  subst e;exact⟨_,st,λv z=>by
   have z':Data.fields _=Data.cell v:=z;cases z'⟩
 keep:=λi h h' st k=>k it (by simp) _ st
 item:=by intro X hP hw hK hc i pins s σ H E I hf st hg;subst hP hw hK;obtain⟨f0,f1,f2,f3,f4,f5⟩:=hf it (by simp);have W:=Walks.range (prog:=X.prog) (w:=X.w) (I.ok.hd hc) it lo 1 n;refine W.item i s _ _ hg st λv h' tk hv st' kk=>?_;obtain⟨t,rfl⟩:=hv;have I1:eZ X pins σ H {s with heap:=h',toks:=tk}:=I.turned (λb o hb e=>kk b o (by simpa using hb) e) f0 f1 f3 f4 f5;refine⟨_,rfl,vA (s:={s with heap:=h',toks:=tk}) (n:="range_iterator") st' rfl rfl (by decide) ⟨.int (lo+i),H,I1,⟨t,?_⟩,⟨rfl,rfl⟩,st',λb hb=>(hf b hb).1⟩⟩;rw[Int.mul_one]
 done:=by intro X hP hw hK hc i pins s σ H E I hf st hg;subst hP hw hK;obtain⟨f0,f1,f2,f3,f4,f5⟩:=hf it (by simp);exact wpAny_pyNext_range_end (I.ok.hd hc) st (by have:n≤i:=hg;lia) λh' eb=>⟨rfl,I.turned (t':=s.toks) (λb o hb e=>eb b o hb e) f0 f1 f3 f4 f5⟩
 self:=λ_ _ _ _ _ st h=>wpAny_pyIter_rangeiter st h
section
variable {X:Cx}{tg:Expr}
def i0(K:aA)(tl:TE):TI:=λσ H R=>tl σ H λx H1=>onR x λa=>lP (eJ K H1 a) λ_=>R (LP K a) H1
def JF(K:aA)(tl:TE):TI:=λσ H R=>tl σ H λx H1=>onR x λa=>lP (eD K H1 a) λ_=>R (OU K a) H1
theorem gi{l:Expr}{tl:TE}(hl:PE X l tl):PI X tg l (i0 X.K tl):=by
 intro pins s σ H R I h;refine thn (hl pins s σ H _ I h) λv s1 ⟨x,H1,I1,r1,q1⟩=>?_;obtain⟨a,rfl,q1⟩:=onR.ex q1;obtain @⟨xs,hq,q⟩:=q1;cases r1;obtain⟨its,rv,p,hz⟩:=I1.list hq;refine wpAny_pyIter_list p.isList ?_;refine⟨s1.heap.objs.size,[s1.heap.objs.size],_,_,H1,rfl,I1.kept (t':=s1.toks) λb o e=>Heap.get?_push_of_some _ e,yk a _,⟨_,Heap.get?_push_size _ rfl,rfl,rfl⟩,λb hb=>?_,q⟩;have e:b=s1.heap.objs.size:=by simpa using hb
 subst e;exact I1.fpOk (aC _) (I1.hok.fresh (aC _))
theorem Bs{l:Expr}{tl:TE}(hl:PE X l tl):PI X tg l (JF X.K tl):=by
 intro pins s σ H R I h;refine thn (hl pins s σ H _ I h) λv s1 ⟨x,H1,I1,r1,q1⟩=>?_;obtain⟨a,rfl,q1⟩:=onR.ex q1;obtain @⟨xs,hq,q⟩:=q1;cases r1;obtain⟨its,rv,p,hz⟩:=I1.tuple hq;refine wpAny_pyIter_tuple (show s1.heap.IsTuple a its.toArray from p) ?_;refine⟨s1.heap.objs.size,[s1.heap.objs.size],_,_,H1,rfl,I1.kept (t':=s1.toks) λb o e=>Heap.get?_push_of_some _ e,ve a _,⟨_,Heap.get?_push_size _ rfl,rfl,rfl⟩,λb hb=>?_,q⟩;have e:b=s1.heap.objs.size:=by simpa using hb
 subst e;exact I1.fpOk (aC _) (I1.hok.fresh (aC _))
theorem Bg{pins:List (Addr×Obj)}{σ:St}{H:Hp}{s:Shared}{R:It→Hp→Prop}{E:Value→Shared→Prop}{lo hi:Int}{t u v:Tok}{tk:Nat}(I:eZ X pins σ H s)(h1 : -(2^62)≤lo)(h2:lo<2^62)(h3 : -(2^62)≤hi)(h4:hi<2^62)
  (q:R (Jg lo (hi-lo).toNat) H):wpAny (model X.prog X.w) X.A (pyIter (.ref s.heap.objs.size)) (NS X pins σ tg R) E {s with heap:=s.heap.push {cls:=.type "range",data:=.fields #[.int lo t,.int hi u,.int 1 v]},toks:=tk}:=by
 refine wpAny_pyIter_range (IsRange.new ..) (small_one h1 h2 h3 h4) ?_;have I1:eZ X pins σ H {s with heap:=s.heap.push {cls:=.type "range",data:=.fields #[.int lo t,.int hi u,.int 1 v]},toks:=tk}:=I.kept λb o e=>Heap.get?_push_of_some _ e;refine⟨(s.heap.push {cls:=.type "range",data:=.fields #[.int lo t,.int hi u,.int 1 v]}).objs.size,[(s.heap.push {cls:=.type "range",data:=.fields #[.int lo t,.int hi u,.int 1 v]}).objs.size],_,_,H,rfl,
  I1.kept (t':=tk) λb o e=>Heap.get?_push_of_some _ e,vf _ lo (hi-lo).toNat,?_,λb hb=>?_,q⟩
 ·have e1:lo+((0:Nat):Int)*1=lo:=by simp
  have e2:(((hi-lo).toNat:Nat):Int)-((0:Nat):Int)=Builtin.Range.rangeSize lo hi 1:=by rw[rangeSize_one];split<;>lia
  show IsRangeIter _ _ (lo+((0:Nat):Int)*1) ((((hi-lo).toNat:Nat):Int)-((0:Nat):Int)) 1;rw[e1,e2];exact Heap.get?_push_size _ rfl
 ·have e:b=(s.heap.push {cls:=.type "range",data:=.fields #[.int lo t,.int hi u,.int 1 v]}).objs.size:=by simpa using hb
  subst e;exact I1.fpOk (aC _) (I1.hok.fresh (aC _))
def u7(ta:TA):TI:=λσ H R=>ta σ H λvs H1=>on1 vs λx=>onI x λj=>-(2^62)≤j∧j<2^62∧R (Jg 0 j.toNat) H1
theorem rK{a:Expr}{ta:TA}{p pos:Pos}(hg:Gl X "range")(hm:X.mg "range"=none)(ha:PA X [a] ta)(hs:starEach [a] X.env=[(false,eval a X.env)]:=by rfl):PI X tg (.Call (.Name "range" p) [a] [] pos) (u7 ta):=by
 intro pins s σ H R I h;refine Call_ (kO I hg hm boot_range (bP (thn (ha pos pins s σ H _ I h) λus s1 ⟨vs,H1,I1,r1,q1⟩=>?_) hs rfl));obtain⟨x,rfl,q1⟩:=on1.ex q1;obtain⟨j,rfl,q1,q2,q⟩:=onI.ex q1;cases r1 with
 | cons r rr=>cases rr;obtain⟨t,rfl⟩:=r;exact call_range_1 (Bg I1 (by lia) (by lia) q1 q2 (by simpa using q))
def iP(wi:TI)(g:TG)(tb:TS):TS:=λD σ H=>wi σ H λJ H1=>∃W:Nat→Nat→St→Hp→Prop,(∃m,W 0 m σ H1)∧∀i m σ H,W i m σ H→
 (J.stop i H∧D.nx σ H)∨(J.go i H∧∃N:St→Hp→Prop,(∀σ' H',N σ' H'→∃m',m'<m∧W (i+1) m' σ' H')∧∀x H',J.yld i H x H'→g x σ H' λσ2 H2=>tb (D.lp (N)) σ2 H2)
def tE(fp:List Addr)(h:Heap):List (Addr×Obj):=fp.filterMap λb=>(h.get? b).map λo=>(b,o)
theorem k9(hb:b∈fp)(e:h.get? b=some o):(b,o)∈tE fp h:=List.mem_filterMap.mpr ⟨b,hb,by rw[e];rfl⟩
theorem zV(hp:p∈tE fp h):p.1∈fp∧h.get? p.1=some p.2:=by
 obtain⟨b,hb,e⟩:=List.mem_filterMap.mp hp;cases q:h.get? b with
 | none=>rw[q]at e;cases e
 | some o=>rw[q]at e;have e':(b,o)=p:=Option.some.inj e;subst e';exact⟨hb,q⟩
theorem eZ.pinned(I:eZ X pins σ H s)(hf:∀b∈fp,pH X pins H b)(ho:∀b∈fp,∃o,s.heap.get? b=some o∧∀v,o.data≠.cell v):eZ X (pins++tE fp s.heap) σ H s:=
 I.pins_of λp hp=>(aW.mp hp).elim (λz=>I.pin p (aS _ z)) λz=>by obtain⟨hb,e⟩:=zV z;obtain⟨f0,f1,f2,_⟩:=hf p.1 hb;obtain⟨o,e',d⟩:=ho p.1 hb;rw[e]at e';cases e';exact⟨e,f0,f1,f2,d⟩
theorem eZ.unpinned(I:eZ X (pins++pl) σ H s):eZ X pins σ H s:=I.pins_of λp hp=>I.pin p (aS _ (ag _ hp))
theorem gL(hp:PassesOwn (model X.prog X.w) X.A X.env X.xe)(hc:X.calm=true)(hi:PI X tg iter wi)(hg:PG X tg g)(hb:uH X body tb)
  (hs:∀x,foldedSetIterable iter X.env x=pure x:=by intro _;rfl):PS X (.For tg iter body [] pos) (iP wi g tb):=by
 intro pins s σ H D I h;refine wpAny_For (thn (hi pins s σ H _ I h) λv s1 h1=>thn h1 λitv s2 h2=>?_) hs;obtain⟨it,fp,tn,J,H2,e,I2,T,st2,f2,W,⟨m0,w0⟩,turn⟩:=h2;subst e;have stat:∀{H':Hp},(∀b∈fp,H' b=none)→∀b∈fp,pH X pins H' b:=λhn b hb=>⟨hn b hb,(f2 b hb).2⟩;refine codeAny_forLoop_any (λn s'=>∃i σ' H',eZ X pins σ' H' s'∧tn i s'.heap∧(∀b∈fp,H' b=none)∧W i n σ' H') ?_ m0 ⟨0,σ,H2,I2,st2,λb hb=>(f2 b hb).1,w0⟩;rintro n s3 ⟨i,σ3,H3,I3,st3,fr3,w3⟩;rcases turn i n σ3 H3 w3 with⟨stop,qn⟩|⟨go,N,hN,step⟩
 ·refine wpAny_passesOwn hp (thn (T.done X rfl rfl rfl hc i pins s3 σ3 H3 X.xe I3 (stat fr3) st3 stop) λr s4 ⟨hr,I4⟩=>?_);subst hr;exact wpAny_execs_nil ⟨σ3,H3,I4,qn⟩
 ·refine wpAny_passesOwn hp (thn (T.item X rfl rfl rfl hc i pins s3 σ3 H3 X.xe I3 (stat fr3) st3 go) λr s4 ⟨u,hr,h4⟩=>?_);subst hr;refine wpAny_passesOwn hp (thn h4 λ_ s5 ⟨x,H5,I5,r5,y5,st5,fr5⟩=>?_);have I5':=I5.pinned (stat fr5) (T.obj _ _ st5);refine wpAny_passesOwn hp (thn (hg _ s5 σ3 H5 x u _ I5' r5 (step x H5 y5)) λ_ s6 ⟨σ6,H6,I6,q6⟩=>?_);refine wpAny_passesOwn hp (thn (hb _ s6 σ6 H6 _ I6 q6) λf s7 q7=>?_);have again:∀{σ7:St}{H7:Hp},eZ X (pins++tE fp s5.heap) σ7 H7 s7→N σ7 H7→∃m,m<n∧∃i σ' H',eZ X pins σ' H' s7∧tn i s7.heap∧(∀b∈fp,H' b=none)∧W i m σ' H':=λ{σ7 H7} I7 n7=>by obtain⟨m',hm,w7⟩:=hN σ7 H7 n7;refine⟨m',hm,i+1,σ7,H7,I7.unpinned,T.keep _ _ _ st5 λb hb o e=>(I7.pin (b,o) (aS _ (aS _ (k9 hb e)))).1,λb hb=>?_,w7⟩;obtain⟨o,e,d⟩:=T.obj _ _ st5 b hb;exact(I7.pin (b,o) (aS _ (aS _ (k9 hb e)))).2.1
  cases f with
  | next=>obtain⟨σ7,H7,I7,n7⟩:=q7;exact again I7 n7
  | cont=>obtain⟨σ7,H7,I7,n7⟩:=q7;exact again I7 n7
  | brk=>obtain⟨σ7,H7,I7,q7⟩:=q7;exact⟨σ7,H7,I7.unpinned,q7⟩
  | ret v=>obtain⟨x7,σ7,H7,I7,r7,q7⟩:=q7;exact⟨x7,σ7,H7,I7.unpinned,r7,q7⟩
end
theorem gY{K:aA}{a:Addr}{xs:List V}{g:TG}{tb:TS}{D:iN}{σ:St}{H:Hp}(Pv:Nat→St→Hp→Prop)(h0:Pv 0 σ H)(hl:∀i σ H,i≤xs.length→Pv i σ H→eJ K H a xs)
  (hs:∀i x σ H,xs[i]?=some x→Pv i σ H→g x σ H λσ2 H2=>tb (D.lp (Pv (i+1))) σ2 H2) (hd:∀σ H,Pv xs.length σ H→D.nx σ H):
  ∃W:Nat→Nat→St→Hp→Prop,(∃m,W 0 m σ H)∧∀i m σ H,W i m σ H→
   ((LP K a).stop i H∧D.nx σ H)∨((LP K a).go i H∧∃N:St→Hp→Prop,(∀σ' H',N σ' H'→∃m',m'<m∧W (i+1) m' σ' H')∧∀x H',(LP K a).yld i H x H'→g x σ H' λσ2 H2=>tb (D.lp (N)) σ2 H2):=by
 refine⟨λi m σ H=>m=xs.length-i∧i≤xs.length∧Pv i σ H,⟨xs.length,by simp,aU _,h0⟩,?_⟩;rintro i m σ H ⟨rfl,hi,p⟩;have q:=hl i σ H hi p;by_cases hlt:i<xs.length
 ·refine .inr ⟨⟨xs,xs[i],q,by simp[hlt]⟩,Pv (i+1),λσ' H' p'=>⟨xs.length-(i+1),by lia,rfl,hlt,p'⟩,λx H' y=>?_⟩;obtain⟨e,y⟩:=y;subst e;exact hs i x σ _ (y xs q) p
 ·have e:i=xs.length:=by lia
  subst e;exact .inl ⟨⟨xs,q,aC _⟩,hd σ H p⟩
theorem rX{lo:Int}{n:Nat}{g:TG}{tb:TS}{D:iN}{σ:St}{H:Hp}(Pv:Nat→St→Hp→Prop)(h0:Pv 0 σ H)
  (hs:∀i σ H,i<n→Pv i σ H→g (.int (lo+i)) σ H λσ2 H2=>tb (D.lp (Pv (i+1))) σ2 H2) (hd:∀σ H,Pv n σ H→D.nx σ H):
  ∃W:Nat→Nat→St→Hp→Prop,(∃m,W 0 m σ H)∧∀i m σ H,W i m σ H→
   ((Jg lo n).stop i H∧D.nx σ H)∨((Jg lo n).go i H∧∃N:St→Hp→Prop,(∀σ' H',N σ' H'→∃m',m'<m∧W (i+1) m' σ' H')∧∀x H',(Jg lo n).yld i H x H'→g x σ H' λσ2 H2=>tb (D.lp (N)) σ2 H2):=by
 refine⟨λi m σ H=>m=n-i∧i≤n∧Pv i σ H,⟨n,by simp,aU _,h0⟩,?_⟩;rintro i m σ H ⟨rfl,hi,p⟩;by_cases hlt:i<n
 ·refine .inr ⟨hlt,Pv (i+1),λσ' H' p'=>⟨n-(i+1),by lia,rfl,hlt,p'⟩,λx H' y=>?_⟩;obtain⟨e,y⟩:=y;subst e y;exact hs i σ _ hlt p
 ·have e:i=n:=by lia
  subst e;exact .inl ⟨aC _,hd σ H p⟩
abbrev R2:=V→V→Hp→VK→Prop
def mf(X:Cx)(f:Value→Value→Sem Value)(r:R2):Prop:=
 ∀(pins:List (Addr×Obj))(s:Shared)(σ:St)(H:Hp)(x y:V)(v u:Value)(Q:VK),eZ X pins σ H s→fT x v→fT y u→r x y H Q→
  wpAny (model X.prog X.w) X.A (f v u) (EP X pins σ Q) X.xe s
def NL(X:Cx)(f:Value→Sem Value)(r:V→Hp→VK→Prop):Prop:=
 ∀(pins:List (Addr×Obj))(s:Shared)(σ:St)(H:Hp)(x:V)(v:Value)(Q:VK),eZ X pins σ H s→fT x v→r x H Q→
  wpAny (model X.prog X.w) X.A (f v) (EP X pins σ Q) X.xe s
def lI(X:Cx)(f:Value)(r:List V→Hp→VK→Prop):Prop:=
 ∀(pins:List (Addr×Obj))(s:Shared)(σ:St)(H:Hp)(xs:List V)(us:List Value)(Q:VK),eZ X pins σ H s→fL xs us→r xs H Q→
  wpAny (model X.prog X.w) X.A (call f us) (EP X pins σ Q) X.xe s
def eC(r:R2)(ta tb:TE):TE:=λσ H Q=>ta σ H λx H1=>tb σ H1 λy H2=>r x y H2 Q
def mK(r:V→Hp→VK→Prop)(ta:TE):TE:=λσ H Q=>ta σ H λx H1=>r x H1 Q
def rI(C:Int→Int→Prop)(g:Int→Int→V):R2:=λx y H Q=>onI x λi=>onI y λj=>C i j∧Q (g i j) H
def yC(g:Int→Int→V):R2:=λx y H Q=>onI x λi=>onI y λj=>Q (g i j) H
def rU(g:Int→V):V→Hp→VK→Prop:=λx H Q=>onI x λi=>Q (g i) H
section
variable {X:Cx}{a b c:Expr}{ta tb tc:TE}{pos:Pos}
theorem JS(ha:PE X a ta)(hb:PE X b tb){pins:List (Addr×Obj)}{s:Shared}{σ:St}{H:Hp}{R:V→V→Hp→Prop}(I:eZ X pins σ H s)
  (h:ta σ H λx H1=>tb σ H1 λy H2=>R x y H2) {Q:Value→Shared→Prop} {f:Value→Value→Sem Value}
  (hf:∀v u s2 x y H2,eZ X pins σ H2 s2→fT x v→fT y u→R x y H2→wpAny (model X.prog X.w) X.A (f v u) Q X.xe s2):
  wpAny (model X.prog X.w) X.A (eval a X.env) (λv s₁=>wpAny (model X.prog X.w) X.A (eval b X.env) (λu s₂=>wpAny (model X.prog X.w) X.A (f v u) Q X.xe s₂) X.xe s₁) X.xe s:=by
 refine thn (ha pins s σ H _ I h) λv s1 ⟨x,H1,I1,r1,q1⟩=>?_;refine thn (hb pins s1 σ H1 _ I1 q1) λu s2 ⟨y,H2,I2,r2,q2⟩=>?_;exact hf v u s2 x y H2 I2 r1 r2 q2
theorem eu{op:Operator}{r:R2}(ho:mf X (binaryOp op) r)(ha:PE X a ta)(hb:PE X b tb):PE X (.BinOp a op b pos) (eC r ta tb):=by intro pins s σ H Q I h;exact wpAny_BinOp (JS ha hb I h λv u s2 x y H2 I2 rx ry q=>ho pins s2 σ H2 x y v u Q I2 rx ry q)
theorem ii(ho:NL X (unaryOp op) r)(ha:PE X a ta):PE X (.UnaryOp op a pos) (mK r ta):=by intro pins s σ H Q I h;exact UnaryOp_ (thn (ha pins s σ H _ I h) λv s1 ⟨x,H1,I1,r1,q1⟩=>ho pins s1 σ H1 x v Q I1 r1 q1)
theorem Lc{f:Value→Value→Sem Value}{C:Int→Int→Prop}{g:Int→Int→Int}
  (rule:∀(i j:Int)(t u:Tok)(s:Shared)(Q:Value→Shared→Prop)(E:Value→Shared→Prop),C i j→Q (.int (g i j) s.toks) {s with toks:=s.toks+1}→wpAny (model X.prog X.w) X.A (f (.int i t) (.int j u)) Q E s):
  mf X f (rI C λi j=>.int (g i j)):=by
 intro pins s σ H x y v u Q I rx ry h;obtain⟨i,rfl,h2⟩:=onI.ex h;obtain⟨j,rfl,hc,q⟩:=onI.ex h2;obtain⟨t,rfl⟩:=rx;obtain⟨t',rfl⟩:=ry;exact rule i j t t' s _ _ hc ⟨.int (g i j),H,I.tok _,⟨_,rfl⟩,q⟩
theorem KC{f:Value→Value→Sem Value}{g:Int→Int→Int}
  (rule:∀(i j:Int)(t u:Tok)(s:Shared)(Q:Value→Shared→Prop)(E:Value→Shared→Prop),Q (.int (g i j) s.toks) {s with toks:=s.toks+1}→wpAny (model X.prog X.w) X.A (f (.int i t) (.int j u)) Q E s):
  mf X f (yC λi j=>.int (g i j)):=by
 intro pins s σ H x y v u Q I rx ry h;obtain⟨i,rfl,h2⟩:=onI.ex h;obtain⟨j,rfl,q⟩:=onI.ex h2;obtain⟨t,rfl⟩:=rx;obtain⟨t',rfl⟩:=ry;exact rule i j t t' s _ _ ⟨.int (g i j),H,I.tok _,⟨_,rfl⟩,q⟩
theorem Ei{f:Value→Value→Sem Value}{g:Int→Int→Bool}
  (rule:∀(i j:Int)(t u:Tok)(s:Shared)(Q:Value→Shared→Prop)(E:Value→Shared→Prop),Q (.bool (g i j)) s→wpAny (model X.prog X.w) X.A (f (.int i t) (.int j u)) Q E s):
  mf X f (yC λi j=>.bl (g i j)):=by
 intro pins s σ H x y v u Q I rx ry h;obtain⟨i,rfl,h2⟩:=onI.ex h;obtain⟨j,rfl,q⟩:=onI.ex h2;obtain⟨t,rfl⟩:=rx;obtain⟨t',rfl⟩:=ry;exact rule i j t t' s _ _ ⟨.bl (g i j),H,I,rfl,q⟩
def JZ(i j:Int):Prop:=0<j∧j<1073741824
def LU(i j:Int):Prop:=0≤j∧j≤1000000∧i.natAbs<2^64
def FH(i j:Int):Prop:=(-(2^64)<i∧i<2^64)∨(-(2^64)<j∧j<2^64)
theorem FH.ok(h:FH i j):IntMulOk i j:=by
 rcases h with⟨h1,h2⟩|⟨h1,h2⟩
 ·exact .of_left (intBits_le_64 h1 h2)
 ·exact .of_right (intBits_le_64 h1 h2)
theorem k0:mf X (binaryOp .Add) (yC λi j=>.int (i+j)):=KC λ_ _ _ _ _ _ _ q=>add_int q
theorem iR:mf X (binaryOp .Sub) (yC λi j=>.int (i-j)):=KC λ_ _ _ _ _ _ _ q=>sub_int q
theorem Ia:mf X (binaryOp .Mult) (rI FH λi j=>.int (i*j)):=Lc λ_ _ _ _ _ _ _ hc q=>mul_int q hc.ok
theorem mF:mf X (binaryOp .FloorDiv) (rI JZ λi j=>.int (i / j)):=Lc λi j _ _ _ _ _ hc q=>by have h1:(0:Int)<j:=hc.1;have h2:j<1073741824:=hc.2;exact floordiv_int (by lia) (by rw[Int.fdiv_eq_ediv_of_nonneg i (by lia)];exact q) (.inl (cu (by lia)))
theorem iu:mf X (binaryOp .Mod) (rI (λ_ j=>0<j) λi j=>.int (i%j)):=Lc λi j _ _ _ _ _ hc q=>by have h1:(0:Int)<j:=hc;exact mod_int' (by lia) (by rw[Int.fmod_eq_emod_of_nonneg i (by lia)];exact q)
theorem Bz:mf X (binaryOp .Pow) (rI LU λi j=>.int (i^j.toNat)):=Lc λ_ _ _ _ _ _ _ hc q=>pow_int_small hc.1 hc.2.1 hc.2.2 q
theorem Oe{f:Value→Sem Value}{g:Int→Int}
  (rule:∀(i:Int)(t:Tok)(s:Shared)(Q:Value→Shared→Prop)(E:Value→Shared→Prop),Q (.int (g i) s.toks) {s with toks:=s.toks+1}→wpAny (model X.prog X.w) X.A (f (.int i t)) Q E s):
  NL X f (rU λi=>.int (g i)):=by
 intro pins s σ H x v Q I rx h;obtain⟨i,rfl,q⟩:=onI.ex h;obtain⟨t,rfl⟩:=rx;exact rule i t s _ _ ⟨.int (g i),H,I.tok _,⟨_,rfl⟩,q⟩
theorem gz:NL X (unaryOp .USub) (rU λi=>.int (-i)):=Oe λ_ _ _ _ _ q=>neg_int q
end
def zF:V→V→Bool
 | .non,.non=>true|.non,.int _=>true|.int _,.non=>true|.non,.bl _=>true|.bl _,.non=>true|.non,.str _=>true|.str _,.non=>true
 | .int _,.int _=>true|.bl _,.bl _=>true|.str _,.str _=>true|.byt _,.byt _=>true
 | .int _,.str _=>true|.str _,.int _=>true|.bl _,.str _=>true|.str _,.bl _=>true
 | _,_=>false
def kN:R2:=λx y H Q=>zF x y=true∧Q (.bl (decide (x=y))) H
def zO:R2:=λx y H Q=>zF x y=true∧Q (.bl (!decide (x=y))) H
theorem yU:decide (V.int i=V.int j)=(i==j):=by rw[cB];simp
theorem Cg:decide (V.bl i=V.bl j)=(i==j):=by rw[cB];simp
theorem yT:decide (V.str i=V.str j)=(i==j):=by rw[cB];simp
theorem yV:decide (V.byt i=V.byt j)=(i.toList==j.toList):=by rw[cB];cases i;cases j;simp
section
variable {X:Cx}{a b c:Expr}{ta tb tc:TE}{pos:Pos}
theorem fq(I:eZ X pins σ H s)(q:Q (.bl k) H)(e:k=k'):EP X pins σ Q (.bool k') s:=by subst e;exact⟨.bl k,H,I,rfl,q⟩
theorem fg:mf X (compareOp .Eq) kN:=by
 intro pins s σ H x y v u Q I rx ry h;obtain⟨hs,q⟩:=h;cases x with
 | non=>
  cases rx;cases y with
  | non=>cases ry;exact PySem.EqNone.eq_none_none (fq I q (by simp))
  | bl j=>cases ry;exact PySem.EqNone.eq_none_bool (fq I q (by simp))
  | int j=>obtain⟨t',rfl⟩:=ry;exact PySem.EqNone.eq_none_int (fq I q (by simp))
  | str j=>obtain⟨t',rfl⟩:=ry;exact PySem.EqNone.eq_none_str (fq I q (by simp))
  | _=>exact absurd (show false=true from hs) aR
 | bl i=>
  cases rx;cases y with
  | non=>cases ry;exact PySem.EqNone.eq_bool_none (fq I q (by simp))
  | bl j=>cases ry;exact eq_bool (fq I q Cg)
  | str j=>obtain⟨t',rfl⟩:=ry;exact PySem.EqMixed.eq_bool_str (fq I q (by simp))
  | _=>exact absurd (show false=true from hs) aR
 | int i=>
  obtain⟨t,rfl⟩:=rx;cases y with
  | non=>cases ry;exact PySem.EqNone.eq_int_none (fq I q (by simp))
  | int j=>obtain⟨t',rfl⟩:=ry;exact eq_int (fq I q yU)
  | str j=>obtain⟨t',rfl⟩:=ry;exact PySem.EqMixed.eq_int_str (fq I q (by simp))
  | _=>exact absurd (show false=true from hs) aR
 | str i=>
  obtain⟨t,rfl⟩:=rx;cases y with
  | non=>cases ry;exact PySem.EqNone.eq_str_none (fq I q (by simp))
  | bl j=>cases ry;exact PySem.EqMixed.eq_str_bool (fq I q (by simp))
  | int j=>obtain⟨t',rfl⟩:=ry;exact PySem.EqMixed.eq_str_int (fq I q (by simp))
  | str j=>obtain⟨t',rfl⟩:=ry;exact eq_str (fq I q yT)
  | _=>exact absurd (show false=true from hs) aR
 | byt i=>
  obtain⟨t,rfl⟩:=rx;cases y with
  | byt j=>obtain⟨t',rfl⟩:=ry;exact PySem.W.eq_bytes (fq I q yV)
  | _=>exact absurd (show false=true from hs) aR
 | _=>cases y<;>exact absurd (show false=true from hs) aR
theorem lZ:mf X (compareOp .NotEq) zO:=by
 intro pins s σ H x y v u Q I rx ry h;obtain⟨hs,q⟩:=h;cases x with
 | non=>
  cases rx;cases y with
  | non=>cases ry;exact PySem.EqNone.ne_none_none (fq I q (by simp))
  | bl j=>cases ry;exact PySem.EqNone.ne_none_bool (fq I q (by simp))
  | int j=>obtain⟨t',rfl⟩:=ry;exact PySem.EqNone.ne_none_int (fq I q (by simp))
  | str j=>obtain⟨t',rfl⟩:=ry;exact PySem.EqNone.ne_none_str (fq I q (by simp))
  | _=>exact absurd (show false=true from hs) aR
 | bl i=>
  cases rx;cases y with
  | non=>cases ry;exact PySem.EqNone.ne_bool_none (fq I q (by simp))
  | bl j=>cases ry;exact ne_bool (fq I q (congrArg not Cg))
  | str j=>obtain⟨t',rfl⟩:=ry;exact PySem.EqMixed.ne_bool_str (fq I q (by simp))
  | _=>exact absurd (show false=true from hs) aR
 | int i=>
  obtain⟨t,rfl⟩:=rx;cases y with
  | non=>cases ry;exact PySem.EqNone.ne_int_none (fq I q (by simp))
  | int j=>obtain⟨t',rfl⟩:=ry;exact ne_int (fq I q (congrArg not yU))
  | str j=>obtain⟨t',rfl⟩:=ry;exact PySem.EqMixed.ne_int_str (fq I q (by simp))
  | _=>exact absurd (show false=true from hs) aR
 | str i=>
  obtain⟨t,rfl⟩:=rx;cases y with
  | non=>cases ry;exact PySem.EqNone.ne_str_none (fq I q (by simp))
  | bl j=>cases ry;exact PySem.EqMixed.ne_str_bool (fq I q (by simp))
  | int j=>obtain⟨t',rfl⟩:=ry;exact PySem.EqMixed.ne_str_int (fq I q (by simp))
  | str j=>obtain⟨t',rfl⟩:=ry;exact ne_str (fq I q (congrArg not yT))
  | _=>exact absurd (show false=true from hs) aR
 | byt i=>
  obtain⟨t,rfl⟩:=rx;cases y with
  | byt j=>obtain⟨t',rfl⟩:=ry;exact PySem.W.ne_bytes (fq I q (congrArg not yV))
  | _=>exact absurd (show false=true from hs) aR
 | _=>cases y<;>exact absurd (show false=true from hs) aR
theorem rL:mf X (compareOp .Lt) (yC λi j=>.bl (decide (i<j))):=Ei λ_ _ _ _ _ _ _ q=>lt_int q
theorem B8:mf X (compareOp .LtE) (yC λi j=>.bl (decide (i≤j))):=Ei λ_ _ _ _ _ _ _ q=>le_int q
theorem la:mf X (compareOp .Gt) (yC λi j=>.bl (decide (j<i))):=Ei λ_ _ _ _ _ _ _ q=>gt_int q
theorem KB:mf X (compareOp .GtE) (yC λi j=>.bl (decide (j≤i))):=Ei λ_ _ _ _ _ _ _ q=>ge_int q
theorem Ee:mf X (compareOp .IsNot) (λx y H Q=>y=.non∧Q (.bl (!decide (x=.non))) H):=by
 intro pins s σ H x y v u Q I rx ry h;obtain⟨rfl,q⟩:=h;cases ry;refine isnot_none_gen (fq I q ?_);cases x<;>first
  | (cases rx;rfl)
  | (obtain⟨t,rfl⟩:=rx;rfl)
theorem CD(b:Expr)(h:op≠.In:=by decide)(h2:op≠.NotIn:=by decide):behindInMarks op b=false:=by
 have e1:(op==CmpOp.In)=false:=by cases op<;>first|rfl|exact absurd rfl h
 have e2:(op==CmpOp.NotIn)=false:=by cases op<;>first|rfl|exact absurd rfl h2
 cases b<;>simp[behindInMarks,e1,e2]
theorem yD{op:CmpOp}{r:R2}(ho:mf X (compareOp op) r)(ha:PE X a ta)(hb:PE X b tb)(hm:behindInMarks op b=false):PE X (.Compare a [op] [b] pos) (eC r ta tb):=by intro pins s σ H Q I h;exact wpAny_Compare1 (JS ha hb I h λv u s2 x y H2 I2 rx ry q=>ho pins s2 σ H2 x y v u Q I2 rx ry q) hm
def eL(t:TE):TT:=λσ H Q=>t σ H λx H'=>∃k,x=.bl k∧Q k H'
theorem ky(ho:mf X (compareOp op) r)(ha:PE X a ta)(hb:PE X b tb)(hm:behindInMarks op b=false):PT X (.Compare a [op] [b] pos) (eL (eC r ta tb)):=by
 intro pins s σ H Q I h;refine wpAny_isTrue_Compare1 (thn (ha pins s σ H _ I h) λv s1 ⟨x,H1,I1,r1,q1⟩=>thn (hb pins s1 σ H1 _ I1 q1) λu s2 ⟨y,H2,I2,r2,q2⟩=>
  thn (ho pins s2 σ H2 x y v u _ I2 r1 r2 q2) λc s3 ⟨z,H3,I3,r3,k,e,q3⟩=>?_) hm
 subst e;cases r3;exact wpAny_truthy_bool ⟨H3,I3,q3⟩
def BB(r r':R2)(ta tb tc:TE):TE:=λσ H Q=>ta σ H λx H1=>tb σ H1 λy H2=>r x y H2 λz H3=>∃k,z=.bl k∧
 (if k=true then tc σ H3 λw' H4=>r' y w' H4 Q else Q (.bl false) H3)
theorem Bp(ho:mf X (compareOp op) r)(ho':mf X (compareOp op') r')(ha:PE X a ta)(hb:PE X b tb)(hc:PE X c tc)
  (hm:lastMarks [op,op'] [b,c]=false:=by with_unfolding_all rfl):PT X (.Compare a [op,op'] [b,c] pos) (eL (BB r r' ta tb tc)):=by
 intro pins s σ H Q I h;refine isTrue_chain (thn (ha pins s σ H _ I h) λv s1 ⟨x,H1,I1,r1,q1⟩=>test_link (thn (hb pins s1 σ H1 _ I1 q1) λu s2 ⟨y,H2,I2,r2,q2⟩=>
  thn (ho pins s2 σ H2 x y v u _ I2 r1 r2 q2) λd s3 ⟨z,H3,I3,r3,k,e,q3⟩=>?_)) hm
 subst e;cases r3;refine wpAny_truthy_bool ?_;cases k with
 | false=>obtain⟨k',e',q'⟩:=q3;cases e';exact ite_ff ⟨H3,I3,q'⟩
 | true=>refine ite_tt (test_last (thn (hc pins s3 σ H3 _ I3 q3) λw' s4 ⟨z',H4,I4,r4,q4⟩=>thn (ho' pins s4 σ H4 y z' u w' _ I4 r2 r4 q4) λd' s5 ⟨z2,H5,I5,r5,k2,e2,q5⟩=>?_));subst e2;cases r5;exact wpAny_truthy_bool ⟨H5,I5,q5⟩
theorem oJ:(sizeLine:Nat)<2^63:=by rw[sizeLine_eq];decide
def rJ:R2:=λx y H Q=>onS x λi=>onS y λj=>i.length+j.length≤sizeLine∧Q (.str (i++j)) H
theorem jv:mf X (binaryOp .Add) rJ:=by intro pins s σ H x y v u Q I rx ry h;obtain⟨i,rfl,h⟩:=onS.ex h;obtain⟨j,rfl,hz,q⟩:=onS.ex h;obtain⟨t,rfl⟩:=rx;obtain⟨t',rfl⟩:=ry;exact add_str (λt' tk=>⟨.str (i++j),H,I.tok _,⟨_,rfl⟩,q⟩) hz
theorem lT(r:fL [x] us):∃u,us=[u]∧fT x u:=by
 cases r with
 | cons r1 r2=>cases r2;exact⟨_,rfl,r1⟩
theorem FK(r:fL [x,y] us):∃u w',us=[u,w']∧fT x u∧fT y w':=by
 cases r with
 | cons r1 r2=>
  cases r2 with
  | cons r3 r4=>cases r4;exact⟨_,_,rfl,r1,r3⟩
theorem vL:lI X (.builtin "abs") (λxs H Q=>∃i,xs=[.int i]∧Q (.int (if i<0 then -i else i)) H):=by intro pins s σ H xs us Q I r h;obtain⟨i,rfl,q⟩:=h;obtain⟨u,rfl,t,rfl⟩:=lT r;exact call_abs_int λu tk=>⟨.int (if i<0 then -i else i),H,I.tok _,⟨_,rfl⟩,q⟩
theorem zv(hc:X.calm=true):lI X (.builtin "min") (λxs H Q=>∃i j,xs=[.int i,.int j]∧Q (.int (if j<i then j else i)) H):=by
 intro pins s σ H xs us Q I r h;obtain⟨i,j,rfl,q⟩:=h;obtain⟨u,w',rfl,⟨t,rfl⟩,⟨t',rfl⟩⟩:=FK r;refine min_two_ints (I.ok.hd hc) λh' tk k=>⟨_,H,I.kept k,?_,q⟩;by_cases hj:j<i
 ·rw[if_pos hj,if_pos hj];exact⟨_,rfl⟩
 ·rw[if_neg hj,if_neg hj];exact⟨_,rfl⟩
theorem rb:lI X (.type "int") (λxs H Q=>(∃i,xs=[.int i]∧Q (.int i) H)∨∃k,xs=[.bl k]∧Q (.int (if k then 1 else 0)) H):=by
 intro pins s σ H xs us Q I r h;rcases h with⟨i,rfl,q⟩|⟨k,rfl,q⟩
 ·obtain⟨u,rfl,t,rfl⟩:=lT r;exact call_int_int ⟨.int i,H,I,⟨_,rfl⟩,q⟩
 ·obtain⟨u,rfl,r1⟩:=lT r;cases r1;exact call_int_bool ⟨.int (if k then 1 else 0),H,I.tok _,⟨_,rfl⟩,q⟩
end
structure xG(h:Heap)(x dx C:Addr)(mA:Str→Option Value):Prop where
 obj:h.get? x=some (PySem.W.instObj C dx)
 ns:h.Ns1 dx mA
 ne:dx≠x
theorem zY{h:Heap}{dx:Addr}{mA:Str→Option Value}(n:h.Ns1 dx mA):∃od,h.get? dx=some od∧∀name,PySem.W.lookIn name od=some (mA name):=by
 obtain⟨o,es,ep,ho,hd,hk,_,hm⟩:=n;refine⟨o,ho,λname=>?_⟩;have e:=hm name;unfold nsFind findBy at e;rw[←Array.find?_toList]at e;unfold PySem.W.lookIn;rw[hd];dsimp only;split
 ·rename_i y q;rw[q]at e;exact congrArg some e
 ·rename_i q;rw[q]at e;have a:es.toList.any (·.refKey)=false:=by rw[List.any_eq_false];intro y hy;obtain⟨z,t,hkey⟩:=hk y (Array.mem_toList_iff.mp hy);simp[DictEntry.refKey,hkey]
  have a':¬es.toList.any (·.refKey)=true:=by rw[a];exact aR
  rw[if_neg a'];exact congrArg some e
theorem xG.look(I:xG h x dx C mA):∃od,PySem.W.InstAt h x (PySem.W.instObj C dx) C (some od)∧∀name,PySem.W.lookIn name od=some (mA name):=
 let ⟨od,ho,hl⟩:=zY I.ns
 ⟨od,⟨I.obj,rfl,rfl,ho⟩,hl⟩
section
variable {prog:Program}{w:World}{A:Around}{E:Value→Shared→Prop}{s:Shared}{K:aA}{x dx C f:Addr}{mA:Str→Option Value}{name:Str}{v:Value}
theorem E1(X:K.In s.heap)(I:xG s.heap x dx C mA)(hg:PySem.W.plainGet K C name=true)(hh:PySem.W.hasDictIn K C=true)
  (ha:PySem.W.findIn K (.ref C) name=some none) (hv:mA name=some v) (hv':PySem.W.handedIn v=true) (h:Q v {s with toks:=s.toks+1}):
  wpAny (model prog w) A (getAttr (.ref x) name expr) Q E s:=by
 obtain⟨od,J,hl⟩:=I.look;exact PySem.W.get_value X J (cP hg).1 (PySem.W.findObj_own hh ha rfl (by rw[hl,hv])) hv' h
theorem CZ(X:K.In s.heap)(I:xG s.heap x dx C mA)(hg:PySem.W.plainGet K C name=true)
  (hf:PySem.W.findIn K (.ref C) name=some (some (.ref f))) (ht:PySem.W.isFn K (.ref f)=true) (hv:mA name=none) (h:Q (.ref f,[.ref x]) s):
  wpAny (model prog w) A (getMethod (.ref x) name pl) Q E s:=by
 obtain⟨od,J,hl⟩:=I.look;exact PySem.W.method_fn X J (cP hg).1 (cP hg).2 hf (beq_iff_eq.mp ht) (by show(PySem.W.lookIn name od).map (·.isSome)=some false;rw[hl,hv];rfl) h
theorem EG(X:K.In s.heap)(I:xG s.heap x dx C mA)
  (hs:PySem.W.findIn K (.ref C) "__setattr__"=some (some (.builtin "object.__setattr__"))) (hp:PySem.W.plainOver K C=true) (ht:PySem.W.takerIn K C name=some none) (hh:PySem.W.hasDictIn K C=true)
  (hw:PySem.Within mA ns) (hsz:ns.length≤sizeLine)
  (h:∀h',xG h' x dx C (λy=>if y=name then some v else mA y)→Heap.SameBut dx s.heap h'→Q () {s with heap:=h',toks:=s.toks+2}):
  wpAny (model prog w) A (setAttr (.ref x) name v) Q E s:=by
 obtain⟨od,J,hl⟩:=I.look;refine PySem.W.set_plain X J hs (PySem.W.osa_open (s:={s with toks:=s.toks+1}) (r:=none) X J hp ht λb=>?_);obtain⟨cd,hc,hd'⟩:=PySem.W.any_some hh;have hx:s.heap.get? x=some ⟨.ref C,some dx,.plain,#[]⟩:=I.obj;refine wpAny_bind (wpAny_pure (wpAny_bind (wpAny_bind (wpAny_loadPart hx (wpAny_bind (PySem.W.Looks.here (s:={s with toks:=s.toks+1}) (PySem.W.looks_clsIn X hc) ?_))))));rw[hd'];refine wpAny_pure (a:=some dx) (wpAny_bind (wpAny_pure (wpAny_bind ?_)));refine wpAny_nsSet1 (s:={s with toks:=s.toks+1}) I.ns λh' hn2 hs2=>?_;obtain⟨oD,esD,epD,hoD,hdD,hcD⟩:=hn2.count (PySem.Within.cons name v hw);refine wpAny_bind (wpAny_lookBehind hoD (by rw[hdD];exact pastItsLine_dict (aY hcD (by rw[aE];lia))) ?_);exact wpAny_pure (h _ ⟨(hs2.2 _ (af I.ne)).trans I.obj,hn2,I.ne⟩ hs2)
theorem CJ(X:K.In s.heap)(hm:PySem.W.makesIn K C=true)
  (hi:PySem.W.findIn K (.ref C) "__init__"=some (some (.ref f))) (hf:PySem.W.typeIn K (.ref f)=some (.type "function"))
  (h:codeAny (model prog w) (A.under (.builtin "type.__call__" ⟨.ref C::vs,kw⟩)) (.call (.ref f) ⟨.ref (s.heap.objs.size+1)::vs,kw⟩) (PySem.W.InitBack (s.heap.objs.size+1) R)
   {s with heap:=(s.heap.push PySem.W.emptyDict).push (PySem.W.instObj C s.heap.objs.size)}):
  codeAny (model prog w) A (.call (.ref C) ⟨vs,kw⟩) R s:=by
 obtain⟨hh,g,d,t,os⟩:=s;exact PySem.W.make_core (PySem.W.makes_of X hm) (PySem.W.looks_findIn X hi) (λself=>PySem.W.bind_fn X self hf) (.inl rfl) h
end
def iM(f:Str)(v:V):List (Str×V)→List (Str×V)
 | []=>[(f,v)]
 | (g,x)::r=>if g=f then(g,v)::r else(g,x)::iM f v r
theorem om(f g:Str)(v:V):∀fs:List (Str×V),(iM f v fs).lookup g=if g=f then some v else fs.lookup g
 | []=>by
  show List.lookup g [(f,v)]=_;by_cases h:g=f
  ·have hb:(g==f)=true:=beq_iff_eq.mpr h;simp only[List.lookup,hb,if_pos h]
  ·have hb:(g==f)=false:=beq_eq_false_iff_ne.mpr h;simp only[List.lookup,hb,if_neg h]
 | (k,x)::r=>by
  have ih:=om f g v r;rw[show iM f v ((k,x)::r)=(if k=f then(k,v)::r else(k,x)::iM f v r)from rfl];by_cases hk:k=f
  ·rw[if_pos hk];by_cases h:g=k
   ·have hb:(g==k)=true:=beq_iff_eq.mpr h;simp only[List.lookup,hb,if_pos (h.trans hk)]
   ·have hb:(g==k)=false:=beq_eq_false_iff_ne.mpr h;simp only[List.lookup,hb,if_neg (λe:g=f=>h (e.trans hk.symm))]
  ·rw[if_neg hk];by_cases h:g=k
   ·have hb:(g==k)=true:=beq_iff_eq.mpr h;simp only[List.lookup,hb,if_neg (λe:g=f=>hk (h.symm.trans e))]
   ·have hb:(g==k)=false:=beq_eq_false_iff_ne.mpr h;simp only[List.lookup,hb];exact ih
theorem oO(f:Str)(v:V):∀fs:List (Str×V),f∈(iM f v fs).map (·.1)∧∀g,g∈fs.map (·.1)→g∈(iM f v fs).map (·.1)
 | []=>⟨by simp[iM],λg h=>by simp at h⟩
 | (k,x)::r=>by
  obtain⟨i1,i2⟩:=oO f v r;rw[show iM f v ((k,x)::r)=(if k=f then(k,v)::r else(k,x)::iM f v r)from rfl];by_cases hk:k=f
  ·rw[if_pos hk];subst hk;exact⟨by simp,λg h=>by simpa using h⟩
  ·rw[if_neg hk];refine⟨?_,λg h=>?_⟩
   ·rw[aX];exact bC _ i1
   ·rw[aX]at h⊢;rcases aB.mp h with e|e
    ·exact aB.mpr (.inl e)
    ·exact bC _ (i2 g e)
theorem oo(f:Str)(v:V):∀fs:List (Str×V),(iM f v fs).length≤fs.length+1
 | []=>by simp[iM]
 | (k,x)::r=>by
  have ih:=oo f v r;rw[show iM f v ((k,x)::r)=(if k=f then(k,v)::r else(k,x)::iM f v r)from rfl];by_cases hk:k=f
  ·rw[if_pos hk,aE,aE];lia
  ·rw[if_neg hk,aE,aE];lia
theorem lO.some_of(r:lO (some v) o):∃u,o=some u∧fT v u:=by
 cases o with
 | none=>exact(show False from r).elim
 | some u=>exact⟨u,rfl,r⟩
theorem lO.none_of(r:lO none o):o=none:=by
 cases o with
 | none=>rfl
 | some u=>exact(show False from r).elim
theorem zk(r:fT v u):PySem.W.handedIn u=true:=by
 cases v with
 | non=>cases(show u=Value.none from r);rfl
 | bl b=>cases(show u=Value.bool b from r);rfl
 | int i=>obtain⟨t,e⟩:=(show ∃t,u=Value.int i t from r);cases e;rfl
 | str x=>obtain⟨t,e⟩:=(show ∃t,u=Value.str x t from r);cases e;rfl
 | byt b=>obtain⟨t,e⟩:=(show ∃t,u=Value.bytes b t from r);cases e;rfl
 | flt b=>obtain⟨t,e⟩:=(show ∃t,u=Value.float b t from r);cases e;rfl
 | ref a=>cases(show u=Value.ref a from r);rfl
 | ty n=>cases(show u=Value.type n from r);rfl
section
variable {P:Program}{w:World}{H H':Hp}{h h':Heap}{a C dx:Addr}{fs fs':List (Str×V)}
theorem pR(hok:mq P w H h)(e:H a=some (.ins C dx fs)):∃mA,xG h a dx C mA∧(∀f,lO (fs.lookup f) (mA f))∧PySem.Within mA (fs.map (·.1))∧fs.length≤1000∧H dx=some (.own a):=by obtain⟨d,z,ne,ob,mA,n,r,q⟩:=(show gf P w H h a (.ins C dx fs)from hok a _ e);exact⟨mA,⟨ob,n,ne⟩,r,q,z,d⟩
end
structure xJ(K:aA)(C:Addr):Prop where
 pg:PySem.W.plainGet K C Str.empty=true
 hd:PySem.W.hasDictIn K C=true
 po:PySem.W.plainOver K C=true
 sa:PySem.W.findIn K (.ref C) "__setattr__"=some (some (.builtin "object.__setattr__"))
theorem xJ.get{K:aA}{C:Addr}(c:xJ K C)(f:Str):PySem.W.plainGet K C f=true:=c.pg
def jG(K:aA)(C:Addr)(f:Str):Prop:=PySem.W.findIn K (.ref C) f=some none
theorem jG.taker{K:aA}{C:Addr}{f:Str}(n:jG K C f):PySem.W.takerIn K C f=some none:=by unfold PySem.W.takerIn;rw[show PySem.W.findIn K (.ref C) f=some none from n];rfl
structure lq(K:aA)(C:Addr)(m:Str)(f:Addr):Prop where
 at_:PySem.W.findIn K (.ref C) m=some (some (.ref f))
 fn:PySem.W.isFn K (.ref f)=true
 kp:PySem.W.keepIn K (.ref f)=true
section
variable {X:Cx}{pins:List (Addr×Obj)}{σ:St}{H:Hp}{s:Shared}{a C dx:Addr}{fs:List (Str×V)}{f:Str}{v:V}{A:Around}{E:Value→Shared→Prop}
theorem qf(I:eZ X pins σ H s)(e:H a=some (.ins C dx fs))(c:xJ X.K C)(n:jG X.K C f)(l:fs.lookup f=some v)
  (h:∀u s',eZ X pins σ H s'→fT v u→Q u s'):wpAny (model X.prog X.w) A (getAttr (.ref a) f b) Q E s:=by
 obtain⟨mA,O,r,_,_,_⟩:=pR I.hok e;obtain⟨u,hu,ru⟩:=lO.some_of (v:=v) (o:=mA f) (by rw[←l];exact r f);exact E1 I.kIn O (c.get f) c.hd n hu (zk ru) (h u _ (I.tok _) ru)
theorem wk(I:eZ X pins σ H s)(e:H a=some (.ins C dx fs))(c:xJ X.K C)(k:lq X.K C m g)(l:fs.lookup m=none)
  (h:Q (.ref g,[.ref a]) s):wpAny (model X.prog X.w) A (getMethod (.ref a) m pl) Q E s:=by
 obtain⟨mA,O,r,_,_,_⟩:=pR I.hok e;have hn:mA m=none:=lO.none_of (by rw[←l];exact r m);exact CZ I.kIn O (c.get m) k.at_ k.fn hn h
theorem qO(I:eZ X pins σ H s)(e:H a=some (.ins C dx fs))(c:xJ X.K C)(n:jG X.K C f)(hl:fs.length<1000)(ry:fT y u)
  (h:∀s',eZ X pins σ (upd H a (.ins C dx (iM f y fs))) s'→Q () s'):wpAny (model X.prog X.w) A (setAttr (.ref a) f u) Q E s:=by
 obtain⟨mA,O,r,wi,_,ho⟩:=pR I.hok e;have hz:(fs.map (·.1)).length≤sizeLine:=by rw[aT,sizeLine_eq];lia
 refine EG I.kIn O c.sa c.po n.taker c.hd wi hz λh' O' sb=>h _ ?_;have hd:∃o,h'.get? dx=some o:=let ⟨o,_,_,e',_⟩:=O'.ns;⟨o,e'⟩;refine I.write (x:=a) (e:=dx) (by rw[e];exact aJ) (.inr ho) (λb q hb z=>(sb.2 b hb).trans z) hd ?_;refine⟨by rw[dj O.ne];exact ho,?_,O.ne,O'.obj,_,O'.ns,λg=>?_,λg hg=>?_⟩
 ·have:=oo f y fs;lia
 ·show lO ((iM f y fs).lookup g) (if g=f then some u else mA g);rw[om];by_cases q:g=f
  ·rw[if_pos q,if_pos q];exact ry
  ·rw[if_neg q,if_neg q];exact r g
 ·by_cases q:g=f
  ·rw[q];exact(oO f y fs).1
  ·refine(oO f y fs).2 g (wi g λz=>hg ?_);show(if g=f then some u else mA g)=none;rw[if_neg q];exact z
theorem eZ.made(I:eZ X pins σ H s):eZ X pins σ (upd (upd H s.heap.objs.size (.own (s.heap.objs.size+1))) (s.heap.objs.size+1) (.ins C s.heap.objs.size []))
  {s with heap:=(s.heap.push PySem.W.emptyDict).push (PySem.W.instObj C s.heap.objs.size)}:=by
 have e1:(s.heap.push PySem.W.emptyDict).get? s.heap.objs.size=some PySem.W.emptyDict:=Heap.get?_push_size s.heap rfl;have e2:((s.heap.push PySem.W.emptyDict).push (PySem.W.instObj C s.heap.objs.size)).get? (s.heap.objs.size+1)=some (PySem.W.instObj C s.heap.objs.size):=by have:=Heap.get?_push_size (s.heap.push PySem.W.emptyDict) (o:=PySem.W.instObj C s.heap.objs.size) rfl;rwa[Heap.size_push]at this
 have e3:(s.heap.push PySem.W.emptyDict).Ns s.heap.objs.size (λ_=>none):=⟨PySem.W.emptyDict,#[],_,e1,rfl,(λe he=>absurd he (by simp)),λ_=>rfl⟩;have I1:=I.laid (a:=s.heap.objs.size) (o:=.own (s.heap.objs.size+1)) (h':=s.heap.push PySem.W.emptyDict) (t':=s.toks) (λb u q=>Heap.get?_push_of_some _ q) (aC _) ⟨_,e1⟩;refine I1.laid (a:=s.heap.objs.size+1) (o:=.ins C s.heap.objs.size []) (t':=s.toks) (λb u q=>Heap.get?_push_of_some _ q) (Nat.le_of_eq (Heap.size_push _ _)) ?_;have ne:s.heap.objs.size≠s.heap.objs.size+1:=aM (cC _);refine⟨by rw[dj ne,dR],aU _,ne,e2,λ_=>none,(Heap.Ns1.of_empty e3).at λo q=>Heap.get?_push_of_some _ q,λ_=>aJ,λy hy=>absurd rfl hy⟩
theorem FE(hb:attributeBase e f env (eval e env)=eval e env)
  (h:wpAny (model prog w) A (eval e env) (λo s₁=>wpAny (model prog w) A (getAttr o f true) Q E s₁) E s):wpAny (model prog w) A (eval (.Attribute e f pos) env) Q E s:=
 Attribute_any_ h (by rw[arm_eval_Attribute,hb])
end
inductive LT(K:aA)(H:Hp)(a:Addr)(f:Str)(Q:VK):Prop
 | mk{C dx:Addr}{fs:List (Str×V)}{v:V}(h:H a=some (.ins C dx fs))(c:xJ K C)(n:jG K C f)(l:fs.lookup f=some v)(q:Q v H):LT K H a f Q
def kT(K:aA)(ta:TE)(f:Str):TE:=λσ H Q=>ta σ H λx H1=>onR x λa=>LT K H1 a f Q
def uh(K:aA)(ta tv:TE)(f:Str):TS:=λD σ H=>tv σ H λy H1=>ta σ H1 λx H2=>∃a C dx fs,x=.ref a∧H2 a=some (.ins C dx fs)∧xJ K C∧jG K C f∧fs.length<1000∧
 D.nx σ (upd H2 a (.ins C dx (iM f y fs)))
def LR(X:Cx)(op:Operator)(rd:V→V→Hp→VK→Prop):Prop:=
 ∀(pins:List (Addr×Obj))(s:Shared)(σ:St)(H:Hp)(x y:V)(u v:Value)(Q:VK),eZ X pins σ H s→fT x u→fT y v→rd x y H Q→wpAny (model X.prog X.w) X.A (inplaceOp op u v) (EP X pins σ Q) X.xe s
def pN(K:aA)(ta tv:TE)(rd:V→V→Hp→VK→Prop)(f:Str):TS:=λD σ H=>ta σ H λx H1=>∃a C dx fs v,x=.ref a∧H1 a=some (.ins C dx fs)∧xJ K C∧jG K C f∧fs.lookup f=some v∧
 tv σ H1 λy H2=>rd v y H2 λz H3=>∃dx' fs',H3 a=some (.ins C dx' fs')∧fs'.length<1000∧D.nx σ (upd H3 a (.ins C dx' (iM f z fs')))
section
variable {X:Cx}{o e value:Expr}{f:Str}{pos pos' tpos:Pos}{ta tv:TE}
theorem ir(he:PE X e ta)(hb:attributeBase e f X.env (eval e X.env)=eval e X.env):PE X (.Attribute e f pos) (kT X.K ta f):=by intro pins s σ H Q I h;refine FE hb (thn (he pins s σ H _ I h) λu s1 ⟨x,H1,I1,rx,q⟩=>?_);obtain⟨a,rfl,q⟩:=onR.ex q;obtain @⟨C,dx,fs,v,ea,c,n,l,q⟩:=q;obtain rfl:u=Value.ref a:=rx;exact qf I1 ea c n l λu' s2 I2 ru=>⟨v,H1,I2,ru,q⟩
theorem ma(ha:PE X o ta)(hv:PE X value tv)(hs:swapsWith value (some (.Attribute o f pos')) pos.line X.env=pure false):PS X (.Assign [.Attribute o f pos'] value pos) (uh X.K ta tv f):=by intro pins s σ H D I h;refine plainObj_wpAny_Assign_Attribute (thn (hv pins s σ H _ I h) λu s1 ⟨y,H1,I1,ry,q⟩=>thn (ha pins s1 σ H1 _ I1 q) λov s2 ⟨x,H2,I2,rx,a,C,dx,fs,ex,ea,c,n,l,q2⟩=>?_) hs;subst ex;obtain rfl:ov=Value.ref a:=rx;exact qO I2 ea c n l ry λs3 I3=>⟨σ,_,I3,q2⟩
theorem oF(ha:PE X o ta)(hv:PE X value tv)(hop:LR X op rd):PS X (.AugAssign (.Attribute o f tpos) op value pos) (pN X.K ta tv rd f):=by intro pins s σ H D I h;refine wpAny_AugAssign_AttributeAny (thn (ha pins s σ H _ I h) λov s1 ⟨x,H1,I1,rx,a,C,dx,fs,v,ex,ea,c,n,l,q⟩=>?_);subst ex;obtain rfl:ov=Value.ref a:=rx;refine qf I1 ea c n l λu s2 I2 ru=>thn (hv pins s2 σ H1 _ I2 q) λw3 s3 ⟨y,H2,I3,ry,q3⟩=>thn (hop pins s3 σ H2 v y u w3 _ I3 ru ry q3) λw4 s4 ⟨z,H3,I4,rz,dx',fs',ea',l',q4⟩=>?_;exact qO I4 ea' c n l' rz λs5 I5=>⟨σ,_,I5,q4⟩
def EQ:V→V→Hp→VK→Prop:=λx y H Q=>∃i j,x=.int i∧y=.int j∧Q (.int (i+j)) H
theorem wj:LR X .Add EQ:=by rintro pins s σ H x y u v Q I rx ry ⟨i,j,rfl,rfl,q⟩;obtain⟨t,rfl⟩:=(show ∃t,u=Value.int i t from rx);obtain⟨t',rfl⟩:=(show ∃t',v=Value.int j t' from ry);exact PyProof.Rows.iadd_int ⟨.int (i+j),H,I.tok _,⟨_,rfl⟩,q⟩
end
section
variable {X:Cx}{pins:List (Addr×Obj)}{σ:St}{H:Hp}{s:Shared}{A:Around}{E:Value→Shared→Prop}{Q:Value→Shared→Prop}{c:Value}{b:Bool}
inductive oW(K:aA)(H:Hp):V→Value→Prop where
 | non:oW K H .non (.type "NoneType")
 | bl(x:Bool):oW K H (.bl x) (.type "bool")
 | int(i:Int):oW K H (.int i) (.type "int")
 | str(x:Str):oW K H (.str x) (.type "str")
 | flt(x:UInt64):oW K H (.flt x) (.type "float")
 | lst{a:Addr}{xs:List V}(e:H a=some (.lst xs)):oW K H (.ref a) (.type "list")
 | frz{a:Addr}{o:Obj}{xs:List V}(e:H a=some (.frz o (.lst xs))):oW K H (.ref a) (.type "list")
 | tup{a:Addr}{xs:List V}(e:H a=some (.tup xs)):oW K H (.ref a) (.type "tuple")
 | dK{a:Addr}{kvs:List (fO×V)}(e:H a=some (.dK kvs)):oW K H (.ref a) (.type "dict")
 | dT{a:Addr}{kvs:List (List fO×V)}(e:H a=some (.dT kvs)):oW K H (.ref a) (.type "dict")
 | ins{a C dx:Addr}{fs:List (Str×V)}(e:H a=some (.ins C dx fs))(cl:xJ K C)(ha:PySem.W.findIn K (.ref C) "__class__"=some (some (.builtin "object.__class__")))
   (hn:PySem.W.specialIn K (.builtin "object.__class__") "__get__"=some (some (.builtin "getset_descriptor.__get__"))) (htk:PySem.W.takesIn K (.builtin "object.__class__")=some true)
   (hm:PySem.W.mroIn K C (.type "object")=some true):oW K H (.ref a) (.ref C)
theorem zi(I:eZ X pins σ H s)(rx:fT x u)(ty:oW X.K H x t)(e:PySem.W.kitOne X.K t c=some b)(h:∀tk,Q (.bool b) {s with toks:=tk}):
  wpAny (model X.prog X.w) A (call (.builtin "isinstance") [u,c]) Q E s:=by
 cases ty with
 | non=>cases(show u=Value.none from rx);exact bE PySem.W.kitx_none I.kIn aJ e (λz=>nomatch z) h
 | bl y=>cases(show u=Value.bool y from rx);exact bE PySem.W.kitx_bool I.kIn aJ e (λz=>nomatch z) h
 | int i=>obtain⟨t,q⟩:=(show ∃t,u=Value.int i t from rx);cases q;exact bE PySem.W.kitx_int I.kIn aJ e (λz=>nomatch z) h
 | str y=>obtain⟨t,q⟩:=(show ∃t,u=Value.str y t from rx);cases q;exact bE PySem.W.kitx_str I.kIn aJ e (λz=>nomatch z) h
 | flt y=>obtain⟨t,q⟩:=(show ∃t,u=Value.float y t from rx);cases q;exact bE PySem.W.kitx_float I.kIn aJ e (λz=>nomatch z) h
 | @lst a xs ea=>
  cases(show u=Value.ref a from rx);obtain⟨_,_,n,_,h1⟩:=(show gf X.prog X.w H s.heap a (.lst xs)from I.hok a _ ea);exact bE PySem.W.kitx_list I.kIn ⟨_,h1,rfl⟩ e (λz=>nomatch z) h
 | @frz a ob xs ea=>
  cases(show u=Value.ref a from rx);obtain⟨_,_,_,n,_,h1⟩:=(show gf X.prog X.w H s.heap a (.frz ob (.lst xs))from I.hok a _ ea);exact bE PySem.W.kitx_list I.kIn ⟨_,h1,rfl⟩ e (λz=>nomatch z) h
 | @tup a xs ea=>
  cases(show u=Value.ref a from rx);obtain⟨_,_,_,p⟩:=(show gf X.prog X.w H s.heap a (.tup xs)from I.hok a _ ea);obtain⟨o,h1,h2,_⟩:=p;exact bE PySem.W.kitx_tuple I.kIn ⟨o,h1,h2⟩ e (λz=>nomatch z) h
 | @dK a kvs ea=>
  cases(show u=Value.ref a from rx);obtain⟨_,_,vs,_,p⟩:=(show gf X.prog X.w H s.heap a (.dK kvs)from I.hok a _ ea);obtain⟨o,es,ep,h1,h2,_⟩:=p;exact bE PySem.W.kitx_dict I.kIn ⟨o,h1,h2.1⟩ e (λz=>nomatch z) h
 | @dT a kvs ea=>
  cases(show u=Value.ref a from rx);obtain⟨_,_,xs,_,o,es,ep,h1,h2,_⟩:=(show gf X.prog X.w H s.heap a (.dT kvs)from I.hok a _ ea);exact bE PySem.W.kitx_dict I.kIn ⟨o,h1,h2.1⟩ e (λz=>nomatch z) h
 | @ins a C dx fs ea cl ha hn htk hm=>cases(show u=Value.ref a from rx);obtain⟨mA,O,_⟩:=pR I.hok ea;obtain⟨od,J,_⟩:=O.look;exact bE (PySem.W.kitx_own (cl.get _) cl.hd ha hn htk hm) I.kIn J e (λz=>nomatch z) h
end
structure iy(k:Nat)(A:Around):Prop where
 hd:A.handled=none
 dp:A.depth+3*k+5<recursionLimit
 un:A.units+16*k+200<cLine
theorem iy.mono(r:iy k A)(h:j≤k):iy j A:=⟨r.hd,by have:=r.dp;lia,by have:=r.un;lia⟩
theorem iy.deeper(r:iy (k+1) A)(env:Env):iy k (A.deeper env):=
 ⟨r.hd,by have:=r.dp;show A.depth+1+3*k+5<_;lia,by have:=r.un;show A.units+3+16*k+200<_;lia⟩
theorem wY{A:Around}{C:Addr}{us:List Value}{kw:List (Str×Value)}:(A.under (.builtin "type.__call__" ⟨.ref C::us,kw⟩)).depth=A.depth+1:=by
 first|rfl|simp[Around.under,Code.weight,Code.isCreation,Code.isGuard,Code.isCaller,Code.frames,Code.isFrame,guardIds]
theorem wX{A:Around}{C:Addr}{us:List Value}{kw:List (Str×Value)}:(A.under (.builtin "type.__call__" ⟨.ref C::us,kw⟩)).units=A.units+1:=by
 first|rfl|simp[Around.under,Code.cUnits,Code.frames,Code.isFrame]
theorem iy.make(r:iy (k+1) A)(C:Addr)(us:List Value)(kw:List (Str×Value)):iy k (A.under (.builtin "type.__call__" ⟨.ref C::us,kw⟩)):=
 ⟨r.hd,by have:=r.dp;rw[wY];lia,by have:=r.un;rw[wX];lia⟩
theorem iy.depth(r:iy k A):A.depth<recursionLimit:=by have:=r.dp;lia
theorem iy.units(r:iy k A):A.units+64<cLine:=by have:=r.un;lia
theorem iy.units0(r:iy k A):A.units<cLine:=by have:=r.un;lia
def dZ:TA:=λ_ H Q=>Q [] H
def dP(ta:TE)(tr:TA):TA:=λσ H Q=>ta σ H λx H1=>tr σ H1 λxs H2=>Q (x::xs) H2
section
variable {X:Cx}{e:Expr}{es:List Expr}{te:TE}{t:TA}{pos:Pos}
theorem fZ:PA X [] dZ:=λ_ _ _ _ H Q I h=>Calls.spliced_nil ⟨[],H,I,.nil,h⟩
theorem eA(ha:PE X e te)(hr:PA X es t)(hs:starEach (e::es) X.env=(false,eval e X.env)::starEach es X.env:=by rfl):PA X (e::es) (dP te t):=by intro pos pins s σ H Q I h;rw[hs];show wpAny _ _ (spliced ((false,eval e X.env)::backTo pos (starEach es X.env))) _ _ s;refine Calls.spliced_cons (thn (ha pins s σ H _ I h) λu s1 ⟨x,H1,I1,r1,q1⟩=>?_);exact thn (hr pos pins s1 σ H1 _ I1 q1) λus s2 ⟨xs,H2,I2,r2,q2⟩=>⟨x::xs,H2,I2,.cons r1 r2,q2⟩
def fS(t:TA):TE:=λσ H Q=>t σ H λxs H1=>xs.length≤sizeLine∧k6 H1 (.tup xs) Q
def fX(t:TA):TE:=λσ H Q=>t σ H λxs H1=>xs.length≤sizeLine∧k6 H1 (.lst xs) Q
theorem eU(h:PA X es t):PE X (.Tuple es x1 pos) (fS t):=by intro pins s σ H Q I hq;refine wpAny_Tuple_spliced (thn (h pos pins s σ H _ I hq) λus s1 ⟨xs,H1,I1,r,z,q⟩=>⟨by rw[←r.length];exact z,?_⟩);have hf:H1 s1.heap.objs.size=none:=I1.hok.fresh (aC _);refine⟨.ref s1.heap.objs.size,upd H1 s1.heap.objs.size (.tup xs),I1.laid (t':=s1.toks) (λb u e=>Heap.get?_push_of_some _ e) (aC _) ?_,rfl,q _ hf⟩;exact⟨z,us,r,⟨_,Heap.get?_push_size _ rfl,rfl,_,rfl⟩⟩
theorem eO(h:PA X es t):PE X (.List es pos) (fX t):=by intro pins s σ H Q I hq;refine wpAny_List_spliced (thn (h pos pins s σ H _ I hq) λus s1 ⟨xs,H1,I1,r,z,q⟩=>⟨by rw[←r.length];exact z,?_⟩);have hf:H1 s1.heap.objs.size=none:=I1.hok.fresh (aC _);refine⟨.ref s1.heap.objs.size,upd H1 s1.heap.objs.size (.lst xs),I1.laid (t':=s1.toks) (λb u e=>Heap.get?_push_of_some _ e) (aC _) ?_,rfl,q _ hf⟩;exact⟨z,us,0,r,Heap.get?_push_size _ rfl⟩
end
abbrev Sp:=List V→Hp→VK→XK→Prop
abbrev AI:=List Env→Hp→Shared→XK→Value→Shared→Prop
structure xI(P:Program)(w:World)(K:aA)(mg:Str→Option Value)(base:Heap)(A:Around)(outer:List Env)(s:Shared)(H:Hp):Prop where
 frames:A.frames=some outer
 mod:Mod K mg base
 bs:∀b o,base.get? b=some o→s.heap.get? b=some o∧H b=none
 bsz:base.objs.size≤s.heap.objs.size
 funs:s.heap.FunFrames base outer
 frf:∀b∈zn outer,H b=none
 hok:mq P w H s.heap
 bare:AllBare s.gens
def CE(outer:List Env)(P:Program)(w:World)(H:Hp)(s:Shared)(Q:VK)(u:Value)(s':Shared):Prop:=
 ∃v H',s'.os=s.os∧AllBare s'.gens∧Un (zn outer) [] H H' s.heap s'.heap∧mq P w H' s'.heap∧fT v u∧Q v H'
def CR(CX:AI)(outer:List Env)(P:Program)(w:World)(H:Hp)(s:Shared)(Q:VK)(E:XK)(r:Result)(s':Shared):Prop:=
 match r with
 | .ok (.ret u)=>CE outer P w H s Q u s'
 | .ok _=>False
 | .error e=>CX outer H s E e s'
structure lu(P:Program)(w:World)(K:aA)(mg:Str→Option Value)(base:Heap)(CX:AI)(k:Nat)(f:Addr)(fd:FuncData)(ps:List Str)(sp:Sp):Prop where
 len:∀vs H Q E,sp vs H Q E→vs.length=ps.length
 run:∀(A:Around)(outer:List Env)(s:Shared)(H:Hp)(args:Args)(us:List Value)(vs:List V)(Q:VK)(E:XK),iy k A→xI P w K mg base A outer s H→BindsTo s fd args (ps.zip us)→fL vs us→sp vs H Q E→
  codeAny (model P w) A (.call (.ref f) args) (CR CX outer P w H s Q E) s
theorem lu.imp{P:Program}{w:World}{K:aA}{mg:Str→Option Value}{base:Heap}{CX:AI}{k:Nat}{f:Addr}{fd:FuncData}{ps:List Str}{sp sp':Sp}(F:lu P w K mg base CX k f fd ps sp)
  (h:∀vs H Q E,sp' vs H Q E→sp vs H Q E):lu P w K mg base CX k f fd ps sp':=
 ⟨λvs H Q E q=>F.len vs H Q E (h _ _ _ _ q),λA outer s H args us vs Q E hr he hb hv hs=>F.run A outer s H args us vs Q E hr he hb hv (h _ _ _ _ hs)⟩
theorem xI.make{P:Program}{w:World}{K:aA}{mg:Str→Option Value}{base:Heap}{A:Around}{outer:List Env}{s:Shared}{H:Hp}(e:xI P w K mg base A outer s H)(C:Addr)(us:List Value)(kw:List (Str×Value)):
  xI P w K mg base (A.under (.builtin "type.__call__" ⟨.ref C::us,kw⟩)) outer s H:=⟨by first|exact e.frames|(simpa[Around.under,Code.envs,Code.isFrame,pushEnvs]using e.frames),e.mod,e.bs,e.bsz,e.funs,e.frf,e.hok,e.bare⟩
section
variable {X:Cx}{pins:List (Addr×Obj)}{σ:St}{H:Hp}{s s':Shared}
theorem eZ.env0(I:eZ X pins σ H s):xI X.prog X.w X.K X.mg X.base X.A X.stack s H:=
 ⟨I.ok.frames,I.ok.mod,I.bs,aY I.ok.bsz I.sz,I.stack,I.stkFree,I.hok,I.bare⟩
theorem eZ.after(I:eZ X pins σ H s)(h:CE X.stack X.prog X.w H s Q u s'):EP X pins σ Q u s':=by obtain⟨v,H',os,bare,un,hok,r,q⟩:=h;obtain⟨hh,g,d,t,os'⟩:=s';obtain rfl:os'=s.os:=os;exact⟨v,H',I.call (h':=hh) (g':=g) (d':=d) (t':=t) (ch:=[]) un hok bare (λb z=>absurd z (by simp)),r,q⟩
end
def eY(sp:Sp)(dvs:List V)(E:XK)(t:TA):TE:=λσ H Q=>t σ H λvs H1=>sp (vs++dvs) H1 Q E
inductive LO(H:Hp)(a C:Addr)(m:Str)(k:Prop):Prop
 | mk{dx:Addr}{fs:List (Str×V)}(h:H a=some (.ins C dx fs))(l:fs.lookup m=none)(q:k):LO H a C m k
def kG(C:Addr)(m:Str)(sp:Sp)(dvs:List V)(E:XK)(ta:TE)(t:TA):TE:=λσ H Q=>ta σ H λx H1=>onR x λa=>LO H1 a C m (t σ H1 λvs H2=>sp (x::(vs++dvs)) H2 Q E)
def uY(C:Addr)(sp:Sp)(dvs:List V)(E:XK)(t:TA):TE:=λσ H Q=>t σ H λvs H1=>∀x dx,H1 x=none→H1 dx=none→dx≠x→
 sp (.ref x::(vs++dvs)) (upd (upd H1 dx (.own x)) x (.ins C dx [])) (λv H2=>v=.non∧Q (.ref x) H2) E
def ng(K:aA)(fd:FuncData)(ps:List Str)(ds:List Value):Prop:=
 ∀(s:Shared)(us:List Value),K.In s.heap→(us++ds).length=ps.length→BindsTo s fd ⟨us,[]⟩ (ps.zip (us++ds))
theorem ng.all{K:aA}{fd:FuncData}{ps:List Str}(h:∀us:List Value,us.length=ps.length→bindArgs fd ⟨us,[]⟩=pure (ps.zip us)):ng K fd ps []:=λs us _ hl=>by rw[aZ]at hl⊢;exact .of_eq (h us hl)
def oZ(CX:AI)(X:Cx)(E:XK):Prop:=∀(pins:List (Addr×Obj))(σ:St)(H:Hp)(s:Shared)(e:Value)(s':Shared),eZ X pins σ H s→CX X.stack H s E e s'→X.xe e s'
section
variable {X:Cx}{CX:AI}{k:Nat}{f C:Addr}{fd:FuncData}{ps:List Str}{sp:Sp}{dvs:List V}{ds:List Value}{E:XK}{x m:Str}{p pos apos:Pos}{e o:Expr}{es:List Expr}{ta:TE}{t:TA}
theorem BV(F:lu X.prog X.w X.K X.mg X.base CX k f fd ps sp)(hr:iy k X.A)(hb:ng X.K fd ps ds)(hd:fL dvs ds)(hx:oZ CX X E)
  (I:eZ X pins σ H s) (r:fL vs us) (h:sp (vs++dvs) H Q E):wpAny (model X.prog X.w) X.A (call (.ref f) us) (EP X pins σ Q) X.xe s:=by
 have r2:fL (vs++dvs) (us++ds):=r.append hd;have hl:(us++ds).length=ps.length:=by rw[←r2.length];exact F.len _ _ _ _ h
 refine wpAny_call (codeAny_mono (F.run X.A X.stack s H ⟨us,[]⟩ (us++ds) (vs++dvs) Q E hr I.env0 (hb s us I.kIn hl) r2 h) λr s' hq=>?_);cases r with
 | error e=>exact hx pins σ H s e s' I hq
 | ok fl=>
  cases fl with
  | ret u=>exact I.after hq
  | next=>exact False.elim hq
  | brk=>exact False.elim hq
  | cont=>exact False.elim hq
theorem Ea(F:lu X.prog X.w X.K X.mg X.base CX k f fd ps sp)(hr:iy k X.A)(hg:Gl X x)(hm:X.mg x=some (.ref f))(hk:PySem.W.keepIn X.K (.ref f)=true)(hb:ng X.K fd ps ds)(hd:fL dvs ds)(hx:oZ CX X E)
  (ha:PA X (e::es) t) (hdb:(x==("__debug__":Str))=false:=by decide) (he:starEach (e::es) X.env=(false,eval e X.env)::starEach es X.env:=by rfl) (hpl:(backTo pos (starEach es X.env)).any (·.1)=false:=by rfl):
  PE X (.Call (.Name x p) (e::es) [] pos) (eY sp dvs E t):=by
 intro pins s σ H Q I h;refine wpAny_Call_Name_kw (tP I hg hm ?_ hdb);refine cQ (h₀:=X.base) I.ok.mod.kin hk (thn (ha pos pins s σ H _ I h) λus s1 ⟨vs,H1,I1,r,q⟩=>⟨I1.kIn,?_⟩) he hpl;exact BV F hr hb hd hx I1 r q
theorem EX(he:PE X o ta)(c:xJ X.K C)(hm:lq X.K C m f)(F:lu X.prog X.w X.K X.mg X.base CX k f fd ps sp)(hr:iy k X.A)(hb:ng X.K fd ps ds)(hd:fL dvs ds)(hx:oZ CX X E)(ha:PA X (e::es) t)
  (hst:starEach (e::es) X.env=(false,eval e X.env)::starEach es X.env:=by rfl) (hpl:(backTo pos (starEach es X.env)).any (·.1)=false:=by rfl)
  (ht:eval (.Call (.Attribute o m apos) (e::es) [] pos) X.env=(do
   let ov ← eval o X.env
   standAt apos.atName
   let (f,first) ← holding [ov] (getMethod ov m pl)
   callWith pos f first (backTo pos (starEach (e::es) X.env)) (backToKw pos (keywordEach [] X.env))):=by rfl):
  PE X (.Call (.Attribute o m apos) (e::es) [] pos) (kG C m sp dvs E ta t):=by
 intro pins s σ H Q I h;refine PySem.W.methodCall_KW (pl:=pl) (thn (he pins s σ H _ I h) λu s1 ⟨x,H1,I1,rx,q⟩=>?_) ht;obtain⟨a,rfl,q⟩:=onR.ex q;obtain @⟨dx,fs,ea,l,q⟩:=q;obtain rfl:u=Value.ref a:=rx;refine wk I1 ea c hm l ?_;refine cQ (first:=[.ref a]) (h₀:=X.base) I.ok.mod.kin hm.kp (thn (ha pos pins s1 σ H1 _ I1 q) λus s2 ⟨vs,H2,I2,r,q2⟩=>⟨I2.kIn,?_⟩) hst hpl;exact BV (us:=.ref a::us) (vs:=.ref a::vs) F hr hb hd hx I2 (.cons rfl r) q2
structure Mk(K:aA)(C f:Addr):Prop where
 makes:PySem.W.makesIn K C=true
 init:PySem.W.findIn K (.ref C) "__init__"=some (some (.ref f))
 fn:PySem.W.isFn K (.ref f)=true
 kp:PySem.W.keepIn K (.ref C)=true
theorem BU(M:Mk X.K C f)(F:lu X.prog X.w X.K X.mg X.base CX k f fd ps sp)(hr:iy (k+1) X.A)(hb:ng X.K fd ps ds)(hd:fL dvs ds)
  (hx:oZ CX X E) (I:eZ X pins σ H s) (r:fL vs us)
  (h:∀x dx,H x=none→H dx=none→dx≠x→sp (.ref x::(vs++dvs)) (upd (upd H dx (.own x)) x (.ins C dx [])) (λv H2=>v=.non∧Q (.ref x) H2) E):
  wpAny (model X.prog X.w) X.A (call (.ref C) us) (EP X pins σ Q) X.xe s:=by
 have hq:=h (s.heap.objs.size+1) s.heap.objs.size (I.hok.fresh (bQ _)) (I.hok.fresh (aC _)) (aM (cC _));have I2:=eZ.made (C:=C) I;have r2:fL (V.ref (s.heap.objs.size+1)::(vs++dvs)) (Value.ref (s.heap.objs.size+1)::(us++ds)):=.cons rfl (r.append hd);have hl:(Value.ref (s.heap.objs.size+1)::us++ds).length=ps.length:=by have e:=r2.length;rw[F.len _ _ _ _ hq]at e;exact e.symm
 refine wpAny_call (CJ (f:=f) I.kIn M.makes M.init (beq_iff_eq.mp M.fn) (codeAny_mono (F.run _ X.stack _ _ ⟨Value.ref (s.heap.objs.size+1)::us,[]⟩ (Value.ref (s.heap.objs.size+1)::(us++ds)) _ _ E (hr.make C us [])
  (I2.env0.make C us []) (hb _ (Value.ref (s.heap.objs.size+1)::us) I2.kIn hl) r2 hq) λr s' hq'=>?_))
 cases r with
 | error e=>exact hx pins σ _ _ e s' I2 hq'
 | ok fl=>
  cases fl with
  | ret u=>obtain⟨v,H',I3,rv,ev,q3⟩:=I2.after hq';subst ev;exact⟨rv,⟨V.ref (s.heap.objs.size+1),H',I3,rfl,q3⟩⟩
  | next=>exact False.elim hq'
  | brk=>exact False.elim hq'
  | cont=>exact False.elim hq'
theorem EY(M:Mk X.K C f)(F:lu X.prog X.w X.K X.mg X.base CX k f fd ps sp)(hr:iy (k+1) X.A)(hg:Gl X x)(hm:X.mg x=some (.ref C))(hb:ng X.K fd ps ds)(hd:fL dvs ds)(hx:oZ CX X E)
  (ha:PA X (e::es) t) (hdb:(x==("__debug__":Str))=false:=by decide) (he:starEach (e::es) X.env=(false,eval e X.env)::starEach es X.env:=by rfl) (hpl:(backTo pos (starEach es X.env)).any (·.1)=false:=by rfl):
  PE X (.Call (.Name x p) (e::es) [] pos) (uY C sp dvs E t):=by
 intro pins s σ H Q I h;refine wpAny_Call_Name_kw (tP I hg hm ?_ hdb);refine cQ (h₀:=X.base) I.ok.mod.kin M.kp (thn (ha pos pins s σ H _ I h) λus s1 ⟨vs,H1,I1,r,q⟩=>⟨I1.kIn,?_⟩) he hpl;exact BU M F hr hb hd hx I1 r q
end
section
variable {X:Cx}{CX:AI}{k:Nat}{f C:Addr}{fd:FuncData}{ps ks:List Str}{sp:Sp}{E:XK}{x m:Str}{p pos apos kpos:Pos}{e o:Expr}{es:List Expr}{kws:List Keyword}{te ta:TE}{t tk:TA}{nm:Option Str}
variable {g:List Value→List Value→List Value}{gV:List V→List V→List V}
end
structure nY(N P:List Str)(sc:Scope):Prop where
 kind:sc.kind=.function
 co:sc.isCoroutine=false
 gen:sc.isGenerator=false
 nd:N.Nodup
 pre:N.take P.length=P
 par:∀x∈P,sc.names.lookup x=some .local∨sc.names.lookup x=some .cell
 nofree:∀y∈sc.names,y.2≠.free
theorem rj{kindOf:Str→Option NameKind}{x:Str}:∀{binds:List (Str×Value)}{m:Str→Option Value},(∀v,(x,v)∉binds)→bindL kindOf binds m x=m x
 | [],_,_=>rfl
 | (n,v)::r,m,h=>by
  unfold bindL;rw[rj λw hw=>h w (bC _ hw)];split
  ·have:x≠n:=by rintro rfl;exact h v bY
   simp[this]
  ·rfl
theorem rn{kindOf:Str→Option NameKind}{x:Str}:∀{binds:List (Str×Value)}{m:Str→Option Value},(∀v,(x,v)∉binds)→bindC kindOf binds m x=m x
 | [],_,_=>rfl
 | (n,v)::r,m,h=>by
  unfold bindC;rw[rn λw hw=>h w (bC _ hw)];split
  ·rfl
  ·have:x≠n:=by rintro rfl;exact h v bY
   simp[this]
theorem rm{kindOf:Str→Option NameKind}{x:Str}{v:Value}:∀{P:List Str}{vs:List Value}{i:Nat}{m:Str→Option Value},P.Nodup→P[i]?=some x→vs[i]?=some v→kindOf x=some .local→
  bindL kindOf (P.zip vs) m x=some v
 | [],_,_,_,_,h,_,_=>by simp at h
 | _::_,[],_,_,_,_,h,_=>by simp at h
 | p::P,w::vs,0,m,nd,h1,h2,hk=>by simp at h1 h2;subst h1;subst h2;show bindL kindOf ((p,w)::P.zip vs) m p=_;unfold bindL;rw[rj λv hv=>(bR.mp nd).1 (cD hv).1,if_pos hk];simp
 | p::P,w::vs,i+1,m,nd,h1,h2,hk=>by show bindL kindOf ((p,w)::P.zip vs) m x=_;unfold bindL;exact rm (i:=i) (bR.mp nd).2 (by simpa using h1) (by simpa using h2) hk
theorem rq{kindOf:Str→Option NameKind}{x:Str}{v:Value}:∀{P:List Str}{vs:List Value}{i:Nat}{m:Str→Option Value},P.Nodup→P[i]?=some x→vs[i]?=some v→kindOf x≠some .local→
  bindC kindOf (P.zip vs) m x=some v
 | [],_,_,_,_,h,_,_=>by simp at h
 | _::_,[],_,_,_,_,h,_=>by simp at h
 | p::P,w::vs,0,m,nd,h1,h2,hk=>by simp at h1 h2;subst h1;subst h2;show bindC kindOf ((p,w)::P.zip vs) m p=_;unfold bindC;rw[rn λv hv=>(bR.mp nd).1 (cD hv).1,if_neg hk];simp
 | p::P,w::vs,i+1,m,nd,h1,h2,hk=>by show bindC kindOf ((p,w)::P.zip vs) m x=_;unfold bindC;exact rq (i:=i) (bR.mp nd).2 (by simpa using h1) (by simpa using h2) hk
def start(N:List Str)(vs:List V):St:=vs.map some++List.replicate (N.length-vs.length) none
def oU(CX:AI)(P:Program)(w:World)(K:aA)(mg:Str→Option Value)(base:Heap)(N:List Str)(qual:Str)(scope:Scope)(f:Addr)(cd:Value)(A:Around)(outer:List Env)(s:Shared)(H:Hp)(E:XK):Cx where
 prog:=P
 w:=w
 K:=K
 mg:=mg
 base:=base
 A:=A.deeper (envOfC qual scope s.heap.objs.size f cd)
 N:=N
 s₀:=s
 H₀:=H
 env:=envOfC qual scope s.heap.objs.size f cd
 outer:=outer
 stack:=envOfC qual scope s.heap.objs.size f cd::outer
 ex:=[]
 calm:=true
 fn:=λ_=>true
 pn:=[]
 xe:=λe s'=>wpAny (model P w) (A.deeper (envOfC qual scope s.heap.objs.size f cd)) (leaving (envOfC qual scope s.heap.objs.size f cd) e) (λ_ s''=>CX outer H s E e s'') (λe' s''=>CX outer H s E e' s'') s'
theorem vK{sc:Scope}{n:Nat}{x:Str}(h:sc.names.lookup x=some .cell):∃c,(cellsFrom n sc.names []).lookup x=some c:=by have q:=cw sc.names n [] (.inl h);exact cy.mp q
theorem ki{CX:AI}{P:Program}{w:World}{K:aA}{mg:Str→Option Value}{base:Heap}{N ps:List Str}{qual:Str}{scope:Scope}{f:Addr}{cd:Value}{A:Around}{outer:List Env}{s s1:Shared}{H:Hp}{E:XK}{us:List Value}{vs:List V}
  (S:nY N ps scope) (hd:A.handled=none) (e0:xI P w K mg base A outer s H) (hl:vs.length=ps.length) (r:fL vs us)
  (x:InCallC s s.heap.objs.size (bindL (envOfC qual scope s.heap.objs.size f cd).kindOf (ps.zip us) λ_=>none) (cellsFrom (s.heap.objs.size+1) scope.names []) (bindC (envOfC qual scope s.heap.objs.size f cd).kindOf (ps.zip us) λ_=>none) s1):
  eZ (oU CX P w K mg base N qual scope f cd A outer s H E) [] (start N vs) H s1:=by
 have hpl:ps.length≤N.length:=by have:=congrArg List.length S.pre;rw[ah]at this;lia
 obtain⟨h1,tk,rfl,hk⟩:=x.done;have noA:∀b:Addr,b∉(oU CX P w K mg base N qual scope f cd A outer s H E).ex:=λb z=>absurd (show b∈([]:List Addr)from z) (by simp);refine⟨⟨e0.mod,S.kind,rfl,rfl,aC _,λy z c h1 h2=>?_,λy hy=>?_,λy c _ h=>?_,λ_=>hd,Around.frames_deeper e0.frames,.inr ⟨rfl,rfl⟩,λb z=>absurd z (noA b),e0.bs,e0.bsz,λb _ _=>noA b,λb z=>absurd z (noA b),e0.funs,e0.frf⟩,
  rfl,e0.bare,Un.kept hk,⟨_,x.toInCall.ns,λi y v h1 h2 h3=>?_⟩,λy c h=>⟨_,x.cell y c h⟩,e0.hok.fresh (aC _),λy c h=>?_,λp hp=>absurd (show p∈([]:List (Addr×Obj))from hp) (by simp),e0.hok.kept hk,?_⟩
 ·exact name_of_addr x.apart (bn h1) (bn h2)
 ·have hy:scope.names.lookup y=some .cell∨scope.names.lookup y=some .free:=hy;rcases hy with hy|hy
  ·exact vK hy
  ·exact absurd rfl (S.nofree _ (bn hy))
 ·exact bO (x.above y c (bn h))
 ·have hi:i<vs.length:=by
   unfold start at h2;by_cases hi:i<vs.length
   ·exact hi
   ·rw[bL (by simpa using hi)]at h2;rw[cz]at h2;split at h2<;>cases h2
  have ha:vs[i]?=some v:=by
   unfold start at h2;rw[bB (by simpa using hi),ae]at h2;cases e:vs[i]? with
   | none=>rw[e]at h2;cases h2
   | some a=>rw[e]at h2;cases h2;rfl
  obtain⟨u,hu,rv⟩:=r.get ha;have hp:ps[i]?=some y:=by rw[←S.pre,c3 (by lia)];exact h1
  have ndP:ps.Nodup:=by rw[←S.pre];exact S.nd.sublist (List.take_sublist _ _)
  refine⟨u,rv,?_⟩;rcases S.par y (ac hp)with k|k
  ·exact .inl ⟨k,rm ndP hp hu k⟩
  ·obtain⟨c,e⟩:=vK (n:=s.heap.objs.size+1) k;refine .inr ⟨.inl k,c,e,?_⟩;have q:=x.cell y c e;rw[rq ndP hp hu (by show scope.names.lookup y≠_;rw[k];decide)]at q;exact q
 ·exact e0.hok.fresh (bO (x.above y c (bn h)))
 ·unfold start;show _=N.length;rw[aD,aT,cR];lia
theorem K4{CX:AI}{P:Program}{w:World}{K:aA}{mg:Str→Option Value}{base:Heap}{k:Nat}{f:Addr}{name qual:Str}{params:Arguments}{body:List Stmt}{scope:Scope}{dV kV doc pm cdv ct oc:Value}{an od:Option Addr}
  {osl:Array (Option Value)} {N ps:List Str} {sp:Sp} (lk:K.lookup f=some ⟨oc,od,.func (PySem.W.fnOf name qual params body scope dV kV doc pm an cdv ct),osl⟩) (hcd:PySem.W.codeIn K cdv qual=true) (S:nY N ps scope)
  (len:∀vs H Q E,sp vs H Q E→vs.length=ps.length)
  (hbody:∀(A:Around)(outer:List Env)(s:Shared)(H:Hp)(vs:List V)(Q:VK)(E:XK),iy k (A.deeper (envOfC qual scope s.heap.objs.size f cdv))→sp vs H Q E→
   ∃t,uH (oU CX P w K mg base N qual scope f cdv A outer s H E) body t∧t {nx:=λ_ H'=>Q .non H',rt:=Q} (start N vs) H):
  lu P w K mg base CX (k+1) f (PySem.W.fnOf name qual params body scope dV kV doc pm an cdv ct) ps sp:=by
 refine⟨len,λA outer s H args us vs Q E hr e0 hb r hsp=>?_⟩;have hl:=len _ _ _ _ hsp;have KX:K.In s.heap:=e0.mod.kin.keeps λb o e=>(e0.bs b o e).1;have lim:s.heap.NoLimit:=e0.mod.nolimit.keeps λb o e=>(e0.bs b o e).1;have hkind:∀y∈ps.zip us,scope.names.lookup y.1=some .local∨(scope.names.lookup y.1=some .cell∧((cellsFrom (s.heap.objs.size+1) scope.names []).lookup y.1).isSome=true):=λ⟨n,v⟩ hy=>by
  rcases S.par n (cD hy).1 with q|q
  ·exact .inl q
  ·exact .inr ⟨q,cw _ _ _ (.inl q)⟩
 refine codeAny_call_function hr.depth (KX _ _ lk) rfl S.co S.gen rfl (PySem.W.codeRec_of KX hcd) (hb _ _ _ _ ?_);refine wpAny_newFunctionEnv_cells S.kind hkind λenv he s1 x=>?_;subst he;refine⟨lim.keeps x.toInCall.keep,codeAny_func ?_⟩;obtain⟨t,ht,hq⟩:=hbody A outer s H vs Q E (hr.deeper _) hsp;have I:eZ (oU CX P w K mg base N qual scope f cdv A outer s H E) [] (start N vs) H s1:=ki S hr.hd e0 hl r x;refine wpAny_mono (ht [] s1 (start N vs) H _ I hq) (λfl s' hs=>?_) λe s' hs=>hs;have gr:∀{σ':St}{H':Hp}{v:V}{u:Value},eZ (oU CX P w K mg base N qual scope f cdv A outer s H E) [] σ' H' s'→fT v u→Q v H'→CE outer P w H s Q u s':=
  λ{σ' H' v u} J rv q=>⟨v,H',J.os,J.bare,J.base,J.hok,rv,q⟩
 cases fl with
 | ret u=>obtain⟨v,σ',H',J,rv,q⟩:=hs;exact gr J rv q
 | next=>obtain⟨σ',H',J,q⟩:=hs;exact gr (v:=V.non) (u:=Value.none) J rfl q
 | brk=>obtain⟨_,_,_,q⟩:=hs;exact False.elim q
 | cont=>obtain⟨_,_,_,q⟩:=hs;exact False.elim q
section
variable {X:Cx}{x:Str}{p pos:Pos}{e:Expr}{es:List Expr}{t:TA}{id T:String}{r:List V→Hp→VK→Prop}
def iB(r:List V→Hp→VK→Prop)(t:TA):TE:=λσ H Q=>t σ H λvs H1=>r vs H1 Q
theorem eE(hc:lI X (.builtin id) r)(hg:Gl X x)(hm:X.mg x=none)(hv:bootBuiltins x=some (.builtin id))(ha:PA X (e::es) t)(hn:x≠"__name__":=by decide)(hdb:(x==("__debug__":Str))=false:=by decide)
  (he:starEach (e::es) X.env=(false,eval e X.env)::starEach es X.env:=by rfl) (hpl:(backTo pos (starEach es X.env)).any (·.1)=false:=by rfl):PE X (.Call (.Name x p) (e::es) [] pos) (iB r t):=by
 intro pins s σ H Q I h;refine wpAny_Call_Name_kw (kO I hg hm hv ?_ hn hdb);exact PyProof.Rows.callWith_builtin1 (thn (ha pos pins s σ H _ I h) λus s1 ⟨vs,H1,I1,r1,q1⟩=>hc pins s1 σ H1 vs us Q I1 r1 q1) he hpl
theorem hZ(hc:lI X (.type T) r)(hg:Gl X x)(hm:X.mg x=none)(hv:bootBuiltins x=some (.type T))(ha:PA X (e::es) t)(hn:x≠"__name__":=by decide)(hdb:(x==("__debug__":Str))=false:=by decide)
  (he:starEach (e::es) X.env=(false,eval e X.env)::starEach es X.env:=by rfl) (hpl:(backTo pos (starEach es X.env)).any (·.1)=false:=by rfl):PE X (.Call (.Name x p) (e::es) [] pos) (iB r t):=by
 intro pins s σ H Q I h;refine wpAny_Call_Name_kw (kO I hg hm hv ?_ hn hdb);exact bP (thn (ha pos pins s σ H _ I h) λus s1 ⟨vs,H1,I1,r1,q1⟩=>hc pins s1 σ H1 vs us Q I1 r1 q1) he hpl
end
end L2
namespace HT
open PySem PyProof.Rows
section
open PySem.SeqAt
open PySem.AutoSeq1 (wpAny_loadPart')
open PySem.MeetsSeq PySem.MeetsSeq2 PySem.MeetsSeq3
end
section
variable {prog:Program}{w:World}{A:Around}{E:Value→Shared→Prop}{s:Shared}
theorem Lh(ht:IsTup s.heap t vs.toArray)(hb:IsTup s.heap b ws.toArray)(hv:vs≠[])
  (h1:ws=[]→Q (.ref t) s) (h2:ws≠[]→Q (.ref s.heap.objs.size) {s with heap:=s.heap.push {cls:=.type "tuple",data:=.seq (vs++ws).toArray}})
  (hsz:vs.length+ws.length≤sizeLine):wpAny (model prog w) A (binaryOp .Add (.ref t) (.ref b)) Q E s:=by
 obtain⟨⟨cls,dd,data,sl⟩,ho,hc,n,hd⟩:=id ht;obtain⟨⟨cls2,dd2,data2,sl2⟩,ho2,hc2,n2,hd2⟩:=id hb;simp only at hc hd hc2 hd2;subst hc hd hc2 hd2;have e:vs.toArray++ws.toArray=(vs++ws).toArray:=by simp
 by_cases hw:ws=[]
 ·exact concat_meets ⟨_,ho,rfl⟩ ⟨_,ho2,rfl⟩ noFill_tuple_add seq_tuple_add cS cT (cU _ _)
   (tuple_addW1 t b vs.toArray ws.toArray n n2 dd dd2 sl sl2 (by simpa using hv) (by simp[hw])) ⟨ho,ho2,h1 hw⟩
 ·refine concat_meets ⟨_,ho,rfl⟩ ⟨_,ho2,rfl⟩ noFill_tuple_add seq_tuple_add cS cT (cU _ _)
   (tuple_addW2 t b vs.toArray ws.toArray n n2 dd dd2 sl sl2 (by simpa using hv) (by simpa using hw) (by rw[aL,aL];exact hsz)) ⟨ho,ho2,?_⟩
  rw[e];exact h2 hw
def kZ(n d:Nat):Option Int→Nat
 | none=>d
 | some v=>if v<0 then(v+(n:Int)).toNat else min v.toNat n
theorem J3(n d:Nat):kZ n d none=d:=rfl
theorem LY(n d k:Nat):kZ n d (some (k:Int))=min k n:=by show(if(k:Int)<0 then((k:Int)+(n:Int)).toNat else min (k:Int).toNat n)=min k n;rw[if_neg (by lia),bp]
theorem II(n d:Nat)(hd:d≤n)(o:Option Int):kZ n d o≤n:=by
 cases o with
 | none=>exact hd
 | some v=>
  show(if v<0 then(v+(n:Int)).toNat else min v.toNat n)≤n;by_cases hv:v<0
  ·rw[if_pos hv];lia
  ·rw[if_neg hv];exact Nat.min_le_right _ _
theorem yY(v:Int)(n d:Nat):(if v<0 then max (v+(n:Int)) 0 else min v (n:Int))=((kZ n d (some v):Nat):Int):=by
 show(if v<0 then max (v+(n:Int)) 0 else min v (n:Int))=(((if v<0 then(v+(n:Int)).toNat else min v.toNat n):Nat):Int);by_cases hv:v<0
 ·simp only[if_pos hv];lia
 ·simp only[if_neg hv];lia
theorem xC(lo hi:Option Int)(n:Nat):Builtin.Slice.sliceAdjust lo hi 1 (n:Int)=(((kZ n 0 lo:Nat):Int),((kZ n n hi:Nat):Int)):=by
 have h1:¬((1:Int)<0):=by lia
 unfold Builtin.Slice.sliceAdjust;simp only[h1,if_false];refine Prod.ext ?_ ?_
 ·cases lo with
  | none=>rfl
  | some v=>exact yY v n 0
 ·cases hi with
  | none=>rfl
  | some v=>exact yY v n n
theorem wL(i j:Nat):Builtin.Slice.slicePlaces (i:Int) (j:Int) 1=j-i:=by
 unfold Builtin.Slice.slicePlaces;have h1:(1:Int)>0:=by lia
 simp only[h1,if_true,Int.ediv_one];split<;>lia
theorem qN(p:IsPart v o)(h:Q o s):wpAny (model prog w) A (Builtin.Slice.slicePartIndex v) Q E s:=by
 cases p with
 | none=>exact slicePart_none h
 | int i t=>exact slicePart_int h
theorem kY{sl:Addr}{vl vu:Value}{lo hi:Option Int}{n:Nat}{Q:Int×Int×Nat→Shared→Prop}(hs:s.heap.IsSliceOf sl vl vu .none)(pl:IsPart vl lo)(pu:IsPart vu hi)
  (h:Q (((kZ n 0 lo:Nat):Int),1,kZ n n hi-kZ n 0 lo) s):wpAny (model prog w) A (Builtin.Slice.sliceApplied (.ref sl) (pure (n:Int))) Q E s:=by
 obtain⟨os,hos,hcs,hds⟩:=id hs;unfold Builtin.Slice.sliceApplied Builtin.Slice.sliceFields;refine wpAny_bind (wpAny_bind (wpAny_field hos hds (x:=vl) rfl (wpAny_bind (wpAny_field hos hds (x:=vu) rfl (wpAny_bind (wpAny_field hos hds (x:=.none) rfl (wpAny_pure ?_)))))));refine wpAny_bind (slicePart_none ?_);show wpAny _ _ (if((1:Int)==0)=true then _ else _) _ _ s;rw[if_neg (by decide)];refine wpAny_bind (qN pl (wpAny_bind (qN pu (wpAny_bind (wpAny_pure ?_)))));show wpAny _ _ (match Builtin.Slice.sliceAdjust lo hi 1 (n:Int) with|(lo,hi)=>pure (lo,(1:Int),Builtin.Slice.slicePlaces lo hi 1)) _ _ s;rw[xC lo hi n];show wpAny _ _ (pure (((kZ n 0 lo:Nat):Int),(1:Int),Builtin.Slice.slicePlaces ((kZ n 0 lo:Nat):Int) ((kZ n n hi:Nat):Int) 1)) _ _ s;rw[wL];exact wpAny_pure h
theorem Bq(xs:Array Value)(i k:Nat):((List.range k).filterMap λ(m:Nat)=>xs[((i:Int)+(m:Int)*1).toNat]?).toArray=((xs.toList.drop i).take k).toArray:=by
 have e:(λ(m:Nat)=>xs[((i:Int)+(m:Int)*1).toNat]?)=λm=>xs[i+m]?:=by
  funext m;have:((i:Int)+(m:Int)*1).toNat=i+m:=by lia
  rw[this]
 rw[e];have:=pick_run xs i k;rw[List.filterMap_map]at this;have e2:((λx=>xs[x]?)∘λx=>i+x)=λm=>xs[i+m]?:=rfl;rw[e2]at this;rw[this]
theorem yO{t sl:Addr}{eM:Array Value}{vl vu:Value}{lo hi:Option Int}{Q:Value→Shared→Prop}(ht:IsTup s.heap t eM)(hs:s.heap.IsSliceOf sl vl vu .none)(pl:IsPart vl lo)(pu:IsPart vu hi)
  (hw:¬(kZ eM.size 0 lo=0∧kZ eM.size eM.size hi=eM.size))
  (h:Q (.ref s.heap.objs.size) {s with heap:=s.heap.push {cls:=.type "tuple",data:=.seq ((eM.toList.drop (kZ eM.size 0 lo)).take (kZ eM.size eM.size hi-kZ eM.size 0 lo)).toArray}})
  (hsz:eM.size≤sizeLine):wpAny (model prog w) A (getItem (.ref t) (.ref sl)) Q E s:=by
 have htake:sizeOk (.seq ((eM.toList.drop (kZ eM.size 0 lo)).take (kZ eM.size eM.size hi-kZ eM.size 0 lo)).toArray):=by show((eM.toList.drop (kZ eM.size 0 lo)).take (kZ eM.size eM.size hi-kZ eM.size 0 lo)).toArray.size≤sizeLine;rw[aL,ah,aj,bj];lia
 have hj:kZ eM.size eM.size hi≤eM.size:=II _ _ (aC _) hi;obtain⟨os,hos,hcs,hds⟩:=id hs;have hTs:s.TypeIs (.ref sl) "slice":=⟨os,hos,hcs⟩;unfold getItem
 try with_reducible refine wpAny_holding ?_
 first|refine wpAny_bind (wpAny_pure ?_)|skip
 refine wpAny_bind (wpAny_sequenceKey ht.typeIs (by decide) ?_);refine wpAny_bind (wpAny_callSpecial?_slot (name:=Str.ofString "__getitem__") ht.typeIs bZ
  (wpAny_call_entry bZ ht.typeIs entry_tuple_getitem ?_ (args_tuple_getitem _ _)))
 show wpAny _ _ (Builtin.Tuple.tupleItemsOf (.ref t) >>= _) _ _ s;refine wpAny_bind (tupleItemsOf_ ht ?_);refine wpAny_bind (wpAny_typeOf hTs ?_);rw[if_pos (by decide)];refine wpAny_bind (kY hs pl pu ?_);have hno:¬((((kZ eM.size 0 lo:Nat):Int)==0&&(1:Int)==1&&(kZ eM.size eM.size hi-kZ eM.size 0 lo)==eM.size)=true):=by intro q;rw[bb,bb]at q;have q1:((kZ eM.size 0 lo:Nat):Int)=0:=eq_of_beq q.1.1;have q2:kZ eM.size eM.size hi-kZ eM.size 0 lo=eM.size:=eq_of_beq q.2;exact hw ⟨by lia,by lia⟩
 show wpAny _ _ (if(((kZ eM.size 0 lo:Nat):Int)==0&&(1:Int)==1&&(kZ eM.size eM.size hi-kZ eM.size 0 lo)==eM.size)=true then _ else _) _ _ s;rw[if_neg hno,Bq]
 first
  | exact wpAny_bind (m:=Builtin.Tuple.tupleExact _) (wpAny_newObj_type (wpAny_pure ⟨_,rfl,wpAny_pure h⟩) htake)
  | exact wpAny_bind (m:=Builtin.Tuple.tupleExact _) (wpAny_newObj_type (wpAny_bind (wpAny_pure (wpAny_pure ⟨_,rfl,wpAny_pure h⟩))) htake)
  | exact wpAny_bind (wpAny_bind (m:=Builtin.Tuple.tupleExact _) (wpAny_newObj_type (wpAny_pure (wpAny_pure ⟨_,rfl,wpAny_pure h⟩)) htake))
  | exact wpAny_bind (wpAny_bind (m:=Builtin.Tuple.tupleExact _) (wpAny_newObj_type (wpAny_pure ⟨_,rfl,wpAny_pure h⟩) htake))
end
end HT
namespace L2
open PySem PySem.Spec PyProof.Rows
abbrev TO:=St→Hp→(Option Int→Hp→Prop)→Prop
def PO(X:Cx)(e:Option Expr)(t:TO):Prop:=
 ∀(pins:List (Addr×Obj))(s:Shared)(σ:St)(H:Hp)(Q:Option Int→Hp→Prop),eZ X pins σ H s→t σ H Q→
  wpAny (model X.prog X.w) X.A (evalPart e X.env) (λu s'=>∃o H',eZ X pins σ H' s'∧IsPart u o∧Q o H') X.xe s
def fu:TO:=λ_ H Q=>Q none H
def gD(t:TE):TO:=λσ H Q=>t σ H λx H1=>onI x λi=>Q (some i) H1
section
variable {X:Cx}{e:Expr}{te:TE}{lo hi:Option Expr}{tl th:TO}{pos p2:Pos}
theorem gw:PO X none fu:=by intro pins s σ H Q I h;rw[evalPart_none];exact wpAny_pure ⟨none,H,I,.none,h⟩
theorem fb(h:PE X e te):PO X (some e) (gD te):=by intro pins s σ H Q I hw;rw[evalPart_some];refine thn (h pins s σ H _ I hw) λu s1 ⟨x,H1,I1,r1,q1⟩=>?_;obtain⟨i,rfl,q⟩:=onI.ex q1;obtain⟨t,rfl⟩:=r1;exact⟨some i,H1,I1,.int i t,q⟩
def C9(X:Cx)(r:V→Option Int→Option Int→Hp→VK→Prop):Prop:=
 ∀(pins:List (Addr×Obj))(s:Shared)(σ:St)(H:Hp)(x:V)(v vl vu:Value)(lo hi:Option Int)(sl:Addr)(Q:VK),eZ X pins σ H s→fT x v→s.heap.IsSliceOf sl vl vu .none→IsPart vl lo→IsPart vu hi→r x lo hi H Q→
  ∃T id,typeLookup (.type T) "__getitem__"=pure (some (.builtin id))∧s.TypeIs v T∧wpAny (model X.prog X.w) X.A (getItem v (.ref sl)) (EP X pins σ Q) X.xe s
theorem C9.or(h:C9 X r)(h':C9 X r'):C9 X (λx lo hi H Q=>r x lo hi H Q∨r' x lo hi H Q):=by
 intro pins s σ H x v vl vu lo hi sl Q I rx hs pl pu q;rcases q with q|q
 ·exact h pins s σ H x v vl vu lo hi sl Q I rx hs pl pu q
 ·exact h' pins s σ H x v vl vu lo hi sl Q I rx hs pl pu q
def mT(r:V→Option Int→Option Int→Hp→VK→Prop)(te:TE)(tl th:TO):TE:=λσ H Q=>te σ H λx H1=>tl σ H1 λl H2=>th σ H2 λu H3=>r x l u H3 Q
theorem fe(hr:C9 X r)(he:PE X e te)(hl:PO X lo tl)(hu:PO X hi th):PE X (.Subscript e (.Slice lo hi none p2) pos) (mT r te tl th):=by intro pins s σ H Q I h;refine Subscript_ (thn (he pins s σ H _ I h) λv s1 ⟨x,H1,I1,r1,q1⟩=>?_);refine wpAny_Slice (thn (hl pins s1 σ H1 _ I1 q1) λvl s2 ⟨l,H2,I2,pl,q2⟩=>thn (hu pins s2 σ H2 _ I2 q2) λvu s3 ⟨u,H3,I3,pu,q3⟩=>?_);rw[evalPart_none];refine wpAny_pure ?_;have I4:eZ X pins σ H3 {s3 with heap:=s3.heap.push {cls:=.type "slice",data:=.fields #[vl,vu,.none]}}:=I3.kept (t':=s3.toks) λb ob q=>Heap.get?_push_of_some _ q;obtain⟨T,id,hT,ht,hg⟩:=hr pins {s3 with heap:=s3.heap.push {cls:=.type "slice",data:=.fields #[vl,vu,.none]}} σ H3 x v vl vu l u s3.heap.objs.size Q I4 r1 (Heap.IsSliceOf.new ..) pl pu q3;show wpAny (model X.prog X.w) X.A (subscriptTail e (.Slice lo hi none p2) v (.ref s3.heap.objs.size)) (EP X pins σ Q) X.xe {s3 with heap:=s3.heap.push {cls:=.type "slice",data:=.fields #[vl,vu,.none]}};exact tail_any (ops:=[.ref s3.heap.objs.size,v]) ht hT hg (by with_unfolding_all rfl)
def ix(xs:List V)(lo hi:Option Int):List V:=(xs.drop (HT.kZ xs.length 0 lo)).take (HT.kZ xs.length xs.length hi-HT.kZ xs.length 0 lo)
theorem ou(xs:List V)(lo hi:Option Int):(ix xs lo hi).length≤xs.length:=by unfold ix;rw[ah,aj];lia
def Bi(K:aA):V→Option Int→Option Int→Hp→VK→Prop:=λx lo hi H Q=>onR x λa=>lP (eD K H a) λxs=>
 ¬(HT.kZ xs.length 0 lo=0∧HT.kZ xs.length xs.length hi=xs.length)∧k6 H (.tup (ix xs lo hi)) Q
theorem si:C9 X (Bi X.K):=by
 intro pins s σ H x v vl vu lo hi sl Q I rx hs pl pu h;obtain⟨a,rfl,h⟩:=onR.ex h;obtain @⟨xs,hx,hw,q⟩:=h;cases rx;obtain⟨its,r,ht,hz⟩:=I.tuple hx;have hlen:its.toArray.size=xs.length:=by rw[aL];exact r.length.symm
 refine⟨"tuple",_,bZ.lookup,ht.typeIs,?_⟩;refine HT.yO ht hs pl pu (by rw[hlen];exact hw) ?_ (by rw[hlen];exact hz);rw[hlen];refine⟨.ref s.heap.objs.size,_,I.laid (t':=s.toks) (o:=.tup (ix xs lo hi)) (λb ob q=>Heap.get?_push_of_some _ q) (aC _) ?_,rfl,q _ (I.hok.fresh (aC _))⟩;exact⟨aY (ou xs lo hi) hz,_,(r.drop (HT.kZ xs.length 0 lo)).take (HT.kZ xs.length xs.length hi-HT.kZ xs.length 0 lo),IsTup.new _ _⟩
def J8(K:aA):R2:=λx y H Q=>∃a b xs ys,x=.ref a∧y=.ref b∧eD K H a xs∧eD K H b ys∧xs≠[]∧xs.length+ys.length≤sizeLine∧
 (ys=[]→Q (.ref a) H)∧(ys≠[]→k6 H (.tup (xs++ys)) Q)
theorem fL.nil_iff(r:fL xs us):us=[]↔xs=[]:=by
 cases r with
 | nil=>simp
 | cons _ _=>simp
theorem Eg:mf X (binaryOp .Add) (J8 X.K):=by intro pins s σ H x y v u Q I rx ry h;obtain⟨a,b,xs,ys,rfl,rfl,ha,hb,hx,hz,q1,q2⟩:=h;cases rx;cases ry;obtain⟨its,r1,p1,_⟩:=I.tuple ha;obtain⟨its2,r2,p2,_⟩:=I.tuple hb;refine HT.Lh p1 p2 (λz=>hx (r1.nil_iff.mp z)) (λz=>⟨.ref a,H,I,rfl,q1 (r2.nil_iff.mp z)⟩) (λz=>?_) (by rw[←r1.length,←r2.length];exact hz);refine⟨.ref s.heap.objs.size,_,I.laid (t':=s.toks) (o:=.tup (xs++ys)) (λb ob q=>Heap.get?_push_of_some _ q) (aC _) ?_,rfl,q2 (λw=>z (r2.nil_iff.mpr w)) _ (I.hok.fresh (aC _))⟩;exact⟨by rw[aD];exact hz,_,r1.append r2,IsTup.new _ _⟩
end
def C5(n:Nat)(i:Int):Option Nat:=if 0≤i then(if i<n then some i.toNat else none)else if -(n:Int)≤i then some (i+n).toNat else none
def ph{α:Type}(xs:List α)(i:Int):Option α:=(C5 xs.length i).bind λj=>xs[j]?
theorem yM(h:C5 n i=some j):seqIndex? i n=some j∧j<n∧-(n:Int)≤i∧i<n:=by
 unfold C5 at h;by_cases h0:0≤i
 ·rw[if_pos h0]at h;by_cases h1:i<n
  ·rw[if_pos h1]at h;have e:i.toNat=j:=Option.some.inj h;exact⟨by rw[seqIndex_of h0 h1,e],by lia,by lia,h1⟩
  ·rw[if_neg h1]at h;cases h
 ·rw[if_neg h0]at h;by_cases h1 : -(n:Int)≤i
  ·rw[if_pos h1]at h;have e:(i+n).toNat=j:=Option.some.inj h;exact⟨by rw[seqIndex_neg (by lia) h1,e],by lia,h1,by lia⟩
  ·rw[if_neg h1]at h;cases h
theorem uD(h:ph xs i=some v):∃j,seqIndex? i xs.length=some j∧xs[j]?=some v∧j<xs.length∧-(xs.length:Int)≤i∧i<xs.length:=by
 unfold ph at h;cases e:C5 xs.length i with
 | none=>rw[e]at h;cases h
 | some j=>rw[e]at h;obtain⟨h1,h2,h3,h4⟩:=yM e;exact⟨j,h1,h,h2,h3,h4⟩
theorem dW{α:Type}{xs:List α}{j:Nat}{v:α}(h:xs[j]?=some v):ph xs (j:Int)=some v:=by
 have hj:j<xs.length:=(aN.mp h).1;have e:C5 xs.length (j:Int)=some j:=by unfold C5;rw[if_pos (by lia),if_pos (by lia)];simp
 unfold ph;rw[e];exact h
theorem vO(xs:List α)(v:α):ph (xs++[v]) (-1)=some v:=by
 have hl:(xs++[v]).length=xs.length+1:=by simp
 have e:C5 (xs++[v]).length (-1)=some xs.length:=by
  unfold C5;rw[hl,if_neg (by decide),if_pos (by lia)]
  congr 1
  lia
 unfold ph;rw[e];show(xs++[v])[xs.length]?=some v;simp
def uG(b:Expr):Prop:=∀o i,subscripted b false o i=operate [o,i] (getItem o i)
def Lr(X:Cx)(r:R2):Prop:=
 ∀(value slice:Expr)(pins:List (Addr×Obj))(s:Shared)(σ:St)(H:Hp)(x y:V)(v u:Value)(Q:VK),eZ X pins σ H s→fT x v→fT y u→r x y H Q→
  subscripted slice false v u=operate [v,u] (getItem v u)→wpAny (model X.prog X.w) X.A (subscriptTail value slice v u) (EP X pins σ Q) X.xe s
def OS(X:Cx)(id:String)(r:V→List V→Hp→VK→Prop):Prop:=
 ∀(pins:List (Addr×Obj))(s:Shared)(σ:St)(H:Hp)(x:V)(xs:List V)(v:Value)(us:List Value)(Q:VK),eZ X pins σ H s→fT x v→fL xs us→r x xs H Q→
  wpAny (model X.prog X.w) X.A (call (.builtin id) (v::us)) (EP X pins σ Q) X.xe s
section
variable {X:Cx}{a b:Expr}{ta tb:TE}{pos:Pos}
theorem um(hr:Lr X r)(ha:PE X a ta)(hb:PE X b tb)(hs:uG b):PE X (.Subscript a b pos) (eC r ta tb):=by intro pins s σ H Q I h;exact Subscript_ (JS ha hb I h λv u s2 x y H2 I2 rx ry q=>hr a b pins s2 σ H2 x y v u Q I2 rx ry q (hs _ _))
inductive Ix(S:List V→Prop)(i:Int)(k:V→Prop):Prop
 | mk{xs:List V}{v:V}(h:S xs)(e:ph xs i=some v)(q:k v):Ix S i k
def gO(K:aA):R2:=λx y H Q=>onR x λp=>onI y λi=>Ix (eJ K H p) i λv=>Q v H
def eF(K:aA):R2:=λx y H Q=>onR x λp=>onI y λi=>Ix (eD K H p) i λv=>Q v H
theorem Fq{S:Addr→List V→Prop}{x y:V}{k:V→Prop}(h:onR x λp=>onI y λi=>Ix (S p) i k):∃p xs i v,x=.ref p∧y=.int i∧S p xs∧ph xs i=some v∧k v:=by obtain⟨p,rfl,h1⟩:=onR.ex h;obtain⟨i,rfl,h2⟩:=onI.ex h1;obtain⟨h3,e,q⟩:=h2;exact⟨p,_,i,_,rfl,rfl,h3,e,q⟩
def EO:R2:=λx y H Q=>∃z i c,x=.str z∧y=.int i∧z.length≤sizeLine∧ph z.cps.toList i=some c∧Q (.str ⟨#[c]⟩) H
theorem Ew:Lr X (gO X.K):=by
 intro value slice pins s σ H x y v u Q I rx ry h hs;obtain⟨p,xs,i,z,rfl,rfl,hq,he,q⟩:=Fq h;cases rx;obtain⟨t,rfl⟩:=ry;obtain⟨its,r,pl,hz⟩:=I.list hq;obtain⟨j,h1,h2,h3,h4,h5⟩:=uD he;obtain⟨w,ew,rw'⟩:=r.get h2;have hl:=r.length;have hn:=oJ;have gr:EP X pins σ Q w s:=⟨z,H,I,rw',q⟩;by_cases h0:0≤i
 ·have hj:i.toNat=j:=by rw[seqIndex_of h0 h5]at h1;exact Option.some.inj h1
  exact item_listR pl.isList h0 (by lia) (by rw[hj];simpa using ew) gr hs
 ·have hj:(i+(its.toArray.size:Int)).toNat=j:=by rw[seqIndex_neg (by lia) h4]at h1;rw[aL,←hl];exact Option.some.inj h1
  exact subscriptTail_builtinR (x:=w) pl.isList.typeIs slot_list_getitem.lookup
   (wpAny_getItem_list_neg (Q:=λr s'=>r=w∧EP X pins σ Q r s') pl.isList (by lia) (by rw[aL]<;>lia) (by lia) (by rw[hj];simpa using ew) ⟨rfl,gr⟩) hs
theorem JD:Lr X (eF X.K):=by
 intro value slice pins s σ H x y v u Q I rx ry h hs;obtain⟨p,xs,i,z,rfl,rfl,hq,he,q⟩:=Fq h;cases rx;obtain⟨t,rfl⟩:=ry;obtain⟨its,r,pl,hz⟩:=I.tuple hq;obtain⟨j,h1,h2,h3,h4,h5⟩:=uD he;obtain⟨w,ew,rw'⟩:=r.get h2;have hl:=r.length;have hn:=oJ;have gr:EP X pins σ Q w s:=⟨z,H,I,rw',q⟩;exact subscriptTail_builtinR (x:=w) pl.typeIs slot_tuple_getitem.lookup
  (getItem_tuple (j:=j) (Q:=λr s'=>r=w∧EP X pins σ Q r s') pl (by lia) (by lia) (by rw[aL,←hl];exact h1) (by simpa using ew) ⟨rfl,gr⟩) hs
theorem wc:Lr X EO:=by
 intro value slice pins s σ H x y v u Q I rx ry h hs;obtain⟨z,i,c,rfl,rfl,hz,he,q⟩:=h;obtain⟨t,rfl⟩:=rx;obtain⟨t',rfl⟩:=ry;obtain⟨j,h1,h2,h3,h4,h5⟩:=uD he;have hl:z.cps.toList.length=z.length:=by simp[Str.length]
 rw[hl]at h1 h4 h5;have hn:=oJ;exact tail_any (typeIs_str s z t) slot_str_getitem.lookup (getItem_str (c:=c) (by
  have e1:decide (i < -(2^63:Int))=false:=decide_eq_false (by lia);have e2:decide (i≥2^63)=false:=decide_eq_false (by lia);rw[e1,e2,Bool.or_false]) (by rw[h1];simpa using h2) ⟨.str ⟨#[c]⟩,H,I.tok _,⟨_,rfl⟩,q⟩) hs
theorem wW(its:List Value)(n j:Nat)(u:Value):Obj.mapSeq (·.setIfInBounds j u) {cls:=.type "list",data:=.seq its.toArray n}={cls:=.type "list",data:=.seq (its.set j u).toArray n}:=by simp[Obj.mapSeq]
theorem eZ.lst(I:eZ X pins σ H s)(h:H p=some (.lst xs)):
  ∃(its:List Value)(n:Nat),fL xs its∧s.heap.get? p=some {cls:=.type "list",data:=.seq its.toArray n}∧xs.length≤sizeLine:=by
 obtain⟨z,its,n,r,e⟩:=I.hok p _ h;exact⟨its,n,r,e,z⟩
theorem eZ.lstUpd{pins:List (Addr×Obj)}{σ:St}{H:Hp}{s:Shared}{p:Addr}{xs ys:List V}{its its':List Value}{n n':Nat}{f:Obj→Obj}(I:eZ X pins σ H s)(h:H p=some (.lst xs))
  (ho:s.heap.get? p=some {cls:=.type "list",data:=.seq its.toArray n}) (hf:f {cls:=.type "list",data:=.seq its.toArray n}={cls:=.type "list",data:=.seq its'.toArray n'}) (r:fL ys its') (hz:ys.length≤sizeLine) (t:Nat):
  eZ X pins σ (upd H p (.lst ys)) {s with heap:=s.heap.update p f,toks:=t}:=by
 have e:(s.heap.update p f).get? p=some {cls:=.type "list",data:=.seq its'.toArray n'}:=by rw[Heap.get?_update_self f ho (by rw[hf]<;>rfl),hf]
 refine I.write (x:=p) (e:=p) (by rw[h];trivial) (.inl rfl) (λb u hb q=>(Heap.get?_update_other _ _ (af hb)).trans q) ⟨_,e⟩ ?_;exact⟨hz,its',n',r,e⟩
def Bj:V→V→V→Hp→(Hp→Prop)→Prop:=λo i v H Q=>onR o λp=>onI i λk=>lP (λxs=>H p=some (.lst xs)) λxs=>lP (λj=>C5 xs.length k=some j) λj=>Q (upd H p (.lst (xs.set j v)))
theorem ug:LK X Bj:=by
 intro pins s σ H o i v ov iv u Q I ro ri rv h;obtain⟨p,rfl,h⟩:=onR.ex h;obtain⟨k,rfl,h⟩:=onI.ex h;obtain @⟨xs,hp,h⟩:=h;obtain @⟨j,hj,q⟩:=h;cases ro;obtain⟨t,rfl⟩:=ri;obtain⟨its,n,r,ho,hz⟩:=I.lst hp;obtain⟨h1,h2,h3,h4⟩:=yM hj;have hl:=r.length;have hn:=oJ;have I':eZ X pins σ (upd H p (.lst (xs.set j v))) {s with heap:=s.heap.update p (Obj.mapSeq (·.setIfInBounds j u))}:=
  I.lstUpd hp ho (wW its n j u) (r.set rv j) (by rw[List.length_set];exact hz) s.toks
 by_cases h0:0≤k
 ·have hk:k.toNat=j:=by rw[seqIndex_of h0 h4]at h1;exact Option.some.inj h1
  exact PySem.W.ki_setAt ho h0 (by lia) (by rw[aL,←hl];exact h4) (by rw[hk];exact⟨_,I',q⟩)
 ·have hk:(k+(its.toArray.size:Int)).toNat=j:=by rw[seqIndex_neg (by lia) h3]at h1;rw[aL,←hl];exact Option.some.inj h1
  exact PySem.W.ki_setBack ho (by lia) (by rw[aL,←hl];exact h3) (by lia) (by rw[hk];exact⟨_,I',q⟩)
theorem sg(lo hi:Option Int)(n:Nat):(sliceBounds lo hi none n).1=((HT.kZ n 0 lo:Nat):Int)∧(sliceBounds lo hi none n).2.1=((HT.kZ n n hi:Nat):Int)∧(sliceBounds lo hi none n).2.2=1:=by
 refine⟨?_,?_,rfl⟩
 ·cases lo with
  | none=>simp[sliceBounds,HT.kZ]
  | some i=>
   simp only[sliceBounds,HT.kZ,Option.getD_none,show(1:Int)>0 by decide,if_true];by_cases h:i<0
   ·simp only[h,if_true]<;>lia
   ·simp only[h,if_false]<;>lia
 ·cases hi with
  | none=>simp[sliceBounds,HT.kZ]
  | some i=>
   simp only[sliceBounds,HT.kZ,Option.getD_none,show(1:Int)>0 by decide,if_true];by_cases h:i<0
   ·simp only[h,if_true]<;>lia
   ·simp only[h,if_false]<;>lia
theorem qv(its:List Value)(lo hi:Option Int):slicePick its.toArray lo hi none=((its.drop (HT.kZ its.length 0 lo)).take (HT.kZ its.length its.length hi-HT.kZ its.length 0 lo)).toArray:=by obtain⟨h1,h2,h3⟩:=sg lo hi its.toArray.size;unfold slicePick;rw[h1,h2,h3];simp only[sliceRange_one,pick_run,aL]<;>rfl
def jM(K:aA):V→Option Int→Option Int→Hp→VK→Prop:=λx lo hi H Q=>onR x λa=>lP (eJ K H a) λxs=>k6 H (.lst (ix xs lo hi)) Q
theorem gh:C9 X (jM X.K):=by intro pins s σ H x v vl vu lo hi sl Q I rx hs pl pu h;obtain⟨a,rfl,h⟩:=onR.ex h;obtain @⟨xs,hx,q⟩:=h;cases rx;obtain⟨its,r,ht,hz⟩:=I.list hx;have hlen:=r.length;refine⟨"list",_,slot_list_getitem.lookup,ht.isList.typeIs,?_⟩;refine wpAny_getItem_list_slice ht.isList hs pl pu .none (by simp) ?_ (by rw[aL]<;>lia);rw[qv,←hlen];refine⟨.ref s.heap.objs.size,_,I.laid (t':=s.toks) (o:=.lst (ix xs lo hi)) (λb ob q=>Heap.get?_push_of_some _ q) (aC _) ?_,rfl,q _ (I.hok.fresh (aC _))⟩;exact⟨aY (ou xs lo hi) hz,_,0,(r.drop (HT.kZ xs.length 0 lo)).take (HT.kZ xs.length xs.length hi-HT.kZ xs.length 0 lo),Heap.get?_push_size _ rfl⟩
def nK:V→Bool
 | .non=>true
 | .bl _=>true
 | .int _=>true
 | .str _=>true
 | _=>false
def C7:V→V→Bool
 | .non,.non=>true
 | .bl a,.bl b=>a==b
 | .bl a,.int b=>(if a then 1 else 0)==b
 | .int a,.bl b=>a==(if b then 1 else 0)
 | .int a,.int b=>a==b
 | .str a,.str b=>a==b
 | _,_=>false
theorem JM(ry:fT y u)(rx:fT x v)(fy:nK y=true)(fx:nK x=true):SeqAt.EqAt A s u v (C7 y x):=by
 cases y with
 | non=>
  cases ry;cases x with
  | non=>cases rx;exact SeqAt.EqAt.same _
  | bl b=>cases rx;exact SeqAt.EqAt.none_bool b
  | int b=>obtain⟨t,rfl⟩:=rx;exact SeqAt.EqAt.none_int b t
  | str b=>obtain⟨t,rfl⟩:=rx;exact SeqAt.EqAt.none_str b t
  | _=>exact absurd (show false=true from fx) aR
 | bl a=>
  cases ry;cases x with
  | non=>cases rx;exact SeqAt.EqAt.bool_none a
  | bl b=>cases rx;exact SeqAt.EqAt.bool_bool a b
  | int b=>obtain⟨t,rfl⟩:=rx;exact SeqAt.EqAt.bool_int a b t
  | str b=>obtain⟨t,rfl⟩:=rx;exact SeqAt.EqAt.bool_str a b t
  | _=>exact absurd (show false=true from fx) aR
 | int a=>
  obtain⟨t',rfl⟩:=ry;cases x with
  | non=>cases rx;exact SeqAt.EqAt.int_none a t'
  | bl b=>cases rx;exact SeqAt.EqAt.int_bool a t' b
  | int b=>obtain⟨t,rfl⟩:=rx;exact SeqAt.EqAt.int_int a t' b t
  | str b=>obtain⟨t,rfl⟩:=rx;exact SeqAt.EqAt.int_str a t' b t
  | _=>exact absurd (show false=true from fx) aR
 | str a=>
  obtain⟨t',rfl⟩:=ry;cases x with
  | non=>cases rx;exact SeqAt.EqAt.str_none a t'
  | bl b=>cases rx;exact SeqAt.EqAt.str_bool a t' b
  | int b=>obtain⟨t,rfl⟩:=rx;exact SeqAt.EqAt.str_int a t' b t
  | str b=>obtain⟨t,rfl⟩:=rx;exact SeqAt.EqAt.str_str a t' b t
  | _=>exact absurd (show false=true from fx) aR
 | _=>exact absurd (show false=true from fy) aR
def E6(x:V)(u:Value):Bool:=match u with
 | .none=>C7 .non x
 | .bool b=>C7 (.bl b) x
 | .int i _=>C7 (.int i) x
 | .str z _=>C7 (.str z) x
 | _=>false
theorem Ce(r:fT y u)(f:nK y=true):E6 x u=C7 y x:=by
 cases y with
 | non=>cases r;rfl
 | bl b=>cases r;rfl
 | int i=>obtain⟨t,rfl⟩:=r;rfl
 | str z=>obtain⟨t,rfl⟩:=r;rfl
 | _=>exact absurd (show false=true from f) aR
theorem uE:∀{xs:List V}{us:List Value},fL xs us→xs.all nK=true→us.any (E6 x)=xs.any λy=>C7 y x
 | _,_,.nil,_=>rfl
 | y::xs,u::us,.cons r t,f=>by rw[List.all_cons,bb]at f;rw[bc,bc,Ce r f.1,uE t f.2]
theorem qY(rx:fT x v)(fx:nK x=true):∀{xs:List V}{us:List Value},fL xs us→xs.all nK=true→∀u∈us,SeqAt.EqAt A s u v (E6 x u)
 | _,_,.nil,_=>λu hu=>by cases hu
 | y::xs,u::us,.cons r t,f=>λu' hu=>by
  rw[List.all_cons,bb]at f;rcases aB.mp hu with rfl|hu
  ·rw[Ce r f.1];exact JM r rx f.1 fx
  ·exact qY rx fx t f.2 u' hu
def rS(x:V)(xs:List V):Bool:=xs.any λy=>C7 y x
def Fc(K:aA)(neg:Bool):R2:=λx y H Q=>onR y λp=>lP (λxs=>eJ K H p xs∨eD K H p xs) λxs=>nK x=true∧xs.all nK=true∧Q (.bl (if neg then !rS x xs else rS x xs)) H
theorem jO:mf X (compareOp .In) (Fc X.K false):=by
 intro pins s σ H x y v u Q I rx ry h;obtain⟨p,rfl,h⟩:=onR.ex h;obtain @⟨xs,hq,fx,fs,q⟩:=h;cases ry;rcases hq with hq|hq
 ·obtain⟨its,r,pl,hz⟩:=I.list hq;refine SeqAt.in_listAt (E6 x) pl.isList (λw hw=>qY rx fx r fs w (by simpa using hw)) ⟨.bl _,H,I,rfl,?_⟩;rw[show its.toArray.any (E6 x)=its.any (E6 x) by simp,uE r fs];exact q
 ·obtain⟨its,r,pl,hz⟩:=I.tuple hq;refine SeqAt.in_tupleAt (E6 x) pl (λw hw=>qY rx fx r fs w (by simpa using hw)) ⟨.bl _,H,I,rfl,?_⟩;rw[show its.toArray.any (E6 x)=its.any (E6 x) by simp,uE r fs];exact q
def gT(K:aA):List V→Hp→VK→Prop:=λxs H Q=>on1 xs λx=>onR x λp=>lP (λys=>eJ K H p ys∨eD K H p ys) λys=>Q (.int ys.length) H
theorem dy:lI X (.builtin "len") (gT X.K):=by
 intro pins s σ H xs us Q I r h;obtain⟨_,rfl,h⟩:=on1.ex h;obtain⟨p,rfl,h⟩:=onR.ex h;obtain @⟨ys,hq,q⟩:=h;obtain⟨u,rfl,rx⟩:=lT r;cases rx;have hn:=oJ;rcases hq with hq|hq
 ·obtain⟨its,r',pl,hz⟩:=I.list hq;have hlen:=r'.length;exact Calls.call_len_list pl.isList (by simp only[aL]<;>lia) ⟨.int ys.length,H,I.tok _,⟨s.toks+1,by rw[aL,hlen]⟩,q⟩
 ·obtain⟨its,r',pl,hz⟩:=I.tuple hq;have hlen:=r'.length;exact len_tuple pl (by simp only[aL]<;>lia) ⟨.int ys.length,H,I.tok _,⟨s.toks+1,by rw[aL,hlen]⟩,q⟩
theorem jl:lI X (.builtin "len") (λxs H Q=>∃z,xs=[.str z]∧z.length≤sizeLine∧Q (.int z.length) H):=by intro pins s σ H xs us Q I r h;obtain⟨z,rfl,hz,q⟩:=h;obtain⟨u,rfl,t,rfl⟩:=lT r;have hn:=oJ;exact len_str (by lia) ⟨.int z.length,H,I.tok _,⟨_,rfl⟩,q⟩
def tz(K:aA):List V→Hp→VK→Prop:=λxs H Q=>on1 xs λx=>onR x λp=>lP (λys=>eJ K H p ys∨eD K H p ys) λys=>k6 H (.lst ys) Q
theorem nO:lI X (.type "list") (tz X.K):=by
 intro pins s σ H xs us Q I r h;obtain⟨_,rfl,h⟩:=on1.ex h;obtain⟨p,rfl,h⟩:=onR.ex h;obtain @⟨ys,hq,q⟩:=h;obtain⟨u,rfl,rx⟩:=lT r;cases rx;have gr:∀(its:List Value),fL ys its→ys.length≤sizeLine→∀(h':Heap)(c':Nat),(∀b o',s.heap.get? b=some o'→h'.get? b=some o')→
   h'.get? s.heap.objs.size=some {cls:=.type "list",dict:=none,data:=.seq its.toArray c',slots:=#[]}→EP X pins σ Q (.ref s.heap.objs.size) {s with heap:=h'}:=λits r' hz h' c' kp e=>
  ⟨.ref s.heap.objs.size,_,I.laid (t':=s.toks) kp (aC _) (show gf X.prog X.w _ h' _ (.lst ys)from⟨hz,its,c',r',e⟩),rfl,q _ (I.hok.fresh (aC _))⟩
 rcases hq with hq|hq
 ·obtain⟨its,r',pl,hz⟩:=I.list hq;have hlen:=r'.length;obtain⟨o,ho,hc,n,hd⟩:=pl.isList;exact call_list_seq p (.inl rfl) ho hc hd (λh' c' kp e=>gr its r' hz h' c' kp e) (by simp only[aL]<;>lia)
 ·obtain⟨its,r',pl,hz⟩:=I.tuple hq;have hlen:=r'.length;obtain⟨o,ho,hc,n,hd⟩:=pl;exact call_list_seq p (.inr rfl) ho hc hd (λh' c' kp e=>gr its r' hz h' c' kp e) (by simp only[aL]<;>lia)
theorem kR:lI X (.type "tuple") (λxs H Q=>∃p ys,xs=[.ref p]∧((eJ X.K H p ys∧∀l,H l=none→Q (.ref l) (upd H l (.tup ys)))∨(eD X.K H p ys∧Q (.ref p) H))):=by
 intro pins s σ H xs us Q I r h;obtain⟨p,ys,rfl,h⟩:=h;obtain⟨u,rfl,rx⟩:=lT r;cases rx;rcases h with⟨hq,q⟩|⟨hq,q⟩
 ·obtain⟨its,r',pl,hz⟩:=I.list hq;have hlen:=r'.length;refine call_tuple_list pl.isList (λh' kp=>?_) (by simp only[aL]<;>lia);have I1:eZ X pins σ H {s with heap:=h'}:=I.kept (t':=s.toks) kp;have I2:eZ X pins σ (upd H h'.objs.size (.tup ys)) {s with heap:=h'.push {cls:=.type "tuple",data:=.seq its.toArray}}:=
   I1.laid (t':=s.toks) (λb o e=>Heap.get?_push_of_some _ e) (aC _) (show gf X.prog X.w _ _ _ (.tup ys)from⟨hz,its,r',IsTup.new _ _⟩)
  exact⟨.ref h'.objs.size,_,I2,rfl,q _ (I1.hok.fresh (aC _))⟩
 ·obtain⟨its,r',pl,hz⟩:=I.tuple hq;exact call_tuple_same pl ⟨.ref p,H,I,rfl,q⟩
def Lw(K:aA)(T:String)(x:V)(H:Hp):Prop:=match x with
 | .str _=>T="str"
 | .int _=>T="int"
 | .ref p=>(T="list"∧∃xs,eJ K H p xs)∨(T="tuple"∧∃o,K.lookup p=some o∧o.cls=.type "tuple"∧o.dict=none)∨
   (T="dict"∧((∃kvs,H p=some (.dK kvs))∨∃kvs,H p=some (.dT kvs)))∨(T="set"∧∃S n,H p=some (.set S n))
 | _=>False
theorem AT(I:eZ X pins σ H s)(r:fT x v)(ty:Lw X.K T x H):
  s.TypeIs v T∧∀a,v=.ref a→∃ob,s.heap.get? a=some ob∧ob.dict=none:=by
 cases x with
 | str z=>obtain⟨t,rfl⟩:=r;cases(show T="str" from ty);exact⟨typeIs_str s z t,λ_ e=>nomatch e⟩
 | int i=>obtain⟨t,rfl⟩:=r;cases(show T="int" from ty);exact⟨typeIs_int s i t,λ_ e=>nomatch e⟩
 | ref p=>
  cases r;rcases ty with⟨rfl,xs,hq⟩|⟨rfl,o,hk,hc,hd⟩|⟨rfl,hk⟩|⟨rfl,S,n,hk⟩
  ·obtain⟨its,_,pl,_⟩:=I.list hq;refine⟨pl.isList.typeIs,λa e=>?_⟩;cases e;obtain⟨o,n,e,c,hd,_⟩:=pl;exact⟨o,e,hd⟩
  ·refine⟨⟨o,I.kIn p o hk,hc⟩,λa e=>?_⟩;cases e;exact⟨o,I.kIn _ o hk,hd⟩
  ·have z:∃o,s.heap.get? p=some o∧o.ExactDict:=by
    rcases hk with⟨kvs,hk⟩|⟨kvs,hk⟩
    ·obtain⟨_,_,_,_,o,_,_,e,ex,_⟩:=I.hok p _ hk;exact⟨o,e,ex⟩
    ·obtain⟨_,_,_,_,o,_,_,e,ex,_⟩:=I.hok p _ hk;exact⟨o,e,ex⟩
   obtain⟨o,e,ex⟩:=z;refine⟨⟨o,e,ex.1⟩,λa e2=>?_⟩;cases e2;exact⟨o,e,ex.2.1⟩
  ·obtain⟨o,_,_,_,e,ex,_⟩:=I.hok p _ hk;refine⟨⟨o,e,ex.1⟩,λa e2=>?_⟩;cases e2;exact⟨o,e,ex.2.1⟩
 | _=>exact False.elim ty
def mV(K:aA)(T:String)(r:V→List V→Hp→VK→Prop)(to:TE):TE:=λσ H Q=>to σ H λx H1=>Lw K T x H1∧r x [] H1 Q
def jm(K:aA)(T:String)(r:V→List V→Hp→VK→Prop)(to:TE)(t:TA):TE:=λσ H Q=>to σ H λx H1=>Lw K T x H1∧t σ H1 λxs H2=>r x xs H2 Q
variable {o e:Expr}{es:List Expr}{to:TE}{t:TA}{name:Str}{apos cpos:Pos}{T id:String}{r:V→List V→Hp→VK→Prop}
theorem jD(pa:PlainAttrs T)(slot:Slot T name id)(hty:typeOf (.builtin id)=pure (.type "method_descriptor"))(hm:OS X id r)(ho:PE X o to)
  (hbase:attributeBase o name X.env (eval o X.env)=eval o X.env:=by rfl) (hline:(apos.endLine==cpos.line)=true:=by rfl):PE X (.Call (.Attribute o name apos) [] [] cpos) (mV X.K T r to):=by
 intro pins s σ H Q I h;refine wpAny_Call_method0_late hbase hline (thn (ho pins s σ H _ I h) λv s1 ⟨x,H1,I1,r1,ty,q1⟩=>?_);obtain⟨h1,h2⟩:=AT I1 r1 ty;exact⟨T,id,pa,slot,hty,h1,h2,Calls.callWith_builtin rfl (PySem.evalArgs_none (hm pins s1 σ H1 x [] v [] Q I1 r1 .nil q1))⟩
theorem gB(pa:PlainAttrs T)(slot:Slot T name id)(hty:typeOf (.builtin id)=pure (.type "method_descriptor"))(hm:OS X id r)(ho:PE X o to)(ha:PA X (e::es) t)
  (hbase:attributeBase o name X.env (eval o X.env)=eval o X.env:=by rfl)
  (hfew:((backTo cpos (starEach (e::es) X.env)).all (λx=>!x.1)&&(backToKw cpos (keywordEach [] X.env)).all (λx=>x.1.isSome)
   && decide ((e::es).length+([]:List Keyword).length+(if([]:List Keyword).isEmpty then 0 else 1)<30))=true:=by rfl)
  (hline:(apos.endLine==cpos.line)=true:=by rfl) (hs:starEach (e::es) X.env=(false,eval e X.env)::starEach es X.env:=by rfl) (hplain:(backTo cpos (starEach es X.env)).any (·.1)=false:=by rfl):
  PE X (.Call (.Attribute o name apos) (e::es) [] cpos) (jm X.K T r to t):=by
 intro pins s σ H Q I h;refine wpAny_Call_method_late hbase hfew hline rfl (thn (ho pins s σ H _ I h) λv s1 ⟨x,H1,I1,r1,ty,q1⟩=>?_);obtain⟨h1,h2⟩:=AT I1 r1 ty;refine⟨T,id,pa,slot,hty,h1,h2,?_⟩;have hA:=ha cpos pins s1 σ H1 _ I1 q1;rw[hs]at hA⊢;refine Calls.callWith_builtin (by show(false||(backTo cpos (starEach es X.env)).any (·.1))=false;rw[hplain]<;>rfl) (Calls.evalArgs_plain ?_);exact thn hA λus s2 ⟨vs,H2,I2,r2,q2⟩=>hm pins s2 σ H2 x vs v us Q I2 r1 r2 q2
end
def Lq(X:Cx)(id:String)(r:V→List V→Hp→VK→Prop):Prop:=
 ∀(pins:List (Addr×Obj))(s:Shared)(σ:St)(H:Hp)(x:V)(xs:List V)(v:Value)(us:List Value)(Q:VK),eZ X pins σ H s→fT x v→fL xs us→r x xs H Q→
  wpAny (model X.prog X.w) X.A (call (.builtin id) (v::us)) (EP X pins σ Q) X.xe s
theorem fL.one:∀{x:V}{us:List Value},fL [x] us→∃u,us=[u]∧fT x u
 | _,_,.cons r .nil=>⟨_,rfl,r⟩
theorem fL.two:∀{x y:V}{us:List Value},fL [x,y] us→∃u v,us=[u,v]∧fT x u∧fT y v
 | _,_,_,.cons r (.cons q .nil)=>⟨_,_,rfl,r,q⟩
theorem fL.zero:∀{us:List Value},fL [] us→us=[]
 | _,.nil=>rfl
theorem fL.dropLast(h:fL xs us):fL xs.dropLast us.dropLast:=by
 induction h with
 | nil=>exact .nil
 | cons r t ih=>
  cases t with
  | nil=>exact .nil
  | cons q t'=>exact .cons r ih
theorem wo(l:List α):l.eraseIdx (l.length-1)=l.dropLast:=by
 induction l with
 | nil=>rfl
 | cons a r ih=>
  cases r with
  | nil=>rfl
  | cons b r=>
   have e:(a::b::r).length-1=((b::r).length-1)+1:=by have h1:(a::b::r).length=r.length+2:=rfl;have h2:(b::r).length=r.length+1:=rfl;lia
   rw[e,List.eraseIdx_cons_succ,ih]
   all_goals rfl
section
variable {X:Cx}{pins:List (Addr×Obj)}{σ:St}{H:Hp}{s:Shared}{l b:Addr}{xs ys zs:List V}
theorem eZ.lset{its its':List Value}{n:Nat}{f:Array Value→Array Value}{t':Nat}(I:eZ X pins σ H s)(hH:H l=some (.lst xs))
  (e:s.heap.get? l=some {cls:=.type "list",data:=.seq its.toArray n}) (hf:f its.toArray=its'.toArray) (hv:fL ys its') (hz:ys.length≤sizeLine):
  eZ X pins σ (upd H l (.lst ys)) {s with heap:=s.heap.update l (Obj.mapSeq f),toks:=t'}:=by
 have q:=PySem.IsL.update e f;rw[hf]at q;refine I.write (x:=l) (e:=l) (by rw[hH];exact trivial) (.inl rfl) (λb' u hb hu=>(Heap.get?_update_other s.heap (Obj.mapSeq f) (af hb)).trans hu) ⟨_,q⟩ ?_;exact⟨hz,its',_,hv,q⟩
theorem eZ.lnew(I:eZ X pins σ H s)(hv:fL ys its)(hz:ys.length≤sizeLine):
  eZ X pins σ (upd H s.heap.objs.size (.lst ys)) {s with heap:=s.heap.push {cls:=.type "list",data:=.seq its.toArray},toks:=t'}:=
 I.laid (λ_ _ q=>Heap.get?_push_of_some _ q) (aC _) ⟨hz,its,0,hv,Heap.get?_push_size _ rfl⟩
theorem eZ.fresh(I:eZ X pins σ H s):H s.heap.objs.size=none:=I.hok.fresh (aC _)
theorem eZ.lstM(I:eZ X pins σ H s)(hH:H l=some (.lst xs)):xs.length≤sizeLine∧∃(its:List Value)(n:Nat),fL xs its∧xs.length=its.length∧s.heap.get? l=some {cls:=.type "list",data:=.seq its.toArray n}:=by obtain⟨z,its,n,r,e⟩:=I.hok l _ hH;exact⟨z,its,n,r,r.length,e⟩
theorem ut(h:n≤sizeLine):Builtin.List.listTooLong n=false:=by unfold Builtin.List.listTooLong;exact decide_eq_false (by lia)
end
section
variable {X:Cx}
def ef:V→List V→Hp→VK→Prop:=λx vs H Q=>onR x λl=>on1 vs λy=>lP (λxs=>H l=some (.lst xs)) λxs=>xs.length<sizeLine∧Q .non (upd H l (.lst (xs++[y])))
theorem eT:Lq X "list.append" ef:=by intro pins s σ H x vs v us Q I rx rv h;obtain⟨l,rfl,h⟩:=onR.ex h;obtain⟨y,rfl,h⟩:=on1.ex h;obtain @⟨xs,hH,hz,q⟩:=h;cases rx;obtain⟨u,rfl,ru⟩:=rv.one;obtain⟨z,its,n,r,hl,e⟩:=I.lstM hH;refine call_meets F.slot_list_append ⟨_,e,rfl⟩ F.entry_list_append (F.args_list_append_2 _ _) (PySem.list_append l its.toArray n u (by rw[aL];lia)) ⟨e,?_⟩;refine⟨.non,_,I.lset (its':=its++[u]) hH e (by simp) (r.append (.cons ru .nil)) ?_,rfl,q⟩;rw[aD,aw];lia
def m8:V→List V→Hp→VK→Prop:=λx vs H Q=>∃l b xs zs,x=.ref l∧vs=[.ref b]∧H l=some (.lst xs)∧H b=some (.lst zs)∧xs.length+zs.length≤sizeLine∧Q .non (upd H l (.lst (xs++zs)))
theorem oI:Lq X "list.extend" m8:=by
 intro pins s σ H x vs v us Q I rx rv h;obtain⟨l,b,xs,zs,rfl,rfl,hH,hB,hz,q⟩:=h;cases rx;obtain⟨u,rfl,ru⟩:=rv.one;cases ru;obtain⟨z,its,n,r,hl,e⟩:=I.lstM hH;obtain⟨z2,its2,n2,r2,hl2,e2⟩:=I.lstM hB;have hsz:its.toArray.size+its2.toArray.size≤sizeLine:=by rw[aL,aL];lia
 have hlong:¬(!its.toArray.isEmpty&&Builtin.List.listTooLong (its.toArray.size+its2.toArray.size))=true:=by rw[ut hsz,Bool.and_false];exact aR
 refine call_meets F.slot_list_extend ⟨_,e,rfl⟩ F.entry_list_extend (F.args_list_extend_2 _ _)
  (AutoSeq1.list_extend_list_list_0 l its.toArray n b its2.toArray n2 hlong (by rw[aL];lia) (by lia)) ⟨e,e2,?_⟩
 refine⟨.non,_,I.lset (its':=its++its2) hH e (by simp) (r.append r2) ?_,rfl,q⟩;rw[aD];lia
def mY:V→List V→Hp→VK→Prop:=λx vs H Q=>onR x λl=>on0 vs (lP (λxs=>H l=some (.lst xs)) λxs=>lP (λy=>xs[xs.length-1]?=some y) λy=>Q y (upd H l (.lst xs.dropLast)))
theorem jF:Lq X "list.pop" mY:=by
 intro pins s σ H x vs v us Q I rx rv h;obtain⟨l,rfl,h⟩:=onR.ex h;obtain⟨rfl,h⟩:=on0.ex h;obtain @⟨xs,hH,h⟩:=h;obtain @⟨y,hy,q⟩:=h;cases rx;have hus:=rv.zero;subst hus;obtain⟨z,its,n,r,hl,e⟩:=I.lstM hH;obtain⟨u,hu,ru⟩:=r.get hy;have hy':its.toArray[its.toArray.size-1]?=some u:=by show its.toArray[its.length-1]?=some u;rw[←cV,←hl];exact hu
 refine call_meets F.slot_list_pop ⟨_,e,rfl⟩ F.entry_list_pop (F.args_list_pop_1 _) (MeetsSeq.list_pop_last l its.toArray n u hy' (by rw[aL];lia)) ⟨e,?_⟩;refine⟨y,_,I.lset (its':=its.dropLast) hH e ?_ r.dropLast ?_,ru,q⟩
 ·show its.toArray.eraseIdxIfInBounds (its.toArray.size-1)=its.dropLast.toArray;rw[aL,List.eraseIdxIfInBounds_toArray,wo]
 ·rw[List.length_dropLast];lia
def lL:R2:=λx y H Q=>onR x λl=>onR y λb=>lP (λxs=>H l=some (.lst xs)) λxs=>lP (λzs=>H b=some (.lst zs)) λzs=>xs.length+zs.length≤sizeLine∧k6 H (.lst (xs++zs)) Q
theorem jc:mf X (binaryOp .Add) lL:=by
 intro pins s σ H x y v u Q I rx ry h;obtain⟨l,rfl,h⟩:=onR.ex h;obtain⟨b,rfl,h⟩:=onR.ex h;obtain @⟨xs,hH,h⟩:=h;obtain @⟨zs,hB,hz,q⟩:=h;cases rx;cases ry;obtain⟨z,its,n,r,hl,e⟩:=I.lstM hH;obtain⟨z2,its2,n2,r2,hl2,e2⟩:=I.lstM hB;refine PySem.P.add_list e e2 ?_ (by rw[aL,aL];lia);have ea:its.toArray++its2.toArray=(its++its2).toArray:=by simp
 rw[ea];exact⟨.ref _,_,I.lnew (t':=s.toks) (r.append r2) (by rw[aD];lia),rfl,q _ I.fresh⟩
end
section
variable {prog:Program}{w:World}{A:Around}{E:Value→Shared→Prop}{s:Shared}
end
section
variable {X:Cx}
end
section
variable {κ:Type}[DecidableEq κ]
def fW(kvs:List (κ×V))(k:κ):Option V:=(kvs.find? λkv=>decide (kv.1=k)).map (·.2)
def gH(kvs:List (κ×V))(k:κ)(v:V):List (κ×V):=
 if(kvs.any λkv=>decide (kv.1=k))=true then kvs.map (λkv=>if kv.1=k then(kv.1,v)else kv)else kvs++[(k,v)]
theorem AR:fW ([]:List (κ×V)) k=none:=rfl
theorem gE{p:κ×V}{r:List (κ×V)}{k:κ}(e:p.1=k):fW (p::r) k=some p.2:=by simp[fW,be,e]
theorem gF{p:κ×V}{r:List (κ×V)}{k:κ}(e:¬p.1=k):fW (p::r) k=fW r k:=by simp[fW,be,e]
theorem jW(k:κ):∀kvs:List (κ×V),(kvs.any λkv=>decide (kv.1=k))=(fW kvs k).isSome
 | []=>rfl
 | p::r=>by
  rw[bc];by_cases e:p.1=k
  ·simp only[gE e,decide_eq_true e,Bool.true_or,Option.isSome_some]
  ·rw[gF e,decide_eq_false e,Bool.false_or];exact jW k r
theorem uS(k j:κ)(y:V):∀kvs:List (κ×V),fW (kvs.map λkv=>if kv.1=k then(kv.1,y)else kv) j=(fW kvs j).map λx=>if j=k then y else x
 | []=>rfl
 | p::r=>by
  have ih:=uS k j y r;rw[aX];by_cases h:p.1=k
  ·rw[if_pos h];by_cases e:p.1=j
   ·rw[gE (p:=(p.1,y)) e,gE e,bf,if_pos (e.symm.trans h)]
   ·rw[gF (p:=(p.1,y)) e,gF e,ih]
  ·rw[if_neg h];by_cases e:p.1=j
   ·rw[gE (p:=p) e,gE e,bf,if_neg (λz=>h (e.trans z))]
   ·rw[gF (p:=p) e,gF e,ih]
theorem q9(k j:κ)(y:V):∀kvs:List (κ×V),fW kvs k=none→fW (kvs++[(k,y)]) j=if j=k then some y else fW kvs j
 | [],_=>by
  by_cases e:k=j
  ·rw[if_pos e.symm];exact gE (p:=(k,y)) e
  ·rw[if_neg (λz=>e z.symm)];exact gF (p:=(k,y)) e
 | p::r,hn=>by
  rw[aO];have hk:¬p.1=k:=λz=>by rw[gE z]at hn;cases hn
  rw[gF hk]at hn;have ih:=q9 k j y r hn;by_cases e:p.1=j
  ·rw[gE e,gE e,if_neg (λz=>hk (e.trans z))]
  ·rw[gF e,gF e,ih]
theorem jo(kvs:List (κ×V))(k j:κ)(y:V):fW (gH kvs k y) j=if j=k then some y else fW kvs j:=by
 unfold gH;by_cases a:(kvs.any λkv=>decide (kv.1=k))=true
 ·rw[if_pos a,uS];rw[jW]at a;by_cases e:j=k
  ·obtain⟨x,hx⟩:=cy.mp a;rw[if_pos e,e,hx,bf,if_pos rfl]
  ·rw[if_neg e];cases fW kvs j with
   | none=>rfl
   | some x=>rw[bf,if_neg e]
 ·rw[if_neg a];refine q9 k j y kvs ?_;rw[jW]at a;cases q:fW kvs k with
  | none=>rfl
  | some x=>rw[q]at a;exact(a rfl).elim
theorem iC(kvs:List (κ×V))(k:κ)(v:V):(gH kvs k v).length≤kvs.length+1:=by
 unfold gH;split
 ·rw[aT];lia
 ·rw[aD,aE,am];lia
theorem qU{kvs:List (κ×V)}{k:κ}(v:V)(h:fW kvs k=none):gH kvs k v=kvs++[(k,v)]:=by unfold gH;rw[jW,h];exact if_neg (by decide)
theorem lO.isSome_eq(r:lO o u):o.isSome=u.isSome:=by
 cases o with
 | none=>cases u with
  | none=>rfl
  | some _=>exact(show False from r).elim
 | some _=>cases u with
  | none=>exact(show False from r).elim
  | some _=>rfl
theorem lO.getD(r:lO o u)(rd:fT d d'):fT (o.getD d) (u.getD d'):=by
 cases o with
 | none=>cases u with
  | none=>exact rd
  | some _=>exact(show False from r).elim
 | some _=>cases u with
  | none=>exact(show False from r).elim
  | some _=>exact r
theorem KV.val{kvs:List (κ×V)}{vs:List (κ×Value)}(r:KV kvs vs)(k:κ):lO (fW kvs k) (valueAt vs k):=by
 unfold KV at r;induction r with
 | nil=>exact aJ
 | @cons p q ps qs h t ih=>
  obtain⟨h1,h2⟩:=h;by_cases e:p.1=k
  ·have e':q.1=k:=h1.symm.trans e;have b:valueAt (q::qs) k=some q.2:=by simp[valueAt,be,e']
   rw[gE e,b];exact h2
  ·have e':¬q.1=k:=λz=>e (h1.trans z);have b:valueAt (q::qs) k=valueAt qs k:=by simp[valueAt,be,e']
   rw[gF e,b];exact ih
theorem KV.any(r:KV kvs vs)(k:κ):(kvs.any λkv=>decide (kv.1=k))=vs.any λkv=>decide (kv.1=k):=by
 unfold KV at r;induction r with
 | nil=>rfl
 | cons h t ih=>rw[bc,bc,ih,h.1]
theorem KV.repl(r:KV kvs vs)(k:κ)(ry:fT y u):
  KV (kvs.map λkv=>if kv.1=k then(kv.1,y)else kv) (vs.map λkv=>if kv.1=k then(kv.1,u)else kv):=by
 unfold KV at r⊢;induction r with
 | nil=>exact .nil
 | @cons p q ps qs h t ih=>
  rw[aX,aX];refine .cons ?_ ih;obtain⟨h1,h2⟩:=h;by_cases e:p.1=k
  ·rw[if_pos e,if_pos (h1.symm.trans e)];exact⟨h1,ry⟩
  ·rw[if_neg e,if_neg (λz=>e (h1.trans z))];exact⟨h1,h2⟩
theorem KV.put(r:KV kvs vs)(k:κ)(ry:fT y u):KV (gH kvs k y) (stored vs k u):=by
 unfold gH stored;rw[r.any k];by_cases e:(vs.any λkv=>decide (kv.1=k))=true
 ·rw[if_pos e,if_pos e];exact r.repl k ry
 ·rw[if_neg e,if_neg e];exact Paired.snoc r ⟨rfl,ry⟩
theorem KV.keys{kvs:List (κ×V)}{vs:List (κ×Value)}(r:KV kvs vs):kvs.map (·.1)=vs.map (·.1):=by
 unfold KV at r;induction r with
 | nil=>rfl
 | cons h t ih=>rw[aX,aX,ih,h.1]
theorem KV.length(r:KV kvs vs):kvs.length=vs.length:=Paired.length r
end
theorem qb(r:fT (kV k) u):(gj P w).is k u=true:=by
 cases k with
 | inl i=>obtain⟨t,e⟩:=(show ∃t,u=Value.int i t from r);subst e;exact uw P w i t
 | inr x=>obtain⟨t,e⟩:=(show ∃t,u=Value.str x t from r);subst e;exact uv P w x t
theorem rR:∀{ks:List fO}{us:List Value},fL (ks.map kV) us→ItemsAre (gj P w) ks us
 | [],_,r=>by rw[bV]at r;cases r;exact .nil
 | k::ks,_,r=>by
  rw[aX]at r;cases r with
  | cons h t=>exact .cons (qb h) (rR t)
abbrev KT(H:Hp):List (List fO×V)→List (List fO×Addr×Value)→Prop:=Paired λp q=>p.1=q.1∧H q.2.1=some (.tup (p.1.map kV))∧fT p.2 q.2.2
theorem KT.val{H:Hp}{kvs:List (List fO×V)}{xs:List (List fO×Addr×Value)}(r:KT H kvs xs)(k:List fO):lO (fW kvs k) ((atKey xs k).map (·.2)):=by
 induction r with
 | nil=>exact aJ
 | @cons p q ps qs h t ih=>
  obtain⟨h1,_,h2⟩:=h;by_cases e:p.1=k
  ·have e':q.1=k:=h1.symm.trans e;have b:atKey (q::qs) k=some q.2:=by simp[atKey,be,e']
   rw[gE e,b];exact h2
  ·have e':¬q.1=k:=λz=>e (h1.trans z);have b:atKey (q::qs) k=atKey qs k:=by simp[atKey,be,e']
   rw[gF e,b];exact ih
theorem KT.repl(r:KT H kvs xs)(k:List fO)(ry:fT y u):
  KT H (kvs.map λkv=>if kv.1=k then(kv.1,y)else kv) (xs.map (putAt k u)):=by
 induction r with
 | nil=>exact .nil
 | @cons p q ps qs h t ih=>
  rw[aX,aX];refine .cons ?_ ih;obtain⟨h1,h2,h3⟩:=h;unfold putAt;by_cases e:p.1=k
  ·rw[if_pos e,if_pos (h1.symm.trans e)];exact⟨h1,h2,ry⟩
  ·rw[if_neg e,if_neg (λz=>e (h1.trans z))];exact⟨h1,h2,h3⟩
theorem KT.put(r:KT H kvs xs)(k:List fO)(hb:H b=some (.tup (k.map kV)))(ry:fT y u):
  KT H (gH kvs k y) (storedH xs k b u):=by
 have e:(kvs.any λkv=>decide (kv.1=k))=(atKey xs k).isSome:=by rw[jW,(r.val k).isSome_eq,cW]
 unfold gH storedH;rw[e];by_cases q:(atKey xs k).isSome=true
 ·rw[if_pos q,if_pos q];exact r.repl k ry
 ·rw[if_neg q,if_neg q];exact Paired.snoc r ⟨rfl,hb,ry⟩
theorem KT.keeps(r:KT H kvs xs)(ht:∀b ys,H b=some (.tup ys)→H' b=some (.tup ys)):KT H' kvs xs:=
 Paired.mapP r λ_ _ z=>⟨z.1,ht _ _ z.2.1,z.2.2⟩
section
variable {P:Program}{w:World}{H:Hp}{h:Heap}{a:Addr}
theorem FY(ok:mq P w H h)(e:Rd H a u):gf P w H h a u:=e.ok ok
theorem nN(ok:mq P w H h)(e:Rd H a (.dK kvs)):kvs.length≤sizeLine∧(a==sysModules)=false∧∃vs,KV kvs vs∧h.DictOf (gj P w) a vs:=
 show gf P w H h a (.dK kvs)from FY ok e
theorem Fu(ok:mq P w H h)(e:H a=some (.dK kvs)):kvs.length≤sizeLine∧(a==sysModules)=false∧∃vs,KV kvs vs∧h.DictOf (gj P w) a vs:=nN ok (.inl e)
theorem oP(ok:mq P w H h)(e:H a=some (.tup (ks.map kV))):(tupleKind (gj P w)).is h ks a:=by obtain⟨_,its,r,o,h1,h2,n,h3⟩:=(show gf P w H h a (.tup (ks.map kV))from ok a _ e);exact⟨o,its.toArray,n,h1,h2,h3,by simpa using rR r⟩
theorem qi(ok:mq P w H h)(e:Rd H a (.dT kvs)):kvs.length≤sizeLine∧(a==sysModules)=false∧
  ∃xs,KT H kvs xs∧h.DictOfH (tupleKind (gj P w)) a xs:=by
 obtain⟨z,y,xs,r,o,es,ep,h1,h2,h3,h4,h5⟩:=(show gf P w H h a (.dT kvs)from FY ok e);refine⟨z,y,xs,r,o,es,ep,h1,h2,h3,h4,λx hx=>?_,h5⟩;have all:∀{l:List (List fO×V)}{m:List (List fO×Addr×Value)},KT H l m→∀x∈m,(tupleKind (gj P w)).is h x.1 x.2.1:=by
  intro l m q;induction q with
  | nil=>intro x hx;exact nomatch hx
  | @cons p q ps qs hq t ih=>
   intro x hx;rcases aB.mp hx with e|hx
   ·subst e;exact oP ok (by rw[←hq.1];exact hq.2.1)
   ·exact ih x hx
 exact all r x hx
theorem K7(ok:mq P w H h)(e:H a=some (.dT kvs)):kvs.length≤sizeLine∧(a==sysModules)=false∧
  ∃xs,KT H kvs xs∧h.DictOfH (tupleKind (gj P w)) a xs:=qi ok (.inl e)
end
def iV(H:Hp)(a:Addr)(y:V)(r:Option V):Prop:=
 (∃kvs k,Rd H a (.dK kvs)∧y=kV k∧r=fW kvs k)∨∃kvs k b,Rd H a (.dT kvs)∧y=.ref b∧H b=some (.tup (k.map kV))∧r=fW kvs k
def nZ(H:Hp)(a:Addr)(y v:V)(H':Hp):Prop:=
 (∃kvs k,H a=some (.dK kvs)∧y=kV k∧kvs.length<sizeLine∧H'=upd H a (.dK (gH kvs k v)))∨
 ∃kvs k b,H a=some (.dT kvs)∧y=.ref b∧H b=some (.tup (k.map kV))∧kvs.length<sizeLine∧H'=upd H a (.dT (gH kvs k v))
theorem iV.k{H:Hp}{a:Addr}{kvs:List (fO×V)}{k:fO}(e:H a=some (.dK kvs)):iV H a (kV k) (fW kvs k):=.inl ⟨kvs,k,.inl e,rfl,rfl⟩
theorem nZ.k{H:Hp}{a:Addr}{kvs:List (fO×V)}{k:fO}{v:V}(e:H a=some (.dK kvs))(hl:kvs.length<sizeLine):nZ H a (kV k) v (upd H a (.dK (gH kvs k v))):=.inl ⟨kvs,k,e,rfl,hl,rfl⟩
section
variable {X:Cx}{pins:List (Addr×Obj)}{σ:St}{H:Hp}{s:Shared}{a:Addr}{y v:V}{u r:Value}{o:Option V}{A:Around}{E:Value→Shared→Prop}
theorem eZ.big(I:eZ X pins σ H s):sysModules<s.heap.objs.size:=by have h:mainGlobals<s.heap.objs.size:=(I.mod.glob.keeps I.bk).lt;exact cX (by decide) h
theorem zu(hu:A.units+1<cLine)(I:eZ X pins σ H s)(g:iV H a y (some v))(ry:fT y u)(h:∀w' s',eZ X pins σ H s'→fT v w'→Q w' s'):
  wpAny (model X.prog X.w) A (getItem (.ref a) u) Q E s:=by
 rcases g with⟨kvs,k,e,ey,l⟩|⟨kvs,k,b,e,ey,eb,l⟩
 ·subst ey;obtain⟨z,hd,vs,rel,dd⟩:=nN I.hok e;obtain⟨w',hw,rw'⟩:=lO.some_of (v:=v) (o:=valueAt vs k) (by rw[l];exact rel.val k);exact wpAny_getItem_of (qb ry) dd.mapOf hw (h w' _ (I.tok _) rw')
 ·subst ey;cases(show u=Value.ref b from ry);obtain⟨z,hd,xs,rel,dd⟩:=qi I.hok e;obtain⟨w',hw,rw'⟩:=lO.some_of (v:=v) (o:=(atKey xs k).map (·.2)) (by rw[l];exact rel.val k);obtain⟨p,hp,hp2⟩:=Option.map_eq_some_iff.mp hw;refine wpAny_getItem_heap (tupleKind_room_in1 hu) (oP I.hok eb) dd hp ?_;rw[hp2];exact h w' _ (I.tok _) rw'
theorem NE(hu:A.units+1<cLine)(I:eZ X pins σ H s)(g:iV H a y o)(ry:fT y u)(h:∀s',eZ X pins σ H s'→Q (.bool o.isSome) s'):
  wpAny (model X.prog X.w) A (compareOp .In u (.ref a)) Q E s:=by
 rcases g with⟨kvs,k,e,ey,l⟩|⟨kvs,k,b,e,ey,eb,l⟩
 ·subst ey;obtain⟨z,hd,vs,rel,dd⟩:=nN I.hok e;refine wpAny_in_of (qb ry) hd dd.mapOf ?_;rw[←(rel.val k).isSome_eq,←l];exact h _ (I.tok _)
 ·subst ey;cases(show u=Value.ref b from ry);obtain⟨z,hd,xs,rel,dd⟩:=qi I.hok e;refine wpAny_in_heap (tupleKind_room_in1 hu) (oP I.hok eb) hd dd ?_;have q:=(rel.val k).isSome_eq;rw[cW]at q;rw[←q,←l];exact h _ (I.tok _)
theorem E8(hu:A.units+1<cLine)(I:eZ X pins σ H s)(g:iV H a y o)(ry:fT y u)(h:∀s',eZ X pins σ H s'→Q (.bool (!o.isSome)) s'):
  wpAny (model X.prog X.w) A (compareOp .NotIn u (.ref a)) Q E s:=by
 rcases g with⟨kvs,k,e,ey,l⟩|⟨kvs,k,b,e,ey,eb,l⟩
 ·subst ey;obtain⟨z,hd,vs,rel,dd⟩:=nN I.hok e;refine wpAny_notIn_of (qb ry) hd dd.mapOf ?_;rw[←(rel.val k).isSome_eq,←l];exact h _ (I.tok _)
 ·subst ey;cases(show u=Value.ref b from ry);obtain⟨z,hd,xs,rel,dd⟩:=qi I.hok e;refine wpAny_notIn_heap (tupleKind_room_in1 hu) (oP I.hok eb) hd dd ?_;have q:=(rel.val k).isSome_eq;rw[cW]at q;rw[←q,←l];exact h _ (I.tok _)
theorem tZ(I:eZ X pins σ H s)(mu:LN (H a))(hs:Heap.SameBut a s.heap h')(he:∃q,h'.get? a=some q)(new:gf X.prog X.w (upd H a ob) h' a ob):
  eZ X pins σ (upd H a ob) {s with heap:=h',toks:=t'}:=
 I.write (x:=a) (e:=a) mu (.inl rfl) (λb q hb z=>(hs.2 b hb).trans z) he new
theorem ww(z:kvs.length≤sizeLine)(hd:(a==sysModules)=false)(rel:KV kvs vs)(dd:h'.DictOf (gj P w) a vs):
  gf P w H' h' a (.dK kvs):=⟨z,hd,vs,rel,dd⟩
theorem zt(hu:A.units+1<cLine)(I:eZ X pins σ H s)(g:nZ H a y v H')(ry:fT y u)(rv:fT v r)(h:∀s',eZ X pins σ H' s'→Q () s'):
  wpAny (model X.prog X.w) A (setItem (.ref a) u r) Q E s:=by
 rcases g with⟨kvs,k,e,ey,l,eH⟩|⟨kvs,k,b,e,ey,eb,l,eH⟩
 ·subst ey eH;obtain⟨z,hd,vs,rel,dd⟩:=Fu I.hok e;have hz:vs.length≤sizeLine:=by rw[←rel.length];exact z
  have hl:(gH kvs k v).length≤sizeLine:=by have:=iC kvs k v;lia
  refine wpAny_setItem_pairs (hsz:=hz) (qb ry) dd λh' dd' hs=>h _ ?_;have he:∃q,h'.get? a=some q:=let ⟨q,_,_,hq,_⟩:=dd';⟨q,hq⟩;exact tZ I (by rw[e];exact aJ) hs he (ww hl hd (rel.put k rv) dd')
 ·subst ey eH;cases(show u=Value.ref b from ry);obtain⟨z,hd,xs,rel,dd⟩:=K7 I.hok e;have hz:xs.length≤sizeLine:=by rw[←Paired.length rel];exact z
  have hl:(gH kvs k v).length≤sizeLine:=by have:=iC kvs k v;lia
  refine wpAny_setItem_heap (hsz:=hz) (tupleKind_room_in1 hu) (oP I.hok eb) dd λh' dd' hs=>h _ ?_;obtain⟨q,es,ep,hq,h2,h3,h4,_,h5⟩:=dd';refine tZ I (by rw[e];exact aJ) hs ⟨q,hq⟩ ⟨hl,hd,_,(rel.put k eb rv).keeps λc ys ec=>?_,q,es,ep,hq,h2,h3,h4,h5⟩;rw[dj (fF ec e (λz=>nomatch z))];exact ec
end
section
variable {X:Cx}{pins:List (Addr×Obj)}{σ:St}{H:Hp}{s:Shared}{a:Addr}{kvs:List (fO×V)}{k:fO}{u:Value}{A:Around}{E:Value→Shared→Prop}
end
def LM(i:Expr):Prop:=∀ov iv,subscripted i false ov iv=operate [ov,iv] (getItem ov iv)
theorem D9{prog:Program}{w:World}{A:Around}{E:Value→Shared→Prop}{s:Shared}{env:Env}{value slice:Expr}{pos:Pos}{T id:String}{Q:Value→Shared→Prop}
  (hl:typeLookup (.type T) "__getitem__"=pure (some (.builtin id))) (hs:LM slice)
  (h:wpAny (model prog w) A (eval value env) (λo s₁=>wpAny (model prog w) A (eval slice env) (λi s₂=>s₂.TypeIs o T∧wpAny (model prog w) A (getItem o i) Q E s₂) E s₁) E s):
  wpAny (model prog w) A (eval (.Subscript value slice pos) env) Q E s:=by
 refine Subscript_ (wpAny_mono h (λo s₁ h₁=>wpAny_mono h₁ (λi s₂ h₂=>?_) λ_ _ x=>x) λ_ _ x=>x);obtain⟨hT,h₂⟩:=h₂;unfold subscriptTail;refine wpAny_bind ?_;rw[getitemInPython_of_ne hT.not_modules];refine wpAny_bind (wpAny_specialOf hT hl ?_);have gr:wpAny (model prog w) A (subscripted slice false o i) (λr s₃=>wpAny (model prog w) A (letTemporaryGo value o r >>= λ_=>pure r) Q E s₃) E s₂:=by rw[hs o i];exact wpAny_operating (wpAny_mono h₂ (λr s₃ h₃=>wpAny_bind (wpAny_letTemporaryGo (wpAny_pure h₃))) λ_ _ x=>x)
 first
  | exact wpAny_pure (wpAny_bind gr)
  | exact wpAny_bind (wpAny_pure (wpAny_bind gr))
  | exact wpAny_bind gr
theorem vH(I:eZ X pins σ H s)(g:iV H a y o):s.TypeIs (.ref a) "dict":=by
 rcases g with⟨kvs,k,e,_,_⟩|⟨kvs,k,b,e,_,_,_⟩
 ·obtain⟨_,_,vs,_,dd⟩:=nN I.hok e;exact dd.typeIs
 ·obtain⟨_,_,xs,_,dd⟩:=qi I.hok e;exact dd.typeIs
def rB(td ty:TE):TE:=λσ H Q=>td σ H λx H1=>ty σ H1 λy H2=>onR x λa=>lP (λv=>iV H2 a y (some v)) λv=>Q v H2
def BA(ty td:TE):TE:=λσ H Q=>ty σ H λy H1=>td σ H1 λx H2=>onR x λa=>lP (λo=>iV H2 a y o) λo=>Q (.bl o.isSome) H2
def pI(ty td:TE):TE:=λσ H Q=>ty σ H λy H1=>td σ H1 λx H2=>onR x λa=>lP (λo=>iV H2 a y o) λo=>Q (.bl (!o.isSome)) H2
def lV(td ty tv:TE):TS:=λD σ H=>tv σ H λv H1=>td σ H1 λx H2=>ty σ H2 λy H3=>onR x λa=>lP (λH4=>nZ H3 a y v H4) λH4=>D.nx σ H4
section
variable {X:Cx}{o i e value:Expr}{pos pos' tpos:Pos}{td ty tv:TE}
theorem nE(hu:X.A.units+1<cLine)(ho:PE X o td)(hi:PE X i ty)(hs:LM i):PE X (.Subscript o i pos) (rB td ty):=by intro pins s σ H Q I h;refine D9 PySem.F.slot_dict_getitem.lookup hs (thn (ho pins s σ H _ I h) λu s1 ⟨x,H1,I1,rx,q1⟩=>thn (hi pins s1 σ H1 _ I1 q1) λiv s2 ⟨y,H2,I2,ry,q2⟩=>?_);obtain⟨a,rfl,q2⟩:=onR.ex q2;obtain @⟨v,g,q2⟩:=q2;obtain rfl:u=Value.ref a:=rx;exact⟨vH I2 g,zu hu I2 g ry λw' s3 I3 rw'=>⟨v,H2,I3,rw',q2⟩⟩
theorem tG(hu:X.A.units+1<cLine)(hi:PE X i ty)(ho:PE X o td):PC X .In i o (BA ty td):=by intro pins s σ H Q I h;refine thn (hi pins s σ H _ I h) λiv s1 ⟨y,H1,I1,ry,q1⟩=>thn (ho pins s1 σ H1 _ I1 q1) λu s2 ⟨x,H2,I2,rx,q2⟩=>?_;obtain⟨a,rfl,q2⟩:=onR.ex q2;obtain @⟨ov,g,q2⟩:=q2;obtain rfl:u=Value.ref a:=rx;exact NE hu I2 g ry λs3 I3=>⟨.bl ov.isSome,H2,I3,rfl,q2⟩
theorem oG(hu:X.A.units+1<cLine)(hi:PE X i ty)(ho:PE X o td):PC X .NotIn i o (pI ty td):=by intro pins s σ H Q I h;refine thn (hi pins s σ H _ I h) λiv s1 ⟨y,H1,I1,ry,q1⟩=>thn (ho pins s1 σ H1 _ I1 q1) λu s2 ⟨x,H2,I2,rx,q2⟩=>?_;obtain⟨a,rfl,q2⟩:=onR.ex q2;obtain @⟨ov,g,q2⟩:=q2;obtain rfl:u=Value.ref a:=rx;exact E8 hu I2 g ry λs3 I3=>⟨.bl (!ov.isSome),H2,I3,rfl,q2⟩
theorem jS(hu:X.A.units+1<cLine)(ho:PE X o td)(hi:PE X i ty)(hv:PE X value tv)(hs:swapsWith value (some (.Subscript o i pos')) pos.line X.env=pure false):
  PS X (.Assign [.Subscript o i pos'] value pos) (lV td ty tv):=by
 intro pins s σ H D I h;refine wpAny_Assign_Subscript (thn (hv pins s σ H _ I h) λr s1 ⟨v,H1,I1,rv,q1⟩=>thn (ho pins s1 σ H1 _ I1 q1) λu s2 ⟨x,H2,I2,rx,q2⟩=>thn (hi pins s2 σ H2 _ I2 q2) λiv s3 ⟨y,H3,I3,ry,q3⟩=>?_) hs;obtain⟨a,rfl,q3⟩:=onR.ex q3;obtain @⟨H4,g,q3⟩:=q3;obtain rfl:u=Value.ref a:=rx;exact zt hu I3 g ry rv λs4 I4=>⟨σ,H4,I4,q3⟩
end
theorem vG(h:Heap)(hb:sysModules<h.objs.size):gf P w H (h.push {cls:=.type "dict",data:=.dict #[]}) h.objs.size (.dK []):=
 ⟨aU _,beq_eq_false_iff_ne.mpr (af (aM hb)),[],.nil,Heap.DictOf.new h⟩
def i8:TE:=λ_ H Q=>k6 H (.dK []) Q
section
variable {X:Cx}{pos:Pos}
theorem iQ:PE X (.Dict [] [] pos) i8:=λpins s σ H Q I h=>
 wpAny_Dict_empty ⟨.ref s.heap.objs.size,_,I.laid (a:=s.heap.objs.size) (o:=.dK []) (t':=s.toks) (λ_ _ q=>Heap.get?_push_of_some _ q) (aC _) (vG s.heap I.big),rfl,h _ (I.hok.fresh (aC _))⟩
end
def vk:List (TE×TE)→St→Hp→(List (V×V)→Hp→Prop)→Prop
 | [],_,H,Q=>Q [] H
 | (tk,tv)::r,σ,H,Q=>tk σ H λx H1=>tv σ H1 λy H2=>vk r σ H2 λps H3=>Q ((x,y)::ps) H3
abbrev VV:List (V×V)→List (Value×Value)→Prop:=Paired λp q=>fT p.1 q.1∧fT p.2 q.2
def Lm(X:Cx)(pos:Pos)(keys:List (Option Expr))(values:List Expr)(trs:List (TE×TE)):Prop:=
 ∀(pins:List (Addr×Obj))(s:Shared)(σ:St)(H:Hp)(Q:List (V×V)→Hp→Prop),eZ X pins σ H s→vk trs σ H Q→
  wpAny (model X.prog X.w) X.A (evalPairs (pairTrees keys values X.env pos)) (λvs s'=>∃ps H',eZ X pins σ H' s'∧VV ps vs∧Q ps H') X.xe s
theorem EU:Lm X pos [] [] []:=λpins s σ H Q I h=>pairTrees_nil_walk ⟨[],H,I,.nil,h⟩
theorem kb(hk:PE X k tk)(hv:PE X v tv)(hr:Lm X pos ks vs trs):
  Lm X pos (some k::ks) (v::vs) ((tk,tv)::trs):=λpins s σ H Q I h=>
 pairTrees_cons_walk (thn (hk pins s σ H _ I h) λu s1 ⟨x,H1,I1,rx,q1⟩=>thn (hv pins s1 σ H1 _ I1 q1) λw2 s2 ⟨y,H2,I2,ry,q2⟩=>
  thn (hr pins s2 σ H2 _ I2 q2) λws s3 ⟨ps,H3,I3,rel,q3⟩=>⟨(x,y)::ps,H3,I3,.cons ⟨rx,ry⟩ rel,q3⟩)
def fA(kvs more:List (fO×V)):List (fO×V):=more.foldl (λacc kv=>gH acc kv.1 kv.2) kvs
theorem KV.merge:∀{more:List (fO×V)}{rs:List (fO×Value)}{kvs:List (fO×V)}{vs:List (fO×Value)},KV more rs→KV kvs vs→KV (fA kvs more) (merged vs rs):=by
 intro more rs kvs vs r;unfold KV at r;induction r generalizing kvs vs with
 | nil=>intro q;exact q
 | @cons p q ps qs h t ih=>
  intro r0;have e:KV (gH kvs p.1 p.2) (stored vs q.1 q.2):=by have:=r0.put p.1 h.2;rw[←h.1];exact this
  exact ih e
theorem mO:∀(more kvs:List (fO×V)),(fA kvs more).length≤kvs.length+more.length
 | [],kvs=>by show kvs.length≤kvs.length+0;lia
 | p::r,kvs=>by have h1:=mO r (gH kvs p.1 p.2);have h2:=iC kvs p.1 p.2;show(fA (gH kvs p.1 p.2) r).length≤_;rw[aE];lia
theorem qj:∀{kvs:List (fO×V)}{ws:List (Value×Value)},VV (kvs.map λkv=>(kV kv.1,kv.2)) ws→∃rs,Carries (gj P w) ws rs∧KV kvs rs
 | [],_,r=>by rw[bV]at r;cases r;exact⟨[],aJ,.nil⟩
 | p::kvs,_,r=>by
  rw[aX]at r;cases r with
  | @cons a b as bs h t=>obtain⟨rs,c,q⟩:=qj (P:=P) (w:=w) t;obtain⟨b1,b2⟩:=b;exact⟨(p.1,b2)::rs,⟨qb h.1,rfl,c⟩,.cons ⟨rfl,h.2⟩ q⟩
def A9(trs:List (TE×TE)):TE:=λσ H Q=>∀p,H p=none→vk trs σ (upd H p (.dK [])) λps H2=>H2 p=some (.dK [])∧∃kvs:List (fO×V),ps=kvs.map (λkv=>(kV kv.1,kv.2))∧kvs.length≤15∧Q (.ref p) (upd H2 p (.dK (fA [] kvs)))
theorem EZ(h:Lm X pos keys values trs)(hall:keys.all (·.isSome)=true)(hl:keys.length=values.length)(h0:keys≠[])
  (h15:keys.length≤15):PE X (.Dict keys values pos) (A9 trs):=by
 intro pins s σ H Q I q;have hn:=I.hok.fresh (aC s.heap.objs.size);have I1:=I.laid (a:=s.heap.objs.size) (o:=.dK []) (h':=s.heap.push {cls:=.type "dict",data:=.dict #[]}) (t':=s.toks) (λ_ _ q=>Heap.get?_push_of_some _ q) (aC _) (vG s.heap I.big);refine wpAny_Dict_walk (knd:=gj X.prog X.w) hall hl h0 h15 (thn (h pins _ σ _ _ I1 (q _ hn)) λws s2 ⟨ps,H2,I2,rel,e,kvs,ep,lk,q2⟩=>?_);subst ep;obtain⟨rs,c,rk⟩:=qj (P:=X.prog) (w:=X.w) rel;obtain⟨z,hd,vs0,r0,dd⟩:=Fu I2.hok e;cases r0;refine⟨rs,c,dd,λh' dd' hs=>⟨.ref s.heap.objs.size,_,?_,rfl,q2⟩⟩;have hz:(fA [] kvs).length≤sizeLine:=by have h1:=mO kvs [];rw[am]at h1;rw[sizeLine_eq];lia
 have he:∃q,h'.get? s.heap.objs.size=some q:=let ⟨q,_,_,hq,_⟩:=dd';⟨q,hq⟩;exact tZ I2 (by rw[e];exact aJ) hs he (ww hz hd (rk.merge .nil) dd')
structure M2(X:Cx)(o:Expr)(m:Str)(apos:Pos)(e f:Expr)(cpos:Pos):Prop where
 base:attributeBase o m X.env (eval o X.env)=eval o X.env
 few:((backTo cpos (starEach [e,f] X.env)).all (λx=>!x.1)&&(backToKw cpos (keywordEach [] X.env)).all (λx=>x.1.isSome)
  && decide (([e,f]:List Expr).length+([]:List Keyword).length+(if([]:List Keyword).isEmpty then 0 else 1)<30))=true
 line:(apos.endLine==cpos.line)=true
 trees:backTo cpos (starEach [e,f] X.env)=[(false,eval e X.env),(false,eval f X.env)]
def OV(H:Hp)(a:Addr):Prop:=(∃kvs,Rd H a (.dK kvs))∨∃kvs,Rd H a (.dT kvs)
theorem JE(I:eZ X pins σ H s)(d:OV H a):
  s.TypeIs (.ref a) "dict"∧(∀b,Value.ref a=.ref b→∃ob,s.heap.get? b=some ob∧ob.dict=none)∧(a==sysModules)=false:=by
 rcases d with⟨kvs,e⟩|⟨kvs,e⟩
 ·obtain⟨_,hd,vs,_,dd⟩:=nN I.hok e;refine⟨dd.typeIs,λb q=>?_,hd⟩;cases q;obtain⟨ob,_,_,h1,h2,_⟩:=dd;exact⟨ob,h1,h2.2.1⟩
 ·obtain⟨_,hd,xs,_,dd⟩:=qi I.hok e;refine⟨dd.typeIs,λb q=>?_,hd⟩;cases q;obtain⟨ob,_,_,h1,h2,_⟩:=dd;exact⟨ob,h1,h2.2.1⟩
section
variable {X:Cx}{pins:List (Addr×Obj)}{σ:St}{H:Hp}{s:Shared}{a:Addr}{y d:V}{u r:Value}{o:Option V}{A:Around}{E:Value→Shared→Prop}
theorem JO(hu:A.units+1<cLine)(I:eZ X pins σ H s)(g:iV H a y o)(ry:fT y u)(rd:fT d r)(h:∀w' s',eZ X pins σ H s'→fT (o.getD d) w'→Q w' s'):
  wpAny (model X.prog X.w) A (call (.builtin "dict.get") [.ref a,u,r]) Q E s:=by
 rcases g with⟨kvs,k,e,ey,l⟩|⟨kvs,k,b,e,ey,eb,l⟩
 ·subst ey;obtain⟨z,hd,vs,rel,dd⟩:=nN I.hok e;refine call_meetsIn cY dd.typeIs dA (dB _ _ _) (meets_dict_get_default (gj X.prog X.w) a (qb ry) hd r) ⟨_,dd.mapOf,h _ _ (I.tok _) ?_⟩;rw[l];exact(rel.val k).getD rd
 ·subst ey;cases(show u=Value.ref b from ry);obtain⟨z,hd,xs,rel,dd⟩:=qi I.hok e;refine call_meetsIn cY dd.typeIs dA (dB _ _ _) (meetsH_dict_get_default (tupleKind (gj X.prog X.w)) a b hd r) ⟨tupleKind_room_in1 hu,k,xs,oP I.hok eb,dd,h _ _ (I.tok _) ?_⟩;rw[l];exact(rel.val k).getD rd
end
def qD(td ty tx:TE):TE:=λσ H Q=>td σ H λx H1=>onR x λa=>OV H1 a∧ty σ H1 λy H2=>tx σ H2 λz H3=>∃o,iV H3 a y o∧Q (o.getD z) H3
section
variable {X:Cx}{o e f:Expr}{apos cpos:Pos}{td ty tx:TE}
theorem nC(hu:X.A.units+1<cLine)(ho:PE X o td)(he:PE X e ty)(hf:PE X f tx)(m:M2 X o "get" apos e f cpos):PE X (.Call (.Attribute o "get" apos) [e,f] [] cpos) (qD td ty tx):=by
 intro pins s σ H Q I h;refine wpAny_Call_method m.base m.few m.line PySem.F.plainAttrs_dict cY PySem.F.type_dict_get (thn (ho pins s σ H _ I h) λu s1 ⟨x,H1,I1,rx,q1⟩=>?_);obtain⟨a,rfl,d,q1⟩:=onR.ex q1;obtain rfl:u=Value.ref a:=rx;obtain⟨t1,t2,_⟩:=JE I1 d;refine⟨t1,t2,?_⟩;rw[m.trees];refine Calls.callWith_builtin rfl (Calls.evalArgs_plain (Calls.spliced_cons (thn (he pins s1 σ H1 _ I1 q1) λiv s2 ⟨y,H2,I2,ry,q2⟩=>
  Calls.spliced_cons (thn (hf pins s2 σ H2 _ I2 q2) λfv s3 ⟨z,H3,I3,rz,ov,g,q3⟩=>Calls.spliced_nil ?_))))
 exact JO hu I3 g ry rz λw' s4 I4 rw'=>⟨_,H3,I4,rw',q3⟩
end
section
variable {X:Cx}{pins:List (Addr×Obj)}{σ:St}{H:Hp}{s:Shared}{a:Addr}{kvs:List (fO×V)}{A:Around}{E:Value→Shared→Prop}
theorem Ci(I:eZ X pins σ H s)(e:Rd H a (.dK kvs))(h:∀p s',H p=none→eZ X pins σ (upd H p (.dK kvs)) s'→Q (.ref p) s'):wpAny (model X.prog X.w) A (call (.type "dict") [.ref a]) Q E s:=by obtain⟨z,hd,vs,rel,dd⟩:=nN I.hok e;refine kt_call_dict hd dd (by rw[←rel.length];exact z) λh' dd' hs=>?_;refine h _ _ (I.hok.fresh (aC _)) (I.laid (a:=s.heap.objs.size) (o:=.dK kvs) (t':=s.toks) (λb q hq=>?_) (aC _) (ww z (beq_eq_false_iff_ne.mpr (af (aM I.big))) rel dd'));exact(hs.2 b (aM (Heap.lt_size hq))).trans (Heap.get?_push_of_some _ hq)
end
section
variable {X:Cx}{pins:List (Addr×Obj)}{σ:St}{H:Hp}{s:Shared}{a:Addr}{y:V}{u:Value}{A:Around}{E:Value→Shared→Prop}
end
end L2
namespace Att
open PySem PySem.W PySem.Calls PyProof.Rows
theorem pE:∀(ns:List Int)(vs:List Value),WellAll P h vs (ns.map WData.int)→IntsAre vs ns:=by
 intro ns;induction ns with
 | nil=>intro vs w;rw[bV]at w;cases w;exact .nil
 | cons n ns ih=>
  intro vs w;rw[aX]at w;cases w with
  | cons a b=>cases a;exact .cons _ _ (ih _ b)
theorem zE{l:OpenLaw}{n:Nat}(hn:l.most=some n){P:Params}{h:Heap}{args:List WData}{vals:List Value}
  (hpre:l.row.toRowW.claim.pre args=true) (hwl:WellAll P h vals args):
  ∃a vs ns,vals=[Value.ref a]∧args=[WData.list (ns.map WData.int)]∧h.get? a=some {cls:=.type "list",data:=.seq vs.toArray}∧IntsAre vs ns∧ns.length≤n:=by
 have hsh:WShape.hasAll [] args [.list .int]=true:=(pre_splitW hpre).1;have hc:l.pre.holds [] {args:=args}=true:=(pre_splitW hpre).2;obtain⟨d,r,rfl,h1,h2⟩:=hasAllW_cons hsh;obtain rfl:=hasAllW_nil h2;obtain⟨xs,rfl,h3⟩:=hasW_list h1;obtain⟨ns,rfl⟩:=items_int h3;have hlen:ns.length≤n:=by
  unfold OpenLaw.pre at hc;have h4:(WTm.not (.lt (.lit (.int (n:Int))) (.len (.arg 0)))).holds [] {args:=[.list (ns.map .int)]}=true:=by have h4:=(holds_andW hc).1;rw[hn]at h4;exact h4
  have h5:=condW_of h4 (w_not (w_lt w_lit (w_len_list (w_arg rfl))));rw[aT]at h5;refine Nat.le_of_not_lt λq=>?_;have q':(n:Int)<((ns.length:Nat):Int):=by lia
  first
   | (rw[decide_eq_true q']at h5;exact absurd h5 (by decide))
   | (simp at h5;lia)
 cases hwl with
 | cons w1 w2=>
  cases w2;cases w1 with
  | list ho hall=>exact⟨_,_,ns,rfl,rfl,ho,pE ns _ hall,hlen⟩
theorem zS(l:OpenLaw)(args:List WData):l.row.toRowW.claim.post args (.bool true) args=true:=
 postW_of (r:=l.row.toRowW) (X:=(true==true))
  (show WShape.has [] (.bool true) .bool=true by first|rfl|decide|simp[WShape.has,WShape.arms,WShape.armsAll])
  (show(WTm.eq .res (.lit (.bool true))).value [] {args:=args,res:=some (.bool true),after:=args}=some (.bool (true==true))from w_eq_bool (w_res rfl) w_lit) rfl
theorem Fv{l:OpenLaw}{n:Nat}{q:Program}{loose:List Str}{XP:(Str→Option Value)→Heap→Prop}{YP:World→Heap→Prop}{d:DefRec}
  (hn:l.most=some n) (hdf:d.params.defaults=[])
  (call:∀(w:World)(s₀ s₁:Shared)(mg mb:Str→Option Value)(fa:Addr)(o:Obj)(pm cd doc:Value)(a:Addr)(vs:List Value)(ns:List Int),
   Ground q loose [] XP w s₀ mg mb s₁.heap→YP w s₁.heap→
   s₁.heap.get? fa=some o→o.data=.func (docDef d.name d.params d.body d.scope pm cd doc)→s₁.heap.CodeRec cd d.name→mg d.name=some (.ref fa)→
   s₁.heap.get? a=some {cls:=.type "list",data:=.seq vs.toArray}→IntsAre vs ns→ns.length≤n→s₁.gens = #[]→
   codeAny (model l.prog w) callerA (.call (.ref fa) ⟨[.ref a],[]⟩) (λr s'=>r=.ok (.ret (.bool true))∧OldK s₁.heap s'.heap∧s'.os=s₁.os∧AllBare s'.gens) s₁):
  WalkO q loose XP YP l.row.toRowW d [] (λf vs=>PySem.call f vs):=by
 intro w s₀ s₁ mg mb G Y fa o pm cd doc dV kV ho hd hcd hD hmg hg args vals as hpre hlay hrd hwl hlo;obtain rfl:dV=.none:=Dflts.none hD hdf;obtain rfl:kV=.none:=Dflts.noKw hD;obtain⟨a,vs,ns,rfl,rfl,hobj,hints,hlen⟩:=zE hn hpre hwl;refine enter_call (codeAny_mono (call w s₀ s₁ mg mb fa o pm cd doc a vs ns G Y ho (fd_plain hd) hcd hmg hobj hints hlen hg) λr s' hq=>?_);obtain⟨rfl,h2,h3,h4⟩:=hq;exact⟨.inl ⟨.bool true,.bool true,[],rfl,λ_=>rfl,.bool true,zS l _,λ_=>⟨List.Pairwise.nil,λ_ hm=>(nomatch hm)⟩⟩,h2,h3,h4⟩
section
variable {prog:Program}{w:World}{A:Around}{E:Value→Shared→Prop}{s:Shared}{K:Frag}
end
end Att
namespace L2
open PySem PySem.Spec PyProof.Rows
theorem q8:∀{vs:List Value}{ns:List Int},IntsAre vs ns→fL (ns.map V.int) vs
 | _,_,.nil=>.nil
 | _,_,.cons n t h=>.cons ⟨t,rfl⟩ (q8 h)
def JX(H:Hp):Prop:=∀b,H b=none∨∃o xs,H b=some (.frz o (.lst xs))
theorem CL{P:Program}{w:World}{K:aA}{mg mb:Str→Option Value}{CX:AI}{k:Nat}{fa a:Addr}{fd:FuncData}{x:Str}{sp:Sp}{s₁:Shared}{vs:List Value}{ns:List Int}
  (KX:K.In s₁.heap) (hns:s₁.heap.Ns mainGlobals mg) (hb:s₁.heap.Ns builtinsNs mb) (hbb:∀x:Str,x≠"__name__"→mb x=bootBuiltins x) (hlim:s₁.heap.NoLimit) (hg:s₁.gens = #[])
  (ha:s₁.heap.get? a=some {cls:=.type "list",data:=.seq vs.toArray}) (hi:IntsAre vs ns) (hl:ns.length≤sizeLine) (hr:iy k callerA)
  (F:∀base:Heap,K.In base→base.Ns mainGlobals mg→lu P w K mg base CX k fa fd [x] sp) (hbind:∀(s:Shared)(u:Value),BindsTo s fd ⟨[u],[]⟩ [(x,u)])
  (hsp:∀H:Hp,JX H→eJ K H a (ns.map V.int)→sp [.ref a] H (λv _=>v=.bl true) λ_ _ _=>False)
  (hCX:∀H e s',CX [] H s₁ (λ_ _ _=>False) e s'→False):
  codeAny (model P w) callerA (.call (.ref fa) ⟨[.ref a],[]⟩) (λr s'=>r=.ok (.ret (.bool true))∧OldK s₁.heap s'.heap∧s'.os=s₁.os∧AllBare s'.gens) s₁:=by
 have rv:=q8 hi;have lenV:=hi.length;have core:∀H:Hp,JX H→eJ K H a (ns.map V.int)→mq P w H s₁.heap→(∀b,H b≠none→b=a)→(H a≠none→K.lookup a=none)→
   codeAny (model P w) callerA (.call (.ref fa) ⟨[.ref a],[]⟩) (λr s'=>r=.ok (.ret (.bool true))∧OldK s₁.heap s'.heap∧s'.os=s₁.os∧AllBare s'.gens) s₁:=by
  intro H hO hS hok hA hK;have base_of:∀{b:Addr}{o:Obj},s₁.heap.get? b=some o→H b=none→(tT s₁.heap H).get? b=some o:=λe n=>CW e n;have noA:∀{b:Addr}{o:Obj}{es:Array DictEntry}{ep:Nat},s₁.heap.get? b=some o→o.data=.dict es ep→H b=none:=λ{b o es ep} e d=>by
   cases q:H b with
   | none=>rfl
   | some u=>have e':b=a:=hA b (by rw[q];simp);subst e';rw[ha]at e;cases e;have d':Data.seq vs.toArray _=Data.dict es ep:=d;cases d'
  have nsK:∀{b:Addr}{m:Str→Option Value},s₁.heap.Ns b m→(tT s₁.heap H).Ns b m:=λ{b m} ⟨o,es,ep,e,d,r⟩=>⟨o,es,ep,base_of e (noA e d),d,r⟩;have hKb:K.In (tT s₁.heap H):=λb o e=>base_of (KX b o e) (by
   cases q:H b with
   | none=>rfl
   | some u=>
    have e':b=a:=hA b (by rw[q];simp);subst e';rw[hK (by rw[q];simp)]at e;cases e)
  have hM:Mod K mg (tT s₁.heap H):=⟨hKb,nsK hns,⟨mb,nsK hb,hbb⟩,let ⟨mc,h1,h2⟩:=hlim;⟨mc,nsK h1,h2⟩⟩;have e0:xI P w K mg (tT s₁.heap H) callerA [] s₁ H:=⟨rfl,hM,λb o e=>Er e,Nat.le_of_eq (zj _ _),trivial,λb hb=>absurd (show b∈([]:List Addr)from hb) (by simp),hok,.of_eq hg⟩;refine codeAny_mono ((F _ hKb (nsK hns)).run callerA [] s₁ H ⟨[.ref a],[]⟩ [.ref a] [.ref a] _ _ hr e0 (hbind s₁ (.ref a)) (.cons rfl .nil) (hsp H hO hS)) λr s' h=>?_;cases r with
  | error e=>exact(hCX H e s' h).elim
  | ok fl=>
   cases fl with
   | next=>exact False.elim h
   | brk=>exact False.elim h
   | cont=>exact False.elim h
   | ret u=>
    obtain⟨v,H',os,bare,un,hok',r',q⟩:=h;have q':v=.bl true:=q;subst q';obtain rfl:u=Value.bool true:=r';refine⟨rfl,OldK.of_keep λb o e=>?_,os,bare⟩;cases q:H b with
    | none=>exact un.keep b o e q (by intro z;exact absurd (show b∈([]:List Addr)from z) (by simp)) (by simp)
    | some u=>
     rcases hO b with z|⟨ob,xs,z⟩
     ·rw[q]at z;cases z
     ·have z2:=un.frzs b ob _ z;obtain⟨e1,_⟩:=hok b _ z;obtain⟨e2,_⟩:=hok' b _ z2;rw[e]at e1;cases e1;exact e2
 cases hk:K.lookup a with
 | some o=>have e:=KX a o hk;rw[ha]at e;cases e;refine core (λ_=>none) (λ_=>.inl rfl) (.inr ⟨_,vs.toArray,_,hk,rfl,rfl,rfl,by rw[aL,lenV];exact hl,by simpa using rv⟩) (λb u z=>by have z':(none:Option HO)=some u:=z;cases z') (λb z=>absurd rfl z) λz=>absurd rfl z
 | none=>
  refine core (λb=>if b=a then some (.frz {cls:=.type "list",data:=.seq vs.toArray} (.lst (ns.map V.int)))else none) (λb=>?_) (.inl (.inr ⟨{cls:=.type "list",data:=.seq vs.toArray},if_pos rfl⟩)) (λb u z=>?_) (λb z=>?_) λ_=>hk
  ·by_cases hb:b=a
   ·exact .inr ⟨_,_,if_pos hb⟩
   ·exact .inl (if_neg hb)
  ·by_cases hb:b=a
   ·have z':=(if_pos hb).symm.trans z;cases z';subst hb;exact⟨ha,by rw[aT];exact hl,vs,_,rv,ha⟩
   ·have z':=(if_neg hb).symm.trans z;cases z'
  ·by_cases hb:b=a
   ·exact hb
   ·exact absurd (if_neg hb) z
theorem LW{l:PySem.W.OpenLaw}{n k:Nat}{q:Program}{loose:List Str}{XP:(Str→Option Value)→Heap→Prop}{YP:World→Heap→Prop}{d:DefRec}{K:Params→aA}{CX:World→AI}{sp:World→Sp}{x:Str}
  (hn:l.most=some n) (hn2:n≤sizeLine) (hdf:d.params.defaults=[]) (hr:iy k callerA)
  (hY:∀(w:World)(h:Heap),YP w h→(K w.params).In h)
  (F:∀(w:World)(mg:Str→Option Value)(fa:Addr)(h:Heap),(K w.params).In h→h.Ns mainGlobals mg→mg d.name=some (.ref fa)→
   ∃fd:FuncData,(∀(s:Shared)(u:Value),BindsTo s fd ⟨[u],[]⟩ [(x,u)])∧
    ∀base:Heap,(K w.params).In base→base.Ns mainGlobals mg→lu l.prog w (K w.params) mg base (CX w) k fa fd [x] (sp w))
  (hsp:∀(w:World)(H:Hp)(a:Addr)(ns:List Int),ns.length≤n→JX H→eJ (K w.params) H a (ns.map V.int)→sp w [.ref a] H (λv _=>v=.bl true) λ_ _ _=>False)
  (hCX:∀(w:World)(H:Hp)(s:Shared)(e:Value)(s':Shared),CX w [] H s (λ_ _ _=>False) e s'→False):
  PySem.W.WalkO q loose XP YP l.row.toRowW d [] (λf vs=>PySem.call f vs):=by
 refine Att.Fv hn hdf λw s₀ s₁ mg mb fa o pm cd doc a vs ns G Y ho hd hcd hmg hobj hints hlen hg=>?_;have KX:=hY w _ Y;obtain⟨fd,hb,hF⟩:=F w mg fa _ KX G.T.g hmg;exact CL KX G.T.g G.T.b G.T.builtins G.T.nolimit hg hobj hints (aY hlen hn2) hr hF hb (λH hO hS=>hsp w H a ns hlen hO hS) λH e s'=>hCX w H s₁ e s'
def gC(s:Stmt)(j:Nat):Stmt:=match s with
 | .ClassDef _ _ _ body _ _ _ _ _ _ _=>body.getD j (.Pass ⟨0,0,0,0⟩)
 | _=>.Pass ⟨0,0,0,0⟩
def lC(s:Stmt):Arguments:=match s with
 | .FunctionDef _ a _ _ _ _ _ _ _ _=>a
 | _=>{posonlyargs:=[],args:=[],vararg:=none,kwonlyargs:=[],kw_defaults:=[],kwarg:=none,defaults:=[]}
def iI(s:Stmt):List Stmt:=match s with
 | .FunctionDef _ _ b _ _ _ _ _ _ _=>b
 | _=>[]
def fI(s:Stmt):Scope:=match s with
 | .FunctionDef _ _ _ _ _ _ sc _ _ _=>sc
 | _=>{kind:=.function,names:=[],isGenerator:=false,isCoroutine:=false}
abbrev vb:AI:=λ_ _ _ _ _ _=>False
abbrev E0:XK:=λ_ _ _=>False
theorem Bw:oZ vb X E0:=λ_ _ _ _ _ _ _ h=>h.elim
structure GC(K:aA)(x qual:Str)(st:Stmt)(f:Addr)(fd:FuncData):Prop where
 ex:∃(oc:Value)(od:Option Addr)(kV doc pm:Value)(an:Option Addr)(cdv ct:Value)(osl:Array (Option Value)),
  fd=PySem.W.fnOf x qual (lC st) (iI st) (fI st) .none kV doc pm an cdv ct∧K.lookup f=some ⟨oc,od,.func fd,osl⟩∧PySem.W.codeIn K cdv qual=true
 kp:PySem.W.keepIn K (.ref f)=true
section
variable {P:Program}{w:World}{K:aA}{mg:Str→Option Value}{base:Heap}
theorem GC.ok{x qual:Str}{st:Stmt}{f:Addr}{fd:FuncData}{N ps:List Str}{k:Nat}{sp:Sp}(F:GC K x qual st f fd)(S:nY N ps (fI st))(len:∀vs H Q E,sp vs H Q E→vs.length=ps.length)
  (hbody:∀(cdv:Value)(A:Around)(outer:List Env)(s:Shared)(H:Hp)(vs:List V)(Q:VK)(E:XK),iy k (A.deeper (envOfC qual (fI st) s.heap.objs.size f cdv))→sp vs H Q E→
   ∃t,uH (oU vb P w K mg base N qual (fI st) f cdv A outer s H E).nox (iI st) t∧t {nx:=λ_ H'=>Q .non H',rt:=Q} (start N vs) H):lu P w K mg base vb (k+1) f fd ps sp:=by
 obtain⟨oc,od,kV,doc,pm,an,cdv,ct,osl,rfl,lk,hcd⟩:=F.ex;refine K4 lk hcd S len λA outer s H vs Q E hr hsp=>?_;obtain⟨t,h,q⟩:=hbody cdv A outer s H vs Q E hr hsp;exact⟨t,h.nox,q⟩
theorem GC.binds{x qual:Str}{st:Stmt}{f:Addr}{fd:FuncData}{ps:List Str}(F:GC K x qual st f fd)
  (h:∀(kV doc pm:Value)(an:Option Addr)(cdv ct:Value)(us:List Value),us.length=ps.length→bindArgs (PySem.W.fnOf x qual (lC st) (iI st) (fI st) .none kV doc pm an cdv ct) ⟨us,[]⟩=pure (ps.zip us)):ng K fd ps []:=by
 obtain⟨oc,od,kV,doc,pm,an,cdv,ct,osl,rfl,lk,hcd⟩:=F.ex;exact .all (h kV doc pm an cdv ct)
theorem JJ{x qual:Str}{st:Stmt}{f:Addr}{oc:Value}{od an:Option Addr}{osl:Array (Option Value)}{kV doc pm cdv ct:Value}(l:K.lookup f=some ⟨oc,od,.func (PySem.W.fnOf x qual (lC st) (iI st) (fI st) .none kV doc pm an cdv ct),osl⟩)
  (c:PySem.W.codeIn K cdv qual=true) (k:PySem.W.keepIn K (.ref f)=true):GC K x qual st f (PySem.W.fnOf x qual (lC st) (iI st) (fI st) .none kV doc pm an cdv ct):=⟨⟨oc,od,kV,doc,pm,an,cdv,ct,osl,rfl,l,c⟩,k⟩
end
theorem iD(hr:iy k A):A.units+1<cLine:=cZ (Nat.add_le_add_left (by decide:1≤64) _) hr.units
theorem kX(h:n≤1000):n<sizeLine:=cZ h (by decide)
section
variable {X:Cx}
theorem pv(i:Nat)(hN:X.N[i]?=some x:=by rfl)(hv:Li X.env.scope x:=by first|exact bF rfl|exact bS (bF rfl)|exact bS (bS rfl))(hd:(x==("__debug__":Str))=false:=by decide)
  (hcd:(x==("__classdict__":Str))=false:=by decide):PE X (.Name x pos) (dQ i):=Bu hN hv hd hcd
end
theorem fQ{A B:Prop}(h:B):if false=true then A else B:=by rw[if_neg aR];exact h
theorem qc{A B:Prop}(h:A):if true=true then A else B:=by rw[if_pos rfl];exact h
theorem jP{c A B:Prop}[Decidable c](h1:c→A)(h2:¬c→B):if c then A else B:=by
 by_cases h:c
 ·rw[if_pos h];exact h1 h
 ·rw[if_neg h];exact h2 h
def dz(H H':Hp):Prop:=∀b o,H b=some o→H' b=some o
theorem dz.refl(H:Hp):dz H H:=λ_ _ h=>h
theorem dz.trans(a:dz H H1)(b:dz H1 H2):dz H H2:=λc o h=>b c o (a c o h)
theorem dz.free(e:dz H H')(h:H' l=Option.none):H l=Option.none:=by
 cases q:H l with
 | none=>rfl
 | some o=>rw[e l o q]at h;cases h
theorem dz.seq{K:aA}{H H':Hp}{a:Addr}{xs:List V}(e:dz H H')(h:eJ K H a xs):eJ K H' a xs:=by
 rcases h with(h|⟨o,h⟩)|h
 ·exact .inl (.inl (e _ _ h))
 ·exact .inl (.inr ⟨o,e _ _ h⟩)
 ·exact .inr h
section
variable {κ:Type}[DecidableEq κ]
theorem yI:∀{l:List κ}{k:κ},l.Nodup→¬k∈l→(l++[k]).Nodup
 | [],k,_,_=>by simp
 | a::r,k,h,hk=>by
  obtain⟨h1,h2⟩:=bR.mp h;show(a::(r++[k])).Nodup;refine bR.mpr ⟨λm=>?_,yI h2 λm=>hk (aB.mpr (bS m))⟩;rcases aW.mp m with q|q
  ·exact h1 q
  ·exact hk (aB.mpr (bF (aG.mp q).symm))
end
theorem fD:bootBuiltins "len"=some (.builtin "len"):=by decide
theorem xB:bootBuiltins "int"=some (.type "int"):=by decide
theorem uB:bootBuiltins "str"=some (.type "str"):=by decide
theorem FA:bootBuiltins "bool"=some (.type "bool"):=by decide
theorem pY:bootBuiltins "list"=some (.type "list"):=by decide
theorem kA:bootBuiltins "tuple"=some (.type "tuple"):=by decide
theorem pZ:bootBuiltins "dict"=some (.type "dict"):=by decide
theorem AA:bootBuiltins "sorted"=some (.builtin "sorted"):=by decide
theorem fi:bootBuiltins "isinstance"=some (.builtin "isinstance"):=by decide
theorem JR:bootBuiltins "min"=some (.builtin "min"):=by decide
theorem Cp:bootBuiltins "abs"=some (.builtin "abs"):=by decide
theorem tR(p:PlainL h a its):h.IsList a its:=by obtain⟨o,n,e,c,_,d⟩:=p;exact⟨o,e,c,n,d⟩
theorem CT(p:IsTup h a its):h.IsTuple a its:=p
theorem xP:∀{xs:List V}{us:List Value},xs.length=us.length→(∀(i:Nat) x u,xs[i]?=some x→us[i]?=some u→fT x u)→fL xs us
 | [],[],_,_=>.nil
 | [],_::_,h,_=>by simp at h
 | _::_,[],h,_=>by simp at h
 | x::xs,u::us,h,k=>.cons (k 0 x u rfl rfl) (xP (by simpa using h) λi y w a b=>k (i+1) y w (by simpa using a) (by simpa using b))
theorem EM(h:qa k u=true):fT (kV k) u:=by
 rcases gW h with⟨i,t,rfl,rfl⟩|⟨x,t,rfl,rfl⟩
 ·exact⟨t,rfl⟩
 ·exact⟨t,rfl⟩
def mP(kvs:List (fO×V)):List V:=kvs.map λkv=>kV kv.1
theorem zf(r:KV kvs vs)(h:ItemsOf (λi v=>∃k x,vs[i]?=some (k,x)∧(gj P w).is k v=true) acc vs.length):fL (mP kvs) acc.toList:=by
 refine xP ?_ λi x u hx hu=>?_
 ·have e1:acc.toList.length=vs.length:=by rw[bj];exact h.1
  have e2:(mP kvs).length=kvs.length:=by simp[mP]
  rw[e1,e2];exact r.length
 ·obtain⟨k,y,e,hk⟩:=h.2 i u (by rw[←cV];exact hu);have q:(kvs.map (·.1))[i]?=some k:=by rw[r.keys,ae,e];rfl
  have q2:(mP kvs)[i]?=some (kV k):=by
   have:mP kvs=(kvs.map (·.1)).map kV:=by simp[mP]
   rw[this,ae,q];rfl
  rw[q2]at hx;cases hx;exact EM hk
section
variable {X:Cx}
def ku(K:aA):R2:=λx y H Q=>onR x λa=>onR y λb=>lP (eJ K H a) λxs=>eJ K H b []∧Q (.bl (!xs.isEmpty)) H
theorem ju(hu:X.A.units<cLine):mf X (compareOp .NotEq) (ku X.K):=by
 intro pins s σ H x y v u Q I rx ry h;obtain⟨a,rfl,h⟩:=onR.ex h;obtain⟨b,rfl,h⟩:=onR.ex h;obtain @⟨xs,ha,hb,q⟩:=h;cases rx;cases ry;obtain⟨its,r1,p1,_⟩:=I.list ha;obtain⟨its2,r2,p2,_⟩:=I.list hb;cases r2;cases r1 with
 | nil=>exact SeqAt.RcNeAt.lists (e:=λ_=>true) (tR p1) (tR p2) rfl hu (λj h1 _=>absurd h1 (ca _)) _ _ _ _ ⟨.bl false,H,I,rfl,q⟩
 | cons _ _=>exact SeqAt.RcNeAt.lists_lengths (tR p1) (tR p2) rfl hu _ _ _ _ ⟨.bl true,H,I,rfl,q⟩
theorem lD:lI X (.type "dict") (λxs H Q=>∃a kvs,xs=[.ref a]∧Rd H a (.dK kvs)∧k6 H (.dK kvs) Q):=by intro pins s σ H xs us Q I r h;obtain⟨a,kvs,rfl,ha,q⟩:=h;obtain⟨u,rfl,ru⟩:=lT r;cases ru;exact Ci I ha λp s' hp I'=>⟨.ref p,_,I',rfl,q p hp⟩
theorem xo:∀{ws:List Str}{us:List Value},fL (ws.map V.str) us→StrsAre us ws
 | [],_,r=>by rw[bV]at r;cases r;exact .nil
 | w::ws,_,r=>by
  rw[aX]at r;cases r with
  | cons h t=>obtain⟨t',rfl⟩:=h;exact .cons w t' (xo t)
theorem yF:∀{ws:List Str}{us:List Value},StrsAre us ws→fL (ws.map V.str) us
 | _,_,.nil=>.nil
 | _,_,.cons _ t h=>.cons ⟨t,rfl⟩ (yF h)
def pF(K:aA):List V→Hp→VK→Prop:=λxs H Q=>onC xs λx r=>on1 r λy=>onY y λc=>lP (oW K H x) λt=>lP (λb=>PySem.W.kitOne K t (.type c)=some b) λb=>Q (.bl b) H
theorem iT:lI X (.builtin "isinstance") (pF X.K):=by intro pins s σ H xs us Q I r h;obtain⟨x,_,rfl,h⟩:=onC.ex h;obtain⟨_,rfl,h⟩:=on1.ex h;obtain⟨c,rfl,h⟩:=onY.ex h;obtain @⟨t,ty,h⟩:=h;obtain @⟨b,e,q⟩:=h;obtain⟨u,w',rfl,ru,rw'⟩:=FK r;cases rw';exact zi I ru ty e λtk=>⟨.bl b,H,I.tok tk,rfl,q⟩
end
end L2
namespace SW
open PySem PySem.Spec PyProof.Rows
inductive T where
 | num(n:Int)|name(w:Str)
 | sum(a b:T)|less(a b:T)|cho(a b c:T)|lt(w:Str)(a b:T)
 | st0(w:Str)|st1(w:Str)(a:T)|st2(w:Str)(a b:T)
def T.size:T→Nat
 | .num _=>1
 | .name _=>1
 | .sum a b=>a.size+b.size+1
 | .less a b=>a.size+b.size+1
 | .cho a b c=>a.size+b.size+c.size+1
 | .lt _ a b=>a.size+b.size+1
 | .st0 _=>1
 | .st1 _ a=>a.size+1
 | .st2 _ a b=>a.size+b.size+1
theorem T.size_pos(t:T):0<t.size:=by cases t<;>simp[T.size]
def T.kids:T→List T
 | .num _=>[]
 | .name _=>[]
 | .sum a b=>[a,b]
 | .less a b=>[a,b]
 | .cho a b c=>[a,b,c]
 | .lt _ a b=>[a,b]
 | .st0 _=>[]
 | .st1 _ a=>[a]
 | .st2 _ a b=>[a,b]
def fE(ts:List T):Nat:=(ts.map T.size).sum
theorem jK:fE []=0:=rfl
theorem gA(t:T)(ts:List T):fE (t::ts)=t.size+fE ts:=by simp[fE]
theorem fK(a b:List T):fE (a++b)=fE a+fE b:=by simp[fE]
theorem jL(t:T):fE t.kids+1=t.size:=by cases t<;>simp[T.kids,T.size,fE]<;>lia
theorem fC:∀ts:List T,ts.length≤fE ts
 | []=>aC _
 | t::ts=>by have h:=fC ts;have h2:=t.size_pos;rw[gA,aE];lia
def T.occ(w:Str):T→Prop
 | .num _=>False
 | .name v=>v=w
 | .sum a b=>a.occ w∨b.occ w
 | .less a b=>a.occ w∨b.occ w
 | .cho a b c=>a.occ w∨b.occ w∨c.occ w
 | .lt _ a b=>a.occ w∨b.occ w
 | .st0 _=>False
 | .st1 _ a=>a.occ w
 | .st2 _ a b=>a.occ w∨b.occ w
def T.out(w:Str):T→Prop
 | .num _=>False
 | .name v=>v=w
 | .sum a b=>a.out w∨b.out w
 | .less a b=>a.out w∨b.out w
 | .cho a b c=>a.out w∨b.out w∨c.out w
 | .lt v a b=>a.out w∨(v≠w∧b.out w)
 | .st0 _=>False
 | .st1 _ a=>a.out w
 | .st2 _ a b=>a.out w∨b.out w
theorem T.out_occ:∀{t:T},t.out w→t.occ w
 | .num _,h=>h
 | .name _,h=>h
 | .sum _ _,h=>h.elim (λx=>.inl (out_occ x)) λx=>.inr (out_occ x)
 | .less _ _,h=>h.elim (λx=>.inl (out_occ x)) λx=>.inr (out_occ x)
 | .cho _ _ _,h=>h.elim (λx=>.inl (out_occ x)) λx=>.inr (x.elim (λx=>.inl (out_occ x)) λx=>.inr (out_occ x))
 | .lt _ _ _,h=>h.elim (λx=>.inl (out_occ x)) λx=>.inr (out_occ x.2)
 | .st0 _,h=>h
 | .st1 _ a,h=>out_occ (t:=a) h
 | .st2 _ _ _,h=>h.elim (λx=>.inl (out_occ x)) λx=>.inr (out_occ x)
def T.names:T→List Str
 | .num _=>[]
 | .name v=>[v]
 | .sum a b=>a.names++b.names
 | .less a b=>a.names++b.names
 | .cho a b c=>a.names++b.names++c.names
 | .lt _ a b=>a.names++b.names
 | .st0 _=>[]
 | .st1 _ a=>a.names
 | .st2 _ a b=>a.names++b.names
theorem T.names_occ:∀{t:T},w∈t.names↔t.occ w
 | .num _=>by simp[names,occ]
 | .name _=>by simp[names,occ,eq_comm]
 | .sum a b=>by simp[names,occ,names_occ (t:=a),names_occ (t:=b)]
 | .less a b=>by simp[names,occ,names_occ (t:=a),names_occ (t:=b)]
 | .cho a b c=>by simp[names,occ,names_occ (t:=a),names_occ (t:=b),names_occ (t:=c)]
 | .lt _ a b=>by simp[names,occ,names_occ (t:=a),names_occ (t:=b)]
 | .st0 _=>by simp[names,occ]
 | .st1 _ a=>by simp[names,occ,names_occ (t:=a)]
 | .st2 _ a b=>by simp[names,occ,names_occ (t:=a),names_occ (t:=b)]
theorem T.names_len:∀t:T,t.names.length≤t.size
 | .num _=>by simp[names]
 | .name _=>by simp[names,size]
 | .sum a b=>by have:=names_len a;have:=names_len b;simp[names,size];lia
 | .less a b=>by have:=names_len a;have:=names_len b;simp[names,size];lia
 | .cho a b c=>by have:=names_len a;have:=names_len b;have:=names_len c;simp[names,size];lia
 | .lt _ a b=>by have:=names_len a;have:=names_len b;simp[names,size];lia
 | .st0 _=>by simp[names]
 | .st1 _ a=>by have:=names_len a;simp[names,size];lia
 | .st2 _ a b=>by have:=names_len a;have:=names_len b;simp[names,size];lia
def fh(ts:List T):Nat:=(ts.map λt=>t.names.length).sum
def qV:Bool→Str
 | false=>"sab"
 | true=>"sabq"
def vY:Bool→Str
 | false=>"tab"
 | true=>"tabq"
theorem zT:∀e,qV e≠vY e
 | false=>by decide
 | true=>by decide
structure Bo where
 (e:Bool) (x y z:T)
def qq(a b:Str):Prop:=a.cps.toList<b.cps.toList
theorem qq.irrefl(a:Str):¬qq a a:=List.lt_irrefl _
theorem qq.trans(h:qq a b)(k:qq b c):qq a c:=List.lt_trans h k
theorem qq.total(h:¬qq a b)(k:¬qq b a):a=b:=by have e:a.cps.toList=b.cps.toList:=List.le_antisymm (List.not_lt.mp k) (List.not_lt.mp h);cases a;cases b;congr;exact Array.toList_inj.mp e
theorem rF:∀(l:List Str)(p:Str),risingS p l=true→(∀x∈l,¬qq x p)∧l.Pairwise (λa b=>¬qq b a)
 | [],_,_=>⟨λ_ h=>(nomatch h),List.Pairwise.nil⟩
 | x::r,p,h=>by
  have h:(!ltCps x.cps.toList p.cps.toList&&risingS x r)=true:=h;rw[bb,ltCps_eq]at h;obtain⟨i1,i2⟩:=rF r x h.2;have h1:¬qq x p:=by simpa[qq]using h.1
  refine⟨λy hy=>?_,cE.mpr ⟨λy hy=>i1 y hy,i2⟩⟩;rcases aB.mp hy with rfl|hy
  ·exact h1
  ·intro z;have h3:=i1 y hy;by_cases q:qq x y
   ·exact h1 (q.trans z)
   ·exact h1 (qq.total q h3▸z)
theorem zB(h:sortedS l=true):l.Pairwise (λa b=>¬qq b a):=by
 cases l with
 | nil=>exact .nil
 | cons x r=>obtain⟨i1,i2⟩:=rF r x h;exact cE.mpr ⟨i1,i2⟩
abbrev Up(l:List Str):Prop:=l.Pairwise qq
theorem FL:∀{l:List Str},l.Pairwise (λa b=>¬qq b a)→l.Nodup→Up l
 | [],_,_=>.nil
 | x::r,h,n=>by
  obtain⟨h1,h2⟩:=cE.mp h;obtain⟨n1,n2⟩:=bR.mp n;refine cE.mpr ⟨λy hy=>?_,FL h2 n2⟩;by_cases q:qq x y
  ·exact q
  ·exact absurd (qq.total q (h1 y hy)) (λe=>n1 (e▸hy))
end SW
namespace SW
open PySem L2
def fR(H H':Hp):Prop:=∀b xs,H b=some (.tup xs)→H' b=some (.tup xs)
theorem fR.refl:fR H H:=λ_ _ h=>h
theorem fR.trans(a:fR H H1)(b:fR H1 H2):fR H H2:=λc xs h=>b c xs (a c xs h)
theorem dh(s:dz H H'):fR H H':=λb _ h=>s b _ h
theorem iO(h:H p=none):fR H (upd H p o):=λb xs e=>by rw[dj (de e h)];exact e
theorem fP(h:H l=some (.lst ys)):fR H (upd H l o):=λb xs e=>by rw[dj (fF e h (by intro z;cases z))];exact e
theorem AV(h:H l=some (.dK ys)):fR H (upd H l o):=λb xs e=>by rw[dj (fF e h (by intro z;cases z))];exact e
theorem dX(h:H p=none):dz H (upd H p o):=λb u e=>by rw[dj (de e h)];exact e
theorem et{H:Hp}{o:HO}{Q:VK}(k:∀(p:Addr)(H1:Hp),H p=none→dz H H1→H1 p=some o→Q (.ref p) H1):k6 H o Q:=λp hp=>k p _ hp (dX hp) dR
theorem eI(s:dz H₀ H)(h:H₀ l=none):dz H₀ (upd H l o):=λb u e=>by rw[dj (de e h)];exact s b u e
def kind:T→Str
 | .num _=>"number"
 | .name _=>"name"
 | .sum _ _=>"sum"
 | .less _ _=>"less"
 | .cho _ _ _=>"choose"
 | .lt _ _ _=>"let"
 | .st0 _=>"stamp"
 | .st1 _ _=>"stamp"
 | .st2 _ _ _=>"stamp"
def gN(H:Hp):T→V→Prop
 | .num n,v=>∃p,v=.ref p∧H p=some (.tup [.str "number",.int n])
 | .name w,v=>∃p,v=.ref p∧H p=some (.tup [.str "name",.str w])
 | .sum a b,v=>∃p x y,v=.ref p∧H p=some (.tup [.str "sum",x,y])∧gN H a x∧gN H b y
 | .less a b,v=>∃p x y,v=.ref p∧H p=some (.tup [.str "less",x,y])∧gN H a x∧gN H b y
 | .cho a b c,v=>∃p x y z,v=.ref p∧H p=some (.tup [.str "choose",x,y,z])∧gN H a x∧gN H b y∧gN H c z
 | .lt w a b,v=>∃p x y,v=.ref p∧H p=some (.tup [.str "let",.str w,x,y])∧gN H a x∧gN H b y
 | .st0 w,v=>∃p,v=.ref p∧H p=some (.tup [.str "stamp",.str w])
 | .st1 w a,v=>∃p x,v=.ref p∧H p=some (.tup [.str "stamp",.str w,x])∧gN H a x
 | .st2 w a b,v=>∃p x y,v=.ref p∧H p=some (.tup [.str "stamp",.str w,x,y])∧gN H a x∧gN H b y
theorem gN.mono(k:fR H H'):∀{t:T}{v:V},gN H t v→gN H' t v
 | .num _,_,⟨p,e,h⟩=>⟨p,e,k _ _ h⟩
 | .name _,_,⟨p,e,h⟩=>⟨p,e,k _ _ h⟩
 | .sum _ _,_,⟨p,x,y,e,h,a,b⟩=>⟨p,x,y,e,k _ _ h,gN.mono k a,gN.mono k b⟩
 | .less _ _,_,⟨p,x,y,e,h,a,b⟩=>⟨p,x,y,e,k _ _ h,gN.mono k a,gN.mono k b⟩
 | .cho _ _ _,_,⟨p,x,y,z,e,h,a,b,c⟩=>⟨p,x,y,z,e,k _ _ h,gN.mono k a,gN.mono k b,gN.mono k c⟩
 | .lt _ _ _,_,⟨p,x,y,e,h,a,b⟩=>⟨p,x,y,e,k _ _ h,gN.mono k a,gN.mono k b⟩
 | .st0 _,_,⟨p,e,h⟩=>⟨p,e,k _ _ h⟩
 | .st1 _ _,_,⟨p,x,e,h,a⟩=>⟨p,x,e,k _ _ h,gN.mono k a⟩
 | .st2 _ _ _,_,⟨p,x,y,e,h,a,b⟩=>⟨p,x,y,e,k _ _ h,gN.mono k a,gN.mono k b⟩
inductive gJ(H:Hp):List T→List V→Prop where
 | nil:gJ H [] []
 | cons{t:T}{v:V}{ts:List T}{vs:List V}:gN H t v→gJ H ts vs→gJ H (t::ts) (v::vs)
theorem gJ.mono(k:fR H H'):∀{ts:List T}{vs:List V},gJ H ts vs→gJ H' ts vs
 | _,_,.nil=>.nil
 | _,_,.cons a r=>.cons (a.mono k) (gJ.mono k r)
theorem gJ.length:∀{ts:List T}{vs:List V},gJ H ts vs→vs.length=ts.length
 | _,_,.nil=>rfl
 | _,_,.cons _ r=>by rw[aE,aE,gJ.length r]
theorem gJ.append:∀{ts us:List T}{vs ws:List V},gJ H ts vs→gJ H us ws→gJ H (ts++us) (vs++ws)
 | _,_,_,_,.nil,q=>q
 | _,_,_,_,.cons a r,q=>.cons a (gJ.append r q)
theorem gJ.snoc:∀{ts:List T}{vs:List V}{v:V},gJ H ts (vs++[v])→∃us t,ts=us++[t]∧gJ H us vs∧gN H t v
 | _,[],v,.cons a .nil=>⟨[],_,rfl,.nil,a⟩
 | _,x::vs,v,.cons a r=>by obtain⟨us,t,rfl,h1,h2⟩:=gJ.snoc (vs:=vs) r;exact⟨_::us,t,rfl,.cons a h1,h2⟩
def hd:T→List V
 | .num n=>[.str "number",.int n]
 | .name w=>[.str "name",.str w]
 | .sum _ _=>[.str "sum"]
 | .less _ _=>[.str "less"]
 | .cho _ _ _=>[.str "choose"]
 | .lt w _ _=>[.str "let",.str w]
 | .st0 w=>[.str "stamp",.str w]
 | .st1 w _=>[.str "stamp",.str w]
 | .st2 w _ _=>[.str "stamp",.str w]
theorem gN.open(h:gN H t v):∃p us,v=.ref p∧H p=some (.tup (hd t++us))∧gJ H t.kids us:=by
 cases t with
 | num n=>obtain⟨p,e,h⟩:=h;exact⟨p,[],e,h,.nil⟩
 | name n=>obtain⟨p,e,h⟩:=h;exact⟨p,[],e,h,.nil⟩
 | sum a b=>obtain⟨p,x,y,e,h,d1,d2⟩:=h;exact⟨p,[x,y],e,h,.cons d1 (.cons d2 .nil)⟩
 | less a b=>obtain⟨p,x,y,e,h,d1,d2⟩:=h;exact⟨p,[x,y],e,h,.cons d1 (.cons d2 .nil)⟩
 | cho a b c=>obtain⟨p,x,y,z,e,h,d1,d2,d3⟩:=h;exact⟨p,[x,y,z],e,h,.cons d1 (.cons d2 (.cons d3 .nil))⟩
 | lt w a b=>obtain⟨p,x,y,e,h,d1,d2⟩:=h;exact⟨p,[x,y],e,h,.cons d1 (.cons d2 .nil)⟩
 | st0 w=>obtain⟨p,e,h⟩:=h;exact⟨p,[],e,h,.nil⟩
 | st1 w a=>obtain⟨p,x,e,h,d1⟩:=h;exact⟨p,[x],e,h,.cons d1 .nil⟩
 | st2 w a b=>obtain⟨p,x,y,e,h,d1,d2⟩:=h;exact⟨p,[x,y],e,h,.cons d1 (.cons d2 .nil)⟩
def Lt(I:Nat→St→Hp→Prop)(m:Nat):St→Hp→Prop:=λσ H=>∃m',m'<m∧I m' σ H
theorem fM(h:Nat.ble n 1000=true:=by rfl):n≤sizeLine:=aY (bT h) (by decide)
theorem fc{c:Bool}{A B:Prop}(h:c=true)(k:A):if c=true then A else B:=by rw[if_pos h];exact k
theorem eN{c:Bool}{A B:Prop}(h:c=false)(k:B):if c=true then A else B:=by rw[h];exact fQ k
theorem nU(h0:0≤i)(h1:i<xs.length):∃v,v∈xs∧ph xs i=some v:=by
 obtain⟨n,rfl⟩:=dC h0;have hn:n<xs.length:=by lia
 exact⟨xs[n],List.getElem_mem hn,dW (by simp[hn])⟩
def rD:Sp:=λvs H Q _=>∃c:Int,vs=[.int c]∧∀(n:Int)(H':Hp),-(10^59)<n∧n<10^59→dz H H'→Q (.int n) H'
structure Wd(x:Str):Prop where
 one:1≤x.length
 few:x.length≤200
 abc:∀c∈x.cps.toList,97≤c∧c≤122
def sR:Sp:=λvs H Q _=>∃c:Int,vs=[.int c]∧∀x:Str,Wd x∧x.length≤132→Q (.str x) H
structure me(l:Int)(x:Str):Prop where
 one:l<0→1≤x.length
 few:x.length≤132
 sm:0≤l→∃m:Nat,l<2^m∧x.length+m≤131
 abc:∀c∈x.cps.toList,97≤c∧c≤122
theorem rN:(("":Str)).length=0:=by decide
theorem sF(c:Int):me (c%10^(39:Int).toNat) "":=by
 have e:(10:Int)^(39:Int).toNat=1000000000000000000000000000000000000000:=by decide
 rw[e];refine⟨λh=>?_,by rw[rN];lia,λ_=>⟨130,?_,by rw[rN];lia⟩,?_⟩
 ·lia
 ·have e2:(2:Int)^130=1361129467683753853853498429727072845824:=by decide
  rw[e2];lia
 ·have e3:(("":Str)).cps.toList=[]:=by decide
  rw[e3];intro c hc;cases hc
theorem sH(h:me l x):(⟨#[c]⟩:Str).length+x.length≤sizeLine:=by have e:(⟨#[c]⟩:Str).length=1:=rfl;have:=h.few;rw[e,sizeLine_eq];lia
theorem uO(h:me l x)(hl:0≤l)(hc:97≤c∧c≤122):me (l / 26-1) (⟨#[c]⟩++x):=by
 have el:((⟨#[c]⟩:Str)++x).length=x.length+1:=by show(#[c]++x.cps).size=x.cps.size+1;simp[cb]
 obtain⟨m,h1,h2⟩:=h.sm hl;refine⟨λ_=>by rw[el];lia,by rw[el];lia,λh0=>?_,?_⟩
 ·cases m with
  | zero=>simp at h1;lia
  | succ m=>refine⟨m,?_,by rw[el];lia⟩;have e:(2:Int)^(m+1)=2^m*2:=Int.pow_succ ..;rw[e]at h1;generalize (2:Int)^m=z at *;lia
 ·intro d hd;have hd:d∈(#[c]++x.cps).toList:=hd;rw[br]at hd;rcases aW.mp hd with q|q
  ·have:d=c:=by simpa using q
   rw[this];exact hc
  ·exact h.abc d q
theorem vc(h:me l x)(hl:¬0≤l):Wd x∧x.length≤132:=⟨⟨h.one (by lia),by have:=h.few;lia,h.abc⟩,h.few⟩
theorem yK:(("abcdefghijklmnopqrstuvwxyz":Str)).cps.toList=(List.range 26).map (·+97):=by decide
theorem zc(l:Int):∃c:Nat,(97≤c∧c≤122)∧ph (("abcdefghijklmnopqrstuvwxyz":Str)).cps.toList (l%26)=some c:=by
 have h:0≤l%26∧l%26<26:=by lia
 obtain⟨n,e⟩:=dC h.1;rw[e]at h⊢;have hn:n<26:=by lia
 refine⟨n+97,by lia,dW ?_⟩;rw[yK,ae,dD hn];rfl
theorem jU(k:Nat)(h:0<k)(h2:k≤n):¬(HT.kZ n 0 (some (k:Int))=0∧HT.kZ n n none=n):=by rintro⟨z,_⟩;rw[HT.LY,bu h2]at z;lia
def jJ:Sp:=λvs H Q _=>∃d x v kvs,vs=[.ref d,.str x,v]∧H d=some (.dK kvs)∧kvs.length≤1000∧∀p H',H p=none→dz H H'→H' p=some (.dK (gH kvs (.inr x) v))→Q (.ref p) H'
def sU:Sp:=λvs H Q _=>∃t v,vs=[v]∧gN H t v∧∀p us H',dz H H'→H' p=some (.tup us)→gJ H' t.kids us→Q (.ref p) H'
def gX:Sp:=λvs H Q _=>∃t v,vs=[v]∧gN H t v∧∀l us H',dz H H'→H l=none→H' l=some (.lst us)→gJ H' t.kids us→Q (.ref l) H'
def qp(P:Str→Prop)(S:Str→Nat→Prop):T→Prop
 | .num n=>-(10^60)<n∧n<10^60
 | .name w=>P w
 | .sum a b=>qp P S a∧qp P S b
 | .less a b=>qp P S a∧qp P S b
 | .cho a b c=>qp P S a∧qp P S b∧qp P S c
 | .lt w a b=>P w∧qp P S a∧qp P S b
 | .st0 w=>S w 0
 | .st1 w a=>S w 1∧qp P S a
 | .st2 w a b=>S w 2∧qp P S a∧qp P S b
abbrev WT(S:Str→Nat→Prop):T→Prop:=qp Wd S
structure Wg(w:Str):Prop where
 wd:Wd w
 gd:w.cps.toList.getLast?≠some 122∧w.cps.toList.getLast?≠some 113
 sh:w.length≤150
abbrev WG(S:Str→Nat→Prop):T→Prop:=qp Wg S
theorem hX{P P':Str→Prop}{S:Str→Nat→Prop}(h:∀w,P w→P' w):∀{t:T},qp P S t→qp P' S t
 | .num _,z=>z
 | .name _,z=>h _ z
 | .sum _ _,z=>⟨hX h z.1,hX h z.2⟩
 | .less _ _,z=>⟨hX h z.1,hX h z.2⟩
 | .cho _ _ _,z=>⟨hX h z.1,hX h z.2.1,hX h z.2.2⟩
 | .lt _ _ _,z=>⟨h _ z.1,hX h z.2.1,hX h z.2.2⟩
 | .st0 _,z=>z
 | .st1 _ _,z=>⟨z.1,hX h z.2⟩
 | .st2 _ _ _,z=>⟨z.1,hX h z.2.1,hX h z.2.2⟩
theorem uP{S:Str→Nat→Prop}{t:T}(h:WG S t):WT S t:=hX (λ_ z=>z.wd) h
structure lE(S:Str→Nat→Prop)(H₀ H:Hp)(n:Nat)(l:Addr)(vs:List V)(ts:List T):Prop where
 same:dz H₀ H
 new:H₀ l=none
 at_:H l=some (.lst vs)
 den:gJ H ts vs
 sz:fE ts≤n
 one:ts≠[]
 wt:∀t∈ts,WG S t
theorem GI:Wd "sab":=⟨by decide,by decide,by decide⟩
theorem GF:Wd "tab":=⟨by decide,by decide,by decide⟩
theorem GG:Wd "sob":=⟨by decide,by decide,by decide⟩
theorem GH:Wd "sat":=⟨by decide,by decide,by decide⟩
theorem AN:Wg "sab":=⟨GI,⟨by decide,by decide⟩,by decide⟩
theorem DL(h:v∈[V.str "sab",V.str "tab",V.str "sob",V.str "sat"]):∃x,v=.str x∧Wg x:=by
 rcases aB.mp h with rfl|h
 ·exact⟨_,rfl,AN⟩
 rcases aB.mp h with rfl|h
 ·exact⟨_,rfl,GF,⟨by decide,by decide⟩,by decide⟩
 rcases aB.mp h with rfl|h
 ·exact⟨_,rfl,GG,⟨by decide,by decide⟩,by decide⟩
 rcases aB.mp h with rfl|h
 ·exact⟨_,rfl,GH,⟨by decide,by decide⟩,by decide⟩
 ·cases h
theorem Lv(h:Wd x)(hl:x.length≤132):Wd (x++("k":Str)):=by
 have e:(("k":Str)).cps = #[107]:=by decide
 have el:(x++("k":Str)).length=x.length+1:=by show(x.cps++(("k":Str)).cps).size=_;rw[e];simp[Str.length]
 refine⟨by rw[el];lia,by rw[el];lia,λc hc=>?_⟩;have hc:c∈(x.cps++(("k":Str)).cps).toList:=hc;rw[e,br]at hc;rcases aW.mp hc with q|q
 ·exact h.abc c q
 ·have:c=107:=by simpa using q
  lia
theorem Lu(h:Wd x)(hl:x.length≤132):Wg (x++("k":Str)):=by
 have e:(("k":Str)).cps = #[107]:=by decide
 have el:(x++("k":Str)).cps.toList=x.cps.toList++[107]:=by show(x.cps++(("k":Str)).cps).toList=_;rw[e,br]
 have en:(x++("k":Str)).length=x.length+1:=by show(x.cps++(("k":Str)).cps).size=_;rw[e];simp[Str.length]
 refine⟨Lv h hl,⟨?_,?_⟩,by lia⟩<;>rw[el,dE]<;>simp
def jY(S:Str→Nat→Prop)(H:Hp)(xs:List V):Prop:=∀x∈xs,∃(q:Addr)(nm:Str)(m:Nat),x=.ref q∧H q=some (.tup [.str nm,.int m])∧m≤2∧S nm m
def pL(K:aA)(S:Str→Nat→Prop):Sp:=λvs H Q _=>∃(c st:Addr)(ns:List Int)(xs:List V),vs=[.ref c,.ref st]∧eJ K H c (ns.map V.int)∧ns.length≤100∧H st=some (.lst xs)∧xs.length≤1000∧jY S H xs∧
 ∀(t:T)(v:V)(H':Hp),dz H H'→gN H' t v→WG S t→t.size≤2*ns.length+2→t.names.length≤ns.length+1→Q v H'
def qL(K:aA)(S S':Str→Nat→Prop):Sp:=λvs H Q _=>∃(c st:Addr)(ns:List Int)(xs:List V),vs=[.ref c,.ref st]∧eJ K H c (ns.map V.int)∧ns.length≤100∧H st=some (.lst xs)∧xs.length≤1000∧jY S H xs∧(∀t:T,t.size≤ns.length+1→WG S t→WG S' t)∧
 ∀(t:T)(v:V)(H':Hp),dz H H'→gN H' t v→WG S' t→t.size≤2*ns.length+2→t.names.length≤ns.length+1→Q v H'
theorem pL.two(h:pL K S vs H Q E):qL K S S vs H Q E:=by obtain⟨c,st,ns,xs,h1,h2,h3,h4,h5,h6,k⟩:=h;exact⟨c,st,ns,xs,h1,h2,h3,h4,h5,h6,λ_ _ z=>z,k⟩
theorem rM:∀{ts:List T},t∈ts→t.size≤fE ts
 | x::ts,h=>by
  rw[gA];rcases aB.mp h with rfl|h
  ·lia
  ·have:=rM h;lia
end SW
namespace L2
open PySem PySem.Spec PyProof.Rows
def gZ(X:Cx)(scope:Scope)(cl:List (Str×Addr))(N:List Str)(fp:List Addr)(s:Shared)(H:Hp)(C:Addr):Cx where
 prog:=X.prog
 w:=X.w
 K:=X.K
 mg:=X.mg
 base:=X.base
 A:=X.A
 N:=N
 s₀:=s
 H₀:=H
 env:=compEnvC scope cl C X.env
 outer:=X.stack
 stack:=X.stack
 ex:=fp
 fn:=λ_=>false
 calm:=X.calm
 pn:=[]
 xe:=λ_ _=>False
def CY(σ:St)(js:List Nat):St:=js.map λj=>σ.getD j none
def nI(its:List Value)(n:Nat):Obj:={cls:=.type "list",data:=.seq its.toArray n}
section
variable {X:Cx}{pins:List (Addr×Obj)}{σ:St}{H:Hp}{s:Shared}{scope:Scope}{cl:List (Str×Addr)}{x:Str}{ys:List Str}{js:List Nat}{fp:List Addr}{C D:Addr}{h':Heap}
theorem eZ.nostk(I:eZ X pins σ H s)(h1:b≠X.env.locals)(h2:b∉X.fs):b∉zn X.stack:=λz=>by
 rcases aB.mp (I.stkSub b z)with e|e
 ·exact h1 e
 ·exact h2 e
theorem eZ.compOut(I:eZ X pins σ H s)(hf:∀b∈fp,pH X pins H b)(hC:s.heap.objs.size≤C)(hD:s.heap.objs.size≤D)(hDC:D≠C)
  (I':eZ (gZ X scope cl (x::ys) fp s H C) P σ' H' s') (hp:(D,nI its n)∈P) (r:fL vs its) (hz:vs.length≤sizeLine) (hs:Heap.SameBut C s'.heap h'):eZ X pins σ (upd H' D (.lst vs)) {s' with heap:=h'}:=by
 obtain⟨pe,pn,_,_,_⟩:=I'.pin (D,nI its n) (aS _ hp);have u:Un (zn X.stack) fp H H' s.heap s'.heap:=I'.base;have hCn:H' C=none:=I'.free;have lt:∀b o,s.heap.get? b=some o→b≠C∧b≠D:=λb o e=>⟨aM (aa (Heap.lt_size e) hC),aM (aa (Heap.lt_size e) hD)⟩;have nD:∀b o,H' b=some o→b≠D:=λb o e=>de e pn;refine I.call' (ch:=fp) (s':={s' with heap:=h'}) I'.os ⟨λb o q nn hb hx=>?_,λb o q nn hb hx=>?_,λb o q nn hx=>?_,λb o q hx=>?_,λb xs q=>?_,λb o xs q=>?_,λb ps q=>?_⟩ ?_ I'.bare λb hb=>?_
 ·exact(hs.2 b (lt b o q).1).trans (u.keep b o q nn hb hx)
 ·obtain⟨sl,e⟩:=u.slot b o q nn hb hx;exact⟨sl,(hs.2 b (lt b o q).1).trans e⟩
 ·rw[dj (lt b o q).2];exact u.free b o q nn hx
 ·obtain⟨o',e⟩:=u.there b o q hx;exact⟨o',(hs.2 b (lt b o q).1).trans e⟩
 ·have e:=u.tups b xs q;rw[dj (nD _ _ e)];exact e
 ·have e:=u.frzs b o xs q;rw[dj (nD _ _ e)];exact e
 ·obtain⟨more,e⟩:=u.tbls b ps q;exact⟨more,by rw[dj (nD _ _ e)];exact e⟩
 ·intro b ob e;by_cases hb:b=D
  ·subst hb;rw[dR]at e;cases e;exact⟨hz,its,n,r,(hs.2 b hDC).trans pe⟩
  ·rw[dj hb]at e;refine(I'.hok b ob e).stay (λc v hc q=>(hs.2 c ?_).trans q) (λc q=>by rw[dj (nD _ _ q)];exact q) λc xs q=>by rw[dj (nD _ _ q)];exact q
   rcases hc with rfl|hc
   ·exact de e hCn
   ·exact de hc hCn
 ·obtain⟨_,h1,_,h3,h4,h5⟩:=hf b hb;exact⟨h3,h1,h4,h5⟩
end
def J0(wi:TI)(te:TE)(js:List Nat):TE:=λσ H Q=>wi σ H λJ H1=>∃W:Nat→Nat→List V→Hp→Prop,(∃m,W 0 m [] H1)∧∀i m vs H,W i m vs H→
 (J.stop i H∧vs.length≤sizeLine∧k6 H (.lst vs) Q)∨
 (J.go i H∧∀x H',J.yld i H x H'→te (some x::CY σ js) H' λy H''=>vs.length<sizeLine∧∃m',m'<m∧W (i+1) m' (vs++[y]) H'')
end L2
namespace SW
open PySem L2
abbrev m9:R2:=yC λi j=>.int (i+j)
abbrev iZ:R2:=yC λi j=>.int (i-j)
abbrev J7:R2:=rI FH λi j=>.int (i*j)
abbrev rH:R2:=rI JZ λi j=>.int (i / j)
abbrev jr:R2:=rI (λ_ j=>0<j) λi j=>.int (i%j)
abbrev FZ:R2:=rI LU λi j=>.int (i^j.toNat)
abbrev gU:V→Hp→VK→Prop:=rU λi=>.int (-i)
abbrev zP:R2:=yC λi j=>.bl (decide (i<j))
abbrev EN:R2:=yC λi j=>.bl (decide (i≤j))
abbrev pA:R2:=yC λi j=>.bl (decide (j<i))
abbrev Mp:R2:=yC λi j=>.bl (decide (j≤i))
abbrev Fa:R2:=λx y H Q=>y=.non∧Q (.bl (!decide (x=.non))) H
abbrev yZ:List V→Hp→VK→Prop:=λxs H Q=>∃z,xs=[.str z]∧z.length≤sizeLine∧Q (.int z.length) H
abbrev LA:List V→Hp→VK→Prop:=λxs H Q=>(∃i,xs=[.int i]∧Q (.int i) H)∨∃k,xs=[.bl k]∧Q (.int (if k then 1 else 0)) H
abbrev LB:List V→Hp→VK→Prop:=λxs H Q=>∃i,xs=[.int i]∧Q (.int (if i<0 then -i else i)) H
abbrev NH:List V→Hp→VK→Prop:=λxs H Q=>∃i j,xs=[.int i,.int j]∧Q (.int (if j<i then j else i)) H
abbrev nP(K:aA):List V→Hp→VK→Prop:=λxs H Q=>∃p ys,xs=[.ref p]∧((eJ K H p ys∧k6 H (.tup ys) Q)∨(eD K H p ys∧Q (.ref p) H))
abbrev uA:List V→Hp→VK→Prop:=λxs H Q=>∃a kvs,xs=[.ref a]∧Rd H a (.dK kvs)∧k6 H (.dK kvs) Q
abbrev Cm:List V→Hp→VK→Prop:=λxs H Q=>∃a kvs ws,xs=[.ref a]∧Rd H a (.dK kvs)∧mP kvs=ws.map V.str∧ws.length<64∧∀p ws',H p=none→ws'.Perm ws→PyProof.Rows.sortedS ws'=true→Q (.ref p) (upd H p (.lst (ws'.map V.str)))
def vT:Str→Nat→Prop:=λx n=>(x="st"∧n=2)∨(x="sta"∧n=1)∨(x="star"∧n=0)
def qJ(K:aA):Sp:=λvs H Q _=>∃(c:Addr)(ns:List Int),vs=[.ref c]∧eJ K H c (ns.map V.int)∧ns.length≤100∧
 ∀(t:T)(v:V)(H':Hp),dz H H'→gN H' t v→WG vT t→t.size≤2*ns.length+2→t.names.length≤ns.length+1→Q v H'
def qH(K:aA):Sp:=λvs H Q _=>∃(s:Addr)(xs:List V)(m b:Int),vs=[.ref s,.int m,.int b]∧eJ K H s xs∧xs.length≤63∧Q (.int m) H
def qI:Sp:=λvs H Q _=>∃(t:T)(v:V),vs=[v]∧gN H t v∧t.size≤900∧t.names.length<64∧
 ∀(l:Addr)(ws:List Str)(H':Hp),dz H H'→H l=none→H' l=some (.lst (ws.map V.str))→Up ws→(∀x,x∈ws↔t.out x)→Q (.ref l) H'
def qo(D:Addr→Prop)(H:Hp)(q:T×List (fO×V))(u:V):Prop:=∃p v d,u=.ref p∧H p=some (.tup [v,.ref d])∧gN H q.1 v∧H d=some (.dK q.2)∧D d
inductive iE(D:Addr→Prop)(H:Hp):List (T×List (fO×V))→List V→Prop where
 | nil:iE D H [] []
 | cons{q:T×List (fO×V)}{u:V}{qs:List (T×List (fO×V))}{us:List V}:qo D H q u→iE D H qs us→iE D H (q::qs) (u::us)
theorem qo.mono(k1:fR H H')(k2:∀d kvs,D d→H d=some (.dK kvs)→H' d=some (.dK kvs)∧D' d)(h:qo D H q u):qo D' H' q u:=by obtain⟨p,v,d,e,h1,h2,h3,h4⟩:=h;exact⟨p,v,d,e,k1 _ _ h1,h2.mono k1,(k2 _ _ h4 h3).1,(k2 _ _ h4 h3).2⟩
theorem iE.mono(k1:fR H H')(k2:∀d kvs,D d→H d=some (.dK kvs)→H' d=some (.dK kvs)∧D' d):∀{qs:List (T×List (fO×V))}{us:List V},iE D H qs us→iE D' H' qs us
 | _,_,.nil=>.nil
 | _,_,.cons a r=>.cons (a.mono k1 k2) (iE.mono k1 k2 r)
theorem iE.append:∀{qs rs:List (T×List (fO×V))}{us ws:List V},iE D H qs us→iE D H rs ws→iE D H (qs++rs) (us++ws)
 | _,_,_,_,.nil,q=>q
 | _,_,_,_,.cons a r,q=>.cons a (iE.append r q)
theorem iE.snoc:∀{qs:List (T×List (fO×V))}{us:List V}{u:V},iE D H qs (us++[u])→∃rs q,qs=rs++[q]∧iE D H rs us∧qo D H q u
 | _,[],_,.cons a .nil=>⟨[],_,rfl,.nil,a⟩
 | _,_::us,_,.cons a r=>by obtain⟨rs,q,rfl,h1,h2⟩:=iE.snoc (us:=us) r;exact⟨_::rs,q,rfl,.cons a h1,h2⟩
theorem iE.length:∀{qs:List (T×List (fO×V))}{us:List V},iE D H qs us→us.length=qs.length
 | _,_,.nil=>rfl
 | _,_,.cons _ r=>by rw[aE,aE,iE.length r]
def ja(t:T)(kvs:List (fO×V)):List (T×List (fO×V)):=match t with
 | .lt x a b=>[(b,gH kvs (.inr x) (.bl true)),(a,kvs)]
 | t=>t.kids.map λk=>(k,kvs)
def ue:Sp:=λvs H Q _=>∃(t:T)(v:V)(d:Addr)(kvs:List (fO×V)),vs=[v,.ref d]∧gN H t v∧H d=some (.dK kvs)∧kvs.length≤1000∧
 ∀(l:Addr)(us:List V)(H':Hp),dz H H'→H l=none→H' l=some (.lst us)→iE (λe=>e=d∨H e=none) H' (ja t kvs) us→Q (.ref l) H'
def Jy(K:aA):TS:=(dq (eG (eC jr (eC rH (dQ 0) (tC (.int 2))) (eC FZ (tC (.int 10)) (tC (.int 59)))) (db 1)) (fY (eC J7 (dQ 1) (eC (gO K) (fX (dP (tC (.int 1)) (dP (mK gU (tC (.int 1))) dZ))) (eC jr (dQ 0) (tC (.int 2)))))))
def IE(K:aA):TS:=(dq (eG (eC rJ (eC EO (tC (.str "abcdefghijklmnopqrstuvwxyz")) (eC jr (dQ 1) (tC (.int 26)))) (dQ 2)) (db 2)) (eG (eC iZ (eC rH (dQ 1) (tC (.int 26))) (tC (.int 1))) (db 1)))
def MV(K:aA):TS:=(dq (eG (eC jr (iB LB (dP (dQ 0) dZ)) (eC FZ (tC (.int 10)) (tC (.int 39)))) (db 1)) (dq (eG (tC (.str "")) (db 2)) (dq (iF (eL (eC Mp (dQ 1) (tC (.int 0)))) (IE K)) (fY (dQ 2)))))
def Ah(K:aA):TS:=(fY (dQ 2))
def Ag(K:aA):TS:=(fj (eL (eC pA (iB (gT K) (dP (dQ 0) dZ)) (tC (.int 63)))) (Ah K) fU)
def Gk(K:aA):TS:=(dq (Ag K) (fY (dQ 1)))
def Lx(K:aA):TS:=(dq (eG (iB uA (dP (dQ 0) dZ)) (db 3)) (dq (lV (dQ 3) (dQ 1) (dQ 2)) (fY (dQ 3))))
def yr(K:aA):TS:=(fY (fS dZ))
def yq(K:aA):TS:=(fj (xi (eL (eC kN (dQ 1) (tC (.str "number")))) (eL (eC kN (dQ 1) (tC (.str "name"))))) (yr K) fU)
def yp(K:aA):TS:=(fY (mT (Bi K) (dQ 0) (gD (tC (.int 2))) fu))
def yo(K:aA):TS:=(fj (xi (eL (eC kN (dQ 1) (tC (.str "let")))) (eL (eC kN (dQ 1) (tC (.str "stamp"))))) (yp K) fU)
def DR(K:aA):TS:=(dq (eG (eC (eF K) (dQ 0) (tC (.int 0))) (db 1)) (dq (yq K) (dq (yo K) (fY (mT (Bi K) (dQ 0) (gD (tC (.int 1))) fu)))))
def Dg(K:aA):TS:=(fY (fX dZ))
def Df(K:aA):TS:=(fj (eL (eC (Fc K false) (eC (eF K) (dQ 0) (tC (.int 0))) (fX (dP (tC (.str "number")) (dP (tC (.str "name")) dZ))))) (Dg K) fU)
def Js(K:aA):TS:=(dq (Df K) (fY (iB (tz K) (dP (mT (Bi K) (dQ 0) (gD (eC m9 (tC (.int 1)) (iB LA (dP (eC (Fc K false) (eC (eF K) (dQ 0) (tC (.int 0))) (fX (dP (tC (.str "let")) (dP (tC (.str "stamp")) dZ)))) dZ)))) fu) dZ))))
def DQ(K:aA):TS:=(fY (fX (dP (fS (dP (eC (eF K) (dQ 0) (tC (.int 3))) (dP (eY jJ [] E0 (dP (dQ 1) (dP (eC (eF K) (dQ 0) (tC (.int 1))) (dP (tC (.bl true)) dZ)))) dZ))) (dP (fS (dP (eC (eF K) (dQ 0) (tC (.int 2))) (dP (dQ 1) dZ))) dZ))))
def DP(K:aA):TS:=(fj (eL (eC kN (eC (eF K) (dQ 0) (tC (.int 0))) (tC (.str "let")))) (DQ K) fU)
def Jp(K:aA):TS:=(dq (DP K) (fY (J0 (JF K (eY sU [] E0 (dP (dQ 0) dZ))) (fS (dP (dQ 0) (dP (dQ 1) dZ))) [1])))
def DU(K:aA):TS:=(lV (dQ 1) (eC (eF K) (dQ 4) (tC (.int 1))) (tC (.bl true)))
def DT(K:aA):TS:=(fj (kU (eL (eC kN (eC (eF K) (dQ 4) (tC (.int 0))) (tC (.str "name")))) (tB (pI (eC (eF K) (dQ 4) (tC (.int 1))) (dQ 5)))) (DU K) fU)
def DS(K:aA):TS:=(dq (eG (mV K "list" mY (dQ 2)) (db 3)) (dq (eG (eC (eF K) (dQ 3) (tC (.int 0))) (db 4)) (dq (eG (eC (eF K) (dQ 3) (tC (.int 1))) (db 5)) (dq (DT K) (fG (jm K "list" m8 (dQ 2) (dP (eY ue [] E0 (dP (dQ 4) (dP (dQ 5) dZ))) dZ)))))))
def Jq(K:aA):TS:=(dq (eG i8 (db 1)) (dq (eG (fX (dP (fS (dP (dQ 0) (dP i8 dZ))) dZ)) (db 2)) (dq (iF (eL (eC pA (iB (gT K) (dP (dQ 2) dZ)) (tC (.int 0)))) (DS K)) (fY (iB Cm (dP (dQ 1) dZ))))))
def Ho(K:aA):TS:=(eG (eC rJ (eY sR [] E0 (dP (eC rH (dQ 4) (tC (.int 29))) dZ)) (tC (.str "k"))) (db 6))
def Hm(K:aA):TS:=(fj (eL (eC kN (eC jr (dQ 4) (tC (.int 29))) (tC (.int 7)))) (Ho K) fU)
def A7(K:aA):TS:=(fG (jm K "list" ef (dQ 2) (dP (fS (dP (tC (.str "number")) (dP (eC (gO K) (fX (dP (eC iZ (eC jr (dQ 4) (tC (.int 4))) (tC (.int 1))) (dP (eY rD [] E0 (dP (dQ 4) dZ)) dZ))) (iB LA (dP (eC kN (eC jr (dQ 4) (tC (.int 5))) (tC (.int 3))) dZ))) dZ))) dZ)))
def A6(K:aA):TS:=(fG (jm K "list" ef (dQ 2) (dP (fS (dP (tC (.str "name")) (dP (dQ 6) dZ))) dZ)))
def A5(K:aA):TS:=(eG (eC lL (mT (jM K) (dQ 2) fu (gD (mK gU (tC (.int 3))))) (fX (dP (fS (dP (tC (.str "choose")) (dP (eC (gO K) (dQ 7) (tC (.int 0))) (dP (eC (gO K) (dQ 7) (tC (.int 1))) (dP (eC (gO K) (dQ 7) (tC (.int 2))) dZ))))) dZ))) (db 2))
def A0(K:aA):TS:=(eG (eC lL (mT (jM K) (dQ 2) fu (gD (mK gU (tC (.int 2))))) (fX (dP (fS (dP (eC (gO K) (fX (dP (tC (.str "sum")) (dP (tC (.str "less")) dZ))) (eC jr (dQ 5) (tC (.int 2)))) (dP (eC (gO K) (dQ 7) (mK gU (tC (.int 2)))) (dP (eC (gO K) (dQ 7) (mK gU (tC (.int 1)))) dZ)))) dZ))) (db 2))
def Hl(K:aA):TS:=(eG (eC (eF K) (dQ 8) (tC (.int 2))) (db 8))
def Hk(K:aA):TS:=(fj (eL (eC (Fc K false) (eC (eF K) (dQ 8) (tC (.int 0))) (fX (dP (tC (.str "sum")) (dP (tC (.str "less")) dZ))))) (Hl K) fU)
def Hj(K:aA):TS:=(eG (eC (eF K) (dQ 8) (tC (.int 1))) (db 6))
def xf(K:aA):TS:=(fj (kU (eL (eC kN (eC (eF K) (dQ 8) (tC (.int 0))) (tC (.str "name")))) (eL (eC pA (eC jr (dQ 4) (tC (.int 3))) (tC (.int 0))))) (Hj K) fU)
def xc(K:aA):TS:=(dq (eG (eC (gO K) (dQ 7) (mK gU (tC (.int 1)))) (db 8)) (dq (Hk K) (dq (xf K) (eG (eC lL (mT (jM K) (dQ 2) fu (gD (mK gU (tC (.int 2))))) (fX (dP (fS (dP (tC (.str "let")) (dP (dQ 6) (dP (eC (gO K) (dQ 7) (mK gU (tC (.int 2)))) (dP (eC (gO K) (dQ 7) (mK gU (tC (.int 1)))) dZ))))) dZ))) (db 2)))))
def Dy(K:aA):TS:=(dq (eG (iB (nP K) (dP (eC lL (fX (dP (tC (.str "stamp")) (dP (dQ 9) dZ))) (mT (jM K) (dQ 2) (gD (eC iZ (iB (gT K) (dP (dQ 2) dZ)) (dQ 10))) fu)) dZ)) (db 11)) (eG (eC lL (mT (jM K) (dQ 2) fu (gD (eC iZ (iB (gT K) (dP (dQ 2) dZ)) (dQ 10)))) (fX (dP (dQ 11) dZ))) (db 2)))
def Dx(K:aA):TS:=(fj (eL (eC kN (dQ 10) (eC (eF K) (eC (gO K) (dQ 1) (eC jr (dQ 4) (iB (gT K) (dP (dQ 1) dZ)))) (tC (.int 1))))) (Dy K) fU)
def xZ(K:aA):TS:=(dq (eG (eC (gO K) (dQ 1) (eC jr (dQ 4) (iB (gT K) (dP (dQ 1) dZ)))) (lb K 2 (gI (db 9) (gI (db 10) lc)))) (dq (eG (iB NH (dP (dQ 10) (dP (iB (gT K) (dP (dQ 2) dZ)) dZ))) (db 10)) (Dx K)))
def Dw(K:aA):TS:=(fj (eL (eC (ku K) (dQ 1) (fX dZ))) (xZ K) fU)
def Dv(K:aA):TS:=(fj (eL (eC kN (dQ 5) (tC (.int 6)))) (xc K) (Dw K))
def xY(K:aA):TS:=(fj (eL (eC zP (dQ 5) (tC (.int 6)))) (A0 K) (Dv K))
def Du(K:aA):TS:=(fj (kU (eL (eC kN (dQ 5) (tC (.int 5)))) (eL (eC kN (iB (gT K) (dP (dQ 7) dZ)) (tC (.int 3))))) (A5 K) (xY K))
def xX(K:aA):TS:=(fj (eL (eC zP (dQ 5) (tC (.int 3)))) (A6 K) (Du K))
def sM(K:aA):TS:=(fj (xi (eL (eC kN (dQ 5) (tC (.int 0)))) (kU (eL (eC kN (iB (gT K) (dP (dQ 7) dZ)) (tC (.int 1)))) (eL (BB zP zP (tC (.int 2)) (dQ 5) (tC (.int 7)))))) (A7 K) (xX K))
def xW(K:aA):TS:=(dq (eG (eC rH (dQ 3) (tC (.int 9))) (db 4)) (dq (eG (eC jr (dQ 3) (tC (.int 9))) (db 5)) (dq (eG (eC (gO K) (fX (dP (tC (.str "sab")) (dP (tC (.str "tab")) (dP (tC (.str "sob")) (dP (tC (.str "sat")) dZ))))) (eC jr (dQ 4) (tC (.int 4)))) (db 6)) (dq (Hm K) (dq (eG (mT (jM K) (dQ 2) (gD (mK gU (tC (.int 3)))) fu) (db 7)) (sM K))))))
def Dt(K:aA):TS:=(dq (eG (mV K "list" mY (dQ 2)) (db 12)) (fG (jm K "list" ef (dQ 2) (dP (fS (dP (tC (.str "sum")) (dP (mV K "list" mY (dQ 2)) (dP (dQ 12) dZ)))) dZ))))
def MQ(K:aA):TS:=(dq (eG (fX (dP (fS (dP (tC (.str "name")) (dP (tC (.str "sab")) dZ))) dZ)) (db 2)) (dq (iP (i0 K (dQ 0)) (db 3) (xW K)) (dq (iF (eL (eC pA (iB (gT K) (dP (dQ 2) dZ)) (tC (.int 1)))) (Dt K)) (fY (eC (gO K) (dQ 2) (tC (.int 0)))))))
def HA(K:aA)(S:Str→Nat→Prop):TS:=(fY (eY (pL K S) [] E0 (dP (dQ 0) (dP (fX (dP (fS (dP (tC (.str "st")) (dP (tC (.int 2)) dZ))) (dP (fS (dP (tC (.str "sta")) (dP (tC (.int 1)) dZ))) (dP (fS (dP (tC (.str "st")) (dP (tC (.int 2)) dZ))) (dP (fS (dP (tC (.str "star")) (dP (tC (.int 0)) dZ))) dZ))))) dZ))))
end SW
namespace SW
open PySem L2
variable {K:aA}{vs:List V}{H:Hp}{Q:VK}{E:XK}
abbrev gr(Q:VK):iN:={nx:=λ_ H'=>Q .non H',rt:=Q}
theorem Mo(h:rD vs H Q E):Jy K (gr Q) (start ["_law_cell","_law_size"] vs) H:=by
 obtain⟨c,rfl,k⟩:=h;refine⟨⟨by decide,by decide⟩,⟨by decide,by decide,by decide⟩,(show(0:Int)<10^(59:Int).toNat by decide),?_⟩;refine⟨fM,λp hp=>?_⟩;have h2:0≤c%2∧c%2<2:=by lia
 obtain⟨v,hv,e⟩:=nU (xs:=[V.int 1,V.int (-1)]) h2.1 h2.2;refine⟨(show(0:Int)<2 by decide),eJ.of dR,e,?_⟩;have b0:=cF (c / 2) (show(10:Int)^(59:Int).toNat≠0 by decide);have b1:=Int.emod_lt_of_pos (c / 2) (show(0:Int)<10^(59:Int).toNat by decide);have e59:(10:Int)^(59:Int).toNat=10^59:=rfl;rw[e59]at b0 b1;rcases aB.mp hv with rfl|hv
 ·refine⟨.inr ⟨by decide,by decide⟩,k _ _ ?_ (dX hp)⟩;rw[e59];generalize c / 2%10^59=z at *;generalize (10:Int)^59=y at *;lia
 ·rw[aG]at hv;subst hv;refine⟨.inr ⟨by decide,by decide⟩,k _ _ ?_ (dX hp)⟩;rw[e59];generalize c / 2%10^59=z at *;generalize (10:Int)^59=y at *;lia
theorem OE(h:sR vs H Q E):MV K (gr Q) (start ["_law_cell","_law_left","_law_word"] vs) H:=by
 obtain⟨c,rfl,k⟩:=h;refine⟨_,rfl,⟨by decide,by decide,by decide⟩,(show(0:Int)<10^(39:Int).toNat by decide),?_⟩;refine⟨λm σ H'=>H'=H∧∃(l:Int)(x:Str),σ=[some (.int c),some (.int l),some (.str x)]∧me l x∧-1≤l∧(m:Int)=l+1,⟨((if c<0 then -c else c)%10^(39:Int).toNat+1).toNat,rfl,_,_,rfl,sF _,?_,?_⟩,?_⟩
 ·have:=cF (if c<0 then -c else c) (show(10:Int)^(39:Int).toNat≠0 by decide);lia
 ·have:=cF (if c<0 then -c else c) (show(10:Int)^(39:Int).toNat≠0 by decide);exact Int.toNat_of_nonneg (by lia)
 ·rintro m σ H' ⟨rfl,l,x,rfl,hw,hl1,hm⟩;refine⟨_,rfl,?_⟩;refine jP (λhl=>?_) (λhl=>?_)
  ·have hl:(0:Int)≤l:=of_decide_eq_true hl;refine⟨λσ' H''=>∃m',m'<m∧(H''=H'∧∃(l:Int)(x:Str),σ'=[some (.int c),some (.int l),some (.str x)]∧me l x∧-1≤l∧(m':Int)=l+1),λ_ _ h=>h,?_⟩;obtain⟨ch,hc,e⟩:=zc l;refine⟨(show(0:Int)<26 by decide),_,_,ch,rfl,rfl,fM (by decide),e,sH hw,?_⟩;refine⟨⟨by decide,by decide⟩,?_⟩;refine⟨(l / 26-1+1).toNat,?_,rfl,_,_,rfl,uO hw hl hc,?_,?_⟩
   ·lia
   ·lia
   ·lia
  ·have hl:¬(0:Int)≤l:=λz=>hl (decide_eq_true z);exact(k _ (vc hw hl))
theorem LZ(h:qH K vs H Q E):Gk K (gr Q) (start ["_law_script","_law_most","_law_bound"] vs) H:=by obtain⟨s,xs,m,b,rfl,hs,hl,k⟩:=h;refine⟨.inl hs,_,rfl,?_⟩;refine eN (decide_eq_false (by lia)) ?_;exact k
theorem Nh(h:jJ vs H Q E):Lx K (gr Q) (start ["words","word","value","more"] vs) H:=by obtain⟨d,x,v,kvs,rfl,hd,hl,k⟩:=h;refine⟨d,kvs,rfl,.inl hd,λp hp=>?_⟩;refine⟨nZ.k (k:=.inr x) dR (kX hl),?_⟩;exact(k p _ hp (eI (dX hp) hp) dR)
theorem Me(h:gX vs H Q E):Js K (gr Q) (start ["_law_piece"] vs) H:=by
  obtain⟨t,v,rfl,hd,k⟩:=h;cases t with
  | num n=>obtain⟨p,rfl,hp⟩:=hd;refine⟨eD.of hp,rfl,fM,λq hq=>?_⟩;refine⟨.inl (eJ.of dR),rfl,rfl,_,rfl,?_⟩;refine fc (by decide) ⟨fM,λl hl=>?_⟩;exact k l [] _ ((dX hq).trans (dX hl)) ((dX hq).free hl) dR .nil
  | name x=>obtain⟨p,rfl,hp⟩:=hd;refine⟨eD.of hp,rfl,fM,λq hq=>?_⟩;refine⟨.inl (eJ.of dR),rfl,rfl,_,rfl,?_⟩;refine fc (by decide) ⟨fM,λl hl=>?_⟩;exact k l [] _ ((dX hq).trans (dX hl)) ((dX hq).free hl) dR .nil
  | sum a b=>obtain⟨p,x,y,rfl,hp,d1,d2⟩:=hd;refine⟨eD.of hp,rfl,fM,λq hq=>?_⟩;refine⟨.inl (eJ.of dR),rfl,rfl,_,rfl,?_⟩;have h1:=iO (o:=.lst [.str "number",.str "name"]) hq _ _ hp;refine eN (by decide) ⟨eD.of h1,rfl,fM,λq2 hq2=>?_⟩;have h2:=iO (o:=.lst [.str "let",.str "stamp"]) hq2 _ _ h1;refine⟨.inl (eJ.of dR),rfl,rfl,?_⟩;rw[if_neg aR,show rS (V.str "sum") [V.str "let",V.str "stamp"]=false from by decide];refine .inr ⟨_,rfl,?_⟩;refine⟨eD.of h2,jU 1 (by decide) (bT rfl),λq3 hq3=>?_⟩;refine⟨.inr (eD.of dR),λl hl=>?_⟩;have s:=(((dX (o:=.lst [.str "number",.str "name"]) hq).trans (dX (o:=.lst [.str "let",.str "stamp"]) hq2)).trans (dX (o:=.tup [x,y]) hq3)).trans (dX (o:=.lst [x,y]) hl);have s3:=((dX (o:=.lst [.str "number",.str "name"]) hq).trans (dX (o:=.lst [.str "let",.str "stamp"]) hq2)).trans (dX (o:=.tup [x,y]) hq3);exact k l [x,y] _ s (s3.free hl) dR (.cons (d1.mono (dh s)) (.cons (d2.mono (dh s)) .nil))
  | less a b=>obtain⟨p,x,y,rfl,hp,d1,d2⟩:=hd;refine⟨eD.of hp,rfl,fM,λq hq=>?_⟩;refine⟨.inl (eJ.of dR),rfl,rfl,_,rfl,?_⟩;have h1:=iO (o:=.lst [.str "number",.str "name"]) hq _ _ hp;refine eN (by decide) ⟨eD.of h1,rfl,fM,λq2 hq2=>?_⟩;have h2:=iO (o:=.lst [.str "let",.str "stamp"]) hq2 _ _ h1;refine⟨.inl (eJ.of dR),rfl,rfl,?_⟩;rw[if_neg aR,show rS (V.str "less") [V.str "let",V.str "stamp"]=false from by decide];refine .inr ⟨_,rfl,?_⟩;refine⟨eD.of h2,jU 1 (by decide) (bT rfl),λq3 hq3=>?_⟩;refine⟨.inr (eD.of dR),λl hl=>?_⟩;have s:=(((dX (o:=.lst [.str "number",.str "name"]) hq).trans (dX (o:=.lst [.str "let",.str "stamp"]) hq2)).trans (dX (o:=.tup [x,y]) hq3)).trans (dX (o:=.lst [x,y]) hl);have s3:=((dX (o:=.lst [.str "number",.str "name"]) hq).trans (dX (o:=.lst [.str "let",.str "stamp"]) hq2)).trans (dX (o:=.tup [x,y]) hq3);exact k l [x,y] _ s (s3.free hl) dR (.cons (d1.mono (dh s)) (.cons (d2.mono (dh s)) .nil))
  | cho a b c=>obtain⟨p,x,y,z,rfl,hp,d1,d2,d3⟩:=hd;refine⟨eD.of hp,rfl,fM,λq hq=>?_⟩;refine⟨.inl (eJ.of dR),rfl,rfl,_,rfl,?_⟩;have h1:=iO (o:=.lst [.str "number",.str "name"]) hq _ _ hp;refine eN (by decide) ⟨eD.of h1,rfl,fM,λq2 hq2=>?_⟩;have h2:=iO (o:=.lst [.str "let",.str "stamp"]) hq2 _ _ h1;refine⟨.inl (eJ.of dR),rfl,rfl,?_⟩;rw[if_neg aR,show rS (V.str "choose") [V.str "let",V.str "stamp"]=false from by decide];refine .inr ⟨_,rfl,?_⟩;refine⟨eD.of h2,jU 1 (by decide) (bT rfl),λq3 hq3=>?_⟩;refine⟨.inr (eD.of dR),λl hl=>?_⟩;have s:=(((dX (o:=.lst [.str "number",.str "name"]) hq).trans (dX (o:=.lst [.str "let",.str "stamp"]) hq2)).trans (dX (o:=.tup [x,y,z]) hq3)).trans (dX (o:=.lst [x,y,z]) hl);have s3:=((dX (o:=.lst [.str "number",.str "name"]) hq).trans (dX (o:=.lst [.str "let",.str "stamp"]) hq2)).trans (dX (o:=.tup [x,y,z]) hq3);exact k l [x,y,z] _ s (s3.free hl) dR (.cons (d1.mono (dh s)) (.cons (d2.mono (dh s)) (.cons (d3.mono (dh s)) .nil)))
  | lt w a b=>obtain⟨p,x,y,rfl,hp,d1,d2⟩:=hd;refine⟨eD.of hp,rfl,fM,λq hq=>?_⟩;refine⟨.inl (eJ.of dR),rfl,rfl,_,rfl,?_⟩;have h1:=iO (o:=.lst [.str "number",.str "name"]) hq _ _ hp;refine eN (by decide) ⟨eD.of h1,rfl,fM,λq2 hq2=>?_⟩;have h2:=iO (o:=.lst [.str "let",.str "stamp"]) hq2 _ _ h1;refine⟨.inl (eJ.of dR),rfl,rfl,?_⟩;rw[if_neg aR,show rS (V.str "let") [V.str "let",V.str "stamp"]=true from by decide];refine .inr ⟨_,rfl,?_⟩;refine⟨eD.of h2,jU 2 (by decide) (bT rfl),λq3 hq3=>?_⟩;refine⟨.inr (eD.of dR),λl hl=>?_⟩;have s:=(((dX (o:=.lst [.str "number",.str "name"]) hq).trans (dX (o:=.lst [.str "let",.str "stamp"]) hq2)).trans (dX (o:=.tup [x,y]) hq3)).trans (dX (o:=.lst [x,y]) hl);have s3:=((dX (o:=.lst [.str "number",.str "name"]) hq).trans (dX (o:=.lst [.str "let",.str "stamp"]) hq2)).trans (dX (o:=.tup [x,y]) hq3);exact k l [x,y] _ s (s3.free hl) dR (.cons (d1.mono (dh s)) (.cons (d2.mono (dh s)) .nil))
  | st0 w=>obtain⟨p,rfl,hp⟩:=hd;refine⟨eD.of hp,rfl,fM,λq hq=>?_⟩;refine⟨.inl (eJ.of dR),rfl,rfl,_,rfl,?_⟩;have h1:=iO (o:=.lst [.str "number",.str "name"]) hq _ _ hp;refine eN (by decide) ⟨eD.of h1,rfl,fM,λq2 hq2=>?_⟩;have h2:=iO (o:=.lst [.str "let",.str "stamp"]) hq2 _ _ h1;refine⟨.inl (eJ.of dR),rfl,rfl,?_⟩;rw[if_neg aR,show rS (V.str "stamp") [V.str "let",V.str "stamp"]=true from by decide];refine .inr ⟨_,rfl,?_⟩;refine⟨eD.of h2,jU 2 (by decide) (bT rfl),λq3 hq3=>?_⟩;refine⟨.inr (eD.of dR),λl hl=>?_⟩;have s:=(((dX (o:=.lst [.str "number",.str "name"]) hq).trans (dX (o:=.lst [.str "let",.str "stamp"]) hq2)).trans (dX (o:=.tup []) hq3)).trans (dX (o:=.lst []) hl);have s3:=((dX (o:=.lst [.str "number",.str "name"]) hq).trans (dX (o:=.lst [.str "let",.str "stamp"]) hq2)).trans (dX (o:=.tup []) hq3);exact k l [] _ s (s3.free hl) dR .nil
  | st1 w a=>obtain⟨p,x,rfl,hp,d1⟩:=hd;refine⟨eD.of hp,rfl,fM,λq hq=>?_⟩;refine⟨.inl (eJ.of dR),rfl,rfl,_,rfl,?_⟩;have h1:=iO (o:=.lst [.str "number",.str "name"]) hq _ _ hp;refine eN (by decide) ⟨eD.of h1,rfl,fM,λq2 hq2=>?_⟩;have h2:=iO (o:=.lst [.str "let",.str "stamp"]) hq2 _ _ h1;refine⟨.inl (eJ.of dR),rfl,rfl,?_⟩;rw[if_neg aR,show rS (V.str "stamp") [V.str "let",V.str "stamp"]=true from by decide];refine .inr ⟨_,rfl,?_⟩;refine⟨eD.of h2,jU 2 (by decide) (bT rfl),λq3 hq3=>?_⟩;refine⟨.inr (eD.of dR),λl hl=>?_⟩;have s:=(((dX (o:=.lst [.str "number",.str "name"]) hq).trans (dX (o:=.lst [.str "let",.str "stamp"]) hq2)).trans (dX (o:=.tup [x]) hq3)).trans (dX (o:=.lst [x]) hl);have s3:=((dX (o:=.lst [.str "number",.str "name"]) hq).trans (dX (o:=.lst [.str "let",.str "stamp"]) hq2)).trans (dX (o:=.tup [x]) hq3);exact k l [x] _ s (s3.free hl) dR (.cons (d1.mono (dh s)) .nil)
  | st2 w a b=>obtain⟨p,x,y,rfl,hp,d1,d2⟩:=hd;refine⟨eD.of hp,rfl,fM,λq hq=>?_⟩;refine⟨.inl (eJ.of dR),rfl,rfl,_,rfl,?_⟩;have h1:=iO (o:=.lst [.str "number",.str "name"]) hq _ _ hp;refine eN (by decide) ⟨eD.of h1,rfl,fM,λq2 hq2=>?_⟩;have h2:=iO (o:=.lst [.str "let",.str "stamp"]) hq2 _ _ h1;refine⟨.inl (eJ.of dR),rfl,rfl,?_⟩;rw[if_neg aR,show rS (V.str "stamp") [V.str "let",V.str "stamp"]=true from by decide];refine .inr ⟨_,rfl,?_⟩;refine⟨eD.of h2,jU 2 (by decide) (bT rfl),λq3 hq3=>?_⟩;refine⟨.inr (eD.of dR),λl hl=>?_⟩;have s:=(((dX (o:=.lst [.str "number",.str "name"]) hq).trans (dX (o:=.lst [.str "let",.str "stamp"]) hq2)).trans (dX (o:=.tup [x,y]) hq3)).trans (dX (o:=.lst [x,y]) hl);have s3:=((dX (o:=.lst [.str "number",.str "name"]) hq).trans (dX (o:=.lst [.str "let",.str "stamp"]) hq2)).trans (dX (o:=.tup [x,y]) hq3);exact k l [x,y] _ s (s3.free hl) dR (.cons (d1.mono (dh s)) (.cons (d2.mono (dh s)) .nil))
end SW
namespace SW
open PySem L2
def lh(ws:List Str)(x:Str):List Str:=if x∈ws then ws else ws++[x]
def i7(ws:List Str):List (fO×V):=ws.map λx=>(Sum.inr x,V.bl true)
theorem CI:y∈lh ws x↔y∈ws∨y=x:=by
 unfold lh;split
 ·rename_i h;exact⟨.inl,λz=>z.elim id λe=>e▸h⟩
 ·simp
theorem xD(h:ws.Nodup):(lh ws x).Nodup:=by
 unfold lh;split
 ·exact h
 ·rename_i n;exact yI h n
theorem vQ(ws:List Str)(x:Str):(lh ws x).length≤ws.length+1:=by
 unfold lh;split
 ·lia
 ·simp
theorem wb(ws:List Str):mP (i7 ws)=ws.map V.str:=by simp[mP,i7,kV]
theorem oK(ws:List Str):(i7 ws).length=ws.length:=by simp[i7]
theorem nh(ws:List Str)(x:Str):(fW (i7 ws) (Sum.inr x:fO)).isSome=decide (x∈ws):=by
 rw[←jW];unfold i7;rw[List.any_map];by_cases h:x∈ws
 ·rw[decide_eq_true h];exact ce.mpr ⟨x,h,by simp⟩
 ·rw[decide_eq_false h];refine List.any_eq_false.mpr λy hy=>?_;simp only[dG,decide_eq_true_eq];intro e;cases e;exact h hy
theorem oE(ws:List Str)(x:Str):gH (i7 ws) (Sum.inr x:fO) (.bl true)=i7 (lh ws x):=by
 unfold lh;by_cases h:x∈ws
 ·rw[if_pos h];unfold gH;rw[jW,nh,decide_eq_true h,if_pos rfl];unfold i7;rw[cG];refine dH λy _=>?_;simp only[dG];split
  ·rename_i e;rw[e]
  ·rfl
 ·rw[if_neg h,qU _ (by cases e:fW (i7 ws) (Sum.inr x:fO) with|none=>rfl|some z=>have:=nh ws x;rw[e,decide_eq_false h]at this;cases this)];simp[i7]
theorem rO(h:kind t="name"):∃x,t=.name x:=by
 cases t with
 | name x=>exact⟨x,rfl⟩
 | _=>simp only[kind]at h;exact absurd h (by decide)
theorem nJ(h:kind t="let"):∃x a b,t=.lt x a b:=by
 cases t with
 | lt x a b=>exact⟨x,a,b,rfl⟩
 | _=>simp only[kind]at h;exact absurd h (by decide)
theorem gx(t:T)(us:List V):ph (hd t++us) 0=some (.str (kind t)):=by cases t<;>exact dW (j:=0) rfl
theorem jd(a b:List T):fh (a++b)=fh a+fh b:=by simp[fh]
theorem qw{t:T}(h:∀y,t≠.name y):fh t.kids=t.names.length:=by
 cases t with
 | name y=>exact absurd rfl (h y)
 | _=>simp[fh,T.kids,T.names]<;>lia
theorem fz(h:l≠[]):∃us u,l=us++[u]:=⟨l.dropLast,l.getLast h,(List.dropLast_concat_getLast h).symm⟩
theorem jN:(us++[u])[(us++[u]).length-1]?=some u:=by simp
theorem iX:(us++[u]).dropLast=us:=by simp
end SW
namespace SW
open PySem L2
variable {K:aA}{vs:List V}{H:Hp}{Q:VK}{E:XK}
theorem uo(hD:D d):∀{ts:List T}{us:List V}{vs:List V},gJ H ts vs→H d=some (.dK kvs)→us.length=vs.length→(∀(i:Nat) u v,us[i]?=some u→vs[i]?=some v→∃p,u=.ref p∧H p=some (.tup [v,.ref d]))→iE D H (ts.map λk=>(k,kvs)) us
 | _,us,_,.nil,_,hl,_=>by
  have:us=[]:=by simpa using hl
  subst this;exact .nil
 | _,[],_,.cons _ _,_,hl,_=>by simp at hl
 | _,u::us,_,.cons a r,hd,hl,k=>by obtain⟨p,e,hp⟩:=k 0 u _ rfl rfl;exact .cons ⟨p,_,d,e,hp,a,hd,hD⟩ (uo hD r hd (by simpa using hl) λi u v h1 h2=>k (i+1) u v (by simpa using h1) (by simpa using h2))
theorem Mb(h:ue vs H Q E):Jp K (gr Q) (start ["piece","lets"] vs) H:=by
 obtain⟨t,v,d,kvs,rfl,hd,hk,hl,k⟩:=h;obtain⟨p,ks,rfl,hp,dk⟩:=hd.open;refine⟨eD.of hp,gx t ks,rfl,_,rfl,?_⟩;refine jP (λhn=>?_) (λhn=>?_)
 ·obtain⟨x,a,b,rfl⟩:=nJ (V.str.inj (of_decide_eq_true hn));obtain⟨p',u1,u2,e,hp',d1,d2⟩:=hd;cases e;refine⟨eD.of hp',rfl,eD.of hp',rfl,?_⟩;refine⟨d,x,.bl true,kvs,rfl,hk,hl,λe1 H1 n1 s1 h1=>?_⟩;refine⟨fM,et λq1 H2 hq1 s2 g2=>?_⟩;refine⟨eD.of (s2 _ _ (s1 _ _ hp')),rfl,fM,et λq2 H3 hq2 s3 g3=>?_⟩;refine⟨fM,λl hl=>?_⟩;have s4:dz H3 (upd H3 l (.lst [.ref q1,.ref q2])):=dX hl;have s:=(s1.trans s2).trans (s3.trans s4);refine k l [.ref q1,.ref q2] _ s (((s1.trans s2).trans s3).free hl) dR (.cons ⟨q1,u2,e1,rfl,s4 _ _ (s3 _ _ g2),d2.mono (dh s),s4 _ _ (s3 _ _ (s2 _ _ h1)),.inr n1⟩ (.cons ⟨q2,u1,d,rfl,s4 _ _ g3,d1.mono (dh s),s _ _ hk,.inl rfl⟩ .nil))
 ·have nn:∀x a b,t≠.lt x a b:=λx a b z=>hn (by rw[z];exact decide_eq_true rfl);have em:ja t kvs=t.kids.map λk=>(k,kvs):=by
   cases t with
   | lt x a b=>exact absurd rfl (nn x a b)
   | _=>rfl
  rw[em]at k;refine⟨t,.ref p,rfl,hd,λq us H1 s1 h1 d1=>⟨eD.of h1,?_⟩⟩;have hlen:=d1.length;have hks:=fC t.kids;have hsm:us.length≤3:=by rw[hlen];cases t<;>simp[T.kids]
  refine⟨λi m zs H'=>m=us.length-i∧i≤us.length∧zs.length=i∧dz H1 H'∧∀(j:Nat) z v,zs[j]?=some z→us[j]?=some v→∃p,z=.ref p∧H' p=some (.tup [v,.ref d]),⟨us.length,by simp,aU _,rfl,λ_ _ h=>h,λj z v h=>by simp at h⟩,?_⟩;rintro i m zs H' ⟨rfl,hi,hz,s2,hw⟩;by_cases hlt:i<us.length
  ·refine .inr ⟨⟨us,us[i],eD.of (s2 _ _ h1),by simp[hlt]⟩,λx H2 y=>?_⟩;obtain⟨e,y⟩:=y;subst e;have hx:=y us (eD.of (s2 _ _ h1));refine⟨fM,λp2 hp2=>⟨by rw[hz,sizeLine_eq];lia,us.length-(i+1),by lia,rfl,hlt,by simp[hz],s2.trans (dX hp2),λj z v h1 h2=>?_⟩⟩;rcases bM j zs.length with hj|hj
   ·rw[bB hj]at h1;obtain⟨p3,e3,g3⟩:=hw j z v h1 h2;exact⟨p3,e3,dX hp2 _ _ g3⟩
   ·rw[bL hj]at h1;have hj0:j-zs.length=0:=by
     cases q:j-zs.length with
     | zero=>rfl
     | succ n=>rw[q]at h1;simp at h1
    rw[hj0]at h1;have ej:j=i:=by lia
    subst ej;rw[hx]at h2;cases h2;have:z=.ref p2:=by simpa using h1.symm
    exact⟨p2,this,dR⟩
  ·have e:i=us.length:=by lia
   refine .inl ⟨⟨us,eD.of (s2 _ _ h1),by lia⟩,by rw[hz,sizeLine_eq];lia,λl hl=>?_⟩;have s3:=s2.trans (dX (o:=.lst zs) hl);refine k l zs _ (s1.trans s3) ((s1.trans s2).free hl) dR (uo (.inl rfl) (d1.mono (dh s3)) (s3 _ _ (s1 _ _ hk)) (by lia) λi u v h1 h2=>?_);obtain⟨p3,e3,g3⟩:=hw i u v h1 h2;exact⟨p3,e3,dX hl _ _ g3⟩
def iw(qs:List (T×List (fO×V))):List T:=qs.map (·.1)
theorem i6(a b:List (T×List (fO×V))):iw (a++b)=iw a++iw b:=by simp[iw]
def lY(x:Str)(qs:List (T×List (fO×V))):Prop:=∃q∈qs,q.1.out x∧fW q.2 (Sum.inr x:fO)=none
theorem kJ:lY x (a++b)↔lY x a∨lY x b:=by
 unfold lY;constructor
 ·rintro⟨t,h,o⟩;rcases aW.mp h with z|z
  ·exact .inl ⟨t,z,o⟩
  ·exact .inr ⟨t,z,o⟩
 ·rintro(⟨t,h,o⟩|⟨t,h,o⟩)
  ·exact⟨t,ag _ h,o⟩
  ·exact⟨t,aS _ h,o⟩
theorem nG:lY x [q]↔q.1.out x∧fW q.2 (Sum.inr x:fO)=none:=by simp[lY]
theorem uq:¬lY x []:=by simp[lY]
theorem Bx{x:Str}{ts:List T}{kvs:List (fO×V)}:lY x (ts.map λk=>(k,kvs))↔(∃k∈ts,k.out x)∧fW kvs (Sum.inr x:fO)=none:=by
 unfold lY;constructor
 ·rintro⟨q,h,o,v⟩;obtain⟨k,hk,rfl⟩:=bw.mp h;exact⟨⟨k,hk,o⟩,v⟩
 ·rintro⟨⟨k,hk,o⟩,v⟩;exact⟨(k,kvs),bw.mpr ⟨k,hk,rfl⟩,o,v⟩
theorem zC(t:T)(kvs:List (fO×V)):fE (iw (ja t kvs))+1=t.size:=by
 have h:=jL t;cases t with
 | lt x a b=>simp[iw,ja,fE,T.size]<;>lia
 | _=>rw[←h];simp[iw,ja,T.kids,fE]
theorem zX(kvs:List (fO×V))(h:∀y,t≠.name y):fh (iw (ja t kvs))=t.names.length:=by
 have e:=qw h;cases t with
 | lt x a b=>simp[iw,ja,fh,T.names]<;>lia
 | _=>rw[←e];simp[iw,ja,T.kids,fh]
theorem Eb{x:Str}{t:T}{kvs:List (fO×V)}(h:∀y,t≠.name y):lY x (ja t kvs)↔t.out x∧fW kvs (Sum.inr x:fO)=none:=by
 cases t with
 | name y=>exact absurd rfl (h y)
 | lt w a b=>
  have e:fW (gH kvs (Sum.inr w:fO) (.bl true)) (Sum.inr x:fO)=none↔w≠x∧fW kvs (Sum.inr x:fO)=none:=by
   rw[jo];by_cases q:w=x
   ·subst q;simp
   ·have q':¬(Sum.inr x:fO)=Sum.inr w:=λz=>q (Sum.inr.inj z).symm;rw[if_neg q'];simp[q]
  simp only[lY,ja,aB,aF,or_false,T.out];constructor
  ·rintro⟨q,rfl|rfl,o,v⟩
   ·exact⟨.inr ⟨(e.mp v).1,o⟩,(e.mp v).2⟩
   ·exact⟨.inl o,v⟩
  ·rintro⟨o|⟨n,o⟩,v⟩
   ·exact⟨_,.inr rfl,o,v⟩
   ·exact⟨_,.inl rfl,o,e.mpr ⟨n,v⟩⟩
 | _=>rw[show ja _ kvs=(T.kids _).map (λk=>(k,kvs))from rfl,Bx];simp[T.kids,T.out]
theorem Cf(h:kvs.length+t.size≤n):∀q∈ja t kvs,q.2.length+q.1.size≤n:=by
 have e:=iC kvs (Sum.inr (match t with|.lt x _ _=>x|_=>""):fO) (.bl true);cases t with
 | lt x a b=>
  have e:=iC kvs (Sum.inr x:fO) (.bl true);simp only[T.size]at h;intro q hq;simp only[ja,aB,aF,or_false]at hq;rcases hq with rfl|rfl
  ·show(gH kvs (Sum.inr x) (V.bl true)).length+b.size≤n;lia
  ·show kvs.length+a.size≤n;lia
 | _=>
  simp only[T.size]at h;intro q hq;simp only[ja,T.kids,aX,bV,aB,aF,or_false]at hq<;>first
   | exact hq.elim
   | (rcases hq with rfl|rfl|rfl<;>(simp only;lia))
   | (rcases hq with rfl|rfl<;>(simp only;lia))
   | (subst hq;simp only;lia)
structure LL(t:T)(H₀ H:Hp)(f l:Addr)(ws:List Str)(qs:List (T×List (fO×V)))(us:List V):Prop where
 same:dz H₀ H
 nf:H₀ f=none
 nl:H₀ l=none
 f_:H f=some (.dK (i7 ws))
 l_:H l=some (.lst us)
 pr:iE (λe=>e≠f) H qs us
 nd:ws.Nodup
 cnt:ws.length+fh (iw qs)≤t.names.length
 sz:fE (iw qs)≤900
 dp:∀q∈qs,q.2.length+q.1.size≤950
 iff:∀x,x∈ws∨lY x qs↔t.out x
def NU(v:V)(t:T)(H:Hp)(m:Nat)(σ:St)(H':Hp):Prop:=∃f l j3 j4 j5 ws qs us,σ=[some v,some (.ref f),some (.ref l),j3,j4,j5]∧LL t H H' f l ws qs us∧m=fE (iw qs)
theorem Mc(h:qI vs H Q E):Jq K (gr Q) (start ["piece","found","waiting","pair","current","lets"] vs) H:=by
 obtain⟨t,v,rfl,hd,hsz,hnm,k⟩:=h;intro f hf;refine(λd hdn=>⟨fM,λp hp=>⟨fM,λl hl=>?_⟩⟩);have s1:dz H (upd H f (.dK [])):=dX hf;have s2:=dX (o:=.dK []) hdn;have s3:=dX (o:=.tup [v,.ref d]) hp;have s4:=dX (o:=.lst [.ref p]) hl;have hfd:d≠f:=(de (dR (H:=H) (a:=f) (o:=.dK [])) hdn).symm;refine⟨NU v t H,⟨_,f,l,none,none,none,[],[(t,[])],[.ref p],rfl,?_,rfl⟩,?_⟩
 ·refine⟨s1.trans (s2.trans (s3.trans s4)),hf,((s1.trans s2).trans s3).free hl,s4 _ _ (s3 _ _ (s2 _ _ dR)),dR,.cons ⟨p,v,d,rfl,s4 _ _ dR,hd.mono (dh (s1.trans (s2.trans (s3.trans s4)))),s4 _ _ (s3 _ _ dR),hfd⟩ .nil,List.nodup_nil,?_,?_,?_,λx=>?_⟩
  ·simp[iw,fh]
  ·simp[iw,fE];lia
  ·intro q hq;rw[aG]at hq;subst hq;simp;lia
  ·rw[nG];simp[AR]
 ·rintro m σ H1 ⟨f,l,j3,j4,j5,ws,qs,us,rfl,A,rfl⟩;refine⟨.inl (eJ.of A.l_),_,rfl,?_⟩;by_cases hv:us=[]
  ·subst hv;cases A.pr;refine eN rfl ?_;have hlen:ws.length<64:=cZ (aY (bg _ _) A.cnt) hnm;refine⟨f,_,ws,rfl,.inl A.f_,wb ws,hlen,λq ws' hq pm so=>?_⟩;refine k q ws' _ (A.same.trans (dX hq)) (A.same.free hq) dR (FL (zB so) (pm.nodup_iff.mpr A.nd)) λx=>?_;rw[pm.mem_iff,←A.iff x];exact⟨.inl,λz=>z.elim id λz=>(uq z).elim⟩
  ·obtain⟨us,u,rfl⟩:=fz hv;refine fc (decide_eq_true (by simp)) ?_;obtain⟨qs',⟨t',kvs⟩,rfl,d1,p',v',d',rfl,hp',dn,hd',hdf⟩:=A.pr.snoc;refine⟨Lt (NU v t H) (fE (iw (qs'++[(t',kvs)]))),λ_ _ h=>h,?_⟩;refine⟨.inl ⟨rfl,_,eJ.of A.l_⟩,A.l_,jN,?_⟩;rw[iX];have hfl:f≠l:=fF A.f_ A.l_ (by intro z;cases z);have hdl:d'≠l:=fF hd' A.l_ (by intro z;cases z);have tl1:fR H1 (upd H1 l (.lst us)):=fP A.l_;have s3:dz H (upd H1 l (.lst us)):=eI A.same A.nl;have f3:(upd H1 l (.lst us)) f=some (.dK (i7 ws)):=by rw[dj hfl];exact A.f_
   have l3:(upd H1 l (.lst us)) l=some (.lst us):=dR;have g3:(upd H1 l (.lst us)) d'=some (.dK kvs):=by rw[dj hdl];exact hd'
   have d3:iE (λe=>e≠f) (upd H1 l (.lst us)) qs' us:=d1.mono tl1 λe kv h1 h2=>⟨by rw[dj (fF h2 A.l_ (by intro z;cases z))];exact h2,h1⟩;have e3:=dn.mono tl1;have hp3:=tl1 _ _ hp';generalize upd H1 l (.lst us)=H3 at s3 f3 l3 d3 e3 hp3 g3⊢;have hcnt:=A.cnt;have hsz2:=A.sz;have hdp:=A.dp (t',kvs) (aS _ (aG.mpr rfl));simp only at hdp;rw[i6,fK]at hsz2;rw[i6,jd]at hcnt;have eq1:fE (iw [(t',kvs)])=t'.size:=by simp[iw,fE]
   have eq2:fh (iw [(t',kvs)])=t'.names.length:=by simp[iw,fh]
   rw[eq1]at hsz2;rw[eq2]at hcnt;obtain⟨pc,ks,rfl,hpc,dk⟩:=e3.open;refine⟨eD.of hp3,rfl,?_⟩;refine⟨eD.of hp3,rfl,?_⟩;have rest:∀(ws':List Str)(H4:Hp),dz H H4→H4 f=some (.dK (i7 ws'))→H4 l=some (.lst us)→H4 d'=some (.dK kvs)→iE (λe=>e≠f) H4 qs' us→gN H4 t' (.ref pc)→ws'.Nodup→ws'.length+fh (iw qs')+fh (iw (ja t' kvs))≤t.names.length→
     (∀x,x∈ws'∨lY x qs'∨lY x (ja t' kvs)↔t.out x)→
     (fG (jm K "list" m8 (dQ 2) (dP (eY ue [] E0 (dP (dQ 4) (dP (dQ 5) dZ))) dZ))) {gr Q with nx:=Lt (NU v t H) (fE (iw (qs'++[(t',kvs)])))}
      [some v,some (.ref f),some (.ref l),some (.ref p'),some (.ref pc),some (.ref d')] H4:=by
    intro ws' H4 s4 f4 l4 g4 d4 e4 nd4 c4 i4;refine⟨.inl ⟨rfl,_,eJ.of l4⟩,t',.ref pc,d',kvs,rfl,e4,g4,by lia,λl2 us2 H5 s5 n5 h5 d5=>?_⟩;have hk:=zC t' kvs;have q1:=d4.length;have q2:=d5.length;have q3:=fC (iw qs');have q4:=fC (iw (ja t' kvs));have q5:(iw qs').length=qs'.length:=by simp[iw]
    have q6:(iw (ja t' kvs)).length=(ja t' kvs).length:=by simp[iw]
    refine⟨l,l2,us,us2,rfl,rfl,s5 _ _ l4,h5,by rw[sizeLine_eq];lia,?_⟩;have l5:=s5 _ _ l4;have t6:fR H5 (upd H5 l (.lst (us++us2))):=fP l5;have dl6:∀(D:Addr→Prop) e kv,D e→H5 e=some (.dK kv)→(upd H5 l (.lst (us++us2))) e=some (.dK kv)∧D e:=λD e kv h1 h2=>⟨by rw[dj (fF h2 l5 (by intro z;cases z))];exact h2,h1⟩;have d6:iE (λe=>e≠f) H5 (ja t' kvs) us2:=d5.mono fR.refl λe kv h1 h2=>⟨h2,by
     rcases h1 with rfl|h1
     ·exact hdf
     ·exact(de f4 h1).symm⟩
    have d7:iE (λe=>e≠f) H5 qs' us:=d4.mono (dh s5) λe kv h1 h2=>⟨s5 _ _ h2,h1⟩;refine⟨fE (iw (qs'++ja t' kvs)),by rw[i6,i6,fK,fK,eq1];lia,f,l,_,_,_,ws',qs'++ja t' kvs,us++us2,rfl,⟨eI (s4.trans s5) A.nl,A.nf,A.nl,?_,dR,(d7.append d6).mono t6 (dl6 _),nd4,?_,?_,λq hq=>?_,λx=>?_⟩,rfl⟩
    ·rw[dj hfl];exact s5 _ _ f4
    ·rw[i6,jd];lia
    ·rw[i6,fK];lia
    ·rcases aW.mp hq with z|z
     ·exact A.dp q (ag _ z)
     ·exact Cf hdp q z
    ·rw[kJ];exact i4 x
   have nameOnly:∀x,t'=.name x→ja t' kvs=[]:=λx e=>by subst e;rfl
   refine⟨eD.of hpc,gx t' ks,rfl,_,rfl,?_⟩;refine jP (λhn=>?_) (λhn=>?_)
   ·obtain⟨x,rfl⟩:=rO (V.str.inj (of_decide_eq_true hn));refine⟨eD.of hpc,dW (j:=1) rfl,iV.k (k:=.inr x) g3,_,rfl,?_⟩;have q2:(T.name x).names.length=1:=rfl;have q3:fh (iw (ja (T.name x) kvs))=0:=rfl;have q4:∀y,¬lY y (ja (T.name x) kvs):=λy=>uq;refine jP (λhx=>?_) (λhx=>?_)
    ·have hx:fW kvs (Sum.inr x:fO)=none:=by
      cases q:fW kvs (Sum.inr x:fO) with
      | none=>rfl
      | some z=>rw[q]at hx;cases hx
     refine⟨eD.of hpc,dW (j:=1) rfl,nZ.k (k:=.inr x) f3 (kX (by rw[oK];lia)),?_⟩;rw[oE];have tf:fR H3 (upd H3 f (.dK (i7 (lh ws x)))):=AV f3;refine rest (lh ws x) _ (eI s3 A.nf) dR ?_ ?_ (d3.mono tf λe kv h1 h2=>⟨by rw[dj h1];exact h2,h1⟩) (e3.mono tf) (xD A.nd) ?_ λy=>?_
     ·rw[dj hfl.symm];exact l3
     ·rw[dj hdf];exact g3
     ·have q1:=vQ ws x;lia
     ·rw[CI,←A.iff y,kJ,nG];have q5:(T.name x).out y∧fW kvs (Sum.inr y:fO)=none↔y=x:=⟨λz=>z.1.symm,λz=>⟨z.symm,z▸hx⟩⟩;show _↔y∈ws∨lY y qs'∨((T.name x).out y∧fW kvs (Sum.inr y:fO)=none);rw[q5];constructor
      ·rintro((z|z)|z|z)
       ·exact .inl z
       ·exact .inr (.inr z)
       ·exact .inr (.inl z)
       ·exact(q4 y z).elim
      ·rintro(z|z|z)
       ·exact .inl (.inl z)
       ·exact .inr (.inl z)
       ·exact .inl (.inr z)
    ·refine rest ws _ s3 f3 l3 g3 d3 e3 A.nd (by lia) λy=>?_;rw[←A.iff y,kJ,nG];have q5:¬((T.name x).out y∧fW kvs (Sum.inr y:fO)=none):=λz=>by have e:x=y:=z.1;subst e;rw[z.2]at hx;exact hx rfl
     constructor
     ·rintro(z|z|z)
      ·exact .inl z
      ·exact .inr (.inl z)
      ·exact(q4 y z).elim
     ·rintro(z|z|z)
      ·exact .inl z
      ·exact .inr (.inl z)
      ·exact(q5 z).elim
   ·have nn:∀y,t'≠.name y:=λy z=>hn (by rw[z];exact decide_eq_true rfl);refine fQ ?_;refine rest ws _ s3 f3 l3 g3 d3 e3 A.nd ?_ λy=>?_
    ·rw[zX kvs nn];lia
    ·rw[Eb nn,←A.iff y,kJ,nG]
theorem Cj(xs:List V)(k:Nat)(hk:0<k):ix xs (some (-(k:Int))) none=xs.drop (xs.length-k):=by
 unfold ix HT.kZ;have h1:(-(k:Int))<0:=by lia
 simp only[h1,if_true];have e:(-(k:Int)+(xs.length:Int)).toNat=xs.length-k:=by lia
 rw[e,bh];rw[aj];lia
theorem oV(xs:List V)(k:Nat)(hk:0<k):ix xs none (some (-(k:Int)))=xs.take (xs.length-k):=by
 unfold ix HT.kZ;have h1:(-(k:Int))<0:=by lia
 simp only[h1,if_true,ai,bi];have e:(-(k:Int)+(xs.length:Int)).toNat=xs.length-k:=by lia
 rw[e]
theorem lg(xs:List V)(k:Nat)(hk:k≤xs.length):ix xs (some (k:Int)) none=xs.drop k:=by unfold ix;rw[HT.LY,HT.J3,bu hk,bh];rw[aj];lia
theorem tj(xs:List V)(k:Nat)(hk:k≤xs.length):ix xs none (some (k:Int))=xs.take k:=by unfold ix;rw[HT.LY,HT.J3,bu hk,ai,bi]
theorem gJ.split:∀{us:List V}{ts:List T}{ws:List V},gJ H ts (us++ws)→∃ta tb,ts=ta++tb∧gJ H ta us∧gJ H tb ws
 | [],ts,ws,h=>⟨[],ts,rfl,.nil,h⟩
 | u::us,_,ws,.cons a r=>by obtain⟨ta,tb,rfl,h1,h2⟩:=gJ.split (us:=us) r;exact⟨_::ta,tb,rfl,.cons a h1,h2⟩
theorem vP(xs:List V)(a b:V):ph (xs++[a,b]) (-2)=some a:=by
 unfold ph C5;have h1:¬(0:Int)≤-2:=by decide
 have h2 : -((xs++[a,b]).length:Int)≤-2:=by simp;lia
 rw[if_neg h1,if_pos h2];have e:(-2+((xs++[a,b]).length:Int)).toNat=xs.length:=by simp;lia
 show(xs++[a,b])[(-2+((xs++[a,b]).length:Int)).toNat]?=some a;rw[e];simp
theorem ql(xs:List V)(a b:V):ph (xs++[a,b]) (-1)=some b:=by have:=vO (xs++[a]) b;rw[aV]at this;exact this
section
variable {S:Str→Nat→Prop}{H₀ H1:Hp}{n:Nat}{l p:Addr}{ts:List T}{t:T}{v:V}
theorem lE.mono(P:lE S H₀ H n l vs ts)(s:dz H H1):lE S H₀ H1 n l vs ts:=⟨P.same.trans s,P.new,s _ _ P.at_,P.den.mono (dh s),P.sz,P.one,P.wt⟩
theorem lE.push(P:lE S H₀ H n l vs ts)(hd:gN H t v)(wt:WG S t)(hs:t.size=1):lE S H₀ (upd H l (.lst (vs++[v]))) (n+1) l (vs++[v]) (ts++[t]):=by
 have tl:=fP (o:=.lst (vs++[v])) P.at_;refine⟨eI P.same P.new,P.new,dR,(P.den.mono tl).append (.cons (hd.mono tl) .nil),?_,by simp,λu hu=>?_⟩
 ·rw[fK,gA,jK];have:=P.sz;lia
 ·rcases aW.mp hu with z|z
  ·exact P.wt u z
  ·rw[aG]at z;subst z;exact wt
theorem lE.fold(P:lE S H₀ H n l (us++ws) (ta++tb))(s:dz H H1)(hp:H1 p=none)(d:gJ H ta us)(hd:gN H1 t v)(wt:WG S t)(hs:t.size=fE tb+1):lE S H₀ (upd H1 p (.lst (us++[v]))) (n+1) p (us++[v]) (ta++[t]):=by
 have tl:=iO (o:=.lst (us++[v])) hp;refine⟨(P.same.trans s).trans (dX hp),(P.same.trans s).free hp,dR,((d.mono (dh s)).mono tl).append (.cons (hd.mono tl) .nil),?_,by simp,λu hu=>?_⟩
 ·have:=P.sz;rw[fK]at this⊢;rw[gA,jK];lia
 ·rcases aW.mp hu with z|z
  ·exact P.wt u (ag _ z)
  ·rw[aG]at z;subst z;exact wt
def C4(S:Str→Nat→Prop)(H₀:Hp)(c st:Addr)(n:Nat)(σ:L2.St)(H:Hp):Prop:=
 ∃l vs ts j3 j4 j5 j6 j7 j8 j9 j10 j11 j12,σ=[some (.ref c),some (.ref st),some (.ref l),j3,j4,j5,j6,j7,j8,j9,j10,j11,j12]∧lE S H₀ H n l vs ts
end
section
variable {S:Str→Nat→Prop}{H₀:Hp}{n:Nat}{l c st li:Addr}{ts:List T}{D:iN}{cell rest way:Int}{x:Str}{j8 j9 j10 j11 j12:Option V}
theorem m6(P:lE S H₀ H n l vs ts)(hn:n≤1000)(hD:∀σ H,C4 S H₀ c st (n+1) σ H→D.nx σ H):
  A7 K D [some (.ref c),some (.ref st),some (.ref l),some (.int cell),some (.int rest),some (.int way),some (.str x),some (.ref li),j8,j9,j10,j11,j12] H:=by
 refine⟨.inl ⟨rfl,_,eJ.of P.at_⟩,?_⟩;refine⟨(show(0:Int)<4 by decide),rest,rfl,λz H1 hz s1=>⟨fM,et λq H2 hq zq hq1=>?_⟩⟩;have P1:=(P.mono s1).mono zq;refine⟨(show(0:Int)<5 by decide),rfl,.inr ⟨_,rfl,?_⟩⟩;have hi:0≤(if decide (V.int (rest%5)=V.int 3)=true then(1:Int)else 0)∧(if decide (V.int (rest%5)=V.int 3)=true then(1:Int)else 0)<([V.int (rest%4-1),V.int z]:List V).length:=by
  constructor
  ·split<;>decide
  ·show _<((2:Nat):Int);split<;>decide
 obtain⟨u,hu,e⟩:=nU hi.1 hi.2;obtain⟨y,rfl,hy⟩:∃y,u=.int y∧(-(10^60)<y∧y<10^60):=by
  have e60:(10:Int)^60=1000000000000000000000000000000000000000000000000000000000000:=by decide
  have e59:(10:Int)^59=100000000000000000000000000000000000000000000000000000000000:=by decide
  rw[e60];rw[e59]at hz;rcases aB.mp hu with rfl|hu
  ·exact⟨_,rfl,by lia⟩
  ·rw[aG]at hu;exact⟨_,hu,by lia⟩
 refine⟨eJ.of hq1,e,fM,λp hp=>?_⟩;have P2:=P1.mono (dX (o:=.tup [.str "number",.int y]) hp);have hl:vs.length≤n:=by rw[P.den.length];exact aY (fC ts) P.sz
 refine⟨P2.at_,by rw[sizeLine_eq];lia,hD _ _ ⟨l,vs++[.ref p],ts++[.num y],_,_,_,_,_,_,_,_,_,_,rfl,P2.push (t:=.num y) (v:=.ref p) ⟨p,rfl,dR⟩ hy rfl⟩⟩
theorem wI(P:lE S H₀ H n l vs ts)(hn:n≤1000)(hx:Wg x)(hD:∀σ H,C4 S H₀ c st (n+1) σ H→D.nx σ H):
  A6 K D [some (.ref c),some (.ref st),some (.ref l),some (.int cell),some (.int rest),some (.int way),some (.str x),some (.ref li),j8,j9,j10,j11,j12] H:=by
 refine⟨.inl ⟨rfl,_,eJ.of P.at_⟩,fM,λp hp=>?_⟩;have P2:=P.mono (dX (o:=.tup [.str "name",.str x]) hp);have hl:vs.length≤n:=by rw[P.den.length];exact aY (fC ts) P.sz
 refine⟨P2.at_,by rw[sizeLine_eq];lia,hD _ _ ⟨l,vs++[.ref p],ts++[.name x],_,_,_,_,_,_,_,_,_,_,rfl,P2.push (t:=.name x) (v:=.ref p) ⟨p,rfl,dR⟩ hx rfl⟩⟩
theorem su(P:lE S H₀ H n l (us++[a,b,d]) (ta++[t1,t2,t3]))(hn:n≤1000)(d0:gJ H ta us)(d1:gN H t1 a)(d2:gN H t2 b)(d3:gN H t3 d)(hli:H li=some (.lst [a,b,d]))(hD:∀σ H,C4 S H₀ c st (n+1) σ H→D.nx σ H):
  A5 K D [some (.ref c),some (.ref st),some (.ref l),some (.int cell),some (.int rest),some (.int way),some (.str x),some (.ref li),j8,j9,j10,j11,j12] H:=by
 refine⟨eJ.of P.at_,λq hq=>?_⟩;rw[show(-3:Int)=-((3:Nat):Int)from rfl,oV _ 3 (by decide),show(us++[a,b,d]).length-3=us.length by simp,cH];have s1:=dX (o:=.lst us) hq;have g1:(upd H q (.lst us)) q=some (.lst us):=dR;generalize upd H q (.lst us)=G1 at s1 g1⊢;refine⟨eJ.of (s1 _ _ hli),rfl,eJ.of (s1 _ _ hli),rfl,eJ.of (s1 _ _ hli),rfl,fM,et λp G2 hp s2 g2=>?_⟩;refine⟨fM,et λq2 G3 hq2 s3 g3=>?_⟩;have sA:=s1.trans (s2.trans s3);have hl:(us++[a,b,d]).length≤n:=by rw[P.den.length];exact aY (fC _) P.sz
 rw[aD]at hl;refine⟨s3 _ _ (s2 _ _ g1),g3,by rw[sizeLine_eq];simp;lia,λp3 hp3=>hD _ _ ⟨p3,us++[.ref p],ta++[.cho t1 t2 t3],_,_,_,_,_,_,_,_,_,_,rfl,P.fold (t:=.cho t1 t2 t3) (v:=.ref p) sA hp3 d0 ⟨p,a,b,d,rfl,s3 _ _ g2,d1.mono (dh sA),d2.mono (dh sA),d3.mono (dh sA)⟩ ⟨P.wt _ (by simp),P.wt _ (by simp),P.wt _ (by simp)⟩ (by simp[T.size,fE];lia)⟩⟩;simp
theorem zM(P:lE S H₀ H n l (us++[a,b]) (ta++[t1,t2]))(hn:n≤1000)(d0:gJ H ta us)(d1:gN H t1 a)(d2:gN H t2 b)(hli:H li=some (.lst (zs++[a,b])))(hD:∀σ H,C4 S H₀ c st (n+1) σ H→D.nx σ H):
  A0 K D [some (.ref c),some (.ref st),some (.ref l),some (.int cell),some (.int rest),some (.int way),some (.str x),some (.ref li),j8,j9,j10,j11,j12] H:=by
 refine⟨eJ.of P.at_,λq hq=>?_⟩;rw[show(-2:Int)=-((2:Nat):Int)from rfl,oV _ 2 (by decide),show(us++[a,b]).length-2=us.length by simp,cH];have s1:=dX (o:=.lst us) hq;have g1:(upd H q (.lst us)) q=some (.lst us):=dR;generalize upd H q (.lst us)=G1 at s1 g1⊢;refine⟨fM,et λq1 G1b hq1 s1b g1b=>?_⟩;have sB:=s1.trans s1b;have hw:0≤way%2∧way%2<2:=by lia
 obtain⟨u,hu,e⟩:=nU (xs:=[V.str "sum",V.str "less"]) hw.1 hw.2;refine⟨(show(0:Int)<2 by decide),eJ.of g1b,e,?_⟩;refine⟨eJ.of (sB _ _ hli),vP zs a b,eJ.of (sB _ _ hli),ql zs a b,fM,et λp G2 hp s2 g2=>?_⟩;refine⟨fM,et λq2 G3 hq2 s3 g3=>?_⟩;have sA:=sB.trans (s2.trans s3);have hl:(us++[a,b]).length≤n:=by rw[P.den.length];exact aY (fC _) P.sz
 rw[aD]at hl;have e1:=d1.mono (dh sA);have e2:=d2.mono (dh sA);have w1:WG S t1:=P.wt _ (by simp);have w2:WG S t2:=P.wt _ (by simp);refine⟨s3 _ _ (s2 _ _ (s1b _ _ g1)),g3,by rw[sizeLine_eq];simp;lia,λp3 hp3=>?_⟩;rcases aB.mp hu with rfl|hu
 ·exact hD _ _ ⟨p3,us++[.ref p],ta++[.sum t1 t2],_,_,_,_,_,_,_,_,_,_,rfl,P.fold (t:=.sum t1 t2) (v:=.ref p) sA hp3 d0 ⟨p,a,b,rfl,s3 _ _ g2,e1,e2⟩ ⟨w1,w2⟩ (by simp[T.size,fE])⟩
 ·rw[aG]at hu;subst hu;exact hD _ _ ⟨p3,us++[.ref p],ta++[.less t1 t2],_,_,_,_,_,_,_,_,_,_,rfl,P.fold (t:=.less t1 t2) (v:=.ref p) sA hp3 d0 ⟨p,a,b,rfl,s3 _ _ g2,e1,e2⟩ ⟨w1,w2⟩ (by simp[T.size,fE])⟩
 all_goals simp
end
theorem we(h:(if false=true then !rS (V.str (kind t)) [V.str "sum",V.str "less"]else rS (V.str (kind t)) [V.str "sum",V.str "less"])=true):(∃a b,t=.sum a b)∨∃a b,t=.less a b:=by
 rw[if_neg aR]at h;cases t with
 | sum a b=>exact .inl ⟨a,b,rfl⟩
 | less a b=>exact .inr ⟨a,b,rfl⟩
 | _=>simp only[kind]at h;exact absurd h (by decide)
section
variable {S:Str→Nat→Prop}{H₀:Hp}{n:Nat}{l c st li:Addr}{ts:List T}{D:iN}{cell rest way:Int}{x:Str}{j8 j9 j10 j11 j12:Option V}
theorem zN(P:lE S H₀ H n l (us++[a,b]) (ta++[t1,t2]))(hn:n≤1000)(d0:gJ H ta us)(d1:gN H t1 a)(d2:gN H t2 b)(hli:H li=some (.lst (zs++[a,b])))(hx:Wg x)(hD:∀σ H,C4 S H₀ c st (n+1) σ H→D.nx σ H):
  xc K D [some (.ref c),some (.ref st),some (.ref l),some (.int cell),some (.int rest),some (.int way),some (.str x),some (.ref li),j8,j9,j10,j11,j12] H:=by
 have w1:WG S t1:=P.wt _ (by simp);have w2:WG S t2:=P.wt _ (by simp);have last:∀(y:Str)(vl:V)(G:Hp),Wg y→dz H G→
   (eG (eC lL (mT (jM K) (dQ 2) fu (gD (mK gU (tC (.int 2))))) (fX (dP (fS (dP (tC (.str "let")) (dP (dQ 6) (dP (eC (gO K) (dQ 7) (mK gU (tC (.int 2)))) (dP (eC (gO K) (dQ 7) (mK gU (tC (.int 1)))) dZ))))) dZ))) (db 2)) D
    [some (.ref c),some (.ref st),some (.ref l),some (.int cell),some (.int rest),some (.int way),some (.str y),some (.ref li),some vl,j9,j10,j11,j12] G:=by
  intro y vl G hy sG;have PG:=P.mono sG;refine⟨eJ.of PG.at_,λq hq=>?_⟩;rw[show(-2:Int)=-((2:Nat):Int)from rfl,oV _ 2 (by decide),show(us++[a,b]).length-2=us.length by simp,cH];have s1:=dX (o:=.lst us) hq;have g1:(upd G q (.lst us)) q=some (.lst us):=dR;generalize upd G q (.lst us)=G1 at s1 g1⊢;have hli1:=s1 _ _ (sG _ _ hli);refine⟨eJ.of hli1,vP zs a b,eJ.of hli1,ql zs a b,fM,et λp G2 hp s2 g2=>?_⟩;refine⟨fM,et λq2 G3 hq2 s3 g3=>?_⟩;have sA:=s1.trans (s2.trans s3);have hl:(us++[a,b]).length≤n:=by rw[P.den.length];exact aY (fC _) P.sz
  rw[aD]at hl;have e1:=(d1.mono (dh sG)).mono (dh sA);have e2:=(d2.mono (dh sG)).mono (dh sA);refine⟨s3 _ _ (s2 _ _ g1),g3,by rw[sizeLine_eq];simp;lia,λp3 hp3=>?_⟩;exact hD _ _ ⟨p3,us++[.ref p],ta++[.lt y t1 t2],_,_,_,_,_,_,_,_,_,_,rfl,PG.fold (t:=.lt y t1 t2) (v:=.ref p) sA hp3 (d0.mono (dh sG)) ⟨p,a,b,rfl,s3 _ _ g2,e1,e2⟩ ⟨hy,w1,w2⟩ (by simp[T.size,fE])⟩;simp
 have rest2:∀(tl:T)(vl:V)(G:Hp),dz H G→gN G tl vl→WG S tl→
   (dq (xf K) (eG (eC lL (mT (jM K) (dQ 2) fu (gD (mK gU (tC (.int 2))))) (fX (dP (fS (dP (tC (.str "let")) (dP (dQ 6) (dP (eC (gO K) (dQ 7) (mK gU (tC (.int 2)))) (dP (eC (gO K) (dQ 7) (mK gU (tC (.int 1)))) dZ))))) dZ))) (db 2))) D
    [some (.ref c),some (.ref st),some (.ref l),some (.int cell),some (.int rest),some (.int way),some (.str x),some (.ref li),some vl,j9,j10,j11,j12] G:=by
  intro tl vl G sG dl wl;obtain⟨pl,ks,rfl,hpl,_⟩:=dl.open;refine⟨eD.of hpl,gx tl ks,rfl,_,rfl,?_⟩;refine jP (λhk=>?_) (λhk=>?_)
  ·obtain⟨y,rfl⟩:=rO (V.str.inj (of_decide_eq_true hk));refine⟨(show(0:Int)<3 by decide),_,rfl,?_⟩;refine jP (λ_=>?_) (λ_=>?_)
   ·exact⟨eD.of hpl,dW (j:=1) rfl,last y _ G wl sG⟩
   ·exact last x _ G hx sG
  ·exact fQ (last x _ G hx sG)
 obtain⟨pb,ks,rfl,hpb,_⟩:=d2.open;refine⟨eJ.of hli,ql zs a _,?_⟩;refine⟨eD.of hpb,gx t2 ks,fM,et λq G1 hq s1 g1=>?_⟩;refine⟨.inl (eJ.of g1),rfl,rfl,_,rfl,?_⟩;refine jP (λhk=>?_) (λhk=>?_)
 ·rcases we hk with⟨a',b',rfl⟩|⟨a',b',rfl⟩
  ·obtain⟨p',u1,u2,e,h3,e1,e2⟩:=d2;cases e;exact⟨eD.of (s1 _ _ h3),rfl,rest2 b' u2 G1 s1 (e2.mono (dh s1)) w2.2⟩
  ·obtain⟨p',u1,u2,e,h3,e1,e2⟩:=d2;cases e;exact⟨eD.of (s1 _ _ h3),rfl,rest2 b' u2 G1 s1 (e2.mono (dh s1)) w2.2⟩
 ·exact rest2 t2 _ G1 s1 (d2.mono (dh s1)) w2
theorem BD(hm:m≤2)(hS:S nm m)(hl:ws.length=m)(d:gJ H tb ws)(wt:∀t∈tb,WG S t)(hp:H p=some (.tup ([.str "stamp",.str nm]++ws))):
  ∃t,gN H t (.ref p)∧WG S t∧t.size=fE tb+1:=by
 cases d with
 | nil=>subst hl;exact⟨.st0 nm,⟨p,rfl,hp⟩,hS,rfl⟩
 | @cons t1 v1 tb ws a r=>
  cases r with
  | nil=>subst hl;exact⟨.st1 nm t1,⟨p,v1,rfl,hp,a⟩,⟨hS,wt _ (by simp)⟩,by simp[T.size,fE]⟩
  | @cons t2 v2 tb ws b r=>
   cases r with
   | nil=>subst hl;exact⟨.st2 nm t1 t2,⟨p,v1,v2,rfl,hp,a,b⟩,⟨hS,wt _ (by simp),wt _ (by simp)⟩,by simp[T.size,fE]⟩
   | cons _ _=>simp at hl;lia
theorem uj(P:lE S H₀ H n l vs ts)(hn:n≤1000)(hst:H st=some (.lst xs))(hxs:xs≠[])(hS:jY S H xs)(hD:∀σ H,C4 S H₀ c st (n+1) σ H→D.nx σ H)(hD0:∀σ H,C4 S H₀ c st n σ H→D.nx σ H):
  xZ K D [some (.ref c),some (.ref st),some (.ref l),some (.int cell),some (.int rest),some (.int way),some (.str x),some (.ref li),j8,j9,j10,j11,j12] H:=by
 have hpos:(0:Int)<(xs.length:Int):=by
  cases xs with
  | nil=>exact absurd rfl hxs
  | cons _ _=>simp
 have hr:=cF rest (Int.ne_of_gt hpos);have hr2:=Int.emod_lt_of_pos rest hpos;obtain⟨v,hv,e⟩:=nU hr hr2;obtain⟨q,nm,m,rfl,hq,hm,hSm⟩:=hS v hv;refine⟨.inl (eJ.of hst),hpos,eJ.of hst,e,eD.of hq,rfl,rfl,?_⟩;refine⟨.inl (eJ.of P.at_),_,_,rfl,?_⟩;refine⟨.inl (eJ.of hst),hpos,eJ.of hst,e,eD.of hq,dW (j:=1) rfl,rfl,_,rfl,?_⟩;refine jP (λhk=>?_) (λhk=>?_)
 ·have hk:(if(vs.length:Int)<(m:Int)then(vs.length:Int)else(m:Int))=m:=V.int.inj (of_decide_eq_true hk);have hml:m≤vs.length:=by
   split at hk
   ·lia
   ·lia
  rw[hk];obtain⟨us,ws,rfl,hws⟩:∃us ws,vs=us++ws∧ws.length=m:=⟨vs.take (vs.length-m),vs.drop (vs.length-m),(cI _ _).symm,by rw[aj];lia⟩;obtain⟨ta,tb,rfl,d0,d1⟩:=P.den.split;have hel:((us++ws).length:Int)-(m:Int)=((us.length:Nat):Int):=by rw[aD];lia
  have hl:(us++ws).length≤n:=by rw[P.den.length];exact aY (fC _) P.sz
  rw[aD]at hl;refine⟨fM,et λq1 G1 hq1 s1 g1=>?_⟩;refine⟨.inl (eJ.of (s1 _ _ P.at_)),eJ.of (s1 _ _ P.at_),λq2 hq2=>?_⟩;rw[hel,lg _ _ (by simp),List.drop_left'];have s2:=dX (o:=.lst ws) hq2;have g2:(upd G1 q2 (.lst ws)) q2=some (.lst ws):=dR;generalize upd G1 q2 (.lst ws)=G2 at s2 g2⊢;refine⟨s2 _ _ g1,g2,by rw[sizeLine_eq];simp;lia,et λq3 G3 hq3 s3 g3=>?_⟩;refine⟨q3,_,rfl,.inl ⟨eJ.of g3,et λq4 G4 hq4 s4 g4=>?_⟩⟩;have sB:=(s1.trans s2).trans (s3.trans s4);refine⟨.inl (eJ.of (sB _ _ P.at_)),eJ.of (sB _ _ P.at_),λq5 hq5=>?_⟩;rw[hel,tj _ _ (by simp),cH];have s5:=dX (o:=.lst us) hq5;have g5:(upd G4 q5 (.lst us)) q5=some (.lst us):=dR;generalize upd G4 q5 (.lst us)=G5 at s5 g5⊢;refine⟨fM,et λq6 G6 hq6 s6 g6=>?_⟩;have sA:=sB.trans (s5.trans s6);obtain⟨t,dt,wt,hs⟩:=BD hm hSm hws (d1.mono (dh sA)) (λt ht=>P.wt t (aS _ ht)) (s6 _ _ (s5 _ _ g4));refine⟨s6 _ _ g5,g6,by rw[sizeLine_eq];simp;lia,λp3 hp3=>?_⟩;exact hD _ _ ⟨p3,us++[.ref q4],ta++[t],_,_,_,_,_,_,_,_,_,_,rfl,P.fold sA hp3 d0 dt wt hs⟩
  all_goals rfl
 ·exact hD0 _ _ ⟨l,vs,ts,_,_,_,_,_,_,_,_,_,_,rfl,P⟩
end
theorem qB:∀{l:List α},2≤l.length→∃us a b,l=us++[a,b]:=λ{l} h=>by
 have hne:l≠[]:=by intro e;subst e;simp at h
 obtain⟨us,b,rfl⟩:=fz hne;have hne:us≠[]:=by intro e;subst e;simp at h
 obtain⟨us,a,rfl⟩:=fz hne;exact⟨us,a,b,by simp⟩
theorem vh:∀{l:List α},3≤l.length→∃us a b c,l=us++[a,b,c]:=λ{l} h=>by
 have hne:l≠[]:=by intro e;subst e;simp at h
 obtain⟨us,c,rfl⟩:=fz hne;obtain⟨us,a,b,rfl⟩:=qB (l:=us) (by simp at h;lia);exact⟨us,a,b,c,by simp⟩
section
variable {S:Str→Nat→Prop}{H₀:Hp}{n:Nat}{l c st li:Addr}{ts:List T}{D:iN}{cell rest way:Int}{x:Str}{j8 j9 j10 j11 j12:Option V}
theorem Bc(P:lE S H₀ H n l vs ts)(hn:n≤1000)(hli:H li=some (.lst (vs.drop (vs.length-3))))(hw:0≤way∧way<9)(hx:Wg x)(hst:H st=some (.lst xs))(hS:jY S H xs)
  (hD:∀σ H,C4 S H₀ c st (n+1) σ H→D.nx σ H):
  sM K D [some (.ref c),some (.ref st),some (.ref l),some (.int cell),some (.int rest),some (.int way),some (.str x),some (.ref li),j8,j9,j10,j11,j12] H:=by
 have hD0:∀σ H,C4 S H₀ c st n σ H→D.nx σ H:=λσ H h=>hD σ H (by
  obtain⟨l,vs,ts,j3,j4,j5,j6,j7,j8,j9,j10,j11,j12,e,P⟩:=h;exact⟨l,vs,ts,j3,j4,j5,j6,j7,j8,j9,j10,j11,j12,e,P.same,P.new,P.at_,P.den,by have:=P.sz;lia,P.one,P.wt⟩)
 have hlen:(vs.drop (vs.length-3)).length=min 3 vs.length:=by rw[aj];lia
 have h1:1≤vs.length:=by
  rw[P.den.length];cases ts with
  | nil=>exact absurd rfl P.one
  | cons _ _=>simp
 have two:2≤vs.length→∃us a b ta t1 t2,vs=us++[a,b]∧ts=ta++[t1,t2]∧gJ H ta us∧gN H t1 a∧gN H t2 b∧∃zs,vs.drop (vs.length-3)=zs++[a,b]:=λh2=>by
  obtain⟨us,a,b,rfl⟩:=qB h2;obtain⟨ta,tb,rfl,d0,d1⟩:=P.den.split;cases d1 with
  | cons e1 r=>
  cases r with
  | cons e2 r=>
  cases r;refine⟨us,a,b,ta,_,_,rfl,rfl,d0,e1,e2,us.drop (us.length-1),?_⟩;rw[show(us++[a,b]).length-3=us.length-1 by simp,List.drop_append_of_le_length (by lia)]
 have other:way≠0→((vs.drop (vs.length-3)).length=1→¬(2<way∧way<7))→
   xX K D [some (.ref c),some (.ref st),some (.ref l),some (.int cell),some (.int rest),some (.int way),some (.str x),some (.ref li),j8,j9,j10,j11,j12] H:=by
  intro h0 hno;have hge:2<way→way<7→2≤vs.length:=λa b=>by
   rcases bM vs.length 2 with z|z
   ·exact absurd ⟨a,b⟩ (hno (by rw[hlen];lia))
   ·exact z
  refine⟨_,rfl,?_⟩;refine jP (λh3=>wI P hn hx hD) (λh3=>?_);have h3:¬way<3:=λz=>h3 (decide_eq_true z);have low:xY K D [some (.ref c),some (.ref st),some (.ref l),some (.int cell),some (.int rest),some (.int way),some (.str x),some (.ref li),j8,j9,j10,j11,j12] H:=by
   refine⟨_,rfl,?_⟩;refine jP (λh6=>?_) (λh6=>?_)
   ·have h6:way<6:=of_decide_eq_true h6;obtain⟨us,a,b,ta,t1,t2,rfl,rfl,d0,d1,d2,zs,ez⟩:=two (hge (by lia) (by lia));rw[ez]at hli;exact zM P hn d0 d1 d2 hli hD
   ·have h6:¬way<6:=λz=>h6 (decide_eq_true z);refine⟨rfl,_,rfl,?_⟩;refine jP (λh7=>?_) (λh7=>?_)
    ·have h7:way=6:=V.int.inj (of_decide_eq_true h7);obtain⟨us,a,b,ta,t1,t2,rfl,rfl,d0,d1,d2,zs,ez⟩:=two (hge (by lia) (by lia));rw[ez]at hli;exact zN P hn d0 d1 d2 hli hx hD
    ·refine⟨fM,et λe G he s1 g1=>?_⟩;refine⟨eJ.of (s1 _ _ hst),eJ.of g1,_,rfl,?_⟩;have hSG:jY S G xs:=λv hv=>by obtain⟨q,nm,m,e1,e2,e3⟩:=hS v hv;exact⟨q,nm,m,e1,s1 _ _ e2,e3⟩
     refine jP (λhk=>?_) (λhk=>?_)
     ·exact uj (P.mono s1) hn (s1 _ _ hst) (by intro z;subst z;cases hk) hSG hD hD0
     ·exact hD0 _ _ ⟨l,vs,ts,_,_,_,_,_,_,_,_,_,_,rfl,P.mono s1⟩
  refine⟨rfl,_,rfl,?_⟩;refine jP (λh5=>?_) (λh5=>fQ low);refine⟨.inl (eJ.of hli),rfl,_,rfl,?_⟩;refine jP (λhl3=>?_) (λhl3=>low);have hl3:(((vs.drop (vs.length-3)).length:Nat):Int)=3:=V.int.inj (of_decide_eq_true hl3);obtain⟨us,a,b,d,rfl⟩:=vh (l:=vs) (by lia);obtain⟨ta,tb,rfl,d0,d1⟩:=P.den.split;cases d1 with
  | cons e1 r=>
  cases r with
  | cons e2 r=>
  cases r with
  | cons e3 r=>
  cases r;rw[show(us++[a,b,d]).length-3=us.length by simp,List.drop_left']at hli;exact su P hn d0 e1 e2 e3 hli hD;rfl
 refine⟨rfl,_,rfl,?_⟩;refine jP (λh0=>qc (m6 P hn hD)) (λh0=>?_);have h0:way≠0:=λz=>h0 (by rw[z];exact decide_eq_true rfl);refine⟨.inl (eJ.of hli),rfl,_,rfl,?_⟩;refine jP (λhl1=>?_) (λhl1=>?_)
 ·refine⟨_,rfl,?_⟩;refine jP (λh2=>⟨_,rfl,?_⟩) (λh2=>⟨_,rfl,?_⟩)
  ·refine jP (λ_=>m6 P hn hD) (λh7=>?_);exact other h0 λ_ z=>h7 (decide_eq_true z.2)
  ·exact fQ (other h0 λ_ z=>h2 (decide_eq_true z.1))
 ·refine fQ (other h0 λz=>?_);exact absurd (decide_eq_true (congrArg V.int (by rw[z];rfl))) hl1
theorem wH(P:lE S H₀ H n l vs ts)(hn:n≤1000)(hst:H st=some (.lst xs))(hS:jY S H xs)(hD:∀σ H,C4 S H₀ c st (n+1) σ H→D.nx σ H):
  xW K D [some (.ref c),some (.ref st),some (.ref l),some (.int cell),j4,j5,j6,j7,j8,j9,j10,j11,j12] H:=by
 refine⟨⟨by decide,by decide⟩,(show(0:Int)<9 by decide),fM,λq hq=>?_⟩;have hw:0≤cell%9∧cell%9<9:=by lia
 have s1:=dX (o:=.lst [.str "sab",.str "tab",.str "sob",.str "sat"]) hq;have g1:(upd H q (.lst [.str "sab",.str "tab",.str "sob",.str "sat"])) q=some (.lst [.str "sab",.str "tab",.str "sob",.str "sat"]):=dR;generalize upd H q (.lst [.str "sab",.str "tab",.str "sob",.str "sat"])=G at s1 g1⊢;have h4:0≤(cell / 9)%4∧(cell / 9)%4<4:=by lia
 obtain⟨v,hv,e⟩:=nU (xs:=[V.str "sab",V.str "tab",V.str "sob",V.str "sat"]) h4.1 h4.2;obtain⟨x,rfl,hx⟩:=DL hv;refine⟨(show(0:Int)<4 by decide),eJ.of g1,e,?_⟩;have PG:=P.mono s1;have hSG:∀{G'},dz G G'→jY S G' xs:=λ{G'} s v hv=>by obtain⟨q,nm,m,e1,e2,e3⟩:=hS v hv;exact⟨q,nm,m,e1,s _ _ (s1 _ _ e2),e3⟩
 have go:∀y,Wg y→(dq (eG (mT (jM K) (dQ 2) (gD (mK gU (tC (.int 3)))) fu) (db 7)) (sM K)) D [some (.ref c),some (.ref st),some (.ref l),some (.int cell),some (.int (cell / 9)),some (.int (cell%9)),some (.str y),j7,j8,j9,j10,j11,j12] G:=by intro y hy;refine⟨eJ.of PG.at_,λli hli=>?_⟩;rw[show(-3:Int)=-((3:Nat):Int)from rfl,Cj _ 3 (by decide)];have s2:=dX (o:=.lst (vs.drop (vs.length-3))) hli;exact Bc (PG.mono s2) hn dR hw hy (s2 _ _ (s1 _ _ hst)) (hSG s2) hD
 refine⟨(show(0:Int)<29 by decide),rfl,_,rfl,?_⟩;refine jP (λ_=>?_) (λ_=>go x hx);refine⟨⟨by decide,by decide⟩,_,rfl,λy hy=>?_⟩;refine⟨?_,go _ (Lu hy.1 hy.2)⟩;have:(("k":Str)).length=1:=by decide
 have:=hy.2;rw[sizeLine_eq];lia
structure NM(S:Str→Nat→Prop)(H₀ H:Hp)(n:Nat)(l:Addr)(vs:List V)(ts:List T):Prop where
 same:dz H₀ H
 new:H₀ l=none
 at_:H l=some (.lst vs)
 den:gJ H ts vs
 sz:fE ts+ts.length≤2*n
 nm:fh ts≤n
 one:ts≠[]
 wt:∀t∈ts,WG S t
theorem oj:∀ts:List T,fh ts≤fE ts
 | []=>aC _
 | t::ts=>by have h:=oj ts;have h2:=t.names_len;simp only[fh,fE,aX,cJ]at *;lia
inductive Nc(S':Str→Nat→Prop)(H:Hp)(c st:Addr)(ns:List Int):Nat→St→Hp→Prop where
 | mk{l:Addr}{vs:List V}{ts:List T}{j3 j4 j5 j6 j7 j8 j9 j10 j11 j12:Option V}{H':Hp}(h:NM S' H H' (ns.length+1) l vs ts):Nc S' H c st ns ts.length [some (.ref c),some (.ref st),some (.ref l),j3,j4,j5,j6,j7,j8,j9,j10,j11,j12] H'
theorem IP(h:qL K S S' vs H Q E):MQ K (gr Q) (start ["_law_cells","_law_stamps","_law_pile","_law_cell","_law_rest","_law_way","_law_word","_law_inner","_law_look","_law_name","_law_many","_law_made","_law_last"] vs) H:=by
 obtain⟨c,st,ns,xs,rfl,hc,hns,hst,hxl,hS,hSS,k⟩:=h;refine⟨fM,λp hp=>⟨fM,λl hl=>?_⟩⟩;have s1:=dX (o:=.tup [.str "name",.str "sab"]) hp;have s2:=dX (o:=.lst [.ref p]) hl;have P0:lE S H (upd (upd H p (.tup [.str "name",.str "sab"])) l (.lst [.ref p])) 1 l [.ref p] [.name "sab"]:=
  ⟨s1.trans s2,s1.free hl,dR,.cons ⟨p,rfl,s2 _ _ dR⟩ .nil,by simp[fE,T.size],by simp,λt ht=>by rw[aG]at ht;subst ht;exact AN⟩
 refine⟨(s1.trans s2).seq hc,gY (K:=K) (a:=c) (xs:=ns.map V.int) (λi σ H2=>C4 S H c st (i+1) σ H2) ⟨l,_,_,_,_,_,_,_,_,_,_,_,_,rfl,P0⟩ (λi σ H2 _ hN=>?_) ?_ ?_⟩
 ·obtain⟨l,vs,ts,j3,j4,j5,j6,j7,j8,j9,j10,j11,j12,e,P⟩:=hN;exact P.same.seq hc
 ·rintro i y σ H2 hi ⟨l,vs,ts,j3,j4,j5,j6,j7,j8,j9,j10,j11,j12,rfl,P⟩;have hil:i<(ns.map V.int).length:=(aN.mp hi).1;rw[aT]at hil;obtain⟨z,rfl⟩:∃z,y=V.int z:=by
   rw[ae]at hi;cases e:ns[i]? with
   | none=>rw[e]at hi;cases hi
   | some z=>rw[e]at hi;exact⟨z,(Option.some.inj hi).symm⟩
  refine wH P (by lia) (P.same _ _ hst) (λv hv=>?_) (λσ H h=>h);obtain⟨q,nm,m,e1,e2,e3⟩:=hS v hv;exact⟨q,nm,m,e1,P.same _ _ e2,e3⟩
 ·rintro σ H2 ⟨l,vs,ts,j3,j4,j5,j6,j7,j8,j9,j10,j11,j12,rfl,P⟩;rw[aT]at P;refine⟨Nc S' H c st ns,⟨_,.mk (vs:=vs) (ts:=ts) ?_⟩,?_⟩
  ·refine⟨P.same,P.new,P.at_,P.den,?_,?_,P.one,λt ht=>hSS t (aY (rM ht) P.sz) (P.wt t ht)⟩
   ·have:=fC ts;have:=P.sz;lia
   ·have:=oj ts;have:=P.sz;lia
  ·clear P j3 j4 j5 j6 j7 j8 j9 j10 j11 j12;rintro m σ H3 @⟨l,vs,ts,j3,j4,j5,j6,j7,j8,j9,j10,j11,j12,_,A⟩;refine⟨.inl (eJ.of A.at_),_,rfl,?_⟩;refine jP (λh1=>?_) (λh1=>?_)
   ·have h1:(1:Int)<(vs.length:Int):=of_decide_eq_true h1;obtain⟨us,a,b,rfl⟩:=qB (l:=vs) (by lia);obtain⟨ta,tb,rfl,d0,d1⟩:=A.den.split;cases d1 with
    | @cons t1 _ _ _ e1 r=>
    cases r with
    | @cons t2 _ _ _ e2 r=>
    cases r;refine⟨Lt (Nc S' H c st ns) ((ta++[t1,t2]).length),λ_ _ h=>h,?_⟩;have ha:=A.at_;rw[show us++[a,b]=(us++[a])++[b] by simp]at ha;refine⟨.inl ⟨rfl,_,eJ.of ha⟩,ha,jN,?_⟩;rw[iX];have tl1:=fP (o:=.lst (us++[a])) ha;have sO:=eI (o:=.lst (us++[a])) A.same A.new;have g1:(upd H3 l (.lst (us++[a]))) l=some (.lst (us++[a])):=dR;generalize upd H3 l (.lst (us++[a]))=G1 at tl1 sO g1⊢;refine⟨.inl ⟨rfl,_,eJ.of g1⟩,.inl ⟨rfl,_,eJ.of g1⟩,g1,jN,?_⟩;rw[iX];have tl2:=fP (o:=.lst us) g1;have sO2:=eI (o:=.lst us) sO A.new;have g2:(upd G1 l (.lst us)) l=some (.lst us):=dR;generalize upd G1 l (.lst us)=G2 at tl2 sO2 g2⊢;refine⟨fM,et λp G3 hp s3 g3=>?_⟩;have hlen:=d0.length;have hsz:=A.sz;rw[fK,aD]at hsz;have hq:=fC ta;have tl4:=fP (o:=.lst (us++[.ref p])) (s3 _ _ g2);have tlA:=tl1.trans (tl2.trans ((dh s3).trans tl4));refine⟨s3 _ _ g2,by rw[sizeLine_eq];lia,(ta++[T.sum t1 t2]).length,by simp,.mk ⟨eI (sO2.trans s3) A.new,A.new,dR,(d0.mono tlA).append (.cons (show gN _ (T.sum t1 t2) (.ref p)from⟨p,a,b,rfl,tl4 _ _ g3,e1.mono tlA,e2.mono tlA⟩) .nil),?_,?_,by simp,λt ht=>?_⟩⟩
    ·rw[fK,aD];simp[fE,T.size]at hsz⊢;lia
    ·have:=A.nm;rw[jd]at this⊢;simp[fh,T.names]at this⊢;lia
    ·rcases aW.mp ht with z|z
     ·exact A.wt t (ag _ z)
     ·rw[aG]at z;subst z;exact⟨A.wt _ (by simp),A.wt _ (by simp)⟩
   ·have h1:¬(1:Int)<(vs.length:Int):=λz=>h1 (decide_eq_true z);have hlen:=A.den.length;obtain⟨t,rfl⟩:∃t,ts=[t]:=by
     cases ts with
     | nil=>exact absurd rfl A.one
     | cons t ts=>
      cases ts with
      | nil=>exact⟨t,rfl⟩
      | cons _ _=>simp at hlen;lia
    obtain⟨v,rfl⟩:∃v,vs=[v]:=by
     cases A.den with
     | cons a r=>cases r;exact⟨_,rfl⟩
    have d1:gN H3 t v:=by cases A.den with|cons a r=>exact a
    have hsz:=A.sz;have hnm:=A.nm;refine⟨eJ.of A.at_,rfl,k t v H3 A.same d1 (A.wt t (by simp)) ?_ ?_⟩
    ·simp[fE]at hsz;lia
    ·simp[fh]at hnm;lia
end
theorem La(h:qJ K vs H Q E):HA K vT (gr Q) (start ["_law_cells"] vs) H:=by
 obtain⟨c,ns,rfl,hc,hns,k⟩:=h;refine⟨fM,λq1 h1=>⟨fM,λq2 h2=>⟨fM,λq3 h3=>⟨fM,λq4 h4=>⟨fM,λl hl=>?_⟩⟩⟩⟩⟩;have s1:=dX (o:=.tup [.str "st",.int 2]) h1;have g1:(upd H q1 (.tup [.str "st",.int 2])) q1=some (.tup [.str "st",.int 2]):=dR;generalize upd H q1 (.tup [.str "st",.int 2])=G1 at *;have s2:=dX (o:=.tup [.str "sta",.int 1]) h2;have g2:(upd G1 q2 (.tup [.str "sta",.int 1])) q2=some (.tup [.str "sta",.int 1]):=dR;generalize upd G1 q2 (.tup [.str "sta",.int 1])=G2 at *;have s3:=dX (o:=.tup [.str "st",.int 2]) h3;have g3:(upd G2 q3 (.tup [.str "st",.int 2])) q3=some (.tup [.str "st",.int 2]):=dR;generalize upd G2 q3 (.tup [.str "st",.int 2])=G3 at *;have s4:=dX (o:=.tup [.str "star",.int 0]) h4;have g4:(upd G3 q4 (.tup [.str "star",.int 0])) q4=some (.tup [.str "star",.int 0]):=dR;generalize upd G3 q4 (.tup [.str "star",.int 0])=G4 at *;have s5:=dX (o:=.lst [.ref q1,.ref q2,.ref q3,.ref q4]) hl;have g5:(upd G4 l (.lst [.ref q1,.ref q2,.ref q3,.ref q4])) l=some (.lst [.ref q1,.ref q2,.ref q3,.ref q4]):=dR;generalize upd G4 l (.lst [.ref q1,.ref q2,.ref q3,.ref q4])=G5 at *;have sA:=(s1.trans s2).trans ((s3.trans s4).trans s5);refine⟨c,l,ns,_,rfl,sA.seq hc,hns,g5,by simp,λx hx=>?_,λt v H' s d w a b=>k t v H' (sA.trans s) d w a b⟩;rcases aB.mp hx with rfl|hx
 ·exact⟨q1,"st",2,rfl,s5 _ _ (s4 _ _ (s3 _ _ (s2 _ _ g1))),by decide,.inl ⟨rfl,rfl⟩⟩
 rcases aB.mp hx with rfl|hx
 ·exact⟨q2,"sta",1,rfl,s5 _ _ (s4 _ _ (s3 _ _ g2)),by decide,.inr (.inl ⟨rfl,rfl⟩)⟩
 rcases aB.mp hx with rfl|hx
 ·exact⟨q3,"st",2,rfl,s5 _ _ (s4 _ _ g3),by decide,.inl ⟨rfl,rfl⟩⟩
 rcases aB.mp hx with rfl|hx
 ·exact⟨q4,"star",0,rfl,s5 _ _ g4,by decide,.inr (.inr ⟨rfl,rfl⟩)⟩
 ·cases hx
end SW
namespace L2
open PySem PySem.Spec PyProof.Rows
section
variable {X:Cx}
end
section
variable {prog:Program}{w:World}{A:Around}{E:Value→Shared→Prop}{s:Shared}{κ:Type}[DecidableEq κ]{knd:KeyKind prog w κ}{d:Addr}{kvs:List (κ×Value)}{ep:Nat}
theorem tu(lo:(d==sysModules)=false)(hh:A.handled=none)(da:s.heap.DictAt knd d kvs ep)(hn:kvs.length≤sizeLine)
  (h:∀h' tk acc,(∀b o,s.heap.get? b=some o→h'.get? b=some o)→s.heap.objs.size<h'.objs.size→ItemsOf (λi v=>∃k x,kvs[i]?=some (k,x)∧knd.is k v=true) acc kvs.length→Q acc.toList {s with heap:=h',toks:=tk}):
  wpAny (model prog w) A (collect (.ref d)) Q E s:=by
 unfold collect;refine wpAny_bind (wpAny_runValue (codeAny_builtin entry_proto_collect' ?_));show wpAny _ _ (do again (.builtin "list.__iadd__" ⟨[← newList [],.ref d],[]⟩)) _ _ s;refine wpAny_bind (wpAny_newList (wpAny_pure ⟨Code.quiet_builtin _ (by decide),codeAny_builtin entry_list_iadd' ?_⟩));show wpAny _ _ (Builtin.List.listExtendWith (.ref s.heap.objs.size) (.ref d) (.ref s.heap.objs.size)) _ _ {s with heap:=s.heap.push (seqObj "list" #[] 0)};rw[Around.under_plainId (by decide) _];have hlt:=da.lt_size;have up:∀b o,s.heap.get? b=some o→(s.heap.push (seqObj "list" #[] 0)).get? b=some o:=λb o e=>Heap.get?_push_of_some _ e;have key:=PySem.W.kdl_extend (A:=A) (R:=λr s'=>match r with
   | .ok (.ret v)=>wpAny (model prog w) A (match v with
     | .ref a=>do
      let o ← load a
      match o.data with
      | .seq xs _=>pure xs.toList
      | _=>unsupported "internal:collect"
     | _=>unsupported "internal:collect") Q E s'
   | .ok _=>False
   | .error e=>E e s') (PySem.W.kdl_dict (knd:=knd) lo) hh (s:={s with heap:=s.heap.push (seqObj "list" #[] 0)}) (da.push _) s.heap.objs.size (bD hlt) (bD hlt) (.ref s.heap.objs.size) 0 (Heap.get?_push_size _ rfl) (λh' tk acc c hk hS hacc=>?_) hn
 ·refine wpAny_mono key (λf s' h=>?_) λe s' h=>h;cases f with
  | done f=>exact h
  | again c=>exact h
 ·refine wpAny_bind (wpAny_load hS ?_);exact wpAny_pure (h h' tk acc (λb o e=>hk b o (aM (Heap.lt_size e)) (up b o e)) (Heap.lt_size hS) hacc)
end
section
variable {X:Cx}
theorem tw(hh:X.calm=true):lI X (.builtin "sorted") (λxs H Q=>∃a kvs ws,xs=[.ref a]∧Rd H a (.dK kvs)∧mP kvs=ws.map V.str∧ws.length<64∧∀p ws',H p=none→ws'.Perm ws→sortedS ws'=true→Q (.ref p) (upd H p (.lst (ws'.map V.str)))):=by
 intro pins s σ H xs us Q I r h;obtain⟨a,kvs,ws,rfl,ha,ek,hl,q⟩:=h;obtain⟨u,rfl,ru⟩:=lT r;cases ru;obtain⟨z,hd,vs,rel,dd⟩:=nN I.hok ha;obtain⟨ep,da⟩:=dd.dictAt;have hA:=I.ok.hd hh;refine Calls.call_function_entry PyProof.Rows.kind_sorted PyProof.Rows.plain_sorted PyProof.Rows.entry_sorted (PyProof.Rows.args_sorted1 _) ?_;unfold Builtin.«sorted»;refine wpAny_bind (m:=checkCount "sorted" 1 1 _) (wpAny_pure ?_);refine wpAny_bind (tu hd hA da (by rw[←rel.length];exact z) λh' tk acc keep hsz hacc=>?_);have hv:=zf rel hacc;rw[ek]at hv;have hS:=xo hv;have hlen:acc.toList.length<64:=by rw[←hv.length];simpa using hl
 refine wpAny_bind (wpAny_newList ?_);have hoL:(h'.push (seqObj "list" acc.toList.toArray 0)).get? h'.objs.size=some (seqObj "list" acc.toList.toArray 0):=Heap.get?_push_size _ rfl;refine wpAny_bind (wpAny_holding (wpAny_call_entry slot_list_sort ⟨_,hoL,rfl⟩ entry_list_sort (list_sort_treeK strKind_oneLt (s:={s with heap:=h'.push (seqObj "list" acc.toList.toArray 0),toks:=tk}) hoL hS.keysOf (λv₁ v₂ rest e=>keyKind_strs (by rw[←e];exact hS)) hlen λst' a1 a2=>⟨_,rfl,?_⟩) (args_list_sort _)));refine wpAny_pure ⟨_,rfl,?_⟩;obtain⟨ss',b1,b2,b3⟩:=sorted_out_str hS a1 a2;obtain⟨e,he⟩:=sortedHeap_at (out:=(arrOf st').map (·.2)) hoL;have hl2:ss'.length<64:=by rw[b2.length_eq];exact hl
 have hn:H h'.objs.size=none:=I.hok.fresh (bO hsz);refine⟨.ref h'.objs.size,_,I.laid (a:=h'.objs.size) (o:=.lst (ss'.map V.str)) (t':=tk) (λb o q=>?_) (bO hsz) ⟨by rw[aT,sizeLine_eq];omega,((arrOf st').map (·.2)).toList,e,yF b1,he⟩,rfl,q _ ss' hn b2 b3⟩;have hb:=Heap.lt_size q;rw[sortedHeap_old (aM (cX hb hsz)) (by rw[Heap.size_push];exact cf (cX hb hsz))];exact Heap.get?_push_of_some _ (keep b o q)
end
section
variable {X:Cx}{pins:List (Addr×Obj)}{σ:St}{H H':Hp}{s s':Shared}{ea:Addr}{cls a0:Value}{B:Heap}
end
section
variable {P:Program}{w:World}{K:aA}{mg:Str→Option Value}{base:Heap}{N:List Str}{qual:Str}{scope:Scope}{f:Addr}{cd:Value}{A:Around}{outer:List Env}{s:Shared}{H:Hp}{E E':XK}
end
section
variable {X:Cx}{pins:List (Addr×Obj)}{σ:St}{H H':Hp}{s s':Shared}{ea:Addr}{oe:Obj}{cls a0:Value}{B:Heap}
end
section
variable {X:Cx}{k:Nat}{f:Addr}{fd:FuncData}{ps:List Str}{sp:Sp}{x:Str}{p pos cpos:Pos}{e:Expr}{es:List Expr}{t:TA}
end
section
variable {X:Cx}{st b₀:Stmt}{suite:List Stmt}{c:Str}{C:Addr}{np hpos pos:Pos}{tb:(St→XK)→TS}{th:TS}
end
end L2
namespace PySem.W
open PySem PySem.Spec PySem.Calls PyProof.Rows Builtin Builtin.ObjectAttr Builtin.Getset_descriptor
section
variable {prog:Program}{w:World}{A:Around}{E:Value→Shared→Prop}{K:Frag}{h:Heap}{g:Array GenState}{d:Drawn}{t:Nat}{os:OsState}{a D:Addr}{o:Obj}
end
end PySem.W
namespace L2
open PySem PySem.Spec PyProof.Rows
section
variable {X:Cx}{ea:Addr}{oe:Obj}{D:Addr}
end
section
variable {X:Cx}{pins:List (Addr×Obj)}{σ:St}{H:Hp}{s:Shared}
end
section
variable {X:Cx}{st b₀:Stmt}{suite:List Stmt}{c n:Str}{C CN:Addr}{j:Nat}{np hpos pos:Pos}{tb:(St→XK)→TS}{th:Addr→TS}
end
def nX(K:aA)(a:Addr)(n:Nat):It:=
 ⟨λi H=>i<n∧∃xs x,eJ K H a xs∧xs.length=n∧xs[n-1-i]?=some x,λi H x H'=>H'=H∧∀xs,eJ K H a xs→xs[n-1-i]?=some x,λi _=>i=n⟩
theorem AU{P:Program}{w:World}{K:aA}{tg:Expr}(a it:Addr)(n:Nat):vR P w K tg (nX K a n) [it] it (λi h=>h.IsRevIter it a ((n:Int)-1-i)) where
 mem:=by simp
 obj:=λi h st b hb=>by
  have e:b=it:=by simpa using hb
  subst e;obtain⟨o,e,c,d⟩:=st;exact⟨o,e,λv z=>by rw[d]at z;cases z⟩
 keep:=λi h h' st k=>st.at λo e=>k it (by simp) o e
 item:=by
  intro X hP hw hK hc i pins s σ H E I hf st hg;subst hP hw hK;obtain⟨hi,xs,x,hq,hl,hx⟩:=hg;obtain⟨its,rv,p,hz⟩:=I.list hq;obtain⟨u,hu,ru⟩:=rv.get hx;obtain⟨f0,f1,f2,f3,f4,f5⟩:=hf it (by simp);have e1:(n:Int)-1-i=((n-1-i:Nat):Int):=by lia
  have st1:s.heap.IsRevIter it a ((n-1-i:Nat):Int):=by rw[←e1];exact st
  refine wpAny_pyNext_rev_item st1 p.isList (x:=u) (by simpa using hu) λh' st' sb=>?_;have I1:eZ X pins σ H {s with heap:=h'}:=I.turned (t':=s.toks) (λb o hb e=>(sb.2 b hb).trans e) f0 f1 f3 f4 f5;obtain⟨o,e,c,d⟩:=id st';have e2:((n-1-i:Nat):Int)-1=(n:Int)-1-(i+1:Nat):=by lia
  exact⟨u,rfl,vA (s:={s with heap:=h'}) e c d (by decide) ⟨x,H,I1,ru,⟨rfl,λys hy=>by rw[I.list_inj hy hq];exact hx⟩,by rw[←e2];exact st',λb hb=>(hf b hb).1⟩⟩
 done:=by intro X hP hw hK hc i pins s σ H E I hf st hg;subst hP hw hK;obtain rfl:i=n:=hg;obtain⟨f0,f1,f2,f3,f4,f5⟩:=hf it (by simp);have st1:s.heap.IsRevIter it a (-1):=(show(i:Int)-1-i=-1 by lia)▸st;exact wpAny_pyNext_rev_end (I.ok.hd hc) st1 λh' eb=>⟨rfl,I.turned (t':=s.toks) (λb o hb e=>eb b o hb e) f0 f1 f3 f4 f5⟩
 self:=λ_ _ _ _ _ st h=>wpAny_pyIter_revIter st h
def CV(K:aA)(tl:TE):TI:=λσ H R=>tl σ H λx H1=>onR x λa=>lP (eJ K H1 a) λxs=>R (nX K a xs.length) H1
theorem ox:bootBuiltins "reversed"=some (.type "reversed"):=by decide
section
variable {X:Cx}{tg:Expr}
theorem wN{l:Expr}{tl:TE}{np pos:Pos}(hg:Gl X "reversed")(hm:X.mg "reversed"=none)(hl:PE X l tl)(he:starEach [l] X.env=[(false,eval l X.env)]:=by rfl):PI X tg (.Call (.Name "reversed" np) [l] [] pos) (CV X.K tl):=by
 intro pins s σ H R I h;refine wpAny_Call_Name_kw (kO I hg hm ox ?_);have he':starEach (l::[]) X.env=(false,eval l X.env)::starEach [] X.env:=he;refine bP (thn ((eA hl fZ he':PA X [l] (dP tl dZ)) pos pins s σ H (λvs H1=>on1 vs λx=>onR x λa=>lP (eJ X.K H1 a) λxs=>R (nX X.K a xs.length) H1) I h) λus s1 ⟨vs,H1,I1,r1,q1⟩=>?_) he' (by rfl)
 ·obtain⟨_,rfl,q1⟩:=on1.ex q1;obtain⟨a,rfl,q1⟩:=onR.ex q1;obtain @⟨xs,hq,q⟩:=q1;obtain⟨u,rfl,ru⟩:=lT r1;cases ru;obtain⟨its,rv,p,hz⟩:=I1.list hq;refine call_reversed_list p.isList ?_;refine wpAny_pyIter_revIter (l:=a) (i:=(xs.length:Int)-1) ⟨_,Heap.get?_push_size _ rfl,rfl,by simp[revObj,rv.length]⟩ ?_;refine⟨s1.heap.objs.size,[s1.heap.objs.size],_,_,H1,rfl,I1.kept (t':=s1.toks) λb o e=>Heap.get?_push_of_some _ e,AU a _ xs.length,⟨_,Heap.get?_push_size _ rfl,rfl,by simp[revObj,rv.length]⟩,λb hb=>?_,q⟩;have e:b=s1.heap.objs.size:=by simpa using hb
  subst e;exact I1.fpOk (aC _) (I1.hok.fresh (aC _))
end
end L2
namespace L2
open PySem PySem.Spec PyProof.Rows SW
section
variable {X:Cx}{pins:List (Addr×Obj)}{σ:St}{H:Hp}{s:Shared}
theorem rY(h:(∃n,x=.int n)∨∃w,x=.str w)(r1:fT x u1)(r2:fT x u2):SeqAt.EqAt A s u1 u2 true:=by
 rcases h with⟨n,rfl⟩|⟨w,rfl⟩
 ·obtain⟨t1,rfl⟩:=r1;obtain⟨t2,rfl⟩:=r2;have:=SeqAt.EqAt.int_int (A:=A) (s:=s) n t1 n t2;simpa using this
 ·obtain⟨t1,rfl⟩:=r1;obtain⟨t2,rfl⟩:=r2;have:=SeqAt.EqAt.str_str (A:=A) (s:=s) w t1 w t2;simpa using this
theorem qZ{t k:T}(h:k∈t.kids):k.size<t.size:=by
 have h1:=jL t;have h2:k.size≤fE t.kids:=by
  unfold fE;generalize t.kids=l at h;induction l with
  | nil=>cases h
  | cons a r ih=>
   rcases aB.mp h with rfl|h
   ·simp
   ·have:=ih h;simp only[aX,cJ];lia
 lia
theorem pW:∀{ts:List T}{us:List V}{i:Nat}{x:V},gJ H ts us→us[i]?=some x→∃t,ts[i]?=some t∧gN H t x
 | _,_,0,_,.cons a r,h=>by cases h;exact⟨_,rfl,a⟩
 | _,_,i+1,_,.cons a r,h=>pW (i:=i) r h
end
section
variable {X:Cx}
end
end L2
namespace L2
open PySem PySem.Spec PyProof.Rows
theorem lX(a b:Int):Builtin.Range.rangeSize a b (-1)=if b<a then a-b else 0:=by unfold Builtin.Range.rangeSize;simp only[show ¬((-1:Int)>0) by decide,if_false];split<;>(try split)<;>simp<;>lia
theorem vp(ha : -(2^62)≤a)(ha':a<2^62)(hb : -(2^62)≤b)(hb':b<2^62):Builtin.Range.small a b (-1)=true:=by
 unfold Builtin.Range.small;rw[lX];simp only[Builtin.Range.rangeFitsLong,bb,Bool.or_eq_true,decide_eq_true_eq,beq_iff_eq,show ¬((-1:Int)>0) by decide,if_false];split
 ·refine⟨⟨⟨⟨by lia,by lia⟩,by lia⟩,by lia⟩,.inr (by lia)⟩
 ·refine⟨⟨⟨⟨by lia,by lia⟩,by lia⟩,by lia⟩,.inl ?_⟩
  first|trivial|rfl
def Jh(hi:Int)(n:Nat):It:=⟨λi _=>i<n,λi H x H'=>H'=H∧x=.int (hi-i),λi _=>n≤i⟩
theorem yn{P:Program}{w:World}{K:aA}{tg:Expr}(it:Addr)(hi:Int)(n:Nat):vR P w K tg (Jh hi n) [it] it (λi h=>IsRangeIter h it (hi+(i:Nat)*(-1)) ((n:Int)-(i:Nat)) (-1)) where
 mem:=by simp
 obj:=λi h st b hb=>by
  have e:b=it:=by simpa using hb
  subst e;exact⟨_,st,λv z=>by
   have z':Data.fields _=Data.cell v:=z;cases z'⟩
 keep:=λi h h' st k=>k it (by simp) _ st
 item:=by intro X hP hw hK hc i pins s σ H E I hf st hg;subst hP hw hK;obtain⟨f0,f1,f2,f3,f4,f5⟩:=hf it (by simp);have W:=Walks.range (prog:=X.prog) (w:=X.w) (I.ok.hd hc) it hi (-1) n;refine W.item i s _ _ hg st λv h' tk hv st' kk=>?_;obtain⟨t,rfl⟩:=hv;have I1:eZ X pins σ H {s with heap:=h',toks:=tk}:=I.turned (λb o hb e=>kk b o (by simpa using hb) e) f0 f1 f3 f4 f5;refine⟨_,rfl,vA (s:={s with heap:=h',toks:=tk}) (n:="range_iterator") st' rfl rfl (by decide) ⟨.int (hi-i),H,I1,⟨t,?_⟩,⟨rfl,rfl⟩,st',λb hb=>(hf b hb).1⟩⟩;rw[show hi+(i:Int)*(-1)=hi-i by lia]
 done:=by intro X hP hw hK hc i pins s σ H E I hf st hg;subst hP hw hK;obtain⟨f0,f1,f2,f3,f4,f5⟩:=hf it (by simp);exact wpAny_pyNext_range_end (I.ok.hd hc) st (by have:n≤i:=hg;lia) λh' eb=>⟨rfl,I.turned (t':=s.toks) (λb o hb e=>eb b o hb e) f0 f1 f3 f4 f5⟩
 self:=λ_ _ _ _ _ st h=>wpAny_pyIter_rangeiter st h
section
variable {X:Cx}{tg:Expr}
theorem wK{pins:List (Addr×Obj)}{σ:St}{H:Hp}{s:Shared}{R:It→Hp→Prop}{E:Value→Shared→Prop}{hi lo:Int}{t u v:Tok}{tk:Nat}(I:eZ X pins σ H s)(h1 : -(2^62)≤hi)(h2:hi<2^62)(h3 : -(2^62)≤lo)(h4:lo<2^62)
  (q:R (Jh hi (hi-lo).toNat) H):wpAny (model X.prog X.w) X.A (pyIter (.ref s.heap.objs.size)) (NS X pins σ tg R) E {s with heap:=s.heap.push {cls:=.type "range",data:=.fields #[.int hi t,.int lo u,.int (-1) v]},toks:=tk}:=by
 refine wpAny_pyIter_range (IsRange.new ..) (vp h1 h2 h3 h4) ?_;have I1:eZ X pins σ H {s with heap:=s.heap.push {cls:=.type "range",data:=.fields #[.int hi t,.int lo u,.int (-1) v]},toks:=tk}:=I.kept λb o e=>Heap.get?_push_of_some _ e;refine⟨(s.heap.push {cls:=.type "range",data:=.fields #[.int hi t,.int lo u,.int (-1) v]}).objs.size,[(s.heap.push {cls:=.type "range",data:=.fields #[.int hi t,.int lo u,.int (-1) v]}).objs.size],_,_,H,rfl,
  I1.kept (t':=tk) λb o e=>Heap.get?_push_of_some _ e,yn _ hi (hi-lo).toNat,?_,λb hb=>?_,q⟩
 ·have e1:hi+((0:Nat):Int)*(-1)=hi:=by simp
  have e2:(((hi-lo).toNat:Nat):Int)-((0:Nat):Int)=Builtin.Range.rangeSize hi lo (-1):=by rw[lX];split<;>lia
  show IsRangeIter _ _ (hi+((0:Nat):Int)*(-1)) ((((hi-lo).toNat:Nat):Int)-((0:Nat):Int)) (-1);rw[e1,e2];exact Heap.get?_push_size _ rfl
 ·have e:b=(s.heap.push {cls:=.type "range",data:=.fields #[.int hi t,.int lo u,.int (-1) v]}).objs.size:=by simpa using hb
  subst e;exact I1.fpOk (aC _) (I1.hok.fresh (aC _))
def oq(ta:TA):TI:=λσ H R=>ta σ H λvs H1=>∃i j:Int,vs=[.int i,.int j,.int (-1)]∧(-(2^62)≤i∧i<2^62∧-(2^62)≤j∧j<2^62)∧R (Jh i (i-j).toNat) H1
theorem kc(hg:Gl X "range")(hm:X.mg "range"=none)(ha:PA X [a,b,c] ta)(hs:starEach [a,b,c] X.env=[(false,eval a X.env),(false,eval b X.env),(false,eval c X.env)]:=by rfl)(hs2:starEach [b,c] X.env=[(false,eval b X.env),(false,eval c X.env)]:=by rfl):
  PI X tg (.Call (.Name "range" p) [a,b,c] [] pos) (oq ta):=by
 intro pins s σ H R I h;refine Call_ (kO I hg hm boot_range (bP (thn (ha pos pins s σ H _ I h) λus s1 ⟨vs,H1,I1,r1,q1⟩=>?_) (by rw[hs,hs2]) (by rw[hs2];rfl)));obtain⟨i,j,e,⟨q1,q2,q3,q4⟩,q⟩:=q1;subst e;cases r1 with
 | cons r rr=>
  cases rr with
  | cons r' rr=>
   cases rr with
   | cons r'' rr=>cases rr;obtain⟨t,rfl⟩:=r;obtain⟨t',rfl⟩:=r';obtain⟨t'',rfl⟩:=r'';exact call_range_3 (by decide) (wK I1 q1 q2 q3 q4 q) (.inl (cu (by decide)))
end
end L2
namespace PySem.W
open PySem PySem.Spec PySem.Calls PyProof.Rows
theorem BQ:typeLookup (.type "list_reverseiterator") "__len__"=pure none:=by rw[typeLookup_type,builtinLookup_eq_fast];kernel_rfl
theorem BR:typeLookup (.type "list_reverseiterator") "__length_hint__"=pure (some (.builtin "list_reverseiterator.__length_hint__")):=by rw[typeLookup_type,builtinLookup_eq_fast];kernel_rfl
section
variable {prog:Program}{w:World}{A:Around}{E:Value→Shared→Prop}{s:Shared}{r l:Addr}{eM:Array Value}
theorem EJ(hT:s.TypeIs (.ref r) "list_reverseiterator")(h:Q false s):wpAny (model prog w) A (Builtin.List.listLengthHint (.ref r)) Q E s:=by
 unfold Builtin.List.listLengthHint;refine wpAny_bind (wpAny_specialOf hT BQ ?_);refine wpAny_bind (wpAny_specialOf hT BR ?_);generalize hid:("list_reverseiterator.__length_hint__":String)=id0
 wp_delta
 rw[show splitId id0=some ("list_reverseiterator","__length_hint__")from by subst hid;decide];subst hid;refine wpAny_bind (wpAny_isInstance (T:="list_reverseiterator") (b:=true) hT (by rw[isSubtype_type];kernel_rfl) ?_);refine wpAny_ite_split (λhab=>absurd hab (by decide)) (λ_=>?_);refine wpAny_ite_split (λ_=>?_) (λhab=>absurd (by decide) hab);refine wpAny_ite_split (λhab=>absurd hab (by decide)) (λ_=>?_);exact wpAny_pure h
theorem zG(hh:A.handled=none)(hit:s.heap.IsRevIter r l ((eM.size:Int)-1))(hl:s.heap.IsList l eM)(S:Addr)(hSr:S≠r)(hSl:S≠l)(hlr:l≠r)(res:Value)(c₀:Nat)(hS:s.heap.get? S=some {cls:=.type "list",data:=.seq #[] c₀})
  (hR:∀h' tk acc' c',(∀b o,b≠S→b≠r→s.heap.get? b=some o→h'.get? b=some o)→h'.get? S=some {cls:=.type "list",dict:=none,data:=.seq acc' c',slots:=#[]}→ItemsOf (λi v=>eM[eM.size-1-i]?=some v) acc' eM.size→R (.ok (.ret res)) {s with heap:=h',toks:=tk}) (hn:eM.size≤sizeLine):
  wpAny (model prog w) A.in1 (Builtin.List.listExtendWith (.ref S) (.ref r) res)
   (λgr s'=>match gr with|.done f=>R (.ok f) s'|.again c'=>c'.quiet=true∧codeAny (model prog w) A c' R s') (λe s'=>R (.error e) s') s:=by
 have hSf:S∉[r,l]:=by simp only[aB,aF,or_false,not_or];exact⟨hSr,hSl⟩
 have W:=Walks.listRev (prog:=prog) (w:=w) (A:=A.in1) hh r l hlr eM;have hT:s.TypeIs (.ref r) "list_reverseiterator":=hit.typeIs;have st0:0≤eM.size∧s.heap.IsRevIter r l ((eM.size:Int)-1-((0:Nat):Int))∧s.heap.IsList l eM:=⟨aU _,by simpa using hit,hl⟩;unfold Builtin.List.listExtendWith;refine wpAny_bind (wpAny_typeOf (T:="list_reverseiterator") hT ?_);have h1:Builtin.List.listSameRef (.ref S) (.ref r)=false:=by simp[Builtin.List.listSameRef,hSr]
 simp only[h1,show(Value.type "list_reverseiterator"==Value.type "list")=false from by decide,show(Value.type "list_reverseiterator"==Value.type "tuple")=false from by decide,Bool.or_false,Bool.false_eq_true,if_false];refine wpAny_bind (wpAny_pyIter_revIter hit ?_);refine wpAny_bind (wpAny_holding (EJ hT ?_));refine wpAny_ite_split (λhab=>absurd hab (by decide)) (λ_=>wpAny_pure ⟨plainId_quiet PySem.F.plain_extend_loop _,?_⟩);refine codeAny_extend_loopS W.toS hn S hSf res eM.size 0 _ #[] c₀ rfl (aU _) st0 hS (ItemsOf.nil _) λs' acc' c' hm hS' hacc=>?_;rw[Moved.eq_with hm];refine hR s'.heap s'.toks acc' c' (λb o hb hbr e=>hm.heap b o (λhmem=>?_) e) hS' hacc;rcases aB.mp hmem with e'|hmem
 ·exact hb e'
 ·exact hbr (aG.mp hmem)
theorem EI(hh:A.handled=none)(hit:s.heap.IsRevIter r l ((eM.size:Int)-1))(hl:s.heap.IsList l eM)(S:Addr)(hSr:S≠r)(hSl:S≠l)(hlr:l≠r)(hS:s.heap.get? S=some {cls:=.type "list",data:=.seq #[]})
  (hR:∀h' tk acc' c',(∀b o,b≠S→b≠r→s.heap.get? b=some o→h'.get? b=some o)→h'.get? S=some {cls:=.type "list",dict:=none,data:=.seq acc' c',slots:=#[]}→ItemsOf (λi v=>eM[eM.size-1-i]?=some v) acc' eM.size→R (.ok (.ret .none)) {s with heap:=h',toks:=tk}) (hn:eM.size≤sizeLine):
  wpAny (model prog w) A.in1 (Builtin.«list.__init__» ⟨[.ref S,.ref r],[]⟩)
   (λgr s'=>match gr with|.done f=>R (.ok f) s'|.again c'=>c'.quiet=true∧codeAny (model prog w) A c' R s') (λe s'=>R (.error e) s') s:=by
 show wpAny _ _ (do let old ← Builtin.List.listItems (.ref S);Builtin.List.listUpdate (.ref S) (λ_=>#[]);letGo old.toList.reverse;Builtin.List.listExtendWith (.ref S) (.ref r) .none) _ _ s;refine wpAny_bind ?_;unfold Builtin.List.listItems;refine wpAny_bind (wpAny_seqItems hS rfl (wpAny_pure ?_));show wpAny _ _ (updateSeq S (λ_=>#[]) >>= λ_=>letGo (#[]:Array Value).toList.reverse >>= λ_=>Builtin.List.listExtendWith (.ref S) (.ref r) .none) _ _ s;refine wpAny_bind (wpAny_updateSeq hS rfl ?_);have hS₂:=Heap.get?_update_self (Obj.mapSeq (λ_=>(#[]:Array Value))) hS rfl;have oth:∀b o,b≠S→s.heap.get? b=some o→(s.heap.update S (Obj.mapSeq (λ_=>(#[]:Array Value)))).get? b=some o:=
  λb o hb e=>(Heap.get?_update_other _ _ (af hb)).trans e
 refine wpAny_bind (wpAny_letGo ?_);refine zG hh (hit.at λo e=>oth r o hSr.symm e) (hl.at λo e=>oth l o hSl.symm e) S hSr hSl hlr .none _ hS₂ (λh' tk acc' c' hk hS' hacc=>?_) hn;exact hR h' tk acc' c' (λb o hb hbr e=>hk b o hb hbr (oth b o hb e)) hS' hacc
theorem rv_call(hh:A.handled=none)(hit:s.heap.IsRevIter r l ((eM.size:Int)-1))(hl:s.heap.IsList l eM)(hlr:l≠r)(hn:eM.size≤sizeLine)
  (hQ:∀h' tk acc' c',(∀b o,b≠r→s.heap.get? b=some o→h'.get? b=some o)→h'.get? s.heap.objs.size=some {cls:=.type "list",dict:=none,data:=.seq acc' c',slots:=#[]}→ItemsOf (λi v=>eM[eM.size-1-i]?=some v) acc' eM.size→Q (.ref s.heap.objs.size) {s with heap:=h',toks:=tk}):
  wpAny (model prog w) A (call (.type "list") [.ref r]) Q E s:=by
 refine callType_codes (Q₁:=λobj s₁=>obj=.ref s.heap.objs.size∧s₁={s with heap:=s.heap.push {cls:=.type "list",data:=.seq #[]}}) PySem.F.called_list (PySem.F.typeCall_list_1 _) PySem.F.entry_list_init
  (code_list_new _ ⟨rfl,rfl⟩) λobj s₁ h₁=>?_
 obtain⟨rfl,rfl⟩:=h₁;have hS:(s.heap.push {cls:=.type "list",data:=.seq #[]}).get? s.heap.objs.size=some {cls:=.type "list",data:=.seq #[]}:=Heap.get?_push_size _ rfl;have lr:r<s.heap.objs.size:=by obtain⟨o,e,_⟩:=hit;exact Heap.lt_size e
 have ll:l<s.heap.objs.size:=by obtain⟨o,e,_⟩:=hl;exact Heap.lt_size e
 refine⟨⟨_,hS,rfl⟩,PySem.F.args_list_init_2 _ _,EI (A:=A.in1) hh (hit.at λo e=>Heap.get?_push_of_some _ e) (hl.at λo e=>Heap.get?_push_of_some _ e) _ (bD lr) (bD ll) hlr hS (λh' tk acc' c' hk hS' hacc=>?_) hn⟩;exact⟨rfl,hQ h' tk acc' c' (λb o hbr e=>hk b o (aM (Heap.lt_size e)) hbr (Heap.get?_push_of_some _ e)) hS' hacc⟩
end
end PySem.W
namespace L2
open PySem PySem.Spec PyProof.Rows
section
variable {X:Cx}
theorem mt:∀{xs:List V}{us:List Value},fL xs us→fL xs.reverse us.reverse
 | _,_,.nil=>.nil
 | _,_,.cons r t=>by rw[aq,aq];exact(mt t).append (.cons r .nil)
def uX(K:aA)(tl:TE):TE:=λσ H Q=>tl σ H λx H1=>onR x λa=>lP (eJ K H1 a) λxs=>k6 H1 (.lst xs.reverse) Q
theorem tF(hc:X.calm=true)(hgl:Gl X "list")(hml:X.mg "list"=none)(hgr:Gl X "reversed")(hmr:X.mg "reversed"=none)(he:PE X e tl)(h1:starEach [e] X.env=[(false,eval e X.env)]:=by rfl)
  (h2:starEach [.Call (.Name "reversed" p1) [e] [] p2] X.env=[(false,eval (.Call (.Name "reversed" p1) [e] [] p2) X.env)]:=by rfl):
  PE X (.Call (.Name "list" q1) [.Call (.Name "reversed" p1) [e] [] p2] [] q2) (uX X.K tl):=by
 intro pins s σ H Q I h;refine wpAny_Call_Name_kw (kO I hgl hml pY ?_);have h2':starEach (.Call (.Name "reversed" p1) [e] [] p2::[]) X.env=(false,eval (.Call (.Name "reversed" p1) [e] [] p2) X.env)::starEach [] X.env:=h2;refine bP ?_ h2' (by rfl);rw[h2];refine Calls.spliced_cons ?_;refine wpAny_Call_Name_kw (kO I hgr hmr ox ?_);have h1':starEach (e::[]) X.env=(false,eval e X.env)::starEach [] X.env:=h1;refine bP (thn ((eA he fZ h1':PA X [e] (dP tl dZ)) p2 pins s σ H (λvs H1=>on1 vs λx=>onR x λa=>lP (eJ X.K H1 a) λxs=>k6 H1 (.lst xs.reverse) Q) I h) λus s1 ⟨vs,H1,I1,r1,q1⟩=>?_) h1' (by rfl);obtain⟨_,rfl,q1⟩:=on1.ex q1;obtain⟨a,rfl,q1⟩:=onR.ex q1;obtain @⟨xs,hq,q⟩:=q1;obtain⟨u,rfl,ru⟩:=lT r1;cases ru;obtain⟨its,rv,p,hz⟩:=I1.list hq;refine call_reversed_list p.isList ?_;refine Calls.spliced_nil ?_;have hlt:a<s1.heap.objs.size:=by obtain⟨o,eo,_⟩:=p.isList;exact Heap.lt_size eo
 refine PySem.W.rv_call (l:=a) (eM:=its.toArray) (I1.ok.hd hc) ⟨_,Heap.get?_push_size _ rfl,rfl,rfl⟩ (p.isList.at λo eo=>Heap.get?_push_of_some _ eo) (aM hlt) (by simpa[←rv.length]using hz) λh' tk acc' c' hk hD hacc=>?_;have hsz:(s1.heap.push (revObj a ((its.toArray.size:Int)-1))).objs.size=s1.heap.objs.size+1:=Heap.size_push _ _;have hvals:fL xs.reverse acc'.toList:=by
  have e:acc'.toList=its.reverse:=by
   apply List.ext_getElem?;intro i;have hs:acc'.size=its.length:=by simpa using hacc.1
   by_cases hi:i<its.length
   ·have h1:acc'[i]?=some acc'[i]:=by simp[hs,hi]
    have h2:=hacc.2 i _ h1;rw[cV,h1,List.getElem?_reverse hi];simpa using h2.symm
   ·rw[dI (by simp[hs];lia),dI (by simp;lia)]
  rw[e];exact mt rv
 refine⟨.ref (s1.heap.push (revObj a ((its.toArray.size:Int)-1))).objs.size,_,I1.laid (a:=(s1.heap.push (revObj a ((its.toArray.size:Int)-1))).objs.size) (o:=.lst xs.reverse) (h':=h') (t':=tk) (λb o eo=>hk b o (aM (Heap.lt_size eo)) (Heap.get?_push_of_some _ eo)) (by rw[hsz];lia) ⟨by simpa using hz,acc'.toList,c',hvals,by simpa using hD⟩,rfl,q _ (I1.hok.fresh (by rw[hsz];lia))⟩
end
section
variable {X:Cx}
def qT(K:aA):R2:=λx y H Q=>onR x λa=>onR y λb=>lP (eD K H a) λxs=>lP (eD K H b) λys=>xs.length+ys.length≤sizeLine∧
 (xs=[]→Q (.ref b) H)∧(xs≠[]→ys=[]→Q (.ref a) H)∧(xs≠[]→ys≠[]→k6 H (.tup (xs++ys)) Q)
theorem tI:mf X (binaryOp .Add) (qT X.K):=by
 intro pins s σ H x y v u Q I rx ry h;obtain⟨a,rfl,h⟩:=onR.ex h;obtain⟨b,rfl,h⟩:=onR.ex h;obtain @⟨xs,ha,h⟩:=h;obtain @⟨ys,hb,hz,q0,q1,q2⟩:=h;by_cases hx:xs=[]
 ·subst hx;cases rx;cases ry;obtain⟨its,r1,p1,_⟩:=I.tuple ha;obtain⟨its2,r2,p2,_⟩:=I.tuple hb;cases r1;obtain⟨⟨cls,dd,data,sl⟩,ho,hc,n,hd⟩:=id p1;obtain⟨⟨cls2,dd2,data2,sl2⟩,ho2,hc2,n2,hd2⟩:=id p2;simp only at hc hd hc2 hd2;subst hc hd hc2 hd2;exact concat_meets ⟨_,ho,rfl⟩ ⟨_,ho2,rfl⟩ noFill_tuple_add seq_tuple_add cS cT (cU _ _)
   (tuple_addW0 a b #[] its2.toArray n n2 dd dd2 sl sl2 rfl) ⟨ho,ho2,.ref b,H,I,rfl,q0 rfl⟩
 ·exact Eg pins s σ H _ _ v u Q I rx ry ⟨a,b,xs,ys,rfl,rfl,ha,hb,hx,hz,q1 hx,q2 hx⟩
end
end L2
namespace PySem
section
variable {prog:Program}{w:World}{A:Around}{E:Value→Shared→Prop}{s:Shared}
theorem DI{c t:Addr}{j:Nat}{its}{v:Value}{Q:Value→Shared→Prop}(hc:s.heap.IsTupleIter c t j)(ht:s.heap.IsTuple t its)(hv:its[j]?=some v)
  (hQ:∀k,k.IsTupleIter c t (j+1)→Heap.SameBut c s.heap k→Q v {s with heap:=k}):wpAny (model prog w) A (Builtin.SmallTypes.nextOf (.ref c)) Q E s:=by
 obtain⟨ob,h1,h2,h3⟩:=id hc;obtain⟨ot,h4,_,m,h5⟩:=ht;unfold Builtin.SmallTypes.nextOf;refine wpAny_bind (wpAny_callSpecial?_slot (name:=Str.ofString "__next__") hc.typeIs F.slot_tuple_iterator_next (wpAny_call_entry F.slot_tuple_iterator_next hc.typeIs F.entry_tuple_iterator_next ?_ (F.args_tuple_iterator_next_1 _)));show wpAny _ _ (field (.ref c) 0 >>= _) _ _ s;refine wpAny_bind (wpAny_field h1 h3 (x:=.ref t) rfl ?_);show wpAny _ _ (if(Value.ref t==Value.none)=true then _ else _) _ _ s;rw[if_neg (show ¬(Value.ref t==Value.none)=true from aR)];show wpAny _ _ (field (.ref c) 1 >>= _) _ _ s;refine wpAny_bind (wpAny_field h1 h3 (x:=.int j 0) rfl ?_);show wpAny _ _ (seqItems? (.ref t) >>= _) _ _ s;refine wpAny_bind (wpAny_seqItems h4 h5 ?_);simp only[bp,hv];refine wpAny_bind (wpAny_setField h1 h3 (by simp) (wpAny_pure ⟨v,rfl,wpAny_pure (hQ _ ?_ (Heap.SameBut.update ..))⟩));exact⟨_,Heap.get?_update_self _ h1 (Obj.isFreed_of_fields (Obj.data_mapFields h3 _)),(Obj.cls_mapFields ..).trans h2,by rw[Obj.data_mapFields h3];simp[rawInt]⟩
theorem DH{c t:Addr}{j:Nat}{its}{Q:Value→Shared→Prop}(hh:A.handled=none)(hc:s.heap.IsTupleIter c t j)(ht:s.heap.IsTuple t its)(hv:its[j]?=none)
  (hE:∀k e,Heap.ExtBut c s.heap k→(∃o,k.get? e=some o∧o.cls=.type "StopIteration")→E (.ref e) {s with heap:=k}):wpAny (model prog w) A (Builtin.SmallTypes.nextOf (.ref c)) Q E s:=by
 obtain⟨ob,h1,h2,h3⟩:=id hc;obtain⟨ot,h4,_,m,h5⟩:=ht;unfold Builtin.SmallTypes.nextOf;refine wpAny_bind (wpAny_callSpecial?_slot (name:=Str.ofString "__next__") hc.typeIs F.slot_tuple_iterator_next (wpAny_call_entry F.slot_tuple_iterator_next hc.typeIs F.entry_tuple_iterator_next ?_ (F.args_tuple_iterator_next_1 _)));show wpAny _ _ (field (.ref c) 0 >>= _) _ _ s;refine wpAny_bind (wpAny_field h1 h3 (x:=.ref t) rfl ?_);show wpAny _ _ (if(Value.ref t==Value.none)=true then _ else _) _ _ s;rw[if_neg (show ¬(Value.ref t==Value.none)=true from aR)];show wpAny _ _ (field (.ref c) 1 >>= _) _ _ s;refine wpAny_bind (wpAny_field h1 h3 (x:=.int j 0) rfl ?_);show wpAny _ _ (seqItems? (.ref t) >>= _) _ _ s;refine wpAny_bind (wpAny_seqItems h4 h5 ?_);simp only[bp,hv];refine wpAny_bind (wpAny_rule (wpAny_bind (wpAny_setField h1 h3 (by simp) ?_)));show wpAny _ _ (newExc (.type "StopIteration") [] >>= _) _ _ _;refine wpAny_bind ?_;simp only[newExc,newTuple];refine wpAny_bind (wpAny_newObj_type ?_ (by size_fits));refine wpAny_bind (m:=firstArgMember _ _) (wpAny_of_eq (a:=.none) (by first|rfl|(simp only[firstArgMember];rfl)) ?_);refine wpAny_newObj_type ?_ (by size_fits);simp only[raiseNew];refine wpAny_bind (wpAny_handled ?_)
 first|rw[show A.in1.handled=none from hh]|rw[hh]
 refine wpAny_bind (wpAny_pure (wpAny_throw ?_));exact hE _ _ (((Heap.SameBut.update ..).extBut.push _).push _) ⟨_,Heap.get?_push_size _ rfl,rfl⟩
end
section
variable {prog:Program}{w:World}{A:Around}{E:Value→Shared→Prop}{s:Shared}
end
end PySem
namespace L2
open PySem PySem.Spec PyProof.Rows
section
variable {X:Cx}{pins:List (Addr×Obj)}{σ:List (Option V)}{H:Hp}{s:Shared}{h':Heap}
theorem eZ.turnedN{t':Nat}{fp:List Addr}{a:Addr}{o:HO}(I:eZ X pins σ H s)(hf:∀b∈fp,pH X pins H b)(k:∀b u,b∉fp→s.heap.get? b=some u→h'.get? b=some u)(hp:s.heap.objs.size≤a)
  (new:gf X.prog X.w (upd H a o) h' a o):eZ X pins σ (upd H a o) {s with heap:=h',toks:=t'}:=by
 have hn:=I.hok.fresh hp;have nfp:∀b u,H b=some u→b∉fp:=λb u e z=>by rw[(hf b z).1]at e;cases e
 have na:∀b u,s.heap.get? b=some u→b≠a:=λb u e=>aM (aa (Heap.lt_size e) hp);have up:∀b u,H b=some u→upd H a o b=some u:=λb u e=>by rw[dj (de e hn)];exact e
 refine I.step (g':=s.gens) (d':=s.drawn) (ch:=fp) (λb hb=>?_) (λb u _ _ hc e _=>k b u hc e) (λb u _ _ hc e _=>⟨u.slots,k b u hc e⟩) (λb u _ e n=>by rw[dj (na b u e)];exact n)
  (λb u hc e=>⟨u,k b u hc e⟩) (λb _ e=>up b _ e) (λb _ _ e=>up b _ e) (λb ps e=>⟨#[],by rw[up b _ e];simp⟩) (λm hm=>?_) (λb u e=>?_) I.bare
 ·obtain⟨_,h1,_,h3,h4,h5⟩:=hf b hb;exact⟨h3,h1,h4,h5⟩
 ·obtain⟨u,es,ep,ho,r⟩:=hm;exact⟨u,es,ep,k _ u (λz=>(hf _ z).2.1 rfl) ho,r⟩
 ·by_cases hb:b=a
  ·subst hb;rw[dR]at e;cases e;exact new
  ·rw[dj hb]at e;refine(I.hok b u e).stay (λc v hc q=>k c v ?_ q) (λc q=>up c _ q) λc xs q=>up c _ q;rcases hc with z|z
   ·rw[z];exact nfp b u e
   ·exact nfp c _ z
theorem eZ.turnedL{t':Nat}{fp:List Addr}(I:eZ X pins σ H s)(hf:∀b∈fp,pH X pins H b)(k:∀b u,b∉fp→s.heap.get? b=some u→h'.get? b=some u):eZ X pins σ H {s with heap:=h',toks:=t'}:=by
 have nfp:∀b u,H b=some u→b∉fp:=λb u e z=>by rw[(hf b z).1]at e;cases e
 refine I.step (g':=s.gens) (d':=s.drawn) (ch:=fp) (λb hb=>?_) (λb u _ _ hc e _=>k b u hc e) (λb u _ _ hc e _=>⟨u.slots,k b u hc e⟩) (λb u _ e n=>n)
  (λb u hc e=>⟨u,k b u hc e⟩) (λb _ e=>e) (λb _ _ e=>e) (λb ps e=>⟨#[],by rw[e];simp⟩) (λm hm=>?_) (λb u e=>?_) I.bare
 ·obtain⟨_,h1,_,h3,h4,h5⟩:=hf b hb;exact⟨h3,h1,h4,h5⟩
 ·obtain⟨u,es,ep,ho,r⟩:=hm;exact⟨u,es,ep,k _ u (λz=>(hf _ z).2.1 rfl) ho,r⟩
 ·refine(I.hok b u e).stay (λc v hc q=>k c v ?_ q) (λc q=>q) λc xs q=>q;rcases hc with z|z
  ·rw[z];exact nfp b u e
  ·exact nfp c _ z
end
theorem JQ:bootBuiltins "zip"=some (.type "zip"):=by decide
section
variable {X:Cx}{es:List Expr}{x1:Nat}{tp:Pos}
end
structure iY(X:Cx)(scope:Scope)(cl:List (Str×Addr))(xs ys:List Str)(js:List Nat):Prop where
 clos:closureFor scope X.env=pure cl
 ncell:∀y∈scope.names,y.2≠.cell
 kind:scope.kind=.function
 names:∀y∈scope.names,y.2=.local→scope.names.lookup y.1=some .local
 cells:∀y c,cl.lookup y=some c→X.env.cells.lookup y=some c
 has:∀y,((relabel scope X.env).names.lookup y=some .cell∨(relabel scope X.env).names.lookup y=some .free)→∃c,cl.lookup y=some c
 free:∀(k:Nat)(y:Str),ys[k]?=some y→∃j:Nat,js[k]?=some j∧X.N[j]?=some y∧X.env.scope.names.lookup y=some .cell∧((relabel scope X.env).names.lookup y=some .cell∨(relabel scope X.env).names.lookup y=some .free)
 len:js.length=ys.length
section
variable {X:Cx}{pins:List (Addr×Obj)}{σ:St}{H:Hp}{s:Shared}{scope:Scope}{cl:List (Str×Addr)}{xs ys:List Str}{js:List Nat}{fp:List Addr}{C D:Addr}{h':Heap}
theorem eZ.compOkT(I:eZ X pins σ H s)(S:iY X scope cl xs ys js)(hf:∀b∈fp,pH X pins H b)(hfb:∀b∈fp,b<s.heap.objs.size)(hC:s.heap.objs.size≤C):(gZ X scope cl (xs++ys) fp s H C).Ok where
 mod:=I.ok.mod
 kind:=S.kind
 glob:=I.ok.glob
 blt:=I.ok.blt
 above:=hC
 inj:=λy z c h1 h2=>I.ok.inj y z c (S.cells y c h1) (S.cells z c h2)
 has:=λy h=>S.has y h
 cab:=λ_ _ h=>by cases h
 hd:=I.ok.hd
 frames:=I.ok.frames
 stk:=.inl rfl
 exf:=λb hb=>by obtain⟨_,h1,_,h3,h4,_⟩:=hf b hb;exact⟨aM (aa (hfb b hb) hC),λy c e=>h4 y c (S.cells y c e)⟩
 bs:=I.bs
 bsz:=aY I.ok.bsz I.sz
 noex:=λb o e hb=>by
  obtain⟨_,_,_,h3,_⟩:=hf b hb;rcases h3 with z|z
  ·exact I.ok.noex b o e z
  ·exact absurd (aa (Heap.lt_size e) (aY I.ok.bsz z)) (bU _)
 exfs:=λb hb z=>by
  obtain⟨_,h1,h2,_⟩:=hf b hb;rcases aB.mp (I.stkSub b z)with e|e
  ·exact h1 e
  ·exact h2 e
 funs:=I.stack
 frf:=I.stkFree
theorem eZ.compInT(I:eZ X pins σ H s)(S:iY X scope cl xs ys js)(hf:∀b∈fp,pH X pins H b)(hfb:∀b∈fp,b<s.heap.objs.size)(hC:s.heap.objs.size≤C)(hD:s.heap.objs.size≤D)(hDC:D≠C)
  (keep:∀b o,s.heap.get? b=some o→h'.get? b=some o) (ns:h'.Ns C m) (ho:h'.get? D=some (nI [] n)):
  eZ (gZ X scope cl (xs++ys) fp s H C) ((X.pn++pins)++[(D,nI [] n)]) (List.replicate xs.length none++CY σ js) H {s with heap:=h',toks:=t'} where
 ok:=I.compOkT S hf hfb hC
 os:=rfl
 bare:=I.bare
 base:=Un.kept keep
 loc:=by
  refine⟨m,ns,λi y v e1 e2 e3=>?_⟩;have e1:(xs++ys)[i]?=some y:=e1;by_cases hi:i<xs.length
  ·rw[bB (by simpa using hi),cz,if_pos hi]at e2;cases e2
  ·obtain⟨k,rfl⟩:∃k,i=xs.length+k:=⟨i-xs.length,by lia⟩;rw[bL (by lia),dJ]at e1;rw[bL (by simp),cR,dJ]at e2;obtain⟨j,hj,hN,hk,hk2⟩:=S.free k y e1;have e4:σ[j]?=some (some v):=by
    unfold CY at e2;rw[ae,hj]at e2;have e2:σ.getD j none=some v:=Option.some.inj e2;rw[List.getD_eq_getElem?_getD]at e2;cases q:σ[j]? with
    | none=>rw[q]at e2;cases e2
    | some z=>rw[q]at e2;exact congrArg some e2
   obtain⟨m0,hn0,hl⟩:=I.loc;obtain⟨u,ru,l⟩:=hl j y v hN e4 (.inr (.inl hk));refine⟨u,ru,.inr ⟨hk2,?_⟩⟩;obtain⟨c,hc⟩:=S.has y hk2;rcases l with⟨z,_⟩|⟨_,c',hc',hcell⟩
   ·have z:X.env.scope.names.lookup y=some .local:=z;rw[hk]at z;cases z
   ·have q:=S.cells y c hc;rw[hc']at q;cases q;obtain⟨oc,a1,a2⟩:=hcell;exact⟨_,hc,oc,keep _ _ a1,a2⟩
 cell:=λy c e=>by obtain⟨v,oc,a1,a2⟩:=I.cell y c (S.cells y c e);exact⟨v,oc,keep _ _ a1,a2⟩
 free:=I.hok.fresh hC
 freeC:=λy c e=>I.freeC y c (S.cells y c e)
 pin:=λp hp=>by
  rcases aW.mp (show p∈(X.pn++pins)++[(D,nI [] n)]from hp)with z|z
  ·obtain⟨e,nn,ne,nf,d⟩:=I.pin p z;exact⟨keep _ _ e,nn,aM (aa (Heap.lt_size e) hC),I.nostk ne nf,d⟩
  ·rw[aG]at z;subst z;exact⟨ho,I.hok.fresh hD,hDC,I.nostk (bD (aa I.lt hD)) (I.nofs hD),λv z=>by cases(show Data.seq _ _=Data.cell v from z)⟩
 hok:=I.hok.kept keep
 len:=by simp[CY,gZ,S.len]
end
section
variable {prog:Program}{w:World}{A:Around}{s:Shared}{R:Result→Shared→Prop}
end
def Jz(wi:TI)(g:TG)(te:TE)(js:List Nat):TE:=λσ H Q=>wi σ H λJ H1=>∃W:Nat→Nat→List V→Hp→Prop,(∃m,W 0 m [] H1)∧∀i m vs H,W i m vs H→
 (J.stop i H∧vs.length≤sizeLine∧k6 H (.lst vs) Q)∨
 (J.go i H∧∀x H',J.yld i H x H'→∀o1 o2,g x (o1::o2::CY σ js) H' λσ2 H2=>(∃o1 o2,σ2=o1::o2::CY σ js)∧te σ2 H2 λy H''=>vs.length<sizeLine∧∃m',m'<m∧W (i+1) m' (vs++[y]) H'')
def AD(K:aA)(a b:Addr):It:=
  ⟨λi H=>∃xs ys x y,eJ K H a xs∧eJ K H b ys∧xs[i]?=some x∧ys[i]?=some y,
   λi H v H'=>∃p x y,v=.ref p∧H p=none∧H'=upd H p (.tup [x,y])∧(∀xs,eJ K H a xs→xs[i]?=some x)∧∀ys,eJ K H b ys→ys[i]?=some y,
   λi H=>∃xs ys,eJ K H a xs∧eJ K H b ys∧xs.length≤i⟩
theorem yj{P:Program}{w:World}{K:aA}{es:List Expr}{x1}{pos:Pos}{z p q c d a b:Addr}(D:ZipApart z p q c d a b):vR P w K (.Tuple es x1 pos) (AD K a b) [z,p,q,c,d] z
  (λi h=>IsZip h z p q .none∧IsPair h p (.ref c) (.ref d)∧(∃u v,IsPair h q u v)∧h.IsListIter c a i∧h.IsListIter d b i) where
 mem:=by simp
 obj:=λi h st b hb=>by
  obtain⟨hz,hp,⟨u,v,hq⟩,⟨oc,ec,_,dc⟩,⟨od,ed,_,dd⟩⟩:=st;simp only[aB,aF,or_false]at hb;rcases hb with rfl|rfl|rfl|rfl|rfl
  ·exact⟨_,hz,λv e=>by cases(show Data.fields _=Data.cell v from e)⟩
  ·exact⟨_,hp,λv e=>by cases(show Data.seq _ _=Data.cell v from e)⟩
  ·exact⟨_,hq,λv e=>by cases(show Data.seq _ _=Data.cell v from e)⟩
  ·exact⟨oc,ec,λv e=>by rw[dc]at e;cases e⟩
  ·exact⟨od,ed,λv e=>by rw[dd]at e;cases e⟩
 keep:=λi h h' st k=>by obtain⟨hz,hp,⟨u,v,hq⟩,⟨oc,ec,rc⟩,⟨od,ed,rd⟩⟩:=st;exact⟨k z (by simp) _ hz,k p (by simp) _ hp,⟨u,v,k q (by simp) _ hq⟩,⟨oc,k c (by simp) _ ec,rc⟩,⟨od,k d (by simp) _ ed,rd⟩⟩
 item:=by
  intro X hP hw hK hc i pins s σ H E I hf st hg;subst hP hw hK;obtain⟨hz,hp,⟨u0,v0,hq⟩,h1,h2⟩:=st;obtain⟨xs,ys,x,y,hxs,hys,hx,hy⟩:=hg;obtain⟨its,rv,pa,za⟩:=I.list hxs;obtain⟨jts,rw',pb,zb⟩:=I.list hys;obtain⟨u,hu,ru⟩:=rv.get hx;obtain⟨v,hv,ru'⟩:=rw'.get hy;refine wpAny_pyNext_zip_item D hz hp hq h1 h2 pa.isList pb.isList (x:=u) (y:=v) (by simpa using hu) (by simpa using hv) λg g1 g2 g3 g4 g5 g6 g7=>?_;refine⟨_,rfl,wpAny_letOwnedTupleGo_zip g1 λg' z' sb=>?_⟩;replace sb:Heap.SameBut z g g':=sb;have zl:z<s.heap.objs.size:=Heap.lt_size hz;have kk:∀b u,b∉[z,p,q,c,d]→s.heap.get? b=some u→g'.get? b=some u:=λb u hb e=>by simp only[aB,aF,or_false,not_or]at hb;exact sb.extBut _ _ hb.1 (g7 b u hb.1 hb.2.2.1 hb.2.2.2.1 hb.2.2.2.2 e)
  have pT:IsPair g' s.heap.objs.size u v:=sb.extBut _ _ (bD zl) g5;have new:gf X.prog X.w (upd H s.heap.objs.size (.tup [x,y])) g' s.heap.objs.size (.tup [x,y]):=⟨(by show 2≤sizeLine;rw[sizeLine_eq];decide),[u,v],.cons ru (.cons ru' .nil),_,pT,rfl,_,rfl⟩;have I1:eZ X pins σ (upd H s.heap.objs.size (.tup [x,y])) {s with heap:=g'}:=I.turnedN (t':=s.toks) hf kk (aC _) new;obtain⟨oc,ec,rc⟩:=g3;obtain⟨od,ed,rd⟩:=g4;refine⟨.ref s.heap.objs.size,_,I1,rfl,⟨s.heap.objs.size,x,y,rfl,I.hok.fresh (aC _),rfl,λzs hzs=>by rw[I.list_inj hzs hxs];exact hx,λzs hzs=>by rw[I.list_inj hzs hys];exact hy⟩,
   ⟨z',sb.extBut _ _ D.TIz (g7 p _ D.TIz D.TITO D.TIi1 D.TIi2 hp),⟨u,v,sb.extBut _ _ D.TOz g2⟩,⟨oc,sb.extBut _ _ D.i1z ec,rc⟩,⟨od,sb.extBut _ _ D.i2z ed,rd⟩⟩,λb hb=>?_⟩
  have hbn:=(hf b hb).1;have:b≠s.heap.objs.size:=by
   have st0:∀b∈[z,p,q,c,d],b<s.heap.objs.size:=by
    intro b hb;simp only[aB,aF,or_false]at hb;rcases hb with rfl|rfl|rfl|rfl|rfl
    ·exact Heap.lt_size hz
    ·exact Heap.lt_size hp
    ·exact Heap.lt_size hq
    ·obtain⟨_,e,_⟩:=h1;exact Heap.lt_size e
    ·obtain⟨_,e,_⟩:=h2;exact Heap.lt_size e
   exact aM (st0 b hb)
  rw[dj this];exact hbn
 done:=by intro X hP hw hK hc i pins s σ H E I hf st hg;subst hP hw hK;obtain⟨hz,hp,⟨u0,v0,hq⟩,h1,h2⟩:=st;obtain⟨xs,ys,hxs,hys,hl⟩:=hg;obtain⟨its,rv,pa,za⟩:=I.list hxs;obtain⟨jts,rw',pb,zb⟩:=I.list hys;have hlen:=rv.length;refine wpAny_pyNext_zip_end (I.ok.hd hc) D hz hp hq h1 h2 pa.isList pb.isList (.inl (by simp;lia)) λg kg=>⟨rfl,I.turnedL (t':=s.toks) hf λb u hb e=>?_⟩;simp only[aB,aF,or_false,not_or]at hb;exact kg b u hb.1 hb.2.2.1 hb.2.2.2.1 hb.2.2.2.2 e
 self:=λ_ _ _ _ _ st h=>wpAny_pyIter_zip st.1 h
def CU(K:aA)(ta tb:TE):TI:=λσ H R=>ta σ H λx H1=>tb σ H1 λy H2=>onR x λa=>onR y λb=>lP (eJ K H2 a) λ_=>lP (eJ K H2 b) λ_=>R (AD K a b) H2
section
variable {X:Cx}{es:List Expr}{x1:Nat}{tp:Pos}
theorem EV{l r:Expr}{ta tb:TE}{np pos:Pos}(hg:Gl X "zip")(hm:X.mg "zip"=none)(ha:PE X l ta)(hb:PE X r tb)(he:starEach [l,r] X.env=[(false,eval l X.env),(false,eval r X.env)]:=by rfl)(he2:starEach [r] X.env=[(false,eval r X.env)]:=by rfl):
  PI X (.Tuple es x1 tp) (.Call (.Name "zip" np) [l,r] [] pos) (CU X.K ta tb):=by
 intro pins s σ H R I h;refine wpAny_Call_Name_kw (kO I hg hm JQ ?_);have h2:starEach (r::[]) X.env=(false,eval r X.env)::starEach [] X.env:=he2;have h1:starEach (l::[r]) X.env=(false,eval l X.env)::starEach [r] X.env:=by rw[he,he2]
 refine bP (thn ((eA ha (eA hb fZ h2) h1:PA X [l,r] (dP ta (dP tb dZ))) pos pins s σ H (λvs H2=>onC vs λx r=>on1 r λy=>onR x λa=>onR y λb=>lP (eJ X.K H2 a) λ_=>lP (eJ X.K H2 b) λ_=>R (AD X.K a b) H2) I h) λus s1 ⟨vs,H1,I1,r1,q1⟩=>?_) h1 (by rw[he2];rfl);obtain⟨_,_,rfl,q1⟩:=onC.ex q1;obtain⟨_,rfl,q1⟩:=on1.ex q1;obtain⟨a,rfl,q1⟩:=onR.ex q1;obtain⟨b,rfl,q1⟩:=onR.ex q1;obtain @⟨xs,hxs,q1⟩:=q1;obtain @⟨ys,hys,q⟩:=q1;obtain⟨u,v,rfl,ru,rv⟩:=fL.two r1;cases ru;cases rv;obtain⟨its,rva,pa,_⟩:=I1.list hxs;obtain⟨jts,rvb,pb,_⟩:=I1.list hys;refine call_zip_2 pa.isList pb.isList λg g1 g2 g3 g4 g5 g6 g7=>?_;have hla:a<s1.heap.objs.size:=by obtain⟨_,e,_⟩:=pa.isList;exact Heap.lt_size e
 have hlb:b<s1.heap.objs.size:=by obtain⟨_,e,_⟩:=pb.isList;exact Heap.lt_size e
 generalize en:s1.heap.objs.size=n at *;refine wpAny_pyIter_zip g1 ?_;refine⟨n+4,[n+4,n+2,n+3,n,n+1],_,_,H1,rfl,I1.kept (t':=s1.toks) g7,yj (PyProof.Rows.zipApart_new hla hlb),⟨g1,g2,⟨_,_,g3⟩,g4,g5⟩,λc hc=>?_,q⟩;have:s1.heap.objs.size≤c:=by
  simp only[aB,aF,or_false]at hc;rw[en];rcases hc with e|e|e|e|e<;>rw[e]
  ·exact bg n 4
  ·exact bg n 2
  ·exact bg n 3
  ·exact aC n
  ·exact bg n 1
 exact I1.fpOk this (I1.hok.fresh this)
end
end L2
namespace PySem
open AutoSeq1 (wpAny_loadPart')
section
variable {prog:Program}{w:World}{A:Around}{E:Value→Shared→Prop}{s:Shared}
theorem E3{e c t:Addr}{j:Nat}{xs:Array Value}{x old:Value}{Q:Value→Shared→Prop}(he:IsEnum s.heap e c j old)(hc:s.heap.IsTupleIter c t j)(ht:s.heap.IsTuple t xs)(hx:xs[j]?=some x)(hne:e≠c)
  (hQ:∀g,IsEnumOut g e c ((j:Int)+1) x s.heap.objs.size→g.IsTupleIter c t (j+1)→g.get? s.heap.objs.size=some {cls:=.type "tuple",data:=.seq #[.int j s.toks,x]}→g.objs.size=s.heap.objs.size+1→
   (∀b o,b≠e→b≠c→s.heap.get? b=some o→g.get? b=some o)→Q (.ref s.heap.objs.size) {s with heap:=g,toks:=s.toks+1}):
  wpAny (model prog w) A (Builtin.«enumerate.__next__» ⟨[.ref e],[]⟩) (λgr s'=>∃v,gr=.done (.ret v)∧Q v s') E s:=by
 obtain⟨hp,gg,d,tk,os⟩:=s;show wpAny _ _ (field (.ref e) 2 >>= _) _ _ _;refine wpAny_bind (wpAny_field he rfl (x:=.ref c) rfl ?_);refine wpAny_bind (DI hc ht hx λg1 c1 e1=>?_);replace e1:Heap.SameBut c hp g1:=e1;have r1:IsEnum g1 e c j old:=(e1.2 e hne).trans he;show wpAny _ _ (field (.ref e) 3 >>= _) _ _ ⟨g1,gg,d,tk,os⟩;refine wpAny_bind (wpAny_field r1 rfl (x:=rawInt j) rfl ?_);show wpAny _ _ (field (.ref e) 4 >>= _) _ _ ⟨g1,gg,d,tk,os⟩;refine wpAny_bind (wpAny_field r1 rfl (x:=.none) rfl ?_);show wpAny _ _ (mkInt j >>= _) _ _ ⟨g1,gg,d,tk,os⟩;refine wpAny_bind (wpAny_mkInt ?_);show wpAny _ _ (setField (.ref e) 3 (rawInt ((j:Int)+1)) >>= _) _ _ ⟨g1,gg,d,tk+1,os⟩;refine wpAny_bind (wpAny_setField_rec r1 (by simp) λg2 r2 e2=>?_);replace e2:Heap.SameBut e g1 g2:=e2;replace r2:IsEnum g2 e c ((j:Int)+1) old:=r2;show wpAny _ _ (setField (.ref e) 4 .none >>= _) _ _ ⟨g2,gg,d,tk+1,os⟩;refine wpAny_bind (wpAny_setField_rec r2 (by simp) λg3 r3 e3=>?_);replace e3:Heap.SameBut e g2 g3:=e3;replace r3:IsEnum g3 e c ((j:Int)+1) old:=r3;show wpAny _ _ (newTuple [.int j tk,x] >>= _) _ _ ⟨g3,gg,d,tk+1,os⟩;refine wpAny_bind (wpAny_newTuple ?_);have r4:IsEnum (g3.push {cls:=.type "tuple",data:=.seq #[.int j tk,x]}) e c ((j:Int)+1) old:=Heap.get?_push_of_some _ r3;generalize q4:g3.push {cls:=.type "tuple",data:=.seq #[.int j tk,x]}=g4 at r4;have sz:g3.objs.size=hp.objs.size:=by rw[e3.1,e2.1,e1.1]
 have el:e<hp.objs.size:=Heap.lt_size he;have t4:g4.get? hp.objs.size=some {cls:=.type "tuple",data:=.seq #[.int j tk,x]}:=by rw[←q4,←sz];exact Heap.get?_push_size _ rfl
 have n4:g4.objs.size=hp.objs.size+1:=by rw[←q4,Heap.size_push,sz]
 have k4:∀b o,b≠e→b≠c→hp.get? b=some o→g4.get? b=some o:=λb o hb1 hb2 hb=>by rw[←q4];exact Heap.get?_push_of_some _ (e3.extBut b o hb1 (e2.extBut b o hb1 (e1.extBut b o hb2 hb)))
 have c4:g4.IsTupleIter c t (j+1):=by rw[←q4];obtain⟨o,ho,r⟩:=(c1.extBut e2.extBut (af hne)).extBut e3.extBut (af hne);exact⟨o,Heap.get?_push_of_some _ ho,r⟩
 show wpAny _ _ (Builtin.SmallTypes.ownedTupleIsFree (.ref e) >>= _) _ _ ⟨g4,gg,d,tk+1,os⟩;rw[sz];clear q4 r3 e3 r2 e2 r1 e1 c1 sz g3 g2 g1;refine wpAny_bind ?_
 ·unfold Builtin.SmallTypes.ownedTupleIsFree;refine wpAny_bind (wpAny_field r4 rfl (x:=.none) rfl (wpAny_pure ?_));simp only[if_true];refine wpAny_bind (wpAny_rule ?_);refine wpAny_bind (wpAny_field r4 rfl (x:=old) rfl ?_);refine wpAny_bind (wpAny_setField_rec r4 (by simp) λg5 r5 e5=>?_);replace e5:Heap.SameBut e g4 g5:=e5;replace r5:IsEnum g5 e c ((j:Int)+1) x:=r5;show wpAny _ _ (Builtin.SmallTypes.ownedTupleHandOut (.ref e) (.ref hp.objs.size) >>= _) _ _ ⟨g5,gg,d,tk+1,os⟩;refine wpAny_bind ?_
  ·unfold Builtin.SmallTypes.ownedTupleHandOut;refine wpAny_bind (wpAny_setField_rec r5 (by simp) λg6 r6 e6=>?_);replace e6:Heap.SameBut e g5 g6:=e6;replace r6:IsEnumOut g6 e c ((j:Int)+1) x hp.objs.size:=r6;refine wpAny_setField_rec r6 (by simp) λg7 r7 e7=>?_;replace e7:Heap.SameBut e g6 g7:=e7;replace r7:IsEnumOut g7 e c ((j:Int)+1) x hp.objs.size:=r7;refine wpAny_bind (wpAny_letGo (wpAny_pure ⟨_,rfl,hQ g7 r7 ?_ ?_ ?_ ?_⟩))
   ·exact((c4.extBut e5.extBut (af hne)).extBut e6.extBut (af hne)).extBut e7.extBut (af hne)
   ·exact e7.extBut _ _ (bD el) (e6.extBut _ _ (bD el) (e5.extBut _ _ (bD el) t4))
   ·rw[e7.1,e6.1,e5.1,n4]
   ·exact λb o hb1 hb2 hb=>e7.extBut b o hb1 (e6.extBut b o hb1 (e5.extBut b o hb1 (k4 b o hb1 hb2 hb)))
theorem zp{e c t:Addr}{j:Nat}{xs:Array Value}{x old:Value}{Q:Option Value→Shared→Prop}(he:IsEnum s.heap e c j old)(hc:s.heap.IsTupleIter c t j)(ht:s.heap.IsTuple t xs)(hx:xs[j]?=some x)(hne:e≠c)
  (hQ:∀g,IsEnumOut g e c ((j:Int)+1) x s.heap.objs.size→g.IsTupleIter c t (j+1)→g.get? s.heap.objs.size=some {cls:=.type "tuple",data:=.seq #[.int j s.toks,x]}→g.objs.size=s.heap.objs.size+1→
   (∀b o,b≠e→b≠c→s.heap.get? b=some o→g.get? b=some o)→Q (some (.ref s.heap.objs.size)) {s with heap:=g,toks:=s.toks+1}):wpAny (model prog w) A (pyNext (.ref e)) Q E s:=by
 have hT:s.TypeIs (.ref e) "enumerate":=⟨_,he,rfl⟩;unfold pyNext;exact wpAny_bind (wpAny_attempt (wpAny_callSpecial?_slot (name:=Str.ofString "__next__") hT F.slot_enumerate_next (wpAny_call_entry F.slot_enumerate_next hT F.entry_enumerate_next (E3 he hc ht hx hne λg a b c d k=>wpAny_pure (hQ g a b c d k)) (F.args_enumerate_next_1 _))))
theorem Cc{e c t:Addr}{j:Nat}{xs:Array Value}{old:Value}{Q:Option Value→Shared→Prop}(hh:A.handled=none)(he:IsEnum s.heap e c j old)(hc:s.heap.IsTupleIter c t j)(ht:s.heap.IsTuple t xs)(hx:xs[j]?=none)
  (hQ:∀g,Heap.ExtBut c s.heap g→Q none {s with heap:=g}):wpAny (model prog w) A (pyNext (.ref e)) Q E s:=by
 have hT:s.TypeIs (.ref e) "enumerate":=⟨_,he,rfl⟩;unfold pyNext;refine wpAny_bind (wpAny_attempt (wpAny_callSpecial?_slot (name:=Str.ofString "__next__") hT F.slot_enumerate_next (wpAny_call_entry F.slot_enumerate_next hT F.entry_enumerate_next ?_ (F.args_enumerate_next_1 _))));show wpAny _ _ (field (.ref e) 2 >>= _) _ _ _;refine wpAny_bind (wpAny_field he rfl (x:=.ref c) rfl ?_);refine wpAny_bind (DH hh hc ht hx λg y he' hy=>?_);obtain⟨o,ho,hcl⟩:=hy;exact wpAny_bind (wpAny_isInstance (T:="StopIteration") (b:=true) ⟨o,ho,hcl⟩ isSubtype_stop (wpAny_pure (hQ _ he')))
end
theorem Cd(t:Addr)(o:Obj)(xs:Array Value)(hcls:o.cls=.type "tuple")(n:Nat)(hdat:o.data=.seq xs n):
  Meets (Builtin.«enumerate.__new__» ⟨[.type "enumerate",.ref t],[]⟩) (λ_ R s=>s.heap.get? t=some o∧
   R (.ok (.ret (.ref (s.heap.push {cls:=.type "tuple_iterator",data:=.fields #[.ref t,.int 0 0]}).objs.size)))
    {s with heap:=(s.heap.push {cls:=.type "tuple_iterator",data:=.fields #[.ref t,.int 0 0]}).push {cls:=.type "enumerate",data:=.fields #[.none,.bool false,.ref s.heap.objs.size,rawInt 0,.none,.none]}}):=
 .of_wp λprog w A R s h=>by
  obtain⟨hp,g,d,tk,os⟩:=s;obtain⟨hl,h⟩:=h;obtain⟨oc,od,oda,osl⟩:=o;cases hcls;cases hdat;have hsub:=sub_enumerate;have hL:Heap.IsTuple (Shared.heap ⟨hp,g,d,tk,os⟩) t xs:=⟨_,hl,rfl,n,rfl⟩
  wp_walk using wpAny_loadPart' hl
  refine wpAny_stack_any λst=>wpAny_pure ?_;split
  ·rename_i c _ _ _ _ _;cases(c==Value.type "enumerate")
   ·wp_walk using wpAny_loadPart' hl,wpAny_pyIter_tuple hL
    exact⟨_,rfl,h⟩
   ·wp_walk using wpAny_loadPart' hl,wpAny_pyIter_tuple hL
    exact⟨_,rfl,h⟩
  ·wp_walk using wpAny_loadPart' hl,wpAny_pyIter_tuple hL
   exact⟨_,rfl,h⟩
section
variable {prog:Program}{w:World}{A:Around}{E:Value→Shared→Prop}{s:Shared}
theorem E4(ht:s.heap.IsTuple t xs)
  (h:∀g n,n=s.heap.objs.size→IsEnum g (n+1) n 0 .none→g.IsTupleIter n t 0→g.objs.size=n+2→(∀c o,s.heap.get? c=some o→g.get? c=some o)→Q (.ref (n+1)) {s with heap:=g}):wpAny (model prog w) A (call (.type "enumerate") [.ref t]) Q E s:=by
 obtain⟨o,ho,hc,n,hd⟩:=ht;refine callType_new F.called_enumerate (by decide) (F.typeCall_enumerate_1 _) (F.newCall_enumerate_1 _) (λobj=>F.args_object_init_2 obj _) F.entry_enumerate_new (Cd t o xs hc n hd) ⟨ho,?_⟩;have z1:(s.heap.push {cls:=.type "tuple_iterator",data:=.fields #[.ref t,.int 0 0]}).objs.size=s.heap.objs.size+1:=Heap.size_push ..;show _∧_;have g2:((s.heap.push {cls:=.type "tuple_iterator",data:=.fields #[.ref t,.int 0 0]}).push {cls:=.type "enumerate",data:=.fields #[.none,.bool false,.ref s.heap.objs.size,rawInt 0,.none,.none]}).get? (s.heap.push {cls:=.type "tuple_iterator",data:=.fields #[.ref t,.int 0 0]}).objs.size=some _:=Heap.get?_push_size _ rfl;rw[z1]at g2⊢;exact⟨⟨_,g2,rfl⟩,h _ _ rfl g2 ⟨_,Heap.get?_push_of_some _ (Heap.get?_push_size _ rfl),rfl,rfl⟩ (by rw[Heap.size_push,z1]) λc o e=>Heap.get?_push_of_some _ (Heap.get?_push_of_some _ e)⟩
end
end PySem
namespace L2
open PySem PySem.Spec PyProof.Rows
def NY(K:aA)(a:Addr):It:=
  ⟨λi H=>∃xs x,eD K H a xs∧xs[i]?=some x,
   λi H v H'=>∃p x,v=.ref p∧H p=none∧H'=upd H p (.tup [.int i,x])∧∀xs,eD K H a xs→xs[i]?=some x,
   λi H=>∃xs,eD K H a xs∧xs.length≤i⟩
theorem ym{P:Program}{w:World}{K:aA}{es:List Expr}{x1}{pos:Pos}{e c a:Addr}(hne:e≠c):vR P w K (.Tuple es x1 pos) (NY K a) [e,c] e
  (λi h=>(∃old,IsEnum h e c i old)∧h.IsTupleIter c a i) where
 mem:=by simp
 obj:=λi h st b hb=>by
  obtain⟨⟨old,he⟩,⟨oc,ec,_,dc⟩⟩:=st;simp only[aB,aF,or_false]at hb;rcases hb with rfl|rfl
  ·exact⟨_,he,λv e=>by cases(show Data.fields _=Data.cell v from e)⟩
  ·exact⟨oc,ec,λv e=>by rw[dc]at e;cases e⟩
 keep:=λi h h' st k=>by obtain⟨⟨old,he⟩,⟨oc,ec,rc⟩⟩:=st;exact⟨⟨old,k e (by simp) _ he⟩,⟨oc,k c (by simp) _ ec,rc⟩⟩
 item:=by
  intro X hP hw hK hc i pins s σ H E I hf st hg;subst hP hw hK;obtain⟨⟨old,he⟩,h1⟩:=st;obtain⟨xs,x,hxs,hx⟩:=hg;obtain⟨its,rv,pa,za⟩:=I.tuple hxs;obtain⟨u,hu,ru⟩:=rv.get hx;have cl:c<s.heap.objs.size:=by obtain⟨_,e,_⟩:=h1;exact Heap.lt_size e
  refine zp he h1 (show s.heap.IsTuple a its.toArray from pa) (x:=u) (by simpa using hu) hne λg g1 g2 g3 g4 g5=>?_;refine⟨_,rfl,wpAny_letOwnedTupleGo_enum g1 λg' z' sb=>?_⟩;replace sb:Heap.SameBut e g g':=sb;have zl:e<s.heap.objs.size:=Heap.lt_size he;have kk:∀b u,b∉[e,c]→s.heap.get? b=some u→g'.get? b=some u:=λb u hb ee=>by simp only[aB,aF,or_false,not_or]at hb;exact sb.extBut _ _ hb.1 (g5 b u hb.1 hb.2 ee)
  have pT:g'.get? s.heap.objs.size=some {cls:=.type "tuple",data:=.seq #[.int i s.toks,u]}:=sb.extBut _ _ (bD zl) g3;have new:gf X.prog X.w (upd H s.heap.objs.size (.tup [.int i,x])) g' s.heap.objs.size (.tup [.int i,x]):=⟨(by show 2≤sizeLine;rw[sizeLine_eq];decide),[.int i s.toks,u],.cons ⟨_,rfl⟩ (.cons ru .nil),_,pT,rfl,_,rfl⟩;have I1:eZ X pins σ (upd H s.heap.objs.size (.tup [.int i,x])) {s with heap:=g',toks:=s.toks+1}:=I.turnedN (t':=s.toks+1) hf kk (aC _) new;obtain⟨oc,ec,rc⟩:=g2;refine⟨.ref s.heap.objs.size,_,I1,rfl,⟨s.heap.objs.size,x,rfl,I.hok.fresh (aC _),rfl,λzs hzs=>by rw[I.tuple_inj hzs hxs];exact hx⟩,
   ⟨⟨_,z'⟩,⟨oc,sb.extBut _ _ (af hne) ec,rc⟩⟩,λb hb=>?_⟩
  have hbn:=(hf b hb).1;have:b≠s.heap.objs.size:=by
   simp only[aB,aF,or_false]at hb;rcases hb with rfl|rfl
   ·exact aM zl
   ·exact aM cl
  rw[dj this];exact hbn
 done:=by intro X hP hw hK hc i pins s σ H E I hf st hg;subst hP hw hK;obtain⟨⟨old,he⟩,h1⟩:=st;obtain⟨xs,hxs,hl⟩:=hg;obtain⟨its,rv,pa,za⟩:=I.tuple hxs;have hlen:=rv.length;refine Cc (I.ok.hd hc) he h1 (show s.heap.IsTuple a its.toArray from pa) (by simp;lia) λg kg=>⟨rfl,I.turnedL (t':=s.toks) hf λb u hb ee=>?_⟩;simp only[aB,aF,or_false,not_or]at hb;exact kg b u hb.2 ee
 self:=λ_ _ _ _ _ st h=>by obtain⟨⟨_,he⟩,_⟩:=st;exact wpAny_pyIter_enum he h
def Fs(K:aA)(ta:TE):TI:=λσ H R=>ta σ H λx H1=>onR x λa=>lP (eD K H1 a) λ_=>R (NY K a) H1
theorem uC:bootBuiltins "enumerate"=some (.type "enumerate"):=by decide
section
variable {X:Cx}{es:List Expr}{x1:Nat}{tp:Pos}
theorem EW{l:Expr}{ta:TE}{np pos:Pos}(hg:Gl X "enumerate")(hm:X.mg "enumerate"=none)(ha:PE X l ta)(he:starEach [l] X.env=[(false,eval l X.env)]:=by rfl):
  PI X (.Tuple es x1 tp) (.Call (.Name "enumerate" np) [l] [] pos) (Fs X.K ta):=by
 intro pins s σ H R I h;refine wpAny_Call_Name_kw (kO I hg hm uC ?_);have h1:starEach (l::[]) X.env=(false,eval l X.env)::starEach [] X.env:=he;refine bP (thn ((eA ha fZ h1:PA X [l] (dP ta dZ)) pos pins s σ H (λvs H2=>on1 vs λx=>onR x λa=>lP (eD X.K H2 a) λ_=>R (NY X.K a) H2) I h) λus s1 ⟨vs,H1,I1,r1,q1⟩=>?_) h1 (by rfl);obtain⟨_,rfl,q1⟩:=on1.ex q1;obtain⟨a,rfl,q1⟩:=onR.ex q1;obtain @⟨xs,hxs,q⟩:=q1;obtain⟨u,rfl,ru⟩:=fL.one r1;cases ru;obtain⟨its,rva,pa,_⟩:=I1.tuple hxs;refine E4 (show s1.heap.IsTuple a its.toArray from pa) λg n en g1 g2 g3 g4=>?_;refine wpAny_pyIter_enum g1 ?_;refine⟨n+1,[n+1,n],_,_,H1,rfl,I1.kept (t':=s1.toks) g4,ym (a:=a) (Nat.succ_ne_self n),⟨⟨_,g1⟩,g2⟩,λc hc=>?_,q⟩;have:s1.heap.objs.size≤c:=by
  simp only[aB,aF,or_false]at hc;rw[←en];rcases hc with e|e<;>rw[e]
  ·exact bg n 1
  ·exact aC n
 exact I1.fpOk this (I1.hok.fresh this)
end
section
variable {X:Cx}
end
end L2
namespace PySem
open AutoSeq1
theorem Lf(l:Addr)(eM:Array Value)(n:Nat)(b:Addr)(o:Obj)(items2:Array Value)(n2:Nat)(hcls:o.cls=.type "tuple")(hdat:o.data=.seq items2 n2)(hs0:¬(!eM.isEmpty&&Builtin.List.listTooLong (eM.size+items2.size))=true)(hs1:eM.size≤sizeLine)(hs2:eM.size+items2.size≤sizeLine+1):
  Meets (Builtin.«list.extend» ⟨[.ref l,.ref b],[]⟩) (λ_ R s=>s.heap.get? l=some {cls:=.type "list",dict:=none,data:=.seq eM n,slots:=#[]}∧s.heap.get? b=some o∧R (.ok (.ret Value.none)) {s with heap:=s.heap.update l (Obj.mapSeq λx=>x++items2),toks:=s.toks}):=
 .of_wp λprog w A R s h=>by
  obtain⟨hp,g,d,tk,os⟩:=s;obtain⟨hl,hb,h⟩:=h;have f1:=idx_int;have f2:=sub_tuple_tuple;have f3:=sub_list_list;have f4:=sub_tuple_list;have f5:=sub_list_tuple;obtain⟨oc,od,oda,osl⟩:=o;cases hcls;cases hdat;have hz':(eM++items2).size≤sizeLine+1:=by rw[Array.size_append];exact hs2
  wp_walk using(wpAny_updateSeq hl rfl (hz:=hs1) (_hz':=hz')),wpAny_loadPart' hl,wpAny_loadPart' hb
  exact⟨_,rfl,h⟩
end PySem
namespace L2
open PySem PySem.Spec PyProof.Rows
section
variable {X:Cx}
def uk:V→List V→Hp→VK→Prop:=λx vs H Q=>∃l b xs zs,x=.ref l∧vs=[.ref b]∧H l=some (.lst xs)∧H b=some (.tup zs)∧xs.length+zs.length≤sizeLine∧Q .non (upd H l (.lst (xs++zs)))
theorem wU:Lq X "list.extend" uk:=by
 intro pins s σ H x vs v us Q I rx rv h;obtain⟨l,b,xs,zs,rfl,rfl,hH,hB,hz,q⟩:=h;cases rx;obtain⟨u,rfl,ru⟩:=rv.one;cases ru;obtain⟨z,its,n,r,hl,e⟩:=I.lstM hH;obtain⟨z2,its2,r2,o,e2,hc,n2,hd⟩:=(show gf X.prog X.w H s.heap b (.tup zs)from I.hok b _ hB);have hl2:=r2.length;have hsz:its.toArray.size+its2.toArray.size≤sizeLine:=by rw[aL,aL];lia
 have hlong:¬(!its.toArray.isEmpty&&Builtin.List.listTooLong (its.toArray.size+its2.toArray.size))=true:=by rw[ut hsz,Bool.and_false];exact aR
 refine call_meets F.slot_list_extend ⟨_,e,rfl⟩ F.entry_list_extend (F.args_list_extend_2 _ _)
  (PySem.Lf l its.toArray n b o its2.toArray n2 hc hd hlong (by rw[aL];lia) (by lia)) ⟨e,e2,?_⟩
 refine⟨.non,_,I.lset (its':=its++its2) hH e (by simp) (r.append r2) ?_,rfl,q⟩;rw[aD];lia
end
end L2
namespace S9
open PySem L2 SW
inductive G where
 | leaf(k:Str)(x:V)
 | plain(k:Str)(ks:List G)
 | word(k w:Str)(ks:List G)
def G.kids:G→List G
 | .leaf _ _=>[]
 | .plain _ ks=>ks
 | .word _ _ ks=>ks
def G.hd:G→List V
 | .leaf k x=>[.str k,x]
 | .plain k _=>[.str k]
 | .word k w _=>[.str k,.str w]
def G.kind:G→Str
 | .leaf k _=>k
 | .plain k _=>k
 | .word k _ _=>k
def G.ok:G→Prop
 | .leaf k _=>k="number"∨k="name"
 | .plain k _=>k≠"number"∧k≠"name"∧k≠"let"∧k≠"stamp"
 | .word k w _=>k="let"∨k="stamp"
inductive DG(H:Hp):G→V→Prop where
 | mk{g:G}{p:Addr}{us:List V}:g.ok→H p=some (.tup (g.hd++us))→us.length=g.kids.length→(∀(i:Nat)(k:G)(u:V),g.kids[i]?=some k→us[i]?=some u→DG H k u)→DG H g (.ref p)
def kE(H:Hp)(gs:List G)(us:List V):Prop:=us.length=gs.length∧∀(i:Nat)(k:G)(u:V),gs[i]?=some k→us[i]?=some u→DG H k u
theorem DG.mono(k:fR H H')(h:DG H g v):DG H' g v:=by
 induction h with
 | mk a b c d ih=>exact .mk a (k _ _ b) c ih
theorem kE.mono(k:fR H H')(h:kE H gs us):kE H' gs us:=⟨h.1,λi a u e1 e2=>(h.2 i a u e1 e2).mono k⟩
theorem DG.open(h:DG H g v):∃p us,v=.ref p∧g.ok∧H p=some (.tup (g.hd++us))∧kE H g.kids us:=by
 cases h with
 | mk a b c d=>exact⟨_,_,rfl,a,b,c,d⟩
theorem kE.nil:kE H [] []:=⟨rfl,λi k u e=>by simp at e⟩
theorem kE.cons(a:DG H g v)(b:kE H gs us):kE H (g::gs) (v::us):=by
 refine⟨by rw[aE,aE,b.1],λi k u e1 e2=>?_⟩;cases i with
 | zero=>cases e1;cases e2;exact a
 | succ i=>exact b.2 i k u e1 e2
theorem kE.head(h:kE H (g::gs) (v::us)):DG H g v∧kE H gs us:=
 ⟨h.2 0 g v rfl rfl,by have:=h.1;rw[aE,aE]at this;lia,λi k u e1 e2=>h.2 (i+1) k u e1 e2⟩
theorem kE.append(a:kE H gs us)(b:kE H ks vs):kE H (gs++ks) (us++vs):=by
 induction gs generalizing us with
 | nil=>obtain⟨e,_⟩:=a;cases us with
  | nil=>exact b
  | cons _ _=>cases e
 | cons g gs ih=>
  cases us with
  | nil=>have:=a.1;cases this
  | cons u us=>exact .cons a.head.1 (ih a.head.2)
theorem kE.snoc(h:kE H gs (us++[u])):∃ks k,gs=ks++[k]∧kE H ks us∧DG H k u:=by
 have hl:=h.1;have hne:gs≠[]:=λe=>by subst e;simp at hl
 obtain⟨ks,k,rfl⟩:=fz hne;have hl2:us.length=ks.length:=by simpa using hl
 refine⟨ks,k,rfl,⟨hl2,λi a u' e1 e2=>h.2 i a u' ?_ ?_⟩,h.2 ks.length k u ?_ ?_⟩
 ·rw[bB (aN.mp e1).1];exact e1
 ·rw[bB (aN.mp e2).1];exact e2
 ·simp
 ·rw[←hl2];simp
def gm:T→G
 | .num n=>.leaf "number" (.int n)
 | .name w=>.leaf "name" (.str w)
 | .sum a b=>.plain "sum" [gm a,gm b]
 | .less a b=>.plain "less" [gm a,gm b]
 | .cho a b c=>.plain "choose" [gm a,gm b,gm c]
 | .lt w a b=>.word "let" w [gm a,gm b]
 | .st0 w=>.word "stamp" w []
 | .st1 w a=>.word "stamp" w [gm a]
 | .st2 w a b=>.word "stamp" w [gm a,gm b]
theorem jX:∀{t:T}{v:V},gN H t v→DG H (gm t) v
 | .num _,_,⟨p,e,h⟩=>by subst e;exact .mk (us:=[]) (.inl rfl) h rfl λi k u e=>by simp[G.kids,gm]at e
 | .name _,_,⟨p,e,h⟩=>by subst e;exact .mk (us:=[]) (.inr rfl) h rfl λi k u e=>by simp[G.kids,gm]at e
 | .sum _ _,_,⟨p,x,y,e,h,a,b⟩=>by subst e;have d:=kE.cons (jX a) (.cons (jX b) .nil);exact .mk (us:=[x,y]) ⟨by decide,by decide,by decide,by decide⟩ h rfl d.2
 | .less _ _,_,⟨p,x,y,e,h,a,b⟩=>by subst e;have d:=kE.cons (jX a) (.cons (jX b) .nil);exact .mk (us:=[x,y]) ⟨by decide,by decide,by decide,by decide⟩ h rfl d.2
 | .cho _ _ _,_,⟨p,x,y,z,e,h,a,b,c⟩=>by subst e;have d:=kE.cons (jX a) (.cons (jX b) (.cons (jX c) .nil));exact .mk (us:=[x,y,z]) ⟨by decide,by decide,by decide,by decide⟩ h rfl d.2
 | .lt _ _ _,_,⟨p,x,y,e,h,a,b⟩=>by subst e;have d:=kE.cons (jX a) (.cons (jX b) .nil);exact .mk (us:=[x,y]) (.inl rfl) h rfl d.2
 | .st0 _,_,⟨p,e,h⟩=>by subst e;exact .mk (us:=[]) (.inr rfl) h rfl λi k u e=>by simp[G.kids,gm]at e
 | .st1 _ _,_,⟨p,x,e,h,a⟩=>by subst e;have d:=kE.cons (jX a) kE.nil;exact .mk (us:=[x]) (.inr rfl) h rfl d.2
 | .st2 _ _ _,_,⟨p,x,y,e,h,a,b⟩=>by subst e;have d:=kE.cons (jX a) (.cons (jX b) .nil);exact .mk (us:=[x,y]) (.inr rfl) h rfl d.2
theorem kE.two(h:kE H [a,b] us):∃x y,us=[x,y]∧DG H a x∧DG H b y:=by
 obtain⟨l,d⟩:=h
 match us,l with
 | [x,y],_=>exact⟨x,y,rfl,d 0 a x rfl rfl,d 1 b y rfl rfl⟩
theorem kE.three(h:kE H [a,b,c] us):∃x y z,us=[x,y,z]∧DG H a x∧DG H b y∧DG H c z:=by
 obtain⟨l,d⟩:=h
 match us,l with
 | [x,y,z],_=>exact⟨x,y,z,rfl,d 0 a x rfl rfl,d 1 b y rfl rfl,d 2 c z rfl rfl⟩
theorem kE.one(h:kE H [a] us):∃x,us=[x]∧DG H a x:=by
 obtain⟨l,d⟩:=h
 match us,l with
 | [x],_=>exact⟨x,rfl,d 0 a x rfl rfl⟩
theorem kE.none(h:kE H [] us):us=[]:=cK.mp h.1
theorem iH:∀{t:T}{v:V},DG H (gm t) v→gN H t v
 | .num _,_,d=>by obtain⟨p,us,rfl,_,h,k⟩:=d.open;cases k.none;exact⟨p,rfl,h⟩
 | .name _,_,d=>by obtain⟨p,us,rfl,_,h,k⟩:=d.open;cases k.none;exact⟨p,rfl,h⟩
 | .sum _ _,_,d=>by obtain⟨p,us,rfl,_,h,k⟩:=d.open;obtain⟨x,y,rfl,a,b⟩:=kE.two k;exact⟨p,x,y,rfl,h,iH a,iH b⟩
 | .less _ _,_,d=>by obtain⟨p,us,rfl,_,h,k⟩:=d.open;obtain⟨x,y,rfl,a,b⟩:=kE.two k;exact⟨p,x,y,rfl,h,iH a,iH b⟩
 | .cho _ _ _,_,d=>by obtain⟨p,us,rfl,_,h,k⟩:=d.open;obtain⟨x,y,z,rfl,a,b,c⟩:=kE.three k;exact⟨p,x,y,z,rfl,h,iH a,iH b,iH c⟩
 | .lt _ _ _,_,d=>by obtain⟨p,us,rfl,_,h,k⟩:=d.open;obtain⟨x,y,rfl,a,b⟩:=kE.two k;exact⟨p,x,y,rfl,h,iH a,iH b⟩
 | .st0 _,_,d=>by obtain⟨p,us,rfl,_,h,k⟩:=d.open;cases k.none;exact⟨p,rfl,h⟩
 | .st1 _ _,_,d=>by obtain⟨p,us,rfl,_,h,k⟩:=d.open;obtain⟨x,rfl,a⟩:=kE.one k;exact⟨p,x,rfl,h,iH a⟩
 | .st2 _ _ _,_,d=>by obtain⟨p,us,rfl,_,h,k⟩:=d.open;obtain⟨x,y,rfl,a,b⟩:=kE.two k;exact⟨p,x,y,rfl,h,iH a,iH b⟩
theorem vD(t:T):(gm t).kids=t.kids.map gm:=by cases t<;>rfl
theorem tY:∀{ts:List T}{us:List V},kE H (ts.map gm) us→gJ H ts us
 | [],us,h=>by cases h.none;exact .nil
 | t::ts,[],h=>by have:=h.1;cases this
 | t::ts,u::us,h=>.cons (iH h.head.1) (tY h.head.2)
mutual
def G.size:G→Nat
 | .leaf _ _=>1
 | .plain _ ks=>1+iJ ks
 | .word _ _ ks=>1+iJ ks
def iJ:List G→Nat
 | []=>0
 | k::ks=>k.size+iJ ks
end
theorem G.size_kids(g:G):g.size=1+iJ g.kids:=by cases g<;>simp[G.size,G.kids,iJ]
theorem jj(a b:List G):iJ (a++b)=iJ a+iJ b:=by
 induction a with
 | nil=>simp[iJ]
 | cons k ks ih=>rw[aO,iJ,iJ,ih,Nat.add_assoc]
theorem nj(g:G):iJ [g]=g.size:=by simp[iJ]
theorem rE(gs:List G):gs.length≤iJ gs:=by
 induction gs with
 | nil=>exact aU _
 | cons g gs ih=>have:=g.size_kids;rw[aE,iJ];lia
inductive Od:List G→List G→Prop where
 | nil:Od [] []
 | step{s l:List G}{g:G}:Od (s++g.kids) l→Od (s++[g]) (g::l)
inductive xH(x:G):G→Prop where
 | refl:xH x x
 | kid{g k:G}:k∈g.kids→xH x k→xH x g
theorem Od.mem(h:Od s l)(x:G):x∈l↔∃g∈s,xH x g:=by
 induction h with
 | nil=>simp
 | @step s l g _ ih=>
  rw[aB,ih];constructor
  ·rintro(rfl|⟨y,hy,i⟩)
   ·exact⟨x,by simp,.refl⟩
   ·rcases aW.mp hy with z|z
    ·exact⟨y,by simp[z],i⟩
    ·exact⟨g,by simp,.kid z i⟩
  ·rintro⟨y,hy,i⟩;rcases aW.mp hy with z|z
   ·exact .inr ⟨y,ag _ z,i⟩
   ·rw[aG]at z;subst z;cases i with
    | refl=>exact .inl rfl
    | kid hk i=>exact .inr ⟨_,aS _ hk,i⟩
theorem Od.one(h:Od [g] l)(x:G):x∈l↔xH x g:=by rw[h.mem];simp
def jB:Sp:=λvs H Q _=>∃g v,vs=[v]∧DG H g v∧∀p us H',dz H H'→H' p=some (.tup us)→kE H' g.kids us→Q (.ref p) H'
def mB:Sp:=λvs H Q _=>∃g v,vs=[v]∧DG H g v∧g.size≤5000∧∀l us L H',dz H H'→H l=none→H' l=some (.lst us)→Od [g] L→kE H' L us→Q (.ref l) H'
variable {K:aA}{vs:List V}{H:Hp}{Q:VK}{E:XK}
theorem nk(h:k≠w):decide (V.str k=V.str w)=false:=decide_eq_false λe=>h (V.str.inj e)
theorem Jb(h:jB vs H Q E):DR K (gr Q) (start ["piece","kind"] vs) H:=by
 obtain⟨g,v,rfl,hd,k⟩:=h;obtain⟨p,us,rfl,ok,hp,dk⟩:=hd.open;cases g with
 | leaf kd x=>
  have e:us=[]:=by have:=dk.1;simpa[G.kids]using this
  subst e;refine⟨eD.of hp,rfl,?_⟩;refine⟨rfl,_,rfl,?_⟩;rcases ok with rfl|rfl
  ·refine fc (by decide) (qc ?_);exact⟨fM,λq hq=>k q [] _ (dX hq) dR .nil⟩
  ·refine eN (by decide) ?_;refine⟨rfl,_,rfl,?_⟩;refine fc (by decide) ?_;exact⟨fM,λq hq=>k q [] _ (dX hq) dR .nil⟩
 | plain kd ks=>obtain⟨o1,o2,o3,o4⟩:=ok;have ec:ix (.str kd::us) (some 1) none=us:=(lg (.str kd::us) 1 (by simp)).trans rfl;refine⟨eD.of hp,dW (j:=0) rfl,?_⟩;refine⟨rfl,_,rfl,eN (nk o1) ⟨rfl,_,rfl,eN (nk o2) ⟨rfl,_,rfl,eN (nk o3) ⟨rfl,_,rfl,eN (nk o4) ?_⟩⟩⟩⟩;refine⟨eD.of hp,jU 1 (by decide) (by simp[G.hd]),λq hq=>?_⟩;refine k q us _ (dX hq) ?_ (dk.mono (iO hq));show upd H q (.tup (ix (.str kd::us) (some 1) none)) q=_;rw[ec,dR]
 | word kd w ks=>
  have ec:ix (.str kd::.str w::us) (some 2) none=us:=(lg (.str kd::.str w::us) 2 (by simp)).trans rfl;have fin2:∀q,H q=none→Q (.ref q) (upd H q (.tup (ix (.str kd::.str w::us) (some 2) none))):=λq hq=>by refine k q us _ (dX hq) ?_ (dk.mono (iO hq));rw[ec,dR]
  refine⟨eD.of hp,dW (j:=0) rfl,?_⟩;refine⟨rfl,_,rfl,?_⟩;rcases ok with rfl|rfl
  ·refine eN (by decide) ⟨rfl,_,rfl,eN (by decide) ⟨rfl,_,rfl,fc (by decide) (qc ?_)⟩⟩;exact⟨eD.of hp,jU 2 (by decide) (by simp[G.hd]),fin2⟩
  ·refine eN (by decide) ⟨rfl,_,rfl,eN (by decide) ⟨rfl,_,rfl,eN (by decide) ⟨rfl,_,rfl,fc (by decide) ?_⟩⟩⟩;exact⟨eD.of hp,jU 2 (by decide) (by simp[G.hd]),fin2⟩
theorem J9(h:sU vs H Q E):jB vs H Q E:=by obtain⟨t,v,rfl,d,k⟩:=h;exact⟨gm t,v,rfl,jX d,λp us H' s hp dk=>k p us H' s hp (tY (by rw[vD]at dk;exact dk))⟩
def Hi(K:aA):TS:=(dq (eG (mV K "list" mY (dQ 2)) (db 3)) (dq (fG (jm K "list" ef (dQ 1) (dP (dQ 3) dZ))) (fG (jm K "list" uk (dQ 2) (dP (eY jB [] E0 (dP (dQ 3) dZ)) dZ)))))
def MP(K:aA):TS:=(dq (eG (fX dZ) (db 1)) (dq (eG (fX (dP (dQ 0) dZ)) (db 2)) (dq (iF (eL (eC pA (iB (gT K) (dP (dQ 2) dZ)) (tC (.int 0)))) (Hi K)) (fY (dQ 1)))))
structure Nb(g:G)(H₀ H:Hp)(fl wl:Addr)(fs us:List V)(F S:List G):Prop where
 same:dz H₀ H
 nf:H₀ fl=none
 nw:H₀ wl=none
 ne:fl≠wl
 f_:H fl=some (.lst fs)
 w_:H wl=some (.lst us)
 df:kE H F fs
 dw:kE H S us
 od:∀l,Od S l→Od [g] (F++l)
 sz:iJ S+F.length≤g.size
def Oa(g:G)(H:Hp)(fl wl:Addr)(v:V)(m:Nat)(σ:St)(H':Hp):Prop:=∃j3 fs us F S,σ=[some v,some (.ref fl),some (.ref wl),j3]∧Nb g H H' fl wl fs us F S∧m=iJ S
theorem OA(h:mB vs H Q E):MP K (gr Q) (start ["piece","found","waiting","current"] vs) H:=by
 obtain⟨g,v,rfl,hd,hsz,k⟩:=h;refine⟨fM,λfl hf=>⟨fM,λwl hw=>?_⟩⟩;have s1:dz H (upd H fl (.lst [])):=dX hf;have s2:=dX (o:=.lst [v]) hw;have n1:fl≠wl:=de (dR (H:=H) (a:=fl) (o:=.lst [])) hw;refine⟨Oa g H fl wl v,⟨_,none,[],[v],[],[g],rfl,?_,rfl⟩,?_⟩
 ·exact⟨s1.trans s2,hf,s1.free hw,n1,s2 _ _ dR,dR,.nil,.cons (hd.mono (dh (s1.trans s2))) .nil,λl h=>h,by rw[nj];simp⟩
 ·clear s1 s2;rintro m σ H1 ⟨j3,fs,us,F,S,rfl,A,rfl⟩;refine⟨.inl (eJ.of A.w_),_,rfl,?_⟩;by_cases hv:us=[]
  ·subst hv;refine eN rfl ?_;have e:S=[]:=cK.mp A.dw.1.symm;subst e;have od:=A.od [] .nil;rw[aZ]at od;exact(k fl fs F _ A.same hf A.f_ od A.df)
  ·obtain⟨us,u,rfl⟩:=fz hv;refine fc (decide_eq_true (by simp)) ?_;obtain⟨S',g',rfl,d1,d2⟩:=A.dw.snoc;refine⟨Lt (Oa g H fl wl v) (iJ (S'++[g'])),λ_ _ h=>h,?_⟩;refine⟨.inl ⟨rfl,_,eJ.of A.w_⟩,A.w_,jN,?_⟩;rw[iX];have hsz2:=A.sz;rw[jj,nj]at hsz2;have hk:=g'.size_kids;have hf1:=A.df.1;have t1:fR H1 (upd H1 wl (.lst us)):=fP A.w_;have s1:dz H (upd H1 wl (.lst us)):=eI A.same A.nw;have f1:(upd H1 wl (.lst us)) fl=some (.lst fs):=by rw[dj A.ne];exact A.f_
   have w1:(upd H1 wl (.lst us)) wl=some (.lst us):=dR;have df1:=A.df.mono t1;have dw1:=d1.mono t1;have dg1:=d2.mono t1;generalize upd H1 wl (.lst us)=H2 at s1 f1 w1 df1 dw1 dg1⊢;refine⟨.inl ⟨rfl,_,eJ.of f1⟩,f1,by rw[sizeLine_eq];lia,?_⟩;have t2:fR H2 (upd H2 fl (.lst (fs++[u]))):=fP f1;have s2:dz H (upd H2 fl (.lst (fs++[u]))):=eI s1 hf;have f2:(upd H2 fl (.lst (fs++[u]))) fl=some (.lst (fs++[u])):=dR;have w2:(upd H2 fl (.lst (fs++[u]))) wl=some (.lst us):=by rw[dj A.ne.symm];exact w1
   have df2:=(df1.append (.cons dg1 .nil)).mono t2;have dw2:=dw1.mono t2;have dg2:=dg1.mono t2;generalize upd H2 fl (.lst (fs++[u]))=H3 at s2 f2 w2 df2 dw2 dg2⊢;refine⟨.inl ⟨rfl,_,eJ.of w2⟩,g',u,rfl,dg2,λp ks H4 s4 hp dk=>?_⟩;have hl1:=dw2.1;have hl2:=dk.1;have hl3:=rE S';have hl4:=rE g'.kids;refine⟨wl,p,us,ks,rfl,rfl,s4 _ _ w2,hp,by rw[sizeLine_eq];lia,?_⟩;have w4:=s4 _ _ w2;have t5:fR H4 (upd H4 wl (.lst (us++ks))):=fP w4;refine⟨iJ (S'++g'.kids),by rw[jj,jj,nj];lia,_,fs++[u],us++ks,F++[g'],S'++g'.kids,rfl,⟨eI (s2.trans s4) A.nw,hf,A.nw,A.ne,?_,dR,(df2.mono (dh s4)).mono t5,((dw2.mono (dh s4)).append dk).mono t5,λl h=>?_,?_⟩,rfl⟩
   ·rw[dj A.ne];exact s4 _ _ f2
   ·rw[aV];exact A.od _ (.step h)
   ·rw[jj,aD,aw];lia
end S9
namespace S9
open PySem L2 SW
variable {K:aA}{vs:List V}{H:Hp}{Q:VK}{E:XK}{N:Addr}
def kC(H:Hp)(w:Str)(ps:List Str)(g:G)(v:V):Prop:=∃p l x,v=.ref p∧H p=some (.tup [.str w,.ref l,x])∧H l=some (.lst (ps.map V.str))∧DG H g x
theorem kC.mono(s:dz H H')(h:kC H w ps g v):kC H' w ps g v:=by obtain⟨p,l,x,e,a,b,c⟩:=h;exact⟨p,l,x,e,s _ _ a,s _ _ b,c.mono (dh s)⟩
structure Bk(H:Hp)(v1 v2 v3:V)(g1 g2 g3:G):Prop where
 a:kC H "star" [] g1 v1
 b:∃p,kC H "sta" [p] g2 v2
 c:∃p q,kC H "st" [p,q] g3 v3
theorem Bk.mono(s:dz H H')(h:Bk H v1 v2 v3 g1 g2 g3):Bk H' v1 v2 v3 g1 g2 g3:=⟨h.a.mono s,h.b.imp λ_ z=>z.mono s,h.c.imp λ_ z=>z.imp λ_ z=>z.mono s⟩
def zd(v1 v2 v3:V):List (fO×V):=[(.inr "star",v1),(.inr "sta",v2),(.inr "st",v3)]
theorem Kq:("star":Str)≠"sta":=by decide
theorem Fm:("star":Str)≠"st":=by decide
theorem Ko:("sta":Str)≠"st":=by decide
def lB(w:Str):Option Nat:=if w="star" then some 0 else if w="sta" then some 1 else if w="st" then some 2 else none
def Ji:G→Prop
 | .word k w ks=>k="stamp"→lB w=some ks.length
 | _=>True
def kW:Sp:=λvs H Q _=>∃b v1 v2 v3 g1 g2 g3,vs=[.ref b]∧H b=some (.lst [v1,v2,v3])∧Bk H v1 v2 v3 g1 g2 g3∧∀d H',dz H H'→H d=none→H' d=some (.dK (zd v1 v2 v3))→Q (.ref d) H'
def xQ(K:aA):TS:=(lV (dQ 1) (eC (eF K) (dQ 2) (tC (.int 0))) (dQ 2))
def Jo(K:aA):TS:=(dq (eG i8 (db 1)) (dq (iP (i0 K (dQ 0)) (db 2) (xQ K)) (fY (dQ 1))))
theorem Ms:gH ([]:List (fO×V)) (.inr "star") v=[(.inr "star",v)]:=rfl
theorem Mr:gH [((.inr "star":fO),v1)] (.inr "sta") v=[(.inr "star",v1),(.inr "sta",v)]:=by simp[gH,Kq]
theorem Mq:gH [((.inr "star":fO),v1),(.inr "sta",v2)] (.inr "st") v=[(.inr "star",v1),(.inr "sta",v2),(.inr "st",v)]:=by simp[gH,Fm,Ko]
theorem Ma(h:kW vs H Q E):Jo K (gr Q) (start ["book","stamps","stamp"] vs) H:=by
 obtain⟨b,v1,v2,v3,g1,g2,g3,rfl,hb,bk,k⟩:=h;intro d hd;have s1:dz H (upd H d (.dK [])):=dX hd;refine⟨eJ.of (s1 _ _ hb),?_⟩;refine gY (K:=K) (a:=b) (xs:=[v1,v2,v3]) (λi σ H'=>∃j2,σ=[some (.ref b),some (.ref d),j2]∧dz H H'∧H' d=some (.dK ((zd v1 v2 v3).take i))) ⟨none,rfl,s1,dR⟩ (λi σ H' _ hP=>?_) ?_ ?_
 ·obtain⟨_,_,s,_⟩:=hP;exact eJ.of (s _ _ hb)
 ·rintro i y σ H' hi ⟨j2,rfl,s,hd'⟩;have B:=bk.mono s;have go:∀(w:Str)(ps:List Str)(g:G),kC H' w ps g y→gH ((zd v1 v2 v3).take i) (.inr w) y=(zd v1 v2 v3).take (i+1)→i≤3→∀D:iN,(∀σ H',(∃j2,σ=[some (.ref b),some (.ref d),j2]∧dz H H'∧H' d=some (.dK ((zd v1 v2 v3).take (i+1))))→D.nx σ H')→db 2 y [some (.ref b),some (.ref d),j2] H' λσ2 H2=>xQ K D σ2 H2:=by intro w ps g hst e hi3 D hD;obtain⟨p,l,x,rfl,hp,_⟩:=hst;refine⟨eD.of hp,rfl,nZ.k (k:=.inr w) hd' (kX (aY (List.length_take_le _ _) (by lia))),hD _ _ ⟨_,rfl,eI s hd,?_⟩⟩;rw[dR,e]
  match i,hi,go with
  | 0,hi,go=>cases hi;exact go _ _ _ B.a Ms (by lia) _ (λ_ _ z=>z)
  | 1,hi,go=>cases hi;have⟨_,z⟩:=B.b;exact go _ _ _ z Mr (by lia) _ (λ_ _ z=>z)
  | 2,hi,go=>cases hi;have⟨_,_,z⟩:=B.c;exact go _ _ _ z Mq (by lia) _ (λ_ _ z=>z)
  | n+3,hi,_=>simp at hi
 ·rintro σ H' ⟨j2,rfl,s,hd'⟩;exact(k d H' s hd hd')
theorem DM(v1 v2 v3:V)(w:Str):fW (zd v1 v2 v3) (.inr w)=if w="star" then some v1 else if w="sta" then some v2 else if w="st" then some v3 else none:=by
 unfold zd;by_cases h1:w="star"
 ·subst h1;rw[if_pos rfl];exact gE rfl
 rw[if_neg h1,gF (by intro e;exact h1 (Sum.inr.inj e).symm)];by_cases h2:w="sta"
 ·subst h2;rw[if_pos rfl];exact gE rfl
 rw[if_neg h2,gF (by intro e;exact h2 (Sum.inr.inj e).symm)];by_cases h3:w="st"
 ·subst h3;rw[if_pos rfl];exact gE rfl
 rw[if_neg h3,gF (by intro e;exact h3 (Sum.inr.inj e).symm)];rfl
theorem Kw(B:Bk H v1 v2 v3 g1 g2 g3)(w:Str):(fW (zd v1 v2 v3) (.inr w)=none∧lB w=none)∨∃v ps g,fW (zd v1 v2 v3) (.inr w)=some v∧kC H w ps g v∧lB w=some ps.length∧ps.length≤2:=by
 rw[DM];unfold lB;by_cases h1:w="star"
 ·subst h1;exact .inr ⟨v1,_,_,if_pos rfl,B.a,if_pos rfl,by decide⟩
 rw[if_neg h1,if_neg h1];by_cases h2:w="sta"
 ·subst h2;have⟨_,z⟩:=B.b;exact .inr ⟨v2,_,_,if_pos rfl,z,if_pos rfl,by simp⟩
 rw[if_neg h2,if_neg h2];by_cases h3:w="st"
 ·subst h3;have⟨_,_,z⟩:=B.c;exact .inr ⟨v3,_,_,if_pos rfl,z,if_pos rfl,by simp⟩
 rw[if_neg h3,if_neg h3];exact .inl ⟨rfl,rfl⟩
def Gu(K:aA):TS:=(dq (eG (eC rJ (eC EO (tC (.str "abcdefghijklmnopqrstuvwxyz")) (eC jr (eC iZ (dQ 2) (tC (.int 1))) (iB yZ (dP (tC (.str "abcdefghijklmnopqrstuvwxyz")) dZ)))) (dQ 1)) (db 1)) (eG (eC rH (eC iZ (dQ 2) (tC (.int 1))) (iB yZ (dP (tC (.str "abcdefghijklmnopqrstuvwxyz")) dZ))) (db 2)))
def MH(K:aA):TS:=(dq (eG (eC EO (tC (.str "abcdefghijklmnopqrstuvwxyz")) (eC jr (dQ 0) (iB yZ (dP (tC (.str "abcdefghijklmnopqrstuvwxyz")) dZ)))) (db 1)) (dq (eG (eC rH (dQ 0) (iB yZ (dP (tC (.str "abcdefghijklmnopqrstuvwxyz")) dZ))) (db 2)) (dq (iF (eL (eC pA (dQ 2) (tC (.int 0)))) (Gu K)) (fY (dQ 1)))))
def Vw:List Nat→Nat
 | []=>0
 | [c]=>c-97
 | c::d::w=>Vw (d::w)+(c-96)*26^(w.length+1)
theorem FF(h:w≠[]):Vw (c::w)=Vw w+(c-96)*26^w.length:=by
 cases w with
 | nil=>exact absurd rfl h
 | cons d w=>rfl
theorem uy:(("abcdefghijklmnopqrstuvwxyz":Str)).length=26:=by decide
theorem zZ{n:Nat}(hn:n<26):ph (("abcdefghijklmnopqrstuvwxyz":Str)).cps.toList (n:Int)=some (n+97):=by refine dW ?_;rw[yK,ae,dD hn];rfl
structure vV(n r m:Nat)(x:Str):Prop where
 one:1≤x.length
 few:x.length+m≤30
 sm:r<2^m
 abc:∀c∈x.cps.toList,97≤c∧c≤122
 val:Vw x.cps.toList+26^x.length*r=n
theorem zW(n:Nat)(hn:n≤16000000):vV n (n / 26) 20 ⟨#[n%26+97]⟩:=by
 refine⟨aC _,by show 1+20≤30;lia,by lia,λc hc=>?_,?_⟩
 ·have:c=n%26+97:=by simpa using hc
  lia
 ·show n%26+97-97+26^1*(n / 26)=n;lia
theorem CB(h:vV n r m x)(hr:0<r):∃m',vV n ((r-1) / 26) m' (⟨#[(r-1)%26+97]⟩++x):=by
 cases m with
 | zero=>have:=h.sm;lia
 | succ m=>
  have el:((⟨#[(r-1)%26+97]⟩:Str)++x).length=x.length+1:=by show(#[(r-1)%26+97]++x.cps).size=x.cps.size+1;simp[cb]
  have ec:((⟨#[(r-1)%26+97]⟩:Str)++x).cps.toList=((r-1)%26+97)::x.cps.toList:=by show(#[(r-1)%26+97]++x.cps).toList=_;rw[br];rfl
  have hl:x.cps.toList.length=x.length:=bj;have hf:=h.few;have hs:=h.sm;refine⟨m,by rw[el];lia,by rw[el];lia,?_,λc hc=>?_,?_⟩
  ·rw[cg]at hs;generalize 2^m=z at *;lia
  ·rw[ec]at hc;rcases aB.mp hc with e|e
   ·lia
   ·exact h.abc c e
  ·rw[ec,FF (λz=>by have:=h.one;rw[z]at hl;simp at hl;lia),el,hl];have hv:=h.val;have e1:(r-1)%26+97-96=(r-1)%26+1:=by lia
   rw[e1,cg];have e2:r=(r-1)%26+1+26*((r-1) / 26):=by lia
   generalize (r-1)%26=a at *;generalize (r-1) / 26=b at *;rw[e2]at hv;rw[←hv,ci,Nat.mul_comm (a+1),Nat.mul_assoc,Nat.add_assoc]
def sV:Sp:=λvs H Q _=>∃n:Nat,vs=[.int n]∧n≤16000000∧∀x:Str,Wd x→x.length≤30→Vw x.cps.toList=n→Q (.str x) H
theorem N2(h:sV vs H Q E):MH K (gr Q) (start ["number","word","rest"] vs) H:=by
 obtain⟨n,rfl,hn,k⟩:=h;have z26:(("abcdefghijklmnopqrstuvwxyz":Str)).length≤sizeLine:=by rw[uy];exact fM
 have p26:(0:Int)<((("abcdefghijklmnopqrstuvwxyz":Str)).length:Int):=by rw[uy];decide
 have e0:∀j:Nat,ph (("abcdefghijklmnopqrstuvwxyz":Str)).cps.toList ((j:Int)%((("abcdefghijklmnopqrstuvwxyz":Str)).length:Int))=some (j%26+97):=λj=>by rw[uy,←Int.natCast_emod];exact zZ (Nat.mod_lt _ (by decide))
 refine⟨_,rfl,z26,p26,_,_,_,rfl,rfl,z26,e0 n,?_⟩;have c26:∀i:Int,JZ i ((("abcdefghijklmnopqrstuvwxyz":Str)).length:Int):=λi=>by rw[uy];exact⟨by decide,by decide⟩
 refine⟨_,rfl,z26,c26 _,?_⟩;have ed:∀j:Nat,((j:Int) / ((("abcdefghijklmnopqrstuvwxyz":Str)).length:Int))=((j / 26:Nat):Int):=λj=>by rw[uy];exact(Int.natCast_ediv j 26).symm
 dsimp only;rw[ed];refine⟨λm σ H'=>H'=H∧∃(r mm:Nat)(x:Str),σ=[some (.int n),some (.str x),some (.int r)]∧vV n r mm x∧m=r,⟨n / 26,rfl,_,_,_,rfl,zW n hn,rfl⟩,?_⟩;rintro m σ H' ⟨rfl,r,mm,x,rfl,A,rfl⟩;refine⟨_,rfl,?_⟩;refine jP (λhl=>?_) (λhl=>?_)
 ·have hl:(0:Int)<(m:Int):=of_decide_eq_true hl;have hm:0<m:=by lia
  refine⟨λσ' H''=>∃m',m'<m∧(H''=H'∧∃(r mm:Nat)(x:Str),σ'=[some (.int n),some (.str x),some (.int r)]∧vV n r mm x∧m'=r),λ_ _ h=>h,?_⟩;obtain⟨mm',A'⟩:=CB A hm;have ec:((m:Int)-1)=((m-1:Nat):Int):=by lia
  have hx:=A.few;refine⟨_,rfl,z26,p26,_,_,_,rfl,rfl,z26,by rw[ec];exact e0 (m-1),?_,?_⟩
  ·show 1+x.length≤_;rw[sizeLine_eq];lia
  refine⟨_,rfl,z26,c26 _,?_⟩;dsimp only;rw[ec,ed];exact⟨(m-1) / 26,by lia,rfl,_,_,_,rfl,A',rfl⟩
 ·have hl:¬(0:Int)<(m:Int):=λz=>hl (decide_eq_true z);have hm:m=0:=by lia
  subst hm;have hv:=A.val;rw[Nat.mul_zero,Nat.add_zero]at hv;have hf:=A.few;exact(k x ⟨A.one,by lia,A.abc⟩ (by lia) hv)
end S9
namespace S9
open PySem L2 SW
variable {K:aA}{vs:List V}{H:Hp}{Q:VK}{E:XK}{N C:Addr}
structure RW(K:aA)(C:Addr):Prop where
 cl:xJ K C
 nT:jG K C "taken"
 nR:jG K C "tried"
def wf(d:Addr)(n:Nat):List (Str×V):=[("taken",.ref d),("tried",.int n)]
theorem OF:¬(("taken":Str)="tried"):=by decide
theorem uR:(wf d n).lookup ("taken":Str)=some (.ref d):=by
 have e:(("taken":Str)=="taken")=true:=by decide
 simp only[wf,List.lookup,e]
theorem uQ:(wf d n).lookup ("tried":Str)=some (.int n):=by
 have e:(("tried":Str)=="taken")=false:=by decide
 have e2:(("tried":Str)=="tried")=true:=by decide
 simp only[wf,List.lookup,e,e2]
theorem sJ:iM "tried" (.int i) (wf d n)=([("taken",.ref d),("tried",.int i)]:List (Str×V)):=by simp only[wf,iM,if_neg OF,if_true]
structure FW(C:Addr)(H:Hp)(p dx d:Addr)(n:Nat)(ws:List Str):Prop where
 ob:H p=some (.ins C dx (wf d n))
 dk:H d=some (.dK (i7 ws))
def cnt(n:Nat):List Str→Nat
 | []=>0
 | y::r=>(if n≤Vw y.cps.toList then 1 else 0)+cnt n r
theorem Ck(n:Nat)(ws:List Str):cnt (n+1) ws≤cnt n ws:=by
 induction ws with
 | nil=>exact aC _
 | cons y r ih=>unfold cnt;split<;>split<;>lia
theorem JP(h:x∈ws)(e:Vw x.cps.toList=n):cnt (n+1) ws<cnt n ws:=by
 induction ws with
 | nil=>cases h
 | cons y r ih=>
  have:=Ck n r;rcases aB.mp h with rfl|h
  ·unfold cnt;rw[if_neg (by lia),if_pos (by lia)];lia
  ·have:=ih h;unfold cnt;split<;>split<;>lia
theorem yX(n:Nat)(ws:List Str):cnt n ws≤ws.length:=by
 induction ws with
 | nil=>exact aC _
 | cons y r ih=>unfold cnt;rw[aE];split<;>lia
theorem w6(n:Nat)(ws:List Str)(x:Str):cnt n (ws++[x])=cnt n ws+(if n≤Vw x.cps.toList then 1 else 0):=by
 induction ws with
 | nil=>simp[cnt]
 | cons y r ih=>rw[aO,cnt,cnt,ih];lia
def DF(p d:Addr)(H H':Hp):Prop:=∀b o,b≠p→b≠d→H b=some o→H' b=some o
theorem DF.refl:DF p d H H:=λ_ _ _ _ h=>h
theorem DF.trans(a:DF p d H H1)(b:DF p d H1 H2):DF p d H H2:=λc o h1 h2 h=>b c o h1 h2 (a c o h1 h2 h)
def pK(C:Addr):Sp:=λvs H Q _=>∃(p dx d:Addr)(n:Nat)(ws:List Str)(w:Str),vs=[.ref p,.str w]∧FW C H p dx d n ws∧Wd w∧ws.length≤8000000∧n+cnt n ws≤ws.length∧
 ∀(x:Str)(n':Nat)(H':Hp),Wd x→x∉ws→(w∉ws→x=w)→n'+cnt n' (ws++[x])≤ws.length+1→DF p d H H'→FW C H' p dx d n' (ws++[x])→Q (.str x) H'
def GM(K:aA)(a_FreshWords:Addr):TS:=(dq (eG (eY sV [] E0 (dP (kT K (dQ 0) "tried") dZ)) (db 2)) (pN K (dQ 0) (tC (.int 1)) EQ "tried"))
def L3(K:aA)(a_FreshWords:Addr):TS:=(dq (eG (dQ 1) (db 2)) (dq (iF (tB (BA (dQ 2) (kT K (dQ 0) "taken"))) (GM K a_FreshWords)) (dq (lV (kT K (dQ 0) "taken") (dQ 2) (tC (.bl true))) (fY (dQ 2)))))
def one(x:Str)(ws:List Str):Nat:=if x∈ws then 1 else 0
def OZ(C p dx d:Addr)(ws:List Str)(H:Hp)(w:Str)(n:Nat)(m:Nat)(σ:St)(H':Hp):Prop:=∃(x:Str)(r:Nat),σ=[some (.ref p),some (.str w),some (.str x)]∧FW C H' p dx d r ws∧DF p d H H'∧Wd x∧(w∉ws→x=w)∧m=cnt r ws+one x ws∧r+m≤n+(cnt n ws+one w ws)∧((x=w∧r=n)∨Vw x.cps.toList<r)
theorem Nm(rc:RW K C)(h:pK C vs H Q E):L3 K C (gr Q) (start ["self","word","free"] vs) H:=by
 obtain⟨p,dx,d,n,ws,w,rfl,A,hw,hl,hn,k⟩:=h;have hpd:p≠d:=fF A.ob A.dk (by intro z;cases z);have c0:=yX n ws;have o0:one w ws≤1:=by unfold one;split<;>lia
 refine ?_;refine⟨OZ C p dx d ws H w n,⟨_,w,n,rfl,A,.refl,hw,λ_=>rfl,rfl,aC _,.inl ⟨rfl,rfl⟩⟩,?_⟩;rintro m σ H1 ⟨x,r,rfl,A1,ap1,hx,hxw,rfl,hr,hv0⟩;refine⟨A1.ob,rc.cl,rc.nT,uR,iV.k (k:=.inr x) A1.dk,_,rfl,?_⟩;rw[nh];by_cases hm:x∈ws
 ·refine fc (decide_eq_true hm) ?_;refine⟨Lt (OZ C p dx d ws H w n) (cnt r ws+one x ws),λ_ _ h=>h,?_⟩;have o1:one x ws=1:=if_pos hm;refine⟨A1.ob,rc.cl,rc.nR,uQ,r,rfl,by lia,λy hy hy2 hv=>?_⟩;refine⟨p,C,dx,_,_,rfl,A1.ob,rc.cl,rc.nR,uQ,_,_,rfl,rfl,dx,_,A1.ob,by show 2<1000;decide,?_⟩;rw[sJ];have hc:cnt (r+1) ws+one y ws≤cnt r ws:=by
   by_cases hy3:y∈ws
   ·have:=JP hy3 hv;rw[show one y ws=1 from if_pos hy3];lia
   ·have:=Ck r ws;rw[show one y ws=0 from if_neg hy3];lia
  refine⟨cnt (r+1) ws+one y ws,by lia,y,r+1,rfl,⟨by rw[dR];rfl,by rw[dj hpd.symm];exact A1.dk⟩,ap1.trans λb o h1 _ e=>by rw[dj h1];exact e,hy,λz=>absurd (hxw z▸hm) z,rfl,by lia,.inr (by lia)⟩
 ·refine eN (decide_eq_false hm) ?_;refine⟨A1.ob,rc.cl,rc.nT,uR,nZ.k (k:=.inr x) A1.dk (by rw[oK,sizeLine_eq];lia),?_⟩;rw[oE];have ea:lh ws x=ws++[x]:=by unfold lh;rw[if_neg hm]
  rw[ea];have o1:one x ws=0:=if_neg hm;have hc:r+cnt r (ws++[x])≤ws.length+1:=by
   rw[w6];rcases hv0 with⟨rfl,rfl⟩|hv0
   ·split<;>lia
   ·rw[if_neg (by lia)];lia
  refine(k x r _ hx hm hxw hc (ap1.trans λb o _ h2 e=>by rw[dj h2];exact e) ⟨by rw[dj hpd];exact A1.ob,dR⟩)
def oh:Sp:=λvs H Q _=>∃(p q:Addr)(x:V)(src:Str)(path:V)(e hd:V)(n:Int),vs=[.ref p,hd,.int n]∧H p=some (.tup [x,.str src,path,e])∧
 ∀(r s:Addr)(H':Hp),dz H H'→H' s=some (.tup [.str src,path])→H' r=some (.tup [.str "row",hd,.int n,.ref s])→Q (.ref r) H'
def MD(K:aA):TS:=(fY (fS (dP (tC (.str "row")) (dP (dQ 1) (dP (dQ 2) (dP (fS (dP (eC (eF K) (dQ 0) (tC (.int 1))) (dP (eC (eF K) (dQ 0) (tC (.int 2))) dZ))) dZ))))))
theorem Ny(h:oh vs H Q E):MD K (gr Q) (start ["spot","head","many"] vs) H:=by obtain⟨p,q,x,src,path,e,hd,n,rfl,hp,k⟩:=h;refine⟨eD.of hp,rfl,eD.of hp,rfl,fM,λs hs=>⟨fM,λr hr=>?_⟩⟩;have s1:=dX (o:=.tup [.str src,path]) hs;have s2:=dX (o:=.tup [.str "row",hd,.int n,.ref s]) hr;exact k r s _ (s1.trans s2) (s2 _ _ dR) dR
def x6(C:Addr):Sp:=λvs H Q _=>∃(p dx l:Addr)(us:List Str),vs=[.ref p,.ref l]∧H p=some (.ins C dx [])∧H l=some (.lst (us.map V.str))∧us.length≤900∧
 ∀(d:Addr)(ws:List Str)(H':Hp),H d=none→(∀x,x∈ws↔x∈us)→ws.length≤us.length→(∀b o,b≠p→H b=some o→H' b=some o)→FW C H' p dx d 0 ws→Q .non H'
def GK(K:aA)(a_FreshWords:Addr):TS:=(lV (kT K (dQ 0) "taken") (dQ 2) (tC (.bl true)))
def L0(K:aA)(a_FreshWords:Addr):TS:=(dq (uh K (dQ 0) i8 "taken") (dq (iP (i0 K (dQ 1)) (db 2) (GK K a_FreshWords)) (uh K (dQ 0) (tC (.int 0)) "tried")))
theorem Cu(ws:List Str)(x y:Str):y∈lh ws x↔y∈ws∨y=x:=by
 unfold lh;split
 ·rename_i h;exact⟨.inl,λz=>z.elim id λe=>e▸h⟩
 ·simp
theorem Cv(ws:List Str)(x:Str):(lh ws x).length≤ws.length+1:=by
 unfold lh;split
 ·lia
 ·simp
theorem DN:([(("taken":Str),V.ref d)]).lookup ("taken":Str)=some (V.ref d):=by
 have e:(("taken":Str)=="taken")=true:=by decide
 simp only[List.lookup,e]
def Oq(p l d dx C:Addr)(H:Hp)(us:List Str)(i:Nat)(σ:St)(H':Hp):Prop:=∃j2 ws,σ=[some (.ref p),some (.ref l),j2]∧H' p=some (.ins C dx [("taken",.ref d)])∧H' d=some (.dK (i7 ws))∧(∀b o,b≠p→H b=some o→H' b=some o)∧(∀x,x∈ws↔x∈us.take i)∧ws.length≤i
theorem Nj(rc:RW K C)(h:x6 C vs H Q E):L0 K C (gr Q) (start ["self","taken","word"] vs) H:=by
 obtain⟨p,dx,l,us,rfl,hp,hl,hn,k⟩:=h;intro d hd;have s1:dz H (upd H d (.dK [])):=dX hd;have d1:(upd H d (.dK [])) d=some (.dK []):=dR;generalize upd H d (.dK [])=H1 at s1 d1⊢;refine⟨p,C,dx,[],rfl,s1 _ _ hp,rc.cl,rc.nT,by show 0<1000;decide,?_⟩;have hpd:p≠d:=de hp hd;have hpl:l≠p:=fF hl hp (by intro z;cases z);have hld:l≠d:=de hl hd;have o2:(upd H1 p (.ins C dx (iM "taken" (.ref d) []))) p=some (.ins C dx [("taken",.ref d)]):=dR;have d2:(upd H1 p (.ins C dx (iM "taken" (.ref d) []))) d=some (.dK (i7 [])):=by rw[dj hpd.symm];exact d1
 have a2:∀b o,b≠p→H b=some o→(upd H1 p (.ins C dx (iM "taken" (.ref d) []))) b=some o:=λb o h e=>by rw[dj h];exact s1 _ _ e
 generalize upd H1 p (.ins C dx (iM "taken" (.ref d) []))=H2 at o2 d2 a2⊢;refine⟨eJ.of (a2 _ _ hpl hl),?_⟩;refine gY (K:=K) (a:=l) (xs:=us.map V.str) (Oq p l d dx C H us)
  ⟨none,[],rfl,o2,d2,a2,by simp,aC _⟩ (λi σ H' _ hP=>?_) ?_ ?_
 ·obtain⟨_,_,_,_,_,a,_⟩:=hP;exact eJ.of (a _ _ hpl hl)
 ·rintro i y σ H3 hi ⟨j2,ws,rfl,o3,d3,a3,m3,l3⟩;obtain⟨x,hx,rfl⟩:∃x,us[i]?=some x∧y=V.str x:=by
   rw[ae]at hi;cases e:us[i]? with
   | none=>rw[e]at hi;cases hi
   | some z=>rw[e]at hi;exact⟨z,rfl,(Option.some.inj hi).symm⟩
  have hil:i<us.length:=(aN.mp hx).1;have hlen:=Cv ws x;refine⟨o3,rc.cl,rc.nT,DN,nZ.k (k:=.inr x) d3 (kX (by rw[oK];lia)),?_⟩;rw[oE];refine⟨_,lh ws x,rfl,by rw[dj hpd];exact o3,dR,λb o h e=>by rw[dj (de e hd)];exact a3 b o h e,λz=>?_,by lia⟩;rw[Cu,m3,ax,hx];simp
 ·rintro σ H3 ⟨j2,ws,rfl,o3,d3,a3,m3,l3⟩;rw[aT]at m3 l3;refine⟨p,C,dx,_,rfl,o3,rc.cl,rc.nR,by show 1<1000;decide,?_⟩;refine k d ws _ hd (λx=>by rw[m3,bG]) l3 (λb o h e=>by rw[dj h];exact a3 b o h e) ⟨?_,by rw[dj hpd.symm];exact d3⟩;rw[dR];simp only[iM,if_neg OF];rfl
structure vX(H:Hp)(v1 v2 v3:V)(bo:Bo):Prop where
 a:kC H "star" [] (gm bo.x) v1
 b:kC H "sta" [qV bo.e] (gm bo.y) v2
 c:kC H "st" [qV bo.e,vY bo.e] (gm bo.z) v3
theorem vX.mono(s:dz H H')(h:vX H v1 v2 v3 bo):vX H' v1 v2 v3 bo:=⟨h.a.mono s,h.b.mono s,h.c.mono s⟩
theorem vX.g(h:vX H v1 v2 v3 bo):Bk H v1 v2 v3 (gm bo.x) (gm bo.y) (gm bo.z):=⟨h.a,⟨_,h.b⟩,⟨_,_,h.c⟩⟩
theorem xn:∀{ws ls:List Str},ws.Nodup→(∀x∈ws,x∈ls)→ws.length≤ls.length
 | [],_,_,_=>aU _
 | x::ws,ls,nd,h=>by have hx:=h x bY;obtain⟨n1,n2⟩:=bR.mp nd;have:=xn (ls:=ls.erase x) n2 λy hy=>(List.mem_erase_of_ne (by rintro rfl;exact n1 hy)).mpr (h y (bC _ hy));rw[List.length_erase_of_mem hx]at this;have:=List.length_pos_of_mem hx;rw[aE];lia
theorem AS(h:Up ws):ws.Nodup:=List.Pairwise.imp (λ{a b}(z:qq a b)(e:a=b)=>by subst e;exact qq.irrefl a z) h
theorem yE{ws:List Str}{t:T}(h:Up ws)(m:∀x,x∈ws↔t.out x):ws.length≤t.names.length:=xn (AS h) λx hx=>T.names_occ.mpr (T.out_occ ((m x).mp hx))
def x8:Sp:=λvs H Q _=>∃(b:Addr)(v1 v2 v3 v:V)(bo:Bo)(t:T),vs=[.ref b,v]∧H b=some (.lst [v1,v2,v3])∧vX H v1 v2 v3 bo∧gN H t v∧(∀y∈[t,bo.x,bo.y,bo.z],y.size≤900∧y.names.length<64)∧
 ∀(l:Addr)(us:List Str)(H':Hp),dz H H'→H l=none→H' l=some (.lst (us.map V.str))→us.length≤252→(∀x,x∈us↔∃y∈[t,bo.x,bo.y,bo.z],y.out x)→Q (.ref l) H'
def xh(K:aA):TS:=(fG (jm K "list" m8 (dQ 2) (dP (eY qI [] E0 (dP (eC (eF K) (dQ 3) (tC (.int 2))) dZ)) dZ)))
def Jx(K:aA):TS:=(dq (eG (eY qI [] E0 (dP (dQ 1) dZ)) (db 2)) (dq (iP (i0 K (dQ 0)) (db 3) (xh K)) (fY (dQ 2))))
def PB(b:Addr)(v:V)(l:Addr)(H:Hp)(t:T)(bo:Bo)(i:Nat)(σ:St)(H':Hp):Prop:=∃(j3:Option V)(us:List Str),σ=[some (.ref b),some v,some (.ref l),j3]∧dz H H'∧H' l=some (.lst (us.map V.str))∧us.length≤63*(i+1)∧∀x,x∈us↔∃y∈t::[bo.x,bo.y,bo.z].take i,y.out x
theorem Mn(h:x8 vs H Q E):Jx K (gr Q) (start ["book","piece","words","stamp"] vs) H:=by
 obtain⟨b,v1,v2,v3,v,bo,t,rfl,hb,B,hd,hs,k⟩:=h;have ht:=hs t (by simp);refine⟨t,v,rfl,hd,ht.1,ht.2,λl ws H1 s1 n1 h1 up1 m1=>?_⟩;refine⟨eJ.of (s1 _ _ hb),?_⟩;have hlb:l≠b:=(de hb n1).symm;refine gY (K:=K) (a:=b) (xs:=[v1,v2,v3]) (PB b v l H t bo)
  ⟨none,ws,rfl,s1,h1,by have:=yE up1 m1;lia,λx=>by rw[m1];simp⟩ (λi σ H' _ hP=>?_) ?_ ?_
 ·obtain⟨_,_,_,s,_⟩:=hP;exact eJ.of (s _ _ hb)
 ·rintro i y σ H2 hi ⟨j3,us,rfl,s2,h2,l2,m2⟩;have B2:=B.mono s2;have go:∀(w:Str)(ps:List Str)(tt:T),kC H2 w ps (gm tt) y→tt∈[t,bo.x,bo.y,bo.z]→i≤3→[bo.x,bo.y,bo.z].take (i+1)=[bo.x,bo.y,bo.z].take i++[tt]→∀D:iN,(∀σ H',(∃(j3:Option V)(us:List Str),σ=[some (.ref b),some v,some (.ref l),j3]∧dz H H'∧H' l=some (.lst (us.map V.str))∧us.length≤63*(i+1+1)∧∀x,x∈us↔∃y∈t::[bo.x,bo.y,bo.z].take (i+1),y.out x)→D.nx σ H')→db 3 y [some (.ref b),some v,some (.ref l),j3] H2 λσ2 H2=>xh K D σ2 H2:=by
   intro w ps tt st hm hi3 e D hD;obtain⟨p,q,x,rfl,hp,_,dx⟩:=st;have hg:=hs tt hm;refine⟨.inl ⟨rfl,_,eJ.of h2⟩,eD.of hp,rfl,tt,x,rfl,iH dx,hg.1,hg.2,λl' ws' H3 s3 n3 h3 up3 m3=>?_⟩;have hw:=yE up3 m3;refine⟨l,l',_,_,rfl,rfl,s3 _ _ h2,h3,by rw[aT,aT,sizeLine_eq];lia,hD _ _ ⟨_,us++ws',rfl,eI (s2.trans s3) n1,by rw[dR,bW],by rw[aD];lia,λz=>?_⟩⟩;rw[aW,m2,m3,e];constructor
   ·rintro(⟨y,hy,o⟩|o)
    ·refine⟨y,?_,o⟩;rcases aB.mp hy with rfl|hy
     ·exact bY
     ·exact bC _ (ag _ hy)
    ·exact⟨tt,bC _ (aS _ (aG.mpr rfl)),o⟩
   ·rintro⟨y,hy,o⟩;rcases aB.mp hy with rfl|hy
    ·exact .inl ⟨_,bY,o⟩
    ·rcases aW.mp hy with hy|hy
     ·exact .inl ⟨y,bC _ hy,o⟩
     ·rw[aG]at hy;subst hy;exact .inr o
  match i,hi,go with
  | 0,hi,go=>cases hi;exact go _ _ _ B2.a (by simp) (by lia) rfl _ (λ_ _ z=>z)
  | 1,hi,go=>cases hi;exact go _ _ _ B2.b (by simp) (by lia) rfl _ (λ_ _ z=>z)
  | 2,hi,go=>cases hi;exact go _ _ _ B2.c (by simp) (by lia) rfl _ (λ_ _ z=>z)
  | n+3,hi,_=>simp at hi
 ·rintro σ H2 ⟨j3,us,rfl,s2,h2,l2,m2⟩;exact(k l us H2 s2 n1 h2 (by simp at l2;lia) m2)
end S9
namespace S9
open PySem SW
inductive Hd where
 | num(n:Int)|name(w:Str)|sum|less|cho|lt(w:Str)
def Hd.ar:Hd→Nat
 | .num _=>0
 | .name _=>0
 | .sum=>2
 | .less=>2
 | .cho=>3
 | .lt _=>2
inductive Rw where
 | row(h:Hd)(src:Str)(path:List Nat)
 | rdy(n z:Nat)
def Rw.ar:Rw→Nat
 | .row h _ _=>h.ar
 | .rdy _ _=>0
def Rw.wt:Rw→Nat
 | .row _ _ _=>1
 | .rdy _ z=>z
mutual
inductive Mg where
 | called(w:Str)
 | ready(n z:Nat)
 | handed(t:T)(src:Str)(path:List Nat)(e:En)
inductive En where
 | nil
 | cons(w:Str)(m:Mg)(e:En)
end
def En.look:En→Str→Option Mg
 | .nil,_=>none
 | .cons w m e,v=>if w=v then some m else e.look v
def En.put:En→Str→Mg→En
 | .nil,v,n=>.cons v n .nil
 | .cons w m e,v,n=>if w=v then .cons w n e else .cons w m (e.put v n)
def En.len:En→Nat
 | .nil=>0
 | .cons _ _ e=>e.len+1
theorem En.put_len(v:Str)(n:Mg):∀e:En,(e.put v n).len≤e.len+1
 | .nil=>aC _
 | .cons w m e=>by have:=En.put_len v n e;unfold En.put;split<;>simp only[En.len]<;>lia
theorem En.look_put(v x:Str)(n:Mg):∀e:En,(e.put v n).look x=if v=x then some n else e.look x
 | .nil=>by simp only[En.put,En.look]
 | .cons w m e=>by
  have ih:=En.look_put v x n e;unfold En.put;split
  ·rename_i h;subst h;simp only[En.look];split<;>rfl
  ·rename_i h;simp only[En.look,ih];split
   ·rename_i h2;subst h2;rw[if_neg (λz=>h z.symm)]
   ·rfl
structure eK where
 t:T
 src:Str
 path:List Nat
 e:En
def eK.kid(s:eK)(i:Nat)(t:T):eK:=⟨t,s.src,s.path++[i],s.e⟩
def wi(s:eK):Nat→List T→List eK
 | _,[]=>[]
 | i,t::ts=>s.kid i t::wi s (i+1) ts
def eK.within(s:eK):List eK:=wi s 0 s.t.kids
theorem vd(s:eK):∀(ts:List T)(i:Nat),(wi s i ts).length=ts.length
 | [],_=>rfl
 | _::ts,i=>by simp[wi,vd s ts]
def pl:T→Option Hd
 | .num n=>some (.num n)
 | .sum _ _=>some .sum
 | .less _ _=>some .less
 | .cho _ _ _=>some .cho
 | _=>none
theorem Fg(e:pl t=some h):h.ar=t.kids.length:=by cases t<;>simp only[pl,Option.some.injEq,reduceCtorEq]at e<;>subst e<;>rfl
inductive Tk(ws:List Str):eK→List eK→List Rw→List Str→Prop where
 | plain{s:eK}{h:Hd}:pl s.t=some h→Tk ws s s.within.reverse [.row h s.src s.path] ws
 | free{s:eK}{w:Str}:s.t=.name w→s.e.look w=none→Tk ws s [] [.row (.name w) s.src s.path] ws
 | called{s:eK}{w v:Str}:s.t=.name w→s.e.look w=some (.called v)→Tk ws s [] [.row (.name v) s.src s.path] ws
 | ready{s:eK}{w:Str}{n z:Nat}:s.t=.name w→s.e.look w=some (.ready n z)→Tk ws s [] [.rdy n z] ws
 | handed{s:eK}{w:Str}{t:T}{src:Str}{path:List Nat}{e:En}:s.t=.name w→s.e.look w=some (.handed t src path e)→Tk ws s [⟨t,src,path,e⟩] [] ws
 | lt{s:eK}{w x:Str}{a b:T}:s.t=.lt w a b→Wd x→x∉ws→(w∉ws→x=w)→
  Tk ws s [⟨b,s.src,s.path++[1],s.e.put w (.called x)⟩,s.kid 0 a] [.row (.lt x) s.src s.path] (ws++[x])
inductive AB:List eK→List Rw→List Str→List Rw→List Str→Prop where
 | nil{R:List Rw}{ws:List Str}:AB [] R ws R ws
 | step{S P:List eK}{s:eK}{R rs R':List Rw}{ws ws' ws'':List Str}:Tk ws s P rs ws'→AB (S++P) (R++rs) ws' R' ws''→AB (S++[s]) R ws R' ws''
def oX:T→Prop
 | .num _=>False
 | .name _=>False
 | .sum a b=>oX a∨oX b
 | .less a b=>oX a∨oX b
 | .cho a b c=>oX a∨oX b∨oX c
 | .lt _ a b=>oX a∨oX b
 | .st0 _=>True
 | .st1 _ _=>True
 | .st2 _ _ _=>True
def Mg.isH:Mg→Prop
 | .handed _ _ _ _=>True
 | _=>False
def Op(s:eK):Prop:=oX s.t∨∃w m,s.t.out w∧s.e.look w=some m∧m.isH
theorem CS(h:¬Op s)(h1:oX t→oX s.t)(h2:∀w,t.out w→s.t.out w):¬Op (s.kid i t):=by
 rintro(z|⟨w,m,o,l,i⟩)
 ·exact h (.inl (h1 z))
 ·exact h (.inr ⟨w,m,h2 w o,l,i⟩)
theorem KA(h:¬Op s)(h1:∀t∈ts,(oX t→oX s.t)∧∀w,t.out w→s.t.out w):∀(i:Nat),∀k∈wi s i ts,¬Op k:=by
 induction ts with
 | nil=>intro i k hk;cases hk
 | cons t ts ih=>
  intro i k hk;rcases aB.mp hk with rfl|hk
  ·exact CS h (h1 t (.head _)).1 (h1 t (.head _)).2
  ·exact ih (λt ht=>h1 t (.tail _ ht)) (i+1) k hk
theorem Jn(h:Tk ws s P rs ws')(o:¬Op s):∀k∈P,¬Op k:=by
 cases h with
 | plain e=>
  intro k hk;rw[List.mem_reverse]at hk;refine KA o (λt ht=>?_) 0 k hk;obtain⟨st,src,path,en⟩:=s;cases st<;>simp only[pl,reduceCtorEq]at e
  all_goals (simp only[T.kids,aB,aF,or_false]at ht)
  case sum=>rcases ht with rfl|rfl<;>exact⟨λz=>by simp[oX,z],λw z=>by simp[T.out,z]⟩
  case less=>rcases ht with rfl|rfl<;>exact⟨λz=>by simp[oX,z],λw z=>by simp[T.out,z]⟩
  case cho=>rcases ht with rfl|rfl|rfl<;>exact⟨λz=>by simp[oX,z],λw z=>by simp[T.out,z]⟩
 | free _ _=>intro k hk;cases hk
 | called _ _=>intro k hk;cases hk
 | ready _ _=>intro k hk;cases hk
 | handed e l=>exact absurd (.inr ⟨_,_,by rw[e];exact rfl,l,aJ⟩) o
 | @lt w x a b e _ _ _=>
  intro k hk;rcases aB.mp hk with rfl|hk
  ·rintro(z|⟨v,m,o2,l,i⟩)
   ·exact o (.inl (by rw[e];exact .inr z))
   ·rw[En.look_put]at l;by_cases hv:w=v
    ·subst hv;rw[if_pos rfl]at l;cases l;exact i
    ·rw[if_neg hv]at l;exact o (.inr ⟨v,m,by rw[e];exact .inr ⟨hv,o2⟩,l,i⟩)
  ·rw[aG]at hk;subst hk;exact CS o (λz=>by rw[e];exact .inl z) (λw z=>by rw[e];exact .inl z)
def kB(f:Str→Nat):T→Nat
 | .num _=>1
 | .name w=>f w
 | .sum a b=>1+kB f a+kB f b
 | .less a b=>1+kB f a+kB f b
 | .cho a b c=>1+kB f a+kB f b+kB f c
 | .lt w a b=>1+kB f a+kB (λv=>if w=v then 1 else f v) b
 | .st0 _=>1
 | .st1 _ a=>1+kB f a
 | .st2 _ a b=>1+kB f a+kB f b
mutual
def Mg.wt(h:Nat):Mg→Nat
 | .called _=>1
 | .ready _ z=>z
 | .handed t _ _ e=>h+kB (e.fw h) t
def En.fw(h:Nat):En→Str→Nat
 | .nil=>λ_=>1
 | .cons w m e=>λv=>if w=v then m.wt h else e.fw h v
end
def eK.wt(h:Nat)(s:eK):Nat:=kB (s.e.fw h) s.t
def lv(h:Nat)(S:List eK):Nat:=(S.map (eK.wt h)).sum
def lJ(R:List Rw):Nat:=(R.map Rw.wt).sum
theorem gK(h:Nat)(a b:List eK):lv h (a++b)=lv h a+lv h b:=by simp[lv]
theorem hV(h:Nat)(s:eK):lv h [s]=s.wt h:=by simp[lv]
theorem lS(h:Nat)(s:eK)(r:List eK):lv h (s::r)=s.wt h+lv h r:=by simp[lv]
theorem kF(h:Nat):lv h []=0:=rfl
theorem sD(h:Nat)(a:List eK):lv h a.reverse=lv h a:=by simp[lv]
theorem mR(a b:List Rw):lJ (a++b)=lJ a+lJ b:=by simp[lJ]
theorem jV(r:Rw)(b:List Rw):lJ (r::b)=r.wt+lJ b:=by simp[lJ]
theorem ji:lJ []=0:=rfl
theorem pS(h:Nat)(v:Str):∀e:En,e.fw h v=match e.look v with|none=>1|some m=>m.wt h
 | .nil=>rfl
 | .cons w m e=>by
  simp only[En.fw,En.look];split
  ·rfl
  ·exact pS h v e
theorem JI(h:Nat)(w x:Str)(e:En):(e.put w (.called x)).fw h=λv=>if w=v then 1 else e.fw h v:=by
 funext v;rw[pS,En.look_put];by_cases hv:w=v
 ·rw[if_pos hv,if_pos hv];rfl
 ·rw[if_neg hv,if_neg hv,pS]
theorem qy{s:eK}{h:Nat}{hd:Hd}(e:pl s.t=some hd):s.wt h=1+lv h s.within:=by
 obtain⟨st,src,path,en⟩:=s;cases st<;>simp only[pl,reduceCtorEq]at e
 all_goals simp only[eK.wt,eK.within,T.kids,wi,lS,kF,kB,eK.kid]
 all_goals lia
theorem AK{s:eK}{h:Nat}{w x:Str}{a b:T}(e:s.t=.lt w a b):s.wt h=1+lv h [⟨b,s.src,s.path++[1],s.e.put w (.called x)⟩,s.kid 0 a]:=by obtain⟨st,src,path,en⟩:=s;simp only at e;subst e;simp only[lS,kF,eK.wt,JI,eK.kid,kB];lia
theorem ij{s:eK}{h:Nat}{w:Str}(e:s.t=.name w):s.wt h=match s.e.look w with|none=>1|some m=>m.wt h:=by unfold eK.wt;rw[e];exact pS h w s.e
theorem FM{ws ws':List Str}{s:eK}{P:List eK}{rs:List Rw}(h:Tk ws s P rs ws'):lv 0 P+lJ rs=s.wt 0:=by
 cases h with
 | plain e=>rw[qy e,sD,jV,ji];simp only[Rw.wt];lia
 | free e l=>rw[ij e,l];rfl
 | called e l=>rw[ij e,l];rfl
 | ready e l=>rw[ij e,l];simp only[kF,jV,ji,Rw.wt,Mg.wt];lia
 | handed e l=>rw[ij e,l];simp only[lS,kF,ji,Mg.wt,eK.wt];lia
 | @lt w x a b e _ _ _=>rw[AK (x:=x) e,jV,ji];simp only[Rw.wt];lia
theorem vw(h:AB S R ws R' ws'):lJ R'=lv 0 S+lJ R:=by
 induction h with
 | nil=>rw[kF,bx]
 | step a _ ih=>rw[ih,gK,gK,hV,mR,←FM a];lia
def SF(w:Str)(k:Nat):Prop:=lB w=some k
def BT(t:T)(path:List Nat)(n:Nat):Prop:=WT SF t∧path.length+t.size≤1000∧n+t.size≤1000∧t.size≤900∧t.names.length<64
mutual
def Mg.ok(P:Nat→Nat→Prop):Mg→Prop
 | .called _=>True
 | .ready n z=>1≤z∧P n z
 | .handed t _ path e=>BT t path e.len∧e.ok P
def En.ok(P:Nat→Nat→Prop):En→Prop
 | .nil=>True
 | .cons w m e=>m.ok P∧e.ok P∧e.look w=none
end
def eK.ok(P:Nat→Nat→Prop)(s:eK):Prop:=BT s.t s.path s.e.len∧s.e.ok P
def Rw.ok(P:Nat→Nat→Prop):Rw→Prop
 | .row _ _ _=>True
 | .rdy n z=>1≤z∧P n z
mutual
theorem Mg.ok_mono(h:∀n z,P n z→P' n z):∀{m:Mg},m.ok P→m.ok P'
 | .called _,_=>aJ
 | .ready _ _,a=>⟨a.1,h _ _ a.2⟩
 | .handed _ _ _ e,a=>⟨a.1,En.ok_mono h (e:=e) a.2⟩
theorem En.ok_mono(h:∀n z,P n z→P' n z):∀{e:En},e.ok P→e.ok P'
 | .nil,_=>aJ
 | .cons _ m e,a=>⟨Mg.ok_mono h (m:=m) a.1,En.ok_mono h (e:=e) a.2.1,a.2.2⟩
end
theorem eK.ok_mono{P P':Nat→Nat→Prop}(h:∀n z,P n z→P' n z){s:eK}(a:s.ok P):s.ok P':=⟨a.1,En.ok_mono h a.2⟩
theorem Rw.ok_mono(h:∀n z,P n z→P' n z):∀{r:Rw},r.ok P→r.ok P'
 | .row _ _ _,_=>aJ
 | .rdy _ _,a=>⟨a.1,h _ _ a.2⟩
variable {P:Nat→Nat→Prop}
theorem pQ:∀{e:En},e.ok P→e.look v=some m→m.ok P
 | .nil,_,h=>by simp only[En.look,reduceCtorEq]at h
 | .cons w n e,a,h=>by
  simp only[En.look]at h;split at h
  ·cases h;exact a.1
  ·exact pQ (e:=e) a.2.1 h
theorem Bm(hm:m.ok P):∀{e:En},e.ok P→(e.put v m).ok P
 | .nil,_=>⟨hm,aJ,rfl⟩
 | .cons w n e,a=>by
  unfold En.put;split
  ·exact⟨hm,a.2⟩
  ·rename_i hw;exact⟨a.1,Bm hm (e:=e) a.2.1,by rw[En.look_put,if_neg (λz=>hw z.symm)];exact a.2.2⟩
theorem Co(i:Nat)(h:BT t path n)(hu:u∈t.kids)(hm:m≤n+1):BT u (path++[i]) m:=by
 obtain⟨a,b,c,d,e⟩:=h;have key:WT SF u∧u.size+1≤t.size∧u.names.length≤t.names.length:=by
  cases t<;>simp only[T.kids,aB,aF,or_false]at hu
  case sum=>rcases hu with rfl|rfl<;>simp only[WT,qp,T.size,T.names,aD]at *<;>exact⟨by simp[a],by lia,by lia⟩
  case less=>rcases hu with rfl|rfl<;>simp only[WT,qp,T.size,T.names,aD]at *<;>exact⟨by simp[a],by lia,by lia⟩
  case cho=>rcases hu with rfl|rfl|rfl<;>simp only[WT,qp,T.size,T.names,aD]at *<;>exact⟨by simp[a],by lia,by lia⟩
  case lt=>rcases hu with rfl|rfl<;>simp only[WT,qp,T.size,T.names,aD]at *<;>exact⟨by simp[a],by lia,by lia⟩
  case st1=>subst hu;simp only[WT,qp,T.size,T.names,aD]at *;exact⟨by simp[a],by lia,by lia⟩
  case st2=>rcases hu with rfl|rfl<;>simp only[WT,qp,T.size,T.names,aD]at *<;>exact⟨by simp[a],by lia,by lia⟩
 refine⟨key.1,?_,?_,?_,?_⟩
 ·rw[aD,aw];lia
 ·lia
 ·lia
 ·lia
theorem kP{s:eK}{t:T}{i:Nat}(h:s.ok P)(ht:t∈s.t.kids):(s.kid i t).ok P:=⟨Co i h.1 ht (by show s.e.len≤_;lia),h.2⟩
theorem FJ{s:eK}(h:s.ok P):∀(ts:List T)(i:Nat),(∀t∈ts,t∈s.t.kids)→∀k∈wi s i ts,k.ok P
 | [],_,_,k,hk=>by cases hk
 | t::ts,i,ht,k,hk=>by
  rcases aB.mp hk with rfl|hk
  ·exact kP h (ht t (.head _))
  ·exact FJ h ts (i+1) (λu hu=>ht u (.tail _ hu)) k hk
theorem yi{s:eK}(h:s.ok P):∀k∈s.within,k.ok P:=FJ h _ 0 λ_ z=>z
theorem AX{ws ws':List Str}{s:eK}{Q:List eK}{rs:List Rw}(h:Tk ws s Q rs ws')(o:s.ok P):(∀k∈Q,k.ok P)∧∀r∈rs,r.ok P:=by
 cases h with
 | plain e=>refine⟨λk hk=>yi o k (List.mem_reverse.mp hk),λr hr=>?_⟩;rw[aG]at hr;subst hr;exact aJ
 | free e l=>refine⟨λk hk=>(nomatch hk),λr hr=>?_⟩;rw[aG]at hr;subst hr;exact aJ
 | called e l=>refine⟨λk hk=>(nomatch hk),λr hr=>?_⟩;rw[aG]at hr;subst hr;exact aJ
 | ready e l=>refine⟨λk hk=>(nomatch hk),λr hr=>?_⟩;rw[aG]at hr;subst hr;exact pQ o.2 l
 | handed e l=>refine⟨λk hk=>?_,λr hr=>(nomatch hr)⟩;rw[aG]at hk;subst hk;exact pQ (m:=.handed _ _ _ _) o.2 l
 | @lt w x a b e _ _ _=>
  refine⟨λk hk=>?_,λr hr=>?_⟩
  ·rcases aB.mp hk with rfl|hk
   ·exact⟨Co 1 o.1 (by rw[e];simp[T.kids]) (En.put_len _ _ _),Bm (m:=.called x) aJ o.2⟩
   ·rw[aG]at hk;subst hk;exact kP o (by rw[e];simp[T.kids])
  ·rw[aG]at hr;subst hr;exact aJ
theorem xN(h:∀v,1≤f v)(t:T):1≤kB f t:=by cases t<;>simp only[kB]<;>first|exact h _|lia
mutual
theorem Mg.wt_pos:∀{m:Mg},m.ok P→1≤m.wt h
 | .called _,_=>aC _
 | .ready _ _,a=>a.1
 | .handed t _ _ e,a=>by have:=xN (λv=>En.fw_pos (h:=h) (e:=e) a.2 v) t;simp only[Mg.wt];lia
theorem En.fw_pos:∀{e:En},e.ok P→∀v,1≤e.fw h v
 | .nil,_,_=>aC _
 | .cons w m e,a,v=>by
  simp only[En.fw];split
  ·exact Mg.wt_pos (m:=m) a.1
  ·exact En.fw_pos (e:=e) a.2.1 v
end
theorem wt_pos{h:Nat}{s:eK}(o:s.ok P):1≤s.wt h:=xN (En.fw_pos o.2) _
theorem sE{h:Nat}:∀{S:List eK},(∀s∈S,s.ok P)→S.length≤lv h S
 | [],_=>aC _
 | s::S,o=>by have h1:=wt_pos (h:=h) (o s (.head _));have h2:=sE (h:=h) (S:=S) λx hx=>o x (.tail _ hx);rw[lS,aE];lia
theorem km:∀{R:List Rw},(∀r∈R,r.ok P)→R.length≤lJ R
 | [],_=>aC _
 | r::R,o=>by
  have h1:1≤r.wt:=by
   have:=o r (.head _);cases r with
   | row=>exact aC _
   | rdy=>exact this.1
  have h2:=km (R:=R) λx hx=>o x (.tail _ hx);rw[jV,aE];lia
theorem AY(h:Tk ws s Q rs ws')(o:s.ok P):lv 1 Q<s.wt 1:=by
 cases h with
 | plain e=>rw[qy e,sD];lia
 | free e l=>rw[ij e,l,kF];exact Nat.one_pos
 | called e l=>rw[ij e,l,kF];exact Nat.one_pos
 | ready e l=>rw[ij e,l,kF];exact(pQ o.2 l).1
 | handed e l=>rw[ij e,l,hV];simp only[Mg.wt,eK.wt];lia
 | @lt w x a b e _ _ _=>rw[AK (x:=x) e];lia
theorem AW(h:Tk ws s Q rs ws'):ws'.length≤ws.length+rs.length:=by cases h<;>simp
theorem BS(h:AB S R ws R' ws'):ws'.length+R.length≤ws.length+R'.length:=by
 induction h with
 | nil=>lia
 | step a _ ih=>have:=AW a;rw[aD]at ih;lia
theorem vx(h:AB S R ws R' ws')(hS:∀s∈S,s.ok P)(hR:∀r∈R,r.ok P):∀r∈R',r.ok P:=by
 induction h with
 | nil=>exact hR
 | step a _ ih=>
  have h2:=AX a (hS _ (aS _ (.head _)));refine ih (λs hs=>?_) λr hr=>?_
  ·rcases aW.mp hs with z|z
   ·exact hS s (ag _ z)
   ·exact h2.1 s z
  ·rcases aW.mp hr with z|z
   ·exact hR r z
   ·exact h2.2 r z
theorem gt:∀(t:T){f g:Str→Nat},(∀v,f v≤g v)→kB f t≤kB g t
 | .num _,_,_,_=>aC _
 | .name w,_,_,h=>h w
 | .sum a b,_,_,h=>by have:=gt a h;have:=gt b h;simp only[kB];lia
 | .less a b,_,_,h=>by have:=gt a h;have:=gt b h;simp only[kB];lia
 | .cho a b c,_,_,h=>by have:=gt a h;have:=gt b h;have:=gt c h;simp only[kB];lia
 | .lt w a b,f,g,h=>by have:=gt a h;have:=gt b (f:=λv=>if w=v then 1 else f v) (g:=λv=>if w=v then 1 else g v) (λv=>by split<;>first|exact h v|exact aC _);simp only[kB];lia
 | .st0 _,_,_,_=>aC _
 | .st1 _ a,_,_,h=>by have:=gt a h;simp only[kB];lia
 | .st2 _ a b,_,_,h=>by have:=gt a h;have:=gt b h;simp only[kB];lia
mutual
theorem Mg.wt01:∀m:Mg,m.wt 0≤m.wt 1
 | .called _=>aC _
 | .ready _ _=>aC _
 | .handed t _ _ e=>by have:=gt t (λv=>En.fw01 e v);simp only[Mg.wt];lia
theorem En.fw01:∀(e:En)(v:Str),e.fw 0 v≤e.fw 1 v
 | .nil,_=>aC _
 | .cons w m e,v=>by
  simp only[En.fw];split
  ·exact Mg.wt01 m
  ·exact En.fw01 e v
end
theorem wt01(s:eK):s.wt 0≤s.wt 1:=gt _ (En.fw01 s.e)
theorem jI(hM:1≤M):∀(t:T){f:Str→Nat},(∀v,f v≤M)→kB f t+t.names.length≤t.size+t.names.length*M
 | .num _,_,_=>by simp[kB,T.names,T.size]
 | .name w,f,h=>by have:=h w;simp only[kB,T.names,T.size,aw,bz];lia
 | .sum a b,_,h=>by have:=jI hM a h;have:=jI hM b h;simp only[kB,T.names,T.size,aD,au];lia
 | .less a b,_,h=>by have:=jI hM a h;have:=jI hM b h;simp only[kB,T.names,T.size,aD,au];lia
 | .cho a b c,_,h=>by have:=jI hM a h;have:=jI hM b h;have:=jI hM c h;simp only[kB,T.names,T.size,aD,au];lia
 | .lt w a b,f,h=>by have:=jI hM a h;have:=jI hM b (f:=λv=>if w=v then 1 else f v) (λv=>by split<;>first|exact h v|exact hM);simp only[kB,T.names,T.size,aD,au];lia
 | .st0 _,_,_=>by simp[kB,T.names,T.size]
 | .st1 _ a,_,h=>by have:=jI hM a h;simp only[kB,T.names,T.size];lia
 | .st2 _ a b,_,h=>by have:=jI hM a h;have:=jI hM b h;simp only[kB,T.names,T.size,aD,au];lia
theorem uN(hM:1≤M)(t:T)(h:∀v,f v≤M):kB f t≤t.size*M:=by have h1:=jI hM t h;have h2:=t.names_len;obtain⟨k,hk⟩:=Nat.le.dest h2;rw[←hk,au];have:k≤k*M:=Nat.le_mul_of_pos_right k hM;lia
inductive Pn:List Rw→Nat→Prop where
 | start:Pn [] 1
 | add{R:List Rw}{c:Nat}{r:Rw}:Pn R (c+1)→Pn (R++[r]) (c+r.ar)
theorem FO(h:Tk ws s Q rs ws')(p:Pn R (c+1)):Pn (R++rs) (c+Q.length):=by
 cases h with
 | plain e=>rw[bI,eK.within,vd,←Fg e];exact p.add (r:=.row _ _ _)
 | free e l=>exact p.add (r:=.row _ _ _)
 | called e l=>exact p.add (r:=.row _ _ _)
 | ready e l=>exact p.add (r:=.rdy _ _)
 | handed e l=>rw[aZ];exact p
 | lt e _ _ _=>exact p.add (r:=.row _ _ _)
theorem IK(h:AB S R ws R' ws')(p:Pn R S.length):Pn R' 0:=by
 induction h with
 | nil=>exact p
 | step a _ ih=>refine ih ?_;rw[aD];refine FO a ?_;rw[aD]at p;exact p
inductive Bd:List Rw→Nat→Prop where
 | nil:Bd [] 0
 | cons{b:List Rw}{c:Nat}{r:Rw}:Bd b (r.ar+c)→Bd (r::b) (c+1)
theorem Ff(h:Pn a k):∀{b:List Rw},Bd b k→Bd (a++b) 1:=by
 induction h with
 | start=>exact λh=>h
 | @add R c r _ ih=>intro b h;rw[aV];exact ih (.cons (by rw[cb];exact h))
theorem IL(h:AB [s] [] ws R' ws'):Bd R' 1:=by have:=Ff (IK h .start) .nil;rwa[aZ]at this
theorem yb:∀{a b:List Rw}{n:Nat},Bd (a++b) n→∃c,Bd b c
 | [],b,n,h=>⟨n,h⟩
 | r::a,b,_,.cons h=>yb (a:=a) h
end S9
namespace S9
open PySem SW
def Rf(rd:List (List Rw))(n z:Nat):Prop:=∃R,rd[n]?=some R∧lJ R≤z
theorem Rf.mono(x:List (List Rw)):∀n z,Rf rd n z→Rf (rd++x) n z:=by rintro n z ⟨R,e,h⟩;exact⟨R,by rw[bB (aN.mp e).1];exact e,h⟩
inductive oa:Bool→List (List Rw)→List Str→eK→Mg→List (List Rw)→List Str→Prop where
 | handed{go:Bool}{rd:List (List Rw)}{ws:List Str}{s:eK}:Op s→oa go rd ws s (.handed s.t s.src s.path s.e) rd ws
 | ready{rd:List (List Rw)}{ws ws':List Str}{s:eK}{R:List Rw}:¬Op s→AB [s] [] ws R ws'→oa true rd ws s (.ready rd.length (s.wt 0)) (rd++[R]) ws'
 | late{rd:List (List Rw)}{ws:List Str}{s:eK}:¬Op s→oa false rd ws s (.ready rd.length (s.wt 0)) (rd++[[]]) ws
inductive uI(bo:Bo)(go:Bool)(rd:List (List Rw))(ws:List Str)(s:eK):eK→List (List Rw)→List Str→Prop where
 | star:s.t=.st0 "star"→uI bo go rd ws s ⟨bo.x,"star",[],.nil⟩ rd ws
 | sta{a:T}{m:Mg}{rd1:List (List Rw)}{ws1:List Str}:s.t=.st1 "sta" a→oa go rd ws (s.kid 0 a) m rd1 ws1→uI bo go rd ws s ⟨bo.y,"sta",[],.cons (qV bo.e) m .nil⟩ rd1 ws1
 | st{a b:T}{m n:Mg}{rd1 rd2:List (List Rw)}{ws1 ws2:List Str}:s.t=.st2 "st" a b→oa go rd ws (s.kid 0 a) m rd1 ws1→oa go rd1 ws1 (s.kid 1 b) n rd2 ws2→uI bo go rd ws s ⟨bo.z,"st",[],.cons (qV bo.e) m (.cons (vY bo.e) n .nil)⟩ rd2 ws2
structure oy where
 S:List eK
 R:List Rw
 k:Nat
 ws:List Str
 rd:List (List Rw)
inductive Fx(bo:Bo)(F:Nat):oy→oy→Prop where
 | take{S Q:List eK}{s:eK}{R rs:List Rw}{k:Nat}{ws ws':List Str}{rd:List (List Rw)}:Tk ws s Q rs ws'→Fx bo F ⟨S++[s],R,k,ws,rd⟩ ⟨S++Q,R++rs,k,ws',rd⟩
 | opn{S:List eK}{s s':eK}{R:List Rw}{k:Nat}{ws ws':List Str}{rd rd':List (List Rw)}:uI bo (decide (k+1≤F)) rd ws s s' rd' ws'→Fx bo F ⟨S++[s],R,k,ws,rd⟩ ⟨S++[s'],R,k+1,ws',rd'⟩
def oY(rd:List (List Rw)):Prop:=∀i R,rd[i]?=some R→Bd R 1∧∀r∈R,r.ok (Rf (rd.take i))
theorem oY.add(h:oY rd)(b:Bd R 1)(o:∀r∈R,r.ok (Rf rd)):oY (rd++[R]):=by
 intro i R' e;rcases bM i rd.length with hi|hi
 ·rw[bB hi]at e;rw[dM (bO hi)];exact h i R' e
 ·rw[bL hi]at e;have:i-rd.length=0:=by
   cases hq:i-rd.length with
   | zero=>rfl
   | succ n=>rw[hq]at e;simp at e
  rw[this]at e;cases e;have:i=rd.length:=by lia
  subst this;rw[cj];exact⟨b,o⟩
theorem tM(h:oa go rd ws s m rd' ws')(o:s.ok (Rf rd)):
  ∃x,rd'=rd++x∧x.length≤1∧m.ok (Rf rd')∧m.wt 1≤s.wt 1+1∧m.wt 0=s.wt 0∧(go=true→oY rd→oY rd'):=by
 cases h with
 | handed p=>exact⟨[],(aZ _).symm,aU _,⟨o.1,o.2⟩,by simp only[Mg.wt,eK.wt];lia,by simp only[Mg.wt,eK.wt];lia,λ_ z=>z⟩
 | @ready _ _ _ _ R p r=>
  have hw:lJ R=s.wt 0:=by rw[vw r,hV,ji];lia
  refine⟨[R],rfl,aC _,⟨wt_pos o,R,by simp,by lia⟩,?_,rfl,λ_ z=>z.add (IL r) (vx r ?_ ?_)⟩
  ·have:=wt01 s;simp only[Mg.wt];lia
  ·intro x hx;rw[aG]at hx;exact hx▸o
  ·intro x hx;cases hx
 | late p=>refine⟨[[]],rfl,aC _,⟨wt_pos o,[],by simp,by rw[ji];exact aU _⟩,?_,rfl,λz=>by cases z⟩;have:=wt01 s;simp only[Mg.wt];lia
structure uK(bo:Bo):Prop where
 a:BT bo.x [] 2
 b:BT bo.y [] 2
 c:BT bo.z [] 2
theorem BT.less(h:BT t p n)(hm:m≤n):BT t p m:=⟨h.1,h.2.1,by have:=h.2.2.1;lia,h.2.2.2⟩
theorem Ed(B:uK bo)(h:uI bo go rd ws s s' rd' ws')(o:s.ok (Rf rd)):
  ∃x,rd'=rd++x∧x.length≤2∧s'.ok (Rf rd')∧s'.wt 1≤900*s.wt 1∧(go=true→oY rd→oY rd'):=by
 have hp:=wt_pos (h:=1) o;have big:∀(t:T)(f:Str→Nat),t.size≤900→(∀v,f v≤s.wt 1)→kB f t≤900*s.wt 1:=λt f ht hf=>
  aY (uN hp t hf) (bX _ ht)
 cases h with
 | star e=>exact⟨[],(aZ _).symm,aU _,⟨B.a.less (by simp[En.len]),aJ⟩,big _ _ B.a.2.2.2.1 λv=>hp,λ_ z=>z⟩
 | @sta a m _ _ e h1=>
  have ok1:(s.kid 0 a).ok (Rf rd):=kP o (by rw[e];simp[T.kids]);obtain⟨x,rfl,hx,mo,mw,_,mr⟩:=tM h1 ok1;have ew:s.wt 1=1+(s.kid 0 a).wt 1:=by unfold eK.wt;rw[e];rfl
  refine⟨x,rfl,by lia,⟨B.b.less (by simp[En.len]),mo,aJ,rfl⟩,big _ _ B.b.2.2.2.1 λv=>?_,mr⟩;simp only[En.fw];split<;>lia
 | @st a b m n rd1 rd2 ws1 ws2 e h1 h2=>
  have ok1:(s.kid 0 a).ok (Rf rd):=kP o (by rw[e];simp[T.kids]);have ok2:(s.kid 1 b).ok (Rf rd):=kP o (by rw[e];simp[T.kids]);obtain⟨x,rfl,hx,mo,mw,_,mr⟩:=tM h1 ok1;obtain⟨y,rfl,hy,no,nw,_,nr⟩:=tM h2 (eK.ok_mono (Rf.mono x) ok2);have ew:s.wt 1=1+(s.kid 0 a).wt 1+(s.kid 1 b).wt 1:=by unfold eK.wt;rw[e];rfl
  refine⟨x++y,aV _ _ _,by rw[aD];lia,⟨B.c.less (by simp[En.len]),Mg.ok_mono (Rf.mono y) mo,⟨no,aJ,rfl⟩,if_neg (zT bo.e).symm⟩,big _ _ B.c.2.2.2.1 λv=>?_,λz1 z2=>nr z1 (mr z1 z2)⟩;simp only[En.fw];split
  ·lia
  ·split<;>lia
structure eZ(F n0:Nat)(st:oy):Prop where
 so:∀s∈st.S,s.ok (Rf st.rd)
 ro:∀r∈st.R,r.ok (Rf st.rd)
 pn:Pn st.R st.S.length
 rk:st.k≤F→oY st.rd
 mw:lv 1 st.S≤n0*900^st.k
 dl:st.rd.length≤2*st.k
theorem xp(B:uK bo)(h:Fx bo F st st')(I:eZ F n0 st):eZ F n0 st':=by
 cases h with
 | @take S Q s R rs k ws ws' rd a=>
  have os:=I.so s (aS _ (.head _));have h2:=AX a os;have hm:=AY a os;have mw:=I.mw;have pn:=I.pn;simp only[gK,hV]at mw;refine⟨λx hx=>?_,λr hr=>?_,?_,I.rk,?_,I.dl⟩
  ·rcases aW.mp hx with z|z
   ·exact I.so x (ag _ z)
   ·exact h2.1 x z
  ·rcases aW.mp hr with z|z
   ·exact I.ro r z
   ·exact h2.2 r z
  ·simp only[aD]at pn⊢;exact FO a pn
  ·show lv 1 (S++Q)≤n0*900^k;rw[gK];lia
 | @opn S s s' R k ws ws' rd rd' a=>
  have os:=I.so s (aS _ (.head _));obtain⟨x,rfl,hx,ok',hw,hr⟩:=Ed B a os;have mw:=I.mw;have pn:=I.pn;have dl:=I.dl;simp only[gK,hV]at mw;refine⟨λy hy=>?_,λr hr=>Rw.ok_mono (Rf.mono x) (I.ro r hr),?_,λhk=>?_,?_,?_⟩
  ·rcases aW.mp hy with z|z
   ·exact eK.ok_mono (Rf.mono x) (I.so y (ag _ z))
   ·rw[aG]at z;exact z▸ok'
  ·simp only[aD,aw]at pn⊢;exact pn
  ·exact hr (decide_eq_true hk) (I.rk (Nat.le_of_succ_le hk))
  ·show lv 1 (S++[s'])≤n0*900^(k+1);rw[gK,hV,cg,←Nat.mul_assoc];generalize n0*900^k=y at *;lia
  ·simp only[aD]at dl⊢;lia
def mu(F n0:Nat)(st:oy):Nat:=(F+1-st.k)*(n0*900^(F+1)+1)+lv 1 st.S
theorem IG(B:uK bo)(h:Fx bo F st st')(I:eZ F n0 st)(hk:st.k≤F):mu F n0 st'<mu F n0 st:=by
 have I':=xp B h I;cases h with
 | @take S Q s R rs k ws ws' rd a=>have os:=I.so s (aS _ (.head _));have hm:=AY a os;unfold mu;simp only[gK,hV];lia
 | @opn S s s' R k ws ws' rd rd' a=>
  have mw:=I'.mw;have hk:k≤F:=hk;unfold mu;simp only at mw⊢;have hp:n0*900^(k+1)≤n0*900^(F+1):=Nat.mul_le_mul_left _ (Nat.pow_le_pow_right (by decide) (by lia));have e:F+1-k=(F+1-(k+1))+1:=by lia
  rw[e,au,bz];generalize (F+1-(k+1))*(n0*900^(F+1)+1)=y at *;generalize n0*900^(F+1)=z at *;generalize n0*900^(k+1)=z2 at *;lia
inductive uM(bo:Bo)(F:Nat)(st0:oy):oy→Prop where
 | refl:uM bo F st0 st0
 | step{st st':oy}:uM bo F st0 st→st.k≤F→Fx bo F st st'→uM bo F st0 st'
theorem pO(B:uK bo)(h:uM bo F st0 st)(I:eZ F n0 st0):eZ F n0 st:=by
 induction h with
 | refl=>exact I
 | step _ _ a ih=>exact xp B a ih
def wV:Hd→List T→T
 | .num n,_=>.num n
 | .name w,_=>.name w
 | .sum,[a,b]=>.sum a b
 | .less,[a,b]=>.less a b
 | .cho,[a,b,c]=>.cho a b c
 | .lt w,[a,b]=>.lt w a b
 | _,_=>.num 0
def zA(W:List T)(m:List T):Rw→List T
 | .row h _ _=>wV h (m.take h.ar)::m.drop h.ar
 | .rdy n _=>(W[n]?.getD (.num 0))::m
def mQ(W:List T):List Rw→List T
 | []=>[]
 | r::b=>zA W (mQ W b) r
theorem pf:∀{b:List Rw}{c:Nat},Bd b c→(mQ W b).length=c
 | _,_,.nil=>rfl
 | r::b,_,.cons h=>by
  have ih:=pf (W:=W) h;cases r with
  | row hd src path=>simp only[mQ,zA,aE,aj,ih,Rw.ar];lia
  | rdy n z=>simp only[mQ,zA,aE,ih,Rw.ar];lia
theorem CH(hl:ts.length=h.ar):(wV h ts).size=1+fE ts:=by
 cases h with
 | num n=>cases ts with
  | nil=>rfl
  | cons=>simp[Hd.ar]at hl
 | name n=>cases ts with
  | nil=>rfl
  | cons=>simp[Hd.ar]at hl
 | sum=>match ts,hl with
  | [a,b],_=>simp[wV,T.size,fE];lia
 | less=>match ts,hl with
  | [a,b],_=>simp[wV,T.size,fE];lia
 | cho=>match ts,hl with
  | [a,b,c],_=>simp[wV,T.size,fE];lia
 | lt w=>match ts,hl with
  | [a,b],_=>simp[wV,T.size,fE];lia
theorem Et(hn:∀t∈ts,¬oX t):¬oX (wV h ts):=by
 unfold wV;split
 ·exact not_false
 ·exact not_false
 ·rintro(z|z)<;>exact hn _ (by simp) z
 ·rintro(z|z)<;>exact hn _ (by simp) z
 ·rintro(z|z|z)<;>exact hn _ (by simp) z
 ·rintro(z|z)<;>exact hn _ (by simp) z
 ·exact not_false
def OM(W:List T)(n z:Nat):Prop:=∃t,W[n]?=some t∧t.size≤z∧¬oX t
theorem vN:∀{b:List Rw}{c:Nat},Bd b c→(∀r∈b,r.ok (OM W))→fE (mQ W b)≤lJ b∧∀t∈mQ W b,¬oX t
 | _,_,.nil,_=>⟨aC _,λt ht=>by cases ht⟩
 | r::b,_,.cons h,o=>by
  have ih:=vN (W:=W) h λx hx=>o x (.tail _ hx);have hl:=pf (W:=W) h;cases r with
  | row hd src path=>
   have e:(wV hd ((mQ W b).take hd.ar)).size=1+fE ((mQ W b).take hd.ar):=CH (by rw[ah,hl];simp only[Rw.ar];lia);have e2:fE ((mQ W b).take hd.ar)+fE ((mQ W b).drop hd.ar)=fE (mQ W b):=by rw[←fK,cI]
   refine⟨?_,λt ht=>?_⟩
   ·simp only[mQ,zA,gA,jV,Rw.wt,e];lia
   ·rcases aB.mp ht with rfl|ht
    ·exact Et λt ht=>ih.2 t (dN ht)
    ·exact ih.2 t (List.mem_of_mem_drop ht)
  | rdy n z=>
   obtain⟨h1,t,e,h2,h3⟩:=o _ (.head _);refine⟨?_,λu hu=>?_⟩
   ·simp only[mQ,zA,gA,jV,Rw.wt,e,b4];lia
   ·simp only[mQ,zA,e,b4]at hu;rcases aB.mp hu with rfl|hu
    ·exact h3
    ·exact ih.2 u hu
abbrev kj:=Str×List Nat
def ie(W:List (List kj)):List Rw→List kj
 | []=>[]
 | .row _ s p::b=>(s,p)::ie W b
 | .rdy n _::b=>(W[n]?.getD [])++ie W b
theorem gu(W:List (List kj)):∀a b:List Rw,ie W (a++b)=ie W a++ie W b
 | [],_=>rfl
 | .row _ s p::a,b=>by simp only[aO,ie,gu W a b]
 | .rdy n _::a,b=>by simp only[aO,ie,gu W a b,aV]
def NP(W:List (List kj))(n z:Nat):Prop:=∃t,W[n]?=some t∧t.length≤z
theorem mx:∀{b:List Rw},(∀r∈b,r.ok (NP W))→(ie W b).length≤lJ b
 | [],_=>aC _
 | .row _ s p::b,o=>by have:=mx (W:=W) (b:=b) λx hx=>o x (.tail _ hx);simp only[ie,aE,jV,Rw.wt];lia
 | .rdy n z::b,o=>by have:=mx (W:=W) (b:=b) λx hx=>o x (.tail _ hx);obtain⟨h1,t,e,h2⟩:=o _ (.head _);simp only[ie,aD,e,b4,jV,Rw.wt];lia
structure Cz(st:oy):Prop where
 k:st.k≤400000
 wt:lv 0 st.S+lJ st.R≤1000000
 ws:st.ws.length≤1000000
 rd:∀R∈st.rd,lJ R≤1000000
def lK(rd:List (List Rw)):Nat:=(rd.map lJ).sum
def mW(rd:List (List Rw)):Nat:=(rd.map List.length).sum
theorem kH(a b:List (List Rw)):lK (a++b)=lK a+lK b:=by simp[lK]
theorem kI(a b:List (List Rw)):mW (a++b)=mW a+mW b:=by simp[mW]
theorem uc:∀{rd:List (List Rw)},R∈rd→lJ R≤lK rd
 | x::rd,h=>by
  have e:lK (x::rd)=lJ x+lK rd:=by simp[lK]
  rcases aB.mp h with rfl|h
  ·lia
  ·have:=uc h;lia
theorem tL(h:oa true rd ws s m rd' ws')(o:s.ok P):
  ∃x,rd'=rd++x∧lK x≤s.wt 0∧mW x≤lK x∧ws'.length≤ws.length+mW x:=by
 cases h with
 | handed p=>exact⟨[],(aZ _).symm,aU _,aC _,aC _⟩
 | @ready _ _ _ _ R p r=>
  have hw:lJ R=s.wt 0:=by rw[vw r,hV,ji];lia
  have h2:=BS r;have h3:=km (vx r (P:=P) (λx hx=>by rw[aG]at hx;exact hx▸o) (λx hx=>by cases hx));refine⟨[R],rfl,?_,?_,?_⟩
  ·simp[lK];lia
  ·simp[lK,mW];lia
  ·simp[mW]at h2⊢;lia
theorem Kr{n k M:Nat}(h:n≤k):n*M≤k*M:=bX _ h
def st0(t:T)(ws:List Str):oy:=⟨[⟨t,"",[],.nil⟩],[],0,ws,[]⟩
theorem AJ(h:Nat)(t:T):(eK.mk t "" [] .nil).wt h≤t.size:=by have:=uN (aC 1) t (f:=(En.nil).fw h) λv=>aC _;show kB ((En.nil).fw h) t≤_;lia
theorem ki(h:BT t [] 0):eZ F t.size (st0 t ws):=by
 refine⟨λs hs=>?_,λr hr=>(nomatch hr),.start,λ_ i R e=>by simp[st0]at e,?_,aC _⟩
 ·have hs:s=⟨t,"",[],.nil⟩:=by simpa[st0]using hs
  subst hs;exact⟨h,aJ⟩
 ·show lv 1 [⟨t,"",[],.nil⟩]≤t.size*900^0;have:=AJ 1 t;rw[hV];lia
end S9
namespace S9
open PySem L2 SW
inductive Al{α:Type}(A:α→V→Prop):List α→List V→Prop where
 | nil:Al A [] []
 | cons{a:α}{v:V}{as:List α}{vs:List V}:A a v→Al A as vs→Al A (a::as) (v::vs)
section
variable {α:Type}{A B:α→V→Prop}
theorem Al.mono(h:∀a v,A a v→B a v):∀{as:List α}{vs:List V},Al A as vs→Al B as vs
 | _,_,.nil=>.nil
 | _,_,.cons a r=>.cons (h _ _ a) (Al.mono h r)
theorem Al.length:∀{as:List α}{vs:List V},Al A as vs→vs.length=as.length
 | _,_,.nil=>rfl
 | _,_,.cons _ r=>by rw[aE,aE,Al.length r]
theorem Al.append:∀{as bs:List α}{vs us:List V},Al A as vs→Al A bs us→Al A (as++bs) (vs++us)
 | _,_,_,_,.nil,q=>q
 | _,_,_,_,.cons a r,q=>.cons a (Al.append r q)
theorem Al.one(h:A a v):Al A [a] [v]:=.cons h .nil
theorem Al.snoc:∀{as:List α}{vs:List V}{v:V},Al A as (vs++[v])→∃bs b,as=bs++[b]∧Al A bs vs∧A b v
 | _,[],v,.cons a .nil=>⟨[],_,rfl,.nil,a⟩
 | _,x::vs,v,.cons a r=>by obtain⟨us,t,rfl,h1,h2⟩:=Al.snoc (vs:=vs) r;exact⟨_::us,t,rfl,.cons a h1,h2⟩
theorem Al.get:∀{as:List α}{vs:List V}{i:Nat}{v:V},Al A as vs→vs[i]?=some v→∃a,as[i]?=some a∧A a v
 | _,_,0,_,.cons a r,h=>by cases h;exact⟨_,rfl,a⟩
 | _,_,i+1,_,.cons a r,h=>Al.get (i:=i) r h
theorem Al.getA:∀{as:List α}{vs:List V}{i:Nat}{a:α},Al A as vs→as[i]?=some a→∃v,vs[i]?=some v∧A a v
 | _,_,0,_,.cons a r,h=>by cases h;exact⟨_,rfl,a⟩
 | _,_,i+1,_,.cons a r,h=>Al.getA (i:=i) r h
theorem Al.reverse:∀{as:List α}{vs:List V},Al A as vs→Al A as.reverse vs.reverse
 | _,_,.nil=>.nil
 | _,_,.cons a r=>by rw[aq,aq];exact(Al.reverse r).append (.cons a .nil)
end
def mn(l:List Nat):List V:=l.map λi:Nat=>V.int (i:Int)
theorem ET(l:List Nat):(mn l).length=l.length:=aT _
mutual
def pG(tk:Addr→Prop)(H:Hp):Mg→V→Prop
 | .called w,v=>∃p,v=.ref p∧H p=some (.tup [.str "called",.str w])
 | .ready n _,v=>∃p,v=.ref p∧H p=some (.tup [.str "ready",.int (n:Int)])
 | .handed t src path e,v=>∃p q x pp d kvs,v=.ref p∧H p=some (.tup [.str "handed",.ref q])∧H q=some (.tup [x,.str src,.ref pp,.ref d])∧gN H t x∧H pp=some (.tup (mn path))∧tk d∧H d=some (.dK kvs)∧lQ tk H e kvs
def lQ(tk:Addr→Prop)(H:Hp):En→List (fO×V)→Prop
 | .nil,kvs=>kvs=[]
 | .cons w m e,kvs=>∃v r,kvs=(.inr w,v)::r∧pG tk H m v∧lQ tk H e r
end
def iU(tk:Addr→Prop)(H:Hp)(s:eK)(v:V):Prop:=∃q x pp d kvs,v=.ref q∧H q=some (.tup [x,.str s.src,.ref pp,.ref d])∧gN H s.t x∧H pp=some (.tup (mn s.path))∧tk d∧H d=some (.dK kvs)∧lQ tk H s.e kvs
def Hd.vs:Hd→List V
 | .num n=>[.str "number",.int n]
 | .name w=>[.str "name",.str w]
 | .sum=>[.str "sum"]
 | .less=>[.str "less"]
 | .cho=>[.str "choose"]
 | .lt w=>[.str "let",.str w]
def kS(H:Hp)(s:kj)(v:V):Prop:=∃q pp,v=.ref q∧H q=some (.tup [.str s.1,.ref pp])∧H pp=some (.tup (mn s.2))
def je(H:Hp):Rw→V→Prop
 | .row h src path,v=>∃r hp s,v=.ref r∧H r=some (.tup [.str "row",.ref hp,.int (h.ar:Int),s])∧H hp=some (.tup h.vs)∧kS H (src,path) s
 | .rdy n _,v=>∃p,v=.ref p∧H p=some (.tup [.str "ready",.int (n:Int)])
structure Kp(tk:Addr→Prop)(H H':Hp):Prop where
 tup:fR H H'
 dct:∀d kvs,tk d→H d=some (.dK kvs)→H' d=some (.dK kvs)
section
variable {tk:Addr→Prop}{H H' H2:Hp}
theorem Kp.refl:Kp tk H H:=⟨fR.refl,λ_ _ _ h=>h⟩
theorem Kp.trans(a:Kp tk H H')(b:Kp tk H' H2):Kp tk H H2:=⟨a.tup.trans b.tup,λd kvs n h=>b.dct d kvs n (a.dct d kvs n h)⟩
theorem Kp.same(s:dz H H'):Kp tk H H':=⟨dh s,λd kvs _ h=>s _ _ h⟩
theorem Kp.lst(h:H l=some (.lst ys)):Kp tk H (upd H l o):=⟨fP h,λd kvs _ e=>by rw[dj (fF e h (by intro z;cases z))];exact e⟩
theorem Kp.ins(h:H l=some (.ins C dx fs)):Kp tk H (upd H l o):=
 ⟨λb xs e=>by rw[dj (fF e h (by intro z;cases z))];exact e,λd kvs _ e=>by rw[dj (fF e h (by intro z;cases z))];exact e⟩
mutual
theorem pG.mono(k:Kp tk H H'):∀{m:Mg}{v:V},pG tk H m v→pG tk H' m v
 | .called _,_,h=>by obtain⟨p,e,h⟩:=h;exact⟨p,e,k.tup _ _ h⟩
 | .ready _ _,_,h=>by obtain⟨p,e,h⟩:=h;exact⟨p,e,k.tup _ _ h⟩
 | .handed t src path e,_,h=>by obtain⟨p,q,x,pp,d,kvs,h0,h1,h2,h3,h4,h5,h6,h7⟩:=h;exact⟨p,q,x,pp,d,kvs,h0,k.tup _ _ h1,k.tup _ _ h2,h3.mono k.tup,k.tup _ _ h4,h5,k.dct _ _ h5 h6,lQ.mono k (e:=e) h7⟩
theorem lQ.mono(k:Kp tk H H'):∀{e:En}{kvs:List (fO×V)},lQ tk H e kvs→lQ tk H' e kvs
 | .nil,_,h=>h
 | .cons w m e,_,h=>by obtain⟨v,r,h0,h1,h2⟩:=h;exact⟨v,r,h0,pG.mono k (m:=m) h1,lQ.mono k (e:=e) h2⟩
end
mutual
theorem pG.old(k:∀d o,H d=some o→tk d→tk' d):∀{m:Mg}{v:V},pG tk H m v→pG tk' H m v
 | .called _,_,h=>h
 | .ready _ _,_,h=>h
 | .handed t src path e,_,h=>by obtain⟨p,q,x,pp,d,kvs,h0,h1,h2,h3,h4,h5,h6,h7⟩:=h;exact⟨p,q,x,pp,d,kvs,h0,h1,h2,h3,h4,k _ _ h6 h5,h6,lQ.old k (e:=e) h7⟩
theorem lQ.old(k:∀d o,H d=some o→tk d→tk' d):∀{e:En}{kvs:List (fO×V)},lQ tk H e kvs→lQ tk' H e kvs
 | .nil,_,h=>h
 | .cons w m e,_,h=>by obtain⟨v,r,h0,h1,h2⟩:=h;exact⟨v,r,h0,pG.old k (m:=m) h1,lQ.old k (e:=e) h2⟩
end
theorem iU.old(k:∀d o,H d=some o→tk d→tk' d)(h:iU tk H s v):iU tk' H s v:=by obtain⟨q,x,pp,d,kvs,h0,h2,h3,h4,h5,h6,h7⟩:=h;exact⟨q,x,pp,d,kvs,h0,h2,h3,h4,k _ _ h6 h5,h6,h7.old k⟩
theorem iU.mono(k:Kp tk H H')(h:iU tk H s v):iU tk H' s v:=by obtain⟨q,x,pp,d,kvs,h0,h2,h3,h4,h5,h6,h7⟩:=h;exact⟨q,x,pp,d,kvs,h0,k.tup _ _ h2,h3.mono k.tup,k.tup _ _ h4,h5,k.dct _ _ h5 h6,h7.mono k⟩
theorem kS.mono(k:fR H H')(h:kS H s v):kS H' s v:=by obtain⟨q,pp,h0,h1,h2⟩:=h;exact⟨q,pp,h0,k _ _ h1,k _ _ h2⟩
theorem je.mono(k:fR H H'):∀{r:Rw}{v:V},je H r v→je H' r v
 | .row _ _ _,_,h=>by obtain⟨r,hp,s,h0,h1,h2,h3⟩:=h;exact⟨r,hp,s,h0,k _ _ h1,k _ _ h2,h3.mono k⟩
 | .rdy _ _,_,h=>by obtain⟨p,e,h⟩:=h;exact⟨p,e,k _ _ h⟩
theorem wv:∀{e:En}{kvs:List (fO×V)},lQ tk H e kvs→kvs.length=e.len
 | .nil,_,h=>by subst h;rfl
 | .cons w m e,_,h=>by obtain⟨v,r,rfl,_,h2⟩:=h;rw[aE,En.len,wv (e:=e) h2]
theorem tX(w:Str):∀{e:En}{kvs:List (fO×V)},lQ tk H e kvs→(e.look w=none∧fW kvs (.inr w)=none)∨∃m v,e.look w=some m∧fW kvs (.inr w)=some v∧pG tk H m v
 | .nil,_,h=>by subst h;exact .inl ⟨rfl,rfl⟩
 | .cons y m e,_,h=>by
  obtain⟨v,r,rfl,h1,h2⟩:=h;by_cases hy:y=w
  ·subst hy;exact .inr ⟨m,v,by simp only[En.look,if_true],gE rfl,h1⟩
  ·have e1:En.look (.cons y m e) w=e.look w:=by simp only[En.look,if_neg hy]
   have e2:fW (((.inr y,v):fO×V)::r) (.inr w)=fW r (.inr w):=gF λz=>hy (Sum.inr.inj z);rw[e1,e2];exact tX w (e:=e) h2
theorem zR(nd:y=w→fW r (.inr w)=none):gH (((.inr y,v):fO×V)::r) (.inr w) x=if y=w then(.inr y,x)::r else(.inr y,v)::gH r (.inr w) x:=by
 by_cases hy:y=w
 ·subst hy;rw[if_pos rfl];have h0:=jW (.inr y:fO) r;rw[nd rfl]at h0;have h1:∀p∈r,¬p.1=(.inr y:fO):=by intro p hp z;have:(r.any λkv=>decide (kv.1=(.inr y:fO)))=true:=ce.mpr ⟨p,hp,decide_eq_true z⟩;rw[h0]at this;cases this
  unfold gH;rw[if_pos (by simp),aX,if_pos rfl]
  congr 1
  refine(dH λp hp=>if_neg (h1 p hp)).trans (List.map_id' r)
 ·rw[if_neg hy];have hy2:¬(Sum.inr y:fO)=.inr w:=λz=>hy (Sum.inr.inj z);unfold gH;rw[bc,decide_eq_false hy2,Bool.false_or];split
  ·rw[aX,if_neg hy2]
  ·rfl
end
abbrev Nk(a:Addr):Addr→Prop:=λd=>d≠a
def En.nd:En→Prop
 | .nil=>True
 | .cons w _ e=>e.look w=none∧e.nd
theorem Fh:∀{e:En},e.ok P→e.nd
 | .nil,_=>aJ
 | .cons _ _ e,h=>⟨h.2.2,Fh (e:=e) h.2.1⟩
theorem CG:∀{e:En},e.nd→(e.put w n).nd
 | .nil,_=>⟨rfl,aJ⟩
 | .cons y m e,h=>by
  unfold En.put;split
  ·exact h
  ·rename_i hy;refine⟨?_,CG (e:=e) h.2⟩;rw[En.look_put,if_neg (λz=>hy z.symm)];exact h.1
theorem wu(hn:pG tk H n x):∀{e:En}{kvs:List (fO×V)},e.nd→lQ tk H e kvs→lQ tk H (e.put w n) (gH kvs (.inr w) x)
 | .nil,_,_,h=>by have h:_=[]:=h;subst h;exact⟨x,[],rfl,hn,rfl⟩
 | .cons y m e,_,nd,h=>by
  obtain⟨v,r,rfl,h1,h2⟩:=h;have hnone:y=w→fW r (.inr w)=none:=λz=>by
   subst z;rcases tX y h2 with⟨_,e2⟩|⟨m',v',e1,_⟩
   ·exact e2
   ·have:=nd.1;rw[e1]at this;cases this
  rw[zR hnone];unfold En.put;by_cases hy:y=w
  ·rw[if_pos hy,if_pos hy];exact⟨x,r,rfl,hn,h2⟩
  ·rw[if_neg hy,if_neg hy];exact⟨v,_,rfl,h1,wu hn (e:=e) nd.2 h2⟩
structure RO(K:aA)(C:Addr):Prop where
 cl:xJ K C
 nS:jG K C "stamps"
 nL:jG K C "lets"
 nF:jG K C "fuel"
 nM:jG K C "many"
 nR:jG K C "ready"
def mG(sd lp:Addr)(F k:Nat)(yl:Addr):List (Str×V):=[("stamps",.ref sd),("lets",.ref lp),("fuel",.int (F:Int)),("many",.int (k:Int)),("ready",.ref yl)]
section
variable {sd lp yl:Addr}{F k:Nat}
theorem oH:(mG sd lp F k yl).lookup ("stamps":Str)=some (.ref sd):=by
 have e1:(("stamps":Str)=="stamps")=true:=by decide
 simp only[mG,List.lookup,e1]
theorem Ep:(mG sd lp F k yl).lookup ("lets":Str)=some (.ref lp):=by
 have e1:(("lets":Str)=="stamps")=false:=by decide
 have e2:(("lets":Str)=="lets")=true:=by decide
 simp only[mG,List.lookup,e1,e2]
theorem tJ:(mG sd lp F k yl).lookup ("fuel":Str)=some (.int (F:Int)):=by
 have e1:(("fuel":Str)=="stamps")=false:=by decide
 have e2:(("fuel":Str)=="lets")=false:=by decide
 have e3:(("fuel":Str)=="fuel")=true:=by decide
 simp only[mG,List.lookup,e1,e2,e3]
theorem mH:(mG sd lp F k yl).lookup ("many":Str)=some (.int (k:Int)):=by
 have e1:(("many":Str)=="stamps")=false:=by decide
 have e2:(("many":Str)=="lets")=false:=by decide
 have e3:(("many":Str)=="fuel")=false:=by decide
 have e4:(("many":Str)=="many")=true:=by decide
 simp only[mG,List.lookup,e1,e2,e3,e4]
theorem qW:(mG sd lp F k yl).lookup ("ready":Str)=some (.ref yl):=by
 have e1:(("ready":Str)=="stamps")=false:=by decide
 have e2:(("ready":Str)=="lets")=false:=by decide
 have e3:(("ready":Str)=="fuel")=false:=by decide
 have e4:(("ready":Str)=="many")=false:=by decide
 have e5:(("ready":Str)=="ready")=true:=by decide
 simp only[mG,List.lookup,e1,e2,e3,e4,e5]
theorem nH{m:Str}(e1:(m=="stamps")=false:=by decide)(e2:(m=="lets")=false:=by decide)(e3:(m=="fuel")=false:=by decide)(e4:(m=="many")=false:=by decide)(e5:(m=="ready")=false:=by decide):(mG sd lp F k yl).lookup m=none:=by simp only[mG,List.lookup,e1,e2,e3,e4,e5]
theorem OG:¬(("stamps":Str)="many"):=by decide
theorem OH:¬(("lets":Str)="many"):=by decide
theorem OI:¬(("fuel":Str)="many"):=by decide
theorem Iq{z:Int}{j:Nat}(h:z=(j:Int)):iM "many" (.int z) (mG sd lp F k yl)=mG sd lp F j yl:=by subst h;simp only[mG,iM,if_neg OG,if_neg OH,if_neg OI,if_true]
theorem Ir:(mG sd lp F k yl).length<1000:=by show 5<1000;decide
end
structure Ad where
 op:Addr
 dx:Addr
 sd:Addr
 lp:Addr
 lx:Addr
 tk:Addr
 yl:Addr
 v1:V
 v2:V
 v3:V
def C8(N:Addr→Prop)(H:Hp)(w:Str)(ps:List Str)(t:T)(v:V):Prop:=∃p l x,v=.ref p∧H p=some (.tup [.str w,.ref l,x])∧H l=some (.lst (ps.map V.str))∧N l∧gN H t x
def uF(N:Addr→Prop)(H:Hp)(R:List Rw)(u:V):Prop:=∃l vs,u=.ref l∧N l∧H l=some (.lst vs)∧Al (je H) R vs
structure fm(C D:Addr)(A:Ad)(bo:Bo)(F:Nat)(N:Addr→Prop)(k:Nat)(ws:List Str)(rd:List (List Rw))(H:Hp):Prop where
 ob:H A.op=some (.ins C A.dx (mG A.sd A.lp F k A.yl))
 fw:∃n,FW D H A.lp A.lx A.tk n ws∧n+cnt n ws≤ws.length
 sd:H A.sd=some (.dK (zd A.v1 A.v2 A.v3))
 st:A.sd≠A.tk
 s1:C8 N H "star" [] bo.x A.v1
 s2:C8 N H "sta" [qV bo.e] bo.y A.v2
 s3:C8 N H "st" [qV bo.e,vY bo.e] bo.z A.v3
 yl:∃us,H A.yl=some (.lst us)∧Al (uF N H) rd us
def Ex(l:List Addr)(H H':Hp):Prop:=∀b o,b∉l→H b=some o→H' b=some o
theorem Ex.refl:Ex l H H:=λ_ _ _ h=>h
theorem Ex.trans(a:Ex l H H1)(b:Ex l H1 H2):Ex l H H2:=λc o n h=>b c o n (a c o n h)
theorem Ex.same(s:dz H H1):Ex l H H1:=λc o _ h=>s c o h
theorem Ex.more(h:∀a∈l,a∈l')(e:Ex l H H1):Ex l' H H1:=λc o n z=>e c o (λq=>n (h c q)) z
theorem Ex.upd(h:a∈l):Ex l H (upd H a o):=λc u n z=>by rw[dj (λe=>n (by rw[e];exact h))];exact z
theorem Ex.new(h:∀a∈l',a∈l∨H a=none)(e:Ex l' H H1):Ex l H H1:=λc o n z=>e c o (λq=>(h c q).elim n λq2=>by rw[q2]at z;cases z) z
section
variable {C D:Addr}{A:Ad}{bo:Bo}{F k:Nat}{N N':Addr→Prop}{ws:List Str}{rd:List (List Rw)}{H H':Hp}
theorem C8.mono(hN:∀a,N a→N' a)(ht:fR H H')(hl:∀l xs,N l→H l=some (.lst xs)→H' l=some (.lst xs))(h:C8 N H w ps t v):C8 N' H' w ps t v:=by obtain⟨p,l,x,e,h1,h2,h3,h4⟩:=h;exact⟨p,l,x,e,ht _ _ h1,hl _ _ h3 h2,hN _ h3,h4.mono ht⟩
theorem uF.mono(hN:∀a,N a→N' a)(ht:fR H H')(hl:∀l xs,N l→H l=some (.lst xs)→H' l=some (.lst xs))(h:uF N H R u):uF N' H' R u:=by obtain⟨l,vs,e,h1,h2,h3⟩:=h;exact⟨l,vs,e,hN _ h1,hl _ _ h1 h2,h3.mono λ_ _=>je.mono ht⟩
theorem fm.nOL(O:fm C D A bo F N k ws rd H):A.op≠A.lp:=by obtain⟨n,f,_⟩:=O.fw;exact fF O.ob f.ob (by intro z;injection z with _ _ z;simp[mG,wf]at z)
theorem fm.nOT(O:fm C D A bo F N k ws rd H):A.op≠A.tk:=by obtain⟨n,f,_⟩:=O.fw;exact fF O.ob f.dk (by intro z;cases z)
theorem fm.nOY(O:fm C D A bo F N k ws rd H):A.op≠A.yl:=by obtain⟨n,f,_⟩:=O.yl;exact fF O.ob f (by intro z;cases z)
theorem fm.ex(O:fm C D A bo F N k ws rd H)(e:Ex l H H')(h1:A.op∉l)(h2:A.lp∉l)(h3:A.tk∉l)(h4:A.sd∉l)(h5:A.yl∉l)(ht:fR H H')(hl:∀a,N a→a∉l):fm C D A bo F N k ws rd H':=by have hL:∀l xs,N l→H l=some (.lst xs)→H' l=some (.lst xs):=λa xs n z=>e _ _ (hl a n) z;obtain⟨n,f,c⟩:=O.fw;obtain⟨us,y1,y2⟩:=O.yl;exact⟨e _ _ h1 O.ob,⟨n,⟨e _ _ h2 f.ob,e _ _ h3 f.dk⟩,c⟩,e _ _ h4 O.sd,O.st,O.s1.mono (λ_ z=>z) ht hL,O.s2.mono (λ_ z=>z) ht hL,O.s3.mono (λ_ z=>z) ht hL,us,e _ _ h5 y1,y2.mono λ_ _=>uF.mono (λ_ z=>z) ht hL⟩
theorem fm.same(O:fm C D A bo F N k ws rd H)(s:dz H H'):fm C D A bo F N k ws rd H':=
 O.ex (l:=[]) (Ex.same s) (by simp) (by simp) (by simp) (by simp) (by simp) (dh s) (by simp)
theorem fm.lst(O:fm C D A bo F N k ws rd H)(h:H l=some (.lst xs))(ny:l≠A.yl)(nl:∀a,N a→a≠l):fm C D A bo F N k ws rd (upd H l o):=by
 obtain⟨n,f,_⟩:=O.fw;refine O.ex (l:=[l]) (Ex.upd (aG.mpr rfl)) ?_ ?_ ?_ ?_ ?_ (fP h) (λa z q=>nl a z (aG.mp q))
 ·exact λq=>fF O.ob h (by intro z;cases z) (aG.mp q)
 ·exact λq=>fF f.ob h (by intro z;cases z) (aG.mp q)
 ·exact λq=>fF f.dk h (by intro z;cases z) (aG.mp q)
 ·exact λq=>fF O.sd h (by intro z;cases z) (aG.mp q)
 ·exact λq=>ny (aG.mp q).symm
theorem fm.weak(O:fm C D A bo F N k ws rd H)(h:∀a o,H a=some o→N a→N' a):fm C D A bo F N' k ws rd H:=by have hS:∀{w:Str}{ps:List Str}{t:T}{v:V},C8 N H w ps t v→C8 N' H w ps t v:=λ⟨p,l,x,e,h1,h2,h3,h4⟩=>⟨p,l,x,e,h1,h2,h _ _ h2 h3,h4⟩;obtain⟨us,y1,y2⟩:=O.yl;exact⟨O.ob,O.fw,O.sd,O.st,hS O.s1,hS O.s2,hS O.s3,us,y1,y2.mono λR u ⟨l,vs,e,h1,h2,h3⟩=>⟨l,vs,e,h _ _ h2 h1,h2,h3⟩⟩
theorem fm.kp(O:fm C D A bo F N k ws rd H)(e:Ex l H H')(h:∀a∈l,a=A.tk∨(∃xs,H a=some (.lst xs))∨(∃C dx fs,H a=some (.ins C dx fs))):Kp (Nk A.tk) H H':=by
 obtain⟨n,f,_⟩:=O.fw;refine⟨λb xs z=>e _ _ (λq=>?_) z,λd kvs nd z=>e _ _ (λq=>?_) z⟩
 ·rcases h b q with rfl|⟨_,w⟩|⟨_,_,_,w⟩
  ·rw[f.dk]at z;cases z
  ·rw[w]at z;cases z
  ·rw[w]at z;cases z
 ·rcases h d q with rfl|⟨_,w⟩|⟨_,_,_,w⟩
  ·exact nd rfl
  ·rw[w]at z;cases z
  ·rw[w]at z;cases z
theorem fm.word(O:fm C D A bo F N k ws rd H)(e:DF A.lp A.tk H H')(f':FW D H' A.lp A.lx A.tk n' ws')(c:n'+cnt n' ws'≤ws'.length):fm C D A bo F N k ws' rd H':=by
 obtain⟨n,f,_⟩:=O.fw;have ex:Ex [A.lp,A.tk] H H':=λb o nb z=>e b o (λq=>nb (by simp[q])) (λq=>nb (by simp[q])) z;have kp:Kp (Nk A.tk) H H':=O.kp ex (λa ha=>by
  rcases aB.mp ha with rfl|ha
  ·exact .inr (.inr ⟨_,_,_,f.ob⟩)
  ·exact .inl (aG.mp ha))
 have hL:∀l xs,N l→H l=some (.lst xs)→H' l=some (.lst xs):=λa xs n z=>e _ _ (fF z f.ob (by intro z;cases z)) (fF z f.dk (by intro z;cases z)) z;obtain⟨us,y1,y2⟩:=O.yl;exact⟨e _ _ O.nOL O.nOT O.ob,⟨n',f',c⟩,e _ _ (fF O.sd f.ob (by intro z;cases z)) O.st O.sd,O.st,O.s1.mono (λ_ z=>z) kp.tup hL,O.s2.mono (λ_ z=>z) kp.tup hL,O.s3.mono (λ_ z=>z) kp.tup hL,us,e _ _ (fF y1 f.ob (by intro z;cases z)) (fF y1 f.dk (by intro z;cases z)) y1,y2.mono λ_ _=>uF.mono (λ_ z=>z) kp.tup hL⟩
end
structure GE(tk:Addr→Prop)(wl rl:Addr)(wus rus:List V)(P:List eK)(rs:List Rw)(H':Hp):Prop where
 w:∃pus,H' wl=some (.lst (wus++pus))∧Al (iU tk H') P pus
 r:∃rvs,H' rl=some (.lst (rus++rvs))∧Al (je H') rs rvs
structure ye(A:Ad)(N:Addr→Prop)(H:Hp):Prop where
 y:∀a,N a→a≠A.yl
 f:∀a,H a=none→N a
end S9
namespace S9
open PySem L2 SW
variable {K:aA}{vs:List V}{H:Hp}{Q:VK}{E:XK}{N C D:Addr}
theorem E9(ha:H a=some (.tup xs))(hb:H b=some (.tup ys))(hl:xs.length+ys.length≤sizeLine)(hy:ys≠[])(k:∀r H',dz H H'→H' r=some (.tup (xs++ys))→Q (.ref r) H'):qT K (.ref a) (.ref b) H Q:=
 ⟨eD.of ha,eD.of hb,hl,λe=>k b H (dz.refl _) (by rw[e];exact hb),λ_ z=>absurd z hy,λ_ _ p hp=>k p _ (dX hp) dR⟩
theorem ko(s:eK):s.within.length=s.t.kids.length:=vd s _ 0
theorem AM(s:eK):∀(ts:List T)(j i:Nat)(t:T),ts[i]?=some t→(wi s j ts)[i]?=some (s.kid (j+i) t)
 | [],j,i,t,h=>by simp at h
 | u::ts,j,0,t,h=>by cases h;rfl
 | u::ts,j,i+1,t,h=>by have:=AM s ts (j+1) i t h;rw[show j+(i+1)=j+1+i by lia];exact this
theorem qA{s:eK}{i:Nat}{t:T}(h:s.t.kids[i]?=some t):s.within[i]?=some (s.kid i t):=by have:=AM s _ 0 i t h;rwa[bx]at this
theorem vI:∀{ts:List T}{us:List V}{i:Nat}{u:V},gJ H ts us→us[i]?=some u→∃t,ts[i]?=some t∧gN H t u
 | _,_,0,_,.cons a r,h=>by cases h;exact⟨_,rfl,a⟩
 | _,_,i+1,_,.cons a r,h=>vI (i:=i) r h
theorem CQ(t:T):t.kids.length≤3:=by cases t<;>simp[T.kids]
theorem Bn(l:List Nat)(i:Nat):mn (l++[i])=mn l++[V.int (i:Int)]:=by simp[mn]
def jA:Sp:=λvs H Q _=>∃(tk:Addr→Prop)(s:eK)(u:V),vs=[u]∧iU tk H s u∧s.path.length≤1000∧∀(l:Addr)(us:List V)(H':Hp),dz H H'→H l=none→H' l=some (.lst us)→Al (iU tk H') s.within us→Q (.ref l) H'
def MA(K:aA):TS:=(fY (Jz (Fs K (eY jB [] E0 (dP (eC (eF K) (dQ 0) (tC (.int 0))) dZ))) (lb K 2 (gI (db 0) (gI (db 1) lc))) (fS (dP (dQ 1) (dP (eC (eF K) (dQ 2) (tC (.int 1))) (dP (eC (qT K) (eC (eF K) (dQ 2) (tC (.int 2))) (fS (dP (dQ 0) dZ))) (dP (eC (eF K) (dQ 2) (tC (.int 3))) dZ))))) [0]))
theorem Nv(h:jA vs H Q E):MA K (gr Q) (start ["spot"] vs) H:=by
 obtain⟨tk,s,u,rfl,⟨q,x,pp,d,kvs,rfl,hq,hx,hpp,nd,hd,he⟩,hlen,k⟩:=h;refine⟨eD.of hq,dW (j:=0) rfl,gm s.t,x,rfl,jX hx,λpa us H1 s1 g1 dk=>?_⟩;have dk:gJ H1 s.t.kids us:=tY (by rw[vD]at dk;exact dk);have hl:=dk.length;have hk3:=CQ s.t;refine⟨eD.of g1,?_⟩;refine⟨λi mm ws H'=>i≤us.length∧mm=us.length-i∧dz H1 H'∧Al (iU tk H') (s.within.take i) ws,⟨_,aU _,rfl,λ_ _ z=>z,.nil⟩,?_⟩;rintro i mm ws H3 ⟨hi,rfl,s3,al⟩;have s13:=s1.trans s3;have hwl:=al.length;rw[ah,ko]at hwl;have g13:=s3 _ _ g1;by_cases hn:i=us.length
 ·refine .inl ⟨⟨us,eD.of g13,by lia⟩,by rw[sizeLine_eq];lia,λl hl'=>?_⟩;rw[bh (by rw[ko];lia)]at al;have s4:=dX (o:=.lst ws) hl';exact k l ws _ (s13.trans s4) (s13.free hl') dR (al.mono λ_ _=>iU.mono (Kp.same s4))
 ·have hlt:i<us.length:=by lia
  obtain⟨xa,hxa⟩:∃xa,us[i]?=some xa:=⟨us[i],aI _⟩;refine .inr ⟨⟨us,xa,eD.of g13,hxa⟩,?_⟩;rintro z H4 ⟨pz,xa',rfl,hpz,rfl,q1⟩ o1 o2;have ea:=q1 us (eD.of g13);rw[hxa]at ea;cases ea;have s4:=dX (o:=.tup [.int (i:Int),xa]) hpz;have g4:(upd H3 pz (.tup [.int (i:Int),xa])) pz=some (.tup [.int (i:Int),xa]):=dR;generalize upd H3 pz (.tup [.int (i:Int),xa])=H4 at s4 g4⊢;have s14:=s13.trans s4;have hq4:=s14 _ _ hq;refine⟨eD.of g4,rfl,rfl,⟨_,_,rfl⟩,?_⟩;refine⟨eD.of hq4,dW (j:=1) rfl,eD.of hq4,dW (j:=2) rfl,fM,et λc H5 hc s5 g5=>?_⟩;have s15:=s14.trans s5;refine E9 (s15 _ _ hpp) g5 (by rw[ET,sizeLine_eq];simp;lia) (by simp) λr H6 s6 hr=>?_;have s16:=s15.trans s6;refine⟨eD.of (s16 _ _ hq),dW (j:=3) rfl,fM,λy hy=>?_⟩;have s7:=dX (o:=.tup [xa,.str s.src,.ref r,.ref d]) hy;refine⟨by rw[sizeLine_eq];lia,us.length-(i+1),by lia,hlt,rfl,s3.trans (s4.trans (s5.trans (s6.trans s7))),?_⟩;obtain⟨t,ht,dt⟩:=vI dk hxa;rw[ax,qA ht];have s37:=s4.trans (s5.trans (s6.trans s7));have s17:=s16.trans s7;refine(al.mono λ_ _=>iU.mono (Kp.same s37)).append (.one ⟨y,xa,r,d,kvs,rfl,dR,dt.mono (dh (s3.trans s37)),?_,nd,s17 _ _ hd,he.mono (Kp.same s17)⟩);rw[s7 _ _ hr];show _=some (HO.tup (mn (s.path++[i])));rw[Bn]
theorem jT:∀(t:T)(x:G),xH x (gm t)→x.kind="stamp"→oX t
 | .num n,x,h,e=>by
  cases h with
  | refl=>exact absurd e (by simp only[gm,G.kind];decide)
  | kid hk _=>simp[gm,G.kids]at hk
 | .name n,x,h,e=>by
  cases h with
  | refl=>exact absurd e (by simp only[gm,G.kind];decide)
  | kid hk _=>simp[gm,G.kids]at hk
 | .sum a b,x,h,e=>by
  cases h with
  | refl=>exact absurd e (by simp only[gm,G.kind];decide)
  | kid hk i=>
   simp only[gm,G.kids,aB,aF,or_false]at hk;rcases hk with rfl|rfl
   ·exact .inl (jT a x i e)
   ·exact .inr (jT b x i e)
 | .less a b,x,h,e=>by
  cases h with
  | refl=>exact absurd e (by simp only[gm,G.kind];decide)
  | kid hk i=>
   simp only[gm,G.kids,aB,aF,or_false]at hk;rcases hk with rfl|rfl
   ·exact .inl (jT a x i e)
   ·exact .inr (jT b x i e)
 | .cho a b c,x,h,e=>by
  cases h with
  | refl=>exact absurd e (by simp only[gm,G.kind];decide)
  | kid hk i=>
   simp only[gm,G.kids,aB,aF,or_false]at hk;rcases hk with rfl|rfl|rfl
   ·exact .inl (jT a x i e)
   ·exact .inr (.inl (jT b x i e))
   ·exact .inr (.inr (jT c x i e))
 | .lt w a b,x,h,e=>by
  cases h with
  | refl=>exact absurd e (by simp only[gm,G.kind];decide)
  | kid hk i=>
   simp only[gm,G.kids,aB,aF,or_false]at hk;rcases hk with rfl|rfl
   ·exact .inl (jT a x i e)
   ·exact .inr (jT b x i e)
 | .st0 _,_,_,_=>aJ
 | .st1 _ _,_,_,_=>aJ
 | .st2 _ _ _,_,_,_=>aJ
theorem jR:∀(t:T),oX t→∃x,xH x (gm t)∧x.kind="stamp"
 | .num n,h=>h.elim
 | .name n,h=>h.elim
 | .sum a b,h=>h.elim (λz=>(jR a z).elim λx y=>⟨x,.kid (by simp[gm,G.kids]) y.1,y.2⟩) (λz=>(jR b z).elim λx y=>⟨x,.kid (by simp[gm,G.kids]) y.1,y.2⟩)
 | .less a b,h=>h.elim (λz=>(jR a z).elim λx y=>⟨x,.kid (by simp[gm,G.kids]) y.1,y.2⟩) (λz=>(jR b z).elim λx y=>⟨x,.kid (by simp[gm,G.kids]) y.1,y.2⟩)
 | .cho a b c,h=>by
  rcases h with z|z|z
  ·obtain⟨x,y⟩:=jR a z;exact⟨x,.kid (k:=gm a) (by simp[gm,G.kids]) y.1,y.2⟩
  ·obtain⟨x,y⟩:=jR b z;exact⟨x,.kid (k:=gm b) (by simp[gm,G.kids]) y.1,y.2⟩
  ·obtain⟨x,y⟩:=jR c z;exact⟨x,.kid (k:=gm c) (by simp[gm,G.kids]) y.1,y.2⟩
 | .lt w a b,h=>h.elim (λz=>(jR a z).elim λx y=>⟨x,.kid (by simp[gm,G.kids]) y.1,y.2⟩) (λz=>(jR b z).elim λx y=>⟨x,.kid (by simp[gm,G.kids]) y.1,y.2⟩)
 | .st0 _,_=>⟨_,.refl,rfl⟩
 | .st1 _ _,_=>⟨_,.refl,rfl⟩
 | .st2 _ _ _,_=>⟨_,.refl,rfl⟩
theorem gy:∀t:T,(gm t).size=t.size
 | .num n=>rfl
 | .name n=>rfl
 | .sum a b=>by simp only[gm,G.size,iJ,T.size,gy a,gy b];lia
 | .less a b=>by simp only[gm,G.size,iJ,T.size,gy a,gy b];lia
 | .cho a b c=>by simp only[gm,G.size,iJ,T.size,gy a,gy b,gy c];lia
 | .lt w a b=>by simp only[gm,G.size,iJ,T.size,gy a,gy b];lia
 | .st0 _=>rfl
 | .st1 _ a=>by simp only[gm,G.size,iJ,T.size,gy a];lia
 | .st2 _ a b=>by simp only[gm,G.size,iJ,T.size,gy a,gy b];lia
def x5:Sp:=λvs H Q _=>∃(tk:Addr→Prop)(s:eK)(u:V),vs=[u]∧iU tk H s u∧s.t.size≤900∧s.t.names.length<64∧(∀H',dz H H'→Op s→Q (.bl true) H')∧(∀H',dz H H'→¬Op s→Q (.bl false) H')
def HN(K:aA):TS:=(fY (tC (.bl true)))
def HM(K:aA):TS:=(fj (eL (eC kN (eC (eF K) (dQ 1) (tC (.int 0))) (tC (.str "stamp")))) (HN K) fU)
def HL(K:aA):TS:=(fY (tC (.bl true)))
def HK(K:aA):TS:=(fj (kU (tB (BA (dQ 2) (eC (eF K) (dQ 0) (tC (.int 3))))) (eL (eC kN (eC (eF K) (rB (eC (eF K) (dQ 0) (tC (.int 3))) (dQ 2)) (tC (.int 0))) (tC (.str "handed"))))) (HL K) fU)
def MM(K:aA):TS:=(dq (iP (i0 K (eY mB [] E0 (dP (eC (eF K) (dQ 0) (tC (.int 0))) dZ))) (db 1) (HM K)) (dq (iP (i0 K (eY qI [] E0 (dP (eC (eF K) (dQ 0) (tC (.int 0))) dZ))) (db 2) (HK K)) (fY (tC (.bl false)))))
theorem N7(h:x5 vs H Q E):MM K (gr Q) (start ["spot","piece","word"] vs) H:=by
 obtain⟨tk,s,u,rfl,⟨q,x,pp,d,kvs,rfl,hq,hx,hpp,nd,hd,he⟩,hz1,hz2,k1,k2⟩:=h;refine⟨eD.of hq,dW (j:=0) rfl,gm s.t,x,rfl,jX hx,by rw[gy];lia,λl us L H1 s1 n1 h1 od dL=>⟨eJ.of h1,?_⟩⟩;have hlen:=dL.1;refine gY (K:=K) (a:=l) (xs:=us) (λi σ H'=>∃j1,σ=[some (.ref q),j1,none]∧dz H1 H'∧∀x∈L.take i,x.kind≠"stamp") ⟨none,rfl,dz.refl _,by simp⟩ (λi σ H' _ hP=>?_) ?_ ?_
 ·obtain⟨_,_,s,_⟩:=hP;exact eJ.of (s _ _ h1)
 ·rintro i y σ H' hi ⟨j1,rfl,s',hF⟩;have hil:i<us.length:=(aN.mp hi).1;have hg:L[i]?=some L[i]:=aI (by lia);generalize L[i]=c at hg;have hcm:xH c (gm s.t):=(od.one c).mp (ac hg);have dc:=(dL.2 i c y hg hi).mono (dh s');obtain⟨p,ks,rfl,ok,hp,dk⟩:=dc.open;have h0:ph (c.hd++ks) 0=some (.str c.kind):=by cases c<;>exact dW (j:=0) rfl
  refine⟨eD.of hp,h0,rfl,_,rfl,?_⟩;by_cases hk:c.kind="stamp"
  ·refine fc (by rw[hk];decide) ?_;exact k1 _ (s1.trans s') (.inl (jT _ _ hcm hk))
  ·refine eN (nk hk) ⟨_,rfl,s',λx hx=>?_⟩;rw[ax,hg]at hx;rcases aW.mp hx with z|z
   ·exact hF x z
   ·have:x=c:=by simpa using z
    exact this▸hk
 ·rintro σ H2 ⟨j1,rfl,s2,hF⟩;have hns:¬oX s.t:=λz=>by obtain⟨x,i1,i2⟩:=jR _ z;refine hF x ?_ i2;rw[hlen,bG];exact(od.one x).mpr i1
  have s12:=s1.trans s2;refine⟨eD.of (s12 _ _ hq),dW (j:=0) rfl,s.t,x,rfl,hx.mono (dh s12),hz1,hz2,λl' ws H3 s3 n3 h3 up3 m3=>⟨eJ.of h3,?_⟩⟩;have s13:=s12.trans s3;refine gY (K:=K) (a:=l') (xs:=ws.map V.str) (λi σ H'=>∃j2,σ=[some (.ref q),j1,j2]∧dz H3 H'∧∀w∈ws.take i,∀m,s.e.look w=some m→¬m.isH) ⟨none,rfl,dz.refl _,by simp⟩ (λi σ H' _ hP=>?_) ?_ ?_
  ·obtain⟨_,_,s,_⟩:=hP;exact eJ.of (s _ _ h3)
  ·rintro i y σ H' hi ⟨j2,rfl,s',hF2⟩;obtain⟨w,hw,rfl⟩:∃x,ws[i]?=some x∧y=V.str x:=by
    rw[ae]at hi;cases e:ws[i]? with
    | none=>rw[e]at hi;cases hi
    | some z=>rw[e]at hi;exact⟨z,rfl,(Option.some.inj hi).symm⟩
   have s0':=s13.trans s';have hq':=s0' _ _ hq;have hd':=s0' _ _ hd;have dg:=iV.k (k:=.inr w) hd';have ho:s.t.out w:=(m3 w).mp (ac hw);have nx:(∀m,s.e.look w=some m→¬m.isH)→∃j2,([some (.ref q),j1,some (.str w)]:St)=[some (.ref q),j1,j2]∧dz H3 H'∧∀w∈ws.take (i+1),∀m,s.e.look w=some m→¬m.isH:=λhm=>⟨_,rfl,s',λv hv=>by
    rw[ax,hw]at hv;rcases aW.mp hv with z|z
    ·exact hF2 v z
    ·have:v=w:=by simpa using z
     exact this▸hm⟩
   refine⟨eD.of hq',dW (j:=3) rfl,dg,_,rfl,?_⟩;rcases tX w (he.mono (Kp.same s0'))with⟨e1,e2⟩|⟨m,v,e1,e2,mm⟩
   ·rw[e2];refine eN rfl (eN rfl (nx λm z=>by rw[e1]at z;cases z))
   ·rw[e2]at dg⊢;refine fc rfl ?_;cases m with
    | called v=>obtain⟨p,rfl,hp⟩:=mm;refine⟨eD.of hq',dW (j:=3) rfl,dg,eD.of hp,dW (j:=0) rfl,rfl,_,rfl,eN (by decide) (nx λm z=>?_)⟩;rw[e1]at z;cases z;exact id
    | ready n z=>obtain⟨p,rfl,hp⟩:=mm;refine⟨eD.of hq',dW (j:=3) rfl,dg,eD.of hp,dW (j:=0) rfl,rfl,_,rfl,eN (by decide) (nx λm z=>?_)⟩;rw[e1]at z;cases z;exact id
    | handed t src path e=>obtain⟨p,q2,x2,pp2,d2,kvs2,rfl,hp,_⟩:=mm;refine⟨eD.of hq',dW (j:=3) rfl,dg,eD.of hp,dW (j:=0) rfl,rfl,_,rfl,fc (by decide) ?_⟩;exact k1 _ s0' (.inr ⟨w,_,ho,e1,aJ⟩)
  ·rintro σ H4 ⟨j2,rfl,s4,hF2⟩;refine k2 _ (s13.trans s4) ?_;rintro(z|⟨w,m,o,l,i⟩)
   ·exact hns z
   ·refine hF2 w ?_ m l i;rw[aT,bG];exact(m3 w).mpr o
end S9
namespace HT
open PySem PyProof.Rows
section
open PySem.SeqAt
open PySem.MeetsSeq PySem.MeetsSeq2 PySem.MeetsSeq3
variable {prog:Program}{w:World}{A:Around}{E:Value→Shared→Prop}{s:Shared}
theorem vZ{t sl:Addr}{eM:Array Value}{vl vu:Value}{lo hi:Option Int}{Q:Value→Shared→Prop}(ht:IsTup s.heap t eM)(hs:s.heap.IsSliceOf sl vl vu .none)(pl:IsPart vl lo)(pu:IsPart vu hi)
  (h1:kZ eM.size 0 lo=0) (h2:kZ eM.size eM.size hi=eM.size) (h:Q (.ref t) s):wpAny (model prog w) A (getItem (.ref t) (.ref sl)) Q E s:=by
 obtain⟨os,hos,hcs,hds⟩:=id hs;have hTs:s.TypeIs (.ref sl) "slice":=⟨os,hos,hcs⟩;unfold getItem
 try with_reducible refine wpAny_holding ?_
 first|refine wpAny_bind (wpAny_pure ?_)|skip
 refine wpAny_bind (wpAny_sequenceKey ht.typeIs (by decide) ?_);refine wpAny_bind (wpAny_callSpecial?_slot (name:=Str.ofString "__getitem__") ht.typeIs bZ
  (wpAny_call_entry bZ ht.typeIs entry_tuple_getitem ?_ (args_tuple_getitem _ _)))
 show wpAny _ _ (Builtin.Tuple.tupleItemsOf (.ref t) >>= _) _ _ s;refine wpAny_bind (tupleItemsOf_ ht ?_);refine wpAny_bind (wpAny_typeOf hTs ?_);rw[if_pos (by decide)];refine wpAny_bind (kY hs pl pu ?_);have hno:((((kZ eM.size 0 lo:Nat):Int)==0&&(1:Int)==1&&(kZ eM.size eM.size hi-kZ eM.size 0 lo)==eM.size)=true):=by rw[h1,h2];simp
 show wpAny _ _ (if(((kZ eM.size 0 lo:Nat):Int)==0&&(1:Int)==1&&(kZ eM.size eM.size hi-kZ eM.size 0 lo)==eM.size)=true then _ else _) _ _ s;rw[if_pos hno];refine wpAny_bind (wpAny_bind (m:=typeOf (.ref t)) (wpAny_typeOf ht.typeIs (wpAny_pure ?_)));show wpAny _ _ (if _ then _ else _) _ _ s;rw[if_pos (by decide)];refine wpAny_bind (wpAny_rule ?_)
 first
  | exact wpAny_pure ⟨_,rfl,wpAny_pure h⟩
  | exact wpAny_bind (wpAny_pure (wpAny_pure ⟨_,rfl,wpAny_pure h⟩))
  | exact wpAny_bind (wpAny_pure ⟨_,rfl,wpAny_pure h⟩)
end
end HT
namespace L2
open PySem PySem.Spec PyProof.Rows
def J6(K:aA):V→Option Int→Option Int→Hp→VK→Prop:=λx lo hi H Q=>∃a xs,x=.ref a∧eD K H a xs∧
 HT.kZ xs.length 0 lo=0∧HT.kZ xs.length xs.length hi=xs.length∧Q (.ref a) H
def Bh(K:aA):V→Option Int→Option Int→Hp→VK→Prop:=λx lo hi H Q=>Bi K x lo hi H Q∨J6 K x lo hi H Q
section
variable {X:Cx}
theorem BM:C9 X (J6 X.K):=by
 intro pins s σ H x v vl vu lo hi sl Q I rx hs pl pu h;obtain⟨a,xs,rfl,hx,h1,h2,q⟩:=h;cases rx;obtain⟨its,r,ht,hz⟩:=I.tuple hx;have hlen:its.toArray.size=xs.length:=by rw[aL];exact r.length.symm
 refine⟨"tuple",_,bZ.lookup,ht.typeIs,?_⟩;refine HT.vZ ht hs pl pu (by rw[hlen];exact h1) (by rw[hlen];exact h2) ?_;exact⟨.ref a,H,I,rfl,q⟩
theorem EE:C9 X (Bh X.K):=C9.or si BM
end
end L2
namespace S9
open PySem L2 SW
variable {K:aA}{vs:List V}{H:Hp}{Q:VK}{E:XK}{N C D:Addr}
theorem vv(hr:H r=some (.tup [.str "row",.ref hp,.int n,.ref sx]))(hn:n=(h.ar:Int))(hh:H hp=some (.tup h.vs))(hs:H sx=some (.tup [.str src,.ref pp]))(hpp:H pp=some (.tup (mn path))):je H (.row h src path) (.ref r):=by subst hn;exact⟨r,hp,_,rfl,hr,hh,sx,pp,rfl,hs,hpp⟩
def BF:Sp:=λvs H Q _=>∃(tk:Addr→Prop)(wl rl:Addr)(s:eK)(o u:V)(w:Str)(wus rus:List V)(ws:List Str),vs=[o,u,.ref wl,.ref rl]∧iU tk H s u∧s.t=.name w∧H wl=some (.lst wus)∧H rl=some (.lst rus)∧wl≠rl∧wus.length≤9000000∧rus.length≤9000000∧
 ∀(P:List eK)(rs:List Rw)(H':Hp),Tk ws s P rs ws→GE tk wl rl wus rus P rs H'→Ex [wl,rl] H H'→Q .non H'
def GR(K:aA)(a_Opening a_FreshWords:Addr):TS:=(fG (jm K "list" ef (dQ 2) (dP (eC (eF K) (dQ 5) (tC (.int 1))) dZ)))
def GQ(K:aA)(a_Opening a_FreshWords:Addr):TS:=(fG (jm K "list" ef (dQ 3) (dP (dQ 5) dZ)))
def GP(K:aA)(a_Opening a_FreshWords:Addr):TS:=(fG (jm K "list" ef (dQ 3) (dP (eY oh [] E0 (dP (dQ 1) (dP (fS (dP (tC (.str "name")) (dP (eC (eF K) (dQ 5) (tC (.int 1))) dZ))) (dP (tC (.int 0)) dZ)))) dZ)))
def GO(K:aA)(a_Opening a_FreshWords:Addr):TS:=(fj (eL (eC kN (eC (eF K) (dQ 5) (tC (.int 0))) (tC (.str "ready")))) (GQ K a_Opening a_FreshWords) (GP K a_Opening a_FreshWords))
def AZ(K:aA)(a_Opening a_FreshWords:Addr):TS:=(fj (eL (eC kN (eC (eF K) (dQ 5) (tC (.int 0))) (tC (.str "handed")))) (GR K a_Opening a_FreshWords) (GO K a_Opening a_FreshWords))
def L5(K:aA)(a_Opening a_FreshWords:Addr):TS:=(dq (eG (eC (eF K) (eC (eF K) (dQ 1) (tC (.int 0))) (tC (.int 1))) (db 4)) (dq (eG (qD (eC (eF K) (dQ 1) (tC (.int 3))) (dQ 4) (fS (dP (tC (.str "called")) (dP (dQ 4) dZ)))) (db 5)) (AZ K a_Opening a_FreshWords)))
theorem Nt(h:BF vs H Q E):L5 K C D (gr Q) (start ["self","spot","waiting","rows","word","meaning"] vs) H:=by
 obtain⟨tk,wl,rl,s,o,u,w,wus,rus,ws,rfl,⟨q,x,pp,d,kvs,rfl,hq,hx,hpp,nd,hd,he⟩,ht,hw,hr,hne,z1,z2,k⟩:=h;rw[ht]at hx;obtain⟨p,rfl,hp⟩:=hx;refine⟨eD.of hq,dW (j:=0) rfl,eD.of hp,dW (j:=1) rfl,?_⟩;refine⟨eD.of hq,dW (j:=3) rfl,.inl ⟨kvs,.inl hd⟩,fM,et λz H1 hz s1 g1=>?_⟩;refine⟨_,iV.k (k:=.inr w) (s1 _ _ hd),?_⟩;have hr1:=s1 _ _ hr;have hw1:=s1 _ _ hw;have called:∀(mp:Addr)(v:Str),H1 mp=some (.tup [.str "called",.str v])→Tk ws s [] [.row (.name v) s.src s.path] ws→AZ K C D (gr Q) [some o,some (.ref q),some (.ref wl),some (.ref rl),some (.str w),some (.ref mp)] H1:=by intro mp v hm tkk;refine⟨eD.of hm,dW (j:=0) rfl,rfl,_,rfl,eN (by decide) ?_⟩;refine⟨eD.of hm,dW (j:=0) rfl,rfl,_,rfl,eN (by decide) ?_⟩;refine⟨.inl ⟨rfl,_,eJ.of hr1⟩,eD.of hm,dW (j:=1) rfl,fM,et λhh H2 hhh s2 g2=>?_⟩;have s12:=s1.trans s2;refine⟨q,q,_,s.src,_,_,.ref hh,0,rfl,s12 _ _ hq,λr sx H3 s3 g3 g4=>?_⟩;have s13:=s12.trans s3;have hr3:=s13 _ _ hr;refine⟨hr3,by rw[sizeLine_eq];lia,?_⟩;have t4:fR H3 (upd H3 rl (.lst (rus++[.ref r]))):=fP hr3;refine k [] _ _ tkk ⟨⟨[],by rw[dj hne,aZ];exact s13 _ _ hw,.nil⟩,[.ref r],dR,.one ?_⟩ ((Ex.same s13).trans (Ex.upd (by simp)));exact vv (t4 _ _ g4) rfl (t4 _ _ (s3 _ _ g2)) (t4 _ _ g3) (t4 _ _ (s13 _ _ hpp))
 rcases tX w he with⟨e1,e2⟩|⟨m,v,e1,e2,mm⟩
 ·rw[e2];exact called z w g1 (.free ht e1)
 ·rw[e2];have mm:=mm.mono (Kp.same s1);cases m with
  | called v=>obtain⟨p,rfl,hp⟩:=mm;exact called p v hp (.called ht e1)
  | ready n zz=>obtain⟨mp,rfl,hm⟩:=mm;refine⟨eD.of hm,dW (j:=0) rfl,rfl,_,rfl,eN (by decide) ?_⟩;refine⟨eD.of hm,dW (j:=0) rfl,rfl,_,rfl,fc (by decide) ?_⟩;refine⟨.inl ⟨rfl,_,eJ.of hr1⟩,hr1,by rw[sizeLine_eq];lia,?_⟩;have t4:fR H1 (upd H1 rl (.lst (rus++[.ref mp]))):=fP hr1;exact k [] _ _ (.ready ht e1) ⟨⟨[],by rw[dj hne,aZ];exact hw1,.nil⟩,[.ref mp],dR,.one ⟨mp,rfl,t4 _ _ hm⟩⟩ ((Ex.same s1).trans (Ex.upd (by simp)))
  | handed t src path e=>obtain⟨mp,q2,x2,pp2,d2,kvs2,rfl,hm,hq2,hx2,hpp2,nd2,hd2,he2⟩:=mm;refine⟨eD.of hm,dW (j:=0) rfl,rfl,_,rfl,fc (by decide) ?_⟩;refine⟨.inl ⟨rfl,_,eJ.of hw1⟩,eD.of hm,dW (j:=1) rfl,hw1,by rw[sizeLine_eq];lia,?_⟩;have k4:Kp tk H1 (upd H1 wl (.lst (wus++[.ref q2]))):=Kp.lst hw1;have sp:iU tk H1 ⟨t,src,path,e⟩ (.ref q2):=⟨q2,x2,pp2,d2,kvs2,rfl,hq2,hx2,hpp2,nd2,hd2,he2⟩;exact k _ [] _ (.handed ht e1) ⟨⟨[.ref q2],dR,.one (sp.mono k4)⟩,[],by rw[dj hne.symm,aZ];exact hr1,.nil⟩ ((Ex.same s1).trans (Ex.upd (by simp)))
def BE:Sp:=λvs H Q _=>∃(tk:Addr→Prop)(wl rl:Addr)(s:eK)(o u:V)(h:Hd)(wus rus:List V)(ws:List Str),vs=[o,u,.ref wl,.ref rl]∧iU tk H s u∧pl s.t=some h∧s.path.length≤1000∧H wl=some (.lst wus)∧H rl=some (.lst rus)∧wl≠rl∧wus.length≤9000000∧rus.length≤9000000∧
 ∀(P:List eK)(rs:List Rw)(H':Hp),Tk ws s P rs ws→GE tk wl rl wus rus P rs H'→Ex [wl,rl] H H'→Q .non H'
def GN(K:aA)(a_Opening a_FreshWords:Addr):TS:=(fG (jm K "list" ef (dQ 2) (dP (dQ 6) dZ)))
def L4(K:aA)(a_Opening a_FreshWords:Addr):TS:=(dq (eG (eC (eF K) (dQ 1) (tC (.int 0))) (db 4)) (dq (eG (eY jA [] E0 (dP (dQ 1) dZ)) (db 5)) (dq (fG (jm K "list" ef (dQ 3) (dP (eY oh [] E0 (dP (dQ 1) (dP (mT (Bh K) (dQ 4) fu (gD (eC iZ (iB (gT K) (dP (dQ 4) dZ)) (iB (gT K) (dP (dQ 5) dZ))))) (dP (iB (gT K) (dP (dQ 5) dZ)) dZ)))) dZ))) (iP (CV K (dQ 5)) (db 6) (GN K a_Opening a_FreshWords)))))
theorem vF{K:aA}{a:Addr}{xs:List V}{g:TG}{tb:TS}{D:iN}{σ:St}{H:Hp}(Pv:Nat→St→Hp→Prop)(h0:Pv 0 σ H)(hl:∀i σ H,i≤xs.length→Pv i σ H→eJ K H a xs)
  (hs:∀i x σ H,i<xs.length→xs[xs.length-1-i]?=some x→Pv i σ H→g x σ H λσ2 H2=>tb {D with nx:=Pv (i+1),ct:=Pv (i+1),bk:=D.nx} σ2 H2) (hd:∀σ H,Pv xs.length σ H→D.nx σ H):
  ∃W:Nat→Nat→St→Hp→Prop,(∃m,W 0 m σ H)∧∀i m σ H,W i m σ H→
   ((nX K a xs.length).stop i H∧D.nx σ H)∨((nX K a xs.length).go i H∧∃N:St→Hp→Prop,(∀σ' H',N σ' H'→∃m',m'<m∧W (i+1) m' σ' H')∧∀x H',(nX K a xs.length).yld i H x H'→g x σ H' λσ2 H2=>tb {D with nx:=N,ct:=N,bk:=D.nx} σ2 H2):=by
 refine⟨λi m σ H=>m=xs.length-i∧i≤xs.length∧Pv i σ H,⟨_,rfl,aU _,h0⟩,?_⟩;rintro i m σ H ⟨rfl,hi,pv⟩;by_cases e:i=xs.length
 ·subst e;exact .inl ⟨rfl,hd _ _ pv⟩
 ·have hlt:i<xs.length:=by lia
  refine .inr ⟨⟨hlt,xs,xs[xs.length-1-i]'(by lia),hl _ _ _ hi pv,rfl,aI _⟩,Pv (i+1),λσ' H' h=>⟨xs.length-(i+1),by lia,rfl,hlt,h⟩,?_⟩;rintro x H' ⟨rfl,hx⟩;exact hs i x σ H' hlt (hx xs (hl _ _ _ hi pv)) pv
theorem K1(e:pl t=some h):SW.hd t=h.vs:=by cases t<;>simp only[pl,Option.some.injEq,reduceCtorEq]at e<;>subst e<;>rfl
theorem EF(hp:H p=some (.tup (xs++ks)))(hz:z=(xs.length:Int))(k:∀r H',dz H H'→H' r=some (.tup xs)→Q (.ref r) H'):Bh K (.ref p) none (some z) H Q:=by
 subst hz;by_cases hk:ks=[]
 ·subst hk;rw[aZ]at hp;exact .inr ⟨p,xs,rfl,eD.of hp,rfl,by rw[HT.LY,Nat.min_self],k p H (dz.refl _) hp⟩
 ·refine .inl ⟨eD.of hp,?_,λr hr=>k r _ (dX hr) ?_⟩
  ·rintro⟨_,z⟩;have:0<ks.length:=dO.mpr hk;rw[HT.LY,aD]at z;lia
  ·rw[dR,tj _ _ (by simp),cj]
theorem BY{us:List V}{i:Nat}{x:V}(hi:i<us.length)(hx:us[us.length-1-i]?=some x):(us.drop (us.length-(i+1))).reverse=(us.drop (us.length-i)).reverse++[x]:=by
 obtain⟨h1,h2⟩:=aN.mp hx;have e:us.length-(i+1)=us.length-1-i:=by lia
 rw[e,bN h1,h2,aq]
 congr 3
 lia
theorem Nr(h:BE vs H Q E):L4 K C D (gr Q) (start ["self","spot","waiting","rows","piece","inner","part"] vs) H:=by
 obtain⟨tk,wl,rl,s,o,u,h,wus,rus,ws,rfl,sp,hpl,hpath,hw,hr,hne,z1,z2,k⟩:=h;have sp0:=sp;obtain⟨q,x,pp,d,kvs,rfl,hq,hx,hpp,nd,hd,he⟩:=sp;refine⟨eD.of hq,dW (j:=0) rfl,?_⟩;refine⟨tk,s,.ref q,rfl,sp0,hpath,λil us H1 s1 n1 g1 al=>?_⟩;obtain⟨p,ks,rfl,hp,dk⟩:=hx.open;rw[K1 hpl]at hp;have hp1:=s1 _ _ hp;have hal:=al.length;rw[ko]at hal;have hkl:=dk.length;have har:=Fg hpl;have hk3:=CQ s.t;refine⟨.inl ⟨rfl,_,eJ.of (s1 _ _ hr)⟩,.inr (eD.of hp1),.inl (eJ.of g1),?_⟩;refine EF hp1 (by rw[aD];lia) λhh H2 s2 g2=>?_;have s12:=s1.trans s2;refine⟨.inl (eJ.of (s2 _ _ g1)),q,q,_,s.src,_,_,.ref hh,us.length,rfl,s12 _ _ hq,λr sx H3 s3 g3 g4=>?_⟩;have s13:=s12.trans s3;have hr3:=s13 _ _ hr;refine⟨hr3,by rw[sizeLine_eq];lia,?_⟩;have kp4:Kp tk H3 (upd H3 rl (.lst (rus++[.ref r]))):=Kp.lst hr3;have ex4:Ex [wl,rl] H3 (upd H3 rl (.lst (rus++[.ref r]))):=Ex.upd (by simp);have w4:(upd H3 rl (.lst (rus++[.ref r]))) wl=some (.lst wus):=by rw[dj hne];exact s13 _ _ hw
 have r4:(upd H3 rl (.lst (rus++[.ref r]))) rl=some (.lst (rus++[.ref r])):=dR;have nil_:il≠rl:=(de hr n1).symm;have niw:il≠wl:=(de hw n1).symm;have i4:(upd H3 rl (.lst (rus++[.ref r]))) il=some (.lst us):=by rw[dj nil_];exact s3 _ _ (s2 _ _ g1)
 generalize upd H3 rl (.lst (rus++[.ref r]))=H4 at kp4 ex4 w4 r4 i4⊢;have rw4:je H4 (.row h s.src s.path) (.ref r):=vv (kp4.tup _ _ g4) (by lia) (kp4.tup _ _ (s3 _ _ g2)) (kp4.tup _ _ g3) (kp4.tup _ _ (s13 _ _ hpp));have al4:Al (iU tk H4) s.within us:=al.mono λ_ _=>iU.mono ((Kp.same (s2.trans s3)).trans kp4);have ex04:Ex [wl,rl] H H4:=(Ex.same s13).trans ex4;refine⟨eJ.of i4,?_⟩;refine vF (K:=K) (a:=il) (xs:=us) (λi σ H'=>∃j6,σ=[some o,some (.ref q),some (.ref wl),some (.ref rl),some (.ref p),some (.ref il),j6]∧Kp tk H4 H'∧Ex [wl,rl] H4 H'∧H' wl=some (.lst (wus++(us.drop (us.length-i)).reverse))∧H' rl=some (.lst (rus++[.ref r]))∧H' il=some (.lst us))
  ⟨none,rfl,.refl,.refl,by simpa using w4,r4,i4⟩ (λi σ H' _ hP=>?_) ?_ ?_
 ·obtain⟨_,_,_,_,_,_,hi⟩:=hP;exact eJ.of hi
 ·rintro i y σ H5 hi hy ⟨j6,rfl,kp5,ex5,w5,r5,i5⟩;refine⟨.inl ⟨rfl,_,eJ.of w5⟩,w5,?_,?_⟩
  ·rw[aD,bI,aj,sizeLine_eq];lia
  ·refine⟨_,rfl,kp5.trans (Kp.lst w5),ex5.trans (Ex.upd (by simp)),?_,by rw[dj hne.symm];exact r5,by rw[dj niw];exact i5⟩;rw[dR,BY hi hy,aV]
 ·rintro σ H5 ⟨j6,rfl,kp5,ex5,w5,r5,i5⟩;rw[bJ,ai]at w5;exact k _ _ _ (.plain hpl) ⟨⟨us.reverse,w5,(al4.mono λ_ _=>iU.mono kp5).reverse⟩,[.ref r],r5,.one (rw4.mono kp5.tup)⟩ (ex04.trans ex5)
inductive Fz(C D:Addr)(H:Hp)(Q:VK):List V→Prop where
 | mk(A:Ad)(bo:Bo)(F k:Nat)(N:Addr→Prop)(ws:List Str)(rd:List (List Rw))(wl rl:Addr)(s:eK)(u:V)(w:Str)(a b:T)(wus rus:List V)(P:Nat→Nat→Prop)(f0:fm C D A bo F N k ws rd H)(f1:iU (Nk A.tk) H s u)(f2:s.t=.lt w a b)(f3:s.ok P)(f4:ws.length≤8000000)(f5:H wl=some (.lst wus))(f6:H rl=some (.lst rus))(f7:wl≠rl)(f8:wl≠A.yl)(f9:rl≠A.yl)(f10:(∀a,N a→a≠wl))(f11:(∀a,N a→a≠rl))(f12:wus.length≤9000000)(f13:rus.length≤9000000)(f14:∀(P:List eK)(rs:List Rw)(ws':List Str)(H':Hp),Tk ws s P rs ws'→fm C D A bo F N k ws' rd H'→GE (Nk A.tk) wl rl wus rus P rs H'→Ex [wl,rl,A.lp,A.tk] H H'→Q .non H'):Fz C D H Q [.ref A.op,u,.ref wl,.ref rl]
def BG(C D:Addr):Sp:=λvs H Q _=>Fz C D H Q vs
def L7(K:aA)(a_Opening a_FreshWords:Addr):TS:=(dq (eG (eC (eF K) (eC (eF K) (dQ 1) (tC (.int 0))) (tC (.int 1))) (db 4)) (dq (eG (kG a_FreshWords "fresh" (pK a_FreshWords) [] E0 (kT K (dQ 0) "lets") (dP (dQ 4) dZ)) (db 5)) (dq (eG (eY jA [] E0 (dP (dQ 1) dZ)) (db 6)) (dq (eG (eC (gO K) (dQ 6) (tC (.int 1))) (db 7)) (dq (fG (jm K "list" ef (dQ 3) (dP (eY oh [] E0 (dP (dQ 1) (dP (fS (dP (tC (.str "let")) (dP (dQ 5) dZ))) (dP (tC (.int 2)) dZ)))) dZ))) (dq (fG (jm K "list" ef (dQ 2) (dP (fS (dP (eC (eF K) (dQ 7) (tC (.int 0))) (dP (eC (eF K) (dQ 7) (tC (.int 1))) (dP (eC (eF K) (dQ 7) (tC (.int 2))) (dP (eY jJ [] E0 (dP (eC (eF K) (dQ 1) (tC (.int 3))) (dP (dQ 4) (dP (fS (dP (tC (.str "called")) (dP (dQ 5) dZ))) dZ)))) dZ))))) dZ))) (fG (jm K "list" ef (dQ 2) (dP (eC (gO K) (dQ 6) (tC (.int 0))) dZ)))))))))
end S9
namespace S9
open PySem L2 SW
variable {K:aA}{vs:List V}{H:Hp}{Q:VK}{E:XK}{C D:Addr}
theorem Jl{d:Addr}{n:Nat}{m:Str}(e1:(m=="taken")=false:=by decide)(e2:(m=="tried")=false:=by decide):(wf d n).lookup m=none:=by simp only[wf,List.lookup,e1,e2]
theorem fm.kpW(O:fm C D A bo F N k ws rd H)(e:Ex [A.lp,A.tk] H H'):Kp (Nk A.tk) H H':=by
 obtain⟨n,f,_⟩:=O.fw;refine O.kp e (λa ha=>?_);rcases aB.mp ha with rfl|ha
 ·exact .inr (.inr ⟨_,_,_,f.ob⟩)
 ·exact .inl (aG.mp ha)
theorem Cs(e:DF p d H H'):Ex [p,d] H H':=λb o nb z=>e b o (λq=>nb (by simp[q])) (λq=>nb (by simp[q])) z
theorem Nu(ro:RO K C)(h:BG C D vs H Q E):L7 K C D (gr Q) (start ["self","spot","waiting","rows","own","word","inner","other"] vs) H:=by
 obtain⟨A,bo,F,k,N,ws,rd,wl,rl,s,u,w,a,b,wus,rus,P,O,sp,ht,ok,hws,hw,hr,hne,ny,nz,nw,nr,z1,z2,kk⟩:=h;have sp0:=sp;obtain⟨q,x,pp,d,kvs,rfl,hq,hx,hpp,nd,hd,he⟩:=sp;rw[ht]at hx;obtain⟨p,x1,x2,rfl,hp,d1,d2⟩:=hx;refine⟨eD.of hq,dW (j:=0) rfl,eD.of hp,dW (j:=1) rfl,?_⟩;obtain⟨n,fw,cn⟩:=O.fw;have wt:WT SF s.t:=ok.1.1;rw[ht]at wt;refine⟨O.ob,ro.cl,ro.nL,Ep,fw.ob,Jl,A.lp,A.lx,A.tk,n,ws,w,rfl,fw,wt.1,hws,cn,λy n' H1 wy hy hyw hn ap fw1=>?_⟩;have O1:=O.word ap fw1 (by rw[aD];exact hn);have kp1:=O.kpW (Cs ap);have ex1:Ex [wl,rl,A.lp,A.tk] H H1:=(Cs ap).more (by simp);have hw1:H1 wl=some (.lst wus):=ap _ _ (fF hw fw.ob (by intro z;cases z)) (fF hw fw.dk (by intro z;cases z)) hw;have hr1:H1 rl=some (.lst rus):=ap _ _ (fF hr fw.ob (by intro z;cases z)) (fF hr fw.dk (by intro z;cases z)) hr;have sp1:=sp0.mono kp1;have hq1:=kp1.tup _ _ hq;have hpp1:=kp1.tup _ _ hpp;have hd1:=kp1.dct _ _ nd hd;have he1:=he.mono kp1;have htk1:=fw1.dk;refine⟨Nk A.tk,s,.ref q,rfl,sp1,by have:=ok.1.2.1;lia,λil us H2 s2 n2 g2 al=>?_⟩;have ew:s.within=[s.kid 0 a,s.kid 1 b]:=by unfold eK.within;rw[ht];rfl
 rw[ew]at al;cases al with|cons sa al=>cases al with|cons sb al=>cases al with|nil=>
 rename_i ua ub;obtain⟨q1,y1,pp1,dd1,kvs1,rfl,hq3,hy1,hpp3,_⟩:=sb;have hq3:H2 q1=some (.tup [y1,.str s.src,.ref pp1,.ref dd1]):=hq3;have hy1:gN H2 b y1:=hy1;have hpp3:H2 pp1=some (.tup (mn (s.path++[1]))):=hpp3;refine⟨eJ.of g2,dW (j:=1) rfl,?_⟩;refine⟨.inl ⟨rfl,_,eJ.of (s2 _ _ hr1)⟩,fM,et λhh H3 hhh s3 g3=>?_⟩;have s13:=s2.trans s3;refine⟨q,q,_,s.src,_,_,.ref hh,2,rfl,s13 _ _ hq1,λr sx H4 s4 g4 g5=>?_⟩;have s14:=s13.trans s4;have hr4:=s14 _ _ hr1;refine⟨hr4,by rw[sizeLine_eq];lia,?_⟩;have nir:il≠rl:=(de hr1 n2).symm;have niw:il≠wl:=(de hw1 n2).symm;have O5:=(O1.same s14).lst (o:=.lst (rus++[.ref r])) hr4 nz nr;have kp5:Kp (Nk A.tk) H4 (upd H4 rl (.lst (rus++[.ref r]))):=Kp.lst hr4;have ex5:Ex [wl,rl,A.lp,A.tk] H4 (upd H4 rl (.lst (rus++[.ref r]))):=Ex.upd (by simp);have w5:(upd H4 rl (.lst (rus++[.ref r]))) wl=some (.lst wus):=by rw[dj hne];exact s14 _ _ hw1
 have r5:(upd H4 rl (.lst (rus++[.ref r]))) rl=some (.lst (rus++[.ref r])):=dR;have i5:(upd H4 rl (.lst (rus++[.ref r]))) il=some (.lst [ua,.ref q1]):=by rw[dj nir];exact s4 _ _ (s3 _ _ g2)
 have t5:(upd H4 rl (.lst (rus++[.ref r]))) A.tk=some (.dK (i7 (ws++[y]))):=by rw[dj (fF (s14 _ _ htk1) hr4 (by intro z;cases z))];exact s14 _ _ htk1
 generalize upd H4 rl (.lst (rus++[.ref r]))=H5 at O5 kp5 ex5 w5 r5 i5 t5⊢;have kp15:Kp (Nk A.tk) H1 H5:=(Kp.same s14).trans kp5;have kp25:Kp (Nk A.tk) H2 H5:=(Kp.same (s3.trans s4)).trans kp5;have rw5:je H5 (.row (.lt y) s.src s.path) (.ref r):=vv (kp5.tup _ _ g5) rfl (kp5.tup _ _ (s4 _ _ g3)) (kp5.tup _ _ g4) (kp15.tup _ _ hpp1);have sa5:=sa.mono kp25;have hq5:=kp15.tup _ _ hq1;have hq35:=kp25.tup _ _ hq3;have hy5:=hy1.mono kp25.tup;have hpp5:=kp25.tup _ _ hpp3;have hd5:=kp15.dct _ _ nd hd1;have he5:=he1.mono kp15;have ex05:Ex [wl,rl,A.lp,A.tk] H H5:=ex1.trans ((Ex.same s14).trans ex5);refine⟨.inl ⟨rfl,_,eJ.of w5⟩,eD.of hq35,dW (j:=0) rfl,eD.of hq35,dW (j:=1) rfl,eD.of hq35,dW (j:=2) rfl,eD.of hq5,dW (j:=3) rfl,fM,et λcc H6 hcc s6 g6=>?_⟩;refine⟨d,w,.ref cc,kvs,rfl,s6 _ _ hd5,by rw[wv he];have:=ok.1.2.2.1;lia,λdn H7 nn s7 gd=>⟨fM,λsp2 hsp2=>?_⟩⟩;have s8:=dX (o:=.tup [y1,.str s.src,.ref pp1,.ref dn]) hsp2;have g8:(upd H7 sp2 (.tup [y1,.str s.src,.ref pp1,.ref dn])) sp2=some (.tup [y1,.str s.src,.ref pp1,.ref dn]):=dR;have s58:=s6.trans (s7.trans s8);have dnt:dn≠A.tk:=(de (s6 _ _ t5) nn).symm;have spb:iU (Nk A.tk) (upd H7 sp2 (.tup [y1,.str s.src,.ref pp1,.ref dn])) ⟨b,s.src,s.path++[1],s.e.put w (.called y)⟩ (.ref sp2):=by refine⟨sp2,y1,pp1,dn,_,rfl,g8,hy5.mono (dh s58),s58 _ _ hpp5,dnt,s8 _ _ gd,?_⟩;exact(wu (n:=.called y) ⟨cc,rfl,s7 _ _ g6⟩ (Fh ok.2) (he5.mono (Kp.same (s6.trans s7)))).mono (Kp.same s8)
 generalize upd H7 sp2 (.tup [y1,.str s.src,.ref pp1,.ref dn])=H8 at s8 g8 s58 spb⊢;have w8:=s58 _ _ w5;refine⟨w8,by rw[sizeLine_eq];lia,?_⟩;have O9:=(O5.same s58).lst (o:=.lst (wus++[.ref sp2])) w8 ny nw;have kp9:Kp (Nk A.tk) H8 (upd H8 wl (.lst (wus++[.ref sp2]))):=Kp.lst w8;have ex9:Ex [wl,rl,A.lp,A.tk] H8 (upd H8 wl (.lst (wus++[.ref sp2]))):=Ex.upd (by simp);have w9:(upd H8 wl (.lst (wus++[.ref sp2]))) wl=some (.lst (wus++[.ref sp2])):=dR;have r9:(upd H8 wl (.lst (wus++[.ref sp2]))) rl=some (.lst (rus++[.ref r])):=by rw[dj hne.symm];exact s58 _ _ r5
 have i9:(upd H8 wl (.lst (wus++[.ref sp2]))) il=some (.lst [ua,.ref q1]):=by rw[dj niw];exact s58 _ _ i5
 generalize upd H8 wl (.lst (wus++[.ref sp2]))=H9 at O9 kp9 ex9 w9 r9 i9⊢;have kp59:Kp (Nk A.tk) H5 H9:=(Kp.same s58).trans kp9;refine⟨.inl ⟨rfl,_,eJ.of w9⟩,eJ.of i9,dW (j:=0) rfl,w9,by rw[aD,aw,sizeLine_eq];lia,?_⟩;have kp10:Kp (Nk A.tk) H9 (upd H9 wl (.lst (wus++[.ref sp2]++[ua]))):=Kp.lst w9;refine kk _ _ _ _ (.lt ht wy hy hyw) (O9.lst w9 ny nw) ⟨⟨[.ref sp2,ua],by rw[dR,aV];rfl,.cons (spb.mono (kp9.trans kp10)) (.one (sa5.mono (kp59.trans kp10)))⟩,[.ref r],by rw[dj hne.symm];exact r9,.one (rw5.mono (kp59.trans kp10).tup)⟩ (ex05.trans ((Ex.same s58).trans (ex9.trans (Ex.upd (by simp)))))
def BJ:Sp:=λvs _ _ _=>vs.length=2∧False
structure LI(C D:Addr)(A:Ad)(bo:Bo)(F:Nat)(N:Addr→Prop)(k:Nat)(ws:List Str)(rd:List (List Rw))(wl rl:Addr)(wus rus:List V)(s:eK)(u:V)(P:Nat→Nat→Prop)(H:Hp):Prop where
 O:fm C D A bo F N k ws rd H
 sp:iU (Nk A.tk) H s u
 ok:s.ok P
 zs:ws.length≤8000000
 w:H wl=some (.lst wus)
 r:H rl=some (.lst rus)
 ne:wl≠rl
 ny:wl≠A.yl
 nz:rl≠A.yl
 nw:∀a,N a→a≠wl
 nr:∀a,N a→a≠rl
 z1:wus.length≤9000000
 z2:rus.length≤9000000
section
variable {A:Ad}{bo:Bo}{F k:Nat}{N:Addr→Prop}{ws:List Str}{rd:List (List Rw)}{wl rl:Addr}{wus rus:List V}{s:eK}{u:V}{P:Nat→Nat→Prop}{H':Hp}
theorem LI.two(B:LI C D A bo F N k ws rd wl rl wus rus s u P H)(ex:Ex [wl,rl] H H'):fm C D A bo F N k ws rd H':=by
 have kp:Kp (Nk A.tk) H H':=B.O.kp ex (λa ha=>by
  rcases aB.mp ha with rfl|ha
  ·exact .inr (.inl ⟨_,B.w⟩)
  ·rw[aG.mp ha];exact .inr (.inl ⟨_,B.r⟩))
 obtain⟨n,f,_⟩:=B.O.fw;have two:∀a o,H a=some o→(∀xs,o≠.lst xs)→a∉[wl,rl]:=λa o h n q=>by
  rcases aB.mp q with rfl|q
  ·rw[B.w]at h;exact n _ (Option.some.inj h).symm
  ·rw[aG.mp q,B.r]at h;exact n _ (Option.some.inj h).symm
 refine B.O.ex ex (two _ _ B.O.ob (by intro xs z;cases z)) (two _ _ f.ob (by intro xs z;cases z)) (two _ _ f.dk (by intro xs z;cases z)) (two _ _ B.O.sd (by intro xs z;cases z)) (λq=>?_) kp.tup (λa z q=>?_)
 ·rcases aB.mp q with q|q
  ·exact B.ny q.symm
  ·exact B.nz (aG.mp q).symm
 ·rcases aB.mp q with q|q
  ·exact B.nw a z q
  ·exact B.nr a z (aG.mp q)
end
inductive Cy(C D:Addr)(H:Hp)(Q:VK):List V→Prop where
 | mk(A:Ad)(bo:Bo)(F k:Nat)(N:Addr→Prop)(ws:List Str)(rd:List (List Rw))(wl rl:Addr)(wus rus:List V)(s:eK)(u:V)(P:Nat→Nat→Prop)(f0:LI C D A bo F N k ws rd wl rl wus rus s u P H)(f1:¬Op s)(f2:∀(P:List eK)(rs:List Rw)(ws':List Str)(H':Hp),Tk ws s P rs ws'→fm C D A bo F N k ws' rd H'→GE (Nk A.tk) wl rl wus rus P rs H'→Ex [wl,rl,A.lp,A.tk] H H'→Q .non H'):Cy C D H Q [.ref A.op,u,.ref wl,.ref rl]
def xt(C D:Addr):Sp:=λvs H Q _=>Cy C D H Q vs
def GX(K:aA)(a_Opening a_FreshWords:Addr):TS:=(dq (pN K (dQ 0) (tC (.int 1)) EQ "many") (fG (jm K "list" ef (dQ 2) (dP (kG a_Opening "body_of" BJ [] E0 (dQ 0) (dP (dQ 1) dZ)) dZ))))
def GW(K:aA)(a_Opening a_FreshWords:Addr):TS:=(fG (kG a_Opening "take_name" BF [] E0 (dQ 0) (dP (dQ 1) (dP (dQ 2) (dP (dQ 3) dZ)))))
def GV(K:aA)(a_Opening a_FreshWords:Addr):TS:=(fG (kG a_Opening "take_let" (BG a_Opening a_FreshWords) [] E0 (dQ 0) (dP (dQ 1) (dP (dQ 2) (dP (dQ 3) dZ)))))
def GU(K:aA)(a_Opening a_FreshWords:Addr):TS:=(fG (kG a_Opening "take_plain" BE [] E0 (dQ 0) (dP (dQ 1) (dP (dQ 2) (dP (dQ 3) dZ)))))
def GT(K:aA)(a_Opening a_FreshWords:Addr):TS:=(fj (eL (eC kN (dQ 4) (tC (.str "let")))) (GV K a_Opening a_FreshWords) (GU K a_Opening a_FreshWords))
def sK(K:aA)(a_Opening a_FreshWords:Addr):TS:=(fj (eL (eC kN (dQ 4) (tC (.str "name")))) (GW K a_Opening a_FreshWords) (GT K a_Opening a_FreshWords))
def GS(K:aA)(a_Opening a_FreshWords:Addr):TS:=(fj (eL (eC kN (dQ 4) (tC (.str "stamp")))) (GX K a_Opening a_FreshWords) (sK K a_Opening a_FreshWords))
def L8(K:aA)(a_Opening a_FreshWords:Addr):TS:=(dq (eG (eC (eF K) (eC (eF K) (dQ 1) (tC (.int 0))) (tC (.int 0))) (db 4)) (GS K a_Opening a_FreshWords))
theorem Ft(t:T)(ks:List V):ph (SW.hd t++ks) 0=some (.str (kind t)):=by cases t<;>exact dW (j:=0) rfl
theorem BZ(B:LI C D A bo F N k ws rd wl rl wus rus s u P H)(hk:kind s.t≠"stamp")
  (kk:∀(P:List eK)(rs:List Rw)(ws':List Str)(H':Hp),Tk ws s P rs ws'→fm C D A bo F N k ws' rd H'→GE (Nk A.tk) wl rl wus rus P rs H'→Ex [wl,rl,A.lp,A.tk] H H'→Q .non H'):
  sK K C D (gr Q) [some (.ref A.op),some u,some (.ref wl),some (.ref rl),some (.str (kind s.t))] H:=by
 have path:s.path.length≤1000:=by have:=B.ok.1.2.1;lia
 have plain:∀h,pl s.t=some h→kind s.t≠"name"→kind s.t≠"let"→sK K C D (gr Q) [some (.ref A.op),some u,some (.ref wl),some (.ref rl),some (.str (kind s.t))] H:=λh hp n1 n2=>by refine⟨rfl,_,rfl,eN (nk n1) ⟨rfl,_,rfl,eN (nk n2) ?_⟩⟩;refine⟨B.O.ob,nH,Nk A.tk,wl,rl,s,_,_,h,wus,rus,ws,rfl,B.sp,hp,path,B.w,B.r,B.ne,B.z1,B.z2,λP rs H' tk' aft ex=>?_⟩;exact kk P rs ws H' tk' (B.two ex) aft (ex.more (by simp))
 cases e:s.t with
 | num n=>rw[←e];exact plain _ (by rw[e];rfl) (by rw[e];simp only[kind];decide) (by rw[e];simp only[kind];decide)
 | sum a b=>rw[←e];exact plain _ (by rw[e];rfl) (by rw[e];simp only[kind];decide) (by rw[e];simp only[kind];decide)
 | less a b=>rw[←e];exact plain _ (by rw[e];rfl) (by rw[e];simp only[kind];decide) (by rw[e];simp only[kind];decide)
 | cho a b c=>rw[←e];exact plain _ (by rw[e];rfl) (by rw[e];simp only[kind];decide) (by rw[e];simp only[kind];decide)
 | name w=>refine⟨rfl,_,rfl,fc (decide_eq_true rfl) ?_⟩;refine⟨B.O.ob,nH,Nk A.tk,wl,rl,s,_,_,w,wus,rus,ws,rfl,B.sp,e,B.w,B.r,B.ne,B.z1,B.z2,λP rs H' tk' aft ex=>?_⟩;exact kk P rs ws H' tk' (B.two ex) aft (ex.more (by simp))
 | lt w a b=>refine⟨rfl,_,rfl,eN (nk (show("let":Str)≠"name" by decide)) ⟨rfl,_,rfl,fc (decide_eq_true rfl) ?_⟩⟩;exact⟨B.O.ob,nH,A,bo,F,k,N,ws,rd,wl,rl,s,_,w,a,b,wus,rus,P,B.O,B.sp,e,B.ok,B.zs,B.w,B.r,B.ne,B.ny,B.nz,B.nw,B.nr,B.z1,B.z2,kk⟩
 | st0 w=>rw[e]at hk;exact absurd rfl hk
 | st1 w a=>rw[e]at hk;exact absurd rfl hk
 | st2 w a b=>rw[e]at hk;exact absurd rfl hk
theorem CM(h:¬oX t):kind t≠"stamp":=by cases t<;>simp only[kind]<;>first|decide|exact absurd aJ h
theorem MZ(h:xt C D vs H Q E):L8 K C D (gr Q) (start ["self","spot","waiting","rows","kind"] vs) H:=by obtain⟨A,bo,F,k,N,ws,rd,wl,rl,wus,rus,s,u,P,B,no,kk⟩:=h;obtain⟨q,x,pp,d,kvs,rfl,hq,hx,hpp,nd,hd,he⟩:=id B.sp;obtain⟨p,ks,rfl,hp,dk⟩:=hx.open;refine⟨eD.of hq,dW (j:=0) rfl,eD.of hp,Ft s.t ks,?_⟩;have hk:kind s.t≠"stamp":=CM λz=>no (.inl z);exact⟨rfl,_,rfl,eN (nk hk) (BZ B hk kk)⟩
inductive vS(C D:Addr)(H:Hp)(Q:VK):List V→Prop where
 | mk(A:Ad)(bo:Bo)(F k:Nat)(N:Addr→Prop)(ws:List Str)(rd:List (List Rw))(s:eK)(u:V)(P:Nat→Nat→Prop)(f0:fm C D A bo F N k ws rd H)(f1:ye A N H)(f2:iU (Nk A.tk) H s u)(f3:s.ok P)(f4:¬Op s)(f5:s.wt 0≤4000000)(f6:ws.length≤4000000)(f7:(k≤F→∀(R:List Rw)(ws':List Str)(l:Addr)(rus:List V)(H':Hp),AB [s] [] ws R ws'→H l=none→H' l=some (.lst rus)→Al (je H') R rus→fm C D A bo F N k ws' rd H'→Ex [A.lp,A.tk] H H'→Q (.ref l) H'))(f8:(¬k≤F→∀(l:Addr)(H':Hp),dz H H'→H l=none→H' l=some (.lst [])→Q (.ref l) H')):vS C D H Q [.ref A.op,u]
def pJ(C D:Addr):Sp:=λvs H Q _=>vS C D H Q vs
def Af(K:aA)(a_Opening a_FreshWords:Addr):TS:=(fG (kG a_Opening "take" (xt a_Opening a_FreshWords) [] E0 (dQ 0) (dP (mV K "list" mY (dQ 3)) (dP (dQ 3) (dP (dQ 2) dZ)))))
def Gj(K:aA)(a_Opening a_FreshWords:Addr):TS:=(dq (eG (fX dZ) (db 2)) (dq (eG (fX (dP (dQ 1) dZ)) (db 3)) (dq (iF (kU (eL (eC pA (iB (gT K) (dP (dQ 3) dZ)) (tC (.int 0)))) (eL (eC EN (kT K (dQ 0) "many") (kT K (dQ 0) "fuel")))) (Af K a_Opening a_FreshWords)) (fY (dQ 2)))))
structure NR(C D:Addr)(A:Ad)(bo:Bo)(F:Nat)(N:Addr→Prop)(k:Nat)(ws:List Str)(rd:List (List Rw))(wl rl:Addr)(s:eK)(P:Nat→Nat→Prop)(H2:Hp)(S:List eK)(R:List Rw)(ws1:List Str)(wus rus:List V)(H':Hp):Prop where
 O:fm C D A bo F N k ws1 rd H'
 w:H' wl=some (.lst wus)
 r:H' rl=some (.lst rus)
 dw:Al (iU (Nk A.tk) H') S wus
 dr:Al (je H') R rus
 ex:Ex [wl,rl,A.lp,A.tk] H2 H'
 run:∀R' ws',AB S R ws1 R' ws'→AB [s] [] ws R' ws'
 so:∀x∈S,x.ok P∧¬Op x
 ro:∀r∈R,r.ok P
 wt:lv 0 S+lJ R=s.wt 0
 zs:ws1.length≤ws.length+R.length
def OO(C D:Addr)(A:Ad)(bo:Bo)(F:Nat)(N:Addr→Prop)(k:Nat)(ws:List Str)(rd:List (List Rw))(wl rl:Addr)(s:eK)(P:Nat→Nat→Prop)(H2:Hp)(u:V)(m:Nat)(σ:St)(H':Hp):Prop:=∃S R ws1 wus rus,σ=[some (.ref A.op),some u,some (.ref rl),some (.ref wl)]∧NR C D A bo F (λa=>N a∧a≠wl∧a≠rl) k ws rd wl rl s P H2 S R ws1 wus rus H'∧m=lv 1 S
theorem J5(ro:RO K C)(h:pJ C D vs H Q E):Gj K C D (gr Q) (start ["self","spot","rows","waiting"] vs) H:=by
 obtain⟨A,bo,F,k,N,ws,rd,s,u,P,O,no,sp,ok,nop,z1,z2,k1,k2⟩:=h;refine⟨fM,λrl hrl=>⟨fM,λwl hwl=>?_⟩⟩;have s1:dz H (upd H rl (.lst [])):=dX hrl;have s2:=dX (o:=.lst [u]) hwl;have hne:wl≠rl:=(de (dR (H:=H) (a:=rl) (o:=.lst [])) hwl).symm;have r2:(upd (upd H rl (.lst [])) wl (.lst [u])) rl=some (.lst []):=s2 _ _ dR;have w2:(upd (upd H rl (.lst [])) wl (.lst [u])) wl=some (.lst [u]):=dR;have hwl0:H wl=none:=s1.free hwl;have s12:=s1.trans s2;generalize upd (upd H rl (.lst [])) wl (.lst [u])=H2 at s2 r2 w2 s12⊢;clear s1 s2 hwl;have O2:=O.same s12;by_cases hk:k≤F
 ·have hy:∃us,H A.yl=some (.lst us):=O.yl.imp λ_ z=>z.1;obtain⟨ys,hy⟩:=hy;have O2':fm C D A bo F (λa=>N a∧a≠wl∧a≠rl) k ws rd H2:=(O.weak (N':=λa=>N a∧a≠wl∧a≠rl) λa o h n=>⟨n,de h hwl0,de h hrl⟩).same s12;have nyw:wl≠A.yl:=(de hy hwl0).symm;have nyr:rl≠A.yl:=(de hy hrl).symm;refine⟨OO C D A bo F N k ws rd wl rl s P H2 u,⟨_,[s],[],ws,[u],[],rfl,?_,rfl⟩,?_⟩
  ·exact⟨O2',w2,r2,.one (sp.mono (Kp.same s12)),.nil,.refl,λ_ _ z=>z,(λx hx=>by rw[aG]at hx;exact hx▸⟨ok,nop⟩),(λr hr=>by cases hr),(by rw[hV,ji];rfl),aC _⟩
  ·rintro m σ H3 ⟨S,R,ws1,wus,rus,rfl,B,rfl⟩;refine⟨.inl (eJ.of B.w),_,rfl,?_⟩;by_cases hv:wus=[]
   ·subst hv;refine eN rfl (eN rfl ?_);have e:S=[]:=cK.mp B.dw.length.symm;subst e;have O3:=B.O.weak (N':=N) λa o h n=>n.1;exact(k1 hk R ws1 rl rus H3 (B.run _ _ .nil) hrl B.r B.dr O3 (Ex.new (l':=[wl,rl,A.lp,A.tk]) (λa ha=>by
     simp only[aB,aF,or_false]at ha⊢;rcases ha with rfl|rfl|z|z
     ·exact .inr hwl0
     ·exact .inr hrl
     ·exact .inl (.inl z)
     ·exact .inl (.inr z)) ((Ex.same s12).trans B.ex)))
   ·obtain⟨us,u1,rfl⟩:=fz hv;obtain⟨S',s',rfl,d1,d2⟩:=B.dw.snoc;refine fc (decide_eq_true (by simp)) ?_;refine⟨B.O.ob,ro.cl,ro.nM,mH,B.O.ob,ro.cl,ro.nF,tJ,_,rfl,?_⟩;refine fc (decide_eq_true (by lia)) ?_;refine⟨Lt (OO C D A bo F N k ws rd wl rl s P H2 u) (lv 1 (S'++[s'])),λ_ _ h=>h,?_⟩;refine⟨B.O.ob,nH,.inl ⟨rfl,_,eJ.of B.w⟩,B.w,jN,?_⟩;rw[iX];have O4:=B.O.lst (o:=.lst us) B.w nyw (λa z=>z.2.1);have kp4:Kp (Nk A.tk) H3 (upd H3 wl (.lst us)):=Kp.lst B.w;have ex4:Ex [wl,rl,A.lp,A.tk] H3 (upd H3 wl (.lst us)):=Ex.upd (by simp);have w4:(upd H3 wl (.lst us)) wl=some (.lst us):=dR;have r4:(upd H3 wl (.lst us)) rl=some (.lst rus):=by rw[dj hne.symm];exact B.r
    generalize upd H3 wl (.lst us)=H4 at O4 kp4 ex4 w4 r4⊢;have os:=B.so s' (aS _ (.head _));have hwt:=B.wt;rw[gK,hV]at hwt;have hl1:=sE (h:=0) (S:=S') λx hx=>(B.so x (ag _ hx)).1;have hl2:=km B.ro;have hl3:=d1.length;have hl4:=B.dr.length;have hzs:=B.zs;refine⟨A,bo,F,k,_,ws1,rd,wl,rl,us,rus,s',u1,P,⟨O4,d2.mono kp4,os.1,by lia,w4,r4,hne,nyw,nyr,λa z=>z.2.1,λa z=>z.2.2,by lia,by lia⟩,os.2,λPs rs ws' H5 tkk O5 aft ex5=>?_⟩;obtain⟨⟨pus,w5,dp⟩,rvs,r5,dr5⟩:=aft;have kp5:Kp (Nk A.tk) H4 H5:=by
     obtain⟨n,f,_⟩:=O4.fw;refine O4.kp ex5 (λa ha=>?_);simp only[aB,aF,or_false]at ha;rcases ha with rfl|rfl|rfl|z
     ·exact .inr (.inl ⟨_,w4⟩)
     ·exact .inr (.inl ⟨_,r4⟩)
     ·exact .inr (.inr ⟨_,_,_,f.ob⟩)
     ·exact .inl z
    have kp35:=kp4.trans kp5;have h6:=AY tkk os.1;have h7:=AX tkk os.1;have h8:=Jn tkk os.2;have h9:=FM tkk;have h10:=AW tkk;refine⟨lv 1 (S'++Ps),by rw[gK,gK,hV];lia,S'++Ps,R++rs,ws',us++pus,rus++rvs,rfl,⟨O5,w5,r5,(d1.mono λ_ _=>iU.mono kp35).append dp,(B.dr.mono λ_ _=>je.mono kp35.tup).append dr5,B.ex.trans (ex4.trans ex5),λR' ws'' z=>B.run _ _ (.step tkk z),λx hx=>?_,λr hr=>?_,?_,?_⟩,rfl⟩
    ·rcases aW.mp hx with z|z
     ·exact B.so x (ag _ z)
     ·exact⟨h7.1 x z,h8 x z⟩
    ·rcases aW.mp hr with z|z
     ·exact B.ro r z
     ·exact h7.2 r z
    ·rw[gK,mR];lia
    ·rw[aD];lia
 ·refine⟨λm σ H'=>H'=H2∧σ=[some (.ref A.op),some u,some (.ref rl),some (.ref wl)],⟨0,rfl,rfl⟩,?_⟩;rintro m σ H3 ⟨rfl,rfl⟩;refine⟨.inl (eJ.of w2),_,rfl,fc rfl ?_⟩;refine⟨O2.ob,ro.cl,ro.nM,mH,O2.ob,ro.cl,ro.nF,tJ,_,rfl,eN (decide_eq_false (by lia)) ?_⟩;exact(k2 hk rl _ s12 hrl r2)
section
variable {A:Ad}{bo:Bo}{F k:Nat}{N:Addr→Prop}{ws:List Str}{rd:List (List Rw)}{H':Hp}
theorem fm.add(O:fm C D A bo F N k ws rd H)(hN:∀a,N a→a≠A.yl)(hy:H A.yl=some (.lst us))(nl:N l)(hl:H l=some (.lst rus))(dr:Al (je H) R rus):
  fm C D A bo F N k ws (rd++[R]) (upd H A.yl (.lst (us++[.ref l]))):=by
 have ht:fR H (upd H A.yl (.lst (us++[.ref l]))):=fP hy;have hL:∀l xs,N l→H l=some (.lst xs)→(upd H A.yl (.lst (us++[.ref l]))) l=some (.lst xs):=λa xs n z=>by rw[dj (hN a n)];exact z
 have hL2:∀a xs,N a→H a=some (.lst xs)→(upd H A.yl (.lst (us++[.ref l]))) a=some (.lst xs):=λa xs n z=>by rw[dj (hN a n)];exact z
 obtain⟨n,f,c⟩:=O.fw;obtain⟨us',y1,y2⟩:=O.yl;rw[hy]at y1;cases y1;refine⟨by rw[dj O.nOY];exact O.ob,⟨n,⟨by rw[dj (fF f.ob hy (by intro z;cases z))];exact f.ob,by rw[dj (fF f.dk hy (by intro z;cases z))];exact f.dk⟩,c⟩,by rw[dj (fF O.sd hy (by intro z;cases z))];exact O.sd,O.st,O.s1.mono (λ_ z=>z) ht hL2,O.s2.mono (λ_ z=>z) ht hL2,O.s3.mono (λ_ z=>z) ht hL2,_,dR,?_⟩;exact(y2.mono λ_ _=>uF.mono (λ_ z=>z) ht hL2).append (.one ⟨l,rus,rfl,nl,hL2 _ _ nl hl,dr.mono λ_ _=>je.mono ht⟩)
theorem fm.dct(O:fm C D A bo F N k ws rd H)(h:H d=some (.dK kvs))(nt:d≠A.tk)(ns:d≠A.sd):fm C D A bo F N k ws rd (upd H d o):=by
 obtain⟨n,f,c⟩:=O.fw;obtain⟨us,y1,y2⟩:=O.yl;have ht:fR H (upd H d o):=AV h;have hL:∀a xs,N a→H a=some (.lst xs)→(upd H d o) a=some (.lst xs):=λa xs n z=>by rw[dj (fF z h (by intro z;cases z))];exact z
 exact⟨by rw[dj (fF O.ob h (by intro z;cases z))];exact O.ob,⟨n,⟨by rw[dj (fF f.ob h (by intro z;cases z))];exact f.ob,by rw[dj nt.symm];exact f.dk⟩,c⟩,by rw[dj ns.symm];exact O.sd,O.st,O.s1.mono (λ_ z=>z) ht hL,O.s2.mono (λ_ z=>z) ht hL,O.s3.mono (λ_ z=>z) ht hL,us,by rw[dj (fF y1 h (by intro z;cases z))];exact y1,y2.mono λ_ _=>uF.mono (λ_ z=>z) ht hL⟩
theorem fm.rdl(O:fm C D A bo F N k ws rd H):∃us,H A.yl=some (.lst us)∧us.length=rd.length:=by obtain⟨us,y1,y2⟩:=O.yl;exact⟨us,y1,y2.length⟩
theorem fm.kp3(O:fm C D A bo F N k ws rd H)(ht:∀d,tk d→d≠A.tk)(e:Ex [A.lp,A.tk,A.yl] H H'):Kp tk H H':=by
 obtain⟨n,f,_⟩:=O.fw;obtain⟨us,y1,y2⟩:=O.yl;have kp:Kp (Nk A.tk) H H':=O.kp e (λa ha=>by
  simp only[aB,aF,or_false]at ha;rcases ha with rfl|rfl|rfl
  ·exact .inr (.inr ⟨_,_,_,f.ob⟩)
  ·exact .inl rfl
  ·exact .inr (.inl ⟨_,y1⟩))
 exact⟨kp.tup,λd kvs n z=>kp.dct d kvs (ht d n) z⟩
end
inductive GA(C D:Addr)(H:Hp)(Q:VK):List V→Prop where
 | mk(A:Ad)(bo:Bo)(F k:Nat)(N:Addr→Prop)(ws:List Str)(rd:List (List Rw))(s:eK)(u:V)(P:Nat→Nat→Prop)(tk:Addr→Prop)(f0:fm C D A bo F N k ws rd H)(f1:ye A N H)(f2:(∀d,tk d→d≠A.tk))(f3:iU tk H s u)(f4:s.ok P)(f5:s.wt 0≤4000000)(f6:ws.length≤4000000)(f7:rd.length≤4000000)(f8:∀(m:Mg)(v:V)(rd':List (List Rw))(ws':List Str)(H':Hp),oa (decide (k≤F)) rd ws s m rd' ws'→fm C D A bo F N k ws' rd' H'→pG tk H' m v→Ex [A.lp,A.tk,A.yl] H H'→Q v H'):GA C D H Q [.ref A.op,u]
def EC(C D:Addr):Sp:=λvs H Q _=>GA C D H Q vs
def G9(K:aA)(a_Opening a_FreshWords:Addr):TS:=(fY (fS (dP (tC (.str "handed")) (dP (dQ 1) dZ))))
def G8(K:aA)(a_Opening a_FreshWords:Addr):TS:=(fj (tB (eY x5 [] E0 (dP (dQ 1) dZ))) (G9 K a_Opening a_FreshWords) fU)
def MJ(K:aA)(a_Opening a_FreshWords:Addr):TS:=(dq (G8 K a_Opening a_FreshWords) (dq (fG (jm K "list" ef (kT K (dQ 0) "ready") (dP (kG a_Opening "rows_of" (pJ a_Opening a_FreshWords) [] E0 (dQ 0) (dP (dQ 1) dZ)) dZ))) (fY (fS (dP (tC (.str "ready")) (dP (eC iZ (iB (gT K) (dP (kT K (dQ 0) "ready") dZ)) (tC (.int 1))) dZ))))))
theorem N4(ro:RO K C)(h:EC C D vs H Q E):MJ K C D (gr Q) (start ["self","handed"] vs) H:=by
 obtain⟨A,bo,F,k,N,ws,rd,s,u,P,tk,O,no,ht,sp,ok,z1,z2,z3,kk⟩:=h;refine⟨tk,s,u,rfl,sp,ok.1.2.2.2.1,ok.1.2.2.2.2,λH1 s1 op=>⟨_,rfl,fc rfl ?_⟩,λH1 s1 nop=>⟨_,rfl,eN rfl ?_⟩⟩
 ·refine⟨fM,et λp H2 hp s2 g2=>?_⟩;have s12:=s1.trans s2;obtain⟨q,x,pp,d,kvs,rfl,hq,hx,hpp,nd,hd,he⟩:=sp.mono (Kp.same s12);exact kk _ _ _ _ _ (.handed op) (O.same s12) ⟨p,q,x,pp,d,kvs,rfl,g2,hq,hx,hpp,nd,hd,he⟩ (Ex.same s12)
 ·have O1:=O.same s1;have no1:ye A N H1:=⟨no.y,λa z=>no.f a (s1.free z)⟩;obtain⟨us,y1,yl1⟩:=O1.rdl;have fin2:∀(R:List Rw)(ws':List Str)(l:Addr)(rus:List V)(H2:Hp),oa (decide (k≤F)) rd ws s (.ready rd.length (s.wt 0)) (rd++[R]) ws'→H1 l=none→H2 l=some (.lst rus)→Al (je H2) R rus→fm C D A bo F N k ws' rd H2→Ex [A.lp,A.tk] H1 H2→
    ef (.ref A.yl) [.ref l] H2 λ_ H3=>(fY (fS (dP (tC (.str "ready")) (dP (eC iZ (iB (gT K) (dP (kT K (dQ 0) "ready") dZ)) (tC (.int 1))) dZ)))) (gr Q) [some (.ref A.op),some u] H3:=by
   intro R ws' l rus H2 mean nl hl dr O2 ex2;obtain⟨us2,y2,yl2⟩:=O2.rdl;refine⟨y2,by rw[sizeLine_eq];lia,?_⟩;have O3:=O2.add no.y y2 (no1.f l nl) hl dr;have y3:(upd H2 A.yl (.lst (us2++[.ref l]))) A.yl=some (.lst (us2++[.ref l])):=dR;have ex3:Ex [A.lp,A.tk,A.yl] H2 (upd H2 A.yl (.lst (us2++[.ref l]))):=Ex.upd (by simp);generalize upd H2 A.yl (.lst (us2++[.ref l]))=H3 at O3 y3 ex3⊢;refine⟨O3.ob,ro.cl,ro.nR,qW,.inl (eJ.of y3),fM,λp hp=>?_⟩;have e:(((us2++[V.ref l]).length:Int)-1)=((rd.length:Nat):Int):=by rw[aD];simp;lia
   have s4:=dX (o:=.tup [.str "ready",.int (((us2++[V.ref l]).length:Int)-1)]) hp;refine kk _ _ _ _ _ mean (O3.same s4) ⟨p,rfl,?_⟩ ((Ex.same s1).trans ((ex2.more (by simp)).trans (ex3.trans (Ex.same s4))));rw[dR];dsimp only;rw[e]
  refine⟨O1.ob,ro.cl,ro.nR,qW,.inl ⟨rfl,_,eJ.of y1⟩,O1.ob,nH,A,bo,F,k,N,ws,rd,s,u,P,O1,no1,(sp.mono (Kp.same s1)).old (λd o _ z=>ht d z),ok,nop,z1,z2,λhk R ws' l rus H2 run nl hl dr O2 ex2=>?_,λhk l H2 s2 nl hl=>?_⟩
  ·exact fin2 R ws' l rus H2 (by rw[decide_eq_true hk];exact .ready nop run) nl hl dr O2 ex2
  ·exact fin2 [] ws l [] H2 (by rw[decide_eq_false hk];exact .late nop) nl hl .nil (O1.same s2) (Ex.same s2)
theorem Eu(h:oa go rd ws s m rd' ws')(o:s.ok P):ws'.length≤ws.length+s.wt 0∧rd'.length≤rd.length+1:=by
 cases h with
 | handed p=>exact⟨by lia,by lia⟩
 | @ready _ _ _ _ R p r=>
  have hw:lJ R=s.wt 0:=by rw[vw r,hV,ji];lia
  have h2:=BS r;have h3:=km (vx r (P:=P) (λx hx=>by rw[aG]at hx;exact hx▸o) (λx hx=>by cases hx));simp only[am]at h2;exact⟨by lia,by simp⟩
 | late p=>exact⟨by lia,by simp⟩
inductive JY(go:Bool)(rd:List (List Rw))(ws:List Str)(s:eK)(ps:List Str):Nat→En→List (List Rw)→List Str→Prop where
 | nil:JY go rd ws s ps 0 .nil rd ws
 | snoc{i:Nat}{e:En}{rd1 rd2:List (List Rw)}{ws1 ws2:List Str}{p:Str}{t:T}{m:Mg}:JY go rd ws s ps i e rd1 ws1→ps[i]?=some p→s.t.kids[i]?=some t→oa go rd1 ws1 (s.kid i t) m rd2 ws2→JY go rd ws s ps (i+1) (e.put p m) rd2 ws2
theorem JY.len(h:JY go rd ws s ps i e rd' ws')(o:s.ok P)(w:∀(i:Nat)(t:T),s.t.kids[i]?=some t→(s.kid i t).wt 0≤s.wt 0):ws'.length≤ws.length+i*s.wt 0∧rd'.length≤rd.length+i∧e.nd∧e.len≤i:=by
 induction h with
 | nil=>exact⟨by lia,aC _,aJ,aC _⟩
 | @snoc i e _ _ _ _ p t m _ _ ht mean ih=>have h1:=Eu mean (kP o (ac ht));have h2:=w i t ht;have h3:=En.put_len p m e;refine⟨?_,by lia,CG ih.2.2.1,by lia⟩;rw[au];lia
theorem Ca{a b:Addr}{xs ys:List V}{g:TG}{tb:TS}{D:iN}{σ:St}{H:Hp}(Pv:Nat→St→Hp→Prop)(h0:Pv 0 σ H)(hlen:xs.length=ys.length)(hl:∀i σ H,i≤xs.length→Pv i σ H→eJ K H a xs∧eJ K H b ys)
  (hs:∀i x y p σ H,xs[i]?=some x→ys[i]?=some y→Pv i σ H→H p=none→g (.ref p) σ (upd H p (.tup [x,y])) λσ2 H2=>tb {D with nx:=Pv (i+1),ct:=Pv (i+1),bk:=D.nx} σ2 H2) (hd:∀σ H,Pv xs.length σ H→D.nx σ H):
  ∃W:Nat→Nat→St→Hp→Prop,(∃m,W 0 m σ H)∧∀i m σ H,W i m σ H→
   ((AD K a b).stop i H∧D.nx σ H)∨((AD K a b).go i H∧∃N:St→Hp→Prop,(∀σ' H',N σ' H'→∃m',m'<m∧W (i+1) m' σ' H')∧∀x H',(AD K a b).yld i H x H'→g x σ H' λσ2 H2=>tb {D with nx:=N,ct:=N,bk:=D.nx} σ2 H2):=by
 refine⟨λi m σ H=>m=xs.length-i∧i≤xs.length∧Pv i σ H,⟨_,rfl,aU _,h0⟩,?_⟩;rintro i m σ H ⟨rfl,hi,pv⟩;obtain⟨q1,q2⟩:=hl _ _ _ hi pv;by_cases e:i=xs.length
 ·subst e;exact .inl ⟨⟨xs,ys,q1,q2,aC _⟩,hd _ _ pv⟩
 ·have hlt:i<xs.length:=by lia
  refine .inr ⟨⟨xs,ys,xs[i],ys[i]'(by lia),q1,q2,aI _,aI _⟩,Pv (i+1),λσ' H' h=>⟨xs.length-(i+1),by lia,rfl,hlt,h⟩,?_⟩;rintro z H' ⟨p,x,y,rfl,hp,rfl,hx,hy⟩;exact hs i x y p σ H (hx xs q1) (hy ys q2) pv hp
inductive GB(C D:Addr)(H:Hp)(Q:VK):List V→Prop where
 | mk(A:Ad)(bo:Bo)(F k:Nat)(N:Addr→Prop)(ws:List Str)(rd:List (List Rw))(s:eK)(u:V)(P:Nat→Nat→Prop)(f0:fm C D A bo F N k ws rd H)(f1:ye A N H)(f2:iU (Nk A.tk) H s u)(f3:s.ok P)(f4:kind s.t="stamp")(f5:s.wt 0≤1000000)(f6:ws.length≤1000000)(f7:rd.length≤1000000)(f8:∀(s':eK)(v:V)(rd':List (List Rw))(ws':List Str)(H':Hp),uI bo (decide (k≤F)) rd ws s s' rd' ws'→fm C D A bo F N k ws' rd' H'→iU (Nk A.tk) H' s' v→Ex [A.lp,A.tk,A.yl] H H'→Q v H'):GB C D H Q [.ref A.op,u]
def ED(C D:Addr):Sp:=λvs H Q _=>GB C D H Q vs
def A8(K:aA)(a_Opening a_FreshWords:Addr):TS:=(lV (dQ 3) (dQ 4) (kG a_Opening "meaning_of" (EC a_Opening a_FreshWords) [] E0 (dQ 0) (dP (dQ 5) dZ)))
def ID(K:aA)(a_Opening a_FreshWords:Addr):TS:=(dq (eG i8 (db 3)) (dq (iP (CU K (eC (eF K) (dQ 2) (tC (.int 1))) (eY jA [] E0 (dP (dQ 1) dZ))) (lb K 2 (gI (db 4) (gI (db 5) lc))) (A8 K a_Opening a_FreshWords)) (fY (fS (dP (eC (eF K) (dQ 2) (tC (.int 2))) (dP (eC (eF K) (dQ 2) (tC (.int 0))) (dP (fS dZ) (dP (dQ 3) dZ))))))))
def MT(K:aA)(a_Opening a_FreshWords:Addr):TS:=(dq (eG (rB (kT K (dQ 0) "stamps") (eC (eF K) (eC (eF K) (dQ 1) (tC (.int 0))) (tC (.int 1)))) (db 2)) (dq (eG i8 (db 3)) (dq (iP (CU K (eC (eF K) (dQ 2) (tC (.int 1))) (eY jA [] E0 (dP (dQ 1) dZ))) (lb K 2 (gI (db 4) (gI (db 5) lc))) (A8 K a_Opening a_FreshWords)) (fY (fS (dP (eC (eF K) (dQ 2) (tC (.int 2))) (dP (eC (eF K) (dQ 2) (tC (.int 0))) (dP (fS dZ) (dP (dQ 3) dZ)))))))))
def O8(C D:Addr)(A:Ad)(bo:Bo)(F:Nat)(N:Addr→Prop)(k:Nat)(u:V)(pv nd:Addr)(rd:List (List Rw))(ws:List Str)(s:eK)(ps:List Str)(H2:Hp)(i:Nat)(σ:St)(H':Hp):Prop:=∃j4 j5 e rd' ws' kvs,σ=[some (.ref A.op),some u,some (.ref pv),some (.ref nd),j4,j5]∧JY (decide (k≤F)) rd ws s ps i e rd' ws'∧fm C D A bo F N k ws' rd' H'∧H' nd=some (.dK kvs)∧lQ (λd=>d≠A.tk∧d≠nd) H' e kvs∧Ex [A.lp,A.tk,A.yl,nd] H2 H'∧Kp (λd=>d≠A.tk∧d≠nd) H2 H'
theorem wJ(ro:RO K C)
  (O:fm C D A bo F N k ws rd H) (no:ye A N H) (sp:iU (Nk A.tk) H s u) (ok:s.ok P) (hs:C8 N H w ps body v) (hps:ps.length=s.t.kids.length) (hw0:∀(i:Nat)(t:T),s.t.kids[i]?=some t→(s.kid i t).wt 0≤s.wt 0) (z1:s.wt 0≤1000000) (z2:ws.length≤1000000) (z3:rd.length≤1000000)
  (kk:∀(e:En)(v:V)(rd':List (List Rw))(ws':List Str)(H':Hp),JY (decide (k≤F)) rd ws s ps ps.length e rd' ws'→fm C D A bo F N k ws' rd' H'→iU (Nk A.tk) H' ⟨body,w,[],e⟩ v→Ex [A.lp,A.tk,A.yl] H H'→Q v H'):
  ID K C D (gr Q) [some (.ref A.op),some u,some v,none,none,none] H:=by
 obtain⟨pv,pl_,xb,rfl,hst,hpl,npl,hxb⟩:=hs;intro nd hnd;have s1:dz H (upd H nd (.dK [])):=dX hnd;have g1:(upd H nd (.dK [])) nd=some (.dK []):=dR;generalize upd H nd (.dK [])=H1 at s1 g1⊢;obtain⟨n0,f0,_⟩:=O.fw;have ndt:nd≠A.tk:=(de f0.dk hnd).symm;have nds:nd≠A.sd:=(de O.sd hnd).symm;have sp1:iU (λd=>d≠A.tk∧d≠nd) H1 s u:=(sp.old (tk':=λd=>d≠A.tk∧d≠nd) (λd o h z=>⟨z,de h hnd⟩)).mono (Kp.same s1);have path:s.path.length≤1000:=by have:=ok.1.2.1;lia
 have hk3:=CQ s.t;refine⟨eD.of (s1 _ _ hst),dW (j:=1) rfl,_,s,u,rfl,sp1,path,λil us H2 s2 n2 g2 al=>⟨eJ.of ((s1.trans s2) _ _ hpl),eJ.of g2,?_⟩⟩;have s12:=s1.trans s2;have hal:=al.length;rw[ko]at hal;have O2:=O.same s12;obtain⟨ys,y2,_⟩:=O2.rdl;have nil_:il≠A.yl:=by obtain⟨ys0,y0,_⟩:=O.rdl;exact(de (s1 _ _ y0) n2).symm
 refine Ca (K:=K) (a:=pl_) (b:=il) (xs:=ps.map V.str) (ys:=us) (O8 C D A bo F N k u pv nd rd ws s ps H2)
  ⟨none,none,.nil,rd,ws,[],rfl,.nil,O2,s2 _ _ g1,rfl,.refl,.refl⟩ (by rw[aT];lia) (λi σ H' _ hP=>?_) ?_ ?_
 ·obtain⟨_,_,e,rd',ws',kvs,_,_,O3,hn3,_,ex3,kp3⟩:=hP;obtain⟨n3,f3,_⟩:=O2.fw;have lst:∀l xs,H2 l=some (.lst xs)→l≠A.yl→H' l=some (.lst xs):=λl xs h hy=>ex3 _ _ (λq=>by
   simp only[aB,aF,or_false]at q;rcases q with rfl|rfl|rfl|rfl
   ·rw[f3.ob]at h;cases h
   ·rw[f3.dk]at h;cases h
   ·exact hy rfl
   ·rw[s2 _ _ g1]at h;cases h) h
  exact⟨eJ.of (lst _ _ (s12 _ _ hpl) (no.y _ npl)),eJ.of (lst _ _ g2 nil_)⟩
 ·rintro i x y p σ H3 hx hy ⟨j4,j5,e,rd',ws',kvs,rfl,ms,O3,hn3,en,ex3,kp3⟩ hp;obtain⟨pl1,hpl1,rfl⟩:∃z,ps[i]?=some z∧x=V.str z:=by
   rw[ae]at hx;cases e:ps[i]? with
   | none=>rw[e]at hx;cases hx
   | some z=>rw[e]at hx;exact⟨z,rfl,(Option.some.inj hx).symm⟩
  have hil:i<us.length:=(aN.mp hy).1;obtain⟨t,ht⟩:∃t,s.t.kids[i]?=some t:=⟨s.t.kids[i]'(by lia),aI _⟩;obtain⟨s',hs',sp'⟩:=al.get hy;rw[qA ht]at hs';cases hs';have s4:=dX (o:=.tup [.str pl1,y]) hp;have g4:(upd H3 p (.tup [.str pl1,y])) p=some (.tup [.str pl1,y]):=dR;generalize upd H3 p (.tup [.str pl1,y])=H4 at s4 g4⊢;have O4:=O3.same s4;have no4:ye A N H4:=by
   refine⟨no.y,λa z=>no.f a ?_⟩;have z3:=s4.free z;cases q:H a with
   | none=>rfl
   | some o=>
    exfalso;have q2:=s12 _ _ q;obtain⟨n3,f3,_⟩:=O3.fw;obtain⟨ys3,y3,_⟩:=O3.rdl;have:=ex3 a o (λw=>by
     simp only[aB,aF,or_false]at w;rcases w with rfl|rfl|rfl|rfl
     ·rw[f3.ob]at z3;cases z3
     ·rw[f3.dk]at z3;cases z3
     ·rw[y3]at z3;cases z3
     ·rw[hn3]at z3;cases z3) q2
    rw[this]at z3;cases z3
  obtain⟨l1,l2,_,_⟩:=ms.len ok hw0;have hl5:i*s.wt 0≤3*s.wt 0:=bX _ (by lia);refine⟨eD.of g4,rfl,rfl,?_⟩;refine⟨O4.ob,nH,A,bo,F,k,N,ws',rd',s.kid i t,y,P,(λd=>d≠A.tk∧d≠nd),O4,no4,λd z=>z.1,sp'.mono (kp3.trans (Kp.same s4)),kP ok (ac ht),?_,?_,?_,λm v rd2 ws2 H5 mean O5 mg ex5=>?_⟩
  ·have:=hw0 i t ht;lia
  ·lia
  ·lia
  have kp5:Kp (λd=>d≠A.tk∧d≠nd) H4 H5:=O4.kp3 (λd z=>z.1) ex5;have hn5:H5 nd=some (.dK kvs):=by
   refine ex5 _ _ (λw=>?_) (s4 _ _ hn3);obtain⟨n4,f4,_⟩:=O4.fw;obtain⟨ys4,y4,_⟩:=O4.rdl;have hn4:=s4 _ _ hn3;simp only[aB,aF,or_false]at w;rcases w with w|w|w
   ·rw[w,f4.ob]at hn4;cases hn4
   ·exact ndt w
   ·rw[w,y4]at hn4;cases hn4
  have ekl:=wv en;obtain⟨_,_,nd3,el3⟩:=ms.len ok hw0;refine⟨nZ.k (k:=.inr pl1) hn5 (kX (by lia)),?_⟩;have kp6:Kp (λd=>d≠A.tk∧d≠nd) H5 (upd H5 nd (.dK (gH kvs (.inr pl1) v))):=⟨AV hn5,λd kvs z h=>by rw[dj z.2];exact h⟩;have kp35:=(Kp.same s4).trans kp5;refine⟨_,_,e.put pl1 m,rd2,ws2,_,rfl,.snoc ms hpl1 ht mean,O5.dct hn5 ndt nds,dR,?_,?_,?_⟩
  ·exact wu (mg.mono kp6) nd3 ((en.mono kp35).mono kp6)
  ·exact ex3.trans ((Ex.same s4).trans ((ex5.more (by simp)).trans (Ex.upd (by simp))))
  ·exact kp3.trans (kp35.trans kp6)
 ·rintro σ H3 ⟨j4,j5,e,rd',ws',kvs,rfl,ms,O3,hn3,en,ex3,kp3⟩;rw[aT]at ms;have hst3:=kp3.tup _ _ (s12 _ _ hst);refine⟨eD.of hst3,dW (j:=2) rfl,eD.of hst3,dW (j:=0) rfl,fM,λte hte=>⟨fM,λr hr=>?_⟩⟩;have s4:=dX (o:=.tup []) hte;have g4:(upd H3 te (.tup [])) te=some (.tup []):=dR;generalize upd H3 te (.tup [])=H4 at s4 g4 hr⊢;have s5:=dX (o:=.tup [xb,.str w,.ref te,.ref nd]) hr;have s45:=s4.trans s5;refine kk e _ rd' ws' _ ms (O3.same s45) ⟨r,xb,te,nd,kvs,rfl,dR,(hxb.mono (dh s12)).mono (kp3.tup.trans (dh s45)),s5 _ _ g4,ndt,s45 _ _ hn3,((en.mono (Kp.same s45)).old λd o _ z=>z.1)⟩ ?_;exact Ex.new (l':=[A.lp,A.tk,A.yl,nd]) (λa ha=>by
   simp only[aB,aF,or_false]at ha⊢;rcases ha with z|z|z|rfl
   ·exact .inl (.inl z)
   ·exact .inl (.inr (.inl z))
   ·exact .inl (.inr (.inr z))
   ·exact .inr hnd) ((Ex.same s12).trans (ex3.trans (Ex.same s45)))
theorem E2(h:SF w 0):w="star":=by
 unfold SF lB at h;split at h
 ·assumption
 ·split at h
  ·cases h
  ·split at h<;>cases h
theorem JK(h:SF w 1):w="sta":=by
 unfold SF lB at h;split at h
 ·cases h
 ·split at h
  ·assumption
  ·split at h<;>cases h
theorem NB(h:SF w 2):w="st":=by
 unfold SF lB at h;split at h
 ·cases h
 ·split at h
  ·cases h
  ·split at h
   ·assumption
   ·cases h
theorem OD(ro:RO K C)(h:ED C D vs H Q E):MT K C D (gr Q) (start ["self","spot","stamp","names","place","handed"] vs) H:=by
 obtain⟨A,bo,F,k,N,ws,rd,s,u,P,O,no,sp,ok,hk,z1,z2,z3,kk⟩:=h;obtain⟨q,x,pp,d,kvs,rfl,hq,hx,_⟩:=id sp;have wt:WT SF s.t:=ok.1.1;cases e:s.t with
 | num n=>rw[e]at hk;exact absurd hk (by simp only[kind];decide)
 | name n=>rw[e]at hk;exact absurd hk (by simp only[kind];decide)
 | sum a b=>rw[e]at hk;exact absurd hk (by simp only[kind];decide)
 | less a b=>rw[e]at hk;exact absurd hk (by simp only[kind];decide)
 | cho a b c=>rw[e]at hk;exact absurd hk (by simp only[kind];decide)
 | lt w a b=>rw[e]at hk;exact absurd hk (by simp only[kind];decide)
 | st0 w=>rw[e]at hx wt;obtain⟨p,rfl,hp⟩:=hx;cases E2 wt;have dg:=iV.k (k:=.inr "star") O.sd;rw[DM,if_pos rfl]at dg;refine⟨O.ob,ro.cl,ro.nS,oH,eD.of hq,dW (j:=0) rfl,eD.of hp,dW (j:=1) rfl,dg,?_⟩;refine wJ ro O no sp ok O.s1 (by rw[e];rfl) (λi t ht=>by rw[e]at ht;simp[T.kids]at ht) z1 z2 z3 λe' v rd' ws' H' ms O' sp' ex=>kk _ v rd' ws' H' ?_ O' sp' ex;cases ms;exact .star e
 | st1 w a=>
  rw[e]at hx wt;obtain⟨p,xa,rfl,hp,_⟩:=hx;cases JK wt.1;have dg:=iV.k (k:=.inr "sta") O.sd;rw[DM,if_neg Kq.symm,if_pos rfl]at dg;have ew:s.wt 0=1+(s.kid 0 a).wt 0:=by unfold eK.wt;rw[e];rfl
  refine⟨O.ob,ro.cl,ro.nS,oH,eD.of hq,dW (j:=0) rfl,eD.of hp,dW (j:=1) rfl,dg,?_⟩;refine wJ ro O no sp ok O.s2 (by rw[e];rfl) (λi t ht=>?_) z1 z2 z3 λe' v rd' ws' H' ms O' sp' ex=>kk _ v rd' ws' H' ?_ O' sp' ex
  ·rw[e]at ht
   match i,ht with
   | 0,ht=>cases ht;lia
   | n+1,ht=>simp[T.kids]at ht
  ·cases ms with
   | snoc ms hp1 ht mean=>
   cases ms with
   | nil=>
   rw[e]at ht;cases hp1;cases ht;exact .sta e mean
 | st2 w a b=>
  rw[e]at hx wt;obtain⟨p,xa,xb,rfl,hp,_⟩:=hx;cases NB wt.1;have dg:=iV.k (k:=.inr "st") O.sd;rw[DM,if_neg Fm.symm,if_neg Ko.symm,if_pos rfl]at dg;have ew:s.wt 0=1+(s.kid 0 a).wt 0+(s.kid 1 b).wt 0:=by unfold eK.wt;rw[e];rfl
  refine⟨O.ob,ro.cl,ro.nS,oH,eD.of hq,dW (j:=0) rfl,eD.of hp,dW (j:=1) rfl,dg,?_⟩;refine wJ ro O no sp ok O.s3 (by rw[e];rfl) (λi t ht=>?_) z1 z2 z3 λe' v rd' ws' H' ms O' sp' ex=>kk _ v rd' ws' H' ?_ O' sp' ex
  ·rw[e]at ht
   match i,ht with
   | 0,ht=>cases ht;lia
   | 1,ht=>cases ht;lia
   | n+2,ht=>simp[T.kids]at ht
  ·cases ms with
   | snoc ms hp2 ht2 mean2=>
   cases ms with
   | snoc ms hp1 ht1 mean1=>
   cases ms with
   | nil=>
   rw[e]at ht1 ht2;cases hp1;cases ht1;cases hp2;cases ht2;rename_i m1 m2;have ep:∀m n:Mg,En.put (En.put .nil (qV bo.e) m) (vY bo.e) n=.cons (qV bo.e) m (.cons (vY bo.e) n .nil):=λm n=>by simp only[En.put,if_neg (zT bo.e)]
   rw[ep];exact .st e mean1 mean2
theorem fm.many(O:fm C D A bo F N k ws rd H):fm C D A bo F N j ws rd (upd H A.op (.ins C A.dx (mG A.sd A.lp F j A.yl))):=by
 obtain⟨n,f,c⟩:=O.fw;obtain⟨us,y1,y2⟩:=O.yl;have ht:fR H (upd H A.op (.ins C A.dx (mG A.sd A.lp F j A.yl))):=λb xs e=>by rw[dj (fF e O.ob (by intro z;cases z))];exact e
 have hL:∀a xs,N a→H a=some (.lst xs)→(upd H A.op (.ins C A.dx (mG A.sd A.lp F j A.yl))) a=some (.lst xs):=λa xs n z=>by rw[dj (fF z O.ob (by intro z;cases z))];exact z
 exact⟨dR,⟨n,⟨by rw[dj O.nOL.symm];exact f.ob,by rw[dj O.nOT.symm];exact f.dk⟩,c⟩,by rw[dj (fF O.sd O.ob (by intro z;cases z))];exact O.sd,O.st,O.s1.mono (λ_ z=>z) ht hL,O.s2.mono (λ_ z=>z) ht hL,O.s3.mono (λ_ z=>z) ht hL,us,by rw[dj O.nOY.symm];exact y1,y2.mono λ_ _=>uF.mono (λ_ z=>z) ht hL⟩
inductive Cw(C D:Addr)(H:Hp)(Q:VK):List V→Prop where
 | mk(A:Ad)(bo:Bo)(F k:Nat)(N:Addr→Prop)(ws:List Str)(rd:List (List Rw))(wl rl:Addr)(wus rus:List V)(s:eK)(u:V)(P:Nat→Nat→Prop)(f0:LI C D A bo F N k ws rd wl rl wus rus s u P H)(f1:ye A N H)(f2:s.wt 0≤1000000)(f3:ws.length≤1000000)(f4:rd.length≤1000000)(f5:(∀(P:List eK)(rs:List Rw)(ws':List Str)(H':Hp),Tk ws s P rs ws'→fm C D A bo F N k ws' rd H'→GE (Nk A.tk) wl rl wus rus P rs H'→Ex [wl,rl,A.lp,A.tk] H H'→Q .non H'))(f6:(∀(s':eK)(rd':List (List Rw))(ws':List Str)(H':Hp),uI bo (decide (k+1≤F)) rd ws s s' rd' ws'→fm C D A bo F N (k+1) ws' rd' H'→GE (Nk A.tk) wl rl wus rus [s'] [] H'→Ex [wl,A.op,A.lp,A.tk,A.yl] H H'→Q .non H')):Cw C D H Q [.ref A.op,u,.ref wl,.ref rl]
def xq(C D:Addr):Sp:=λvs H Q _=>Cw C D H Q vs
def GZ(K:aA)(a_Opening a_FreshWords:Addr):TS:=(dq (pN K (dQ 0) (tC (.int 1)) EQ "many") (fG (jm K "list" ef (dQ 2) (dP (kG a_Opening "body_of" (ED a_Opening a_FreshWords) [] E0 (dQ 0) (dP (dQ 1) dZ)) dZ))))
def GY(K:aA)(a_Opening a_FreshWords:Addr):TS:=(fj (eL (eC kN (dQ 4) (tC (.str "stamp")))) (GZ K a_Opening a_FreshWords) (sK K a_Opening a_FreshWords))
def L9(K:aA)(a_Opening a_FreshWords:Addr):TS:=(dq (eG (eC (eF K) (eC (eF K) (dQ 1) (tC (.int 0))) (tC (.int 0))) (db 4)) (GY K a_Opening a_FreshWords))
theorem MY(ro:RO K C)(h:xq C D vs H Q E):L9 K C D (gr Q) (start ["self","spot","waiting","rows","kind"] vs) H:=by
 obtain⟨A,bo,F,k,N,ws,rd,wl,rl,wus,rus,s,u,P,B,no,z1,z2,z3,k1,k2⟩:=h;obtain⟨q,x,pp,d,kvs,rfl,hq,hx,hpp,nd,hd,he⟩:=id B.sp;obtain⟨p,ks,rfl,hp,dk⟩:=hx.open;refine⟨eD.of hq,dW (j:=0) rfl,eD.of hp,Ft s.t ks,?_⟩;by_cases hk:kind s.t="stamp"
 ·refine⟨rfl,_,rfl,fc (by rw[hk];decide) ?_⟩;refine⟨A.op,C,A.dx,_,_,rfl,B.O.ob,ro.cl,ro.nM,mH,_,_,rfl,rfl,A.dx,_,B.O.ob,Ir,?_⟩;rw[Iq (j:=k+1) (by lia)];have O1:=B.O.many (j:=k+1);have kp1:Kp (Nk A.tk) H (upd H A.op (.ins C A.dx (mG A.sd A.lp F (k+1) A.yl))):=Kp.ins B.O.ob;have ex1:Ex [wl,A.op,A.lp,A.tk,A.yl] H (upd H A.op (.ins C A.dx (mG A.sd A.lp F (k+1) A.yl))):=Ex.upd (by simp);have w1:(upd H A.op (.ins C A.dx (mG A.sd A.lp F (k+1) A.yl))) wl=some (.lst wus):=by rw[dj (fF B.w B.O.ob (by intro z;cases z))];exact B.w
  have r1:(upd H A.op (.ins C A.dx (mG A.sd A.lp F (k+1) A.yl))) rl=some (.lst rus):=by rw[dj (fF B.r B.O.ob (by intro z;cases z))];exact B.r
  have no1:ye A N (upd H A.op (.ins C A.dx (mG A.sd A.lp F (k+1) A.yl))):=⟨no.y,λa z=>no.f a (by
   by_cases e:a=A.op
   ·subst e;rw[dR]at z;cases z
   ·rw[dj e]at z;exact z)⟩
  generalize upd H A.op (.ins C A.dx (mG A.sd A.lp F (k+1) A.yl))=H1 at O1 kp1 ex1 w1 r1 no1⊢;refine⟨.inl ⟨rfl,_,eJ.of w1⟩,O1.ob,nH,A,bo,F,k+1,N,ws,rd,s,_,P,O1,no1,B.sp.mono kp1,B.ok,hk,z1,z2,z3,λs' v rd' ws' H2 opn O2 sp2 ex2=>?_⟩;have lst:∀l xs,H1 l=some (.lst xs)→l≠A.yl→H2 l=some (.lst xs):=λl xs h hy=>ex2 _ _ (λq=>by
   obtain⟨n3,f3,_⟩:=O1.fw;simp only[aB,aF,or_false]at q;rcases q with rfl|rfl|rfl
   ·rw[f3.ob]at h;cases h
   ·rw[f3.dk]at h;cases h
   ·exact hy rfl) h
  have w2:=lst _ _ w1 B.ny;have r2:=lst _ _ r1 B.nz;have hz:=B.z1;refine⟨w2,by rw[sizeLine_eq];lia,?_⟩;refine k2 s' rd' ws' _ opn (O2.lst w2 B.ny B.nw) ⟨⟨[v],dR,.one (sp2.mono (Kp.lst w2))⟩,[],by rw[dj B.ne.symm,aZ];exact r2,.nil⟩ (ex1.trans ((ex2.more (by simp)).trans (Ex.upd (by simp))))
 ·exact⟨rfl,_,rfl,eN (nk hk) (BZ B hk k1)⟩
inductive nW(C D:Addr)(H:Hp)(Q:VK):List V→Prop where
 | mk(A:Ad)(bo:Bo)(F:Nat)(N:Addr→Prop)(ws:List Str)(t:T)(u:V)(f0:fm C D A bo F N 0 ws [] H)(f1:ye A N H)(f2:iU (Nk A.tk) H ⟨t,"",[],.nil⟩ u)(f3:uK bo)(f4:BT t [] 0)(f5:(∀st,uM bo F (st0 t ws) st→st.k≤F→Cz st))(f6:∀(st:oy)(l:Addr)(rus:List V)(H':Hp),uM bo F (st0 t ws) st→(st.k≤F→st.S=[])→H l=none→H' l=some (.lst rus)→Al (je H') st.R rus→fm C D A bo F N st.k st.ws st.rd H'→Ex [A.op,A.lp,A.tk,A.yl] H H'→Q (.ref l) H'):nW C D H Q [.ref A.op,u]
def my(C D:Addr):Sp:=λvs H Q _=>nW C D H Q vs
theorem BX{C D:Addr}{H:Hp}{Q:VK}{vs vs':List V}(h:nW C D H Q vs')(e:vs=vs'):nW C D H Q vs:=e▸h
def Ae(K:aA)(a_Opening a_FreshWords:Addr):TS:=(fG (kG a_Opening "take" (xq a_Opening a_FreshWords) [] E0 (dQ 0) (dP (mV K "list" mY (dQ 3)) (dP (dQ 3) (dP (dQ 2) dZ)))))
def Gh(K:aA)(a_Opening a_FreshWords:Addr):TS:=(dq (eG (fX dZ) (db 2)) (dq (eG (fX (dP (dQ 1) dZ)) (db 3)) (dq (iF (kU (eL (eC pA (iB (gT K) (dP (dQ 3) dZ)) (tC (.int 0)))) (eL (eC EN (kT K (dQ 0) "many") (kT K (dQ 0) "fuel")))) (Ae K a_Opening a_FreshWords)) (fY (dQ 2)))))
structure LH(C D:Addr)(A:Ad)(bo:Bo)(F:Nat)(N:Addr→Prop)(wl rl:Addr)(t:T)(ws:List Str)(H2:Hp)(st:oy)(wus rus:List V)(H':Hp):Prop where
 rch:uM bo F (st0 t ws) st
 O:fm C D A bo F N st.k st.ws st.rd H'
 no:ye A N H'
 w:H' wl=some (.lst wus)
 r:H' rl=some (.lst rus)
 dw:Al (iU (Nk A.tk) H') st.S wus
 dr:Al (je H') st.R rus
 ex:Ex [wl,rl,A.op,A.lp,A.tk,A.yl] H2 H'
def ON(C D:Addr)(A:Ad)(bo:Bo)(F:Nat)(N:Addr→Prop)(wl rl:Addr)(t:T)(ws:List Str)(H2:Hp)(u:V)(m:Nat)(σ:St)(H':Hp):Prop:=∃st wus rus,σ=[some (.ref A.op),some u,some (.ref rl),some (.ref wl)]∧LH C D A bo F (λa=>N a∧a≠wl∧a≠rl) wl rl t ws H2 st wus rus H'∧m=mu F t.size st
theorem J4(ro:RO K C)(h:my C D vs H Q E):Gh K C D (gr Q) (start ["self","spot","rows","waiting"] vs) H:=by
 obtain⟨A,bo,F,N,ws,t,u,O,no,sp,bk,bt,sm,kk⟩:=h;refine⟨fM,λrl hrl=>⟨fM,λwl hwl=>?_⟩⟩;have s1:dz H (upd H rl (.lst [])):=dX hrl;have s2:=dX (o:=.lst [u]) hwl;have hne:wl≠rl:=(de (dR (H:=H) (a:=rl) (o:=.lst [])) hwl).symm;have r2:(upd (upd H rl (.lst [])) wl (.lst [u])) rl=some (.lst []):=s2 _ _ dR;have w2:(upd (upd H rl (.lst [])) wl (.lst [u])) wl=some (.lst [u]):=dR;have hwl0:H wl=none:=s1.free hwl;have s12:=s1.trans s2;generalize upd (upd H rl (.lst [])) wl (.lst [u])=H2 at s2 r2 w2 s12⊢;clear s1 s2 hwl;obtain⟨ys,hy,_⟩:=O.rdl;have O2:fm C D A bo F (λa=>N a∧a≠wl∧a≠rl) 0 ws [] H2:=(O.weak (N':=λa=>N a∧a≠wl∧a≠rl) λa o h n=>⟨n,de h hwl0,de h hrl⟩).same s12;have no2:ye A (λa=>N a∧a≠wl∧a≠rl) H2:=⟨λa z=>no.y a z.1,λa z=>⟨no.f a (s12.free z),(de w2 z).symm,(de r2 z).symm⟩⟩;have nyw:wl≠A.yl:=(de hy hwl0).symm;have nyr:rl≠A.yl:=(de hy hrl).symm;have I0:eZ F t.size (st0 t ws):=ki bt;refine⟨ON C D A bo F N wl rl t ws H2 u,⟨_,st0 t ws,[u],[],rfl,?_,rfl⟩,?_⟩
 ·exact⟨.refl,O2,no2,w2,r2,.one (sp.mono (Kp.same s12)),.nil,.refl⟩
 ·rintro m σ H3 ⟨st,wus,rus,rfl,B,rfl⟩;have I:=pO bk B.rch I0;have done:(st.k≤F→st.S=[])→Q (.ref rl) H3:=λz=>
   kk st rl rus H3 B.rch z hrl B.r B.dr (B.O.weak (N':=N) λa o h n=>n.1) (Ex.new (l':=[wl,rl,A.op,A.lp,A.tk,A.yl]) (λa ha=>by
     simp only[aB,aF,or_false]at ha⊢;rcases ha with rfl|rfl|z|z|z|z
     ·exact .inr hwl0
     ·exact .inr hrl
     ·exact .inl (.inl z)
     ·exact .inl (.inr (.inl z))
     ·exact .inl (.inr (.inr (.inl z)))
     ·exact .inl (.inr (.inr (.inr z)))) ((Ex.same s12).trans B.ex))
  refine⟨.inl (eJ.of B.w),_,rfl,?_⟩;by_cases hv:wus=[]
  ·subst hv;refine eN rfl (eN rfl ?_);exact(done λ_=>cK.mp B.dw.length.symm)
  ·refine fc (decide_eq_true (by have:=dO.mpr hv;lia)) ?_;refine⟨B.O.ob,ro.cl,ro.nM,mH,B.O.ob,ro.cl,ro.nF,tJ,_,rfl,?_⟩;by_cases hk:st.k≤F
   ·refine fc (decide_eq_true (by lia)) ?_;obtain⟨us,u1,rfl⟩:=fz hv;obtain⟨S,R,k,ws1,rd⟩:=st;obtain⟨S',s',rfl,d1,d2⟩:=B.dw.snoc;refine⟨Lt (ON C D A bo F N wl rl t ws H2 u) (mu F t.size ⟨S'++[s'],R,k,ws1,rd⟩),λ_ _ h=>h,?_⟩;refine⟨B.O.ob,nH,.inl ⟨rfl,_,eJ.of B.w⟩,B.w,jN,?_⟩;rw[iX];have O4:=B.O.lst (o:=.lst us) B.w nyw (λa z=>z.2.1);have kp4:Kp (Nk A.tk) H3 (upd H3 wl (.lst us)):=Kp.lst B.w;have ex4:Ex [wl,rl,A.op,A.lp,A.tk,A.yl] H3 (upd H3 wl (.lst us)):=Ex.upd (by simp);have w4:(upd H3 wl (.lst us)) wl=some (.lst us):=dR;have r4:(upd H3 wl (.lst us)) rl=some (.lst rus):=by rw[dj hne.symm];exact B.r
    have no4:ye A (λa=>N a∧a≠wl∧a≠rl) (upd H3 wl (.lst us)):=⟨B.no.y,λa z=>B.no.f a (by
     by_cases e:a=wl
     ·subst e;rw[dR]at z;cases z
     ·rw[dj e]at z;exact z)⟩
    generalize upd H3 wl (.lst us)=H4 at O4 kp4 ex4 w4 r4 no4⊢;have os:=I.so s' (aS _ (.head _));have SM:=sm _ B.rch hk;have hwt:=SM.wt;have hzs:=SM.ws;have hkk:k≤400000:=SM.k;simp only[gK,hV]at hwt hzs;have hl1:=sE (h:=0) (S:=S') λx hx=>I.so x (ag _ hx);have hl2:=km I.ro;have hl3:=d1.length;have hl4:=B.dr.length;have hdl:=I.dl;simp only at hl2 hl4 hdl;have hk':k≤F:=hk;have nxt:∀(st':oy)(P:List eK)(rs:List Rw)(H5:Hp),Fx bo F ⟨S'++[s'],R,k,ws1,rd⟩ st'→st'.S=S'++P→st'.R=R++rs→fm C D A bo F (λa=>N a∧a≠wl∧a≠rl) st'.k st'.ws st'.rd H5→GE (Nk A.tk) wl rl us rus P rs H5→Ex [wl,rl,A.op,A.lp,A.tk,A.yl] H4 H5→
      ∃m',m'<mu F t.size ⟨S'++[s'],R,k,ws1,rd⟩∧∃st wus rus,([some (.ref A.op),some u,some (.ref rl),some (.ref wl)]:St)=[some (.ref A.op),some u,some (.ref rl),some (.ref wl)]∧LH C D A bo F (λa=>N a∧a≠wl∧a≠rl) wl rl t ws H2 st wus rus H5∧m'=mu F t.size st:=by
     intro st' P rs H5 stp eS eR O5 aft ex5;obtain⟨⟨pus,w5,dp⟩,rvs,r5,dr5⟩:=aft;obtain⟨n4,f4,_⟩:=O4.fw;obtain⟨ys4,y4,_⟩:=O4.rdl;have kp5:Kp (Nk A.tk) H4 H5:=O4.kp ex5 (λa ha=>by
      simp only[aB,aF,or_false]at ha;rcases ha with rfl|rfl|rfl|rfl|z|rfl
      ·exact .inr (.inl ⟨_,w4⟩)
      ·exact .inr (.inl ⟨_,r4⟩)
      ·exact .inr (.inr ⟨_,_,_,O4.ob⟩)
      ·exact .inr (.inr ⟨_,_,_,f4.ob⟩)
      ·exact .inl z
      ·exact .inr (.inl ⟨_,y4⟩))
     have kp35:=kp4.trans kp5;have no5:ye A (λa=>N a∧a≠wl∧a≠rl) H5:=⟨no4.y,λa z=>no4.f a (by
      cases q:H4 a with
      | none=>rfl
      | some o=>
       exfalso;obtain⟨n5,f5,_⟩:=O5.fw;obtain⟨ys5,y5,_⟩:=O5.rdl;have:=ex5 a o (λw=>by
        simp only[aB,aF,or_false]at w;rcases w with rfl|rfl|rfl|rfl|rfl|rfl
        ·rw[w5]at z;cases z
        ·rw[r5]at z;cases z
        ·rw[O5.ob]at z;cases z
        ·rw[f5.ob]at z;cases z
        ·rw[f5.dk]at z;cases z
        ·rw[y5]at z;cases z) q
       rw[this]at z;cases z)⟩
     refine⟨_,IG bk stp I hk,st',us++pus,rus++rvs,rfl,⟨.step B.rch hk stp,O5,no5,w5,r5,?_,?_,B.ex.trans (ex4.trans ex5)⟩,rfl⟩
     ·rw[eS];exact(d1.mono λ_ _=>iU.mono kp35).append dp
     ·rw[eR];exact(B.dr.mono λ_ _=>je.mono kp35.tup).append dr5
    refine⟨A,bo,F,k,_,ws1,rd,wl,rl,us,rus,s',u1,_,⟨O4,d2.mono kp4,os,by lia,w4,r4,hne,nyw,nyr,λa z=>z.2.1,λa z=>z.2.2,by lia,by lia⟩,no4,by lia,by lia,by lia,λPs rs ws' H5 tkk O5 aft ex5=>?_,λs2 rd' ws' H5 opn O5 aft ex5=>?_⟩
    ·exact nxt _ Ps rs H5 (.take tkk) rfl rfl O5 aft (ex5.more (by simp only[aB,aF,or_false];rintro a (z|z|z|z)<;>simp[z]))
    ·exact nxt _ [s2] [] H5 (.opn opn) rfl (aZ _).symm O5 aft (ex5.more (by simp only[aB,aF,or_false];rintro a (z|z|z|z|z)<;>simp[z]))
   ·refine eN (decide_eq_false (by lia)) ?_;exact(done λz=>absurd z hk)
theorem K9(ha:H a=some (.tup xs))(hb:H b=some (.tup ys))(hl:xs.length+ys.length≤sizeLine)(k:∀r H',dz H H'→H' r=some (.tup (xs++ys))→Q (.ref r) H'):qT K (.ref a) (.ref b) H Q:=
 ⟨eD.of ha,eD.of hb,hl,λe=>k b H (dz.refl _) (by rw[e];exact hb),λ_ e=>k a H (dz.refl _) (by rw[e,aZ];exact ha),λ_ _ p hp=>k p _ (dX hp) dR⟩
def lN(N:Addr→Prop)(H:Hp)(w:T×List kj)(v:V):Prop:=∃p x l us,v=.ref p∧H p=some (.tup [x,.ref l])∧gN H w.1 x∧H l=some (.lst us)∧Al (kS H) w.2 us∧N l
theorem lN.mono(s:dz H H')(h:lN N H w v):lN N H' w v:=by obtain⟨p,x,l,us,e,h1,h2,h3,h4,h5⟩:=h;exact⟨p,x,l,us,e,s _ _ h1,h2.mono (dh s),s _ _ h3,h4.mono λ_ _=>kS.mono (dh s),h5⟩
theorem lN.weak(hN:∀l,N l→N' l)(h:lN N H w v):lN N' H w v:=by obtain⟨p,x,l,us,e,h1,h2,h3,h4,h5⟩:=h;exact⟨p,x,l,us,e,h1,h2,h3,h4,hN l h5⟩
theorem lN.put(hw:H wl=some (.lst xs))(h:lN (λl=>l≠wl) H w v):lN (λl=>l≠wl) (upd H wl o) w v:=by obtain⟨p,x,l,us,e,h1,h2,h3,h4,h5⟩:=h;exact⟨p,x,l,us,e,(fP hw) _ _ h1,h2.mono (fP hw),by rw[dj h5];exact h3,h4.mono λ_ _=>kS.mono (fP hw),h5⟩
theorem Iv(hl:ts.length=h.ar)(d:Al (gN H) ts us)(hq:H q=some (.tup (h.vs++us))):gN H (wV h ts) (.ref q):=by
 cases h with
 | num n=>match ts,hl with
  | [],_=>cases d;exact⟨q,rfl,hq⟩
 | name n=>match ts,hl with
  | [],_=>cases d;exact⟨q,rfl,hq⟩
 | sum=>match ts,hl with
  | [a,b],_=>cases d with|cons d1 d=>cases d with|cons d2 d=>cases d;exact⟨q,_,_,rfl,hq,d1,d2⟩
 | less=>match ts,hl with
  | [a,b],_=>cases d with|cons d1 d=>cases d with|cons d2 d=>cases d;exact⟨q,_,_,rfl,hq,d1,d2⟩
 | cho=>match ts,hl with
  | [a,b,c],_=>cases d with|cons d1 d=>cases d with|cons d2 d=>cases d with|cons d3 d=>cases d;exact⟨q,_,_,_,rfl,hq,d1,d2,d3⟩
 | lt w=>match ts,hl with
  | [a,b],_=>cases d with|cons d1 d=>cases d with|cons d2 d=>cases d;exact⟨q,_,_,rfl,hq,d1,d2⟩
def Lt(m:Nat)(n z:Nat):Prop:=n<m
theorem zr{α:Type}{l:List α}{i:Nat}{x:α}(hi:i<l.length)(hx:l[l.length-1-i]?=some x):l.drop (l.length-(i+1))=x::l.drop (l.length-i):=by
 obtain⟨h1,h2⟩:=aN.mp hx;have e:l.length-(i+1)=l.length-1-i:=by lia
 rw[e,bN h1,h2]
 congr 2
 lia
def EB:Sp:=λvs H Q _=>∃(N:Addr→Prop)(rl wl:Addr)(R:List Rw)(rus:List V)(W:List (T×List kj))(wus:List V),vs=[.ref rl,.ref wl]∧H rl=some (.lst rus)∧Al (je H) R rus∧H wl=some (.lst wus)∧Al (lN N H) W wus∧Bd R 1∧(∀r∈R,r.ok (Lt W.length))∧R.length≤9000000∧
 ∀(v:V)(t:T)(H':Hp),dz H H'→mQ (W.map Prod.fst) R=[t]→gN H' t v→Q v H'
def Gp(K:aA):TS:=(fG (jm K "list" ef (dQ 2) (dP (eC (eF K) (eC (gO K) (dQ 1) (eC (eF K) (dQ 3) (tC (.int 1)))) (tC (.int 0))) dZ)))
def Gn(K:aA):TS:=(fG (jm K "list" ef (dQ 4) (dP (mV K "list" mY (dQ 2)) dZ)))
def Ai(K:aA):TS:=(dq (eG (fX dZ) (db 4)) (dq (iF (eL (eC zP (iB (gT K) (dP (dQ 4) dZ)) (eC (eF K) (dQ 3) (tC (.int 2))))) (Gn K)) (fG (jm K "list" ef (dQ 2) (dP (eC (qT K) (eC (eF K) (dQ 3) (tC (.int 1))) (iB (nP K) (dP (dQ 4) dZ))) dZ)))))
def Gm(K:aA):TS:=(fj (eL (eC kN (eC (eF K) (dQ 3) (tC (.int 0))) (tC (.str "ready")))) (Gp K) (Ai K))
def ME(K:aA):TS:=(dq (eG (fX dZ) (db 2)) (dq (iP (CV K (dQ 0)) (db 3) (Gm K)) (fY (mV K "list" mY (dQ 2)))))
theorem Oo(h:Hd):h.ar≤3:=by cases h<;>simp[Hd.ar]
theorem M8(h:Hd):h.vs.length≤2:=by cases h<;>simp[Hd.vs]
def OP(rl wl ml p il:Addr)(h:Hd)(m:List T)(H₀ H:Hp)(mm:Nat)(σ:St)(H':Hp):Prop:=∃(j:Nat)(us ius:List V),σ=[some (.ref rl),some (.ref wl),some (.ref ml),some (.ref p),some (.ref il)]∧j≤h.ar∧dz H₀ H'∧fR H H'∧H' ml=some (.lst us)∧H' il=some (.lst ius)∧Al (gN H') (m.take j) ius∧Al (gN H') (m.drop j).reverse us∧mm=h.ar-j
theorem IN{rl wl ml p:Addr}{h:Hd}{src:Str}{path:List Nat}{m:List T}{mus:List V}{H₀:Hp}{j4:Option V}{Dd:iN}(s0:dz H₀ H)(nm:H₀ ml=none)(hr:je H (.row h src path) (.ref p))(hm:H ml=some (.lst mus))(dm:Al (gN H) m.reverse mus)(ha:h.ar≤m.length)(hz:m.length≤9000000)
  (k:∀(j4:Option V)(us:List V)(H':Hp),dz H₀ H'→H' ml=some (.lst us)→Al (gN H') (wV h (m.take h.ar)::m.drop h.ar).reverse us→Dd.nx [some (.ref rl),some (.ref wl),some (.ref ml),some (.ref p),j4] H'):
  Ai K Dd [some (.ref rl),some (.ref wl),some (.ref ml),some (.ref p),j4] H:=by
 obtain⟨p',hp,sx,e,hrow,hhd,hsx⟩:=hr;cases e;have har:=Oo h;refine⟨fM,λil hil=>?_⟩;have s1:dz H (upd H il (.lst [])):=dX hil;have i1:(upd H il (.lst [])) il=some (.lst []):=dR;have nim:il≠ml:=(de hm hil).symm;have hil0:H₀ il=none:=s0.free hil;generalize upd H il (.lst [])=H1 at s1 i1⊢;refine⟨OP rl wl ml p il h m H₀ H,
  ⟨_,0,mus,[],rfl,aU _,s0.trans s1,dh s1,s1 _ _ hm,i1,.nil,dm.mono λ_ _=>gN.mono (dh s1),rfl⟩,?_⟩
 rintro mm σ H2 ⟨j,us,ius,rfl,hj,s2,t2,m2,i2,di,du,rfl⟩;have hli:=di.length;rw[ah,bu (by lia)]at hli;have row2:=t2 _ _ hrow;refine⟨.inl (eJ.of i2),eD.of row2,dW (j:=2) rfl,_,rfl,?_⟩;by_cases hlt:j<h.ar
 ·refine fc (decide_eq_true (by lia)) ?_;refine⟨SW.Lt (OP rl wl ml p il h m H₀ H) (h.ar-j),λ_ _ z=>z,?_⟩;obtain⟨x,hx⟩:∃x,m[j]?=some x:=⟨m[j]'(by lia),aI _⟩;have hd:m.drop j=x::m.drop (j+1):=by obtain⟨h1,h2⟩:=aN.mp hx;rw[bN h1,h2]
  rw[hd,aq]at du;have hne:us≠[]:=λz=>by have:=du.length;rw[z]at this;simp at this
  obtain⟨us,u1,rfl⟩:=fz hne;obtain⟨bs,b,eb,d1,d2⟩:=du.snoc;obtain⟨rfl,rfl⟩:bs=(m.drop (j+1)).reverse∧b=x:=by have:=ck eb rfl;exact⟨this.1.symm,by simpa using this.2.symm⟩
  refine⟨.inl ⟨rfl,_,eJ.of i2⟩,.inl ⟨rfl,_,eJ.of m2⟩,m2,jN,?_⟩;rw[iX];have t3:fR H2 (upd H2 ml (.lst us)):=fP m2;have s3:dz H₀ (upd H2 ml (.lst us)):=eI s2 nm;have m3:(upd H2 ml (.lst us)) ml=some (.lst us):=dR;have i3:(upd H2 ml (.lst us)) il=some (.lst ius):=by rw[dj nim];exact i2
  generalize upd H2 ml (.lst us)=H3 at t3 s3 m3 i3⊢;refine⟨i3,by rw[sizeLine_eq];lia,?_⟩;have t4:fR H3 (upd H3 il (.lst (ius++[u1]))):=fP i3;refine⟨h.ar-(j+1),by lia,j+1,us,ius++[u1],rfl,hlt,eI s3 hil0,t2.trans (t3.trans t4),by rw[dj nim.symm];exact m3,dR,?_,d1.mono λ_ _=>gN.mono (t3.trans t4),rfl⟩;rw[ax,hx];exact(di.mono λ_ _=>gN.mono (t3.trans t4)).append (.one (d2.mono (t3.trans t4)))
 ·refine eN (decide_eq_false (by lia)) ?_;have ej:j=h.ar:=by lia
  subst ej;have hhd2:=t2 _ _ hhd;have hv2:=M8 h;refine⟨.inl ⟨rfl,_,eJ.of m2⟩,eD.of row2,dW (j:=1) rfl,il,_,rfl,.inl ⟨eJ.of i2,et λq H3 hq s3 g3=>?_⟩⟩;refine K9 (s3 _ _ hhd2) g3 (by rw[sizeLine_eq];lia) λr H4 s4 g4=>?_;have s24:=s3.trans s4;have m4:=s24 _ _ m2;have dul:=du.length;rw[bI,aj]at dul;refine⟨m4,by rw[sizeLine_eq];lia,?_⟩;have t5:fR H4 (upd H4 ml (.lst (us++[.ref r]))):=fP m4;refine k _ _ _ (eI (s2.trans s24) nm) dR ?_;rw[aq];refine((du.mono λ_ _=>gN.mono (dh s24)).mono λ_ _=>gN.mono t5).append (.one ?_);refine Iv (by rw[ah];lia) ((di.mono λ_ _=>gN.mono (dh s24)).mono λ_ _=>gN.mono t5) (t5 _ _ g4)
theorem Nz(h:EB vs H Q E):ME K (gr Q) (start ["rows","written","made","row","inner"] vs) H:=by
 obtain⟨N,rl,wl,R,rus,W,wus,rfl,hr,dr,hw,dw,bd,rok,hz,k⟩:=h;refine⟨fM,et λml H1 hml s1 m1=>?_⟩;have hrl:=dr.length;refine⟨eJ.of (s1 _ _ hr),?_⟩;refine vF (K:=K) (a:=rl) (xs:=rus) (λi σ H'=>∃(j3 j4:Option V)(mus:List V),σ=[some (.ref rl),some (.ref wl),some (.ref ml),j3,j4]∧dz H H'∧H' ml=some (.lst mus)∧Al (gN H') (mQ (W.map Prod.fst) (R.drop (R.length-i))).reverse mus)
  ⟨none,none,[],rfl,s1,m1,by rw[bi,List.drop_length];exact .nil⟩ (λi σ H' _ hP=>?_) ?_ ?_
 ·obtain⟨_,_,_,_,s,_⟩:=hP;exact eJ.of (s _ _ hr)
 ·rintro i y σ H2 hi hy ⟨j3,j4,mus,rfl,s2,m2,dm⟩;obtain⟨r,hrr,rat⟩:=dr.get hy;rw[hrl]at hrr hi;have hdr:=zr hi hrr;have rat:=rat.mono (dh s2);obtain⟨c,hbd⟩:∃c,Bd (R.drop (R.length-(i+1))) c:=yb (a:=R.take (R.length-(i+1))) (by rw[cI];exact bd);rw[hdr]at hbd;have hbl:∃c,Bd (R.drop (R.length-i)) (r.ar+c):=by
   cases hbd with
   | cons hb=>exact⟨_,hb⟩
  obtain⟨c,hbl⟩:=hbl;have hml2:=pf (W:=W.map Prod.fst) hbl;have hbz:(mQ (W.map Prod.fst) (R.drop (R.length-i))).length≤9000000:=by
   have:∀{b:List Rw}{c:Nat},Bd b c→c≤b.length:=λh=>by
    induction h with
    | nil=>exact aC _
    | cons _ ih=>rw[aE];lia
   have:=this hbl;rw[aj]at this;lia
  rw[hdr];cases r with
  | rdy n z=>
   obtain⟨p,rfl,hp⟩:=rat;have hn:n<W.length:=(rok _ (ac hrr)).2;obtain⟨w,hW⟩:∃w,W[n]?=some w:=⟨W[n],aI _⟩;obtain⟨v,hv,pw,xw,lw,usw,rfl,hpw,dxw,_⟩:=dw.getA hW;refine⟨eD.of hp,dW (j:=0) rfl,rfl,_,rfl,fc (by decide) ?_⟩;have dml:=dm.length;rw[bI]at dml;refine⟨.inl ⟨rfl,_,eJ.of m2⟩,eD.of hp,dW (j:=1) rfl,eJ.of (s2 _ _ hw),dW hv,eD.of (s2 _ _ hpw),dW (j:=0) rfl,m2,by rw[sizeLine_eq];lia,?_⟩;have t3:fR H2 (upd H2 ml (.lst (mus++[xw]))):=fP m2;refine⟨_,_,mus++[xw],rfl,eI s2 hml,dR,?_⟩;have eW:(W.map Prod.fst)[n]?.getD (.num 0)=w.1:=by rw[ae,hW];rfl
   simp only[mQ,zA,eW,aq];exact(dm.mono λ_ _=>gN.mono t3).append (.one ((dxw.mono (dh s2)).mono t3))
  | row h src path=>
   have rat0:=rat;obtain⟨p,hp,sx,rfl,hrow,hhd,hsx⟩:=rat;refine⟨eD.of hrow,dW (j:=0) rfl,rfl,_,rfl,eN (by decide) ?_⟩;have har:h.ar≤(mQ (W.map Prod.fst) (R.drop (R.length-i))).length:=by rw[hml2];simp only[Rw.ar];lia
   exact IN s2 hml rat0 m2 dm har (by lia) λj4 us H3 s3 m3 d3=>⟨_,_,us,rfl,s3,m3,by simp only[mQ,zA];exact d3⟩
 ·rintro σ H2 ⟨j3,j4,mus,rfl,s2,m2,dm⟩;rw[hrl,bJ,ai]at dm;have hl:=pf (W:=W.map Prod.fst) bd;obtain⟨t,ht⟩:=List.length_eq_one_iff.mp hl;rw[ht]at dm;cases dm with|cons d0 dn=>cases dn with|nil=>
  refine⟨.inl ⟨rfl,_,eJ.of m2⟩,m2,rfl,?_⟩;exact k _ t _ (eI s2 hml) ht (d0.mono (fP m2))
def NQ(W:List (T×List kj))(n z:Nat):Prop:=∃w,W[n]?=some w∧w.2.length≤z
def J1:Sp:=λvs H Q _=>∃(N:Addr→Prop)(rl wl:Addr)(R:List Rw)(rus:List V)(W:List (T×List kj))(wus:List V),vs=[.ref rl,.ref wl]∧H rl=some (.lst rus)∧Al (je H) R rus∧H wl=some (.lst wus)∧Al (lN N H) W wus∧(∀r∈R,r.ok (NQ W))∧lJ R≤9000000∧
 ∀(l:Addr)(us:List V)(H':Hp),dz H H'→H l=none→H' l=some (.lst us)→Al (kS H') (ie (W.map Prod.snd) R) us→Q (.ref l) H'
def Gc(K:aA):TS:=(fG (jm K "list" m8 (dQ 2) (dP (eC (eF K) (eC (gO K) (dQ 1) (eC (eF K) (dQ 3) (tC (.int 1)))) (tC (.int 1))) dZ)))
def Gb(K:aA):TS:=(fG (jm K "list" ef (dQ 2) (dP (eC (eF K) (dQ 3) (tC (.int 3))) dZ)))
def Ga(K:aA):TS:=(fj (eL (eC kN (eC (eF K) (dQ 3) (tC (.int 0))) (tC (.str "ready")))) (Gc K) (Gb K))
def MB(K:aA):TS:=(dq (eG (fX dZ) (db 2)) (dq (iP (i0 K (dQ 0)) (db 3) (Ga K)) (fY (dQ 2))))
theorem DO(R:List Rw)(i:Nat):lJ (R.take i)≤lJ R:=by have e:=mR (R.take i) (R.drop i);rw[cI]at e;lia
def Os(rl wl sl:Addr)(H:Hp)(W:List (T×List kj))(R:List Rw)(i:Nat)(σ:St)(H':Hp):Prop:=∃(j3:Option V)(sus:List V),σ=[some (.ref rl),some (.ref wl),some (.ref sl),j3]∧dz H H'∧H' sl=some (.lst sus)∧Al (kS H') (ie (W.map Prod.snd) (R.take i)) sus
theorem Nw(h:J1 vs H Q E):MB K (gr Q) (start ["rows","written","sources","row"] vs) H:=by
 obtain⟨N,rl,wl,R,rus,W,wus,rfl,hr,dr,hw,dw,rok,hz,k⟩:=h;refine⟨fM,et λsl H1 hsl s1 m1=>?_⟩;have hrl:=dr.length;have rokS:∀r∈R,r.ok (NP (W.map Prod.snd)):=λr h=>Rw.ok_mono (λn z ⟨w,e,l⟩=>⟨w.2,by rw[ae,e];rfl,l⟩) (rok r h);refine⟨eJ.of (s1 _ _ hr),?_⟩;refine gY (K:=K) (a:=rl) (xs:=rus) (Os rl wl sl H W R)
  ⟨none,[],rfl,s1,m1,.nil⟩ (λi σ H' _ hP=>?_) ?_ ?_
 ·obtain⟨_,_,_,s,_⟩:=hP;exact eJ.of (s _ _ hr)
 ·rintro i y σ H2 hi ⟨j3,sus,rfl,s2,m2,ds⟩;obtain⟨r,hrr,rat⟩:=dr.get hi;have rat:=rat.mono (dh s2);have htk:R.take (i+1)=R.take i++[r]:=by rw[ax,hrr];rfl
  have hsl1:=ds.length;have hsl2:=mx (W:=W.map Prod.snd) (b:=R.take (i+1)) λr h=>rokS r (dN h);have hsl3:=DO R (i+1);rw[htk,gu,aD]at hsl2;rw[htk]at hsl3;cases r with
  | rdy n z=>
   obtain⟨p,rfl,hp⟩:=rat;obtain⟨_,w,hW,hwl⟩:=rok _ (ac hrr);obtain⟨v,hv,pw,xw,lw,usw,rfl,hpw,dxw,hlw,dlw,_⟩:=dw.getA hW;have eW:(W.map Prod.snd)[n]?.getD []=w.2:=by rw[ae,hW];rfl
   have hdl:=dlw.length;simp only[ie,eW,aZ]at hsl2;refine⟨eD.of hp,dW (j:=0) rfl,rfl,_,rfl,fc (by decide) ?_⟩;refine⟨.inl ⟨rfl,_,eJ.of m2⟩,eD.of hp,dW (j:=1) rfl,eJ.of (s2 _ _ hw),dW hv,eD.of (s2 _ _ hpw),dW (j:=1) rfl,sl,lw,_,_,rfl,rfl,m2,s2 _ _ hlw,by rw[sizeLine_eq];lia,?_⟩;have t3:fR H2 (upd H2 sl (.lst (sus++usw))):=fP m2;exact⟨_,sus++usw,rfl,eI s2 hsl,dR,by rw[htk,gu];simp only[ie,eW,aZ];exact(ds.mono λ_ _=>kS.mono t3).append ((dlw.mono λ_ _=>kS.mono (dh s2)).mono λ_ _=>kS.mono t3)⟩
  | row h src path=>obtain⟨p,hp,sx,rfl,hrow,hhd,hsx⟩:=rat;simp only[ie]at hsl2;refine⟨eD.of hrow,dW (j:=0) rfl,rfl,_,rfl,eN (by decide) ?_⟩;refine⟨.inl ⟨rfl,_,eJ.of m2⟩,eD.of hrow,dW (j:=3) rfl,m2,by rw[sizeLine_eq];lia,?_⟩;have t3:fR H2 (upd H2 sl (.lst (sus++[sx]))):=fP m2;exact⟨_,sus++[sx],rfl,eI s2 hsl,dR,by rw[htk,gu];simp only[ie];exact(ds.mono λ_ _=>kS.mono t3).append (.one (hsx.mono t3))⟩
 ·rintro σ H2 ⟨j3,sus,rfl,s2,m2,ds⟩;rw[hrl,bG]at ds;exact(k sl sus H2 s2 hsl m2 ds)
def vo:Sp:=λvs H Q _=>∃(N:Addr→Prop)(rl wl:Addr)(R:List Rw)(rus:List V)(W:List (T×List kj))(wus:List V),vs=[.ref rl,.ref wl]∧H rl=some (.lst rus)∧Al (je H) R rus∧H wl=some (.lst wus)∧Al (lN N H) W wus∧Bd R 1∧(∀r∈R,r.ok (NQ W))∧lJ R≤9000000∧
 ∀(u:V)(t:T)(H':Hp),dz H H'→mQ (W.map Prod.fst) R=[t]→lN (λl=>H l=none) H' (t,ie (W.map Prod.snd) R) u→Q u H'
def Lz(K:aA):TS:=(fY (fS (dP (eY EB [] E0 (dP (dQ 0) (dP (dQ 1) dZ))) (dP (eY J1 [] E0 (dP (dQ 0) (dP (dQ 1) dZ))) dZ))))
theorem Ni(h:vo vs H Q E):Lz K (gr Q) (start ["rows","written"] vs) H:=by obtain⟨N,rl,wl,R,rus,W,wus,rfl,hr,dr,hw,dw,bd,rok,hz,k⟩:=h;have hlen:=km rok;refine⟨N,rl,wl,R,rus,W,wus,rfl,hr,dr,hw,dw,bd,λr h=>Rw.ok_mono (λn z ⟨w,e,_⟩=>(aN.mp e).1) (rok r h),by lia,λv t H1 s1 hb dv=>?_⟩;refine⟨N,rl,wl,R,rus,W,wus,rfl,s1 _ _ hr,dr.mono λ_ _=>je.mono (dh s1),s1 _ _ hw,dw.mono λ_ _=>lN.mono s1,rok,hz,λl us H2 s2 n2 hl ds=>⟨fM,λp hp=>?_⟩⟩;have s3:=dX (o:=.tup [v,.ref l]) hp;exact k _ t _ ((s1.trans s2).trans s3) hb ⟨p,v,l,us,rfl,dR,dv.mono (dh (s2.trans s3)),s3 _ _ hl,ds.mono λ_ _=>kS.mono (dh s3),s1.free n2⟩
inductive nV:List (List Rw)→List (T×List kj)→Prop where
 | nil:nV [] []
 | snoc{rd:List (List Rw)}{W:List (T×List kj)}{R:List Rw}{t:T}:nV rd W→mQ (W.map Prod.fst) R=[t]→nV (rd++[R]) (W++[(t,ie (W.map Prod.snd) R)])
theorem oY.front(h:oY (rd++[R])):oY rd∧Bd R 1∧∀r∈R,r.ok (Rf rd):=by
 refine⟨λi R' e=>?_,?_⟩
 ·have hi:i<rd.length:=(aN.mp e).1;have:=h i R' (by rw[bB hi];exact e);rw[dM (bO hi)]at this;exact this
 ·have:=h rd.length R (by simp);rw[cj]at this;exact this
structure C3(rd:List (List Rw))(W:List (T×List kj)):Prop where
 len:W.length=rd.length
 all:∀(i:Nat)(R:List Rw)(w:T×List kj),rd[i]?=some R→W[i]?=some w→w.1.size≤lJ R∧w.2.length≤lJ R∧¬oX w.1
theorem C3.rf(f:C3 rd W):∀n z,Rf rd n z→NQ W n z∧OM (W.map Prod.fst) n z∧NP (W.map Prod.snd) n z:=by
 rintro n z ⟨R,e,h⟩;have hn:n<rd.length:=(aN.mp e).1;have hn2:n<W.length:=by rw[f.len];exact hn
 have eW:W[n]?=some W[n]:=aI hn2;generalize W[n]=w at eW;obtain⟨h1,h2,h3⟩:=f.all n R w e eW;exact⟨⟨w,eW,by lia⟩,⟨w.1,by rw[ae,eW];rfl,by lia,h3⟩,⟨w.2,by rw[ae,eW];rfl,by lia⟩⟩
theorem C3.one(f:C3 rd W)(bd:Bd R 1)(ok:∀r∈R,r.ok (Rf rd))(hb:mQ (W.map Prod.fst) R=[t]):t.size≤lJ R∧(ie (W.map Prod.snd) R).length≤lJ R∧¬oX t:=by obtain⟨h1,h2⟩:=vN bd (λr h=>Rw.ok_mono (λn z q=>(f.rf n z q).2.1) (ok r h));rw[hb]at h1 h2;refine⟨?_,mx λr h=>Rw.ok_mono (λn z q=>(f.rf n z q).2.2) (ok r h),h2 t (.head _)⟩;rw[gA,jK]at h1;lia
theorem qz(h:nV rd W):oY rd→C3 rd W:=by
 induction h with
 | nil=>exact λ_=>⟨rfl,λi R w e=>by simp at e⟩
 | @snoc rd W R t _ hb ih=>
  intro ok;obtain⟨ok1,bd,ro⟩:=ok.front;have f:=ih ok1;have g:=f.one bd ro hb;refine⟨by simp[f.len],λi R' w e1 e2=>?_⟩;rcases bM i rd.length with hi|hi
  ·rw[bB hi]at e1;rw[bB (by rw[f.len];exact hi)]at e2;exact f.all i R' w e1 e2
  ·have hi2:i<(rd++[R]).length:=(aN.mp e1).1;rw[aD,aw]at hi2;have ei:i=rd.length:=by lia
   subst ei;rw[bL (aC _),bJ]at e1;rw[←f.len,bL (aC _),bJ]at e2;cases e1;cases e2;exact g
def BH(C D:Addr):Sp:=λvs H Q _=>∃(op dx b:Addr)(v1 v2 v3 u:V)(bo:Bo)(t:T)(F:Nat),vs=[.ref op,.ref b,u,.int (F:Int)]∧H op=some (.ins C dx [])∧H b=some (.lst [v1,v2,v3])∧vX H v1 v2 v3 bo∧gN H t u∧(∀y∈[t,bo.x,bo.y,bo.z],y.size≤900∧y.names.length<64)∧
 ∀(A:Ad)(ws:List Str)(H':Hp),A.op=op→fm C D A bo F (λa=>a≠A.yl) 0 ws [] H'→H A.lp=none→H A.tk=none→H A.yl=none→(∀x,x∈ws↔∃y∈[t,bo.x,bo.y,bo.z],y.out x)→ws.length≤252→Ex [op] H H'→Q .non H'
def MG(K:aA)(a_Opening a_FreshWords:Addr):TS:=(dq (uh K (dQ 0) (eY kW [] E0 (dP (dQ 1) dZ)) "stamps") (dq (uh K (dQ 0) (uY a_FreshWords (x6 a_FreshWords) [] E0 (dP (eY x8 [] E0 (dP (dQ 1) (dP (dQ 2) dZ))) dZ)) "lets") (dq (uh K (dQ 0) (dQ 3) "fuel") (dq (uh K (dQ 0) (tC (.int 0)) "many") (uh K (dQ 0) (fX dZ) "ready")))))
def Ld(sd:Addr):List (Str×V):=[("stamps",.ref sd)]
def Fk(sd lp:Addr):List (Str×V):=[("stamps",.ref sd),("lets",.ref lp)]
def Fj(sd lp:Addr)(F:Nat):List (Str×V):=[("stamps",.ref sd),("lets",.ref lp),("fuel",.int (F:Int))]
def Fi(sd lp:Addr)(F:Nat):List (Str×V):=[("stamps",.ref sd),("lets",.ref lp),("fuel",.int (F:Int)),("many",.int 0)]
theorem Oi:iM "lets" (.ref lp) (Ld sd)=Fk sd lp:=by simp only[Ld,Fk,iM,if_neg (show ¬("stamps":Str)="lets" by decide)]
theorem Oh{sd lp:Addr}{F:Nat}:iM "fuel" (.int (F:Int)) (Fk sd lp)=Fj sd lp F:=by simp only[Fk,Fj,iM,if_neg (show ¬("stamps":Str)="fuel" by decide),if_neg (show ¬("lets":Str)="fuel" by decide)]
theorem Og:iM "many" (.int 0) (Fj sd lp F)=Fi sd lp F:=by simp only[Fj,Fi,iM,if_neg OG,if_neg OH,if_neg OI]
theorem Of:iM "ready" (.ref yl) (Fi sd lp F)=mG sd lp F 0 yl:=by simp only[iM,Fi,mG,if_neg (show ¬("stamps":Str)="ready" by decide),if_neg (show ¬("lets":Str)="ready" by decide),if_neg (show ¬("fuel":Str)="ready" by decide),if_neg (show ¬("many":Str)="ready" by decide)];rfl
theorem N1(ro:RO K C)(h:BH C D vs H Q E):MG K C D (gr Q) (start ["self","book","piece","fuel"] vs) H:=by
 obtain⟨op,dx,b,v1,v2,v3,u,bo,t,F,rfl,ho,hb,bk,hd,hs,k⟩:=h;refine⟨b,v1,v2,v3,_,_,_,rfl,hb,bk.g,λsd H1 s1 n1 g1=>?_⟩;refine⟨op,C,dx,[],rfl,s1 _ _ ho,ro.cl,ro.nS,by show 0<1000;decide,?_⟩;have nos:op≠sd:=de ho n1;have o2:(upd H1 op (.ins C dx (iM "stamps" (.ref sd) []))) op=some (.ins C dx (Ld sd)):=dR;have e2:Ex [op] H1 (upd H1 op (.ins C dx (iM "stamps" (.ref sd) []))):=Ex.upd (by simp);generalize upd H1 op (.ins C dx (iM "stamps" (.ref sd) []))=H2 at o2 e2⊢;have e02:Ex [op] H H2:=(Ex.same s1).trans e2;have bk2:vX H2 v1 v2 v3 bo:=by
  have st:∀{w:Str}{ps:List Str}{g:G}{v:V},kC H w ps g v→kC H2 w ps g v:=λ{w ps g v} ⟨p,l,x,e,h1,h2,h3⟩=>
   ⟨p,l,x,e,e02 _ _ (λq=>by rw[aG]at q;subst q;rw[ho]at h1;cases h1) h1,e02 _ _ (λq=>by rw[aG]at q;subst q;rw[ho]at h2;cases h2) h2,h3.mono λa xs z=>e02 _ _ (λq=>by rw[aG]at q;subst q;rw[ho]at z;cases z) z⟩
  exact⟨st bk.a,st bk.b,st bk.c⟩
 have hb2:H2 b=some (.lst [v1,v2,v3]):=e02 _ _ (λq=>by rw[aG]at q;subst q;rw[ho]at hb;cases hb) hb;have hd2:gN H2 t u:=hd.mono λa xs z=>e02 _ _ (λq=>by rw[aG]at q;subst q;rw[ho]at z;cases z) z;have g2:H2 sd=some (.dK (zd v1 v2 v3)):=e2 _ _ (λq=>nos (aG.mp q).symm) g1;refine⟨b,v1,v2,v3,u,bo,t,rfl,hb2,bk2,hd2,hs,λl us H3 s3 n3 g3 hlen hus=>?_⟩;intro lp lx hlp hlx nlx;have nlx':lp≠lx:=nlx.symm;have s4:dz H3 (upd (upd H3 lx (.own lp)) lp (.ins D lx [])):=λc o z=>by rw[dj (de z hlp),dj (de z hlx)];exact z
 have p4:(upd (upd H3 lx (.own lp)) lp (.ins D lx [])) lp=some (.ins D lx []):=dR;generalize upd (upd H3 lx (.own lp)) lp (.ins D lx [])=H4 at s4 p4⊢;refine⟨lp,lx,l,us,rfl,p4,s4 _ _ g3,by lia,λtk ws H5 ntk hws hwl e5 fw5=>⟨rfl,?_⟩⟩;have s24:=s3.trans s4;have nlp2:H2 lp=none:=s3.free hlp;have ntk2:H2 tk=none:=s24.free ntk;have e25:Ex [lp] H2 H5:=λc o n z=>e5 _ _ (λq=>n (by rw[q];simp)) (s24 _ _ z);have nop:op≠lp:=de o2 nlp2;have o5:H5 op=some (.ins C dx (Ld sd)):=e25 _ _ (by simp[nop]) o2;refine⟨op,C,dx,_,rfl,o5,ro.cl,ro.nL,by show 1<1000;decide,?_⟩;rw[Oi];have o6:(upd H5 op (.ins C dx (Fk sd lp))) op=some (.ins C dx (Fk sd lp)):=dR;have e6:Ex [op] H5 (upd H5 op (.ins C dx (Fk sd lp))):=Ex.upd (by simp);generalize upd H5 op (.ins C dx (Fk sd lp))=H6 at o6 e6⊢;refine⟨op,C,dx,_,rfl,o6,ro.cl,ro.nF,by show 2<1000;decide,?_⟩;rw[Oh];have o7:(upd H6 op (.ins C dx (Fj sd lp F))) op=some (.ins C dx (Fj sd lp F)):=dR;have e7:Ex [op] H6 (upd H6 op (.ins C dx (Fj sd lp F))):=Ex.upd (by simp);generalize upd H6 op (.ins C dx (Fj sd lp F))=H7 at o7 e7⊢;refine⟨op,C,dx,_,rfl,o7,ro.cl,ro.nM,by show 3<1000;decide,?_⟩;rw[Og];have o8:(upd H7 op (.ins C dx (Fi sd lp F))) op=some (.ins C dx (Fi sd lp F)):=dR;have e8:Ex [op] H7 (upd H7 op (.ins C dx (Fi sd lp F))):=Ex.upd (by simp);generalize upd H7 op (.ins C dx (Fi sd lp F))=H8 at o8 e8⊢;refine⟨fM,λyl hyl=>⟨op,C,dx,_,rfl,(dX hyl) _ _ o8,ro.cl,ro.nR,by show 4<1000;decide,?_⟩⟩;have s9:dz H8 (upd H8 yl (.lst [])):=dX hyl;have y9:(upd H8 yl (.lst [])) yl=some (.lst []):=dR;have o9:=s9 _ _ o8;generalize upd H8 yl (.lst [])=H9 at s9 y9 o9⊢;rw[Of];have e10:Ex [op] H9 (upd H9 op (.ins C dx (mG sd lp F 0 yl))):=Ex.upd (by simp);have o10:(upd H9 op (.ins C dx (mG sd lp F 0 yl))) op=some (.ins C dx (mG sd lp F 0 yl)):=dR;have noy:yl≠op:=(de o8 hyl).symm;have y10:(upd H9 op (.ins C dx (mG sd lp F 0 yl))) yl=some (.lst []):=e10 _ _ (by simp[noy]) y9;generalize upd H9 op (.ins C dx (mG sd lp F 0 yl))=H10 at e10 o10 y10⊢;have e510:Ex [op] H5 H10:=e6.trans (e7.trans (e8.trans ((Ex.same s9).trans e10)));have e210:Ex [op,lp] H2 H10:=(e25.more (by simp)).trans (e510.more (by simp));have ns:∀a o,H2 a=some o→a≠op→H10 a=some o:=λa o z n=>e210 _ _ (by simp[n,de z nlp2]) z;have nyl2:H2 yl=none:=by
  cases q:H2 yl with
  | none=>rfl
  | some o=>have:=ns yl o q noy;rw[y10]at this;cases this;have h5:H5 yl=some (.lst []):=e25 _ _ (by simp[de q nlp2]) q;have h8:H8 yl=some (.lst []):=(e6.trans (e7.trans e8)) _ _ (by simp[noy]) h5;rw[h8]at hyl;cases hyl
 have nOf:∀a,H2 a=none→H a=none:=λa z=>by
  cases q:H a with
  | none=>rfl
  | some o=>
   by_cases ha:a=op
   ·subst ha;rw[o2]at z;cases z
   ·have:=e02 a o (by simp[ha]) q;rw[this]at z;cases z
 have stn:∀{w:Str}{ps:List Str}{tt:T}{v:V},kC H w ps (gm tt) v→C8 (λa=>a≠yl) H10 w ps tt v:=λ{w ps tt v} ⟨p,l,x,e,h1,h2,h3⟩=>by have toH:∀a o,H a=some o→a≠op→H10 a=some o:=λa o z n=>ns a o (e02 _ _ (by simp[n]) z) n;refine⟨p,l,x,e,toH _ _ h1 (fF h1 ho (by intro z;cases z)),toH _ _ h2 (fF h2 ho (by intro z;cases z)),de h2 (nOf _ nyl2),(iH h3).mono λa xs z=>toH _ _ z (fF z ho (by intro z;cases z))⟩
 have ntp:tk≠op:=(de o2 ntk2).symm;refine k ⟨op,dx,sd,lp,lx,tk,yl,v1,v2,v3⟩ ws H10 rfl ⟨o10,⟨0,⟨e510 _ _ (by simp[nop.symm]) fw5.ob,e510 _ _ (by simp[ntp]) fw5.dk⟩,?_⟩,ns _ _ g2 nos.symm,de g2 ntk2,stn bk.a,stn bk.b,stn bk.c,[],y10,.nil⟩ (nOf _ nlp2) (nOf _ ntk2) (nOf _ nyl2) (λx=>by rw[hws,hus]) (by lia) ?_
 ·have:=yX 0 ws;lia
 ·refine e02.trans (Ex.new (l':=[op,lp]) (λa ha=>?_) e210);simp only[aB,aF,or_false]at ha⊢;rcases ha with z|rfl
  ·exact .inl z
  ·exact .inr nlp2
end S9
namespace S9
open PySem L2 SW
variable {K:aA}{vs:List V}{H:Hp}{Q:VK}{E:XK}{C D Nst:Addr}
structure yg(bo:Bo)(t:T)(F:Nat):Prop where
 bk:uK bo
 bt:BT t [] 0
 sm:∀ws:List Str,ws.length≤252→(∀x,x∈ws↔∃y∈[t,bo.x,bo.y,bo.z],y.out x)→∀st,uM bo F (st0 t ws) st→st.k≤F→Cz st
structure yf(bo:Bo)(t:T)(F:Nat)(ws:List Str)(st:oy)(W:List (T×List kj))(tt:T):Prop where
 ws_:∀x,x∈ws↔∃y∈[t,bo.x,bo.y,bo.z],y.out x
 wl:ws.length≤252
 rch:uM bo F (st0 t ws) st
 emp:st.S=[]
 few:st.k≤F
 wr:nV st.rd W
 out:mQ (W.map Prod.fst) st.R=[tt]
def Do:TS:=(fY (fS (dP (tC (.str "more")) dZ)))
def Dn(K:aA):TS:=(fj (eL (eC pA (kT K (dQ 3) "many") (dQ 2))) Do fU)
def Dm(K:aA):TS:=(fG (jm K "list" ef (dQ 5) (dP (eY vo [] E0 (dP (dQ 6) (dP (dQ 5) dZ))) dZ)))
def O0(b:Addr)(u:V)(F:Nat)(op rl wl:Addr)(H7:Hp)(st:oy)(i:Nat)(σ:St)(H':Hp):Prop:=∃(j6:Option V)(W:List (T×List kj))(wus:List V),σ=[some (.ref b),some u,some (.int (F:Int)),some (.ref op),some (.ref rl),some (.ref wl),j6,none]∧dz H7 H'∧H' wl=some (.lst wus)∧Al (lN (λl=>l≠wl) H') W wus∧nV (st.rd.take i) W
theorem wG(ro:RO K C)(hb:H b=some (.lst [v1,v2,v3]))(B:vX H v1 v2 v3 bo)(dg:DG H (gm t) u)(ask:yg bo t F)
  (kM:∀(p:Addr)(ws:List Str)(st:oy)(H':Hp),dz H H'→H' p=some (.tup [.str "more"])→(∀x,x∈ws↔∃y∈[t,bo.x,bo.y,bo.z],y.out x)→uM bo F (st0 t ws) st→F<st.k→Q (.ref p) H')
  (kD:∀(p l:Addr)(x:V)(us:List V)(ws:List Str)(st:oy)(W:List (T×List kj))(tt:T)(H':Hp),dz H H'→H' p=some (.tup [.str "done",x,.ref l,.int (st.k:Int)])→yf bo t F ws st W tt→gN H' tt x→H' l=some (.lst us)→Al (kS H') (ie (W.map Prod.snd) st.R) us→Q (.ref p) H'):
  (dq (eG (uY C (BH C D) [] E0 (dP (dQ 0) (dP (dQ 1) (dP (dQ 2) dZ)))) (db 3)) (dq (eG (kG C "rows_of" (my C D) [] E0 (dQ 3) (dP (fS (dP (dQ 1) (dP (tC (.str "")) (dP (fS dZ) (dP i8 dZ))))) dZ)) (db 4)) (dq (Dn K) (dq (eG (fX dZ) (db 5)) (dq (iP (i0 K (kT K (dQ 3) "ready")) (db 6) (Dm K)) (dq (eG (eY vo [] E0 (dP (dQ 4) (dP (dQ 5) dZ))) (db 7)) (fY (fS (dP (tC (.str "done")) (dP (eC (eF K) (dQ 7) (tC (.int 0))) (dP (eC (eF K) (dQ 7) (tC (.int 1))) (dP (kT K (dQ 3) "many") dZ)))))))))))) (gr Q) [some (.ref b),some u,some (.int (F:Int)),none,none,none,none,none] H:=by
 have hz:∀y∈[t,bo.x,bo.y,bo.z],y.size≤900∧y.names.length<64:=λy hy=>by
  simp only[aB,aF,or_false]at hy;rcases hy with rfl|rfl|rfl|rfl
  ·exact ask.bt.2.2.2
  ·exact ask.bk.a.2.2.2
  ·exact ask.bk.b.2.2.2
  ·exact ask.bk.c.2.2.2
 refine ?_;intro op dx hop hdx ndx;have s2:dz H (upd (upd H dx (.own op)) op (.ins C dx [])):=λc o z=>by rw[dj (de z hop),dj (de z hdx)];exact z
 have p2:(upd (upd H dx (.own op)) op (.ins C dx [])) op=some (.ins C dx []):=dR;generalize upd (upd H dx (.own op)) op (.ins C dx [])=H2 at s2 p2⊢;have s12:=s2;have BT2:=B.mono s2;have du:gN H2 t u:=(iH dg).mono (dh s12);have nopH:H op=none:=hop;refine⟨op,dx,b,v1,v2,v3,u,bo,t,F,rfl,p2,s12 _ _ hb,BT2,du,hz,λA ws H3 eop O3 nlp ntk nyl hws hwl e3=>⟨rfl,?_⟩⟩;have s13:dz H H3:=λc o z=>e3 _ _ (λq=>by rw[aG]at q;subst q;rw[nopH]at z;cases z) (s12 _ _ z);have du3:gN H3 t u:=(iH dg).mono (dh s13);have ob3:=O3.ob;rw[eop]at ob3;refine⟨ob3,nH,fM,et λte H4 hte s4 g4=>?_⟩;intro nd hnd;have s5:=dX (o:=.dK []) hnd;have g5:(upd H4 nd (.dK [])) nd=some (.dK []):=dR;generalize upd H4 nd (.dK [])=H5 at s5 g5⊢;refine⟨fM,et λsp H6 hsp s6 g6=>?_⟩;have s36:=s4.trans (s5.trans s6);have O6:=O3.same s36;have ndt:nd≠A.tk:=by obtain⟨n,f,_⟩:=O3.fw;exact(de (s4 _ _ f.dk) hnd).symm
 have spm:iU (Nk A.tk) H6 ⟨t,"",[],.nil⟩ (.ref sp):=⟨sp,u,te,nd,[],rfl,g6,du3.mono (dh s36),s6 _ _ (s5 _ _ g4),ndt,s6 _ _ g5,rfl⟩;have no6:ye A (λa=>a≠A.yl) H6:=⟨λa z=>z,λa z=>by
  obtain⟨us,y,_⟩:=O6.yl;exact(de y z).symm⟩
 refine BX (.mk A bo F _ ws t (.ref sp) O6 no6 spm ask.bk ask.bt (λst r k=>ask.sm ws hwl hws st r k) λst rl rus H7 rch hst nrl hrl dr O7 e7=>?_) (by rw[eop];rfl);have s17:dz H H7:=λc o z=>e7 _ _ (λq=>by
  simp only[aB,aF,or_false]at q;have z2:=s12 _ _ z;rcases q with rfl|rfl|rfl|rfl
  ·rw[eop,nopH]at z;cases z
  ·rw[nlp]at z2;cases z2
  ·rw[ntk]at z2;cases z2
  ·rw[nyl]at z2;cases z2) ((s13.trans s36) _ _ z)
 have ob7:=O7.ob;rw[eop]at ob7;refine⟨ob7,ro.cl,ro.nM,mH,_,rfl,?_⟩;by_cases hk:F<st.k
 ·refine fc (decide_eq_true (by lia)) ?_;refine⟨fM,λp hp=>?_⟩;have s8:=dX (o:=.tup [.str "more"]) hp;exact kM p ws st _ (s17.trans s8) dR hws rch hk
 ·refine eN (decide_eq_false (by lia)) ?_;have hk':st.k≤F:=by lia
  have hS:=hst hk';have I:=pO ask.bk rch (ki (ws:=ws) ask.bt);have SM:=ask.sm ws hwl hws st rch hk';have rdok:=I.rk hk';have bdR:Bd st.R 1:=by have:=I.pn;rw[hS]at this;have:=Ff this .nil;rwa[aZ]at this
  have hwl0:=hwl;refine⟨fM,et λwl H8 hwl s8 w8=>?_⟩;obtain⟨us,y7,dus⟩:=O7.yl;have hul:=dus.length;have hdl:=I.dl;have hfl:=SM.k;refine⟨s8 _ _ ob7,ro.cl,ro.nR,qW,eJ.of (s8 _ _ y7),?_⟩;refine gY (K:=K) (a:=A.yl) (xs:=us) (O0 b u F op rl wl H7 st)
   ⟨none,[],[],rfl,s8,w8,.nil,.nil⟩ (λi σ H' _ hP=>?_) ?_ ?_
  ·obtain⟨_,_,_,_,s,_⟩:=hP;exact eJ.of (s _ _ y7)
  ·rintro i y σ H9 hi ⟨j6,W,wus,rfl,s9,w9,dw9,wr9⟩;obtain⟨R,hR,l,rvs,rfl,_,hl,drl⟩:=dus.get hi;have hil:i<st.rd.length:=(aN.mp hR).1;have htk:st.rd.take (i+1)=st.rd.take i++[R]:=by rw[ax,hR];rfl
   have rk2:oY (st.rd.take i++[R]):=by
    rw[←htk];intro j R' e;have hj:j<i+1:=by have:=(aN.mp e).1;rw[ah]at this;lia
    rw[c3 hj]at e;rw[List.take_take,bu (by lia)];exact rdok j R' e
   obtain⟨rk1,bdr,okr⟩:=rk2.front;have fine:=qz wr9 rk1;have hwt:=SM.rd R (ac hR);have hWl:=fine.len;rw[ah]at hWl;have hwul:=dw9.length;refine⟨.inl ⟨rfl,_,eJ.of w9⟩,_,l,wl,R,rvs,W,wus,rfl,s9 _ _ hl,drl.mono λ_ _=>je.mono (dh s9),w9,dw9,bdr,λr h=>Rw.ok_mono (λn z q=>(fine.rf n z q).1) (okr r h),by lia,λv tt H10 s10 hb10 wat=>?_⟩;have w10:=s10 _ _ w9;refine⟨w10,by rw[sizeLine_eq];lia,?_⟩;have wat2:lN (λl=>l≠wl) H10 (tt,ie (W.map Prod.snd) R) v:=wat.weak λl z=>(de w9 z).symm;refine⟨_,W++[(tt,ie (W.map Prod.snd) R)],wus++[v],rfl,eI (s9.trans s10) hwl,dR,((dw9.mono λ_ _=>lN.mono s10).mono λ_ _=>lN.put w10).append (.one (wat2.put w10)),?_⟩;rw[htk];exact .snoc wr9 hb10
  ·rintro σ H9 ⟨j6,W,wus,rfl,s9,w9,dw9,wr9⟩;rw[hul,bG]at wr9;have fine:=qz wr9 rdok;have hwt:=SM.wt;refine⟨_,rl,wl,st.R,rus,W,wus,rfl,s9 _ _ hrl,dr.mono λ_ _=>je.mono (dh s9),w9,dw9,bdR,λr h=>Rw.ok_mono (λn z q=>(fine.rf n z q).1) (I.ro r h),by lia,λv tt H10 s10 hb10 wat=>?_⟩;obtain⟨pq,x,l,us2,rfl,h1,h2,h3,h4,_⟩:=wat;have ob10:=s10 _ _ (s9 _ _ ob7);refine⟨eD.of h1,dW (j:=0) rfl,eD.of h1,dW (j:=1) rfl,ob10,ro.cl,ro.nM,mH,fM,λp hp=>?_⟩;have s11:=dX (o:=.tup [.str "done",x,.ref l,.int (st.k:Int)]) hp;exact kD p l x us2 ws st W tt _ (((s17.trans s9).trans s10).trans s11) dR ⟨hws,hwl0,rch,hS,hk',wr9,hb10⟩ (h2.mono (dh s11)) (s11 _ _ h3) (h4.mono λ_ _=>kS.mono (dh s11))
end S9
namespace S9
open PySem L2 SW
variable {K:aA}{vs:List V}{H:Hp}{Q:VK}{E:XK}{N:Addr}
def sT:Sp:=λvs H Q _=>∃d v1 v2 v3 g1 g2 g3 w ks u,vs=[.ref d,u]∧H d=some (.dK (zd v1 v2 v3))∧Bk H v1 v2 v3 g1 g2 g3∧DG H (.word "stamp" w ks) u∧lB w=some ks.length∧∀H',dz H H'→Q .non H'
def qM:Sp:=λvs H Q _=>∃d v1 v2 v3 g1 g2 g3 g u,vs=[.ref d,u]∧H d=some (.dK (zd v1 v2 v3))∧Bk H v1 v2 v3 g1 g2 g3∧DG H g u∧g.size≤5000∧(∀x,xH x g→Ji x)∧∀H',dz H H'→Q .non H'
def sZ:Sp:=λvs H Q _=>∃b v1 v2 v3 g1 g2 g3 g u,vs=[.ref b,u]∧H b=some (.lst [v1,v2,v3])∧Bk H v1 v2 v3 g1 g2 g3∧DG H g u∧(∀y∈[g,g1,g2,g3],y.size≤5000∧∀x,xH x y→Ji x)∧∀H',dz H H'→Q .non H'
def D4(K:aA):TS:=vm
def D3(K:aA):TS:=(fj (tB (pI (dQ 2) (dQ 0))) (D4 K) fU)
def D2(K:aA):TS:=vm
def D1(K:aA):TS:=(fj (eL (eC zO (dQ 3) (dQ 4))) (D2 K) fU)
def Ju(K:aA):TS:=(dq (eG (eC (eF K) (dQ 1) (tC (.int 1))) (db 2)) (dq (D3 K) (dq (eG (iB (gT K) (dP (eY jB [] E0 (dP (dQ 1) dZ)) dZ)) (db 3)) (dq (eG (iB (gT K) (dP (eC (eF K) (rB (dQ 0) (dQ 2)) (tC (.int 1))) dZ)) (db 4)) (D1 K)))))
def D6(K:aA):TS:=(fG (eY sT [] E0 (dP (dQ 0) (dP (dQ 2) dZ))))
def D5(K:aA):TS:=(fj (eL (eC kN (eC (eF K) (dQ 2) (tC (.int 0))) (tC (.str "stamp")))) (D6 K) fU)
def Jv(K:aA):TS:=(iP (i0 K (eY mB [] E0 (dP (dQ 1) dZ))) (db 2) (D5 K))
def xg(K:aA):TS:=(fG (eY qM [] E0 (dP (dQ 2) (dP (eC (eF K) (dQ 3) (tC (.int 2))) dZ))))
def Jw(K:aA):TS:=(dq (eG (eY kW [] E0 (dP (dQ 0) dZ)) (db 2)) (dq (fG (eY qM [] E0 (dP (dQ 2) (dP (dQ 1) dZ)))) (iP (i0 K (dQ 0)) (db 3) (xg K))))
theorem Mi(h:sT vs H Q E):Ju K (gr Q) (start ["stamps","use","word","handed","places"] vs) H:=by
 obtain⟨d,v1,v2,v3,g1,g2,g3,w,ks,u,rfl,hd,B,dg,hf,k⟩:=h;obtain⟨p,us,rfl,_,hp,dk⟩:=dg.open;refine⟨eD.of hp,dW (j:=1) rfl,?_⟩;have dgt:=iV.k (k:=.inr w) hd;refine⟨dgt,_,rfl,?_⟩;rcases Kw B w with⟨e,f⟩|⟨v,ps,g,e,st,f,hps⟩
 ·rw[f]at hf;cases hf
 ·rw[e]at dgt⊢;refine eN rfl ?_;refine⟨_,.ref p,rfl,dg,λq us' H1 s1 hq dk1=>?_⟩;have hl:us'.length=ks.length:=dk1.1;refine⟨.inr (eD.of hq),?_⟩;obtain⟨pp,l,x,rfl,hpp,hl1,_⟩:=st.mono s1;have dgt1:=iV.k (k:=.inr w) (s1 _ _ hd);rw[e]at dgt1;refine⟨dgt1,eD.of hpp,rfl,.inl (eJ.of hl1),?_⟩;refine⟨rfl,_,rfl,?_⟩;rw[f]at hf;have:=Option.some.inj hf;rw[aT];exact eN (by simp[hl,this]) (k _ s1)
theorem Mj(h:qM vs H Q E):Jv K (gr Q) (start ["stamps","piece","current"] vs) H:=by
 obtain⟨d,v1,v2,v3,g1,g2,g3,g,u,rfl,hd,B,dg,hsz,hF,k⟩:=h;refine⟨g,u,rfl,dg,hsz,λl us L H1 s1 n1 h1 od dL=>⟨eJ.of h1,?_⟩⟩;have hlen:=dL.1;refine gY (K:=K) (a:=l) (xs:=us) (λi σ H'=>∃j2,σ=[some (.ref d),some u,j2]∧dz H1 H') ⟨none,rfl,dz.refl _⟩ (λi σ H' _ hP=>?_) ?_ ?_
 ·obtain⟨_,_,s⟩:=hP;exact eJ.of (s _ _ h1)
 ·rintro i y σ H' hi ⟨j2,rfl,s⟩;have hil:i<us.length:=(aN.mp hi).1;have hg:L[i]?=some L[i]:=aI (by omega);generalize L[i]=c at hg;have hcm:xH c g:=(od.one c).mp (ac hg);have dc:=(dL.2 i c y hg hi).mono (dh s);have dc0:=dc;obtain⟨p,ks,rfl,ok,hp,dk⟩:=dc.open;have h0:ph (c.hd++ks) 0=some (.str c.kind):=by cases c<;>exact dW (j:=0) rfl
  refine⟨eD.of hp,h0,rfl,_,rfl,?_⟩;by_cases hk:c.kind="stamp"
  ·refine fc (by rw[hk];decide) ?_;cases c with
   | leaf k x=>
    have hk:k="stamp":=hk;subst hk;rcases ok with z|z
    ·exact absurd z (by decide)
    ·exact absurd z (by decide)
   | plain k x=>exact absurd hk ok.2.2.2
   | word k w kk=>have hk:k="stamp":=hk;subst hk;have sS:=s1.trans s;exact⟨d,v1,v2,v3,g1,g2,g3,w,kk,_,rfl,sS _ _ hd,B.mono sS,dc0,hF _ hcm rfl,λH2 s2=>⟨_,rfl,s.trans s2⟩⟩
  ·exact eN (nk hk) ⟨_,rfl,s⟩
 ·rintro σ H' ⟨j2,rfl,s⟩;exact k _ (s1.trans s)
theorem Ml(h:sZ vs H Q E):Jw K (gr Q) (start ["book","piece","stamps","stamp"] vs) H:=by
 obtain⟨b,v1,v2,v3,g1,g2,g3,g,u,rfl,hb,B,dg,hsz,k⟩:=h;refine⟨b,v1,v2,v3,g1,g2,g3,rfl,hb,B,λd H1 s1 n1 hd=>?_⟩;have hg:=hsz g (by simp);refine⟨d,v1,v2,v3,g1,g2,g3,g,u,rfl,hd,B.mono s1,dg.mono (dh s1),hg.1,hg.2,λH2 s2=>?_⟩;have s12:=s1.trans s2;refine⟨eJ.of (s12 _ _ hb),?_⟩;refine gY (K:=K) (a:=b) (xs:=[v1,v2,v3]) (λi σ H'=>∃j3,σ=[some (.ref b),some u,some (.ref d),j3]∧dz H2 H') ⟨none,rfl,dz.refl _⟩ (λi σ H' _ hP=>?_) ?_ ?_
 ·obtain⟨_,_,s⟩:=hP;exact eJ.of (s _ _ (s12 _ _ hb))
 ·rintro i y σ H' hi ⟨j3,rfl,s⟩;have s3:=s12.trans s;have B3:=B.mono s3;have go:∀(w:Str)(ps:List Str)(gg:G),kC H' w ps gg y→gg∈[g1,g2,g3]→∀D:iN,(∀σ H',(∃j3,σ=[some (.ref b),some u,some (.ref d),j3]∧dz H2 H')→D.nx σ H')→db 3 y [some (.ref b),some u,some (.ref d),j3] H' λσ2 H2=>xg K D σ2 H2:=by intro w ps gg st hm D hD;obtain⟨p,l,x,rfl,hp,_,dx⟩:=st;have hg:=hsz gg (bC _ hm);exact⟨eD.of hp,rfl,d,v1,v2,v3,g1,g2,g3,gg,x,rfl,(s2.trans s) _ _ hd,B3,dx,hg.1,hg.2,λH4 s4=>hD _ _ ⟨_,rfl,s.trans s4⟩⟩
  match i,hi,go with
  | 0,hi,go=>cases hi;exact go _ _ _ B3.a (by simp) _ (λ_ _ z=>z)
  | 1,hi,go=>cases hi;have⟨_,z⟩:=B3.b;exact go _ _ _ z (by simp) _ (λ_ _ z=>z)
  | 2,hi,go=>cases hi;have⟨_,_,z⟩:=B3.c;exact go _ _ _ z (by simp) _ (λ_ _ z=>z)
  | n+3,hi,_=>simp at hi
 ·rintro σ H' ⟨j3,rfl,s⟩;exact k _ (s12.trans s)
end S9
namespace S9
open PySem L2 SW
variable {K:aA}{vs:List V}{H:Hp}{Q:VK}{E:XK}{C D Nst:Addr}
def sX(C D:Addr):Sp:=λvs H Q _=>∃(b:Addr)(v1 v2 v3 u:V)(t:T)(bo:Bo)(F:Nat),vs=[.ref b,u,.int (F:Int)]∧H b=some (.lst [v1,v2,v3])∧vX H v1 v2 v3 bo∧DG H (gm t) u∧(∀y∈[gm t,gm bo.x,gm bo.y,gm bo.z],y.size≤5000∧∀x,xH x y→Ji x)∧yg bo t F∧
  (∀(p:Addr)(ws:List Str)(st:oy)(H':Hp),dz H H'→H' p=some (.tup [.str "more"])→(∀x,x∈ws↔∃y∈[t,bo.x,bo.y,bo.z],y.out x)→uM bo F (st0 t ws) st→F<st.k→Q (.ref p) H')∧
  (∀(p l:Addr)(x:V)(us:List V)(ws:List Str)(st:oy)(W:List (T×List kj))(tt:T)(H':Hp),dz H H'→H' p=some (.tup [.str "done",x,.ref l,.int (st.k:Int)])→yf bo t F ws st W tt→gN H' tt x→H' l=some (.lst us)→Al (kS H') (ie (W.map Prod.snd) st.R) us→Q (.ref p) H')
def Dr(K:aA)(a_Opening a_FreshWords:Addr):TS:=(fY (fS (dP (tC (.str "more")) dZ)))
def Dq(K:aA)(a_Opening a_FreshWords:Addr):TS:=(fj (eL (eC pA (kT K (dQ 3) "many") (dQ 2))) (Dr K a_Opening a_FreshWords) fU)
def Dp(K:aA)(a_Opening a_FreshWords:Addr):TS:=(fG (jm K "list" ef (dQ 5) (dP (eY vo [] E0 (dP (dQ 6) (dP (dQ 5) dZ))) dZ)))
def Jt(K:aA)(a_Opening a_FreshWords:Addr):TS:=(dq (fG (eY sZ [] E0 (dP (dQ 0) (dP (dQ 1) dZ)))) (dq (eG (uY a_Opening (BH a_Opening a_FreshWords) [] E0 (dP (dQ 0) (dP (dQ 1) (dP (dQ 2) dZ)))) (db 3)) (dq (eG (kG a_Opening "rows_of" (my a_Opening a_FreshWords) [] E0 (dQ 3) (dP (fS (dP (dQ 1) (dP (tC (.str "")) (dP (fS dZ) (dP i8 dZ))))) dZ)) (db 4)) (dq (Dq K a_Opening a_FreshWords) (dq (eG (fX dZ) (db 5)) (dq (iP (i0 K (kT K (dQ 3) "ready")) (db 6) (Dp K a_Opening a_FreshWords)) (dq (eG (eY vo [] E0 (dP (dQ 4) (dP (dQ 5) dZ))) (db 7)) (fY (fS (dP (tC (.str "done")) (dP (eC (eF K) (dQ 7) (tC (.int 0))) (dP (eC (eF K) (dQ 7) (tC (.int 1))) (dP (kT K (dQ 3) "many") dZ)))))))))))))
theorem Mf(ro:RO K C)(h:sX C D vs H Q E):Jt K C D (gr Q) (start ["book","piece","fuel","opening","rows","written","earlier","left"] vs) H:=by obtain⟨b,v1,v2,v3,u,t,bo,F,rfl,hb,B,dg,hsz,ask,kM,kD⟩:=h;exact⟨b,v1,v2,v3,_,_,_,_,u,rfl,hb,B.g,dg,hsz,λH1 s1=>wG ro (s1 _ _ hb) (B.mono s1) (dg.mono (dh s1)) ask (λp ws st H' s=>kM p ws st H' (s1.trans s)) (λp l x us ws st W tt H' s=>kD p l x us ws st W tt H' (s1.trans s))⟩
end S9
namespace SW
open PySem L2
def S0:Str→Nat→Prop:=λ_ _=>False
def kr:Sp:=λvs H Q _=>∃n:Int,vs=[.int n]∧Q (.bl true) H
end SW
namespace S1
open PySem L2 SW
def L1(K:aA):TS:=(fY (FQ (iB (pF K) (dP (dQ 0) (dP (tC (.ty "int")) dZ))) (FP (iB (pF K) (dP (dQ 0) (dP (tC (.ty "bool")) dZ))))))
end S1
namespace L2
open PySem PySem.Spec PyProof.Rows
end L2
namespace S1
open PySem L2 SW
def Ng(K:aA):Sp:=λvs H Q _=>∃(a:Addr)(ns:List Int),vs=[.ref a]∧eJ K H a (ns.map V.int)∧ns.length≤63∧∀H',Q (.bl true) H'
end S1
namespace S1
open PySem L2 SW
variable {K:aA}{N:Addr}{vs:List V}{H:Hp}{Q:VK}{E:XK}
end S1
namespace SW
open PySem L2
end SW
namespace S1
open PySem L2 SW
variable {K:aA}{N:Addr}{vs:List V}{H:Hp}{Q:VK}{E:XK}
end S1
namespace SW
open PySem L2
end SW
namespace S1
open PySem L2 SW
variable {K:aA}{N:Addr}{vs:List V}{H:Hp}{Q:VK}{E:XK}
end S1
namespace SW
open PySem L2
variable {K:aA}
theorem wa:PySem.W.kitOne K (.type "int") (.type "int")=some true:=by kernel_rfl
theorem uz:PySem.W.kitOne K (.type "int") (.type "bool")=some false:=by kernel_rfl
theorem ff:PySem.W.kitOne K (.type "str") (.type "str")=some true:=by kernel_rfl
theorem tQ:PySem.W.kitOne K (.type "list") (.type "list")=some true:=by kernel_rfl
end SW
namespace S1
open PySem L2 SW
variable {K:aA}{N:Addr}{vs:List V}{H:Hp}{Q:VK}{E:XK}
theorem Nl(h:kr vs H Q E):L1 K (gr Q) (start ["_law_found"] vs) H:=by obtain⟨n,rfl,k⟩:=h;refine⟨.int n,wa,_,rfl,qc ?_⟩;exact⟨.int n,uz,_,rfl,k⟩
end S1
namespace SW
open PySem L2
end SW
namespace S1
open PySem L2 SW
variable {K:aA}{N:Addr}{vs:List V}{H:Hp}{Q:VK}{E:XK}
end S1
namespace SW
open PySem L2
end SW
namespace S1
open PySem L2 SW
variable {K:aA}{N:Addr}{vs:List V}{H:Hp}{Q:VK}{E:XK}
end S1
namespace SW
open PySem L2
def vW(H H':Hp):Prop:=∀(d:Addr)(kvs:List (fO×V)),H d=some (.dK kvs)→H' d=some (.dK kvs)
theorem lf(h:H l=some (.lst ys)):vW H (upd H l o):=λb xs e=>by rw[dj (fF e h (by intro z;cases z))];exact e
theorem gn(s:dz H H'):vW H H':=λb _ h=>s b _ h
section
variable {H₀ H:Hp}{st nu q:Addr}{fs:List Fr}{us:List V}{ns ns':List Int}{o:HO}{f:Fr}{v z:V}
end
end SW
namespace S1
open PySem L2 SW
variable {K:aA}{N:Addr}{vs:List V}{H H₀:Hp}{Q:VK}{E:XK}
end S1
namespace SW
open PySem L2
end SW
namespace S1
open PySem L2 SW
variable {K:aA}{N:Addr}{vs:List V}{H:Hp}{Q:VK}{E:XK}
end S1
namespace SW
open PySem L2
theorem fV:PySem.W.kitOne K (.type "tuple") (.type "tuple")=some true:=by kernel_rfl
def eh:List (fO×V):=[(.inr "number",.int 2),(.inr "name",.int 2),(.inr "sum",.int 3),(.inr "less",.int 3),(.inr "choose",.int 4),(.inr "let",.int 4)]
def lz:Sp:=λvs H Q _=>∃(t:T)(v:V),vs=[v]∧gN H t v∧t.size≤5000000∧∀H',dz H H'→Q (.bl true) H'
end SW
namespace S10
open PySem L2 SW
def HJ(K:aA):TS:=(fY (tC (.bl false)))
def Az(K:aA):TS:=(fj (xi (mU (tB (iB (pF K) (dP (dQ 2) (dP (tC (.ty "tuple")) dZ))))) (xi (eL (eC zP (iB (gT K) (dP (dQ 2) dZ)) (tC (.int 2)))) (mU (tB (iB (pF K) (dP (eC (eF K) (dQ 2) (tC (.int 0))) (dP (tC (.ty "str")) dZ))))))) (HJ K) fU)
def HI(K:aA):TS:=(fY (tC (.bl false)))
def Ay(K:aA):TS:=(fj (kU (eL (eC zO (qD (dQ 3) (eC (eF K) (dQ 2) (tC (.int 0))) (tC (.int 0))) (iB (gT K) (dP (dQ 2) dZ)))) (eL (eC zO (eC (eF K) (dQ 2) (tC (.int 0))) (tC (.str "stamp"))))) (HI K) fU)
def HH(K:aA):TS:=(fY (tC (.bl false)))
def HG(K:aA):TS:=(fj (mU (tB (eY kr [] E0 (dP (eC (eF K) (dQ 2) (tC (.int 1))) dZ)))) (HH K) fU)
def HF(K:aA):TS:=(fY (tC (.bl false)))
def HE(K:aA):TS:=(fj (kU (eL (eC (Fc K false) (eC (eF K) (dQ 2) (tC (.int 0))) (fX (dP (tC (.str "name")) (dP (tC (.str "let")) (dP (tC (.str "stamp")) dZ)))))) (mU (tB (iB (pF K) (dP (eC (eF K) (dQ 2) (tC (.int 1))) (dP (tC (.ty "str")) dZ)))))) (HF K) fU)
def Ax(K:aA):TS:=(fj (eL (eC kN (eC (eF K) (dQ 2) (tC (.int 0))) (tC (.str "number")))) (HG K) (HE K))
def De(K:aA):TS:=(dq (eG (mV K "list" mY (dQ 1)) (db 2)) (dq (Az K) (dq (eG (A9 [((tC (.str "number")),(tC (.int 2))),((tC (.str "name")),(tC (.int 2))),((tC (.str "sum")),(tC (.int 3))),((tC (.str "less")),(tC (.int 3))),((tC (.str "choose")),(tC (.int 4))),((tC (.str "let")),(tC (.int 4)))]) (db 3)) (dq (Ay K) (dq (Ax K) (eG (eC lL (dQ 1) (eY gX [] E0 (dP (dQ 2) dZ))) (db 1)))))))
def ML(K:aA):TS:=(dq (eG (fX (dP (dQ 0) dZ)) (db 1)) (dq (iF (eL (eC (ku K) (dQ 1) (fX dZ))) (De K)) (fY (tC (.bl true)))))
variable {K:aA}{vs:List V}{H:Hp}{Q:VK}{E:XK}
theorem wD(hd:gN H t v)
  (k:∀H',dz H H'→∀j3,(eG (eC lL (dQ 1) (eY gX [] E0 (dP (dQ 2) dZ))) (db 1)) D [some v0,some (.ref tl),some v,j3] H'):
  (dq (Az K) (dq (eG (A9 [((tC (.str "number")),(tC (.int 2))),((tC (.str "name")),(tC (.int 2))),((tC (.str "sum")),(tC (.int 3))),((tC (.str "less")),(tC (.int 3))),((tC (.str "choose")),(tC (.int 4))),((tC (.str "let")),(tC (.int 4)))]) (db 3)) (dq (Ay K) (dq (Ax K) (eG (eC lL (dQ 1) (eY gX [] E0 (dP (dQ 2) dZ))) (db 1)))))) D [some v0,some (.ref tl),some v,j3] H:=by
 cases t with
 | num n=>obtain⟨p,rfl,hp⟩:=id hd;refine⟨.tup hp,fV,_,rfl,fQ ?_⟩;refine⟨.inr (eD.of hp),_,rfl,eN rfl ?_⟩;refine⟨eD.of hp,rfl,.str _,ff,_,rfl,fQ ?_⟩;refine λpd hpd=>⟨dR,eh,rfl,by decide,?_⟩;have s1:dz H (upd (upd H pd (.dK [])) pd (.dK (fA [] eh))):=eI (dX hpd) hpd;have g1:(upd (upd H pd (.dK [])) pd (.dK (fA [] eh))) pd=some (.dK (fA [] eh)):=dR;generalize upd (upd H pd (.dK [])) pd (.dK (fA [] eh))=H1 at s1 g1⊢;have hp1:=s1 _ _ hp;have dg:=iV.k (k:=.inr ("number":Str)) g1;rw[show fW (fA [] eh) (.inr ("number":Str):fO)=some (.int 2)from by decide]at dg;refine⟨.inl ⟨_,.inl g1⟩,eD.of hp1,rfl,_,dg,.inr (eD.of hp1),rfl,_,rfl,?_⟩;refine eN rfl (fQ ?_);refine⟨eD.of hp1,rfl,rfl,_,rfl,?_⟩;refine fc (by decide) ?_;refine⟨eD.of hp1,rfl,n,rfl,_,rfl,fQ ?_⟩;exact k H1 s1 _
 | name x=>obtain⟨p,rfl,hp⟩:=id hd;refine⟨.tup hp,fV,_,rfl,fQ ?_⟩;refine⟨.inr (eD.of hp),_,rfl,eN rfl ?_⟩;refine⟨eD.of hp,rfl,.str _,ff,_,rfl,fQ ?_⟩;refine λpd hpd=>⟨dR,eh,rfl,by decide,?_⟩;have s1:dz H (upd (upd H pd (.dK [])) pd (.dK (fA [] eh))):=eI (dX hpd) hpd;have g1:(upd (upd H pd (.dK [])) pd (.dK (fA [] eh))) pd=some (.dK (fA [] eh)):=dR;generalize upd (upd H pd (.dK [])) pd (.dK (fA [] eh))=H1 at s1 g1⊢;have hp1:=s1 _ _ hp;have dg:=iV.k (k:=.inr ("name":Str)) g1;rw[show fW (fA [] eh) (.inr ("name":Str):fO)=some (.int 2)from by decide]at dg;refine⟨.inl ⟨_,.inl g1⟩,eD.of hp1,rfl,_,dg,.inr (eD.of hp1),rfl,_,rfl,?_⟩;refine eN rfl (fQ ?_);refine⟨eD.of hp1,rfl,rfl,_,rfl,?_⟩;refine eN (by decide) ?_;refine⟨eD.of hp1,rfl,fM,et λl H2 hl s2 g2=>?_⟩;refine⟨.inl (eJ.of g2),rfl,rfl,_,rfl,?_⟩;refine fc (by decide) ?_;refine⟨eD.of (s2 _ _ hp1),rfl,.str _,ff,_,rfl,fQ ?_⟩;exact k H2 (s1.trans s2) _
 | sum a b=>obtain⟨p,x,y,rfl,hp,d1,d2⟩:=id hd;refine⟨.tup hp,fV,_,rfl,fQ ?_⟩;refine⟨.inr (eD.of hp),_,rfl,eN rfl ?_⟩;refine⟨eD.of hp,rfl,.str _,ff,_,rfl,fQ ?_⟩;refine λpd hpd=>⟨dR,eh,rfl,by decide,?_⟩;have s1:dz H (upd (upd H pd (.dK [])) pd (.dK (fA [] eh))):=eI (dX hpd) hpd;have g1:(upd (upd H pd (.dK [])) pd (.dK (fA [] eh))) pd=some (.dK (fA [] eh)):=dR;generalize upd (upd H pd (.dK [])) pd (.dK (fA [] eh))=H1 at s1 g1⊢;have hp1:=s1 _ _ hp;have dg:=iV.k (k:=.inr ("sum":Str)) g1;rw[show fW (fA [] eh) (.inr ("sum":Str):fO)=some (.int 3)from by decide]at dg;refine⟨.inl ⟨_,.inl g1⟩,eD.of hp1,rfl,_,dg,.inr (eD.of hp1),rfl,_,rfl,?_⟩;refine eN rfl (fQ ?_);refine⟨eD.of hp1,rfl,rfl,_,rfl,?_⟩;refine eN (by decide) ?_;refine⟨eD.of hp1,rfl,fM,et λl H2 hl s2 g2=>?_⟩;refine⟨.inl (eJ.of g2),rfl,rfl,_,rfl,?_⟩;refine eN (by decide) (fQ ?_);exact k H2 (s1.trans s2) _
 | less a b=>obtain⟨p,x,y,rfl,hp,d1,d2⟩:=id hd;refine⟨.tup hp,fV,_,rfl,fQ ?_⟩;refine⟨.inr (eD.of hp),_,rfl,eN rfl ?_⟩;refine⟨eD.of hp,rfl,.str _,ff,_,rfl,fQ ?_⟩;refine λpd hpd=>⟨dR,eh,rfl,by decide,?_⟩;have s1:dz H (upd (upd H pd (.dK [])) pd (.dK (fA [] eh))):=eI (dX hpd) hpd;have g1:(upd (upd H pd (.dK [])) pd (.dK (fA [] eh))) pd=some (.dK (fA [] eh)):=dR;generalize upd (upd H pd (.dK [])) pd (.dK (fA [] eh))=H1 at s1 g1⊢;have hp1:=s1 _ _ hp;have dg:=iV.k (k:=.inr ("less":Str)) g1;rw[show fW (fA [] eh) (.inr ("less":Str):fO)=some (.int 3)from by decide]at dg;refine⟨.inl ⟨_,.inl g1⟩,eD.of hp1,rfl,_,dg,.inr (eD.of hp1),rfl,_,rfl,?_⟩;refine eN rfl (fQ ?_);refine⟨eD.of hp1,rfl,rfl,_,rfl,?_⟩;refine eN (by decide) ?_;refine⟨eD.of hp1,rfl,fM,et λl H2 hl s2 g2=>?_⟩;refine⟨.inl (eJ.of g2),rfl,rfl,_,rfl,?_⟩;refine eN (by decide) (fQ ?_);exact k H2 (s1.trans s2) _
 | cho a b c=>obtain⟨p,x,y,z,rfl,hp,d1,d2,d3⟩:=id hd;refine⟨.tup hp,fV,_,rfl,fQ ?_⟩;refine⟨.inr (eD.of hp),_,rfl,eN rfl ?_⟩;refine⟨eD.of hp,rfl,.str _,ff,_,rfl,fQ ?_⟩;refine λpd hpd=>⟨dR,eh,rfl,by decide,?_⟩;have s1:dz H (upd (upd H pd (.dK [])) pd (.dK (fA [] eh))):=eI (dX hpd) hpd;have g1:(upd (upd H pd (.dK [])) pd (.dK (fA [] eh))) pd=some (.dK (fA [] eh)):=dR;generalize upd (upd H pd (.dK [])) pd (.dK (fA [] eh))=H1 at s1 g1⊢;have hp1:=s1 _ _ hp;have dg:=iV.k (k:=.inr ("choose":Str)) g1;rw[show fW (fA [] eh) (.inr ("choose":Str):fO)=some (.int 4)from by decide]at dg;refine⟨.inl ⟨_,.inl g1⟩,eD.of hp1,rfl,_,dg,.inr (eD.of hp1),rfl,_,rfl,?_⟩;refine eN rfl (fQ ?_);refine⟨eD.of hp1,rfl,rfl,_,rfl,?_⟩;refine eN (by decide) ?_;refine⟨eD.of hp1,rfl,fM,et λl H2 hl s2 g2=>?_⟩;refine⟨.inl (eJ.of g2),rfl,rfl,_,rfl,?_⟩;refine eN (by decide) (fQ ?_);exact k H2 (s1.trans s2) _
 | lt w a b=>obtain⟨p,x,y,rfl,hp,d1,d2⟩:=id hd;refine⟨.tup hp,fV,_,rfl,fQ ?_⟩;refine⟨.inr (eD.of hp),_,rfl,eN rfl ?_⟩;refine⟨eD.of hp,rfl,.str _,ff,_,rfl,fQ ?_⟩;refine λpd hpd=>⟨dR,eh,rfl,by decide,?_⟩;have s1:dz H (upd (upd H pd (.dK [])) pd (.dK (fA [] eh))):=eI (dX hpd) hpd;have g1:(upd (upd H pd (.dK [])) pd (.dK (fA [] eh))) pd=some (.dK (fA [] eh)):=dR;generalize upd (upd H pd (.dK [])) pd (.dK (fA [] eh))=H1 at s1 g1⊢;have hp1:=s1 _ _ hp;have dg:=iV.k (k:=.inr ("let":Str)) g1;rw[show fW (fA [] eh) (.inr ("let":Str):fO)=some (.int 4)from by decide]at dg;refine⟨.inl ⟨_,.inl g1⟩,eD.of hp1,rfl,_,dg,.inr (eD.of hp1),rfl,_,rfl,?_⟩;refine eN rfl (fQ ?_);refine⟨eD.of hp1,rfl,rfl,_,rfl,?_⟩;refine eN (by decide) ?_;refine⟨eD.of hp1,rfl,fM,et λl H2 hl s2 g2=>?_⟩;refine⟨.inl (eJ.of g2),rfl,rfl,_,rfl,?_⟩;refine fc (by decide) ?_;refine⟨eD.of (s2 _ _ hp1),rfl,.str _,ff,_,rfl,fQ ?_⟩;exact k H2 (s1.trans s2) _
 | st0 w=>obtain⟨p,rfl,hp⟩:=id hd;refine⟨.tup hp,fV,_,rfl,fQ ?_⟩;refine⟨.inr (eD.of hp),_,rfl,eN rfl ?_⟩;refine⟨eD.of hp,rfl,.str _,ff,_,rfl,fQ ?_⟩;refine λpd hpd=>⟨dR,eh,rfl,by decide,?_⟩;have s1:dz H (upd (upd H pd (.dK [])) pd (.dK (fA [] eh))):=eI (dX hpd) hpd;have g1:(upd (upd H pd (.dK [])) pd (.dK (fA [] eh))) pd=some (.dK (fA [] eh)):=dR;generalize upd (upd H pd (.dK [])) pd (.dK (fA [] eh))=H1 at s1 g1⊢;have hp1:=s1 _ _ hp;have dg:=iV.k (k:=.inr ("stamp":Str)) g1;rw[show fW (fA [] eh) (.inr ("stamp":Str):fO)=none from by decide]at dg;refine⟨.inl ⟨_,.inl g1⟩,eD.of hp1,rfl,_,dg,.inr (eD.of hp1),rfl,_,rfl,?_⟩;refine fc rfl ?_;refine⟨eD.of hp1,rfl,rfl,_,rfl,eN (by decide) ?_⟩;refine⟨eD.of hp1,rfl,rfl,_,rfl,?_⟩;refine eN (by decide) ?_;refine⟨eD.of hp1,rfl,fM,et λl H2 hl s2 g2=>?_⟩;refine⟨.inl (eJ.of g2),rfl,rfl,_,rfl,?_⟩;refine fc (by decide) ?_;refine⟨eD.of (s2 _ _ hp1),rfl,.str _,ff,_,rfl,fQ ?_⟩;exact k H2 (s1.trans s2) _
 | st1 w a=>obtain⟨p,x,rfl,hp,d1⟩:=id hd;refine⟨.tup hp,fV,_,rfl,fQ ?_⟩;refine⟨.inr (eD.of hp),_,rfl,eN rfl ?_⟩;refine⟨eD.of hp,rfl,.str _,ff,_,rfl,fQ ?_⟩;refine λpd hpd=>⟨dR,eh,rfl,by decide,?_⟩;have s1:dz H (upd (upd H pd (.dK [])) pd (.dK (fA [] eh))):=eI (dX hpd) hpd;have g1:(upd (upd H pd (.dK [])) pd (.dK (fA [] eh))) pd=some (.dK (fA [] eh)):=dR;generalize upd (upd H pd (.dK [])) pd (.dK (fA [] eh))=H1 at s1 g1⊢;have hp1:=s1 _ _ hp;have dg:=iV.k (k:=.inr ("stamp":Str)) g1;rw[show fW (fA [] eh) (.inr ("stamp":Str):fO)=none from by decide]at dg;refine⟨.inl ⟨_,.inl g1⟩,eD.of hp1,rfl,_,dg,.inr (eD.of hp1),rfl,_,rfl,?_⟩;refine fc rfl ?_;refine⟨eD.of hp1,rfl,rfl,_,rfl,eN (by decide) ?_⟩;refine⟨eD.of hp1,rfl,rfl,_,rfl,?_⟩;refine eN (by decide) ?_;refine⟨eD.of hp1,rfl,fM,et λl H2 hl s2 g2=>?_⟩;refine⟨.inl (eJ.of g2),rfl,rfl,_,rfl,?_⟩;refine fc (by decide) ?_;refine⟨eD.of (s2 _ _ hp1),rfl,.str _,ff,_,rfl,fQ ?_⟩;exact k H2 (s1.trans s2) _
 | st2 w a b=>obtain⟨p,x,y,rfl,hp,d1,d2⟩:=id hd;refine⟨.tup hp,fV,_,rfl,fQ ?_⟩;refine⟨.inr (eD.of hp),_,rfl,eN rfl ?_⟩;refine⟨eD.of hp,rfl,.str _,ff,_,rfl,fQ ?_⟩;refine λpd hpd=>⟨dR,eh,rfl,by decide,?_⟩;have s1:dz H (upd (upd H pd (.dK [])) pd (.dK (fA [] eh))):=eI (dX hpd) hpd;have g1:(upd (upd H pd (.dK [])) pd (.dK (fA [] eh))) pd=some (.dK (fA [] eh)):=dR;generalize upd (upd H pd (.dK [])) pd (.dK (fA [] eh))=H1 at s1 g1⊢;have hp1:=s1 _ _ hp;have dg:=iV.k (k:=.inr ("stamp":Str)) g1;rw[show fW (fA [] eh) (.inr ("stamp":Str):fO)=none from by decide]at dg;refine⟨.inl ⟨_,.inl g1⟩,eD.of hp1,rfl,_,dg,.inr (eD.of hp1),rfl,_,rfl,?_⟩;refine fc rfl ?_;refine⟨eD.of hp1,rfl,rfl,_,rfl,eN (by decide) ?_⟩;refine⟨eD.of hp1,rfl,rfl,_,rfl,?_⟩;refine eN (by decide) ?_;refine⟨eD.of hp1,rfl,fM,et λl H2 hl s2 g2=>?_⟩;refine⟨.inl (eJ.of g2),rfl,rfl,_,rfl,?_⟩;refine fc (by decide) ?_;refine⟨eD.of (s2 _ _ hp1),rfl,.str _,ff,_,rfl,fQ ?_⟩;exact k H2 (s1.trans s2) _
structure LQ(H₀ H:Hp)(tl:Addr)(us:List V)(ts:List T):Prop where
 same:dz H₀ H
 new:H₀ tl=none
 at_:H tl=some (.lst us)
 den:gJ H ts us
 sz:fE ts≤5000000
def OW(H:Hp)(v:V)(m:Nat)(σ:St)(H':Hp):Prop:=∃tl us ts j2 j3,σ=[some v,some (.ref tl),j2,j3]∧LQ H H' tl us ts∧m=fE ts
theorem N6(h:lz vs H Q E):ML K (gr Q) (start ["_law_found","_law_todo","_law_part","_law_sizes"] vs) H:=by
 obtain⟨t,v,rfl,hd,hs,k⟩:=h;refine⟨fM,et λtl H1 htl s1 g1=>?_⟩;refine⟨OW H v,⟨_,tl,[v],[t],none,none,rfl,⟨s1,htl,g1,.cons (hd.mono (dh s1)) .nil,by rw[gA,jK];lia⟩,rfl⟩,?_⟩;clear s1 g1 htl;rintro m σ H2 ⟨tl,us,ts,j2,j3,rfl,A,rfl⟩;refine⟨fM,λe he=>?_⟩;have s3:=dX (o:=.lst []) he;have g3:(upd H2 e (.lst [])) e=some (.lst []):=dR;have A3:LQ H (upd H2 e (.lst [])) tl us ts:=⟨A.same.trans s3,A.new,s3 _ _ A.at_,A.den.mono (dh s3),A.sz⟩;generalize upd H2 e (.lst [])=H3 at g3 A3⊢;refine⟨eJ.of A3.at_,eJ.of g3,_,rfl,?_⟩;by_cases hv:us=[]
 ·subst hv;exact eN rfl (k _ A3.same)
 ·obtain⟨us,u,rfl⟩:=fz hv;refine fc (by simp) ?_;obtain⟨ts',t',rfl,d1,d2⟩:=A3.den.snoc;refine⟨Lt (OW H v) (fE (ts'++[t'])),λ_ _ h=>h,?_⟩;refine⟨.inl ⟨rfl,_,eJ.of A3.at_⟩,A3.at_,jN,?_⟩;rw[iX];have t4:=fP (o:=.lst us) A3.at_;have s4:dz H (upd H3 tl (.lst us)):=eI A3.same A3.new;have g4:(upd H3 tl (.lst us)) tl=some (.lst us):=dR;have c1:=d1.mono t4;have c2:=d2.mono t4;generalize upd H3 tl (.lst us)=H4 at s4 g4 c1 c2⊢;refine wD c2 λH5 s5 j3=>?_;refine⟨t',u,rfl,c2.mono (dh s5),λl us2 H6 s6 n6 h6 d6=>?_⟩;have q1:=c1.length;have q2:=d6.length;have q3:=fC ts';have q4:=fC t'.kids;have hk:=jL t';have hz:=A3.sz;rw[fK,gA,jK]at hz;have s56:=s5.trans s6;refine⟨s56 _ _ g4,h6,by rw[sizeLine_eq];lia,λp7 hp7=>?_⟩;have s7:=dX (o:=.lst (us++us2)) hp7;have s47:=s56.trans s7;refine⟨fE (ts'++t'.kids),by rw[fK,fK,gA,jK];lia,p7,us++us2,ts'++t'.kids,_,_,rfl,⟨s4.trans s47,(s4.trans s56).free hp7,dR,(c1.mono (dh s47)).append (d6.mono (dh s7)),by rw[fK];lia⟩,rfl⟩
end S10
namespace SW
open PySem L2
end SW
namespace S10
open PySem L2 SW
variable {K:aA}{vs:List V}{H H₀:Hp}{Q:VK}{E:XK}
end S10
namespace SW
open PySem L2
def iG(K:aA):Sp:=λvs H Q E=>∃S S',qL K S S' vs H Q E
def OK:Str→Nat→Prop:=λx n=>x="st"∧n=2
def Je:Str→Nat→Prop:=λx n=>x="star"∧n=0
def Jd:Str→Nat→Prop:=λx n=>(x="star"∧n=0)∨(x="sta"∧n=1)
def qx(H:Hp)(l:Addr)(b:Str×List Str×T)(u:V):Prop:=∃(q p:Addr)(v:V),u=.ref q∧H q=some (.tup [.str b.1,.ref p,v])∧H p=some (.lst (b.2.1.map V.str))∧p≠l∧gN H b.2.2 v
inductive LV(H:Hp)(l:Addr):List (Str×List Str×T)→List V→Prop where
 | nil:LV H l [] []
 | cons{b:Str×List Str×T}{u:V}{bs:List (Str×List Str×T)}{us:List V}:qx H l b u→LV H l bs us→LV H l (b::bs) (u::us)
theorem qx.mono(m:fR H H')(k:∀p xs,p≠l→H p=some (.lst xs)→H' p=some (.lst xs))(h:qx H l b u):qx H' l b u:=by obtain⟨q,p,v,e,h1,h2,h3,h4⟩:=h;exact⟨q,p,v,e,m _ _ h1,k _ _ h3 h2,h3,h4.mono m⟩
def sf(K:aA):Sp:=λvs H Q _=>∃(c:Addr)(wild:Bool)(ns:List Int),vs=[.ref c,.bl wild]∧eJ K H c (ns.map V.int)∧ns.length≤100∧
 ∀(l:Addr)(us:List V)(t0 t1 t2:T)(H':Hp),dz H H'→H l=none→H' l=some (.lst us)→LV H' l [("star",[],t0),("sta",["sab"],t1),("st",["sab","tab"],t2)] us→WG S0 t0→WG Je t1→WG Jd t2→t0.size≤4→t1.size≤8→t2.size≤10→t1.names.length≤4→t2.names.length≤5→Q (.ref l) H'
theorem mJ(ns:List Int)(lo hi:Option Int):∃ms:List Int,ix (ns.map V.int) lo hi=ms.map V.int∧ms.length≤HT.kZ ns.length ns.length hi-HT.kZ ns.length 0 lo∧ms.length≤ns.length:=by
 refine⟨(ns.drop (HT.kZ ns.length 0 lo)).take (HT.kZ ns.length ns.length hi-HT.kZ ns.length 0 lo),?_,?_,?_⟩
 ·unfold ix;rw[aT,List.map_take,List.map_drop]
 ·rw[ah];lia
 ·rw[ah,aj];lia
theorem lU(n d:Nat)(k:Nat):HT.kZ n d (some (k:Int))=min k n:=HT.LY ..
end SW
namespace S9
open PySem L2 SW
def IC(K:aA):TS:=(eG (fX (dP (fS (dP (tC (.str "st")) (dP (tC (.int 2)) dZ))) dZ)) (JH (dQ 2) (tC (.int 0)) Bj))
def IB(K:aA):TS:=(fj (tB (dQ 1)) (IC K) fU)
def MS(K:aA):TS:=(dq (eG (fX (dP (fX dZ) (dP (fX (dP (fS (dP (tC (.str "star")) (dP (tC (.int 0)) dZ))) dZ)) (dP (fX (dP (fS (dP (tC (.str "star")) (dP (tC (.int 0)) dZ))) (dP (fS (dP (tC (.str "sta")) (dP (tC (.int 1)) dZ))) dZ))) dZ)))) (db 2)) (dq (IB K) (dq (eG (fX (dP (fS (dP (tC (.str "star")) (dP (fX dZ) (dP (eY (iG K) [] E0 (dP (mT (jM K) (dQ 0) fu (gD (tC (.int 1)))) (dP (eC (gO K) (dQ 2) (tC (.int 0))) dZ))) dZ)))) dZ)) (db 3)) (dq (fG (jm K "list" ef (dQ 3) (dP (fS (dP (tC (.str "sta")) (dP (fX (dP (tC (.str "sab")) dZ)) (dP (eY (iG K) [] E0 (dP (mT (jM K) (dQ 0) (gD (tC (.int 1))) (gD (tC (.int 4)))) (dP (eC (gO K) (dQ 2) (tC (.int 1))) dZ))) dZ)))) dZ))) (dq (fG (jm K "list" ef (dQ 3) (dP (fS (dP (tC (.str "st")) (dP (fX (dP (tC (.str "sab")) (dP (tC (.str "tab")) dZ))) (dP (eY (iG K) [] E0 (dP (mT (jM K) (dQ 0) (gD (tC (.int 4))) (gD (tC (.int 8)))) (dP (eC (gO K) (dQ 2) (tC (.int 2))) dZ))) dZ)))) dZ))) (fY (dQ 3)))))))
def IA(K:aA):TS:=(fY (tC (.bl false)))
def Hz(K:aA):TS:=(fj (xi (mU (tB (iB (pF K) (dP (dQ 0) (dP (tC (.ty "tuple")) dZ))))) (xi (eL (eC zO (iB (gT K) (dP (dQ 0) dZ)) (tC (.int 4)))) (mU (tB (iB (pF K) (dP (eC (eF K) (dQ 0) (tC (.int 0))) (dP (tC (.ty "str")) dZ))))))) (IA K) fU)
def Hw(K:aA):TS:=(fY (tC (.bl false)))
def Hv(K:aA):TS:=(fj (xi (eL (eC zO (eC (eF K) (dQ 0) (tC (.int 0))) (tC (.str "done")))) (xi (mU (tB (eY kr [] E0 (dP (eC (eF K) (dQ 0) (tC (.int 3))) dZ)))) (mU (tB (iB (pF K) (dP (eC (eF K) (dQ 0) (tC (.int 2))) (dP (tC (.ty "list")) dZ))))))) (Hw K) fU)
def Hu(K:aA):TS:=(fY (tC (.bl false)))
def Ht(K:aA):TS:=(fj (xi (mU (tB (iB (pF K) (dP (dQ 1) (dP (tC (.ty "tuple")) dZ))))) (xi (eL (eC zO (iB (gT K) (dP (dQ 1) dZ)) (tC (.int 2)))) (mU (tB (iB (pF K) (dP (eC (eF K) (dQ 1) (tC (.int 0))) (dP (tC (.ty "str")) dZ))))))) (Hu K) fU)
def Hs(K:aA):TS:=(fY (tC (.bl false)))
def Hr(K:aA):TS:=(fj (mU (tB (iB (pF K) (dP (eC (eF K) (dQ 1) (tC (.int 1))) (dP (tC (.ty "tuple")) dZ))))) (Hs K) fU)
def Hq(K:aA):TS:=(fY (tC (.bl false)))
def D0(K:aA):TS:=(fj (mU (tB (eY kr [] E0 (dP (dQ 2) dZ)))) (Hq K) fU)
def Dz(K:aA):TS:=(dq (Ht K) (dq (Hr K) (iP (JF K (eC (eF K) (dQ 1) (tC (.int 1)))) (db 2) (D0 K))))
def MR(K:aA):TS:=(dq (Hz K) (dq (Hv K) (dq (iP (i0 K (eC (eF K) (dQ 0) (tC (.int 2)))) (db 1) (Dz K)) (fY (eY lz [] E0 (dP (eC (eF K) (dQ 0) (tC (.int 1))) dZ))))))
def MU(K:aA):TS:=(fY (J0 (i0 K (dQ 0)) (fS (dP (eC (eF K) (dQ 0) (tC (.int 0))) (dP (iB (tz K) (dP (eC (eF K) (dQ 0) (tC (.int 1))) dZ)) (dP (eC (eF K) (dQ 0) (tC (.int 2))) dZ)))) []))
variable {K:aA}{vs:List V}{H:Hp}{Q:VK}{E:XK}
theorem Mh(h:iG K vs H Q E):SW.MQ K (gr Q) (start ["_law_cells","_law_stamps","_law_pile","_law_cell","_law_rest","_law_way","_law_word","_law_inner","_law_look","_law_name","_law_many","_law_made","_law_last"] vs) H:=by obtain⟨S,S',h⟩:=h;exact IP h
theorem DJ(t:T)(h:t.size≤2)(w:WG OK t):WG S0 t:=by
 cases t with
 | num n=>exact w
 | name x=>exact w
 | sum a b=>have:=a.size_pos;have:=b.size_pos;simp only[T.size]at h;lia
 | less a b=>have:=a.size_pos;have:=b.size_pos;simp only[T.size]at h;lia
 | cho a b c=>have:=a.size_pos;have:=b.size_pos;simp only[T.size]at h;lia
 | lt x a b=>have:=a.size_pos;have:=b.size_pos;simp only[T.size]at h;lia
 | st0 x=>exact absurd w.2 (by decide)
 | st1 x a=>exact absurd w.1.2 (by decide)
 | st2 x a b=>have:=a.size_pos;have:=b.size_pos;simp only[T.size]at h;lia
theorem qR{c low z0 l1 l2 a1 a2 a3:Addr}{ns:List Int}{xs0:List V}{Sx:Str→Nat→Prop}{j1:Option V}(hc:eJ K H c (ns.map V.int))(hn:ns.length≤100)(hlow:H low=some (.lst [.ref z0,.ref l1,.ref l2]))(h0:H z0=some (.lst xs0))(hx0:xs0.length≤1000)(st0:jY Sx H xs0)(hS0:∀t:T,t.size≤2→WG Sx t→WG S0 t)
  (h1:H l1=some (.lst [.ref a1])) (e1:H a1=some (.tup [.str "star",.int 0])) (h2:H l2=some (.lst [.ref a2,.ref a3])) (e2:H a2=some (.tup [.str "star",.int 0])) (e3:H a3=some (.tup [.str "sta",.int 1]))
  (k:∀(l:Addr)(us:List V)(t0 t1 t2:T)(H':Hp),dz H H'→H l=none→H' l=some (.lst us)→LV H' l [("star",[],t0),("sta",["sab"],t1),("st",["sab","tab"],t2)] us→WG S0 t0→WG Je t1→WG Jd t2→t0.size≤4→t1.size≤8→t2.size≤10→t1.names.length≤4→t2.names.length≤5→Q (.ref l) H'):
  (dq (eG (fX (dP (fS (dP (tC (.str "star")) (dP (fX dZ) (dP (eY (iG K) [] E0 (dP (mT (jM K) (dQ 0) fu (gD (tC (.int 1)))) (dP (eC (gO K) (dQ 2) (tC (.int 0))) dZ))) dZ)))) dZ)) (db 3)) (dq (fG (jm K "list" ef (dQ 3) (dP (fS (dP (tC (.str "sta")) (dP (fX (dP (tC (.str "sab")) dZ)) (dP (eY (iG K) [] E0 (dP (mT (jM K) (dQ 0) (gD (tC (.int 1))) (gD (tC (.int 4)))) (dP (eC (gO K) (dQ 2) (tC (.int 1))) dZ))) dZ)))) dZ))) (dq (fG (jm K "list" ef (dQ 3) (dP (fS (dP (tC (.str "st")) (dP (fX (dP (tC (.str "sab")) (dP (tC (.str "tab")) dZ))) (dP (eY (iG K) [] E0 (dP (mT (jM K) (dQ 0) (gD (tC (.int 4))) (gD (tC (.int 8)))) (dP (eC (gO K) (dQ 2) (tC (.int 2))) dZ))) dZ)))) dZ))) (fY (dQ 3))))) (gr Q) [some (.ref c),j1,some (.ref low),none] H:=by
 refine⟨fM,et λp0 H1 hp0 s1 g1=>?_⟩;obtain⟨m0,em0,q0,_⟩:=mJ ns none (some 1);refine⟨s1.seq hc,λc0 hc0=>?_⟩;rw[em0];have s2:=dX (o:=.lst (m0.map V.int)) hc0;have g2:(upd H1 c0 (.lst (m0.map V.int))) c0=some (.lst (m0.map V.int)):=dR;generalize upd H1 c0 (.lst (m0.map V.int))=H2 at s2 g2⊢;have s12:=s1.trans s2;have q0:m0.length≤1:=by have e:HT.kZ ns.length ns.length (some 1)=min 1 ns.length:=lU ns.length ns.length 1;rw[e]at q0;lia
 refine⟨eJ.of (s12 _ _ hlow),dW (j:=0) rfl,?_⟩;refine⟨Sx,S0,c0,z0,m0,xs0,rfl,eJ.of g2,by lia,s12 _ _ h0,hx0,λx hx=>?_,λt ht=>hS0 t (by lia),λt0 v0 H3 s3 d0 w0 z0' _=>?_⟩
 ·obtain⟨q,nm,m,r1,r2,r3⟩:=st0 x hx;exact⟨q,nm,m,r1,s12 _ _ r2,r3⟩
 have s13:=s12.trans s3;have gp0:=(s2.trans s3) _ _ g1;refine⟨fM,et λb0 H4 hb0 s4 g4=>?_⟩;refine⟨fM,et λl H5 hl s5 g5=>?_⟩;have s35:=s4.trans s5;have s15:=s13.trans s35;have nl:H l=none:=(s13.trans s4).free hl;have np0:p0≠l:=de (s4 _ _ gp0) hl;have B0:qx H5 l ("star",[],t0) (.ref b0):=⟨b0,p0,v0,rfl,s5 _ _ g4,s35 _ _ gp0,np0,d0.mono (dh s35)⟩;have nlow:low≠l:=de hlow nl;have keep:∀{Ha Hb:Hp}{us us':List V},Ha l=some (.lst us)→Hb=upd Ha l (.lst us')→∀p xs,p≠l→Ha p=some (.lst xs)→Hb p=some (.lst xs):=λ_ e p xs n h=>by subst e;rw[dj n];exact h
 clear s1 g1 s2 g2 s12 s3 s13 gp0 s4 g4 s35 hp0 hc0 hb0 hl em0;refine⟨.inl ⟨rfl,_,eJ.of g5⟩,fM,et λp1 H6 hp1 s6 g6=>?_⟩;obtain⟨m1,em1,q1,_⟩:=mJ ns (some 1) (some 4);refine⟨(s15.trans s6).seq hc,λc1 hc1=>?_⟩;rw[em1];have s7:=dX (o:=.lst (m1.map V.int)) hc1;have g7:(upd H6 c1 (.lst (m1.map V.int))) c1=some (.lst (m1.map V.int)):=dR;generalize upd H6 c1 (.lst (m1.map V.int))=H7 at s7 g7⊢;have s67:=s6.trans s7;have q1:m1.length≤3:=by have ea:HT.kZ ns.length ns.length (some 4)=min 4 ns.length:=lU ns.length ns.length 4;have eb:HT.kZ ns.length 0 (some 1)=min 1 ns.length:=lU ns.length 0 1;rw[ea,eb]at q1;lia
 have s17:=s15.trans s67;refine⟨eJ.of (s17 _ _ hlow),dW (j:=1) rfl,?_⟩;refine⟨Je,Je,c1,l1,m1,_,rfl,eJ.of g7,by lia,s17 _ _ h1,by simp,λx hx=>?_,λ_ _ z=>z,λt1 v1 H8 s8 d1 w1 z1' y1'=>?_⟩
 ·obtain rfl:x=.ref a1:=by simpa using hx
  exact⟨a1,"star",0,rfl,s17 _ _ e1,by decide,rfl,rfl⟩
 have s68:=s67.trans s8;refine⟨fM,et λb1 H9 hb1 s9 g9=>?_⟩;have s69:=s68.trans s9;have at9:=s69 _ _ g5;have np1:p1≠l:=λz=>by subst z;rw[g5]at hp1;cases hp1
 refine⟨at9,by rw[sizeLine_eq];simp,?_⟩;have t10:=fP (o:=.lst ([.ref b0]++[.ref b1])) at9;have k10:=keep at9 (rfl:upd H9 l (.lst ([.ref b0]++[.ref b1]))=_);have s10:dz H (upd H9 l (.lst ([.ref b0]++[.ref b1]))):=eI (s15.trans s69) nl;have g10:(upd H9 l (.lst ([.ref b0]++[.ref b1]))) l=some (.lst ([.ref b0]++[.ref b1])):=dR;have B0':qx (upd H9 l (.lst ([.ref b0]++[.ref b1]))) l ("star",[],t0) (.ref b0):=(B0.mono (dh s69) λp xs _ h=>s69 _ _ h).mono t10 k10;have B1:qx (upd H9 l (.lst ([.ref b0]++[.ref b1]))) l ("sta",["sab"],t1) (.ref b1):=⟨b1,p1,v1,rfl,t10 _ _ g9,k10 _ _ np1 (((s7.trans s8).trans s9) _ _ g6),np1,(d1.mono (dh s9)).mono t10⟩;generalize upd H9 l (.lst ([.ref b0]++[.ref b1]))=G at t10 k10 s10 g10 B0' B1⊢;clear s6 g6 s7 g7 s67 s8 s68 s9 g9 s69 at9 hp1 hc1 hb1 em1 B0 s17;refine⟨.inl ⟨rfl,_,eJ.of g10⟩,fM,et λp2 H6 hp2 s6 g6=>?_⟩;obtain⟨m2,em2,q2,_⟩:=mJ ns (some 4) (some 8);refine⟨(s10.trans s6).seq hc,λc2 hc2=>?_⟩;rw[em2];have s7:=dX (o:=.lst (m2.map V.int)) hc2;have g7:(upd H6 c2 (.lst (m2.map V.int))) c2=some (.lst (m2.map V.int)):=dR;generalize upd H6 c2 (.lst (m2.map V.int))=H7 at s7 g7⊢;have s67:=s6.trans s7;have q2:m2.length≤4:=by have ea:HT.kZ ns.length ns.length (some 8)=min 8 ns.length:=lU ns.length ns.length 8;have eb:HT.kZ ns.length 0 (some 4)=min 4 ns.length:=lU ns.length 0 4;rw[ea,eb]at q2;lia
 have s17:=s10.trans s67;refine⟨eJ.of (s17 _ _ hlow),dW (j:=2) rfl,?_⟩;refine⟨Jd,Jd,c2,l2,m2,_,rfl,eJ.of g7,by lia,s17 _ _ h2,by simp,λx hx=>?_,λ_ _ z=>z,λt2 v2 H8 s8 d2 w2 z2' y2'=>?_⟩
 ·simp only[aB,aF,or_false]at hx;rcases hx with rfl|rfl
  ·exact⟨a2,"star",0,rfl,s17 _ _ e2,by decide,.inl ⟨rfl,rfl⟩⟩
  ·exact⟨a3,"sta",1,rfl,s17 _ _ e3,by decide,.inr ⟨rfl,rfl⟩⟩
 have s68:=s67.trans s8;refine⟨fM,et λb2 H9 hb2 s9 g9=>?_⟩;have s69:=s68.trans s9;have at9:=s69 _ _ g10;have np2:p2≠l:=λz=>by subst z;rw[g10]at hp2;cases hp2
 refine⟨at9,by rw[sizeLine_eq];simp,?_⟩;have t10:=fP (o:=.lst ([.ref b0]++[.ref b1]++[.ref b2])) at9;have k10:=keep at9 (rfl:upd H9 l (.lst ([.ref b0]++[.ref b1]++[.ref b2]))=_);refine(k l [.ref b0,.ref b1,.ref b2] t0 t1 t2 _ (eI (s10.trans s69) nl) nl dR (.cons ((B0'.mono (dh s69) λp xs _ h=>s69 _ _ h).mono t10 k10) (.cons ((B1.mono (dh s69) λp xs _ h=>s69 _ _ h).mono t10 k10) (.cons ⟨b2,p2,v2,rfl,t10 _ _ g9,k10 _ _ np2 (((s7.trans s8).trans s9) _ _ g6),np2,(d2.mono (dh s9)).mono t10⟩ .nil))) w0 w1 w2 (by lia) (by lia) (by lia) (by lia) (by lia))
theorem OC(h:sf K vs H Q E):MS K (gr Q) (start ["_law_cells","_law_wild","_law_low","_law_book"] vs) H:=by
 obtain⟨c,wild,ns,rfl,hc,hn,k⟩:=h;refine⟨fM,et λl0 H0 hl0 s0 g0=>?_⟩;refine⟨fM,et λa1 H1 ha1 s1 g1=>?_⟩;refine⟨fM,et λl1 H2 hl1 s2 g2=>?_⟩;refine⟨fM,et λa2 H3 ha2 s3 g3=>?_⟩;refine⟨fM,et λa3 H4 ha3 s4 g4=>?_⟩;refine⟨fM,et λl2 H5 hl2 s5 g5=>?_⟩;refine⟨fM,et λlow H6 hlow s6 g6=>?_⟩;have u5:=s5.trans s6;have u4:=s4.trans u5;have u3:=s3.trans u4;have u2:=s2.trans u3;have u1:=s1.trans u2;have u0:=s0.trans u1;have nlow:H low=none:=(s0.trans (s1.trans (s2.trans (s3.trans (s4.trans s5))))).free hlow;refine⟨_,rfl,?_⟩;cases wild with
 | false=>refine fQ ?_;exact qR (Sx:=S0) (u0.seq hc) hn g6 (u1 _ _ g0) (by simp) (λx hx=>by cases hx) (λ_ _ z=>z) (u3 _ _ g2) (u2 _ _ g1) (s6 _ _ g5) (u4 _ _ g3) (u5 _ _ g4) λl us t0 t1 t2 H' s n h b w0 w1 w2=>k l us t0 t1 t2 H' (u0.trans s) (u0.free n) h b w0 w1 w2
 | true=>
  refine qc ?_;refine⟨fM,et λb H7 hb s7 g7=>?_⟩;refine⟨fM,et λlw H8 hlw s8 g8=>?_⟩;have v8:=s7.trans s8;have e8:=v8 _ _ g6;refine⟨e8,rfl,?_⟩;have t9:=fP (o:=.lst [.ref lw,.ref l1,.ref l2]) e8;have n1:l1≠low:=λz=>by subst z;rw[(s3.trans (s4.trans s5)) _ _ g2]at hlow;cases hlow
  have n2:l2≠low:=λz=>by subst z;rw[g5]at hlow;cases hlow
  have nw:lw≠low:=λz=>by subst z;rw[s7 _ _ g6]at hlw;cases hlw
  have u9:dz H (upd H8 low (.lst [.ref lw,.ref l1,.ref l2])):=eI (u0.trans v8) nlow;refine qR (Sx:=OK) (z0:=lw) (u9.seq hc) hn dR (by rw[dj nw];exact g8) (by simp) (λx hx=>?_) DJ (by rw[dj n1];exact v8 _ _ (u3 _ _ g2)) (t9 _ _ (v8 _ _ (u2 _ _ g1))) (by rw[dj n2];exact v8 _ _ (s6 _ _ g5)) (t9 _ _ (v8 _ _ (u4 _ _ g3))) (t9 _ _ (v8 _ _ (u5 _ _ g4))) λl us t0 t1 t2 H' s n h b w0 w1 w2=>k l us t0 t1 t2 H' (u9.trans s) (u9.free n) h b w0 w1 w2;obtain rfl:x=.ref b:=by simpa using hx
  exact⟨b,"st",2,rfl,t9 _ _ (s8 _ _ g7),by decide,rfl,rfl⟩
end S9
namespace SW
open PySem L2
def Fy(H:Hp)(u:V):Prop:=∃(q r:Addr)(w:Str)(ks:List Int),u=.ref q∧H q=some (.tup [.str w,.ref r])∧H r=some (.tup (ks.map V.int))
def sY:Sp:=λvs H Q _=>∃(p sl:Addr)(pv:V)(t:T)(m:Int)(us:List V),vs=[.ref p]∧H p=some (.tup [.str "done",pv,.ref sl,.int m])∧gN H t pv∧t.size≤5000000∧H sl=some (.lst us)∧(∀u∈us,Fy H u)∧∀H',dz H H'→Q (.bl true) H'
end SW
namespace S9
open PySem L2 SW
variable {K:aA}{vs:List V}{H:Hp}{Q:VK}{E:XK}
theorem OB(h:sY vs H Q E):MR K (gr Q) (start ["_law_found","_law_one","_law_k"] vs) H:=by
 obtain⟨p,sl,pv,t,m,us,rfl,hp,hd,ht,hs,ha,k⟩:=h;refine⟨.tup hp,fV,_,rfl,fQ ?_⟩;refine⟨.inr (eD.of hp),rfl,_,rfl,eN rfl ?_⟩;refine⟨eD.of hp,rfl,.str _,ff,_,rfl,fQ ?_⟩;refine⟨eD.of hp,rfl,rfl,_,rfl,eN (by decide) ?_⟩;refine⟨eD.of hp,rfl,m,rfl,_,rfl,fQ ?_⟩;refine⟨eD.of hp,rfl,.lst hs,tQ,_,rfl,fQ ?_⟩;refine⟨eD.of hp,rfl,eJ.of hs,?_⟩;refine gY (K:=K) (a:=sl) (xs:=us) (λi σ H'=>(∃j1 j2,σ=[some (.ref p),j1,j2])∧H'=H) ⟨⟨_,_,rfl⟩,rfl⟩ (λi σ H' _ hP=>by rw[hP.2];exact eJ.of hs) ?_ ?_
 ·rintro i u σ H1 hi ⟨⟨j1,j2,rfl⟩,rfl⟩;obtain⟨q,r,w,ks,rfl,h1,h2⟩:=ha u (ac hi);refine⟨.tup h1,fV,_,rfl,fQ ?_⟩;refine⟨.inr (eD.of h1),rfl,_,rfl,eN rfl ?_⟩;refine⟨eD.of h1,rfl,.str _,ff,_,rfl,fQ ?_⟩;refine⟨eD.of h1,rfl,.tup h2,fV,_,rfl,fQ ?_⟩;refine⟨eD.of h1,rfl,eD.of h2,?_⟩;refine⟨λi m σ H'=>m=ks.length-i∧i≤ks.length∧(∃j2,σ=[some (.ref p),some (.ref q),j2])∧H'=H1,⟨_,rfl,aU _,⟨_,rfl⟩,rfl⟩,?_⟩;rintro i' m' σ' H' ⟨rfl,hi',⟨j2',rfl⟩,rfl⟩;by_cases e:i'=ks.length
  ·exact .inl ⟨⟨_,eD.of h2,by simp[e]⟩,⟨_,_,rfl⟩,rfl⟩
  ·have hlt:i'<ks.length:=by lia
   refine .inr ⟨⟨_,.int ks[i'],eD.of h2,by simp[hlt]⟩,_,λσ2 H2 h=>⟨ks.length-(i'+1),by lia,h⟩,?_⟩;rintro x H2 ⟨rfl,hx⟩;have hx:=hx _ (eD.of h2);rw[ae,aI hlt]at hx;cases hx;refine⟨ks[i'],rfl,_,rfl,fQ ?_⟩;exact⟨rfl,by lia,⟨_,rfl⟩,rfl⟩
 ·rintro σ H1 ⟨⟨j1,j2,rfl⟩,rfl⟩;exact⟨eD.of hp,rfl,t,pv,rfl,hd,ht,k⟩
end S9
namespace SW
open PySem L2
abbrev Ow:=Str→Option Int
def Ow.put(o:Ow)(w:Str)(x:Int):Ow:=λy=>if y=w then some x else o y
def Ow.none:Ow:=λ_=>.none
abbrev En:=T×List Int×Ow
def iA:En→Int→List En
 | (.sum a b,p,o),_=>[(a,p++[0],o),(b,p++[1],o)]
 | (.less a b,p,o),_=>[(a,p++[0],o),(b,p++[1],o)]
 | (.cho a b c,p,o),_=>[(a,p++[0],o),(b,p++[1],o),(c,p++[2],o)]
 | (.lt w a b,p,o),x=>[(a,p++[0],o),(b,p++[1],Ow.put o w x)]
 | (.st1 _ a,p,o),_=>[(a,p++[0],o)]
 | (.st2 _ a b,p,o),_=>[(a,p++[0],o),(b,p++[1],o)]
 | (.num _,_,_),_=>[]
 | (.name _,_,_),_=>[]
 | (.st0 _,_,_),_=>[]
def pre(c:Int):T→List Int→Ow→Nat→List En
 | .num n,p,o,_=>[(.num n,p,o)]
 | .name w,p,o,_=>[(.name w,p,o)]
 | .sum a b,p,o,i=>(.sum a b,p,o)::(pre c a (p++[0]) o (i+1)++pre c b (p++[1]) o (i+1+a.size))
 | .less a b,p,o,i=>(.less a b,p,o)::(pre c a (p++[0]) o (i+1)++pre c b (p++[1]) o (i+1+a.size))
 | .cho a b d,p,o,i=>(.cho a b d,p,o)::(pre c a (p++[0]) o (i+1)++(pre c b (p++[1]) o (i+1+a.size)++pre c d (p++[2]) o (i+1+a.size+b.size)))
 | .lt w a b,p,o,i=>(.lt w a b,p,o)::(pre c a (p++[0]) o (i+1)++pre c b (p++[1]) (Ow.put o w (c+((i+1:Nat):Int))) (i+1+a.size))
 | .st0 w,p,o,_=>[(.st0 w,p,o)]
 | .st1 w a,p,o,i=>(.st1 w a,p,o)::pre c a (p++[0]) o (i+1)
 | .st2 w a b,p,o,i=>(.st2 w a b,p,o)::(pre c a (p++[0]) o (i+1)++pre c b (p++[1]) o (i+1+a.size))
def iS(c:Int):List En→Nat→List En
 | [],_=>[]
 | e::r,i=>pre c e.1 e.2.1 e.2.2 i++iS c r (i+e.1.size)
theorem oT(c:Int)(e:En)(r:List En)(i:Nat):e::iS c (iA e (c+((i+1:Nat):Int))++r) (i+1)=iS c (e::r) i:=by
 obtain⟨t,p,o⟩:=e;cases t with
 | num n=>simp only[iA,ak,iS,pre,aO,T.size]
 | name n=>simp only[iA,ak,iS,pre,aO,T.size]
 | st0 n=>simp only[iA,ak,iS,pre,aO,T.size]
 | sum a b=>simp only[iA,ak,iS,pre,aO,aV,T.size];rw[show i+1+a.size+b.size=i+(a.size+b.size+1) by lia]
 | less a b=>simp only[iA,ak,iS,pre,aO,aV,T.size];rw[show i+1+a.size+b.size=i+(a.size+b.size+1) by lia]
 | cho a b d=>simp only[iA,ak,iS,pre,aO,aV,T.size];rw[show i+1+a.size+b.size+d.size=i+(a.size+b.size+d.size+1) by lia]
 | lt w a b=>simp only[iA,ak,iS,pre,aO,aV,T.size];rw[show i+1+a.size+b.size=i+(a.size+b.size+1) by lia]
 | st1 w a=>simp only[iA,ak,iS,pre,aO,aV,T.size];rw[show i+1+a.size=i+(a.size+1) by lia]
 | st2 w a b=>simp only[iA,ak,iS,pre,aO,aV,T.size];rw[show i+1+a.size+b.size=i+(a.size+b.size+1) by lia]
theorem md(e:En)(x:Int):(iA e x).map (·.1)=e.1.kids:=by obtain⟨t,p,o⟩:=e;cases t<;>rfl
theorem rQ(e:En)(x:Int):(iA e x).length=e.1.kids.length:=by rw[←md e x,aT]
theorem CP{e k:En}{x:Int}{j:Nat}(h:(iA e x)[j]?=some k):k.2.1=e.2.1++[(j:Int)]∧((∃w a b,e.1=.lt w a b∧j=1∧k.2.2=Ow.put e.2.2 w x)∨((∀w a b,e.1=.lt w a b→j≠1)∧k.2.2=e.2.2)):=by
 obtain⟨t,p,o⟩:=e;cases t<;>(try (simp only[iA]at h))<;>(match j,h with
  | 0,h=>first
   | (cases h;exact⟨rfl,.inr ⟨λ_ _ _ _=>by decide,rfl⟩⟩)
   | (cases h)
  | 1,h=>first
   | (cases h;exact⟨rfl,.inl ⟨_,_,_,rfl,rfl,rfl⟩⟩)
   | (cases h;exact⟨rfl,.inr ⟨λ_ _ _ z=>(by cases z),rfl⟩⟩)
   | (cases h)
  | 2,h=>first
   | (cases h;exact⟨rfl,.inr ⟨λ_ _ _ z=>(by cases z),rfl⟩⟩)
   | (cases h)
  | j+3,h=>cases h)
def JW(kvs:List (fO×V))(o:Ow):Prop:=∀w:Str,fW kvs (.inr w:fO)=(o w).map V.int
theorem JW.put(h:JW kvs g)(w:Str)(x:Int):JW (gH kvs (.inr w:fO) (.int x)) (Ow.put g w x):=λy=>by
 rw[jo];by_cases e:y=w
 ·subst e;simp[Ow.put]
 ·have:¬((.inr y:fO)=.inr w):=λz=>e (Sum.inr.inj z);simp[Ow.put,e,this,h y]
def DC(H:Hp)(e:En)(u:V):Prop:=∃(q pp od:Addr)(v:V)(kvs:List (fO×V)),u=.ref q∧H q=some (.tup [v,.ref pp,.ref od])∧gN H e.1 v∧H pp=some (.tup (e.2.1.map V.int))∧H od=some (.dK kvs)∧JW kvs e.2.2∧kvs.length+e.1.size≤1000∧e.2.1.length+e.1.size≤1000
theorem DC.mono(m:fR H H')(k:vW H H')(h:DC H e u):DC H' e u:=by obtain⟨q,pp,od,v,kvs,r1,r2,r3,r4,r5,r6⟩:=h;exact⟨q,pp,od,v,kvs,r1,m _ _ r2,r3.mono m,m _ _ r4,k _ _ r5,r6⟩
inductive EL(H:Hp):List En→List V→Prop where
 | nil:EL H [] []
 | cons{e:En}{u:V}{es:List En}{us:List V}:DC H e u→EL H es us→EL H (e::es) (u::us)
inductive ER(H:Hp):List En→List V→Prop where
 | nil:ER H [] []
 | snoc{e:En}{u:V}{es:List En}{us:List V}:ER H es us→DC H e u→ER H (e::es) (us++[u])
theorem EL.mono(m:fR H H')(k:vW H H'):∀{es:List En}{us:List V},EL H es us→EL H' es us
 | _,_,.nil=>.nil
 | _,_,.cons a r=>.cons (a.mono m k) (EL.mono m k r)
theorem ER.mono(m:fR H H')(k:vW H H'):∀{es:List En}{us:List V},ER H es us→ER H' es us
 | _,_,.nil=>.nil
 | _,_,.snoc r a=>.snoc (ER.mono m k r) (a.mono m k)
theorem EL.snoc:∀{es:List En}{us:List V},EL H es us→DC H e u→EL H (es++[e]) (us++[u])
 | _,_,.nil,h=>.cons h .nil
 | _,_,.cons a r,h=>.cons a (EL.snoc r h)
theorem EL.length:∀{es:List En}{us:List V},EL H es us→us.length=es.length
 | _,_,.nil=>rfl
 | _,_,.cons _ r=>by rw[aE,aE,EL.length r]
theorem ER.length:∀{es:List En}{us:List V},ER H es us→us.length=es.length
 | _,_,.nil=>rfl
 | _,_,.snoc r _=>by rw[aD,aE,ER.length r];rfl
def uL(es:List En):Nat:=(es.map λe=>e.1.size).sum
theorem qF(e:En)(es:List En):uL (e::es)=e.1.size+uL es:=by simp[uL]
theorem BC(e:En)(x:Int):uL (iA e x)+1=e.1.size:=by have h:=jL e.1;rw[←md e x]at h;unfold uL;unfold fE at h;rw[cG]at h;exact h
theorem qG(a b:List En):uL (a++b)=uL a+uL b:=by simp[uL]
theorem xm:∀es:List En,es.length≤uL es
 | []=>aC _
 | e::r=>by have:=xm r;have:=e.1.size_pos;rw[qF,aE];lia
end SW
namespace S3
open PySem L2 SW
def Gz(K:aA):TS:=(dq (eG (iB uA (dP (dQ 8) dZ)) (db 11)) (lV (dQ 11) (eC (eF K) (dQ 6) (tC (.int 1))) (eC m9 (dQ 3) (iB (gT K) (dP (dQ 4) dZ)))))
def Gy(K:aA):TS:=(fj (kU (eL (eC kN (eC (eF K) (dQ 6) (tC (.int 0))) (tC (.str "let")))) (eL (eC kN (dQ 10) (tC (.int 1))))) (Gz K) fU)
def An(K:aA):TS:=(dq (eG (dQ 8) (db 11)) (dq (Gy K) (fG (jm K "list" ef (dQ 5) (dP (fS (dP (eC (gO K) (dQ 9) (dQ 10)) (dP (eC (qT K) (dQ 7) (fS (dP (dQ 10) dZ))) (dP (dQ 11) dZ)))) dZ)))))
def Am(K:aA):TS:=(dq (eG (mV K "list" mY (dQ 5)) (lb K 3 (gI (db 6) (gI (db 7) (gI (db 8) lc))))) (dq (fG (jm K "list" ef (dQ 4) (dP (fS (dP (dQ 6) (dP (dQ 7) (dP (dQ 8) dZ)))) dZ))) (dq (eG (eY gX [] E0 (dP (dQ 6) dZ)) (db 9)) (iP (oq (dP (eC iZ (iB (gT K) (dP (dQ 9) dZ)) (tC (.int 1))) (dP (mK gU (tC (.int 1))) (dP (mK gU (tC (.int 1))) dZ)))) (db 10) (An K)))))
def Gx(K:aA):TS:=(eG (eC (eF K) (dQ 6) (tC (.int 1))) (db 15))
def Ak(K:aA):TS:=(fj (eL (eC (Fc K false) (eC (eF K) (dQ 6) (tC (.int 0))) (fX (dP (tC (.str "number")) (dP (tC (.str "name")) (dP (tC (.str "stamp")) dZ)))))) (Gx K) fU)
def Gw(K:aA):TS:=(eG (eC m9 (eC m9 (dQ 3) (dQ 10)) (tC (.int 1))) (db 15))
def Aj(K:aA):TS:=(fj (eL (eC kN (eC (eF K) (dQ 6) (tC (.int 0))) (tC (.str "let")))) (Gw K) fU)
def Gv(K:aA):TS:=(eG (rB (dQ 8) (eC (eF K) (dQ 6) (tC (.int 1)))) (db 15))
def xU(K:aA):TS:=(fj (kU (eL (eC kN (eC (eF K) (dQ 6) (tC (.int 0))) (tC (.str "name")))) (tB (BA (eC (eF K) (dQ 6) (tC (.int 1))) (dQ 8)))) (Gv K) fU)
def DX(K:aA):TS:=(fG (jm K "list" ef (dQ 12) (dP (rB (dQ 2) (eC (eF K) (dQ 6) (tC (.int 1)))) dZ)))
def xS(K:aA):TS:=(fG (jm K "list" ef (dQ 12) (dP (fS (dP (eC (eF K) (dQ 6) (tC (.int 0))) (dP (dQ 15) (dP (fS (dP (dQ 1) (dP (dQ 7) dZ))) (dP (dQ 14) dZ))))) dZ)))
def xR(K:aA):TS:=(fj (kU (eL (eC kN (eC (eF K) (dQ 6) (tC (.int 0))) (tC (.str "name")))) (kU (tB (pI (eC (eF K) (dQ 6) (tC (.int 1))) (dQ 8))) (tB (BA (eC (eF K) (dQ 6) (tC (.int 1))) (dQ 2))))) (DX K) (xS K))
def DW(K:aA):TS:=(dq (eG (eC (gO K) (dQ 4) (dQ 10)) (lb K 3 (gI (db 6) (gI (db 7) (gI (db 8) lc))))) (dq (eG (iB (gT K) (dP (eY gX [] E0 (dP (dQ 6) dZ)) dZ)) (db 13)) (dq (eG (uX K (mT (jM K) (dQ 12) (gD (eC iZ (iB (gT K) (dP (dQ 12) dZ)) (dQ 13))) fu)) (db 14)) (dq (eG (mT (jM K) (dQ 12) fu (gD (eC iZ (iB (gT K) (dP (dQ 12) dZ)) (dQ 13)))) (db 12)) (dq (eG (tC .non) (db 15)) (dq (Ak K) (dq (Aj K) (dq (xU K) (xR K)))))))))
def MI(K:aA):TS:=(dq (eG (fX dZ) (db 4)) (dq (eG (fX (dP (fS (dP (dQ 0) (dP (fS dZ) (dP i8 dZ)))) dZ)) (db 5)) (dq (iF (eL (eC (ku K) (dQ 5) (fX dZ))) (Am K)) (dq (eG (fX dZ) (db 12)) (dq (iP (oq (dP (eC iZ (iB (gT K) (dP (dQ 4) dZ)) (tC (.int 1))) (dP (mK gU (tC (.int 1))) (dP (mK gU (tC (.int 1))) dZ)))) (db 10) (DW K)) (fY (fS (dP (eC (gO K) (dQ 12) (tC (.int 0))) (dP (eC m9 (dQ 3) (iB (gT K) (dP (dQ 4) dZ))) dZ)))))))))
end S3
namespace SW
open PySem L2
structure qr(H₀ H:Hp)(ol tl:Addr)(os st:List En)(ous tus:List V):Prop where
 same:dz H₀ H
 n1:H₀ ol=none
 n2:H₀ tl=none
 ne:ol≠tl
 ol_:H ol=some (.lst ous)
 tl_:H tl=some (.lst tus)
 el:EL H os ous
 er:ER H st tus
section
variable {H₀ H H':Hp}{ol tl q:Addr}{os st:List En}{ous tus:List V}{e:En}{u:V}
theorem qr.grow(B:qr H₀ H ol tl os st ous tus)(s:dz H H'):qr H₀ H' ol tl os st ous tus:=
 ⟨B.same.trans s,B.n1,B.n2,B.ne,s _ _ B.ol_,s _ _ B.tl_,B.el.mono (dh s) (gn s),B.er.mono (dh s) (gn s)⟩
theorem qr.push(B:qr H₀ H ol tl os st ous tus)(he:DC H e (.ref q)):qr H₀ (upd H tl (.lst (tus++[.ref q]))) ol tl os (e::st) ous (tus++[.ref q]):=
 have m:=fP (o:=.lst (tus++[.ref q])) B.tl_;have k:=lf (o:=.lst (tus++[.ref q])) B.tl_
 ⟨eI B.same B.n2,B.n1,B.n2,B.ne,by rw[dj B.ne];exact B.ol_,dR,B.el.mono m k,.snoc (B.er.mono m k) (he.mono m k)⟩
theorem qr.put(B:qr H₀ H ol tl os st ous tus)(he:DC H e (.ref q)):qr H₀ (upd H ol (.lst (ous++[.ref q]))) ol tl (os++[e]) st (ous++[.ref q]) tus:=
 have m:=fP (o:=.lst (ous++[.ref q])) B.ol_;have k:=lf (o:=.lst (ous++[.ref q])) B.ol_
 ⟨eI B.same B.n1,B.n1,B.n2,B.ne,dR,by rw[dj B.ne.symm];exact B.tl_,(B.el.mono m k).snoc (he.mono m k),B.er.mono m k⟩
theorem qr.pop(B:qr H₀ H ol tl os (e::st) ous (tus++[u]))(h:ER H st tus):qr H₀ (upd H tl (.lst tus)) ol tl os st ous tus:=
 have m:=fP (o:=.lst tus) B.tl_;have k:=lf (o:=.lst tus) B.tl_
 ⟨eI B.same B.n2,B.n1,B.n2,B.ne,by rw[dj B.ne];exact B.ol_,dR,B.el.mono m k,h.mono m k⟩
end
structure DB(H:Hp)(e:En)(v:V)(pp od:Addr)(kvs:List (fO×V)):Prop where
 den:gN H e.1 v
 path:H pp=some (.tup (e.2.1.map V.int))
 own:H od=some (.dK kvs)
 ow:JW kvs e.2.2
 f1:kvs.length+e.1.size≤1000
 f2:e.2.1.length+e.1.size≤1000
theorem DB.mono(m:fR H H')(k:vW H H')(h:DB H e v pp od kvs):DB H' e v pp od kvs:=
 ⟨h.den.mono m,m _ _ h.path,k _ _ h.own,h.ow,h.f1,h.f2⟩
end SW
namespace S3
open PySem L2 SW
variable {K:aA}{vs:List V}{H H₀:Hp}{Q:VK}{E:XK}
theorem zI{v0 src giv:Option V}{c:Int}{ol tl pp od il nd:Addr}{pv x:V}{os st:List En}{ous tus us:List V}{e k:En}{j:Nat}{kvs kvs':List (fO×V)}{D:iN}{j12 j13 j14 j15:Option V}
  (B:qr H₀ H ol tl os st ous tus) (hp:H pp=some (.tup (e.2.1.map V.int))) (hil:H il=some (.lst us)) (hx:us[j]?=some x) (dk:gN H k.1 x) (ek:k.2.1=e.2.1++[(j:Int)]) (hn:H nd=some (.dK kvs')) (ow:JW kvs' k.2.2) (f1:kvs'.length+k.1.size≤1000) (f2:k.2.1.length+k.1.size≤1000) (few:tus.length≤5000)
  (hD:∀(q:Addr)(H':Hp),dz H H'→∀H'',H''=upd H' tl (.lst (tus++[.ref q]))→qr H₀ H'' ol tl os (k::st) ous (tus++[.ref q])→D.nx [v0,src,giv,some (.int c),some (.ref ol),some (.ref tl),some pv,some (.ref pp),some (.ref od),some (.ref il),some (.int j),some (.ref nd),j12,j13,j14,j15] H''):
  (fG (jm K "list" ef (dQ 5) (dP (fS (dP (eC (gO K) (dQ 9) (dQ 10)) (dP (eC (qT K) (dQ 7) (fS (dP (dQ 10) dZ))) (dP (dQ 11) dZ)))) dZ))) D
   [v0,src,giv,some (.int c),some (.ref ol),some (.ref tl),some pv,some (.ref pp),some (.ref od),some (.ref il),some (.int j),some (.ref nd),j12,j13,j14,j15] H:=by
 refine⟨.inl ⟨rfl,_,eJ.of B.tl_⟩,eJ.of hil,dW hx,fM,et λkt H1 hkt s1 g1=>?_⟩;have rest:∀(pq:Addr)(H2:Hp),dz H H2→H2 pq=some (.tup (k.2.1.map V.int))→([x,.ref pq,.ref nd]:List V).length≤sizeLine∧∀p,H2 p=none→ef (.ref tl) [.ref p] (upd H2 p (.tup [x,.ref pq,.ref nd])) λ_ H1=>D.nx [v0,src,giv,some (.int c),some (.ref ol),some (.ref tl),some pv,some (.ref pp),some (.ref od),some (.ref il),some (.int j),some (.ref nd),j12,j13,j14,j15] H1:=by intro pq H2 s2 hpq;refine⟨fM,λq hq=>?_⟩;obtain⟨H3,s3,g3,e3⟩:∃H3,dz H2 H3∧H3 q=some (.tup [x,.ref pq,.ref nd])∧upd H2 q (.tup [x,.ref pq,.ref nd])=H3:=⟨_,dX hq,dR,rfl⟩;rw[e3];have s23:=s2.trans s3;have B3:=B.grow s23;refine⟨B3.tl_,by rw[sizeLine_eq];lia,hD q H3 s23 _ rfl (B3.push ⟨q,pq,nd,x,kvs',rfl,g3,dk.mono (dh s23),s3 _ _ hpq,s23 _ _ hn,ow,f1,f2⟩)⟩
 refine⟨eD.of (s1 _ _ hp),eD.of g1,?_,λhe=>?_,(λ_ he=>by cases he),λhe _ pq hpq=>?_⟩
 ·rw[aT];simp only[aE,am];rw[ek,aD]at f2;rw[sizeLine_eq];lia
 ·refine(rest kt H1 s1 ?_);have:e.2.1=[]:=by simpa using he
  rw[ek,this];exact g1
 ·have s2:=dX (o:=.tup (e.2.1.map V.int++[.int j])) hpq;refine(rest pq _ (s1.trans s2) ?_);rw[ek,dR];simp
theorem wB{v0 src giv:Option V}{c:Int}{ol tl pp od il:Addr}{pv:V}{os st:List En}{ous tus us:List V}{e:En}{kvs:List (fO×V)}{D:iN}{j10 j11 j12 j13 j14 j15:Option V}
  (B:qr H₀ H ol tl os st ous tus) (O:DB H e pv pp od kvs) (hil:H il=some (.lst us)) (nil:il≠tl) (dk:gJ H e.1.kids us) (few:tus.length≤4000)
  (hD:∀(tus':List V)(H':Hp)(j10 j11:Option V),qr H₀ H' ol tl os (iA e (c+(os.length:Int))++st) ous tus'→D.nx [v0,src,giv,some (.int c),some (.ref ol),some (.ref tl),some pv,some (.ref pp),some (.ref od),some (.ref il),j10,j11,j12,j13,j14,j15] H'):
  (iP (oq (dP (eC iZ (iB (gT K) (dP (dQ 9) dZ)) (tC (.int 1))) (dP (mK gU (tC (.int 1))) (dP (mK gU (tC (.int 1))) dZ)))) (db 10) (An K)) D
   [v0,src,giv,some (.int c),some (.ref ol),some (.ref tl),some pv,some (.ref pp),some (.ref od),some (.ref il),j10,j11,j12,j13,j14,j15] H:=by
 have hlen:=dk.length;have hkl:=rQ e (c+(os.length:Int));have hk3:e.1.kids.length≤3:=by cases e.1<;>simp[T.kids]
 refine⟨.inl (eJ.of hil),(us.length:Int)-1,-1,rfl,⟨by lia,by lia,by lia,by lia⟩,?_⟩;have en:((us.length:Int)-1 - -1).toNat=us.length:=by lia
 rw[en];refine⟨λi m σ H'=>m=us.length-i∧i≤us.length∧(∃j10 j11,σ=[v0,src,giv,some (.int c),some (.ref ol),some (.ref tl),some pv,some (.ref pp),some (.ref od),some (.ref il),j10,j11,j12,j13,j14,j15])∧DB H' e pv pp od kvs∧H' il=some (.lst us)∧gJ H' e.1.kids us∧∃tus',tus'.length=tus.length+i∧qr H₀ H' ol tl os ((iA e (c+(os.length:Int))).drop (us.length-i)++st) ous tus',
  ⟨_,rfl,aU _,⟨_,_,rfl⟩,O,hil,dk,tus,rfl,by rw[bi,b5 (by lia)];exact B⟩,?_⟩
 rintro i m σ H' ⟨rfl,hi,⟨j10,j11,rfl⟩,O',hil',dk',tus',hl',B'⟩;by_cases hn:i=us.length
 ·refine .inl ⟨by show us.length≤i;lia,hD tus' H' _ _ ?_⟩;rw[hn,bJ,ai]at B';exact B'
 ·have hlt:i<us.length:=by lia
  refine .inr ⟨show i<us.length from hlt,_,λσ2 H2 h=>⟨us.length-(i+1),by lia,h⟩,?_⟩;rintro v3 H3 ⟨rfl,rfl⟩;obtain⟨j,hj⟩:∃j:Nat,j=us.length-1-i:=⟨_,rfl⟩;have hjl:j<us.length:=by lia
  rw[show(us.length:Int)-1-(i:Int)=(j:Int) by lia];obtain⟨k,hk⟩:∃k,(iA e (c+(os.length:Int)))[j]?=some k:=⟨(iA e (c+(os.length:Int)))[j]'(by lia),by rw[aI]⟩;obtain⟨x,hx⟩:∃x,us[j]?=some x:=⟨us[j],by rw[aI]⟩;obtain⟨tk,htk,dx⟩:=pW dk' hx;have ek:tk=k.1:=by rw[←md e (c+(os.length:Int)),ae,hk]at htk;exact(Option.some.inj htk).symm
  subst ek;obtain⟨e1,e2⟩:=CP hk;have hsz:=qZ (ac htk);have hdrop:(iA e (c+(os.length:Int))).drop (us.length-(i+1))=k::(iA e (c+(os.length:Int))).drop (us.length-i):=by rw[show us.length-(i+1)=j by lia,show us.length-i=j+1 by lia];obtain⟨hjk,e⟩:=aN.mp hk;rw[bN hjk,e]
  have f2:k.2.1.length+k.1.size≤1000:=by have:=O'.f2;rw[e1,aD];simp only[aE,am];lia
  have tail:∀(nd:Addr)(kvs':List (fO×V))(H4:Hp),dz H3 H4→H4 nd=some (.dK kvs')→JW kvs' k.2.2→kvs'.length+k.1.size≤1000→_:=λnd kvs' H4 s4 hnd ow f1=>
   zI (K:=K) (v0:=v0) (src:=src) (giv:=giv) (c:=c) (pv:=pv) (od:=od) (nd:=nd) (j12:=j12) (j13:=j13) (j14:=j14) (j15:=j15) (D:={D with nx:=λσ' H''=>us.length-(i+1)=us.length-(i+1)∧i+1≤us.length∧(∃j10 j11,σ'=[v0,src,giv,some (.int c),some (.ref ol),some (.ref tl),some pv,some (.ref pp),some (.ref od),some (.ref il),j10,j11,j12,j13,j14,j15])∧DB H'' e pv pp od kvs∧H'' il=some (.lst us)∧gJ H'' e.1.kids us∧∃tus',tus'.length=tus.length+(i+1)∧qr H₀ H'' ol tl os ((iA e (c+(os.length:Int))).drop (us.length-(i+1))++st) ous tus',ct:=λσ' H''=>us.length-(i+1)=us.length-(i+1)∧i+1≤us.length∧(∃j10 j11,σ'=[v0,src,giv,some (.int c),some (.ref ol),some (.ref tl),some pv,some (.ref pp),some (.ref od),some (.ref il),j10,j11,j12,j13,j14,j15])∧DB H'' e pv pp od kvs∧H'' il=some (.lst us)∧gJ H'' e.1.kids us∧∃tus',tus'.length=tus.length+(i+1)∧qr H₀ H'' ol tl os ((iA e (c+(os.length:Int))).drop (us.length-(i+1))++st) ous tus',bk:=D.nx}) (e:=e) (k:=k) (j:=j) (kvs:=kvs) (kvs':=kvs')
    (B'.grow s4) (s4 _ _ O'.path) (s4 _ _ hil') hx (dx.mono (dh s4)) e1 hnd ow f1 f2 (by lia) λq H5 s5 H6 e6 B6=>by have s45:=s4.trans s5;have B5:=(B'.grow s45);have m:=fP (o:=.lst (tus'++[.ref q])) B5.tl_;have kk:=lf (o:=.lst (tus'++[.ref q])) B5.tl_;rw[←e6]at m kk;refine⟨rfl,hlt,⟨_,_,rfl⟩,(O'.mono (dh s45) (gn s45)).mono m kk,?_,(dk'.mono (dh s45)).mono m,tus'++[.ref q],by simp[hl'];lia,by rw[hdrop];exact B6⟩;rw[e6,dj nil];exact s45 _ _ hil'
  have plain:k.2.2=e.2.2→_:=λeo=>tail od kvs H3 (λ_ _ z=>z) O'.own (by rw[eo];exact O'.ow) (by have:=O'.f1;lia);obtain⟨p9,ks,epv,hp9,_⟩:=O'.den.open;subst epv;refine ?_;refine⟨eD.of hp9,gx e.1 ks,rfl,_,rfl,?_⟩;refine jP (λhlet=>?_) (λhlet=>?_)
  ·obtain⟨w,a,b,elt⟩:=nJ (V.str.inj (of_decide_eq_true hlet));refine⟨rfl,_,rfl,?_⟩;refine jP (λhj1=>?_) (λhj1=>?_)
   ·have hj1:j=1:=by have:=V.int.inj (of_decide_eq_true hj1);lia
    have eo:k.2.2=Ow.put e.2.2 w (c+(os.length:Int)):=by
     rcases e2 with⟨w',a',b',q1,_,q2⟩|⟨q1,_⟩
     ·rw[elt]at q1;cases q1;exact q2
     ·exact absurd hj1 (q1 w a b elt)
    refine⟨od,kvs,rfl,.inl O'.own,et λnd H4 hnd s4 g4=>?_⟩;have hol:=B'.el.length;have hw9:ph (hd e.1++ks) 1=some (.str w):=by rw[elt];exact dW (j:=1) rfl
    refine⟨.inl (eJ.of (s4 _ _ B'.ol_)),eD.of (s4 _ _ hp9),hw9,nZ.k (k:=.inr w) g4 (by have:=O'.f1;rw[sizeLine_eq];lia),?_⟩;rw[hol];have s5:dz H3 (upd H4 nd (.dK (gH kvs (.inr w:fO) (.int (c+(os.length:Int)))))):=eI s4 hnd;have hpl:=iC kvs (.inr w:fO) (.int (c+(os.length:Int)));refine tail nd _ _ s5 dR (by rw[eo];exact O'.ow.put w _) ?_;have:=O'.f1;show(gH kvs (.inr w:fO) (.int (c+(os.length:Int)))).length+k.1.size≤1000;lia
   ·refine plain ?_;rcases e2 with⟨_,_,_,_,q1,_⟩|⟨_,q2⟩
    ·exact absurd (by rw[q1];rfl) hj1
    ·exact q2
  ·refine fQ (plain ?_);rcases e2 with⟨w',a',b',q1,_,_⟩|⟨_,q2⟩
   ·exact absurd (by rw[q1];exact decide_eq_true rfl) hlet
   ·exact q2
end S3
namespace SW
open PySem L2
theorem iW(c:Int):∀(t:T)(p:List Int)(o:Ow)(i:Nat),(pre c t p o i).length=t.size
 | .num _,_,_,_=>rfl
 | .name _,_,_,_=>rfl
 | .st0 _,_,_,_=>rfl
 | .sum a b,p,o,i=>by simp only[pre,aE,aD,iW c a,iW c b,T.size]
 | .less a b,p,o,i=>by simp only[pre,aE,aD,iW c a,iW c b,T.size]
 | .cho a b d,p,o,i=>by simp only[pre,aE,aD,iW c a,iW c b,iW c d,T.size];lia
 | .lt w a b,p,o,i=>by simp only[pre,aE,aD,iW c a,iW c b,T.size]
 | .st1 w a,p,o,i=>by simp only[pre,aE,iW c a,T.size]
 | .st2 w a b,p,o,i=>by simp only[pre,aE,aD,iW c a,iW c b,T.size]
end SW
namespace S3
open PySem L2 SW
variable {K:aA}{vs:List V}{H H₀:Hp}{Q:VK}{E:XK}
inductive NV(H₀:Hp)(v0 src giv:Option V)(c:Int)(ol tl:Addr)(j12 j13 j14 j15:Option V)(es:List En):Nat→St→Hp→Prop where
 | mk{os st:List En}{ous tus:List V}{j6 j7 j8 j9 j10 j11:Option V}{H':Hp}(b:qr H₀ H' ol tl os st ous tus)(e:os++iS c st os.length=es)(z:uL st+os.length≤900):NV H₀ v0 src giv c ol tl j12 j13 j14 j15 es (uL st) [v0,src,giv,some (.int c),some (.ref ol),some (.ref tl),j6,j7,j8,j9,j10,j11,j12,j13,j14,j15] H'
theorem wA
  (B:qr H₀ H ol tl [] st [] tus) (hes:iS c st 0=es) (hsz:uL st≤900)
  (hD:∀(ous:List V)(H':Hp)(j6 j7 j8 j9 j10 j11:Option V),dz H₀ H'→H' ol=some (.lst ous)→EL H' es ous→D.nx [v0,src,giv,some (.int c),some (.ref ol),some (.ref tl),j6,j7,j8,j9,j10,j11,j12,j13,j14,j15] H'):
  (iF (eL (eC (ku K) (dQ 5) (fX dZ))) (Am K)) D [v0,src,giv,some (.int c),some (.ref ol),some (.ref tl),j6,j7,j8,j9,j10,j11,j12,j13,j14,j15] H:=by
 refine⟨NV H₀ v0 src giv c ol tl j12 j13 j14 j15 es,
  ⟨_,.mk B (by simpa using hes) (by simpa using hsz)⟩,?_⟩
 clear B hes hsz j6 j7 j8 j9 j10 j11 st tus;rintro m σ H1 @⟨os,st,ous,tus,j6,j7,j8,j9,j10,j11,_,B,he,hsz⟩;refine⟨fM,λe0 he0=>?_⟩;have s1:=dX (o:=.lst []) he0;have g1:(upd H1 e0 (.lst [])) e0=some (.lst []):=dR;have B1:=B.grow s1;generalize upd H1 e0 (.lst [])=H2 at g1 B1⊢;clear s1 he0 B;refine⟨eJ.of B1.tl_,eJ.of g1,_,rfl,?_⟩;have her:=B1.er;cases her with
 | nil=>
  refine eN rfl (hD ous H2 _ _ _ _ _ _ B1.same B1.ol_ ?_);have:os=es:=by simpa[iS]using he
  rw[←this];exact B1.el
 | @snoc e u st tus her ha=>
  refine fc (by simp) ?_;refine⟨Lt (NV H₀ v0 src giv c ol tl j12 j13 j14 j15 es) (uL (e::st)),λ_ _ h=>h,?_⟩;refine⟨.inl ⟨rfl,_,eJ.of B1.tl_⟩,B1.tl_,jN,?_⟩;rw[iX];have m3:=fP (o:=.lst tus) B1.tl_;have k3:=lf (o:=.lst tus) B1.tl_;have B3:=B1.pop her;have a3:=ha.mono m3 k3;generalize upd H2 tl (.lst tus)=H3 at B3 a3⊢;obtain⟨q,pp,od,pv,kvs,rfl,hq,den,hpp,hod,ow,f1,f2⟩:=a3;refine⟨eD.of hq,rfl,rfl,?_⟩;refine⟨.inl ⟨rfl,_,eJ.of B3.ol_⟩,fM,λq4 hq4=>?_⟩;have s4:=dX (o:=.tup [pv,.ref pp,.ref od]) hq4;have g4:(upd H3 q4 (.tup [pv,.ref pp,.ref od])) q4=some (.tup [pv,.ref pp,.ref od]):=dR;have B4:=B3.grow s4;generalize upd H3 q4 (.tup [pv,.ref pp,.ref od])=H4 at s4 g4 B4⊢;have hol:=B4.el.length;rw[qF]at hsz;refine⟨B4.ol_,by rw[sizeLine_eq];lia,?_⟩;have m5:=fP (o:=.lst (ous++[.ref q4])) B4.ol_;have k5:=lf (o:=.lst (ous++[.ref q4])) B4.ol_;have O4:DB H4 e pv pp od kvs:=⟨den.mono (dh s4),s4 _ _ hpp,s4 _ _ hod,ow,f1,f2⟩;have B5:=B4.put (e:=e) ⟨q4,pp,od,pv,kvs,rfl,g4,O4.den,O4.path,O4.own,ow,f1,f2⟩;have O5:=O4.mono m5 k5;generalize upd H4 ol (.lst (ous++[.ref q4]))=H5 at B5 O5⊢;refine⟨e.1,pv,rfl,O5.den,λil us H6 s6 n6 h6 d6=>?_⟩;have B6:=B5.grow s6;have htl:=B6.er.length;have hst:=xm st;refine wB B6 (O5.mono (dh s6) (gn s6)) h6 (λz=>by subst z;rw[B5.tl_]at n6;cases n6) d6 (by lia) λtus' H7 j10 j11 B7=>?_;have hk:=BC e (c+((os++[e]).length:Int));have hl1:(os++[e]).length=os.length+1:=by simp
  have hfin:uL (iA e (c+((os++[e]).length:Int))++st)+(os++[e]).length≤900:=by rw[qG];generalize uL (iA e (c+((os++[e]).length:Int)))=z at *;lia
  refine⟨uL (iA e (c+((os++[e]).length:Int))++st),by rw[qG,qF];lia,.mk B7 ?_ hfin⟩;rw[←he,aV]
  congr 1
  have:=oT c e st os.length;rw[←this];simp
end S3
namespace SW
open PySem L2
inductive NT where
 | mk(k:Str)(x:V)(src:Str)(path:List Int)(kids:List NT)
mutual
inductive lF(H:Hp):NT→V→Prop where
 | mk{k:Str}{x:V}{src:Str}{path:List Int}{kids:List NT}{p sp pp kl:Addr}{us:List V}:H p=some (.tup [.str k,x,.ref sp,.ref kl])→H sp=some (.tup [.str src,.ref pp])→H pp=some (.tup (path.map V.int))→H kl=some (.lst us)→hG H kids us→lF H (.mk k x src path kids) (.ref p)
inductive hG(H:Hp):List NT→List V→Prop where
 | nil:hG H [] []
 | cons{n:NT}{u:V}{ns:List NT}{us:List V}:lF H n u→hG H ns us→hG H (n::ns) (u::us)
end
mutual
theorem lF.same(s:dz H H'):∀{n:NT}{u:V},lF H n u→lF H' n u
 | _,_,.mk h1 h2 h3 h4 h5=>.mk (s _ _ h1) (s _ _ h2) (s _ _ h3) (s _ _ h4) (hG.same s h5)
theorem hG.same(s:dz H H'):∀{ns:List NT}{us:List V},hG H ns us→hG H' ns us
 | _,_,.nil=>.nil
 | _,_,.cons a r=>.cons (lF.same s a) (hG.same s r)
end
theorem hG.length:∀{ns:List NT}{us:List V},hG H ns us→us.length=ns.length
 | _,_,.nil=>rfl
 | _,_,.cons _ r=>by rw[aE,aE,hG.length r]
theorem hG.append:∀{a b:List NT}{us ws:List V},hG H a us→hG H b ws→hG H (a++b) (us++ws)
 | _,_,_,_,.nil,q=>q
 | _,_,_,_,.cons a r,q=>.cons a (hG.append r q)
theorem hG.reverse:∀{a:List NT}{us:List V},hG H a us→hG H a.reverse us.reverse
 | _,_,.nil=>.nil
 | _,_,.cons a r=>by rw[aq,aq];exact(hG.reverse r).append (.cons a .nil)
theorem hG.take:∀{a:List NT}{us:List V}(n:Nat),hG H a us→hG H (a.take n) (us.take n)
 | _,_,0,_=>.nil
 | _,_,_+1,.nil=>.nil
 | _,_,n+1,.cons a r=>.cons a (hG.take n r)
theorem hG.drop:∀{a:List NT}{us:List V}(n:Nat),hG H a us→hG H (a.drop n) (us.drop n)
 | _,_,0,h=>h
 | _,_,_+1,.nil=>.nil
 | _,_,n+1,.cons _ r=>hG.drop n r
abbrev Gi:=Str→Option NT
def eX(c:Int)(src:Str)(giv:Gi)(e:En)(i:Nat)(ks:List NT):NT:=match e.1 with
 | .num n=>.mk "number" (.int n) src e.2.1 ks
 | .name w=>(match e.2.2 w with
  | some x=>.mk "name" (.int x) src e.2.1 ks
  | none=>(match giv w with
   | some g=>g
   | none=>.mk "name" (.str w) src e.2.1 ks))
 | .sum _ _=>.mk "sum" .non src e.2.1 ks
 | .less _ _=>.mk "less" .non src e.2.1 ks
 | .cho _ _ _=>.mk "choose" .non src e.2.1 ks
 | .lt _ _ _=>.mk "let" (.int (c+i+1)) src e.2.1 ks
 | .st0 w=>.mk "stamp" (.str w) src e.2.1 ks
 | .st1 w _=>.mk "stamp" (.str w) src e.2.1 ks
 | .st2 w _ _=>.mk "stamp" (.str w) src e.2.1 ks
def nt(c:Int)(src:Str)(giv:Gi):T→List Int→Ow→Nat→NT
 | .num n,p,o,i=>eX c src giv (.num n,p,o) i []
 | .name w,p,o,i=>eX c src giv (.name w,p,o) i []
 | .sum a b,p,o,i=>eX c src giv (.sum a b,p,o) i [nt c src giv a (p++[0]) o (i+1),nt c src giv b (p++[1]) o (i+1+a.size)]
 | .less a b,p,o,i=>eX c src giv (.less a b,p,o) i [nt c src giv a (p++[0]) o (i+1),nt c src giv b (p++[1]) o (i+1+a.size)]
 | .cho a b d,p,o,i=>eX c src giv (.cho a b d,p,o) i [nt c src giv a (p++[0]) o (i+1),nt c src giv b (p++[1]) o (i+1+a.size),nt c src giv d (p++[2]) o (i+1+a.size+b.size)]
 | .lt w a b,p,o,i=>eX c src giv (.lt w a b,p,o) i [nt c src giv a (p++[0]) o (i+1),nt c src giv b (p++[1]) (Ow.put o w (c+((i+1:Nat):Int))) (i+1+a.size)]
 | .st0 w,p,o,i=>eX c src giv (.st0 w,p,o) i []
 | .st1 w a,p,o,i=>eX c src giv (.st1 w a,p,o) i [nt c src giv a (p++[0]) o (i+1)]
 | .st2 w a b,p,o,i=>eX c src giv (.st2 w a b,p,o) i [nt c src giv a (p++[0]) o (i+1),nt c src giv b (p++[1]) o (i+1+a.size)]
def ia(c:Int)(src:Str)(giv:Gi):List En→Nat→List NT
 | [],_=>[]
 | e::r,i=>eX c src giv e i ((ia c src giv r (i+1)).take e.1.kids.length)::(ia c src giv r (i+1)).drop e.1.kids.length
theorem gP(c:Int)(src:Str)(giv:Gi):∀(t:T)(p:List Int)(o:Ow)(i:Nat)(r:List En),ia c src giv (pre c t p o i++r) i=nt c src giv t p o i::ia c src giv r (i+t.size)
 | .num n,p,o,i,r=>by simp only[pre,aO,ak,ia,nt,T.kids,am,ay,ai,T.size]
 | .name n,p,o,i,r=>by simp only[pre,aO,ak,ia,nt,T.kids,am,ay,ai,T.size]
 | .st0 n,p,o,i,r=>by simp only[pre,aO,ak,ia,nt,T.kids,am,ay,ai,T.size]
 | .sum a b,p,o,i,r=>by simp only[pre,aO,aV,ia,gP c src giv a,gP c src giv b,nt,T.kids,aE,am,bK,ay,bH,ai,T.size];rw[show i+1+a.size+b.size=i+(a.size+b.size+1) by lia]
 | .less a b,p,o,i,r=>by simp only[pre,aO,aV,ia,gP c src giv a,gP c src giv b,nt,T.kids,aE,am,bK,ay,bH,ai,T.size];rw[show i+1+a.size+b.size=i+(a.size+b.size+1) by lia]
 | .cho a b d,p,o,i,r=>by simp only[pre,aO,aV,ia,gP c src giv a,gP c src giv b,gP c src giv d,nt,T.kids,aE,am,bK,ay,bH,ai,T.size];rw[show i+1+a.size+b.size+d.size=i+(a.size+b.size+d.size+1) by lia]
 | .lt w a b,p,o,i,r=>by simp only[pre,aO,aV,ia,gP c src giv a,gP c src giv b,nt,T.kids,aE,am,bK,ay,bH,ai,T.size];rw[show i+1+a.size+b.size=i+(a.size+b.size+1) by lia]
 | .st1 w a,p,o,i,r=>by simp only[pre,aO,aV,ia,gP c src giv a,nt,T.kids,aE,am,bK,ay,bH,ai,T.size];rw[show i+1+a.size=i+(a.size+1) by lia]
 | .st2 w a b,p,o,i,r=>by simp only[pre,aO,aV,ia,gP c src giv a,gP c src giv b,nt,T.kids,aE,am,bK,ay,bH,ai,T.size];rw[show i+1+a.size+b.size=i+(a.size+b.size+1) by lia]
theorem zw(c:Int)(src:Str)(giv:Gi)(t:T):ia c src giv (pre c t [] Ow.none 0) 0=[nt c src giv t [] Ow.none 0]:=by have:=gP c src giv t [] Ow.none 0 [];rw[aZ]at this;rw[this];rfl
def uJ(H:Hp)(kvs:List (fO×V))(giv:Gi):Prop:=∀w:Str,(giv w=none∧fW kvs (.inr w:fO)=none)∨∃g u,giv w=some g∧fW kvs (.inr w:fO)=some u∧lF H g u
theorem uJ.same(s:dz H H')(h:uJ H kvs giv):uJ H' kvs giv:=λw=>
 (h w).imp id λ⟨g,u,e1,e2,e3⟩=>⟨g,u,e1,e2,e3.same s⟩
def mz:Sp:=λvs H Q _=>∃(t:T)(v:V)(src:Str)(gd:Addr)(gkvs:List (fO×V))(giv:Gi)(c:Int),vs=[v,.str src,.ref gd,.int c]∧gN H t v∧t.size≤900∧H gd=some (.dK gkvs)∧uJ H gkvs giv∧
 ∀(r:Addr)(u:V)(H':Hp),dz H H'→lF H' (nt c src giv t [] Ow.none 0) u→H' r=some (.tup [u,.int (c+(t.size:Int))])→Q (.ref r) H'
def sk(pl:Addr)(H:Hp):Hp:=λb=>if b=pl then none else H b
theorem iK(s:dz H H'):dz (sk pl H) (sk pl H'):=λb o h=>by
 unfold sk at h⊢;by_cases e:b=pl
 ·rw[if_pos e]at h;cases h
 ·rw[if_neg e]at h⊢;exact s b o h
theorem BW:dz (sk pl H) (upd H pl o):=λb u h=>by
 unfold sk at h;by_cases e:b=pl
 ·rw[if_pos e]at h;cases h
 ·rw[if_neg e]at h;rw[dj e];exact h
theorem oA(h:H b=some o)(n:b≠pl):sk pl H b=some o:=by unfold sk;rw[if_neg n];exact h
theorem yB(s:dz H H')(n:H pl=none):dz H (sk pl H'):=λb o h=>oA (s b o h) (de h n)
end SW
namespace S3
open PySem L2 SW
variable {K:aA}{vs:List V}{H H₀:Hp}{Q:VK}{E:XK}
theorem ig
  (O:DB H e (.ref p) pp od kvs) (hp:H p=some (.tup (hd e.1++ks'))) (hkl:H kl=some (.lst kus)) (nkl:kl≠pl) (nks:hG (sk pl H) ks kus) (hpl:H pl=some (.lst pus)) (few:pus.length≤5000)
  (hx:eX c src giv e i ks=.mk (kind e.1) x src e.2.1 ks)
  (hD:∀(u:V)(H1 H':Hp),dz H H1→H'=upd H1 pl (.lst (pus++[u]))→lF (sk pl H1) (eX c src giv e i ks) u→D.nx [v0,some (.str src),JG,some (.int c),some (.ref ol),some (.ref tl),some (.ref p),some (.ref pp),some (.ref od),j9,j10,j11,some (.ref pl),j13,some (.ref kl),some x] H'):
  xS K D [v0,some (.str src),JG,some (.int c),some (.ref ol),some (.ref tl),some (.ref p),some (.ref pp),some (.ref od),j9,j10,j11,some (.ref pl),j13,some (.ref kl),some x] H:=by
 refine⟨.inl ⟨rfl,_,eJ.of hpl⟩,eD.of hp,gx e.1 ks',fM,et λsp H1 hsp s1 g1=>?_⟩;refine⟨fM,et λq H2 hq s2 g2=>?_⟩;have s12:=s1.trans s2;have hpl2:=s12 _ _ hpl;refine⟨hpl2,by rw[sizeLine_eq];lia,hD (.ref q) H2 _ s12 rfl ?_⟩;rw[hx];have nt:∀{b:Addr}{xs:List V},H2 b=some (.tup xs)→b≠pl:=λh z=>by subst z;rw[hpl2]at h;cases h
 exact .mk (oA g2 (nt g2)) (oA (s2 _ _ g1) (nt (s2 _ _ g1))) (oA (s12 _ _ O.path) (nt (s12 _ _ O.path))) (oA (s12 _ _ hkl) nkl) (nks.same (iK s12))
theorem zH
  (O:DB H (t,mn,o) (.ref p) pp od kvs) (hp:H p=some (.tup (hd t++ks'))) (hkl:H kl=some (.lst kus)) (nkl:kl≠pl) (nks:hG (sk pl H) ks kus) (hpl:H pl=some (.lst pus)) (few:pus.length≤5000)
  (hgd:H gd=some (.dK gkvs)) (hgiv:uJ (sk pl H) gkvs giv)
  (hD:∀(u:V)(H1 H':Hp)(j11 j15:Option V),dz H H1→H'=upd H1 pl (.lst (pus++[u]))→lF (sk pl H1) (eX c src giv (t,mn,o) i ks) u→D.nx [v0,some (.str src),some (.ref gd),some (.int c),some (.ref ol),some (.ref tl),some (.ref p),some (.ref pp),some (.ref od),j9,some (.int i),j11,some (.ref pl),j13,some (.ref kl),j15] H'):
  (dq (eG (tC .non) (db 15)) (dq (Ak K) (dq (Aj K) (dq (xU K) (xR K))))) D [v0,some (.str src),some (.ref gd),some (.int c),some (.ref ol),some (.ref tl),some (.ref p),some (.ref pp),some (.ref od),j9,some (.int i),j11,some (.ref pl),j13,some (.ref kl),j15] H:=by
 cases t with
 | num n=>refine⟨eD.of hp,dW (j:=0) rfl,fM,et λl H1 hl s1 g1=>?_⟩;have hp1:=s1 _ _ hp;refine⟨.inl (eJ.of g1),rfl,rfl,_,rfl,?_⟩;refine fc (by decide) ?_;refine⟨eD.of hp1,dW (j:=1) rfl,?_⟩;refine⟨eD.of hp1,dW (j:=0) rfl,rfl,_,rfl,?_⟩;refine eN (by decide) ?_;refine⟨eD.of hp1,dW (j:=0) rfl,rfl,_,rfl,?_⟩;refine eN (by decide) (fQ ?_);refine⟨eD.of hp1,dW (j:=0) rfl,rfl,_,rfl,?_⟩;refine eN (by decide) (fQ ?_);exact ig (e:=(.num n,mn,o)) (O.mono (dh s1) (gn s1)) hp1 (s1 _ _ hkl) nkl (nks.same (iK s1)) (s1 _ _ hpl) few rfl λu H2 H3 s2 e3 n3=>hD u H2 H3 _ _ (s1.trans s2) e3 n3
 | name w=>
  refine⟨eD.of hp,dW (j:=0) rfl,fM,et λl H1 hl s1 g1=>?_⟩;have hp1:=s1 _ _ hp;refine⟨.inl (eJ.of g1),rfl,rfl,_,rfl,?_⟩;refine fc (by decide) ?_;refine⟨eD.of hp1,dW (j:=1) rfl,?_⟩;refine⟨eD.of hp1,dW (j:=0) rfl,rfl,_,rfl,?_⟩;refine eN (by decide) ?_;refine⟨eD.of hp1,dW (j:=0) rfl,rfl,_,rfl,?_⟩;refine fc (by decide) ?_;have O1:=O.mono (dh s1) (gn s1);have dg:=iV.k (k:=.inr w) O1.own;have how:fW kvs (.inr w:fO)=(o w).map V.int:=O1.ow w;rw[how]at dg;refine⟨eD.of hp1,dW (j:=1) rfl,dg,_,rfl,?_⟩;cases ho:o w with
  | some x=>rw[ho]at dg;refine fc rfl ?_;refine⟨eD.of hp1,dW (j:=1) rfl,dg,?_⟩;refine⟨eD.of hp1,dW (j:=0) rfl,rfl,_,rfl,fc (by decide) ?_⟩;refine⟨eD.of hp1,dW (j:=1) rfl,dg,_,rfl,eN rfl (fQ ?_)⟩;exact ig (e:=(.name w,mn,o)) O1 hp1 (s1 _ _ hkl) nkl (nks.same (iK s1)) (s1 _ _ hpl) few (by simp[eX,ho,kind]) λu H2 H3 s2 e3 n3=>hD u H2 H3 _ _ (s1.trans s2) e3 n3
  | none=>
   rw[ho]at dg;refine eN rfl ?_;refine⟨eD.of hp1,dW (j:=0) rfl,rfl,_,rfl,fc (by decide) ?_⟩;refine⟨eD.of hp1,dW (j:=1) rfl,dg,_,rfl,fc rfl ?_⟩;have gg:=iV.k (k:=.inr w) (s1 _ _ hgd);rcases hgiv w with⟨e1,e2⟩|⟨g,u,e1,e2,e3⟩
   ·rw[e2]at gg;refine⟨eD.of hp1,dW (j:=1) rfl,gg,_,rfl,eN rfl ?_⟩;exact ig (e:=(.name w,mn,o)) O1 hp1 (s1 _ _ hkl) nkl (nks.same (iK s1)) (s1 _ _ hpl) few (by simp[eX,ho,e1,kind]) λu H2 H3 s2 e3 n3=>hD u H2 H3 _ _ (s1.trans s2) e3 n3
   ·rw[e2]at gg;refine⟨eD.of hp1,dW (j:=1) rfl,gg,_,rfl,fc rfl ?_⟩;refine⟨.inl ⟨rfl,_,eJ.of (s1 _ _ hpl)⟩,eD.of hp1,dW (j:=1) rfl,gg,s1 _ _ hpl,by rw[sizeLine_eq];lia,?_⟩;refine hD u H1 _ _ _ s1 rfl ?_;have:eX c src giv (.name w,mn,o) i ks=g:=by simp[eX,ho,e1]
    rw[this];exact e3.same (iK s1)
 | sum a b=>refine⟨eD.of hp,dW (j:=0) rfl,fM,et λl H1 hl s1 g1=>?_⟩;have hp1:=s1 _ _ hp;refine⟨.inl (eJ.of g1),rfl,rfl,_,rfl,?_⟩;refine eN (by decide) ?_;refine⟨eD.of hp1,dW (j:=0) rfl,rfl,_,rfl,?_⟩;refine eN (by decide) ?_;refine⟨eD.of hp1,dW (j:=0) rfl,rfl,_,rfl,?_⟩;refine eN (by decide) (fQ ?_);refine⟨eD.of hp1,dW (j:=0) rfl,rfl,_,rfl,?_⟩;refine eN (by decide) (fQ ?_);exact ig (e:=(.sum a b,mn,o)) (O.mono (dh s1) (gn s1)) hp1 (s1 _ _ hkl) nkl (nks.same (iK s1)) (s1 _ _ hpl) few rfl λu H2 H3 s2 e3 n3=>hD u H2 H3 _ _ (s1.trans s2) e3 n3
 | less a b=>refine⟨eD.of hp,dW (j:=0) rfl,fM,et λl H1 hl s1 g1=>?_⟩;have hp1:=s1 _ _ hp;refine⟨.inl (eJ.of g1),rfl,rfl,_,rfl,?_⟩;refine eN (by decide) ?_;refine⟨eD.of hp1,dW (j:=0) rfl,rfl,_,rfl,?_⟩;refine eN (by decide) ?_;refine⟨eD.of hp1,dW (j:=0) rfl,rfl,_,rfl,?_⟩;refine eN (by decide) (fQ ?_);refine⟨eD.of hp1,dW (j:=0) rfl,rfl,_,rfl,?_⟩;refine eN (by decide) (fQ ?_);exact ig (e:=(.less a b,mn,o)) (O.mono (dh s1) (gn s1)) hp1 (s1 _ _ hkl) nkl (nks.same (iK s1)) (s1 _ _ hpl) few rfl λu H2 H3 s2 e3 n3=>hD u H2 H3 _ _ (s1.trans s2) e3 n3
 | cho a b d=>refine⟨eD.of hp,dW (j:=0) rfl,fM,et λl H1 hl s1 g1=>?_⟩;have hp1:=s1 _ _ hp;refine⟨.inl (eJ.of g1),rfl,rfl,_,rfl,?_⟩;refine eN (by decide) ?_;refine⟨eD.of hp1,dW (j:=0) rfl,rfl,_,rfl,?_⟩;refine eN (by decide) ?_;refine⟨eD.of hp1,dW (j:=0) rfl,rfl,_,rfl,?_⟩;refine eN (by decide) (fQ ?_);refine⟨eD.of hp1,dW (j:=0) rfl,rfl,_,rfl,?_⟩;refine eN (by decide) (fQ ?_);exact ig (e:=(.cho a b d,mn,o)) (O.mono (dh s1) (gn s1)) hp1 (s1 _ _ hkl) nkl (nks.same (iK s1)) (s1 _ _ hpl) few rfl λu H2 H3 s2 e3 n3=>hD u H2 H3 _ _ (s1.trans s2) e3 n3
 | lt w a b=>refine⟨eD.of hp,dW (j:=0) rfl,fM,et λl H1 hl s1 g1=>?_⟩;have hp1:=s1 _ _ hp;refine⟨.inl (eJ.of g1),rfl,rfl,_,rfl,?_⟩;refine eN (by decide) ?_;refine⟨eD.of hp1,dW (j:=0) rfl,rfl,_,rfl,?_⟩;refine fc (by decide) ?_;refine ?_;refine⟨eD.of hp1,dW (j:=0) rfl,rfl,_,rfl,?_⟩;refine eN (by decide) (fQ ?_);refine⟨eD.of hp1,dW (j:=0) rfl,rfl,_,rfl,?_⟩;refine eN (by decide) (fQ ?_);exact ig (e:=(.lt w a b,mn,o)) (O.mono (dh s1) (gn s1)) hp1 (s1 _ _ hkl) nkl (nks.same (iK s1)) (s1 _ _ hpl) few rfl λu H2 H3 s2 e3 n3=>hD u H2 H3 _ _ (s1.trans s2) e3 n3
 | st0 w=>refine⟨eD.of hp,dW (j:=0) rfl,fM,et λl H1 hl s1 g1=>?_⟩;have hp1:=s1 _ _ hp;refine⟨.inl (eJ.of g1),rfl,rfl,_,rfl,?_⟩;refine fc (by decide) ?_;refine⟨eD.of hp1,dW (j:=1) rfl,?_⟩;refine⟨eD.of hp1,dW (j:=0) rfl,rfl,_,rfl,?_⟩;refine eN (by decide) ?_;refine⟨eD.of hp1,dW (j:=0) rfl,rfl,_,rfl,?_⟩;refine eN (by decide) (fQ ?_);refine⟨eD.of hp1,dW (j:=0) rfl,rfl,_,rfl,?_⟩;refine eN (by decide) (fQ ?_);exact ig (e:=(.st0 w,mn,o)) (O.mono (dh s1) (gn s1)) hp1 (s1 _ _ hkl) nkl (nks.same (iK s1)) (s1 _ _ hpl) few rfl λu H2 H3 s2 e3 n3=>hD u H2 H3 _ _ (s1.trans s2) e3 n3
 | st1 w a=>refine⟨eD.of hp,dW (j:=0) rfl,fM,et λl H1 hl s1 g1=>?_⟩;have hp1:=s1 _ _ hp;refine⟨.inl (eJ.of g1),rfl,rfl,_,rfl,?_⟩;refine fc (by decide) ?_;refine⟨eD.of hp1,dW (j:=1) rfl,?_⟩;refine⟨eD.of hp1,dW (j:=0) rfl,rfl,_,rfl,?_⟩;refine eN (by decide) ?_;refine⟨eD.of hp1,dW (j:=0) rfl,rfl,_,rfl,?_⟩;refine eN (by decide) (fQ ?_);refine⟨eD.of hp1,dW (j:=0) rfl,rfl,_,rfl,?_⟩;refine eN (by decide) (fQ ?_);exact ig (e:=(.st1 w a,mn,o)) (O.mono (dh s1) (gn s1)) hp1 (s1 _ _ hkl) nkl (nks.same (iK s1)) (s1 _ _ hpl) few rfl λu H2 H3 s2 e3 n3=>hD u H2 H3 _ _ (s1.trans s2) e3 n3
 | st2 w a b=>refine⟨eD.of hp,dW (j:=0) rfl,fM,et λl H1 hl s1 g1=>?_⟩;have hp1:=s1 _ _ hp;refine⟨.inl (eJ.of g1),rfl,rfl,_,rfl,?_⟩;refine fc (by decide) ?_;refine⟨eD.of hp1,dW (j:=1) rfl,?_⟩;refine⟨eD.of hp1,dW (j:=0) rfl,rfl,_,rfl,?_⟩;refine eN (by decide) ?_;refine⟨eD.of hp1,dW (j:=0) rfl,rfl,_,rfl,?_⟩;refine eN (by decide) (fQ ?_);refine⟨eD.of hp1,dW (j:=0) rfl,rfl,_,rfl,?_⟩;refine eN (by decide) (fQ ?_);exact ig (e:=(.st2 w a b,mn,o)) (O.mono (dh s1) (gn s1)) hp1 (s1 _ _ hkl) nkl (nks.same (iK s1)) (s1 _ _ hpl) few rfl λu H2 H3 s2 e3 n3=>hD u H2 H3 _ _ (s1.trans s2) e3 n3
end S3
namespace SW
open PySem L2
theorem EL.get:∀{es:List En}{us:List V}{i:Nat}{e:En},EL H es us→es[i]?=some e→∃u,us[i]?=some u∧DC H e u
 | _,_,0,_,.cons a r,h=>by cases h;exact⟨_,rfl,a⟩
 | _,_,i+1,_,.cons a r,h=>EL.get (i:=i) r h
theorem ra{us:List V}{n:Nat}(h:n≤us.length):ix us (some ((us.length:Int)-(n:Int))) none=us.drop (us.length-n):=by
 unfold ix;have e:HT.kZ us.length 0 (some ((us.length:Int)-(n:Int)))=us.length-n:=by rw[show(us.length:Int)-(n:Int)=((us.length-n:Nat):Int) by lia,HT.LY];lia
 rw[e,HT.J3,bh (by rw[aj];lia)]
theorem yW{us:List V}{n:Nat}(h:n≤us.length):ix us none (some ((us.length:Int)-(n:Int)))=us.take (us.length-n):=by
 unfold ix;have e:HT.kZ us.length us.length (some ((us.length:Int)-(n:Int)))=us.length-n:=by rw[show(us.length:Int)-(n:Int)=((us.length-n:Nat):Int) by lia,HT.LY];lia
 rw[e,HT.J3];simp
theorem rZ(c:Int):∀(n:Nat)(st:List En)(i:Nat),∃st',(iS c st i).drop n=iS c st' (i+n)
 | 0,st,i=>⟨st,rfl⟩
 | n+1,[],i=>⟨[],by simp[iS]⟩
 | n+1,e::st,i=>by obtain⟨st',h⟩:=rZ c n (iA e (c+((i+1:Nat):Int))++st) (i+1);refine⟨st',?_⟩;rw[←oT,bH,h,show i+1+n=i+(n+1) by lia]
theorem qk(c:Int)(src:Str)(giv:Gi):∀(st:List En)(i:Nat),(ia c src giv (iS c st i) i).length=st.length
 | [],i=>rfl
 | e::st,i=>by rw[iS,gP,aE,aE,qk c src giv st]
theorem vM(c:Int)(src:Str)(giv:Gi):∀(es:List En)(i:Nat),(ia c src giv es i).length≤es.length
 | [],_=>aC _
 | e::r,i=>by have:=vM c src giv r (i+1);rw[ia,aE,aE,aj];lia
theorem xA(h:(pre c t [] Ow.none 0).drop j=e::r):e.1.kids.length≤(ia c src giv r (j+1)).length:=by
 obtain⟨st',hs⟩:=rZ c j [(t,[],Ow.none)] 0;have e0:iS c [(t,[],Ow.none)] 0=pre c t [] Ow.none 0:=by simp[iS]
 rw[e0,h,bx]at hs;cases st' with
 | nil=>cases hs
 | cons e' st=>rw[←oT]at hs;obtain⟨h1,h2⟩:=List.cons.inj hs;subst h1;rw[h2,qk,aD,rQ];lia
end SW
namespace S3
open PySem L2 SW
variable {K:aA}{vs:List V}{H H₀:Hp}{Q:VK}{E:XK}
def Ov(H:Hp)(v:V)(src:Str)(gd:Addr)(c:Int)(ol tl:Addr)(ous:List V)(t:T)(giv:Gi)(i m:Nat)(σ:St)(H':Hp):Prop:=m=ous.length-i∧i≤ous.length∧dz H H'∧H' ol=some (.lst ous)∧EL H' (pre c t [] Ow.none 0) ous∧∃pl pus j6 j7 j8 j9 j10 j11 j13 j14 j15,σ=[some v,some (.str src),some (.ref gd),some (.int c),some (.ref ol),some (.ref tl),j6,j7,j8,j9,j10,j11,some (.ref pl),j13,j14,j15]∧H' pl=some (.lst pus)∧hG H' (ia c src giv ((pre c t [] Ow.none 0).drop (ous.length-i)) (ous.length-i)).reverse pus
theorem N3(h:mz vs H Q E):MI K (gr Q) (start ["_law_piece","_law_source","_law_given","_law_count","_law_order","_law_todo","_law_part","_law_path","_law_own","_law_inner","_law_k","_law_near","_law_pile","_law_many","_law_kids","_law_extra"] vs) H:=by
 obtain⟨t,v,src,gd,gkvs,giv,c,rfl,hd0,hs,hgd,hgiv,k⟩:=h;refine⟨fM,et λol H1 hol s1 g1=>?_⟩;refine⟨fM,et λpp H2 hpp s2 g2=>?_⟩;refine λod hod=>?_;have s3:=dX (o:=.dK []) hod;have g3:(upd H2 od (.dK [])) od=some (.dK []):=dR;generalize upd H2 od (.dK [])=H3 at s3 g3⊢;refine⟨fM,et λq H4 hq s4 g4=>?_⟩;refine⟨fM,λtl htl=>?_⟩;have s5:=dX (o:=.lst [.ref q]) htl;have g5:(upd H4 tl (.lst [.ref q])) tl=some (.lst [.ref q]):=dR;have ne5:ol≠tl:=λz=>by subst z;rw[(s2.trans (s3.trans s4)) _ _ g1]at htl;cases htl
 generalize upd H4 tl (.lst [.ref q])=H5 at s5 g5⊢;have u4:=s4.trans s5;have u3:=s3.trans u4;have u2:=s2.trans u3;have u1:=s1.trans u2;have e0:DC H5 (t,[],Ow.none) (.ref q):=⟨q,pp,od,v,[],rfl,s5 _ _ g4,hd0.mono (dh u1),u3 _ _ g2,u4 _ _ g3,λw=>rfl,by simp;lia,by simp;lia⟩;have B:qr H H5 ol tl [] [(t,[],Ow.none)] [] [.ref q]:=⟨u1,hol,(s1.trans (s2.trans (s3.trans s4))).free htl,ne5,u2 _ _ g1,g5,.nil,.snoc (us:=[]) .nil e0⟩;refine wA (es:=pre c t [] Ow.none 0) B (by simp[iS]) (by simp[uL];lia) λous H6 j6 j7 j8 j9 j10 j11 s6 h6 el6=>?_;have hplen:=iW c t [] Ow.none 0;have holen:=el6.length;refine⟨fM,et λpl H7 hpl s7 g7=>?_⟩;have b7:=s6.trans s7;refine⟨.inl (eJ.of (s7 _ _ h6)),(ous.length:Int)-1,-1,rfl,⟨by lia,by lia,by lia,by lia⟩,?_⟩;have en:((ous.length:Int)-1 - -1).toNat=ous.length:=by lia
 rw[en];refine⟨Ov H v src gd c ol tl ous t giv,
  ⟨_,rfl,aU _,b7,s7 _ _ h6,el6.mono (dh s7) (gn s7),pl,[],_,_,_,_,_,_,_,_,_,rfl,g7,by rw[bi,b5 (by lia)];exact .nil⟩,?_⟩
 clear B e0 g5 s5 g4 s4 g3 s3 g2 s2 g1 s1 u4 u3 u2 u1 s7 g7 hpl hq hod hpp h6 el6 s6 b7 j6 j7 j8 j9 j10 j11 pl;rintro i m σ H8 ⟨rfl,hi,s8,h8,el8,pl,pus,j6,j7,j8,j9,j10,j11,j13,j14,j15,rfl,hpl,np⟩;by_cases hn:i=ous.length
 ·refine .inl ⟨by show ous.length≤i;lia,?_⟩;rw[hn,bJ,ai,zw]at np;cases np with
  | @cons n9 u9 ns9 us9 a r=>
  cases r;refine⟨eJ.of hpl,dW (j:=0) rfl,.inl (eJ.of h8),fM,λr hr=>?_⟩;have sr:=dX (o:=.tup [u9,.int (c+(ous.length:Int))]) hr;refine k r _ _ (s8.trans sr) (a.same sr) ?_;rw[dR,holen,hplen]
 ·have hlt:i<ous.length:=by lia
  refine .inr ⟨show i<ous.length from hlt,_,λσ2 H2 h=>⟨ous.length-(i+1),by lia,h⟩,?_⟩;rintro v3 H9 ⟨rfl,rfl⟩;obtain⟨j,hj⟩:∃j:Nat,j=ous.length-1-i:=⟨_,rfl⟩;rw[show(ous.length:Int)-1-(i:Int)=(j:Int) by lia];obtain⟨e,he⟩:∃e,(pre c t [] Ow.none 0)[j]?=some e:=⟨(pre c t [] Ow.none 0)[j]'(by lia),by rw[aI]⟩;obtain⟨u,hu,q,pp,od,pv,kvs,rfl,hq,den,hpp,hod,ow,f1,f2⟩:=el8.get he;obtain⟨p,ks',rfl,hp,dks⟩:=den.open;have hdrop:(pre c t [] Ow.none 0).drop (ous.length-(i+1))=e::(pre c t [] Ow.none 0).drop (ous.length-i):=by rw[show ous.length-(i+1)=j by lia,show ous.length-i=j+1 by lia];obtain⟨hjk,ee⟩:=aN.mp he;rw[bN hjk,ee]
  have hidx:ous.length-i=(ous.length-(i+1))+1:=by lia
  have hji:ous.length-(i+1)=j:=by lia
  rw[hidx,hji]at np hdrop;have hkn:=xA (src:=src) (giv:=giv) hdrop;generalize hS:ia c src giv ((pre c t [] Ow.none 0).drop (j+1)) (j+1)=S at np hkn;have hpl9:=np.length;rw[bI]at hpl9;have hSl:S.length≤5000:=by have:=vM c src giv ((pre c t [] Ow.none 0).drop (j+1)) (j+1);rw[hS,aj]at this;lia
  refine⟨eJ.of h8,dW hu,eD.of hq,rfl,rfl,?_⟩;refine⟨e.1,.ref p,rfl,den,λil us Ha sa na ha da=>⟨.inl (eJ.of ha),?_⟩⟩;have hml:=da.length;have hmn:us.length≤pus.length:=by lia
  have hpa:=sa _ _ hpl;refine⟨.inl (eJ.of hpa),eJ.of hpa,λsl hsl=>?_⟩;rw[ra hmn];have sb:=dX (o:=.lst (pus.drop (pus.length-us.length))) hsl;have gb:(upd Ha sl (.lst (pus.drop (pus.length-us.length)))) sl=some (.lst (pus.drop (pus.length-us.length))):=dR;generalize upd Ha sl (.lst (pus.drop (pus.length-us.length)))=Hb at sb gb⊢;refine⟨eJ.of gb,et λkl Hc hkl sc gc=>?_⟩;have sac:=sa.trans (sb.trans sc);have hpc:=sac _ _ hpl;refine⟨.inl (eJ.of hpc),eJ.of hpc,λpn hpn=>?_⟩;rw[yW hmn];have sd:=dX (o:=.lst (pus.take (pus.length-us.length))) hpn;have gd':(upd Hc pn (.lst (pus.take (pus.length-us.length)))) pn=some (.lst (pus.take (pus.length-us.length))):=dR;generalize upd Hc pn (.lst (pus.take (pus.length-us.length)))=Hd at sd gd'⊢;have sad:=sac.trans sd;have r1:dz Hc (sk pn Hd):=yB sd hpn;have nS:hG H9 S pus.reverse:=by have:=np.reverse;rw[cL]at this;exact this
  have nk:hG (sk pn Hd) (S.take us.length) (pus.drop (pus.length-us.length)).reverse:=by have h1:=(nS.take us.length).same (sac.trans r1);rw[cm]at h1;exact h1
  have nkl:kl≠pn:=de gc hpn;refine zH (t:=e.1) (mn:=e.2.1) (o:=e.2.2) (i:=j) (ks:=S.take us.length) (giv:=giv) (gkvs:=gkvs) ⟨den.mono (dh sad),sad _ _ hpp,sad _ _ hod,ow,f1,f2⟩ (sad _ _ hp) (sd _ _ gc) nkl nk gd' (by rw[ah];lia) ((s8.trans sad) _ _ hgd) (hgiv.same (s8.trans (sac.trans r1))) λw Hx Hy jx jy sx ey nx=>?_;have r2:dz Hc (sk pn Hx):=yB (sd.trans sx) hpn;have r3:dz Hc Hy:=by rw[ey];exact r2.trans BW
  have s9y:dz H9 Hy:=sac.trans r3;refine⟨rfl,by lia,s8.trans s9y,s9y _ _ h8,el8.mono (dh s9y) (gn s9y),pn,pus.take (pus.length-us.length)++[w],_,_,_,_,_,_,_,_,_,rfl,by rw[ey,dR],?_⟩;rw[hji,hdrop];show hG Hy (ia c src giv (e::_) j).reverse _;rw[ia,hS,←hml,aq];refine hG.append ?_ (.cons (nx.same (by rw[ey];exact BW)) .nil);have h2:=(np.take (pus.length-us.length)).same s9y;have e2:S.reverse.take (pus.length-us.length)=(S.drop us.length).reverse:=by rw[cm,hpl9,show S.length-(S.length-us.length)=us.length by lia]
  rw[e2]at h2;exact h2
end S3
namespace S8
open PySem L2 SW S9
abbrev Fo:=Str→Option Int
abbrev Ba:=Int→Option Str
def lM(f:Fo)(x:Str)(i:Int):Fo:=λy=>if y=x then some i else f y
def mN(b:Ba)(i:Int)(x:Str):Ba:=λj=>if j=i then some x else b j
theorem lA(h:y≠x):lM f x i y=f y:=if_neg h
theorem yR:lM f x i x=some i:=if_pos rfl
theorem pX(h:j≠i):mN b i x j=b j:=if_neg h
theorem ya:mN b i x i=some x:=if_pos rfl
theorem rW(h:x≠y):lM (lM f x i) y j=lM (lM f y j) x i:=by
 funext z;unfold lM;by_cases h1:z=y
 ·subst h1;rw[if_pos rfl,if_neg h.symm,if_pos rfl]
 ·rw[if_neg h1,if_neg h1]
theorem rg(h:i≠j):mN (mN b i x) j y=mN (mN b j y) i x:=by
 funext z;unfold mN;by_cases h1:z=j
 ·subst h1;rw[if_pos rfl,if_neg h.symm,if_pos rfl]
 ·rw[if_neg h1,if_neg h1]
abbrev ip(p:List Nat):List Int:=p.map λi:Nat=>(i:Int)
inductive Lo(c:Int):NT→Prop where
 | mk{k:Str}{x:V}{src:Str}{path:List Int}{ks:List NT}:(k="name"∨k="let"→∀i,x=.int i→i≤c)→(∀n∈ks,Lo c n)→Lo c (.mk k x src path ks)
theorem Lo.mono(h:c≤d)(l:Lo c n):Lo d n:=by
 induction l with
 | mk a _ ih=>exact .mk (λz i e=>Int.le_trans (a z i e) h) ih
theorem Lo.inv(h:Lo c (.mk k x src path ks)):(k="name"∨k="let"→∀i,x=.int i→i≤c)∧∀n∈ks,Lo c n:=by cases h with|mk a b=>exact⟨a,b⟩
inductive Gs(ws:List Str):Fo→Ba→T→NT→Prop where
 | num{f:Fo}{b:Ba}{m:Int}{src:Str}{path:List Int}:Gs ws f b (.num m) (.mk "number" (.int m) src path [])
 | bound{f:Fo}{b:Ba}{w:Str}{i:Int}{src:Str}{path:List Int}:w∈ws→f w=some i→b i=some w→Gs ws f b (.name w) (.mk "name" (.int i) src path [])
 | free{f:Fo}{b:Ba}{w:Str}{src:Str}{path:List Int}:w∈ws→f w=none→Gs ws f b (.name w) (.mk "name" (.str w) src path [])
 | sum{f:Fo}{b:Ba}{t1 t2:T}{n1 n2:NT}{src:Str}{path:List Int}:Gs ws f b t1 n1→Gs ws f b t2 n2→Gs ws f b (.sum t1 t2) (.mk "sum" .non src path [n1,n2])
 | less{f:Fo}{b:Ba}{t1 t2:T}{n1 n2:NT}{src:Str}{path:List Int}:Gs ws f b t1 n1→Gs ws f b t2 n2→Gs ws f b (.less t1 t2) (.mk "less" .non src path [n1,n2])
 | cho{f:Fo}{b:Ba}{t1 t2 t3:T}{n1 n2 n3:NT}{src:Str}{path:List Int}:Gs ws f b t1 n1→Gs ws f b t2 n2→Gs ws f b t3 n3→Gs ws f b (.cho t1 t2 t3) (.mk "choose" .non src path [n1,n2,n3])
 | lt{f:Fo}{b:Ba}{x:Str}{i:Int}{t1 t2:T}{n1 n2:NT}{src:Str}{path:List Int}:x∈ws→Gs ws f b t1 n1→Gs ws (lM f x i) (mN b i x) t2 n2→Gs ws f b (.lt x t1 t2) (.mk "let" (.int i) src path [n1,n2])
theorem Iu{ws:List Str}{x w:Str}(hx:x∉ws)(a:w∈ws):w≠x:=λz=>hx (z▸a)
theorem Gs.mono(h:∀x∈ws,x∈ws')(g:Gs ws f b t n):Gs ws' f b t n:=by
 induction g with
 | num=>exact .num
 | bound a e1 e2=>exact .bound (h _ a) e1 e2
 | free a e=>exact .free (h _ a) e
 | sum _ _ i1 i2=>exact .sum i1 i2
 | less _ _ i1 i2=>exact .less i1 i2
 | cho _ _ _ i1 i2 i3=>exact .cho i1 i2 i3
 | lt a _ _ i1 i2=>exact .lt (h _ a) i1 i2
theorem Gs.more{ws:List Str}{f:Fo}{b:Ba}{t:T}{n:NT}(g:Gs ws f b t n){x:Str}{i:Int}(hx:x∉ws){c:Int}(l:Lo c n)(hi:c<i):Gs ws (lM f x i) (mN b i x) t n:=by
 induction g with
 | num=>exact .num
 | @bound f b w j src path a e1 e2=>have hj:j≤c:=l.inv.1 (.inl rfl) j rfl;exact .bound a (by rw[lA (Iu hx a)];exact e1) (by rw[pX (by lia)];exact e2)
 | free a e=>exact .free a (by rw[lA (Iu hx a)];exact e)
 | sum _ _ i1 i2=>exact .sum (i1 (l.inv.2 _ (by simp))) (i2 (l.inv.2 _ (by simp)))
 | less _ _ i1 i2=>exact .less (i1 (l.inv.2 _ (by simp))) (i2 (l.inv.2 _ (by simp)))
 | cho _ _ _ i1 i2 i3=>exact .cho (i1 (l.inv.2 _ (by simp))) (i2 (l.inv.2 _ (by simp))) (i3 (l.inv.2 _ (by simp)))
 | @lt f b y j t1 t2 n1 n2 src path a _ _ i1 i2=>have hj:j≤c:=l.inv.1 (.inr rfl) j rfl;have hxy:x≠y:=(Iu hx a).symm;refine .lt a (i1 (l.inv.2 _ (by simp))) ?_;rw[rW hxy,rg (by lia)];exact i2 (l.inv.2 _ (by simp))
inductive Jf:NT→Prop where
 | mk{k:Str}{x:V}{src:Str}{path:List Int}{ks:List NT}:k≠"stamp"→(∀n∈ks,Jf n)→Jf (.mk k x src path ks)
theorem Gs.ns(g:Gs ws f b t n):Jf n:=by
 induction g with
 | num=>exact .mk (by decide) (by simp)
 | bound=>exact .mk (by decide) (by simp)
 | free=>exact .mk (by decide) (by simp)
 | sum _ _ i1 i2=>exact .mk (by decide) (by simp[i1,i2])
 | less _ _ i1 i2=>exact .mk (by decide) (by simp[i1,i2])
 | cho _ _ _ i1 i2 i3=>exact .mk (by decide) (by simp[i1,i2,i3])
 | lt _ _ _ i1 i2=>exact .mk (by decide) (by simp[i1,i2])
mutual
def mL:NT→List (Str×List Int)
 | .mk _ _ src path ks=>(src,path)::mX ks
def mX:List NT→List (Str×List Int)
 | []=>[]
 | n::ns=>mL n++mX ns
end
theorem og(a b:List NT):mX (a++b)=mX a++mX b:=by
 induction a with
 | nil=>rfl
 | cons n a ih=>rw[aO,mX,mX,ih,aV]
abbrev cv(s:kj):Str×List Int:=(s.1,ip s.2)
mutual
def gq:NT→Nat
 | .mk _ _ _ _ ks=>1+fN ks
def fN:List NT→Nat
 | []=>0
 | n::ns=>gq n+fN ns
end
inductive Rp(W:List (T×List kj)):List Str→Fo→Ba→eK→NT→Prop where
 | num{ws:List Str}{f:Fo}{b:Ba}{s:eK}{m:Int}:s.t=.num m→Rp W ws f b s (.mk "number" (.int m) s.src (ip s.path) [])
 | free{ws:List Str}{f:Fo}{b:Ba}{s:eK}{w:Str}:s.t=.name w→s.e.look w=none→w∈ws→f w=none→Rp W ws f b s (.mk "name" (.str w) s.src (ip s.path) [])
 | called{ws:List Str}{f:Fo}{b:Ba}{s:eK}{w x:Str}{i:Int}:s.t=.name w→s.e.look w=some (.called x)→x∈ws→f x=some i→b i=some x→Rp W ws f b s (.mk "name" (.int i) s.src (ip s.path) [])
 | ready{ws:List Str}{f:Fo}{b:Ba}{s:eK}{w:Str}{k z:Nat}{t:T}{ss:List kj}{n:NT}:s.t=.name w→s.e.look w=some (.ready k z)→W[k]?=some (t,ss)→Gs ws f b t n→mL n=ss.map cv→gq n=z→Rp W ws f b s n
 | handed{ws:List Str}{f:Fo}{b:Ba}{s:eK}{w:Str}{t:T}{src:Str}{path:List Nat}{e:S9.En}{n:NT}:s.t=.name w→s.e.look w=some (.handed t src path e)→Rp W ws f b ⟨t,src,path,e⟩ n→Rp W ws f b s n
 | sum{ws:List Str}{f:Fo}{b:Ba}{s:eK}{t1 t2:T}{n1 n2:NT}:s.t=.sum t1 t2→Rp W ws f b (s.kid 0 t1) n1→Rp W ws f b (s.kid 1 t2) n2→Rp W ws f b s (.mk "sum" .non s.src (ip s.path) [n1,n2])
 | less{ws:List Str}{f:Fo}{b:Ba}{s:eK}{t1 t2:T}{n1 n2:NT}:s.t=.less t1 t2→Rp W ws f b (s.kid 0 t1) n1→Rp W ws f b (s.kid 1 t2) n2→Rp W ws f b s (.mk "less" .non s.src (ip s.path) [n1,n2])
 | cho{ws:List Str}{f:Fo}{b:Ba}{s:eK}{t1 t2 t3:T}{n1 n2 n3:NT}:s.t=.cho t1 t2 t3→Rp W ws f b (s.kid 0 t1) n1→Rp W ws f b (s.kid 1 t2) n2→Rp W ws f b (s.kid 2 t3) n3→Rp W ws f b s (.mk "choose" .non s.src (ip s.path) [n1,n2,n3])
 | lt{ws:List Str}{f:Fo}{b:Ba}{s:eK}{w:Str}{t1 t2:T}{n1 n2:NT}{i:Int}:s.t=.lt w t1 t2→Rp W ws f b (s.kid 0 t1) n1→(∀x,x∉ws→Rp W (x::ws) (lM f x i) (mN b i x) ⟨t2,s.src,s.path++[1],s.e.put w (.called x)⟩ n2)→Rp W ws f b s (.mk "let" (.int i) s.src (ip s.path) [n1,n2])
 | st0{ws:List Str}{f:Fo}{b:Ba}{s:eK}{w:Str}:s.t=.st0 w→Rp W ws f b s (.mk "stamp" (.str w) s.src (ip s.path) [])
 | st1{ws:List Str}{f:Fo}{b:Ba}{s:eK}{w:Str}{t1:T}{n1:NT}:s.t=.st1 w t1→Rp W ws f b (s.kid 0 t1) n1→Rp W ws f b s (.mk "stamp" (.str w) s.src (ip s.path) [n1])
 | st2{ws:List Str}{f:Fo}{b:Ba}{s:eK}{w:Str}{t1 t2:T}{n1 n2:NT}:s.t=.st2 w t1 t2→Rp W ws f b (s.kid 0 t1) n1→Rp W ws f b (s.kid 1 t2) n2→Rp W ws f b s (.mk "stamp" (.str w) s.src (ip s.path) [n1,n2])
theorem Rp.mono(hW:∀(k:Nat)(p:T×List kj),W[k]?=some p→W'[k]?=some p)(h:Rp W ws f b s n):∀{ws':List Str},(∀x∈ws,x∈ws')→Rp W' ws' f b s n:=by
 induction h with
 | num e=>exact λ_=>.num e
 | free e l m g=>exact λhs=>.free e l (hs _ m) g
 | called e l m g1 g2=>exact λhs=>.called e l (hs _ m) g1 g2
 | ready e l hk g hs hz=>exact λz=>.ready e l (hW _ _ hk) (g.mono z) hs hz
 | handed e l _ ih=>exact λz=>.handed e l (ih z)
 | sum e _ _ i1 i2=>exact λz=>.sum e (i1 z) (i2 z)
 | less e _ _ i1 i2=>exact λz=>.less e (i1 z) (i2 z)
 | cho e _ _ _ i1 i2 i3=>exact λz=>.cho e (i1 z) (i2 z) (i3 z)
 | lt e _ _ i1 i2=>exact λz=>.lt e (i1 z) λx hx=>i2 x (λq=>hx (z x q)) (λy hy=>by
   rcases aB.mp hy with rfl|hy
   ·exact .head _
   ·exact .tail _ (z y hy))
 | st0 e=>exact λ_=>.st0 e
 | st1 e _ i1=>exact λz=>.st1 e (i1 z)
 | st2 e _ _ i1 i2=>exact λz=>.st2 e (i1 z) (i2 z)
theorem Rp.more{W:List (T×List kj)}{ws:List Str}{f:Fo}{b:Ba}{s:eK}{n:NT}(h:Rp W ws f b s n){x:Str}{i c:Int}(hi:c<i):x∉ws→Lo c n→Rp W (x::ws) (lM f x i) (mN b i x) s n:=by
 have sub:∀{ws:List Str}{x:Str},∀y∈ws,y∈x::ws:=λy hy=>.tail _ hy;induction h with
 | num e=>exact λ_ _=>.num e
 | free e l m g=>exact λhx _=>.free e l (.tail _ m) (by rw[lA (Iu hx m)];exact g)
 | @called ws f b s w y j e l m g1 g2=>intro hx lo;have hj:j≤c:=lo.inv.1 (.inl rfl) j rfl;exact .called e l (.tail _ m) (by rw[lA (Iu hx m)];exact g1) (by rw[pX (by lia)];exact g2)
 | ready e l hk g hs hz=>exact λhx lo=>.ready e l hk ((g.more hx lo hi).mono sub) hs hz
 | handed e l _ ih=>exact λhx lo=>.handed e l (ih hx lo)
 | sum e _ _ i1 i2=>exact λhx lo=>.sum e (i1 hx (lo.inv.2 _ (by simp))) (i2 hx (lo.inv.2 _ (by simp)))
 | less e _ _ i1 i2=>exact λhx lo=>.less e (i1 hx (lo.inv.2 _ (by simp))) (i2 hx (lo.inv.2 _ (by simp)))
 | cho e _ _ _ i1 i2 i3=>exact λhx lo=>.cho e (i1 hx (lo.inv.2 _ (by simp))) (i2 hx (lo.inv.2 _ (by simp))) (i3 hx (lo.inv.2 _ (by simp)))
 | @lt ws f b s w t1 t2 n1 n2 j e _ _ i1 i2=>
  intro hx lo;have hj:j≤c:=lo.inv.1 (.inr rfl) j rfl;refine .lt e (i1 hx (lo.inv.2 _ (by simp))) λy hy=>?_;have hyx:y≠x:=λz=>hy (by rw[z];exact .head _);have hyw:y∉ws:=λz=>hy (.tail _ z);have:=i2 y hyw (λz=>by rcases aB.mp z with z|z;exact hyx z.symm;exact hx z) (lo.inv.2 _ (by simp));rw[rW hyx,rg (by lia)]at this;refine this.mono (λ_ _ z=>z) (λz hz=>?_);simp only[aB]at hz⊢;rcases hz with rfl|rfl|hz
  ·exact .inr (.inl rfl)
  ·exact .inl rfl
  ·exact .inr (.inr hz)
 | st0 e=>exact λ_ _=>.st0 e
 | st1 e _ i1=>exact λhx lo=>.st1 e (i1 hx (lo.inv.2 _ (by simp)))
 | st2 e _ _ i1 i2=>exact λhx lo=>.st2 e (i1 hx (lo.inv.2 _ (by simp))) (i2 hx (lo.inv.2 _ (by simp)))
theorem Jc(p:List Nat):ip (p++[0])=ip p++[0]:=by simp[ip]
theorem K0(p:List Nat):ip (p++[1])=ip p++[1]:=by simp[ip]
theorem Ol(p:List Nat):ip (p++[2])=ip p++[2]:=by simp[ip]
def DA(W:List (T×List kj))(ws:List Str)(f:Fo)(b:Ba):Mg→NT→Prop
 | .called _,_=>False
 | .ready k z,g=>∃t ss,W[k]?=some (t,ss)∧Gs ws f b t g∧mL g=ss.map cv∧gq g=z
 | .handed t src path e,g=>Rp W ws f b ⟨t,src,path,e⟩ g
theorem DA.more(hi:c<i)(hx:x∉ws):∀{m:Mg}{g:NT},DA W ws f b m g→Lo c g→DA W (x::ws) (lM f x i) (mN b i x) m g
 | .called _,_,h,_=>h.elim
 | .ready k _,g,h,l=>by obtain⟨t,ss,h1,h2,h3⟩:=h;exact⟨t,ss,h1,(h2.more hx l hi).mono λy hy=>.tail _ hy,h3⟩
 | .handed t src path e,g,h,l=>Rp.more (s:=⟨t,src,path,e⟩) h hi hx l
theorem DA.mono(hW:∀(k:Nat)(p:T×List kj),W[k]?=some p→W'[k]?=some p)(hs:∀x∈ws,x∈ws'):∀{m:Mg}{g:NT},DA W ws f b m g→DA W' ws' f b m g
 | .called _,_,h=>h
 | .ready k _,g,h=>by obtain⟨t,ss,h1,h2,h3⟩:=h;exact⟨t,ss,hW _ _ h1,h2.mono hs,h3⟩
 | .handed t src path e,g,h=>Rp.mono hW (s:=⟨t,src,path,e⟩) h hs
theorem EK(e:s.t=.name w)(l:s.e.look w=some m)(h:DA W ws f b m g):Rp W ws f b s g:=by
 cases m with
 | called _=>exact h.elim
 | ready k z=>obtain⟨t,ss,h1,h2,h3⟩:=h;exact .ready e l h1 h2 h3.1 h3.2
 | handed t src path en=>exact .handed e l h
structure GD(W:List (T×List kj))(OUT:Str→Prop)(giv:Gi)(c:Int)(ws:List Str)(f:Fo)(b:Ba)(e:S9.En)(o:Ow)(i:Nat):Prop where
 own:∀w id,o w=some id→∃x,e.look w=some (.called x)∧x∈ws∧f x=some id∧b id=some x∧id≤c+i
 giv_:∀w g,o w=none→giv w=some g→∃m,e.look w=some m∧DA W ws f b m g∧Lo c g
 out:∀w,o w=none→giv w=none→OUT w→e.look w=none∧f w=none∧w∈ws
theorem GD.le(h:GD W OUT giv c ws f b e o i)(hij:i≤j):GD W OUT giv c ws f b e o j:=
 ⟨λw id hw=>by
  obtain⟨x,h1,h2,h3,h4,h5⟩:=h.own w id hw;exact⟨x,h1,h2,h3,h4,by lia⟩,h.giv_,h.out⟩
theorem GD.lt(h:GD W OUT giv c ws f b e o i)(hx:x∉ws):GD W OUT giv c (x::ws) (lM f x (c+((i+1:Nat):Int))) (mN b (c+((i+1:Nat):Int)) x) (e.put v (.called x)) (Ow.put o v (c+((i+1:Nat):Int))) (i+1):=by
 refine⟨λw id hw=>?_,λw g hw hg=>?_,λw hw hg ho=>?_⟩
 ·unfold Ow.put at hw;by_cases hv:w=v
  ·rw[if_pos hv]at hw;cases hw;subst hv;exact⟨x,by rw[En.look_put,if_pos rfl],.head _,yR,ya,Int.le_refl _⟩
  ·rw[if_neg hv]at hw;obtain⟨y,h1,h2,h3,h4,h5⟩:=h.own w id hw;exact⟨y,by rw[En.look_put,if_neg (λz=>hv z.symm)];exact h1,.tail _ h2,by rw[lA (Iu hx h2)];exact h3,by rw[pX (by lia)];exact h4,by lia⟩
 ·unfold Ow.put at hw;by_cases hv:w=v
  ·rw[if_pos hv]at hw;cases hw
  ·rw[if_neg hv]at hw;obtain⟨m,h1,h2,h3⟩:=h.giv_ w g hw hg;exact⟨m,by rw[En.look_put,if_neg (λz=>hv z.symm)];exact h1,h2.more (c:=c) (by lia) hx h3,h3⟩
 ·unfold Ow.put at hw;by_cases hv:w=v
  ·rw[if_pos hv]at hw;cases hw
  ·rw[if_neg hv]at hw;obtain⟨h1,h2,h3⟩:=h.out w hw hg ho;exact⟨by rw[En.look_put,if_neg (λz=>hv z.symm)];exact h1,by rw[lA (Iu hx h3)];exact h2,.tail _ h3⟩
theorem mM:∀(t:T){ws:List Str}{f:Fo}{b:Ba}{e:S9.En}{o:Ow}{i:Nat}{path:List Nat},GD W OUT giv c ws f b e o i→(∀w,t.out w→o w=none→giv w=none→OUT w)→Rp W ws f b ⟨t,src,path,e⟩ (nt c src giv t (ip path) o i)
 | .num n,ws,f,b,e,o,i,path,C,h=>Rp.num (s:=⟨.num n,src,path,e⟩) rfl
 | .name w,ws,f,b,e,o,i,path,C,h=>by
  simp only[nt,eX];cases ho:o w with
  | some id=>obtain⟨x,h1,h2,h3,h4,_⟩:=C.own w id ho;exact Rp.called (s:=⟨.name w,src,path,e⟩) rfl h1 h2 h3 h4
  | none=>
   cases hg:giv w with
   | some g=>obtain⟨m,h1,h2,_⟩:=C.giv_ w g ho hg;exact EK (s:=⟨.name w,src,path,e⟩) rfl h1 h2
   | none=>obtain⟨h1,h2,h3⟩:=C.out w ho hg (h w rfl ho hg);exact Rp.free (s:=⟨.name w,src,path,e⟩) rfl h1 h3 h2
 | .sum p q,ws,f,b,e,o,i,path,C,h=>by simp only[nt,eX];have h1:=mM (src:=src) p (path:=path++[0]) (C.le (bQ i)) (λw z=>h w (.inl z));have h2:=mM (src:=src) q (path:=path++[1]) (C.le (show i≤i+1+p.size by lia)) (λw z=>h w (.inr z));rw[Jc]at h1;rw[K0]at h2;exact Rp.sum (s:=⟨.sum p q,src,path,e⟩) rfl h1 h2
 | .less p q,ws,f,b,e,o,i,path,C,h=>by simp only[nt,eX];have h1:=mM (src:=src) p (path:=path++[0]) (C.le (bQ i)) (λw z=>h w (.inl z));have h2:=mM (src:=src) q (path:=path++[1]) (C.le (show i≤i+1+p.size by lia)) (λw z=>h w (.inr z));rw[Jc]at h1;rw[K0]at h2;exact Rp.less (s:=⟨.less p q,src,path,e⟩) rfl h1 h2
 | .cho p q r,ws,f,b,e,o,i,path,C,h=>by simp only[nt,eX];have h1:=mM (src:=src) p (path:=path++[0]) (C.le (bQ i)) (λw z=>h w (.inl z));have h2:=mM (src:=src) q (path:=path++[1]) (C.le (show i≤i+1+p.size by lia)) (λw z=>h w (.inr (.inl z)));have h3:=mM (src:=src) r (path:=path++[2]) (C.le (show i≤i+1+p.size+q.size by lia)) (λw z=>h w (.inr (.inr z)));rw[Jc]at h1;rw[K0]at h2;rw[Ol]at h3;exact Rp.cho (s:=⟨.cho p q r,src,path,e⟩) rfl h1 h2 h3
 | .lt v p q,ws,f,b,e,o,i,path,C,h=>by
  simp only[nt,eX];have h1:=mM (src:=src) p (path:=path++[0]) (C.le (bQ i)) (λw z=>h w (.inl z));rw[Jc]at h1;rw[show c+(i:Int)+1=c+((i+1:Nat):Int) by lia];refine Rp.lt (s:=⟨.lt v p q,src,path,e⟩) rfl h1 λx hx=>?_;have h2:=mM (src:=src) q (path:=path++[1]) ((C.lt (v:=v) hx).le (show i+1≤i+1+p.size by lia)) (λw z hw hg=>by
   unfold Ow.put at hw;by_cases hv:w=v
   ·rw[if_pos hv]at hw;cases hw
   ·rw[if_neg hv]at hw;exact h w (.inr ⟨λz=>hv z.symm,z⟩) hw hg)
  rw[K0]at h2;exact h2
 | .st0 w,ws,f,b,e,o,i,path,C,h=>Rp.st0 (s:=⟨.st0 w,src,path,e⟩) rfl
 | .st1 w p,ws,f,b,e,o,i,path,C,h=>by simp only[nt,eX];have h1:=mM (src:=src) p (path:=path++[0]) (C.le (bQ i)) (λw z=>h w z);rw[Jc]at h1;exact Rp.st1 (s:=⟨.st1 w p,src,path,e⟩) rfl h1
 | .st2 w p q,ws,f,b,e,o,i,path,C,h=>by simp only[nt,eX];have h1:=mM (src:=src) p (path:=path++[0]) (C.le (bQ i)) (λw z=>h w (.inl z));have h2:=mM (src:=src) q (path:=path++[1]) (C.le (show i≤i+1+p.size by lia)) (λw z=>h w (.inr z));rw[Jc]at h1;rw[K0]at h2;exact Rp.st2 (s:=⟨.st2 w p q,src,path,e⟩) rfl h1 h2
theorem kL(hg:∀w g,giv w=some g→Lo c g):∀(t:T)(p:List Int)(o:Ow)(i:Nat),(∀w id,o w=some id→id≤c+i)→Lo (c+i+t.size) (nt c src giv t p o i)
 | .num n,p,o,i,h=>.mk (λz=>by rcases z with z|z<;>exact absurd z (by decide)) (by simp)
 | .name w,p,o,i,h=>by
  simp only[nt,eX];cases ho:o w with
  | some id=>exact .mk (λ_ j e=>by cases e;have:=h w id ho;simp only[T.size];lia) (by simp)
  | none=>
   cases hgw:giv w with
   | some g=>exact(hg w g hgw).mono (by simp only[T.size];lia)
   | none=>exact .mk (λ_ j e=>by cases e) (by simp)
 | .sum a b,p,o,i,h=>by
  have h1:=kL (src:=src) hg a (p++[0]) o (i+1) (λw id z=>by have:=h w id z;lia);have h2:=kL (src:=src) hg b (p++[1]) o (i+1+a.size) (λw id z=>by have:=h w id z;lia);simp only[nt,eX,T.size];refine .mk (λz=>by rcases z with z|z<;>exact absurd z (by decide)) (λn hn=>?_);simp only[aB,aF,or_false]at hn;rcases hn with rfl|rfl
  ·exact h1.mono (by lia)
  ·exact h2.mono (by lia)
 | .less a b,p,o,i,h=>by
  have h1:=kL (src:=src) hg a (p++[0]) o (i+1) (λw id z=>by have:=h w id z;lia);have h2:=kL (src:=src) hg b (p++[1]) o (i+1+a.size) (λw id z=>by have:=h w id z;lia);simp only[nt,eX,T.size];refine .mk (λz=>by rcases z with z|z<;>exact absurd z (by decide)) (λn hn=>?_);simp only[aB,aF,or_false]at hn;rcases hn with rfl|rfl
  ·exact h1.mono (by lia)
  ·exact h2.mono (by lia)
 | .cho a b d,p,o,i,h=>by
  have h1:=kL (src:=src) hg a (p++[0]) o (i+1) (λw id z=>by have:=h w id z;lia);have h2:=kL (src:=src) hg b (p++[1]) o (i+1+a.size) (λw id z=>by have:=h w id z;lia);have h3:=kL (src:=src) hg d (p++[2]) o (i+1+a.size+b.size) (λw id z=>by have:=h w id z;lia);simp only[nt,eX,T.size];refine .mk (λz=>by rcases z with z|z<;>exact absurd z (by decide)) (λn hn=>?_);simp only[aB,aF,or_false]at hn;rcases hn with rfl|rfl|rfl
  ·exact h1.mono (by lia)
  ·exact h2.mono (by lia)
  ·exact h3.mono (by lia)
 | .lt v a b,p,o,i,h=>by
  have h1:=kL (src:=src) hg a (p++[0]) o (i+1) (λw id z=>by have:=h w id z;lia);have h2:=kL (src:=src) hg b (p++[1]) (Ow.put o v (c+((i+1:Nat):Int))) (i+1+a.size) (λw id z=>by
   unfold Ow.put at z;split at z
   ·cases z;lia
   ·have:=h w id z;lia)
  simp only[nt,eX,T.size];refine .mk (λ_ j e=>by cases e;lia) (λn hn=>?_);simp only[aB,aF,or_false]at hn;rcases hn with rfl|rfl
  ·exact h1.mono (by lia)
  ·exact h2.mono (by lia)
 | .st0 w,p,o,i,h=>.mk (λz=>by rcases z with z|z<;>exact absurd z (by decide)) (by simp)
 | .st1 w a,p,o,i,h=>by have h1:=kL (src:=src) hg a (p++[0]) o (i+1) (λw id z=>by have:=h w id z;lia);simp only[nt,eX,T.size];refine .mk (λz=>by rcases z with z|z<;>exact absurd z (by decide)) (λn hn=>?_);simp only[aB,aF,or_false]at hn;subst hn;exact h1.mono (by lia)
 | .st2 w a b,p,o,i,h=>by
  have h1:=kL (src:=src) hg a (p++[0]) o (i+1) (λw id z=>by have:=h w id z;lia);have h2:=kL (src:=src) hg b (p++[1]) o (i+1+a.size) (λw id z=>by have:=h w id z;lia);simp only[nt,eX,T.size];refine .mk (λz=>by rcases z with z|z<;>exact absurd z (by decide)) (λn hn=>?_);simp only[aB,aF,or_false]at hn;rcases hn with rfl|rfl
  ·exact h1.mono (by lia)
  ·exact h2.mono (by lia)
inductive It where
 | r(x:Rw)
 | s(x:eK)
def It.isR:It→Prop
 | .r _=>True
 | .s _=>False
def It.wt:It→Nat
 | .r x=>x.wt
 | .s x=>x.wt 0
def xO(I:List It):Nat:=(I.map It.wt).sum
theorem kn(a b:List It):xO (a++b)=xO a+xO b:=by simp[xO]
theorem pj(a:It)(b:List It):xO (a::b)=a.wt+xO b:=by simp[xO]
abbrev rI(R:List Rw):List It:=R.map .r
abbrev sI(S:List eK):List It:=S.map .s
theorem Jk(R:List Rw):xO (rI R)=lJ R:=by simp[xO,lJ,cp,It.wt]
theorem Jj(S:List eK):xO (sI S)=lv 0 S:=by simp[xO,lv,cp,It.wt]
def OJ(k:Str)(h:Hd):Prop:=(k="sum"∧h=.sum)∨(k="less"∧h=.less)
inductive TR(W:List (T×List kj))(ws0 ws:List Str):Fo→Ba→List It→NT→Prop where
 | spot{f:Fo}{b:Ba}{s:eK}{n:NT}:Rp W ws f b s n→TR W ws0 ws f b [.s s] n
 | num{f:Fo}{b:Ba}{m:Int}{src:Str}{path:List Nat}:TR W ws0 ws f b [.r (.row (.num m) src path)] (.mk "number" (.int m) src (ip path) [])
 | free{f:Fo}{b:Ba}{w:Str}{src:Str}{path:List Nat}:w∈ws→f w=none→TR W ws0 ws f b [.r (.row (.name w) src path)] (.mk "name" (.str w) src (ip path) [])
 | bound{f:Fo}{b:Ba}{w:Str}{i:Int}{src:Str}{path:List Nat}:w∈ws→f w=some i→b i=some w→TR W ws0 ws f b [.r (.row (.name w) src path)] (.mk "name" (.int i) src (ip path) [])
 | rdy{f:Fo}{b:Ba}{k z:Nat}{t:T}{ss:List kj}{n:NT}:W[k]?=some (t,ss)→Gs ws f b t n→mL n=ss.map cv→gq n=z→TR W ws0 ws f b [.r (.rdy k z)] n
 | two{f:Fo}{b:Ba}{k:Str}{h:Hd}{I1 I2:List It}{n1 n2:NT}{src:Str}{path:List Nat}:OJ k h→TR W ws0 ws f b I1 n1→TR W ws0 ws f b I2 n2→TR W ws0 ws f b (.r (.row h src path)::(I1++I2)) (.mk k .non src (ip path) [n1,n2])
 | cho{f:Fo}{b:Ba}{I1 I2 I3:List It}{n1 n2 n3:NT}{src:Str}{path:List Nat}:TR W ws0 ws f b I1 n1→TR W ws0 ws f b I2 n2→TR W ws0 ws f b I3 n3→TR W ws0 ws f b (.r (.row .cho src path)::(I1++(I2++I3))) (.mk "choose" .non src (ip path) [n1,n2,n3])
 | lt{f:Fo}{b:Ba}{x:Str}{i:Int}{I1 I2:List It}{n1 n2:NT}{src:Str}{path:List Nat}:x∈ws→x∉ws0→TR W ws0 ws f b I1 n1→TR W ws0 ws (lM f x i) (mN b i x) I2 n2→TR W ws0 ws f b (.r (.row (.lt x) src path)::(I1++I2)) (.mk "let" (.int i) src (ip path) [n1,n2])
abbrev Le(W W':List (T×List kj)):Prop:=∀(k:Nat)(p:T×List kj),W[k]?=some p→W'[k]?=some p
theorem TR.mono(hW:Le W W')(hs:∀x∈ws,x∈ws')(h:TR W ws0 ws f b I n):TR W' ws0 ws' f b I n:=by
 induction h with
 | spot a=>exact .spot (a.mono hW hs)
 | num=>exact .num
 | free a e=>exact .free (hs _ a) e
 | bound a e1 e2=>exact .bound (hs _ a) e1 e2
 | rdy k g s z=>exact .rdy (hW _ _ k) (g.mono hs) s z
 | two k _ _ i1 i2=>exact .two k i1 i2
 | cho _ _ _ i1 i2 i3=>exact .cho i1 i2 i3
 | lt a a2 _ _ i1 i2=>exact .lt (hs _ a) a2 i1 i2
mutual
def fst:NT→Option (List Nat)
 | .mk k _ _ _ ks=>if k="stamp" then some []else j0 ks 0
def j0:List NT→Nat→Option (List Nat)
 | [],_=>none
 | n::ns,i=>match fst n with
  | some p=>some (i::p)
  | none=>j0 ns (i+1)
end
def ic:NT→List Nat→Option NT
 | n,[]=>some n
 | .mk _ _ _ _ ks,i::p=>match ks[i]? with
  | some m=>ic m p
  | none=>none
def iq:NT→List Nat→NT→NT
 | _,[],m=>m
 | .mk k x src path ks,i::p,m=>.mk k x src path (ks.set i (match ks[i]? with|some n=>iq n p m|none=>m))
mutual
theorem oS:∀{n:NT},Jf n→fst n=none
 | .mk k x src path ks,.mk h1 h2=>by rw[fst,if_neg h1];exact yQ h2 0
theorem yQ:∀{ks:List NT},(∀n∈ks,Jf n)→∀i,j0 ks i=none
 | [],_,_=>by rw[j0]
 | n::ns,h,i=>by rw[j0,oS (h n (.head _))];exact yQ (λm hm=>h m (.tail _ hm)) (i+1)
end
theorem sq(h:TR W ws0 ws f b I n):(∀x∈I,x.isR)→Jf n:=by
 induction h with
 | spot a=>exact λz=>(z _ (.head _)).elim
 | num=>exact λ_=>.mk (by decide) (by simp)
 | free=>exact λ_=>.mk (by decide) (by simp)
 | bound=>exact λ_=>.mk (by decide) (by simp)
 | rdy _ g=>exact λ_=>g.ns
 | two k _ _ i1 i2=>intro z;have h1:=i1 λx hx=>z x (by simp[hx]);have h2:=i2 λx hx=>z x (by simp[hx]);refine .mk ?_ (by simp[h1,h2]);rcases k with⟨rfl,_⟩|⟨rfl,_⟩<;>decide
 | cho _ _ _ i1 i2 i3=>intro z;have h1:=i1 λx hx=>z x (by simp[hx]);have h2:=i2 λx hx=>z x (by simp[hx]);have h3:=i3 λx hx=>z x (by simp[hx]);exact .mk (by decide) (by simp[h1,h2,h3])
 | lt _ _ _ _ i1 i2=>intro z;have h1:=i1 λx hx=>z x (by simp[hx]);have h2:=i2 λx hx=>z x (by simp[hx]);exact .mk (by decide) (by simp[h1,h2])
def Kz:NT→Prop
 | .mk k _ _ _ _=>k="stamp"
abbrev Cx(ws0:List Str)(f:Fo):Prop:=∀x i,f x=some i→x∉ws0
structure At(W:List (T×List kj))(ws0 ws:List Str)(f:Fo)(b:Ba)(A:List It)(s:eK)(B:List It)(n:NT)(p:List Nat)(f':Fo)(b':Ba)(m:NT):Prop where
 get:ic n p=some m
 rp:Rp W ws f' b' s m
 cx:Cx ws0 f'
 st:Kz m→fst n=some p
 put:iq n p m=n
 tr:∀{W':List (T×List kj)}{ws':List Str},Le W W'→(∀x∈ws,x∈ws')→∀{J:List It}{m':NT},TR W' ws0 ws' f' b' J m'→TR W' ws0 ws' f b (A++(J++B)) (iq n p m')
theorem sQ{I1 I2 A B:List It}{s:eK}(h:I1++I2=A++.s s::B):(∃B1,I1=A++.s s::B1∧B=B1++I2)∨∃A2,A=I1++A2∧I2=A2++.s s::B:=by
 rcases List.append_eq_append_iff.mp h with⟨c,h1,h2⟩|⟨c,h1,h2⟩
 ·exact .inr ⟨c,h1,h2⟩
 ·cases c with
  | nil=>rw[aZ]at h1;exact .inr ⟨[],by simp[h1],by simpa using h2.symm⟩
  | cons x c=>rw[aO]at h2;injection h2 with e1 e2;subst e1;exact .inl ⟨c,h1,e2⟩
theorem jz(h:.r r::I=A++It.s s::B):∃A1,A=.r r::A1∧I=A1++.s s::B:=by
 cases A with
 | nil=>rw[ak]at h;injection h with e;cases e
 | cons x A=>rw[aO]at h;injection h with e1 e2;exact⟨A,by rw[e1],e2⟩
theorem Kn(z:OJ k h):k≠"stamp":=by rcases z with⟨rfl,_⟩|⟨rfl,_⟩<;>decide
theorem yc{W:List (T×List kj)}{ws0 ws:List Str}{f:Fo}{b:Ba}{I:List It}{n:NT}(h:TR W ws0 ws f b I n):∀{A B:List It}{s:eK},I=A++.s s::B→(∀x∈A,x.isR)→Cx ws0 f→∃p f' b' m,At W ws0 ws f b A s B n p f' b' m:=by
 induction h with
 | @spot f b s0 n a=>
  intro A B s e _ cx;cases A with
  | nil=>rw[ak]at e;injection e with e1 e2;cases e1;subst e2;exact⟨[],f,b,n,by cases n;rfl,a,cx,λz=>by cases n;exact if_pos z,rfl,λ_ _ J m' t=>by simpa[iq]using t⟩
  | cons x A=>rw[aO]at e;injection e with _ e2;cases A<;>cases e2
 | num=>intro A B s e;obtain⟨A1,_,e2⟩:=jz e;cases A1<;>cases e2
 | free=>intro A B s e;obtain⟨A1,_,e2⟩:=jz e;cases A1<;>cases e2
 | bound=>intro A B s e;obtain⟨A1,_,e2⟩:=jz e;cases A1<;>cases e2
 | rdy=>intro A B s e;obtain⟨A1,_,e2⟩:=jz e;cases A1<;>cases e2
 | @two f b k hd I1 I2 n1 n2 src path hk t1 t2 i1 i2=>
  intro A B s e hA cx;obtain⟨A1,rfl,e2⟩:=jz e;have hA1:∀x∈A1,x.isR:=λx hx=>hA x (.tail _ hx);rcases sQ e2 with⟨B1,e3,rfl⟩|⟨A2,rfl,e3⟩
  ·obtain⟨p,f',b',m,a⟩:=i1 e3 hA1 cx;refine⟨0::p,f',b',m,a.get,a.rp,a.cx,λz=>?_,?_,λhW hs J m' t=>?_⟩
   ·rw[fst,if_neg (Kn hk),j0,a.st z]
   ·simp only[iq,List.getElem?_cons_zero,a.put,List.set_cons_zero]
   ·have:=TR.two (src:=src) (path:=path) hk (a.tr hW hs t) (t2.mono hW hs);simpa[iq]using this
  ·have n1s:=oS (sq t1 λx hx=>hA1 x (by simp[hx]));obtain⟨p,f',b',m,a⟩:=i2 e3 (λx hx=>hA1 x (by simp[hx])) cx;refine⟨1::p,f',b',m,a.get,a.rp,a.cx,λz=>?_,?_,λhW hs J m' t=>?_⟩
   ·rw[fst,if_neg (Kn hk),j0,n1s,j0,a.st z]
   ·simp[iq,a.put]
   ·have:=TR.two (src:=src) (path:=path) hk (t1.mono hW hs) (a.tr hW hs t);simpa[iq]using this
 | @cho f b I1 I2 I3 n1 n2 n3 src path t1 t2 t3 i1 i2 i3=>
  intro A B s e hA cx;obtain⟨A1,rfl,e2⟩:=jz e;have hA1:∀x∈A1,x.isR:=λx hx=>hA x (.tail _ hx);have nk:("choose":Str)≠"stamp":=by decide
  rcases sQ e2 with⟨B1,e3,rfl⟩|⟨A2,rfl,e3⟩
  ·obtain⟨p,f',b',m,a⟩:=i1 e3 hA1 cx;refine⟨0::p,f',b',m,a.get,a.rp,a.cx,λz=>?_,?_,λhW hs J m' t=>?_⟩
   ·rw[fst,if_neg nk,j0,a.st z]
   ·simp[iq,a.put]
   ·have:=TR.cho (src:=src) (path:=path) (a.tr hW hs t) (t2.mono hW hs) (t3.mono hW hs);simpa[iq]using this
  ·have n1s:=oS (sq t1 λx hx=>hA1 x (by simp[hx]));rcases sQ e3 with⟨B1,e4,rfl⟩|⟨A3,rfl,e4⟩
   ·obtain⟨p,f',b',m,a⟩:=i2 e4 (λx hx=>hA1 x (by simp[hx])) cx;refine⟨1::p,f',b',m,a.get,a.rp,a.cx,λz=>?_,?_,λhW hs J m' t=>?_⟩
    ·rw[fst,if_neg nk,j0,n1s,j0,a.st z]
    ·simp[iq,a.put]
    ·have:=TR.cho (src:=src) (path:=path) (t1.mono hW hs) (a.tr hW hs t) (t3.mono hW hs);simpa[iq]using this
   ·have n2s:=oS (sq t2 λx hx=>hA1 x (by simp[hx]));obtain⟨p,f',b',m,a⟩:=i3 e4 (λx hx=>hA1 x (by simp[hx])) cx;refine⟨2::p,f',b',m,a.get,a.rp,a.cx,λz=>?_,?_,λhW hs J m' t=>?_⟩
    ·rw[fst,if_neg nk,j0,n1s,j0,n2s,j0,a.st z]
    ·simp[iq,a.put]
    ·have:=TR.cho (src:=src) (path:=path) (t1.mono hW hs) (t2.mono hW hs) (a.tr hW hs t);simpa[iq]using this
 | @lt f b x i I1 I2 n1 n2 src path hx hx0 t1 t2 i1 i2=>
  intro A B s e hA cx;obtain⟨A1,rfl,e2⟩:=jz e;have hA1:∀x∈A1,x.isR:=λx hx=>hA x (.tail _ hx);have nk:("let":Str)≠"stamp":=by decide
  rcases sQ e2 with⟨B1,e3,rfl⟩|⟨A2,rfl,e3⟩
  ·obtain⟨p,f',b',m,a⟩:=i1 e3 hA1 cx;refine⟨0::p,f',b',m,a.get,a.rp,a.cx,λz=>?_,?_,λhW hs J m' t=>?_⟩
   ·rw[fst,if_neg nk,j0,a.st z]
   ·simp[iq,a.put]
   ·have:=TR.lt (src:=src) (path:=path) (hs _ hx) hx0 (a.tr hW hs t) (t2.mono hW hs);simpa[iq]using this
  ·have n1s:=oS (sq t1 λx hx=>hA1 x (by simp[hx]));have cx':Cx ws0 (lM f x i):=λy j h=>by
    unfold lM at h;split at h
    ·rename_i e;subst e;exact hx0
    ·exact cx y j h
   obtain⟨p,f',b',m,a⟩:=i2 e3 (λx hx=>hA1 x (by simp[hx])) cx';refine⟨1::p,f',b',m,a.get,a.rp,a.cx,λz=>?_,?_,λhW hs J m' t=>?_⟩
   ·rw[fst,if_neg nk,j0,n1s,j0,a.st z]
   ·simp[iq,a.put]
   ·have:=TR.lt (src:=src) (path:=path) (hs _ hx) hx0 (t1.mono hW hs) (a.tr hW hs t);simpa[iq]using this
end S8
namespace S8
open PySem L2 SW S9
variable {W:List (T×List kj)}{ws0 ws ws':List Str}{f:Fo}{b:Ba}
def OL(W:List (T×List kj))(ws:List Str)(f:Fo)(b:Ba)(s:eK)(n:NT):T→Prop
 | .num m=>n=.mk "number" (.int m) s.src (ip s.path) []
 | .name w=>(s.e.look w=none∧w∈ws∧f w=none∧n=.mk "name" (.str w) s.src (ip s.path) [])∨(∃x i,s.e.look w=some (.called x)∧x∈ws∧f x=some i∧b i=some x∧n=.mk "name" (.int i) s.src (ip s.path) [])∨
  (∃k z t ss,s.e.look w=some (.ready k z)∧W[k]?=some (t,ss)∧Gs ws f b t n∧mL n=ss.map cv∧gq n=z)∨∃t src path e,s.e.look w=some (.handed t src path e)∧Rp W ws f b ⟨t,src,path,e⟩ n
 | .sum t1 t2=>∃n1 n2,n=.mk "sum" .non s.src (ip s.path) [n1,n2]∧Rp W ws f b (s.kid 0 t1) n1∧Rp W ws f b (s.kid 1 t2) n2
 | .less t1 t2=>∃n1 n2,n=.mk "less" .non s.src (ip s.path) [n1,n2]∧Rp W ws f b (s.kid 0 t1) n1∧Rp W ws f b (s.kid 1 t2) n2
 | .cho t1 t2 t3=>∃n1 n2 n3,n=.mk "choose" .non s.src (ip s.path) [n1,n2,n3]∧Rp W ws f b (s.kid 0 t1) n1∧Rp W ws f b (s.kid 1 t2) n2∧Rp W ws f b (s.kid 2 t3) n3
 | .lt w t1 t2=>∃n1 n2 i,n=.mk "let" (.int i) s.src (ip s.path) [n1,n2]∧Rp W ws f b (s.kid 0 t1) n1∧∀x,x∉ws→Rp W (x::ws) (lM f x i) (mN b i x) ⟨t2,s.src,s.path++[1],s.e.put w (.called x)⟩ n2
 | .st0 w=>n=.mk "stamp" (.str w) s.src (ip s.path) []
 | .st1 w t1=>∃n1,n=.mk "stamp" (.str w) s.src (ip s.path) [n1]∧Rp W ws f b (s.kid 0 t1) n1
 | .st2 w t1 t2=>∃n1 n2,n=.mk "stamp" (.str w) s.src (ip s.path) [n1,n2]∧Rp W ws f b (s.kid 0 t1) n1∧Rp W ws f b (s.kid 1 t2) n2
theorem Rp.inv{s:eK}{n:NT}(h:Rp W ws f b s n):OL W ws f b s n s.t:=by
 cases h with
 | num e=>rw[e];rfl
 | free e l m g=>rw[e];exact .inl ⟨l,m,g,rfl⟩
 | called e l m g1 g2=>rw[e];exact .inr (.inl ⟨_,_,l,m,g1,g2,rfl⟩)
 | ready e l hk g hs hz=>rw[e];exact .inr (.inr (.inl ⟨_,_,_,_,l,hk,g,hs,hz⟩))
 | handed e l r=>rw[e];exact .inr (.inr (.inr ⟨_,_,_,_,l,r⟩))
 | sum e a c=>rw[e];exact⟨_,_,rfl,a,c⟩
 | less e a c=>rw[e];exact⟨_,_,rfl,a,c⟩
 | cho e a c d=>rw[e];exact⟨_,_,_,rfl,a,c,d⟩
 | lt e a c=>rw[e];exact⟨_,_,_,rfl,a,c⟩
 | st0 e=>rw[e];rfl
 | st1 e a=>rw[e];exact⟨_,rfl,a⟩
 | st2 e a c=>rw[e];exact⟨_,_,rfl,a,c⟩
theorem Rp.at{s:eK}{n:NT}{t:T}(h:Rp W ws f b s n)(e:s.t=t):OL W ws f b s n t:=e▸h.inv
theorem FN{s:eK}{Q:List eK}{rs:List Rw}{m:NT}(h:Tk ws s Q rs ws')(r:Rp W ws f b s m)(h0:∀x∈ws0,x∈ws):TR W ws0 ws' f b (rI rs++sI Q.reverse) m∧∀x∈ws,x∈ws':=by
 cases h with
 | plain e=>
  refine⟨?_,λ_ z=>z⟩;rw[cL];have v:=r.inv;obtain⟨st,src,path,en⟩:=s;cases st<;>cases e
  ·cases v;exact .num
  ·obtain⟨n1,n2,rfl,r1,r2⟩:=v;exact .two (I1:=[.s _]) (I2:=[.s _]) (.inl ⟨rfl,rfl⟩) (.spot r1) (.spot r2)
  ·obtain⟨n1,n2,rfl,r1,r2⟩:=v;exact .two (I1:=[.s _]) (I2:=[.s _]) (.inr ⟨rfl,rfl⟩) (.spot r1) (.spot r2)
  ·obtain⟨n1,n2,n3,rfl,r1,r2,r3⟩:=v;exact .cho (I1:=[.s _]) (I2:=[.s _]) (I3:=[.s _]) (.spot r1) (.spot r2) (.spot r3)
 | free e l=>
  refine⟨?_,λ_ z=>z⟩;rcases r.at e with⟨_,h1,h2,rfl⟩|⟨_,_,l2,_⟩|⟨_,_,_,_,l2,_⟩|⟨_,_,_,_,l2,_⟩
  ·exact .free h1 h2
  all_goals (rw[l]at l2;cases l2)
 | called e l=>
  refine⟨?_,λ_ z=>z⟩;rcases r.at e with⟨l2,_⟩|⟨_,_,l2,h1,h2,h3,rfl⟩|⟨_,_,_,_,l2,_⟩|⟨_,_,_,_,l2,_⟩
  all_goals (rw[l]at l2;cases l2)
  exact .bound h1 h2 h3
 | ready e l=>
  refine⟨?_,λ_ z=>z⟩;rcases r.at e with⟨l2,_⟩|⟨_,_,l2,_⟩|⟨_,_,_,_,l2,h1,h2,h3,h4⟩|⟨_,_,_,_,l2,_⟩
  all_goals (rw[l]at l2;cases l2)
  exact .rdy h1 h2 h3 h4
 | handed e l=>
  refine⟨?_,λ_ z=>z⟩;rcases r.at e with⟨l2,_⟩|⟨_,_,l2,_⟩|⟨_,_,_,_,l2,_⟩|⟨_,_,_,_,l2,r2⟩
  all_goals (rw[l]at l2;cases l2)
  exact .spot r2
 | @lt w x p q e _ hx _=>
  have sub:∀y∈ws,y∈ws++[x]:=λy hy=>ag _ hy;refine⟨?_,sub⟩;obtain⟨n1,n2,i,rfl,r1,r2⟩:=r.at e;refine .lt (I1:=[.s _]) (I2:=[.s _]) (aS _ (.head _)) (λz=>hx (h0 _ z)) (.spot (r1.mono (λ_ _ z=>z) sub)) (.spot ((r2 x hx).mono (λ_ _ z=>z) λy hy=>?_));rcases aB.mp hy with rfl|hy
  ·exact aS _ (.head _)
  ·exact sub _ hy
theorem qm(R:List Rw):∀x∈rI R,x.isR:=λx hx=>by obtain⟨r,_,rfl⟩:=bw.mp hx;exact aJ
theorem eM{S Q:List eK}{s:eK}{R:List Rw}:rI R++sI (S++[s]).reverse=rI R++.s s::sI S.reverse:=by simp
theorem IJ{S:List eK}{R R':List Rw}{n:NT}(h:AB S R ws R' ws'):(∀x∈ws0,x∈ws)→Cx ws0 f→TR W ws0 ws f b (rI R++sI S.reverse) n→TR W ws0 ws' f b (rI R') n∧∀x∈ws,x∈ws':=by
 induction h with
 | nil=>exact λ_ _ t=>⟨by simpa using t,λ_ z=>z⟩
 | @step S P s R rs R' ws ws' ws'' tk _ ih=>intro h0 cx t;rw[eM (Q:=P)]at t;obtain⟨p,f',b',m,a⟩:=yc t rfl (qm R) cx;obtain⟨t2,sub⟩:=FN tk a.rp h0;have t3:=a.tr (λ_ _ z=>z) sub t2;rw[a.put]at t3;obtain⟨t4,sub2⟩:=ih (λx hx=>sub x (h0 x hx)) cx (by simpa using t3);exact⟨t4,λx hx=>sub2 x (sub x hx)⟩
theorem K3{I:List It}{n:NT}(h:TR W ws0 ws f b I n):(∀x∈I,x.isR)→∃R,I=rI R∧∃t,(∀R2,mQ (W.map Prod.fst) (R++R2)=t::mQ (W.map Prod.fst) R2)∧Gs ws f b t n∧mL n=(ie (W.map Prod.snd) R).map cv:=by
 induction h with
 | spot a=>exact λz=>(z _ (.head _)).elim
 | @num f b m src path=>exact λ_=>⟨[.row (.num m) src path],rfl,.num m,λR2=>rfl,.num,rfl⟩
 | @free f b w src path a e=>exact λ_=>⟨[.row (.name w) src path],rfl,.name w,λR2=>rfl,.free a e,rfl⟩
 | @bound f b w i src path a e1 e2=>exact λ_=>⟨[.row (.name w) src path],rfl,.name w,λR2=>rfl,.bound a e1 e2,rfl⟩
 | @rdy f b k z t ss n hk g hs hz=>
  refine λ_=>⟨[.rdy k z],rfl,t,λR2=>?_,g,?_⟩
  ·simp only[aO,ak,mQ,zA,ae,hk,bf,b4]
  ·simp only[ie,ae,hk,bf,b4,aZ];exact hs
 | @two f b k hd I1 I2 n1 n2 src path hk t1 t2 i1 i2=>
  intro z;obtain⟨R1,rfl,u1,e1,g1,s1⟩:=i1 λx hx=>z x (by simp[hx]);obtain⟨R2,rfl,u2,e2,g2,s2⟩:=i2 λx hx=>z x (by simp[hx]);rcases hk with⟨rfl,rfl⟩|⟨rfl,rfl⟩
  ·refine⟨.row .sum src path::(R1++R2),by simp,.sum u1 u2,λR3=>?_,.sum g1 g2,?_⟩
   ·simp only[aO,aV,mQ,e1,e2,zA,Hd.ar,bK,ay,bH,ai,wV]
   ·simp[mL,mX,ie,gu,s1,s2]
  ·refine⟨.row .less src path::(R1++R2),by simp,.less u1 u2,λR3=>?_,.less g1 g2,?_⟩
   ·simp only[aO,aV,mQ,e1,e2,zA,Hd.ar,bK,ay,bH,ai,wV]
   ·simp[mL,mX,ie,gu,s1,s2]
 | @cho f b I1 I2 I3 n1 n2 n3 src path t1 t2 t3 i1 i2 i3=>
  intro z;obtain⟨R1,rfl,u1,e1,g1,s1⟩:=i1 λx hx=>z x (by simp[hx]);obtain⟨R2,rfl,u2,e2,g2,s2⟩:=i2 λx hx=>z x (by simp[hx]);obtain⟨R3,rfl,u3,e3,g3,s3⟩:=i3 λx hx=>z x (by simp[hx]);refine⟨.row .cho src path::(R1++(R2++R3)),by simp,.cho u1 u2 u3,λR4=>?_,.cho g1 g2 g3,?_⟩
  ·simp only[aO,aV,mQ,e1,e2,e3,zA,Hd.ar,bK,ay,bH,ai,wV]
  ·simp[mL,mX,ie,gu,s1,s2,s3]
 | @lt f b x i I1 I2 n1 n2 src path hx hx0 t1 t2 i1 i2=>
  intro z;obtain⟨R1,rfl,u1,e1,g1,s1⟩:=i1 λx hx=>z x (by simp[hx]);obtain⟨R2,rfl,u2,e2,g2,s2⟩:=i2 λx hx=>z x (by simp[hx]);refine⟨.row (.lt x) src path::(R1++R2),by simp,.lt x u1 u2,λR3=>?_,.lt hx g1 g2,?_⟩
  ·simp only[aO,aV,mQ,e1,e2,zA,Hd.ar,bK,ay,bH,ai,wV]
  ·simp[mL,mX,ie,gu,s1,s2]
theorem IR{R R2:List Rw}(h:rI R=rI R2):R=R2:=by have:=congrArg (List.map λx=>match x with|It.r y=>y|It.s _=>Rw.rdy 0 0) h;simpa[cG,cp]using this
theorem yN{R:List Rw}{n:NT}(h:TR W ws0 ws f b (rI R) n):∃t,mQ (W.map Prod.fst) R=[t]∧Gs ws f b t n∧mL n=(ie (W.map Prod.snd) R).map cv:=by obtain⟨R2,e,t,h1,h2,h3⟩:=K3 h (qm R);have:=IR e;subst this;have:=h1 [];rw[aZ]at this;exact⟨t,this,h2,h3⟩
def Fw(k:Nat):Str:=⟨(List.replicate k 97).toArray⟩
theorem wn(ws:List Str):∃x:Str,x∉ws:=by
 have key:∀ws:List Str,∃m:Nat,∀x∈ws,x.cps.size<m:=by
  intro ws;induction ws with
  | nil=>exact⟨0,λx hx=>by cases hx⟩
  | cons y ws ih=>
   obtain⟨m,hm⟩:=ih;refine⟨m+y.cps.size+1,λx hx=>?_⟩;rcases aB.mp hx with rfl|hx
   ·lia
   ·have:=hm x hx;lia
 obtain⟨m,hm⟩:=key ws;refine⟨Fw m,λz=>?_⟩;have:=hm _ z;simp[Fw]at this
theorem FX{s:eK}{n:NT}(h:Rp W ws f b s n):s.wt 0=gq n:=by
 induction h with
 | num e=>simp[eK.wt,e,kB,gq,fN]
 | free e l=>rw[ij e,l];simp[gq,fN]
 | called e l=>rw[ij e,l];simp[gq,fN,Mg.wt]
 | ready e l _ _ _ hz=>rw[ij e,l];simp[Mg.wt,hz]
 | handed e l _ ih=>rw[ij e,l,←ih];simp[Mg.wt,eK.wt]
 | sum e _ _ i1 i2=>simp only[gq,fN,←i1,←i2];simp only[eK.wt,e,kB,eK.kid];lia
 | less e _ _ i1 i2=>simp only[gq,fN,←i1,←i2];simp only[eK.wt,e,kB,eK.kid];lia
 | cho e _ _ _ i1 i2 i3=>simp only[gq,fN,←i1,←i2,←i3];simp only[eK.wt,e,kB,eK.kid];lia
 | @lt ws f b s w t1 t2 n1 n2 i e _ _ i1 i2=>obtain⟨x,hx⟩:∃x:Str,x∉ws:=wn ws;have:=i2 x hx;simp only[gq,fN,←i1,←this];rw[AK (x:=x) e,lS,hV];lia
 | st0 e=>simp[eK.wt,e,kB,gq,fN]
 | st1 e _ i1=>simp only[gq,fN,←i1];simp only[eK.wt,e,kB,eK.kid];lia
 | st2 e _ _ i1 i2=>simp only[gq,fN,←i1,←i2];simp only[eK.wt,e,kB,eK.kid];lia
theorem Jm{I:List It}{n:NT}(h:TR W ws0 ws f b I n):xO I=gq n:=by
 induction h with
 | spot a=>simp[xO,It.wt,FX a]
 | num=>rfl
 | free=>rfl
 | bound=>rfl
 | rdy _ _ _ hz=>simp[xO,It.wt,Rw.wt,hz]
 | two _ _ _ i1 i2=>simp only[pj,kn,i1,i2,It.wt,Rw.wt,gq,fN];lia
 | cho _ _ _ i1 i2 i3=>simp only[pj,kn,i1,i2,i3,It.wt,Rw.wt,gq,fN];lia
 | lt _ _ _ _ i1 i2=>simp only[pj,kn,i1,i2,It.wt,Rw.wt,gq,fN];lia
end S8
namespace S8
open PySem L2 SW S9
variable {W:List (T×List kj)}{ws0 ws ws':List Str}{f:Fo}{b:Ba}{bo:Bo}{t:T}
def C6:Gi:=λ_=>none
def Ey(e:Bool)(g:NT):Gi:=λw=>if w=qV e then some g else none
def tV(e:Bool)(g h:NT):Gi:=λw=>if w=qV e then some g else if w=vY e then some h else none
inductive xM(bo:Bo):Str→List NT→Gi→T→Prop where
 | star:xM bo "star" [] C6 bo.x
 | sta{g:NT}:xM bo "sta" [g] (Ey bo.e g) bo.y
 | st{g h:NT}:xM bo "st" [g,h] (tV bo.e g h) bo.z
inductive Ly(bo:Bo)(t:T):Nat→NT→Int→Prop where
 | zero:Ly bo t 0 (nt 0 "" C6 t [] Ow.none 0) (0+(t.size:Int))
 | succ{k:Nat}{n:NT}{c:Int}{p:List Nat}{w src:Str}{path:List Int}{ks:List NT}{giv:Gi}{body:T}:Ly bo t k n c→fst n=some p→ic n p=some (.mk "stamp" (.str w) src path ks)→xM bo w ks giv body→
  Ly bo t (k+1) (iq n p (nt c w giv body [] Ow.none 0)) (c+(body.size:Int))
theorem xM.uniq{w:Str}{ks:List NT}{g1 g2:Gi}{c1 c2:T}(h1:xM bo w ks g1 c1)(h2:xM bo w ks g2 c2):g1=g2∧c1=c2:=by cases h1<;>cases h2<;>exact⟨rfl,rfl⟩
theorem Ly.uniq{k:Nat}{n1 n2:NT}{c1 c2:Int}(h1:Ly bo t k n1 c1)(h2:Ly bo t k n2 c2):n1=n2∧c1=c2:=by
 induction h1 generalizing n2 c2 with
 | zero=>cases h2;exact⟨rfl,rfl⟩
 | succ a f1 g1 B1 ih=>
  cases h2 with
  | succ a2 f2 g2 B2=>obtain⟨rfl,rfl⟩:=ih a2;rw[f1]at f2;cases f2;rw[g1]at g2;cases g2;obtain⟨rfl,rfl⟩:=B1.uniq B2;exact⟨rfl,rfl⟩
theorem Ly.over{k j:Nat}{n m:NT}{c d:Int}(h1:Ly bo t k n c)(h2:Ly bo t j m d)(h:k<j):∃p,fst n=some p:=by
 induction h2 with
 | zero=>lia
 | @succ j m d p w src path ks giv body a f1 g1 B1 ih=>
  rcases bM k j with hk|hk
  ·exact ih hk
  ·have:k=j:=by lia
   subst this;obtain⟨rfl,_⟩:=h1.uniq a;exact⟨_,f1⟩
theorem Ly.le_end{k j:Nat}{n m:NT}{c d:Int}(h1:Ly bo t k n c)(h2:Ly bo t j m d)(e:fst n=none):j≤k:=by
 rcases bM k j with hk|hk
 ·obtain⟨p,hp⟩:=h1.over h2 hk;rw[e]at hp;cases hp
 ·exact hk
theorem rV:∀{ks:List NT}{j:Nat}{q:List Nat},j0 ks j=some q→∃i p m,q=(j+i)::p∧ks[i]?=some m∧fst m=some p
 | [],_,_,h=>by rw[j0]at h;cases h
 | n::ns,j,q,h=>by
  rw[j0]at h;cases e:fst n with
  | some p=>rw[e]at h;cases h;exact⟨0,p,n,rfl,rfl,e⟩
  | none=>rw[e]at h;obtain⟨i,p,m,h1,h2,h3⟩:=rV h;exact⟨i+1,p,m,by rw[h1];congr 1;lia,h2,h3⟩
theorem qg{k:Str}{x:V}{src:Str}{path:List Int}{ks:List NT}{q:List Nat}(h:fst (.mk k x src path ks)=some q):(k="stamp"∧q=[])∨(k≠"stamp"∧∃i p m,q=i::p∧ks[i]?=some m∧fst m=some p):=by
 rw[fst]at h;split at h
 ·rename_i e;cases h;exact .inl ⟨e,rfl⟩
 ·rename_i e;obtain⟨i,p,m,h1,h2,h3⟩:=rV h;exact .inr ⟨e,i,p,m,by rw[h1,bx],h2,h3⟩
theorem CK{c:Int}{m:NT}(hm:Lo c m):∀{p:List Nat}{n:NT},Lo c n→Lo c (iq n p m)
 | [],_,_=>hm
 | i::p,.mk k x src path ks,.mk h1 h2=>by
  refine .mk h1 λy hy=>?_;rcases cq hy with z|rfl
  ·exact h2 y z
  ·cases e:ks[i]? with
   | none=>exact hm
   | some n=>exact CK hm (h2 n (ac e))
theorem wZ{c:Int}:∀{p:List Nat}{n m:NT},Lo c n→ic n p=some m→Lo c m
 | [],n,m,h,e=>by cases n;cases e;exact h
 | i::p,.mk k x src path ks,m,.mk h1 h2,e=>by
  rw[ic]at e;cases e2:ks[i]? with
  | none=>rw[e2]at e;cases e
  | some n=>rw[e2]at e;exact wZ (h2 n (ac e2)) e
theorem nQ{w:Str}{ks:List NT}{giv:Gi}{body:T}(B:xM bo w ks giv body){P:NT→Prop}(h:∀n∈ks,P n):∀v g,giv v=some g→P g:=by
 intro v g e;cases B with
 | star=>cases e
 | sta=>
  unfold Ey at e;split at e
  ·cases e;exact h _ (by simp)
  ·cases e
 | st=>
  unfold tV at e;split at e
  ·cases e;exact h _ (by simp)
  ·split at e
   ·cases e;exact h _ (by simp)
   ·cases e
theorem Ku{k:Nat}{n:NT}{c:Int}(h:Ly bo t k n c):Lo c n:=by
 induction h with
 | zero=>have:=kL (giv:=C6) (c:=0) (src:="") (λw g e=>by cases e) t [] Ow.none 0 (λw id e=>by cases e);exact this.mono (by lia)
 | @succ k n c p w src path ks giv body _ _ g1 B ih=>have lm:=wZ ih g1;have:=kL (giv:=giv) (c:=c) (src:=w) (nQ B lm.inv.2) body [] Ow.none 0 (λw id e=>by cases e);exact CK (this.mono (by lia)) (ih.mono (by lia))
theorem AL{rd:List (List Rw)}(h:nV rd W):W.length=rd.length:=by
 induction h with
 | nil=>rfl
 | snoc _ _ ih=>simp[ih]
theorem tK{rd rd':List (List Rw)}{s:eK}{m:Mg}{n:NT}(h:oa true rd ws s m rd' ws')(r:Rp W ws f b s n)(hw:nV rd W)(h0:∀x∈ws0,x∈ws)(cx:Cx ws0 f):
  ∃W',nV rd' W'∧Le W W'∧(∀x∈ws,x∈ws')∧DA W' ws' f b m n:=by
 cases h with
 | handed p=>exact⟨W,hw,λ_ _ z=>z,λ_ z=>z,r⟩
 | @ready _ _ _ _ R p run=>
  obtain⟨t1,sub⟩:=IJ (ws0:=ws0) run h0 cx (TR.spot r);obtain⟨t,e,g,hs⟩:=yN t1;refine⟨_,.snoc hw e,λk q z=>?_,sub,t,_,?_,g,hs,(FX r).symm⟩
  ·rw[bB (aN.mp z).1];exact z
  ·rw[←AL hw];simp
theorem tm{giv:Gi}{c:Int}{e:S9.En}{OUT:Str→Prop}(hg:∀w g,giv w=some g→∃m,e.look w=some m∧DA W ws f b m g∧Lo c g)(ho:∀w,giv w=none→e.look w=none)(hO:∀w,OUT w→w∈ws0)(h0:∀x∈ws0,x∈ws)(cx:Cx ws0 f):GD W OUT giv c ws f b e Ow.none 0:=by
 refine⟨(λw id h=>by cases h),λw g _ h=>hg w g h,λw _ h2 h3=>⟨ho w h2,?_,h0 _ (hO w h3)⟩⟩;cases h:f w with
 | none=>rfl
 | some i=>exact absurd (hO w h3) (cx w i h)
structure xF(bo:Bo)(ws0:List Str):Prop where
 a:∀w,bo.x.out w→w∈ws0
 b:∀w,bo.y.out w→w∈ws0
 c:∀w,bo.z.out w→w∈ws0
theorem Ec{rd rd':List (List Rw)}{s s':eK}{m:NT}{c:Int}(O:xF bo ws0)(h:uI bo true rd ws s s' rd' ws')(r:Rp W ws f b s m)(hw:nV rd W)(h0:∀x∈ws0,x∈ws)(cx:Cx ws0 f)(lo:Lo c m):
  ∃W' w giv body ks src path,m=.mk "stamp" (.str w) src path ks∧xM bo w ks giv body∧nV rd' W'∧Le W W'∧(∀x∈ws,x∈ws')∧Rp W' ws' f b s' (nt c w giv body [] Ow.none 0):=by
 cases h with
 | star e=>
  ·have v:=r.at e;subst v;exact⟨W,"star",C6,bo.x,[],_,_,rfl,.star,hw,λ_ _ z=>z,λ_ z=>z,mM (path:=[]) bo.x (tm (OUT:=λw=>bo.x.out w) (λw g h=>by cases h) (λw _=>rfl) O.a h0 cx) λw z _ _=>z⟩
 | @sta p m1 _ _ e h1=>
  ·obtain⟨n1,rfl,r1⟩:=r.at e;obtain⟨W',hw',le,sub,mr⟩:=tK (ws0:=ws0) h1 r1 hw h0 cx;refine⟨W',"sta",Ey bo.e n1,bo.y,[n1],_,_,rfl,.sta,hw',le,sub,mM (path:=[]) bo.y (tm (OUT:=λw=>bo.y.out w) (λw g h=>?_) (λw h=>?_) O.b (λx hx=>sub x (h0 x hx)) cx) λw z _ _=>z⟩
   ·unfold Ey at h;split at h
    ·rename_i hv;subst hv;cases h;exact⟨m1,if_pos rfl,mr,lo.inv.2 _ (by simp)⟩
    ·cases h
   ·unfold Ey at h;split at h
    ·cases h
    ·rename_i hv;exact if_neg (λz=>hv z.symm)
 | @st p q m1 m2 rd1 rd2 ws1 ws2 e h1 h2=>
  ·obtain⟨n1,n2,rfl,r1,r2⟩:=r.at e;obtain⟨W1,hw1,le1,sub1,mr1⟩:=tK (ws0:=ws0) h1 r1 hw h0 cx;obtain⟨W2,hw2,le2,sub2,mr2⟩:=tK (ws0:=ws0) h2 (r2.mono le1 sub1) hw1 (λx hx=>sub1 x (h0 x hx)) cx;refine⟨W2,"st",tV bo.e n1 n2,bo.z,[n1,n2],_,_,rfl,.st,hw2,λk q z=>le2 _ _ (le1 _ _ z),λx hx=>sub2 x (sub1 x hx),mM (path:=[]) bo.z (tm (OUT:=λw=>bo.z.out w) (λw g h=>?_) (λw h=>?_) O.c (λx hx=>sub2 x (sub1 x (h0 x hx))) cx) λw z _ _=>z⟩
   ·unfold tV at h;split at h
    ·rename_i hv;subst hv;cases h;exact⟨m1,if_pos rfl,mr1.mono le2 sub2,lo.inv.2 _ (by simp)⟩
    ·split at h
     ·rename_i hv;subst hv;cases h;exact⟨m2,by unfold En.look;rw[if_neg (zT bo.e)];exact if_pos rfl,mr2,lo.inv.2 _ (by simp)⟩
     ·cases h
   ·unfold tV at h;split at h
    ·cases h
    ·split at h
     ·cases h
     ·rename_i hv hv2;unfold En.look;rw[if_neg (λz=>hv z.symm)];exact if_neg (λz=>hv2 z.symm)
def f0:Fo:=λ_=>none
def LD:Ba:=λ_=>none
structure LG(bo:Bo)(t:T)(ws0:List Str)(st:oy)(n:NT)(c:Int)(W:List (T×List kj)):Prop where
 ly:Ly bo t st.k n c
 wr:nV st.rd W
 tr:TR W ws0 st.ws f0 LD (rI st.R++sI st.S.reverse) n
 sub:∀x∈ws0,x∈st.ws
theorem Lg:Cx ws0 f0:=λx i h=>by cases h
theorem IF{F:Nat}{st st':oy}{n:NT}{c:Int}(h:Fx bo F st st')(S:LG bo t ws0 st n c W)(hk:st.k<st'.k):∃p,fst n=some p:=by
 cases h with
 | take a=>exact absurd hk (bU _)
 | @opn S0 s s' R k ws ws' rd rd' a=>
  have tr:=S.tr;rw[eM (Q:=[])]at tr;obtain⟨p,f',b',m,A⟩:=yc tr rfl (qm R) Lg;refine⟨p,A.st ?_⟩;have r:=A.rp;cases a with
  | star e=>have v:=r.at e;subst v;exact rfl
  | sta e=>obtain⟨_,rfl,_⟩:=r.at e;exact rfl
  | st e=>obtain⟨_,_,rfl,_⟩:=r.at e;exact rfl
theorem EA{F:Nat}{st st':oy}{n:NT}{c:Int}(O:xF bo ws0)(h:Fx bo F st st')(S:LG bo t ws0 st n c W)(hk:st'.k≤F):∃n' c' W',LG bo t ws0 st' n' c' W':=by
 cases h with
 | @take S0 Q s R rs k ws ws' rd a=>have tr:=S.tr;rw[eM (Q:=[])]at tr;obtain⟨p,f',b',m,A⟩:=yc tr rfl (qm R) Lg;obtain⟨t2,sub⟩:=FN a A.rp S.sub;have t3:=A.tr (λ_ _ z=>z) sub t2;rw[A.put]at t3;exact⟨n,c,W,S.ly,S.wr,by simpa using t3,λx hx=>sub x (S.sub x hx)⟩
 | @opn S0 s s' R k ws ws' rd rd' a=>have hk:k+1≤F:=hk;rw[show decide (k+1≤F)=true from decide_eq_true hk]at a;have tr:=S.tr;rw[eM (Q:=[])]at tr;obtain⟨p,f',b',m,A⟩:=yc tr rfl (qm R) Lg;have lo:=wZ (Ku S.ly) A.get;obtain⟨W',w,giv,body,ks,src,path,rfl,B,hw,le,sub,rp⟩:=Ec (c:=c) O a A.rp S.wr S.sub A.cx lo;have t3:=A.tr le sub (TR.spot rp);exact⟨_,_,W',S.ly.succ (A.st rfl) A.get B,hw,by simpa using t3,λx hx=>sub x (S.sub x hx)⟩
theorem zD(ht:∀w,t.out w→w∈ws0):LG bo t ws0 (st0 t ws0) (nt 0 "" C6 t [] Ow.none 0) (0+(t.size:Int)) []:=
 ⟨.zero,.nil,TR.spot (mM (path:=[]) t (tm (OUT:=λw=>t.out w) (λw g h=>by cases h) (λw _=>rfl) ht (λ_ z=>z) Lg) λw z _ _=>z),λ_ z=>z⟩
theorem sy{F:Nat}{st:oy}(O:xF bo ws0)(ht:∀w,t.out w→w∈ws0)(h:uM bo F (st0 t ws0) st):st.k≤F→∃n c W,LG bo t ws0 st n c W:=by
 induction h with
 | refl=>exact λ_=>⟨_,_,_,zD ht⟩
 | step _ hk a ih=>intro hk2;obtain⟨n,c,W,S⟩:=ih hk;exact EA O a S hk2
theorem Be{F:Nat}{st:oy}(O:xF bo ws0)(ht:∀w,t.out w→w∈ws0)(h:uM bo F (st0 t ws0) st)(hF:F<st.k):∃k n c p,Ly bo t k n c∧F≤k∧fst n=some p:=by
 cases h with
 | refl=>exact absurd hF (ca _)
 | @step st1 _ r hk a=>
  obtain⟨n,c,W,S⟩:=sy O ht r hk;have h2:st1.k<st.k:=by lia
  have h3:st.k≤st1.k+1:=by cases a<;>simp
  obtain⟨p,hp⟩:=IF a S h2;exact⟨st1.k,n,c,p,S.ly,by lia,hp⟩
end S8
namespace S8
open PySem L2 SW
def jH(z:Str):List Str→T→T
 | _,.num n=>.num n
 | o,.name w=>if w∈o then .name (w++z)else .name w
 | o,.sum a b=>.sum (jH z o a) (jH z o b)
 | o,.less a b=>.less (jH z o a) (jH z o b)
 | o,.cho a b c=>.cho (jH z o a) (jH z o b) (jH z o c)
 | o,.lt w a b=>.lt (w++z) (jH z o a) (jH z (o++[w]) b)
 | _,.st0 w=>.st0 w
 | o,.st1 w a=>.st1 w (jH z o a)
 | o,.st2 w a b=>.st2 w (jH z o a) (jH z o b)
theorem gG(z:Str):∀(o:List Str)(t:T),(jH z o t).size=t.size
 | _,.num n=>rfl
 | o,.name w=>by rw[jH];split<;>rfl
 | o,.sum a b=>by simp only[jH,T.size,gG z]
 | o,.less a b=>by simp only[jH,T.size,gG z]
 | o,.cho a b c=>by simp only[jH,T.size,gG z]
 | o,.lt w a b=>by simp only[jH,T.size,gG z]
 | _,.st0 w=>rfl
 | o,.st1 w a=>by simp only[jH,T.size,gG z]
 | o,.st2 w a b=>by simp only[jH,T.size,gG z]
def jZ(P:Str→Prop):T→Prop
 | .num _=>True
 | .name w=>P w
 | .sum a b=>jZ P a∧jZ P b
 | .less a b=>jZ P a∧jZ P b
 | .cho a b c=>jZ P a∧jZ P b∧jZ P c
 | .lt w a b=>P w∧jZ P a∧jZ P b
 | .st0 _=>True
 | .st1 _ a=>jZ P a
 | .st2 _ a b=>jZ P a∧jZ P b
end S8
namespace S8
open PySem L2 SW S9
variable {W:List (T×List kj)}{ws0 ws ws':List Str}{bo:Bo}{t:T}
inductive SB(a:Nat):NT→Prop where
 | mk{k:Str}{x:V}{src:Str}{path:List Int}{ks:List NT}:(k="stamp"→(∃w,x=.str w∧lB w=some ks.length)∧1+fN ks≤5*a∧(x=.str "st"→1+fN ks≤a))→(∀n∈ks,SB a n)→SB a (.mk k x src path ks)
theorem SB.inv(h:SB a (.mk k x src path ks)):(k="stamp"→(∃w,x=.str w∧lB w=some ks.length)∧1+fN ks≤5*a∧(x=.str "st"→1+fN ks≤a))∧∀n∈ks,SB a n:=by cases h with|mk p q=>exact⟨p,q⟩
theorem SB.leaf{a:Nat}{k:Str}{x:V}{src:Str}{path:List Int}(h:k≠"stamp"):SB a (.mk k x src path []):=.mk (λz=>absurd z h) (by simp)
theorem pP:∀{ks:List NT},n∈ks→gq n≤fN ks
 | x::ks,h=>by
  rw[fN];rcases aB.mp h with rfl|h
  ·lia
  ·have:=pP h;lia
theorem ur:∀{ks:List NT}{i:Nat}{n:NT},ks[i]?=some n→fN (ks.set i m)+gq n=fN ks+gq m
 | [],_,_,h=>by simp at h
 | x::ks,0,n,h=>by cases h;simp only[List.set_cons_zero,fN];lia
 | x::ks,i+1,n,h=>by have:=ur (m:=m) (ks:=ks) (i:=i) (n:=n) (by simpa using h);simp only[List.set_cons_succ,fN];lia
theorem yG:∀{p:List Nat}{n m:NT},ic n p=some m→gq (iq n p m')+gq m=gq n+gq m'
 | [],n,m,e=>by cases n;cases e;rw[iq];lia
 | i::p,.mk k x src path ks,m,e=>by
  rw[ic]at e;cases e2:ks[i]? with
  | none=>rw[e2]at e;cases e
  | some n=>rw[e2]at e;have h1:=yG (m':=m') e;have h2:=ur (m:=iq n p m') e2;simp only[iq,e2,gq];lia
theorem BO(hm:SB a m'):∀{p:List Nat}{n:NT},SB a n→fst n=some p→SB a (iq n p m')
 | [],n,_,_=>by cases n;exact hm
 | i::p,.mk k x src path ks,h,e=>by
  rcases qg e with⟨_,z⟩|⟨hk,j,q,m,e1,e2,e3⟩
  ·cases z
  ·cases e1;refine .mk (λz=>absurd z hk) λy hy=>?_;rw[e2]at hy;rcases cq hy with z|rfl
   ·exact h.inv.2 y z
   ·exact BO hm (h.inv.2 m (ac e2)) e3
theorem vt:∀{p:List Nat}{n m:NT},SB a n→ic n p=some m→SB a m
 | [],n,m,h,e=>by cases n;cases e;exact h
 | i::p,.mk k x src path ks,m,.mk h1 h2,e=>by
  rw[ic]at e;cases e2:ks[i]? with
  | none=>rw[e2]at e;cases e
  | some n=>rw[e2]at e;exact vt (h2 n (ac e2)) e
theorem yP:∀{p:List Nat}{n:NT},fst n=some p→∃m,ic n p=some m∧Kz m
 | [],.mk k x src path ks,e=>by
  rcases qg e with⟨h,_⟩|⟨_,j,q,m,e1,_⟩
  ·exact⟨_,rfl,h⟩
  ·cases e1
 | i::p,.mk k x src path ks,e=>by
  rcases qg e with⟨_,z⟩|⟨hk,j,q,m,e1,e2,e3⟩
  ·cases z
  ·cases e1;obtain⟨m2,h1,h2⟩:=yP e3;exact⟨m2,by rw[ic,e2];exact h1,h2⟩
theorem jf(hM:1≤M)(hg:∀w g,giv w=some g→gq g≤M):∀(t:T)(p:List Int)(o:Ow)(i:Nat),gq (nt c src giv t p o i)+t.names.length≤t.size+t.names.length*M
 | .num n,p,o,i=>by simp[nt,eX,gq,fN,T.names,T.size]
 | .name w,p,o,i=>by
  simp only[nt,eX,T.names,T.size,aw,bz];cases o w with
  | some x=>simp only[gq,fN];lia
  | none=>cases hw:giv w with
   | none=>simp only[gq,fN];lia
   | some g=>have:=hg w g hw;simp only;lia
 | .sum a b,p,o,i=>by have:=jf (c:=c) (src:=src) hM hg a (p++[0]) o (i+1);have:=jf (c:=c) (src:=src) hM hg b (p++[1]) o (i+1+a.size);simp only[nt,eX,gq,fN,T.names,T.size,aD,au];lia
 | .less a b,p,o,i=>by have:=jf (c:=c) (src:=src) hM hg a (p++[0]) o (i+1);have:=jf (c:=c) (src:=src) hM hg b (p++[1]) o (i+1+a.size);simp only[nt,eX,gq,fN,T.names,T.size,aD,au];lia
 | .cho a b d,p,o,i=>by have:=jf (c:=c) (src:=src) hM hg a (p++[0]) o (i+1);have:=jf (c:=c) (src:=src) hM hg b (p++[1]) o (i+1+a.size);have:=jf (c:=c) (src:=src) hM hg d (p++[2]) o (i+1+a.size+b.size);simp only[nt,eX,gq,fN,T.names,T.size,aD,au];lia
 | .lt w a b,p,o,i=>by have:=jf (c:=c) (src:=src) hM hg a (p++[0]) o (i+1);have:=jf (c:=c) (src:=src) hM hg b (p++[1]) (Ow.put o w (c+((i+1:Nat):Int))) (i+1+a.size);simp only[nt,eX,gq,fN,T.names,T.size,aD,au];lia
 | .st0 w,p,o,i=>by simp[nt,eX,gq,fN,T.names,T.size]
 | .st1 w a,p,o,i=>by have:=jf (c:=c) (src:=src) hM hg a (p++[0]) o (i+1);simp only[nt,eX,gq,fN,T.names,T.size];lia
 | .st2 w a b,p,o,i=>by have:=jf (c:=c) (src:=src) hM hg a (p++[0]) o (i+1);have:=jf (c:=c) (src:=src) hM hg b (p++[1]) o (i+1+a.size);simp only[nt,eX,gq,fN,T.names,T.size,aD,au];lia
def Ll(a z:Nat)(S:Str→Nat→Prop):Prop:=(∀w k,S w k→k=0∧w≠"st")∨(z≤5*a∧((∀w k,S w k→w≠"st")∨z≤a))
theorem Ll.le(h:Ll a z S)(hz:z'≤z):Ll a z' S:=by
 rcases h with h|⟨h,h2⟩
 ·exact .inl h
 ·exact .inr ⟨by lia,h2.imp id λq=>by lia⟩
theorem sn:("name":Str)≠"stamp":=by decide
theorem jg{giv:Gi}{c:Int}{src:Str}{a:Nat}{S:Str→Nat→Prop}(ha:1≤a)(hg:∀w g,giv w=some g→SB a g)(hS:∀w k,S w k→lB w=some k):∀(t:T)(p:List Int)(o:Ow)(i:Nat),WT S t→Ll a (gq (nt c src giv t p o i)) S→SB a (nt c src giv t p o i)
 | .num n,p,o,i,_,_=>.leaf (by decide)
 | .name w,p,o,i,_,_=>by
  simp only[nt,eX];cases o w with
  | some x=>exact .leaf sn
  | none=>cases hw:giv w with
   | none=>exact .leaf sn
   | some g=>exact hg w g hw
 | .sum x y,p,o,i,w,h=>by simp only[nt,eX,gq,fN]at h;have h1:=jg (c:=c) (src:=src) ha hg hS x (p++[0]) o (i+1) w.1 (h.le (by lia));have h2:=jg (c:=c) (src:=src) ha hg hS y (p++[1]) o (i+1+x.size) w.2 (h.le (by lia));exact .mk (λz=>absurd z (by decide)) (by simp[h1,h2])
 | .less x y,p,o,i,w,h=>by simp only[nt,eX,gq,fN]at h;have h1:=jg (c:=c) (src:=src) ha hg hS x (p++[0]) o (i+1) w.1 (h.le (by lia));have h2:=jg (c:=c) (src:=src) ha hg hS y (p++[1]) o (i+1+x.size) w.2 (h.le (by lia));exact .mk (λz=>absurd z (by decide)) (by simp[h1,h2])
 | .cho x y q,p,o,i,w,h=>by simp only[nt,eX,gq,fN]at h;have h1:=jg (c:=c) (src:=src) ha hg hS x (p++[0]) o (i+1) w.1 (h.le (by lia));have h2:=jg (c:=c) (src:=src) ha hg hS y (p++[1]) o (i+1+x.size) w.2.1 (h.le (by lia));have h3:=jg (c:=c) (src:=src) ha hg hS q (p++[2]) o (i+1+x.size+y.size) w.2.2 (h.le (by lia));exact .mk (λz=>absurd z (by decide)) (by simp[h1,h2,h3])
 | .lt v x y,p,o,i,w,h=>by
  simp only[nt,eX,gq,fN]at h;have h1:=jg (c:=c) (src:=src) ha hg hS x (p++[0]) o (i+1) w.2.1 (h.le (by lia));have h2:=jg (c:=c) (src:=src) ha hg hS y (p++[1]) (Ow.put o v (c+((i+1:Nat):Int))) (i+1+x.size) w.2.2 (h.le (by lia));exact .mk (λz=>absurd z (by decide)) (λn hn=>by
   simp only[aB,aF,or_false]at hn;rcases hn with rfl|rfl
   ·exact h1
   ·exact h2)
 | .st0 v,p,o,i,w,h=>by simp only[nt,eX,gq,fN]at h⊢;exact .mk (λ_=>⟨⟨v,rfl,hS _ _ w⟩,by simp only[fN];lia,λ_=>by simp only[fN];lia⟩) (by simp)
 | .st1 v x,p,o,i,w,h=>by
  simp only[nt,eX,gq,fN]at h;have h1:=jg (c:=c) (src:=src) ha hg hS x (p++[0]) o (i+1) w.2 (h.le (by lia));rcases h with h|⟨h,h3⟩
  ·exact absurd (h _ _ w.1).1 (by decide)
  ·refine .mk (λ_=>⟨⟨v,rfl,hS _ _ w.1⟩,by simp only[fN];lia,λe=>?_⟩) (by simp[h1]);rcases h3 with h3|h3
   ·cases e;exact absurd rfl (h3 _ _ w.1)
   ·simp only[fN];lia
 | .st2 v x y,p,o,i,w,h=>by
  simp only[nt,eX,gq,fN]at h;have h1:=jg (c:=c) (src:=src) ha hg hS x (p++[0]) o (i+1) w.2.1 (h.le (by lia));have h2:=jg (c:=c) (src:=src) ha hg hS y (p++[1]) o (i+1+x.size) w.2.2 (h.le (by lia));rcases h with h|⟨h,h3⟩
  ·exact absurd (h _ _ w.1).1 (by decide)
  ·refine .mk (λ_=>⟨⟨v,rfl,hS _ _ w.1⟩,by simp only[fN];lia,λe=>?_⟩) (by simp[h1,h2]);rcases h3 with h3|h3
   ·cases e;exact absurd rfl (h3 _ _ w.1)
   ·simp only[fN];lia
structure xK(bo:Bo):Prop where
 w1:WT (λ_ _=>False) bo.x
 w2:WT (λw k=>w="star"∧k=0) bo.y
 w3:WT (λw k=>(w="star"∧k=0)∨(w="sta"∧k=1)) bo.z
 z1:bo.x.size≤4
 z2:bo.y.size≤8∧bo.y.names.length≤4
 z3:bo.z.size≤10∧bo.z.names.length≤5
theorem E2:lB "star"=some 0:=if_pos rfl
theorem JK:lB "sta"=some 1:=by unfold lB;rw[if_neg (by decide),if_pos rfl]
theorem Cq(K:xK bo)(B:xM bo w ks giv body):gq (nt c w giv body [] Ow.none 0)≤5*(1+fN ks):=by
 cases B with
 | star=>have:=jf (giv:=C6) (c:=c) (src:="star") (aC 1) (λw g e=>by cases e) bo.x [] Ow.none 0;have:=K.z1;simp only[fN];lia
 | @sta g=>
  have hg:1≤gq g:=by cases g;rw[gq];lia
  have:=jf (giv:=Ey bo.e g) (c:=c) (src:="sta") (M:=gq g) hg (nQ (bo:=bo) .sta λn hn=>by rw[aG]at hn;rw[hn];exact aC _) bo.y [] Ow.none 0;obtain⟨z1,z2⟩:=K.z2;obtain⟨j,hj⟩:=Nat.le.dest hg;have h6:bo.y.names.length*gq g=bo.y.names.length+bo.y.names.length*j:=by rw[←hj,ci,Nat.mul_one]
  have h7:=Kr (M:=j) z2;simp only[fN];lia
 | @st g h=>
  have hg:1≤gq g:=by cases g;rw[gq];lia
  have hh:1≤gq h:=by cases h;rw[gq];lia
  obtain⟨j,hj⟩:=Nat.le.dest (show 2≤gq g+gq h by lia);have:=jf (giv:=tV bo.e g h) (c:=c) (src:="st") (M:=1+j) (by lia) (nQ (bo:=bo) .st λn hn=>by
   simp only[aB,aF,or_false]at hn;rcases hn with rfl|rfl<;>lia) bo.z [] Ow.none 0
  obtain⟨z1,z2⟩:=K.z3;rw[ci,Nat.mul_one]at this;have h7:=Kr (M:=j) z2;simp only[fN];lia
theorem JT(ha:1≤a)(K:xK bo)(B:xM bo w ks giv body)(h:SB a (.mk "stamp" (.str w) src path ks)):SB a (nt c w giv body [] Ow.none 0):=by
 have hz:=Cq (c:=c) K B;have hg:=nQ B h.inv.2;have hi:=h.inv.1 rfl;cases B with
 | star=>exact jg ha hg (λw k z=>z.elim) bo.x [] Ow.none 0 K.w1 (.inl λw k z=>z.elim)
 | sta=>exact jg ha hg (λw k z=>by obtain⟨rfl,rfl⟩:=z;exact E2) bo.y [] Ow.none 0 K.w2 (.inl λw k z=>⟨z.2,by rw[z.1];decide⟩)
 | st=>have:=hi.2.2 rfl;exact jg ha hg (λw k z=>by rcases z with⟨rfl,rfl⟩|⟨rfl,rfl⟩;exact E2;exact JK) bo.z [] Ow.none 0 K.w3 (.inr ⟨by lia,.inl λw k z=>by rcases z with⟨rfl,_⟩|⟨rfl,_⟩<;>decide⟩)
theorem ux(K:xK bo)(w:WT SF t)(h:Ly bo t k n c):SB t.size n∧gq n≤t.size+k*(20*t.size):=by
 have ha:=t.size_pos;induction h with
 | zero=>
  have:=jf (giv:=C6) (c:=0) (src:="") (aC 1) (λw g e=>by cases e) t [] Ow.none 0;have hz:gq (nt 0 "" C6 t [] Ow.none 0)≤t.size:=by lia
  exact⟨jg ha (λw g e=>by cases e) (λw k z=>z) t [] Ow.none 0 w (.inr ⟨by lia,.inr hz⟩),by lia⟩
 | @succ k n c p w src path ks giv body _ f1 g1 B ih=>have sm:=vt ih.1 g1;have h1:=Cq (c:=c) K B;have h2:=yG (m':=nt c w giv body [] Ow.none 0) g1;have h3:=(sm.inv.1 rfl).2.1;have h4:=ih.2;refine⟨BO (JT ha K B sm) ih.1 f1,?_⟩;rw[au,bz];simp only[gq]at h2;lia
theorem Kv(K:xK bo)(w:WT SF t)(h:Ly bo t k n c)(e:fst n=some p):∃w src path ks giv body,ic n p=some (.mk "stamp" (.str w) src path ks)∧xM bo w ks giv body:=by
 obtain⟨m,h1,h2⟩:=yP e;have sm:=vt (ux K w h).1 h1;obtain⟨k',x,src,path,ks⟩:=m;have h2:k'="stamp":=h2;subst h2;obtain⟨⟨v,rfl,hf⟩,_⟩:=sm.inv.1 rfl;unfold lB at hf;split at hf
 ·rename_i hv;subst hv;cases ks with
  | nil=>exact⟨_,_,_,_,_,_,h1,.star⟩
  | cons=>simp at hf
 ·split at hf
  ·rename_i hv;subst hv
   match ks,hf with
   | [g],_=>exact⟨_,_,_,_,_,_,h1,.sta⟩
  ·split at hf
   ·rename_i hv;subst hv
    match ks,hf with
    | [g,h],_=>exact⟨_,_,_,_,_,_,h1,.st⟩
   ·cases hf
theorem By(h:uI bo true rd ws s s' rd' ws')(o:s.ok (Rf rd)):
  ∃x,rd'=rd++x∧lK x≤s.wt 0∧mW x≤lK x∧ws'.length≤ws.length+mW x:=by
 cases h with
 | star e=>exact⟨[],(aZ _).symm,aU _,aC _,aC _⟩
 | @sta a m _ _ e h1=>
  have ok1:(s.kid 0 a).ok (Rf rd):=kP o (by rw[e];simp[T.kids]);obtain⟨x,rfl,h2,h3,h4⟩:=tL h1 ok1;have ew:s.wt 0=1+(s.kid 0 a).wt 0:=by unfold eK.wt;rw[e];rfl
  exact⟨x,rfl,by lia,h3,h4⟩
 | @st a b m n rd1 rd2 ws1 ws2 e h1 h2=>
  have ok1:(s.kid 0 a).ok (Rf rd):=kP o (by rw[e];simp[T.kids]);have ok2:(s.kid 1 b).ok (Rf rd):=kP o (by rw[e];simp[T.kids]);obtain⟨x,rfl,x2,x3,x4⟩:=tL h1 ok1;have ok3:(s.kid 1 b).ok (Rf (rd++x)):=eK.ok_mono (Rf.mono x) ok2;obtain⟨y,rfl,y2,y3,y4⟩:=tL h2 ok3;have ew:s.wt 0=1+(s.kid 0 a).wt 0+(s.kid 1 b).wt 0:=by unfold eK.wt;rw[e];rfl
  refine⟨x++y,aV _ _ _,?_,?_,?_⟩
  ·rw[kH];lia
  ·rw[kH,kI];lia
  ·rw[kI];lia
structure NZ(B w0:Nat)(st:oy):Prop where
 wt:lv 0 st.S+lJ st.R≤B
 rd:lK st.rd≤st.k*B
 sl:mW st.rd≤lK st.rd
 ws:st.ws.length≤w0+st.R.length+mW st.rd
theorem Bf{F B n1:Nat}{st0 st:oy}(BK:uK bo)(hB:∀st,uM bo F st0 st→st.k≤F→lv 0 st.S+lJ st.R≤B)(h:uM bo F st0 st)(I:eZ F n1 st0)(z1:st0.rd=[])(z2:st0.R=[]):st.k≤F→NZ B st0.ws.length st:=by
 induction h with
 | refl=>intro hk;exact⟨hB _ .refl hk,by rw[z1];exact aU _,by rw[z1];exact aC _,by lia⟩
 | @step st1 st2 r hk1 a ih=>
  intro hk;have hB2:=hB _ (.step r hk1 a) hk;have I1:=pO BK r I;have J:=ih hk1;cases a with
  | @take S Q s R rs k ws ws' rd a=>have h2:=AW a;obtain⟨j1,j2,j3,j4⟩:=J;exact⟨hB2,j2,j3,by simp only[aD]at j4⊢;lia⟩
  | @opn S s s' R k ws ws' rd rd' a=>
   have hk:k+1≤F:=hk;rw[show decide (k+1≤F)=true from decide_eq_true hk]at a;have os:=I1.so s (aS _ (.head _));obtain⟨x,rfl,h2,h3,h4⟩:=By a os;obtain⟨j1,j2,j3,j4⟩:=J;simp only[gK,hV]at j1 j2 j3 j4;refine⟨hB2,?_,?_,?_⟩
   ·show lK (rd++x)≤(k+1)*B;rw[kH,au,bz];lia
   ·show mW (rd++x)≤lK (rd++x);rw[kH,kI];lia
   ·show ws'.length≤_+R.length+mW (rd++x);rw[kI];lia
theorem BL{F k:Nat}{st:oy}(K:xK bo)(BK:uK bo)(w:WT SF t)(bt:BT t [] 0)(O:xF bo ws0)(ht:∀w,t.out w→w∈ws0)(hz:t.size≤40)(hw:ws0.length≤252)(hK:∀j n c,Ly bo t j n c→j≤F→j≤10)(h:uM bo F (st0 t ws0) st)(hk:st.k≤F):Cz st:=by
 have bound:∀st,uM bo F (st0 t ws0) st→st.k≤F→st.k≤10∧lv 0 st.S+lJ st.R≤10000:=λst h hk=>by obtain⟨n,c,W,S⟩:=sy O ht h hk;have h1:=hK _ _ _ S.ly hk;have h2:=(ux K w S.ly).2;have h3:=Jm S.tr;rw[kn,Jk,Jj,sD]at h3;have h4:st.k*(20*t.size)≤10*(20*t.size):=bX _ h1;lia
 have I:=ki (F:=F) (ws:=ws0) bt;have J:=Bf BK (λst h hk=>(bound st h hk).2) h I rfl rfl hk;obtain⟨h1,h2⟩:=bound st h hk;have h3:=km (pO BK h I).ro;obtain⟨j1,j2,j3,j4⟩:=J;have j4:st.ws.length≤ws0.length+st.R.length+mW st.rd:=j4;have h4:st.k*10000≤10*10000:=bX _ h1;refine⟨by lia,by lia,by lia,λR hR=>?_⟩;have:=uc hR;lia
end S8
namespace L2
open PySem PySem.Spec PyProof.Rows
section
variable {prog:Program}{w:World}{A:Around}{s:Shared}{R:Result→Shared→Prop}
theorem tq(J:Nat→Shared→Prop)
  (turn:∀n s,J n s→wpAny (model prog w) A (pyNext it) (λr s1=>match r with
   | none=>R (.ok .next) s1
   | some v=>wpAny (model prog w) A (letOwnedTupleGo tg it v) (λ_ s2=>wpAny (model prog w) A (assign tg env v) (λ_ s3=>wpAny (model prog w) A (forIn ifs true λc r=>if r=true then do let ok ← isTrue c env (eval c env);pure (ForInStep.yield ok)else pure (ForInStep.yield r)) (λok s6=>if ok=true then wpAny (model prog w) A (eval elt env) (λx s4=>
     wpAny (model prog w) A (call (.builtin "list.append") [acc,x]) (λ_ s5=>∃m,m<n∧J m s5) (notedBy (model prog w) A env λe s'=>R (.error e) s') s4) (notedBy (model prog w) A env λe s'=>R (.error e) s') s6 else ∃m,m<n∧J m s6) (notedBy (model prog w) A env λe s'=>R (.error e) s') s3) (notedBy (model prog w) A env λe s'=>R (.error e) s') s2) (notedBy (model prog w) A env λe s'=>R (.error e) s') s1) (notedBy (model prog w) A env λe s'=>R (.error e) s') s)
  (n:Nat) (h:J n s):codeAny (model prog w) A (.compLoop (.ListComp elt [⟨tg,iter,ifs,0⟩] scope pos) 0 it acc env) R s:=by
 refine codeAny_loop rfl J (λn s hJ=>?_) n h;show wpAny _ A ((compTurn (.ListComp elt [⟨tg,iter,ifs,0⟩] scope pos) 0 it acc env).onRaise (λx=>do noteFrame x env;theTreesLotGoes x)) _ _ s;refine wpAny_noted ?_;rw[compTurn_list];refine wpAny_bind (wpAny_standAt (wpAny_bind (wpAny_mono (turn n s hJ) (λr s1 h1=>?_) λ_ _ z=>z)));cases r with
 | none=>exact wpAny_pure h1
 | some v=>
  refine wpAny_bind (wpAny_mono h1 (λ_ s2 h2=>wpAny_bind (wpAny_mono h2 (λ_ s3 h3=>wpAny_bind (wpAny_mono h3 (λok s6 h6=>?_) λ_ _ z=>z)) λ_ _ z=>z)) λ_ _ z=>z);cases ok with
  | false=>exact wpAny_pure ⟨rfl,h6⟩
  | true=>exact wpAny_bind (wpAny_bind (wpAny_mono h6 (λx s4 h4=>wpAny_bind (wpAny_mono h4 (λ_ s5 h5=>wpAny_pure (wpAny_pure ⟨rfl,h5⟩)) λ_ _ z=>z)) λ_ _ z=>z))
end
def LJ(X:Cx)(ifs:List Expr)(t:TT):Prop:=
 ∀(pins:List (Addr×Obj))(s:Shared)(σ:St)(H:Hp)(Q:Bool→Hp→Prop),eZ X pins σ H s→t σ H Q→wpAny (model X.prog X.w) X.A (forIn ifs true λc r=>if r=true then do let ok ← isTrue c X.env (eval c X.env);pure (ForInStep.yield ok)else pure (ForInStep.yield r)) (TP X pins σ Q) X.xe s
def D7:TT:=λ_ H Q=>Q true H
theorem tD:LJ X [] D7:=λpins s σ H Q I h=>wpAny_tests_nil ⟨H,I,h⟩
theorem ES(h:PT X c t):LJ X [c] t:=λpins s σ H Q I z=>wpAny_tests_one (h pins s σ H Q I z)
def D8(k:Nat)(wi:TI)(g:TG)(tt:TT)(te:TE)(js:List Nat):TE:=λσ H Q=>wi σ H λJ H1=>∃W:Nat→Nat→List V→Hp→Prop,(∃m,W 0 m [] H1)∧∀i m vs H,W i m vs H→
 (J.stop i H∧vs.length≤sizeLine∧k6 H (.lst vs) Q)∨
 (J.go i H∧∀x H',J.yld i H x H'→∀os:St,os.length=k→g x (os++CY σ js) H' λσ2 H2=>(∃os:St,os.length=k∧σ2=os++CY σ js)∧tt σ2 H2 λc H3=>if c=true then te σ2 H3 λy H''=>vs.length<sizeLine∧∃m',m'<m∧W (i+1) m' (vs++[y]) H'' else ∃m',m'<m∧W (i+1) m' vs H3)
theorem yL{use:Option (Value→Sem Unit)}{Q':Value→Shared→Prop}{cpos:Pos}{pins:List (Addr×Obj)}{s:Shared}{σ:St}{H:Hp}{Q:VK}(hc:X.calm=true)(S:iY X scope cl (x::xr) ys js)(hi:PI X tg iter wi)
  (hg:∀(fp:List Addr)(s:Shared)(H:Hp)(C:Addr),PG (gZ X scope cl (x::(xr++ys)) fp s H C) tg g)
  (ht:∀(fp:List Addr)(s:Shared)(H:Hp)(C:Addr),LJ (gZ X scope cl (x::(xr++ys)) fp s H C) ifs tt)
  (he:∀(fp:List Addr)(s:Shared)(H:Hp)(C:Addr),PE (gZ X scope cl (x::(xr++ys)) fp s H C) elt te) (hs:∀x,foldedSetIterable iter X.env x=pure x) (I:eZ X pins σ H s) (h:D8 (x::xr).length wi g tt te js σ H Q)
  (gr:∀(D C:Addr)(s2 s4:Shared)(H2 Hn:Hp),eZ X pins σ H2 s2→s2.heap.objs.size≤C→(∃m,s4.heap.Ns C m)→Hn C=none→(∀h'',Heap.SameBut C s4.heap h''→eZ X pins σ Hn {s4 with heap:=h''})→Q (.ref D) Hn→compPost (model X.prog X.w) X.A X.xe use Q' (.ref D) C (.ok .next) s4):
  wpAny (model X.prog X.w) X.A (comprehension (.ListComp elt [⟨tg,iter,ifs,0⟩] scope pos) scope X.env cpos (newList []) false (eval iter X.env) use) Q' X.xe s:=by
 refine wpAny_comprehension_free (use:=use) rfl hs S.clos S.kind S.names (thn (hi pins s σ H _ I h) λv s1 h1=>thn h1 λitv s2 h2=>?_);obtain⟨it,fp,tn,J,H2,e,I2,T,st2,f2,W,⟨m0,w0⟩,turn⟩:=h2;subst e;have fpb:∀b∈fp,b<s2.heap.objs.size:=λb hb=>by obtain⟨o,e,_⟩:=T.obj _ _ st2 b hb;exact Heap.lt_size e
 refine wpAny_newObj_type (wpAny_newFunctionEnv S.ncell (by intro y hy;simp at hy) (λh₁ hns₁ hsb₁=>?_) S.kind);dsimp only at hns₁ hsb₁⊢;generalize hH2:s2.heap.push {cls:=.type "list",dict:=none,data:=.seq ([]:List Value).toArray}=G2 at hns₁ hsb₁⊢;have hC:G2.objs.size=s2.heap.objs.size+1:=by rw[←hH2,Heap.size_push]
 have hDC:s2.heap.objs.size≠G2.objs.size:=by rw[hC];exact aM (cC _)
 have hCle:s2.heap.objs.size≤G2.objs.size:=by rw[hC];exact bQ _
 have below:∀b,b<s2.heap.objs.size→b≠G2.objs.size∧b≠s2.heap.objs.size:=λb hb=>⟨by rw[hC];exact aM (cf hb),aM hb⟩;have old:∀b o,s2.heap.get? b=some o→h₁.get? b=some o:=λb o e=>hsb₁.extBut b o (below b (Heap.lt_size e)).1 (Heap.get?_push_of_some _ (hH2▸Heap.get?_push_of_some _ e));have hacc:h₁.get? s2.heap.objs.size=some (nI [] 0):=hsb₁.extBut _ _ hDC (Heap.get?_push_of_some _ (hH2▸Heap.get?_push_size _ rfl));have st4:tn 0 h₁:=T.keep _ _ _ st2 λb _ o e=>old b o e;have I4:=λ(t':Nat)=>I2.compInT (t':=t') S f2 fpb hCle (aC _) hDC old hns₁ hacc;have loop:∀t':Nat,codeAny (model X.prog X.w) X.A (.compLoop (.ListComp elt [⟨tg,iter,ifs,0⟩] scope pos) 0 (.ref it) (.ref s2.heap.objs.size) (compEnvC scope cl G2.objs.size X.env))
   (compPost (model X.prog X.w) X.A X.xe use Q' (.ref s2.heap.objs.size) G2.objs.size) {s2 with heap:=h₁,toks:=t'}:=by
  intro t';refine tq (λn s'=>∃(i:Nat)(os:St)(H':Hp)(vs:List V)(its:List Value)(c:Nat),os.length=(x::xr).length∧eZ (gZ X scope cl (x::(xr++ys)) fp s2 H2 G2.objs.size) ((X.pn++pins)++[(s2.heap.objs.size,nI its c)]) (os++CY σ js) H' s'∧tn i s'.heap∧(∀b∈fp,H' b=none)∧fL vs its∧W i n vs H') ?_ m0
   ⟨0,List.replicate (x::xr).length none,H2,[],[],0,cR,I4 t',st4,λb hb=>(f2 b hb).1,.nil,w0⟩
  rintro n s3 ⟨i,os,H3,vs,its,c,hos,I3,st3,fr3,rv,w3⟩;have stat:∀{H':Hp}{its':List Value}{c':Nat},(∀b∈fp,H' b=none)→∀b∈fp,pH (gZ X scope cl (x::(xr++ys)) fp s2 H2 G2.objs.size) ((X.pn++pins)++[(s2.heap.objs.size,nI its' c')]) H' b:=λhn b hb=>by
   obtain⟨_,h1,h2,h3,h4,h5⟩:=f2 b hb;refine⟨hn b hb,(below b (fpb b hb)).1,I2.nostk h1 h2,.inl hb,λy c e=>h4 y c (S.cells y c e),λp hp=>?_⟩;rcases aW.mp (show p∈(X.pn++pins)++[(s2.heap.objs.size,_)]from hp)with z|z
   ·exact h5 p z
   ·rw[aG]at z;subst z;exact af (below b (fpb b hb)).2
  rcases turn i n vs H3 w3 with⟨stop,hz,q⟩|⟨go,step⟩
  ·refine thn (T.done (gZ X scope cl (x::(xr++ys)) fp s2 H2 G2.objs.size) rfl rfl rfl hc i _ s3 _ H3 _ I3 (stat fr3) st3 stop) λr s4 ⟨hr,I5⟩=>?_;subst hr;obtain⟨mm,hn,_⟩:=I5.loc;have pD:=(I5.pin _ (aS _ (aS _ (aG.mpr rfl)))).2.1;exact gr _ _ s2 s4 H2 _ I2 hCle ⟨mm,hn⟩ (by rw[dj (af hDC)];exact I5.free) (λh'' hs''=>I2.compOut f2 hCle (aC _) hDC I5 (aS _ (aG.mpr rfl)) rv hz hs'') (q _ pD)
  ·refine thn (T.item (gZ X scope cl (x::(xr++ys)) fp s2 H2 G2.objs.size) rfl rfl rfl hc i _ s3 _ H3 _ I3 (stat fr3) st3 go) λr s4 ⟨u,hr,h4⟩=>?_;subst hr;refine thn h4 λ_ s5 ⟨xv,H5,I5,r5,y5,st5,fr5⟩=>?_;have I5':=I5.pinned (stat fr5) (T.obj _ _ st5);refine wpAny_mono (hg fp s2 H2 G2.objs.size _ s5 _ H5 xv u _ I5' r5 (step xv H5 y5 os hos)) (λ_ s6 ⟨σ6,H6,I6,⟨ps,hps,e6⟩,h6⟩=>?_) (λ_ _ z=>False.elim z);subst e6;refine wpAny_mono (ht fp s2 H2 G2.objs.size _ s6 _ _ _ I6 h6) (λok s6 ⟨H6,I6,h6⟩=>?_) (λ_ _ z=>False.elim z);cases ok with
   | false=>
    obtain⟨m',hm,w7⟩:=h6;have I7a:eZ (gZ X scope cl (x::(xr++ys)) fp s2 H2 G2.objs.size) ((X.pn++pins)++[(s2.heap.objs.size,nI its c)]) (ps++CY σ js) H6 s6:=I6.pins_of λp hp=>I6.pin p (aS _ (ag _ hp));have pfp:∀b∈fp,∀o,s5.heap.get? b=some o→s6.heap.get? b=some o∧H6 b=none:=λb hb o e=>by have z:=I6.pin (b,o) (aS _ (aS _ (k9 hb e)));exact⟨z.1,z.2.1⟩
    refine⟨m',hm,i+1,ps,H6,vs,its,c,hps,I7a,T.keep _ _ _ st5 λb hb o e=>(pfp b hb o e).1,λb hb=>?_,rv,w7⟩;obtain⟨o,e,_⟩:=T.obj _ _ st5 b hb;exact(pfp b hb o e).2
   | true=>
   have h6:=h6;refine wpAny_mono (he fp s2 H2 G2.objs.size _ s6 _ _ _ I6 h6) (λy s7 ⟨yv,H7,I7,r7,hz,m',hm,w7⟩=>?_) (λ_ _ z=>False.elim z);have mD:(s2.heap.objs.size,nI its c)∈(X.pn++pins)++[(s2.heap.objs.size,nI its c)]:=aS _ (aG.mpr rfl);have pD:=I7.pin (s2.heap.objs.size,nI its c) (aS _ (ag _ mD));have pfp:∀b∈fp,∀o,s5.heap.get? b=some o→s7.heap.get? b=some o∧H7 b=none:=λb hb o e=>by have z:=I7.pin (b,o) (aS _ (aS _ (k9 hb e)));exact⟨z.1,z.2.1⟩
   refine append_at pD.1 (λh8 hs8 hD8=>?_) (by rw[aL,←rv.length];exact bO hz);have I7a:eZ (gZ X scope cl (x::(xr++ys)) fp s2 H2 G2.objs.size) (X.pn++pins) (ps++CY σ js) H7 s7:=I7.pins_of λp hp=>I7.pin p (aS _ (ag _ (ag _ hp)));have I8:=I7a.turned (t':=s7.toks) (it:=s2.heap.objs.size) (λb o hb e=>(hs8.2 b hb).trans e) pD.2.1 pD.2.2.1 (.inr (aC _)) (λz cc e=>by
     obtain⟨v,o,e1,e2⟩:=I2.cell z cc (S.cells z cc e);exact aM (Heap.lt_size e1)) (λp hp=>by
     obtain⟨e1,_⟩:=I2.pin p hp;exact aM (Heap.lt_size e1))
   refine⟨m',hm,i+1,ps,H7,vs++[yv],its++[y],c+1,hps,I8.pins_of λp hp=>?_,?_,λb hb=>?_,fL.append rv (.cons r7 .nil),w7⟩
   ·rcases aW.mp hp with z|z
    ·exact I8.pin p (aS _ z)
    ·rw[aG]at z;subst z;refine⟨?_,pD.2.1,pD.2.2.1,pD.2.2.2.1,λv z=>by cases(show Data.seq _ _=Data.cell v from z)⟩;rw[show nI (its++[y]) (c+1)={cls:=.type "list",data:=.seq (its.toArray.push y) (c+1)} by unfold nI;rw[List.push_toArray]];exact hD8
   ·exact T.keep _ _ _ st5 λb hb o e=>(hs8.2 b (aM (fpb b hb))).trans (pfp b hb o e).1
   ·obtain⟨o,e,_⟩:=T.obj _ _ st5 b hb;exact(pfp b hb o e).2
 exact codeAny_compStart_list (loop _) (T.self _ 0 _ _ _ st4 (loop _))
theorem wQ(hc:X.calm=true)(S:iY X scope cl (x::xr) ys js)(hi:PI X tg iter wi)
  (hg:∀(fp:List Addr)(s:Shared)(H:Hp)(C:Addr),PG (gZ X scope cl (x::(xr++ys)) fp s H C) tg g)
  (ht:∀(fp:List Addr)(s:Shared)(H:Hp)(C:Addr),LJ (gZ X scope cl (x::(xr++ys)) fp s H C) ifs tt)
  (he:∀(fp:List Addr)(s:Shared)(H:Hp)(C:Addr),PE (gZ X scope cl (x::(xr++ys)) fp s H C) elt te) (hs:∀x,foldedSetIterable iter X.env x=pure x:=by intro _;rfl):
  PE X (.ListComp elt [⟨tg,iter,ifs,0⟩] scope pos) (D8 (x::xr).length wi g tt te js):=by
 intro pins s σ H Q I h;rw[eval_ListComp];exact yL hc S hi hg ht he hs I h λD C s2 s4 H2 Hn I2 hC hn hCn hI q=>hn.elim λm hn=>⟨m,hn,λh'' hs''=>⟨.ref D,_,hI h'' hs'',rfl,q⟩⟩
def Oc(wi:TI):TI:=λσ H R=>∃R0,wi σ H R0∧∀J H',R0 J H'→R J H'
theorem Br(h:PI X tg iter wi):PI X tg iter (Oc wi):=λpins s σ H R I ⟨R0,h1,h2⟩=>
 thn (h pins s σ H R0 I h1) λv s1 h3=>thn h3 λitv s2 ⟨it,fp,tn,J,H',e,I',T,st,f,r⟩=>⟨it,fp,tn,J,H',e,I',T,st,f,h2 _ _ r⟩
theorem Bv(hc:X.calm=true)(S:iY X scope cl [x] ys js)(hi:PI X (.Name x px) iter wi)
  (he:∀(fp:List Addr)(s:Shared)(H:Hp)(C:Addr),PE (gZ X scope cl (x::ys) fp s H C) elt te) (nd:(x::ys).Nodup:=by decide) (loc:scope.names.lookup x=some .local:=by rfl) (hs:∀x,foldedSetIterable iter X.env x=pure x:=by intro _;rfl):
  PE X (.ListComp elt [⟨.Name x px,iter,[],0⟩] scope pos) (J0 wi te js):=by
 intro pins s σ H Q I h;refine wQ (xr:=[]) hc S (Br hi) (λfp s H C=>mC (i:=0) nd rfl (bF (lookup_relabel_local loc)) (.inr (lookup_relabel_local loc))) (λfp s H C=>tD) he hs pins s σ H Q I ⟨_,h,λJ H1 z=>?_⟩;obtain⟨W,w0,turn⟩:=z;refine⟨W,w0,λi m vs H w=>(turn i m vs H w).imp id λz=>⟨z.1,λx H' y os hos=>?_⟩⟩
 match os,hos with
 | [o],_=>have q:=z.2 x H' y;refine⟨⟨[some x],rfl,rfl⟩,?_⟩;unfold D7;dsimp only;rw[if_pos rfl];exact q
theorem IY(hc:X.calm=true)(S:iY X scope cl [x,x2] ys js)(hi:PI X tg iter wi)
  (hg:∀(fp:List Addr)(s:Shared)(H:Hp)(C:Addr),PG (gZ X scope cl (x::x2::ys) fp s H C) tg g) (hgm:∀v σ H (Q Q':St→Hp→Prop),g v σ H Q→(∀σ' H',Q σ' H'→Q' σ' H')→g v σ H Q')
  (he:∀(fp:List Addr)(s:Shared)(H:Hp)(C:Addr),PE (gZ X scope cl (x::x2::ys) fp s H C) elt te) (hs:∀x,foldedSetIterable iter X.env x=pure x:=by intro _;rfl):
  PE X (.ListComp elt [⟨tg,iter,[],0⟩] scope pos) (Jz wi g te js):=by
 intro pins s σ H Q I h;refine wQ (xr:=[x2]) hc S (Br hi) hg (λfp s H C=>tD) he hs pins s σ H Q I ⟨_,h,λJ H1 z=>?_⟩;obtain⟨W,w0,turn⟩:=z;refine⟨W,w0,λi m vs H w=>(turn i m vs H w).imp id λz=>⟨z.1,λx H' y os hos=>?_⟩⟩
 match os,hos with
 | [o1,o2],_=>refine hgm _ _ _ _ _ (z.2 x H' y o1 o2) λσ' H2 q=>?_;obtain⟨⟨p1,p2,e⟩,q⟩:=q;refine⟨⟨[p1,p2],rfl,e⟩,?_⟩;unfold D7;dsimp only;rw[if_pos rfl];exact q
theorem qd{L:List (Str×NameKind)}{cl:List (Str×Addr)}{y:Str}(hL:∀p∈L,p.2=.cell∨p.2=.free→∃c,cl.lookup p.1=some c)(h:L.lookup y=some .cell∨L.lookup y=some .free):∃c,cl.lookup y=some c:=by
 have key:∀{k:NameKind}{L:List (Str×NameKind)},L.lookup y=some k→(y,k)∈L:=by
  intro k L;induction L with
  | nil=>intro h;cases h
  | cons p L ih=>
   intro h;rw[List.lookup_cons]at h;cases e:y==p.1 with
   | true=>rw[e]at h;cases h;have:=eq_of_beq e;subst this;exact .head _
   | false=>rw[e]at h;exact .tail _ (ih h)
 rcases h with h|h
 ·exact hL _ (key h) (.inl rfl)
 ·exact hL _ (key h) (.inr rfl)
end L2
namespace SW
open PySem L2
abbrev DK:=List (fO×V)
def u6:V→fO
 | .int i=>.inl i
 | .str s=>.inr s
 | _=>.inl 0
def tU(t:T)(x:V)(fo ba:DK):Prop:=match t with
 | .num m=>V.int m=x
 | .name w=>(fW fo (.inr w:fO)).getD (.str w)=x∧(fW ba (u6 x)).getD (.str w)=.str w
 | _=>True
def pB(t:T)(x:V)(fo:DK)(j:Nat):DK:=match t,j with
 | .lt w _ _,1=>gH fo (.inr w:fO) x
 | _,_=>fo
def pC(t:T)(x:V)(ba:DK)(j:Nat):DK:=match t,j with
 | .lt w _ _,1=>gH ba (u6 x) (.str w)
 | _,_=>ba
inductive lG:T→NT→DK→DK→Prop where
 | mk{t:T}{k:Str}{x:V}{src:Str}{path:List Int}{ks:List NT}{fo ba:DK}:kind t=k→tU t x fo ba→t.kids.length=ks.length→(∀(j:Nat) a n,t.kids[j]?=some a→ks[j]?=some n→lG a n (pB t x fo j) (pC t x ba j))→lG t (.mk k x src path ks) fo ba
theorem lG.inv:lG t (.mk k x src path ks) fo ba↔kind t=k∧tU t x fo ba∧t.kids.length=ks.length∧∀(j:Nat) a n,t.kids[j]?=some a→ks[j]?=some n→lG a n (pB t x fo j) (pC t x ba j):=by
 constructor
 ·intro h;cases h with
  | mk a b c d=>exact⟨a,b,c,d⟩
 ·rintro⟨a,b,c,d⟩;exact .mk a b c d
inductive va:NT→Prop where
 | mk{k:Str}{x:V}{src:Str}{path:List Int}{ks:List NT}:(x=.non∨(∃i,x=.int i)∨∃s,x=.str s)→(k="name"→x≠.non)→(k="let"→∃i,x=.int i)→(∀n∈ks,va n)→va (.mk k x src path ks)
def AF(fo:DK):Prop:=∀(q:fO) v,fW fo q=some v→∃i,v=.int i
def AG(ba:DK):Prop:=∀(q:fO) v,fW ba q=some v→∃s,v=.str s
theorem AF.put(h:AF fo)(q:fO)(i:Int):AF (gH fo q (.int i)):=λq' v e=>by
 rw[jo]at e;by_cases z:q'=q
 ·rw[if_pos z]at e;cases e;exact⟨i,rfl⟩
 ·rw[if_neg z]at e;exact h q' v e
theorem AG.put(h:AG ba)(q:fO)(s:Str):AG (gH ba q (.str s)):=λq' v e=>by
 rw[jo]at e;by_cases z:q'=q
 ·rw[if_pos z]at e;cases e;exact⟨s,rfl⟩
 ·rw[if_neg z]at e;exact h q' v e
abbrev G4:=T×NT×DK×DK
def G4.ok(g:G4):Prop:=lG g.1 g.2.1 g.2.2.1 g.2.2.2
def LS(H₀ H:Hp)(g:G4)(w:V):Prop:=∃(q fd bd:Addr)(v u:V),w=.ref q∧H q=some (.tup [v,u,.ref fd,.ref bd])∧gN H g.1 v∧lF H₀ g.2.1 u∧H fd=some (.dK g.2.2.1)∧H bd=some (.dK g.2.2.2)∧va g.2.1∧AF g.2.2.1∧AG g.2.2.2∧g.2.2.1.length+g.1.size≤110000∧g.2.2.2.length+g.1.size≤110000
inductive GL(H₀ H:Hp):List G4→List V→Prop where
 | nil:GL H₀ H [] []
 | snoc{g:G4}{u:V}{gs:List G4}{us:List V}:GL H₀ H gs us→LS H₀ H g u→GL H₀ H (g::gs) (us++[u])
theorem LS.mono(m:fR H H')(k:vW H H')(h:LS H₀ H g u):LS H₀ H' g u:=by obtain⟨q,fd,bd,v,u,e,h1,h2,h3,h4,h5,r⟩:=h;exact⟨q,fd,bd,v,u,e,m _ _ h1,h2.mono m,h3,k _ _ h4,k _ _ h5,r⟩
theorem GL.mono(m:fR H H')(k:vW H H'):∀{gs:List G4}{us:List V},GL H₀ H gs us→GL H₀ H' gs us
 | _,_,.nil=>.nil
 | _,_,.snoc r a=>.snoc (GL.mono m k r) (a.mono m k)
theorem GL.length:∀{gs:List G4}{us:List V},GL H₀ H gs us→us.length=gs.length
 | _,_,.nil=>rfl
 | _,_,.snoc r _=>by rw[aD,aE,GL.length r];rfl
def vn(gs:List G4):Nat:=(gs.map λg=>g.1.size).sum
theorem mv(g:G4)(gs:List G4):vn (g::gs)=g.1.size+vn gs:=by simp[vn]
def sW:Sp:=λvs H Q _=>∃(t:T)(v u:V)(n:NT),vs=[v,u]∧gN H t v∧lF H n u∧va n∧t.size≤100000∧∀(b:Bool)(H':Hp),dz H H'→(b=true↔lG t n [] [])→Q (.bl b) H'
end SW
namespace S3
open PySem L2 SW
def HY(K:aA):TS:=(fY (tC (.bl false)))
def HX(K:aA):TS:=(fj (eL (eC zO (eC (eF K) (dQ 3) (tC (.int 0))) (eC (eF K) (dQ 4) (tC (.int 0))))) (HY K) fU)
def HW(K:aA):TS:=(fY (tC (.bl false)))
def HV(K:aA):TS:=(fj (kU (eL (eC kN (eC (eF K) (dQ 3) (tC (.int 0))) (tC (.str "number")))) (eL (eC zO (eC (eF K) (dQ 3) (tC (.int 1))) (eC (eF K) (dQ 4) (tC (.int 1)))))) (HW K) fU)
def HU(K:aA):TS:=(fY (tC (.bl false)))
def HS(K:aA):TS:=(fj (eL (eC zO (qD (dQ 5) (eC (eF K) (dQ 3) (tC (.int 1))) (eC (eF K) (dQ 3) (tC (.int 1)))) (eC (eF K) (dQ 4) (tC (.int 1))))) (HU K) fU)
def HR(K:aA):TS:=(fY (tC (.bl false)))
def HQ(K:aA):TS:=(fj (eL (eC zO (qD (dQ 6) (eC (eF K) (dQ 4) (tC (.int 1))) (eC (eF K) (dQ 3) (tC (.int 1)))) (eC (eF K) (dQ 3) (tC (.int 1))))) (HR K) fU)
def HP(K:aA):TS:=(dq (HS K) (HQ K))
def Dl(K:aA):TS:=(fj (eL (eC kN (eC (eF K) (dQ 3) (tC (.int 0))) (tC (.str "name")))) (HP K) fU)
def Dk(K:aA):TS:=(fY (tC (.bl false)))
def xV(K:aA):TS:=(fj (eL (eC zO (iB (gT K) (dP (dQ 7) dZ)) (iB (gT K) (dP (eC (eF K) (dQ 4) (tC (.int 3))) dZ)))) (Dk K) fU)
def Dj(K:aA):TS:=(dq (eG (iB uA (dP (dQ 5) dZ)) (db 9)) (dq (lV (dQ 9) (eC (eF K) (dQ 3) (tC (.int 1))) (eC (eF K) (dQ 4) (tC (.int 1)))) (dq (eG (iB uA (dP (dQ 6) dZ)) (db 10)) (lV (dQ 10) (eC (eF K) (dQ 4) (tC (.int 1))) (eC (eF K) (dQ 3) (tC (.int 1)))))))
def Di(K:aA):TS:=(fj (kU (eL (eC kN (eC (eF K) (dQ 3) (tC (.int 0))) (tC (.str "let")))) (eL (eC kN (dQ 8) (tC (.int 1))))) (Dj K) fU)
def sL(K:aA):TS:=(dq (eG (dQ 5) (db 9)) (dq (eG (dQ 6) (db 10)) (dq (Di K) (fG (jm K "list" ef (dQ 2) (dP (fS (dP (eC (gO K) (dQ 7) (dQ 8)) (dP (eC (gO K) (eC (eF K) (dQ 4) (tC (.int 3))) (dQ 8)) (dP (dQ 9) (dP (dQ 10) dZ))))) dZ))))))
def Dh(K:aA):TS:=(dq (eG (mV K "list" mY (dQ 2)) (lb K 4 (gI (db 3) (gI (db 4) (gI (db 5) (gI (db 6) lc)))))) (dq (HX K) (dq (HV K) (dq (Dl K) (dq (eG (eY gX [] E0 (dP (dQ 3) dZ)) (db 7)) (dq (xV K) (iP (u7 (dP (iB (gT K) (dP (dQ 7) dZ)) dZ)) (db 8) (sL K))))))))
def MN(K:aA):TS:=(dq (eG (fX (dP (fS (dP (dQ 0) (dP (dQ 1) (dP i8 (dP i8 dZ))))) dZ)) (db 2)) (dq (iF (eL (eC (ku K) (dQ 2) (fX dZ))) (Dh K)) (fY (tC (.bl true)))))
end S3
namespace SW
open PySem L2
theorem hG.get:∀{ns:List NT}{us:List V}{i:Nat}{n:NT},hG H ns us→ns[i]?=some n→∃u,us[i]?=some u∧lF H n u
 | _,_,0,_,.cons a r,h=>by cases h;exact⟨_,rfl,a⟩
 | _,_,i+1,_,.cons a r,h=>hG.get (i:=i) r h
def Fp(t:T)(x:V)(fo ba:DK)(ks:List NT)(j:Nat):Prop:=∀a n,t.kids[j]?=some a→ks[j]?=some n→lG a n (pB t x fo j) (pC t x ba j)
theorem tN(h:∀w a b,t=.lt w a b→j≠1):pB t x fo j=fo:=by
 unfold pB;split
 ·exact absurd rfl (h _ _ _ rfl)
 ·rfl
theorem tO(h:∀w a b,t=.lt w a b→j≠1):pC t x fo j=fo:=by
 unfold pC;split
 ·exact absurd rfl (h _ _ _ rfl)
 ·rfl
structure Na(H₀ H:Hp)(p:Addr)(pt:List V)(tl fd bd il:Addr)(t:T)(x:V)(fo ba:DK)(ks:List NT)(gs:List G4)(us us2:List V)(i:Nat):Prop where
 same:dz H₀ H
 p_:H p=some (.tup pt)
 f_:H fd=some (.dK fo)
 b_:H bd=some (.dK ba)
 i_:H il=some (.lst us2)
 den:gJ H t.kids us2
 rest:∃us' gs',H tl=some (.lst us')∧GL H₀ H gs' us'∧us'.length=us.length+i∧vn gs'=vn gs+fE (t.kids.take i)∧((∀g∈gs',g.ok)↔(∀j,j<i→Fp t x fo ba ks j)∧∀g∈gs,g.ok)
end SW
namespace S3
open PySem L2 SW
variable {K:aA}{vs:List V}{H H₀:Hp}{Q:VK}{E:XK}
def OX(H₀:Hp)(v0 u0:Option V)(p tl np fd bd il:Addr)(t:T)(kk:List V)(x:V)(fo ba:DK)(ks:List NT)(gs:List G4)(us us2:List V)(i:Nat)(σ:St)(H':Hp):Prop:=(∃j8 j9 j10,σ=[v0,u0,some (.ref tl),some (.ref p),some (.ref np),some (.ref fd),some (.ref bd),some (.ref il),j8,j9,j10])∧Na H₀ H' p (hd t++kk) tl fd bd il t x fo ba ks gs us us2 i
theorem wF
  (P:Na H₀ H p (hd t++kk) tl fd bd il t x fo ba ks gs us us2 0) (new:H₀ tl=none) (nil:il≠tl) (hn:H₀ np=some (.tup [.str k,x,.ref sp,.ref kl])) (hkl:H₀ kl=some (.lst nus)) (nn:hG H₀ ks nus) (hlen:t.kids.length=ks.length)
  (wf:∀n∈ks,va n) (wl:k="let"→∃i,x=.int i) (hk:kind t=k) (fk:AF fo) (bk:AG ba) (f1:fo.length+t.size≤110000) (f2:ba.length+t.size≤110000) (few:us.length≤400000)
  (hD:∀(H':Hp)(j8 j9 j10:Option V),Na H₀ H' p (hd t++kk) tl fd bd il t x fo ba ks gs us us2 t.kids.length→D.nx [v0,u0,some (.ref tl),some (.ref p),some (.ref np),some (.ref fd),some (.ref bd),some (.ref il),j8,j9,j10] H'):
  (iP (u7 (dP (iB (gT K) (dP (dQ 7) dZ)) dZ)) (db 8) (sL K)) D [v0,u0,some (.ref tl),some (.ref p),some (.ref np),some (.ref fd),some (.ref bd),some (.ref il),j8,j9,j10] H:=by
 have hl2:=P.den.length;have hk3:t.kids.length≤3:=by cases t<;>simp[T.kids]
 refine⟨.inl (eJ.of P.i_),by lia,by lia,?_⟩;rw[bp];refine rX (OX H₀ v0 u0 p tl np fd bd il t kk x fo ba ks gs us us2) ⟨⟨_,_,_,rfl⟩,P⟩ ?_ ?_
 ·rintro i σ H1 hi ⟨⟨j8,j9,j10,rfl⟩,P1⟩;rw[Int.zero_add];obtain⟨us',gs',htl,gl,hlu,hsz,hok⟩:=P1.rest;obtain⟨x1,hx1⟩:∃x1,us2[i]?=some x1:=⟨us2[i],by rw[aI]⟩;obtain⟨a,ha,da⟩:=pW P1.den hx1;obtain⟨n,hnk⟩:∃n,ks[i]?=some n:=⟨ks[i]'(by lia),by rw[aI]⟩;obtain⟨y1,hy1,na⟩:=nn.get hnk;have hsa:=qZ (ac ha);have app:∀(nf nb:Addr)(H2:Hp),dz H1 H2→H2 nf=some (.dK (pB t x fo i))→H2 nb=some (.dK (pC t x ba i))→AF (pB t x fo i)→AG (pC t x ba i)→(pB t x fo i).length+a.size≤110000→(pC t x ba i).length+a.size≤110000→
    (fG (jm K "list" ef (dQ 2) (dP (fS (dP (eC (gO K) (dQ 7) (dQ 8)) (dP (eC (gO K) (eC (eF K) (dQ 4) (tC (.int 3))) (dQ 8)) (dP (dQ 9) (dP (dQ 10) dZ))))) dZ))) (D.lp (OX H₀ v0 u0 p tl np fd bd il t kk x fo ba ks gs us us2 (i+1)))
     [v0,u0,some (.ref tl),some (.ref p),some (.ref np),some (.ref fd),some (.ref bd),some (.ref il),some (.int i),some (.ref nf),some (.ref nb)] H2:=by
   intro nf nb H2 s2 hnf hnb fk' bk' g1 g2;have b2:=P1.same.trans s2;refine⟨.inl ⟨rfl,_,eJ.of (s2 _ _ htl)⟩,eJ.of (s2 _ _ P1.i_),dW hx1,eD.of (b2 _ _ hn),dW (j:=3) rfl,eJ.of (b2 _ _ hkl),dW hy1,fM,et λq H3 hq s3 g3=>?_⟩;have s23:=s2.trans s3;have ht3:=s23 _ _ htl;refine⟨ht3,by rw[sizeLine_eq];lia,⟨_,_,_,rfl⟩,?_⟩;have m:=fP (o:=.lst (us'++[.ref q])) ht3;have kk':=lf (o:=.lst (us'++[.ref q])) ht3;have A3:LS H₀ H3 (a,n,pB t x fo i,pC t x ba i) (.ref q):=⟨q,nf,nb,x1,y1,rfl,g3,da.mono (dh s23),na,s3 _ _ hnf,s3 _ _ hnb,wf n (ac hnk),fk',bk',g1,g2⟩;refine⟨eI (P1.same.trans s23) new,m _ _ (s23 _ _ P1.p_),kk' _ _ (s23 _ _ P1.f_),kk' _ _ (s23 _ _ P1.b_),by rw[dj nil];exact s23 _ _ P1.i_,(P1.den.mono (dh s23)).mono m,us'++[.ref q],(a,n,pB t x fo i,pC t x ba i)::gs',dR,.snoc ((gl.mono (dh s23) (gn s23)).mono m kk') (A3.mono m kk'),by simp[hlu];lia,?_,?_⟩
   ·rw[mv,hsz,ax,ha];simp only[Option.toList,fK,gA,jK];lia
   ·have h0:(∀g∈(a,n,pB t x fo i,pC t x ba i)::gs',G4.ok g)↔lG a n (pB t x fo i) (pC t x ba i)∧∀g∈gs',g.ok:=by
     constructor
     ·exact λh=>⟨h _ (.head _),λg hg=>h g (.tail _ hg)⟩
     ·rintro⟨h1,h2⟩ g hg;rcases aB.mp hg with rfl|hg
      ·exact h1
      ·exact h2 g hg
    rw[h0,hok];constructor
    ·rintro⟨h1,h2,h3⟩;refine⟨λj hj=>?_,h3⟩;rcases Nat.lt_succ_iff_lt_or_eq.mp hj with z|rfl
     ·exact h2 j z
     ·intro a' n' e1 e2;rw[ha]at e1;rw[hnk]at e2;cases e1;cases e2;exact h1
    ·rintro⟨h2,h3⟩;exact⟨h2 i (cC _) a n ha hnk,λj hj=>h2 j (cf hj),h3⟩
  have plain:(∀w a b,t=.lt w a b→i≠1)→_:=λhno=>app fd bd H1 (λ_ _ z=>z) (by rw[tN hno];exact P1.f_) (by rw[tO hno];exact P1.b_) (by rw[tN hno];exact fk) (by rw[tO hno];exact bk) (by rw[tN hno];lia) (by rw[tO hno];lia);have hp1:=P1.p_;refine ?_;refine⟨eD.of hp1,gx t kk,rfl,_,rfl,?_⟩;refine jP (λhlet=>?_) (λhlet=>?_)
  ·obtain⟨w,b1,b2,rfl⟩:=nJ (V.str.inj (of_decide_eq_true hlet));refine⟨rfl,_,rfl,?_⟩;refine jP (λhj1=>?_) (λhj1=>?_)
   ·have hi1:i=1:=by have:=V.int.inj (of_decide_eq_true hj1);lia
    subst hi1;obtain⟨id,rfl⟩:=wl hk.symm;have hn1:=P1.same _ _ hn;refine⟨fd,fo,rfl,.inl P1.f_,et λnf H2 hnf s2 g2=>?_⟩;refine⟨eD.of (s2 _ _ hn1),dW (j:=1) rfl,eD.of (s2 _ _ hp1),dW (j:=1) rfl,nZ.k (k:=.inr w) g2 (by rw[sizeLine_eq];lia),?_⟩;have s3:dz H1 (upd H2 nf (.dK (gH fo (.inr w:fO) (.int id)))):=eI s2 hnf;have g3:(upd H2 nf (.dK (gH fo (.inr w:fO) (.int id)))) nf=some (.dK (gH fo (.inr w:fO) (.int id))):=dR;generalize upd H2 nf (.dK (gH fo (.inr w:fO) (.int id)))=H3 at s3 g3⊢;refine⟨bd,ba,rfl,.inl (s3 _ _ P1.b_),et λnb H4 hnb s4 g4=>?_⟩;have s34:=s3.trans s4;refine⟨eD.of (s34 _ _ hp1),dW (j:=1) rfl,eD.of (s34 _ _ hn1),dW (j:=1) rfl,nZ.k (k:=.inl id) g4 (by rw[sizeLine_eq];lia),?_⟩;have s5:dz H3 (upd H4 nb (.dK (gH ba (.inl id:fO) (.str w)))):=eI s4 hnb;have l1:=iC fo (.inr w:fO) (.int id);have l2:=iC ba (.inl id:fO) (.str w);refine app nf nb _ (s3.trans s5) (s5 _ _ g3) dR (fk.put _ _) (bk.put _ _) ?_ ?_
    ·show(gH fo (.inr w:fO) (.int id)).length+a.size≤110000;lia
    ·show(gH ba (.inl id:fO) (.str w)).length+a.size≤110000;lia
   ·exact plain λ_ _ _ _ z=>hj1 (by rw[z];rfl)
  ·refine fQ (plain λw b1 b2 e z=>?_);exact hlet (by rw[e];exact decide_eq_true rfl)
 ·rintro σ H1 ⟨⟨j8,j9,j10,rfl⟩,P1⟩;rw[hl2]at P1;exact hD H1 _ _ _ P1
end S3
namespace S8
open PySem L2 SW S9
theorem nw(h:H p=none):∃H1,dz H H1∧H1 p=some o∧upd H p o=H1:=⟨_,dX h,dR,rfl⟩
theorem qh{n:Nat}{tb:TS}{D:iN}{σ:St}{H:Hp}{k:Nat}(Pv:Nat→St→Hp→Prop)(h0:Pv n σ H)(hs:∀i σ H,i<n→Pv (i+1) σ H→tb (D.lp (Pv i)) (σ.set k (some (.int (i:Int)))) H)(hd:∀σ H,Pv 0 σ H→D.nx σ H):
  ∃W:Nat→Nat→St→Hp→Prop,(∃m,W 0 m σ H)∧∀i m σ H,W i m σ H→
   ((Jh ((n:Int)-1) n).stop i H∧D.nx σ H)∨((Jh ((n:Int)-1) n).go i H∧∃N:St→Hp→Prop,(∀σ' H',N σ' H'→∃m',m'<m∧W (i+1) m' σ' H')∧∀x H',(Jh ((n:Int)-1) n).yld i H x H'→db k x σ H' λσ2 H2=>tb (D.lp (N)) σ2 H2):=by
 refine⟨λi m σ H=>m=n-i∧i≤n∧Pv (n-i) σ H,⟨n,by simp,aU _,h0⟩,?_⟩;rintro i m σ H ⟨rfl,hi,p⟩;by_cases e:i=n
 ·subst e;rw[bJ]at p;exact .inl ⟨aC _,hd σ H p⟩
 ·refine .inr ⟨show i<n by lia,Pv (n-(i+1)),λσ' H' z=>⟨n-(i+1),by lia,rfl,by lia,z⟩,?_⟩;rintro x H' ⟨rfl,rfl⟩;rw[show n-i=n-(i+1)+1 by lia]at p;rw[show(n:Int)-1-(i:Int)=((n-(i+1):Nat):Int) by lia];exact hs (n-(i+1)) σ H' (by lia) p
theorem mS(n:Nat):((n:Int)-1 - -1).toNat=n:=by lia
def kh(q:List Nat):Nat→List NT→List (NT×List Nat)
 | _,[]=>[]
 | i,n::ns=>(n,q++[i])::kh q (i+1) ns
def vE:List (NT×List Nat)→Option (List Nat)
 | []=>none
 | (n,q)::r=>match fst n with
  | some p=>some (q++p)
  | none=>vE r
theorem rT(q:List Nat)(r:List (NT×List Nat)):∀(ks:List NT)(i:Nat),vE (kh q i ks++r)=match j0 ks i with|some p=>some (q++p)|none=>vE r
 | [],i=>by rw[j0];rfl
 | n::ns,i=>by
  rw[kh,aO,vE,j0];cases fst n with
  | some p=>simp
  | none=>exact rT q r ns (i+1)
theorem oN(q:List Nat):∀(ks:List NT)(i:Nat),(kh q i ks).length=ks.length
 | [],_=>rfl
 | _::ns,i=>by simp[kh,oN q ns]
theorem rP(q:List Nat):∀(ks:List NT)(i j:Nat)(n:NT),ks[j]?=some n→(kh q i ks)[j]?=some (n,q++[i+j])
 | m::ns,i,0,n,h=>by cases h;rfl
 | m::ns,i,j+1,n,h=>by have:=rP q ns (i+1) j n (by simpa using h);rw[kh,List.getElem?_cons_succ,this,show i+1+j=i+(j+1) by lia]
def uZ(S:List (NT×List Nat)):Nat:=(S.map λx=>gq x.1).sum
theorem kq(a b:List (NT×List Nat)):uZ (a++b)=uZ a+uZ b:=by simp[uZ]
theorem sP(x:NT×List Nat):uZ [x]=gq x.1:=by simp[uZ]
theorem xj(a:List (NT×List Nat)):uZ a.reverse=uZ a:=by simp[uZ]
theorem qE(q:List Nat):∀(ks:List NT)(i:Nat),uZ (kh q i ks)=fN ks
 | [],_=>rfl
 | n::ns,i=>by have:=qE q ns (i+1);simp only[uZ,kh,aX,cJ,fN]at this⊢;rw[this]
theorem yH(n:NT):1≤gq n:=by cases n;rw[gq];lia
theorem xk:∀S:List (NT×List Nat),S.length≤uZ S
 | []=>aC _
 | x::S=>by have:=xk S;have:=yH x.1;simp only[uZ,aX,cJ,aE]at *;lia
theorem ke:∀ks:List NT,ks.length≤fN ks
 | []=>aU _
 | n::ks=>by have:=ke ks;have:=yH n;rw[fN,aE];lia
def pV(q:List Nat):List V:=q.map λi:Nat=>V.int (i:Int)
theorem zU(a b:List Nat):pV (a++b)=pV a++pV b:=by simp[pV]
def AE(H₀ H:Hp)(tl:Addr)(B:Nat)(x:NT×List Nat)(v:V):Prop:=∃(q pl:Addr)(u:V),v=.ref q∧H q=some (.tup [u,.ref pl])∧lF H₀ x.1 u∧pl≠tl∧H pl=some (.lst (pV x.2))∧x.2.length+gq x.1≤B
theorem AE.same(s:dz H H')(h:AE H₀ H tl B x v):AE H₀ H' tl B x v:=by obtain⟨q,pl,u,e,h1,h2,h3,h4,h5⟩:=h;exact⟨q,pl,u,e,s _ _ h1,h2,h3,s _ _ h4,h5⟩
theorem AE.lst(ht:H tl=some (.lst us))(h:AE H₀ H tl B x v):AE H₀ (upd H tl o) tl B x v:=by obtain⟨q,pl,u,e,h1,h2,h3,h4,h5⟩:=h;exact⟨q,pl,u,e,fP ht _ _ h1,h2,h3,by rw[dj h3];exact h4,h5⟩
variable {K:aA}{vs:List V}{H:Hp}{Q:VK}{E:XK}
def uf:Sp:=λvs H Q _=>∃(n:NT)(u:V),vs=[u]∧lF H n u∧gq n≤1000000∧(∀p l H',fst n=some p→dz H H'→H' l=some (.lst (pV p))→Q (.ref l) H')∧(∀H',fst n=none→dz H H'→Q .non H')
def Hh(K:aA):TS:=(fY (dQ 3))
def Hg(K:aA):TS:=(fj (eL (eC kN (eC (eF K) (dQ 2) (tC (.int 0))) (tC (.str "stamp")))) (Hh K) fU)
def Hf(K:aA):TS:=(fG (jm K "list" ef (dQ 1) (dP (fS (dP (eC (gO K) (eC (eF K) (dQ 2) (tC (.int 3))) (dQ 4)) (dP (eC lL (dQ 3) (fX (dP (dQ 4) dZ))) dZ))) dZ)))
def HZ(K:aA):TS:=(dq (eG (mV K "list" mY (dQ 1)) (lb K 2 (gI (db 2) (gI (db 3) lc)))) (dq (Hg K) (iP (oq (dP (eC iZ (iB (gT K) (dP (eC (eF K) (dQ 2) (tC (.int 3))) dZ)) (tC (.int 1))) (dP (mK gU (tC (.int 1))) (dP (mK gU (tC (.int 1))) dZ)))) (db 4) (Hf K))))
def MO(K:aA):TS:=(dq (eG (fX (dP (fS (dP (dQ 0) (dP (fX dZ) dZ))) dZ)) (db 1)) (dq (iF (eL (eC (ku K) (dQ 1) (fX dZ))) (HZ K)) (fY (tC .non))))
def OY(H:Hp)(u:V)(tl:Addr)(n:NT)(m:Nat)(σ:St)(H':Hp):Prop:=∃S us j2 j3 j4,σ=[some u,some (.ref tl),j2,j3,j4]∧dz H H'∧H' tl=some (.lst us)∧Al (AE H H' tl 1000000) S us∧vE S.reverse=fst n∧uZ S≤1000000∧m=uZ S
def Oz(H H7:Hp)(u:V)(tl np pl:Addr)(S:List (NT×List Nat))(q':List Nat)(ks:List NT)(i:Nat)(σ:St)(H':Hp):Prop:=∃us' j4,σ=[some u,some (.ref tl),some (.ref np),some (.ref pl),j4]∧dz H H'∧dz (sk tl H7) H'∧H' tl=some (.lst us')∧Al (AE H H' tl 1000000) (S++((kh q' 0 ks).drop i).reverse) us'
theorem N9(h:uf vs H Q E):MO K (gr Q) (start ["_law_tree","_law_todo","_law_node","_law_path","_law_k"] vs) H:=by
 obtain⟨n,u,rfl,hn,hz,k1,k2⟩:=h;refine⟨fM,et λe0 H1 he0 s1 g1=>?_⟩;refine⟨fM,et λq0 H2 hq0 s2 g2=>?_⟩;refine⟨fM,λtl htl=>?_⟩;obtain⟨H3,s3,g3,e3⟩:=nw (o:=.lst [.ref q0]) htl;have s13:=s1.trans (s2.trans s3);have ntl:H tl=none:=(s1.trans s2).free htl;have ne0:e0≠tl:=de (s2 _ _ g1) htl;show dq _ _ _ _ (upd H2 tl (.lst [.ref q0]));rw[e3];refine⟨OY H u tl n,
  ⟨_,[(n,[])],[.ref q0],none,none,none,rfl,s13,g3,.one ⟨q0,e0,u,rfl,s3 _ _ g2,hn,ne0,(s2.trans s3) _ _ g1,by simpa using hz⟩,by simp[vE];cases fst n<;>rfl,by rw[sP];exact hz,rfl⟩,?_⟩
 clear s1 g1 s2 g2 s3 g3 s13 he0 hq0 htl e3 ne0;rintro m σ H5 ⟨S,us,j2,j3,j4,rfl,s5,t5,al,hf,hS,rfl⟩;refine⟨fM,et λe0 H6 he0 s6 g6=>?_⟩;have t6:=s6 _ _ t5;have b6:=s5.trans s6;have al6:=al.mono λ_ _=>AE.same s6;refine⟨eJ.of t6,eJ.of g6,_,rfl,?_⟩;by_cases hv:us=[]
 ·subst hv;cases al6;exact eN rfl (k2 _ (by rw[←hf];rfl) b6)
 ·refine fc (by simpa using hv) ?_;obtain⟨us,w,rfl⟩:=fz hv;obtain⟨S,⟨n',q'⟩,rfl,alS,a⟩:=al6.snoc;rw[kq,sP]at hS;refine⟨Lt (OY H u tl n) (uZ (S++[(n',q')])),λ_ _ h=>h,?_⟩;refine⟨.inl ⟨rfl,_,eJ.of t6⟩,t6,jN,?_⟩;rw[iX];have b7:dz H (upd H6 tl (.lst us)):=eI b6 ntl;have t7:(upd H6 tl (.lst us)) tl=some (.lst us):=dR;have al7:=alS.mono λ_ _=>AE.lst (o:=.lst us) t6;have a7:=a.lst (o:=.lst us) t6;generalize upd H6 tl (.lst us)=H7 at b7 t7 al7 a7⊢;obtain⟨q,pl,nv,rfl,hq,na,npl,hpl,hb⟩:=a7;cases na with
  | @mk kd x src path ks np sp pp kl nus h1 h2 h3 h4 h5=>
  refine⟨eD.of hq,rfl,rfl,?_⟩;have hnp:=b7 _ _ h1;rw[b9]at hf;have hf:vE ((NT.mk kd x src path ks,q')::S.reverse)=fst n:=hf;rw[vE,fst]at hf;refine⟨eD.of hnp,dW (j:=0) rfl,rfl,_,rfl,?_⟩;by_cases hk:kd="stamp"
  ·subst hk;rw[if_pos rfl]at hf;have hf:some (q'++[])=fst n:=hf;rw[aZ]at hf;refine fc (by decide) ?_;exact(k1 q' pl H7 hf.symm b7 hpl)
  ·rw[if_neg hk]at hf;refine eN (nk hk) ?_;have hnl:=h5.length;have hkl:=ke ks;have hb:q'.length+gq (NT.mk kd x src path ks)≤1000000:=hb;rw[gq]at hS hb;refine⟨eD.of hnp,dW (j:=3) rfl,.inl (eJ.of (b7 _ _ h4)),(nus.length:Int)-1,-1,rfl,⟨by lia,by lia,by lia,by lia⟩,?_⟩;rw[mS];refine qh (n:=nus.length) (k:=4) (Oz H H7 u tl np pl S q' ks) ?_ ?_ ?_
   ·refine⟨us,_,rfl,b7,λb o z=>?_,t7,?_⟩
    ·unfold sk at z;by_cases e:b=tl
     ·rw[if_pos e]at z;cases z
     ·rw[if_neg e]at z;exact z
    ·rw[b5 (by rw[oN];lia)];simpa using al7
   ·rintro i σ H8 hi ⟨us',j4,rfl,b8,c8,t8,al8⟩;have pl8:H8 pl=some (.lst (pV q')):=c8 _ _ (oA hpl npl);obtain⟨x1,hx1⟩:∃x1,nus[i]?=some x1:=⟨nus[i],aI hi⟩;obtain⟨k1',hk1⟩:∃k,ks[i]?=some k:=⟨ks[i]'(by lia),aI _⟩;obtain⟨x2,hx2,nk2⟩:=h5.get hk1;rw[hx1]at hx2;cases hx2;have hkz:=pP (ac hk1);have hl8:=al8.length;rw[aD,bI,aj,oN]at hl8;have hSl:=xk S;refine⟨.inl ⟨rfl,_,eJ.of t8⟩,?_⟩;refine⟨eD.of (b8 _ _ h1),dW (j:=3) rfl,eJ.of (b8 _ _ h4),dW hx1,?_⟩;refine⟨fM,et λo1 H9 ho1 s9 g9=>?_⟩;refine⟨s9 _ _ pl8,g9,by rw[sizeLine_eq];simp[pV];lia,et λo2 H10 ho2 s10 g10=>?_⟩;refine⟨fM,et λo3 H11 ho3 s11 g11=>?_⟩;have s8:=s9.trans (s10.trans s11);have t11:=s8 _ _ t8;refine⟨t11,by rw[sizeLine_eq];lia,?_⟩;have no2:o2≠tl:=(de (s9 _ _ t8) ho2).symm;refine⟨_,_,rfl,eI (b8.trans s8) ntl,λb o z=>?_,dR,?_⟩
    ·by_cases e:b=tl
     ·unfold sk at z;rw[if_pos e]at z;cases z
     ·rw[dj e];exact s8 _ _ (c8 _ _ z)
    ·have e:(kh q' 0 ks).drop i=(k1',q'++[i])::(kh q' 0 ks).drop (i+1):=by have hg:=rP q' ks 0 i k1' hk1;rw[bx]at hg;obtain⟨hj,ej⟩:=aN.mp hg;rw[bN hj,ej]
     rw[e,aq,←aV];refine((al8.mono λ_ _=>AE.same s8).mono λ_ _=>AE.lst t11).append (.one (AE.lst t11 ⟨o3,o2,x1,rfl,g11,nk2,no2,?_,?_⟩))
     ·rw[zU];exact s11 _ _ g10
     ·simp only[aD,aw];lia
   ·rintro σ H8 ⟨us',j4,rfl,b8,_,t8,al8⟩;refine⟨uZ (S++(kh q' 0 ks).reverse),?_,_,us',_,_,_,rfl,b8,t8,by simpa using al8,?_,?_,rfl⟩
    ·rw[kq,kq,sP,xj,qE,gq];lia
    ·rw[b9,cL,rT];rw[←hf]
    ·rw[kq,xj,qE];lia
end S8
namespace S8
open PySem L2 SW S9
theorem oR:∀(p:List Nat)(i:Nat){n m:NT},ic n (p++[i])=some m→∃k x src path ks,ic n p=some (.mk k x src path ks)∧ks[i]?=some m
 | [],i,.mk k x src path ks,m,h=>by
  refine⟨k,x,src,path,ks,rfl,?_⟩;rw[ak,ic]at h;cases e:ks[i]? with
  | none=>rw[e]at h;cases h
  | some m'=>rw[e]at h;cases m';exact h
 | j::p,i,.mk k x src path ks,m,h=>by
  rw[aO,ic]at h;cases e:ks[j]? with
  | none=>rw[e]at h;cases h
  | some m'=>rw[e]at h;obtain⟨k',x',src',path',ks',h1,h2⟩:=oR p i h;exact⟨k',x',src',path',ks',by rw[ic,e];exact h1,h2⟩
theorem zm(h:ic n p=some m):∀j,j≤p.length→∃mj,ic n (p.take j)=some mj:=by
 have key:∀(d j:Nat),j+d=p.length→∃mj,ic n (p.take j)=some mj:=by
  intro d;induction d with
  | zero=>intro j hj;rw[bh (by lia)];exact⟨m,h⟩
  | succ d ih=>intro j hj;obtain⟨mj,e⟩:=ih (j+1) (by lia);rw[ax,aI (show j<p.length by lia)]at e;obtain⟨_,_,_,_,_,h1,_⟩:=oR _ _ e;exact⟨_,h1⟩
 intro j hj;exact key (p.length-j) j (by lia)
theorem oQ(h:ic n p=some m)(hj:j<p.length):∃k x src path ks mj,ic n (p.take j)=some (.mk k x src path ks)∧ks[p[j]]?=some mj∧ic n (p.take (j+1))=some mj:=by obtain⟨mj,e⟩:=zm h (j+1) hj;have e0:=e;rw[ax,aI hj]at e;obtain⟨k,x,src,path,ks,h1,h2⟩:=oR _ _ e;exact⟨k,x,src,path,ks,mj,h1,h2,e0⟩
theorem zQ{n:NT}{p:List Nat}{m':NT}{j:Nat}(hj:j<p.length){k x src path ks}{mj:NT}(e1:ic n (p.take j)=some (.mk k x src path ks))(e2:ks[p[j]]?=some mj):iq (.mk k x src path ks) (p.drop j) m'=.mk k x src path (ks.set p[j] (iq mj (p.drop (j+1)) m')):=by rw[bN hj,iq,e2]
theorem yA:∀{ks:List α}{i:Nat}{y:α},i<ks.length→ks.set i y=ks.take i++[y]++ks.drop (i+1)
 | x::ks,0,y,_=>rfl
 | x::ks,i+1,y,h=>by have:=yA (ks:=ks) (i:=i) (y:=y) (by simpa using h);rw[List.set_cons_succ,this];simp
theorem tj{us:List V}{i:Nat}(h:i≤us.length):ix us none (some (i:Int))=us.take i:=by
 unfold ix;have e1:HT.kZ us.length 0 none=0:=rfl;have e2:HT.kZ us.length us.length (some (i:Int))=i:=by rw[lU];lia
 rw[e1,e2];simp
theorem lg{us:List V}{i:Nat}(h:i+1≤us.length):ix us (some ((i:Int)+1)) none=us.drop (i+1):=by
 unfold ix;have e2:HT.kZ us.length 0 (some ((i:Int)+1))=i+1:=by rw[show(i:Int)+1=((i+1:Nat):Int) by lia,lU];lia
 have e3:HT.kZ us.length us.length none=us.length:=rfl;rw[e2,e3,bh (by rw[aj];lia)]
theorem lF.opn(h:lF H (.mk k x src path ks) u):∃(p sp pp kl:Addr)(us:List V),u=.ref p∧H p=some (.tup [.str k,x,.ref sp,.ref kl])∧H sp=some (.tup [.str src,.ref pp])∧H pp=some (.tup (path.map V.int))∧H kl=some (.lst us)∧hG H ks us:=by cases h with|mk h1 h2 h3 h4 h5=>exact⟨_,_,_,_,_,rfl,h1,h2,h3,h4,h5⟩
variable {K:aA}{vs:List V}{H:Hp}{Q:VK}{E:XK}
def xy:Sp:=λvs H Q _=>∃(n m m':NT)(p:List Nat)(u v:V)(l:Addr),vs=[u,.ref l,v]∧lF H n u∧lF H m' v∧H l=some (.lst (pV p))∧ic n p=some m∧gq n≤1000000∧p.length≤1000000∧∀(w:V)(H':Hp),dz H H'→lF H' (iq n p m') w→Q w H'
def Gr(K:aA):TS:=(dq (fG (jm K "list" ef (dQ 3) (dP (dQ 4) dZ))) (eG (eC (gO K) (eC (eF K) (dQ 4) (tC (.int 3))) (dQ 5)) (db 4)))
def Gq(K:aA):TS:=(dq (eG (eC (gO K) (dQ 3) (dQ 6)) (db 4)) (dq (eG (eC lL (eC lL (mT (jM K) (eC (eF K) (dQ 4) (tC (.int 3))) fu (gD (eC (gO K) (dQ 1) (dQ 6)))) (fX (dP (dQ 2) dZ))) (mT (jM K) (eC (eF K) (dQ 4) (tC (.int 3))) (gD (eC m9 (eC (gO K) (dQ 1) (dQ 6)) (tC (.int 1)))) fu)) (db 7)) (eG (fS (dP (eC (eF K) (dQ 4) (tC (.int 0))) (dP (eC (eF K) (dQ 4) (tC (.int 1))) (dP (eC (eF K) (dQ 4) (tC (.int 2))) (dP (dQ 7) dZ))))) (db 2))))
def MF(K:aA):TS:=(dq (eG (fX dZ) (db 3)) (dq (eG (dQ 0) (db 4)) (dq (iP (i0 K (dQ 1)) (db 5) (Gr K)) (dq (iP (oq (dP (eC iZ (iB (gT K) (dP (dQ 1) dZ)) (tC (.int 1))) (dP (mK gU (tC (.int 1))) (dP (mK gU (tC (.int 1))) dZ)))) (db 6) (Gq K)) (fY (dQ 2))))))
theorem vB:∀{p:List Nat}{n m:NT},ic n p=some m→gq m≤gq n
 | [],n,m,e=>by cases n;cases e;exact aC _
 | i::p,.mk k x src path ks,m,e=>by
  rw[ic]at e;cases e2:ks[i]? with
  | none=>rw[e2]at e;cases e
  | some n=>rw[e2]at e;have:=vB e;have:=pP (ac e2);rw[gq];lia
theorem wR(h:j<p.length):(pV p)[j]?=some (.int (p[j]:Int)):=by unfold pV;rw[ae,aI h];rfl
def Ja(H:Hp)(n:NT)(p:List Nat)(j:Nat)(v:V):Prop:=∃mj,ic n (p.take j)=some mj∧lF H mj v
def Ou(H:Hp)(u v:V)(l ab:Addr)(n:NT)(p:List Nat)(i:Nat)(σ:St)(H':Hp):Prop:=∃(aus:List V)(w:V)(j5:Option V),σ=[some u,some (.ref l),some v,some (.ref ab),some w,j5,none,none]∧dz H H'∧H' ab=some (.lst aus)∧aus.length=i∧(∀j y,aus[j]?=some y→Ja H n p j y)∧Ja H n p i w
def Ot(H2:Hp)(u:V)(l ab:Addr)(j5:Option V)(n:NT)(p:List Nat)(m':NT)(i:Nat)(σ:St)(H':Hp):Prop:=∃(v':V)(j4 j6 j7:Option V)(mi:NT),σ=[some u,some (.ref l),some v',some (.ref ab),j4,j5,j6,j7]∧dz H2 H'∧ic n (p.take i)=some mi∧lF H' (iq mi (p.drop i) m') v'
theorem N0(h:xy vs H Q E):MF K (gr Q) (start ["_law_tree","_law_path","_law_made","_law_above","_law_node","_law_k","_law_j","_law_kids"] vs) H:=by
 obtain⟨n,m,m',p,u,v,l,rfl,hn,hm,hl,hg,hz,hpl,k⟩:=h;refine⟨fM,λab hab=>?_⟩;obtain⟨H1,s1,g1,e1⟩:=nw (o:=.lst []) hab;show dq _ _ _ _ (upd H ab (.lst []));rw[e1];refine⟨eJ.of (s1 _ _ hl),?_⟩;refine gY (K:=K) (a:=l) (xs:=pV p) (Ou H u v l ab n p)
  ⟨[],u,none,rfl,s1,g1,rfl,λj y h=>by simp at h,n,by cases n;rfl,hn⟩ (λi σ H' _ hP=>?_) ?_ ?_
 ·obtain⟨_,_,_,_,s,_⟩:=hP;exact eJ.of (s _ _ hl)
 ·rintro i y σ H2 hi ⟨aus,w,j5,rfl,s2,a2,hal,ha,hw⟩;have hil:i<p.length:=by have:=(aN.mp hi).1;simpa[pV]using this
  rw[wR hil]at hi;cases hi;obtain⟨kd,x,src,path,ks,mj,g1,g2,g3⟩:=oQ hg hil;obtain⟨mi,e,nw⟩:=hw;rw[g1]at e;cases e;obtain⟨np,sp,pp,kl,nus,rfl,h1,h2,h3,h4,h5⟩:=lF.opn nw;obtain⟨x1,hx1,nk⟩:=h5.get g2;refine⟨.inl ⟨rfl,_,eJ.of a2⟩,a2,by rw[sizeLine_eq];lia,?_⟩;have nab:∀{b:Addr}{o:HO},H b=some o→(upd H2 ab (.lst (aus++[.ref np]))) b=some o:=λz=>eI s2 hab _ _ z;refine⟨eD.of (nab h1),dW (j:=3) rfl,eJ.of (nab h4),dW hx1,?_⟩;refine⟨aus++[.ref np],x1,_,rfl,eI s2 hab,dR,by simp[hal],λj y hj=>?_,mj,g3,nk⟩;rcases bM j aus.length with hlt|hge
  ·rw[bB hlt]at hj;exact ha j y hj
  ·rw[bL hge]at hj;have:j=i:=by have:=(aN.mp hj).1;simp at this;lia
   subst this;rw[hal,bJ]at hj;cases hj;exact⟨_,g1,nw⟩
 ·rintro σ H2 ⟨aus,w,j5,rfl,s2,a2,hal,ha,hw⟩;have hpv:(pV p).length=p.length:=by simp[pV]
  rw[hpv]at hal;refine⟨.inl (eJ.of (s2 _ _ hl)),((pV p).length:Int)-1,-1,rfl,⟨by lia,by lia,by lia,by lia⟩,?_⟩;rw[mS,hpv];refine qh (n:=p.length) (k:=6) (Ot H2 u l ab j5 n p m') ?_ ?_ ?_
  ·refine⟨v,_,_,_,m,rfl,dz.refl _,by rw[bG];exact hg,?_⟩;rw[List.drop_length];cases m;exact hm.same s2
  ·rintro i σ H3 hi ⟨v',j4,j6,j7,mi',rfl,s3,g3,nv⟩;obtain⟨kd,x,src,path,ks,mj,g1,g2,g4⟩:=oQ hg hi;rw[g3]at g4;cases g4;obtain⟨y,hy⟩:∃y,aus[i]?=some y:=⟨aus[i]'(by lia),aI _⟩;obtain⟨mi,e,nwi⟩:=ha i y hy;rw[g1]at e;cases e;obtain⟨np,sp,pp,kl,nus,rfl,h1,h2,h3,h4,h5⟩:=lF.opn (nwi.same (s2.trans s3));have hnl:=h5.length;have hkl:=ke ks;have hzz:=vB g1;rw[gq]at hzz;have hik:p[i]<ks.length:=(aN.mp g2).1;refine⟨eJ.of (s3 _ _ a2),dW hy,?_⟩;have hpx:=dW (wR hi);refine⟨eD.of h1,dW (j:=3) rfl,eJ.of ((s2.trans s3) _ _ hl),hpx,eJ.of h4,λo1 ho1=>?_⟩;rw[tj (by lia)];obtain⟨H4,s4,c4,e4⟩:=nw (o:=.lst (nus.take p[i])) ho1;rw[e4];refine⟨fM,et λo2 H5 ho2 s5 c5=>?_⟩;refine⟨s5 _ _ c4,c5,by rw[sizeLine_eq,ah];simp;lia,et λo3 H6 ho3 s6 c6=>?_⟩;have s46:=s4.trans (s5.trans s6);refine⟨eD.of (s46 _ _ h1),dW (j:=3) rfl,eJ.of (((s2.trans s3).trans s46) _ _ hl),hpx,eJ.of (s46 _ _ h4),λo4 ho4=>?_⟩;rw[lg (by lia)];obtain⟨H7,s7,c7,e7⟩:=nw (o:=.lst (nus.drop (p[i]+1))) ho4;rw[e7];refine⟨s7 _ _ c6,c7,by rw[sizeLine_eq];simp only[aD,ah,aj,aw];lia,et λo5 H8 ho5 s8 c8=>?_⟩;have s38:=s46.trans (s7.trans s8);have hp8:=s38 _ _ h1;refine⟨eD.of hp8,dW (j:=0) rfl,eD.of hp8,dW (j:=1) rfl,eD.of hp8,dW (j:=2) rfl,fM,λo6 ho6=>?_⟩;obtain⟨H9,s9,c9,e9⟩:=nw (o:=.tup [.str kd,x,.ref sp,.ref o5]) ho6;have s39:=s38.trans s9;refine⟨.ref o6,_,_,_,_,rfl,s3.trans (s38.trans (dX ho6)),g1,?_⟩;rw[zQ hi g1 g2,e9];refine .mk c9 (s39 _ _ h2) (s39 _ _ h3) (s9 _ _ c8) ?_;rw[yA hik];exact(((h5.same s39).take p[i]).append (.cons (nv.same s39) .nil)).append ((h5.same s39).drop (p[i]+1))
  ·rintro σ H3 ⟨v',j4,j6,j7,mi,rfl,s3,g3,nv⟩;have:mi=n:=by cases n;cases g3;rfl
   subst this;exact(k v' H3 (s2.trans s3) nv)
end S8
namespace S8
open PySem L2 SW S9
theorem vC:∀{p:List Nat}{n m:NT},ic n p=some m→p.length+gq m≤gq n
 | [],n,m,e=>by cases n;cases e;simp
 | i::p,.mk k x src path ks,m,e=>by
  rw[ic]at e;cases e2:ks[i]? with
  | none=>rw[e2]at e;cases e
  | some n=>rw[e2]at e;have:=vC e;have:=pP (ac e2);rw[gq,aE];lia
def kz(ps:List Str)(us:List V):List (fO×V):=(ps.zip us).map λy=>(Sum.inr y.1,y.2)
theorem qU{kvs:List (fO×V)}{k:fO}{v:V}(h:∀y∈kvs,y.1≠k):gH kvs k v=kvs++[(k,v)]:=by unfold gH;rw[if_neg];simp only[ce,decide_eq_true_eq,not_exists,not_and];exact h
theorem Iz{ps:List Str}{us:List V}{i:Nat}{w:Str}{x:V}(hn:ps.Nodup)(h1:ps[i]?=some w)(h2:us[i]?=some x):gH (kz (ps.take i) (us.take i)) (.inr w) x=kz (ps.take (i+1)) (us.take (i+1)):=by
 have e:kz (ps.take (i+1)) (us.take (i+1))=kz (ps.take i) (us.take i)++[(.inr w,x)]:=by unfold kz;have l1:=(aN.mp h1).1;have l2:=(aN.mp h2).1;rw[ax,ax,h1,h2,Option.toList_some,Option.toList_some,List.zip_append (by simp;lia)];simp
 rw[e];refine qU λy hy=>?_;obtain⟨⟨a,b⟩,hab,rfl⟩:=bw.mp hy;have ha:=cD hab|>.1;intro z;have z:=Sum.inr.inj z;have z:a=w:=z;subst z;obtain⟨j,hj,ej⟩:=List.mem_take_iff_getElem.mp ha;obtain⟨hi,ei⟩:=aN.mp h1;exact List.pairwise_iff_getElem.mp hn j i (by lia) hi (by lia) (ej.trans ei.symm)
theorem JG{H:Hp}:uJ H (kz [] []) C6:=λw=>.inl ⟨rfl,rfl⟩
theorem NA{H:Hp}{e:Bool}{g:NT}{x:V}(h:lF H g x):uJ H (kz [qV e] [x]) (Ey e g):=λw=>by
 by_cases h1:w=qV e
 ·subst h1;exact .inr ⟨g,x,if_pos rfl,gE rfl,h⟩
 ·exact .inl ⟨if_neg h1,by unfold kz;simp only[List.zip_cons_cons,List.zip_nil_right,aX,bV];rw[gF (λz=>h1 (Sum.inr.inj z).symm)];rfl⟩
theorem M9{H:Hp}{e:Bool}{g h:NT}{x y:V}(a:lF H g x)(b:lF H h y):uJ H (kz [qV e,vY e] [x,y]) (tV e g h):=λw=>by
 by_cases h1:w=qV e
 ·subst h1;exact .inr ⟨g,x,if_pos rfl,gE rfl,a⟩
 ·have q:fW (kz [qV e,vY e] [x,y]) (.inr w:fO)=fW (kz [vY e] [y]) (.inr w:fO):=gF (λz=>h1 (Sum.inr.inj z).symm);rw[q];by_cases e2:w=vY e
  ·subst e2;exact .inr ⟨h,y,by unfold tV;rw[if_neg h1,if_pos rfl],gE rfl,b⟩
  ·exact .inl ⟨by unfold tV;rw[if_neg h1,if_neg e2],by unfold kz;simp only[List.zip_cons_cons,List.zip_nil_right,aX,bV];rw[gF (λz=>e2 (Sum.inr.inj z).symm)];rfl⟩
def FC(v1 v2 v3:V):List (Str×V):=[("star",v1),("sta",v2),("st",v3)]
def wM(w:Str)(L:List (Str×V)):List V:=(L.filter λx=>decide (x.1=w)).map Prod.snd
theorem FD{H:Hp}{v1 v2 v3:V}{bo:Bo}{w:Str}{ks:List NT}{giv:Gi}{body:T}{us:List V}(BT:vX H v1 v2 v3 bo)(B:xM bo w ks giv body)(K:xK bo)(hu:hG H ks us):
  ∃(sv:V)(ps:List Str),wM w (FC v1 v2 v3)=[sv]∧kC H w ps (gm body) sv∧ps.length=us.length∧ps.Nodup∧body.size≤900∧uJ H (kz ps us) giv:=by
 have hz:=K.z1;have hz2:=K.z2.1;have hz3:=K.z3.1;cases B with
 | star=>cases hu;exact⟨v1,[],by simp[wM,FC,Kq.symm,Fm.symm],BT.a,rfl,.nil,by lia,JG⟩
 | sta=>cases hu with|cons a r=>cases r;exact⟨v2,[_],by simp[wM,FC,Kq,Ko.symm],BT.b,rfl,by simp,by lia,NA a⟩
 | st=>cases hu with|cons a r=>cases r with|cons b r=>cases r;exact⟨v3,[_,_],by simp[wM,FC,Fm,Ko],BT.c,rfl,by simp[zT],by lia,M9 a b⟩
variable {K:aA}{vs:List V}{H:Hp}{Q:VK}{E:XK}
def qK:Sp:=λvs H Q _=>∃(b:Addr)(v1 v2 v3 u:V)(t:T)(bo:Bo)(F:Nat),vs=[.ref b,u,.int (F:Int)]∧H b=some (.lst [v1,v2,v3])∧vX H v1 v2 v3 bo∧gN H t u∧xK bo∧WT SF t∧t.size≤40∧F≤9∧
 ∀(r:Addr)(w:V)(n:NT)(c:Int)(k:Nat)(H':Hp),dz H H'→Ly bo t k n c→lF H' n w→H' r=some (.tup [w,.int (k:Int)])→k≤F+1→(k≤F→fst n=none)→Q (.ref r) H'
def C2(H:Hp)(n:NT)(v:V):Prop:=(v=.non∧fst n=none)∨∃l p,v=.ref l∧fst n=some p∧H l=some (.lst (pV p))
def HC(K:aA):TS:=(eG (eC (gO K) (eC (eF K) (dQ 7) (tC (.int 3))) (dQ 8)) (db 7))
def HB(K:aA):TS:=(lV (dQ 10) (eC (gO K) (eC (eF K) (dQ 9) (tC (.int 1))) (dQ 8)) (eC (gO K) (eC (eF K) (dQ 7) (tC (.int 3))) (dQ 8)))
def yt(K:aA):TS:=(dq (eG (eC m9 (dQ 5) (tC (.int 1))) (db 5)) (eG (eY uf [] E0 (dP (dQ 3) dZ)) (db 6)))
def yu(K:aA):TS:=(dq (eG (eY xy [] E0 (dP (dQ 3) (dP (dQ 6) (dP (dQ 11) dZ)))) (db 3)) (yt K))
def yw(K:aA):TS:=(dq (eG (eY mz [] E0 (dP (eC (eF K) (dQ 9) (tC (.int 2))) (dP (eC (eF K) (dQ 9) (tC (.int 0))) (dP (dQ 10) (dP (dQ 4) dZ))))) (lb K 2 (gI (db 11) (gI (db 4) lc)))) (yu K))
def yx(K:aA):TS:=(dq (iP (u7 (dP (iB (gT K) (dP (eC (eF K) (dQ 7) (tC (.int 3))) dZ)) dZ)) (db 8) (HB K)) (yw K))
def yz(K:aA):TS:=(dq (eG i8 (db 10)) (yx K))
def y6(K:aA):TS:=(dq (eG (eC (gO K) (D8 1 (i0 K (dQ 0)) (db 0) (eL (eC kN (eC (eF K) (dQ 0) (tC (.int 0))) (eC (eF K) (dQ 1) (tC (.int 1))))) (dQ 0) [7]) (tC (.int 0))) (db 9)) (yz K))
def y8(K:aA):TS:=(dq (iP (i0 K (dQ 6)) (db 8) (HC K)) (y6 K))
def vj(K:aA):TS:=(dq (eG (dQ 3) (db 7)) (y8 K))
def DY(K:aA):TS:=(dq (iF (kU (eL (eC Fa (dQ 6) (tC .non))) (eL (eC EN (dQ 5) (dQ 2)))) (vj K)) (fY (fS (dP (dQ 3) (dP (dQ 5) dZ)))))
def DZ(K:aA):TS:=(dq (eG (eY uf [] E0 (dP (dQ 3) dZ)) (db 6)) (DY K))
def Dc(K:aA):TS:=(dq (eG (tC (.int 0)) (db 5)) (DZ K))
def MK(K:aA):TS:=(dq (eG (eY mz [] E0 (dP (dQ 1) (dP (tC (.str "")) (dP i8 (dP (tC (.int 0)) dZ))))) (lb K 2 (gI (db 3) (gI (db 4) lc)))) (Dc K))
inductive NX(H₀:Hp)(b:Addr)(u:V)(F:Nat)(bo:Bo)(t:T):Nat→St→Hp→Prop where
 | mk{k:Nat}{n:NT}{c:Int}{w pv:V}{j7 j8 j9 j10 j11:Option V}{H':Hp}(s:dz H₀ H')(l:Ly bo t k n c)(a:lF H' n w)(p:C2 H' n pv)(z:k≤F+1):NX H₀ b u F bo t (F+1-k) [some (.ref b),some u,some (.int (F:Int)),some w,some (.int c),some (.int (k:Int)),some pv,j7,j8,j9,j10,j11] H'
def Oy(b:Addr)(u:V)(F:Nat)(w:V)(c:Int)(k:Nat)(l:Addr)(n:NT)(p:List Nat)(H1:Hp)(j9 j10 j11:Option V)(i:Nat)(σ:St)(H':Hp):Prop:=∃(y:V)(j8:Option V),σ=[some (.ref b),some u,some (.int (F:Int)),some w,some (.int c),some (.int (k:Int)),some (.ref l),some y,j8,j9,j10,j11]∧H'=H1∧Ja H1 n p i y
def Ox(b l np q gd:Addr)(u w:V)(F:Nat)(c:Int)(k:Nat)(j11:Option V)(Hx:Hp)(ps:List Str)(nus:List V)(i:Nat)(σ:St)(H'':Hp):Prop:=∃j8,σ=[some (.ref b),some u,some (.int (F:Int)),some w,some (.int c),some (.int (k:Int)),some (.ref l),some (.ref np),j8,some (.ref q),some (.ref gd),j11]∧dz Hx H''∧H'' gd=some (.dK (kz (ps.take i) (nus.take i)))
theorem wC{H₀ H1:Hp}{b l:Addr}{v1 v2 v3 u w:V}{t:T}{bo:Bo}{F k:Nat}{n:NT}{c:Int}{p:List Nat}{D:iN}{j7 j8 j9 j10 j11:Option V}(hb:H₀ b=some (.lst [v1,v2,v3]))(B:vX H₀ v1 v2 v3 bo)(bok:xK bo)(wt:WT SF t)(s1:dz H₀ H1)(ly:Ly bo t k n c)(na:lF H1 n w)(hf:fst n=some p)(hl:H1 l=some (.lst (pV p)))(hnz:gq n≤1000000)(bnd:∀n' c',Ly bo t (k+1) n' c'→gq n'≤1000000)
  (hD:∀(n':NT)(c':Int)(w2 pv:V)(j7 j8 j9 j10 j11:Option V)(H':Hp),dz H₀ H'→Ly bo t (k+1) n' c'→lF H' n' w2→C2 H' n' pv→D.nx [some (.ref b),some u,some (.int (F:Int)),some w2,some (.int c'),some (.int ((k+1:Nat):Int)),some pv,j7,j8,j9,j10,j11] H'):
  vj K D [some (.ref b),some u,some (.int (F:Int)),some w,some (.int c),some (.int (k:Int)),some (.ref l),j7,j8,j9,j10,j11] H1:=by
 obtain⟨w0,src,path,ks,giv,body,hg,Bd⟩:=Kv bok wt ly hf;have hpl:=vC hg;refine⟨eJ.of hl,?_⟩;refine gY (K:=K) (a:=l) (xs:=pV p) (Oy b u F w c k l n p H1 j9 j10 j11)
  ⟨w,j8,rfl,rfl,n,by cases n;rfl,na⟩ (λi σ H' _ hP=>?_) ?_ ?_
 ·obtain⟨_,_,_,rfl,_⟩:=hP;exact eJ.of hl
 ·rintro i y σ H' hi ⟨y',j8,rfl,rfl,hw⟩;have hil:i<p.length:=by have:=(aN.mp hi).1;simpa[pV]using this
  rw[wR hil]at hi;cases hi;obtain⟨kd,x,src',path',ks',mj,g1,g2,g3⟩:=oQ hg hil;obtain⟨mi,e,nwi⟩:=hw;rw[g1]at e;cases e;obtain⟨np,sp,pp,kl,nus,rfl,h1,h2,h3,h4,h5⟩:=lF.opn nwi;obtain⟨x1,hx1,nk⟩:=h5.get g2;exact⟨eD.of h1,dW (j:=3) rfl,eJ.of h4,dW hx1,x1,_,rfl,rfl,mj,g3,nk⟩
 ·rintro σ H' ⟨y',j8,rfl,rfl,mj,e,nm⟩;have hpv:(pV p).length=p.length:=by simp[pV]
  rw[hpv,bG,hg]at e;cases e;obtain⟨np,sp,pp,kl,nus,rfl,h1,h2,h3,h4,h5⟩:=lF.opn nm;have hb1:=s1 _ _ hb;have B1:=B.mono s1;obtain⟨sv,ps,hpick,sat,hps,hnd,hbz,hgv⟩:=FD B1 Bd bok h5;have hnl:=h5.length;have hkl:=ke ks;rw[gq]at hpl;refine⟨eJ.of hb1,?_⟩;have wds:∀(i:Nat)(x:V),[v1,v2,v3][i]?=some x→∃wi q,(FC v1 v2 v3)[i]?=some (wi,x)∧x=.ref q∧∃xs,H' q=some (.tup (.str wi::xs)):=λi x hx=>by
   obtain⟨p1,_,_,e1,a1,_⟩:=B1.a;obtain⟨p2,_,_,e2,a2,_⟩:=B1.b;obtain⟨p3,_,_,e3,a3,_⟩:=B1.c
   match i,hx with
   | 0,hx=>cases hx;exact⟨_,p1,rfl,e1,_,a1⟩
   | 1,hx=>cases hx;exact⟨_,p2,rfl,e2,_,a2⟩
   | 2,hx=>cases hx;exact⟨_,p3,rfl,e3,_,a3⟩
   | i+3,hx=>simp at hx
  refine⟨λi m vs Hx=>m=3-i∧i≤3∧Hx=H'∧vs=wM w0 ((FC v1 v2 v3).take i)∧vs.length≤i,⟨3,rfl,aU _,rfl,rfl,aU _⟩,?_⟩;rintro i m vs Hx ⟨rfl,hi,rfl,hvs,hvl⟩;by_cases hi3:i=3
  ·subst hi3;refine .inl ⟨⟨_,eJ.of hb1,by simp⟩,by rw[sizeLine_eq];lia,λlo hlo=>?_⟩;have:(FC v1 v2 v3).take 3=FC v1 v2 v3:=rfl;rw[this,hpick]at hvs;subst hvs;obtain⟨H2,s2,g2,e2⟩:=nw (o:=.lst [sv]) hlo;rw[e2];refine⟨eJ.of g2,dW (j:=0) rfl,?_⟩;obtain⟨q,pl,x,rfl,hq,hpls,dgx⟩:=sat;refine λgd hgd=>?_;obtain⟨H3,s3,g3,e3⟩:=nw (o:=.dK []) hgd;show dq _ _ _ _ (upd H2 gd (.dK []));rw[e3];have s23:=s2.trans s3;refine⟨eD.of (s23 _ _ h1),dW (j:=3) rfl,.inl (eJ.of (s23 _ _ h4)),by lia,by lia,?_⟩;rw[bp];have ngd:Hx gd=none:=s2.free hgd;refine rX (lo:=0) (n:=nus.length) (Ox b l np q gd u w F c k j11 Hx ps nus) ⟨_,rfl,s23,g3⟩ ?_ ?_
   ·rintro i σ H4 hi ⟨j8,rfl,s4,g4⟩;rw[Int.zero_add];obtain⟨x1,hx1⟩:∃x1,nus[i]?=some x1:=⟨nus[i],aI hi⟩;obtain⟨w1,hw1⟩:∃w1,ps[i]?=some w1:=⟨ps[i]'(by lia),aI _⟩;refine⟨eD.of (s4 _ _ h1),dW (j:=3) rfl,eJ.of (s4 _ _ h4),dW hx1,?_⟩;refine⟨eD.of (s4 _ _ hq),dW (j:=1) rfl,eJ.of (s4 _ _ hpls),dW (by rw[ae,hw1];rfl),nZ.k (k:=.inr w1) g4 ?_,?_⟩
    ·have:(kz (ps.take i) (nus.take i)).length≤nus.length:=by unfold kz;rw[aT,List.length_zip,ah,ah];lia
     rw[sizeLine_eq];lia
    ·refine⟨_,rfl,eI s4 ngd,?_⟩;rw[dR,Iz hnd hw1 hx1]
   ·rintro σ H4 ⟨j8,rfl,s4,g4⟩;rw[←hps,bG,hps,bG]at g4;refine⟨eD.of (s4 _ _ hq),dW (j:=2) rfl,eD.of (s4 _ _ hq),dW (j:=0) rfl,body,x,w0,gd,_,giv,c,rfl,(iH dgx).mono (dh s4),hbz,g4,hgv.same s4,λr bv H5 s5 nb hr=>?_⟩;refine⟨eD.of hr,rfl,rfl,?_⟩;have s15:=s4.trans s5;refine⟨n,_,_,p,w,bv,l,rfl,na.same s15,nb,s15 _ _ hl,hg,hnz,by lia,λw2 H6 s6 nw2=>?_⟩;have ly2:=ly.succ hf hg Bd;refine ?_;have s06:=s1.trans (s15.trans s6);refine⟨_,w2,rfl,nw2,bnd _ _ ly2,λp' l' H7 hf' s7 hl'=>?_,λH7 hf' s7=>?_⟩
    ·exact hD _ _ _ _ _ _ _ _ _ H7 (s06.trans s7) ly2 (nw2.same s7) (.inr ⟨l',p',rfl,hf',hl'⟩)
    ·exact hD _ _ _ _ _ _ _ _ _ H7 (s06.trans s7) ly2 (nw2.same s7) (.inl ⟨rfl,hf'⟩)
  ·obtain⟨x,hx⟩:∃x,[v1,v2,v3][i]?=some x:=⟨[v1,v2,v3][i]'(by simp;lia),aI _⟩;refine .inr ⟨⟨_,x,eJ.of hb1,hx⟩,λy Hy yy=>?_⟩;obtain⟨rfl,yy⟩:=yy;have hy:=yy _ (eJ.of hb1);rw[hx]at hy;cases hy;intro os hos
   match os,hos with
   | [o1],_=>
   obtain⟨wi,q,hwi,rfl,xs,hq⟩:=wds i x hx;refine⟨⟨[some (.ref q)],rfl,rfl⟩,?_⟩;refine⟨eD.of hq,dW (j:=0) rfl,eD.of h1,dW (j:=1) rfl,rfl,_,rfl,?_⟩;have tk:=take_succ_filter (λx:Str×V=>decide (x.1=w0)) (FC v1 v2 v3) i _ hwi;by_cases hw:wi=w0
   ·subst hw;refine fc (by simp) ⟨by rw[sizeLine_eq];lia,3-(i+1),by lia,rfl,by lia,rfl,?_,by simp;lia⟩;rw[hvs];unfold wM;rw[tk];simp
   ·refine eN (decide_eq_false λz=>hw (V.str.inj z)) ⟨3-(i+1),by lia,rfl,by lia,rfl,?_,by lia⟩;rw[hvs];unfold wM;rw[tk];simp[hw]
theorem qQ{H₀:Hp}{b:Addr}{v1 v2 v3 u w pv:V}{t:T}{bo:Bo}{F:Nat}{n:NT}{c:Int}(hb:H₀ b=some (.lst [v1,v2,v3]))(B:vX H₀ v1 v2 v3 bo)(bok:xK bo)(wt:WT SF t)(hz:t.size≤40)(hF:F≤9)
  (kk:∀(r:Addr)(w:V)(n:NT)(c:Int)(k:Nat)(H':Hp),dz H₀ H'→Ly bo t k n c→lF H' n w→H' r=some (.tup [w,.int (k:Int)])→k≤F+1→(k≤F→fst n=none)→Q (.ref r) H')
  (s0:dz H₀ H) (ly:Ly bo t 0 n c) (na:lF H n w) (mn:C2 H n pv):
  (dq (iF (kU (eL (eC Fa (dQ 6) (tC .non))) (eL (eC EN (dQ 5) (dQ 2)))) (vj K)) (fY (fS (dP (dQ 3) (dP (dQ 5) dZ))))) (gr Q) [some (.ref b),some u,some (.int (F:Int)),some w,some (.int c),some (.int 0),some pv,none,none,none,none,none] H:=by
 have bnd:∀{k:Nat}{n:NT}{c:Int},Ly bo t k n c→k≤F+1→gq n≤1000000:=λ{k n c} ly hk=>by have:=(ux bok wt ly).2;have:k*(20*t.size)≤10*(20*t.size):=bX _ (by lia);lia
 refine⟨NX H₀ b u F bo t,
  ⟨_,.mk s0 ly na mn (by lia)⟩,?_⟩
 clear ly na mn s0;rintro m σ H1 @⟨k,n,c,w,pv,j7,j8,j9,j10,j11,_,s1,ly,na,mn,hk⟩;refine⟨rfl,_,rfl,?_⟩;rcases mn with⟨rfl,hf⟩|⟨l,p,rfl,hf,hl⟩
 ·refine eN rfl (eN rfl ?_);refine⟨fM,λr hr=>?_⟩;have s2:=dX (o:=.tup [w,.int (k:Int)]) hr;exact kk r w n c k _ (s1.trans s2) ly (na.same s2) dR hk λ_=>hf
 ·refine fc rfl ?_;refine⟨_,rfl,?_⟩;by_cases hkF:k≤F
  ·refine fc (decide_eq_true (by lia)) ?_;refine⟨Lt (NX H₀ b u F bo t) (F+1-k),λ_ _ h=>h,?_⟩;exact wC hb B bok wt s1 ly na hf hl (bnd ly hk) (λn' c' l'=>bnd l' (by lia)) λn' c' w2 pv j7 j8 j9 j10 j11 H' s' ly' na' pth'=>⟨F+1-(k+1),by lia,.mk s' ly' na' pth' (by lia)⟩
  ·refine eN (decide_eq_false (by lia)) ?_;refine⟨fM,λr hr=>?_⟩;have s2:=dX (o:=.tup [w,.int (k:Int)]) hr;exact kk r w n c k _ (s1.trans s2) ly (na.same s2) dR hk λz=>absurd z hkF
theorem N5(h:qK vs H Q E):MK K (gr Q) (start ["_law_book","_law_piece","_law_fuel","_law_tree","_law_count","_law_many","_law_path","_law_node","_law_k","_law_stamp","_law_given","_law_body"] vs) H:=by
 obtain⟨b,v1,v2,v3,u,t,bo,F,rfl,hb,B,du,bok,wt,hz,hF,kk⟩:=h;refine(λd0 hd0=>?_);obtain⟨H1,s1,g1,e1⟩:=nw (o:=.dK []) hd0;rw[e1];refine⟨t,u,"",d0,[],C6,0,rfl,du.mono (dh s1),by lia,g1,λw=>.inl ⟨rfl,rfl⟩,λr w H2 s2 n2 hr=>?_⟩;have s12:=s1.trans s2;refine⟨eD.of hr,rfl,rfl,?_⟩;have ly0:Ly bo t 0 _ _:=.zero;have hz0:=(ux bok wt ly0).2;refine⟨_,w,rfl,n2,by lia,λp l H3 hf s3 hl=>?_,λH3 hf s3=>?_⟩
 ·exact qQ hb B bok wt hz hF kk (s12.trans s3) ly0 (n2.same s3) (.inr ⟨l,p,rfl,hf,hl⟩)
 ·exact qQ hb B bok wt hz hF kk (s12.trans s3) ly0 (n2.same s3) (.inl ⟨rfl,hf⟩)
end S8
namespace SW
open PySem L2
theorem vg(t:T):(∃m,t=.num m)∨(∃w,t=.name w)∨(kind t≠"number"∧kind t≠"name"∧∀x fo ba,tU t x fo ba):=by
 cases t with
 | num m=>exact .inl ⟨m,rfl⟩
 | name w=>exact .inr (.inl ⟨w,rfl⟩)
 | _=>exact .inr (.inr ⟨by simp only[kind];decide,by simp only[kind];decide,λ_ _ _=>trivial⟩)
theorem xl:∀gs:List G4,gs.length≤vn gs
 | []=>aC _
 | g::r=>by have:=xl r;have:=g.1.size_pos;rw[mv,aE];lia
theorem qS(h:zF x y=true)(h1:x≠y→Q (.bl true) H)(h2:x=y→Q (.bl false) H):zO x y H Q:=by
 refine⟨h,?_⟩;by_cases e:x=y
 ·rw[decide_eq_true e];exact h2 e
 ·rw[decide_eq_false e];exact h1 e
end SW
namespace S3
open PySem L2 SW
variable {K:aA}{vs:List V}{H H₀:Hp}{Q:VK}{E:XK}
inductive Ls(H:Hp)(v u:V)(tl:Addr)(t:T)(n:NT):Nat→St→Hp→Prop where
 | mk{gs:List G4}{us:List V}{j3 j4 j5 j6 j7 j8 j9 j10:Option V}{H':Hp}(s:dz H H')(h:H' tl=some (.lst us))(g:GL H H' gs us)(i:(∀g∈gs,g.ok)↔lG t n [] [])(z:vn gs≤100000):Ls H v u tl t n (vn gs) [some v,some u,some (.ref tl),j3,j4,j5,j6,j7,j8,j9,j10] H'
theorem N8(h:sW vs H Q E):MN K (gr Q) (start ["_law_found","_law_tree","_law_todo","_law_part","_law_node","_law_forth","_law_back","_law_inner","_law_k","_law_near","_law_far"] vs) H:=by
 obtain⟨t,v,u,n,rfl,hd0,hn0,hwf,hs,k⟩:=h;refine(λfd hfd=>?_);have s1:=dX (o:=.dK []) hfd;have g1:(upd H fd (.dK [])) fd=some (.dK []):=dR;generalize upd H fd (.dK [])=H1 at s1 g1⊢;refine λbd hbd=>?_;have s2:=dX (o:=.dK []) hbd;have g2:(upd H1 bd (.dK [])) bd=some (.dK []):=dR;generalize upd H1 bd (.dK [])=H2 at s2 g2⊢;refine⟨fM,et λq H3 hq s3 g3=>?_⟩;refine⟨fM,λtl htl=>?_⟩;have s4:=dX (o:=.lst [.ref q]) htl;have g4:(upd H3 tl (.lst [.ref q])) tl=some (.lst [.ref q]):=dR;have new:H tl=none:=(s1.trans (s2.trans s3)).free htl;generalize upd H3 tl (.lst [.ref q])=H4 at s4 g4⊢;have u3:=s3.trans s4;have u2:=s2.trans u3;have u1:=s1.trans u2;have nov:∀(q:fO)(v:V),fW ([]:DK) q=some v→False:=λq v e=>by cases e
 refine⟨Ls H v u tl t n,
  ⟨_,.mk (gs:=[(t,n,[],[])]) u1 g4 (.snoc (us:=[]) .nil ⟨q,fd,bd,v,u,rfl,s4 _ _ g3,hd0.mono (dh u1),hn0,u2 _ _ g1,u3 _ _ g2,hwf,λq v e=>(nov q v e).elim,λq v e=>(nov q v e).elim,by simp;lia,by simp;lia⟩) ?_ (by simp[vn];lia)⟩,?_⟩
 ·constructor
  ·exact λh=>h _ (.head _)
  ·intro h g hg;obtain rfl:g=(t,n,[],[]):=by simpa using hg
   exact h
 clear s1 g1 s2 g2 s3 g3 s4 g4 u1 u2 u3 hfd hbd hq htl nov;rintro m σ H5 @⟨gs,us,j3,j4,j5,j6,j7,j8,j9,j10,_,s5,t5,gl,iff,hsz⟩;refine⟨fM,λe0 he0=>?_⟩;have s6:=dX (o:=.lst []) he0;have g6:(upd H5 e0 (.lst [])) e0=some (.lst []):=dR;have gl6:=gl.mono (dh s6) (gn s6);have t6:=s6 _ _ t5;have b6:=s5.trans s6;generalize upd H5 e0 (.lst [])=H6 at g6 gl6 t6 b6⊢;clear s6 gl s5 t5 he0;refine⟨eJ.of t6,eJ.of g6,_,rfl,?_⟩;cases gl6 with
 | nil=>refine eN rfl (k true _ b6 ⟨λ_=>iff.mp (λg hg=>by cases hg),λ_=>rfl⟩)
 | @snoc g w gs us gl6 ga=>
  refine fc (by simp) ?_;rw[mv]at hsz;refine⟨Lt (Ls H v u tl t n) (vn (g::gs)),λ_ _ h=>h,?_⟩;refine⟨.inl ⟨rfl,_,eJ.of t6⟩,t6,jN,?_⟩;rw[iX];have m7:=fP (o:=.lst us) t6;have k7:=lf (o:=.lst us) t6;have b7:dz H (upd H6 tl (.lst us)):=eI b6 new;have t7:(upd H6 tl (.lst us)) tl=some (.lst us):=dR;have gl7:=gl6.mono m7 k7;have ga7:=ga.mono m7 k7;generalize upd H6 tl (.lst us)=H7 at b7 t7 gl7 ga7⊢;have hgl:=gl7.length;have hgs:=xl gs;obtain⟨t',n',fo,ba⟩:=g;obtain⟨q,fd,bd,pv,nv,rfl,hq,den,na,hfd,hbd,wf,fk,bk,f1,f2⟩:=ga7;have den:gN H7 t' pv:=den;have fail:∀H',dz H H'→¬lG t' n' fo ba→Q (.bl false) H':=λH' s no=>k false H' s ⟨(λh=>by cases h),λh=>absurd (iff.mpr h _ (.head _)) no⟩;obtain⟨p,kk,rfl,hp,dkk⟩:=den.open;cases na with
  | @mk kd x src path ks np sp pp kl nus h1 h2 h3 h4 h5=>
  cases wf with
  | mk w1 w2 w3 w4=>
  have hn7:=b7 _ _ h1;refine⟨eD.of hq,rfl,rfl,?_⟩;refine⟨eD.of hp,gx t' kk,eD.of hn7,dW (j:=0) rfl,?_⟩;refine qS rfl (λhne=>⟨_,rfl,qc (fail _ b7 λh=>hne (by rw[(lG.inv.mp h).1]))⟩) (λheq=>⟨_,rfl,fQ ?_⟩);have hkd:kind t'=kd:=V.str.inj heq;have rest:tU t' x fo ba→(dq (eG (eY gX [] E0 (dP (dQ 3) dZ)) (db 7)) (dq (xV K) (iP (u7 (dP (iB (gT K) (dP (dQ 7) dZ)) dZ)) (db 8) (sL K)))) (((gr Q).thn (fY (tC (.bl true)))).lp (Lt (Ls H v u tl t n) (vn ((t',.mk kd x src path ks,fo,ba)::gs))))
    [some v,some u,some (.ref tl),some (.ref p),some (.ref np),some (.ref fd),some (.ref bd),j7,j8,j9,j10] H7:=by
   intro hok;refine⟨t',.ref p,rfl,den,λil us2 H8 s8 n8 h8 d8=>?_⟩;have b8:=b7.trans s8;have hl2:=d8.length;have hnl:=h5.length;refine⟨.inl (eJ.of h8),eD.of (b8 _ _ h1),dW (j:=3) rfl,.inl (eJ.of (b8 _ _ h4)),?_⟩;refine qS rfl (λhne=>⟨_,rfl,qc (fail _ b8 λh=>hne ?_)⟩) (λheq=>⟨_,rfl,fQ ?_⟩)
   ·have:=(lG.inv.mp h).2.2.1;rw[hl2,hnl,this]
   ·have hlen:t'.kids.length=ks.length:=by have:=V.int.inj heq;lia
    have nil:il≠tl:=λz=>by subst z;rw[t7]at n8;cases n8
    refine wF (gs:=gs) (us:=us) (us2:=us2) (kk:=kk) ⟨b8,s8 _ _ hp,s8 _ _ hfd,s8 _ _ hbd,h8,d8,us,gs,s8 _ _ t7,gl7.mono (dh s8) (gn s8),rfl,by simp[fE],?_⟩ new nil h1 h4 h5 hlen w4 w3 hkd fk bk f1 f2 (by lia) λH9 j8 j9 j10 P9=>?_
    ·constructor
     ·exact λh=>⟨λj hj=>absurd hj (ca _),h⟩
     ·exact λh=>h.2
    ·obtain⟨us',gs',a1,a2,a3,a4,a5⟩:=P9.rest;rw[bG]at a4;have hk:=jL t';have hsz:t'.size+vn gs≤100000:=hsz;have hcons:vn ((t',NT.mk kd x src path ks,fo,ba)::gs)=t'.size+vn gs:=mv _ _;refine⟨vn gs',by rw[hcons];lia,.mk P9.same a1 a2 ?_ (by lia)⟩;rw[a5,←iff];have key:(∀j,j<t'.kids.length→Fp t' x fo ba ks j)↔G4.ok (t',NT.mk kd x src path ks,fo,ba):=by
      constructor
      ·intro h;refine lG.mk hkd hok hlen λj a n e1 e2=>h j ?_ a n e1 e2;exact(aN.mp e1).1
      ·intro h j _ a n e1 e2;exact(lG.inv.mp h).2.2.2 j a n e1 e2
     rw[key];constructor
     ·rintro⟨h1,h2⟩ g hg;rcases aB.mp hg with rfl|hg
      ·exact h1
      ·exact h2 g hg
     ·exact λh=>⟨h _ (.head _),λg hg=>h g (.tail _ hg)⟩
  have hnx:ph [V.str kd,x,.ref sp,.ref kl] 1=some x:=dW (j:=1) rfl;rcases vg t' with⟨m,rfl⟩|⟨w,rfl⟩|⟨k1,k2,hall⟩
  ·refine⟨eD.of hp,gx (.num m) kk,rfl,_,rfl,fc (by simp only[kind];decide) ?_⟩;refine⟨eD.of hp,dW (j:=1) rfl,eD.of hn7,hnx,?_⟩;have hsc:zF (V.int m) x=true:=by rcases w1 with rfl|⟨_,rfl⟩|⟨_,rfl⟩<;>rfl
   refine qS hsc (λhne=>⟨_,rfl,qc (fail _ b7 λh=>hne (lG.inv.mp h).2.1)⟩) (λheq=>⟨_,rfl,fQ ?_⟩);exact⟨eD.of hp,gx (.num m) kk,rfl,_,rfl,eN (show decide (V.str "number"=V.str "name")=false from by decide) (rest heq)⟩
  ·refine⟨eD.of hp,gx (.name w) kk,rfl,_,rfl,eN (show decide (V.str "name"=V.str "number")=false from by decide) (fQ ?_)⟩;refine⟨eD.of hp,gx (.name w) kk,rfl,_,rfl,fc (by simp only[kind];decide) ?_⟩;have hpw:ph (hd (.name w)++kk) 1=some (.str w):=dW (j:=1) rfl;refine⟨.inl ⟨_,.inl hfd⟩,eD.of hp,hpw,eD.of hp,hpw,_,iV.k (k:=.inr w) hfd,eD.of hn7,hnx,?_⟩;have hxn:=w2 hkd.symm;have hfv:(∃i,(fW fo (.inr w:fO)).getD (.str w)=.int i)∨(fW fo (.inr w:fO)).getD (.str w)=.str w:=by
    cases e:fW fo (.inr w:fO) with
    | none=>exact .inr rfl
    | some v=>obtain⟨i,rfl⟩:=fk _ _ e;exact .inl ⟨i,rfl⟩
   have hsc:zF ((fW fo (.inr w:fO)).getD (.str w)) x=true:=by rcases hfv with⟨i,e⟩|e<;>rw[e]<;>rcases w1 with rfl|⟨_,rfl⟩|⟨_,rfl⟩<;>rfl
   refine qS hsc (λhne=>⟨_,rfl,qc (fail _ b7 λh=>hne (lG.inv.mp h).2.1.1)⟩) (λheq=>⟨_,rfl,fQ ?_⟩);have dgb:iV H7 bd x (fW ba (u6 x)):=by
    rcases w1 with rfl|⟨i,rfl⟩|⟨s,rfl⟩
    ·exact absurd rfl hxn
    ·exact iV.k (k:=.inl i) hbd
    ·exact iV.k (k:=.inr s) hbd
   refine⟨.inl ⟨_,.inl hbd⟩,eD.of hn7,hnx,eD.of hp,hpw,_,dgb,eD.of hp,hpw,?_⟩;have hsc2:zF ((fW ba (u6 x)).getD (.str w)) (.str w)=true:=by
    cases e:fW ba (u6 x) with
    | none=>rfl
    | some v=>obtain⟨s,rfl⟩:=bk _ _ e;rfl
   refine qS hsc2 (λhne=>⟨_,rfl,qc (fail _ b7 λh=>hne (lG.inv.mp h).2.1.2)⟩) (λheq2=>⟨_,rfl,fQ ?_⟩);exact rest ⟨heq,heq2⟩
  ·refine⟨eD.of hp,gx t' kk,rfl,_,rfl,eN (decide_eq_false λz=>k1 (V.str.inj z)) (fQ ?_)⟩;exact⟨eD.of hp,gx t' kk,rfl,_,rfl,eN (decide_eq_false λz=>k2 (V.str.inj z)) (rest (hall _ _ _))⟩
end S3
namespace SW
open PySem L2
theorem Mv:("number":Str)≠"let":=by decide
theorem Mu:("number":Str)≠"name":=by decide
theorem Ks:("name":Str)≠"let":=by decide
theorem MX:("sum":Str)≠"let":=by decide
theorem MW:("sum":Str)≠"name":=by decide
theorem ND:("less":Str)≠"let":=by decide
theorem NC:("less":Str)≠"name":=by decide
theorem NG:("choose":Str)≠"let":=by decide
theorem NF:("choose":Str)≠"name":=by decide
theorem M3:("let":Str)≠"name":=by decide
theorem G7:("stamp":Str)≠"let":=by decide
theorem G0:("stamp":Str)≠"name":=by decide
theorem jk(hg:∀w g,giv w=some g→va g)(hk:∀n∈ks,va n):va (eX c src giv e i ks):=by
 obtain⟨t,p,o⟩:=e;cases t with
 | num n=>exact .mk (.inr (.inl ⟨_,rfl⟩)) (λh=>absurd h Mu) (λh=>absurd h Mv) hk
 | name w=>
  unfold eX;dsimp only;cases ho:o w with
  | some x=>exact .mk (.inr (.inl ⟨_,rfl⟩)) (λ_ h=>by cases h) (λh=>absurd h Ks) hk
  | none=>
   dsimp only;cases hw:giv w with
   | some g=>exact hg w g hw
   | none=>exact .mk (.inr (.inr ⟨_,rfl⟩)) (λ_ h=>by cases h) (λh=>absurd h Ks) hk
 | sum a b=>exact .mk (.inl rfl) (λh=>absurd h MW) (λh=>absurd h MX) hk
 | less a b=>exact .mk (.inl rfl) (λh=>absurd h NC) (λh=>absurd h ND) hk
 | cho a b d=>exact .mk (.inl rfl) (λh=>absurd h NF) (λh=>absurd h NG) hk
 | lt w a b=>exact .mk (.inr (.inl ⟨_,rfl⟩)) (λh=>absurd h M3) (λ_=>⟨_,rfl⟩) hk
 | st0 w=>exact .mk (.inr (.inr ⟨_,rfl⟩)) (λh=>absurd h G0) (λh=>absurd h G7) hk
 | st1 w a=>exact .mk (.inr (.inr ⟨_,rfl⟩)) (λh=>absurd h G0) (λh=>absurd h G7) hk
 | st2 w a b=>exact .mk (.inr (.inr ⟨_,rfl⟩)) (λh=>absurd h G0) (λh=>absurd h G7) hk
theorem kK(hg:∀w g,giv w=some g→va g):∀(t:T)(p:List Int)(o:Ow)(i:Nat),va (nt c src giv t p o i)
 | .num n,p,o,i=>jk hg (by intro n h;cases h)
 | .name n,p,o,i=>jk hg (by intro n h;cases h)
 | .st0 n,p,o,i=>jk hg (by intro n h;cases h)
 | .sum a b,p,o,i=>jk hg (by
  intro n h;simp only[aB,aF,or_false]at h;rcases h with rfl|rfl
  ·exact kK hg a _ _ _
  ·exact kK hg b _ _ _)
 | .less a b,p,o,i=>jk hg (by
  intro n h;simp only[aB,aF,or_false]at h;rcases h with rfl|rfl
  ·exact kK hg a _ _ _
  ·exact kK hg b _ _ _)
 | .cho a b d,p,o,i=>jk hg (by
  intro n h;simp only[aB,aF,or_false]at h;rcases h with rfl|rfl|rfl
  ·exact kK hg a _ _ _
  ·exact kK hg b _ _ _
  ·exact kK hg d _ _ _)
 | .lt w a b,p,o,i=>jk hg (by
  intro n h;simp only[aB,aF,or_false]at h;rcases h with rfl|rfl
  ·exact kK hg a _ _ _
  ·exact kK hg b _ _ _)
 | .st1 w a,p,o,i=>jk hg (by
  intro n h;simp only[aB,aF,or_false]at h;subst h;exact kK hg a _ _ _)
 | .st2 w a b,p,o,i=>jk hg (by
  intro n h;simp only[aB,aF,or_false]at h;rcases h with rfl|rfl
  ·exact kK hg a _ _ _
  ·exact kK hg b _ _ _)
theorem JV{α β:Type}{P:Nat→α→β→Prop}{a b:α}{c d:β}:(∀(j:Nat) x y,[a,b][j]?=some x→[c,d][j]?=some y→P j x y)↔P 0 a c∧P 1 b d:=by
 constructor
 ·intro h;exact⟨h 0 a c rfl rfl,h 1 b d rfl rfl⟩
 ·rintro⟨h1,h2⟩ j x y hx hy
  match j,hx,hy with
  | 0,hx,hy=>cases hx;cases hy;exact h1
  | 1,hx,hy=>cases hx;cases hy;exact h2
  | j+2,hx,_=>cases hx
theorem NJ{α β:Type}{P:Nat→α→β→Prop}{a b c:α}{d e f:β}:(∀(j:Nat) x y,[a,b,c][j]?=some x→[d,e,f][j]?=some y→P j x y)↔P 0 a d∧P 1 b e∧P 2 c f:=by
 constructor
 ·intro h;exact⟨h 0 a d rfl rfl,h 1 b e rfl rfl,h 2 c f rfl rfl⟩
 ·rintro⟨h1,h2,h3⟩ j x y hx hy
  match j,hx,hy with
  | 0,hx,hy=>cases hx;cases hy;exact h1
  | 1,hx,hy=>cases hx;cases hy;exact h2
  | 2,hx,hy=>cases hx;cases hy;exact h3
  | j+3,hx,_=>cases hx
end SW
namespace S8
open PySem L2 SW S9
structure FB(f:Fo)(b:Ba)(fo ba:DK):Prop where
 f:∀w:Str,fW fo (.inr w:fO)=(f w).map V.int
 b:∀i:Int,fW ba (.inl i:fO)=(b i).map V.str
 n:∀w:Str,fW ba (.inr w:fO)=none
theorem FB.put{f:Fo}{b:Ba}{fo ba:DK}(h:FB f b fo ba)(x:Str)(i:Int):FB (lM f x i) (mN b i x) (gH fo (.inr x:fO) (.int i)) (gH ba (.inl i:fO) (.str x)):=by
 refine⟨λw=>?_,λj=>?_,λw=>?_⟩
 ·rw[jo];by_cases e:w=x
  ·subst e;rw[if_pos rfl,yR];rfl
  ·rw[if_neg (λz=>e (Sum.inr.inj z)),lA e];exact h.f w
 ·rw[jo];by_cases e:j=i
  ·subst e;rw[if_pos rfl,ya];rfl
  ·rw[if_neg (λz=>e (Sum.inl.inj z)),pX e];exact h.b j
 ·rw[jo,if_neg (λz=>by cases z)];exact h.n w
theorem Ez(g:Gs ws f b t n):∀{fo ba:DK},FB f b fo ba→lG t n fo ba:=by
 induction g with
 | num=>exact λ_=>.mk rfl rfl rfl λj a n h=>by simp[T.kids]at h
 | bound _ e1 e2=>exact λh=>.mk rfl ⟨by rw[h.f,e1];rfl,by show(fW _ (.inl _:fO)).getD _=_;rw[h.b,e2];rfl⟩ rfl λj a n h=>by simp[T.kids]at h
 | free _ e=>exact λh=>.mk rfl ⟨by rw[h.f,e];rfl,by show(fW _ (.inr _:fO)).getD _=_;rw[h.n];rfl⟩ rfl λj a n h=>by simp[T.kids]at h
 | sum _ _ i1 i2=>exact λh=>.mk rfl aJ rfl (JV.mpr ⟨i1 h,i2 h⟩)
 | less _ _ i1 i2=>exact λh=>.mk rfl aJ rfl (JV.mpr ⟨i1 h,i2 h⟩)
 | cho _ _ _ i1 i2 i3=>exact λh=>.mk rfl aJ rfl (NJ.mpr ⟨i1 h,i2 h,i3 h⟩)
 | lt _ _ _ i1 i2=>exact λh=>.mk rfl aJ rfl (JV.mpr ⟨i1 h,i2 (h.put _ _)⟩)
theorem On:FB f0 LD [] []:=⟨λ_=>rfl,λ_=>rfl,λ_=>rfl⟩
theorem K2(g:Gs ws f b t n):t.size=gq n:=by
 induction g with
 | num=>rfl
 | bound=>rfl
 | free=>rfl
 | sum _ _ i1 i2=>simp only[T.size,gq,fN,i1,i2];lia
 | less _ _ i1 i2=>simp only[T.size,gq,fN,i1,i2];lia
 | cho _ _ _ i1 i2 i3=>simp only[T.size,gq,fN,i1,i2,i3];lia
 | lt _ _ _ i1 i2=>simp only[T.size,gq,fN,i1,i2];lia
theorem sJ(hm:va m):∀{p:List Nat}{n:NT},va n→va (iq n p m)
 | [],_,_=>hm
 | i::p,.mk k x src path ks,.mk h1 h2 h3 h4=>by
  refine .mk h1 h2 h3 λy hy=>?_;rcases cq hy with z|rfl
  ·exact h4 y z
  ·cases e:ks[i]? with
   | none=>exact hm
   | some n=>exact sJ hm (h4 n (ac e))
theorem AO:∀{p:List Nat}{n m:NT},va n→ic n p=some m→va m
 | [],n,m,h,e=>by cases n;cases e;exact h
 | i::p,.mk k x src path ks,m,.mk h1 h2 h3 h4,e=>by
  rw[ic]at e;cases e2:ks[i]? with
  | none=>rw[e2]at e;cases e
  | some n=>rw[e2]at e;exact AO (h4 n (ac e2)) e
theorem Kt(h:Ly bo t k n c):va n:=by
 induction h with
 | zero=>exact kK (λw g e=>by cases e) t [] Ow.none 0
 | @succ k n c p w src path ks giv body _ _ g1 B ih=>
  have wm:=AO ih g1;cases wm with
  | mk _ _ _ h4=>exact sJ (kK (nQ B h4) body [] Ow.none 0) ih
theorem yh(h:nV rd W):nV rd W'→W=W':=by
 induction h generalizing W' with
 | nil=>
  intro h';generalize e:([]:List (List Rw))=rd at h';cases h' with
  | nil=>rfl
  | snoc=>simp at e
 | @snoc rd W R t _ hb ih=>
  intro h';generalize e:rd++[R]=rd' at h';cases h' with
  | nil=>simp at e
  | snoc a hb2=>obtain⟨rfl,e2⟩:=ck e rfl;cases e2;have:=ih a;subst this;rw[hb]at hb2;cases hb2;rfl
theorem K5(O:xF bo ws)(ht:∀w,t.out w→w∈ws)(en:yf bo t F ws st W tt):∃n c,Ly bo t st.k n c∧fst n=none∧Gs st.ws f0 LD tt n∧mL n=(ie (W.map Prod.snd) st.R).map cv:=by
 obtain⟨n,c,W',S⟩:=sy O ht en.rch en.few;have:=yh S.wr en.wr;subst this;have tr:=S.tr;rw[en.emp]at tr;have tr:TR W' ws st.ws f0 LD (rI st.R) n:=by simpa using tr
 obtain⟨t',e,g,hs⟩:=yN tr;rw[en.out]at e;cases e;exact⟨n,c,S.ly,oS g.ns,g,hs⟩
theorem tH(h:∀x,x∈ws↔∃y∈[t,bo.x,bo.y,bo.z],y.out x):xF bo ws∧∀w,t.out w→w∈ws:=
 ⟨⟨λw z=>(h w).mpr ⟨bo.x,by simp,z⟩,λw z=>(h w).mpr ⟨bo.y,by simp,z⟩,λw z=>(h w).mpr ⟨bo.z,by simp,z⟩⟩,λw z=>(h w).mpr ⟨t,by simp,z⟩⟩
end S8
namespace S9
open PySem L2 SW
variable {K:aA}{vs:List V}{H:Hp}{Q:VK}{E:XK}{C D:Addr}
def pM:Sp:=λvs H Q _=>∃(l:Addr)(v1 v2 v3:V)(bo:Bo),vs=[.ref l]∧H l=some (.lst [v1,v2,v3])∧vX H v1 v2 v3 bo∧
 ∀(l':Addr)(w1 w2 w3:V)(H':Hp),dz H H'→H l'=none→H' l'=some (.lst [w1,w2,w3])→vX H' w1 w2 w3 bo→Q (.ref l') H'
theorem Mm(h:pM vs H Q E):MU K (gr Q) (start ["_law_book"] vs) H:=by
 obtain⟨l,v1,v2,v3,bo,rfl,hl,B,k⟩:=h
 let bs:List (Str×List Str×G):=[("star",[],gm bo.x),("sta",[qV bo.e],gm bo.y),("st",[qV bo.e,vY bo.e],gm bo.z)]
 have hget:∀(i:Nat)(x:V),[v1,v2,v3][i]?=some x→∃b,bs[i]?=some b∧kC H b.1 b.2.1 b.2.2 x:=λi x hx=>by
  match i,hx with
  | 0,hx=>cases hx;exact⟨_,rfl,B.a⟩
  | 1,hx=>cases hx;exact⟨_,rfl,B.b⟩
  | 2,hx=>cases hx;exact⟨_,rfl,B.c⟩
  | n+3,hx=>simp at hx
 refine⟨eJ.of hl,?_⟩;refine⟨λi m zs H'=>m=3-i∧i≤3∧zs.length=i∧dz H H'∧∀(j:Nat) z b,zs[j]?=some z→bs[j]?=some b→kC H' b.1 b.2.1 b.2.2 z,⟨3,by simp,aU _,rfl,λ_ _ h=>h,λj z v h=>by simp at h⟩,?_⟩;rintro i m zs H' ⟨rfl,hi,hz,s2,hw⟩;by_cases hlt:i<3
 ·refine .inr ⟨⟨_,[v1,v2,v3][i]'(by simpa using hlt),eJ.of (s2 _ _ hl),aI _⟩,λx H2 y=>?_⟩;obtain⟨e,y⟩:=y;subst e;have hx:=y _ (eJ.of (s2 _ _ hl));obtain⟨b,eb,q,p,v,rfl,h1,h2,h4⟩:=hget i x hx;have h1':=s2 _ _ h1;refine⟨eD.of h1',rfl,eD.of h1',rfl,.inl (eJ.of (s2 _ _ h2)),λp' hp'=>?_⟩;have s3:=dX (o:=.lst (b.2.1.map V.str)) hp';have g3:(upd H2 p' (.lst (b.2.1.map V.str))) p'=some (.lst (b.2.1.map V.str)):=dR;generalize upd H2 p' (.lst (b.2.1.map V.str))=H3 at s3 g3⊢;refine⟨eD.of (s3 _ _ h1'),rfl,fM,λq' hq'=>?_⟩;have s4:=dX (o:=.tup [.str b.1,.ref p',v]) hq';have s34:=s3.trans s4;refine⟨by rw[hz,sizeLine_eq];lia,3-(i+1),by lia,rfl,hlt,by simp[hz],s2.trans s34,λj z c e1 e2=>?_⟩;rcases bM j zs.length with hj|hj
  ·rw[bB hj]at e1;exact(hw j z c e1 e2).mono s34
  ·have hj2:j=i:=by have:=(aN.mp e1).1;rw[aD,aw]at this;lia
   subst hj2;rw[bL hj,hz,bJ]at e1;rw[eb]at e2;cases e2;have:z=.ref q':=by simpa using e1.symm
   exact⟨q',p',v,this,dR,s4 _ _ g3,(h4.mono (dh s2)).mono (dh s34)⟩
 ·have e:i=3:=by lia
  subst e;refine .inl ⟨⟨_,eJ.of (s2 _ _ hl),by simp⟩,by rw[hz,sizeLine_eq];lia,λl' hl'=>?_⟩
  match zs,hz with
  | [w1,w2,w3],_=>have s3:=dX (o:=.lst [w1,w2,w3]) hl';exact k l' w1 w2 w3 _ (s2.trans s3) (s2.free hl') dR ⟨(hw 0 w1 _ rfl rfl).mono s3,(hw 1 w2 _ rfl rfl).mono s3,(hw 2 w3 _ rfl rfl).mono s3⟩
theorem gS(h:∀w k,S w k→S' w k):∀{t:T},WT S t→WT S' t
 | .num _,a=>a
 | .name _,a=>a
 | .sum _ _,a=>⟨gS h a.1,gS h a.2⟩
 | .less _ _,a=>⟨gS h a.1,gS h a.2⟩
 | .cho _ _ _,a=>⟨gS h a.1,gS h a.2.1,gS h a.2.2⟩
 | .lt _ _ _,a=>⟨a.1,gS h a.2.1,gS h a.2.2⟩
 | .st0 _,a=>h _ _ a
 | .st1 _ _,a=>⟨h _ _ a.1,gS h a.2⟩
 | .st2 _ _ _,a=>⟨h _ _ a.1,gS h a.2.1,gS h a.2.2⟩
theorem sj:SF "star" 0:=if_pos rfl
theorem BN:SF "sta" 1:=by unfold SF lB;rw[if_neg Kq.symm,if_pos rfl]
theorem J2:SF "st" 2:=by unfold SF lB;rw[if_neg Fm.symm,if_neg Ko.symm,if_pos rfl]
theorem x9(h:vT w k):SF w k:=by
 rcases h with⟨rfl,rfl⟩|⟨rfl,rfl⟩|⟨rfl,rfl⟩
 ·exact J2
 ·exact BN
 ·exact sj
theorem FT(h:Jd w k):SF w k:=by
 rcases h with⟨rfl,rfl⟩|⟨rfl,rfl⟩
 ·exact sj
 ·exact BN
theorem FU(h:Je w k):SF w k:=by obtain⟨rfl,rfl⟩:=h;exact sj
theorem vq(h:SF w k):w.length≤1000:=by
 unfold SF lB at h;split at h
 ·rename_i e;subst e;decide
 ·split at h
  ·rename_i e;subst e;decide
  ·split at h
   ·rename_i e;subst e;decide
   ·cases h
def FI(P:G→Prop)(g:G):Prop:=∀x,xH x g→P x
theorem FI.mk(h:P g)(k:∀x∈g.kids,FI P x):FI P g:=λx i=>by
 cases i with
 | refl=>exact h
 | kid hk i=>exact k _ hk x i
def Sh(g:G):Prop:=∀k w ks,g=.word k w ks→w.length≤1000
theorem jQ:∀{t:T},WT SF t→FI (λg=>Ji g∧Sh g) (gm t)
 | .num n,a=>.mk ⟨aJ,λ_ _ _ e=>by cases e⟩ (λx hx=>by simp[gm,G.kids]at hx)
 | .name n,a=>.mk ⟨aJ,λ_ _ _ e=>by cases e⟩ (λx hx=>by simp[gm,G.kids]at hx)
 | .sum p q,a=>.mk ⟨aJ,λ_ _ _ e=>by cases e⟩ (λx hx=>by
  simp only[gm,G.kids,aB,aF,or_false]at hx;rcases hx with rfl|rfl
  ·exact jQ a.1
  ·exact jQ a.2)
 | .less p q,a=>.mk ⟨aJ,λ_ _ _ e=>by cases e⟩ (λx hx=>by
  simp only[gm,G.kids,aB,aF,or_false]at hx;rcases hx with rfl|rfl
  ·exact jQ a.1
  ·exact jQ a.2)
 | .cho p q r,a=>.mk ⟨aJ,λ_ _ _ e=>by cases e⟩ (λx hx=>by
  simp only[gm,G.kids,aB,aF,or_false]at hx;rcases hx with rfl|rfl|rfl
  ·exact jQ a.1
  ·exact jQ a.2.1
  ·exact jQ a.2.2)
 | .lt w p q,a=>.mk ⟨λe=>absurd e (by decide),λ_ _ _ e=>by cases e;have:=a.1.few;lia⟩ (λx hx=>by
  simp only[gm,G.kids,aB,aF,or_false]at hx;rcases hx with rfl|rfl
  ·exact jQ a.2.1
  ·exact jQ a.2.2)
 | .st0 w,a=>.mk ⟨λ_=>a,λ_ _ _ e=>by cases e;exact vq a⟩ (λx hx=>by simp[gm,G.kids]at hx)
 | .st1 w p,a=>.mk ⟨λ_=>a.1,λ_ _ _ e=>by cases e;exact vq a.1⟩ (λx hx=>by
  simp only[gm,G.kids,aB,aF,or_false]at hx;subst hx;exact jQ a.2)
 | .st2 w p q,a=>.mk ⟨λ_=>a.1,λ_ _ _ e=>by cases e;exact vq a.1⟩ (λx hx=>by
  simp only[gm,G.kids,aB,aF,or_false]at hx;rcases hx with rfl|rfl
  ·exact jQ a.2.1
  ·exact jQ a.2.2)
theorem IH(h:kS H s v):Fy H v:=by obtain⟨q,pp,e,h1,h2⟩:=h;refine⟨q,pp,s.1,s.2.map λi:Nat=>(i:Int),e,h1,?_⟩;rw[h2,cG];rfl
theorem Ct:∀{as:List α}{vs:List V}{v:V},Al A as vs→v∈vs→∃a,A a v
 | _,_,_,.cons h r,m=>by
  rcases aB.mp m with rfl|m
  ·exact⟨_,h⟩
  ·exact Ct r m
end S9
namespace S9
open PySem L2 SW
variable {K:aA}{vs:List V}{H:Hp}{Q:VK}{E:XK}{C D Ns Nn Np Se:Addr}
theorem rh(h:qx H l (w,ps,t) u):kC H w ps (gm t) u:=by obtain⟨q,p,v,e,h1,h2,_,h4⟩:=h;exact⟨q,p,v,e,h1,h2,jX h4⟩
end S9
namespace S8
open PySem L2 SW S9
variable {K:aA}{vs:List V}{H:Hp}{Q:VK}{E:XK}{C D:Addr}
theorem FV(h:WT S0 t):WT SF t:=gS (λw k z=>z.elim) h
theorem pU(w:WT SF t)(h:t.size≤n)(hn:n≤100):(gm t).size≤5000∧∀x,xH x (gm t)→Ji x:=⟨by rw[gy];lia,λx i=>(jQ w x i).1⟩
theorem Cr(B:xK bo)(w:WT SF t)(hz:t.size≤40)(hK:∀j n c,Ly bo t j n c→j≤F→j≤10):yg bo t F:=by
 have bt:∀(u:T)(n:Nat),WT SF u→u.size≤40→n≤2→BT u [] n:=λu n hw hz hn=>by have:=u.names_len;exact⟨hw,by simp;lia,by lia,by lia,by lia⟩
 have w1:=FV B.w1;have w2:WT SF bo.y:=gS (λw k=>FU) B.w2;have w3:WT SF bo.z:=gS (λw k=>FT) B.w3;have z1:=B.z1;have z2:=B.z2.1;have z3:=B.z3.1;have bk:uK bo:=⟨bt _ _ w1 (by lia) (by lia),bt _ _ w2 (by lia) (by lia),bt _ _ w3 (by lia) (by lia)⟩;have bm:BT t [] 0:=bt _ _ w hz (by lia);refine⟨bk,bm,λws hws hiff st r hk=>?_⟩;obtain⟨O,ht⟩:=tH hiff;exact BL (k:=0) B bk w bm O ht hz hws hK r hk
theorem JL(ly:Ly bo t k n c)(hk:k≤m)(h:k≤F→fst n=none):∀j n' c',Ly bo t j n' c'→j≤F→j≤m:=λj n' c' l hj=>by
 by_cases e:k≤F
 ·exact aY (ly.le_end l (h e)) hk
 ·lia
theorem Es(ly:Ly bo t k n c)(h:k≤F→fst n=none)(hws:∀x,x∈ws↔∃y∈[t,bo.x,bo.y,bo.z],y.out x)(r:uM bo F (st0 t ws) st)(hF:F<st.k):F<k:=by
 obtain⟨O,ht⟩:=tH hws;obtain⟨j,n',c',p,ly2,hj,hp⟩:=Be O ht r hF;rcases bM F k with z|z
 ·exact z
 ·have hn:=h z;have h1:=ly.le_end ly2 hn;have:j=k:=by lia
  subst this;obtain⟨rfl,_⟩:=ly.uniq ly2;rw[hn]at hp;cases hp
theorem E7(ly:Ly bo t k n c)(h:k≤F→fst n=none)(en:yf bo t F ws st W tt):k≤F∧st.k=k∧Gs st.ws f0 LD tt n∧mL n=(ie (W.map Prod.snd) st.R).map cv:=by
 obtain⟨O,ht⟩:=tH en.ws_;obtain⟨n',c',ly2,hn2,g,hs⟩:=K5 O ht en;have h1:=ly2.le_end ly hn2;have hk:k≤F:=aY h1 en.few;have h2:=ly.le_end ly2 (h hk);have e:st.k=k:=by lia
 rw[e]at ly2;obtain⟨rfl,_⟩:=ly.uniq ly2;exact⟨hk,e,g,hs⟩
end S8
namespace S8
open PySem L2 SW S9
structure Lp(P:Str→Prop)(z:Str)(g g':Gi)(l:List Str)(o o':Ow):Prop where
 own:∀w∈l,o' (w++z)=o w∧(o w=none→g' (w++z)=g w∧g w≠none)
 out:∀w,w∉l→o w=none∧g w=none
 free:∀w,P w→o' w=none∧g' w=none
theorem Lp.put(hz:∀w v:Str,w++z=v++z→w=v)(hP:∀w,¬P (w++z))(R:Lp P z g g' l o o')(w:Str)(x:Int):Lp P z g g' (l++[w]) (o.put w x) (o'.put (w++z) x) where
 own v hv:=by
  unfold Ow.put;by_cases e:v=w
  ·subst e;rw[if_pos rfl,if_pos rfl];exact⟨rfl,nofun⟩
  ·rw[if_neg e,if_neg λh=>e (hz _ _ h)];exact R.own v (by simpa[e]using hv)
 out v hv:=by have h1:v∉l:=λh=>hv (ag _ h);have h2:v≠w:=λh=>hv (by simp[h]);unfold Ow.put;rw[if_neg h2];exact R.out v h1
 free v hv:=by unfold Ow.put;rw[if_neg (λ(h:v=w++z)=>hP w (h▸hv))];exact R.free v hv
theorem jw(hz:∀w v:Str,w++z=v++z→w=v)(hP:∀w,¬P (w++z))(c:Int)(src:Str):∀(t:T)(l:List Str)(p:List Int)(o o':Ow)(i:Nat),Lp P z g g' l o o'→jZ P t→nt c src g' (jH z l t) p o' i=nt c src g t p o i
 | .num n,l,p,o,o',i,R,w=>rfl
 | .name v,l,p,o,o',i,R,w=>by
  rw[jH];by_cases h:v∈l
  ·rw[if_pos h];obtain⟨h1,h2⟩:=R.own v h;cases e:o v with
   | none=>
    obtain⟨h3,h4⟩:=h2 e;rw[e]at h1;cases eg:g v with
    | none=>exact absurd eg h4
    | some n=>rw[eg]at h3;simp only[nt,eX,h1,e,h3,eg]
   | some x=>rw[e]at h1;simp only[nt,eX,h1,e]
  ·rw[if_neg h];obtain⟨h1,h3⟩:=R.out v h;obtain⟨h2,h4⟩:=R.free v w;simp only[nt,eX,h1,h2,h3,h4]
 | .sum a b,l,p,o,o',i,R,w=>by simp only[jH,nt,eX,gG,jw hz hP c src a l _ o o' _ R w.1,jw hz hP c src b l _ o o' _ R w.2]
 | .less a b,l,p,o,o',i,R,w=>by simp only[jH,nt,eX,gG,jw hz hP c src a l _ o o' _ R w.1,jw hz hP c src b l _ o o' _ R w.2]
 | .cho a b d,l,p,o,o',i,R,w=>by simp only[jH,nt,eX,gG,jw hz hP c src a l _ o o' _ R w.1,jw hz hP c src b l _ o o' _ R w.2.1,jw hz hP c src d l _ o o' _ R w.2.2]
 | .lt v a b,l,p,o,o',i,R,w=>by simp only[jH,nt,eX,gG,jw hz hP c src a l _ o o' _ R w.2.1,jw hz hP c src b (l++[v]) _ _ _ _ (R.put hz hP v _) w.2.2]
 | .st0 v,l,p,o,o',i,R,w=>rfl
 | .st1 v a,l,p,o,o',i,R,w=>by simp only[jH,nt,eX,gG,jw hz hP c src a l _ o o' _ R w]
 | .st2 v a b,l,p,o,o',i,R,w=>by simp only[jH,nt,eX,gG,jw hz hP c src a l _ o o' _ R w.1,jw hz hP c src b l _ o o' _ R w.2]
theorem iz(z:Str):∀(o:List Str)(t:T),(jH z o t).names.length=t.names.length
 | _,.num n=>rfl
 | o,.name w=>by rw[jH];split<;>rfl
 | o,.sum a b=>by simp only[jH,T.names,aD,iz z]
 | o,.less a b=>by simp only[jH,T.names,aD,iz z]
 | o,.cho a b c=>by simp only[jH,T.names,aD,iz z]
 | o,.lt w a b=>by simp only[jH,T.names,aD,iz z]
 | _,.st0 w=>rfl
 | o,.st1 w a=>by simp only[jH,T.names,iz z]
 | o,.st2 w a b=>by simp only[jH,T.names,aD,iz z]
theorem Fe:(("q":Str)).cps = #[113]:=by decide
theorem yd(w:Str):(w++("q":Str)).cps.toList=w.cps.toList++[113]:=by show(w.cps++(("q":Str)).cps).toList=_;rw[Fe,br]
theorem Bl(w v:Str)(h:w++("q":Str)=v++"q"):w=v:=by have e:(w++("q":Str)).cps.toList=(v++("q":Str)).cps.toList:=congrArg (λx:Str=>x.cps.toList) h;rw[yd,yd]at e;have e:=List.append_cancel_right e;obtain⟨w⟩:=w;obtain⟨v⟩:=v;exact congrArg Str.mk (Array.toList_inj.mp e)
abbrev Nq(w:Str):Prop:=w.cps.toList.getLast?≠some 113
theorem CC(w:Str):¬Nq (w++("q":Str)):=λh=>h (by rw[yd,dE];simp)
theorem BP:("sab":Str)++("q":Str)=qV true:=by decide
theorem GJ:("tab":Str)++("q":Str)=vY true:=by decide
abbrev bq(x y z:T):Bo:=⟨true,jH "q" [] x,jH "q" ["sab"] y,jH "q" ["sab","tab"] z⟩
structure Nd(x y z:T):Prop where
 x:jZ Nq x
 y:jZ Nq y
 z:jZ Nq z
theorem LC(h:Nd x y z)(B:xM ⟨false,x,y,z⟩ w ks g b):∃g' b',xM (bq x y z) w ks g' b'∧b'.size=b.size∧∀c,nt c w g' b' [] Ow.none 0=nt c w g b [] Ow.none 0:=by
 have nA:∀v,Nq v→v≠qV true:=λv hv e=>CC "sab" (by rw[BP,←e];exact hv);have nB:∀v,Nq v→v≠vY true:=λv hv e=>CC "tab" (by rw[GJ,←e];exact hv);cases B with
 | star=>exact⟨_,_,.star,gG _ _ _,λc=>jw (P:=Nq) Bl CC c _ x [] [] _ _ 0 ⟨λw h=>by simp at h,λ_ _=>⟨rfl,rfl⟩,λ_ _=>⟨rfl,rfl⟩⟩ h.x⟩
 | @sta n=>refine⟨_,_,.sta,gG _ _ _,λc=>jw (P:=Nq) Bl CC c _ y ["sab"] [] _ _ 0 ⟨λw hw=>?_,λv hv=>⟨rfl,if_neg λe=>hv (by rw[e];exact .head _)⟩,λv hv=>⟨rfl,if_neg (nA v hv)⟩⟩ h.y⟩;rw[aG]at hw;subst hw;refine⟨rfl,λ_=>?_⟩;have e1:Ey true n ("sab"++"q")=some n:=if_pos BP;have e2:Ey false n "sab"=some n:=if_pos rfl;exact⟨e1.trans e2.symm,λz=>by rw[e2]at z;cases z⟩
 | @st n m=>
  refine⟨_,_,.st,gG _ _ _,λc=>jw (P:=Nq) Bl CC c _ z ["sab","tab"] [] _ _ 0 ⟨λw hw=>?_,λv hv=>⟨rfl,?_⟩,λv hv=>⟨rfl,?_⟩⟩ h.z⟩
  ·refine⟨rfl,λ_=>?_⟩;simp only[aB,aF,or_false]at hw;rcases hw with rfl|rfl
   ·have e1:tV true n m ("sab"++"q")=some n:=if_pos BP;have e2:tV false n m "sab"=some n:=if_pos rfl;exact⟨e1.trans e2.symm,λz=>by rw[e2]at z;cases z⟩
   ·have e1:tV true n m ("tab"++"q")=some m:=by unfold tV;rw[GJ,if_neg (zT true).symm,if_pos rfl]
    have e2:tV false n m "tab"=some m:=by unfold tV;rw[if_neg (show("tab":Str)≠qV false from(zT false).symm),if_pos (show("tab":Str)=vY false from rfl)]
    exact⟨e1.trans e2.symm,λz=>by rw[e2]at z;cases z⟩
  ·show tV false n m v=none;unfold tV;rw[if_neg λe=>hv (by rw[e];exact .head _),if_neg λe=>hv (by rw[e];exact .tail _ (.head _))]
  ·show tV true n m v=none;unfold tV;rw[if_neg (nA v hv),if_neg (nB v hv)]
theorem Mw(h:Nd x y z)(l:Ly ⟨false,x,y,z⟩ t k n c):Ly (bq x y z) t k n c:=by
 induction l with
 | zero=>exact .zero
 | succ _ f g B ih=>obtain⟨g',b',B',hs,e⟩:=LC h B;have:=Ly.succ ih f g B';rw[e,hs]at this;exact this
theorem AQ(h:Wg w):Wd (w++("q":Str)):=by
 have en:(w++("q":Str)).length=w.length+1:=by show(w.cps++(("q":Str)).cps).size=_;rw[Fe];simp[Str.length]
 have:=h.sh;refine⟨by lia,by lia,λc hc=>?_⟩;rw[yd]at hc;rcases aW.mp hc with q|q
 ·exact h.wd.abc c q
 ·have:c=113:=by simpa using q
  lia
theorem jp:∀{t:T}{l:List Str},WG S t→WT S (jH "q" l t)
 | .num _,_,h=>h
 | .name w,l,h=>by
  rw[jH];split
  ·exact AQ h
  ·exact Wg.wd h
 | .sum _ _,_,h=>⟨jp h.1,jp h.2⟩
 | .less _ _,_,h=>⟨jp h.1,jp h.2⟩
 | .cho _ _ _,_,h=>⟨jp h.1,jp h.2.1,jp h.2.2⟩
 | .lt _ _ _,_,h=>⟨AQ h.1,jp h.2.1,jp h.2.2⟩
 | .st0 _,_,h=>h
 | .st1 _ _,_,h=>⟨h.1,jp h.2⟩
 | .st2 _ _ _,_,h=>⟨h.1,jp h.2.1,jp h.2.2⟩
theorem jh{P:Str→Prop}(hP:∀w,Wg w→P w):∀{t:T},WG S t→jZ P t
 | .num _,_=>trivial
 | .name _,h=>hP _ h
 | .sum _ _,h=>⟨jh hP h.1,jh hP h.2⟩
 | .less _ _,h=>⟨jh hP h.1,jh hP h.2⟩
 | .cho _ _ _,h=>⟨jh hP h.1,jh hP h.2.1,jh hP h.2.2⟩
 | .lt _ _ _,h=>⟨hP _ h.1,jh hP h.2.1,jh hP h.2.2⟩
 | .st0 _,_=>trivial
 | .st1 _ a,h=>jh (t:=a) hP h.2
 | .st2 _ _ _,h=>⟨jh hP h.2.1,jh hP h.2.2⟩
structure DD(x y z:T):Prop where
 wx:WG S0 x
 wy:WG Je y
 wz:WG Jd z
 zx:x.size≤4
 zy:y.size≤8∧y.names.length≤4
 zz:z.size≤10∧z.names.length≤5
theorem DD.ok(h:DD x y z):xK ⟨false,x,y,z⟩:=⟨uP h.wx,uP h.wy,uP h.wz,h.zx,h.zy,h.zz⟩
theorem DD.okq(h:DD x y z):xK (bq x y z):=⟨jp h.wx,jp h.wy,jp h.wz,by show(jH "q" _ _).size≤_;rw[gG];exact h.zx,by show(jH "q" _ _).size≤_∧(jH "q" _ _).names.length≤_;rw[gG,iz];exact h.zy,by show(jH "q" _ _).size≤_∧(jH "q" _ _).names.length≤_;rw[gG,iz];exact h.zz⟩
theorem DD.w(h:DD x y z):Nd x y z:=⟨jh (λ_ z=>z.gd.2) h.wx,jh (λ_ z=>z.gd.2) h.wy,jh (λ_ z=>z.gd.2) h.wz⟩
end S8
namespace L2
open PySem PySem.Spec PyProof.Rows SW
mutual
inductive Lk(H:Hp):Nat→Nat→V→V→Prop where
 | str{d:Nat}{s:Str}:Lk H d 1 (.str s) (.str s)
 | int{d:Nat}{i:Int}:Lk H d 1 (.int i) (.int i)
 | lst{d:Nat}{ws:List Nat}{p q:Addr}{xs ys:List V}:H p=some (.lst xs)→H q=some (.lst ys)→AC H d ws xs ys→Lk H (d+1) (ws.sum+1) (.ref p) (.ref q)
 | tup{d:Nat}{ws:List Nat}{p q:Addr}{xs ys:List V}:H p=some (.tup xs)→H q=some (.tup ys)→AC H d ws xs ys→Lk H (d+1) (ws.sum+1) (.ref p) (.ref q)
inductive AC(H:Hp):Nat→List Nat→List V→List V→Prop where
 | nil{d:Nat}:AC H d [] [] []
 | cons{d w:Nat}{ws:List Nat}{x y:V}{xs ys:List V}:Lk H d w x y→AC H d ws xs ys→AC H d (w::ws) (x::xs) (y::ys)
end
theorem AC.len:∀{ws:List Nat}{xs ys:List V},AC H d ws xs ys→xs.length=ws.length∧ys.length=ws.length
 | _,_,_,.nil=>⟨rfl,rfl⟩
 | _,_,_,.cons _ r=>⟨congrArg (·+1) r.len.1,congrArg (·+1) r.len.2⟩
theorem AC.get:∀{ws:List Nat}{xs ys:List V}{i:Nat}{x y:V},AC H d ws xs ys→xs[i]?=some x→ys[i]?=some y→∃w,ws[i]?=some w∧Lk H d w x y
 | _,_,_,0,_,_,.cons a r,h,k=>by cases h;cases k;exact⟨_,rfl,a⟩
 | _,_,_,i+1,_,_,.cons a r,h,k=>AC.get (i:=i) r h k
section
variable {X:Cx}{pins:List (Addr×Obj)}{σ:St}{H:Hp}{s:Shared}
theorem tW(I:eZ X pins σ H s):∀(d:Nat){w:Nat}{x y:V}{u v:Value}{A:Around},A.units+d<cLine→Lk H d w x y→fT x u→fT y v→SeqAt.EqAt A s u v true
 | d,_,_,_,_,_,_,_,.str,r1,r2=>rY (.inr ⟨_,rfl⟩) r1 r2
 | d,_,_,_,_,_,_,_,.int,r1,r2=>rY (.inl ⟨_,rfl⟩) r1 r2
 | d+1,_,_,_,_,_,A,hu,.lst (p:=p) (q:=q) (xs:=xs) (ys:=ys) h1 h2 l,r1,r2=>by
  cases r1;cases r2;by_cases e:p=q
  ·subst e;exact SeqAt.EqAt.same _
  ·obtain⟨i1,rr1,p1,_⟩:=I.list (eJ.of h1);obtain⟨i2,rr2,p2,_⟩:=I.list (eJ.of h2);have l1:=rr1.length;have l2:=rr2.length;have ll:=l.len;have hm:=SeqAt.RcAt.lists (A:=A) (s:=s) (e:=λ_=>true) p1.isList p2.isList (by simp only[aL];lia) (by lia) λj h1 h2=>by
    have h1':j<i1.length:=by simpa using h1
    have h2':j<i2.length:=by simpa using h2
    have hx1:j<xs.length:=by lia
    have hx2:j<ys.length:=by lia
    obtain⟨w1,gw1,rw1⟩:=rr1.get (aI hx1);obtain⟨w2,gw2,rw2⟩:=rr2.get (aI hx2);obtain⟨w,_,k⟩:=l.get (aI hx1) (aI hx2);rw[aI h1']at gw1;rw[aI h2']at gw2;cases gw1;cases gw2;simp only[cr];exact tW I d (A:=A.in1) (by show A.units+1+d<cLine;lia) k rw1 rw2
   have ha:(List.range i1.toArray.size).all (λ_=>true)=true:=by simp
   rw[ha]at hm;exact SeqAt.EqAt.of_refs e hm
 | d+1,_,_,_,_,_,A,hu,.tup (p:=p) (q:=q) (xs:=xs) (ys:=ys) h1 h2 l,r1,r2=>by
  cases r1;cases r2;by_cases e:p=q
  ·subst e;exact SeqAt.EqAt.same _
  ·obtain⟨i1,rr1,p1,_⟩:=I.tuple (eD.of h1);obtain⟨i2,rr2,p2,_⟩:=I.tuple (eD.of h2);have l1:=rr1.length;have l2:=rr2.length;have ll:=l.len;have hm:=SeqAt.RcAt.tuples (A:=A) (s:=s) (e:=λ_=>true) (CT p1) (CT p2) (by lia) λj h1 h2=>by
    have h1':j<i1.length:=by simpa using h1
    have h2':j<i2.length:=by simpa using h2
    have hx1:j<xs.length:=by lia
    have hx2:j<ys.length:=by lia
    obtain⟨w1,gw1,rw1⟩:=rr1.get (aI hx1);obtain⟨w2,gw2,rw2⟩:=rr2.get (aI hx2);obtain⟨w,_,k⟩:=l.get (aI hx1) (aI hx2);rw[aI h1']at gw1;rw[aI h2']at gw2;cases gw1;cases gw2;simp only[cr];exact tW I d (A:=A.in1) (by show A.units+1+d<cLine;lia) k rw1 rw2
   have hs:i1.length=i2.length:=by lia
   have ha:((List.range (min i1.toArray.size i2.toArray.size)).all (λ_=>true)&&i1.toArray.size==i2.toArray.size)=true:=by simp[hs]
   rw[ha]at hm;exact SeqAt.EqAt.of_refs e hm
end
section
variable {X:Cx}
def Fb:R2:=λx y H Q=>∃p q d w xs ys,x=.ref p∧y=.ref q∧H p=some (.lst xs)∧H q=some (.lst ys)∧AC H d w xs ys∧d≤9∧Q (.bl false) H
theorem Ef(hu:X.A.units+64<cLine):mf X (compareOp .NotEq) Fb:=by
 intro pins s σ H x y v u Q I rx ry h;obtain⟨p,q,d,w,xs,ys,rfl,rfl,h1,h2,l,hd,k⟩:=h;cases rx;cases ry;obtain⟨i1,rr1,p1,_⟩:=I.list (eJ.of h1);obtain⟨i2,rr2,p2,_⟩:=I.list (eJ.of h2);have l1:=rr1.length;have l2:=rr2.length;have ll:=l.len;have hm:=SeqAt.RcNeAt.lists (A:=X.A) (s:=s) (e:=λ_=>true) p1.isList p2.isList (by simp only[aL];lia) (by lia) λj h1 h2=>by
  have h1':j<i1.length:=by simpa using h1
  have h2':j<i2.length:=by simpa using h2
  have hx1:j<xs.length:=by lia
  have hx2:j<ys.length:=by lia
  obtain⟨w1,gw1,rw1⟩:=rr1.get (aI hx1);obtain⟨w2,gw2,rw2⟩:=rr2.get (aI hx2);obtain⟨w,_,k⟩:=l.get (aI hx1) (aI hx2);rw[aI h1']at gw1;rw[aI h2']at gw2;cases gw1;cases gw2;simp only[cr];exact tW I d (A:=X.A.in1) (by show X.A.units+1+d<cLine;lia) k rw1 rw2
 have ha:(List.range i1.toArray.size).all (λ_=>true)=true:=by simp
 rw[ha]at hm;exact hm X.prog X.w X.xe _ ⟨.bl false,H,I,rfl,k⟩
def Fd(K:aA):R2:=λx y H Q=>onR x λl=>onR y λb=>lP (eJ K H l) λxs=>lP (eJ K H b) λzs=>xs.length+zs.length≤sizeLine∧k6 H (.lst (xs++zs)) Q
theorem Eh:mf X (binaryOp .Add) (Fd X.K):=by
 intro pins s σ H x y v u Q I rx ry h;obtain⟨l,rfl,h⟩:=onR.ex h;obtain⟨b,rfl,h⟩:=onR.ex h;obtain @⟨xs,hH,h⟩:=h;obtain @⟨zs,hB,hz,q⟩:=h;cases rx;cases ry;obtain⟨its,r,⟨⟨_,_,_⟩,n,e,hc,hd,hs⟩,hl⟩:=I.list hH;obtain⟨its2,r2,⟨⟨_,_,_⟩,n2,e2,hc2,hd2,hs2⟩,hl2⟩:=I.list hB;cases hc;cases hd;cases hs;cases hc2;cases hd2;cases hs2;have h1:=r.length;have h2:=r2.length;have hsz:its.toArray.size+its2.toArray.size≤sizeLine:=by rw[aL,aL];lia
 refine concat_meets ⟨_,e,rfl⟩ ⟨_,e2,rfl⟩ noFill_list_add seq_list_add PySem.F.slot_list_add PySem.F.entry_list_add (PySem.F.args_list_add_2 _ _) (list_addW l b its.toArray its2.toArray n n2 _ _ _ _ hsz) ⟨e,e2,?_⟩;have ea:its.toArray++its2.toArray=(its++its2).toArray:=by simp
 rw[ea];exact⟨.ref _,_,I.lnew (t':=s.toks) (r.append r2) (by rw[aD];lia),rfl,q _ I.fresh⟩
end
end L2
namespace L2
open PySem PySem.Spec PyProof.Rows
def gR(K:aA)(x qual:Str)(st:Stmt)(f:Addr):Prop:=∃fd,GC K x qual st f fd
theorem Mt{K:aA}{x qual:Str}{st:Stmt}{f:Addr}{oc:Value}{od an:Option Addr}{osl:Array (Option Value)}{kV doc pm cdv ct:Value}(l:K.lookup f=some ⟨oc,od,.func (PySem.W.fnOf x qual (lC st) (iI st) (fI st) .none kV doc pm an cdv ct),osl⟩)
  (c:PySem.W.codeIn K cdv qual=true) (k:PySem.W.keepIn K (.ref f)=true):gR K x qual st f:=⟨_,JJ l c k⟩
structure Ds(P:Program)(w:World)(K:aA)(mg:Str→Option Value)(base:Heap)(k:Nat)(f:Addr)(ps:List Str)(sp:Sp):Prop where
 ex:∃fd,lu P w K mg base vb k f fd ps sp∧ng K fd ps []
 kp:PySem.W.keepIn K (.ref f)=true
section
variable {P:Program}{w:World}{K:aA}{mg:Str→Option Value}{base:Heap}{x qual:Str}{st:Stmt}{f:Addr}{N ps:List Str}{k:Nat}{sp sp':Sp}
theorem Ds.imp(D:Ds P w K mg base k f ps sp)(h:∀vs H Q E,sp' vs H Q E→sp vs H Q E):Ds P w K mg base k f ps sp':=by obtain⟨⟨fd,F,b⟩,kp⟩:=D;exact⟨⟨fd,F.imp h,b⟩,kp⟩
theorem jn(F:gR K x qual st f)
  (hbody:∀(cdv:Value)(A:Around)(outer:List Env)(s:Shared)(H:Hp)(vs:List V)(Q:VK)(E:XK),N.Nodup→iy k (A.deeper (envOfC qual (fI st) s.heap.objs.size f cdv))→sp vs H Q E→
   ∃t,uH (oU vb P w K mg base N qual (fI st) f cdv A outer s H E).nox (iI st) t∧t {nx:=λ_ H'=>Q .non H',rt:=Q} (start N vs) H)
  (S:nY N ps (fI st):=by exact⟨rfl,rfl,rfl,by decide,rfl,by decide,by decide⟩)
  (hb:∀(kV doc pm:Value)(an:Option Addr)(cdv ct:Value)(us:List Value),us.length=ps.length→bindArgs (PySem.W.fnOf x qual (lC st) (iI st) (fI st) .none kV doc pm an cdv ct) ⟨us,[]⟩=pure (ps.zip us):=by intro _ _ _ _ _ _ us hl;first|(match us,hl with|[_],_=>rfl)|(match us,hl with|[_,_],_=>rfl)|(match us,hl with|[_,_,_],_=>rfl)|(match us,hl with|[_,_,_,_],_=>rfl))
  (len:∀vs H Q E,sp vs H Q E→vs.length=ps.length:=by intro vs H Q E h;first|(cases h;rfl;done)|(repeat (first|(obtain⟨rfl,_⟩:=h;rfl)|obtain⟨_,h⟩:=h))):Ds P w K mg base (k+1) f ps sp:=by
 obtain⟨fd,F⟩:=F;exact⟨⟨fd,F.ok S len λcdv A outer s H vs Q E=>hbody cdv A outer s H vs Q E S.nd,F.binds hb⟩,F.kp⟩
theorem Oj(F:GC K x qual st f fd)
  (hbody:∀(cdv:Value)(A:Around)(outer:List Env)(s:Shared)(H:Hp)(vs:List V)(Q:VK)(E:XK),N.Nodup→iy k (A.deeper (envOfC qual (fI st) s.heap.objs.size f cdv))→sp vs H Q E→
   ∃t,uH (oU vb P w K mg base N qual (fI st) f cdv A outer s H E).nox (iI st) t∧t {nx:=λ_ H'=>Q .non H',rt:=Q} (start N vs) H)
  (S:nY N ps (fI st):=by exact⟨rfl,rfl,rfl,by decide,rfl,by decide,by decide⟩)
  (len:∀vs H Q E,sp vs H Q E→vs.length=ps.length:=by intro vs H Q E h;first|(cases h;rfl;done)|(repeat (first|(obtain⟨rfl,_⟩:=h;rfl)|obtain⟨_,h⟩:=h))):lu P w K mg base vb (k+1) f fd ps sp:=
 F.ok S len λcdv A outer s H vs Q E=>hbody cdv A outer s H vs Q E S.nd
theorem K8(F:gR K x qual st f)
  (h:∀vs H Q E,sp vs H Q E→vs.length=ps.length∧False)
  (hb:∀(kV doc pm:Value)(an:Option Addr)(cdv ct:Value)(us:List Value),us.length=ps.length→bindArgs (PySem.W.fnOf x qual (lC st) (iI st) (fI st) .none kV doc pm an cdv ct) ⟨us,[]⟩=pure (ps.zip us):=by intro _ _ _ _ _ _ us hl;first|(match us,hl with|[_],_=>rfl)|(match us,hl with|[_,_],_=>rfl)|(match us,hl with|[_,_,_],_=>rfl)|(match us,hl with|[_,_,_,_],_=>rfl)):Ds P w K mg base k f ps sp:=by
 obtain⟨fd,F⟩:=F;exact⟨⟨fd,⟨λvs H Q E z=>(h vs H Q E z).1,λA outer s H args us vs Q E _ _ _ _ z=>(h _ _ _ _ z).2.elim⟩,F.binds hb⟩,F.kp⟩
end
section
variable {X:Cx}{k n:Nat}{f C:Addr}{ps:List Str}{sp:Sp}{x m:Str}{e a b o:Expr}{es:List Expr}{t:TA}{ta tb te:TE}{p pos apos:Pos}
theorem pc(D:Ds X.prog X.w X.K X.mg X.base k f ps sp)(hr:iy n X.A)(hm:X.mg x=some (.ref f))(ha:PA X (e::es) t)(hk:k≤n:=by decide)(hg:Gl X x:=by rfl)(hdb:(x==("__debug__":Str))=false:=by decide)(he:starEach (e::es) X.env=(false,eval e X.env)::starEach es X.env:=by rfl)(hpl:(backTo pos (starEach es X.env)).any (·.1)=false:=by rfl):
  PE X (.Call (.Name x p) (e::es) [] pos) (eY sp [] E0 t):=by
 obtain⟨⟨fd,F,bd⟩,kp⟩:=D;exact Ea F (hr.mono hk) hg hm kp bd .nil Bw ha hdb he hpl
theorem pm(he:PE X o ta)(c:xJ X.K C)(hm:lq X.K C m f)(D:Ds X.prog X.w X.K X.mg X.base k f ps sp)(hr:iy n X.A)(ha:PA X (e::es) t)(hk:k≤n:=by decide)
  (hst:starEach (e::es) X.env=(false,eval e X.env)::starEach es X.env:=by rfl) (hpl:(backTo pos (starEach es X.env)).any (·.1)=false:=by rfl)
  (ht:eval (.Call (.Attribute o m apos) (e::es) [] pos) X.env=(do
   let ov ← eval o X.env
   standAt apos.atName
   let (f,first) ← holding [ov] (getMethod ov m pl)
   callWith pos f first (backTo pos (starEach (e::es) X.env)) (backToKw pos (keywordEach [] X.env))):=by rfl):PE X (.Call (.Attribute o m apos) (e::es) [] pos) (kG C m sp [] E0 ta t):=by
 obtain⟨⟨fd,F,bd⟩,kp⟩:=D;exact EX he c hm F (hr.mono hk) bd .nil Bw ha hst hpl ht
theorem pk(M:Mk X.K C f)(D:Ds X.prog X.w X.K X.mg X.base k f ps sp)(hr:iy n X.A)(hm:X.mg x=some (.ref C))(ha:PA X (e::es) t)(hk:k+1≤n:=by decide)(hg:Gl X x:=by rfl)(hdb:(x==("__debug__":Str))=false:=by decide)(he:starEach (e::es) X.env=(false,eval e X.env)::starEach es X.env:=by rfl)(hpl:(backTo pos (starEach es X.env)).any (·.1)=false:=by rfl):
  PE X (.Call (.Name x p) (e::es) [] pos) (uY C sp [] E0 t):=by
 obtain⟨⟨fd,F,bd⟩,kp⟩:=D;exact EY M F (hr.mono hk) hg hm bd .nil Bw ha hdb he hpl
theorem Om{K:aA}{i j:Nat}:∀(v:V)(σ:St)(H:Hp)(Q Q':St→Hp→Prop),lb K 2 (gI (db i) (gI (db j) lc)) v σ H Q→(∀σ' H',Q σ' H'→Q' σ' H')→lb K 2 (gI (db i) (gI (db j) lc)) v σ H Q':=by intro v σ H Q Q' h k;obtain⟨a,rfl,h⟩:=onR.ex h;obtain @⟨xs,e1,e2,h⟩:=h;obtain⟨v1,r1,rfl,h⟩:=onC.ex h;obtain⟨v2,r2,rfl,e3,h⟩:=onC.ex h;exact⟨e1,e2,e3,k _ _ h⟩
theorem xT(ha:PE X a ta)(hb:PE X b tb)(hs:uG b:=by exact λ_ _=>rfl):PE X (.Subscript a b pos) (eC (eF X.K) ta tb):=um JD ha hb hs
theorem xL(ha:PE X a ta)(hb:PE X b tb)(hs:uG b:=by exact λ_ _=>rfl):PE X (.Subscript a b pos) (eC (gO X.K) ta tb):=um Ew ha hb hs
theorem sN(i:Nat)(nd:X.N.Nodup)(hx:FG X.env.scope x)(he:PE X e te)(hi:X.N[i]?=some x:=by rfl)(hs:swapsWith e (some (.Name x pos')) pos.line X.env=pure false:=by rfl)(hf:X.fn x=true∨X.env.scope.names.lookup x=some .local:=by first|exact .inl rfl|exact .inr rfl):PS X (.Assign [.Name x pos'] e pos) (eG te (db i)):=IS nd hi hx he hs hf
theorem qt(ho:mf X (compareOp op) r)(ha:PE X a ta)(hb:PE X b tb)(h:op≠.In:=by decide)(h2:op≠.NotIn:=by decide):PT X (.Compare a [op] [b] pos) (eL (eC r ta tb)):=ky ho ha hb (CD b h h2)
theorem qe(ho:mf X (compareOp op) r)(ha:PE X a ta)(hb:PE X b tb)(h:op≠.In:=by decide)(h2:op≠.NotIn:=by decide):PE X (.Compare a [op] [b] pos) (eC r ta tb):=yD ho ha hb (CD b h h2)
theorem fJ(h:PE X e te)(hs:starEach [e] X.env=(false,eval e X.env)::starEach [] X.env:=by rfl):PA X [e] (dP te dZ):=eA h fZ hs
theorem ft(h:PE X e te)(h2:PE X a ta)(hs:starEach [e,a] X.env=(false,eval e X.env)::starEach [a] X.env:=by rfl)(hs2:starEach [a] X.env=(false,eval a X.env)::starEach [] X.env:=by rfl):PA X [e,a] (dP te (dP ta dZ)):=eA h (fJ h2 hs2) hs
variable {body:List Stmt}{ts:TS}
theorem wq(i:Nat)(hN:X.N[i]?=some x)(k:(∀{pos:Pos},PE X (.Name x pos) (dQ i))→uH X body ts)(hv:Li X.env.scope x:=by first|exact bF rfl|exact bS (bF rfl)|exact bS (bS rfl))(hd:(x==("__debug__":Str))=false:=by decide)(hcd:(x==("__classdict__":Str))=false:=by decide):uH X body ts:=k (λ{pos}=>Bu hN hv hd hcd)
theorem wh(i:Nat)(hi:X.N[i]?=some x)(nd:X.N.Nodup)(k:FG X.env.scope x→(∀{pos:Pos},PG X (.Name x pos) (db i))→uH X body ts)(hx:FG X.env.scope x:=by first|exact bF rfl|exact bS rfl)
  (hf:X.fn x=true∨X.env.scope.names.lookup x=some .local:=by first|exact .inl rfl|exact .inr rfl):uH X body ts:=k hx (λ{pos}=>mC (i:=i) nd hi hx hf)
end
theorem IT{i:Nat}{y:Str}{py spos:Pos}(hc:X.calm=true)(S:iY X scope cl (x::xr) ys js)(hi:PI X tg iter wi)
  (hg:∀(fp:List Addr)(s:Shared)(H:Hp)(C:Addr),PG (gZ X scope cl (x::(xr++ys)) fp s H C) tg g)
  (ht:∀(fp:List Addr)(s:Shared)(H:Hp)(C:Addr),LJ (gZ X scope cl (x::(xr++ys)) fp s H C) ifs tt)
  (he:∀(fp:List Addr)(s:Shared)(H:Hp)(C:Addr),PE (gZ X scope cl (x::(xr++ys)) fp s H C) elt te) (hN:X.N.Nodup) (hy:X.N[i]?=some y) (hx:FG X.env.scope y) (hs:∀x,foldedSetIterable iter X.env x=pure x)
  (hsw:swapsWith (.ListComp elt [⟨tg,iter,ifs,0⟩] scope pos) (some (.Name y py)) spos.line X.env=pure true) (hf:X.fn y=true∨X.env.scope.names.lookup y=some .local):
  PS X (.Assign [.Name y py] (.ListComp elt [⟨tg,iter,ifs,0⟩] scope pos) spos) (eG (D8 (x::xr).length wi g tt te js) (db i)):=by
 intro pins s σ H D I h;rw[exec_Assign_Name_used _ _ _ _ hsw];refine wpAny_bind (wpAny_standAt (wpAny_bind ?_));show wpAny _ X.A (do let _ ← comprehension (.ListComp elt [⟨tg,iter,ifs,0⟩] scope pos) scope X.env _ (newList []) false (eval iter X.env) (some (assign (.Name y py) X.env))) _ _ s;refine wpAny_bind (wpAny_mono (yL (Q':=λ_ s'=>SP X pins D .next s') hc S hi hg ht he hs I h λDa C s2 s4 H2 Hn I2 hC hn hCn hI q=>?_) (λ_ s' hq=>wpAny_pure (wpAny_pure hq)) λ_ _ e=>e);obtain⟨m,hn⟩:=hn;have I4:eZ X pins σ Hn s4:=hI s4.heap (Heap.SameBut.refl _ _);have nL:C≠X.env.locals:=af (aM (aa I2.lt hC));have nc:∀z c,X.env.cells.lookup z=some c→c≠C:=λz c e=>by obtain⟨v,o,e1,e2⟩:=I2.cell z c e;exact aM (aa (Heap.lt_size e1) hC)
 refine wpAny_assign_Name (rC I4 hN hy hx (v:=.ref Da) rfl (λs5 I5 ⟨a,hs5,ha⟩=>?_) hf);have nCa:C≠a:=by
  rcases ha with rfl|e
  ·exact nL
  ·exact af (nc _ _ e)
 refine⟨m,hn.sameBut hs5 nCa,λh' hs'=>⟨_,Hn,I5.turned (t':=s5.toks) (it:=C) (λb o hb e=>(hs'.2 b hb).trans e) hCn nL (.inr (aY I2.sz hC)) nc (λp hp=>?_),q⟩⟩;obtain⟨e1,_⟩:=I2.pin p hp;exact aM (aa (Heap.lt_size e1) hC)
theorem IU{i:Nat}{y:Str}{py spos:Pos}(hc:X.calm=true)(S:iY X scope cl [x] ys js)(hi:PI X (.Name x px) iter wi)
  (he:∀(fp:List Addr)(s:Shared)(H:Hp)(C:Addr),PE (gZ X scope cl (x::ys) fp s H C) elt te) (hN:X.N.Nodup) (hx:FG X.env.scope y) (hy:X.N[i]?=some y:=by rfl) (hsw:swapsWith (.ListComp elt [⟨.Name x px,iter,[],0⟩] scope pos) (some (.Name y py)) spos.line X.env=pure true:=by rfl)
  (hf:X.fn y=true∨X.env.scope.names.lookup y=some .local:=by first|exact .inl rfl|exact .inr rfl) (nd:(x::ys).Nodup:=by decide) (loc:scope.names.lookup x=some .local:=by rfl) (hs:∀x,foldedSetIterable iter X.env x=pure x:=by intro _;rfl):
  PS X (.Assign [.Name y py] (.ListComp elt [⟨.Name x px,iter,[],0⟩] scope pos) spos) (eG (J0 wi te js) (db i)):=by
 intro pins s σ H D I h;refine IT (xr:=[]) hc S (Br hi) (λfp s H C=>mC (i:=0) nd rfl (bF (lookup_relabel_local loc)) (.inr (lookup_relabel_local loc))) (λfp s H C=>tD) he hN hy hx hs hsw hf pins s σ H D I ⟨_,h,λJ H1 z=>?_⟩;obtain⟨W,w0,turn⟩:=z;refine⟨W,w0,λi m vs H w=>(turn i m vs H w).imp id λz=>⟨z.1,λx H' y os hos=>?_⟩⟩
 match os,hos with
 | [o],_=>have q:=z.2 x H' y;refine⟨⟨[some x],rfl,rfl⟩,?_⟩;unfold D7;dsimp only;rw[if_pos rfl];exact q
end L2
namespace S8
open PySem L2 SW S9
variable {K:aA}{vs:List V}{H:Hp}{Q:VK}{E:XK}{C D:Addr}
theorem yJ:∀(zs:List V),(∀x∈zs,(∃n,x=.int n)∨∃w,x=.str w)→AC H d (zs.map λ_=>1) zs zs
 | [],_=>.nil
 | z::zs,h=>.cons (by rcases h z (.head _)with⟨n,rfl⟩|⟨w,rfl⟩;exact .int;exact .str) (yJ zs λx hx=>h x (.tail _ hx))
def SN(H:Hp)(s:Str×List Int)(v:V):Prop:=∃q pp,v=.ref q∧H q=some (.tup [.str s.1,.ref pp])∧H pp=some (.tup (s.2.map V.int))
theorem SN.mono(t:fR H H')(h:SN H s v):SN H' s v:=by obtain⟨q,pp,e,h1,h2⟩:=h;exact⟨q,pp,e,t _ _ h1,t _ _ h2⟩
theorem FS:∀{S:List kj}{us:List V},Al (kS H) S us→Al (SN H) (S.map cv) us
 | _,_,.nil=>.nil
 | _,_,.cons ⟨q,pp,e,h1,h2⟩ r=>.cons ⟨q,pp,e,h1,by rw[h2];simp[mn,ip]⟩ (FS r)
theorem Fn:∀{S:List (Str×List Int)}{us us':List V},Al (SN H) S us→Al (SN H) S us'→∃ws,AC H 2 ws us us'
 | _,_,_,.nil,.nil=>⟨_,.nil⟩
 | _,_,_,.cons ⟨q,pp,e,h1,h2⟩ r,.cons ⟨q',pp',e',g1,g2⟩ r'=>by obtain⟨ws,l⟩:=Fn r r';subst e;subst e';refine⟨_,.cons (.tup h1 g1 (.cons .str (.cons (.tup h2 g2 (yJ _ λx hx=>?_)) .nil))) l⟩;obtain⟨z,_,rfl⟩:=bw.mp hx;exact .inl ⟨z,rfl⟩
theorem CF:∀{ns:List NT}{us:List V},hG H ns us→Al (lF H) ns us
 | _,_,.nil=>.nil
 | _,_,.cons a r=>.cons a (CF r)
theorem kf:∀(a b:List NT),fN (a++b)=fN a+fN b
 | [],b=>by simp[fN]
 | n::a,b=>by rw[aO,fN,fN,kf a b];lia
theorem qX:∀(a:List NT),fN a.reverse=fN a
 | []=>rfl
 | n::a=>by rw[aq,kf,qX a,fN,fN,fN];lia
def x0:Sp:=λvs H Q _=>∃(w:V)(n:NT),vs=[w]∧lF H n w∧gq n≤100000∧∀(l:Addr)(us:List V)(H':Hp),dz H H'→H' l=some (.lst us)→Al (SN H') (mL n) us→Q (.ref l) H'
structure OQ(H₀ H:Hp)(n:NT)(rl tl:Addr)(rs us:List V)(S:List (Str×List Int))(ns:List NT):Prop where
 same:dz H₀ H
 r_:H rl=some (.lst rs)
 t_:H tl=some (.lst us)
 nt:H₀ tl=none
 ne:rl≠tl
 al:Al (SN H₀) S rs
 an:Al (lF H₀) ns us
 eq:S++mX ns.reverse=mL n
 sz:S.length+fN ns=gq n
def OR(H₀:Hp)(n:NT)(w:V)(rl:Addr)(m:Nat)(σ:St)(H:Hp):Prop:=∃tl rs us S ns j3,σ=[some w,some (.ref rl),some (.ref tl),j3]∧OQ H₀ H n rl tl rs us S ns∧m=fN ns
def DV(K:aA):TS:=(dq (eG (mV K "list" mY (dQ 2)) (db 3)) (dq (fG (jm K "list" ef (dQ 1) (dP (eC (eF K) (dQ 3) (tC (.int 2))) dZ))) (eG (eC lL (dQ 2) (uX K (eC (eF K) (dQ 3) (tC (.int 3))))) (db 2))))
def Jr(K:aA):TS:=(dq (eG (fX dZ) (db 1)) (dq (eG (fX (dP (dQ 0) dZ)) (db 2)) (dq (iF (eL (eC (ku K) (dQ 2) (fX dZ))) (DV K)) (fY (dQ 1)))))
theorem Md(h:x0 vs H Q E):Jr K (gr Q) (start ["_law_tree","_law_row","_law_todo","_law_node"] vs) H:=by
 obtain⟨w,n,rfl,na,hz,k⟩:=h;refine⟨fM,et λrl H1 hrl s1 g1=>?_⟩;refine⟨fM,et λtl H2 htl s2 g2=>?_⟩;refine⟨OR H n w rl,⟨_,tl,[],[w],[],[n],_,rfl,⟨s1.trans s2,s2 _ _ g1,g2,s1.free htl,de g1 htl,.nil,.one na,by simp[mX],by simp[fN]⟩,rfl⟩,?_⟩;clear s1 g1 s2 g2 htl tl;rintro m σ H3 ⟨tl,rs,us,S,ns,j3,rfl,A,rfl⟩;refine⟨fM,et λe H4 he s4 g4=>?_⟩;have A4:OQ H H4 n rl tl rs us S ns:=⟨A.same.trans s4,s4 _ _ A.r_,s4 _ _ A.t_,A.nt,A.ne,A.al,A.an,A.eq,A.sz⟩;clear A s4 he;refine⟨eJ.of A4.t_,eJ.of g4,?_⟩;by_cases hv:us=[]
 ·subst hv;cases A4.an;have eq:=A4.eq;rw[List.reverse_nil,mX,aZ]at eq;subst eq;exact⟨_,rfl,eN rfl (k _ _ _ A4.same A4.r_ (A4.al.mono λ_ _=>SN.mono (dh A4.same)))⟩
 ·obtain⟨us,u,rfl⟩:=fz hv;obtain⟨ns,nd,rfl,an,nu⟩:=A4.an.snoc;refine⟨_,rfl,fc (by simp) ?_⟩;refine⟨Lt (OR H n w rl) (fN (ns++[nd])),λ_ _ h=>h,?_⟩;refine⟨.inl ⟨rfl,_,eJ.of A4.t_⟩,A4.t_,jN,?_⟩;rw[iX];have s5:dz H (upd H4 tl (.lst us)):=eI A4.same A4.nt;have r5:(upd H4 tl (.lst us)) rl=some (.lst rs):=by rw[dj A4.ne];exact A4.r_
  have t5:(upd H4 tl (.lst us)) tl=some (.lst us):=dR;generalize upd H4 tl (.lst us)=H5 at s5 r5 t5⊢;cases nu with
  | @mk kk xx src path kids p sp pp kl kus h1 h2 h3 h4 h5=>
  have hal:=A4.al.length;have hsz:=A4.sz;have heq:=A4.eq;have hlk:=ke kids;have hkl:=(CF h5).length;have hln:=ke ns;have hul:=an.length;rw[kf,fN,fN,gq]at hsz;refine⟨.inl ⟨rfl,_,eJ.of r5⟩,eD.of (s5 _ _ h1),dW (j:=2) rfl,r5,by rw[sizeLine_eq];lia,?_⟩;have s6:dz H (upd H5 rl (.lst (rs++[.ref sp]))):=eI s5 hrl;have t6:(upd H5 rl (.lst (rs++[.ref sp]))) tl=some (.lst us):=by rw[dj A4.ne.symm];exact t5
  have r6:(upd H5 rl (.lst (rs++[.ref sp]))) rl=some (.lst (rs++[.ref sp])):=dR;generalize upd H5 rl (.lst (rs++[.ref sp]))=H6 at s6 t6 r6⊢;refine⟨eD.of (s6 _ _ h1),dW (j:=3) rfl,eJ.of (s6 _ _ h4),et λq H7 hq s7 g7=>?_⟩;refine⟨s7 _ _ t6,g7,by rw[sizeLine_eq,bI];lia,λz hz'=>?_⟩;obtain⟨H8,s8,g8,e8⟩:=nw (o:=.lst (us++kus.reverse)) hz';rw[e8];have s68:=s7.trans s8;refine⟨fN (ns++kids.reverse),?_,z,rs++[.ref sp],us++kus.reverse,S++[(src,path)],ns++kids.reverse,_,rfl,⟨s6.trans s68,s68 _ _ r6,g8,(s6.trans s7).free hz',de (s7 _ _ r6) hz',A4.al.append (.one ⟨sp,pp,rfl,h2,h3⟩),an.append (CF h5).reverse,?_,?_⟩,rfl⟩
  ·rw[kf,kf,qX,fN,fN,gq];lia
  ·rw[←heq,b9,b9,cL,og,og,aV];simp[mX,mL]
  ·rw[kf,qX,aD,aw];lia
end S8
namespace S8
open PySem L2 SW
abbrev RE:=T×List Str
def lH:RE→List RE
 | (.num _,_)=>[]
 | (.name _,_)=>[]
 | (.sum a b,o)=>[(a,o),(b,o)]
 | (.less a b,o)=>[(a,o),(b,o)]
 | (.cho a b c,o)=>[(a,o),(b,o),(c,o)]
 | (.lt w a b,o)=>[(a,o),(b,o++[w])]
 | (.st0 _,_)=>[]
 | (.st1 _ a,o)=>[(a,o)]
 | (.st2 _ a b,o)=>[(a,o),(b,o)]
theorem oM(e:RE):(lH e).map Prod.fst=e.1.kids:=by obtain⟨t,o⟩:=e;cases t<;>rfl
theorem mI(e:RE):(lH e).length=e.1.kids.length:=by rw[←oM,aT]
abbrev AH(z:Str)(e:RE):T:=jH z e.2 e.1
theorem EH(z:Str)(e:RE):(AH z e).kids=(lH e).map (AH z):=by
 obtain⟨t,o⟩:=e;cases t<;>(try rfl)
 unfold AH;rw[jH];split<;>rfl
inductive qu:List RE→List RE→Prop where
 | nil:qu [] []
 | cons{e:RE}{r o:List RE}:qu (lH e++r) o→qu (e::r) (e::o)
abbrev FR(F:List RE):Nat:=fE (F.map Prod.fst)
theorem yS:∀(n:Nat)(F:List RE),FR F≤n→∃o,qu F o∧o.length=FR F
 | _,[],_=>⟨[],.nil,rfl⟩
 | 0,e::r,h=>by have:=e.1.size_pos;unfold FR at h;rw[aX,gA]at h;lia
 | n+1,e::r,h=>by have hk:=jL e.1;unfold FR at h⊢;rw[aX,gA]at h;obtain⟨o,h1,h2⟩:=yS n (lH e++r) (by unfold FR;rw[bW,fK,oM];lia);refine⟨e::o,.cons h1,?_⟩;unfold FR at h2;rw[aE,h2,bW,fK,oM,aX,gA];lia
theorem qu.uniq:∀{o F F':List RE},qu F o→qu F' o→F=F'
 | _,_,_,.nil,.nil=>rfl
 | _,_,_,.cons (e:=e) (r:=r) a,.cons (r:=r') b=>by have:=qu.uniq a b;rw[List.append_cancel_left this]
theorem qu.drop:∀{F o:List RE}(j:Nat),qu F o→∃F',qu F' (o.drop j)
 | F,o,0,h=>⟨F,h⟩
 | _,_,j+1,.nil=>⟨[],.nil⟩
 | _,_,j+1,.cons a=>qu.drop j a
theorem qu.back(h:qu F o)(he:o[j]?=some e)(g:qu G (o.drop (j+1))):∃r,G=lH e++r∧qu (e::r) (o.drop j):=by
 obtain⟨hj,ee⟩:=aN.mp he;have hd:o.drop j=e::o.drop (j+1):=by rw[bN hj,ee]
 obtain⟨F',f⟩:=h.drop j;rw[hd]at f;cases f with
 | cons a=>exact⟨_,g.uniq a,by rw[hd];exact .cons a⟩
theorem qu.len:∀{F o:List RE},qu F o→F.length≤o.length
 | _,_,.nil=>aC _
 | _,_,.cons a=>by have:=qu.len a;rw[aD]at this;rw[aE,aE];lia
end S8
namespace S8
open PySem L2 SW S9
variable {K:aA}{vs:List V}{H H₀:Hp}{Q:VK}{E:XK}
def mh(ol tl:Addr)(H:Hp):Hp:=λb=>if b=ol∨b=tl then none else H b
theorem qP:mh ol tl (upd H ol o)=mh ol tl H:=by
 funext b;unfold mh;by_cases h:b=ol∨b=tl
 ·rw[if_pos h,if_pos h]
 ·rw[if_neg h,if_neg h,dj (λz=>h (.inl z))]
theorem oB:mh ol tl (upd H tl o)=mh ol tl H:=by
 funext b;unfold mh;by_cases h:b=ol∨b=tl
 ·rw[if_pos h,if_pos h]
 ·rw[if_neg h,if_neg h,dj (λz=>h (.inr z))]
theorem jq(s:dz H H'):dz (mh ol tl H) (mh ol tl H'):=λb o e=>by
 unfold mh at e⊢;by_cases h:b=ol∨b=tl
 ·rw[if_pos h]at e;cases e
 ·rw[if_neg h]at e⊢;exact s b o e
theorem oC:dz (mh ol tl H) H:=λb o e=>by
 unfold mh at e;by_cases h:b=ol∨b=tl
 ·rw[if_pos h]at e;cases e
 ·rw[if_neg h]at e;exact e
theorem lW{b:Addr}{o:HO}(h:H b=some o)(h1:b≠ol)(h2:b≠tl):mh ol tl H b=some o:=by unfold mh;rw[if_neg (λz=>z.elim h1 h2)];exact h
abbrev Sw(w:Str):Prop:=w.length≤300
def lj(H:Hp)(e:RE)(u:V):Prop:=∃(q l:Addr)(v:V),u=.ref q∧H q=some (.tup [v,.ref l])∧gN H e.1 v∧H l=some (.lst (e.2.map V.str))∧e.2.length+e.1.size≤1000∧jZ Sw e.1
theorem lj.same(s:dz H H')(h:lj H e u):lj H' e u:=by obtain⟨q,l,v,e1,h1,h2,h3,r⟩:=h;exact⟨q,l,v,e1,s _ _ h1,h2.mono (dh s),s _ _ h3,r⟩
theorem JU{P:Str→Prop}{t a:T}(h:jZ P t)(ha:a∈t.kids):jZ P a:=by
 cases t<;>simp only[T.kids,aB,aF,or_false]at ha
 case sum=>exact ha.elim (λy=>y▸h.1) λy=>y▸h.2
 case less=>exact ha.elim (λy=>y▸h.1) λy=>y▸h.2
 case cho=>exact ha.elim (λy=>y▸h.1) λz=>z.elim (λy=>y▸h.2.1) λy=>y▸h.2.2
 case lt=>exact ha.elim (λy=>y▸h.2.1) λy=>y▸h.2.2
 case st1=>exact ha▸h
 case st2=>exact ha.elim (λy=>y▸h.1) λy=>y▸h.2
structure vU(H₀ H:Hp)(ol tl:Addr)(oz st:List RE)(ous tus:List V):Prop where
 same:dz H₀ H
 n1:H₀ ol=none
 n2:H₀ tl=none
 ne:ol≠tl
 ol_:H ol=some (.lst ous)
 tl_:H tl=some (.lst tus)
 el:Al (lj (mh ol tl H)) oz ous
 er:Al (lj (mh ol tl H)) st.reverse tus
theorem vU.grow(B:vU H₀ H ol tl oz st ous tus)(s:dz H H'):vU H₀ H' ol tl oz st ous tus:=
 ⟨B.same.trans s,B.n1,B.n2,B.ne,s _ _ B.ol_,s _ _ B.tl_,B.el.mono λ_ _=>lj.same (jq s),B.er.mono λ_ _=>lj.same (jq s)⟩
theorem vU.push(B:vU H₀ H ol tl oz st ous tus)(he:lj (mh ol tl H) e u):vU H₀ (upd H tl (.lst (tus++[u]))) ol tl oz (e::st) ous (tus++[u]):=
 ⟨eI B.same B.n2,B.n1,B.n2,B.ne,by rw[dj B.ne];exact B.ol_,dR,by rw[oB];exact B.el,by rw[oB,aq];exact B.er.append (.one he)⟩
theorem vU.put(B:vU H₀ H ol tl oz st ous tus)(he:lj (mh ol tl H) e u):vU H₀ (upd H ol (.lst (ous++[u]))) ol tl (oz++[e]) st (ous++[u]) tus:=
 ⟨eI B.same B.n1,B.n1,B.n2,B.ne,dR,by rw[dj B.ne.symm];exact B.tl_,by rw[qP];exact B.el.append (.one he),by rw[qP];exact B.er⟩
theorem vU.pop(B:vU H₀ H ol tl oz (e::st) ous (tus++[u]))(h:Al (lj (mh ol tl H)) st.reverse tus):vU H₀ (upd H tl (.lst tus)) ol tl oz st ous tus:=
 ⟨eI B.same B.n2,B.n1,B.n2,B.ne,by rw[dj B.ne];exact B.ol_,dR,by rw[oB];exact B.el,by rw[oB];exact h⟩
theorem ze(h:e.1=.lt w a b)(hk:e.1.kids[1]?=some k):(lH e)[1]?=some (k,e.2++[w]):=by obtain⟨t,o⟩:=e;cases(show t=_ from h);cases hk;rfl
theorem CO(h:∀w a b,e.1=.lt w a b→j≠1)(hk:e.1.kids[j]?=some k):(lH e)[j]?=some (k,e.2):=by
 obtain⟨t,o⟩:=e;cases t with
 | lt w a b=>
  match j,hk with
  | 0,hk=>cases hk;rfl
  | 1,hk=>exact absurd rfl (h w a b rfl)
  | j+2,hk=>cases hk
 | num n=>cases hk
 | name n=>cases hk
 | st0 n=>cases hk
 | sum a b=>match j,hk with
  | 0,hk=>cases hk;rfl
  | 1,hk=>cases hk;rfl
  | j+2,hk=>cases hk
 | less a b=>match j,hk with
  | 0,hk=>cases hk;rfl
  | 1,hk=>cases hk;rfl
  | j+2,hk=>cases hk
 | cho a b c=>match j,hk with
  | 0,hk=>cases hk;rfl
  | 1,hk=>cases hk;rfl
  | 2,hk=>cases hk;rfl
  | j+3,hk=>cases hk
 | st1 w a=>match j,hk with
  | 0,hk=>cases hk;rfl
  | j+1,hk=>cases hk
 | st2 w a b=>match j,hk with
  | 0,hk=>cases hk;rfl
  | 1,hk=>cases hk;rfl
  | j+2,hk=>cases hk
def Gg(K:aA):TS:=(eG (eC lL (dQ 6) (fX (dP (eC (eF K) (dQ 5) (tC (.int 1))) dZ))) (db 9))
def Gf(K:aA):TS:=(fj (kU (eL (eC kN (eC (eF K) (dQ 5) (tC (.int 0))) (tC (.str "let")))) (eL (eC kN (dQ 8) (tC (.int 1))))) (Gg K) fU)
def Ac(K:aA):TS:=(dq (eG (dQ 6) (db 9)) (dq (Gf K) (fG (jm K "list" ef (dQ 4) (dP (fS (dP (eC (gO K) (dQ 7) (dQ 8)) (dP (dQ 9) dZ))) dZ)))))
def Ge(K:aA):TS:=(dq (eG (mV K "list" mY (dQ 4)) (lb K 2 (gI (db 5) (gI (db 6) lc)))) (dq (fG (jm K "list" ef (dQ 3) (dP (fS (dP (dQ 5) (dP (dQ 6) dZ))) dZ))) (dq (eG (eY gX [] E0 (dP (dQ 5) dZ)) (db 7)) (iP (oq (dP (eC iZ (iB (gT K) (dP (dQ 7) dZ)) (tC (.int 1))) (dP (mK gU (tC (.int 1))) (dP (mK gU (tC (.int 1))) dZ)))) (db 8) (Ac K)))))
def vi(K:aA):TS:=(fG (jm K "list" ef (dQ 13) (dP (eC (eF K) (dQ 5) (tC (.int 1))) dZ)))
def Ab(K:aA):TS:=(fj (eL (eC (Fc K false) (eC (eF K) (dQ 5) (tC (.int 0))) (fX (dP (tC (.str "number")) (dP (tC (.str "name")) (dP (tC (.str "let")) (dP (tC (.str "stamp")) dZ))))))) (vi K) fU)
def Gd(K:aA):TS:=(eG (eC rJ (eC (eF K) (dQ 5) (tC (.int 1))) (dQ 2)) (JH (dQ 13) (tC (.int 1)) Bj))
def ni(K:aA):TS:=(fj (xi (eL (eC kN (eC (eF K) (dQ 5) (tC (.int 0))) (tC (.str "let")))) (kU (eL (eC kN (eC (eF K) (dQ 5) (tC (.int 0))) (tC (.str "name")))) (eL (eC (Fc K false) (eC (eF K) (dQ 5) (tC (.int 1))) (dQ 6))))) (Gd K) fU)
def Aa(K:aA):TS:=(dq (eG (iB (gT K) (dP (eY gX [] E0 (dP (dQ 5) dZ)) dZ)) (db 11)) (dq (eG (uX K (mT (jM K) (dQ 10) (gD (eC iZ (iB (gT K) (dP (dQ 10) dZ)) (dQ 11))) fu)) (db 12)) (dq (eG (mT (jM K) (dQ 10) fu (gD (eC iZ (iB (gT K) (dP (dQ 10) dZ)) (dQ 11)))) (db 10)) (dq (eG (fX (dP (eC (eF K) (dQ 5) (tC (.int 0))) dZ)) (db 13)) (dq (Ab K) (dq (ni K) (fG (jm K "list" ef (dQ 10) (dP (iB (nP K) (dP (eC lL (dQ 13) (dQ 12)) dZ)) dZ)))))))))
def MC(K:aA):TS:=(dq (eG (fX dZ) (db 3)) (dq (eG (fX (dP (fS (dP (dQ 0) (dP (dQ 1) dZ))) dZ)) (db 4)) (dq (iF (eL (eC (ku K) (dQ 4) (fX dZ))) (Ge K)) (dq (eG (fX dZ) (db 10)) (dq (iP (CV K (dQ 3)) (lb K 2 (gI (db 5) (gI (db 6) lc))) (Aa K)) (fY (eC (gO K) (dQ 10) (tC (.int 0)))))))))
def OT(H₀ H:Hp)(σ0:Option V→Option V→St)(ol tl il:Addr)(e:RE)(oz st:List RE)(ous tus us:List V)(i:Nat)(σ:St)(H':Hp):Prop:=
 ∃j8 j9 tus',σ=σ0 j8 j9∧dz (mh ol tl H) (mh ol tl H')∧H' il=some (.lst us)∧tus'.length+i=tus.length+us.length∧vU H₀ H' ol tl oz ((lH e).drop i++st) ous tus'
theorem vy{D:iN}(B:vU H₀ H ol tl oz st ous tus)(hp:H p=some (.tup (hd e.1++ks)))(hl:mh ol tl H l=some (.lst (e.2.map V.str)))(f1:e.2.length+e.1.size≤1000)(wl:jZ Sw e.1)(hil:H il=some (.lst us))(nil:il≠tl)(dk:gJ H e.1.kids us)(few:tus.length≤4000)
  (hD:∀(tus':List V)(H':Hp)(j8 j9:Option V),vU H₀ H' ol tl oz (lH e++st) ous tus'→D.nx [v0,v1,v2,some (.ref ol),some (.ref tl),some (.ref p),some (.ref l),some (.ref il),j8,j9,none,none,none,none] H'):
  (iP (oq (dP (eC iZ (iB (gT K) (dP (dQ 7) dZ)) (tC (.int 1))) (dP (mK gU (tC (.int 1))) (dP (mK gU (tC (.int 1))) dZ)))) (db 8) (Ac K)) D
   [v0,v1,v2,some (.ref ol),some (.ref tl),some (.ref p),some (.ref l),some (.ref il),j8,j9,none,none,none,none] H:=by
 have hlen:=dk.length;have hk3:e.1.kids.length≤3:=by cases e.1<;>simp[T.kids]
 refine⟨.inl (eJ.of hil),(us.length:Int)-1,-1,rfl,⟨by lia,by lia,by lia,by lia⟩,?_⟩;rw[mS];have hpr:=lW hp (fF hp B.ol_ (by intro z;cases z)) (fF hp B.tl_ (by intro z;cases z));have dkr:gJ (mh ol tl H) e.1.kids us:=dk.mono λb xs z=>lW z (fF z B.ol_ (by intro z;cases z)) (fF z B.tl_ (by intro z;cases z));refine qh (n:=us.length) (k:=8) (OT H₀ H (λj8 j9=>[v0,v1,v2,some (.ref ol),some (.ref tl),some (.ref p),some (.ref l),some (.ref il),j8,j9,none,none,none,none]) ol tl il e oz st ous tus us) ⟨_,_,tus,rfl,λ_ _ z=>z,hil,rfl,by rw[b5 (by rw[mI];lia)];exact B⟩ ?_ ?_
 ·clear B;rintro i σ H3 hi ⟨j8,j9,tus',rfl,sr,hil3,hl',B3⟩;obtain⟨x,hx⟩:∃x,us[i]?=some x:=⟨us[i],aI hi⟩;obtain⟨tk,htk,dx⟩:=pW dkr hx;have hsz:=qZ (ac htk);have hp3:H3 p=some (.tup (hd e.1++ks)):=oC _ _ (sr _ _ hpr);have hl3:=sr _ _ hl;have app:∀(nl:Addr)(ws:List Str)(H4:Hp),dz H3 H4→mh ol tl H4 nl=some (.lst (ws.map V.str))→ws.length≤e.2.length+1→(lH e)[i]?=some (tk,ws)→
    (fG (jm K "list" ef (dQ 4) (dP (fS (dP (eC (gO K) (dQ 7) (dQ 8)) (dP (dQ 9) dZ))) dZ))) (D.lp (OT H₀ H (λj8 j9=>[v0,v1,v2,some (.ref ol),some (.ref tl),some (.ref p),some (.ref l),some (.ref il),j8,j9,none,none,none,none]) ol tl il e oz st ous tus us i))
     [v0,v1,v2,some (.ref ol),some (.ref tl),some (.ref p),some (.ref l),some (.ref il),some (.int (i:Int)),some (.ref nl),none,none,none,none] H4:=by
   intro nl ws H4 s4 hnl hwl hki;have B4:=B3.grow s4;refine⟨.inl ⟨rfl,_,eJ.of B4.tl_⟩,eJ.of (s4 _ _ hil3),dW hx,fM,et λq H5 hq s5 g5=>?_⟩;have B5:=B4.grow s5;have sr5:=sr.trans ((jq s4).trans (jq s5));have hat:lj (mh ol tl H5) (tk,ws) (.ref q):=⟨q,nl,x,rfl,lW g5 (fF g5 B5.ol_ (by intro z;cases z)) (fF g5 B5.tl_ (by intro z;cases z)),dx.mono (dh sr5),jq s5 _ _ hnl,by show ws.length+tk.size≤1000;lia,JU wl (ac htk)⟩;obtain⟨hki1,hki2⟩:=aN.mp hki;refine⟨B5.tl_,by rw[sizeLine_eq];lia,_,_,tus'++[.ref q],rfl,by rw[oB];exact sr5,by rw[dj nil];exact s5 _ _ (s4 _ _ hil3),by rw[aD,aw];lia,?_⟩;rw[bN hki1,hki2,aO];exact B5.push hat
  have plain:(∀w a b,e.1=.lt w a b→i≠1)→_:=λh=>app l e.2 H3 (λ_ _ z=>z) hl3 (by lia) (CO h htk);refine⟨eD.of hp3,gx e.1 ks,rfl,?_⟩;refine⟨_,rfl,jP (λhlet=>?_) (λhn=>fQ (plain λw a b h=>absurd (decide_eq_true (by rw[h];rfl)) hn))⟩;obtain⟨w,b1,b2,elt⟩:=nJ (V.str.inj (of_decide_eq_true hlet));refine⟨rfl,?_⟩;refine⟨_,rfl,jP (λh1=>?_) (λhn=>plain λw a b _ h=>absurd (decide_eq_true (by rw[h];rfl)) hn)⟩;have h1:i=1:=by have:=V.int.inj (of_decide_eq_true h1);lia
  have hw9:ph (hd e.1++ks) 1=some (.str w):=by rw[elt];exact dW (j:=1) rfl
  refine⟨eD.of hp3,hw9,fM,et λl1 H4 hl1 s4 g4=>?_⟩;have hl4:=s4 _ _ (oC _ _ hl3);refine⟨hl4,g4,by rw[aT,sizeLine_eq];simp only[aE,am];lia,λnl hnl=>?_⟩;have s5:=dX (o:=.lst (e.2.map V.str++[.str w])) hnl;have nno:nl≠ol:=λz=>by subst z;rw[s4 _ _ B3.ol_]at hnl;cases hnl
  have nnt:nl≠tl:=λz=>by subst z;rw[s4 _ _ B3.tl_]at hnl;cases hnl
  exact app nl (e.2++[w]) _ (s4.trans s5) (lW (by rw[dR,bW];rfl) nno nnt) (by simp) (by subst h1;exact ze elt htk)
 ·rintro σ H3 ⟨j8,j9,tus',rfl,sr,hil3,hl',B3⟩;exact hD _ _ _ _ B3
def lR(fl:Addr)(H H':Hp):Prop:=∀b o,b≠fl→H b=some o→H' b=some o
theorem lR.same(h:lR fl H H1)(s:dz H1 H2):lR fl H H2:=λb o n e=>s _ _ (h b o n e)
theorem lR.upd(h:lR fl H H1):lR fl H (L2.upd H1 fl o):=λb u n e=>by rw[dj n];exact h b u n e
theorem dF{a b:Str}(h:a≠b):decide (V.str a=V.str b)=false:=decide_eq_false λz=>h (V.str.inj z)
theorem lR.refl:lR fl H H:=λ_ _ _ e=>e
theorem zo(ws:List Str):(ws.map V.str).all nK=true:=by rw[List.all_map];exact List.all_eq_true.mpr λx _=>rfl
theorem E5(a w:Str):C7 (.str a) (.str w)=decide (a=w):=rfl
theorem tS(w:Str):∀ws:List Str,rS (.str w) (ws.map V.str)=decide (w∈ws)
 | []=>rfl
 | a::ws=>by
  have e:rS (.str w) ((a::ws).map V.str)=(C7 (.str a) (.str w)||rS (.str w) (ws.map V.str)):=rfl;rw[e,tS w ws,E5];by_cases h:a=w
  ·subst h;simp
  ·have h':¬w=a:=λz=>h z.symm;by_cases k:w∈ws<;>simp[h,h',k]
theorem Bb{u:TS}{D:iN}{e:RE}(wl:jZ Sw e.1)(ht:tail.length≤300)(hp:H p=some (.tup (hd e.1++ks)))(hl:H l=some (.lst (e.2.map V.str)))(nlf:l≠fl)(hfl:H fl=some (.lst [.str (kind e.1)]))
  (hD:∀(H':Hp),lR fl H H'→H' fl=some (.lst (hd (AH tail e)))→u D [v0,v1,some (.str tail),v3,v4,some (.ref p),some (.ref l),v7,v8,v9,v10,v11,v12,some (.ref fl)] H'):
  (dq (Ab K) (dq (ni K) u)) D [v0,v1,some (.str tail),v3,v4,some (.ref p),some (.ref l),v7,v8,v9,v10,v11,v12,some (.ref fl)] H:=by
 have npf:p≠fl:=fF hp hfl (by intro z;cases z);refine⟨eD.of hp,gx e.1 ks,fM,et λl0 H1 hl0 s1 g1=>?_⟩;refine⟨.inl (eJ.of g1),rfl,rfl,_,rfl,?_⟩;have b1:lR fl H H1:=lR.refl.same s1;have hfl1:=s1 _ _ hfl;have hp1:=s1 _ _ hp;obtain⟨t,o⟩:=e;have two:∀(k:Str)(x:V)(kk:List V),(∀w,x=.str w→True)→hd t=[.str k,x]→kind t=k→rS (.str k) [.str "number",.str "name",.str "let",.str "stamp"]=true→k≠"let"→k≠"name"→hd (AH tail (t,o))=[.str k,x]→
   (if(if false=true then !rS (.str (kind t)) [.str "number",.str "name",.str "let",.str "stamp"]else rS (.str (kind t)) [.str "number",.str "name",.str "let",.str "stamp"])=true then vi K (D.thn (dq (ni K) u)) [v0,v1,some (.str tail),v3,v4,some (.ref p),some (.ref l),v7,v8,v9,v10,v11,v12,some (.ref fl)] H1 else fU (D.thn (dq (ni K) u)) [v0,v1,some (.str tail),v3,v4,some (.ref p),some (.ref l),v7,v8,v9,v10,v11,v12,some (.ref fl)] H1):=by
  intro k x kk _ ht hk hin n1 n2 hr;have hp:H p=some (.tup ([.str k,x]++ks)):=by rw[←ht];exact hp
  have hp1:=s1 _ _ hp;refine fc (by rw[hk];exact hin) ⟨.inl ⟨rfl,_,eJ.of hfl1⟩,eD.of hp1,dW (j:=1) rfl,hfl1,fM,?_⟩;have b2:lR fl H (upd H1 fl (.lst ([.str (kind t)]++[x]))):=b1.upd;have hp2:=b2 _ _ npf hp;refine⟨eD.of hp2,dW (j:=0) rfl,rfl,_,rfl,eN (dF n1) ?_⟩;exact⟨eD.of hp2,dW (j:=0) rfl,rfl,_,rfl,eN (dF n2) (fQ (hD _ b2 (by rw[hr,dR,hk];rfl)))⟩
 have one:∀(k:Str),hd t=[.str k]→kind t=k→rS (.str k) [.str "number",.str "name",.str "let",.str "stamp"]=false→k≠"let"→k≠"name"→hd (AH tail (t,o))=[.str k]→
   (if(if false=true then !rS (.str (kind t)) [.str "number",.str "name",.str "let",.str "stamp"]else rS (.str (kind t)) [.str "number",.str "name",.str "let",.str "stamp"])=true then vi K (D.thn (dq (ni K) u)) [v0,v1,some (.str tail),v3,v4,some (.ref p),some (.ref l),v7,v8,v9,v10,v11,v12,some (.ref fl)] H1 else fU (D.thn (dq (ni K) u)) [v0,v1,some (.str tail),v3,v4,some (.ref p),some (.ref l),v7,v8,v9,v10,v11,v12,some (.ref fl)] H1):=by
  intro k ht hk hin n1 n2 hr;have hp:H p=some (.tup ([.str k]++ks)):=by rw[←ht];exact hp
  have hp1:=s1 _ _ hp;refine eN (by rw[hk];exact hin) ?_;refine⟨eD.of hp1,dW (j:=0) rfl,rfl,_,rfl,eN (dF n1) ?_⟩;exact⟨eD.of hp1,dW (j:=0) rfl,rfl,_,rfl,eN (dF n2) (fQ (hD _ b1 (by rw[hr,hfl1,hk])))⟩
 cases t with
 | num n=>exact two "number" (.int n) [] (λ_ _=>trivial) rfl rfl (by decide) (by decide) (by decide) rfl
 | st0 w=>exact two "stamp" (.str w) [] (λ_ _=>trivial) rfl rfl (by decide) (by decide) (by decide) rfl
 | st1 w a=>exact two "stamp" (.str w) [] (λ_ _=>trivial) rfl rfl (by decide) (by decide) (by decide) rfl
 | st2 w a b=>exact two "stamp" (.str w) [] (λ_ _=>trivial) rfl rfl (by decide) (by decide) (by decide) rfl
 | sum a b=>exact one "sum" rfl rfl (by decide) (by decide) (by decide) rfl
 | less a b=>exact one "less" rfl rfl (by decide) (by decide) (by decide) rfl
 | cho a b c=>exact one "choose" rfl rfl (by decide) (by decide) (by decide) rfl
 | name w=>
  refine fc (by simp only[kind];decide) ⟨.inl ⟨rfl,_,eJ.of hfl1⟩,eD.of hp1,dW (j:=1) rfl,hfl1,fM,?_⟩;have b2:lR fl H (upd H1 fl (.lst ([.str "name"]++[.str w]))):=b1.upd;have hp2:=b2 _ _ npf hp;have hl2:=b2 _ _ nlf hl;refine⟨eD.of hp2,dW (j:=0) rfl,rfl,_,rfl,eN (dF (by decide)) ?_⟩;refine⟨eD.of hp2,dW (j:=0) rfl,rfl,_,rfl,fc (by decide) ?_⟩;refine⟨eD.of hp2,dW (j:=1) rfl,.inl (eJ.of hl2),rfl,zo o,_,rfl,?_⟩;by_cases hw:w∈o
  ·refine fc ((tS w o).trans (decide_eq_true hw)) ?_;have wl:w.length≤300:=wl;exact⟨eD.of hp2,dW (j:=1) rfl,by rw[sizeLine_eq];lia,dR,rfl,hD _ b2.upd (by rw[dR,AH,jH,if_pos hw];rfl)⟩
  ·exact eN ((tS w o).trans (decide_eq_false hw)) (hD _ b2 (by rw[dR,AH,jH,if_neg hw];rfl))
 | lt w x y=>refine fc (by simp only[kind];decide) ⟨.inl ⟨rfl,_,eJ.of hfl1⟩,eD.of hp1,dW (j:=1) rfl,hfl1,fM,?_⟩;have b2:lR fl H (upd H1 fl (.lst ([.str "let"]++[.str w]))):=b1.upd;have hp2:=b2 _ _ npf hp;have wl:w.length≤300:=wl.1;refine⟨eD.of hp2,dW (j:=0) rfl,rfl,_,rfl,fc (by decide) (qc ?_)⟩;exact⟨eD.of hp2,dW (j:=1) rfl,by rw[sizeLine_eq];lia,dR,rfl,hD _ b2.upd (by rw[dR];rfl)⟩
theorem JN{t:T}{us:List V}(h:H q=some (.tup (hd t++us)))(d:gJ H t.kids us):gN H t (.ref q):=by
 cases t with
 | num _=>cases d;exact⟨q,rfl,h⟩
 | name _=>cases d;exact⟨q,rfl,h⟩
 | st0 _=>cases d;exact⟨q,rfl,h⟩
 | st1 _ _=>cases d with|cons a d=>cases d;exact⟨q,_,rfl,h,a⟩
 | sum _ _=>cases d with|cons a d=>cases d with|cons b d=>cases d;exact⟨q,_,_,rfl,h,a,b⟩
 | less _ _=>cases d with|cons a d=>cases d with|cons b d=>cases d;exact⟨q,_,_,rfl,h,a,b⟩
 | lt _ _ _=>cases d with|cons a d=>cases d with|cons b d=>cases d;exact⟨q,_,_,rfl,h,a,b⟩
 | st2 _ _ _=>cases d with|cons a d=>cases d with|cons b d=>cases d;exact⟨q,_,_,rfl,h,a,b⟩
 | cho _ _ _=>cases d with|cons a d=>cases d with|cons b d=>cases d with|cons c d=>cases d;exact⟨q,_,_,_,rfl,h,a,b,c⟩
theorem vJ:∀{a b:List T}{us:List V},gJ H (a++b) us→gJ H a (us.take a.length)∧gJ H b (us.drop a.length)
 | [],b,us,h=>⟨by rw[am,ay];exact .nil,h⟩
 | x::a,b,_,.cons h r=>by obtain⟨k1,k2⟩:=vJ (a:=a) r;exact⟨.cons h k1,k2⟩
def xE(H:Hp)(z:Str)(F:List RE)(pus:List V):Prop:=gJ H (F.map (AH z)) pus.reverse
theorem xE.len(h:xE H z F pus):pus.length=F.length:=by have:=gJ.length h;rwa[bI,aT]at this
theorem xE.push(h:xE H z (lH e++r) pus)(k:fR H H')(hq:H' q=some (.tup (hd (AH z e)++(pus.drop (pus.length-e.1.kids.length)).reverse))):xE H' z (e::r) (pus.take (pus.length-e.1.kids.length)++[.ref q]):=by unfold xE at h⊢;rw[bW]at h;obtain⟨d1,d2⟩:=vJ (gJ.mono k h);rw[aT,mI,cm]at d1;rw[aT,mI,List.drop_reverse]at d2;rw[b9,aq,List.reverse_nil,ak,List.singleton_append,aX];exact .cons (JN hq (by rw[EH];exact d1)) d2
theorem IQ{ip im ik n:Nat}{σ:St}{pl:Addr}{pus:List V}{u:TS}{D:iN}(hp:σ[ip]?=some (some (.ref pl)))(hm:σ[im]?=some (some (.int (n:Int))))(h1:ik≠ip)(h2:ik≠im)(hH:H pl=some (.lst pus))(hn:n≤pus.length)
  (hD:∀(kl pn:Addr)(H':Hp),dz H H'→H kl=none→H pn=none→kl≠pn→H' kl=some (.lst (pus.drop (pus.length-n)).reverse)→H' pn=some (.lst (pus.take (pus.length-n)))→u D ((σ.set ik (some (.ref kl))).set ip (some (.ref pn))) H'):
  (dq (eG (uX K (mT (jM K) (dQ ip) (gD (eC iZ (iB (gT K) (dP (dQ ip) dZ)) (dQ im))) fu)) (db ik)) (dq (eG (mT (jM K) (dQ ip) fu (gD (eC iZ (iB (gT K) (dP (dQ ip) dZ)) (dQ im)))) (db ip)) u)) D σ H:=by
 refine nmQ.of hp (nmQ.of hp ⟨.inl (eJ.of hH),nmQ.of hm ⟨eJ.of hH,λsl hsl=>?_⟩⟩);rw[ra hn];obtain⟨H1,s1,g1,e1⟩:=nw (o:=.lst (pus.drop (pus.length-n))) hsl;rw[e1];refine⟨eJ.of g1,et λkl H2 hkl s2 g2=>?_⟩;have s12:=s1.trans s2;have hp2:(σ.set ik (some (.ref kl)))[ip]?=some (some (.ref pl)):=by rw[cA h1];exact hp
 have hm2:(σ.set ik (some (.ref kl)))[im]?=some (some (.int (n:Int))):=by rw[cA h2];exact hm
 have hH2:=s12 _ _ hH;refine nmQ.of hp2 (nmQ.of hp2 ⟨.inl (eJ.of hH2),nmQ.of hm2 ⟨eJ.of hH2,λpn hpn=>?_⟩⟩);rw[yW hn];have s3:=dX (o:=.lst (pus.take (pus.length-n))) hpn;exact hD kl pn _ (s12.trans s3) (s1.free hkl) (s12.free hpn) (de g2 hpn) (s3 _ _ g2) dR
theorem IM{pn kl fl:Addr}{qus kus fr:List V}{D:iN}(h1:H pn=some (.lst qus))(h2:H kl=some (.lst kus))(h3:H fl=some (.lst fr))(f1:qus.length≤5000)(f2:kus.length≤5000)(f3:fr.length≤5000)
  (hD:∀(q:Addr)(H1:Hp),dz H H1→H1 q=some (.tup (fr++kus))→D.nx [v0,v1,v2,v3,v4,v5,v6,v7,v8,v9,some (.ref pn),v11,some (.ref kl),some (.ref fl)] (upd H1 pn (.lst (qus++[.ref q])))):
  (fG (jm K "list" ef (dQ 10) (dP (iB (nP K) (dP (eC lL (dQ 13) (dQ 12)) dZ)) dZ))) D [v0,v1,v2,v3,v4,v5,v6,v7,v8,v9,some (.ref pn),v11,some (.ref kl),some (.ref fl)] H:=by
 refine⟨.inl ⟨rfl,_,eJ.of h1⟩,h3,h2,by rw[sizeLine_eq];lia,et λl H1 hl s1 g1=>?_⟩;refine⟨l,_,rfl,.inl ⟨eJ.of g1,et λq H2 hq s2 g2=>?_⟩⟩;exact⟨(s1.trans s2) _ _ h1,by rw[sizeLine_eq];lia,hD q H2 (s1.trans s2) g2⟩
theorem Cb{g:TG}{tb:TS}{D:iN}{σ:St}(Pv:Nat→St→Hp→Prop)(h0:Pv 0 σ H)(hl:∀i σ H,i≤xs.length→Pv i σ H→eJ K H a xs)
  (hs:∀i x σ H,i<xs.length→xs[xs.length-1-i]?=some x→Pv i σ H→g x σ H λσ2 H2=>tb (D.lp (Pv (i+1))) σ2 H2) (hd:∀σ H,Pv xs.length σ H→D.nx σ H):
  ∃W:Nat→Nat→St→Hp→Prop,(∃m,W 0 m σ H)∧∀i m σ H,W i m σ H→
   ((nX K a xs.length).stop i H∧D.nx σ H)∨((nX K a xs.length).go i H∧∃N:St→Hp→Prop,(∀σ' H',N σ' H'→∃m',m'<m∧W (i+1) m' σ' H')∧∀x H',(nX K a xs.length).yld i H x H'→g x σ H' λσ2 H2=>tb (D.lp (N)) σ2 H2):=by
 refine⟨λi m σ H=>m=xs.length-i∧i≤xs.length∧Pv i σ H,⟨_,rfl,aU _,h0⟩,?_⟩;rintro i m σ H ⟨rfl,hi,pv⟩;by_cases e:i=xs.length
 ·subst e;exact .inl ⟨rfl,hd _ _ pv⟩
 ·have hlt:i<xs.length:=by lia
  refine .inr ⟨⟨hlt,xs,xs[xs.length-1-i]'(by lia),hl _ _ _ hi pv,rfl,aI _⟩,Pv (i+1),λσ' H' h=>⟨xs.length-(i+1),by lia,rfl,hlt,h⟩,?_⟩;rintro x H' ⟨rfl,hx⟩;exact hs i x σ H' hlt (hx xs (hl _ _ _ hi pv)) pv
def xu:Sp:=λvs H Q _=>∃(t:T)(v:V)(l:Addr)(tail:Str)(ws:List Str),vs=[v,.ref l,.str tail]∧gN H t v∧jZ Sw t∧t.size≤900∧H l=some (.lst (ws.map V.str))∧ws.length≤50∧tail.length≤300∧∀(v':V)(H':Hp),dz H H'→gN H' (jH tail ws t) v'→Q v' H'
inductive NO(H:Hp)(v:V)(l0:Addr)(tail:Str)(ol tl:Addr)(o:List RE):Nat→St→Hp→Prop where
 | mk{oz st rest:List RE}{ous tus:List V}{j5 j6 j7 j8 j9:Option V}{H':Hp}(b:vU H H' ol tl oz st ous tus)(f:qu st rest)(e:oz++rest=o):NO H v l0 tail ol tl o rest.length [some v,some (.ref l0),some (.str tail),some (.ref ol),some (.ref tl),j5,j6,j7,j8,j9,none,none,none,none] H'
def NN(H4:Hp)(v:V)(l0:Addr)(tail:Str)(ol tl:Addr)(o:List RE)(n i:Nat)(σ:St)(H':Hp):Prop:=i≤n∧dz H4 H'∧∃(pl:Addr)(pus:List V)(F:List RE)(j5 j6 j7 j8 j9 j11 j12 j13:Option V),σ=[some v,some (.ref l0),some (.str tail),some (.ref ol),some (.ref tl),j5,j6,j7,j8,j9,some (.ref pl),j11,j12,j13]∧H4 pl=none∧H' pl=some (.lst pus)∧qu F (o.drop (n-i))∧xE H' tail F pus
theorem vz{D:iN}(el:Al (lj H4) o ous)(hol:o.length≤900)(h4o:H4 ol=some (.lst ous))(ho:qu [(t,ws)] o)(ht:tail.length≤300)(J:NN H4 v l0 tail ol tl o ous.length 0 σ H5)
  (kD:∀σ H',NN H4 v l0 tail ol tl o ous.length ous.length σ H'→D.nx σ H') (e3:σ[3]?=some (some (.ref ol))):
  (iP (CV K (dQ 3)) (lb K 2 (gI (db 5) (gI (db 6) lc))) (Aa K)) D σ H5:=by
 have hlen:=el.length;refine nmQ.of e3 ⟨eJ.of (J.2.1 _ _ h4o),?_⟩;refine Cb (K:=K) (a:=ol) (xs:=ous) (NN H4 v l0 tail ol tl o ous.length) J (λi σ H' _ h=>eJ.of (h.2.1 _ _ h4o)) ?_ kD;clear J e3;rintro i u σ H7 hlt hu ⟨_,s6,pl,pus,F,j5,j6,j7,j8,j9,j11,j12,j13,rfl,npl,h6p,flF,po⟩;obtain⟨j,hj⟩:∃j:Nat,j=ous.length-1-i:=⟨_,rfl⟩;rw[←hj]at hu;obtain⟨re,he,q,l,pv,rfl,hq,den,hl,f1,wle⟩:=el.get hu;obtain⟨p,ks,rfl,hp,_⟩:=id den.open;rw[show ous.length-i=j+1 by lia]at flF;obtain⟨r,rfl,flE⟩:=ho.back he flF;have hpl9:=po.len;have hFl:=flF.len;rw[aj]at hFl;refine⟨eD.of (s6 _ _ hq),rfl,rfl,?_⟩;refine⟨re.1,.ref p,rfl,den.mono (dh s6),λil us Ha sa na ha da=>⟨.inl (eJ.of ha),?_⟩⟩;have hul:=da.length;rw[aD,mI]at hpl9 hFl;refine IQ (ip:=10) (im:=11) (ik:=12) (n:=us.length) (σ:=[some v,some (.ref l0),some (.str tail),some (.ref ol),some (.ref tl),some (.ref p),some (.ref l),j7,j8,j9,some (.ref pl),some (.int (us.length:Int)),j12,j13]) rfl rfl (by decide) (by decide) (sa _ _ h6p) (by lia) λkl pn Hb sb nk np nkp gk gp=>?_;have sab:=sa.trans sb;have s6b:=s6.trans sab;refine⟨eD.of (s6b _ _ hp),gx re.1 ks,fM,et λfl Hc hfl sc gc=>?_⟩;have sac:=sab.trans sc;have s6c:=s6.trans sac;refine Bb (e:=re) wle ht (s6c _ _ hp) (s6c _ _ hl) (de (s6b _ _ hl) hfl) gc λHd bd gd=>?_;have hkd:=bd _ _ (de gk hfl) (sc _ _ gk);have hpd:=bd _ _ (de gp hfl) (sc _ _ gp);have hhd:(hd (AH tail re)).length≤2:=by cases AH tail re<;>simp[hd]
 refine IM hpd hkd gd (by rw[ah];lia) (by rw[bI,aj];lia) (by lia) λq2 He se ge=>?_;have tl7:fR H7 He:=λb xs e=>se _ _ (bd _ _ (fF (sac _ _ e) gc (by intro z;cases z)) (sac _ _ e));have tlU:=fP (o:=.lst (pus.take (pus.length-us.length)++[.ref q2])) (se _ _ hpd);have sm:dz H4 (upd He pn (.lst (pus.take (pus.length-us.length)++[.ref q2]))):=λb o e=>by have e7:=s6 _ _ e;rw[dj (de (sa _ _ e7) np)];exact se _ _ (bd _ _ (de (sab _ _ e7) hfl) (sac _ _ e7))
 refine⟨hlt,sm,pn,_,re::r,_,_,_,_,_,_,_,_,rfl,(s6.trans sa).free np,dR,by rw[show ous.length-(i+1)=j by lia];exact flE,?_⟩;rw[hul]at ge tlU⊢;exact gJ.mono tlU (po.push tl7 ge)
theorem Nx(h:xu vs H Q E):MC K (gr Q) (start ["_law_piece","_law_places","_law_tail","_law_order","_law_todo","_law_part","_law_own","_law_inner","_law_k","_law_near","_law_pile","_law_many","_law_kids","_law_front"] vs) H:=by
 obtain⟨t,v,l0,tail,ws,rfl,dt,wl,hsz,hl0,hws,ht,kQ⟩:=h;obtain⟨o,ho,hol0⟩:=yS t.size [(t,ws)] (by simp[FR,fE]);have hol0:o.length=t.size:=by rw[hol0];simp[FR,fE]
 refine⟨fM,et λol H1 hol s1 g1=>?_⟩;refine⟨fM,et λq H1b hq s1b g1b=>?_⟩;refine⟨fM,et λtl H2 htl s2 g2=>?_⟩;have Fm:ol≠tl:=de (s1b _ _ g1) htl;have s12:=s1.trans (s1b.trans s2);have ntl:H tl=none:=(s1.trans s1b).free htl;have e0:lj (mh ol tl H2) (t,ws) (.ref q):=by have hq2:=s2 _ _ g1b;have hl2:=s12 _ _ hl0;refine⟨q,l0,v,rfl,lW hq2 (fF hq2 ((s1b.trans s2) _ _ g1) (by intro z;cases z)) (fF hq2 g2 (by intro z;cases z)),?_,lW hl2 (de hl0 hol) (de hl0 ntl),by show ws.length+t.size≤1000;lia,wl⟩;exact dt.mono λb xs z=>lW (s12 _ _ z) (de z hol) (de z ntl)
 have B0:vU H H2 ol tl [] [(t,ws)] [] [.ref q]:=⟨s12,hol,ntl,Fm,(s1b.trans s2) _ _ g1,g2,.nil,.one e0⟩;refine⟨NO H v l0 tail ol tl o,⟨_,.mk B0 ho rfl⟩,?_⟩;clear B0 e0 ntl s12 Fm g2 s2 htl g1b s1b hq q g1 s1;rintro m σ H3 @⟨oz,st,rest,ous,tus,j5,j6,j7,j8,j9,_,B3,fl,eo⟩;have hlen:=congrArg List.length eo;rw[aD]at hlen;have hoslen:=B3.el.length;refine⟨fM,et λe0 H4 he0 s4 g4=>?_⟩;have B4:=B3.grow s4;refine⟨eJ.of B4.tl_,eJ.of g4,?_⟩;have her:=B4.er;cases st with
 | nil=>
  cases her;cases fl;rw[aZ]at eo;subst eo;have el4:Al (lj H4) oz ous:=B4.el.mono λ_ _=>lj.same oC;have h4o:=B4.ol_;have s34:=B4.same;clear B3 B4;refine⟨_,rfl,eN rfl ⟨fM,et λpl H5 hpl s5 g5=>?_⟩⟩;refine vz (K:=K) (v:=v) (l0:=l0) (ol:=ol) (tl:=tl) el4 (by lia) h4o ho ht ⟨aU _,s5,pl,[],[],_,_,_,_,_,_,_,_,rfl,hpl,g5,by rw[bi,b5 (by lia)];exact .nil,.nil⟩ ?_ rfl;rintro σ H6 ⟨_,s6,pl,pus,F,j5,j6,j7,j8,j9,j11,j12,j13,rfl,npl,h6p,flF,po⟩;rw[bJ,ai]at flF;cases flF.uniq ho;have hp1:=po.len
  match pus,hp1 with
  | [v'],_=>
   cases po with
   | cons d _=>exact⟨eJ.of h6p,dW (j:=0) rfl,kQ v' H6 (s34.trans s6) d⟩
 | cons re st=>
  rw[aq]at her;have hv:tus≠[]:=λz=>by subst z;have:=her.length;simp at this
  obtain⟨tus,u,rfl⟩:=fz hv;obtain⟨bs,b,eb,her2,ha⟩:=her.snoc;obtain⟨e1,e2⟩:=ck eb rfl;subst e1;cases e2;refine⟨_,rfl,fc (by simp) ?_⟩;cases fl with
  | @cons e r o' fl=>
  refine⟨Lt (NO H v l0 tail ol tl o) ((re::o').length),λ_ _ h=>h,?_⟩;refine⟨.inl ⟨rfl,_,eJ.of B4.tl_⟩,B4.tl_,jN,?_⟩;rw[iX];have B5:=B4.pop her2;have ha5:lj (mh ol tl (upd H4 tl (.lst tus))) re u:=by rw[oB];exact ha
  generalize upd H4 tl (.lst tus)=H5 at B5 ha5⊢;obtain⟨q,l,pv,rfl,hq,den,hl,f1,wle⟩:=ha5;obtain⟨p,ks,rfl,hp,_⟩:=id den.open;have hl':=fl.len;rw[aD]at hl';have hdl:=her2.length;rw[bI]at hdl;rw[aE]at hlen;refine⟨eD.of (oC _ _ hq),rfl,rfl,?_⟩;refine⟨.inl ⟨rfl,_,eJ.of B5.ol_⟩,fM,et λq4 H6 hq4 s6 g6=>?_⟩;have B6:=B5.grow s6;have r6:=jq (ol:=ol) (tl:=tl) s6;refine⟨B6.ol_,by rw[hoslen,sizeLine_eq];lia,?_⟩;have hat:lj (mh ol tl H6) re (.ref q4):=⟨q4,l,.ref p,rfl,lW g6 (fF g6 B6.ol_ (by intro z;cases z)) (fF g6 B6.tl_ (by intro z;cases z)),den.mono (dh r6),r6 _ _ hl,f1,wle⟩;have B7:=B6.put hat;have hp7:mh ol tl (upd H6 ol (.lst (ous++[.ref q4]))) p=some (.tup (hd re.1++ks)):=by rw[qP];exact r6 _ _ hp
  have hl7:mh ol tl (upd H6 ol (.lst (ous++[.ref q4]))) l=some (.lst (re.2.map V.str)):=by rw[qP];exact r6 _ _ hl
  have den7:gN (mh ol tl (upd H6 ol (.lst (ous++[.ref q4])))) re.1 (.ref p):=by rw[qP];exact den.mono (dh r6)
  generalize upd H6 ol (.lst (ous++[.ref q4]))=H7 at B7 hp7 hl7 den7⊢;refine⟨re.1,.ref p,rfl,den7.mono (dh oC),λil us H8 s8 n8 h8 d8=>?_⟩;have r8:=jq (ol:=ol) (tl:=tl) s8;refine vy (e:=re) (B7.grow s8) (s8 _ _ (oC _ _ hp7)) (r8 _ _ hl7) f1 wle h8 (λz=>by subst z;rw[B7.tl_]at n8;cases n8) d8 (by lia) λtus' H9 j8 j9 B9=>?_;exact⟨o'.length,by simp,.mk B9 fl (by rw[aV];exact eo)⟩
end S8
namespace S8
open PySem L2 SW S9
variable {K:aA}{vs:List V}{H:Hp}{Q:VK}{E:XK}{C D:Addr}
def Aw(K:aA)(a_Opening a_FreshWords:Addr):TS:=(eG (eY (qJ K) [] E0 (dP (mT (jM K) (dQ 0) (gD (tC (.int 9))) (gD (tC (.int 12)))) dZ)) (db 3))
def Av(K:aA)(a_Opening a_FreshWords:Addr):TS:=(fj (eL (eC pA (eC (eF K) (eY qK [] E0 (dP (dQ 2) (dP (dQ 3) (dP (dQ 1) dZ)))) (tC (.int 1))) (dQ 1))) (Aw K a_Opening a_FreshWords) fU)
def Au(K:aA)(a_Opening a_FreshWords:Addr):TS:=(fY (tC (.bl true)))
def As(K:aA)(a_Opening a_FreshWords:Addr):TS:=(fj (eL (eC pA (dQ 5) (dQ 1))) (Au K a_Opening a_FreshWords) fU)
def uW(K:aA)(a_Opening a_FreshWords:Addr):TS:=(dq (eG (J0 (i0 K (eC (eF K) (dQ 7) (tC (.int 1)))) (eC rJ (dQ 0) (tC (.str "q"))) []) (db 8)) (fG (jm K "list" ef (dQ 6) (dP (fS (dP (eC (eF K) (dQ 7) (tC (.int 0))) (dP (dQ 8) (dP (eY xu [] E0 (dP (eC (eF K) (dQ 7) (tC (.int 2))) (dP (eC (eF K) (dQ 7) (tC (.int 1))) (dP (tC (.str "q")) dZ)))) dZ)))) dZ))))
def Ar(K:aA)(a_Opening a_FreshWords:Addr):TS:=(fY (tC (.bl false)))
def Aq(K:aA)(a_Opening a_FreshWords:Addr):TS:=(fj (xi (mU (tB (eY sY [] E0 (dP (dQ 11) dZ)))) (mU (tB (eY sW [] E0 (dP (eC (eF K) (dQ 11) (tC (.int 1))) (dP (dQ 4) dZ)))))) (Ar K a_Opening a_FreshWords) fU)
def Ap(K:aA)(a_Opening a_FreshWords:Addr):TS:=(fY (tC (.bl false)))
def Ao(K:aA)(a_Opening a_FreshWords:Addr):TS:=(fj (eL (eC Fb (eC (eF K) (dQ 11) (tC (.int 2))) (eY x0 [] E0 (dP (dQ 4) dZ)))) (Ap K a_Opening a_FreshWords) fU)
def uT(K:aA)(a_Opening a_FreshWords:Addr):TS:=(dq (eG (eY (sX a_Opening a_FreshWords) [] E0 (dP (eY pM [] E0 (dP (dQ 9) dZ)) (dP (dQ 3) (dP (dQ 10) dZ)))) (db 11)) (dq (Aq K a_Opening a_FreshWords) (Ao K a_Opening a_FreshWords)))
def rA(K:aA)(a_Opening a_FreshWords:Addr):TS:=(dq (eG (eC m9 (dQ 1) (iB LB (dP (eY rD [] E0 (dP (eC (gO K) (eC (Fd K) (fX (dP (tC (.int 0)) dZ)) (dQ 0)) (mK gU (tC (.int 1)))) dZ)) dZ))) (db 10)) (uT K a_Opening a_FreshWords))
def qC(K:aA)(a_Opening a_FreshWords:Addr):TS:=(dq (iP (i0 K (fX (dP (dQ 2) (dP (dQ 6) dZ)))) (db 9) (rA K a_Opening a_FreshWords)) (fY (tC (.bl true))))
def uU(K:aA)(a_Opening a_FreshWords:Addr):TS:=(dq (eG (fX dZ) (db 6)) (dq (iP (i0 K (dQ 2)) (db 7) (uW K a_Opening a_FreshWords)) (qC K a_Opening a_FreshWords)))
def uV(K:aA)(a_Opening a_FreshWords:Addr):TS:=(dq (eG (eY qK [] E0 (dP (dQ 2) (dP (dQ 3) (dP (dQ 1) dZ)))) (lb K 2 (gI (db 4) (gI (db 5) lc)))) (dq (As K a_Opening a_FreshWords) (uU K a_Opening a_FreshWords)))
def HD(K:aA)(a_Opening a_FreshWords:Addr):TS:=(dq (eG (eY (qH K) [] E0 (dP (dQ 0) (dP (tC (.int 8)) (dP (tC (.int 30)) dZ)))) (db 1)) (dq (eG (eY (sf K) [] E0 (dP (mT (jM K) (dQ 0) (gD (tC (.int 1))) (gD (tC (.int 9)))) (dP (tC (.bl false)) dZ))) (db 2)) (dq (eG (eY (qJ K) [] E0 (dP (mT (jM K) (dQ 0) (gD (tC (.int 9))) (gD (eC m9 (tC (.int 9)) (eY (qH K) [] E0 (dP (dQ 0) (dP (tC (.int 9)) (dP (tC (.int 16)) dZ))))))) dZ)) (db 3)) (dq (Av K a_Opening a_FreshWords) (uV K a_Opening a_FreshWords)))))
theorem IV(bok:xK bo)(wt:WT SF t)(hz:t.size≤40)(ly:Ly bo t k n c)(hk:k≤8)(hend:fst n=none):(∀y∈[gm t,gm bo.x,gm bo.y,gm bo.z],y.size≤5000∧∀x,xH x y→Ji x)∧(∀F,yg bo t F)∧gq n≤50000:=by
 have w1:=FV bok.w1;have w2:WT SF bo.y:=gS (λw k=>FU) bok.w2;have w3:WT SF bo.z:=gS (λw k=>FT) bok.w3;have z1:=bok.z1;have z2:=bok.z2.1;have z3:=bok.z3.1;refine⟨λy hy=>?_,λF=>Cr bok wt hz (JL ly (m:=10) (by lia) λ_=>hend),?_⟩
 ·simp only[aB,aF,or_false]at hy;rcases hy with rfl|rfl|rfl|rfl
  ·exact pU wt hz (by lia)
  ·exact pU w1 z1 (by lia)
  ·exact pU w2 z2 (by lia)
  ·exact pU w3 z3 (by lia)
 ·have hnz:=(ux bok wt ly).2;have hkz:k*(20*t.size)≤8*(20*t.size):=bX _ hk;lia
structure DE(H:Hp)(bl:Addr)(bo:Bo):Prop where
 h:∃u0 u1 u2,H bl=some (.lst [u0,u1,u2])∧vX H u0 u1 u2 bo
theorem DE.mono(s:dz H H')(b:DE H bl bo):DE H' bl bo:=by obtain⟨u0,u1,u2,h,B⟩:=b;exact⟨u0,u1,u2,s _ _ h,B.mono s⟩
structure L6(K:aA)(H:Hp)(a:Addr)(ns:List Int)(t:T)(v w:V)(k:Nat)(n:NT):Prop where
 sc:eJ K H a (ns.map V.int)
 le:ns.length≤63
 dt:gN H t v
 wt:WT SF t
 hz:t.size≤40
 na:lF H n w
 hk:k≤8
 he:fst n=none
theorem L6.mono(s:dz H H')(h:L6 K H a ns t v w k n):L6 K H' a ns t v w k n:=⟨s.seq h.sc,h.le,h.dt.mono (dh s),h.wt,h.hz,h.na.same s,h.hk,h.he⟩
theorem zJ{Dd:iN}{F:Nat}(e:fuel=(F:Int))(hF:8≤F)(L:L6 K H a ns t v w k n)(b:DE H rl bo)(bok:xK bo)(ly:Ly bo t k n c)(hD:∀j11 H',dz H H'→Dd.nx [v0,v1,v2,some v,some w,v5,v6,v7,v8,some (.ref rl),some (.int fuel),j11] H'):
  uT K C D Dd [v0,v1,v2,some v,some w,v5,v6,v7,v8,some (.ref rl),some (.int fuel),j11] H:=by
 subst e;have hk:=L.hk;obtain⟨hsz,ask,hnz⟩:=IV bok L.wt L.hz ly hk L.he;obtain⟨u0,u1,u2,hb,B⟩:=b;refine⟨rl,u0,u1,u2,bo,rfl,hb,B,λl' w1 w2 w3 H1 s1 n1 h1 B1=>?_⟩;refine⟨l',w1,w2,w3,v,t,bo,F,rfl,h1,B1,jX (L.dt.mono (dh s1)),hsz,ask F,λp ws st H2 s2 hp hws rch hkF=>?_,λp l x us ws st W tt H2 s2 hp en dx hl ds=>?_⟩
 ·have hlt:=Es ly (λ_=>L.he) hws rch hkF;lia
 ·obtain⟨hkF,e,g,hsr⟩:=E7 ly (λ_=>L.he) en;have hs:=K2 g;have na2:=L.na.same (s1.trans s2);refine⟨p,l,x,tt,st.k,us,rfl,hp,dx,by lia,hl,λu hu=>(Ct ds hu).elim λ_ z=>IH z,λH3 s3=>⟨_,rfl,fQ ?_⟩⟩;refine⟨eD.of (s3 _ _ hp),dW (j:=1) rfl,tt,x,w,n,rfl,dx.mono (dh s3),na2.same s3,Kt ly,by lia,λb H4 s4 hb4=>?_⟩;have:b=true:=hb4.mpr (Ez g On);subst this;have s34:=s3.trans s4;refine⟨_,rfl,fQ ⟨eD.of (s34 _ _ hp),dW (j:=2) rfl,w,n,rfl,na2.same s34,by lia,λol ous H5 s5 ho ao=>?_⟩⟩;have s35:=s34.trans s5;have ds5:=FS (ds.mono λa v (z:kS H2 a v)=>by obtain⟨q,pp,e1,e2,e3⟩:=z;exact⟨q,pp,e1,s35 _ _ e2,s35 _ _ e3⟩:Al (kS H5) _ us);rw[←hsr]at ds5;obtain⟨ws5,l5⟩:=Fn ds5 ao;exact⟨l,ol,_,_,us,ous,rfl,rfl,s35 _ _ hl,ho,l5,by lia,_,rfl,eN rfl (hD _ _ ((s1.trans s2).trans s35))⟩
theorem oi{Dd:iN}(L:L6 K H a ns t v w k n)(b:DE H rl bo)(bok:xK bo)(ly:Ly bo t k n c)(hD:∀j10 j11 H',dz H H'→Dd.nx [some (.ref a),some (.int 8),v2,some v,some w,v5,v6,v7,v8,some (.ref rl),j10,j11] H'):
  rA K C D Dd [some (.ref a),some (.int 8),v2,some v,some w,v5,v6,v7,v8,some (.ref rl),j10,j11] H:=by
 obtain⟨ms,m,em⟩:=fz (l:=(0:Int)::ns) (by simp);have el:[V.int 0]++ns.map V.int=ms.map V.int++[V.int m]:=by have:=congrArg (List.map V.int) em;simpa using this
 have hl:=L.le;refine⟨fM,et λp H1 hp s1 g1=>?_⟩;refine⟨eJ.of g1,s1.seq L.sc,by rw[aT,aw,sizeLine_eq];lia,et λq H2 hq s2 g2=>?_⟩;rw[el]at g2;refine⟨eJ.of g2,vO _ _,_,rfl,λx H3 _ s3=>⟨_,rfl,?_⟩⟩;have s03:=s1.trans (s2.trans s3);exact zJ (F:=(8+(if x<0 then -x else x)).toNat) (by split<;>lia) (by split<;>lia) (L.mono s03) (b.mono s03) bok ly λj11 H' s=>hD _ _ _ (s03.trans s)
theorem zK(L:L6 K H a ns t v w k n)(b:DE H bl ⟨false,x,y,z⟩)(b':DE H ol (bq x y z))(bog:DD x y z)(ly:Ly ⟨false,x,y,z⟩ t k n c)(hQ:∀H',Q (.bl true) H'):
  qC K C D (gr Q) [some (.ref a),some (.int 8),some (.ref bl),some v,some w,v5,some (.ref ol),v7,v8,none,none,none] H:=by
 refine⟨fM,et λrl H1 hrl s1 g1=>?_⟩;refine⟨eJ.of g1,?_⟩;refine gY (K:=K) (a:=rl) (xs:=[.ref bl,.ref ol]) (λi σ H'=>∃j9 j10 j11,σ=[some (.ref a),some (.int 8),some (.ref bl),some v,some w,v5,some (.ref ol),v7,v8,j9,j10,j11]∧dz H1 H') ⟨none,none,none,rfl,dz.refl _⟩ (λi σ H' _ h=>?_) ?_ ?_
 ·obtain⟨_,_,_,_,s⟩:=h;exact eJ.of (s _ _ g1)
 ·rintro i u σ H2 hu ⟨j9,j10,j11,rfl,s2⟩;have s12:=s1.trans s2
  match i,hu with
  | 0,hu=>cases hu;exact oi (L.mono s12) (b.mono s12) bog.ok ly λk10 k11 H3 s3=>⟨_,k10,k11,rfl,s2.trans s3⟩
  | 1,hu=>cases hu;exact oi (L.mono s12) (b'.mono s12) bog.okq (Mw bog.w ly) λk10 k11 H3 s3=>⟨_,k10,k11,rfl,s2.trans s3⟩
  | i+2,hu=>simp at hu
 ·rintro σ H2 ⟨j9,j10,j11,rfl,s2⟩;exact hQ _
theorem ui{Dd:iN}(st:kC H₀ w0 ps (gm b) u)(s:dz H₀ H)(n0:H₀ ol=none)(hps:ps.length≤2)(hw:∀w∈ps,w.length≤300)(sw:jZ Sw b)(hz:b.size≤900)(hol:H ol=some (.lst us))(hu:us.length≤3)
  (kk:∀j8 q H',lR ol H H'→H' ol=some (.lst (us++[.ref q]))→qx H' ol (w0,ps.map (·++("q":Str)),jH "q" ps b) (.ref q)→Dd.nx [v0,v1,v2,v3,v4,v5,some (.ref ol),some u,j8,v9,v10,v11] H'):
  uW K C D Dd [v0,v1,v2,v3,v4,v5,some (.ref ol),some u,v8,v9,v10,v11] H:=by
 obtain⟨p,l,x,rfl,h1,h2,h3⟩:=st;have h1:=s _ _ h1;have h2':=s _ _ h2;refine⟨eD.of h1,dW (j:=1) rfl,eJ.of h2',?_⟩;refine⟨λi m zs H'=>m=ps.length-i∧i≤ps.length∧zs=((ps.take i).map (·++("q":Str))).map V.str∧H'=H,⟨_,rfl,aU _,rfl,rfl⟩,?_⟩;rintro i m zs H' ⟨rfl,hi,rfl,rfl⟩;by_cases hlt:i<ps.length
 ·refine .inr ⟨⟨_,.str ps[i],eJ.of h2',by rw[ae,aI hlt];rfl⟩,λy H2 hy=>?_⟩;obtain⟨e,hy⟩:=hy;subst e;have hx:=hy _ (eJ.of h2');rw[ae,aI hlt]at hx;cases hx;have:=hw _ (List.getElem_mem hlt);refine⟨by rw[sizeLine_eq,show(("q":Str)).length=1 by decide];lia,by rw[sizeLine_eq,aT,aT,ah];lia,ps.length-(i+1),by lia,rfl,hlt,?_,rfl⟩;rw[ax,aI hlt,bW,bW];rfl
 ·have e:i=ps.length:=by lia
  subst e;refine .inl ⟨⟨_,eJ.of h2',by simp⟩,by rw[sizeLine_eq,aT,aT,ah];lia,et λpl H1 hpl s1 g1=>?_⟩;rw[bG]at g1;have o1:=s1 _ _ hol;have p1:=s1 _ _ h1;refine⟨.inl ⟨rfl,_,eJ.of o1⟩,eD.of p1,dW (j:=0) rfl,eD.of p1,dW (j:=2) rfl,eD.of p1,dW (j:=1) rfl,b,x,l,"q",ps,rfl,(iH h3).mono (dh (s.trans s1)),sw,hz,s1 _ _ h2',by lia,by decide,λx' H2 s2 d2=>?_⟩;refine⟨fM,et λq H3 hq s3 g3=>?_⟩;have s23:=s2.trans s3;have o3:=s23 _ _ o1;refine⟨o3,by rw[sizeLine_eq];lia,?_⟩;have npl:pl≠ol:=(de hol hpl).symm;have nq:q≠ol:=(de (s2 _ _ o1) hq).symm;have bt:lR ol H3 (upd H3 ol (.lst (us++[.ref q]))):=lR.refl.upd;exact kk _ q _ (lR.refl.same (s1.trans s23)).upd dR ⟨q,pl,x',rfl,bt _ _ nq g3,bt _ _ npl (s23 _ _ g1),npl,d2.mono (dh s3)|>.mono (fP o3)⟩
def qs(x y z:T):List (Str×List Str×T):=[("star",[],jH "q" [] x),("sta",[qV true],jH "q" ["sab"] y),("st",[qV true,vY true],jH "q" ["sab","tab"] z)]
def BI(a bl ol:Addr)(v w:V)(k:Int)(H₀:Hp)(x y z:T)(i:Nat)(σ:St)(H:Hp):Prop:=∃j7 j8 us,σ=[some (.ref a),some (.int 8),some (.ref bl),some v,some w,some (.int k),some (.ref ol),j7,j8,none,none,none]∧dz H₀ H∧H ol=some (.lst us)∧Al (qx H ol) ((qs x y z).take i) us
theorem zL(L:L6 K H a ns t v w k n)(b:DE H bl ⟨false,x,y,z⟩)(bog:DD x y z)(ly:Ly ⟨false,x,y,z⟩ t k n c)(hQ:∀H',Q (.bl true) H'):
  uU K C D (gr Q) [some (.ref a),some (.int 8),some (.ref bl),some v,some w,some (.int (k:Int)),none,none,none,none,none,none] H:=by
 obtain⟨u0,u1,u2,hb,B⟩:=id b;refine⟨fM,et λol H1 hol s1 g1=>?_⟩;refine⟨eJ.of (s1 _ _ hb),?_⟩;refine gY (K:=K) (a:=bl) (xs:=[u0,u1,u2]) (BI a bl ol v w k H x y z) ⟨none,none,[],rfl,s1,g1,.nil⟩ (λi σ H' _ h=>?_) ?_ ?_
 ·obtain⟨_,_,_,_,s,_⟩:=h;exact eJ.of (s _ _ hb)
 ·rintro i u σ H2 hu ⟨j7,j8,us,rfl,s2,g2,al⟩;have sw:∀{S:Str→Nat→Prop}{t:T},WG S t→jZ Sw t:=λh=>jh (λw h=>by have:=h.sh;show w.length≤300;lia) h;have hlen:=al.length;rw[ah]at hlen;have h3:(qs x y z).length=3:=rfl;have go:∀(w0:Str)(ps:List Str)(bd:T),kC H w0 ps (gm bd) u→ps.length≤2→(∀w∈ps,w.length≤300)→jZ Sw bd→bd.size≤900→(qs x y z)[i]?=some (w0,ps.map (·++("q":Str)),jH "q" ps bd)→_:=λw0 ps bd st h1 h2 h4 h5 e=>
   ui (K:=K) (C:=C) (D:=D) (Dd:=(iN.thn (gr Q) (qC K C D)).lp (BI a bl ol v w k H x y z (i+1))) (v8:=j8) (v0:=some (.ref a)) (v1:=some (.int 8)) (v2:=some (.ref bl)) (v3:=some v) (v4:=some w) (v5:=some (.int (k:Int))) (v9:=none) (v10:=none) (v11:=none) st s2 hol h1 h2 h4 h5 g2 (by lia) λk8 q H3 bt g3 bk=>
    ⟨_,k8,_,rfl,λp o hp=>bt _ _ (de hp hol) (s2 _ _ hp),g3,by
     rw[ax,e];exact(al.mono λ_ _ z=>z.mono (λp xs hp=>bt _ _ (fF hp g2 (by intro z;cases z)) hp) λp xs n hp=>bt _ _ n hp).append (.one bk)⟩
  match i,hu,go with
  | 0,hu,go=>cases hu;exact go _ [] x B.a (by simp) (by simp) (sw bog.wx) (by have:=bog.zx;lia) rfl
  | 1,hu,go=>cases hu;exact go _ ["sab"] y B.b (by simp) (by intro w hw;rw[aG]at hw;subst hw;decide) (sw bog.wy) (by have:=bog.zy;lia) (by rw[List.map_singleton,BP];rfl)
  | 2,hu,go=>cases hu;exact go _ ["sab","tab"] z B.c (by simp) (by intro w hw;simp only[aB,aF,or_false]at hw;rcases hw with rfl|rfl<;>decide) (sw bog.wz) (by have:=bog.zz;lia) (by rw[aX,List.map_singleton,BP,GJ];rfl)
  | i+3,hu,_=>simp at hu
 ·rintro σ H2 ⟨j7,j8,us,rfl,s2,g2,al⟩;cases al with|cons a0 al=>cases al with|cons a1 al=>cases al with|cons a2 al=>cases al with|nil=>
  exact zK (L.mono s2) (b.mono s2) ⟨_,_,_,g2,rh a0,rh a1,rh a2⟩ bog ly hQ
theorem rG{ns:List Int}(hs:eJ K H a (ns.map V.int))(hl:ns.length≤63)(b:DE H bl ⟨false,x,y,z⟩)(bog:DD x y z)(dt:gN H t v)(wt:WT SF t)(hz:t.size≤40)(hQ:∀H',Q (.bl true) H'):
  uV K C D (gr Q) [some (.ref a),some (.int 8),some (.ref bl),some v,none,none,none,none,none,none,none,none] H:=by
 obtain⟨u0,u1,u2,hb,B⟩:=id b;refine⟨bl,u0,u1,u2,v,t,_,8,rfl,hb,B,dt,bog.ok,wt,by lia,by lia,λr w n c k H3 s3 ly na hr hk1 hk2=>?_⟩;refine⟨eD.of hr,rfl,rfl,?_⟩;by_cases h8:k≤8
 ·refine⟨_,rfl,eN (decide_eq_false (by lia)) ?_⟩;exact zL ⟨s3.seq hs,hl,dt.mono (dh s3),wt,hz,na,h8,hk2 h8⟩ (b.mono s3) bog ly hQ
 ·exact⟨_,rfl,fc (decide_eq_true (by lia)) (hQ _)⟩
theorem Lb(h:S1.Ng K vs H Q E):HD K C D (gr Q) (start ["_law_script","_law_top","_law_book","_law_piece","_law_tree","_law_many","_law_other","_law_one","_law_places","_law_rows","_law_fuel","_law_found"] vs) H:=by
 obtain⟨a,ns,rfl,ha,hl,hQ⟩:=h;have hl2:(ns.map V.int).length≤63:=by rw[aT];exact hl
 refine⟨a,_,8,30,rfl,ha,hl2,?_⟩;obtain⟨ms,em,hm1,hm2⟩:=mJ ns (some 1) (some 9);refine⟨ha,λq hq=>?_⟩;refine⟨q,_,ms,rfl,eJ.of (by rw[dR,em]),by lia,λbl bus t0 t1 t2 H1 s1 nbl hbl bkl w0 w1 w2 z0 z1 z2 y1 y2=>?_⟩;have sA:=(dX (o:=.lst (ix (ns.map V.int) (some 1) (some 9))) hq).trans s1;clear s1 hq;obtain⟨ms2,em2,hm3,hm4⟩:=mJ ns (some 9) (some (9+9));refine⟨a,_,9,16,rfl,sA.seq ha,hl2,sA.seq ha,λq2 hq2=>?_⟩;refine⟨q2,ms2,rfl,eJ.of (by rw[dR,em2]),by lia,λt v H2 s2 dt wg hsz hnm=>?_⟩;have hm7:ms2.length≤9:=by have ea:HT.kZ ns.length ns.length (some (9+9))=min 18 ns.length:=lU ns.length ns.length 18;have eb:HT.kZ ns.length 0 (some 9)=min 9 ns.length:=lU ns.length 0 9;rw[ea,eb]at hm3;lia
 have sB:dz H1 H2:=(dX (o:=.lst (ix (ns.map V.int) (some 9) (some (9+9)))) hq2).trans s2;clear s2 hq2;have bog:DD t0 t1 t2:=⟨w0,w1,w2,z0,⟨z1,y1⟩,z2,y2⟩;cases bkl with|cons B0 bkl=>cases bkl with|cons B1 bkl=>cases bkl with|cons B2 bkl=>cases bkl with|nil=>
 rename_i u0 u1 u2;have bks:DE H2 bl ⟨false,t0,t1,t2⟩:=⟨u0,u1,u2,sB _ _ hbl,(rh B0).mono sB,(rh B1).mono sB,(rh B2).mono sB⟩;obtain⟨u0',u1',u2',hb,B⟩:=id bks;have wt:WT SF t:=gS (λw k=>x9) (uP wg);refine⟨bl,u0',u1',u2',v,t,_,8,rfl,hb,B,dt,bog.ok,wt,by lia,by lia,λr w n c k H3 s3 ly na hr hk1 hk2=>?_⟩;refine⟨eD.of hr,dW (j:=1) rfl,?_⟩;have s03:=(sA.trans sB).trans s3;by_cases h8:k≤8
 ·refine⟨_,rfl,eN (decide_eq_false (by lia)) ?_⟩;exact rG (s03.seq ha) hl (bks.mono s3) bog (dt.mono (dh s3)) wt (by lia) hQ
 ·refine⟨_,rfl,fc (decide_eq_true (by lia)) ?_⟩;obtain⟨ms3,em3,hm5,hm6⟩:=mJ ns (some 9) (some 12);have hm8:ms3.length≤3:=by have ea:HT.kZ ns.length ns.length (some 12)=min 12 ns.length:=lU ns.length ns.length 12;have eb:HT.kZ ns.length 0 (some 9)=min 9 ns.length:=lU ns.length 0 9;rw[ea,eb]at hm5;lia
  refine⟨s03.seq ha,λq3 hq3=>?_⟩;refine⟨q3,ms3,rfl,eJ.of (by rw[dR,em3]),by lia,λt' v' H4 s4 dt' wg' hsz' hnm'=>?_⟩;have sC:dz H3 H4:=(dX (o:=.lst (ix (ns.map V.int) (some 9) (some 12))) hq3).trans s4;exact rG ((s03.trans sC).seq ha) hl (bks.mono (s3.trans sC)) bog dt' (gS (λw k=>x9) (uP wg')) (by lia) hQ
end S8
namespace K6
open PySem L2 SW S9 S8
def gM(i:Nat):Stmt:=PySem.Challenge.pw_stampword_k06_whole_own_names_of_stamps.main.body.getD i (.Pass ⟨0,0,0,0⟩)
structure Nf where
 (f0 f1 f2 f3 f4 f5 f6 f7 f8 f9 f10 f11 f12 f13 f14 f15 f16 f17 f18 f19 f20 f21 f22 f23 f24 f25 f26 f27 f28 f29 f30 f31 f32 f33 f34 f35 f36 f37 f38 f39 f40 f41 f42 f43 f44 f45 o0 o1:Addr)
structure Lj(P:Program)(w:World)(K:aA)(mg:Str→Option Value)(base:Heap)(a:Nf):Prop where
 n0:mg "abs"=none
 n1:mg "bool"=none
 n2:mg "isinstance"=none
 n3:mg "int"=none
 n4:mg "list"=none
 n5:mg "len"=none
 n6:mg "min"=none
 n7:mg "tuple"=none
 n8:mg "str"=none
 n9:mg "range"=none
 n10:mg "reversed"=none
 n11:mg "dict"=none
 n12:mg "sorted"=none
 n13:mg "enumerate"=none
 n14:mg "zip"=none
 g0:mg "_law_any"=some (.ref a.f0)
 g1:mg "_law_any_word"=some (.ref a.f1)
 g2:mg "_law_whole"=some (.ref a.f2)
 g3:mg "_law_inside"=some (.ref a.f3)
 g4:mg "_law_room"=some (.ref a.f4)
 g5:mg "_law_drawn_piece"=some (.ref a.f5)
 g6:mg "_law_drawn_main"=some (.ref a.f6)
 g7:mg "_law_is_piece"=some (.ref a.f7)
 g8:mg "_law_drawn_book"=some (.ref a.f8)
 g9:mg "_law_is_done"=some (.ref a.f9)
 g10:mg "_law_book_copied"=some (.ref a.f10)
 g11:mg "_law_reworded"=some (.ref a.f11)
 g12:mg "_law_origins"=some (.ref a.f12)
 g13:mg "_law_noted"=some (.ref a.f13)
 g14:mg "_law_goes_with"=some (.ref a.f14)
 g15:mg "_law_first_stamp"=some (.ref a.f15)
 g16:mg "_law_placed"=some (.ref a.f16)
 g17:mg "_law_laid"=some (.ref a.f17)
 g18:mg "parts"=some (.ref a.f18)
 g19:mg "every_piece"=some (.ref a.f19)
 g20:mg "with_word"=some (.ref a.f20)
 g21:mg "pieces_with_lets"=some (.ref a.f21)
 g22:mg "outside_names"=some (.ref a.f22)
 g23:mg "stamps_by_word"=some (.ref a.f23)
 g24:mg "check_use"=some (.ref a.f24)
 g25:mg "check_piece"=some (.ref a.f25)
 g26:mg "check_stamps"=some (.ref a.f26)
 g27:mg "numbered_word"=some (.ref a.f27)
 g30:mg "all_outside_names"=some (.ref a.f30)
 g31:mg "spots_within"=some (.ref a.f31)
 g32:mg "has_stamps_to_open"=some (.ref a.f32)
 g33:mg "row_at"=some (.ref a.f33)
 g42:mg "piece_of"=some (.ref a.f42)
 g43:mg "sources_of"=some (.ref a.f43)
 g44:mg "write_out"=some (.ref a.f44)
 g45:mg "expanded"=some (.ref a.f45)
 u0:∃t,mg "LETTERS"=some (.str "abcdefghijklmnopqrstuvwxyz" t)
 c0:mg "Opening"=some (.ref a.o0)
 l0:xJ K a.o0
 c1:mg "FreshWords"=some (.ref a.o1)
 l1:xJ K a.o1
abbrev Lj.D{P:Program}{w:World}{K:aA}{mg:Str→Option Value}{base:Heap}{a:Nf}(_:Lj P w K mg base a):=Ds P w K mg base
seal L2.PE L2.PT L2.PW L2.PA L2.PS L2.uH L2.PC L2.PG L2.Ln L2.PI L2.PO L2.Lm
section
variable {P:Program}{w:World}{K:aA}{mg:Str→Option Value}{base:Heap}{a:Nf}{f:Addr}(T:Lj P w K mg base a)(ro:RO K a.o0)(rw:RW K a.o1)
include T ro rw
theorem Ip(F:gR K "_law_any" "_law_any" (gM 44) f):T.D 1 f ["_law_cell"] rD:=
 jn (N:=["_law_cell","_law_size"]) F λ_ _ _ _ _ _ _ _ nd hr h=>⟨SW.Jy K,wq 0 rfl λp0=>wq 1 rfl λp1=>wh 1 rfl nd λl1 g1=>(dS (sN 1 nd l1 (eu iu (eu mF p0 dU) (eu Bz dU dU))) (dY (eP (eu Ia p1 (xL (eO (ft dU (ii gz dU))) (eu iu p0 dU)))))),SW.Mo h⟩
theorem Km(F:gR K "_law_any_word" "_law_any_word" (gM 43) f):T.D 1 f ["_law_cell"] sR:=
 jn (N:=["_law_cell","_law_left","_law_word"]) F λ_ _ _ _ _ _ _ _ nd hr h=>⟨SW.MV K,wq 0 rfl λp0=>wq 1 rfl λp1=>wq 2 rfl λp2=>wh 1 rfl nd λl1 g1=>wh 2 rfl nd λl2 g2=>(dS (sN 1 nd l1 (eu iu (eE vL (by rfl) T.n0 Cp (fJ p0)) (eu Bz dU dU))) (dS (sN 2 nd l2 eB) (dS (gQ PassesOwn.never (qt KB p1 dU) (dS (sN 2 nd l2 (eu jv (um wc eB (eu iu p1 dU) (λ_ _=>rfl)) p2)) (dY (sN 1 nd l1 (eu iR (eu mF p1 dU) dU))))) (dY (eP p2))))),SW.OE h⟩
theorem KG(F:gR K "_law_whole" "_law_whole" (gM 29) f):T.D 1 f ["_law_found"] kr:=
 jn (N:=["_law_found"]) F λ_ _ _ _ _ _ _ _ nd hr h=>⟨S1.L1 K,wq 0 rfl λp0=>(dY (eP (IZ (eE iT (by rfl) T.n2 fi (ft p0 (jE (v:=.ty "int") (by rfl) T.n3 xB rfl))) (IW (IX (eE iT (by rfl) T.n2 fi (ft p0 (jE (v:=.ty "bool") (by rfl) T.n1 FA rfl)))))))),S1.Nl h⟩
theorem Ih(F:gR K "_law_inside" "_law_inside" (gM 31) f):T.D 1 f ["_law_piece"] gX:=
 jn (N:=["_law_piece"]) F λ_ _ _ _ _ _ _ _ nd hr h=>⟨SW.Js K,wq 0 rfl λp0=>(dS (fB (ky jO (xT p0 dU) (eO (ft eB eB)) (by with_unfolding_all rfl)) (dY (eP (eO fZ))) eV) (dY (eP (hZ nO (by rfl) T.n4 pY (fJ (fe si p0 (fb (eu k0 dU (hZ rb (by rfl) T.n3 xB (fJ (yD jO (xT p0 dU) (eO (ft eB eB)) (by with_unfolding_all rfl)))))) gw)))))),SW.Me h⟩
theorem El(F:gR K "_law_room" "_law_room" (gM 45) f):T.D 1 f ["_law_script","_law_most","_law_bound"] (qH K):=
 jn (N:=["_law_script","_law_most","_law_bound"]) F λ_ _ _ _ _ _ _ _ nd hr h=>⟨SW.Gk K,wq 0 rfl λp0=>wq 1 rfl λp1=>wq 2 rfl λp2=>(dS (fB (qt la (eE dy (by rfl) T.n5 fD (fJ p0)) dU) (dY (eP p2)) eV) (dY (eP p1))),SW.LZ h⟩
theorem Kh(F:gR K "_law_drawn_piece" "_law_drawn_piece" (gM 30) f)(d1:T.D 1 a.f1 ["_law_cell"] sR)(d0:T.D 1 a.f0 ["_law_cell"] rD):T.D 2 f ["_law_cells","_law_stamps"] (iG K):=
 jn (N:=["_law_cells","_law_stamps","_law_pile","_law_cell","_law_rest","_law_way","_law_word","_law_inner","_law_look","_law_name","_law_many","_law_made","_law_last"]) F λ_ _ _ _ _ _ _ _ nd hr h=>⟨SW.MQ K,wq 0 rfl λp0=>wq 1 rfl λp1=>wq 2 rfl λp2=>wq 3 rfl λp3=>wq 4 rfl λp4=>wq 5 rfl λp5=>wq 6 rfl λp6=>wq 7 rfl λp7=>wq 8 rfl λp8=>wq 9 rfl λp9=>wq 10 rfl λp10=>wq 11 rfl λp11=>wq 12 rfl λp12=>wh 2 rfl nd λl2 g2=>wh 3 rfl nd λl3 g3=>wh 4 rfl nd λl4 g4=>wh 5 rfl nd λl5 g5=>wh 6 rfl nd λl6 g6=>wh 7 rfl nd λl7 g7=>wh 8 rfl nd λl8 g8=>wh 9 rfl nd λl9 g9=>wh 10 rfl nd λl10 g10=>wh 11 rfl nd λl11 g11=>wh 12 rfl nd λl12 g12=>(dS (sN 2 nd l2 (eO (fJ (eU (ft eB eB))))) (dS (gL PassesOwn.never rfl (gi p0) g3 (dS (sN 4 nd l4 (eu mF p3 dU)) (dS (sN 5 nd l5 (eu iu p3 dU)) (dS (sN 6 nd l6 (xL (eO (eA eB (eA eB (ft eB eB)))) (eu iu p4 dU))) (dS (fB (qt fg (eu iu p4 dU) dU) (dY (sN 6 nd l6 (eu jv (pc d1 hr T.g1 (fJ (eu mF p4 dU))) eB))) eV) (dS (sN 7 nd l7 (fe gh p2 (fb (ii gz dU)) gw)) (dY (fB (ka (qt fg p5 dU) (kx (iL (qt fg (eE dy (by rfl) T.n5 fD (fJ p7)) dU) (gv (Bp rL rL dU p5 dU))).pt)).pt (dY (eQ (gB aH aP aQ eT p2 (fJ (eU (ft eB (xL (eO (ft (eu iR (eu iu p4 dU) dU) (pc d0 hr T.g0 (fJ p4)))) (hZ rb (by rfl) T.n3 xB (fJ (qe fg (eu iu p4 dU) dU)))))))))) (dY (fB (qt rL p5 dU) (dY (eQ (gB aH aP aQ eT p2 (fJ (eU (ft eB p6)))))) (dY (fB (iL (qt fg p5 dU) (gv (qt fg (eE dy (by rfl) T.n5 fD (fJ p7)) dU))).pt (dY (sN 2 nd l2 (eu jc (fe gh p2 gw (fb (ii gz dU))) (eO (fJ (eU (eA eB (eA (xL p7 dU) (ft (xL p7 dU) (xL p7 dU)))))))))) (dY (fB (qt rL p5 dU) (dY (sN 2 nd l2 (eu jc (fe gh p2 gw (fb (ii gz dU))) (eO (fJ (eU (eA (xL (eO (ft eB eB)) (eu iu p5 dU)) (ft (xL p7 (ii gz dU)) (xL p7 (ii gz dU)))))))))) (dY (fB (qt fg p5 dU) (dS (sN 8 nd l8 (xL p7 (ii gz dU))) (dS (fB (ky jO (xT p8 dU) (eO (ft eB eB)) (by with_unfolding_all rfl)) (dY (sN 8 nd l8 (xT p8 dU))) eV) (dS (fB (iL (qt fg (xT p8 dU) eB) (gv (qt la (eu iu p4 dU) dU))).pt (dY (sN 6 nd l6 (xT p8 dU))) eV) (dY (sN 2 nd l2 (eu jc (fe gh p2 gw (fb (ii gz dU))) (eO (fJ (eU (eA eB (eA p6 (ft (xL p7 (ii gz dU)) (xL p7 (ii gz dU)))))))))))))) (dY (fB (qt (ju hr.units0) p1 (eO fZ)) (dS (jt (xL p1 (eu iu p4 (eE dy (by rfl) T.n5 fD (fJ p1)))) (jb rfl (fH g9 (fH g10 io)))) (dS (sN 10 nd l10 (eE (zv rfl) (by rfl) T.n6 JR (ft p10 (eE dy (by rfl) T.n5 fD (fJ p2))))) (dY (fB (qt fg p10 (xT (xL p1 (eu iu p4 (eE dy (by rfl) T.n5 fD (fJ p1)))) dU)) (dS (sN 11 nd l11 (hZ kR (by rfl) T.n7 kA (fJ (eu jc (eO (ft eB p9)) (fe gh p2 (fb (eu iR (eE dy (by rfl) T.n5 fD (fJ p2)) p10)) gw))))) (dY (sN 2 nd l2 (eu jc (fe gh p2 gw (fb (eu iR (eE dy (by rfl) T.n5 fD (fJ p2)) p10))) (eO (fJ p11)))))) eV)))) eV)))))))))))))))))) (dS (gQ PassesOwn.never (qt la (eE dy (by rfl) T.n5 fD (fJ p2)) dU) (dS (sN 12 nd l12 (jD aH az bA jF p2)) (dY (eQ (gB aH aP aQ eT p2 (fJ (eU (eA eB (ft (jD aH az bA jF p2) p12))))))))) (dY (eP (xL p2 dU)))))),S9.Mh h⟩
theorem Em(F:gR K "_law_drawn_main" "_law_drawn_main" (gM 33) f)(d5:T.D 2 a.f5 ["_law_cells","_law_stamps"] (pL K vT)):T.D 3 f ["_law_cells"] (qJ K):=
 jn (N:=["_law_cells"]) F λ_ _ _ _ _ _ _ _ nd hr h=>⟨SW.HA K vT,wq 0 rfl λp0=>(dY (eP (pc d5 hr T.g5 (ft p0 (eO (eA (eU (ft eB dU)) (eA (eU (ft eB dU)) (ft (eU (ft eB dU)) (eU (ft eB dU)))))))))),SW.La h⟩
theorem Kc(F:gR K "_law_is_piece" "_law_is_piece" (gM 38) f)(d2:T.D 1 a.f2 ["_law_found"] kr)(d3:T.D 1 a.f3 ["_law_piece"] gX):T.D 2 f ["_law_found"] lz:=
 jn (N:=["_law_found","_law_todo","_law_part","_law_sizes"]) F λ_ _ _ _ _ _ _ _ nd hr h=>⟨S10.ML K,wq 0 rfl λp0=>wq 1 rfl λp1=>wq 2 rfl λp2=>wq 3 rfl λp3=>wh 1 rfl nd λl1 g1=>wh 2 rfl nd λl2 g2=>wh 3 rfl nd λl3 g3=>(dS (sN 1 nd l1 (eO (fJ p0))) (dS (gQ PassesOwn.never (qt (ju hr.units0) p1 (eO fZ)) (dS (sN 2 nd l2 (jD aH az bA jF p1)) (dS (fB (ka (jC (ib (eE iT (by rfl) T.n2 fi (ft p2 (jE (v:=.ty "tuple") (by rfl) T.n7 kA rfl))))) (ka (qt rL (eE dy (by rfl) T.n5 fD (fJ p2)) dU) (kx (jC (ib (eE iT (by rfl) T.n2 fi (ft (xT p2 dU) (jE (v:=.ty "str") (by rfl) T.n8 uB rfl)))))))).pt (dY (eP hU)) eV) (dS (sN 3 nd l3 (EZ (kb eB dU (kb eB dU (kb eB dU (kb eB dU (kb eB dU (kb eB dU EU)))))) rfl rfl (by intro z;cases z) (by decide))) (dS (fB (iL (qt lZ (nC (iD hr) p3 (xT p2 dU) dU ⟨rfl,rfl,rfl,rfl⟩) (eE dy (by rfl) T.n5 fD (fJ p2))) (gv (qt lZ (xT p2 dU) eB))).pt (dY (eP hU)) eV) (dS (fB (qt fg (xT p2 dU) eB) (dY (fB (jC (ib (pc d2 hr T.g2 (fJ (xT p2 dU))))) (dY (eP hU)) eV)) (dY (fB (iL (ky jO (xT p2 dU) (eO (eA eB (ft eB eB))) (by with_unfolding_all rfl)) (gv (jC (ib (eE iT (by rfl) T.n2 fi (ft (xT p2 dU) (jE (v:=.ty "str") (by rfl) T.n8 uB rfl))))))).pt (dY (eP hU)) eV))) (dY (sN 1 nd l1 (eu jc p1 (pc d3 hr T.g3 (fJ p2))))))))))) (dY (eP hU)))),S10.N6 h⟩
theorem Kj(F:gR K "_law_drawn_book" "_law_drawn_book" (gM 32) f)(d5:T.D 2 a.f5 ["_law_cells","_law_stamps"] (iG K)):T.D 3 f ["_law_cells","_law_wild"] (sf K):=
 jn (N:=["_law_cells","_law_wild","_law_low","_law_book"]) F λ_ _ _ _ _ _ _ _ nd hr h=>⟨S9.MS K,wq 0 rfl λp0=>wq 1 rfl λp1=>wq 2 rfl λp2=>wq 3 rfl λp3=>wh 2 rfl nd λl2 g2=>wh 3 rfl nd λl3 g3=>(dS (sN 2 nd l2 (eO (eA (eO fZ) (ft (eO (fJ (eU (ft eB dU)))) (eO (ft (eU (ft eB dU)) (eU (ft eB dU)))))))) (dS (fB (ib p1) (dY (jt (eO (fJ (eU (ft eB dU)))) (Bt p2 dU ug))) eV) (dS (sN 3 nd l3 (eO (fJ (eU (eA eB (ft (eO fZ) (pc d5 hr T.g5 (ft (fe gh p0 gw (fb dU)) (xL p2 dU))))))))) (dS (eQ (gB aH aP aQ eT p3 (fJ (eU (eA eB (ft (eO (fJ eB)) (pc d5 hr T.g5 (ft (fe gh p0 (fb dU) (fb dU)) (xL p2 dU))))))))) (dS (eQ (gB aH aP aQ eT p3 (fJ (eU (eA eB (ft (eO (ft eB eB)) (pc d5 hr T.g5 (ft (fe gh p0 (fb dU) (fb dU)) (xL p2 dU))))))))) (dY (eP p3))))))),S9.OC h⟩
theorem Ki(F:gR K "_law_is_done" "_law_is_done" (gM 42) f)(d2:T.D 1 a.f2 ["_law_found"] kr)(d7:T.D 2 a.f7 ["_law_found"] lz):T.D 3 f ["_law_found"] sY:=
 jn (N:=["_law_found","_law_one","_law_k"]) F λ_ _ _ _ _ _ _ _ nd hr h=>⟨S9.MR K,wq 0 rfl λp0=>wq 1 rfl λp1=>wq 2 rfl λp2=>wh 1 rfl nd λl1 g1=>wh 2 rfl nd λl2 g2=>(dS (fB (ka (jC (ib (eE iT (by rfl) T.n2 fi (ft p0 (jE (v:=.ty "tuple") (by rfl) T.n7 kA rfl))))) (ka (qt lZ (eE dy (by rfl) T.n5 fD (fJ p0)) dU) (kx (jC (ib (eE iT (by rfl) T.n2 fi (ft (xT p0 dU) (jE (v:=.ty "str") (by rfl) T.n8 uB rfl)))))))).pt (dY (eP hU)) eV) (dS (fB (ka (qt lZ (xT p0 dU) eB) (ka (jC (ib (pc d2 hr T.g2 (fJ (xT p0 dU))))) (kx (jC (ib (eE iT (by rfl) T.n2 fi (ft (xT p0 dU) (jE (v:=.ty "list") (by rfl) T.n4 pY rfl)))))))).pt (dY (eP hU)) eV) (dS (gL PassesOwn.never rfl (gi (xT p0 dU)) g1 (dS (fB (ka (jC (ib (eE iT (by rfl) T.n2 fi (ft p1 (jE (v:=.ty "tuple") (by rfl) T.n7 kA rfl))))) (ka (qt lZ (eE dy (by rfl) T.n5 fD (fJ p1)) dU) (kx (jC (ib (eE iT (by rfl) T.n2 fi (ft (xT p1 dU) (jE (v:=.ty "str") (by rfl) T.n8 uB rfl)))))))).pt (dY (eP hU)) eV) (dS (fB (jC (ib (eE iT (by rfl) T.n2 fi (ft (xT p1 dU) (jE (v:=.ty "tuple") (by rfl) T.n7 kA rfl))))) (dY (eP hU)) eV) (dY (gL PassesOwn.never rfl (Bs (xT p1 dU)) g2 (dY (fB (jC (ib (pc d2 hr T.g2 (fJ p2)))) (dY (eP hU)) eV))))))) (dY (eP (pc d7 hr T.g7 (fJ (xT p0 dU)))))))),S9.OB h⟩
def M6(s:Stmt):Scope:=match(iI s).getLast? with
 | some (.Return (some (.ListComp _ _ sc _)) _)=>sc
 | _=>fI s
omit T ro rw in
theorem Mz{f:Addr}{cdv:Value}{A:Around}{outer:List Env}{s:Shared}{H:Hp}{E:XK}:iY ((oU vb P w K mg base ["_law_book"] "_law_book_copied" (fI (gM 46)) f cdv A outer s H E).nox) (M6 (gM 46)) [] ["_law_one"] [] []:=
 ⟨rfl,by decide,rfl,by decide,λy c h=>h,λy h=>qd (L:=[((".0":Str),NameKind.local),(("_law_one":Str),NameKind.local),(("list":Str),NameKind.globalImplicit)]) (by simp) h,λk y hy=>by simp at hy,rfl⟩
theorem Kl(F:gR K "_law_book_copied" "_law_book_copied" (gM 46) f):T.D 1 f ["_law_book"] pM:=
 jn (N:=["_law_book"]) F λ_ _ _ _ _ _ _ _ nd hr h=>⟨S9.MU K,wq 0 rfl λp0=>(dY (eP (Bv rfl Mz (gi p0) (λfp s H C=>(eU (eA (xT (pv 0) dU) (ft (hZ nO (by rfl) T.n4 pY (fJ (xT (pv 0) dU))) (xT (pv 0) dU)))))))),S9.Mm h⟩
theorem KQ(F:gR K "_law_reworded" "_law_reworded" (gM 41) f)(d3:T.D 1 a.f3 ["_law_piece"] gX):T.D 2 f ["_law_piece","_law_places","_law_tail"] xu:=
 jn (N:=["_law_piece","_law_places","_law_tail","_law_order","_law_todo","_law_part","_law_own","_law_inner","_law_k","_law_near","_law_pile","_law_many","_law_kids","_law_front"]) F λ_ _ _ _ _ _ _ _ nd hr h=>⟨S8.MC K,wq 0 rfl λp0=>wq 1 rfl λp1=>wq 2 rfl λp2=>wq 3 rfl λp3=>wq 4 rfl λp4=>wq 5 rfl λp5=>wq 6 rfl λp6=>wq 7 rfl λp7=>wq 8 rfl λp8=>wq 9 rfl λp9=>wq 10 rfl λp10=>wq 11 rfl λp11=>wq 12 rfl λp12=>wq 13 rfl λp13=>wh 3 rfl nd λl3 g3=>wh 4 rfl nd λl4 g4=>wh 5 rfl nd λl5 g5=>wh 6 rfl nd λl6 g6=>wh 7 rfl nd λl7 g7=>wh 8 rfl nd λl8 g8=>wh 9 rfl nd λl9 g9=>wh 10 rfl nd λl10 g10=>wh 11 rfl nd λl11 g11=>wh 12 rfl nd λl12 g12=>wh 13 rfl nd λl13 g13=>(dS (sN 3 nd l3 (eO fZ)) (dS (sN 4 nd l4 (eO (fJ (eU (ft p0 p1))))) (dS (gQ PassesOwn.never (qt (ju hr.units0) p4 (eO fZ)) (dS (jt (jD aH az bA jF p4) (jb rfl (fH g5 (fH g6 io)))) (dS (eQ (gB aH aP aQ eT p3 (fJ (eU (ft p5 p6))))) (dS (sN 7 nd l7 (pc d3 hr T.g3 (fJ p5))) (dY (gL PassesOwn.never rfl (kc (by rfl) T.n9 (eA (eu iR (eE dy (by rfl) T.n5 fD (fJ p7)) dU) (ft (ii gz dU) (ii gz dU)))) g8 (dS (sN 9 nd l9 p6) (dS (fB (iL (qt fg (xT p5 dU) eB) (gv (qt fg p8 dU))).pt (dY (sN 9 nd l9 (eu jc p6 (eO (fJ (xT p5 dU)))))) eV) (dY (eQ (gB aH aP aQ eT p4 (fJ (eU (ft (xL p7 p8) p9)))))))))))))) (dS (sN 10 nd l10 (eO fZ)) (dS (gL PassesOwn.never rfl (wN (by rfl) T.n10 p3) (jb rfl (fH g5 (fH g6 io))) (dS (sN 11 nd l11 (eE dy (by rfl) T.n5 fD (fJ (pc d3 hr T.g3 (fJ p5))))) (dS (sN 12 nd l12 (tF rfl (by rfl) T.n4 (by rfl) T.n10 (fe gh p10 (fb (eu iR (eE dy (by rfl) T.n5 fD (fJ p10)) p11)) gw))) (dS (sN 10 nd l10 (fe gh p10 gw (fb (eu iR (eE dy (by rfl) T.n5 fD (fJ p10)) p11)))) (dS (sN 13 nd l13 (eO (fJ (xT p5 dU)))) (dS (fB (ky jO (xT p5 dU) (eO (eA eB (eA eB (ft eB eB)))) (by with_unfolding_all rfl)) (dY (eQ (gB aH aP aQ eT p13 (fJ (xT p5 dU))))) eV) (dS (fB (ka (qt fg (xT p5 dU) eB) (kx (iL (qt fg (xT p5 dU) eB) (gv (ky jO (xT p5 dU) p6 (by with_unfolding_all rfl)))).pt)).pt (dY (jt (eu jv (xT p5 dU) p2) (Bt p13 dU ug))) eV) (dY (eQ (gB aH aP aQ eT p10 (fJ (hZ kR (by rfl) T.n7 kA (fJ (eu jc p13 p12)))))))))))))) (dY (eP (xL p10 dU)))))))),S8.Nx h⟩
theorem Ig(F:gR K "_law_origins" "_law_origins" (gM 40) f):T.D 1 f ["_law_tree"] x0:=
 jn (N:=["_law_tree","_law_row","_law_todo","_law_node"]) F λ_ _ _ _ _ _ _ _ nd hr h=>⟨S8.Jr K,wq 0 rfl λp0=>wq 1 rfl λp1=>wq 2 rfl λp2=>wq 3 rfl λp3=>wh 1 rfl nd λl1 g1=>wh 2 rfl nd λl2 g2=>wh 3 rfl nd λl3 g3=>(dS (sN 1 nd l1 (eO fZ)) (dS (sN 2 nd l2 (eO (fJ p0))) (dS (gQ PassesOwn.never (qt (ju hr.units0) p2 (eO fZ)) (dS (sN 3 nd l3 (jD aH az bA jF p2)) (dS (eQ (gB aH aP aQ eT p1 (fJ (xT p3 dU)))) (dY (sN 2 nd l2 (eu jc p2 (tF rfl (by rfl) T.n4 (by rfl) T.n10 (xT p3 dU)))))))) (dY (eP p1))))),S8.Md h⟩
theorem KZ(F:gR K "_law_noted" "_law_noted" (gM 34) f)(d3:T.D 1 a.f3 ["_law_piece"] gX):T.D 2 f ["_law_piece","_law_source","_law_given","_law_count"] mz:=
 jn (N:=["_law_piece","_law_source","_law_given","_law_count","_law_order","_law_todo","_law_part","_law_path","_law_own","_law_inner","_law_k","_law_near","_law_pile","_law_many","_law_kids","_law_extra"]) F λ_ _ _ _ _ _ _ _ nd hr h=>⟨S3.MI K,wq 0 rfl λp0=>wq 1 rfl λp1=>wq 2 rfl λp2=>wq 3 rfl λp3=>wq 4 rfl λp4=>wq 5 rfl λp5=>wq 6 rfl λp6=>wq 7 rfl λp7=>wq 8 rfl λp8=>wq 9 rfl λp9=>wq 10 rfl λp10=>wq 11 rfl λp11=>wq 12 rfl λp12=>wq 13 rfl λp13=>wq 14 rfl λp14=>wq 15 rfl λp15=>wh 4 rfl nd λl4 g4=>wh 5 rfl nd λl5 g5=>wh 6 rfl nd λl6 g6=>wh 7 rfl nd λl7 g7=>wh 8 rfl nd λl8 g8=>wh 9 rfl nd λl9 g9=>wh 10 rfl nd λl10 g10=>wh 11 rfl nd λl11 g11=>wh 12 rfl nd λl12 g12=>wh 13 rfl nd λl13 g13=>wh 14 rfl nd λl14 g14=>wh 15 rfl nd λl15 g15=>(dS (sN 4 nd l4 (eO fZ)) (dS (sN 5 nd l5 (eO (fJ (eU (eA p0 (ft (eU fZ) iQ)))))) (dS (gQ PassesOwn.never (qt (ju hr.units0) p5 (eO fZ)) (dS (jt (jD aH az bA jF p5) (jb rfl (fH g6 (fH g7 (fH g8 io))))) (dS (eQ (gB aH aP aQ eT p4 (fJ (eU (eA p6 (ft p7 p8)))))) (dS (sN 9 nd l9 (pc d3 hr T.g3 (fJ p6))) (dY (gL PassesOwn.never rfl (kc (by rfl) T.n9 (eA (eu iR (eE dy (by rfl) T.n5 fD (fJ p9)) dU) (ft (ii gz dU) (ii gz dU)))) g10 (dS (sN 11 nd l11 p8) (dS (fB (iL (qt fg (xT p6 dU) eB) (gv (qt fg p10 dU))).pt (dS (sN 11 nd l11 (hZ lD (by rfl) T.n11 pZ (fJ p8))) (dY (jS (iD hr) p11 (xT p6 dU) (eu k0 p3 (eE dy (by rfl) T.n5 fD (fJ p4))) rfl))) eV) (dY (eQ (gB aH aP aQ eT p5 (fJ (eU (eA (xL p9 p10) (ft (eu tI p7 (eU (fJ p10))) p11))))))))))))))) (dS (sN 12 nd l12 (eO fZ)) (dS (gL PassesOwn.never rfl (kc (by rfl) T.n9 (eA (eu iR (eE dy (by rfl) T.n5 fD (fJ p4)) dU) (ft (ii gz dU) (ii gz dU)))) g10 (dS (jt (xL p4 p10) (jb rfl (fH g6 (fH g7 (fH g8 io))))) (dS (sN 13 nd l13 (eE dy (by rfl) T.n5 fD (fJ (pc d3 hr T.g3 (fJ p6))))) (dS (sN 14 nd l14 (tF rfl (by rfl) T.n4 (by rfl) T.n10 (fe gh p12 (fb (eu iR (eE dy (by rfl) T.n5 fD (fJ p12)) p13)) gw))) (dS (sN 12 nd l12 (fe gh p12 gw (fb (eu iR (eE dy (by rfl) T.n5 fD (fJ p12)) p13)))) (dS (sN 15 nd l15 wO) (dS (fB (ky jO (xT p6 dU) (eO (eA eB (ft eB eB))) (by with_unfolding_all rfl)) (dY (sN 15 nd l15 (xT p6 dU))) eV) (dS (fB (qt fg (xT p6 dU) eB) (dY (sN 15 nd l15 (eu k0 (eu k0 p3 p10) dU))) eV) (dS (fB (iL (qt fg (xT p6 dU) eB) (gv (mZ (tG (iD hr) (xT p6 dU) p8)))).pt (dY (sN 15 nd l15 (nE (iD hr) p8 (xT p6 dU) (λ_ _=>rfl)))) eV) (dY (fB (iL (qt fg (xT p6 dU) eB) (iL (mZ (oG (iD hr) (xT p6 dU) p8)) (gv (mZ (tG (iD hr) (xT p6 dU) p2))))).pt (dY (eQ (gB aH aP aQ eT p12 (fJ (nE (iD hr) p2 (xT p6 dU) (λ_ _=>rfl)))))) (dY (eQ (gB aH aP aQ eT p12 (fJ (eU (eA (xT p6 dU) (eA p15 (ft (eU (ft p1 p7)) p14))))))))))))))))))) (dY (eP (eU (ft (xL p12 dU) (eu k0 p3 (eE dy (by rfl) T.n5 fD (fJ p4)))))))))))),S3.N3 h⟩
theorem Ke(F:gR K "_law_goes_with" "_law_goes_with" (gM 39) f)(d3:T.D 1 a.f3 ["_law_piece"] gX):T.D 2 f ["_law_found","_law_tree"] sW:=
 jn (N:=["_law_found","_law_tree","_law_todo","_law_part","_law_node","_law_forth","_law_back","_law_inner","_law_k","_law_near","_law_far"]) F λ_ _ _ _ _ _ _ _ nd hr h=>⟨S3.MN K,wq 0 rfl λp0=>wq 1 rfl λp1=>wq 2 rfl λp2=>wq 3 rfl λp3=>wq 4 rfl λp4=>wq 5 rfl λp5=>wq 6 rfl λp6=>wq 7 rfl λp7=>wq 8 rfl λp8=>wq 9 rfl λp9=>wq 10 rfl λp10=>wh 2 rfl nd λl2 g2=>wh 3 rfl nd λl3 g3=>wh 4 rfl nd λl4 g4=>wh 5 rfl nd λl5 g5=>wh 6 rfl nd λl6 g6=>wh 7 rfl nd λl7 g7=>wh 8 rfl nd λl8 g8=>wh 9 rfl nd λl9 g9=>wh 10 rfl nd λl10 g10=>(dS (sN 2 nd l2 (eO (fJ (eU (eA p0 (eA p1 (ft iQ iQ))))))) (dS (gQ PassesOwn.never (qt (ju hr.units0) p2 (eO fZ)) (dS (jt (jD aH az bA jF p2) (jb rfl (fH g3 (fH g4 (fH g5 (fH g6 io)))))) (dS (fB (qt lZ (xT p3 dU) (xT p4 dU)) (dY (eP hU)) eV) (dS (fB (iL (qt fg (xT p3 dU) eB) (gv (qt lZ (xT p3 dU) (xT p4 dU)))).pt (dY (eP hU)) eV) (dS (fB (qt fg (xT p3 dU) eB) (dS (fB (qt lZ (nC (iD hr) p5 (xT p3 dU) (xT p3 dU) ⟨rfl,rfl,rfl,rfl⟩) (xT p4 dU)) (dY (eP hU)) eV) (dY (fB (qt lZ (nC (iD hr) p6 (xT p4 dU) (xT p3 dU) ⟨rfl,rfl,rfl,rfl⟩) (xT p3 dU)) (dY (eP hU)) eV))) eV) (dS (sN 7 nd l7 (pc d3 hr T.g3 (fJ p3))) (dS (fB (qt lZ (eE dy (by rfl) T.n5 fD (fJ p7)) (eE dy (by rfl) T.n5 fD (fJ (xT p4 dU)))) (dY (eP hU)) eV) (dY (gL PassesOwn.never rfl (rK (by rfl) T.n9 (fJ (eE dy (by rfl) T.n5 fD (fJ p7)))) g8 (dS (sN 9 nd l9 p5) (dS (sN 10 nd l10 p6) (dS (fB (iL (qt fg (xT p3 dU) eB) (gv (qt fg p8 dU))).pt (dS (sN 9 nd l9 (hZ lD (by rfl) T.n11 pZ (fJ p5))) (dS (jS (iD hr) p9 (xT p3 dU) (xT p4 dU) rfl) (dS (sN 10 nd l10 (hZ lD (by rfl) T.n11 pZ (fJ p6))) (dY (jS (iD hr) p10 (xT p4 dU) (xT p3 dU) rfl))))) eV) (dY (eQ (gB aH aP aQ eT p2 (fJ (eU (eA (xL p7 p8) (eA (xL (xT p4 dU) p8) (ft p9 p10)))))))))))))))))))) (dY (eP hU)))),S3.N8 h⟩
theorem Kf(F:gR K "_law_first_stamp" "_law_first_stamp" (gM 35) f):T.D 1 f ["_law_tree"] uf:=
 jn (N:=["_law_tree","_law_todo","_law_node","_law_path","_law_k"]) F λ_ _ _ _ _ _ _ _ nd hr h=>⟨S8.MO K,wq 0 rfl λp0=>wq 1 rfl λp1=>wq 2 rfl λp2=>wq 3 rfl λp3=>wq 4 rfl λp4=>wh 1 rfl nd λl1 g1=>wh 2 rfl nd λl2 g2=>wh 3 rfl nd λl3 g3=>wh 4 rfl nd λl4 g4=>(dS (sN 1 nd l1 (eO (fJ (eU (ft p0 (eO fZ)))))) (dS (gQ PassesOwn.never (qt (ju hr.units0) p1 (eO fZ)) (dS (jt (jD aH az bA jF p1) (jb rfl (fH g2 (fH g3 io)))) (dS (fB (qt fg (xT p2 dU) eB) (dY (eP p3)) eV) (dY (gL PassesOwn.never rfl (kc (by rfl) T.n9 (eA (eu iR (eE dy (by rfl) T.n5 fD (fJ (xT p2 dU))) dU) (ft (ii gz dU) (ii gz dU)))) g4 (dY (eQ (gB aH aP aQ eT p1 (fJ (eU (ft (xL (xT p2 dU) p4) (eu jc p3 (eO (fJ p4)))))))))))))) (dY (eP wO)))),S8.N9 h⟩
theorem KU(F:gR K "_law_placed" "_law_placed" (gM 36) f):T.D 1 f ["_law_tree","_law_path","_law_made"] xy:=
 jn (N:=["_law_tree","_law_path","_law_made","_law_above","_law_node","_law_k","_law_j","_law_kids"]) F λ_ _ _ _ _ _ _ _ nd hr h=>⟨S8.MF K,wq 0 rfl λp0=>wq 1 rfl λp1=>wq 2 rfl λp2=>wq 3 rfl λp3=>wq 4 rfl λp4=>wq 5 rfl λp5=>wq 6 rfl λp6=>wq 7 rfl λp7=>wh 2 rfl nd λl2 g2=>wh 3 rfl nd λl3 g3=>wh 4 rfl nd λl4 g4=>wh 5 rfl nd λl5 g5=>wh 6 rfl nd λl6 g6=>wh 7 rfl nd λl7 g7=>(dS (sN 3 nd l3 (eO fZ)) (dS (sN 4 nd l4 p0) (dS (gL PassesOwn.never rfl (gi p1) g5 (dS (eQ (gB aH aP aQ eT p3 (fJ p4))) (dY (sN 4 nd l4 (xL (xT p4 dU) p5))))) (dS (gL PassesOwn.never rfl (kc (by rfl) T.n9 (eA (eu iR (eE dy (by rfl) T.n5 fD (fJ p1)) dU) (ft (ii gz dU) (ii gz dU)))) g6 (dS (sN 4 nd l4 (xL p3 p6)) (dS (sN 7 nd l7 (eu jc (eu jc (fe gh (xT p4 dU) gw (fb (xL p1 p6))) (eO (fJ p2))) (fe gh (xT p4 dU) (fb (eu k0 (xL p1 p6) dU)) gw))) (dY (sN 2 nd l2 (eU (eA (xT p4 dU) (eA (xT p4 dU) (ft (xT p4 dU) p7))))))))) (dY (eP p2)))))),S8.N0 h⟩
def M5(s:Stmt):Scope:=match((iI s)[3]?:Option Stmt) with
 | some (.While _ b _ _)=>(match(b[2]?:Option Stmt) with
  | some (.Assign _ (.Subscript (.ListComp _ _ sc _) _ _) _)=>sc
  | _=>fI s)
 | _=>fI s
omit T ro rw in
theorem My{f:Addr}{cdv:Value}{A:Around}{outer:List Env}{s:Shared}{H:Hp}{E:XK}:iY ((oU vb P w K mg base ["_law_book","_law_piece","_law_fuel","_law_tree","_law_count","_law_many","_law_path","_law_node","_law_k","_law_stamp","_law_given","_law_body"] "_law_laid" (fI (gM 37)) f cdv A outer s H E).nox) (M5 (gM 37)) [("_law_node",s.heap.objs.size+1)] ["_law_one"] ["_law_node"] [7]:=
 ⟨rfl,by decide,rfl,by decide,λy c h=>h,λy h=>qd (L:=[((".0":Str),NameKind.local),(("_law_one":Str),NameKind.local),(("_law_node":Str),NameKind.cell)]) (by simp) h,λk y hy=>match k,hy with|0,hy=>by cases hy;exact⟨7,rfl,rfl,rfl,.inl rfl⟩,rfl⟩
theorem Kb(F:gR K "_law_laid" "_law_laid" (gM 37) f)(d13:T.D 2 a.f13 ["_law_piece","_law_source","_law_given","_law_count"] mz)(d15:T.D 1 a.f15 ["_law_tree"] uf)(d16:T.D 1 a.f16 ["_law_tree","_law_path","_law_made"] xy):T.D 3 f ["_law_book","_law_piece","_law_fuel"] qK:=
 jn (N:=["_law_book","_law_piece","_law_fuel","_law_tree","_law_count","_law_many","_law_path","_law_node","_law_k","_law_stamp","_law_given","_law_body"]) F λ_ _ _ _ _ _ _ _ nd hr h=>⟨S8.MK K,wq 0 rfl λp0=>wq 1 rfl λp1=>wq 2 rfl λp2=>wq 3 rfl λp3=>wq 4 rfl λp4=>wq 5 rfl λp5=>wq 6 rfl λp6=>wq 7 rfl λp7=>wq 8 rfl λp8=>wq 9 rfl λp9=>wq 10 rfl λp10=>wq 11 rfl λp11=>wh 3 rfl nd λl3 g3=>wh 4 rfl nd λl4 g4=>wh 5 rfl nd λl5 g5=>wh 6 rfl nd λl6 g6=>wh 7 rfl nd λl7 g7=>wh 8 rfl nd λl8 g8=>wh 9 rfl nd λl9 g9=>wh 10 rfl nd λl10 g10=>wh 11 rfl nd λl11 g11=>(dS (jt (pc d13 hr T.g13 (eA p1 (eA eB (ft iQ dU)))) (jb rfl (fH g3 (fH g4 io)))) (dS (sN 5 nd l5 dU) (dS (sN 6 nd l6 (pc d15 hr T.g15 (fJ p3))) (dS (gQ PassesOwn.never (iL (qt Ee p6 wO) (gv (qt B8 p5 p2))).pt (dS (sN 7 nd l7 p3) (dS (gL PassesOwn.never rfl (gi p6) g8 (dY (sN 7 nd l7 (xL (xT p7 dU) p8)))) (dS (sN 9 nd l9 (xL (wQ (xr:=[]) rfl My (gi p0) (λfp s H C=>mC (i:=0) (by show(["_law_one","_law_node"]:List Str).Nodup;decide) rfl (bF rfl) (.inr rfl)) (λfp s H C=>ES (qt fg (xT (pv 0) dU) (xT (pv 1) dU))) (λfp s H C=>(pv 0))) dU)) (dS (sN 10 nd l10 iQ) (dS (gL PassesOwn.never rfl (rK (by rfl) T.n9 (fJ (eE dy (by rfl) T.n5 fD (fJ (xT p7 dU))))) g8 (dY (jS (iD hr) p10 (xL (xT p9 dU) p8) (xL (xT p7 dU) p8) rfl))) (dS (jt (pc d13 hr T.g13 (eA (xT p9 dU) (eA (xT p9 dU) (ft p10 p4)))) (jb rfl (fH g11 (fH g4 io)))) (dS (sN 3 nd l3 (pc d16 hr T.g16 (eA p3 (ft p6 p11)))) (dS (sN 5 nd l5 (eu k0 p5 dU)) (dY (sN 6 nd l6 (pc d15 hr T.g15 (fJ p3))))))))))))) (dY (eP (eU (ft p3 p5)))))))),S8.N5 h⟩
theorem CA(F:gR K "parts" "parts" (gM 4) f):T.D 1 f ["piece"] jB:=
 jn (N:=["piece","kind"]) F λ_ _ _ _ _ _ _ _ nd hr h=>⟨SW.DR K,wq 0 rfl λp0=>wq 1 rfl λp1=>wh 1 rfl nd λl1 g1=>(dS (sN 1 nd l1 (xT p0 dU)) (dS (fB (ka (qt fg p1 eB) (kx (qt fg p1 eB))).pt (dY (eP (eU fZ))) eV) (dS (fB (ka (qt fg p1 eB) (kx (qt fg p1 eB))).pt (dY (eP (fe si p0 (fb dU) gw))) eV) (dY (eP (fe si p0 (fb dU) gw)))))),S9.Jb h⟩
theorem Kg(F:gR K "every_piece" "every_piece" (gM 5) f)(d18:T.D 1 a.f18 ["piece"] jB):T.D 2 f ["piece"] mB:=
 jn (N:=["piece","found","waiting","current"]) F λ_ _ _ _ _ _ _ _ nd hr h=>⟨S9.MP K,wq 0 rfl λp0=>wq 1 rfl λp1=>wq 2 rfl λp2=>wq 3 rfl λp3=>wh 1 rfl nd λl1 g1=>wh 2 rfl nd λl2 g2=>wh 3 rfl nd λl3 g3=>(dS (sN 1 nd l1 (eO fZ)) (dS (sN 2 nd l2 (eO (fJ p0))) (dS (gQ PassesOwn.never (qt la (eE dy (by rfl) T.n5 fD (fJ p2)) dU) (dS (sN 3 nd l3 (jD aH az bA jF p2)) (dS (eQ (gB aH aP aQ eT p1 (fJ p3))) (dY (eQ (gB aH cM cN wU p2 (fJ (pc d18 hr T.g18 (fJ p3))))))))) (dY (eP p1))))),S9.OA h⟩
theorem KD(F:gR K "with_word" "with_word" (gM 6) f):T.D 1 f ["words","word","value"] jJ:=
 jn (N:=["words","word","value","more"]) F λ_ _ _ _ _ _ _ _ nd hr h=>⟨SW.Lx K,wq 0 rfl λp0=>wq 1 rfl λp1=>wq 2 rfl λp2=>wq 3 rfl λp3=>wh 3 rfl nd λl3 g3=>(dS (sN 3 nd l3 (hZ lD (by rfl) T.n11 pZ (fJ p0))) (dS (jS (iD hr) p3 p1 p2 rfl) (dY (eP p3)))),SW.Nh h⟩
def Ky(s:Stmt):Scope:=match(iI s).getLast? with
 | some (.Return (some (.ListComp _ _ sc _)) _)=>sc
 | _=>fI s
omit T ro rw in
theorem Kx{f:Addr}{cdv:Value}{A:Around}{outer:List Env}{s:Shared}{H:Hp}{E:XK}:iY ((oU vb P w K mg base ["piece","lets"] "pieces_with_lets" (fI (gM 7)) f cdv A outer s H E).nox) (Ky (gM 7)) [("lets",s.heap.objs.size+1)] ["part"] ["lets"] [1]:=
 ⟨rfl,by decide,rfl,by decide,λy c h=>h,λy h=>qd (L:=[((".0":Str),NameKind.local),(("part":Str),NameKind.local),(("lets":Str),NameKind.cell)]) (by simp) h,λk y hy=>match k,hy with|0,hy=>by cases hy;exact⟨1,rfl,rfl,rfl,.inl rfl⟩,rfl⟩
theorem Ic(F:gR K "pieces_with_lets" "pieces_with_lets" (gM 7) f)(d20:T.D 1 a.f20 ["words","word","value"] jJ)(d18:T.D 1 a.f18 ["piece"] sU):T.D 2 f ["piece","lets"] ue:=
 jn (N:=["piece","lets"]) F λ_ _ _ _ _ _ _ _ nd hr h=>⟨SW.Jp K,wq 0 rfl λp0=>wq 1 rfl λp1=>(dS (fB (qt fg (xT p0 dU) eB) (dY (eP (eO (ft (eU (ft (xT p0 dU) (pc d20 hr T.g20 (eA p1 (ft (xT p0 dU) hU))))) (eU (ft (xT p0 dU) p1)))))) eV) (dY (eP (Bv rfl Kx (Bs (pc d18 hr T.g18 (fJ p0))) (λfp s H C=>(eU (ft (pv 0) (pv 1)))))))),SW.Mb h⟩
theorem Ie(F:gR K "outside_names" "outside_names" (gM 8) f)(d21:T.D 2 a.f21 ["piece","lets"] ue):T.D 3 f ["piece"] qI:=
 jn (N:=["piece","found","waiting","pair","current","lets"]) F λ_ _ _ _ _ _ _ _ nd hr h=>⟨SW.Jq K,wq 0 rfl λp0=>wq 1 rfl λp1=>wq 2 rfl λp2=>wq 3 rfl λp3=>wq 4 rfl λp4=>wq 5 rfl λp5=>wh 1 rfl nd λl1 g1=>wh 2 rfl nd λl2 g2=>wh 3 rfl nd λl3 g3=>wh 4 rfl nd λl4 g4=>wh 5 rfl nd λl5 g5=>(dS (sN 1 nd l1 iQ) (dS (sN 2 nd l2 (eO (fJ (eU (ft p0 iQ))))) (dS (gQ PassesOwn.never (qt la (eE dy (by rfl) T.n5 fD (fJ p2)) dU) (dS (sN 3 nd l3 (jD aH az bA jF p2)) (dS (sN 4 nd l4 (xT p3 dU)) (dS (sN 5 nd l5 (xT p3 dU)) (dS (fB (iL (qt fg (xT p4 dU) eB) (gv (mZ (oG (iD hr) (xT p4 dU) p5)))).pt (dY (jS (iD hr) p1 (xT p4 dU) hU rfl)) eV) (dY (eQ (gB aH cM cN oI p2 (fJ (pc d21 hr T.g21 (ft p4 p5))))))))))) (dY (eP (eE (tw rfl) (by rfl) T.n12 AA (fJ p1))))))),SW.Mc h⟩
theorem Ib(F:gR K "stamps_by_word" "stamps_by_word" (gM 10) f):T.D 1 f ["book"] kW:=
 jn (N:=["book","stamps","stamp"]) F λ_ _ _ _ _ _ _ _ nd hr h=>⟨S9.Jo K,wq 0 rfl λp0=>wq 1 rfl λp1=>wq 2 rfl λp2=>wh 1 rfl nd λl1 g1=>wh 2 rfl nd λl2 g2=>(dS (sN 1 nd l1 iQ) (dS (gL PassesOwn.never rfl (gi p0) g2 (dY (jS (iD hr) p1 (xT p2 dU) p2 rfl))) (dY (eP p1)))),S9.Ma h⟩
theorem Ij(F:gR K "check_use" "check_use" (gM 11) f)(d18:T.D 1 a.f18 ["piece"] jB):T.D 2 f ["stamps","use"] sT:=
 jn (N:=["stamps","use","word","handed","places"]) F λ_ _ _ _ _ _ _ _ nd hr h=>⟨S9.Ju K,wq 0 rfl λp0=>wq 1 rfl λp1=>wq 2 rfl λp2=>wq 3 rfl λp3=>wq 4 rfl λp4=>wh 2 rfl nd λl2 g2=>wh 3 rfl nd λl3 g3=>wh 4 rfl nd λl4 g4=>(dS (sN 2 nd l2 (xT p1 dU)) (dS (fB (mZ (oG (iD hr) p2 p0)) (dY ul) eV) (dS (sN 3 nd l3 (eE dy (by rfl) T.n5 fD (fJ (pc d18 hr T.g18 (fJ p1))))) (dS (sN 4 nd l4 (eE dy (by rfl) T.n5 fD (fJ (xT (nE (iD hr) p0 p2 (λ_ _=>rfl)) dU)))) (dY (fB (qt lZ p3 p4) (dY ul) eV)))))),S9.Mi h⟩
theorem Ik(F:gR K "check_piece" "check_piece" (gM 12) f)(d19:T.D 2 a.f19 ["piece"] mB)(d24:T.D 2 a.f24 ["stamps","use"] sT):T.D 3 f ["stamps","piece"] qM:=
 jn (N:=["stamps","piece","current"]) F λ_ _ _ _ _ _ _ _ nd hr h=>⟨S9.Jv K,wq 0 rfl λp0=>wq 1 rfl λp1=>wq 2 rfl λp2=>wh 2 rfl nd λl2 g2=>(dY (gL PassesOwn.never rfl (gi (pc d19 hr T.g19 (fJ p1))) g2 (dY (fB (qt fg (xT p2 dU) eB) (dY (eQ (pc d24 hr T.g24 (ft p0 p2)))) eV)))),S9.Mj h⟩
theorem Il(F:gR K "check_stamps" "check_stamps" (gM 13) f)(d23:T.D 1 a.f23 ["book"] kW)(d25:T.D 3 a.f25 ["stamps","piece"] qM):T.D 4 f ["book","piece"] sZ:=
 jn (N:=["book","piece","stamps","stamp"]) F λ_ _ _ _ _ _ _ _ nd hr h=>⟨S9.Jw K,wq 0 rfl λp0=>wq 1 rfl λp1=>wq 2 rfl λp2=>wq 3 rfl λp3=>wh 2 rfl nd λl2 g2=>wh 3 rfl nd λl3 g3=>(dS (sN 2 nd l2 (pc d23 hr T.g23 (fJ p0))) (dS (eQ (pc d25 hr T.g25 (ft p2 p1))) (dY (gL PassesOwn.never rfl (gi p0) g3 (dY (eQ (pc d25 hr T.g25 (ft p2 (xT p3 dU))))))))),S9.Ml h⟩
theorem KY(F:gR K "numbered_word" "numbered_word" (gM 16) f):T.D 1 f ["number"] sV:=
 jn (N:=["number","word","rest"]) F λ_ _ _ _ _ _ _ _ nd hr h=>⟨S9.MH K,let ⟨_,v0⟩:=T.u0;wq 0 rfl λp0=>wq 1 rfl λp1=>wq 2 rfl λp2=>wh 1 rfl nd λl1 g1=>wh 2 rfl nd λl2 g2=>(dS (sN 1 nd l1 (um wc (mE (v:=.str "abcdefghijklmnopqrstuvwxyz") (by rfl) v0 ⟨_,rfl⟩) (eu iu p0 (eE jl (by rfl) T.n5 fD (fJ (mE (v:=.str "abcdefghijklmnopqrstuvwxyz") (by rfl) v0 ⟨_,rfl⟩)))) (λ_ _=>rfl))) (dS (sN 2 nd l2 (eu mF p0 (eE jl (by rfl) T.n5 fD (fJ (mE (v:=.str "abcdefghijklmnopqrstuvwxyz") (by rfl) v0 ⟨_,rfl⟩))))) (dS (gQ PassesOwn.never (qt la p2 dU) (dS (sN 1 nd l1 (eu jv (um wc (mE (v:=.str "abcdefghijklmnopqrstuvwxyz") (by rfl) v0 ⟨_,rfl⟩) (eu iu (eu iR p2 dU) (eE jl (by rfl) T.n5 fD (fJ (mE (v:=.str "abcdefghijklmnopqrstuvwxyz") (by rfl) v0 ⟨_,rfl⟩)))) (λ_ _=>rfl)) p1)) (dY (sN 2 nd l2 (eu mF (eu iR p2 dU) (eE jl (by rfl) T.n5 fD (fJ (mE (v:=.str "abcdefghijklmnopqrstuvwxyz") (by rfl) v0 ⟨_,rfl⟩)))))))) (dY (eP p1))))),S9.N2 h⟩
theorem KF(F:gR K "__init__" "FreshWords.__init__" (gC (gM 17) 0) f):T.D 1 f ["self","taken"] (x6 a.o1):=
 jn (N:=["self","taken","word"]) F λ_ _ _ _ _ _ _ _ nd hr h=>⟨S9.L0 K a.o1,wq 0 rfl λp0=>wq 1 rfl λp1=>wq 2 rfl λp2=>wh 2 rfl nd λl2 g2=>(dS (ma p0 iQ rfl) (dS (gL PassesOwn.never rfl (gi p1) g2 (dY (jS (iD hr) (ir p0 rfl) p2 hU rfl))) (dY (ma p0 dU rfl)))),S9.Nj rw h⟩
theorem KH(F:gR K "fresh" "FreshWords.fresh" (gC (gM 17) 1) f)(d27:T.D 1 a.f27 ["number"] sV):T.D 2 f ["self","word"] (pK a.o1):=
 jn (N:=["self","word","free"]) F λ_ _ _ _ _ _ _ _ nd hr h=>⟨S9.L3 K a.o1,wq 0 rfl λp0=>wq 1 rfl λp1=>wq 2 rfl λp2=>wh 2 rfl nd λl2 g2=>(dS (sN 2 nd l2 p1) (dS (gQ PassesOwn.never (mZ (tG (iD hr) p2 (ir p0 rfl))) (dS (sN 2 nd l2 (pc d27 hr T.g27 (fJ (ir p0 rfl)))) (dY (oF p0 dU wj)))) (dS (jS (iD hr) (ir p0 rfl) p2 hU rfl) (dY (eP p2))))),S9.Nm rw h⟩
theorem Io(F:gR K "all_outside_names" "all_outside_names" (gM 19) f)(d22:T.D 3 a.f22 ["piece"] qI):T.D 4 f ["book","piece"] x8:=
 jn (N:=["book","piece","words","stamp"]) F λ_ _ _ _ _ _ _ _ nd hr h=>⟨S9.Jx K,wq 0 rfl λp0=>wq 1 rfl λp1=>wq 2 rfl λp2=>wq 3 rfl λp3=>wh 2 rfl nd λl2 g2=>wh 3 rfl nd λl3 g3=>(dS (sN 2 nd l2 (pc d22 hr T.g22 (fJ p1))) (dS (gL PassesOwn.never rfl (gi p0) g3 (dY (eQ (gB aH cM cN oI p2 (fJ (pc d22 hr T.g22 (fJ (xT p3 dU)))))))) (dY (eP p2)))),S9.Mn h⟩
def M4(s:Stmt):Scope:=match(iI s).getLast? with
 | some (.Return (some (.ListComp _ _ sc _)) _)=>sc
 | _=>fI s
omit T ro rw in
theorem Mx{f:Addr}{cdv:Value}{A:Around}{outer:List Env}{s:Shared}{H:Hp}{E:XK}:iY ((oU vb P w K mg base ["spot"] "spots_within" (fI (gM 20)) f cdv A outer s H E).nox) (M4 (gM 20)) [("spot",s.heap.objs.size+1)] ["place","part"] ["spot"] [0]:=
 ⟨rfl,by decide,rfl,by decide,λy c h=>h,λy h=>qd (L:=[((".0":Str),NameKind.local),(("place":Str),NameKind.local),(("part":Str),NameKind.local),(("spot":Str),NameKind.cell)]) (by simp) h,λk y hy=>match k,hy with|0,hy=>by cases hy;exact⟨0,rfl,rfl,rfl,.inl rfl⟩,rfl⟩
theorem KO(F:gR K "spots_within" "spots_within" (gM 20) f)(d18:T.D 1 a.f18 ["piece"] jB):T.D 2 f ["spot"] jA:=
 jn (N:=["spot"]) F λ_ _ _ _ _ _ _ _ nd hr h=>⟨S9.MA K,wq 0 rfl λp0=>(dY (eP (IY rfl Mx (EW (by rfl) T.n13 (pc d18 hr T.g18 (fJ (xT p0 dU)))) (λfp s H C=>jb rfl (fH (mC (i:=0) (by show(["place","part","spot"]:List Str).Nodup;decide) rfl (bF rfl) (.inr rfl)) (fH (mC (i:=1) (by show(["place","part","spot"]:List Str).Nodup;decide) rfl (bF rfl) (.inr rfl)) io))) Om (λfp s H C=>(eU (eA (pv 1) (eA (xT (pv 2) dU) (ft (eu tI (xT (pv 2) dU) (eU (fJ (pv 0)))) (xT (pv 2) dU))))))))),S9.Nv h⟩
theorem Kd(F:gR K "has_stamps_to_open" "has_stamps_to_open" (gM 21) f)(d19:T.D 2 a.f19 ["piece"] mB)(d22:T.D 3 a.f22 ["piece"] qI):T.D 4 f ["spot"] x5:=
 jn (N:=["spot","piece","word"]) F λ_ _ _ _ _ _ _ _ nd hr h=>⟨S9.MM K,wq 0 rfl λp0=>wq 1 rfl λp1=>wq 2 rfl λp2=>wh 1 rfl nd λl1 g1=>wh 2 rfl nd λl2 g2=>(dS (gL PassesOwn.never rfl (gi (pc d19 hr T.g19 (fJ (xT p0 dU)))) g1 (dY (fB (qt fg (xT p1 dU) eB) (dY (eP hU)) eV))) (dS (gL PassesOwn.never rfl (gi (pc d22 hr T.g22 (fJ (xT p0 dU)))) g2 (dY (fB (iL (mZ (tG (iD hr) p2 (xT p0 dU))) (gv (qt fg (xT (nE (iD hr) (xT p0 dU) p2 (λ_ _=>rfl)) dU) eB))).pt (dY (eP hU)) eV))) (dY (eP hU)))),S9.N7 h⟩
theorem KR(F:gR K "row_at" "row_at" (gM 22) f):T.D 1 f ["spot","head","many"] oh:=
 jn (N:=["spot","head","many"]) F λ_ _ _ _ _ _ _ _ nd hr h=>⟨S9.MD K,wq 0 rfl λp0=>wq 1 rfl λp1=>wq 2 rfl λp2=>(dY (eP (eU (eA eB (eA p1 (ft p2 (eU (ft (xT p0 dU) (xT p0 dU))))))))),S9.Ny h⟩
theorem KW(F:gR K "__init__" "Opening.__init__" (gC (gM 23) 0) f)(d23:T.D 1 a.f23 ["book"] kW)(d30:T.D 4 a.f30 ["book","piece"] x8)(d28:T.D 1 a.f28 ["self","taken"] (x6 a.o1))(M1:Mk K a.o1 a.f28):T.D 5 f ["self","book","piece","fuel"] (BH a.o0 a.o1):=
 jn (N:=["self","book","piece","fuel"]) F λ_ _ _ _ _ _ _ _ nd hr h=>⟨S9.MG K a.o0 a.o1,wq 0 rfl λp0=>wq 1 rfl λp1=>wq 2 rfl λp2=>wq 3 rfl λp3=>(dS (ma p0 (pc d23 hr T.g23 (fJ p1)) rfl) (dS (ma p0 (pk M1 d28 hr T.c1 (fJ (pc d30 hr T.g30 (ft p1 p2)))) rfl) (dS (ma p0 p3 rfl) (dS (ma p0 dU rfl) (dY (ma p0 (eO fZ) rfl)))))),S9.N1 ro h⟩
theorem KJ(F:gR K "take_name" "Opening.take_name" (gC (gM 23) 5) f)(d33:T.D 1 a.f33 ["spot","head","many"] oh):T.D 2 f ["self","spot","waiting","rows"] BF:=
 jn (N:=["self","spot","waiting","rows","word","meaning"]) F λ_ _ _ _ _ _ _ _ nd hr h=>⟨S9.L5 K a.o0 a.o1,wq 1 rfl λp1=>wq 2 rfl λp2=>wq 3 rfl λp3=>wq 4 rfl λp4=>wq 5 rfl λp5=>wh 4 rfl nd λl4 g4=>wh 5 rfl nd λl5 g5=>(dS (sN 4 nd l4 (xT (xT p1 dU) dU)) (dS (sN 5 nd l5 (nC (iD hr) (xT p1 dU) p4 (eU (ft eB p4)) ⟨rfl,rfl,rfl,rfl⟩)) (dY (fB (qt fg (xT p5 dU) eB) (dY (eQ (gB aH aP aQ eT p2 (fJ (xT p5 dU))))) (dY (fB (qt fg (xT p5 dU) eB) (dY (eQ (gB aH aP aQ eT p3 (fJ p5)))) (dY (eQ (gB aH aP aQ eT p3 (fJ (pc d33 hr T.g33 (eA p1 (ft (eU (ft eB (xT p5 dU))) dU))))))))))))),S9.Nt h⟩
theorem KI(F:gR K "take_plain" "Opening.take_plain" (gC (gM 23) 7) f)(d31:T.D 2 a.f31 ["spot"] jA)(d33:T.D 1 a.f33 ["spot","head","many"] oh):T.D 3 f ["self","spot","waiting","rows"] BE:=
 jn (N:=["self","spot","waiting","rows","piece","inner","part"]) F λ_ _ _ _ _ _ _ _ nd hr h=>⟨S9.L4 K a.o0 a.o1,wq 1 rfl λp1=>wq 2 rfl λp2=>wq 3 rfl λp3=>wq 4 rfl λp4=>wq 5 rfl λp5=>wq 6 rfl λp6=>wh 4 rfl nd λl4 g4=>wh 5 rfl nd λl5 g5=>wh 6 rfl nd λl6 g6=>(dS (sN 4 nd l4 (xT p1 dU)) (dS (sN 5 nd l5 (pc d31 hr T.g31 (fJ p1))) (dS (eQ (gB aH aP aQ eT p3 (fJ (pc d33 hr T.g33 (eA p1 (ft (fe EE p4 gw (fb (eu iR (eE dy (by rfl) T.n5 fD (fJ p4)) (eE dy (by rfl) T.n5 fD (fJ p5))))) (eE dy (by rfl) T.n5 fD (fJ p5)))))))) (dY (gL PassesOwn.never rfl (wN (by rfl) T.n10 p5) g6 (dY (eQ (gB aH aP aQ eT p2 (fJ p6))))))))),S9.Nr h⟩
theorem KL(F:gR K "take_let" "Opening.take_let" (gC (gM 23) 6) f)(d29:T.D 2 a.f29 ["self","word"] (pK a.o1))(m29:lq K a.o1 "fresh" a.f29)(d31:T.D 2 a.f31 ["spot"] jA)(d33:T.D 1 a.f33 ["spot","head","many"] oh)(d20:T.D 1 a.f20 ["words","word","value"] jJ):T.D 3 f ["self","spot","waiting","rows"] (BG a.o0 a.o1):=
 jn (N:=["self","spot","waiting","rows","own","word","inner","other"]) F λ_ _ _ _ _ _ _ _ nd hr h=>⟨S9.L7 K a.o0 a.o1,wq 0 rfl λp0=>wq 1 rfl λp1=>wq 2 rfl λp2=>wq 3 rfl λp3=>wq 4 rfl λp4=>wq 5 rfl λp5=>wq 6 rfl λp6=>wq 7 rfl λp7=>wh 4 rfl nd λl4 g4=>wh 5 rfl nd λl5 g5=>wh 6 rfl nd λl6 g6=>wh 7 rfl nd λl7 g7=>(dS (sN 4 nd l4 (xT (xT p1 dU) dU)) (dS (sN 5 nd l5 (pm (ir p0 rfl) T.l1 m29 d29 hr (fJ p4))) (dS (sN 6 nd l6 (pc d31 hr T.g31 (fJ p1))) (dS (sN 7 nd l7 (xL p6 dU)) (dS (eQ (gB aH aP aQ eT p3 (fJ (pc d33 hr T.g33 (eA p1 (ft (eU (ft eB p5)) dU)))))) (dS (eQ (gB aH aP aQ eT p2 (fJ (eU (eA (xT p7 dU) (eA (xT p7 dU) (ft (xT p7 dU) (pc d20 hr T.g20 (eA (xT p1 dU) (ft p4 (eU (ft eB p5)))))))))))) (dY (eQ (gB aH aP aQ eT p2 (fJ (xL p6 dU))))))))))),S9.Nu ro h⟩
theorem Im(F:gR K "body_of" "Opening.body_of" (gC (gM 23) 3) f):T.D 1 f ["self","spot"] BJ:=K8 F λ_ _ _ _ h=>⟨h.1,h.2⟩
theorem KM(F:gR K "take" "Opening.take" (gC (gM 23) 2) f)(d38:T.D 1 a.f38 ["self","spot"] BJ)(m38:lq K a.o0 "body_of" a.f38)(d35:T.D 2 a.f35 ["self","spot","waiting","rows"] BF)(m35:lq K a.o0 "take_name" a.f35)(d37:T.D 3 a.f37 ["self","spot","waiting","rows"] (BG a.o0 a.o1))(m37:lq K a.o0 "take_let" a.f37)(d36:T.D 3 a.f36 ["self","spot","waiting","rows"] BE)(m36:lq K a.o0 "take_plain" a.f36):T.D 4 f ["self","spot","waiting","rows"] (xt a.o0 a.o1):=
 jn (N:=["self","spot","waiting","rows","kind"]) F λ_ _ _ _ _ _ _ _ nd hr h=>⟨S9.L8 K a.o0 a.o1,wq 0 rfl λp0=>wq 1 rfl λp1=>wq 2 rfl λp2=>wq 3 rfl λp3=>wq 4 rfl λp4=>wh 4 rfl nd λl4 g4=>(dS (sN 4 nd l4 (xT (xT p1 dU) dU)) (dY (fB (qt fg p4 eB) (dS (oF p0 dU wj) (dY (eQ (gB aH aP aQ eT p2 (fJ (pm p0 T.l0 m38 d38 hr (fJ p1))))))) (dY (fB (qt fg p4 eB) (dY (eQ (pm p0 T.l0 m35 d35 hr (eA p1 (ft p2 p3))))) (dY (fB (qt fg p4 eB) (dY (eQ (pm p0 T.l0 m37 d37 hr (eA p1 (ft p2 p3))))) (dY (eQ (pm p0 T.l0 m36 d36 hr (eA p1 (ft p2 p3)))))))))))),S9.MZ h⟩
theorem Ek(F:gR K "rows_of" "Opening.rows_of" (gC (gM 23) 1) f)(d39:T.D 4 a.f39 ["self","spot","waiting","rows"] (xt a.o0 a.o1))(m39:lq K a.o0 "take" a.f39):T.D 5 f ["self","spot"] (pJ a.o0 a.o1):=
 jn (N:=["self","spot","rows","waiting"]) F λ_ _ _ _ _ _ _ _ nd hr h=>⟨S9.Gj K a.o0 a.o1,wq 0 rfl λp0=>wq 1 rfl λp1=>wq 2 rfl λp2=>wq 3 rfl λp3=>wh 2 rfl nd λl2 g2=>wh 3 rfl nd λl3 g3=>(dS (sN 2 nd l2 (eO fZ)) (dS (sN 3 nd l3 (eO (fJ p1))) (dS (gQ PassesOwn.never (iL (qt la (eE dy (by rfl) T.n5 fD (fJ p3)) dU) (gv (qt B8 (ir p0 rfl) (ir p0 rfl)))).pt (dY (eQ (pm p0 T.l0 m39 d39 hr (eA (jD aH az bA jF p3) (ft p3 p2)))))) (dY (eP p2))))),S9.J5 ro h⟩
theorem Ka(F:gR K "meaning_of" "Opening.meaning_of" (gC (gM 23) 4) f)(d32:T.D 4 a.f32 ["spot"] x5)(d40:T.D 5 a.f40 ["self","spot"] (pJ a.o0 a.o1))(m40:lq K a.o0 "rows_of" a.f40):T.D 6 f ["self","handed"] (EC a.o0 a.o1):=
 jn (N:=["self","handed"]) F λ_ _ _ _ _ _ _ _ nd hr h=>⟨S9.MJ K a.o0 a.o1,wq 0 rfl λp0=>wq 1 rfl λp1=>(dS (fB (ib (pc d32 hr T.g32 (fJ p1))) (dY (eP (eU (ft eB p1)))) eV) (dS (eQ (gB aH aP aQ eT (ir p0 rfl) (fJ (pm p0 T.l0 m40 d40 hr (fJ p1))))) (dY (eP (eU (ft eB (eu iR (eE dy (by rfl) T.n5 fD (fJ (ir p0 rfl))) dU))))))),S9.N4 ro h⟩
theorem Kk(F:gR K "body_of" "Opening.body_of" (gC (gM 23) 3) f)(d31:T.D 2 a.f31 ["spot"] jA)(d41:T.D 6 a.f41 ["self","handed"] (EC a.o0 a.o1))(m41:lq K a.o0 "meaning_of" a.f41):T.D 7 f ["self","spot"] (ED a.o0 a.o1):=
 jn (N:=["self","spot","stamp","names","place","handed"]) F λ_ _ _ _ _ _ _ _ nd hr h=>⟨S9.MT K a.o0 a.o1,wq 0 rfl λp0=>wq 1 rfl λp1=>wq 2 rfl λp2=>wq 3 rfl λp3=>wq 4 rfl λp4=>wq 5 rfl λp5=>wh 2 rfl nd λl2 g2=>wh 3 rfl nd λl3 g3=>wh 4 rfl nd λl4 g4=>wh 5 rfl nd λl5 g5=>(dS (sN 2 nd l2 (nE (iD hr) (ir p0 rfl) (xT (xT p1 dU) dU) (λ_ _=>rfl))) (dS (sN 3 nd l3 iQ) (dS (gL PassesOwn.never rfl (EV (by rfl) T.n14 (xT p2 dU) (pc d31 hr T.g31 (fJ p1))) (jb rfl (fH g4 (fH g5 io))) (dY (jS (iD hr) p3 p4 (pm p0 T.l0 m41 d41 hr (fJ p5)) rfl))) (dY (eP (eU (eA (xT p2 dU) (eA (xT p2 dU) (ft (eU fZ) p3))))))))),S9.OD ro h⟩
theorem KN(F:gR K "take" "Opening.take" (gC (gM 23) 2) f)(d38:T.D 7 a.f38 ["self","spot"] (ED a.o0 a.o1))(m38:lq K a.o0 "body_of" a.f38)(d35:T.D 2 a.f35 ["self","spot","waiting","rows"] BF)(m35:lq K a.o0 "take_name" a.f35)(d37:T.D 3 a.f37 ["self","spot","waiting","rows"] (BG a.o0 a.o1))(m37:lq K a.o0 "take_let" a.f37)(d36:T.D 3 a.f36 ["self","spot","waiting","rows"] BE)(m36:lq K a.o0 "take_plain" a.f36):T.D 8 f ["self","spot","waiting","rows"] (xq a.o0 a.o1):=
 jn (N:=["self","spot","waiting","rows","kind"]) F λ_ _ _ _ _ _ _ _ nd hr h=>⟨S9.L9 K a.o0 a.o1,wq 0 rfl λp0=>wq 1 rfl λp1=>wq 2 rfl λp2=>wq 3 rfl λp3=>wq 4 rfl λp4=>wh 4 rfl nd λl4 g4=>(dS (sN 4 nd l4 (xT (xT p1 dU) dU)) (dY (fB (qt fg p4 eB) (dS (oF p0 dU wj) (dY (eQ (gB aH aP aQ eT p2 (fJ (pm p0 T.l0 m38 d38 hr (fJ p1))))))) (dY (fB (qt fg p4 eB) (dY (eQ (pm p0 T.l0 m35 d35 hr (eA p1 (ft p2 p3))))) (dY (fB (qt fg p4 eB) (dY (eQ (pm p0 T.l0 m37 d37 hr (eA p1 (ft p2 p3))))) (dY (eQ (pm p0 T.l0 m36 d36 hr (eA p1 (ft p2 p3)))))))))))),S9.MY ro h⟩
theorem Ej(F:gR K "rows_of" "Opening.rows_of" (gC (gM 23) 1) f)(d39:T.D 8 a.f39 ["self","spot","waiting","rows"] (xq a.o0 a.o1))(m39:lq K a.o0 "take" a.f39):T.D 9 f ["self","spot"] (my a.o0 a.o1):=
 jn (N:=["self","spot","rows","waiting"]) F λ_ _ _ _ _ _ _ _ nd hr h=>⟨S9.Gh K a.o0 a.o1,wq 0 rfl λp0=>wq 1 rfl λp1=>wq 2 rfl λp2=>wq 3 rfl λp3=>wh 2 rfl nd λl2 g2=>wh 3 rfl nd λl3 g3=>(dS (sN 2 nd l2 (eO fZ)) (dS (sN 3 nd l3 (eO (fJ p1))) (dS (gQ PassesOwn.never (iL (qt la (eE dy (by rfl) T.n5 fD (fJ p3)) dU) (gv (qt B8 (ir p0 rfl) (ir p0 rfl)))).pt (dY (eQ (pm p0 T.l0 m39 d39 hr (eA (jD aH az bA jF p3) (ft p3 p2)))))) (dY (eP p2))))),S9.J4 ro h⟩
theorem KS(F:gR K "piece_of" "piece_of" (gM 24) f):T.D 1 f ["rows","written"] EB:=
 jn (N:=["rows","written","made","row","inner"]) F λ_ _ _ _ _ _ _ _ nd hr h=>⟨S9.ME K,wq 0 rfl λp0=>wq 1 rfl λp1=>wq 2 rfl λp2=>wq 3 rfl λp3=>wq 4 rfl λp4=>wh 2 rfl nd λl2 g2=>wh 3 rfl nd λl3 g3=>wh 4 rfl nd λl4 g4=>(dS (sN 2 nd l2 (eO fZ)) (dS (gL PassesOwn.never rfl (wN (by rfl) T.n10 p0) g3 (dY (fB (qt fg (xT p3 dU) eB) (dY (eQ (gB aH aP aQ eT p2 (fJ (xT (xL p1 (xT p3 dU)) dU))))) (dS (sN 4 nd l4 (eO fZ)) (dS (gQ PassesOwn.never (qt rL (eE dy (by rfl) T.n5 fD (fJ p4)) (xT p3 dU)) (dY (eQ (gB aH aP aQ eT p4 (fJ (jD aH az bA jF p2)))))) (dY (eQ (gB aH aP aQ eT p2 (fJ (eu tI (xT p3 dU) (hZ kR (by rfl) T.n7 kA (fJ p4)))))))))))) (dY (eP (jD aH az bA jF p2))))),S9.Nz h⟩
theorem KP(F:gR K "sources_of" "sources_of" (gM 25) f):T.D 1 f ["rows","written"] S9.J1:=
 jn (N:=["rows","written","sources","row"]) F λ_ _ _ _ _ _ _ _ nd hr h=>⟨S9.MB K,wq 0 rfl λp0=>wq 1 rfl λp1=>wq 2 rfl λp2=>wq 3 rfl λp3=>wh 2 rfl nd λl2 g2=>wh 3 rfl nd λl3 g3=>(dS (sN 2 nd l2 (eO fZ)) (dS (gL PassesOwn.never rfl (gi p0) g3 (dY (fB (qt fg (xT p3 dU) eB) (dY (eQ (gB aH cM cN oI p2 (fJ (xT (xL p1 (xT p3 dU)) dU))))) (dY (eQ (gB aH aP aQ eT p2 (fJ (xT p3 dU)))))))) (dY (eP p2)))),S9.Nw h⟩
theorem KE(F:gR K "write_out" "write_out" (gM 26) f)(d43:T.D 1 a.f43 ["rows","written"] S9.J1)(d42:T.D 1 a.f42 ["rows","written"] EB):T.D 2 f ["rows","written"] vo:=
 jn (N:=["rows","written"]) F λ_ _ _ _ _ _ _ _ nd hr h=>⟨S9.Lz K,wq 0 rfl λp0=>wq 1 rfl λp1=>(dY (eP (eU (ft (pc d42 hr T.g42 (ft p0 p1)) (pc d43 hr T.g43 (ft p0 p1)))))),S9.Ni h⟩
theorem Ii(F:gR K "expanded" "expanded" (gM 27) f)(d26:T.D 4 a.f26 ["book","piece"] sZ)(d34:T.D 5 a.f34 ["self","book","piece","fuel"] (BH a.o0 a.o1))(M0:Mk K a.o0 a.f34)(d40:T.D 9 a.f40 ["self","spot"] (my a.o0 a.o1))(m40:lq K a.o0 "rows_of" a.f40)(d44:T.D 2 a.f44 ["rows","written"] vo):T.D 10 f ["book","piece","fuel"] (sX a.o0 a.o1):=
 jn (N:=["book","piece","fuel","opening","rows","written","earlier","left"]) F λ_ _ _ _ _ _ _ _ nd hr h=>⟨S9.Jt K a.o0 a.o1,wq 0 rfl λp0=>wq 1 rfl λp1=>wq 2 rfl λp2=>wq 3 rfl λp3=>wq 4 rfl λp4=>wq 5 rfl λp5=>wq 6 rfl λp6=>wq 7 rfl λp7=>wh 3 rfl nd λl3 g3=>wh 4 rfl nd λl4 g4=>wh 5 rfl nd λl5 g5=>wh 6 rfl nd λl6 g6=>wh 7 rfl nd λl7 g7=>(dS (eQ (pc d26 hr T.g26 (ft p0 p1))) (dS (sN 3 nd l3 (pk M0 d34 hr T.c0 (eA p0 (ft p1 p2)))) (dS (sN 4 nd l4 (pm p3 T.l0 m40 d40 hr (fJ (eU (eA p1 (eA eB (ft (eU fZ) iQ))))))) (dS (fB (qt la (ir p3 rfl) p2) (dY (eP (eU (fJ eB)))) eV) (dS (sN 5 nd l5 (eO fZ)) (dS (gL PassesOwn.never rfl (gi (ir p3 rfl)) g6 (dY (eQ (gB aH aP aQ eT p5 (fJ (pc d44 hr T.g44 (ft p6 p5))))))) (dS (sN 7 nd l7 (pc d44 hr T.g44 (ft p4 p5))) (dY (eP (eU (eA eB (eA (xT p7 dU) (ft (xT p7 dU) (ir p3 rfl)))))))))))))),S9.Mf ro h⟩
def Iy(s:Stmt):Scope:=match((iI s)[7]?:Option Stmt) with
 | some (.For _ _ b _ _)=>(match(b[0]?:Option Stmt) with
  | some (.Assign _ (.ListComp _ _ sc _) _)=>sc
  | _=>fI s)
 | _=>fI s
omit T ro rw in
theorem Iw{f:Addr}{cdv:Value}{A:Around}{outer:List Env}{s:Shared}{H:Hp}{E:XK}:iY ((oU vb P w K mg base ["_law_script","_law_top","_law_book","_law_piece","_law_tree","_law_many","_law_other","_law_one","_law_places","_law_rows","_law_fuel","_law_found"] "law" (fI (gM 47)) f cdv A outer s H E).nox) (Iy (gM 47)) [] ["_law_word"] [] []:=
 ⟨rfl,by decide,rfl,by decide,λy c h=>h,λy h=>qd (L:=[((".0":Str),NameKind.local),(("_law_word":Str),NameKind.local)]) (by simp) h,λk y hy=>by simp at hy,rfl⟩
theorem Eo{fd:FuncData}(F:GC K "law" "law" (gM 47) f fd)(d4:T.D 1 a.f4 ["_law_script","_law_most","_law_bound"] (qH K))(d8:T.D 3 a.f8 ["_law_cells","_law_wild"] (sf K))(d6:T.D 3 a.f6 ["_law_cells"] (qJ K))(d17:T.D 3 a.f17 ["_law_book","_law_piece","_law_fuel"] qK)(d11:T.D 2 a.f11 ["_law_piece","_law_places","_law_tail"] xu)(d0:T.D 1 a.f0 ["_law_cell"] rD)(d10:T.D 1 a.f10 ["_law_book"] pM)(d45:T.D 10 a.f45 ["book","piece","fuel"] (sX a.o0 a.o1))(d14:T.D 2 a.f14 ["_law_found","_law_tree"] sW)(d9:T.D 3 a.f9 ["_law_found"] sY)(d12:T.D 1 a.f12 ["_law_tree"] x0):lu P w K mg base vb 11 f fd ["_law_script"] (S1.Ng K):=
 Oj (N:=["_law_script","_law_top","_law_book","_law_piece","_law_tree","_law_many","_law_other","_law_one","_law_places","_law_rows","_law_fuel","_law_found"]) F λ_ _ _ _ _ _ _ _ nd hr h=>⟨S8.HD K a.o0 a.o1,wq 0 rfl λp0=>wq 1 rfl λp1=>wq 2 rfl λp2=>wq 3 rfl λp3=>wq 4 rfl λp4=>wq 5 rfl λp5=>wq 6 rfl λp6=>wq 7 rfl λp7=>wq 8 rfl λp8=>wq 9 rfl λp9=>wq 10 rfl λp10=>wq 11 rfl λp11=>wh 1 rfl nd λl1 g1=>wh 2 rfl nd λl2 g2=>wh 3 rfl nd λl3 g3=>wh 4 rfl nd λl4 g4=>wh 5 rfl nd λl5 g5=>wh 6 rfl nd λl6 g6=>wh 7 rfl nd λl7 g7=>wh 8 rfl nd λl8 g8=>wh 9 rfl nd λl9 g9=>wh 10 rfl nd λl10 g10=>wh 11 rfl nd λl11 g11=>(dS (sN 1 nd l1 (pc d4 hr T.g4 (eA p0 (ft dU dU)))) (dS (sN 2 nd l2 (pc d8 hr T.g8 (ft (fe gh p0 (fb dU) (fb dU)) hU))) (dS (sN 3 nd l3 (pc d6 hr T.g6 (fJ (fe gh p0 (fb dU) (fb (eu k0 dU (pc d4 hr T.g4 (eA p0 (ft dU dU))))))))) (dS (fB (qt la (xT (pc d17 hr T.g17 (eA p2 (ft p3 p1))) dU) p1) (dY (sN 3 nd l3 (pc d6 hr T.g6 (fJ (fe gh p0 (fb dU) (fb dU)))))) eV) (dS (jt (pc d17 hr T.g17 (eA p2 (ft p3 p1))) (jb rfl (fH g4 (fH g5 io)))) (dS (fB (qt la p5 p1) (dY (eP hU)) eV) (dS (sN 6 nd l6 (eO fZ)) (dS (gL PassesOwn.never rfl (gi p2) g7 (dS (IU rfl Iw (gi (xT p7 dU)) (λfp s H C=>(eu jv (pv 0) eB)) nd l8) (dY (eQ (gB aH aP aQ eT p6 (fJ (eU (eA (xT p7 dU) (ft p8 (pc d11 hr T.g11 (eA (xT p7 dU) (ft (xT p7 dU) eB)))))))))))) (dS (gL PassesOwn.never rfl (gi (eO (ft p2 p6))) g9 (dS (sN 10 nd l10 (eu k0 p1 (eE vL (by rfl) T.n0 Cp (fJ (pc d0 hr T.g0 (fJ (xL (eu Eh (eO (fJ dU)) p0) (ii gz dU)))))))) (dS (sN 11 nd l11 (pc d45 hr T.g45 (eA (pc d10 hr T.g10 (fJ p9)) (ft p3 p10)))) (dS (fB (ka (jC (ib (pc d9 hr T.g9 (fJ p11)))) (kx (jC (ib (pc d14 hr T.g14 (ft (xT p11 dU) p4)))))).pt (dY (eP hU)) eV) (dY (fB (qt (Ef hr.units) (xT p11 dU) (pc d12 hr T.g12 (fJ p4))) (dY (eP hU)) eV)))))) (dY (eP hU))))))))))),S8.Lb h⟩
end
theorem NI{l:PySem.W.OpenLaw}{w:World}{K:aA}{h:Heap}{mg:Str→Option Value}{fa:Addr}(X:K.In h)(G:h.Ns mainGlobals mg)(hfa:mg "law"=some (.ref fa))
  {f0 f1 f2 f3 f4 f5 f6 f7 f8 f9 f10 f11 f12 f13 f14 f15 f16 f17 f18 f19 f20 f21 f22 f23 f24 f25 f26 f27 f28 f29 f30 f31 f32 f33 f34 f35 f36 f37 f38 f39 f40 f41 f42 f43 f44 f45 f46 C0 C1:Addr} {tk0:Tok}
  (aC0:PySem.W.nsIn K mainGlobals "Opening"=some (some (.ref C0)))
  (aC1:PySem.W.nsIn K mainGlobals "FreshWords"=some (some (.ref C1)))
  (a0:PySem.W.nsIn K mainGlobals "_law_any"=some (some (.ref f0)))
  (F0:gR K "_law_any" "_law_any" (gM 44) f0)
  (a1:PySem.W.nsIn K mainGlobals "_law_any_word"=some (some (.ref f1)))
  (F1:gR K "_law_any_word" "_law_any_word" (gM 43) f1)
  (a2:PySem.W.nsIn K mainGlobals "_law_whole"=some (some (.ref f2)))
  (F2:gR K "_law_whole" "_law_whole" (gM 29) f2)
  (a3:PySem.W.nsIn K mainGlobals "_law_inside"=some (some (.ref f3)))
  (F3:gR K "_law_inside" "_law_inside" (gM 31) f3)
  (a4:PySem.W.nsIn K mainGlobals "_law_room"=some (some (.ref f4)))
  (F4:gR K "_law_room" "_law_room" (gM 45) f4)
  (a5:PySem.W.nsIn K mainGlobals "_law_drawn_piece"=some (some (.ref f5)))
  (F5:gR K "_law_drawn_piece" "_law_drawn_piece" (gM 30) f5)
  (a6:PySem.W.nsIn K mainGlobals "_law_drawn_main"=some (some (.ref f6)))
  (F6:gR K "_law_drawn_main" "_law_drawn_main" (gM 33) f6)
  (a7:PySem.W.nsIn K mainGlobals "_law_is_piece"=some (some (.ref f7)))
  (F7:gR K "_law_is_piece" "_law_is_piece" (gM 38) f7)
  (a8:PySem.W.nsIn K mainGlobals "_law_drawn_book"=some (some (.ref f8)))
  (F8:gR K "_law_drawn_book" "_law_drawn_book" (gM 32) f8)
  (a9:PySem.W.nsIn K mainGlobals "_law_is_done"=some (some (.ref f9)))
  (F9:gR K "_law_is_done" "_law_is_done" (gM 42) f9)
  (a10:PySem.W.nsIn K mainGlobals "_law_book_copied"=some (some (.ref f10)))
  (F10:gR K "_law_book_copied" "_law_book_copied" (gM 46) f10)
  (a11:PySem.W.nsIn K mainGlobals "_law_reworded"=some (some (.ref f11)))
  (F11:gR K "_law_reworded" "_law_reworded" (gM 41) f11)
  (a12:PySem.W.nsIn K mainGlobals "_law_origins"=some (some (.ref f12)))
  (F12:gR K "_law_origins" "_law_origins" (gM 40) f12)
  (a13:PySem.W.nsIn K mainGlobals "_law_noted"=some (some (.ref f13)))
  (F13:gR K "_law_noted" "_law_noted" (gM 34) f13)
  (a14:PySem.W.nsIn K mainGlobals "_law_goes_with"=some (some (.ref f14)))
  (F14:gR K "_law_goes_with" "_law_goes_with" (gM 39) f14)
  (a15:PySem.W.nsIn K mainGlobals "_law_first_stamp"=some (some (.ref f15)))
  (F15:gR K "_law_first_stamp" "_law_first_stamp" (gM 35) f15)
  (a16:PySem.W.nsIn K mainGlobals "_law_placed"=some (some (.ref f16)))
  (F16:gR K "_law_placed" "_law_placed" (gM 36) f16)
  (a17:PySem.W.nsIn K mainGlobals "_law_laid"=some (some (.ref f17)))
  (F17:gR K "_law_laid" "_law_laid" (gM 37) f17)
  (a18:PySem.W.nsIn K mainGlobals "parts"=some (some (.ref f18)))
  (F18:gR K "parts" "parts" (gM 4) f18)
  (a19:PySem.W.nsIn K mainGlobals "every_piece"=some (some (.ref f19)))
  (F19:gR K "every_piece" "every_piece" (gM 5) f19)
  (a20:PySem.W.nsIn K mainGlobals "with_word"=some (some (.ref f20)))
  (F20:gR K "with_word" "with_word" (gM 6) f20)
  (a21:PySem.W.nsIn K mainGlobals "pieces_with_lets"=some (some (.ref f21)))
  (F21:gR K "pieces_with_lets" "pieces_with_lets" (gM 7) f21)
  (a22:PySem.W.nsIn K mainGlobals "outside_names"=some (some (.ref f22)))
  (F22:gR K "outside_names" "outside_names" (gM 8) f22)
  (a23:PySem.W.nsIn K mainGlobals "stamps_by_word"=some (some (.ref f23)))
  (F23:gR K "stamps_by_word" "stamps_by_word" (gM 10) f23)
  (a24:PySem.W.nsIn K mainGlobals "check_use"=some (some (.ref f24)))
  (F24:gR K "check_use" "check_use" (gM 11) f24)
  (a25:PySem.W.nsIn K mainGlobals "check_piece"=some (some (.ref f25)))
  (F25:gR K "check_piece" "check_piece" (gM 12) f25)
  (a26:PySem.W.nsIn K mainGlobals "check_stamps"=some (some (.ref f26)))
  (F26:gR K "check_stamps" "check_stamps" (gM 13) f26)
  (a27:PySem.W.nsIn K mainGlobals "numbered_word"=some (some (.ref f27)))
  (F27:gR K "numbered_word" "numbered_word" (gM 16) f27)
  (a28:PySem.W.findIn K (.ref C1) "__init__"=some (some (.ref f28)))
  (i28:PySem.W.isFn K (.ref f28)=true)
  (F28:gR K "__init__" "FreshWords.__init__" (gC (gM 17) 0) f28)
  (a29:PySem.W.findIn K (.ref C1) "fresh"=some (some (.ref f29)))
  (i29:PySem.W.isFn K (.ref f29)=true)
  (F29:gR K "fresh" "FreshWords.fresh" (gC (gM 17) 1) f29)
  (a30:PySem.W.nsIn K mainGlobals "all_outside_names"=some (some (.ref f30)))
  (F30:gR K "all_outside_names" "all_outside_names" (gM 19) f30)
  (a31:PySem.W.nsIn K mainGlobals "spots_within"=some (some (.ref f31)))
  (F31:gR K "spots_within" "spots_within" (gM 20) f31)
  (a32:PySem.W.nsIn K mainGlobals "has_stamps_to_open"=some (some (.ref f32)))
  (F32:gR K "has_stamps_to_open" "has_stamps_to_open" (gM 21) f32)
  (a33:PySem.W.nsIn K mainGlobals "row_at"=some (some (.ref f33)))
  (F33:gR K "row_at" "row_at" (gM 22) f33)
  (a34:PySem.W.findIn K (.ref C0) "__init__"=some (some (.ref f34)))
  (i34:PySem.W.isFn K (.ref f34)=true)
  (F34:gR K "__init__" "Opening.__init__" (gC (gM 23) 0) f34)
  (a35:PySem.W.findIn K (.ref C0) "take_name"=some (some (.ref f35)))
  (i35:PySem.W.isFn K (.ref f35)=true)
  (F35:gR K "take_name" "Opening.take_name" (gC (gM 23) 5) f35)
  (a36:PySem.W.findIn K (.ref C0) "take_plain"=some (some (.ref f36)))
  (i36:PySem.W.isFn K (.ref f36)=true)
  (F36:gR K "take_plain" "Opening.take_plain" (gC (gM 23) 7) f36)
  (a37:PySem.W.findIn K (.ref C0) "take_let"=some (some (.ref f37)))
  (i37:PySem.W.isFn K (.ref f37)=true)
  (F37:gR K "take_let" "Opening.take_let" (gC (gM 23) 6) f37)
  (a38:PySem.W.findIn K (.ref C0) "body_of"=some (some (.ref f38)))
  (i38:PySem.W.isFn K (.ref f38)=true)
  (F38:gR K "body_of" "Opening.body_of" (gC (gM 23) 3) f38)
  (a39:PySem.W.findIn K (.ref C0) "take"=some (some (.ref f39)))
  (i39:PySem.W.isFn K (.ref f39)=true)
  (F39:gR K "take" "Opening.take" (gC (gM 23) 2) f39)
  (a40:PySem.W.findIn K (.ref C0) "rows_of"=some (some (.ref f40)))
  (i40:PySem.W.isFn K (.ref f40)=true)
  (F40:gR K "rows_of" "Opening.rows_of" (gC (gM 23) 1) f40)
  (a41:PySem.W.findIn K (.ref C0) "meaning_of"=some (some (.ref f41)))
  (i41:PySem.W.isFn K (.ref f41)=true)
  (F41:gR K "meaning_of" "Opening.meaning_of" (gC (gM 23) 4) f41)
  (a42:PySem.W.nsIn K mainGlobals "piece_of"=some (some (.ref f42)))
  (F42:gR K "piece_of" "piece_of" (gM 24) f42)
  (a43:PySem.W.nsIn K mainGlobals "sources_of"=some (some (.ref f43)))
  (F43:gR K "sources_of" "sources_of" (gM 25) f43)
  (a44:PySem.W.nsIn K mainGlobals "write_out"=some (some (.ref f44)))
  (F44:gR K "write_out" "write_out" (gM 26) f44)
  (a45:PySem.W.nsIn K mainGlobals "expanded"=some (some (.ref f45)))
  (F45:gR K "expanded" "expanded" (gM 27) f45)
  (a46:PySem.W.nsIn K mainGlobals "law"=some (some (.ref f46)))
  (F46:gR K "law" "law" (gM 47) f46)
  (z0:PySem.W.nsIn K mainGlobals "abs"=some none)
  (z1:PySem.W.nsIn K mainGlobals "bool"=some none)
  (z2:PySem.W.nsIn K mainGlobals "isinstance"=some none)
  (z3:PySem.W.nsIn K mainGlobals "int"=some none)
  (z4:PySem.W.nsIn K mainGlobals "list"=some none)
  (z5:PySem.W.nsIn K mainGlobals "len"=some none)
  (z6:PySem.W.nsIn K mainGlobals "min"=some none)
  (z7:PySem.W.nsIn K mainGlobals "tuple"=some none)
  (z8:PySem.W.nsIn K mainGlobals "str"=some none)
  (z9:PySem.W.nsIn K mainGlobals "range"=some none)
  (z10:PySem.W.nsIn K mainGlobals "reversed"=some none)
  (z11:PySem.W.nsIn K mainGlobals "dict"=some none)
  (z12:PySem.W.nsIn K mainGlobals "sorted"=some none)
  (z13:PySem.W.nsIn K mainGlobals "enumerate"=some none)
  (z14:PySem.W.nsIn K mainGlobals "zip"=some none)
  (u0:PySem.W.nsIn K mainGlobals "LETTERS"=some (some (.str "abcdefghijklmnopqrstuvwxyz" tk0)))
  (pg0:PySem.W.plainGet K C0 Str.empty=true)
  (hd0:PySem.W.hasDictIn K C0=true)
  (po0:PySem.W.plainOver K C0=true)
  (sa0:PySem.W.findIn K (.ref C0) "__setattr__"=some (some (.builtin "object.__setattr__")))
  (mk0:PySem.W.makesIn K C0=true)
  (kc0:PySem.W.keepIn K (.ref C0)=true)
  (n0_stamps:PySem.W.findIn K (.ref C0) "stamps"=some none)
  (n0_lets:PySem.W.findIn K (.ref C0) "lets"=some none)
  (n0_fuel:PySem.W.findIn K (.ref C0) "fuel"=some none)
  (n0_many:PySem.W.findIn K (.ref C0) "many"=some none)
  (n0_ready:PySem.W.findIn K (.ref C0) "ready"=some none)
  (pg1:PySem.W.plainGet K C1 Str.empty=true)
  (hd1:PySem.W.hasDictIn K C1=true)
  (po1:PySem.W.plainOver K C1=true)
  (sa1:PySem.W.findIn K (.ref C1) "__setattr__"=some (some (.builtin "object.__setattr__")))
  (mk1:PySem.W.makesIn K C1=true)
  (kc1:PySem.W.keepIn K (.ref C1)=true)
  (n1_taken:PySem.W.findIn K (.ref C1) "taken"=some none)
  (n1_tried:PySem.W.findIn K (.ref C1) "tried"=some none):
  ∃fd:FuncData,(∀(s:Shared)(v:Value),BindsTo s fd ⟨[v],[]⟩ [("_law_script",v)])∧∀base:Heap,K.In base→base.Ns mainGlobals mg→lu l.prog w K mg base vb 11 fa fd ["_law_script"] (S1.Ng K):=by
 have e:=hfa.symm.trans (aK X G a46);cases e;have ro:RO K C0:=⟨⟨pg0,hd0,po0,sa0⟩,n0_stamps,n0_lets,n0_fuel,n0_many,n0_ready⟩;have rw:RW K C1:=⟨⟨pg1,hd1,po1,sa1⟩,n1_taken,n1_tried⟩;have Y:∀{x q:Str}{st:Stmt}{f:Addr},gR K x q st f→PySem.W.keepIn K (.ref f)=true:=λ⟨_,z⟩=>z.kp;obtain⟨fd,Fl⟩:=F46;refine⟨fd,λs v=>?_,λbase _ _=>?_⟩
 ·obtain⟨oc,od,kV,doc,pm,an,cdv,ct,osl,rfl,lk,hcd⟩:=Fl.ex;exact .of_eq rfl
 have T:Lj l.prog w K mg base ⟨f0,f1,f2,f3,f4,f5,f6,f7,f8,f9,f10,f11,f12,f13,f14,f15,f16,f17,f18,f19,f20,f21,f22,f23,f24,f25,f26,f27,f28,f29,f30,f31,f32,f33,f34,f35,f36,f37,f38,f39,f40,f41,f42,f43,f44,f45,C0,C1⟩:=⟨av X G z0,av X G z1,av X G z2,av X G z3,av X G z4,av X G z5,av X G z6,av X G z7,av X G z8,av X G z9,av X G z10,av X G z11,av X G z12,av X G z13,av X G z14,aK X G a0,aK X G a1,aK X G a2,aK X G a3,aK X G a4,aK X G a5,aK X G a6,aK X G a7,aK X G a8,aK X G a9,aK X G a10,aK X G a11,aK X G a12,aK X G a13,aK X G a14,aK X G a15,aK X G a16,aK X G a17,aK X G a18,aK X G a19,aK X G a20,aK X G a21,aK X G a22,aK X G a23,aK X G a24,aK X G a25,aK X G a26,aK X G a27,aK X G a30,aK X G a31,aK X G a32,aK X G a33,aK X G a42,aK X G a43,aK X G a44,aK X G a45,⟨_,aK X G u0⟩,aK X G aC0,⟨pg0,hd0,po0,sa0⟩,aK X G aC1,⟨pg1,hd1,po1,sa1⟩⟩;have g0:=Ip T ro rw F0;have g1:=Km T ro rw F1;have g2:=KG T ro rw F2;have g3:=Ih T ro rw F3;have g4:=El T ro rw F4;have g5:=Kh T ro rw F5 g1 g0;have g6:=Em T ro rw F6 (g5.imp (λ_ _ _ _ z=>⟨_,_,z.two⟩));have g7:=Kc T ro rw F7 g2 g3;have g8:=Kj T ro rw F8 g5;have g9:=Ki T ro rw F9 g2 g7;have g10:=Kl T ro rw F10;have g11:=KQ T ro rw F11 g3;have g12:=Ig T ro rw F12;have g13:=KZ T ro rw F13 g3;have g14:=Ke T ro rw F14 g3;have g15:=Kf T ro rw F15;have g16:=KU T ro rw F16;have g17:=Kb T ro rw F17 g13 g15 g16;have g18:=CA T ro rw F18;have g19:=Kg T ro rw F19 g18;have g20:=KD T ro rw F20;have g21:=Ic T ro rw F21 g20 (g18.imp (λ_ _ _ _ z=>S9.J9 z));have g22:=Ie T ro rw F22 g21;have g23:=Ib T ro rw F23;have g24:=Ij T ro rw F24 g18;have g25:=Ik T ro rw F25 g19 g24;have g26:=Il T ro rw F26 g23 g25;have g27:=KY T ro rw F27;have g28:=KF T ro rw F28;have g29:=KH T ro rw F29 g27;have g30:=Io T ro rw F30 g22;have g31:=KO T ro rw F31 g18;have g32:=Kd T ro rw F32 g19 g22;have g33:=KR T ro rw F33;have g34:=KW T ro rw F34 g23 g30 g28 ⟨mk1,a28,i28,kc1⟩;have g35:=KJ T ro rw F35 g33;have g36:=KI T ro rw F36 g31 g33;have g37:=KL T ro rw F37 g29 ⟨a29,i29,Y F29⟩ g31 g33 g20;have g38:=Im T ro rw F38;have g39:=KM T ro rw F39 g38 ⟨a38,i38,Y F38⟩ g35 ⟨a35,i35,Y F35⟩ g37 ⟨a37,i37,Y F37⟩ g36 ⟨a36,i36,Y F36⟩;have g40:=Ek T ro rw F40 g39 ⟨a39,i39,Y F39⟩;have g41:=Ka T ro rw F41 g32 g40 ⟨a40,i40,Y F40⟩;have g42:=Kk T ro rw F38 g31 g41 ⟨a41,i41,Y F41⟩;have g43:=KN T ro rw F39 g42 ⟨a38,i38,Y F38⟩ g35 ⟨a35,i35,Y F35⟩ g37 ⟨a37,i37,Y F37⟩ g36 ⟨a36,i36,Y F36⟩;have g44:=Ej T ro rw F40 g43 ⟨a39,i39,Y F39⟩;have g45:=KS T ro rw F42;have g46:=KP T ro rw F43;have g47:=KE T ro rw F44 g46 g45;have g48:=Ii T ro rw F45 g26 g34 ⟨mk0,a34,i34,kc0⟩ g44 ⟨a40,i40,Y F40⟩ g47;exact Eo T ro rw Fl g4 g8 g6 g17 g11 g0 g10 g48 g14 g9 g12
theorem Ob{l:PySem.W.OpenLaw}{q:Program}{loose:List Str}{XP:(Str→Option Value)→Heap→Prop}{YP:World→Heap→Prop}{d:DefRec}{K:Params→aA}(hn:l.most=some 63)(hdf:d.params.defaults=[])
  (hY:∀(w:World)(h:Heap),YP w h→(K w.params).In h)
  (F:∀(w:World)(mg:Str→Option Value)(fa:Addr)(h:Heap),(K w.params).In h→h.Ns mainGlobals mg→mg d.name=some (.ref fa)→
   ∃fd:FuncData,(∀(s:Shared)(u:Value),BindsTo s fd ⟨[u],[]⟩ [("_law_script",u)])∧∀base:Heap,(K w.params).In base→base.Ns mainGlobals mg→lu l.prog w (K w.params) mg base vb 11 fa fd ["_law_script"] (S1.Ng (K w.params))):
  PySem.W.WalkO q loose XP YP l.row.toRowW d [] (λf vs=>PySem.call f vs):=
 L2.LW (n:=63) (k:=11) (x:="_law_script") (CX:=λ_=>vb) (sp:=λw=>S1.Ng (K w.params)) hn (by decide) hdf ⟨rfl,by decide,by decide⟩ hY F (λ_ _ a ns hl _ hS=>⟨a,ns,rfl,hS,hl,λ_=>rfl⟩) λ_ _ _ _ _ z=>z
end K6
open PySem PySem.W PyProof.Rows
set_option maxRecDepth 100000 in
set_option maxHeartbeats 0 in
theorem PySem.Challenge.cw_stampword_k06_whole_own_names_of_stamps_holds : PySem.Challenge.rw_stampword_k06_whole_own_names_of_stamps.Holds := by
 w_on;refine QWtp ?_
 k_fill
 refine K6.Ob (l:=PySem.Challenge.rw_stampword_k06_whole_own_names_of_stamps) rfl rfl (λw h Y=>PySem.W.kIn_of Y) ?F
 case F=>
  intro w mg fa h KX G hmg
  refine' K6.NI KX G hmg ?aC0 ?aC1 ?a0 ?F0 ?a1 ?F1 ?a2 ?F2 ?a3 ?F3 ?a4 ?F4 ?a5 ?F5 ?a6 ?F6 ?a7 ?F7 ?a8 ?F8 ?a9 ?F9 ?a10 ?F10 ?a11 ?F11 ?a12 ?F12 ?a13 ?F13 ?a14 ?F14 ?a15 ?F15 ?a16 ?F16 ?a17 ?F17 ?a18 ?F18 ?a19 ?F19 ?a20 ?F20 ?a21 ?F21 ?a22 ?F22 ?a23 ?F23 ?a24 ?F24 ?a25 ?F25 ?a26 ?F26 ?a27 ?F27 ?a28 ?i28 ?F28 ?a29 ?i29 ?F29 ?a30 ?F30 ?a31 ?F31 ?a32 ?F32 ?a33 ?F33 ?a34 ?i34 ?F34 ?a35 ?i35 ?F35 ?a36 ?i36 ?F36 ?a37 ?i37 ?F37 ?a38 ?i38 ?F38 ?a39 ?i39 ?F39 ?a40 ?i40 ?F40 ?a41 ?i41 ?F41 ?a42 ?F42 ?a43 ?F43 ?a44 ?F44 ?a45 ?F45 ?a46 ?F46 ?z0 ?z1 ?z2 ?z3 ?z4 ?z5 ?z6 ?z7 ?z8 ?z9 ?z10 ?z11 ?z12 ?z13 ?z14 ?u0 ?pg0 ?hd0 ?po0 ?sa0 ?mk0 ?kc0 ?n0_stamps ?n0_lets ?n0_fuel ?n0_many ?n0_ready ?pg1 ?hd1 ?po1 ?sa1 ?mk1 ?kc1 ?n1_taken ?n1_tried
  case aC0|aC1|a0|F0|a1|F1|a2|F2|a3|F3|a4|F4|a5|F5|a6|F6|a7|F7|a8|F8|a9|F9|a10|F10|a11|F11|a12|F12|a13|F13|a14|F14|a15|F15|a16|F16|a17|F17|a18|F18|a19|F19|a20|F20|a21|F21|a22|F22|a23|F23|a24|F24|a25|F25|a26|F26|a27|F27|a28|i28|F28|a29|i29|F29|a30|F30|a31|F31|a32|F32|a33|F33|a34|i34|F34|a35|i35|F35|a36|i36|F36|a37|i37|F37|a38|i38|F38|a39|i39|F39|a40|i40|F40|a41|i41|F41|a42|F42|a43|F43|a44|F44|a45|F45|a46|F46|z0|z1|z2|z3|z4|z5|z6|z7|z8|z9|z10|z11|z12|z13|z14|u0|pg0|hd0|po0|sa0|mk0|kc0|n0_stamps|n0_lets|n0_fuel|n0_many|n0_ready|pg1|hd1|po1|sa1|mk1|kc1|n1_taken|n1_tried=>first|(apply L2.Mt;k_is;k_is;k_is)|k_is
#print axioms PySem.Challenge.cw_stampword_k06_whole_own_names_of_stamps_holds
