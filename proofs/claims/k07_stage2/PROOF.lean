import PyProof.Rows.All
import Wide.All
import OpenK.AllK
import Wide.FinOn
import Lean
import PyProof.EqAt
import PyProof.EqKinds
import PyProof.TupleCall
import PySem.Challenge.RW_stampword_k07_whole_names_of_the_caller
set_option Elab.async false
set_option linter.all false
set_option maxRecDepth 100000
set_option maxHeartbeats 4000000
namespace QW
open PySem PySem.W PyProof.Rows
abbrev pw := PySem.Challenge.pw_stampword_k07_whole_names_of_the_caller
abbrev rw := PySem.Challenge.rw_stampword_k07_whole_names_of_the_caller
def tq (i : Nat) : Stmt := pw.main.body.getD i (.Pass ⟨0, 0, 0, 0⟩)
def qv : Program := { pw with main := { pw.main with body := [tq 1, tq 2, tq 4, tq 5, tq 6, tq 7, tq 8, tq 10, tq 11, tq 12, tq 13, tq 15, tq 16, tq 17, tq 19, tq 20, tq 21, tq 22, tq 23, tq 24, tq 25, tq 26, tq 27, tq 29, tq 30, tq 31, tq 32, tq 33, tq 34, tq 35, tq 36, tq 37, tq 38, tq 39, tq 40, tq 41, tq 42, tq 43, tq 44, tq 45, tq 46] } }
abbrev Xt : Shared → Bool := fun s => xlAt qv [] s && recOk (RowW.records (OpenRow.toRowW rw.row)) s
theorem lfG {p q : Program} {X : Shared → Bool} {N : Nat} {α : Type} {Yf : Shared → α} {Ya : World → α} (a : ∀ w, (openEnds treeTable p w N).map (fun s => (seen ((recsOf q).map (·.name)) (ownsOf q) [] { s with gens := #[] }, s.heap.bltView)) = some (expectedOf q, bltViewBooted)) (b : ∀ w, (openEnds treeTable p w N).map (fun s => (openSeen q [] (importedModules p.main.body) X true s).2.2) = some (openGood q []).2.2) (c : ∀ w, (openEnds treeTable p w N).map Yf = some (Ya w)) : LeftO p q [] X Yf Ya N := fun w => by
  have a := a w
  have b := b w
  have c := c w
  revert a b c
  cases openEnds treeTable p w N with
  | none => intro a; cases a
  | some s =>
    intro a b c
    have a := Prod.mk.inj (Option.some.inj a)
    exact congrArg some (Prod.ext (Prod.ext a.1 (Prod.ext a.2 (Option.some.inj b))) (Option.some.inj c))
theorem ws : rw.wellSaid = true := by decide +kernel
theorem ta (w : World) : (openEnds treeTable pw w 4844).map (fun s => (seen ((recsOf qv).map (·.name)) (ownsOf qv) [] { s with gens := #[] }, s.heap.bltView)) = some (expectedOf qv, bltViewBooted) := by kernel_rfl
theorem tb (w : World) : (openEnds treeTable pw w 4844).map (fun s => (openSeen qv [] (importedModules pw.main.body) Xt true s).2.2) = some (openGood qv []).2.2 := by kernel_rfl
end QW
section
open PySem PySem.W PyProof.Rows
set_option hygiene false in
local macro_rules | `(tactic| o_law) => `(tactic| refine holds_law QW.ws fun said => ?_)
set_option hygiene false in
local macro_rules | `(tactic| o_head $H) => `(tactic| (refine holds_open (q := QW.qv) (loose := []) (Xt := QW.Xt) (XP := XL QW.qv []) (Yf := Hook.obs $H) (Ya := Hook.val $H) (YP := Hook.says $H) (N := 4844) (QW.lfG QW.ta QW.tb fun _ => by kernel_rfl) (Hook.of $H) (Hook.keeps $H) (fun s e => xl_of s (Bool.and_eq_true_iff.mp e).1) XL.keeps (by rfl) (by rfl) (by rfl) (fun s e => recFacts_of (Bool.and_eq_true_iff.mp e).2) (by rfl) (by assumption) (by decide +kernel) ⟨rfl, rfl, rfl, rfl, rfl, by decide +kernel⟩ ?hw ?hc <;> clear said))
open_top QWtp for PySem.Challenge.rw_stampword_k07_whole_names_of_the_caller
end
local macro_rules|`(tactic|decide)=>`(tactic|decide+kernel)

abbrev aA:=PySem.W.Frag
abbrev aB:=@List.mem_cons
abbrev aC:=@Nat.le_refl
abbrev aD:=@List.length_append
abbrev aE:=@List.length_cons
abbrev aF:=@List.not_mem_nil
abbrev aG:=@List.mem_singleton
abbrev aH:=@PySem.F.plainAttrs_list
abbrev aI:=@True.intro
abbrev aJ:=@PySem.W.mg_of
abbrev aK:=@List.getElem?_eq_some_iff
abbrev aL:=@List.cons_append
abbrev aM:=@Nat.ne_of_lt
abbrev aN:=@Bool.false_ne_true
abbrev aO:=@List.mem_append_right
abbrev aP:=@List.size_toArray
abbrev aQ:=@PySem.F.slot_list_append
abbrev aR:=@PySem.F.type_list_append
abbrev aS:=@Nat.zero_le
abbrev aT:=@List.getElem?_eq_getElem
abbrev aU:=@List.mem_append
abbrev aV:=@List.append_assoc
abbrev aW:=@List.map_cons
abbrev aX:=@List.length_map
abbrev aY:=@Nat.le_trans
abbrev aZ:=@List.mem_of_getElem?
abbrev aa:=@List.append_nil
abbrev ac:=@List.getElem?_map
abbrev ae:=@Nat.lt_of_lt_of_le
abbrev af:=@List.mem_append_left
abbrev ag:=@List.drop_zero
abbrev ah:=@List.length_drop
abbrev ai:=@Ne.symm
abbrev aj:=@List.length_take
abbrev ak:=@List.nil_append
abbrev am:=@List.length_nil
abbrev ao:=@List.reverse_cons
abbrev aq:=@Nat.add_mul
abbrev au:=@PySem.W.mg_none_of
abbrev av:=@List.take_zero
abbrev aw:=@List.getElem?_append_left
abbrev ax:=@List.take_add_one
abbrev ay:=@PySem.F.slot_list_pop
abbrev az:=@PySem.F.type_list_pop
abbrev bA:=@List.length_singleton
abbrev bB:=@List.mem_cons_of_mem
abbrev bC:=@Nat.ne_of_gt
abbrev bD:=@PySem.W.kia_one
abbrev bE:=@List.drop_succ_cons
abbrev bF:=@Or.inl
abbrev bG:=@List.take_length
abbrev bH:=@Nat.sub_self
abbrev bI:=@List.take_succ_cons
abbrev bJ:=@List.getElem?_append_right
abbrev bK:=@Nat.lt_or_ge
abbrev bL:=@List.length_reverse
abbrev bM:=@List.drop_eq_getElem_cons
abbrev bN:=@Nat.le_of_lt
abbrev bO:=@PyProof.Rows.callWith_type1
abbrev bP:=@Nat.le_succ
abbrev bQ:=@List.nodup_cons
abbrev bR:=@Or.inr
abbrev bS:=@Nat.le_of_ble_eq_true
abbrev bT:=@Nat.lt_irrefl
abbrev bU:=@List.map_nil
abbrev bV:=@Nat.mul_le_mul_right
abbrev bW:=@List.mem_cons_self
abbrev bX:=@PyProof.Rows.slot_tuple_getitem
abbrev bY:=@Bool.and_eq_true
abbrev bZ:=@List.any_cons
abbrev bb:=@List.find?_cons
abbrev bc:=@Option.map_some
abbrev be:=@Nat.le_add_right
abbrev bf:=@List.take_of_length_le
abbrev bg:=@Nat.sub_zero
abbrev bh:=@Array.length_toList
abbrev bi:=@PySem.mem_of_lookup
abbrev bj:=@Int.toNat_natCast
abbrev bn:=@Array.toList_append
abbrev bp:=@Nat.min_eq_left
abbrev bq:=@List.map_append
abbrev br:=@Nat.zero_add
abbrev bu:=@Nat.one_mul
abbrev bw:=@Option.getD_some
abbrev bx:=@List.drop_of_length_le
abbrev bz:=@List.getElem?_set_ne
abbrev b4:=@Bool.eq_iff_iff
abbrev b5:=@Nat.lt_succ_self
abbrev b9:=@List.of_mem_zip
abbrev cA:=@List.pairwise_cons
abbrev cB:=@Int.emod_nonneg
abbrev cC:=@List.map_map
abbrev cD:=@List.mem_map
abbrev cE:=@List.take_left'
abbrev cF:=@List.take_append_drop
abbrev cG:=@List.sum_cons
abbrev cH:=@List.length_eq_zero_iff
abbrev cI:=@PySem.F.slot_list_extend
abbrev cJ:=@PySem.F.type_list_extend
abbrev cK:=@List.filterMap_cons
abbrev cL:=@PySem.W.plainGet_of
abbrev cM:=@PySem.W.callWith_K
abbrev cN:=@List.length_replicate
abbrev cO:=@PySem.F.slot_tuple_add
abbrev cP:=@PySem.F.entry_tuple_add
abbrev cQ:=@PySem.F.args_tuple_add_2
abbrev cR:=@Array.getElem?_toList
abbrev cS:=@Option.isSome_map
abbrev cT:=@Nat.lt_trans
abbrev cU:=@PySem.F.slot_dict_get
abbrev cV:=@Nat.lt_of_le_of_lt
abbrev cW:=@Nat.not_lt_zero
abbrev cX:=@Nat.add_comm
abbrev cY:=@List.any_eq_true
abbrev cZ:=@Nat.lt_succ_of_lt
abbrev ca:=@Nat.pow_succ
abbrev cb:=@Nat.mul_add
abbrev ce:=@List.take_left
abbrev cf:=@List.append_inj'
abbrev cg:=@List.reverse_reverse
abbrev ci:=@List.take_reverse
abbrev cj:=@Function.comp_def
abbrev ck:=@List.mem_or_eq_of_mem_set
abbrev cm:=@List.reverse_append
abbrev cp:=@List.getElem?_set_self
abbrev cq:=@PyProof.noPylong_small
abbrev cr:=@PySem.W.cellsFrom_some
abbrev cs:=@Option.isSome_iff_exists
abbrev cu:=@List.getElem?_replicate
abbrev cw:=@List.getElem?_take_of_lt
abbrev cy:=@PySem.F.entry_dict_get
abbrev cz:=@PySem.F.args_dict_get_3
abbrev c3:=@Int.eq_ofNat_of_zero_le
abbrev dA:=@List.getElem?_range
abbrev dB:=@List.getLast?_append
abbrev dC:=@Function.comp_apply
abbrev dD:=@List.map_congr_left
abbrev dE:=@List.getElem?_eq_none
abbrev dG:=@Nat.add_sub_cancel_left
abbrev dH:=@List.take_append_of_le_length
abbrev dI:=@List.mem_of_mem_take
abbrev dJ:=@List.length_pos_iff
namespace L2
open PySem PySem.Spec PyProof.Rows
abbrev fI:=Sum Int Str
def qS:fI→Value→Bool
 | .inl k,v=>Value.isInt k v
 | .inr x,v=>Value.isStrOf x v
def MZ(w:World):fI→Int
 | .inl k=>hashInt k
 | .inr x=>hashStr w x
theorem gO:∀{k:fI}{v:Value},qS k v=true→(∃i t,k=Sum.inl i∧v=Value.int i t)∨(∃x t,k=Sum.inr x∧v=Value.str x t)
 | .inl i,v,h=>by obtain⟨t,e⟩:=Value.isInt_shape (k:=i) (v:=v) h;exact .inl ⟨i,t,rfl,e⟩
 | .inr x,v,h=>by obtain⟨t,e⟩:=Value.isStrOf_shape (x:=x) (v:=v) h;exact .inr ⟨x,t,rfl,e⟩
theorem zN(i:Int)(t:Tok):qS (.inl i) (.int i t)=true:=by simp[qS,Value.isInt]
theorem zM(x:Str)(t:Tok):qS (.inr x) (.str x t)=true:=by simp[qS,Value.isStrOf]
theorem IP(a b:Int):decide ((Sum.inl a:fI)=Sum.inl b)=(a==b):=by
 by_cases e:a=b
 ·subst e;simp
 ·have h:¬(Sum.inl a:fI)=Sum.inl b:=λq=>e (Sum.inl.inj q);rw[decide_eq_false h];exact(beq_eq_false_iff_ne.mpr e).symm
theorem IL(a b:Str):decide ((Sum.inr a:fI)=Sum.inr b)=decide (a=b):=by
 by_cases e:a=b
 ·subst e;simp
 ·have h:¬(Sum.inr a:fI)=Sum.inr b:=λq=>e (Sum.inr.inj q);rw[decide_eq_false h,decide_eq_false e]
theorem IN(a:Int)(b:Str):decide ((Sum.inl a:fI)=Sum.inr b)=false:=decide_eq_false (λq=>nomatch q)
theorem IM(a:Str)(b:Int):decide ((Sum.inr a:fI)=Sum.inl b)=false:=decide_eq_false (λq=>nomatch q)
def gX(prog:Program)(w:World):PySem.KeyKind prog w fI where
 is:=qS
 hash:=MZ w
 inj:=λv a b ha hb=>by
  rcases gO ha with⟨i,t,rfl,rfl⟩|⟨x,t,rfl,rfl⟩
  ·rcases gO hb with⟨j,u,rfl,e⟩|⟨y,u,rfl,e⟩
   ·injection e with e1 _;rw[e1]
   ·exact nomatch e
  ·rcases gO hb with⟨j,u,rfl,e⟩|⟨y,u,rfl,e⟩
   ·exact nomatch e
   ·injection e with e1 _;rw[e1]
 byValue:=λk v h=>by rcases gO h with⟨i,t,rfl,rfl⟩|⟨x,t,rfl,rfl⟩<;>rfl
 pyHash:=λhv h=>by
  rcases gO hv with⟨i,t,rfl,rfl⟩|⟨x,t,rfl,rfl⟩
  ·exact wpAny_pyHash_int h
  ·exact wpAny_pyHash_str h
 eqBool:=λhu hv h=>by
  rcases gO hu with⟨i,t,rfl,rfl⟩|⟨x,t,rfl,rfl⟩
  ·rcases gO hv with⟨j,u,rfl,rfl⟩|⟨y,u,rfl,rfl⟩
   ·rw[IP]at h;exact wpAny_eqBool_int h
   ·rw[IN]at h;exact SeqAt.EqAt.int_str i t y u _ _ _ _ h
  ·rcases gO hv with⟨j,u,rfl,rfl⟩|⟨y,u,rfl,rfl⟩
   ·rw[IM]at h;exact SeqAt.EqAt.str_int x t j u _ _ _ _ h
   ·rw[IL]at h;exact wpAny_eqBool_str h
 «strs»:=λk x t v h=>by
  rcases gO h with⟨i,u,rfl,e⟩|⟨y,u,rfl,e⟩
  ·exact nomatch e
  ·injection e with e1 _;subst e1;cases v<;>rfl
theorem uc(prog:Program)(w:World)(i:Int)(t:Tok):(gX prog w).is (.inl i) (.int i t)=true:=zN i t
theorem uZ(prog:Program)(w:World)(x:Str)(t:Tok):(gX prog w).is (.inr x) (.str x t)=true:=zM x t
inductive V where
 | non|bl(b:Bool)|int(i:Int)|str(x:Str)|byt(b:Array UInt8)|flt(b:UInt64)|ref(a:Addr)|ty(n:String)
 deriving DecidableEq
def fS:V→Value→Prop
 | .non,u=>u=Value.none
 | .bl b,u=>u=Value.bool b
 | .int i,u=>∃t,u=Value.int i t
 | .str x,u=>∃t,u=Value.str x t
 | .byt b,u=>∃t,u=Value.bytes b t
 | .flt b,u=>∃t,u=Value.float b t
 | .ref a,u=>u=Value.ref a
 | .ty n,u=>u=Value.type n
abbrev fE:List V→List Value→Prop:=Paired fS
theorem fE.length(r:fE xs us):xs.length=us.length:=Paired.length r
theorem fE.get:∀{xs:List V}{us:List Value}{i:Nat}{x:V},fE xs us→xs[i]?=some x→∃u,us[i]?=some u∧fS x u
 | _,_,_,_,.nil,e=>by simp at e
 | _,_,0,_,.cons r _,e=>by simp at e;subst e;exact⟨_,rfl,r⟩
 | _,_,i+1,x,.cons _ t,e=>by obtain⟨u,h1,h2⟩:=fE.get (i:=i) (x:=x) t (by simpa using e);exact⟨u,by simpa using h1,h2⟩
theorem fE.set(r:fS x u):∀{xs:List V}{us:List Value}(i:Nat),fE xs us→fE (xs.set i x) (us.set i u)
 | _,_,_,.nil=>.nil
 | _,_,0,.cons _ t=>.cons r t
 | _,_,i+1,.cons q t=>.cons q (fE.set r i t)
theorem fE.append:∀{xs ys:List V}{us ws:List Value},fE xs us→fE ys ws→fE (xs++ys) (us++ws)
 | _,_,_,_,.nil,s=>s
 | _,_,_,_,.cons r t,s=>.cons r (fE.append t s)
theorem fE.take:∀{xs:List V}{us:List Value}(n:Nat),fE xs us→fE (xs.take n) (us.take n)
 | _,_,0,_=>.nil
 | _,_,_+1,.nil=>.nil
 | _,_,n+1,.cons r t=>.cons r (fE.take n t)
theorem fE.drop:∀{xs:List V}{us:List Value}(n:Nat),fE xs us→fE (xs.drop n) (us.drop n)
 | _,_,0,r=>r
 | _,_,_+1,.nil=>.nil
 | _,_,n+1,.cons _ t=>fE.drop n t
def lE:Option V→Option Value→Prop
 | some v,some u=>fS v u
 | none,none=>True
 | _,_=>False
def KV{κ:Type}:List (κ×V)→List (κ×Value)→Prop:=Paired λ(p:κ×V)(q:κ×Value)=>p.1=q.1∧fS p.2 q.2
def kV:fI→V
 | .inl i=>.int i
 | .inr x=>.str x
inductive HO where
 | lst(xs:List V)
 | tup(xs:List V)
 | dK(kvs:List (fI×V))|dT(kvs:List (List fI×V))
 | set(S:Int→Bool)(n:Nat)
 | ins(C dx:Addr)(fs:List (Str×V))
 | own(x:Addr)
 | xd(fs:List (Str×V))
 | met(f x:Addr)
 | rng(lo hi:Int)
 | frz(o:Obj)(u:HO)
 | tbl(ps:Array Value)
 | ext(φ:Heap→Prop)
abbrev Hp:=Addr→Option HO
def upd(H:Hp)(a:Addr)(o:HO):Hp:=λb=>if b=a then some o else H b
theorem dO:upd H a o a=some o:=by unfold upd;rw[if_pos rfl]
theorem db(h:b≠a):upd H a o b=H b:=by unfold upd;rw[if_neg h]
theorem fB{H:Hp}{a b:Addr}{o u:HO}(h:H a=some o)(h':H b=some u)(d:o≠u):a≠b:=by intro e;subst e;rw[h]at h';exact d (Option.some.inj h')
theorem dZ{H:Hp}{a b:Addr}{o:HO}(h:H a=some o)(h':H b=none):a≠b:=by intro e;subst e;rw[h]at h';cases h'
section
variable (P:Program)(w:World)
def gU(H:Hp)(h:Heap)(a:Addr):HO→Prop
 | .lst xs=>xs.length≤sizeLine∧∃(its:List Value)(n:Nat),fE xs its∧h.get? a=some {cls:=.type "list",data:=.seq its.toArray n}
 | .tup xs=>xs.length≤sizeLine∧∃its:List Value,fE xs its∧IsTup h a its.toArray
 | .dK kvs=>kvs.length≤sizeLine∧(a==sysModules)=false∧∃vs,KV kvs vs∧h.DictOf (gX P w) a vs
 | .dT kvs=>kvs.length≤sizeLine∧(a==sysModules)=false∧∃xs:List (List fI×Addr×Value),
   Paired (λ(p:List fI×V)(q:List fI×Addr×Value)=>p.1=q.1∧H q.2.1=some (.tup (p.1.map kV))∧fS p.2 q.2.2) kvs xs∧
   ∃o es ep,h.get? a=some o∧o.ExactDict∧o.data=.dict es ep∧es.toList=xs.map (entryOfKey (tupleKind (gX P w)))∧(xs.map (·.1)).Nodup
 | .set S n=>h.SetOf (intKind P w) a S n
 | .ins C dx fs=>H dx=some (.own a)∧fs.length≤1000∧dx≠a∧h.get? a=some (PySem.W.instObj C dx)∧
   ∃mA,h.Ns1 dx mA∧(∀f,lE (fs.lookup f) (mA f))∧PySem.Within mA (fs.map (·.1))
 | .own _=>∃o,h.get? a=some o
 | .xd fs=>∃mA,h.Ns1 a mA∧∀f,lE (fs.lookup f) (mA f)
 | .rng lo hi=>∃t u v,h.get? a=some {cls:=.type "range",data:=.fields #[.int lo t,.int hi u,.int 1 v]}
 | .frz o u=>h.get? a=some o∧gU H h a u
 | .tbl ps=>h.get? a=some {cls:=.none,data:=.fields ps}
 | .met f x=>h.get? a=some (PySem.W.methodObj (.ref f) (.ref x))
 | .ext φ=>φ h∧(∃o,h.get? a=some o)∧∀h1 h2:Heap,φ h1→(∀o,h1.get? a=some o→h2.get? a=some o)→φ h2
def mU(H:Hp)(h:Heap):Prop:=∀a o,H a=some o→gU P w H h a o
end
section
variable {P:Program}{w:World}{H H':Hp}{h h':Heap}{a:Addr}{o:HO}
theorem gU.lt(x:gU P w H h a o):a<h.objs.size:=by
 cases o with
 | lst xs=>obtain⟨_,_,_,_,e⟩:=x;exact Heap.lt_size e
 | tup xs=>obtain⟨_,_,_,p⟩:=x;exact p.lt
 | dK kvs=>obtain⟨_,_,_,_,o,_,_,e,_⟩:=x;exact Heap.lt_size e
 | dT kvs=>obtain⟨_,_,_,_,o,_,_,e,_⟩:=x;exact Heap.lt_size e
 | set S n=>obtain⟨o,_,_,_,e,_⟩:=x;exact Heap.lt_size e
 | ins C dx fs=>obtain⟨_,_,_,e,_⟩:=x;exact Heap.lt_size e
 | own y=>obtain⟨_,e⟩:=x;exact Heap.lt_size e
 | xd fs=>obtain⟨_,⟨_,_,_,e,_⟩,_⟩:=x;exact Heap.lt_size e
 | rng lo hi=>obtain⟨_,_,_,e⟩:=x;exact Heap.lt_size e
 | frz ob u=>obtain⟨e,_⟩:=x;exact Heap.lt_size e
 | tbl ps=>exact Heap.lt_size (show h.get? a=some _ from x)
 | met f y=>exact Heap.lt_size (show h.get? a=some _ from x)
 | ext φ=>obtain⟨_,⟨_,e⟩,_⟩:=x;exact Heap.lt_size e
theorem Paired.mapP:∀{l₁:List α}{l₂:List β},Paired F l₁ l₂→(∀a b,F a b→G a b)→Paired G l₁ l₂
 | _,_,.nil,_=>.nil
 | _,_,.cons r t,f=>.cons (f _ _ r) (Paired.mapP t f)
theorem gU.stay(x:gU P w H h a o)(k:∀b u,(b=a∨H b=some (.own a))→h.get? b=some u→h'.get? b=some u)
  (ho:∀b,H b=some (.own a)→H' b=some (.own a)) (ht:∀b xs,H b=some (.tup xs)→H' b=some (.tup xs)):gU P w H' h' a o:=by
 induction o with
 | lst xs=>obtain⟨z,its,n,r,e⟩:=x;exact⟨z,its,n,r,k _ _ (.inl rfl) e⟩
 | tup xs=>obtain⟨z,its,r,ob,e,c⟩:=x;exact⟨z,its,r,ob,k _ _ (.inl rfl) e,c⟩
 | dK kvs=>obtain⟨z,y,vs,r,ob,es,ep,e,c⟩:=x;exact⟨z,y,vs,r,ob,es,ep,k _ _ (.inl rfl) e,c⟩
 | dT kvs=>obtain⟨z,y,xs,r,ob,es,ep,e,c⟩:=x;exact⟨z,y,xs,Paired.mapP r λp q z=>⟨z.1,ht _ _ z.2.1,z.2.2⟩,ob,es,ep,k _ _ (.inl rfl) e,c⟩
 | set S n=>obtain⟨ob,es,ep,t,e,c⟩:=x;exact⟨ob,es,ep,t,k _ _ (.inl rfl) e,c⟩
 | ins C dx fs=>obtain⟨d,z,ne,e,mA,⟨od,es,ep,e2,c⟩,r⟩:=x;exact⟨ho _ d,z,ne,k _ _ (.inl rfl) e,mA,⟨od,es,ep,k _ _ (.inr d) e2,c⟩,r⟩
 | own y=>obtain⟨ob,e⟩:=x;exact⟨ob,k _ _ (.inl rfl) e⟩
 | xd fs=>obtain⟨mA,⟨od,es,ep,e,c⟩,r⟩:=x;exact⟨mA,⟨od,es,ep,k _ _ (.inl rfl) e,c⟩,r⟩
 | rng lo hi=>obtain⟨t,u,v,e⟩:=x;exact⟨t,u,v,k _ _ (.inl rfl) e⟩
 | frz ob u ih=>obtain⟨e,q⟩:=x;exact⟨k _ _ (.inl rfl) e,ih q⟩
 | tbl ps=>have e:h.get? a=some {cls:=.none,data:=.fields ps}:=x;show h'.get? a=some {cls:=.none,data:=.fields ps};exact k a _ (.inl rfl) e
 | met f y=>have e:h.get? a=some (PySem.W.methodObj (.ref f) (.ref y)):=x;show h'.get? a=some (PySem.W.methodObj (.ref f) (.ref y));exact k a _ (.inl rfl) e
 | ext φ=>obtain⟨p,⟨o,e⟩,st⟩:=x;exact⟨st _ _ p λo q=>k _ _ (.inl rfl) q,⟨o,k _ _ (.inl rfl) e⟩,st⟩
theorem mU.lt(x:mU P w H h)(e:H a=some o):a<h.objs.size:=(x a o e).lt
theorem mU.fresh(x:mU P w H h)(e:h.objs.size≤a):H a=none:=by
 cases q:H a with
 | none=>rfl
 | some u=>exact absurd (ae (x.lt q) e) (bT _)
theorem mU.kept(x:mU P w H h)(k:∀b u,h.get? b=some u→h'.get? b=some u):mU P w H h':=λa o e=>
 (x a o e).stay (λb u _ q=>k b u q) (λ_ q=>q) λ_ _ q=>q
theorem mU.laid(x:mU P w H h)(k:∀b u,h.get? b=some u→h'.get? b=some u)(hp:h.objs.size≤a)(new:gU P w (upd H a o) h' a o):mU P w (upd H a o) h':=λb u e=>by
 have hn:=x.fresh hp;by_cases hb:b=a
 ·subst hb;rw[dO]at e;cases e;exact new
 ·rw[db hb]at e;exact(x b u e).stay (λc v _ q=>k c v q) (λc q=>by rw[db (dZ q hn)];exact q) λc xs q=>by rw[db (dZ q hn)];exact q
end
def Rd(H:Hp)(a:Addr)(u:HO):Prop:=H a=some u∨∃o,H a=some (.frz o u)
theorem Rd.ok(r:Rd H a u)(x:mU P w H h):gU P w H h a u:=by
 rcases r with r|⟨o,r⟩
 ·exact x a u r
 ·obtain⟨_,q⟩:=x a _ r;exact q
def Ku:Option HO→Prop
 | some (.lst _)=>True
 | some (.dK _)=>True
 | some (.dT _)=>True
 | some (.set _ _)=>True
 | some (.ins _ _ _)=>True
 | some (.ext _)=>True
 | _=>False
section
variable {P:Program}{w:World}{H:Hp}{h h':Heap}{x e:Addr}{o':HO}
theorem mU.write(ok:mU P w H h)(mu:Ku (H x))(he:e=x∨H e=some (.own x))(k:∀b u,b≠e→h.get? b=some u→h'.get? b=some u)(heo:∃u,h'.get? e=some u)
  (new:gU P w (upd H x o') h' x o'):mU P w (upd H x o') h':=λb u q=>by
 have nown:∀c y,H c=some (.own y)→c≠x:=λc y r z=>by subst z;rw[r]at mu;exact mu
 have ntup:∀c xs,H c=some (.tup xs)→c≠x:=λc xs r z=>by subst z;rw[r]at mu;exact mu
 by_cases hb:b=x
 ·subst hb;rw[dO]at q;cases q;exact new
 ·rw[db hb]at q;by_cases hbe:b=e
  ·have q':H b=some (.own x):=by
    rcases he with z|z
    ·exact absurd (hbe.trans z) hb
    ·rw[hbe];exact z
   rw[q]at q';cases q';obtain⟨v,hv⟩:=heo;exact⟨v,by rw[hbe];exact hv⟩
  ·refine(ok b u q).stay (λc v hc r=>k c v ?_ r) (λc r=>by rw[db (nown c b r)];exact r) λc xs r=>by rw[db (ntup c xs r)];exact r
   rcases hc with rfl|hc
   ·exact hbe
   ·rintro rfl;rcases he with z|z
    ·exact nown c b hc z
    ·rw[hc]at z;cases z;exact hb rfl
end
structure Un(fs ex:List Addr)(H H':Hp)(h h':Heap):Prop where
 keep:∀b o,h.get? b=some o→H b=none→b∉fs→b∉ex→h'.get? b=some o
 slot:∀b o,h.get? b=some o→H b=none→b∈fs→b∉ex→∃sl,h'.get? b=some {o with slots:=sl}
 free:∀b o,h.get? b=some o→H b=none→b∉ex→H' b=none
 there:∀b o,h.get? b=some o→b∉ex→∃o',h'.get? b=some o'
 tups:∀b xs,H b=some (.tup xs)→H' b=some (.tup xs)
 frzs:∀b o u,H b=some (.frz o u)→H' b=some (.frz o u)
 tbls:∀b ps,H b=some (.tbl ps)→∃more,H' b=some (.tbl (ps++more))
section
variable {fs fs' ex ex':List Addr}{H H1 H2:Hp}{h h1 h2 h':Heap}{a x e:Addr}{o:HO}
theorem Un.any(u:Un fs ex H H1 h h1)(q:h.get? b=some ob)(n:H b=none)(hx:b∉ex):∃sl,h1.get? b=some {ob with slots:=sl}:=by
 by_cases hb:b∈fs
 ·exact u.slot b ob q n hb hx
 ·exact⟨ob.slots,u.keep b ob q n hb hx⟩
theorem Un.kept(k:∀b u,h.get? b=some u→h'.get? b=some u):Un fs ex H H h h':=
 ⟨λb ob q _ _ _=>k b ob q,λb ob q _ _ _=>⟨ob.slots,k b ob q⟩,λ_ _ _ n _=>n,λb ob q _=>⟨ob,k b ob q⟩,λ_ _ q=>q,λ_ _ _ q=>q,λ_ ps q=>⟨#[],by rw[q];simp⟩⟩
theorem Un.refl:Un fs ex H H h h:=Un.kept λ_ _ q=>q
theorem Un.laid(k:∀b u,h.get? b=some u→h'.get? b=some u)(hp:h.objs.size≤a)(hn:H a=none):Un fs ex H (upd H a o) h h' where
 keep:=λb u q _ _ _=>k b u q
 slot:=λb u q _ _ _=>⟨u.slots,k b u q⟩
 free:=λb u q n _=>by rw[db (aM (ae (Heap.lt_size q) hp))];exact n
 there:=λb u q _=>⟨u,k b u q⟩
 tups:=λb xs q=>by rw[db (dZ q hn)];exact q
 frzs:=λb u xs q=>by rw[db (dZ q hn)];exact q
 tbls:=λb ps q=>⟨#[],by rw[db (dZ q hn),q];simp⟩
theorem Un.write(mu:Ku (H x))(he:e=x∨H e=some (.own x))(k:∀b u,b≠e→h.get? b=some u→h'.get? b=some u)(heo:∃u,h'.get? e=some u):Un fs ex H (upd H x o) h h':=by
 have hx:∀b,H b=none→b≠x:=λb n z=>by subst z;rw[n]at mu;exact mu
 have hb:∀b,H b=none→b≠e:=λb n z=>by
  subst z;rcases he with r|r
  ·exact hx b n r
  ·rw[n]at r;cases r
 have hm:∀b u,H b=some u→¬Ku (some u)→b≠x:=λb u q nm z=>by subst z;rw[q]at mu;exact nm mu
 refine⟨λb u q n _ _=>k b u (hb b n) q,λb u q n _ _=>⟨u.slots,k b u (hb b n) q⟩,λb u q n _=>by rw[db (hx b n)];exact n,λb u q _=>?_,
  λb xs q=>by rw[db (hm b _ q λz=>z)];exact q,λb u xs q=>by rw[db (hm b _ q λz=>z)];exact q,λb ps q=>⟨#[],by rw[db (hm b _ q λz=>z),q];simp⟩⟩
 by_cases hbe:b=e
 ·subst hbe;exact heo
 ·exact⟨u,k b u hbe q⟩
end
def K4(h:Heap)(H:Hp):List Addr:=(List.range h.objs.size).filter λa=>(H a).isSome
def sj(h:Heap)(H:Hp):Heap:=PySem.W.hideAll h (K4 h H)
theorem zP(h:Heap)(H:Hp):(sj h H).objs.size=h.objs.size:=PySem.W.hideAll_size _ _
theorem B8(e:h.get? b=some o)(n:H b=none):(sj h H).get? b=some o:=
 PySem.W.hideAll_get _ e λhm=>by have q:(H b).isSome=true:=(List.mem_filter.mp hm).2;rw[n]at q;simp at q
theorem EQ(e:(sj h H).get? b=some o):h.get? b=some o∧H b=none:=by
 have e':h.get? b=some o:=PySem.W.of_hideAll (K4 h H) e;refine⟨e',?_⟩;cases q:H b with
 | none=>rfl
 | some x=>have hm:b∈K4 h H:=List.mem_filter.mpr ⟨List.mem_range.mpr (Heap.lt_size e'),by simp[q]⟩;have z:(sj h H).get? b=none:=PySem.W.hideAll_none (K4 h H) hm;rw[z]at e;cases e
structure Mod(K:aA)(mg:Str→Option Value)(base:Heap):Prop where
 kin:K.In base
 glob:base.Ns mainGlobals mg
 blt:∃mb,base.Ns builtinsNs mb∧∀x:Str,x≠"__name__"→mb x=bootBuiltins x
 nolimit:base.NoLimit
structure Cx where
 prog:Program
 w:World
 K:aA
 mg:Str→Option Value
 base:Heap
 A:Around
 N:List Str
 s₀:Shared
 H₀:Hp
 env:Env
 outer:List Env
 stack:List Env
 ex:List Addr
 fn:Str→Bool
 calm:Bool
 pn:List (Addr×Obj)
 xe:Value→Shared→Prop
def zS(l:List Env):List Addr:=l.filterMap (·.frame)
abbrev Cx.fs(X:Cx):List Addr:=zS X.outer
def LF(sc:Scope)(x:Str):Prop:=sc.names.lookup x=some .local∨sc.names.lookup x=some .cell∨sc.names.lookup x=some .free
def Iv(sc:Scope)(x:Str):Prop:=sc.names.lookup x=some .local∨sc.names.lookup x=some .cell
def My(env:Env)(h:Heap)(m:Str→Option Value)(x:Str)(u:Value):Prop:=
 (env.kindOf x=some .local∧m x=some u)∨((env.kindOf x=some .cell∨env.kindOf x=some .free)∧∃c,env.cells.lookup x=some c∧h.IsCell c (some u))
structure Cx.Ok(X:Cx):Prop where
 mod:Mod X.K X.mg X.base
 kind:X.env.scope.kind=.function
 glob:X.env.globals=mainGlobals
 blt:X.env.builtins=builtinsNs
 above:X.s₀.heap.objs.size≤X.env.locals
 inj:∀x y c,X.env.cells.lookup x=some c→X.env.cells.lookup y=some c→x=y
 has:∀x,(X.env.kindOf x=some .cell∨X.env.kindOf x=some .free)→∃c,X.env.cells.lookup x=some c
 cab:∀x c,X.fn x=true→X.env.cells.lookup x=some c→X.s₀.heap.objs.size≤c
 hd:X.calm=true→X.A.handled=none
 frames:X.A.frames=some X.stack
 stk:X.stack=X.outer∨(X.stack=X.env::X.outer∧X.env.frame=some X.env.locals)
 exf:∀b∈X.ex,b≠X.env.locals∧∀x c,X.env.cells.lookup x=some c→c≠b
 bs:∀b o,X.base.get? b=some o→X.s₀.heap.get? b=some o∧X.H₀ b=none
 bsz:X.base.objs.size≤X.s₀.heap.objs.size
 noex:∀b o,X.base.get? b=some o→b∉X.ex
 exfs:∀b∈X.ex,b∉X.fs
 funs:X.s₀.heap.FunFrames X.base X.outer
 frf:∀b∈X.fs,X.H₀ b=none
structure eV(X:Cx)(pins:List (Addr×Obj))(σ:List (Option V))(H:Hp)(s:Shared):Prop where
 ok:X.Ok
 os:s.os=X.s₀.os
 bare:AllBare s.gens
 base:Un X.fs X.ex X.H₀ H X.s₀.heap s.heap
 loc:∃m,s.heap.Ns X.env.locals m∧∀(i:Nat)(x:Str)(v:V),X.N[i]?=some x→σ[i]?=some (some v)→LF X.env.scope x→∃u,fS v u∧My X.env s.heap m x u
 cell:∀x c,X.env.cells.lookup x=some c→∃v,s.heap.IsCell c v
 free:H X.env.locals=none
 freeC:∀x c,X.env.cells.lookup x=some c→H c=none
 pin:∀p∈X.pn++pins,s.heap.get? p.1=some p.2∧H p.1=none∧p.1≠X.env.locals∧p.1∉X.fs∧∀v,p.2.data≠.cell v
 hok:mU X.prog X.w H s.heap
 len:σ.length=X.N.length
section
variable {X:Cx}{pins:List (Addr×Obj)}{σ:List (Option V)}{H H':Hp}{s:Shared}{h':Heap}
theorem Cx.Ok.nofr(ok:X.Ok)(e:X.base.get? b=some o):b∉X.fs:=λhb=>by have:=(ok.funs.mem hb).1;rw[e]at this;cases this
theorem eV.bs(I:eV X pins σ H s):∀b o,X.base.get? b=some o→s.heap.get? b=some o∧H b=none:=λb o e=>
 ⟨I.base.keep b o (I.ok.bs b o e).1 (I.ok.bs b o e).2 (I.ok.nofr e) (I.ok.noex b o e),I.base.free b o (I.ok.bs b o e).1 (I.ok.bs b o e).2 (I.ok.noex b o e)⟩
theorem eV.bk(I:eV X pins σ H s):∀b o,X.base.get? b=some o→s.heap.get? b=some o:=λb o e=>(I.bs b o e).1
theorem eV.mod(I:eV X pins σ H s):Mod X.K X.mg X.base:=I.ok.mod
theorem eV.kIn(I:eV X pins σ H s):X.K.In s.heap:=I.ok.mod.kin.keeps I.bk
theorem eV.lt(I:eV X pins σ H s):X.env.locals<s.heap.objs.size:=let ⟨_,hn,_⟩:=I.loc;hn.lt
theorem eV.sz(I:eV X pins σ H s):X.s₀.heap.objs.size≤s.heap.objs.size:=aY I.ok.above (bN I.lt)
theorem eV.nofs(I:eV X pins σ H s)(h:s.heap.objs.size≤a):a∉X.fs:=λhb=>by obtain⟨_,o,ho,_⟩:=I.ok.funs.mem hb;exact absurd (ae (Heap.lt_size ho) (aY I.sz h)) (bT _)
theorem eV.cne(I:eV X pins σ H s):∀x c,X.env.cells.lookup x=some c→c≠X.env.locals:=λx c e z=>by obtain⟨v,o,ho,hd⟩:=I.cell x c e;obtain⟨m,⟨o',es,ep,ho',hd',_⟩,_⟩:=I.loc;rw[z,ho']at ho;cases ho;rw[hd']at hd;cases hd
theorem eV.funs(I:eV X pins σ H s):s.heap.FunFrames X.base X.outer:=by
 have all:∀(l:List Env),(∀b∈zS l,b∈X.fs)→X.s₀.heap.FunFrames X.base l→s.heap.FunFrames X.base l:=by
  intro l;induction l with
  | nil=>intro _ _;trivial
  | cons env r ih=>intro hs hl;obtain⟨hk,⟨L,o,hf,hn,ho,hd⟩,hr⟩:=hl;have hL:L∈X.fs:=hs L (by unfold zS;rw[cK,hf];exact bW);obtain⟨sl,e⟩:=I.base.slot L o ho (I.ok.frf L hL) hL λz=>I.ok.exfs L z hL;exact⟨hk,⟨L,_,hf,hn,e,hd⟩,ih (λb hb=>hs b (by unfold zS;rw[cK,hf];exact bB _ hb)) hr⟩
 exact all X.outer (λ_ hb=>hb) I.ok.funs
theorem eV.stack(I:eV X pins σ H s):s.heap.FunFrames X.base X.stack:=by
 rcases I.ok.stk with e|⟨e,hf⟩
 ·rw[e];exact I.funs
 ·rw[e];obtain⟨m,hn,_⟩:=I.loc;refine .cons (by rw[I.ok.kind];decide) hf hn ?_ I.funs;exact Heap.get?_none_of_le (aY I.ok.bsz I.ok.above)
theorem eV.stkSub(I:eV X pins σ H s):∀b∈zS X.stack,b∈X.env.locals::X.fs:=λb hb=>by
 rcases I.ok.stk with e|⟨e,hf⟩
 ·rw[e]at hb;exact bB _ hb
 ·rw[e]at hb;unfold zS at hb;rw[cK,hf]at hb;exact hb
theorem eV.stkFree(I:eV X pins σ H s):∀b∈zS X.stack,H b=none:=λb hb=>by
 rcases aB.mp (I.stkSub b hb)with e|hb
 ·rw[e];exact I.free
 ·obtain⟨_,o,ho,_⟩:=I.ok.funs.mem hb;exact I.base.free b o ho (I.ok.frf b hb) λz=>I.ok.exfs b z hb
theorem eV.step{g':Array GenState}{t':Nat}{d':Drawn}{ch:List Addr}(I:eV X pins σ H s)
  (hch:∀b∈ch,(b∈X.ex∨X.s₀.heap.objs.size≤b)∧b≠X.env.locals∧(∀x c,X.env.cells.lookup x=some c→c≠b)∧∀p∈X.pn++pins,p.1≠b)
  (keep:∀b o,b≠X.env.locals→b∉X.fs→b∉ch→s.heap.get? b=some o→H b=none→h'.get? b=some o)
  (slot:∀b o,b≠X.env.locals→b∈X.fs→b∉ch→s.heap.get? b=some o→H b=none→∃sl,h'.get? b=some {o with slots:=sl}) (free:∀b o,b∉ch→s.heap.get? b=some o→H b=none→H' b=none)
  (there:∀b o,b∉ch→s.heap.get? b=some o→∃o',h'.get? b=some o')
  (tups:∀b xs,H b=some (.tup xs)→H' b=some (.tup xs)) (frzs:∀b o u,H b=some (.frz o u)→H' b=some (.frz o u)) (tbls:∀b ps,H b=some (.tbl ps)→∃more,H' b=some (.tbl (ps++more)))
  (ns:∀m,s.heap.Ns X.env.locals m→h'.Ns X.env.locals m) (hok:mU X.prog X.w H' h') (hg:AllBare g'):
  eV X pins σ H' {s with heap:=h',gens:=g',drawn:=d',toks:=t'}:=by
 have neL:∀b o,X.s₀.heap.get? b=some o→b≠X.env.locals:=λb o e=>aM (ae (Heap.lt_size e) I.ok.above);have neC:∀b o,X.s₀.heap.get? b=some o→b∉X.ex→b∉ch:=λb o e hx hb=>by
  rcases(hch b hb).1 with z|z
  ·exact hx z
  ·exact absurd (ae (Heap.lt_size e) z) (bT _)
 have cellK:∀x c,X.env.cells.lookup x=some c→∀v,s.heap.IsCell c v→h'.IsCell c v:=λx c e v ⟨o,ho,hd⟩=>by
  have nch:c∉ch:=λz=>(hch c z).2.2.1 x c e rfl;by_cases hc:c∈X.fs
  ·obtain⟨sl,q⟩:=slot c o (I.cne x c e) hc nch ho (I.freeC x c e);exact⟨_,q,hd⟩
  ·exact⟨o,keep c o (I.cne x c e) hc nch ho (I.freeC x c e),hd⟩
 refine⟨I.ok,I.os,hg,⟨λb o e n hb hx=>?_,λb o e n hb hx=>?_,λb o e n hx=>?_,λb o e hx=>?_,λb xs e=>tups b xs (I.base.tups b xs e),λb o xs e=>frzs b o xs (I.base.frzs b o xs e),λb ps e=>?_⟩,?_,λx c e=>?_,?_,λx c e=>?_,λp hp=>?_,hok,I.len⟩
 ·exact keep b o (neL b o e) hb (neC b o e hx) (I.base.keep b o e n hb hx) (I.base.free b o e n hx)
 ·obtain⟨sl,e1⟩:=I.base.slot b o e n hb hx;obtain⟨sl',e2⟩:=slot b _ (neL b o e) hb (neC b o e hx) e1 (I.base.free b o e n hx);exact⟨sl',e2⟩
 ·obtain⟨o',e1⟩:=I.base.there b o e hx;exact free b o' (neC b o e hx) e1 (I.base.free b o e n hx)
 ·obtain⟨o',e1⟩:=I.base.there b o e hx;exact there b o' (neC b o e hx) e1
 ·obtain⟨m1,e1⟩:=I.base.tbls b ps e;obtain⟨m2,e2⟩:=tbls b _ e1;exact⟨m1++m2,by rw[e2,Array.append_assoc]⟩
 ·obtain⟨m,hn,hl⟩:=I.loc;refine⟨m,ns m hn,λi x v e1 e2 e3=>?_⟩;obtain⟨u,r,l⟩:=hl i x v e1 e2 e3;refine⟨u,r,?_⟩;rcases l with l|⟨k,c,e,z⟩
  ·exact .inl l
  ·exact .inr ⟨k,c,e,cellK x c e _ z⟩
 ·obtain⟨v,z⟩:=I.cell x c e;exact⟨v,cellK x c e v z⟩
 ·obtain⟨m,⟨o,_,_,ho,_⟩,_⟩:=I.loc;exact free _ o (λz=>(hch _ z).2.1 rfl) ho I.free
 ·obtain⟨v,o,ho,hd⟩:=I.cell x c e;exact free c o (λz=>(hch c z).2.2.1 x c e rfl) ho (I.freeC x c e)
 ·obtain⟨e,n,ne,nf,d⟩:=I.pin p hp;have nch:p.1∉ch:=λz=>(hch p.1 z).2.2.2 p hp rfl;exact⟨keep p.1 p.2 ne nf nch e n,free p.1 p.2 nch e n,ne,nf,d⟩
theorem eV.un{t':Nat}(I:eV X pins σ H s)(u:Un X.fs [] H H' s.heap h')(hok:mU X.prog X.w H' h'):eV X pins σ H' {s with heap:=h',toks:=t'}:=by
 obtain⟨m,⟨o,es,ep,ho,r⟩,_⟩:=id I.loc;obtain⟨sl,hL⟩:=u.any ho I.free (by simp);exact I.step (g':=s.gens) (d':=s.drawn) (ch:=[]) (λ_ z=>nomatch z) (λb o _ hb _ e n=>u.keep b o e n hb (by simp)) (λb o _ hb _ e n=>u.slot b o e n hb (by simp)) (λb o _ e n=>u.free b o e n (by simp)) (λb o _ e=>u.there b o e (by simp)) u.tups u.frzs u.tbls (λm' hm=>by
  obtain⟨o',es',ep',ho',r'⟩:=hm;rw[ho]at ho';cases ho';exact⟨_,es',ep',hL,r'⟩) hok I.bare
theorem eV.call{g':Array GenState}{t':Nat}{d':Drawn}{ch:List Addr}(I:eV X pins σ H s)(u:Un (zS X.stack) ch H H' s.heap h')(hok:mU X.prog X.w H' h')(hg:AllBare g')
  (hch:∀b∈ch,(b∈X.ex∨X.s₀.heap.objs.size≤b)∧b≠X.env.locals∧(∀x c,X.env.cells.lookup x=some c→c≠b)∧∀p∈X.pn++pins,p.1≠b):
  eV X pins σ H' {s with heap:=h',gens:=g',drawn:=d',toks:=t'}:=by
 obtain⟨m,⟨o,es,ep,ho,r⟩,_⟩:=id I.loc;obtain⟨sl,hL⟩:=u.any ho I.free λz=>(hch _ z).2.1 rfl;exact I.step (ch:=ch) hch (λb o hL hb hc e n=>u.keep b o e n (λz=>(aB.mp (I.stkSub b z)).elim hL hb) hc) (λb o _ _ hc e n=>u.any e n hc) (λb o hc e n=>u.free b o e n hc) (λb o hc e=>u.there b o e hc) u.tups u.frzs u.tbls (λm' hm=>by
  obtain⟨o',es',ep',ho',r'⟩:=hm;rw[ho]at ho';cases ho';exact⟨_,es',ep',hL,r'⟩) hok hg
theorem eV.turned{t':Nat}{it:Addr}(I:eV X pins σ H s)(k:∀b o,b≠it→s.heap.get? b=some o→h'.get? b=some o)(hn:H it=none)(hL:it≠X.env.locals)
  (h1:it∈X.ex∨X.s₀.heap.objs.size≤it) (h2:∀x c,X.env.cells.lookup x=some c→c≠it) (h3:∀p∈X.pn++pins,p.1≠it):eV X pins σ H {s with heap:=h',toks:=t'}:=by
 have nit:∀b u,H b=some u→b≠it:=λb u e z=>by rw[z,hn]at e;cases e
 refine I.step (g':=s.gens) (d':=s.drawn) (ch:=[it]) (λb hb=>?_) (λb o _ _ hc e _=>k b o (λz=>hc (by simp[z])) e) (λb o _ _ hc e _=>⟨o.slots,k b o (λz=>hc (by simp[z])) e⟩) (λ_ _ _ _ n=>n)
  (λb o hc e=>⟨o,k b o (λz=>hc (by simp[z])) e⟩) (λ_ _ e=>e) (λ_ _ _ e=>e) (λb ps e=>⟨#[],by rw[e];simp⟩) (λm hm=>?_) (λb u e=>?_) I.bare
 ·have e:b=it:=by simpa using hb
  subst e;exact⟨h1,hL,h2,h3⟩
 ·obtain⟨o,es,ep,ho,r⟩:=hm;exact⟨o,es,ep,k _ o (ai hL) ho,r⟩
 ·refine(I.hok b u e).stay (λc v hc q=>k c v ?_ q) (λ_ q=>q) λ_ _ q=>q;rcases hc with z|z
  ·rw[z];exact nit b u e
  ·exact nit c _ z
theorem eV.tok(I:eV X pins σ H s)(t:Nat):eV X pins σ H {s with toks:=t}:=I.un (h':=s.heap) (t':=t) Un.refl I.hok
theorem eV.kept(I:eV X pins σ H s)(k:∀b u,s.heap.get? b=some u→h'.get? b=some u):eV X pins σ H {s with heap:=h',toks:=t'}:=I.un (Un.kept k) (I.hok.kept k)
theorem eV.laid(I:eV X pins σ H s)(k:∀b u,s.heap.get? b=some u→h'.get? b=some u)(hp:s.heap.objs.size≤a)(new:gU X.prog X.w (upd H a o) h' a o):
  eV X pins σ (upd H a o) {s with heap:=h',toks:=t'}:=I.un (Un.laid k hp (I.hok.fresh hp)) (I.hok.laid k hp new)
theorem eV.write(I:eV X pins σ H s)(mu:Ku (H x))(he:e=x∨H e=some (.own x))(k:∀b u,b≠e→s.heap.get? b=some u→h'.get? b=some u)(heo:∃u,h'.get? e=some u)
  (new:gU X.prog X.w (upd H x o) h' x o):eV X pins σ (upd H x o) {s with heap:=h',toks:=t'}:=I.un (Un.write mu he k heo) (I.hok.write mu he k heo new)
theorem eV.pins_of(I:eV X pins σ H s)(h:∀p∈pins',s.heap.get? p.1=some p.2∧H p.1=none∧p.1≠X.env.locals∧p.1∉X.fs∧∀v,p.2.data≠.cell v):eV X pins' σ H s:=
 ⟨I.ok,I.os,I.bare,I.base,I.loc,I.cell,I.free,I.freeC,λp hp=>(aU.mp hp).elim (λz=>I.pin p (af _ z)) (h p),I.hok,I.len⟩
theorem uY{N:List Str}(hN:N.Nodup){i j:Nat}{x:Str}(a:N[i]?=some x)(b:N[j]?=some x):i=j:=by obtain⟨h1,e1⟩:=aK.mp a;obtain⟨h2,e2⟩:=aK.mp b;exact(List.getElem_inj hN).mp (e1.trans e2.symm)
theorem yd{M:Model}{A:Around}{E:Value→Shared→Prop}{i:Nat}{x:Str}{v:V}{u:Value}{Q:Unit→Shared→Prop}(I:eV X pins σ H s)(hN:X.N.Nodup)(hi:X.N[i]?=some x)(hx:Iv X.env.scope x)(r:fS v u)
  (h:∀s',eV X pins (σ.set i (some v)) H s'→(∃a,Heap.SameBut a s.heap s'.heap∧(a=X.env.locals∨X.env.cells.lookup x=some a))→Q () s') (hf:X.fn x=true∨X.env.scope.names.lookup x=some .local:=by first|exact .inl rfl|exact .inr rfl|assumption):wpAny M A (storeName X.env x u) Q E s:=by
 obtain⟨m,hn,hl⟩:=id I.loc;have hcls:(X.env.scope.kind==.class||(X.env.scope.kind==.module&&X.env.locals != X.env.globals))=false:=by rw[I.ok.kind];rfl
 have hiσ:i<σ.length:=by rw[I.len];exact(aK.mp hi).1
 have cne:=I.cne;have tracked:∀{a:Addr}{h':Heap},(∃o,s.heap.get? a=some o∧H a=none)→Heap.SameBut a s.heap h'→mU X.prog X.w H h':=λ{a h'} ha hs b ob e=>by
  obtain⟨_,_,hfree⟩:=ha;refine(I.hok b ob e).stay (λc w' hc q=>(hs.2 c ?_).trans q) (λ_ q=>q) λ_ _ q=>q;rintro rfl;rcases hc with rfl|hc
  ·rw[hfree]at e;cases e
  ·rw[hfree]at hc;cases hc
 rcases hx with hk|hk
 ·refine wpAny_storeName_local hk hn (λh' hn' hs=>?_) hcls;obtain⟨oL,_,_,hoL,_⟩:=id hn;refine h _ ⟨I.ok,I.os,I.bare,⟨λb o e n hb hx=>?_,λb o e n hb hx=>?_,I.base.free,λb o e hx=>?_,I.base.tups,I.base.frzs,I.base.tbls⟩,⟨_,hn',λj y v' e1 e2 e3=>?_⟩,λy c e=>?_,I.free,I.freeC,λp hp=>?_,tracked ⟨oL,hoL,I.free⟩ hs,by simpa using I.len⟩ ⟨_,hs,.inl rfl⟩
  ·exact(hs.2 b (aM (ae (Heap.lt_size e) I.ok.above))).trans (I.base.keep b o e n hb hx)
  ·obtain⟨sl,e1⟩:=I.base.slot b o e n hb hx;exact⟨sl,(hs.2 b (aM (ae (Heap.lt_size e) I.ok.above))).trans e1⟩
  ·obtain⟨o',e1⟩:=I.base.there b o e hx;exact⟨o',(hs.2 b (aM (ae (Heap.lt_size e) I.ok.above))).trans e1⟩
  ·by_cases hj:j=i
   ·subst hj;rw[hi]at e1;cases e1;rw[cp hiσ]at e2;cases e2;exact⟨u,r,.inl ⟨hk,by simp⟩⟩
   ·rw[bz (ai hj)]at e2;obtain⟨u',r',q⟩:=hl j y v' e1 e2 e3;refine⟨u',r',?_⟩;rcases q with⟨k,e⟩|⟨k,c,e,z⟩
    ·refine .inl ⟨k,?_⟩;have:y≠x:=λe=>hj (uY hN e1 (e▸hi));simp[this,e]
    ·exact .inr ⟨k,c,e,z.sameBut hs (cne y c e)⟩
  ·obtain⟨w',z⟩:=I.cell y c e;exact⟨w',z.sameBut hs (cne y c e)⟩
  ·obtain⟨e,n,ne,nf,d⟩:=I.pin p hp;exact⟨(hs.2 p.1 ne).trans e,n,ne,nf,d⟩
 ·have hfn:X.fn x=true:=by
   rcases hf with z|z
   ·exact z
   ·rw[z]at hk;cases hk
  obtain⟨c,hc⟩:=I.ok.has x (.inl hk);obtain⟨w',z⟩:=I.cell x c hc;refine wpAny_storeName_cell I.ok.kind hk hc z (λh' hc' hs=>?_);obtain⟨oc,hoc,hocd⟩:=id z;refine h {s with heap:=h'} ⟨I.ok,I.os,I.bare,⟨λb o e n hb hx=>?_,λb o e n hb hx=>?_,I.base.free,λb o e hx=>?_,I.base.tups,I.base.frzs,I.base.tbls⟩,⟨m,hn.sameBut hs (ai (cne x c hc)),λj y v' e1 e2 e3=>?_⟩,λy c' e=>?_,I.free,I.freeC,λp hp=>?_,tracked ⟨oc,hoc,I.freeC x c hc⟩ hs,by simpa using I.len⟩ ⟨c,hs,.inr hc⟩
  ·exact(hs.2 b (aM (ae (Heap.lt_size e) (I.ok.cab x c hfn hc)))).trans (I.base.keep b o e n hb hx)
  ·obtain⟨sl,e1⟩:=I.base.slot b o e n hb hx;exact⟨sl,(hs.2 b (aM (ae (Heap.lt_size e) (I.ok.cab x c hfn hc)))).trans e1⟩
  ·obtain⟨o',e1⟩:=I.base.there b o e hx;exact⟨o',(hs.2 b (aM (ae (Heap.lt_size e) (I.ok.cab x c hfn hc)))).trans e1⟩
  ·by_cases hj:j=i
   ·subst hj;rw[hi]at e1;cases e1;rw[cp hiσ]at e2;cases e2;exact⟨u,r,.inr ⟨.inl hk,c,hc,hc'⟩⟩
   ·rw[bz (ai hj)]at e2;obtain⟨u',r',q⟩:=hl j y v' e1 e2 e3;refine⟨u',r',?_⟩;rcases q with q|⟨k,c',e,z'⟩
    ·exact .inl q
    ·refine .inr ⟨k,c',e,z'.sameBut hs ?_⟩;rintro rfl;exact hj (uY hN e1 (I.ok.inj _ _ _ e hc▸hi))
  ·by_cases hcc:c'=c
   ·subst hcc;exact⟨_,hc'⟩
   ·obtain⟨w2,z2⟩:=I.cell y c' e;exact⟨w2,z2.sameBut hs hcc⟩
  ·obtain⟨e,n,ne,nf,d⟩:=I.pin p hp;refine⟨(hs.2 p.1 ?_).trans e,n,ne,nf,d⟩;intro q;rw[q,hoc]at e;have q':oc=p.2:=Option.some.inj e;exact d w' (by rw[←q'];exact hocd)
theorem uI(I:eV X pins σ H s)(hN:X.N.Nodup)(hi:X.N[i]?=some x)(hx:Iv X.env.scope x)(r:fS v u)
  (h:∀s',eV X pins (σ.set i (some v)) H s'→Q () s') (hf:X.fn x=true∨X.env.scope.names.lookup x=some .local:=by first|exact .inl rfl|exact .inr rfl|assumption):wpAny M A (storeName X.env x u) Q E s:=
 yd I hN hi hx r (λs' I' _=>h s' I') hf
theorem eV.call'(I:eV X pins σ H s)(ho:s'.os=s.os)(u:Un (zS X.stack) ch H H' s.heap s'.heap)(hok:mU X.prog X.w H' s'.heap)(hg:AllBare s'.gens)
  (hch:∀b∈ch,(b∈X.ex∨X.s₀.heap.objs.size≤b)∧b≠X.env.locals∧(∀x c,X.env.cells.lookup x=some c→c≠b)∧∀p∈X.pn++pins,p.1≠b):eV X pins σ H' s':=by
 obtain⟨h',g',d',t',o'⟩:=s';have e:o'=s.os:=ho;subst e;exact I.call (g':=g') (t':=t') (d':=d') u hok hg hch
end
abbrev XK:=Value→Option Addr→Hp→Prop
abbrev St:=List (Option V)
abbrev VK:=V→Hp→Prop
abbrev TE:=St→Hp→VK→Prop
abbrev TT:=St→Hp→(Bool→Hp→Prop)→Prop
abbrev TA:=St→Hp→(List V→Hp→Prop)→Prop
structure iT where
 nx:St→Hp→Prop
 rt:VK
 bk:St→Hp→Prop:=λ_ _=>False
 ct:St→Hp→Prop:=λ_ _=>False
abbrev TS:=iT→St→Hp→Prop
def iT.thn(D:iT)(u:TS):iT:={D with nx:=u D}
def iT.lp(D:iT)(N:St→Hp→Prop):iT:=⟨N,D.rt,D.nx,N⟩
def EP(X:Cx)(pins:List (Addr×Obj))(σ:St)(Q:VK)(u:Value)(s':Shared):Prop:=∃v H',eV X pins σ H' s'∧fS v u∧Q v H'
def TP(X:Cx)(pins:List (Addr×Obj))(σ:St)(Q:Bool→Hp→Prop)(b:Bool)(s':Shared):Prop:=∃H',eV X pins σ H' s'∧Q b H'
def AP(X:Cx)(pins:List (Addr×Obj))(σ:St)(Q:List V→Hp→Prop)(us:List Value)(s':Shared):Prop:=∃vs H',eV X pins σ H' s'∧fE vs us∧Q vs H'
def SP(X:Cx)(pins:List (Addr×Obj))(D:iT)(f:Flow)(s':Shared):Prop:=
 match f with
 | .next=>∃σ' H',eV X pins σ' H' s'∧D.nx σ' H'
 | .brk=>∃σ' H',eV X pins σ' H' s'∧D.bk σ' H'
 | .cont=>∃σ' H',eV X pins σ' H' s'∧D.ct σ' H'
 | .ret u=>∃v σ' H',eV X pins σ' H' s'∧fS v u∧D.rt v H'
def PE(X:Cx)(e:Expr)(t:TE):Prop:=
 ∀(pins:List (Addr×Obj))(s:Shared)(σ:St)(H:Hp)(Q:VK),eV X pins σ H s→t σ H Q→wpAny (model X.prog X.w) X.A (eval e X.env) (EP X pins σ Q) X.xe s
def PT(X:Cx)(e:Expr)(t:TT):Prop:=
 ∀(pins:List (Addr×Obj))(s:Shared)(σ:St)(H:Hp)(Q:Bool→Hp→Prop),eV X pins σ H s→t σ H Q→wpAny (model X.prog X.w) X.A (isTrue e X.env (eval e X.env)) (TP X pins σ Q) X.xe s
def PW(X:Cx)(e:Expr)(t:TT):Prop:=
 ∀(whole:Sem Value)(pins:List (Addr×Obj))(s:Shared)(σ:St)(H:Hp)(Q:Bool→Hp→Prop),eV X pins σ H s→t σ H Q→wpAny (model X.prog X.w) X.A (isTrue e X.env whole) (TP X pins σ Q) X.xe s
theorem PW.pt(h:PW X e t):PT X e t:=h _
def PA(X:Cx)(es:List Expr)(t:TA):Prop:=
 ∀(pos:Pos)(pins:List (Addr×Obj))(s:Shared)(σ:St)(H:Hp)(Q:List V→Hp→Prop),eV X pins σ H s→t σ H Q→wpAny (model X.prog X.w) X.A (spliced (backTo pos (starEach es X.env))) (AP X pins σ Q) X.xe s
def PS(X:Cx)(st:Stmt)(t:TS):Prop:=
 ∀(pins:List (Addr×Obj))(s:Shared)(σ:St)(H:Hp)(D:iT),eV X pins σ H s→t D σ H→wpAny (model X.prog X.w) X.A (exec st X.env) (SP X pins D) X.xe s
def tS(X:Cx)(st:List Stmt)(t:TS):Prop:=
 ∀(pins:List (Addr×Obj))(s:Shared)(σ:St)(H:Hp)(D:iT),eV X pins σ H s→t D σ H→wpAny (model X.prog X.w) X.A (execs st X.env) (SP X pins D) X.xe s
theorem thn(h:wpAny M A t Q E s)(hQ:∀a s,Q a s→Q' a s):wpAny M A t Q' E s:=wpAny_mono h hQ λ_ _ x=>x
section
variable {X:Cx}
def lA(H:Hp)(o:HO)(Q:VK):Prop:=∀p,H p=none→Q (.ref p) (upd H p o)
@[reducible] def nmQ:Option (Option V)→(V→Prop)→Prop
 | some (some v),k=>k v
 | _,_=>False
theorem nmQ.ex(h:nmQ o k):∃v,o=some (some v)∧k v:=by
 match o,h with
 | some (some v),h=>exact⟨v,rfl,h⟩
theorem nmQ.of(h:o=some (some v))(q:k v):nmQ o k:=by subst h;exact q
@[reducible] def onI:V→(Int→Prop)→Prop
 | .int c,k=>k c
 | _,_=>False
theorem onI.ex(h:onI x k):∃c,x=.int c∧k c:=by cases x<;>first|exact⟨_,rfl,h⟩|exact h.elim
@[reducible] def onR:V→(Addr→Prop)→Prop
 | .ref c,k=>k c
 | _,_=>False
theorem onR.ex(h:onR x k):∃c,x=.ref c∧k c:=by cases x<;>first|exact⟨_,rfl,h⟩|exact h.elim
@[reducible] def onS:V→(Str→Prop)→Prop
 | .str c,k=>k c
 | _,_=>False
theorem onS.ex(h:onS x k):∃c,x=.str c∧k c:=by cases x<;>first|exact⟨_,rfl,h⟩|exact h.elim
@[reducible] def onY:V→(String→Prop)→Prop
 | .ty c,k=>k c
 | _,_=>False
theorem onY.ex(h:onY x k):∃c,x=.ty c∧k c:=by cases x<;>first|exact⟨_,rfl,h⟩|exact h.elim
@[reducible] def on1:List V→(V→Prop)→Prop
 | [x],k=>k x
 | _,_=>False
theorem on1.ex:∀{vs:List V},on1 vs k→∃x,vs=[x]∧k x
 | [_],h=>⟨_,rfl,h⟩
 | [],h=>h.elim
 | _::_::_,h=>h.elim
@[reducible] def on0:List V→Prop→Prop
 | [],k=>k
 | _,_=>False
theorem on0.ex:∀{vs:List V},on0 vs k→vs=[]∧k
 | [],h=>⟨rfl,h⟩
 | _::_,h=>h.elim
@[reducible] def onC{α:Type}:List α→(α→List α→Prop)→Prop
 | x::r,k=>k x r
 | _,_=>False
theorem onC.ex{α:Type}{k:α→List α→Prop}:∀{vs:List α},onC vs k→∃x r,vs=x::r∧k x r
 | _::_,h=>⟨_,_,rfl,h⟩
 | [],h=>h.elim
inductive lZ{α:Type}(S:α→Prop)(k:α→Prop):Prop
 | mk{a:α}(h:S a)(q:k a):lZ S k
def dN(i:Nat):TE:=λσ H Q=>nmQ σ[i]? λv=>Q v H
def tC(v:V):TE:=λ_ H Q=>Q v H
theorem BX(hN:X.N[i]?=some x)(hv:LF X.env.scope x)(hd:(x==("__debug__":Str))=false:=by decide)(hcd:(x==("__classdict__":Str))=false:=by decide):PE X (.Name x pos) (dN i):=by
 intro pins s σ H Q I h;obtain⟨v,e,h⟩:=nmQ.ex h;obtain⟨m,hn,hl⟩:=I.loc;obtain⟨u,r,l⟩:=hl i x v hN e hv;have gf:EP X pins σ Q u s:=⟨v,H,I,r,h⟩;rcases l with⟨hk,hm⟩|⟨hk,c,hc,hcell⟩
 ·exact wpAny_Name (wpAny_loadName_local I.ok.kind hk hn hm gf) hd
 ·rcases hk with hk|hk
  ·exact wpAny_Name (wpAny_loadName_cell I.ok.kind hk hc hcell gf) hd
  ·exact wpAny_Name (wpAny_loadName_free I.ok.kind hk hc hcell gf hcd) hd
theorem dQ:PE X (.Constant (.int i) j pos) (tC (.int i)):=λ_ _ _ H _ I h=>wpAny_Constant_int ⟨.int i,H,I.tok _,⟨_,rfl⟩,h⟩
theorem hV:PE X (.Constant (.bool b) j pos) (tC (.bl b)):=λ_ _ _ H _ I h=>Constant_bool ⟨.bl b,H,I,rfl,h⟩
theorem vp:PE X (.Constant .none j pos) (tC .non):=λ_ _ _ H _ I h=>Constant_none ⟨.non,H,I,rfl,h⟩
theorem dj:PE X (.Constant (.str x) j pos) (tC (.str x)):=λ_ _ _ H _ I h=>Calls.Constant_str ⟨.str x,H,I.tok _,⟨_,rfl⟩,h⟩
def Gl(X:Cx)(x:Str):Prop:=X.env.kindOf x=some .globalImplicit
theorem sZ(I:eV X pins σ H s)(hg:Gl X x)(hm:X.mg x=some u)(h:Q u s)
  (hd:(x==("__debug__":Str))=false:=by decide):wpAny (model X.prog X.w) X.A (eval (.Name x pos) X.env) Q E s:=
 Calls.Name_function_global I.ok.kind hg (Calls.loadGlobal_global (by rw[I.ok.glob];exact I.mod.glob.keeps I.bk) hm h) hd
theorem kC(I:eV X pins σ H s)(hg:Gl X x)(hm:X.mg x=none)(hv:bootBuiltins x=some u)(h:Q u s)
  (hn:x≠"__name__":=by decide) (hd:(x==("__debug__":Str))=false:=by decide):wpAny (model X.prog X.w) X.A (eval (.Name x pos) X.env) Q E s:=by
 obtain⟨mb,h1,h2⟩:=I.mod.blt;exact Calls.Name_function_global I.ok.kind hg (Calls.loadGlobal_builtin (by rw[I.ok.glob];exact I.mod.glob.keeps I.bk) hm (by rw[I.ok.blt];exact h1.keeps I.bk) ((h2 x hn).trans hv) h) hd
theorem lf(hg:Gl X x)(hm:X.mg x=some u)(r:fS v u)(hd:(x==("__debug__":Str))=false:=by decide):PE X (.Name x pos) (tC v):=
 λ_ _ _ H _ I h=>sZ I hg hm ⟨v,H,I,r,h⟩ hd
theorem iz(hg:Gl X x)(hm:X.mg x=none)(hv:bootBuiltins x=some u)(r:fS v u)(hn:x≠"__name__":=by decide)(hd:(x==("__debug__":Str))=false:=by decide):PE X (.Name x pos) (tC v):=
 λ_ _ _ H _ I h=>kC I hg hm hv ⟨v,H,I,r,h⟩ hn hd
variable {a b:Expr}{ta tb:TE}{pos:Pos}
def PC(X:Cx)(op:CmpOp)(a b:Expr)(t:TE):Prop:=
 ∀(pins:List (Addr×Obj))(s:Shared)(σ:St)(H:Hp)(Q:VK),eV X pins σ H s→t σ H Q→
  wpAny (model X.prog X.w) X.A (eval a X.env) (λv s₁=>wpAny (model X.prog X.w) X.A (eval b X.env) (λu s₂=>wpAny (model X.prog X.w) X.A (compareOp op v u) (EP X pins σ Q) X.xe s₂) X.xe s₁) X.xe s
def tB(t:TE):TT:=λσ H Q=>t σ H λx H1=>∃c,x=.bl c∧Q c H1
theorem mP(h:PC X op a b t)(h1:behindInMarks op b=false:=by first|exact nobehind _ (by decide) (by decide)|rfl):PT X (.Compare a [op] [b] pos) (tB t):=by intro pins s σ H Q I hw;refine wpAny_isTrue_Compare1 (thn (h pins s σ H _ I hw) λv s1 h1=>thn h1 λu s2 h2=>thn h2 λc s3 ⟨x,H1,I1,r1,q1⟩=>?_) h1;obtain⟨d,rfl,q⟩:=q1;cases r1;exact wpAny_truthy_bool ⟨H1,I1,q⟩
theorem iW(h:PE X e t)(he:∀whole,isTrue e X.env whole=(do let v ← whole;standAt e.pos;holding [v] (truthy v)):=by intro _;rfl):PT X e (tB t):=by intro pins s σ H Q I hw;refine isTrue_plain (thn (h pins s σ H _ I hw) λv s1 ⟨x,H1,I1,r1,q1⟩=>?_) (he _);obtain⟨d,rfl,q⟩:=q1;cases r1;exact wpAny_truthy_bool ⟨H1,I1,q⟩
variable {tA tB':TT}{rest:List Expr}
def kH(t u:TT):TT:=λσ H Q=>t σ H λc H1=>if c=true then u σ H1 Q else Q false H1
def xH(t u:TT):TT:=λσ H Q=>t σ H λc H1=>if c=true then Q true H1 else u σ H1 Q
def mM(t:TT):TT:=λσ H Q=>t σ H λc H1=>Q (!c) H1
theorem gi(ha:PT X a tA):PW X (.BoolOp .And [a] pos) tA:=by
 intro wh pins s σ H Q I h;refine isTrue_and (thn (ha pins s σ H Q I h) λc s1 e=>?_);cases c with
 | true=>exact isTrue_and_nil e
 | false=>exact e
theorem kf(ha:PT X a tA):PW X (.BoolOp .Or [a] pos) tA:=by
 intro wh pins s σ H Q I h;refine isTrue_or (thn (ha pins s σ H Q I h) λc s1 e=>?_);cases c with
 | false=>exact isTrue_or_nil e
 | true=>exact e
theorem iF(ha:PT X a tA)(hb:PW X (.BoolOp .And (b::rest) pos) tB'):PW X (.BoolOp .And (a::b::rest) pos) (kH tA tB'):=by
 intro wh pins s σ H Q I h;refine isTrue_and (thn (ha pins s σ H _ I h) λc s1 ⟨H1,I1,q1⟩=>?_);cases c with
 | true=>exact hb wh pins s1 σ H1 Q I1 q1
 | false=>exact⟨H1,I1,q1⟩
theorem kN(ha:PT X a tA)(hb:PW X (.BoolOp .Or (b::rest) pos) tB'):PW X (.BoolOp .Or (a::b::rest) pos) (xH tA tB'):=by
 intro wh pins s σ H Q I h;refine isTrue_or (thn (ha pins s σ H _ I h) λc s1 ⟨H1,I1,q1⟩=>?_);cases c with
 | true=>exact⟨H1,I1,q1⟩
 | false=>exact hb wh pins s1 σ H1 Q I1 q1
theorem ix(ha:PT X a tA):PT X (.UnaryOp .Not a pos) (mM tA):=by intro pins s σ H Q I h;exact isTrue_not (ha pins s σ H (λc H1=>Q (!c) H1) I h)
def Ap(ta tb:TE):TE:=λσ H Q=>ta σ H λx H1=>∃c,x=.bl c∧if c=true then tb σ H1 Q else Q (.bl false) H1
def Ez(ta:TE):TE:=λσ H Q=>ta σ H λx H1=>∃c,x=.bl c∧Q (.bl (!c)) H1
theorem BY(h:PE X a t):PE X (.BoolOp op [a] pos) t:=λpins s σ H Q I hw=>BoolOp_one (h pins s σ H Q I hw)
theorem Bb(ha:PE X a ta)(hb:PE X (.BoolOp .And (b::rest) pos) tb):PE X (.BoolOp .And (a::b::rest) pos) (Ap ta tb):=by
 intro pins s σ H Q I h;refine BoolOp_and (thn (ha pins s σ H _ I h) λv s1 ⟨x,H1,I1,r1,q1⟩=>?_);obtain⟨c,rfl,q1⟩:=q1;cases r1;refine wpAny_truthy_bool ?_;cases c with
 | true=>exact hb pins s1 σ H1 Q I1 q1
 | false=>exact⟨.bl false,H1,I1,rfl,q1⟩
theorem Hm(ha:PE X a ta):PE X (.UnaryOp .Not a pos) (Ez ta):=by intro pins s σ H Q I h;refine UnaryOp_ (thn (ha pins s σ H _ I h) λv s1 ⟨x,H1,I1,r1,q1⟩=>?_);obtain⟨c,rfl,q1⟩:=q1;cases r1;exact not_of (wpAny_truthy_bool ⟨.bl (!c),H1,I1,rfl,q1⟩)
end
def eG(K:aA)(H:Hp)(a:Addr)(xs:List V):Prop:=
 Rd H a (.lst xs)∨
  ∃(o:Obj)(its:Array Value)(n:Nat),K.lookup a=some o∧o.cls=.type "list"∧o.dict=none∧o.data=.seq its n∧its.size≤sizeLine∧fE xs its.toList
def eA(K:aA)(H:Hp)(a:Addr)(xs:List V):Prop:=
 Rd H a (.tup xs)∨
  ∃(o:Obj)(its:Array Value)(n:Nat),K.lookup a=some o∧o.cls=.type "tuple"∧o.data=.seq its n∧its.size≤sizeLine∧fE xs its.toList
def Mp:Value→Option V
 | .none=>some .non
 | .bool b=>some (.bl b)
 | .int i _=>some (.int i)
 | .str x _=>some (.str x)
 | .bytes b _=>some (.byt b)
 | .float b _=>some (.flt b)
 | .ref a=>some (.ref a)
 | .type n=>some (.ty n)
 | _=>none
theorem fS.abs(r:fS x u):Mp u=some x:=by
 cases x with
 | non=>cases r;rfl
 | bl _=>cases r;rfl
 | int _=>obtain⟨t,rfl⟩:=r;rfl
 | str _=>obtain⟨t,rfl⟩:=r;rfl
 | byt _=>obtain⟨t,rfl⟩:=r;rfl
 | flt _=>obtain⟨t,rfl⟩:=r;rfl
 | ref _=>cases r;rfl
 | ty _=>cases r;rfl
theorem fS.inj(r:fS x u)(q:fS y u):x=y:=Option.some.inj (r.abs.symm.trans q.abs)
theorem fE.inj:∀{xs ys:List V}{us:List Value},fE xs us→fE ys us→xs=ys
 | _,_,_,.nil,.nil=>rfl
 | _,_,_,.cons r t,.cons r' t'=>by rw[r.inj r',fE.inj t t']
section
variable {X:Cx}{pins:List (Addr×Obj)}{σ:St}{H:Hp}{s:Shared}{a:Addr}{xs ys:List V}
theorem eG.of{K:aA}(h:H a=some (.lst xs)):eG K H a xs:=.inl (.inl h)
theorem eA.of{K:aA}(h:H a=some (.tup xs)):eA K H a xs:=.inl (.inl h)
theorem eV.list(I:eV X pins σ H s)(h:eG X.K H a xs):∃its:List Value,fE xs its∧PlainL s.heap a its.toArray∧xs.length≤sizeLine:=by
 rcases h with h|⟨o,its,n,hk,hc,hd,hs,hz,r⟩
 ·obtain⟨z,its,n,r,e⟩:=h.ok I.hok;exact⟨its,r,⟨_,n,e,rfl,rfl,rfl⟩,z⟩
 ·refine⟨its.toList,r,⟨o,n,I.kIn a o hk,hc,hd,by simpa using hs⟩,?_⟩;have e:=r.length;simp only[bh]at e;lia
theorem eV.tuple(I:eV X pins σ H s)(h:eA X.K H a xs):∃its:List Value,fE xs its∧IsTup s.heap a its.toArray∧xs.length≤sizeLine:=by
 rcases h with h|⟨o,its,n,hk,hc,hs,hz,r⟩
 ·obtain⟨z,its,r,p⟩:=h.ok I.hok;exact⟨its,r,p,z⟩
 ·refine⟨its.toList,r,⟨o,I.kIn a o hk,hc,n,by simpa using hs⟩,?_⟩;have e:=r.length;simp only[bh]at e;lia
theorem eV.list_inj(I:eV X pins σ H s)(h:eG X.K H a xs)(h':eG X.K H a ys):xs=ys:=by
 obtain⟨its,r,⟨o,n,e,_,_,d⟩,_⟩:=I.list h;obtain⟨its',r',⟨o',n',e',_,_,d'⟩,_⟩:=I.list h';rw[e]at e';cases e';rw[d]at d';injection d' with d1 _;have:its=its':=by simpa using congrArg Array.toList d1
 subst this;exact r.inj r'
theorem eV.tuple_inj(I:eV X pins σ H s)(h:eA X.K H a xs)(h':eA X.K H a ys):xs=ys:=by
 obtain⟨its,r,⟨o,e,_,n,d⟩,_⟩:=I.tuple h;obtain⟨its',r',⟨o',e',_,n',d'⟩,_⟩:=I.tuple h';rw[e]at e';cases e';rw[d]at d';injection d' with d1 _;have:its=its':=by simpa using congrArg Array.toList d1
 subst this;exact r.inj r'
end
abbrev Cx.wish(X:Cx)(E:Value→Shared→Prop):Cx:={X with xe:=E}
abbrev Cx.nox(X:Cx):Cx:=X.wish λ_ _=>False
theorem Cx.Ok.wish{X:Cx}(ok:X.Ok)(E:Value→Shared→Prop):(X.wish E).Ok:=
 ⟨ok.mod,ok.kind,ok.glob,ok.blt,ok.above,ok.inj,ok.has,ok.cab,ok.hd,ok.frames,ok.stk,ok.exf,ok.bs,ok.bsz,ok.noex,ok.exfs,ok.funs,ok.frf⟩
theorem Cx.Ok.unwish{X:Cx}{E:Value→Shared→Prop}(ok:(X.wish E).Ok):X.Ok:=
 ⟨ok.mod,ok.kind,ok.glob,ok.blt,ok.above,ok.inj,ok.has,ok.cab,ok.hd,ok.frames,ok.stk,ok.exf,ok.bs,ok.bsz,ok.noex,ok.exfs,ok.funs,ok.frf⟩
section
variable {X:Cx}{pins:List (Addr×Obj)}{σ:St}{H:Hp}{s:Shared}{E:Value→Shared→Prop}
theorem eV.wish(I:eV X pins σ H s)(E:Value→Shared→Prop):eV (X.wish E) pins σ H s:=⟨I.ok.wish E,I.os,I.bare,I.base,I.loc,I.cell,I.free,I.freeC,I.pin,I.hok,I.len⟩
theorem eV.unwish(I:eV (X.wish E) pins σ H s):eV X pins σ H s:=⟨I.ok.unwish,I.os,I.bare,I.base,I.loc,I.cell,I.free,I.freeC,I.pin,I.hok,I.len⟩
theorem SP.unwish(h:SP (X.wish E) pins D f s'):SP X pins D f s':=by
 cases f with
 | next=>obtain⟨σ',H',I,q⟩:=h;exact⟨σ',H',I.unwish,q⟩
 | brk=>obtain⟨σ',H',I,q⟩:=h;exact⟨σ',H',I.unwish,q⟩
 | cont=>obtain⟨σ',H',I,q⟩:=h;exact⟨σ',H',I.unwish,q⟩
 | ret u=>obtain⟨v,σ',H',I,r,q⟩:=h;exact⟨v,σ',H',I.unwish,r,q⟩
theorem tS.nox{st:List Stmt}{t:TS}(h:tS X.nox st t):tS X st t:=λpins s σ H D I hw=>
 wpAny_mono (h pins s σ H D (I.wish _) hw) (λ_ _ q=>q.unwish) λ_ _ z=>False.elim z
end
section
variable {X:Cx}{st:Stmt}{rest:List Stmt}{t u:TS}{e:Expr}{te:TE}{pos:Pos}
def fQ:TS:=λD σ H=>D.nx σ H
def de(t u:TS):TS:=λD σ H=>t (D.thn u) σ H
theorem eU:tS X [] fQ:=λ_ _ σ H _ I h=>wpAny_execs_nil ⟨σ,H,I,h⟩
theorem dP(h1:PS X st t)(h2:tS X rest u):tS X (st::rest) (de t u):=by
 intro pins s σ H D I h;refine wpAny_execs_cons (thn (h1 pins s σ H (D.thn u) I h) λf s1 q=>?_);cases f with
 | next=>obtain⟨σ',H',I',q⟩:=q;exact h2 pins s1 σ' H' D I' q
 | ret v=>exact q
 | brk=>exact q
 | cont=>exact q
theorem dU(h1:PS X st t):tS X [st] t:=by
 intro pins s σ H D I h;refine wpAny_execs_cons (thn (h1 pins s σ H D I h) λf s1 q=>?_);cases f with
 | next=>exact wpAny_execs_nil q
 | ret v=>exact q
 | brk=>exact q
 | cont=>exact q
theorem eV.quiet(I:eV X pins σ H s):interactive X.env=false:=by simp[interactive,I.ok.kind]
def fD(te:TE):TS:=λD σ H=>te σ H λ_ H1=>D.nx σ H1
theorem eO(he:PE X e te)(hs:swapsWith e none pos.line X.env=pure false:=by rfl):PS X (.Expr e pos) (fD te):=by intro pins s σ H D I h;exact wpAny_Expr_any (thn (he pins s σ H _ I h) λv s1 ⟨x,H1,I1,r1,q1⟩=>⟨σ,H1,I1,q1⟩) I.quiet hs
def fT(te:TE):TS:=λD σ H=>te σ H D.rt
theorem eM(he:PE X e te):PS X (.Return (some e) pos) (fT te):=by intro pins s σ H D I h;exact wpAny_Return_some (thn (he pins s σ H _ I h) λv s1 ⟨x,H1,I1,r1,q1⟩=>⟨x,σ,H1,I1,r1,q1⟩)
def fg(c:TT)(t u:TS):TS:=λD σ H=>c σ H λb H1=>if b=true then t D σ H1 else u D σ H1
theorem et(hc:PT X c tc)(ha:tS X a t)(hb:tS X b u):PS X (.If c a b pos) (fg tc t u):=by
 intro pins s σ H D I h;refine wpAny_If (thn (hc pins s σ H _ I h) λd s1 ⟨H1,I1,q1⟩=>?_);cases d with
 | true=>exact ha pins s1 σ H1 D I1 q1
 | false=>exact hb pins s1 σ H1 D I1 q1
def vQ:TS:=λ_ _ _=>False
theorem uS:PS X st vQ:=λ_ _ _ _ _ _ h=>h.elim
end
abbrev TG:=V→St→Hp→(St→Hp→Prop)→Prop
abbrev Kk:=List V→St→Hp→(St→Hp→Prop)→Prop
def PG(X:Cx)(target:Expr)(t:TG):Prop:=
 ∀(pins:List (Addr×Obj))(s:Shared)(σ:St)(H:Hp)(v:V)(u:Value)(Q:St→Hp→Prop),eV X pins σ H s→fS v u→t v σ H Q→
  wpAny (model X.prog X.w) X.A (assign target X.env u) (λ_ s'=>∃σ' H',eV X pins σ' H' s'∧Q σ' H') X.xe s
def LK(X:Cx)(ts:List Expr)(t:Kk):Prop:=
 ∀(pins:List (Addr×Obj))(s:Shared)(σ:St)(H:Hp)(vs:List V)(us:List Value)(Q:St→Hp→Prop),eV X pins σ H s→fE vs us→t vs σ H Q→
  wpAny (model X.prog X.w) X.A (assignInOrder ((assignEach ts X.env).map (·.2)) us) (λ_ s'=>∃σ' H',eV X pins σ' H' s'∧Q σ' H') X.xe s
abbrev Kj:=V→V→V→Hp→(Hp→Prop)→Prop
def Kr(X:Cx)(t:Kj):Prop:=
 ∀(pins:List (Addr×Obj))(s:Shared)(σ:St)(H:Hp)(o i v:V)(ov iv u:Value)(Q:Hp→Prop),eV X pins σ H s→fS o ov→fS i iv→fS v u→t o i v H Q→
  wpAny (model X.prog X.w) X.A (setItem ov iv u) (λ_ s'=>∃H',eV X pins σ H' s'∧Q H') X.xe s
section
variable {X:Cx}{pos:Pos}
def dX(i:Nat):TG:=λv σ H Q=>Q (σ.set i (some v)) H
theorem mq(hN:X.N.Nodup)(hi:X.N[i]?=some x)(hx:Iv X.env.scope x)(hf:X.fn x=true∨X.env.scope.names.lookup x=some .local:=by first|exact .inl rfl|exact .inr rfl|assumption):PG X (.Name x pos) (dX i):=by intro pins s σ H v u Q I r h;exact wpAny_assign_Name (uI I hN hi hx r (λs' I'=>⟨_,H,I',h⟩) hf)
def mB:Kk:=λvs σ H Q=>vs=[]∧Q σ H
def gH(t:TG)(u:Kk):Kk:=λvs σ H Q=>onC vs λv r=>t v σ H λσ' H'=>u r σ' H' Q
theorem iy:LK X [] mB:=by intro pins s σ H vs us Q I r h;obtain⟨e,h⟩:=h;subst e;cases r;exact assignInOrder_nil ⟨σ,H,I,h⟩
theorem fH(h1:PG X e t)(h2:LK X es u)
  (hs:(assignEach (e::es) X.env).map (·.2)=assign e X.env::(assignEach es X.env).map (·.2):=by rfl):LK X (e::es) (gH t u):=by
 intro pins s σ H vs us Q I r h;obtain⟨v,vr,e1,h⟩:=onC.ex h;subst e1;cases r with
 | cons r rr=>rw[hs];refine assignInOrder_cons (thn (h1 pins s σ H _ _ _ I r h) λ_ s1 ⟨σ1,H1,I1,q1⟩=>?_);exact h2 pins s1 σ1 H1 _ _ Q I1 rr q1
def lz(K:aA)(n:Nat)(t:Kk):TG:=λv σ H Q=>onR v λa=>lZ (eA K H a) λxs=>xs.length=n∧t xs σ H Q
theorem jg(hc:X.calm=true)(h:LK X es t)
  (hn:(assignEach es X.env).length=n:=by rfl) (hst:(assignEach es X.env).findIdx? (·.1)=none:=by rfl):PG X (.Tuple es k pos) (lz X.K n t):=by
 intro pins s σ H v u Q I r hw;obtain⟨a,rfl,hw⟩:=onR.ex hw;obtain @⟨xs,hq,hl,hw⟩:=hw;cases r;obtain⟨its,rv,ht,hz⟩:=I.tuple hq;refine assign_Tuple_tuple (I.ok.hd hc) ht (by simp[hn,←hl,rv.length]) hst λh' hx=>?_;have I1:eV X pins σ H {s with heap:=h'}:=I.kept (t':=s.toks) λb o e=>hx b o (aM (Heap.lt_size e)) e;exact h pins _ σ H xs _ Q I1 (by simpa using rv) hw
def IU(to ti:TE)(t:Kj):TG:=λv σ H Q=>to σ H λo H1=>ti σ H1 λi H2=>t o i v H2 λH3=>Q σ H3
theorem BW(ho:PE X o to)(hi:PE X i ti)(hs:Kr X t)
  (ha:∀v,assign (.Subscript o i pos) X.env v=(do
   let ov ← holding [v] (eval o X.env)
   let iv ← holding [v,ov] (eval i X.env)
   standAt pos
   holding [v,ov,iv] (setItem ov iv v)
   release [v,ov,iv] []):=by intro _;rfl):PG X (.Subscript o i pos) (IU to ti t):=by
 intro pins s σ H v u Q I r h;rw[ha];refine wpAny_bind (wpAny_holding (thn (ho pins s σ H _ I h) λov s1 ⟨x,H1,I1,r1,q1⟩=>?_));refine wpAny_bind (wpAny_holding (thn (hi pins s1 σ H1 _ I1 q1) λiv s2 ⟨y,H2,I2,r2,q2⟩=>?_));refine wpAny_bind (wpAny_standAt (wpAny_bind (wpAny_holding (thn (hs pins s2 σ H2 x y v ov iv u _ I2 r1 r2 r q2) λ_ s3 ⟨H3,I3,q3⟩=>?_))));exact wpAny_release ⟨σ,H3,I3,q3⟩
def eD(te:TE)(g:TG):TS:=λD σ H=>te σ H λx H1=>g x σ H1 D.nx
theorem kB(he:PE X e te)(hg:PG X tg g)(hs:swapsWithSole [tg] e pos.line X.env=pure false:=by rfl)(hw:swappedStores [tg] e X.env=pure none:=by rfl)
  (h1:(assignEach [tg] X.env).map (·.2)=[assign tg X.env]:=by rfl):PS X (.Assign [tg] e pos) (eD te g):=by
 intro pins s σ H D I h;refine wpAny_Assign_stores (thn (he pins s σ H _ I h) λv s1 ⟨x,H1,I1,r1,q1⟩=>?_) hs hw;rw[h1];exact thn (hg pins s1 σ H1 x v _ I1 r1 q1) λ_ s2 q=>q
theorem Hl(hN:X.N.Nodup)(hi:X.N[i]?=some x)(hx:Iv X.env.scope x)(he:PE X e te)(hs:swapsWith e (some (.Name x pos')) pos.line X.env=pure false:=by rfl)(hf:X.fn x=true∨X.env.scope.names.lookup x=some .local:=by first|exact .inl rfl|exact .inr rfl|assumption):
  PS X (.Assign [.Name x pos'] e pos) (eD te (dX i)):=by
 intro pins s σ H D I h;refine wpAny_Assign_Name (thn (he pins s σ H _ I h) λv s1 ⟨y,H1,I1,r1,q1⟩=>?_) hs;exact uI I1 hN hi hx r1 (λs2 I2=>⟨_,H1,I2,q1⟩) hf
end
section
variable {X:Cx}{pos:Pos}
def iE(c:TT)(tb:TS):TS:=λD σ H=>∃W:Nat→St→Hp→Prop,(∃m,W m σ H)∧∀m σ H,W m σ H→
 c σ H λb H1=>if b=true then ∃N:St→Hp→Prop,(∀σ' H',N σ' H'→∃m',m'<m∧W m' σ' H')∧tb (D.lp (N)) σ H1 else D.nx σ H1
theorem gS(hp:PassesOwn (model X.prog X.w) X.A X.env X.xe)(hc:PT X c tc)(hb:tS X body tb):PS X (.While c body [] pos) (iE tc tb):=by
 intro pins s σ H D I h;obtain⟨W,⟨m0,w0⟩,turn⟩:=h;refine wpAny_While (codeAny_whileLoop (λn s'=>∃σ' H',eV X pins σ' H' s'∧W n σ' H') ?_ m0 ⟨σ,H,I,w0⟩);rintro n s1 ⟨σ1,H1,I1,w1⟩;refine wpAny_passesOwn hp (thn (hc pins s1 σ1 H1 _ I1 (turn n σ1 H1 w1)) λb s2 ⟨H2,I2,q2⟩=>?_);cases b with
 | true=>
  obtain⟨N,hN,q2⟩:=q2;rw[if_pos rfl];refine wpAny_passesOwn hp (thn (hb pins s2 σ1 H2 _ I2 q2) λf s3 q3=>?_);cases f with
  | next=>obtain⟨σ3,H3,I3,n3⟩:=q3;obtain⟨m',hm,w3⟩:=hN σ3 H3 n3;exact⟨m',hm,σ3,H3,I3,w3⟩
  | cont=>obtain⟨σ3,H3,I3,n3⟩:=q3;obtain⟨m',hm,w3⟩:=hN σ3 H3 n3;exact⟨m',hm,σ3,H3,I3,w3⟩
  | brk=>exact q3
  | ret v=>exact q3
 | false=>rw[if_neg aN];exact wpAny_execs_nil ⟨σ1,H2,I2,q2⟩
end
structure It where
 go:Nat→Hp→Prop
 yld:Nat→Hp→V→Hp→Prop
 stop:Nat→Hp→Prop
def oy(X:Cx)(pins:List (Addr×Obj))(H:Hp)(b:Addr):Prop:=
 H b=none∧b≠X.env.locals∧b∉X.fs∧(b∈X.ex∨X.s₀.heap.objs.size≤b)∧(∀x c,X.env.cells.lookup x=some c→c≠b)∧∀p∈X.pn++pins,p.1≠b
theorem eV.fpOk(I:eV X pins σ H s)(hb:s.heap.objs.size≤b)(hn:H' b=none):oy X pins H' b:=by
 refine⟨hn,bC (ae I.lt hb),I.nofs hb,.inr (aY I.sz hb),λx c e z=>?_,λp hp z=>?_⟩
 ·obtain⟨v,q⟩:=I.cell x c e;exact absurd (ae q.lt (by rw[z];exact hb)) (bT _)
 ·exact absurd (ae (Heap.lt_size (I.pin p hp).1) (by rw[z];exact hb)) (bT _)
structure u6(P:Program)(w:World)(K:aA)(tg:Expr)(J:It)(fp:List Addr)(it:Addr)(tn:Nat→Heap→Prop):Prop where
 mem:it∈fp
 obj:∀i h,tn i h→∀b∈fp,∃o,h.get? b=some o∧∀v,o.data≠.cell v
 keep:∀i h h',tn i h→(∀b∈fp,∀o,h.get? b=some o→h'.get? b=some o)→tn i h'
 item:∀(X:Cx),X.prog=P→X.w=w→X.K=K→X.calm=true→∀(i:Nat)(pins:List (Addr×Obj))(s:Shared)(σ:St)(H:Hp)(E:Value→Shared→Prop),eV X pins σ H s→(∀b∈fp,oy X pins H b)→tn i s.heap→J.go i H→
  wpAny (model P w) X.A (pyNext (.ref it)) (λr s1=>∃u,r=some u∧
   wpAny (model P w) X.A (letOwnedTupleGo tg (.ref it) u) (λ_ s2=>∃x H',eV X pins σ H' s2∧fS x u∧J.yld i H x H'∧tn (i+1) s2.heap∧∀b∈fp,H' b=none) E s1) E s
 done:∀(X:Cx),X.prog=P→X.w=w→X.K=K→X.calm=true→∀(i:Nat)(pins:List (Addr×Obj))(s:Shared)(σ:St)(H:Hp)(E:Value→Shared→Prop),eV X pins σ H s→(∀b∈fp,oy X pins H b)→tn i s.heap→J.stop i H→
  wpAny (model P w) X.A (pyNext (.ref it)) (λr s1=>r=none∧eV X pins σ H s1) E s
 self:∀(A:Around)(i:Nat)(s:Shared)(Q:Value→Shared→Prop)(E:Value→Shared→Prop),tn i s.heap→Q (.ref it) s→wpAny (model P w) A (pyIter (.ref it)) Q E s
abbrev TI:=St→Hp→(It→Hp→Prop)→Prop
def Mw(X:Cx)(pins:List (Addr×Obj))(σ:St)(tg:Expr)(R:It→Hp→Prop)(itv:Value)(s2:Shared):Prop:=
 ∃(it:Addr)(fp:List Addr)(tn:Nat→Heap→Prop)(J:It)(H':Hp),itv=.ref it∧eV X pins σ H' s2∧u6 X.prog X.w X.K tg J fp it tn∧tn 0 s2.heap∧(∀b∈fp,oy X pins H' b)∧R J H'
def PI(X:Cx)(tg iter:Expr)(wi:TI):Prop:=
 ∀(pins:List (Addr×Obj))(s:Shared)(σ:St)(H:Hp)(R:It→Hp→Prop),eV X pins σ H s→wi σ H R→
  wpAny (model X.prog X.w) X.A (eval iter X.env) (λv s1=>wpAny (model X.prog X.w) X.A (pyIter v) (Mw X pins σ tg R) X.xe s1) X.xe s
theorem ui(ho:s.heap.get? it=some o)(hc:o.cls=.type n)(hd:o.data=.fields vs)
    (hn:["enumerate","zip","dict_itemiterator","dict_reverseitemiterator","odict_iterator","itertools.zip_longest","itertools.pairwise"].contains n=false) (hQ:Q () s):wpAny M A (letOwnedTupleGo tg (.ref it) u) Q E s:=by
  unfold letOwnedTupleGo;cases tg<;>first
    | exact wpAny_pure hQ
    | (cases u<;>first
        | exact wpAny_pure hQ
        | (refine wpAny_bind (wpAny_load ho ?_)
           rw[hc,hd];show wpAny M A (if(["enumerate","zip","dict_itemiterator","dict_reverseitemiterator","odict_iterator","itertools.zip_longest","itertools.pairwise"].contains n&&vs[0]? == some (rawInt _))=true then _ else _) Q E s;rw[if_neg (by intro h;rw[hn,Bool.false_and]at h;cases h)];exact wpAny_pure hQ))
def Kw(K:aA)(a:Addr):It:=
 ⟨λi H=>∃xs x,eG K H a xs∧xs[i]?=some x,λi H x H'=>H'=H∧∀xs,eG K H a xs→xs[i]?=some x,λi H=>∃xs,eG K H a xs∧xs.length≤i⟩
def N0(K:aA)(a:Addr):It:=
 ⟨λi H=>∃xs x,eA K H a xs∧xs[i]?=some x,λi H x H'=>H'=H∧∀xs,eA K H a xs→xs[i]?=some x,λi H=>∃xs,eA K H a xs∧xs.length≤i⟩
def JF(lo:Int)(n:Nat):It:=⟨λi _=>i<n,λi H x H'=>H'=H∧x=.int (lo+i),λi _=>n≤i⟩
theorem yP{P:Program}{w:World}{K:aA}{tg:Expr}(a it:Addr):u6 P w K tg (Kw K a) [it] it (λi h=>h.IsListIter it a i) where
 mem:=by simp
 obj:=λi h st b hb=>by
  have e:b=it:=by simpa using hb
  subst e;obtain⟨o,e,c,d⟩:=st;exact⟨o,e,λv z=>by rw[d]at z;cases z⟩
 keep:=λi h h' st k=>st.at λo e=>k it (by simp) o e
 item:=by intro X hP hw hK hc i pins s σ H E I hf st hg;subst hP hw hK;obtain⟨xs,x,hq,hx⟩:=hg;obtain⟨its,rv,p,hz⟩:=I.list hq;obtain⟨u,hu,ru⟩:=rv.get hx;obtain⟨f0,f1,f2,f3,f4,f5⟩:=hf it (by simp);refine wpAny_pyNext_list_item st p.isList (x:=u) (by simpa using hu) λh' st' sb=>?_;have I1:eV X pins σ H {s with heap:=h'}:=I.turned (t':=s.toks) (λb o hb e=>(sb.2 b hb).trans e) f0 f1 f3 f4 f5;obtain⟨o,e,c,d⟩:=id st';exact⟨u,rfl,ui (s:={s with heap:=h'}) e c d (by decide) ⟨x,H,I1,ru,⟨rfl,λys hy=>by rw[I.list_inj hy hq];exact hx⟩,st',λb hb=>(hf b hb).1⟩⟩
 done:=by intro X hP hw hK hc i pins s σ H E I hf st hg;subst hP hw hK;obtain⟨xs,hq,hx⟩:=hg;obtain⟨its,rv,p,hz⟩:=I.list hq;obtain⟨f0,f1,f2,f3,f4,f5⟩:=hf it (by simp);have hl:=rv.length;exact wpAny_pyNext_list_end (I.ok.hd hc) st p.isList (by simp;lia) λh' eb=>⟨rfl,I.turned (t':=s.toks) (λb o hb e=>eb b o hb e) f0 f1 f3 f4 f5⟩
 self:=λ_ _ _ _ _ st h=>wpAny_pyIter_listiter st h
theorem vJ{P:Program}{w:World}{K:aA}{tg:Expr}(a it:Addr):u6 P w K tg (N0 K a) [it] it (λi h=>h.IsTupleIter it a i) where
 mem:=by simp
 obj:=λi h st b hb=>by
  have e:b=it:=by simpa using hb
  subst e;obtain⟨o,e,c,d⟩:=st;exact⟨o,e,λv z=>by rw[d]at z;cases z⟩
 keep:=λi h h' st k=>st.at λo e=>k it (by simp) o e
 item:=by intro X hP hw hK hc i pins s σ H E I hf st hg;subst hP hw hK;obtain⟨xs,x,hq,hx⟩:=hg;obtain⟨its,rv,p,hz⟩:=I.tuple hq;obtain⟨u,hu,ru⟩:=rv.get hx;obtain⟨f0,f1,f2,f3,f4,f5⟩:=hf it (by simp);refine wpAny_pyNext_tuple_item st (show s.heap.IsTuple a its.toArray from p) (x:=u) (by simpa using hu) λh' st' sb=>?_;have I1:eV X pins σ H {s with heap:=h'}:=I.turned (t':=s.toks) (λb o hb e=>(sb.2 b hb).trans e) f0 f1 f3 f4 f5;obtain⟨o,e,c,d⟩:=id st';exact⟨u,rfl,ui (s:={s with heap:=h'}) e c d (by decide) ⟨x,H,I1,ru,⟨rfl,λys hy=>by rw[I.tuple_inj hy hq];exact hx⟩,st',λb hb=>(hf b hb).1⟩⟩
 done:=by intro X hP hw hK hc i pins s σ H E I hf st hg;subst hP hw hK;obtain⟨xs,hq,hx⟩:=hg;obtain⟨its,rv,p,hz⟩:=I.tuple hq;obtain⟨f0,f1,f2,f3,f4,f5⟩:=hf it (by simp);have hl:=rv.length;exact wpAny_pyNext_tuple_end (I.ok.hd hc) st (show s.heap.IsTuple a its.toArray from p) (by simp;lia) λh' eb=>⟨rfl,I.turned (t':=s.toks) (λb o hb e=>eb b o hb e) f0 f1 f3 f4 f5⟩
 self:=λ_ _ _ _ _ st h=>wpAny_pyIter_tupleiter st h
theorem vK{P:Program}{w:World}{K:aA}{tg:Expr}(it:Addr)(lo:Int)(n:Nat):u6 P w K tg (JF lo n) [it] it (λi h=>IsRangeIter h it (lo+(i:Nat)*1) ((n:Int)-(i:Nat)) 1) where
 mem:=by simp
 obj:=λi h st b hb=>by
  have e:b=it:=by simpa using hb
  subst e;exact⟨_,st,λv z=>by
   have z':Data.fields _=Data.cell v:=z;cases z'⟩
 keep:=λi h h' st k=>k it (by simp) _ st
 item:=by intro X hP hw hK hc i pins s σ H E I hf st hg;subst hP hw hK;obtain⟨f0,f1,f2,f3,f4,f5⟩:=hf it (by simp);have W:=Walks.range (prog:=X.prog) (w:=X.w) (I.ok.hd hc) it lo 1 n;refine W.item i s _ _ hg st λv h' tk hv st' kk=>?_;obtain⟨t,rfl⟩:=hv;have I1:eV X pins σ H {s with heap:=h',toks:=tk}:=I.turned (λb o hb e=>kk b o (by simpa using hb) e) f0 f1 f3 f4 f5;refine⟨_,rfl,ui (s:={s with heap:=h',toks:=tk}) (n:="range_iterator") st' rfl rfl (by decide) ⟨.int (lo+i),H,I1,⟨t,?_⟩,⟨rfl,rfl⟩,st',λb hb=>(hf b hb).1⟩⟩;rw[Int.mul_one]
 done:=by intro X hP hw hK hc i pins s σ H E I hf st hg;subst hP hw hK;obtain⟨f0,f1,f2,f3,f4,f5⟩:=hf it (by simp);exact wpAny_pyNext_range_end (I.ok.hd hc) st (by have:n≤i:=hg;lia) λh' eb=>⟨rfl,I.turned (t':=s.toks) (λb o hb e=>eb b o hb e) f0 f1 f3 f4 f5⟩
 self:=λ_ _ _ _ _ st h=>wpAny_pyIter_rangeiter st h
section
variable {X:Cx}{tg:Expr}
def i0(K:aA)(tl:TE):TI:=λσ H R=>tl σ H λx H1=>onR x λa=>lZ (eG K H1 a) λ_=>R (Kw K a) H1
def IS(K:aA)(tl:TE):TI:=λσ H R=>tl σ H λx H1=>onR x λa=>lZ (eA K H1 a) λ_=>R (N0 K a) H1
theorem gm{l:Expr}{tl:TE}(hl:PE X l tl):PI X tg l (i0 X.K tl):=by
 intro pins s σ H R I h;refine thn (hl pins s σ H _ I h) λv s1 ⟨x,H1,I1,r1,q1⟩=>?_;obtain⟨a,rfl,q1⟩:=onR.ex q1;obtain @⟨xs,hq,q⟩:=q1;cases r1;obtain⟨its,rv,p,hz⟩:=I1.list hq;refine wpAny_pyIter_list p.isList ?_;refine⟨s1.heap.objs.size,[s1.heap.objs.size],_,_,H1,rfl,I1.kept (t':=s1.toks) λb o e=>Heap.get?_push_of_some _ e,yP a _,⟨_,Heap.get?_push_size _ rfl,rfl,rfl⟩,λb hb=>?_,q⟩;have e:b=s1.heap.objs.size:=by simpa using hb
 subst e;exact I1.fpOk (aC _) (I1.hok.fresh (aC _))
theorem BV{l:Expr}{tl:TE}(hl:PE X l tl):PI X tg l (IS X.K tl):=by
 intro pins s σ H R I h;refine thn (hl pins s σ H _ I h) λv s1 ⟨x,H1,I1,r1,q1⟩=>?_;obtain⟨a,rfl,q1⟩:=onR.ex q1;obtain @⟨xs,hq,q⟩:=q1;cases r1;obtain⟨its,rv,p,hz⟩:=I1.tuple hq;refine wpAny_pyIter_tuple (show s1.heap.IsTuple a its.toArray from p) ?_;refine⟨s1.heap.objs.size,[s1.heap.objs.size],_,_,H1,rfl,I1.kept (t':=s1.toks) λb o e=>Heap.get?_push_of_some _ e,vJ a _,⟨_,Heap.get?_push_size _ rfl,rfl,rfl⟩,λb hb=>?_,q⟩;have e:b=s1.heap.objs.size:=by simpa using hb
 subst e;exact I1.fpOk (aC _) (I1.hok.fresh (aC _))
theorem BJ{pins:List (Addr×Obj)}{σ:St}{H:Hp}{s:Shared}{R:It→Hp→Prop}{E:Value→Shared→Prop}{lo hi:Int}{t u v:Tok}{tk:Nat}(I:eV X pins σ H s)(h1 : -(2^62)≤lo)(h2:lo<2^62)(h3 : -(2^62)≤hi)(h4:hi<2^62)
  (q:R (JF lo (hi-lo).toNat) H):wpAny (model X.prog X.w) X.A (pyIter (.ref s.heap.objs.size)) (Mw X pins σ tg R) E {s with heap:=s.heap.push {cls:=.type "range",data:=.fields #[.int lo t,.int hi u,.int 1 v]},toks:=tk}:=by
 refine wpAny_pyIter_range (IsRange.new ..) (small_one h1 h2 h3 h4) ?_;have I1:eV X pins σ H {s with heap:=s.heap.push {cls:=.type "range",data:=.fields #[.int lo t,.int hi u,.int 1 v]},toks:=tk}:=I.kept λb o e=>Heap.get?_push_of_some _ e;refine⟨(s.heap.push {cls:=.type "range",data:=.fields #[.int lo t,.int hi u,.int 1 v]}).objs.size,[(s.heap.push {cls:=.type "range",data:=.fields #[.int lo t,.int hi u,.int 1 v]}).objs.size],_,_,H,rfl,
  I1.kept (t':=tk) λb o e=>Heap.get?_push_of_some _ e,vK _ lo (hi-lo).toNat,?_,λb hb=>?_,q⟩
 ·have e1:lo+((0:Nat):Int)*1=lo:=by simp
  have e2:(((hi-lo).toNat:Nat):Int)-((0:Nat):Int)=Builtin.Range.rangeSize lo hi 1:=by rw[rangeSize_one];split<;>lia
  show IsRangeIter _ _ (lo+((0:Nat):Int)*1) ((((hi-lo).toNat:Nat):Int)-((0:Nat):Int)) 1;rw[e1,e2];exact Heap.get?_push_size _ rfl
 ·have e:b=(s.heap.push {cls:=.type "range",data:=.fields #[.int lo t,.int hi u,.int 1 v]}).objs.size:=by simpa using hb
  subst e;exact I1.fpOk (aC _) (I1.hok.fresh (aC _))
def uh(ta:TA):TI:=λσ H R=>ta σ H λvs H1=>on1 vs λx=>onI x λj=>-(2^62)≤j∧j<2^62∧R (JF 0 j.toNat) H1
theorem qx{a:Expr}{ta:TA}{p pos:Pos}(hg:Gl X "range")(hm:X.mg "range"=none)(ha:PA X [a] ta)(hs:starEach [a] X.env=[(false,eval a X.env)]:=by rfl):PI X tg (.Call (.Name "range" p) [a] [] pos) (uh ta):=by
 intro pins s σ H R I h;refine Call_ (kC I hg hm boot_range (bO (thn (ha pos pins s σ H _ I h) λus s1 ⟨vs,H1,I1,r1,q1⟩=>?_) hs rfl));obtain⟨x,rfl,q1⟩:=on1.ex q1;obtain⟨j,rfl,q1,q2,q⟩:=onI.ex q1;cases r1 with
 | cons r rr=>cases rr;obtain⟨t,rfl⟩:=r;exact call_range_1 (BJ I1 (by lia) (by lia) q1 q2 (by simpa using q))
def iK(wi:TI)(g:TG)(tb:TS):TS:=λD σ H=>wi σ H λJ H1=>∃W:Nat→Nat→St→Hp→Prop,(∃m,W 0 m σ H1)∧∀i m σ H,W i m σ H→
 (J.stop i H∧D.nx σ H)∨(J.go i H∧∃N:St→Hp→Prop,(∀σ' H',N σ' H'→∃m',m'<m∧W (i+1) m' σ' H')∧∀x H',J.yld i H x H'→g x σ H' λσ2 H2=>tb (D.lp (N)) σ2 H2)
def sM(fp:List Addr)(h:Heap):List (Addr×Obj):=fp.filterMap λb=>(h.get? b).map λo=>(b,o)
theorem kj(hb:b∈fp)(e:h.get? b=some o):(b,o)∈sM fp h:=List.mem_filterMap.mpr ⟨b,hb,by rw[e];rfl⟩
theorem zD(hp:p∈sM fp h):p.1∈fp∧h.get? p.1=some p.2:=by
 obtain⟨b,hb,e⟩:=List.mem_filterMap.mp hp;cases q:h.get? b with
 | none=>rw[q]at e;cases e
 | some o=>rw[q]at e;have e':(b,o)=p:=Option.some.inj e;subst e';exact⟨hb,q⟩
theorem eV.pinned(I:eV X pins σ H s)(hf:∀b∈fp,oy X pins H b)(ho:∀b∈fp,∃o,s.heap.get? b=some o∧∀v,o.data≠.cell v):eV X (pins++sM fp s.heap) σ H s:=
 I.pins_of λp hp=>(aU.mp hp).elim (λz=>I.pin p (aO _ z)) λz=>by obtain⟨hb,e⟩:=zD z;obtain⟨f0,f1,f2,_⟩:=hf p.1 hb;obtain⟨o,e',d⟩:=ho p.1 hb;rw[e]at e';cases e';exact⟨e,f0,f1,f2,d⟩
theorem eV.unpinned(I:eV X (pins++pl) σ H s):eV X pins σ H s:=I.pins_of λp hp=>I.pin p (aO _ (af _ hp))
theorem gE(hp:PassesOwn (model X.prog X.w) X.A X.env X.xe)(hc:X.calm=true)(hi:PI X tg iter wi)(hg:PG X tg g)(hb:tS X body tb)
  (hs:∀x,foldedSetIterable iter X.env x=pure x:=by intro _;rfl):PS X (.For tg iter body [] pos) (iK wi g tb):=by
 intro pins s σ H D I h;refine wpAny_For (thn (hi pins s σ H _ I h) λv s1 h1=>thn h1 λitv s2 h2=>?_) hs;obtain⟨it,fp,tn,J,H2,e,I2,T,st2,f2,W,⟨m0,w0⟩,turn⟩:=h2;subst e;have stat:∀{H':Hp},(∀b∈fp,H' b=none)→∀b∈fp,oy X pins H' b:=λhn b hb=>⟨hn b hb,(f2 b hb).2⟩;refine codeAny_forLoop_any (λn s'=>∃i σ' H',eV X pins σ' H' s'∧tn i s'.heap∧(∀b∈fp,H' b=none)∧W i n σ' H') ?_ m0 ⟨0,σ,H2,I2,st2,λb hb=>(f2 b hb).1,w0⟩;rintro n s3 ⟨i,σ3,H3,I3,st3,fr3,w3⟩;rcases turn i n σ3 H3 w3 with⟨stop,qn⟩|⟨go,N,hN,step⟩
 ·refine wpAny_passesOwn hp (thn (T.done X rfl rfl rfl hc i pins s3 σ3 H3 X.xe I3 (stat fr3) st3 stop) λr s4 ⟨hr,I4⟩=>?_);subst hr;exact wpAny_execs_nil ⟨σ3,H3,I4,qn⟩
 ·refine wpAny_passesOwn hp (thn (T.item X rfl rfl rfl hc i pins s3 σ3 H3 X.xe I3 (stat fr3) st3 go) λr s4 ⟨u,hr,h4⟩=>?_);subst hr;refine wpAny_passesOwn hp (thn h4 λ_ s5 ⟨x,H5,I5,r5,y5,st5,fr5⟩=>?_);have I5':=I5.pinned (stat fr5) (T.obj _ _ st5);refine wpAny_passesOwn hp (thn (hg _ s5 σ3 H5 x u _ I5' r5 (step x H5 y5)) λ_ s6 ⟨σ6,H6,I6,q6⟩=>?_);refine wpAny_passesOwn hp (thn (hb _ s6 σ6 H6 _ I6 q6) λf s7 q7=>?_);have again:∀{σ7:St}{H7:Hp},eV X (pins++sM fp s5.heap) σ7 H7 s7→N σ7 H7→∃m,m<n∧∃i σ' H',eV X pins σ' H' s7∧tn i s7.heap∧(∀b∈fp,H' b=none)∧W i m σ' H':=λ{σ7 H7} I7 n7=>by obtain⟨m',hm,w7⟩:=hN σ7 H7 n7;refine⟨m',hm,i+1,σ7,H7,I7.unpinned,T.keep _ _ _ st5 λb hb o e=>(I7.pin (b,o) (aO _ (aO _ (kj hb e)))).1,λb hb=>?_,w7⟩;obtain⟨o,e,d⟩:=T.obj _ _ st5 b hb;exact(I7.pin (b,o) (aO _ (aO _ (kj hb e)))).2.1
  cases f with
  | next=>obtain⟨σ7,H7,I7,n7⟩:=q7;exact again I7 n7
  | cont=>obtain⟨σ7,H7,I7,n7⟩:=q7;exact again I7 n7
  | brk=>obtain⟨σ7,H7,I7,q7⟩:=q7;exact⟨σ7,H7,I7.unpinned,q7⟩
  | ret v=>obtain⟨x7,σ7,H7,I7,r7,q7⟩:=q7;exact⟨x7,σ7,H7,I7.unpinned,r7,q7⟩
end
theorem gT{K:aA}{a:Addr}{xs:List V}{g:TG}{tb:TS}{D:iT}{σ:St}{H:Hp}(Pv:Nat→St→Hp→Prop)(h0:Pv 0 σ H)(hl:∀i σ H,i≤xs.length→Pv i σ H→eG K H a xs)
  (hs:∀i x σ H,xs[i]?=some x→Pv i σ H→g x σ H λσ2 H2=>tb (D.lp (Pv (i+1))) σ2 H2) (hd:∀σ H,Pv xs.length σ H→D.nx σ H):
  ∃W:Nat→Nat→St→Hp→Prop,(∃m,W 0 m σ H)∧∀i m σ H,W i m σ H→
   ((Kw K a).stop i H∧D.nx σ H)∨((Kw K a).go i H∧∃N:St→Hp→Prop,(∀σ' H',N σ' H'→∃m',m'<m∧W (i+1) m' σ' H')∧∀x H',(Kw K a).yld i H x H'→g x σ H' λσ2 H2=>tb (D.lp (N)) σ2 H2):=by
 refine⟨λi m σ H=>m=xs.length-i∧i≤xs.length∧Pv i σ H,⟨xs.length,by simp,aS _,h0⟩,?_⟩;rintro i m σ H ⟨rfl,hi,p⟩;have q:=hl i σ H hi p;by_cases hlt:i<xs.length
 ·refine .inr ⟨⟨xs,xs[i],q,by simp[hlt]⟩,Pv (i+1),λσ' H' p'=>⟨xs.length-(i+1),by lia,rfl,hlt,p'⟩,λx H' y=>?_⟩;obtain⟨e,y⟩:=y;subst e;exact hs i x σ _ (y xs q) p
 ·have e:i=xs.length:=by lia
  subst e;exact .inl ⟨⟨xs,q,aC _⟩,hd σ H p⟩
theorem rH{lo:Int}{n:Nat}{g:TG}{tb:TS}{D:iT}{σ:St}{H:Hp}(Pv:Nat→St→Hp→Prop)(h0:Pv 0 σ H)
  (hs:∀i σ H,i<n→Pv i σ H→g (.int (lo+i)) σ H λσ2 H2=>tb (D.lp (Pv (i+1))) σ2 H2) (hd:∀σ H,Pv n σ H→D.nx σ H):
  ∃W:Nat→Nat→St→Hp→Prop,(∃m,W 0 m σ H)∧∀i m σ H,W i m σ H→
   ((JF lo n).stop i H∧D.nx σ H)∨((JF lo n).go i H∧∃N:St→Hp→Prop,(∀σ' H',N σ' H'→∃m',m'<m∧W (i+1) m' σ' H')∧∀x H',(JF lo n).yld i H x H'→g x σ H' λσ2 H2=>tb (D.lp (N)) σ2 H2):=by
 refine⟨λi m σ H=>m=n-i∧i≤n∧Pv i σ H,⟨n,by simp,aS _,h0⟩,?_⟩;rintro i m σ H ⟨rfl,hi,p⟩;by_cases hlt:i<n
 ·refine .inr ⟨hlt,Pv (i+1),λσ' H' p'=>⟨n-(i+1),by lia,rfl,hlt,p'⟩,λx H' y=>?_⟩;obtain⟨e,y⟩:=y;subst e y;exact hs i σ _ hlt p
 ·have e:i=n:=by lia
  subst e;exact .inl ⟨aC _,hd σ H p⟩
abbrev R2:=V→V→Hp→VK→Prop
def nJ(X:Cx)(f:Value→Value→Sem Value)(r:R2):Prop:=
 ∀(pins:List (Addr×Obj))(s:Shared)(σ:St)(H:Hp)(x y:V)(v u:Value)(Q:VK),eV X pins σ H s→fS x v→fS y u→r x y H Q→
  wpAny (model X.prog X.w) X.A (f v u) (EP X pins σ Q) X.xe s
def Mq(X:Cx)(f:Value→Sem Value)(r:V→Hp→VK→Prop):Prop:=
 ∀(pins:List (Addr×Obj))(s:Shared)(σ:St)(H:Hp)(x:V)(v:Value)(Q:VK),eV X pins σ H s→fS x v→r x H Q→
  wpAny (model X.prog X.w) X.A (f v) (EP X pins σ Q) X.xe s
def ky(X:Cx)(f:Value)(r:List V→Hp→VK→Prop):Prop:=
 ∀(pins:List (Addr×Obj))(s:Shared)(σ:St)(H:Hp)(xs:List V)(us:List Value)(Q:VK),eV X pins σ H s→fE xs us→r xs H Q→
  wpAny (model X.prog X.w) X.A (call f us) (EP X pins σ Q) X.xe s
def dz(r:R2)(ta tb:TE):TE:=λσ H Q=>ta σ H λx H1=>tb σ H1 λy H2=>r x y H2 Q
def mE(r:V→Hp→VK→Prop)(ta:TE):TE:=λσ H Q=>ta σ H λx H1=>r x H1 Q
def rI(C:Int→Int→Prop)(g:Int→Int→V):R2:=λx y H Q=>onI x λi=>onI y λj=>C i j∧Q (g i j) H
def xc(g:Int→Int→V):R2:=λx y H Q=>onI x λi=>onI y λj=>Q (g i j) H
def rU(g:Int→V):V→Hp→VK→Prop:=λx H Q=>onI x λi=>Q (g i) H
section
variable {X:Cx}{a b c:Expr}{ta tb tc:TE}{pos:Pos}
theorem Ik(ha:PE X a ta)(hb:PE X b tb){pins:List (Addr×Obj)}{s:Shared}{σ:St}{H:Hp}{R:V→V→Hp→Prop}(I:eV X pins σ H s)
  (h:ta σ H λx H1=>tb σ H1 λy H2=>R x y H2) {Q:Value→Shared→Prop} {f:Value→Value→Sem Value}
  (hf:∀v u s2 x y H2,eV X pins σ H2 s2→fS x v→fS y u→R x y H2→wpAny (model X.prog X.w) X.A (f v u) Q X.xe s2):
  wpAny (model X.prog X.w) X.A (eval a X.env) (λv s₁=>wpAny (model X.prog X.w) X.A (eval b X.env) (λu s₂=>wpAny (model X.prog X.w) X.A (f v u) Q X.xe s₂) X.xe s₁) X.xe s:=by
 refine thn (ha pins s σ H _ I h) λv s1 ⟨x,H1,I1,r1,q1⟩=>?_;refine thn (hb pins s1 σ H1 _ I1 q1) λu s2 ⟨y,H2,I2,r2,q2⟩=>?_;exact hf v u s2 x y H2 I2 r1 r2 q2
theorem ef{op:Operator}{r:R2}(ho:nJ X (binaryOp op) r)(ha:PE X a ta)(hb:PE X b tb):PE X (.BinOp a op b pos) (dz r ta tb):=by intro pins s σ H Q I h;exact wpAny_BinOp (Ik ha hb I h λv u s2 x y H2 I2 rx ry q=>ho pins s2 σ H2 x y v u Q I2 rx ry q)
theorem ii(ho:Mq X (unaryOp op) r)(ha:PE X a ta):PE X (.UnaryOp op a pos) (mE r ta):=by intro pins s σ H Q I h;exact UnaryOp_ (thn (ha pins s σ H _ I h) λv s1 ⟨x,H1,I1,r1,q1⟩=>ho pins s1 σ H1 x v Q I1 r1 q1)
theorem LA{f:Value→Value→Sem Value}{C:Int→Int→Prop}{g:Int→Int→Int}
  (rule:∀(i j:Int)(t u:Tok)(s:Shared)(Q:Value→Shared→Prop)(E:Value→Shared→Prop),C i j→Q (.int (g i j) s.toks) {s with toks:=s.toks+1}→wpAny (model X.prog X.w) X.A (f (.int i t) (.int j u)) Q E s):
  nJ X f (rI C λi j=>.int (g i j)):=by
 intro pins s σ H x y v u Q I rx ry h;obtain⟨i,rfl,h2⟩:=onI.ex h;obtain⟨j,rfl,hc,q⟩:=onI.ex h2;obtain⟨t,rfl⟩:=rx;obtain⟨t',rfl⟩:=ry;exact rule i j t t' s _ _ hc ⟨.int (g i j),H,I.tok _,⟨_,rfl⟩,q⟩
theorem Jm{f:Value→Value→Sem Value}{g:Int→Int→Int}
  (rule:∀(i j:Int)(t u:Tok)(s:Shared)(Q:Value→Shared→Prop)(E:Value→Shared→Prop),Q (.int (g i j) s.toks) {s with toks:=s.toks+1}→wpAny (model X.prog X.w) X.A (f (.int i t) (.int j u)) Q E s):
  nJ X f (xc λi j=>.int (g i j)):=by
 intro pins s σ H x y v u Q I rx ry h;obtain⟨i,rfl,h2⟩:=onI.ex h;obtain⟨j,rfl,q⟩:=onI.ex h2;obtain⟨t,rfl⟩:=rx;obtain⟨t',rfl⟩:=ry;exact rule i j t t' s _ _ ⟨.int (g i j),H,I.tok _,⟨_,rfl⟩,q⟩
theorem EH{f:Value→Value→Sem Value}{g:Int→Int→Bool}
  (rule:∀(i j:Int)(t u:Tok)(s:Shared)(Q:Value→Shared→Prop)(E:Value→Shared→Prop),Q (.bool (g i j)) s→wpAny (model X.prog X.w) X.A (f (.int i t) (.int j u)) Q E s):
  nJ X f (xc λi j=>.bl (g i j)):=by
 intro pins s σ H x y v u Q I rx ry h;obtain⟨i,rfl,h2⟩:=onI.ex h;obtain⟨j,rfl,q⟩:=onI.ex h2;obtain⟨t,rfl⟩:=rx;obtain⟨t',rfl⟩:=ry;exact rule i j t t' s _ _ ⟨.bl (g i j),H,I,rfl,q⟩
def Iy(i j:Int):Prop:=0<j∧j<1073741824
def K1(i j:Int):Prop:=0≤j∧j≤1000000∧i.natAbs<2^64
def Em(i j:Int):Prop:=(-(2^64)<i∧i<2^64)∨(-(2^64)<j∧j<2^64)
theorem Em.ok(h:Em i j):IntMulOk i j:=by
 rcases h with⟨h1,h2⟩|⟨h1,h2⟩
 ·exact .of_left (intBits_le_64 h1 h2)
 ·exact .of_right (intBits_le_64 h1 h2)
theorem lR:nJ X (binaryOp .Add) (xc λi j=>.int (i+j)):=Jm λ_ _ _ _ _ _ _ q=>add_int q
theorem iM:nJ X (binaryOp .Sub) (xc λi j=>.int (i-j)):=Jm λ_ _ _ _ _ _ _ q=>sub_int q
theorem Hq:nJ X (binaryOp .Mult) (rI Em λi j=>.int (i*j)):=LA λ_ _ _ _ _ _ _ hc q=>mul_int q hc.ok
theorem lg:nJ X (binaryOp .FloorDiv) (rI Iy λi j=>.int (i / j)):=LA λi j _ _ _ _ _ hc q=>by have h1:(0:Int)<j:=hc.1;have h2:j<1073741824:=hc.2;exact floordiv_int (by lia) (by rw[Int.fdiv_eq_ediv_of_nonneg i (by lia)];exact q) (.inl (cq (by lia)))
theorem ib:nJ X (binaryOp .Mod) (rI (λ_ j=>0<j) λi j=>.int (i%j)):=LA λi j _ _ _ _ _ hc q=>by have h1:(0:Int)<j:=hc;exact mod_int' (by lia) (by rw[Int.fmod_eq_emod_of_nonneg i (by lia)];exact q)
theorem Bg:nJ X (binaryOp .Pow) (rI K1 λi j=>.int (i^j.toNat)):=LA λ_ _ _ _ _ _ _ hc q=>pow_int_small hc.1 hc.2.1 hc.2.2 q
theorem N7{f:Value→Sem Value}{g:Int→Int}
  (rule:∀(i:Int)(t:Tok)(s:Shared)(Q:Value→Shared→Prop)(E:Value→Shared→Prop),Q (.int (g i) s.toks) {s with toks:=s.toks+1}→wpAny (model X.prog X.w) X.A (f (.int i t)) Q E s):
  Mq X f (rU λi=>.int (g i)):=by
 intro pins s σ H x v Q I rx h;obtain⟨i,rfl,q⟩:=onI.ex h;obtain⟨t,rfl⟩:=rx;exact rule i t s _ _ ⟨.int (g i),H,I.tok _,⟨_,rfl⟩,q⟩
theorem gw:Mq X (unaryOp .USub) (rU λi=>.int (-i)):=N7 λ_ _ _ _ _ q=>neg_int q
end
def yk:V→V→Bool
 | .non,.non=>true|.non,.int _=>true|.int _,.non=>true|.non,.bl _=>true|.bl _,.non=>true|.non,.str _=>true|.str _,.non=>true
 | .int _,.int _=>true|.bl _,.bl _=>true|.str _,.str _=>true|.byt _,.byt _=>true
 | .int _,.str _=>true|.str _,.int _=>true|.bl _,.str _=>true|.str _,.bl _=>true
 | _,_=>false
def kA:R2:=λx y H Q=>yk x y=true∧Q (.bl (decide (x=y))) H
def yx:R2:=λx y H Q=>yk x y=true∧Q (.bl (!decide (x=y))) H
theorem x9:decide (V.int i=V.int j)=(i==j):=by rw[b4];simp
theorem CK:decide (V.bl i=V.bl j)=(i==j):=by rw[b4];simp
theorem x8:decide (V.str i=V.str j)=(i==j):=by rw[b4];simp
theorem yA:decide (V.byt i=V.byt j)=(i.toList==j.toList):=by rw[b4];cases i;cases j;simp
section
variable {X:Cx}{a b c:Expr}{ta tb tc:TE}{pos:Pos}
theorem fh(I:eV X pins σ H s)(q:Q (.bl k) H)(e:k=k'):EP X pins σ Q (.bool k') s:=by subst e;exact⟨.bl k,H,I,rfl,q⟩
theorem fb:nJ X (compareOp .Eq) kA:=by
 intro pins s σ H x y v u Q I rx ry h;obtain⟨hs,q⟩:=h;cases x with
 | non=>
  cases rx;cases y with
  | non=>cases ry;exact PySem.EqNone.eq_none_none (fh I q (by simp))
  | bl j=>cases ry;exact PySem.EqNone.eq_none_bool (fh I q (by simp))
  | int j=>obtain⟨t',rfl⟩:=ry;exact PySem.EqNone.eq_none_int (fh I q (by simp))
  | str j=>obtain⟨t',rfl⟩:=ry;exact PySem.EqNone.eq_none_str (fh I q (by simp))
  | _=>exact absurd (show false=true from hs) aN
 | bl i=>
  cases rx;cases y with
  | non=>cases ry;exact PySem.EqNone.eq_bool_none (fh I q (by simp))
  | bl j=>cases ry;exact eq_bool (fh I q CK)
  | str j=>obtain⟨t',rfl⟩:=ry;exact PySem.EqMixed.eq_bool_str (fh I q (by simp))
  | _=>exact absurd (show false=true from hs) aN
 | int i=>
  obtain⟨t,rfl⟩:=rx;cases y with
  | non=>cases ry;exact PySem.EqNone.eq_int_none (fh I q (by simp))
  | int j=>obtain⟨t',rfl⟩:=ry;exact eq_int (fh I q x9)
  | str j=>obtain⟨t',rfl⟩:=ry;exact PySem.EqMixed.eq_int_str (fh I q (by simp))
  | _=>exact absurd (show false=true from hs) aN
 | str i=>
  obtain⟨t,rfl⟩:=rx;cases y with
  | non=>cases ry;exact PySem.EqNone.eq_str_none (fh I q (by simp))
  | bl j=>cases ry;exact PySem.EqMixed.eq_str_bool (fh I q (by simp))
  | int j=>obtain⟨t',rfl⟩:=ry;exact PySem.EqMixed.eq_str_int (fh I q (by simp))
  | str j=>obtain⟨t',rfl⟩:=ry;exact eq_str (fh I q x8)
  | _=>exact absurd (show false=true from hs) aN
 | byt i=>
  obtain⟨t,rfl⟩:=rx;cases y with
  | byt j=>obtain⟨t',rfl⟩:=ry;exact PySem.W.eq_bytes (fh I q yA)
  | _=>exact absurd (show false=true from hs) aN
 | _=>cases y<;>exact absurd (show false=true from hs) aN
theorem lP:nJ X (compareOp .NotEq) yx:=by
 intro pins s σ H x y v u Q I rx ry h;obtain⟨hs,q⟩:=h;cases x with
 | non=>
  cases rx;cases y with
  | non=>cases ry;exact PySem.EqNone.ne_none_none (fh I q (by simp))
  | bl j=>cases ry;exact PySem.EqNone.ne_none_bool (fh I q (by simp))
  | int j=>obtain⟨t',rfl⟩:=ry;exact PySem.EqNone.ne_none_int (fh I q (by simp))
  | str j=>obtain⟨t',rfl⟩:=ry;exact PySem.EqNone.ne_none_str (fh I q (by simp))
  | _=>exact absurd (show false=true from hs) aN
 | bl i=>
  cases rx;cases y with
  | non=>cases ry;exact PySem.EqNone.ne_bool_none (fh I q (by simp))
  | bl j=>cases ry;exact ne_bool (fh I q (congrArg not CK))
  | str j=>obtain⟨t',rfl⟩:=ry;exact PySem.EqMixed.ne_bool_str (fh I q (by simp))
  | _=>exact absurd (show false=true from hs) aN
 | int i=>
  obtain⟨t,rfl⟩:=rx;cases y with
  | non=>cases ry;exact PySem.EqNone.ne_int_none (fh I q (by simp))
  | int j=>obtain⟨t',rfl⟩:=ry;exact ne_int (fh I q (congrArg not x9))
  | str j=>obtain⟨t',rfl⟩:=ry;exact PySem.EqMixed.ne_int_str (fh I q (by simp))
  | _=>exact absurd (show false=true from hs) aN
 | str i=>
  obtain⟨t,rfl⟩:=rx;cases y with
  | non=>cases ry;exact PySem.EqNone.ne_str_none (fh I q (by simp))
  | bl j=>cases ry;exact PySem.EqMixed.ne_str_bool (fh I q (by simp))
  | int j=>obtain⟨t',rfl⟩:=ry;exact PySem.EqMixed.ne_str_int (fh I q (by simp))
  | str j=>obtain⟨t',rfl⟩:=ry;exact ne_str (fh I q (congrArg not x8))
  | _=>exact absurd (show false=true from hs) aN
 | byt i=>
  obtain⟨t,rfl⟩:=rx;cases y with
  | byt j=>obtain⟨t',rfl⟩:=ry;exact PySem.W.ne_bytes (fh I q (congrArg not yA))
  | _=>exact absurd (show false=true from hs) aN
 | _=>cases y<;>exact absurd (show false=true from hs) aN
theorem qy:nJ X (compareOp .Lt) (xc λi j=>.bl (decide (i<j))):=EH λ_ _ _ _ _ _ _ q=>lt_int q
theorem Bh:nJ X (compareOp .LtE) (xc λi j=>.bl (decide (i≤j))):=EH λ_ _ _ _ _ _ _ q=>le_int q
theorem lQ:nJ X (compareOp .Gt) (xc λi j=>.bl (decide (j<i))):=EH λ_ _ _ _ _ _ _ q=>gt_int q
theorem Jl:nJ X (compareOp .GtE) (xc λi j=>.bl (decide (j≤i))):=EH λ_ _ _ _ _ _ _ q=>ge_int q
theorem EF:nJ X (compareOp .IsNot) (λx y H Q=>y=.non∧Q (.bl (!decide (x=.non))) H):=by
 intro pins s σ H x y v u Q I rx ry h;obtain⟨rfl,q⟩:=h;cases ry;refine isnot_none_gen (fh I q ?_);cases x<;>first
  | (cases rx;rfl)
  | (obtain⟨t,rfl⟩:=rx;rfl)
theorem Bl(b:Expr)(h:op≠.In:=by decide)(h2:op≠.NotIn:=by decide):behindInMarks op b=false:=by
 have e1:(op==CmpOp.In)=false:=by cases op<;>first|rfl|exact absurd rfl h
 have e2:(op==CmpOp.NotIn)=false:=by cases op<;>first|rfl|exact absurd rfl h2
 cases b<;>simp[behindInMarks,e1,e2]
theorem xh{op:CmpOp}{r:R2}(ho:nJ X (compareOp op) r)(ha:PE X a ta)(hb:PE X b tb)(hm:behindInMarks op b=false):PE X (.Compare a [op] [b] pos) (dz r ta tb):=by intro pins s σ H Q I h;exact wpAny_Compare1 (Ik ha hb I h λv u s2 x y H2 I2 rx ry q=>ho pins s2 σ H2 x y v u Q I2 rx ry q) hm
def eI(t:TE):TT:=λσ H Q=>t σ H λx H'=>∃k,x=.bl k∧Q k H'
theorem kh(ho:nJ X (compareOp op) r)(ha:PE X a ta)(hb:PE X b tb)(hm:behindInMarks op b=false):PT X (.Compare a [op] [b] pos) (eI (dz r ta tb)):=by
 intro pins s σ H Q I h;refine wpAny_isTrue_Compare1 (thn (ha pins s σ H _ I h) λv s1 ⟨x,H1,I1,r1,q1⟩=>thn (hb pins s1 σ H1 _ I1 q1) λu s2 ⟨y,H2,I2,r2,q2⟩=>
  thn (ho pins s2 σ H2 x y v u _ I2 r1 r2 q2) λc s3 ⟨z,H3,I3,r3,k,e,q3⟩=>?_) hm
 subst e;cases r3;exact wpAny_truthy_bool ⟨H3,I3,q3⟩
def Ao(r r':R2)(ta tb tc:TE):TE:=λσ H Q=>ta σ H λx H1=>tb σ H1 λy H2=>r x y H2 λz H3=>∃k,z=.bl k∧
 (if k=true then tc σ H3 λw' H4=>r' y w' H4 Q else Q (.bl false) H3)
theorem BR(ho:nJ X (compareOp op) r)(ho':nJ X (compareOp op') r')(ha:PE X a ta)(hb:PE X b tb)(hc:PE X c tc)
  (hm:lastMarks [op,op'] [b,c]=false:=by with_unfolding_all rfl):PT X (.Compare a [op,op'] [b,c] pos) (eI (Ao r r' ta tb tc)):=by
 intro pins s σ H Q I h;refine isTrue_chain (thn (ha pins s σ H _ I h) λv s1 ⟨x,H1,I1,r1,q1⟩=>test_link (thn (hb pins s1 σ H1 _ I1 q1) λu s2 ⟨y,H2,I2,r2,q2⟩=>
  thn (ho pins s2 σ H2 x y v u _ I2 r1 r2 q2) λd s3 ⟨z,H3,I3,r3,k,e,q3⟩=>?_)) hm
 subst e;cases r3;refine wpAny_truthy_bool ?_;cases k with
 | false=>obtain⟨k',e',q'⟩:=q3;cases e';exact ite_ff ⟨H3,I3,q'⟩
 | true=>refine ite_tt (test_last (thn (hc pins s3 σ H3 _ I3 q3) λw' s4 ⟨z',H4,I4,r4,q4⟩=>thn (ho' pins s4 σ H4 y z' u w' _ I4 r2 r4 q4) λd' s5 ⟨z2,H5,I5,r5,k2,e2,q5⟩=>?_));subst e2;cases r5;exact wpAny_truthy_bool ⟨H5,I5,q5⟩
theorem oA:(sizeLine:Nat)<2^63:=by rw[sizeLine_eq];decide
def uR:R2:=λx y H Q=>onS x λi=>onS y λj=>i.length+j.length≤sizeLine∧Q (.str (i++j)) H
theorem ki:nJ X (binaryOp .Add) uR:=by intro pins s σ H x y v u Q I rx ry h;obtain⟨i,rfl,h⟩:=onS.ex h;obtain⟨j,rfl,hz,q⟩:=onS.ex h;obtain⟨t,rfl⟩:=rx;obtain⟨t',rfl⟩:=ry;exact add_str (λt' tk=>⟨.str (i++j),H,I.tok _,⟨_,rfl⟩,q⟩) hz
theorem lH(r:fE [x] us):∃u,us=[u]∧fS x u:=by
 cases r with
 | cons r1 r2=>cases r2;exact⟨_,rfl,r1⟩
theorem Es(r:fE [x,y] us):∃u w',us=[u,w']∧fS x u∧fS y w':=by
 cases r with
 | cons r1 r2=>
  cases r2 with
  | cons r3 r4=>cases r4;exact⟨_,_,rfl,r1,r3⟩
theorem CP:ky X (.builtin "abs") (λxs H Q=>∃i,xs=[.int i]∧Q (.int (if i<0 then -i else i)) H):=by intro pins s σ H xs us Q I r h;obtain⟨i,rfl,q⟩:=h;obtain⟨u,rfl,t,rfl⟩:=lH r;exact call_abs_int λu tk=>⟨.int (if i<0 then -i else i),H,I.tok _,⟨_,rfl⟩,q⟩
theorem zY(hc:X.calm=true):ky X (.builtin "min") (λxs H Q=>∃i j,xs=[.int i,.int j]∧Q (.int (if j<i then j else i)) H):=by
 intro pins s σ H xs us Q I r h;obtain⟨i,j,rfl,q⟩:=h;obtain⟨u,w',rfl,⟨t,rfl⟩,⟨t',rfl⟩⟩:=Es r;refine min_two_ints (I.ok.hd hc) λh' tk k=>⟨_,H,I.kept k,?_,q⟩;by_cases hj:j<i
 ·rw[if_pos hj,if_pos hj];exact⟨_,rfl⟩
 ·rw[if_neg hj,if_neg hj];exact⟨_,rfl⟩
theorem rL:ky X (.type "int") (λxs H Q=>(∃i,xs=[.int i]∧Q (.int i) H)∨∃k,xs=[.bl k]∧Q (.int (if k then 1 else 0)) H):=by
 intro pins s σ H xs us Q I r h;rcases h with⟨i,rfl,q⟩|⟨k,rfl,q⟩
 ·obtain⟨u,rfl,t,rfl⟩:=lH r;exact call_int_int ⟨.int i,H,I,⟨_,rfl⟩,q⟩
 ·obtain⟨u,rfl,r1⟩:=lH r;cases r1;exact call_int_bool ⟨.int (if k then 1 else 0),H,I.tok _,⟨_,rfl⟩,q⟩
end
structure wY(h:Heap)(x dx C:Addr)(mA:Str→Option Value):Prop where
 obj:h.get? x=some (PySem.W.instObj C dx)
 ns:h.Ns1 dx mA
 ne:dx≠x
theorem zG{h:Heap}{dx:Addr}{mA:Str→Option Value}(n:h.Ns1 dx mA):∃od,h.get? dx=some od∧∀name,PySem.W.lookIn name od=some (mA name):=by
 obtain⟨o,es,ep,ho,hd,hk,_,hm⟩:=n;refine⟨o,ho,λname=>?_⟩;have e:=hm name;unfold nsFind findBy at e;rw[←Array.find?_toList]at e;unfold PySem.W.lookIn;rw[hd];dsimp only;split
 ·rename_i y q;rw[q]at e;exact congrArg some e
 ·rename_i q;rw[q]at e;have a:es.toList.any (·.refKey)=false:=by rw[List.any_eq_false];intro y hy;obtain⟨z,t,hkey⟩:=hk y (Array.mem_toList_iff.mp hy);simp[DictEntry.refKey,hkey]
  have a':¬es.toList.any (·.refKey)=true:=by rw[a];exact aN
  rw[if_neg a'];exact congrArg some e
theorem wY.look(I:wY h x dx C mA):∃od,PySem.W.InstAt h x (PySem.W.instObj C dx) C (some od)∧∀name,PySem.W.lookIn name od=some (mA name):=
 let ⟨od,ho,hl⟩:=zG I.ns
 ⟨od,⟨I.obj,rfl,rfl,ho⟩,hl⟩
section
variable {prog:Program}{w:World}{A:Around}{E:Value→Shared→Prop}{s:Shared}{K:aA}{x dx C f:Addr}{mA:Str→Option Value}{name:Str}{v:Value}
theorem EW(X:K.In s.heap)(I:wY s.heap x dx C mA)(hg:PySem.W.plainGet K C name=true)(hh:PySem.W.hasDictIn K C=true)
  (ha:PySem.W.findIn K (.ref C) name=some none) (hv:mA name=some v) (hv':PySem.W.handedIn v=true) (h:Q v {s with toks:=s.toks+1}):
  wpAny (model prog w) A (getAttr (.ref x) name expr) Q E s:=by
 obtain⟨od,J,hl⟩:=I.look;exact PySem.W.get_value X J (cL hg).1 (PySem.W.findObj_own hh ha rfl (by rw[hl,hv])) hv' h
theorem CB(X:K.In s.heap)(I:wY s.heap x dx C mA)(hg:PySem.W.plainGet K C name=true)
  (hf:PySem.W.findIn K (.ref C) name=some (some (.ref f))) (ht:PySem.W.isFn K (.ref f)=true) (hv:mA name=none) (h:Q (.ref f,[.ref x]) s):
  wpAny (model prog w) A (getMethod (.ref x) name pl) Q E s:=by
 obtain⟨od,J,hl⟩:=I.look;exact PySem.W.method_fn X J (cL hg).1 (cL hg).2 hf (beq_iff_eq.mp ht) (by show(PySem.W.lookIn name od).map (·.isSome)=some false;rw[hl,hv];rfl) h
theorem Dt(X:K.In s.heap)(I:wY s.heap x dx C mA)
  (hs:PySem.W.findIn K (.ref C) "__setattr__"=some (some (.builtin "object.__setattr__"))) (hp:PySem.W.plainOver K C=true) (ht:PySem.W.takerIn K C name=some none) (hh:PySem.W.hasDictIn K C=true)
  (hw:PySem.Within mA ns) (hsz:ns.length≤sizeLine)
  (h:∀h',wY h' x dx C (λy=>if y=name then some v else mA y)→Heap.SameBut dx s.heap h'→Q () {s with heap:=h',toks:=s.toks+2}):
  wpAny (model prog w) A (setAttr (.ref x) name v) Q E s:=by
 obtain⟨od,J,hl⟩:=I.look;refine PySem.W.set_plain X J hs (PySem.W.osa_open (s:={s with toks:=s.toks+1}) (r:=none) X J hp ht λb=>?_);obtain⟨cd,hc,hd'⟩:=PySem.W.any_some hh;have hx:s.heap.get? x=some ⟨.ref C,some dx,.plain,#[]⟩:=I.obj;refine wpAny_bind (wpAny_pure (wpAny_bind (wpAny_bind (wpAny_loadPart hx (wpAny_bind (PySem.W.Looks.here (s:={s with toks:=s.toks+1}) (PySem.W.looks_clsIn X hc) ?_))))));rw[hd'];refine wpAny_pure (a:=some dx) (wpAny_bind (wpAny_pure (wpAny_bind ?_)));refine wpAny_nsSet1 (s:={s with toks:=s.toks+1}) I.ns λh' hn2 hs2=>?_;obtain⟨oD,esD,epD,hoD,hdD,hcD⟩:=hn2.count (PySem.Within.cons name v hw);refine wpAny_bind (wpAny_lookBehind hoD (by rw[hdD];exact pastItsLine_dict (aY hcD (by rw[aE];lia))) ?_);exact wpAny_pure (h _ ⟨(hs2.2 _ (ai I.ne)).trans I.obj,hn2,I.ne⟩ hs2)
theorem Bq(X:K.In s.heap)(hm:PySem.W.makesIn K C=true)
  (hi:PySem.W.findIn K (.ref C) "__init__"=some (some (.ref f))) (hf:PySem.W.typeIn K (.ref f)=some (.type "function"))
  (h:codeAny (model prog w) (A.under (.builtin "type.__call__" ⟨.ref C::vs,kw⟩)) (.call (.ref f) ⟨.ref (s.heap.objs.size+1)::vs,kw⟩) (PySem.W.InitBack (s.heap.objs.size+1) R)
   {s with heap:=(s.heap.push PySem.W.emptyDict).push (PySem.W.instObj C s.heap.objs.size)}):
  codeAny (model prog w) A (.call (.ref C) ⟨vs,kw⟩) R s:=by
 obtain⟨hh,g,d,t,os⟩:=s;exact PySem.W.make_core (PySem.W.makes_of X hm) (PySem.W.looks_findIn X hi) (λself=>PySem.W.bind_fn X self hf) (.inl rfl) h
end
def iG(f:Str)(v:V):List (Str×V)→List (Str×V)
 | []=>[(f,v)]
 | (g,x)::r=>if g=f then(g,v)::r else(g,x)::iG f v r
theorem oW(f g:Str)(v:V):∀fs:List (Str×V),(iG f v fs).lookup g=if g=f then some v else fs.lookup g
 | []=>by
  show List.lookup g [(f,v)]=_;by_cases h:g=f
  ·have hb:(g==f)=true:=beq_iff_eq.mpr h;simp only[List.lookup,hb,if_pos h]
  ·have hb:(g==f)=false:=beq_eq_false_iff_ne.mpr h;simp only[List.lookup,hb,if_neg h]
 | (k,x)::r=>by
  have ih:=oW f g v r;rw[show iG f v ((k,x)::r)=(if k=f then(k,v)::r else(k,x)::iG f v r)from rfl];by_cases hk:k=f
  ·rw[if_pos hk];by_cases h:g=k
   ·have hb:(g==k)=true:=beq_iff_eq.mpr h;simp only[List.lookup,hb,if_pos (h.trans hk)]
   ·have hb:(g==k)=false:=beq_eq_false_iff_ne.mpr h;simp only[List.lookup,hb,if_neg (λe:g=f=>h (e.trans hk.symm))]
  ·rw[if_neg hk];by_cases h:g=k
   ·have hb:(g==k)=true:=beq_iff_eq.mpr h;simp only[List.lookup,hb,if_neg (λe:g=f=>hk (h.symm.trans e))]
   ·have hb:(g==k)=false:=beq_eq_false_iff_ne.mpr h;simp only[List.lookup,hb];exact ih
theorem oF(f:Str)(v:V):∀fs:List (Str×V),f∈(iG f v fs).map (·.1)∧∀g,g∈fs.map (·.1)→g∈(iG f v fs).map (·.1)
 | []=>⟨by simp[iG],λg h=>by simp at h⟩
 | (k,x)::r=>by
  obtain⟨i1,i2⟩:=oF f v r;rw[show iG f v ((k,x)::r)=(if k=f then(k,v)::r else(k,x)::iG f v r)from rfl];by_cases hk:k=f
  ·rw[if_pos hk];subst hk;exact⟨by simp,λg h=>by simpa using h⟩
  ·rw[if_neg hk];refine⟨?_,λg h=>?_⟩
   ·rw[aW];exact bB _ i1
   ·rw[aW]at h⊢;rcases aB.mp h with e|e
    ·exact aB.mpr (.inl e)
    ·exact bB _ (i2 g e)
theorem oX(f:Str)(v:V):∀fs:List (Str×V),(iG f v fs).length≤fs.length+1
 | []=>by simp[iG]
 | (k,x)::r=>by
  have ih:=oX f v r;rw[show iG f v ((k,x)::r)=(if k=f then(k,v)::r else(k,x)::iG f v r)from rfl];by_cases hk:k=f
  ·rw[if_pos hk,aE,aE];lia
  ·rw[if_neg hk,aE,aE];lia
theorem lE.some_of(r:lE (some v) o):∃u,o=some u∧fS v u:=by
 cases o with
 | none=>exact(show False from r).elim
 | some u=>exact⟨u,rfl,r⟩
theorem lE.none_of(r:lE none o):o=none:=by
 cases o with
 | none=>rfl
 | some u=>exact(show False from r).elim
theorem zQ(r:fS v u):PySem.W.handedIn u=true:=by
 cases v with
 | non=>cases(show u=Value.none from r);rfl
 | bl b=>cases(show u=Value.bool b from r);rfl
 | int i=>obtain⟨t,e⟩:=(show ∃t,u=Value.int i t from r);cases e;rfl
 | str x=>obtain⟨t,e⟩:=(show ∃t,u=Value.str x t from r);cases e;rfl
 | byt b=>obtain⟨t,e⟩:=(show ∃t,u=Value.bytes b t from r);cases e;rfl
 | flt b=>obtain⟨t,e⟩:=(show ∃t,u=Value.float b t from r);cases e;rfl
 | ref a=>cases(show u=Value.ref a from r);rfl
 | ty n=>cases(show u=Value.type n from r);rfl
section
variable {P:Program}{w:World}{H H':Hp}{h h':Heap}{a C dx:Addr}{fs fs':List (Str×V)}
theorem pK(hok:mU P w H h)(e:H a=some (.ins C dx fs)):∃mA,wY h a dx C mA∧(∀f,lE (fs.lookup f) (mA f))∧PySem.Within mA (fs.map (·.1))∧fs.length≤1000∧H dx=some (.own a):=by obtain⟨d,z,ne,ob,mA,n,r,q⟩:=(show gU P w H h a (.ins C dx fs)from hok a _ e);exact⟨mA,⟨ob,n,ne⟩,r,q,z,d⟩
end
structure wb(K:aA)(C:Addr):Prop where
 pg:PySem.W.plainGet K C Str.empty=true
 hd:PySem.W.hasDictIn K C=true
 po:PySem.W.plainOver K C=true
 sa:PySem.W.findIn K (.ref C) "__setattr__"=some (some (.builtin "object.__setattr__"))
theorem wb.get{K:aA}{C:Addr}(c:wb K C)(f:Str):PySem.W.plainGet K C f=true:=c.pg
def i6(K:aA)(C:Addr)(f:Str):Prop:=PySem.W.findIn K (.ref C) f=some none
theorem i6.taker{K:aA}{C:Addr}{f:Str}(n:i6 K C f):PySem.W.takerIn K C f=some none:=by unfold PySem.W.takerIn;rw[show PySem.W.findIn K (.ref C) f=some none from n];rfl
structure lX(K:aA)(C:Addr)(m:Str)(f:Addr):Prop where
 at_:PySem.W.findIn K (.ref C) m=some (some (.ref f))
 fn:PySem.W.isFn K (.ref f)=true
 kp:PySem.W.keepIn K (.ref f)=true
section
variable {X:Cx}{pins:List (Addr×Obj)}{σ:St}{H:Hp}{s:Shared}{a C dx:Addr}{fs:List (Str×V)}{f:Str}{v:V}{A:Around}{E:Value→Shared→Prop}
theorem qU(I:eV X pins σ H s)(e:H a=some (.ins C dx fs))(c:wb X.K C)(n:i6 X.K C f)(l:fs.lookup f=some v)
  (h:∀u s',eV X pins σ H s'→fS v u→Q u s'):wpAny (model X.prog X.w) A (getAttr (.ref a) f b) Q E s:=by
 obtain⟨mA,O,r,_,_,_⟩:=pK I.hok e;obtain⟨u,hu,ru⟩:=lE.some_of (v:=v) (o:=mA f) (by rw[←l];exact r f);exact EW I.kIn O (c.get f) c.hd n hu (zQ ru) (h u _ (I.tok _) ru)
theorem wH(I:eV X pins σ H s)(e:H a=some (.ins C dx fs))(c:wb X.K C)(k:lX X.K C m g)(l:fs.lookup m=none)
  (h:Q (.ref g,[.ref a]) s):wpAny (model X.prog X.w) A (getMethod (.ref a) m pl) Q E s:=by
 obtain⟨mA,O,r,_,_,_⟩:=pK I.hok e;have hn:mA m=none:=lE.none_of (by rw[←l];exact r m);exact CB I.kIn O (c.get m) k.at_ k.fn hn h
theorem qI(I:eV X pins σ H s)(e:H a=some (.ins C dx fs))(c:wb X.K C)(n:i6 X.K C f)(hl:fs.length<1000)(ry:fS y u)
  (h:∀s',eV X pins σ (upd H a (.ins C dx (iG f y fs))) s'→Q () s'):wpAny (model X.prog X.w) A (setAttr (.ref a) f u) Q E s:=by
 obtain⟨mA,O,r,wi,_,ho⟩:=pK I.hok e;have hz:(fs.map (·.1)).length≤sizeLine:=by rw[aX,sizeLine_eq];lia
 refine Dt I.kIn O c.sa c.po n.taker c.hd wi hz λh' O' sb=>h _ ?_;have hd:∃o,h'.get? dx=some o:=let ⟨o,_,_,e',_⟩:=O'.ns;⟨o,e'⟩;refine I.write (x:=a) (e:=dx) (by rw[e];exact aI) (.inr ho) (λb q hb z=>(sb.2 b hb).trans z) hd ?_;refine⟨by rw[db O.ne];exact ho,?_,O.ne,O'.obj,_,O'.ns,λg=>?_,λg hg=>?_⟩
 ·have:=oX f y fs;lia
 ·show lE ((iG f y fs).lookup g) (if g=f then some u else mA g);rw[oW];by_cases q:g=f
  ·rw[if_pos q,if_pos q];exact ry
  ·rw[if_neg q,if_neg q];exact r g
 ·by_cases q:g=f
  ·rw[q];exact(oF f y fs).1
  ·refine(oF f y fs).2 g (wi g λz=>hg ?_);show(if g=f then some u else mA g)=none;rw[if_neg q];exact z
theorem eV.made(I:eV X pins σ H s):eV X pins σ (upd (upd H s.heap.objs.size (.own (s.heap.objs.size+1))) (s.heap.objs.size+1) (.ins C s.heap.objs.size []))
  {s with heap:=(s.heap.push PySem.W.emptyDict).push (PySem.W.instObj C s.heap.objs.size)}:=by
 have e1:(s.heap.push PySem.W.emptyDict).get? s.heap.objs.size=some PySem.W.emptyDict:=Heap.get?_push_size s.heap rfl;have e2:((s.heap.push PySem.W.emptyDict).push (PySem.W.instObj C s.heap.objs.size)).get? (s.heap.objs.size+1)=some (PySem.W.instObj C s.heap.objs.size):=by have:=Heap.get?_push_size (s.heap.push PySem.W.emptyDict) (o:=PySem.W.instObj C s.heap.objs.size) rfl;rwa[Heap.size_push]at this
 have e3:(s.heap.push PySem.W.emptyDict).Ns s.heap.objs.size (λ_=>none):=⟨PySem.W.emptyDict,#[],_,e1,rfl,(λe he=>absurd he (by simp)),λ_=>rfl⟩;have I1:=I.laid (a:=s.heap.objs.size) (o:=.own (s.heap.objs.size+1)) (h':=s.heap.push PySem.W.emptyDict) (t':=s.toks) (λb u q=>Heap.get?_push_of_some _ q) (aC _) ⟨_,e1⟩;refine I1.laid (a:=s.heap.objs.size+1) (o:=.ins C s.heap.objs.size []) (t':=s.toks) (λb u q=>Heap.get?_push_of_some _ q) (Nat.le_of_eq (Heap.size_push _ _)) ?_;have ne:s.heap.objs.size≠s.heap.objs.size+1:=aM (b5 _);refine⟨by rw[db ne,dO],aS _,ne,e2,λ_=>none,(Heap.Ns1.of_empty e3).at λo q=>Heap.get?_push_of_some _ q,λ_=>aI,λy hy=>absurd rfl hy⟩
theorem Ej(hb:attributeBase e f env (eval e env)=eval e env)
  (h:wpAny (model prog w) A (eval e env) (λo s₁=>wpAny (model prog w) A (getAttr o f true) Q E s₁) E s):wpAny (model prog w) A (eval (.Attribute e f pos) env) Q E s:=
 Attribute_any_ h (by rw[arm_eval_Attribute,hb])
end
inductive Kz(K:aA)(H:Hp)(a:Addr)(f:Str)(Q:VK):Prop
 | mk{C dx:Addr}{fs:List (Str×V)}{v:V}(h:H a=some (.ins C dx fs))(c:wb K C)(n:i6 K C f)(l:fs.lookup f=some v)(q:Q v H):Kz K H a f Q
def kG(K:aA)(ta:TE)(f:Str):TE:=λσ H Q=>ta σ H λx H1=>onR x λa=>Kz K H1 a f Q
def uN(K:aA)(ta tv:TE)(f:Str):TS:=λD σ H=>tv σ H λy H1=>ta σ H1 λx H2=>∃a C dx fs,x=.ref a∧H2 a=some (.ins C dx fs)∧wb K C∧i6 K C f∧fs.length<1000∧
 D.nx σ (upd H2 a (.ins C dx (iG f y fs)))
def Kx(X:Cx)(op:Operator)(rd:V→V→Hp→VK→Prop):Prop:=
 ∀(pins:List (Addr×Obj))(s:Shared)(σ:St)(H:Hp)(x y:V)(u v:Value)(Q:VK),eV X pins σ H s→fS x u→fS y v→rd x y H Q→wpAny (model X.prog X.w) X.A (inplaceOp op u v) (EP X pins σ Q) X.xe s
def pG(K:aA)(ta tv:TE)(rd:V→V→Hp→VK→Prop)(f:Str):TS:=λD σ H=>ta σ H λx H1=>∃a C dx fs v,x=.ref a∧H1 a=some (.ins C dx fs)∧wb K C∧i6 K C f∧fs.lookup f=some v∧
 tv σ H1 λy H2=>rd v y H2 λz H3=>∃dx' fs',H3 a=some (.ins C dx' fs')∧fs'.length<1000∧D.nx σ (upd H3 a (.ins C dx' (iG f z fs')))
section
variable {X:Cx}{o e value:Expr}{f:Str}{pos pos' tpos:Pos}{ta tv:TE}
theorem ia(he:PE X e ta)(hb:attributeBase e f X.env (eval e X.env)=eval e X.env):PE X (.Attribute e f pos) (kG X.K ta f):=by intro pins s σ H Q I h;refine Ej hb (thn (he pins s σ H _ I h) λu s1 ⟨x,H1,I1,rx,q⟩=>?_);obtain⟨a,rfl,q⟩:=onR.ex q;obtain @⟨C,dx,fs,v,ea,c,n,l,q⟩:=q;obtain rfl:u=Value.ref a:=rx;exact qU I1 ea c n l λu' s2 I2 ru=>⟨v,H1,I2,ru,q⟩
theorem mQ(ha:PE X o ta)(hv:PE X value tv)(hs:swapsWith value (some (.Attribute o f pos')) pos.line X.env=pure false):PS X (.Assign [.Attribute o f pos'] value pos) (uN X.K ta tv f):=by intro pins s σ H D I h;refine plainObj_wpAny_Assign_Attribute (thn (hv pins s σ H _ I h) λu s1 ⟨y,H1,I1,ry,q⟩=>thn (ha pins s1 σ H1 _ I1 q) λov s2 ⟨x,H2,I2,rx,a,C,dx,fs,ex,ea,c,n,l,q2⟩=>?_) hs;subst ex;obtain rfl:ov=Value.ref a:=rx;exact qI I2 ea c n l ry λs3 I3=>⟨σ,_,I3,q2⟩
theorem nh(ha:PE X o ta)(hv:PE X value tv)(hop:Kx X op rd):PS X (.AugAssign (.Attribute o f tpos) op value pos) (pG X.K ta tv rd f):=by intro pins s σ H D I h;refine wpAny_AugAssign_AttributeAny (thn (ha pins s σ H _ I h) λov s1 ⟨x,H1,I1,rx,a,C,dx,fs,v,ex,ea,c,n,l,q⟩=>?_);subst ex;obtain rfl:ov=Value.ref a:=rx;refine qU I1 ea c n l λu s2 I2 ru=>thn (hv pins s2 σ H1 _ I2 q) λw3 s3 ⟨y,H2,I3,ry,q3⟩=>thn (hop pins s3 σ H2 v y u w3 _ I3 ru ry q3) λw4 s4 ⟨z,H3,I4,rz,dx',fs',ea',l',q4⟩=>?_;exact qI I4 ea' c n l' rz λs5 I5=>⟨σ,_,I5,q4⟩
def D1:V→V→Hp→VK→Prop:=λx y H Q=>∃i j,x=.int i∧y=.int j∧Q (.int (i+j)) H
theorem wG:Kx X .Add D1:=by rintro pins s σ H x y u v Q I rx ry ⟨i,j,rfl,rfl,q⟩;obtain⟨t,rfl⟩:=(show ∃t,u=Value.int i t from rx);obtain⟨t',rfl⟩:=(show ∃t',v=Value.int j t' from ry);exact PyProof.Rows.iadd_int ⟨.int (i+j),H,I.tok _,⟨_,rfl⟩,q⟩
end
section
variable {X:Cx}{pins:List (Addr×Obj)}{σ:St}{H:Hp}{s:Shared}{A:Around}{E:Value→Shared→Prop}{Q:Value→Shared→Prop}{c:Value}{b:Bool}
inductive oO(K:aA)(H:Hp):V→Value→Prop where
 | non:oO K H .non (.type "NoneType")
 | bl(x:Bool):oO K H (.bl x) (.type "bool")
 | int(i:Int):oO K H (.int i) (.type "int")
 | str(x:Str):oO K H (.str x) (.type "str")
 | flt(x:UInt64):oO K H (.flt x) (.type "float")
 | lst{a:Addr}{xs:List V}(e:H a=some (.lst xs)):oO K H (.ref a) (.type "list")
 | frz{a:Addr}{o:Obj}{xs:List V}(e:H a=some (.frz o (.lst xs))):oO K H (.ref a) (.type "list")
 | tup{a:Addr}{xs:List V}(e:H a=some (.tup xs)):oO K H (.ref a) (.type "tuple")
 | dK{a:Addr}{kvs:List (fI×V)}(e:H a=some (.dK kvs)):oO K H (.ref a) (.type "dict")
 | dT{a:Addr}{kvs:List (List fI×V)}(e:H a=some (.dT kvs)):oO K H (.ref a) (.type "dict")
 | ins{a C dx:Addr}{fs:List (Str×V)}(e:H a=some (.ins C dx fs))(cl:wb K C)(ha:PySem.W.findIn K (.ref C) "__class__"=some (some (.builtin "object.__class__")))
   (hn:PySem.W.specialIn K (.builtin "object.__class__") "__get__"=some (some (.builtin "getset_descriptor.__get__"))) (htk:PySem.W.takesIn K (.builtin "object.__class__")=some true)
   (hm:PySem.W.mroIn K C (.type "object")=some true):oO K H (.ref a) (.ref C)
theorem zO(I:eV X pins σ H s)(rx:fS x u)(ty:oO X.K H x t)(e:PySem.W.kitOne X.K t c=some b)(h:∀tk,Q (.bool b) {s with toks:=tk}):
  wpAny (model X.prog X.w) A (call (.builtin "isinstance") [u,c]) Q E s:=by
 cases ty with
 | non=>cases(show u=Value.none from rx);exact bD PySem.W.kitx_none I.kIn aI e (λz=>nomatch z) h
 | bl y=>cases(show u=Value.bool y from rx);exact bD PySem.W.kitx_bool I.kIn aI e (λz=>nomatch z) h
 | int i=>obtain⟨t,q⟩:=(show ∃t,u=Value.int i t from rx);cases q;exact bD PySem.W.kitx_int I.kIn aI e (λz=>nomatch z) h
 | str y=>obtain⟨t,q⟩:=(show ∃t,u=Value.str y t from rx);cases q;exact bD PySem.W.kitx_str I.kIn aI e (λz=>nomatch z) h
 | flt y=>obtain⟨t,q⟩:=(show ∃t,u=Value.float y t from rx);cases q;exact bD PySem.W.kitx_float I.kIn aI e (λz=>nomatch z) h
 | @lst a xs ea=>
  cases(show u=Value.ref a from rx);obtain⟨_,_,n,_,h1⟩:=(show gU X.prog X.w H s.heap a (.lst xs)from I.hok a _ ea);exact bD PySem.W.kitx_list I.kIn ⟨_,h1,rfl⟩ e (λz=>nomatch z) h
 | @frz a ob xs ea=>
  cases(show u=Value.ref a from rx);obtain⟨_,_,_,n,_,h1⟩:=(show gU X.prog X.w H s.heap a (.frz ob (.lst xs))from I.hok a _ ea);exact bD PySem.W.kitx_list I.kIn ⟨_,h1,rfl⟩ e (λz=>nomatch z) h
 | @tup a xs ea=>
  cases(show u=Value.ref a from rx);obtain⟨_,_,_,p⟩:=(show gU X.prog X.w H s.heap a (.tup xs)from I.hok a _ ea);obtain⟨o,h1,h2,_⟩:=p;exact bD PySem.W.kitx_tuple I.kIn ⟨o,h1,h2⟩ e (λz=>nomatch z) h
 | @dK a kvs ea=>
  cases(show u=Value.ref a from rx);obtain⟨_,_,vs,_,p⟩:=(show gU X.prog X.w H s.heap a (.dK kvs)from I.hok a _ ea);obtain⟨o,es,ep,h1,h2,_⟩:=p;exact bD PySem.W.kitx_dict I.kIn ⟨o,h1,h2.1⟩ e (λz=>nomatch z) h
 | @dT a kvs ea=>
  cases(show u=Value.ref a from rx);obtain⟨_,_,xs,_,o,es,ep,h1,h2,_⟩:=(show gU X.prog X.w H s.heap a (.dT kvs)from I.hok a _ ea);exact bD PySem.W.kitx_dict I.kIn ⟨o,h1,h2.1⟩ e (λz=>nomatch z) h
 | @ins a C dx fs ea cl ha hn htk hm=>cases(show u=Value.ref a from rx);obtain⟨mA,O,_⟩:=pK I.hok ea;obtain⟨od,J,_⟩:=O.look;exact bD (PySem.W.kitx_own (cl.get _) cl.hd ha hn htk hm) I.kIn J e (λz=>nomatch z) h
end
structure ig(k:Nat)(A:Around):Prop where
 hd:A.handled=none
 dp:A.depth+3*k+5<recursionLimit
 un:A.units+16*k+200<cLine
theorem ig.mono(r:ig k A)(h:j≤k):ig j A:=⟨r.hd,by have:=r.dp;lia,by have:=r.un;lia⟩
theorem ig.deeper(r:ig (k+1) A)(env:Env):ig k (A.deeper env):=
 ⟨r.hd,by have:=r.dp;show A.depth+1+3*k+5<_;lia,by have:=r.un;show A.units+3+16*k+200<_;lia⟩
theorem vz{A:Around}{C:Addr}{us:List Value}{kw:List (Str×Value)}:(A.under (.builtin "type.__call__" ⟨.ref C::us,kw⟩)).depth=A.depth+1:=by
 first|rfl|simp[Around.under,Code.weight,Code.isCreation,Code.isGuard,Code.isCaller,Code.frames,Code.isFrame,guardIds]
theorem vy{A:Around}{C:Addr}{us:List Value}{kw:List (Str×Value)}:(A.under (.builtin "type.__call__" ⟨.ref C::us,kw⟩)).units=A.units+1:=by
 first|rfl|simp[Around.under,Code.cUnits,Code.frames,Code.isFrame]
theorem ig.make(r:ig (k+1) A)(C:Addr)(us:List Value)(kw:List (Str×Value)):ig k (A.under (.builtin "type.__call__" ⟨.ref C::us,kw⟩)):=
 ⟨r.hd,by have:=r.dp;rw[vz];lia,by have:=r.un;rw[vy];lia⟩
theorem ig.depth(r:ig k A):A.depth<recursionLimit:=by have:=r.dp;lia
theorem ig.units(r:ig k A):A.units+64<cLine:=by have:=r.un;lia
theorem ig.units0(r:ig k A):A.units<cLine:=by have:=r.un;lia
def dW:TA:=λ_ H Q=>Q [] H
def dM(ta:TE)(tr:TA):TA:=λσ H Q=>ta σ H λx H1=>tr σ H1 λxs H2=>Q (x::xs) H2
section
variable {X:Cx}{e:Expr}{es:List Expr}{te:TE}{t:TA}{pos:Pos}
theorem fX:PA X [] dW:=λ_ _ _ _ H Q I h=>Calls.spliced_nil ⟨[],H,I,.nil,h⟩
theorem dh(ha:PE X e te)(hr:PA X es t)(hs:starEach (e::es) X.env=(false,eval e X.env)::starEach es X.env:=by rfl):PA X (e::es) (dM te t):=by intro pos pins s σ H Q I h;rw[hs];show wpAny _ _ (spliced ((false,eval e X.env)::backTo pos (starEach es X.env))) _ _ s;refine Calls.spliced_cons (thn (ha pins s σ H _ I h) λu s1 ⟨x,H1,I1,r1,q1⟩=>?_);exact thn (hr pos pins s1 σ H1 _ I1 q1) λus s2 ⟨xs,H2,I2,r2,q2⟩=>⟨x::xs,H2,I2,.cons r1 r2,q2⟩
def fJ(t:TA):TE:=λσ H Q=>t σ H λxs H1=>xs.length≤sizeLine∧lA H1 (.tup xs) Q
def fR(t:TA):TE:=λσ H Q=>t σ H λxs H1=>xs.length≤sizeLine∧lA H1 (.lst xs) Q
theorem eP(h:PA X es t):PE X (.Tuple es x1 pos) (fJ t):=by intro pins s σ H Q I hq;refine wpAny_Tuple_spliced (thn (h pos pins s σ H _ I hq) λus s1 ⟨xs,H1,I1,r,z,q⟩=>⟨by rw[←r.length];exact z,?_⟩);have hf:H1 s1.heap.objs.size=none:=I1.hok.fresh (aC _);refine⟨.ref s1.heap.objs.size,upd H1 s1.heap.objs.size (.tup xs),I1.laid (t':=s1.toks) (λb u e=>Heap.get?_push_of_some _ e) (aC _) ?_,rfl,q _ hf⟩;exact⟨z,us,r,⟨_,Heap.get?_push_size _ rfl,rfl,_,rfl⟩⟩
theorem eL(h:PA X es t):PE X (.List es pos) (fR t):=by intro pins s σ H Q I hq;refine wpAny_List_spliced (thn (h pos pins s σ H _ I hq) λus s1 ⟨xs,H1,I1,r,z,q⟩=>⟨by rw[←r.length];exact z,?_⟩);have hf:H1 s1.heap.objs.size=none:=I1.hok.fresh (aC _);refine⟨.ref s1.heap.objs.size,upd H1 s1.heap.objs.size (.lst xs),I1.laid (t':=s1.toks) (λb u e=>Heap.get?_push_of_some _ e) (aC _) ?_,rfl,q _ hf⟩;exact⟨z,us,0,r,Heap.get?_push_size _ rfl⟩
end
abbrev Sp:=List V→Hp→VK→XK→Prop
abbrev zj:=List Env→Hp→Shared→XK→Value→Shared→Prop
structure wa(P:Program)(w:World)(K:aA)(mg:Str→Option Value)(base:Heap)(A:Around)(outer:List Env)(s:Shared)(H:Hp):Prop where
 frames:A.frames=some outer
 mod:Mod K mg base
 bs:∀b o,base.get? b=some o→s.heap.get? b=some o∧H b=none
 bsz:base.objs.size≤s.heap.objs.size
 funs:s.heap.FunFrames base outer
 frf:∀b∈zS outer,H b=none
 hok:mU P w H s.heap
 bare:AllBare s.gens
def CE(outer:List Env)(P:Program)(w:World)(H:Hp)(s:Shared)(Q:VK)(u:Value)(s':Shared):Prop:=
 ∃v H',s'.os=s.os∧AllBare s'.gens∧Un (zS outer) [] H H' s.heap s'.heap∧mU P w H' s'.heap∧fS v u∧Q v H'
def CR(CX:zj)(outer:List Env)(P:Program)(w:World)(H:Hp)(s:Shared)(Q:VK)(E:XK)(r:Result)(s':Shared):Prop:=
 match r with
 | .ok (.ret u)=>CE outer P w H s Q u s'
 | .ok _=>False
 | .error e=>CX outer H s E e s'
structure lY(P:Program)(w:World)(K:aA)(mg:Str→Option Value)(base:Heap)(CX:zj)(k:Nat)(f:Addr)(fd:FuncData)(ps:List Str)(sp:Sp):Prop where
 len:∀vs H Q E,sp vs H Q E→vs.length=ps.length
 run:∀(A:Around)(outer:List Env)(s:Shared)(H:Hp)(args:Args)(us:List Value)(vs:List V)(Q:VK)(E:XK),ig k A→wa P w K mg base A outer s H→BindsTo s fd args (ps.zip us)→fE vs us→sp vs H Q E→
  codeAny (model P w) A (.call (.ref f) args) (CR CX outer P w H s Q E) s
theorem lY.imp{P:Program}{w:World}{K:aA}{mg:Str→Option Value}{base:Heap}{CX:zj}{k:Nat}{f:Addr}{fd:FuncData}{ps:List Str}{sp sp':Sp}(F:lY P w K mg base CX k f fd ps sp)
  (h:∀vs H Q E,sp' vs H Q E→sp vs H Q E):lY P w K mg base CX k f fd ps sp':=
 ⟨λvs H Q E q=>F.len vs H Q E (h _ _ _ _ q),λA outer s H args us vs Q E hr he hb hv hs=>F.run A outer s H args us vs Q E hr he hb hv (h _ _ _ _ hs)⟩
theorem wa.make{P:Program}{w:World}{K:aA}{mg:Str→Option Value}{base:Heap}{A:Around}{outer:List Env}{s:Shared}{H:Hp}(e:wa P w K mg base A outer s H)(C:Addr)(us:List Value)(kw:List (Str×Value)):
  wa P w K mg base (A.under (.builtin "type.__call__" ⟨.ref C::us,kw⟩)) outer s H:=⟨by first|exact e.frames|(simpa[Around.under,Code.envs,Code.isFrame,pushEnvs]using e.frames),e.mod,e.bs,e.bsz,e.funs,e.frf,e.hok,e.bare⟩
section
variable {X:Cx}{pins:List (Addr×Obj)}{σ:St}{H:Hp}{s s':Shared}
theorem eV.env0(I:eV X pins σ H s):wa X.prog X.w X.K X.mg X.base X.A X.stack s H:=
 ⟨I.ok.frames,I.ok.mod,I.bs,aY I.ok.bsz I.sz,I.stack,I.stkFree,I.hok,I.bare⟩
theorem eV.after(I:eV X pins σ H s)(h:CE X.stack X.prog X.w H s Q u s'):EP X pins σ Q u s':=by obtain⟨v,H',os,bare,un,hok,r,q⟩:=h;obtain⟨hh,g,d,t,os'⟩:=s';obtain rfl:os'=s.os:=os;exact⟨v,H',I.call (h':=hh) (g':=g) (d':=d) (t':=t) (ch:=[]) un hok bare (λb z=>absurd z (by simp)),r,q⟩
end
def eN(sp:Sp)(dvs:List V)(E:XK)(t:TA):TE:=λσ H Q=>t σ H λvs H1=>sp (vs++dvs) H1 Q E
inductive Kv(H:Hp)(a C:Addr)(m:Str)(k:Prop):Prop
 | mk{dx:Addr}{fs:List (Str×V)}(h:H a=some (.ins C dx fs))(l:fs.lookup m=none)(q:k):Kv H a C m k
def jq(C:Addr)(m:Str)(sp:Sp)(dvs:List V)(E:XK)(ta:TE)(t:TA):TE:=λσ H Q=>ta σ H λx H1=>onR x λa=>Kv H1 a C m (t σ H1 λvs H2=>sp (x::(vs++dvs)) H2 Q E)
def uF(C:Addr)(sp:Sp)(dvs:List V)(E:XK)(t:TA):TE:=λσ H Q=>t σ H λvs H1=>∀x dx,H1 x=none→H1 dx=none→dx≠x→
 sp (.ref x::(vs++dvs)) (upd (upd H1 dx (.own x)) x (.ins C dx [])) (λv H2=>v=.non∧Q (.ref x) H2) E
def nQ(K:aA)(fd:FuncData)(ps:List Str)(ds:List Value):Prop:=
 ∀(s:Shared)(us:List Value),K.In s.heap→(us++ds).length=ps.length→BindsTo s fd ⟨us,[]⟩ (ps.zip (us++ds))
theorem nQ.all{K:aA}{fd:FuncData}{ps:List Str}(h:∀us:List Value,us.length=ps.length→bindArgs fd ⟨us,[]⟩=pure (ps.zip us)):nQ K fd ps []:=λs us _ hl=>by rw[aa]at hl⊢;exact .of_eq (h us hl)
def oR(CX:zj)(X:Cx)(E:XK):Prop:=∀(pins:List (Addr×Obj))(σ:St)(H:Hp)(s:Shared)(e:Value)(s':Shared),eV X pins σ H s→CX X.stack H s E e s'→X.xe e s'
section
variable {X:Cx}{CX:zj}{k:Nat}{f C:Addr}{fd:FuncData}{ps:List Str}{sp:Sp}{dvs:List V}{ds:List Value}{E:XK}{x m:Str}{p pos apos:Pos}{e o:Expr}{es:List Expr}{ta:TE}{t:TA}
theorem BA(F:lY X.prog X.w X.K X.mg X.base CX k f fd ps sp)(hr:ig k X.A)(hb:nQ X.K fd ps ds)(hd:fE dvs ds)(hx:oR CX X E)
  (I:eV X pins σ H s) (r:fE vs us) (h:sp (vs++dvs) H Q E):wpAny (model X.prog X.w) X.A (call (.ref f) us) (EP X pins σ Q) X.xe s:=by
 have r2:fE (vs++dvs) (us++ds):=r.append hd;have hl:(us++ds).length=ps.length:=by rw[←r2.length];exact F.len _ _ _ _ h
 refine wpAny_call (codeAny_mono (F.run X.A X.stack s H ⟨us,[]⟩ (us++ds) (vs++dvs) Q E hr I.env0 (hb s us I.kIn hl) r2 h) λr s' hq=>?_);cases r with
 | error e=>exact hx pins σ H s e s' I hq
 | ok fl=>
  cases fl with
  | ret u=>exact I.after hq
  | next=>exact False.elim hq
  | brk=>exact False.elim hq
  | cont=>exact False.elim hq
theorem EB(F:lY X.prog X.w X.K X.mg X.base CX k f fd ps sp)(hr:ig k X.A)(hg:Gl X x)(hm:X.mg x=some (.ref f))(hk:PySem.W.keepIn X.K (.ref f)=true)(hb:nQ X.K fd ps ds)(hd:fE dvs ds)(hx:oR CX X E)
  (ha:PA X (e::es) t) (hdb:(x==("__debug__":Str))=false:=by decide) (he:starEach (e::es) X.env=(false,eval e X.env)::starEach es X.env:=by rfl) (hpl:(backTo pos (starEach es X.env)).any (·.1)=false:=by rfl):
  PE X (.Call (.Name x p) (e::es) [] pos) (eN sp dvs E t):=by
 intro pins s σ H Q I h;refine wpAny_Call_Name_kw (sZ I hg hm ?_ hdb);refine cM (h₀:=X.base) I.ok.mod.kin hk (thn (ha pos pins s σ H _ I h) λus s1 ⟨vs,H1,I1,r,q⟩=>⟨I1.kIn,?_⟩) he hpl;exact BA F hr hb hd hx I1 r q
theorem D8(he:PE X o ta)(c:wb X.K C)(hm:lX X.K C m f)(F:lY X.prog X.w X.K X.mg X.base CX k f fd ps sp)(hr:ig k X.A)(hb:nQ X.K fd ps ds)(hd:fE dvs ds)(hx:oR CX X E)(ha:PA X (e::es) t)
  (hst:starEach (e::es) X.env=(false,eval e X.env)::starEach es X.env:=by rfl) (hpl:(backTo pos (starEach es X.env)).any (·.1)=false:=by rfl)
  (ht:eval (.Call (.Attribute o m apos) (e::es) [] pos) X.env=(do
   let ov ← eval o X.env
   standAt apos.atName
   let (f,first) ← holding [ov] (getMethod ov m pl)
   callWith pos f first (backTo pos (starEach (e::es) X.env)) (backToKw pos (keywordEach [] X.env))):=by rfl):
  PE X (.Call (.Attribute o m apos) (e::es) [] pos) (jq C m sp dvs E ta t):=by
 intro pins s σ H Q I h;refine PySem.W.methodCall_KW (pl:=pl) (thn (he pins s σ H _ I h) λu s1 ⟨x,H1,I1,rx,q⟩=>?_) ht;obtain⟨a,rfl,q⟩:=onR.ex q;obtain @⟨dx,fs,ea,l,q⟩:=q;obtain rfl:u=Value.ref a:=rx;refine wH I1 ea c hm l ?_;refine cM (first:=[.ref a]) (h₀:=X.base) I.ok.mod.kin hm.kp (thn (ha pos pins s1 σ H1 _ I1 q) λus s2 ⟨vs,H2,I2,r,q2⟩=>⟨I2.kIn,?_⟩) hst hpl;exact BA (us:=.ref a::us) (vs:=.ref a::vs) F hr hb hd hx I2 (.cons rfl r) q2
structure Mk(K:aA)(C f:Addr):Prop where
 makes:PySem.W.makesIn K C=true
 init:PySem.W.findIn K (.ref C) "__init__"=some (some (.ref f))
 fn:PySem.W.isFn K (.ref f)=true
 kp:PySem.W.keepIn K (.ref C)=true
theorem A9(M:Mk X.K C f)(F:lY X.prog X.w X.K X.mg X.base CX k f fd ps sp)(hr:ig (k+1) X.A)(hb:nQ X.K fd ps ds)(hd:fE dvs ds)
  (hx:oR CX X E) (I:eV X pins σ H s) (r:fE vs us)
  (h:∀x dx,H x=none→H dx=none→dx≠x→sp (.ref x::(vs++dvs)) (upd (upd H dx (.own x)) x (.ins C dx [])) (λv H2=>v=.non∧Q (.ref x) H2) E):
  wpAny (model X.prog X.w) X.A (call (.ref C) us) (EP X pins σ Q) X.xe s:=by
 have hq:=h (s.heap.objs.size+1) s.heap.objs.size (I.hok.fresh (bP _)) (I.hok.fresh (aC _)) (aM (b5 _));have I2:=eV.made (C:=C) I;have r2:fE (V.ref (s.heap.objs.size+1)::(vs++dvs)) (Value.ref (s.heap.objs.size+1)::(us++ds)):=.cons rfl (r.append hd);have hl:(Value.ref (s.heap.objs.size+1)::us++ds).length=ps.length:=by have e:=r2.length;rw[F.len _ _ _ _ hq]at e;exact e.symm
 refine wpAny_call (Bq (f:=f) I.kIn M.makes M.init (beq_iff_eq.mp M.fn) (codeAny_mono (F.run _ X.stack _ _ ⟨Value.ref (s.heap.objs.size+1)::us,[]⟩ (Value.ref (s.heap.objs.size+1)::(us++ds)) _ _ E (hr.make C us [])
  (I2.env0.make C us []) (hb _ (Value.ref (s.heap.objs.size+1)::us) I2.kIn hl) r2 hq) λr s' hq'=>?_))
 cases r with
 | error e=>exact hx pins σ _ _ e s' I2 hq'
 | ok fl=>
  cases fl with
  | ret u=>obtain⟨v,H',I3,rv,ev,q3⟩:=I2.after hq';subst ev;exact⟨rv,⟨V.ref (s.heap.objs.size+1),H',I3,rfl,q3⟩⟩
  | next=>exact False.elim hq'
  | brk=>exact False.elim hq'
  | cont=>exact False.elim hq'
theorem D9(M:Mk X.K C f)(F:lY X.prog X.w X.K X.mg X.base CX k f fd ps sp)(hr:ig (k+1) X.A)(hg:Gl X x)(hm:X.mg x=some (.ref C))(hb:nQ X.K fd ps ds)(hd:fE dvs ds)(hx:oR CX X E)
  (ha:PA X (e::es) t) (hdb:(x==("__debug__":Str))=false:=by decide) (he:starEach (e::es) X.env=(false,eval e X.env)::starEach es X.env:=by rfl) (hpl:(backTo pos (starEach es X.env)).any (·.1)=false:=by rfl):
  PE X (.Call (.Name x p) (e::es) [] pos) (uF C sp dvs E t):=by
 intro pins s σ H Q I h;refine wpAny_Call_Name_kw (sZ I hg hm ?_ hdb);refine cM (h₀:=X.base) I.ok.mod.kin M.kp (thn (ha pos pins s σ H _ I h) λus s1 ⟨vs,H1,I1,r,q⟩=>⟨I1.kIn,?_⟩) he hpl;exact A9 M F hr hb hd hx I1 r q
end
section
variable {X:Cx}{CX:zj}{k:Nat}{f C:Addr}{fd:FuncData}{ps ks:List Str}{sp:Sp}{E:XK}{x m:Str}{p pos apos kpos:Pos}{e o:Expr}{es:List Expr}{kws:List Keyword}{te ta:TE}{t tk:TA}{nm:Option Str}
variable {g:List Value→List Value→List Value}{gV:List V→List V→List V}
end
structure nN(N P:List Str)(sc:Scope):Prop where
 kind:sc.kind=.function
 co:sc.isCoroutine=false
 gen:sc.isGenerator=false
 nd:N.Nodup
 pre:N.take P.length=P
 par:∀x∈P,sc.names.lookup x=some .local∨sc.names.lookup x=some .cell
 nofree:∀y∈sc.names,y.2≠.free
theorem rN{kindOf:Str→Option NameKind}{x:Str}:∀{binds:List (Str×Value)}{m:Str→Option Value},(∀v,(x,v)∉binds)→bindL kindOf binds m x=m x
 | [],_,_=>rfl
 | (n,v)::r,m,h=>by
  unfold bindL;rw[rN λw hw=>h w (bB _ hw)];split
  ·have:x≠n:=by rintro rfl;exact h v bW
   simp[this]
  ·rfl
theorem rP{kindOf:Str→Option NameKind}{x:Str}:∀{binds:List (Str×Value)}{m:Str→Option Value},(∀v,(x,v)∉binds)→bindC kindOf binds m x=m x
 | [],_,_=>rfl
 | (n,v)::r,m,h=>by
  unfold bindC;rw[rP λw hw=>h w (bB _ hw)];split
  ·rfl
  ·have:x≠n:=by rintro rfl;exact h v bW
   simp[this]
theorem rO{kindOf:Str→Option NameKind}{x:Str}{v:Value}:∀{P:List Str}{vs:List Value}{i:Nat}{m:Str→Option Value},P.Nodup→P[i]?=some x→vs[i]?=some v→kindOf x=some .local→
  bindL kindOf (P.zip vs) m x=some v
 | [],_,_,_,_,h,_,_=>by simp at h
 | _::_,[],_,_,_,_,h,_=>by simp at h
 | p::P,w::vs,0,m,nd,h1,h2,hk=>by simp at h1 h2;subst h1;subst h2;show bindL kindOf ((p,w)::P.zip vs) m p=_;unfold bindL;rw[rN λv hv=>(bQ.mp nd).1 (b9 hv).1,if_pos hk];simp
 | p::P,w::vs,i+1,m,nd,h1,h2,hk=>by show bindL kindOf ((p,w)::P.zip vs) m x=_;unfold bindL;exact rO (i:=i) (bQ.mp nd).2 (by simpa using h1) (by simpa using h2) hk
theorem rQ{kindOf:Str→Option NameKind}{x:Str}{v:Value}:∀{P:List Str}{vs:List Value}{i:Nat}{m:Str→Option Value},P.Nodup→P[i]?=some x→vs[i]?=some v→kindOf x≠some .local→
  bindC kindOf (P.zip vs) m x=some v
 | [],_,_,_,_,h,_,_=>by simp at h
 | _::_,[],_,_,_,_,h,_=>by simp at h
 | p::P,w::vs,0,m,nd,h1,h2,hk=>by simp at h1 h2;subst h1;subst h2;show bindC kindOf ((p,w)::P.zip vs) m p=_;unfold bindC;rw[rP λv hv=>(bQ.mp nd).1 (b9 hv).1,if_neg hk];simp
 | p::P,w::vs,i+1,m,nd,h1,h2,hk=>by show bindC kindOf ((p,w)::P.zip vs) m x=_;unfold bindC;exact rQ (i:=i) (bQ.mp nd).2 (by simpa using h1) (by simpa using h2) hk
def start(N:List Str)(vs:List V):St:=vs.map some++List.replicate (N.length-vs.length) none
def oo(CX:zj)(P:Program)(w:World)(K:aA)(mg:Str→Option Value)(base:Heap)(N:List Str)(qual:Str)(scope:Scope)(f:Addr)(cd:Value)(A:Around)(outer:List Env)(s:Shared)(H:Hp)(E:XK):Cx where
 prog:=P
 w:=w
 K:=K
 mg:=mg
 base:=base
 A:=A.deeper (envOfC qual scope s.heap.objs.size f cd)
 N:=N
 s₀:=s
 H₀:=H
 env:=envOfC qual scope s.heap.objs.size f cd
 outer:=outer
 stack:=envOfC qual scope s.heap.objs.size f cd::outer
 ex:=[]
 calm:=true
 fn:=λ_=>true
 pn:=[]
 xe:=λe s'=>wpAny (model P w) (A.deeper (envOfC qual scope s.heap.objs.size f cd)) (leaving (envOfC qual scope s.heap.objs.size f cd) e) (λ_ s''=>CX outer H s E e s'') (λe' s''=>CX outer H s E e' s'') s'
theorem uv{sc:Scope}{n:Nat}{x:Str}(h:sc.names.lookup x=some .cell):∃c,(cellsFrom n sc.names []).lookup x=some c:=by have q:=cr sc.names n [] (.inl h);exact cs.mp q
theorem kX{CX:zj}{P:Program}{w:World}{K:aA}{mg:Str→Option Value}{base:Heap}{N ps:List Str}{qual:Str}{scope:Scope}{f:Addr}{cd:Value}{A:Around}{outer:List Env}{s s1:Shared}{H:Hp}{E:XK}{us:List Value}{vs:List V}
  (S:nN N ps scope) (hd:A.handled=none) (e0:wa P w K mg base A outer s H) (hl:vs.length=ps.length) (r:fE vs us)
  (x:InCallC s s.heap.objs.size (bindL (envOfC qual scope s.heap.objs.size f cd).kindOf (ps.zip us) λ_=>none) (cellsFrom (s.heap.objs.size+1) scope.names []) (bindC (envOfC qual scope s.heap.objs.size f cd).kindOf (ps.zip us) λ_=>none) s1):
  eV (oo CX P w K mg base N qual scope f cd A outer s H E) [] (start N vs) H s1:=by
 have hpl:ps.length≤N.length:=by have:=congrArg List.length S.pre;rw[aj]at this;lia
 obtain⟨h1,tk,rfl,hk⟩:=x.done;have noA:∀b:Addr,b∉(oo CX P w K mg base N qual scope f cd A outer s H E).ex:=λb z=>absurd (show b∈([]:List Addr)from z) (by simp);refine⟨⟨e0.mod,S.kind,rfl,rfl,aC _,λy z c h1 h2=>?_,λy hy=>?_,λy c _ h=>?_,λ_=>hd,Around.frames_deeper e0.frames,.inr ⟨rfl,rfl⟩,λb z=>absurd z (noA b),e0.bs,e0.bsz,λb _ _=>noA b,λb z=>absurd z (noA b),e0.funs,e0.frf⟩,
  rfl,e0.bare,Un.kept hk,⟨_,x.toInCall.ns,λi y v h1 h2 h3=>?_⟩,λy c h=>⟨_,x.cell y c h⟩,e0.hok.fresh (aC _),λy c h=>?_,λp hp=>absurd (show p∈([]:List (Addr×Obj))from hp) (by simp),e0.hok.kept hk,?_⟩
 ·exact name_of_addr x.apart (bi h1) (bi h2)
 ·have hy:scope.names.lookup y=some .cell∨scope.names.lookup y=some .free:=hy;rcases hy with hy|hy
  ·exact uv hy
  ·exact absurd rfl (S.nofree _ (bi hy))
 ·exact bN (x.above y c (bi h))
 ·have hi:i<vs.length:=by
   unfold start at h2;by_cases hi:i<vs.length
   ·exact hi
   ·rw[bJ (by simpa using hi)]at h2;rw[cu]at h2;split at h2<;>cases h2
  have ha:vs[i]?=some v:=by
   unfold start at h2;rw[aw (by simpa using hi),ac]at h2;cases e:vs[i]? with
   | none=>rw[e]at h2;cases h2
   | some a=>rw[e]at h2;cases h2;rfl
  obtain⟨u,hu,rv⟩:=r.get ha;have hp:ps[i]?=some y:=by rw[←S.pre,cw (by lia)];exact h1
  have ndP:ps.Nodup:=by rw[←S.pre];exact S.nd.sublist (List.take_sublist _ _)
  refine⟨u,rv,?_⟩;rcases S.par y (aZ hp)with k|k
  ·exact .inl ⟨k,rO ndP hp hu k⟩
  ·obtain⟨c,e⟩:=uv (n:=s.heap.objs.size+1) k;refine .inr ⟨.inl k,c,e,?_⟩;have q:=x.cell y c e;rw[rQ ndP hp hu (by show scope.names.lookup y≠_;rw[k];decide)]at q;exact q
 ·exact e0.hok.fresh (bN (x.above y c (bi h)))
 ·unfold start;show _=N.length;rw[aD,aX,cN];lia
theorem Kc{CX:zj}{P:Program}{w:World}{K:aA}{mg:Str→Option Value}{base:Heap}{k:Nat}{f:Addr}{name qual:Str}{params:Arguments}{body:List Stmt}{scope:Scope}{dV kV doc pm cdv ct oc:Value}{an od:Option Addr}
  {osl:Array (Option Value)} {N ps:List Str} {sp:Sp} (lk:K.lookup f=some ⟨oc,od,.func (PySem.W.fnOf name qual params body scope dV kV doc pm an cdv ct),osl⟩) (hcd:PySem.W.codeIn K cdv qual=true) (S:nN N ps scope)
  (len:∀vs H Q E,sp vs H Q E→vs.length=ps.length)
  (hbody:∀(A:Around)(outer:List Env)(s:Shared)(H:Hp)(vs:List V)(Q:VK)(E:XK),ig k (A.deeper (envOfC qual scope s.heap.objs.size f cdv))→sp vs H Q E→
   ∃t,tS (oo CX P w K mg base N qual scope f cdv A outer s H E) body t∧t {nx:=λ_ H'=>Q .non H',rt:=Q} (start N vs) H):
  lY P w K mg base CX (k+1) f (PySem.W.fnOf name qual params body scope dV kV doc pm an cdv ct) ps sp:=by
 refine⟨len,λA outer s H args us vs Q E hr e0 hb r hsp=>?_⟩;have hl:=len _ _ _ _ hsp;have KX:K.In s.heap:=e0.mod.kin.keeps λb o e=>(e0.bs b o e).1;have lim:s.heap.NoLimit:=e0.mod.nolimit.keeps λb o e=>(e0.bs b o e).1;have hkind:∀y∈ps.zip us,scope.names.lookup y.1=some .local∨(scope.names.lookup y.1=some .cell∧((cellsFrom (s.heap.objs.size+1) scope.names []).lookup y.1).isSome=true):=λ⟨n,v⟩ hy=>by
  rcases S.par n (b9 hy).1 with q|q
  ·exact .inl q
  ·exact .inr ⟨q,cr _ _ _ (.inl q)⟩
 refine codeAny_call_function hr.depth (KX _ _ lk) rfl S.co S.gen rfl (PySem.W.codeRec_of KX hcd) (hb _ _ _ _ ?_);refine wpAny_newFunctionEnv_cells S.kind hkind λenv he s1 x=>?_;subst he;refine⟨lim.keeps x.toInCall.keep,codeAny_func ?_⟩;obtain⟨t,ht,hq⟩:=hbody A outer s H vs Q E (hr.deeper _) hsp;have I:eV (oo CX P w K mg base N qual scope f cdv A outer s H E) [] (start N vs) H s1:=kX S hr.hd e0 hl r x;refine wpAny_mono (ht [] s1 (start N vs) H _ I hq) (λfl s' hs=>?_) λe s' hs=>hs;have gf:∀{σ':St}{H':Hp}{v:V}{u:Value},eV (oo CX P w K mg base N qual scope f cdv A outer s H E) [] σ' H' s'→fS v u→Q v H'→CE outer P w H s Q u s':=
  λ{σ' H' v u} J rv q=>⟨v,H',J.os,J.bare,J.base,J.hok,rv,q⟩
 cases fl with
 | ret u=>obtain⟨v,σ',H',J,rv,q⟩:=hs;exact gf J rv q
 | next=>obtain⟨σ',H',J,q⟩:=hs;exact gf (v:=V.non) (u:=Value.none) J rfl q
 | brk=>obtain⟨_,_,_,q⟩:=hs;exact False.elim q
 | cont=>obtain⟨_,_,_,q⟩:=hs;exact False.elim q
section
variable {X:Cx}{x:Str}{p pos:Pos}{e:Expr}{es:List Expr}{t:TA}{id T:String}{r:List V→Hp→VK→Prop}
def gz(r:List V→Hp→VK→Prop)(t:TA):TE:=λσ H Q=>t σ H λvs H1=>r vs H1 Q
theorem eB(hc:ky X (.builtin id) r)(hg:Gl X x)(hm:X.mg x=none)(hv:bootBuiltins x=some (.builtin id))(ha:PA X (e::es) t)(hn:x≠"__name__":=by decide)(hdb:(x==("__debug__":Str))=false:=by decide)
  (he:starEach (e::es) X.env=(false,eval e X.env)::starEach es X.env:=by rfl) (hpl:(backTo pos (starEach es X.env)).any (·.1)=false:=by rfl):PE X (.Call (.Name x p) (e::es) [] pos) (gz r t):=by
 intro pins s σ H Q I h;refine wpAny_Call_Name_kw (kC I hg hm hv ?_ hn hdb);exact PyProof.Rows.callWith_builtin1 (thn (ha pos pins s σ H _ I h) λus s1 ⟨vs,H1,I1,r1,q1⟩=>hc pins s1 σ H1 vs us Q I1 r1 q1) he hpl
theorem gx(hc:ky X (.type T) r)(hg:Gl X x)(hm:X.mg x=none)(hv:bootBuiltins x=some (.type T))(ha:PA X (e::es) t)(hn:x≠"__name__":=by decide)(hdb:(x==("__debug__":Str))=false:=by decide)
  (he:starEach (e::es) X.env=(false,eval e X.env)::starEach es X.env:=by rfl) (hpl:(backTo pos (starEach es X.env)).any (·.1)=false:=by rfl):PE X (.Call (.Name x p) (e::es) [] pos) (gz r t):=by
 intro pins s σ H Q I h;refine wpAny_Call_Name_kw (kC I hg hm hv ?_ hn hdb);exact bO (thn (ha pos pins s σ H _ I h) λus s1 ⟨vs,H1,I1,r1,q1⟩=>hc pins s1 σ H1 vs us Q I1 r1 q1) he hpl
end
end L2
namespace HT
open PySem PyProof.Rows
section
open PySem.SeqAt
open PySem.AutoSeq1 (wpAny_loadPart')
open PySem.MeetsSeq PySem.MeetsSeq2 PySem.MeetsSeq3
end
section
variable {prog:Program}{w:World}{A:Around}{E:Value→Shared→Prop}{s:Shared}
theorem LE(ht:IsTup s.heap t vs.toArray)(hb:IsTup s.heap b ws.toArray)(hv:vs≠[])
  (h1:ws=[]→Q (.ref t) s) (h2:ws≠[]→Q (.ref s.heap.objs.size) {s with heap:=s.heap.push {cls:=.type "tuple",data:=.seq (vs++ws).toArray}})
  (hsz:vs.length+ws.length≤sizeLine):wpAny (model prog w) A (binaryOp .Add (.ref t) (.ref b)) Q E s:=by
 obtain⟨⟨cls,dd,data,sl⟩,ho,hc,n,hd⟩:=id ht;obtain⟨⟨cls2,dd2,data2,sl2⟩,ho2,hc2,n2,hd2⟩:=id hb;simp only at hc hd hc2 hd2;subst hc hd hc2 hd2;have e:vs.toArray++ws.toArray=(vs++ws).toArray:=by simp
 by_cases hw:ws=[]
 ·exact concat_meets ⟨_,ho,rfl⟩ ⟨_,ho2,rfl⟩ noFill_tuple_add seq_tuple_add cO cP (cQ _ _)
   (tuple_addW1 t b vs.toArray ws.toArray n n2 dd dd2 sl sl2 (by simpa using hv) (by simp[hw])) ⟨ho,ho2,h1 hw⟩
 ·refine concat_meets ⟨_,ho,rfl⟩ ⟨_,ho2,rfl⟩ noFill_tuple_add seq_tuple_add cO cP (cQ _ _)
   (tuple_addW2 t b vs.toArray ws.toArray n n2 dd dd2 sl sl2 (by simpa using hv) (by simpa using hw) (by rw[aP,aP];exact hsz)) ⟨ho,ho2,?_⟩
  rw[e];exact h2 hw
def kL(n d:Nat):Option Int→Nat
 | none=>d
 | some v=>if v<0 then(v+(n:Int)).toNat else min v.toNat n
theorem Jd(n d:Nat):kL n d none=d:=rfl
theorem K5(n d k:Nat):kL n d (some (k:Int))=min k n:=by show(if(k:Int)<0 then((k:Int)+(n:Int)).toNat else min (k:Int).toNat n)=min k n;rw[if_neg (by lia),bj]
theorem HX(n d:Nat)(hd:d≤n)(o:Option Int):kL n d o≤n:=by
 cases o with
 | none=>exact hd
 | some v=>
  show(if v<0 then(v+(n:Int)).toNat else min v.toNat n)≤n;by_cases hv:v<0
  ·rw[if_pos hv];lia
  ·rw[if_neg hv];exact Nat.min_le_right _ _
theorem yD(v:Int)(n d:Nat):(if v<0 then max (v+(n:Int)) 0 else min v (n:Int))=((kL n d (some v):Nat):Int):=by
 show(if v<0 then max (v+(n:Int)) 0 else min v (n:Int))=(((if v<0 then(v+(n:Int)).toNat else min v.toNat n):Nat):Int);by_cases hv:v<0
 ·simp only[if_pos hv];lia
 ·simp only[if_neg hv];lia
theorem wU(lo hi:Option Int)(n:Nat):Builtin.Slice.sliceAdjust lo hi 1 (n:Int)=(((kL n 0 lo:Nat):Int),((kL n n hi:Nat):Int)):=by
 have h1:¬((1:Int)<0):=by lia
 unfold Builtin.Slice.sliceAdjust;simp only[h1,if_false];refine Prod.ext ?_ ?_
 ·cases lo with
  | none=>rfl
  | some v=>exact yD v n 0
 ·cases hi with
  | none=>rfl
  | some v=>exact yD v n n
theorem vm(i j:Nat):Builtin.Slice.slicePlaces (i:Int) (j:Int) 1=j-i:=by
 unfold Builtin.Slice.slicePlaces;have h1:(1:Int)>0:=by lia
 simp only[h1,if_true,Int.ediv_one];split<;>lia
theorem qH(p:IsPart v o)(h:Q o s):wpAny (model prog w) A (Builtin.Slice.slicePartIndex v) Q E s:=by
 cases p with
 | none=>exact slicePart_none h
 | int i t=>exact slicePart_int h
theorem kK{sl:Addr}{vl vu:Value}{lo hi:Option Int}{n:Nat}{Q:Int×Int×Nat→Shared→Prop}(hs:s.heap.IsSliceOf sl vl vu .none)(pl:IsPart vl lo)(pu:IsPart vu hi)
  (h:Q (((kL n 0 lo:Nat):Int),1,kL n n hi-kL n 0 lo) s):wpAny (model prog w) A (Builtin.Slice.sliceApplied (.ref sl) (pure (n:Int))) Q E s:=by
 obtain⟨os,hos,hcs,hds⟩:=id hs;unfold Builtin.Slice.sliceApplied Builtin.Slice.sliceFields;refine wpAny_bind (wpAny_bind (wpAny_field hos hds (x:=vl) rfl (wpAny_bind (wpAny_field hos hds (x:=vu) rfl (wpAny_bind (wpAny_field hos hds (x:=.none) rfl (wpAny_pure ?_)))))));refine wpAny_bind (slicePart_none ?_);show wpAny _ _ (if((1:Int)==0)=true then _ else _) _ _ s;rw[if_neg (by decide)];refine wpAny_bind (qH pl (wpAny_bind (qH pu (wpAny_bind (wpAny_pure ?_)))));show wpAny _ _ (match Builtin.Slice.sliceAdjust lo hi 1 (n:Int) with|(lo,hi)=>pure (lo,(1:Int),Builtin.Slice.slicePlaces lo hi 1)) _ _ s;rw[wU lo hi n];show wpAny _ _ (pure (((kL n 0 lo:Nat):Int),(1:Int),Builtin.Slice.slicePlaces ((kL n 0 lo:Nat):Int) ((kL n n hi:Nat):Int) 1)) _ _ s;rw[vm];exact wpAny_pure h
theorem BU(xs:Array Value)(i k:Nat):((List.range k).filterMap λ(m:Nat)=>xs[((i:Int)+(m:Int)*1).toNat]?).toArray=((xs.toList.drop i).take k).toArray:=by
 have e:(λ(m:Nat)=>xs[((i:Int)+(m:Int)*1).toNat]?)=λm=>xs[i+m]?:=by
  funext m;have:((i:Int)+(m:Int)*1).toNat=i+m:=by lia
  rw[this]
 rw[e];have:=pick_run xs i k;rw[List.filterMap_map]at this;have e2:((λx=>xs[x]?)∘λx=>i+x)=λm=>xs[i+m]?:=rfl;rw[e2]at this;rw[this]
theorem xu{t sl:Addr}{eJ:Array Value}{vl vu:Value}{lo hi:Option Int}{Q:Value→Shared→Prop}(ht:IsTup s.heap t eJ)(hs:s.heap.IsSliceOf sl vl vu .none)(pl:IsPart vl lo)(pu:IsPart vu hi)
  (hw:¬(kL eJ.size 0 lo=0∧kL eJ.size eJ.size hi=eJ.size))
  (h:Q (.ref s.heap.objs.size) {s with heap:=s.heap.push {cls:=.type "tuple",data:=.seq ((eJ.toList.drop (kL eJ.size 0 lo)).take (kL eJ.size eJ.size hi-kL eJ.size 0 lo)).toArray}})
  (hsz:eJ.size≤sizeLine):wpAny (model prog w) A (getItem (.ref t) (.ref sl)) Q E s:=by
 have htake:sizeOk (.seq ((eJ.toList.drop (kL eJ.size 0 lo)).take (kL eJ.size eJ.size hi-kL eJ.size 0 lo)).toArray):=by show((eJ.toList.drop (kL eJ.size 0 lo)).take (kL eJ.size eJ.size hi-kL eJ.size 0 lo)).toArray.size≤sizeLine;rw[aP,aj,ah,bh];lia
 have hj:kL eJ.size eJ.size hi≤eJ.size:=HX _ _ (aC _) hi;obtain⟨os,hos,hcs,hds⟩:=id hs;have hTs:s.TypeIs (.ref sl) "slice":=⟨os,hos,hcs⟩;unfold getItem
 try with_reducible refine wpAny_holding ?_
 first|refine wpAny_bind (wpAny_pure ?_)|skip
 refine wpAny_bind (wpAny_sequenceKey ht.typeIs (by decide) ?_);refine wpAny_bind (wpAny_callSpecial?_slot (name:=Str.ofString "__getitem__") ht.typeIs bX
  (wpAny_call_entry bX ht.typeIs entry_tuple_getitem ?_ (args_tuple_getitem _ _)))
 show wpAny _ _ (Builtin.Tuple.tupleItemsOf (.ref t) >>= _) _ _ s;refine wpAny_bind (tupleItemsOf_ ht ?_);refine wpAny_bind (wpAny_typeOf hTs ?_);rw[if_pos (by decide)];refine wpAny_bind (kK hs pl pu ?_);have hno:¬((((kL eJ.size 0 lo:Nat):Int)==0&&(1:Int)==1&&(kL eJ.size eJ.size hi-kL eJ.size 0 lo)==eJ.size)=true):=by intro q;rw[bY,bY]at q;have q1:((kL eJ.size 0 lo:Nat):Int)=0:=eq_of_beq q.1.1;have q2:kL eJ.size eJ.size hi-kL eJ.size 0 lo=eJ.size:=eq_of_beq q.2;exact hw ⟨by lia,by lia⟩
 show wpAny _ _ (if(((kL eJ.size 0 lo:Nat):Int)==0&&(1:Int)==1&&(kL eJ.size eJ.size hi-kL eJ.size 0 lo)==eJ.size)=true then _ else _) _ _ s;rw[if_neg hno,BU]
 first
  | exact wpAny_bind (m:=Builtin.Tuple.tupleExact _) (wpAny_newObj_type (wpAny_pure ⟨_,rfl,wpAny_pure h⟩) htake)
  | exact wpAny_bind (m:=Builtin.Tuple.tupleExact _) (wpAny_newObj_type (wpAny_bind (wpAny_pure (wpAny_pure ⟨_,rfl,wpAny_pure h⟩))) htake)
  | exact wpAny_bind (wpAny_bind (m:=Builtin.Tuple.tupleExact _) (wpAny_newObj_type (wpAny_pure (wpAny_pure ⟨_,rfl,wpAny_pure h⟩)) htake))
  | exact wpAny_bind (wpAny_bind (m:=Builtin.Tuple.tupleExact _) (wpAny_newObj_type (wpAny_pure ⟨_,rfl,wpAny_pure h⟩) htake))
end
end HT
namespace L2
open PySem PySem.Spec PyProof.Rows
abbrev TO:=St→Hp→(Option Int→Hp→Prop)→Prop
def PO(X:Cx)(e:Option Expr)(t:TO):Prop:=
 ∀(pins:List (Addr×Obj))(s:Shared)(σ:St)(H:Hp)(Q:Option Int→Hp→Prop),eV X pins σ H s→t σ H Q→
  wpAny (model X.prog X.w) X.A (evalPart e X.env) (λu s'=>∃o H',eV X pins σ H' s'∧IsPart u o∧Q o H') X.xe s
def fi:TO:=λ_ H Q=>Q none H
def ft(t:TE):TO:=λσ H Q=>t σ H λx H1=>onI x λi=>Q (some i) H1
section
variable {X:Cx}{e:Expr}{te:TE}{lo hi:Option Expr}{tl th:TO}{pos p2:Pos}
theorem gj:PO X none fi:=by intro pins s σ H Q I h;rw[evalPart_none];exact wpAny_pure ⟨none,H,I,.none,h⟩
theorem fU(h:PE X e te):PO X (some e) (ft te):=by intro pins s σ H Q I hw;rw[evalPart_some];refine thn (h pins s σ H _ I hw) λu s1 ⟨x,H1,I1,r1,q1⟩=>?_;obtain⟨i,rfl,q⟩:=onI.ex q1;obtain⟨t,rfl⟩:=r1;exact⟨some i,H1,I1,.int i t,q⟩
def Cp(X:Cx)(r:V→Option Int→Option Int→Hp→VK→Prop):Prop:=
 ∀(pins:List (Addr×Obj))(s:Shared)(σ:St)(H:Hp)(x:V)(v vl vu:Value)(lo hi:Option Int)(sl:Addr)(Q:VK),eV X pins σ H s→fS x v→s.heap.IsSliceOf sl vl vu .none→IsPart vl lo→IsPart vu hi→r x lo hi H Q→
  ∃T id,typeLookup (.type T) "__getitem__"=pure (some (.builtin id))∧s.TypeIs v T∧wpAny (model X.prog X.w) X.A (getItem v (.ref sl)) (EP X pins σ Q) X.xe s
theorem Cp.or(h:Cp X r)(h':Cp X r'):Cp X (λx lo hi H Q=>r x lo hi H Q∨r' x lo hi H Q):=by
 intro pins s σ H x v vl vu lo hi sl Q I rx hs pl pu q;rcases q with q|q
 ·exact h pins s σ H x v vl vu lo hi sl Q I rx hs pl pu q
 ·exact h' pins s σ H x v vl vu lo hi sl Q I rx hs pl pu q
def mL(r:V→Option Int→Option Int→Hp→VK→Prop)(te:TE)(tl th:TO):TE:=λσ H Q=>te σ H λx H1=>tl σ H1 λl H2=>th σ H2 λu H3=>r x l u H3 Q
theorem fV(hr:Cp X r)(he:PE X e te)(hl:PO X lo tl)(hu:PO X hi th):PE X (.Subscript e (.Slice lo hi none p2) pos) (mL r te tl th):=by intro pins s σ H Q I h;refine Subscript_ (thn (he pins s σ H _ I h) λv s1 ⟨x,H1,I1,r1,q1⟩=>?_);refine wpAny_Slice (thn (hl pins s1 σ H1 _ I1 q1) λvl s2 ⟨l,H2,I2,pl,q2⟩=>thn (hu pins s2 σ H2 _ I2 q2) λvu s3 ⟨u,H3,I3,pu,q3⟩=>?_);rw[evalPart_none];refine wpAny_pure ?_;have I4:eV X pins σ H3 {s3 with heap:=s3.heap.push {cls:=.type "slice",data:=.fields #[vl,vu,.none]}}:=I3.kept (t':=s3.toks) λb ob q=>Heap.get?_push_of_some _ q;obtain⟨T,id,hT,ht,hg⟩:=hr pins {s3 with heap:=s3.heap.push {cls:=.type "slice",data:=.fields #[vl,vu,.none]}} σ H3 x v vl vu l u s3.heap.objs.size Q I4 r1 (Heap.IsSliceOf.new ..) pl pu q3;show wpAny (model X.prog X.w) X.A (subscriptTail e (.Slice lo hi none p2) v (.ref s3.heap.objs.size)) (EP X pins σ Q) X.xe {s3 with heap:=s3.heap.push {cls:=.type "slice",data:=.fields #[vl,vu,.none]}};exact tail_any (ops:=[.ref s3.heap.objs.size,v]) ht hT hg (by with_unfolding_all rfl)
def ie(xs:List V)(lo hi:Option Int):List V:=(xs.drop (HT.kL xs.length 0 lo)).take (HT.kL xs.length xs.length hi-HT.kL xs.length 0 lo)
theorem oZ(xs:List V)(lo hi:Option Int):(ie xs lo hi).length≤xs.length:=by unfold ie;rw[aj,ah];lia
def BM(K:aA):V→Option Int→Option Int→Hp→VK→Prop:=λx lo hi H Q=>onR x λa=>lZ (eA K H a) λxs=>
 ¬(HT.kL xs.length 0 lo=0∧HT.kL xs.length xs.length hi=xs.length)∧lA H (.tup (ie xs lo hi)) Q
theorem sE:Cp X (BM X.K):=by
 intro pins s σ H x v vl vu lo hi sl Q I rx hs pl pu h;obtain⟨a,rfl,h⟩:=onR.ex h;obtain @⟨xs,hx,hw,q⟩:=h;cases rx;obtain⟨its,r,ht,hz⟩:=I.tuple hx;have hlen:its.toArray.size=xs.length:=by rw[aP];exact r.length.symm
 refine⟨"tuple",_,bX.lookup,ht.typeIs,?_⟩;refine HT.xu ht hs pl pu (by rw[hlen];exact hw) ?_ (by rw[hlen];exact hz);rw[hlen];refine⟨.ref s.heap.objs.size,_,I.laid (t':=s.toks) (o:=.tup (ie xs lo hi)) (λb ob q=>Heap.get?_push_of_some _ q) (aC _) ?_,rfl,q _ (I.hok.fresh (aC _))⟩;exact⟨aY (oZ xs lo hi) hz,_,(r.drop (HT.kL xs.length 0 lo)).take (HT.kL xs.length xs.length hi-HT.kL xs.length 0 lo),IsTup.new _ _⟩
def Ji(K:aA):R2:=λx y H Q=>∃a b xs ys,x=.ref a∧y=.ref b∧eA K H a xs∧eA K H b ys∧xs≠[]∧xs.length+ys.length≤sizeLine∧
 (ys=[]→Q (.ref a) H)∧(ys≠[]→lA H (.tup (xs++ys)) Q)
theorem fE.nil_iff(r:fE xs us):us=[]↔xs=[]:=by
 cases r with
 | nil=>simp
 | cons _ _=>simp
theorem EG:nJ X (binaryOp .Add) (Ji X.K):=by intro pins s σ H x y v u Q I rx ry h;obtain⟨a,b,xs,ys,rfl,rfl,ha,hb,hx,hz,q1,q2⟩:=h;cases rx;cases ry;obtain⟨its,r1,p1,_⟩:=I.tuple ha;obtain⟨its2,r2,p2,_⟩:=I.tuple hb;refine HT.LE p1 p2 (λz=>hx (r1.nil_iff.mp z)) (λz=>⟨.ref a,H,I,rfl,q1 (r2.nil_iff.mp z)⟩) (λz=>?_) (by rw[←r1.length,←r2.length];exact hz);refine⟨.ref s.heap.objs.size,_,I.laid (t':=s.toks) (o:=.tup (xs++ys)) (λb ob q=>Heap.get?_push_of_some _ q) (aC _) ?_,rfl,q2 (λw=>z (r2.nil_iff.mpr w)) _ (I.hok.fresh (aC _))⟩;exact⟨by rw[aD];exact hz,_,r1.append r2,IsTup.new _ _⟩
end
def Cj(n:Nat)(i:Int):Option Nat:=if 0≤i then(if i<n then some i.toNat else none)else if -(n:Int)≤i then some (i+n).toNat else none
def pS{α:Type}(xs:List α)(i:Int):Option α:=(Cj xs.length i).bind λj=>xs[j]?
theorem xp(h:Cj n i=some j):seqIndex? i n=some j∧j<n∧-(n:Int)≤i∧i<n:=by
 unfold Cj at h;by_cases h0:0≤i
 ·rw[if_pos h0]at h;by_cases h1:i<n
  ·rw[if_pos h1]at h;have e:i.toNat=j:=Option.some.inj h;exact⟨by rw[seqIndex_of h0 h1,e],by lia,by lia,h1⟩
  ·rw[if_neg h1]at h;cases h
 ·rw[if_neg h0]at h;by_cases h1 : -(n:Int)≤i
  ·rw[if_pos h1]at h;have e:(i+n).toNat=j:=Option.some.inj h;exact⟨by rw[seqIndex_neg (by lia) h1,e],by lia,h1,by lia⟩
  ·rw[if_neg h1]at h;cases h
theorem tN(h:pS xs i=some v):∃j,seqIndex? i xs.length=some j∧xs[j]?=some v∧j<xs.length∧-(xs.length:Int)≤i∧i<xs.length:=by
 unfold pS at h;cases e:Cj xs.length i with
 | none=>rw[e]at h;cases h
 | some j=>rw[e]at h;obtain⟨h1,h2,h3,h4⟩:=xp e;exact⟨j,h1,h,h2,h3,h4⟩
theorem dS{α:Type}{xs:List α}{j:Nat}{v:α}(h:xs[j]?=some v):pS xs (j:Int)=some v:=by
 have hj:j<xs.length:=(aK.mp h).1;have e:Cj xs.length (j:Int)=some j:=by unfold Cj;rw[if_pos (by lia),if_pos (by lia)];simp
 unfold pS;rw[e];exact h
theorem CV(xs:List α)(v:α):pS (xs++[v]) (-1)=some v:=by
 have hl:(xs++[v]).length=xs.length+1:=by simp
 have e:Cj (xs++[v]).length (-1)=some xs.length:=by
  unfold Cj;rw[hl,if_neg (by decide),if_pos (by lia)]
  congr 1
  lia
 unfold pS;rw[e];show(xs++[v])[xs.length]?=some v;simp
def tR(b:Expr):Prop:=∀o i,subscripted b false o i=operate [o,i] (getItem o i)
def LO(X:Cx)(r:R2):Prop:=
 ∀(value slice:Expr)(pins:List (Addr×Obj))(s:Shared)(σ:St)(H:Hp)(x y:V)(v u:Value)(Q:VK),eV X pins σ H s→fS x v→fS y u→r x y H Q→
  subscripted slice false v u=operate [v,u] (getItem v u)→wpAny (model X.prog X.w) X.A (subscriptTail value slice v u) (EP X pins σ Q) X.xe s
def Nw(X:Cx)(id:String)(r:V→List V→Hp→VK→Prop):Prop:=
 ∀(pins:List (Addr×Obj))(s:Shared)(σ:St)(H:Hp)(x:V)(xs:List V)(v:Value)(us:List Value)(Q:VK),eV X pins σ H s→fS x v→fE xs us→r x xs H Q→
  wpAny (model X.prog X.w) X.A (call (.builtin id) (v::us)) (EP X pins σ Q) X.xe s
section
variable {X:Cx}{a b:Expr}{ta tb:TE}{pos:Pos}
theorem uT(hr:LO X r)(ha:PE X a ta)(hb:PE X b tb)(hs:tR b):PE X (.Subscript a b pos) (dz r ta tb):=by intro pins s σ H Q I h;exact Subscript_ (Ik ha hb I h λv u s2 x y H2 I2 rx ry q=>hr a b pins s2 σ H2 x y v u Q I2 rx ry q (hs _ _))
inductive Ix(S:List V→Prop)(i:Int)(k:V→Prop):Prop
 | mk{xs:List V}{v:V}(h:S xs)(e:pS xs i=some v)(q:k v):Ix S i k
def gL(K:aA):R2:=λx y H Q=>onR x λp=>onI y λi=>Ix (eG K H p) i λv=>Q v H
def eC(K:aA):R2:=λx y H Q=>onR x λp=>onI y λi=>Ix (eA K H p) i λv=>Q v H
theorem FM{S:Addr→List V→Prop}{x y:V}{k:V→Prop}(h:onR x λp=>onI y λi=>Ix (S p) i k):∃p xs i v,x=.ref p∧y=.int i∧S p xs∧pS xs i=some v∧k v:=by obtain⟨p,rfl,h1⟩:=onR.ex h;obtain⟨i,rfl,h2⟩:=onI.ex h1;obtain⟨h3,e,q⟩:=h2;exact⟨p,_,i,_,rfl,rfl,h3,e,q⟩
def D0:R2:=λx y H Q=>∃z i c,x=.str z∧y=.int i∧z.length≤sizeLine∧pS z.cps.toList i=some c∧Q (.str ⟨#[c]⟩) H
theorem EV:LO X (gL X.K):=by
 intro value slice pins s σ H x y v u Q I rx ry h hs;obtain⟨p,xs,i,z,rfl,rfl,hq,he,q⟩:=FM h;cases rx;obtain⟨t,rfl⟩:=ry;obtain⟨its,r,pl,hz⟩:=I.list hq;obtain⟨j,h1,h2,h3,h4,h5⟩:=tN he;obtain⟨w,ew,rw'⟩:=r.get h2;have hl:=r.length;have hn:=oA;have gf:EP X pins σ Q w s:=⟨z,H,I,rw',q⟩;by_cases h0:0≤i
 ·have hj:i.toNat=j:=by rw[seqIndex_of h0 h5]at h1;exact Option.some.inj h1
  exact item_listR pl.isList h0 (by lia) (by rw[hj];simpa using ew) gf hs
 ·have hj:(i+(its.toArray.size:Int)).toNat=j:=by rw[seqIndex_neg (by lia) h4]at h1;rw[aP,←hl];exact Option.some.inj h1
  exact subscriptTail_builtinR (x:=w) pl.isList.typeIs slot_list_getitem.lookup
   (wpAny_getItem_list_neg (Q:=λr s'=>r=w∧EP X pins σ Q r s') pl.isList (by lia) (by rw[aP]<;>lia) (by lia) (by rw[hj];simpa using ew) ⟨rfl,gf⟩) hs
theorem IQ:LO X (eC X.K):=by
 intro value slice pins s σ H x y v u Q I rx ry h hs;obtain⟨p,xs,i,z,rfl,rfl,hq,he,q⟩:=FM h;cases rx;obtain⟨t,rfl⟩:=ry;obtain⟨its,r,pl,hz⟩:=I.tuple hq;obtain⟨j,h1,h2,h3,h4,h5⟩:=tN he;obtain⟨w,ew,rw'⟩:=r.get h2;have hl:=r.length;have hn:=oA;have gf:EP X pins σ Q w s:=⟨z,H,I,rw',q⟩;exact subscriptTail_builtinR (x:=w) pl.typeIs slot_tuple_getitem.lookup
  (getItem_tuple (j:=j) (Q:=λr s'=>r=w∧EP X pins σ Q r s') pl (by lia) (by lia) (by rw[aP,←hl];exact h1) (by simpa using ew) ⟨rfl,gf⟩) hs
theorem wD:LO X D0:=by
 intro value slice pins s σ H x y v u Q I rx ry h hs;obtain⟨z,i,c,rfl,rfl,hz,he,q⟩:=h;obtain⟨t,rfl⟩:=rx;obtain⟨t',rfl⟩:=ry;obtain⟨j,h1,h2,h3,h4,h5⟩:=tN he;have hl:z.cps.toList.length=z.length:=by simp[Str.length]
 rw[hl]at h1 h4 h5;have hn:=oA;exact tail_any (typeIs_str s z t) slot_str_getitem.lookup (getItem_str (c:=c) (by
  have e1:decide (i < -(2^63:Int))=false:=decide_eq_false (by lia);have e2:decide (i≥2^63)=false:=decide_eq_false (by lia);rw[e1,e2,Bool.or_false]) (by rw[h1];simpa using h2) ⟨.str ⟨#[c]⟩,H,I.tok _,⟨_,rfl⟩,q⟩) hs
theorem vx(its:List Value)(n j:Nat)(u:Value):Obj.mapSeq (·.setIfInBounds j u) {cls:=.type "list",data:=.seq its.toArray n}={cls:=.type "list",data:=.seq (its.set j u).toArray n}:=by simp[Obj.mapSeq]
theorem eV.lst(I:eV X pins σ H s)(h:H p=some (.lst xs)):
  ∃(its:List Value)(n:Nat),fE xs its∧s.heap.get? p=some {cls:=.type "list",data:=.seq its.toArray n}∧xs.length≤sizeLine:=by
 obtain⟨z,its,n,r,e⟩:=I.hok p _ h;exact⟨its,n,r,e,z⟩
theorem eV.lstUpd{pins:List (Addr×Obj)}{σ:St}{H:Hp}{s:Shared}{p:Addr}{xs ys:List V}{its its':List Value}{n n':Nat}{f:Obj→Obj}(I:eV X pins σ H s)(h:H p=some (.lst xs))
  (ho:s.heap.get? p=some {cls:=.type "list",data:=.seq its.toArray n}) (hf:f {cls:=.type "list",data:=.seq its.toArray n}={cls:=.type "list",data:=.seq its'.toArray n'}) (r:fE ys its') (hz:ys.length≤sizeLine) (t:Nat):
  eV X pins σ (upd H p (.lst ys)) {s with heap:=s.heap.update p f,toks:=t}:=by
 have e:(s.heap.update p f).get? p=some {cls:=.type "list",data:=.seq its'.toArray n'}:=by rw[Heap.get?_update_self f ho (by rw[hf]<;>rfl),hf]
 refine I.write (x:=p) (e:=p) (by rw[h];trivial) (.inl rfl) (λb u hb q=>(Heap.get?_update_other _ _ (ai hb)).trans q) ⟨_,e⟩ ?_;exact⟨hz,its',n',r,e⟩
def BN:V→V→V→Hp→(Hp→Prop)→Prop:=λo i v H Q=>onR o λp=>onI i λk=>lZ (λxs=>H p=some (.lst xs)) λxs=>lZ (λj=>Cj xs.length k=some j) λj=>Q (upd H p (.lst (xs.set j v)))
theorem uM:Kr X BN:=by
 intro pins s σ H o i v ov iv u Q I ro ri rv h;obtain⟨p,rfl,h⟩:=onR.ex h;obtain⟨k,rfl,h⟩:=onI.ex h;obtain @⟨xs,hp,h⟩:=h;obtain @⟨j,hj,q⟩:=h;cases ro;obtain⟨t,rfl⟩:=ri;obtain⟨its,n,r,ho,hz⟩:=I.lst hp;obtain⟨h1,h2,h3,h4⟩:=xp hj;have hl:=r.length;have hn:=oA;have I':eV X pins σ (upd H p (.lst (xs.set j v))) {s with heap:=s.heap.update p (Obj.mapSeq (·.setIfInBounds j u))}:=
  I.lstUpd hp ho (vx its n j u) (r.set rv j) (by rw[List.length_set];exact hz) s.toks
 by_cases h0:0≤k
 ·have hk:k.toNat=j:=by rw[seqIndex_of h0 h4]at h1;exact Option.some.inj h1
  exact PySem.W.ki_setAt ho h0 (by lia) (by rw[aP,←hl];exact h4) (by rw[hk];exact⟨_,I',q⟩)
 ·have hk:(k+(its.toArray.size:Int)).toNat=j:=by rw[seqIndex_neg (by lia) h3]at h1;rw[aP,←hl];exact Option.some.inj h1
  exact PySem.W.ki_setBack ho (by lia) (by rw[aP,←hl];exact h3) (by lia) (by rw[hk];exact⟨_,I',q⟩)
theorem sD(lo hi:Option Int)(n:Nat):(sliceBounds lo hi none n).1=((HT.kL n 0 lo:Nat):Int)∧(sliceBounds lo hi none n).2.1=((HT.kL n n hi:Nat):Int)∧(sliceBounds lo hi none n).2.2=1:=by
 refine⟨?_,?_,rfl⟩
 ·cases lo with
  | none=>simp[sliceBounds,HT.kL]
  | some i=>
   simp only[sliceBounds,HT.kL,Option.getD_none,show(1:Int)>0 by decide,if_true];by_cases h:i<0
   ·simp only[h,if_true]<;>lia
   ·simp only[h,if_false]<;>lia
 ·cases hi with
  | none=>simp[sliceBounds,HT.kL]
  | some i=>
   simp only[sliceBounds,HT.kL,Option.getD_none,show(1:Int)>0 by decide,if_true];by_cases h:i<0
   ·simp only[h,if_true]<;>lia
   ·simp only[h,if_false]<;>lia
theorem qi(its:List Value)(lo hi:Option Int):slicePick its.toArray lo hi none=((its.drop (HT.kL its.length 0 lo)).take (HT.kL its.length its.length hi-HT.kL its.length 0 lo)).toArray:=by obtain⟨h1,h2,h3⟩:=sD lo hi its.toArray.size;unfold slicePick;rw[h1,h2,h3];simp only[sliceRange_one,pick_run,aP]<;>rfl
def jE(K:aA):V→Option Int→Option Int→Hp→VK→Prop:=λx lo hi H Q=>onR x λa=>lZ (eG K H a) λxs=>lA H (.lst (ie xs lo hi)) Q
theorem gW:Cp X (jE X.K):=by intro pins s σ H x v vl vu lo hi sl Q I rx hs pl pu h;obtain⟨a,rfl,h⟩:=onR.ex h;obtain @⟨xs,hx,q⟩:=h;cases rx;obtain⟨its,r,ht,hz⟩:=I.list hx;have hlen:=r.length;refine⟨"list",_,slot_list_getitem.lookup,ht.isList.typeIs,?_⟩;refine wpAny_getItem_list_slice ht.isList hs pl pu .none (by simp) ?_ (by rw[aP]<;>lia);rw[qi,←hlen];refine⟨.ref s.heap.objs.size,_,I.laid (t':=s.toks) (o:=.lst (ie xs lo hi)) (λb ob q=>Heap.get?_push_of_some _ q) (aC _) ?_,rfl,q _ (I.hok.fresh (aC _))⟩;exact⟨aY (oZ xs lo hi) hz,_,0,(r.drop (HT.kL xs.length 0 lo)).take (HT.kL xs.length xs.length hi-HT.kL xs.length 0 lo),Heap.get?_push_size _ rfl⟩
def m9:V→Bool
 | .non=>true
 | .bl _=>true
 | .int _=>true
 | .str _=>true
 | _=>false
def Cm:V→V→Bool
 | .non,.non=>true
 | .bl a,.bl b=>a==b
 | .bl a,.int b=>(if a then 1 else 0)==b
 | .int a,.bl b=>a==(if b then 1 else 0)
 | .int a,.int b=>a==b
 | .str a,.str b=>a==b
 | _,_=>false
theorem Ib(ry:fS y u)(rx:fS x v)(fy:m9 y=true)(fx:m9 x=true):SeqAt.EqAt A s u v (Cm y x):=by
 cases y with
 | non=>
  cases ry;cases x with
  | non=>cases rx;exact SeqAt.EqAt.same _
  | bl b=>cases rx;exact SeqAt.EqAt.none_bool b
  | int b=>obtain⟨t,rfl⟩:=rx;exact SeqAt.EqAt.none_int b t
  | str b=>obtain⟨t,rfl⟩:=rx;exact SeqAt.EqAt.none_str b t
  | _=>exact absurd (show false=true from fx) aN
 | bl a=>
  cases ry;cases x with
  | non=>cases rx;exact SeqAt.EqAt.bool_none a
  | bl b=>cases rx;exact SeqAt.EqAt.bool_bool a b
  | int b=>obtain⟨t,rfl⟩:=rx;exact SeqAt.EqAt.bool_int a b t
  | str b=>obtain⟨t,rfl⟩:=rx;exact SeqAt.EqAt.bool_str a b t
  | _=>exact absurd (show false=true from fx) aN
 | int a=>
  obtain⟨t',rfl⟩:=ry;cases x with
  | non=>cases rx;exact SeqAt.EqAt.int_none a t'
  | bl b=>cases rx;exact SeqAt.EqAt.int_bool a t' b
  | int b=>obtain⟨t,rfl⟩:=rx;exact SeqAt.EqAt.int_int a t' b t
  | str b=>obtain⟨t,rfl⟩:=rx;exact SeqAt.EqAt.int_str a t' b t
  | _=>exact absurd (show false=true from fx) aN
 | str a=>
  obtain⟨t',rfl⟩:=ry;cases x with
  | non=>cases rx;exact SeqAt.EqAt.str_none a t'
  | bl b=>cases rx;exact SeqAt.EqAt.str_bool a t' b
  | int b=>obtain⟨t,rfl⟩:=rx;exact SeqAt.EqAt.str_int a t' b t
  | str b=>obtain⟨t,rfl⟩:=rx;exact SeqAt.EqAt.str_str a t' b t
  | _=>exact absurd (show false=true from fx) aN
 | _=>exact absurd (show false=true from fy) aN
def Ed(x:V)(u:Value):Bool:=match u with
 | .none=>Cm .non x
 | .bool b=>Cm (.bl b) x
 | .int i _=>Cm (.int i) x
 | .str z _=>Cm (.str z) x
 | _=>false
theorem CI(r:fS y u)(f:m9 y=true):Ed x u=Cm y x:=by
 cases y with
 | non=>cases r;rfl
 | bl b=>cases r;rfl
 | int i=>obtain⟨t,rfl⟩:=r;rfl
 | str z=>obtain⟨t,rfl⟩:=r;rfl
 | _=>exact absurd (show false=true from f) aN
theorem tO:∀{xs:List V}{us:List Value},fE xs us→xs.all m9=true→us.any (Ed x)=xs.any λy=>Cm y x
 | _,_,.nil,_=>rfl
 | y::xs,u::us,.cons r t,f=>by rw[List.all_cons,bY]at f;rw[bZ,bZ,CI r f.1,tO t f.2]
theorem qQ(rx:fS x v)(fx:m9 x=true):∀{xs:List V}{us:List Value},fE xs us→xs.all m9=true→∀u∈us,SeqAt.EqAt A s u v (Ed x u)
 | _,_,.nil,_=>λu hu=>by cases hu
 | y::xs,u::us,.cons r t,f=>λu' hu=>by
  rw[List.all_cons,bY]at f;rcases aB.mp hu with rfl|hu
  ·rw[CI r f.1];exact Ib r rx f.1 fx
  ·exact qQ rx fx t f.2 u' hu
def rD(x:V)(xs:List V):Bool:=xs.any λy=>Cm y x
def E9(K:aA)(neg:Bool):R2:=λx y H Q=>onR y λp=>lZ (λxs=>eG K H p xs∨eA K H p xs) λxs=>m9 x=true∧xs.all m9=true∧Q (.bl (if neg then !rD x xs else rD x xs)) H
theorem jG:nJ X (compareOp .In) (E9 X.K false):=by
 intro pins s σ H x y v u Q I rx ry h;obtain⟨p,rfl,h⟩:=onR.ex h;obtain @⟨xs,hq,fx,fs,q⟩:=h;cases ry;rcases hq with hq|hq
 ·obtain⟨its,r,pl,hz⟩:=I.list hq;refine SeqAt.in_listAt (Ed x) pl.isList (λw hw=>qQ rx fx r fs w (by simpa using hw)) ⟨.bl _,H,I,rfl,?_⟩;rw[show its.toArray.any (Ed x)=its.any (Ed x) by simp,tO r fs];exact q
 ·obtain⟨its,r,pl,hz⟩:=I.tuple hq;refine SeqAt.in_tupleAt (Ed x) pl (λw hw=>qQ rx fx r fs w (by simpa using hw)) ⟨.bl _,H,I,rfl,?_⟩;rw[show its.toArray.any (Ed x)=its.any (Ed x) by simp,tO r fs];exact q
def gN(K:aA):List V→Hp→VK→Prop:=λxs H Q=>on1 xs λx=>onR x λp=>lZ (λys=>eG K H p ys∨eA K H p ys) λys=>Q (.int ys.length) H
theorem dq:ky X (.builtin "len") (gN X.K):=by
 intro pins s σ H xs us Q I r h;obtain⟨_,rfl,h⟩:=on1.ex h;obtain⟨p,rfl,h⟩:=onR.ex h;obtain @⟨ys,hq,q⟩:=h;obtain⟨u,rfl,rx⟩:=lH r;cases rx;have hn:=oA;rcases hq with hq|hq
 ·obtain⟨its,r',pl,hz⟩:=I.list hq;have hlen:=r'.length;exact Calls.call_len_list pl.isList (by simp only[aP]<;>lia) ⟨.int ys.length,H,I.tok _,⟨s.toks+1,by rw[aP,hlen]⟩,q⟩
 ·obtain⟨its,r',pl,hz⟩:=I.tuple hq;have hlen:=r'.length;exact len_tuple pl (by simp only[aP]<;>lia) ⟨.int ys.length,H,I.tok _,⟨s.toks+1,by rw[aP,hlen]⟩,q⟩
theorem jb:ky X (.builtin "len") (λxs H Q=>∃z,xs=[.str z]∧z.length≤sizeLine∧Q (.int z.length) H):=by intro pins s σ H xs us Q I r h;obtain⟨z,rfl,hz,q⟩:=h;obtain⟨u,rfl,t,rfl⟩:=lH r;have hn:=oA;exact len_str (by lia) ⟨.int z.length,H,I.tok _,⟨_,rfl⟩,q⟩
def tJ(K:aA):List V→Hp→VK→Prop:=λxs H Q=>on1 xs λx=>onR x λp=>lZ (λys=>eG K H p ys∨eA K H p ys) λys=>lA H (.lst ys) Q
theorem nB:ky X (.type "list") (tJ X.K):=by
 intro pins s σ H xs us Q I r h;obtain⟨_,rfl,h⟩:=on1.ex h;obtain⟨p,rfl,h⟩:=onR.ex h;obtain @⟨ys,hq,q⟩:=h;obtain⟨u,rfl,rx⟩:=lH r;cases rx;have gf:∀(its:List Value),fE ys its→ys.length≤sizeLine→∀(h':Heap)(c':Nat),(∀b o',s.heap.get? b=some o'→h'.get? b=some o')→
   h'.get? s.heap.objs.size=some {cls:=.type "list",dict:=none,data:=.seq its.toArray c',slots:=#[]}→EP X pins σ Q (.ref s.heap.objs.size) {s with heap:=h'}:=λits r' hz h' c' kp e=>
  ⟨.ref s.heap.objs.size,_,I.laid (t':=s.toks) kp (aC _) (show gU X.prog X.w _ h' _ (.lst ys)from⟨hz,its,c',r',e⟩),rfl,q _ (I.hok.fresh (aC _))⟩
 rcases hq with hq|hq
 ·obtain⟨its,r',pl,hz⟩:=I.list hq;have hlen:=r'.length;obtain⟨o,ho,hc,n,hd⟩:=pl.isList;exact call_list_seq p (.inl rfl) ho hc hd (λh' c' kp e=>gf its r' hz h' c' kp e) (by simp only[aP]<;>lia)
 ·obtain⟨its,r',pl,hz⟩:=I.tuple hq;have hlen:=r'.length;obtain⟨o,ho,hc,n,hd⟩:=pl;exact call_list_seq p (.inr rfl) ho hc hd (λh' c' kp e=>gf its r' hz h' c' kp e) (by simp only[aP]<;>lia)
theorem kF:ky X (.type "tuple") (λxs H Q=>∃p ys,xs=[.ref p]∧((eG X.K H p ys∧∀l,H l=none→Q (.ref l) (upd H l (.tup ys)))∨(eA X.K H p ys∧Q (.ref p) H))):=by
 intro pins s σ H xs us Q I r h;obtain⟨p,ys,rfl,h⟩:=h;obtain⟨u,rfl,rx⟩:=lH r;cases rx;rcases h with⟨hq,q⟩|⟨hq,q⟩
 ·obtain⟨its,r',pl,hz⟩:=I.list hq;have hlen:=r'.length;refine call_tuple_list pl.isList (λh' kp=>?_) (by simp only[aP]<;>lia);have I1:eV X pins σ H {s with heap:=h'}:=I.kept (t':=s.toks) kp;have I2:eV X pins σ (upd H h'.objs.size (.tup ys)) {s with heap:=h'.push {cls:=.type "tuple",data:=.seq its.toArray}}:=
   I1.laid (t':=s.toks) (λb o e=>Heap.get?_push_of_some _ e) (aC _) (show gU X.prog X.w _ _ _ (.tup ys)from⟨hz,its,r',IsTup.new _ _⟩)
  exact⟨.ref h'.objs.size,_,I2,rfl,q _ (I1.hok.fresh (aC _))⟩
 ·obtain⟨its,r',pl,hz⟩:=I.tuple hq;exact call_tuple_same pl ⟨.ref p,H,I,rfl,q⟩
def LR(K:aA)(T:String)(x:V)(H:Hp):Prop:=match x with
 | .str _=>T="str"
 | .int _=>T="int"
 | .ref p=>(T="list"∧∃xs,eG K H p xs)∨(T="tuple"∧∃o,K.lookup p=some o∧o.cls=.type "tuple"∧o.dict=none)∨
   (T="dict"∧((∃kvs,H p=some (.dK kvs))∨∃kvs,H p=some (.dT kvs)))∨(T="set"∧∃S n,H p=some (.set S n))
 | _=>False
theorem AB(I:eV X pins σ H s)(r:fS x v)(ty:LR X.K T x H):
  s.TypeIs v T∧∀a,v=.ref a→∃ob,s.heap.get? a=some ob∧ob.dict=none:=by
 cases x with
 | str z=>obtain⟨t,rfl⟩:=r;cases(show T="str" from ty);exact⟨typeIs_str s z t,λ_ e=>nomatch e⟩
 | int i=>obtain⟨t,rfl⟩:=r;cases(show T="int" from ty);exact⟨typeIs_int s i t,λ_ e=>nomatch e⟩
 | ref p=>
  cases r;rcases ty with⟨rfl,xs,hq⟩|⟨rfl,o,hk,hc,hd⟩|⟨rfl,hk⟩|⟨rfl,S,n,hk⟩
  ·obtain⟨its,_,pl,_⟩:=I.list hq;refine⟨pl.isList.typeIs,λa e=>?_⟩;cases e;obtain⟨o,n,e,c,hd,_⟩:=pl;exact⟨o,e,hd⟩
  ·refine⟨⟨o,I.kIn p o hk,hc⟩,λa e=>?_⟩;cases e;exact⟨o,I.kIn _ o hk,hd⟩
  ·have z:∃o,s.heap.get? p=some o∧o.ExactDict:=by
    rcases hk with⟨kvs,hk⟩|⟨kvs,hk⟩
    ·obtain⟨_,_,_,_,o,_,_,e,ex,_⟩:=I.hok p _ hk;exact⟨o,e,ex⟩
    ·obtain⟨_,_,_,_,o,_,_,e,ex,_⟩:=I.hok p _ hk;exact⟨o,e,ex⟩
   obtain⟨o,e,ex⟩:=z;refine⟨⟨o,e,ex.1⟩,λa e2=>?_⟩;cases e2;exact⟨o,e,ex.2.1⟩
  ·obtain⟨o,_,_,_,e,ex,_⟩:=I.hok p _ hk;refine⟨⟨o,e,ex.1⟩,λa e2=>?_⟩;cases e2;exact⟨o,e,ex.2.1⟩
 | _=>exact False.elim ty
def mW(K:aA)(T:String)(r:V→List V→Hp→VK→Prop)(to:TE):TE:=λσ H Q=>to σ H λx H1=>LR K T x H1∧r x [] H1 Q
def jm(K:aA)(T:String)(r:V→List V→Hp→VK→Prop)(to:TE)(t:TA):TE:=λσ H Q=>to σ H λx H1=>LR K T x H1∧t σ H1 λxs H2=>r x xs H2 Q
variable {o e:Expr}{es:List Expr}{to:TE}{t:TA}{name:Str}{apos cpos:Pos}{T id:String}{r:V→List V→Hp→VK→Prop}
theorem jF(pa:PlainAttrs T)(slot:Slot T name id)(hty:typeOf (.builtin id)=pure (.type "method_descriptor"))(hm:Nw X id r)(ho:PE X o to)
  (hbase:attributeBase o name X.env (eval o X.env)=eval o X.env:=by rfl) (hline:(apos.endLine==cpos.line)=true:=by rfl):PE X (.Call (.Attribute o name apos) [] [] cpos) (mW X.K T r to):=by
 intro pins s σ H Q I h;refine wpAny_Call_method0_late hbase hline (thn (ho pins s σ H _ I h) λv s1 ⟨x,H1,I1,r1,ty,q1⟩=>?_);obtain⟨h1,h2⟩:=AB I1 r1 ty;exact⟨T,id,pa,slot,hty,h1,h2,Calls.callWith_builtin rfl (PySem.evalArgs_none (hm pins s1 σ H1 x [] v [] Q I1 r1 .nil q1))⟩
theorem gB(pa:PlainAttrs T)(slot:Slot T name id)(hty:typeOf (.builtin id)=pure (.type "method_descriptor"))(hm:Nw X id r)(ho:PE X o to)(ha:PA X (e::es) t)
  (hbase:attributeBase o name X.env (eval o X.env)=eval o X.env:=by rfl)
  (hfew:((backTo cpos (starEach (e::es) X.env)).all (λx=>!x.1)&&(backToKw cpos (keywordEach [] X.env)).all (λx=>x.1.isSome)
   && decide ((e::es).length+([]:List Keyword).length+(if([]:List Keyword).isEmpty then 0 else 1)<30))=true:=by rfl)
  (hline:(apos.endLine==cpos.line)=true:=by rfl) (hs:starEach (e::es) X.env=(false,eval e X.env)::starEach es X.env:=by rfl) (hplain:(backTo cpos (starEach es X.env)).any (·.1)=false:=by rfl):
  PE X (.Call (.Attribute o name apos) (e::es) [] cpos) (jm X.K T r to t):=by
 intro pins s σ H Q I h;refine wpAny_Call_method_late hbase hfew hline rfl (thn (ho pins s σ H _ I h) λv s1 ⟨x,H1,I1,r1,ty,q1⟩=>?_);obtain⟨h1,h2⟩:=AB I1 r1 ty;refine⟨T,id,pa,slot,hty,h1,h2,?_⟩;have hA:=ha cpos pins s1 σ H1 _ I1 q1;rw[hs]at hA⊢;refine Calls.callWith_builtin (by show(false||(backTo cpos (starEach es X.env)).any (·.1))=false;rw[hplain]<;>rfl) (Calls.evalArgs_plain ?_);exact thn hA λus s2 ⟨vs,H2,I2,r2,q2⟩=>hm pins s2 σ H2 x vs v us Q I2 r1 r2 q2
end
def LN(X:Cx)(id:String)(r:V→List V→Hp→VK→Prop):Prop:=
 ∀(pins:List (Addr×Obj))(s:Shared)(σ:St)(H:Hp)(x:V)(xs:List V)(v:Value)(us:List Value)(Q:VK),eV X pins σ H s→fS x v→fE xs us→r x xs H Q→
  wpAny (model X.prog X.w) X.A (call (.builtin id) (v::us)) (EP X pins σ Q) X.xe s
theorem fE.one:∀{x:V}{us:List Value},fE [x] us→∃u,us=[u]∧fS x u
 | _,_,.cons r .nil=>⟨_,rfl,r⟩
theorem fE.two:∀{x y:V}{us:List Value},fE [x,y] us→∃u v,us=[u,v]∧fS x u∧fS y v
 | _,_,_,.cons r (.cons q .nil)=>⟨_,_,rfl,r,q⟩
theorem fE.zero:∀{us:List Value},fE [] us→us=[]
 | _,.nil=>rfl
theorem fE.dropLast(h:fE xs us):fE xs.dropLast us.dropLast:=by
 induction h with
 | nil=>exact .nil
 | cons r t ih=>
  cases t with
  | nil=>exact .nil
  | cons q t'=>exact .cons r ih
theorem wJ(l:List α):l.eraseIdx (l.length-1)=l.dropLast:=by
 induction l with
 | nil=>rfl
 | cons a r ih=>
  cases r with
  | nil=>rfl
  | cons b r=>
   have e:(a::b::r).length-1=((b::r).length-1)+1:=by have h1:(a::b::r).length=r.length+2:=rfl;have h2:(b::r).length=r.length+1:=rfl;lia
   rw[e,List.eraseIdx_cons_succ,ih]
   all_goals rfl
section
variable {X:Cx}{pins:List (Addr×Obj)}{σ:St}{H:Hp}{s:Shared}{l b:Addr}{xs ys zs:List V}
theorem eV.lset{its its':List Value}{n:Nat}{f:Array Value→Array Value}{t':Nat}(I:eV X pins σ H s)(hH:H l=some (.lst xs))
  (e:s.heap.get? l=some {cls:=.type "list",data:=.seq its.toArray n}) (hf:f its.toArray=its'.toArray) (hv:fE ys its') (hz:ys.length≤sizeLine):
  eV X pins σ (upd H l (.lst ys)) {s with heap:=s.heap.update l (Obj.mapSeq f),toks:=t'}:=by
 have q:=PySem.IsL.update e f;rw[hf]at q;refine I.write (x:=l) (e:=l) (by rw[hH];exact trivial) (.inl rfl) (λb' u hb hu=>(Heap.get?_update_other s.heap (Obj.mapSeq f) (ai hb)).trans hu) ⟨_,q⟩ ?_;exact⟨hz,its',_,hv,q⟩
theorem eV.lnew(I:eV X pins σ H s)(hv:fE ys its)(hz:ys.length≤sizeLine):
  eV X pins σ (upd H s.heap.objs.size (.lst ys)) {s with heap:=s.heap.push {cls:=.type "list",data:=.seq its.toArray},toks:=t'}:=
 I.laid (λ_ _ q=>Heap.get?_push_of_some _ q) (aC _) ⟨hz,its,0,hv,Heap.get?_push_size _ rfl⟩
theorem eV.fresh(I:eV X pins σ H s):H s.heap.objs.size=none:=I.hok.fresh (aC _)
theorem eV.lstM(I:eV X pins σ H s)(hH:H l=some (.lst xs)):xs.length≤sizeLine∧∃(its:List Value)(n:Nat),fE xs its∧xs.length=its.length∧s.heap.get? l=some {cls:=.type "list",data:=.seq its.toArray n}:=by obtain⟨z,its,n,r,e⟩:=I.hok l _ hH;exact⟨z,its,n,r,r.length,e⟩
theorem uX(h:n≤sizeLine):Builtin.List.listTooLong n=false:=by unfold Builtin.List.listTooLong;exact decide_eq_false (by lia)
end
section
variable {X:Cx}
def eY:V→List V→Hp→VK→Prop:=λx vs H Q=>onR x λl=>on1 vs λy=>lZ (λxs=>H l=some (.lst xs)) λxs=>xs.length<sizeLine∧Q .non (upd H l (.lst (xs++[y])))
theorem eT:LN X "list.append" eY:=by intro pins s σ H x vs v us Q I rx rv h;obtain⟨l,rfl,h⟩:=onR.ex h;obtain⟨y,rfl,h⟩:=on1.ex h;obtain @⟨xs,hH,hz,q⟩:=h;cases rx;obtain⟨u,rfl,ru⟩:=rv.one;obtain⟨z,its,n,r,hl,e⟩:=I.lstM hH;refine call_meets F.slot_list_append ⟨_,e,rfl⟩ F.entry_list_append (F.args_list_append_2 _ _) (PySem.list_append l its.toArray n u (by rw[aP];lia)) ⟨e,?_⟩;refine⟨.non,_,I.lset (its':=its++[u]) hH e (by simp) (r.append (.cons ru .nil)) ?_,rfl,q⟩;rw[aD,bA];lia
def mh:V→List V→Hp→VK→Prop:=λx vs H Q=>∃l b xs zs,x=.ref l∧vs=[.ref b]∧H l=some (.lst xs)∧H b=some (.lst zs)∧xs.length+zs.length≤sizeLine∧Q .non (upd H l (.lst (xs++zs)))
theorem nq:LN X "list.extend" mh:=by
 intro pins s σ H x vs v us Q I rx rv h;obtain⟨l,b,xs,zs,rfl,rfl,hH,hB,hz,q⟩:=h;cases rx;obtain⟨u,rfl,ru⟩:=rv.one;cases ru;obtain⟨z,its,n,r,hl,e⟩:=I.lstM hH;obtain⟨z2,its2,n2,r2,hl2,e2⟩:=I.lstM hB;have hsz:its.toArray.size+its2.toArray.size≤sizeLine:=by rw[aP,aP];lia
 have hlong:¬(!its.toArray.isEmpty&&Builtin.List.listTooLong (its.toArray.size+its2.toArray.size))=true:=by rw[uX hsz,Bool.and_false];exact aN
 refine call_meets F.slot_list_extend ⟨_,e,rfl⟩ F.entry_list_extend (F.args_list_extend_2 _ _)
  (AutoSeq1.list_extend_list_list_0 l its.toArray n b its2.toArray n2 hlong (by rw[aP];lia) (by lia)) ⟨e,e2,?_⟩
 refine⟨.non,_,I.lset (its':=its++its2) hH e (by simp) (r.append r2) ?_,rfl,q⟩;rw[aD];lia
def mf:V→List V→Hp→VK→Prop:=λx vs H Q=>onR x λl=>on0 vs (lZ (λxs=>H l=some (.lst xs)) λxs=>lZ (λy=>xs[xs.length-1]?=some y) λy=>Q y (upd H l (.lst xs.dropLast)))
theorem jH:LN X "list.pop" mf:=by
 intro pins s σ H x vs v us Q I rx rv h;obtain⟨l,rfl,h⟩:=onR.ex h;obtain⟨rfl,h⟩:=on0.ex h;obtain @⟨xs,hH,h⟩:=h;obtain @⟨y,hy,q⟩:=h;cases rx;have hus:=rv.zero;subst hus;obtain⟨z,its,n,r,hl,e⟩:=I.lstM hH;obtain⟨u,hu,ru⟩:=r.get hy;have hy':its.toArray[its.toArray.size-1]?=some u:=by show its.toArray[its.length-1]?=some u;rw[←cR,←hl];exact hu
 refine call_meets F.slot_list_pop ⟨_,e,rfl⟩ F.entry_list_pop (F.args_list_pop_1 _) (MeetsSeq.list_pop_last l its.toArray n u hy' (by rw[aP];lia)) ⟨e,?_⟩;refine⟨y,_,I.lset (its':=its.dropLast) hH e ?_ r.dropLast ?_,ru,q⟩
 ·show its.toArray.eraseIdxIfInBounds (its.toArray.size-1)=its.dropLast.toArray;rw[aP,List.eraseIdxIfInBounds_toArray,wJ]
 ·rw[List.length_dropLast];lia
def lN:R2:=λx y H Q=>onR x λl=>onR y λb=>lZ (λxs=>H l=some (.lst xs)) λxs=>lZ (λzs=>H b=some (.lst zs)) λzs=>xs.length+zs.length≤sizeLine∧lA H (.lst (xs++zs)) Q
theorem jh:nJ X (binaryOp .Add) lN:=by
 intro pins s σ H x y v u Q I rx ry h;obtain⟨l,rfl,h⟩:=onR.ex h;obtain⟨b,rfl,h⟩:=onR.ex h;obtain @⟨xs,hH,h⟩:=h;obtain @⟨zs,hB,hz,q⟩:=h;cases rx;cases ry;obtain⟨z,its,n,r,hl,e⟩:=I.lstM hH;obtain⟨z2,its2,n2,r2,hl2,e2⟩:=I.lstM hB;refine PySem.P.add_list e e2 ?_ (by rw[aP,aP];lia);have ea:its.toArray++its2.toArray=(its++its2).toArray:=by simp
 rw[ea];exact⟨.ref _,_,I.lnew (t':=s.toks) (r.append r2) (by rw[aD];lia),rfl,q _ I.fresh⟩
end
section
variable {prog:Program}{w:World}{A:Around}{E:Value→Shared→Prop}{s:Shared}
end
section
variable {X:Cx}
end
section
variable {κ:Type}[DecidableEq κ]
def fP(kvs:List (κ×V))(k:κ):Option V:=(kvs.find? λkv=>decide (kv.1=k)).map (·.2)
def gA(kvs:List (κ×V))(k:κ)(v:V):List (κ×V):=
 if(kvs.any λkv=>decide (kv.1=k))=true then kvs.map (λkv=>if kv.1=k then(kv.1,v)else kv)else kvs++[(k,v)]
theorem zy:fP ([]:List (κ×V)) k=none:=rfl
theorem fu{p:κ×V}{r:List (κ×V)}{k:κ}(e:p.1=k):fP (p::r) k=some p.2:=by simp[fP,bb,e]
theorem fz{p:κ×V}{r:List (κ×V)}{k:κ}(e:¬p.1=k):fP (p::r) k=fP r k:=by simp[fP,bb,e]
theorem jQ(k:κ):∀kvs:List (κ×V),(kvs.any λkv=>decide (kv.1=k))=(fP kvs k).isSome
 | []=>rfl
 | p::r=>by
  rw[bZ];by_cases e:p.1=k
  ·simp only[fu e,decide_eq_true e,Bool.true_or,Option.isSome_some]
  ·rw[fz e,decide_eq_false e,Bool.false_or];exact jQ k r
theorem tz(k j:κ)(y:V):∀kvs:List (κ×V),fP (kvs.map λkv=>if kv.1=k then(kv.1,y)else kv) j=(fP kvs j).map λx=>if j=k then y else x
 | []=>rfl
 | p::r=>by
  have ih:=tz k j y r;rw[aW];by_cases h:p.1=k
  ·rw[if_pos h];by_cases e:p.1=j
   ·rw[fu (p:=(p.1,y)) e,fu e,bc,if_pos (e.symm.trans h)]
   ·rw[fz (p:=(p.1,y)) e,fz e,ih]
  ·rw[if_neg h];by_cases e:p.1=j
   ·rw[fu (p:=p) e,fu e,bc,if_neg (λz=>h (e.trans z))]
   ·rw[fz (p:=p) e,fz e,ih]
theorem qo(k j:κ)(y:V):∀kvs:List (κ×V),fP kvs k=none→fP (kvs++[(k,y)]) j=if j=k then some y else fP kvs j
 | [],_=>by
  by_cases e:k=j
  ·rw[if_pos e.symm];exact fu (p:=(k,y)) e
  ·rw[if_neg (λz=>e z.symm)];exact fz (p:=(k,y)) e
 | p::r,hn=>by
  rw[aL];have hk:¬p.1=k:=λz=>by rw[fu z]at hn;cases hn
  rw[fz hk]at hn;have ih:=qo k j y r hn;by_cases e:p.1=j
  ·rw[fu e,fu e,if_neg (λz=>hk (e.trans z))]
  ·rw[fz e,fz e,ih]
theorem jd(kvs:List (κ×V))(k j:κ)(y:V):fP (gA kvs k y) j=if j=k then some y else fP kvs j:=by
 unfold gA;by_cases a:(kvs.any λkv=>decide (kv.1=k))=true
 ·rw[if_pos a,tz];rw[jQ]at a;by_cases e:j=k
  ·obtain⟨x,hx⟩:=cs.mp a;rw[if_pos e,e,hx,bc,if_pos rfl]
  ·rw[if_neg e];cases fP kvs j with
   | none=>rfl
   | some x=>rw[bc,if_neg e]
 ·rw[if_neg a];refine qo k j y kvs ?_;rw[jQ]at a;cases q:fP kvs k with
  | none=>rfl
  | some x=>rw[q]at a;exact(a rfl).elim
theorem hX(kvs:List (κ×V))(k:κ)(v:V):(gA kvs k v).length≤kvs.length+1:=by
 unfold gA;split
 ·rw[aX];lia
 ·rw[aD,aE,am];lia
theorem qO{kvs:List (κ×V)}{k:κ}(v:V)(h:fP kvs k=none):gA kvs k v=kvs++[(k,v)]:=by unfold gA;rw[jQ,h];exact if_neg (by decide)
theorem lE.isSome_eq(r:lE o u):o.isSome=u.isSome:=by
 cases o with
 | none=>cases u with
  | none=>rfl
  | some _=>exact(show False from r).elim
 | some _=>cases u with
  | none=>exact(show False from r).elim
  | some _=>rfl
theorem lE.getD(r:lE o u)(rd:fS d d'):fS (o.getD d) (u.getD d'):=by
 cases o with
 | none=>cases u with
  | none=>exact rd
  | some _=>exact(show False from r).elim
 | some _=>cases u with
  | none=>exact(show False from r).elim
  | some _=>exact r
theorem KV.val{kvs:List (κ×V)}{vs:List (κ×Value)}(r:KV kvs vs)(k:κ):lE (fP kvs k) (valueAt vs k):=by
 unfold KV at r;induction r with
 | nil=>exact aI
 | @cons p q ps qs h t ih=>
  obtain⟨h1,h2⟩:=h;by_cases e:p.1=k
  ·have e':q.1=k:=h1.symm.trans e;have b:valueAt (q::qs) k=some q.2:=by simp[valueAt,bb,e']
   rw[fu e,b];exact h2
  ·have e':¬q.1=k:=λz=>e (h1.trans z);have b:valueAt (q::qs) k=valueAt qs k:=by simp[valueAt,bb,e']
   rw[fz e,b];exact ih
theorem KV.any(r:KV kvs vs)(k:κ):(kvs.any λkv=>decide (kv.1=k))=vs.any λkv=>decide (kv.1=k):=by
 unfold KV at r;induction r with
 | nil=>rfl
 | cons h t ih=>rw[bZ,bZ,ih,h.1]
theorem KV.repl(r:KV kvs vs)(k:κ)(ry:fS y u):
  KV (kvs.map λkv=>if kv.1=k then(kv.1,y)else kv) (vs.map λkv=>if kv.1=k then(kv.1,u)else kv):=by
 unfold KV at r⊢;induction r with
 | nil=>exact .nil
 | @cons p q ps qs h t ih=>
  rw[aW,aW];refine .cons ?_ ih;obtain⟨h1,h2⟩:=h;by_cases e:p.1=k
  ·rw[if_pos e,if_pos (h1.symm.trans e)];exact⟨h1,ry⟩
  ·rw[if_neg e,if_neg (λz=>e (h1.trans z))];exact⟨h1,h2⟩
theorem KV.put(r:KV kvs vs)(k:κ)(ry:fS y u):KV (gA kvs k y) (stored vs k u):=by
 unfold gA stored;rw[r.any k];by_cases e:(vs.any λkv=>decide (kv.1=k))=true
 ·rw[if_pos e,if_pos e];exact r.repl k ry
 ·rw[if_neg e,if_neg e];exact Paired.snoc r ⟨rfl,ry⟩
theorem KV.keys{kvs:List (κ×V)}{vs:List (κ×Value)}(r:KV kvs vs):kvs.map (·.1)=vs.map (·.1):=by
 unfold KV at r;induction r with
 | nil=>rfl
 | cons h t ih=>rw[aW,aW,ih,h.1]
theorem KV.length(r:KV kvs vs):kvs.length=vs.length:=Paired.length r
end
theorem qT(r:fS (kV k) u):(gX P w).is k u=true:=by
 cases k with
 | inl i=>obtain⟨t,e⟩:=(show ∃t,u=Value.int i t from r);subst e;exact uc P w i t
 | inr x=>obtain⟨t,e⟩:=(show ∃t,u=Value.str x t from r);subst e;exact uZ P w x t
theorem rC:∀{ks:List fI}{us:List Value},fE (ks.map kV) us→ItemsAre (gX P w) ks us
 | [],_,r=>by rw[bU]at r;cases r;exact .nil
 | k::ks,_,r=>by
  rw[aW]at r;cases r with
  | cons h t=>exact .cons (qT h) (rC t)
abbrev KT(H:Hp):List (List fI×V)→List (List fI×Addr×Value)→Prop:=Paired λp q=>p.1=q.1∧H q.2.1=some (.tup (p.1.map kV))∧fS p.2 q.2.2
theorem KT.val{H:Hp}{kvs:List (List fI×V)}{xs:List (List fI×Addr×Value)}(r:KT H kvs xs)(k:List fI):lE (fP kvs k) ((atKey xs k).map (·.2)):=by
 induction r with
 | nil=>exact aI
 | @cons p q ps qs h t ih=>
  obtain⟨h1,_,h2⟩:=h;by_cases e:p.1=k
  ·have e':q.1=k:=h1.symm.trans e;have b:atKey (q::qs) k=some q.2:=by simp[atKey,bb,e']
   rw[fu e,b];exact h2
  ·have e':¬q.1=k:=λz=>e (h1.trans z);have b:atKey (q::qs) k=atKey qs k:=by simp[atKey,bb,e']
   rw[fz e,b];exact ih
theorem KT.repl(r:KT H kvs xs)(k:List fI)(ry:fS y u):
  KT H (kvs.map λkv=>if kv.1=k then(kv.1,y)else kv) (xs.map (putAt k u)):=by
 induction r with
 | nil=>exact .nil
 | @cons p q ps qs h t ih=>
  rw[aW,aW];refine .cons ?_ ih;obtain⟨h1,h2,h3⟩:=h;unfold putAt;by_cases e:p.1=k
  ·rw[if_pos e,if_pos (h1.symm.trans e)];exact⟨h1,h2,ry⟩
  ·rw[if_neg e,if_neg (λz=>e (h1.trans z))];exact⟨h1,h2,h3⟩
theorem KT.put(r:KT H kvs xs)(k:List fI)(hb:H b=some (.tup (k.map kV)))(ry:fS y u):
  KT H (gA kvs k y) (storedH xs k b u):=by
 have e:(kvs.any λkv=>decide (kv.1=k))=(atKey xs k).isSome:=by rw[jQ,(r.val k).isSome_eq,cS]
 unfold gA storedH;rw[e];by_cases q:(atKey xs k).isSome=true
 ·rw[if_pos q,if_pos q];exact r.repl k ry
 ·rw[if_neg q,if_neg q];exact Paired.snoc r ⟨rfl,hb,ry⟩
theorem KT.keeps(r:KT H kvs xs)(ht:∀b ys,H b=some (.tup ys)→H' b=some (.tup ys)):KT H' kvs xs:=
 Paired.mapP r λ_ _ z=>⟨z.1,ht _ _ z.2.1,z.2.2⟩
section
variable {P:Program}{w:World}{H:Hp}{h:Heap}{a:Addr}
theorem E6(ok:mU P w H h)(e:Rd H a u):gU P w H h a u:=e.ok ok
theorem nA(ok:mU P w H h)(e:Rd H a (.dK kvs)):kvs.length≤sizeLine∧(a==sysModules)=false∧∃vs,KV kvs vs∧h.DictOf (gX P w) a vs:=
 show gU P w H h a (.dK kvs)from E6 ok e
theorem FR(ok:mU P w H h)(e:H a=some (.dK kvs)):kvs.length≤sizeLine∧(a==sysModules)=false∧∃vs,KV kvs vs∧h.DictOf (gX P w) a vs:=nA ok (.inl e)
theorem oG(ok:mU P w H h)(e:H a=some (.tup (ks.map kV))):(tupleKind (gX P w)).is h ks a:=by obtain⟨_,its,r,o,h1,h2,n,h3⟩:=(show gU P w H h a (.tup (ks.map kV))from ok a _ e);exact⟨o,its.toArray,n,h1,h2,h3,by simpa using rC r⟩
theorem qX(ok:mU P w H h)(e:Rd H a (.dT kvs)):kvs.length≤sizeLine∧(a==sysModules)=false∧
  ∃xs,KT H kvs xs∧h.DictOfH (tupleKind (gX P w)) a xs:=by
 obtain⟨z,y,xs,r,o,es,ep,h1,h2,h3,h4,h5⟩:=(show gU P w H h a (.dT kvs)from E6 ok e);refine⟨z,y,xs,r,o,es,ep,h1,h2,h3,h4,λx hx=>?_,h5⟩;have all:∀{l:List (List fI×V)}{m:List (List fI×Addr×Value)},KT H l m→∀x∈m,(tupleKind (gX P w)).is h x.1 x.2.1:=by
  intro l m q;induction q with
  | nil=>intro x hx;exact nomatch hx
  | @cons p q ps qs hq t ih=>
   intro x hx;rcases aB.mp hx with e|hx
   ·subst e;exact oG ok (by rw[←hq.1];exact hq.2.1)
   ·exact ih x hx
 exact all r x hx
theorem Ke(ok:mU P w H h)(e:H a=some (.dT kvs)):kvs.length≤sizeLine∧(a==sysModules)=false∧
  ∃xs,KT H kvs xs∧h.DictOfH (tupleKind (gX P w)) a xs:=qX ok (.inl e)
end
def iQ(H:Hp)(a:Addr)(y:V)(r:Option V):Prop:=
 (∃kvs k,Rd H a (.dK kvs)∧y=kV k∧r=fP kvs k)∨∃kvs k b,Rd H a (.dT kvs)∧y=.ref b∧H b=some (.tup (k.map kV))∧r=fP kvs k
def nO(H:Hp)(a:Addr)(y v:V)(H':Hp):Prop:=
 (∃kvs k,H a=some (.dK kvs)∧y=kV k∧kvs.length<sizeLine∧H'=upd H a (.dK (gA kvs k v)))∨
 ∃kvs k b,H a=some (.dT kvs)∧y=.ref b∧H b=some (.tup (k.map kV))∧kvs.length<sizeLine∧H'=upd H a (.dT (gA kvs k v))
theorem iQ.k{H:Hp}{a:Addr}{kvs:List (fI×V)}{k:fI}(e:H a=some (.dK kvs)):iQ H a (kV k) (fP kvs k):=.inl ⟨kvs,k,.inl e,rfl,rfl⟩
theorem nO.k{H:Hp}{a:Addr}{kvs:List (fI×V)}{k:fI}{v:V}(e:H a=some (.dK kvs))(hl:kvs.length<sizeLine):nO H a (kV k) v (upd H a (.dK (gA kvs k v))):=.inl ⟨kvs,k,e,rfl,hl,rfl⟩
section
variable {X:Cx}{pins:List (Addr×Obj)}{σ:St}{H:Hp}{s:Shared}{a:Addr}{y v:V}{u r:Value}{o:Option V}{A:Around}{E:Value→Shared→Prop}
theorem eV.big(I:eV X pins σ H s):sysModules<s.heap.objs.size:=by have h:mainGlobals<s.heap.objs.size:=(I.mod.glob.keeps I.bk).lt;exact cT (by decide) h
theorem zX(hu:A.units+1<cLine)(I:eV X pins σ H s)(g:iQ H a y (some v))(ry:fS y u)(h:∀w' s',eV X pins σ H s'→fS v w'→Q w' s'):
  wpAny (model X.prog X.w) A (getItem (.ref a) u) Q E s:=by
 rcases g with⟨kvs,k,e,ey,l⟩|⟨kvs,k,b,e,ey,eb,l⟩
 ·subst ey;obtain⟨z,hd,vs,rel,dd⟩:=nA I.hok e;obtain⟨w',hw,rw'⟩:=lE.some_of (v:=v) (o:=valueAt vs k) (by rw[l];exact rel.val k);exact wpAny_getItem_of (qT ry) dd.mapOf hw (h w' _ (I.tok _) rw')
 ·subst ey;cases(show u=Value.ref b from ry);obtain⟨z,hd,xs,rel,dd⟩:=qX I.hok e;obtain⟨w',hw,rw'⟩:=lE.some_of (v:=v) (o:=(atKey xs k).map (·.2)) (by rw[l];exact rel.val k);obtain⟨p,hp,hp2⟩:=Option.map_eq_some_iff.mp hw;refine wpAny_getItem_heap (tupleKind_room_in1 hu) (oG I.hok eb) dd hp ?_;rw[hp2];exact h w' _ (I.tok _) rw'
theorem Mh(hu:A.units+1<cLine)(I:eV X pins σ H s)(g:iQ H a y o)(ry:fS y u)(h:∀s',eV X pins σ H s'→Q (.bool o.isSome) s'):
  wpAny (model X.prog X.w) A (compareOp .In u (.ref a)) Q E s:=by
 rcases g with⟨kvs,k,e,ey,l⟩|⟨kvs,k,b,e,ey,eb,l⟩
 ·subst ey;obtain⟨z,hd,vs,rel,dd⟩:=nA I.hok e;refine wpAny_in_of (qT ry) hd dd.mapOf ?_;rw[←(rel.val k).isSome_eq,←l];exact h _ (I.tok _)
 ·subst ey;cases(show u=Value.ref b from ry);obtain⟨z,hd,xs,rel,dd⟩:=qX I.hok e;refine wpAny_in_heap (tupleKind_room_in1 hu) (oG I.hok eb) hd dd ?_;have q:=(rel.val k).isSome_eq;rw[cS]at q;rw[←q,←l];exact h _ (I.tok _)
theorem Ee(hu:A.units+1<cLine)(I:eV X pins σ H s)(g:iQ H a y o)(ry:fS y u)(h:∀s',eV X pins σ H s'→Q (.bool (!o.isSome)) s'):
  wpAny (model X.prog X.w) A (compareOp .NotIn u (.ref a)) Q E s:=by
 rcases g with⟨kvs,k,e,ey,l⟩|⟨kvs,k,b,e,ey,eb,l⟩
 ·subst ey;obtain⟨z,hd,vs,rel,dd⟩:=nA I.hok e;refine wpAny_notIn_of (qT ry) hd dd.mapOf ?_;rw[←(rel.val k).isSome_eq,←l];exact h _ (I.tok _)
 ·subst ey;cases(show u=Value.ref b from ry);obtain⟨z,hd,xs,rel,dd⟩:=qX I.hok e;refine wpAny_notIn_heap (tupleKind_room_in1 hu) (oG I.hok eb) hd dd ?_;have q:=(rel.val k).isSome_eq;rw[cS]at q;rw[←q,←l];exact h _ (I.tok _)
theorem tD(I:eV X pins σ H s)(mu:Ku (H a))(hs:Heap.SameBut a s.heap h')(he:∃q,h'.get? a=some q)(new:gU X.prog X.w (upd H a ob) h' a ob):
  eV X pins σ (upd H a ob) {s with heap:=h',toks:=t'}:=
 I.write (x:=a) (e:=a) mu (.inl rfl) (λb q hb z=>(hs.2 b hb).trans z) he new
theorem wM(z:kvs.length≤sizeLine)(hd:(a==sysModules)=false)(rel:KV kvs vs)(dd:h'.DictOf (gX P w) a vs):
  gU P w H' h' a (.dK kvs):=⟨z,hd,vs,rel,dd⟩
theorem zW(hu:A.units+1<cLine)(I:eV X pins σ H s)(g:nO H a y v H')(ry:fS y u)(rv:fS v r)(h:∀s',eV X pins σ H' s'→Q () s'):
  wpAny (model X.prog X.w) A (setItem (.ref a) u r) Q E s:=by
 rcases g with⟨kvs,k,e,ey,l,eH⟩|⟨kvs,k,b,e,ey,eb,l,eH⟩
 ·subst ey eH;obtain⟨z,hd,vs,rel,dd⟩:=FR I.hok e;have hz:vs.length≤sizeLine:=by rw[←rel.length];exact z
  have hl:(gA kvs k v).length≤sizeLine:=by have:=hX kvs k v;lia
  refine wpAny_setItem_pairs (hsz:=hz) (qT ry) dd λh' dd' hs=>h _ ?_;have he:∃q,h'.get? a=some q:=let ⟨q,_,_,hq,_⟩:=dd';⟨q,hq⟩;exact tD I (by rw[e];exact aI) hs he (wM hl hd (rel.put k rv) dd')
 ·subst ey eH;cases(show u=Value.ref b from ry);obtain⟨z,hd,xs,rel,dd⟩:=Ke I.hok e;have hz:xs.length≤sizeLine:=by rw[←Paired.length rel];exact z
  have hl:(gA kvs k v).length≤sizeLine:=by have:=hX kvs k v;lia
  refine wpAny_setItem_heap (hsz:=hz) (tupleKind_room_in1 hu) (oG I.hok eb) dd λh' dd' hs=>h _ ?_;obtain⟨q,es,ep,hq,h2,h3,h4,_,h5⟩:=dd';refine tD I (by rw[e];exact aI) hs ⟨q,hq⟩ ⟨hl,hd,_,(rel.put k eb rv).keeps λc ys ec=>?_,q,es,ep,hq,h2,h3,h4,h5⟩;rw[db (fB ec e (λz=>nomatch z))];exact ec
end
section
variable {X:Cx}{pins:List (Addr×Obj)}{σ:St}{H:Hp}{s:Shared}{a:Addr}{kvs:List (fI×V)}{k:fI}{u:Value}{A:Around}{E:Value→Shared→Prop}
end
def Kt(i:Expr):Prop:=∀ov iv,subscripted i false ov iv=operate [ov,iv] (getItem ov iv)
theorem Dl{prog:Program}{w:World}{A:Around}{E:Value→Shared→Prop}{s:Shared}{env:Env}{value slice:Expr}{pos:Pos}{T id:String}{Q:Value→Shared→Prop}
  (hl:typeLookup (.type T) "__getitem__"=pure (some (.builtin id))) (hs:Kt slice)
  (h:wpAny (model prog w) A (eval value env) (λo s₁=>wpAny (model prog w) A (eval slice env) (λi s₂=>s₂.TypeIs o T∧wpAny (model prog w) A (getItem o i) Q E s₂) E s₁) E s):
  wpAny (model prog w) A (eval (.Subscript value slice pos) env) Q E s:=by
 refine Subscript_ (wpAny_mono h (λo s₁ h₁=>wpAny_mono h₁ (λi s₂ h₂=>?_) λ_ _ x=>x) λ_ _ x=>x);obtain⟨hT,h₂⟩:=h₂;unfold subscriptTail;refine wpAny_bind ?_;rw[getitemInPython_of_ne hT.not_modules];refine wpAny_bind (wpAny_specialOf hT hl ?_);have gf:wpAny (model prog w) A (subscripted slice false o i) (λr s₃=>wpAny (model prog w) A (letTemporaryGo value o r >>= λ_=>pure r) Q E s₃) E s₂:=by rw[hs o i];exact wpAny_operating (wpAny_mono h₂ (λr s₃ h₃=>wpAny_bind (wpAny_letTemporaryGo (wpAny_pure h₃))) λ_ _ x=>x)
 first
  | exact wpAny_pure (wpAny_bind gf)
  | exact wpAny_bind (wpAny_pure (wpAny_bind gf))
  | exact wpAny_bind gf
theorem ur(I:eV X pins σ H s)(g:iQ H a y o):s.TypeIs (.ref a) "dict":=by
 rcases g with⟨kvs,k,e,_,_⟩|⟨kvs,k,b,e,_,_,_⟩
 ·obtain⟨_,_,vs,_,dd⟩:=nA I.hok e;exact dd.typeIs
 ·obtain⟨_,_,xs,_,dd⟩:=qX I.hok e;exact dd.typeIs
def qp(td ty:TE):TE:=λσ H Q=>td σ H λx H1=>ty σ H1 λy H2=>onR x λa=>lZ (λv=>iQ H2 a y (some v)) λv=>Q v H2
def An(ty td:TE):TE:=λσ H Q=>ty σ H λy H1=>td σ H1 λx H2=>onR x λa=>lZ (λo=>iQ H2 a y o) λo=>Q (.bl o.isSome) H2
def pA(ty td:TE):TE:=λσ H Q=>ty σ H λy H1=>td σ H1 λx H2=>onR x λa=>lZ (λo=>iQ H2 a y o) λo=>Q (.bl (!o.isSome)) H2
def lJ(td ty tv:TE):TS:=λD σ H=>tv σ H λv H1=>td σ H1 λx H2=>ty σ H2 λy H3=>onR x λa=>lZ (λH4=>nO H3 a y v H4) λH4=>D.nx σ H4
section
variable {X:Cx}{o i e value:Expr}{pos pos' tpos:Pos}{td ty tv:TE}
theorem mv(hu:X.A.units+1<cLine)(ho:PE X o td)(hi:PE X i ty)(hs:Kt i):PE X (.Subscript o i pos) (qp td ty):=by intro pins s σ H Q I h;refine Dl PySem.F.slot_dict_getitem.lookup hs (thn (ho pins s σ H _ I h) λu s1 ⟨x,H1,I1,rx,q1⟩=>thn (hi pins s1 σ H1 _ I1 q1) λiv s2 ⟨y,H2,I2,ry,q2⟩=>?_);obtain⟨a,rfl,q2⟩:=onR.ex q2;obtain @⟨v,g,q2⟩:=q2;obtain rfl:u=Value.ref a:=rx;exact⟨ur I2 g,zX hu I2 g ry λw' s3 I3 rw'=>⟨v,H2,I3,rw',q2⟩⟩
theorem sP(hu:X.A.units+1<cLine)(hi:PE X i ty)(ho:PE X o td):PC X .In i o (An ty td):=by intro pins s σ H Q I h;refine thn (hi pins s σ H _ I h) λiv s1 ⟨y,H1,I1,ry,q1⟩=>thn (ho pins s1 σ H1 _ I1 q1) λu s2 ⟨x,H2,I2,rx,q2⟩=>?_;obtain⟨a,rfl,q2⟩:=onR.ex q2;obtain @⟨ov,g,q2⟩:=q2;obtain rfl:u=Value.ref a:=rx;exact Mh hu I2 g ry λs3 I3=>⟨.bl ov.isSome,H2,I3,rfl,q2⟩
theorem ni(hu:X.A.units+1<cLine)(hi:PE X i ty)(ho:PE X o td):PC X .NotIn i o (pA ty td):=by intro pins s σ H Q I h;refine thn (hi pins s σ H _ I h) λiv s1 ⟨y,H1,I1,ry,q1⟩=>thn (ho pins s1 σ H1 _ I1 q1) λu s2 ⟨x,H2,I2,rx,q2⟩=>?_;obtain⟨a,rfl,q2⟩:=onR.ex q2;obtain @⟨ov,g,q2⟩:=q2;obtain rfl:u=Value.ref a:=rx;exact Ee hu I2 g ry λs3 I3=>⟨.bl (!ov.isSome),H2,I3,rfl,q2⟩
theorem jL(hu:X.A.units+1<cLine)(ho:PE X o td)(hi:PE X i ty)(hv:PE X value tv)(hs:swapsWith value (some (.Subscript o i pos')) pos.line X.env=pure false):
  PS X (.Assign [.Subscript o i pos'] value pos) (lJ td ty tv):=by
 intro pins s σ H D I h;refine wpAny_Assign_Subscript (thn (hv pins s σ H _ I h) λr s1 ⟨v,H1,I1,rv,q1⟩=>thn (ho pins s1 σ H1 _ I1 q1) λu s2 ⟨x,H2,I2,rx,q2⟩=>thn (hi pins s2 σ H2 _ I2 q2) λiv s3 ⟨y,H3,I3,ry,q3⟩=>?_) hs;obtain⟨a,rfl,q3⟩:=onR.ex q3;obtain @⟨H4,g,q3⟩:=q3;obtain rfl:u=Value.ref a:=rx;exact zW hu I3 g ry rv λs4 I4=>⟨σ,H4,I4,q3⟩
end
theorem uq(h:Heap)(hb:sysModules<h.objs.size):gU P w H (h.push {cls:=.type "dict",data:=.dict #[]}) h.objs.size (.dK []):=
 ⟨aS _,beq_eq_false_iff_ne.mpr (ai (aM hb)),[],.nil,Heap.DictOf.new h⟩
def ir:TE:=λ_ H Q=>lA H (.dK []) Q
section
variable {X:Cx}{pos:Pos}
theorem iL:PE X (.Dict [] [] pos) ir:=λpins s σ H Q I h=>
 wpAny_Dict_empty ⟨.ref s.heap.objs.size,_,I.laid (a:=s.heap.objs.size) (o:=.dK []) (t':=s.toks) (λ_ _ q=>Heap.get?_push_of_some _ q) (aC _) (uq s.heap I.big),rfl,h _ (I.hok.fresh (aC _))⟩
end
def vP:List (TE×TE)→St→Hp→(List (V×V)→Hp→Prop)→Prop
 | [],_,H,Q=>Q [] H
 | (tk,tv)::r,σ,H,Q=>tk σ H λx H1=>tv σ H1 λy H2=>vP r σ H2 λps H3=>Q ((x,y)::ps) H3
abbrev VV:List (V×V)→List (Value×Value)→Prop:=Paired λp q=>fS p.1 q.1∧fS p.2 q.2
def LJ(X:Cx)(pos:Pos)(keys:List (Option Expr))(values:List Expr)(trs:List (TE×TE)):Prop:=
 ∀(pins:List (Addr×Obj))(s:Shared)(σ:St)(H:Hp)(Q:List (V×V)→Hp→Prop),eV X pins σ H s→vP trs σ H Q→
  wpAny (model X.prog X.w) X.A (evalPairs (pairTrees keys values X.env pos)) (λvs s'=>∃ps H',eV X pins σ H' s'∧VV ps vs∧Q ps H') X.xe s
theorem D4:LJ X pos [] [] []:=λpins s σ H Q I h=>pairTrees_nil_walk ⟨[],H,I,.nil,h⟩
theorem kO(hk:PE X k tk)(hv:PE X v tv)(hr:LJ X pos ks vs trs):
  LJ X pos (some k::ks) (v::vs) ((tk,tv)::trs):=λpins s σ H Q I h=>
 pairTrees_cons_walk (thn (hk pins s σ H _ I h) λu s1 ⟨x,H1,I1,rx,q1⟩=>thn (hv pins s1 σ H1 _ I1 q1) λw2 s2 ⟨y,H2,I2,ry,q2⟩=>
  thn (hr pins s2 σ H2 _ I2 q2) λws s3 ⟨ps,H3,I3,rel,q3⟩=>⟨(x,y)::ps,H3,I3,.cons ⟨rx,ry⟩ rel,q3⟩)
def eg(kvs more:List (fI×V)):List (fI×V):=more.foldl (λacc kv=>gA acc kv.1 kv.2) kvs
theorem KV.merge:∀{more:List (fI×V)}{rs:List (fI×Value)}{kvs:List (fI×V)}{vs:List (fI×Value)},KV more rs→KV kvs vs→KV (eg kvs more) (merged vs rs):=by
 intro more rs kvs vs r;unfold KV at r;induction r generalizing kvs vs with
 | nil=>intro q;exact q
 | @cons p q ps qs h t ih=>
  intro r0;have e:KV (gA kvs p.1 p.2) (stored vs q.1 q.2):=by have:=r0.put p.1 h.2;rw[←h.1];exact this
  exact ih e
theorem mF:∀(more kvs:List (fI×V)),(eg kvs more).length≤kvs.length+more.length
 | [],kvs=>by show kvs.length≤kvs.length+0;lia
 | p::r,kvs=>by have h1:=mF r (gA kvs p.1 p.2);have h2:=hX kvs p.1 p.2;show(eg (gA kvs p.1 p.2) r).length≤_;rw[aE];lia
theorem qY:∀{kvs:List (fI×V)}{ws:List (Value×Value)},VV (kvs.map λkv=>(kV kv.1,kv.2)) ws→∃rs,Carries (gX P w) ws rs∧KV kvs rs
 | [],_,r=>by rw[bU]at r;cases r;exact⟨[],aI,.nil⟩
 | p::kvs,_,r=>by
  rw[aW]at r;cases r with
  | @cons a b as bs h t=>obtain⟨rs,c,q⟩:=qY (P:=P) (w:=w) t;obtain⟨b1,b2⟩:=b;exact⟨(p.1,b2)::rs,⟨qT h.1,rfl,c⟩,.cons ⟨rfl,h.2⟩ q⟩
def Am(trs:List (TE×TE)):TE:=λσ H Q=>∀p,H p=none→vP trs σ (upd H p (.dK [])) λps H2=>H2 p=some (.dK [])∧∃kvs:List (fI×V),ps=kvs.map (λkv=>(kV kv.1,kv.2))∧kvs.length≤15∧Q (.ref p) (upd H2 p (.dK (eg [] kvs)))
theorem EA(h:LJ X pos keys values trs)(hall:keys.all (·.isSome)=true)(hl:keys.length=values.length)(h0:keys≠[])
  (h15:keys.length≤15):PE X (.Dict keys values pos) (Am trs):=by
 intro pins s σ H Q I q;have hn:=I.hok.fresh (aC s.heap.objs.size);have I1:=I.laid (a:=s.heap.objs.size) (o:=.dK []) (h':=s.heap.push {cls:=.type "dict",data:=.dict #[]}) (t':=s.toks) (λ_ _ q=>Heap.get?_push_of_some _ q) (aC _) (uq s.heap I.big);refine wpAny_Dict_walk (knd:=gX X.prog X.w) hall hl h0 h15 (thn (h pins _ σ _ _ I1 (q _ hn)) λws s2 ⟨ps,H2,I2,rel,e,kvs,ep,lk,q2⟩=>?_);subst ep;obtain⟨rs,c,rk⟩:=qY (P:=X.prog) (w:=X.w) rel;obtain⟨z,hd,vs0,r0,dd⟩:=FR I2.hok e;cases r0;refine⟨rs,c,dd,λh' dd' hs=>⟨.ref s.heap.objs.size,_,?_,rfl,q2⟩⟩;have hz:(eg [] kvs).length≤sizeLine:=by have h1:=mF kvs [];rw[am]at h1;rw[sizeLine_eq];lia
 have he:∃q,h'.get? s.heap.objs.size=some q:=let ⟨q,_,_,hq,_⟩:=dd';⟨q,hq⟩;exact tD I2 (by rw[e];exact aI) hs he (wM hz hd (rk.merge .nil) dd')
structure M2(X:Cx)(o:Expr)(m:Str)(apos:Pos)(e f:Expr)(cpos:Pos):Prop where
 base:attributeBase o m X.env (eval o X.env)=eval o X.env
 few:((backTo cpos (starEach [e,f] X.env)).all (λx=>!x.1)&&(backToKw cpos (keywordEach [] X.env)).all (λx=>x.1.isSome)
  && decide (([e,f]:List Expr).length+([]:List Keyword).length+(if([]:List Keyword).isEmpty then 0 else 1)<30))=true
 line:(apos.endLine==cpos.line)=true
 trees:backTo cpos (starEach [e,f] X.env)=[(false,eval e X.env),(false,eval f X.env)]
def N1(H:Hp)(a:Addr):Prop:=(∃kvs,Rd H a (.dK kvs))∨∃kvs,Rd H a (.dT kvs)
theorem IR(I:eV X pins σ H s)(d:N1 H a):
  s.TypeIs (.ref a) "dict"∧(∀b,Value.ref a=.ref b→∃ob,s.heap.get? b=some ob∧ob.dict=none)∧(a==sysModules)=false:=by
 rcases d with⟨kvs,e⟩|⟨kvs,e⟩
 ·obtain⟨_,hd,vs,_,dd⟩:=nA I.hok e;refine⟨dd.typeIs,λb q=>?_,hd⟩;cases q;obtain⟨ob,_,_,h1,h2,_⟩:=dd;exact⟨ob,h1,h2.2.1⟩
 ·obtain⟨_,hd,xs,_,dd⟩:=qX I.hok e;refine⟨dd.typeIs,λb q=>?_,hd⟩;cases q;obtain⟨ob,_,_,h1,h2,_⟩:=dd;exact⟨ob,h1,h2.2.1⟩
section
variable {X:Cx}{pins:List (Addr×Obj)}{σ:St}{H:Hp}{s:Shared}{a:Addr}{y d:V}{u r:Value}{o:Option V}{A:Around}{E:Value→Shared→Prop}
theorem Ie(hu:A.units+1<cLine)(I:eV X pins σ H s)(g:iQ H a y o)(ry:fS y u)(rd:fS d r)(h:∀w' s',eV X pins σ H s'→fS (o.getD d) w'→Q w' s'):
  wpAny (model X.prog X.w) A (call (.builtin "dict.get") [.ref a,u,r]) Q E s:=by
 rcases g with⟨kvs,k,e,ey,l⟩|⟨kvs,k,b,e,ey,eb,l⟩
 ·subst ey;obtain⟨z,hd,vs,rel,dd⟩:=nA I.hok e;refine call_meetsIn cU dd.typeIs cy (cz _ _ _) (meets_dict_get_default (gX X.prog X.w) a (qT ry) hd r) ⟨_,dd.mapOf,h _ _ (I.tok _) ?_⟩;rw[l];exact(rel.val k).getD rd
 ·subst ey;cases(show u=Value.ref b from ry);obtain⟨z,hd,xs,rel,dd⟩:=qX I.hok e;refine call_meetsIn cU dd.typeIs cy (cz _ _ _) (meetsH_dict_get_default (tupleKind (gX X.prog X.w)) a b hd r) ⟨tupleKind_room_in1 hu,k,xs,oG I.hok eb,dd,h _ _ (I.tok _) ?_⟩;rw[l];exact(rel.val k).getD rd
end
def pZ(td ty tx:TE):TE:=λσ H Q=>td σ H λx H1=>onR x λa=>N1 H1 a∧ty σ H1 λy H2=>tx σ H2 λz H3=>∃o,iQ H3 a y o∧Q (o.getD z) H3
section
variable {X:Cx}{o e f:Expr}{apos cpos:Pos}{td ty tx:TE}
theorem mt(hu:X.A.units+1<cLine)(ho:PE X o td)(he:PE X e ty)(hf:PE X f tx)(m:M2 X o "get" apos e f cpos):PE X (.Call (.Attribute o "get" apos) [e,f] [] cpos) (pZ td ty tx):=by
 intro pins s σ H Q I h;refine wpAny_Call_method m.base m.few m.line PySem.F.plainAttrs_dict cU PySem.F.type_dict_get (thn (ho pins s σ H _ I h) λu s1 ⟨x,H1,I1,rx,q1⟩=>?_);obtain⟨a,rfl,d,q1⟩:=onR.ex q1;obtain rfl:u=Value.ref a:=rx;obtain⟨t1,t2,_⟩:=IR I1 d;refine⟨t1,t2,?_⟩;rw[m.trees];refine Calls.callWith_builtin rfl (Calls.evalArgs_plain (Calls.spliced_cons (thn (he pins s1 σ H1 _ I1 q1) λiv s2 ⟨y,H2,I2,ry,q2⟩=>
  Calls.spliced_cons (thn (hf pins s2 σ H2 _ I2 q2) λfv s3 ⟨z,H3,I3,rz,ov,g,q3⟩=>Calls.spliced_nil ?_))))
 exact Ie hu I3 g ry rz λw' s4 I4 rw'=>⟨_,H3,I4,rw',q3⟩
end
section
variable {X:Cx}{pins:List (Addr×Obj)}{σ:St}{H:Hp}{s:Shared}{a:Addr}{kvs:List (fI×V)}{A:Around}{E:Value→Shared→Prop}
theorem CL(I:eV X pins σ H s)(e:Rd H a (.dK kvs))(h:∀p s',H p=none→eV X pins σ (upd H p (.dK kvs)) s'→Q (.ref p) s'):wpAny (model X.prog X.w) A (call (.type "dict") [.ref a]) Q E s:=by obtain⟨z,hd,vs,rel,dd⟩:=nA I.hok e;refine kt_call_dict hd dd (by rw[←rel.length];exact z) λh' dd' hs=>?_;refine h _ _ (I.hok.fresh (aC _)) (I.laid (a:=s.heap.objs.size) (o:=.dK kvs) (t':=s.toks) (λb q hq=>?_) (aC _) (wM z (beq_eq_false_iff_ne.mpr (ai (aM I.big))) rel dd'));exact(hs.2 b (aM (Heap.lt_size hq))).trans (Heap.get?_push_of_some _ hq)
end
section
variable {X:Cx}{pins:List (Addr×Obj)}{σ:St}{H:Hp}{s:Shared}{a:Addr}{y:V}{u:Value}{A:Around}{E:Value→Shared→Prop}
end
end L2
namespace Att
open PySem PySem.W PySem.Calls PyProof.Rows
theorem om:∀(ns:List Int)(vs:List Value),WellAll P h vs (ns.map WData.int)→IntsAre vs ns:=by
 intro ns;induction ns with
 | nil=>intro vs w;rw[bU]at w;cases w;exact .nil
 | cons n ns ih=>
  intro vs w;rw[aW]at w;cases w with
  | cons a b=>cases a;exact .cons _ _ (ih _ b)
theorem yj{l:OpenLaw}{n:Nat}(hn:l.most=some n){P:Params}{h:Heap}{args:List WData}{vals:List Value}
  (hpre:l.row.toRowW.claim.pre args=true) (hwl:WellAll P h vals args):
  ∃a vs ns,vals=[Value.ref a]∧args=[WData.list (ns.map WData.int)]∧h.get? a=some {cls:=.type "list",data:=.seq vs.toArray}∧IntsAre vs ns∧ns.length≤n:=by
 have hsh:WShape.hasAll [] args [.list .int]=true:=(pre_splitW hpre).1;have hc:l.pre.holds [] {args:=args}=true:=(pre_splitW hpre).2;obtain⟨d,r,rfl,h1,h2⟩:=hasAllW_cons hsh;obtain rfl:=hasAllW_nil h2;obtain⟨xs,rfl,h3⟩:=hasW_list h1;obtain⟨ns,rfl⟩:=items_int h3;have hlen:ns.length≤n:=by
  unfold OpenLaw.pre at hc;have h4:(WTm.not (.lt (.lit (.int (n:Int))) (.len (.arg 0)))).holds [] {args:=[.list (ns.map .int)]}=true:=by have h4:=(holds_andW hc).1;rw[hn]at h4;exact h4
  have h5:=condW_of h4 (w_not (w_lt w_lit (w_len_list (w_arg rfl))));rw[aX]at h5;refine Nat.le_of_not_lt λq=>?_;have q':(n:Int)<((ns.length:Nat):Int):=by lia
  first
   | (rw[decide_eq_true q']at h5;exact absurd h5 (by decide))
   | (simp at h5;lia)
 cases hwl with
 | cons w1 w2=>
  cases w2;cases w1 with
  | list ho hall=>exact⟨_,_,ns,rfl,rfl,ho,om ns _ hall,hlen⟩
theorem zA(l:OpenLaw)(args:List WData):l.row.toRowW.claim.post args (.bool true) args=true:=
 postW_of (r:=l.row.toRowW) (X:=(true==true))
  (show WShape.has [] (.bool true) .bool=true by first|rfl|decide|simp[WShape.has,WShape.arms,WShape.armsAll])
  (show(WTm.eq .res (.lit (.bool true))).value [] {args:=args,res:=some (.bool true),after:=args}=some (.bool (true==true))from w_eq_bool (w_res rfl) w_lit) rfl
theorem FS{l:OpenLaw}{n:Nat}{q:Program}{loose:List Str}{XP:(Str→Option Value)→Heap→Prop}{YP:World→Heap→Prop}{d:DefRec}
  (hn:l.most=some n) (hdf:d.params.defaults=[])
  (call:∀(w:World)(s₀ s₁:Shared)(mg mb:Str→Option Value)(fa:Addr)(o:Obj)(pm cd doc:Value)(a:Addr)(vs:List Value)(ns:List Int),
   Ground q loose [] XP w s₀ mg mb s₁.heap→YP w s₁.heap→
   s₁.heap.get? fa=some o→o.data=.func (docDef d.name d.params d.body d.scope pm cd doc)→s₁.heap.CodeRec cd d.name→mg d.name=some (.ref fa)→
   s₁.heap.get? a=some {cls:=.type "list",data:=.seq vs.toArray}→IntsAre vs ns→ns.length≤n→s₁.gens = #[]→
   codeAny (model l.prog w) callerA (.call (.ref fa) ⟨[.ref a],[]⟩) (λr s'=>r=.ok (.ret (.bool true))∧OldK s₁.heap s'.heap∧s'.os=s₁.os∧AllBare s'.gens) s₁):
  WalkO q loose XP YP l.row.toRowW d [] (λf vs=>PySem.call f vs):=by
 intro w s₀ s₁ mg mb G Y fa o pm cd doc dV kV ho hd hcd hD hmg hg args vals as hpre hlay hrd hwl hlo;obtain rfl:dV=.none:=Dflts.none hD hdf;obtain rfl:kV=.none:=Dflts.noKw hD;obtain⟨a,vs,ns,rfl,rfl,hobj,hints,hlen⟩:=yj hn hpre hwl;refine enter_call (codeAny_mono (call w s₀ s₁ mg mb fa o pm cd doc a vs ns G Y ho (fd_plain hd) hcd hmg hobj hints hlen hg) λr s' hq=>?_);obtain⟨rfl,h2,h3,h4⟩:=hq;exact⟨.inl ⟨.bool true,.bool true,[],rfl,λ_=>rfl,.bool true,zA l _,λ_=>⟨List.Pairwise.nil,λ_ hm=>(nomatch hm)⟩⟩,h2,h3,h4⟩
section
variable {prog:Program}{w:World}{A:Around}{E:Value→Shared→Prop}{s:Shared}{K:Frag}
end
end Att
namespace L2
open PySem PySem.Spec PyProof.Rows
theorem qm:∀{vs:List Value}{ns:List Int},IntsAre vs ns→fE (ns.map V.int) vs
 | _,_,.nil=>.nil
 | _,_,.cons n t h=>.cons ⟨t,rfl⟩ (qm h)
def Ir(H:Hp):Prop:=∀b,H b=none∨∃o xs,H b=some (.frz o (.lst xs))
theorem Bs{P:Program}{w:World}{K:aA}{mg mb:Str→Option Value}{CX:zj}{k:Nat}{fa a:Addr}{fd:FuncData}{x:Str}{sp:Sp}{s₁:Shared}{vs:List Value}{ns:List Int}
  (KX:K.In s₁.heap) (hns:s₁.heap.Ns mainGlobals mg) (hb:s₁.heap.Ns builtinsNs mb) (hbb:∀x:Str,x≠"__name__"→mb x=bootBuiltins x) (hlim:s₁.heap.NoLimit) (hg:s₁.gens = #[])
  (ha:s₁.heap.get? a=some {cls:=.type "list",data:=.seq vs.toArray}) (hi:IntsAre vs ns) (hl:ns.length≤sizeLine) (hr:ig k callerA)
  (F:∀base:Heap,K.In base→base.Ns mainGlobals mg→lY P w K mg base CX k fa fd [x] sp) (hbind:∀(s:Shared)(u:Value),BindsTo s fd ⟨[u],[]⟩ [(x,u)])
  (hsp:∀H:Hp,Ir H→eG K H a (ns.map V.int)→sp [.ref a] H (λv _=>v=.bl true) λ_ _ _=>False)
  (hCX:∀H e s',CX [] H s₁ (λ_ _ _=>False) e s'→False):
  codeAny (model P w) callerA (.call (.ref fa) ⟨[.ref a],[]⟩) (λr s'=>r=.ok (.ret (.bool true))∧OldK s₁.heap s'.heap∧s'.os=s₁.os∧AllBare s'.gens) s₁:=by
 have rv:=qm hi;have lenV:=hi.length;have core:∀H:Hp,Ir H→eG K H a (ns.map V.int)→mU P w H s₁.heap→(∀b,H b≠none→b=a)→(H a≠none→K.lookup a=none)→
   codeAny (model P w) callerA (.call (.ref fa) ⟨[.ref a],[]⟩) (λr s'=>r=.ok (.ret (.bool true))∧OldK s₁.heap s'.heap∧s'.os=s₁.os∧AllBare s'.gens) s₁:=by
  intro H hO hS hok hA hK;have base_of:∀{b:Addr}{o:Obj},s₁.heap.get? b=some o→H b=none→(sj s₁.heap H).get? b=some o:=λe n=>B8 e n;have noA:∀{b:Addr}{o:Obj}{es:Array DictEntry}{ep:Nat},s₁.heap.get? b=some o→o.data=.dict es ep→H b=none:=λ{b o es ep} e d=>by
   cases q:H b with
   | none=>rfl
   | some u=>have e':b=a:=hA b (by rw[q];simp);subst e';rw[ha]at e;cases e;have d':Data.seq vs.toArray _=Data.dict es ep:=d;cases d'
  have nsK:∀{b:Addr}{m:Str→Option Value},s₁.heap.Ns b m→(sj s₁.heap H).Ns b m:=λ{b m} ⟨o,es,ep,e,d,r⟩=>⟨o,es,ep,base_of e (noA e d),d,r⟩;have hKb:K.In (sj s₁.heap H):=λb o e=>base_of (KX b o e) (by
   cases q:H b with
   | none=>rfl
   | some u=>
    have e':b=a:=hA b (by rw[q];simp);subst e';rw[hK (by rw[q];simp)]at e;cases e)
  have hM:Mod K mg (sj s₁.heap H):=⟨hKb,nsK hns,⟨mb,nsK hb,hbb⟩,let ⟨mc,h1,h2⟩:=hlim;⟨mc,nsK h1,h2⟩⟩;have e0:wa P w K mg (sj s₁.heap H) callerA [] s₁ H:=⟨rfl,hM,λb o e=>EQ e,Nat.le_of_eq (zP _ _),trivial,λb hb=>absurd (show b∈([]:List Addr)from hb) (by simp),hok,.of_eq hg⟩;refine codeAny_mono ((F _ hKb (nsK hns)).run callerA [] s₁ H ⟨[.ref a],[]⟩ [.ref a] [.ref a] _ _ hr e0 (hbind s₁ (.ref a)) (.cons rfl .nil) (hsp H hO hS)) λr s' h=>?_;cases r with
  | error e=>exact(hCX H e s' h).elim
  | ok fl=>
   cases fl with
   | next=>exact False.elim h
   | brk=>exact False.elim h
   | cont=>exact False.elim h
   | ret u=>
    obtain⟨v,H',os,bare,un,hok',r',q⟩:=h;have q':v=.bl true:=q;subst q';obtain rfl:u=Value.bool true:=r';refine⟨rfl,OldK.of_keep λb o e=>?_,os,bare⟩;cases q:H b with
    | none=>exact un.keep b o e q (by intro z;exact absurd (show b∈([]:List Addr)from z) (by simp)) (by simp)
    | some u=>
     rcases hO b with z|⟨ob,xs,z⟩
     ·rw[q]at z;cases z
     ·have z2:=un.frzs b ob _ z;obtain⟨e1,_⟩:=hok b _ z;obtain⟨e2,_⟩:=hok' b _ z2;rw[e]at e1;cases e1;exact e2
 cases hk:K.lookup a with
 | some o=>have e:=KX a o hk;rw[ha]at e;cases e;refine core (λ_=>none) (λ_=>.inl rfl) (.inr ⟨_,vs.toArray,_,hk,rfl,rfl,rfl,by rw[aP,lenV];exact hl,by simpa using rv⟩) (λb u z=>by have z':(none:Option HO)=some u:=z;cases z') (λb z=>absurd rfl z) λz=>absurd rfl z
 | none=>
  refine core (λb=>if b=a then some (.frz {cls:=.type "list",data:=.seq vs.toArray} (.lst (ns.map V.int)))else none) (λb=>?_) (.inl (.inr ⟨{cls:=.type "list",data:=.seq vs.toArray},if_pos rfl⟩)) (λb u z=>?_) (λb z=>?_) λ_=>hk
  ·by_cases hb:b=a
   ·exact .inr ⟨_,_,if_pos hb⟩
   ·exact .inl (if_neg hb)
  ·by_cases hb:b=a
   ·have z':=(if_pos hb).symm.trans z;cases z';subst hb;exact⟨ha,by rw[aX];exact hl,vs,_,rv,ha⟩
   ·have z':=(if_neg hb).symm.trans z;cases z'
  ·by_cases hb:b=a
   ·exact hb
   ·exact absurd (if_neg hb) z
theorem K3{l:PySem.W.OpenLaw}{n k:Nat}{q:Program}{loose:List Str}{XP:(Str→Option Value)→Heap→Prop}{YP:World→Heap→Prop}{d:DefRec}{K:Params→aA}{CX:World→zj}{sp:World→Sp}{x:Str}
  (hn:l.most=some n) (hn2:n≤sizeLine) (hdf:d.params.defaults=[]) (hr:ig k callerA)
  (hY:∀(w:World)(h:Heap),YP w h→(K w.params).In h)
  (F:∀(w:World)(mg:Str→Option Value)(fa:Addr)(h:Heap),(K w.params).In h→h.Ns mainGlobals mg→mg d.name=some (.ref fa)→
   ∃fd:FuncData,(∀(s:Shared)(u:Value),BindsTo s fd ⟨[u],[]⟩ [(x,u)])∧
    ∀base:Heap,(K w.params).In base→base.Ns mainGlobals mg→lY l.prog w (K w.params) mg base (CX w) k fa fd [x] (sp w))
  (hsp:∀(w:World)(H:Hp)(a:Addr)(ns:List Int),ns.length≤n→Ir H→eG (K w.params) H a (ns.map V.int)→sp w [.ref a] H (λv _=>v=.bl true) λ_ _ _=>False)
  (hCX:∀(w:World)(H:Hp)(s:Shared)(e:Value)(s':Shared),CX w [] H s (λ_ _ _=>False) e s'→False):
  PySem.W.WalkO q loose XP YP l.row.toRowW d [] (λf vs=>PySem.call f vs):=by
 refine Att.FS hn hdf λw s₀ s₁ mg mb fa o pm cd doc a vs ns G Y ho hd hcd hmg hobj hints hlen hg=>?_;have KX:=hY w _ Y;obtain⟨fd,hb,hF⟩:=F w mg fa _ KX G.T.g hmg;exact Bs KX G.T.g G.T.b G.T.builtins G.T.nolimit hg hobj hints (aY hlen hn2) hr hF hb (λH hO hS=>hsp w H a ns hlen hO hS) λH e s'=>hCX w H s₁ e s'
def fq(s:Stmt)(j:Nat):Stmt:=match s with
 | .ClassDef _ _ _ body _ _ _ _ _ _ _=>body.getD j (.Pass ⟨0,0,0,0⟩)
 | _=>.Pass ⟨0,0,0,0⟩
def ko(s:Stmt):Arguments:=match s with
 | .FunctionDef _ a _ _ _ _ _ _ _ _=>a
 | _=>{posonlyargs:=[],args:=[],vararg:=none,kwonlyargs:=[],kw_defaults:=[],kwarg:=none,defaults:=[]}
def iI(s:Stmt):List Stmt:=match s with
 | .FunctionDef _ _ b _ _ _ _ _ _ _=>b
 | _=>[]
def fN(s:Stmt):Scope:=match s with
 | .FunctionDef _ _ _ _ _ _ sc _ _ _=>sc
 | _=>{kind:=.function,names:=[],isGenerator:=false,isCoroutine:=false}
abbrev wc:zj:=λ_ _ _ _ _ _=>False
abbrev E0:XK:=λ_ _ _=>False
theorem Bc:oR wc X E0:=λ_ _ _ _ _ _ _ h=>h.elim
structure Fa(K:aA)(x qual:Str)(st:Stmt)(f:Addr)(fd:FuncData):Prop where
 ex:∃(oc:Value)(od:Option Addr)(kV doc pm:Value)(an:Option Addr)(cdv ct:Value)(osl:Array (Option Value)),
  fd=PySem.W.fnOf x qual (ko st) (iI st) (fN st) .none kV doc pm an cdv ct∧K.lookup f=some ⟨oc,od,.func fd,osl⟩∧PySem.W.codeIn K cdv qual=true
 kp:PySem.W.keepIn K (.ref f)=true
section
variable {P:Program}{w:World}{K:aA}{mg:Str→Option Value}{base:Heap}
theorem Fa.ok{x qual:Str}{st:Stmt}{f:Addr}{fd:FuncData}{N ps:List Str}{k:Nat}{sp:Sp}(F:Fa K x qual st f fd)(S:nN N ps (fN st))(len:∀vs H Q E,sp vs H Q E→vs.length=ps.length)
  (hbody:∀(cdv:Value)(A:Around)(outer:List Env)(s:Shared)(H:Hp)(vs:List V)(Q:VK)(E:XK),ig k (A.deeper (envOfC qual (fN st) s.heap.objs.size f cdv))→sp vs H Q E→
   ∃t,tS (oo wc P w K mg base N qual (fN st) f cdv A outer s H E).nox (iI st) t∧t {nx:=λ_ H'=>Q .non H',rt:=Q} (start N vs) H):lY P w K mg base wc (k+1) f fd ps sp:=by
 obtain⟨oc,od,kV,doc,pm,an,cdv,ct,osl,rfl,lk,hcd⟩:=F.ex;refine Kc lk hcd S len λA outer s H vs Q E hr hsp=>?_;obtain⟨t,h,q⟩:=hbody cdv A outer s H vs Q E hr hsp;exact⟨t,h.nox,q⟩
theorem Fa.binds{x qual:Str}{st:Stmt}{f:Addr}{fd:FuncData}{ps:List Str}(F:Fa K x qual st f fd)
  (h:∀(kV doc pm:Value)(an:Option Addr)(cdv ct:Value)(us:List Value),us.length=ps.length→bindArgs (PySem.W.fnOf x qual (ko st) (iI st) (fN st) .none kV doc pm an cdv ct) ⟨us,[]⟩=pure (ps.zip us)):nQ K fd ps []:=by
 obtain⟨oc,od,kV,doc,pm,an,cdv,ct,osl,rfl,lk,hcd⟩:=F.ex;exact .all (h kV doc pm an cdv ct)
theorem IW{x qual:Str}{st:Stmt}{f:Addr}{oc:Value}{od an:Option Addr}{osl:Array (Option Value)}{kV doc pm cdv ct:Value}(l:K.lookup f=some ⟨oc,od,.func (PySem.W.fnOf x qual (ko st) (iI st) (fN st) .none kV doc pm an cdv ct),osl⟩)
  (c:PySem.W.codeIn K cdv qual=true) (k:PySem.W.keepIn K (.ref f)=true):Fa K x qual st f (PySem.W.fnOf x qual (ko st) (iI st) (fN st) .none kV doc pm an cdv ct):=⟨⟨oc,od,kV,doc,pm,an,cdv,ct,osl,rfl,l,c⟩,k⟩
end
theorem hZ(hr:ig k A):A.units+1<cLine:=cV (Nat.add_le_add_left (by decide:1≤64) _) hr.units
theorem kJ(h:n≤1000):n<sizeLine:=cV h (by decide)
section
variable {X:Cx}
theorem pv(i:Nat)(hN:X.N[i]?=some x:=by rfl)(hv:LF X.env.scope x:=by first|exact bF rfl|exact bR (bF rfl)|exact bR (bR rfl))(hd:(x==("__debug__":Str))=false:=by decide)
  (hcd:(x==("__classdict__":Str))=false:=by decide):PE X (.Name x pos) (dN i):=BX hN hv hd hcd
end
theorem fK{A B:Prop}(h:B):if false=true then A else B:=by rw[if_neg aN];exact h
theorem oj{A B:Prop}(h:A):if true=true then A else B:=by rw[if_pos rfl];exact h
theorem jI{c A B:Prop}[Decidable c](h1:c→A)(h2:¬c→B):if c then A else B:=by
 by_cases h:c
 ·rw[if_pos h];exact h1 h
 ·rw[if_neg h];exact h2 h
def dy(H H':Hp):Prop:=∀b o,H b=some o→H' b=some o
theorem dy.refl(H:Hp):dy H H:=λ_ _ h=>h
theorem dy.trans(a:dy H H1)(b:dy H1 H2):dy H H2:=λc o h=>b c o (a c o h)
theorem dy.free(e:dy H H')(h:H' l=Option.none):H l=Option.none:=by
 cases q:H l with
 | none=>rfl
 | some o=>rw[e l o q]at h;cases h
theorem dy.seq{K:aA}{H H':Hp}{a:Addr}{xs:List V}(e:dy H H')(h:eG K H a xs):eG K H' a xs:=by
 rcases h with(h|⟨o,h⟩)|h
 ·exact .inl (.inl (e _ _ h))
 ·exact .inl (.inr ⟨o,e _ _ h⟩)
 ·exact .inr h
section
variable {κ:Type}[DecidableEq κ]
theorem xm:∀{l:List κ}{k:κ},l.Nodup→¬k∈l→(l++[k]).Nodup
 | [],k,_,_=>by simp
 | a::r,k,h,hk=>by
  obtain⟨h1,h2⟩:=bQ.mp h;show(a::(r++[k])).Nodup;refine bQ.mpr ⟨λm=>?_,xm h2 λm=>hk (aB.mpr (bR m))⟩;rcases aU.mp m with q|q
  ·exact h1 q
  ·exact hk (aB.mpr (bF (aG.mp q).symm))
end
theorem fA:bootBuiltins "len"=some (.builtin "len"):=by decide
theorem wQ:bootBuiltins "int"=some (.type "int"):=by decide
theorem tL:bootBuiltins "str"=some (.type "str"):=by decide
theorem Eg:bootBuiltins "bool"=some (.type "bool"):=by decide
theorem pP:bootBuiltins "list"=some (.type "list"):=by decide
theorem jk:bootBuiltins "tuple"=some (.type "tuple"):=by decide
theorem pQ:bootBuiltins "dict"=some (.type "dict"):=by decide
theorem zc:bootBuiltins "sorted"=some (.builtin "sorted"):=by decide
theorem fe:bootBuiltins "isinstance"=some (.builtin "isinstance"):=by decide
theorem Ii:bootBuiltins "min"=some (.builtin "min"):=by decide
theorem Ij:bootBuiltins "abs"=some (.builtin "abs"):=by decide
theorem sg(p:PlainL h a its):h.IsList a its:=by obtain⟨o,n,e,c,_,d⟩:=p;exact⟨o,e,c,n,d⟩
theorem wn:∀{xs:List V}{us:List Value},xs.length=us.length→(∀(i:Nat) x u,xs[i]?=some x→us[i]?=some u→fS x u)→fE xs us
 | [],[],_,_=>.nil
 | [],_::_,h,_=>by simp at h
 | _::_,[],h,_=>by simp at h
 | x::xs,u::us,h,k=>.cons (k 0 x u rfl rfl) (wn (by simpa using h) λi y w a b=>k (i+1) y w (by simpa using a) (by simpa using b))
theorem Dy(h:qS k u=true):fS (kV k) u:=by
 rcases gO h with⟨i,t,rfl,rfl⟩|⟨x,t,rfl,rfl⟩
 ·exact⟨t,rfl⟩
 ·exact⟨t,rfl⟩
def mG(kvs:List (fI×V)):List V:=kvs.map λkv=>kV kv.1
theorem zL(r:KV kvs vs)(h:ItemsOf (λi v=>∃k x,vs[i]?=some (k,x)∧(gX P w).is k v=true) acc vs.length):fE (mG kvs) acc.toList:=by
 refine wn ?_ λi x u hx hu=>?_
 ·have e1:acc.toList.length=vs.length:=by rw[bh];exact h.1
  have e2:(mG kvs).length=kvs.length:=by simp[mG]
  rw[e1,e2];exact r.length
 ·obtain⟨k,y,e,hk⟩:=h.2 i u (by rw[←cR];exact hu);have q:(kvs.map (·.1))[i]?=some k:=by rw[r.keys,ac,e];rfl
  have q2:(mG kvs)[i]?=some (kV k):=by
   have:mG kvs=(kvs.map (·.1)).map kV:=by simp[mG]
   rw[this,ac,q];rfl
  rw[q2]at hx;cases hx;exact Dy hk
section
variable {X:Cx}
def lM(K:aA):R2:=λx y H Q=>onR x λa=>onR y λb=>lZ (eG K H a) λxs=>eG K H b []∧Q (.bl (!xs.isEmpty)) H
theorem kR(hu:X.A.units<cLine):nJ X (compareOp .NotEq) (lM X.K):=by
 intro pins s σ H x y v u Q I rx ry h;obtain⟨a,rfl,h⟩:=onR.ex h;obtain⟨b,rfl,h⟩:=onR.ex h;obtain @⟨xs,ha,hb,q⟩:=h;cases rx;cases ry;obtain⟨its,r1,p1,_⟩:=I.list ha;obtain⟨its2,r2,p2,_⟩:=I.list hb;cases r2;cases r1 with
 | nil=>exact SeqAt.RcNeAt.lists (e:=λ_=>true) (sg p1) (sg p2) rfl hu (λj h1 _=>absurd h1 (cW _)) _ _ _ _ ⟨.bl false,H,I,rfl,q⟩
 | cons _ _=>exact SeqAt.RcNeAt.lists_lengths (sg p1) (sg p2) rfl hu _ _ _ _ ⟨.bl true,H,I,rfl,q⟩
theorem kq:ky X (.type "dict") (λxs H Q=>∃a kvs,xs=[.ref a]∧Rd H a (.dK kvs)∧lA H (.dK kvs) Q):=by intro pins s σ H xs us Q I r h;obtain⟨a,kvs,rfl,ha,q⟩:=h;obtain⟨u,rfl,ru⟩:=lH r;cases ru;exact CL I ha λp s' hp I'=>⟨.ref p,_,I',rfl,q p hp⟩
theorem xO:∀{ws:List Str}{us:List Value},fE (ws.map V.str) us→StrsAre us ws
 | [],_,r=>by rw[bU]at r;cases r;exact .nil
 | w::ws,_,r=>by
  rw[aW]at r;cases r with
  | cons h t=>obtain⟨t',rfl⟩:=h;exact .cons w t' (xO t)
theorem xj:∀{ws:List Str}{us:List Value},StrsAre us ws→fE (ws.map V.str) us
 | _,_,.nil=>.nil
 | _,_,.cons _ t h=>.cons ⟨t,rfl⟩ (xj h)
def oq(K:aA):List V→Hp→VK→Prop:=λxs H Q=>onC xs λx r=>on1 r λy=>onY y λc=>lZ (oO K H x) λt=>lZ (λb=>PySem.W.kitOne K t (.type c)=some b) λb=>Q (.bl b) H
theorem iO:ky X (.builtin "isinstance") (oq X.K):=by intro pins s σ H xs us Q I r h;obtain⟨x,_,rfl,h⟩:=onC.ex h;obtain⟨_,rfl,h⟩:=on1.ex h;obtain⟨c,rfl,h⟩:=onY.ex h;obtain @⟨t,ty,h⟩:=h;obtain @⟨b,e,q⟩:=h;obtain⟨u,w',rfl,ru,rw'⟩:=Es r;cases rw';exact zO I ru ty e λtk=>⟨.bl b,H,I.tok tk,rfl,q⟩
end
end L2
namespace SW
open PySem PySem.Spec PyProof.Rows
inductive T where
 | num(n:Int)|name(w:Str)
 | sum(a b:T)|less(a b:T)|cho(a b c:T)|lt(w:Str)(a b:T)
 | st0(w:Str)|st1(w:Str)(a:T)|st2(w:Str)(a b:T)
def T.size:T→Nat
 | .num _=>1
 | .name _=>1
 | .sum a b=>a.size+b.size+1
 | .less a b=>a.size+b.size+1
 | .cho a b c=>a.size+b.size+c.size+1
 | .lt _ a b=>a.size+b.size+1
 | .st0 _=>1
 | .st1 _ a=>a.size+1
 | .st2 _ a b=>a.size+b.size+1
theorem T.size_pos(t:T):0<t.size:=by cases t<;>simp[T.size]
def T.kids:T→List T
 | .num _=>[]
 | .name _=>[]
 | .sum a b=>[a,b]
 | .less a b=>[a,b]
 | .cho a b c=>[a,b,c]
 | .lt _ a b=>[a,b]
 | .st0 _=>[]
 | .st1 _ a=>[a]
 | .st2 _ a b=>[a,b]
def eu(ts:List T):Nat:=(ts.map T.size).sum
theorem jC:eu []=0:=rfl
theorem fm(t:T)(ts:List T):eu (t::ts)=t.size+eu ts:=by simp[eu]
theorem fC(a b:List T):eu (a++b)=eu a+eu b:=by simp[eu]
theorem jD(t:T):eu t.kids+1=t.size:=by cases t<;>simp[T.kids,T.size,eu]<;>lia
theorem eh:∀ts:List T,ts.length≤eu ts
 | []=>aC _
 | t::ts=>by have h:=eh ts;have h2:=t.size_pos;rw[fm,aE];lia
def T.occ(w:Str):T→Prop
 | .num _=>False
 | .name v=>v=w
 | .sum a b=>a.occ w∨b.occ w
 | .less a b=>a.occ w∨b.occ w
 | .cho a b c=>a.occ w∨b.occ w∨c.occ w
 | .lt _ a b=>a.occ w∨b.occ w
 | .st0 _=>False
 | .st1 _ a=>a.occ w
 | .st2 _ a b=>a.occ w∨b.occ w
def T.out(w:Str):T→Prop
 | .num _=>False
 | .name v=>v=w
 | .sum a b=>a.out w∨b.out w
 | .less a b=>a.out w∨b.out w
 | .cho a b c=>a.out w∨b.out w∨c.out w
 | .lt v a b=>a.out w∨(v≠w∧b.out w)
 | .st0 _=>False
 | .st1 _ a=>a.out w
 | .st2 _ a b=>a.out w∨b.out w
theorem T.out_occ:∀{t:T},t.out w→t.occ w
 | .num _,h=>h
 | .name _,h=>h
 | .sum _ _,h=>h.elim (λx=>.inl (out_occ x)) λx=>.inr (out_occ x)
 | .less _ _,h=>h.elim (λx=>.inl (out_occ x)) λx=>.inr (out_occ x)
 | .cho _ _ _,h=>h.elim (λx=>.inl (out_occ x)) λx=>.inr (x.elim (λx=>.inl (out_occ x)) λx=>.inr (out_occ x))
 | .lt _ _ _,h=>h.elim (λx=>.inl (out_occ x)) λx=>.inr (out_occ x.2)
 | .st0 _,h=>h
 | .st1 _ a,h=>out_occ (t:=a) h
 | .st2 _ _ _,h=>h.elim (λx=>.inl (out_occ x)) λx=>.inr (out_occ x)
def T.names:T→List Str
 | .num _=>[]
 | .name v=>[v]
 | .sum a b=>a.names++b.names
 | .less a b=>a.names++b.names
 | .cho a b c=>a.names++b.names++c.names
 | .lt _ a b=>a.names++b.names
 | .st0 _=>[]
 | .st1 _ a=>a.names
 | .st2 _ a b=>a.names++b.names
theorem T.names_occ:∀{t:T},w∈t.names↔t.occ w
 | .num _=>by simp[names,occ]
 | .name _=>by simp[names,occ,eq_comm]
 | .sum a b=>by simp[names,occ,names_occ (t:=a),names_occ (t:=b)]
 | .less a b=>by simp[names,occ,names_occ (t:=a),names_occ (t:=b)]
 | .cho a b c=>by simp[names,occ,names_occ (t:=a),names_occ (t:=b),names_occ (t:=c)]
 | .lt _ a b=>by simp[names,occ,names_occ (t:=a),names_occ (t:=b)]
 | .st0 _=>by simp[names,occ]
 | .st1 _ a=>by simp[names,occ,names_occ (t:=a)]
 | .st2 _ a b=>by simp[names,occ,names_occ (t:=a),names_occ (t:=b)]
theorem T.names_len:∀t:T,t.names.length≤t.size
 | .num _=>by simp[names]
 | .name _=>by simp[names,size]
 | .sum a b=>by have:=names_len a;have:=names_len b;simp[names,size];lia
 | .less a b=>by have:=names_len a;have:=names_len b;simp[names,size];lia
 | .cho a b c=>by have:=names_len a;have:=names_len b;have:=names_len c;simp[names,size];lia
 | .lt _ a b=>by have:=names_len a;have:=names_len b;simp[names,size];lia
 | .st0 _=>by simp[names]
 | .st1 _ a=>by have:=names_len a;simp[names,size];lia
 | .st2 _ a b=>by have:=names_len a;have:=names_len b;simp[names,size];lia
def fc(ts:List T):Nat:=(ts.map λt=>t.names.length).sum
def qw:Bool→Str
 | false=>"sab"
 | true=>"sabq"
def zB:Bool→Str
 | false=>"tab"
 | true=>"tabq"
theorem D5:∀e,qw e≠zB e
 | false=>by decide
 | true=>by decide
structure Bo where
 (e:Bool) (x y z:T)
def qf(a b:Str):Prop:=a.cps.toList<b.cps.toList
theorem qf.irrefl(a:Str):¬qf a a:=List.lt_irrefl _
theorem qf.trans(h:qf a b)(k:qf b c):qf a c:=List.lt_trans h k
theorem qf.total(h:¬qf a b)(k:¬qf b a):a=b:=by have e:a.cps.toList=b.cps.toList:=List.le_antisymm (List.not_lt.mp k) (List.not_lt.mp h);cases a;cases b;congr;exact Array.toList_inj.mp e
theorem qr:∀(l:List Str)(p:Str),risingS p l=true→(∀x∈l,¬qf x p)∧l.Pairwise (λa b=>¬qf b a)
 | [],_,_=>⟨λ_ h=>(nomatch h),List.Pairwise.nil⟩
 | x::r,p,h=>by
  have h:(!ltCps x.cps.toList p.cps.toList&&risingS x r)=true:=h;rw[bY,ltCps_eq]at h;obtain⟨i1,i2⟩:=qr r x h.2;have h1:¬qf x p:=by simpa[qf]using h.1
  refine⟨λy hy=>?_,cA.mpr ⟨λy hy=>i1 y hy,i2⟩⟩;rcases aB.mp hy with rfl|hy
  ·exact h1
  ·intro z;have h3:=i1 y hy;by_cases q:qf x y
   ·exact h1 (q.trans z)
   ·exact h1 (qf.total q h3▸z)
theorem yg(h:sortedS l=true):l.Pairwise (λa b=>¬qf b a):=by
 cases l with
 | nil=>exact .nil
 | cons x r=>obtain⟨i1,i2⟩:=qr r x h;exact cA.mpr ⟨i1,i2⟩
abbrev Up(l:List Str):Prop:=l.Pairwise qf
theorem Et:∀{l:List Str},l.Pairwise (λa b=>¬qf b a)→l.Nodup→Up l
 | [],_,_=>.nil
 | x::r,h,n=>by
  obtain⟨h1,h2⟩:=cA.mp h;obtain⟨n1,n2⟩:=bQ.mp n;refine cA.mpr ⟨λy hy=>?_,Et h2 n2⟩;by_cases q:qf x y
  ·exact q
  ·exact absurd (qf.total q (h1 y hy)) (λe=>n1 (e▸hy))
end SW
namespace SW
open PySem L2
def fO(H H':Hp):Prop:=∀b xs,H b=some (.tup xs)→H' b=some (.tup xs)
theorem fO.refl:fO H H:=λ_ _ h=>h
theorem fO.trans(a:fO H H1)(b:fO H1 H2):fO H H2:=λc xs h=>b c xs (a c xs h)
theorem dY(s:dy H H'):fO H H':=λb _ h=>s b _ h
theorem iJ(h:H p=none):fO H (upd H p o):=λb xs e=>by rw[db (dZ e h)];exact e
theorem fL(h:H l=some (.lst ys)):fO H (upd H l o):=λb xs e=>by rw[db (fB e h (by intro z;cases z))];exact e
theorem AD(h:H l=some (.dK ys)):fO H (upd H l o):=λb xs e=>by rw[db (fB e h (by intro z;cases z))];exact e
theorem dR(h:H p=none):dy H (upd H p o):=λb u e=>by rw[db (dZ e h)];exact e
theorem eZ{H:Hp}{o:HO}{Q:VK}(k:∀(p:Addr)(H1:Hp),H p=none→dy H H1→H1 p=some o→Q (.ref p) H1):lA H o Q:=λp hp=>k p _ hp (dR hp) dO
theorem eF(s:dy H₀ H)(h:H₀ l=none):dy H₀ (upd H l o):=λb u e=>by rw[db (dZ e h)];exact s b u e
def kind:T→Str
 | .num _=>"number"
 | .name _=>"name"
 | .sum _ _=>"sum"
 | .less _ _=>"less"
 | .cho _ _ _=>"choose"
 | .lt _ _ _=>"let"
 | .st0 _=>"stamp"
 | .st1 _ _=>"stamp"
 | .st2 _ _ _=>"stamp"
def gG(H:Hp):T→V→Prop
 | .num n,v=>∃p,v=.ref p∧H p=some (.tup [.str "number",.int n])
 | .name w,v=>∃p,v=.ref p∧H p=some (.tup [.str "name",.str w])
 | .sum a b,v=>∃p x y,v=.ref p∧H p=some (.tup [.str "sum",x,y])∧gG H a x∧gG H b y
 | .less a b,v=>∃p x y,v=.ref p∧H p=some (.tup [.str "less",x,y])∧gG H a x∧gG H b y
 | .cho a b c,v=>∃p x y z,v=.ref p∧H p=some (.tup [.str "choose",x,y,z])∧gG H a x∧gG H b y∧gG H c z
 | .lt w a b,v=>∃p x y,v=.ref p∧H p=some (.tup [.str "let",.str w,x,y])∧gG H a x∧gG H b y
 | .st0 w,v=>∃p,v=.ref p∧H p=some (.tup [.str "stamp",.str w])
 | .st1 w a,v=>∃p x,v=.ref p∧H p=some (.tup [.str "stamp",.str w,x])∧gG H a x
 | .st2 w a b,v=>∃p x y,v=.ref p∧H p=some (.tup [.str "stamp",.str w,x,y])∧gG H a x∧gG H b y
theorem gG.mono(k:fO H H'):∀{t:T}{v:V},gG H t v→gG H' t v
 | .num _,_,⟨p,e,h⟩=>⟨p,e,k _ _ h⟩
 | .name _,_,⟨p,e,h⟩=>⟨p,e,k _ _ h⟩
 | .sum _ _,_,⟨p,x,y,e,h,a,b⟩=>⟨p,x,y,e,k _ _ h,gG.mono k a,gG.mono k b⟩
 | .less _ _,_,⟨p,x,y,e,h,a,b⟩=>⟨p,x,y,e,k _ _ h,gG.mono k a,gG.mono k b⟩
 | .cho _ _ _,_,⟨p,x,y,z,e,h,a,b,c⟩=>⟨p,x,y,z,e,k _ _ h,gG.mono k a,gG.mono k b,gG.mono k c⟩
 | .lt _ _ _,_,⟨p,x,y,e,h,a,b⟩=>⟨p,x,y,e,k _ _ h,gG.mono k a,gG.mono k b⟩
 | .st0 _,_,⟨p,e,h⟩=>⟨p,e,k _ _ h⟩
 | .st1 _ _,_,⟨p,x,e,h,a⟩=>⟨p,x,e,k _ _ h,gG.mono k a⟩
 | .st2 _ _ _,_,⟨p,x,y,e,h,a,b⟩=>⟨p,x,y,e,k _ _ h,gG.mono k a,gG.mono k b⟩
inductive gC(H:Hp):List T→List V→Prop where
 | nil:gC H [] []
 | cons{t:T}{v:V}{ts:List T}{vs:List V}:gG H t v→gC H ts vs→gC H (t::ts) (v::vs)
theorem gC.mono(k:fO H H'):∀{ts:List T}{vs:List V},gC H ts vs→gC H' ts vs
 | _,_,.nil=>.nil
 | _,_,.cons a r=>.cons (a.mono k) (gC.mono k r)
theorem gC.length:∀{ts:List T}{vs:List V},gC H ts vs→vs.length=ts.length
 | _,_,.nil=>rfl
 | _,_,.cons _ r=>by rw[aE,aE,gC.length r]
theorem gC.append:∀{ts us:List T}{vs ws:List V},gC H ts vs→gC H us ws→gC H (ts++us) (vs++ws)
 | _,_,_,_,.nil,q=>q
 | _,_,_,_,.cons a r,q=>.cons a (gC.append r q)
theorem gC.snoc:∀{ts:List T}{vs:List V}{v:V},gC H ts (vs++[v])→∃us t,ts=us++[t]∧gC H us vs∧gG H t v
 | _,[],v,.cons a .nil=>⟨[],_,rfl,.nil,a⟩
 | _,x::vs,v,.cons a r=>by obtain⟨us,t,rfl,h1,h2⟩:=gC.snoc (vs:=vs) r;exact⟨_::us,t,rfl,.cons a h1,h2⟩
def hd:T→List V
 | .num n=>[.str "number",.int n]
 | .name w=>[.str "name",.str w]
 | .sum _ _=>[.str "sum"]
 | .less _ _=>[.str "less"]
 | .cho _ _ _=>[.str "choose"]
 | .lt w _ _=>[.str "let",.str w]
 | .st0 w=>[.str "stamp",.str w]
 | .st1 w _=>[.str "stamp",.str w]
 | .st2 w _ _=>[.str "stamp",.str w]
theorem gG.open(h:gG H t v):∃p us,v=.ref p∧H p=some (.tup (hd t++us))∧gC H t.kids us:=by
 cases t with
 | num n=>obtain⟨p,e,h⟩:=h;exact⟨p,[],e,h,.nil⟩
 | name n=>obtain⟨p,e,h⟩:=h;exact⟨p,[],e,h,.nil⟩
 | sum a b=>obtain⟨p,x,y,e,h,d1,d2⟩:=h;exact⟨p,[x,y],e,h,.cons d1 (.cons d2 .nil)⟩
 | less a b=>obtain⟨p,x,y,e,h,d1,d2⟩:=h;exact⟨p,[x,y],e,h,.cons d1 (.cons d2 .nil)⟩
 | cho a b c=>obtain⟨p,x,y,z,e,h,d1,d2,d3⟩:=h;exact⟨p,[x,y,z],e,h,.cons d1 (.cons d2 (.cons d3 .nil))⟩
 | lt w a b=>obtain⟨p,x,y,e,h,d1,d2⟩:=h;exact⟨p,[x,y],e,h,.cons d1 (.cons d2 .nil)⟩
 | st0 w=>obtain⟨p,e,h⟩:=h;exact⟨p,[],e,h,.nil⟩
 | st1 w a=>obtain⟨p,x,e,h,d1⟩:=h;exact⟨p,[x],e,h,.cons d1 .nil⟩
 | st2 w a b=>obtain⟨p,x,y,e,h,d1,d2⟩:=h;exact⟨p,[x,y],e,h,.cons d1 (.cons d2 .nil)⟩
theorem fG(h:Nat.ble n 1000=true:=by rfl):n≤sizeLine:=aY (bS h) (by decide)
theorem fW{c:Bool}{A B:Prop}(h:c=true)(k:A):if c=true then A else B:=by rw[if_pos h];exact k
theorem eK{c:Bool}{A B:Prop}(h:c=false)(k:B):if c=true then A else B:=by rw[h];exact fK k
theorem nG(h0:0≤i)(h1:i<xs.length):∃v,v∈xs∧pS xs i=some v:=by
 obtain⟨n,rfl⟩:=c3 h0;have hn:n<xs.length:=by lia
 exact⟨xs[n],List.getElem_mem hn,dS (by simp[hn])⟩
def xX:Sp:=λvs H Q _=>∃c:Int,vs=[.int c]∧∀(n:Int)(H':Hp),-(10^59)<n∧n<10^59→dy H H'→Q (.int n) H'
structure Wd(x:Str):Prop where
 one:1≤x.length
 few:x.length≤200
 abc:∀c∈x.cps.toList,97≤c∧c≤122
def rg:Sp:=λvs H Q _=>∃c:Int,vs=[.int c]∧∀x:Str,Wd x∧x.length≤132→Q (.str x) H
structure mS(l:Int)(x:Str):Prop where
 one:l<0→1≤x.length
 few:x.length≤132
 sm:0≤l→∃m:Nat,l<2^m∧x.length+m≤131
 abc:∀c∈x.cps.toList,97≤c∧c≤122
theorem q8:(("":Str)).length=0:=by decide
theorem rT(c:Int):mS (c%10^(39:Int).toNat) "":=by
 have e:(10:Int)^(39:Int).toNat=1000000000000000000000000000000000000000:=by decide
 rw[e];refine⟨λh=>?_,by rw[q8];lia,λ_=>⟨130,?_,by rw[q8];lia⟩,?_⟩
 ·lia
 ·have e2:(2:Int)^130=1361129467683753853853498429727072845824:=by decide
  rw[e2];lia
 ·have e3:(("":Str)).cps.toList=[]:=by decide
  rw[e3];intro c hc;cases hc
theorem rV(h:mS l x):(⟨#[c]⟩:Str).length+x.length≤sizeLine:=by have e:(⟨#[c]⟩:Str).length=1:=rfl;have:=h.few;rw[e,sizeLine_eq];lia
theorem tm(h:mS l x)(hl:0≤l)(hc:97≤c∧c≤122):mS (l / 26-1) (⟨#[c]⟩++x):=by
 have el:((⟨#[c]⟩:Str)++x).length=x.length+1:=by show(#[c]++x.cps).size=x.cps.size+1;simp[cX]
 obtain⟨m,h1,h2⟩:=h.sm hl;refine⟨λ_=>by rw[el];lia,by rw[el];lia,λh0=>?_,?_⟩
 ·cases m with
  | zero=>simp at h1;lia
  | succ m=>refine⟨m,?_,by rw[el];lia⟩;have e:(2:Int)^(m+1)=2^m*2:=Int.pow_succ ..;rw[e]at h1;generalize (2:Int)^m=z at *;lia
 ·intro d hd;have hd:d∈(#[c]++x.cps).toList:=hd;rw[bn]at hd;rcases aU.mp hd with q|q
  ·have:d=c:=by simpa using q
   rw[this];exact hc
  ·exact h.abc d q
theorem vH(h:mS l x)(hl:¬0≤l):Wd x∧x.length≤132:=⟨⟨h.one (by lia),by have:=h.few;lia,h.abc⟩,h.few⟩
theorem xo:(("abcdefghijklmnopqrstuvwxyz":Str)).cps.toList=(List.range 26).map (·+97):=by decide
theorem zI(l:Int):∃c:Nat,(97≤c∧c≤122)∧pS (("abcdefghijklmnopqrstuvwxyz":Str)).cps.toList (l%26)=some c:=by
 have h:0≤l%26∧l%26<26:=by lia
 obtain⟨n,e⟩:=c3 h.1;rw[e]at h⊢;have hn:n<26:=by lia
 refine⟨n+97,by lia,dS ?_⟩;rw[xo,ac,dA hn];rfl
theorem jN(k:Nat)(h:0<k)(h2:k≤n):¬(HT.kL n 0 (some (k:Int))=0∧HT.kL n n none=n):=by rintro⟨z,_⟩;rw[HT.K5,bp h2]at z;lia
def jB:Sp:=λvs H Q _=>∃d x v kvs,vs=[.ref d,.str x,v]∧H d=some (.dK kvs)∧kvs.length≤1000∧∀p H',H p=none→dy H H'→H' p=some (.dK (gA kvs (.inr x) v))→Q (.ref p) H'
def rj:Sp:=λvs H Q _=>∃t v,vs=[v]∧gG H t v∧∀p us H',dy H H'→H' p=some (.tup us)→gC H' t.kids us→Q (.ref p) H'
def gQ:Sp:=λvs H Q _=>∃t v,vs=[v]∧gG H t v∧∀l us H',dy H H'→H l=none→H' l=some (.lst us)→gC H' t.kids us→Q (.ref l) H'
def qd(P:Str→Prop)(S:Str→Nat→Prop):T→Prop
 | .num n=>-(10^60)<n∧n<10^60
 | .name w=>P w
 | .sum a b=>qd P S a∧qd P S b
 | .less a b=>qd P S a∧qd P S b
 | .cho a b c=>qd P S a∧qd P S b∧qd P S c
 | .lt w a b=>P w∧qd P S a∧qd P S b
 | .st0 w=>S w 0
 | .st1 w a=>S w 1∧qd P S a
 | .st2 w a b=>S w 2∧qd P S a∧qd P S b
abbrev WT(S:Str→Nat→Prop):T→Prop:=qd Wd S
structure Wg(w:Str):Prop where
 wd:Wd w
 gd:w.cps.toList.getLast?≠some 122∧w.cps.toList.getLast?≠some 113
 sh:w.length≤150
abbrev WG(S:Str→Nat→Prop):T→Prop:=qd Wg S
theorem gv{P P':Str→Prop}{S:Str→Nat→Prop}(h:∀w,P w→P' w):∀{t:T},qd P S t→qd P' S t
 | .num _,z=>z
 | .name _,z=>h _ z
 | .sum _ _,z=>⟨gv h z.1,gv h z.2⟩
 | .less _ _,z=>⟨gv h z.1,gv h z.2⟩
 | .cho _ _ _,z=>⟨gv h z.1,gv h z.2.1,gv h z.2.2⟩
 | .lt _ _ _,z=>⟨h _ z.1,gv h z.2.1,gv h z.2.2⟩
 | .st0 _,z=>z
 | .st1 _ _,z=>⟨z.1,gv h z.2⟩
 | .st2 _ _ _,z=>⟨z.1,gv h z.2.1,gv h z.2.2⟩
theorem tq{S:Str→Nat→Prop}{t:T}(h:WG S t):WT S t:=gv (λ_ z=>z.wd) h
structure kr(S:Str→Nat→Prop)(H₀ H:Hp)(n:Nat)(l:Addr)(vs:List V)(ts:List T):Prop where
 same:dy H₀ H
 new:H₀ l=none
 at_:H l=some (.lst vs)
 den:gC H ts vs
 sz:eu ts≤n
 one:ts≠[]
 wt:∀t∈ts,WG S t
theorem zx:Wd "sab":=⟨by decide,by decide,by decide⟩
theorem zu:Wd "tab":=⟨by decide,by decide,by decide⟩
theorem zv:Wd "sob":=⟨by decide,by decide,by decide⟩
theorem zw:Wd "sat":=⟨by decide,by decide,by decide⟩
theorem zr:Wg "sab":=⟨zx,⟨by decide,by decide⟩,by decide⟩
theorem Cy(h:v∈[V.str "sab",V.str "tab",V.str "sob",V.str "sat"]):∃x,v=.str x∧Wg x:=by
 rcases aB.mp h with rfl|h
 ·exact⟨_,rfl,zr⟩
 rcases aB.mp h with rfl|h
 ·exact⟨_,rfl,zu,⟨by decide,by decide⟩,by decide⟩
 rcases aB.mp h with rfl|h
 ·exact⟨_,rfl,zv,⟨by decide,by decide⟩,by decide⟩
 rcases aB.mp h with rfl|h
 ·exact⟨_,rfl,zw,⟨by decide,by decide⟩,by decide⟩
 ·cases h
theorem LQ(h:Wd x)(hl:x.length≤132):Wd (x++("k":Str)):=by
 have e:(("k":Str)).cps = #[107]:=by decide
 have el:(x++("k":Str)).length=x.length+1:=by show(x.cps++(("k":Str)).cps).size=_;rw[e];simp[Str.length]
 refine⟨by rw[el];lia,by rw[el];lia,λc hc=>?_⟩;have hc:c∈(x.cps++(("k":Str)).cps).toList:=hc;rw[e,bn]at hc;rcases aU.mp hc with q|q
 ·exact h.abc c q
 ·have:c=107:=by simpa using q
  lia
theorem LP(h:Wd x)(hl:x.length≤132):Wg (x++("k":Str)):=by
 have e:(("k":Str)).cps = #[107]:=by decide
 have el:(x++("k":Str)).cps.toList=x.cps.toList++[107]:=by show(x.cps++(("k":Str)).cps).toList=_;rw[e,bn]
 have en:(x++("k":Str)).length=x.length+1:=by show(x.cps++(("k":Str)).cps).size=_;rw[e];simp[Str.length]
 refine⟨LQ h hl,⟨?_,?_⟩,by lia⟩<;>rw[el,dB]<;>simp
def jR(S:Str→Nat→Prop)(H:Hp)(xs:List V):Prop:=∀x∈xs,∃(q:Addr)(nm:Str)(m:Nat),x=.ref q∧H q=some (.tup [.str nm,.int m])∧m≤2∧S nm m
def pE(K:aA)(S:Str→Nat→Prop):Sp:=λvs H Q _=>∃(c st:Addr)(ns:List Int)(xs:List V),vs=[.ref c,.ref st]∧eG K H c (ns.map V.int)∧ns.length≤100∧H st=some (.lst xs)∧xs.length≤1000∧jR S H xs∧
 ∀(t:T)(v:V)(H':Hp),dy H H'→gG H' t v→WG S t→t.size≤2*ns.length+2→t.names.length≤ns.length+1→Q v H'
def qE(K:aA)(S S':Str→Nat→Prop):Sp:=λvs H Q _=>∃(c st:Addr)(ns:List Int)(xs:List V),vs=[.ref c,.ref st]∧eG K H c (ns.map V.int)∧ns.length≤100∧H st=some (.lst xs)∧xs.length≤1000∧jR S H xs∧(∀t:T,t.size≤ns.length+1→WG S t→WG S' t)∧
 ∀(t:T)(v:V)(H':Hp),dy H H'→gG H' t v→WG S' t→t.size≤2*ns.length+2→t.names.length≤ns.length+1→Q v H'
theorem pE.two(h:pE K S vs H Q E):qE K S S vs H Q E:=by obtain⟨c,st,ns,xs,h1,h2,h3,h4,h5,h6,k⟩:=h;exact⟨c,st,ns,xs,h1,h2,h3,h4,h5,h6,λ_ _ z=>z,k⟩
theorem qz:∀{ts:List T},t∈ts→t.size≤eu ts
 | x::ts,h=>by
  rw[fm];rcases aB.mp h with rfl|h
  ·lia
  ·have:=qz h;lia
end SW
namespace L2
open PySem PySem.Spec PyProof.Rows
def iC(X:Cx)(scope:Scope)(cl:List (Str×Addr))(N:List Str)(fp:List Addr)(s:Shared)(H:Hp)(C:Addr):Cx where
 prog:=X.prog
 w:=X.w
 K:=X.K
 mg:=X.mg
 base:=X.base
 A:=X.A
 N:=N
 s₀:=s
 H₀:=H
 env:=compEnvC scope cl C X.env
 outer:=X.stack
 stack:=X.stack
 ex:=fp
 fn:=λ_=>false
 calm:=X.calm
 pn:=[]
 xe:=λ_ _=>False
def CA(σ:St)(js:List Nat):St:=js.map λj=>σ.getD j none
def m6(its:List Value)(n:Nat):Obj:={cls:=.type "list",data:=.seq its.toArray n}
section
variable {X:Cx}{pins:List (Addr×Obj)}{σ:St}{H:Hp}{s:Shared}{scope:Scope}{cl:List (Str×Addr)}{x:Str}{ys:List Str}{js:List Nat}{fp:List Addr}{C D:Addr}{h':Heap}
theorem eV.nostk(I:eV X pins σ H s)(h1:b≠X.env.locals)(h2:b∉X.fs):b∉zS X.stack:=λz=>by
 rcases aB.mp (I.stkSub b z)with e|e
 ·exact h1 e
 ·exact h2 e
theorem eV.compOut(I:eV X pins σ H s)(hf:∀b∈fp,oy X pins H b)(hC:s.heap.objs.size≤C)(hD:s.heap.objs.size≤D)(hDC:D≠C)
  (I':eV (iC X scope cl (x::ys) fp s H C) P σ' H' s') (hp:(D,m6 its n)∈P) (r:fE vs its) (hz:vs.length≤sizeLine) (hs:Heap.SameBut C s'.heap h'):eV X pins σ (upd H' D (.lst vs)) {s' with heap:=h'}:=by
 obtain⟨pe,pn,_,_,_⟩:=I'.pin (D,m6 its n) (aO _ hp);have u:Un (zS X.stack) fp H H' s.heap s'.heap:=I'.base;have hCn:H' C=none:=I'.free;have lt:∀b o,s.heap.get? b=some o→b≠C∧b≠D:=λb o e=>⟨aM (ae (Heap.lt_size e) hC),aM (ae (Heap.lt_size e) hD)⟩;have nD:∀b o,H' b=some o→b≠D:=λb o e=>dZ e pn;refine I.call' (ch:=fp) (s':={s' with heap:=h'}) I'.os ⟨λb o q nn hb hx=>?_,λb o q nn hb hx=>?_,λb o q nn hx=>?_,λb o q hx=>?_,λb xs q=>?_,λb o xs q=>?_,λb ps q=>?_⟩ ?_ I'.bare λb hb=>?_
 ·exact(hs.2 b (lt b o q).1).trans (u.keep b o q nn hb hx)
 ·obtain⟨sl,e⟩:=u.slot b o q nn hb hx;exact⟨sl,(hs.2 b (lt b o q).1).trans e⟩
 ·rw[db (lt b o q).2];exact u.free b o q nn hx
 ·obtain⟨o',e⟩:=u.there b o q hx;exact⟨o',(hs.2 b (lt b o q).1).trans e⟩
 ·have e:=u.tups b xs q;rw[db (nD _ _ e)];exact e
 ·have e:=u.frzs b o xs q;rw[db (nD _ _ e)];exact e
 ·obtain⟨more,e⟩:=u.tbls b ps q;exact⟨more,by rw[db (nD _ _ e)];exact e⟩
 ·intro b ob e;by_cases hb:b=D
  ·subst hb;rw[dO]at e;cases e;exact⟨hz,its,n,r,(hs.2 b hDC).trans pe⟩
  ·rw[db hb]at e;refine(I'.hok b ob e).stay (λc v hc q=>(hs.2 c ?_).trans q) (λc q=>by rw[db (nD _ _ q)];exact q) λc xs q=>by rw[db (nD _ _ q)];exact q
   rcases hc with rfl|hc
   ·exact dZ e hCn
   ·exact dZ hc hCn
 ·obtain⟨_,h1,_,h3,h4,h5⟩:=hf b hb;exact⟨h3,h1,h4,h5⟩
end
def L3(wi:TI)(te:TE)(js:List Nat):TE:=λσ H Q=>wi σ H λJ H1=>∃W:Nat→Nat→List V→Hp→Prop,(∃m,W 0 m [] H1)∧∀i m vs H,W i m vs H→
 (J.stop i H∧vs.length≤sizeLine∧lA H (.lst vs) Q)∨
 (J.go i H∧∀x H',J.yld i H x H'→te (some x::CA σ js) H' λy H''=>vs.length<sizeLine∧∃m',m'<m∧W (i+1) m' (vs++[y]) H'')
end L2
namespace SW
open PySem L2
abbrev oU:R2:=xc λi j=>.int (i+j)
abbrev iU:R2:=xc λi j=>.int (i-j)
abbrev Jh:R2:=rI Em λi j=>.int (i*j)
abbrev qv:R2:=rI Iy λi j=>.int (i / j)
abbrev jf:R2:=rI (λ_ j=>0<j) λi j=>.int (i%j)
abbrev E7:R2:=rI K1 λi j=>.int (i^j.toNat)
abbrev gR:V→Hp→VK→Prop:=rU λi=>.int (-i)
abbrev yz:R2:=xc λi j=>.bl (decide (i<j))
abbrev Dz:R2:=xc λi j=>.bl (decide (i≤j))
abbrev og:R2:=xc λi j=>.bl (decide (j<i))
abbrev MK:R2:=xc λi j=>.bl (decide (j≤i))
abbrev E8:R2:=λx y H Q=>y=.non∧Q (.bl (!decide (x=.non))) H
abbrev yE:List V→Hp→VK→Prop:=λxs H Q=>∃z,xs=[.str z]∧z.length≤sizeLine∧Q (.int z.length) H
abbrev Kh:List V→Hp→VK→Prop:=λxs H Q=>(∃i,xs=[.int i]∧Q (.int i) H)∨∃k,xs=[.bl k]∧Q (.int (if k then 1 else 0)) H
abbrev Mm:List V→Hp→VK→Prop:=λxs H Q=>∃i,xs=[.int i]∧Q (.int (if i<0 then -i else i)) H
abbrev Ml:List V→Hp→VK→Prop:=λxs H Q=>∃i j,xs=[.int i,.int j]∧Q (.int (if j<i then j else i)) H
abbrev nC(K:aA):List V→Hp→VK→Prop:=λxs H Q=>∃p ys,xs=[.ref p]∧((eG K H p ys∧lA H (.tup ys) Q)∨(eA K H p ys∧Q (.ref p) H))
abbrev tK:List V→Hp→VK→Prop:=λxs H Q=>∃a kvs,xs=[.ref a]∧Rd H a (.dK kvs)∧lA H (.dK kvs) Q
abbrev CQ:List V→Hp→VK→Prop:=λxs H Q=>∃a kvs ws,xs=[.ref a]∧Rd H a (.dK kvs)∧mG kvs=ws.map V.str∧ws.length<64∧∀p ws',H p=none→ws'.Perm ws→PyProof.Rows.sortedS ws'=true→Q (.ref p) (upd H p (.lst (ws'.map V.str)))
def mI:Str→Nat→Prop:=λx n=>(x="st"∧n=2)∨(x="sta"∧n=1)∨(x="star"∧n=0)
def qB(K:aA):Sp:=λvs H Q _=>∃(c:Addr)(ns:List Int),vs=[.ref c]∧eG K H c (ns.map V.int)∧ns.length≤100∧
 ∀(t:T)(v:V)(H':Hp),dy H H'→gG H' t v→WG mI t→t.size≤2*ns.length+2→t.names.length≤ns.length+1→Q v H'
def py(K:aA):Sp:=λvs H Q _=>∃(s:Addr)(xs:List V)(m b:Int),vs=[.ref s,.int m,.int b]∧eG K H s xs∧xs.length≤63∧Q (.int m) H
def qA:Sp:=λvs H Q _=>∃(t:T)(v:V),vs=[v]∧gG H t v∧t.size≤900∧t.names.length<64∧
 ∀(l:Addr)(ws:List Str)(H':Hp),dy H H'→H l=none→H' l=some (.lst (ws.map V.str))→Up ws→(∀x,x∈ws↔t.out x)→Q (.ref l) H'
def qc(D:Addr→Prop)(H:Hp)(q:T×List (fI×V))(u:V):Prop:=∃p v d,u=.ref p∧H p=some (.tup [v,.ref d])∧gG H q.1 v∧H d=some (.dK q.2)∧D d
inductive iA(D:Addr→Prop)(H:Hp):List (T×List (fI×V))→List V→Prop where
 | nil:iA D H [] []
 | cons{q:T×List (fI×V)}{u:V}{qs:List (T×List (fI×V))}{us:List V}:qc D H q u→iA D H qs us→iA D H (q::qs) (u::us)
theorem qc.mono(k1:fO H H')(k2:∀d kvs,D d→H d=some (.dK kvs)→H' d=some (.dK kvs)∧D' d)(h:qc D H q u):qc D' H' q u:=by obtain⟨p,v,d,e,h1,h2,h3,h4⟩:=h;exact⟨p,v,d,e,k1 _ _ h1,h2.mono k1,(k2 _ _ h4 h3).1,(k2 _ _ h4 h3).2⟩
theorem iA.mono(k1:fO H H')(k2:∀d kvs,D d→H d=some (.dK kvs)→H' d=some (.dK kvs)∧D' d):∀{qs:List (T×List (fI×V))}{us:List V},iA D H qs us→iA D' H' qs us
 | _,_,.nil=>.nil
 | _,_,.cons a r=>.cons (a.mono k1 k2) (iA.mono k1 k2 r)
theorem iA.append:∀{qs rs:List (T×List (fI×V))}{us ws:List V},iA D H qs us→iA D H rs ws→iA D H (qs++rs) (us++ws)
 | _,_,_,_,.nil,q=>q
 | _,_,_,_,.cons a r,q=>.cons a (iA.append r q)
theorem iA.snoc:∀{qs:List (T×List (fI×V))}{us:List V}{u:V},iA D H qs (us++[u])→∃rs q,qs=rs++[q]∧iA D H rs us∧qc D H q u
 | _,[],_,.cons a .nil=>⟨[],_,rfl,.nil,a⟩
 | _,_::us,_,.cons a r=>by obtain⟨rs,q,rfl,h1,h2⟩:=iA.snoc (us:=us) r;exact⟨_::rs,q,rfl,.cons a h1,h2⟩
theorem iA.length:∀{qs:List (T×List (fI×V))}{us:List V},iA D H qs us→us.length=qs.length
 | _,_,.nil=>rfl
 | _,_,.cons _ r=>by rw[aE,aE,iA.length r]
def jS(t:T)(kvs:List (fI×V)):List (T×List (fI×V)):=match t with
 | .lt x a b=>[(b,gA kvs (.inr x) (.bl true)),(a,kvs)]
 | t=>t.kids.map λk=>(k,kvs)
def uK:Sp:=λvs H Q _=>∃(t:T)(v:V)(d:Addr)(kvs:List (fI×V)),vs=[v,.ref d]∧gG H t v∧H d=some (.dK kvs)∧kvs.length≤1000∧
 ∀(l:Addr)(us:List V)(H':Hp),dy H H'→H l=none→H' l=some (.lst us)→iA (λe=>e=d∨H e=none) H' (jS t kvs) us→Q (.ref l) H'
def JZ(K:aA):TS:=(de (eD (dz jf (dz qv (dN 0) (tC (.int 2))) (dz E7 (tC (.int 10)) (tC (.int 59)))) (dX 1)) (fT (dz Jh (dN 1) (dz (gL K) (fR (dM (tC (.int 1)) (dM (mE gR (tC (.int 1))) dW))) (dz jf (dN 0) (tC (.int 2)))))))
def HR(K:aA):TS:=(de (eD (dz uR (dz D0 (tC (.str "abcdefghijklmnopqrstuvwxyz")) (dz jf (dN 1) (tC (.int 26)))) (dN 2)) (dX 2)) (eD (dz iU (dz qv (dN 1) (tC (.int 26))) (tC (.int 1))) (dX 1)))
def L1(K:aA):TS:=(de (eD (dz jf (gz Mm (dM (dN 0) dW)) (dz E7 (tC (.int 10)) (tC (.int 39)))) (dX 1)) (de (eD (tC (.str "")) (dX 2)) (de (iE (eI (dz MK (dN 1) (tC (.int 0)))) (HR K)) (fT (dN 2)))))
def AO(K:aA):TS:=(fT (dN 2))
def AN(K:aA):TS:=(fg (eI (dz og (gz (gN K) (dM (dN 0) dW)) (tC (.int 63)))) (AO K) fQ)
def GF(K:aA):TS:=(de (AN K) (fT (dN 1)))
def LS(K:aA):TS:=(de (eD (gz tK (dM (dN 0) dW)) (dX 3)) (de (lJ (dN 3) (dN 1) (dN 2)) (fT (dN 3))))
def yV(K:aA):TS:=(fT (fJ dW))
def yU(K:aA):TS:=(fg (xH (eI (dz kA (dN 1) (tC (.str "number")))) (eI (dz kA (dN 1) (tC (.str "name"))))) (yV K) fQ)
def yT(K:aA):TS:=(fT (mL (BM K) (dN 0) (ft (tC (.int 2))) fi))
def yS(K:aA):TS:=(fg (xH (eI (dz kA (dN 1) (tC (.str "let")))) (eI (dz kA (dN 1) (tC (.str "stamp"))))) (yT K) fQ)
def C6(K:aA):TS:=(de (eD (dz (eC K) (dN 0) (tC (.int 0))) (dX 1)) (de (yU K) (de (yS K) (fT (mL (BM K) (dN 0) (ft (tC (.int 1))) fi)))))
def DI(K:aA):TS:=(fT (fR dW))
def DH(K:aA):TS:=(fg (eI (dz (E9 K false) (dz (eC K) (dN 0) (tC (.int 0))) (fR (dM (tC (.str "number")) (dM (tC (.str "name")) dW))))) (DI K) fQ)
def JT(K:aA):TS:=(de (DH K) (fT (gz (tJ K) (dM (mL (BM K) (dN 0) (ft (dz oU (tC (.int 1)) (gz Kh (dM (dz (E9 K false) (dz (eC K) (dN 0) (tC (.int 0))) (fR (dM (tC (.str "let")) (dM (tC (.str "stamp")) dW)))) dW)))) fi) dW))))
def C5(K:aA):TS:=(fT (fR (dM (fJ (dM (dz (eC K) (dN 0) (tC (.int 3))) (dM (eN jB [] E0 (dM (dN 1) (dM (dz (eC K) (dN 0) (tC (.int 1))) (dM (tC (.bl true)) dW)))) dW))) (dM (fJ (dM (dz (eC K) (dN 0) (tC (.int 2))) (dM (dN 1) dW))) dW))))
def C4(K:aA):TS:=(fg (eI (dz kA (dz (eC K) (dN 0) (tC (.int 0))) (tC (.str "let")))) (C5 K) fQ)
def JR(K:aA):TS:=(de (C4 K) (fT (L3 (IS K (eN rj [] E0 (dM (dN 0) dW))) (fJ (dM (dN 0) (dM (dN 1) dW))) [1])))
def C9(K:aA):TS:=(lJ (dN 1) (dz (eC K) (dN 4) (tC (.int 1))) (tC (.bl true)))
def C8(K:aA):TS:=(fg (kH (eI (dz kA (dz (eC K) (dN 4) (tC (.int 0))) (tC (.str "name")))) (tB (pA (dz (eC K) (dN 4) (tC (.int 1))) (dN 5)))) (C9 K) fQ)
def C7(K:aA):TS:=(de (eD (mW K "list" mf (dN 2)) (dX 3)) (de (eD (dz (eC K) (dN 3) (tC (.int 0))) (dX 4)) (de (eD (dz (eC K) (dN 3) (tC (.int 1))) (dX 5)) (de (C8 K) (fD (jm K "list" mh (dN 2) (dM (eN uK [] E0 (dM (dN 4) (dM (dN 5) dW))) dW)))))))
def JS(K:aA):TS:=(de (eD ir (dX 1)) (de (eD (fR (dM (fJ (dM (dN 0) (dM ir dW))) dW)) (dX 2)) (de (iE (eI (dz og (gz (gN K) (dM (dN 2) dW)) (tC (.int 0)))) (C7 K)) (fT (gz CQ (dM (dN 1) dW))))))
def HD(K:aA):TS:=(eD (dz uR (eN rg [] E0 (dM (dz qv (dN 4) (tC (.int 29))) dW)) (tC (.str "k"))) (dX 6))
def HC(K:aA):TS:=(fg (eI (dz kA (dz jf (dN 4) (tC (.int 29))) (tC (.int 7)))) (HD K) fQ)
def Aj(K:aA):TS:=(fD (jm K "list" eY (dN 2) (dM (fJ (dM (tC (.str "number")) (dM (dz (gL K) (fR (dM (dz iU (dz jf (dN 4) (tC (.int 4))) (tC (.int 1))) (dM (eN xX [] E0 (dM (dN 4) dW)) dW))) (gz Kh (dM (dz kA (dz jf (dN 4) (tC (.int 5))) (tC (.int 3))) dW))) dW))) dW)))
def Ai(K:aA):TS:=(fD (jm K "list" eY (dN 2) (dM (fJ (dM (tC (.str "name")) (dM (dN 6) dW))) dW)))
def Ah(K:aA):TS:=(eD (dz lN (mL (jE K) (dN 2) fi (ft (mE gR (tC (.int 3))))) (fR (dM (fJ (dM (tC (.str "choose")) (dM (dz (gL K) (dN 7) (tC (.int 0))) (dM (dz (gL K) (dN 7) (tC (.int 1))) (dM (dz (gL K) (dN 7) (tC (.int 2))) dW))))) dW))) (dX 2))
def Ag(K:aA):TS:=(eD (dz lN (mL (jE K) (dN 2) fi (ft (mE gR (tC (.int 2))))) (fR (dM (fJ (dM (dz (gL K) (fR (dM (tC (.str "sum")) (dM (tC (.str "less")) dW))) (dz jf (dN 5) (tC (.int 2)))) (dM (dz (gL K) (dN 7) (mE gR (tC (.int 2)))) (dM (dz (gL K) (dN 7) (mE gR (tC (.int 1)))) dW)))) dW))) (dX 2))
def HB(K:aA):TS:=(eD (dz (eC K) (dN 8) (tC (.int 2))) (dX 8))
def HA(K:aA):TS:=(fg (eI (dz (E9 K false) (dz (eC K) (dN 8) (tC (.int 0))) (fR (dM (tC (.str "sum")) (dM (tC (.str "less")) dW))))) (HB K) fQ)
def G9(K:aA):TS:=(eD (dz (eC K) (dN 8) (tC (.int 1))) (dX 6))
def xD(K:aA):TS:=(fg (kH (eI (dz kA (dz (eC K) (dN 8) (tC (.int 0))) (tC (.str "name")))) (eI (dz og (dz jf (dN 4) (tC (.int 3))) (tC (.int 0))))) (G9 K) fQ)
def xC(K:aA):TS:=(de (eD (dz (gL K) (dN 7) (mE gR (tC (.int 1)))) (dX 8)) (de (HA K) (de (xD K) (eD (dz lN (mL (jE K) (dN 2) fi (ft (mE gR (tC (.int 2))))) (fR (dM (fJ (dM (tC (.str "let")) (dM (dN 6) (dM (dz (gL K) (dN 7) (mE gR (tC (.int 2)))) (dM (dz (gL K) (dN 7) (mE gR (tC (.int 1)))) dW))))) dW))) (dX 2)))))
def Da(K:aA):TS:=(de (eD (gz (nC K) (dM (dz lN (fR (dM (tC (.str "stamp")) (dM (dN 9) dW))) (mL (jE K) (dN 2) (ft (dz iU (gz (gN K) (dM (dN 2) dW)) (dN 10))) fi)) dW)) (dX 11)) (eD (dz lN (mL (jE K) (dN 2) fi (ft (dz iU (gz (gN K) (dM (dN 2) dW)) (dN 10)))) (fR (dM (dN 11) dW))) (dX 2)))
def DZ(K:aA):TS:=(fg (eI (dz kA (dN 10) (dz (eC K) (dz (gL K) (dN 1) (dz jf (dN 4) (gz (gN K) (dM (dN 1) dW)))) (tC (.int 1))))) (Da K) fQ)
def xB(K:aA):TS:=(de (eD (dz (gL K) (dN 1) (dz jf (dN 4) (gz (gN K) (dM (dN 1) dW)))) (lz K 2 (gH (dX 9) (gH (dX 10) mB)))) (de (eD (gz Ml (dM (dN 10) (dM (gz (gN K) (dM (dN 2) dW)) dW))) (dX 10)) (DZ K)))
def DY(K:aA):TS:=(fg (eI (dz (lM K) (dN 1) (fR dW))) (xB K) fQ)
def DX(K:aA):TS:=(fg (eI (dz kA (dN 5) (tC (.int 6)))) (xC K) (DY K))
def xA(K:aA):TS:=(fg (eI (dz yz (dN 5) (tC (.int 6)))) (Ag K) (DX K))
def DW(K:aA):TS:=(fg (kH (eI (dz kA (dN 5) (tC (.int 5)))) (eI (dz kA (gz (gN K) (dM (dN 7) dW)) (tC (.int 3))))) (Ah K) (xA K))
def w6(K:aA):TS:=(fg (eI (dz yz (dN 5) (tC (.int 3)))) (Ai K) (DW K))
def rZ(K:aA):TS:=(fg (xH (eI (dz kA (dN 5) (tC (.int 0)))) (kH (eI (dz kA (gz (gN K) (dM (dN 7) dW)) (tC (.int 1)))) (eI (Ao yz yz (tC (.int 2)) (dN 5) (tC (.int 7)))))) (Aj K) (w6 K))
def wz(K:aA):TS:=(de (eD (dz qv (dN 3) (tC (.int 9))) (dX 4)) (de (eD (dz jf (dN 3) (tC (.int 9))) (dX 5)) (de (eD (dz (gL K) (fR (dM (tC (.str "sab")) (dM (tC (.str "tab")) (dM (tC (.str "sob")) (dM (tC (.str "sat")) dW))))) (dz jf (dN 4) (tC (.int 4)))) (dX 6)) (de (HC K) (de (eD (mL (jE K) (dN 2) (ft (mE gR (tC (.int 3)))) fi) (dX 7)) (rZ K))))))
def DV(K:aA):TS:=(de (eD (mW K "list" mf (dN 2)) (dX 12)) (fD (jm K "list" eY (dN 2) (dM (fJ (dM (tC (.str "sum")) (dM (mW K "list" mf (dN 2)) (dM (dN 12) dW)))) dW))))
def Lv(K:aA):TS:=(de (eD (fR (dM (fJ (dM (tC (.str "name")) (dM (tC (.str "sab")) dW))) dW)) (dX 2)) (de (iK (i0 K (dN 0)) (dX 3) (wz K)) (de (iE (eI (dz og (gz (gN K) (dM (dN 2) dW)) (tC (.int 1)))) (DV K)) (fT (dz (gL K) (dN 2) (tC (.int 0)))))))
def GW(K:aA)(S:Str→Nat→Prop):TS:=(fT (eN (pE K S) [] E0 (dM (dN 0) (dM (fR (dM (fJ (dM (tC (.str "st")) (dM (tC (.int 2)) dW))) (dM (fJ (dM (tC (.str "sta")) (dM (tC (.int 1)) dW))) (dM (fJ (dM (tC (.str "st")) (dM (tC (.int 2)) dW))) (dM (fJ (dM (tC (.str "star")) (dM (tC (.int 0)) dW))) dW))))) dW))))
end SW
namespace SW
open PySem L2
variable {K:aA}{vs:List V}{H:Hp}{Q:VK}{E:XK}
abbrev gf(Q:VK):iT:={nx:=λ_ H'=>Q .non H',rt:=Q}
theorem MJ(h:xX vs H Q E):JZ K (gf Q) (start ["_law_cell","_law_size"] vs) H:=by
 obtain⟨c,rfl,k⟩:=h;refine⟨⟨by decide,by decide⟩,⟨by decide,by decide,by decide⟩,(show(0:Int)<10^(59:Int).toNat by decide),?_⟩;refine⟨fG,λp hp=>?_⟩;have h2:0≤c%2∧c%2<2:=by lia
 obtain⟨v,hv,e⟩:=nG (xs:=[V.int 1,V.int (-1)]) h2.1 h2.2;refine⟨(show(0:Int)<2 by decide),eG.of dO,e,?_⟩;have b0:=cB (c / 2) (show(10:Int)^(59:Int).toNat≠0 by decide);have b1:=Int.emod_lt_of_pos (c / 2) (show(0:Int)<10^(59:Int).toNat by decide);have e59:(10:Int)^(59:Int).toNat=10^59:=rfl;rw[e59]at b0 b1;rcases aB.mp hv with rfl|hv
 ·refine⟨.inr ⟨by decide,by decide⟩,k _ _ ?_ (dR hp)⟩;rw[e59];generalize c / 2%10^59=z at *;generalize (10:Int)^59=y at *;lia
 ·rw[aG]at hv;subst hv;refine⟨.inr ⟨by decide,by decide⟩,k _ _ ?_ (dR hp)⟩;rw[e59];generalize c / 2%10^59=z at *;generalize (10:Int)^59=y at *;lia
theorem Nb(h:rg vs H Q E):L1 K (gf Q) (start ["_law_cell","_law_left","_law_word"] vs) H:=by
 obtain⟨c,rfl,k⟩:=h;refine⟨_,rfl,⟨by decide,by decide,by decide⟩,(show(0:Int)<10^(39:Int).toNat by decide),?_⟩;refine⟨λm σ H'=>H'=H∧∃(l:Int)(x:Str),σ=[some (.int c),some (.int l),some (.str x)]∧mS l x∧-1≤l∧(m:Int)=l+1,⟨((if c<0 then -c else c)%10^(39:Int).toNat+1).toNat,rfl,_,_,rfl,rT _,?_,?_⟩,?_⟩
 ·have:=cB (if c<0 then -c else c) (show(10:Int)^(39:Int).toNat≠0 by decide);lia
 ·have:=cB (if c<0 then -c else c) (show(10:Int)^(39:Int).toNat≠0 by decide);exact Int.toNat_of_nonneg (by lia)
 ·rintro m σ H' ⟨rfl,l,x,rfl,hw,hl1,hm⟩;refine⟨_,rfl,?_⟩;refine jI (λhl=>?_) (λhl=>?_)
  ·have hl:(0:Int)≤l:=of_decide_eq_true hl;refine⟨λσ' H''=>∃m',m'<m∧(H''=H'∧∃(l:Int)(x:Str),σ'=[some (.int c),some (.int l),some (.str x)]∧mS l x∧-1≤l∧(m':Int)=l+1),λ_ _ h=>h,?_⟩;obtain⟨ch,hc,e⟩:=zI l;refine⟨(show(0:Int)<26 by decide),_,_,ch,rfl,rfl,fG (by decide),e,rV hw,?_⟩;refine⟨⟨by decide,by decide⟩,?_⟩;refine⟨(l / 26-1+1).toNat,?_,rfl,_,_,rfl,tm hw hl hc,?_,?_⟩
   ·lia
   ·lia
   ·lia
  ·have hl:¬(0:Int)≤l:=λz=>hl (decide_eq_true z);exact(k _ (vH hw hl))
theorem K6(h:py K vs H Q E):GF K (gf Q) (start ["_law_script","_law_most","_law_bound"] vs) H:=by obtain⟨s,xs,m,b,rfl,hs,hl,k⟩:=h;refine⟨.inl hs,_,rfl,?_⟩;refine eK (decide_eq_false (by lia)) ?_;exact k
theorem M9(h:jB vs H Q E):LS K (gf Q) (start ["words","word","value","more"] vs) H:=by obtain⟨d,x,v,kvs,rfl,hd,hl,k⟩:=h;refine⟨d,kvs,rfl,.inl hd,λp hp=>?_⟩;refine⟨nO.k (k:=.inr x) dO (kJ hl),?_⟩;exact(k p _ hp (eF (dR hp) hp) dO)
theorem MB(h:gQ vs H Q E):JT K (gf Q) (start ["_law_piece"] vs) H:=by
  obtain⟨t,v,rfl,hd,k⟩:=h;cases t with
  | num n=>obtain⟨p,rfl,hp⟩:=hd;refine⟨eA.of hp,rfl,fG,λq hq=>?_⟩;refine⟨.inl (eG.of dO),rfl,rfl,_,rfl,?_⟩;refine fW (by decide) ⟨fG,λl hl=>?_⟩;exact k l [] _ ((dR hq).trans (dR hl)) ((dR hq).free hl) dO .nil
  | name x=>obtain⟨p,rfl,hp⟩:=hd;refine⟨eA.of hp,rfl,fG,λq hq=>?_⟩;refine⟨.inl (eG.of dO),rfl,rfl,_,rfl,?_⟩;refine fW (by decide) ⟨fG,λl hl=>?_⟩;exact k l [] _ ((dR hq).trans (dR hl)) ((dR hq).free hl) dO .nil
  | sum a b=>obtain⟨p,x,y,rfl,hp,d1,d2⟩:=hd;refine⟨eA.of hp,rfl,fG,λq hq=>?_⟩;refine⟨.inl (eG.of dO),rfl,rfl,_,rfl,?_⟩;have h1:=iJ (o:=.lst [.str "number",.str "name"]) hq _ _ hp;refine eK (by decide) ⟨eA.of h1,rfl,fG,λq2 hq2=>?_⟩;have h2:=iJ (o:=.lst [.str "let",.str "stamp"]) hq2 _ _ h1;refine⟨.inl (eG.of dO),rfl,rfl,?_⟩;rw[if_neg aN,show rD (V.str "sum") [V.str "let",V.str "stamp"]=false from by decide];refine .inr ⟨_,rfl,?_⟩;refine⟨eA.of h2,jN 1 (by decide) (bS rfl),λq3 hq3=>?_⟩;refine⟨.inr (eA.of dO),λl hl=>?_⟩;have s:=(((dR (o:=.lst [.str "number",.str "name"]) hq).trans (dR (o:=.lst [.str "let",.str "stamp"]) hq2)).trans (dR (o:=.tup [x,y]) hq3)).trans (dR (o:=.lst [x,y]) hl);have s3:=((dR (o:=.lst [.str "number",.str "name"]) hq).trans (dR (o:=.lst [.str "let",.str "stamp"]) hq2)).trans (dR (o:=.tup [x,y]) hq3);exact k l [x,y] _ s (s3.free hl) dO (.cons (d1.mono (dY s)) (.cons (d2.mono (dY s)) .nil))
  | less a b=>obtain⟨p,x,y,rfl,hp,d1,d2⟩:=hd;refine⟨eA.of hp,rfl,fG,λq hq=>?_⟩;refine⟨.inl (eG.of dO),rfl,rfl,_,rfl,?_⟩;have h1:=iJ (o:=.lst [.str "number",.str "name"]) hq _ _ hp;refine eK (by decide) ⟨eA.of h1,rfl,fG,λq2 hq2=>?_⟩;have h2:=iJ (o:=.lst [.str "let",.str "stamp"]) hq2 _ _ h1;refine⟨.inl (eG.of dO),rfl,rfl,?_⟩;rw[if_neg aN,show rD (V.str "less") [V.str "let",V.str "stamp"]=false from by decide];refine .inr ⟨_,rfl,?_⟩;refine⟨eA.of h2,jN 1 (by decide) (bS rfl),λq3 hq3=>?_⟩;refine⟨.inr (eA.of dO),λl hl=>?_⟩;have s:=(((dR (o:=.lst [.str "number",.str "name"]) hq).trans (dR (o:=.lst [.str "let",.str "stamp"]) hq2)).trans (dR (o:=.tup [x,y]) hq3)).trans (dR (o:=.lst [x,y]) hl);have s3:=((dR (o:=.lst [.str "number",.str "name"]) hq).trans (dR (o:=.lst [.str "let",.str "stamp"]) hq2)).trans (dR (o:=.tup [x,y]) hq3);exact k l [x,y] _ s (s3.free hl) dO (.cons (d1.mono (dY s)) (.cons (d2.mono (dY s)) .nil))
  | cho a b c=>obtain⟨p,x,y,z,rfl,hp,d1,d2,d3⟩:=hd;refine⟨eA.of hp,rfl,fG,λq hq=>?_⟩;refine⟨.inl (eG.of dO),rfl,rfl,_,rfl,?_⟩;have h1:=iJ (o:=.lst [.str "number",.str "name"]) hq _ _ hp;refine eK (by decide) ⟨eA.of h1,rfl,fG,λq2 hq2=>?_⟩;have h2:=iJ (o:=.lst [.str "let",.str "stamp"]) hq2 _ _ h1;refine⟨.inl (eG.of dO),rfl,rfl,?_⟩;rw[if_neg aN,show rD (V.str "choose") [V.str "let",V.str "stamp"]=false from by decide];refine .inr ⟨_,rfl,?_⟩;refine⟨eA.of h2,jN 1 (by decide) (bS rfl),λq3 hq3=>?_⟩;refine⟨.inr (eA.of dO),λl hl=>?_⟩;have s:=(((dR (o:=.lst [.str "number",.str "name"]) hq).trans (dR (o:=.lst [.str "let",.str "stamp"]) hq2)).trans (dR (o:=.tup [x,y,z]) hq3)).trans (dR (o:=.lst [x,y,z]) hl);have s3:=((dR (o:=.lst [.str "number",.str "name"]) hq).trans (dR (o:=.lst [.str "let",.str "stamp"]) hq2)).trans (dR (o:=.tup [x,y,z]) hq3);exact k l [x,y,z] _ s (s3.free hl) dO (.cons (d1.mono (dY s)) (.cons (d2.mono (dY s)) (.cons (d3.mono (dY s)) .nil)))
  | lt w a b=>obtain⟨p,x,y,rfl,hp,d1,d2⟩:=hd;refine⟨eA.of hp,rfl,fG,λq hq=>?_⟩;refine⟨.inl (eG.of dO),rfl,rfl,_,rfl,?_⟩;have h1:=iJ (o:=.lst [.str "number",.str "name"]) hq _ _ hp;refine eK (by decide) ⟨eA.of h1,rfl,fG,λq2 hq2=>?_⟩;have h2:=iJ (o:=.lst [.str "let",.str "stamp"]) hq2 _ _ h1;refine⟨.inl (eG.of dO),rfl,rfl,?_⟩;rw[if_neg aN,show rD (V.str "let") [V.str "let",V.str "stamp"]=true from by decide];refine .inr ⟨_,rfl,?_⟩;refine⟨eA.of h2,jN 2 (by decide) (bS rfl),λq3 hq3=>?_⟩;refine⟨.inr (eA.of dO),λl hl=>?_⟩;have s:=(((dR (o:=.lst [.str "number",.str "name"]) hq).trans (dR (o:=.lst [.str "let",.str "stamp"]) hq2)).trans (dR (o:=.tup [x,y]) hq3)).trans (dR (o:=.lst [x,y]) hl);have s3:=((dR (o:=.lst [.str "number",.str "name"]) hq).trans (dR (o:=.lst [.str "let",.str "stamp"]) hq2)).trans (dR (o:=.tup [x,y]) hq3);exact k l [x,y] _ s (s3.free hl) dO (.cons (d1.mono (dY s)) (.cons (d2.mono (dY s)) .nil))
  | st0 w=>obtain⟨p,rfl,hp⟩:=hd;refine⟨eA.of hp,rfl,fG,λq hq=>?_⟩;refine⟨.inl (eG.of dO),rfl,rfl,_,rfl,?_⟩;have h1:=iJ (o:=.lst [.str "number",.str "name"]) hq _ _ hp;refine eK (by decide) ⟨eA.of h1,rfl,fG,λq2 hq2=>?_⟩;have h2:=iJ (o:=.lst [.str "let",.str "stamp"]) hq2 _ _ h1;refine⟨.inl (eG.of dO),rfl,rfl,?_⟩;rw[if_neg aN,show rD (V.str "stamp") [V.str "let",V.str "stamp"]=true from by decide];refine .inr ⟨_,rfl,?_⟩;refine⟨eA.of h2,jN 2 (by decide) (bS rfl),λq3 hq3=>?_⟩;refine⟨.inr (eA.of dO),λl hl=>?_⟩;have s:=(((dR (o:=.lst [.str "number",.str "name"]) hq).trans (dR (o:=.lst [.str "let",.str "stamp"]) hq2)).trans (dR (o:=.tup []) hq3)).trans (dR (o:=.lst []) hl);have s3:=((dR (o:=.lst [.str "number",.str "name"]) hq).trans (dR (o:=.lst [.str "let",.str "stamp"]) hq2)).trans (dR (o:=.tup []) hq3);exact k l [] _ s (s3.free hl) dO .nil
  | st1 w a=>obtain⟨p,x,rfl,hp,d1⟩:=hd;refine⟨eA.of hp,rfl,fG,λq hq=>?_⟩;refine⟨.inl (eG.of dO),rfl,rfl,_,rfl,?_⟩;have h1:=iJ (o:=.lst [.str "number",.str "name"]) hq _ _ hp;refine eK (by decide) ⟨eA.of h1,rfl,fG,λq2 hq2=>?_⟩;have h2:=iJ (o:=.lst [.str "let",.str "stamp"]) hq2 _ _ h1;refine⟨.inl (eG.of dO),rfl,rfl,?_⟩;rw[if_neg aN,show rD (V.str "stamp") [V.str "let",V.str "stamp"]=true from by decide];refine .inr ⟨_,rfl,?_⟩;refine⟨eA.of h2,jN 2 (by decide) (bS rfl),λq3 hq3=>?_⟩;refine⟨.inr (eA.of dO),λl hl=>?_⟩;have s:=(((dR (o:=.lst [.str "number",.str "name"]) hq).trans (dR (o:=.lst [.str "let",.str "stamp"]) hq2)).trans (dR (o:=.tup [x]) hq3)).trans (dR (o:=.lst [x]) hl);have s3:=((dR (o:=.lst [.str "number",.str "name"]) hq).trans (dR (o:=.lst [.str "let",.str "stamp"]) hq2)).trans (dR (o:=.tup [x]) hq3);exact k l [x] _ s (s3.free hl) dO (.cons (d1.mono (dY s)) .nil)
  | st2 w a b=>obtain⟨p,x,y,rfl,hp,d1,d2⟩:=hd;refine⟨eA.of hp,rfl,fG,λq hq=>?_⟩;refine⟨.inl (eG.of dO),rfl,rfl,_,rfl,?_⟩;have h1:=iJ (o:=.lst [.str "number",.str "name"]) hq _ _ hp;refine eK (by decide) ⟨eA.of h1,rfl,fG,λq2 hq2=>?_⟩;have h2:=iJ (o:=.lst [.str "let",.str "stamp"]) hq2 _ _ h1;refine⟨.inl (eG.of dO),rfl,rfl,?_⟩;rw[if_neg aN,show rD (V.str "stamp") [V.str "let",V.str "stamp"]=true from by decide];refine .inr ⟨_,rfl,?_⟩;refine⟨eA.of h2,jN 2 (by decide) (bS rfl),λq3 hq3=>?_⟩;refine⟨.inr (eA.of dO),λl hl=>?_⟩;have s:=(((dR (o:=.lst [.str "number",.str "name"]) hq).trans (dR (o:=.lst [.str "let",.str "stamp"]) hq2)).trans (dR (o:=.tup [x,y]) hq3)).trans (dR (o:=.lst [x,y]) hl);have s3:=((dR (o:=.lst [.str "number",.str "name"]) hq).trans (dR (o:=.lst [.str "let",.str "stamp"]) hq2)).trans (dR (o:=.tup [x,y]) hq3);exact k l [x,y] _ s (s3.free hl) dO (.cons (d1.mono (dY s)) (.cons (d2.mono (dY s)) .nil))
end SW
namespace SW
open PySem L2
def lU(ws:List Str)(x:Str):List Str:=if x∈ws then ws else ws++[x]
def iq(ws:List Str):List (fI×V):=ws.map λx=>(Sum.inr x,V.bl true)
theorem Bp:y∈lU ws x↔y∈ws∨y=x:=by
 unfold lU;split
 ·rename_i h;exact⟨.inl,λz=>z.elim id λe=>e▸h⟩
 ·simp
theorem wV(h:ws.Nodup):(lU ws x).Nodup:=by
 unfold lU;split
 ·exact h
 ·rename_i n;exact xm h n
theorem uz(ws:List Str)(x:Str):(lU ws x).length≤ws.length+1:=by
 unfold lU;split
 ·lia
 ·simp
theorem wC(ws:List Str):mG (iq ws)=ws.map V.str:=by simp[mG,iq,kV]
theorem oB(ws:List Str):(iq ws).length=ws.length:=by simp[iq]
theorem nU(ws:List Str)(x:Str):(fP (iq ws) (Sum.inr x:fI)).isSome=decide (x∈ws):=by
 rw[←jQ];unfold iq;rw[List.any_map];by_cases h:x∈ws
 ·rw[decide_eq_true h];exact cY.mpr ⟨x,h,by simp⟩
 ·rw[decide_eq_false h];refine List.any_eq_false.mpr λy hy=>?_;simp only[dC,decide_eq_true_eq];intro e;cases e;exact h hy
theorem ng(ws:List Str)(x:Str):gA (iq ws) (Sum.inr x:fI) (.bl true)=iq (lU ws x):=by
 unfold lU;by_cases h:x∈ws
 ·rw[if_pos h];unfold gA;rw[jQ,nU,decide_eq_true h,if_pos rfl];unfold iq;rw[cC];refine dD λy _=>?_;simp only[dC];split
  ·rename_i e;rw[e]
  ·rfl
 ·rw[if_neg h,qO _ (by cases e:fP (iq ws) (Sum.inr x:fI) with|none=>rfl|some z=>have:=nU ws x;rw[e,decide_eq_false h]at this;cases this)];simp[iq]
theorem q9(h:kind t="name"):∃x,t=.name x:=by
 cases t with
 | name x=>exact⟨x,rfl⟩
 | _=>simp only[kind]at h;exact absurd h (by decide)
theorem m8(h:kind t="let"):∃x a b,t=.lt x a b:=by
 cases t with
 | lt x a b=>exact⟨x,a,b,rfl⟩
 | _=>simp only[kind]at h;exact absurd h (by decide)
theorem gq(t:T)(us:List V):pS (hd t++us) 0=some (.str (kind t)):=by cases t<;>exact dS (j:=0) rfl
theorem jU(a b:List T):fc (a++b)=fc a+fc b:=by simp[fc]
theorem qj{t:T}(h:∀y,t≠.name y):fc t.kids=t.names.length:=by
 cases t with
 | name y=>exact absurd rfl (h y)
 | _=>simp[fc,T.kids,T.names]<;>lia
theorem gK(h:l≠[]):∃us u,l=us++[u]:=⟨l.dropLast,l.getLast h,(List.dropLast_concat_getLast h).symm⟩
theorem jT:(us++[u])[(us++[u]).length-1]?=some u:=by simp
theorem iZ:(us++[u]).dropLast=us:=by simp
end SW
namespace SW
open PySem L2
variable {K:aA}{vs:List V}{H:Hp}{Q:VK}{E:XK}
theorem uU(hD:D d):∀{ts:List T}{us:List V}{vs:List V},gC H ts vs→H d=some (.dK kvs)→us.length=vs.length→(∀(i:Nat) u v,us[i]?=some u→vs[i]?=some v→∃p,u=.ref p∧H p=some (.tup [v,.ref d]))→iA D H (ts.map λk=>(k,kvs)) us
 | _,us,_,.nil,_,hl,_=>by
  have:us=[]:=by simpa using hl
  subst this;exact .nil
 | _,[],_,.cons _ _,_,hl,_=>by simp at hl
 | _,u::us,_,.cons a r,hd,hl,k=>by obtain⟨p,e,hp⟩:=k 0 u _ rfl rfl;exact .cons ⟨p,_,d,e,hp,a,hd,hD⟩ (uU hD r hd (by simpa using hl) λi u v h1 h2=>k (i+1) u v (by simpa using h1) (by simpa using h2))
theorem L9(h:uK vs H Q E):JR K (gf Q) (start ["piece","lets"] vs) H:=by
 obtain⟨t,v,d,kvs,rfl,hd,hk,hl,k⟩:=h;obtain⟨p,ks,rfl,hp,dk⟩:=hd.open;refine⟨eA.of hp,gq t ks,rfl,_,rfl,?_⟩;refine jI (λhn=>?_) (λhn=>?_)
 ·obtain⟨x,a,b,rfl⟩:=m8 (V.str.inj (of_decide_eq_true hn));obtain⟨p',u1,u2,e,hp',d1,d2⟩:=hd;cases e;refine⟨eA.of hp',rfl,eA.of hp',rfl,?_⟩;refine⟨d,x,.bl true,kvs,rfl,hk,hl,λe1 H1 n1 s1 h1=>?_⟩;refine⟨fG,eZ λq1 H2 hq1 s2 g2=>?_⟩;refine⟨eA.of (s2 _ _ (s1 _ _ hp')),rfl,fG,eZ λq2 H3 hq2 s3 g3=>?_⟩;refine⟨fG,λl hl=>?_⟩;have s4:dy H3 (upd H3 l (.lst [.ref q1,.ref q2])):=dR hl;have s:=(s1.trans s2).trans (s3.trans s4);refine k l [.ref q1,.ref q2] _ s (((s1.trans s2).trans s3).free hl) dO (.cons ⟨q1,u2,e1,rfl,s4 _ _ (s3 _ _ g2),d2.mono (dY s),s4 _ _ (s3 _ _ (s2 _ _ h1)),.inr n1⟩ (.cons ⟨q2,u1,d,rfl,s4 _ _ g3,d1.mono (dY s),s _ _ hk,.inl rfl⟩ .nil))
 ·have nn:∀x a b,t≠.lt x a b:=λx a b z=>hn (by rw[z];exact decide_eq_true rfl);have em:jS t kvs=t.kids.map λk=>(k,kvs):=by
   cases t with
   | lt x a b=>exact absurd rfl (nn x a b)
   | _=>rfl
  rw[em]at k;refine⟨t,.ref p,rfl,hd,λq us H1 s1 h1 d1=>⟨eA.of h1,?_⟩⟩;have hlen:=d1.length;have hks:=eh t.kids;have hsm:us.length≤3:=by rw[hlen];cases t<;>simp[T.kids]
  refine⟨λi m zs H'=>m=us.length-i∧i≤us.length∧zs.length=i∧dy H1 H'∧∀(j:Nat) z v,zs[j]?=some z→us[j]?=some v→∃p,z=.ref p∧H' p=some (.tup [v,.ref d]),⟨us.length,by simp,aS _,rfl,λ_ _ h=>h,λj z v h=>by simp at h⟩,?_⟩;rintro i m zs H' ⟨rfl,hi,hz,s2,hw⟩;by_cases hlt:i<us.length
  ·refine .inr ⟨⟨us,us[i],eA.of (s2 _ _ h1),by simp[hlt]⟩,λx H2 y=>?_⟩;obtain⟨e,y⟩:=y;subst e;have hx:=y us (eA.of (s2 _ _ h1));refine⟨fG,λp2 hp2=>⟨by rw[hz,sizeLine_eq];lia,us.length-(i+1),by lia,rfl,hlt,by simp[hz],s2.trans (dR hp2),λj z v h1 h2=>?_⟩⟩;rcases bK j zs.length with hj|hj
   ·rw[aw hj]at h1;obtain⟨p3,e3,g3⟩:=hw j z v h1 h2;exact⟨p3,e3,dR hp2 _ _ g3⟩
   ·rw[bJ hj]at h1;have hj0:j-zs.length=0:=by
     cases q:j-zs.length with
     | zero=>rfl
     | succ n=>rw[q]at h1;simp at h1
    rw[hj0]at h1;have ej:j=i:=by lia
    subst ej;rw[hx]at h2;cases h2;have:z=.ref p2:=by simpa using h1.symm
    exact⟨p2,this,dO⟩
  ·have e:i=us.length:=by lia
   refine .inl ⟨⟨us,eA.of (s2 _ _ h1),by lia⟩,by rw[hz,sizeLine_eq];lia,λl hl=>?_⟩;have s3:=s2.trans (dR (o:=.lst zs) hl);refine k l zs _ (s1.trans s3) ((s1.trans s2).free hl) dO (uU (.inl rfl) (d1.mono (dY s3)) (s3 _ _ (s1 _ _ hk)) (by lia) λi u v h1 h2=>?_);obtain⟨p3,e3,g3⟩:=hw i u v h1 h2;exact⟨p3,e3,dR hl _ _ g3⟩
def ic(qs:List (T×List (fI×V))):List T:=qs.map (·.1)
theorem ij(a b:List (T×List (fI×V))):ic (a++b)=ic a++ic b:=by simp[ic]
def lO(x:Str)(qs:List (T×List (fI×V))):Prop:=∃q∈qs,q.1.out x∧fP q.2 (Sum.inr x:fI)=none
theorem jv:lO x (a++b)↔lO x a∨lO x b:=by
 unfold lO;constructor
 ·rintro⟨t,h,o⟩;rcases aU.mp h with z|z
  ·exact .inl ⟨t,z,o⟩
  ·exact .inr ⟨t,z,o⟩
 ·rintro(⟨t,h,o⟩|⟨t,h,o⟩)
  ·exact⟨t,af _ h,o⟩
  ·exact⟨t,aO _ h,o⟩
theorem mx:lO x [q]↔q.1.out x∧fP q.2 (Sum.inr x:fI)=none:=by simp[lO]
theorem uV:¬lO x []:=by simp[lO]
theorem Be{x:Str}{ts:List T}{kvs:List (fI×V)}:lO x (ts.map λk=>(k,kvs))↔(∃k∈ts,k.out x)∧fP kvs (Sum.inr x:fI)=none:=by
 unfold lO;constructor
 ·rintro⟨q,h,o,v⟩;obtain⟨k,hk,rfl⟩:=cD.mp h;exact⟨⟨k,hk,o⟩,v⟩
 ·rintro⟨⟨k,hk,o⟩,v⟩;exact⟨(k,kvs),cD.mpr ⟨k,hk,rfl⟩,o,v⟩
theorem yh(t:T)(kvs:List (fI×V)):eu (ic (jS t kvs))+1=t.size:=by
 have h:=jD t;cases t with
 | lt x a b=>simp[ic,jS,eu,T.size]<;>lia
 | _=>rw[←h];simp[ic,jS,T.kids,eu]
theorem zF(kvs:List (fI×V))(h:∀y,t≠.name y):fc (ic (jS t kvs))=t.names.length:=by
 have e:=qj h;cases t with
 | lt x a b=>simp[ic,jS,fc,T.names]<;>lia
 | _=>rw[←e];simp[ic,jS,T.kids,fc]
theorem EC{x:Str}{t:T}{kvs:List (fI×V)}(h:∀y,t≠.name y):lO x (jS t kvs)↔t.out x∧fP kvs (Sum.inr x:fI)=none:=by
 cases t with
 | name y=>exact absurd rfl (h y)
 | lt w a b=>
  have e:fP (gA kvs (Sum.inr w:fI) (.bl true)) (Sum.inr x:fI)=none↔w≠x∧fP kvs (Sum.inr x:fI)=none:=by
   rw[jd];by_cases q:w=x
   ·subst q;simp
   ·have q':¬(Sum.inr x:fI)=Sum.inr w:=λz=>q (Sum.inr.inj z).symm;rw[if_neg q'];simp[q]
  simp only[lO,jS,aB,aF,or_false,T.out];constructor
  ·rintro⟨q,rfl|rfl,o,v⟩
   ·exact⟨.inr ⟨(e.mp v).1,o⟩,(e.mp v).2⟩
   ·exact⟨.inl o,v⟩
  ·rintro⟨o|⟨n,o⟩,v⟩
   ·exact⟨_,.inr rfl,o,v⟩
   ·exact⟨_,.inl rfl,o,e.mpr ⟨n,v⟩⟩
 | _=>rw[show jS _ kvs=(T.kids _).map (λk=>(k,kvs))from rfl,Be];simp[T.kids,T.out]
theorem CJ(h:kvs.length+t.size≤n):∀q∈jS t kvs,q.2.length+q.1.size≤n:=by
 have e:=hX kvs (Sum.inr (match t with|.lt x _ _=>x|_=>""):fI) (.bl true);cases t with
 | lt x a b=>
  have e:=hX kvs (Sum.inr x:fI) (.bl true);simp only[T.size]at h;intro q hq;simp only[jS,aB,aF,or_false]at hq;rcases hq with rfl|rfl
  ·show(gA kvs (Sum.inr x) (V.bl true)).length+b.size≤n;lia
  ·show kvs.length+a.size≤n;lia
 | _=>
  simp only[T.size]at h;intro q hq;simp only[jS,T.kids,aW,bU,aB,aF,or_false]at hq<;>first
   | exact hq.elim
   | (rcases hq with rfl|rfl|rfl<;>(simp only;lia))
   | (rcases hq with rfl|rfl<;>(simp only;lia))
   | (subst hq;simp only;lia)
structure Ks(t:T)(H₀ H:Hp)(f l:Addr)(ws:List Str)(qs:List (T×List (fI×V)))(us:List V):Prop where
 same:dy H₀ H
 nf:H₀ f=none
 nl:H₀ l=none
 f_:H f=some (.dK (iq ws))
 l_:H l=some (.lst us)
 pr:iA (λe=>e≠f) H qs us
 nd:ws.Nodup
 cnt:ws.length+fc (ic qs)≤t.names.length
 sz:eu (ic qs)≤900
 dp:∀q∈qs,q.2.length+q.1.size≤950
 iff:∀x,x∈ws∨lO x qs↔t.out x
def Mx(v:V)(t:T)(H:Hp)(m:Nat)(σ:St)(H':Hp):Prop:=∃f l j3 j4 j5 ws qs us,σ=[some v,some (.ref f),some (.ref l),j3,j4,j5]∧Ks t H H' f l ws qs us∧m=eu (ic qs)
theorem MA(h:qA vs H Q E):JS K (gf Q) (start ["piece","found","waiting","pair","current","lets"] vs) H:=by
 obtain⟨t,v,rfl,hd,hsz,hnm,k⟩:=h;intro f hf;refine(λd hdn=>⟨fG,λp hp=>⟨fG,λl hl=>?_⟩⟩);have s1:dy H (upd H f (.dK [])):=dR hf;have s2:=dR (o:=.dK []) hdn;have s3:=dR (o:=.tup [v,.ref d]) hp;have s4:=dR (o:=.lst [.ref p]) hl;have hfd:d≠f:=(dZ (dO (H:=H) (a:=f) (o:=.dK [])) hdn).symm;refine⟨Mx v t H,⟨_,f,l,none,none,none,[],[(t,[])],[.ref p],rfl,?_,rfl⟩,?_⟩
 ·refine⟨s1.trans (s2.trans (s3.trans s4)),hf,((s1.trans s2).trans s3).free hl,s4 _ _ (s3 _ _ (s2 _ _ dO)),dO,.cons ⟨p,v,d,rfl,s4 _ _ dO,hd.mono (dY (s1.trans (s2.trans (s3.trans s4)))),s4 _ _ (s3 _ _ dO),hfd⟩ .nil,List.nodup_nil,?_,?_,?_,λx=>?_⟩
  ·simp[ic,fc]
  ·simp[ic,eu];lia
  ·intro q hq;rw[aG]at hq;subst hq;simp;lia
  ·rw[mx];simp[zy]
 ·rintro m σ H1 ⟨f,l,j3,j4,j5,ws,qs,us,rfl,A,rfl⟩;refine⟨.inl (eG.of A.l_),_,rfl,?_⟩;by_cases hv:us=[]
  ·subst hv;cases A.pr;refine eK rfl ?_;have hlen:ws.length<64:=cV (aY (be _ _) A.cnt) hnm;refine⟨f,_,ws,rfl,.inl A.f_,wC ws,hlen,λq ws' hq pm so=>?_⟩;refine k q ws' _ (A.same.trans (dR hq)) (A.same.free hq) dO (Et (yg so) (pm.nodup_iff.mpr A.nd)) λx=>?_;rw[pm.mem_iff,←A.iff x];exact⟨.inl,λz=>z.elim id λz=>(uV z).elim⟩
  ·obtain⟨us,u,rfl⟩:=gK hv;refine fW (decide_eq_true (by simp)) ?_;obtain⟨qs',⟨t',kvs⟩,rfl,d1,p',v',d',rfl,hp',dn,hd',hdf⟩:=A.pr.snoc;refine⟨λσ' H'=>∃m',m'<eu (ic (qs'++[(t',kvs)]))∧Mx v t H m' σ' H',λ_ _ h=>h,?_⟩;refine⟨.inl ⟨rfl,_,eG.of A.l_⟩,A.l_,jT,?_⟩;rw[iZ];have hfl:f≠l:=fB A.f_ A.l_ (by intro z;cases z);have hdl:d'≠l:=fB hd' A.l_ (by intro z;cases z);have tl1:fO H1 (upd H1 l (.lst us)):=fL A.l_;have s3:dy H (upd H1 l (.lst us)):=eF A.same A.nl;have f3:(upd H1 l (.lst us)) f=some (.dK (iq ws)):=by rw[db hfl];exact A.f_
   have l3:(upd H1 l (.lst us)) l=some (.lst us):=dO;have g3:(upd H1 l (.lst us)) d'=some (.dK kvs):=by rw[db hdl];exact hd'
   have d3:iA (λe=>e≠f) (upd H1 l (.lst us)) qs' us:=d1.mono tl1 λe kv h1 h2=>⟨by rw[db (fB h2 A.l_ (by intro z;cases z))];exact h2,h1⟩;have e3:=dn.mono tl1;have hp3:=tl1 _ _ hp';generalize upd H1 l (.lst us)=H3 at s3 f3 l3 d3 e3 hp3 g3⊢;have hcnt:=A.cnt;have hsz2:=A.sz;have hdp:=A.dp (t',kvs) (aO _ (aG.mpr rfl));simp only at hdp;rw[ij,fC]at hsz2;rw[ij,jU]at hcnt;have eq1:eu (ic [(t',kvs)])=t'.size:=by simp[ic,eu]
   have eq2:fc (ic [(t',kvs)])=t'.names.length:=by simp[ic,fc]
   rw[eq1]at hsz2;rw[eq2]at hcnt;obtain⟨pc,ks,rfl,hpc,dk⟩:=e3.open;refine⟨eA.of hp3,rfl,?_⟩;refine⟨eA.of hp3,rfl,?_⟩;have rest:∀(ws':List Str)(H4:Hp),dy H H4→H4 f=some (.dK (iq ws'))→H4 l=some (.lst us)→H4 d'=some (.dK kvs)→iA (λe=>e≠f) H4 qs' us→gG H4 t' (.ref pc)→ws'.Nodup→ws'.length+fc (ic qs')+fc (ic (jS t' kvs))≤t.names.length→
     (∀x,x∈ws'∨lO x qs'∨lO x (jS t' kvs)↔t.out x)→
     (fD (jm K "list" mh (dN 2) (dM (eN uK [] E0 (dM (dN 4) (dM (dN 5) dW))) dW))) {gf Q with nx:=λσ' H'=>∃m',m'<eu (ic (qs'++[(t',kvs)]))∧Mx v t H m' σ' H'}
      [some v,some (.ref f),some (.ref l),some (.ref p'),some (.ref pc),some (.ref d')] H4:=by
    intro ws' H4 s4 f4 l4 g4 d4 e4 nd4 c4 i4;refine⟨.inl ⟨rfl,_,eG.of l4⟩,t',.ref pc,d',kvs,rfl,e4,g4,by lia,λl2 us2 H5 s5 n5 h5 d5=>?_⟩;have hk:=yh t' kvs;have q1:=d4.length;have q2:=d5.length;have q3:=eh (ic qs');have q4:=eh (ic (jS t' kvs));have q5:(ic qs').length=qs'.length:=by simp[ic]
    have q6:(ic (jS t' kvs)).length=(jS t' kvs).length:=by simp[ic]
    refine⟨l,l2,us,us2,rfl,rfl,s5 _ _ l4,h5,by rw[sizeLine_eq];lia,?_⟩;have l5:=s5 _ _ l4;have t6:fO H5 (upd H5 l (.lst (us++us2))):=fL l5;have dl6:∀(D:Addr→Prop) e kv,D e→H5 e=some (.dK kv)→(upd H5 l (.lst (us++us2))) e=some (.dK kv)∧D e:=λD e kv h1 h2=>⟨by rw[db (fB h2 l5 (by intro z;cases z))];exact h2,h1⟩;have d6:iA (λe=>e≠f) H5 (jS t' kvs) us2:=d5.mono fO.refl λe kv h1 h2=>⟨h2,by
     rcases h1 with rfl|h1
     ·exact hdf
     ·exact(dZ f4 h1).symm⟩
    have d7:iA (λe=>e≠f) H5 qs' us:=d4.mono (dY s5) λe kv h1 h2=>⟨s5 _ _ h2,h1⟩;refine⟨eu (ic (qs'++jS t' kvs)),by rw[ij,ij,fC,fC,eq1];lia,f,l,_,_,_,ws',qs'++jS t' kvs,us++us2,rfl,⟨eF (s4.trans s5) A.nl,A.nf,A.nl,?_,dO,(d7.append d6).mono t6 (dl6 _),nd4,?_,?_,λq hq=>?_,λx=>?_⟩,rfl⟩
    ·rw[db hfl];exact s5 _ _ f4
    ·rw[ij,jU];lia
    ·rw[ij,fC];lia
    ·rcases aU.mp hq with z|z
     ·exact A.dp q (af _ z)
     ·exact CJ hdp q z
    ·rw[jv];exact i4 x
   have nameOnly:∀x,t'=.name x→jS t' kvs=[]:=λx e=>by subst e;rfl
   refine⟨eA.of hpc,gq t' ks,rfl,_,rfl,?_⟩;refine jI (λhn=>?_) (λhn=>?_)
   ·obtain⟨x,rfl⟩:=q9 (V.str.inj (of_decide_eq_true hn));refine⟨eA.of hpc,dS (j:=1) rfl,iQ.k (k:=.inr x) g3,_,rfl,?_⟩;have q2:(T.name x).names.length=1:=rfl;have q3:fc (ic (jS (T.name x) kvs))=0:=rfl;have q4:∀y,¬lO y (jS (T.name x) kvs):=λy=>uV;refine jI (λhx=>?_) (λhx=>?_)
    ·have hx:fP kvs (Sum.inr x:fI)=none:=by
      cases q:fP kvs (Sum.inr x:fI) with
      | none=>rfl
      | some z=>rw[q]at hx;cases hx
     refine⟨eA.of hpc,dS (j:=1) rfl,nO.k (k:=.inr x) f3 (kJ (by rw[oB];lia)),?_⟩;rw[ng];have tf:fO H3 (upd H3 f (.dK (iq (lU ws x)))):=AD f3;refine rest (lU ws x) _ (eF s3 A.nf) dO ?_ ?_ (d3.mono tf λe kv h1 h2=>⟨by rw[db h1];exact h2,h1⟩) (e3.mono tf) (wV A.nd) ?_ λy=>?_
     ·rw[db hfl.symm];exact l3
     ·rw[db hdf];exact g3
     ·have q1:=uz ws x;lia
     ·rw[Bp,←A.iff y,jv,mx];have q5:(T.name x).out y∧fP kvs (Sum.inr y:fI)=none↔y=x:=⟨λz=>z.1.symm,λz=>⟨z.symm,z▸hx⟩⟩;show _↔y∈ws∨lO y qs'∨((T.name x).out y∧fP kvs (Sum.inr y:fI)=none);rw[q5];constructor
      ·rintro((z|z)|z|z)
       ·exact .inl z
       ·exact .inr (.inr z)
       ·exact .inr (.inl z)
       ·exact(q4 y z).elim
      ·rintro(z|z|z)
       ·exact .inl (.inl z)
       ·exact .inr (.inl z)
       ·exact .inl (.inr z)
    ·refine rest ws _ s3 f3 l3 g3 d3 e3 A.nd (by lia) λy=>?_;rw[←A.iff y,jv,mx];have q5:¬((T.name x).out y∧fP kvs (Sum.inr y:fI)=none):=λz=>by have e:x=y:=z.1;subst e;rw[z.2]at hx;exact hx rfl
     constructor
     ·rintro(z|z|z)
      ·exact .inl z
      ·exact .inr (.inl z)
      ·exact(q4 y z).elim
     ·rintro(z|z|z)
      ·exact .inl z
      ·exact .inr (.inl z)
      ·exact(q5 z).elim
   ·have nn:∀y,t'≠.name y:=λy z=>hn (by rw[z];exact decide_eq_true rfl);refine fK ?_;refine rest ws _ s3 f3 l3 g3 d3 e3 A.nd ?_ λy=>?_
    ·rw[zF kvs nn];lia
    ·rw[EC nn,←A.iff y,jv,mx]
theorem CM(xs:List V)(k:Nat)(hk:0<k):ie xs (some (-(k:Int))) none=xs.drop (xs.length-k):=by
 unfold ie HT.kL;have h1:(-(k:Int))<0:=by lia
 simp only[h1,if_true];have e:(-(k:Int)+(xs.length:Int)).toNat=xs.length-k:=by lia
 rw[e,bf];rw[ah];lia
theorem oN(xs:List V)(k:Nat)(hk:0<k):ie xs none (some (-(k:Int)))=xs.take (xs.length-k):=by
 unfold ie HT.kL;have h1:(-(k:Int))<0:=by lia
 simp only[h1,if_true,ag,bg];have e:(-(k:Int)+(xs.length:Int)).toNat=xs.length-k:=by lia
 rw[e]
theorem lT(xs:List V)(k:Nat)(hk:k≤xs.length):ie xs (some (k:Int)) none=xs.drop k:=by unfold ie;rw[HT.K5,HT.Jd,bp hk,bf];rw[ah];lia
theorem tE(xs:List V)(k:Nat)(hk:k≤xs.length):ie xs none (some (k:Int))=xs.take k:=by unfold ie;rw[HT.K5,HT.Jd,bp hk,ag,bg]
theorem gC.split:∀{us:List V}{ts:List T}{ws:List V},gC H ts (us++ws)→∃ta tb,ts=ta++tb∧gC H ta us∧gC H tb ws
 | [],ts,ws,h=>⟨[],ts,rfl,.nil,h⟩
 | u::us,_,ws,.cons a r=>by obtain⟨ta,tb,rfl,h1,h2⟩:=gC.split (us:=us) r;exact⟨_::ta,tb,rfl,.cons a h1,h2⟩
theorem uy(xs:List V)(a b:V):pS (xs++[a,b]) (-2)=some a:=by
 unfold pS Cj;have h1:¬(0:Int)≤-2:=by decide
 have h2 : -((xs++[a,b]).length:Int)≤-2:=by simp;lia
 rw[if_neg h1,if_pos h2];have e:(-2+((xs++[a,b]).length:Int)).toNat=xs.length:=by simp;lia
 show(xs++[a,b])[(-2+((xs++[a,b]).length:Int)).toNat]?=some a;rw[e];simp
theorem qa(xs:List V)(a b:V):pS (xs++[a,b]) (-1)=some b:=by have:=CV (xs++[a]) b;rw[aV]at this;exact this
section
variable {S:Str→Nat→Prop}{H₀ H1:Hp}{n:Nat}{l p:Addr}{ts:List T}{t:T}{v:V}
theorem kr.mono(P:kr S H₀ H n l vs ts)(s:dy H H1):kr S H₀ H1 n l vs ts:=⟨P.same.trans s,P.new,s _ _ P.at_,P.den.mono (dY s),P.sz,P.one,P.wt⟩
theorem kr.push(P:kr S H₀ H n l vs ts)(hd:gG H t v)(wt:WG S t)(hs:t.size=1):kr S H₀ (upd H l (.lst (vs++[v]))) (n+1) l (vs++[v]) (ts++[t]):=by
 have tl:=fL (o:=.lst (vs++[v])) P.at_;refine⟨eF P.same P.new,P.new,dO,(P.den.mono tl).append (.cons (hd.mono tl) .nil),?_,by simp,λu hu=>?_⟩
 ·rw[fC,fm,jC];have:=P.sz;lia
 ·rcases aU.mp hu with z|z
  ·exact P.wt u z
  ·rw[aG]at z;subst z;exact wt
theorem kr.fold(P:kr S H₀ H n l (us++ws) (ta++tb))(s:dy H H1)(hp:H1 p=none)(d:gC H ta us)(hd:gG H1 t v)(wt:WG S t)(hs:t.size=eu tb+1):kr S H₀ (upd H1 p (.lst (us++[v]))) (n+1) p (us++[v]) (ta++[t]):=by
 have tl:=iJ (o:=.lst (us++[v])) hp;refine⟨(P.same.trans s).trans (dR hp),(P.same.trans s).free hp,dO,((d.mono (dY s)).mono tl).append (.cons (hd.mono tl) .nil),?_,by simp,λu hu=>?_⟩
 ·have:=P.sz;rw[fC]at this⊢;rw[fm,jC];lia
 ·rcases aU.mp hu with z|z
  ·exact P.wt u (af _ z)
  ·rw[aG]at z;subst z;exact wt
def Cg(S:Str→Nat→Prop)(H₀:Hp)(c st:Addr)(n:Nat)(σ:L2.St)(H:Hp):Prop:=
 ∃l vs ts j3 j4 j5 j6 j7 j8 j9 j10 j11 j12,σ=[some (.ref c),some (.ref st),some (.ref l),j3,j4,j5,j6,j7,j8,j9,j10,j11,j12]∧kr S H₀ H n l vs ts
end
section
variable {S:Str→Nat→Prop}{H₀:Hp}{n:Nat}{l c st li:Addr}{ts:List T}{D:iT}{cell rest way:Int}{x:Str}{j8 j9 j10 j11 j12:Option V}
theorem me(P:kr S H₀ H n l vs ts)(hn:n≤1000)(hD:∀σ H,Cg S H₀ c st (n+1) σ H→D.nx σ H):
  Aj K D [some (.ref c),some (.ref st),some (.ref l),some (.int cell),some (.int rest),some (.int way),some (.str x),some (.ref li),j8,j9,j10,j11,j12] H:=by
 refine⟨.inl ⟨rfl,_,eG.of P.at_⟩,?_⟩;refine⟨(show(0:Int)<4 by decide),rest,rfl,λz H1 hz s1=>⟨fG,eZ λq H2 hq zq hq1=>?_⟩⟩;have P1:=(P.mono s1).mono zq;refine⟨(show(0:Int)<5 by decide),rfl,.inr ⟨_,rfl,?_⟩⟩;have hi:0≤(if decide (V.int (rest%5)=V.int 3)=true then(1:Int)else 0)∧(if decide (V.int (rest%5)=V.int 3)=true then(1:Int)else 0)<([V.int (rest%4-1),V.int z]:List V).length:=by
  constructor
  ·split<;>decide
  ·show _<((2:Nat):Int);split<;>decide
 obtain⟨u,hu,e⟩:=nG hi.1 hi.2;obtain⟨y,rfl,hy⟩:∃y,u=.int y∧(-(10^60)<y∧y<10^60):=by
  have e60:(10:Int)^60=1000000000000000000000000000000000000000000000000000000000000:=by decide
  have e59:(10:Int)^59=100000000000000000000000000000000000000000000000000000000000:=by decide
  rw[e60];rw[e59]at hz;rcases aB.mp hu with rfl|hu
  ·exact⟨_,rfl,by lia⟩
  ·rw[aG]at hu;exact⟨_,hu,by lia⟩
 refine⟨eG.of hq1,e,fG,λp hp=>?_⟩;have P2:=P1.mono (dR (o:=.tup [.str "number",.int y]) hp);have hl:vs.length≤n:=by rw[P.den.length];exact aY (eh ts) P.sz
 refine⟨P2.at_,by rw[sizeLine_eq];lia,hD _ _ ⟨l,vs++[.ref p],ts++[.num y],_,_,_,_,_,_,_,_,_,_,rfl,P2.push (t:=.num y) (v:=.ref p) ⟨p,rfl,dO⟩ hy rfl⟩⟩
theorem vi(P:kr S H₀ H n l vs ts)(hn:n≤1000)(hx:Wg x)(hD:∀σ H,Cg S H₀ c st (n+1) σ H→D.nx σ H):
  Ai K D [some (.ref c),some (.ref st),some (.ref l),some (.int cell),some (.int rest),some (.int way),some (.str x),some (.ref li),j8,j9,j10,j11,j12] H:=by
 refine⟨.inl ⟨rfl,_,eG.of P.at_⟩,fG,λp hp=>?_⟩;have P2:=P.mono (dR (o:=.tup [.str "name",.str x]) hp);have hl:vs.length≤n:=by rw[P.den.length];exact aY (eh ts) P.sz
 refine⟨P2.at_,by rw[sizeLine_eq];lia,hD _ _ ⟨l,vs++[.ref p],ts++[.name x],_,_,_,_,_,_,_,_,_,_,rfl,P2.push (t:=.name x) (v:=.ref p) ⟨p,rfl,dO⟩ hx rfl⟩⟩
theorem sK(P:kr S H₀ H n l (us++[a,b,d]) (ta++[t1,t2,t3]))(hn:n≤1000)(d0:gC H ta us)(d1:gG H t1 a)(d2:gG H t2 b)(d3:gG H t3 d)(hli:H li=some (.lst [a,b,d]))(hD:∀σ H,Cg S H₀ c st (n+1) σ H→D.nx σ H):
  Ah K D [some (.ref c),some (.ref st),some (.ref l),some (.int cell),some (.int rest),some (.int way),some (.str x),some (.ref li),j8,j9,j10,j11,j12] H:=by
 refine⟨eG.of P.at_,λq hq=>?_⟩;rw[show(-3:Int)=-((3:Nat):Int)from rfl,oN _ 3 (by decide),show(us++[a,b,d]).length-3=us.length by simp,cE];have s1:=dR (o:=.lst us) hq;have g1:(upd H q (.lst us)) q=some (.lst us):=dO;generalize upd H q (.lst us)=G1 at s1 g1⊢;refine⟨eG.of (s1 _ _ hli),rfl,eG.of (s1 _ _ hli),rfl,eG.of (s1 _ _ hli),rfl,fG,eZ λp G2 hp s2 g2=>?_⟩;refine⟨fG,eZ λq2 G3 hq2 s3 g3=>?_⟩;have sA:=s1.trans (s2.trans s3);have hl:(us++[a,b,d]).length≤n:=by rw[P.den.length];exact aY (eh _) P.sz
 rw[aD]at hl;refine⟨s3 _ _ (s2 _ _ g1),g3,by rw[sizeLine_eq];simp;lia,λp3 hp3=>hD _ _ ⟨p3,us++[.ref p],ta++[.cho t1 t2 t3],_,_,_,_,_,_,_,_,_,_,rfl,P.fold (t:=.cho t1 t2 t3) (v:=.ref p) sA hp3 d0 ⟨p,a,b,d,rfl,s3 _ _ g2,d1.mono (dY sA),d2.mono (dY sA),d3.mono (dY sA)⟩ ⟨P.wt _ (by simp),P.wt _ (by simp),P.wt _ (by simp)⟩ (by simp[T.size,eu];lia)⟩⟩;simp
theorem yu(P:kr S H₀ H n l (us++[a,b]) (ta++[t1,t2]))(hn:n≤1000)(d0:gC H ta us)(d1:gG H t1 a)(d2:gG H t2 b)(hli:H li=some (.lst (zs++[a,b])))(hD:∀σ H,Cg S H₀ c st (n+1) σ H→D.nx σ H):
  Ag K D [some (.ref c),some (.ref st),some (.ref l),some (.int cell),some (.int rest),some (.int way),some (.str x),some (.ref li),j8,j9,j10,j11,j12] H:=by
 refine⟨eG.of P.at_,λq hq=>?_⟩;rw[show(-2:Int)=-((2:Nat):Int)from rfl,oN _ 2 (by decide),show(us++[a,b]).length-2=us.length by simp,cE];have s1:=dR (o:=.lst us) hq;have g1:(upd H q (.lst us)) q=some (.lst us):=dO;generalize upd H q (.lst us)=G1 at s1 g1⊢;refine⟨fG,eZ λq1 G1b hq1 s1b g1b=>?_⟩;have sB:=s1.trans s1b;have hw:0≤way%2∧way%2<2:=by lia
 obtain⟨u,hu,e⟩:=nG (xs:=[V.str "sum",V.str "less"]) hw.1 hw.2;refine⟨(show(0:Int)<2 by decide),eG.of g1b,e,?_⟩;refine⟨eG.of (sB _ _ hli),uy zs a b,eG.of (sB _ _ hli),qa zs a b,fG,eZ λp G2 hp s2 g2=>?_⟩;refine⟨fG,eZ λq2 G3 hq2 s3 g3=>?_⟩;have sA:=sB.trans (s2.trans s3);have hl:(us++[a,b]).length≤n:=by rw[P.den.length];exact aY (eh _) P.sz
 rw[aD]at hl;have e1:=d1.mono (dY sA);have e2:=d2.mono (dY sA);have w1:WG S t1:=P.wt _ (by simp);have w2:WG S t2:=P.wt _ (by simp);refine⟨s3 _ _ (s2 _ _ (s1b _ _ g1)),g3,by rw[sizeLine_eq];simp;lia,λp3 hp3=>?_⟩;rcases aB.mp hu with rfl|hu
 ·exact hD _ _ ⟨p3,us++[.ref p],ta++[.sum t1 t2],_,_,_,_,_,_,_,_,_,_,rfl,P.fold (t:=.sum t1 t2) (v:=.ref p) sA hp3 d0 ⟨p,a,b,rfl,s3 _ _ g2,e1,e2⟩ ⟨w1,w2⟩ (by simp[T.size,eu])⟩
 ·rw[aG]at hu;subst hu;exact hD _ _ ⟨p3,us++[.ref p],ta++[.less t1 t2],_,_,_,_,_,_,_,_,_,_,rfl,P.fold (t:=.less t1 t2) (v:=.ref p) sA hp3 d0 ⟨p,a,b,rfl,s3 _ _ g2,e1,e2⟩ ⟨w1,w2⟩ (by simp[T.size,eu])⟩
 all_goals simp
end
theorem wF(h:(if false=true then !rD (V.str (kind t)) [V.str "sum",V.str "less"]else rD (V.str (kind t)) [V.str "sum",V.str "less"])=true):(∃a b,t=.sum a b)∨∃a b,t=.less a b:=by
 rw[if_neg aN]at h;cases t with
 | sum a b=>exact .inl ⟨a,b,rfl⟩
 | less a b=>exact .inr ⟨a,b,rfl⟩
 | _=>simp only[kind]at h;exact absurd h (by decide)
section
variable {S:Str→Nat→Prop}{H₀:Hp}{n:Nat}{l c st li:Addr}{ts:List T}{D:iT}{cell rest way:Int}{x:Str}{j8 j9 j10 j11 j12:Option V}
theorem yw(P:kr S H₀ H n l (us++[a,b]) (ta++[t1,t2]))(hn:n≤1000)(d0:gC H ta us)(d1:gG H t1 a)(d2:gG H t2 b)(hli:H li=some (.lst (zs++[a,b])))(hx:Wg x)(hD:∀σ H,Cg S H₀ c st (n+1) σ H→D.nx σ H):
  xC K D [some (.ref c),some (.ref st),some (.ref l),some (.int cell),some (.int rest),some (.int way),some (.str x),some (.ref li),j8,j9,j10,j11,j12] H:=by
 have w1:WG S t1:=P.wt _ (by simp);have w2:WG S t2:=P.wt _ (by simp);have last:∀(y:Str)(vl:V)(G:Hp),Wg y→dy H G→
   (eD (dz lN (mL (jE K) (dN 2) fi (ft (mE gR (tC (.int 2))))) (fR (dM (fJ (dM (tC (.str "let")) (dM (dN 6) (dM (dz (gL K) (dN 7) (mE gR (tC (.int 2)))) (dM (dz (gL K) (dN 7) (mE gR (tC (.int 1)))) dW))))) dW))) (dX 2)) D
    [some (.ref c),some (.ref st),some (.ref l),some (.int cell),some (.int rest),some (.int way),some (.str y),some (.ref li),some vl,j9,j10,j11,j12] G:=by
  intro y vl G hy sG;have PG:=P.mono sG;refine⟨eG.of PG.at_,λq hq=>?_⟩;rw[show(-2:Int)=-((2:Nat):Int)from rfl,oN _ 2 (by decide),show(us++[a,b]).length-2=us.length by simp,cE];have s1:=dR (o:=.lst us) hq;have g1:(upd G q (.lst us)) q=some (.lst us):=dO;generalize upd G q (.lst us)=G1 at s1 g1⊢;have hli1:=s1 _ _ (sG _ _ hli);refine⟨eG.of hli1,uy zs a b,eG.of hli1,qa zs a b,fG,eZ λp G2 hp s2 g2=>?_⟩;refine⟨fG,eZ λq2 G3 hq2 s3 g3=>?_⟩;have sA:=s1.trans (s2.trans s3);have hl:(us++[a,b]).length≤n:=by rw[P.den.length];exact aY (eh _) P.sz
  rw[aD]at hl;have e1:=(d1.mono (dY sG)).mono (dY sA);have e2:=(d2.mono (dY sG)).mono (dY sA);refine⟨s3 _ _ (s2 _ _ g1),g3,by rw[sizeLine_eq];simp;lia,λp3 hp3=>?_⟩;exact hD _ _ ⟨p3,us++[.ref p],ta++[.lt y t1 t2],_,_,_,_,_,_,_,_,_,_,rfl,PG.fold (t:=.lt y t1 t2) (v:=.ref p) sA hp3 (d0.mono (dY sG)) ⟨p,a,b,rfl,s3 _ _ g2,e1,e2⟩ ⟨hy,w1,w2⟩ (by simp[T.size,eu])⟩;simp
 have rest2:∀(tl:T)(vl:V)(G:Hp),dy H G→gG G tl vl→WG S tl→
   (de (xD K) (eD (dz lN (mL (jE K) (dN 2) fi (ft (mE gR (tC (.int 2))))) (fR (dM (fJ (dM (tC (.str "let")) (dM (dN 6) (dM (dz (gL K) (dN 7) (mE gR (tC (.int 2)))) (dM (dz (gL K) (dN 7) (mE gR (tC (.int 1)))) dW))))) dW))) (dX 2))) D
    [some (.ref c),some (.ref st),some (.ref l),some (.int cell),some (.int rest),some (.int way),some (.str x),some (.ref li),some vl,j9,j10,j11,j12] G:=by
  intro tl vl G sG dl wl;obtain⟨pl,ks,rfl,hpl,_⟩:=dl.open;refine⟨eA.of hpl,gq tl ks,rfl,_,rfl,?_⟩;refine jI (λhk=>?_) (λhk=>?_)
  ·obtain⟨y,rfl⟩:=q9 (V.str.inj (of_decide_eq_true hk));refine⟨(show(0:Int)<3 by decide),_,rfl,?_⟩;refine jI (λ_=>?_) (λ_=>?_)
   ·exact⟨eA.of hpl,dS (j:=1) rfl,last y _ G wl sG⟩
   ·exact last x _ G hx sG
  ·exact fK (last x _ G hx sG)
 obtain⟨pb,ks,rfl,hpb,_⟩:=d2.open;refine⟨eG.of hli,qa zs a _,?_⟩;refine⟨eA.of hpb,gq t2 ks,fG,eZ λq G1 hq s1 g1=>?_⟩;refine⟨.inl (eG.of g1),rfl,rfl,_,rfl,?_⟩;refine jI (λhk=>?_) (λhk=>?_)
 ·rcases wF hk with⟨a',b',rfl⟩|⟨a',b',rfl⟩
  ·obtain⟨p',u1,u2,e,h3,e1,e2⟩:=d2;cases e;exact⟨eA.of (s1 _ _ h3),rfl,rest2 b' u2 G1 s1 (e2.mono (dY s1)) w2.2⟩
  ·obtain⟨p',u1,u2,e,h3,e1,e2⟩:=d2;cases e;exact⟨eA.of (s1 _ _ h3),rfl,rest2 b' u2 G1 s1 (e2.mono (dY s1)) w2.2⟩
 ·exact rest2 t2 _ G1 s1 (d2.mono (dY s1)) w2
theorem Ar(hm:m≤2)(hS:S nm m)(hl:ws.length=m)(d:gC H tb ws)(wt:∀t∈tb,WG S t)(hp:H p=some (.tup ([.str "stamp",.str nm]++ws))):
  ∃t,gG H t (.ref p)∧WG S t∧t.size=eu tb+1:=by
 cases d with
 | nil=>subst hl;exact⟨.st0 nm,⟨p,rfl,hp⟩,hS,rfl⟩
 | @cons t1 v1 tb ws a r=>
  cases r with
  | nil=>subst hl;exact⟨.st1 nm t1,⟨p,v1,rfl,hp,a⟩,⟨hS,wt _ (by simp)⟩,by simp[T.size,eu]⟩
  | @cons t2 v2 tb ws b r=>
   cases r with
   | nil=>subst hl;exact⟨.st2 nm t1 t2,⟨p,v1,v2,rfl,hp,a,b⟩,⟨hS,wt _ (by simp),wt _ (by simp)⟩,by simp[T.size,eu]⟩
   | cons _ _=>simp at hl;lia
theorem uP(P:kr S H₀ H n l vs ts)(hn:n≤1000)(hst:H st=some (.lst xs))(hxs:xs≠[])(hS:jR S H xs)(hD:∀σ H,Cg S H₀ c st (n+1) σ H→D.nx σ H)(hD0:∀σ H,Cg S H₀ c st n σ H→D.nx σ H):
  xB K D [some (.ref c),some (.ref st),some (.ref l),some (.int cell),some (.int rest),some (.int way),some (.str x),some (.ref li),j8,j9,j10,j11,j12] H:=by
 have hpos:(0:Int)<(xs.length:Int):=by
  cases xs with
  | nil=>exact absurd rfl hxs
  | cons _ _=>simp
 have hr:=cB rest (Int.ne_of_gt hpos);have hr2:=Int.emod_lt_of_pos rest hpos;obtain⟨v,hv,e⟩:=nG hr hr2;obtain⟨q,nm,m,rfl,hq,hm,hSm⟩:=hS v hv;refine⟨.inl (eG.of hst),hpos,eG.of hst,e,eA.of hq,rfl,rfl,?_⟩;refine⟨.inl (eG.of P.at_),_,_,rfl,?_⟩;refine⟨.inl (eG.of hst),hpos,eG.of hst,e,eA.of hq,dS (j:=1) rfl,rfl,_,rfl,?_⟩;refine jI (λhk=>?_) (λhk=>?_)
 ·have hk:(if(vs.length:Int)<(m:Int)then(vs.length:Int)else(m:Int))=m:=V.int.inj (of_decide_eq_true hk);have hml:m≤vs.length:=by
   split at hk
   ·lia
   ·lia
  rw[hk];obtain⟨us,ws,rfl,hws⟩:∃us ws,vs=us++ws∧ws.length=m:=⟨vs.take (vs.length-m),vs.drop (vs.length-m),(cF _ _).symm,by rw[ah];lia⟩;obtain⟨ta,tb,rfl,d0,d1⟩:=P.den.split;have hel:((us++ws).length:Int)-(m:Int)=((us.length:Nat):Int):=by rw[aD];lia
  have hl:(us++ws).length≤n:=by rw[P.den.length];exact aY (eh _) P.sz
  rw[aD]at hl;refine⟨fG,eZ λq1 G1 hq1 s1 g1=>?_⟩;refine⟨.inl (eG.of (s1 _ _ P.at_)),eG.of (s1 _ _ P.at_),λq2 hq2=>?_⟩;rw[hel,lT _ _ (by simp),List.drop_left'];have s2:=dR (o:=.lst ws) hq2;have g2:(upd G1 q2 (.lst ws)) q2=some (.lst ws):=dO;generalize upd G1 q2 (.lst ws)=G2 at s2 g2⊢;refine⟨s2 _ _ g1,g2,by rw[sizeLine_eq];simp;lia,eZ λq3 G3 hq3 s3 g3=>?_⟩;refine⟨q3,_,rfl,.inl ⟨eG.of g3,eZ λq4 G4 hq4 s4 g4=>?_⟩⟩;have sB:=(s1.trans s2).trans (s3.trans s4);refine⟨.inl (eG.of (sB _ _ P.at_)),eG.of (sB _ _ P.at_),λq5 hq5=>?_⟩;rw[hel,tE _ _ (by simp),cE];have s5:=dR (o:=.lst us) hq5;have g5:(upd G4 q5 (.lst us)) q5=some (.lst us):=dO;generalize upd G4 q5 (.lst us)=G5 at s5 g5⊢;refine⟨fG,eZ λq6 G6 hq6 s6 g6=>?_⟩;have sA:=sB.trans (s5.trans s6);obtain⟨t,dt,wt,hs⟩:=Ar hm hSm hws (d1.mono (dY sA)) (λt ht=>P.wt t (aO _ ht)) (s6 _ _ (s5 _ _ g4));refine⟨s6 _ _ g5,g6,by rw[sizeLine_eq];simp;lia,λp3 hp3=>?_⟩;exact hD _ _ ⟨p3,us++[.ref q4],ta++[t],_,_,_,_,_,_,_,_,_,_,rfl,P.fold sA hp3 d0 dt wt hs⟩
  all_goals rfl
 ·exact hD0 _ _ ⟨l,vs,ts,_,_,_,_,_,_,_,_,_,_,rfl,P⟩
end
theorem pX:∀{l:List α},2≤l.length→∃us a b,l=us++[a,b]:=λ{l} h=>by
 have hne:l≠[]:=by intro e;subst e;simp at h
 obtain⟨us,b,rfl⟩:=gK hne;have hne:us≠[]:=by intro e;subst e;simp at h
 obtain⟨us,a,rfl⟩:=gK hne;exact⟨us,a,b,by simp⟩
theorem vM:∀{l:List α},3≤l.length→∃us a b c,l=us++[a,b,c]:=λ{l} h=>by
 have hne:l≠[]:=by intro e;subst e;simp at h
 obtain⟨us,c,rfl⟩:=gK hne;obtain⟨us,a,b,rfl⟩:=pX (l:=us) (by simp at h;lia);exact⟨us,a,b,c,by simp⟩
section
variable {S:Str→Nat→Prop}{H₀:Hp}{n:Nat}{l c st li:Addr}{ts:List T}{D:iT}{cell rest way:Int}{x:Str}{j8 j9 j10 j11 j12:Option V}
theorem BG(P:kr S H₀ H n l vs ts)(hn:n≤1000)(hli:H li=some (.lst (vs.drop (vs.length-3))))(hw:0≤way∧way<9)(hx:Wg x)(hst:H st=some (.lst xs))(hS:jR S H xs)
  (hD:∀σ H,Cg S H₀ c st (n+1) σ H→D.nx σ H):
  rZ K D [some (.ref c),some (.ref st),some (.ref l),some (.int cell),some (.int rest),some (.int way),some (.str x),some (.ref li),j8,j9,j10,j11,j12] H:=by
 have hD0:∀σ H,Cg S H₀ c st n σ H→D.nx σ H:=λσ H h=>hD σ H (by
  obtain⟨l,vs,ts,j3,j4,j5,j6,j7,j8,j9,j10,j11,j12,e,P⟩:=h;exact⟨l,vs,ts,j3,j4,j5,j6,j7,j8,j9,j10,j11,j12,e,P.same,P.new,P.at_,P.den,by have:=P.sz;lia,P.one,P.wt⟩)
 have hlen:(vs.drop (vs.length-3)).length=min 3 vs.length:=by rw[ah];lia
 have h1:1≤vs.length:=by
  rw[P.den.length];cases ts with
  | nil=>exact absurd rfl P.one
  | cons _ _=>simp
 have two:2≤vs.length→∃us a b ta t1 t2,vs=us++[a,b]∧ts=ta++[t1,t2]∧gC H ta us∧gG H t1 a∧gG H t2 b∧∃zs,vs.drop (vs.length-3)=zs++[a,b]:=λh2=>by
  obtain⟨us,a,b,rfl⟩:=pX h2;obtain⟨ta,tb,rfl,d0,d1⟩:=P.den.split;cases d1 with
  | cons e1 r=>
  cases r with
  | cons e2 r=>
  cases r;refine⟨us,a,b,ta,_,_,rfl,rfl,d0,e1,e2,us.drop (us.length-1),?_⟩;rw[show(us++[a,b]).length-3=us.length-1 by simp,List.drop_append_of_le_length (by lia)]
 have other:way≠0→((vs.drop (vs.length-3)).length=1→¬(2<way∧way<7))→
   w6 K D [some (.ref c),some (.ref st),some (.ref l),some (.int cell),some (.int rest),some (.int way),some (.str x),some (.ref li),j8,j9,j10,j11,j12] H:=by
  intro h0 hno;have hge:2<way→way<7→2≤vs.length:=λa b=>by
   rcases bK vs.length 2 with z|z
   ·exact absurd ⟨a,b⟩ (hno (by rw[hlen];lia))
   ·exact z
  refine⟨_,rfl,?_⟩;refine jI (λh3=>vi P hn hx hD) (λh3=>?_);have h3:¬way<3:=λz=>h3 (decide_eq_true z);have low:xA K D [some (.ref c),some (.ref st),some (.ref l),some (.int cell),some (.int rest),some (.int way),some (.str x),some (.ref li),j8,j9,j10,j11,j12] H:=by
   refine⟨_,rfl,?_⟩;refine jI (λh6=>?_) (λh6=>?_)
   ·have h6:way<6:=of_decide_eq_true h6;obtain⟨us,a,b,ta,t1,t2,rfl,rfl,d0,d1,d2,zs,ez⟩:=two (hge (by lia) (by lia));rw[ez]at hli;exact yu P hn d0 d1 d2 hli hD
   ·have h6:¬way<6:=λz=>h6 (decide_eq_true z);refine⟨rfl,_,rfl,?_⟩;refine jI (λh7=>?_) (λh7=>?_)
    ·have h7:way=6:=V.int.inj (of_decide_eq_true h7);obtain⟨us,a,b,ta,t1,t2,rfl,rfl,d0,d1,d2,zs,ez⟩:=two (hge (by lia) (by lia));rw[ez]at hli;exact yw P hn d0 d1 d2 hli hx hD
    ·refine⟨fG,eZ λe G he s1 g1=>?_⟩;refine⟨eG.of (s1 _ _ hst),eG.of g1,_,rfl,?_⟩;have hSG:jR S G xs:=λv hv=>by obtain⟨q,nm,m,e1,e2,e3⟩:=hS v hv;exact⟨q,nm,m,e1,s1 _ _ e2,e3⟩
     refine jI (λhk=>?_) (λhk=>?_)
     ·exact uP (P.mono s1) hn (s1 _ _ hst) (by intro z;subst z;cases hk) hSG hD hD0
     ·exact hD0 _ _ ⟨l,vs,ts,_,_,_,_,_,_,_,_,_,_,rfl,P.mono s1⟩
  refine⟨rfl,_,rfl,?_⟩;refine jI (λh5=>?_) (λh5=>fK low);refine⟨.inl (eG.of hli),rfl,_,rfl,?_⟩;refine jI (λhl3=>?_) (λhl3=>low);have hl3:(((vs.drop (vs.length-3)).length:Nat):Int)=3:=V.int.inj (of_decide_eq_true hl3);obtain⟨us,a,b,d,rfl⟩:=vM (l:=vs) (by lia);obtain⟨ta,tb,rfl,d0,d1⟩:=P.den.split;cases d1 with
  | cons e1 r=>
  cases r with
  | cons e2 r=>
  cases r with
  | cons e3 r=>
  cases r;rw[show(us++[a,b,d]).length-3=us.length by simp,List.drop_left']at hli;exact sK P hn d0 e1 e2 e3 hli hD;rfl
 refine⟨rfl,_,rfl,?_⟩;refine jI (λh0=>oj (me P hn hD)) (λh0=>?_);have h0:way≠0:=λz=>h0 (by rw[z];exact decide_eq_true rfl);refine⟨.inl (eG.of hli),rfl,_,rfl,?_⟩;refine jI (λhl1=>?_) (λhl1=>?_)
 ·refine⟨_,rfl,?_⟩;refine jI (λh2=>⟨_,rfl,?_⟩) (λh2=>⟨_,rfl,?_⟩)
  ·refine jI (λ_=>me P hn hD) (λh7=>?_);exact other h0 λ_ z=>h7 (decide_eq_true z.2)
  ·exact fK (other h0 λ_ z=>h2 (decide_eq_true z.1))
 ·refine fK (other h0 λz=>?_);exact absurd (decide_eq_true (congrArg V.int (by rw[z];rfl))) hl1
theorem vh(P:kr S H₀ H n l vs ts)(hn:n≤1000)(hst:H st=some (.lst xs))(hS:jR S H xs)(hD:∀σ H,Cg S H₀ c st (n+1) σ H→D.nx σ H):
  wz K D [some (.ref c),some (.ref st),some (.ref l),some (.int cell),j4,j5,j6,j7,j8,j9,j10,j11,j12] H:=by
 refine⟨⟨by decide,by decide⟩,(show(0:Int)<9 by decide),fG,λq hq=>?_⟩;have hw:0≤cell%9∧cell%9<9:=by lia
 have s1:=dR (o:=.lst [.str "sab",.str "tab",.str "sob",.str "sat"]) hq;have g1:(upd H q (.lst [.str "sab",.str "tab",.str "sob",.str "sat"])) q=some (.lst [.str "sab",.str "tab",.str "sob",.str "sat"]):=dO;generalize upd H q (.lst [.str "sab",.str "tab",.str "sob",.str "sat"])=G at s1 g1⊢;have h4:0≤(cell / 9)%4∧(cell / 9)%4<4:=by lia
 obtain⟨v,hv,e⟩:=nG (xs:=[V.str "sab",V.str "tab",V.str "sob",V.str "sat"]) h4.1 h4.2;obtain⟨x,rfl,hx⟩:=Cy hv;refine⟨(show(0:Int)<4 by decide),eG.of g1,e,?_⟩;have PG:=P.mono s1;have hSG:∀{G'},dy G G'→jR S G' xs:=λ{G'} s v hv=>by obtain⟨q,nm,m,e1,e2,e3⟩:=hS v hv;exact⟨q,nm,m,e1,s _ _ (s1 _ _ e2),e3⟩
 have go:∀y,Wg y→(de (eD (mL (jE K) (dN 2) (ft (mE gR (tC (.int 3)))) fi) (dX 7)) (rZ K)) D [some (.ref c),some (.ref st),some (.ref l),some (.int cell),some (.int (cell / 9)),some (.int (cell%9)),some (.str y),j7,j8,j9,j10,j11,j12] G:=by intro y hy;refine⟨eG.of PG.at_,λli hli=>?_⟩;rw[show(-3:Int)=-((3:Nat):Int)from rfl,CM _ 3 (by decide)];have s2:=dR (o:=.lst (vs.drop (vs.length-3))) hli;exact BG (PG.mono s2) hn dO hw hy (s2 _ _ (s1 _ _ hst)) (hSG s2) hD
 refine⟨(show(0:Int)<29 by decide),rfl,_,rfl,?_⟩;refine jI (λ_=>?_) (λ_=>go x hx);refine⟨⟨by decide,by decide⟩,_,rfl,λy hy=>?_⟩;refine⟨?_,go _ (LP hy.1 hy.2)⟩;have:(("k":Str)).length=1:=by decide
 have:=hy.2;rw[sizeLine_eq];lia
structure Mr(S:Str→Nat→Prop)(H₀ H:Hp)(n:Nat)(l:Addr)(vs:List V)(ts:List T):Prop where
 same:dy H₀ H
 new:H₀ l=none
 at_:H l=some (.lst vs)
 den:gC H ts vs
 sz:eu ts+ts.length≤2*n
 nm:fc ts≤n
 one:ts≠[]
 wt:∀t∈ts,WG S t
theorem oV:∀ts:List T,fc ts≤eu ts
 | []=>aC _
 | t::ts=>by have h:=oV ts;have h2:=t.names_len;simp only[fc,eu,aW,cG]at *;lia
def N4(S':Str→Nat→Prop)(H:Hp)(c st:Addr)(ns:List Int)(m:Nat)(σ:St)(H':Hp):Prop:=∃l vs ts j3 j4 j5 j6 j7 j8 j9 j10 j11 j12,σ=[some (.ref c),some (.ref st),some (.ref l),j3,j4,j5,j6,j7,j8,j9,j10,j11,j12]∧Mr S' H H' (ns.length+1) l vs ts∧m=ts.length
theorem Hi(h:qE K S S' vs H Q E):Lv K (gf Q) (start ["_law_cells","_law_stamps","_law_pile","_law_cell","_law_rest","_law_way","_law_word","_law_inner","_law_look","_law_name","_law_many","_law_made","_law_last"] vs) H:=by
 obtain⟨c,st,ns,xs,rfl,hc,hns,hst,hxl,hS,hSS,k⟩:=h;refine⟨fG,λp hp=>⟨fG,λl hl=>?_⟩⟩;have s1:=dR (o:=.tup [.str "name",.str "sab"]) hp;have s2:=dR (o:=.lst [.ref p]) hl;have P0:kr S H (upd (upd H p (.tup [.str "name",.str "sab"])) l (.lst [.ref p])) 1 l [.ref p] [.name "sab"]:=
  ⟨s1.trans s2,s1.free hl,dO,.cons ⟨p,rfl,s2 _ _ dO⟩ .nil,by simp[eu,T.size],by simp,λt ht=>by rw[aG]at ht;subst ht;exact zr⟩
 refine⟨(s1.trans s2).seq hc,gT (K:=K) (a:=c) (xs:=ns.map V.int) (λi σ H2=>Cg S H c st (i+1) σ H2) ⟨l,_,_,_,_,_,_,_,_,_,_,_,_,rfl,P0⟩ (λi σ H2 _ hN=>?_) ?_ ?_⟩
 ·obtain⟨l,vs,ts,j3,j4,j5,j6,j7,j8,j9,j10,j11,j12,e,P⟩:=hN;exact P.same.seq hc
 ·rintro i y σ H2 hi ⟨l,vs,ts,j3,j4,j5,j6,j7,j8,j9,j10,j11,j12,rfl,P⟩;have hil:i<(ns.map V.int).length:=(aK.mp hi).1;rw[aX]at hil;obtain⟨z,rfl⟩:∃z,y=V.int z:=by
   rw[ac]at hi;cases e:ns[i]? with
   | none=>rw[e]at hi;cases hi
   | some z=>rw[e]at hi;exact⟨z,(Option.some.inj hi).symm⟩
  refine vh P (by lia) (P.same _ _ hst) (λv hv=>?_) (λσ H h=>h);obtain⟨q,nm,m,e1,e2,e3⟩:=hS v hv;exact⟨q,nm,m,e1,P.same _ _ e2,e3⟩
 ·rintro σ H2 ⟨l,vs,ts,j3,j4,j5,j6,j7,j8,j9,j10,j11,j12,rfl,P⟩;rw[aX]at P;refine⟨N4 S' H c st ns,⟨_,l,vs,ts,_,_,_,_,_,_,_,_,_,_,rfl,?_,rfl⟩,?_⟩
  ·refine⟨P.same,P.new,P.at_,P.den,?_,?_,P.one,λt ht=>hSS t (aY (qz ht) P.sz) (P.wt t ht)⟩
   ·have:=eh ts;have:=P.sz;lia
   ·have:=oV ts;have:=P.sz;lia
  ·clear P j3 j4 j5 j6 j7 j8 j9 j10 j11 j12;rintro m σ H3 ⟨l,vs,ts,j3,j4,j5,j6,j7,j8,j9,j10,j11,j12,rfl,A,rfl⟩;refine⟨.inl (eG.of A.at_),_,rfl,?_⟩;refine jI (λh1=>?_) (λh1=>?_)
   ·have h1:(1:Int)<(vs.length:Int):=of_decide_eq_true h1;obtain⟨us,a,b,rfl⟩:=pX (l:=vs) (by lia);obtain⟨ta,tb,rfl,d0,d1⟩:=A.den.split;cases d1 with
    | @cons t1 _ _ _ e1 r=>
    cases r with
    | @cons t2 _ _ _ e2 r=>
    cases r;refine⟨λσ' H'=>∃m',m'<(ta++[t1,t2]).length∧N4 S' H c st ns m' σ' H',λ_ _ h=>h,?_⟩;have ha:=A.at_;rw[show us++[a,b]=(us++[a])++[b] by simp]at ha;refine⟨.inl ⟨rfl,_,eG.of ha⟩,ha,jT,?_⟩;rw[iZ];have tl1:=fL (o:=.lst (us++[a])) ha;have sO:=eF (o:=.lst (us++[a])) A.same A.new;have g1:(upd H3 l (.lst (us++[a]))) l=some (.lst (us++[a])):=dO;generalize upd H3 l (.lst (us++[a]))=G1 at tl1 sO g1⊢;refine⟨.inl ⟨rfl,_,eG.of g1⟩,.inl ⟨rfl,_,eG.of g1⟩,g1,jT,?_⟩;rw[iZ];have tl2:=fL (o:=.lst us) g1;have sO2:=eF (o:=.lst us) sO A.new;have g2:(upd G1 l (.lst us)) l=some (.lst us):=dO;generalize upd G1 l (.lst us)=G2 at tl2 sO2 g2⊢;refine⟨fG,eZ λp G3 hp s3 g3=>?_⟩;have hlen:=d0.length;have hsz:=A.sz;rw[fC,aD]at hsz;have hq:=eh ta;have tl4:=fL (o:=.lst (us++[.ref p])) (s3 _ _ g2);have tlA:=tl1.trans (tl2.trans ((dY s3).trans tl4));refine⟨s3 _ _ g2,by rw[sizeLine_eq];lia,(ta++[T.sum t1 t2]).length,by simp,l,us++[.ref p],ta++[T.sum t1 t2],_,_,_,_,_,_,_,_,_,_,rfl,⟨eF (sO2.trans s3) A.new,A.new,dO,(d0.mono tlA).append (.cons (show gG _ (T.sum t1 t2) (.ref p)from⟨p,a,b,rfl,tl4 _ _ g3,e1.mono tlA,e2.mono tlA⟩) .nil),?_,?_,by simp,λt ht=>?_⟩,rfl⟩
    ·rw[fC,aD];simp[eu,T.size]at hsz⊢;lia
    ·have:=A.nm;rw[jU]at this⊢;simp[fc,T.names]at this⊢;lia
    ·rcases aU.mp ht with z|z
     ·exact A.wt t (af _ z)
     ·rw[aG]at z;subst z;exact⟨A.wt _ (by simp),A.wt _ (by simp)⟩
   ·have h1:¬(1:Int)<(vs.length:Int):=λz=>h1 (decide_eq_true z);have hlen:=A.den.length;obtain⟨t,rfl⟩:∃t,ts=[t]:=by
     cases ts with
     | nil=>exact absurd rfl A.one
     | cons t ts=>
      cases ts with
      | nil=>exact⟨t,rfl⟩
      | cons _ _=>simp at hlen;lia
    obtain⟨v,rfl⟩:∃v,vs=[v]:=by
     cases A.den with
     | cons a r=>cases r;exact⟨_,rfl⟩
    have d1:gG H3 t v:=by cases A.den with|cons a r=>exact a
    have hsz:=A.sz;have hnm:=A.nm;refine⟨eG.of A.at_,rfl,k t v H3 A.same d1 (A.wt t (by simp)) ?_ ?_⟩
    ·simp[eu]at hsz;lia
    ·simp[fc]at hnm;lia
end
theorem K8(h:qB K vs H Q E):GW K mI (gf Q) (start ["_law_cells"] vs) H:=by
 obtain⟨c,ns,rfl,hc,hns,k⟩:=h;refine⟨fG,λq1 h1=>⟨fG,λq2 h2=>⟨fG,λq3 h3=>⟨fG,λq4 h4=>⟨fG,λl hl=>?_⟩⟩⟩⟩⟩;have s1:=dR (o:=.tup [.str "st",.int 2]) h1;have g1:(upd H q1 (.tup [.str "st",.int 2])) q1=some (.tup [.str "st",.int 2]):=dO;generalize upd H q1 (.tup [.str "st",.int 2])=G1 at *;have s2:=dR (o:=.tup [.str "sta",.int 1]) h2;have g2:(upd G1 q2 (.tup [.str "sta",.int 1])) q2=some (.tup [.str "sta",.int 1]):=dO;generalize upd G1 q2 (.tup [.str "sta",.int 1])=G2 at *;have s3:=dR (o:=.tup [.str "st",.int 2]) h3;have g3:(upd G2 q3 (.tup [.str "st",.int 2])) q3=some (.tup [.str "st",.int 2]):=dO;generalize upd G2 q3 (.tup [.str "st",.int 2])=G3 at *;have s4:=dR (o:=.tup [.str "star",.int 0]) h4;have g4:(upd G3 q4 (.tup [.str "star",.int 0])) q4=some (.tup [.str "star",.int 0]):=dO;generalize upd G3 q4 (.tup [.str "star",.int 0])=G4 at *;have s5:=dR (o:=.lst [.ref q1,.ref q2,.ref q3,.ref q4]) hl;have g5:(upd G4 l (.lst [.ref q1,.ref q2,.ref q3,.ref q4])) l=some (.lst [.ref q1,.ref q2,.ref q3,.ref q4]):=dO;generalize upd G4 l (.lst [.ref q1,.ref q2,.ref q3,.ref q4])=G5 at *;have sA:=(s1.trans s2).trans ((s3.trans s4).trans s5);refine⟨c,l,ns,_,rfl,sA.seq hc,hns,g5,by simp,λx hx=>?_,λt v H' s d w a b=>k t v H' (sA.trans s) d w a b⟩;rcases aB.mp hx with rfl|hx
 ·exact⟨q1,"st",2,rfl,s5 _ _ (s4 _ _ (s3 _ _ (s2 _ _ g1))),by decide,.inl ⟨rfl,rfl⟩⟩
 rcases aB.mp hx with rfl|hx
 ·exact⟨q2,"sta",1,rfl,s5 _ _ (s4 _ _ (s3 _ _ g2)),by decide,.inr (.inl ⟨rfl,rfl⟩)⟩
 rcases aB.mp hx with rfl|hx
 ·exact⟨q3,"st",2,rfl,s5 _ _ (s4 _ _ g3),by decide,.inl ⟨rfl,rfl⟩⟩
 rcases aB.mp hx with rfl|hx
 ·exact⟨q4,"star",0,rfl,s5 _ _ g4,by decide,.inr (.inr ⟨rfl,rfl⟩)⟩
 ·cases hx
end SW
namespace L2
open PySem PySem.Spec PyProof.Rows
section
variable {X:Cx}
end
section
variable {prog:Program}{w:World}{A:Around}{E:Value→Shared→Prop}{s:Shared}{κ:Type}[DecidableEq κ]{knd:KeyKind prog w κ}{d:Addr}{kvs:List (κ×Value)}{ep:Nat}
theorem tH(lo:(d==sysModules)=false)(hh:A.handled=none)(da:s.heap.DictAt knd d kvs ep)(hn:kvs.length≤sizeLine)
  (h:∀h' tk acc,(∀b o,s.heap.get? b=some o→h'.get? b=some o)→s.heap.objs.size<h'.objs.size→ItemsOf (λi v=>∃k x,kvs[i]?=some (k,x)∧knd.is k v=true) acc kvs.length→Q acc.toList {s with heap:=h',toks:=tk}):
  wpAny (model prog w) A (collect (.ref d)) Q E s:=by
 unfold collect;refine wpAny_bind (wpAny_runValue (codeAny_builtin entry_proto_collect' ?_));show wpAny _ _ (do again (.builtin "list.__iadd__" ⟨[← newList [],.ref d],[]⟩)) _ _ s;refine wpAny_bind (wpAny_newList (wpAny_pure ⟨Code.quiet_builtin _ (by decide),codeAny_builtin entry_list_iadd' ?_⟩));show wpAny _ _ (Builtin.List.listExtendWith (.ref s.heap.objs.size) (.ref d) (.ref s.heap.objs.size)) _ _ {s with heap:=s.heap.push (seqObj "list" #[] 0)};rw[Around.under_plainId (by decide) _];have hlt:=da.lt_size;have up:∀b o,s.heap.get? b=some o→(s.heap.push (seqObj "list" #[] 0)).get? b=some o:=λb o e=>Heap.get?_push_of_some _ e;have key:=PySem.W.kdl_extend (A:=A) (R:=λr s'=>match r with
   | .ok (.ret v)=>wpAny (model prog w) A (match v with
     | .ref a=>do
      let o ← load a
      match o.data with
      | .seq xs _=>pure xs.toList
      | _=>unsupported "internal:collect"
     | _=>unsupported "internal:collect") Q E s'
   | .ok _=>False
   | .error e=>E e s') (PySem.W.kdl_dict (knd:=knd) lo) hh (s:={s with heap:=s.heap.push (seqObj "list" #[] 0)}) (da.push _) s.heap.objs.size (bC hlt) (bC hlt) (.ref s.heap.objs.size) 0 (Heap.get?_push_size _ rfl) (λh' tk acc c hk hS hacc=>?_) hn
 ·refine wpAny_mono key (λf s' h=>?_) λe s' h=>h;cases f with
  | done f=>exact h
  | again c=>exact h
 ·refine wpAny_bind (wpAny_load hS ?_);exact wpAny_pure (h h' tk acc (λb o e=>hk b o (aM (Heap.lt_size e)) (up b o e)) (Heap.lt_size hS) hacc)
end
section
variable {X:Cx}
theorem tI(hh:X.calm=true):ky X (.builtin "sorted") (λxs H Q=>∃a kvs ws,xs=[.ref a]∧Rd H a (.dK kvs)∧mG kvs=ws.map V.str∧ws.length<64∧∀p ws',H p=none→ws'.Perm ws→sortedS ws'=true→Q (.ref p) (upd H p (.lst (ws'.map V.str)))):=by
 intro pins s σ H xs us Q I r h;obtain⟨a,kvs,ws,rfl,ha,ek,hl,q⟩:=h;obtain⟨u,rfl,ru⟩:=lH r;cases ru;obtain⟨z,hd,vs,rel,dd⟩:=nA I.hok ha;obtain⟨ep,da⟩:=dd.dictAt;have hA:=I.ok.hd hh;refine Calls.call_function_entry PyProof.Rows.kind_sorted PyProof.Rows.plain_sorted PyProof.Rows.entry_sorted (PyProof.Rows.args_sorted1 _) ?_;unfold Builtin.«sorted»;refine wpAny_bind (m:=checkCount "sorted" 1 1 _) (wpAny_pure ?_);refine wpAny_bind (tH hd hA da (by rw[←rel.length];exact z) λh' tk acc keep hsz hacc=>?_);have hv:=zL rel hacc;rw[ek]at hv;have hS:=xO hv;have hlen:acc.toList.length<64:=by rw[←hv.length];simpa using hl
 refine wpAny_bind (wpAny_newList ?_);have hoL:(h'.push (seqObj "list" acc.toList.toArray 0)).get? h'.objs.size=some (seqObj "list" acc.toList.toArray 0):=Heap.get?_push_size _ rfl;refine wpAny_bind (wpAny_holding (wpAny_call_entry slot_list_sort ⟨_,hoL,rfl⟩ entry_list_sort (list_sort_treeK strKind_oneLt (s:={s with heap:=h'.push (seqObj "list" acc.toList.toArray 0),toks:=tk}) hoL hS.keysOf (λv₁ v₂ rest e=>keyKind_strs (by rw[←e];exact hS)) hlen λst' a1 a2=>⟨_,rfl,?_⟩) (args_list_sort _)));refine wpAny_pure ⟨_,rfl,?_⟩;obtain⟨ss',b1,b2,b3⟩:=sorted_out_str hS a1 a2;obtain⟨e,he⟩:=sortedHeap_at (out:=(arrOf st').map (·.2)) hoL;have hl2:ss'.length<64:=by rw[b2.length_eq];exact hl
 have hn:H h'.objs.size=none:=I.hok.fresh (bN hsz);refine⟨.ref h'.objs.size,_,I.laid (a:=h'.objs.size) (o:=.lst (ss'.map V.str)) (t':=tk) (λb o q=>?_) (bN hsz) ⟨by rw[aX,sizeLine_eq];omega,((arrOf st').map (·.2)).toList,e,xj b1,he⟩,rfl,q _ ss' hn b2 b3⟩;have hb:=Heap.lt_size q;rw[sortedHeap_old (aM (cT hb hsz)) (by rw[Heap.size_push];exact cZ (cT hb hsz))];exact Heap.get?_push_of_some _ (keep b o q)
end
section
variable {X:Cx}{pins:List (Addr×Obj)}{σ:St}{H H':Hp}{s s':Shared}{ea:Addr}{cls a0:Value}{B:Heap}
end
section
variable {P:Program}{w:World}{K:aA}{mg:Str→Option Value}{base:Heap}{N:List Str}{qual:Str}{scope:Scope}{f:Addr}{cd:Value}{A:Around}{outer:List Env}{s:Shared}{H:Hp}{E E':XK}
end
section
variable {X:Cx}{pins:List (Addr×Obj)}{σ:St}{H H':Hp}{s s':Shared}{ea:Addr}{oe:Obj}{cls a0:Value}{B:Heap}
end
section
variable {X:Cx}{k:Nat}{f:Addr}{fd:FuncData}{ps:List Str}{sp:Sp}{x:Str}{p pos cpos:Pos}{e:Expr}{es:List Expr}{t:TA}
end
section
variable {X:Cx}{st b₀:Stmt}{suite:List Stmt}{c:Str}{C:Addr}{np hpos pos:Pos}{tb:(St→XK)→TS}{th:TS}
end
end L2
namespace PySem.W
open PySem PySem.Spec PySem.Calls PyProof.Rows Builtin Builtin.ObjectAttr Builtin.Getset_descriptor
section
variable {prog:Program}{w:World}{A:Around}{E:Value→Shared→Prop}{K:Frag}{h:Heap}{g:Array GenState}{d:Drawn}{t:Nat}{os:OsState}{a D:Addr}{o:Obj}
end
end PySem.W
namespace L2
open PySem PySem.Spec PyProof.Rows
section
variable {X:Cx}{ea:Addr}{oe:Obj}{D:Addr}
end
section
variable {X:Cx}{pins:List (Addr×Obj)}{σ:St}{H:Hp}{s:Shared}
end
section
variable {X:Cx}{st b₀:Stmt}{suite:List Stmt}{c n:Str}{C CN:Addr}{j:Nat}{np hpos pos:Pos}{tb:(St→XK)→TS}{th:Addr→TS}
end
def nK(K:aA)(a:Addr)(n:Nat):It:=
 ⟨λi H=>i<n∧∃xs x,eG K H a xs∧xs.length=n∧xs[n-1-i]?=some x,λi H x H'=>H'=H∧∀xs,eG K H a xs→xs[n-1-i]?=some x,λi _=>i=n⟩
theorem AC{P:Program}{w:World}{K:aA}{tg:Expr}(a it:Addr)(n:Nat):u6 P w K tg (nK K a n) [it] it (λi h=>h.IsRevIter it a ((n:Int)-1-i)) where
 mem:=by simp
 obj:=λi h st b hb=>by
  have e:b=it:=by simpa using hb
  subst e;obtain⟨o,e,c,d⟩:=st;exact⟨o,e,λv z=>by rw[d]at z;cases z⟩
 keep:=λi h h' st k=>st.at λo e=>k it (by simp) o e
 item:=by
  intro X hP hw hK hc i pins s σ H E I hf st hg;subst hP hw hK;obtain⟨hi,xs,x,hq,hl,hx⟩:=hg;obtain⟨its,rv,p,hz⟩:=I.list hq;obtain⟨u,hu,ru⟩:=rv.get hx;obtain⟨f0,f1,f2,f3,f4,f5⟩:=hf it (by simp);have e1:(n:Int)-1-i=((n-1-i:Nat):Int):=by lia
  have st1:s.heap.IsRevIter it a ((n-1-i:Nat):Int):=by rw[←e1];exact st
  refine wpAny_pyNext_rev_item st1 p.isList (x:=u) (by simpa using hu) λh' st' sb=>?_;have I1:eV X pins σ H {s with heap:=h'}:=I.turned (t':=s.toks) (λb o hb e=>(sb.2 b hb).trans e) f0 f1 f3 f4 f5;obtain⟨o,e,c,d⟩:=id st';have e2:((n-1-i:Nat):Int)-1=(n:Int)-1-(i+1:Nat):=by lia
  exact⟨u,rfl,ui (s:={s with heap:=h'}) e c d (by decide) ⟨x,H,I1,ru,⟨rfl,λys hy=>by rw[I.list_inj hy hq];exact hx⟩,by rw[←e2];exact st',λb hb=>(hf b hb).1⟩⟩
 done:=by intro X hP hw hK hc i pins s σ H E I hf st hg;subst hP hw hK;obtain rfl:i=n:=hg;obtain⟨f0,f1,f2,f3,f4,f5⟩:=hf it (by simp);have st1:s.heap.IsRevIter it a (-1):=(show(i:Int)-1-i=-1 by lia)▸st;exact wpAny_pyNext_rev_end (I.ok.hd hc) st1 λh' eb=>⟨rfl,I.turned (t':=s.toks) (λb o hb e=>eb b o hb e) f0 f1 f3 f4 f5⟩
 self:=λ_ _ _ _ _ st h=>wpAny_pyIter_revIter st h
def Bz(K:aA)(tl:TE):TI:=λσ H R=>tl σ H λx H1=>onR x λa=>lZ (eG K H1 a) λxs=>R (nK K a xs.length) H1
theorem oa:bootBuiltins "reversed"=some (.type "reversed"):=by decide
section
variable {X:Cx}{tg:Expr}
theorem vo{l:Expr}{tl:TE}{np pos:Pos}(hg:Gl X "reversed")(hm:X.mg "reversed"=none)(hl:PE X l tl)(he:starEach [l] X.env=[(false,eval l X.env)]:=by rfl):PI X tg (.Call (.Name "reversed" np) [l] [] pos) (Bz X.K tl):=by
 intro pins s σ H R I h;refine wpAny_Call_Name_kw (kC I hg hm oa ?_);have he':starEach (l::[]) X.env=(false,eval l X.env)::starEach [] X.env:=he;refine bO (thn ((dh hl fX he':PA X [l] (dM tl dW)) pos pins s σ H (λvs H1=>on1 vs λx=>onR x λa=>lZ (eG X.K H1 a) λxs=>R (nK X.K a xs.length) H1) I h) λus s1 ⟨vs,H1,I1,r1,q1⟩=>?_) he' (by rfl)
 ·obtain⟨_,rfl,q1⟩:=on1.ex q1;obtain⟨a,rfl,q1⟩:=onR.ex q1;obtain @⟨xs,hq,q⟩:=q1;obtain⟨u,rfl,ru⟩:=lH r1;cases ru;obtain⟨its,rv,p,hz⟩:=I1.list hq;refine call_reversed_list p.isList ?_;refine wpAny_pyIter_revIter (l:=a) (i:=(xs.length:Int)-1) ⟨_,Heap.get?_push_size _ rfl,rfl,by simp[revObj,rv.length]⟩ ?_;refine⟨s1.heap.objs.size,[s1.heap.objs.size],_,_,H1,rfl,I1.kept (t':=s1.toks) λb o e=>Heap.get?_push_of_some _ e,AC a _ xs.length,⟨_,Heap.get?_push_size _ rfl,rfl,by simp[revObj,rv.length]⟩,λb hb=>?_,q⟩;have e:b=s1.heap.objs.size:=by simpa using hb
  subst e;exact I1.fpOk (aC _) (I1.hok.fresh (aC _))
end
end L2
namespace L2
open PySem PySem.Spec PyProof.Rows SW
section
variable {X:Cx}{pins:List (Addr×Obj)}{σ:St}{H:Hp}{s:Shared}
theorem qR{t k:T}(h:k∈t.kids):k.size<t.size:=by
 have h1:=jD t;have h2:k.size≤eu t.kids:=by
  unfold eu;generalize t.kids=l at h;induction l with
  | nil=>cases h
  | cons a r ih=>
   rcases aB.mp h with rfl|h
   ·simp
   ·have:=ih h;simp only[aW,cG];lia
 lia
theorem pN:∀{ts:List T}{us:List V}{i:Nat}{x:V},gC H ts us→us[i]?=some x→∃t,ts[i]?=some t∧gG H t x
 | _,_,0,_,.cons a r,h=>by cases h;exact⟨_,rfl,a⟩
 | _,_,i+1,_,.cons a r,h=>pN (i:=i) r h
end
section
variable {X:Cx}
end
end L2
namespace L2
open PySem PySem.Spec PyProof.Rows
theorem lL(a b:Int):Builtin.Range.rangeSize a b (-1)=if b<a then a-b else 0:=by unfold Builtin.Range.rangeSize;simp only[show ¬((-1:Int)>0) by decide,if_false];split<;>(try split)<;>simp<;>lia
theorem vT(ha : -(2^62)≤a)(ha':a<2^62)(hb : -(2^62)≤b)(hb':b<2^62):Builtin.Range.small a b (-1)=true:=by
 unfold Builtin.Range.small;rw[lL];simp only[Builtin.Range.rangeFitsLong,bY,Bool.or_eq_true,decide_eq_true_eq,beq_iff_eq,show ¬((-1:Int)>0) by decide,if_false];split
 ·refine⟨⟨⟨⟨by lia,by lia⟩,by lia⟩,by lia⟩,.inr (by lia)⟩
 ·refine⟨⟨⟨⟨by lia,by lia⟩,by lia⟩,by lia⟩,.inl ?_⟩
  first|trivial|rfl
def JG(hi:Int)(n:Nat):It:=⟨λi _=>i<n,λi H x H'=>H'=H∧x=.int (hi-i),λi _=>n≤i⟩
theorem yR{P:Program}{w:World}{K:aA}{tg:Expr}(it:Addr)(hi:Int)(n:Nat):u6 P w K tg (JG hi n) [it] it (λi h=>IsRangeIter h it (hi+(i:Nat)*(-1)) ((n:Int)-(i:Nat)) (-1)) where
 mem:=by simp
 obj:=λi h st b hb=>by
  have e:b=it:=by simpa using hb
  subst e;exact⟨_,st,λv z=>by
   have z':Data.fields _=Data.cell v:=z;cases z'⟩
 keep:=λi h h' st k=>k it (by simp) _ st
 item:=by intro X hP hw hK hc i pins s σ H E I hf st hg;subst hP hw hK;obtain⟨f0,f1,f2,f3,f4,f5⟩:=hf it (by simp);have W:=Walks.range (prog:=X.prog) (w:=X.w) (I.ok.hd hc) it hi (-1) n;refine W.item i s _ _ hg st λv h' tk hv st' kk=>?_;obtain⟨t,rfl⟩:=hv;have I1:eV X pins σ H {s with heap:=h',toks:=tk}:=I.turned (λb o hb e=>kk b o (by simpa using hb) e) f0 f1 f3 f4 f5;refine⟨_,rfl,ui (s:={s with heap:=h',toks:=tk}) (n:="range_iterator") st' rfl rfl (by decide) ⟨.int (hi-i),H,I1,⟨t,?_⟩,⟨rfl,rfl⟩,st',λb hb=>(hf b hb).1⟩⟩;rw[show hi+(i:Int)*(-1)=hi-i by lia]
 done:=by intro X hP hw hK hc i pins s σ H E I hf st hg;subst hP hw hK;obtain⟨f0,f1,f2,f3,f4,f5⟩:=hf it (by simp);exact wpAny_pyNext_range_end (I.ok.hd hc) st (by have:n≤i:=hg;lia) λh' eb=>⟨rfl,I.turned (t':=s.toks) (λb o hb e=>eb b o hb e) f0 f1 f3 f4 f5⟩
 self:=λ_ _ _ _ _ st h=>wpAny_pyIter_rangeiter st h
section
variable {X:Cx}{tg:Expr}
theorem vk{pins:List (Addr×Obj)}{σ:St}{H:Hp}{s:Shared}{R:It→Hp→Prop}{E:Value→Shared→Prop}{hi lo:Int}{t u v:Tok}{tk:Nat}(I:eV X pins σ H s)(h1 : -(2^62)≤hi)(h2:hi<2^62)(h3 : -(2^62)≤lo)(h4:lo<2^62)
  (q:R (JG hi (hi-lo).toNat) H):wpAny (model X.prog X.w) X.A (pyIter (.ref s.heap.objs.size)) (Mw X pins σ tg R) E {s with heap:=s.heap.push {cls:=.type "range",data:=.fields #[.int hi t,.int lo u,.int (-1) v]},toks:=tk}:=by
 refine wpAny_pyIter_range (IsRange.new ..) (vT h1 h2 h3 h4) ?_;have I1:eV X pins σ H {s with heap:=s.heap.push {cls:=.type "range",data:=.fields #[.int hi t,.int lo u,.int (-1) v]},toks:=tk}:=I.kept λb o e=>Heap.get?_push_of_some _ e;refine⟨(s.heap.push {cls:=.type "range",data:=.fields #[.int hi t,.int lo u,.int (-1) v]}).objs.size,[(s.heap.push {cls:=.type "range",data:=.fields #[.int hi t,.int lo u,.int (-1) v]}).objs.size],_,_,H,rfl,
  I1.kept (t':=tk) λb o e=>Heap.get?_push_of_some _ e,yR _ hi (hi-lo).toNat,?_,λb hb=>?_,q⟩
 ·have e1:hi+((0:Nat):Int)*(-1)=hi:=by simp
  have e2:(((hi-lo).toNat:Nat):Int)-((0:Nat):Int)=Builtin.Range.rangeSize hi lo (-1):=by rw[lL];split<;>lia
  show IsRangeIter _ _ (hi+((0:Nat):Int)*(-1)) ((((hi-lo).toNat:Nat):Int)-((0:Nat):Int)) (-1);rw[e1,e2];exact Heap.get?_push_size _ rfl
 ·have e:b=(s.heap.push {cls:=.type "range",data:=.fields #[.int hi t,.int lo u,.int (-1) v]}).objs.size:=by simpa using hb
  subst e;exact I1.fpOk (aC _) (I1.hok.fresh (aC _))
def oY(ta:TA):TI:=λσ H R=>ta σ H λvs H1=>∃i j:Int,vs=[.int i,.int j,.int (-1)]∧(-(2^62)≤i∧i<2^62∧-(2^62)≤j∧j<2^62)∧R (JG i (i-j).toNat) H1
theorem kP(hg:Gl X "range")(hm:X.mg "range"=none)(ha:PA X [a,b,c] ta)(hs:starEach [a,b,c] X.env=[(false,eval a X.env),(false,eval b X.env),(false,eval c X.env)]:=by rfl)(hs2:starEach [b,c] X.env=[(false,eval b X.env),(false,eval c X.env)]:=by rfl):
  PI X tg (.Call (.Name "range" p) [a,b,c] [] pos) (oY ta):=by
 intro pins s σ H R I h;refine Call_ (kC I hg hm boot_range (bO (thn (ha pos pins s σ H _ I h) λus s1 ⟨vs,H1,I1,r1,q1⟩=>?_) (by rw[hs,hs2]) (by rw[hs2];rfl)));obtain⟨i,j,e,⟨q1,q2,q3,q4⟩,q⟩:=q1;subst e;cases r1 with
 | cons r rr=>
  cases rr with
  | cons r' rr=>
   cases rr with
   | cons r'' rr=>cases rr;obtain⟨t,rfl⟩:=r;obtain⟨t',rfl⟩:=r';obtain⟨t'',rfl⟩:=r'';exact call_range_3 (by decide) (vk I1 q1 q2 q3 q4 q) (.inl (cq (by decide)))
end
end L2
namespace PySem.W
open PySem PySem.Spec PySem.Calls PyProof.Rows
theorem A6:typeLookup (.type "list_reverseiterator") "__len__"=pure none:=by rw[typeLookup_type,builtinLookup_eq_fast];kernel_rfl
theorem A7:typeLookup (.type "list_reverseiterator") "__length_hint__"=pure (some (.builtin "list_reverseiterator.__length_hint__")):=by rw[typeLookup_type,builtinLookup_eq_fast];kernel_rfl
section
variable {prog:Program}{w:World}{A:Around}{E:Value→Shared→Prop}{s:Shared}{r l:Addr}{eJ:Array Value}
theorem Dw(hT:s.TypeIs (.ref r) "list_reverseiterator")(h:Q false s):wpAny (model prog w) A (Builtin.List.listLengthHint (.ref r)) Q E s:=by
 unfold Builtin.List.listLengthHint;refine wpAny_bind (wpAny_specialOf hT A6 ?_);refine wpAny_bind (wpAny_specialOf hT A7 ?_);generalize hid:("list_reverseiterator.__length_hint__":String)=id0
 wp_delta
 rw[show splitId id0=some ("list_reverseiterator","__length_hint__")from by subst hid;decide];subst hid;refine wpAny_bind (wpAny_isInstance (T:="list_reverseiterator") (b:=true) hT (by rw[isSubtype_type];kernel_rfl) ?_);refine wpAny_ite_split (λhab=>absurd hab (by decide)) (λ_=>?_);refine wpAny_ite_split (λ_=>?_) (λhab=>absurd (by decide) hab);refine wpAny_ite_split (λhab=>absurd hab (by decide)) (λ_=>?_);exact wpAny_pure h
theorem ym(hh:A.handled=none)(hit:s.heap.IsRevIter r l ((eJ.size:Int)-1))(hl:s.heap.IsList l eJ)(S:Addr)(hSr:S≠r)(hSl:S≠l)(hlr:l≠r)(res:Value)(c₀:Nat)(hS:s.heap.get? S=some {cls:=.type "list",data:=.seq #[] c₀})
  (hR:∀h' tk acc' c',(∀b o,b≠S→b≠r→s.heap.get? b=some o→h'.get? b=some o)→h'.get? S=some {cls:=.type "list",dict:=none,data:=.seq acc' c',slots:=#[]}→ItemsOf (λi v=>eJ[eJ.size-1-i]?=some v) acc' eJ.size→R (.ok (.ret res)) {s with heap:=h',toks:=tk}) (hn:eJ.size≤sizeLine):
  wpAny (model prog w) A.in1 (Builtin.List.listExtendWith (.ref S) (.ref r) res)
   (λgf s'=>match gf with|.done f=>R (.ok f) s'|.again c'=>c'.quiet=true∧codeAny (model prog w) A c' R s') (λe s'=>R (.error e) s') s:=by
 have hSf:S∉[r,l]:=by simp only[aB,aF,or_false,not_or];exact⟨hSr,hSl⟩
 have W:=Walks.listRev (prog:=prog) (w:=w) (A:=A.in1) hh r l hlr eJ;have hT:s.TypeIs (.ref r) "list_reverseiterator":=hit.typeIs;have st0:0≤eJ.size∧s.heap.IsRevIter r l ((eJ.size:Int)-1-((0:Nat):Int))∧s.heap.IsList l eJ:=⟨aS _,by simpa using hit,hl⟩;unfold Builtin.List.listExtendWith;refine wpAny_bind (wpAny_typeOf (T:="list_reverseiterator") hT ?_);have h1:Builtin.List.listSameRef (.ref S) (.ref r)=false:=by simp[Builtin.List.listSameRef,hSr]
 simp only[h1,show(Value.type "list_reverseiterator"==Value.type "list")=false from by decide,show(Value.type "list_reverseiterator"==Value.type "tuple")=false from by decide,Bool.or_false,Bool.false_eq_true,if_false];refine wpAny_bind (wpAny_pyIter_revIter hit ?_);refine wpAny_bind (wpAny_holding (Dw hT ?_));refine wpAny_ite_split (λhab=>absurd hab (by decide)) (λ_=>wpAny_pure ⟨plainId_quiet PySem.F.plain_extend_loop _,?_⟩);refine codeAny_extend_loopS W.toS hn S hSf res eJ.size 0 _ #[] c₀ rfl (aS _) st0 hS (ItemsOf.nil _) λs' acc' c' hm hS' hacc=>?_;rw[Moved.eq_with hm];refine hR s'.heap s'.toks acc' c' (λb o hb hbr e=>hm.heap b o (λhmem=>?_) e) hS' hacc;rcases aB.mp hmem with e'|hmem
 ·exact hb e'
 ·exact hbr (aG.mp hmem)
theorem Dv(hh:A.handled=none)(hit:s.heap.IsRevIter r l ((eJ.size:Int)-1))(hl:s.heap.IsList l eJ)(S:Addr)(hSr:S≠r)(hSl:S≠l)(hlr:l≠r)(hS:s.heap.get? S=some {cls:=.type "list",data:=.seq #[]})
  (hR:∀h' tk acc' c',(∀b o,b≠S→b≠r→s.heap.get? b=some o→h'.get? b=some o)→h'.get? S=some {cls:=.type "list",dict:=none,data:=.seq acc' c',slots:=#[]}→ItemsOf (λi v=>eJ[eJ.size-1-i]?=some v) acc' eJ.size→R (.ok (.ret .none)) {s with heap:=h',toks:=tk}) (hn:eJ.size≤sizeLine):
  wpAny (model prog w) A.in1 (Builtin.«list.__init__» ⟨[.ref S,.ref r],[]⟩)
   (λgf s'=>match gf with|.done f=>R (.ok f) s'|.again c'=>c'.quiet=true∧codeAny (model prog w) A c' R s') (λe s'=>R (.error e) s') s:=by
 show wpAny _ _ (do let old ← Builtin.List.listItems (.ref S);Builtin.List.listUpdate (.ref S) (λ_=>#[]);letGo old.toList.reverse;Builtin.List.listExtendWith (.ref S) (.ref r) .none) _ _ s;refine wpAny_bind ?_;unfold Builtin.List.listItems;refine wpAny_bind (wpAny_seqItems hS rfl (wpAny_pure ?_));show wpAny _ _ (updateSeq S (λ_=>#[]) >>= λ_=>letGo (#[]:Array Value).toList.reverse >>= λ_=>Builtin.List.listExtendWith (.ref S) (.ref r) .none) _ _ s;refine wpAny_bind (wpAny_updateSeq hS rfl ?_);have hS₂:=Heap.get?_update_self (Obj.mapSeq (λ_=>(#[]:Array Value))) hS rfl;have oth:∀b o,b≠S→s.heap.get? b=some o→(s.heap.update S (Obj.mapSeq (λ_=>(#[]:Array Value)))).get? b=some o:=
  λb o hb e=>(Heap.get?_update_other _ _ (ai hb)).trans e
 refine wpAny_bind (wpAny_letGo ?_);refine ym hh (hit.at λo e=>oth r o hSr.symm e) (hl.at λo e=>oth l o hSl.symm e) S hSr hSl hlr .none _ hS₂ (λh' tk acc' c' hk hS' hacc=>?_) hn;exact hR h' tk acc' c' (λb o hb hbr e=>hk b o hb hbr (oth b o hb e)) hS' hacc
theorem rv_call(hh:A.handled=none)(hit:s.heap.IsRevIter r l ((eJ.size:Int)-1))(hl:s.heap.IsList l eJ)(hlr:l≠r)(hn:eJ.size≤sizeLine)
  (hQ:∀h' tk acc' c',(∀b o,b≠r→s.heap.get? b=some o→h'.get? b=some o)→h'.get? s.heap.objs.size=some {cls:=.type "list",dict:=none,data:=.seq acc' c',slots:=#[]}→ItemsOf (λi v=>eJ[eJ.size-1-i]?=some v) acc' eJ.size→Q (.ref s.heap.objs.size) {s with heap:=h',toks:=tk}):
  wpAny (model prog w) A (call (.type "list") [.ref r]) Q E s:=by
 refine callType_codes (Q₁:=λobj s₁=>obj=.ref s.heap.objs.size∧s₁={s with heap:=s.heap.push {cls:=.type "list",data:=.seq #[]}}) PySem.F.called_list (PySem.F.typeCall_list_1 _) PySem.F.entry_list_init
  (code_list_new _ ⟨rfl,rfl⟩) λobj s₁ h₁=>?_
 obtain⟨rfl,rfl⟩:=h₁;have hS:(s.heap.push {cls:=.type "list",data:=.seq #[]}).get? s.heap.objs.size=some {cls:=.type "list",data:=.seq #[]}:=Heap.get?_push_size _ rfl;have lr:r<s.heap.objs.size:=by obtain⟨o,e,_⟩:=hit;exact Heap.lt_size e
 have ll:l<s.heap.objs.size:=by obtain⟨o,e,_⟩:=hl;exact Heap.lt_size e
 refine⟨⟨_,hS,rfl⟩,PySem.F.args_list_init_2 _ _,Dv (A:=A.in1) hh (hit.at λo e=>Heap.get?_push_of_some _ e) (hl.at λo e=>Heap.get?_push_of_some _ e) _ (bC lr) (bC ll) hlr hS (λh' tk acc' c' hk hS' hacc=>?_) hn⟩;exact⟨rfl,hQ h' tk acc' c' (λb o hbr e=>hk b o (aM (Heap.lt_size e)) hbr (Heap.get?_push_of_some _ e)) hS' hacc⟩
end
end PySem.W
namespace L2
open PySem PySem.Spec PyProof.Rows
section
variable {X:Cx}
theorem mV:∀{xs:List V}{us:List Value},fE xs us→fE xs.reverse us.reverse
 | _,_,.nil=>.nil
 | _,_,.cons r t=>by rw[ao,ao];exact(mV t).append (.cons r .nil)
def xG(K:aA)(tl:TE):TE:=λσ H Q=>tl σ H λx H1=>onR x λa=>lZ (eG K H1 a) λxs=>lA H1 (.lst xs.reverse) Q
theorem xg(hc:X.calm=true)(hgl:Gl X "list")(hml:X.mg "list"=none)(hgr:Gl X "reversed")(hmr:X.mg "reversed"=none)(he:PE X e tl)(h1:starEach [e] X.env=[(false,eval e X.env)]:=by rfl)
  (h2:starEach [.Call (.Name "reversed" p1) [e] [] p2] X.env=[(false,eval (.Call (.Name "reversed" p1) [e] [] p2) X.env)]:=by rfl):
  PE X (.Call (.Name "list" q1) [.Call (.Name "reversed" p1) [e] [] p2] [] q2) (xG X.K tl):=by
 intro pins s σ H Q I h;refine wpAny_Call_Name_kw (kC I hgl hml pP ?_);have h2':starEach (.Call (.Name "reversed" p1) [e] [] p2::[]) X.env=(false,eval (.Call (.Name "reversed" p1) [e] [] p2) X.env)::starEach [] X.env:=h2;refine bO ?_ h2' (by rfl);rw[h2];refine Calls.spliced_cons ?_;refine wpAny_Call_Name_kw (kC I hgr hmr oa ?_);have h1':starEach (e::[]) X.env=(false,eval e X.env)::starEach [] X.env:=h1;refine bO (thn ((dh he fX h1':PA X [e] (dM tl dW)) p2 pins s σ H (λvs H1=>on1 vs λx=>onR x λa=>lZ (eG X.K H1 a) λxs=>lA H1 (.lst xs.reverse) Q) I h) λus s1 ⟨vs,H1,I1,r1,q1⟩=>?_) h1' (by rfl);obtain⟨_,rfl,q1⟩:=on1.ex q1;obtain⟨a,rfl,q1⟩:=onR.ex q1;obtain @⟨xs,hq,q⟩:=q1;obtain⟨u,rfl,ru⟩:=lH r1;cases ru;obtain⟨its,rv,p,hz⟩:=I1.list hq;refine call_reversed_list p.isList ?_;refine Calls.spliced_nil ?_;have hlt:a<s1.heap.objs.size:=by obtain⟨o,eo,_⟩:=p.isList;exact Heap.lt_size eo
 refine PySem.W.rv_call (l:=a) (eJ:=its.toArray) (I1.ok.hd hc) ⟨_,Heap.get?_push_size _ rfl,rfl,rfl⟩ (p.isList.at λo eo=>Heap.get?_push_of_some _ eo) (aM hlt) (by simpa[←rv.length]using hz) λh' tk acc' c' hk hD hacc=>?_;have hsz:(s1.heap.push (revObj a ((its.toArray.size:Int)-1))).objs.size=s1.heap.objs.size+1:=Heap.size_push _ _;have hvals:fE xs.reverse acc'.toList:=by
  have e:acc'.toList=its.reverse:=by
   apply List.ext_getElem?;intro i;have hs:acc'.size=its.length:=by simpa using hacc.1
   by_cases hi:i<its.length
   ·have h1:acc'[i]?=some acc'[i]:=by simp[hs,hi]
    have h2:=hacc.2 i _ h1;rw[cR,h1,List.getElem?_reverse hi];simpa using h2.symm
   ·rw[dE (by simp[hs];lia),dE (by simp;lia)]
  rw[e];exact mV rv
 refine⟨.ref (s1.heap.push (revObj a ((its.toArray.size:Int)-1))).objs.size,_,I1.laid (a:=(s1.heap.push (revObj a ((its.toArray.size:Int)-1))).objs.size) (o:=.lst xs.reverse) (h':=h') (t':=tk) (λb o eo=>hk b o (aM (Heap.lt_size eo)) (Heap.get?_push_of_some _ eo)) (by rw[hsz];lia) ⟨by simpa using hz,acc'.toList,c',hvals,by simpa using hD⟩,rfl,q _ (I1.hok.fresh (by rw[hsz];lia))⟩
end
section
variable {X:Cx}
def qN(K:aA):R2:=λx y H Q=>onR x λa=>onR y λb=>lZ (eA K H a) λxs=>lZ (eA K H b) λys=>xs.length+ys.length≤sizeLine∧
 (xs=[]→Q (.ref b) H)∧(xs≠[]→ys=[]→Q (.ref a) H)∧(xs≠[]→ys≠[]→lA H (.tup (xs++ys)) Q)
theorem sR:nJ X (binaryOp .Add) (qN X.K):=by
 intro pins s σ H x y v u Q I rx ry h;obtain⟨a,rfl,h⟩:=onR.ex h;obtain⟨b,rfl,h⟩:=onR.ex h;obtain @⟨xs,ha,h⟩:=h;obtain @⟨ys,hb,hz,q0,q1,q2⟩:=h;by_cases hx:xs=[]
 ·subst hx;cases rx;cases ry;obtain⟨its,r1,p1,_⟩:=I.tuple ha;obtain⟨its2,r2,p2,_⟩:=I.tuple hb;cases r1;obtain⟨⟨cls,dd,data,sl⟩,ho,hc,n,hd⟩:=id p1;obtain⟨⟨cls2,dd2,data2,sl2⟩,ho2,hc2,n2,hd2⟩:=id p2;simp only at hc hd hc2 hd2;subst hc hd hc2 hd2;exact concat_meets ⟨_,ho,rfl⟩ ⟨_,ho2,rfl⟩ noFill_tuple_add seq_tuple_add cO cP (cQ _ _)
   (tuple_addW0 a b #[] its2.toArray n n2 dd dd2 sl sl2 rfl) ⟨ho,ho2,.ref b,H,I,rfl,q0 rfl⟩
 ·exact EG pins s σ H _ _ v u Q I rx ry ⟨a,b,xs,ys,rfl,rfl,ha,hb,hx,hz,q1 hx,q2 hx⟩
end
end L2
namespace PySem
section
variable {prog:Program}{w:World}{A:Around}{E:Value→Shared→Prop}{s:Shared}
theorem Cv{c t:Addr}{j:Nat}{its}{v:Value}{Q:Value→Shared→Prop}(hc:s.heap.IsTupleIter c t j)(ht:s.heap.IsTuple t its)(hv:its[j]?=some v)
  (hQ:∀k,k.IsTupleIter c t (j+1)→Heap.SameBut c s.heap k→Q v {s with heap:=k}):wpAny (model prog w) A (Builtin.SmallTypes.nextOf (.ref c)) Q E s:=by
 obtain⟨ob,h1,h2,h3⟩:=id hc;obtain⟨ot,h4,_,m,h5⟩:=ht;unfold Builtin.SmallTypes.nextOf;refine wpAny_bind (wpAny_callSpecial?_slot (name:=Str.ofString "__next__") hc.typeIs F.slot_tuple_iterator_next (wpAny_call_entry F.slot_tuple_iterator_next hc.typeIs F.entry_tuple_iterator_next ?_ (F.args_tuple_iterator_next_1 _)));show wpAny _ _ (field (.ref c) 0 >>= _) _ _ s;refine wpAny_bind (wpAny_field h1 h3 (x:=.ref t) rfl ?_);show wpAny _ _ (if(Value.ref t==Value.none)=true then _ else _) _ _ s;rw[if_neg (show ¬(Value.ref t==Value.none)=true from aN)];show wpAny _ _ (field (.ref c) 1 >>= _) _ _ s;refine wpAny_bind (wpAny_field h1 h3 (x:=.int j 0) rfl ?_);show wpAny _ _ (seqItems? (.ref t) >>= _) _ _ s;refine wpAny_bind (wpAny_seqItems h4 h5 ?_);simp only[bj,hv];refine wpAny_bind (wpAny_setField h1 h3 (by simp) (wpAny_pure ⟨v,rfl,wpAny_pure (hQ _ ?_ (Heap.SameBut.update ..))⟩));exact⟨_,Heap.get?_update_self _ h1 (Obj.isFreed_of_fields (Obj.data_mapFields h3 _)),(Obj.cls_mapFields ..).trans h2,by rw[Obj.data_mapFields h3];simp[rawInt]⟩
theorem Cu{c t:Addr}{j:Nat}{its}{Q:Value→Shared→Prop}(hh:A.handled=none)(hc:s.heap.IsTupleIter c t j)(ht:s.heap.IsTuple t its)(hv:its[j]?=none)
  (hE:∀k e,Heap.ExtBut c s.heap k→(∃o,k.get? e=some o∧o.cls=.type "StopIteration")→E (.ref e) {s with heap:=k}):wpAny (model prog w) A (Builtin.SmallTypes.nextOf (.ref c)) Q E s:=by
 obtain⟨ob,h1,h2,h3⟩:=id hc;obtain⟨ot,h4,_,m,h5⟩:=ht;unfold Builtin.SmallTypes.nextOf;refine wpAny_bind (wpAny_callSpecial?_slot (name:=Str.ofString "__next__") hc.typeIs F.slot_tuple_iterator_next (wpAny_call_entry F.slot_tuple_iterator_next hc.typeIs F.entry_tuple_iterator_next ?_ (F.args_tuple_iterator_next_1 _)));show wpAny _ _ (field (.ref c) 0 >>= _) _ _ s;refine wpAny_bind (wpAny_field h1 h3 (x:=.ref t) rfl ?_);show wpAny _ _ (if(Value.ref t==Value.none)=true then _ else _) _ _ s;rw[if_neg (show ¬(Value.ref t==Value.none)=true from aN)];show wpAny _ _ (field (.ref c) 1 >>= _) _ _ s;refine wpAny_bind (wpAny_field h1 h3 (x:=.int j 0) rfl ?_);show wpAny _ _ (seqItems? (.ref t) >>= _) _ _ s;refine wpAny_bind (wpAny_seqItems h4 h5 ?_);simp only[bj,hv];refine wpAny_bind (wpAny_rule (wpAny_bind (wpAny_setField h1 h3 (by simp) ?_)));show wpAny _ _ (newExc (.type "StopIteration") [] >>= _) _ _ _;refine wpAny_bind ?_;simp only[newExc,newTuple];refine wpAny_bind (wpAny_newObj_type ?_ (by size_fits));refine wpAny_bind (m:=firstArgMember _ _) (wpAny_of_eq (a:=.none) (by first|rfl|(simp only[firstArgMember];rfl)) ?_);refine wpAny_newObj_type ?_ (by size_fits);simp only[raiseNew];refine wpAny_bind (wpAny_handled ?_)
 first|rw[show A.in1.handled=none from hh]|rw[hh]
 refine wpAny_bind (wpAny_pure (wpAny_throw ?_));exact hE _ _ (((Heap.SameBut.update ..).extBut.push _).push _) ⟨_,Heap.get?_push_size _ rfl,rfl⟩
end
section
variable {prog:Program}{w:World}{A:Around}{E:Value→Shared→Prop}{s:Shared}
end
end PySem
namespace L2
open PySem PySem.Spec PyProof.Rows
section
variable {X:Cx}{pins:List (Addr×Obj)}{σ:List (Option V)}{H:Hp}{s:Shared}{h':Heap}
theorem eV.turnedN{t':Nat}{fp:List Addr}{a:Addr}{o:HO}(I:eV X pins σ H s)(hf:∀b∈fp,oy X pins H b)(k:∀b u,b∉fp→s.heap.get? b=some u→h'.get? b=some u)(hp:s.heap.objs.size≤a)
  (new:gU X.prog X.w (upd H a o) h' a o):eV X pins σ (upd H a o) {s with heap:=h',toks:=t'}:=by
 have hn:=I.hok.fresh hp;have nfp:∀b u,H b=some u→b∉fp:=λb u e z=>by rw[(hf b z).1]at e;cases e
 have na:∀b u,s.heap.get? b=some u→b≠a:=λb u e=>aM (ae (Heap.lt_size e) hp);have up:∀b u,H b=some u→upd H a o b=some u:=λb u e=>by rw[db (dZ e hn)];exact e
 refine I.step (g':=s.gens) (d':=s.drawn) (ch:=fp) (λb hb=>?_) (λb u _ _ hc e _=>k b u hc e) (λb u _ _ hc e _=>⟨u.slots,k b u hc e⟩) (λb u _ e n=>by rw[db (na b u e)];exact n)
  (λb u hc e=>⟨u,k b u hc e⟩) (λb _ e=>up b _ e) (λb _ _ e=>up b _ e) (λb ps e=>⟨#[],by rw[up b _ e];simp⟩) (λm hm=>?_) (λb u e=>?_) I.bare
 ·obtain⟨_,h1,_,h3,h4,h5⟩:=hf b hb;exact⟨h3,h1,h4,h5⟩
 ·obtain⟨u,es,ep,ho,r⟩:=hm;exact⟨u,es,ep,k _ u (λz=>(hf _ z).2.1 rfl) ho,r⟩
 ·by_cases hb:b=a
  ·subst hb;rw[dO]at e;cases e;exact new
  ·rw[db hb]at e;refine(I.hok b u e).stay (λc v hc q=>k c v ?_ q) (λc q=>up c _ q) λc xs q=>up c _ q;rcases hc with z|z
   ·rw[z];exact nfp b u e
   ·exact nfp c _ z
theorem eV.turnedL{t':Nat}{fp:List Addr}(I:eV X pins σ H s)(hf:∀b∈fp,oy X pins H b)(k:∀b u,b∉fp→s.heap.get? b=some u→h'.get? b=some u):eV X pins σ H {s with heap:=h',toks:=t'}:=by
 have nfp:∀b u,H b=some u→b∉fp:=λb u e z=>by rw[(hf b z).1]at e;cases e
 refine I.step (g':=s.gens) (d':=s.drawn) (ch:=fp) (λb hb=>?_) (λb u _ _ hc e _=>k b u hc e) (λb u _ _ hc e _=>⟨u.slots,k b u hc e⟩) (λb u _ e n=>n)
  (λb u hc e=>⟨u,k b u hc e⟩) (λb _ e=>e) (λb _ _ e=>e) (λb ps e=>⟨#[],by rw[e];simp⟩) (λm hm=>?_) (λb u e=>?_) I.bare
 ·obtain⟨_,h1,_,h3,h4,h5⟩:=hf b hb;exact⟨h3,h1,h4,h5⟩
 ·obtain⟨u,es,ep,ho,r⟩:=hm;exact⟨u,es,ep,k _ u (λz=>(hf _ z).2.1 rfl) ho,r⟩
 ·refine(I.hok b u e).stay (λc v hc q=>k c v ?_ q) (λc q=>q) λc xs q=>q;rcases hc with z|z
  ·rw[z];exact nfp b u e
  ·exact nfp c _ z
end
theorem Ih:bootBuiltins "zip"=some (.type "zip"):=by decide
section
variable {X:Cx}{es:List Expr}{x1:Nat}{tp:Pos}
end
structure jO(X:Cx)(scope:Scope)(cl:List (Str×Addr))(xs ys:List Str)(js:List Nat):Prop where
 clos:closureFor scope X.env=pure cl
 ncell:∀y∈scope.names,y.2≠.cell
 kind:scope.kind=.function
 names:∀y∈scope.names,y.2=.local→scope.names.lookup y.1=some .local
 cells:∀y c,cl.lookup y=some c→X.env.cells.lookup y=some c
 has:∀y,((relabel scope X.env).names.lookup y=some .cell∨(relabel scope X.env).names.lookup y=some .free)→∃c,cl.lookup y=some c
 free:∀(k:Nat)(y:Str),ys[k]?=some y→∃j:Nat,js[k]?=some j∧X.N[j]?=some y∧X.env.scope.names.lookup y=some .cell∧((relabel scope X.env).names.lookup y=some .cell∨(relabel scope X.env).names.lookup y=some .free)
 len:js.length=ys.length
section
variable {X:Cx}{pins:List (Addr×Obj)}{σ:St}{H:Hp}{s:Shared}{scope:Scope}{cl:List (Str×Addr)}{xs ys:List Str}{js:List Nat}{fp:List Addr}{C D:Addr}{h':Heap}
theorem eV.compOkT(I:eV X pins σ H s)(S:jO X scope cl xs ys js)(hf:∀b∈fp,oy X pins H b)(hfb:∀b∈fp,b<s.heap.objs.size)(hC:s.heap.objs.size≤C):(iC X scope cl (xs++ys) fp s H C).Ok where
 mod:=I.ok.mod
 kind:=S.kind
 glob:=I.ok.glob
 blt:=I.ok.blt
 above:=hC
 inj:=λy z c h1 h2=>I.ok.inj y z c (S.cells y c h1) (S.cells z c h2)
 has:=λy h=>S.has y h
 cab:=λ_ _ h=>by cases h
 hd:=I.ok.hd
 frames:=I.ok.frames
 stk:=.inl rfl
 exf:=λb hb=>by obtain⟨_,h1,_,h3,h4,_⟩:=hf b hb;exact⟨aM (ae (hfb b hb) hC),λy c e=>h4 y c (S.cells y c e)⟩
 bs:=I.bs
 bsz:=aY I.ok.bsz I.sz
 noex:=λb o e hb=>by
  obtain⟨_,_,_,h3,_⟩:=hf b hb;rcases h3 with z|z
  ·exact I.ok.noex b o e z
  ·exact absurd (ae (Heap.lt_size e) (aY I.ok.bsz z)) (bT _)
 exfs:=λb hb z=>by
  obtain⟨_,h1,h2,_⟩:=hf b hb;rcases aB.mp (I.stkSub b z)with e|e
  ·exact h1 e
  ·exact h2 e
 funs:=I.stack
 frf:=I.stkFree
theorem eV.compInT(I:eV X pins σ H s)(S:jO X scope cl xs ys js)(hf:∀b∈fp,oy X pins H b)(hfb:∀b∈fp,b<s.heap.objs.size)(hC:s.heap.objs.size≤C)(hD:s.heap.objs.size≤D)(hDC:D≠C)
  (keep:∀b o,s.heap.get? b=some o→h'.get? b=some o) (ns:h'.Ns C m) (ho:h'.get? D=some (m6 [] n)):
  eV (iC X scope cl (xs++ys) fp s H C) ((X.pn++pins)++[(D,m6 [] n)]) (List.replicate xs.length none++CA σ js) H {s with heap:=h',toks:=t'} where
 ok:=I.compOkT S hf hfb hC
 os:=rfl
 bare:=I.bare
 base:=Un.kept keep
 loc:=by
  refine⟨m,ns,λi y v e1 e2 e3=>?_⟩;have e1:(xs++ys)[i]?=some y:=e1;by_cases hi:i<xs.length
  ·rw[aw (by simpa using hi),cu,if_pos hi]at e2;cases e2
  ·obtain⟨k,rfl⟩:∃k,i=xs.length+k:=⟨i-xs.length,by lia⟩;rw[bJ (by lia),dG]at e1;rw[bJ (by simp),cN,dG]at e2;obtain⟨j,hj,hN,hk,hk2⟩:=S.free k y e1;have e4:σ[j]?=some (some v):=by
    unfold CA at e2;rw[ac,hj]at e2;have e2:σ.getD j none=some v:=Option.some.inj e2;rw[List.getD_eq_getElem?_getD]at e2;cases q:σ[j]? with
    | none=>rw[q]at e2;cases e2
    | some z=>rw[q]at e2;exact congrArg some e2
   obtain⟨m0,hn0,hl⟩:=I.loc;obtain⟨u,ru,l⟩:=hl j y v hN e4 (.inr (.inl hk));refine⟨u,ru,.inr ⟨hk2,?_⟩⟩;obtain⟨c,hc⟩:=S.has y hk2;rcases l with⟨z,_⟩|⟨_,c',hc',hcell⟩
   ·have z:X.env.scope.names.lookup y=some .local:=z;rw[hk]at z;cases z
   ·have q:=S.cells y c hc;rw[hc']at q;cases q;obtain⟨oc,a1,a2⟩:=hcell;exact⟨_,hc,oc,keep _ _ a1,a2⟩
 cell:=λy c e=>by obtain⟨v,oc,a1,a2⟩:=I.cell y c (S.cells y c e);exact⟨v,oc,keep _ _ a1,a2⟩
 free:=I.hok.fresh hC
 freeC:=λy c e=>I.freeC y c (S.cells y c e)
 pin:=λp hp=>by
  rcases aU.mp (show p∈(X.pn++pins)++[(D,m6 [] n)]from hp)with z|z
  ·obtain⟨e,nn,ne,nf,d⟩:=I.pin p z;exact⟨keep _ _ e,nn,aM (ae (Heap.lt_size e) hC),I.nostk ne nf,d⟩
  ·rw[aG]at z;subst z;exact⟨ho,I.hok.fresh hD,hDC,I.nostk (bC (ae I.lt hD)) (I.nofs hD),λv z=>by cases(show Data.seq _ _=Data.cell v from z)⟩
 hok:=I.hok.kept keep
 len:=by simp[CA,iC,S.len]
end
section
variable {prog:Program}{w:World}{A:Around}{s:Shared}{R:Result→Shared→Prop}
end
def Ja(wi:TI)(g:TG)(te:TE)(js:List Nat):TE:=λσ H Q=>wi σ H λJ H1=>∃W:Nat→Nat→List V→Hp→Prop,(∃m,W 0 m [] H1)∧∀i m vs H,W i m vs H→
 (J.stop i H∧vs.length≤sizeLine∧lA H (.lst vs) Q)∨
 (J.go i H∧∀x H',J.yld i H x H'→∀o1 o2,g x (o1::o2::CA σ js) H' λσ2 H2=>(∃o1 o2,σ2=o1::o2::CA σ js)∧te σ2 H2 λy H''=>vs.length<sizeLine∧∃m',m'<m∧W (i+1) m' (vs++[y]) H'')
def ze(K:aA)(a b:Addr):It:=
  ⟨λi H=>∃xs ys x y,eG K H a xs∧eG K H b ys∧xs[i]?=some x∧ys[i]?=some y,
   λi H v H'=>∃p x y,v=.ref p∧H p=none∧H'=upd H p (.tup [x,y])∧(∀xs,eG K H a xs→xs[i]?=some x)∧∀ys,eG K H b ys→ys[i]?=some y,
   λi H=>∃xs ys,eG K H a xs∧eG K H b ys∧xs.length≤i⟩
theorem yO{P:Program}{w:World}{K:aA}{es:List Expr}{x1}{pos:Pos}{z p q c d a b:Addr}(D:ZipApart z p q c d a b):u6 P w K (.Tuple es x1 pos) (ze K a b) [z,p,q,c,d] z
  (λi h=>IsZip h z p q .none∧IsPair h p (.ref c) (.ref d)∧(∃u v,IsPair h q u v)∧h.IsListIter c a i∧h.IsListIter d b i) where
 mem:=by simp
 obj:=λi h st b hb=>by
  obtain⟨hz,hp,⟨u,v,hq⟩,⟨oc,ec,_,dc⟩,⟨od,ed,_,dd⟩⟩:=st;simp only[aB,aF,or_false]at hb;rcases hb with rfl|rfl|rfl|rfl|rfl
  ·exact⟨_,hz,λv e=>by cases(show Data.fields _=Data.cell v from e)⟩
  ·exact⟨_,hp,λv e=>by cases(show Data.seq _ _=Data.cell v from e)⟩
  ·exact⟨_,hq,λv e=>by cases(show Data.seq _ _=Data.cell v from e)⟩
  ·exact⟨oc,ec,λv e=>by rw[dc]at e;cases e⟩
  ·exact⟨od,ed,λv e=>by rw[dd]at e;cases e⟩
 keep:=λi h h' st k=>by obtain⟨hz,hp,⟨u,v,hq⟩,⟨oc,ec,rc⟩,⟨od,ed,rd⟩⟩:=st;exact⟨k z (by simp) _ hz,k p (by simp) _ hp,⟨u,v,k q (by simp) _ hq⟩,⟨oc,k c (by simp) _ ec,rc⟩,⟨od,k d (by simp) _ ed,rd⟩⟩
 item:=by
  intro X hP hw hK hc i pins s σ H E I hf st hg;subst hP hw hK;obtain⟨hz,hp,⟨u0,v0,hq⟩,h1,h2⟩:=st;obtain⟨xs,ys,x,y,hxs,hys,hx,hy⟩:=hg;obtain⟨its,rv,pa,za⟩:=I.list hxs;obtain⟨jts,rw',pb,zb⟩:=I.list hys;obtain⟨u,hu,ru⟩:=rv.get hx;obtain⟨v,hv,ru'⟩:=rw'.get hy;refine wpAny_pyNext_zip_item D hz hp hq h1 h2 pa.isList pb.isList (x:=u) (y:=v) (by simpa using hu) (by simpa using hv) λg g1 g2 g3 g4 g5 g6 g7=>?_;refine⟨_,rfl,wpAny_letOwnedTupleGo_zip g1 λg' z' sb=>?_⟩;replace sb:Heap.SameBut z g g':=sb;have zl:z<s.heap.objs.size:=Heap.lt_size hz;have kk:∀b u,b∉[z,p,q,c,d]→s.heap.get? b=some u→g'.get? b=some u:=λb u hb e=>by simp only[aB,aF,or_false,not_or]at hb;exact sb.extBut _ _ hb.1 (g7 b u hb.1 hb.2.2.1 hb.2.2.2.1 hb.2.2.2.2 e)
  have pT:IsPair g' s.heap.objs.size u v:=sb.extBut _ _ (bC zl) g5;have new:gU X.prog X.w (upd H s.heap.objs.size (.tup [x,y])) g' s.heap.objs.size (.tup [x,y]):=⟨(by show 2≤sizeLine;rw[sizeLine_eq];decide),[u,v],.cons ru (.cons ru' .nil),_,pT,rfl,_,rfl⟩;have I1:eV X pins σ (upd H s.heap.objs.size (.tup [x,y])) {s with heap:=g'}:=I.turnedN (t':=s.toks) hf kk (aC _) new;obtain⟨oc,ec,rc⟩:=g3;obtain⟨od,ed,rd⟩:=g4;refine⟨.ref s.heap.objs.size,_,I1,rfl,⟨s.heap.objs.size,x,y,rfl,I.hok.fresh (aC _),rfl,λzs hzs=>by rw[I.list_inj hzs hxs];exact hx,λzs hzs=>by rw[I.list_inj hzs hys];exact hy⟩,
   ⟨z',sb.extBut _ _ D.TIz (g7 p _ D.TIz D.TITO D.TIi1 D.TIi2 hp),⟨u,v,sb.extBut _ _ D.TOz g2⟩,⟨oc,sb.extBut _ _ D.i1z ec,rc⟩,⟨od,sb.extBut _ _ D.i2z ed,rd⟩⟩,λb hb=>?_⟩
  have hbn:=(hf b hb).1;have:b≠s.heap.objs.size:=by
   have st0:∀b∈[z,p,q,c,d],b<s.heap.objs.size:=by
    intro b hb;simp only[aB,aF,or_false]at hb;rcases hb with rfl|rfl|rfl|rfl|rfl
    ·exact Heap.lt_size hz
    ·exact Heap.lt_size hp
    ·exact Heap.lt_size hq
    ·obtain⟨_,e,_⟩:=h1;exact Heap.lt_size e
    ·obtain⟨_,e,_⟩:=h2;exact Heap.lt_size e
   exact aM (st0 b hb)
  rw[db this];exact hbn
 done:=by intro X hP hw hK hc i pins s σ H E I hf st hg;subst hP hw hK;obtain⟨hz,hp,⟨u0,v0,hq⟩,h1,h2⟩:=st;obtain⟨xs,ys,hxs,hys,hl⟩:=hg;obtain⟨its,rv,pa,za⟩:=I.list hxs;obtain⟨jts,rw',pb,zb⟩:=I.list hys;have hlen:=rv.length;refine wpAny_pyNext_zip_end (I.ok.hd hc) D hz hp hq h1 h2 pa.isList pb.isList (.inl (by simp;lia)) λg kg=>⟨rfl,I.turnedL (t':=s.toks) hf λb u hb e=>?_⟩;simp only[aB,aF,or_false,not_or]at hb;exact kg b u hb.1 hb.2.2.1 hb.2.2.2.1 hb.2.2.2.2 e
 self:=λ_ _ _ _ _ st h=>wpAny_pyIter_zip st.1 h
def By(K:aA)(ta tb:TE):TI:=λσ H R=>ta σ H λx H1=>tb σ H1 λy H2=>onR x λa=>onR y λb=>lZ (eG K H2 a) λ_=>lZ (eG K H2 b) λ_=>R (ze K a b) H2
section
variable {X:Cx}{es:List Expr}{x1:Nat}{tp:Pos}
theorem D6{l r:Expr}{ta tb:TE}{np pos:Pos}(hg:Gl X "zip")(hm:X.mg "zip"=none)(ha:PE X l ta)(hb:PE X r tb)(he:starEach [l,r] X.env=[(false,eval l X.env),(false,eval r X.env)]:=by rfl)(he2:starEach [r] X.env=[(false,eval r X.env)]:=by rfl):
  PI X (.Tuple es x1 tp) (.Call (.Name "zip" np) [l,r] [] pos) (By X.K ta tb):=by
 intro pins s σ H R I h;refine wpAny_Call_Name_kw (kC I hg hm Ih ?_);have h2:starEach (r::[]) X.env=(false,eval r X.env)::starEach [] X.env:=he2;have h1:starEach (l::[r]) X.env=(false,eval l X.env)::starEach [r] X.env:=by rw[he,he2]
 refine bO (thn ((dh ha (dh hb fX h2) h1:PA X [l,r] (dM ta (dM tb dW))) pos pins s σ H (λvs H2=>onC vs λx r=>on1 r λy=>onR x λa=>onR y λb=>lZ (eG X.K H2 a) λ_=>lZ (eG X.K H2 b) λ_=>R (ze X.K a b) H2) I h) λus s1 ⟨vs,H1,I1,r1,q1⟩=>?_) h1 (by rw[he2];rfl);obtain⟨_,_,rfl,q1⟩:=onC.ex q1;obtain⟨_,rfl,q1⟩:=on1.ex q1;obtain⟨a,rfl,q1⟩:=onR.ex q1;obtain⟨b,rfl,q1⟩:=onR.ex q1;obtain @⟨xs,hxs,q1⟩:=q1;obtain @⟨ys,hys,q⟩:=q1;obtain⟨u,v,rfl,ru,rv⟩:=fE.two r1;cases ru;cases rv;obtain⟨its,rva,pa,_⟩:=I1.list hxs;obtain⟨jts,rvb,pb,_⟩:=I1.list hys;refine call_zip_2 pa.isList pb.isList λg g1 g2 g3 g4 g5 g6 g7=>?_;have hla:a<s1.heap.objs.size:=by obtain⟨_,e,_⟩:=pa.isList;exact Heap.lt_size e
 have hlb:b<s1.heap.objs.size:=by obtain⟨_,e,_⟩:=pb.isList;exact Heap.lt_size e
 generalize en:s1.heap.objs.size=n at *;refine wpAny_pyIter_zip g1 ?_;refine⟨n+4,[n+4,n+2,n+3,n,n+1],_,_,H1,rfl,I1.kept (t':=s1.toks) g7,yO (PyProof.Rows.zipApart_new hla hlb),⟨g1,g2,⟨_,_,g3⟩,g4,g5⟩,λc hc=>?_,q⟩;have:s1.heap.objs.size≤c:=by
  simp only[aB,aF,or_false]at hc;rw[en];rcases hc with e|e|e|e|e<;>rw[e]
  ·exact be n 4
  ·exact be n 2
  ·exact be n 3
  ·exact aC n
  ·exact be n 1
 exact I1.fpOk this (I1.hok.fresh this)
end
end L2
namespace PySem
open AutoSeq1 (wpAny_loadPart')
section
variable {prog:Program}{w:World}{A:Around}{E:Value→Shared→Prop}{s:Shared}
theorem Ea{e c t:Addr}{j:Nat}{xs:Array Value}{x old:Value}{Q:Value→Shared→Prop}(he:IsEnum s.heap e c j old)(hc:s.heap.IsTupleIter c t j)(ht:s.heap.IsTuple t xs)(hx:xs[j]?=some x)(hne:e≠c)
  (hQ:∀g,IsEnumOut g e c ((j:Int)+1) x s.heap.objs.size→g.IsTupleIter c t (j+1)→g.get? s.heap.objs.size=some {cls:=.type "tuple",data:=.seq #[.int j s.toks,x]}→g.objs.size=s.heap.objs.size+1→
   (∀b o,b≠e→b≠c→s.heap.get? b=some o→g.get? b=some o)→Q (.ref s.heap.objs.size) {s with heap:=g,toks:=s.toks+1}):
  wpAny (model prog w) A (Builtin.«enumerate.__next__» ⟨[.ref e],[]⟩) (λgf s'=>∃v,gf=.done (.ret v)∧Q v s') E s:=by
 obtain⟨hp,gg,d,tk,os⟩:=s;show wpAny _ _ (field (.ref e) 2 >>= _) _ _ _;refine wpAny_bind (wpAny_field he rfl (x:=.ref c) rfl ?_);refine wpAny_bind (Cv hc ht hx λg1 c1 e1=>?_);replace e1:Heap.SameBut c hp g1:=e1;have r1:IsEnum g1 e c j old:=(e1.2 e hne).trans he;show wpAny _ _ (field (.ref e) 3 >>= _) _ _ ⟨g1,gg,d,tk,os⟩;refine wpAny_bind (wpAny_field r1 rfl (x:=rawInt j) rfl ?_);show wpAny _ _ (field (.ref e) 4 >>= _) _ _ ⟨g1,gg,d,tk,os⟩;refine wpAny_bind (wpAny_field r1 rfl (x:=.none) rfl ?_);show wpAny _ _ (mkInt j >>= _) _ _ ⟨g1,gg,d,tk,os⟩;refine wpAny_bind (wpAny_mkInt ?_);show wpAny _ _ (setField (.ref e) 3 (rawInt ((j:Int)+1)) >>= _) _ _ ⟨g1,gg,d,tk+1,os⟩;refine wpAny_bind (wpAny_setField_rec r1 (by simp) λg2 r2 e2=>?_);replace e2:Heap.SameBut e g1 g2:=e2;replace r2:IsEnum g2 e c ((j:Int)+1) old:=r2;show wpAny _ _ (setField (.ref e) 4 .none >>= _) _ _ ⟨g2,gg,d,tk+1,os⟩;refine wpAny_bind (wpAny_setField_rec r2 (by simp) λg3 r3 e3=>?_);replace e3:Heap.SameBut e g2 g3:=e3;replace r3:IsEnum g3 e c ((j:Int)+1) old:=r3;show wpAny _ _ (newTuple [.int j tk,x] >>= _) _ _ ⟨g3,gg,d,tk+1,os⟩;refine wpAny_bind (wpAny_newTuple ?_);have r4:IsEnum (g3.push {cls:=.type "tuple",data:=.seq #[.int j tk,x]}) e c ((j:Int)+1) old:=Heap.get?_push_of_some _ r3;generalize q4:g3.push {cls:=.type "tuple",data:=.seq #[.int j tk,x]}=g4 at r4;have sz:g3.objs.size=hp.objs.size:=by rw[e3.1,e2.1,e1.1]
 have el:e<hp.objs.size:=Heap.lt_size he;have t4:g4.get? hp.objs.size=some {cls:=.type "tuple",data:=.seq #[.int j tk,x]}:=by rw[←q4,←sz];exact Heap.get?_push_size _ rfl
 have n4:g4.objs.size=hp.objs.size+1:=by rw[←q4,Heap.size_push,sz]
 have k4:∀b o,b≠e→b≠c→hp.get? b=some o→g4.get? b=some o:=λb o hb1 hb2 hb=>by rw[←q4];exact Heap.get?_push_of_some _ (e3.extBut b o hb1 (e2.extBut b o hb1 (e1.extBut b o hb2 hb)))
 have c4:g4.IsTupleIter c t (j+1):=by rw[←q4];obtain⟨o,ho,r⟩:=(c1.extBut e2.extBut (ai hne)).extBut e3.extBut (ai hne);exact⟨o,Heap.get?_push_of_some _ ho,r⟩
 show wpAny _ _ (Builtin.SmallTypes.ownedTupleIsFree (.ref e) >>= _) _ _ ⟨g4,gg,d,tk+1,os⟩;rw[sz];clear q4 r3 e3 r2 e2 r1 e1 c1 sz g3 g2 g1;refine wpAny_bind ?_
 ·unfold Builtin.SmallTypes.ownedTupleIsFree;refine wpAny_bind (wpAny_field r4 rfl (x:=.none) rfl (wpAny_pure ?_));simp only[if_true];refine wpAny_bind (wpAny_rule ?_);refine wpAny_bind (wpAny_field r4 rfl (x:=old) rfl ?_);refine wpAny_bind (wpAny_setField_rec r4 (by simp) λg5 r5 e5=>?_);replace e5:Heap.SameBut e g4 g5:=e5;replace r5:IsEnum g5 e c ((j:Int)+1) x:=r5;show wpAny _ _ (Builtin.SmallTypes.ownedTupleHandOut (.ref e) (.ref hp.objs.size) >>= _) _ _ ⟨g5,gg,d,tk+1,os⟩;refine wpAny_bind ?_
  ·unfold Builtin.SmallTypes.ownedTupleHandOut;refine wpAny_bind (wpAny_setField_rec r5 (by simp) λg6 r6 e6=>?_);replace e6:Heap.SameBut e g5 g6:=e6;replace r6:IsEnumOut g6 e c ((j:Int)+1) x hp.objs.size:=r6;refine wpAny_setField_rec r6 (by simp) λg7 r7 e7=>?_;replace e7:Heap.SameBut e g6 g7:=e7;replace r7:IsEnumOut g7 e c ((j:Int)+1) x hp.objs.size:=r7;refine wpAny_bind (wpAny_letGo (wpAny_pure ⟨_,rfl,hQ g7 r7 ?_ ?_ ?_ ?_⟩))
   ·exact((c4.extBut e5.extBut (ai hne)).extBut e6.extBut (ai hne)).extBut e7.extBut (ai hne)
   ·exact e7.extBut _ _ (bC el) (e6.extBut _ _ (bC el) (e5.extBut _ _ (bC el) t4))
   ·rw[e7.1,e6.1,e5.1,n4]
   ·exact λb o hb1 hb2 hb=>e7.extBut b o hb1 (e6.extBut b o hb1 (e5.extBut b o hb1 (k4 b o hb1 hb2 hb)))
theorem zU{e c t:Addr}{j:Nat}{xs:Array Value}{x old:Value}{Q:Option Value→Shared→Prop}(he:IsEnum s.heap e c j old)(hc:s.heap.IsTupleIter c t j)(ht:s.heap.IsTuple t xs)(hx:xs[j]?=some x)(hne:e≠c)
  (hQ:∀g,IsEnumOut g e c ((j:Int)+1) x s.heap.objs.size→g.IsTupleIter c t (j+1)→g.get? s.heap.objs.size=some {cls:=.type "tuple",data:=.seq #[.int j s.toks,x]}→g.objs.size=s.heap.objs.size+1→
   (∀b o,b≠e→b≠c→s.heap.get? b=some o→g.get? b=some o)→Q (some (.ref s.heap.objs.size)) {s with heap:=g,toks:=s.toks+1}):wpAny (model prog w) A (pyNext (.ref e)) Q E s:=by
 have hT:s.TypeIs (.ref e) "enumerate":=⟨_,he,rfl⟩;unfold pyNext;exact wpAny_bind (wpAny_attempt (wpAny_callSpecial?_slot (name:=Str.ofString "__next__") hT F.slot_enumerate_next (wpAny_call_entry F.slot_enumerate_next hT F.entry_enumerate_next (Ea he hc ht hx hne λg a b c d k=>wpAny_pure (hQ g a b c d k)) (F.args_enumerate_next_1 _))))
theorem CG{e c t:Addr}{j:Nat}{xs:Array Value}{old:Value}{Q:Option Value→Shared→Prop}(hh:A.handled=none)(he:IsEnum s.heap e c j old)(hc:s.heap.IsTupleIter c t j)(ht:s.heap.IsTuple t xs)(hx:xs[j]?=none)
  (hQ:∀g,Heap.ExtBut c s.heap g→Q none {s with heap:=g}):wpAny (model prog w) A (pyNext (.ref e)) Q E s:=by
 have hT:s.TypeIs (.ref e) "enumerate":=⟨_,he,rfl⟩;unfold pyNext;refine wpAny_bind (wpAny_attempt (wpAny_callSpecial?_slot (name:=Str.ofString "__next__") hT F.slot_enumerate_next (wpAny_call_entry F.slot_enumerate_next hT F.entry_enumerate_next ?_ (F.args_enumerate_next_1 _))));show wpAny _ _ (field (.ref e) 2 >>= _) _ _ _;refine wpAny_bind (wpAny_field he rfl (x:=.ref c) rfl ?_);refine wpAny_bind (Cu hh hc ht hx λg y he' hy=>?_);obtain⟨o,ho,hcl⟩:=hy;exact wpAny_bind (wpAny_isInstance (T:="StopIteration") (b:=true) ⟨o,ho,hcl⟩ isSubtype_stop (wpAny_pure (hQ _ he')))
end
theorem CH(t:Addr)(o:Obj)(xs:Array Value)(hcls:o.cls=.type "tuple")(n:Nat)(hdat:o.data=.seq xs n):
  Meets (Builtin.«enumerate.__new__» ⟨[.type "enumerate",.ref t],[]⟩) (λ_ R s=>s.heap.get? t=some o∧
   R (.ok (.ret (.ref (s.heap.push {cls:=.type "tuple_iterator",data:=.fields #[.ref t,.int 0 0]}).objs.size)))
    {s with heap:=(s.heap.push {cls:=.type "tuple_iterator",data:=.fields #[.ref t,.int 0 0]}).push {cls:=.type "enumerate",data:=.fields #[.none,.bool false,.ref s.heap.objs.size,rawInt 0,.none,.none]}}):=
 .of_wp λprog w A R s h=>by
  obtain⟨hp,g,d,tk,os⟩:=s;obtain⟨hl,h⟩:=h;obtain⟨oc,od,oda,osl⟩:=o;cases hcls;cases hdat;have hsub:=sub_enumerate;have hL:Heap.IsTuple (Shared.heap ⟨hp,g,d,tk,os⟩) t xs:=⟨_,hl,rfl,n,rfl⟩
  wp_walk using wpAny_loadPart' hl
  refine wpAny_stack_any λst=>wpAny_pure ?_;split
  ·rename_i c _ _ _ _ _;cases(c==Value.type "enumerate")
   ·wp_walk using wpAny_loadPart' hl,wpAny_pyIter_tuple hL
    exact⟨_,rfl,h⟩
   ·wp_walk using wpAny_loadPart' hl,wpAny_pyIter_tuple hL
    exact⟨_,rfl,h⟩
  ·wp_walk using wpAny_loadPart' hl,wpAny_pyIter_tuple hL
   exact⟨_,rfl,h⟩
section
variable {prog:Program}{w:World}{A:Around}{E:Value→Shared→Prop}{s:Shared}
theorem Eb(ht:s.heap.IsTuple t xs)
  (h:∀g n,n=s.heap.objs.size→IsEnum g (n+1) n 0 .none→g.IsTupleIter n t 0→g.objs.size=n+2→(∀c o,s.heap.get? c=some o→g.get? c=some o)→Q (.ref (n+1)) {s with heap:=g}):wpAny (model prog w) A (call (.type "enumerate") [.ref t]) Q E s:=by
 obtain⟨o,ho,hc,n,hd⟩:=ht;refine callType_new F.called_enumerate (by decide) (F.typeCall_enumerate_1 _) (F.newCall_enumerate_1 _) (λobj=>F.args_object_init_2 obj _) F.entry_enumerate_new (CH t o xs hc n hd) ⟨ho,?_⟩;have z1:(s.heap.push {cls:=.type "tuple_iterator",data:=.fields #[.ref t,.int 0 0]}).objs.size=s.heap.objs.size+1:=Heap.size_push ..;show _∧_;have g2:((s.heap.push {cls:=.type "tuple_iterator",data:=.fields #[.ref t,.int 0 0]}).push {cls:=.type "enumerate",data:=.fields #[.none,.bool false,.ref s.heap.objs.size,rawInt 0,.none,.none]}).get? (s.heap.push {cls:=.type "tuple_iterator",data:=.fields #[.ref t,.int 0 0]}).objs.size=some _:=Heap.get?_push_size _ rfl;rw[z1]at g2⊢;exact⟨⟨_,g2,rfl⟩,h _ _ rfl g2 ⟨_,Heap.get?_push_of_some _ (Heap.get?_push_size _ rfl),rfl,rfl⟩ (by rw[Heap.size_push,z1]) λc o e=>Heap.get?_push_of_some _ (Heap.get?_push_of_some _ e)⟩
end
end PySem
namespace L2
open PySem PySem.Spec PyProof.Rows
def Mz(K:aA)(a:Addr):It:=
  ⟨λi H=>∃xs x,eA K H a xs∧xs[i]?=some x,
   λi H v H'=>∃p x,v=.ref p∧H p=none∧H'=upd H p (.tup [.int i,x])∧∀xs,eA K H a xs→xs[i]?=some x,
   λi H=>∃xs,eA K H a xs∧xs.length≤i⟩
theorem yQ{P:Program}{w:World}{K:aA}{es:List Expr}{x1}{pos:Pos}{e c a:Addr}(hne:e≠c):u6 P w K (.Tuple es x1 pos) (Mz K a) [e,c] e
  (λi h=>(∃old,IsEnum h e c i old)∧h.IsTupleIter c a i) where
 mem:=by simp
 obj:=λi h st b hb=>by
  obtain⟨⟨old,he⟩,⟨oc,ec,_,dc⟩⟩:=st;simp only[aB,aF,or_false]at hb;rcases hb with rfl|rfl
  ·exact⟨_,he,λv e=>by cases(show Data.fields _=Data.cell v from e)⟩
  ·exact⟨oc,ec,λv e=>by rw[dc]at e;cases e⟩
 keep:=λi h h' st k=>by obtain⟨⟨old,he⟩,⟨oc,ec,rc⟩⟩:=st;exact⟨⟨old,k e (by simp) _ he⟩,⟨oc,k c (by simp) _ ec,rc⟩⟩
 item:=by
  intro X hP hw hK hc i pins s σ H E I hf st hg;subst hP hw hK;obtain⟨⟨old,he⟩,h1⟩:=st;obtain⟨xs,x,hxs,hx⟩:=hg;obtain⟨its,rv,pa,za⟩:=I.tuple hxs;obtain⟨u,hu,ru⟩:=rv.get hx;have cl:c<s.heap.objs.size:=by obtain⟨_,e,_⟩:=h1;exact Heap.lt_size e
  refine zU he h1 (show s.heap.IsTuple a its.toArray from pa) (x:=u) (by simpa using hu) hne λg g1 g2 g3 g4 g5=>?_;refine⟨_,rfl,wpAny_letOwnedTupleGo_enum g1 λg' z' sb=>?_⟩;replace sb:Heap.SameBut e g g':=sb;have zl:e<s.heap.objs.size:=Heap.lt_size he;have kk:∀b u,b∉[e,c]→s.heap.get? b=some u→g'.get? b=some u:=λb u hb ee=>by simp only[aB,aF,or_false,not_or]at hb;exact sb.extBut _ _ hb.1 (g5 b u hb.1 hb.2 ee)
  have pT:g'.get? s.heap.objs.size=some {cls:=.type "tuple",data:=.seq #[.int i s.toks,u]}:=sb.extBut _ _ (bC zl) g3;have new:gU X.prog X.w (upd H s.heap.objs.size (.tup [.int i,x])) g' s.heap.objs.size (.tup [.int i,x]):=⟨(by show 2≤sizeLine;rw[sizeLine_eq];decide),[.int i s.toks,u],.cons ⟨_,rfl⟩ (.cons ru .nil),_,pT,rfl,_,rfl⟩;have I1:eV X pins σ (upd H s.heap.objs.size (.tup [.int i,x])) {s with heap:=g',toks:=s.toks+1}:=I.turnedN (t':=s.toks+1) hf kk (aC _) new;obtain⟨oc,ec,rc⟩:=g2;refine⟨.ref s.heap.objs.size,_,I1,rfl,⟨s.heap.objs.size,x,rfl,I.hok.fresh (aC _),rfl,λzs hzs=>by rw[I.tuple_inj hzs hxs];exact hx⟩,
   ⟨⟨_,z'⟩,⟨oc,sb.extBut _ _ (ai hne) ec,rc⟩⟩,λb hb=>?_⟩
  have hbn:=(hf b hb).1;have:b≠s.heap.objs.size:=by
   simp only[aB,aF,or_false]at hb;rcases hb with rfl|rfl
   ·exact aM zl
   ·exact aM cl
  rw[db this];exact hbn
 done:=by intro X hP hw hK hc i pins s σ H E I hf st hg;subst hP hw hK;obtain⟨⟨old,he⟩,h1⟩:=st;obtain⟨xs,hxs,hl⟩:=hg;obtain⟨its,rv,pa,za⟩:=I.tuple hxs;have hlen:=rv.length;refine CG (I.ok.hd hc) he h1 (show s.heap.IsTuple a its.toArray from pa) (by simp;lia) λg kg=>⟨rfl,I.turnedL (t':=s.toks) hf λb u hb ee=>?_⟩;simp only[aB,aF,or_false,not_or]at hb;exact kg b u hb.2 ee
 self:=λ_ _ _ _ _ st h=>by obtain⟨⟨_,he⟩,_⟩:=st;exact wpAny_pyIter_enum he h
def FN(K:aA)(ta:TE):TI:=λσ H R=>ta σ H λx H1=>onR x λa=>lZ (eA K H1 a) λ_=>R (Mz K a) H1
theorem tM:bootBuiltins "enumerate"=some (.type "enumerate"):=by decide
section
variable {X:Cx}{es:List Expr}{x1:Nat}{tp:Pos}
theorem D7{l:Expr}{ta:TE}{np pos:Pos}(hg:Gl X "enumerate")(hm:X.mg "enumerate"=none)(ha:PE X l ta)(he:starEach [l] X.env=[(false,eval l X.env)]:=by rfl):
  PI X (.Tuple es x1 tp) (.Call (.Name "enumerate" np) [l] [] pos) (FN X.K ta):=by
 intro pins s σ H R I h;refine wpAny_Call_Name_kw (kC I hg hm tM ?_);have h1:starEach (l::[]) X.env=(false,eval l X.env)::starEach [] X.env:=he;refine bO (thn ((dh ha fX h1:PA X [l] (dM ta dW)) pos pins s σ H (λvs H2=>on1 vs λx=>onR x λa=>lZ (eA X.K H2 a) λ_=>R (Mz X.K a) H2) I h) λus s1 ⟨vs,H1,I1,r1,q1⟩=>?_) h1 (by rfl);obtain⟨_,rfl,q1⟩:=on1.ex q1;obtain⟨a,rfl,q1⟩:=onR.ex q1;obtain @⟨xs,hxs,q⟩:=q1;obtain⟨u,rfl,ru⟩:=fE.one r1;cases ru;obtain⟨its,rva,pa,_⟩:=I1.tuple hxs;refine Eb (show s1.heap.IsTuple a its.toArray from pa) λg n en g1 g2 g3 g4=>?_;refine wpAny_pyIter_enum g1 ?_;refine⟨n+1,[n+1,n],_,_,H1,rfl,I1.kept (t':=s1.toks) g4,yQ (a:=a) (Nat.succ_ne_self n),⟨⟨_,g1⟩,g2⟩,λc hc=>?_,q⟩;have:s1.heap.objs.size≤c:=by
  simp only[aB,aF,or_false]at hc;rw[←en];rcases hc with e|e<;>rw[e]
  ·exact be n 1
  ·exact aC n
 exact I1.fpOk this (I1.hok.fresh this)
end
section
variable {X:Cx}
end
end L2
namespace PySem
open AutoSeq1
theorem LC(l:Addr)(eJ:Array Value)(n:Nat)(b:Addr)(o:Obj)(items2:Array Value)(n2:Nat)(hcls:o.cls=.type "tuple")(hdat:o.data=.seq items2 n2)(hs0:¬(!eJ.isEmpty&&Builtin.List.listTooLong (eJ.size+items2.size))=true)(hs1:eJ.size≤sizeLine)(hs2:eJ.size+items2.size≤sizeLine+1):
  Meets (Builtin.«list.extend» ⟨[.ref l,.ref b],[]⟩) (λ_ R s=>s.heap.get? l=some {cls:=.type "list",dict:=none,data:=.seq eJ n,slots:=#[]}∧s.heap.get? b=some o∧R (.ok (.ret Value.none)) {s with heap:=s.heap.update l (Obj.mapSeq λx=>x++items2),toks:=s.toks}):=
 .of_wp λprog w A R s h=>by
  obtain⟨hp,g,d,tk,os⟩:=s;obtain⟨hl,hb,h⟩:=h;have f1:=idx_int;have f2:=sub_tuple_tuple;have f3:=sub_list_list;have f4:=sub_tuple_list;have f5:=sub_list_tuple;obtain⟨oc,od,oda,osl⟩:=o;cases hcls;cases hdat;have hz':(eJ++items2).size≤sizeLine+1:=by rw[Array.size_append];exact hs2
  wp_walk using(wpAny_updateSeq hl rfl (hz:=hs1) (_hz':=hz')),wpAny_loadPart' hl,wpAny_loadPart' hb
  exact⟨_,rfl,h⟩
end PySem
namespace L2
open PySem PySem.Spec PyProof.Rows
section
variable {X:Cx}
def uQ:V→List V→Hp→VK→Prop:=λx vs H Q=>∃l b xs zs,x=.ref l∧vs=[.ref b]∧H l=some (.lst xs)∧H b=some (.tup zs)∧xs.length+zs.length≤sizeLine∧Q .non (upd H l (.lst (xs++zs)))
theorem vv:LN X "list.extend" uQ:=by
 intro pins s σ H x vs v us Q I rx rv h;obtain⟨l,b,xs,zs,rfl,rfl,hH,hB,hz,q⟩:=h;cases rx;obtain⟨u,rfl,ru⟩:=rv.one;cases ru;obtain⟨z,its,n,r,hl,e⟩:=I.lstM hH;obtain⟨z2,its2,r2,o,e2,hc,n2,hd⟩:=(show gU X.prog X.w H s.heap b (.tup zs)from I.hok b _ hB);have hl2:=r2.length;have hsz:its.toArray.size+its2.toArray.size≤sizeLine:=by rw[aP,aP];lia
 have hlong:¬(!its.toArray.isEmpty&&Builtin.List.listTooLong (its.toArray.size+its2.toArray.size))=true:=by rw[uX hsz,Bool.and_false];exact aN
 refine call_meets F.slot_list_extend ⟨_,e,rfl⟩ F.entry_list_extend (F.args_list_extend_2 _ _)
  (PySem.LC l its.toArray n b o its2.toArray n2 hc hd hlong (by rw[aP];lia) (by lia)) ⟨e,e2,?_⟩
 refine⟨.non,_,I.lset (its':=its++its2) hH e (by simp) (r.append r2) ?_,rfl,q⟩;rw[aD];lia
end
end L2
namespace S9
open PySem L2 SW
inductive G where
 | leaf(k:Str)(x:V)
 | plain(k:Str)(ks:List G)
 | word(k w:Str)(ks:List G)
def G.kids:G→List G
 | .leaf _ _=>[]
 | .plain _ ks=>ks
 | .word _ _ ks=>ks
def G.hd:G→List V
 | .leaf k x=>[.str k,x]
 | .plain k _=>[.str k]
 | .word k w _=>[.str k,.str w]
def G.kind:G→Str
 | .leaf k _=>k
 | .plain k _=>k
 | .word k _ _=>k
def G.ok:G→Prop
 | .leaf k _=>k="number"∨k="name"
 | .plain k _=>k≠"number"∧k≠"name"∧k≠"let"∧k≠"stamp"
 | .word k w _=>k="let"∨k="stamp"
inductive DG(H:Hp):G→V→Prop where
 | mk{g:G}{p:Addr}{us:List V}:g.ok→H p=some (.tup (g.hd++us))→us.length=g.kids.length→(∀(i:Nat)(k:G)(u:V),g.kids[i]?=some k→us[i]?=some u→DG H k u)→DG H g (.ref p)
def jn(H:Hp)(gs:List G)(us:List V):Prop:=us.length=gs.length∧∀(i:Nat)(k:G)(u:V),gs[i]?=some k→us[i]?=some u→DG H k u
theorem DG.mono(k:fO H H')(h:DG H g v):DG H' g v:=by
 induction h with
 | mk a b c d ih=>exact .mk a (k _ _ b) c ih
theorem jn.mono(k:fO H H')(h:jn H gs us):jn H' gs us:=⟨h.1,λi a u e1 e2=>(h.2 i a u e1 e2).mono k⟩
theorem DG.open(h:DG H g v):∃p us,v=.ref p∧g.ok∧H p=some (.tup (g.hd++us))∧jn H g.kids us:=by
 cases h with
 | mk a b c d=>exact⟨_,_,rfl,a,b,c,d⟩
theorem jn.nil:jn H [] []:=⟨rfl,λi k u e=>by simp at e⟩
theorem jn.cons(a:DG H g v)(b:jn H gs us):jn H (g::gs) (v::us):=by
 refine⟨by rw[aE,aE,b.1],λi k u e1 e2=>?_⟩;cases i with
 | zero=>cases e1;cases e2;exact a
 | succ i=>exact b.2 i k u e1 e2
theorem jn.head(h:jn H (g::gs) (v::us)):DG H g v∧jn H gs us:=
 ⟨h.2 0 g v rfl rfl,by have:=h.1;rw[aE,aE]at this;lia,λi k u e1 e2=>h.2 (i+1) k u e1 e2⟩
theorem jn.append(a:jn H gs us)(b:jn H ks vs):jn H (gs++ks) (us++vs):=by
 induction gs generalizing us with
 | nil=>obtain⟨e,_⟩:=a;cases us with
  | nil=>exact b
  | cons _ _=>cases e
 | cons g gs ih=>
  cases us with
  | nil=>have:=a.1;cases this
  | cons u us=>exact .cons a.head.1 (ih a.head.2)
theorem jn.snoc(h:jn H gs (us++[u])):∃ks k,gs=ks++[k]∧jn H ks us∧DG H k u:=by
 have hl:=h.1;have hne:gs≠[]:=λe=>by subst e;simp at hl
 obtain⟨ks,k,rfl⟩:=gK hne;have hl2:us.length=ks.length:=by simpa using hl
 refine⟨ks,k,rfl,⟨hl2,λi a u' e1 e2=>h.2 i a u' ?_ ?_⟩,h.2 ks.length k u ?_ ?_⟩
 ·rw[aw (aK.mp e1).1];exact e1
 ·rw[aw (aK.mp e2).1];exact e2
 ·simp
 ·rw[←hl2];simp
def gZ:T→G
 | .num n=>.leaf "number" (.int n)
 | .name w=>.leaf "name" (.str w)
 | .sum a b=>.plain "sum" [gZ a,gZ b]
 | .less a b=>.plain "less" [gZ a,gZ b]
 | .cho a b c=>.plain "choose" [gZ a,gZ b,gZ c]
 | .lt w a b=>.word "let" w [gZ a,gZ b]
 | .st0 w=>.word "stamp" w []
 | .st1 w a=>.word "stamp" w [gZ a]
 | .st2 w a b=>.word "stamp" w [gZ a,gZ b]
theorem i8:∀{t:T}{v:V},gG H t v→DG H (gZ t) v
 | .num _,_,⟨p,e,h⟩=>by subst e;exact .mk (us:=[]) (.inl rfl) h rfl λi k u e=>by simp[G.kids,gZ]at e
 | .name _,_,⟨p,e,h⟩=>by subst e;exact .mk (us:=[]) (.inr rfl) h rfl λi k u e=>by simp[G.kids,gZ]at e
 | .sum _ _,_,⟨p,x,y,e,h,a,b⟩=>by subst e;have d:=jn.cons (i8 a) (.cons (i8 b) .nil);exact .mk (us:=[x,y]) ⟨by decide,by decide,by decide,by decide⟩ h rfl d.2
 | .less _ _,_,⟨p,x,y,e,h,a,b⟩=>by subst e;have d:=jn.cons (i8 a) (.cons (i8 b) .nil);exact .mk (us:=[x,y]) ⟨by decide,by decide,by decide,by decide⟩ h rfl d.2
 | .cho _ _ _,_,⟨p,x,y,z,e,h,a,b,c⟩=>by subst e;have d:=jn.cons (i8 a) (.cons (i8 b) (.cons (i8 c) .nil));exact .mk (us:=[x,y,z]) ⟨by decide,by decide,by decide,by decide⟩ h rfl d.2
 | .lt _ _ _,_,⟨p,x,y,e,h,a,b⟩=>by subst e;have d:=jn.cons (i8 a) (.cons (i8 b) .nil);exact .mk (us:=[x,y]) (.inl rfl) h rfl d.2
 | .st0 _,_,⟨p,e,h⟩=>by subst e;exact .mk (us:=[]) (.inr rfl) h rfl λi k u e=>by simp[G.kids,gZ]at e
 | .st1 _ _,_,⟨p,x,e,h,a⟩=>by subst e;have d:=jn.cons (i8 a) jn.nil;exact .mk (us:=[x]) (.inr rfl) h rfl d.2
 | .st2 _ _ _,_,⟨p,x,y,e,h,a,b⟩=>by subst e;have d:=jn.cons (i8 a) (.cons (i8 b) .nil);exact .mk (us:=[x,y]) (.inr rfl) h rfl d.2
theorem jn.two(h:jn H [a,b] us):∃x y,us=[x,y]∧DG H a x∧DG H b y:=by
 obtain⟨l,d⟩:=h
 match us,l with
 | [x,y],_=>exact⟨x,y,rfl,d 0 a x rfl rfl,d 1 b y rfl rfl⟩
theorem jn.three(h:jn H [a,b,c] us):∃x y z,us=[x,y,z]∧DG H a x∧DG H b y∧DG H c z:=by
 obtain⟨l,d⟩:=h
 match us,l with
 | [x,y,z],_=>exact⟨x,y,z,rfl,d 0 a x rfl rfl,d 1 b y rfl rfl,d 2 c z rfl rfl⟩
theorem jn.one(h:jn H [a] us):∃x,us=[x]∧DG H a x:=by
 obtain⟨l,d⟩:=h
 match us,l with
 | [x],_=>exact⟨x,rfl,d 0 a x rfl rfl⟩
theorem jn.none(h:jn H [] us):us=[]:=cH.mp h.1
theorem iH:∀{t:T}{v:V},DG H (gZ t) v→gG H t v
 | .num _,_,d=>by obtain⟨p,us,rfl,_,h,k⟩:=d.open;cases k.none;exact⟨p,rfl,h⟩
 | .name _,_,d=>by obtain⟨p,us,rfl,_,h,k⟩:=d.open;cases k.none;exact⟨p,rfl,h⟩
 | .sum _ _,_,d=>by obtain⟨p,us,rfl,_,h,k⟩:=d.open;obtain⟨x,y,rfl,a,b⟩:=jn.two k;exact⟨p,x,y,rfl,h,iH a,iH b⟩
 | .less _ _,_,d=>by obtain⟨p,us,rfl,_,h,k⟩:=d.open;obtain⟨x,y,rfl,a,b⟩:=jn.two k;exact⟨p,x,y,rfl,h,iH a,iH b⟩
 | .cho _ _ _,_,d=>by obtain⟨p,us,rfl,_,h,k⟩:=d.open;obtain⟨x,y,z,rfl,a,b,c⟩:=jn.three k;exact⟨p,x,y,z,rfl,h,iH a,iH b,iH c⟩
 | .lt _ _ _,_,d=>by obtain⟨p,us,rfl,_,h,k⟩:=d.open;obtain⟨x,y,rfl,a,b⟩:=jn.two k;exact⟨p,x,y,rfl,h,iH a,iH b⟩
 | .st0 _,_,d=>by obtain⟨p,us,rfl,_,h,k⟩:=d.open;cases k.none;exact⟨p,rfl,h⟩
 | .st1 _ _,_,d=>by obtain⟨p,us,rfl,_,h,k⟩:=d.open;obtain⟨x,rfl,a⟩:=jn.one k;exact⟨p,x,rfl,h,iH a⟩
 | .st2 _ _ _,_,d=>by obtain⟨p,us,rfl,_,h,k⟩:=d.open;obtain⟨x,y,rfl,a,b⟩:=jn.two k;exact⟨p,x,y,rfl,h,iH a,iH b⟩
theorem ul(t:T):(gZ t).kids=t.kids.map gZ:=by cases t<;>rfl
theorem sy:∀{ts:List T}{us:List V},jn H (ts.map gZ) us→gC H ts us
 | [],us,h=>by cases h.none;exact .nil
 | t::ts,[],h=>by have:=h.1;cases this
 | t::ts,u::us,h=>.cons (iH h.head.1) (sy h.head.2)
mutual
def G.size:G→Nat
 | .leaf _ _=>1
 | .plain _ ks=>1+hU ks
 | .word _ _ ks=>1+hU ks
def hU:List G→Nat
 | []=>0
 | k::ks=>k.size+hU ks
end
theorem G.size_kids(g:G):g.size=1+hU g.kids:=by cases g<;>simp[G.size,G.kids,hU]
theorem jZ(a b:List G):hU (a++b)=hU a+hU b:=by
 induction a with
 | nil=>simp[hU]
 | cons k ks ih=>rw[aL,hU,hU,ih,Nat.add_assoc]
theorem nX(g:G):hU [g]=g.size:=by simp[hU]
theorem qq(gs:List G):gs.length≤hU gs:=by
 induction gs with
 | nil=>exact aS _
 | cons g gs ih=>have:=g.size_kids;rw[aE,hU];lia
inductive Od:List G→List G→Prop where
 | nil:Od [] []
 | step{s l:List G}{g:G}:Od (s++g.kids) l→Od (s++[g]) (g::l)
inductive wZ(x:G):G→Prop where
 | refl:wZ x x
 | kid{g k:G}:k∈g.kids→wZ x k→wZ x g
theorem Od.mem(h:Od s l)(x:G):x∈l↔∃g∈s,wZ x g:=by
 induction h with
 | nil=>simp
 | @step s l g _ ih=>
  rw[aB,ih];constructor
  ·rintro(rfl|⟨y,hy,i⟩)
   ·exact⟨x,by simp,.refl⟩
   ·rcases aU.mp hy with z|z
    ·exact⟨y,by simp[z],i⟩
    ·exact⟨g,by simp,.kid z i⟩
  ·rintro⟨y,hy,i⟩;rcases aU.mp hy with z|z
   ·exact .inr ⟨y,af _ z,i⟩
   ·rw[aG]at z;subst z;cases i with
    | refl=>exact .inl rfl
    | kid hk i=>exact .inr ⟨_,aO _ hk,i⟩
theorem Od.one(h:Od [g] l)(x:G):x∈l↔wZ x g:=by rw[h.mem];simp
def iw:Sp:=λvs H Q _=>∃g v,vs=[v]∧DG H g v∧∀p us H',dy H H'→H' p=some (.tup us)→jn H' g.kids us→Q (.ref p) H'
def lc:Sp:=λvs H Q _=>∃g v,vs=[v]∧DG H g v∧g.size≤5000∧∀l us L H',dy H H'→H l=none→H' l=some (.lst us)→Od [g] L→jn H' L us→Q (.ref l) H'
variable {K:aA}{vs:List V}{H:Hp}{Q:VK}{E:XK}
theorem nk(h:k≠w):decide (V.str k=V.str w)=false:=decide_eq_false λe=>h (V.str.inj e)
theorem JB(h:iw vs H Q E):C6 K (gf Q) (start ["piece","kind"] vs) H:=by
 obtain⟨g,v,rfl,hd,k⟩:=h;obtain⟨p,us,rfl,ok,hp,dk⟩:=hd.open;cases g with
 | leaf kd x=>
  have e:us=[]:=by have:=dk.1;simpa[G.kids]using this
  subst e;refine⟨eA.of hp,rfl,?_⟩;refine⟨rfl,_,rfl,?_⟩;rcases ok with rfl|rfl
  ·refine fW (by decide) (oj ?_);exact⟨fG,λq hq=>k q [] _ (dR hq) dO .nil⟩
  ·refine eK (by decide) ?_;refine⟨rfl,_,rfl,?_⟩;refine fW (by decide) ?_;exact⟨fG,λq hq=>k q [] _ (dR hq) dO .nil⟩
 | plain kd ks=>obtain⟨o1,o2,o3,o4⟩:=ok;have ec:ie (.str kd::us) (some 1) none=us:=(lT (.str kd::us) 1 (by simp)).trans rfl;refine⟨eA.of hp,dS (j:=0) rfl,?_⟩;refine⟨rfl,_,rfl,eK (nk o1) ⟨rfl,_,rfl,eK (nk o2) ⟨rfl,_,rfl,eK (nk o3) ⟨rfl,_,rfl,eK (nk o4) ?_⟩⟩⟩⟩;refine⟨eA.of hp,jN 1 (by decide) (by simp[G.hd]),λq hq=>?_⟩;refine k q us _ (dR hq) ?_ (dk.mono (iJ hq));show upd H q (.tup (ie (.str kd::us) (some 1) none)) q=_;rw[ec,dO]
 | word kd w ks=>
  have ec:ie (.str kd::.str w::us) (some 2) none=us:=(lT (.str kd::.str w::us) 2 (by simp)).trans rfl;have fin2:∀q,H q=none→Q (.ref q) (upd H q (.tup (ie (.str kd::.str w::us) (some 2) none))):=λq hq=>by refine k q us _ (dR hq) ?_ (dk.mono (iJ hq));rw[ec,dO]
  refine⟨eA.of hp,dS (j:=0) rfl,?_⟩;refine⟨rfl,_,rfl,?_⟩;rcases ok with rfl|rfl
  ·refine eK (by decide) ⟨rfl,_,rfl,eK (by decide) ⟨rfl,_,rfl,fW (by decide) (oj ?_)⟩⟩;exact⟨eA.of hp,jN 2 (by decide) (by simp[G.hd]),fin2⟩
  ·refine eK (by decide) ⟨rfl,_,rfl,eK (by decide) ⟨rfl,_,rfl,eK (by decide) ⟨rfl,_,rfl,fW (by decide) ?_⟩⟩⟩;exact⟨eA.of hp,jN 2 (by decide) (by simp[G.hd]),fin2⟩
theorem Jj(h:rj vs H Q E):iw vs H Q E:=by obtain⟨t,v,rfl,d,k⟩:=h;exact⟨gZ t,v,rfl,i8 d,λp us H' s hp dk=>k p us H' s hp (sy (by rw[ul]at dk;exact dk))⟩
def G8(K:aA):TS:=(de (eD (mW K "list" mf (dN 2)) (dX 3)) (de (fD (jm K "list" eY (dN 1) (dM (dN 3) dW))) (fD (jm K "list" uQ (dN 2) (dM (eN iw [] E0 (dM (dN 3) dW)) dW)))))
def Lu(K:aA):TS:=(de (eD (fR dW) (dX 1)) (de (eD (fR (dM (dN 0) dW)) (dX 2)) (de (iE (eI (dz og (gz (gN K) (dM (dN 2) dW)) (tC (.int 0)))) (G8 K)) (fT (dN 1)))))
structure K0(g:G)(H₀ H:Hp)(fl wl:Addr)(fs us:List V)(F S:List G):Prop where
 same:dy H₀ H
 nf:H₀ fl=none
 nw:H₀ wl=none
 ne:fl≠wl
 f_:H fl=some (.lst fs)
 w_:H wl=some (.lst us)
 df:jn H F fs
 dw:jn H S us
 od:∀l,Od S l→Od [g] (F++l)
 sz:hU S+F.length≤g.size
theorem NX(h:lc vs H Q E):Lu K (gf Q) (start ["piece","found","waiting","current"] vs) H:=by
 obtain⟨g,v,rfl,hd,hsz,k⟩:=h;refine⟨fG,λfl hf=>⟨fG,λwl hw=>?_⟩⟩;have s1:dy H (upd H fl (.lst [])):=dR hf;have s2:=dR (o:=.lst [v]) hw;have n1:fl≠wl:=dZ (dO (H:=H) (a:=fl) (o:=.lst [])) hw;refine⟨λm σ H'=>∃j3 fs us F S,σ=[some v,some (.ref fl),some (.ref wl),j3]∧K0 g H H' fl wl fs us F S∧m=hU S,⟨_,none,[],[v],[],[g],rfl,?_,rfl⟩,?_⟩
 ·exact⟨s1.trans s2,hf,s1.free hw,n1,s2 _ _ dO,dO,.nil,.cons (hd.mono (dY (s1.trans s2))) .nil,λl h=>h,by rw[nX];simp⟩
 ·clear s1 s2;rintro m σ H1 ⟨j3,fs,us,F,S,rfl,A,rfl⟩;refine⟨.inl (eG.of A.w_),_,rfl,?_⟩;by_cases hv:us=[]
  ·subst hv;refine eK rfl ?_;have e:S=[]:=cH.mp A.dw.1.symm;subst e;have od:=A.od [] .nil;rw[aa]at od;exact(k fl fs F _ A.same hf A.f_ od A.df)
  ·obtain⟨us,u,rfl⟩:=gK hv;refine fW (decide_eq_true (by simp)) ?_;obtain⟨S',g',rfl,d1,d2⟩:=A.dw.snoc;refine⟨λσ' H'=>∃m',m'<hU (S'++[g'])∧∃j3 fs us F S,σ'=[some v,some (.ref fl),some (.ref wl),j3]∧K0 g H H' fl wl fs us F S∧m'=hU S,λ_ _ h=>h,?_⟩;refine⟨.inl ⟨rfl,_,eG.of A.w_⟩,A.w_,jT,?_⟩;rw[iZ];have hsz2:=A.sz;rw[jZ,nX]at hsz2;have hk:=g'.size_kids;have hf1:=A.df.1;have t1:fO H1 (upd H1 wl (.lst us)):=fL A.w_;have s1:dy H (upd H1 wl (.lst us)):=eF A.same A.nw;have f1:(upd H1 wl (.lst us)) fl=some (.lst fs):=by rw[db A.ne];exact A.f_
   have w1:(upd H1 wl (.lst us)) wl=some (.lst us):=dO;have df1:=A.df.mono t1;have dw1:=d1.mono t1;have dg1:=d2.mono t1;generalize upd H1 wl (.lst us)=H2 at s1 f1 w1 df1 dw1 dg1⊢;refine⟨.inl ⟨rfl,_,eG.of f1⟩,f1,by rw[sizeLine_eq];lia,?_⟩;have t2:fO H2 (upd H2 fl (.lst (fs++[u]))):=fL f1;have s2:dy H (upd H2 fl (.lst (fs++[u]))):=eF s1 hf;have f2:(upd H2 fl (.lst (fs++[u]))) fl=some (.lst (fs++[u])):=dO;have w2:(upd H2 fl (.lst (fs++[u]))) wl=some (.lst us):=by rw[db A.ne.symm];exact w1
   have df2:=(df1.append (.cons dg1 .nil)).mono t2;have dw2:=dw1.mono t2;have dg2:=dg1.mono t2;generalize upd H2 fl (.lst (fs++[u]))=H3 at s2 f2 w2 df2 dw2 dg2⊢;refine⟨.inl ⟨rfl,_,eG.of w2⟩,g',u,rfl,dg2,λp ks H4 s4 hp dk=>?_⟩;have hl1:=dw2.1;have hl2:=dk.1;have hl3:=qq S';have hl4:=qq g'.kids;refine⟨wl,p,us,ks,rfl,rfl,s4 _ _ w2,hp,by rw[sizeLine_eq];lia,?_⟩;have w4:=s4 _ _ w2;have t5:fO H4 (upd H4 wl (.lst (us++ks))):=fL w4;refine⟨hU (S'++g'.kids),by rw[jZ,jZ,nX];lia,_,fs++[u],us++ks,F++[g'],S'++g'.kids,rfl,⟨eF (s2.trans s4) A.nw,hf,A.nw,A.ne,?_,dO,(df2.mono (dY s4)).mono t5,((dw2.mono (dY s4)).append dk).mono t5,λl h=>?_,?_⟩,rfl⟩
   ·rw[db A.ne];exact s4 _ _ f2
   ·rw[aV];exact A.od _ (.step h)
   ·rw[jZ,aD,bA];lia
end S9
namespace S9
open PySem L2 SW
variable {K:aA}{vs:List V}{H:Hp}{Q:VK}{E:XK}{N:Addr}
def kY(H:Hp)(w:Str)(ps:List Str)(g:G)(v:V):Prop:=∃p l x,v=.ref p∧H p=some (.tup [.str w,.ref l,x])∧H l=some (.lst (ps.map V.str))∧DG H g x
theorem kY.mono(s:dy H H')(h:kY H w ps g v):kY H' w ps g v:=by obtain⟨p,l,x,e,a,b,c⟩:=h;exact⟨p,l,x,e,s _ _ a,s _ _ b,c.mono (dY s)⟩
structure Bk(H:Hp)(v1 v2 v3:V)(g1 g2 g3:G):Prop where
 a:kY H "star" [] g1 v1
 b:∃p,kY H "sta" [p] g2 v2
 c:∃p q,kY H "st" [p,q] g3 v3
theorem Bk.mono(s:dy H H')(h:Bk H v1 v2 v3 g1 g2 g3):Bk H' v1 v2 v3 g1 g2 g3:=⟨h.a.mono s,h.b.imp λ_ z=>z.mono s,h.c.imp λ_ z=>z.imp λ_ z=>z.mono s⟩
def zJ(v1 v2 v3:V):List (fI×V):=[(.inr "star",v1),(.inr "sta",v2),(.inr "st",v3)]
theorem KN:("star":Str)≠"sta":=by decide
theorem FI:("star":Str)≠"st":=by decide
theorem KM:("sta":Str)≠"st":=by decide
def kn(w:Str):Option Nat:=if w="star" then some 0 else if w="sta" then some 1 else if w="st" then some 2 else none
def JH:G→Prop
 | .word k w ks=>k="stamp"→kn w=some ks.length
 | _=>True
def kI:Sp:=λvs H Q _=>∃b v1 v2 v3 g1 g2 g3,vs=[.ref b]∧H b=some (.lst [v1,v2,v3])∧Bk H v1 v2 v3 g1 g2 g3∧∀d H',dy H H'→H d=none→H' d=some (.dK (zJ v1 v2 v3))→Q (.ref d) H'
def wo(K:aA):TS:=(lJ (dN 1) (dz (eC K) (dN 2) (tC (.int 0))) (dN 2))
def JQ(K:aA):TS:=(de (eD ir (dX 1)) (de (iK (i0 K (dN 0)) (dX 2) (wo K)) (fT (dN 1))))
theorem MN:gA ([]:List (fI×V)) (.inr "star") v=[(.inr "star",v)]:=rfl
theorem MM:gA [((.inr "star":fI),v1)] (.inr "sta") v=[(.inr "star",v1),(.inr "sta",v)]:=by simp[gA,KN]
theorem ML:gA [((.inr "star":fI),v1),(.inr "sta",v2)] (.inr "st") v=[(.inr "star",v1),(.inr "sta",v2),(.inr "st",v)]:=by simp[gA,FI,KM]
theorem L8(h:kI vs H Q E):JQ K (gf Q) (start ["book","stamps","stamp"] vs) H:=by
 obtain⟨b,v1,v2,v3,g1,g2,g3,rfl,hb,bk,k⟩:=h;intro d hd;have s1:dy H (upd H d (.dK [])):=dR hd;refine⟨eG.of (s1 _ _ hb),?_⟩;refine gT (K:=K) (a:=b) (xs:=[v1,v2,v3]) (λi σ H'=>∃j2,σ=[some (.ref b),some (.ref d),j2]∧dy H H'∧H' d=some (.dK ((zJ v1 v2 v3).take i))) ⟨none,rfl,s1,dO⟩ (λi σ H' _ hP=>?_) ?_ ?_
 ·obtain⟨_,_,s,_⟩:=hP;exact eG.of (s _ _ hb)
 ·rintro i y σ H' hi ⟨j2,rfl,s,hd'⟩;have B:=bk.mono s;have go:∀(w:Str)(ps:List Str)(g:G),kY H' w ps g y→gA ((zJ v1 v2 v3).take i) (.inr w) y=(zJ v1 v2 v3).take (i+1)→i≤3→∀D:iT,(∀σ H',(∃j2,σ=[some (.ref b),some (.ref d),j2]∧dy H H'∧H' d=some (.dK ((zJ v1 v2 v3).take (i+1))))→D.nx σ H')→dX 2 y [some (.ref b),some (.ref d),j2] H' λσ2 H2=>wo K D σ2 H2:=by intro w ps g hst e hi3 D hD;obtain⟨p,l,x,rfl,hp,_⟩:=hst;refine⟨eA.of hp,rfl,nO.k (k:=.inr w) hd' (kJ (aY (List.length_take_le _ _) (by lia))),hD _ _ ⟨_,rfl,eF s hd,?_⟩⟩;rw[dO,e]
  match i,hi,go with
  | 0,hi,go=>cases hi;exact go _ _ _ B.a MN (by lia) _ (λ_ _ z=>z)
  | 1,hi,go=>cases hi;have⟨_,z⟩:=B.b;exact go _ _ _ z MM (by lia) _ (λ_ _ z=>z)
  | 2,hi,go=>cases hi;have⟨_,_,z⟩:=B.c;exact go _ _ _ z ML (by lia) _ (λ_ _ z=>z)
  | n+3,hi,_=>simp at hi
 ·rintro σ H' ⟨j2,rfl,s,hd'⟩;exact(k d H' s hd hd')
theorem Cz(v1 v2 v3:V)(w:Str):fP (zJ v1 v2 v3) (.inr w)=if w="star" then some v1 else if w="sta" then some v2 else if w="st" then some v3 else none:=by
 unfold zJ;by_cases h1:w="star"
 ·subst h1;rw[if_pos rfl];exact fu rfl
 rw[if_neg h1,fz (by intro e;exact h1 (Sum.inr.inj e).symm)];by_cases h2:w="sta"
 ·subst h2;rw[if_pos rfl];exact fu rfl
 rw[if_neg h2,fz (by intro e;exact h2 (Sum.inr.inj e).symm)];by_cases h3:w="st"
 ·subst h3;rw[if_pos rfl];exact fu rfl
 rw[if_neg h3,fz (by intro e;exact h3 (Sum.inr.inj e).symm)];rfl
theorem KS(B:Bk H v1 v2 v3 g1 g2 g3)(w:Str):(fP (zJ v1 v2 v3) (.inr w)=none∧kn w=none)∨∃v ps g,fP (zJ v1 v2 v3) (.inr w)=some v∧kY H w ps g v∧kn w=some ps.length∧ps.length≤2:=by
 rw[Cz];unfold kn;by_cases h1:w="star"
 ·subst h1;exact .inr ⟨v1,_,_,if_pos rfl,B.a,if_pos rfl,by decide⟩
 rw[if_neg h1,if_neg h1];by_cases h2:w="sta"
 ·subst h2;have⟨_,z⟩:=B.b;exact .inr ⟨v2,_,_,if_pos rfl,z,if_pos rfl,by simp⟩
 rw[if_neg h2,if_neg h2];by_cases h3:w="st"
 ·subst h3;have⟨_,_,z⟩:=B.c;exact .inr ⟨v3,_,_,if_pos rfl,z,if_pos rfl,by simp⟩
 rw[if_neg h3,if_neg h3];exact .inl ⟨rfl,rfl⟩
def GM(K:aA):TS:=(de (eD (dz uR (dz D0 (tC (.str "abcdefghijklmnopqrstuvwxyz")) (dz jf (dz iU (dN 2) (tC (.int 1))) (gz yE (dM (tC (.str "abcdefghijklmnopqrstuvwxyz")) dW)))) (dN 1)) (dX 1)) (eD (dz qv (dz iU (dN 2) (tC (.int 1))) (gz yE (dM (tC (.str "abcdefghijklmnopqrstuvwxyz")) dW))) (dX 2)))
def Lk(K:aA):TS:=(de (eD (dz D0 (tC (.str "abcdefghijklmnopqrstuvwxyz")) (dz jf (dN 0) (gz yE (dM (tC (.str "abcdefghijklmnopqrstuvwxyz")) dW)))) (dX 1)) (de (eD (dz qv (dN 0) (gz yE (dM (tC (.str "abcdefghijklmnopqrstuvwxyz")) dW))) (dX 2)) (de (iE (eI (dz og (dN 2) (tC (.int 0)))) (GM K)) (fT (dN 1)))))
def Vw:List Nat→Nat
 | []=>0
 | [c]=>c-97
 | c::d::w=>Vw (d::w)+(c-96)*26^(w.length+1)
theorem Ek(h:w≠[]):Vw (c::w)=Vw w+(c-96)*26^w.length:=by
 cases w with
 | nil=>exact absurd rfl h
 | cons d w=>rfl
theorem ue:(("abcdefghijklmnopqrstuvwxyz":Str)).length=26:=by decide
theorem zH{n:Nat}(hn:n<26):pS (("abcdefghijklmnopqrstuvwxyz":Str)).cps.toList (n:Int)=some (n+97):=by refine dS ?_;rw[xo,ac,dA hn];rfl
structure vB(n r m:Nat)(x:Str):Prop where
 one:1≤x.length
 few:x.length+m≤30
 sm:r<2^m
 abc:∀c∈x.cps.toList,97≤c∧c≤122
 val:Vw x.cps.toList+26^x.length*r=n
theorem zE(n:Nat)(hn:n≤16000000):vB n (n / 26) 20 ⟨#[n%26+97]⟩:=by
 refine⟨aC _,by show 1+20≤30;lia,by lia,λc hc=>?_,?_⟩
 ·have:c=n%26+97:=by simpa using hc
  lia
 ·show n%26+97-97+26^1*(n / 26)=n;lia
theorem Bj(h:vB n r m x)(hr:0<r):∃m',vB n ((r-1) / 26) m' (⟨#[(r-1)%26+97]⟩++x):=by
 cases m with
 | zero=>have:=h.sm;lia
 | succ m=>
  have el:((⟨#[(r-1)%26+97]⟩:Str)++x).length=x.length+1:=by show(#[(r-1)%26+97]++x.cps).size=x.cps.size+1;simp[cX]
  have ec:((⟨#[(r-1)%26+97]⟩:Str)++x).cps.toList=((r-1)%26+97)::x.cps.toList:=by show(#[(r-1)%26+97]++x.cps).toList=_;rw[bn];rfl
  have hl:x.cps.toList.length=x.length:=bh;have hf:=h.few;have hs:=h.sm;refine⟨m,by rw[el];lia,by rw[el];lia,?_,λc hc=>?_,?_⟩
  ·rw[ca]at hs;generalize 2^m=z at *;lia
  ·rw[ec]at hc;rcases aB.mp hc with e|e
   ·lia
   ·exact h.abc c e
  ·rw[ec,Ek (λz=>by have:=h.one;rw[z]at hl;simp at hl;lia),el,hl];have hv:=h.val;have e1:(r-1)%26+97-96=(r-1)%26+1:=by lia
   rw[e1,ca];have e2:r=(r-1)%26+1+26*((r-1) / 26):=by lia
   generalize (r-1)%26=a at *;generalize (r-1) / 26=b at *;rw[e2]at hv;rw[←hv,cb,Nat.mul_comm (a+1),Nat.mul_assoc,Nat.add_assoc]
def rm:Sp:=λvs H Q _=>∃n:Nat,vs=[.int n]∧n≤16000000∧∀x:Str,Wd x→x.length≤30→Vw x.cps.toList=n→Q (.str x) H
theorem NO(h:rm vs H Q E):Lk K (gf Q) (start ["number","word","rest"] vs) H:=by
 obtain⟨n,rfl,hn,k⟩:=h;have z26:(("abcdefghijklmnopqrstuvwxyz":Str)).length≤sizeLine:=by rw[ue];exact fG
 have p26:(0:Int)<((("abcdefghijklmnopqrstuvwxyz":Str)).length:Int):=by rw[ue];decide
 have e0:∀j:Nat,pS (("abcdefghijklmnopqrstuvwxyz":Str)).cps.toList ((j:Int)%((("abcdefghijklmnopqrstuvwxyz":Str)).length:Int))=some (j%26+97):=λj=>by rw[ue,←Int.natCast_emod];exact zH (Nat.mod_lt _ (by decide))
 refine⟨_,rfl,z26,p26,_,_,_,rfl,rfl,z26,e0 n,?_⟩;have c26:∀i:Int,Iy i ((("abcdefghijklmnopqrstuvwxyz":Str)).length:Int):=λi=>by rw[ue];exact⟨by decide,by decide⟩
 refine⟨_,rfl,z26,c26 _,?_⟩;have ed:∀j:Nat,((j:Int) / ((("abcdefghijklmnopqrstuvwxyz":Str)).length:Int))=((j / 26:Nat):Int):=λj=>by rw[ue];exact(Int.natCast_ediv j 26).symm
 dsimp only;rw[ed];refine⟨λm σ H'=>H'=H∧∃(r mm:Nat)(x:Str),σ=[some (.int n),some (.str x),some (.int r)]∧vB n r mm x∧m=r,⟨n / 26,rfl,_,_,_,rfl,zE n hn,rfl⟩,?_⟩;rintro m σ H' ⟨rfl,r,mm,x,rfl,A,rfl⟩;refine⟨_,rfl,?_⟩;refine jI (λhl=>?_) (λhl=>?_)
 ·have hl:(0:Int)<(m:Int):=of_decide_eq_true hl;have hm:0<m:=by lia
  refine⟨λσ' H''=>∃m',m'<m∧(H''=H'∧∃(r mm:Nat)(x:Str),σ'=[some (.int n),some (.str x),some (.int r)]∧vB n r mm x∧m'=r),λ_ _ h=>h,?_⟩;obtain⟨mm',A'⟩:=Bj A hm;have ec:((m:Int)-1)=((m-1:Nat):Int):=by lia
  have hx:=A.few;refine⟨_,rfl,z26,p26,_,_,_,rfl,rfl,z26,by rw[ec];exact e0 (m-1),?_,?_⟩
  ·show 1+x.length≤_;rw[sizeLine_eq];lia
  refine⟨_,rfl,z26,c26 _,?_⟩;dsimp only;rw[ec,ed];exact⟨(m-1) / 26,by lia,rfl,_,_,_,rfl,A',rfl⟩
 ·have hl:¬(0:Int)<(m:Int):=λz=>hl (decide_eq_true z);have hm:m=0:=by lia
  subst hm;have hv:=A.val;rw[Nat.mul_zero,Nat.add_zero]at hv;have hf:=A.few;exact(k x ⟨A.one,by lia,A.abc⟩ (by lia) hv)
end S9
namespace S9
open PySem L2 SW
variable {K:aA}{vs:List V}{H:Hp}{Q:VK}{E:XK}{N C:Addr}
structure RW(K:aA)(C:Addr):Prop where
 cl:wb K C
 nT:i6 K C "taken"
 nR:i6 K C "tried"
def wf(d:Addr)(n:Nat):List (Str×V):=[("taken",.ref d),("tried",.int n)]
theorem Nc:¬(("taken":Str)="tried"):=by decide
theorem tw:(wf d n).lookup ("taken":Str)=some (.ref d):=by
 have e:(("taken":Str)=="taken")=true:=by decide
 simp only[wf,List.lookup,e]
theorem tu:(wf d n).lookup ("tried":Str)=some (.int n):=by
 have e:(("tried":Str)=="taken")=false:=by decide
 have e2:(("tried":Str)=="tried")=true:=by decide
 simp only[wf,List.lookup,e,e2]
theorem rW:iG "tried" (.int i) (wf d n)=([("taken",.ref d),("tried",.int i)]:List (Str×V)):=by simp only[wf,iG,if_neg Nc,if_true]
structure FW(C:Addr)(H:Hp)(p dx d:Addr)(n:Nat)(ws:List Str):Prop where
 ob:H p=some (.ins C dx (wf d n))
 dk:H d=some (.dK (iq ws))
def cnt(n:Nat):List Str→Nat
 | []=>0
 | y::r=>(if n≤Vw y.cps.toList then 1 else 0)+cnt n r
theorem CO(n:Nat)(ws:List Str):cnt (n+1) ws≤cnt n ws:=by
 induction ws with
 | nil=>exact aC _
 | cons y r ih=>unfold cnt;split<;>split<;>lia
theorem Ig(h:x∈ws)(e:Vw x.cps.toList=n):cnt (n+1) ws<cnt n ws:=by
 induction ws with
 | nil=>cases h
 | cons y r ih=>
  have:=CO n r;rcases aB.mp h with rfl|h
  ·unfold cnt;rw[if_neg (by lia),if_pos (by lia)];lia
  ·have:=ih h;unfold cnt;split<;>split<;>lia
theorem yC(n:Nat)(ws:List Str):cnt n ws≤ws.length:=by
 induction ws with
 | nil=>exact aC _
 | cons y r ih=>unfold cnt;rw[aE];split<;>lia
theorem wN(n:Nat)(ws:List Str)(x:Str):cnt n (ws++[x])=cnt n ws+(if n≤Vw x.cps.toList then 1 else 0):=by
 induction ws with
 | nil=>simp[cnt]
 | cons y r ih=>rw[aL,cnt,cnt,ih];lia
def Ci(p d:Addr)(H H':Hp):Prop:=∀b o,b≠p→b≠d→H b=some o→H' b=some o
theorem Ci.refl:Ci p d H H:=λ_ _ _ _ h=>h
theorem Ci.trans(a:Ci p d H H1)(b:Ci p d H1 H2):Ci p d H H2:=λc o h1 h2 h=>b c o h1 h2 (a c o h1 h2 h)
def pC(C:Addr):Sp:=λvs H Q _=>∃(p dx d:Addr)(n:Nat)(ws:List Str)(w:Str),vs=[.ref p,.str w]∧FW C H p dx d n ws∧Wd w∧ws.length≤8000000∧n+cnt n ws≤ws.length∧
 ∀(x:Str)(n':Nat)(H':Hp),Wd x→x∉ws→(w∉ws→x=w)→n'+cnt n' (ws++[x])≤ws.length+1→Ci p d H H'→FW C H' p dx d n' (ws++[x])→Q (.str x) H'
def Ff(K:aA)(a_FreshWords:Addr):TS:=(de (eD (eN rm [] E0 (dM (kG K (dN 0) "tried") dW)) (dX 2)) (pG K (dN 0) (tC (.int 1)) D1 "tried"))
def LW(K:aA)(a_FreshWords:Addr):TS:=(de (eD (dN 1) (dX 2)) (de (iE (tB (An (dN 2) (kG K (dN 0) "taken"))) (Ff K a_FreshWords)) (de (lJ (kG K (dN 0) "taken") (dN 2) (tC (.bl true))) (fT (dN 2)))))
def one(x:Str)(ws:List Str):Nat:=if x∈ws then 1 else 0
theorem ND(rc:RW K C)(h:pC C vs H Q E):LW K C (gf Q) (start ["self","word","free"] vs) H:=by
 obtain⟨p,dx,d,n,ws,w,rfl,A,hw,hl,hn,k⟩:=h;have hpd:p≠d:=fB A.ob A.dk (by intro z;cases z);have c0:=yC n ws;have o0:one w ws≤1:=by unfold one;split<;>lia
 refine ?_;refine⟨λm σ H'=>∃(x:Str)(r:Nat),σ=[some (.ref p),some (.str w),some (.str x)]∧FW C H' p dx d r ws∧Ci p d H H'∧Wd x∧(w∉ws→x=w)∧m=cnt r ws+one x ws∧r+m≤n+(cnt n ws+one w ws)∧((x=w∧r=n)∨Vw x.cps.toList<r),⟨_,w,n,rfl,A,.refl,hw,λ_=>rfl,rfl,aC _,.inl ⟨rfl,rfl⟩⟩,?_⟩;rintro m σ H1 ⟨x,r,rfl,A1,ap1,hx,hxw,rfl,hr,hv0⟩;refine⟨A1.ob,rc.cl,rc.nT,tw,iQ.k (k:=.inr x) A1.dk,_,rfl,?_⟩;rw[nU];by_cases hm:x∈ws
 ·refine fW (decide_eq_true hm) ?_;refine⟨λσ' H'=>∃m',m'<cnt r ws+one x ws∧∃(x:Str)(r:Nat),σ'=[some (.ref p),some (.str w),some (.str x)]∧FW C H' p dx d r ws∧Ci p d H H'∧Wd x∧(w∉ws→x=w)∧m'=cnt r ws+one x ws∧r+m'≤n+(cnt n ws+one w ws)∧((x=w∧r=n)∨Vw x.cps.toList<r),λ_ _ h=>h,?_⟩;have o1:one x ws=1:=if_pos hm;refine⟨A1.ob,rc.cl,rc.nR,tu,r,rfl,by lia,λy hy hy2 hv=>?_⟩;refine⟨p,C,dx,_,_,rfl,A1.ob,rc.cl,rc.nR,tu,_,_,rfl,rfl,dx,_,A1.ob,by show 2<1000;decide,?_⟩;rw[rW];have hc:cnt (r+1) ws+one y ws≤cnt r ws:=by
   by_cases hy3:y∈ws
   ·have:=Ig hy3 hv;rw[show one y ws=1 from if_pos hy3];lia
   ·have:=CO r ws;rw[show one y ws=0 from if_neg hy3];lia
  refine⟨cnt (r+1) ws+one y ws,by lia,y,r+1,rfl,⟨by rw[dO];rfl,by rw[db hpd.symm];exact A1.dk⟩,ap1.trans λb o h1 _ e=>by rw[db h1];exact e,hy,λz=>absurd (hxw z▸hm) z,rfl,by lia,.inr (by lia)⟩
 ·refine eK (decide_eq_false hm) ?_;refine⟨A1.ob,rc.cl,rc.nT,tw,nO.k (k:=.inr x) A1.dk (by rw[oB,sizeLine_eq];lia),?_⟩;rw[ng];have ea:lU ws x=ws++[x]:=by unfold lU;rw[if_neg hm]
  rw[ea];have o1:one x ws=0:=if_neg hm;have hc:r+cnt r (ws++[x])≤ws.length+1:=by
   rw[wN];rcases hv0 with⟨rfl,rfl⟩|hv0
   ·split<;>lia
   ·rw[if_neg (by lia)];lia
  refine(k x r _ hx hm hxw hc (ap1.trans λb o _ h2 e=>by rw[db h2];exact e) ⟨by rw[db hpd];exact A1.ob,dO⟩)
def oT:Sp:=λvs H Q _=>∃(p q:Addr)(x:V)(src:Str)(path:V)(e hd:V)(n:Int),vs=[.ref p,hd,.int n]∧H p=some (.tup [x,.str src,path,e])∧
 ∀(r s:Addr)(H':Hp),dy H H'→H' s=some (.tup [.str src,path])→H' r=some (.tup [.str "row",hd,.int n,.ref s])→Q (.ref r) H'
def Lg(K:aA):TS:=(fT (fJ (dM (tC (.str "row")) (dM (dN 1) (dM (dN 2) (dM (fJ (dM (dz (eC K) (dN 0) (tC (.int 1))) (dM (dz (eC K) (dN 0) (tC (.int 2))) dW))) dW))))))
theorem NK(h:oT vs H Q E):Lg K (gf Q) (start ["spot","head","many"] vs) H:=by obtain⟨p,q,x,src,path,e,hd,n,rfl,hp,k⟩:=h;refine⟨eA.of hp,rfl,eA.of hp,rfl,fG,λs hs=>⟨fG,λr hr=>?_⟩⟩;have s1:=dR (o:=.tup [.str src,path]) hs;have s2:=dR (o:=.tup [.str "row",hd,.int n,.ref s]) hr;exact k r s _ (s1.trans s2) (s2 _ _ dO) dO
def xV(C:Addr):Sp:=λvs H Q _=>∃(p dx l:Addr)(us:List Str),vs=[.ref p,.ref l]∧H p=some (.ins C dx [])∧H l=some (.lst (us.map V.str))∧us.length≤900∧
 ∀(d:Addr)(ws:List Str)(H':Hp),H d=none→(∀x,x∈ws↔x∈us)→ws.length≤us.length→(∀b o,b≠p→H b=some o→H' b=some o)→FW C H' p dx d 0 ws→Q .non H'
def Fe(K:aA)(a_FreshWords:Addr):TS:=(lJ (kG K (dN 0) "taken") (dN 2) (tC (.bl true)))
def LU(K:aA)(a_FreshWords:Addr):TS:=(de (uN K (dN 0) ir "taken") (de (iK (i0 K (dN 1)) (dX 2) (Fe K a_FreshWords)) (uN K (dN 0) (tC (.int 0)) "tried")))
theorem CZ(ws:List Str)(x y:Str):y∈lU ws x↔y∈ws∨y=x:=by
 unfold lU;split
 ·rename_i h;exact⟨.inl,λz=>z.elim id λe=>e▸h⟩
 ·simp
theorem Ca(ws:List Str)(x:Str):(lU ws x).length≤ws.length+1:=by
 unfold lU;split
 ·lia
 ·simp
theorem C2:([(("taken":Str),V.ref d)]).lookup ("taken":Str)=some (V.ref d):=by
 have e:(("taken":Str)=="taken")=true:=by decide
 simp only[List.lookup,e]
def OH(p l d dx C:Addr)(H:Hp)(us:List Str)(i:Nat)(σ:St)(H':Hp):Prop:=∃j2 ws,σ=[some (.ref p),some (.ref l),j2]∧H' p=some (.ins C dx [("taken",.ref d)])∧H' d=some (.dK (iq ws))∧(∀b o,b≠p→H b=some o→H' b=some o)∧(∀x,x∈ws↔x∈us.take i)∧ws.length≤i
theorem NB(rc:RW K C)(h:xV C vs H Q E):LU K C (gf Q) (start ["self","taken","word"] vs) H:=by
 obtain⟨p,dx,l,us,rfl,hp,hl,hn,k⟩:=h;intro d hd;have s1:dy H (upd H d (.dK [])):=dR hd;have d1:(upd H d (.dK [])) d=some (.dK []):=dO;generalize upd H d (.dK [])=H1 at s1 d1⊢;refine⟨p,C,dx,[],rfl,s1 _ _ hp,rc.cl,rc.nT,by show 0<1000;decide,?_⟩;have hpd:p≠d:=dZ hp hd;have hpl:l≠p:=fB hl hp (by intro z;cases z);have hld:l≠d:=dZ hl hd;have o2:(upd H1 p (.ins C dx (iG "taken" (.ref d) []))) p=some (.ins C dx [("taken",.ref d)]):=dO;have d2:(upd H1 p (.ins C dx (iG "taken" (.ref d) []))) d=some (.dK (iq [])):=by rw[db hpd.symm];exact d1
 have a2:∀b o,b≠p→H b=some o→(upd H1 p (.ins C dx (iG "taken" (.ref d) []))) b=some o:=λb o h e=>by rw[db h];exact s1 _ _ e
 generalize upd H1 p (.ins C dx (iG "taken" (.ref d) []))=H2 at o2 d2 a2⊢;refine⟨eG.of (a2 _ _ hpl hl),?_⟩;refine gT (K:=K) (a:=l) (xs:=us.map V.str) (OH p l d dx C H us)
  ⟨none,[],rfl,o2,d2,a2,by simp,aC _⟩ (λi σ H' _ hP=>?_) ?_ ?_
 ·obtain⟨_,_,_,_,_,a,_⟩:=hP;exact eG.of (a _ _ hpl hl)
 ·rintro i y σ H3 hi ⟨j2,ws,rfl,o3,d3,a3,m3,l3⟩;obtain⟨x,hx,rfl⟩:∃x,us[i]?=some x∧y=V.str x:=by
   rw[ac]at hi;cases e:us[i]? with
   | none=>rw[e]at hi;cases hi
   | some z=>rw[e]at hi;exact⟨z,rfl,(Option.some.inj hi).symm⟩
  have hil:i<us.length:=(aK.mp hx).1;have hlen:=Ca ws x;refine⟨o3,rc.cl,rc.nT,C2,nO.k (k:=.inr x) d3 (kJ (by rw[oB];lia)),?_⟩;rw[ng];refine⟨_,lU ws x,rfl,by rw[db hpd];exact o3,dO,λb o h e=>by rw[db (dZ e hd)];exact a3 b o h e,λz=>?_,by lia⟩;rw[CZ,m3,ax,hx];simp
 ·rintro σ H3 ⟨j2,ws,rfl,o3,d3,a3,m3,l3⟩;rw[aX]at m3 l3;refine⟨p,C,dx,_,rfl,o3,rc.cl,rc.nR,by show 1<1000;decide,?_⟩;refine k d ws _ hd (λx=>by rw[m3,bG]) l3 (λb o h e=>by rw[db h];exact a3 b o h e) ⟨?_,by rw[db hpd.symm];exact d3⟩;rw[dO];simp only[iG,if_neg Nc];rfl
structure vD(H:Hp)(v1 v2 v3:V)(bo:Bo):Prop where
 a:kY H "star" [] (gZ bo.x) v1
 b:kY H "sta" [qw bo.e] (gZ bo.y) v2
 c:kY H "st" [qw bo.e,zB bo.e] (gZ bo.z) v3
theorem vD.mono(s:dy H H')(h:vD H v1 v2 v3 bo):vD H' v1 v2 v3 bo:=⟨h.a.mono s,h.b.mono s,h.c.mono s⟩
theorem vD.g(h:vD H v1 v2 v3 bo):Bk H v1 v2 v3 (gZ bo.x) (gZ bo.y) (gZ bo.z):=⟨h.a,⟨_,h.b⟩,⟨_,_,h.c⟩⟩
theorem xN:∀{ws ls:List Str},ws.Nodup→(∀x∈ws,x∈ls)→ws.length≤ls.length
 | [],_,_,_=>aS _
 | x::ws,ls,nd,h=>by have hx:=h x bW;obtain⟨n1,n2⟩:=bQ.mp nd;have:=xN (ls:=ls.erase x) n2 λy hy=>(List.mem_erase_of_ne (by rintro rfl;exact n1 hy)).mpr (h y (bB _ hy));rw[List.length_erase_of_mem hx]at this;have:=List.length_pos_of_mem hx;rw[aE];lia
theorem AA(h:Up ws):ws.Nodup:=List.Pairwise.imp (λ{a b}(z:qf a b)(e:a=b)=>by subst e;exact qf.irrefl a z) h
theorem xi{ws:List Str}{t:T}(h:Up ws)(m:∀x,x∈ws↔t.out x):ws.length≤t.names.length:=xN (AA h) λx hx=>T.names_occ.mpr (T.out_occ ((m x).mp hx))
def xW:Sp:=λvs H Q _=>∃(b:Addr)(v1 v2 v3 v:V)(bo:Bo)(t:T),vs=[.ref b,v]∧H b=some (.lst [v1,v2,v3])∧vD H v1 v2 v3 bo∧gG H t v∧(∀y∈[t,bo.x,bo.y,bo.z],y.size≤900∧y.names.length<64)∧
 ∀(l:Addr)(us:List Str)(H':Hp),dy H H'→H l=none→H' l=some (.lst (us.map V.str))→us.length≤252→(∀x,x∈us↔∃y∈[t,bo.x,bo.y,bo.z],y.out x)→Q (.ref l) H'
def xF(K:aA):TS:=(fD (jm K "list" mh (dN 2) (dM (eN qA [] E0 (dM (dz (eC K) (dN 3) (tC (.int 2))) dW)) dW)))
def JY(K:aA):TS:=(de (eD (eN qA [] E0 (dM (dN 1) dW)) (dX 2)) (de (iK (i0 K (dN 0)) (dX 3) (xF K)) (fT (dN 2))))
def ON(b:Addr)(v:V)(l:Addr)(H:Hp)(t:T)(bo:Bo)(i:Nat)(σ:St)(H':Hp):Prop:=∃(j3:Option V)(us:List Str),σ=[some (.ref b),some v,some (.ref l),j3]∧dy H H'∧H' l=some (.lst (us.map V.str))∧us.length≤63*(i+1)∧∀x,x∈us↔∃y∈t::[bo.x,bo.y,bo.z].take i,y.out x
theorem MI(h:xW vs H Q E):JY K (gf Q) (start ["book","piece","words","stamp"] vs) H:=by
 obtain⟨b,v1,v2,v3,v,bo,t,rfl,hb,B,hd,hs,k⟩:=h;have ht:=hs t (by simp);refine⟨t,v,rfl,hd,ht.1,ht.2,λl ws H1 s1 n1 h1 up1 m1=>?_⟩;refine⟨eG.of (s1 _ _ hb),?_⟩;have hlb:l≠b:=(dZ hb n1).symm;refine gT (K:=K) (a:=b) (xs:=[v1,v2,v3]) (ON b v l H t bo)
  ⟨none,ws,rfl,s1,h1,by have:=xi up1 m1;lia,λx=>by rw[m1];simp⟩ (λi σ H' _ hP=>?_) ?_ ?_
 ·obtain⟨_,_,_,s,_⟩:=hP;exact eG.of (s _ _ hb)
 ·rintro i y σ H2 hi ⟨j3,us,rfl,s2,h2,l2,m2⟩;have B2:=B.mono s2;have go:∀(w:Str)(ps:List Str)(tt:T),kY H2 w ps (gZ tt) y→tt∈[t,bo.x,bo.y,bo.z]→i≤3→[bo.x,bo.y,bo.z].take (i+1)=[bo.x,bo.y,bo.z].take i++[tt]→∀D:iT,(∀σ H',(∃(j3:Option V)(us:List Str),σ=[some (.ref b),some v,some (.ref l),j3]∧dy H H'∧H' l=some (.lst (us.map V.str))∧us.length≤63*(i+1+1)∧∀x,x∈us↔∃y∈t::[bo.x,bo.y,bo.z].take (i+1),y.out x)→D.nx σ H')→dX 3 y [some (.ref b),some v,some (.ref l),j3] H2 λσ2 H2=>xF K D σ2 H2:=by
   intro w ps tt st hm hi3 e D hD;obtain⟨p,q,x,rfl,hp,_,dx⟩:=st;have hg:=hs tt hm;refine⟨.inl ⟨rfl,_,eG.of h2⟩,eA.of hp,rfl,tt,x,rfl,iH dx,hg.1,hg.2,λl' ws' H3 s3 n3 h3 up3 m3=>?_⟩;have hw:=xi up3 m3;refine⟨l,l',_,_,rfl,rfl,s3 _ _ h2,h3,by rw[aX,aX,sizeLine_eq];lia,hD _ _ ⟨_,us++ws',rfl,eF (s2.trans s3) n1,by rw[dO,bq],by rw[aD];lia,λz=>?_⟩⟩;rw[aU,m2,m3,e];constructor
   ·rintro(⟨y,hy,o⟩|o)
    ·refine⟨y,?_,o⟩;rcases aB.mp hy with rfl|hy
     ·exact bW
     ·exact bB _ (af _ hy)
    ·exact⟨tt,bB _ (aO _ (aG.mpr rfl)),o⟩
   ·rintro⟨y,hy,o⟩;rcases aB.mp hy with rfl|hy
    ·exact .inl ⟨_,bW,o⟩
    ·rcases aU.mp hy with hy|hy
     ·exact .inl ⟨y,bB _ hy,o⟩
     ·rw[aG]at hy;subst hy;exact .inr o
  match i,hi,go with
  | 0,hi,go=>cases hi;exact go _ _ _ B2.a (by simp) (by lia) rfl _ (λ_ _ z=>z)
  | 1,hi,go=>cases hi;exact go _ _ _ B2.b (by simp) (by lia) rfl _ (λ_ _ z=>z)
  | 2,hi,go=>cases hi;exact go _ _ _ B2.c (by simp) (by lia) rfl _ (λ_ _ z=>z)
  | n+3,hi,_=>simp at hi
 ·rintro σ H2 ⟨j3,us,rfl,s2,h2,l2,m2⟩;exact(k l us H2 s2 n1 h2 (by simp at l2;lia) m2)
end S9
namespace S9
open PySem SW
inductive Hd where
 | num(n:Int)|name(w:Str)|sum|less|cho|lt(w:Str)
def Hd.ar:Hd→Nat
 | .num _=>0
 | .name _=>0
 | .sum=>2
 | .less=>2
 | .cho=>3
 | .lt _=>2
inductive Rw where
 | row(h:Hd)(src:Str)(path:List Nat)
 | rdy(n z:Nat)
def Rw.ar:Rw→Nat
 | .row h _ _=>h.ar
 | .rdy _ _=>0
def Rw.wt:Rw→Nat
 | .row _ _ _=>1
 | .rdy _ z=>z
mutual
inductive Mg where
 | called(w:Str)
 | ready(n z:Nat)
 | handed(t:T)(src:Str)(path:List Nat)(e:En)
inductive En where
 | nil
 | cons(w:Str)(m:Mg)(e:En)
end
def En.look:En→Str→Option Mg
 | .nil,_=>none
 | .cons w m e,v=>if w=v then some m else e.look v
def En.put:En→Str→Mg→En
 | .nil,v,n=>.cons v n .nil
 | .cons w m e,v,n=>if w=v then .cons w n e else .cons w m (e.put v n)
def En.len:En→Nat
 | .nil=>0
 | .cons _ _ e=>e.len+1
theorem En.put_len(v:Str)(n:Mg):∀e:En,(e.put v n).len≤e.len+1
 | .nil=>aC _
 | .cons w m e=>by have:=En.put_len v n e;unfold En.put;split<;>simp only[En.len]<;>lia
theorem En.look_put(v x:Str)(n:Mg):∀e:En,(e.put v n).look x=if v=x then some n else e.look x
 | .nil=>by simp only[En.put,En.look]
 | .cons w m e=>by
  have ih:=En.look_put v x n e;unfold En.put;split
  ·rename_i h;subst h;simp only[En.look];split<;>rfl
  ·rename_i h;simp only[En.look,ih];split
   ·rename_i h2;subst h2;rw[if_neg (λz=>h z.symm)]
   ·rfl
structure eE where
 t:T
 src:Str
 path:List Nat
 e:En
def eE.kid(s:eE)(i:Nat)(t:T):eE:=⟨t,s.src,s.path++[i],s.e⟩
def wi(s:eE):Nat→List T→List eE
 | _,[]=>[]
 | i,t::ts=>s.kid i t::wi s (i+1) ts
def eE.within(s:eE):List eE:=wi s 0 s.t.kids
theorem vI(s:eE):∀(ts:List T)(i:Nat),(wi s i ts).length=ts.length
 | [],_=>rfl
 | _::ts,i=>by simp[wi,vI s ts]
def pl:T→Option Hd
 | .num n=>some (.num n)
 | .sum _ _=>some .sum
 | .less _ _=>some .less
 | .cho _ _ _=>some .cho
 | _=>none
theorem FC(e:pl t=some h):h.ar=t.kids.length:=by cases t<;>simp only[pl,Option.some.injEq,reduceCtorEq]at e<;>subst e<;>rfl
inductive Tk(ws:List Str):eE→List eE→List Rw→List Str→Prop where
 | plain{s:eE}{h:Hd}:pl s.t=some h→Tk ws s s.within.reverse [.row h s.src s.path] ws
 | free{s:eE}{w:Str}:s.t=.name w→s.e.look w=none→Tk ws s [] [.row (.name w) s.src s.path] ws
 | called{s:eE}{w v:Str}:s.t=.name w→s.e.look w=some (.called v)→Tk ws s [] [.row (.name v) s.src s.path] ws
 | ready{s:eE}{w:Str}{n z:Nat}:s.t=.name w→s.e.look w=some (.ready n z)→Tk ws s [] [.rdy n z] ws
 | handed{s:eE}{w:Str}{t:T}{src:Str}{path:List Nat}{e:En}:s.t=.name w→s.e.look w=some (.handed t src path e)→Tk ws s [⟨t,src,path,e⟩] [] ws
 | lt{s:eE}{w x:Str}{a b:T}:s.t=.lt w a b→Wd x→x∉ws→(w∉ws→x=w)→
  Tk ws s [⟨b,s.src,s.path++[1],s.e.put w (.called x)⟩,s.kid 0 a] [.row (.lt x) s.src s.path] (ws++[x])
inductive zd:List eE→List Rw→List Str→List Rw→List Str→Prop where
 | nil{R:List Rw}{ws:List Str}:zd [] R ws R ws
 | step{S P:List eE}{s:eE}{R rs R':List Rw}{ws ws' ws'':List Str}:Tk ws s P rs ws'→zd (S++P) (R++rs) ws' R' ws''→zd (S++[s]) R ws R' ws''
def oP:T→Prop
 | .num _=>False
 | .name _=>False
 | .sum a b=>oP a∨oP b
 | .less a b=>oP a∨oP b
 | .cho a b c=>oP a∨oP b∨oP c
 | .lt _ a b=>oP a∨oP b
 | .st0 _=>True
 | .st1 _ _=>True
 | .st2 _ _ _=>True
def Mg.isH:Mg→Prop
 | .handed _ _ _ _=>True
 | _=>False
def Op(s:eE):Prop:=oP s.t∨∃w m,s.t.out w∧s.e.look w=some m∧m.isH
theorem Bx(h:¬Op s)(h1:oP t→oP s.t)(h2:∀w,t.out w→s.t.out w):¬Op (s.kid i t):=by
 rintro(z|⟨w,m,o,l,i⟩)
 ·exact h (.inl (h1 z))
 ·exact h (.inr ⟨w,m,h2 w o,l,i⟩)
theorem Jk(h:¬Op s)(h1:∀t∈ts,(oP t→oP s.t)∧∀w,t.out w→s.t.out w):∀(i:Nat),∀k∈wi s i ts,¬Op k:=by
 induction ts with
 | nil=>intro i k hk;cases hk
 | cons t ts ih=>
  intro i k hk;rcases aB.mp hk with rfl|hk
  ·exact Bx h (h1 t (.head _)).1 (h1 t (.head _)).2
  ·exact ih (λt ht=>h1 t (.tail _ ht)) (i+1) k hk
theorem JP(h:Tk ws s P rs ws')(o:¬Op s):∀k∈P,¬Op k:=by
 cases h with
 | plain e=>
  intro k hk;rw[List.mem_reverse]at hk;refine Jk o (λt ht=>?_) 0 k hk;obtain⟨st,src,path,en⟩:=s;cases st<;>simp only[pl,reduceCtorEq]at e
  all_goals (simp only[T.kids,aB,aF,or_false]at ht)
  case sum=>rcases ht with rfl|rfl<;>exact⟨λz=>by simp[oP,z],λw z=>by simp[T.out,z]⟩
  case less=>rcases ht with rfl|rfl<;>exact⟨λz=>by simp[oP,z],λw z=>by simp[T.out,z]⟩
  case cho=>rcases ht with rfl|rfl|rfl<;>exact⟨λz=>by simp[oP,z],λw z=>by simp[T.out,z]⟩
 | free _ _=>intro k hk;cases hk
 | called _ _=>intro k hk;cases hk
 | ready _ _=>intro k hk;cases hk
 | handed e l=>exact absurd (.inr ⟨_,_,by rw[e];exact rfl,l,aI⟩) o
 | @lt w x a b e _ _ _=>
  intro k hk;rcases aB.mp hk with rfl|hk
  ·rintro(z|⟨v,m,o2,l,i⟩)
   ·exact o (.inl (by rw[e];exact .inr z))
   ·rw[En.look_put]at l;by_cases hv:w=v
    ·subst hv;rw[if_pos rfl]at l;cases l;exact i
    ·rw[if_neg hv]at l;exact o (.inr ⟨v,m,by rw[e];exact .inr ⟨hv,o2⟩,l,i⟩)
  ·rw[aG]at hk;subst hk;exact Bx o (λz=>by rw[e];exact .inl z) (λw z=>by rw[e];exact .inl z)
def jl(f:Str→Nat):T→Nat
 | .num _=>1
 | .name w=>f w
 | .sum a b=>1+jl f a+jl f b
 | .less a b=>1+jl f a+jl f b
 | .cho a b c=>1+jl f a+jl f b+jl f c
 | .lt w a b=>1+jl f a+jl (λv=>if w=v then 1 else f v) b
 | .st0 _=>1
 | .st1 _ a=>1+jl f a
 | .st2 _ a b=>1+jl f a+jl f b
mutual
def Mg.wt(h:Nat):Mg→Nat
 | .called _=>1
 | .ready _ z=>z
 | .handed t _ _ e=>h+jl (e.fw h) t
def En.fw(h:Nat):En→Str→Nat
 | .nil=>λ_=>1
 | .cons w m e=>λv=>if w=v then m.wt h else e.fw h v
end
def eE.wt(h:Nat)(s:eE):Nat:=jl (s.e.fw h) s.t
def la(h:Nat)(S:List eE):Nat:=(S.map (eE.wt h)).sum
def k0(R:List Rw):Nat:=(R.map Rw.wt).sum
theorem gD(h:Nat)(a b:List eE):la h (a++b)=la h a+la h b:=by simp[la]
theorem gu(h:Nat)(s:eE):la h [s]=s.wt h:=by simp[la]
theorem lG(h:Nat)(s:eE)(r:List eE):la h (s::r)=s.wt h+la h r:=by simp[la]
theorem jp(h:Nat):la h []=0:=rfl
theorem rR(h:Nat)(a:List eE):la h a.reverse=la h a:=by simp[la]
theorem mJ(a b:List Rw):k0 (a++b)=k0 a+k0 b:=by simp[k0]
theorem jP(r:Rw)(b:List Rw):k0 (r::b)=r.wt+k0 b:=by simp[k0]
theorem jY:k0 []=0:=rfl
theorem pL(h:Nat)(v:Str):∀e:En,e.fw h v=match e.look v with|none=>1|some m=>m.wt h
 | .nil=>rfl
 | .cons w m e=>by
  simp only[En.fw,En.look];split
  ·rfl
  ·exact pL h v e
theorem IV(h:Nat)(w x:Str)(e:En):(e.put w (.called x)).fw h=λv=>if w=v then 1 else e.fw h v:=by
 funext v;rw[pL,En.look_put];by_cases hv:w=v
 ·rw[if_pos hv,if_pos hv];rfl
 ·rw[if_neg hv,if_neg hv,pL]
theorem qk{s:eE}{h:Nat}{hd:Hd}(e:pl s.t=some hd):s.wt h=1+la h s.within:=by
 obtain⟨st,src,path,en⟩:=s;cases st<;>simp only[pl,reduceCtorEq]at e
 all_goals simp only[eE.wt,eE.within,T.kids,wi,lG,jp,jl,eE.kid]
 all_goals lia
theorem zn{s:eE}{h:Nat}{w x:Str}{a b:T}(e:s.t=.lt w a b):s.wt h=1+la h [⟨b,s.src,s.path++[1],s.e.put w (.called x)⟩,s.kid 0 a]:=by obtain⟨st,src,path,en⟩:=s;simp only at e;subst e;simp only[lG,jp,eE.wt,IV,eE.kid,jl];lia
theorem iY{s:eE}{h:Nat}{w:Str}(e:s.t=.name w):s.wt h=match s.e.look w with|none=>1|some m=>m.wt h:=by unfold eE.wt;rw[e];exact pL h w s.e
theorem Eu{ws ws':List Str}{s:eE}{P:List eE}{rs:List Rw}(h:Tk ws s P rs ws'):la 0 P+k0 rs=s.wt 0:=by
 cases h with
 | plain e=>rw[qk e,rR,jP,jY];simp only[Rw.wt];lia
 | free e l=>rw[iY e,l];rfl
 | called e l=>rw[iY e,l];rfl
 | ready e l=>rw[iY e,l];simp only[jp,jP,jY,Rw.wt,Mg.wt];lia
 | handed e l=>rw[iY e,l];simp only[lG,jp,jY,Mg.wt,eE.wt];lia
 | @lt w x a b e _ _ _=>rw[zn (x:=x) e,jP,jY];simp only[Rw.wt];lia
theorem vX(h:zd S R ws R' ws'):k0 R'=la 0 S+k0 R:=by
 induction h with
 | nil=>rw[jp,br]
 | step a _ ih=>rw[ih,gD,gD,gu,mJ,←Eu a];lia
def SF(w:Str)(k:Nat):Prop:=kn w=some k
def BT(t:T)(path:List Nat)(n:Nat):Prop:=WT SF t∧path.length+t.size≤1000∧n+t.size≤1000∧t.size≤900∧t.names.length<64
mutual
def Mg.ok(P:Nat→Nat→Prop):Mg→Prop
 | .called _=>True
 | .ready n z=>1≤z∧P n z
 | .handed t _ path e=>BT t path e.len∧e.ok P
def En.ok(P:Nat→Nat→Prop):En→Prop
 | .nil=>True
 | .cons w m e=>m.ok P∧e.ok P∧e.look w=none
end
def eE.ok(P:Nat→Nat→Prop)(s:eE):Prop:=BT s.t s.path s.e.len∧s.e.ok P
def Rw.ok(P:Nat→Nat→Prop):Rw→Prop
 | .row _ _ _=>True
 | .rdy n z=>1≤z∧P n z
mutual
theorem Mg.ok_mono(h:∀n z,P n z→P' n z):∀{m:Mg},m.ok P→m.ok P'
 | .called _,_=>aI
 | .ready _ _,a=>⟨a.1,h _ _ a.2⟩
 | .handed _ _ _ e,a=>⟨a.1,En.ok_mono h (e:=e) a.2⟩
theorem En.ok_mono(h:∀n z,P n z→P' n z):∀{e:En},e.ok P→e.ok P'
 | .nil,_=>aI
 | .cons _ m e,a=>⟨Mg.ok_mono h (m:=m) a.1,En.ok_mono h (e:=e) a.2.1,a.2.2⟩
end
theorem eE.ok_mono{P P':Nat→Nat→Prop}(h:∀n z,P n z→P' n z){s:eE}(a:s.ok P):s.ok P':=⟨a.1,En.ok_mono h a.2⟩
theorem Rw.ok_mono(h:∀n z,P n z→P' n z):∀{r:Rw},r.ok P→r.ok P'
 | .row _ _ _,_=>aI
 | .rdy _ _,a=>⟨a.1,h _ _ a.2⟩
variable {P:Nat→Nat→Prop}
theorem pJ:∀{e:En},e.ok P→e.look v=some m→m.ok P
 | .nil,_,h=>by simp only[En.look,reduceCtorEq]at h
 | .cons w n e,a,h=>by
  simp only[En.look]at h;split at h
  ·cases h;exact a.1
  ·exact pJ (e:=e) a.2.1 h
theorem BO(hm:m.ok P):∀{e:En},e.ok P→(e.put v m).ok P
 | .nil,_=>⟨hm,aI,rfl⟩
 | .cons w n e,a=>by
  unfold En.put;split
  ·exact⟨hm,a.2⟩
  ·rename_i hw;exact⟨a.1,BO hm (e:=e) a.2.1,by rw[En.look_put,if_neg (λz=>hw z.symm)];exact a.2.2⟩
theorem CS(i:Nat)(h:BT t path n)(hu:u∈t.kids)(hm:m≤n+1):BT u (path++[i]) m:=by
 obtain⟨a,b,c,d,e⟩:=h;have key:WT SF u∧u.size+1≤t.size∧u.names.length≤t.names.length:=by
  cases t<;>simp only[T.kids,aB,aF,or_false]at hu
  case sum=>rcases hu with rfl|rfl<;>simp only[WT,qd,T.size,T.names,aD]at *<;>exact⟨by simp[a],by lia,by lia⟩
  case less=>rcases hu with rfl|rfl<;>simp only[WT,qd,T.size,T.names,aD]at *<;>exact⟨by simp[a],by lia,by lia⟩
  case cho=>rcases hu with rfl|rfl|rfl<;>simp only[WT,qd,T.size,T.names,aD]at *<;>exact⟨by simp[a],by lia,by lia⟩
  case lt=>rcases hu with rfl|rfl<;>simp only[WT,qd,T.size,T.names,aD]at *<;>exact⟨by simp[a],by lia,by lia⟩
  case st1=>subst hu;simp only[WT,qd,T.size,T.names,aD]at *;exact⟨by simp[a],by lia,by lia⟩
  case st2=>rcases hu with rfl|rfl<;>simp only[WT,qd,T.size,T.names,aD]at *<;>exact⟨by simp[a],by lia,by lia⟩
 refine⟨key.1,?_,?_,?_,?_⟩
 ·rw[aD,bA];lia
 ·lia
 ·lia
 ·lia
theorem kE{s:eE}{t:T}{i:Nat}(h:s.ok P)(ht:t∈s.t.kids):(s.kid i t).ok P:=⟨CS i h.1 ht (by show s.e.len≤_;lia),h.2⟩
theorem Er{s:eE}(h:s.ok P):∀(ts:List T)(i:Nat),(∀t∈ts,t∈s.t.kids)→∀k∈wi s i ts,k.ok P
 | [],_,_,k,hk=>by cases hk
 | t::ts,i,ht,k,hk=>by
  rcases aB.mp hk with rfl|hk
  ·exact kE h (ht t (.head _))
  ·exact Er h ts (i+1) (λu hu=>ht u (.tail _ hu)) k hk
theorem yN{s:eE}(h:s.ok P):∀k∈s.within,k.ok P:=Er h _ 0 λ_ z=>z
theorem AF{ws ws':List Str}{s:eE}{Q:List eE}{rs:List Rw}(h:Tk ws s Q rs ws')(o:s.ok P):(∀k∈Q,k.ok P)∧∀r∈rs,r.ok P:=by
 cases h with
 | plain e=>refine⟨λk hk=>yN o k (List.mem_reverse.mp hk),λr hr=>?_⟩;rw[aG]at hr;subst hr;exact aI
 | free e l=>refine⟨λk hk=>(nomatch hk),λr hr=>?_⟩;rw[aG]at hr;subst hr;exact aI
 | called e l=>refine⟨λk hk=>(nomatch hk),λr hr=>?_⟩;rw[aG]at hr;subst hr;exact aI
 | ready e l=>refine⟨λk hk=>(nomatch hk),λr hr=>?_⟩;rw[aG]at hr;subst hr;exact pJ o.2 l
 | handed e l=>refine⟨λk hk=>?_,λr hr=>(nomatch hr)⟩;rw[aG]at hk;subst hk;exact pJ (m:=.handed _ _ _ _) o.2 l
 | @lt w x a b e _ _ _=>
  refine⟨λk hk=>?_,λr hr=>?_⟩
  ·rcases aB.mp hk with rfl|hk
   ·exact⟨CS 1 o.1 (by rw[e];simp[T.kids]) (En.put_len _ _ _),BO (m:=.called x) aI o.2⟩
   ·rw[aG]at hk;subst hk;exact kE o (by rw[e];simp[T.kids])
  ·rw[aG]at hr;subst hr;exact aI
theorem wj(h:∀v,1≤f v)(t:T):1≤jl f t:=by cases t<;>simp only[jl]<;>first|exact h _|lia
mutual
theorem Mg.wt_pos:∀{m:Mg},m.ok P→1≤m.wt h
 | .called _,_=>aC _
 | .ready _ _,a=>a.1
 | .handed t _ _ e,a=>by have:=wj (λv=>En.fw_pos (h:=h) (e:=e) a.2 v) t;simp only[Mg.wt];lia
theorem En.fw_pos:∀{e:En},e.ok P→∀v,1≤e.fw h v
 | .nil,_,_=>aC _
 | .cons w m e,a,v=>by
  simp only[En.fw];split
  ·exact Mg.wt_pos (m:=m) a.1
  ·exact En.fw_pos (e:=e) a.2.1 v
end
theorem wt_pos{h:Nat}{s:eE}(o:s.ok P):1≤s.wt h:=wj (En.fw_pos o.2) _
theorem rS{h:Nat}:∀{S:List eE},(∀s∈S,s.ok P)→S.length≤la h S
 | [],_=>aC _
 | s::S,o=>by have h1:=wt_pos (h:=h) (o s (.head _));have h2:=rS (h:=h) (S:=S) λx hx=>o x (.tail _ hx);rw[lG,aE];lia
theorem kZ:∀{R:List Rw},(∀r∈R,r.ok P)→R.length≤k0 R
 | [],_=>aC _
 | r::R,o=>by
  have h1:1≤r.wt:=by
   have:=o r (.head _);cases r with
   | row=>exact aC _
   | rdy=>exact this.1
  have h2:=kZ (R:=R) λx hx=>o x (.tail _ hx);rw[jP,aE];lia
theorem AG(h:Tk ws s Q rs ws')(o:s.ok P):la 1 Q<s.wt 1:=by
 cases h with
 | plain e=>rw[qk e,rR];lia
 | free e l=>rw[iY e,l,jp];exact Nat.one_pos
 | called e l=>rw[iY e,l,jp];exact Nat.one_pos
 | ready e l=>rw[iY e,l,jp];exact(pJ o.2 l).1
 | handed e l=>rw[iY e,l,gu];simp only[Mg.wt,eE.wt];lia
 | @lt w x a b e _ _ _=>rw[zn (x:=x) e];lia
theorem AE(h:Tk ws s Q rs ws'):ws'.length≤ws.length+rs.length:=by cases h<;>simp
theorem A8(h:zd S R ws R' ws'):ws'.length+R.length≤ws.length+R'.length:=by
 induction h with
 | nil=>lia
 | step a _ ih=>have:=AE a;rw[aD]at ih;lia
theorem vY(h:zd S R ws R' ws')(hS:∀s∈S,s.ok P)(hR:∀r∈R,r.ok P):∀r∈R',r.ok P:=by
 induction h with
 | nil=>exact hR
 | step a _ ih=>
  have h2:=AF a (hS _ (aO _ (.head _)));refine ih (λs hs=>?_) λr hr=>?_
  ·rcases aU.mp hs with z|z
   ·exact hS s (af _ z)
   ·exact h2.1 s z
  ·rcases aU.mp hr with z|z
   ·exact hR r z
   ·exact h2.2 r z
theorem gh:∀(t:T){f g:Str→Nat},(∀v,f v≤g v)→jl f t≤jl g t
 | .num _,_,_,_=>aC _
 | .name w,_,_,h=>h w
 | .sum a b,_,_,h=>by have:=gh a h;have:=gh b h;simp only[jl];lia
 | .less a b,_,_,h=>by have:=gh a h;have:=gh b h;simp only[jl];lia
 | .cho a b c,_,_,h=>by have:=gh a h;have:=gh b h;have:=gh c h;simp only[jl];lia
 | .lt w a b,f,g,h=>by have:=gh a h;have:=gh b (f:=λv=>if w=v then 1 else f v) (g:=λv=>if w=v then 1 else g v) (λv=>by split<;>first|exact h v|exact aC _);simp only[jl];lia
 | .st0 _,_,_,_=>aC _
 | .st1 _ a,_,_,h=>by have:=gh a h;simp only[jl];lia
 | .st2 _ a b,_,_,h=>by have:=gh a h;have:=gh b h;simp only[jl];lia
mutual
theorem Mg.wt01:∀m:Mg,m.wt 0≤m.wt 1
 | .called _=>aC _
 | .ready _ _=>aC _
 | .handed t _ _ e=>by have:=gh t (λv=>En.fw01 e v);simp only[Mg.wt];lia
theorem En.fw01:∀(e:En)(v:Str),e.fw 0 v≤e.fw 1 v
 | .nil,_=>aC _
 | .cons w m e,v=>by
  simp only[En.fw];split
  ·exact Mg.wt01 m
  ·exact En.fw01 e v
end
theorem wt01(s:eE):s.wt 0≤s.wt 1:=gh _ (En.fw01 s.e)
theorem jA(hM:1≤M):∀(t:T){f:Str→Nat},(∀v,f v≤M)→jl f t+t.names.length≤t.size+t.names.length*M
 | .num _,_,_=>by simp[jl,T.names,T.size]
 | .name w,f,h=>by have:=h w;simp only[jl,T.names,T.size,bA,bu];lia
 | .sum a b,_,h=>by have:=jA hM a h;have:=jA hM b h;simp only[jl,T.names,T.size,aD,aq];lia
 | .less a b,_,h=>by have:=jA hM a h;have:=jA hM b h;simp only[jl,T.names,T.size,aD,aq];lia
 | .cho a b c,_,h=>by have:=jA hM a h;have:=jA hM b h;have:=jA hM c h;simp only[jl,T.names,T.size,aD,aq];lia
 | .lt w a b,f,h=>by have:=jA hM a h;have:=jA hM b (f:=λv=>if w=v then 1 else f v) (λv=>by split<;>first|exact h v|exact hM);simp only[jl,T.names,T.size,aD,aq];lia
 | .st0 _,_,_=>by simp[jl,T.names,T.size]
 | .st1 _ a,_,h=>by have:=jA hM a h;simp only[jl,T.names,T.size];lia
 | .st2 _ a b,_,h=>by have:=jA hM a h;have:=jA hM b h;simp only[jl,T.names,T.size,aD,aq];lia
theorem tZ(hM:1≤M)(t:T)(h:∀v,f v≤M):jl f t≤t.size*M:=by have h1:=jA hM t h;have h2:=t.names_len;obtain⟨k,hk⟩:=Nat.le.dest h2;rw[←hk,aq];have:k≤k*M:=Nat.le_mul_of_pos_right k hM;lia
inductive Pn:List Rw→Nat→Prop where
 | start:Pn [] 1
 | add{R:List Rw}{c:Nat}{r:Rw}:Pn R (c+1)→Pn (R++[r]) (c+r.ar)
theorem Ey(h:Tk ws s Q rs ws')(p:Pn R (c+1)):Pn (R++rs) (c+Q.length):=by
 cases h with
 | plain e=>rw[bL,eE.within,vI,←FC e];exact p.add (r:=.row _ _ _)
 | free e l=>exact p.add (r:=.row _ _ _)
 | called e l=>exact p.add (r:=.row _ _ _)
 | ready e l=>exact p.add (r:=.rdy _ _)
 | handed e l=>rw[aa];exact p
 | lt e _ _ _=>exact p.add (r:=.row _ _ _)
theorem HZ(h:zd S R ws R' ws')(p:Pn R S.length):Pn R' 0:=by
 induction h with
 | nil=>exact p
 | step a _ ih=>refine ih ?_;rw[aD];refine Ey a ?_;rw[aD]at p;exact p
inductive Bd:List Rw→Nat→Prop where
 | nil:Bd [] 0
 | cons{b:List Rw}{c:Nat}{r:Rw}:Bd b (r.ar+c)→Bd (r::b) (c+1)
theorem FA(h:Pn a k):∀{b:List Rw},Bd b k→Bd (a++b) 1:=by
 induction h with
 | start=>exact λh=>h
 | @add R c r _ ih=>intro b h;rw[aV];exact ih (.cons (by rw[cX];exact h))
theorem Hf(h:zd [s] [] ws R' ws'):Bd R' 1:=by have:=FA (HZ h .start) .nil;rwa[aa]at this
theorem yG:∀{a b:List Rw}{n:Nat},Bd (a++b) n→∃c,Bd b c
 | [],b,n,h=>⟨n,h⟩
 | r::a,b,_,.cons h=>yG (a:=a) h
end S9
namespace S9
open PySem SW
def Rf(rd:List (List Rw))(n z:Nat):Prop:=∃R,rd[n]?=some R∧k0 R≤z
theorem Rf.mono(x:List (List Rw)):∀n z,Rf rd n z→Rf (rd++x) n z:=by rintro n z ⟨R,e,h⟩;exact⟨R,by rw[aw (aK.mp e).1];exact e,h⟩
inductive oS:Bool→List (List Rw)→List Str→eE→Mg→List (List Rw)→List Str→Prop where
 | handed{go:Bool}{rd:List (List Rw)}{ws:List Str}{s:eE}:Op s→oS go rd ws s (.handed s.t s.src s.path s.e) rd ws
 | ready{rd:List (List Rw)}{ws ws':List Str}{s:eE}{R:List Rw}:¬Op s→zd [s] [] ws R ws'→oS true rd ws s (.ready rd.length (s.wt 0)) (rd++[R]) ws'
 | late{rd:List (List Rw)}{ws:List Str}{s:eE}:¬Op s→oS false rd ws s (.ready rd.length (s.wt 0)) (rd++[[]]) ws
inductive tT(bo:Bo)(go:Bool)(rd:List (List Rw))(ws:List Str)(s:eE):eE→List (List Rw)→List Str→Prop where
 | star:s.t=.st0 "star"→tT bo go rd ws s ⟨bo.x,"star",[],.nil⟩ rd ws
 | sta{a:T}{m:Mg}{rd1:List (List Rw)}{ws1:List Str}:s.t=.st1 "sta" a→oS go rd ws (s.kid 0 a) m rd1 ws1→tT bo go rd ws s ⟨bo.y,"sta",[],.cons (qw bo.e) m .nil⟩ rd1 ws1
 | st{a b:T}{m n:Mg}{rd1 rd2:List (List Rw)}{ws1 ws2:List Str}:s.t=.st2 "st" a b→oS go rd ws (s.kid 0 a) m rd1 ws1→oS go rd1 ws1 (s.kid 1 b) n rd2 ws2→tT bo go rd ws s ⟨bo.z,"st",[],.cons (qw bo.e) m (.cons (zB bo.e) n .nil)⟩ rd2 ws2
structure ou where
 S:List eE
 R:List Rw
 k:Nat
 ws:List Str
 rd:List (List Rw)
inductive FU(bo:Bo)(F:Nat):ou→ou→Prop where
 | take{S Q:List eE}{s:eE}{R rs:List Rw}{k:Nat}{ws ws':List Str}{rd:List (List Rw)}:Tk ws s Q rs ws'→FU bo F ⟨S++[s],R,k,ws,rd⟩ ⟨S++Q,R++rs,k,ws',rd⟩
 | opn{S:List eE}{s s':eE}{R:List Rw}{k:Nat}{ws ws':List Str}{rd rd':List (List Rw)}:tT bo (decide (k+1≤F)) rd ws s s' rd' ws'→FU bo F ⟨S++[s],R,k,ws,rd⟩ ⟨S++[s'],R,k+1,ws',rd'⟩
def oQ(rd:List (List Rw)):Prop:=∀i R,rd[i]?=some R→Bd R 1∧∀r∈R,r.ok (Rf (rd.take i))
theorem oQ.add(h:oQ rd)(b:Bd R 1)(o:∀r∈R,r.ok (Rf rd)):oQ (rd++[R]):=by
 intro i R' e;rcases bK i rd.length with hi|hi
 ·rw[aw hi]at e;rw[dH (bN hi)];exact h i R' e
 ·rw[bJ hi]at e;have:i-rd.length=0:=by
   cases hq:i-rd.length with
   | zero=>rfl
   | succ n=>rw[hq]at e;simp at e
  rw[this]at e;cases e;have:i=rd.length:=by lia
  subst this;rw[ce];exact⟨b,o⟩
theorem sW(h:oS go rd ws s m rd' ws')(o:s.ok (Rf rd)):
  ∃x,rd'=rd++x∧x.length≤1∧m.ok (Rf rd')∧m.wt 1≤s.wt 1+1∧m.wt 0=s.wt 0∧(go=true→oQ rd→oQ rd'):=by
 cases h with
 | handed p=>exact⟨[],(aa _).symm,aS _,⟨o.1,o.2⟩,by simp only[Mg.wt,eE.wt];lia,by simp only[Mg.wt,eE.wt];lia,λ_ z=>z⟩
 | @ready _ _ _ _ R p r=>
  have hw:k0 R=s.wt 0:=by rw[vX r,gu,jY];lia
  refine⟨[R],rfl,aC _,⟨wt_pos o,R,by simp,by lia⟩,?_,rfl,λ_ z=>z.add (Hf r) (vY r ?_ ?_)⟩
  ·have:=wt01 s;simp only[Mg.wt];lia
  ·intro x hx;rw[aG]at hx;exact hx▸o
  ·intro x hx;cases hx
 | late p=>refine⟨[[]],rfl,aC _,⟨wt_pos o,[],by simp,by rw[jY];exact aS _⟩,?_,rfl,λz=>by cases z⟩;have:=wt01 s;simp only[Mg.wt];lia
structure tV(bo:Bo):Prop where
 a:BT bo.x [] 2
 b:BT bo.y [] 2
 c:BT bo.z [] 2
theorem BT.less(h:BT t p n)(hm:m≤n):BT t p m:=⟨h.1,h.2.1,by have:=h.2.2.1;lia,h.2.2.2⟩
theorem EE(B:tV bo)(h:tT bo go rd ws s s' rd' ws')(o:s.ok (Rf rd)):
  ∃x,rd'=rd++x∧x.length≤2∧s'.ok (Rf rd')∧s'.wt 1≤900*s.wt 1∧(go=true→oQ rd→oQ rd'):=by
 have hp:=wt_pos (h:=1) o;have big:∀(t:T)(f:Str→Nat),t.size≤900→(∀v,f v≤s.wt 1)→jl f t≤900*s.wt 1:=λt f ht hf=>
  aY (tZ hp t hf) (bV _ ht)
 cases h with
 | star e=>exact⟨[],(aa _).symm,aS _,⟨B.a.less (by simp[En.len]),aI⟩,big _ _ B.a.2.2.2.1 λv=>hp,λ_ z=>z⟩
 | @sta a m _ _ e h1=>
  have ok1:(s.kid 0 a).ok (Rf rd):=kE o (by rw[e];simp[T.kids]);obtain⟨x,rfl,hx,mo,mw,_,mr⟩:=sW h1 ok1;have ew:s.wt 1=1+(s.kid 0 a).wt 1:=by unfold eE.wt;rw[e];rfl
  refine⟨x,rfl,by lia,⟨B.b.less (by simp[En.len]),mo,aI,rfl⟩,big _ _ B.b.2.2.2.1 λv=>?_,mr⟩;simp only[En.fw];split<;>lia
 | @st a b m n rd1 rd2 ws1 ws2 e h1 h2=>
  have ok1:(s.kid 0 a).ok (Rf rd):=kE o (by rw[e];simp[T.kids]);have ok2:(s.kid 1 b).ok (Rf rd):=kE o (by rw[e];simp[T.kids]);obtain⟨x,rfl,hx,mo,mw,_,mr⟩:=sW h1 ok1;obtain⟨y,rfl,hy,no,nw,_,nr⟩:=sW h2 (eE.ok_mono (Rf.mono x) ok2);have ew:s.wt 1=1+(s.kid 0 a).wt 1+(s.kid 1 b).wt 1:=by unfold eE.wt;rw[e];rfl
  refine⟨x++y,aV _ _ _,by rw[aD];lia,⟨B.c.less (by simp[En.len]),Mg.ok_mono (Rf.mono y) mo,⟨no,aI,rfl⟩,if_neg (D5 bo.e).symm⟩,big _ _ B.c.2.2.2.1 λv=>?_,λz1 z2=>nr z1 (mr z1 z2)⟩;simp only[En.fw];split
  ·lia
  ·split<;>lia
structure eV(F n0:Nat)(st:ou):Prop where
 so:∀s∈st.S,s.ok (Rf st.rd)
 ro:∀r∈st.R,r.ok (Rf st.rd)
 pn:Pn st.R st.S.length
 rk:st.k≤F→oQ st.rd
 mw:la 1 st.S≤n0*900^st.k
 dl:st.rd.length≤2*st.k
theorem xP(B:tV bo)(h:FU bo F st st')(I:eV F n0 st):eV F n0 st':=by
 cases h with
 | @take S Q s R rs k ws ws' rd a=>
  have os:=I.so s (aO _ (.head _));have h2:=AF a os;have hm:=AG a os;have mw:=I.mw;have pn:=I.pn;simp only[gD,gu]at mw;refine⟨λx hx=>?_,λr hr=>?_,?_,I.rk,?_,I.dl⟩
  ·rcases aU.mp hx with z|z
   ·exact I.so x (af _ z)
   ·exact h2.1 x z
  ·rcases aU.mp hr with z|z
   ·exact I.ro r z
   ·exact h2.2 r z
  ·simp only[aD]at pn⊢;exact Ey a pn
  ·show la 1 (S++Q)≤n0*900^k;rw[gD];lia
 | @opn S s s' R k ws ws' rd rd' a=>
  have os:=I.so s (aO _ (.head _));obtain⟨x,rfl,hx,ok',hw,hr⟩:=EE B a os;have mw:=I.mw;have pn:=I.pn;have dl:=I.dl;simp only[gD,gu]at mw;refine⟨λy hy=>?_,λr hr=>Rw.ok_mono (Rf.mono x) (I.ro r hr),?_,λhk=>?_,?_,?_⟩
  ·rcases aU.mp hy with z|z
   ·exact eE.ok_mono (Rf.mono x) (I.so y (af _ z))
   ·rw[aG]at z;exact z▸ok'
  ·simp only[aD,bA]at pn⊢;exact pn
  ·exact hr (decide_eq_true hk) (I.rk (Nat.le_of_succ_le hk))
  ·show la 1 (S++[s'])≤n0*900^(k+1);rw[gD,gu,ca,←Nat.mul_assoc];generalize n0*900^k=y at *;lia
  ·simp only[aD]at dl⊢;lia
def mu(F n0:Nat)(st:ou):Nat:=(F+1-st.k)*(n0*900^(F+1)+1)+la 1 st.S
theorem HW(B:tV bo)(h:FU bo F st st')(I:eV F n0 st)(hk:st.k≤F):mu F n0 st'<mu F n0 st:=by
 have I':=xP B h I;cases h with
 | @take S Q s R rs k ws ws' rd a=>have os:=I.so s (aO _ (.head _));have hm:=AG a os;unfold mu;simp only[gD,gu];lia
 | @opn S s s' R k ws ws' rd rd' a=>
  have mw:=I'.mw;have hk:k≤F:=hk;unfold mu;simp only at mw⊢;have hp:n0*900^(k+1)≤n0*900^(F+1):=Nat.mul_le_mul_left _ (Nat.pow_le_pow_right (by decide) (by lia));have e:F+1-k=(F+1-(k+1))+1:=by lia
  rw[e,aq,bu];generalize (F+1-(k+1))*(n0*900^(F+1)+1)=y at *;generalize n0*900^(F+1)=z at *;generalize n0*900^(k+1)=z2 at *;lia
inductive tX(bo:Bo)(F:Nat)(st0:ou):ou→Prop where
 | refl:tX bo F st0 st0
 | step{st st':ou}:tX bo F st0 st→st.k≤F→FU bo F st st'→tX bo F st0 st'
theorem pH(B:tV bo)(h:tX bo F st0 st)(I:eV F n0 st0):eV F n0 st:=by
 induction h with
 | refl=>exact I
 | step _ _ a ih=>exact xP B a ih
def vw:Hd→List T→T
 | .num n,_=>.num n
 | .name w,_=>.name w
 | .sum,[a,b]=>.sum a b
 | .less,[a,b]=>.less a b
 | .cho,[a,b,c]=>.cho a b c
 | .lt w,[a,b]=>.lt w a b
 | _,_=>.num 0
def ye(W:List T)(m:List T):Rw→List T
 | .row h _ _=>vw h (m.take h.ar)::m.drop h.ar
 | .rdy n _=>(W[n]?.getD (.num 0))::m
def mH(W:List T):List Rw→List T
 | []=>[]
 | r::b=>ye W (mH W b) r
theorem pR:∀{b:List Rw}{c:Nat},Bd b c→(mH W b).length=c
 | _,_,.nil=>rfl
 | r::b,_,.cons h=>by
  have ih:=pR (W:=W) h;cases r with
  | row hd src path=>simp only[mH,ye,aE,ah,ih,Rw.ar];lia
  | rdy n z=>simp only[mH,ye,aE,ih,Rw.ar];lia
theorem Bn(hl:ts.length=h.ar):(vw h ts).size=1+eu ts:=by
 cases h with
 | num n=>cases ts with
  | nil=>rfl
  | cons=>simp[Hd.ar]at hl
 | name n=>cases ts with
  | nil=>rfl
  | cons=>simp[Hd.ar]at hl
 | sum=>match ts,hl with
  | [a,b],_=>simp[vw,T.size,eu];lia
 | less=>match ts,hl with
  | [a,b],_=>simp[vw,T.size,eu];lia
 | cho=>match ts,hl with
  | [a,b,c],_=>simp[vw,T.size,eu];lia
 | lt w=>match ts,hl with
  | [a,b],_=>simp[vw,T.size,eu];lia
theorem ES(hn:∀t∈ts,¬oP t):¬oP (vw h ts):=by
 unfold vw;split
 ·exact not_false
 ·exact not_false
 ·rintro(z|z)<;>exact hn _ (by simp) z
 ·rintro(z|z)<;>exact hn _ (by simp) z
 ·rintro(z|z|z)<;>exact hn _ (by simp) z
 ·rintro(z|z)<;>exact hn _ (by simp) z
 ·exact not_false
def Nq(W:List T)(n z:Nat):Prop:=∃t,W[n]?=some t∧t.size≤z∧¬oP t
theorem ux:∀{b:List Rw}{c:Nat},Bd b c→(∀r∈b,r.ok (Nq W))→eu (mH W b)≤k0 b∧∀t∈mH W b,¬oP t
 | _,_,.nil,_=>⟨aC _,λt ht=>by cases ht⟩
 | r::b,_,.cons h,o=>by
  have ih:=ux (W:=W) h λx hx=>o x (.tail _ hx);have hl:=pR (W:=W) h;cases r with
  | row hd src path=>
   have e:(vw hd ((mH W b).take hd.ar)).size=1+eu ((mH W b).take hd.ar):=Bn (by rw[aj,hl];simp only[Rw.ar];lia);have e2:eu ((mH W b).take hd.ar)+eu ((mH W b).drop hd.ar)=eu (mH W b):=by rw[←fC,cF]
   refine⟨?_,λt ht=>?_⟩
   ·simp only[mH,ye,fm,jP,Rw.wt,e];lia
   ·rcases aB.mp ht with rfl|ht
    ·exact ES λt ht=>ih.2 t (dI ht)
    ·exact ih.2 t (List.mem_of_mem_drop ht)
  | rdy n z=>
   obtain⟨h1,t,e,h2,h3⟩:=o _ (.head _);refine⟨?_,λu hu=>?_⟩
   ·simp only[mH,ye,fm,jP,Rw.wt,e,bw];lia
   ·simp only[mH,ye,e,bw]at hu;rcases aB.mp hu with rfl|hu
    ·exact h3
    ·exact ih.2 u hu
abbrev kx:=Str×List Nat
def io(W:List (List kx)):List Rw→List kx
 | []=>[]
 | .row _ s p::b=>(s,p)::io W b
 | .rdy n _::b=>(W[n]?.getD [])++io W b
theorem hG(W:List (List kx)):∀a b:List Rw,io W (a++b)=io W a++io W b
 | [],_=>rfl
 | .row _ s p::a,b=>by simp only[aL,io,hG W a b]
 | .rdy n _::a,b=>by simp only[aL,io,hG W a b,aV]
def Mt(W:List (List kx))(n z:Nat):Prop:=∃t,W[n]?=some t∧t.length≤z
theorem mY:∀{b:List Rw},(∀r∈b,r.ok (Mt W))→(io W b).length≤k0 b
 | [],_=>aC _
 | .row _ s p::b,o=>by have:=mY (W:=W) (b:=b) λx hx=>o x (.tail _ hx);simp only[io,aE,jP,Rw.wt];lia
 | .rdy n z::b,o=>by have:=mY (W:=W) (b:=b) λx hx=>o x (.tail _ hx);obtain⟨h1,t,e,h2⟩:=o _ (.head _);simp only[io,aD,e,bw,jP,Rw.wt];lia
structure Cd(st:ou):Prop where
 k:st.k≤400000
 wt:la 0 st.S+k0 st.R≤1000000
 ws:st.ws.length≤1000000
 rd:∀R∈st.rd,k0 R≤1000000
def k6(rd:List (List Rw)):Nat:=(rd.map k0).sum
def mN(rd:List (List Rw)):Nat:=(rd.map List.length).sum
theorem jr(a b:List (List Rw)):k6 (a++b)=k6 a+k6 b:=by simp[k6]
theorem jt(a b:List (List Rw)):mN (a++b)=mN a+mN b:=by simp[mN]
theorem uH:∀{rd:List (List Rw)},R∈rd→k0 R≤k6 rd
 | x::rd,h=>by
  have e:k6 (x::rd)=k0 x+k6 rd:=by simp[k6]
  rcases aB.mp h with rfl|h
  ·lia
  ·have:=uH h;lia
theorem sV(h:oS true rd ws s m rd' ws')(o:s.ok P):
  ∃x,rd'=rd++x∧k6 x≤s.wt 0∧mN x≤k6 x∧ws'.length≤ws.length+mN x:=by
 cases h with
 | handed p=>exact⟨[],(aa _).symm,aS _,aC _,aC _⟩
 | @ready _ _ _ _ R p r=>
  have hw:k0 R=s.wt 0:=by rw[vX r,gu,jY];lia
  have h2:=A8 r;have h3:=kZ (vY r (P:=P) (λx hx=>by rw[aG]at hx;exact hx▸o) (λx hx=>by cases hx));refine⟨[R],rfl,?_,?_,?_⟩
  ·simp[k6];lia
  ·simp[k6,mN];lia
  ·simp[mN]at h2⊢;lia
theorem KO{n k M:Nat}(h:n≤k):n*M≤k*M:=bV _ h
def st0(t:T)(ws:List Str):ou:=⟨[⟨t,"",[],.nil⟩],[],0,ws,[]⟩
theorem zm(h:Nat)(t:T):(eE.mk t "" [] .nil).wt h≤t.size:=by have:=tZ (aC 1) t (f:=(En.nil).fw h) λv=>aC _;show jl ((En.nil).fw h) t≤_;lia
theorem kX(h:BT t [] 0):eV F t.size (st0 t ws):=by
 refine⟨λs hs=>?_,λr hr=>(nomatch hr),.start,λ_ i R e=>by simp[st0]at e,?_,aC _⟩
 ·have hs:s=⟨t,"",[],.nil⟩:=by simpa[st0]using hs
  subst hs;exact⟨h,aI⟩
 ·show la 1 [⟨t,"",[],.nil⟩]≤t.size*900^0;have:=zm 1 t;rw[gu];lia
end S9
namespace S9
open PySem L2 SW
inductive Al{α:Type}(A:α→V→Prop):List α→List V→Prop where
 | nil:Al A [] []
 | cons{a:α}{v:V}{as:List α}{vs:List V}:A a v→Al A as vs→Al A (a::as) (v::vs)
section
variable {α:Type}{A B:α→V→Prop}
theorem Al.mono(h:∀a v,A a v→B a v):∀{as:List α}{vs:List V},Al A as vs→Al B as vs
 | _,_,.nil=>.nil
 | _,_,.cons a r=>.cons (h _ _ a) (Al.mono h r)
theorem Al.length:∀{as:List α}{vs:List V},Al A as vs→vs.length=as.length
 | _,_,.nil=>rfl
 | _,_,.cons _ r=>by rw[aE,aE,Al.length r]
theorem Al.append:∀{as bs:List α}{vs us:List V},Al A as vs→Al A bs us→Al A (as++bs) (vs++us)
 | _,_,_,_,.nil,q=>q
 | _,_,_,_,.cons a r,q=>.cons a (Al.append r q)
theorem Al.one(h:A a v):Al A [a] [v]:=.cons h .nil
theorem Al.snoc:∀{as:List α}{vs:List V}{v:V},Al A as (vs++[v])→∃bs b,as=bs++[b]∧Al A bs vs∧A b v
 | _,[],v,.cons a .nil=>⟨[],_,rfl,.nil,a⟩
 | _,x::vs,v,.cons a r=>by obtain⟨us,t,rfl,h1,h2⟩:=Al.snoc (vs:=vs) r;exact⟨_::us,t,rfl,.cons a h1,h2⟩
theorem Al.get:∀{as:List α}{vs:List V}{i:Nat}{v:V},Al A as vs→vs[i]?=some v→∃a,as[i]?=some a∧A a v
 | _,_,0,_,.cons a r,h=>by cases h;exact⟨_,rfl,a⟩
 | _,_,i+1,_,.cons a r,h=>Al.get (i:=i) r h
theorem Al.getA:∀{as:List α}{vs:List V}{i:Nat}{a:α},Al A as vs→as[i]?=some a→∃v,vs[i]?=some v∧A a v
 | _,_,0,_,.cons a r,h=>by cases h;exact⟨_,rfl,a⟩
 | _,_,i+1,_,.cons a r,h=>Al.getA (i:=i) r h
theorem Al.reverse:∀{as:List α}{vs:List V},Al A as vs→Al A as.reverse vs.reverse
 | _,_,.nil=>.nil
 | _,_,.cons a r=>by rw[ao,ao];exact(Al.reverse r).append (.cons a .nil)
end
def mn(l:List Nat):List V:=l.map λi:Nat=>V.int (i:Int)
theorem D3(l:List Nat):(mn l).length=l.length:=aX _
mutual
def ox(tk:Addr→Prop)(H:Hp):Mg→V→Prop
 | .called w,v=>∃p,v=.ref p∧H p=some (.tup [.str "called",.str w])
 | .ready n _,v=>∃p,v=.ref p∧H p=some (.tup [.str "ready",.int (n:Int)])
 | .handed t src path e,v=>∃p q x pp d kvs,v=.ref p∧H p=some (.tup [.str "handed",.ref q])∧H q=some (.tup [x,.str src,.ref pp,.ref d])∧gG H t x∧H pp=some (.tup (mn path))∧tk d∧H d=some (.dK kvs)∧lF tk H e kvs
def lF(tk:Addr→Prop)(H:Hp):En→List (fI×V)→Prop
 | .nil,kvs=>kvs=[]
 | .cons w m e,kvs=>∃v r,kvs=(.inr w,v)::r∧ox tk H m v∧lF tk H e r
end
def iP(tk:Addr→Prop)(H:Hp)(s:eE)(v:V):Prop:=∃q x pp d kvs,v=.ref q∧H q=some (.tup [x,.str s.src,.ref pp,.ref d])∧gG H s.t x∧H pp=some (.tup (mn s.path))∧tk d∧H d=some (.dK kvs)∧lF tk H s.e kvs
def Hd.vs:Hd→List V
 | .num n=>[.str "number",.int n]
 | .name w=>[.str "name",.str w]
 | .sum=>[.str "sum"]
 | .less=>[.str "less"]
 | .cho=>[.str "choose"]
 | .lt w=>[.str "let",.str w]
def lD(H:Hp)(s:kx)(v:V):Prop:=∃q pp,v=.ref q∧H q=some (.tup [.str s.1,.ref pp])∧H pp=some (.tup (mn s.2))
def jV(H:Hp):Rw→V→Prop
 | .row h src path,v=>∃r hp s,v=.ref r∧H r=some (.tup [.str "row",.ref hp,.int (h.ar:Int),s])∧H hp=some (.tup h.vs)∧lD H (src,path) s
 | .rdy n _,v=>∃p,v=.ref p∧H p=some (.tup [.str "ready",.int (n:Int)])
structure Kp(tk:Addr→Prop)(H H':Hp):Prop where
 tup:fO H H'
 dct:∀d kvs,tk d→H d=some (.dK kvs)→H' d=some (.dK kvs)
section
variable {tk:Addr→Prop}{H H' H2:Hp}
theorem Kp.refl:Kp tk H H:=⟨fO.refl,λ_ _ _ h=>h⟩
theorem Kp.trans(a:Kp tk H H')(b:Kp tk H' H2):Kp tk H H2:=⟨a.tup.trans b.tup,λd kvs n h=>b.dct d kvs n (a.dct d kvs n h)⟩
theorem Kp.same(s:dy H H'):Kp tk H H':=⟨dY s,λd kvs _ h=>s _ _ h⟩
theorem Kp.lst(h:H l=some (.lst ys)):Kp tk H (upd H l o):=⟨fL h,λd kvs _ e=>by rw[db (fB e h (by intro z;cases z))];exact e⟩
theorem Kp.ins(h:H l=some (.ins C dx fs)):Kp tk H (upd H l o):=
 ⟨λb xs e=>by rw[db (fB e h (by intro z;cases z))];exact e,λd kvs _ e=>by rw[db (fB e h (by intro z;cases z))];exact e⟩
mutual
theorem ox.mono(k:Kp tk H H'):∀{m:Mg}{v:V},ox tk H m v→ox tk H' m v
 | .called _,_,h=>by obtain⟨p,e,h⟩:=h;exact⟨p,e,k.tup _ _ h⟩
 | .ready _ _,_,h=>by obtain⟨p,e,h⟩:=h;exact⟨p,e,k.tup _ _ h⟩
 | .handed t src path e,_,h=>by obtain⟨p,q,x,pp,d,kvs,h0,h1,h2,h3,h4,h5,h6,h7⟩:=h;exact⟨p,q,x,pp,d,kvs,h0,k.tup _ _ h1,k.tup _ _ h2,h3.mono k.tup,k.tup _ _ h4,h5,k.dct _ _ h5 h6,lF.mono k (e:=e) h7⟩
theorem lF.mono(k:Kp tk H H'):∀{e:En}{kvs:List (fI×V)},lF tk H e kvs→lF tk H' e kvs
 | .nil,_,h=>h
 | .cons w m e,_,h=>by obtain⟨v,r,h0,h1,h2⟩:=h;exact⟨v,r,h0,ox.mono k (m:=m) h1,lF.mono k (e:=e) h2⟩
end
mutual
theorem ox.old(k:∀d o,H d=some o→tk d→tk' d):∀{m:Mg}{v:V},ox tk H m v→ox tk' H m v
 | .called _,_,h=>h
 | .ready _ _,_,h=>h
 | .handed t src path e,_,h=>by obtain⟨p,q,x,pp,d,kvs,h0,h1,h2,h3,h4,h5,h6,h7⟩:=h;exact⟨p,q,x,pp,d,kvs,h0,h1,h2,h3,h4,k _ _ h6 h5,h6,lF.old k (e:=e) h7⟩
theorem lF.old(k:∀d o,H d=some o→tk d→tk' d):∀{e:En}{kvs:List (fI×V)},lF tk H e kvs→lF tk' H e kvs
 | .nil,_,h=>h
 | .cons w m e,_,h=>by obtain⟨v,r,h0,h1,h2⟩:=h;exact⟨v,r,h0,ox.old k (m:=m) h1,lF.old k (e:=e) h2⟩
end
theorem iP.old(k:∀d o,H d=some o→tk d→tk' d)(h:iP tk H s v):iP tk' H s v:=by obtain⟨q,x,pp,d,kvs,h0,h2,h3,h4,h5,h6,h7⟩:=h;exact⟨q,x,pp,d,kvs,h0,h2,h3,h4,k _ _ h6 h5,h6,h7.old k⟩
theorem iP.mono(k:Kp tk H H')(h:iP tk H s v):iP tk H' s v:=by obtain⟨q,x,pp,d,kvs,h0,h2,h3,h4,h5,h6,h7⟩:=h;exact⟨q,x,pp,d,kvs,h0,k.tup _ _ h2,h3.mono k.tup,k.tup _ _ h4,h5,k.dct _ _ h5 h6,h7.mono k⟩
theorem lD.mono(k:fO H H')(h:lD H s v):lD H' s v:=by obtain⟨q,pp,h0,h1,h2⟩:=h;exact⟨q,pp,h0,k _ _ h1,k _ _ h2⟩
theorem jV.mono(k:fO H H'):∀{r:Rw}{v:V},jV H r v→jV H' r v
 | .row _ _ _,_,h=>by obtain⟨r,hp,s,h0,h1,h2,h3⟩:=h;exact⟨r,hp,s,h0,k _ _ h1,k _ _ h2,h3.mono k⟩
 | .rdy _ _,_,h=>by obtain⟨p,e,h⟩:=h;exact⟨p,e,k _ _ h⟩
theorem wL:∀{e:En}{kvs:List (fI×V)},lF tk H e kvs→kvs.length=e.len
 | .nil,_,h=>by subst h;rfl
 | .cons w m e,_,h=>by obtain⟨v,r,rfl,_,h2⟩:=h;rw[aE,En.len,wL (e:=e) h2]
theorem su(w:Str):∀{e:En}{kvs:List (fI×V)},lF tk H e kvs→(e.look w=none∧fP kvs (.inr w)=none)∨∃m v,e.look w=some m∧fP kvs (.inr w)=some v∧ox tk H m v
 | .nil,_,h=>by subst h;exact .inl ⟨rfl,rfl⟩
 | .cons y m e,_,h=>by
  obtain⟨v,r,rfl,h1,h2⟩:=h;by_cases hy:y=w
  ·subst hy;exact .inr ⟨m,v,by simp only[En.look,if_true],fu rfl,h1⟩
  ·have e1:En.look (.cons y m e) w=e.look w:=by simp only[En.look,if_neg hy]
   have e2:fP (((.inr y,v):fI×V)::r) (.inr w)=fP r (.inr w):=fz λz=>hy (Sum.inr.inj z);rw[e1,e2];exact su w (e:=e) h2
theorem y8(nd:y=w→fP r (.inr w)=none):gA (((.inr y,v):fI×V)::r) (.inr w) x=if y=w then(.inr y,x)::r else(.inr y,v)::gA r (.inr w) x:=by
 by_cases hy:y=w
 ·subst hy;rw[if_pos rfl];have h0:=jQ (.inr y:fI) r;rw[nd rfl]at h0;have h1:∀p∈r,¬p.1=(.inr y:fI):=by intro p hp z;have:(r.any λkv=>decide (kv.1=(.inr y:fI)))=true:=cY.mpr ⟨p,hp,decide_eq_true z⟩;rw[h0]at this;cases this
  unfold gA;rw[if_pos (by simp),aW,if_pos rfl]
  congr 1
  refine(dD λp hp=>if_neg (h1 p hp)).trans (List.map_id' r)
 ·rw[if_neg hy];have hy2:¬(Sum.inr y:fI)=.inr w:=λz=>hy (Sum.inr.inj z);unfold gA;rw[bZ,decide_eq_false hy2,Bool.false_or];split
  ·rw[aW,if_neg hy2]
  ·rfl
end
abbrev Nk(a:Addr):Addr→Prop:=λd=>d≠a
def En.nd:En→Prop
 | .nil=>True
 | .cons w _ e=>e.look w=none∧e.nd
theorem FE:∀{e:En},e.ok P→e.nd
 | .nil,_=>aI
 | .cons _ _ e,h=>⟨h.2.2,FE (e:=e) h.2.1⟩
theorem Bm:∀{e:En},e.nd→(e.put w n).nd
 | .nil,_=>⟨rfl,aI⟩
 | .cons y m e,h=>by
  unfold En.put;split
  ·exact h
  ·rename_i hy;refine⟨?_,Bm (e:=e) h.2⟩;rw[En.look_put,if_neg (λz=>hy z.symm)];exact h.1
theorem wK(hn:ox tk H n x):∀{e:En}{kvs:List (fI×V)},e.nd→lF tk H e kvs→lF tk H (e.put w n) (gA kvs (.inr w) x)
 | .nil,_,_,h=>by have h:_=[]:=h;subst h;exact⟨x,[],rfl,hn,rfl⟩
 | .cons y m e,_,nd,h=>by
  obtain⟨v,r,rfl,h1,h2⟩:=h;have hnone:y=w→fP r (.inr w)=none:=λz=>by
   subst z;rcases su y h2 with⟨_,e2⟩|⟨m',v',e1,_⟩
   ·exact e2
   ·have:=nd.1;rw[e1]at this;cases this
  rw[y8 hnone];unfold En.put;by_cases hy:y=w
  ·rw[if_pos hy,if_pos hy];exact⟨x,r,rfl,hn,h2⟩
  ·rw[if_neg hy,if_neg hy];exact⟨v,_,rfl,h1,wK hn (e:=e) nd.2 h2⟩
structure RO(K:aA)(C:Addr):Prop where
 cl:wb K C
 nS:i6 K C "stamps"
 nL:i6 K C "lets"
 nF:i6 K C "fuel"
 nM:i6 K C "many"
 nR:i6 K C "ready"
def lh(sd lp:Addr)(F k:Nat)(yl:Addr):List (Str×V):=[("stamps",.ref sd),("lets",.ref lp),("fuel",.int (F:Int)),("many",.int (k:Int)),("ready",.ref yl)]
section
variable {sd lp yl:Addr}{F k:Nat}
theorem nj:(lh sd lp F k yl).lookup ("stamps":Str)=some (.ref sd):=by
 have e1:(("stamps":Str)=="stamps")=true:=by decide
 simp only[lh,List.lookup,e1]
theorem EO:(lh sd lp F k yl).lookup ("lets":Str)=some (.ref lp):=by
 have e1:(("lets":Str)=="stamps")=false:=by decide
 have e2:(("lets":Str)=="lets")=true:=by decide
 simp only[lh,List.lookup,e1,e2]
theorem sT:(lh sd lp F k yl).lookup ("fuel":Str)=some (.int (F:Int)):=by
 have e1:(("fuel":Str)=="stamps")=false:=by decide
 have e2:(("fuel":Str)=="lets")=false:=by decide
 have e3:(("fuel":Str)=="fuel")=true:=by decide
 simp only[lh,List.lookup,e1,e2,e3]
theorem lj:(lh sd lp F k yl).lookup ("many":Str)=some (.int (k:Int)):=by
 have e1:(("many":Str)=="stamps")=false:=by decide
 have e2:(("many":Str)=="lets")=false:=by decide
 have e3:(("many":Str)=="fuel")=false:=by decide
 have e4:(("many":Str)=="many")=true:=by decide
 simp only[lh,List.lookup,e1,e2,e3,e4]
theorem qP:(lh sd lp F k yl).lookup ("ready":Str)=some (.ref yl):=by
 have e1:(("ready":Str)=="stamps")=false:=by decide
 have e2:(("ready":Str)=="lets")=false:=by decide
 have e3:(("ready":Str)=="fuel")=false:=by decide
 have e4:(("ready":Str)=="many")=false:=by decide
 have e5:(("ready":Str)=="ready")=true:=by decide
 simp only[lh,List.lookup,e1,e2,e3,e4,e5]
theorem my{m:Str}(e1:(m=="stamps")=false:=by decide)(e2:(m=="lets")=false:=by decide)(e3:(m=="fuel")=false:=by decide)(e4:(m=="many")=false:=by decide)(e5:(m=="ready")=false:=by decide):(lh sd lp F k yl).lookup m=none:=by simp only[lh,List.lookup,e1,e2,e3,e4,e5]
theorem Nd:¬(("stamps":Str)="many"):=by decide
theorem Nf:¬(("lets":Str)="many"):=by decide
theorem Ng:¬(("fuel":Str)="many"):=by decide
theorem IE{z:Int}{j:Nat}(h:z=(j:Int)):iG "many" (.int z) (lh sd lp F k yl)=lh sd lp F j yl:=by subst h;simp only[lh,iG,if_neg Nd,if_neg Nf,if_neg Ng,if_true]
theorem IF:(lh sd lp F k yl).length<1000:=by show 5<1000;decide
end
structure Ad where
 op:Addr
 dx:Addr
 sd:Addr
 lp:Addr
 lx:Addr
 tk:Addr
 yl:Addr
 v1:V
 v2:V
 v3:V
def Co(N:Addr→Prop)(H:Hp)(w:Str)(ps:List Str)(t:T)(v:V):Prop:=∃p l x,v=.ref p∧H p=some (.tup [.str w,.ref l,x])∧H l=some (.lst (ps.map V.str))∧N l∧gG H t x
def tQ(N:Addr→Prop)(H:Hp)(R:List Rw)(u:V):Prop:=∃l vs,u=.ref l∧N l∧H l=some (.lst vs)∧Al (jV H) R vs
structure ff(C D:Addr)(A:Ad)(bo:Bo)(F:Nat)(N:Addr→Prop)(k:Nat)(ws:List Str)(rd:List (List Rw))(H:Hp):Prop where
 ob:H A.op=some (.ins C A.dx (lh A.sd A.lp F k A.yl))
 fw:∃n,FW D H A.lp A.lx A.tk n ws∧n+cnt n ws≤ws.length
 sd:H A.sd=some (.dK (zJ A.v1 A.v2 A.v3))
 st:A.sd≠A.tk
 s1:Co N H "star" [] bo.x A.v1
 s2:Co N H "sta" [qw bo.e] bo.y A.v2
 s3:Co N H "st" [qw bo.e,zB bo.e] bo.z A.v3
 yl:∃us,H A.yl=some (.lst us)∧Al (tQ N H) rd us
def Ex(l:List Addr)(H H':Hp):Prop:=∀b o,b∉l→H b=some o→H' b=some o
theorem Ex.refl:Ex l H H:=λ_ _ _ h=>h
theorem Ex.trans(a:Ex l H H1)(b:Ex l H1 H2):Ex l H H2:=λc o n h=>b c o n (a c o n h)
theorem Ex.same(s:dy H H1):Ex l H H1:=λc o _ h=>s c o h
theorem Ex.more(h:∀a∈l,a∈l')(e:Ex l H H1):Ex l' H H1:=λc o n z=>e c o (λq=>n (h c q)) z
theorem Ex.upd(h:a∈l):Ex l H (upd H a o):=λc u n z=>by rw[db (λe=>n (by rw[e];exact h))];exact z
theorem Ex.new(h:∀a∈l',a∈l∨H a=none)(e:Ex l' H H1):Ex l H H1:=λc o n z=>e c o (λq=>(h c q).elim n λq2=>by rw[q2]at z;cases z) z
section
variable {C D:Addr}{A:Ad}{bo:Bo}{F k:Nat}{N N':Addr→Prop}{ws:List Str}{rd:List (List Rw)}{H H':Hp}
theorem Co.mono(hN:∀a,N a→N' a)(ht:fO H H')(hl:∀l xs,N l→H l=some (.lst xs)→H' l=some (.lst xs))(h:Co N H w ps t v):Co N' H' w ps t v:=by obtain⟨p,l,x,e,h1,h2,h3,h4⟩:=h;exact⟨p,l,x,e,ht _ _ h1,hl _ _ h3 h2,hN _ h3,h4.mono ht⟩
theorem tQ.mono(hN:∀a,N a→N' a)(ht:fO H H')(hl:∀l xs,N l→H l=some (.lst xs)→H' l=some (.lst xs))(h:tQ N H R u):tQ N' H' R u:=by obtain⟨l,vs,e,h1,h2,h3⟩:=h;exact⟨l,vs,e,hN _ h1,hl _ _ h1 h2,h3.mono λ_ _=>jV.mono ht⟩
theorem ff.nOL(O:ff C D A bo F N k ws rd H):A.op≠A.lp:=by obtain⟨n,f,_⟩:=O.fw;exact fB O.ob f.ob (by intro z;injection z with _ _ z;simp[lh,wf]at z)
theorem ff.nOT(O:ff C D A bo F N k ws rd H):A.op≠A.tk:=by obtain⟨n,f,_⟩:=O.fw;exact fB O.ob f.dk (by intro z;cases z)
theorem ff.nOY(O:ff C D A bo F N k ws rd H):A.op≠A.yl:=by obtain⟨n,f,_⟩:=O.yl;exact fB O.ob f (by intro z;cases z)
theorem ff.ex(O:ff C D A bo F N k ws rd H)(e:Ex l H H')(h1:A.op∉l)(h2:A.lp∉l)(h3:A.tk∉l)(h4:A.sd∉l)(h5:A.yl∉l)(ht:fO H H')(hl:∀a,N a→a∉l):ff C D A bo F N k ws rd H':=by have hL:∀l xs,N l→H l=some (.lst xs)→H' l=some (.lst xs):=λa xs n z=>e _ _ (hl a n) z;obtain⟨n,f,c⟩:=O.fw;obtain⟨us,y1,y2⟩:=O.yl;exact⟨e _ _ h1 O.ob,⟨n,⟨e _ _ h2 f.ob,e _ _ h3 f.dk⟩,c⟩,e _ _ h4 O.sd,O.st,O.s1.mono (λ_ z=>z) ht hL,O.s2.mono (λ_ z=>z) ht hL,O.s3.mono (λ_ z=>z) ht hL,us,e _ _ h5 y1,y2.mono λ_ _=>tQ.mono (λ_ z=>z) ht hL⟩
theorem ff.same(O:ff C D A bo F N k ws rd H)(s:dy H H'):ff C D A bo F N k ws rd H':=
 O.ex (l:=[]) (Ex.same s) (by simp) (by simp) (by simp) (by simp) (by simp) (dY s) (by simp)
theorem ff.lst(O:ff C D A bo F N k ws rd H)(h:H l=some (.lst xs))(ny:l≠A.yl)(nl:∀a,N a→a≠l):ff C D A bo F N k ws rd (upd H l o):=by
 obtain⟨n,f,_⟩:=O.fw;refine O.ex (l:=[l]) (Ex.upd (aG.mpr rfl)) ?_ ?_ ?_ ?_ ?_ (fL h) (λa z q=>nl a z (aG.mp q))
 ·exact λq=>fB O.ob h (by intro z;cases z) (aG.mp q)
 ·exact λq=>fB f.ob h (by intro z;cases z) (aG.mp q)
 ·exact λq=>fB f.dk h (by intro z;cases z) (aG.mp q)
 ·exact λq=>fB O.sd h (by intro z;cases z) (aG.mp q)
 ·exact λq=>ny (aG.mp q).symm
theorem ff.weak(O:ff C D A bo F N k ws rd H)(h:∀a o,H a=some o→N a→N' a):ff C D A bo F N' k ws rd H:=by have hS:∀{w:Str}{ps:List Str}{t:T}{v:V},Co N H w ps t v→Co N' H w ps t v:=λ⟨p,l,x,e,h1,h2,h3,h4⟩=>⟨p,l,x,e,h1,h2,h _ _ h2 h3,h4⟩;obtain⟨us,y1,y2⟩:=O.yl;exact⟨O.ob,O.fw,O.sd,O.st,hS O.s1,hS O.s2,hS O.s3,us,y1,y2.mono λR u ⟨l,vs,e,h1,h2,h3⟩=>⟨l,vs,e,h _ _ h2 h1,h2,h3⟩⟩
theorem ff.kp(O:ff C D A bo F N k ws rd H)(e:Ex l H H')(h:∀a∈l,a=A.tk∨(∃xs,H a=some (.lst xs))∨(∃C dx fs,H a=some (.ins C dx fs))):Kp (Nk A.tk) H H':=by
 obtain⟨n,f,_⟩:=O.fw;refine⟨λb xs z=>e _ _ (λq=>?_) z,λd kvs nd z=>e _ _ (λq=>?_) z⟩
 ·rcases h b q with rfl|⟨_,w⟩|⟨_,_,_,w⟩
  ·rw[f.dk]at z;cases z
  ·rw[w]at z;cases z
  ·rw[w]at z;cases z
 ·rcases h d q with rfl|⟨_,w⟩|⟨_,_,_,w⟩
  ·exact nd rfl
  ·rw[w]at z;cases z
  ·rw[w]at z;cases z
theorem ff.word(O:ff C D A bo F N k ws rd H)(e:Ci A.lp A.tk H H')(f':FW D H' A.lp A.lx A.tk n' ws')(c:n'+cnt n' ws'≤ws'.length):ff C D A bo F N k ws' rd H':=by
 obtain⟨n,f,_⟩:=O.fw;have ex:Ex [A.lp,A.tk] H H':=λb o nb z=>e b o (λq=>nb (by simp[q])) (λq=>nb (by simp[q])) z;have kp:Kp (Nk A.tk) H H':=O.kp ex (λa ha=>by
  rcases aB.mp ha with rfl|ha
  ·exact .inr (.inr ⟨_,_,_,f.ob⟩)
  ·exact .inl (aG.mp ha))
 have hL:∀l xs,N l→H l=some (.lst xs)→H' l=some (.lst xs):=λa xs n z=>e _ _ (fB z f.ob (by intro z;cases z)) (fB z f.dk (by intro z;cases z)) z;obtain⟨us,y1,y2⟩:=O.yl;exact⟨e _ _ O.nOL O.nOT O.ob,⟨n',f',c⟩,e _ _ (fB O.sd f.ob (by intro z;cases z)) O.st O.sd,O.st,O.s1.mono (λ_ z=>z) kp.tup hL,O.s2.mono (λ_ z=>z) kp.tup hL,O.s3.mono (λ_ z=>z) kp.tup hL,us,e _ _ (fB y1 f.ob (by intro z;cases z)) (fB y1 f.dk (by intro z;cases z)) y1,y2.mono λ_ _=>tQ.mono (λ_ z=>z) kp.tup hL⟩
end
structure Fc(tk:Addr→Prop)(wl rl:Addr)(wus rus:List V)(P:List eE)(rs:List Rw)(H':Hp):Prop where
 w:∃pus,H' wl=some (.lst (wus++pus))∧Al (iP tk H') P pus
 r:∃rvs,H' rl=some (.lst (rus++rvs))∧Al (jV H') rs rvs
structure yJ(A:Ad)(N:Addr→Prop)(H:Hp):Prop where
 y:∀a,N a→a≠A.yl
 f:∀a,H a=none→N a
end S9
namespace S9
open PySem L2 SW
variable {K:aA}{vs:List V}{H:Hp}{Q:VK}{E:XK}{N C D:Addr}
theorem Ef(ha:H a=some (.tup xs))(hb:H b=some (.tup ys))(hl:xs.length+ys.length≤sizeLine)(hy:ys≠[])(k:∀r H',dy H H'→H' r=some (.tup (xs++ys))→Q (.ref r) H'):qN K (.ref a) (.ref b) H Q:=
 ⟨eA.of ha,eA.of hb,hl,λe=>k b H (dy.refl _) (by rw[e];exact hb),λ_ z=>absurd z hy,λ_ _ p hp=>k p _ (dR hp) dO⟩
theorem kb(s:eE):s.within.length=s.t.kids.length:=vI s _ 0
theorem zp(s:eE):∀(ts:List T)(j i:Nat)(t:T),ts[i]?=some t→(wi s j ts)[i]?=some (s.kid (j+i) t)
 | [],j,i,t,h=>by simp at h
 | u::ts,j,0,t,h=>by cases h;rfl
 | u::ts,j,i+1,t,h=>by have:=zp s ts (j+1) i t h;rw[show j+(i+1)=j+1+i by lia];exact this
theorem pW{s:eE}{i:Nat}{t:T}(h:s.t.kids[i]?=some t):s.within[i]?=some (s.kid i t):=by have:=zp s _ 0 i t h;rwa[br]at this
theorem ut:∀{ts:List T}{us:List V}{i:Nat}{u:V},gC H ts us→us[i]?=some u→∃t,ts[i]?=some t∧gG H t u
 | _,_,0,_,.cons a r,h=>by cases h;exact⟨_,rfl,a⟩
 | _,_,i+1,_,.cons a r,h=>ut (i:=i) r h
theorem Bw(t:T):t.kids.length≤3:=by cases t<;>simp[T.kids]
theorem BQ(l:List Nat)(i:Nat):mn (l++[i])=mn l++[V.int (i:Int)]:=by simp[mn]
def iu:Sp:=λvs H Q _=>∃(tk:Addr→Prop)(s:eE)(u:V),vs=[u]∧iP tk H s u∧s.path.length≤1000∧∀(l:Addr)(us:List V)(H':Hp),dy H H'→H l=none→H' l=some (.lst us)→Al (iP tk H') s.within us→Q (.ref l) H'
def Lc(K:aA):TS:=(fT (Ja (FN K (eN iw [] E0 (dM (dz (eC K) (dN 0) (tC (.int 0))) dW))) (lz K 2 (gH (dX 0) (gH (dX 1) mB))) (fJ (dM (dN 1) (dM (dz (eC K) (dN 2) (tC (.int 1))) (dM (dz (qN K) (dz (eC K) (dN 2) (tC (.int 2))) (fJ (dM (dN 0) dW))) (dM (dz (eC K) (dN 2) (tC (.int 3))) dW))))) [0]))
theorem NH(h:iu vs H Q E):Lc K (gf Q) (start ["spot"] vs) H:=by
 obtain⟨tk,s,u,rfl,⟨q,x,pp,d,kvs,rfl,hq,hx,hpp,nd,hd,he⟩,hlen,k⟩:=h;refine⟨eA.of hq,dS (j:=0) rfl,gZ s.t,x,rfl,i8 hx,λpa us H1 s1 g1 dk=>?_⟩;have dk:gC H1 s.t.kids us:=sy (by rw[ul]at dk;exact dk);have hl:=dk.length;have hk3:=Bw s.t;refine⟨eA.of g1,?_⟩;refine⟨λi mm ws H'=>i≤us.length∧mm=us.length-i∧dy H1 H'∧Al (iP tk H') (s.within.take i) ws,⟨_,aS _,rfl,λ_ _ z=>z,.nil⟩,?_⟩;rintro i mm ws H3 ⟨hi,rfl,s3,al⟩;have s13:=s1.trans s3;have hwl:=al.length;rw[aj,kb]at hwl;have g13:=s3 _ _ g1;by_cases hn:i=us.length
 ·refine .inl ⟨⟨us,eA.of g13,by lia⟩,by rw[sizeLine_eq];lia,λl hl'=>?_⟩;rw[bf (by rw[kb];lia)]at al;have s4:=dR (o:=.lst ws) hl';exact k l ws _ (s13.trans s4) (s13.free hl') dO (al.mono λ_ _=>iP.mono (Kp.same s4))
 ·have hlt:i<us.length:=by lia
  obtain⟨xa,hxa⟩:∃xa,us[i]?=some xa:=⟨us[i],aT _⟩;refine .inr ⟨⟨us,xa,eA.of g13,hxa⟩,?_⟩;rintro z H4 ⟨pz,xa',rfl,hpz,rfl,q1⟩ o1 o2;have ea:=q1 us (eA.of g13);rw[hxa]at ea;cases ea;have s4:=dR (o:=.tup [.int (i:Int),xa]) hpz;have g4:(upd H3 pz (.tup [.int (i:Int),xa])) pz=some (.tup [.int (i:Int),xa]):=dO;generalize upd H3 pz (.tup [.int (i:Int),xa])=H4 at s4 g4⊢;have s14:=s13.trans s4;have hq4:=s14 _ _ hq;refine⟨eA.of g4,rfl,rfl,⟨_,_,rfl⟩,?_⟩;refine⟨eA.of hq4,dS (j:=1) rfl,eA.of hq4,dS (j:=2) rfl,fG,eZ λc H5 hc s5 g5=>?_⟩;have s15:=s14.trans s5;refine Ef (s15 _ _ hpp) g5 (by rw[D3,sizeLine_eq];simp;lia) (by simp) λr H6 s6 hr=>?_;have s16:=s15.trans s6;refine⟨eA.of (s16 _ _ hq),dS (j:=3) rfl,fG,λy hy=>?_⟩;have s7:=dR (o:=.tup [xa,.str s.src,.ref r,.ref d]) hy;refine⟨by rw[sizeLine_eq];lia,us.length-(i+1),by lia,hlt,rfl,s3.trans (s4.trans (s5.trans (s6.trans s7))),?_⟩;obtain⟨t,ht,dt⟩:=ut dk hxa;rw[ax,pW ht];have s37:=s4.trans (s5.trans (s6.trans s7));have s17:=s16.trans s7;refine(al.mono λ_ _=>iP.mono (Kp.same s37)).append (.one ⟨y,xa,r,d,kvs,rfl,dO,dt.mono (dY (s3.trans s37)),?_,nd,s17 _ _ hd,he.mono (Kp.same s17)⟩);rw[s7 _ _ hr];show _=some (HO.tup (mn (s.path++[i])));rw[BQ]
theorem jM:∀(t:T)(x:G),wZ x (gZ t)→x.kind="stamp"→oP t
 | .num n,x,h,e=>by
  cases h with
  | refl=>exact absurd e (by simp only[gZ,G.kind];decide)
  | kid hk _=>simp[gZ,G.kids]at hk
 | .name n,x,h,e=>by
  cases h with
  | refl=>exact absurd e (by simp only[gZ,G.kind];decide)
  | kid hk _=>simp[gZ,G.kids]at hk
 | .sum a b,x,h,e=>by
  cases h with
  | refl=>exact absurd e (by simp only[gZ,G.kind];decide)
  | kid hk i=>
   simp only[gZ,G.kids,aB,aF,or_false]at hk;rcases hk with rfl|rfl
   ·exact .inl (jM a x i e)
   ·exact .inr (jM b x i e)
 | .less a b,x,h,e=>by
  cases h with
  | refl=>exact absurd e (by simp only[gZ,G.kind];decide)
  | kid hk i=>
   simp only[gZ,G.kids,aB,aF,or_false]at hk;rcases hk with rfl|rfl
   ·exact .inl (jM a x i e)
   ·exact .inr (jM b x i e)
 | .cho a b c,x,h,e=>by
  cases h with
  | refl=>exact absurd e (by simp only[gZ,G.kind];decide)
  | kid hk i=>
   simp only[gZ,G.kids,aB,aF,or_false]at hk;rcases hk with rfl|rfl|rfl
   ·exact .inl (jM a x i e)
   ·exact .inr (.inl (jM b x i e))
   ·exact .inr (.inr (jM c x i e))
 | .lt w a b,x,h,e=>by
  cases h with
  | refl=>exact absurd e (by simp only[gZ,G.kind];decide)
  | kid hk i=>
   simp only[gZ,G.kids,aB,aF,or_false]at hk;rcases hk with rfl|rfl
   ·exact .inl (jM a x i e)
   ·exact .inr (jM b x i e)
 | .st0 _,_,_,_=>aI
 | .st1 _ _,_,_,_=>aI
 | .st2 _ _ _,_,_,_=>aI
theorem jK:∀(t:T),oP t→∃x,wZ x (gZ t)∧x.kind="stamp"
 | .num n,h=>h.elim
 | .name n,h=>h.elim
 | .sum a b,h=>h.elim (λz=>(jK a z).elim λx y=>⟨x,.kid (by simp[gZ,G.kids]) y.1,y.2⟩) (λz=>(jK b z).elim λx y=>⟨x,.kid (by simp[gZ,G.kids]) y.1,y.2⟩)
 | .less a b,h=>h.elim (λz=>(jK a z).elim λx y=>⟨x,.kid (by simp[gZ,G.kids]) y.1,y.2⟩) (λz=>(jK b z).elim λx y=>⟨x,.kid (by simp[gZ,G.kids]) y.1,y.2⟩)
 | .cho a b c,h=>by
  rcases h with z|z|z
  ·obtain⟨x,y⟩:=jK a z;exact⟨x,.kid (k:=gZ a) (by simp[gZ,G.kids]) y.1,y.2⟩
  ·obtain⟨x,y⟩:=jK b z;exact⟨x,.kid (k:=gZ b) (by simp[gZ,G.kids]) y.1,y.2⟩
  ·obtain⟨x,y⟩:=jK c z;exact⟨x,.kid (k:=gZ c) (by simp[gZ,G.kids]) y.1,y.2⟩
 | .lt w a b,h=>h.elim (λz=>(jK a z).elim λx y=>⟨x,.kid (by simp[gZ,G.kids]) y.1,y.2⟩) (λz=>(jK b z).elim λx y=>⟨x,.kid (by simp[gZ,G.kids]) y.1,y.2⟩)
 | .st0 _,_=>⟨_,.refl,rfl⟩
 | .st1 _ _,_=>⟨_,.refl,rfl⟩
 | .st2 _ _ _,_=>⟨_,.refl,rfl⟩
theorem gr:∀t:T,(gZ t).size=t.size
 | .num n=>rfl
 | .name n=>rfl
 | .sum a b=>by simp only[gZ,G.size,hU,T.size,gr a,gr b];lia
 | .less a b=>by simp only[gZ,G.size,hU,T.size,gr a,gr b];lia
 | .cho a b c=>by simp only[gZ,G.size,hU,T.size,gr a,gr b,gr c];lia
 | .lt w a b=>by simp only[gZ,G.size,hU,T.size,gr a,gr b];lia
 | .st0 _=>rfl
 | .st1 _ a=>by simp only[gZ,G.size,hU,T.size,gr a];lia
 | .st2 _ a b=>by simp only[gZ,G.size,hU,T.size,gr a,gr b];lia
def xU:Sp:=λvs H Q _=>∃(tk:Addr→Prop)(s:eE)(u:V),vs=[u]∧iP tk H s u∧s.t.size≤900∧s.t.names.length<64∧(∀H',dy H H'→Op s→Q (.bl true) H')∧(∀H',dy H H'→¬Op s→Q (.bl false) H')
def Gk(K:aA):TS:=(fT (tC (.bl true)))
def Gj(K:aA):TS:=(fg (eI (dz kA (dz (eC K) (dN 1) (tC (.int 0))) (tC (.str "stamp")))) (Gk K) fQ)
def Gh(K:aA):TS:=(fT (tC (.bl true)))
def Gg(K:aA):TS:=(fg (kH (tB (An (dN 2) (dz (eC K) (dN 0) (tC (.int 3))))) (eI (dz kA (dz (eC K) (qp (dz (eC K) (dN 0) (tC (.int 3))) (dN 2)) (tC (.int 0))) (tC (.str "handed"))))) (Gh K) fQ)
def Lq(K:aA):TS:=(de (iK (i0 K (eN lc [] E0 (dM (dz (eC K) (dN 0) (tC (.int 0))) dW))) (dX 1) (Gj K)) (de (iK (i0 K (eN qA [] E0 (dM (dz (eC K) (dN 0) (tC (.int 0))) dW))) (dX 2) (Gg K)) (fT (tC (.bl false)))))
theorem NU(h:xU vs H Q E):Lq K (gf Q) (start ["spot","piece","word"] vs) H:=by
 obtain⟨tk,s,u,rfl,⟨q,x,pp,d,kvs,rfl,hq,hx,hpp,nd,hd,he⟩,hz1,hz2,k1,k2⟩:=h;refine⟨eA.of hq,dS (j:=0) rfl,gZ s.t,x,rfl,i8 hx,by rw[gr];lia,λl us L H1 s1 n1 h1 od dL=>⟨eG.of h1,?_⟩⟩;have hlen:=dL.1;refine gT (K:=K) (a:=l) (xs:=us) (λi σ H'=>∃j1,σ=[some (.ref q),j1,none]∧dy H1 H'∧∀x∈L.take i,x.kind≠"stamp") ⟨none,rfl,dy.refl _,by simp⟩ (λi σ H' _ hP=>?_) ?_ ?_
 ·obtain⟨_,_,s,_⟩:=hP;exact eG.of (s _ _ h1)
 ·rintro i y σ H' hi ⟨j1,rfl,s',hF⟩;have hil:i<us.length:=(aK.mp hi).1;have hg:L[i]?=some L[i]:=aT (by lia);generalize L[i]=c at hg;have hcm:wZ c (gZ s.t):=(od.one c).mp (aZ hg);have dc:=(dL.2 i c y hg hi).mono (dY s');obtain⟨p,ks,rfl,ok,hp,dk⟩:=dc.open;have h0:pS (c.hd++ks) 0=some (.str c.kind):=by cases c<;>exact dS (j:=0) rfl
  refine⟨eA.of hp,h0,rfl,_,rfl,?_⟩;by_cases hk:c.kind="stamp"
  ·refine fW (by rw[hk];decide) ?_;exact k1 _ (s1.trans s') (.inl (jM _ _ hcm hk))
  ·refine eK (nk hk) ⟨_,rfl,s',λx hx=>?_⟩;rw[ax,hg]at hx;rcases aU.mp hx with z|z
   ·exact hF x z
   ·have:x=c:=by simpa using z
    exact this▸hk
 ·rintro σ H2 ⟨j1,rfl,s2,hF⟩;have hns:¬oP s.t:=λz=>by obtain⟨x,i1,i2⟩:=jK _ z;refine hF x ?_ i2;rw[hlen,bG];exact(od.one x).mpr i1
  have s12:=s1.trans s2;refine⟨eA.of (s12 _ _ hq),dS (j:=0) rfl,s.t,x,rfl,hx.mono (dY s12),hz1,hz2,λl' ws H3 s3 n3 h3 up3 m3=>⟨eG.of h3,?_⟩⟩;have s13:=s12.trans s3;refine gT (K:=K) (a:=l') (xs:=ws.map V.str) (λi σ H'=>∃j2,σ=[some (.ref q),j1,j2]∧dy H3 H'∧∀w∈ws.take i,∀m,s.e.look w=some m→¬m.isH) ⟨none,rfl,dy.refl _,by simp⟩ (λi σ H' _ hP=>?_) ?_ ?_
  ·obtain⟨_,_,s,_⟩:=hP;exact eG.of (s _ _ h3)
  ·rintro i y σ H' hi ⟨j2,rfl,s',hF2⟩;obtain⟨w,hw,rfl⟩:∃x,ws[i]?=some x∧y=V.str x:=by
    rw[ac]at hi;cases e:ws[i]? with
    | none=>rw[e]at hi;cases hi
    | some z=>rw[e]at hi;exact⟨z,rfl,(Option.some.inj hi).symm⟩
   have s0':=s13.trans s';have hq':=s0' _ _ hq;have hd':=s0' _ _ hd;have dg:=iQ.k (k:=.inr w) hd';have ho:s.t.out w:=(m3 w).mp (aZ hw);have nx:(∀m,s.e.look w=some m→¬m.isH)→∃j2,([some (.ref q),j1,some (.str w)]:St)=[some (.ref q),j1,j2]∧dy H3 H'∧∀w∈ws.take (i+1),∀m,s.e.look w=some m→¬m.isH:=λhm=>⟨_,rfl,s',λv hv=>by
    rw[ax,hw]at hv;rcases aU.mp hv with z|z
    ·exact hF2 v z
    ·have:v=w:=by simpa using z
     exact this▸hm⟩
   refine⟨eA.of hq',dS (j:=3) rfl,dg,_,rfl,?_⟩;rcases su w (he.mono (Kp.same s0'))with⟨e1,e2⟩|⟨m,v,e1,e2,mm⟩
   ·rw[e2];refine eK rfl (eK rfl (nx λm z=>by rw[e1]at z;cases z))
   ·rw[e2]at dg⊢;refine fW rfl ?_;cases m with
    | called v=>obtain⟨p,rfl,hp⟩:=mm;refine⟨eA.of hq',dS (j:=3) rfl,dg,eA.of hp,dS (j:=0) rfl,rfl,_,rfl,eK (by decide) (nx λm z=>?_)⟩;rw[e1]at z;cases z;exact id
    | ready n z=>obtain⟨p,rfl,hp⟩:=mm;refine⟨eA.of hq',dS (j:=3) rfl,dg,eA.of hp,dS (j:=0) rfl,rfl,_,rfl,eK (by decide) (nx λm z=>?_)⟩;rw[e1]at z;cases z;exact id
    | handed t src path e=>obtain⟨p,q2,x2,pp2,d2,kvs2,rfl,hp,_⟩:=mm;refine⟨eA.of hq',dS (j:=3) rfl,dg,eA.of hp,dS (j:=0) rfl,rfl,_,rfl,fW (by decide) ?_⟩;exact k1 _ s0' (.inr ⟨w,_,ho,e1,aI⟩)
  ·rintro σ H4 ⟨j2,rfl,s4,hF2⟩;refine k2 _ (s13.trans s4) ?_;rintro(z|⟨w,m,o,l,i⟩)
   ·exact hns z
   ·refine hF2 w ?_ m l i;rw[aX,bG];exact(m3 w).mpr o
end S9
namespace HT
open PySem PyProof.Rows
section
open PySem.SeqAt
open PySem.MeetsSeq PySem.MeetsSeq2 PySem.MeetsSeq3
variable {prog:Program}{w:World}{A:Around}{E:Value→Shared→Prop}{s:Shared}
theorem vF{t sl:Addr}{eJ:Array Value}{vl vu:Value}{lo hi:Option Int}{Q:Value→Shared→Prop}(ht:IsTup s.heap t eJ)(hs:s.heap.IsSliceOf sl vl vu .none)(pl:IsPart vl lo)(pu:IsPart vu hi)
  (h1:kL eJ.size 0 lo=0) (h2:kL eJ.size eJ.size hi=eJ.size) (h:Q (.ref t) s):wpAny (model prog w) A (getItem (.ref t) (.ref sl)) Q E s:=by
 obtain⟨os,hos,hcs,hds⟩:=id hs;have hTs:s.TypeIs (.ref sl) "slice":=⟨os,hos,hcs⟩;unfold getItem
 try with_reducible refine wpAny_holding ?_
 first|refine wpAny_bind (wpAny_pure ?_)|skip
 refine wpAny_bind (wpAny_sequenceKey ht.typeIs (by decide) ?_);refine wpAny_bind (wpAny_callSpecial?_slot (name:=Str.ofString "__getitem__") ht.typeIs bX
  (wpAny_call_entry bX ht.typeIs entry_tuple_getitem ?_ (args_tuple_getitem _ _)))
 show wpAny _ _ (Builtin.Tuple.tupleItemsOf (.ref t) >>= _) _ _ s;refine wpAny_bind (tupleItemsOf_ ht ?_);refine wpAny_bind (wpAny_typeOf hTs ?_);rw[if_pos (by decide)];refine wpAny_bind (kK hs pl pu ?_);have hno:((((kL eJ.size 0 lo:Nat):Int)==0&&(1:Int)==1&&(kL eJ.size eJ.size hi-kL eJ.size 0 lo)==eJ.size)=true):=by rw[h1,h2];simp
 show wpAny _ _ (if(((kL eJ.size 0 lo:Nat):Int)==0&&(1:Int)==1&&(kL eJ.size eJ.size hi-kL eJ.size 0 lo)==eJ.size)=true then _ else _) _ _ s;rw[if_pos hno];refine wpAny_bind (wpAny_bind (m:=typeOf (.ref t)) (wpAny_typeOf ht.typeIs (wpAny_pure ?_)));show wpAny _ _ (if _ then _ else _) _ _ s;rw[if_pos (by decide)];refine wpAny_bind (wpAny_rule ?_)
 first
  | exact wpAny_pure ⟨_,rfl,wpAny_pure h⟩
  | exact wpAny_bind (wpAny_pure (wpAny_pure ⟨_,rfl,wpAny_pure h⟩))
  | exact wpAny_bind (wpAny_pure ⟨_,rfl,wpAny_pure h⟩)
end
end HT
namespace L2
open PySem PySem.Spec PyProof.Rows
def Jg(K:aA):V→Option Int→Option Int→Hp→VK→Prop:=λx lo hi H Q=>∃a xs,x=.ref a∧eA K H a xs∧
 HT.kL xs.length 0 lo=0∧HT.kL xs.length xs.length hi=xs.length∧Q (.ref a) H
def BL(K:aA):V→Option Int→Option Int→Hp→VK→Prop:=λx lo hi H Q=>BM K x lo hi H Q∨Jg K x lo hi H Q
section
variable {X:Cx}
theorem A0:Cp X (Jg X.K):=by
 intro pins s σ H x v vl vu lo hi sl Q I rx hs pl pu h;obtain⟨a,xs,rfl,hx,h1,h2,q⟩:=h;cases rx;obtain⟨its,r,ht,hz⟩:=I.tuple hx;have hlen:its.toArray.size=xs.length:=by rw[aP];exact r.length.symm
 refine⟨"tuple",_,bX.lookup,ht.typeIs,?_⟩;refine HT.vF ht hs pl pu (by rw[hlen];exact h1) (by rw[hlen];exact h2) ?_;exact⟨.ref a,H,I,rfl,q⟩
theorem Dq:Cp X (BL X.K):=Cp.or sE A0
end
end L2
namespace S9
open PySem L2 SW
variable {K:aA}{vs:List V}{H:Hp}{Q:VK}{E:XK}{N C D:Addr}
theorem vW(hr:H r=some (.tup [.str "row",.ref hp,.int n,.ref sx]))(hn:n=(h.ar:Int))(hh:H hp=some (.tup h.vs))(hs:H sx=some (.tup [.str src,.ref pp]))(hpp:H pp=some (.tup (mn path))):jV H (.row h src path) (.ref r):=by subst hn;exact⟨r,hp,_,rfl,hr,hh,sx,pp,rfl,hs,hpp⟩
def Av:Sp:=λvs H Q _=>∃(tk:Addr→Prop)(wl rl:Addr)(s:eE)(o u:V)(w:Str)(wus rus:List V)(ws:List Str),vs=[o,u,.ref wl,.ref rl]∧iP tk H s u∧s.t=.name w∧H wl=some (.lst wus)∧H rl=some (.lst rus)∧wl≠rl∧wus.length≤9000000∧rus.length≤9000000∧
 ∀(P:List eE)(rs:List Rw)(H':Hp),Tk ws s P rs ws→Fc tk wl rl wus rus P rs H'→Ex [wl,rl] H H'→Q .non H'
def Fk(K:aA)(a_Opening a_FreshWords:Addr):TS:=(fD (jm K "list" eY (dN 2) (dM (dz (eC K) (dN 5) (tC (.int 1))) dW)))
def Fj(K:aA)(a_Opening a_FreshWords:Addr):TS:=(fD (jm K "list" eY (dN 3) (dM (dN 5) dW)))
def Fi(K:aA)(a_Opening a_FreshWords:Addr):TS:=(fD (jm K "list" eY (dN 3) (dM (eN oT [] E0 (dM (dN 1) (dM (fJ (dM (tC (.str "name")) (dM (dz (eC K) (dN 5) (tC (.int 1))) dW))) (dM (tC (.int 0)) dW)))) dW)))
def Fh(K:aA)(a_Opening a_FreshWords:Addr):TS:=(fg (eI (dz kA (dz (eC K) (dN 5) (tC (.int 0))) (tC (.str "ready")))) (Fj K a_Opening a_FreshWords) (Fi K a_Opening a_FreshWords))
def AH(K:aA)(a_Opening a_FreshWords:Addr):TS:=(fg (eI (dz kA (dz (eC K) (dN 5) (tC (.int 0))) (tC (.str "handed")))) (Fk K a_Opening a_FreshWords) (Fh K a_Opening a_FreshWords))
def LY(K:aA)(a_Opening a_FreshWords:Addr):TS:=(de (eD (dz (eC K) (dz (eC K) (dN 1) (tC (.int 0))) (tC (.int 1))) (dX 4)) (de (eD (pZ (dz (eC K) (dN 1) (tC (.int 3))) (dN 4) (fJ (dM (tC (.str "called")) (dM (dN 4) dW)))) (dX 5)) (AH K a_Opening a_FreshWords)))
theorem NF(h:Av vs H Q E):LY K C D (gf Q) (start ["self","spot","waiting","rows","word","meaning"] vs) H:=by
 obtain⟨tk,wl,rl,s,o,u,w,wus,rus,ws,rfl,⟨q,x,pp,d,kvs,rfl,hq,hx,hpp,nd,hd,he⟩,ht,hw,hr,hne,z1,z2,k⟩:=h;rw[ht]at hx;obtain⟨p,rfl,hp⟩:=hx;refine⟨eA.of hq,dS (j:=0) rfl,eA.of hp,dS (j:=1) rfl,?_⟩;refine⟨eA.of hq,dS (j:=3) rfl,.inl ⟨kvs,.inl hd⟩,fG,eZ λz H1 hz s1 g1=>?_⟩;refine⟨_,iQ.k (k:=.inr w) (s1 _ _ hd),?_⟩;have hr1:=s1 _ _ hr;have hw1:=s1 _ _ hw;have called:∀(mp:Addr)(v:Str),H1 mp=some (.tup [.str "called",.str v])→Tk ws s [] [.row (.name v) s.src s.path] ws→AH K C D (gf Q) [some o,some (.ref q),some (.ref wl),some (.ref rl),some (.str w),some (.ref mp)] H1:=by intro mp v hm tkk;refine⟨eA.of hm,dS (j:=0) rfl,rfl,_,rfl,eK (by decide) ?_⟩;refine⟨eA.of hm,dS (j:=0) rfl,rfl,_,rfl,eK (by decide) ?_⟩;refine⟨.inl ⟨rfl,_,eG.of hr1⟩,eA.of hm,dS (j:=1) rfl,fG,eZ λhh H2 hhh s2 g2=>?_⟩;have s12:=s1.trans s2;refine⟨q,q,_,s.src,_,_,.ref hh,0,rfl,s12 _ _ hq,λr sx H3 s3 g3 g4=>?_⟩;have s13:=s12.trans s3;have hr3:=s13 _ _ hr;refine⟨hr3,by rw[sizeLine_eq];lia,?_⟩;have t4:fO H3 (upd H3 rl (.lst (rus++[.ref r]))):=fL hr3;refine k [] _ _ tkk ⟨⟨[],by rw[db hne,aa];exact s13 _ _ hw,.nil⟩,[.ref r],dO,.one ?_⟩ ((Ex.same s13).trans (Ex.upd (by simp)));exact vW (t4 _ _ g4) rfl (t4 _ _ (s3 _ _ g2)) (t4 _ _ g3) (t4 _ _ (s13 _ _ hpp))
 rcases su w he with⟨e1,e2⟩|⟨m,v,e1,e2,mm⟩
 ·rw[e2];exact called z w g1 (.free ht e1)
 ·rw[e2];have mm:=mm.mono (Kp.same s1);cases m with
  | called v=>obtain⟨p,rfl,hp⟩:=mm;exact called p v hp (.called ht e1)
  | ready n zz=>obtain⟨mp,rfl,hm⟩:=mm;refine⟨eA.of hm,dS (j:=0) rfl,rfl,_,rfl,eK (by decide) ?_⟩;refine⟨eA.of hm,dS (j:=0) rfl,rfl,_,rfl,fW (by decide) ?_⟩;refine⟨.inl ⟨rfl,_,eG.of hr1⟩,hr1,by rw[sizeLine_eq];lia,?_⟩;have t4:fO H1 (upd H1 rl (.lst (rus++[.ref mp]))):=fL hr1;exact k [] _ _ (.ready ht e1) ⟨⟨[],by rw[db hne,aa];exact hw1,.nil⟩,[.ref mp],dO,.one ⟨mp,rfl,t4 _ _ hm⟩⟩ ((Ex.same s1).trans (Ex.upd (by simp)))
  | handed t src path e=>obtain⟨mp,q2,x2,pp2,d2,kvs2,rfl,hm,hq2,hx2,hpp2,nd2,hd2,he2⟩:=mm;refine⟨eA.of hm,dS (j:=0) rfl,rfl,_,rfl,fW (by decide) ?_⟩;refine⟨.inl ⟨rfl,_,eG.of hw1⟩,eA.of hm,dS (j:=1) rfl,hw1,by rw[sizeLine_eq];lia,?_⟩;have k4:Kp tk H1 (upd H1 wl (.lst (wus++[.ref q2]))):=Kp.lst hw1;have sp:iP tk H1 ⟨t,src,path,e⟩ (.ref q2):=⟨q2,x2,pp2,d2,kvs2,rfl,hq2,hx2,hpp2,nd2,hd2,he2⟩;exact k _ [] _ (.handed ht e1) ⟨⟨[.ref q2],dO,.one (sp.mono k4)⟩,[],by rw[db hne.symm,aa];exact hr1,.nil⟩ ((Ex.same s1).trans (Ex.upd (by simp)))
def Au:Sp:=λvs H Q _=>∃(tk:Addr→Prop)(wl rl:Addr)(s:eE)(o u:V)(h:Hd)(wus rus:List V)(ws:List Str),vs=[o,u,.ref wl,.ref rl]∧iP tk H s u∧pl s.t=some h∧s.path.length≤1000∧H wl=some (.lst wus)∧H rl=some (.lst rus)∧wl≠rl∧wus.length≤9000000∧rus.length≤9000000∧
 ∀(P:List eE)(rs:List Rw)(H':Hp),Tk ws s P rs ws→Fc tk wl rl wus rus P rs H'→Ex [wl,rl] H H'→Q .non H'
def Fg(K:aA)(a_Opening a_FreshWords:Addr):TS:=(fD (jm K "list" eY (dN 2) (dM (dN 6) dW)))
def LX(K:aA)(a_Opening a_FreshWords:Addr):TS:=(de (eD (dz (eC K) (dN 1) (tC (.int 0))) (dX 4)) (de (eD (eN iu [] E0 (dM (dN 1) dW)) (dX 5)) (de (fD (jm K "list" eY (dN 3) (dM (eN oT [] E0 (dM (dN 1) (dM (mL (BL K) (dN 4) fi (ft (dz iU (gz (gN K) (dM (dN 4) dW)) (gz (gN K) (dM (dN 5) dW))))) (dM (gz (gN K) (dM (dN 5) dW)) dW)))) dW))) (iK (Bz K (dN 5)) (dX 6) (Fg K a_Opening a_FreshWords)))))
theorem uo{K:aA}{a:Addr}{xs:List V}{g:TG}{tb:TS}{D:iT}{σ:St}{H:Hp}(Pv:Nat→St→Hp→Prop)(h0:Pv 0 σ H)(hl:∀i σ H,i≤xs.length→Pv i σ H→eG K H a xs)
  (hs:∀i x σ H,i<xs.length→xs[xs.length-1-i]?=some x→Pv i σ H→g x σ H λσ2 H2=>tb {D with nx:=Pv (i+1),ct:=Pv (i+1),bk:=D.nx} σ2 H2) (hd:∀σ H,Pv xs.length σ H→D.nx σ H):
  ∃W:Nat→Nat→St→Hp→Prop,(∃m,W 0 m σ H)∧∀i m σ H,W i m σ H→
   ((nK K a xs.length).stop i H∧D.nx σ H)∨((nK K a xs.length).go i H∧∃N:St→Hp→Prop,(∀σ' H',N σ' H'→∃m',m'<m∧W (i+1) m' σ' H')∧∀x H',(nK K a xs.length).yld i H x H'→g x σ H' λσ2 H2=>tb {D with nx:=N,ct:=N,bk:=D.nx} σ2 H2):=by
 refine⟨λi m σ H=>m=xs.length-i∧i≤xs.length∧Pv i σ H,⟨_,rfl,aS _,h0⟩,?_⟩;rintro i m σ H ⟨rfl,hi,pv⟩;by_cases e:i=xs.length
 ·subst e;exact .inl ⟨rfl,hd _ _ pv⟩
 ·have hlt:i<xs.length:=by lia
  refine .inr ⟨⟨hlt,xs,xs[xs.length-1-i]'(by lia),hl _ _ _ hi pv,rfl,aT _⟩,Pv (i+1),λσ' H' h=>⟨xs.length-(i+1),by lia,rfl,hlt,h⟩,?_⟩;rintro x H' ⟨rfl,hx⟩;exact hs i x σ H' hlt (hx xs (hl _ _ _ hi pv)) pv
theorem Ka(e:pl t=some h):SW.hd t=h.vs:=by cases t<;>simp only[pl,Option.some.injEq,reduceCtorEq]at e<;>subst e<;>rfl
theorem Dr(hp:H p=some (.tup (xs++ks)))(hz:z=(xs.length:Int))(k:∀r H',dy H H'→H' r=some (.tup xs)→Q (.ref r) H'):BL K (.ref p) none (some z) H Q:=by
 subst hz;by_cases hk:ks=[]
 ·subst hk;rw[aa]at hp;exact .inr ⟨p,xs,rfl,eA.of hp,rfl,by rw[HT.K5,Nat.min_self],k p H (dy.refl _) hp⟩
 ·refine .inl ⟨eA.of hp,?_,λr hr=>k r _ (dR hr) ?_⟩
  ·rintro⟨_,z⟩;have:0<ks.length:=dJ.mpr hk;rw[HT.K5,aD]at z;lia
  ·rw[dO,tE _ _ (by simp),ce]
theorem BD{us:List V}{i:Nat}{x:V}(hi:i<us.length)(hx:us[us.length-1-i]?=some x):(us.drop (us.length-(i+1))).reverse=(us.drop (us.length-i)).reverse++[x]:=by
 obtain⟨h1,h2⟩:=aK.mp hx;have e:us.length-(i+1)=us.length-1-i:=by lia
 rw[e,bM h1,h2,ao]
 congr 3
 lia
theorem NE(h:Au vs H Q E):LX K C D (gf Q) (start ["self","spot","waiting","rows","piece","inner","part"] vs) H:=by
 obtain⟨tk,wl,rl,s,o,u,h,wus,rus,ws,rfl,sp,hpl,hpath,hw,hr,hne,z1,z2,k⟩:=h;have sp0:=sp;obtain⟨q,x,pp,d,kvs,rfl,hq,hx,hpp,nd,hd,he⟩:=sp;refine⟨eA.of hq,dS (j:=0) rfl,?_⟩;refine⟨tk,s,.ref q,rfl,sp0,hpath,λil us H1 s1 n1 g1 al=>?_⟩;obtain⟨p,ks,rfl,hp,dk⟩:=hx.open;rw[Ka hpl]at hp;have hp1:=s1 _ _ hp;have hal:=al.length;rw[kb]at hal;have hkl:=dk.length;have har:=FC hpl;have hk3:=Bw s.t;refine⟨.inl ⟨rfl,_,eG.of (s1 _ _ hr)⟩,.inr (eA.of hp1),.inl (eG.of g1),?_⟩;refine Dr hp1 (by rw[aD];lia) λhh H2 s2 g2=>?_;have s12:=s1.trans s2;refine⟨.inl (eG.of (s2 _ _ g1)),q,q,_,s.src,_,_,.ref hh,us.length,rfl,s12 _ _ hq,λr sx H3 s3 g3 g4=>?_⟩;have s13:=s12.trans s3;have hr3:=s13 _ _ hr;refine⟨hr3,by rw[sizeLine_eq];lia,?_⟩;have kp4:Kp tk H3 (upd H3 rl (.lst (rus++[.ref r]))):=Kp.lst hr3;have ex4:Ex [wl,rl] H3 (upd H3 rl (.lst (rus++[.ref r]))):=Ex.upd (by simp);have w4:(upd H3 rl (.lst (rus++[.ref r]))) wl=some (.lst wus):=by rw[db hne];exact s13 _ _ hw
 have r4:(upd H3 rl (.lst (rus++[.ref r]))) rl=some (.lst (rus++[.ref r])):=dO;have nil_:il≠rl:=(dZ hr n1).symm;have niw:il≠wl:=(dZ hw n1).symm;have i4:(upd H3 rl (.lst (rus++[.ref r]))) il=some (.lst us):=by rw[db nil_];exact s3 _ _ (s2 _ _ g1)
 generalize upd H3 rl (.lst (rus++[.ref r]))=H4 at kp4 ex4 w4 r4 i4⊢;have rw4:jV H4 (.row h s.src s.path) (.ref r):=vW (kp4.tup _ _ g4) (by lia) (kp4.tup _ _ (s3 _ _ g2)) (kp4.tup _ _ g3) (kp4.tup _ _ (s13 _ _ hpp));have al4:Al (iP tk H4) s.within us:=al.mono λ_ _=>iP.mono ((Kp.same (s2.trans s3)).trans kp4);have ex04:Ex [wl,rl] H H4:=(Ex.same s13).trans ex4;refine⟨eG.of i4,?_⟩;refine uo (K:=K) (a:=il) (xs:=us) (λi σ H'=>∃j6,σ=[some o,some (.ref q),some (.ref wl),some (.ref rl),some (.ref p),some (.ref il),j6]∧Kp tk H4 H'∧Ex [wl,rl] H4 H'∧H' wl=some (.lst (wus++(us.drop (us.length-i)).reverse))∧H' rl=some (.lst (rus++[.ref r]))∧H' il=some (.lst us))
  ⟨none,rfl,.refl,.refl,by simpa using w4,r4,i4⟩ (λi σ H' _ hP=>?_) ?_ ?_
 ·obtain⟨_,_,_,_,_,_,hi⟩:=hP;exact eG.of hi
 ·rintro i y σ H5 hi hy ⟨j6,rfl,kp5,ex5,w5,r5,i5⟩;refine⟨.inl ⟨rfl,_,eG.of w5⟩,w5,?_,?_⟩
  ·rw[aD,bL,ah,sizeLine_eq];lia
  ·refine⟨_,rfl,kp5.trans (Kp.lst w5),ex5.trans (Ex.upd (by simp)),?_,by rw[db hne.symm];exact r5,by rw[db niw];exact i5⟩;rw[dO,BD hi hy,aV]
 ·rintro σ H5 ⟨j6,rfl,kp5,ex5,w5,r5,i5⟩;rw[bH,ag]at w5;exact k _ _ _ (.plain hpl) ⟨⟨us.reverse,w5,(al4.mono λ_ _=>iP.mono kp5).reverse⟩,[.ref r],r5,.one (rw4.mono kp5.tup)⟩ (ex04.trans ex5)
inductive FX(C D:Addr)(H:Hp)(Q:VK):List V→Prop where
 | mk(A:Ad)(bo:Bo)(F k:Nat)(N:Addr→Prop)(ws:List Str)(rd:List (List Rw))(wl rl:Addr)(s:eE)(u:V)(w:Str)(a b:T)(wus rus:List V)(P:Nat→Nat→Prop)(f0:ff C D A bo F N k ws rd H)(f1:iP (Nk A.tk) H s u)(f2:s.t=.lt w a b)(f3:s.ok P)(f4:ws.length≤8000000)(f5:H wl=some (.lst wus))(f6:H rl=some (.lst rus))(f7:wl≠rl)(f8:wl≠A.yl)(f9:rl≠A.yl)(f10:(∀a,N a→a≠wl))(f11:(∀a,N a→a≠rl))(f12:wus.length≤9000000)(f13:rus.length≤9000000)(f14:∀(P:List eE)(rs:List Rw)(ws':List Str)(H':Hp),Tk ws s P rs ws'→ff C D A bo F N k ws' rd H'→Fc (Nk A.tk) wl rl wus rus P rs H'→Ex [wl,rl,A.lp,A.tk] H H'→Q .non H'):FX C D H Q [.ref A.op,u,.ref wl,.ref rl]
def Aw(C D:Addr):Sp:=λvs H Q _=>FX C D H Q vs
def LZ(K:aA)(a_Opening a_FreshWords:Addr):TS:=(de (eD (dz (eC K) (dz (eC K) (dN 1) (tC (.int 0))) (tC (.int 1))) (dX 4)) (de (eD (jq a_FreshWords "fresh" (pC a_FreshWords) [] E0 (kG K (dN 0) "lets") (dM (dN 4) dW)) (dX 5)) (de (eD (eN iu [] E0 (dM (dN 1) dW)) (dX 6)) (de (eD (dz (gL K) (dN 6) (tC (.int 1))) (dX 7)) (de (fD (jm K "list" eY (dN 3) (dM (eN oT [] E0 (dM (dN 1) (dM (fJ (dM (tC (.str "let")) (dM (dN 5) dW))) (dM (tC (.int 2)) dW)))) dW))) (de (fD (jm K "list" eY (dN 2) (dM (fJ (dM (dz (eC K) (dN 7) (tC (.int 0))) (dM (dz (eC K) (dN 7) (tC (.int 1))) (dM (dz (eC K) (dN 7) (tC (.int 2))) (dM (eN jB [] E0 (dM (dz (eC K) (dN 1) (tC (.int 3))) (dM (dN 4) (dM (fJ (dM (tC (.str "called")) (dM (dN 5) dW))) dW)))) dW))))) dW))) (fD (jm K "list" eY (dN 2) (dM (dz (gL K) (dN 6) (tC (.int 0))) dW)))))))))
end S9
namespace S9
open PySem L2 SW
variable {K:aA}{vs:List V}{H:Hp}{Q:VK}{E:XK}{C D:Addr}
theorem JM{d:Addr}{n:Nat}{m:Str}(e1:(m=="taken")=false:=by decide)(e2:(m=="tried")=false:=by decide):(wf d n).lookup m=none:=by simp only[wf,List.lookup,e1,e2]
theorem ff.kpW(O:ff C D A bo F N k ws rd H)(e:Ex [A.lp,A.tk] H H'):Kp (Nk A.tk) H H':=by
 obtain⟨n,f,_⟩:=O.fw;refine O.kp e (λa ha=>?_);rcases aB.mp ha with rfl|ha
 ·exact .inr (.inr ⟨_,_,_,f.ob⟩)
 ·exact .inl (aG.mp ha)
theorem CY(e:Ci p d H H'):Ex [p,d] H H':=λb o nb z=>e b o (λq=>nb (by simp[q])) (λq=>nb (by simp[q])) z
theorem NG(ro:RO K C)(h:Aw C D vs H Q E):LZ K C D (gf Q) (start ["self","spot","waiting","rows","own","word","inner","other"] vs) H:=by
 obtain⟨A,bo,F,k,N,ws,rd,wl,rl,s,u,w,a,b,wus,rus,P,O,sp,ht,ok,hws,hw,hr,hne,ny,nz,nw,nr,z1,z2,kk⟩:=h;have sp0:=sp;obtain⟨q,x,pp,d,kvs,rfl,hq,hx,hpp,nd,hd,he⟩:=sp;rw[ht]at hx;obtain⟨p,x1,x2,rfl,hp,d1,d2⟩:=hx;refine⟨eA.of hq,dS (j:=0) rfl,eA.of hp,dS (j:=1) rfl,?_⟩;obtain⟨n,fw,cn⟩:=O.fw;have wt:WT SF s.t:=ok.1.1;rw[ht]at wt;refine⟨O.ob,ro.cl,ro.nL,EO,fw.ob,JM,A.lp,A.lx,A.tk,n,ws,w,rfl,fw,wt.1,hws,cn,λy n' H1 wy hy hyw hn ap fw1=>?_⟩;have O1:=O.word ap fw1 (by rw[aD];exact hn);have kp1:=O.kpW (CY ap);have ex1:Ex [wl,rl,A.lp,A.tk] H H1:=(CY ap).more (by simp);have hw1:H1 wl=some (.lst wus):=ap _ _ (fB hw fw.ob (by intro z;cases z)) (fB hw fw.dk (by intro z;cases z)) hw;have hr1:H1 rl=some (.lst rus):=ap _ _ (fB hr fw.ob (by intro z;cases z)) (fB hr fw.dk (by intro z;cases z)) hr;have sp1:=sp0.mono kp1;have hq1:=kp1.tup _ _ hq;have hpp1:=kp1.tup _ _ hpp;have hd1:=kp1.dct _ _ nd hd;have he1:=he.mono kp1;have htk1:=fw1.dk;refine⟨Nk A.tk,s,.ref q,rfl,sp1,by have:=ok.1.2.1;lia,λil us H2 s2 n2 g2 al=>?_⟩;have ew:s.within=[s.kid 0 a,s.kid 1 b]:=by unfold eE.within;rw[ht];rfl
 rw[ew]at al;cases al with|cons sa al=>cases al with|cons sb al=>cases al with|nil=>
 rename_i ua ub;obtain⟨q1,y1,pp1,dd1,kvs1,rfl,hq3,hy1,hpp3,_⟩:=sb;have hq3:H2 q1=some (.tup [y1,.str s.src,.ref pp1,.ref dd1]):=hq3;have hy1:gG H2 b y1:=hy1;have hpp3:H2 pp1=some (.tup (mn (s.path++[1]))):=hpp3;refine⟨eG.of g2,dS (j:=1) rfl,?_⟩;refine⟨.inl ⟨rfl,_,eG.of (s2 _ _ hr1)⟩,fG,eZ λhh H3 hhh s3 g3=>?_⟩;have s13:=s2.trans s3;refine⟨q,q,_,s.src,_,_,.ref hh,2,rfl,s13 _ _ hq1,λr sx H4 s4 g4 g5=>?_⟩;have s14:=s13.trans s4;have hr4:=s14 _ _ hr1;refine⟨hr4,by rw[sizeLine_eq];lia,?_⟩;have nir:il≠rl:=(dZ hr1 n2).symm;have niw:il≠wl:=(dZ hw1 n2).symm;have O5:=(O1.same s14).lst (o:=.lst (rus++[.ref r])) hr4 nz nr;have kp5:Kp (Nk A.tk) H4 (upd H4 rl (.lst (rus++[.ref r]))):=Kp.lst hr4;have ex5:Ex [wl,rl,A.lp,A.tk] H4 (upd H4 rl (.lst (rus++[.ref r]))):=Ex.upd (by simp);have w5:(upd H4 rl (.lst (rus++[.ref r]))) wl=some (.lst wus):=by rw[db hne];exact s14 _ _ hw1
 have r5:(upd H4 rl (.lst (rus++[.ref r]))) rl=some (.lst (rus++[.ref r])):=dO;have i5:(upd H4 rl (.lst (rus++[.ref r]))) il=some (.lst [ua,.ref q1]):=by rw[db nir];exact s4 _ _ (s3 _ _ g2)
 have t5:(upd H4 rl (.lst (rus++[.ref r]))) A.tk=some (.dK (iq (ws++[y]))):=by rw[db (fB (s14 _ _ htk1) hr4 (by intro z;cases z))];exact s14 _ _ htk1
 generalize upd H4 rl (.lst (rus++[.ref r]))=H5 at O5 kp5 ex5 w5 r5 i5 t5⊢;have kp15:Kp (Nk A.tk) H1 H5:=(Kp.same s14).trans kp5;have kp25:Kp (Nk A.tk) H2 H5:=(Kp.same (s3.trans s4)).trans kp5;have rw5:jV H5 (.row (.lt y) s.src s.path) (.ref r):=vW (kp5.tup _ _ g5) rfl (kp5.tup _ _ (s4 _ _ g3)) (kp5.tup _ _ g4) (kp15.tup _ _ hpp1);have sa5:=sa.mono kp25;have hq5:=kp15.tup _ _ hq1;have hq35:=kp25.tup _ _ hq3;have hy5:=hy1.mono kp25.tup;have hpp5:=kp25.tup _ _ hpp3;have hd5:=kp15.dct _ _ nd hd1;have he5:=he1.mono kp15;have ex05:Ex [wl,rl,A.lp,A.tk] H H5:=ex1.trans ((Ex.same s14).trans ex5);refine⟨.inl ⟨rfl,_,eG.of w5⟩,eA.of hq35,dS (j:=0) rfl,eA.of hq35,dS (j:=1) rfl,eA.of hq35,dS (j:=2) rfl,eA.of hq5,dS (j:=3) rfl,fG,eZ λcc H6 hcc s6 g6=>?_⟩;refine⟨d,w,.ref cc,kvs,rfl,s6 _ _ hd5,by rw[wL he];have:=ok.1.2.2.1;lia,λdn H7 nn s7 gd=>⟨fG,λsp2 hsp2=>?_⟩⟩;have s8:=dR (o:=.tup [y1,.str s.src,.ref pp1,.ref dn]) hsp2;have g8:(upd H7 sp2 (.tup [y1,.str s.src,.ref pp1,.ref dn])) sp2=some (.tup [y1,.str s.src,.ref pp1,.ref dn]):=dO;have s58:=s6.trans (s7.trans s8);have dnt:dn≠A.tk:=(dZ (s6 _ _ t5) nn).symm;have spb:iP (Nk A.tk) (upd H7 sp2 (.tup [y1,.str s.src,.ref pp1,.ref dn])) ⟨b,s.src,s.path++[1],s.e.put w (.called y)⟩ (.ref sp2):=by refine⟨sp2,y1,pp1,dn,_,rfl,g8,hy5.mono (dY s58),s58 _ _ hpp5,dnt,s8 _ _ gd,?_⟩;exact(wK (n:=.called y) ⟨cc,rfl,s7 _ _ g6⟩ (FE ok.2) (he5.mono (Kp.same (s6.trans s7)))).mono (Kp.same s8)
 generalize upd H7 sp2 (.tup [y1,.str s.src,.ref pp1,.ref dn])=H8 at s8 g8 s58 spb⊢;have w8:=s58 _ _ w5;refine⟨w8,by rw[sizeLine_eq];lia,?_⟩;have O9:=(O5.same s58).lst (o:=.lst (wus++[.ref sp2])) w8 ny nw;have kp9:Kp (Nk A.tk) H8 (upd H8 wl (.lst (wus++[.ref sp2]))):=Kp.lst w8;have ex9:Ex [wl,rl,A.lp,A.tk] H8 (upd H8 wl (.lst (wus++[.ref sp2]))):=Ex.upd (by simp);have w9:(upd H8 wl (.lst (wus++[.ref sp2]))) wl=some (.lst (wus++[.ref sp2])):=dO;have r9:(upd H8 wl (.lst (wus++[.ref sp2]))) rl=some (.lst (rus++[.ref r])):=by rw[db hne.symm];exact s58 _ _ r5
 have i9:(upd H8 wl (.lst (wus++[.ref sp2]))) il=some (.lst [ua,.ref q1]):=by rw[db niw];exact s58 _ _ i5
 generalize upd H8 wl (.lst (wus++[.ref sp2]))=H9 at O9 kp9 ex9 w9 r9 i9⊢;have kp59:Kp (Nk A.tk) H5 H9:=(Kp.same s58).trans kp9;refine⟨.inl ⟨rfl,_,eG.of w9⟩,eG.of i9,dS (j:=0) rfl,w9,by rw[aD,bA,sizeLine_eq];lia,?_⟩;have kp10:Kp (Nk A.tk) H9 (upd H9 wl (.lst (wus++[.ref sp2]++[ua]))):=Kp.lst w9;refine kk _ _ _ _ (.lt ht wy hy hyw) (O9.lst w9 ny nw) ⟨⟨[.ref sp2,ua],by rw[dO,aV];rfl,.cons (spb.mono (kp9.trans kp10)) (.one (sa5.mono (kp59.trans kp10)))⟩,[.ref r],by rw[db hne.symm];exact r9,.one (rw5.mono (kp59.trans kp10).tup)⟩ (ex05.trans ((Ex.same s58).trans (ex9.trans (Ex.upd (by simp)))))
def Ay:Sp:=λvs _ _ _=>vs.length=2∧False
structure Kq(C D:Addr)(A:Ad)(bo:Bo)(F:Nat)(N:Addr→Prop)(k:Nat)(ws:List Str)(rd:List (List Rw))(wl rl:Addr)(wus rus:List V)(s:eE)(u:V)(P:Nat→Nat→Prop)(H:Hp):Prop where
 O:ff C D A bo F N k ws rd H
 sp:iP (Nk A.tk) H s u
 ok:s.ok P
 zs:ws.length≤8000000
 w:H wl=some (.lst wus)
 r:H rl=some (.lst rus)
 ne:wl≠rl
 ny:wl≠A.yl
 nz:rl≠A.yl
 nw:∀a,N a→a≠wl
 nr:∀a,N a→a≠rl
 z1:wus.length≤9000000
 z2:rus.length≤9000000
section
variable {A:Ad}{bo:Bo}{F k:Nat}{N:Addr→Prop}{ws:List Str}{rd:List (List Rw)}{wl rl:Addr}{wus rus:List V}{s:eE}{u:V}{P:Nat→Nat→Prop}{H':Hp}
theorem Kq.two(B:Kq C D A bo F N k ws rd wl rl wus rus s u P H)(ex:Ex [wl,rl] H H'):ff C D A bo F N k ws rd H':=by
 have kp:Kp (Nk A.tk) H H':=B.O.kp ex (λa ha=>by
  rcases aB.mp ha with rfl|ha
  ·exact .inr (.inl ⟨_,B.w⟩)
  ·rw[aG.mp ha];exact .inr (.inl ⟨_,B.r⟩))
 obtain⟨n,f,_⟩:=B.O.fw;have two:∀a o,H a=some o→(∀xs,o≠.lst xs)→a∉[wl,rl]:=λa o h n q=>by
  rcases aB.mp q with rfl|q
  ·rw[B.w]at h;exact n _ (Option.some.inj h).symm
  ·rw[aG.mp q,B.r]at h;exact n _ (Option.some.inj h).symm
 refine B.O.ex ex (two _ _ B.O.ob (by intro xs z;cases z)) (two _ _ f.ob (by intro xs z;cases z)) (two _ _ f.dk (by intro xs z;cases z)) (two _ _ B.O.sd (by intro xs z;cases z)) (λq=>?_) kp.tup (λa z q=>?_)
 ·rcases aB.mp q with q|q
  ·exact B.ny q.symm
  ·exact B.nz (aG.mp q).symm
 ·rcases aB.mp q with q|q
  ·exact B.nw a z q
  ·exact B.nr a z (aG.mp q)
end
inductive Cc(C D:Addr)(H:Hp)(Q:VK):List V→Prop where
 | mk(A:Ad)(bo:Bo)(F k:Nat)(N:Addr→Prop)(ws:List Str)(rd:List (List Rw))(wl rl:Addr)(wus rus:List V)(s:eE)(u:V)(P:Nat→Nat→Prop)(f0:Kq C D A bo F N k ws rd wl rl wus rus s u P H)(f1:¬Op s)(f2:∀(P:List eE)(rs:List Rw)(ws':List Str)(H':Hp),Tk ws s P rs ws'→ff C D A bo F N k ws' rd H'→Fc (Nk A.tk) wl rl wus rus P rs H'→Ex [wl,rl,A.lp,A.tk] H H'→Q .non H'):Cc C D H Q [.ref A.op,u,.ref wl,.ref rl]
def xR(C D:Addr):Sp:=λvs H Q _=>Cc C D H Q vs
def Ft(K:aA)(a_Opening a_FreshWords:Addr):TS:=(de (pG K (dN 0) (tC (.int 1)) D1 "many") (fD (jm K "list" eY (dN 2) (dM (jq a_Opening "body_of" Ay [] E0 (dN 0) (dM (dN 1) dW)) dW))))
def Fs(K:aA)(a_Opening a_FreshWords:Addr):TS:=(fD (jq a_Opening "take_name" Av [] E0 (dN 0) (dM (dN 1) (dM (dN 2) (dM (dN 3) dW)))))
def Fq(K:aA)(a_Opening a_FreshWords:Addr):TS:=(fD (jq a_Opening "take_let" (Aw a_Opening a_FreshWords) [] E0 (dN 0) (dM (dN 1) (dM (dN 2) (dM (dN 3) dW)))))
def Fp(K:aA)(a_Opening a_FreshWords:Addr):TS:=(fD (jq a_Opening "take_plain" Au [] E0 (dN 0) (dM (dN 1) (dM (dN 2) (dM (dN 3) dW)))))
def Fn(K:aA)(a_Opening a_FreshWords:Addr):TS:=(fg (eI (dz kA (dN 4) (tC (.str "let")))) (Fq K a_Opening a_FreshWords) (Fp K a_Opening a_FreshWords))
def rX(K:aA)(a_Opening a_FreshWords:Addr):TS:=(fg (eI (dz kA (dN 4) (tC (.str "name")))) (Fs K a_Opening a_FreshWords) (Fn K a_Opening a_FreshWords))
def Fm(K:aA)(a_Opening a_FreshWords:Addr):TS:=(fg (eI (dz kA (dN 4) (tC (.str "stamp")))) (Ft K a_Opening a_FreshWords) (rX K a_Opening a_FreshWords))
def La(K:aA)(a_Opening a_FreshWords:Addr):TS:=(de (eD (dz (eC K) (dz (eC K) (dN 1) (tC (.int 0))) (tC (.int 0))) (dX 4)) (Fm K a_Opening a_FreshWords))
theorem FO(t:T)(ks:List V):pS (SW.hd t++ks) 0=some (.str (kind t)):=by cases t<;>exact dS (j:=0) rfl
theorem BE(B:Kq C D A bo F N k ws rd wl rl wus rus s u P H)(hk:kind s.t≠"stamp")
  (kk:∀(P:List eE)(rs:List Rw)(ws':List Str)(H':Hp),Tk ws s P rs ws'→ff C D A bo F N k ws' rd H'→Fc (Nk A.tk) wl rl wus rus P rs H'→Ex [wl,rl,A.lp,A.tk] H H'→Q .non H'):
  rX K C D (gf Q) [some (.ref A.op),some u,some (.ref wl),some (.ref rl),some (.str (kind s.t))] H:=by
 have path:s.path.length≤1000:=by have:=B.ok.1.2.1;lia
 have plain:∀h,pl s.t=some h→kind s.t≠"name"→kind s.t≠"let"→rX K C D (gf Q) [some (.ref A.op),some u,some (.ref wl),some (.ref rl),some (.str (kind s.t))] H:=λh hp n1 n2=>by refine⟨rfl,_,rfl,eK (nk n1) ⟨rfl,_,rfl,eK (nk n2) ?_⟩⟩;refine⟨B.O.ob,my,Nk A.tk,wl,rl,s,_,_,h,wus,rus,ws,rfl,B.sp,hp,path,B.w,B.r,B.ne,B.z1,B.z2,λP rs H' tk' aft ex=>?_⟩;exact kk P rs ws H' tk' (B.two ex) aft (ex.more (by simp))
 cases e:s.t with
 | num n=>rw[←e];exact plain _ (by rw[e];rfl) (by rw[e];simp only[kind];decide) (by rw[e];simp only[kind];decide)
 | sum a b=>rw[←e];exact plain _ (by rw[e];rfl) (by rw[e];simp only[kind];decide) (by rw[e];simp only[kind];decide)
 | less a b=>rw[←e];exact plain _ (by rw[e];rfl) (by rw[e];simp only[kind];decide) (by rw[e];simp only[kind];decide)
 | cho a b c=>rw[←e];exact plain _ (by rw[e];rfl) (by rw[e];simp only[kind];decide) (by rw[e];simp only[kind];decide)
 | name w=>refine⟨rfl,_,rfl,fW (decide_eq_true rfl) ?_⟩;refine⟨B.O.ob,my,Nk A.tk,wl,rl,s,_,_,w,wus,rus,ws,rfl,B.sp,e,B.w,B.r,B.ne,B.z1,B.z2,λP rs H' tk' aft ex=>?_⟩;exact kk P rs ws H' tk' (B.two ex) aft (ex.more (by simp))
 | lt w a b=>refine⟨rfl,_,rfl,eK (nk (show("let":Str)≠"name" by decide)) ⟨rfl,_,rfl,fW (decide_eq_true rfl) ?_⟩⟩;exact⟨B.O.ob,my,A,bo,F,k,N,ws,rd,wl,rl,s,_,w,a,b,wus,rus,P,B.O,B.sp,e,B.ok,B.zs,B.w,B.r,B.ne,B.ny,B.nz,B.nw,B.nr,B.z1,B.z2,kk⟩
 | st0 w=>rw[e]at hk;exact absurd rfl hk
 | st1 w a=>rw[e]at hk;exact absurd rfl hk
 | st2 w a b=>rw[e]at hk;exact absurd rfl hk
theorem Bt(h:¬oP t):kind t≠"stamp":=by cases t<;>simp only[kind]<;>first|decide|exact absurd aI h
theorem L7(h:xR C D vs H Q E):La K C D (gf Q) (start ["self","spot","waiting","rows","kind"] vs) H:=by obtain⟨A,bo,F,k,N,ws,rd,wl,rl,wus,rus,s,u,P,B,no,kk⟩:=h;obtain⟨q,x,pp,d,kvs,rfl,hq,hx,hpp,nd,hd,he⟩:=id B.sp;obtain⟨p,ks,rfl,hp,dk⟩:=hx.open;refine⟨eA.of hq,dS (j:=0) rfl,eA.of hp,FO s.t ks,?_⟩;have hk:kind s.t≠"stamp":=Bt λz=>no (.inl z);exact⟨rfl,_,rfl,eK (nk hk) (BE B hk kk)⟩
inductive u7(C D:Addr)(H:Hp)(Q:VK):List V→Prop where
 | mk(A:Ad)(bo:Bo)(F k:Nat)(N:Addr→Prop)(ws:List Str)(rd:List (List Rw))(s:eE)(u:V)(P:Nat→Nat→Prop)(f0:ff C D A bo F N k ws rd H)(f1:yJ A N H)(f2:iP (Nk A.tk) H s u)(f3:s.ok P)(f4:¬Op s)(f5:s.wt 0≤4000000)(f6:ws.length≤4000000)(f7:(k≤F→∀(R:List Rw)(ws':List Str)(l:Addr)(rus:List V)(H':Hp),zd [s] [] ws R ws'→H l=none→H' l=some (.lst rus)→Al (jV H') R rus→ff C D A bo F N k ws' rd H'→Ex [A.lp,A.tk] H H'→Q (.ref l) H'))(f8:(¬k≤F→∀(l:Addr)(H':Hp),dy H H'→H l=none→H' l=some (.lst [])→Q (.ref l) H')):u7 C D H Q [.ref A.op,u]
def pB(C D:Addr):Sp:=λvs H Q _=>u7 C D H Q vs
def AM(K:aA)(a_Opening a_FreshWords:Addr):TS:=(fD (jq a_Opening "take" (xR a_Opening a_FreshWords) [] E0 (dN 0) (dM (mW K "list" mf (dN 3)) (dM (dN 3) (dM (dN 2) dW)))))
def GE(K:aA)(a_Opening a_FreshWords:Addr):TS:=(de (eD (fR dW) (dX 2)) (de (eD (fR (dM (dN 1) dW)) (dX 3)) (de (iE (kH (eI (dz og (gz (gN K) (dM (dN 3) dW)) (tC (.int 0)))) (eI (dz Dz (kG K (dN 0) "many") (kG K (dN 0) "fuel")))) (AM K a_Opening a_FreshWords)) (fT (dN 2)))))
structure Mv(C D:Addr)(A:Ad)(bo:Bo)(F:Nat)(N:Addr→Prop)(k:Nat)(ws:List Str)(rd:List (List Rw))(wl rl:Addr)(s:eE)(P:Nat→Nat→Prop)(H2:Hp)(S:List eE)(R:List Rw)(ws1:List Str)(wus rus:List V)(H':Hp):Prop where
 O:ff C D A bo F N k ws1 rd H'
 w:H' wl=some (.lst wus)
 r:H' rl=some (.lst rus)
 dw:Al (iP (Nk A.tk) H') S wus
 dr:Al (jV H') R rus
 ex:Ex [wl,rl,A.lp,A.tk] H2 H'
 run:∀R' ws',zd S R ws1 R' ws'→zd [s] [] ws R' ws'
 so:∀x∈S,x.ok P∧¬Op x
 ro:∀r∈R,r.ok P
 wt:la 0 S+k0 R=s.wt 0
 zs:ws1.length≤ws.length+R.length
def Nt(C D:Addr)(A:Ad)(bo:Bo)(F:Nat)(N:Addr→Prop)(k:Nat)(ws:List Str)(rd:List (List Rw))(wl rl:Addr)(s:eE)(P:Nat→Nat→Prop)(H2:Hp)(u:V)(m:Nat)(σ:St)(H':Hp):Prop:=∃S R ws1 wus rus,σ=[some (.ref A.op),some u,some (.ref rl),some (.ref wl)]∧Mv C D A bo F (λa=>N a∧a≠wl∧a≠rl) k ws rd wl rl s P H2 S R ws1 wus rus H'∧m=la 1 S
theorem Jf(ro:RO K C)(h:pB C D vs H Q E):GE K C D (gf Q) (start ["self","spot","rows","waiting"] vs) H:=by
 obtain⟨A,bo,F,k,N,ws,rd,s,u,P,O,no,sp,ok,nop,z1,z2,k1,k2⟩:=h;refine⟨fG,λrl hrl=>⟨fG,λwl hwl=>?_⟩⟩;have s1:dy H (upd H rl (.lst [])):=dR hrl;have s2:=dR (o:=.lst [u]) hwl;have hne:wl≠rl:=(dZ (dO (H:=H) (a:=rl) (o:=.lst [])) hwl).symm;have r2:(upd (upd H rl (.lst [])) wl (.lst [u])) rl=some (.lst []):=s2 _ _ dO;have w2:(upd (upd H rl (.lst [])) wl (.lst [u])) wl=some (.lst [u]):=dO;have hwl0:H wl=none:=s1.free hwl;have s12:=s1.trans s2;generalize upd (upd H rl (.lst [])) wl (.lst [u])=H2 at s2 r2 w2 s12⊢;clear s1 s2 hwl;have O2:=O.same s12;by_cases hk:k≤F
 ·have hy:∃us,H A.yl=some (.lst us):=O.yl.imp λ_ z=>z.1;obtain⟨ys,hy⟩:=hy;have O2':ff C D A bo F (λa=>N a∧a≠wl∧a≠rl) k ws rd H2:=(O.weak (N':=λa=>N a∧a≠wl∧a≠rl) λa o h n=>⟨n,dZ h hwl0,dZ h hrl⟩).same s12;have nyw:wl≠A.yl:=(dZ hy hwl0).symm;have nyr:rl≠A.yl:=(dZ hy hrl).symm;refine⟨Nt C D A bo F N k ws rd wl rl s P H2 u,⟨_,[s],[],ws,[u],[],rfl,?_,rfl⟩,?_⟩
  ·exact⟨O2',w2,r2,.one (sp.mono (Kp.same s12)),.nil,.refl,λ_ _ z=>z,(λx hx=>by rw[aG]at hx;exact hx▸⟨ok,nop⟩),(λr hr=>by cases hr),(by rw[gu,jY];rfl),aC _⟩
  ·rintro m σ H3 ⟨S,R,ws1,wus,rus,rfl,B,rfl⟩;refine⟨.inl (eG.of B.w),_,rfl,?_⟩;by_cases hv:wus=[]
   ·subst hv;refine eK rfl (eK rfl ?_);have e:S=[]:=cH.mp B.dw.length.symm;subst e;have O3:=B.O.weak (N':=N) λa o h n=>n.1;exact(k1 hk R ws1 rl rus H3 (B.run _ _ .nil) hrl B.r B.dr O3 (Ex.new (l':=[wl,rl,A.lp,A.tk]) (λa ha=>by
     simp only[aB,aF,or_false]at ha⊢;rcases ha with rfl|rfl|z|z
     ·exact .inr hwl0
     ·exact .inr hrl
     ·exact .inl (.inl z)
     ·exact .inl (.inr z)) ((Ex.same s12).trans B.ex)))
   ·obtain⟨us,u1,rfl⟩:=gK hv;obtain⟨S',s',rfl,d1,d2⟩:=B.dw.snoc;refine fW (decide_eq_true (by simp)) ?_;refine⟨B.O.ob,ro.cl,ro.nM,lj,B.O.ob,ro.cl,ro.nF,sT,_,rfl,?_⟩;refine fW (decide_eq_true (by lia)) ?_;refine⟨λσ' H'=>∃m',m'<la 1 (S'++[s'])∧Nt C D A bo F N k ws rd wl rl s P H2 u m' σ' H',λ_ _ h=>h,?_⟩;refine⟨B.O.ob,my,.inl ⟨rfl,_,eG.of B.w⟩,B.w,jT,?_⟩;rw[iZ];have O4:=B.O.lst (o:=.lst us) B.w nyw (λa z=>z.2.1);have kp4:Kp (Nk A.tk) H3 (upd H3 wl (.lst us)):=Kp.lst B.w;have ex4:Ex [wl,rl,A.lp,A.tk] H3 (upd H3 wl (.lst us)):=Ex.upd (by simp);have w4:(upd H3 wl (.lst us)) wl=some (.lst us):=dO;have r4:(upd H3 wl (.lst us)) rl=some (.lst rus):=by rw[db hne.symm];exact B.r
    generalize upd H3 wl (.lst us)=H4 at O4 kp4 ex4 w4 r4⊢;have os:=B.so s' (aO _ (.head _));have hwt:=B.wt;rw[gD,gu]at hwt;have hl1:=rS (h:=0) (S:=S') λx hx=>(B.so x (af _ hx)).1;have hl2:=kZ B.ro;have hl3:=d1.length;have hl4:=B.dr.length;have hzs:=B.zs;refine⟨A,bo,F,k,_,ws1,rd,wl,rl,us,rus,s',u1,P,⟨O4,d2.mono kp4,os.1,by lia,w4,r4,hne,nyw,nyr,λa z=>z.2.1,λa z=>z.2.2,by lia,by lia⟩,os.2,λPs rs ws' H5 tkk O5 aft ex5=>?_⟩;obtain⟨⟨pus,w5,dp⟩,rvs,r5,dr5⟩:=aft;have kp5:Kp (Nk A.tk) H4 H5:=by
     obtain⟨n,f,_⟩:=O4.fw;refine O4.kp ex5 (λa ha=>?_);simp only[aB,aF,or_false]at ha;rcases ha with rfl|rfl|rfl|z
     ·exact .inr (.inl ⟨_,w4⟩)
     ·exact .inr (.inl ⟨_,r4⟩)
     ·exact .inr (.inr ⟨_,_,_,f.ob⟩)
     ·exact .inl z
    have kp35:=kp4.trans kp5;have h6:=AG tkk os.1;have h7:=AF tkk os.1;have h8:=JP tkk os.2;have h9:=Eu tkk;have h10:=AE tkk;refine⟨la 1 (S'++Ps),by rw[gD,gD,gu];lia,S'++Ps,R++rs,ws',us++pus,rus++rvs,rfl,⟨O5,w5,r5,(d1.mono λ_ _=>iP.mono kp35).append dp,(B.dr.mono λ_ _=>jV.mono kp35.tup).append dr5,B.ex.trans (ex4.trans ex5),λR' ws'' z=>B.run _ _ (.step tkk z),λx hx=>?_,λr hr=>?_,?_,?_⟩,rfl⟩
    ·rcases aU.mp hx with z|z
     ·exact B.so x (af _ z)
     ·exact⟨h7.1 x z,h8 x z⟩
    ·rcases aU.mp hr with z|z
     ·exact B.ro r z
     ·exact h7.2 r z
    ·rw[gD,mJ];lia
    ·rw[aD];lia
 ·refine⟨λm σ H'=>H'=H2∧σ=[some (.ref A.op),some u,some (.ref rl),some (.ref wl)],⟨0,rfl,rfl⟩,?_⟩;rintro m σ H3 ⟨rfl,rfl⟩;refine⟨.inl (eG.of w2),_,rfl,fW rfl ?_⟩;refine⟨O2.ob,ro.cl,ro.nM,lj,O2.ob,ro.cl,ro.nF,sT,_,rfl,eK (decide_eq_false (by lia)) ?_⟩;exact(k2 hk rl _ s12 hrl r2)
section
variable {A:Ad}{bo:Bo}{F k:Nat}{N:Addr→Prop}{ws:List Str}{rd:List (List Rw)}{H':Hp}
theorem ff.add(O:ff C D A bo F N k ws rd H)(hN:∀a,N a→a≠A.yl)(hy:H A.yl=some (.lst us))(nl:N l)(hl:H l=some (.lst rus))(dr:Al (jV H) R rus):
  ff C D A bo F N k ws (rd++[R]) (upd H A.yl (.lst (us++[.ref l]))):=by
 have ht:fO H (upd H A.yl (.lst (us++[.ref l]))):=fL hy;have hL:∀l xs,N l→H l=some (.lst xs)→(upd H A.yl (.lst (us++[.ref l]))) l=some (.lst xs):=λa xs n z=>by rw[db (hN a n)];exact z
 have hL2:∀a xs,N a→H a=some (.lst xs)→(upd H A.yl (.lst (us++[.ref l]))) a=some (.lst xs):=λa xs n z=>by rw[db (hN a n)];exact z
 obtain⟨n,f,c⟩:=O.fw;obtain⟨us',y1,y2⟩:=O.yl;rw[hy]at y1;cases y1;refine⟨by rw[db O.nOY];exact O.ob,⟨n,⟨by rw[db (fB f.ob hy (by intro z;cases z))];exact f.ob,by rw[db (fB f.dk hy (by intro z;cases z))];exact f.dk⟩,c⟩,by rw[db (fB O.sd hy (by intro z;cases z))];exact O.sd,O.st,O.s1.mono (λ_ z=>z) ht hL2,O.s2.mono (λ_ z=>z) ht hL2,O.s3.mono (λ_ z=>z) ht hL2,_,dO,?_⟩;exact(y2.mono λ_ _=>tQ.mono (λ_ z=>z) ht hL2).append (.one ⟨l,rus,rfl,nl,hL2 _ _ nl hl,dr.mono λ_ _=>jV.mono ht⟩)
theorem ff.dct(O:ff C D A bo F N k ws rd H)(h:H d=some (.dK kvs))(nt:d≠A.tk)(ns:d≠A.sd):ff C D A bo F N k ws rd (upd H d o):=by
 obtain⟨n,f,c⟩:=O.fw;obtain⟨us,y1,y2⟩:=O.yl;have ht:fO H (upd H d o):=AD h;have hL:∀a xs,N a→H a=some (.lst xs)→(upd H d o) a=some (.lst xs):=λa xs n z=>by rw[db (fB z h (by intro z;cases z))];exact z
 exact⟨by rw[db (fB O.ob h (by intro z;cases z))];exact O.ob,⟨n,⟨by rw[db (fB f.ob h (by intro z;cases z))];exact f.ob,by rw[db nt.symm];exact f.dk⟩,c⟩,by rw[db ns.symm];exact O.sd,O.st,O.s1.mono (λ_ z=>z) ht hL,O.s2.mono (λ_ z=>z) ht hL,O.s3.mono (λ_ z=>z) ht hL,us,by rw[db (fB y1 h (by intro z;cases z))];exact y1,y2.mono λ_ _=>tQ.mono (λ_ z=>z) ht hL⟩
theorem ff.rdl(O:ff C D A bo F N k ws rd H):∃us,H A.yl=some (.lst us)∧us.length=rd.length:=by obtain⟨us,y1,y2⟩:=O.yl;exact⟨us,y1,y2.length⟩
theorem ff.kp3(O:ff C D A bo F N k ws rd H)(ht:∀d,tk d→d≠A.tk)(e:Ex [A.lp,A.tk,A.yl] H H'):Kp tk H H':=by
 obtain⟨n,f,_⟩:=O.fw;obtain⟨us,y1,y2⟩:=O.yl;have kp:Kp (Nk A.tk) H H':=O.kp e (λa ha=>by
  simp only[aB,aF,or_false]at ha;rcases ha with rfl|rfl|rfl
  ·exact .inr (.inr ⟨_,_,_,f.ob⟩)
  ·exact .inl rfl
  ·exact .inr (.inl ⟨_,y1⟩))
 exact⟨kp.tup,λd kvs n z=>kp.dct d kvs (ht d n) z⟩
end
inductive FY(C D:Addr)(H:Hp)(Q:VK):List V→Prop where
 | mk(A:Ad)(bo:Bo)(F k:Nat)(N:Addr→Prop)(ws:List Str)(rd:List (List Rw))(s:eE)(u:V)(P:Nat→Nat→Prop)(tk:Addr→Prop)(f0:ff C D A bo F N k ws rd H)(f1:yJ A N H)(f2:(∀d,tk d→d≠A.tk))(f3:iP tk H s u)(f4:s.ok P)(f5:s.wt 0≤4000000)(f6:ws.length≤4000000)(f7:rd.length≤4000000)(f8:∀(m:Mg)(v:V)(rd':List (List Rw))(ws':List Str)(H':Hp),oS (decide (k≤F)) rd ws s m rd' ws'→ff C D A bo F N k ws' rd' H'→ox tk H' m v→Ex [A.lp,A.tk,A.yl] H H'→Q v H'):FY C D H Q [.ref A.op,u]
def Do(C D:Addr):Sp:=λvs H Q _=>FY C D H Q vs
def GV(K:aA)(a_Opening a_FreshWords:Addr):TS:=(fT (fJ (dM (tC (.str "handed")) (dM (dN 1) dW))))
def GU(K:aA)(a_Opening a_FreshWords:Addr):TS:=(fg (tB (eN xU [] E0 (dM (dN 1) dW))) (GV K a_Opening a_FreshWords) fQ)
def Lm(K:aA)(a_Opening a_FreshWords:Addr):TS:=(de (GU K a_Opening a_FreshWords) (de (fD (jm K "list" eY (kG K (dN 0) "ready") (dM (jq a_Opening "rows_of" (pB a_Opening a_FreshWords) [] E0 (dN 0) (dM (dN 1) dW)) dW))) (fT (fJ (dM (tC (.str "ready")) (dM (dz iU (gz (gN K) (dM (kG K (dN 0) "ready") dW)) (tC (.int 1))) dW))))))
theorem NQ(ro:RO K C)(h:Do C D vs H Q E):Lm K C D (gf Q) (start ["self","handed"] vs) H:=by
 obtain⟨A,bo,F,k,N,ws,rd,s,u,P,tk,O,no,ht,sp,ok,z1,z2,z3,kk⟩:=h;refine⟨tk,s,u,rfl,sp,ok.1.2.2.2.1,ok.1.2.2.2.2,λH1 s1 op=>⟨_,rfl,fW rfl ?_⟩,λH1 s1 nop=>⟨_,rfl,eK rfl ?_⟩⟩
 ·refine⟨fG,eZ λp H2 hp s2 g2=>?_⟩;have s12:=s1.trans s2;obtain⟨q,x,pp,d,kvs,rfl,hq,hx,hpp,nd,hd,he⟩:=sp.mono (Kp.same s12);exact kk _ _ _ _ _ (.handed op) (O.same s12) ⟨p,q,x,pp,d,kvs,rfl,g2,hq,hx,hpp,nd,hd,he⟩ (Ex.same s12)
 ·have O1:=O.same s1;have no1:yJ A N H1:=⟨no.y,λa z=>no.f a (s1.free z)⟩;obtain⟨us,y1,yl1⟩:=O1.rdl;have fin2:∀(R:List Rw)(ws':List Str)(l:Addr)(rus:List V)(H2:Hp),oS (decide (k≤F)) rd ws s (.ready rd.length (s.wt 0)) (rd++[R]) ws'→H1 l=none→H2 l=some (.lst rus)→Al (jV H2) R rus→ff C D A bo F N k ws' rd H2→Ex [A.lp,A.tk] H1 H2→
    eY (.ref A.yl) [.ref l] H2 λ_ H3=>(fT (fJ (dM (tC (.str "ready")) (dM (dz iU (gz (gN K) (dM (kG K (dN 0) "ready") dW)) (tC (.int 1))) dW)))) (gf Q) [some (.ref A.op),some u] H3:=by
   intro R ws' l rus H2 mean nl hl dr O2 ex2;obtain⟨us2,y2,yl2⟩:=O2.rdl;refine⟨y2,by rw[sizeLine_eq];lia,?_⟩;have O3:=O2.add no.y y2 (no1.f l nl) hl dr;have y3:(upd H2 A.yl (.lst (us2++[.ref l]))) A.yl=some (.lst (us2++[.ref l])):=dO;have ex3:Ex [A.lp,A.tk,A.yl] H2 (upd H2 A.yl (.lst (us2++[.ref l]))):=Ex.upd (by simp);generalize upd H2 A.yl (.lst (us2++[.ref l]))=H3 at O3 y3 ex3⊢;refine⟨O3.ob,ro.cl,ro.nR,qP,.inl (eG.of y3),fG,λp hp=>?_⟩;have e:(((us2++[V.ref l]).length:Int)-1)=((rd.length:Nat):Int):=by rw[aD];simp;lia
   have s4:=dR (o:=.tup [.str "ready",.int (((us2++[V.ref l]).length:Int)-1)]) hp;refine kk _ _ _ _ _ mean (O3.same s4) ⟨p,rfl,?_⟩ ((Ex.same s1).trans ((ex2.more (by simp)).trans (ex3.trans (Ex.same s4))));rw[dO];dsimp only;rw[e]
  refine⟨O1.ob,ro.cl,ro.nR,qP,.inl ⟨rfl,_,eG.of y1⟩,O1.ob,my,A,bo,F,k,N,ws,rd,s,u,P,O1,no1,(sp.mono (Kp.same s1)).old (λd o _ z=>ht d z),ok,nop,z1,z2,λhk R ws' l rus H2 run nl hl dr O2 ex2=>?_,λhk l H2 s2 nl hl=>?_⟩
  ·exact fin2 R ws' l rus H2 (by rw[decide_eq_true hk];exact .ready nop run) nl hl dr O2 ex2
  ·exact fin2 [] ws l [] H2 (by rw[decide_eq_false hk];exact .late nop) nl hl .nil (O1.same s2) (Ex.same s2)
theorem ET(h:oS go rd ws s m rd' ws')(o:s.ok P):ws'.length≤ws.length+s.wt 0∧rd'.length≤rd.length+1:=by
 cases h with
 | handed p=>exact⟨by lia,by lia⟩
 | @ready _ _ _ _ R p r=>
  have hw:k0 R=s.wt 0:=by rw[vX r,gu,jY];lia
  have h2:=A8 r;have h3:=kZ (vY r (P:=P) (λx hx=>by rw[aG]at hx;exact hx▸o) (λx hx=>by cases hx));simp only[am]at h2;exact⟨by lia,by simp⟩
 | late p=>exact⟨by lia,by simp⟩
inductive Iu(go:Bool)(rd:List (List Rw))(ws:List Str)(s:eE)(ps:List Str):Nat→En→List (List Rw)→List Str→Prop where
 | nil:Iu go rd ws s ps 0 .nil rd ws
 | snoc{i:Nat}{e:En}{rd1 rd2:List (List Rw)}{ws1 ws2:List Str}{p:Str}{t:T}{m:Mg}:Iu go rd ws s ps i e rd1 ws1→ps[i]?=some p→s.t.kids[i]?=some t→oS go rd1 ws1 (s.kid i t) m rd2 ws2→Iu go rd ws s ps (i+1) (e.put p m) rd2 ws2
theorem Iu.len(h:Iu go rd ws s ps i e rd' ws')(o:s.ok P)(w:∀(i:Nat)(t:T),s.t.kids[i]?=some t→(s.kid i t).wt 0≤s.wt 0):ws'.length≤ws.length+i*s.wt 0∧rd'.length≤rd.length+i∧e.nd∧e.len≤i:=by
 induction h with
 | nil=>exact⟨by lia,aC _,aI,aC _⟩
 | @snoc i e _ _ _ _ p t m _ _ ht mean ih=>have h1:=ET mean (kE o (aZ ht));have h2:=w i t ht;have h3:=En.put_len p m e;refine⟨?_,by lia,Bm ih.2.2.1,by lia⟩;rw[aq];lia
theorem CD{a b:Addr}{xs ys:List V}{g:TG}{tb:TS}{D:iT}{σ:St}{H:Hp}(Pv:Nat→St→Hp→Prop)(h0:Pv 0 σ H)(hlen:xs.length=ys.length)(hl:∀i σ H,i≤xs.length→Pv i σ H→eG K H a xs∧eG K H b ys)
  (hs:∀i x y p σ H,xs[i]?=some x→ys[i]?=some y→Pv i σ H→H p=none→g (.ref p) σ (upd H p (.tup [x,y])) λσ2 H2=>tb {D with nx:=Pv (i+1),ct:=Pv (i+1),bk:=D.nx} σ2 H2) (hd:∀σ H,Pv xs.length σ H→D.nx σ H):
  ∃W:Nat→Nat→St→Hp→Prop,(∃m,W 0 m σ H)∧∀i m σ H,W i m σ H→
   ((ze K a b).stop i H∧D.nx σ H)∨((ze K a b).go i H∧∃N:St→Hp→Prop,(∀σ' H',N σ' H'→∃m',m'<m∧W (i+1) m' σ' H')∧∀x H',(ze K a b).yld i H x H'→g x σ H' λσ2 H2=>tb {D with nx:=N,ct:=N,bk:=D.nx} σ2 H2):=by
 refine⟨λi m σ H=>m=xs.length-i∧i≤xs.length∧Pv i σ H,⟨_,rfl,aS _,h0⟩,?_⟩;rintro i m σ H ⟨rfl,hi,pv⟩;obtain⟨q1,q2⟩:=hl _ _ _ hi pv;by_cases e:i=xs.length
 ·subst e;exact .inl ⟨⟨xs,ys,q1,q2,aC _⟩,hd _ _ pv⟩
 ·have hlt:i<xs.length:=by lia
  refine .inr ⟨⟨xs,ys,xs[i],ys[i]'(by lia),q1,q2,aT _,aT _⟩,Pv (i+1),λσ' H' h=>⟨xs.length-(i+1),by lia,rfl,hlt,h⟩,?_⟩;rintro z H' ⟨p,x,y,rfl,hp,rfl,hx,hy⟩;exact hs i x y p σ H (hx xs q1) (hy ys q2) pv hp
inductive FZ(C D:Addr)(H:Hp)(Q:VK):List V→Prop where
 | mk(A:Ad)(bo:Bo)(F k:Nat)(N:Addr→Prop)(ws:List Str)(rd:List (List Rw))(s:eE)(u:V)(P:Nat→Nat→Prop)(f0:ff C D A bo F N k ws rd H)(f1:yJ A N H)(f2:iP (Nk A.tk) H s u)(f3:s.ok P)(f4:kind s.t="stamp")(f5:s.wt 0≤1000000)(f6:ws.length≤1000000)(f7:rd.length≤1000000)(f8:∀(s':eE)(v:V)(rd':List (List Rw))(ws':List Str)(H':Hp),tT bo (decide (k≤F)) rd ws s s' rd' ws'→ff C D A bo F N k ws' rd' H'→iP (Nk A.tk) H' s' v→Ex [A.lp,A.tk,A.yl] H H'→Q v H'):FZ C D H Q [.ref A.op,u]
def Dp(C D:Addr):Sp:=λvs H Q _=>FZ C D H Q vs
def Ak(K:aA)(a_Opening a_FreshWords:Addr):TS:=(lJ (dN 3) (dN 4) (jq a_Opening "meaning_of" (Do a_Opening a_FreshWords) [] E0 (dN 0) (dM (dN 5) dW)))
def HQ(K:aA)(a_Opening a_FreshWords:Addr):TS:=(de (eD ir (dX 3)) (de (iK (By K (dz (eC K) (dN 2) (tC (.int 1))) (eN iu [] E0 (dM (dN 1) dW))) (lz K 2 (gH (dX 4) (gH (dX 5) mB))) (Ak K a_Opening a_FreshWords)) (fT (fJ (dM (dz (eC K) (dN 2) (tC (.int 2))) (dM (dz (eC K) (dN 2) (tC (.int 0))) (dM (fJ dW) (dM (dN 3) dW))))))))
def Lz(K:aA)(a_Opening a_FreshWords:Addr):TS:=(de (eD (qp (kG K (dN 0) "stamps") (dz (eC K) (dz (eC K) (dN 1) (tC (.int 0))) (tC (.int 1)))) (dX 2)) (de (eD ir (dX 3)) (de (iK (By K (dz (eC K) (dN 2) (tC (.int 1))) (eN iu [] E0 (dM (dN 1) dW))) (lz K 2 (gH (dX 4) (gH (dX 5) mB))) (Ak K a_Opening a_FreshWords)) (fT (fJ (dM (dz (eC K) (dN 2) (tC (.int 2))) (dM (dz (eC K) (dN 2) (tC (.int 0))) (dM (fJ dW) (dM (dN 3) dW)))))))))
theorem vj(ro:RO K C)
  (O:ff C D A bo F N k ws rd H) (no:yJ A N H) (sp:iP (Nk A.tk) H s u) (ok:s.ok P) (hs:Co N H w ps body v) (hps:ps.length=s.t.kids.length) (hw0:∀(i:Nat)(t:T),s.t.kids[i]?=some t→(s.kid i t).wt 0≤s.wt 0) (z1:s.wt 0≤1000000) (z2:ws.length≤1000000) (z3:rd.length≤1000000)
  (kk:∀(e:En)(v:V)(rd':List (List Rw))(ws':List Str)(H':Hp),Iu (decide (k≤F)) rd ws s ps ps.length e rd' ws'→ff C D A bo F N k ws' rd' H'→iP (Nk A.tk) H' ⟨body,w,[],e⟩ v→Ex [A.lp,A.tk,A.yl] H H'→Q v H'):
  HQ K C D (gf Q) [some (.ref A.op),some u,some v,none,none,none] H:=by
 obtain⟨pv,pl_,xb,rfl,hst,hpl,npl,hxb⟩:=hs;intro nd hnd;have s1:dy H (upd H nd (.dK [])):=dR hnd;have g1:(upd H nd (.dK [])) nd=some (.dK []):=dO;generalize upd H nd (.dK [])=H1 at s1 g1⊢;obtain⟨n0,f0,_⟩:=O.fw;have ndt:nd≠A.tk:=(dZ f0.dk hnd).symm;have nds:nd≠A.sd:=(dZ O.sd hnd).symm;have sp1:iP (λd=>d≠A.tk∧d≠nd) H1 s u:=(sp.old (tk':=λd=>d≠A.tk∧d≠nd) (λd o h z=>⟨z,dZ h hnd⟩)).mono (Kp.same s1);have path:s.path.length≤1000:=by have:=ok.1.2.1;lia
 have hk3:=Bw s.t;refine⟨eA.of (s1 _ _ hst),dS (j:=1) rfl,_,s,u,rfl,sp1,path,λil us H2 s2 n2 g2 al=>⟨eG.of ((s1.trans s2) _ _ hpl),eG.of g2,?_⟩⟩;have s12:=s1.trans s2;have hal:=al.length;rw[kb]at hal;have O2:=O.same s12;obtain⟨ys,y2,_⟩:=O2.rdl;have nil_:il≠A.yl:=by obtain⟨ys0,y0,_⟩:=O.rdl;exact(dZ (s1 _ _ y0) n2).symm
 refine CD (K:=K) (a:=pl_) (b:=il) (xs:=ps.map V.str) (ys:=us) (λi σ H'=>∃j4 j5 e rd' ws' kvs,σ=[some (.ref A.op),some u,some (.ref pv),some (.ref nd),j4,j5]∧Iu (decide (k≤F)) rd ws s ps i e rd' ws'∧ff C D A bo F N k ws' rd' H'∧H' nd=some (.dK kvs)∧lF (λd=>d≠A.tk∧d≠nd) H' e kvs∧Ex [A.lp,A.tk,A.yl,nd] H2 H'∧Kp (λd=>d≠A.tk∧d≠nd) H2 H')
  ⟨none,none,.nil,rd,ws,[],rfl,.nil,O2,s2 _ _ g1,rfl,.refl,.refl⟩ (by rw[aX];lia) (λi σ H' _ hP=>?_) ?_ ?_
 ·obtain⟨_,_,e,rd',ws',kvs,_,_,O3,hn3,_,ex3,kp3⟩:=hP;obtain⟨n3,f3,_⟩:=O2.fw;have lst:∀l xs,H2 l=some (.lst xs)→l≠A.yl→H' l=some (.lst xs):=λl xs h hy=>ex3 _ _ (λq=>by
   simp only[aB,aF,or_false]at q;rcases q with rfl|rfl|rfl|rfl
   ·rw[f3.ob]at h;cases h
   ·rw[f3.dk]at h;cases h
   ·exact hy rfl
   ·rw[s2 _ _ g1]at h;cases h) h
  exact⟨eG.of (lst _ _ (s12 _ _ hpl) (no.y _ npl)),eG.of (lst _ _ g2 nil_)⟩
 ·rintro i x y p σ H3 hx hy ⟨j4,j5,e,rd',ws',kvs,rfl,ms,O3,hn3,en,ex3,kp3⟩ hp;obtain⟨pl1,hpl1,rfl⟩:∃z,ps[i]?=some z∧x=V.str z:=by
   rw[ac]at hx;cases e:ps[i]? with
   | none=>rw[e]at hx;cases hx
   | some z=>rw[e]at hx;exact⟨z,rfl,(Option.some.inj hx).symm⟩
  have hil:i<us.length:=(aK.mp hy).1;obtain⟨t,ht⟩:∃t,s.t.kids[i]?=some t:=⟨s.t.kids[i]'(by lia),aT _⟩;obtain⟨s',hs',sp'⟩:=al.get hy;rw[pW ht]at hs';cases hs';have s4:=dR (o:=.tup [.str pl1,y]) hp;have g4:(upd H3 p (.tup [.str pl1,y])) p=some (.tup [.str pl1,y]):=dO;generalize upd H3 p (.tup [.str pl1,y])=H4 at s4 g4⊢;have O4:=O3.same s4;have no4:yJ A N H4:=by
   refine⟨no.y,λa z=>no.f a ?_⟩;have z3:=s4.free z;cases q:H a with
   | none=>rfl
   | some o=>
    exfalso;have q2:=s12 _ _ q;obtain⟨n3,f3,_⟩:=O3.fw;obtain⟨ys3,y3,_⟩:=O3.rdl;have:=ex3 a o (λw=>by
     simp only[aB,aF,or_false]at w;rcases w with rfl|rfl|rfl|rfl
     ·rw[f3.ob]at z3;cases z3
     ·rw[f3.dk]at z3;cases z3
     ·rw[y3]at z3;cases z3
     ·rw[hn3]at z3;cases z3) q2
    rw[this]at z3;cases z3
  obtain⟨l1,l2,_,_⟩:=ms.len ok hw0;have hl5:i*s.wt 0≤3*s.wt 0:=bV _ (by lia);refine⟨eA.of g4,rfl,rfl,?_⟩;refine⟨O4.ob,my,A,bo,F,k,N,ws',rd',s.kid i t,y,P,(λd=>d≠A.tk∧d≠nd),O4,no4,λd z=>z.1,sp'.mono (kp3.trans (Kp.same s4)),kE ok (aZ ht),?_,?_,?_,λm v rd2 ws2 H5 mean O5 mg ex5=>?_⟩
  ·have:=hw0 i t ht;lia
  ·lia
  ·lia
  have kp5:Kp (λd=>d≠A.tk∧d≠nd) H4 H5:=O4.kp3 (λd z=>z.1) ex5;have hn5:H5 nd=some (.dK kvs):=by
   refine ex5 _ _ (λw=>?_) (s4 _ _ hn3);obtain⟨n4,f4,_⟩:=O4.fw;obtain⟨ys4,y4,_⟩:=O4.rdl;have hn4:=s4 _ _ hn3;simp only[aB,aF,or_false]at w;rcases w with w|w|w
   ·rw[w,f4.ob]at hn4;cases hn4
   ·exact ndt w
   ·rw[w,y4]at hn4;cases hn4
  have ekl:=wL en;obtain⟨_,_,nd3,el3⟩:=ms.len ok hw0;refine⟨nO.k (k:=.inr pl1) hn5 (kJ (by lia)),?_⟩;have kp6:Kp (λd=>d≠A.tk∧d≠nd) H5 (upd H5 nd (.dK (gA kvs (.inr pl1) v))):=⟨AD hn5,λd kvs z h=>by rw[db z.2];exact h⟩;have kp35:=(Kp.same s4).trans kp5;refine⟨_,_,e.put pl1 m,rd2,ws2,_,rfl,.snoc ms hpl1 ht mean,O5.dct hn5 ndt nds,dO,?_,?_,?_⟩
  ·exact wK (mg.mono kp6) nd3 ((en.mono kp35).mono kp6)
  ·exact ex3.trans ((Ex.same s4).trans ((ex5.more (by simp)).trans (Ex.upd (by simp))))
  ·exact kp3.trans (kp35.trans kp6)
 ·rintro σ H3 ⟨j4,j5,e,rd',ws',kvs,rfl,ms,O3,hn3,en,ex3,kp3⟩;rw[aX]at ms;have hst3:=kp3.tup _ _ (s12 _ _ hst);refine⟨eA.of hst3,dS (j:=2) rfl,eA.of hst3,dS (j:=0) rfl,fG,λte hte=>⟨fG,λr hr=>?_⟩⟩;have s4:=dR (o:=.tup []) hte;have g4:(upd H3 te (.tup [])) te=some (.tup []):=dO;generalize upd H3 te (.tup [])=H4 at s4 g4 hr⊢;have s5:=dR (o:=.tup [xb,.str w,.ref te,.ref nd]) hr;have s45:=s4.trans s5;refine kk e _ rd' ws' _ ms (O3.same s45) ⟨r,xb,te,nd,kvs,rfl,dO,(hxb.mono (dY s12)).mono (kp3.tup.trans (dY s45)),s5 _ _ g4,ndt,s45 _ _ hn3,((en.mono (Kp.same s45)).old λd o _ z=>z.1)⟩ ?_;exact Ex.new (l':=[A.lp,A.tk,A.yl,nd]) (λa ha=>by
   simp only[aB,aF,or_false]at ha⊢;rcases ha with z|z|z|rfl
   ·exact .inl (.inl z)
   ·exact .inl (.inr (.inl z))
   ·exact .inl (.inr (.inr z))
   ·exact .inr hnd) ((Ex.same s12).trans (ex3.trans (Ex.same s45)))
theorem EY(h:SF w 0):w="star":=by
 unfold SF kn at h;split at h
 ·assumption
 ·split at h
  ·cases h
  ·split at h<;>cases h
theorem IX(h:SF w 1):w="sta":=by
 unfold SF kn at h;split at h
 ·cases h
 ·split at h
  ·assumption
  ·split at h<;>cases h
theorem Md(h:SF w 2):w="st":=by
 unfold SF kn at h;split at h
 ·cases h
 ·split at h
  ·cases h
  ·split at h
   ·assumption
   ·cases h
theorem Na(ro:RO K C)(h:Dp C D vs H Q E):Lz K C D (gf Q) (start ["self","spot","stamp","names","place","handed"] vs) H:=by
 obtain⟨A,bo,F,k,N,ws,rd,s,u,P,O,no,sp,ok,hk,z1,z2,z3,kk⟩:=h;obtain⟨q,x,pp,d,kvs,rfl,hq,hx,_⟩:=id sp;have wt:WT SF s.t:=ok.1.1;cases e:s.t with
 | num n=>rw[e]at hk;exact absurd hk (by simp only[kind];decide)
 | name n=>rw[e]at hk;exact absurd hk (by simp only[kind];decide)
 | sum a b=>rw[e]at hk;exact absurd hk (by simp only[kind];decide)
 | less a b=>rw[e]at hk;exact absurd hk (by simp only[kind];decide)
 | cho a b c=>rw[e]at hk;exact absurd hk (by simp only[kind];decide)
 | lt w a b=>rw[e]at hk;exact absurd hk (by simp only[kind];decide)
 | st0 w=>rw[e]at hx wt;obtain⟨p,rfl,hp⟩:=hx;cases EY wt;have dg:=iQ.k (k:=.inr "star") O.sd;rw[Cz,if_pos rfl]at dg;refine⟨O.ob,ro.cl,ro.nS,nj,eA.of hq,dS (j:=0) rfl,eA.of hp,dS (j:=1) rfl,dg,?_⟩;refine vj ro O no sp ok O.s1 (by rw[e];rfl) (λi t ht=>by rw[e]at ht;simp[T.kids]at ht) z1 z2 z3 λe' v rd' ws' H' ms O' sp' ex=>kk _ v rd' ws' H' ?_ O' sp' ex;cases ms;exact .star e
 | st1 w a=>
  rw[e]at hx wt;obtain⟨p,xa,rfl,hp,_⟩:=hx;cases IX wt.1;have dg:=iQ.k (k:=.inr "sta") O.sd;rw[Cz,if_neg KN.symm,if_pos rfl]at dg;have ew:s.wt 0=1+(s.kid 0 a).wt 0:=by unfold eE.wt;rw[e];rfl
  refine⟨O.ob,ro.cl,ro.nS,nj,eA.of hq,dS (j:=0) rfl,eA.of hp,dS (j:=1) rfl,dg,?_⟩;refine vj ro O no sp ok O.s2 (by rw[e];rfl) (λi t ht=>?_) z1 z2 z3 λe' v rd' ws' H' ms O' sp' ex=>kk _ v rd' ws' H' ?_ O' sp' ex
  ·rw[e]at ht
   match i,ht with
   | 0,ht=>cases ht;lia
   | n+1,ht=>simp[T.kids]at ht
  ·cases ms with
   | snoc ms hp1 ht mean=>
   cases ms with
   | nil=>
   rw[e]at ht;cases hp1;cases ht;exact .sta e mean
 | st2 w a b=>
  rw[e]at hx wt;obtain⟨p,xa,xb,rfl,hp,_⟩:=hx;cases Md wt.1;have dg:=iQ.k (k:=.inr "st") O.sd;rw[Cz,if_neg FI.symm,if_neg KM.symm,if_pos rfl]at dg;have ew:s.wt 0=1+(s.kid 0 a).wt 0+(s.kid 1 b).wt 0:=by unfold eE.wt;rw[e];rfl
  refine⟨O.ob,ro.cl,ro.nS,nj,eA.of hq,dS (j:=0) rfl,eA.of hp,dS (j:=1) rfl,dg,?_⟩;refine vj ro O no sp ok O.s3 (by rw[e];rfl) (λi t ht=>?_) z1 z2 z3 λe' v rd' ws' H' ms O' sp' ex=>kk _ v rd' ws' H' ?_ O' sp' ex
  ·rw[e]at ht
   match i,ht with
   | 0,ht=>cases ht;lia
   | 1,ht=>cases ht;lia
   | n+2,ht=>simp[T.kids]at ht
  ·cases ms with
   | snoc ms hp2 ht2 mean2=>
   cases ms with
   | snoc ms hp1 ht1 mean1=>
   cases ms with
   | nil=>
   rw[e]at ht1 ht2;cases hp1;cases ht1;cases hp2;cases ht2;rename_i m1 m2;have ep:∀m n:Mg,En.put (En.put .nil (qw bo.e) m) (zB bo.e) n=.cons (qw bo.e) m (.cons (zB bo.e) n .nil):=λm n=>by simp only[En.put,if_neg (D5 bo.e)]
   rw[ep];exact .st e mean1 mean2
theorem ff.many(O:ff C D A bo F N k ws rd H):ff C D A bo F N j ws rd (upd H A.op (.ins C A.dx (lh A.sd A.lp F j A.yl))):=by
 obtain⟨n,f,c⟩:=O.fw;obtain⟨us,y1,y2⟩:=O.yl;have ht:fO H (upd H A.op (.ins C A.dx (lh A.sd A.lp F j A.yl))):=λb xs e=>by rw[db (fB e O.ob (by intro z;cases z))];exact e
 have hL:∀a xs,N a→H a=some (.lst xs)→(upd H A.op (.ins C A.dx (lh A.sd A.lp F j A.yl))) a=some (.lst xs):=λa xs n z=>by rw[db (fB z O.ob (by intro z;cases z))];exact z
 exact⟨dO,⟨n,⟨by rw[db O.nOL.symm];exact f.ob,by rw[db O.nOT.symm];exact f.dk⟩,c⟩,by rw[db (fB O.sd O.ob (by intro z;cases z))];exact O.sd,O.st,O.s1.mono (λ_ z=>z) ht hL,O.s2.mono (λ_ z=>z) ht hL,O.s3.mono (λ_ z=>z) ht hL,us,by rw[db O.nOY.symm];exact y1,y2.mono λ_ _=>tQ.mono (λ_ z=>z) ht hL⟩
inductive Cb(C D:Addr)(H:Hp)(Q:VK):List V→Prop where
 | mk(A:Ad)(bo:Bo)(F k:Nat)(N:Addr→Prop)(ws:List Str)(rd:List (List Rw))(wl rl:Addr)(wus rus:List V)(s:eE)(u:V)(P:Nat→Nat→Prop)(f0:Kq C D A bo F N k ws rd wl rl wus rus s u P H)(f1:yJ A N H)(f2:s.wt 0≤1000000)(f3:ws.length≤1000000)(f4:rd.length≤1000000)(f5:(∀(P:List eE)(rs:List Rw)(ws':List Str)(H':Hp),Tk ws s P rs ws'→ff C D A bo F N k ws' rd H'→Fc (Nk A.tk) wl rl wus rus P rs H'→Ex [wl,rl,A.lp,A.tk] H H'→Q .non H'))(f6:(∀(s':eE)(rd':List (List Rw))(ws':List Str)(H':Hp),tT bo (decide (k+1≤F)) rd ws s s' rd' ws'→ff C D A bo F N (k+1) ws' rd' H'→Fc (Nk A.tk) wl rl wus rus [s'] [] H'→Ex [wl,A.op,A.lp,A.tk,A.yl] H H'→Q .non H')):Cb C D H Q [.ref A.op,u,.ref wl,.ref rl]
def xQ(C D:Addr):Sp:=λvs H Q _=>Cb C D H Q vs
def Fv(K:aA)(a_Opening a_FreshWords:Addr):TS:=(de (pG K (dN 0) (tC (.int 1)) D1 "many") (fD (jm K "list" eY (dN 2) (dM (jq a_Opening "body_of" (Dp a_Opening a_FreshWords) [] E0 (dN 0) (dM (dN 1) dW)) dW))))
def Fu(K:aA)(a_Opening a_FreshWords:Addr):TS:=(fg (eI (dz kA (dN 4) (tC (.str "stamp")))) (Fv K a_Opening a_FreshWords) (rX K a_Opening a_FreshWords))
def Lb(K:aA)(a_Opening a_FreshWords:Addr):TS:=(de (eD (dz (eC K) (dz (eC K) (dN 1) (tC (.int 0))) (tC (.int 0))) (dX 4)) (Fu K a_Opening a_FreshWords))
theorem L6(ro:RO K C)(h:xQ C D vs H Q E):Lb K C D (gf Q) (start ["self","spot","waiting","rows","kind"] vs) H:=by
 obtain⟨A,bo,F,k,N,ws,rd,wl,rl,wus,rus,s,u,P,B,no,z1,z2,z3,k1,k2⟩:=h;obtain⟨q,x,pp,d,kvs,rfl,hq,hx,hpp,nd,hd,he⟩:=id B.sp;obtain⟨p,ks,rfl,hp,dk⟩:=hx.open;refine⟨eA.of hq,dS (j:=0) rfl,eA.of hp,FO s.t ks,?_⟩;by_cases hk:kind s.t="stamp"
 ·refine⟨rfl,_,rfl,fW (by rw[hk];decide) ?_⟩;refine⟨A.op,C,A.dx,_,_,rfl,B.O.ob,ro.cl,ro.nM,lj,_,_,rfl,rfl,A.dx,_,B.O.ob,IF,?_⟩;rw[IE (j:=k+1) (by lia)];have O1:=B.O.many (j:=k+1);have kp1:Kp (Nk A.tk) H (upd H A.op (.ins C A.dx (lh A.sd A.lp F (k+1) A.yl))):=Kp.ins B.O.ob;have ex1:Ex [wl,A.op,A.lp,A.tk,A.yl] H (upd H A.op (.ins C A.dx (lh A.sd A.lp F (k+1) A.yl))):=Ex.upd (by simp);have w1:(upd H A.op (.ins C A.dx (lh A.sd A.lp F (k+1) A.yl))) wl=some (.lst wus):=by rw[db (fB B.w B.O.ob (by intro z;cases z))];exact B.w
  have r1:(upd H A.op (.ins C A.dx (lh A.sd A.lp F (k+1) A.yl))) rl=some (.lst rus):=by rw[db (fB B.r B.O.ob (by intro z;cases z))];exact B.r
  have no1:yJ A N (upd H A.op (.ins C A.dx (lh A.sd A.lp F (k+1) A.yl))):=⟨no.y,λa z=>no.f a (by
   by_cases e:a=A.op
   ·subst e;rw[dO]at z;cases z
   ·rw[db e]at z;exact z)⟩
  generalize upd H A.op (.ins C A.dx (lh A.sd A.lp F (k+1) A.yl))=H1 at O1 kp1 ex1 w1 r1 no1⊢;refine⟨.inl ⟨rfl,_,eG.of w1⟩,O1.ob,my,A,bo,F,k+1,N,ws,rd,s,_,P,O1,no1,B.sp.mono kp1,B.ok,hk,z1,z2,z3,λs' v rd' ws' H2 opn O2 sp2 ex2=>?_⟩;have lst:∀l xs,H1 l=some (.lst xs)→l≠A.yl→H2 l=some (.lst xs):=λl xs h hy=>ex2 _ _ (λq=>by
   obtain⟨n3,f3,_⟩:=O1.fw;simp only[aB,aF,or_false]at q;rcases q with rfl|rfl|rfl
   ·rw[f3.ob]at h;cases h
   ·rw[f3.dk]at h;cases h
   ·exact hy rfl) h
  have w2:=lst _ _ w1 B.ny;have r2:=lst _ _ r1 B.nz;have hz:=B.z1;refine⟨w2,by rw[sizeLine_eq];lia,?_⟩;refine k2 s' rd' ws' _ opn (O2.lst w2 B.ny B.nw) ⟨⟨[v],dO,.one (sp2.mono (Kp.lst w2))⟩,[],by rw[db B.ne.symm,aa];exact r2,.nil⟩ (ex1.trans ((ex2.more (by simp)).trans (Ex.upd (by simp))))
 ·exact⟨rfl,_,rfl,eK (nk hk) (BE B hk k1)⟩
inductive nI(C D:Addr)(H:Hp)(Q:VK):List V→Prop where
 | mk(A:Ad)(bo:Bo)(F:Nat)(N:Addr→Prop)(ws:List Str)(t:T)(u:V)(f0:ff C D A bo F N 0 ws [] H)(f1:yJ A N H)(f2:iP (Nk A.tk) H ⟨t,"",[],.nil⟩ u)(f3:tV bo)(f4:BT t [] 0)(f5:(∀st,tX bo F (st0 t ws) st→st.k≤F→Cd st))(f6:∀(st:ou)(l:Addr)(rus:List V)(H':Hp),tX bo F (st0 t ws) st→(st.k≤F→st.S=[])→H l=none→H' l=some (.lst rus)→Al (jV H') st.R rus→ff C D A bo F N st.k st.ws st.rd H'→Ex [A.op,A.lp,A.tk,A.yl] H H'→Q (.ref l) H'):nI C D H Q [.ref A.op,u]
def mZ(C D:Addr):Sp:=λvs H Q _=>nI C D H Q vs
theorem BC{C D:Addr}{H:Hp}{Q:VK}{vs vs':List V}(h:nI C D H Q vs')(e:vs=vs'):nI C D H Q vs:=e▸h
def AL(K:aA)(a_Opening a_FreshWords:Addr):TS:=(fD (jq a_Opening "take" (xQ a_Opening a_FreshWords) [] E0 (dN 0) (dM (mW K "list" mf (dN 3)) (dM (dN 3) (dM (dN 2) dW)))))
def GD(K:aA)(a_Opening a_FreshWords:Addr):TS:=(de (eD (fR dW) (dX 2)) (de (eD (fR (dM (dN 1) dW)) (dX 3)) (de (iE (kH (eI (dz og (gz (gN K) (dM (dN 3) dW)) (tC (.int 0)))) (eI (dz Dz (kG K (dN 0) "many") (kG K (dN 0) "fuel")))) (AL K a_Opening a_FreshWords)) (fT (dN 2)))))
structure Ko(C D:Addr)(A:Ad)(bo:Bo)(F:Nat)(N:Addr→Prop)(wl rl:Addr)(t:T)(ws:List Str)(H2:Hp)(st:ou)(wus rus:List V)(H':Hp):Prop where
 rch:tX bo F (st0 t ws) st
 O:ff C D A bo F N st.k st.ws st.rd H'
 no:yJ A N H'
 w:H' wl=some (.lst wus)
 r:H' rl=some (.lst rus)
 dw:Al (iP (Nk A.tk) H') st.S wus
 dr:Al (jV H') st.R rus
 ex:Ex [wl,rl,A.op,A.lp,A.tk,A.yl] H2 H'
def Nr(C D:Addr)(A:Ad)(bo:Bo)(F:Nat)(N:Addr→Prop)(wl rl:Addr)(t:T)(ws:List Str)(H2:Hp)(u:V)(m:Nat)(σ:St)(H':Hp):Prop:=∃st wus rus,σ=[some (.ref A.op),some u,some (.ref rl),some (.ref wl)]∧Ko C D A bo F (λa=>N a∧a≠wl∧a≠rl) wl rl t ws H2 st wus rus H'∧m=mu F t.size st
theorem Je(ro:RO K C)(h:mZ C D vs H Q E):GD K C D (gf Q) (start ["self","spot","rows","waiting"] vs) H:=by
 obtain⟨A,bo,F,N,ws,t,u,O,no,sp,bk,bt,sm,kk⟩:=h;refine⟨fG,λrl hrl=>⟨fG,λwl hwl=>?_⟩⟩;have s1:dy H (upd H rl (.lst [])):=dR hrl;have s2:=dR (o:=.lst [u]) hwl;have hne:wl≠rl:=(dZ (dO (H:=H) (a:=rl) (o:=.lst [])) hwl).symm;have r2:(upd (upd H rl (.lst [])) wl (.lst [u])) rl=some (.lst []):=s2 _ _ dO;have w2:(upd (upd H rl (.lst [])) wl (.lst [u])) wl=some (.lst [u]):=dO;have hwl0:H wl=none:=s1.free hwl;have s12:=s1.trans s2;generalize upd (upd H rl (.lst [])) wl (.lst [u])=H2 at s2 r2 w2 s12⊢;clear s1 s2 hwl;obtain⟨ys,hy,_⟩:=O.rdl;have O2:ff C D A bo F (λa=>N a∧a≠wl∧a≠rl) 0 ws [] H2:=(O.weak (N':=λa=>N a∧a≠wl∧a≠rl) λa o h n=>⟨n,dZ h hwl0,dZ h hrl⟩).same s12;have no2:yJ A (λa=>N a∧a≠wl∧a≠rl) H2:=⟨λa z=>no.y a z.1,λa z=>⟨no.f a (s12.free z),(dZ w2 z).symm,(dZ r2 z).symm⟩⟩;have nyw:wl≠A.yl:=(dZ hy hwl0).symm;have nyr:rl≠A.yl:=(dZ hy hrl).symm;have I0:eV F t.size (st0 t ws):=kX bt;refine⟨Nr C D A bo F N wl rl t ws H2 u,⟨_,st0 t ws,[u],[],rfl,?_,rfl⟩,?_⟩
 ·exact⟨.refl,O2,no2,w2,r2,.one (sp.mono (Kp.same s12)),.nil,.refl⟩
 ·rintro m σ H3 ⟨st,wus,rus,rfl,B,rfl⟩;have I:=pH bk B.rch I0;have done:(st.k≤F→st.S=[])→Q (.ref rl) H3:=λz=>
   kk st rl rus H3 B.rch z hrl B.r B.dr (B.O.weak (N':=N) λa o h n=>n.1) (Ex.new (l':=[wl,rl,A.op,A.lp,A.tk,A.yl]) (λa ha=>by
     simp only[aB,aF,or_false]at ha⊢;rcases ha with rfl|rfl|z|z|z|z
     ·exact .inr hwl0
     ·exact .inr hrl
     ·exact .inl (.inl z)
     ·exact .inl (.inr (.inl z))
     ·exact .inl (.inr (.inr (.inl z)))
     ·exact .inl (.inr (.inr (.inr z)))) ((Ex.same s12).trans B.ex))
  refine⟨.inl (eG.of B.w),_,rfl,?_⟩;by_cases hv:wus=[]
  ·subst hv;refine eK rfl (eK rfl ?_);exact(done λ_=>cH.mp B.dw.length.symm)
  ·refine fW (decide_eq_true (by have:=dJ.mpr hv;lia)) ?_;refine⟨B.O.ob,ro.cl,ro.nM,lj,B.O.ob,ro.cl,ro.nF,sT,_,rfl,?_⟩;by_cases hk:st.k≤F
   ·refine fW (decide_eq_true (by lia)) ?_;obtain⟨us,u1,rfl⟩:=gK hv;obtain⟨S,R,k,ws1,rd⟩:=st;obtain⟨S',s',rfl,d1,d2⟩:=B.dw.snoc;refine⟨λσ' H'=>∃m',m'<mu F t.size ⟨S'++[s'],R,k,ws1,rd⟩∧Nr C D A bo F N wl rl t ws H2 u m' σ' H',λ_ _ h=>h,?_⟩;refine⟨B.O.ob,my,.inl ⟨rfl,_,eG.of B.w⟩,B.w,jT,?_⟩;rw[iZ];have O4:=B.O.lst (o:=.lst us) B.w nyw (λa z=>z.2.1);have kp4:Kp (Nk A.tk) H3 (upd H3 wl (.lst us)):=Kp.lst B.w;have ex4:Ex [wl,rl,A.op,A.lp,A.tk,A.yl] H3 (upd H3 wl (.lst us)):=Ex.upd (by simp);have w4:(upd H3 wl (.lst us)) wl=some (.lst us):=dO;have r4:(upd H3 wl (.lst us)) rl=some (.lst rus):=by rw[db hne.symm];exact B.r
    have no4:yJ A (λa=>N a∧a≠wl∧a≠rl) (upd H3 wl (.lst us)):=⟨B.no.y,λa z=>B.no.f a (by
     by_cases e:a=wl
     ·subst e;rw[dO]at z;cases z
     ·rw[db e]at z;exact z)⟩
    generalize upd H3 wl (.lst us)=H4 at O4 kp4 ex4 w4 r4 no4⊢;have os:=I.so s' (aO _ (.head _));have SM:=sm _ B.rch hk;have hwt:=SM.wt;have hzs:=SM.ws;have hkk:k≤400000:=SM.k;simp only[gD,gu]at hwt hzs;have hl1:=rS (h:=0) (S:=S') λx hx=>I.so x (af _ hx);have hl2:=kZ I.ro;have hl3:=d1.length;have hl4:=B.dr.length;have hdl:=I.dl;simp only at hl2 hl4 hdl;have hk':k≤F:=hk;have nxt:∀(st':ou)(P:List eE)(rs:List Rw)(H5:Hp),FU bo F ⟨S'++[s'],R,k,ws1,rd⟩ st'→st'.S=S'++P→st'.R=R++rs→ff C D A bo F (λa=>N a∧a≠wl∧a≠rl) st'.k st'.ws st'.rd H5→Fc (Nk A.tk) wl rl us rus P rs H5→Ex [wl,rl,A.op,A.lp,A.tk,A.yl] H4 H5→
      ∃m',m'<mu F t.size ⟨S'++[s'],R,k,ws1,rd⟩∧∃st wus rus,([some (.ref A.op),some u,some (.ref rl),some (.ref wl)]:St)=[some (.ref A.op),some u,some (.ref rl),some (.ref wl)]∧Ko C D A bo F (λa=>N a∧a≠wl∧a≠rl) wl rl t ws H2 st wus rus H5∧m'=mu F t.size st:=by
     intro st' P rs H5 stp eS eR O5 aft ex5;obtain⟨⟨pus,w5,dp⟩,rvs,r5,dr5⟩:=aft;obtain⟨n4,f4,_⟩:=O4.fw;obtain⟨ys4,y4,_⟩:=O4.rdl;have kp5:Kp (Nk A.tk) H4 H5:=O4.kp ex5 (λa ha=>by
      simp only[aB,aF,or_false]at ha;rcases ha with rfl|rfl|rfl|rfl|z|rfl
      ·exact .inr (.inl ⟨_,w4⟩)
      ·exact .inr (.inl ⟨_,r4⟩)
      ·exact .inr (.inr ⟨_,_,_,O4.ob⟩)
      ·exact .inr (.inr ⟨_,_,_,f4.ob⟩)
      ·exact .inl z
      ·exact .inr (.inl ⟨_,y4⟩))
     have kp35:=kp4.trans kp5;have no5:yJ A (λa=>N a∧a≠wl∧a≠rl) H5:=⟨no4.y,λa z=>no4.f a (by
      cases q:H4 a with
      | none=>rfl
      | some o=>
       exfalso;obtain⟨n5,f5,_⟩:=O5.fw;obtain⟨ys5,y5,_⟩:=O5.rdl;have:=ex5 a o (λw=>by
        simp only[aB,aF,or_false]at w;rcases w with rfl|rfl|rfl|rfl|rfl|rfl
        ·rw[w5]at z;cases z
        ·rw[r5]at z;cases z
        ·rw[O5.ob]at z;cases z
        ·rw[f5.ob]at z;cases z
        ·rw[f5.dk]at z;cases z
        ·rw[y5]at z;cases z) q
       rw[this]at z;cases z)⟩
     refine⟨_,HW bk stp I hk,st',us++pus,rus++rvs,rfl,⟨.step B.rch hk stp,O5,no5,w5,r5,?_,?_,B.ex.trans (ex4.trans ex5)⟩,rfl⟩
     ·rw[eS];exact(d1.mono λ_ _=>iP.mono kp35).append dp
     ·rw[eR];exact(B.dr.mono λ_ _=>jV.mono kp35.tup).append dr5
    refine⟨A,bo,F,k,_,ws1,rd,wl,rl,us,rus,s',u1,_,⟨O4,d2.mono kp4,os,by lia,w4,r4,hne,nyw,nyr,λa z=>z.2.1,λa z=>z.2.2,by lia,by lia⟩,no4,by lia,by lia,by lia,λPs rs ws' H5 tkk O5 aft ex5=>?_,λs2 rd' ws' H5 opn O5 aft ex5=>?_⟩
    ·exact nxt _ Ps rs H5 (.take tkk) rfl rfl O5 aft (ex5.more (by simp only[aB,aF,or_false];rintro a (z|z|z|z)<;>simp[z]))
    ·exact nxt _ [s2] [] H5 (.opn opn) rfl (aa _).symm O5 aft (ex5.more (by simp only[aB,aF,or_false];rintro a (z|z|z|z|z)<;>simp[z]))
   ·refine eK (decide_eq_false (by lia)) ?_;exact(done λz=>absurd z hk)
theorem Kg(ha:H a=some (.tup xs))(hb:H b=some (.tup ys))(hl:xs.length+ys.length≤sizeLine)(k:∀r H',dy H H'→H' r=some (.tup (xs++ys))→Q (.ref r) H'):qN K (.ref a) (.ref b) H Q:=
 ⟨eA.of ha,eA.of hb,hl,λe=>k b H (dy.refl _) (by rw[e];exact hb),λ_ e=>k a H (dy.refl _) (by rw[e,aa];exact ha),λ_ _ p hp=>k p _ (dR hp) dO⟩
def lC(N:Addr→Prop)(H:Hp)(w:T×List kx)(v:V):Prop:=∃p x l us,v=.ref p∧H p=some (.tup [x,.ref l])∧gG H w.1 x∧H l=some (.lst us)∧Al (lD H) w.2 us∧N l
theorem lC.mono(s:dy H H')(h:lC N H w v):lC N H' w v:=by obtain⟨p,x,l,us,e,h1,h2,h3,h4,h5⟩:=h;exact⟨p,x,l,us,e,s _ _ h1,h2.mono (dY s),s _ _ h3,h4.mono λ_ _=>lD.mono (dY s),h5⟩
theorem lC.weak(hN:∀l,N l→N' l)(h:lC N H w v):lC N' H w v:=by obtain⟨p,x,l,us,e,h1,h2,h3,h4,h5⟩:=h;exact⟨p,x,l,us,e,h1,h2,h3,h4,hN l h5⟩
theorem lC.put(hw:H wl=some (.lst xs))(h:lC (λl=>l≠wl) H w v):lC (λl=>l≠wl) (upd H wl o) w v:=by obtain⟨p,x,l,us,e,h1,h2,h3,h4,h5⟩:=h;exact⟨p,x,l,us,e,(fL hw) _ _ h1,h2.mono (fL hw),by rw[db h5];exact h3,h4.mono λ_ _=>lD.mono (fL hw),h5⟩
theorem II(hl:ts.length=h.ar)(d:Al (gG H) ts us)(hq:H q=some (.tup (h.vs++us))):gG H (vw h ts) (.ref q):=by
 cases h with
 | num n=>match ts,hl with
  | [],_=>cases d;exact⟨q,rfl,hq⟩
 | name n=>match ts,hl with
  | [],_=>cases d;exact⟨q,rfl,hq⟩
 | sum=>match ts,hl with
  | [a,b],_=>cases d with|cons d1 d=>cases d with|cons d2 d=>cases d;exact⟨q,_,_,rfl,hq,d1,d2⟩
 | less=>match ts,hl with
  | [a,b],_=>cases d with|cons d1 d=>cases d with|cons d2 d=>cases d;exact⟨q,_,_,rfl,hq,d1,d2⟩
 | cho=>match ts,hl with
  | [a,b,c],_=>cases d with|cons d1 d=>cases d with|cons d2 d=>cases d with|cons d3 d=>cases d;exact⟨q,_,_,_,rfl,hq,d1,d2,d3⟩
 | lt w=>match ts,hl with
  | [a,b],_=>cases d with|cons d1 d=>cases d with|cons d2 d=>cases d;exact⟨q,_,_,rfl,hq,d1,d2⟩
def Lt(m:Nat)(n z:Nat):Prop:=n<m
theorem zV{α:Type}{l:List α}{i:Nat}{x:α}(hi:i<l.length)(hx:l[l.length-1-i]?=some x):l.drop (l.length-(i+1))=x::l.drop (l.length-i):=by
 obtain⟨h1,h2⟩:=aK.mp hx;have e:l.length-(i+1)=l.length-1-i:=by lia
 rw[e,bM h1,h2]
 congr 2
 lia
def Dn:Sp:=λvs H Q _=>∃(N:Addr→Prop)(rl wl:Addr)(R:List Rw)(rus:List V)(W:List (T×List kx))(wus:List V),vs=[.ref rl,.ref wl]∧H rl=some (.lst rus)∧Al (jV H) R rus∧H wl=some (.lst wus)∧Al (lC N H) W wus∧Bd R 1∧(∀r∈R,r.ok (Lt W.length))∧R.length≤9000000∧
 ∀(v:V)(t:T)(H':Hp),dy H H'→mH (W.map Prod.fst) R=[t]→gG H' t v→Q v H'
def GI(K:aA):TS:=(fD (jm K "list" eY (dN 2) (dM (dz (eC K) (dz (gL K) (dN 1) (dz (eC K) (dN 3) (tC (.int 1)))) (tC (.int 0))) dW)))
def GH(K:aA):TS:=(fD (jm K "list" eY (dN 4) (dM (mW K "list" mf (dN 2)) dW)))
def AQ(K:aA):TS:=(de (eD (fR dW) (dX 4)) (de (iE (eI (dz yz (gz (gN K) (dM (dN 4) dW)) (dz (eC K) (dN 3) (tC (.int 2))))) (GH K)) (fD (jm K "list" eY (dN 2) (dM (dz (qN K) (dz (eC K) (dN 3) (tC (.int 1))) (gz (nC K) (dM (dN 4) dW))) dW)))))
def GG(K:aA):TS:=(fg (eI (dz kA (dz (eC K) (dN 3) (tC (.int 0))) (tC (.str "ready")))) (GI K) (AQ K))
def Lh(K:aA):TS:=(de (eD (fR dW) (dX 2)) (de (iK (Bz K (dN 0)) (dX 3) (GG K)) (fT (mW K "list" mf (dN 2)))))
theorem OG(h:Hd):h.ar≤3:=by cases h<;>simp[Hd.ar]
theorem Ma(h:Hd):h.vs.length≤2:=by cases h<;>simp[Hd.vs]
def Nu(rl wl ml p il:Addr)(h:Hd)(m:List T)(H₀ H:Hp)(mm:Nat)(σ:St)(H':Hp):Prop:=∃(j:Nat)(us ius:List V),σ=[some (.ref rl),some (.ref wl),some (.ref ml),some (.ref p),some (.ref il)]∧j≤h.ar∧dy H₀ H'∧fO H H'∧H' ml=some (.lst us)∧H' il=some (.lst ius)∧Al (gG H') (m.take j) ius∧Al (gG H') (m.drop j).reverse us∧mm=h.ar-j
theorem Hh{rl wl ml p:Addr}{h:Hd}{src:Str}{path:List Nat}{m:List T}{mus:List V}{H₀:Hp}{j4:Option V}{Dd:iT}(s0:dy H₀ H)(nm:H₀ ml=none)(hr:jV H (.row h src path) (.ref p))(hm:H ml=some (.lst mus))(dm:Al (gG H) m.reverse mus)(ha:h.ar≤m.length)(hz:m.length≤9000000)
  (k:∀(j4:Option V)(us:List V)(H':Hp),dy H₀ H'→H' ml=some (.lst us)→Al (gG H') (vw h (m.take h.ar)::m.drop h.ar).reverse us→Dd.nx [some (.ref rl),some (.ref wl),some (.ref ml),some (.ref p),j4] H'):
  AQ K Dd [some (.ref rl),some (.ref wl),some (.ref ml),some (.ref p),j4] H:=by
 obtain⟨p',hp,sx,e,hrow,hhd,hsx⟩:=hr;cases e;have har:=OG h;refine⟨fG,λil hil=>?_⟩;have s1:dy H (upd H il (.lst [])):=dR hil;have i1:(upd H il (.lst [])) il=some (.lst []):=dO;have nim:il≠ml:=(dZ hm hil).symm;have hil0:H₀ il=none:=s0.free hil;generalize upd H il (.lst [])=H1 at s1 i1⊢;refine⟨Nu rl wl ml p il h m H₀ H,
  ⟨_,0,mus,[],rfl,aS _,s0.trans s1,dY s1,s1 _ _ hm,i1,.nil,dm.mono λ_ _=>gG.mono (dY s1),rfl⟩,?_⟩
 rintro mm σ H2 ⟨j,us,ius,rfl,hj,s2,t2,m2,i2,di,du,rfl⟩;have hli:=di.length;rw[aj,bp (by lia)]at hli;have row2:=t2 _ _ hrow;refine⟨.inl (eG.of i2),eA.of row2,dS (j:=2) rfl,_,rfl,?_⟩;by_cases hlt:j<h.ar
 ·refine fW (decide_eq_true (by lia)) ?_;refine⟨λσ' H'=>∃m',m'<h.ar-j∧Nu rl wl ml p il h m H₀ H m' σ' H',λ_ _ z=>z,?_⟩;obtain⟨x,hx⟩:∃x,m[j]?=some x:=⟨m[j]'(by lia),aT _⟩;have hd:m.drop j=x::m.drop (j+1):=by obtain⟨h1,h2⟩:=aK.mp hx;rw[bM h1,h2]
  rw[hd,ao]at du;have hne:us≠[]:=λz=>by have:=du.length;rw[z]at this;simp at this
  obtain⟨us,u1,rfl⟩:=gK hne;obtain⟨bs,b,eb,d1,d2⟩:=du.snoc;obtain⟨rfl,rfl⟩:bs=(m.drop (j+1)).reverse∧b=x:=by have:=cf eb rfl;exact⟨this.1.symm,by simpa using this.2.symm⟩
  refine⟨.inl ⟨rfl,_,eG.of i2⟩,.inl ⟨rfl,_,eG.of m2⟩,m2,jT,?_⟩;rw[iZ];have t3:fO H2 (upd H2 ml (.lst us)):=fL m2;have s3:dy H₀ (upd H2 ml (.lst us)):=eF s2 nm;have m3:(upd H2 ml (.lst us)) ml=some (.lst us):=dO;have i3:(upd H2 ml (.lst us)) il=some (.lst ius):=by rw[db nim];exact i2
  generalize upd H2 ml (.lst us)=H3 at t3 s3 m3 i3⊢;refine⟨i3,by rw[sizeLine_eq];lia,?_⟩;have t4:fO H3 (upd H3 il (.lst (ius++[u1]))):=fL i3;refine⟨h.ar-(j+1),by lia,j+1,us,ius++[u1],rfl,hlt,eF s3 hil0,t2.trans (t3.trans t4),by rw[db nim.symm];exact m3,dO,?_,d1.mono λ_ _=>gG.mono (t3.trans t4),rfl⟩;rw[ax,hx];exact(di.mono λ_ _=>gG.mono (t3.trans t4)).append (.one (d2.mono (t3.trans t4)))
 ·refine eK (decide_eq_false (by lia)) ?_;have ej:j=h.ar:=by lia
  subst ej;have hhd2:=t2 _ _ hhd;have hv2:=Ma h;refine⟨.inl ⟨rfl,_,eG.of m2⟩,eA.of row2,dS (j:=1) rfl,il,_,rfl,.inl ⟨eG.of i2,eZ λq H3 hq s3 g3=>?_⟩⟩;refine Kg (s3 _ _ hhd2) g3 (by rw[sizeLine_eq];lia) λr H4 s4 g4=>?_;have s24:=s3.trans s4;have m4:=s24 _ _ m2;have dul:=du.length;rw[bL,ah]at dul;refine⟨m4,by rw[sizeLine_eq];lia,?_⟩;have t5:fO H4 (upd H4 ml (.lst (us++[.ref r]))):=fL m4;refine k _ _ _ (eF (s2.trans s24) nm) dO ?_;rw[ao];refine((du.mono λ_ _=>gG.mono (dY s24)).mono λ_ _=>gG.mono t5).append (.one ?_);refine II (by rw[aj];lia) ((di.mono λ_ _=>gG.mono (dY s24)).mono λ_ _=>gG.mono t5) (t5 _ _ g4)
theorem NL(h:Dn vs H Q E):Lh K (gf Q) (start ["rows","written","made","row","inner"] vs) H:=by
 obtain⟨N,rl,wl,R,rus,W,wus,rfl,hr,dr,hw,dw,bd,rok,hz,k⟩:=h;refine⟨fG,eZ λml H1 hml s1 m1=>?_⟩;have hrl:=dr.length;refine⟨eG.of (s1 _ _ hr),?_⟩;refine uo (K:=K) (a:=rl) (xs:=rus) (λi σ H'=>∃(j3 j4:Option V)(mus:List V),σ=[some (.ref rl),some (.ref wl),some (.ref ml),j3,j4]∧dy H H'∧H' ml=some (.lst mus)∧Al (gG H') (mH (W.map Prod.fst) (R.drop (R.length-i))).reverse mus)
  ⟨none,none,[],rfl,s1,m1,by rw[bg,List.drop_length];exact .nil⟩ (λi σ H' _ hP=>?_) ?_ ?_
 ·obtain⟨_,_,_,_,s,_⟩:=hP;exact eG.of (s _ _ hr)
 ·rintro i y σ H2 hi hy ⟨j3,j4,mus,rfl,s2,m2,dm⟩;obtain⟨r,hrr,rat⟩:=dr.get hy;rw[hrl]at hrr hi;have hdr:=zV hi hrr;have rat:=rat.mono (dY s2);obtain⟨c,hbd⟩:∃c,Bd (R.drop (R.length-(i+1))) c:=yG (a:=R.take (R.length-(i+1))) (by rw[cF];exact bd);rw[hdr]at hbd;have hbl:∃c,Bd (R.drop (R.length-i)) (r.ar+c):=by
   cases hbd with
   | cons hb=>exact⟨_,hb⟩
  obtain⟨c,hbl⟩:=hbl;have hml2:=pR (W:=W.map Prod.fst) hbl;have hbz:(mH (W.map Prod.fst) (R.drop (R.length-i))).length≤9000000:=by
   have:∀{b:List Rw}{c:Nat},Bd b c→c≤b.length:=λh=>by
    induction h with
    | nil=>exact aC _
    | cons _ ih=>rw[aE];lia
   have:=this hbl;rw[ah]at this;lia
  rw[hdr];cases r with
  | rdy n z=>
   obtain⟨p,rfl,hp⟩:=rat;have hn:n<W.length:=(rok _ (aZ hrr)).2;obtain⟨w,hW⟩:∃w,W[n]?=some w:=⟨W[n],aT _⟩;obtain⟨v,hv,pw,xw,lw,usw,rfl,hpw,dxw,_⟩:=dw.getA hW;refine⟨eA.of hp,dS (j:=0) rfl,rfl,_,rfl,fW (by decide) ?_⟩;have dml:=dm.length;rw[bL]at dml;refine⟨.inl ⟨rfl,_,eG.of m2⟩,eA.of hp,dS (j:=1) rfl,eG.of (s2 _ _ hw),dS hv,eA.of (s2 _ _ hpw),dS (j:=0) rfl,m2,by rw[sizeLine_eq];lia,?_⟩;have t3:fO H2 (upd H2 ml (.lst (mus++[xw]))):=fL m2;refine⟨_,_,mus++[xw],rfl,eF s2 hml,dO,?_⟩;have eW:(W.map Prod.fst)[n]?.getD (.num 0)=w.1:=by rw[ac,hW];rfl
   simp only[mH,ye,eW,ao];exact(dm.mono λ_ _=>gG.mono t3).append (.one ((dxw.mono (dY s2)).mono t3))
  | row h src path=>
   have rat0:=rat;obtain⟨p,hp,sx,rfl,hrow,hhd,hsx⟩:=rat;refine⟨eA.of hrow,dS (j:=0) rfl,rfl,_,rfl,eK (by decide) ?_⟩;have har:h.ar≤(mH (W.map Prod.fst) (R.drop (R.length-i))).length:=by rw[hml2];simp only[Rw.ar];lia
   exact Hh s2 hml rat0 m2 dm har (by lia) λj4 us H3 s3 m3 d3=>⟨_,_,us,rfl,s3,m3,by simp only[mH,ye];exact d3⟩
 ·rintro σ H2 ⟨j3,j4,mus,rfl,s2,m2,dm⟩;rw[hrl,bH,ag]at dm;have hl:=pR (W:=W.map Prod.fst) bd;obtain⟨t,ht⟩:=List.length_eq_one_iff.mp hl;rw[ht]at dm;cases dm with|cons d0 dn=>cases dn with|nil=>
  refine⟨.inl ⟨rfl,_,eG.of m2⟩,m2,rfl,?_⟩;exact k _ t _ (eF s2 hml) ht (d0.mono (fL m2))
def Mu(W:List (T×List kx))(n z:Nat):Prop:=∃w,W[n]?=some w∧w.2.length≤z
def Jb:Sp:=λvs H Q _=>∃(N:Addr→Prop)(rl wl:Addr)(R:List Rw)(rus:List V)(W:List (T×List kx))(wus:List V),vs=[.ref rl,.ref wl]∧H rl=some (.lst rus)∧Al (jV H) R rus∧H wl=some (.lst wus)∧Al (lC N H) W wus∧(∀r∈R,r.ok (Mu W))∧k0 R≤9000000∧
 ∀(l:Addr)(us:List V)(H':Hp),dy H H'→H l=none→H' l=some (.lst us)→Al (lD H') (io (W.map Prod.snd) R) us→Q (.ref l) H'
def Fy(K:aA):TS:=(fD (jm K "list" mh (dN 2) (dM (dz (eC K) (dz (gL K) (dN 1) (dz (eC K) (dN 3) (tC (.int 1)))) (tC (.int 1))) dW)))
def Fx(K:aA):TS:=(fD (jm K "list" eY (dN 2) (dM (dz (eC K) (dN 3) (tC (.int 3))) dW)))
def Fw(K:aA):TS:=(fg (eI (dz kA (dz (eC K) (dN 3) (tC (.int 0))) (tC (.str "ready")))) (Fy K) (Fx K))
def Ld(K:aA):TS:=(de (eD (fR dW) (dX 2)) (de (iK (i0 K (dN 0)) (dX 3) (Fw K)) (fT (dN 2))))
theorem C3(R:List Rw)(i:Nat):k0 (R.take i)≤k0 R:=by have e:=mJ (R.take i) (R.drop i);rw[cF]at e;lia
theorem NI(h:Jb vs H Q E):Ld K (gf Q) (start ["rows","written","sources","row"] vs) H:=by
 obtain⟨N,rl,wl,R,rus,W,wus,rfl,hr,dr,hw,dw,rok,hz,k⟩:=h;refine⟨fG,eZ λsl H1 hsl s1 m1=>?_⟩;have hrl:=dr.length;have rokS:∀r∈R,r.ok (Mt (W.map Prod.snd)):=λr h=>Rw.ok_mono (λn z ⟨w,e,l⟩=>⟨w.2,by rw[ac,e];rfl,l⟩) (rok r h);refine⟨eG.of (s1 _ _ hr),?_⟩;refine gT (K:=K) (a:=rl) (xs:=rus) (λi σ H'=>∃(j3:Option V)(sus:List V),σ=[some (.ref rl),some (.ref wl),some (.ref sl),j3]∧dy H H'∧H' sl=some (.lst sus)∧Al (lD H') (io (W.map Prod.snd) (R.take i)) sus)
  ⟨none,[],rfl,s1,m1,.nil⟩ (λi σ H' _ hP=>?_) ?_ ?_
 ·obtain⟨_,_,_,s,_⟩:=hP;exact eG.of (s _ _ hr)
 ·rintro i y σ H2 hi ⟨j3,sus,rfl,s2,m2,ds⟩;obtain⟨r,hrr,rat⟩:=dr.get hi;have rat:=rat.mono (dY s2);have htk:R.take (i+1)=R.take i++[r]:=by rw[ax,hrr];rfl
  have hsl1:=ds.length;have hsl2:=mY (W:=W.map Prod.snd) (b:=R.take (i+1)) λr h=>rokS r (dI h);have hsl3:=C3 R (i+1);rw[htk,hG,aD]at hsl2;rw[htk]at hsl3⊢;rw[hG];cases r with
  | rdy n z=>
   obtain⟨p,rfl,hp⟩:=rat;obtain⟨_,w,hW,hwl⟩:=rok _ (aZ hrr);obtain⟨v,hv,pw,xw,lw,usw,rfl,hpw,dxw,hlw,dlw,_⟩:=dw.getA hW;have eW:(W.map Prod.snd)[n]?.getD []=w.2:=by rw[ac,hW];rfl
   have hdl:=dlw.length;simp only[io,eW,aa]at hsl2⊢;refine⟨eA.of hp,dS (j:=0) rfl,rfl,_,rfl,fW (by decide) ?_⟩;refine⟨.inl ⟨rfl,_,eG.of m2⟩,eA.of hp,dS (j:=1) rfl,eG.of (s2 _ _ hw),dS hv,eA.of (s2 _ _ hpw),dS (j:=1) rfl,sl,lw,_,_,rfl,rfl,m2,s2 _ _ hlw,by rw[sizeLine_eq];lia,?_⟩;have t3:fO H2 (upd H2 sl (.lst (sus++usw))):=fL m2;exact⟨_,sus++usw,rfl,eF s2 hsl,dO,(ds.mono λ_ _=>lD.mono t3).append ((dlw.mono λ_ _=>lD.mono (dY s2)).mono λ_ _=>lD.mono t3)⟩
  | row h src path=>obtain⟨p,hp,sx,rfl,hrow,hhd,hsx⟩:=rat;simp only[io]at hsl2⊢;refine⟨eA.of hrow,dS (j:=0) rfl,rfl,_,rfl,eK (by decide) ?_⟩;refine⟨.inl ⟨rfl,_,eG.of m2⟩,eA.of hrow,dS (j:=3) rfl,m2,by rw[sizeLine_eq];lia,?_⟩;have t3:fO H2 (upd H2 sl (.lst (sus++[sx]))):=fL m2;exact⟨_,sus++[sx],rfl,eF s2 hsl,dO,(ds.mono λ_ _=>lD.mono t3).append (.one (hsx.mono t3))⟩
 ·rintro σ H2 ⟨j3,sus,rfl,s2,m2,ds⟩;rw[hrl,bG]at ds;exact(k sl sus H2 s2 hsl m2 ds)
def vS:Sp:=λvs H Q _=>∃(N:Addr→Prop)(rl wl:Addr)(R:List Rw)(rus:List V)(W:List (T×List kx))(wus:List V),vs=[.ref rl,.ref wl]∧H rl=some (.lst rus)∧Al (jV H) R rus∧H wl=some (.lst wus)∧Al (lC N H) W wus∧Bd R 1∧(∀r∈R,r.ok (Mu W))∧k0 R≤9000000∧
 ∀(u:V)(t:T)(H':Hp),dy H H'→mH (W.map Prod.fst) R=[t]→lC (λl=>H l=none) H' (t,io (W.map Prod.snd) R) u→Q u H'
def LT(K:aA):TS:=(fT (fJ (dM (eN Dn [] E0 (dM (dN 0) (dM (dN 1) dW))) (dM (eN Jb [] E0 (dM (dN 0) (dM (dN 1) dW))) dW))))
theorem NA(h:vS vs H Q E):LT K (gf Q) (start ["rows","written"] vs) H:=by obtain⟨N,rl,wl,R,rus,W,wus,rfl,hr,dr,hw,dw,bd,rok,hz,k⟩:=h;have hlen:=kZ rok;refine⟨N,rl,wl,R,rus,W,wus,rfl,hr,dr,hw,dw,bd,λr h=>Rw.ok_mono (λn z ⟨w,e,_⟩=>(aK.mp e).1) (rok r h),by lia,λv t H1 s1 hb dv=>?_⟩;refine⟨N,rl,wl,R,rus,W,wus,rfl,s1 _ _ hr,dr.mono λ_ _=>jV.mono (dY s1),s1 _ _ hw,dw.mono λ_ _=>lC.mono s1,rok,hz,λl us H2 s2 n2 hl ds=>⟨fG,λp hp=>?_⟩⟩;have s3:=dR (o:=.tup [v,.ref l]) hp;exact k _ t _ ((s1.trans s2).trans s3) hb ⟨p,v,l,us,rfl,dO,dv.mono (dY (s2.trans s3)),s3 _ _ hl,ds.mono λ_ _=>lD.mono (dY s3),s1.free n2⟩
inductive nH:List (List Rw)→List (T×List kx)→Prop where
 | nil:nH [] []
 | snoc{rd:List (List Rw)}{W:List (T×List kx)}{R:List Rw}{t:T}:nH rd W→mH (W.map Prod.fst) R=[t]→nH (rd++[R]) (W++[(t,io (W.map Prod.snd) R)])
theorem oQ.front(h:oQ (rd++[R])):oQ rd∧Bd R 1∧∀r∈R,r.ok (Rf rd):=by
 refine⟨λi R' e=>?_,?_⟩
 ·have hi:i<rd.length:=(aK.mp e).1;have:=h i R' (by rw[aw hi];exact e);rw[dH (bN hi)]at this;exact this
 ·have:=h rd.length R (by simp);rw[ce]at this;exact this
structure Cf(rd:List (List Rw))(W:List (T×List kx)):Prop where
 len:W.length=rd.length
 all:∀(i:Nat)(R:List Rw)(w:T×List kx),rd[i]?=some R→W[i]?=some w→w.1.size≤k0 R∧w.2.length≤k0 R∧¬oP w.1
theorem Cf.rf(f:Cf rd W):∀n z,Rf rd n z→Mu W n z∧Nq (W.map Prod.fst) n z∧Mt (W.map Prod.snd) n z:=by
 rintro n z ⟨R,e,h⟩;have hn:n<rd.length:=(aK.mp e).1;have hn2:n<W.length:=by rw[f.len];exact hn
 have eW:W[n]?=some W[n]:=aT hn2;generalize W[n]=w at eW;obtain⟨h1,h2,h3⟩:=f.all n R w e eW;exact⟨⟨w,eW,by lia⟩,⟨w.1,by rw[ac,eW];rfl,by lia,h3⟩,⟨w.2,by rw[ac,eW];rfl,by lia⟩⟩
theorem Cf.one(f:Cf rd W)(bd:Bd R 1)(ok:∀r∈R,r.ok (Rf rd))(hb:mH (W.map Prod.fst) R=[t]):t.size≤k0 R∧(io (W.map Prod.snd) R).length≤k0 R∧¬oP t:=by obtain⟨h1,h2⟩:=ux bd (λr h=>Rw.ok_mono (λn z q=>(f.rf n z q).2.1) (ok r h));rw[hb]at h1 h2;refine⟨?_,mY λr h=>Rw.ok_mono (λn z q=>(f.rf n z q).2.2) (ok r h),h2 t (.head _)⟩;rw[fm,jC]at h1;lia
theorem ql(h:nH rd W):oQ rd→Cf rd W:=by
 induction h with
 | nil=>exact λ_=>⟨rfl,λi R w e=>by simp at e⟩
 | @snoc rd W R t _ hb ih=>
  intro ok;obtain⟨ok1,bd,ro⟩:=ok.front;have f:=ih ok1;have g:=f.one bd ro hb;refine⟨by simp[f.len],λi R' w e1 e2=>?_⟩;rcases bK i rd.length with hi|hi
  ·rw[aw hi]at e1;rw[aw (by rw[f.len];exact hi)]at e2;exact f.all i R' w e1 e2
  ·have hi2:i<(rd++[R]).length:=(aK.mp e1).1;rw[aD,bA]at hi2;have ei:i=rd.length:=by lia
   subst ei;rw[bJ (aC _),bH]at e1;rw[←f.len,bJ (aC _),bH]at e2;cases e1;cases e2;exact g
def Ax(C D:Addr):Sp:=λvs H Q _=>∃(op dx b:Addr)(v1 v2 v3 u:V)(bo:Bo)(t:T)(F:Nat),vs=[.ref op,.ref b,u,.int (F:Int)]∧H op=some (.ins C dx [])∧H b=some (.lst [v1,v2,v3])∧vD H v1 v2 v3 bo∧gG H t u∧(∀y∈[t,bo.x,bo.y,bo.z],y.size≤900∧y.names.length<64)∧
 ∀(A:Ad)(ws:List Str)(H':Hp),A.op=op→ff C D A bo F (λa=>a≠A.yl) 0 ws [] H'→H A.lp=none→H A.tk=none→H A.yl=none→(∀x,x∈ws↔∃y∈[t,bo.x,bo.y,bo.z],y.out x)→ws.length≤252→Ex [op] H H'→Q .non H'
def Lj(K:aA)(a_Opening a_FreshWords:Addr):TS:=(de (uN K (dN 0) (eN kI [] E0 (dM (dN 1) dW)) "stamps") (de (uN K (dN 0) (uF a_FreshWords (xV a_FreshWords) [] E0 (dM (eN xW [] E0 (dM (dN 1) (dM (dN 2) dW))) dW)) "lets") (de (uN K (dN 0) (dN 3) "fuel") (de (uN K (dN 0) (tC (.int 0)) "many") (uN K (dN 0) (fR dW) "ready")))))
def LB(sd:Addr):List (Str×V):=[("stamps",.ref sd)]
def FH(sd lp:Addr):List (Str×V):=[("stamps",.ref sd),("lets",.ref lp)]
def FG(sd lp:Addr)(F:Nat):List (Str×V):=[("stamps",.ref sd),("lets",.ref lp),("fuel",.int (F:Int))]
def FF(sd lp:Addr)(F:Nat):List (Str×V):=[("stamps",.ref sd),("lets",.ref lp),("fuel",.int (F:Int)),("many",.int 0)]
theorem OB:iG "lets" (.ref lp) (LB sd)=FH sd lp:=by simp only[LB,FH,iG,if_neg (show ¬("stamps":Str)="lets" by decide)]
theorem OA{sd lp:Addr}{F:Nat}:iG "fuel" (.int (F:Int)) (FH sd lp)=FG sd lp F:=by simp only[FH,FG,iG,if_neg (show ¬("stamps":Str)="fuel" by decide),if_neg (show ¬("lets":Str)="fuel" by decide)]
theorem N9:iG "many" (.int 0) (FG sd lp F)=FF sd lp F:=by simp only[FG,FF,iG,if_neg Nd,if_neg Nf,if_neg Ng]
theorem N8:iG "ready" (.ref yl) (FF sd lp F)=lh sd lp F 0 yl:=by simp only[iG,FF,lh,if_neg (show ¬("stamps":Str)="ready" by decide),if_neg (show ¬("lets":Str)="ready" by decide),if_neg (show ¬("fuel":Str)="ready" by decide),if_neg (show ¬("many":Str)="ready" by decide)];rfl
theorem NN(ro:RO K C)(h:Ax C D vs H Q E):Lj K C D (gf Q) (start ["self","book","piece","fuel"] vs) H:=by
 obtain⟨op,dx,b,v1,v2,v3,u,bo,t,F,rfl,ho,hb,bk,hd,hs,k⟩:=h;refine⟨b,v1,v2,v3,_,_,_,rfl,hb,bk.g,λsd H1 s1 n1 g1=>?_⟩;refine⟨op,C,dx,[],rfl,s1 _ _ ho,ro.cl,ro.nS,by show 0<1000;decide,?_⟩;have nos:op≠sd:=dZ ho n1;have o2:(upd H1 op (.ins C dx (iG "stamps" (.ref sd) []))) op=some (.ins C dx (LB sd)):=dO;have e2:Ex [op] H1 (upd H1 op (.ins C dx (iG "stamps" (.ref sd) []))):=Ex.upd (by simp);generalize upd H1 op (.ins C dx (iG "stamps" (.ref sd) []))=H2 at o2 e2⊢;have e02:Ex [op] H H2:=(Ex.same s1).trans e2;have bk2:vD H2 v1 v2 v3 bo:=by
  have st:∀{w:Str}{ps:List Str}{g:G}{v:V},kY H w ps g v→kY H2 w ps g v:=λ{w ps g v} ⟨p,l,x,e,h1,h2,h3⟩=>
   ⟨p,l,x,e,e02 _ _ (λq=>by rw[aG]at q;subst q;rw[ho]at h1;cases h1) h1,e02 _ _ (λq=>by rw[aG]at q;subst q;rw[ho]at h2;cases h2) h2,h3.mono λa xs z=>e02 _ _ (λq=>by rw[aG]at q;subst q;rw[ho]at z;cases z) z⟩
  exact⟨st bk.a,st bk.b,st bk.c⟩
 have hb2:H2 b=some (.lst [v1,v2,v3]):=e02 _ _ (λq=>by rw[aG]at q;subst q;rw[ho]at hb;cases hb) hb;have hd2:gG H2 t u:=hd.mono λa xs z=>e02 _ _ (λq=>by rw[aG]at q;subst q;rw[ho]at z;cases z) z;have g2:H2 sd=some (.dK (zJ v1 v2 v3)):=e2 _ _ (λq=>nos (aG.mp q).symm) g1;refine⟨b,v1,v2,v3,u,bo,t,rfl,hb2,bk2,hd2,hs,λl us H3 s3 n3 g3 hlen hus=>?_⟩;intro lp lx hlp hlx nlx;have nlx':lp≠lx:=nlx.symm;have s4:dy H3 (upd (upd H3 lx (.own lp)) lp (.ins D lx [])):=λc o z=>by rw[db (dZ z hlp),db (dZ z hlx)];exact z
 have p4:(upd (upd H3 lx (.own lp)) lp (.ins D lx [])) lp=some (.ins D lx []):=dO;generalize upd (upd H3 lx (.own lp)) lp (.ins D lx [])=H4 at s4 p4⊢;refine⟨lp,lx,l,us,rfl,p4,s4 _ _ g3,by lia,λtk ws H5 ntk hws hwl e5 fw5=>⟨rfl,?_⟩⟩;have s24:=s3.trans s4;have nlp2:H2 lp=none:=s3.free hlp;have ntk2:H2 tk=none:=s24.free ntk;have e25:Ex [lp] H2 H5:=λc o n z=>e5 _ _ (λq=>n (by rw[q];simp)) (s24 _ _ z);have nop:op≠lp:=dZ o2 nlp2;have o5:H5 op=some (.ins C dx (LB sd)):=e25 _ _ (by simp[nop]) o2;refine⟨op,C,dx,_,rfl,o5,ro.cl,ro.nL,by show 1<1000;decide,?_⟩;rw[OB];have o6:(upd H5 op (.ins C dx (FH sd lp))) op=some (.ins C dx (FH sd lp)):=dO;have e6:Ex [op] H5 (upd H5 op (.ins C dx (FH sd lp))):=Ex.upd (by simp);generalize upd H5 op (.ins C dx (FH sd lp))=H6 at o6 e6⊢;refine⟨op,C,dx,_,rfl,o6,ro.cl,ro.nF,by show 2<1000;decide,?_⟩;rw[OA];have o7:(upd H6 op (.ins C dx (FG sd lp F))) op=some (.ins C dx (FG sd lp F)):=dO;have e7:Ex [op] H6 (upd H6 op (.ins C dx (FG sd lp F))):=Ex.upd (by simp);generalize upd H6 op (.ins C dx (FG sd lp F))=H7 at o7 e7⊢;refine⟨op,C,dx,_,rfl,o7,ro.cl,ro.nM,by show 3<1000;decide,?_⟩;rw[N9];have o8:(upd H7 op (.ins C dx (FF sd lp F))) op=some (.ins C dx (FF sd lp F)):=dO;have e8:Ex [op] H7 (upd H7 op (.ins C dx (FF sd lp F))):=Ex.upd (by simp);generalize upd H7 op (.ins C dx (FF sd lp F))=H8 at o8 e8⊢;refine⟨fG,λyl hyl=>⟨op,C,dx,_,rfl,(dR hyl) _ _ o8,ro.cl,ro.nR,by show 4<1000;decide,?_⟩⟩;have s9:dy H8 (upd H8 yl (.lst [])):=dR hyl;have y9:(upd H8 yl (.lst [])) yl=some (.lst []):=dO;have o9:=s9 _ _ o8;generalize upd H8 yl (.lst [])=H9 at s9 y9 o9⊢;rw[N8];have e10:Ex [op] H9 (upd H9 op (.ins C dx (lh sd lp F 0 yl))):=Ex.upd (by simp);have o10:(upd H9 op (.ins C dx (lh sd lp F 0 yl))) op=some (.ins C dx (lh sd lp F 0 yl)):=dO;have noy:yl≠op:=(dZ o8 hyl).symm;have y10:(upd H9 op (.ins C dx (lh sd lp F 0 yl))) yl=some (.lst []):=e10 _ _ (by simp[noy]) y9;generalize upd H9 op (.ins C dx (lh sd lp F 0 yl))=H10 at e10 o10 y10⊢;have e510:Ex [op] H5 H10:=e6.trans (e7.trans (e8.trans ((Ex.same s9).trans e10)));have e210:Ex [op,lp] H2 H10:=(e25.more (by simp)).trans (e510.more (by simp));have ns:∀a o,H2 a=some o→a≠op→H10 a=some o:=λa o z n=>e210 _ _ (by simp[n,dZ z nlp2]) z;have nyl2:H2 yl=none:=by
  cases q:H2 yl with
  | none=>rfl
  | some o=>have:=ns yl o q noy;rw[y10]at this;cases this;have h5:H5 yl=some (.lst []):=e25 _ _ (by simp[dZ q nlp2]) q;have h8:H8 yl=some (.lst []):=(e6.trans (e7.trans e8)) _ _ (by simp[noy]) h5;rw[h8]at hyl;cases hyl
 have nOf:∀a,H2 a=none→H a=none:=λa z=>by
  cases q:H a with
  | none=>rfl
  | some o=>
   by_cases ha:a=op
   ·subst ha;rw[o2]at z;cases z
   ·have:=e02 a o (by simp[ha]) q;rw[this]at z;cases z
 have stn:∀{w:Str}{ps:List Str}{tt:T}{v:V},kY H w ps (gZ tt) v→Co (λa=>a≠yl) H10 w ps tt v:=λ{w ps tt v} ⟨p,l,x,e,h1,h2,h3⟩=>by have toH:∀a o,H a=some o→a≠op→H10 a=some o:=λa o z n=>ns a o (e02 _ _ (by simp[n]) z) n;refine⟨p,l,x,e,toH _ _ h1 (fB h1 ho (by intro z;cases z)),toH _ _ h2 (fB h2 ho (by intro z;cases z)),dZ h2 (nOf _ nyl2),(iH h3).mono λa xs z=>toH _ _ z (fB z ho (by intro z;cases z))⟩
 have ntp:tk≠op:=(dZ o2 ntk2).symm;refine k ⟨op,dx,sd,lp,lx,tk,yl,v1,v2,v3⟩ ws H10 rfl ⟨o10,⟨0,⟨e510 _ _ (by simp[nop.symm]) fw5.ob,e510 _ _ (by simp[ntp]) fw5.dk⟩,?_⟩,ns _ _ g2 nos.symm,dZ g2 ntk2,stn bk.a,stn bk.b,stn bk.c,[],y10,.nil⟩ (nOf _ nlp2) (nOf _ ntk2) (nOf _ nyl2) (λx=>by rw[hws,hus]) (by lia) ?_
 ·have:=yC 0 ws;lia
 ·refine e02.trans (Ex.new (l':=[op,lp]) (λa ha=>?_) e210);simp only[aB,aF,or_false]at ha⊢;rcases ha with z|rfl
  ·exact .inl z
  ·exact .inr nlp2
end S9
namespace S9
open PySem L2 SW
variable {K:aA}{vs:List V}{H:Hp}{Q:VK}{E:XK}{C D Nst:Addr}
structure yL(bo:Bo)(t:T)(F:Nat):Prop where
 bk:tV bo
 bt:BT t [] 0
 sm:∀ws:List Str,ws.length≤252→(∀x,x∈ws↔∃y∈[t,bo.x,bo.y,bo.z],y.out x)→∀st,tX bo F (st0 t ws) st→st.k≤F→Cd st
structure yK(bo:Bo)(t:T)(F:Nat)(ws:List Str)(st:ou)(W:List (T×List kx))(tt:T):Prop where
 ws_:∀x,x∈ws↔∃y∈[t,bo.x,bo.y,bo.z],y.out x
 wl:ws.length≤252
 rch:tX bo F (st0 t ws) st
 emp:st.S=[]
 few:st.k≤F
 wr:nH st.rd W
 out:mH (W.map Prod.fst) st.R=[tt]
def DR:TS:=(fT (fJ (dM (tC (.str "more")) dW)))
def DQ(K:aA):TS:=(fg (eI (dz og (kG K (dN 3) "many") (dN 2))) DR fQ)
def DP(K:aA):TS:=(fD (jm K "list" eY (dN 5) (dM (eN vS [] E0 (dM (dN 6) (dM (dN 5) dW))) dW)))
theorem vg(ro:RO K C)(hb:H b=some (.lst [v1,v2,v3]))(B:vD H v1 v2 v3 bo)(dg:DG H (gZ t) u)(ask:yL bo t F)
  (kM:∀(p:Addr)(ws:List Str)(st:ou)(H':Hp),dy H H'→H' p=some (.tup [.str "more"])→(∀x,x∈ws↔∃y∈[t,bo.x,bo.y,bo.z],y.out x)→tX bo F (st0 t ws) st→F<st.k→Q (.ref p) H')
  (kD:∀(p l:Addr)(x:V)(us:List V)(ws:List Str)(st:ou)(W:List (T×List kx))(tt:T)(H':Hp),dy H H'→H' p=some (.tup [.str "done",x,.ref l,.int (st.k:Int)])→yK bo t F ws st W tt→gG H' tt x→H' l=some (.lst us)→Al (lD H') (io (W.map Prod.snd) st.R) us→Q (.ref p) H'):
  (de (eD (uF C (Ax C D) [] E0 (dM (dN 0) (dM (dN 1) (dM (dN 2) dW)))) (dX 3)) (de (eD (jq C "rows_of" (mZ C D) [] E0 (dN 3) (dM (fJ (dM (dN 1) (dM (tC (.str "")) (dM (fJ dW) (dM ir dW))))) dW)) (dX 4)) (de (DQ K) (de (eD (fR dW) (dX 5)) (de (iK (i0 K (kG K (dN 3) "ready")) (dX 6) (DP K)) (de (eD (eN vS [] E0 (dM (dN 4) (dM (dN 5) dW))) (dX 7)) (fT (fJ (dM (tC (.str "done")) (dM (dz (eC K) (dN 7) (tC (.int 0))) (dM (dz (eC K) (dN 7) (tC (.int 1))) (dM (kG K (dN 3) "many") dW)))))))))))) (gf Q) [some (.ref b),some u,some (.int (F:Int)),none,none,none,none,none] H:=by
 have hz:∀y∈[t,bo.x,bo.y,bo.z],y.size≤900∧y.names.length<64:=λy hy=>by
  simp only[aB,aF,or_false]at hy;rcases hy with rfl|rfl|rfl|rfl
  ·exact ask.bt.2.2.2
  ·exact ask.bk.a.2.2.2
  ·exact ask.bk.b.2.2.2
  ·exact ask.bk.c.2.2.2
 refine ?_;intro op dx hop hdx ndx;have s2:dy H (upd (upd H dx (.own op)) op (.ins C dx [])):=λc o z=>by rw[db (dZ z hop),db (dZ z hdx)];exact z
 have p2:(upd (upd H dx (.own op)) op (.ins C dx [])) op=some (.ins C dx []):=dO;generalize upd (upd H dx (.own op)) op (.ins C dx [])=H2 at s2 p2⊢;have s12:=s2;have BT2:=B.mono s2;have du:gG H2 t u:=(iH dg).mono (dY s12);have nopH:H op=none:=hop;refine⟨op,dx,b,v1,v2,v3,u,bo,t,F,rfl,p2,s12 _ _ hb,BT2,du,hz,λA ws H3 eop O3 nlp ntk nyl hws hwl e3=>⟨rfl,?_⟩⟩;have s13:dy H H3:=λc o z=>e3 _ _ (λq=>by rw[aG]at q;subst q;rw[nopH]at z;cases z) (s12 _ _ z);have du3:gG H3 t u:=(iH dg).mono (dY s13);have ob3:=O3.ob;rw[eop]at ob3;refine⟨ob3,my,fG,eZ λte H4 hte s4 g4=>?_⟩;intro nd hnd;have s5:=dR (o:=.dK []) hnd;have g5:(upd H4 nd (.dK [])) nd=some (.dK []):=dO;generalize upd H4 nd (.dK [])=H5 at s5 g5⊢;refine⟨fG,eZ λsp H6 hsp s6 g6=>?_⟩;have s36:=s4.trans (s5.trans s6);have O6:=O3.same s36;have ndt:nd≠A.tk:=by obtain⟨n,f,_⟩:=O3.fw;exact(dZ (s4 _ _ f.dk) hnd).symm
 have spm:iP (Nk A.tk) H6 ⟨t,"",[],.nil⟩ (.ref sp):=⟨sp,u,te,nd,[],rfl,g6,du3.mono (dY s36),s6 _ _ (s5 _ _ g4),ndt,s6 _ _ g5,rfl⟩;have no6:yJ A (λa=>a≠A.yl) H6:=⟨λa z=>z,λa z=>by
  obtain⟨us,y,_⟩:=O6.yl;exact(dZ y z).symm⟩
 refine BC (.mk A bo F _ ws t (.ref sp) O6 no6 spm ask.bk ask.bt (λst r k=>ask.sm ws hwl hws st r k) λst rl rus H7 rch hst nrl hrl dr O7 e7=>?_) (by rw[eop];rfl);have s17:dy H H7:=λc o z=>e7 _ _ (λq=>by
  simp only[aB,aF,or_false]at q;have z2:=s12 _ _ z;rcases q with rfl|rfl|rfl|rfl
  ·rw[eop,nopH]at z;cases z
  ·rw[nlp]at z2;cases z2
  ·rw[ntk]at z2;cases z2
  ·rw[nyl]at z2;cases z2) ((s13.trans s36) _ _ z)
 have ob7:=O7.ob;rw[eop]at ob7;refine⟨ob7,ro.cl,ro.nM,lj,_,rfl,?_⟩;by_cases hk:F<st.k
 ·refine fW (decide_eq_true (by lia)) ?_;refine⟨fG,λp hp=>?_⟩;have s8:=dR (o:=.tup [.str "more"]) hp;exact kM p ws st _ (s17.trans s8) dO hws rch hk
 ·refine eK (decide_eq_false (by lia)) ?_;have hk':st.k≤F:=by lia
  have hS:=hst hk';have I:=pH ask.bk rch (kX (ws:=ws) ask.bt);have SM:=ask.sm ws hwl hws st rch hk';have rdok:=I.rk hk';have bdR:Bd st.R 1:=by have:=I.pn;rw[hS]at this;have:=FA this .nil;rwa[aa]at this
  have hwl0:=hwl;refine⟨fG,eZ λwl H8 hwl s8 w8=>?_⟩;obtain⟨us,y7,dus⟩:=O7.yl;have hul:=dus.length;have hdl:=I.dl;have hfl:=SM.k;refine⟨s8 _ _ ob7,ro.cl,ro.nR,qP,eG.of (s8 _ _ y7),?_⟩;refine gT (K:=K) (a:=A.yl) (xs:=us) (λi σ H'=>∃(j6:Option V)(W:List (T×List kx))(wus:List V),σ=[some (.ref b),some u,some (.int (F:Int)),some (.ref op),some (.ref rl),some (.ref wl),j6,none]∧dy H7 H'∧H' wl=some (.lst wus)∧Al (lC (λl=>l≠wl) H') W wus∧nH (st.rd.take i) W)
   ⟨none,[],[],rfl,s8,w8,.nil,.nil⟩ (λi σ H' _ hP=>?_) ?_ ?_
  ·obtain⟨_,_,_,_,s,_⟩:=hP;exact eG.of (s _ _ y7)
  ·rintro i y σ H9 hi ⟨j6,W,wus,rfl,s9,w9,dw9,wr9⟩;obtain⟨R,hR,l,rvs,rfl,_,hl,drl⟩:=dus.get hi;have hil:i<st.rd.length:=(aK.mp hR).1;have htk:st.rd.take (i+1)=st.rd.take i++[R]:=by rw[ax,hR];rfl
   have rk2:oQ (st.rd.take i++[R]):=by
    rw[←htk];intro j R' e;have hj:j<i+1:=by have:=(aK.mp e).1;rw[aj]at this;lia
    rw[cw hj]at e;rw[List.take_take,bp (by lia)];exact rdok j R' e
   obtain⟨rk1,bdr,okr⟩:=rk2.front;have fine:=ql wr9 rk1;have hwt:=SM.rd R (aZ hR);have hWl:=fine.len;rw[aj]at hWl;have hwul:=dw9.length;refine⟨.inl ⟨rfl,_,eG.of w9⟩,_,l,wl,R,rvs,W,wus,rfl,s9 _ _ hl,drl.mono λ_ _=>jV.mono (dY s9),w9,dw9,bdr,λr h=>Rw.ok_mono (λn z q=>(fine.rf n z q).1) (okr r h),by lia,λv tt H10 s10 hb10 wat=>?_⟩;have w10:=s10 _ _ w9;refine⟨w10,by rw[sizeLine_eq];lia,?_⟩;have wat2:lC (λl=>l≠wl) H10 (tt,io (W.map Prod.snd) R) v:=wat.weak λl z=>(dZ w9 z).symm;refine⟨_,W++[(tt,io (W.map Prod.snd) R)],wus++[v],rfl,eF (s9.trans s10) hwl,dO,((dw9.mono λ_ _=>lC.mono s10).mono λ_ _=>lC.put w10).append (.one (wat2.put w10)),?_⟩;rw[htk];exact .snoc wr9 hb10
  ·rintro σ H9 ⟨j6,W,wus,rfl,s9,w9,dw9,wr9⟩;rw[hul,bG]at wr9;have fine:=ql wr9 rdok;have hwt:=SM.wt;refine⟨_,rl,wl,st.R,rus,W,wus,rfl,s9 _ _ hrl,dr.mono λ_ _=>jV.mono (dY s9),w9,dw9,bdR,λr h=>Rw.ok_mono (λn z q=>(fine.rf n z q).1) (I.ro r h),by lia,λv tt H10 s10 hb10 wat=>?_⟩;obtain⟨pq,x,l,us2,rfl,h1,h2,h3,h4,_⟩:=wat;have ob10:=s10 _ _ (s9 _ _ ob7);refine⟨eA.of h1,dS (j:=0) rfl,eA.of h1,dS (j:=1) rfl,ob10,ro.cl,ro.nM,lj,fG,λp hp=>?_⟩;have s11:=dR (o:=.tup [.str "done",x,.ref l,.int (st.k:Int)]) hp;exact kD p l x us2 ws st W tt _ (((s17.trans s9).trans s10).trans s11) dO ⟨hws,hwl0,rch,hS,hk',wr9,hb10⟩ (h2.mono (dY s11)) (s11 _ _ h3) (h4.mono λ_ _=>lD.mono (dY s11))
end S9
namespace S9
open PySem L2 SW
variable {K:aA}{vs:List V}{H:Hp}{Q:VK}{E:XK}{N:Addr}
def rh:Sp:=λvs H Q _=>∃d v1 v2 v3 g1 g2 g3 w ks u,vs=[.ref d,u]∧H d=some (.dK (zJ v1 v2 v3))∧Bk H v1 v2 v3 g1 g2 g3∧DG H (.word "stamp" w ks) u∧kn w=some ks.length∧∀H',dy H H'→Q .non H'
def qG:Sp:=λvs H Q _=>∃d v1 v2 v3 g1 g2 g3 g u,vs=[.ref d,u]∧H d=some (.dK (zJ v1 v2 v3))∧Bk H v1 v2 v3 g1 g2 g3∧DG H g u∧g.size≤5000∧(∀x,wZ x g→JH x)∧∀H',dy H H'→Q .non H'
def rn:Sp:=λvs H Q _=>∃b v1 v2 v3 g1 g2 g3 g u,vs=[.ref b,u]∧H b=some (.lst [v1,v2,v3])∧Bk H v1 v2 v3 g1 g2 g3∧DG H g u∧(∀y∈[g,g1,g2,g3],y.size≤5000∧∀x,wZ x y→JH x)∧∀H',dy H H'→Q .non H'
def Di(K:aA):TS:=vQ
def Dh(K:aA):TS:=(fg (tB (pA (dN 2) (dN 0))) (Di K) fQ)
def Dg(K:aA):TS:=vQ
def Df(K:aA):TS:=(fg (eI (dz yx (dN 3) (dN 4))) (Dg K) fQ)
def JV(K:aA):TS:=(de (eD (dz (eC K) (dN 1) (tC (.int 1))) (dX 2)) (de (Dh K) (de (eD (gz (gN K) (dM (eN iw [] E0 (dM (dN 1) dW)) dW)) (dX 3)) (de (eD (gz (gN K) (dM (dz (eC K) (qp (dN 0) (dN 2)) (tC (.int 1))) dW)) (dX 4)) (Df K)))))
def Dk(K:aA):TS:=(fD (eN rh [] E0 (dM (dN 0) (dM (dN 2) dW))))
def Dj(K:aA):TS:=(fg (eI (dz kA (dz (eC K) (dN 2) (tC (.int 0))) (tC (.str "stamp")))) (Dk K) fQ)
def JW(K:aA):TS:=(iK (i0 K (eN lc [] E0 (dM (dN 1) dW))) (dX 2) (Dj K))
def xE(K:aA):TS:=(fD (eN qG [] E0 (dM (dN 2) (dM (dz (eC K) (dN 3) (tC (.int 2))) dW))))
def JX(K:aA):TS:=(de (eD (eN kI [] E0 (dM (dN 0) dW)) (dX 2)) (de (fD (eN qG [] E0 (dM (dN 2) (dM (dN 1) dW)))) (iK (i0 K (dN 0)) (dX 3) (xE K))))
theorem ME(h:rh vs H Q E):JV K (gf Q) (start ["stamps","use","word","handed","places"] vs) H:=by
 obtain⟨d,v1,v2,v3,g1,g2,g3,w,ks,u,rfl,hd,B,dg,hf,k⟩:=h;obtain⟨p,us,rfl,_,hp,dk⟩:=dg.open;refine⟨eA.of hp,dS (j:=1) rfl,?_⟩;have dgt:=iQ.k (k:=.inr w) hd;refine⟨dgt,_,rfl,?_⟩;rcases KS B w with⟨e,f⟩|⟨v,ps,g,e,st,f,hps⟩
 ·rw[f]at hf;cases hf
 ·rw[e]at dgt⊢;refine eK rfl ?_;refine⟨_,.ref p,rfl,dg,λq us' H1 s1 hq dk1=>?_⟩;have hl:us'.length=ks.length:=dk1.1;refine⟨.inr (eA.of hq),?_⟩;obtain⟨pp,l,x,rfl,hpp,hl1,_⟩:=st.mono s1;have dgt1:=iQ.k (k:=.inr w) (s1 _ _ hd);rw[e]at dgt1;refine⟨dgt1,eA.of hpp,rfl,.inl (eG.of hl1),?_⟩;refine⟨rfl,_,rfl,?_⟩;rw[f]at hf;have:=Option.some.inj hf;rw[aX];exact eK (by simp[hl,this]) (k _ s1)
theorem MF(h:qG vs H Q E):JW K (gf Q) (start ["stamps","piece","current"] vs) H:=by
 obtain⟨d,v1,v2,v3,g1,g2,g3,g,u,rfl,hd,B,dg,hsz,hF,k⟩:=h;refine⟨g,u,rfl,dg,hsz,λl us L H1 s1 n1 h1 od dL=>⟨eG.of h1,?_⟩⟩;have hlen:=dL.1;refine gT (K:=K) (a:=l) (xs:=us) (λi σ H'=>∃j2,σ=[some (.ref d),some u,j2]∧dy H1 H') ⟨none,rfl,dy.refl _⟩ (λi σ H' _ hP=>?_) ?_ ?_
 ·obtain⟨_,_,s⟩:=hP;exact eG.of (s _ _ h1)
 ·rintro i y σ H' hi ⟨j2,rfl,s⟩;have hil:i<us.length:=(aK.mp hi).1;have hg:L[i]?=some L[i]:=aT (by omega);generalize L[i]=c at hg;have hcm:wZ c g:=(od.one c).mp (aZ hg);have dc:=(dL.2 i c y hg hi).mono (dY s);have dc0:=dc;obtain⟨p,ks,rfl,ok,hp,dk⟩:=dc.open;have h0:pS (c.hd++ks) 0=some (.str c.kind):=by cases c<;>exact dS (j:=0) rfl
  refine⟨eA.of hp,h0,rfl,_,rfl,?_⟩;by_cases hk:c.kind="stamp"
  ·refine fW (by rw[hk];decide) ?_;cases c with
   | leaf k x=>
    have hk:k="stamp":=hk;subst hk;rcases ok with z|z
    ·exact absurd z (by decide)
    ·exact absurd z (by decide)
   | plain k x=>exact absurd hk ok.2.2.2
   | word k w kk=>have hk:k="stamp":=hk;subst hk;have sS:=s1.trans s;exact⟨d,v1,v2,v3,g1,g2,g3,w,kk,_,rfl,sS _ _ hd,B.mono sS,dc0,hF _ hcm rfl,λH2 s2=>⟨_,rfl,s.trans s2⟩⟩
  ·exact eK (nk hk) ⟨_,rfl,s⟩
 ·rintro σ H' ⟨j2,rfl,s⟩;exact k _ (s1.trans s)
theorem MG(h:rn vs H Q E):JX K (gf Q) (start ["book","piece","stamps","stamp"] vs) H:=by
 obtain⟨b,v1,v2,v3,g1,g2,g3,g,u,rfl,hb,B,dg,hsz,k⟩:=h;refine⟨b,v1,v2,v3,g1,g2,g3,rfl,hb,B,λd H1 s1 n1 hd=>?_⟩;have hg:=hsz g (by simp);refine⟨d,v1,v2,v3,g1,g2,g3,g,u,rfl,hd,B.mono s1,dg.mono (dY s1),hg.1,hg.2,λH2 s2=>?_⟩;have s12:=s1.trans s2;refine⟨eG.of (s12 _ _ hb),?_⟩;refine gT (K:=K) (a:=b) (xs:=[v1,v2,v3]) (λi σ H'=>∃j3,σ=[some (.ref b),some u,some (.ref d),j3]∧dy H2 H') ⟨none,rfl,dy.refl _⟩ (λi σ H' _ hP=>?_) ?_ ?_
 ·obtain⟨_,_,s⟩:=hP;exact eG.of (s _ _ (s12 _ _ hb))
 ·rintro i y σ H' hi ⟨j3,rfl,s⟩;have s3:=s12.trans s;have B3:=B.mono s3;have go:∀(w:Str)(ps:List Str)(gg:G),kY H' w ps gg y→gg∈[g1,g2,g3]→∀D:iT,(∀σ H',(∃j3,σ=[some (.ref b),some u,some (.ref d),j3]∧dy H2 H')→D.nx σ H')→dX 3 y [some (.ref b),some u,some (.ref d),j3] H' λσ2 H2=>xE K D σ2 H2:=by intro w ps gg st hm D hD;obtain⟨p,l,x,rfl,hp,_,dx⟩:=st;have hg:=hsz gg (bB _ hm);exact⟨eA.of hp,rfl,d,v1,v2,v3,g1,g2,g3,gg,x,rfl,(s2.trans s) _ _ hd,B3,dx,hg.1,hg.2,λH4 s4=>hD _ _ ⟨_,rfl,s.trans s4⟩⟩
  match i,hi,go with
  | 0,hi,go=>cases hi;exact go _ _ _ B3.a (by simp) _ (λ_ _ z=>z)
  | 1,hi,go=>cases hi;have⟨_,z⟩:=B3.b;exact go _ _ _ z (by simp) _ (λ_ _ z=>z)
  | 2,hi,go=>cases hi;have⟨_,_,z⟩:=B3.c;exact go _ _ _ z (by simp) _ (λ_ _ z=>z)
  | n+3,hi,_=>simp at hi
 ·rintro σ H' ⟨j3,rfl,s⟩;exact k _ (s12.trans s)
end S9
namespace S9
open PySem L2 SW
variable {K:aA}{vs:List V}{H:Hp}{Q:VK}{E:XK}{C D Nst:Addr}
def qD(C D:Addr):Sp:=λvs H Q _=>∃(b:Addr)(v1 v2 v3 u:V)(t:T)(bo:Bo)(F:Nat),vs=[.ref b,u,.int (F:Int)]∧H b=some (.lst [v1,v2,v3])∧vD H v1 v2 v3 bo∧DG H (gZ t) u∧(∀y∈[gZ t,gZ bo.x,gZ bo.y,gZ bo.z],y.size≤5000∧∀x,wZ x y→JH x)∧yL bo t F∧
  (∀(p:Addr)(ws:List Str)(st:ou)(H':Hp),dy H H'→H' p=some (.tup [.str "more"])→(∀x,x∈ws↔∃y∈[t,bo.x,bo.y,bo.z],y.out x)→tX bo F (st0 t ws) st→F<st.k→Q (.ref p) H')∧
  (∀(p l:Addr)(x:V)(us:List V)(ws:List Str)(st:ou)(W:List (T×List kx))(tt:T)(H':Hp),dy H H'→H' p=some (.tup [.str "done",x,.ref l,.int (st.k:Int)])→yK bo t F ws st W tt→gG H' tt x→H' l=some (.lst us)→Al (lD H') (io (W.map Prod.snd) st.R) us→Q (.ref p) H')
def DU(K:aA)(a_Opening a_FreshWords:Addr):TS:=(fT (fJ (dM (tC (.str "more")) dW)))
def DT(K:aA)(a_Opening a_FreshWords:Addr):TS:=(fg (eI (dz og (kG K (dN 3) "many") (dN 2))) (DU K a_Opening a_FreshWords) fQ)
def DS(K:aA)(a_Opening a_FreshWords:Addr):TS:=(fD (jm K "list" eY (dN 5) (dM (eN vS [] E0 (dM (dN 6) (dM (dN 5) dW))) dW)))
def JU(K:aA)(a_Opening a_FreshWords:Addr):TS:=(de (fD (eN rn [] E0 (dM (dN 0) (dM (dN 1) dW)))) (de (eD (uF a_Opening (Ax a_Opening a_FreshWords) [] E0 (dM (dN 0) (dM (dN 1) (dM (dN 2) dW)))) (dX 3)) (de (eD (jq a_Opening "rows_of" (mZ a_Opening a_FreshWords) [] E0 (dN 3) (dM (fJ (dM (dN 1) (dM (tC (.str "")) (dM (fJ dW) (dM ir dW))))) dW)) (dX 4)) (de (DT K a_Opening a_FreshWords) (de (eD (fR dW) (dX 5)) (de (iK (i0 K (kG K (dN 3) "ready")) (dX 6) (DS K a_Opening a_FreshWords)) (de (eD (eN vS [] E0 (dM (dN 4) (dM (dN 5) dW))) (dX 7)) (fT (fJ (dM (tC (.str "done")) (dM (dz (eC K) (dN 7) (tC (.int 0))) (dM (dz (eC K) (dN 7) (tC (.int 1))) (dM (kG K (dN 3) "many") dW)))))))))))))
theorem MC(ro:RO K C)(h:qD C D vs H Q E):JU K C D (gf Q) (start ["book","piece","fuel","opening","rows","written","earlier","left"] vs) H:=by obtain⟨b,v1,v2,v3,u,t,bo,F,rfl,hb,B,dg,hsz,ask,kM,kD⟩:=h;exact⟨b,v1,v2,v3,_,_,_,_,u,rfl,hb,B.g,dg,hsz,λH1 s1=>vg ro (s1 _ _ hb) (B.mono s1) (dg.mono (dY s1)) ask (λp ws st H' s=>kM p ws st H' (s1.trans s)) (λp l x us ws st W tt H' s=>kD p l x us ws st W tt H' (s1.trans s))⟩
end S9
namespace SW
open PySem L2
def S0:Str→Nat→Prop:=λ_ _=>False
def ke:Sp:=λvs H Q _=>∃n:Int,vs=[.int n]∧Q (.bl true) H
end SW
namespace S1
open PySem L2 SW
def LV(K:aA):TS:=(fT (Ap (gz (oq K) (dM (dN 0) (dM (tC (.ty "int")) dW))) (Ez (gz (oq K) (dM (dN 0) (dM (tC (.ty "bool")) dW))))))
end S1
namespace L2
open PySem PySem.Spec PyProof.Rows
end L2
namespace S1
open PySem L2 SW
def M8(K:aA):Sp:=λvs H Q _=>∃(a:Addr)(ns:List Int),vs=[.ref a]∧eG K H a (ns.map V.int)∧ns.length≤63∧∀H',Q (.bl true) H'
end S1
namespace S1
open PySem L2 SW
variable {K:aA}{N:Addr}{vs:List V}{H:Hp}{Q:VK}{E:XK}
end S1
namespace SW
open PySem L2
end SW
namespace S1
open PySem L2 SW
variable {K:aA}{N:Addr}{vs:List V}{H:Hp}{Q:VK}{E:XK}
end S1
namespace SW
open PySem L2
end SW
namespace S1
open PySem L2 SW
variable {K:aA}{N:Addr}{vs:List V}{H:Hp}{Q:VK}{E:XK}
end S1
namespace SW
open PySem L2
variable {K:aA}
theorem wB:PySem.W.kitOne K (.type "int") (.type "int")=some true:=by kernel_rfl
theorem uf:PySem.W.kitOne K (.type "int") (.type "bool")=some false:=by kernel_rfl
theorem fY:PySem.W.kitOne K (.type "str") (.type "str")=some true:=by kernel_rfl
theorem sf:PySem.W.kitOne K (.type "list") (.type "list")=some true:=by kernel_rfl
end SW
namespace S1
open PySem L2 SW
variable {K:aA}{N:Addr}{vs:List V}{H:Hp}{Q:VK}{E:XK}
theorem NC(h:ke vs H Q E):LV K (gf Q) (start ["_law_found"] vs) H:=by obtain⟨n,rfl,k⟩:=h;refine⟨.int n,wB,_,rfl,oj ?_⟩;exact⟨.int n,uf,_,rfl,k⟩
end S1
namespace SW
open PySem L2
end SW
namespace S1
open PySem L2 SW
variable {K:aA}{N:Addr}{vs:List V}{H:Hp}{Q:VK}{E:XK}
end S1
namespace SW
open PySem L2
end SW
namespace S1
open PySem L2 SW
variable {K:aA}{N:Addr}{vs:List V}{H:Hp}{Q:VK}{E:XK}
end S1
namespace SW
open PySem L2
def vC(H H':Hp):Prop:=∀(d:Addr)(kvs:List (fI×V)),H d=some (.dK kvs)→H' d=some (.dK kvs)
theorem lS(h:H l=some (.lst ys)):vC H (upd H l o):=λb xs e=>by rw[db (fB e h (by intro z;cases z))];exact e
theorem gY(s:dy H H'):vC H H':=λb _ h=>s b _ h
section
variable {H₀ H:Hp}{st nu q:Addr}{fs:List Fr}{us:List V}{ns ns':List Int}{o:HO}{f:Fr}{v z:V}
end
end SW
namespace S1
open PySem L2 SW
variable {K:aA}{N:Addr}{vs:List V}{H H₀:Hp}{Q:VK}{E:XK}
end S1
namespace SW
open PySem L2
end SW
namespace S1
open PySem L2 SW
variable {K:aA}{N:Addr}{vs:List V}{H:Hp}{Q:VK}{E:XK}
end S1
namespace SW
open PySem L2
theorem fM:PySem.W.kitOne K (.type "tuple") (.type "tuple")=some true:=by kernel_rfl
def eX:List (fI×V):=[(.inr "number",.int 2),(.inr "name",.int 2),(.inr "sum",.int 3),(.inr "less",.int 3),(.inr "choose",.int 4),(.inr "let",.int 4)]
def lb:Sp:=λvs H Q _=>∃(t:T)(v:V),vs=[v]∧gG H t v∧t.size≤5000000∧∀H',dy H H'→Q (.bl true) H'
end SW
namespace S10
open PySem L2 SW
def Gf(K:aA):TS:=(fT (tC (.bl false)))
def Af(K:aA):TS:=(fg (xH (mM (tB (gz (oq K) (dM (dN 2) (dM (tC (.ty "tuple")) dW))))) (xH (eI (dz yz (gz (gN K) (dM (dN 2) dW)) (tC (.int 2)))) (mM (tB (gz (oq K) (dM (dz (eC K) (dN 2) (tC (.int 0))) (dM (tC (.ty "str")) dW))))))) (Gf K) fQ)
def Ge(K:aA):TS:=(fT (tC (.bl false)))
def Ae(K:aA):TS:=(fg (kH (eI (dz yx (pZ (dN 3) (dz (eC K) (dN 2) (tC (.int 0))) (tC (.int 0))) (gz (gN K) (dM (dN 2) dW)))) (eI (dz yx (dz (eC K) (dN 2) (tC (.int 0))) (tC (.str "stamp"))))) (Ge K) fQ)
def Gd(K:aA):TS:=(fT (tC (.bl false)))
def Gc(K:aA):TS:=(fg (mM (tB (eN ke [] E0 (dM (dz (eC K) (dN 2) (tC (.int 1))) dW)))) (Gd K) fQ)
def Gb(K:aA):TS:=(fT (tC (.bl false)))
def Ga(K:aA):TS:=(fg (kH (eI (dz (E9 K false) (dz (eC K) (dN 2) (tC (.int 0))) (fR (dM (tC (.str "name")) (dM (tC (.str "let")) (dM (tC (.str "stamp")) dW)))))) (mM (tB (gz (oq K) (dM (dz (eC K) (dN 2) (tC (.int 1))) (dM (tC (.ty "str")) dW)))))) (Gb K) fQ)
def Ac(K:aA):TS:=(fg (eI (dz kA (dz (eC K) (dN 2) (tC (.int 0))) (tC (.str "number")))) (Gc K) (Ga K))
def DF(K:aA):TS:=(de (eD (mW K "list" mf (dN 1)) (dX 2)) (de (Af K) (de (eD (Am [((tC (.str "number")),(tC (.int 2))),((tC (.str "name")),(tC (.int 2))),((tC (.str "sum")),(tC (.int 3))),((tC (.str "less")),(tC (.int 3))),((tC (.str "choose")),(tC (.int 4))),((tC (.str "let")),(tC (.int 4)))]) (dX 3)) (de (Ae K) (de (Ac K) (eD (dz lN (dN 1) (eN gQ [] E0 (dM (dN 2) dW))) (dX 1)))))))
def Lp(K:aA):TS:=(de (eD (fR (dM (dN 0) dW)) (dX 1)) (de (iE (eI (dz (lM K) (dN 1) (fR dW))) (DF K)) (fT (tC (.bl true)))))
variable {K:aA}{vs:List V}{H:Hp}{Q:VK}{E:XK}
theorem ve(hd:gG H t v)
  (k:∀H',dy H H'→∀j3,(eD (dz lN (dN 1) (eN gQ [] E0 (dM (dN 2) dW))) (dX 1)) D [some v0,some (.ref tl),some v,j3] H'):
  (de (Af K) (de (eD (Am [((tC (.str "number")),(tC (.int 2))),((tC (.str "name")),(tC (.int 2))),((tC (.str "sum")),(tC (.int 3))),((tC (.str "less")),(tC (.int 3))),((tC (.str "choose")),(tC (.int 4))),((tC (.str "let")),(tC (.int 4)))]) (dX 3)) (de (Ae K) (de (Ac K) (eD (dz lN (dN 1) (eN gQ [] E0 (dM (dN 2) dW))) (dX 1)))))) D [some v0,some (.ref tl),some v,j3] H:=by
 cases t with
 | num n=>obtain⟨p,rfl,hp⟩:=id hd;refine⟨.tup hp,fM,_,rfl,fK ?_⟩;refine⟨.inr (eA.of hp),_,rfl,eK rfl ?_⟩;refine⟨eA.of hp,rfl,.str _,fY,_,rfl,fK ?_⟩;refine λpd hpd=>⟨dO,eX,rfl,by decide,?_⟩;have s1:dy H (upd (upd H pd (.dK [])) pd (.dK (eg [] eX))):=eF (dR hpd) hpd;have g1:(upd (upd H pd (.dK [])) pd (.dK (eg [] eX))) pd=some (.dK (eg [] eX)):=dO;generalize upd (upd H pd (.dK [])) pd (.dK (eg [] eX))=H1 at s1 g1⊢;have hp1:=s1 _ _ hp;have dg:=iQ.k (k:=.inr ("number":Str)) g1;rw[show fP (eg [] eX) (.inr ("number":Str):fI)=some (.int 2)from by decide]at dg;refine⟨.inl ⟨_,.inl g1⟩,eA.of hp1,rfl,_,dg,.inr (eA.of hp1),rfl,_,rfl,?_⟩;refine eK rfl (fK ?_);refine⟨eA.of hp1,rfl,rfl,_,rfl,?_⟩;refine fW (by decide) ?_;refine⟨eA.of hp1,rfl,n,rfl,_,rfl,fK ?_⟩;exact k H1 s1 _
 | name x=>obtain⟨p,rfl,hp⟩:=id hd;refine⟨.tup hp,fM,_,rfl,fK ?_⟩;refine⟨.inr (eA.of hp),_,rfl,eK rfl ?_⟩;refine⟨eA.of hp,rfl,.str _,fY,_,rfl,fK ?_⟩;refine λpd hpd=>⟨dO,eX,rfl,by decide,?_⟩;have s1:dy H (upd (upd H pd (.dK [])) pd (.dK (eg [] eX))):=eF (dR hpd) hpd;have g1:(upd (upd H pd (.dK [])) pd (.dK (eg [] eX))) pd=some (.dK (eg [] eX)):=dO;generalize upd (upd H pd (.dK [])) pd (.dK (eg [] eX))=H1 at s1 g1⊢;have hp1:=s1 _ _ hp;have dg:=iQ.k (k:=.inr ("name":Str)) g1;rw[show fP (eg [] eX) (.inr ("name":Str):fI)=some (.int 2)from by decide]at dg;refine⟨.inl ⟨_,.inl g1⟩,eA.of hp1,rfl,_,dg,.inr (eA.of hp1),rfl,_,rfl,?_⟩;refine eK rfl (fK ?_);refine⟨eA.of hp1,rfl,rfl,_,rfl,?_⟩;refine eK (by decide) ?_;refine⟨eA.of hp1,rfl,fG,eZ λl H2 hl s2 g2=>?_⟩;refine⟨.inl (eG.of g2),rfl,rfl,_,rfl,?_⟩;refine fW (by decide) ?_;refine⟨eA.of (s2 _ _ hp1),rfl,.str _,fY,_,rfl,fK ?_⟩;exact k H2 (s1.trans s2) _
 | sum a b=>obtain⟨p,x,y,rfl,hp,d1,d2⟩:=id hd;refine⟨.tup hp,fM,_,rfl,fK ?_⟩;refine⟨.inr (eA.of hp),_,rfl,eK rfl ?_⟩;refine⟨eA.of hp,rfl,.str _,fY,_,rfl,fK ?_⟩;refine λpd hpd=>⟨dO,eX,rfl,by decide,?_⟩;have s1:dy H (upd (upd H pd (.dK [])) pd (.dK (eg [] eX))):=eF (dR hpd) hpd;have g1:(upd (upd H pd (.dK [])) pd (.dK (eg [] eX))) pd=some (.dK (eg [] eX)):=dO;generalize upd (upd H pd (.dK [])) pd (.dK (eg [] eX))=H1 at s1 g1⊢;have hp1:=s1 _ _ hp;have dg:=iQ.k (k:=.inr ("sum":Str)) g1;rw[show fP (eg [] eX) (.inr ("sum":Str):fI)=some (.int 3)from by decide]at dg;refine⟨.inl ⟨_,.inl g1⟩,eA.of hp1,rfl,_,dg,.inr (eA.of hp1),rfl,_,rfl,?_⟩;refine eK rfl (fK ?_);refine⟨eA.of hp1,rfl,rfl,_,rfl,?_⟩;refine eK (by decide) ?_;refine⟨eA.of hp1,rfl,fG,eZ λl H2 hl s2 g2=>?_⟩;refine⟨.inl (eG.of g2),rfl,rfl,_,rfl,?_⟩;refine eK (by decide) (fK ?_);exact k H2 (s1.trans s2) _
 | less a b=>obtain⟨p,x,y,rfl,hp,d1,d2⟩:=id hd;refine⟨.tup hp,fM,_,rfl,fK ?_⟩;refine⟨.inr (eA.of hp),_,rfl,eK rfl ?_⟩;refine⟨eA.of hp,rfl,.str _,fY,_,rfl,fK ?_⟩;refine λpd hpd=>⟨dO,eX,rfl,by decide,?_⟩;have s1:dy H (upd (upd H pd (.dK [])) pd (.dK (eg [] eX))):=eF (dR hpd) hpd;have g1:(upd (upd H pd (.dK [])) pd (.dK (eg [] eX))) pd=some (.dK (eg [] eX)):=dO;generalize upd (upd H pd (.dK [])) pd (.dK (eg [] eX))=H1 at s1 g1⊢;have hp1:=s1 _ _ hp;have dg:=iQ.k (k:=.inr ("less":Str)) g1;rw[show fP (eg [] eX) (.inr ("less":Str):fI)=some (.int 3)from by decide]at dg;refine⟨.inl ⟨_,.inl g1⟩,eA.of hp1,rfl,_,dg,.inr (eA.of hp1),rfl,_,rfl,?_⟩;refine eK rfl (fK ?_);refine⟨eA.of hp1,rfl,rfl,_,rfl,?_⟩;refine eK (by decide) ?_;refine⟨eA.of hp1,rfl,fG,eZ λl H2 hl s2 g2=>?_⟩;refine⟨.inl (eG.of g2),rfl,rfl,_,rfl,?_⟩;refine eK (by decide) (fK ?_);exact k H2 (s1.trans s2) _
 | cho a b c=>obtain⟨p,x,y,z,rfl,hp,d1,d2,d3⟩:=id hd;refine⟨.tup hp,fM,_,rfl,fK ?_⟩;refine⟨.inr (eA.of hp),_,rfl,eK rfl ?_⟩;refine⟨eA.of hp,rfl,.str _,fY,_,rfl,fK ?_⟩;refine λpd hpd=>⟨dO,eX,rfl,by decide,?_⟩;have s1:dy H (upd (upd H pd (.dK [])) pd (.dK (eg [] eX))):=eF (dR hpd) hpd;have g1:(upd (upd H pd (.dK [])) pd (.dK (eg [] eX))) pd=some (.dK (eg [] eX)):=dO;generalize upd (upd H pd (.dK [])) pd (.dK (eg [] eX))=H1 at s1 g1⊢;have hp1:=s1 _ _ hp;have dg:=iQ.k (k:=.inr ("choose":Str)) g1;rw[show fP (eg [] eX) (.inr ("choose":Str):fI)=some (.int 4)from by decide]at dg;refine⟨.inl ⟨_,.inl g1⟩,eA.of hp1,rfl,_,dg,.inr (eA.of hp1),rfl,_,rfl,?_⟩;refine eK rfl (fK ?_);refine⟨eA.of hp1,rfl,rfl,_,rfl,?_⟩;refine eK (by decide) ?_;refine⟨eA.of hp1,rfl,fG,eZ λl H2 hl s2 g2=>?_⟩;refine⟨.inl (eG.of g2),rfl,rfl,_,rfl,?_⟩;refine eK (by decide) (fK ?_);exact k H2 (s1.trans s2) _
 | lt w a b=>obtain⟨p,x,y,rfl,hp,d1,d2⟩:=id hd;refine⟨.tup hp,fM,_,rfl,fK ?_⟩;refine⟨.inr (eA.of hp),_,rfl,eK rfl ?_⟩;refine⟨eA.of hp,rfl,.str _,fY,_,rfl,fK ?_⟩;refine λpd hpd=>⟨dO,eX,rfl,by decide,?_⟩;have s1:dy H (upd (upd H pd (.dK [])) pd (.dK (eg [] eX))):=eF (dR hpd) hpd;have g1:(upd (upd H pd (.dK [])) pd (.dK (eg [] eX))) pd=some (.dK (eg [] eX)):=dO;generalize upd (upd H pd (.dK [])) pd (.dK (eg [] eX))=H1 at s1 g1⊢;have hp1:=s1 _ _ hp;have dg:=iQ.k (k:=.inr ("let":Str)) g1;rw[show fP (eg [] eX) (.inr ("let":Str):fI)=some (.int 4)from by decide]at dg;refine⟨.inl ⟨_,.inl g1⟩,eA.of hp1,rfl,_,dg,.inr (eA.of hp1),rfl,_,rfl,?_⟩;refine eK rfl (fK ?_);refine⟨eA.of hp1,rfl,rfl,_,rfl,?_⟩;refine eK (by decide) ?_;refine⟨eA.of hp1,rfl,fG,eZ λl H2 hl s2 g2=>?_⟩;refine⟨.inl (eG.of g2),rfl,rfl,_,rfl,?_⟩;refine fW (by decide) ?_;refine⟨eA.of (s2 _ _ hp1),rfl,.str _,fY,_,rfl,fK ?_⟩;exact k H2 (s1.trans s2) _
 | st0 w=>obtain⟨p,rfl,hp⟩:=id hd;refine⟨.tup hp,fM,_,rfl,fK ?_⟩;refine⟨.inr (eA.of hp),_,rfl,eK rfl ?_⟩;refine⟨eA.of hp,rfl,.str _,fY,_,rfl,fK ?_⟩;refine λpd hpd=>⟨dO,eX,rfl,by decide,?_⟩;have s1:dy H (upd (upd H pd (.dK [])) pd (.dK (eg [] eX))):=eF (dR hpd) hpd;have g1:(upd (upd H pd (.dK [])) pd (.dK (eg [] eX))) pd=some (.dK (eg [] eX)):=dO;generalize upd (upd H pd (.dK [])) pd (.dK (eg [] eX))=H1 at s1 g1⊢;have hp1:=s1 _ _ hp;have dg:=iQ.k (k:=.inr ("stamp":Str)) g1;rw[show fP (eg [] eX) (.inr ("stamp":Str):fI)=none from by decide]at dg;refine⟨.inl ⟨_,.inl g1⟩,eA.of hp1,rfl,_,dg,.inr (eA.of hp1),rfl,_,rfl,?_⟩;refine fW rfl ?_;refine⟨eA.of hp1,rfl,rfl,_,rfl,eK (by decide) ?_⟩;refine⟨eA.of hp1,rfl,rfl,_,rfl,?_⟩;refine eK (by decide) ?_;refine⟨eA.of hp1,rfl,fG,eZ λl H2 hl s2 g2=>?_⟩;refine⟨.inl (eG.of g2),rfl,rfl,_,rfl,?_⟩;refine fW (by decide) ?_;refine⟨eA.of (s2 _ _ hp1),rfl,.str _,fY,_,rfl,fK ?_⟩;exact k H2 (s1.trans s2) _
 | st1 w a=>obtain⟨p,x,rfl,hp,d1⟩:=id hd;refine⟨.tup hp,fM,_,rfl,fK ?_⟩;refine⟨.inr (eA.of hp),_,rfl,eK rfl ?_⟩;refine⟨eA.of hp,rfl,.str _,fY,_,rfl,fK ?_⟩;refine λpd hpd=>⟨dO,eX,rfl,by decide,?_⟩;have s1:dy H (upd (upd H pd (.dK [])) pd (.dK (eg [] eX))):=eF (dR hpd) hpd;have g1:(upd (upd H pd (.dK [])) pd (.dK (eg [] eX))) pd=some (.dK (eg [] eX)):=dO;generalize upd (upd H pd (.dK [])) pd (.dK (eg [] eX))=H1 at s1 g1⊢;have hp1:=s1 _ _ hp;have dg:=iQ.k (k:=.inr ("stamp":Str)) g1;rw[show fP (eg [] eX) (.inr ("stamp":Str):fI)=none from by decide]at dg;refine⟨.inl ⟨_,.inl g1⟩,eA.of hp1,rfl,_,dg,.inr (eA.of hp1),rfl,_,rfl,?_⟩;refine fW rfl ?_;refine⟨eA.of hp1,rfl,rfl,_,rfl,eK (by decide) ?_⟩;refine⟨eA.of hp1,rfl,rfl,_,rfl,?_⟩;refine eK (by decide) ?_;refine⟨eA.of hp1,rfl,fG,eZ λl H2 hl s2 g2=>?_⟩;refine⟨.inl (eG.of g2),rfl,rfl,_,rfl,?_⟩;refine fW (by decide) ?_;refine⟨eA.of (s2 _ _ hp1),rfl,.str _,fY,_,rfl,fK ?_⟩;exact k H2 (s1.trans s2) _
 | st2 w a b=>obtain⟨p,x,y,rfl,hp,d1,d2⟩:=id hd;refine⟨.tup hp,fM,_,rfl,fK ?_⟩;refine⟨.inr (eA.of hp),_,rfl,eK rfl ?_⟩;refine⟨eA.of hp,rfl,.str _,fY,_,rfl,fK ?_⟩;refine λpd hpd=>⟨dO,eX,rfl,by decide,?_⟩;have s1:dy H (upd (upd H pd (.dK [])) pd (.dK (eg [] eX))):=eF (dR hpd) hpd;have g1:(upd (upd H pd (.dK [])) pd (.dK (eg [] eX))) pd=some (.dK (eg [] eX)):=dO;generalize upd (upd H pd (.dK [])) pd (.dK (eg [] eX))=H1 at s1 g1⊢;have hp1:=s1 _ _ hp;have dg:=iQ.k (k:=.inr ("stamp":Str)) g1;rw[show fP (eg [] eX) (.inr ("stamp":Str):fI)=none from by decide]at dg;refine⟨.inl ⟨_,.inl g1⟩,eA.of hp1,rfl,_,dg,.inr (eA.of hp1),rfl,_,rfl,?_⟩;refine fW rfl ?_;refine⟨eA.of hp1,rfl,rfl,_,rfl,eK (by decide) ?_⟩;refine⟨eA.of hp1,rfl,rfl,_,rfl,?_⟩;refine eK (by decide) ?_;refine⟨eA.of hp1,rfl,fG,eZ λl H2 hl s2 g2=>?_⟩;refine⟨.inl (eG.of g2),rfl,rfl,_,rfl,?_⟩;refine fW (by decide) ?_;refine⟨eA.of (s2 _ _ hp1),rfl,.str _,fY,_,rfl,fK ?_⟩;exact k H2 (s1.trans s2) _
structure Iw(H₀ H:Hp)(tl:Addr)(us:List V)(ts:List T):Prop where
 same:dy H₀ H
 new:H₀ tl=none
 at_:H tl=some (.lst us)
 den:gC H ts us
 sz:eu ts≤5000000
theorem NS(h:lb vs H Q E):Lp K (gf Q) (start ["_law_found","_law_todo","_law_part","_law_sizes"] vs) H:=by
 obtain⟨t,v,rfl,hd,hs,k⟩:=h;refine⟨fG,eZ λtl H1 htl s1 g1=>?_⟩;refine⟨λm σ H'=>∃tl us ts j2 j3,σ=[some v,some (.ref tl),j2,j3]∧Iw H H' tl us ts∧m=eu ts,⟨_,tl,[v],[t],none,none,rfl,⟨s1,htl,g1,.cons (hd.mono (dY s1)) .nil,by rw[fm,jC];lia⟩,rfl⟩,?_⟩;clear s1 g1 htl;rintro m σ H2 ⟨tl,us,ts,j2,j3,rfl,A,rfl⟩;refine⟨fG,λe he=>?_⟩;have s3:=dR (o:=.lst []) he;have g3:(upd H2 e (.lst [])) e=some (.lst []):=dO;have A3:Iw H (upd H2 e (.lst [])) tl us ts:=⟨A.same.trans s3,A.new,s3 _ _ A.at_,A.den.mono (dY s3),A.sz⟩;generalize upd H2 e (.lst [])=H3 at g3 A3⊢;refine⟨eG.of A3.at_,eG.of g3,_,rfl,?_⟩;by_cases hv:us=[]
 ·subst hv;exact eK rfl (k _ A3.same)
 ·obtain⟨us,u,rfl⟩:=gK hv;refine fW (by simp) ?_;obtain⟨ts',t',rfl,d1,d2⟩:=A3.den.snoc;refine⟨λσ' H'=>∃m',m'<eu (ts'++[t'])∧∃tl us ts j2 j3,σ'=[some v,some (.ref tl),j2,j3]∧Iw H H' tl us ts∧m'=eu ts,λ_ _ h=>h,?_⟩;refine⟨.inl ⟨rfl,_,eG.of A3.at_⟩,A3.at_,jT,?_⟩;rw[iZ];have t4:=fL (o:=.lst us) A3.at_;have s4:dy H (upd H3 tl (.lst us)):=eF A3.same A3.new;have g4:(upd H3 tl (.lst us)) tl=some (.lst us):=dO;have c1:=d1.mono t4;have c2:=d2.mono t4;generalize upd H3 tl (.lst us)=H4 at s4 g4 c1 c2⊢;refine ve c2 λH5 s5 j3=>?_;refine⟨t',u,rfl,c2.mono (dY s5),λl us2 H6 s6 n6 h6 d6=>?_⟩;have q1:=c1.length;have q2:=d6.length;have q3:=eh ts';have q4:=eh t'.kids;have hk:=jD t';have hz:=A3.sz;rw[fC,fm,jC]at hz;have s56:=s5.trans s6;refine⟨s56 _ _ g4,h6,by rw[sizeLine_eq];lia,λp7 hp7=>?_⟩;have s7:=dR (o:=.lst (us++us2)) hp7;have s47:=s56.trans s7;refine⟨eu (ts'++t'.kids),by rw[fC,fC,fm,jC];lia,p7,us++us2,ts'++t'.kids,_,_,rfl,⟨s4.trans s47,(s4.trans s56).free hp7,dO,(c1.mono (dY s47)).append (d6.mono (dY s7)),by rw[fC];lia⟩,rfl⟩
end S10
namespace SW
open PySem L2
end SW
namespace S10
open PySem L2 SW
variable {K:aA}{vs:List V}{H H₀:Hp}{Q:VK}{E:XK}
end S10
namespace SW
open PySem L2
def iB(K:aA):Sp:=λvs H Q E=>∃S S',qE K S S' vs H Q E
def Nj:Str→Nat→Prop:=λx n=>x="st"∧n=2
def Kn:Str→Nat→Prop:=λx n=>x="star"∧n=0
def Km:Str→Nat→Prop:=λx n=>(x="star"∧n=0)∨(x="sta"∧n=1)
def vE(H:Hp)(l:Addr)(b:Str×List Str×T)(u:V):Prop:=∃(q p:Addr)(v:V),u=.ref q∧H q=some (.tup [.str b.1,.ref p,v])∧H p=some (.lst (b.2.1.map V.str))∧p≠l∧gG H b.2.2 v
inductive K2(H:Hp)(l:Addr):List (Str×List Str×T)→List V→Prop where
 | nil:K2 H l [] []
 | cons{b:Str×List Str×T}{u:V}{bs:List (Str×List Str×T)}{us:List V}:vE H l b u→K2 H l bs us→K2 H l (b::bs) (u::us)
theorem vE.mono(m:fO H H')(k:∀p xs,p≠l→H p=some (.lst xs)→H' p=some (.lst xs))(h:vE H l b u):vE H' l b u:=by obtain⟨q,p,v,e,h1,h2,h3,h4⟩:=h;exact⟨q,p,v,e,m _ _ h1,k _ _ h3 h2,h3,h4.mono m⟩
def rq(K:aA):Sp:=λvs H Q _=>∃(c:Addr)(wild:Bool)(ns:List Int),vs=[.ref c,.bl wild]∧eG K H c (ns.map V.int)∧ns.length≤100∧
 ∀(l:Addr)(us:List V)(t0 t1 t2:T)(H':Hp),dy H H'→H l=none→H' l=some (.lst us)→K2 H' l [("star",[],t0),("sta",["sab"],t1),("st",["sab","tab"],t2)] us→WG S0 t0→WG Kn t1→WG Km t2→t0.size≤4→t1.size≤8→t2.size≤10→t1.names.length≤4→t2.names.length≤5→Q (.ref l) H'
theorem lu(ns:List Int)(lo hi:Option Int):∃ms:List Int,ie (ns.map V.int) lo hi=ms.map V.int∧ms.length≤HT.kL ns.length ns.length hi-HT.kL ns.length 0 lo∧ms.length≤ns.length:=by
 refine⟨(ns.drop (HT.kL ns.length 0 lo)).take (HT.kL ns.length ns.length hi-HT.kL ns.length 0 lo),?_,?_,?_⟩
 ·unfold ie;rw[aX,List.map_take,List.map_drop]
 ·rw[aj];lia
 ·rw[aj,ah];lia
theorem lI(n d:Nat)(k:Nat):HT.kL n d (some (k:Int))=min k n:=HT.K5 ..
end SW
namespace S9
open PySem L2 SW
def HP(K:aA):TS:=(eD (fR (dM (fJ (dM (tC (.str "st")) (dM (tC (.int 2)) dW))) dW)) (IU (dN 2) (tC (.int 0)) BN))
def HN(K:aA):TS:=(fg (tB (dN 1)) (HP K) fQ)
def Lx(K:aA):TS:=(de (eD (fR (dM (fR dW) (dM (fR (dM (fJ (dM (tC (.str "star")) (dM (tC (.int 0)) dW))) dW)) (dM (fR (dM (fJ (dM (tC (.str "star")) (dM (tC (.int 0)) dW))) (dM (fJ (dM (tC (.str "sta")) (dM (tC (.int 1)) dW))) dW))) dW)))) (dX 2)) (de (HN K) (de (eD (fR (dM (fJ (dM (tC (.str "star")) (dM (fR dW) (dM (eN (iB K) [] E0 (dM (mL (jE K) (dN 0) fi (ft (tC (.int 1)))) (dM (dz (gL K) (dN 2) (tC (.int 0))) dW))) dW)))) dW)) (dX 3)) (de (fD (jm K "list" eY (dN 3) (dM (fJ (dM (tC (.str "sta")) (dM (fR (dM (tC (.str "sab")) dW)) (dM (eN (iB K) [] E0 (dM (mL (jE K) (dN 0) (ft (tC (.int 1))) (ft (tC (.int 4)))) (dM (dz (gL K) (dN 2) (tC (.int 1))) dW))) dW)))) dW))) (de (fD (jm K "list" eY (dN 3) (dM (fJ (dM (tC (.str "st")) (dM (fR (dM (tC (.str "sab")) (dM (tC (.str "tab")) dW))) (dM (eN (iB K) [] E0 (dM (mL (jE K) (dN 0) (ft (tC (.int 4))) (ft (tC (.int 8)))) (dM (dz (gL K) (dN 2) (tC (.int 2))) dW))) dW)))) dW))) (fT (dN 3)))))))
def HM(K:aA):TS:=(fT (tC (.bl false)))
def HL(K:aA):TS:=(fg (xH (mM (tB (gz (oq K) (dM (dN 0) (dM (tC (.ty "tuple")) dW))))) (xH (eI (dz yx (gz (gN K) (dM (dN 0) dW)) (tC (.int 4)))) (mM (tB (gz (oq K) (dM (dz (eC K) (dN 0) (tC (.int 0))) (dM (tC (.ty "str")) dW))))))) (HM K) fQ)
def HK(K:aA):TS:=(fT (tC (.bl false)))
def HJ(K:aA):TS:=(fg (xH (eI (dz yx (dz (eC K) (dN 0) (tC (.int 0))) (tC (.str "done")))) (xH (mM (tB (eN ke [] E0 (dM (dz (eC K) (dN 0) (tC (.int 3))) dW)))) (mM (tB (gz (oq K) (dM (dz (eC K) (dN 0) (tC (.int 2))) (dM (tC (.ty "list")) dW))))))) (HK K) fQ)
def HI(K:aA):TS:=(fT (tC (.bl false)))
def HH(K:aA):TS:=(fg (xH (mM (tB (gz (oq K) (dM (dN 1) (dM (tC (.ty "tuple")) dW))))) (xH (eI (dz yx (gz (gN K) (dM (dN 1) dW)) (tC (.int 2)))) (mM (tB (gz (oq K) (dM (dz (eC K) (dN 1) (tC (.int 0))) (dM (tC (.ty "str")) dW))))))) (HI K) fQ)
def HG(K:aA):TS:=(fT (tC (.bl false)))
def HF(K:aA):TS:=(fg (mM (tB (gz (oq K) (dM (dz (eC K) (dN 1) (tC (.int 1))) (dM (tC (.ty "tuple")) dW))))) (HG K) fQ)
def HE(K:aA):TS:=(fT (tC (.bl false)))
def De(K:aA):TS:=(fg (mM (tB (eN ke [] E0 (dM (dN 2) dW)))) (HE K) fQ)
def Dc(K:aA):TS:=(de (HH K) (de (HF K) (iK (IS K (dz (eC K) (dN 1) (tC (.int 1)))) (dX 2) (De K))))
def Lw(K:aA):TS:=(de (HL K) (de (HJ K) (de (iK (i0 K (dz (eC K) (dN 0) (tC (.int 2)))) (dX 1) (Dc K)) (fT (eN lb [] E0 (dM (dz (eC K) (dN 0) (tC (.int 1))) dW))))))
def L0(K:aA):TS:=(fT (L3 (i0 K (dN 0)) (fJ (dM (dz (eC K) (dN 0) (tC (.int 0))) (dM (gz (tJ K) (dM (dz (eC K) (dN 0) (tC (.int 1))) dW)) (dM (dz (eC K) (dN 0) (tC (.int 2))) dW)))) []))
variable {K:aA}{vs:List V}{H:Hp}{Q:VK}{E:XK}
theorem MD(h:iB K vs H Q E):SW.Lv K (gf Q) (start ["_law_cells","_law_stamps","_law_pile","_law_cell","_law_rest","_law_way","_law_word","_law_inner","_law_look","_law_name","_law_many","_law_made","_law_last"] vs) H:=by obtain⟨S,S',h⟩:=h;exact Hi h
theorem Cw(t:T)(h:t.size≤2)(w:WG Nj t):WG S0 t:=by
 cases t with
 | num n=>exact w
 | name x=>exact w
 | sum a b=>have:=a.size_pos;have:=b.size_pos;simp only[T.size]at h;lia
 | less a b=>have:=a.size_pos;have:=b.size_pos;simp only[T.size]at h;lia
 | cho a b c=>have:=a.size_pos;have:=b.size_pos;simp only[T.size]at h;lia
 | lt x a b=>have:=a.size_pos;have:=b.size_pos;simp only[T.size]at h;lia
 | st0 x=>exact absurd w.2 (by decide)
 | st1 x a=>exact absurd w.1.2 (by decide)
 | st2 x a b=>have:=a.size_pos;have:=b.size_pos;simp only[T.size]at h;lia
theorem qL{c low z0 l1 l2 a1 a2 a3:Addr}{ns:List Int}{xs0:List V}{Sx:Str→Nat→Prop}{j1:Option V}(hc:eG K H c (ns.map V.int))(hn:ns.length≤100)(hlow:H low=some (.lst [.ref z0,.ref l1,.ref l2]))(h0:H z0=some (.lst xs0))(hx0:xs0.length≤1000)(st0:jR Sx H xs0)(hS0:∀t:T,t.size≤2→WG Sx t→WG S0 t)
  (h1:H l1=some (.lst [.ref a1])) (e1:H a1=some (.tup [.str "star",.int 0])) (h2:H l2=some (.lst [.ref a2,.ref a3])) (e2:H a2=some (.tup [.str "star",.int 0])) (e3:H a3=some (.tup [.str "sta",.int 1]))
  (k:∀(l:Addr)(us:List V)(t0 t1 t2:T)(H':Hp),dy H H'→H l=none→H' l=some (.lst us)→K2 H' l [("star",[],t0),("sta",["sab"],t1),("st",["sab","tab"],t2)] us→WG S0 t0→WG Kn t1→WG Km t2→t0.size≤4→t1.size≤8→t2.size≤10→t1.names.length≤4→t2.names.length≤5→Q (.ref l) H'):
  (de (eD (fR (dM (fJ (dM (tC (.str "star")) (dM (fR dW) (dM (eN (iB K) [] E0 (dM (mL (jE K) (dN 0) fi (ft (tC (.int 1)))) (dM (dz (gL K) (dN 2) (tC (.int 0))) dW))) dW)))) dW)) (dX 3)) (de (fD (jm K "list" eY (dN 3) (dM (fJ (dM (tC (.str "sta")) (dM (fR (dM (tC (.str "sab")) dW)) (dM (eN (iB K) [] E0 (dM (mL (jE K) (dN 0) (ft (tC (.int 1))) (ft (tC (.int 4)))) (dM (dz (gL K) (dN 2) (tC (.int 1))) dW))) dW)))) dW))) (de (fD (jm K "list" eY (dN 3) (dM (fJ (dM (tC (.str "st")) (dM (fR (dM (tC (.str "sab")) (dM (tC (.str "tab")) dW))) (dM (eN (iB K) [] E0 (dM (mL (jE K) (dN 0) (ft (tC (.int 4))) (ft (tC (.int 8)))) (dM (dz (gL K) (dN 2) (tC (.int 2))) dW))) dW)))) dW))) (fT (dN 3))))) (gf Q) [some (.ref c),j1,some (.ref low),none] H:=by
 refine⟨fG,eZ λp0 H1 hp0 s1 g1=>?_⟩;obtain⟨m0,em0,q0,_⟩:=lu ns none (some 1);refine⟨s1.seq hc,λc0 hc0=>?_⟩;rw[em0];have s2:=dR (o:=.lst (m0.map V.int)) hc0;have g2:(upd H1 c0 (.lst (m0.map V.int))) c0=some (.lst (m0.map V.int)):=dO;generalize upd H1 c0 (.lst (m0.map V.int))=H2 at s2 g2⊢;have s12:=s1.trans s2;have q0:m0.length≤1:=by have e:HT.kL ns.length ns.length (some 1)=min 1 ns.length:=lI ns.length ns.length 1;rw[e]at q0;lia
 refine⟨eG.of (s12 _ _ hlow),dS (j:=0) rfl,?_⟩;refine⟨Sx,S0,c0,z0,m0,xs0,rfl,eG.of g2,by lia,s12 _ _ h0,hx0,λx hx=>?_,λt ht=>hS0 t (by lia),λt0 v0 H3 s3 d0 w0 z0' _=>?_⟩
 ·obtain⟨q,nm,m,r1,r2,r3⟩:=st0 x hx;exact⟨q,nm,m,r1,s12 _ _ r2,r3⟩
 have s13:=s12.trans s3;have gp0:=(s2.trans s3) _ _ g1;refine⟨fG,eZ λb0 H4 hb0 s4 g4=>?_⟩;refine⟨fG,eZ λl H5 hl s5 g5=>?_⟩;have s35:=s4.trans s5;have s15:=s13.trans s35;have nl:H l=none:=(s13.trans s4).free hl;have np0:p0≠l:=dZ (s4 _ _ gp0) hl;have B0:vE H5 l ("star",[],t0) (.ref b0):=⟨b0,p0,v0,rfl,s5 _ _ g4,s35 _ _ gp0,np0,d0.mono (dY s35)⟩;have nlow:low≠l:=dZ hlow nl;have keep:∀{Ha Hb:Hp}{us us':List V},Ha l=some (.lst us)→Hb=upd Ha l (.lst us')→∀p xs,p≠l→Ha p=some (.lst xs)→Hb p=some (.lst xs):=λ_ e p xs n h=>by subst e;rw[db n];exact h
 clear s1 g1 s2 g2 s12 s3 s13 gp0 s4 g4 s35 hp0 hc0 hb0 hl em0;refine⟨.inl ⟨rfl,_,eG.of g5⟩,fG,eZ λp1 H6 hp1 s6 g6=>?_⟩;obtain⟨m1,em1,q1,_⟩:=lu ns (some 1) (some 4);refine⟨(s15.trans s6).seq hc,λc1 hc1=>?_⟩;rw[em1];have s7:=dR (o:=.lst (m1.map V.int)) hc1;have g7:(upd H6 c1 (.lst (m1.map V.int))) c1=some (.lst (m1.map V.int)):=dO;generalize upd H6 c1 (.lst (m1.map V.int))=H7 at s7 g7⊢;have s67:=s6.trans s7;have q1:m1.length≤3:=by have ea:HT.kL ns.length ns.length (some 4)=min 4 ns.length:=lI ns.length ns.length 4;have eb:HT.kL ns.length 0 (some 1)=min 1 ns.length:=lI ns.length 0 1;rw[ea,eb]at q1;lia
 have s17:=s15.trans s67;refine⟨eG.of (s17 _ _ hlow),dS (j:=1) rfl,?_⟩;refine⟨Kn,Kn,c1,l1,m1,_,rfl,eG.of g7,by lia,s17 _ _ h1,by simp,λx hx=>?_,λ_ _ z=>z,λt1 v1 H8 s8 d1 w1 z1' y1'=>?_⟩
 ·obtain rfl:x=.ref a1:=by simpa using hx
  exact⟨a1,"star",0,rfl,s17 _ _ e1,by decide,rfl,rfl⟩
 have s68:=s67.trans s8;refine⟨fG,eZ λb1 H9 hb1 s9 g9=>?_⟩;have s69:=s68.trans s9;have at9:=s69 _ _ g5;have np1:p1≠l:=λz=>by subst z;rw[g5]at hp1;cases hp1
 refine⟨at9,by rw[sizeLine_eq];simp,?_⟩;have t10:=fL (o:=.lst ([.ref b0]++[.ref b1])) at9;have k10:=keep at9 (rfl:upd H9 l (.lst ([.ref b0]++[.ref b1]))=_);have s10:dy H (upd H9 l (.lst ([.ref b0]++[.ref b1]))):=eF (s15.trans s69) nl;have g10:(upd H9 l (.lst ([.ref b0]++[.ref b1]))) l=some (.lst ([.ref b0]++[.ref b1])):=dO;have B0':vE (upd H9 l (.lst ([.ref b0]++[.ref b1]))) l ("star",[],t0) (.ref b0):=(B0.mono (dY s69) λp xs _ h=>s69 _ _ h).mono t10 k10;have B1:vE (upd H9 l (.lst ([.ref b0]++[.ref b1]))) l ("sta",["sab"],t1) (.ref b1):=⟨b1,p1,v1,rfl,t10 _ _ g9,k10 _ _ np1 (((s7.trans s8).trans s9) _ _ g6),np1,(d1.mono (dY s9)).mono t10⟩;generalize upd H9 l (.lst ([.ref b0]++[.ref b1]))=G at t10 k10 s10 g10 B0' B1⊢;clear s6 g6 s7 g7 s67 s8 s68 s9 g9 s69 at9 hp1 hc1 hb1 em1 B0 s17;refine⟨.inl ⟨rfl,_,eG.of g10⟩,fG,eZ λp2 H6 hp2 s6 g6=>?_⟩;obtain⟨m2,em2,q2,_⟩:=lu ns (some 4) (some 8);refine⟨(s10.trans s6).seq hc,λc2 hc2=>?_⟩;rw[em2];have s7:=dR (o:=.lst (m2.map V.int)) hc2;have g7:(upd H6 c2 (.lst (m2.map V.int))) c2=some (.lst (m2.map V.int)):=dO;generalize upd H6 c2 (.lst (m2.map V.int))=H7 at s7 g7⊢;have s67:=s6.trans s7;have q2:m2.length≤4:=by have ea:HT.kL ns.length ns.length (some 8)=min 8 ns.length:=lI ns.length ns.length 8;have eb:HT.kL ns.length 0 (some 4)=min 4 ns.length:=lI ns.length 0 4;rw[ea,eb]at q2;lia
 have s17:=s10.trans s67;refine⟨eG.of (s17 _ _ hlow),dS (j:=2) rfl,?_⟩;refine⟨Km,Km,c2,l2,m2,_,rfl,eG.of g7,by lia,s17 _ _ h2,by simp,λx hx=>?_,λ_ _ z=>z,λt2 v2 H8 s8 d2 w2 z2' y2'=>?_⟩
 ·simp only[aB,aF,or_false]at hx;rcases hx with rfl|rfl
  ·exact⟨a2,"star",0,rfl,s17 _ _ e2,by decide,.inl ⟨rfl,rfl⟩⟩
  ·exact⟨a3,"sta",1,rfl,s17 _ _ e3,by decide,.inr ⟨rfl,rfl⟩⟩
 have s68:=s67.trans s8;refine⟨fG,eZ λb2 H9 hb2 s9 g9=>?_⟩;have s69:=s68.trans s9;have at9:=s69 _ _ g10;have np2:p2≠l:=λz=>by subst z;rw[g10]at hp2;cases hp2
 refine⟨at9,by rw[sizeLine_eq];simp,?_⟩;have t10:=fL (o:=.lst ([.ref b0]++[.ref b1]++[.ref b2])) at9;have k10:=keep at9 (rfl:upd H9 l (.lst ([.ref b0]++[.ref b1]++[.ref b2]))=_);refine(k l [.ref b0,.ref b1,.ref b2] t0 t1 t2 _ (eF (s10.trans s69) nl) nl dO (.cons ((B0'.mono (dY s69) λp xs _ h=>s69 _ _ h).mono t10 k10) (.cons ((B1.mono (dY s69) λp xs _ h=>s69 _ _ h).mono t10 k10) (.cons ⟨b2,p2,v2,rfl,t10 _ _ g9,k10 _ _ np2 (((s7.trans s8).trans s9) _ _ g6),np2,(d2.mono (dY s9)).mono t10⟩ .nil))) w0 w1 w2 (by lia) (by lia) (by lia) (by lia) (by lia))
theorem NZ(h:rq K vs H Q E):Lx K (gf Q) (start ["_law_cells","_law_wild","_law_low","_law_book"] vs) H:=by
 obtain⟨c,wild,ns,rfl,hc,hn,k⟩:=h;refine⟨fG,eZ λl0 H0 hl0 s0 g0=>?_⟩;refine⟨fG,eZ λa1 H1 ha1 s1 g1=>?_⟩;refine⟨fG,eZ λl1 H2 hl1 s2 g2=>?_⟩;refine⟨fG,eZ λa2 H3 ha2 s3 g3=>?_⟩;refine⟨fG,eZ λa3 H4 ha3 s4 g4=>?_⟩;refine⟨fG,eZ λl2 H5 hl2 s5 g5=>?_⟩;refine⟨fG,eZ λlow H6 hlow s6 g6=>?_⟩;have u5:=s5.trans s6;have u4:=s4.trans u5;have u3:=s3.trans u4;have u2:=s2.trans u3;have u1:=s1.trans u2;have u0:=s0.trans u1;have nlow:H low=none:=(s0.trans (s1.trans (s2.trans (s3.trans (s4.trans s5))))).free hlow;refine⟨_,rfl,?_⟩;cases wild with
 | false=>refine fK ?_;exact qL (Sx:=S0) (u0.seq hc) hn g6 (u1 _ _ g0) (by simp) (λx hx=>by cases hx) (λ_ _ z=>z) (u3 _ _ g2) (u2 _ _ g1) (s6 _ _ g5) (u4 _ _ g3) (u5 _ _ g4) λl us t0 t1 t2 H' s n h b w0 w1 w2=>k l us t0 t1 t2 H' (u0.trans s) (u0.free n) h b w0 w1 w2
 | true=>
  refine oj ?_;refine⟨fG,eZ λb H7 hb s7 g7=>?_⟩;refine⟨fG,eZ λlw H8 hlw s8 g8=>?_⟩;have v8:=s7.trans s8;have e8:=v8 _ _ g6;refine⟨e8,rfl,?_⟩;have t9:=fL (o:=.lst [.ref lw,.ref l1,.ref l2]) e8;have n1:l1≠low:=λz=>by subst z;rw[(s3.trans (s4.trans s5)) _ _ g2]at hlow;cases hlow
  have n2:l2≠low:=λz=>by subst z;rw[g5]at hlow;cases hlow
  have nw:lw≠low:=λz=>by subst z;rw[s7 _ _ g6]at hlw;cases hlw
  have u9:dy H (upd H8 low (.lst [.ref lw,.ref l1,.ref l2])):=eF (u0.trans v8) nlow;refine qL (Sx:=Nj) (z0:=lw) (u9.seq hc) hn dO (by rw[db nw];exact g8) (by simp) (λx hx=>?_) Cw (by rw[db n1];exact v8 _ _ (u3 _ _ g2)) (t9 _ _ (v8 _ _ (u2 _ _ g1))) (by rw[db n2];exact v8 _ _ (s6 _ _ g5)) (t9 _ _ (v8 _ _ (u4 _ _ g3))) (t9 _ _ (v8 _ _ (u5 _ _ g4))) λl us t0 t1 t2 H' s n h b w0 w1 w2=>k l us t0 t1 t2 H' (u9.trans s) (u9.free n) h b w0 w1 w2;obtain rfl:x=.ref b:=by simpa using hx
  exact⟨b,"st",2,rfl,t9 _ _ (s8 _ _ g7),by decide,rfl,rfl⟩
end S9
namespace SW
open PySem L2
def FV(H:Hp)(u:V):Prop:=∃(q r:Addr)(w:Str)(ks:List Int),u=.ref q∧H q=some (.tup [.str w,.ref r])∧H r=some (.tup (ks.map V.int))
def qF:Sp:=λvs H Q _=>∃(p sl:Addr)(pv:V)(t:T)(m:Int)(us:List V),vs=[.ref p]∧H p=some (.tup [.str "done",pv,.ref sl,.int m])∧gG H t pv∧t.size≤5000000∧H sl=some (.lst us)∧(∀u∈us,FV H u)∧∀H',dy H H'→Q (.bl true) H'
end SW
namespace S9
open PySem L2 SW
variable {K:aA}{vs:List V}{H:Hp}{Q:VK}{E:XK}
theorem NY(h:qF vs H Q E):Lw K (gf Q) (start ["_law_found","_law_one","_law_k"] vs) H:=by
 obtain⟨p,sl,pv,t,m,us,rfl,hp,hd,ht,hs,ha,k⟩:=h;refine⟨.tup hp,fM,_,rfl,fK ?_⟩;refine⟨.inr (eA.of hp),rfl,_,rfl,eK rfl ?_⟩;refine⟨eA.of hp,rfl,.str _,fY,_,rfl,fK ?_⟩;refine⟨eA.of hp,rfl,rfl,_,rfl,eK (by decide) ?_⟩;refine⟨eA.of hp,rfl,m,rfl,_,rfl,fK ?_⟩;refine⟨eA.of hp,rfl,.lst hs,sf,_,rfl,fK ?_⟩;refine⟨eA.of hp,rfl,eG.of hs,?_⟩;refine gT (K:=K) (a:=sl) (xs:=us) (λi σ H'=>(∃j1 j2,σ=[some (.ref p),j1,j2])∧H'=H) ⟨⟨_,_,rfl⟩,rfl⟩ (λi σ H' _ hP=>by rw[hP.2];exact eG.of hs) ?_ ?_
 ·rintro i u σ H1 hi ⟨⟨j1,j2,rfl⟩,rfl⟩;obtain⟨q,r,w,ks,rfl,h1,h2⟩:=ha u (aZ hi);refine⟨.tup h1,fM,_,rfl,fK ?_⟩;refine⟨.inr (eA.of h1),rfl,_,rfl,eK rfl ?_⟩;refine⟨eA.of h1,rfl,.str _,fY,_,rfl,fK ?_⟩;refine⟨eA.of h1,rfl,.tup h2,fM,_,rfl,fK ?_⟩;refine⟨eA.of h1,rfl,eA.of h2,?_⟩;refine⟨λi m σ H'=>m=ks.length-i∧i≤ks.length∧(∃j2,σ=[some (.ref p),some (.ref q),j2])∧H'=H1,⟨_,rfl,aS _,⟨_,rfl⟩,rfl⟩,?_⟩;rintro i' m' σ' H' ⟨rfl,hi',⟨j2',rfl⟩,rfl⟩;by_cases e:i'=ks.length
  ·exact .inl ⟨⟨_,eA.of h2,by simp[e]⟩,⟨_,_,rfl⟩,rfl⟩
  ·have hlt:i'<ks.length:=by lia
   refine .inr ⟨⟨_,.int ks[i'],eA.of h2,by simp[hlt]⟩,_,λσ2 H2 h=>⟨ks.length-(i'+1),by lia,h⟩,?_⟩;rintro x H2 ⟨rfl,hx⟩;have hx:=hx _ (eA.of h2);rw[ac,aT hlt]at hx;cases hx;refine⟨ks[i'],rfl,_,rfl,fK ?_⟩;exact⟨rfl,by lia,⟨_,rfl⟩,rfl⟩
 ·rintro σ H1 ⟨⟨j1,j2,rfl⟩,rfl⟩;exact⟨eA.of hp,rfl,t,pv,rfl,hd,ht,k⟩
end S9
namespace SW
open PySem L2
abbrev Ow:=Str→Option Int
def Ow.put(o:Ow)(w:Str)(x:Int):Ow:=λy=>if y=w then some x else o y
def Ow.none:Ow:=λ_=>.none
abbrev En:=T×List Int×Ow
def gy:En→Int→List En
 | (.sum a b,p,o),_=>[(a,p++[0],o),(b,p++[1],o)]
 | (.less a b,p,o),_=>[(a,p++[0],o),(b,p++[1],o)]
 | (.cho a b c,p,o),_=>[(a,p++[0],o),(b,p++[1],o),(c,p++[2],o)]
 | (.lt w a b,p,o),x=>[(a,p++[0],o),(b,p++[1],Ow.put o w x)]
 | (.st1 _ a,p,o),_=>[(a,p++[0],o)]
 | (.st2 _ a b,p,o),_=>[(a,p++[0],o),(b,p++[1],o)]
 | (.num _,_,_),_=>[]
 | (.name _,_,_),_=>[]
 | (.st0 _,_,_),_=>[]
def pre(c:Int):T→List Int→Ow→Nat→List En
 | .num n,p,o,_=>[(.num n,p,o)]
 | .name w,p,o,_=>[(.name w,p,o)]
 | .sum a b,p,o,i=>(.sum a b,p,o)::(pre c a (p++[0]) o (i+1)++pre c b (p++[1]) o (i+1+a.size))
 | .less a b,p,o,i=>(.less a b,p,o)::(pre c a (p++[0]) o (i+1)++pre c b (p++[1]) o (i+1+a.size))
 | .cho a b d,p,o,i=>(.cho a b d,p,o)::(pre c a (p++[0]) o (i+1)++(pre c b (p++[1]) o (i+1+a.size)++pre c d (p++[2]) o (i+1+a.size+b.size)))
 | .lt w a b,p,o,i=>(.lt w a b,p,o)::(pre c a (p++[0]) o (i+1)++pre c b (p++[1]) (Ow.put o w (c+((i+1:Nat):Int))) (i+1+a.size))
 | .st0 w,p,o,_=>[(.st0 w,p,o)]
 | .st1 w a,p,o,i=>(.st1 w a,p,o)::pre c a (p++[0]) o (i+1)
 | .st2 w a b,p,o,i=>(.st2 w a b,p,o)::(pre c a (p++[0]) o (i+1)++pre c b (p++[1]) o (i+1+a.size))
def iN(c:Int):List En→Nat→List En
 | [],_=>[]
 | e::r,i=>pre c e.1 e.2.1 e.2.2 i++iN c r (i+e.1.size)
theorem oM(c:Int)(e:En)(r:List En)(i:Nat):e::iN c (gy e (c+((i+1:Nat):Int))++r) (i+1)=iN c (e::r) i:=by
 obtain⟨t,p,o⟩:=e;cases t with
 | num n=>simp only[gy,ak,iN,pre,aL,T.size]
 | name n=>simp only[gy,ak,iN,pre,aL,T.size]
 | st0 n=>simp only[gy,ak,iN,pre,aL,T.size]
 | sum a b=>simp only[gy,ak,iN,pre,aL,aV,T.size];rw[show i+1+a.size+b.size=i+(a.size+b.size+1) by lia]
 | less a b=>simp only[gy,ak,iN,pre,aL,aV,T.size];rw[show i+1+a.size+b.size=i+(a.size+b.size+1) by lia]
 | cho a b d=>simp only[gy,ak,iN,pre,aL,aV,T.size];rw[show i+1+a.size+b.size+d.size=i+(a.size+b.size+d.size+1) by lia]
 | lt w a b=>simp only[gy,ak,iN,pre,aL,aV,T.size];rw[show i+1+a.size+b.size=i+(a.size+b.size+1) by lia]
 | st1 w a=>simp only[gy,ak,iN,pre,aL,aV,T.size];rw[show i+1+a.size=i+(a.size+1) by lia]
 | st2 w a b=>simp only[gy,ak,iN,pre,aL,aV,T.size];rw[show i+1+a.size+b.size=i+(a.size+b.size+1) by lia]
theorem mR(e:En)(x:Int):(gy e x).map (·.1)=e.1.kids:=by obtain⟨t,p,o⟩:=e;cases t<;>rfl
theorem rB(e:En)(x:Int):(gy e x).length=e.1.kids.length:=by rw[←mR e x,aX]
theorem Bv{e k:En}{x:Int}{j:Nat}(h:(gy e x)[j]?=some k):k.2.1=e.2.1++[(j:Int)]∧((∃w a b,e.1=.lt w a b∧j=1∧k.2.2=Ow.put e.2.2 w x)∨((∀w a b,e.1=.lt w a b→j≠1)∧k.2.2=e.2.2)):=by
 obtain⟨t,p,o⟩:=e;cases t<;>(try (simp only[gy]at h))<;>(match j,h with
  | 0,h=>first
   | (cases h;exact⟨rfl,.inr ⟨λ_ _ _ _=>by decide,rfl⟩⟩)
   | (cases h)
  | 1,h=>first
   | (cases h;exact⟨rfl,.inl ⟨_,_,_,rfl,rfl,rfl⟩⟩)
   | (cases h;exact⟨rfl,.inr ⟨λ_ _ _ z=>(by cases z),rfl⟩⟩)
   | (cases h)
  | 2,h=>first
   | (cases h;exact⟨rfl,.inr ⟨λ_ _ _ z=>(by cases z),rfl⟩⟩)
   | (cases h)
  | j+3,h=>cases h)
def Iq(kvs:List (fI×V))(o:Ow):Prop:=∀w:Str,fP kvs (.inr w:fI)=(o w).map V.int
theorem Iq.put(h:Iq kvs g)(w:Str)(x:Int):Iq (gA kvs (.inr w:fI) (.int x)) (Ow.put g w x):=λy=>by
 rw[jd];by_cases e:y=w
 ·subst e;simp[Ow.put]
 ·have:¬((.inr y:fI)=.inr w):=λz=>e (Sum.inr.inj z);simp[Ow.put,e,this,h y]
def Cs(H:Hp)(e:En)(u:V):Prop:=∃(q pp od:Addr)(v:V)(kvs:List (fI×V)),u=.ref q∧H q=some (.tup [v,.ref pp,.ref od])∧gG H e.1 v∧H pp=some (.tup (e.2.1.map V.int))∧H od=some (.dK kvs)∧Iq kvs e.2.2∧kvs.length+e.1.size≤1000∧e.2.1.length+e.1.size≤1000
theorem Cs.mono(m:fO H H')(k:vC H H')(h:Cs H e u):Cs H' e u:=by obtain⟨q,pp,od,v,kvs,r1,r2,r3,r4,r5,r6⟩:=h;exact⟨q,pp,od,v,kvs,r1,m _ _ r2,r3.mono m,m _ _ r4,k _ _ r5,r6⟩
inductive EL(H:Hp):List En→List V→Prop where
 | nil:EL H [] []
 | cons{e:En}{u:V}{es:List En}{us:List V}:Cs H e u→EL H es us→EL H (e::es) (u::us)
inductive ER(H:Hp):List En→List V→Prop where
 | nil:ER H [] []
 | snoc{e:En}{u:V}{es:List En}{us:List V}:ER H es us→Cs H e u→ER H (e::es) (us++[u])
theorem EL.mono(m:fO H H')(k:vC H H'):∀{es:List En}{us:List V},EL H es us→EL H' es us
 | _,_,.nil=>.nil
 | _,_,.cons a r=>.cons (a.mono m k) (EL.mono m k r)
theorem ER.mono(m:fO H H')(k:vC H H'):∀{es:List En}{us:List V},ER H es us→ER H' es us
 | _,_,.nil=>.nil
 | _,_,.snoc r a=>.snoc (ER.mono m k r) (a.mono m k)
theorem EL.snoc:∀{es:List En}{us:List V},EL H es us→Cs H e u→EL H (es++[e]) (us++[u])
 | _,_,.nil,h=>.cons h .nil
 | _,_,.cons a r,h=>.cons a (EL.snoc r h)
theorem EL.length:∀{es:List En}{us:List V},EL H es us→us.length=es.length
 | _,_,.nil=>rfl
 | _,_,.cons _ r=>by rw[aE,aE,EL.length r]
theorem ER.length:∀{es:List En}{us:List V},ER H es us→us.length=es.length
 | _,_,.nil=>rfl
 | _,_,.snoc r _=>by rw[aD,aE,ER.length r];rfl
def tW(es:List En):Nat:=(es.map λe=>e.1.size).sum
theorem ph(e:En)(es:List En):tW (e::es)=e.1.size+tW es:=by simp[tW]
theorem Aq(e:En)(x:Int):tW (gy e x)+1=e.1.size:=by have h:=jD e.1;rw[←mR e x]at h;unfold tW;unfold eu at h;rw[cC]at h;exact h
theorem pj(a b:List En):tW (a++b)=tW a+tW b:=by simp[tW]
theorem xM:∀es:List En,es.length≤tW es
 | []=>aC _
 | e::r=>by have:=xM r;have:=e.1.size_pos;rw[ph,aE];lia
end SW
namespace S3
open PySem L2 SW
def GR(K:aA):TS:=(de (eD (gz tK (dM (dN 8) dW)) (dX 11)) (lJ (dN 11) (dz (eC K) (dN 6) (tC (.int 1))) (dz oU (dN 3) (gz (gN K) (dM (dN 4) dW)))))
def GQ(K:aA):TS:=(fg (kH (eI (dz kA (dz (eC K) (dN 6) (tC (.int 0))) (tC (.str "let")))) (eI (dz kA (dN 10) (tC (.int 1))))) (GR K) fQ)
def AU(K:aA):TS:=(de (eD (dN 8) (dX 11)) (de (GQ K) (fD (jm K "list" eY (dN 5) (dM (fJ (dM (dz (gL K) (dN 9) (dN 10)) (dM (dz (qN K) (dN 7) (fJ (dM (dN 10) dW))) (dM (dN 11) dW)))) dW)))))
def AT(K:aA):TS:=(de (eD (mW K "list" mf (dN 5)) (lz K 3 (gH (dX 6) (gH (dX 7) (gH (dX 8) mB))))) (de (fD (jm K "list" eY (dN 4) (dM (fJ (dM (dN 6) (dM (dN 7) (dM (dN 8) dW)))) dW))) (de (eD (eN gQ [] E0 (dM (dN 6) dW)) (dX 9)) (iK (oY (dM (dz iU (gz (gN K) (dM (dN 9) dW)) (tC (.int 1))) (dM (mE gR (tC (.int 1))) (dM (mE gR (tC (.int 1))) dW)))) (dX 10) (AU K)))))
def GP(K:aA):TS:=(eD (dz (eC K) (dN 6) (tC (.int 1))) (dX 15))
def AS(K:aA):TS:=(fg (eI (dz (E9 K false) (dz (eC K) (dN 6) (tC (.int 0))) (fR (dM (tC (.str "number")) (dM (tC (.str "name")) (dM (tC (.str "stamp")) dW)))))) (GP K) fQ)
def GO(K:aA):TS:=(eD (dz oU (dz oU (dN 3) (dN 10)) (tC (.int 1))) (dX 15))
def AR(K:aA):TS:=(fg (eI (dz kA (dz (eC K) (dN 6) (tC (.int 0))) (tC (.str "let")))) (GO K) fQ)
def GN(K:aA):TS:=(eD (qp (dN 8) (dz (eC K) (dN 6) (tC (.int 1)))) (dX 15))
def ww(K:aA):TS:=(fg (kH (eI (dz kA (dz (eC K) (dN 6) (tC (.int 0))) (tC (.str "name")))) (tB (An (dz (eC K) (dN 6) (tC (.int 1))) (dN 8)))) (GN K) fQ)
def DB(K:aA):TS:=(fD (jm K "list" eY (dN 12) (dM (qp (dN 2) (dz (eC K) (dN 6) (tC (.int 1)))) dW)))
def wv(K:aA):TS:=(fD (jm K "list" eY (dN 12) (dM (fJ (dM (dz (eC K) (dN 6) (tC (.int 0))) (dM (dN 15) (dM (fJ (dM (dN 1) (dM (dN 7) dW))) (dM (dN 14) dW))))) dW)))
def wu(K:aA):TS:=(fg (kH (eI (dz kA (dz (eC K) (dN 6) (tC (.int 0))) (tC (.str "name")))) (kH (tB (pA (dz (eC K) (dN 6) (tC (.int 1))) (dN 8))) (tB (An (dz (eC K) (dN 6) (tC (.int 1))) (dN 2))))) (DB K) (wv K))
def DA(K:aA):TS:=(de (eD (dz (gL K) (dN 4) (dN 10)) (lz K 3 (gH (dX 6) (gH (dX 7) (gH (dX 8) mB))))) (de (eD (gz (gN K) (dM (eN gQ [] E0 (dM (dN 6) dW)) dW)) (dX 13)) (de (eD (xG K (mL (jE K) (dN 12) (ft (dz iU (gz (gN K) (dM (dN 12) dW)) (dN 13))) fi)) (dX 14)) (de (eD (mL (jE K) (dN 12) fi (ft (dz iU (gz (gN K) (dM (dN 12) dW)) (dN 13)))) (dX 12)) (de (eD (tC .non) (dX 15)) (de (AS K) (de (AR K) (de (ww K) (wu K)))))))))
def Ll(K:aA):TS:=(de (eD (fR dW) (dX 4)) (de (eD (fR (dM (fJ (dM (dN 0) (dM (fJ dW) (dM ir dW)))) dW)) (dX 5)) (de (iE (eI (dz (lM K) (dN 5) (fR dW))) (AT K)) (de (eD (fR dW) (dX 12)) (de (iK (oY (dM (dz iU (gz (gN K) (dM (dN 4) dW)) (tC (.int 1))) (dM (mE gR (tC (.int 1))) (dM (mE gR (tC (.int 1))) dW)))) (dX 10) (DA K)) (fT (fJ (dM (dz (gL K) (dN 12) (tC (.int 0))) (dM (dz oU (dN 3) (gz (gN K) (dM (dN 4) dW))) dW)))))))))
end S3
namespace SW
open PySem L2
structure qg(H₀ H:Hp)(ol tl:Addr)(os st:List En)(ous tus:List V):Prop where
 same:dy H₀ H
 n1:H₀ ol=none
 n2:H₀ tl=none
 ne:ol≠tl
 ol_:H ol=some (.lst ous)
 tl_:H tl=some (.lst tus)
 el:EL H os ous
 er:ER H st tus
section
variable {H₀ H H':Hp}{ol tl q:Addr}{os st:List En}{ous tus:List V}{e:En}{u:V}
theorem qg.grow(B:qg H₀ H ol tl os st ous tus)(s:dy H H'):qg H₀ H' ol tl os st ous tus:=
 ⟨B.same.trans s,B.n1,B.n2,B.ne,s _ _ B.ol_,s _ _ B.tl_,B.el.mono (dY s) (gY s),B.er.mono (dY s) (gY s)⟩
theorem qg.push(B:qg H₀ H ol tl os st ous tus)(he:Cs H e (.ref q)):qg H₀ (upd H tl (.lst (tus++[.ref q]))) ol tl os (e::st) ous (tus++[.ref q]):=
 have m:=fL (o:=.lst (tus++[.ref q])) B.tl_;have k:=lS (o:=.lst (tus++[.ref q])) B.tl_
 ⟨eF B.same B.n2,B.n1,B.n2,B.ne,by rw[db B.ne];exact B.ol_,dO,B.el.mono m k,.snoc (B.er.mono m k) (he.mono m k)⟩
theorem qg.put(B:qg H₀ H ol tl os st ous tus)(he:Cs H e (.ref q)):qg H₀ (upd H ol (.lst (ous++[.ref q]))) ol tl (os++[e]) st (ous++[.ref q]) tus:=
 have m:=fL (o:=.lst (ous++[.ref q])) B.ol_;have k:=lS (o:=.lst (ous++[.ref q])) B.ol_
 ⟨eF B.same B.n1,B.n1,B.n2,B.ne,dO,by rw[db B.ne.symm];exact B.tl_,(B.el.mono m k).snoc (he.mono m k),B.er.mono m k⟩
theorem qg.pop(B:qg H₀ H ol tl os (e::st) ous (tus++[u]))(h:ER H st tus):qg H₀ (upd H tl (.lst tus)) ol tl os st ous tus:=
 have m:=fL (o:=.lst tus) B.tl_;have k:=lS (o:=.lst tus) B.tl_
 ⟨eF B.same B.n2,B.n1,B.n2,B.ne,by rw[db B.ne];exact B.ol_,dO,B.el.mono m k,h.mono m k⟩
end
structure Cr(H:Hp)(e:En)(v:V)(pp od:Addr)(kvs:List (fI×V)):Prop where
 den:gG H e.1 v
 path:H pp=some (.tup (e.2.1.map V.int))
 own:H od=some (.dK kvs)
 ow:Iq kvs e.2.2
 f1:kvs.length+e.1.size≤1000
 f2:e.2.1.length+e.1.size≤1000
theorem Cr.mono(m:fO H H')(k:vC H H')(h:Cr H e v pp od kvs):Cr H' e v pp od kvs:=
 ⟨h.den.mono m,m _ _ h.path,k _ _ h.own,h.ow,h.f1,h.f2⟩
end SW
namespace S3
open PySem L2 SW
variable {K:aA}{vs:List V}{H H₀:Hp}{Q:VK}{E:XK}
theorem yo{v0 src giv:Option V}{c:Int}{ol tl pp od il nd:Addr}{pv x:V}{os st:List En}{ous tus us:List V}{e k:En}{j:Nat}{kvs kvs':List (fI×V)}{D:iT}{j12 j13 j14 j15:Option V}
  (B:qg H₀ H ol tl os st ous tus) (hp:H pp=some (.tup (e.2.1.map V.int))) (hil:H il=some (.lst us)) (hx:us[j]?=some x) (dk:gG H k.1 x) (ek:k.2.1=e.2.1++[(j:Int)]) (hn:H nd=some (.dK kvs')) (ow:Iq kvs' k.2.2) (f1:kvs'.length+k.1.size≤1000) (f2:k.2.1.length+k.1.size≤1000) (few:tus.length≤5000)
  (hD:∀(q:Addr)(H':Hp),dy H H'→∀H'',H''=upd H' tl (.lst (tus++[.ref q]))→qg H₀ H'' ol tl os (k::st) ous (tus++[.ref q])→D.nx [v0,src,giv,some (.int c),some (.ref ol),some (.ref tl),some pv,some (.ref pp),some (.ref od),some (.ref il),some (.int j),some (.ref nd),j12,j13,j14,j15] H''):
  (fD (jm K "list" eY (dN 5) (dM (fJ (dM (dz (gL K) (dN 9) (dN 10)) (dM (dz (qN K) (dN 7) (fJ (dM (dN 10) dW))) (dM (dN 11) dW)))) dW))) D
   [v0,src,giv,some (.int c),some (.ref ol),some (.ref tl),some pv,some (.ref pp),some (.ref od),some (.ref il),some (.int j),some (.ref nd),j12,j13,j14,j15] H:=by
 refine⟨.inl ⟨rfl,_,eG.of B.tl_⟩,eG.of hil,dS hx,fG,eZ λkt H1 hkt s1 g1=>?_⟩;have rest:∀(pq:Addr)(H2:Hp),dy H H2→H2 pq=some (.tup (k.2.1.map V.int))→([x,.ref pq,.ref nd]:List V).length≤sizeLine∧∀p,H2 p=none→eY (.ref tl) [.ref p] (upd H2 p (.tup [x,.ref pq,.ref nd])) λ_ H1=>D.nx [v0,src,giv,some (.int c),some (.ref ol),some (.ref tl),some pv,some (.ref pp),some (.ref od),some (.ref il),some (.int j),some (.ref nd),j12,j13,j14,j15] H1:=by intro pq H2 s2 hpq;refine⟨fG,λq hq=>?_⟩;obtain⟨H3,s3,g3,e3⟩:∃H3,dy H2 H3∧H3 q=some (.tup [x,.ref pq,.ref nd])∧upd H2 q (.tup [x,.ref pq,.ref nd])=H3:=⟨_,dR hq,dO,rfl⟩;rw[e3];have s23:=s2.trans s3;have B3:=B.grow s23;refine⟨B3.tl_,by rw[sizeLine_eq];lia,hD q H3 s23 _ rfl (B3.push ⟨q,pq,nd,x,kvs',rfl,g3,dk.mono (dY s23),s3 _ _ hpq,s23 _ _ hn,ow,f1,f2⟩)⟩
 refine⟨eA.of (s1 _ _ hp),eA.of g1,?_,λhe=>?_,(λ_ he=>by cases he),λhe _ pq hpq=>?_⟩
 ·rw[aX];simp only[aE,am];rw[ek,aD]at f2;rw[sizeLine_eq];lia
 ·refine(rest kt H1 s1 ?_);have:e.2.1=[]:=by simpa using he
  rw[ek,this];exact g1
 ·have s2:=dR (o:=.tup (e.2.1.map V.int++[.int j])) hpq;refine(rest pq _ (s1.trans s2) ?_);rw[ek,dO];simp
theorem vc{v0 src giv:Option V}{c:Int}{ol tl pp od il:Addr}{pv:V}{os st:List En}{ous tus us:List V}{e:En}{kvs:List (fI×V)}{D:iT}{j10 j11 j12 j13 j14 j15:Option V}
  (B:qg H₀ H ol tl os st ous tus) (O:Cr H e pv pp od kvs) (hil:H il=some (.lst us)) (nil:il≠tl) (dk:gC H e.1.kids us) (few:tus.length≤4000)
  (hD:∀(tus':List V)(H':Hp)(j10 j11:Option V),qg H₀ H' ol tl os (gy e (c+(os.length:Int))++st) ous tus'→D.nx [v0,src,giv,some (.int c),some (.ref ol),some (.ref tl),some pv,some (.ref pp),some (.ref od),some (.ref il),j10,j11,j12,j13,j14,j15] H'):
  (iK (oY (dM (dz iU (gz (gN K) (dM (dN 9) dW)) (tC (.int 1))) (dM (mE gR (tC (.int 1))) (dM (mE gR (tC (.int 1))) dW)))) (dX 10) (AU K)) D
   [v0,src,giv,some (.int c),some (.ref ol),some (.ref tl),some pv,some (.ref pp),some (.ref od),some (.ref il),j10,j11,j12,j13,j14,j15] H:=by
 have hlen:=dk.length;have hkl:=rB e (c+(os.length:Int));have hk3:e.1.kids.length≤3:=by cases e.1<;>simp[T.kids]
 refine⟨.inl (eG.of hil),(us.length:Int)-1,-1,rfl,⟨by lia,by lia,by lia,by lia⟩,?_⟩;have en:((us.length:Int)-1 - -1).toNat=us.length:=by lia
 rw[en];refine⟨λi m σ H'=>m=us.length-i∧i≤us.length∧(∃j10 j11,σ=[v0,src,giv,some (.int c),some (.ref ol),some (.ref tl),some pv,some (.ref pp),some (.ref od),some (.ref il),j10,j11,j12,j13,j14,j15])∧Cr H' e pv pp od kvs∧H' il=some (.lst us)∧gC H' e.1.kids us∧∃tus',tus'.length=tus.length+i∧qg H₀ H' ol tl os ((gy e (c+(os.length:Int))).drop (us.length-i)++st) ous tus',
  ⟨_,rfl,aS _,⟨_,_,rfl⟩,O,hil,dk,tus,rfl,by rw[bg,bx (by lia)];exact B⟩,?_⟩
 rintro i m σ H' ⟨rfl,hi,⟨j10,j11,rfl⟩,O',hil',dk',tus',hl',B'⟩;by_cases hn:i=us.length
 ·refine .inl ⟨by show us.length≤i;lia,hD tus' H' _ _ ?_⟩;rw[hn,bH,ag]at B';exact B'
 ·have hlt:i<us.length:=by lia
  refine .inr ⟨show i<us.length from hlt,_,λσ2 H2 h=>⟨us.length-(i+1),by lia,h⟩,?_⟩;rintro v3 H3 ⟨rfl,rfl⟩;obtain⟨j,hj⟩:∃j:Nat,j=us.length-1-i:=⟨_,rfl⟩;have hjl:j<us.length:=by lia
  rw[show(us.length:Int)-1-(i:Int)=(j:Int) by lia];obtain⟨k,hk⟩:∃k,(gy e (c+(os.length:Int)))[j]?=some k:=⟨(gy e (c+(os.length:Int)))[j]'(by lia),by rw[aT]⟩;obtain⟨x,hx⟩:∃x,us[j]?=some x:=⟨us[j],by rw[aT]⟩;obtain⟨tk,htk,dx⟩:=pN dk' hx;have ek:tk=k.1:=by rw[←mR e (c+(os.length:Int)),ac,hk]at htk;exact(Option.some.inj htk).symm
  subst ek;obtain⟨e1,e2⟩:=Bv hk;have hsz:=qR (aZ htk);have hdrop:(gy e (c+(os.length:Int))).drop (us.length-(i+1))=k::(gy e (c+(os.length:Int))).drop (us.length-i):=by rw[show us.length-(i+1)=j by lia,show us.length-i=j+1 by lia];obtain⟨hjk,e⟩:=aK.mp hk;rw[bM hjk,e]
  have f2:k.2.1.length+k.1.size≤1000:=by have:=O'.f2;rw[e1,aD];simp only[aE,am];lia
  have tail:∀(nd:Addr)(kvs':List (fI×V))(H4:Hp),dy H3 H4→H4 nd=some (.dK kvs')→Iq kvs' k.2.2→kvs'.length+k.1.size≤1000→_:=λnd kvs' H4 s4 hnd ow f1=>
   yo (K:=K) (v0:=v0) (src:=src) (giv:=giv) (c:=c) (pv:=pv) (od:=od) (nd:=nd) (j12:=j12) (j13:=j13) (j14:=j14) (j15:=j15) (D:={D with nx:=λσ' H''=>us.length-(i+1)=us.length-(i+1)∧i+1≤us.length∧(∃j10 j11,σ'=[v0,src,giv,some (.int c),some (.ref ol),some (.ref tl),some pv,some (.ref pp),some (.ref od),some (.ref il),j10,j11,j12,j13,j14,j15])∧Cr H'' e pv pp od kvs∧H'' il=some (.lst us)∧gC H'' e.1.kids us∧∃tus',tus'.length=tus.length+(i+1)∧qg H₀ H'' ol tl os ((gy e (c+(os.length:Int))).drop (us.length-(i+1))++st) ous tus',ct:=λσ' H''=>us.length-(i+1)=us.length-(i+1)∧i+1≤us.length∧(∃j10 j11,σ'=[v0,src,giv,some (.int c),some (.ref ol),some (.ref tl),some pv,some (.ref pp),some (.ref od),some (.ref il),j10,j11,j12,j13,j14,j15])∧Cr H'' e pv pp od kvs∧H'' il=some (.lst us)∧gC H'' e.1.kids us∧∃tus',tus'.length=tus.length+(i+1)∧qg H₀ H'' ol tl os ((gy e (c+(os.length:Int))).drop (us.length-(i+1))++st) ous tus',bk:=D.nx}) (e:=e) (k:=k) (j:=j) (kvs:=kvs) (kvs':=kvs')
    (B'.grow s4) (s4 _ _ O'.path) (s4 _ _ hil') hx (dx.mono (dY s4)) e1 hnd ow f1 f2 (by lia) λq H5 s5 H6 e6 B6=>by have s45:=s4.trans s5;have B5:=(B'.grow s45);have m:=fL (o:=.lst (tus'++[.ref q])) B5.tl_;have kk:=lS (o:=.lst (tus'++[.ref q])) B5.tl_;rw[←e6]at m kk;refine⟨rfl,hlt,⟨_,_,rfl⟩,(O'.mono (dY s45) (gY s45)).mono m kk,?_,(dk'.mono (dY s45)).mono m,tus'++[.ref q],by simp[hl'];lia,by rw[hdrop];exact B6⟩;rw[e6,db nil];exact s45 _ _ hil'
  have plain:k.2.2=e.2.2→_:=λeo=>tail od kvs H3 (λ_ _ z=>z) O'.own (by rw[eo];exact O'.ow) (by have:=O'.f1;lia);obtain⟨p9,ks,epv,hp9,_⟩:=O'.den.open;subst epv;refine ?_;refine⟨eA.of hp9,gq e.1 ks,rfl,_,rfl,?_⟩;refine jI (λhlet=>?_) (λhlet=>?_)
  ·obtain⟨w,a,b,elt⟩:=m8 (V.str.inj (of_decide_eq_true hlet));refine⟨rfl,_,rfl,?_⟩;refine jI (λhj1=>?_) (λhj1=>?_)
   ·have hj1:j=1:=by have:=V.int.inj (of_decide_eq_true hj1);lia
    have eo:k.2.2=Ow.put e.2.2 w (c+(os.length:Int)):=by
     rcases e2 with⟨w',a',b',q1,_,q2⟩|⟨q1,_⟩
     ·rw[elt]at q1;cases q1;exact q2
     ·exact absurd hj1 (q1 w a b elt)
    refine⟨od,kvs,rfl,.inl O'.own,eZ λnd H4 hnd s4 g4=>?_⟩;have hol:=B'.el.length;have hw9:pS (hd e.1++ks) 1=some (.str w):=by rw[elt];exact dS (j:=1) rfl
    refine⟨.inl (eG.of (s4 _ _ B'.ol_)),eA.of (s4 _ _ hp9),hw9,nO.k (k:=.inr w) g4 (by have:=O'.f1;rw[sizeLine_eq];lia),?_⟩;rw[hol];have s5:dy H3 (upd H4 nd (.dK (gA kvs (.inr w:fI) (.int (c+(os.length:Int)))))):=eF s4 hnd;have hpl:=hX kvs (.inr w:fI) (.int (c+(os.length:Int)));refine tail nd _ _ s5 dO (by rw[eo];exact O'.ow.put w _) ?_;have:=O'.f1;show(gA kvs (.inr w:fI) (.int (c+(os.length:Int)))).length+k.1.size≤1000;lia
   ·refine plain ?_;rcases e2 with⟨_,_,_,_,q1,_⟩|⟨_,q2⟩
    ·exact absurd (by rw[q1];rfl) hj1
    ·exact q2
  ·refine fK (plain ?_);rcases e2 with⟨w',a',b',q1,_,_⟩|⟨_,q2⟩
   ·exact absurd (by rw[q1];exact decide_eq_true rfl) hlet
   ·exact q2
end S3
namespace SW
open PySem L2
theorem iR(c:Int):∀(t:T)(p:List Int)(o:Ow)(i:Nat),(pre c t p o i).length=t.size
 | .num _,_,_,_=>rfl
 | .name _,_,_,_=>rfl
 | .st0 _,_,_,_=>rfl
 | .sum a b,p,o,i=>by simp only[pre,aE,aD,iR c a,iR c b,T.size]
 | .less a b,p,o,i=>by simp only[pre,aE,aD,iR c a,iR c b,T.size]
 | .cho a b d,p,o,i=>by simp only[pre,aE,aD,iR c a,iR c b,iR c d,T.size];lia
 | .lt w a b,p,o,i=>by simp only[pre,aE,aD,iR c a,iR c b,T.size]
 | .st1 w a,p,o,i=>by simp only[pre,aE,iR c a,T.size]
 | .st2 w a b,p,o,i=>by simp only[pre,aE,aD,iR c a,iR c b,T.size]
end SW
namespace S3
open PySem L2 SW
variable {K:aA}{vs:List V}{H H₀:Hp}{Q:VK}{E:XK}
def Nv(H₀:Hp)(v0 src giv:Option V)(c:Int)(ol tl:Addr)(j12 j13 j14 j15:Option V)(es:List En)(m:Nat)(σ:St)(H':Hp):Prop:=∃os st ous tus j6 j7 j8 j9 j10 j11,σ=[v0,src,giv,some (.int c),some (.ref ol),some (.ref tl),j6,j7,j8,j9,j10,j11,j12,j13,j14,j15]∧qg H₀ H' ol tl os st ous tus∧os++iN c st os.length=es∧tW st+os.length≤900∧m=tW st
theorem vb
  (B:qg H₀ H ol tl [] st [] tus) (hes:iN c st 0=es) (hsz:tW st≤900)
  (hD:∀(ous:List V)(H':Hp)(j6 j7 j8 j9 j10 j11:Option V),dy H₀ H'→H' ol=some (.lst ous)→EL H' es ous→D.nx [v0,src,giv,some (.int c),some (.ref ol),some (.ref tl),j6,j7,j8,j9,j10,j11,j12,j13,j14,j15] H'):
  (iE (eI (dz (lM K) (dN 5) (fR dW))) (AT K)) D [v0,src,giv,some (.int c),some (.ref ol),some (.ref tl),j6,j7,j8,j9,j10,j11,j12,j13,j14,j15] H:=by
 refine⟨Nv H₀ v0 src giv c ol tl j12 j13 j14 j15 es,
  ⟨_,[],st,[],tus,_,_,_,_,_,_,rfl,B,by simpa using hes,by simpa using hsz,rfl⟩,?_⟩
 clear B hes hsz j6 j7 j8 j9 j10 j11 st tus;rintro m σ H1 ⟨os,st,ous,tus,j6,j7,j8,j9,j10,j11,rfl,B,he,hsz,rfl⟩;refine⟨fG,λe0 he0=>?_⟩;have s1:=dR (o:=.lst []) he0;have g1:(upd H1 e0 (.lst [])) e0=some (.lst []):=dO;have B1:=B.grow s1;generalize upd H1 e0 (.lst [])=H2 at g1 B1⊢;clear s1 he0 B;refine⟨eG.of B1.tl_,eG.of g1,_,rfl,?_⟩;have her:=B1.er;cases her with
 | nil=>
  refine eK rfl (hD ous H2 _ _ _ _ _ _ B1.same B1.ol_ ?_);have:os=es:=by simpa[iN]using he
  rw[←this];exact B1.el
 | @snoc e u st tus her ha=>
  refine fW (by simp) ?_;refine⟨λσ' H'=>∃m',m'<tW (e::st)∧Nv H₀ v0 src giv c ol tl j12 j13 j14 j15 es m' σ' H',λ_ _ h=>h,?_⟩;refine⟨.inl ⟨rfl,_,eG.of B1.tl_⟩,B1.tl_,jT,?_⟩;rw[iZ];have m3:=fL (o:=.lst tus) B1.tl_;have k3:=lS (o:=.lst tus) B1.tl_;have B3:=B1.pop her;have a3:=ha.mono m3 k3;generalize upd H2 tl (.lst tus)=H3 at B3 a3⊢;obtain⟨q,pp,od,pv,kvs,rfl,hq,den,hpp,hod,ow,f1,f2⟩:=a3;refine⟨eA.of hq,rfl,rfl,?_⟩;refine⟨.inl ⟨rfl,_,eG.of B3.ol_⟩,fG,λq4 hq4=>?_⟩;have s4:=dR (o:=.tup [pv,.ref pp,.ref od]) hq4;have g4:(upd H3 q4 (.tup [pv,.ref pp,.ref od])) q4=some (.tup [pv,.ref pp,.ref od]):=dO;have B4:=B3.grow s4;generalize upd H3 q4 (.tup [pv,.ref pp,.ref od])=H4 at s4 g4 B4⊢;have hol:=B4.el.length;rw[ph]at hsz;refine⟨B4.ol_,by rw[sizeLine_eq];lia,?_⟩;have m5:=fL (o:=.lst (ous++[.ref q4])) B4.ol_;have k5:=lS (o:=.lst (ous++[.ref q4])) B4.ol_;have O4:Cr H4 e pv pp od kvs:=⟨den.mono (dY s4),s4 _ _ hpp,s4 _ _ hod,ow,f1,f2⟩;have B5:=B4.put (e:=e) ⟨q4,pp,od,pv,kvs,rfl,g4,O4.den,O4.path,O4.own,ow,f1,f2⟩;have O5:=O4.mono m5 k5;generalize upd H4 ol (.lst (ous++[.ref q4]))=H5 at B5 O5⊢;refine⟨e.1,pv,rfl,O5.den,λil us H6 s6 n6 h6 d6=>?_⟩;have B6:=B5.grow s6;have htl:=B6.er.length;have hst:=xM st;refine vc B6 (O5.mono (dY s6) (gY s6)) h6 (λz=>by subst z;rw[B5.tl_]at n6;cases n6) d6 (by lia) λtus' H7 j10 j11 B7=>?_;have hk:=Aq e (c+((os++[e]).length:Int));have hl1:(os++[e]).length=os.length+1:=by simp
  have hfin:tW (gy e (c+((os++[e]).length:Int))++st)+(os++[e]).length≤900:=by rw[pj];generalize tW (gy e (c+((os++[e]).length:Int)))=z at *;lia
  refine⟨tW (gy e (c+((os++[e]).length:Int))++st),by rw[pj,ph];lia,os++[e],_,_,tus',_,_,_,_,_,_,rfl,B7,?_,hfin,rfl⟩;rw[←he,aV]
  congr 1
  have:=oM c e st os.length;rw[←this];simp
end S3
namespace SW
open PySem L2
inductive NT where
 | mk(k:Str)(x:V)(src:Str)(path:List Int)(kids:List NT)
mutual
inductive lW(H:Hp):NT→V→Prop where
 | mk{k:Str}{x:V}{src:Str}{path:List Int}{kids:List NT}{p sp pp kl:Addr}{us:List V}:H p=some (.tup [.str k,x,.ref sp,.ref kl])→H sp=some (.tup [.str src,.ref pp])→H pp=some (.tup (path.map V.int))→H kl=some (.lst us)→gt H kids us→lW H (.mk k x src path kids) (.ref p)
inductive gt(H:Hp):List NT→List V→Prop where
 | nil:gt H [] []
 | cons{n:NT}{u:V}{ns:List NT}{us:List V}:lW H n u→gt H ns us→gt H (n::ns) (u::us)
end
mutual
theorem lW.same(s:dy H H'):∀{n:NT}{u:V},lW H n u→lW H' n u
 | _,_,.mk h1 h2 h3 h4 h5=>.mk (s _ _ h1) (s _ _ h2) (s _ _ h3) (s _ _ h4) (gt.same s h5)
theorem gt.same(s:dy H H'):∀{ns:List NT}{us:List V},gt H ns us→gt H' ns us
 | _,_,.nil=>.nil
 | _,_,.cons a r=>.cons (lW.same s a) (gt.same s r)
end
theorem gt.length:∀{ns:List NT}{us:List V},gt H ns us→us.length=ns.length
 | _,_,.nil=>rfl
 | _,_,.cons _ r=>by rw[aE,aE,gt.length r]
theorem gt.append:∀{a b:List NT}{us ws:List V},gt H a us→gt H b ws→gt H (a++b) (us++ws)
 | _,_,_,_,.nil,q=>q
 | _,_,_,_,.cons a r,q=>.cons a (gt.append r q)
theorem gt.reverse:∀{a:List NT}{us:List V},gt H a us→gt H a.reverse us.reverse
 | _,_,.nil=>.nil
 | _,_,.cons a r=>by rw[ao,ao];exact(gt.reverse r).append (.cons a .nil)
theorem gt.take:∀{a:List NT}{us:List V}(n:Nat),gt H a us→gt H (a.take n) (us.take n)
 | _,_,0,_=>.nil
 | _,_,_+1,.nil=>.nil
 | _,_,n+1,.cons a r=>.cons a (gt.take n r)
theorem gt.drop:∀{a:List NT}{us:List V}(n:Nat),gt H a us→gt H (a.drop n) (us.drop n)
 | _,_,0,h=>h
 | _,_,_+1,.nil=>.nil
 | _,_,n+1,.cons _ r=>gt.drop n r
abbrev Gi:=Str→Option NT
def eQ(c:Int)(src:Str)(giv:Gi)(e:En)(i:Nat)(ks:List NT):NT:=match e.1 with
 | .num n=>.mk "number" (.int n) src e.2.1 ks
 | .name w=>(match e.2.2 w with
  | some x=>.mk "name" (.int x) src e.2.1 ks
  | none=>(match giv w with
   | some g=>g
   | none=>.mk "name" (.str w) src e.2.1 ks))
 | .sum _ _=>.mk "sum" .non src e.2.1 ks
 | .less _ _=>.mk "less" .non src e.2.1 ks
 | .cho _ _ _=>.mk "choose" .non src e.2.1 ks
 | .lt _ _ _=>.mk "let" (.int (c+i+1)) src e.2.1 ks
 | .st0 w=>.mk "stamp" (.str w) src e.2.1 ks
 | .st1 w _=>.mk "stamp" (.str w) src e.2.1 ks
 | .st2 w _ _=>.mk "stamp" (.str w) src e.2.1 ks
def nt(c:Int)(src:Str)(giv:Gi):T→List Int→Ow→Nat→NT
 | .num n,p,o,i=>eQ c src giv (.num n,p,o) i []
 | .name w,p,o,i=>eQ c src giv (.name w,p,o) i []
 | .sum a b,p,o,i=>eQ c src giv (.sum a b,p,o) i [nt c src giv a (p++[0]) o (i+1),nt c src giv b (p++[1]) o (i+1+a.size)]
 | .less a b,p,o,i=>eQ c src giv (.less a b,p,o) i [nt c src giv a (p++[0]) o (i+1),nt c src giv b (p++[1]) o (i+1+a.size)]
 | .cho a b d,p,o,i=>eQ c src giv (.cho a b d,p,o) i [nt c src giv a (p++[0]) o (i+1),nt c src giv b (p++[1]) o (i+1+a.size),nt c src giv d (p++[2]) o (i+1+a.size+b.size)]
 | .lt w a b,p,o,i=>eQ c src giv (.lt w a b,p,o) i [nt c src giv a (p++[0]) o (i+1),nt c src giv b (p++[1]) (Ow.put o w (c+((i+1:Nat):Int))) (i+1+a.size)]
 | .st0 w,p,o,i=>eQ c src giv (.st0 w,p,o) i []
 | .st1 w a,p,o,i=>eQ c src giv (.st1 w a,p,o) i [nt c src giv a (p++[0]) o (i+1)]
 | .st2 w a b,p,o,i=>eQ c src giv (.st2 w a b,p,o) i [nt c src giv a (p++[0]) o (i+1),nt c src giv b (p++[1]) o (i+1+a.size)]
def iV(c:Int)(src:Str)(giv:Gi):List En→Nat→List NT
 | [],_=>[]
 | e::r,i=>eQ c src giv e i ((iV c src giv r (i+1)).take e.1.kids.length)::(iV c src giv r (i+1)).drop e.1.kids.length
theorem gI(c:Int)(src:Str)(giv:Gi):∀(t:T)(p:List Int)(o:Ow)(i:Nat)(r:List En),iV c src giv (pre c t p o i++r) i=nt c src giv t p o i::iV c src giv r (i+t.size)
 | .num n,p,o,i,r=>by simp only[pre,aL,ak,iV,nt,T.kids,am,av,ag,T.size]
 | .name n,p,o,i,r=>by simp only[pre,aL,ak,iV,nt,T.kids,am,av,ag,T.size]
 | .st0 n,p,o,i,r=>by simp only[pre,aL,ak,iV,nt,T.kids,am,av,ag,T.size]
 | .sum a b,p,o,i,r=>by simp only[pre,aL,aV,iV,gI c src giv a,gI c src giv b,nt,T.kids,aE,am,bI,av,bE,ag,T.size];rw[show i+1+a.size+b.size=i+(a.size+b.size+1) by lia]
 | .less a b,p,o,i,r=>by simp only[pre,aL,aV,iV,gI c src giv a,gI c src giv b,nt,T.kids,aE,am,bI,av,bE,ag,T.size];rw[show i+1+a.size+b.size=i+(a.size+b.size+1) by lia]
 | .cho a b d,p,o,i,r=>by simp only[pre,aL,aV,iV,gI c src giv a,gI c src giv b,gI c src giv d,nt,T.kids,aE,am,bI,av,bE,ag,T.size];rw[show i+1+a.size+b.size+d.size=i+(a.size+b.size+d.size+1) by lia]
 | .lt w a b,p,o,i,r=>by simp only[pre,aL,aV,iV,gI c src giv a,gI c src giv b,nt,T.kids,aE,am,bI,av,bE,ag,T.size];rw[show i+1+a.size+b.size=i+(a.size+b.size+1) by lia]
 | .st1 w a,p,o,i,r=>by simp only[pre,aL,aV,iV,gI c src giv a,nt,T.kids,aE,am,bI,av,bE,ag,T.size];rw[show i+1+a.size=i+(a.size+1) by lia]
 | .st2 w a b,p,o,i,r=>by simp only[pre,aL,aV,iV,gI c src giv a,gI c src giv b,nt,T.kids,aE,am,bI,av,bE,ag,T.size];rw[show i+1+a.size+b.size=i+(a.size+b.size+1) by lia]
theorem zZ(c:Int)(src:Str)(giv:Gi)(t:T):iV c src giv (pre c t [] Ow.none 0) 0=[nt c src giv t [] Ow.none 0]:=by have:=gI c src giv t [] Ow.none 0 [];rw[aa]at this;rw[this];rfl
def tU(H:Hp)(kvs:List (fI×V))(giv:Gi):Prop:=∀w:Str,(giv w=none∧fP kvs (.inr w:fI)=none)∨∃g u,giv w=some g∧fP kvs (.inr w:fI)=some u∧lW H g u
theorem tU.same(s:dy H H')(h:tU H kvs giv):tU H' kvs giv:=λw=>
 (h w).imp id λ⟨g,u,e1,e2,e3⟩=>⟨g,u,e1,e2,e3.same s⟩
def ma:Sp:=λvs H Q _=>∃(t:T)(v:V)(src:Str)(gd:Addr)(gkvs:List (fI×V))(giv:Gi)(c:Int),vs=[v,.str src,.ref gd,.int c]∧gG H t v∧t.size≤900∧H gd=some (.dK gkvs)∧tU H gkvs giv∧
 ∀(r:Addr)(u:V)(H':Hp),dy H H'→lW H' (nt c src giv t [] Ow.none 0) u→H' r=some (.tup [u,.int (c+(t.size:Int))])→Q (.ref r) H'
def sH(pl:Addr)(H:Hp):Hp:=λb=>if b=pl then none else H b
theorem iD(s:dy H H'):dy (sH pl H) (sH pl H'):=λb o h=>by
 unfold sH at h⊢;by_cases e:b=pl
 ·rw[if_pos e]at h;cases h
 ·rw[if_neg e]at h⊢;exact s b o h
theorem BB:dy (sH pl H) (upd H pl o):=λb u h=>by
 unfold sH at h;by_cases e:b=pl
 ·rw[if_pos e]at h;cases h
 ·rw[if_neg e]at h;rw[db e];exact h
theorem nY(h:H b=some o)(n:b≠pl):sH pl H b=some o:=by unfold sH;rw[if_neg n];exact h
theorem xZ(s:dy H H')(n:H pl=none):dy H (sH pl H'):=λb o h=>nY (s b o h) (dZ h n)
end SW
namespace S3
open PySem L2 SW
variable {K:aA}{vs:List V}{H H₀:Hp}{Q:VK}{E:XK}
theorem iX
  (O:Cr H e (.ref p) pp od kvs) (hp:H p=some (.tup (hd e.1++ks'))) (hkl:H kl=some (.lst kus)) (nkl:kl≠pl) (nks:gt (sH pl H) ks kus) (hpl:H pl=some (.lst pus)) (few:pus.length≤5000)
  (hx:eQ c src giv e i ks=.mk (kind e.1) x src e.2.1 ks)
  (hD:∀(u:V)(H1 H':Hp),dy H H1→H'=upd H1 pl (.lst (pus++[u]))→lW (sH pl H1) (eQ c src giv e i ks) u→D.nx [v0,some (.str src),IT,some (.int c),some (.ref ol),some (.ref tl),some (.ref p),some (.ref pp),some (.ref od),j9,j10,j11,some (.ref pl),j13,some (.ref kl),some x] H'):
  wv K D [v0,some (.str src),IT,some (.int c),some (.ref ol),some (.ref tl),some (.ref p),some (.ref pp),some (.ref od),j9,j10,j11,some (.ref pl),j13,some (.ref kl),some x] H:=by
 refine⟨.inl ⟨rfl,_,eG.of hpl⟩,eA.of hp,gq e.1 ks',fG,eZ λsp H1 hsp s1 g1=>?_⟩;refine⟨fG,eZ λq H2 hq s2 g2=>?_⟩;have s12:=s1.trans s2;have hpl2:=s12 _ _ hpl;refine⟨hpl2,by rw[sizeLine_eq];lia,hD (.ref q) H2 _ s12 rfl ?_⟩;rw[hx];have nt:∀{b:Addr}{xs:List V},H2 b=some (.tup xs)→b≠pl:=λh z=>by subst z;rw[hpl2]at h;cases h
 exact .mk (nY g2 (nt g2)) (nY (s2 _ _ g1) (nt (s2 _ _ g1))) (nY (s12 _ _ O.path) (nt (s12 _ _ O.path))) (nY (s12 _ _ hkl) nkl) (nks.same (iD s12))
theorem yn
  (O:Cr H (t,mn,o) (.ref p) pp od kvs) (hp:H p=some (.tup (hd t++ks'))) (hkl:H kl=some (.lst kus)) (nkl:kl≠pl) (nks:gt (sH pl H) ks kus) (hpl:H pl=some (.lst pus)) (few:pus.length≤5000)
  (hgd:H gd=some (.dK gkvs)) (hgiv:tU (sH pl H) gkvs giv)
  (hD:∀(u:V)(H1 H':Hp)(j11 j15:Option V),dy H H1→H'=upd H1 pl (.lst (pus++[u]))→lW (sH pl H1) (eQ c src giv (t,mn,o) i ks) u→D.nx [v0,some (.str src),some (.ref gd),some (.int c),some (.ref ol),some (.ref tl),some (.ref p),some (.ref pp),some (.ref od),j9,some (.int i),j11,some (.ref pl),j13,some (.ref kl),j15] H'):
  (de (eD (tC .non) (dX 15)) (de (AS K) (de (AR K) (de (ww K) (wu K))))) D [v0,some (.str src),some (.ref gd),some (.int c),some (.ref ol),some (.ref tl),some (.ref p),some (.ref pp),some (.ref od),j9,some (.int i),j11,some (.ref pl),j13,some (.ref kl),j15] H:=by
 cases t with
 | num n=>refine⟨eA.of hp,dS (j:=0) rfl,fG,eZ λl H1 hl s1 g1=>?_⟩;have hp1:=s1 _ _ hp;refine⟨.inl (eG.of g1),rfl,rfl,_,rfl,?_⟩;refine fW (by decide) ?_;refine⟨eA.of hp1,dS (j:=1) rfl,?_⟩;refine⟨eA.of hp1,dS (j:=0) rfl,rfl,_,rfl,?_⟩;refine eK (by decide) ?_;refine⟨eA.of hp1,dS (j:=0) rfl,rfl,_,rfl,?_⟩;refine eK (by decide) (fK ?_);refine⟨eA.of hp1,dS (j:=0) rfl,rfl,_,rfl,?_⟩;refine eK (by decide) (fK ?_);exact iX (e:=(.num n,mn,o)) (O.mono (dY s1) (gY s1)) hp1 (s1 _ _ hkl) nkl (nks.same (iD s1)) (s1 _ _ hpl) few rfl λu H2 H3 s2 e3 n3=>hD u H2 H3 _ _ (s1.trans s2) e3 n3
 | name w=>
  refine⟨eA.of hp,dS (j:=0) rfl,fG,eZ λl H1 hl s1 g1=>?_⟩;have hp1:=s1 _ _ hp;refine⟨.inl (eG.of g1),rfl,rfl,_,rfl,?_⟩;refine fW (by decide) ?_;refine⟨eA.of hp1,dS (j:=1) rfl,?_⟩;refine⟨eA.of hp1,dS (j:=0) rfl,rfl,_,rfl,?_⟩;refine eK (by decide) ?_;refine⟨eA.of hp1,dS (j:=0) rfl,rfl,_,rfl,?_⟩;refine fW (by decide) ?_;have O1:=O.mono (dY s1) (gY s1);have dg:=iQ.k (k:=.inr w) O1.own;have how:fP kvs (.inr w:fI)=(o w).map V.int:=O1.ow w;rw[how]at dg;refine⟨eA.of hp1,dS (j:=1) rfl,dg,_,rfl,?_⟩;cases ho:o w with
  | some x=>rw[ho]at dg;refine fW rfl ?_;refine⟨eA.of hp1,dS (j:=1) rfl,dg,?_⟩;refine⟨eA.of hp1,dS (j:=0) rfl,rfl,_,rfl,fW (by decide) ?_⟩;refine⟨eA.of hp1,dS (j:=1) rfl,dg,_,rfl,eK rfl (fK ?_)⟩;exact iX (e:=(.name w,mn,o)) O1 hp1 (s1 _ _ hkl) nkl (nks.same (iD s1)) (s1 _ _ hpl) few (by simp[eQ,ho,kind]) λu H2 H3 s2 e3 n3=>hD u H2 H3 _ _ (s1.trans s2) e3 n3
  | none=>
   rw[ho]at dg;refine eK rfl ?_;refine⟨eA.of hp1,dS (j:=0) rfl,rfl,_,rfl,fW (by decide) ?_⟩;refine⟨eA.of hp1,dS (j:=1) rfl,dg,_,rfl,fW rfl ?_⟩;have gg:=iQ.k (k:=.inr w) (s1 _ _ hgd);rcases hgiv w with⟨e1,e2⟩|⟨g,u,e1,e2,e3⟩
   ·rw[e2]at gg;refine⟨eA.of hp1,dS (j:=1) rfl,gg,_,rfl,eK rfl ?_⟩;exact iX (e:=(.name w,mn,o)) O1 hp1 (s1 _ _ hkl) nkl (nks.same (iD s1)) (s1 _ _ hpl) few (by simp[eQ,ho,e1,kind]) λu H2 H3 s2 e3 n3=>hD u H2 H3 _ _ (s1.trans s2) e3 n3
   ·rw[e2]at gg;refine⟨eA.of hp1,dS (j:=1) rfl,gg,_,rfl,fW rfl ?_⟩;refine⟨.inl ⟨rfl,_,eG.of (s1 _ _ hpl)⟩,eA.of hp1,dS (j:=1) rfl,gg,s1 _ _ hpl,by rw[sizeLine_eq];lia,?_⟩;refine hD u H1 _ _ _ s1 rfl ?_;have:eQ c src giv (.name w,mn,o) i ks=g:=by simp[eQ,ho,e1]
    rw[this];exact e3.same (iD s1)
 | sum a b=>refine⟨eA.of hp,dS (j:=0) rfl,fG,eZ λl H1 hl s1 g1=>?_⟩;have hp1:=s1 _ _ hp;refine⟨.inl (eG.of g1),rfl,rfl,_,rfl,?_⟩;refine eK (by decide) ?_;refine⟨eA.of hp1,dS (j:=0) rfl,rfl,_,rfl,?_⟩;refine eK (by decide) ?_;refine⟨eA.of hp1,dS (j:=0) rfl,rfl,_,rfl,?_⟩;refine eK (by decide) (fK ?_);refine⟨eA.of hp1,dS (j:=0) rfl,rfl,_,rfl,?_⟩;refine eK (by decide) (fK ?_);exact iX (e:=(.sum a b,mn,o)) (O.mono (dY s1) (gY s1)) hp1 (s1 _ _ hkl) nkl (nks.same (iD s1)) (s1 _ _ hpl) few rfl λu H2 H3 s2 e3 n3=>hD u H2 H3 _ _ (s1.trans s2) e3 n3
 | less a b=>refine⟨eA.of hp,dS (j:=0) rfl,fG,eZ λl H1 hl s1 g1=>?_⟩;have hp1:=s1 _ _ hp;refine⟨.inl (eG.of g1),rfl,rfl,_,rfl,?_⟩;refine eK (by decide) ?_;refine⟨eA.of hp1,dS (j:=0) rfl,rfl,_,rfl,?_⟩;refine eK (by decide) ?_;refine⟨eA.of hp1,dS (j:=0) rfl,rfl,_,rfl,?_⟩;refine eK (by decide) (fK ?_);refine⟨eA.of hp1,dS (j:=0) rfl,rfl,_,rfl,?_⟩;refine eK (by decide) (fK ?_);exact iX (e:=(.less a b,mn,o)) (O.mono (dY s1) (gY s1)) hp1 (s1 _ _ hkl) nkl (nks.same (iD s1)) (s1 _ _ hpl) few rfl λu H2 H3 s2 e3 n3=>hD u H2 H3 _ _ (s1.trans s2) e3 n3
 | cho a b d=>refine⟨eA.of hp,dS (j:=0) rfl,fG,eZ λl H1 hl s1 g1=>?_⟩;have hp1:=s1 _ _ hp;refine⟨.inl (eG.of g1),rfl,rfl,_,rfl,?_⟩;refine eK (by decide) ?_;refine⟨eA.of hp1,dS (j:=0) rfl,rfl,_,rfl,?_⟩;refine eK (by decide) ?_;refine⟨eA.of hp1,dS (j:=0) rfl,rfl,_,rfl,?_⟩;refine eK (by decide) (fK ?_);refine⟨eA.of hp1,dS (j:=0) rfl,rfl,_,rfl,?_⟩;refine eK (by decide) (fK ?_);exact iX (e:=(.cho a b d,mn,o)) (O.mono (dY s1) (gY s1)) hp1 (s1 _ _ hkl) nkl (nks.same (iD s1)) (s1 _ _ hpl) few rfl λu H2 H3 s2 e3 n3=>hD u H2 H3 _ _ (s1.trans s2) e3 n3
 | lt w a b=>refine⟨eA.of hp,dS (j:=0) rfl,fG,eZ λl H1 hl s1 g1=>?_⟩;have hp1:=s1 _ _ hp;refine⟨.inl (eG.of g1),rfl,rfl,_,rfl,?_⟩;refine eK (by decide) ?_;refine⟨eA.of hp1,dS (j:=0) rfl,rfl,_,rfl,?_⟩;refine fW (by decide) ?_;refine ?_;refine⟨eA.of hp1,dS (j:=0) rfl,rfl,_,rfl,?_⟩;refine eK (by decide) (fK ?_);refine⟨eA.of hp1,dS (j:=0) rfl,rfl,_,rfl,?_⟩;refine eK (by decide) (fK ?_);exact iX (e:=(.lt w a b,mn,o)) (O.mono (dY s1) (gY s1)) hp1 (s1 _ _ hkl) nkl (nks.same (iD s1)) (s1 _ _ hpl) few rfl λu H2 H3 s2 e3 n3=>hD u H2 H3 _ _ (s1.trans s2) e3 n3
 | st0 w=>refine⟨eA.of hp,dS (j:=0) rfl,fG,eZ λl H1 hl s1 g1=>?_⟩;have hp1:=s1 _ _ hp;refine⟨.inl (eG.of g1),rfl,rfl,_,rfl,?_⟩;refine fW (by decide) ?_;refine⟨eA.of hp1,dS (j:=1) rfl,?_⟩;refine⟨eA.of hp1,dS (j:=0) rfl,rfl,_,rfl,?_⟩;refine eK (by decide) ?_;refine⟨eA.of hp1,dS (j:=0) rfl,rfl,_,rfl,?_⟩;refine eK (by decide) (fK ?_);refine⟨eA.of hp1,dS (j:=0) rfl,rfl,_,rfl,?_⟩;refine eK (by decide) (fK ?_);exact iX (e:=(.st0 w,mn,o)) (O.mono (dY s1) (gY s1)) hp1 (s1 _ _ hkl) nkl (nks.same (iD s1)) (s1 _ _ hpl) few rfl λu H2 H3 s2 e3 n3=>hD u H2 H3 _ _ (s1.trans s2) e3 n3
 | st1 w a=>refine⟨eA.of hp,dS (j:=0) rfl,fG,eZ λl H1 hl s1 g1=>?_⟩;have hp1:=s1 _ _ hp;refine⟨.inl (eG.of g1),rfl,rfl,_,rfl,?_⟩;refine fW (by decide) ?_;refine⟨eA.of hp1,dS (j:=1) rfl,?_⟩;refine⟨eA.of hp1,dS (j:=0) rfl,rfl,_,rfl,?_⟩;refine eK (by decide) ?_;refine⟨eA.of hp1,dS (j:=0) rfl,rfl,_,rfl,?_⟩;refine eK (by decide) (fK ?_);refine⟨eA.of hp1,dS (j:=0) rfl,rfl,_,rfl,?_⟩;refine eK (by decide) (fK ?_);exact iX (e:=(.st1 w a,mn,o)) (O.mono (dY s1) (gY s1)) hp1 (s1 _ _ hkl) nkl (nks.same (iD s1)) (s1 _ _ hpl) few rfl λu H2 H3 s2 e3 n3=>hD u H2 H3 _ _ (s1.trans s2) e3 n3
 | st2 w a b=>refine⟨eA.of hp,dS (j:=0) rfl,fG,eZ λl H1 hl s1 g1=>?_⟩;have hp1:=s1 _ _ hp;refine⟨.inl (eG.of g1),rfl,rfl,_,rfl,?_⟩;refine fW (by decide) ?_;refine⟨eA.of hp1,dS (j:=1) rfl,?_⟩;refine⟨eA.of hp1,dS (j:=0) rfl,rfl,_,rfl,?_⟩;refine eK (by decide) ?_;refine⟨eA.of hp1,dS (j:=0) rfl,rfl,_,rfl,?_⟩;refine eK (by decide) (fK ?_);refine⟨eA.of hp1,dS (j:=0) rfl,rfl,_,rfl,?_⟩;refine eK (by decide) (fK ?_);exact iX (e:=(.st2 w a b,mn,o)) (O.mono (dY s1) (gY s1)) hp1 (s1 _ _ hkl) nkl (nks.same (iD s1)) (s1 _ _ hpl) few rfl λu H2 H3 s2 e3 n3=>hD u H2 H3 _ _ (s1.trans s2) e3 n3
end S3
namespace SW
open PySem L2
theorem EL.get:∀{es:List En}{us:List V}{i:Nat}{e:En},EL H es us→es[i]?=some e→∃u,us[i]?=some u∧Cs H e u
 | _,_,0,_,.cons a r,h=>by cases h;exact⟨_,rfl,a⟩
 | _,_,i+1,_,.cons a r,h=>EL.get (i:=i) r h
theorem rK{us:List V}{n:Nat}(h:n≤us.length):ie us (some ((us.length:Int)-(n:Int))) none=us.drop (us.length-n):=by
 unfold ie;have e:HT.kL us.length 0 (some ((us.length:Int)-(n:Int)))=us.length-n:=by rw[show(us.length:Int)-(n:Int)=((us.length-n:Nat):Int) by lia,HT.K5];lia
 rw[e,HT.Jd,bf (by rw[ah];lia)]
theorem yB{us:List V}{n:Nat}(h:n≤us.length):ie us none (some ((us.length:Int)-(n:Int)))=us.take (us.length-n):=by
 unfold ie;have e:HT.kL us.length us.length (some ((us.length:Int)-(n:Int)))=us.length-n:=by rw[show(us.length:Int)-(n:Int)=((us.length-n:Nat):Int) by lia,HT.K5];lia
 rw[e,HT.Jd];simp
theorem rJ(c:Int):∀(n:Nat)(st:List En)(i:Nat),∃st',(iN c st i).drop n=iN c st' (i+n)
 | 0,st,i=>⟨st,rfl⟩
 | n+1,[],i=>⟨[],by simp[iN]⟩
 | n+1,e::st,i=>by obtain⟨st',h⟩:=rJ c n (gy e (c+((i+1:Nat):Int))++st) (i+1);refine⟨st',?_⟩;rw[←oM,bE,h,show i+1+n=i+(n+1) by lia]
theorem qZ(c:Int)(src:Str)(giv:Gi):∀(st:List En)(i:Nat),(iV c src giv (iN c st i) i).length=st.length
 | [],i=>rfl
 | e::st,i=>by rw[iN,gI,aE,aE,qZ c src giv st]
theorem uw(c:Int)(src:Str)(giv:Gi):∀(es:List En)(i:Nat),(iV c src giv es i).length≤es.length
 | [],_=>aC _
 | e::r,i=>by have:=uw c src giv r (i+1);rw[iV,aE,aE,ah];lia
theorem wO(h:(pre c t [] Ow.none 0).drop j=e::r):e.1.kids.length≤(iV c src giv r (j+1)).length:=by
 obtain⟨st',hs⟩:=rJ c j [(t,[],Ow.none)] 0;have e0:iN c [(t,[],Ow.none)] 0=pre c t [] Ow.none 0:=by simp[iN]
 rw[e0,h,br]at hs;cases st' with
 | nil=>cases hs
 | cons e' st=>rw[←oM]at hs;obtain⟨h1,h2⟩:=List.cons.inj hs;subst h1;rw[h2,qZ,aD,rB];lia
end SW
namespace S3
open PySem L2 SW
variable {K:aA}{vs:List V}{H H₀:Hp}{Q:VK}{E:XK}
def OK(H:Hp)(v:V)(src:Str)(gd:Addr)(c:Int)(ol tl:Addr)(ous:List V)(t:T)(giv:Gi)(i m:Nat)(σ:St)(H':Hp):Prop:=m=ous.length-i∧i≤ous.length∧dy H H'∧H' ol=some (.lst ous)∧EL H' (pre c t [] Ow.none 0) ous∧∃pl pus j6 j7 j8 j9 j10 j11 j13 j14 j15,σ=[some v,some (.str src),some (.ref gd),some (.int c),some (.ref ol),some (.ref tl),j6,j7,j8,j9,j10,j11,some (.ref pl),j13,j14,j15]∧H' pl=some (.lst pus)∧gt H' (iV c src giv ((pre c t [] Ow.none 0).drop (ous.length-i)) (ous.length-i)).reverse pus
theorem NP(h:ma vs H Q E):Ll K (gf Q) (start ["_law_piece","_law_source","_law_given","_law_count","_law_order","_law_todo","_law_part","_law_path","_law_own","_law_inner","_law_k","_law_near","_law_pile","_law_many","_law_kids","_law_extra"] vs) H:=by
 obtain⟨t,v,src,gd,gkvs,giv,c,rfl,hd0,hs,hgd,hgiv,k⟩:=h;refine⟨fG,eZ λol H1 hol s1 g1=>?_⟩;refine⟨fG,eZ λpp H2 hpp s2 g2=>?_⟩;refine λod hod=>?_;have s3:=dR (o:=.dK []) hod;have g3:(upd H2 od (.dK [])) od=some (.dK []):=dO;generalize upd H2 od (.dK [])=H3 at s3 g3⊢;refine⟨fG,eZ λq H4 hq s4 g4=>?_⟩;refine⟨fG,λtl htl=>?_⟩;have s5:=dR (o:=.lst [.ref q]) htl;have g5:(upd H4 tl (.lst [.ref q])) tl=some (.lst [.ref q]):=dO;have ne5:ol≠tl:=λz=>by subst z;rw[(s2.trans (s3.trans s4)) _ _ g1]at htl;cases htl
 generalize upd H4 tl (.lst [.ref q])=H5 at s5 g5⊢;have u4:=s4.trans s5;have u3:=s3.trans u4;have u2:=s2.trans u3;have u1:=s1.trans u2;have e0:Cs H5 (t,[],Ow.none) (.ref q):=⟨q,pp,od,v,[],rfl,s5 _ _ g4,hd0.mono (dY u1),u3 _ _ g2,u4 _ _ g3,λw=>rfl,by simp;lia,by simp;lia⟩;have B:qg H H5 ol tl [] [(t,[],Ow.none)] [] [.ref q]:=⟨u1,hol,(s1.trans (s2.trans (s3.trans s4))).free htl,ne5,u2 _ _ g1,g5,.nil,.snoc (us:=[]) .nil e0⟩;refine vb (es:=pre c t [] Ow.none 0) B (by simp[iN]) (by simp[tW];lia) λous H6 j6 j7 j8 j9 j10 j11 s6 h6 el6=>?_;have hplen:=iR c t [] Ow.none 0;have holen:=el6.length;refine⟨fG,eZ λpl H7 hpl s7 g7=>?_⟩;have b7:=s6.trans s7;refine⟨.inl (eG.of (s7 _ _ h6)),(ous.length:Int)-1,-1,rfl,⟨by lia,by lia,by lia,by lia⟩,?_⟩;have en:((ous.length:Int)-1 - -1).toNat=ous.length:=by lia
 rw[en];refine⟨OK H v src gd c ol tl ous t giv,
  ⟨_,rfl,aS _,b7,s7 _ _ h6,el6.mono (dY s7) (gY s7),pl,[],_,_,_,_,_,_,_,_,_,rfl,g7,by rw[bg,bx (by lia)];exact .nil⟩,?_⟩
 clear B e0 g5 s5 g4 s4 g3 s3 g2 s2 g1 s1 u4 u3 u2 u1 s7 g7 hpl hq hod hpp h6 el6 s6 b7 j6 j7 j8 j9 j10 j11 pl;rintro i m σ H8 ⟨rfl,hi,s8,h8,el8,pl,pus,j6,j7,j8,j9,j10,j11,j13,j14,j15,rfl,hpl,np⟩;by_cases hn:i=ous.length
 ·refine .inl ⟨by show ous.length≤i;lia,?_⟩;rw[hn,bH,ag,zZ]at np;cases np with
  | @cons n9 u9 ns9 us9 a r=>
  cases r;refine⟨eG.of hpl,dS (j:=0) rfl,.inl (eG.of h8),fG,λr hr=>?_⟩;have sr:=dR (o:=.tup [u9,.int (c+(ous.length:Int))]) hr;refine k r _ _ (s8.trans sr) (a.same sr) ?_;rw[dO,holen,hplen]
 ·have hlt:i<ous.length:=by lia
  refine .inr ⟨show i<ous.length from hlt,_,λσ2 H2 h=>⟨ous.length-(i+1),by lia,h⟩,?_⟩;rintro v3 H9 ⟨rfl,rfl⟩;obtain⟨j,hj⟩:∃j:Nat,j=ous.length-1-i:=⟨_,rfl⟩;rw[show(ous.length:Int)-1-(i:Int)=(j:Int) by lia];obtain⟨e,he⟩:∃e,(pre c t [] Ow.none 0)[j]?=some e:=⟨(pre c t [] Ow.none 0)[j]'(by lia),by rw[aT]⟩;obtain⟨u,hu,q,pp,od,pv,kvs,rfl,hq,den,hpp,hod,ow,f1,f2⟩:=el8.get he;obtain⟨p,ks',rfl,hp,dks⟩:=den.open;have hdrop:(pre c t [] Ow.none 0).drop (ous.length-(i+1))=e::(pre c t [] Ow.none 0).drop (ous.length-i):=by rw[show ous.length-(i+1)=j by lia,show ous.length-i=j+1 by lia];obtain⟨hjk,ee⟩:=aK.mp he;rw[bM hjk,ee]
  have hidx:ous.length-i=(ous.length-(i+1))+1:=by lia
  have hji:ous.length-(i+1)=j:=by lia
  rw[hidx,hji]at np hdrop;have hkn:=wO (src:=src) (giv:=giv) hdrop;generalize hS:iV c src giv ((pre c t [] Ow.none 0).drop (j+1)) (j+1)=S at np hkn;have hpl9:=np.length;rw[bL]at hpl9;have hSl:S.length≤5000:=by have:=uw c src giv ((pre c t [] Ow.none 0).drop (j+1)) (j+1);rw[hS,ah]at this;lia
  refine⟨eG.of h8,dS hu,eA.of hq,rfl,rfl,?_⟩;refine⟨e.1,.ref p,rfl,den,λil us Ha sa na ha da=>⟨.inl (eG.of ha),?_⟩⟩;have hml:=da.length;have hmn:us.length≤pus.length:=by lia
  have hpa:=sa _ _ hpl;refine⟨.inl (eG.of hpa),eG.of hpa,λsl hsl=>?_⟩;rw[rK hmn];have sb:=dR (o:=.lst (pus.drop (pus.length-us.length))) hsl;have gb:(upd Ha sl (.lst (pus.drop (pus.length-us.length)))) sl=some (.lst (pus.drop (pus.length-us.length))):=dO;generalize upd Ha sl (.lst (pus.drop (pus.length-us.length)))=Hb at sb gb⊢;refine⟨eG.of gb,eZ λkl Hc hkl sc gc=>?_⟩;have sac:=sa.trans (sb.trans sc);have hpc:=sac _ _ hpl;refine⟨.inl (eG.of hpc),eG.of hpc,λpn hpn=>?_⟩;rw[yB hmn];have sd:=dR (o:=.lst (pus.take (pus.length-us.length))) hpn;have gd':(upd Hc pn (.lst (pus.take (pus.length-us.length)))) pn=some (.lst (pus.take (pus.length-us.length))):=dO;generalize upd Hc pn (.lst (pus.take (pus.length-us.length)))=Hd at sd gd'⊢;have sad:=sac.trans sd;have r1:dy Hc (sH pn Hd):=xZ sd hpn;have nS:gt H9 S pus.reverse:=by have:=np.reverse;rw[cg]at this;exact this
  have nk:gt (sH pn Hd) (S.take us.length) (pus.drop (pus.length-us.length)).reverse:=by have h1:=(nS.take us.length).same (sac.trans r1);rw[ci]at h1;exact h1
  have nkl:kl≠pn:=dZ gc hpn;refine yn (t:=e.1) (mn:=e.2.1) (o:=e.2.2) (i:=j) (ks:=S.take us.length) (giv:=giv) (gkvs:=gkvs) ⟨den.mono (dY sad),sad _ _ hpp,sad _ _ hod,ow,f1,f2⟩ (sad _ _ hp) (sd _ _ gc) nkl nk gd' (by rw[aj];lia) ((s8.trans sad) _ _ hgd) (hgiv.same (s8.trans (sac.trans r1))) λw Hx Hy jx jy sx ey nx=>?_;have r2:dy Hc (sH pn Hx):=xZ (sd.trans sx) hpn;have r3:dy Hc Hy:=by rw[ey];exact r2.trans BB
  have s9y:dy H9 Hy:=sac.trans r3;refine⟨rfl,by lia,s8.trans s9y,s9y _ _ h8,el8.mono (dY s9y) (gY s9y),pn,pus.take (pus.length-us.length)++[w],_,_,_,_,_,_,_,_,_,rfl,by rw[ey,dO],?_⟩;rw[hji,hdrop];show gt Hy (iV c src giv (e::_) j).reverse _;rw[iV,hS,←hml,ao];refine gt.append ?_ (.cons (nx.same (by rw[ey];exact BB)) .nil);have h2:=(np.take (pus.length-us.length)).same s9y;have e2:S.reverse.take (pus.length-us.length)=(S.drop us.length).reverse:=by rw[ci,hpl9,show S.length-(S.length-us.length)=us.length by lia]
  rw[e2]at h2;exact h2
end S3
namespace S8
open PySem L2 SW S9
abbrev Fo:=Str→Option Int
abbrev Ba:=Int→Option Str
def lB(f:Fo)(x:Str)(i:Int):Fo:=λy=>if y=x then some i else f y
def mC(b:Ba)(i:Int)(x:Str):Ba:=λj=>if j=i then some x else b j
theorem km(h:y≠x):lB f x i y=f y:=if_neg h
theorem x0:lB f x i x=some i:=if_pos rfl
theorem pO(h:j≠i):mC b i x j=b j:=if_neg h
theorem yF:mC b i x i=some x:=if_pos rfl
theorem rG(h:x≠y):lB (lB f x i) y j=lB (lB f y j) x i:=by
 funext z;unfold lB;by_cases h1:z=y
 ·subst h1;rw[if_pos rfl,if_neg h.symm,if_pos rfl]
 ·rw[if_neg h1,if_neg h1]
theorem rM(h:i≠j):mC (mC b i x) j y=mC (mC b j y) i x:=by
 funext z;unfold mC;by_cases h1:z=j
 ·subst h1;rw[if_pos rfl,if_neg h.symm,if_pos rfl]
 ·rw[if_neg h1,if_neg h1]
abbrev ip(p:List Nat):List Int:=p.map λi:Nat=>(i:Int)
inductive Lo(c:Int):NT→Prop where
 | mk{k:Str}{x:V}{src:Str}{path:List Int}{ks:List NT}:(k="name"∨k="let"→∀i,x=.int i→i≤c)→(∀n∈ks,Lo c n)→Lo c (.mk k x src path ks)
theorem Lo.mono(h:c≤d)(l:Lo c n):Lo d n:=by
 induction l with
 | mk a _ ih=>exact .mk (λz i e=>Int.le_trans (a z i e) h) ih
theorem Lo.inv(h:Lo c (.mk k x src path ks)):(k="name"∨k="let"→∀i,x=.int i→i≤c)∧∀n∈ks,Lo c n:=by cases h with|mk a b=>exact⟨a,b⟩
inductive Gs(ws:List Str):Fo→Ba→T→NT→Prop where
 | num{f:Fo}{b:Ba}{m:Int}{src:Str}{path:List Int}:Gs ws f b (.num m) (.mk "number" (.int m) src path [])
 | bound{f:Fo}{b:Ba}{w:Str}{i:Int}{src:Str}{path:List Int}:w∈ws→f w=some i→b i=some w→Gs ws f b (.name w) (.mk "name" (.int i) src path [])
 | free{f:Fo}{b:Ba}{w:Str}{src:Str}{path:List Int}:w∈ws→f w=none→Gs ws f b (.name w) (.mk "name" (.str w) src path [])
 | sum{f:Fo}{b:Ba}{t1 t2:T}{n1 n2:NT}{src:Str}{path:List Int}:Gs ws f b t1 n1→Gs ws f b t2 n2→Gs ws f b (.sum t1 t2) (.mk "sum" .non src path [n1,n2])
 | less{f:Fo}{b:Ba}{t1 t2:T}{n1 n2:NT}{src:Str}{path:List Int}:Gs ws f b t1 n1→Gs ws f b t2 n2→Gs ws f b (.less t1 t2) (.mk "less" .non src path [n1,n2])
 | cho{f:Fo}{b:Ba}{t1 t2 t3:T}{n1 n2 n3:NT}{src:Str}{path:List Int}:Gs ws f b t1 n1→Gs ws f b t2 n2→Gs ws f b t3 n3→Gs ws f b (.cho t1 t2 t3) (.mk "choose" .non src path [n1,n2,n3])
 | lt{f:Fo}{b:Ba}{x:Str}{i:Int}{t1 t2:T}{n1 n2:NT}{src:Str}{path:List Int}:x∈ws→Gs ws f b t1 n1→Gs ws (lB f x i) (mC b i x) t2 n2→Gs ws f b (.lt x t1 t2) (.mk "let" (.int i) src path [n1,n2])
theorem IH{ws:List Str}{x w:Str}(hx:x∉ws)(a:w∈ws):w≠x:=λz=>hx (z▸a)
theorem Gs.mono(h:∀x∈ws,x∈ws')(g:Gs ws f b t n):Gs ws' f b t n:=by
 induction g with
 | num=>exact .num
 | bound a e1 e2=>exact .bound (h _ a) e1 e2
 | free a e=>exact .free (h _ a) e
 | sum _ _ i1 i2=>exact .sum i1 i2
 | less _ _ i1 i2=>exact .less i1 i2
 | cho _ _ _ i1 i2 i3=>exact .cho i1 i2 i3
 | lt a _ _ i1 i2=>exact .lt (h _ a) i1 i2
theorem Gs.more{ws:List Str}{f:Fo}{b:Ba}{t:T}{n:NT}(g:Gs ws f b t n){x:Str}{i:Int}(hx:x∉ws){c:Int}(l:Lo c n)(hi:c<i):Gs ws (lB f x i) (mC b i x) t n:=by
 induction g with
 | num=>exact .num
 | @bound f b w j src path a e1 e2=>have hj:j≤c:=l.inv.1 (.inl rfl) j rfl;exact .bound a (by rw[km (IH hx a)];exact e1) (by rw[pO (by lia)];exact e2)
 | free a e=>exact .free a (by rw[km (IH hx a)];exact e)
 | sum _ _ i1 i2=>exact .sum (i1 (l.inv.2 _ (by simp))) (i2 (l.inv.2 _ (by simp)))
 | less _ _ i1 i2=>exact .less (i1 (l.inv.2 _ (by simp))) (i2 (l.inv.2 _ (by simp)))
 | cho _ _ _ i1 i2 i3=>exact .cho (i1 (l.inv.2 _ (by simp))) (i2 (l.inv.2 _ (by simp))) (i3 (l.inv.2 _ (by simp)))
 | @lt f b y j t1 t2 n1 n2 src path a _ _ i1 i2=>have hj:j≤c:=l.inv.1 (.inr rfl) j rfl;have hxy:x≠y:=(IH hx a).symm;refine .lt a (i1 (l.inv.2 _ (by simp))) ?_;rw[rG hxy,rM (by lia)];exact i2 (l.inv.2 _ (by simp))
inductive JD:NT→Prop where
 | mk{k:Str}{x:V}{src:Str}{path:List Int}{ks:List NT}:k≠"stamp"→(∀n∈ks,JD n)→JD (.mk k x src path ks)
theorem Gs.ns(g:Gs ws f b t n):JD n:=by
 induction g with
 | num=>exact .mk (by decide) (by simp)
 | bound=>exact .mk (by decide) (by simp)
 | free=>exact .mk (by decide) (by simp)
 | sum _ _ i1 i2=>exact .mk (by decide) (by simp[i1,i2])
 | less _ _ i1 i2=>exact .mk (by decide) (by simp[i1,i2])
 | cho _ _ _ i1 i2 i3=>exact .mk (by decide) (by simp[i1,i2,i3])
 | lt _ _ _ i1 i2=>exact .mk (by decide) (by simp[i1,i2])
mutual
def nW:NT→List (Str×List Int)
 | .mk _ _ src path ks=>(src,path)::yf ks
def yf:List NT→List (Str×List Int)
 | []=>[]
 | n::ns=>nW n++yf ns
end
abbrev cv(s:kx):Str×List Int:=(s.1,ip s.2)
mutual
def gn:NT→Nat
 | .mk _ _ _ _ ks=>1+fj ks
def fj:List NT→Nat
 | []=>0
 | n::ns=>gn n+fj ns
end
inductive Rp(W:List (T×List kx)):List Str→Fo→Ba→eE→NT→Prop where
 | num{ws:List Str}{f:Fo}{b:Ba}{s:eE}{m:Int}:s.t=.num m→Rp W ws f b s (.mk "number" (.int m) s.src (ip s.path) [])
 | free{ws:List Str}{f:Fo}{b:Ba}{s:eE}{w:Str}:s.t=.name w→s.e.look w=none→w∈ws→f w=none→Rp W ws f b s (.mk "name" (.str w) s.src (ip s.path) [])
 | called{ws:List Str}{f:Fo}{b:Ba}{s:eE}{w x:Str}{i:Int}:s.t=.name w→s.e.look w=some (.called x)→x∈ws→f x=some i→b i=some x→Rp W ws f b s (.mk "name" (.int i) s.src (ip s.path) [])
 | ready{ws:List Str}{f:Fo}{b:Ba}{s:eE}{w:Str}{k z:Nat}{t:T}{ss:List kx}{n:NT}:s.t=.name w→s.e.look w=some (.ready k z)→W[k]?=some (t,ss)→Gs ws f b t n→nW n=ss.map cv→gn n=z→Rp W ws f b s n
 | handed{ws:List Str}{f:Fo}{b:Ba}{s:eE}{w:Str}{t:T}{src:Str}{path:List Nat}{e:S9.En}{n:NT}:s.t=.name w→s.e.look w=some (.handed t src path e)→Rp W ws f b ⟨t,src,path,e⟩ n→Rp W ws f b s n
 | sum{ws:List Str}{f:Fo}{b:Ba}{s:eE}{t1 t2:T}{n1 n2:NT}:s.t=.sum t1 t2→Rp W ws f b (s.kid 0 t1) n1→Rp W ws f b (s.kid 1 t2) n2→Rp W ws f b s (.mk "sum" .non s.src (ip s.path) [n1,n2])
 | less{ws:List Str}{f:Fo}{b:Ba}{s:eE}{t1 t2:T}{n1 n2:NT}:s.t=.less t1 t2→Rp W ws f b (s.kid 0 t1) n1→Rp W ws f b (s.kid 1 t2) n2→Rp W ws f b s (.mk "less" .non s.src (ip s.path) [n1,n2])
 | cho{ws:List Str}{f:Fo}{b:Ba}{s:eE}{t1 t2 t3:T}{n1 n2 n3:NT}:s.t=.cho t1 t2 t3→Rp W ws f b (s.kid 0 t1) n1→Rp W ws f b (s.kid 1 t2) n2→Rp W ws f b (s.kid 2 t3) n3→Rp W ws f b s (.mk "choose" .non s.src (ip s.path) [n1,n2,n3])
 | lt{ws:List Str}{f:Fo}{b:Ba}{s:eE}{w:Str}{t1 t2:T}{n1 n2:NT}{i:Int}:s.t=.lt w t1 t2→Rp W ws f b (s.kid 0 t1) n1→(∀x,x∉ws→Rp W (x::ws) (lB f x i) (mC b i x) ⟨t2,s.src,s.path++[1],s.e.put w (.called x)⟩ n2)→Rp W ws f b s (.mk "let" (.int i) s.src (ip s.path) [n1,n2])
 | st0{ws:List Str}{f:Fo}{b:Ba}{s:eE}{w:Str}:s.t=.st0 w→Rp W ws f b s (.mk "stamp" (.str w) s.src (ip s.path) [])
 | st1{ws:List Str}{f:Fo}{b:Ba}{s:eE}{w:Str}{t1:T}{n1:NT}:s.t=.st1 w t1→Rp W ws f b (s.kid 0 t1) n1→Rp W ws f b s (.mk "stamp" (.str w) s.src (ip s.path) [n1])
 | st2{ws:List Str}{f:Fo}{b:Ba}{s:eE}{w:Str}{t1 t2:T}{n1 n2:NT}:s.t=.st2 w t1 t2→Rp W ws f b (s.kid 0 t1) n1→Rp W ws f b (s.kid 1 t2) n2→Rp W ws f b s (.mk "stamp" (.str w) s.src (ip s.path) [n1,n2])
theorem Rp.mono(hW:∀(k:Nat)(p:T×List kx),W[k]?=some p→W'[k]?=some p)(h:Rp W ws f b s n):∀{ws':List Str},(∀x∈ws,x∈ws')→Rp W' ws' f b s n:=by
 induction h with
 | num e=>exact λ_=>.num e
 | free e l m g=>exact λhs=>.free e l (hs _ m) g
 | called e l m g1 g2=>exact λhs=>.called e l (hs _ m) g1 g2
 | ready e l hk g hs hz=>exact λz=>.ready e l (hW _ _ hk) (g.mono z) hs hz
 | handed e l _ ih=>exact λz=>.handed e l (ih z)
 | sum e _ _ i1 i2=>exact λz=>.sum e (i1 z) (i2 z)
 | less e _ _ i1 i2=>exact λz=>.less e (i1 z) (i2 z)
 | cho e _ _ _ i1 i2 i3=>exact λz=>.cho e (i1 z) (i2 z) (i3 z)
 | lt e _ _ i1 i2=>exact λz=>.lt e (i1 z) λx hx=>i2 x (λq=>hx (z x q)) (λy hy=>by
   rcases aB.mp hy with rfl|hy
   ·exact .head _
   ·exact .tail _ (z y hy))
 | st0 e=>exact λ_=>.st0 e
 | st1 e _ i1=>exact λz=>.st1 e (i1 z)
 | st2 e _ _ i1 i2=>exact λz=>.st2 e (i1 z) (i2 z)
theorem Rp.more{W:List (T×List kx)}{ws:List Str}{f:Fo}{b:Ba}{s:eE}{n:NT}(h:Rp W ws f b s n){x:Str}{i c:Int}(hi:c<i):x∉ws→Lo c n→Rp W (x::ws) (lB f x i) (mC b i x) s n:=by
 have sub:∀{ws:List Str}{x:Str},∀y∈ws,y∈x::ws:=λy hy=>.tail _ hy;induction h with
 | num e=>exact λ_ _=>.num e
 | free e l m g=>exact λhx _=>.free e l (.tail _ m) (by rw[km (IH hx m)];exact g)
 | @called ws f b s w y j e l m g1 g2=>intro hx lo;have hj:j≤c:=lo.inv.1 (.inl rfl) j rfl;exact .called e l (.tail _ m) (by rw[km (IH hx m)];exact g1) (by rw[pO (by lia)];exact g2)
 | ready e l hk g hs hz=>exact λhx lo=>.ready e l hk ((g.more hx lo hi).mono sub) hs hz
 | handed e l _ ih=>exact λhx lo=>.handed e l (ih hx lo)
 | sum e _ _ i1 i2=>exact λhx lo=>.sum e (i1 hx (lo.inv.2 _ (by simp))) (i2 hx (lo.inv.2 _ (by simp)))
 | less e _ _ i1 i2=>exact λhx lo=>.less e (i1 hx (lo.inv.2 _ (by simp))) (i2 hx (lo.inv.2 _ (by simp)))
 | cho e _ _ _ i1 i2 i3=>exact λhx lo=>.cho e (i1 hx (lo.inv.2 _ (by simp))) (i2 hx (lo.inv.2 _ (by simp))) (i3 hx (lo.inv.2 _ (by simp)))
 | @lt ws f b s w t1 t2 n1 n2 j e _ _ i1 i2=>
  intro hx lo;have hj:j≤c:=lo.inv.1 (.inr rfl) j rfl;refine .lt e (i1 hx (lo.inv.2 _ (by simp))) λy hy=>?_;have hyx:y≠x:=λz=>hy (by rw[z];exact .head _);have hyw:y∉ws:=λz=>hy (.tail _ z);have:=i2 y hyw (λz=>by rcases aB.mp z with z|z;exact hyx z.symm;exact hx z) (lo.inv.2 _ (by simp));rw[rG hyx,rM (by lia)]at this;refine this.mono (λ_ _ z=>z) (λz hz=>?_);simp only[aB]at hz⊢;rcases hz with rfl|rfl|hz
  ·exact .inr (.inl rfl)
  ·exact .inl rfl
  ·exact .inr (.inr hz)
 | st0 e=>exact λ_ _=>.st0 e
 | st1 e _ i1=>exact λhx lo=>.st1 e (i1 hx (lo.inv.2 _ (by simp)))
 | st2 e _ _ i1 i2=>exact λhx lo=>.st2 e (i1 hx (lo.inv.2 _ (by simp))) (i2 hx (lo.inv.2 _ (by simp)))
theorem JC(p:List Nat):ip (p++[0])=ip p++[0]:=by simp[ip]
theorem KZ(p:List Nat):ip (p++[1])=ip p++[1]:=by simp[ip]
theorem OD(p:List Nat):ip (p++[2])=ip p++[2]:=by simp[ip]
def Cq(W:List (T×List kx))(ws:List Str)(f:Fo)(b:Ba):Mg→NT→Prop
 | .called _,_=>False
 | .ready k z,g=>∃t ss,W[k]?=some (t,ss)∧Gs ws f b t g∧nW g=ss.map cv∧gn g=z
 | .handed t src path e,g=>Rp W ws f b ⟨t,src,path,e⟩ g
theorem Cq.more(hi:c<i)(hx:x∉ws):∀{m:Mg}{g:NT},Cq W ws f b m g→Lo c g→Cq W (x::ws) (lB f x i) (mC b i x) m g
 | .called _,_,h,_=>h.elim
 | .ready k _,g,h,l=>by obtain⟨t,ss,h1,h2,h3⟩:=h;exact⟨t,ss,h1,(h2.more hx l hi).mono λy hy=>.tail _ hy,h3⟩
 | .handed t src path e,g,h,l=>Rp.more (s:=⟨t,src,path,e⟩) h hi hx l
theorem Cq.mono(hW:∀(k:Nat)(p:T×List kx),W[k]?=some p→W'[k]?=some p)(hs:∀x∈ws,x∈ws'):∀{m:Mg}{g:NT},Cq W ws f b m g→Cq W' ws' f b m g
 | .called _,_,h=>h
 | .ready k _,g,h=>by obtain⟨t,ss,h1,h2,h3⟩:=h;exact⟨t,ss,hW _ _ h1,h2.mono hs,h3⟩
 | .handed t src path e,g,h=>Rp.mono hW (s:=⟨t,src,path,e⟩) h hs
theorem Dx(e:s.t=.name w)(l:s.e.look w=some m)(h:Cq W ws f b m g):Rp W ws f b s g:=by
 cases m with
 | called _=>exact h.elim
 | ready k z=>obtain⟨t,ss,h1,h2,h3⟩:=h;exact .ready e l h1 h2 h3.1 h3.2
 | handed t src path en=>exact .handed e l h
structure Fb(W:List (T×List kx))(OUT:Str→Prop)(giv:Gi)(c:Int)(ws:List Str)(f:Fo)(b:Ba)(e:S9.En)(o:Ow)(i:Nat):Prop where
 own:∀w id,o w=some id→∃x,e.look w=some (.called x)∧x∈ws∧f x=some id∧b id=some x∧id≤c+i
 giv_:∀w g,o w=none→giv w=some g→∃m,e.look w=some m∧Cq W ws f b m g∧Lo c g
 out:∀w,o w=none→giv w=none→OUT w→e.look w=none∧f w=none∧w∈ws
theorem Fb.le(h:Fb W OUT giv c ws f b e o i)(hij:i≤j):Fb W OUT giv c ws f b e o j:=
 ⟨λw id hw=>by
  obtain⟨x,h1,h2,h3,h4,h5⟩:=h.own w id hw;exact⟨x,h1,h2,h3,h4,by lia⟩,h.giv_,h.out⟩
theorem Fb.lt(h:Fb W OUT giv c ws f b e o i)(hx:x∉ws):Fb W OUT giv c (x::ws) (lB f x (c+((i+1:Nat):Int))) (mC b (c+((i+1:Nat):Int)) x) (e.put v (.called x)) (Ow.put o v (c+((i+1:Nat):Int))) (i+1):=by
 refine⟨λw id hw=>?_,λw g hw hg=>?_,λw hw hg ho=>?_⟩
 ·unfold Ow.put at hw;by_cases hv:w=v
  ·rw[if_pos hv]at hw;cases hw;subst hv;exact⟨x,by rw[En.look_put,if_pos rfl],.head _,x0,yF,Int.le_refl _⟩
  ·rw[if_neg hv]at hw;obtain⟨y,h1,h2,h3,h4,h5⟩:=h.own w id hw;exact⟨y,by rw[En.look_put,if_neg (λz=>hv z.symm)];exact h1,.tail _ h2,by rw[km (IH hx h2)];exact h3,by rw[pO (by lia)];exact h4,by lia⟩
 ·unfold Ow.put at hw;by_cases hv:w=v
  ·rw[if_pos hv]at hw;cases hw
  ·rw[if_neg hv]at hw;obtain⟨m,h1,h2,h3⟩:=h.giv_ w g hw hg;exact⟨m,by rw[En.look_put,if_neg (λz=>hv z.symm)];exact h1,h2.more (c:=c) (by lia) hx h3,h3⟩
 ·unfold Ow.put at hw;by_cases hv:w=v
  ·rw[if_pos hv]at hw;cases hw
  ·rw[if_neg hv]at hw;obtain⟨h1,h2,h3⟩:=h.out w hw hg ho;exact⟨by rw[En.look_put,if_neg (λz=>hv z.symm)];exact h1,by rw[km (IH hx h3)];exact h2,.tail _ h3⟩
theorem lv:∀(t:T){ws:List Str}{f:Fo}{b:Ba}{e:S9.En}{o:Ow}{i:Nat}{path:List Nat},Fb W OUT giv c ws f b e o i→(∀w,t.out w→o w=none→giv w=none→OUT w)→Rp W ws f b ⟨t,src,path,e⟩ (nt c src giv t (ip path) o i)
 | .num n,ws,f,b,e,o,i,path,C,h=>Rp.num (s:=⟨.num n,src,path,e⟩) rfl
 | .name w,ws,f,b,e,o,i,path,C,h=>by
  simp only[nt,eQ];cases ho:o w with
  | some id=>obtain⟨x,h1,h2,h3,h4,_⟩:=C.own w id ho;exact Rp.called (s:=⟨.name w,src,path,e⟩) rfl h1 h2 h3 h4
  | none=>
   cases hg:giv w with
   | some g=>obtain⟨m,h1,h2,_⟩:=C.giv_ w g ho hg;exact Dx (s:=⟨.name w,src,path,e⟩) rfl h1 h2
   | none=>obtain⟨h1,h2,h3⟩:=C.out w ho hg (h w rfl ho hg);exact Rp.free (s:=⟨.name w,src,path,e⟩) rfl h1 h3 h2
 | .sum p q,ws,f,b,e,o,i,path,C,h=>by simp only[nt,eQ];have h1:=lv (src:=src) p (path:=path++[0]) (C.le (bP i)) (λw z=>h w (.inl z));have h2:=lv (src:=src) q (path:=path++[1]) (C.le (show i≤i+1+p.size by lia)) (λw z=>h w (.inr z));rw[JC]at h1;rw[KZ]at h2;exact Rp.sum (s:=⟨.sum p q,src,path,e⟩) rfl h1 h2
 | .less p q,ws,f,b,e,o,i,path,C,h=>by simp only[nt,eQ];have h1:=lv (src:=src) p (path:=path++[0]) (C.le (bP i)) (λw z=>h w (.inl z));have h2:=lv (src:=src) q (path:=path++[1]) (C.le (show i≤i+1+p.size by lia)) (λw z=>h w (.inr z));rw[JC]at h1;rw[KZ]at h2;exact Rp.less (s:=⟨.less p q,src,path,e⟩) rfl h1 h2
 | .cho p q r,ws,f,b,e,o,i,path,C,h=>by simp only[nt,eQ];have h1:=lv (src:=src) p (path:=path++[0]) (C.le (bP i)) (λw z=>h w (.inl z));have h2:=lv (src:=src) q (path:=path++[1]) (C.le (show i≤i+1+p.size by lia)) (λw z=>h w (.inr (.inl z)));have h3:=lv (src:=src) r (path:=path++[2]) (C.le (show i≤i+1+p.size+q.size by lia)) (λw z=>h w (.inr (.inr z)));rw[JC]at h1;rw[KZ]at h2;rw[OD]at h3;exact Rp.cho (s:=⟨.cho p q r,src,path,e⟩) rfl h1 h2 h3
 | .lt v p q,ws,f,b,e,o,i,path,C,h=>by
  simp only[nt,eQ];have h1:=lv (src:=src) p (path:=path++[0]) (C.le (bP i)) (λw z=>h w (.inl z));rw[JC]at h1;rw[show c+(i:Int)+1=c+((i+1:Nat):Int) by lia];refine Rp.lt (s:=⟨.lt v p q,src,path,e⟩) rfl h1 λx hx=>?_;have h2:=lv (src:=src) q (path:=path++[1]) ((C.lt (v:=v) hx).le (show i+1≤i+1+p.size by lia)) (λw z hw hg=>by
   unfold Ow.put at hw;by_cases hv:w=v
   ·rw[if_pos hv]at hw;cases hw
   ·rw[if_neg hv]at hw;exact h w (.inr ⟨λz=>hv z.symm,z⟩) hw hg)
  rw[KZ]at h2;exact h2
 | .st0 w,ws,f,b,e,o,i,path,C,h=>Rp.st0 (s:=⟨.st0 w,src,path,e⟩) rfl
 | .st1 w p,ws,f,b,e,o,i,path,C,h=>by simp only[nt,eQ];have h1:=lv (src:=src) p (path:=path++[0]) (C.le (bP i)) (λw z=>h w z);rw[JC]at h1;exact Rp.st1 (s:=⟨.st1 w p,src,path,e⟩) rfl h1
 | .st2 w p q,ws,f,b,e,o,i,path,C,h=>by simp only[nt,eQ];have h1:=lv (src:=src) p (path:=path++[0]) (C.le (bP i)) (λw z=>h w (.inl z));have h2:=lv (src:=src) q (path:=path++[1]) (C.le (show i≤i+1+p.size by lia)) (λw z=>h w (.inr z));rw[JC]at h1;rw[KZ]at h2;exact Rp.st2 (s:=⟨.st2 w p q,src,path,e⟩) rfl h1 h2
theorem jz(hg:∀w g,giv w=some g→Lo c g):∀(t:T)(p:List Int)(o:Ow)(i:Nat),(∀w id,o w=some id→id≤c+i)→Lo (c+i+t.size) (nt c src giv t p o i)
 | .num n,p,o,i,h=>.mk (λz=>by rcases z with z|z<;>exact absurd z (by decide)) (by simp)
 | .name w,p,o,i,h=>by
  simp only[nt,eQ];cases ho:o w with
  | some id=>exact .mk (λ_ j e=>by cases e;have:=h w id ho;simp only[T.size];lia) (by simp)
  | none=>
   cases hgw:giv w with
   | some g=>exact(hg w g hgw).mono (by simp only[T.size];lia)
   | none=>exact .mk (λ_ j e=>by cases e) (by simp)
 | .sum a b,p,o,i,h=>by
  have h1:=jz (src:=src) hg a (p++[0]) o (i+1) (λw id z=>by have:=h w id z;lia);have h2:=jz (src:=src) hg b (p++[1]) o (i+1+a.size) (λw id z=>by have:=h w id z;lia);simp only[nt,eQ,T.size];refine .mk (λz=>by rcases z with z|z<;>exact absurd z (by decide)) (λn hn=>?_);simp only[aB,aF,or_false]at hn;rcases hn with rfl|rfl
  ·exact h1.mono (by lia)
  ·exact h2.mono (by lia)
 | .less a b,p,o,i,h=>by
  have h1:=jz (src:=src) hg a (p++[0]) o (i+1) (λw id z=>by have:=h w id z;lia);have h2:=jz (src:=src) hg b (p++[1]) o (i+1+a.size) (λw id z=>by have:=h w id z;lia);simp only[nt,eQ,T.size];refine .mk (λz=>by rcases z with z|z<;>exact absurd z (by decide)) (λn hn=>?_);simp only[aB,aF,or_false]at hn;rcases hn with rfl|rfl
  ·exact h1.mono (by lia)
  ·exact h2.mono (by lia)
 | .cho a b d,p,o,i,h=>by
  have h1:=jz (src:=src) hg a (p++[0]) o (i+1) (λw id z=>by have:=h w id z;lia);have h2:=jz (src:=src) hg b (p++[1]) o (i+1+a.size) (λw id z=>by have:=h w id z;lia);have h3:=jz (src:=src) hg d (p++[2]) o (i+1+a.size+b.size) (λw id z=>by have:=h w id z;lia);simp only[nt,eQ,T.size];refine .mk (λz=>by rcases z with z|z<;>exact absurd z (by decide)) (λn hn=>?_);simp only[aB,aF,or_false]at hn;rcases hn with rfl|rfl|rfl
  ·exact h1.mono (by lia)
  ·exact h2.mono (by lia)
  ·exact h3.mono (by lia)
 | .lt v a b,p,o,i,h=>by
  have h1:=jz (src:=src) hg a (p++[0]) o (i+1) (λw id z=>by have:=h w id z;lia);have h2:=jz (src:=src) hg b (p++[1]) (Ow.put o v (c+((i+1:Nat):Int))) (i+1+a.size) (λw id z=>by
   unfold Ow.put at z;split at z
   ·cases z;lia
   ·have:=h w id z;lia)
  simp only[nt,eQ,T.size];refine .mk (λ_ j e=>by cases e;lia) (λn hn=>?_);simp only[aB,aF,or_false]at hn;rcases hn with rfl|rfl
  ·exact h1.mono (by lia)
  ·exact h2.mono (by lia)
 | .st0 w,p,o,i,h=>.mk (λz=>by rcases z with z|z<;>exact absurd z (by decide)) (by simp)
 | .st1 w a,p,o,i,h=>by have h1:=jz (src:=src) hg a (p++[0]) o (i+1) (λw id z=>by have:=h w id z;lia);simp only[nt,eQ,T.size];refine .mk (λz=>by rcases z with z|z<;>exact absurd z (by decide)) (λn hn=>?_);simp only[aB,aF,or_false]at hn;subst hn;exact h1.mono (by lia)
 | .st2 w a b,p,o,i,h=>by
  have h1:=jz (src:=src) hg a (p++[0]) o (i+1) (λw id z=>by have:=h w id z;lia);have h2:=jz (src:=src) hg b (p++[1]) o (i+1+a.size) (λw id z=>by have:=h w id z;lia);simp only[nt,eQ,T.size];refine .mk (λz=>by rcases z with z|z<;>exact absurd z (by decide)) (λn hn=>?_);simp only[aB,aF,or_false]at hn;rcases hn with rfl|rfl
  ·exact h1.mono (by lia)
  ·exact h2.mono (by lia)
inductive It where
 | r(x:Rw)
 | s(x:eE)
def It.isR:It→Prop
 | .r _=>True
 | .s _=>False
def It.wt:It→Nat
 | .r x=>x.wt
 | .s x=>x.wt 0
def wk(I:List It):Nat:=(I.map It.wt).sum
theorem ka(a b:List It):wk (a++b)=wk a+wk b:=by simp[wk]
theorem pU(a:It)(b:List It):wk (a::b)=a.wt+wk b:=by simp[wk]
abbrev rI(R:List Rw):List It:=R.map .r
abbrev sI(S:List eE):List It:=S.map .s
theorem JL(R:List Rw):wk (rI R)=k0 R:=by simp[wk,k0,cj,It.wt]
theorem JK(S:List eE):wk (sI S)=la 0 S:=by simp[wk,la,cj,It.wt]
def Ni(k:Str)(h:Hd):Prop:=(k="sum"∧h=.sum)∨(k="less"∧h=.less)
inductive TR(W:List (T×List kx))(ws0 ws:List Str):Fo→Ba→List It→NT→Prop where
 | spot{f:Fo}{b:Ba}{s:eE}{n:NT}:Rp W ws f b s n→TR W ws0 ws f b [.s s] n
 | num{f:Fo}{b:Ba}{m:Int}{src:Str}{path:List Nat}:TR W ws0 ws f b [.r (.row (.num m) src path)] (.mk "number" (.int m) src (ip path) [])
 | free{f:Fo}{b:Ba}{w:Str}{src:Str}{path:List Nat}:w∈ws→f w=none→TR W ws0 ws f b [.r (.row (.name w) src path)] (.mk "name" (.str w) src (ip path) [])
 | bound{f:Fo}{b:Ba}{w:Str}{i:Int}{src:Str}{path:List Nat}:w∈ws→f w=some i→b i=some w→TR W ws0 ws f b [.r (.row (.name w) src path)] (.mk "name" (.int i) src (ip path) [])
 | rdy{f:Fo}{b:Ba}{k z:Nat}{t:T}{ss:List kx}{n:NT}:W[k]?=some (t,ss)→Gs ws f b t n→nW n=ss.map cv→gn n=z→TR W ws0 ws f b [.r (.rdy k z)] n
 | two{f:Fo}{b:Ba}{k:Str}{h:Hd}{I1 I2:List It}{n1 n2:NT}{src:Str}{path:List Nat}:Ni k h→TR W ws0 ws f b I1 n1→TR W ws0 ws f b I2 n2→TR W ws0 ws f b (.r (.row h src path)::(I1++I2)) (.mk k .non src (ip path) [n1,n2])
 | cho{f:Fo}{b:Ba}{I1 I2 I3:List It}{n1 n2 n3:NT}{src:Str}{path:List Nat}:TR W ws0 ws f b I1 n1→TR W ws0 ws f b I2 n2→TR W ws0 ws f b I3 n3→TR W ws0 ws f b (.r (.row .cho src path)::(I1++(I2++I3))) (.mk "choose" .non src (ip path) [n1,n2,n3])
 | lt{f:Fo}{b:Ba}{x:Str}{i:Int}{I1 I2:List It}{n1 n2:NT}{src:Str}{path:List Nat}:x∈ws→x∉ws0→TR W ws0 ws f b I1 n1→TR W ws0 ws (lB f x i) (mC b i x) I2 n2→TR W ws0 ws f b (.r (.row (.lt x) src path)::(I1++I2)) (.mk "let" (.int i) src (ip path) [n1,n2])
abbrev Le(W W':List (T×List kx)):Prop:=∀(k:Nat)(p:T×List kx),W[k]?=some p→W'[k]?=some p
theorem TR.mono(hW:Le W W')(hs:∀x∈ws,x∈ws')(h:TR W ws0 ws f b I n):TR W' ws0 ws' f b I n:=by
 induction h with
 | spot a=>exact .spot (a.mono hW hs)
 | num=>exact .num
 | free a e=>exact .free (hs _ a) e
 | bound a e1 e2=>exact .bound (hs _ a) e1 e2
 | rdy k g s z=>exact .rdy (hW _ _ k) (g.mono hs) s z
 | two k _ _ i1 i2=>exact .two k i1 i2
 | cho _ _ _ i1 i2 i3=>exact .cho i1 i2 i3
 | lt a a2 _ _ i1 i2=>exact .lt (hs _ a) a2 i1 i2
mutual
def fst:NT→Option (List Nat)
 | .mk k _ _ _ ks=>if k="stamp" then some []else i7 ks 0
def i7:List NT→Nat→Option (List Nat)
 | [],_=>none
 | n::ns,i=>match fst n with
  | some p=>some (i::p)
  | none=>i7 ns (i+1)
end
def getN:NT→List Nat→Option NT
 | n,[]=>some n
 | .mk _ _ _ _ ks,i::p=>match ks[i]? with
  | some m=>getN m p
  | none=>none
def putN:NT→List Nat→NT→NT
 | _,[],m=>m
 | .mk k x src path ks,i::p,m=>.mk k x src path (ks.set i (match ks[i]? with|some n=>putN n p m|none=>m))
mutual
theorem oK:∀{n:NT},JD n→fst n=none
 | .mk k x src path ks,.mk h1 h2=>by rw[fst,if_neg h1];exact xy h2 0
theorem xy:∀{ks:List NT},(∀n∈ks,JD n)→∀i,i7 ks i=none
 | [],_,_=>by rw[i7]
 | n::ns,h,i=>by rw[i7,oK (h n (.head _))];exact xy (λm hm=>h m (.tail _ hm)) (i+1)
end
theorem sJ(h:TR W ws0 ws f b I n):(∀x∈I,x.isR)→JD n:=by
 induction h with
 | spot a=>exact λz=>(z _ (.head _)).elim
 | num=>exact λ_=>.mk (by decide) (by simp)
 | free=>exact λ_=>.mk (by decide) (by simp)
 | bound=>exact λ_=>.mk (by decide) (by simp)
 | rdy _ g=>exact λ_=>g.ns
 | two k _ _ i1 i2=>intro z;have h1:=i1 λx hx=>z x (by simp[hx]);have h2:=i2 λx hx=>z x (by simp[hx]);refine .mk ?_ (by simp[h1,h2]);rcases k with⟨rfl,_⟩|⟨rfl,_⟩<;>decide
 | cho _ _ _ i1 i2 i3=>intro z;have h1:=i1 λx hx=>z x (by simp[hx]);have h2:=i2 λx hx=>z x (by simp[hx]);have h3:=i3 λx hx=>z x (by simp[hx]);exact .mk (by decide) (by simp[h1,h2,h3])
 | lt _ _ _ _ i1 i2=>intro z;have h1:=i1 λx hx=>z x (by simp[hx]);have h2:=i2 λx hx=>z x (by simp[hx]);exact .mk (by decide) (by simp[h1,h2])
def KY:NT→Prop
 | .mk k _ _ _ _=>k="stamp"
abbrev Cx(ws0:List Str)(f:Fo):Prop:=∀x i,f x=some i→x∉ws0
structure At(W:List (T×List kx))(ws0 ws:List Str)(f:Fo)(b:Ba)(A:List It)(s:eE)(B:List It)(n:NT)(p:List Nat)(f':Fo)(b':Ba)(m:NT):Prop where
 get:getN n p=some m
 rp:Rp W ws f' b' s m
 cx:Cx ws0 f'
 st:KY m→fst n=some p
 put:putN n p m=n
 tr:∀{W':List (T×List kx)}{ws':List Str},Le W W'→(∀x∈ws,x∈ws')→∀{J:List It}{m':NT},TR W' ws0 ws' f' b' J m'→TR W' ws0 ws' f b (A++(J++B)) (putN n p m')
theorem rb{I1 I2 A B:List It}{s:eE}(h:I1++I2=A++.s s::B):(∃B1,I1=A++.s s::B1∧B=B1++I2)∨∃A2,A=I1++A2∧I2=A2++.s s::B:=by
 rcases List.append_eq_append_iff.mp h with⟨c,h1,h2⟩|⟨c,h1,h2⟩
 ·exact .inr ⟨c,h1,h2⟩
 ·cases c with
  | nil=>rw[aa]at h1;exact .inr ⟨[],by simp[h1],by simpa using h2.symm⟩
  | cons x c=>rw[aL]at h2;injection h2 with e1 e2;subst e1;exact .inl ⟨c,h1,e2⟩
theorem jj(h:.r r::I=A++It.s s::B):∃A1,A=.r r::A1∧I=A1++.s s::B:=by
 cases A with
 | nil=>rw[ak]at h;injection h with e;cases e
 | cons x A=>rw[aL]at h;injection h with e1 e2;exact⟨A,by rw[e1],e2⟩
theorem KL(z:Ni k h):k≠"stamp":=by rcases z with⟨rfl,_⟩|⟨rfl,_⟩<;>decide
theorem yH{W:List (T×List kx)}{ws0 ws:List Str}{f:Fo}{b:Ba}{I:List It}{n:NT}(h:TR W ws0 ws f b I n):∀{A B:List It}{s:eE},I=A++.s s::B→(∀x∈A,x.isR)→Cx ws0 f→∃p f' b' m,At W ws0 ws f b A s B n p f' b' m:=by
 induction h with
 | @spot f b s0 n a=>
  intro A B s e _ cx;cases A with
  | nil=>rw[ak]at e;injection e with e1 e2;cases e1;subst e2;exact⟨[],f,b,n,by cases n;rfl,a,cx,λz=>by cases n;exact if_pos z,rfl,λ_ _ J m' t=>by simpa[putN]using t⟩
  | cons x A=>rw[aL]at e;injection e with _ e2;cases A<;>cases e2
 | num=>intro A B s e;obtain⟨A1,_,e2⟩:=jj e;cases A1<;>cases e2
 | free=>intro A B s e;obtain⟨A1,_,e2⟩:=jj e;cases A1<;>cases e2
 | bound=>intro A B s e;obtain⟨A1,_,e2⟩:=jj e;cases A1<;>cases e2
 | rdy=>intro A B s e;obtain⟨A1,_,e2⟩:=jj e;cases A1<;>cases e2
 | @two f b k hd I1 I2 n1 n2 src path hk t1 t2 i1 i2=>
  intro A B s e hA cx;obtain⟨A1,rfl,e2⟩:=jj e;have hA1:∀x∈A1,x.isR:=λx hx=>hA x (.tail _ hx);rcases rb e2 with⟨B1,e3,rfl⟩|⟨A2,rfl,e3⟩
  ·obtain⟨p,f',b',m,a⟩:=i1 e3 hA1 cx;refine⟨0::p,f',b',m,a.get,a.rp,a.cx,λz=>?_,?_,λhW hs J m' t=>?_⟩
   ·rw[fst,if_neg (KL hk),i7,a.st z]
   ·simp only[putN,List.getElem?_cons_zero,a.put,List.set_cons_zero]
   ·have:=TR.two (src:=src) (path:=path) hk (a.tr hW hs t) (t2.mono hW hs);simpa[putN]using this
  ·have n1s:=oK (sJ t1 λx hx=>hA1 x (by simp[hx]));obtain⟨p,f',b',m,a⟩:=i2 e3 (λx hx=>hA1 x (by simp[hx])) cx;refine⟨1::p,f',b',m,a.get,a.rp,a.cx,λz=>?_,?_,λhW hs J m' t=>?_⟩
   ·rw[fst,if_neg (KL hk),i7,n1s,i7,a.st z]
   ·simp[putN,a.put]
   ·have:=TR.two (src:=src) (path:=path) hk (t1.mono hW hs) (a.tr hW hs t);simpa[putN]using this
 | @cho f b I1 I2 I3 n1 n2 n3 src path t1 t2 t3 i1 i2 i3=>
  intro A B s e hA cx;obtain⟨A1,rfl,e2⟩:=jj e;have hA1:∀x∈A1,x.isR:=λx hx=>hA x (.tail _ hx);have nk:("choose":Str)≠"stamp":=by decide
  rcases rb e2 with⟨B1,e3,rfl⟩|⟨A2,rfl,e3⟩
  ·obtain⟨p,f',b',m,a⟩:=i1 e3 hA1 cx;refine⟨0::p,f',b',m,a.get,a.rp,a.cx,λz=>?_,?_,λhW hs J m' t=>?_⟩
   ·rw[fst,if_neg nk,i7,a.st z]
   ·simp[putN,a.put]
   ·have:=TR.cho (src:=src) (path:=path) (a.tr hW hs t) (t2.mono hW hs) (t3.mono hW hs);simpa[putN]using this
  ·have n1s:=oK (sJ t1 λx hx=>hA1 x (by simp[hx]));rcases rb e3 with⟨B1,e4,rfl⟩|⟨A3,rfl,e4⟩
   ·obtain⟨p,f',b',m,a⟩:=i2 e4 (λx hx=>hA1 x (by simp[hx])) cx;refine⟨1::p,f',b',m,a.get,a.rp,a.cx,λz=>?_,?_,λhW hs J m' t=>?_⟩
    ·rw[fst,if_neg nk,i7,n1s,i7,a.st z]
    ·simp[putN,a.put]
    ·have:=TR.cho (src:=src) (path:=path) (t1.mono hW hs) (a.tr hW hs t) (t3.mono hW hs);simpa[putN]using this
   ·have n2s:=oK (sJ t2 λx hx=>hA1 x (by simp[hx]));obtain⟨p,f',b',m,a⟩:=i3 e4 (λx hx=>hA1 x (by simp[hx])) cx;refine⟨2::p,f',b',m,a.get,a.rp,a.cx,λz=>?_,?_,λhW hs J m' t=>?_⟩
    ·rw[fst,if_neg nk,i7,n1s,i7,n2s,i7,a.st z]
    ·simp[putN,a.put]
    ·have:=TR.cho (src:=src) (path:=path) (t1.mono hW hs) (t2.mono hW hs) (a.tr hW hs t);simpa[putN]using this
 | @lt f b x i I1 I2 n1 n2 src path hx hx0 t1 t2 i1 i2=>
  intro A B s e hA cx;obtain⟨A1,rfl,e2⟩:=jj e;have hA1:∀x∈A1,x.isR:=λx hx=>hA x (.tail _ hx);have nk:("let":Str)≠"stamp":=by decide
  rcases rb e2 with⟨B1,e3,rfl⟩|⟨A2,rfl,e3⟩
  ·obtain⟨p,f',b',m,a⟩:=i1 e3 hA1 cx;refine⟨0::p,f',b',m,a.get,a.rp,a.cx,λz=>?_,?_,λhW hs J m' t=>?_⟩
   ·rw[fst,if_neg nk,i7,a.st z]
   ·simp[putN,a.put]
   ·have:=TR.lt (src:=src) (path:=path) (hs _ hx) hx0 (a.tr hW hs t) (t2.mono hW hs);simpa[putN]using this
  ·have n1s:=oK (sJ t1 λx hx=>hA1 x (by simp[hx]));have cx':Cx ws0 (lB f x i):=λy j h=>by
    unfold lB at h;split at h
    ·rename_i e;subst e;exact hx0
    ·exact cx y j h
   obtain⟨p,f',b',m,a⟩:=i2 e3 (λx hx=>hA1 x (by simp[hx])) cx';refine⟨1::p,f',b',m,a.get,a.rp,a.cx,λz=>?_,?_,λhW hs J m' t=>?_⟩
   ·rw[fst,if_neg nk,i7,n1s,i7,a.st z]
   ·simp[putN,a.put]
   ·have:=TR.lt (src:=src) (path:=path) (hs _ hx) hx0 (t1.mono hW hs) (a.tr hW hs t);simpa[putN]using this
end S8
namespace S8
open PySem L2 SW S9
variable {W:List (T×List kx)}{ws0 ws ws':List Str}{f:Fo}{b:Ba}
def Nm(W:List (T×List kx))(ws:List Str)(f:Fo)(b:Ba)(s:eE)(n:NT):T→Prop
 | .num m=>n=.mk "number" (.int m) s.src (ip s.path) []
 | .name w=>(s.e.look w=none∧w∈ws∧f w=none∧n=.mk "name" (.str w) s.src (ip s.path) [])∨(∃x i,s.e.look w=some (.called x)∧x∈ws∧f x=some i∧b i=some x∧n=.mk "name" (.int i) s.src (ip s.path) [])∨
  (∃k z t ss,s.e.look w=some (.ready k z)∧W[k]?=some (t,ss)∧Gs ws f b t n∧nW n=ss.map cv∧gn n=z)∨∃t src path e,s.e.look w=some (.handed t src path e)∧Rp W ws f b ⟨t,src,path,e⟩ n
 | .sum t1 t2=>∃n1 n2,n=.mk "sum" .non s.src (ip s.path) [n1,n2]∧Rp W ws f b (s.kid 0 t1) n1∧Rp W ws f b (s.kid 1 t2) n2
 | .less t1 t2=>∃n1 n2,n=.mk "less" .non s.src (ip s.path) [n1,n2]∧Rp W ws f b (s.kid 0 t1) n1∧Rp W ws f b (s.kid 1 t2) n2
 | .cho t1 t2 t3=>∃n1 n2 n3,n=.mk "choose" .non s.src (ip s.path) [n1,n2,n3]∧Rp W ws f b (s.kid 0 t1) n1∧Rp W ws f b (s.kid 1 t2) n2∧Rp W ws f b (s.kid 2 t3) n3
 | .lt w t1 t2=>∃n1 n2 i,n=.mk "let" (.int i) s.src (ip s.path) [n1,n2]∧Rp W ws f b (s.kid 0 t1) n1∧∀x,x∉ws→Rp W (x::ws) (lB f x i) (mC b i x) ⟨t2,s.src,s.path++[1],s.e.put w (.called x)⟩ n2
 | .st0 w=>n=.mk "stamp" (.str w) s.src (ip s.path) []
 | .st1 w t1=>∃n1,n=.mk "stamp" (.str w) s.src (ip s.path) [n1]∧Rp W ws f b (s.kid 0 t1) n1
 | .st2 w t1 t2=>∃n1 n2,n=.mk "stamp" (.str w) s.src (ip s.path) [n1,n2]∧Rp W ws f b (s.kid 0 t1) n1∧Rp W ws f b (s.kid 1 t2) n2
theorem Rp.inv{s:eE}{n:NT}(h:Rp W ws f b s n):Nm W ws f b s n s.t:=by
 cases h with
 | num e=>rw[e];rfl
 | free e l m g=>rw[e];exact .inl ⟨l,m,g,rfl⟩
 | called e l m g1 g2=>rw[e];exact .inr (.inl ⟨_,_,l,m,g1,g2,rfl⟩)
 | ready e l hk g hs hz=>rw[e];exact .inr (.inr (.inl ⟨_,_,_,_,l,hk,g,hs,hz⟩))
 | handed e l r=>rw[e];exact .inr (.inr (.inr ⟨_,_,_,_,l,r⟩))
 | sum e a c=>rw[e];exact⟨_,_,rfl,a,c⟩
 | less e a c=>rw[e];exact⟨_,_,rfl,a,c⟩
 | cho e a c d=>rw[e];exact⟨_,_,_,rfl,a,c,d⟩
 | lt e a c=>rw[e];exact⟨_,_,_,rfl,a,c⟩
 | st0 e=>rw[e];rfl
 | st1 e a=>rw[e];exact⟨_,rfl,a⟩
 | st2 e a c=>rw[e];exact⟨_,_,rfl,a,c⟩
theorem Rp.at{s:eE}{n:NT}{t:T}(h:Rp W ws f b s n)(e:s.t=t):Nm W ws f b s n t:=e▸h.inv
theorem Ew{s:eE}{Q:List eE}{rs:List Rw}{m:NT}(h:Tk ws s Q rs ws')(r:Rp W ws f b s m)(h0:∀x∈ws0,x∈ws):TR W ws0 ws' f b (rI rs++sI Q.reverse) m∧∀x∈ws,x∈ws':=by
 cases h with
 | plain e=>
  refine⟨?_,λ_ z=>z⟩;rw[cg];have v:=r.inv;obtain⟨st,src,path,en⟩:=s;cases st<;>cases e
  ·cases v;exact .num
  ·obtain⟨n1,n2,rfl,r1,r2⟩:=v;exact .two (I1:=[.s _]) (I2:=[.s _]) (.inl ⟨rfl,rfl⟩) (.spot r1) (.spot r2)
  ·obtain⟨n1,n2,rfl,r1,r2⟩:=v;exact .two (I1:=[.s _]) (I2:=[.s _]) (.inr ⟨rfl,rfl⟩) (.spot r1) (.spot r2)
  ·obtain⟨n1,n2,n3,rfl,r1,r2,r3⟩:=v;exact .cho (I1:=[.s _]) (I2:=[.s _]) (I3:=[.s _]) (.spot r1) (.spot r2) (.spot r3)
 | free e l=>
  refine⟨?_,λ_ z=>z⟩;rcases r.at e with⟨_,h1,h2,rfl⟩|⟨_,_,l2,_⟩|⟨_,_,_,_,l2,_⟩|⟨_,_,_,_,l2,_⟩
  ·exact .free h1 h2
  all_goals (rw[l]at l2;cases l2)
 | called e l=>
  refine⟨?_,λ_ z=>z⟩;rcases r.at e with⟨l2,_⟩|⟨_,_,l2,h1,h2,h3,rfl⟩|⟨_,_,_,_,l2,_⟩|⟨_,_,_,_,l2,_⟩
  all_goals (rw[l]at l2;cases l2)
  exact .bound h1 h2 h3
 | ready e l=>
  refine⟨?_,λ_ z=>z⟩;rcases r.at e with⟨l2,_⟩|⟨_,_,l2,_⟩|⟨_,_,_,_,l2,h1,h2,h3,h4⟩|⟨_,_,_,_,l2,_⟩
  all_goals (rw[l]at l2;cases l2)
  exact .rdy h1 h2 h3 h4
 | handed e l=>
  refine⟨?_,λ_ z=>z⟩;rcases r.at e with⟨l2,_⟩|⟨_,_,l2,_⟩|⟨_,_,_,_,l2,_⟩|⟨_,_,_,_,l2,r2⟩
  all_goals (rw[l]at l2;cases l2)
  exact .spot r2
 | @lt w x p q e _ hx _=>
  have sub:∀y∈ws,y∈ws++[x]:=λy hy=>af _ hy;refine⟨?_,sub⟩;obtain⟨n1,n2,i,rfl,r1,r2⟩:=r.at e;refine .lt (I1:=[.s _]) (I2:=[.s _]) (aO _ (.head _)) (λz=>hx (h0 _ z)) (.spot (r1.mono (λ_ _ z=>z) sub)) (.spot ((r2 x hx).mono (λ_ _ z=>z) λy hy=>?_));rcases aB.mp hy with rfl|hy
  ·exact aO _ (.head _)
  ·exact sub _ hy
theorem qb(R:List Rw):∀x∈rI R,x.isR:=λx hx=>by obtain⟨r,_,rfl⟩:=cD.mp hx;exact aI
theorem eJ{S Q:List eE}{s:eE}{R:List Rw}:rI R++sI (S++[s]).reverse=rI R++.s s::sI S.reverse:=by simp
theorem HY{S:List eE}{R R':List Rw}{n:NT}(h:zd S R ws R' ws'):(∀x∈ws0,x∈ws)→Cx ws0 f→TR W ws0 ws f b (rI R++sI S.reverse) n→TR W ws0 ws' f b (rI R') n∧∀x∈ws,x∈ws':=by
 induction h with
 | nil=>exact λ_ _ t=>⟨by simpa using t,λ_ z=>z⟩
 | @step S P s R rs R' ws ws' ws'' tk _ ih=>intro h0 cx t;rw[eJ (Q:=P)]at t;obtain⟨p,f',b',m,a⟩:=yH t rfl (qb R) cx;obtain⟨t2,sub⟩:=Ew tk a.rp h0;have t3:=a.tr (λ_ _ z=>z) sub t2;rw[a.put]at t3;obtain⟨t4,sub2⟩:=ih (λx hx=>sub x (h0 x hx)) cx (by simpa using t3);exact⟨t4,λx hx=>sub2 x (sub x hx)⟩
theorem Kb{I:List It}{n:NT}(h:TR W ws0 ws f b I n):(∀x∈I,x.isR)→∃R,I=rI R∧∃t,(∀R2,mH (W.map Prod.fst) (R++R2)=t::mH (W.map Prod.fst) R2)∧Gs ws f b t n∧nW n=(io (W.map Prod.snd) R).map cv:=by
 induction h with
 | spot a=>exact λz=>(z _ (.head _)).elim
 | @num f b m src path=>exact λ_=>⟨[.row (.num m) src path],rfl,.num m,λR2=>rfl,.num,rfl⟩
 | @free f b w src path a e=>exact λ_=>⟨[.row (.name w) src path],rfl,.name w,λR2=>rfl,.free a e,rfl⟩
 | @bound f b w i src path a e1 e2=>exact λ_=>⟨[.row (.name w) src path],rfl,.name w,λR2=>rfl,.bound a e1 e2,rfl⟩
 | @rdy f b k z t ss n hk g hs hz=>
  refine λ_=>⟨[.rdy k z],rfl,t,λR2=>?_,g,?_⟩
  ·simp only[aL,ak,mH,ye,ac,hk,bc,bw]
  ·simp only[io,ac,hk,bc,bw,aa];exact hs
 | @two f b k hd I1 I2 n1 n2 src path hk t1 t2 i1 i2=>
  intro z;obtain⟨R1,rfl,u1,e1,g1,s1⟩:=i1 λx hx=>z x (by simp[hx]);obtain⟨R2,rfl,u2,e2,g2,s2⟩:=i2 λx hx=>z x (by simp[hx]);rcases hk with⟨rfl,rfl⟩|⟨rfl,rfl⟩
  ·refine⟨.row .sum src path::(R1++R2),by simp,.sum u1 u2,λR3=>?_,.sum g1 g2,?_⟩
   ·simp only[aL,aV,mH,e1,e2,ye,Hd.ar,bI,av,bE,ag,vw]
   ·simp[nW,yf,io,hG,s1,s2]
  ·refine⟨.row .less src path::(R1++R2),by simp,.less u1 u2,λR3=>?_,.less g1 g2,?_⟩
   ·simp only[aL,aV,mH,e1,e2,ye,Hd.ar,bI,av,bE,ag,vw]
   ·simp[nW,yf,io,hG,s1,s2]
 | @cho f b I1 I2 I3 n1 n2 n3 src path t1 t2 t3 i1 i2 i3=>
  intro z;obtain⟨R1,rfl,u1,e1,g1,s1⟩:=i1 λx hx=>z x (by simp[hx]);obtain⟨R2,rfl,u2,e2,g2,s2⟩:=i2 λx hx=>z x (by simp[hx]);obtain⟨R3,rfl,u3,e3,g3,s3⟩:=i3 λx hx=>z x (by simp[hx]);refine⟨.row .cho src path::(R1++(R2++R3)),by simp,.cho u1 u2 u3,λR4=>?_,.cho g1 g2 g3,?_⟩
  ·simp only[aL,aV,mH,e1,e2,e3,ye,Hd.ar,bI,av,bE,ag,vw]
  ·simp[nW,yf,io,hG,s1,s2,s3]
 | @lt f b x i I1 I2 n1 n2 src path hx hx0 t1 t2 i1 i2=>
  intro z;obtain⟨R1,rfl,u1,e1,g1,s1⟩:=i1 λx hx=>z x (by simp[hx]);obtain⟨R2,rfl,u2,e2,g2,s2⟩:=i2 λx hx=>z x (by simp[hx]);refine⟨.row (.lt x) src path::(R1++R2),by simp,.lt x u1 u2,λR3=>?_,.lt hx g1 g2,?_⟩
  ·simp only[aL,aV,mH,e1,e2,ye,Hd.ar,bI,av,bE,ag,vw]
  ·simp[nW,yf,io,hG,s1,s2]
theorem Hk{R R2:List Rw}(h:rI R=rI R2):R=R2:=by have:=congrArg (List.map λx=>match x with|It.r y=>y|It.s _=>Rw.rdy 0 0) h;simpa[cC,cj]using this
theorem xq{R:List Rw}{n:NT}(h:TR W ws0 ws f b (rI R) n):∃t,mH (W.map Prod.fst) R=[t]∧Gs ws f b t n∧nW n=(io (W.map Prod.snd) R).map cv:=by obtain⟨R2,e,t,h1,h2,h3⟩:=Kb h (qb R);have:=Hk e;subst this;have:=h1 [];rw[aa]at this;exact⟨t,this,h2,h3⟩
def FT(k:Nat):Str:=⟨(List.replicate k 97).toArray⟩
theorem wI(ws:List Str):∃x:Str,x∉ws:=by
 have key:∀ws:List Str,∃m:Nat,∀x∈ws,x.cps.size<m:=by
  intro ws;induction ws with
  | nil=>exact⟨0,λx hx=>by cases hx⟩
  | cons y ws ih=>
   obtain⟨m,hm⟩:=ih;refine⟨m+y.cps.size+1,λx hx=>?_⟩;rcases aB.mp hx with rfl|hx
   ·lia
   ·have:=hm x hx;lia
 obtain⟨m,hm⟩:=key ws;refine⟨FT m,λz=>?_⟩;have:=hm _ z;simp[FT]at this
theorem E5{s:eE}{n:NT}(h:Rp W ws f b s n):s.wt 0=gn n:=by
 induction h with
 | num e=>simp[eE.wt,e,jl,gn,fj]
 | free e l=>rw[iY e,l];simp[gn,fj]
 | called e l=>rw[iY e,l];simp[gn,fj,Mg.wt]
 | ready e l _ _ _ hz=>rw[iY e,l];simp[Mg.wt,hz]
 | handed e l _ ih=>rw[iY e,l,←ih];simp[Mg.wt,eE.wt]
 | sum e _ _ i1 i2=>simp only[gn,fj,←i1,←i2];simp only[eE.wt,e,jl,eE.kid];lia
 | less e _ _ i1 i2=>simp only[gn,fj,←i1,←i2];simp only[eE.wt,e,jl,eE.kid];lia
 | cho e _ _ _ i1 i2 i3=>simp only[gn,fj,←i1,←i2,←i3];simp only[eE.wt,e,jl,eE.kid];lia
 | @lt ws f b s w t1 t2 n1 n2 i e _ _ i1 i2=>obtain⟨x,hx⟩:∃x:Str,x∉ws:=wI ws;have:=i2 x hx;simp only[gn,fj,←i1,←this];rw[zn (x:=x) e,lG,gu];lia
 | st0 e=>simp[eE.wt,e,jl,gn,fj]
 | st1 e _ i1=>simp only[gn,fj,←i1];simp only[eE.wt,e,jl,eE.kid];lia
 | st2 e _ _ i1 i2=>simp only[gn,fj,←i1,←i2];simp only[eE.wt,e,jl,eE.kid];lia
theorem JO{I:List It}{n:NT}(h:TR W ws0 ws f b I n):wk I=gn n:=by
 induction h with
 | spot a=>simp[wk,It.wt,E5 a]
 | num=>rfl
 | free=>rfl
 | bound=>rfl
 | rdy _ _ _ hz=>simp[wk,It.wt,Rw.wt,hz]
 | two _ _ _ i1 i2=>simp only[pU,ka,i1,i2,It.wt,Rw.wt,gn,fj];lia
 | cho _ _ _ i1 i2 i3=>simp only[pU,ka,i1,i2,i3,It.wt,Rw.wt,gn,fj];lia
 | lt _ _ _ _ i1 i2=>simp only[pU,ka,i1,i2,It.wt,Rw.wt,gn,fj];lia
end S8
namespace S8
open PySem L2 SW S9
variable {W:List (T×List kx)}{ws0 ws ws':List Str}{f:Fo}{b:Ba}{bo:Bo}{t:T}
def oH:Gi:=λ_=>none
def FP(e:Bool)(g:NT):Gi:=λw=>if w=qw e then some g else none
def Ck(e:Bool)(g h:NT):Gi:=λw=>if w=qw e then some g else if w=zB e then some h else none
inductive we(bo:Bo):Str→List NT→Gi→T→Prop where
 | star:we bo "star" [] oH bo.x
 | sta{g:NT}:we bo "sta" [g] (FP bo.e g) bo.y
 | st{g h:NT}:we bo "st" [g,h] (Ck bo.e g h) bo.z
inductive Ly(bo:Bo)(t:T):Nat→NT→Int→Prop where
 | zero:Ly bo t 0 (nt 0 "" oH t [] Ow.none 0) (0+(t.size:Int))
 | succ{k:Nat}{n:NT}{c:Int}{p:List Nat}{w src:Str}{path:List Int}{ks:List NT}{giv:Gi}{body:T}:Ly bo t k n c→fst n=some p→getN n p=some (.mk "stamp" (.str w) src path ks)→we bo w ks giv body→
  Ly bo t (k+1) (putN n p (nt c w giv body [] Ow.none 0)) (c+(body.size:Int))
theorem we.uniq{w:Str}{ks:List NT}{g1 g2:Gi}{c1 c2:T}(h1:we bo w ks g1 c1)(h2:we bo w ks g2 c2):g1=g2∧c1=c2:=by cases h1<;>cases h2<;>exact⟨rfl,rfl⟩
theorem Ly.uniq{k:Nat}{n1 n2:NT}{c1 c2:Int}(h1:Ly bo t k n1 c1)(h2:Ly bo t k n2 c2):n1=n2∧c1=c2:=by
 induction h1 generalizing n2 c2 with
 | zero=>cases h2;exact⟨rfl,rfl⟩
 | succ a f1 g1 B1 ih=>
  cases h2 with
  | succ a2 f2 g2 B2=>obtain⟨rfl,rfl⟩:=ih a2;rw[f1]at f2;cases f2;rw[g1]at g2;cases g2;obtain⟨rfl,rfl⟩:=B1.uniq B2;exact⟨rfl,rfl⟩
theorem Ly.over{k j:Nat}{n m:NT}{c d:Int}(h1:Ly bo t k n c)(h2:Ly bo t j m d)(h:k<j):∃p,fst n=some p:=by
 induction h2 with
 | zero=>lia
 | @succ j m d p w src path ks giv body a f1 g1 B1 ih=>
  rcases bK k j with hk|hk
  ·exact ih hk
  ·have:k=j:=by lia
   subst this;obtain⟨rfl,_⟩:=h1.uniq a;exact⟨_,f1⟩
theorem Ly.le_end{k j:Nat}{n m:NT}{c d:Int}(h1:Ly bo t k n c)(h2:Ly bo t j m d)(e:fst n=none):j≤k:=by
 rcases bK k j with hk|hk
 ·obtain⟨p,hp⟩:=h1.over h2 hk;rw[e]at hp;cases hp
 ·exact hk
theorem rF:∀{ks:List NT}{j:Nat}{q:List Nat},i7 ks j=some q→∃i p m,q=(j+i)::p∧ks[i]?=some m∧fst m=some p
 | [],_,_,h=>by rw[i7]at h;cases h
 | n::ns,j,q,h=>by
  rw[i7]at h;cases e:fst n with
  | some p=>rw[e]at h;cases h;exact⟨0,p,n,rfl,rfl,e⟩
  | none=>rw[e]at h;obtain⟨i,p,m,h1,h2,h3⟩:=rF h;exact⟨i+1,p,m,by rw[h1];congr 1;lia,h2,h3⟩
theorem qV{k:Str}{x:V}{src:Str}{path:List Int}{ks:List NT}{q:List Nat}(h:fst (.mk k x src path ks)=some q):(k="stamp"∧q=[])∨(k≠"stamp"∧∃i p m,q=i::p∧ks[i]?=some m∧fst m=some p):=by
 rw[fst]at h;split at h
 ·rename_i e;cases h;exact .inl ⟨e,rfl⟩
 ·rename_i e;obtain⟨i,p,m,h1,h2,h3⟩:=rF h;exact .inr ⟨e,i,p,m,by rw[h1,br],h2,h3⟩
theorem Br{c:Int}{m:NT}(hm:Lo c m):∀{p:List Nat}{n:NT},Lo c n→Lo c (putN n p m)
 | [],_,_=>hm
 | i::p,.mk k x src path ks,.mk h1 h2=>by
  refine .mk h1 λy hy=>?_;rcases ck hy with z|rfl
  ·exact h2 y z
  ·cases e:ks[i]? with
   | none=>exact hm
   | some n=>exact Br hm (h2 n (aZ e))
theorem wA{c:Int}:∀{p:List Nat}{n m:NT},Lo c n→getN n p=some m→Lo c m
 | [],n,m,h,e=>by cases n;cases e;exact h
 | i::p,.mk k x src path ks,m,.mk h1 h2,e=>by
  rw[getN]at e;cases e2:ks[i]? with
  | none=>rw[e2]at e;cases e
  | some n=>rw[e2]at e;exact wA (h2 n (aZ e2)) e
theorem nE{w:Str}{ks:List NT}{giv:Gi}{body:T}(B:we bo w ks giv body){P:NT→Prop}(h:∀n∈ks,P n):∀v g,giv v=some g→P g:=by
 intro v g e;cases B with
 | star=>cases e
 | sta=>
  unfold FP at e;split at e
  ·cases e;exact h _ (by simp)
  ·cases e
 | st=>
  unfold Ck at e;split at e
  ·cases e;exact h _ (by simp)
  ·split at e
   ·cases e;exact h _ (by simp)
   ·cases e
theorem KQ{k:Nat}{n:NT}{c:Int}(h:Ly bo t k n c):Lo c n:=by
 induction h with
 | zero=>have:=jz (giv:=oH) (c:=0) (src:="") (λw g e=>by cases e) t [] Ow.none 0 (λw id e=>by cases e);exact this.mono (by lia)
 | @succ k n c p w src path ks giv body _ _ g1 B ih=>have lm:=wA ih g1;have:=jz (giv:=giv) (c:=c) (src:=w) (nE B lm.inv.2) body [] Ow.none 0 (λw id e=>by cases e);exact Br (this.mono (by lia)) (ih.mono (by lia))
theorem zo{rd:List (List Rw)}(h:nH rd W):W.length=rd.length:=by
 induction h with
 | nil=>rfl
 | snoc _ _ ih=>simp[ih]
theorem sU{rd rd':List (List Rw)}{s:eE}{m:Mg}{n:NT}(h:oS true rd ws s m rd' ws')(r:Rp W ws f b s n)(hw:nH rd W)(h0:∀x∈ws0,x∈ws)(cx:Cx ws0 f):
  ∃W',nH rd' W'∧Le W W'∧(∀x∈ws,x∈ws')∧Cq W' ws' f b m n:=by
 cases h with
 | handed p=>exact⟨W,hw,λ_ _ z=>z,λ_ z=>z,r⟩
 | @ready _ _ _ _ R p run=>
  obtain⟨t1,sub⟩:=HY (ws0:=ws0) run h0 cx (TR.spot r);obtain⟨t,e,g,hs⟩:=xq t1;refine⟨_,.snoc hw e,λk q z=>?_,sub,t,_,?_,g,hs,(E5 r).symm⟩
  ·rw[aw (aK.mp z).1];exact z
  ·rw[←zo hw];simp
theorem tF{giv:Gi}{c:Int}{e:S9.En}{OUT:Str→Prop}(hg:∀w g,giv w=some g→∃m,e.look w=some m∧Cq W ws f b m g∧Lo c g)(ho:∀w,giv w=none→e.look w=none)(hO:∀w,OUT w→w∈ws0)(h0:∀x∈ws0,x∈ws)(cx:Cx ws0 f):Fb W OUT giv c ws f b e Ow.none 0:=by
 refine⟨(λw id h=>by cases h),λw g _ h=>hg w g h,λw _ h2 h3=>⟨ho w h2,?_,h0 _ (hO w h3)⟩⟩;cases h:f w with
 | none=>rfl
 | some i=>exact absurd (hO w h3) (cx w i h)
structure wX(bo:Bo)(ws0:List Str):Prop where
 a:∀w,bo.x.out w→w∈ws0
 b:∀w,bo.y.out w→w∈ws0
 c:∀w,bo.z.out w→w∈ws0
theorem ED{rd rd':List (List Rw)}{s s':eE}{m:NT}{c:Int}(O:wX bo ws0)(h:tT bo true rd ws s s' rd' ws')(r:Rp W ws f b s m)(hw:nH rd W)(h0:∀x∈ws0,x∈ws)(cx:Cx ws0 f)(lo:Lo c m):
  ∃W' w giv body ks src path,m=.mk "stamp" (.str w) src path ks∧we bo w ks giv body∧nH rd' W'∧Le W W'∧(∀x∈ws,x∈ws')∧Rp W' ws' f b s' (nt c w giv body [] Ow.none 0):=by
 cases h with
 | star e=>
  ·have v:=r.at e;subst v;exact⟨W,"star",oH,bo.x,[],_,_,rfl,.star,hw,λ_ _ z=>z,λ_ z=>z,lv (path:=[]) bo.x (tF (OUT:=λw=>bo.x.out w) (λw g h=>by cases h) (λw _=>rfl) O.a h0 cx) λw z _ _=>z⟩
 | @sta p m1 _ _ e h1=>
  ·obtain⟨n1,rfl,r1⟩:=r.at e;obtain⟨W',hw',le,sub,mr⟩:=sU (ws0:=ws0) h1 r1 hw h0 cx;refine⟨W',"sta",FP bo.e n1,bo.y,[n1],_,_,rfl,.sta,hw',le,sub,lv (path:=[]) bo.y (tF (OUT:=λw=>bo.y.out w) (λw g h=>?_) (λw h=>?_) O.b (λx hx=>sub x (h0 x hx)) cx) λw z _ _=>z⟩
   ·unfold FP at h;split at h
    ·rename_i hv;subst hv;cases h;exact⟨m1,if_pos rfl,mr,lo.inv.2 _ (by simp)⟩
    ·cases h
   ·unfold FP at h;split at h
    ·cases h
    ·rename_i hv;exact if_neg (λz=>hv z.symm)
 | @st p q m1 m2 rd1 rd2 ws1 ws2 e h1 h2=>
  ·obtain⟨n1,n2,rfl,r1,r2⟩:=r.at e;obtain⟨W1,hw1,le1,sub1,mr1⟩:=sU (ws0:=ws0) h1 r1 hw h0 cx;obtain⟨W2,hw2,le2,sub2,mr2⟩:=sU (ws0:=ws0) h2 (r2.mono le1 sub1) hw1 (λx hx=>sub1 x (h0 x hx)) cx;refine⟨W2,"st",Ck bo.e n1 n2,bo.z,[n1,n2],_,_,rfl,.st,hw2,λk q z=>le2 _ _ (le1 _ _ z),λx hx=>sub2 x (sub1 x hx),lv (path:=[]) bo.z (tF (OUT:=λw=>bo.z.out w) (λw g h=>?_) (λw h=>?_) O.c (λx hx=>sub2 x (sub1 x (h0 x hx))) cx) λw z _ _=>z⟩
   ·unfold Ck at h;split at h
    ·rename_i hv;subst hv;cases h;exact⟨m1,if_pos rfl,mr1.mono le2 sub2,lo.inv.2 _ (by simp)⟩
    ·split at h
     ·rename_i hv;subst hv;cases h;exact⟨m2,by unfold En.look;rw[if_neg (D5 bo.e)];exact if_pos rfl,mr2,lo.inv.2 _ (by simp)⟩
     ·cases h
   ·unfold Ck at h;split at h
    ·cases h
    ·split at h
     ·cases h
     ·rename_i hv hv2;unfold En.look;rw[if_neg (λz=>hv z.symm)];exact if_neg (λz=>hv2 z.symm)
def f0:Fo:=λ_=>none
def Ki:Ba:=λ_=>none
structure Kl(bo:Bo)(t:T)(ws0:List Str)(st:ou)(n:NT)(c:Int)(W:List (T×List kx)):Prop where
 ly:Ly bo t st.k n c
 wr:nH st.rd W
 tr:TR W ws0 st.ws f0 Ki (rI st.R++sI st.S.reverse) n
 sub:∀x∈ws0,x∈st.ws
theorem LD:Cx ws0 f0:=λx i h=>by cases h
theorem HV{F:Nat}{st st':ou}{n:NT}{c:Int}(h:FU bo F st st')(S:Kl bo t ws0 st n c W)(hk:st.k<st'.k):∃p,fst n=some p:=by
 cases h with
 | take a=>exact absurd hk (bT _)
 | @opn S0 s s' R k ws ws' rd rd' a=>
  have tr:=S.tr;rw[eJ (Q:=[])]at tr;obtain⟨p,f',b',m,A⟩:=yH tr rfl (qb R) LD;refine⟨p,A.st ?_⟩;have r:=A.rp;cases a with
  | star e=>have v:=r.at e;subst v;exact rfl
  | sta e=>obtain⟨_,rfl,_⟩:=r.at e;exact rfl
  | st e=>obtain⟨_,_,rfl,_⟩:=r.at e;exact rfl
theorem Dm{F:Nat}{st st':ou}{n:NT}{c:Int}(O:wX bo ws0)(h:FU bo F st st')(S:Kl bo t ws0 st n c W)(hk:st'.k≤F):∃n' c' W',Kl bo t ws0 st' n' c' W':=by
 cases h with
 | @take S0 Q s R rs k ws ws' rd a=>have tr:=S.tr;rw[eJ (Q:=[])]at tr;obtain⟨p,f',b',m,A⟩:=yH tr rfl (qb R) LD;obtain⟨t2,sub⟩:=Ew a A.rp S.sub;have t3:=A.tr (λ_ _ z=>z) sub t2;rw[A.put]at t3;exact⟨n,c,W,S.ly,S.wr,by simpa using t3,λx hx=>sub x (S.sub x hx)⟩
 | @opn S0 s s' R k ws ws' rd rd' a=>have hk:k+1≤F:=hk;rw[show decide (k+1≤F)=true from decide_eq_true hk]at a;have tr:=S.tr;rw[eJ (Q:=[])]at tr;obtain⟨p,f',b',m,A⟩:=yH tr rfl (qb R) LD;have lo:=wA (KQ S.ly) A.get;obtain⟨W',w,giv,body,ks,src,path,rfl,B,hw,le,sub,rp⟩:=ED (c:=c) O a A.rp S.wr S.sub A.cx lo;have t3:=A.tr le sub (TR.spot rp);exact⟨_,_,W',S.ly.succ (A.st rfl) A.get B,hw,by simpa using t3,λx hx=>sub x (S.sub x hx)⟩
theorem yi(ht:∀w,t.out w→w∈ws0):Kl bo t ws0 (st0 t ws0) (nt 0 "" oH t [] Ow.none 0) (0+(t.size:Int)) []:=
 ⟨.zero,.nil,TR.spot (lv (path:=[]) t (tF (OUT:=λw=>t.out w) (λw g h=>by cases h) (λw _=>rfl) ht (λ_ z=>z) LD) λw z _ _=>z),λ_ z=>z⟩
theorem sL{F:Nat}{st:ou}(O:wX bo ws0)(ht:∀w,t.out w→w∈ws0)(h:tX bo F (st0 t ws0) st):st.k≤F→∃n c W,Kl bo t ws0 st n c W:=by
 induction h with
 | refl=>exact λ_=>⟨_,_,_,yi ht⟩
 | step _ hk a ih=>intro hk2;obtain⟨n,c,W,S⟩:=ih hk;exact Dm O a S hk2
theorem BH{F:Nat}{st:ou}(O:wX bo ws0)(ht:∀w,t.out w→w∈ws0)(h:tX bo F (st0 t ws0) st)(hF:F<st.k):∃k n c p,Ly bo t k n c∧F≤k∧fst n=some p:=by
 cases h with
 | refl=>exact absurd hF (cW _)
 | @step st1 _ r hk a=>
  obtain⟨n,c,W,S⟩:=sL O ht r hk;have h2:st1.k<st.k:=by lia
  have h3:st.k≤st1.k+1:=by cases a<;>simp
  obtain⟨p,hp⟩:=HV a S h2;exact⟨st1.k,n,c,p,S.ly,by lia,hp⟩
end S8
namespace S8
open PySem L2 SW
def jc(z:Str):List Str→T→T
 | _,.num n=>.num n
 | o,.name w=>if w∈o then .name (w++z)else .name w
 | o,.sum a b=>.sum (jc z o a) (jc z o b)
 | o,.less a b=>.less (jc z o a) (jc z o b)
 | o,.cho a b c=>.cho (jc z o a) (jc z o b) (jc z o c)
 | o,.lt w a b=>.lt (w++z) (jc z o a) (jc z (o++[w]) b)
 | _,.st0 w=>.st0 w
 | o,.st1 w a=>.st1 w (jc z o a)
 | o,.st2 w a b=>.st2 w (jc z o a) (jc z o b)
theorem gM(z:Str):∀(o:List Str)(t:T),(jc z o t).size=t.size
 | _,.num n=>rfl
 | o,.name w=>by rw[jc];split<;>rfl
 | o,.sum a b=>by simp only[jc,T.size,gM z]
 | o,.less a b=>by simp only[jc,T.size,gM z]
 | o,.cho a b c=>by simp only[jc,T.size,gM z]
 | o,.lt w a b=>by simp only[jc,T.size,gM z]
 | _,.st0 w=>rfl
 | o,.st1 w a=>by simp only[jc,T.size,gM z]
 | o,.st2 w a b=>by simp only[jc,T.size,gM z]
def jo(P:Str→Prop):T→Prop
 | .num _=>True
 | .name w=>P w
 | .sum a b=>jo P a∧jo P b
 | .less a b=>jo P a∧jo P b
 | .cho a b c=>jo P a∧jo P b∧jo P c
 | .lt w a b=>P w∧jo P a∧jo P b
 | .st0 _=>True
 | .st1 _ a=>jo P a
 | .st2 _ a b=>jo P a∧jo P b
abbrev RE:=T×List Str
def kU:RE→List RE
 | (.num _,_)=>[]
 | (.name _,_)=>[]
 | (.sum a b,o)=>[(a,o),(b,o)]
 | (.less a b,o)=>[(a,o),(b,o)]
 | (.cho a b c,o)=>[(a,o),(b,o),(c,o)]
 | (.lt w a b,o)=>[(a,o),(b,o++[w])]
 | (.st0 _,_)=>[]
 | (.st1 _ a,o)=>[(a,o)]
 | (.st2 _ a b,o)=>[(a,o),(b,o)]
theorem oC(e:RE):(kU e).map Prod.fst=e.1.kids:=by obtain⟨t,o⟩:=e;cases t<;>rfl
theorem lq(e:RE):(kU e).length=e.1.kids.length:=by rw[←oC,aX]
abbrev zi(z:Str)(e:RE):T:=jc z e.2 e.1
theorem Du(z:Str)(e:RE):(zi z e).kids=(kU e).map (zi z):=by
 obtain⟨t,o⟩:=e;cases t<;>(try rfl)
 unfold zi;rw[jc];split<;>rfl
inductive qh:List RE→List RE→Prop where
 | nil:qh [] []
 | cons{e:RE}{r o:List RE}:qh (kU e++r) o→qh (e::r) (e::o)
abbrev E1(F:List RE):Nat:=eu (F.map Prod.fst)
theorem x5:∀(n:Nat)(F:List RE),E1 F≤n→∃o,qh F o∧o.length=E1 F
 | _,[],_=>⟨[],.nil,rfl⟩
 | 0,e::r,h=>by have:=e.1.size_pos;unfold E1 at h;rw[aW,fm]at h;lia
 | n+1,e::r,h=>by have hk:=jD e.1;unfold E1 at h⊢;rw[aW,fm]at h;obtain⟨o,h1,h2⟩:=x5 n (kU e++r) (by unfold E1;rw[bq,fC,oC];lia);refine⟨e::o,.cons h1,?_⟩;unfold E1 at h2;rw[aE,h2,bq,fC,oC,aW,fm];lia
theorem qh.uniq:∀{o F F':List RE},qh F o→qh F' o→F=F'
 | _,_,_,.nil,.nil=>rfl
 | _,_,_,.cons (e:=e) (r:=r) a,.cons (r:=r') b=>by have:=qh.uniq a b;rw[List.append_cancel_left this]
theorem qh.drop:∀{F o:List RE}(j:Nat),qh F o→∃F',qh F' (o.drop j)
 | F,o,0,h=>⟨F,h⟩
 | _,_,j+1,.nil=>⟨[],.nil⟩
 | _,_,j+1,.cons a=>qh.drop j a
theorem qh.back(h:qh F o)(he:o[j]?=some e)(g:qh G (o.drop (j+1))):∃r,G=kU e++r∧qh (e::r) (o.drop j):=by
 obtain⟨hj,ee⟩:=aK.mp he;have hd:o.drop j=e::o.drop (j+1):=by rw[bM hj,ee]
 obtain⟨F',f⟩:=h.drop j;rw[hd]at f;cases f with
 | cons a=>exact⟨_,g.uniq a,by rw[hd];exact .cons a⟩
theorem qh.len:∀{F o:List RE},qh F o→F.length≤o.length
 | _,_,.nil=>aC _
 | _,_,.cons a=>by have:=qh.len a;rw[aD]at this;rw[aE,aE];lia
end S8
namespace S8
open PySem L2 SW S9
variable {W:List (T×List kx)}{ws0 ws ws':List Str}{bo:Bo}{t:T}
inductive SB(a:Nat):NT→Prop where
 | mk{k:Str}{x:V}{src:Str}{path:List Int}{ks:List NT}:(k="stamp"→(∃w,x=.str w∧kn w=some ks.length)∧1+fj ks≤5*a∧(x=.str "st"→1+fj ks≤a))→(∀n∈ks,SB a n)→SB a (.mk k x src path ks)
theorem SB.inv(h:SB a (.mk k x src path ks)):(k="stamp"→(∃w,x=.str w∧kn w=some ks.length)∧1+fj ks≤5*a∧(x=.str "st"→1+fj ks≤a))∧∀n∈ks,SB a n:=by cases h with|mk p q=>exact⟨p,q⟩
theorem SB.leaf{a:Nat}{k:Str}{x:V}{src:Str}{path:List Int}(h:k≠"stamp"):SB a (.mk k x src path []):=.mk (λz=>absurd z h) (by simp)
theorem pI:∀{ks:List NT},n∈ks→gn n≤fj ks
 | x::ks,h=>by
  rw[fj];rcases aB.mp h with rfl|h
  ·lia
  ·have:=pI h;lia
theorem uW:∀{ks:List NT}{i:Nat}{n:NT},ks[i]?=some n→fj (ks.set i m)+gn n=fj ks+gn m
 | [],_,_,h=>by simp at h
 | x::ks,0,n,h=>by cases h;simp only[List.set_cons_zero,fj];lia
 | x::ks,i+1,n,h=>by have:=uW (m:=m) (ks:=ks) (i:=i) (n:=n) (by simpa using h);simp only[List.set_cons_succ,fj];lia
theorem xk:∀{p:List Nat}{n m:NT},getN n p=some m→gn (putN n p m')+gn m=gn n+gn m'
 | [],n,m,e=>by cases n;cases e;rw[putN];lia
 | i::p,.mk k x src path ks,m,e=>by
  rw[getN]at e;cases e2:ks[i]? with
  | none=>rw[e2]at e;cases e
  | some n=>rw[e2]at e;have h1:=xk (m':=m') e;have h2:=uW (m:=putN n p m') e2;simp only[putN,e2,gn];lia
theorem A5(hm:SB a m'):∀{p:List Nat}{n:NT},SB a n→fst n=some p→SB a (putN n p m')
 | [],n,_,_=>by cases n;exact hm
 | i::p,.mk k x src path ks,h,e=>by
  rcases qV e with⟨_,z⟩|⟨hk,j,q,m,e1,e2,e3⟩
  ·cases z
  ·cases e1;refine .mk (λz=>absurd z hk) λy hy=>?_;rw[e2]at hy;rcases ck hy with z|rfl
   ·exact h.inv.2 y z
   ·exact A5 hm (h.inv.2 m (aZ e2)) e3
theorem vV:∀{p:List Nat}{n m:NT},SB a n→getN n p=some m→SB a m
 | [],n,m,h,e=>by cases n;cases e;exact h
 | i::p,.mk k x src path ks,m,.mk h1 h2,e=>by
  rw[getN]at e;cases e2:ks[i]? with
  | none=>rw[e2]at e;cases e
  | some n=>rw[e2]at e;exact vV (h2 n (aZ e2)) e
theorem xx:∀{p:List Nat}{n:NT},fst n=some p→∃m,getN n p=some m∧KY m
 | [],.mk k x src path ks,e=>by
  rcases qV e with⟨h,_⟩|⟨_,j,q,m,e1,_⟩
  ·exact⟨_,rfl,h⟩
  ·cases e1
 | i::p,.mk k x src path ks,e=>by
  rcases qV e with⟨_,z⟩|⟨hk,j,q,m,e1,e2,e3⟩
  ·cases z
  ·cases e1;obtain⟨m2,h1,h2⟩:=xx e3;exact⟨m2,by rw[getN,e2];exact h1,h2⟩
theorem jW(hM:1≤M)(hg:∀w g,giv w=some g→gn g≤M):∀(t:T)(p:List Int)(o:Ow)(i:Nat),gn (nt c src giv t p o i)+t.names.length≤t.size+t.names.length*M
 | .num n,p,o,i=>by simp[nt,eQ,gn,fj,T.names,T.size]
 | .name w,p,o,i=>by
  simp only[nt,eQ,T.names,T.size,bA,bu];cases o w with
  | some x=>simp only[gn,fj];lia
  | none=>cases hw:giv w with
   | none=>simp only[gn,fj];lia
   | some g=>have:=hg w g hw;simp only;lia
 | .sum a b,p,o,i=>by have:=jW (c:=c) (src:=src) hM hg a (p++[0]) o (i+1);have:=jW (c:=c) (src:=src) hM hg b (p++[1]) o (i+1+a.size);simp only[nt,eQ,gn,fj,T.names,T.size,aD,aq];lia
 | .less a b,p,o,i=>by have:=jW (c:=c) (src:=src) hM hg a (p++[0]) o (i+1);have:=jW (c:=c) (src:=src) hM hg b (p++[1]) o (i+1+a.size);simp only[nt,eQ,gn,fj,T.names,T.size,aD,aq];lia
 | .cho a b d,p,o,i=>by have:=jW (c:=c) (src:=src) hM hg a (p++[0]) o (i+1);have:=jW (c:=c) (src:=src) hM hg b (p++[1]) o (i+1+a.size);have:=jW (c:=c) (src:=src) hM hg d (p++[2]) o (i+1+a.size+b.size);simp only[nt,eQ,gn,fj,T.names,T.size,aD,aq];lia
 | .lt w a b,p,o,i=>by have:=jW (c:=c) (src:=src) hM hg a (p++[0]) o (i+1);have:=jW (c:=c) (src:=src) hM hg b (p++[1]) (Ow.put o w (c+((i+1:Nat):Int))) (i+1+a.size);simp only[nt,eQ,gn,fj,T.names,T.size,aD,aq];lia
 | .st0 w,p,o,i=>by simp[nt,eQ,gn,fj,T.names,T.size]
 | .st1 w a,p,o,i=>by have:=jW (c:=c) (src:=src) hM hg a (p++[0]) o (i+1);simp only[nt,eQ,gn,fj,T.names,T.size];lia
 | .st2 w a b,p,o,i=>by have:=jW (c:=c) (src:=src) hM hg a (p++[0]) o (i+1);have:=jW (c:=c) (src:=src) hM hg b (p++[1]) o (i+1+a.size);simp only[nt,eQ,gn,fj,T.names,T.size,aD,aq];lia
def LH(a z:Nat)(S:Str→Nat→Prop):Prop:=(∀w k,S w k→k=0∧w≠"st")∨(z≤5*a∧((∀w k,S w k→w≠"st")∨z≤a))
theorem LH.le(h:LH a z S)(hz:z'≤z):LH a z' S:=by
 rcases h with h|⟨h,h2⟩
 ·exact .inl h
 ·exact .inr ⟨by lia,h2.imp id λq=>by lia⟩
theorem sn:("name":Str)≠"stamp":=by decide
theorem jX{giv:Gi}{c:Int}{src:Str}{a:Nat}{S:Str→Nat→Prop}(ha:1≤a)(hg:∀w g,giv w=some g→SB a g)(hS:∀w k,S w k→kn w=some k):∀(t:T)(p:List Int)(o:Ow)(i:Nat),WT S t→LH a (gn (nt c src giv t p o i)) S→SB a (nt c src giv t p o i)
 | .num n,p,o,i,_,_=>.leaf (by decide)
 | .name w,p,o,i,_,_=>by
  simp only[nt,eQ];cases o w with
  | some x=>exact .leaf sn
  | none=>cases hw:giv w with
   | none=>exact .leaf sn
   | some g=>exact hg w g hw
 | .sum x y,p,o,i,w,h=>by simp only[nt,eQ,gn,fj]at h;have h1:=jX (c:=c) (src:=src) ha hg hS x (p++[0]) o (i+1) w.1 (h.le (by lia));have h2:=jX (c:=c) (src:=src) ha hg hS y (p++[1]) o (i+1+x.size) w.2 (h.le (by lia));exact .mk (λz=>absurd z (by decide)) (by simp[h1,h2])
 | .less x y,p,o,i,w,h=>by simp only[nt,eQ,gn,fj]at h;have h1:=jX (c:=c) (src:=src) ha hg hS x (p++[0]) o (i+1) w.1 (h.le (by lia));have h2:=jX (c:=c) (src:=src) ha hg hS y (p++[1]) o (i+1+x.size) w.2 (h.le (by lia));exact .mk (λz=>absurd z (by decide)) (by simp[h1,h2])
 | .cho x y q,p,o,i,w,h=>by simp only[nt,eQ,gn,fj]at h;have h1:=jX (c:=c) (src:=src) ha hg hS x (p++[0]) o (i+1) w.1 (h.le (by lia));have h2:=jX (c:=c) (src:=src) ha hg hS y (p++[1]) o (i+1+x.size) w.2.1 (h.le (by lia));have h3:=jX (c:=c) (src:=src) ha hg hS q (p++[2]) o (i+1+x.size+y.size) w.2.2 (h.le (by lia));exact .mk (λz=>absurd z (by decide)) (by simp[h1,h2,h3])
 | .lt v x y,p,o,i,w,h=>by
  simp only[nt,eQ,gn,fj]at h;have h1:=jX (c:=c) (src:=src) ha hg hS x (p++[0]) o (i+1) w.2.1 (h.le (by lia));have h2:=jX (c:=c) (src:=src) ha hg hS y (p++[1]) (Ow.put o v (c+((i+1:Nat):Int))) (i+1+x.size) w.2.2 (h.le (by lia));exact .mk (λz=>absurd z (by decide)) (λn hn=>by
   simp only[aB,aF,or_false]at hn;rcases hn with rfl|rfl
   ·exact h1
   ·exact h2)
 | .st0 v,p,o,i,w,h=>by simp only[nt,eQ,gn,fj]at h⊢;exact .mk (λ_=>⟨⟨v,rfl,hS _ _ w⟩,by simp only[fj];lia,λ_=>by simp only[fj];lia⟩) (by simp)
 | .st1 v x,p,o,i,w,h=>by
  simp only[nt,eQ,gn,fj]at h;have h1:=jX (c:=c) (src:=src) ha hg hS x (p++[0]) o (i+1) w.2 (h.le (by lia));rcases h with h|⟨h,h3⟩
  ·exact absurd (h _ _ w.1).1 (by decide)
  ·refine .mk (λ_=>⟨⟨v,rfl,hS _ _ w.1⟩,by simp only[fj];lia,λe=>?_⟩) (by simp[h1]);rcases h3 with h3|h3
   ·cases e;exact absurd rfl (h3 _ _ w.1)
   ·simp only[fj];lia
 | .st2 v x y,p,o,i,w,h=>by
  simp only[nt,eQ,gn,fj]at h;have h1:=jX (c:=c) (src:=src) ha hg hS x (p++[0]) o (i+1) w.2.1 (h.le (by lia));have h2:=jX (c:=c) (src:=src) ha hg hS y (p++[1]) o (i+1+x.size) w.2.2 (h.le (by lia));rcases h with h|⟨h,h3⟩
  ·exact absurd (h _ _ w.1).1 (by decide)
  ·refine .mk (λ_=>⟨⟨v,rfl,hS _ _ w.1⟩,by simp only[fj];lia,λe=>?_⟩) (by simp[h1,h2]);rcases h3 with h3|h3
   ·cases e;exact absurd rfl (h3 _ _ w.1)
   ·simp only[fj];lia
structure tY(bo:Bo):Prop where
 w1:WT (λ_ _=>False) bo.x
 w2:WT (λw k=>w="star"∧k=0) bo.y
 w3:WT (λw k=>(w="star"∧k=0)∨(w="sta"∧k=1)) bo.z
 z1:bo.x.size≤4
 z2:bo.y.size≤8∧bo.y.names.length≤4
 z3:bo.z.size≤10∧bo.z.names.length≤5
theorem EY:kn "star"=some 0:=if_pos rfl
theorem IX:kn "sta"=some 1:=by unfold kn;rw[if_neg (by decide),if_pos rfl]
theorem CU(K:tY bo)(B:we bo w ks giv body):gn (nt c w giv body [] Ow.none 0)≤5*(1+fj ks):=by
 cases B with
 | star=>have:=jW (giv:=oH) (c:=c) (src:="star") (aC 1) (λw g e=>by cases e) bo.x [] Ow.none 0;have:=K.z1;simp only[fj];lia
 | @sta g=>
  have hg:1≤gn g:=by cases g;rw[gn];lia
  have:=jW (giv:=FP bo.e g) (c:=c) (src:="sta") (M:=gn g) hg (nE (bo:=bo) .sta λn hn=>by rw[aG]at hn;rw[hn];exact aC _) bo.y [] Ow.none 0;obtain⟨z1,z2⟩:=K.z2;obtain⟨j,hj⟩:=Nat.le.dest hg;have h6:bo.y.names.length*gn g=bo.y.names.length+bo.y.names.length*j:=by rw[←hj,cb,Nat.mul_one]
  have h7:=KO (M:=j) z2;simp only[fj];lia
 | @st g h=>
  have hg:1≤gn g:=by cases g;rw[gn];lia
  have hh:1≤gn h:=by cases h;rw[gn];lia
  obtain⟨j,hj⟩:=Nat.le.dest (show 2≤gn g+gn h by lia);have:=jW (giv:=Ck bo.e g h) (c:=c) (src:="st") (M:=1+j) (by lia) (nE (bo:=bo) .st λn hn=>by
   simp only[aB,aF,or_false]at hn;rcases hn with rfl|rfl<;>lia) bo.z [] Ow.none 0
  obtain⟨z1,z2⟩:=K.z3;rw[cb,Nat.mul_one]at this;have h7:=KO (M:=j) z2;simp only[fj];lia
theorem Im(ha:1≤a)(K:tY bo)(B:we bo w ks giv body)(h:SB a (.mk "stamp" (.str w) src path ks)):SB a (nt c w giv body [] Ow.none 0):=by
 have hz:=CU (c:=c) K B;have hg:=nE B h.inv.2;have hi:=h.inv.1 rfl;cases B with
 | star=>exact jX ha hg (λw k z=>z.elim) bo.x [] Ow.none 0 K.w1 (.inl λw k z=>z.elim)
 | sta=>exact jX ha hg (λw k z=>by obtain⟨rfl,rfl⟩:=z;exact EY) bo.y [] Ow.none 0 K.w2 (.inl λw k z=>⟨z.2,by rw[z.1];decide⟩)
 | st=>have:=hi.2.2 rfl;exact jX ha hg (λw k z=>by rcases z with⟨rfl,rfl⟩|⟨rfl,rfl⟩;exact EY;exact IX) bo.z [] Ow.none 0 K.w3 (.inr ⟨by lia,.inl λw k z=>by rcases z with⟨rfl,_⟩|⟨rfl,_⟩<;>decide⟩)
theorem ud(K:tY bo)(w:WT SF t)(h:Ly bo t k n c):SB t.size n∧gn n≤t.size+k*(20*t.size):=by
 have ha:=t.size_pos;induction h with
 | zero=>
  have:=jW (giv:=oH) (c:=0) (src:="") (aC 1) (λw g e=>by cases e) t [] Ow.none 0;have hz:gn (nt 0 "" oH t [] Ow.none 0)≤t.size:=by lia
  exact⟨jX ha (λw g e=>by cases e) (λw k z=>z) t [] Ow.none 0 w (.inr ⟨by lia,.inr hz⟩),by lia⟩
 | @succ k n c p w src path ks giv body _ f1 g1 B ih=>have sm:=vV ih.1 g1;have h1:=CU (c:=c) K B;have h2:=xk (m':=nt c w giv body [] Ow.none 0) g1;have h3:=(sm.inv.1 rfl).2.1;have h4:=ih.2;refine⟨A5 (Im ha K B sm) ih.1 f1,?_⟩;rw[aq,bu];simp only[gn]at h2;lia
theorem KR(K:tY bo)(w:WT SF t)(h:Ly bo t k n c)(e:fst n=some p):∃w src path ks giv body,getN n p=some (.mk "stamp" (.str w) src path ks)∧we bo w ks giv body:=by
 obtain⟨m,h1,h2⟩:=xx e;have sm:=vV (ud K w h).1 h1;obtain⟨k',x,src,path,ks⟩:=m;have h2:k'="stamp":=h2;subst h2;obtain⟨⟨v,rfl,hf⟩,_⟩:=sm.inv.1 rfl;unfold kn at hf;split at hf
 ·rename_i hv;subst hv;cases ks with
  | nil=>exact⟨_,_,_,_,_,_,h1,.star⟩
  | cons=>simp at hf
 ·split at hf
  ·rename_i hv;subst hv
   match ks,hf with
   | [g],_=>exact⟨_,_,_,_,_,_,h1,.sta⟩
  ·split at hf
   ·rename_i hv;subst hv
    match ks,hf with
    | [g,h],_=>exact⟨_,_,_,_,_,_,h1,.st⟩
   ·cases hf
theorem Bf(h:tT bo true rd ws s s' rd' ws')(o:s.ok (Rf rd)):
  ∃x,rd'=rd++x∧k6 x≤s.wt 0∧mN x≤k6 x∧ws'.length≤ws.length+mN x:=by
 cases h with
 | star e=>exact⟨[],(aa _).symm,aS _,aC _,aC _⟩
 | @sta a m _ _ e h1=>
  have ok1:(s.kid 0 a).ok (Rf rd):=kE o (by rw[e];simp[T.kids]);obtain⟨x,rfl,h2,h3,h4⟩:=sV h1 ok1;have ew:s.wt 0=1+(s.kid 0 a).wt 0:=by unfold eE.wt;rw[e];rfl
  exact⟨x,rfl,by lia,h3,h4⟩
 | @st a b m n rd1 rd2 ws1 ws2 e h1 h2=>
  have ok1:(s.kid 0 a).ok (Rf rd):=kE o (by rw[e];simp[T.kids]);have ok2:(s.kid 1 b).ok (Rf rd):=kE o (by rw[e];simp[T.kids]);obtain⟨x,rfl,x2,x3,x4⟩:=sV h1 ok1;have ok3:(s.kid 1 b).ok (Rf (rd++x)):=eE.ok_mono (Rf.mono x) ok2;obtain⟨y,rfl,y2,y3,y4⟩:=sV h2 ok3;have ew:s.wt 0=1+(s.kid 0 a).wt 0+(s.kid 1 b).wt 0:=by unfold eE.wt;rw[e];rfl
  refine⟨x++y,aV _ _ _,?_,?_,?_⟩
  ·rw[jr];lia
  ·rw[jr,jt];lia
  ·rw[jt];lia
structure M3(B w0:Nat)(st:ou):Prop where
 wt:la 0 st.S+k0 st.R≤B
 rd:k6 st.rd≤st.k*B
 sl:mN st.rd≤k6 st.rd
 ws:st.ws.length≤w0+st.R.length+mN st.rd
theorem BI{F B n1:Nat}{st0 st:ou}(BK:tV bo)(hB:∀st,tX bo F st0 st→st.k≤F→la 0 st.S+k0 st.R≤B)(h:tX bo F st0 st)(I:eV F n1 st0)(z1:st0.rd=[])(z2:st0.R=[]):st.k≤F→M3 B st0.ws.length st:=by
 induction h with
 | refl=>intro hk;exact⟨hB _ .refl hk,by rw[z1];exact aS _,by rw[z1];exact aC _,by lia⟩
 | @step st1 st2 r hk1 a ih=>
  intro hk;have hB2:=hB _ (.step r hk1 a) hk;have I1:=pH BK r I;have J:=ih hk1;cases a with
  | @take S Q s R rs k ws ws' rd a=>have h2:=AE a;obtain⟨j1,j2,j3,j4⟩:=J;exact⟨hB2,j2,j3,by simp only[aD]at j4⊢;lia⟩
  | @opn S s s' R k ws ws' rd rd' a=>
   have hk:k+1≤F:=hk;rw[show decide (k+1≤F)=true from decide_eq_true hk]at a;have os:=I1.so s (aO _ (.head _));obtain⟨x,rfl,h2,h3,h4⟩:=Bf a os;obtain⟨j1,j2,j3,j4⟩:=J;simp only[gD,gu]at j1 j2 j3 j4;refine⟨hB2,?_,?_,?_⟩
   ·show k6 (rd++x)≤(k+1)*B;rw[jr,aq,bu];lia
   ·show mN (rd++x)≤k6 (rd++x);rw[jr,jt];lia
   ·show ws'.length≤_+R.length+mN (rd++x);rw[jt];lia
theorem Az{F k:Nat}{st:ou}(K:tY bo)(BK:tV bo)(w:WT SF t)(bt:BT t [] 0)(O:wX bo ws0)(ht:∀w,t.out w→w∈ws0)(hz:t.size≤40)(hw:ws0.length≤252)(hK:∀j n c,Ly bo t j n c→j≤F→j≤10)(h:tX bo F (st0 t ws0) st)(hk:st.k≤F):Cd st:=by
 have bound:∀st,tX bo F (st0 t ws0) st→st.k≤F→st.k≤10∧la 0 st.S+k0 st.R≤10000:=λst h hk=>by obtain⟨n,c,W,S⟩:=sL O ht h hk;have h1:=hK _ _ _ S.ly hk;have h2:=(ud K w S.ly).2;have h3:=JO S.tr;rw[ka,JL,JK,rR]at h3;have h4:st.k*(20*t.size)≤10*(20*t.size):=bV _ h1;lia
 have I:=kX (F:=F) (ws:=ws0) bt;have J:=BI BK (λst h hk=>(bound st h hk).2) h I rfl rfl hk;obtain⟨h1,h2⟩:=bound st h hk;have h3:=kZ (pH BK h I).ro;obtain⟨j1,j2,j3,j4⟩:=J;have j4:st.ws.length≤ws0.length+st.R.length+mN st.rd:=j4;have h4:st.k*10000≤10*10000:=bV _ h1;refine⟨by lia,by lia,by lia,λR hR=>?_⟩;have:=uH hR;lia
end S8
namespace L2
open PySem PySem.Spec PyProof.Rows
section
variable {prog:Program}{w:World}{A:Around}{s:Shared}{R:Result→Shared→Prop}
theorem tG(J:Nat→Shared→Prop)
  (turn:∀n s,J n s→wpAny (model prog w) A (pyNext it) (λr s1=>match r with
   | none=>R (.ok .next) s1
   | some v=>wpAny (model prog w) A (letOwnedTupleGo tg it v) (λ_ s2=>wpAny (model prog w) A (assign tg env v) (λ_ s3=>wpAny (model prog w) A (forIn ifs true λc r=>if r=true then do let ok ← isTrue c env (eval c env);pure (ForInStep.yield ok)else pure (ForInStep.yield r)) (λok s6=>if ok=true then wpAny (model prog w) A (eval elt env) (λx s4=>
     wpAny (model prog w) A (call (.builtin "list.append") [acc,x]) (λ_ s5=>∃m,m<n∧J m s5) (notedBy (model prog w) A env λe s'=>R (.error e) s') s4) (notedBy (model prog w) A env λe s'=>R (.error e) s') s6 else ∃m,m<n∧J m s6) (notedBy (model prog w) A env λe s'=>R (.error e) s') s3) (notedBy (model prog w) A env λe s'=>R (.error e) s') s2) (notedBy (model prog w) A env λe s'=>R (.error e) s') s1) (notedBy (model prog w) A env λe s'=>R (.error e) s') s)
  (n:Nat) (h:J n s):codeAny (model prog w) A (.compLoop (.ListComp elt [⟨tg,iter,ifs,0⟩] scope pos) 0 it acc env) R s:=by
 refine codeAny_loop rfl J (λn s hJ=>?_) n h;show wpAny _ A ((compTurn (.ListComp elt [⟨tg,iter,ifs,0⟩] scope pos) 0 it acc env).onRaise (λx=>do noteFrame x env;theTreesLotGoes x)) _ _ s;refine wpAny_noted ?_;rw[compTurn_list];refine wpAny_bind (wpAny_standAt (wpAny_bind (wpAny_mono (turn n s hJ) (λr s1 h1=>?_) λ_ _ z=>z)));cases r with
 | none=>exact wpAny_pure h1
 | some v=>
  refine wpAny_bind (wpAny_mono h1 (λ_ s2 h2=>wpAny_bind (wpAny_mono h2 (λ_ s3 h3=>wpAny_bind (wpAny_mono h3 (λok s6 h6=>?_) λ_ _ z=>z)) λ_ _ z=>z)) λ_ _ z=>z);cases ok with
  | false=>exact wpAny_pure ⟨rfl,h6⟩
  | true=>exact wpAny_bind (wpAny_bind (wpAny_mono h6 (λx s4 h4=>wpAny_bind (wpAny_mono h4 (λ_ s5 h5=>wpAny_pure (wpAny_pure ⟨rfl,h5⟩)) λ_ _ z=>z)) λ_ _ z=>z))
end
def LI(X:Cx)(ifs:List Expr)(t:TT):Prop:=
 ∀(pins:List (Addr×Obj))(s:Shared)(σ:St)(H:Hp)(Q:Bool→Hp→Prop),eV X pins σ H s→t σ H Q→wpAny (model X.prog X.w) X.A (forIn ifs true λc r=>if r=true then do let ok ← isTrue c X.env (eval c X.env);pure (ForInStep.yield ok)else pure (ForInStep.yield r)) (TP X pins σ Q) X.xe s
def HS:TT:=λ_ H Q=>Q true H
theorem xf:LI X [] HS:=λpins s σ H Q I h=>wpAny_tests_nil ⟨H,I,h⟩
theorem D2(h:PT X c t):LI X [c] t:=λpins s σ H Q I z=>wpAny_tests_one (h pins s σ H Q I z)
def HU(k:Nat)(wi:TI)(g:TG)(tt:TT)(te:TE)(js:List Nat):TE:=λσ H Q=>wi σ H λJ H1=>∃W:Nat→Nat→List V→Hp→Prop,(∃m,W 0 m [] H1)∧∀i m vs H,W i m vs H→
 (J.stop i H∧vs.length≤sizeLine∧lA H (.lst vs) Q)∨
 (J.go i H∧∀x H',J.yld i H x H'→∀os:St,os.length=k→g x (os++CA σ js) H' λσ2 H2=>(∃os:St,os.length=k∧σ2=os++CA σ js)∧tt σ2 H2 λc H3=>if c=true then te σ2 H3 λy H''=>vs.length<sizeLine∧∃m',m'<m∧W (i+1) m' (vs++[y]) H'' else ∃m',m'<m∧W (i+1) m' vs H3)
theorem EU{use:Option (Value→Sem Unit)}{Q':Value→Shared→Prop}{cpos:Pos}{pins:List (Addr×Obj)}{s:Shared}{σ:St}{H:Hp}{Q:VK}(hc:X.calm=true)(S:jO X scope cl (x::xr) ys js)(hi:PI X tg iter wi)
  (hg:∀(fp:List Addr)(s:Shared)(H:Hp)(C:Addr),PG (iC X scope cl (x::(xr++ys)) fp s H C) tg g)
  (ht:∀(fp:List Addr)(s:Shared)(H:Hp)(C:Addr),LI (iC X scope cl (x::(xr++ys)) fp s H C) ifs tt)
  (he:∀(fp:List Addr)(s:Shared)(H:Hp)(C:Addr),PE (iC X scope cl (x::(xr++ys)) fp s H C) elt te) (hs:∀x,foldedSetIterable iter X.env x=pure x) (I:eV X pins σ H s) (h:HU (x::xr).length wi g tt te js σ H Q)
  (gf:∀(D C:Addr)(s2 s4:Shared)(H2 Hn:Hp),eV X pins σ H2 s2→s2.heap.objs.size≤C→(∃m,s4.heap.Ns C m)→Hn C=none→(∀h'',Heap.SameBut C s4.heap h''→eV X pins σ Hn {s4 with heap:=h''})→Q (.ref D) Hn→compPost (model X.prog X.w) X.A X.xe use Q' (.ref D) C (.ok .next) s4):
  wpAny (model X.prog X.w) X.A (comprehension (.ListComp elt [⟨tg,iter,ifs,0⟩] scope pos) scope X.env cpos (newList []) false (eval iter X.env) use) Q' X.xe s:=by
 refine wpAny_comprehension_free (use:=use) rfl hs S.clos S.kind S.names (thn (hi pins s σ H _ I h) λv s1 h1=>thn h1 λitv s2 h2=>?_);obtain⟨it,fp,tn,J,H2,e,I2,T,st2,f2,W,⟨m0,w0⟩,turn⟩:=h2;subst e;have fpb:∀b∈fp,b<s2.heap.objs.size:=λb hb=>by obtain⟨o,e,_⟩:=T.obj _ _ st2 b hb;exact Heap.lt_size e
 refine wpAny_newObj_type (wpAny_newFunctionEnv S.ncell (by intro y hy;simp at hy) (λh₁ hns₁ hsb₁=>?_) S.kind);dsimp only at hns₁ hsb₁⊢;generalize hH2:s2.heap.push {cls:=.type "list",dict:=none,data:=.seq ([]:List Value).toArray}=G2 at hns₁ hsb₁⊢;have hC:G2.objs.size=s2.heap.objs.size+1:=by rw[←hH2,Heap.size_push]
 have hDC:s2.heap.objs.size≠G2.objs.size:=by rw[hC];exact aM (b5 _)
 have hCle:s2.heap.objs.size≤G2.objs.size:=by rw[hC];exact bP _
 have below:∀b,b<s2.heap.objs.size→b≠G2.objs.size∧b≠s2.heap.objs.size:=λb hb=>⟨by rw[hC];exact aM (cZ hb),aM hb⟩;have old:∀b o,s2.heap.get? b=some o→h₁.get? b=some o:=λb o e=>hsb₁.extBut b o (below b (Heap.lt_size e)).1 (Heap.get?_push_of_some _ (hH2▸Heap.get?_push_of_some _ e));have hacc:h₁.get? s2.heap.objs.size=some (m6 [] 0):=hsb₁.extBut _ _ hDC (Heap.get?_push_of_some _ (hH2▸Heap.get?_push_size _ rfl));have st4:tn 0 h₁:=T.keep _ _ _ st2 λb _ o e=>old b o e;have I4:=λ(t':Nat)=>I2.compInT (t':=t') S f2 fpb hCle (aC _) hDC old hns₁ hacc;have loop:∀t':Nat,codeAny (model X.prog X.w) X.A (.compLoop (.ListComp elt [⟨tg,iter,ifs,0⟩] scope pos) 0 (.ref it) (.ref s2.heap.objs.size) (compEnvC scope cl G2.objs.size X.env))
   (compPost (model X.prog X.w) X.A X.xe use Q' (.ref s2.heap.objs.size) G2.objs.size) {s2 with heap:=h₁,toks:=t'}:=by
  intro t';refine tG (λn s'=>∃(i:Nat)(os:St)(H':Hp)(vs:List V)(its:List Value)(c:Nat),os.length=(x::xr).length∧eV (iC X scope cl (x::(xr++ys)) fp s2 H2 G2.objs.size) ((X.pn++pins)++[(s2.heap.objs.size,m6 its c)]) (os++CA σ js) H' s'∧tn i s'.heap∧(∀b∈fp,H' b=none)∧fE vs its∧W i n vs H') ?_ m0
   ⟨0,List.replicate (x::xr).length none,H2,[],[],0,cN,I4 t',st4,λb hb=>(f2 b hb).1,.nil,w0⟩
  rintro n s3 ⟨i,os,H3,vs,its,c,hos,I3,st3,fr3,rv,w3⟩;have stat:∀{H':Hp}{its':List Value}{c':Nat},(∀b∈fp,H' b=none)→∀b∈fp,oy (iC X scope cl (x::(xr++ys)) fp s2 H2 G2.objs.size) ((X.pn++pins)++[(s2.heap.objs.size,m6 its' c')]) H' b:=λhn b hb=>by
   obtain⟨_,h1,h2,h3,h4,h5⟩:=f2 b hb;refine⟨hn b hb,(below b (fpb b hb)).1,I2.nostk h1 h2,.inl hb,λy c e=>h4 y c (S.cells y c e),λp hp=>?_⟩;rcases aU.mp (show p∈(X.pn++pins)++[(s2.heap.objs.size,_)]from hp)with z|z
   ·exact h5 p z
   ·rw[aG]at z;subst z;exact ai (below b (fpb b hb)).2
  rcases turn i n vs H3 w3 with⟨stop,hz,q⟩|⟨go,step⟩
  ·refine thn (T.done (iC X scope cl (x::(xr++ys)) fp s2 H2 G2.objs.size) rfl rfl rfl hc i _ s3 _ H3 _ I3 (stat fr3) st3 stop) λr s4 ⟨hr,I5⟩=>?_;subst hr;obtain⟨mm,hn,_⟩:=I5.loc;have pD:=(I5.pin _ (aO _ (aO _ (aG.mpr rfl)))).2.1;exact gf _ _ s2 s4 H2 _ I2 hCle ⟨mm,hn⟩ (by rw[db (ai hDC)];exact I5.free) (λh'' hs''=>I2.compOut f2 hCle (aC _) hDC I5 (aO _ (aG.mpr rfl)) rv hz hs'') (q _ pD)
  ·refine thn (T.item (iC X scope cl (x::(xr++ys)) fp s2 H2 G2.objs.size) rfl rfl rfl hc i _ s3 _ H3 _ I3 (stat fr3) st3 go) λr s4 ⟨u,hr,h4⟩=>?_;subst hr;refine thn h4 λ_ s5 ⟨xv,H5,I5,r5,y5,st5,fr5⟩=>?_;have I5':=I5.pinned (stat fr5) (T.obj _ _ st5);refine wpAny_mono (hg fp s2 H2 G2.objs.size _ s5 _ H5 xv u _ I5' r5 (step xv H5 y5 os hos)) (λ_ s6 ⟨σ6,H6,I6,⟨ps,hps,e6⟩,h6⟩=>?_) (λ_ _ z=>False.elim z);subst e6;refine wpAny_mono (ht fp s2 H2 G2.objs.size _ s6 _ _ _ I6 h6) (λok s6 ⟨H6,I6,h6⟩=>?_) (λ_ _ z=>False.elim z);cases ok with
   | false=>
    obtain⟨m',hm,w7⟩:=h6;have I7a:eV (iC X scope cl (x::(xr++ys)) fp s2 H2 G2.objs.size) ((X.pn++pins)++[(s2.heap.objs.size,m6 its c)]) (ps++CA σ js) H6 s6:=I6.pins_of λp hp=>I6.pin p (aO _ (af _ hp));have pfp:∀b∈fp,∀o,s5.heap.get? b=some o→s6.heap.get? b=some o∧H6 b=none:=λb hb o e=>by have z:=I6.pin (b,o) (aO _ (aO _ (kj hb e)));exact⟨z.1,z.2.1⟩
    refine⟨m',hm,i+1,ps,H6,vs,its,c,hps,I7a,T.keep _ _ _ st5 λb hb o e=>(pfp b hb o e).1,λb hb=>?_,rv,w7⟩;obtain⟨o,e,_⟩:=T.obj _ _ st5 b hb;exact(pfp b hb o e).2
   | true=>
   have h6:=h6;refine wpAny_mono (he fp s2 H2 G2.objs.size _ s6 _ _ _ I6 h6) (λy s7 ⟨yv,H7,I7,r7,hz,m',hm,w7⟩=>?_) (λ_ _ z=>False.elim z);have mD:(s2.heap.objs.size,m6 its c)∈(X.pn++pins)++[(s2.heap.objs.size,m6 its c)]:=aO _ (aG.mpr rfl);have pD:=I7.pin (s2.heap.objs.size,m6 its c) (aO _ (af _ mD));have pfp:∀b∈fp,∀o,s5.heap.get? b=some o→s7.heap.get? b=some o∧H7 b=none:=λb hb o e=>by have z:=I7.pin (b,o) (aO _ (aO _ (kj hb e)));exact⟨z.1,z.2.1⟩
   refine append_at pD.1 (λh8 hs8 hD8=>?_) (by rw[aP,←rv.length];exact bN hz);have I7a:eV (iC X scope cl (x::(xr++ys)) fp s2 H2 G2.objs.size) (X.pn++pins) (ps++CA σ js) H7 s7:=I7.pins_of λp hp=>I7.pin p (aO _ (af _ (af _ hp)));have I8:=I7a.turned (t':=s7.toks) (it:=s2.heap.objs.size) (λb o hb e=>(hs8.2 b hb).trans e) pD.2.1 pD.2.2.1 (.inr (aC _)) (λz cc e=>by
     obtain⟨v,o,e1,e2⟩:=I2.cell z cc (S.cells z cc e);exact aM (Heap.lt_size e1)) (λp hp=>by
     obtain⟨e1,_⟩:=I2.pin p hp;exact aM (Heap.lt_size e1))
   refine⟨m',hm,i+1,ps,H7,vs++[yv],its++[y],c+1,hps,I8.pins_of λp hp=>?_,?_,λb hb=>?_,fE.append rv (.cons r7 .nil),w7⟩
   ·rcases aU.mp hp with z|z
    ·exact I8.pin p (aO _ z)
    ·rw[aG]at z;subst z;refine⟨?_,pD.2.1,pD.2.2.1,pD.2.2.2.1,λv z=>by cases(show Data.seq _ _=Data.cell v from z)⟩;rw[show m6 (its++[y]) (c+1)={cls:=.type "list",data:=.seq (its.toArray.push y) (c+1)} by unfold m6;rw[List.push_toArray]];exact hD8
   ·exact T.keep _ _ _ st5 λb hb o e=>(hs8.2 b (aM (fpb b hb))).trans (pfp b hb o e).1
   ·obtain⟨o,e,_⟩:=T.obj _ _ st5 b hb;exact(pfp b hb o e).2
 exact codeAny_compStart_list (loop _) (T.self _ 0 _ _ _ st4 (loop _))
theorem vq(hc:X.calm=true)(S:jO X scope cl (x::xr) ys js)(hi:PI X tg iter wi)
  (hg:∀(fp:List Addr)(s:Shared)(H:Hp)(C:Addr),PG (iC X scope cl (x::(xr++ys)) fp s H C) tg g)
  (ht:∀(fp:List Addr)(s:Shared)(H:Hp)(C:Addr),LI (iC X scope cl (x::(xr++ys)) fp s H C) ifs tt)
  (he:∀(fp:List Addr)(s:Shared)(H:Hp)(C:Addr),PE (iC X scope cl (x::(xr++ys)) fp s H C) elt te) (hs:∀x,foldedSetIterable iter X.env x=pure x:=by intro _;rfl):
  PE X (.ListComp elt [⟨tg,iter,ifs,0⟩] scope pos) (HU (x::xr).length wi g tt te js):=by
 intro pins s σ H Q I h;rw[eval_ListComp];exact EU hc S hi hg ht he hs I h λD C s2 s4 H2 Hn I2 hC hn hCn hI q=>hn.elim λm hn=>⟨m,hn,λh'' hs''=>⟨.ref D,_,hI h'' hs'',rfl,q⟩⟩
def N6(wi:TI):TI:=λσ H R=>∃R0,wi σ H R0∧∀J H',R0 J H'→R J H'
theorem FD(h:PI X tg iter wi):PI X tg iter (N6 wi):=λpins s σ H R I ⟨R0,h1,h2⟩=>
 thn (h pins s σ H R0 I h1) λv s1 h3=>thn h3 λitv s2 ⟨it,fp,tn,J,H',e,I',T,st,f,r⟩=>⟨it,fp,tn,J,H',e,I',T,st,f,h2 _ _ r⟩
theorem BZ(hc:X.calm=true)(S:jO X scope cl [x] ys js)(hi:PI X (.Name x px) iter wi)
  (he:∀(fp:List Addr)(s:Shared)(H:Hp)(C:Addr),PE (iC X scope cl (x::ys) fp s H C) elt te) (nd:(x::ys).Nodup:=by decide) (loc:scope.names.lookup x=some .local:=by rfl) (hs:∀x,foldedSetIterable iter X.env x=pure x:=by intro _;rfl):
  PE X (.ListComp elt [⟨.Name x px,iter,[],0⟩] scope pos) (L3 wi te js):=by
 intro pins s σ H Q I h;refine vq (xr:=[]) hc S (FD hi) (λfp s H C=>mq (i:=0) nd rfl (bF (lookup_relabel_local loc)) (.inr (lookup_relabel_local loc))) (λfp s H C=>xf) he hs pins s σ H Q I ⟨_,h,λJ H1 z=>?_⟩;obtain⟨W,w0,turn⟩:=z;refine⟨W,w0,λi m vs H w=>(turn i m vs H w).imp id λz=>⟨z.1,λx H' y os hos=>?_⟩⟩
 match os,hos with
 | [o],_=>have q:=z.2 x H' y;refine⟨⟨[some x],rfl,rfl⟩,?_⟩;unfold HS;dsimp only;rw[if_pos rfl];exact q
theorem Ho(hc:X.calm=true)(S:jO X scope cl [x,x2] ys js)(hi:PI X tg iter wi)
  (hg:∀(fp:List Addr)(s:Shared)(H:Hp)(C:Addr),PG (iC X scope cl (x::x2::ys) fp s H C) tg g) (hgm:∀v σ H (Q Q':St→Hp→Prop),g v σ H Q→(∀σ' H',Q σ' H'→Q' σ' H')→g v σ H Q')
  (he:∀(fp:List Addr)(s:Shared)(H:Hp)(C:Addr),PE (iC X scope cl (x::x2::ys) fp s H C) elt te) (hs:∀x,foldedSetIterable iter X.env x=pure x:=by intro _;rfl):
  PE X (.ListComp elt [⟨tg,iter,[],0⟩] scope pos) (Ja wi g te js):=by
 intro pins s σ H Q I h;refine vq (xr:=[x2]) hc S (FD hi) hg (λfp s H C=>xf) he hs pins s σ H Q I ⟨_,h,λJ H1 z=>?_⟩;obtain⟨W,w0,turn⟩:=z;refine⟨W,w0,λi m vs H w=>(turn i m vs H w).imp id λz=>⟨z.1,λx H' y os hos=>?_⟩⟩
 match os,hos with
 | [o1,o2],_=>refine hgm _ _ _ _ _ (z.2 x H' y o1 o2) λσ' H2 q=>?_;obtain⟨⟨p1,p2,e⟩,q⟩:=q;refine⟨⟨[p1,p2],rfl,e⟩,?_⟩;unfold HS;dsimp only;rw[if_pos rfl];exact q
theorem sq{L:List (Str×NameKind)}{cl:List (Str×Addr)}{y:Str}(hL:∀p∈L,p.2=.cell∨p.2=.free→∃c,cl.lookup p.1=some c)(h:L.lookup y=some .cell∨L.lookup y=some .free):∃c,cl.lookup y=some c:=by
 have key:∀{k:NameKind}{L:List (Str×NameKind)},L.lookup y=some k→(y,k)∈L:=by
  intro k L;induction L with
  | nil=>intro h;cases h
  | cons p L ih=>
   intro h;rw[List.lookup_cons]at h;cases e:y==p.1 with
   | true=>rw[e]at h;cases h;have:=eq_of_beq e;subst this;exact .head _
   | false=>rw[e]at h;exact .tail _ (ih h)
 rcases h with h|h
 ·exact hL _ (key h) (.inl rfl)
 ·exact hL _ (key h) (.inr rfl)
end L2
namespace SW
open PySem L2
abbrev DK:=List (fI×V)
def ug:V→fI
 | .int i=>.inl i
 | .str s=>.inr s
 | _=>.inl 0
def sk(t:T)(x:V)(fo ba:DK):Prop:=match t with
 | .num m=>V.int m=x
 | .name w=>(fP fo (.inr w:fI)).getD (.str w)=x∧(fP ba (ug x)).getD (.str w)=.str w
 | _=>True
def oh(t:T)(x:V)(fo:DK)(j:Nat):DK:=match t,j with
 | .lt w _ _,1=>gA fo (.inr w:fI) x
 | _,_=>fo
def oi(t:T)(x:V)(ba:DK)(j:Nat):DK:=match t,j with
 | .lt w _ _,1=>gA ba (ug x) (.str w)
 | _,_=>ba
inductive ku:T→NT→DK→DK→Prop where
 | mk{t:T}{k:Str}{x:V}{src:Str}{path:List Int}{ks:List NT}{fo ba:DK}:kind t=k→sk t x fo ba→t.kids.length=ks.length→(∀(j:Nat) a n,t.kids[j]?=some a→ks[j]?=some n→ku a n (oh t x fo j) (oi t x ba j))→ku t (.mk k x src path ks) fo ba
theorem ku.inv:ku t (.mk k x src path ks) fo ba↔kind t=k∧sk t x fo ba∧t.kids.length=ks.length∧∀(j:Nat) a n,t.kids[j]?=some a→ks[j]?=some n→ku a n (oh t x fo j) (oi t x ba j):=by
 constructor
 ·intro h;cases h with
  | mk a b c d=>exact⟨a,b,c,d⟩
 ·rintro⟨a,b,c,d⟩;exact .mk a b c d
inductive vG:NT→Prop where
 | mk{k:Str}{x:V}{src:Str}{path:List Int}{ks:List NT}:(x=.non∨(∃i,x=.int i)∨∃s,x=.str s)→(k="name"→x≠.non)→(k="let"→∃i,x=.int i)→(∀n∈ks,vG n)→vG (.mk k x src path ks)
def zg(fo:DK):Prop:=∀(q:fI) v,fP fo q=some v→∃i,v=.int i
def zh(ba:DK):Prop:=∀(q:fI) v,fP ba q=some v→∃s,v=.str s
theorem zg.put(h:zg fo)(q:fI)(i:Int):zg (gA fo q (.int i)):=λq' v e=>by
 rw[jd]at e;by_cases z:q'=q
 ·rw[if_pos z]at e;cases e;exact⟨i,rfl⟩
 ·rw[if_neg z]at e;exact h q' v e
theorem zh.put(h:zh ba)(q:fI)(s:Str):zh (gA ba q (.str s)):=λq' v e=>by
 rw[jd]at e;by_cases z:q'=q
 ·rw[if_pos z]at e;cases e;exact⟨s,rfl⟩
 ·rw[if_neg z]at e;exact h q' v e
abbrev G4:=T×NT×DK×DK
def G4.ok(g:G4):Prop:=ku g.1 g.2.1 g.2.2.1 g.2.2.2
def Ky(H₀ H:Hp)(g:G4)(w:V):Prop:=∃(q fd bd:Addr)(v u:V),w=.ref q∧H q=some (.tup [v,u,.ref fd,.ref bd])∧gG H g.1 v∧lW H₀ g.2.1 u∧H fd=some (.dK g.2.2.1)∧H bd=some (.dK g.2.2.2)∧vG g.2.1∧zg g.2.2.1∧zh g.2.2.2∧g.2.2.1.length+g.1.size≤110000∧g.2.2.2.length+g.1.size≤110000
inductive GL(H₀ H:Hp):List G4→List V→Prop where
 | nil:GL H₀ H [] []
 | snoc{g:G4}{u:V}{gs:List G4}{us:List V}:GL H₀ H gs us→Ky H₀ H g u→GL H₀ H (g::gs) (us++[u])
theorem Ky.mono(m:fO H H')(k:vC H H')(h:Ky H₀ H g u):Ky H₀ H' g u:=by obtain⟨q,fd,bd,v,u,e,h1,h2,h3,h4,h5,r⟩:=h;exact⟨q,fd,bd,v,u,e,m _ _ h1,h2.mono m,h3,k _ _ h4,k _ _ h5,r⟩
theorem GL.mono(m:fO H H')(k:vC H H'):∀{gs:List G4}{us:List V},GL H₀ H gs us→GL H₀ H' gs us
 | _,_,.nil=>.nil
 | _,_,.snoc r a=>.snoc (GL.mono m k r) (a.mono m k)
theorem GL.length:∀{gs:List G4}{us:List V},GL H₀ H gs us→us.length=gs.length
 | _,_,.nil=>rfl
 | _,_,.snoc r _=>by rw[aD,aE,GL.length r];rfl
def vR(gs:List G4):Nat:=(gs.map λg=>g.1.size).sum
theorem mX(g:G4)(gs:List G4):vR (g::gs)=g.1.size+vR gs:=by simp[vR]
def qC:Sp:=λvs H Q _=>∃(t:T)(v u:V)(n:NT),vs=[v,u]∧gG H t v∧lW H n u∧vG n∧t.size≤100000∧∀(b:Bool)(H':Hp),dy H H'→(b=true↔ku t n [] [])→Q (.bl b) H'
end SW
namespace S3
open PySem L2 SW
def Gx(K:aA):TS:=(fT (tC (.bl false)))
def Gw(K:aA):TS:=(fg (eI (dz yx (dz (eC K) (dN 3) (tC (.int 0))) (dz (eC K) (dN 4) (tC (.int 0))))) (Gx K) fQ)
def Gv(K:aA):TS:=(fT (tC (.bl false)))
def Gu(K:aA):TS:=(fg (kH (eI (dz kA (dz (eC K) (dN 3) (tC (.int 0))) (tC (.str "number")))) (eI (dz yx (dz (eC K) (dN 3) (tC (.int 1))) (dz (eC K) (dN 4) (tC (.int 1)))))) (Gv K) fQ)
def Gr(K:aA):TS:=(fT (tC (.bl false)))
def Gq(K:aA):TS:=(fg (eI (dz yx (pZ (dN 5) (dz (eC K) (dN 3) (tC (.int 1))) (dz (eC K) (dN 3) (tC (.int 1)))) (dz (eC K) (dN 4) (tC (.int 1))))) (Gr K) fQ)
def Gp(K:aA):TS:=(fT (tC (.bl false)))
def Gn(K:aA):TS:=(fg (eI (dz yx (pZ (dN 6) (dz (eC K) (dN 4) (tC (.int 1))) (dz (eC K) (dN 3) (tC (.int 1)))) (dz (eC K) (dN 3) (tC (.int 1))))) (Gp K) fQ)
def Gm(K:aA):TS:=(de (Gq K) (Gn K))
def DO(K:aA):TS:=(fg (eI (dz kA (dz (eC K) (dN 3) (tC (.int 0))) (tC (.str "name")))) (Gm K) fQ)
def DN(K:aA):TS:=(fT (tC (.bl false)))
def wx(K:aA):TS:=(fg (eI (dz yx (gz (gN K) (dM (dN 7) dW)) (gz (gN K) (dM (dz (eC K) (dN 4) (tC (.int 3))) dW)))) (DN K) fQ)
def DM(K:aA):TS:=(de (eD (gz tK (dM (dN 5) dW)) (dX 9)) (de (lJ (dN 9) (dz (eC K) (dN 3) (tC (.int 1))) (dz (eC K) (dN 4) (tC (.int 1)))) (de (eD (gz tK (dM (dN 6) dW)) (dX 10)) (lJ (dN 10) (dz (eC K) (dN 4) (tC (.int 1))) (dz (eC K) (dN 3) (tC (.int 1)))))))
def DL(K:aA):TS:=(fg (kH (eI (dz kA (dz (eC K) (dN 3) (tC (.int 0))) (tC (.str "let")))) (eI (dz kA (dN 8) (tC (.int 1))))) (DM K) fQ)
def rY(K:aA):TS:=(de (eD (dN 5) (dX 9)) (de (eD (dN 6) (dX 10)) (de (DL K) (fD (jm K "list" eY (dN 2) (dM (fJ (dM (dz (gL K) (dN 7) (dN 8)) (dM (dz (gL K) (dz (eC K) (dN 4) (tC (.int 3))) (dN 8)) (dM (dN 9) (dM (dN 10) dW))))) dW))))))
def DJ(K:aA):TS:=(de (eD (mW K "list" mf (dN 2)) (lz K 4 (gH (dX 3) (gH (dX 4) (gH (dX 5) (gH (dX 6) mB)))))) (de (Gw K) (de (Gu K) (de (DO K) (de (eD (eN gQ [] E0 (dM (dN 3) dW)) (dX 7)) (de (wx K) (iK (uh (dM (gz (gN K) (dM (dN 7) dW)) dW)) (dX 8) (rY K))))))))
def Lr(K:aA):TS:=(de (eD (fR (dM (fJ (dM (dN 0) (dM (dN 1) (dM ir (dM ir dW))))) dW)) (dX 2)) (de (iE (eI (dz (lM K) (dN 2) (fR dW))) (DJ K)) (fT (tC (.bl true)))))
end S3
namespace SW
open PySem L2
theorem gt.get:∀{ns:List NT}{us:List V}{i:Nat}{n:NT},gt H ns us→ns[i]?=some n→∃u,us[i]?=some u∧lW H n u
 | _,_,0,_,.cons a r,h=>by cases h;exact⟨_,rfl,a⟩
 | _,_,i+1,_,.cons a r,h=>gt.get (i:=i) r h
def FL(t:T)(x:V)(fo ba:DK)(ks:List NT)(j:Nat):Prop:=∀a n,t.kids[j]?=some a→ks[j]?=some n→ku a n (oh t x fo j) (oi t x ba j)
theorem sX(h:∀w a b,t=.lt w a b→j≠1):oh t x fo j=fo:=by
 unfold oh;split
 ·exact absurd rfl (h _ _ _ rfl)
 ·rfl
theorem sY(h:∀w a b,t=.lt w a b→j≠1):oi t x fo j=fo:=by
 unfold oi;split
 ·exact absurd rfl (h _ _ _ rfl)
 ·rfl
structure M4(H₀ H:Hp)(p:Addr)(pt:List V)(tl fd bd il:Addr)(t:T)(x:V)(fo ba:DK)(ks:List NT)(gs:List G4)(us us2:List V)(i:Nat):Prop where
 same:dy H₀ H
 p_:H p=some (.tup pt)
 f_:H fd=some (.dK fo)
 b_:H bd=some (.dK ba)
 i_:H il=some (.lst us2)
 den:gC H t.kids us2
 rest:∃us' gs',H tl=some (.lst us')∧GL H₀ H gs' us'∧us'.length=us.length+i∧vR gs'=vR gs+eu (t.kids.take i)∧((∀g∈gs',g.ok)↔(∀j,j<i→FL t x fo ba ks j)∧∀g∈gs,g.ok)
end SW
namespace S3
open PySem L2 SW
variable {K:aA}{vs:List V}{H H₀:Hp}{Q:VK}{E:XK}
def N2(H₀:Hp)(v0 u0:Option V)(p tl np fd bd il:Addr)(t:T)(kk:List V)(x:V)(fo ba:DK)(ks:List NT)(gs:List G4)(us us2:List V)(i:Nat)(σ:St)(H':Hp):Prop:=(∃j8 j9 j10,σ=[v0,u0,some (.ref tl),some (.ref p),some (.ref np),some (.ref fd),some (.ref bd),some (.ref il),j8,j9,j10])∧M4 H₀ H' p (hd t++kk) tl fd bd il t x fo ba ks gs us us2 i
theorem vf
  (P:M4 H₀ H p (hd t++kk) tl fd bd il t x fo ba ks gs us us2 0) (new:H₀ tl=none) (nil:il≠tl) (hn:H₀ np=some (.tup [.str k,x,.ref sp,.ref kl])) (hkl:H₀ kl=some (.lst nus)) (nn:gt H₀ ks nus) (hlen:t.kids.length=ks.length)
  (wf:∀n∈ks,vG n) (wl:k="let"→∃i,x=.int i) (hk:kind t=k) (fk:zg fo) (bk:zh ba) (f1:fo.length+t.size≤110000) (f2:ba.length+t.size≤110000) (few:us.length≤400000)
  (hD:∀(H':Hp)(j8 j9 j10:Option V),M4 H₀ H' p (hd t++kk) tl fd bd il t x fo ba ks gs us us2 t.kids.length→D.nx [v0,u0,some (.ref tl),some (.ref p),some (.ref np),some (.ref fd),some (.ref bd),some (.ref il),j8,j9,j10] H'):
  (iK (uh (dM (gz (gN K) (dM (dN 7) dW)) dW)) (dX 8) (rY K)) D [v0,u0,some (.ref tl),some (.ref p),some (.ref np),some (.ref fd),some (.ref bd),some (.ref il),j8,j9,j10] H:=by
 have hl2:=P.den.length;have hk3:t.kids.length≤3:=by cases t<;>simp[T.kids]
 refine⟨.inl (eG.of P.i_),by lia,by lia,?_⟩;rw[bj];refine rH (N2 H₀ v0 u0 p tl np fd bd il t kk x fo ba ks gs us us2) ⟨⟨_,_,_,rfl⟩,P⟩ ?_ ?_
 ·rintro i σ H1 hi ⟨⟨j8,j9,j10,rfl⟩,P1⟩;rw[Int.zero_add];obtain⟨us',gs',htl,gl,hlu,hsz,hok⟩:=P1.rest;obtain⟨x1,hx1⟩:∃x1,us2[i]?=some x1:=⟨us2[i],by rw[aT]⟩;obtain⟨a,ha,da⟩:=pN P1.den hx1;obtain⟨n,hnk⟩:∃n,ks[i]?=some n:=⟨ks[i]'(by lia),by rw[aT]⟩;obtain⟨y1,hy1,na⟩:=nn.get hnk;have hsa:=qR (aZ ha);have app:∀(nf nb:Addr)(H2:Hp),dy H1 H2→H2 nf=some (.dK (oh t x fo i))→H2 nb=some (.dK (oi t x ba i))→zg (oh t x fo i)→zh (oi t x ba i)→(oh t x fo i).length+a.size≤110000→(oi t x ba i).length+a.size≤110000→
    (fD (jm K "list" eY (dN 2) (dM (fJ (dM (dz (gL K) (dN 7) (dN 8)) (dM (dz (gL K) (dz (eC K) (dN 4) (tC (.int 3))) (dN 8)) (dM (dN 9) (dM (dN 10) dW))))) dW))) (D.lp (N2 H₀ v0 u0 p tl np fd bd il t kk x fo ba ks gs us us2 (i+1)))
     [v0,u0,some (.ref tl),some (.ref p),some (.ref np),some (.ref fd),some (.ref bd),some (.ref il),some (.int i),some (.ref nf),some (.ref nb)] H2:=by
   intro nf nb H2 s2 hnf hnb fk' bk' g1 g2;have b2:=P1.same.trans s2;refine⟨.inl ⟨rfl,_,eG.of (s2 _ _ htl)⟩,eG.of (s2 _ _ P1.i_),dS hx1,eA.of (b2 _ _ hn),dS (j:=3) rfl,eG.of (b2 _ _ hkl),dS hy1,fG,eZ λq H3 hq s3 g3=>?_⟩;have s23:=s2.trans s3;have ht3:=s23 _ _ htl;refine⟨ht3,by rw[sizeLine_eq];lia,⟨_,_,_,rfl⟩,?_⟩;have m:=fL (o:=.lst (us'++[.ref q])) ht3;have kk':=lS (o:=.lst (us'++[.ref q])) ht3;have A3:Ky H₀ H3 (a,n,oh t x fo i,oi t x ba i) (.ref q):=⟨q,nf,nb,x1,y1,rfl,g3,da.mono (dY s23),na,s3 _ _ hnf,s3 _ _ hnb,wf n (aZ hnk),fk',bk',g1,g2⟩;refine⟨eF (P1.same.trans s23) new,m _ _ (s23 _ _ P1.p_),kk' _ _ (s23 _ _ P1.f_),kk' _ _ (s23 _ _ P1.b_),by rw[db nil];exact s23 _ _ P1.i_,(P1.den.mono (dY s23)).mono m,us'++[.ref q],(a,n,oh t x fo i,oi t x ba i)::gs',dO,.snoc ((gl.mono (dY s23) (gY s23)).mono m kk') (A3.mono m kk'),by simp[hlu];lia,?_,?_⟩
   ·rw[mX,hsz,ax,ha];simp only[Option.toList,fC,fm,jC];lia
   ·have h0:(∀g∈(a,n,oh t x fo i,oi t x ba i)::gs',G4.ok g)↔ku a n (oh t x fo i) (oi t x ba i)∧∀g∈gs',g.ok:=by
     constructor
     ·exact λh=>⟨h _ (.head _),λg hg=>h g (.tail _ hg)⟩
     ·rintro⟨h1,h2⟩ g hg;rcases aB.mp hg with rfl|hg
      ·exact h1
      ·exact h2 g hg
    rw[h0,hok];constructor
    ·rintro⟨h1,h2,h3⟩;refine⟨λj hj=>?_,h3⟩;rcases Nat.lt_succ_iff_lt_or_eq.mp hj with z|rfl
     ·exact h2 j z
     ·intro a' n' e1 e2;rw[ha]at e1;rw[hnk]at e2;cases e1;cases e2;exact h1
    ·rintro⟨h2,h3⟩;exact⟨h2 i (b5 _) a n ha hnk,λj hj=>h2 j (cZ hj),h3⟩
  have plain:(∀w a b,t=.lt w a b→i≠1)→_:=λhno=>app fd bd H1 (λ_ _ z=>z) (by rw[sX hno];exact P1.f_) (by rw[sY hno];exact P1.b_) (by rw[sX hno];exact fk) (by rw[sY hno];exact bk) (by rw[sX hno];lia) (by rw[sY hno];lia);have hp1:=P1.p_;refine ?_;refine⟨eA.of hp1,gq t kk,rfl,_,rfl,?_⟩;refine jI (λhlet=>?_) (λhlet=>?_)
  ·obtain⟨w,b1,b2,rfl⟩:=m8 (V.str.inj (of_decide_eq_true hlet));refine⟨rfl,_,rfl,?_⟩;refine jI (λhj1=>?_) (λhj1=>?_)
   ·have hi1:i=1:=by have:=V.int.inj (of_decide_eq_true hj1);lia
    subst hi1;obtain⟨id,rfl⟩:=wl hk.symm;have hn1:=P1.same _ _ hn;refine⟨fd,fo,rfl,.inl P1.f_,eZ λnf H2 hnf s2 g2=>?_⟩;refine⟨eA.of (s2 _ _ hn1),dS (j:=1) rfl,eA.of (s2 _ _ hp1),dS (j:=1) rfl,nO.k (k:=.inr w) g2 (by rw[sizeLine_eq];lia),?_⟩;have s3:dy H1 (upd H2 nf (.dK (gA fo (.inr w:fI) (.int id)))):=eF s2 hnf;have g3:(upd H2 nf (.dK (gA fo (.inr w:fI) (.int id)))) nf=some (.dK (gA fo (.inr w:fI) (.int id))):=dO;generalize upd H2 nf (.dK (gA fo (.inr w:fI) (.int id)))=H3 at s3 g3⊢;refine⟨bd,ba,rfl,.inl (s3 _ _ P1.b_),eZ λnb H4 hnb s4 g4=>?_⟩;have s34:=s3.trans s4;refine⟨eA.of (s34 _ _ hp1),dS (j:=1) rfl,eA.of (s34 _ _ hn1),dS (j:=1) rfl,nO.k (k:=.inl id) g4 (by rw[sizeLine_eq];lia),?_⟩;have s5:dy H3 (upd H4 nb (.dK (gA ba (.inl id:fI) (.str w)))):=eF s4 hnb;have l1:=hX fo (.inr w:fI) (.int id);have l2:=hX ba (.inl id:fI) (.str w);refine app nf nb _ (s3.trans s5) (s5 _ _ g3) dO (fk.put _ _) (bk.put _ _) ?_ ?_
    ·show(gA fo (.inr w:fI) (.int id)).length+a.size≤110000;lia
    ·show(gA ba (.inl id:fI) (.str w)).length+a.size≤110000;lia
   ·exact plain λ_ _ _ _ z=>hj1 (by rw[z];rfl)
  ·refine fK (plain λw b1 b2 e z=>?_);exact hlet (by rw[e];exact decide_eq_true rfl)
 ·rintro σ H1 ⟨⟨j8,j9,j10,rfl⟩,P1⟩;rw[hl2]at P1;exact hD H1 _ _ _ P1
end S3
namespace S8
open PySem L2 SW S9
theorem nw(h:H p=none):∃H1,dy H H1∧H1 p=some o∧upd H p o=H1:=⟨_,dR h,dO,rfl⟩
theorem qW{n:Nat}{tb:TS}{D:iT}{σ:St}{H:Hp}{k:Nat}(Pv:Nat→St→Hp→Prop)(h0:Pv n σ H)(hs:∀i σ H,i<n→Pv (i+1) σ H→tb (D.lp (Pv i)) (σ.set k (some (.int (i:Int)))) H)(hd:∀σ H,Pv 0 σ H→D.nx σ H):
  ∃W:Nat→Nat→St→Hp→Prop,(∃m,W 0 m σ H)∧∀i m σ H,W i m σ H→
   ((JG ((n:Int)-1) n).stop i H∧D.nx σ H)∨((JG ((n:Int)-1) n).go i H∧∃N:St→Hp→Prop,(∀σ' H',N σ' H'→∃m',m'<m∧W (i+1) m' σ' H')∧∀x H',(JG ((n:Int)-1) n).yld i H x H'→dX k x σ H' λσ2 H2=>tb (D.lp (N)) σ2 H2):=by
 refine⟨λi m σ H=>m=n-i∧i≤n∧Pv (n-i) σ H,⟨n,by simp,aS _,h0⟩,?_⟩;rintro i m σ H ⟨rfl,hi,p⟩;by_cases e:i=n
 ·subst e;rw[bH]at p;exact .inl ⟨aC _,hd σ H p⟩
 ·refine .inr ⟨show i<n by lia,Pv (n-(i+1)),λσ' H' z=>⟨n-(i+1),by lia,rfl,by lia,z⟩,?_⟩;rintro x H' ⟨rfl,rfl⟩;rw[show n-i=n-(i+1)+1 by lia]at p;rw[show(n:Int)-1-(i:Int)=((n-(i+1):Nat):Int) by lia];exact hs (n-(i+1)) σ H' (by lia) p
theorem mK(n:Nat):((n:Int)-1 - -1).toNat=n:=by lia
def kW(q:List Nat):Nat→List NT→List (NT×List Nat)
 | _,[]=>[]
 | i,n::ns=>(n,q++[i])::kW q (i+1) ns
def um:List (NT×List Nat)→Option (List Nat)
 | []=>none
 | (n,q)::r=>match fst n with
  | some p=>some (q++p)
  | none=>um r
theorem rE(q:List Nat)(r:List (NT×List Nat)):∀(ks:List NT)(i:Nat),um (kW q i ks++r)=match i7 ks i with|some p=>some (q++p)|none=>um r
 | [],i=>by rw[i7];rfl
 | n::ns,i=>by
  rw[kW,aL,um,i7];cases fst n with
  | some p=>simp
  | none=>exact rE q r ns (i+1)
theorem oE(q:List Nat):∀(ks:List NT)(i:Nat),(kW q i ks).length=ks.length
 | [],_=>rfl
 | _::ns,i=>by simp[kW,oE q ns]
theorem rA(q:List Nat):∀(ks:List NT)(i j:Nat)(n:NT),ks[j]?=some n→(kW q i ks)[j]?=some (n,q++[i+j])
 | m::ns,i,0,n,h=>by cases h;rfl
 | m::ns,i,j+1,n,h=>by have:=rA q ns (i+1) j n (by simpa using h);rw[kW,List.getElem?_cons_succ,this,show i+1+j=i+(j+1) by lia]
def uG(S:List (NT×List Nat)):Nat:=(S.map λx=>gn x.1).sum
theorem kc(a b:List (NT×List Nat)):uG (a++b)=uG a+uG b:=by simp[uG]
theorem ra(x:NT×List Nat):uG [x]=gn x.1:=by simp[uG]
theorem xI(a:List (NT×List Nat)):uG a.reverse=uG a:=by simp[uG]
theorem pf(q:List Nat):∀(ks:List NT)(i:Nat),uG (kW q i ks)=fj ks
 | [],_=>rfl
 | n::ns,i=>by have:=pf q ns (i+1);simp only[uG,kW,aW,cG,fj]at this⊢;rw[this]
theorem xl(n:NT):1≤gn n:=by cases n;rw[gn];lia
theorem xJ:∀S:List (NT×List Nat),S.length≤uG S
 | []=>aC _
 | x::S=>by have:=xJ S;have:=xl x.1;simp only[uG,aW,cG,aE]at *;lia
theorem mz:∀ks:List NT,ks.length≤fj ks
 | []=>aS _
 | n::ks=>by have:=mz ks;have:=xl n;rw[fj,aE];lia
def pV(q:List Nat):List V:=q.map λi:Nat=>V.int (i:Int)
theorem zC(a b:List Nat):pV (a++b)=pV a++pV b:=by simp[pV]
def zf(H₀ H:Hp)(tl:Addr)(B:Nat)(x:NT×List Nat)(v:V):Prop:=∃(q pl:Addr)(u:V),v=.ref q∧H q=some (.tup [u,.ref pl])∧lW H₀ x.1 u∧pl≠tl∧H pl=some (.lst (pV x.2))∧x.2.length+gn x.1≤B
theorem zf.same(s:dy H H')(h:zf H₀ H tl B x v):zf H₀ H' tl B x v:=by obtain⟨q,pl,u,e,h1,h2,h3,h4,h5⟩:=h;exact⟨q,pl,u,e,s _ _ h1,h2,h3,s _ _ h4,h5⟩
theorem zf.lst(ht:H tl=some (.lst us))(h:zf H₀ H tl B x v):zf H₀ (upd H tl o) tl B x v:=by obtain⟨q,pl,u,e,h1,h2,h3,h4,h5⟩:=h;exact⟨q,pl,u,e,fL ht _ _ h1,h2,h3,by rw[db h3];exact h4,h5⟩
variable {K:aA}{vs:List V}{H:Hp}{Q:VK}{E:XK}
def uL:Sp:=λvs H Q _=>∃(n:NT)(u:V),vs=[u]∧lW H n u∧gn n≤1000000∧(∀p l H',fst n=some p→dy H H'→H' l=some (.lst (pV p))→Q (.ref l) H')∧(∀H',fst n=none→dy H H'→Q .non H')
def G7(K:aA):TS:=(fT (dN 3))
def G0(K:aA):TS:=(fg (eI (dz kA (dz (eC K) (dN 2) (tC (.int 0))) (tC (.str "stamp")))) (G7 K) fQ)
def Gz(K:aA):TS:=(fD (jm K "list" eY (dN 1) (dM (fJ (dM (dz (gL K) (dz (eC K) (dN 2) (tC (.int 3))) (dN 4)) (dM (dz lN (dN 3) (fR (dM (dN 4) dW))) dW))) dW)))
def Gy(K:aA):TS:=(de (eD (mW K "list" mf (dN 1)) (lz K 2 (gH (dX 2) (gH (dX 3) mB)))) (de (G0 K) (iK (oY (dM (dz iU (gz (gN K) (dM (dz (eC K) (dN 2) (tC (.int 3))) dW)) (tC (.int 1))) (dM (mE gR (tC (.int 1))) (dM (mE gR (tC (.int 1))) dW)))) (dX 4) (Gz K))))
def Ls(K:aA):TS:=(de (eD (fR (dM (fJ (dM (dN 0) (dM (fR dW) dW))) dW)) (dX 1)) (de (iE (eI (dz (lM K) (dN 1) (fR dW))) (Gy K)) (fT (tC .non))))
def N3(H:Hp)(u:V)(tl:Addr)(n:NT)(m:Nat)(σ:St)(H':Hp):Prop:=∃S us j2 j3 j4,σ=[some u,some (.ref tl),j2,j3,j4]∧dy H H'∧H' tl=some (.lst us)∧Al (zf H H' tl 1000000) S us∧um S.reverse=fst n∧uG S≤1000000∧m=uG S
def OM(H H7:Hp)(u:V)(tl np pl:Addr)(S:List (NT×List Nat))(q':List Nat)(ks:List NT)(i:Nat)(σ:St)(H':Hp):Prop:=∃us' j4,σ=[some u,some (.ref tl),some (.ref np),some (.ref pl),j4]∧dy H H'∧dy (sH tl H7) H'∧H' tl=some (.lst us')∧Al (zf H H' tl 1000000) (S++((kW q' 0 ks).drop i).reverse) us'
theorem NW(h:uL vs H Q E):Ls K (gf Q) (start ["_law_tree","_law_todo","_law_node","_law_path","_law_k"] vs) H:=by
 obtain⟨n,u,rfl,hn,hz,k1,k2⟩:=h;refine⟨fG,eZ λe0 H1 he0 s1 g1=>?_⟩;refine⟨fG,eZ λq0 H2 hq0 s2 g2=>?_⟩;refine⟨fG,λtl htl=>?_⟩;obtain⟨H3,s3,g3,e3⟩:=nw (o:=.lst [.ref q0]) htl;have s13:=s1.trans (s2.trans s3);have ntl:H tl=none:=(s1.trans s2).free htl;have ne0:e0≠tl:=dZ (s2 _ _ g1) htl;show de _ _ _ _ (upd H2 tl (.lst [.ref q0]));rw[e3];refine⟨N3 H u tl n,
  ⟨_,[(n,[])],[.ref q0],none,none,none,rfl,s13,g3,.one ⟨q0,e0,u,rfl,s3 _ _ g2,hn,ne0,(s2.trans s3) _ _ g1,by simpa using hz⟩,by simp[um];cases fst n<;>rfl,by rw[ra];exact hz,rfl⟩,?_⟩
 clear s1 g1 s2 g2 s3 g3 s13 he0 hq0 htl e3 ne0;rintro m σ H5 ⟨S,us,j2,j3,j4,rfl,s5,t5,al,hf,hS,rfl⟩;refine⟨fG,eZ λe0 H6 he0 s6 g6=>?_⟩;have t6:=s6 _ _ t5;have b6:=s5.trans s6;have al6:=al.mono λ_ _=>zf.same s6;refine⟨eG.of t6,eG.of g6,_,rfl,?_⟩;by_cases hv:us=[]
 ·subst hv;cases al6;exact eK rfl (k2 _ (by rw[←hf];rfl) b6)
 ·refine fW (by simpa using hv) ?_;obtain⟨us,w,rfl⟩:=gK hv;obtain⟨S,⟨n',q'⟩,rfl,alS,a⟩:=al6.snoc;rw[kc,ra]at hS;refine⟨λσ' H'=>∃m',m'<uG (S++[(n',q')])∧N3 H u tl n m' σ' H',λ_ _ h=>h,?_⟩;refine⟨.inl ⟨rfl,_,eG.of t6⟩,t6,jT,?_⟩;rw[iZ];have b7:dy H (upd H6 tl (.lst us)):=eF b6 ntl;have t7:(upd H6 tl (.lst us)) tl=some (.lst us):=dO;have al7:=alS.mono λ_ _=>zf.lst (o:=.lst us) t6;have a7:=a.lst (o:=.lst us) t6;generalize upd H6 tl (.lst us)=H7 at b7 t7 al7 a7⊢;obtain⟨q,pl,nv,rfl,hq,na,npl,hpl,hb⟩:=a7;cases na with
  | @mk kd x src path ks np sp pp kl nus h1 h2 h3 h4 h5=>
  refine⟨eA.of hq,rfl,rfl,?_⟩;have hnp:=b7 _ _ h1;rw[cm]at hf;have hf:um ((NT.mk kd x src path ks,q')::S.reverse)=fst n:=hf;rw[um,fst]at hf;refine⟨eA.of hnp,dS (j:=0) rfl,rfl,_,rfl,?_⟩;by_cases hk:kd="stamp"
  ·subst hk;rw[if_pos rfl]at hf;have hf:some (q'++[])=fst n:=hf;rw[aa]at hf;refine fW (by decide) ?_;exact(k1 q' pl H7 hf.symm b7 hpl)
  ·rw[if_neg hk]at hf;refine eK (nk hk) ?_;have hnl:=h5.length;have hkl:=mz ks;have hb:q'.length+gn (NT.mk kd x src path ks)≤1000000:=hb;rw[gn]at hS hb;refine⟨eA.of hnp,dS (j:=3) rfl,.inl (eG.of (b7 _ _ h4)),(nus.length:Int)-1,-1,rfl,⟨by lia,by lia,by lia,by lia⟩,?_⟩;rw[mK];refine qW (n:=nus.length) (k:=4) (OM H H7 u tl np pl S q' ks) ?_ ?_ ?_
   ·refine⟨us,_,rfl,b7,λb o z=>?_,t7,?_⟩
    ·unfold sH at z;by_cases e:b=tl
     ·rw[if_pos e]at z;cases z
     ·rw[if_neg e]at z;exact z
    ·rw[bx (by rw[oE];lia)];simpa using al7
   ·rintro i σ H8 hi ⟨us',j4,rfl,b8,c8,t8,al8⟩;have pl8:H8 pl=some (.lst (pV q')):=c8 _ _ (nY hpl npl);obtain⟨x1,hx1⟩:∃x1,nus[i]?=some x1:=⟨nus[i],aT hi⟩;obtain⟨k1',hk1⟩:∃k,ks[i]?=some k:=⟨ks[i]'(by lia),aT _⟩;obtain⟨x2,hx2,nk2⟩:=h5.get hk1;rw[hx1]at hx2;cases hx2;have hkz:=pI (aZ hk1);have hl8:=al8.length;rw[aD,bL,ah,oE]at hl8;have hSl:=xJ S;refine⟨.inl ⟨rfl,_,eG.of t8⟩,?_⟩;refine⟨eA.of (b8 _ _ h1),dS (j:=3) rfl,eG.of (b8 _ _ h4),dS hx1,?_⟩;refine⟨fG,eZ λo1 H9 ho1 s9 g9=>?_⟩;refine⟨s9 _ _ pl8,g9,by rw[sizeLine_eq];simp[pV];lia,eZ λo2 H10 ho2 s10 g10=>?_⟩;refine⟨fG,eZ λo3 H11 ho3 s11 g11=>?_⟩;have s8:=s9.trans (s10.trans s11);have t11:=s8 _ _ t8;refine⟨t11,by rw[sizeLine_eq];lia,?_⟩;have no2:o2≠tl:=(dZ (s9 _ _ t8) ho2).symm;refine⟨_,_,rfl,eF (b8.trans s8) ntl,λb o z=>?_,dO,?_⟩
    ·by_cases e:b=tl
     ·unfold sH at z;rw[if_pos e]at z;cases z
     ·rw[db e];exact s8 _ _ (c8 _ _ z)
    ·have e:(kW q' 0 ks).drop i=(k1',q'++[i])::(kW q' 0 ks).drop (i+1):=by have hg:=rA q' ks 0 i k1' hk1;rw[br]at hg;obtain⟨hj,ej⟩:=aK.mp hg;rw[bM hj,ej]
     rw[e,ao,←aV];refine((al8.mono λ_ _=>zf.same s8).mono λ_ _=>zf.lst t11).append (.one (zf.lst t11 ⟨o3,o2,x1,rfl,g11,nk2,no2,?_,?_⟩))
     ·rw[zC];exact s11 _ _ g10
     ·simp only[aD,bA];lia
   ·rintro σ H8 ⟨us',j4,rfl,b8,_,t8,al8⟩;refine⟨uG (S++(kW q' 0 ks).reverse),?_,_,us',_,_,_,rfl,b8,t8,by simpa using al8,?_,?_,rfl⟩
    ·rw[kc,kc,ra,xI,pf,gn];lia
    ·rw[cm,cg,rE];rw[←hf]
    ·rw[kc,xI,pf];lia
end S8
namespace S8
open PySem L2 SW S9
theorem oJ:∀(p:List Nat)(i:Nat){n m:NT},getN n (p++[i])=some m→∃k x src path ks,getN n p=some (.mk k x src path ks)∧ks[i]?=some m
 | [],i,.mk k x src path ks,m,h=>by
  refine⟨k,x,src,path,ks,rfl,?_⟩;rw[ak,getN]at h;cases e:ks[i]? with
  | none=>rw[e]at h;cases h
  | some m'=>rw[e]at h;cases m';exact h
 | j::p,i,.mk k x src path ks,m,h=>by
  rw[aL,getN]at h;cases e:ks[j]? with
  | none=>rw[e]at h;cases h
  | some m'=>rw[e]at h;obtain⟨k',x',src',path',ks',h1,h2⟩:=oJ p i h;exact⟨k',x',src',path',ks',by rw[getN,e];exact h1,h2⟩
theorem zR(h:getN n p=some m):∀j,j≤p.length→∃mj,getN n (p.take j)=some mj:=by
 have key:∀(d j:Nat),j+d=p.length→∃mj,getN n (p.take j)=some mj:=by
  intro d;induction d with
  | zero=>intro j hj;rw[bf (by lia)];exact⟨m,h⟩
  | succ d ih=>intro j hj;obtain⟨mj,e⟩:=ih (j+1) (by lia);rw[ax,aT (show j<p.length by lia)]at e;obtain⟨_,_,_,_,_,h1,_⟩:=oJ _ _ e;exact⟨_,h1⟩
 intro j hj;exact key (p.length-j) j (by lia)
theorem oI(h:getN n p=some m)(hj:j<p.length):∃k x src path ks mj,getN n (p.take j)=some (.mk k x src path ks)∧ks[p[j]]?=some mj∧getN n (p.take (j+1))=some mj:=by obtain⟨mj,e⟩:=zR h (j+1) hj;have e0:=e;rw[ax,aT hj]at e;obtain⟨k,x,src,path,ks,h1,h2⟩:=oJ _ _ e;exact⟨k,x,src,path,ks,mj,h1,h2,e0⟩
theorem y6{n:NT}{p:List Nat}{m':NT}{j:Nat}(hj:j<p.length){k x src path ks}{mj:NT}(e1:getN n (p.take j)=some (.mk k x src path ks))(e2:ks[p[j]]?=some mj):putN (.mk k x src path ks) (p.drop j) m'=.mk k x src path (ks.set p[j] (putN mj (p.drop (j+1)) m')):=by rw[bM hj,putN,e2]
theorem xY:∀{ks:List α}{i:Nat}{y:α},i<ks.length→ks.set i y=ks.take i++[y]++ks.drop (i+1)
 | x::ks,0,y,_=>rfl
 | x::ks,i+1,y,h=>by have:=xY (ks:=ks) (i:=i) (y:=y) (by simpa using h);rw[List.set_cons_succ,this];simp
theorem tE{us:List V}{i:Nat}(h:i≤us.length):ie us none (some (i:Int))=us.take i:=by
 unfold ie;have e1:HT.kL us.length 0 none=0:=rfl;have e2:HT.kL us.length us.length (some (i:Int))=i:=by rw[lI];lia
 rw[e1,e2];simp
theorem lT{us:List V}{i:Nat}(h:i+1≤us.length):ie us (some ((i:Int)+1)) none=us.drop (i+1):=by
 unfold ie;have e2:HT.kL us.length 0 (some ((i:Int)+1))=i+1:=by rw[show(i:Int)+1=((i+1:Nat):Int) by lia,lI];lia
 have e3:HT.kL us.length us.length none=us.length:=rfl;rw[e2,e3,bf (by rw[ah];lia)]
theorem lW.opn(h:lW H (.mk k x src path ks) u):∃(p sp pp kl:Addr)(us:List V),u=.ref p∧H p=some (.tup [.str k,x,.ref sp,.ref kl])∧H sp=some (.tup [.str src,.ref pp])∧H pp=some (.tup (path.map V.int))∧H kl=some (.lst us)∧gt H ks us:=by cases h with|mk h1 h2 h3 h4 h5=>exact⟨_,_,_,_,_,rfl,h1,h2,h3,h4,h5⟩
variable {K:aA}{vs:List V}{H:Hp}{Q:VK}{E:XK}
def xS:Sp:=λvs H Q _=>∃(n m m':NT)(p:List Nat)(u v:V)(l:Addr),vs=[u,.ref l,v]∧lW H n u∧lW H m' v∧H l=some (.lst (pV p))∧getN n p=some m∧gn n≤1000000∧p.length≤1000000∧∀(w:V)(H':Hp),dy H H'→lW H' (putN n p m') w→Q w H'
def GK(K:aA):TS:=(de (fD (jm K "list" eY (dN 3) (dM (dN 4) dW))) (eD (dz (gL K) (dz (eC K) (dN 4) (tC (.int 3))) (dN 5)) (dX 4)))
def GJ(K:aA):TS:=(de (eD (dz (gL K) (dN 3) (dN 6)) (dX 4)) (de (eD (dz lN (dz lN (mL (jE K) (dz (eC K) (dN 4) (tC (.int 3))) fi (ft (dz (gL K) (dN 1) (dN 6)))) (fR (dM (dN 2) dW))) (mL (jE K) (dz (eC K) (dN 4) (tC (.int 3))) (ft (dz oU (dz (gL K) (dN 1) (dN 6)) (tC (.int 1)))) fi)) (dX 7)) (eD (fJ (dM (dz (eC K) (dN 4) (tC (.int 0))) (dM (dz (eC K) (dN 4) (tC (.int 1))) (dM (dz (eC K) (dN 4) (tC (.int 2))) (dM (dN 7) dW))))) (dX 2))))
def Li(K:aA):TS:=(de (eD (fR dW) (dX 3)) (de (eD (dN 0) (dX 4)) (de (iK (i0 K (dN 1)) (dX 5) (GK K)) (de (iK (oY (dM (dz iU (gz (gN K) (dM (dN 1) dW)) (tC (.int 1))) (dM (mE gR (tC (.int 1))) (dM (mE gR (tC (.int 1))) dW)))) (dX 6) (GJ K)) (fT (dN 2))))))
theorem uj:∀{p:List Nat}{n m:NT},getN n p=some m→gn m≤gn n
 | [],n,m,e=>by cases n;cases e;exact aC _
 | i::p,.mk k x src path ks,m,e=>by
  rw[getN]at e;cases e2:ks[i]? with
  | none=>rw[e2]at e;cases e
  | some n=>rw[e2]at e;have:=uj e;have:=pI (aZ e2);rw[gn];lia
theorem vt(h:j<p.length):(pV p)[j]?=some (.int (p[j]:Int)):=by unfold pV;rw[ac,aT h];rfl
def Iz(H:Hp)(n:NT)(p:List Nat)(j:Nat)(v:V):Prop:=∃mj,getN n (p.take j)=some mj∧lW H mj v
def OJ(H:Hp)(u v:V)(l ab:Addr)(n:NT)(p:List Nat)(i:Nat)(σ:St)(H':Hp):Prop:=∃(aus:List V)(w:V)(j5:Option V),σ=[some u,some (.ref l),some v,some (.ref ab),some w,j5,none,none]∧dy H H'∧H' ab=some (.lst aus)∧aus.length=i∧(∀j y,aus[j]?=some y→Iz H n p j y)∧Iz H n p i w
def OI(H2:Hp)(u:V)(l ab:Addr)(j5:Option V)(n:NT)(p:List Nat)(m':NT)(i:Nat)(σ:St)(H':Hp):Prop:=∃(v':V)(j4 j6 j7:Option V)(mi:NT),σ=[some u,some (.ref l),some v',some (.ref ab),j4,j5,j6,j7]∧dy H2 H'∧getN n (p.take i)=some mi∧lW H' (putN mi (p.drop i) m') v'
theorem NM(h:xS vs H Q E):Li K (gf Q) (start ["_law_tree","_law_path","_law_made","_law_above","_law_node","_law_k","_law_j","_law_kids"] vs) H:=by
 obtain⟨n,m,m',p,u,v,l,rfl,hn,hm,hl,hg,hz,hpl,k⟩:=h;refine⟨fG,λab hab=>?_⟩;obtain⟨H1,s1,g1,e1⟩:=nw (o:=.lst []) hab;show de _ _ _ _ (upd H ab (.lst []));rw[e1];refine⟨eG.of (s1 _ _ hl),?_⟩;refine gT (K:=K) (a:=l) (xs:=pV p) (OJ H u v l ab n p)
  ⟨[],u,none,rfl,s1,g1,rfl,λj y h=>by simp at h,n,by cases n;rfl,hn⟩ (λi σ H' _ hP=>?_) ?_ ?_
 ·obtain⟨_,_,_,_,s,_⟩:=hP;exact eG.of (s _ _ hl)
 ·rintro i y σ H2 hi ⟨aus,w,j5,rfl,s2,a2,hal,ha,hw⟩;have hil:i<p.length:=by have:=(aK.mp hi).1;simpa[pV]using this
  rw[vt hil]at hi;cases hi;obtain⟨kd,x,src,path,ks,mj,g1,g2,g3⟩:=oI hg hil;obtain⟨mi,e,nw⟩:=hw;rw[g1]at e;cases e;obtain⟨np,sp,pp,kl,nus,rfl,h1,h2,h3,h4,h5⟩:=lW.opn nw;obtain⟨x1,hx1,nk⟩:=h5.get g2;refine⟨.inl ⟨rfl,_,eG.of a2⟩,a2,by rw[sizeLine_eq];lia,?_⟩;have nab:∀{b:Addr}{o:HO},H b=some o→(upd H2 ab (.lst (aus++[.ref np]))) b=some o:=λz=>eF s2 hab _ _ z;refine⟨eA.of (nab h1),dS (j:=3) rfl,eG.of (nab h4),dS hx1,?_⟩;refine⟨aus++[.ref np],x1,_,rfl,eF s2 hab,dO,by simp[hal],λj y hj=>?_,mj,g3,nk⟩;rcases bK j aus.length with hlt|hge
  ·rw[aw hlt]at hj;exact ha j y hj
  ·rw[bJ hge]at hj;have:j=i:=by have:=(aK.mp hj).1;simp at this;lia
   subst this;rw[hal,bH]at hj;cases hj;exact⟨_,g1,nw⟩
 ·rintro σ H2 ⟨aus,w,j5,rfl,s2,a2,hal,ha,hw⟩;have hpv:(pV p).length=p.length:=by simp[pV]
  rw[hpv]at hal;refine⟨.inl (eG.of (s2 _ _ hl)),((pV p).length:Int)-1,-1,rfl,⟨by lia,by lia,by lia,by lia⟩,?_⟩;rw[mK,hpv];refine qW (n:=p.length) (k:=6) (OI H2 u l ab j5 n p m') ?_ ?_ ?_
  ·refine⟨v,_,_,_,m,rfl,dy.refl _,by rw[bG];exact hg,?_⟩;rw[List.drop_length];cases m;exact hm.same s2
  ·rintro i σ H3 hi ⟨v',j4,j6,j7,mi',rfl,s3,g3,nv⟩;obtain⟨kd,x,src,path,ks,mj,g1,g2,g4⟩:=oI hg hi;rw[g3]at g4;cases g4;obtain⟨y,hy⟩:∃y,aus[i]?=some y:=⟨aus[i]'(by lia),aT _⟩;obtain⟨mi,e,nwi⟩:=ha i y hy;rw[g1]at e;cases e;obtain⟨np,sp,pp,kl,nus,rfl,h1,h2,h3,h4,h5⟩:=lW.opn (nwi.same (s2.trans s3));have hnl:=h5.length;have hkl:=mz ks;have hzz:=uj g1;rw[gn]at hzz;have hik:p[i]<ks.length:=(aK.mp g2).1;refine⟨eG.of (s3 _ _ a2),dS hy,?_⟩;have hpx:=dS (vt hi);refine⟨eA.of h1,dS (j:=3) rfl,eG.of ((s2.trans s3) _ _ hl),hpx,eG.of h4,λo1 ho1=>?_⟩;rw[tE (by lia)];obtain⟨H4,s4,c4,e4⟩:=nw (o:=.lst (nus.take p[i])) ho1;rw[e4];refine⟨fG,eZ λo2 H5 ho2 s5 c5=>?_⟩;refine⟨s5 _ _ c4,c5,by rw[sizeLine_eq,aj];simp;lia,eZ λo3 H6 ho3 s6 c6=>?_⟩;have s46:=s4.trans (s5.trans s6);refine⟨eA.of (s46 _ _ h1),dS (j:=3) rfl,eG.of (((s2.trans s3).trans s46) _ _ hl),hpx,eG.of (s46 _ _ h4),λo4 ho4=>?_⟩;rw[lT (by lia)];obtain⟨H7,s7,c7,e7⟩:=nw (o:=.lst (nus.drop (p[i]+1))) ho4;rw[e7];refine⟨s7 _ _ c6,c7,by rw[sizeLine_eq];simp only[aD,aj,ah,bA];lia,eZ λo5 H8 ho5 s8 c8=>?_⟩;have s38:=s46.trans (s7.trans s8);have hp8:=s38 _ _ h1;refine⟨eA.of hp8,dS (j:=0) rfl,eA.of hp8,dS (j:=1) rfl,eA.of hp8,dS (j:=2) rfl,fG,λo6 ho6=>?_⟩;obtain⟨H9,s9,c9,e9⟩:=nw (o:=.tup [.str kd,x,.ref sp,.ref o5]) ho6;have s39:=s38.trans s9;refine⟨.ref o6,_,_,_,_,rfl,s3.trans (s38.trans (dR ho6)),g1,?_⟩;rw[y6 hi g1 g2,e9];refine .mk c9 (s39 _ _ h2) (s39 _ _ h3) (s9 _ _ c8) ?_;rw[xY hik];exact(((h5.same s39).take p[i]).append (.cons (nv.same s39) .nil)).append ((h5.same s39).drop (p[i]+1))
  ·rintro σ H3 ⟨v',j4,j6,j7,mi,rfl,s3,g3,nv⟩;have:mi=n:=by cases n;cases g3;rfl
   subst this;exact(k v' H3 (s2.trans s3) nv)
end S8
namespace S8
open PySem L2 SW S9
theorem uk:∀{p:List Nat}{n m:NT},getN n p=some m→p.length+gn m≤gn n
 | [],n,m,e=>by cases n;cases e;simp
 | i::p,.mk k x src path ks,m,e=>by
  rw[getN]at e;cases e2:ks[i]? with
  | none=>rw[e2]at e;cases e
  | some n=>rw[e2]at e;have:=uk e;have:=pI (aZ e2);rw[gn,aE];lia
def kz(ps:List Str)(us:List V):List (fI×V):=(ps.zip us).map λy=>(Sum.inr y.1,y.2)
theorem qO{kvs:List (fI×V)}{k:fI}{v:V}(h:∀y∈kvs,y.1≠k):gA kvs k v=kvs++[(k,v)]:=by unfold gA;rw[if_neg];simp only[cY,decide_eq_true_eq,not_exists,not_and];exact h
theorem IK{ps:List Str}{us:List V}{i:Nat}{w:Str}{x:V}(hn:ps.Nodup)(h1:ps[i]?=some w)(h2:us[i]?=some x):gA (kz (ps.take i) (us.take i)) (.inr w) x=kz (ps.take (i+1)) (us.take (i+1)):=by
 have e:kz (ps.take (i+1)) (us.take (i+1))=kz (ps.take i) (us.take i)++[(.inr w,x)]:=by unfold kz;have l1:=(aK.mp h1).1;have l2:=(aK.mp h2).1;rw[ax,ax,h1,h2,Option.toList_some,Option.toList_some,List.zip_append (by simp;lia)];simp
 rw[e];refine qO λy hy=>?_;obtain⟨⟨a,b⟩,hab,rfl⟩:=cD.mp hy;have ha:=b9 hab|>.1;intro z;have z:=Sum.inr.inj z;have z:a=w:=z;subst z;obtain⟨j,hj,ej⟩:=List.mem_take_iff_getElem.mp ha;obtain⟨hi,ei⟩:=aK.mp h1;exact List.pairwise_iff_getElem.mp hn j i (by lia) hi (by lia) (ej.trans ei.symm)
theorem IT{H:Hp}:tU H (kz [] []) oH:=λw=>.inl ⟨rfl,rfl⟩
theorem Mc{H:Hp}{e:Bool}{g:NT}{x:V}(h:lW H g x):tU H (kz [qw e] [x]) (FP e g):=λw=>by
 by_cases h1:w=qw e
 ·subst h1;exact .inr ⟨g,x,if_pos rfl,fu rfl,h⟩
 ·exact .inl ⟨if_neg h1,by unfold kz;simp only[List.zip_cons_cons,List.zip_nil_right,aW,bU];rw[fz (λz=>h1 (Sum.inr.inj z).symm)];rfl⟩
theorem Mb{H:Hp}{e:Bool}{g h:NT}{x y:V}(a:lW H g x)(b:lW H h y):tU H (kz [qw e,zB e] [x,y]) (Ck e g h):=λw=>by
 by_cases h1:w=qw e
 ·subst h1;exact .inr ⟨g,x,if_pos rfl,fu rfl,a⟩
 ·have q:fP (kz [qw e,zB e] [x,y]) (.inr w:fI)=fP (kz [zB e] [y]) (.inr w:fI):=fz (λz=>h1 (Sum.inr.inj z).symm);rw[q];by_cases e2:w=zB e
  ·subst e2;exact .inr ⟨h,y,by unfold Ck;rw[if_neg h1,if_pos rfl],fu rfl,b⟩
  ·exact .inl ⟨by unfold Ck;rw[if_neg h1,if_neg e2],by unfold kz;simp only[List.zip_cons_cons,List.zip_nil_right,aW,bU];rw[fz (λz=>e2 (Sum.inr.inj z).symm)];rfl⟩
def Eh(v1 v2 v3:V):List (Str×V):=[("star",v1),("sta",v2),("st",v3)]
def vn(w:Str)(L:List (Str×V)):List V:=(L.filter λx=>decide (x.1=w)).map Prod.snd
theorem Ei{H:Hp}{v1 v2 v3:V}{bo:Bo}{w:Str}{ks:List NT}{giv:Gi}{body:T}{us:List V}(BT:vD H v1 v2 v3 bo)(B:we bo w ks giv body)(K:tY bo)(hu:gt H ks us):
  ∃(sv:V)(ps:List Str),vn w (Eh v1 v2 v3)=[sv]∧kY H w ps (gZ body) sv∧ps.length=us.length∧ps.Nodup∧body.size≤900∧tU H (kz ps us) giv:=by
 have hz:=K.z1;have hz2:=K.z2.1;have hz3:=K.z3.1;cases B with
 | star=>cases hu;exact⟨v1,[],by simp[vn,Eh,KN.symm,FI.symm],BT.a,rfl,.nil,by lia,IT⟩
 | sta=>cases hu with|cons a r=>cases r;exact⟨v2,[_],by simp[vn,Eh,KN,KM.symm],BT.b,rfl,by simp,by lia,Mc a⟩
 | st=>cases hu with|cons a r=>cases r with|cons b r=>cases r;exact⟨v3,[_,_],by simp[vn,Eh,FI,KM],BT.c,rfl,by simp[D5],by lia,Mb a b⟩
variable {K:aA}{vs:List V}{H:Hp}{Q:VK}{E:XK}
def mO:Sp:=λvs H Q _=>∃(b:Addr)(v1 v2 v3 u:V)(t:T)(bo:Bo)(F:Nat),vs=[.ref b,u,.int (F:Int)]∧H b=some (.lst [v1,v2,v3])∧vD H v1 v2 v3 bo∧gG H t u∧tY bo∧WT SF t∧t.size≤40∧F≤9∧
 ∀(r:Addr)(w:V)(n:NT)(c:Int)(k:Nat)(H':Hp),dy H H'→Ly bo t k n c→lW H' n w→H' r=some (.tup [w,.int (k:Int)])→k≤F+1→(k≤F→fst n=none)→Q (.ref r) H'
def Ce(H:Hp)(n:NT)(v:V):Prop:=(v=.non∧fst n=none)∨∃l p,v=.ref l∧fst n=some p∧H l=some (.lst (pV p))
def GY(K:aA):TS:=(eD (dz (gL K) (dz (eC K) (dN 7) (tC (.int 3))) (dN 8)) (dX 7))
def GX(K:aA):TS:=(lJ (dN 10) (dz (gL K) (dz (eC K) (dN 9) (tC (.int 1))) (dN 8)) (dz (gL K) (dz (eC K) (dN 7) (tC (.int 3))) (dN 8)))
def yW(K:aA):TS:=(de (eD (dz oU (dN 5) (tC (.int 1))) (dX 5)) (eD (eN uL [] E0 (dM (dN 3) dW)) (dX 6)))
def yX(K:aA):TS:=(de (eD (eN xS [] E0 (dM (dN 3) (dM (dN 6) (dM (dN 11) dW)))) (dX 3)) (yW K))
def yY(K:aA):TS:=(de (eD (eN ma [] E0 (dM (dz (eC K) (dN 9) (tC (.int 2))) (dM (dz (eC K) (dN 9) (tC (.int 0))) (dM (dN 10) (dM (dN 4) dW))))) (lz K 2 (gH (dX 11) (gH (dX 4) mB)))) (yX K))
def yZ(K:aA):TS:=(de (iK (uh (dM (gz (gN K) (dM (dz (eC K) (dN 7) (tC (.int 3))) dW)) dW)) (dX 8) (GX K)) (yY K))
def ya(K:aA):TS:=(de (eD ir (dX 10)) (yZ K))
def yb(K:aA):TS:=(de (eD (dz (gL K) (HU 1 (i0 K (dN 0)) (dX 0) (eI (dz kA (dz (eC K) (dN 0) (tC (.int 0))) (dz (eC K) (dN 1) (tC (.int 1))))) (dN 0) [7]) (tC (.int 0))) (dX 9)) (ya K))
def yc(K:aA):TS:=(de (iK (i0 K (dN 6)) (dX 8) (GY K)) (yb K))
def vO(K:aA):TS:=(de (eD (dN 3) (dX 7)) (yc K))
def DC(K:aA):TS:=(de (iE (kH (eI (dz E8 (dN 6) (tC .non))) (eI (dz Dz (dN 5) (dN 2)))) (vO K)) (fT (fJ (dM (dN 3) (dM (dN 5) dW)))))
def DD(K:aA):TS:=(de (eD (eN uL [] E0 (dM (dN 3) dW)) (dX 6)) (DC K))
def DE(K:aA):TS:=(de (eD (tC (.int 0)) (dX 5)) (DD K))
def Ln(K:aA):TS:=(de (eD (eN ma [] E0 (dM (dN 1) (dM (tC (.str "")) (dM ir (dM (tC (.int 0)) dW))))) (lz K 2 (gH (dX 3) (gH (dX 4) mB)))) (DE K))
def Lt(I:Nat→St→Hp→Prop)(m:Nat):St→Hp→Prop:=λσ H=>∃m',m'<m∧I m' σ H
def Nx(H₀:Hp)(b:Addr)(u:V)(F:Nat)(bo:Bo)(t:T)(m:Nat)(σ:St)(H':Hp):Prop:=∃(k:Nat)(n:NT)(c:Int)(w pv:V)(j7 j8 j9 j10 j11:Option V),σ=[some (.ref b),some u,some (.int (F:Int)),some w,some (.int c),some (.int (k:Int)),some pv,j7,j8,j9,j10,j11]∧dy H₀ H'∧Ly bo t k n c∧lW H' n w∧Ce H' n pv∧k≤F+1∧m=F+1-k
def OL(b:Addr)(u:V)(F:Nat)(w:V)(c:Int)(k:Nat)(l:Addr)(n:NT)(p:List Nat)(H1:Hp)(j9 j10 j11:Option V)(i:Nat)(σ:St)(H':Hp):Prop:=∃(y:V)(j8:Option V),σ=[some (.ref b),some u,some (.int (F:Int)),some w,some (.int c),some (.int (k:Int)),some (.ref l),some y,j8,j9,j10,j11]∧H'=H1∧Iz H1 n p i y
theorem vd{H₀ H1:Hp}{b l:Addr}{v1 v2 v3 u w:V}{t:T}{bo:Bo}{F k:Nat}{n:NT}{c:Int}{p:List Nat}{D:iT}{j7 j8 j9 j10 j11:Option V}(hb:H₀ b=some (.lst [v1,v2,v3]))(B:vD H₀ v1 v2 v3 bo)(bok:tY bo)(wt:WT SF t)(s1:dy H₀ H1)(ly:Ly bo t k n c)(na:lW H1 n w)(hf:fst n=some p)(hl:H1 l=some (.lst (pV p)))(hnz:gn n≤1000000)(bnd:∀n' c',Ly bo t (k+1) n' c'→gn n'≤1000000)
  (hD:∀(n':NT)(c':Int)(w2 pv:V)(j7 j8 j9 j10 j11:Option V)(H':Hp),dy H₀ H'→Ly bo t (k+1) n' c'→lW H' n' w2→Ce H' n' pv→D.nx [some (.ref b),some u,some (.int (F:Int)),some w2,some (.int c'),some (.int ((k+1:Nat):Int)),some pv,j7,j8,j9,j10,j11] H'):
  vO K D [some (.ref b),some u,some (.int (F:Int)),some w,some (.int c),some (.int (k:Int)),some (.ref l),j7,j8,j9,j10,j11] H1:=by
 obtain⟨w0,src,path,ks,giv,body,hg,Bd⟩:=KR bok wt ly hf;have hpl:=uk hg;refine⟨eG.of hl,?_⟩;refine gT (K:=K) (a:=l) (xs:=pV p) (OL b u F w c k l n p H1 j9 j10 j11)
  ⟨w,j8,rfl,rfl,n,by cases n;rfl,na⟩ (λi σ H' _ hP=>?_) ?_ ?_
 ·obtain⟨_,_,_,rfl,_⟩:=hP;exact eG.of hl
 ·rintro i y σ H' hi ⟨y',j8,rfl,rfl,hw⟩;have hil:i<p.length:=by have:=(aK.mp hi).1;simpa[pV]using this
  rw[vt hil]at hi;cases hi;obtain⟨kd,x,src',path',ks',mj,g1,g2,g3⟩:=oI hg hil;obtain⟨mi,e,nwi⟩:=hw;rw[g1]at e;cases e;obtain⟨np,sp,pp,kl,nus,rfl,h1,h2,h3,h4,h5⟩:=lW.opn nwi;obtain⟨x1,hx1,nk⟩:=h5.get g2;exact⟨eA.of h1,dS (j:=3) rfl,eG.of h4,dS hx1,x1,_,rfl,rfl,mj,g3,nk⟩
 ·rintro σ H' ⟨y',j8,rfl,rfl,mj,e,nm⟩;have hpv:(pV p).length=p.length:=by simp[pV]
  rw[hpv,bG,hg]at e;cases e;obtain⟨np,sp,pp,kl,nus,rfl,h1,h2,h3,h4,h5⟩:=lW.opn nm;have hb1:=s1 _ _ hb;have B1:=B.mono s1;obtain⟨sv,ps,hpick,sat,hps,hnd,hbz,hgv⟩:=Ei B1 Bd bok h5;have hnl:=h5.length;have hkl:=mz ks;rw[gn]at hpl;refine⟨eG.of hb1,?_⟩;have wds:∀(i:Nat)(x:V),[v1,v2,v3][i]?=some x→∃wi q,(Eh v1 v2 v3)[i]?=some (wi,x)∧x=.ref q∧∃xs,H' q=some (.tup (.str wi::xs)):=λi x hx=>by
   obtain⟨p1,_,_,e1,a1,_⟩:=B1.a;obtain⟨p2,_,_,e2,a2,_⟩:=B1.b;obtain⟨p3,_,_,e3,a3,_⟩:=B1.c
   match i,hx with
   | 0,hx=>cases hx;exact⟨_,p1,rfl,e1,_,a1⟩
   | 1,hx=>cases hx;exact⟨_,p2,rfl,e2,_,a2⟩
   | 2,hx=>cases hx;exact⟨_,p3,rfl,e3,_,a3⟩
   | i+3,hx=>simp at hx
  refine⟨λi m vs Hx=>m=3-i∧i≤3∧Hx=H'∧vs=vn w0 ((Eh v1 v2 v3).take i)∧vs.length≤i,⟨3,rfl,aS _,rfl,rfl,aS _⟩,?_⟩;rintro i m vs Hx ⟨rfl,hi,rfl,hvs,hvl⟩;by_cases hi3:i=3
  ·subst hi3;refine .inl ⟨⟨_,eG.of hb1,by simp⟩,by rw[sizeLine_eq];lia,λlo hlo=>?_⟩;have:(Eh v1 v2 v3).take 3=Eh v1 v2 v3:=rfl;rw[this,hpick]at hvs;subst hvs;obtain⟨H2,s2,g2,e2⟩:=nw (o:=.lst [sv]) hlo;rw[e2];refine⟨eG.of g2,dS (j:=0) rfl,?_⟩;obtain⟨q,pl,x,rfl,hq,hpls,dgx⟩:=sat;refine λgd hgd=>?_;obtain⟨H3,s3,g3,e3⟩:=nw (o:=.dK []) hgd;show de _ _ _ _ (upd H2 gd (.dK []));rw[e3];have s23:=s2.trans s3;refine⟨eA.of (s23 _ _ h1),dS (j:=3) rfl,.inl (eG.of (s23 _ _ h4)),by lia,by lia,?_⟩;rw[bj];have ngd:Hx gd=none:=s2.free hgd;refine rH (lo:=0) (n:=nus.length) (λi σ H''=>∃j8,σ=[some (.ref b),some u,some (.int (F:Int)),some w,some (.int c),some (.int (k:Int)),some (.ref l),some (.ref np),j8,some (.ref q),some (.ref gd),j11]∧dy Hx H''∧H'' gd=some (.dK (kz (ps.take i) (nus.take i)))) ⟨_,rfl,s23,g3⟩ ?_ ?_
   ·rintro i σ H4 hi ⟨j8,rfl,s4,g4⟩;rw[Int.zero_add];obtain⟨x1,hx1⟩:∃x1,nus[i]?=some x1:=⟨nus[i],aT hi⟩;obtain⟨w1,hw1⟩:∃w1,ps[i]?=some w1:=⟨ps[i]'(by lia),aT _⟩;refine⟨eA.of (s4 _ _ h1),dS (j:=3) rfl,eG.of (s4 _ _ h4),dS hx1,?_⟩;refine⟨eA.of (s4 _ _ hq),dS (j:=1) rfl,eG.of (s4 _ _ hpls),dS (by rw[ac,hw1];rfl),nO.k (k:=.inr w1) g4 ?_,?_⟩
    ·have:(kz (ps.take i) (nus.take i)).length≤nus.length:=by unfold kz;rw[aX,List.length_zip,aj,aj];lia
     rw[sizeLine_eq];lia
    ·refine⟨_,rfl,eF s4 ngd,?_⟩;rw[dO,IK hnd hw1 hx1]
   ·rintro σ H4 ⟨j8,rfl,s4,g4⟩;rw[←hps,bG,hps,bG]at g4;refine⟨eA.of (s4 _ _ hq),dS (j:=2) rfl,eA.of (s4 _ _ hq),dS (j:=0) rfl,body,x,w0,gd,_,giv,c,rfl,(iH dgx).mono (dY s4),hbz,g4,hgv.same s4,λr bv H5 s5 nb hr=>?_⟩;refine⟨eA.of hr,rfl,rfl,?_⟩;have s15:=s4.trans s5;refine⟨n,_,_,p,w,bv,l,rfl,na.same s15,nb,s15 _ _ hl,hg,hnz,by lia,λw2 H6 s6 nw2=>?_⟩;have ly2:=ly.succ hf hg Bd;refine ?_;have s06:=s1.trans (s15.trans s6);refine⟨_,w2,rfl,nw2,bnd _ _ ly2,λp' l' H7 hf' s7 hl'=>?_,λH7 hf' s7=>?_⟩
    ·exact hD _ _ _ _ _ _ _ _ _ H7 (s06.trans s7) ly2 (nw2.same s7) (.inr ⟨l',p',rfl,hf',hl'⟩)
    ·exact hD _ _ _ _ _ _ _ _ _ H7 (s06.trans s7) ly2 (nw2.same s7) (.inl ⟨rfl,hf'⟩)
  ·obtain⟨x,hx⟩:∃x,[v1,v2,v3][i]?=some x:=⟨[v1,v2,v3][i]'(by simp;lia),aT _⟩;refine .inr ⟨⟨_,x,eG.of hb1,hx⟩,λy Hy yy=>?_⟩;obtain⟨rfl,yy⟩:=yy;have hy:=yy _ (eG.of hb1);rw[hx]at hy;cases hy;intro os hos
   match os,hos with
   | [o1],_=>
   obtain⟨wi,q,hwi,rfl,xs,hq⟩:=wds i x hx;refine⟨⟨[some (.ref q)],rfl,rfl⟩,?_⟩;refine⟨eA.of hq,dS (j:=0) rfl,eA.of h1,dS (j:=1) rfl,rfl,_,rfl,?_⟩;have tk:=take_succ_filter (λx:Str×V=>decide (x.1=w0)) (Eh v1 v2 v3) i _ hwi;by_cases hw:wi=w0
   ·subst hw;refine fW (by simp) ⟨by rw[sizeLine_eq];lia,3-(i+1),by lia,rfl,by lia,rfl,?_,by simp;lia⟩;rw[hvs];unfold vn;rw[tk];simp
   ·refine eK (decide_eq_false λz=>hw (V.str.inj z)) ⟨3-(i+1),by lia,rfl,by lia,rfl,?_,by lia⟩;rw[hvs];unfold vn;rw[tk];simp[hw]
theorem qK{H₀:Hp}{b:Addr}{v1 v2 v3 u w pv:V}{t:T}{bo:Bo}{F:Nat}{n:NT}{c:Int}(hb:H₀ b=some (.lst [v1,v2,v3]))(B:vD H₀ v1 v2 v3 bo)(bok:tY bo)(wt:WT SF t)(hz:t.size≤40)(hF:F≤9)
  (kk:∀(r:Addr)(w:V)(n:NT)(c:Int)(k:Nat)(H':Hp),dy H₀ H'→Ly bo t k n c→lW H' n w→H' r=some (.tup [w,.int (k:Int)])→k≤F+1→(k≤F→fst n=none)→Q (.ref r) H')
  (s0:dy H₀ H) (ly:Ly bo t 0 n c) (na:lW H n w) (mn:Ce H n pv):
  (de (iE (kH (eI (dz E8 (dN 6) (tC .non))) (eI (dz Dz (dN 5) (dN 2)))) (vO K)) (fT (fJ (dM (dN 3) (dM (dN 5) dW))))) (gf Q) [some (.ref b),some u,some (.int (F:Int)),some w,some (.int c),some (.int 0),some pv,none,none,none,none,none] H:=by
 have bnd:∀{k:Nat}{n:NT}{c:Int},Ly bo t k n c→k≤F+1→gn n≤1000000:=λ{k n c} ly hk=>by have:=(ud bok wt ly).2;have:k*(20*t.size)≤10*(20*t.size):=bV _ (by lia);lia
 refine⟨Nx H₀ b u F bo t,
  ⟨_,0,n,c,w,pv,none,none,none,none,none,rfl,s0,ly,na,mn,by lia,rfl⟩,?_⟩
 clear ly na mn s0;rintro m σ H1 ⟨k,n,c,w,pv,j7,j8,j9,j10,j11,rfl,s1,ly,na,mn,hk,rfl⟩;refine⟨rfl,_,rfl,?_⟩;rcases mn with⟨rfl,hf⟩|⟨l,p,rfl,hf,hl⟩
 ·refine eK rfl (eK rfl ?_);refine⟨fG,λr hr=>?_⟩;have s2:=dR (o:=.tup [w,.int (k:Int)]) hr;exact kk r w n c k _ (s1.trans s2) ly (na.same s2) dO hk λ_=>hf
 ·refine fW rfl ?_;refine⟨_,rfl,?_⟩;by_cases hkF:k≤F
  ·refine fW (decide_eq_true (by lia)) ?_;refine⟨Lt (Nx H₀ b u F bo t) (F+1-k),λ_ _ h=>h,?_⟩;exact vd hb B bok wt s1 ly na hf hl (bnd ly hk) (λn' c' l'=>bnd l' (by lia)) λn' c' w2 pv j7 j8 j9 j10 j11 H' s' ly' na' pth'=>⟨F+1-(k+1),by lia,k+1,n',c',w2,pv,_,_,_,_,_,rfl,s',ly',na',pth',by lia,rfl⟩
  ·refine eK (decide_eq_false (by lia)) ?_;refine⟨fG,λr hr=>?_⟩;have s2:=dR (o:=.tup [w,.int (k:Int)]) hr;exact kk r w n c k _ (s1.trans s2) ly (na.same s2) dO hk λz=>absurd z hkF
theorem NR(h:mO vs H Q E):Ln K (gf Q) (start ["_law_book","_law_piece","_law_fuel","_law_tree","_law_count","_law_many","_law_path","_law_node","_law_k","_law_stamp","_law_given","_law_body"] vs) H:=by
 obtain⟨b,v1,v2,v3,u,t,bo,F,rfl,hb,B,du,bok,wt,hz,hF,kk⟩:=h;refine(λd0 hd0=>?_);obtain⟨H1,s1,g1,e1⟩:=nw (o:=.dK []) hd0;rw[e1];refine⟨t,u,"",d0,[],oH,0,rfl,du.mono (dY s1),by lia,g1,λw=>.inl ⟨rfl,rfl⟩,λr w H2 s2 n2 hr=>?_⟩;have s12:=s1.trans s2;refine⟨eA.of hr,rfl,rfl,?_⟩;have ly0:Ly bo t 0 _ _:=.zero;have hz0:=(ud bok wt ly0).2;refine⟨_,w,rfl,n2,by lia,λp l H3 hf s3 hl=>?_,λH3 hf s3=>?_⟩
 ·exact qK hb B bok wt hz hF kk (s12.trans s3) ly0 (n2.same s3) (.inr ⟨l,p,rfl,hf,hl⟩)
 ·exact qK hb B bok wt hz hF kk (s12.trans s3) ly0 (n2.same s3) (.inl ⟨rfl,hf⟩)
end S8
namespace SW
open PySem L2
theorem vL(t:T):(∃m,t=.num m)∨(∃w,t=.name w)∨(kind t≠"number"∧kind t≠"name"∧∀x fo ba,sk t x fo ba):=by
 cases t with
 | num m=>exact .inl ⟨m,rfl⟩
 | name w=>exact .inr (.inl ⟨w,rfl⟩)
 | _=>exact .inr (.inr ⟨by simp only[kind];decide,by simp only[kind];decide,λ_ _ _=>trivial⟩)
theorem xK:∀gs:List G4,gs.length≤vR gs
 | []=>aC _
 | g::r=>by have:=xK r;have:=g.1.size_pos;rw[mX,aE];lia
theorem qM(h:yk x y=true)(h1:x≠y→Q (.bl true) H)(h2:x=y→Q (.bl false) H):yx x y H Q:=by
 refine⟨h,?_⟩;by_cases e:x=y
 ·rw[decide_eq_true e];exact h2 e
 ·rw[decide_eq_false e];exact h1 e
end SW
namespace S3
open PySem L2 SW
variable {K:aA}{vs:List V}{H H₀:Hp}{Q:VK}{E:XK}
def M5(H:Hp)(v u:V)(tl:Addr)(t:T)(n:NT)(m:Nat)(σ:St)(H':Hp):Prop:=∃gs us j3 j4 j5 j6 j7 j8 j9 j10,σ=[some v,some u,some (.ref tl),j3,j4,j5,j6,j7,j8,j9,j10]∧dy H H'∧H' tl=some (.lst us)∧GL H H' gs us∧((∀g∈gs,g.ok)↔ku t n [] [])∧vR gs≤100000∧m=vR gs
theorem NV(h:qC vs H Q E):Lr K (gf Q) (start ["_law_found","_law_tree","_law_todo","_law_part","_law_node","_law_forth","_law_back","_law_inner","_law_k","_law_near","_law_far"] vs) H:=by
 obtain⟨t,v,u,n,rfl,hd0,hn0,hwf,hs,k⟩:=h;refine(λfd hfd=>?_);have s1:=dR (o:=.dK []) hfd;have g1:(upd H fd (.dK [])) fd=some (.dK []):=dO;generalize upd H fd (.dK [])=H1 at s1 g1⊢;refine λbd hbd=>?_;have s2:=dR (o:=.dK []) hbd;have g2:(upd H1 bd (.dK [])) bd=some (.dK []):=dO;generalize upd H1 bd (.dK [])=H2 at s2 g2⊢;refine⟨fG,eZ λq H3 hq s3 g3=>?_⟩;refine⟨fG,λtl htl=>?_⟩;have s4:=dR (o:=.lst [.ref q]) htl;have g4:(upd H3 tl (.lst [.ref q])) tl=some (.lst [.ref q]):=dO;have new:H tl=none:=(s1.trans (s2.trans s3)).free htl;generalize upd H3 tl (.lst [.ref q])=H4 at s4 g4⊢;have u3:=s3.trans s4;have u2:=s2.trans u3;have u1:=s1.trans u2;have nov:∀(q:fI)(v:V),fP ([]:DK) q=some v→False:=λq v e=>by cases e
 refine⟨M5 H v u tl t n,
  ⟨_,[(t,n,[],[])],[.ref q],none,none,none,none,none,none,none,none,rfl,u1,g4,.snoc (us:=[]) .nil ⟨q,fd,bd,v,u,rfl,s4 _ _ g3,hd0.mono (dY u1),hn0,u2 _ _ g1,u3 _ _ g2,hwf,λq v e=>(nov q v e).elim,λq v e=>(nov q v e).elim,by simp;lia,by simp;lia⟩,?_,by simp[vR];lia,rfl⟩,?_⟩
 ·constructor
  ·exact λh=>h _ (.head _)
  ·intro h g hg;obtain rfl:g=(t,n,[],[]):=by simpa using hg
   exact h
 clear s1 g1 s2 g2 s3 g3 s4 g4 u1 u2 u3 hfd hbd hq htl nov;rintro m σ H5 ⟨gs,us,j3,j4,j5,j6,j7,j8,j9,j10,rfl,s5,t5,gl,iff,hsz,rfl⟩;refine⟨fG,λe0 he0=>?_⟩;have s6:=dR (o:=.lst []) he0;have g6:(upd H5 e0 (.lst [])) e0=some (.lst []):=dO;have gl6:=gl.mono (dY s6) (gY s6);have t6:=s6 _ _ t5;have b6:=s5.trans s6;generalize upd H5 e0 (.lst [])=H6 at g6 gl6 t6 b6⊢;clear s6 gl s5 t5 he0;refine⟨eG.of t6,eG.of g6,_,rfl,?_⟩;cases gl6 with
 | nil=>refine eK rfl (k true _ b6 ⟨λ_=>iff.mp (λg hg=>by cases hg),λ_=>rfl⟩)
 | @snoc g w gs us gl6 ga=>
  refine fW (by simp) ?_;rw[mX]at hsz;refine⟨λσ' H'=>∃m',m'<vR (g::gs)∧M5 H v u tl t n m' σ' H',λ_ _ h=>h,?_⟩;refine⟨.inl ⟨rfl,_,eG.of t6⟩,t6,jT,?_⟩;rw[iZ];have m7:=fL (o:=.lst us) t6;have k7:=lS (o:=.lst us) t6;have b7:dy H (upd H6 tl (.lst us)):=eF b6 new;have t7:(upd H6 tl (.lst us)) tl=some (.lst us):=dO;have gl7:=gl6.mono m7 k7;have ga7:=ga.mono m7 k7;generalize upd H6 tl (.lst us)=H7 at b7 t7 gl7 ga7⊢;have hgl:=gl7.length;have hgs:=xK gs;obtain⟨t',n',fo,ba⟩:=g;obtain⟨q,fd,bd,pv,nv,rfl,hq,den,na,hfd,hbd,wf,fk,bk,f1,f2⟩:=ga7;have den:gG H7 t' pv:=den;have fail:∀H',dy H H'→¬ku t' n' fo ba→Q (.bl false) H':=λH' s no=>k false H' s ⟨(λh=>by cases h),λh=>absurd (iff.mpr h _ (.head _)) no⟩;obtain⟨p,kk,rfl,hp,dkk⟩:=den.open;cases na with
  | @mk kd x src path ks np sp pp kl nus h1 h2 h3 h4 h5=>
  cases wf with
  | mk w1 w2 w3 w4=>
  have hn7:=b7 _ _ h1;refine⟨eA.of hq,rfl,rfl,?_⟩;refine⟨eA.of hp,gq t' kk,eA.of hn7,dS (j:=0) rfl,?_⟩;refine qM rfl (λhne=>⟨_,rfl,oj (fail _ b7 λh=>hne (by rw[(ku.inv.mp h).1]))⟩) (λheq=>⟨_,rfl,fK ?_⟩);have hkd:kind t'=kd:=V.str.inj heq;have rest:sk t' x fo ba→(de (eD (eN gQ [] E0 (dM (dN 3) dW)) (dX 7)) (de (wx K) (iK (uh (dM (gz (gN K) (dM (dN 7) dW)) dW)) (dX 8) (rY K)))) (((gf Q).thn (fT (tC (.bl true)))).lp (λσ' H'=>∃m',m'<vR ((t',.mk kd x src path ks,fo,ba)::gs)∧M5 H v u tl t n m' σ' H'))
    [some v,some u,some (.ref tl),some (.ref p),some (.ref np),some (.ref fd),some (.ref bd),j7,j8,j9,j10] H7:=by
   intro hok;refine⟨t',.ref p,rfl,den,λil us2 H8 s8 n8 h8 d8=>?_⟩;have b8:=b7.trans s8;have hl2:=d8.length;have hnl:=h5.length;refine⟨.inl (eG.of h8),eA.of (b8 _ _ h1),dS (j:=3) rfl,.inl (eG.of (b8 _ _ h4)),?_⟩;refine qM rfl (λhne=>⟨_,rfl,oj (fail _ b8 λh=>hne ?_)⟩) (λheq=>⟨_,rfl,fK ?_⟩)
   ·have:=(ku.inv.mp h).2.2.1;rw[hl2,hnl,this]
   ·have hlen:t'.kids.length=ks.length:=by have:=V.int.inj heq;lia
    have nil:il≠tl:=λz=>by subst z;rw[t7]at n8;cases n8
    refine vf (gs:=gs) (us:=us) (us2:=us2) (kk:=kk) ⟨b8,s8 _ _ hp,s8 _ _ hfd,s8 _ _ hbd,h8,d8,us,gs,s8 _ _ t7,gl7.mono (dY s8) (gY s8),rfl,by simp[eu],?_⟩ new nil h1 h4 h5 hlen w4 w3 hkd fk bk f1 f2 (by lia) λH9 j8 j9 j10 P9=>?_
    ·constructor
     ·exact λh=>⟨λj hj=>absurd hj (cW _),h⟩
     ·exact λh=>h.2
    ·obtain⟨us',gs',a1,a2,a3,a4,a5⟩:=P9.rest;rw[bG]at a4;have hk:=jD t';have hsz:t'.size+vR gs≤100000:=hsz;have hcons:vR ((t',NT.mk kd x src path ks,fo,ba)::gs)=t'.size+vR gs:=mX _ _;refine⟨vR gs',by rw[hcons];lia,gs',us',_,_,_,_,_,_,_,_,rfl,P9.same,a1,a2,?_,by lia,rfl⟩;rw[a5,←iff];have key:(∀j,j<t'.kids.length→FL t' x fo ba ks j)↔G4.ok (t',NT.mk kd x src path ks,fo,ba):=by
      constructor
      ·intro h;refine ku.mk hkd hok hlen λj a n e1 e2=>h j ?_ a n e1 e2;exact(aK.mp e1).1
      ·intro h j _ a n e1 e2;exact(ku.inv.mp h).2.2.2 j a n e1 e2
     rw[key];constructor
     ·rintro⟨h1,h2⟩ g hg;rcases aB.mp hg with rfl|hg
      ·exact h1
      ·exact h2 g hg
     ·exact λh=>⟨h _ (.head _),λg hg=>h g (.tail _ hg)⟩
  have hnx:pS [V.str kd,x,.ref sp,.ref kl] 1=some x:=dS (j:=1) rfl;rcases vL t' with⟨m,rfl⟩|⟨w,rfl⟩|⟨k1,k2,hall⟩
  ·refine⟨eA.of hp,gq (.num m) kk,rfl,_,rfl,fW (by simp only[kind];decide) ?_⟩;refine⟨eA.of hp,dS (j:=1) rfl,eA.of hn7,hnx,?_⟩;have hsc:yk (V.int m) x=true:=by rcases w1 with rfl|⟨_,rfl⟩|⟨_,rfl⟩<;>rfl
   refine qM hsc (λhne=>⟨_,rfl,oj (fail _ b7 λh=>hne (ku.inv.mp h).2.1)⟩) (λheq=>⟨_,rfl,fK ?_⟩);exact⟨eA.of hp,gq (.num m) kk,rfl,_,rfl,eK (show decide (V.str "number"=V.str "name")=false from by decide) (rest heq)⟩
  ·refine⟨eA.of hp,gq (.name w) kk,rfl,_,rfl,eK (show decide (V.str "name"=V.str "number")=false from by decide) (fK ?_)⟩;refine⟨eA.of hp,gq (.name w) kk,rfl,_,rfl,fW (by simp only[kind];decide) ?_⟩;have hpw:pS (hd (.name w)++kk) 1=some (.str w):=dS (j:=1) rfl;refine⟨.inl ⟨_,.inl hfd⟩,eA.of hp,hpw,eA.of hp,hpw,_,iQ.k (k:=.inr w) hfd,eA.of hn7,hnx,?_⟩;have hxn:=w2 hkd.symm;have hfv:(∃i,(fP fo (.inr w:fI)).getD (.str w)=.int i)∨(fP fo (.inr w:fI)).getD (.str w)=.str w:=by
    cases e:fP fo (.inr w:fI) with
    | none=>exact .inr rfl
    | some v=>obtain⟨i,rfl⟩:=fk _ _ e;exact .inl ⟨i,rfl⟩
   have hsc:yk ((fP fo (.inr w:fI)).getD (.str w)) x=true:=by rcases hfv with⟨i,e⟩|e<;>rw[e]<;>rcases w1 with rfl|⟨_,rfl⟩|⟨_,rfl⟩<;>rfl
   refine qM hsc (λhne=>⟨_,rfl,oj (fail _ b7 λh=>hne (ku.inv.mp h).2.1.1)⟩) (λheq=>⟨_,rfl,fK ?_⟩);have dgb:iQ H7 bd x (fP ba (ug x)):=by
    rcases w1 with rfl|⟨i,rfl⟩|⟨s,rfl⟩
    ·exact absurd rfl hxn
    ·exact iQ.k (k:=.inl i) hbd
    ·exact iQ.k (k:=.inr s) hbd
   refine⟨.inl ⟨_,.inl hbd⟩,eA.of hn7,hnx,eA.of hp,hpw,_,dgb,eA.of hp,hpw,?_⟩;have hsc2:yk ((fP ba (ug x)).getD (.str w)) (.str w)=true:=by
    cases e:fP ba (ug x) with
    | none=>rfl
    | some v=>obtain⟨s,rfl⟩:=bk _ _ e;rfl
   refine qM hsc2 (λhne=>⟨_,rfl,oj (fail _ b7 λh=>hne (ku.inv.mp h).2.1.2)⟩) (λheq2=>⟨_,rfl,fK ?_⟩);exact rest ⟨heq,heq2⟩
  ·refine⟨eA.of hp,gq t' kk,rfl,_,rfl,eK (decide_eq_false λz=>k1 (V.str.inj z)) (fK ?_)⟩;exact⟨eA.of hp,gq t' kk,rfl,_,rfl,eK (decide_eq_false λz=>k2 (V.str.inj z)) (rest (hall _ _ _))⟩
end S3
namespace SW
open PySem L2
theorem MR:("number":Str)≠"let":=by decide
theorem MQ:("number":Str)≠"name":=by decide
theorem KP:("name":Str)≠"let":=by decide
theorem L5:("sum":Str)≠"let":=by decide
theorem L4:("sum":Str)≠"name":=by decide
theorem Mf:("less":Str)≠"let":=by decide
theorem Me:("less":Str)≠"name":=by decide
theorem Mj:("choose":Str)≠"let":=by decide
theorem Mi:("choose":Str)≠"name":=by decide
theorem MV:("let":Str)≠"name":=by decide
theorem GT:("stamp":Str)≠"let":=by decide
theorem GS:("stamp":Str)≠"name":=by decide
theorem ja(hg:∀w g,giv w=some g→vG g)(hk:∀n∈ks,vG n):vG (eQ c src giv e i ks):=by
 obtain⟨t,p,o⟩:=e;cases t with
 | num n=>exact .mk (.inr (.inl ⟨_,rfl⟩)) (λh=>absurd h MQ) (λh=>absurd h MR) hk
 | name w=>
  unfold eQ;dsimp only;cases ho:o w with
  | some x=>exact .mk (.inr (.inl ⟨_,rfl⟩)) (λ_ h=>by cases h) (λh=>absurd h KP) hk
  | none=>
   dsimp only;cases hw:giv w with
   | some g=>exact hg w g hw
   | none=>exact .mk (.inr (.inr ⟨_,rfl⟩)) (λ_ h=>by cases h) (λh=>absurd h KP) hk
 | sum a b=>exact .mk (.inl rfl) (λh=>absurd h L4) (λh=>absurd h L5) hk
 | less a b=>exact .mk (.inl rfl) (λh=>absurd h Me) (λh=>absurd h Mf) hk
 | cho a b d=>exact .mk (.inl rfl) (λh=>absurd h Mi) (λh=>absurd h Mj) hk
 | lt w a b=>exact .mk (.inr (.inl ⟨_,rfl⟩)) (λh=>absurd h MV) (λ_=>⟨_,rfl⟩) hk
 | st0 w=>exact .mk (.inr (.inr ⟨_,rfl⟩)) (λh=>absurd h GS) (λh=>absurd h GT) hk
 | st1 w a=>exact .mk (.inr (.inr ⟨_,rfl⟩)) (λh=>absurd h GS) (λh=>absurd h GT) hk
 | st2 w a b=>exact .mk (.inr (.inr ⟨_,rfl⟩)) (λh=>absurd h GS) (λh=>absurd h GT) hk
theorem jw(hg:∀w g,giv w=some g→vG g):∀(t:T)(p:List Int)(o:Ow)(i:Nat),vG (nt c src giv t p o i)
 | .num n,p,o,i=>ja hg (by intro n h;cases h)
 | .name n,p,o,i=>ja hg (by intro n h;cases h)
 | .st0 n,p,o,i=>ja hg (by intro n h;cases h)
 | .sum a b,p,o,i=>ja hg (by
  intro n h;simp only[aB,aF,or_false]at h;rcases h with rfl|rfl
  ·exact jw hg a _ _ _
  ·exact jw hg b _ _ _)
 | .less a b,p,o,i=>ja hg (by
  intro n h;simp only[aB,aF,or_false]at h;rcases h with rfl|rfl
  ·exact jw hg a _ _ _
  ·exact jw hg b _ _ _)
 | .cho a b d,p,o,i=>ja hg (by
  intro n h;simp only[aB,aF,or_false]at h;rcases h with rfl|rfl|rfl
  ·exact jw hg a _ _ _
  ·exact jw hg b _ _ _
  ·exact jw hg d _ _ _)
 | .lt w a b,p,o,i=>ja hg (by
  intro n h;simp only[aB,aF,or_false]at h;rcases h with rfl|rfl
  ·exact jw hg a _ _ _
  ·exact jw hg b _ _ _)
 | .st1 w a,p,o,i=>ja hg (by
  intro n h;simp only[aB,aF,or_false]at h;subst h;exact jw hg a _ _ _)
 | .st2 w a b,p,o,i=>ja hg (by
  intro n h;simp only[aB,aF,or_false]at h;rcases h with rfl|rfl
  ·exact jw hg a _ _ _
  ·exact jw hg b _ _ _)
theorem Ip{α β:Type}{P:Nat→α→β→Prop}{a b:α}{c d:β}:(∀(j:Nat) x y,[a,b][j]?=some x→[c,d][j]?=some y→P j x y)↔P 0 a c∧P 1 b d:=by
 constructor
 ·intro h;exact⟨h 0 a c rfl rfl,h 1 b d rfl rfl⟩
 ·rintro⟨h1,h2⟩ j x y hx hy
  match j,hx,hy with
  | 0,hx,hy=>cases hx;cases hy;exact h1
  | 1,hx,hy=>cases hx;cases hy;exact h2
  | j+2,hx,_=>cases hx
theorem Mo{α β:Type}{P:Nat→α→β→Prop}{a b c:α}{d e f:β}:(∀(j:Nat) x y,[a,b,c][j]?=some x→[d,e,f][j]?=some y→P j x y)↔P 0 a d∧P 1 b e∧P 2 c f:=by
 constructor
 ·intro h;exact⟨h 0 a d rfl rfl,h 1 b e rfl rfl,h 2 c f rfl rfl⟩
 ·rintro⟨h1,h2,h3⟩ j x y hx hy
  match j,hx,hy with
  | 0,hx,hy=>cases hx;cases hy;exact h1
  | 1,hx,hy=>cases hx;cases hy;exact h2
  | 2,hx,hy=>cases hx;cases hy;exact h3
  | j+3,hx,_=>cases hx
end SW
namespace S8
open PySem L2 SW S9
structure FB(f:Fo)(b:Ba)(fo ba:DK):Prop where
 f:∀w:Str,fP fo (.inr w:fI)=(f w).map V.int
 b:∀i:Int,fP ba (.inl i:fI)=(b i).map V.str
 n:∀w:Str,fP ba (.inr w:fI)=none
theorem FB.put{f:Fo}{b:Ba}{fo ba:DK}(h:FB f b fo ba)(x:Str)(i:Int):FB (lB f x i) (mC b i x) (gA fo (.inr x:fI) (.int i)) (gA ba (.inl i:fI) (.str x)):=by
 refine⟨λw=>?_,λj=>?_,λw=>?_⟩
 ·rw[jd];by_cases e:w=x
  ·subst e;rw[if_pos rfl,x0];rfl
  ·rw[if_neg (λz=>e (Sum.inr.inj z)),km e];exact h.f w
 ·rw[jd];by_cases e:j=i
  ·subst e;rw[if_pos rfl,yF];rfl
  ·rw[if_neg (λz=>e (Sum.inl.inj z)),pO e];exact h.b j
 ·rw[jd,if_neg (λz=>by cases z)];exact h.n w
theorem xt(g:Gs ws f b t n):∀{fo ba:DK},FB f b fo ba→ku t n fo ba:=by
 induction g with
 | num=>exact λ_=>.mk rfl rfl rfl λj a n h=>by simp[T.kids]at h
 | bound _ e1 e2=>exact λh=>.mk rfl ⟨by rw[h.f,e1];rfl,by show(fP _ (.inl _:fI)).getD _=_;rw[h.b,e2];rfl⟩ rfl λj a n h=>by simp[T.kids]at h
 | free _ e=>exact λh=>.mk rfl ⟨by rw[h.f,e];rfl,by show(fP _ (.inr _:fI)).getD _=_;rw[h.n];rfl⟩ rfl λj a n h=>by simp[T.kids]at h
 | sum _ _ i1 i2=>exact λh=>.mk rfl aI rfl (Ip.mpr ⟨i1 h,i2 h⟩)
 | less _ _ i1 i2=>exact λh=>.mk rfl aI rfl (Ip.mpr ⟨i1 h,i2 h⟩)
 | cho _ _ _ i1 i2 i3=>exact λh=>.mk rfl aI rfl (Mo.mpr ⟨i1 h,i2 h,i3 h⟩)
 | lt _ _ _ i1 i2=>exact λh=>.mk rfl aI rfl (Ip.mpr ⟨i1 h,i2 (h.put _ _)⟩)
theorem Nh:FB f0 Ki [] []:=⟨λ_=>rfl,λ_=>rfl,λ_=>rfl⟩
theorem FQ(g:Gs ws f b t n):t.size=gn n:=by
 induction g with
 | num=>rfl
 | bound=>rfl
 | free=>rfl
 | sum _ _ i1 i2=>simp only[T.size,gn,fj,i1,i2];lia
 | less _ _ i1 i2=>simp only[T.size,gn,fj,i1,i2];lia
 | cho _ _ _ i1 i2 i3=>simp only[T.size,gn,fj,i1,i2,i3];lia
 | lt _ _ _ i1 i2=>simp only[T.size,gn,fj,i1,i2];lia
theorem rW(hm:vG m):∀{p:List Nat}{n:NT},vG n→vG (putN n p m)
 | [],_,_=>hm
 | i::p,.mk k x src path ks,.mk h1 h2 h3 h4=>by
  refine .mk h1 h2 h3 λy hy=>?_;rcases ck hy with z|rfl
  ·exact h4 y z
  ·cases e:ks[i]? with
   | none=>exact hm
   | some n=>exact rW hm (h4 n (aZ e))
theorem zt:∀{p:List Nat}{n m:NT},vG n→getN n p=some m→vG m
 | [],n,m,h,e=>by cases n;cases e;exact h
 | i::p,.mk k x src path ks,m,.mk h1 h2 h3 h4,e=>by
  rw[getN]at e;cases e2:ks[i]? with
  | none=>rw[e2]at e;cases e
  | some n=>rw[e2]at e;exact zt (h4 n (aZ e2)) e
theorem FJ(h:Ly bo t k n c):vG n:=by
 induction h with
 | zero=>exact jw (λw g e=>by cases e) t [] Ow.none 0
 | @succ k n c p w src path ks giv body _ _ g1 B ih=>
  have wm:=zt ih g1;cases wm with
  | mk _ _ _ h4=>exact rW (jw (nE B h4) body [] Ow.none 0) ih
theorem yM(h:nH rd W):nH rd W'→W=W':=by
 induction h generalizing W' with
 | nil=>
  intro h';generalize e:([]:List (List Rw))=rd at h';cases h' with
  | nil=>rfl
  | snoc=>simp at e
 | @snoc rd W R t _ hb ih=>
  intro h';generalize e:rd++[R]=rd' at h';cases h' with
  | nil=>simp at e
  | snoc a hb2=>obtain⟨rfl,e2⟩:=cf e rfl;cases e2;have:=ih a;subst this;rw[hb]at hb2;cases hb2;rfl
theorem Kd(O:wX bo ws)(ht:∀w,t.out w→w∈ws)(en:yK bo t F ws st W tt):∃n c,Ly bo t st.k n c∧fst n=none∧Gs st.ws f0 Ki tt n∧nW n=(io (W.map Prod.snd) st.R).map cv:=by
 obtain⟨n,c,W',S⟩:=sL O ht en.rch en.few;have:=yM S.wr en.wr;subst this;have tr:=S.tr;rw[en.emp]at tr;have tr:TR W' ws st.ws f0 Ki (rI st.R) n:=by simpa using tr
 obtain⟨t',e,g,hs⟩:=xq tr;rw[en.out]at e;cases e;exact⟨n,c,S.ly,oK g.ns,g,hs⟩
theorem sQ(h:∀x,x∈ws↔∃y∈[t,bo.x,bo.y,bo.z],y.out x):wX bo ws∧∀w,t.out w→w∈ws:=
 ⟨⟨λw z=>(h w).mpr ⟨bo.x,by simp,z⟩,λw z=>(h w).mpr ⟨bo.y,by simp,z⟩,λw z=>(h w).mpr ⟨bo.z,by simp,z⟩⟩,λw z=>(h w).mpr ⟨t,by simp,z⟩⟩
end S8
namespace S9
open PySem L2 SW
variable {K:aA}{vs:List V}{H:Hp}{Q:VK}{E:XK}{C D:Addr}
def md:Sp:=λvs H Q _=>∃(l:Addr)(v1 v2 v3:V)(bo:Bo),vs=[.ref l]∧H l=some (.lst [v1,v2,v3])∧vD H v1 v2 v3 bo∧
 ∀(l':Addr)(w1 w2 w3:V)(H':Hp),dy H H'→H l'=none→H' l'=some (.lst [w1,w2,w3])→vD H' w1 w2 w3 bo→Q (.ref l') H'
theorem MH(h:md vs H Q E):L0 K (gf Q) (start ["_law_book"] vs) H:=by
 obtain⟨l,v1,v2,v3,bo,rfl,hl,B,k⟩:=h
 let bs:List (Str×List Str×G):=[("star",[],gZ bo.x),("sta",[qw bo.e],gZ bo.y),("st",[qw bo.e,zB bo.e],gZ bo.z)]
 have hget:∀(i:Nat)(x:V),[v1,v2,v3][i]?=some x→∃b,bs[i]?=some b∧kY H b.1 b.2.1 b.2.2 x:=λi x hx=>by
  match i,hx with
  | 0,hx=>cases hx;exact⟨_,rfl,B.a⟩
  | 1,hx=>cases hx;exact⟨_,rfl,B.b⟩
  | 2,hx=>cases hx;exact⟨_,rfl,B.c⟩
  | n+3,hx=>simp at hx
 refine⟨eG.of hl,?_⟩;refine⟨λi m zs H'=>m=3-i∧i≤3∧zs.length=i∧dy H H'∧∀(j:Nat) z b,zs[j]?=some z→bs[j]?=some b→kY H' b.1 b.2.1 b.2.2 z,⟨3,by simp,aS _,rfl,λ_ _ h=>h,λj z v h=>by simp at h⟩,?_⟩;rintro i m zs H' ⟨rfl,hi,hz,s2,hw⟩;by_cases hlt:i<3
 ·refine .inr ⟨⟨_,[v1,v2,v3][i]'(by simpa using hlt),eG.of (s2 _ _ hl),aT _⟩,λx H2 y=>?_⟩;obtain⟨e,y⟩:=y;subst e;have hx:=y _ (eG.of (s2 _ _ hl));obtain⟨b,eb,q,p,v,rfl,h1,h2,h4⟩:=hget i x hx;have h1':=s2 _ _ h1;refine⟨eA.of h1',rfl,eA.of h1',rfl,.inl (eG.of (s2 _ _ h2)),λp' hp'=>?_⟩;have s3:=dR (o:=.lst (b.2.1.map V.str)) hp';have g3:(upd H2 p' (.lst (b.2.1.map V.str))) p'=some (.lst (b.2.1.map V.str)):=dO;generalize upd H2 p' (.lst (b.2.1.map V.str))=H3 at s3 g3⊢;refine⟨eA.of (s3 _ _ h1'),rfl,fG,λq' hq'=>?_⟩;have s4:=dR (o:=.tup [.str b.1,.ref p',v]) hq';have s34:=s3.trans s4;refine⟨by rw[hz,sizeLine_eq];lia,3-(i+1),by lia,rfl,hlt,by simp[hz],s2.trans s34,λj z c e1 e2=>?_⟩;rcases bK j zs.length with hj|hj
  ·rw[aw hj]at e1;exact(hw j z c e1 e2).mono s34
  ·have hj2:j=i:=by have:=(aK.mp e1).1;rw[aD,bA]at this;lia
   subst hj2;rw[bJ hj,hz,bH]at e1;rw[eb]at e2;cases e2;have:z=.ref q':=by simpa using e1.symm
   exact⟨q',p',v,this,dO,s4 _ _ g3,(h4.mono (dY s2)).mono (dY s34)⟩
 ·have e:i=3:=by lia
  subst e;refine .inl ⟨⟨_,eG.of (s2 _ _ hl),by simp⟩,by rw[hz,sizeLine_eq];lia,λl' hl'=>?_⟩
  match zs,hz with
  | [w1,w2,w3],_=>have s3:=dR (o:=.lst [w1,w2,w3]) hl';exact k l' w1 w2 w3 _ (s2.trans s3) (s2.free hl') dO ⟨(hw 0 w1 _ rfl rfl).mono s3,(hw 1 w2 _ rfl rfl).mono s3,(hw 2 w3 _ rfl rfl).mono s3⟩
theorem gF(h:∀w k,S w k→S' w k):∀{t:T},WT S t→WT S' t
 | .num _,a=>a
 | .name _,a=>a
 | .sum _ _,a=>⟨gF h a.1,gF h a.2⟩
 | .less _ _,a=>⟨gF h a.1,gF h a.2⟩
 | .cho _ _ _,a=>⟨gF h a.1,gF h a.2.1,gF h a.2.2⟩
 | .lt _ _ _,a=>⟨a.1,gF h a.2.1,gF h a.2.2⟩
 | .st0 _,a=>h _ _ a
 | .st1 _ _,a=>⟨h _ _ a.1,gF h a.2⟩
 | .st2 _ _ _,a=>⟨h _ _ a.1,gF h a.2.1,gF h a.2.2⟩
theorem sF:SF "star" 0:=if_pos rfl
theorem A4:SF "sta" 1:=by unfold SF kn;rw[if_neg KN.symm,if_pos rfl]
theorem Jc:SF "st" 2:=by unfold SF kn;rw[if_neg FI.symm,if_neg KM.symm,if_pos rfl]
theorem pF(h:mI w k):SF w k:=by
 rcases h with⟨rfl,rfl⟩|⟨rfl,rfl⟩|⟨rfl,rfl⟩
 ·exact Jc
 ·exact A4
 ·exact sF
theorem E2(h:Km w k):SF w k:=by
 rcases h with⟨rfl,rfl⟩|⟨rfl,rfl⟩
 ·exact sF
 ·exact A4
theorem E3(h:Kn w k):SF w k:=by obtain⟨rfl,rfl⟩:=h;exact sF
theorem vU(h:SF w k):w.length≤1000:=by
 unfold SF kn at h;split at h
 ·rename_i e;subst e;decide
 ·split at h
  ·rename_i e;subst e;decide
  ·split at h
   ·rename_i e;subst e;decide
   ·cases h
def Eo(P:G→Prop)(g:G):Prop:=∀x,wZ x g→P x
theorem Eo.mk(h:P g)(k:∀x∈g.kids,Eo P x):Eo P g:=λx i=>by
 cases i with
 | refl=>exact h
 | kid hk i=>exact k _ hk x i
def Sh(g:G):Prop:=∀k w ks,g=.word k w ks→w.length≤1000
theorem jJ:∀{t:T},WT SF t→Eo (λg=>JH g∧Sh g) (gZ t)
 | .num n,a=>.mk ⟨aI,λ_ _ _ e=>by cases e⟩ (λx hx=>by simp[gZ,G.kids]at hx)
 | .name n,a=>.mk ⟨aI,λ_ _ _ e=>by cases e⟩ (λx hx=>by simp[gZ,G.kids]at hx)
 | .sum p q,a=>.mk ⟨aI,λ_ _ _ e=>by cases e⟩ (λx hx=>by
  simp only[gZ,G.kids,aB,aF,or_false]at hx;rcases hx with rfl|rfl
  ·exact jJ a.1
  ·exact jJ a.2)
 | .less p q,a=>.mk ⟨aI,λ_ _ _ e=>by cases e⟩ (λx hx=>by
  simp only[gZ,G.kids,aB,aF,or_false]at hx;rcases hx with rfl|rfl
  ·exact jJ a.1
  ·exact jJ a.2)
 | .cho p q r,a=>.mk ⟨aI,λ_ _ _ e=>by cases e⟩ (λx hx=>by
  simp only[gZ,G.kids,aB,aF,or_false]at hx;rcases hx with rfl|rfl|rfl
  ·exact jJ a.1
  ·exact jJ a.2.1
  ·exact jJ a.2.2)
 | .lt w p q,a=>.mk ⟨λe=>absurd e (by decide),λ_ _ _ e=>by cases e;have:=a.1.few;lia⟩ (λx hx=>by
  simp only[gZ,G.kids,aB,aF,or_false]at hx;rcases hx with rfl|rfl
  ·exact jJ a.2.1
  ·exact jJ a.2.2)
 | .st0 w,a=>.mk ⟨λ_=>a,λ_ _ _ e=>by cases e;exact vU a⟩ (λx hx=>by simp[gZ,G.kids]at hx)
 | .st1 w p,a=>.mk ⟨λ_=>a.1,λ_ _ _ e=>by cases e;exact vU a.1⟩ (λx hx=>by
  simp only[gZ,G.kids,aB,aF,or_false]at hx;subst hx;exact jJ a.2)
 | .st2 w p q,a=>.mk ⟨λ_=>a.1,λ_ _ _ e=>by cases e;exact vU a.1⟩ (λx hx=>by
  simp only[gZ,G.kids,aB,aF,or_false]at hx;rcases hx with rfl|rfl
  ·exact jJ a.2.1
  ·exact jJ a.2.2)
theorem As(h:lD H s v):FV H v:=by obtain⟨q,pp,e,h1,h2⟩:=h;refine⟨q,pp,s.1,s.2.map λi:Nat=>(i:Int),e,h1,?_⟩;rw[h2,cC];rfl
theorem wR:∀{as:List α}{vs:List V}{v:V},Al A as vs→v∈vs→∃a,A a v
 | _,_,_,.cons h r,m=>by
  rcases aB.mp m with rfl|m
  ·exact⟨_,h⟩
  ·exact wR r m
end S9
namespace S9
open PySem L2 SW
variable {K:aA}{vs:List V}{H:Hp}{Q:VK}{E:XK}{C D Ns Nn Np Se:Addr}
theorem CT(h:vE H l (w,ps,t) u):kY H w ps (gZ t) u:=by obtain⟨q,p,v,e,h1,h2,_,h4⟩:=h;exact⟨q,p,v,e,h1,h2,i8 h4⟩
end S9
namespace S8
open PySem L2 SW S9
variable {K:aA}{vs:List V}{H:Hp}{Q:VK}{E:XK}{C D:Addr}
theorem E4(h:WT S0 t):WT SF t:=gF (λw k z=>z.elim) h
theorem pM(w:WT SF t)(h:t.size≤n)(hn:n≤100):(gZ t).size≤5000∧∀x,wZ x (gZ t)→JH x:=⟨by rw[gr];lia,λx i=>(jJ w x i).1⟩
theorem CW(B:tY bo)(w:WT SF t)(hz:t.size≤40)(hK:∀j n c,Ly bo t j n c→j≤F→j≤10):yL bo t F:=by
 have bt:∀(u:T)(n:Nat),WT SF u→u.size≤40→n≤2→BT u [] n:=λu n hw hz hn=>by have:=u.names_len;exact⟨hw,by simp;lia,by lia,by lia,by lia⟩
 have w1:=E4 B.w1;have w2:WT SF bo.y:=gF (λw k=>E3) B.w2;have w3:WT SF bo.z:=gF (λw k=>E2) B.w3;have z1:=B.z1;have z2:=B.z2.1;have z3:=B.z3.1;have bk:tV bo:=⟨bt _ _ w1 (by lia) (by lia),bt _ _ w2 (by lia) (by lia),bt _ _ w3 (by lia) (by lia)⟩;have bm:BT t [] 0:=bt _ _ w hz (by lia);refine⟨bk,bm,λws hws hiff st r hk=>?_⟩;obtain⟨O,ht⟩:=sQ hiff;exact Az (k:=0) B bk w bm O ht hz hws hK r hk
theorem Ia(ly:Ly bo t k n c)(hk:k≤m)(h:k≤F→fst n=none):∀j n' c',Ly bo t j n' c'→j≤F→j≤m:=λj n' c' l hj=>by
 by_cases e:k≤F
 ·exact aY (ly.le_end l (h e)) hk
 ·lia
theorem xn(ly:Ly bo t k n c)(h:k≤F→fst n=none)(hws:∀x,x∈ws↔∃y∈[t,bo.x,bo.y,bo.z],y.out x)(r:tX bo F (st0 t ws) st)(hF:F<st.k):F<k:=by
 obtain⟨O,ht⟩:=sQ hws;obtain⟨j,n',c',p,ly2,hj,hp⟩:=BH O ht r hF;rcases bK F k with z|z
 ·exact z
 ·have hn:=h z;have h1:=ly.le_end ly2 hn;have:j=k:=by lia
  subst this;obtain⟨rfl,_⟩:=ly.uniq ly2;rw[hn]at hp;cases hp
theorem x6(ly:Ly bo t k n c)(h:k≤F→fst n=none)(en:yK bo t F ws st W tt):k≤F∧st.k=k∧Gs st.ws f0 Ki tt n∧nW n=(io (W.map Prod.snd) st.R).map cv:=by
 obtain⟨O,ht⟩:=sQ en.ws_;obtain⟨n',c',ly2,hn2,g,hs⟩:=Kd O ht en;have h1:=ly2.le_end ly hn2;have hk:k≤F:=aY h1 en.few;have h2:=ly.le_end ly2 (h hk);have e:st.k=k:=by lia
 rw[e]at ly2;obtain⟨rfl,_⟩:=ly.uniq ly2;exact⟨hk,e,g,hs⟩
end S8
namespace S8
open PySem L2 SW S9
variable {K:aA}{vs:List V}{H H₀:Hp}{Q:VK}{E:XK}
def mT(ol tl:Addr)(H:Hp):Hp:=λb=>if b=ol∨b=tl then none else H b
theorem qJ:mT ol tl (upd H ol o)=mT ol tl H:=by
 funext b;unfold mT;by_cases h:b=ol∨b=tl
 ·rw[if_pos h,if_pos h]
 ·rw[if_neg h,if_neg h,db (λz=>h (.inl z))]
theorem nZ:mT ol tl (upd H tl o)=mT ol tl H:=by
 funext b;unfold mT;by_cases h:b=ol∨b=tl
 ·rw[if_pos h,if_pos h]
 ·rw[if_neg h,if_neg h,db (λz=>h (.inr z))]
theorem je(s:dy H H'):dy (mT ol tl H) (mT ol tl H'):=λb o e=>by
 unfold mT at e⊢;by_cases h:b=ol∨b=tl
 ·rw[if_pos h]at e;cases e
 ·rw[if_neg h]at e⊢;exact s b o e
theorem nc:dy (mT ol tl H) H:=λb o e=>by
 unfold mT at e;by_cases h:b=ol∨b=tl
 ·rw[if_pos h]at e;cases e
 ·rw[if_neg h]at e;exact e
theorem lK{b:Addr}{o:HO}(h:H b=some o)(h1:b≠ol)(h2:b≠tl):mT ol tl H b=some o:=by unfold mT;rw[if_neg (λz=>z.elim h1 h2)];exact h
abbrev Sw(w:Str):Prop:=w.length≤300
def lV(H:Hp)(e:RE)(u:V):Prop:=∃(q l:Addr)(v:V),u=.ref q∧H q=some (.tup [v,.ref l])∧gG H e.1 v∧H l=some (.lst (e.2.map V.str))∧e.2.length+e.1.size≤1000∧jo Sw e.1
theorem lV.same(s:dy H H')(h:lV H e u):lV H' e u:=by obtain⟨q,l,v,e1,h1,h2,h3,r⟩:=h;exact⟨q,l,v,e1,s _ _ h1,h2.mono (dY s),s _ _ h3,r⟩
theorem Io{P:Str→Prop}{t a:T}(h:jo P t)(ha:a∈t.kids):jo P a:=by
 cases t<;>simp only[T.kids,aB,aF,or_false]at ha
 case sum=>exact ha.elim (λy=>y▸h.1) λy=>y▸h.2
 case less=>exact ha.elim (λy=>y▸h.1) λy=>y▸h.2
 case cho=>exact ha.elim (λy=>y▸h.1) λz=>z.elim (λy=>y▸h.2.1) λy=>y▸h.2.2
 case lt=>exact ha.elim (λy=>y▸h.2.1) λy=>y▸h.2.2
 case st1=>exact ha▸h
 case st2=>exact ha.elim (λy=>y▸h.1) λy=>y▸h.2
structure vA(H₀ H:Hp)(ol tl:Addr)(oz st:List RE)(ous tus:List V):Prop where
 same:dy H₀ H
 n1:H₀ ol=none
 n2:H₀ tl=none
 ne:ol≠tl
 ol_:H ol=some (.lst ous)
 tl_:H tl=some (.lst tus)
 el:Al (lV (mT ol tl H)) oz ous
 er:Al (lV (mT ol tl H)) st.reverse tus
theorem vA.grow(B:vA H₀ H ol tl oz st ous tus)(s:dy H H'):vA H₀ H' ol tl oz st ous tus:=
 ⟨B.same.trans s,B.n1,B.n2,B.ne,s _ _ B.ol_,s _ _ B.tl_,B.el.mono λ_ _=>lV.same (je s),B.er.mono λ_ _=>lV.same (je s)⟩
theorem vA.push(B:vA H₀ H ol tl oz st ous tus)(he:lV (mT ol tl H) e u):vA H₀ (upd H tl (.lst (tus++[u]))) ol tl oz (e::st) ous (tus++[u]):=
 ⟨eF B.same B.n2,B.n1,B.n2,B.ne,by rw[db B.ne];exact B.ol_,dO,by rw[nZ];exact B.el,by rw[nZ,ao];exact B.er.append (.one he)⟩
theorem vA.put(B:vA H₀ H ol tl oz st ous tus)(he:lV (mT ol tl H) e u):vA H₀ (upd H ol (.lst (ous++[u]))) ol tl (oz++[e]) st (ous++[u]) tus:=
 ⟨eF B.same B.n1,B.n1,B.n2,B.ne,dO,by rw[db B.ne.symm];exact B.tl_,by rw[qJ];exact B.el.append (.one he),by rw[qJ];exact B.er⟩
theorem vA.pop(B:vA H₀ H ol tl oz (e::st) ous (tus++[u]))(h:Al (lV (mT ol tl H)) st.reverse tus):vA H₀ (upd H tl (.lst tus)) ol tl oz st ous tus:=
 ⟨eF B.same B.n2,B.n1,B.n2,B.ne,by rw[db B.ne];exact B.ol_,dO,by rw[nZ];exact B.el,by rw[nZ];exact h⟩
theorem zK(h:e.1=.lt w a b)(hk:e.1.kids[1]?=some k):(kU e)[1]?=some (k,e.2++[w]):=by obtain⟨t,o⟩:=e;cases(show t=_ from h);cases hk;rfl
theorem Bu(h:∀w a b,e.1=.lt w a b→j≠1)(hk:e.1.kids[j]?=some k):(kU e)[j]?=some (k,e.2):=by
 obtain⟨t,o⟩:=e;cases t with
 | lt w a b=>
  match j,hk with
  | 0,hk=>cases hk;rfl
  | 1,hk=>exact absurd rfl (h w a b rfl)
  | j+2,hk=>cases hk
 | num n=>cases hk
 | name n=>cases hk
 | st0 n=>cases hk
 | sum a b=>match j,hk with
  | 0,hk=>cases hk;rfl
  | 1,hk=>cases hk;rfl
  | j+2,hk=>cases hk
 | less a b=>match j,hk with
  | 0,hk=>cases hk;rfl
  | 1,hk=>cases hk;rfl
  | j+2,hk=>cases hk
 | cho a b c=>match j,hk with
  | 0,hk=>cases hk;rfl
  | 1,hk=>cases hk;rfl
  | 2,hk=>cases hk;rfl
  | j+3,hk=>cases hk
 | st1 w a=>match j,hk with
  | 0,hk=>cases hk;rfl
  | j+1,hk=>cases hk
 | st2 w a b=>match j,hk with
  | 0,hk=>cases hk;rfl
  | 1,hk=>cases hk;rfl
  | j+2,hk=>cases hk
def GC(K:aA):TS:=(eD (dz lN (dN 6) (fR (dM (dz (eC K) (dN 5) (tC (.int 1))) dW))) (dX 9))
def GB(K:aA):TS:=(fg (kH (eI (dz kA (dz (eC K) (dN 5) (tC (.int 0))) (tC (.str "let")))) (eI (dz kA (dN 8) (tC (.int 1))))) (GC K) fQ)
def AK(K:aA):TS:=(de (eD (dN 6) (dX 9)) (de (GB K) (fD (jm K "list" eY (dN 4) (dM (fJ (dM (dz (gL K) (dN 7) (dN 8)) (dM (dN 9) dW))) dW)))))
def GA(K:aA):TS:=(de (eD (mW K "list" mf (dN 4)) (lz K 2 (gH (dX 5) (gH (dX 6) mB)))) (de (fD (jm K "list" eY (dN 3) (dM (fJ (dM (dN 5) (dM (dN 6) dW))) dW))) (de (eD (eN gQ [] E0 (dM (dN 5) dW)) (dX 7)) (iK (oY (dM (dz iU (gz (gN K) (dM (dN 7) dW)) (tC (.int 1))) (dM (mE gR (tC (.int 1))) (dM (mE gR (tC (.int 1))) dW)))) (dX 8) (AK K)))))
def vN(K:aA):TS:=(fD (jm K "list" eY (dN 13) (dM (dz (eC K) (dN 5) (tC (.int 1))) dW)))
def AJ(K:aA):TS:=(fg (eI (dz (E9 K false) (dz (eC K) (dN 5) (tC (.int 0))) (fR (dM (tC (.str "number")) (dM (tC (.str "name")) (dM (tC (.str "let")) (dM (tC (.str "stamp")) dW))))))) (vN K) fQ)
def Fz(K:aA):TS:=(eD (dz uR (dz (eC K) (dN 5) (tC (.int 1))) (dN 2)) (IU (dN 13) (tC (.int 1)) BN))
def nV(K:aA):TS:=(fg (xH (eI (dz kA (dz (eC K) (dN 5) (tC (.int 0))) (tC (.str "let")))) (kH (eI (dz kA (dz (eC K) (dN 5) (tC (.int 0))) (tC (.str "name")))) (eI (dz (E9 K false) (dz (eC K) (dN 5) (tC (.int 1))) (dN 6))))) (Fz K) fQ)
def AI(K:aA):TS:=(de (eD (gz (gN K) (dM (eN gQ [] E0 (dM (dN 5) dW)) dW)) (dX 11)) (de (eD (xG K (mL (jE K) (dN 10) (ft (dz iU (gz (gN K) (dM (dN 10) dW)) (dN 11))) fi)) (dX 12)) (de (eD (mL (jE K) (dN 10) fi (ft (dz iU (gz (gN K) (dM (dN 10) dW)) (dN 11)))) (dX 10)) (de (eD (fR (dM (dz (eC K) (dN 5) (tC (.int 0))) dW)) (dX 13)) (de (AJ K) (de (nV K) (fD (jm K "list" eY (dN 10) (dM (gz (nC K) (dM (dz lN (dN 13) (dN 12)) dW)) dW)))))))))
def Lf(K:aA):TS:=(de (eD (fR dW) (dX 3)) (de (eD (fR (dM (fJ (dM (dN 0) (dM (dN 1) dW))) dW)) (dX 4)) (de (iE (eI (dz (lM K) (dN 4) (fR dW))) (GA K)) (de (eD (fR dW) (dX 10)) (de (iK (Bz K (dN 3)) (lz K 2 (gH (dX 5) (gH (dX 6) mB))) (AI K)) (fT (dz (gL K) (dN 10) (tC (.int 0)))))))))
def Ny(H₀ H:Hp)(σ0:Option V→Option V→St)(ol tl il:Addr)(e:RE)(oz st:List RE)(ous tus us:List V)(i:Nat)(σ:St)(H':Hp):Prop:=
 ∃j8 j9 tus',σ=σ0 j8 j9∧dy (mT ol tl H) (mT ol tl H')∧H' il=some (.lst us)∧tus'.length+i=tus.length+us.length∧vA H₀ H' ol tl oz ((kU e).drop i++st) ous tus'
theorem vZ{D:iT}(B:vA H₀ H ol tl oz st ous tus)(hp:H p=some (.tup (hd e.1++ks)))(hl:mT ol tl H l=some (.lst (e.2.map V.str)))(f1:e.2.length+e.1.size≤1000)(wl:jo Sw e.1)(hil:H il=some (.lst us))(nil:il≠tl)(dk:gC H e.1.kids us)(few:tus.length≤4000)
  (hD:∀(tus':List V)(H':Hp)(j8 j9:Option V),vA H₀ H' ol tl oz (kU e++st) ous tus'→D.nx [v0,v1,v2,some (.ref ol),some (.ref tl),some (.ref p),some (.ref l),some (.ref il),j8,j9,none,none,none,none] H'):
  (iK (oY (dM (dz iU (gz (gN K) (dM (dN 7) dW)) (tC (.int 1))) (dM (mE gR (tC (.int 1))) (dM (mE gR (tC (.int 1))) dW)))) (dX 8) (AK K)) D
   [v0,v1,v2,some (.ref ol),some (.ref tl),some (.ref p),some (.ref l),some (.ref il),j8,j9,none,none,none,none] H:=by
 have hlen:=dk.length;have hk3:e.1.kids.length≤3:=by cases e.1<;>simp[T.kids]
 refine⟨.inl (eG.of hil),(us.length:Int)-1,-1,rfl,⟨by lia,by lia,by lia,by lia⟩,?_⟩;rw[mK];have hpr:=lK hp (fB hp B.ol_ (by intro z;cases z)) (fB hp B.tl_ (by intro z;cases z));have dkr:gC (mT ol tl H) e.1.kids us:=dk.mono λb xs z=>lK z (fB z B.ol_ (by intro z;cases z)) (fB z B.tl_ (by intro z;cases z));refine qW (n:=us.length) (k:=8) (Ny H₀ H (λj8 j9=>[v0,v1,v2,some (.ref ol),some (.ref tl),some (.ref p),some (.ref l),some (.ref il),j8,j9,none,none,none,none]) ol tl il e oz st ous tus us) ⟨_,_,tus,rfl,λ_ _ z=>z,hil,rfl,by rw[bx (by rw[lq];lia)];exact B⟩ ?_ ?_
 ·clear B;rintro i σ H3 hi ⟨j8,j9,tus',rfl,sr,hil3,hl',B3⟩;obtain⟨x,hx⟩:∃x,us[i]?=some x:=⟨us[i],aT hi⟩;obtain⟨tk,htk,dx⟩:=pN dkr hx;have hsz:=qR (aZ htk);have hp3:H3 p=some (.tup (hd e.1++ks)):=nc _ _ (sr _ _ hpr);have hl3:=sr _ _ hl;have app:∀(nl:Addr)(ws:List Str)(H4:Hp),dy H3 H4→mT ol tl H4 nl=some (.lst (ws.map V.str))→ws.length≤e.2.length+1→(kU e)[i]?=some (tk,ws)→
    (fD (jm K "list" eY (dN 4) (dM (fJ (dM (dz (gL K) (dN 7) (dN 8)) (dM (dN 9) dW))) dW))) (D.lp (Ny H₀ H (λj8 j9=>[v0,v1,v2,some (.ref ol),some (.ref tl),some (.ref p),some (.ref l),some (.ref il),j8,j9,none,none,none,none]) ol tl il e oz st ous tus us i))
     [v0,v1,v2,some (.ref ol),some (.ref tl),some (.ref p),some (.ref l),some (.ref il),some (.int (i:Int)),some (.ref nl),none,none,none,none] H4:=by
   intro nl ws H4 s4 hnl hwl hki;have B4:=B3.grow s4;refine⟨.inl ⟨rfl,_,eG.of B4.tl_⟩,eG.of (s4 _ _ hil3),dS hx,fG,eZ λq H5 hq s5 g5=>?_⟩;have B5:=B4.grow s5;have sr5:=sr.trans ((je s4).trans (je s5));have hat:lV (mT ol tl H5) (tk,ws) (.ref q):=⟨q,nl,x,rfl,lK g5 (fB g5 B5.ol_ (by intro z;cases z)) (fB g5 B5.tl_ (by intro z;cases z)),dx.mono (dY sr5),je s5 _ _ hnl,by show ws.length+tk.size≤1000;lia,Io wl (aZ htk)⟩;obtain⟨hki1,hki2⟩:=aK.mp hki;refine⟨B5.tl_,by rw[sizeLine_eq];lia,_,_,tus'++[.ref q],rfl,by rw[nZ];exact sr5,by rw[db nil];exact s5 _ _ (s4 _ _ hil3),by rw[aD,bA];lia,?_⟩;rw[bM hki1,hki2,aL];exact B5.push hat
  have plain:(∀w a b,e.1=.lt w a b→i≠1)→_:=λh=>app l e.2 H3 (λ_ _ z=>z) hl3 (by lia) (Bu h htk);refine⟨eA.of hp3,gq e.1 ks,rfl,?_⟩;refine⟨_,rfl,jI (λhlet=>?_) (λhn=>fK (plain λw a b h=>absurd (decide_eq_true (by rw[h];rfl)) hn))⟩;obtain⟨w,b1,b2,elt⟩:=m8 (V.str.inj (of_decide_eq_true hlet));refine⟨rfl,?_⟩;refine⟨_,rfl,jI (λh1=>?_) (λhn=>plain λw a b _ h=>absurd (decide_eq_true (by rw[h];rfl)) hn)⟩;have h1:i=1:=by have:=V.int.inj (of_decide_eq_true h1);lia
  have hw9:pS (hd e.1++ks) 1=some (.str w):=by rw[elt];exact dS (j:=1) rfl
  refine⟨eA.of hp3,hw9,fG,eZ λl1 H4 hl1 s4 g4=>?_⟩;have hl4:=s4 _ _ (nc _ _ hl3);refine⟨hl4,g4,by rw[aX,sizeLine_eq];simp only[aE,am];lia,λnl hnl=>?_⟩;have s5:=dR (o:=.lst (e.2.map V.str++[.str w])) hnl;have nno:nl≠ol:=λz=>by subst z;rw[s4 _ _ B3.ol_]at hnl;cases hnl
  have nnt:nl≠tl:=λz=>by subst z;rw[s4 _ _ B3.tl_]at hnl;cases hnl
  exact app nl (e.2++[w]) _ (s4.trans s5) (lK (by rw[dO,bq];rfl) nno nnt) (by simp) (by subst h1;exact zK elt htk)
 ·rintro σ H3 ⟨j8,j9,tus',rfl,sr,hil3,hl',B3⟩;exact hD _ _ _ _ B3
def nP(fl:Addr)(H H':Hp):Prop:=∀b o,b≠fl→H b=some o→H' b=some o
theorem nP.same(h:nP fl H H1)(s:dy H1 H2):nP fl H H2:=λb o n e=>s _ _ (h b o n e)
theorem nP.upd(h:nP fl H H1):nP fl H (L2.upd H1 fl o):=λb u n e=>by rw[db n];exact h b u n e
theorem dF{a b:Str}(h:a≠b):decide (V.str a=V.str b)=false:=decide_eq_false λz=>h (V.str.inj z)
theorem nP.refl:nP fl H H:=λ_ _ _ e=>e
theorem zT(ws:List Str):(ws.map V.str).all m9=true:=by rw[List.all_map];exact List.all_eq_true.mpr λx _=>rfl
theorem Ec(a w:Str):Cm (.str a) (.str w)=decide (a=w):=rfl
theorem si(w:Str):∀ws:List Str,rD (.str w) (ws.map V.str)=decide (w∈ws)
 | []=>rfl
 | a::ws=>by
  have e:rD (.str w) ((a::ws).map V.str)=(Cm (.str a) (.str w)||rD (.str w) (ws.map V.str)):=rfl;rw[e,si w ws,Ec];by_cases h:a=w
  ·subst h;simp
  ·have h':¬w=a:=λz=>h z.symm;by_cases k:w∈ws<;>simp[h,h',k]
theorem BF{u:TS}{D:iT}{e:RE}(wl:jo Sw e.1)(ht:tail.length≤300)(hp:H p=some (.tup (hd e.1++ks)))(hl:H l=some (.lst (e.2.map V.str)))(nlf:l≠fl)(hfl:H fl=some (.lst [.str (kind e.1)]))
  (hD:∀(H':Hp),nP fl H H'→H' fl=some (.lst (hd (zi tail e)))→u D [v0,v1,some (.str tail),v3,v4,some (.ref p),some (.ref l),v7,v8,v9,v10,v11,v12,some (.ref fl)] H'):
  (de (AJ K) (de (nV K) u)) D [v0,v1,some (.str tail),v3,v4,some (.ref p),some (.ref l),v7,v8,v9,v10,v11,v12,some (.ref fl)] H:=by
 have npf:p≠fl:=fB hp hfl (by intro z;cases z);refine⟨eA.of hp,gq e.1 ks,fG,eZ λl0 H1 hl0 s1 g1=>?_⟩;refine⟨.inl (eG.of g1),rfl,rfl,_,rfl,?_⟩;have b1:nP fl H H1:=nP.refl.same s1;have hfl1:=s1 _ _ hfl;have hp1:=s1 _ _ hp;obtain⟨t,o⟩:=e;have two:∀(k:Str)(x:V)(kk:List V),(∀w,x=.str w→True)→hd t=[.str k,x]→kind t=k→rD (.str k) [.str "number",.str "name",.str "let",.str "stamp"]=true→k≠"let"→k≠"name"→hd (zi tail (t,o))=[.str k,x]→
   (if(if false=true then !rD (.str (kind t)) [.str "number",.str "name",.str "let",.str "stamp"]else rD (.str (kind t)) [.str "number",.str "name",.str "let",.str "stamp"])=true then vN K (D.thn (de (nV K) u)) [v0,v1,some (.str tail),v3,v4,some (.ref p),some (.ref l),v7,v8,v9,v10,v11,v12,some (.ref fl)] H1 else fQ (D.thn (de (nV K) u)) [v0,v1,some (.str tail),v3,v4,some (.ref p),some (.ref l),v7,v8,v9,v10,v11,v12,some (.ref fl)] H1):=by
  intro k x kk _ ht hk hin n1 n2 hr;have hp:H p=some (.tup ([.str k,x]++ks)):=by rw[←ht];exact hp
  have hp1:=s1 _ _ hp;refine fW (by rw[hk];exact hin) ⟨.inl ⟨rfl,_,eG.of hfl1⟩,eA.of hp1,dS (j:=1) rfl,hfl1,fG,?_⟩;have b2:nP fl H (upd H1 fl (.lst ([.str (kind t)]++[x]))):=b1.upd;have hp2:=b2 _ _ npf hp;refine⟨eA.of hp2,dS (j:=0) rfl,rfl,_,rfl,eK (dF n1) ?_⟩;exact⟨eA.of hp2,dS (j:=0) rfl,rfl,_,rfl,eK (dF n2) (fK (hD _ b2 (by rw[hr,dO,hk];rfl)))⟩
 have one:∀(k:Str),hd t=[.str k]→kind t=k→rD (.str k) [.str "number",.str "name",.str "let",.str "stamp"]=false→k≠"let"→k≠"name"→hd (zi tail (t,o))=[.str k]→
   (if(if false=true then !rD (.str (kind t)) [.str "number",.str "name",.str "let",.str "stamp"]else rD (.str (kind t)) [.str "number",.str "name",.str "let",.str "stamp"])=true then vN K (D.thn (de (nV K) u)) [v0,v1,some (.str tail),v3,v4,some (.ref p),some (.ref l),v7,v8,v9,v10,v11,v12,some (.ref fl)] H1 else fQ (D.thn (de (nV K) u)) [v0,v1,some (.str tail),v3,v4,some (.ref p),some (.ref l),v7,v8,v9,v10,v11,v12,some (.ref fl)] H1):=by
  intro k ht hk hin n1 n2 hr;have hp:H p=some (.tup ([.str k]++ks)):=by rw[←ht];exact hp
  have hp1:=s1 _ _ hp;refine eK (by rw[hk];exact hin) ?_;refine⟨eA.of hp1,dS (j:=0) rfl,rfl,_,rfl,eK (dF n1) ?_⟩;exact⟨eA.of hp1,dS (j:=0) rfl,rfl,_,rfl,eK (dF n2) (fK (hD _ b1 (by rw[hr,hfl1,hk])))⟩
 cases t with
 | num n=>exact two "number" (.int n) [] (λ_ _=>trivial) rfl rfl (by decide) (by decide) (by decide) rfl
 | st0 w=>exact two "stamp" (.str w) [] (λ_ _=>trivial) rfl rfl (by decide) (by decide) (by decide) rfl
 | st1 w a=>exact two "stamp" (.str w) [] (λ_ _=>trivial) rfl rfl (by decide) (by decide) (by decide) rfl
 | st2 w a b=>exact two "stamp" (.str w) [] (λ_ _=>trivial) rfl rfl (by decide) (by decide) (by decide) rfl
 | sum a b=>exact one "sum" rfl rfl (by decide) (by decide) (by decide) rfl
 | less a b=>exact one "less" rfl rfl (by decide) (by decide) (by decide) rfl
 | cho a b c=>exact one "choose" rfl rfl (by decide) (by decide) (by decide) rfl
 | name w=>
  refine fW (by simp only[kind];decide) ⟨.inl ⟨rfl,_,eG.of hfl1⟩,eA.of hp1,dS (j:=1) rfl,hfl1,fG,?_⟩;have b2:nP fl H (upd H1 fl (.lst ([.str "name"]++[.str w]))):=b1.upd;have hp2:=b2 _ _ npf hp;have hl2:=b2 _ _ nlf hl;refine⟨eA.of hp2,dS (j:=0) rfl,rfl,_,rfl,eK (dF (by decide)) ?_⟩;refine⟨eA.of hp2,dS (j:=0) rfl,rfl,_,rfl,fW (by decide) ?_⟩;refine⟨eA.of hp2,dS (j:=1) rfl,.inl (eG.of hl2),rfl,zT o,_,rfl,?_⟩;by_cases hw:w∈o
  ·refine fW ((si w o).trans (decide_eq_true hw)) ?_;have wl:w.length≤300:=wl;exact⟨eA.of hp2,dS (j:=1) rfl,by rw[sizeLine_eq];lia,dO,rfl,hD _ b2.upd (by rw[dO,zi,jc,if_pos hw];rfl)⟩
  ·exact eK ((si w o).trans (decide_eq_false hw)) (hD _ b2 (by rw[dO,zi,jc,if_neg hw];rfl))
 | lt w x y=>refine fW (by simp only[kind];decide) ⟨.inl ⟨rfl,_,eG.of hfl1⟩,eA.of hp1,dS (j:=1) rfl,hfl1,fG,?_⟩;have b2:nP fl H (upd H1 fl (.lst ([.str "let"]++[.str w]))):=b1.upd;have hp2:=b2 _ _ npf hp;have wl:w.length≤300:=wl.1;refine⟨eA.of hp2,dS (j:=0) rfl,rfl,_,rfl,fW (by decide) (oj ?_)⟩;exact⟨eA.of hp2,dS (j:=1) rfl,by rw[sizeLine_eq];lia,dO,rfl,hD _ b2.upd (by rw[dO];rfl)⟩
theorem Ic{t:T}{us:List V}(h:H q=some (.tup (hd t++us)))(d:gC H t.kids us):gG H t (.ref q):=by
 cases t with
 | num _=>cases d;exact⟨q,rfl,h⟩
 | name _=>cases d;exact⟨q,rfl,h⟩
 | st0 _=>cases d;exact⟨q,rfl,h⟩
 | st1 _ _=>cases d with|cons a d=>cases d;exact⟨q,_,rfl,h,a⟩
 | sum _ _=>cases d with|cons a d=>cases d with|cons b d=>cases d;exact⟨q,_,_,rfl,h,a,b⟩
 | less _ _=>cases d with|cons a d=>cases d with|cons b d=>cases d;exact⟨q,_,_,rfl,h,a,b⟩
 | lt _ _ _=>cases d with|cons a d=>cases d with|cons b d=>cases d;exact⟨q,_,_,rfl,h,a,b⟩
 | st2 _ _ _=>cases d with|cons a d=>cases d with|cons b d=>cases d;exact⟨q,_,_,rfl,h,a,b⟩
 | cho _ _ _=>cases d with|cons a d=>cases d with|cons b d=>cases d with|cons c d=>cases d;exact⟨q,_,_,_,rfl,h,a,b,c⟩
theorem uu:∀{a b:List T}{us:List V},gC H (a++b) us→gC H a (us.take a.length)∧gC H b (us.drop a.length)
 | [],b,us,h=>⟨by rw[am,av];exact .nil,h⟩
 | x::a,b,_,.cons h r=>by obtain⟨k1,k2⟩:=uu (a:=a) r;exact⟨.cons h k1,k2⟩
def wW(H:Hp)(z:Str)(F:List RE)(pus:List V):Prop:=gC H (F.map (zi z)) pus.reverse
theorem wW.len(h:wW H z F pus):pus.length=F.length:=by have:=gC.length h;rwa[bL,aX]at this
theorem wW.push(h:wW H z (kU e++r) pus)(k:fO H H')(hq:H' q=some (.tup (hd (zi z e)++(pus.drop (pus.length-e.1.kids.length)).reverse))):wW H' z (e::r) (pus.take (pus.length-e.1.kids.length)++[.ref q]):=by unfold wW at h⊢;rw[bq]at h;obtain⟨d1,d2⟩:=uu (gC.mono k h);rw[aX,lq,ci]at d1;rw[aX,lq,List.drop_reverse]at d2;rw[cm,ao,List.reverse_nil,ak,List.singleton_append,aW];exact .cons (Ic hq (by rw[Du];exact d1)) d2
theorem Hj{ip im ik n:Nat}{σ:St}{pl:Addr}{pus:List V}{u:TS}{D:iT}(hp:σ[ip]?=some (some (.ref pl)))(hm:σ[im]?=some (some (.int (n:Int))))(h1:ik≠ip)(h2:ik≠im)(hH:H pl=some (.lst pus))(hn:n≤pus.length)
  (hD:∀(kl pn:Addr)(H':Hp),dy H H'→H kl=none→H pn=none→kl≠pn→H' kl=some (.lst (pus.drop (pus.length-n)).reverse)→H' pn=some (.lst (pus.take (pus.length-n)))→u D ((σ.set ik (some (.ref kl))).set ip (some (.ref pn))) H'):
  (de (eD (xG K (mL (jE K) (dN ip) (ft (dz iU (gz (gN K) (dM (dN ip) dW)) (dN im))) fi)) (dX ik)) (de (eD (mL (jE K) (dN ip) fi (ft (dz iU (gz (gN K) (dM (dN ip) dW)) (dN im)))) (dX ip)) u)) D σ H:=by
 refine nmQ.of hp (nmQ.of hp ⟨.inl (eG.of hH),nmQ.of hm ⟨eG.of hH,λsl hsl=>?_⟩⟩);rw[rK hn];obtain⟨H1,s1,g1,e1⟩:=nw (o:=.lst (pus.drop (pus.length-n))) hsl;rw[e1];refine⟨eG.of g1,eZ λkl H2 hkl s2 g2=>?_⟩;have s12:=s1.trans s2;have hp2:(σ.set ik (some (.ref kl)))[ip]?=some (some (.ref pl)):=by rw[bz h1];exact hp
 have hm2:(σ.set ik (some (.ref kl)))[im]?=some (some (.int (n:Int))):=by rw[bz h2];exact hm
 have hH2:=s12 _ _ hH;refine nmQ.of hp2 (nmQ.of hp2 ⟨.inl (eG.of hH2),nmQ.of hm2 ⟨eG.of hH2,λpn hpn=>?_⟩⟩);rw[yB hn];have s3:=dR (o:=.lst (pus.take (pus.length-n))) hpn;exact hD kl pn _ (s12.trans s3) (s1.free hkl) (s12.free hpn) (dZ g2 hpn) (s3 _ _ g2) dO
theorem Hg{pn kl fl:Addr}{qus kus fr:List V}{D:iT}(h1:H pn=some (.lst qus))(h2:H kl=some (.lst kus))(h3:H fl=some (.lst fr))(f1:qus.length≤5000)(f2:kus.length≤5000)(f3:fr.length≤5000)
  (hD:∀(q:Addr)(H1:Hp),dy H H1→H1 q=some (.tup (fr++kus))→D.nx [v0,v1,v2,v3,v4,v5,v6,v7,v8,v9,some (.ref pn),v11,some (.ref kl),some (.ref fl)] (upd H1 pn (.lst (qus++[.ref q])))):
  (fD (jm K "list" eY (dN 10) (dM (gz (nC K) (dM (dz lN (dN 13) (dN 12)) dW)) dW))) D [v0,v1,v2,v3,v4,v5,v6,v7,v8,v9,some (.ref pn),v11,some (.ref kl),some (.ref fl)] H:=by
 refine⟨.inl ⟨rfl,_,eG.of h1⟩,h3,h2,by rw[sizeLine_eq];lia,eZ λl H1 hl s1 g1=>?_⟩;refine⟨l,_,rfl,.inl ⟨eG.of g1,eZ λq H2 hq s2 g2=>?_⟩⟩;exact⟨(s1.trans s2) _ _ h1,by rw[sizeLine_eq];lia,hD q H2 (s1.trans s2) g2⟩
theorem CF{g:TG}{tb:TS}{D:iT}{σ:St}(Pv:Nat→St→Hp→Prop)(h0:Pv 0 σ H)(hl:∀i σ H,i≤xs.length→Pv i σ H→eG K H a xs)
  (hs:∀i x σ H,i<xs.length→xs[xs.length-1-i]?=some x→Pv i σ H→g x σ H λσ2 H2=>tb (D.lp (Pv (i+1))) σ2 H2) (hd:∀σ H,Pv xs.length σ H→D.nx σ H):
  ∃W:Nat→Nat→St→Hp→Prop,(∃m,W 0 m σ H)∧∀i m σ H,W i m σ H→
   ((nK K a xs.length).stop i H∧D.nx σ H)∨((nK K a xs.length).go i H∧∃N:St→Hp→Prop,(∀σ' H',N σ' H'→∃m',m'<m∧W (i+1) m' σ' H')∧∀x H',(nK K a xs.length).yld i H x H'→g x σ H' λσ2 H2=>tb (D.lp (N)) σ2 H2):=by
 refine⟨λi m σ H=>m=xs.length-i∧i≤xs.length∧Pv i σ H,⟨_,rfl,aS _,h0⟩,?_⟩;rintro i m σ H ⟨rfl,hi,pv⟩;by_cases e:i=xs.length
 ·subst e;exact .inl ⟨rfl,hd _ _ pv⟩
 ·have hlt:i<xs.length:=by lia
  refine .inr ⟨⟨hlt,xs,xs[xs.length-1-i]'(by lia),hl _ _ _ hi pv,rfl,aT _⟩,Pv (i+1),λσ' H' h=>⟨xs.length-(i+1),by lia,rfl,hlt,h⟩,?_⟩;rintro x H' ⟨rfl,hx⟩;exact hs i x σ H' hlt (hx xs (hl _ _ _ hi pv)) pv
def uJ:Sp:=λvs H Q _=>∃(t:T)(v:V)(l:Addr)(tail:Str)(ws:List Str),vs=[v,.ref l,.str tail]∧gG H t v∧jo Sw t∧t.size≤900∧H l=some (.lst (ws.map V.str))∧ws.length≤50∧tail.length≤300∧∀(v':V)(H':Hp),dy H H'→gG H' (jc tail ws t) v'→Q v' H'
def Nl(H:Hp)(v:V)(l0:Addr)(tail:Str)(ol tl:Addr)(o:List RE)(m:Nat)(σ:St)(H':Hp):Prop:=∃(oz st rest:List RE)(ous tus:List V)(j5 j6 j7 j8 j9:Option V),σ=[some v,some (.ref l0),some (.str tail),some (.ref ol),some (.ref tl),j5,j6,j7,j8,j9,none,none,none,none]∧vA H H' ol tl oz st ous tus∧qh st rest∧oz++rest=o∧m=rest.length
def Ms(H4:Hp)(v:V)(l0:Addr)(tail:Str)(ol tl:Addr)(o:List RE)(n i:Nat)(σ:St)(H':Hp):Prop:=i≤n∧dy H4 H'∧∃(pl:Addr)(pus:List V)(F:List RE)(j5 j6 j7 j8 j9 j11 j12 j13:Option V),σ=[some v,some (.ref l0),some (.str tail),some (.ref ol),some (.ref tl),j5,j6,j7,j8,j9,some (.ref pl),j11,j12,j13]∧H4 pl=none∧H' pl=some (.lst pus)∧qh F (o.drop (n-i))∧wW H' tail F pus
theorem va{D:iT}(el:Al (lV H4) o ous)(hol:o.length≤900)(h4o:H4 ol=some (.lst ous))(ho:qh [(t,ws)] o)(ht:tail.length≤300)(J:Ms H4 v l0 tail ol tl o ous.length 0 σ H5)
  (kD:∀σ H',Ms H4 v l0 tail ol tl o ous.length ous.length σ H'→D.nx σ H') (e3:σ[3]?=some (some (.ref ol))):
  (iK (Bz K (dN 3)) (lz K 2 (gH (dX 5) (gH (dX 6) mB))) (AI K)) D σ H5:=by
 have hlen:=el.length;refine nmQ.of e3 ⟨eG.of (J.2.1 _ _ h4o),?_⟩;refine CF (K:=K) (a:=ol) (xs:=ous) (Ms H4 v l0 tail ol tl o ous.length) J (λi σ H' _ h=>eG.of (h.2.1 _ _ h4o)) ?_ kD;clear J e3;rintro i u σ H7 hlt hu ⟨_,s6,pl,pus,F,j5,j6,j7,j8,j9,j11,j12,j13,rfl,npl,h6p,flF,po⟩;obtain⟨j,hj⟩:∃j:Nat,j=ous.length-1-i:=⟨_,rfl⟩;rw[←hj]at hu;obtain⟨re,he,q,l,pv,rfl,hq,den,hl,f1,wle⟩:=el.get hu;obtain⟨p,ks,rfl,hp,_⟩:=id den.open;rw[show ous.length-i=j+1 by lia]at flF;obtain⟨r,rfl,flE⟩:=ho.back he flF;have hpl9:=po.len;have hFl:=flF.len;rw[ah]at hFl;refine⟨eA.of (s6 _ _ hq),rfl,rfl,?_⟩;refine⟨re.1,.ref p,rfl,den.mono (dY s6),λil us Ha sa na ha da=>⟨.inl (eG.of ha),?_⟩⟩;have hul:=da.length;rw[aD,lq]at hpl9 hFl;refine Hj (ip:=10) (im:=11) (ik:=12) (n:=us.length) (σ:=[some v,some (.ref l0),some (.str tail),some (.ref ol),some (.ref tl),some (.ref p),some (.ref l),j7,j8,j9,some (.ref pl),some (.int (us.length:Int)),j12,j13]) rfl rfl (by decide) (by decide) (sa _ _ h6p) (by lia) λkl pn Hb sb nk np nkp gk gp=>?_;have sab:=sa.trans sb;have s6b:=s6.trans sab;refine⟨eA.of (s6b _ _ hp),gq re.1 ks,fG,eZ λfl Hc hfl sc gc=>?_⟩;have sac:=sab.trans sc;have s6c:=s6.trans sac;refine BF (e:=re) wle ht (s6c _ _ hp) (s6c _ _ hl) (dZ (s6b _ _ hl) hfl) gc λHd bd gd=>?_;have hkd:=bd _ _ (dZ gk hfl) (sc _ _ gk);have hpd:=bd _ _ (dZ gp hfl) (sc _ _ gp);have hhd:(hd (zi tail re)).length≤2:=by cases zi tail re<;>simp[hd]
 refine Hg hpd hkd gd (by rw[aj];lia) (by rw[bL,ah];lia) (by lia) λq2 He se ge=>?_;have tl7:fO H7 He:=λb xs e=>se _ _ (bd _ _ (fB (sac _ _ e) gc (by intro z;cases z)) (sac _ _ e));have tlU:=fL (o:=.lst (pus.take (pus.length-us.length)++[.ref q2])) (se _ _ hpd);have sm:dy H4 (upd He pn (.lst (pus.take (pus.length-us.length)++[.ref q2]))):=λb o e=>by have e7:=s6 _ _ e;rw[db (dZ (sa _ _ e7) np)];exact se _ _ (bd _ _ (dZ (sab _ _ e7) hfl) (sac _ _ e7))
 refine⟨hlt,sm,pn,_,re::r,_,_,_,_,_,_,_,_,rfl,(s6.trans sa).free np,dO,by rw[show ous.length-(i+1)=j by lia];exact flE,?_⟩;rw[hul]at ge tlU⊢;exact gC.mono tlU (po.push tl7 ge)
theorem NJ(h:uJ vs H Q E):Lf K (gf Q) (start ["_law_piece","_law_places","_law_tail","_law_order","_law_todo","_law_part","_law_own","_law_inner","_law_k","_law_near","_law_pile","_law_many","_law_kids","_law_front"] vs) H:=by
 obtain⟨t,v,l0,tail,ws,rfl,dt,wl,hsz,hl0,hws,ht,kQ⟩:=h;obtain⟨o,ho,hol0⟩:=x5 t.size [(t,ws)] (by simp[E1,eu]);have hol0:o.length=t.size:=by rw[hol0];simp[E1,eu]
 refine⟨fG,eZ λol H1 hol s1 g1=>?_⟩;refine⟨fG,eZ λq H1b hq s1b g1b=>?_⟩;refine⟨fG,eZ λtl H2 htl s2 g2=>?_⟩;have FI:ol≠tl:=dZ (s1b _ _ g1) htl;have s12:=s1.trans (s1b.trans s2);have ntl:H tl=none:=(s1.trans s1b).free htl;have e0:lV (mT ol tl H2) (t,ws) (.ref q):=by have hq2:=s2 _ _ g1b;have hl2:=s12 _ _ hl0;refine⟨q,l0,v,rfl,lK hq2 (fB hq2 ((s1b.trans s2) _ _ g1) (by intro z;cases z)) (fB hq2 g2 (by intro z;cases z)),?_,lK hl2 (dZ hl0 hol) (dZ hl0 ntl),by show ws.length+t.size≤1000;lia,wl⟩;exact dt.mono λb xs z=>lK (s12 _ _ z) (dZ z hol) (dZ z ntl)
 have B0:vA H H2 ol tl [] [(t,ws)] [] [.ref q]:=⟨s12,hol,ntl,FI,(s1b.trans s2) _ _ g1,g2,.nil,.one e0⟩;refine⟨Nl H v l0 tail ol tl o,⟨_,[],[(t,ws)],o,[],[.ref q],_,_,_,_,_,rfl,B0,ho,rfl,rfl⟩,?_⟩;clear B0 e0 ntl s12 FI g2 s2 htl g1b s1b hq q g1 s1;rintro m σ H3 ⟨oz,st,rest,ous,tus,j5,j6,j7,j8,j9,rfl,B3,fl,eo,rfl⟩;have hlen:=congrArg List.length eo;rw[aD]at hlen;have hoslen:=B3.el.length;refine⟨fG,eZ λe0 H4 he0 s4 g4=>?_⟩;have B4:=B3.grow s4;refine⟨eG.of B4.tl_,eG.of g4,?_⟩;have her:=B4.er;cases st with
 | nil=>
  cases her;cases fl;rw[aa]at eo;subst eo;have el4:Al (lV H4) oz ous:=B4.el.mono λ_ _=>lV.same nc;have h4o:=B4.ol_;have s34:=B4.same;clear B3 B4;refine⟨_,rfl,eK rfl ⟨fG,eZ λpl H5 hpl s5 g5=>?_⟩⟩;refine va (K:=K) (v:=v) (l0:=l0) (ol:=ol) (tl:=tl) el4 (by lia) h4o ho ht ⟨aS _,s5,pl,[],[],_,_,_,_,_,_,_,_,rfl,hpl,g5,by rw[bg,bx (by lia)];exact .nil,.nil⟩ ?_ rfl;rintro σ H6 ⟨_,s6,pl,pus,F,j5,j6,j7,j8,j9,j11,j12,j13,rfl,npl,h6p,flF,po⟩;rw[bH,ag]at flF;cases flF.uniq ho;have hp1:=po.len
  match pus,hp1 with
  | [v'],_=>
   cases po with
   | cons d _=>exact⟨eG.of h6p,dS (j:=0) rfl,kQ v' H6 (s34.trans s6) d⟩
 | cons re st=>
  rw[ao]at her;have hv:tus≠[]:=λz=>by subst z;have:=her.length;simp at this
  obtain⟨tus,u,rfl⟩:=gK hv;obtain⟨bs,b,eb,her2,ha⟩:=her.snoc;obtain⟨e1,e2⟩:=cf eb rfl;subst e1;cases e2;refine⟨_,rfl,fW (by simp) ?_⟩;cases fl with
  | @cons e r o' fl=>
  refine⟨λσ' H'=>∃m',m'<(re::o').length∧Nl H v l0 tail ol tl o m' σ' H',λ_ _ h=>h,?_⟩;refine⟨.inl ⟨rfl,_,eG.of B4.tl_⟩,B4.tl_,jT,?_⟩;rw[iZ];have B5:=B4.pop her2;have ha5:lV (mT ol tl (upd H4 tl (.lst tus))) re u:=by rw[nZ];exact ha
  generalize upd H4 tl (.lst tus)=H5 at B5 ha5⊢;obtain⟨q,l,pv,rfl,hq,den,hl,f1,wle⟩:=ha5;obtain⟨p,ks,rfl,hp,_⟩:=id den.open;have hl':=fl.len;rw[aD]at hl';have hdl:=her2.length;rw[bL]at hdl;rw[aE]at hlen;refine⟨eA.of (nc _ _ hq),rfl,rfl,?_⟩;refine⟨.inl ⟨rfl,_,eG.of B5.ol_⟩,fG,eZ λq4 H6 hq4 s6 g6=>?_⟩;have B6:=B5.grow s6;have r6:=je (ol:=ol) (tl:=tl) s6;refine⟨B6.ol_,by rw[hoslen,sizeLine_eq];lia,?_⟩;have hat:lV (mT ol tl H6) re (.ref q4):=⟨q4,l,.ref p,rfl,lK g6 (fB g6 B6.ol_ (by intro z;cases z)) (fB g6 B6.tl_ (by intro z;cases z)),den.mono (dY r6),r6 _ _ hl,f1,wle⟩;have B7:=B6.put hat;have hp7:mT ol tl (upd H6 ol (.lst (ous++[.ref q4]))) p=some (.tup (hd re.1++ks)):=by rw[qJ];exact r6 _ _ hp
  have hl7:mT ol tl (upd H6 ol (.lst (ous++[.ref q4]))) l=some (.lst (re.2.map V.str)):=by rw[qJ];exact r6 _ _ hl
  have den7:gG (mT ol tl (upd H6 ol (.lst (ous++[.ref q4])))) re.1 (.ref p):=by rw[qJ];exact den.mono (dY r6)
  generalize upd H6 ol (.lst (ous++[.ref q4]))=H7 at B7 hp7 hl7 den7⊢;refine⟨re.1,.ref p,rfl,den7.mono (dY nc),λil us H8 s8 n8 h8 d8=>?_⟩;have r8:=je (ol:=ol) (tl:=tl) s8;refine vZ (e:=re) (B7.grow s8) (s8 _ _ (nc _ _ hp7)) (r8 _ _ hl7) f1 wle h8 (λz=>by subst z;rw[B7.tl_]at n8;cases n8) d8 (by lia) λtus' H9 j8 j9 B9=>?_;exact⟨o'.length,by simp,oz++[re],kU re++st,o',_,tus',_,_,_,_,_,rfl,B9,fl,by rw[aV];exact eo,rfl⟩
end S8
namespace S8
open PySem L2 SW
structure LM(P:Str→Prop)(z:Str)(l:List Str)(o o':Ow):Prop where
 own:∀w∈l,o' (w++z)=o w∧o w≠none
 out:∀w,w∉l→o w=none
 free:∀w,P w→o' w=none
theorem LM.put(hz:∀w v:Str,w++z=v++z→w=v)(hP:∀w,¬P (w++z))(R:LM P z l o o')(w:Str)(x:Int):LM P z (l++[w]) (o.put w x) (o'.put (w++z) x) where
 own v hv:=by
  unfold Ow.put;by_cases e:v=w
  ·subst e;rw[if_pos rfl,if_pos rfl];exact⟨rfl,nofun⟩
  ·rw[if_neg e,if_neg λh=>e (hz _ _ h)];exact R.own v (by simpa[e]using hv)
 out v hv:=by have h1:v∉l:=λh=>hv (af _ h);have h2:v≠w:=λh=>hv (by simp[h]);unfold Ow.put;rw[if_neg h2];exact R.out v h1
 free v hv:=by unfold Ow.put;rw[if_neg (λ(h:v=w++z)=>hP w (h▸hv))];exact R.free v hv
theorem kT(hz:∀w v:Str,w++z=v++z→w=v)(hP:∀w,¬P (w++z))(c:Int)(src:Str):∀(t:T)(l:List Str)(p:List Int)(o o':Ow)(i:Nat),LM P z l o o'→jo P t→nt c src oH (jc z l t) p o' i=nt c src oH t p o i
 | .num n,l,p,o,o',i,R,w=>rfl
 | .name v,l,p,o,o',i,R,w=>by
  rw[jc];by_cases h:v∈l
  ·rw[if_pos h];obtain⟨h1,h2⟩:=R.own v h;cases e:o v with
   | none=>exact absurd e h2
   | some x=>rw[e]at h1;simp only[nt,eQ,h1,e]
  ·rw[if_neg h];have h1:=R.out v h;have h2:=R.free v w;simp only[nt,eQ,h1,h2,oH]
 | .sum a b,l,p,o,o',i,R,w=>by simp only[jc,nt,eQ,gM,kT hz hP c src a l _ o o' _ R w.1,kT hz hP c src b l _ o o' _ R w.2]
 | .less a b,l,p,o,o',i,R,w=>by simp only[jc,nt,eQ,gM,kT hz hP c src a l _ o o' _ R w.1,kT hz hP c src b l _ o o' _ R w.2]
 | .cho a b d,l,p,o,o',i,R,w=>by simp only[jc,nt,eQ,gM,kT hz hP c src a l _ o o' _ R w.1,kT hz hP c src b l _ o o' _ R w.2.1,kT hz hP c src d l _ o o' _ R w.2.2]
 | .lt v a b,l,p,o,o',i,R,w=>by simp only[jc,nt,eQ,gM,kT hz hP c src a l _ o o' _ R w.2.1,kT hz hP c src b (l++[v]) _ _ _ _ (R.put hz hP v _) w.2.2]
 | .st0 v,l,p,o,o',i,R,w=>rfl
 | .st1 v a,l,p,o,o',i,R,w=>by simp only[jc,nt,eQ,gM,kT hz hP c src a l _ o o' _ R w]
 | .st2 v a b,l,p,o,o',i,R,w=>by simp only[jc,nt,eQ,gM,kT hz hP c src a l _ o o' _ R w.1,kT hz hP c src b l _ o o' _ R w.2]
theorem IG(hz:∀w v:Str,w++z=v++z→w=v)(hP:∀w,¬P (w++z))(w:jo P t):nt 0 "" oH (jc z [] t) [] Ow.none 0=nt 0 "" oH t [] Ow.none 0:=
 kT hz hP 0 "" t [] [] Ow.none Ow.none 0 ⟨λw h=>by simp at h,λ_ _=>rfl,λ_ _=>rfl⟩ w
theorem FK(e:nt 0 "" oH t' [] Ow.none 0=nt 0 "" oH t [] Ow.none 0)(hs:t'.size=t.size)(h:Ly bo t k n c):Ly bo t' k n c:=by
 induction h with
 | zero=>rw[←e,←hs];exact .zero
 | succ _ f g B ih=>exact .succ ih f g B
mutual
inductive Sm:NT→NT→Prop where
 | mk{k:Str}{x y:V}{s s':Str}{p p':List Int}{ks ks':List NT}:(k="stamp"→x=y)→tP ks ks'→Sm (.mk k x s p ks) (.mk k y s' p' ks')
inductive tP:List NT→List NT→Prop where
 | nil:tP [] []
 | cons{n m:NT}{ns ms:List NT}:Sm n m→tP ns ms→tP (n::ns) (m::ms)
end
mutual
theorem Sm.fst_eq:∀{n m:NT},Sm n m→fst n=fst m
 | _,_,.mk (k:=k) _ l=>by
  rw[fst,fst];by_cases e:k="stamp"
  ·rw[if_pos e,if_pos e]
  ·rw[if_neg e,if_neg e];exact tP.fst_eq l 0
theorem tP.fst_eq:∀{ns ms:List NT},tP ns ms→∀i,i7 ns i=i7 ms i
 | _,_,.nil,i=>rfl
 | _,_,.cons a r,i=>by rw[i7,i7,Sm.fst_eq a,tP.fst_eq r (i+1)]
end
theorem tP.get:∀{ns ms:List NT}{i:Nat}{n:NT},tP ns ms→ns[i]?=some n→∃m,ms[i]?=some m∧Sm n m
 | _,_,0,_,.cons a r,h=>by cases h;exact⟨_,rfl,a⟩
 | _,_,i+1,_,.cons a r,h=>tP.get (i:=i) r h
theorem tP.getN:∀{ns ms:List NT}{i:Nat},tP ns ms→ns[i]?=none→ms[i]?=none
 | _,_,i,.nil,h=>rfl
 | _,_,0,.cons a r,h=>by cases h
 | _,_,i+1,.cons a r,h=>tP.getN (i:=i) r h
theorem tP.set:∀{ns ms:List NT}{i:Nat}{n m:NT},tP ns ms→Sm n m→tP (ns.set i n) (ms.set i m)
 | _,_,_,_,_,.nil,_=>.nil
 | _,_,0,_,_,.cons a r,h=>.cons h r
 | _,_,i+1,_,_,.cons a r,h=>.cons a (tP.set (i:=i) r h)
theorem Sm.getN:∀{p:List Nat}{n m n':NT},Sm n m→getN n p=some n'→∃m',S8.getN m p=some m'∧Sm n' m'
 | [],_,_,_,h,e=>by cases e;exact⟨_,rfl,h⟩
 | i::p,_,_,_,.mk (ks:=ks) _ l,e=>by
  rw[S8.getN]at e;cases h:ks[i]? with
  | none=>rw[h]at e;cases e
  | some a=>rw[h]at e;obtain⟨b,hb,s⟩:=l.get h;obtain⟨m',hm,s'⟩:=Sm.getN s e;exact⟨m',by rw[S8.getN,hb];exact hm,s'⟩
theorem Sm.putN:∀{p:List Nat}{n m a b:NT},Sm n m→Sm a b→Sm (putN n p a) (S8.putN m p b)
 | [],_,_,_,_,_,h=>h
 | i::p,_,_,_,_,.mk (ks:=ks) k l,h=>by
  rw[S8.putN,S8.putN];refine .mk k (l.set ?_);cases e:ks[i]? with
  | none=>rw[l.getN e];exact h
  | some a=>obtain⟨b,hb,s⟩:=l.get e;rw[hb];exact Sm.putN s h
def LL(o o':Ow):Prop:=∀w,o w=none↔o' w=none
theorem LL.put(h:LL o o')(w:Str)(x y:Int):LL (o.put w x) (o'.put w y):=λv=>by unfold Ow.put;split<;>simp[h v]
structure M6(g g':Gi):Prop where
 h:∀w,(g w=none∧g' w=none)∨∃n m,g w=some n∧g' w=some m∧Sm n m
theorem kS(G:M6 g g'):∀(t:T)(c c':Int)(s s':Str)(p p':List Int)(o o':Ow)(i i':Nat),LL o o'→Sm (nt c s g t p o i) (nt c' s' g' t p' o' i')
 | .num n,c,c',s,s',p,p',o,o',i,i',h=>.mk nofun .nil
 | .name w,c,c',s,s',p,p',o,o',i,i',h=>by
  have hw:=h w;have key:∀x y,Sm (.mk "name" x s p []) (.mk "name" y s' p' []):=λx y=>.mk (λe=>absurd e (by decide)) .nil;simp only[nt,eQ];cases e:o w with
  | some x=>
   cases e':o' w with
   | some y=>exact key _ _
   | none=>rw[e,e']at hw;simp at hw
  | none=>
   rw[hw.mp e];rcases G.h w with⟨h1,h2⟩|⟨n,m,h1,h2,sm⟩
   ·rw[h1,h2];exact key _ _
   ·rw[h1,h2];exact sm
 | .sum a b,c,c',s,s',p,p',o,o',i,i',h=>.mk (λe=>absurd e (by decide)) (.cons (kS G a _ _ _ _ _ _ _ _ _ _ h) (.cons (kS G b _ _ _ _ _ _ _ _ _ _ h) .nil))
 | .less a b,c,c',s,s',p,p',o,o',i,i',h=>.mk (λe=>absurd e (by decide)) (.cons (kS G a _ _ _ _ _ _ _ _ _ _ h) (.cons (kS G b _ _ _ _ _ _ _ _ _ _ h) .nil))
 | .cho a b d,c,c',s,s',p,p',o,o',i,i',h=>.mk (λe=>absurd e (by decide)) (.cons (kS G a _ _ _ _ _ _ _ _ _ _ h) (.cons (kS G b _ _ _ _ _ _ _ _ _ _ h) (.cons (kS G d _ _ _ _ _ _ _ _ _ _ h) .nil)))
 | .lt w a b,c,c',s,s',p,p',o,o',i,i',h=>.mk (λe=>absurd e (by decide)) (.cons (kS G a _ _ _ _ _ _ _ _ _ _ h) (.cons (kS G b _ _ _ _ _ _ _ _ _ _ (h.put w _ _)) .nil))
 | .st0 w,c,c',s,s',p,p',o,o',i,i',h=>.mk (λ_=>rfl) .nil
 | .st1 w a,c,c',s,s',p,p',o,o',i,i',h=>.mk (λ_=>rfl) (.cons (kS G a _ _ _ _ _ _ _ _ _ _ h) .nil)
 | .st2 w a b,c,c',s,s',p,p',o,o',i,i',h=>.mk (λ_=>rfl) (.cons (kS G a _ _ _ _ _ _ _ _ _ _ h) (.cons (kS G b _ _ _ _ _ _ _ _ _ _ h) .nil))
theorem OF:M6 oH oH:=⟨λ_=>.inl ⟨rfl,rfl⟩⟩
theorem iS:∀(t:T)(z:Str)(l:List Str)(c c':Int)(s s':Str)(p p':List Int)(o o':Ow)(i i':Nat),Sm (nt c s oH (jc z l t) p o i) (nt c' s' oH t p' o' i')
 | .num n,z,l,c,c',s,s',p,p',o,o',i,i'=>.mk nofun .nil
 | .name w,z,l,c,c',s,s',p,p',o,o',i,i'=>by
  have key:∀(v:Str)(c:Int)(s:Str)(p:List Int)(o:Ow)(i:Nat),∃x,nt c s oH (.name v) p o i=.mk "name" x s p []:=λv c s p o i=>by simp only[nt,eQ,oH];split<;>exact⟨_,rfl⟩
  obtain⟨y,ey⟩:=key w c' s' p' o' i';rw[ey,jc];split
  ·obtain⟨x,ex⟩:=key (w++z) c s p o i;rw[ex];exact .mk (λe=>absurd e (by decide)) .nil
  ·obtain⟨x,ex⟩:=key w c s p o i;rw[ex];exact .mk (λe=>absurd e (by decide)) .nil
 | .sum a b,z,l,c,c',s,s',p,p',o,o',i,i'=>.mk (λe=>absurd e (by decide)) (.cons (iS a _ _ _ _ _ _ _ _ _ _ _ _) (.cons (iS b _ _ _ _ _ _ _ _ _ _ _ _) .nil))
 | .less a b,z,l,c,c',s,s',p,p',o,o',i,i'=>.mk (λe=>absurd e (by decide)) (.cons (iS a _ _ _ _ _ _ _ _ _ _ _ _) (.cons (iS b _ _ _ _ _ _ _ _ _ _ _ _) .nil))
 | .cho a b d,z,l,c,c',s,s',p,p',o,o',i,i'=>.mk (λe=>absurd e (by decide)) (.cons (iS a _ _ _ _ _ _ _ _ _ _ _ _) (.cons (iS b _ _ _ _ _ _ _ _ _ _ _ _) (.cons (iS d _ _ _ _ _ _ _ _ _ _ _ _) .nil)))
 | .lt w a b,z,l,c,c',s,s',p,p',o,o',i,i'=>.mk (λe=>absurd e (by decide)) (.cons (iS a _ _ _ _ _ _ _ _ _ _ _ _) (.cons (iS b _ _ _ _ _ _ _ _ _ _ _ _) .nil))
 | .st0 w,z,l,c,c',s,s',p,p',o,o',i,i'=>.mk (λ_=>rfl) .nil
 | .st1 w a,z,l,c,c',s,s',p,p',o,o',i,i'=>.mk (λ_=>rfl) (.cons (iS a _ _ _ _ _ _ _ _ _ _ _ _) .nil)
 | .st2 w a b,z,l,c,c',s,s',p,p',o,o',i,i'=>.mk (λ_=>rfl) (.cons (iS a _ _ _ _ _ _ _ _ _ _ _ _) (.cons (iS b _ _ _ _ _ _ _ _ _ _ _ _) .nil))
theorem Il(B:we bo w ks g body)(l:tP ks ks'):∃g',we bo w ks' g' body∧M6 g g':=by
 cases B with
 | star=>cases l;exact⟨_,.star,OF⟩
 | sta=>
  cases l with
  | cons a r=>
  cases r;refine⟨_,.sta,⟨λw=>?_⟩⟩;unfold FP;by_cases e:w=qw bo.e
  ·rw[if_pos e,if_pos e];exact .inr ⟨_,_,rfl,rfl,a⟩
  ·rw[if_neg e,if_neg e];exact .inl ⟨rfl,rfl⟩
 | st=>
  cases l with
  | cons a r=>
  cases r with
  | cons b r=>
  cases r;refine⟨_,.st,⟨λw=>?_⟩⟩;unfold Ck;by_cases e:w=qw bo.e
  ·rw[if_pos e,if_pos e];exact .inr ⟨_,_,rfl,rfl,a⟩
  ·rw[if_neg e,if_neg e];by_cases e:w=zB bo.e
   ·rw[if_pos e,if_pos e];exact .inr ⟨_,_,rfl,rfl,b⟩
   ·rw[if_neg e,if_neg e];exact .inl ⟨rfl,rfl⟩
def JE(x y:V)(s:Str)(p q:List Int)(n:NT):NT:=.mk "let" x s p [.mk "number" y s q [],n]
theorem EX(n:NT):fst (JE x y s p q n)=(fst n).map (1 :: ·):=by simp only[JE,fst,i7];rw[if_neg (by decide),if_neg (by decide)];cases fst n<;>rfl
theorem CC(n:NT)(r:List Nat):getN (JE x y s p q n) (1::r)=getN n r:=rfl
theorem BP(n m:NT)(r:List Nat):putN (JE x y s p q n) (1::r) m=JE x y s p q (putN n r m):=rfl
inductive El:NT→NT→Prop where
 | nil{n:NT}:El n n
 | cons{x y:V}{s:Str}{p q:List Int}{n m:NT}:El n m→El (JE x y s p q n) m
theorem El.step(h:El n m):∃k:Nat,fst n=(fst m).map (List.replicate k 1++·)∧∀r,getN n (List.replicate k 1++r)=getN m r∧∀a,El (putN n (List.replicate k 1++r) a) (putN m r a):=by
 induction h with
 | nil=>exact⟨0,by simp,λr=>⟨rfl,λa=>.nil⟩⟩
 | cons _ ih=>
  obtain⟨k,e,h⟩:=ih;refine⟨k+1,by rw[EX,e,Option.map_map];rfl,λr=>⟨?_,λa=>?_⟩⟩
  ·show getN _ (1::(List.replicate k 1++r))=_;rw[CC];exact(h r).1
  ·show El (putN _ (1::(List.replicate k 1++r)) a) _;rw[BP];exact .cons ((h r).2 a)
theorem IJ(h0:∃m,El (nt 0 "" oH t' [] Ow.none 0) m∧Sm m (nt 0 "" oH t [] Ow.none 0))(h:Ly bo t' k n c):∃n1 c1 m,Ly bo t k n1 c1∧El n m∧Sm m n1:=by
 induction h with
 | zero=>obtain⟨m,r,s⟩:=h0;exact⟨_,_,m,.zero,r,s⟩
 | @succ k n c p w src path ks giv body _ f g B ih=>
  obtain⟨n1,c1,m,ly,r,s⟩:=ih;obtain⟨j,e,hr⟩:=r.step;rw[e,s.fst_eq]at f;cases hf:fst n1 with
  | none=>rw[hf]at f;cases f
  | some p1=>
   rw[hf]at f;cases f;rw[(hr p1).1]at g;obtain⟨m',hg,sm⟩:=s.getN g;cases sm with
   | @mk _ _ y _ s' _ p' _ ks' hx l=>
   cases hx rfl;obtain⟨g',B',G⟩:=Il B l;exact⟨_,_,_,.succ ly hf hg B',(hr p1).2 _,s.putN (kS G body _ _ _ _ _ _ _ _ _ _ λ_=>Iff.rfl)⟩
end S8
namespace S8
open PySem L2 SW S9
variable {K:aA}{vs:List V}{H:Hp}{Q:VK}{E:XK}{C D:Addr}
theorem Ep:(("z":Str)).cps = #[122]:=by decide
theorem yI(w:Str):(w++("z":Str)).cps.toList=w.cps.toList++[122]:=by show(w.cps++(("z":Str)).cps).toList=_;rw[Ep,bn]
theorem JJ(w v:Str)(h:w++("z":Str)=v++"z"):w=v:=by have e:(w++("z":Str)).cps.toList=(v++("z":Str)).cps.toList:=congrArg (λx:Str=>x.cps.toList) h;rw[yI,yI]at e;have e:=List.append_cancel_right e;obtain⟨w⟩:=w;obtain⟨v⟩:=v;exact congrArg Str.mk (Array.toList_inj.mp e)
abbrev Nz(w:Str):Prop:=w.cps.toList.getLast?≠some 122
theorem MP(w:Str):¬Nz (w++("z":Str)):=λh=>h (by rw[yI,dB];simp)
theorem JN(h:Wg w):Wd (w++("z":Str)):=by
 have en:(w++("z":Str)).length=w.length+1:=by show(w.cps++(("z":Str)).cps).size=_;rw[Ep];simp[Str.length]
 have:=h.sh;refine⟨by lia,by lia,λc hc=>?_⟩;rw[yI]at hc;rcases aU.mp hc with q|q
 ·exact h.wd.abc c q
 ·have:c=122:=by simpa using q
  lia
theorem ju:∀{t:T}{l:List Str},WG S t→WT S (jc "z" l t)
 | .num _,_,h=>h
 | .name w,l,h=>by
  rw[jc];split
  ·exact JN h
  ·exact Wg.wd h
 | .sum _ _,_,h=>⟨ju h.1,ju h.2⟩
 | .less _ _,_,h=>⟨ju h.1,ju h.2⟩
 | .cho _ _ _,_,h=>⟨ju h.1,ju h.2.1,ju h.2.2⟩
 | .lt _ _ _,_,h=>⟨JN h.1,ju h.2.1,ju h.2.2⟩
 | .st0 _,_,h=>h
 | .st1 _ _,_,h=>⟨h.1,ju h.2⟩
 | .st2 _ _ _,_,h=>⟨h.1,ju h.2.1,ju h.2.2⟩
theorem j0{P:Str→Prop}(hP:∀w,Wg w→P w):∀{t:T},WG S t→jo P t
 | .num _,_=>trivial
 | .name _,h=>hP _ h
 | .sum _ _,h=>⟨j0 hP h.1,j0 hP h.2⟩
 | .less _ _,h=>⟨j0 hP h.1,j0 hP h.2⟩
 | .cho _ _ _,h=>⟨j0 hP h.1,j0 hP h.2.1,j0 hP h.2.2⟩
 | .lt _ _ _,h=>⟨hP _ h.1,j0 hP h.2.1,j0 hP h.2.2⟩
 | .st0 _,_=>trivial
 | .st1 _ a,h=>j0 (t:=a) hP h.2
 | .st2 _ _ _,h=>⟨j0 hP h.2.1,j0 hP h.2.2⟩
def JI(bo:Bo)(t:T):Prop:=∀k n c,Ly bo t k n c→k≤8
theorem IZ(ly:Ly bo t k n c)(hk:k≤8)(he:fst n=none):JI bo t:=λ_ _ _ l=>aY (ly.le_end l he) hk
theorem KJ(w:WG S t):nt 0 "" oH (jc "z" [] t) [] Ow.none 0=nt 0 "" oH t [] Ow.none 0:=IG (P:=Nz) JJ MP (j0 (λ_ h=>h.gd.1) w)
theorem IY(w:WG S t)(h:JI bo t):JI bo (jc "z" [] t):=λk n c l=>h k n c (FK (KJ w).symm (gM _ _ _).symm l)
def JA:List Str→T→T
 | [],t=>t
 | w::ws,t=>JA ws (.lt w (.num 7) t)
theorem tj:∀(ws:List Str)(w:Str)(t:T),JA (ws++[w]) t=.lt w (.num 7) (JA ws t)
 | [],_,_=>rfl
 | _::ws,w,t=>tj ws w _
abbrev w4:List Str:=["sab","tab","sob","sat"]
abbrev I9(t:T):T:=JA w4 (jc "z" w4 t)
theorem EZ(h:JI bo t):JI bo (I9 t):=λk n c l=>by obtain⟨n1,c1,_,l1,_⟩:=IJ (t':=I9 t) (t:=t) ⟨_,.cons (.cons (.cons (.cons .nil))),iS t "z" w4 _ _ _ _ _ _ _ _ _ _⟩ l;exact h k n1 c1 l1
theorem zk(t:T):(I9 t).size=t.size+8:=by simp only[I9,w4,JA,T.size,gM];lia
theorem Fd(h:WG S t):WT S (I9 t):=⟨zw,⟨by decide,by decide⟩,zv,⟨by decide,by decide⟩,zu,⟨by decide,by decide⟩,zx,⟨by decide,by decide⟩,ju h⟩
def Ab(K:aA)(a_Opening a_FreshWords:Addr):TS:=(eD (eN (qB K) [] E0 (dM (mL (jE K) (dN 0) (ft (tC (.int 9))) (ft (tC (.int 12)))) dW)) (dX 3))
def Aa(K:aA)(a_Opening a_FreshWords:Addr):TS:=(fg (eI (dz og (dz (eC K) (eN mO [] E0 (dM (dN 2) (dM (dN 3) (dM (dN 1) dW)))) (tC (.int 1))) (dN 1))) (Ab K a_Opening a_FreshWords) fQ)
def AZ(K:aA)(a_Opening a_FreshWords:Addr):TS:=(fT (tC (.bl true)))
def AY(K:aA)(a_Opening a_FreshWords:Addr):TS:=(fg (eI (dz og (dz (eC K) (eN mO [] E0 (dM (dN 2) (dM (dN 3) (dM (dN 1) dW)))) (tC (.int 1))) (dN 1))) (AZ K a_Opening a_FreshWords) fQ)
def AX(K:aA)(a_Opening a_FreshWords:Addr):TS:=(eD (fJ (dM (tC (.str "let")) (dM (dN 6) (dM (fJ (dM (tC (.str "number")) (dM (tC (.int 7)) dW))) (dM (dN 5) dW))))) (dX 5))
def AW(K:aA)(a_Opening a_FreshWords:Addr):TS:=(fT (tC (.bl false)))
def AV(K:aA)(a_Opening a_FreshWords:Addr):TS:=(fg (xH (mM (tB (eN qF [] E0 (dM (dN 9) dW)))) (mM (tB (eN qC [] E0 (dM (dz (eC K) (dN 9) (tC (.int 1))) (dM (dN 8) dW)))))) (AW K a_Opening a_FreshWords) fQ)
def uE(K:aA)(a_Opening a_FreshWords:Addr):TS:=(de (eD (dz (eC K) (eN mO [] E0 (dM (dN 2) (dM (dN 7) (dM (dN 1) dW)))) (tC (.int 0))) (dX 8)) (de (eD (eN (qD a_Opening a_FreshWords) [] E0 (dM (eN md [] E0 (dM (dN 2) dW)) (dM (dN 7) (dM (dN 1) dW)))) (dX 9)) (AV K a_Opening a_FreshWords)))
def pY(K:aA)(a_Opening a_FreshWords:Addr):TS:=(de (eD (dz (eC K) (eN mO [] E0 (dM (dN 2) (dM (dN 3) (dM (dN 1) dW)))) (tC (.int 0))) (dX 10)) (de (eD (eN (qD a_Opening a_FreshWords) [] E0 (dM (eN md [] E0 (dM (dN 2) dW)) (dM (dN 4) (dM (dN 1) dW)))) (dX 11)) (fT (Ap (eN qF [] E0 (dM (dN 11) dW)) (eN qC [] E0 (dM (dz (eC K) (dN 11) (tC (.int 1))) (dM (dN 10) dW)))))))
def uB(K:aA)(a_Opening a_FreshWords:Addr):TS:=(de (iK (i0 K (fR (dM (dN 3) (dM (dN 4) (dM (dN 5) dW))))) (dX 7) (uE K a_Opening a_FreshWords)) (pY K a_Opening a_FreshWords))
def uA(K:aA)(a_Opening a_FreshWords:Addr):TS:=(de (iK (i0 K (fR (dM (tC (.str "sab")) (dM (tC (.str "tab")) (dM (tC (.str "sob")) (dM (tC (.str "sat")) dW)))))) (dX 6) (AX K a_Opening a_FreshWords)) (uB K a_Opening a_FreshWords))
def uC(K:aA)(a_Opening a_FreshWords:Addr):TS:=(de (eD (eN uJ [] E0 (dM (dN 3) (dM (fR dW) (dM (tC (.str "z")) dW)))) (dX 4)) (de (eD (eN uJ [] E0 (dM (dN 3) (dM (fR (dM (tC (.str "sab")) (dM (tC (.str "tab")) (dM (tC (.str "sob")) (dM (tC (.str "sat")) dW))))) (dM (tC (.str "z")) dW)))) (dX 5)) (uA K a_Opening a_FreshWords)))
def uD(K:aA)(a_Opening a_FreshWords:Addr):TS:=(de (AY K a_Opening a_FreshWords) (uC K a_Opening a_FreshWords))
def GZ(K:aA)(a_Opening a_FreshWords:Addr):TS:=(de (eD (eN (py K) [] E0 (dM (dN 0) (dM (tC (.int 8)) (dM (tC (.int 30)) dW)))) (dX 1)) (de (eD (eN (rq K) [] E0 (dM (mL (jE K) (dN 0) (ft (tC (.int 1))) (ft (tC (.int 9)))) (dM (tC (.bl false)) dW))) (dX 2)) (de (eD (eN (qB K) [] E0 (dM (mL (jE K) (dN 0) (ft (tC (.int 9))) (ft (dz oU (tC (.int 9)) (eN (py K) [] E0 (dM (dN 0) (dM (tC (.int 9)) (dM (tC (.int 16)) dW))))))) dW)) (dX 3)) (de (Aa K a_Opening a_FreshWords) (uD K a_Opening a_FreshWords)))))
theorem BS(bok:tY bo)(wt:WT SF t)(hz:t.size≤40)(ly:Ly bo t k n c)(hk:k≤8)(hend:fst n=none):(∀y∈[gZ t,gZ bo.x,gZ bo.y,gZ bo.z],y.size≤5000∧∀x,wZ x y→JH x)∧yL bo t 8∧gn n≤50000:=by
 have w1:=E4 bok.w1;have w2:WT SF bo.y:=gF (λw k=>E3) bok.w2;have w3:WT SF bo.z:=gF (λw k=>E2) bok.w3;have z1:=bok.z1;have z2:=bok.z2.1;have z3:=bok.z3.1;refine⟨λy hy=>?_,CW bok wt hz (Ia ly (m:=10) (by lia) λ_=>hend),?_⟩
 ·simp only[aB,aF,or_false]at hy;rcases hy with rfl|rfl|rfl|rfl
  ·exact pM wt hz (by lia)
  ·exact pM w1 z1 (by lia)
  ·exact pM w2 z2 (by lia)
  ·exact pM w3 z3 (by lia)
 ·have hnz:=(ud bok wt ly).2;have hkz:k*(20*t.size)≤8*(20*t.size):=bV _ hk;lia
structure Ct(H:Hp)(bl:Addr)(bo:Bo):Prop where
 h:∃u0 u1 u2,H bl=some (.lst [u0,u1,u2])∧vD H u0 u1 u2 bo
theorem Ct.mono(s:dy H H')(b:Ct H bl bo):Ct H' bl bo:=by obtain⟨u0,u1,u2,h,B⟩:=b;exact⟨u0,u1,u2,s _ _ h,B.mono s⟩
structure Pc(H:Hp)(bo:Bo)(t:T)(v:V):Prop where
 den:gG H t v
 wt:WT SF t
 sz:t.size≤40
 few:JI bo t
theorem Pc.mono(s:dy H H')(p:Pc H bo t v):Pc H' bo t v:=⟨p.den.mono (dY s),p.wt,p.sz,p.few⟩
theorem uO{Dd:iT}(b:Ct H bl bo)(bok:tY bo)(p:Pc H bo t v)(hD:∀j8 j9 H',dy H H'→Dd.nx [v0,some (.int 8),some (.ref bl),v3,v4,v5,v6,some v,j8,j9,none,none] H'):
  uE K C D Dd [v0,some (.int 8),some (.ref bl),v3,v4,v5,v6,some v,j8,j9,none,none] H:=by
 obtain⟨u0,u1,u2,hb,B⟩:=b;have pz:=p.sz;refine⟨bl,u0,u1,u2,v,t,bo,8,rfl,hb,B,p.den,bok,p.wt,by lia,by lia,λr w n c k H1 s1 ly na hr hk1 hk2=>?_⟩;have hk:=p.few k n c ly;have hend:=hk2 hk;obtain⟨hsz,ask,hnz⟩:=BS bok p.wt p.sz ly hk hend;refine⟨eA.of hr,dS (j:=0) rfl,?_⟩;refine⟨bl,u0,u1,u2,_,rfl,s1 _ _ hb,B.mono s1,λl' w1 w2 w3 H2 s2 n2 h2 B2=>?_⟩;refine⟨l',w1,w2,w3,v,t,bo,8,rfl,h2,B2,i8 (p.den.mono (dY (s1.trans s2))),hsz,ask,λq ws st H3 s3 hq hws rch hkF=>?_,λq l x us ws st W tt H3 s3 hq en dx hl ds=>?_⟩
 ·have hlt:=xn (F:=8) ly (λ_=>hend) hws rch hkF;lia
 ·obtain⟨hkF,e,g,hsr⟩:=x6 ly (λ_=>hend) en;have hs:=FQ g;refine⟨q,l,x,tt,st.k,us,rfl,hq,dx,by lia,hl,λu hu=>(wR ds hu).elim λ_ z=>As z,λH4 s4=>⟨_,rfl,fK ?_⟩⟩;refine⟨eA.of (s4 _ _ hq),dS (j:=1) rfl,tt,x,w,n,rfl,dx.mono (dY s4),na.same (s2.trans (s3.trans s4)),FJ ly,by lia,λb H5 s5 hb5=>?_⟩;have:b=true:=hb5.mpr (xt g Nh);subst this;exact⟨_,rfl,fK (hD _ _ _ (s1.trans (s2.trans (s3.trans (s4.trans s5)))))⟩
theorem yq(b:Ct H bl bo)(bok:tY bo)(wg:WG mI t)(p:Pc H bo t v)(p':Pc H bo (jc "z" [] t) v')(hQ:∀H',Q (.bl true) H'):
  pY K C D (gf Q) [v0,some (.int 8),some (.ref bl),some v,some v',v5,v6,v7,v8,v9,none,none] H:=by
 obtain⟨u0,u1,u2,hb,B⟩:=b;have pz:=p.sz;refine⟨bl,u0,u1,u2,v,t,bo,8,rfl,hb,B,p.den,bok,p.wt,by lia,by lia,λr w n c k H1 s1 ly na hr hk1 hk2=>?_⟩;have hk:=p.few k n c ly;have hend:=hk2 hk;have ly:=FK (t':=jc "z" [] t) (KJ wg) (gM _ _ _) ly;obtain⟨hsz,ask,hnz⟩:=BS bok p'.wt p'.sz ly hk hend;refine⟨eA.of hr,dS (j:=0) rfl,?_⟩;refine⟨bl,u0,u1,u2,_,rfl,s1 _ _ hb,B.mono s1,λl' w1 w2 w3 H2 s2 n2 h2 B2=>?_⟩;refine⟨l',w1,w2,w3,v',jc "z" [] t,bo,8,rfl,h2,B2,i8 (p'.den.mono (dY (s1.trans s2))),hsz,ask,λq ws st H3 s3 hq hws rch hkF=>?_,λq l x us ws st W tt H3 s3 hq en dx hl ds=>?_⟩
 ·have hlt:=xn (F:=8) ly (λ_=>hend) hws rch hkF;lia
 ·obtain⟨hkF,e,g,hsr⟩:=x6 ly (λ_=>hend) en;have hs:=FQ g;refine⟨q,l,x,tt,st.k,us,rfl,hq,dx,by lia,hl,λu hu=>(wR ds hu).elim λ_ z=>As z,λH4 s4=>⟨true,rfl,oj ?_⟩⟩;refine⟨eA.of (s4 _ _ hq),dS (j:=1) rfl,tt,x,w,n,rfl,dx.mono (dY s4),na.same (s2.trans (s3.trans s4)),FJ ly,by lia,λb H5 s5 hb5=>?_⟩;have:b=true:=hb5.mpr (xt g Nh);subst this;exact hQ _
theorem yr(b:Ct H bl bo)(bok:tY bo)(wg:WG mI t)(p:Pc H bo t v)(p':Pc H bo (jc "z" [] t) v')(p2:Pc H bo (I9 t) v2)(hQ:∀H',Q (.bl true) H'):
  uB K C D (gf Q) [v0,some (.int 8),some (.ref bl),some v,some v',some v2,v6,none,none,none,none,none] H:=by
 refine⟨fG,eZ λa H1 ha s1 g1=>?_⟩;refine⟨eG.of g1,?_⟩;refine gT (K:=K) (a:=a) (xs:=[v,v',v2]) (λi σ H'=>∃j7 j8 j9,σ=[v0,some (.int 8),some (.ref bl),some v,some v',some v2,v6,j7,j8,j9,none,none]∧dy H1 H') ⟨none,none,none,rfl,dy.refl _⟩ (λi σ H' _ h=>?_) ?_ ?_
 ·obtain⟨_,_,_,_,s⟩:=h;exact eG.of (s _ _ g1)
 ·rintro i x σ H2 hx ⟨j7,j8,j9,rfl,s2⟩;have s12:=s1.trans s2;have go:∀tt,Pc H bo tt x→_:=λtt pp=>uO (K:=K) (C:=C) (D:=D) (Dd:=(iT.thn (gf Q) (pY K C D)).lp (λσ H'=>∃j7 j8 j9,σ=[v0,some (.int 8),some (.ref bl),some v,some v',some v2,v6,j7,j8,j9,none,none]∧dy H1 H')) (v0:=v0) (v3:=some v) (v4:=some v') (v5:=some v2) (v6:=v6) (j8:=j8) (j9:=j9) (b.mono s12) bok (pp.mono s12) λk8 k9 H3 s3=>⟨_,k8,k9,rfl,s2.trans s3⟩
  match i,hx with
  | 0,hx=>cases hx;exact go _ p
  | 1,hx=>cases hx;exact go _ p'
  | 2,hx=>cases hx;exact go _ p2
  | i+3,hx=>simp at hx
 ·rintro σ H2 ⟨j7,j8,j9,rfl,s2⟩;have s12:=s1.trans s2;exact yq (b.mono s12) bok wg (p.mono s12) (p'.mono s12) hQ
theorem yp(b:Ct H bl bo)(bok:tY bo)(wg:WG mI t)(p:Pc H bo t v)(hz:t.size≤30)(p':Pc H bo (jc "z" [] t) v')(dw:gG H (jc "z" w4 t) v2)(hQ:∀H',Q (.bl true) H'):
  uA K C D (gf Q) [v0,some (.int 8),some (.ref bl),some v,some v',some v2,none,none,none,none,none,none] H:=by
 refine⟨fG,eZ λa H1 ha s1 g1=>?_⟩;refine⟨eG.of g1,?_⟩;refine gT (K:=K) (a:=a) (xs:=w4.map V.str) (λi σ H'=>∃j6 x,σ=[v0,some (.int 8),some (.ref bl),some v,some v',some x,j6,none,none,none,none,none]∧dy H1 H'∧gG H' (JA (w4.take i) (jc "z" w4 t)) x) ⟨none,v2,rfl,dy.refl _,dw.mono (dY s1)⟩ (λi σ H' _ h=>?_) ?_ ?_
 ·obtain⟨_,_,_,s,_⟩:=h;exact eG.of (s _ _ g1)
 ·rintro i y σ H2 hy ⟨j6,x,rfl,s2,dx⟩;rw[ac]at hy;cases hw:w4[i]? with
  | none=>rw[hw]at hy;cases hy
  | some w=>rw[hw]at hy;cases hy;refine⟨fG,eZ λq H3 hq s3 g3=>?_⟩;refine⟨fG,eZ λr H4 hr s4 g4=>?_⟩;refine⟨_,.ref r,rfl,s2.trans (s3.trans s4),?_⟩;rw[ax,hw,show(some w).toList=[w]from rfl,tj];exact⟨r,.ref q,x,rfl,g4,⟨q,rfl,s4 _ _ g3⟩,dx.mono (dY (s3.trans s4))⟩
 ·rintro σ H2 ⟨j6,x,rfl,s2,dx⟩;have s12:=s1.trans s2;refine yr (t:=t) (b.mono s12) bok wg (p.mono s12) (p'.mono s12) ⟨dx,gF (λw k=>pF) (Fd wg),by rw[zk];lia,EZ p.few⟩ hQ
theorem yt(b:Ct H bl bo)(bok:tY bo)(wg:WG mI t)(p:Pc H bo t v)(hz:t.size≤30)(hQ:∀H',Q (.bl true) H'):
  uC K C D (gf Q) [v0,some (.int 8),some (.ref bl),some v,none,none,none,none,none,none,none,none] H:=by
 have sw:jo Sw t:=j0 (λw h=>by have:=h.sh;show w.length≤300;lia) wg;refine⟨fG,eZ λl H1 hl s1 g1=>?_⟩;refine⟨t,v,l,"z",[],rfl,(p.mono s1).den,sw,by lia,g1,by simp,by decide,λv' H2 s2 d'=>?_⟩;refine⟨fG,eZ λm H3 hm s3 g3=>?_⟩;have s13:=s1.trans (s2.trans s3);refine⟨t,v,m,"z",w4,rfl,(p.mono s13).den,sw,by lia,g3,by simp,by decide,λv2 H4 s4 d2=>?_⟩;have s14:=s13.trans s4;exact yp (b.mono s14) bok wg (p.mono s14) hz ⟨d'.mono (dY (s3.trans s4)),gF (λw k=>pF) (ju wg),by rw[gM];lia,IY wg p.few⟩ d2 hQ
theorem qu(b:Ct H bl bo)(bok:tY bo)(wg:WG mI t)(dt:gG H t v)(hz:t.size≤30)(hQ:∀H',Q (.bl true) H'):
  uD K C D (gf Q) [v0,some (.int 8),some (.ref bl),some v,none,none,none,none,none,none,none,none] H:=by
 obtain⟨u0,u1,u2,hb,B⟩:=id b;have wt:WT SF t:=gF (λw k=>pF) (tq wg);refine⟨bl,u0,u1,u2,v,t,bo,8,rfl,hb,B,dt,bok,wt,by lia,by lia,λr w n c k H3 s3 ly na hr hk1 hk2=>?_⟩;refine⟨eA.of hr,dS (j:=1) rfl,?_⟩;by_cases h8:k≤8
 ·refine⟨_,rfl,eK (decide_eq_false (by lia)) ?_⟩;exact yt (b.mono s3) bok wg ⟨dt.mono (dY s3),wt,by lia,IZ ly h8 (hk2 h8)⟩ hz hQ
 ·exact⟨_,rfl,fW (decide_eq_true (by lia)) (hQ _)⟩
theorem K9(h:S1.M8 K vs H Q E):GZ K C D (gf Q) (start ["_law_script","_law_top","_law_book","_law_piece","_law_renamed","_law_within","_law_word","_law_one","_law_tree","_law_found","_law_first","_law_last"] vs) H:=by
 obtain⟨a,ns,rfl,ha,hl,hQ⟩:=h;have hl2:(ns.map V.int).length≤63:=by rw[aX];exact hl
 refine⟨a,_,8,30,rfl,ha,hl2,?_⟩;obtain⟨ms,em,hm1,hm2⟩:=lu ns (some 1) (some 9);refine⟨ha,λq hq=>?_⟩;refine⟨q,_,ms,rfl,eG.of (by rw[dO,em]),by lia,λbl bus t0 t1 t2 H1 s1 nbl hbl bkl w0 w1 w2 z0 z1 z2 y1 y2=>?_⟩;have sA:=(dR (o:=.lst (ie (ns.map V.int) (some 1) (some 9))) hq).trans s1;clear s1 hq;obtain⟨ms2,em2,hm3,hm4⟩:=lu ns (some 9) (some (9+9));refine⟨a,_,9,16,rfl,sA.seq ha,hl2,sA.seq ha,λq2 hq2=>?_⟩;refine⟨q2,ms2,rfl,eG.of (by rw[dO,em2]),by lia,λt v H2 s2 dt wg hsz hnm=>?_⟩;have hm7:ms2.length≤9:=by have ea:HT.kL ns.length ns.length (some (9+9))=min 18 ns.length:=lI ns.length ns.length 18;have eb:HT.kL ns.length 0 (some 9)=min 9 ns.length:=lI ns.length 0 9;rw[ea,eb]at hm3;lia
 have sB:dy H1 H2:=(dR (o:=.lst (ie (ns.map V.int) (some 9) (some (9+9)))) hq2).trans s2;clear s2 hq2;have bok:tY ⟨false,t0,t1,t2⟩:=⟨tq w0,tq w1,tq w2,z0,⟨z1,y1⟩,z2,y2⟩;cases bkl with|cons B0 bkl=>cases bkl with|cons B1 bkl=>cases bkl with|cons B2 bkl=>cases bkl with|nil=>
 rename_i u0 u1 u2;have bks:Ct H2 bl ⟨false,t0,t1,t2⟩:=⟨u0,u1,u2,sB _ _ hbl,(CT B0).mono sB,(CT B1).mono sB,(CT B2).mono sB⟩;obtain⟨u0',u1',u2',hb,B⟩:=id bks;have wt:WT SF t:=gF (λw k=>pF) (tq wg);refine⟨bl,u0',u1',u2',v,t,_,8,rfl,hb,B,dt,bok,wt,by lia,by lia,λr w n c k H3 s3 ly na hr hk1 hk2=>?_⟩;refine⟨eA.of hr,dS (j:=1) rfl,?_⟩;by_cases h8:k≤8
 ·refine⟨_,rfl,eK (decide_eq_false (by lia)) ?_⟩;exact qu (bks.mono s3) bok wg (dt.mono (dY s3)) (by lia) hQ
 ·refine⟨_,rfl,fW (decide_eq_true (by lia)) ?_⟩;have s03:=(sA.trans sB).trans s3;obtain⟨ms3,em3,hm5,hm6⟩:=lu ns (some 9) (some 12);have hm8:ms3.length≤3:=by have ea:HT.kL ns.length ns.length (some 12)=min 12 ns.length:=lI ns.length ns.length 12;have eb:HT.kL ns.length 0 (some 9)=min 9 ns.length:=lI ns.length 0 9;rw[ea,eb]at hm5;lia
  refine⟨s03.seq ha,λq3 hq3=>?_⟩;refine⟨q3,ms3,rfl,eG.of (by rw[dO,em3]),by lia,λt' v' H4 s4 dt' wg' hsz' hnm'=>?_⟩;have sC:dy H3 H4:=(dR (o:=.lst (ie (ns.map V.int) (some 9) (some 12))) hq3).trans s4;exact qu (bks.mono (s3.trans sC)) bok wg' dt' (by lia) hQ
end S8
namespace L2
open PySem PySem.Spec PyProof.Rows
def gP(K:aA)(x qual:Str)(st:Stmt)(f:Addr):Prop:=∃fd,Fa K x qual st f fd
theorem MO{K:aA}{x qual:Str}{st:Stmt}{f:Addr}{oc:Value}{od an:Option Addr}{osl:Array (Option Value)}{kV doc pm cdv ct:Value}(l:K.lookup f=some ⟨oc,od,.func (PySem.W.fnOf x qual (ko st) (iI st) (fN st) .none kV doc pm an cdv ct),osl⟩)
  (c:PySem.W.codeIn K cdv qual=true) (k:PySem.W.keepIn K (.ref f)=true):gP K x qual st f:=⟨_,IW l c k⟩
structure Ds(P:Program)(w:World)(K:aA)(mg:Str→Option Value)(base:Heap)(k:Nat)(f:Addr)(ps:List Str)(sp:Sp):Prop where
 ex:∃fd,lY P w K mg base wc k f fd ps sp∧nQ K fd ps []
 kp:PySem.W.keepIn K (.ref f)=true
section
variable {P:Program}{w:World}{K:aA}{mg:Str→Option Value}{base:Heap}{x qual:Str}{st:Stmt}{f:Addr}{N ps:List Str}{k:Nat}{sp sp':Sp}
theorem Ds.imp(D:Ds P w K mg base k f ps sp)(h:∀vs H Q E,sp' vs H Q E→sp vs H Q E):Ds P w K mg base k f ps sp':=by obtain⟨⟨fd,F,b⟩,kp⟩:=D;exact⟨⟨fd,F.imp h,b⟩,kp⟩
theorem ji(F:gP K x qual st f)
  (hbody:∀(cdv:Value)(A:Around)(outer:List Env)(s:Shared)(H:Hp)(vs:List V)(Q:VK)(E:XK),N.Nodup→ig k (A.deeper (envOfC qual (fN st) s.heap.objs.size f cdv))→sp vs H Q E→
   ∃t,tS (oo wc P w K mg base N qual (fN st) f cdv A outer s H E).nox (iI st) t∧t {nx:=λ_ H'=>Q .non H',rt:=Q} (start N vs) H)
  (S:nN N ps (fN st):=by exact⟨rfl,rfl,rfl,by decide,rfl,by decide,by decide⟩)
  (hb:∀(kV doc pm:Value)(an:Option Addr)(cdv ct:Value)(us:List Value),us.length=ps.length→bindArgs (PySem.W.fnOf x qual (ko st) (iI st) (fN st) .none kV doc pm an cdv ct) ⟨us,[]⟩=pure (ps.zip us):=by intro _ _ _ _ _ _ us hl;first|(match us,hl with|[_],_=>rfl)|(match us,hl with|[_,_],_=>rfl)|(match us,hl with|[_,_,_],_=>rfl)|(match us,hl with|[_,_,_,_],_=>rfl))
  (len:∀vs H Q E,sp vs H Q E→vs.length=ps.length:=by intro vs H Q E h;first|(cases h;rfl;done)|(repeat (first|(obtain⟨rfl,_⟩:=h;rfl)|obtain⟨_,h⟩:=h))):Ds P w K mg base (k+1) f ps sp:=by
 obtain⟨fd,F⟩:=F;exact⟨⟨fd,F.ok S len λcdv A outer s H vs Q E=>hbody cdv A outer s H vs Q E S.nd,F.binds hb⟩,F.kp⟩
theorem OC(F:Fa K x qual st f fd)
  (hbody:∀(cdv:Value)(A:Around)(outer:List Env)(s:Shared)(H:Hp)(vs:List V)(Q:VK)(E:XK),N.Nodup→ig k (A.deeper (envOfC qual (fN st) s.heap.objs.size f cdv))→sp vs H Q E→
   ∃t,tS (oo wc P w K mg base N qual (fN st) f cdv A outer s H E).nox (iI st) t∧t {nx:=λ_ H'=>Q .non H',rt:=Q} (start N vs) H)
  (S:nN N ps (fN st):=by exact⟨rfl,rfl,rfl,by decide,rfl,by decide,by decide⟩)
  (len:∀vs H Q E,sp vs H Q E→vs.length=ps.length:=by intro vs H Q E h;first|(cases h;rfl;done)|(repeat (first|(obtain⟨rfl,_⟩:=h;rfl)|obtain⟨_,h⟩:=h))):lY P w K mg base wc (k+1) f fd ps sp:=
 F.ok S len λcdv A outer s H vs Q E=>hbody cdv A outer s H vs Q E S.nd
theorem Kf(F:gP K x qual st f)
  (h:∀vs H Q E,sp vs H Q E→vs.length=ps.length∧False)
  (hb:∀(kV doc pm:Value)(an:Option Addr)(cdv ct:Value)(us:List Value),us.length=ps.length→bindArgs (PySem.W.fnOf x qual (ko st) (iI st) (fN st) .none kV doc pm an cdv ct) ⟨us,[]⟩=pure (ps.zip us):=by intro _ _ _ _ _ _ us hl;first|(match us,hl with|[_],_=>rfl)|(match us,hl with|[_,_],_=>rfl)|(match us,hl with|[_,_,_],_=>rfl)|(match us,hl with|[_,_,_,_],_=>rfl)):Ds P w K mg base k f ps sp:=by
 obtain⟨fd,F⟩:=F;exact⟨⟨fd,⟨λvs H Q E z=>(h vs H Q E z).1,λA outer s H args us vs Q E _ _ _ _ z=>(h _ _ _ _ z).2.elim⟩,F.binds hb⟩,F.kp⟩
end
section
variable {X:Cx}{k n:Nat}{f C:Addr}{ps:List Str}{sp:Sp}{x m:Str}{e a b o:Expr}{es:List Expr}{t:TA}{ta tb te:TE}{p pos apos:Pos}
theorem pc(D:Ds X.prog X.w X.K X.mg X.base k f ps sp)(hr:ig n X.A)(hm:X.mg x=some (.ref f))(ha:PA X (e::es) t)(hk:k≤n:=by decide)(hg:Gl X x:=by rfl)(hdb:(x==("__debug__":Str))=false:=by decide)(he:starEach (e::es) X.env=(false,eval e X.env)::starEach es X.env:=by rfl)(hpl:(backTo pos (starEach es X.env)).any (·.1)=false:=by rfl):
  PE X (.Call (.Name x p) (e::es) [] pos) (eN sp [] E0 t):=by
 obtain⟨⟨fd,F,bd⟩,kp⟩:=D;exact EB F (hr.mono hk) hg hm kp bd .nil Bc ha hdb he hpl
theorem pm(he:PE X o ta)(c:wb X.K C)(hm:lX X.K C m f)(D:Ds X.prog X.w X.K X.mg X.base k f ps sp)(hr:ig n X.A)(ha:PA X (e::es) t)(hk:k≤n:=by decide)
  (hst:starEach (e::es) X.env=(false,eval e X.env)::starEach es X.env:=by rfl) (hpl:(backTo pos (starEach es X.env)).any (·.1)=false:=by rfl)
  (ht:eval (.Call (.Attribute o m apos) (e::es) [] pos) X.env=(do
   let ov ← eval o X.env
   standAt apos.atName
   let (f,first) ← holding [ov] (getMethod ov m pl)
   callWith pos f first (backTo pos (starEach (e::es) X.env)) (backToKw pos (keywordEach [] X.env))):=by rfl):PE X (.Call (.Attribute o m apos) (e::es) [] pos) (jq C m sp [] E0 ta t):=by
 obtain⟨⟨fd,F,bd⟩,kp⟩:=D;exact D8 he c hm F (hr.mono hk) bd .nil Bc ha hst hpl ht
theorem pk(M:Mk X.K C f)(D:Ds X.prog X.w X.K X.mg X.base k f ps sp)(hr:ig n X.A)(hm:X.mg x=some (.ref C))(ha:PA X (e::es) t)(hk:k+1≤n:=by decide)(hg:Gl X x:=by rfl)(hdb:(x==("__debug__":Str))=false:=by decide)(he:starEach (e::es) X.env=(false,eval e X.env)::starEach es X.env:=by rfl)(hpl:(backTo pos (starEach es X.env)).any (·.1)=false:=by rfl):
  PE X (.Call (.Name x p) (e::es) [] pos) (uF C sp [] E0 t):=by
 obtain⟨⟨fd,F,bd⟩,kp⟩:=D;exact D9 M F (hr.mono hk) hg hm bd .nil Bc ha hdb he hpl
theorem OE{K:aA}{i j:Nat}:∀(v:V)(σ:St)(H:Hp)(Q Q':St→Hp→Prop),lz K 2 (gH (dX i) (gH (dX j) mB)) v σ H Q→(∀σ' H',Q σ' H'→Q' σ' H')→lz K 2 (gH (dX i) (gH (dX j) mB)) v σ H Q':=by intro v σ H Q Q' h k;obtain⟨a,rfl,h⟩:=onR.ex h;obtain @⟨xs,e1,e2,h⟩:=h;obtain⟨v1,r1,rfl,h⟩:=onC.ex h;obtain⟨v2,r2,rfl,e3,h⟩:=onC.ex h;exact⟨e1,e2,e3,k _ _ h⟩
theorem xT(ha:PE X a ta)(hb:PE X b tb)(hs:tR b:=by exact λ_ _=>rfl):PE X (.Subscript a b pos) (dz (eC X.K) ta tb):=uT IQ ha hb hs
theorem xL(ha:PE X a ta)(hb:PE X b tb)(hs:tR b:=by exact λ_ _=>rfl):PE X (.Subscript a b pos) (dz (gL X.K) ta tb):=uT EV ha hb hs
theorem sN(i:Nat)(nd:X.N.Nodup)(hx:Iv X.env.scope x)(he:PE X e te)(hi:X.N[i]?=some x:=by rfl)(hs:swapsWith e (some (.Name x pos')) pos.line X.env=pure false:=by rfl)(hf:X.fn x=true∨X.env.scope.names.lookup x=some .local:=by first|exact .inl rfl|exact .inr rfl):PS X (.Assign [.Name x pos'] e pos) (eD te (dX i)):=Hl nd hi hx he hs hf
theorem qt(ho:nJ X (compareOp op) r)(ha:PE X a ta)(hb:PE X b tb)(h:op≠.In:=by decide)(h2:op≠.NotIn:=by decide):PT X (.Compare a [op] [b] pos) (eI (dz r ta tb)):=kh ho ha hb (Bl b h h2)
theorem qe(ho:nJ X (compareOp op) r)(ha:PE X a ta)(hb:PE X b tb)(h:op≠.In:=by decide)(h2:op≠.NotIn:=by decide):PE X (.Compare a [op] [b] pos) (dz r ta tb):=xh ho ha hb (Bl b h h2)
theorem fF(h:PE X e te)(hs:starEach [e] X.env=(false,eval e X.env)::starEach [] X.env:=by rfl):PA X [e] (dM te dW):=dh h fX hs
theorem fZ(h:PE X e te)(h2:PE X a ta)(hs:starEach [e,a] X.env=(false,eval e X.env)::starEach [a] X.env:=by rfl)(hs2:starEach [a] X.env=(false,eval a X.env)::starEach [] X.env:=by rfl):PA X [e,a] (dM te (dM ta dW)):=dh h (fF h2 hs2) hs
variable {body:List Stmt}{ts:TS}
theorem wq(i:Nat)(hN:X.N[i]?=some x)(k:(∀{pos:Pos},PE X (.Name x pos) (dN i))→tS X body ts)(hv:LF X.env.scope x:=by first|exact bF rfl|exact bR (bF rfl)|exact bR (bR rfl))(hd:(x==("__debug__":Str))=false:=by decide)(hcd:(x==("__classdict__":Str))=false:=by decide):tS X body ts:=k (λ{pos}=>BX hN hv hd hcd)
theorem wh(i:Nat)(hi:X.N[i]?=some x)(nd:X.N.Nodup)(k:Iv X.env.scope x→(∀{pos:Pos},PG X (.Name x pos) (dX i))→tS X body ts)(hx:Iv X.env.scope x:=by first|exact bF rfl|exact bR rfl)
  (hf:X.fn x=true∨X.env.scope.names.lookup x=some .local:=by first|exact .inl rfl|exact .inr rfl):tS X body ts:=k hx (λ{pos}=>mq (i:=i) nd hi hx hf)
end
end L2
namespace K7
open PySem L2 SW S9 S8
def gJ(i:Nat):Stmt:=PySem.Challenge.pw_stampword_k07_whole_names_of_the_caller.main.body.getD i (.Pass ⟨0,0,0,0⟩)
structure M7 where
 (f0 f1 f2 f3 f4 f5 f6 f7 f8 f9 f10 f11 f12 f13 f14 f15 f16 f17 f18 f19 f20 f21 f22 f23 f24 f25 f26 f27 f28 f29 f30 f31 f32 f33 f34 f35 f36 f37 f38 f39 f40 f41 f42 f43 f44 o0 o1:Addr)
structure LG(P:Program)(w:World)(K:aA)(mg:Str→Option Value)(base:Heap)(a:M7):Prop where
 n0:mg "abs"=none
 n1:mg "bool"=none
 n2:mg "isinstance"=none
 n3:mg "int"=none
 n4:mg "list"=none
 n5:mg "len"=none
 n6:mg "min"=none
 n7:mg "tuple"=none
 n8:mg "str"=none
 n9:mg "range"=none
 n10:mg "reversed"=none
 n11:mg "dict"=none
 n12:mg "sorted"=none
 n13:mg "enumerate"=none
 n14:mg "zip"=none
 g0:mg "_law_any"=some (.ref a.f0)
 g1:mg "_law_any_word"=some (.ref a.f1)
 g2:mg "_law_whole"=some (.ref a.f2)
 g3:mg "_law_inside"=some (.ref a.f3)
 g4:mg "_law_room"=some (.ref a.f4)
 g5:mg "_law_drawn_piece"=some (.ref a.f5)
 g6:mg "_law_drawn_main"=some (.ref a.f6)
 g7:mg "_law_is_piece"=some (.ref a.f7)
 g8:mg "_law_drawn_book"=some (.ref a.f8)
 g9:mg "_law_is_done"=some (.ref a.f9)
 g10:mg "_law_book_copied"=some (.ref a.f10)
 g11:mg "_law_reworded"=some (.ref a.f11)
 g12:mg "_law_noted"=some (.ref a.f12)
 g13:mg "_law_goes_with"=some (.ref a.f13)
 g14:mg "_law_first_stamp"=some (.ref a.f14)
 g15:mg "_law_placed"=some (.ref a.f15)
 g16:mg "_law_laid"=some (.ref a.f16)
 g17:mg "parts"=some (.ref a.f17)
 g18:mg "every_piece"=some (.ref a.f18)
 g19:mg "with_word"=some (.ref a.f19)
 g20:mg "pieces_with_lets"=some (.ref a.f20)
 g21:mg "outside_names"=some (.ref a.f21)
 g22:mg "stamps_by_word"=some (.ref a.f22)
 g23:mg "check_use"=some (.ref a.f23)
 g24:mg "check_piece"=some (.ref a.f24)
 g25:mg "check_stamps"=some (.ref a.f25)
 g26:mg "numbered_word"=some (.ref a.f26)
 g29:mg "all_outside_names"=some (.ref a.f29)
 g30:mg "spots_within"=some (.ref a.f30)
 g31:mg "has_stamps_to_open"=some (.ref a.f31)
 g32:mg "row_at"=some (.ref a.f32)
 g41:mg "piece_of"=some (.ref a.f41)
 g42:mg "sources_of"=some (.ref a.f42)
 g43:mg "write_out"=some (.ref a.f43)
 g44:mg "expanded"=some (.ref a.f44)
 u0:∃t,mg "LETTERS"=some (.str "abcdefghijklmnopqrstuvwxyz" t)
 c0:mg "Opening"=some (.ref a.o0)
 l0:wb K a.o0
 c1:mg "FreshWords"=some (.ref a.o1)
 l1:wb K a.o1
abbrev LG.D{P:Program}{w:World}{K:aA}{mg:Str→Option Value}{base:Heap}{a:M7}(_:LG P w K mg base a):=Ds P w K mg base
seal L2.PE L2.PT L2.PW L2.PA L2.PS L2.tS L2.PC L2.PG L2.LK L2.PI L2.PO L2.LJ
section
variable {P:Program}{w:World}{K:aA}{mg:Str→Option Value}{base:Heap}{a:M7}{f:Addr}(T:LG P w K mg base a)(ro:RO K a.o0)(rw:RW K a.o1)
include T ro rw
theorem ID(F:gP K "_law_any" "_law_any" (gJ 43) f):T.D 1 f ["_law_cell"] xX:=
 ji (N:=["_law_cell","_law_size"]) F λ_ _ _ _ _ _ _ _ nd hr h=>⟨SW.JZ K,wq 0 rfl λp0=>wq 1 rfl λp1=>wh 1 rfl nd λl1 g1=>(dP (sN 1 nd l1 (ef ib (ef lg p0 dQ) (ef Bg dQ dQ))) (dU (eM (ef Hq p1 (xL (eL (fZ dQ (ii gw dQ))) (ef ib p0 dQ)))))),SW.MJ h⟩
theorem KI(F:gP K "_law_any_word" "_law_any_word" (gJ 42) f):T.D 1 f ["_law_cell"] rg:=
 ji (N:=["_law_cell","_law_left","_law_word"]) F λ_ _ _ _ _ _ _ _ nd hr h=>⟨SW.L1 K,wq 0 rfl λp0=>wq 1 rfl λp1=>wq 2 rfl λp2=>wh 1 rfl nd λl1 g1=>wh 2 rfl nd λl2 g2=>(dP (sN 1 nd l1 (ef ib (eB CP (by rfl) T.n0 Ij (fF p0)) (ef Bg dQ dQ))) (dP (sN 2 nd l2 dj) (dP (gS PassesOwn.never (qt Jl p1 dQ) (dP (sN 2 nd l2 (ef ki (uT wD dj (ef ib p1 dQ) (λ_ _=>rfl)) p2)) (dU (sN 1 nd l1 (ef iM (ef lg p1 dQ) dQ))))) (dU (eM p2))))),SW.Nb h⟩
theorem Jq(F:gP K "_law_whole" "_law_whole" (gJ 29) f):T.D 1 f ["_law_found"] ke:=
 ji (N:=["_law_found"]) F λ_ _ _ _ _ _ _ _ nd hr h=>⟨S1.LV K,wq 0 rfl λp0=>(dU (eM (Bb (eB iO (by rfl) T.n2 fe (fZ p0 (iz (v:=.ty "int") (by rfl) T.n3 wQ rfl))) (BY (Hm (eB iO (by rfl) T.n2 fe (fZ p0 (iz (v:=.ty "bool") (by rfl) T.n1 Eg rfl)))))))),S1.NC h⟩
theorem Hu(F:gP K "_law_inside" "_law_inside" (gJ 31) f):T.D 1 f ["_law_piece"] gQ:=
 ji (N:=["_law_piece"]) F λ_ _ _ _ _ _ _ _ nd hr h=>⟨SW.JT K,wq 0 rfl λp0=>(dP (et (kh jG (xT p0 dQ) (eL (fZ dj dj)) (by with_unfolding_all rfl)) (dU (eM (eL fX))) eU) (dU (eM (gx nB (by rfl) T.n4 pP (fF (fV sE p0 (fU (ef lR dQ (gx rL (by rfl) T.n3 wQ (fF (xh jG (xT p0 dQ) (eL (fZ dj dj)) (by with_unfolding_all rfl)))))) gj)))))),SW.MB h⟩
theorem EK(F:gP K "_law_room" "_law_room" (gJ 44) f):T.D 1 f ["_law_script","_law_most","_law_bound"] (py K):=
 ji (N:=["_law_script","_law_most","_law_bound"]) F λ_ _ _ _ _ _ _ _ nd hr h=>⟨SW.GF K,wq 0 rfl λp0=>wq 1 rfl λp1=>wq 2 rfl λp2=>(dP (et (qt lQ (eB dq (by rfl) T.n5 fA (fF p0)) dQ) (dU (eM p2)) eU) (dU (eM p1))),SW.K6 h⟩
theorem KD(F:gP K "_law_drawn_piece" "_law_drawn_piece" (gJ 30) f)(d1:T.D 1 a.f1 ["_law_cell"] rg)(d0:T.D 1 a.f0 ["_law_cell"] xX):T.D 2 f ["_law_cells","_law_stamps"] (iB K):=
 ji (N:=["_law_cells","_law_stamps","_law_pile","_law_cell","_law_rest","_law_way","_law_word","_law_inner","_law_look","_law_name","_law_many","_law_made","_law_last"]) F λ_ _ _ _ _ _ _ _ nd hr h=>⟨SW.Lv K,wq 0 rfl λp0=>wq 1 rfl λp1=>wq 2 rfl λp2=>wq 3 rfl λp3=>wq 4 rfl λp4=>wq 5 rfl λp5=>wq 6 rfl λp6=>wq 7 rfl λp7=>wq 8 rfl λp8=>wq 9 rfl λp9=>wq 10 rfl λp10=>wq 11 rfl λp11=>wq 12 rfl λp12=>wh 2 rfl nd λl2 g2=>wh 3 rfl nd λl3 g3=>wh 4 rfl nd λl4 g4=>wh 5 rfl nd λl5 g5=>wh 6 rfl nd λl6 g6=>wh 7 rfl nd λl7 g7=>wh 8 rfl nd λl8 g8=>wh 9 rfl nd λl9 g9=>wh 10 rfl nd λl10 g10=>wh 11 rfl nd λl11 g11=>wh 12 rfl nd λl12 g12=>(dP (sN 2 nd l2 (eL (fF (eP (fZ dj dj))))) (dP (gE PassesOwn.never rfl (gm p0) g3 (dP (sN 4 nd l4 (ef lg p3 dQ)) (dP (sN 5 nd l5 (ef ib p3 dQ)) (dP (sN 6 nd l6 (xL (eL (dh dj (dh dj (fZ dj dj)))) (ef ib p4 dQ))) (dP (et (qt fb (ef ib p4 dQ) dQ) (dU (sN 6 nd l6 (ef ki (pc d1 hr T.g1 (fF (ef lg p4 dQ))) dj))) eU) (dP (sN 7 nd l7 (fV gW p2 (fU (ii gw dQ)) gj)) (dU (et (kN (qt fb p5 dQ) (kf (iF (qt fb (eB dq (by rfl) T.n5 fA (fF p7)) dQ) (gi (BR qy qy dQ p5 dQ))).pt)).pt (dU (eO (gB aH aQ aR eT p2 (fF (eP (fZ dj (xL (eL (fZ (ef iM (ef ib p4 dQ) dQ) (pc d0 hr T.g0 (fF p4)))) (gx rL (by rfl) T.n3 wQ (fF (qe fb (ef ib p4 dQ) dQ)))))))))) (dU (et (qt qy p5 dQ) (dU (eO (gB aH aQ aR eT p2 (fF (eP (fZ dj p6)))))) (dU (et (iF (qt fb p5 dQ) (gi (qt fb (eB dq (by rfl) T.n5 fA (fF p7)) dQ))).pt (dU (sN 2 nd l2 (ef jh (fV gW p2 gj (fU (ii gw dQ))) (eL (fF (eP (dh dj (dh (xL p7 dQ) (fZ (xL p7 dQ) (xL p7 dQ)))))))))) (dU (et (qt qy p5 dQ) (dU (sN 2 nd l2 (ef jh (fV gW p2 gj (fU (ii gw dQ))) (eL (fF (eP (dh (xL (eL (fZ dj dj)) (ef ib p5 dQ)) (fZ (xL p7 (ii gw dQ)) (xL p7 (ii gw dQ)))))))))) (dU (et (qt fb p5 dQ) (dP (sN 8 nd l8 (xL p7 (ii gw dQ))) (dP (et (kh jG (xT p8 dQ) (eL (fZ dj dj)) (by with_unfolding_all rfl)) (dU (sN 8 nd l8 (xT p8 dQ))) eU) (dP (et (iF (qt fb (xT p8 dQ) dj) (gi (qt lQ (ef ib p4 dQ) dQ))).pt (dU (sN 6 nd l6 (xT p8 dQ))) eU) (dU (sN 2 nd l2 (ef jh (fV gW p2 gj (fU (ii gw dQ))) (eL (fF (eP (dh dj (dh p6 (fZ (xL p7 (ii gw dQ)) (xL p7 (ii gw dQ)))))))))))))) (dU (et (qt (kR hr.units0) p1 (eL fX)) (dP (kB (xL p1 (ef ib p4 (eB dq (by rfl) T.n5 fA (fF p1)))) (jg rfl (fH g9 (fH g10 iy)))) (dP (sN 10 nd l10 (eB (zY rfl) (by rfl) T.n6 Ii (fZ p10 (eB dq (by rfl) T.n5 fA (fF p2))))) (dU (et (qt fb p10 (xT (xL p1 (ef ib p4 (eB dq (by rfl) T.n5 fA (fF p1)))) dQ)) (dP (sN 11 nd l11 (gx kF (by rfl) T.n7 jk (fF (ef jh (eL (fZ dj p9)) (fV gW p2 (fU (ef iM (eB dq (by rfl) T.n5 fA (fF p2)) p10)) gj))))) (dU (sN 2 nd l2 (ef jh (fV gW p2 gj (fU (ef iM (eB dq (by rfl) T.n5 fA (fF p2)) p10))) (eL (fF p11)))))) eU)))) eU)))))))))))))))))) (dP (gS PassesOwn.never (qt lQ (eB dq (by rfl) T.n5 fA (fF p2)) dQ) (dP (sN 12 nd l12 (jF aH ay az jH p2)) (dU (eO (gB aH aQ aR eT p2 (fF (eP (dh dj (fZ (jF aH ay az jH p2) p12))))))))) (dU (eM (xL p2 dQ)))))),S9.MD h⟩
theorem EM(F:gP K "_law_drawn_main" "_law_drawn_main" (gJ 33) f)(d5:T.D 2 a.f5 ["_law_cells","_law_stamps"] (pE K mI)):T.D 3 f ["_law_cells"] (qB K):=
 ji (N:=["_law_cells"]) F λ_ _ _ _ _ _ _ _ nd hr h=>⟨SW.GW K mI,wq 0 rfl λp0=>(dU (eM (pc d5 hr T.g5 (fZ p0 (eL (dh (eP (fZ dj dQ)) (dh (eP (fZ dj dQ)) (fZ (eP (fZ dj dQ)) (eP (fZ dj dQ)))))))))),SW.K8 h⟩
theorem J8(F:gP K "_law_is_piece" "_law_is_piece" (gJ 38) f)(d2:T.D 1 a.f2 ["_law_found"] ke)(d3:T.D 1 a.f3 ["_law_piece"] gQ):T.D 2 f ["_law_found"] lb:=
 ji (N:=["_law_found","_law_todo","_law_part","_law_sizes"]) F λ_ _ _ _ _ _ _ _ nd hr h=>⟨S10.Lp K,wq 0 rfl λp0=>wq 1 rfl λp1=>wq 2 rfl λp2=>wq 3 rfl λp3=>wh 1 rfl nd λl1 g1=>wh 2 rfl nd λl2 g2=>wh 3 rfl nd λl3 g3=>(dP (sN 1 nd l1 (eL (fF p0))) (dP (gS PassesOwn.never (qt (kR hr.units0) p1 (eL fX)) (dP (sN 2 nd l2 (jF aH ay az jH p1)) (dP (et (kN (ix (iW (eB iO (by rfl) T.n2 fe (fZ p2 (iz (v:=.ty "tuple") (by rfl) T.n7 jk rfl))))) (kN (qt qy (eB dq (by rfl) T.n5 fA (fF p2)) dQ) (kf (ix (iW (eB iO (by rfl) T.n2 fe (fZ (xT p2 dQ) (iz (v:=.ty "str") (by rfl) T.n8 tL rfl)))))))).pt (dU (eM hV)) eU) (dP (sN 3 nd l3 (EA (kO dj dQ (kO dj dQ (kO dj dQ (kO dj dQ (kO dj dQ (kO dj dQ D4)))))) rfl rfl (by intro z;cases z) (by decide))) (dP (et (iF (qt lP (mt (hZ hr) p3 (xT p2 dQ) dQ ⟨rfl,rfl,rfl,rfl⟩) (eB dq (by rfl) T.n5 fA (fF p2))) (gi (qt lP (xT p2 dQ) dj))).pt (dU (eM hV)) eU) (dP (et (qt fb (xT p2 dQ) dj) (dU (et (ix (iW (pc d2 hr T.g2 (fF (xT p2 dQ))))) (dU (eM hV)) eU)) (dU (et (iF (kh jG (xT p2 dQ) (eL (dh dj (fZ dj dj))) (by with_unfolding_all rfl)) (gi (ix (iW (eB iO (by rfl) T.n2 fe (fZ (xT p2 dQ) (iz (v:=.ty "str") (by rfl) T.n8 tL rfl))))))).pt (dU (eM hV)) eU))) (dU (sN 1 nd l1 (ef jh p1 (pc d3 hr T.g3 (fF p2))))))))))) (dU (eM hV)))),S10.NS h⟩
theorem KF(F:gP K "_law_drawn_book" "_law_drawn_book" (gJ 32) f)(d5:T.D 2 a.f5 ["_law_cells","_law_stamps"] (iB K)):T.D 3 f ["_law_cells","_law_wild"] (rq K):=
 ji (N:=["_law_cells","_law_wild","_law_low","_law_book"]) F λ_ _ _ _ _ _ _ _ nd hr h=>⟨S9.Lx K,wq 0 rfl λp0=>wq 1 rfl λp1=>wq 2 rfl λp2=>wq 3 rfl λp3=>wh 2 rfl nd λl2 g2=>wh 3 rfl nd λl3 g3=>(dP (sN 2 nd l2 (eL (dh (eL fX) (fZ (eL (fF (eP (fZ dj dQ)))) (eL (fZ (eP (fZ dj dQ)) (eP (fZ dj dQ)))))))) (dP (et (iW p1) (dU (kB (eL (fF (eP (fZ dj dQ)))) (BW p2 dQ uM))) eU) (dP (sN 3 nd l3 (eL (fF (eP (dh dj (fZ (eL fX) (pc d5 hr T.g5 (fZ (fV gW p0 gj (fU dQ)) (xL p2 dQ))))))))) (dP (eO (gB aH aQ aR eT p3 (fF (eP (dh dj (fZ (eL (fF dj)) (pc d5 hr T.g5 (fZ (fV gW p0 (fU dQ) (fU dQ)) (xL p2 dQ))))))))) (dP (eO (gB aH aQ aR eT p3 (fF (eP (dh dj (fZ (eL (fZ dj dj)) (pc d5 hr T.g5 (fZ (fV gW p0 (fU dQ) (fU dQ)) (xL p2 dQ))))))))) (dU (eM p3))))))),S9.NZ h⟩
theorem KE(F:gP K "_law_is_done" "_law_is_done" (gJ 41) f)(d2:T.D 1 a.f2 ["_law_found"] ke)(d7:T.D 2 a.f7 ["_law_found"] lb):T.D 3 f ["_law_found"] qF:=
 ji (N:=["_law_found","_law_one","_law_k"]) F λ_ _ _ _ _ _ _ _ nd hr h=>⟨S9.Lw K,wq 0 rfl λp0=>wq 1 rfl λp1=>wq 2 rfl λp2=>wh 1 rfl nd λl1 g1=>wh 2 rfl nd λl2 g2=>(dP (et (kN (ix (iW (eB iO (by rfl) T.n2 fe (fZ p0 (iz (v:=.ty "tuple") (by rfl) T.n7 jk rfl))))) (kN (qt lP (eB dq (by rfl) T.n5 fA (fF p0)) dQ) (kf (ix (iW (eB iO (by rfl) T.n2 fe (fZ (xT p0 dQ) (iz (v:=.ty "str") (by rfl) T.n8 tL rfl)))))))).pt (dU (eM hV)) eU) (dP (et (kN (qt lP (xT p0 dQ) dj) (kN (ix (iW (pc d2 hr T.g2 (fF (xT p0 dQ))))) (kf (ix (iW (eB iO (by rfl) T.n2 fe (fZ (xT p0 dQ) (iz (v:=.ty "list") (by rfl) T.n4 pP rfl)))))))).pt (dU (eM hV)) eU) (dP (gE PassesOwn.never rfl (gm (xT p0 dQ)) g1 (dP (et (kN (ix (iW (eB iO (by rfl) T.n2 fe (fZ p1 (iz (v:=.ty "tuple") (by rfl) T.n7 jk rfl))))) (kN (qt lP (eB dq (by rfl) T.n5 fA (fF p1)) dQ) (kf (ix (iW (eB iO (by rfl) T.n2 fe (fZ (xT p1 dQ) (iz (v:=.ty "str") (by rfl) T.n8 tL rfl)))))))).pt (dU (eM hV)) eU) (dP (et (ix (iW (eB iO (by rfl) T.n2 fe (fZ (xT p1 dQ) (iz (v:=.ty "tuple") (by rfl) T.n7 jk rfl))))) (dU (eM hV)) eU) (dU (gE PassesOwn.never rfl (BV (xT p1 dQ)) g2 (dU (et (ix (iW (pc d2 hr T.g2 (fF p2)))) (dU (eM hV)) eU))))))) (dU (eM (pc d7 hr T.g7 (fF (xT p0 dQ)))))))),S9.NY h⟩
def MY(s:Stmt):Scope:=match(iI s).getLast? with
 | some (.Return (some (.ListComp _ _ sc _)) _)=>sc
 | _=>fN s
omit T ro rw in
theorem MU{f:Addr}{cdv:Value}{A:Around}{outer:List Env}{s:Shared}{H:Hp}{E:XK}:jO ((oo wc P w K mg base ["_law_book"] "_law_book_copied" (fN (gJ 45)) f cdv A outer s H E).nox) (MY (gJ 45)) [] ["_law_one"] [] []:=
 ⟨rfl,by decide,rfl,by decide,λy c h=>h,λy h=>sq (L:=[((".0":Str),NameKind.local),(("_law_one":Str),NameKind.local),(("list":Str),NameKind.globalImplicit)]) (by simp) h,λk y hy=>by simp at hy,rfl⟩
theorem KH(F:gP K "_law_book_copied" "_law_book_copied" (gJ 45) f):T.D 1 f ["_law_book"] md:=
 ji (N:=["_law_book"]) F λ_ _ _ _ _ _ _ _ nd hr h=>⟨S9.L0 K,wq 0 rfl λp0=>(dU (eM (BZ rfl MU (gm p0) (λfp s H C=>(eP (dh (xT (pv 0) dQ) (fZ (gx nB (by rfl) T.n4 pP (fF (xT (pv 0) dQ))) (xT (pv 0) dQ)))))))),S9.MH h⟩
theorem Jz(F:gP K "_law_reworded" "_law_reworded" (gJ 40) f)(d3:T.D 1 a.f3 ["_law_piece"] gQ):T.D 2 f ["_law_piece","_law_places","_law_tail"] uJ:=
 ji (N:=["_law_piece","_law_places","_law_tail","_law_order","_law_todo","_law_part","_law_own","_law_inner","_law_k","_law_near","_law_pile","_law_many","_law_kids","_law_front"]) F λ_ _ _ _ _ _ _ _ nd hr h=>⟨S8.Lf K,wq 0 rfl λp0=>wq 1 rfl λp1=>wq 2 rfl λp2=>wq 3 rfl λp3=>wq 4 rfl λp4=>wq 5 rfl λp5=>wq 6 rfl λp6=>wq 7 rfl λp7=>wq 8 rfl λp8=>wq 9 rfl λp9=>wq 10 rfl λp10=>wq 11 rfl λp11=>wq 12 rfl λp12=>wq 13 rfl λp13=>wh 3 rfl nd λl3 g3=>wh 4 rfl nd λl4 g4=>wh 5 rfl nd λl5 g5=>wh 6 rfl nd λl6 g6=>wh 7 rfl nd λl7 g7=>wh 8 rfl nd λl8 g8=>wh 9 rfl nd λl9 g9=>wh 10 rfl nd λl10 g10=>wh 11 rfl nd λl11 g11=>wh 12 rfl nd λl12 g12=>wh 13 rfl nd λl13 g13=>(dP (sN 3 nd l3 (eL fX)) (dP (sN 4 nd l4 (eL (fF (eP (fZ p0 p1))))) (dP (gS PassesOwn.never (qt (kR hr.units0) p4 (eL fX)) (dP (kB (jF aH ay az jH p4) (jg rfl (fH g5 (fH g6 iy)))) (dP (eO (gB aH aQ aR eT p3 (fF (eP (fZ p5 p6))))) (dP (sN 7 nd l7 (pc d3 hr T.g3 (fF p5))) (dU (gE PassesOwn.never rfl (kP (by rfl) T.n9 (dh (ef iM (eB dq (by rfl) T.n5 fA (fF p7)) dQ) (fZ (ii gw dQ) (ii gw dQ)))) g8 (dP (sN 9 nd l9 p6) (dP (et (iF (qt fb (xT p5 dQ) dj) (gi (qt fb p8 dQ))).pt (dU (sN 9 nd l9 (ef jh p6 (eL (fF (xT p5 dQ)))))) eU) (dU (eO (gB aH aQ aR eT p4 (fF (eP (fZ (xL p7 p8) p9)))))))))))))) (dP (sN 10 nd l10 (eL fX)) (dP (gE PassesOwn.never rfl (vo (by rfl) T.n10 p3) (jg rfl (fH g5 (fH g6 iy))) (dP (sN 11 nd l11 (eB dq (by rfl) T.n5 fA (fF (pc d3 hr T.g3 (fF p5))))) (dP (sN 12 nd l12 (xg rfl (by rfl) T.n4 (by rfl) T.n10 (fV gW p10 (fU (ef iM (eB dq (by rfl) T.n5 fA (fF p10)) p11)) gj))) (dP (sN 10 nd l10 (fV gW p10 gj (fU (ef iM (eB dq (by rfl) T.n5 fA (fF p10)) p11)))) (dP (sN 13 nd l13 (eL (fF (xT p5 dQ)))) (dP (et (kh jG (xT p5 dQ) (eL (dh dj (dh dj (fZ dj dj)))) (by with_unfolding_all rfl)) (dU (eO (gB aH aQ aR eT p13 (fF (xT p5 dQ))))) eU) (dP (et (kN (qt fb (xT p5 dQ) dj) (kf (iF (qt fb (xT p5 dQ) dj) (gi (kh jG (xT p5 dQ) p6 (by with_unfolding_all rfl)))).pt)).pt (dU (kB (ef ki (xT p5 dQ) p2) (BW p13 dQ uM))) eU) (dU (eO (gB aH aQ aR eT p10 (fF (gx kF (by rfl) T.n7 jk (fF (ef jh p13 p12)))))))))))))) (dU (eM (xL p10 dQ)))))))),S8.NJ h⟩
theorem J5(F:gP K "_law_noted" "_law_noted" (gJ 34) f)(d3:T.D 1 a.f3 ["_law_piece"] gQ):T.D 2 f ["_law_piece","_law_source","_law_given","_law_count"] ma:=
 ji (N:=["_law_piece","_law_source","_law_given","_law_count","_law_order","_law_todo","_law_part","_law_path","_law_own","_law_inner","_law_k","_law_near","_law_pile","_law_many","_law_kids","_law_extra"]) F λ_ _ _ _ _ _ _ _ nd hr h=>⟨S3.Ll K,wq 0 rfl λp0=>wq 1 rfl λp1=>wq 2 rfl λp2=>wq 3 rfl λp3=>wq 4 rfl λp4=>wq 5 rfl λp5=>wq 6 rfl λp6=>wq 7 rfl λp7=>wq 8 rfl λp8=>wq 9 rfl λp9=>wq 10 rfl λp10=>wq 11 rfl λp11=>wq 12 rfl λp12=>wq 13 rfl λp13=>wq 14 rfl λp14=>wq 15 rfl λp15=>wh 4 rfl nd λl4 g4=>wh 5 rfl nd λl5 g5=>wh 6 rfl nd λl6 g6=>wh 7 rfl nd λl7 g7=>wh 8 rfl nd λl8 g8=>wh 9 rfl nd λl9 g9=>wh 10 rfl nd λl10 g10=>wh 11 rfl nd λl11 g11=>wh 12 rfl nd λl12 g12=>wh 13 rfl nd λl13 g13=>wh 14 rfl nd λl14 g14=>wh 15 rfl nd λl15 g15=>(dP (sN 4 nd l4 (eL fX)) (dP (sN 5 nd l5 (eL (fF (eP (dh p0 (fZ (eP fX) iL)))))) (dP (gS PassesOwn.never (qt (kR hr.units0) p5 (eL fX)) (dP (kB (jF aH ay az jH p5) (jg rfl (fH g6 (fH g7 (fH g8 iy))))) (dP (eO (gB aH aQ aR eT p4 (fF (eP (dh p6 (fZ p7 p8)))))) (dP (sN 9 nd l9 (pc d3 hr T.g3 (fF p6))) (dU (gE PassesOwn.never rfl (kP (by rfl) T.n9 (dh (ef iM (eB dq (by rfl) T.n5 fA (fF p9)) dQ) (fZ (ii gw dQ) (ii gw dQ)))) g10 (dP (sN 11 nd l11 p8) (dP (et (iF (qt fb (xT p6 dQ) dj) (gi (qt fb p10 dQ))).pt (dP (sN 11 nd l11 (gx kq (by rfl) T.n11 pQ (fF p8))) (dU (jL (hZ hr) p11 (xT p6 dQ) (ef lR p3 (eB dq (by rfl) T.n5 fA (fF p4))) rfl))) eU) (dU (eO (gB aH aQ aR eT p5 (fF (eP (dh (xL p9 p10) (fZ (ef sR p7 (eP (fF p10))) p11))))))))))))))) (dP (sN 12 nd l12 (eL fX)) (dP (gE PassesOwn.never rfl (kP (by rfl) T.n9 (dh (ef iM (eB dq (by rfl) T.n5 fA (fF p4)) dQ) (fZ (ii gw dQ) (ii gw dQ)))) g10 (dP (kB (xL p4 p10) (jg rfl (fH g6 (fH g7 (fH g8 iy))))) (dP (sN 13 nd l13 (eB dq (by rfl) T.n5 fA (fF (pc d3 hr T.g3 (fF p6))))) (dP (sN 14 nd l14 (xg rfl (by rfl) T.n4 (by rfl) T.n10 (fV gW p12 (fU (ef iM (eB dq (by rfl) T.n5 fA (fF p12)) p13)) gj))) (dP (sN 12 nd l12 (fV gW p12 gj (fU (ef iM (eB dq (by rfl) T.n5 fA (fF p12)) p13)))) (dP (sN 15 nd l15 vp) (dP (et (kh jG (xT p6 dQ) (eL (dh dj (fZ dj dj))) (by with_unfolding_all rfl)) (dU (sN 15 nd l15 (xT p6 dQ))) eU) (dP (et (qt fb (xT p6 dQ) dj) (dU (sN 15 nd l15 (ef lR (ef lR p3 p10) dQ))) eU) (dP (et (iF (qt fb (xT p6 dQ) dj) (gi (mP (sP (hZ hr) (xT p6 dQ) p8)))).pt (dU (sN 15 nd l15 (mv (hZ hr) p8 (xT p6 dQ) (λ_ _=>rfl)))) eU) (dU (et (iF (qt fb (xT p6 dQ) dj) (iF (mP (ni (hZ hr) (xT p6 dQ) p8)) (gi (mP (sP (hZ hr) (xT p6 dQ) p2))))).pt (dU (eO (gB aH aQ aR eT p12 (fF (mv (hZ hr) p2 (xT p6 dQ) (λ_ _=>rfl)))))) (dU (eO (gB aH aQ aR eT p12 (fF (eP (dh (xT p6 dQ) (dh p15 (fZ (eP (fZ p1 p7)) p14))))))))))))))))))) (dU (eM (eP (fZ (xL p12 dQ) (ef lR p3 (eB dq (by rfl) T.n5 fA (fF p4)))))))))))),S3.NP h⟩
theorem KA(F:gP K "_law_goes_with" "_law_goes_with" (gJ 39) f)(d3:T.D 1 a.f3 ["_law_piece"] gQ):T.D 2 f ["_law_found","_law_tree"] qC:=
 ji (N:=["_law_found","_law_tree","_law_todo","_law_part","_law_node","_law_forth","_law_back","_law_inner","_law_k","_law_near","_law_far"]) F λ_ _ _ _ _ _ _ _ nd hr h=>⟨S3.Lr K,wq 0 rfl λp0=>wq 1 rfl λp1=>wq 2 rfl λp2=>wq 3 rfl λp3=>wq 4 rfl λp4=>wq 5 rfl λp5=>wq 6 rfl λp6=>wq 7 rfl λp7=>wq 8 rfl λp8=>wq 9 rfl λp9=>wq 10 rfl λp10=>wh 2 rfl nd λl2 g2=>wh 3 rfl nd λl3 g3=>wh 4 rfl nd λl4 g4=>wh 5 rfl nd λl5 g5=>wh 6 rfl nd λl6 g6=>wh 7 rfl nd λl7 g7=>wh 8 rfl nd λl8 g8=>wh 9 rfl nd λl9 g9=>wh 10 rfl nd λl10 g10=>(dP (sN 2 nd l2 (eL (fF (eP (dh p0 (dh p1 (fZ iL iL))))))) (dP (gS PassesOwn.never (qt (kR hr.units0) p2 (eL fX)) (dP (kB (jF aH ay az jH p2) (jg rfl (fH g3 (fH g4 (fH g5 (fH g6 iy)))))) (dP (et (qt lP (xT p3 dQ) (xT p4 dQ)) (dU (eM hV)) eU) (dP (et (iF (qt fb (xT p3 dQ) dj) (gi (qt lP (xT p3 dQ) (xT p4 dQ)))).pt (dU (eM hV)) eU) (dP (et (qt fb (xT p3 dQ) dj) (dP (et (qt lP (mt (hZ hr) p5 (xT p3 dQ) (xT p3 dQ) ⟨rfl,rfl,rfl,rfl⟩) (xT p4 dQ)) (dU (eM hV)) eU) (dU (et (qt lP (mt (hZ hr) p6 (xT p4 dQ) (xT p3 dQ) ⟨rfl,rfl,rfl,rfl⟩) (xT p3 dQ)) (dU (eM hV)) eU))) eU) (dP (sN 7 nd l7 (pc d3 hr T.g3 (fF p3))) (dP (et (qt lP (eB dq (by rfl) T.n5 fA (fF p7)) (eB dq (by rfl) T.n5 fA (fF (xT p4 dQ)))) (dU (eM hV)) eU) (dU (gE PassesOwn.never rfl (qx (by rfl) T.n9 (fF (eB dq (by rfl) T.n5 fA (fF p7)))) g8 (dP (sN 9 nd l9 p5) (dP (sN 10 nd l10 p6) (dP (et (iF (qt fb (xT p3 dQ) dj) (gi (qt fb p8 dQ))).pt (dP (sN 9 nd l9 (gx kq (by rfl) T.n11 pQ (fF p5))) (dP (jL (hZ hr) p9 (xT p3 dQ) (xT p4 dQ) rfl) (dP (sN 10 nd l10 (gx kq (by rfl) T.n11 pQ (fF p6))) (dU (jL (hZ hr) p10 (xT p4 dQ) (xT p3 dQ) rfl))))) eU) (dU (eO (gB aH aQ aR eT p2 (fF (eP (dh (xL p7 p8) (dh (xL (xT p4 dQ) p8) (fZ p9 p10)))))))))))))))))))) (dU (eM hV)))),S3.NV h⟩
theorem KB(F:gP K "_law_first_stamp" "_law_first_stamp" (gJ 35) f):T.D 1 f ["_law_tree"] uL:=
 ji (N:=["_law_tree","_law_todo","_law_node","_law_path","_law_k"]) F λ_ _ _ _ _ _ _ _ nd hr h=>⟨S8.Ls K,wq 0 rfl λp0=>wq 1 rfl λp1=>wq 2 rfl λp2=>wq 3 rfl λp3=>wq 4 rfl λp4=>wh 1 rfl nd λl1 g1=>wh 2 rfl nd λl2 g2=>wh 3 rfl nd λl3 g3=>wh 4 rfl nd λl4 g4=>(dP (sN 1 nd l1 (eL (fF (eP (fZ p0 (eL fX)))))) (dP (gS PassesOwn.never (qt (kR hr.units0) p1 (eL fX)) (dP (kB (jF aH ay az jH p1) (jg rfl (fH g2 (fH g3 iy)))) (dP (et (qt fb (xT p2 dQ) dj) (dU (eM p3)) eU) (dU (gE PassesOwn.never rfl (kP (by rfl) T.n9 (dh (ef iM (eB dq (by rfl) T.n5 fA (fF (xT p2 dQ))) dQ) (fZ (ii gw dQ) (ii gw dQ)))) g4 (dU (eO (gB aH aQ aR eT p1 (fF (eP (fZ (xL (xT p2 dQ) p4) (ef jh p3 (eL (fF p4)))))))))))))) (dU (eM vp)))),S8.NW h⟩
theorem J2(F:gP K "_law_placed" "_law_placed" (gJ 36) f):T.D 1 f ["_law_tree","_law_path","_law_made"] xS:=
 ji (N:=["_law_tree","_law_path","_law_made","_law_above","_law_node","_law_k","_law_j","_law_kids"]) F λ_ _ _ _ _ _ _ _ nd hr h=>⟨S8.Li K,wq 0 rfl λp0=>wq 1 rfl λp1=>wq 2 rfl λp2=>wq 3 rfl λp3=>wq 4 rfl λp4=>wq 5 rfl λp5=>wq 6 rfl λp6=>wq 7 rfl λp7=>wh 2 rfl nd λl2 g2=>wh 3 rfl nd λl3 g3=>wh 4 rfl nd λl4 g4=>wh 5 rfl nd λl5 g5=>wh 6 rfl nd λl6 g6=>wh 7 rfl nd λl7 g7=>(dP (sN 3 nd l3 (eL fX)) (dP (sN 4 nd l4 p0) (dP (gE PassesOwn.never rfl (gm p1) g5 (dP (eO (gB aH aQ aR eT p3 (fF p4))) (dU (sN 4 nd l4 (xL (xT p4 dQ) p5))))) (dP (gE PassesOwn.never rfl (kP (by rfl) T.n9 (dh (ef iM (eB dq (by rfl) T.n5 fA (fF p1)) dQ) (fZ (ii gw dQ) (ii gw dQ)))) g6 (dP (sN 4 nd l4 (xL p3 p6)) (dP (sN 7 nd l7 (ef jh (ef jh (fV gW (xT p4 dQ) gj (fU (xL p1 p6))) (eL (fF p2))) (fV gW (xT p4 dQ) (fU (ef lR (xL p1 p6) dQ)) gj))) (dU (sN 2 nd l2 (eP (dh (xT p4 dQ) (dh (xT p4 dQ) (fZ (xT p4 dQ) p7))))))))) (dU (eM p2)))))),S8.NM h⟩
def MX(s:Stmt):Scope:=match((iI s)[3]?:Option Stmt) with
 | some (.While _ b _ _)=>(match(b[2]?:Option Stmt) with
  | some (.Assign _ (.Subscript (.ListComp _ _ sc _) _ _) _)=>sc
  | _=>fN s)
 | _=>fN s
omit T ro rw in
theorem MT{f:Addr}{cdv:Value}{A:Around}{outer:List Env}{s:Shared}{H:Hp}{E:XK}:jO ((oo wc P w K mg base ["_law_book","_law_piece","_law_fuel","_law_tree","_law_count","_law_many","_law_path","_law_node","_law_k","_law_stamp","_law_given","_law_body"] "_law_laid" (fN (gJ 37)) f cdv A outer s H E).nox) (MX (gJ 37)) [("_law_node",s.heap.objs.size+1)] ["_law_one"] ["_law_node"] [7]:=
 ⟨rfl,by decide,rfl,by decide,λy c h=>h,λy h=>sq (L:=[((".0":Str),NameKind.local),(("_law_one":Str),NameKind.local),(("_law_node":Str),NameKind.cell)]) (by simp) h,λk y hy=>match k,hy with|0,hy=>by cases hy;exact⟨7,rfl,rfl,rfl,.inl rfl⟩,rfl⟩
theorem J7(F:gP K "_law_laid" "_law_laid" (gJ 37) f)(d12:T.D 2 a.f12 ["_law_piece","_law_source","_law_given","_law_count"] ma)(d14:T.D 1 a.f14 ["_law_tree"] uL)(d15:T.D 1 a.f15 ["_law_tree","_law_path","_law_made"] xS):T.D 3 f ["_law_book","_law_piece","_law_fuel"] mO:=
 ji (N:=["_law_book","_law_piece","_law_fuel","_law_tree","_law_count","_law_many","_law_path","_law_node","_law_k","_law_stamp","_law_given","_law_body"]) F λ_ _ _ _ _ _ _ _ nd hr h=>⟨S8.Ln K,wq 0 rfl λp0=>wq 1 rfl λp1=>wq 2 rfl λp2=>wq 3 rfl λp3=>wq 4 rfl λp4=>wq 5 rfl λp5=>wq 6 rfl λp6=>wq 7 rfl λp7=>wq 8 rfl λp8=>wq 9 rfl λp9=>wq 10 rfl λp10=>wq 11 rfl λp11=>wh 3 rfl nd λl3 g3=>wh 4 rfl nd λl4 g4=>wh 5 rfl nd λl5 g5=>wh 6 rfl nd λl6 g6=>wh 7 rfl nd λl7 g7=>wh 8 rfl nd λl8 g8=>wh 9 rfl nd λl9 g9=>wh 10 rfl nd λl10 g10=>wh 11 rfl nd λl11 g11=>(dP (kB (pc d12 hr T.g12 (dh p1 (dh dj (fZ iL dQ)))) (jg rfl (fH g3 (fH g4 iy)))) (dP (sN 5 nd l5 dQ) (dP (sN 6 nd l6 (pc d14 hr T.g14 (fF p3))) (dP (gS PassesOwn.never (iF (qt EF p6 vp) (gi (qt Bh p5 p2))).pt (dP (sN 7 nd l7 p3) (dP (gE PassesOwn.never rfl (gm p6) g8 (dU (sN 7 nd l7 (xL (xT p7 dQ) p8)))) (dP (sN 9 nd l9 (xL (vq (xr:=[]) rfl MT (gm p0) (λfp s H C=>mq (i:=0) (by show(["_law_one","_law_node"]:List Str).Nodup;decide) rfl (bF rfl) (.inr rfl)) (λfp s H C=>D2 (qt fb (xT (pv 0) dQ) (xT (pv 1) dQ))) (λfp s H C=>(pv 0))) dQ)) (dP (sN 10 nd l10 iL) (dP (gE PassesOwn.never rfl (qx (by rfl) T.n9 (fF (eB dq (by rfl) T.n5 fA (fF (xT p7 dQ))))) g8 (dU (jL (hZ hr) p10 (xL (xT p9 dQ) p8) (xL (xT p7 dQ) p8) rfl))) (dP (kB (pc d12 hr T.g12 (dh (xT p9 dQ) (dh (xT p9 dQ) (fZ p10 p4)))) (jg rfl (fH g11 (fH g4 iy)))) (dP (sN 3 nd l3 (pc d15 hr T.g15 (dh p3 (fZ p6 p11)))) (dP (sN 5 nd l5 (ef lR p5 dQ)) (dU (sN 6 nd l6 (pc d14 hr T.g14 (fF p3))))))))))))) (dU (eM (eP (fZ p3 p5)))))))),S8.NR h⟩
theorem Bi(F:gP K "parts" "parts" (gJ 4) f):T.D 1 f ["piece"] iw:=
 ji (N:=["piece","kind"]) F λ_ _ _ _ _ _ _ _ nd hr h=>⟨SW.C6 K,wq 0 rfl λp0=>wq 1 rfl λp1=>wh 1 rfl nd λl1 g1=>(dP (sN 1 nd l1 (xT p0 dQ)) (dP (et (kN (qt fb p1 dj) (kf (qt fb p1 dj))).pt (dU (eM (eP fX))) eU) (dP (et (kN (qt fb p1 dj) (kf (qt fb p1 dj))).pt (dU (eM (fV sE p0 (fU dQ) gj))) eU) (dU (eM (fV sE p0 (fU dQ) gj)))))),S9.JB h⟩
theorem KC(F:gP K "every_piece" "every_piece" (gJ 5) f)(d17:T.D 1 a.f17 ["piece"] iw):T.D 2 f ["piece"] lc:=
 ji (N:=["piece","found","waiting","current"]) F λ_ _ _ _ _ _ _ _ nd hr h=>⟨S9.Lu K,wq 0 rfl λp0=>wq 1 rfl λp1=>wq 2 rfl λp2=>wq 3 rfl λp3=>wh 1 rfl nd λl1 g1=>wh 2 rfl nd λl2 g2=>wh 3 rfl nd λl3 g3=>(dP (sN 1 nd l1 (eL fX)) (dP (sN 2 nd l2 (eL (fF p0))) (dP (gS PassesOwn.never (qt lQ (eB dq (by rfl) T.n5 fA (fF p2)) dQ) (dP (sN 3 nd l3 (jF aH ay az jH p2)) (dP (eO (gB aH aQ aR eT p1 (fF p3))) (dU (eO (gB aH cI cJ vv p2 (fF (pc d17 hr T.g17 (fF p3))))))))) (dU (eM p1))))),S9.NX h⟩
theorem Jn(F:gP K "with_word" "with_word" (gJ 6) f):T.D 1 f ["words","word","value"] jB:=
 ji (N:=["words","word","value","more"]) F λ_ _ _ _ _ _ _ _ nd hr h=>⟨SW.LS K,wq 0 rfl λp0=>wq 1 rfl λp1=>wq 2 rfl λp2=>wq 3 rfl λp3=>wh 3 rfl nd λl3 g3=>(dP (sN 3 nd l3 (gx kq (by rfl) T.n11 pQ (fF p0))) (dP (jL (hZ hr) p3 p1 p2 rfl) (dU (eM p3)))),SW.M9 h⟩
def KW(s:Stmt):Scope:=match(iI s).getLast? with
 | some (.Return (some (.ListComp _ _ sc _)) _)=>sc
 | _=>fN s
omit T ro rw in
theorem KU{f:Addr}{cdv:Value}{A:Around}{outer:List Env}{s:Shared}{H:Hp}{E:XK}:jO ((oo wc P w K mg base ["piece","lets"] "pieces_with_lets" (fN (gJ 7)) f cdv A outer s H E).nox) (KW (gJ 7)) [("lets",s.heap.objs.size+1)] ["part"] ["lets"] [1]:=
 ⟨rfl,by decide,rfl,by decide,λy c h=>h,λy h=>sq (L:=[((".0":Str),NameKind.local),(("part":Str),NameKind.local),(("lets":Str),NameKind.cell)]) (by simp) h,λk y hy=>match k,hy with|0,hy=>by cases hy;exact⟨1,rfl,rfl,rfl,.inl rfl⟩,rfl⟩
theorem Hs(F:gP K "pieces_with_lets" "pieces_with_lets" (gJ 7) f)(d19:T.D 1 a.f19 ["words","word","value"] jB)(d17:T.D 1 a.f17 ["piece"] rj):T.D 2 f ["piece","lets"] uK:=
 ji (N:=["piece","lets"]) F λ_ _ _ _ _ _ _ _ nd hr h=>⟨SW.JR K,wq 0 rfl λp0=>wq 1 rfl λp1=>(dP (et (qt fb (xT p0 dQ) dj) (dU (eM (eL (fZ (eP (fZ (xT p0 dQ) (pc d19 hr T.g19 (dh p1 (fZ (xT p0 dQ) hV))))) (eP (fZ (xT p0 dQ) p1)))))) eU) (dU (eM (BZ rfl KU (BV (pc d17 hr T.g17 (fF p0))) (λfp s H C=>(eP (fZ (pv 0) (pv 1)))))))),SW.L9 h⟩
theorem Ht(F:gP K "outside_names" "outside_names" (gJ 8) f)(d20:T.D 2 a.f20 ["piece","lets"] uK):T.D 3 f ["piece"] qA:=
 ji (N:=["piece","found","waiting","pair","current","lets"]) F λ_ _ _ _ _ _ _ _ nd hr h=>⟨SW.JS K,wq 0 rfl λp0=>wq 1 rfl λp1=>wq 2 rfl λp2=>wq 3 rfl λp3=>wq 4 rfl λp4=>wq 5 rfl λp5=>wh 1 rfl nd λl1 g1=>wh 2 rfl nd λl2 g2=>wh 3 rfl nd λl3 g3=>wh 4 rfl nd λl4 g4=>wh 5 rfl nd λl5 g5=>(dP (sN 1 nd l1 iL) (dP (sN 2 nd l2 (eL (fF (eP (fZ p0 iL))))) (dP (gS PassesOwn.never (qt lQ (eB dq (by rfl) T.n5 fA (fF p2)) dQ) (dP (sN 3 nd l3 (jF aH ay az jH p2)) (dP (sN 4 nd l4 (xT p3 dQ)) (dP (sN 5 nd l5 (xT p3 dQ)) (dP (et (iF (qt fb (xT p4 dQ) dj) (gi (mP (ni (hZ hr) (xT p4 dQ) p5)))).pt (dU (jL (hZ hr) p1 (xT p4 dQ) hV rfl)) eU) (dU (eO (gB aH cI cJ nq p2 (fF (pc d20 hr T.g20 (fZ p4 p5))))))))))) (dU (eM (eB (tI rfl) (by rfl) T.n12 zc (fF p1))))))),SW.MA h⟩
theorem Hr(F:gP K "stamps_by_word" "stamps_by_word" (gJ 10) f):T.D 1 f ["book"] kI:=
 ji (N:=["book","stamps","stamp"]) F λ_ _ _ _ _ _ _ _ nd hr h=>⟨S9.JQ K,wq 0 rfl λp0=>wq 1 rfl λp1=>wq 2 rfl λp2=>wh 1 rfl nd λl1 g1=>wh 2 rfl nd λl2 g2=>(dP (sN 1 nd l1 iL) (dP (gE PassesOwn.never rfl (gm p0) g2 (dU (jL (hZ hr) p1 (xT p2 dQ) p2 rfl))) (dU (eM p1)))),S9.L8 h⟩
theorem Hw(F:gP K "check_use" "check_use" (gJ 11) f)(d17:T.D 1 a.f17 ["piece"] iw):T.D 2 f ["stamps","use"] rh:=
 ji (N:=["stamps","use","word","handed","places"]) F λ_ _ _ _ _ _ _ _ nd hr h=>⟨S9.JV K,wq 0 rfl λp0=>wq 1 rfl λp1=>wq 2 rfl λp2=>wq 3 rfl λp3=>wq 4 rfl λp4=>wh 2 rfl nd λl2 g2=>wh 3 rfl nd λl3 g3=>wh 4 rfl nd λl4 g4=>(dP (sN 2 nd l2 (xT p1 dQ)) (dP (et (mP (ni (hZ hr) p2 p0)) (dU uS) eU) (dP (sN 3 nd l3 (eB dq (by rfl) T.n5 fA (fF (pc d17 hr T.g17 (fF p1))))) (dP (sN 4 nd l4 (eB dq (by rfl) T.n5 fA (fF (xT (mv (hZ hr) p0 p2 (λ_ _=>rfl)) dQ)))) (dU (et (qt lP p3 p4) (dU uS) eU)))))),S9.ME h⟩
theorem Hz(F:gP K "check_piece" "check_piece" (gJ 12) f)(d18:T.D 2 a.f18 ["piece"] lc)(d23:T.D 2 a.f23 ["stamps","use"] rh):T.D 3 f ["stamps","piece"] qG:=
 ji (N:=["stamps","piece","current"]) F λ_ _ _ _ _ _ _ _ nd hr h=>⟨S9.JW K,wq 0 rfl λp0=>wq 1 rfl λp1=>wq 2 rfl λp2=>wh 2 rfl nd λl2 g2=>(dU (gE PassesOwn.never rfl (gm (pc d18 hr T.g18 (fF p1))) g2 (dU (et (qt fb (xT p2 dQ) dj) (dU (eO (pc d23 hr T.g23 (fZ p0 p2)))) eU)))),S9.MF h⟩
theorem IA(F:gP K "check_stamps" "check_stamps" (gJ 13) f)(d22:T.D 1 a.f22 ["book"] kI)(d24:T.D 3 a.f24 ["stamps","piece"] qG):T.D 4 f ["book","piece"] rn:=
 ji (N:=["book","piece","stamps","stamp"]) F λ_ _ _ _ _ _ _ _ nd hr h=>⟨S9.JX K,wq 0 rfl λp0=>wq 1 rfl λp1=>wq 2 rfl λp2=>wq 3 rfl λp3=>wh 2 rfl nd λl2 g2=>wh 3 rfl nd λl3 g3=>(dP (sN 2 nd l2 (pc d22 hr T.g22 (fF p0))) (dP (eO (pc d24 hr T.g24 (fZ p2 p1))) (dU (gE PassesOwn.never rfl (gm p0) g3 (dU (eO (pc d24 hr T.g24 (fZ p2 (xT p3 dQ))))))))),S9.MG h⟩
theorem J4(F:gP K "numbered_word" "numbered_word" (gJ 16) f):T.D 1 f ["number"] rm:=
 ji (N:=["number","word","rest"]) F λ_ _ _ _ _ _ _ _ nd hr h=>⟨S9.Lk K,let ⟨_,v0⟩:=T.u0;wq 0 rfl λp0=>wq 1 rfl λp1=>wq 2 rfl λp2=>wh 1 rfl nd λl1 g1=>wh 2 rfl nd λl2 g2=>(dP (sN 1 nd l1 (uT wD (lf (v:=.str "abcdefghijklmnopqrstuvwxyz") (by rfl) v0 ⟨_,rfl⟩) (ef ib p0 (eB jb (by rfl) T.n5 fA (fF (lf (v:=.str "abcdefghijklmnopqrstuvwxyz") (by rfl) v0 ⟨_,rfl⟩)))) (λ_ _=>rfl))) (dP (sN 2 nd l2 (ef lg p0 (eB jb (by rfl) T.n5 fA (fF (lf (v:=.str "abcdefghijklmnopqrstuvwxyz") (by rfl) v0 ⟨_,rfl⟩))))) (dP (gS PassesOwn.never (qt lQ p2 dQ) (dP (sN 1 nd l1 (ef ki (uT wD (lf (v:=.str "abcdefghijklmnopqrstuvwxyz") (by rfl) v0 ⟨_,rfl⟩) (ef ib (ef iM p2 dQ) (eB jb (by rfl) T.n5 fA (fF (lf (v:=.str "abcdefghijklmnopqrstuvwxyz") (by rfl) v0 ⟨_,rfl⟩)))) (λ_ _=>rfl)) p1)) (dU (sN 2 nd l2 (ef lg (ef iM p2 dQ) (eB jb (by rfl) T.n5 fA (fF (lf (v:=.str "abcdefghijklmnopqrstuvwxyz") (by rfl) v0 ⟨_,rfl⟩)))))))) (dU (eM p1))))),S9.NO h⟩
theorem Jp(F:gP K "__init__" "FreshWords.__init__" (fq (gJ 17) 0) f):T.D 1 f ["self","taken"] (xV a.o1):=
 ji (N:=["self","taken","word"]) F λ_ _ _ _ _ _ _ _ nd hr h=>⟨S9.LU K a.o1,wq 0 rfl λp0=>wq 1 rfl λp1=>wq 2 rfl λp2=>wh 2 rfl nd λl2 g2=>(dP (mQ p0 iL rfl) (dP (gE PassesOwn.never rfl (gm p1) g2 (dU (jL (hZ hr) (ia p0 rfl) p2 hV rfl))) (dU (mQ p0 dQ rfl)))),S9.NB rw h⟩
theorem Jr(F:gP K "fresh" "FreshWords.fresh" (fq (gJ 17) 1) f)(d26:T.D 1 a.f26 ["number"] rm):T.D 2 f ["self","word"] (pC a.o1):=
 ji (N:=["self","word","free"]) F λ_ _ _ _ _ _ _ _ nd hr h=>⟨S9.LW K a.o1,wq 0 rfl λp0=>wq 1 rfl λp1=>wq 2 rfl λp2=>wh 2 rfl nd λl2 g2=>(dP (sN 2 nd l2 p1) (dP (gS PassesOwn.never (mP (sP (hZ hr) p2 (ia p0 rfl))) (dP (sN 2 nd l2 (pc d26 hr T.g26 (fF (ia p0 rfl)))) (dU (nh p0 dQ wG)))) (dP (jL (hZ hr) (ia p0 rfl) p2 hV rfl) (dU (eM p2))))),S9.ND rw h⟩
theorem IC(F:gP K "all_outside_names" "all_outside_names" (gJ 19) f)(d21:T.D 3 a.f21 ["piece"] qA):T.D 4 f ["book","piece"] xW:=
 ji (N:=["book","piece","words","stamp"]) F λ_ _ _ _ _ _ _ _ nd hr h=>⟨S9.JY K,wq 0 rfl λp0=>wq 1 rfl λp1=>wq 2 rfl λp2=>wq 3 rfl λp3=>wh 2 rfl nd λl2 g2=>wh 3 rfl nd λl3 g3=>(dP (sN 2 nd l2 (pc d21 hr T.g21 (fF p1))) (dP (gE PassesOwn.never rfl (gm p0) g3 (dU (eO (gB aH cI cJ nq p2 (fF (pc d21 hr T.g21 (fF (xT p3 dQ)))))))) (dU (eM p2)))),S9.MI h⟩
def MW(s:Stmt):Scope:=match(iI s).getLast? with
 | some (.Return (some (.ListComp _ _ sc _)) _)=>sc
 | _=>fN s
omit T ro rw in
theorem MS{f:Addr}{cdv:Value}{A:Around}{outer:List Env}{s:Shared}{H:Hp}{E:XK}:jO ((oo wc P w K mg base ["spot"] "spots_within" (fN (gJ 20)) f cdv A outer s H E).nox) (MW (gJ 20)) [("spot",s.heap.objs.size+1)] ["place","part"] ["spot"] [0]:=
 ⟨rfl,by decide,rfl,by decide,λy c h=>h,λy h=>sq (L:=[((".0":Str),NameKind.local),(("place":Str),NameKind.local),(("part":Str),NameKind.local),(("spot":Str),NameKind.cell)]) (by simp) h,λk y hy=>match k,hy with|0,hy=>by cases hy;exact⟨0,rfl,rfl,rfl,.inl rfl⟩,rfl⟩
theorem Jx(F:gP K "spots_within" "spots_within" (gJ 20) f)(d17:T.D 1 a.f17 ["piece"] iw):T.D 2 f ["spot"] iu:=
 ji (N:=["spot"]) F λ_ _ _ _ _ _ _ _ nd hr h=>⟨S9.Lc K,wq 0 rfl λp0=>(dU (eM (Ho rfl MS (D7 (by rfl) T.n13 (pc d17 hr T.g17 (fF (xT p0 dQ)))) (λfp s H C=>jg rfl (fH (mq (i:=0) (by show(["place","part","spot"]:List Str).Nodup;decide) rfl (bF rfl) (.inr rfl)) (fH (mq (i:=1) (by show(["place","part","spot"]:List Str).Nodup;decide) rfl (bF rfl) (.inr rfl)) iy))) OE (λfp s H C=>(eP (dh (pv 1) (dh (xT (pv 2) dQ) (fZ (ef sR (xT (pv 2) dQ) (eP (fF (pv 0)))) (xT (pv 2) dQ))))))))),S9.NH h⟩
theorem J9(F:gP K "has_stamps_to_open" "has_stamps_to_open" (gJ 21) f)(d18:T.D 2 a.f18 ["piece"] lc)(d21:T.D 3 a.f21 ["piece"] qA):T.D 4 f ["spot"] xU:=
 ji (N:=["spot","piece","word"]) F λ_ _ _ _ _ _ _ _ nd hr h=>⟨S9.Lq K,wq 0 rfl λp0=>wq 1 rfl λp1=>wq 2 rfl λp2=>wh 1 rfl nd λl1 g1=>wh 2 rfl nd λl2 g2=>(dP (gE PassesOwn.never rfl (gm (pc d18 hr T.g18 (fF (xT p0 dQ)))) g1 (dU (et (qt fb (xT p1 dQ) dj) (dU (eM hV)) eU))) (dP (gE PassesOwn.never rfl (gm (pc d21 hr T.g21 (fF (xT p0 dQ)))) g2 (dU (et (iF (mP (sP (hZ hr) p2 (xT p0 dQ))) (gi (qt fb (xT (mv (hZ hr) (xT p0 dQ) p2 (λ_ _=>rfl)) dQ) dj))).pt (dU (eM hV)) eU))) (dU (eM hV)))),S9.NU h⟩
theorem J0(F:gP K "row_at" "row_at" (gJ 22) f):T.D 1 f ["spot","head","many"] oT:=
 ji (N:=["spot","head","many"]) F λ_ _ _ _ _ _ _ _ nd hr h=>⟨S9.Lg K,wq 0 rfl λp0=>wq 1 rfl λp1=>wq 2 rfl λp2=>(dU (eM (eP (dh dj (dh p1 (fZ p2 (eP (fZ (xT p0 dQ) (xT p0 dQ))))))))),S9.NK h⟩
theorem J3(F:gP K "__init__" "Opening.__init__" (fq (gJ 23) 0) f)(d22:T.D 1 a.f22 ["book"] kI)(d29:T.D 4 a.f29 ["book","piece"] xW)(d27:T.D 1 a.f27 ["self","taken"] (xV a.o1))(M1:Mk K a.o1 a.f27):T.D 5 f ["self","book","piece","fuel"] (Ax a.o0 a.o1):=
 ji (N:=["self","book","piece","fuel"]) F λ_ _ _ _ _ _ _ _ nd hr h=>⟨S9.Lj K a.o0 a.o1,wq 0 rfl λp0=>wq 1 rfl λp1=>wq 2 rfl λp2=>wq 3 rfl λp3=>(dP (mQ p0 (pc d22 hr T.g22 (fF p1)) rfl) (dP (mQ p0 (pk M1 d27 hr T.c1 (fF (pc d29 hr T.g29 (fZ p1 p2)))) rfl) (dP (mQ p0 p3 rfl) (dP (mQ p0 dQ rfl) (dU (mQ p0 (eL fX) rfl)))))),S9.NN ro h⟩
theorem Jt(F:gP K "take_name" "Opening.take_name" (fq (gJ 23) 5) f)(d32:T.D 1 a.f32 ["spot","head","many"] oT):T.D 2 f ["self","spot","waiting","rows"] Av:=
 ji (N:=["self","spot","waiting","rows","word","meaning"]) F λ_ _ _ _ _ _ _ _ nd hr h=>⟨S9.LY K a.o0 a.o1,wq 1 rfl λp1=>wq 2 rfl λp2=>wq 3 rfl λp3=>wq 4 rfl λp4=>wq 5 rfl λp5=>wh 4 rfl nd λl4 g4=>wh 5 rfl nd λl5 g5=>(dP (sN 4 nd l4 (xT (xT p1 dQ) dQ)) (dP (sN 5 nd l5 (mt (hZ hr) (xT p1 dQ) p4 (eP (fZ dj p4)) ⟨rfl,rfl,rfl,rfl⟩)) (dU (et (qt fb (xT p5 dQ) dj) (dU (eO (gB aH aQ aR eT p2 (fF (xT p5 dQ))))) (dU (et (qt fb (xT p5 dQ) dj) (dU (eO (gB aH aQ aR eT p3 (fF p5)))) (dU (eO (gB aH aQ aR eT p3 (fF (pc d32 hr T.g32 (dh p1 (fZ (eP (fZ dj (xT p5 dQ))) dQ))))))))))))),S9.NF h⟩
theorem Js(F:gP K "take_plain" "Opening.take_plain" (fq (gJ 23) 7) f)(d30:T.D 2 a.f30 ["spot"] iu)(d32:T.D 1 a.f32 ["spot","head","many"] oT):T.D 3 f ["self","spot","waiting","rows"] Au:=
 ji (N:=["self","spot","waiting","rows","piece","inner","part"]) F λ_ _ _ _ _ _ _ _ nd hr h=>⟨S9.LX K a.o0 a.o1,wq 1 rfl λp1=>wq 2 rfl λp2=>wq 3 rfl λp3=>wq 4 rfl λp4=>wq 5 rfl λp5=>wq 6 rfl λp6=>wh 4 rfl nd λl4 g4=>wh 5 rfl nd λl5 g5=>wh 6 rfl nd λl6 g6=>(dP (sN 4 nd l4 (xT p1 dQ)) (dP (sN 5 nd l5 (pc d30 hr T.g30 (fF p1))) (dP (eO (gB aH aQ aR eT p3 (fF (pc d32 hr T.g32 (dh p1 (fZ (fV Dq p4 gj (fU (ef iM (eB dq (by rfl) T.n5 fA (fF p4)) (eB dq (by rfl) T.n5 fA (fF p5))))) (eB dq (by rfl) T.n5 fA (fF p5)))))))) (dU (gE PassesOwn.never rfl (vo (by rfl) T.n10 p5) g6 (dU (eO (gB aH aQ aR eT p2 (fF p6))))))))),S9.NE h⟩
theorem Ju(F:gP K "take_let" "Opening.take_let" (fq (gJ 23) 6) f)(d28:T.D 2 a.f28 ["self","word"] (pC a.o1))(m28:lX K a.o1 "fresh" a.f28)(d30:T.D 2 a.f30 ["spot"] iu)(d32:T.D 1 a.f32 ["spot","head","many"] oT)(d19:T.D 1 a.f19 ["words","word","value"] jB):T.D 3 f ["self","spot","waiting","rows"] (Aw a.o0 a.o1):=
 ji (N:=["self","spot","waiting","rows","own","word","inner","other"]) F λ_ _ _ _ _ _ _ _ nd hr h=>⟨S9.LZ K a.o0 a.o1,wq 0 rfl λp0=>wq 1 rfl λp1=>wq 2 rfl λp2=>wq 3 rfl λp3=>wq 4 rfl λp4=>wq 5 rfl λp5=>wq 6 rfl λp6=>wq 7 rfl λp7=>wh 4 rfl nd λl4 g4=>wh 5 rfl nd λl5 g5=>wh 6 rfl nd λl6 g6=>wh 7 rfl nd λl7 g7=>(dP (sN 4 nd l4 (xT (xT p1 dQ) dQ)) (dP (sN 5 nd l5 (pm (ia p0 rfl) T.l1 m28 d28 hr (fF p4))) (dP (sN 6 nd l6 (pc d30 hr T.g30 (fF p1))) (dP (sN 7 nd l7 (xL p6 dQ)) (dP (eO (gB aH aQ aR eT p3 (fF (pc d32 hr T.g32 (dh p1 (fZ (eP (fZ dj p5)) dQ)))))) (dP (eO (gB aH aQ aR eT p2 (fF (eP (dh (xT p7 dQ) (dh (xT p7 dQ) (fZ (xT p7 dQ) (pc d19 hr T.g19 (dh (xT p1 dQ) (fZ p4 (eP (fZ dj p5)))))))))))) (dU (eO (gB aH aQ aR eT p2 (fF (xL p6 dQ))))))))))),S9.NG ro h⟩
theorem IB(F:gP K "body_of" "Opening.body_of" (fq (gJ 23) 3) f):T.D 1 f ["self","spot"] Ay:=Kf F λ_ _ _ _ h=>⟨h.1,h.2⟩
theorem Jv(F:gP K "take" "Opening.take" (fq (gJ 23) 2) f)(d37:T.D 1 a.f37 ["self","spot"] Ay)(m37:lX K a.o0 "body_of" a.f37)(d34:T.D 2 a.f34 ["self","spot","waiting","rows"] Av)(m34:lX K a.o0 "take_name" a.f34)(d36:T.D 3 a.f36 ["self","spot","waiting","rows"] (Aw a.o0 a.o1))(m36:lX K a.o0 "take_let" a.f36)(d35:T.D 3 a.f35 ["self","spot","waiting","rows"] Au)(m35:lX K a.o0 "take_plain" a.f35):T.D 4 f ["self","spot","waiting","rows"] (xR a.o0 a.o1):=
 ji (N:=["self","spot","waiting","rows","kind"]) F λ_ _ _ _ _ _ _ _ nd hr h=>⟨S9.La K a.o0 a.o1,wq 0 rfl λp0=>wq 1 rfl λp1=>wq 2 rfl λp2=>wq 3 rfl λp3=>wq 4 rfl λp4=>wh 4 rfl nd λl4 g4=>(dP (sN 4 nd l4 (xT (xT p1 dQ) dQ)) (dU (et (qt fb p4 dj) (dP (nh p0 dQ wG) (dU (eO (gB aH aQ aR eT p2 (fF (pm p0 T.l0 m37 d37 hr (fF p1))))))) (dU (et (qt fb p4 dj) (dU (eO (pm p0 T.l0 m34 d34 hr (dh p1 (fZ p2 p3))))) (dU (et (qt fb p4 dj) (dU (eO (pm p0 T.l0 m36 d36 hr (dh p1 (fZ p2 p3))))) (dU (eO (pm p0 T.l0 m35 d35 hr (dh p1 (fZ p2 p3)))))))))))),S9.L7 h⟩
theorem EJ(F:gP K "rows_of" "Opening.rows_of" (fq (gJ 23) 1) f)(d38:T.D 4 a.f38 ["self","spot","waiting","rows"] (xR a.o0 a.o1))(m38:lX K a.o0 "take" a.f38):T.D 5 f ["self","spot"] (pB a.o0 a.o1):=
 ji (N:=["self","spot","rows","waiting"]) F λ_ _ _ _ _ _ _ _ nd hr h=>⟨S9.GE K a.o0 a.o1,wq 0 rfl λp0=>wq 1 rfl λp1=>wq 2 rfl λp2=>wq 3 rfl λp3=>wh 2 rfl nd λl2 g2=>wh 3 rfl nd λl3 g3=>(dP (sN 2 nd l2 (eL fX)) (dP (sN 3 nd l3 (eL (fF p1))) (dP (gS PassesOwn.never (iF (qt lQ (eB dq (by rfl) T.n5 fA (fF p3)) dQ) (gi (qt Bh (ia p0 rfl) (ia p0 rfl)))).pt (dU (eO (pm p0 T.l0 m38 d38 hr (dh (jF aH ay az jH p3) (fZ p3 p2)))))) (dU (eM p2))))),S9.Jf ro h⟩
theorem J6(F:gP K "meaning_of" "Opening.meaning_of" (fq (gJ 23) 4) f)(d31:T.D 4 a.f31 ["spot"] xU)(d39:T.D 5 a.f39 ["self","spot"] (pB a.o0 a.o1))(m39:lX K a.o0 "rows_of" a.f39):T.D 6 f ["self","handed"] (Do a.o0 a.o1):=
 ji (N:=["self","handed"]) F λ_ _ _ _ _ _ _ _ nd hr h=>⟨S9.Lm K a.o0 a.o1,wq 0 rfl λp0=>wq 1 rfl λp1=>(dP (et (iW (pc d31 hr T.g31 (fF p1))) (dU (eM (eP (fZ dj p1)))) eU) (dP (eO (gB aH aQ aR eT (ia p0 rfl) (fF (pm p0 T.l0 m39 d39 hr (fF p1))))) (dU (eM (eP (fZ dj (ef iM (eB dq (by rfl) T.n5 fA (fF (ia p0 rfl))) dQ))))))),S9.NQ ro h⟩
theorem KG(F:gP K "body_of" "Opening.body_of" (fq (gJ 23) 3) f)(d30:T.D 2 a.f30 ["spot"] iu)(d40:T.D 6 a.f40 ["self","handed"] (Do a.o0 a.o1))(m40:lX K a.o0 "meaning_of" a.f40):T.D 7 f ["self","spot"] (Dp a.o0 a.o1):=
 ji (N:=["self","spot","stamp","names","place","handed"]) F λ_ _ _ _ _ _ _ _ nd hr h=>⟨S9.Lz K a.o0 a.o1,wq 0 rfl λp0=>wq 1 rfl λp1=>wq 2 rfl λp2=>wq 3 rfl λp3=>wq 4 rfl λp4=>wq 5 rfl λp5=>wh 2 rfl nd λl2 g2=>wh 3 rfl nd λl3 g3=>wh 4 rfl nd λl4 g4=>wh 5 rfl nd λl5 g5=>(dP (sN 2 nd l2 (mv (hZ hr) (ia p0 rfl) (xT (xT p1 dQ) dQ) (λ_ _=>rfl))) (dP (sN 3 nd l3 iL) (dP (gE PassesOwn.never rfl (D6 (by rfl) T.n14 (xT p2 dQ) (pc d30 hr T.g30 (fF p1))) (jg rfl (fH g4 (fH g5 iy))) (dU (jL (hZ hr) p3 p4 (pm p0 T.l0 m40 d40 hr (fF p5)) rfl))) (dU (eM (eP (dh (xT p2 dQ) (dh (xT p2 dQ) (fZ (eP fX) p3))))))))),S9.Na ro h⟩
theorem Jw(F:gP K "take" "Opening.take" (fq (gJ 23) 2) f)(d37:T.D 7 a.f37 ["self","spot"] (Dp a.o0 a.o1))(m37:lX K a.o0 "body_of" a.f37)(d34:T.D 2 a.f34 ["self","spot","waiting","rows"] Av)(m34:lX K a.o0 "take_name" a.f34)(d36:T.D 3 a.f36 ["self","spot","waiting","rows"] (Aw a.o0 a.o1))(m36:lX K a.o0 "take_let" a.f36)(d35:T.D 3 a.f35 ["self","spot","waiting","rows"] Au)(m35:lX K a.o0 "take_plain" a.f35):T.D 8 f ["self","spot","waiting","rows"] (xQ a.o0 a.o1):=
 ji (N:=["self","spot","waiting","rows","kind"]) F λ_ _ _ _ _ _ _ _ nd hr h=>⟨S9.Lb K a.o0 a.o1,wq 0 rfl λp0=>wq 1 rfl λp1=>wq 2 rfl λp2=>wq 3 rfl λp3=>wq 4 rfl λp4=>wh 4 rfl nd λl4 g4=>(dP (sN 4 nd l4 (xT (xT p1 dQ) dQ)) (dU (et (qt fb p4 dj) (dP (nh p0 dQ wG) (dU (eO (gB aH aQ aR eT p2 (fF (pm p0 T.l0 m37 d37 hr (fF p1))))))) (dU (et (qt fb p4 dj) (dU (eO (pm p0 T.l0 m34 d34 hr (dh p1 (fZ p2 p3))))) (dU (et (qt fb p4 dj) (dU (eO (pm p0 T.l0 m36 d36 hr (dh p1 (fZ p2 p3))))) (dU (eO (pm p0 T.l0 m35 d35 hr (dh p1 (fZ p2 p3)))))))))))),S9.L6 ro h⟩
theorem EI(F:gP K "rows_of" "Opening.rows_of" (fq (gJ 23) 1) f)(d38:T.D 8 a.f38 ["self","spot","waiting","rows"] (xQ a.o0 a.o1))(m38:lX K a.o0 "take" a.f38):T.D 9 f ["self","spot"] (mZ a.o0 a.o1):=
 ji (N:=["self","spot","rows","waiting"]) F λ_ _ _ _ _ _ _ _ nd hr h=>⟨S9.GD K a.o0 a.o1,wq 0 rfl λp0=>wq 1 rfl λp1=>wq 2 rfl λp2=>wq 3 rfl λp3=>wh 2 rfl nd λl2 g2=>wh 3 rfl nd λl3 g3=>(dP (sN 2 nd l2 (eL fX)) (dP (sN 3 nd l3 (eL (fF p1))) (dP (gS PassesOwn.never (iF (qt lQ (eB dq (by rfl) T.n5 fA (fF p3)) dQ) (gi (qt Bh (ia p0 rfl) (ia p0 rfl)))).pt (dU (eO (pm p0 T.l0 m38 d38 hr (dh (jF aH ay az jH p3) (fZ p3 p2)))))) (dU (eM p2))))),S9.Je ro h⟩
theorem J1(F:gP K "piece_of" "piece_of" (gJ 24) f):T.D 1 f ["rows","written"] Dn:=
 ji (N:=["rows","written","made","row","inner"]) F λ_ _ _ _ _ _ _ _ nd hr h=>⟨S9.Lh K,wq 0 rfl λp0=>wq 1 rfl λp1=>wq 2 rfl λp2=>wq 3 rfl λp3=>wq 4 rfl λp4=>wh 2 rfl nd λl2 g2=>wh 3 rfl nd λl3 g3=>wh 4 rfl nd λl4 g4=>(dP (sN 2 nd l2 (eL fX)) (dP (gE PassesOwn.never rfl (vo (by rfl) T.n10 p0) g3 (dU (et (qt fb (xT p3 dQ) dj) (dU (eO (gB aH aQ aR eT p2 (fF (xT (xL p1 (xT p3 dQ)) dQ))))) (dP (sN 4 nd l4 (eL fX)) (dP (gS PassesOwn.never (qt qy (eB dq (by rfl) T.n5 fA (fF p4)) (xT p3 dQ)) (dU (eO (gB aH aQ aR eT p4 (fF (jF aH ay az jH p2)))))) (dU (eO (gB aH aQ aR eT p2 (fF (ef sR (xT p3 dQ) (gx kF (by rfl) T.n7 jk (fF p4)))))))))))) (dU (eM (jF aH ay az jH p2))))),S9.NL h⟩
theorem Jy(F:gP K "sources_of" "sources_of" (gJ 25) f):T.D 1 f ["rows","written"] S9.Jb:=
 ji (N:=["rows","written","sources","row"]) F λ_ _ _ _ _ _ _ _ nd hr h=>⟨S9.Ld K,wq 0 rfl λp0=>wq 1 rfl λp1=>wq 2 rfl λp2=>wq 3 rfl λp3=>wh 2 rfl nd λl2 g2=>wh 3 rfl nd λl3 g3=>(dP (sN 2 nd l2 (eL fX)) (dP (gE PassesOwn.never rfl (gm p0) g3 (dU (et (qt fb (xT p3 dQ) dj) (dU (eO (gB aH cI cJ nq p2 (fF (xT (xL p1 (xT p3 dQ)) dQ))))) (dU (eO (gB aH aQ aR eT p2 (fF (xT p3 dQ)))))))) (dU (eM p2)))),S9.NI h⟩
theorem Jo(F:gP K "write_out" "write_out" (gJ 26) f)(d42:T.D 1 a.f42 ["rows","written"] S9.Jb)(d41:T.D 1 a.f41 ["rows","written"] Dn):T.D 2 f ["rows","written"] vS:=
 ji (N:=["rows","written"]) F λ_ _ _ _ _ _ _ _ nd hr h=>⟨S9.LT K,wq 0 rfl λp0=>wq 1 rfl λp1=>(dU (eM (eP (fZ (pc d41 hr T.g41 (fZ p0 p1)) (pc d42 hr T.g42 (fZ p0 p1)))))),S9.NA h⟩
theorem Hv(F:gP K "expanded" "expanded" (gJ 27) f)(d25:T.D 4 a.f25 ["book","piece"] rn)(d33:T.D 5 a.f33 ["self","book","piece","fuel"] (Ax a.o0 a.o1))(M0:Mk K a.o0 a.f33)(d39:T.D 9 a.f39 ["self","spot"] (mZ a.o0 a.o1))(m39:lX K a.o0 "rows_of" a.f39)(d43:T.D 2 a.f43 ["rows","written"] vS):T.D 10 f ["book","piece","fuel"] (qD a.o0 a.o1):=
 ji (N:=["book","piece","fuel","opening","rows","written","earlier","left"]) F λ_ _ _ _ _ _ _ _ nd hr h=>⟨S9.JU K a.o0 a.o1,wq 0 rfl λp0=>wq 1 rfl λp1=>wq 2 rfl λp2=>wq 3 rfl λp3=>wq 4 rfl λp4=>wq 5 rfl λp5=>wq 6 rfl λp6=>wq 7 rfl λp7=>wh 3 rfl nd λl3 g3=>wh 4 rfl nd λl4 g4=>wh 5 rfl nd λl5 g5=>wh 6 rfl nd λl6 g6=>wh 7 rfl nd λl7 g7=>(dP (eO (pc d25 hr T.g25 (fZ p0 p1))) (dP (sN 3 nd l3 (pk M0 d33 hr T.c0 (dh p0 (fZ p1 p2)))) (dP (sN 4 nd l4 (pm p3 T.l0 m39 d39 hr (fF (eP (dh p1 (dh dj (fZ (eP fX) iL))))))) (dP (et (qt lQ (ia p3 rfl) p2) (dU (eM (eP (fF dj)))) eU) (dP (sN 5 nd l5 (eL fX)) (dP (gE PassesOwn.never rfl (gm (ia p3 rfl)) g6 (dU (eO (gB aH aQ aR eT p5 (fF (pc d43 hr T.g43 (fZ p6 p5))))))) (dP (sN 7 nd l7 (pc d43 hr T.g43 (fZ p4 p5))) (dU (eM (eP (dh dj (dh (xT p7 dQ) (fZ (xT p7 dQ) (ia p3 rfl)))))))))))))),S9.MC ro h⟩
theorem EN{fd:FuncData}(F:Fa K "law" "law" (gJ 46) f fd)(d4:T.D 1 a.f4 ["_law_script","_law_most","_law_bound"] (py K))(d8:T.D 3 a.f8 ["_law_cells","_law_wild"] (rq K))(d6:T.D 3 a.f6 ["_law_cells"] (qB K))(d16:T.D 3 a.f16 ["_law_book","_law_piece","_law_fuel"] mO)(d11:T.D 2 a.f11 ["_law_piece","_law_places","_law_tail"] uJ)(d10:T.D 1 a.f10 ["_law_book"] md)(d44:T.D 10 a.f44 ["book","piece","fuel"] (qD a.o0 a.o1))(d13:T.D 2 a.f13 ["_law_found","_law_tree"] qC)(d9:T.D 3 a.f9 ["_law_found"] qF):lY P w K mg base wc 11 f fd ["_law_script"] (S1.M8 K):=
 OC (N:=["_law_script","_law_top","_law_book","_law_piece","_law_renamed","_law_within","_law_word","_law_one","_law_tree","_law_found","_law_first","_law_last"]) F λ_ _ _ _ _ _ _ _ nd hr h=>⟨S8.GZ K a.o0 a.o1,wq 0 rfl λp0=>wq 1 rfl λp1=>wq 2 rfl λp2=>wq 3 rfl λp3=>wq 4 rfl λp4=>wq 5 rfl λp5=>wq 6 rfl λp6=>wq 7 rfl λp7=>wq 8 rfl λp8=>wq 9 rfl λp9=>wq 10 rfl λp10=>wq 11 rfl λp11=>wh 1 rfl nd λl1 g1=>wh 2 rfl nd λl2 g2=>wh 3 rfl nd λl3 g3=>wh 4 rfl nd λl4 g4=>wh 5 rfl nd λl5 g5=>wh 6 rfl nd λl6 g6=>wh 7 rfl nd λl7 g7=>wh 8 rfl nd λl8 g8=>wh 9 rfl nd λl9 g9=>wh 10 rfl nd λl10 g10=>wh 11 rfl nd λl11 g11=>(dP (sN 1 nd l1 (pc d4 hr T.g4 (dh p0 (fZ dQ dQ)))) (dP (sN 2 nd l2 (pc d8 hr T.g8 (fZ (fV gW p0 (fU dQ) (fU dQ)) hV))) (dP (sN 3 nd l3 (pc d6 hr T.g6 (fF (fV gW p0 (fU dQ) (fU (ef lR dQ (pc d4 hr T.g4 (dh p0 (fZ dQ dQ))))))))) (dP (et (qt lQ (xT (pc d16 hr T.g16 (dh p2 (fZ p3 p1))) dQ) p1) (dU (sN 3 nd l3 (pc d6 hr T.g6 (fF (fV gW p0 (fU dQ) (fU dQ)))))) eU) (dP (et (qt lQ (xT (pc d16 hr T.g16 (dh p2 (fZ p3 p1))) dQ) p1) (dU (eM hV)) eU) (dP (sN 4 nd l4 (pc d11 hr T.g11 (dh p3 (fZ (eL fX) dj)))) (dP (sN 5 nd l5 (pc d11 hr T.g11 (dh p3 (fZ (eL (dh dj (dh dj (fZ dj dj)))) dj)))) (dP (gE PassesOwn.never rfl (gm (eL (dh dj (dh dj (fZ dj dj))))) g6 (dU (sN 5 nd l5 (eP (dh dj (dh p6 (fZ (eP (fZ dj dQ)) p5))))))) (dP (gE PassesOwn.never rfl (gm (eL (dh p3 (fZ p4 p5)))) g7 (dP (sN 8 nd l8 (xT (pc d16 hr T.g16 (dh p2 (fZ p7 p1))) dQ)) (dP (sN 9 nd l9 (pc d44 hr T.g44 (dh (pc d10 hr T.g10 (fF p2)) (fZ p7 p1)))) (dU (et (kN (ix (iW (pc d9 hr T.g9 (fF p9)))) (kf (ix (iW (pc d13 hr T.g13 (fZ (xT p9 dQ) p8)))))).pt (dU (eM hV)) eU))))) (dP (sN 10 nd l10 (xT (pc d16 hr T.g16 (dh p2 (fZ p3 p1))) dQ)) (dP (sN 11 nd l11 (pc d44 hr T.g44 (dh (pc d10 hr T.g10 (fF p2)) (fZ p4 p1)))) (dU (eM (Bb (pc d9 hr T.g9 (fF p11)) (BY (pc d13 hr T.g13 (fZ (xT p11 dQ) p10))))))))))))))))),S8.K9 h⟩
end
theorem Mn{l:PySem.W.OpenLaw}{w:World}{K:aA}{h:Heap}{mg:Str→Option Value}{fa:Addr}(X:K.In h)(G:h.Ns mainGlobals mg)(hfa:mg "law"=some (.ref fa))
  {f0 f1 f2 f3 f4 f5 f6 f7 f8 f9 f10 f11 f12 f13 f14 f15 f16 f17 f18 f19 f20 f21 f22 f23 f24 f25 f26 f27 f28 f29 f30 f31 f32 f33 f34 f35 f36 f37 f38 f39 f40 f41 f42 f43 f44 f45 C0 C1:Addr} {tk0:Tok}
  (aC0:PySem.W.nsIn K mainGlobals "Opening"=some (some (.ref C0)))
  (aC1:PySem.W.nsIn K mainGlobals "FreshWords"=some (some (.ref C1)))
  (a0:PySem.W.nsIn K mainGlobals "_law_any"=some (some (.ref f0)))
  (F0:gP K "_law_any" "_law_any" (gJ 43) f0)
  (a1:PySem.W.nsIn K mainGlobals "_law_any_word"=some (some (.ref f1)))
  (F1:gP K "_law_any_word" "_law_any_word" (gJ 42) f1)
  (a2:PySem.W.nsIn K mainGlobals "_law_whole"=some (some (.ref f2)))
  (F2:gP K "_law_whole" "_law_whole" (gJ 29) f2)
  (a3:PySem.W.nsIn K mainGlobals "_law_inside"=some (some (.ref f3)))
  (F3:gP K "_law_inside" "_law_inside" (gJ 31) f3)
  (a4:PySem.W.nsIn K mainGlobals "_law_room"=some (some (.ref f4)))
  (F4:gP K "_law_room" "_law_room" (gJ 44) f4)
  (a5:PySem.W.nsIn K mainGlobals "_law_drawn_piece"=some (some (.ref f5)))
  (F5:gP K "_law_drawn_piece" "_law_drawn_piece" (gJ 30) f5)
  (a6:PySem.W.nsIn K mainGlobals "_law_drawn_main"=some (some (.ref f6)))
  (F6:gP K "_law_drawn_main" "_law_drawn_main" (gJ 33) f6)
  (a7:PySem.W.nsIn K mainGlobals "_law_is_piece"=some (some (.ref f7)))
  (F7:gP K "_law_is_piece" "_law_is_piece" (gJ 38) f7)
  (a8:PySem.W.nsIn K mainGlobals "_law_drawn_book"=some (some (.ref f8)))
  (F8:gP K "_law_drawn_book" "_law_drawn_book" (gJ 32) f8)
  (a9:PySem.W.nsIn K mainGlobals "_law_is_done"=some (some (.ref f9)))
  (F9:gP K "_law_is_done" "_law_is_done" (gJ 41) f9)
  (a10:PySem.W.nsIn K mainGlobals "_law_book_copied"=some (some (.ref f10)))
  (F10:gP K "_law_book_copied" "_law_book_copied" (gJ 45) f10)
  (a11:PySem.W.nsIn K mainGlobals "_law_reworded"=some (some (.ref f11)))
  (F11:gP K "_law_reworded" "_law_reworded" (gJ 40) f11)
  (a12:PySem.W.nsIn K mainGlobals "_law_noted"=some (some (.ref f12)))
  (F12:gP K "_law_noted" "_law_noted" (gJ 34) f12)
  (a13:PySem.W.nsIn K mainGlobals "_law_goes_with"=some (some (.ref f13)))
  (F13:gP K "_law_goes_with" "_law_goes_with" (gJ 39) f13)
  (a14:PySem.W.nsIn K mainGlobals "_law_first_stamp"=some (some (.ref f14)))
  (F14:gP K "_law_first_stamp" "_law_first_stamp" (gJ 35) f14)
  (a15:PySem.W.nsIn K mainGlobals "_law_placed"=some (some (.ref f15)))
  (F15:gP K "_law_placed" "_law_placed" (gJ 36) f15)
  (a16:PySem.W.nsIn K mainGlobals "_law_laid"=some (some (.ref f16)))
  (F16:gP K "_law_laid" "_law_laid" (gJ 37) f16)
  (a17:PySem.W.nsIn K mainGlobals "parts"=some (some (.ref f17)))
  (F17:gP K "parts" "parts" (gJ 4) f17)
  (a18:PySem.W.nsIn K mainGlobals "every_piece"=some (some (.ref f18)))
  (F18:gP K "every_piece" "every_piece" (gJ 5) f18)
  (a19:PySem.W.nsIn K mainGlobals "with_word"=some (some (.ref f19)))
  (F19:gP K "with_word" "with_word" (gJ 6) f19)
  (a20:PySem.W.nsIn K mainGlobals "pieces_with_lets"=some (some (.ref f20)))
  (F20:gP K "pieces_with_lets" "pieces_with_lets" (gJ 7) f20)
  (a21:PySem.W.nsIn K mainGlobals "outside_names"=some (some (.ref f21)))
  (F21:gP K "outside_names" "outside_names" (gJ 8) f21)
  (a22:PySem.W.nsIn K mainGlobals "stamps_by_word"=some (some (.ref f22)))
  (F22:gP K "stamps_by_word" "stamps_by_word" (gJ 10) f22)
  (a23:PySem.W.nsIn K mainGlobals "check_use"=some (some (.ref f23)))
  (F23:gP K "check_use" "check_use" (gJ 11) f23)
  (a24:PySem.W.nsIn K mainGlobals "check_piece"=some (some (.ref f24)))
  (F24:gP K "check_piece" "check_piece" (gJ 12) f24)
  (a25:PySem.W.nsIn K mainGlobals "check_stamps"=some (some (.ref f25)))
  (F25:gP K "check_stamps" "check_stamps" (gJ 13) f25)
  (a26:PySem.W.nsIn K mainGlobals "numbered_word"=some (some (.ref f26)))
  (F26:gP K "numbered_word" "numbered_word" (gJ 16) f26)
  (a27:PySem.W.findIn K (.ref C1) "__init__"=some (some (.ref f27)))
  (i27:PySem.W.isFn K (.ref f27)=true)
  (F27:gP K "__init__" "FreshWords.__init__" (fq (gJ 17) 0) f27)
  (a28:PySem.W.findIn K (.ref C1) "fresh"=some (some (.ref f28)))
  (i28:PySem.W.isFn K (.ref f28)=true)
  (F28:gP K "fresh" "FreshWords.fresh" (fq (gJ 17) 1) f28)
  (a29:PySem.W.nsIn K mainGlobals "all_outside_names"=some (some (.ref f29)))
  (F29:gP K "all_outside_names" "all_outside_names" (gJ 19) f29)
  (a30:PySem.W.nsIn K mainGlobals "spots_within"=some (some (.ref f30)))
  (F30:gP K "spots_within" "spots_within" (gJ 20) f30)
  (a31:PySem.W.nsIn K mainGlobals "has_stamps_to_open"=some (some (.ref f31)))
  (F31:gP K "has_stamps_to_open" "has_stamps_to_open" (gJ 21) f31)
  (a32:PySem.W.nsIn K mainGlobals "row_at"=some (some (.ref f32)))
  (F32:gP K "row_at" "row_at" (gJ 22) f32)
  (a33:PySem.W.findIn K (.ref C0) "__init__"=some (some (.ref f33)))
  (i33:PySem.W.isFn K (.ref f33)=true)
  (F33:gP K "__init__" "Opening.__init__" (fq (gJ 23) 0) f33)
  (a34:PySem.W.findIn K (.ref C0) "take_name"=some (some (.ref f34)))
  (i34:PySem.W.isFn K (.ref f34)=true)
  (F34:gP K "take_name" "Opening.take_name" (fq (gJ 23) 5) f34)
  (a35:PySem.W.findIn K (.ref C0) "take_plain"=some (some (.ref f35)))
  (i35:PySem.W.isFn K (.ref f35)=true)
  (F35:gP K "take_plain" "Opening.take_plain" (fq (gJ 23) 7) f35)
  (a36:PySem.W.findIn K (.ref C0) "take_let"=some (some (.ref f36)))
  (i36:PySem.W.isFn K (.ref f36)=true)
  (F36:gP K "take_let" "Opening.take_let" (fq (gJ 23) 6) f36)
  (a37:PySem.W.findIn K (.ref C0) "body_of"=some (some (.ref f37)))
  (i37:PySem.W.isFn K (.ref f37)=true)
  (F37:gP K "body_of" "Opening.body_of" (fq (gJ 23) 3) f37)
  (a38:PySem.W.findIn K (.ref C0) "take"=some (some (.ref f38)))
  (i38:PySem.W.isFn K (.ref f38)=true)
  (F38:gP K "take" "Opening.take" (fq (gJ 23) 2) f38)
  (a39:PySem.W.findIn K (.ref C0) "rows_of"=some (some (.ref f39)))
  (i39:PySem.W.isFn K (.ref f39)=true)
  (F39:gP K "rows_of" "Opening.rows_of" (fq (gJ 23) 1) f39)
  (a40:PySem.W.findIn K (.ref C0) "meaning_of"=some (some (.ref f40)))
  (i40:PySem.W.isFn K (.ref f40)=true)
  (F40:gP K "meaning_of" "Opening.meaning_of" (fq (gJ 23) 4) f40)
  (a41:PySem.W.nsIn K mainGlobals "piece_of"=some (some (.ref f41)))
  (F41:gP K "piece_of" "piece_of" (gJ 24) f41)
  (a42:PySem.W.nsIn K mainGlobals "sources_of"=some (some (.ref f42)))
  (F42:gP K "sources_of" "sources_of" (gJ 25) f42)
  (a43:PySem.W.nsIn K mainGlobals "write_out"=some (some (.ref f43)))
  (F43:gP K "write_out" "write_out" (gJ 26) f43)
  (a44:PySem.W.nsIn K mainGlobals "expanded"=some (some (.ref f44)))
  (F44:gP K "expanded" "expanded" (gJ 27) f44)
  (a45:PySem.W.nsIn K mainGlobals "law"=some (some (.ref f45)))
  (F45:gP K "law" "law" (gJ 46) f45)
  (z0:PySem.W.nsIn K mainGlobals "abs"=some none)
  (z1:PySem.W.nsIn K mainGlobals "bool"=some none)
  (z2:PySem.W.nsIn K mainGlobals "isinstance"=some none)
  (z3:PySem.W.nsIn K mainGlobals "int"=some none)
  (z4:PySem.W.nsIn K mainGlobals "list"=some none)
  (z5:PySem.W.nsIn K mainGlobals "len"=some none)
  (z6:PySem.W.nsIn K mainGlobals "min"=some none)
  (z7:PySem.W.nsIn K mainGlobals "tuple"=some none)
  (z8:PySem.W.nsIn K mainGlobals "str"=some none)
  (z9:PySem.W.nsIn K mainGlobals "range"=some none)
  (z10:PySem.W.nsIn K mainGlobals "reversed"=some none)
  (z11:PySem.W.nsIn K mainGlobals "dict"=some none)
  (z12:PySem.W.nsIn K mainGlobals "sorted"=some none)
  (z13:PySem.W.nsIn K mainGlobals "enumerate"=some none)
  (z14:PySem.W.nsIn K mainGlobals "zip"=some none)
  (u0:PySem.W.nsIn K mainGlobals "LETTERS"=some (some (.str "abcdefghijklmnopqrstuvwxyz" tk0)))
  (pg0:PySem.W.plainGet K C0 Str.empty=true)
  (hd0:PySem.W.hasDictIn K C0=true)
  (po0:PySem.W.plainOver K C0=true)
  (sa0:PySem.W.findIn K (.ref C0) "__setattr__"=some (some (.builtin "object.__setattr__")))
  (mk0:PySem.W.makesIn K C0=true)
  (kc0:PySem.W.keepIn K (.ref C0)=true)
  (n0_stamps:PySem.W.findIn K (.ref C0) "stamps"=some none)
  (n0_lets:PySem.W.findIn K (.ref C0) "lets"=some none)
  (n0_fuel:PySem.W.findIn K (.ref C0) "fuel"=some none)
  (n0_many:PySem.W.findIn K (.ref C0) "many"=some none)
  (n0_ready:PySem.W.findIn K (.ref C0) "ready"=some none)
  (pg1:PySem.W.plainGet K C1 Str.empty=true)
  (hd1:PySem.W.hasDictIn K C1=true)
  (po1:PySem.W.plainOver K C1=true)
  (sa1:PySem.W.findIn K (.ref C1) "__setattr__"=some (some (.builtin "object.__setattr__")))
  (mk1:PySem.W.makesIn K C1=true)
  (kc1:PySem.W.keepIn K (.ref C1)=true)
  (n1_taken:PySem.W.findIn K (.ref C1) "taken"=some none)
  (n1_tried:PySem.W.findIn K (.ref C1) "tried"=some none):
  ∃fd:FuncData,(∀(s:Shared)(v:Value),BindsTo s fd ⟨[v],[]⟩ [("_law_script",v)])∧∀base:Heap,K.In base→base.Ns mainGlobals mg→lY l.prog w K mg base wc 11 fa fd ["_law_script"] (S1.M8 K):=by
 have e:=hfa.symm.trans (aJ X G a45);cases e;have ro:RO K C0:=⟨⟨pg0,hd0,po0,sa0⟩,n0_stamps,n0_lets,n0_fuel,n0_many,n0_ready⟩;have rw:RW K C1:=⟨⟨pg1,hd1,po1,sa1⟩,n1_taken,n1_tried⟩;have Y:∀{x q:Str}{st:Stmt}{f:Addr},gP K x q st f→PySem.W.keepIn K (.ref f)=true:=λ⟨_,z⟩=>z.kp;obtain⟨fd,Fl⟩:=F45;refine⟨fd,λs v=>?_,λbase _ _=>?_⟩
 ·obtain⟨oc,od,kV,doc,pm,an,cdv,ct,osl,rfl,lk,hcd⟩:=Fl.ex;exact .of_eq rfl
 have T:LG l.prog w K mg base ⟨f0,f1,f2,f3,f4,f5,f6,f7,f8,f9,f10,f11,f12,f13,f14,f15,f16,f17,f18,f19,f20,f21,f22,f23,f24,f25,f26,f27,f28,f29,f30,f31,f32,f33,f34,f35,f36,f37,f38,f39,f40,f41,f42,f43,f44,C0,C1⟩:=⟨au X G z0,au X G z1,au X G z2,au X G z3,au X G z4,au X G z5,au X G z6,au X G z7,au X G z8,au X G z9,au X G z10,au X G z11,au X G z12,au X G z13,au X G z14,aJ X G a0,aJ X G a1,aJ X G a2,aJ X G a3,aJ X G a4,aJ X G a5,aJ X G a6,aJ X G a7,aJ X G a8,aJ X G a9,aJ X G a10,aJ X G a11,aJ X G a12,aJ X G a13,aJ X G a14,aJ X G a15,aJ X G a16,aJ X G a17,aJ X G a18,aJ X G a19,aJ X G a20,aJ X G a21,aJ X G a22,aJ X G a23,aJ X G a24,aJ X G a25,aJ X G a26,aJ X G a29,aJ X G a30,aJ X G a31,aJ X G a32,aJ X G a41,aJ X G a42,aJ X G a43,aJ X G a44,⟨_,aJ X G u0⟩,aJ X G aC0,⟨pg0,hd0,po0,sa0⟩,aJ X G aC1,⟨pg1,hd1,po1,sa1⟩⟩;have g0:=ID T ro rw F0;have g1:=KI T ro rw F1;have g2:=Jq T ro rw F2;have g3:=Hu T ro rw F3;have g4:=EK T ro rw F4;have g5:=KD T ro rw F5 g1 g0;have g6:=EM T ro rw F6 (g5.imp (λ_ _ _ _ z=>⟨_,_,z.two⟩));have g7:=J8 T ro rw F7 g2 g3;have g8:=KF T ro rw F8 g5;have g9:=KE T ro rw F9 g2 g7;have g10:=KH T ro rw F10;have g11:=Jz T ro rw F11 g3;have g12:=J5 T ro rw F12 g3;have g13:=KA T ro rw F13 g3;have g14:=KB T ro rw F14;have g15:=J2 T ro rw F15;have g16:=J7 T ro rw F16 g12 g14 g15;have g17:=Bi T ro rw F17;have g18:=KC T ro rw F18 g17;have g19:=Jn T ro rw F19;have g20:=Hs T ro rw F20 g19 (g17.imp (λ_ _ _ _ z=>S9.Jj z));have g21:=Ht T ro rw F21 g20;have g22:=Hr T ro rw F22;have g23:=Hw T ro rw F23 g17;have g24:=Hz T ro rw F24 g18 g23;have g25:=IA T ro rw F25 g22 g24;have g26:=J4 T ro rw F26;have g27:=Jp T ro rw F27;have g28:=Jr T ro rw F28 g26;have g29:=IC T ro rw F29 g21;have g30:=Jx T ro rw F30 g17;have g31:=J9 T ro rw F31 g18 g21;have g32:=J0 T ro rw F32;have g33:=J3 T ro rw F33 g22 g29 g27 ⟨mk1,a27,i27,kc1⟩;have g34:=Jt T ro rw F34 g32;have g35:=Js T ro rw F35 g30 g32;have g36:=Ju T ro rw F36 g28 ⟨a28,i28,Y F28⟩ g30 g32 g19;have g37:=IB T ro rw F37;have g38:=Jv T ro rw F38 g37 ⟨a37,i37,Y F37⟩ g34 ⟨a34,i34,Y F34⟩ g36 ⟨a36,i36,Y F36⟩ g35 ⟨a35,i35,Y F35⟩;have g39:=EJ T ro rw F39 g38 ⟨a38,i38,Y F38⟩;have g40:=J6 T ro rw F40 g31 g39 ⟨a39,i39,Y F39⟩;have g41:=KG T ro rw F37 g30 g40 ⟨a40,i40,Y F40⟩;have g42:=Jw T ro rw F38 g41 ⟨a37,i37,Y F37⟩ g34 ⟨a34,i34,Y F34⟩ g36 ⟨a36,i36,Y F36⟩ g35 ⟨a35,i35,Y F35⟩;have g43:=EI T ro rw F39 g42 ⟨a38,i38,Y F38⟩;have g44:=J1 T ro rw F41;have g45:=Jy T ro rw F42;have g46:=Jo T ro rw F43 g45 g44;have g47:=Hv T ro rw F44 g25 g33 ⟨mk0,a33,i33,kc0⟩ g43 ⟨a39,i39,Y F39⟩ g46;exact EN T ro rw Fl g4 g8 g6 g16 g11 g10 g47 g13 g9
theorem N5{l:PySem.W.OpenLaw}{q:Program}{loose:List Str}{XP:(Str→Option Value)→Heap→Prop}{YP:World→Heap→Prop}{d:DefRec}{K:Params→aA}(hn:l.most=some 63)(hdf:d.params.defaults=[])
  (hY:∀(w:World)(h:Heap),YP w h→(K w.params).In h)
  (F:∀(w:World)(mg:Str→Option Value)(fa:Addr)(h:Heap),(K w.params).In h→h.Ns mainGlobals mg→mg d.name=some (.ref fa)→
   ∃fd:FuncData,(∀(s:Shared)(u:Value),BindsTo s fd ⟨[u],[]⟩ [("_law_script",u)])∧∀base:Heap,(K w.params).In base→base.Ns mainGlobals mg→lY l.prog w (K w.params) mg base wc 11 fa fd ["_law_script"] (S1.M8 (K w.params))):
  PySem.W.WalkO q loose XP YP l.row.toRowW d [] (λf vs=>PySem.call f vs):=
 L2.K3 (n:=63) (k:=11) (x:="_law_script") (CX:=λ_=>wc) (sp:=λw=>S1.M8 (K w.params)) hn (by decide) hdf ⟨rfl,by decide,by decide⟩ hY F (λ_ _ a ns hl _ hS=>⟨a,ns,rfl,hS,hl,λ_=>rfl⟩) λ_ _ _ _ _ z=>z
end K7
open PySem PySem.W PyProof.Rows
set_option maxRecDepth 100000 in
set_option maxHeartbeats 0 in
theorem PySem.Challenge.cw_stampword_k07_whole_names_of_the_caller_holds : PySem.Challenge.rw_stampword_k07_whole_names_of_the_caller.Holds := by
 w_on;refine QWtp ?_
 k_fill
 refine K7.N5 (l:=PySem.Challenge.rw_stampword_k07_whole_names_of_the_caller) rfl rfl (λw h Y=>PySem.W.kIn_of Y) ?F
 case F=>
  intro w mg fa h KX G hmg
  refine' K7.Mn KX G hmg ?aC0 ?aC1 ?a0 ?F0 ?a1 ?F1 ?a2 ?F2 ?a3 ?F3 ?a4 ?F4 ?a5 ?F5 ?a6 ?F6 ?a7 ?F7 ?a8 ?F8 ?a9 ?F9 ?a10 ?F10 ?a11 ?F11 ?a12 ?F12 ?a13 ?F13 ?a14 ?F14 ?a15 ?F15 ?a16 ?F16 ?a17 ?F17 ?a18 ?F18 ?a19 ?F19 ?a20 ?F20 ?a21 ?F21 ?a22 ?F22 ?a23 ?F23 ?a24 ?F24 ?a25 ?F25 ?a26 ?F26 ?a27 ?i27 ?F27 ?a28 ?i28 ?F28 ?a29 ?F29 ?a30 ?F30 ?a31 ?F31 ?a32 ?F32 ?a33 ?i33 ?F33 ?a34 ?i34 ?F34 ?a35 ?i35 ?F35 ?a36 ?i36 ?F36 ?a37 ?i37 ?F37 ?a38 ?i38 ?F38 ?a39 ?i39 ?F39 ?a40 ?i40 ?F40 ?a41 ?F41 ?a42 ?F42 ?a43 ?F43 ?a44 ?F44 ?a45 ?F45 ?z0 ?z1 ?z2 ?z3 ?z4 ?z5 ?z6 ?z7 ?z8 ?z9 ?z10 ?z11 ?z12 ?z13 ?z14 ?u0 ?pg0 ?hd0 ?po0 ?sa0 ?mk0 ?kc0 ?n0_stamps ?n0_lets ?n0_fuel ?n0_many ?n0_ready ?pg1 ?hd1 ?po1 ?sa1 ?mk1 ?kc1 ?n1_taken ?n1_tried
  case aC0|aC1|a0|F0|a1|F1|a2|F2|a3|F3|a4|F4|a5|F5|a6|F6|a7|F7|a8|F8|a9|F9|a10|F10|a11|F11|a12|F12|a13|F13|a14|F14|a15|F15|a16|F16|a17|F17|a18|F18|a19|F19|a20|F20|a21|F21|a22|F22|a23|F23|a24|F24|a25|F25|a26|F26|a27|i27|F27|a28|i28|F28|a29|F29|a30|F30|a31|F31|a32|F32|a33|i33|F33|a34|i34|F34|a35|i35|F35|a36|i36|F36|a37|i37|F37|a38|i38|F38|a39|i39|F39|a40|i40|F40|a41|F41|a42|F42|a43|F43|a44|F44|a45|F45|z0|z1|z2|z3|z4|z5|z6|z7|z8|z9|z10|z11|z12|z13|z14|u0|pg0|hd0|po0|sa0|mk0|kc0|n0_stamps|n0_lets|n0_fuel|n0_many|n0_ready|pg1|hd1|po1|sa1|mk1|kc1|n1_taken|n1_tried=>first|(apply L2.MO;k_is;k_is;k_is)|k_is
#print axioms PySem.Challenge.cw_stampword_k07_whole_names_of_the_caller_holds
