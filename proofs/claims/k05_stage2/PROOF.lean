import PyProof.Rows.All
import Wide.All
import OpenK.AllK
import Wide.FinOn
import Lean
import PyProof.EqAt
import PyProof.EqKinds
import PyProof.TupleCall
import PySem.Challenge.RW_stampword_k05_whole_where_pieces_come_fr
set_option Elab.async false
set_option linter.all false
set_option maxRecDepth 100000
set_option maxHeartbeats 4000000
namespace QW
open PySem PySem.W PyProof.Rows
abbrev pw := PySem.Challenge.pw_stampword_k05_whole_where_pieces_come_fr
abbrev rw := PySem.Challenge.rw_stampword_k05_whole_where_pieces_come_fr
def tq (i : Nat) : Stmt := pw.main.body.getD i (.Pass ⟨0, 0, 0, 0⟩)
def qv : Program := { pw with main := { pw.main with body := [tq 1, tq 2, tq 4, tq 5, tq 6, tq 7, tq 8, tq 10, tq 11, tq 12, tq 13, tq 15, tq 16, tq 17, tq 19, tq 20, tq 21, tq 22, tq 23, tq 24, tq 25, tq 26, tq 27, tq 29, tq 30, tq 31, tq 32, tq 33, tq 34, tq 35, tq 36, tq 37, tq 38, tq 39, tq 40, tq 41, tq 42, tq 43, tq 44, tq 45, tq 46] } }
abbrev Xt : Shared → Bool := fun s => xlAt qv [] s && recOk (RowW.records (OpenRow.toRowW rw.row)) s
theorem lfG {p q : Program} {X : Shared → Bool} {N : Nat} {α : Type} {Yf : Shared → α} {Ya : World → α} (a : ∀ w, (openEnds treeTable p w N).map (fun s => (seen ((recsOf q).map (·.name)) (ownsOf q) [] { s with gens := #[] }, s.heap.bltView)) = some (expectedOf q, bltViewBooted)) (b : ∀ w, (openEnds treeTable p w N).map (fun s => (openSeen q [] (importedModules p.main.body) X true s).2.2) = some (openGood q []).2.2) (c : ∀ w, (openEnds treeTable p w N).map Yf = some (Ya w)) : LeftO p q [] X Yf Ya N := fun w => by
  have a := a w
  have b := b w
  have c := c w
  revert a b c
  cases openEnds treeTable p w N with
  | none => intro a; cases a
  | some s =>
    intro a b c
    have a := Prod.mk.inj (Option.some.inj a)
    exact congrArg some (Prod.ext (Prod.ext a.1 (Prod.ext a.2 (Option.some.inj b))) (Option.some.inj c))
theorem ws : rw.wellSaid = true := by decide +kernel
theorem ta (w : World) : (openEnds treeTable pw w 4812).map (fun s => (seen ((recsOf qv).map (·.name)) (ownsOf qv) [] { s with gens := #[] }, s.heap.bltView)) = some (expectedOf qv, bltViewBooted) := by kernel_rfl
theorem tb (w : World) : (openEnds treeTable pw w 4812).map (fun s => (openSeen qv [] (importedModules pw.main.body) Xt true s).2.2) = some (openGood qv []).2.2 := by kernel_rfl
end QW
section
open PySem PySem.W PyProof.Rows
set_option hygiene false in
local macro_rules | `(tactic| o_law) => `(tactic| refine holds_law QW.ws fun said => ?_)
set_option hygiene false in
local macro_rules | `(tactic| o_head $H) => `(tactic| (refine holds_open (q := QW.qv) (loose := []) (Xt := QW.Xt) (XP := XL QW.qv []) (Yf := Hook.obs $H) (Ya := Hook.val $H) (YP := Hook.says $H) (N := 4812) (QW.lfG QW.ta QW.tb fun _ => by kernel_rfl) (Hook.of $H) (Hook.keeps $H) (fun s e => xl_of s (Bool.and_eq_true_iff.mp e).1) XL.keeps (by rfl) (by rfl) (by rfl) (fun s e => recFacts_of (Bool.and_eq_true_iff.mp e).2) (by rfl) (by assumption) (by decide +kernel) ⟨rfl, rfl, rfl, rfl, rfl, by decide +kernel⟩ ?hw ?hc <;> clear said))
open_top QWtp for PySem.Challenge.rw_stampword_k05_whole_where_pieces_come_fr
end

abbrev aA:=PySem.W.Frag
abbrev aB:=@List.mem_cons
abbrev aC:=@Nat.le_refl
abbrev aD:=@List.length_append
abbrev aE:=@List.length_cons
abbrev aF:=@List.not_mem_nil
abbrev aG:=@List.mem_singleton
abbrev aH:=@True.intro
abbrev aI:=@PySem.F.plainAttrs_list
abbrev aJ:=@List.getElem?_eq_getElem
abbrev aK:=@PySem.W.mg_of
abbrev aL:=@Nat.ne_of_lt
abbrev aM:=@List.size_toArray
abbrev aN:=@List.cons_append
abbrev aO:=@List.getElem?_eq_some_iff
abbrev aP:=@Bool.false_ne_true
abbrev aQ:=@List.mem_append_right
abbrev aR:=@PySem.F.slot_list_append
abbrev aS:=@PySem.F.type_list_append
abbrev aT:=@List.append_assoc
abbrev aU:=@Nat.zero_le
abbrev aV:=@List.mem_append
abbrev aW:=@Nat.le_trans
abbrev aX:=@Nat.lt_of_lt_of_le
abbrev aY:=@List.map_cons
abbrev aZ:=@List.append_nil
abbrev aa:=@List.length_map
abbrev ac:=@List.mem_of_getElem?
abbrev ae:=@List.getElem?_map
abbrev af:=@Ne.symm
abbrev ag:=@List.mem_append_left
abbrev ah:=@List.drop_zero
abbrev ai:=@List.length_drop
abbrev aj:=@List.length_take
abbrev ak:=@List.nil_append
abbrev am:=@Nat.add_mul
abbrev aq:=@PySem.W.mg_none_of
abbrev au:=@List.length_nil
abbrev av:=@PySem.F.slot_list_pop
abbrev aw:=@PySem.F.type_list_pop
abbrev ax:=@List.getElem?_append_left
abbrev ay:=@List.reverse_cons
abbrev az:=@List.take_add_one
abbrev bA:=@List.take_zero
abbrev bB:=@List.length_singleton
abbrev bC:=@List.mem_cons_of_mem
abbrev bD:=@Nat.ne_of_gt
abbrev bE:=@PySem.W.kia_one
abbrev bF:=@Or.inl
abbrev bG:=@PySem.W.kia_tup
abbrev bH:=@List.drop_succ_cons
abbrev bI:=@List.sum_cons
abbrev bJ:=@List.take_length
abbrev bK:=@List.take_succ_cons
abbrev bL:=@List.getElem?_append_right
abbrev bM:=@Nat.lt_or_ge
abbrev bN:=@Nat.sub_self
abbrev bO:=@Nat.le_of_lt
abbrev bP:=@PyProof.Rows.callWith_type1
abbrev bQ:=@Nat.le_succ
abbrev bR:=@List.nodup_cons
abbrev bS:=@Or.inr
abbrev bT:=@Nat.le_of_ble_eq_true
abbrev bU:=@Nat.lt_irrefl
abbrev bV:=@List.map_nil
abbrev bW:=@List.take_of_length_le
abbrev bX:=@List.length_reverse
abbrev bY:=@Nat.mul_le_mul_right
abbrev bZ:=@List.drop_eq_getElem_cons
abbrev bb:=@List.mem_cons_self
abbrev bc:=@Int.toNat_natCast
abbrev be:=@PyProof.Rows.slot_tuple_getitem
abbrev bf:=@Bool.and_eq_true
abbrev bg:=@List.any_cons
abbrev bh:=@List.find?_cons
abbrev bi:=@Option.map_some
abbrev bj:=@List.mem_map
abbrev bn:=@Nat.le_add_right
abbrev bo:=@Array.length_toList
abbrev bp:=@PySem.mem_of_lookup
abbrev bq:=@Nat.min_eq_left
abbrev br:=@Nat.sub_zero
abbrev bu:=@List.take_append_drop
abbrev bw:=@Nat.zero_add
abbrev bx:=@Nat.one_mul
abbrev bz:=@Option.getD_some
abbrev b4:=@Bool.eq_iff_iff
abbrev b5:=@Nat.lt_succ_self
abbrev b9:=@PySem.W.kitx_list
abbrev cA:=@PySem.W.kitx_dict
abbrev cB:=@List.of_mem_zip
abbrev cC:=@List.pairwise_cons
abbrev cD:=@Int.emod_nonneg
abbrev cE:=@List.map_map
abbrev cF:=@List.take_left'
abbrev cG:=@List.length_eq_zero_iff
abbrev cH:=@List.reverse_reverse
abbrev cI:=@List.reverse_append
abbrev cJ:=@PySem.F.slot_list_extend
abbrev cK:=@PySem.F.type_list_extend
abbrev cL:=@List.filterMap_cons
abbrev cM:=@PySem.W.plainGet_of
abbrev cN:=@PySem.W.callWith_K
abbrev cO:=@List.length_replicate
abbrev cP:=@PySem.F.slot_tuple_add
abbrev cQ:=@PySem.F.entry_tuple_add
abbrev cR:=@PySem.F.args_tuple_add_2
abbrev cS:=@Array.getElem?_toList
abbrev cT:=@Option.isSome_map
abbrev cU:=@Nat.lt_trans
abbrev cV:=@PySem.F.slot_dict_get
abbrev cW:=@Nat.lt_of_le_of_lt
abbrev cX:=@Nat.not_lt_zero
abbrev cY:=@Nat.add_comm
abbrev cZ:=@Array.toList_append
abbrev ca:=@List.any_eq_true
abbrev cb:=@Nat.lt_succ_of_lt
abbrev ce:=@Nat.pow_succ
abbrev cf:=@Nat.mul_add
abbrev cg:=@List.take_left
abbrev ci:=@List.drop_of_length_le
abbrev cj:=@Function.comp_def
abbrev ck:=@List.mem_or_eq_of_mem_set
abbrev cm:=@Int.zero_add
abbrev cp:=@List.getElem?_set_self
abbrev cq:=@List.getElem?_set_ne
abbrev cr:=@PyProof.noPylong_small
abbrev cu:=@PySem.W.cellsFrom_some
abbrev cw:=@Option.isSome_iff_exists
abbrev cy:=@List.getElem?_replicate
abbrev cz:=@List.getElem?_take_of_lt
abbrev c3:=@PySem.F.entry_dict_get
abbrev dA:=@PySem.F.args_dict_get_3
abbrev dB:=@Int.eq_ofNat_of_zero_le
abbrev dC:=@List.getElem?_range
abbrev dD:=@Function.comp_apply
abbrev dE:=@List.map_congr_left
abbrev dF:=@List.getElem?_eq_none
abbrev dG:=@Nat.add_sub_cancel_left
abbrev dH:=@List.take_append_of_le_length
abbrev dI:=@List.mem_of_mem_take
abbrev dJ:=@List.length_pos_iff
namespace L2
open PySem PySem.Spec PyProof.Rows
abbrev fE:=Sum Int Str
def qI:fE→Value→Bool
 | .inl k,v=>Value.isInt k v
 | .inr x,v=>Value.isStrOf x v
def Lh(w:World):fE→Int
 | .inl k=>hashInt k
 | .inr x=>hashStr w x
theorem gR:∀{k:fE}{v:Value},qI k v=true→(∃i t,k=Sum.inl i∧v=Value.int i t)∨(∃x t,k=Sum.inr x∧v=Value.str x t)
 | .inl i,v,h=>by obtain⟨t,e⟩:=Value.isInt_shape (k:=i) (v:=v) h;exact .inl ⟨i,t,rfl,e⟩
 | .inr x,v,h=>by obtain⟨t,e⟩:=Value.isStrOf_shape (x:=x) (v:=v) h;exact .inr ⟨x,t,rfl,e⟩
theorem yR(i:Int)(t:Tok):qI (.inl i) (.int i t)=true:=by simp[qI,Value.isInt]
theorem yQ(x:Str)(t:Tok):qI (.inr x) (.str x t)=true:=by simp[qI,Value.isStrOf]
theorem HS(a b:Int):decide ((Sum.inl a:fE)=Sum.inl b)=(a==b):=by
 by_cases e:a=b
 ·subst e;simp
 ·have h:¬(Sum.inl a:fE)=Sum.inl b:=λq=>e (Sum.inl.inj q);rw[decide_eq_false h];exact(beq_eq_false_iff_ne.mpr e).symm
theorem HP(a b:Str):decide ((Sum.inr a:fE)=Sum.inr b)=decide (a=b):=by
 by_cases e:a=b
 ·subst e;simp
 ·have h:¬(Sum.inr a:fE)=Sum.inr b:=λq=>e (Sum.inr.inj q);rw[decide_eq_false h,decide_eq_false e]
theorem HR(a:Int)(b:Str):decide ((Sum.inl a:fE)=Sum.inr b)=false:=decide_eq_false (λq=>nomatch q)
theorem HQ(a:Str)(b:Int):decide ((Sum.inr a:fE)=Sum.inl b)=false:=decide_eq_false (λq=>nomatch q)
def gY(prog:Program)(w:World):PySem.KeyKind prog w fE where
 is:=qI
 hash:=Lh w
 inj:=λv a b ha hb=>by
  rcases gR ha with⟨i,t,rfl,rfl⟩|⟨x,t,rfl,rfl⟩
  ·rcases gR hb with⟨j,u,rfl,e⟩|⟨y,u,rfl,e⟩
   ·injection e with e1 _;rw[e1]
   ·exact nomatch e
  ·rcases gR hb with⟨j,u,rfl,e⟩|⟨y,u,rfl,e⟩
   ·exact nomatch e
   ·injection e with e1 _;rw[e1]
 byValue:=λk v h=>by rcases gR h with⟨i,t,rfl,rfl⟩|⟨x,t,rfl,rfl⟩<;>rfl
 pyHash:=λhv h=>by
  rcases gR hv with⟨i,t,rfl,rfl⟩|⟨x,t,rfl,rfl⟩
  ·exact wpAny_pyHash_int h
  ·exact wpAny_pyHash_str h
 eqBool:=λhu hv h=>by
  rcases gR hu with⟨i,t,rfl,rfl⟩|⟨x,t,rfl,rfl⟩
  ·rcases gR hv with⟨j,u,rfl,rfl⟩|⟨y,u,rfl,rfl⟩
   ·rw[HS]at h;exact wpAny_eqBool_int h
   ·rw[HR]at h;exact SeqAt.EqAt.int_str i t y u _ _ _ _ h
  ·rcases gR hv with⟨j,u,rfl,rfl⟩|⟨y,u,rfl,rfl⟩
   ·rw[HQ]at h;exact SeqAt.EqAt.str_int x t j u _ _ _ _ h
   ·rw[HP]at h;exact wpAny_eqBool_str h
 «strs»:=λk x t v h=>by
  rcases gR h with⟨i,u,rfl,e⟩|⟨y,u,rfl,e⟩
  ·exact nomatch e
  ·injection e with e1 _;subst e1;cases v<;>rfl
theorem uJ(prog:Program)(w:World)(i:Int)(t:Tok):(gY prog w).is (.inl i) (.int i t)=true:=yR i t
theorem uI(prog:Program)(w:World)(x:Str)(t:Tok):(gY prog w).is (.inr x) (.str x t)=true:=yQ x t
end L2
namespace L2
open PySem PySem.Spec PyProof.Rows
inductive V where
 | non|bl(b:Bool)|int(i:Int)|str(x:Str)|byt(b:Array UInt8)|flt(b:UInt64)|ref(a:Addr)|ty(n:String)
 deriving DecidableEq
def fM:V→Value→Prop
 | .non,u=>u=Value.none
 | .bl b,u=>u=Value.bool b
 | .int i,u=>∃t,u=Value.int i t
 | .str x,u=>∃t,u=Value.str x t
 | .byt b,u=>∃t,u=Value.bytes b t
 | .flt b,u=>∃t,u=Value.float b t
 | .ref a,u=>u=Value.ref a
 | .ty n,u=>u=Value.type n
abbrev fG:List V→List Value→Prop:=Paired fM
theorem fG.length{xs:List V}{us:List Value}(r:fG xs us):xs.length=us.length:=Paired.length r
theorem fG.get:∀{xs:List V}{us:List Value}{i:Nat}{x:V},fG xs us→xs[i]?=some x→∃u,us[i]?=some u∧fM x u
 | _,_,_,_,.nil,e=>by simp at e
 | _,_,0,_,.cons r _,e=>by simp at e;subst e;exact⟨_,rfl,r⟩
 | _,_,i+1,x,.cons _ t,e=>by obtain⟨u,h1,h2⟩:=fG.get (i:=i) (x:=x) t (by simpa using e);exact⟨u,by simpa using h1,h2⟩
theorem fG.set{x:V}{u:Value}(r:fM x u):∀{xs:List V}{us:List Value}(i:Nat),fG xs us→fG (xs.set i x) (us.set i u)
 | _,_,_,.nil=>.nil
 | _,_,0,.cons _ t=>.cons r t
 | _,_,i+1,.cons q t=>.cons q (fG.set r i t)
theorem fG.append:∀{xs ys:List V}{us ws:List Value},fG xs us→fG ys ws→fG (xs++ys) (us++ws)
 | _,_,_,_,.nil,s=>s
 | _,_,_,_,.cons r t,s=>.cons r (fG.append t s)
theorem fG.take:∀{xs:List V}{us:List Value}(n:Nat),fG xs us→fG (xs.take n) (us.take n)
 | _,_,0,_=>.nil
 | _,_,_+1,.nil=>.nil
 | _,_,n+1,.cons r t=>.cons r (fG.take n t)
theorem fG.drop:∀{xs:List V}{us:List Value}(n:Nat),fG xs us→fG (xs.drop n) (us.drop n)
 | _,_,0,r=>r
 | _,_,_+1,.nil=>.nil
 | _,_,n+1,.cons _ t=>fG.drop n t
def k0:Option V→Option Value→Prop
 | some v,some u=>fM v u
 | none,none=>True
 | _,_=>False
def KV{κ:Type}:List (κ×V)→List (κ×Value)→Prop:=Paired λ(p:κ×V)(q:κ×Value)=>p.1=q.1∧fM p.2 q.2
def kV:fE→V
 | .inl i=>.int i
 | .inr x=>.str x
inductive HO where
 | lst(xs:List V)
 | tup(xs:List V)
 | dK(kvs:List (fE×V))|dT(kvs:List (List fE×V))
 | set(S:Int→Bool)(n:Nat)
 | ins(C dx:Addr)(fs:List (Str×V))
 | own(x:Addr)
 | xd(fs:List (Str×V))
 | met(f x:Addr)
 | rng(lo hi:Int)
 | frz(o:Obj)(u:HO)
 | tbl(ps:Array Value)
 | ext(φ:Heap→Prop)
abbrev Hp:=Addr→Option HO
def upd(H:Hp)(a:Addr)(o:HO):Hp:=λb=>if b=a then some o else H b
theorem dO{H:Hp}{a:Addr}{o:HO}:upd H a o a=some o:=by unfold upd;rw[if_pos rfl]
theorem db{H:Hp}{a b:Addr}{o:HO}(h:b≠a):upd H a o b=H b:=by unfold upd;rw[if_neg h]
theorem fY{H:Hp}{a b:Addr}{o u:HO}(h:H a=some o)(h':H b=some u)(d:o≠u):a≠b:=by intro e;subst e;rw[h]at h';exact d (Option.some.inj h')
theorem dZ{H:Hp}{a b:Addr}{o:HO}(h:H a=some o)(h':H b=none):a≠b:=by intro e;subst e;rw[h]at h';cases h'
section
variable (P:Program)(w:World)
def gB(H:Hp)(h:Heap)(a:Addr):HO→Prop
 | .lst xs=>xs.length≤sizeLine∧∃(its:List Value)(n:Nat),fG xs its∧h.get? a=some {cls:=.type "list",data:=.seq its.toArray n}
 | .tup xs=>xs.length≤sizeLine∧∃its:List Value,fG xs its∧IsTup h a its.toArray
 | .dK kvs=>kvs.length≤sizeLine∧(a==sysModules)=false∧∃vs,KV kvs vs∧h.DictOf (gY P w) a vs
 | .dT kvs=>kvs.length≤sizeLine∧(a==sysModules)=false∧∃xs:List (List fE×Addr×Value),
   Paired (λ(p:List fE×V)(q:List fE×Addr×Value)=>p.1=q.1∧H q.2.1=some (.tup (p.1.map kV))∧fM p.2 q.2.2) kvs xs∧
   ∃o es ep,h.get? a=some o∧o.ExactDict∧o.data=.dict es ep∧es.toList=xs.map (entryOfKey (tupleKind (gY P w)))∧(xs.map (·.1)).Nodup
 | .set S n=>h.SetOf (intKind P w) a S n
 | .ins C dx fs=>H dx=some (.own a)∧fs.length≤1000∧dx≠a∧h.get? a=some (PySem.W.instObj C dx)∧
   ∃mA,h.Ns1 dx mA∧(∀f,k0 (fs.lookup f) (mA f))∧PySem.Within mA (fs.map (·.1))
 | .own _=>∃o,h.get? a=some o
 | .xd fs=>∃mA,h.Ns1 a mA∧∀f,k0 (fs.lookup f) (mA f)
 | .rng lo hi=>∃t u v,h.get? a=some {cls:=.type "range",data:=.fields #[.int lo t,.int hi u,.int 1 v]}
 | .frz o u=>h.get? a=some o∧gB H h a u
 | .tbl ps=>h.get? a=some {cls:=.none,data:=.fields ps}
 | .met f x=>h.get? a=some (PySem.W.methodObj (.ref f) (.ref x))
 | .ext φ=>φ h∧(∃o,h.get? a=some o)∧∀h1 h2:Heap,φ h1→(∀o,h1.get? a=some o→h2.get? a=some o)→φ h2
def mO(H:Hp)(h:Heap):Prop:=∀a o,H a=some o→gB P w H h a o
end
section
variable {P:Program}{w:World}{H H':Hp}{h h':Heap}{a:Addr}{o:HO}
theorem gB.lt(x:gB P w H h a o):a<h.objs.size:=by
 cases o with
 | lst xs=>obtain⟨_,_,_,_,e⟩:=x;exact Heap.lt_size e
 | tup xs=>obtain⟨_,_,_,p⟩:=x;exact p.lt
 | dK kvs=>obtain⟨_,_,_,_,o,_,_,e,_⟩:=x;exact Heap.lt_size e
 | dT kvs=>obtain⟨_,_,_,_,o,_,_,e,_⟩:=x;exact Heap.lt_size e
 | set S n=>obtain⟨o,_,_,_,e,_⟩:=x;exact Heap.lt_size e
 | ins C dx fs=>obtain⟨_,_,_,e,_⟩:=x;exact Heap.lt_size e
 | own y=>obtain⟨_,e⟩:=x;exact Heap.lt_size e
 | xd fs=>obtain⟨_,⟨_,_,_,e,_⟩,_⟩:=x;exact Heap.lt_size e
 | rng lo hi=>obtain⟨_,_,_,e⟩:=x;exact Heap.lt_size e
 | frz ob u=>obtain⟨e,_⟩:=x;exact Heap.lt_size e
 | tbl ps=>exact Heap.lt_size (show h.get? a=some _ from x)
 | met f y=>exact Heap.lt_size (show h.get? a=some _ from x)
 | ext φ=>obtain⟨_,⟨_,e⟩,_⟩:=x;exact Heap.lt_size e
theorem Paired.mapP{α β:Type}{F G:α→β→Prop}:∀{l₁:List α}{l₂:List β},Paired F l₁ l₂→(∀a b,F a b→G a b)→Paired G l₁ l₂
 | _,_,.nil,_=>.nil
 | _,_,.cons r t,f=>.cons (f _ _ r) (Paired.mapP t f)
theorem gB.stay(x:gB P w H h a o)(k:∀b u,(b=a∨H b=some (.own a))→h.get? b=some u→h'.get? b=some u)
  (ho:∀b,H b=some (.own a)→H' b=some (.own a)) (ht:∀b xs,H b=some (.tup xs)→H' b=some (.tup xs)):gB P w H' h' a o:=by
 induction o with
 | lst xs=>obtain⟨z,its,n,r,e⟩:=x;exact⟨z,its,n,r,k _ _ (.inl rfl) e⟩
 | tup xs=>obtain⟨z,its,r,ob,e,c⟩:=x;exact⟨z,its,r,ob,k _ _ (.inl rfl) e,c⟩
 | dK kvs=>obtain⟨z,y,vs,r,ob,es,ep,e,c⟩:=x;exact⟨z,y,vs,r,ob,es,ep,k _ _ (.inl rfl) e,c⟩
 | dT kvs=>obtain⟨z,y,xs,r,ob,es,ep,e,c⟩:=x;exact⟨z,y,xs,Paired.mapP r λp q z=>⟨z.1,ht _ _ z.2.1,z.2.2⟩,ob,es,ep,k _ _ (.inl rfl) e,c⟩
 | set S n=>obtain⟨ob,es,ep,t,e,c⟩:=x;exact⟨ob,es,ep,t,k _ _ (.inl rfl) e,c⟩
 | ins C dx fs=>obtain⟨d,z,ne,e,mA,⟨od,es,ep,e2,c⟩,r⟩:=x;exact⟨ho _ d,z,ne,k _ _ (.inl rfl) e,mA,⟨od,es,ep,k _ _ (.inr d) e2,c⟩,r⟩
 | own y=>obtain⟨ob,e⟩:=x;exact⟨ob,k _ _ (.inl rfl) e⟩
 | xd fs=>obtain⟨mA,⟨od,es,ep,e,c⟩,r⟩:=x;exact⟨mA,⟨od,es,ep,k _ _ (.inl rfl) e,c⟩,r⟩
 | rng lo hi=>obtain⟨t,u,v,e⟩:=x;exact⟨t,u,v,k _ _ (.inl rfl) e⟩
 | frz ob u ih=>obtain⟨e,q⟩:=x;exact⟨k _ _ (.inl rfl) e,ih q⟩
 | tbl ps=>have e:h.get? a=some {cls:=.none,data:=.fields ps}:=x;show h'.get? a=some {cls:=.none,data:=.fields ps};exact k a _ (.inl rfl) e
 | met f y=>have e:h.get? a=some (PySem.W.methodObj (.ref f) (.ref y)):=x;show h'.get? a=some (PySem.W.methodObj (.ref f) (.ref y));exact k a _ (.inl rfl) e
 | ext φ=>obtain⟨p,⟨o,e⟩,st⟩:=x;exact⟨st _ _ p λo q=>k _ _ (.inl rfl) q,⟨o,k _ _ (.inl rfl) e⟩,st⟩
theorem mO.lt(x:mO P w H h)(e:H a=some o):a<h.objs.size:=(x a o e).lt
theorem mO.fresh(x:mO P w H h)(e:h.objs.size≤a):H a=none:=by
 cases q:H a with
 | none=>rfl
 | some u=>exact absurd (aX (x.lt q) e) (bU _)
theorem mO.kept(x:mO P w H h)(k:∀b u,h.get? b=some u→h'.get? b=some u):mO P w H h':=λa o e=>
 (x a o e).stay (λb u _ q=>k b u q) (λ_ q=>q) λ_ _ q=>q
theorem mO.laid(x:mO P w H h)(k:∀b u,h.get? b=some u→h'.get? b=some u)(hp:h.objs.size≤a)(new:gB P w (upd H a o) h' a o):mO P w (upd H a o) h':=λb u e=>by
 have hn:=x.fresh hp;by_cases hb:b=a
 ·subst hb;rw[dO]at e;cases e;exact new
 ·rw[db hb]at e;exact(x b u e).stay (λc v _ q=>k c v q) (λc q=>by rw[db (dZ q hn)];exact q) λc xs q=>by rw[db (dZ q hn)];exact q
end
def Rd(H:Hp)(a:Addr)(u:HO):Prop:=H a=some u∨∃o,H a=some (.frz o u)
theorem Rd.ok{P:Program}{w:World}{H:Hp}{h:Heap}{a:Addr}{u:HO}(r:Rd H a u)(x:mO P w H h):gB P w H h a u:=by
 rcases r with r|⟨o,r⟩
 ·exact x a u r
 ·obtain⟨_,q⟩:=x a _ r;exact q
def KA:Option HO→Prop
 | some (.lst _)=>True
 | some (.dK _)=>True
 | some (.dT _)=>True
 | some (.set _ _)=>True
 | some (.ins _ _ _)=>True
 | some (.ext _)=>True
 | _=>False
section
variable {P:Program}{w:World}{H:Hp}{h h':Heap}{x e:Addr}{o':HO}
theorem mO.write(ok:mO P w H h)(mu:KA (H x))(he:e=x∨H e=some (.own x))(k:∀b u,b≠e→h.get? b=some u→h'.get? b=some u)(heo:∃u,h'.get? e=some u)
  (new:gB P w (upd H x o') h' x o'):mO P w (upd H x o') h':=λb u q=>by
 have nown:∀c y,H c=some (.own y)→c≠x:=λc y r z=>by subst z;rw[r]at mu;exact mu
 have ntup:∀c xs,H c=some (.tup xs)→c≠x:=λc xs r z=>by subst z;rw[r]at mu;exact mu
 by_cases hb:b=x
 ·subst hb;rw[dO]at q;cases q;exact new
 ·rw[db hb]at q;by_cases hbe:b=e
  ·have q':H b=some (.own x):=by
    rcases he with z|z
    ·exact absurd (hbe.trans z) hb
    ·rw[hbe];exact z
   rw[q]at q';cases q';obtain⟨v,hv⟩:=heo;exact⟨v,by rw[hbe];exact hv⟩
  ·refine(ok b u q).stay (λc v hc r=>k c v ?_ r) (λc r=>by rw[db (nown c b r)];exact r) λc xs r=>by rw[db (ntup c xs r)];exact r
   rcases hc with rfl|hc
   ·exact hbe
   ·rintro rfl;rcases he with z|z
    ·exact nown c b hc z
    ·rw[hc]at z;cases z;exact hb rfl
end
structure Un(fs ex:List Addr)(H H':Hp)(h h':Heap):Prop where
 keep:∀b o,h.get? b=some o→H b=none→b∉fs→b∉ex→h'.get? b=some o
 slot:∀b o,h.get? b=some o→H b=none→b∈fs→b∉ex→∃sl,h'.get? b=some {o with slots:=sl}
 free:∀b o,h.get? b=some o→H b=none→b∉ex→H' b=none
 there:∀b o,h.get? b=some o→b∉ex→∃o',h'.get? b=some o'
 tups:∀b xs,H b=some (.tup xs)→H' b=some (.tup xs)
 frzs:∀b o u,H b=some (.frz o u)→H' b=some (.frz o u)
 tbls:∀b ps,H b=some (.tbl ps)→∃more,H' b=some (.tbl (ps++more))
section
variable {fs fs' ex ex':List Addr}{H H1 H2:Hp}{h h1 h2 h':Heap}{a x e:Addr}{o:HO}
theorem Un.any(u:Un fs ex H H1 h h1){b:Addr}{ob:Obj}(q:h.get? b=some ob)(n:H b=none)(hx:b∉ex):∃sl,h1.get? b=some {ob with slots:=sl}:=by
 by_cases hb:b∈fs
 ·exact u.slot b ob q n hb hx
 ·exact⟨ob.slots,u.keep b ob q n hb hx⟩
theorem Un.kept(k:∀b u,h.get? b=some u→h'.get? b=some u):Un fs ex H H h h':=
 ⟨λb ob q _ _ _=>k b ob q,λb ob q _ _ _=>⟨ob.slots,k b ob q⟩,λ_ _ _ n _=>n,λb ob q _=>⟨ob,k b ob q⟩,λ_ _ q=>q,λ_ _ _ q=>q,λ_ ps q=>⟨#[],by rw[q];simp⟩⟩
theorem Un.refl:Un fs ex H H h h:=Un.kept λ_ _ q=>q
theorem Un.laid(k:∀b u,h.get? b=some u→h'.get? b=some u)(hp:h.objs.size≤a)(hn:H a=none):Un fs ex H (upd H a o) h h' where
 keep:=λb u q _ _ _=>k b u q
 slot:=λb u q _ _ _=>⟨u.slots,k b u q⟩
 free:=λb u q n _=>by rw[db (aL (aX (Heap.lt_size q) hp))];exact n
 there:=λb u q _=>⟨u,k b u q⟩
 tups:=λb xs q=>by rw[db (dZ q hn)];exact q
 frzs:=λb u xs q=>by rw[db (dZ q hn)];exact q
 tbls:=λb ps q=>⟨#[],by rw[db (dZ q hn),q];simp⟩
theorem Un.write(mu:KA (H x))(he:e=x∨H e=some (.own x))(k:∀b u,b≠e→h.get? b=some u→h'.get? b=some u)(heo:∃u,h'.get? e=some u):Un fs ex H (upd H x o) h h':=by
 have hx:∀b,H b=none→b≠x:=λb n z=>by subst z;rw[n]at mu;exact mu
 have hb:∀b,H b=none→b≠e:=λb n z=>by
  subst z;rcases he with r|r
  ·exact hx b n r
  ·rw[n]at r;cases r
 have hm:∀b u,H b=some u→¬KA (some u)→b≠x:=λb u q nm z=>by subst z;rw[q]at mu;exact nm mu
 refine⟨λb u q n _ _=>k b u (hb b n) q,λb u q n _ _=>⟨u.slots,k b u (hb b n) q⟩,λb u q n _=>by rw[db (hx b n)];exact n,λb u q _=>?_,
  λb xs q=>by rw[db (hm b _ q λz=>z)];exact q,λb u xs q=>by rw[db (hm b _ q λz=>z)];exact q,λb ps q=>⟨#[],by rw[db (hm b _ q λz=>z),q];simp⟩⟩
 by_cases hbe:b=e
 ·subst hbe;exact heo
 ·exact⟨u,k b u hbe q⟩
end
def KJ(h:Heap)(H:Hp):List Addr:=(List.range h.objs.size).filter λa=>(H a).isSome
def sM(h:Heap)(H:Hp):Heap:=PySem.W.hideAll h (KJ h H)
theorem yT(h:Heap)(H:Hp):(sM h H).objs.size=h.objs.size:=PySem.W.hideAll_size _ _
theorem BL{h:Heap}{H:Hp}{b:Addr}{o:Obj}(e:h.get? b=some o)(n:H b=none):(sM h H).get? b=some o:=
 PySem.W.hideAll_get _ e λhm=>by have q:(H b).isSome=true:=(List.mem_filter.mp hm).2;rw[n]at q;simp at q
theorem Dn{h:Heap}{H:Hp}{b:Addr}{o:Obj}(e:(sM h H).get? b=some o):h.get? b=some o∧H b=none:=by
 have e':h.get? b=some o:=PySem.W.of_hideAll (KJ h H) e;refine⟨e',?_⟩;cases q:H b with
 | none=>rfl
 | some x=>have hm:b∈KJ h H:=List.mem_filter.mpr ⟨List.mem_range.mpr (Heap.lt_size e'),by simp[q]⟩;have z:(sM h H).get? b=none:=PySem.W.hideAll_none (KJ h H) hm;rw[z]at e;cases e
end L2
namespace L2
open PySem PySem.Spec PyProof.Rows
structure Mod(K:aA)(mg:Str→Option Value)(base:Heap):Prop where
 kin:K.In base
 glob:base.Ns mainGlobals mg
 blt:∃mb,base.Ns builtinsNs mb∧∀x:Str,x≠"__name__"→mb x=bootBuiltins x
 nolimit:base.NoLimit
structure Cx where
 prog:Program
 w:World
 K:aA
 mg:Str→Option Value
 base:Heap
 A:Around
 N:List Str
 s₀:Shared
 H₀:Hp
 env:Env
 outer:List Env
 stack:List Env
 ex:List Addr
 fn:Str→Bool
 calm:Bool
 pn:List (Addr×Obj)
 xe:Value→Shared→Prop
def yW(l:List Env):List Addr:=l.filterMap (·.frame)
abbrev Cx.fs(X:Cx):List Addr:=yW X.outer
def KW(sc:Scope)(x:Str):Prop:=sc.names.lookup x=some .local∨sc.names.lookup x=some .cell∨sc.names.lookup x=some .free
def D9(sc:Scope)(x:Str):Prop:=sc.names.lookup x=some .local∨sc.names.lookup x=some .cell
def L9(env:Env)(h:Heap)(m:Str→Option Value)(x:Str)(u:Value):Prop:=
 (env.kindOf x=some .local∧m x=some u)∨((env.kindOf x=some .cell∨env.kindOf x=some .free)∧∃c,env.cells.lookup x=some c∧h.IsCell c (some u))
structure Cx.Ok(X:Cx):Prop where
 mod:Mod X.K X.mg X.base
 kind:X.env.scope.kind=.function
 glob:X.env.globals=mainGlobals
 blt:X.env.builtins=builtinsNs
 above:X.s₀.heap.objs.size≤X.env.locals
 inj:∀x y c,X.env.cells.lookup x=some c→X.env.cells.lookup y=some c→x=y
 has:∀x,(X.env.kindOf x=some .cell∨X.env.kindOf x=some .free)→∃c,X.env.cells.lookup x=some c
 cab:∀x c,X.fn x=true→X.env.cells.lookup x=some c→X.s₀.heap.objs.size≤c
 hd:X.calm=true→X.A.handled=none
 frames:X.A.frames=some X.stack
 stk:X.stack=X.outer∨(X.stack=X.env::X.outer∧X.env.frame=some X.env.locals)
 exf:∀b∈X.ex,b≠X.env.locals∧∀x c,X.env.cells.lookup x=some c→c≠b
 bs:∀b o,X.base.get? b=some o→X.s₀.heap.get? b=some o∧X.H₀ b=none
 bsz:X.base.objs.size≤X.s₀.heap.objs.size
 noex:∀b o,X.base.get? b=some o→b∉X.ex
 exfs:∀b∈X.ex,b∉X.fs
 funs:X.s₀.heap.FunFrames X.base X.outer
 frf:∀b∈X.fs,X.H₀ b=none
structure eU(X:Cx)(pins:List (Addr×Obj))(σ:List (Option V))(H:Hp)(s:Shared):Prop where
 ok:X.Ok
 os:s.os=X.s₀.os
 bare:AllBare s.gens
 base:Un X.fs X.ex X.H₀ H X.s₀.heap s.heap
 loc:∃m,s.heap.Ns X.env.locals m∧∀(i:Nat)(x:Str)(v:V),X.N[i]?=some x→σ[i]?=some (some v)→KW X.env.scope x→∃u,fM v u∧L9 X.env s.heap m x u
 cell:∀x c,X.env.cells.lookup x=some c→∃v,s.heap.IsCell c v
 free:H X.env.locals=none
 freeC:∀x c,X.env.cells.lookup x=some c→H c=none
 pin:∀p∈X.pn++pins,s.heap.get? p.1=some p.2∧H p.1=none∧p.1≠X.env.locals∧p.1∉X.fs∧∀v,p.2.data≠.cell v
 hok:mO X.prog X.w H s.heap
 len:σ.length=X.N.length
section
variable {X:Cx}{pins:List (Addr×Obj)}{σ:List (Option V)}{H H':Hp}{s:Shared}{h':Heap}
theorem Cx.Ok.nofr(ok:X.Ok){b:Addr}{o:Obj}(e:X.base.get? b=some o):b∉X.fs:=λhb=>by have:=(ok.funs.mem hb).1;rw[e]at this;cases this
theorem eU.bs(I:eU X pins σ H s):∀b o,X.base.get? b=some o→s.heap.get? b=some o∧H b=none:=λb o e=>
 ⟨I.base.keep b o (I.ok.bs b o e).1 (I.ok.bs b o e).2 (I.ok.nofr e) (I.ok.noex b o e),I.base.free b o (I.ok.bs b o e).1 (I.ok.bs b o e).2 (I.ok.noex b o e)⟩
theorem eU.bk(I:eU X pins σ H s):∀b o,X.base.get? b=some o→s.heap.get? b=some o:=λb o e=>(I.bs b o e).1
theorem eU.mod(I:eU X pins σ H s):Mod X.K X.mg X.base:=I.ok.mod
theorem eU.kIn(I:eU X pins σ H s):X.K.In s.heap:=I.ok.mod.kin.keeps I.bk
theorem eU.lt(I:eU X pins σ H s):X.env.locals<s.heap.objs.size:=let ⟨_,hn,_⟩:=I.loc;hn.lt
theorem eU.sz(I:eU X pins σ H s):X.s₀.heap.objs.size≤s.heap.objs.size:=aW I.ok.above (bO I.lt)
theorem eU.nofs(I:eU X pins σ H s){a:Addr}(h:s.heap.objs.size≤a):a∉X.fs:=λhb=>by obtain⟨_,o,ho,_⟩:=I.ok.funs.mem hb;exact absurd (aX (Heap.lt_size ho) (aW I.sz h)) (bU _)
theorem eU.cne(I:eU X pins σ H s):∀x c,X.env.cells.lookup x=some c→c≠X.env.locals:=λx c e z=>by obtain⟨v,o,ho,hd⟩:=I.cell x c e;obtain⟨m,⟨o',es,ep,ho',hd',_⟩,_⟩:=I.loc;rw[z,ho']at ho;cases ho;rw[hd']at hd;cases hd
theorem eU.funs(I:eU X pins σ H s):s.heap.FunFrames X.base X.outer:=by
 have all:∀(l:List Env),(∀b∈yW l,b∈X.fs)→X.s₀.heap.FunFrames X.base l→s.heap.FunFrames X.base l:=by
  intro l;induction l with
  | nil=>intro _ _;trivial
  | cons env r ih=>intro hs hl;obtain⟨hk,⟨L,o,hf,hn,ho,hd⟩,hr⟩:=hl;have hL:L∈X.fs:=hs L (by unfold yW;rw[cL,hf];exact bb);obtain⟨sl,e⟩:=I.base.slot L o ho (I.ok.frf L hL) hL λz=>I.ok.exfs L z hL;exact⟨hk,⟨L,_,hf,hn,e,hd⟩,ih (λb hb=>hs b (by unfold yW;rw[cL,hf];exact bC _ hb)) hr⟩
 exact all X.outer (λ_ hb=>hb) I.ok.funs
theorem eU.stack(I:eU X pins σ H s):s.heap.FunFrames X.base X.stack:=by
 rcases I.ok.stk with e|⟨e,hf⟩
 ·rw[e];exact I.funs
 ·rw[e];obtain⟨m,hn,_⟩:=I.loc;refine .cons (by rw[I.ok.kind];decide) hf hn ?_ I.funs;exact Heap.get?_none_of_le (aW I.ok.bsz I.ok.above)
theorem eU.stkSub(I:eU X pins σ H s):∀b∈yW X.stack,b∈X.env.locals::X.fs:=λb hb=>by
 rcases I.ok.stk with e|⟨e,hf⟩
 ·rw[e]at hb;exact bC _ hb
 ·rw[e]at hb;unfold yW at hb;rw[cL,hf]at hb;exact hb
theorem eU.stkFree(I:eU X pins σ H s):∀b∈yW X.stack,H b=none:=λb hb=>by
 rcases aB.mp (I.stkSub b hb)with e|hb
 ·rw[e];exact I.free
 ·obtain⟨_,o,ho,_⟩:=I.ok.funs.mem hb;exact I.base.free b o ho (I.ok.frf b hb) λz=>I.ok.exfs b z hb
theorem eU.step{g':Array GenState}{t':Nat}{d':Drawn}{ch:List Addr}(I:eU X pins σ H s)
  (hch:∀b∈ch,(b∈X.ex∨X.s₀.heap.objs.size≤b)∧b≠X.env.locals∧(∀x c,X.env.cells.lookup x=some c→c≠b)∧∀p∈X.pn++pins,p.1≠b)
  (keep:∀b o,b≠X.env.locals→b∉X.fs→b∉ch→s.heap.get? b=some o→H b=none→h'.get? b=some o)
  (slot:∀b o,b≠X.env.locals→b∈X.fs→b∉ch→s.heap.get? b=some o→H b=none→∃sl,h'.get? b=some {o with slots:=sl}) (free:∀b o,b∉ch→s.heap.get? b=some o→H b=none→H' b=none)
  (there:∀b o,b∉ch→s.heap.get? b=some o→∃o',h'.get? b=some o')
  (tups:∀b xs,H b=some (.tup xs)→H' b=some (.tup xs)) (frzs:∀b o u,H b=some (.frz o u)→H' b=some (.frz o u)) (tbls:∀b ps,H b=some (.tbl ps)→∃more,H' b=some (.tbl (ps++more)))
  (ns:∀m,s.heap.Ns X.env.locals m→h'.Ns X.env.locals m) (hok:mO X.prog X.w H' h') (hg:AllBare g'):
  eU X pins σ H' {s with heap:=h',gens:=g',drawn:=d',toks:=t'}:=by
 have neL:∀b o,X.s₀.heap.get? b=some o→b≠X.env.locals:=λb o e=>aL (aX (Heap.lt_size e) I.ok.above);have neC:∀b o,X.s₀.heap.get? b=some o→b∉X.ex→b∉ch:=λb o e hx hb=>by
  rcases(hch b hb).1 with z|z
  ·exact hx z
  ·exact absurd (aX (Heap.lt_size e) z) (bU _)
 have cellK:∀x c,X.env.cells.lookup x=some c→∀v,s.heap.IsCell c v→h'.IsCell c v:=λx c e v ⟨o,ho,hd⟩=>by
  have nch:c∉ch:=λz=>(hch c z).2.2.1 x c e rfl;by_cases hc:c∈X.fs
  ·obtain⟨sl,q⟩:=slot c o (I.cne x c e) hc nch ho (I.freeC x c e);exact⟨_,q,hd⟩
  ·exact⟨o,keep c o (I.cne x c e) hc nch ho (I.freeC x c e),hd⟩
 refine⟨I.ok,I.os,hg,⟨λb o e n hb hx=>?_,λb o e n hb hx=>?_,λb o e n hx=>?_,λb o e hx=>?_,λb xs e=>tups b xs (I.base.tups b xs e),λb o xs e=>frzs b o xs (I.base.frzs b o xs e),λb ps e=>?_⟩,?_,λx c e=>?_,?_,λx c e=>?_,λp hp=>?_,hok,I.len⟩
 ·exact keep b o (neL b o e) hb (neC b o e hx) (I.base.keep b o e n hb hx) (I.base.free b o e n hx)
 ·obtain⟨sl,e1⟩:=I.base.slot b o e n hb hx;obtain⟨sl',e2⟩:=slot b _ (neL b o e) hb (neC b o e hx) e1 (I.base.free b o e n hx);exact⟨sl',e2⟩
 ·obtain⟨o',e1⟩:=I.base.there b o e hx;exact free b o' (neC b o e hx) e1 (I.base.free b o e n hx)
 ·obtain⟨o',e1⟩:=I.base.there b o e hx;exact there b o' (neC b o e hx) e1
 ·obtain⟨m1,e1⟩:=I.base.tbls b ps e;obtain⟨m2,e2⟩:=tbls b _ e1;exact⟨m1++m2,by rw[e2,Array.append_assoc]⟩
 ·obtain⟨m,hn,hl⟩:=I.loc;refine⟨m,ns m hn,λi x v e1 e2 e3=>?_⟩;obtain⟨u,r,l⟩:=hl i x v e1 e2 e3;refine⟨u,r,?_⟩;rcases l with l|⟨k,c,e,z⟩
  ·exact .inl l
  ·exact .inr ⟨k,c,e,cellK x c e _ z⟩
 ·obtain⟨v,z⟩:=I.cell x c e;exact⟨v,cellK x c e v z⟩
 ·obtain⟨m,⟨o,_,_,ho,_⟩,_⟩:=I.loc;exact free _ o (λz=>(hch _ z).2.1 rfl) ho I.free
 ·obtain⟨v,o,ho,hd⟩:=I.cell x c e;exact free c o (λz=>(hch c z).2.2.1 x c e rfl) ho (I.freeC x c e)
 ·obtain⟨e,n,ne,nf,d⟩:=I.pin p hp;have nch:p.1∉ch:=λz=>(hch p.1 z).2.2.2 p hp rfl;exact⟨keep p.1 p.2 ne nf nch e n,free p.1 p.2 nch e n,ne,nf,d⟩
theorem eU.un{t':Nat}(I:eU X pins σ H s)(u:Un X.fs [] H H' s.heap h')(hok:mO X.prog X.w H' h'):eU X pins σ H' {s with heap:=h',toks:=t'}:=by
 obtain⟨m,⟨o,es,ep,ho,r⟩,_⟩:=id I.loc;obtain⟨sl,hL⟩:=u.any ho I.free (by simp);exact I.step (g':=s.gens) (d':=s.drawn) (ch:=[]) (λ_ z=>nomatch z) (λb o _ hb _ e n=>u.keep b o e n hb (by simp)) (λb o _ hb _ e n=>u.slot b o e n hb (by simp)) (λb o _ e n=>u.free b o e n (by simp)) (λb o _ e=>u.there b o e (by simp)) u.tups u.frzs u.tbls (λm' hm=>by
  obtain⟨o',es',ep',ho',r'⟩:=hm;rw[ho]at ho';cases ho';exact⟨_,es',ep',hL,r'⟩) hok I.bare
theorem eU.call{g':Array GenState}{t':Nat}{d':Drawn}{ch:List Addr}(I:eU X pins σ H s)(u:Un (yW X.stack) ch H H' s.heap h')(hok:mO X.prog X.w H' h')(hg:AllBare g')
  (hch:∀b∈ch,(b∈X.ex∨X.s₀.heap.objs.size≤b)∧b≠X.env.locals∧(∀x c,X.env.cells.lookup x=some c→c≠b)∧∀p∈X.pn++pins,p.1≠b):
  eU X pins σ H' {s with heap:=h',gens:=g',drawn:=d',toks:=t'}:=by
 obtain⟨m,⟨o,es,ep,ho,r⟩,_⟩:=id I.loc;obtain⟨sl,hL⟩:=u.any ho I.free λz=>(hch _ z).2.1 rfl;exact I.step (ch:=ch) hch (λb o hL hb hc e n=>u.keep b o e n (λz=>(aB.mp (I.stkSub b z)).elim hL hb) hc) (λb o _ _ hc e n=>u.any e n hc) (λb o hc e n=>u.free b o e n hc) (λb o hc e=>u.there b o e hc) u.tups u.frzs u.tbls (λm' hm=>by
  obtain⟨o',es',ep',ho',r'⟩:=hm;rw[ho]at ho';cases ho';exact⟨_,es',ep',hL,r'⟩) hok hg
theorem eU.turned{t':Nat}{it:Addr}(I:eU X pins σ H s)(k:∀b o,b≠it→s.heap.get? b=some o→h'.get? b=some o)(hn:H it=none)(hL:it≠X.env.locals)
  (h1:it∈X.ex∨X.s₀.heap.objs.size≤it) (h2:∀x c,X.env.cells.lookup x=some c→c≠it) (h3:∀p∈X.pn++pins,p.1≠it):eU X pins σ H {s with heap:=h',toks:=t'}:=by
 have nit:∀b u,H b=some u→b≠it:=λb u e z=>by rw[z,hn]at e;cases e
 refine I.step (g':=s.gens) (d':=s.drawn) (ch:=[it]) (λb hb=>?_) (λb o _ _ hc e _=>k b o (λz=>hc (by simp[z])) e) (λb o _ _ hc e _=>⟨o.slots,k b o (λz=>hc (by simp[z])) e⟩) (λ_ _ _ _ n=>n)
  (λb o hc e=>⟨o,k b o (λz=>hc (by simp[z])) e⟩) (λ_ _ e=>e) (λ_ _ _ e=>e) (λb ps e=>⟨#[],by rw[e];simp⟩) (λm hm=>?_) (λb u e=>?_) I.bare
 ·have e:b=it:=by simpa using hb
  subst e;exact⟨h1,hL,h2,h3⟩
 ·obtain⟨o,es,ep,ho,r⟩:=hm;exact⟨o,es,ep,k _ o (af hL) ho,r⟩
 ·refine(I.hok b u e).stay (λc v hc q=>k c v ?_ q) (λ_ q=>q) λ_ _ q=>q;rcases hc with z|z
  ·rw[z];exact nit b u e
  ·exact nit c _ z
theorem eU.tok(I:eU X pins σ H s)(t:Nat):eU X pins σ H {s with toks:=t}:=I.un (h':=s.heap) (t':=t) Un.refl I.hok
theorem eU.kept{t':Nat}(I:eU X pins σ H s)(k:∀b u,s.heap.get? b=some u→h'.get? b=some u):eU X pins σ H {s with heap:=h',toks:=t'}:=I.un (Un.kept k) (I.hok.kept k)
theorem eU.laid{a:Addr}{o:HO}{t':Nat}(I:eU X pins σ H s)(k:∀b u,s.heap.get? b=some u→h'.get? b=some u)(hp:s.heap.objs.size≤a)(new:gB X.prog X.w (upd H a o) h' a o):
  eU X pins σ (upd H a o) {s with heap:=h',toks:=t'}:=I.un (Un.laid k hp (I.hok.fresh hp)) (I.hok.laid k hp new)
theorem eU.write{x e:Addr}{o:HO}{t':Nat}(I:eU X pins σ H s)(mu:KA (H x))(he:e=x∨H e=some (.own x))(k:∀b u,b≠e→s.heap.get? b=some u→h'.get? b=some u)(heo:∃u,h'.get? e=some u)
  (new:gB X.prog X.w (upd H x o) h' x o):eU X pins σ (upd H x o) {s with heap:=h',toks:=t'}:=I.un (Un.write mu he k heo) (I.hok.write mu he k heo new)
theorem eU.pins_of{pins':List (Addr×Obj)}(I:eU X pins σ H s)(h:∀p∈pins',s.heap.get? p.1=some p.2∧H p.1=none∧p.1≠X.env.locals∧p.1∉X.fs∧∀v,p.2.data≠.cell v):eU X pins' σ H s:=
 ⟨I.ok,I.os,I.bare,I.base,I.loc,I.cell,I.free,I.freeC,λp hp=>(aV.mp hp).elim (λz=>I.pin p (ag _ z)) (h p),I.hok,I.len⟩
theorem uH{N:List Str}(hN:N.Nodup){i j:Nat}{x:Str}(a:N[i]?=some x)(b:N[j]?=some x):i=j:=by obtain⟨h1,e1⟩:=aO.mp a;obtain⟨h2,e2⟩:=aO.mp b;exact(List.getElem_inj hN).mp (e1.trans e2.symm)
theorem qf{M:Model}{A:Around}{E:Value→Shared→Prop}{i:Nat}{x:Str}{v:V}{u:Value}{Q:Unit→Shared→Prop}(I:eU X pins σ H s)(hN:X.N.Nodup)(hi:X.N[i]?=some x)(hx:D9 X.env.scope x)(r:fM v u)
  (h:∀s',eU X pins (σ.set i (some v)) H s'→(∃a,Heap.SameBut a s.heap s'.heap∧(a=X.env.locals∨X.env.cells.lookup x=some a))→Q () s') (hf:X.fn x=true∨X.env.scope.names.lookup x=some .local:=by first|exact .inl rfl|exact .inr rfl|assumption):wpAny M A (storeName X.env x u) Q E s:=by
 obtain⟨m,hn,hl⟩:=id I.loc;have hcls:(X.env.scope.kind==.class||(X.env.scope.kind==.module&&X.env.locals != X.env.globals))=false:=by rw[I.ok.kind];rfl
 have hiσ:i<σ.length:=by rw[I.len];exact(aO.mp hi).1
 have cne:=I.cne;have tracked:∀{a:Addr}{h':Heap},(∃o,s.heap.get? a=some o∧H a=none)→Heap.SameBut a s.heap h'→mO X.prog X.w H h':=λ{a h'} ha hs b ob e=>by
  obtain⟨_,_,hfree⟩:=ha;refine(I.hok b ob e).stay (λc w' hc q=>(hs.2 c ?_).trans q) (λ_ q=>q) λ_ _ q=>q;rintro rfl;rcases hc with rfl|hc
  ·rw[hfree]at e;cases e
  ·rw[hfree]at hc;cases hc
 rcases hx with hk|hk
 ·refine wpAny_storeName_local hk hn (λh' hn' hs=>?_) hcls;obtain⟨oL,_,_,hoL,_⟩:=id hn;refine h _ ⟨I.ok,I.os,I.bare,⟨λb o e n hb hx=>?_,λb o e n hb hx=>?_,I.base.free,λb o e hx=>?_,I.base.tups,I.base.frzs,I.base.tbls⟩,⟨_,hn',λj y v' e1 e2 e3=>?_⟩,λy c e=>?_,I.free,I.freeC,λp hp=>?_,tracked ⟨oL,hoL,I.free⟩ hs,by simpa using I.len⟩ ⟨_,hs,.inl rfl⟩
  ·exact(hs.2 b (aL (aX (Heap.lt_size e) I.ok.above))).trans (I.base.keep b o e n hb hx)
  ·obtain⟨sl,e1⟩:=I.base.slot b o e n hb hx;exact⟨sl,(hs.2 b (aL (aX (Heap.lt_size e) I.ok.above))).trans e1⟩
  ·obtain⟨o',e1⟩:=I.base.there b o e hx;exact⟨o',(hs.2 b (aL (aX (Heap.lt_size e) I.ok.above))).trans e1⟩
  ·by_cases hj:j=i
   ·subst hj;rw[hi]at e1;cases e1;rw[cp hiσ]at e2;cases e2;exact⟨u,r,.inl ⟨hk,by simp⟩⟩
   ·rw[cq (af hj)]at e2;obtain⟨u',r',q⟩:=hl j y v' e1 e2 e3;refine⟨u',r',?_⟩;rcases q with⟨k,e⟩|⟨k,c,e,z⟩
    ·refine .inl ⟨k,?_⟩;have:y≠x:=λe=>hj (uH hN e1 (e▸hi));simp[this,e]
    ·exact .inr ⟨k,c,e,z.sameBut hs (cne y c e)⟩
  ·obtain⟨w',z⟩:=I.cell y c e;exact⟨w',z.sameBut hs (cne y c e)⟩
  ·obtain⟨e,n,ne,nf,d⟩:=I.pin p hp;exact⟨(hs.2 p.1 ne).trans e,n,ne,nf,d⟩
 ·have hfn:X.fn x=true:=by
   rcases hf with z|z
   ·exact z
   ·rw[z]at hk;cases hk
  obtain⟨c,hc⟩:=I.ok.has x (.inl hk);obtain⟨w',z⟩:=I.cell x c hc;refine wpAny_storeName_cell I.ok.kind hk hc z (λh' hc' hs=>?_);obtain⟨oc,hoc,hocd⟩:=id z;refine h {s with heap:=h'} ⟨I.ok,I.os,I.bare,⟨λb o e n hb hx=>?_,λb o e n hb hx=>?_,I.base.free,λb o e hx=>?_,I.base.tups,I.base.frzs,I.base.tbls⟩,⟨m,hn.sameBut hs (af (cne x c hc)),λj y v' e1 e2 e3=>?_⟩,λy c' e=>?_,I.free,I.freeC,λp hp=>?_,tracked ⟨oc,hoc,I.freeC x c hc⟩ hs,by simpa using I.len⟩ ⟨c,hs,.inr hc⟩
  ·exact(hs.2 b (aL (aX (Heap.lt_size e) (I.ok.cab x c hfn hc)))).trans (I.base.keep b o e n hb hx)
  ·obtain⟨sl,e1⟩:=I.base.slot b o e n hb hx;exact⟨sl,(hs.2 b (aL (aX (Heap.lt_size e) (I.ok.cab x c hfn hc)))).trans e1⟩
  ·obtain⟨o',e1⟩:=I.base.there b o e hx;exact⟨o',(hs.2 b (aL (aX (Heap.lt_size e) (I.ok.cab x c hfn hc)))).trans e1⟩
  ·by_cases hj:j=i
   ·subst hj;rw[hi]at e1;cases e1;rw[cp hiσ]at e2;cases e2;exact⟨u,r,.inr ⟨.inl hk,c,hc,hc'⟩⟩
   ·rw[cq (af hj)]at e2;obtain⟨u',r',q⟩:=hl j y v' e1 e2 e3;refine⟨u',r',?_⟩;rcases q with q|⟨k,c',e,z'⟩
    ·exact .inl q
    ·refine .inr ⟨k,c',e,z'.sameBut hs ?_⟩;rintro rfl;exact hj (uH hN e1 (I.ok.inj _ _ _ e hc▸hi))
  ·by_cases hcc:c'=c
   ·subst hcc;exact⟨_,hc'⟩
   ·obtain⟨w2,z2⟩:=I.cell y c' e;exact⟨w2,z2.sameBut hs hcc⟩
  ·obtain⟨e,n,ne,nf,d⟩:=I.pin p hp;refine⟨(hs.2 p.1 ?_).trans e,n,ne,nf,d⟩;intro q;rw[q,hoc]at e;have q':oc=p.2:=Option.some.inj e;exact d w' (by rw[←q'];exact hocd)
theorem tT{M:Model}{A:Around}{E:Value→Shared→Prop}{i:Nat}{x:Str}{v:V}{u:Value}{Q:Unit→Shared→Prop}(I:eU X pins σ H s)(hN:X.N.Nodup)(hi:X.N[i]?=some x)(hx:D9 X.env.scope x)(r:fM v u)
  (h:∀s',eU X pins (σ.set i (some v)) H s'→Q () s') (hf:X.fn x=true∨X.env.scope.names.lookup x=some .local:=by first|exact .inl rfl|exact .inr rfl|assumption):wpAny M A (storeName X.env x u) Q E s:=
 qf I hN hi hx r (λs' I' _=>h s' I') hf
theorem eU.call'{s':Shared}{ch:List Addr}(I:eU X pins σ H s)(ho:s'.os=s.os)(u:Un (yW X.stack) ch H H' s.heap s'.heap)(hok:mO X.prog X.w H' s'.heap)(hg:AllBare s'.gens)
  (hch:∀b∈ch,(b∈X.ex∨X.s₀.heap.objs.size≤b)∧b≠X.env.locals∧(∀x c,X.env.cells.lookup x=some c→c≠b)∧∀p∈X.pn++pins,p.1≠b):eU X pins σ H' s':=by
 obtain⟨h',g',d',t',o'⟩:=s';have e:o'=s.os:=ho;subst e;exact I.call (g':=g') (t':=t') (d':=d') u hok hg hch
end
abbrev XK:=Value→Option Addr→Hp→Prop
abbrev St:=List (Option V)
abbrev VK:=V→Hp→Prop
abbrev TE:=St→Hp→VK→Prop
abbrev TT:=St→Hp→(Bool→Hp→Prop)→Prop
abbrev TA:=St→Hp→(List V→Hp→Prop)→Prop
structure iz where
 nx:St→Hp→Prop
 rt:VK
 bk:St→Hp→Prop:=λ_ _=>False
 ct:St→Hp→Prop:=λ_ _=>False
abbrev TS:=iz→St→Hp→Prop
def iz.thn(D:iz)(u:TS):iz:={D with nx:=u D}
def iz.lp(D:iz)(N:St→Hp→Prop):iz:=⟨N,D.rt,D.nx,N⟩
def EP(X:Cx)(pins:List (Addr×Obj))(σ:St)(Q:VK)(u:Value)(s':Shared):Prop:=∃v H',eU X pins σ H' s'∧fM v u∧Q v H'
def TP(X:Cx)(pins:List (Addr×Obj))(σ:St)(Q:Bool→Hp→Prop)(b:Bool)(s':Shared):Prop:=∃H',eU X pins σ H' s'∧Q b H'
def AP(X:Cx)(pins:List (Addr×Obj))(σ:St)(Q:List V→Hp→Prop)(us:List Value)(s':Shared):Prop:=∃vs H',eU X pins σ H' s'∧fG vs us∧Q vs H'
def SP(X:Cx)(pins:List (Addr×Obj))(D:iz)(f:Flow)(s':Shared):Prop:=
 match f with
 | .next=>∃σ' H',eU X pins σ' H' s'∧D.nx σ' H'
 | .brk=>∃σ' H',eU X pins σ' H' s'∧D.bk σ' H'
 | .cont=>∃σ' H',eU X pins σ' H' s'∧D.ct σ' H'
 | .ret u=>∃v σ' H',eU X pins σ' H' s'∧fM v u∧D.rt v H'
def PE(X:Cx)(e:Expr)(t:TE):Prop:=
 ∀(pins:List (Addr×Obj))(s:Shared)(σ:St)(H:Hp)(Q:VK),eU X pins σ H s→t σ H Q→wpAny (model X.prog X.w) X.A (eval e X.env) (EP X pins σ Q) X.xe s
def PT(X:Cx)(e:Expr)(t:TT):Prop:=
 ∀(pins:List (Addr×Obj))(s:Shared)(σ:St)(H:Hp)(Q:Bool→Hp→Prop),eU X pins σ H s→t σ H Q→wpAny (model X.prog X.w) X.A (isTrue e X.env (eval e X.env)) (TP X pins σ Q) X.xe s
def PW(X:Cx)(e:Expr)(t:TT):Prop:=
 ∀(whole:Sem Value)(pins:List (Addr×Obj))(s:Shared)(σ:St)(H:Hp)(Q:Bool→Hp→Prop),eU X pins σ H s→t σ H Q→wpAny (model X.prog X.w) X.A (isTrue e X.env whole) (TP X pins σ Q) X.xe s
theorem PW.pt{X:Cx}{e:Expr}{t:TT}(h:PW X e t):PT X e t:=h _
def PA(X:Cx)(es:List Expr)(t:TA):Prop:=
 ∀(pos:Pos)(pins:List (Addr×Obj))(s:Shared)(σ:St)(H:Hp)(Q:List V→Hp→Prop),eU X pins σ H s→t σ H Q→wpAny (model X.prog X.w) X.A (spliced (backTo pos (starEach es X.env))) (AP X pins σ Q) X.xe s
def PS(X:Cx)(st:Stmt)(t:TS):Prop:=
 ∀(pins:List (Addr×Obj))(s:Shared)(σ:St)(H:Hp)(D:iz),eU X pins σ H s→t D σ H→wpAny (model X.prog X.w) X.A (exec st X.env) (SP X pins D) X.xe s
def sy(X:Cx)(st:List Stmt)(t:TS):Prop:=
 ∀(pins:List (Addr×Obj))(s:Shared)(σ:St)(H:Hp)(D:iz),eU X pins σ H s→t D σ H→wpAny (model X.prog X.w) X.A (execs st X.env) (SP X pins D) X.xe s
theorem thn{α:Type}{t:Sem α}{Q Q':α→Shared→Prop}{M:Model}{A:Around}{E:Value→Shared→Prop}{s:Shared}(h:wpAny M A t Q E s)(hQ:∀a s,Q a s→Q' a s):wpAny M A t Q' E s:=wpAny_mono h hQ λ_ _ x=>x
end L2
namespace L2
open PySem PySem.Spec PyProof.Rows
section
variable {X:Cx}
def ku(H:Hp)(o:HO)(Q:VK):Prop:=∀p,H p=none→Q (.ref p) (upd H p o)
@[reducible] def nmQ:Option (Option V)→(V→Prop)→Prop
 | some (some v),k=>k v
 | _,_=>False
theorem nmQ.ex{o:Option (Option V)}{k:V→Prop}(h:nmQ o k):∃v,o=some (some v)∧k v:=by
 match o,h with
 | some (some v),h=>exact⟨v,rfl,h⟩
@[reducible] def onI:V→(Int→Prop)→Prop
 | .int c,k=>k c
 | _,_=>False
theorem onI.ex{x:V}{k:Int→Prop}(h:onI x k):∃c,x=.int c∧k c:=by cases x<;>first|exact⟨_,rfl,h⟩|exact h.elim
@[reducible] def onR:V→(Addr→Prop)→Prop
 | .ref c,k=>k c
 | _,_=>False
theorem onR.ex{x:V}{k:Addr→Prop}(h:onR x k):∃c,x=.ref c∧k c:=by cases x<;>first|exact⟨_,rfl,h⟩|exact h.elim
def dN(i:Nat):TE:=λσ H Q=>nmQ σ[i]? λv=>Q v H
def tC(v:V):TE:=λ_ H Q=>Q v H
theorem Ai{i:Nat}{x:Str}{pos:Pos}(hN:X.N[i]?=some x)(hv:KW X.env.scope x)(hd:(x==("__debug__":Str))=false:=by decide)(hcd:(x==("__classdict__":Str))=false:=by decide):PE X (.Name x pos) (dN i):=by
 intro pins s σ H Q I h;obtain⟨v,e,h⟩:=nmQ.ex h;obtain⟨m,hn,hl⟩:=I.loc;obtain⟨u,r,l⟩:=hl i x v hN e hv;have gi:EP X pins σ Q u s:=⟨v,H,I,r,h⟩;rcases l with⟨hk,hm⟩|⟨hk,c,hc,hcell⟩
 ·exact wpAny_Name (wpAny_loadName_local I.ok.kind hk hn hm gi) hd
 ·rcases hk with hk|hk
  ·exact wpAny_Name (wpAny_loadName_cell I.ok.kind hk hc hcell gi) hd
  ·exact wpAny_Name (wpAny_loadName_free I.ok.kind hk hc hcell gi hcd) hd
theorem dQ{i j pos}:PE X (.Constant (.int i) j pos) (tC (.int i)):=λ_ _ _ H _ I h=>wpAny_Constant_int ⟨.int i,H,I.tok _,⟨_,rfl⟩,h⟩
theorem gJ{b j pos}:PE X (.Constant (.bool b) j pos) (tC (.bl b)):=λ_ _ _ H _ I h=>Constant_bool ⟨.bl b,H,I,rfl,h⟩
theorem qA{j pos}:PE X (.Constant .none j pos) (tC .non):=λ_ _ _ H _ I h=>Constant_none ⟨.non,H,I,rfl,h⟩
theorem eB{x j pos}:PE X (.Constant (.str x) j pos) (tC (.str x)):=λ_ _ _ H _ I h=>Calls.Constant_str ⟨.str x,H,I.tok _,⟨_,rfl⟩,h⟩
def Gl(X:Cx)(x:Str):Prop:=X.env.kindOf x=some .globalImplicit
theorem sJ{E:Value→Shared→Prop}{pins:List (Addr×Obj)}{s:Shared}{σ:St}{H:Hp}{x:Str}{u:Value}{pos:Pos}{Q:Value→Shared→Prop}(I:eU X pins σ H s)(hg:Gl X x)(hm:X.mg x=some u)(h:Q u s)
  (hd:(x==("__debug__":Str))=false:=by decide):wpAny (model X.prog X.w) X.A (eval (.Name x pos) X.env) Q E s:=
 Calls.Name_function_global I.ok.kind hg (Calls.loadGlobal_global (by rw[I.ok.glob];exact I.mod.glob.keeps I.bk) hm h) hd
theorem jw{E:Value→Shared→Prop}{pins:List (Addr×Obj)}{s:Shared}{σ:St}{H:Hp}{x:Str}{u:Value}{pos:Pos}{Q:Value→Shared→Prop}(I:eU X pins σ H s)(hg:Gl X x)(hm:X.mg x=none)(hv:bootBuiltins x=some u)(h:Q u s)
  (hn:x≠"__name__":=by decide) (hd:(x==("__debug__":Str))=false:=by decide):wpAny (model X.prog X.w) X.A (eval (.Name x pos) X.env) Q E s:=by
 obtain⟨mb,h1,h2⟩:=I.mod.blt;exact Calls.Name_function_global I.ok.kind hg (Calls.loadGlobal_builtin (by rw[I.ok.glob];exact I.mod.glob.keeps I.bk) hm (by rw[I.ok.blt];exact h1.keeps I.bk) ((h2 x hn).trans hv) h) hd
theorem lR{x:Str}{v:V}{u:Value}{pos:Pos}(hg:Gl X x)(hm:X.mg x=some u)(r:fM v u)(hd:(x==("__debug__":Str))=false:=by decide):PE X (.Name x pos) (tC v):=
 λ_ _ _ H _ I h=>sJ I hg hm ⟨v,H,I,r,h⟩ hd
theorem fq{x:Str}{v:V}{u:Value}{pos:Pos}(hg:Gl X x)(hm:X.mg x=none)(hv:bootBuiltins x=some u)(r:fM v u)(hn:x≠"__name__":=by decide)(hd:(x==("__debug__":Str))=false:=by decide):PE X (.Name x pos) (tC v):=
 λ_ _ _ H _ I h=>jw I hg hm hv ⟨v,H,I,r,h⟩ hn hd
variable {a b:Expr}{ta tb:TE}{pos:Pos}
def PC(X:Cx)(op:CmpOp)(a b:Expr)(t:TE):Prop:=
 ∀(pins:List (Addr×Obj))(s:Shared)(σ:St)(H:Hp)(Q:VK),eU X pins σ H s→t σ H Q→
  wpAny (model X.prog X.w) X.A (eval a X.env) (λv s₁=>wpAny (model X.prog X.w) X.A (eval b X.env) (λu s₂=>wpAny (model X.prog X.w) X.A (compareOp op v u) (EP X pins σ Q) X.xe s₂) X.xe s₁) X.xe s
def tB(t:TE):TT:=λσ H Q=>t σ H λx H1=>∃c,x=.bl c∧Q c H1
theorem mH{op:CmpOp}{t:TE}(h:PC X op a b t)(h1:behindInMarks op b=false:=by first|exact nobehind _ (by decide) (by decide)|rfl):PT X (.Compare a [op] [b] pos) (tB t):=by intro pins s σ H Q I hw;refine wpAny_isTrue_Compare1 (thn (h pins s σ H _ I hw) λv s1 h1=>thn h1 λu s2 h2=>thn h2 λc s3 ⟨x,H1,I1,r1,q1⟩=>?_) h1;obtain⟨d,rfl,q⟩:=q1;cases r1;exact wpAny_truthy_bool ⟨H1,I1,q⟩
theorem gW{e:Expr}{t:TE}(h:PE X e t)(he:∀whole,isTrue e X.env whole=(do let v ← whole;standAt e.pos;holding [v] (truthy v)):=by intro _;rfl):PT X e (tB t):=by intro pins s σ H Q I hw;refine isTrue_plain (thn (h pins s σ H _ I hw) λv s1 ⟨x,H1,I1,r1,q1⟩=>?_) (he _);obtain⟨d,rfl,q⟩:=q1;cases r1;exact wpAny_truthy_bool ⟨H1,I1,q⟩
variable {tA tB':TT}{rest:List Expr}
def kq(t u:TT):TT:=λσ H Q=>t σ H λc H1=>if c=true then u σ H1 Q else Q false H1
def tG(t u:TT):TT:=λσ H Q=>t σ H λc H1=>if c=true then Q true H1 else u σ H1 Q
def ko(t:TT):TT:=λσ H Q=>t σ H λc H1=>Q (!c) H1
theorem hZ(ha:PT X a tA):PW X (.BoolOp .And [a] pos) tA:=by
 intro wh pins s σ H Q I h;refine isTrue_and (thn (ha pins s σ H Q I h) λc s1 e=>?_);cases c with
 | true=>exact isTrue_and_nil e
 | false=>exact e
theorem jc(ha:PT X a tA):PW X (.BoolOp .Or [a] pos) tA:=by
 intro wh pins s σ H Q I h;refine isTrue_or (thn (ha pins s σ H Q I h) λc s1 e=>?_);cases c with
 | false=>exact isTrue_or_nil e
 | true=>exact e
theorem iR(ha:PT X a tA)(hb:PW X (.BoolOp .And (b::rest) pos) tB'):PW X (.BoolOp .And (a::b::rest) pos) (kq tA tB'):=by
 intro wh pins s σ H Q I h;refine isTrue_and (thn (ha pins s σ H _ I h) λc s1 ⟨H1,I1,q1⟩=>?_);cases c with
 | true=>exact hb wh pins s1 σ H1 Q I1 q1
 | false=>exact⟨H1,I1,q1⟩
theorem jK(ha:PT X a tA)(hb:PW X (.BoolOp .Or (b::rest) pos) tB'):PW X (.BoolOp .Or (a::b::rest) pos) (tG tA tB'):=by
 intro wh pins s σ H Q I h;refine isTrue_or (thn (ha pins s σ H _ I h) λc s1 ⟨H1,I1,q1⟩=>?_);cases c with
 | true=>exact⟨H1,I1,q1⟩
 | false=>exact hb wh pins s1 σ H1 Q I1 q1
theorem iJ(ha:PT X a tA):PT X (.UnaryOp .Not a pos) (ko tA):=by intro pins s σ H Q I h;exact isTrue_not (ha pins s σ H (λc H1=>Q (!c) H1) I h)
def zv(ta tb:TE):TE:=λσ H Q=>ta σ H λx H1=>∃c,x=.bl c∧if c=true then tb σ H1 Q else Q (.bl false) H1
def EI(ta:TE):TE:=λσ H Q=>ta σ H λx H1=>∃c,x=.bl c∧Q (.bl (!c)) H1
theorem Aj{op}{t:TE}(h:PE X a t):PE X (.BoolOp op [a] pos) t:=λpins s σ H Q I hw=>BoolOp_one (h pins s σ H Q I hw)
theorem Ak(ha:PE X a ta)(hb:PE X (.BoolOp .And (b::rest) pos) tb):PE X (.BoolOp .And (a::b::rest) pos) (zv ta tb):=by
 intro pins s σ H Q I h;refine BoolOp_and (thn (ha pins s σ H _ I h) λv s1 ⟨x,H1,I1,r1,q1⟩=>?_);obtain⟨c,rfl,q1⟩:=q1;cases r1;refine wpAny_truthy_bool ?_;cases c with
 | true=>exact hb pins s1 σ H1 Q I1 q1
 | false=>exact⟨.bl false,H1,I1,rfl,q1⟩
theorem Gr(ha:PE X a ta):PE X (.UnaryOp .Not a pos) (EI ta):=by intro pins s σ H Q I h;refine UnaryOp_ (thn (ha pins s σ H _ I h) λv s1 ⟨x,H1,I1,r1,q1⟩=>?_);obtain⟨c,rfl,q1⟩:=q1;cases r1;exact not_of (wpAny_truthy_bool ⟨.bl (!c),H1,I1,rfl,q1⟩)
end
end L2
namespace L2
open PySem PySem.Spec PyProof.Rows
def eK(K:aA)(H:Hp)(a:Addr)(xs:List V):Prop:=
 Rd H a (.lst xs)∨
  ∃(o:Obj)(its:Array Value)(n:Nat),K.lookup a=some o∧o.cls=.type "list"∧o.dict=none∧o.data=.seq its n∧its.size≤sizeLine∧fG xs its.toList
def eC(K:aA)(H:Hp)(a:Addr)(xs:List V):Prop:=
 Rd H a (.tup xs)∨
  ∃(o:Obj)(its:Array Value)(n:Nat),K.lookup a=some o∧o.cls=.type "tuple"∧o.data=.seq its n∧its.size≤sizeLine∧fG xs its.toList
def Lz:Value→Option V
 | .none=>some .non
 | .bool b=>some (.bl b)
 | .int i _=>some (.int i)
 | .str x _=>some (.str x)
 | .bytes b _=>some (.byt b)
 | .float b _=>some (.flt b)
 | .ref a=>some (.ref a)
 | .type n=>some (.ty n)
 | _=>none
theorem fM.abs{x:V}{u:Value}(r:fM x u):Lz u=some x:=by
 cases x with
 | non=>cases r;rfl
 | bl _=>cases r;rfl
 | int _=>obtain⟨t,rfl⟩:=r;rfl
 | str _=>obtain⟨t,rfl⟩:=r;rfl
 | byt _=>obtain⟨t,rfl⟩:=r;rfl
 | flt _=>obtain⟨t,rfl⟩:=r;rfl
 | ref _=>cases r;rfl
 | ty _=>cases r;rfl
theorem fM.inj{x y:V}{u:Value}(r:fM x u)(q:fM y u):x=y:=Option.some.inj (r.abs.symm.trans q.abs)
theorem fG.inj:∀{xs ys:List V}{us:List Value},fG xs us→fG ys us→xs=ys
 | _,_,_,.nil,.nil=>rfl
 | _,_,_,.cons r t,.cons r' t'=>by rw[r.inj r',fG.inj t t']
section
variable {X:Cx}{pins:List (Addr×Obj)}{σ:St}{H:Hp}{s:Shared}{a:Addr}{xs ys:List V}
theorem eK.of{K:aA}(h:H a=some (.lst xs)):eK K H a xs:=.inl (.inl h)
theorem eC.of{K:aA}(h:H a=some (.tup xs)):eC K H a xs:=.inl (.inl h)
theorem eU.list(I:eU X pins σ H s)(h:eK X.K H a xs):∃its:List Value,fG xs its∧PlainL s.heap a its.toArray∧xs.length≤sizeLine:=by
 rcases h with h|⟨o,its,n,hk,hc,hd,hs,hz,r⟩
 ·obtain⟨z,its,n,r,e⟩:=h.ok I.hok;exact⟨its,r,⟨_,n,e,rfl,rfl,rfl⟩,z⟩
 ·refine⟨its.toList,r,⟨o,n,I.kIn a o hk,hc,hd,by simpa using hs⟩,?_⟩;have e:=r.length;simp only[bo]at e;lia
theorem eU.tuple(I:eU X pins σ H s)(h:eC X.K H a xs):∃its:List Value,fG xs its∧IsTup s.heap a its.toArray∧xs.length≤sizeLine:=by
 rcases h with h|⟨o,its,n,hk,hc,hs,hz,r⟩
 ·obtain⟨z,its,r,p⟩:=h.ok I.hok;exact⟨its,r,p,z⟩
 ·refine⟨its.toList,r,⟨o,I.kIn a o hk,hc,n,by simpa using hs⟩,?_⟩;have e:=r.length;simp only[bo]at e;lia
theorem eU.list_inj(I:eU X pins σ H s)(h:eK X.K H a xs)(h':eK X.K H a ys):xs=ys:=by
 obtain⟨its,r,⟨o,n,e,_,_,d⟩,_⟩:=I.list h;obtain⟨its',r',⟨o',n',e',_,_,d'⟩,_⟩:=I.list h';rw[e]at e';cases e';rw[d]at d';injection d' with d1 _;have:its=its':=by simpa using congrArg Array.toList d1
 subst this;exact r.inj r'
theorem eU.tuple_inj(I:eU X pins σ H s)(h:eC X.K H a xs)(h':eC X.K H a ys):xs=ys:=by
 obtain⟨its,r,⟨o,e,_,n,d⟩,_⟩:=I.tuple h;obtain⟨its',r',⟨o',e',_,n',d'⟩,_⟩:=I.tuple h';rw[e]at e';cases e';rw[d]at d';injection d' with d1 _;have:its=its':=by simpa using congrArg Array.toList d1
 subst this;exact r.inj r'
end
abbrev Cx.wish(X:Cx)(E:Value→Shared→Prop):Cx:={X with xe:=E}
abbrev Cx.nox(X:Cx):Cx:=X.wish λ_ _=>False
theorem Cx.Ok.wish{X:Cx}(ok:X.Ok)(E:Value→Shared→Prop):(X.wish E).Ok:=
 ⟨ok.mod,ok.kind,ok.glob,ok.blt,ok.above,ok.inj,ok.has,ok.cab,ok.hd,ok.frames,ok.stk,ok.exf,ok.bs,ok.bsz,ok.noex,ok.exfs,ok.funs,ok.frf⟩
theorem Cx.Ok.unwish{X:Cx}{E:Value→Shared→Prop}(ok:(X.wish E).Ok):X.Ok:=
 ⟨ok.mod,ok.kind,ok.glob,ok.blt,ok.above,ok.inj,ok.has,ok.cab,ok.hd,ok.frames,ok.stk,ok.exf,ok.bs,ok.bsz,ok.noex,ok.exfs,ok.funs,ok.frf⟩
section
variable {X:Cx}{pins:List (Addr×Obj)}{σ:St}{H:Hp}{s:Shared}{E:Value→Shared→Prop}
theorem eU.wish(I:eU X pins σ H s)(E:Value→Shared→Prop):eU (X.wish E) pins σ H s:=⟨I.ok.wish E,I.os,I.bare,I.base,I.loc,I.cell,I.free,I.freeC,I.pin,I.hok,I.len⟩
theorem eU.unwish(I:eU (X.wish E) pins σ H s):eU X pins σ H s:=⟨I.ok.unwish,I.os,I.bare,I.base,I.loc,I.cell,I.free,I.freeC,I.pin,I.hok,I.len⟩
theorem SP.unwish{D:iz}{f:Flow}{s':Shared}(h:SP (X.wish E) pins D f s'):SP X pins D f s':=by
 cases f with
 | next=>obtain⟨σ',H',I,q⟩:=h;exact⟨σ',H',I.unwish,q⟩
 | brk=>obtain⟨σ',H',I,q⟩:=h;exact⟨σ',H',I.unwish,q⟩
 | cont=>obtain⟨σ',H',I,q⟩:=h;exact⟨σ',H',I.unwish,q⟩
 | ret u=>obtain⟨v,σ',H',I,r,q⟩:=h;exact⟨v,σ',H',I.unwish,r,q⟩
theorem sy.nox{st:List Stmt}{t:TS}(h:sy X.nox st t):sy X st t:=λpins s σ H D I hw=>
 wpAny_mono (h pins s σ H D (I.wish _) hw) (λ_ _ q=>q.unwish) λ_ _ z=>False.elim z
end
section
variable {X:Cx}{st:Stmt}{rest:List Stmt}{t u:TS}{e:Expr}{te:TE}{pos:Pos}
def fN:TS:=λD σ H=>D.nx σ H
def de(t u:TS):TS:=λD σ H=>t (D.thn u) σ H
theorem eN:sy X [] fN:=λ_ _ σ H _ I h=>wpAny_execs_nil ⟨σ,H,I,h⟩
theorem dP(h1:PS X st t)(h2:sy X rest u):sy X (st::rest) (de t u):=by
 intro pins s σ H D I h;refine wpAny_execs_cons (thn (h1 pins s σ H (D.thn u) I h) λf s1 q=>?_);cases f with
 | next=>obtain⟨σ',H',I',q⟩:=q;exact h2 pins s1 σ' H' D I' q
 | ret v=>exact q
 | brk=>exact q
 | cont=>exact q
theorem dS(h1:PS X st t):sy X [st] t:=by
 intro pins s σ H D I h;refine wpAny_execs_cons (thn (h1 pins s σ H D I h) λf s1 q=>?_);cases f with
 | next=>exact wpAny_execs_nil q
 | ret v=>exact q
 | brk=>exact q
 | cont=>exact q
theorem eU.quiet{pins:List (Addr×Obj)}{σ:St}{H:Hp}{s:Shared}(I:eU X pins σ H s):interactive X.env=false:=by simp[interactive,I.ok.kind]
def fQ(te:TE):TS:=λD σ H=>te σ H λ_ H1=>D.nx σ H1
theorem eP(he:PE X e te)(hs:swapsWith e none pos.line X.env=pure false:=by rfl):PS X (.Expr e pos) (fQ te):=by intro pins s σ H D I h;exact wpAny_Expr_any (thn (he pins s σ H _ I h) λv s1 ⟨x,H1,I1,r1,q1⟩=>⟨σ,H1,I1,q1⟩) I.quiet hs
def fI(te:TE):TS:=λD σ H=>te σ H D.rt
theorem eJ(he:PE X e te):PS X (.Return (some e) pos) (fI te):=by intro pins s σ H D I h;exact wpAny_Return_some (thn (he pins s σ H _ I h) λv s1 ⟨x,H1,I1,r1,q1⟩=>⟨x,σ,H1,I1,r1,q1⟩)
def fW(c:TT)(t u:TS):TS:=λD σ H=>c σ H λb H1=>if b=true then t D σ H1 else u D σ H1
theorem eZ{c:Expr}{a b:List Stmt}{tc:TT}(hc:PT X c tc)(ha:sy X a t)(hb:sy X b u):PS X (.If c a b pos) (fW tc t u):=by
 intro pins s σ H D I h;refine wpAny_If (thn (hc pins s σ H _ I h) λd s1 ⟨H1,I1,q1⟩=>?_);cases d with
 | true=>exact ha pins s1 σ H1 D I1 q1
 | false=>exact hb pins s1 σ H1 D I1 q1
def uy:TS:=λ_ _ _=>False
theorem uC:PS X st uy:=λ_ _ _ _ _ _ h=>h.elim
end
abbrev TG:=V→St→Hp→(St→Hp→Prop)→Prop
abbrev Hv:=List V→St→Hp→(St→Hp→Prop)→Prop
def PG(X:Cx)(target:Expr)(t:TG):Prop:=
 ∀(pins:List (Addr×Obj))(s:Shared)(σ:St)(H:Hp)(v:V)(u:Value)(Q:St→Hp→Prop),eU X pins σ H s→fM v u→t v σ H Q→
  wpAny (model X.prog X.w) X.A (assign target X.env u) (λ_ s'=>∃σ' H',eU X pins σ' H' s'∧Q σ' H') X.xe s
def Ka(X:Cx)(ts:List Expr)(t:Hv):Prop:=
 ∀(pins:List (Addr×Obj))(s:Shared)(σ:St)(H:Hp)(vs:List V)(us:List Value)(Q:St→Hp→Prop),eU X pins σ H s→fG vs us→t vs σ H Q→
  wpAny (model X.prog X.w) X.A (assignInOrder ((assignEach ts X.env).map (·.2)) us) (λ_ s'=>∃σ' H',eU X pins σ' H' s'∧Q σ' H') X.xe s
abbrev Hu:=V→V→V→Hp→(Hp→Prop)→Prop
def J7(X:Cx)(t:Hu):Prop:=
 ∀(pins:List (Addr×Obj))(s:Shared)(σ:St)(H:Hp)(o i v:V)(ov iv u:Value)(Q:Hp→Prop),eU X pins σ H s→fM o ov→fM i iv→fM v u→t o i v H Q→
  wpAny (model X.prog X.w) X.A (setItem ov iv u) (λ_ s'=>∃H',eU X pins σ H' s'∧Q H') X.xe s
section
variable {X:Cx}{pos:Pos}
def dX(i:Nat):TG:=λv σ H Q=>Q (σ.set i (some v)) H
theorem lQ{i:Nat}{x:Str}(hN:X.N.Nodup)(hi:X.N[i]?=some x)(hx:D9 X.env.scope x)(hf:X.fn x=true∨X.env.scope.names.lookup x=some .local:=by first|exact .inl rfl|exact .inr rfl|assumption):PG X (.Name x pos) (dX i):=by intro pins s σ H v u Q I r h;exact wpAny_assign_Name (tT I hN hi hx r (λs' I'=>⟨_,H,I',h⟩) hf)
def lZ:Hv:=λvs σ H Q=>vs=[]∧Q σ H
def gF(t:TG)(u:Hv):Hv:=λvs σ H Q=>∃v r,vs=v::r∧t v σ H λσ' H'=>u r σ' H' Q
theorem iq:Ka X [] lZ:=by intro pins s σ H vs us Q I r h;obtain⟨e,h⟩:=h;subst e;cases r;exact assignInOrder_nil ⟨σ,H,I,h⟩
theorem fJ{e:Expr}{es:List Expr}{t:TG}{u:Hv}(h1:PG X e t)(h2:Ka X es u)
  (hs:(assignEach (e::es) X.env).map (·.2)=assign e X.env::(assignEach es X.env).map (·.2):=by rfl):Ka X (e::es) (gF t u):=by
 intro pins s σ H vs us Q I r h;obtain⟨v,vr,e1,h⟩:=h;subst e1;cases r with
 | cons r rr=>rw[hs];refine assignInOrder_cons (thn (h1 pins s σ H _ _ _ I r h) λ_ s1 ⟨σ1,H1,I1,q1⟩=>?_);exact h2 pins s1 σ1 H1 _ _ Q I1 rr q1
def lY(K:aA)(n:Nat)(t:Hv):TG:=λv σ H Q=>∃a xs,v=.ref a∧eC K H a xs∧xs.length=n∧t xs σ H Q
theorem jd{es:List Expr}{k:Nat}{t:Hv}{n:Nat}(hc:X.calm=true)(h:Ka X es t)
  (hn:(assignEach es X.env).length=n:=by rfl) (hst:(assignEach es X.env).findIdx? (·.1)=none:=by rfl):PG X (.Tuple es k pos) (lY X.K n t):=by
 intro pins s σ H v u Q I r hw;obtain⟨a,xs,e1,hq,hl,hw⟩:=hw;subst e1;cases r;obtain⟨its,rv,ht,hz⟩:=I.tuple hq;refine assign_Tuple_tuple (I.ok.hd hc) ht (by simp[hn,←hl,rv.length]) hst λh' hx=>?_;have I1:eU X pins σ H {s with heap:=h'}:=I.kept (t':=s.toks) λb o e=>hx b o (aL (Heap.lt_size e)) e;exact h pins _ σ H xs _ Q I1 (by simpa using rv) hw
def Jt(to ti:TE)(t:Hu):TG:=λv σ H Q=>to σ H λo H1=>ti σ H1 λi H2=>t o i v H2 λH3=>Q σ H3
theorem Gq{o i:Expr}{to ti:TE}{t:Hu}(ho:PE X o to)(hi:PE X i ti)(hs:J7 X t)
  (ha:∀v,assign (.Subscript o i pos) X.env v=(do
   let ov ← holding [v] (eval o X.env)
   let iv ← holding [v,ov] (eval i X.env)
   standAt pos
   holding [v,ov,iv] (setItem ov iv v)
   release [v,ov,iv] []):=by intro _;rfl):PG X (.Subscript o i pos) (Jt to ti t):=by
 intro pins s σ H v u Q I r h;rw[ha];refine wpAny_bind (wpAny_holding (thn (ho pins s σ H _ I h) λov s1 ⟨x,H1,I1,r1,q1⟩=>?_));refine wpAny_bind (wpAny_holding (thn (hi pins s1 σ H1 _ I1 q1) λiv s2 ⟨y,H2,I2,r2,q2⟩=>?_));refine wpAny_bind (wpAny_standAt (wpAny_bind (wpAny_holding (thn (hs pins s2 σ H2 x y v ov iv u _ I2 r1 r2 r q2) λ_ s3 ⟨H3,I3,q3⟩=>?_))));exact wpAny_release ⟨σ,H3,I3,q3⟩
def eG(te:TE)(g:TG):TS:=λD σ H=>te σ H λx H1=>g x σ H1 D.nx
theorem ju{tg e:Expr}{te:TE}{g:TG}(he:PE X e te)(hg:PG X tg g)(hs:swapsWithSole [tg] e pos.line X.env=pure false:=by rfl)(hw:swappedStores [tg] e X.env=pure none:=by rfl)
  (h1:(assignEach [tg] X.env).map (·.2)=[assign tg X.env]:=by rfl):PS X (.Assign [tg] e pos) (eG te g):=by
 intro pins s σ H D I h;refine wpAny_Assign_stores (thn (he pins s σ H _ I h) λv s1 ⟨x,H1,I1,r1,q1⟩=>?_) hs hw;rw[h1];exact thn (hg pins s1 σ H1 x v _ I1 r1 q1) λ_ s2 q=>q
theorem Gm{i:Nat}{x:Str}{e:Expr}{te:TE}{pos':Pos}(hN:X.N.Nodup)(hi:X.N[i]?=some x)(hx:D9 X.env.scope x)(he:PE X e te)(hs:swapsWith e (some (.Name x pos')) pos.line X.env=pure false:=by rfl)(hf:X.fn x=true∨X.env.scope.names.lookup x=some .local:=by first|exact .inl rfl|exact .inr rfl|assumption):
  PS X (.Assign [.Name x pos'] e pos) (eG te (dX i)):=by
 intro pins s σ H D I h;refine wpAny_Assign_Name (thn (he pins s σ H _ I h) λv s1 ⟨y,H1,I1,r1,q1⟩=>?_) hs;exact tT I1 hN hi hx r1 (λs2 I2=>⟨_,H1,I2,q1⟩) hf
end
section
variable {X:Cx}{pos:Pos}
def hX(c:TT)(tb:TS):TS:=λD σ H=>∃W:Nat→St→Hp→Prop,(∃m,W m σ H)∧∀m σ H,W m σ H→
 c σ H λb H1=>if b=true then ∃N:St→Hp→Prop,(∀σ' H',N σ' H'→∃m',m'<m∧W m' σ' H')∧tb (D.lp (N)) σ H1 else D.nx σ H1
theorem gN{c:Expr}{body:List Stmt}{tc:TT}{tb:TS}(hp:PassesOwn (model X.prog X.w) X.A X.env X.xe)(hc:PT X c tc)(hb:sy X body tb):PS X (.While c body [] pos) (hX tc tb):=by
 intro pins s σ H D I h;obtain⟨W,⟨m0,w0⟩,turn⟩:=h;refine wpAny_While (codeAny_whileLoop (λn s'=>∃σ' H',eU X pins σ' H' s'∧W n σ' H') ?_ m0 ⟨σ,H,I,w0⟩);rintro n s1 ⟨σ1,H1,I1,w1⟩;refine wpAny_passesOwn hp (thn (hc pins s1 σ1 H1 _ I1 (turn n σ1 H1 w1)) λb s2 ⟨H2,I2,q2⟩=>?_);cases b with
 | true=>
  obtain⟨N,hN,q2⟩:=q2;rw[if_pos rfl];refine wpAny_passesOwn hp (thn (hb pins s2 σ1 H2 _ I2 q2) λf s3 q3=>?_);cases f with
  | next=>obtain⟨σ3,H3,I3,n3⟩:=q3;obtain⟨m',hm,w3⟩:=hN σ3 H3 n3;exact⟨m',hm,σ3,H3,I3,w3⟩
  | cont=>obtain⟨σ3,H3,I3,n3⟩:=q3;obtain⟨m',hm,w3⟩:=hN σ3 H3 n3;exact⟨m',hm,σ3,H3,I3,w3⟩
  | brk=>exact q3
  | ret v=>exact q3
 | false=>rw[if_neg aP];exact wpAny_execs_nil ⟨σ1,H2,I2,q2⟩
end
structure It where
 go:Nat→Hp→Prop
 yld:Nat→Hp→V→Hp→Prop
 stop:Nat→Hp→Prop
def oX(X:Cx)(pins:List (Addr×Obj))(H:Hp)(b:Addr):Prop:=
 H b=none∧b≠X.env.locals∧b∉X.fs∧(b∈X.ex∨X.s₀.heap.objs.size≤b)∧(∀x c,X.env.cells.lookup x=some c→c≠b)∧∀p∈X.pn++pins,p.1≠b
theorem eU.fpOk{X:Cx}{pins:List (Addr×Obj)}{σ:St}{H H':Hp}{s:Shared}{b:Addr}(I:eU X pins σ H s)(hb:s.heap.objs.size≤b)(hn:H' b=none):oX X pins H' b:=by
 refine⟨hn,bD (aX I.lt hb),I.nofs hb,.inr (aW I.sz hb),λx c e z=>?_,λp hp z=>?_⟩
 ·obtain⟨v,q⟩:=I.cell x c e;exact absurd (aX q.lt (by rw[z];exact hb)) (bU _)
 ·exact absurd (aX (Heap.lt_size (I.pin p hp).1) (by rw[z];exact hb)) (bU _)
structure uf(P:Program)(w:World)(K:aA)(tg:Expr)(J:It)(fp:List Addr)(it:Addr)(tn:Nat→Heap→Prop):Prop where
 mem:it∈fp
 obj:∀i h,tn i h→∀b∈fp,∃o,h.get? b=some o∧∀v,o.data≠.cell v
 keep:∀i h h',tn i h→(∀b∈fp,∀o,h.get? b=some o→h'.get? b=some o)→tn i h'
 item:∀(X:Cx),X.prog=P→X.w=w→X.K=K→X.calm=true→∀(i:Nat)(pins:List (Addr×Obj))(s:Shared)(σ:St)(H:Hp)(E:Value→Shared→Prop),eU X pins σ H s→(∀b∈fp,oX X pins H b)→tn i s.heap→J.go i H→
  wpAny (model P w) X.A (pyNext (.ref it)) (λr s1=>∃u,r=some u∧
   wpAny (model P w) X.A (letOwnedTupleGo tg (.ref it) u) (λ_ s2=>∃x H',eU X pins σ H' s2∧fM x u∧J.yld i H x H'∧tn (i+1) s2.heap∧∀b∈fp,H' b=none) E s1) E s
 done:∀(X:Cx),X.prog=P→X.w=w→X.K=K→X.calm=true→∀(i:Nat)(pins:List (Addr×Obj))(s:Shared)(σ:St)(H:Hp)(E:Value→Shared→Prop),eU X pins σ H s→(∀b∈fp,oX X pins H b)→tn i s.heap→J.stop i H→
  wpAny (model P w) X.A (pyNext (.ref it)) (λr s1=>r=none∧eU X pins σ H s1) E s
 self:∀(A:Around)(i:Nat)(s:Shared)(Q:Value→Shared→Prop)(E:Value→Shared→Prop),tn i s.heap→Q (.ref it) s→wpAny (model P w) A (pyIter (.ref it)) Q E s
abbrev TI:=St→Hp→(It→Hp→Prop)→Prop
def L7(X:Cx)(pins:List (Addr×Obj))(σ:St)(tg:Expr)(R:It→Hp→Prop)(itv:Value)(s2:Shared):Prop:=
 ∃(it:Addr)(fp:List Addr)(tn:Nat→Heap→Prop)(J:It)(H':Hp),itv=.ref it∧eU X pins σ H' s2∧uf X.prog X.w X.K tg J fp it tn∧tn 0 s2.heap∧(∀b∈fp,oX X pins H' b)∧R J H'
def PI(X:Cx)(tg iter:Expr)(wi:TI):Prop:=
 ∀(pins:List (Addr×Obj))(s:Shared)(σ:St)(H:Hp)(R:It→Hp→Prop),eU X pins σ H s→wi σ H R→
  wpAny (model X.prog X.w) X.A (eval iter X.env) (λv s1=>wpAny (model X.prog X.w) X.A (pyIter v) (L7 X pins σ tg R) X.xe s1) X.xe s
theorem uN{M:Model}{A:Around}{E:Value→Shared→Prop}{s:Shared}{tg:Expr}{it:Addr}{u:Value}{o:Obj}{n:String}{vs:Array Value}{Q:Unit→Shared→Prop}(ho:s.heap.get? it=some o)(hc:o.cls=.type n)(hd:o.data=.fields vs)
    (hn:["enumerate","zip","dict_itemiterator","dict_reverseitemiterator","odict_iterator","itertools.zip_longest","itertools.pairwise"].contains n=false) (hQ:Q () s):wpAny M A (letOwnedTupleGo tg (.ref it) u) Q E s:=by
  unfold letOwnedTupleGo;cases tg<;>first
    | exact wpAny_pure hQ
    | (cases u<;>first
        | exact wpAny_pure hQ
        | (refine wpAny_bind (wpAny_load ho ?_)
           rw[hc,hd];show wpAny M A (if(["enumerate","zip","dict_itemiterator","dict_reverseitemiterator","odict_iterator","itertools.zip_longest","itertools.pairwise"].contains n&&vs[0]? == some (rawInt _))=true then _ else _) Q E s;rw[if_neg (by intro h;rw[hn,Bool.false_and]at h;cases h)];exact wpAny_pure hQ))
def KB(K:aA)(a:Addr):It:=
 ⟨λi H=>∃xs x,eK K H a xs∧xs[i]?=some x,λi H x H'=>H'=H∧∀xs,eK K H a xs→xs[i]?=some x,λi H=>∃xs,eK K H a xs∧xs.length≤i⟩
def My(K:aA)(a:Addr):It:=
 ⟨λi H=>∃xs x,eC K H a xs∧xs[i]?=some x,λi H x H'=>H'=H∧∀xs,eC K H a xs→xs[i]?=some x,λi H=>∃xs,eC K H a xs∧xs.length≤i⟩
def II(lo:Int)(n:Nat):It:=⟨λi _=>i<n,λi H x H'=>H'=H∧x=.int (lo+i),λi _=>n≤i⟩
theorem xV{P:Program}{w:World}{K:aA}{tg:Expr}(a it:Addr):uf P w K tg (KB K a) [it] it (λi h=>h.IsListIter it a i) where
 mem:=by simp
 obj:=λi h st b hb=>by
  have e:b=it:=by simpa using hb
  subst e;obtain⟨o,e,c,d⟩:=st;exact⟨o,e,λv z=>by rw[d]at z;cases z⟩
 keep:=λi h h' st k=>st.at λo e=>k it (by simp) o e
 item:=by intro X hP hw hK hc i pins s σ H E I hf st hg;subst hP hw hK;obtain⟨xs,x,hq,hx⟩:=hg;obtain⟨its,rv,p,hz⟩:=I.list hq;obtain⟨u,hu,ru⟩:=rv.get hx;obtain⟨f0,f1,f2,f3,f4,f5⟩:=hf it (by simp);refine wpAny_pyNext_list_item st p.isList (x:=u) (by simpa using hu) λh' st' sb=>?_;have I1:eU X pins σ H {s with heap:=h'}:=I.turned (t':=s.toks) (λb o hb e=>(sb.2 b hb).trans e) f0 f1 f3 f4 f5;obtain⟨o,e,c,d⟩:=id st';exact⟨u,rfl,uN (s:={s with heap:=h'}) e c d (by decide) ⟨x,H,I1,ru,⟨rfl,λys hy=>by rw[I.list_inj hy hq];exact hx⟩,st',λb hb=>(hf b hb).1⟩⟩
 done:=by intro X hP hw hK hc i pins s σ H E I hf st hg;subst hP hw hK;obtain⟨xs,hq,hx⟩:=hg;obtain⟨its,rv,p,hz⟩:=I.list hq;obtain⟨f0,f1,f2,f3,f4,f5⟩:=hf it (by simp);have hl:=rv.length;exact wpAny_pyNext_list_end (I.ok.hd hc) st p.isList (by simp;lia) λh' eb=>⟨rfl,I.turned (t':=s.toks) (λb o hb e=>eb b o hb e) f0 f1 f3 f4 f5⟩
 self:=λ_ _ _ _ _ st h=>wpAny_pyIter_listiter st h
theorem ur{P:Program}{w:World}{K:aA}{tg:Expr}(a it:Addr):uf P w K tg (My K a) [it] it (λi h=>h.IsTupleIter it a i) where
 mem:=by simp
 obj:=λi h st b hb=>by
  have e:b=it:=by simpa using hb
  subst e;obtain⟨o,e,c,d⟩:=st;exact⟨o,e,λv z=>by rw[d]at z;cases z⟩
 keep:=λi h h' st k=>st.at λo e=>k it (by simp) o e
 item:=by intro X hP hw hK hc i pins s σ H E I hf st hg;subst hP hw hK;obtain⟨xs,x,hq,hx⟩:=hg;obtain⟨its,rv,p,hz⟩:=I.tuple hq;obtain⟨u,hu,ru⟩:=rv.get hx;obtain⟨f0,f1,f2,f3,f4,f5⟩:=hf it (by simp);refine wpAny_pyNext_tuple_item st (show s.heap.IsTuple a its.toArray from p) (x:=u) (by simpa using hu) λh' st' sb=>?_;have I1:eU X pins σ H {s with heap:=h'}:=I.turned (t':=s.toks) (λb o hb e=>(sb.2 b hb).trans e) f0 f1 f3 f4 f5;obtain⟨o,e,c,d⟩:=id st';exact⟨u,rfl,uN (s:={s with heap:=h'}) e c d (by decide) ⟨x,H,I1,ru,⟨rfl,λys hy=>by rw[I.tuple_inj hy hq];exact hx⟩,st',λb hb=>(hf b hb).1⟩⟩
 done:=by intro X hP hw hK hc i pins s σ H E I hf st hg;subst hP hw hK;obtain⟨xs,hq,hx⟩:=hg;obtain⟨its,rv,p,hz⟩:=I.tuple hq;obtain⟨f0,f1,f2,f3,f4,f5⟩:=hf it (by simp);have hl:=rv.length;exact wpAny_pyNext_tuple_end (I.ok.hd hc) st (show s.heap.IsTuple a its.toArray from p) (by simp;lia) λh' eb=>⟨rfl,I.turned (t':=s.toks) (λb o hb e=>eb b o hb e) f0 f1 f3 f4 f5⟩
 self:=λ_ _ _ _ _ st h=>wpAny_pyIter_tupleiter st h
theorem ut{P:Program}{w:World}{K:aA}{tg:Expr}(it:Addr)(lo:Int)(n:Nat):uf P w K tg (II lo n) [it] it (λi h=>IsRangeIter h it (lo+(i:Nat)*1) ((n:Int)-(i:Nat)) 1) where
 mem:=by simp
 obj:=λi h st b hb=>by
  have e:b=it:=by simpa using hb
  subst e;exact⟨_,st,λv z=>by
   have z':Data.fields _=Data.cell v:=z;cases z'⟩
 keep:=λi h h' st k=>k it (by simp) _ st
 item:=by intro X hP hw hK hc i pins s σ H E I hf st hg;subst hP hw hK;obtain⟨f0,f1,f2,f3,f4,f5⟩:=hf it (by simp);have W:=Walks.range (prog:=X.prog) (w:=X.w) (I.ok.hd hc) it lo 1 n;refine W.item i s _ _ hg st λv h' tk hv st' kk=>?_;obtain⟨t,rfl⟩:=hv;have I1:eU X pins σ H {s with heap:=h',toks:=tk}:=I.turned (λb o hb e=>kk b o (by simpa using hb) e) f0 f1 f3 f4 f5;refine⟨_,rfl,uN (s:={s with heap:=h',toks:=tk}) (n:="range_iterator") st' rfl rfl (by decide) ⟨.int (lo+i),H,I1,⟨t,?_⟩,⟨rfl,rfl⟩,st',λb hb=>(hf b hb).1⟩⟩;rw[Int.mul_one]
 done:=by intro X hP hw hK hc i pins s σ H E I hf st hg;subst hP hw hK;obtain⟨f0,f1,f2,f3,f4,f5⟩:=hf it (by simp);exact wpAny_pyNext_range_end (I.ok.hd hc) st (by have:n≤i:=hg;lia) λh' eb=>⟨rfl,I.turned (t':=s.toks) (λb o hb e=>eb b o hb e) f0 f1 f3 f4 f5⟩
 self:=λ_ _ _ _ _ st h=>wpAny_pyIter_rangeiter st h
end L2
namespace L2
open PySem PySem.Spec PyProof.Rows
section
variable {X:Cx}{tg:Expr}
def i7(K:aA)(tl:TE):TI:=λσ H R=>tl σ H λx H1=>∃a,x=.ref a∧(∃xs,eK K H1 a xs)∧R (KB K a) H1
def HX(K:aA)(tl:TE):TI:=λσ H R=>tl σ H λx H1=>∃a,x=.ref a∧(∃xs,eC K H1 a xs)∧R (My K a) H1
theorem iB{l:Expr}{tl:TE}(hl:PE X l tl):PI X tg l (i7 X.K tl):=by
 intro pins s σ H R I h;refine thn (hl pins s σ H _ I h) λv s1 ⟨x,H1,I1,r1,q1⟩=>?_;obtain⟨a,e,⟨xs,hq⟩,q⟩:=q1;subst e;cases r1;obtain⟨its,rv,p,hz⟩:=I1.list hq;refine wpAny_pyIter_list p.isList ?_;refine⟨s1.heap.objs.size,[s1.heap.objs.size],_,_,H1,rfl,I1.kept (t':=s1.toks) λb o e=>Heap.get?_push_of_some _ e,xV a _,⟨_,Heap.get?_push_size _ rfl,rfl,rfl⟩,λb hb=>?_,q⟩;have e:b=s1.heap.objs.size:=by simpa using hb
 subst e;exact I1.fpOk (aC _) (I1.hok.fresh (aC _))
theorem Ag{l:Expr}{tl:TE}(hl:PE X l tl):PI X tg l (HX X.K tl):=by
 intro pins s σ H R I h;refine thn (hl pins s σ H _ I h) λv s1 ⟨x,H1,I1,r1,q1⟩=>?_;obtain⟨a,e,⟨xs,hq⟩,q⟩:=q1;subst e;cases r1;obtain⟨its,rv,p,hz⟩:=I1.tuple hq;refine wpAny_pyIter_tuple (show s1.heap.IsTuple a its.toArray from p) ?_;refine⟨s1.heap.objs.size,[s1.heap.objs.size],_,_,H1,rfl,I1.kept (t':=s1.toks) λb o e=>Heap.get?_push_of_some _ e,ur a _,⟨_,Heap.get?_push_size _ rfl,rfl,rfl⟩,λb hb=>?_,q⟩;have e:b=s1.heap.objs.size:=by simpa using hb
 subst e;exact I1.fpOk (aC _) (I1.hok.fresh (aC _))
theorem AT{pins:List (Addr×Obj)}{σ:St}{H:Hp}{s:Shared}{R:It→Hp→Prop}{E:Value→Shared→Prop}{lo hi:Int}{t u v:Tok}{tk:Nat}(I:eU X pins σ H s)(h1 : -(2^62)≤lo)(h2:lo<2^62)(h3 : -(2^62)≤hi)(h4:hi<2^62)
  (q:R (II lo (hi-lo).toNat) H):wpAny (model X.prog X.w) X.A (pyIter (.ref s.heap.objs.size)) (L7 X pins σ tg R) E {s with heap:=s.heap.push {cls:=.type "range",data:=.fields #[.int lo t,.int hi u,.int 1 v]},toks:=tk}:=by
 refine wpAny_pyIter_range (IsRange.new ..) (small_one h1 h2 h3 h4) ?_;have I1:eU X pins σ H {s with heap:=s.heap.push {cls:=.type "range",data:=.fields #[.int lo t,.int hi u,.int 1 v]},toks:=tk}:=I.kept λb o e=>Heap.get?_push_of_some _ e;refine⟨(s.heap.push {cls:=.type "range",data:=.fields #[.int lo t,.int hi u,.int 1 v]}).objs.size,[(s.heap.push {cls:=.type "range",data:=.fields #[.int lo t,.int hi u,.int 1 v]}).objs.size],_,_,H,rfl,
  I1.kept (t':=tk) λb o e=>Heap.get?_push_of_some _ e,ut _ lo (hi-lo).toNat,?_,λb hb=>?_,q⟩
 ·have e1:lo+((0:Nat):Int)*1=lo:=by simp
  have e2:(((hi-lo).toNat:Nat):Int)-((0:Nat):Int)=Builtin.Range.rangeSize lo hi 1:=by rw[rangeSize_one];split<;>lia
  show IsRangeIter _ _ (lo+((0:Nat):Int)*1) ((((hi-lo).toNat:Nat):Int)-((0:Nat):Int)) 1;rw[e1,e2];exact Heap.get?_push_size _ rfl
 ·have e:b=(s.heap.push {cls:=.type "range",data:=.fields #[.int lo t,.int hi u,.int 1 v]}).objs.size:=by simpa using hb
  subst e;exact I1.fpOk (aC _) (I1.hok.fresh (aC _))
def qK(ta:TA):TI:=λσ H R=>ta σ H λvs H1=>∃j:Int,vs=[.int j]∧-(2^62)≤j∧j<2^62∧R (II 0 j.toNat) H1
theorem nK{a:Expr}{ta:TA}{p pos:Pos}(hg:Gl X "range")(hm:X.mg "range"=none)(ha:PA X [a] ta)(hs:starEach [a] X.env=[(false,eval a X.env)]:=by rfl):PI X tg (.Call (.Name "range" p) [a] [] pos) (qK ta):=by
 intro pins s σ H R I h;refine Call_ (jw I hg hm boot_range (bP (thn (ha pos pins s σ H _ I h) λus s1 ⟨vs,H1,I1,r1,q1⟩=>?_) hs rfl));obtain⟨j,e,q1,q2,q⟩:=q1;subst e;cases r1 with
 | cons r rr=>cases rr;obtain⟨t,rfl⟩:=r;exact call_range_1 (AT I1 (by lia) (by lia) q1 q2 (by simpa using q))
def iY(wi:TI)(g:TG)(tb:TS):TS:=λD σ H=>wi σ H λJ H1=>∃W:Nat→Nat→St→Hp→Prop,(∃m,W 0 m σ H1)∧∀i m σ H,W i m σ H→
 (J.stop i H∧D.nx σ H)∨(J.go i H∧∃N:St→Hp→Prop,(∀σ' H',N σ' H'→∃m',m'<m∧W (i+1) m' σ' H')∧∀x H',J.yld i H x H'→g x σ H' λσ2 H2=>tb (D.lp (N)) σ2 H2)
def rg(fp:List Addr)(h:Heap):List (Addr×Obj):=fp.filterMap λb=>(h.get? b).map λo=>(b,o)
theorem kY{fp:List Addr}{h:Heap}{b:Addr}{o:Obj}(hb:b∈fp)(e:h.get? b=some o):(b,o)∈rg fp h:=List.mem_filterMap.mpr ⟨b,hb,by rw[e];rfl⟩
theorem yI{fp:List Addr}{h:Heap}{p:Addr×Obj}(hp:p∈rg fp h):p.1∈fp∧h.get? p.1=some p.2:=by
 obtain⟨b,hb,e⟩:=List.mem_filterMap.mp hp;cases q:h.get? b with
 | none=>rw[q]at e;cases e
 | some o=>rw[q]at e;have e':(b,o)=p:=Option.some.inj e;subst e';exact⟨hb,q⟩
theorem eU.pinned{pins:List (Addr×Obj)}{σ:St}{H:Hp}{s:Shared}{fp:List Addr}(I:eU X pins σ H s)(hf:∀b∈fp,oX X pins H b)(ho:∀b∈fp,∃o,s.heap.get? b=some o∧∀v,o.data≠.cell v):eU X (pins++rg fp s.heap) σ H s:=
 I.pins_of λp hp=>(aV.mp hp).elim (λz=>I.pin p (aQ _ z)) λz=>by obtain⟨hb,e⟩:=yI z;obtain⟨f0,f1,f2,_⟩:=hf p.1 hb;obtain⟨o,e',d⟩:=ho p.1 hb;rw[e]at e';cases e';exact⟨e,f0,f1,f2,d⟩
theorem eU.unpinned{pins pl:List (Addr×Obj)}{σ:St}{H:Hp}{s:Shared}(I:eU X (pins++pl) σ H s):eU X pins σ H s:=I.pins_of λp hp=>I.pin p (aQ _ (ag _ hp))
theorem gQ{iter:Expr}{body:List Stmt}{wi:TI}{g:TG}{tb:TS}{pos:Pos}(hp:PassesOwn (model X.prog X.w) X.A X.env X.xe)(hc:X.calm=true)(hi:PI X tg iter wi)(hg:PG X tg g)(hb:sy X body tb)
  (hs:∀x,foldedSetIterable iter X.env x=pure x:=by intro _;rfl):PS X (.For tg iter body [] pos) (iY wi g tb):=by
 intro pins s σ H D I h;refine wpAny_For (thn (hi pins s σ H _ I h) λv s1 h1=>thn h1 λitv s2 h2=>?_) hs;obtain⟨it,fp,tn,J,H2,e,I2,T,st2,f2,W,⟨m0,w0⟩,turn⟩:=h2;subst e;have stat:∀{H':Hp},(∀b∈fp,H' b=none)→∀b∈fp,oX X pins H' b:=λhn b hb=>⟨hn b hb,(f2 b hb).2⟩;refine codeAny_forLoop_any (λn s'=>∃i σ' H',eU X pins σ' H' s'∧tn i s'.heap∧(∀b∈fp,H' b=none)∧W i n σ' H') ?_ m0 ⟨0,σ,H2,I2,st2,λb hb=>(f2 b hb).1,w0⟩;rintro n s3 ⟨i,σ3,H3,I3,st3,fr3,w3⟩;rcases turn i n σ3 H3 w3 with⟨stop,qn⟩|⟨go,N,hN,step⟩
 ·refine wpAny_passesOwn hp (thn (T.done X rfl rfl rfl hc i pins s3 σ3 H3 X.xe I3 (stat fr3) st3 stop) λr s4 ⟨hr,I4⟩=>?_);subst hr;exact wpAny_execs_nil ⟨σ3,H3,I4,qn⟩
 ·refine wpAny_passesOwn hp (thn (T.item X rfl rfl rfl hc i pins s3 σ3 H3 X.xe I3 (stat fr3) st3 go) λr s4 ⟨u,hr,h4⟩=>?_);subst hr;refine wpAny_passesOwn hp (thn h4 λ_ s5 ⟨x,H5,I5,r5,y5,st5,fr5⟩=>?_);have I5':=I5.pinned (stat fr5) (T.obj _ _ st5);refine wpAny_passesOwn hp (thn (hg _ s5 σ3 H5 x u _ I5' r5 (step x H5 y5)) λ_ s6 ⟨σ6,H6,I6,q6⟩=>?_);refine wpAny_passesOwn hp (thn (hb _ s6 σ6 H6 _ I6 q6) λf s7 q7=>?_);have again:∀{σ7:St}{H7:Hp},eU X (pins++rg fp s5.heap) σ7 H7 s7→N σ7 H7→∃m,m<n∧∃i σ' H',eU X pins σ' H' s7∧tn i s7.heap∧(∀b∈fp,H' b=none)∧W i m σ' H':=λ{σ7 H7} I7 n7=>by obtain⟨m',hm,w7⟩:=hN σ7 H7 n7;refine⟨m',hm,i+1,σ7,H7,I7.unpinned,T.keep _ _ _ st5 λb hb o e=>(I7.pin (b,o) (aQ _ (aQ _ (kY hb e)))).1,λb hb=>?_,w7⟩;obtain⟨o,e,d⟩:=T.obj _ _ st5 b hb;exact(I7.pin (b,o) (aQ _ (aQ _ (kY hb e)))).2.1
  cases f with
  | next=>obtain⟨σ7,H7,I7,n7⟩:=q7;exact again I7 n7
  | cont=>obtain⟨σ7,H7,I7,n7⟩:=q7;exact again I7 n7
  | brk=>obtain⟨σ7,H7,I7,q7⟩:=q7;exact⟨σ7,H7,I7.unpinned,q7⟩
  | ret v=>obtain⟨x7,σ7,H7,I7,r7,q7⟩:=q7;exact⟨x7,σ7,H7,I7.unpinned,r7,q7⟩
end
theorem gw{K:aA}{a:Addr}{xs:List V}{g:TG}{tb:TS}{D:iz}{σ:St}{H:Hp}(Pv:Nat→St→Hp→Prop)(h0:Pv 0 σ H)(hl:∀i σ H,i≤xs.length→Pv i σ H→eK K H a xs)
  (hs:∀i x σ H,xs[i]?=some x→Pv i σ H→g x σ H λσ2 H2=>tb (D.lp (Pv (i+1))) σ2 H2) (hd:∀σ H,Pv xs.length σ H→D.nx σ H):
  ∃W:Nat→Nat→St→Hp→Prop,(∃m,W 0 m σ H)∧∀i m σ H,W i m σ H→
   ((KB K a).stop i H∧D.nx σ H)∨((KB K a).go i H∧∃N:St→Hp→Prop,(∀σ' H',N σ' H'→∃m',m'<m∧W (i+1) m' σ' H')∧∀x H',(KB K a).yld i H x H'→g x σ H' λσ2 H2=>tb (D.lp (N)) σ2 H2):=by
 refine⟨λi m σ H=>m=xs.length-i∧i≤xs.length∧Pv i σ H,⟨xs.length,by simp,aU _,h0⟩,?_⟩;rintro i m σ H ⟨rfl,hi,p⟩;have q:=hl i σ H hi p;by_cases hlt:i<xs.length
 ·refine .inr ⟨⟨xs,xs[i],q,by simp[hlt]⟩,Pv (i+1),λσ' H' p'=>⟨xs.length-(i+1),by lia,rfl,hlt,p'⟩,λx H' y=>?_⟩;obtain⟨e,y⟩:=y;subst e;exact hs i x σ _ (y xs q) p
 ·have e:i=xs.length:=by lia
  subst e;exact .inl ⟨⟨xs,q,aC _⟩,hd σ H p⟩
theorem nh{lo:Int}{n:Nat}{g:TG}{tb:TS}{D:iz}{σ:St}{H:Hp}(Pv:Nat→St→Hp→Prop)(h0:Pv 0 σ H)
  (hs:∀i σ H,i<n→Pv i σ H→g (.int (lo+i)) σ H λσ2 H2=>tb (D.lp (Pv (i+1))) σ2 H2) (hd:∀σ H,Pv n σ H→D.nx σ H):
  ∃W:Nat→Nat→St→Hp→Prop,(∃m,W 0 m σ H)∧∀i m σ H,W i m σ H→
   ((II lo n).stop i H∧D.nx σ H)∨((II lo n).go i H∧∃N:St→Hp→Prop,(∀σ' H',N σ' H'→∃m',m'<m∧W (i+1) m' σ' H')∧∀x H',(II lo n).yld i H x H'→g x σ H' λσ2 H2=>tb (D.lp (N)) σ2 H2):=by
 refine⟨λi m σ H=>m=n-i∧i≤n∧Pv i σ H,⟨n,by simp,aU _,h0⟩,?_⟩;rintro i m σ H ⟨rfl,hi,p⟩;by_cases hlt:i<n
 ·refine .inr ⟨hlt,Pv (i+1),λσ' H' p'=>⟨n-(i+1),by lia,rfl,hlt,p'⟩,λx H' y=>?_⟩;obtain⟨e,y⟩:=y;subst e y;exact hs i σ _ hlt p
 ·have e:i=n:=by lia
  subst e;exact .inl ⟨aC _,hd σ H p⟩
end L2
namespace L2
open PySem PySem.Spec PyProof.Rows
abbrev R2:=V→V→Hp→VK→Prop
def mM(X:Cx)(f:Value→Value→Sem Value)(r:R2):Prop:=
 ∀(pins:List (Addr×Obj))(s:Shared)(σ:St)(H:Hp)(x y:V)(v u:Value)(Q:VK),eU X pins σ H s→fM x v→fM y u→r x y H Q→
  wpAny (model X.prog X.w) X.A (f v u) (EP X pins σ Q) X.xe s
def L0(X:Cx)(f:Value→Sem Value)(r:V→Hp→VK→Prop):Prop:=
 ∀(pins:List (Addr×Obj))(s:Shared)(σ:St)(H:Hp)(x:V)(v:Value)(Q:VK),eU X pins σ H s→fM x v→r x H Q→
  wpAny (model X.prog X.w) X.A (f v) (EP X pins σ Q) X.xe s
def kP(X:Cx)(f:Value)(r:List V→Hp→VK→Prop):Prop:=
 ∀(pins:List (Addr×Obj))(s:Shared)(σ:St)(H:Hp)(xs:List V)(us:List Value)(Q:VK),eU X pins σ H s→fG xs us→r xs H Q→
  wpAny (model X.prog X.w) X.A (call f us) (EP X pins σ Q) X.xe s
def eA(r:R2)(ta tb:TE):TE:=λσ H Q=>ta σ H λx H1=>tb σ H1 λy H2=>r x y H2 Q
def m8(r:V→Hp→VK→Prop)(ta:TE):TE:=λσ H Q=>ta σ H λx H1=>r x H1 Q
def rI(C:Int→Int→Prop)(g:Int→Int→V):R2:=λx y H Q=>onI x λi=>onI y λj=>C i j∧Q (g i j) H
def wY(g:Int→Int→V):R2:=λx y H Q=>onI x λi=>onI y λj=>Q (g i j) H
def rU(g:Int→V):V→Hp→VK→Prop:=λx H Q=>∃i,x=.int i∧Q (g i) H
section
variable {X:Cx}{a b c:Expr}{ta tb tc:TE}{pos:Pos}
theorem Hr(ha:PE X a ta)(hb:PE X b tb){pins:List (Addr×Obj)}{s:Shared}{σ:St}{H:Hp}{R:V→V→Hp→Prop}(I:eU X pins σ H s)
  (h:ta σ H λx H1=>tb σ H1 λy H2=>R x y H2) {Q:Value→Shared→Prop} {f:Value→Value→Sem Value}
  (hf:∀v u s2 x y H2,eU X pins σ H2 s2→fM x v→fM y u→R x y H2→wpAny (model X.prog X.w) X.A (f v u) Q X.xe s2):
  wpAny (model X.prog X.w) X.A (eval a X.env) (λv s₁=>wpAny (model X.prog X.w) X.A (eval b X.env) (λu s₂=>wpAny (model X.prog X.w) X.A (f v u) Q X.xe s₂) X.xe s₁) X.xe s:=by
 refine thn (ha pins s σ H _ I h) λv s1 ⟨x,H1,I1,r1,q1⟩=>?_;refine thn (hb pins s1 σ H1 _ I1 q1) λu s2 ⟨y,H2,I2,r2,q2⟩=>?_;exact hf v u s2 x y H2 I2 r1 r2 q2
theorem fA{op:Operator}{r:R2}(ho:mM X (binaryOp op) r)(ha:PE X a ta)(hb:PE X b tb):PE X (.BinOp a op b pos) (eA r ta tb):=by intro pins s σ H Q I h;exact wpAny_BinOp (Hr ha hb I h λv u s2 x y H2 I2 rx ry q=>ho pins s2 σ H2 x y v u Q I2 rx ry q)
theorem i0{op:UnaryOp}{r:V→Hp→VK→Prop}(ho:L0 X (unaryOp op) r)(ha:PE X a ta):PE X (.UnaryOp op a pos) (m8 r ta):=by intro pins s σ H Q I h;exact UnaryOp_ (thn (ha pins s σ H _ I h) λv s1 ⟨x,H1,I1,r1,q1⟩=>ho pins s1 σ H1 x v Q I1 r1 q1)
theorem KP{f:Value→Value→Sem Value}{C:Int→Int→Prop}{g:Int→Int→Int}
  (rule:∀(i j:Int)(t u:Tok)(s:Shared)(Q:Value→Shared→Prop)(E:Value→Shared→Prop),C i j→Q (.int (g i j) s.toks) {s with toks:=s.toks+1}→wpAny (model X.prog X.w) X.A (f (.int i t) (.int j u)) Q E s):
  mM X f (rI C λi j=>.int (g i j)):=by
 intro pins s σ H x y v u Q I rx ry h;obtain⟨i,rfl,h2⟩:=onI.ex h;obtain⟨j,rfl,hc,q⟩:=onI.ex h2;obtain⟨t,rfl⟩:=rx;obtain⟨t',rfl⟩:=ry;exact rule i j t t' s _ _ hc ⟨.int (g i j),H,I.tok _,⟨_,rfl⟩,q⟩
theorem Iw{f:Value→Value→Sem Value}{g:Int→Int→Int}
  (rule:∀(i j:Int)(t u:Tok)(s:Shared)(Q:Value→Shared→Prop)(E:Value→Shared→Prop),Q (.int (g i j) s.toks) {s with toks:=s.toks+1}→wpAny (model X.prog X.w) X.A (f (.int i t) (.int j u)) Q E s):
  mM X f (wY λi j=>.int (g i j)):=by
 intro pins s σ H x y v u Q I rx ry h;obtain⟨i,rfl,h2⟩:=onI.ex h;obtain⟨j,rfl,q⟩:=onI.ex h2;obtain⟨t,rfl⟩:=rx;obtain⟨t',rfl⟩:=ry;exact rule i j t t' s _ _ ⟨.int (g i j),H,I.tok _,⟨_,rfl⟩,q⟩
theorem Dg{f:Value→Value→Sem Value}{g:Int→Int→Bool}
  (rule:∀(i j:Int)(t u:Tok)(s:Shared)(Q:Value→Shared→Prop)(E:Value→Shared→Prop),Q (.bool (g i j)) s→wpAny (model X.prog X.w) X.A (f (.int i t) (.int j u)) Q E s):
  mM X f (wY λi j=>.bl (g i j)):=by
 intro pins s σ H x y v u Q I rx ry h;obtain⟨i,rfl,h2⟩:=onI.ex h;obtain⟨j,rfl,q⟩:=onI.ex h2;obtain⟨t,rfl⟩:=rx;obtain⟨t',rfl⟩:=ry;exact rule i j t t' s _ _ ⟨.bl (g i j),H,I,rfl,q⟩
def IC(i j:Int):Prop:=0<j∧j<1073741824
def KG(i j:Int):Prop:=0≤j∧j≤1000000∧i.natAbs<2^64
def EB(i j:Int):Prop:=(-(2^64)<i∧i<2^64)∨(-(2^64)<j∧j<2^64)
theorem EB.ok{i j:Int}(h:EB i j):IntMulOk i j:=by
 rcases h with⟨h1,h2⟩|⟨h1,h2⟩
 ·exact .of_left (intBits_le_64 h1 h2)
 ·exact .of_right (intBits_le_64 h1 h2)
theorem lF:mM X (binaryOp .Add) (wY λi j=>.int (i+j)):=Iw λ_ _ _ _ _ _ _ q=>add_int q
theorem iu:mM X (binaryOp .Sub) (wY λi j=>.int (i-j)):=Iw λ_ _ _ _ _ _ _ q=>sub_int q
theorem Gw:mM X (binaryOp .Mult) (rI EB λi j=>.int (i*j)):=KP λ_ _ _ _ _ _ _ hc q=>mul_int q hc.ok
theorem lS:mM X (binaryOp .FloorDiv) (rI IC λi j=>.int (i / j)):=KP λi j _ _ _ _ _ hc q=>by have h1:(0:Int)<j:=hc.1;have h2:j<1073741824:=hc.2;exact floordiv_int (by lia) (by rw[Int.fdiv_eq_ediv_of_nonneg i (by lia)];exact q) (.inl (cr (by lia)))
theorem ic:mM X (binaryOp .Mod) (rI (λ_ j=>0<j) λi j=>.int (i%j)):=KP λi j _ _ _ _ _ hc q=>by have h1:(0:Int)<j:=hc;exact mod_int' (by lia) (by rw[Int.fmod_eq_emod_of_nonneg i (by lia)];exact q)
theorem Ap:mM X (binaryOp .Pow) (rI KG λi j=>.int (i^j.toNat)):=KP λ_ _ _ _ _ _ _ hc q=>pow_int_small hc.1 hc.2.1 hc.2.2 q
theorem M8{f:Value→Sem Value}{g:Int→Int}
  (rule:∀(i:Int)(t:Tok)(s:Shared)(Q:Value→Shared→Prop)(E:Value→Shared→Prop),Q (.int (g i) s.toks) {s with toks:=s.toks+1}→wpAny (model X.prog X.w) X.A (f (.int i t)) Q E s):
  L0 X f (rU λi=>.int (g i)):=by
 intro pins s σ H x v Q I rx h;obtain⟨i,rfl,q⟩:=h;obtain⟨t,rfl⟩:=rx;exact rule i t s _ _ ⟨.int (g i),H,I.tok _,⟨_,rfl⟩,q⟩
theorem iE:L0 X (unaryOp .USub) (rU λi=>.int (-i)):=M8 λ_ _ _ _ _ q=>neg_int q
end
def x6:V→V→Bool
 | .non,.non=>true|.non,.int _=>true|.int _,.non=>true|.non,.bl _=>true|.bl _,.non=>true|.non,.str _=>true|.str _,.non=>true
 | .int _,.int _=>true|.bl _,.bl _=>true|.str _,.str _=>true|.byt _,.byt _=>true
 | .int _,.str _=>true|.str _,.int _=>true|.bl _,.str _=>true|.str _,.bl _=>true
 | _,_=>false
def kX:R2:=λx y H Q=>x6 x y=true∧Q (.bl (decide (x=y))) H
def qk:R2:=λx y H Q=>x6 x y=true∧Q (.bl (!decide (x=y))) H
theorem xE{i j:Int}:decide (V.int i=V.int j)=(i==j):=by rw[b4];simp
theorem BU{i j:Bool}:decide (V.bl i=V.bl j)=(i==j):=by rw[b4];simp
theorem xD{i j:Str}:decide (V.str i=V.str j)=(i==j):=by rw[b4];simp
theorem xF{i j:Array UInt8}:decide (V.byt i=V.byt j)=(i.toList==j.toList):=by rw[b4];cases i;cases j;simp
section
variable {X:Cx}{a b c:Expr}{ta tb tc:TE}{pos:Pos}
theorem fe{pins:List (Addr×Obj)}{σ:St}{H:Hp}{s:Shared}{Q:VK}{k k':Bool}(I:eU X pins σ H s)(q:Q (.bl k) H)(e:k=k'):EP X pins σ Q (.bool k') s:=by subst e;exact⟨.bl k,H,I,rfl,q⟩
theorem fm:mM X (compareOp .Eq) kX:=by
 intro pins s σ H x y v u Q I rx ry h;obtain⟨hs,q⟩:=h;cases x with
 | non=>
  cases rx;cases y with
  | non=>cases ry;exact PySem.EqNone.eq_none_none (fe I q (by simp))
  | bl j=>cases ry;exact PySem.EqNone.eq_none_bool (fe I q (by simp))
  | int j=>obtain⟨t',rfl⟩:=ry;exact PySem.EqNone.eq_none_int (fe I q (by simp))
  | str j=>obtain⟨t',rfl⟩:=ry;exact PySem.EqNone.eq_none_str (fe I q (by simp))
  | _=>exact absurd (show false=true from hs) aP
 | bl i=>
  cases rx;cases y with
  | non=>cases ry;exact PySem.EqNone.eq_bool_none (fe I q (by simp))
  | bl j=>cases ry;exact eq_bool (fe I q BU)
  | str j=>obtain⟨t',rfl⟩:=ry;exact PySem.EqMixed.eq_bool_str (fe I q (by simp))
  | _=>exact absurd (show false=true from hs) aP
 | int i=>
  obtain⟨t,rfl⟩:=rx;cases y with
  | non=>cases ry;exact PySem.EqNone.eq_int_none (fe I q (by simp))
  | int j=>obtain⟨t',rfl⟩:=ry;exact eq_int (fe I q xE)
  | str j=>obtain⟨t',rfl⟩:=ry;exact PySem.EqMixed.eq_int_str (fe I q (by simp))
  | _=>exact absurd (show false=true from hs) aP
 | str i=>
  obtain⟨t,rfl⟩:=rx;cases y with
  | non=>cases ry;exact PySem.EqNone.eq_str_none (fe I q (by simp))
  | bl j=>cases ry;exact PySem.EqMixed.eq_str_bool (fe I q (by simp))
  | int j=>obtain⟨t',rfl⟩:=ry;exact PySem.EqMixed.eq_str_int (fe I q (by simp))
  | str j=>obtain⟨t',rfl⟩:=ry;exact eq_str (fe I q xD)
  | _=>exact absurd (show false=true from hs) aP
 | byt i=>
  obtain⟨t,rfl⟩:=rx;cases y with
  | byt j=>obtain⟨t',rfl⟩:=ry;exact PySem.W.eq_bytes (fe I q xF)
  | _=>exact absurd (show false=true from hs) aP
 | _=>cases y<;>exact absurd (show false=true from hs) aP
theorem i6:mM X (compareOp .NotEq) qk:=by
 intro pins s σ H x y v u Q I rx ry h;obtain⟨hs,q⟩:=h;cases x with
 | non=>
  cases rx;cases y with
  | non=>cases ry;exact PySem.EqNone.ne_none_none (fe I q (by simp))
  | bl j=>cases ry;exact PySem.EqNone.ne_none_bool (fe I q (by simp))
  | int j=>obtain⟨t',rfl⟩:=ry;exact PySem.EqNone.ne_none_int (fe I q (by simp))
  | str j=>obtain⟨t',rfl⟩:=ry;exact PySem.EqNone.ne_none_str (fe I q (by simp))
  | _=>exact absurd (show false=true from hs) aP
 | bl i=>
  cases rx;cases y with
  | non=>cases ry;exact PySem.EqNone.ne_bool_none (fe I q (by simp))
  | bl j=>cases ry;exact ne_bool (fe I q (congrArg not BU))
  | str j=>obtain⟨t',rfl⟩:=ry;exact PySem.EqMixed.ne_bool_str (fe I q (by simp))
  | _=>exact absurd (show false=true from hs) aP
 | int i=>
  obtain⟨t,rfl⟩:=rx;cases y with
  | non=>cases ry;exact PySem.EqNone.ne_int_none (fe I q (by simp))
  | int j=>obtain⟨t',rfl⟩:=ry;exact ne_int (fe I q (congrArg not xE))
  | str j=>obtain⟨t',rfl⟩:=ry;exact PySem.EqMixed.ne_int_str (fe I q (by simp))
  | _=>exact absurd (show false=true from hs) aP
 | str i=>
  obtain⟨t,rfl⟩:=rx;cases y with
  | non=>cases ry;exact PySem.EqNone.ne_str_none (fe I q (by simp))
  | bl j=>cases ry;exact PySem.EqMixed.ne_str_bool (fe I q (by simp))
  | int j=>obtain⟨t',rfl⟩:=ry;exact PySem.EqMixed.ne_str_int (fe I q (by simp))
  | str j=>obtain⟨t',rfl⟩:=ry;exact ne_str (fe I q (congrArg not xD))
  | _=>exact absurd (show false=true from hs) aP
 | byt i=>
  obtain⟨t,rfl⟩:=rx;cases y with
  | byt j=>obtain⟨t',rfl⟩:=ry;exact PySem.W.ne_bytes (fe I q (congrArg not xF))
  | _=>exact absurd (show false=true from hs) aP
 | _=>cases y<;>exact absurd (show false=true from hs) aP
theorem qm:mM X (compareOp .Lt) (wY λi j=>.bl (decide (i<j))):=Dg λ_ _ _ _ _ _ _ q=>lt_int q
theorem Aq:mM X (compareOp .LtE) (wY λi j=>.bl (decide (i≤j))):=Dg λ_ _ _ _ _ _ _ q=>le_int q
theorem lE:mM X (compareOp .Gt) (wY λi j=>.bl (decide (j<i))):=Dg λ_ _ _ _ _ _ _ q=>gt_int q
theorem Iv:mM X (compareOp .GtE) (wY λi j=>.bl (decide (j≤i))):=Dg λ_ _ _ _ _ _ _ q=>ge_int q
theorem Gx:mM X (compareOp .Is) (λx y H Q=>y=.non∧Q (.bl (decide (x=.non))) H):=by
 intro pins s σ H x y v u Q I rx ry h;obtain⟨rfl,q⟩:=h;cases ry;refine is_none_gen (fe I q ?_);cases x<;>first
  | (cases rx;rfl)
  | (obtain⟨t,rfl⟩:=rx;rfl)
theorem wc:mM X (compareOp .IsNot) (λx y H Q=>y=.non∧Q (.bl (!decide (x=.non))) H):=by
 intro pins s σ H x y v u Q I rx ry h;obtain⟨rfl,q⟩:=h;cases ry;refine isnot_none_gen (fe I q ?_);cases x<;>first
  | (cases rx;rfl)
  | (obtain⟨t,rfl⟩:=rx;rfl)
theorem Au(b:Expr){op:CmpOp}(h:op≠.In:=by decide)(h2:op≠.NotIn:=by decide):behindInMarks op b=false:=by
 have e1:(op==CmpOp.In)=false:=by cases op<;>first|rfl|exact absurd rfl h
 have e2:(op==CmpOp.NotIn)=false:=by cases op<;>first|rfl|exact absurd rfl h2
 cases b<;>simp[behindInMarks,e1,e2]
theorem wa{op:CmpOp}{r:R2}(ho:mM X (compareOp op) r)(ha:PE X a ta)(hb:PE X b tb)(hm:behindInMarks op b=false):PE X (.Compare a [op] [b] pos) (eA r ta tb):=by intro pins s σ H Q I h;exact wpAny_Compare1 (Hr ha hb I h λv u s2 x y H2 I2 rx ry q=>ho pins s2 σ H2 x y v u Q I2 rx ry q) hm
def eI(t:TE):TT:=λσ H Q=>t σ H λx H'=>∃k,x=.bl k∧Q k H'
theorem mX{op:CmpOp}{r:R2}(ho:mM X (compareOp op) r)(ha:PE X a ta)(hb:PE X b tb)(hm:behindInMarks op b=false):PT X (.Compare a [op] [b] pos) (eI (eA r ta tb)):=by
 intro pins s σ H Q I h;refine wpAny_isTrue_Compare1 (thn (ha pins s σ H _ I h) λv s1 ⟨x,H1,I1,r1,q1⟩=>thn (hb pins s1 σ H1 _ I1 q1) λu s2 ⟨y,H2,I2,r2,q2⟩=>
  thn (ho pins s2 σ H2 x y v u _ I2 r1 r2 q2) λc s3 ⟨z,H3,I3,r3,k,e,q3⟩=>?_) hm
 subst e;cases r3;exact wpAny_truthy_bool ⟨H3,I3,q3⟩
def zu(r r':R2)(ta tb tc:TE):TE:=λσ H Q=>ta σ H λx H1=>tb σ H1 λy H2=>r x y H2 λz H3=>∃k,z=.bl k∧
 (if k=true then tc σ H3 λw' H4=>r' y w' H4 Q else Q (.bl false) H3)
theorem Ab{op op':CmpOp}{r r':R2}(ho:mM X (compareOp op) r)(ho':mM X (compareOp op') r')(ha:PE X a ta)(hb:PE X b tb)(hc:PE X c tc)
  (hm:lastMarks [op,op'] [b,c]=false:=by with_unfolding_all rfl):PT X (.Compare a [op,op'] [b,c] pos) (eI (zu r r' ta tb tc)):=by
 intro pins s σ H Q I h;refine isTrue_chain (thn (ha pins s σ H _ I h) λv s1 ⟨x,H1,I1,r1,q1⟩=>test_link (thn (hb pins s1 σ H1 _ I1 q1) λu s2 ⟨y,H2,I2,r2,q2⟩=>
  thn (ho pins s2 σ H2 x y v u _ I2 r1 r2 q2) λd s3 ⟨z,H3,I3,r3,k,e,q3⟩=>?_)) hm
 subst e;cases r3;refine wpAny_truthy_bool ?_;cases k with
 | false=>obtain⟨k',e',q'⟩:=q3;cases e';exact ite_ff ⟨H3,I3,q'⟩
 | true=>refine ite_tt (test_last (thn (hc pins s3 σ H3 _ I3 q3) λw' s4 ⟨z',H4,I4,r4,q4⟩=>thn (ho' pins s4 σ H4 y z' u w' _ I4 r2 r4 q4) λd' s5 ⟨z2,H5,I5,r5,k2,e2,q5⟩=>?_));subst e2;cases r5;exact wpAny_truthy_bool ⟨H5,I5,q5⟩
theorem nQ:(sizeLine:Nat)<2^63:=by rw[sizeLine_eq];decide
theorem mJ:mM X (binaryOp .Add) (λx y H Q=>∃i j,x=.str i∧y=.str j∧i.length+j.length≤sizeLine∧Q (.str (i++j)) H):=by intro pins s σ H x y v u Q I rx ry h;obtain⟨i,j,rfl,rfl,hz,q⟩:=h;obtain⟨t,rfl⟩:=rx;obtain⟨t',rfl⟩:=ry;exact add_str (λt' tk=>⟨.str (i++j),H,I.tok _,⟨_,rfl⟩,q⟩) hz
theorem k9{x:V}{us:List Value}(r:fG [x] us):∃u,us=[u]∧fM x u:=by
 cases r with
 | cons r1 r2=>cases r2;exact⟨_,rfl,r1⟩
theorem vz{x y:V}{us:List Value}(r:fG [x,y] us):∃u w',us=[u,w']∧fM x u∧fM y w':=by
 cases r with
 | cons r1 r2=>
  cases r2 with
  | cons r3 r4=>cases r4;exact⟨_,_,rfl,r1,r3⟩
theorem BY:kP X (.builtin "abs") (λxs H Q=>∃i,xs=[.int i]∧Q (.int (if i<0 then -i else i)) H):=by intro pins s σ H xs us Q I r h;obtain⟨i,rfl,q⟩:=h;obtain⟨u,rfl,t,rfl⟩:=k9 r;exact call_abs_int λu tk=>⟨.int (if i<0 then -i else i),H,I.tok _,⟨_,rfl⟩,q⟩
theorem yc(hc:X.calm=true):kP X (.builtin "min") (λxs H Q=>∃i j,xs=[.int i,.int j]∧Q (.int (if j<i then j else i)) H):=by
 intro pins s σ H xs us Q I r h;obtain⟨i,j,rfl,q⟩:=h;obtain⟨u,w',rfl,⟨t,rfl⟩,⟨t',rfl⟩⟩:=vz r;refine min_two_ints (I.ok.hd hc) λh' tk k=>⟨_,H,I.kept k,?_,q⟩;by_cases hj:j<i
 ·rw[if_pos hj,if_pos hj];exact⟨_,rfl⟩
 ·rw[if_neg hj,if_neg hj];exact⟨_,rfl⟩
theorem rA:kP X (.type "int") (λxs H Q=>(∃i,xs=[.int i]∧Q (.int i) H)∨∃k,xs=[.bl k]∧Q (.int (if k then 1 else 0)) H):=by
 intro pins s σ H xs us Q I r h;rcases h with⟨i,rfl,q⟩|⟨k,rfl,q⟩
 ·obtain⟨u,rfl,t,rfl⟩:=k9 r;exact call_int_int ⟨.int i,H,I,⟨_,rfl⟩,q⟩
 ·obtain⟨u,rfl,r1⟩:=k9 r;cases r1;exact call_int_bool ⟨.int (if k then 1 else 0),H,I.tok _,⟨_,rfl⟩,q⟩
end
end L2
namespace L2
open PySem PySem.Spec PyProof.Rows
structure vo(h:Heap)(x dx C:Addr)(mA:Str→Option Value):Prop where
 obj:h.get? x=some (PySem.W.instObj C dx)
 ns:h.Ns1 dx mA
 ne:dx≠x
theorem yL{h:Heap}{dx:Addr}{mA:Str→Option Value}(n:h.Ns1 dx mA):∃od,h.get? dx=some od∧∀name,PySem.W.lookIn name od=some (mA name):=by
 obtain⟨o,es,ep,ho,hd,hk,_,hm⟩:=n;refine⟨o,ho,λname=>?_⟩;have e:=hm name;unfold nsFind findBy at e;rw[←Array.find?_toList]at e;unfold PySem.W.lookIn;rw[hd];dsimp only;split
 ·rename_i y q;rw[q]at e;exact congrArg some e
 ·rename_i q;rw[q]at e;have a:es.toList.any (·.refKey)=false:=by rw[List.any_eq_false];intro y hy;obtain⟨z,t,hkey⟩:=hk y (Array.mem_toList_iff.mp hy);simp[DictEntry.refKey,hkey]
  have a':¬es.toList.any (·.refKey)=true:=by rw[a];exact aP
  rw[if_neg a'];exact congrArg some e
theorem vo.look{h:Heap}{x dx C:Addr}{mA:Str→Option Value}(I:vo h x dx C mA):∃od,PySem.W.InstAt h x (PySem.W.instObj C dx) C (some od)∧∀name,PySem.W.lookIn name od=some (mA name):=
 let ⟨od,ho,hl⟩:=yL I.ns
 ⟨od,⟨I.obj,rfl,rfl,ho⟩,hl⟩
section
variable {prog:Program}{w:World}{A:Around}{E:Value→Shared→Prop}{s:Shared}{K:aA}{x dx C f:Addr}{mA:Str→Option Value}{name:Str}{v:Value}
theorem Dw{expr:Bool}{Q:Value→Shared→Prop}(X:K.In s.heap)(I:vo s.heap x dx C mA)(hg:PySem.W.plainGet K C name=true)(hh:PySem.W.hasDictIn K C=true)
  (ha:PySem.W.findIn K (.ref C) name=some none) (hv:mA name=some v) (hv':PySem.W.handedIn v=true) (h:Q v {s with toks:=s.toks+1}):
  wpAny (model prog w) A (getAttr (.ref x) name expr) Q E s:=by
 obtain⟨od,J,hl⟩:=I.look;exact PySem.W.get_value X J (cM hg).1 (PySem.W.findObj_own hh ha rfl (by rw[hl,hv])) hv' h
theorem BN{pl:Sem Bool}{Q:Value×List Value→Shared→Prop}(X:K.In s.heap)(I:vo s.heap x dx C mA)(hg:PySem.W.plainGet K C name=true)
  (hf:PySem.W.findIn K (.ref C) name=some (some (.ref f))) (ht:PySem.W.isFn K (.ref f)=true) (hv:mA name=none) (h:Q (.ref f,[.ref x]) s):
  wpAny (model prog w) A (getMethod (.ref x) name pl) Q E s:=by
 obtain⟨od,J,hl⟩:=I.look;exact PySem.W.method_fn X J (cM hg).1 (cM hg).2 hf (beq_iff_eq.mp ht) (by show(PySem.W.lookIn name od).map (·.isSome)=some false;rw[hl,hv];rfl) h
theorem DH{ns:List Str}{Q:Unit→Shared→Prop}(X:K.In s.heap)(I:vo s.heap x dx C mA)
  (hs:PySem.W.findIn K (.ref C) "__setattr__"=some (some (.builtin "object.__setattr__"))) (hp:PySem.W.plainOver K C=true) (ht:PySem.W.takerIn K C name=some none) (hh:PySem.W.hasDictIn K C=true)
  (hw:PySem.Within mA ns) (hsz:ns.length≤sizeLine)
  (h:∀h',vo h' x dx C (λy=>if y=name then some v else mA y)→Heap.SameBut dx s.heap h'→Q () {s with heap:=h',toks:=s.toks+2}):
  wpAny (model prog w) A (setAttr (.ref x) name v) Q E s:=by
 obtain⟨od,J,hl⟩:=I.look;refine PySem.W.set_plain X J hs (PySem.W.osa_open (s:={s with toks:=s.toks+1}) (r:=none) X J hp ht λb=>?_);obtain⟨cd,hc,hd'⟩:=PySem.W.any_some hh;have hx:s.heap.get? x=some ⟨.ref C,some dx,.plain,#[]⟩:=I.obj;refine wpAny_bind (wpAny_pure (wpAny_bind (wpAny_bind (wpAny_loadPart hx (wpAny_bind (PySem.W.Looks.here (s:={s with toks:=s.toks+1}) (PySem.W.looks_clsIn X hc) ?_))))));rw[hd'];refine wpAny_pure (a:=some dx) (wpAny_bind (wpAny_pure (wpAny_bind ?_)));refine wpAny_nsSet1 (s:={s with toks:=s.toks+1}) I.ns λh' hn2 hs2=>?_;obtain⟨oD,esD,epD,hoD,hdD,hcD⟩:=hn2.count (PySem.Within.cons name v hw);refine wpAny_bind (wpAny_lookBehind hoD (by rw[hdD];exact pastItsLine_dict (aW hcD (by rw[aE];lia))) ?_);exact wpAny_pure (h _ ⟨(hs2.2 _ (af I.ne)).trans I.obj,hn2,I.ne⟩ hs2)
theorem Az{R:Result→Shared→Prop}{vs:List Value}{kw:List (Str×Value)}(X:K.In s.heap)(hm:PySem.W.makesIn K C=true)
  (hi:PySem.W.findIn K (.ref C) "__init__"=some (some (.ref f))) (hf:PySem.W.typeIn K (.ref f)=some (.type "function"))
  (h:codeAny (model prog w) (A.under (.builtin "type.__call__" ⟨.ref C::vs,kw⟩)) (.call (.ref f) ⟨.ref (s.heap.objs.size+1)::vs,kw⟩) (PySem.W.InitBack (s.heap.objs.size+1) R)
   {s with heap:=(s.heap.push PySem.W.emptyDict).push (PySem.W.instObj C s.heap.objs.size)}):
  codeAny (model prog w) A (.call (.ref C) ⟨vs,kw⟩) R s:=by
 obtain⟨hh,g,d,t,os⟩:=s;exact PySem.W.make_core (PySem.W.makes_of X hm) (PySem.W.looks_findIn X hi) (λself=>PySem.W.bind_fn X self hf) (.inl rfl) h
end
def iF(f:Str)(v:V):List (Str×V)→List (Str×V)
 | []=>[(f,v)]
 | (g,x)::r=>if g=f then(g,v)::r else(g,x)::iF f v r
theorem oK(f g:Str)(v:V):∀fs:List (Str×V),(iF f v fs).lookup g=if g=f then some v else fs.lookup g
 | []=>by
  show List.lookup g [(f,v)]=_;by_cases h:g=f
  ·have hb:(g==f)=true:=beq_iff_eq.mpr h;simp only[List.lookup,hb,if_pos h]
  ·have hb:(g==f)=false:=beq_eq_false_iff_ne.mpr h;simp only[List.lookup,hb,if_neg h]
 | (k,x)::r=>by
  have ih:=oK f g v r;rw[show iF f v ((k,x)::r)=(if k=f then(k,v)::r else(k,x)::iF f v r)from rfl];by_cases hk:k=f
  ·rw[if_pos hk];by_cases h:g=k
   ·have hb:(g==k)=true:=beq_iff_eq.mpr h;simp only[List.lookup,hb,if_pos (h.trans hk)]
   ·have hb:(g==k)=false:=beq_eq_false_iff_ne.mpr h;simp only[List.lookup,hb,if_neg (λe:g=f=>h (e.trans hk.symm))]
  ·rw[if_neg hk];by_cases h:g=k
   ·have hb:(g==k)=true:=beq_iff_eq.mpr h;simp only[List.lookup,hb,if_neg (λe:g=f=>hk (h.symm.trans e))]
   ·have hb:(g==k)=false:=beq_eq_false_iff_ne.mpr h;simp only[List.lookup,hb];exact ih
theorem nW(f:Str)(v:V):∀fs:List (Str×V),f∈(iF f v fs).map (·.1)∧∀g,g∈fs.map (·.1)→g∈(iF f v fs).map (·.1)
 | []=>⟨by simp[iF],λg h=>by simp at h⟩
 | (k,x)::r=>by
  obtain⟨i1,i2⟩:=nW f v r;rw[show iF f v ((k,x)::r)=(if k=f then(k,v)::r else(k,x)::iF f v r)from rfl];by_cases hk:k=f
  ·rw[if_pos hk];subst hk;exact⟨by simp,λg h=>by simpa using h⟩
  ·rw[if_neg hk];refine⟨?_,λg h=>?_⟩
   ·rw[aY];exact bC _ i1
   ·rw[aY]at h⊢;rcases aB.mp h with e|e
    ·exact aB.mpr (.inl e)
    ·exact bC _ (i2 g e)
theorem oM(f:Str)(v:V):∀fs:List (Str×V),(iF f v fs).length≤fs.length+1
 | []=>by simp[iF]
 | (k,x)::r=>by
  have ih:=oM f v r;rw[show iF f v ((k,x)::r)=(if k=f then(k,v)::r else(k,x)::iF f v r)from rfl];by_cases hk:k=f
  ·rw[if_pos hk,aE,aE];lia
  ·rw[if_neg hk,aE,aE];lia
theorem k0.some_of{v:V}{o:Option Value}(r:k0 (some v) o):∃u,o=some u∧fM v u:=by
 cases o with
 | none=>exact(show False from r).elim
 | some u=>exact⟨u,rfl,r⟩
theorem k0.none_of{o:Option Value}(r:k0 none o):o=none:=by
 cases o with
 | none=>rfl
 | some u=>exact(show False from r).elim
theorem yU{v:V}{u:Value}(r:fM v u):PySem.W.handedIn u=true:=by
 cases v with
 | non=>cases(show u=Value.none from r);rfl
 | bl b=>cases(show u=Value.bool b from r);rfl
 | int i=>obtain⟨t,e⟩:=(show ∃t,u=Value.int i t from r);cases e;rfl
 | str x=>obtain⟨t,e⟩:=(show ∃t,u=Value.str x t from r);cases e;rfl
 | byt b=>obtain⟨t,e⟩:=(show ∃t,u=Value.bytes b t from r);cases e;rfl
 | flt b=>obtain⟨t,e⟩:=(show ∃t,u=Value.float b t from r);cases e;rfl
 | ref a=>cases(show u=Value.ref a from r);rfl
 | ty n=>cases(show u=Value.type n from r);rfl
section
variable {P:Program}{w:World}{H H':Hp}{h h':Heap}{a C dx:Addr}{fs fs':List (Str×V)}
theorem mh(hok:mO P w H h)(e:H a=some (.ins C dx fs)):∃mA,vo h a dx C mA∧(∀f,k0 (fs.lookup f) (mA f))∧PySem.Within mA (fs.map (·.1))∧fs.length≤1000∧H dx=some (.own a):=by obtain⟨d,z,ne,ob,mA,n,r,q⟩:=(show gB P w H h a (.ins C dx fs)from hok a _ e);exact⟨mA,⟨ob,n,ne⟩,r,q,z,d⟩
end
structure vt(K:aA)(C:Addr):Prop where
 pg:PySem.W.plainGet K C Str.empty=true
 hd:PySem.W.hasDictIn K C=true
 po:PySem.W.plainOver K C=true
 sa:PySem.W.findIn K (.ref C) "__setattr__"=some (some (.builtin "object.__setattr__"))
theorem vt.get{K:aA}{C:Addr}(c:vt K C)(f:Str):PySem.W.plainGet K C f=true:=c.pg
def iy(K:aA)(C:Addr)(f:Str):Prop:=PySem.W.findIn K (.ref C) f=some none
theorem iy.taker{K:aA}{C:Addr}{f:Str}(n:iy K C f):PySem.W.takerIn K C f=some none:=by unfold PySem.W.takerIn;rw[show PySem.W.findIn K (.ref C) f=some none from n];rfl
structure lK(K:aA)(C:Addr)(m:Str)(f:Addr):Prop where
 at_:PySem.W.findIn K (.ref C) m=some (some (.ref f))
 fn:PySem.W.isFn K (.ref f)=true
 kp:PySem.W.keepIn K (.ref f)=true
section
variable {X:Cx}{pins:List (Addr×Obj)}{σ:St}{H:Hp}{s:Shared}{a C dx:Addr}{fs:List (Str×V)}{f:Str}{v:V}{A:Around}{E:Value→Shared→Prop}
theorem qL{b:Bool}{Q:Value→Shared→Prop}(I:eU X pins σ H s)(e:H a=some (.ins C dx fs))(c:vt X.K C)(n:iy X.K C f)(l:fs.lookup f=some v)
  (h:∀u s',eU X pins σ H s'→fM v u→Q u s'):wpAny (model X.prog X.w) A (getAttr (.ref a) f b) Q E s:=by
 obtain⟨mA,O,r,_,_,_⟩:=mh I.hok e;obtain⟨u,hu,ru⟩:=k0.some_of (v:=v) (o:=mA f) (by rw[←l];exact r f);exact Dw I.kIn O (c.get f) c.hd n hu (yU ru) (h u _ (I.tok _) ru)
theorem vc{m:Str}{g:Addr}{pl:Sem Bool}{Q:Value×List Value→Shared→Prop}(I:eU X pins σ H s)(e:H a=some (.ins C dx fs))(c:vt X.K C)(k:lK X.K C m g)(l:fs.lookup m=none)
  (h:Q (.ref g,[.ref a]) s):wpAny (model X.prog X.w) A (getMethod (.ref a) m pl) Q E s:=by
 obtain⟨mA,O,r,_,_,_⟩:=mh I.hok e;have hn:mA m=none:=k0.none_of (by rw[←l];exact r m);exact BN I.kIn O (c.get m) k.at_ k.fn hn h
theorem pW{y:V}{u:Value}{Q:Unit→Shared→Prop}(I:eU X pins σ H s)(e:H a=some (.ins C dx fs))(c:vt X.K C)(n:iy X.K C f)(hl:fs.length<1000)(ry:fM y u)
  (h:∀s',eU X pins σ (upd H a (.ins C dx (iF f y fs))) s'→Q () s'):wpAny (model X.prog X.w) A (setAttr (.ref a) f u) Q E s:=by
 obtain⟨mA,O,r,wi,_,ho⟩:=mh I.hok e;have hz:(fs.map (·.1)).length≤sizeLine:=by rw[aa,sizeLine_eq];lia
 refine DH I.kIn O c.sa c.po n.taker c.hd wi hz λh' O' sb=>h _ ?_;have hd:∃o,h'.get? dx=some o:=let ⟨o,_,_,e',_⟩:=O'.ns;⟨o,e'⟩;refine I.write (x:=a) (e:=dx) (by rw[e];exact aH) (.inr ho) (λb q hb z=>(sb.2 b hb).trans z) hd ?_;refine⟨by rw[db O.ne];exact ho,?_,O.ne,O'.obj,_,O'.ns,λg=>?_,λg hg=>?_⟩
 ·have:=oM f y fs;lia
 ·show k0 ((iF f y fs).lookup g) (if g=f then some u else mA g);rw[oK];by_cases q:g=f
  ·rw[if_pos q,if_pos q];exact ry
  ·rw[if_neg q,if_neg q];exact r g
 ·by_cases q:g=f
  ·rw[q];exact(nW f y fs).1
  ·refine(nW f y fs).2 g (wi g λz=>hg ?_);show(if g=f then some u else mA g)=none;rw[if_neg q];exact z
theorem eU.made(I:eU X pins σ H s):eU X pins σ (upd (upd H s.heap.objs.size (.own (s.heap.objs.size+1))) (s.heap.objs.size+1) (.ins C s.heap.objs.size []))
  {s with heap:=(s.heap.push PySem.W.emptyDict).push (PySem.W.instObj C s.heap.objs.size)}:=by
 have e1:(s.heap.push PySem.W.emptyDict).get? s.heap.objs.size=some PySem.W.emptyDict:=Heap.get?_push_size s.heap rfl;have e2:((s.heap.push PySem.W.emptyDict).push (PySem.W.instObj C s.heap.objs.size)).get? (s.heap.objs.size+1)=some (PySem.W.instObj C s.heap.objs.size):=by have:=Heap.get?_push_size (s.heap.push PySem.W.emptyDict) (o:=PySem.W.instObj C s.heap.objs.size) rfl;rwa[Heap.size_push]at this
 have e3:(s.heap.push PySem.W.emptyDict).Ns s.heap.objs.size (λ_=>none):=⟨PySem.W.emptyDict,#[],_,e1,rfl,(λe he=>absurd he (by simp)),λ_=>rfl⟩;have I1:=I.laid (a:=s.heap.objs.size) (o:=.own (s.heap.objs.size+1)) (h':=s.heap.push PySem.W.emptyDict) (t':=s.toks) (λb u q=>Heap.get?_push_of_some _ q) (aC _) ⟨_,e1⟩;refine I1.laid (a:=s.heap.objs.size+1) (o:=.ins C s.heap.objs.size []) (t':=s.toks) (λb u q=>Heap.get?_push_of_some _ q) (Nat.le_of_eq (Heap.size_push _ _)) ?_;have ne:s.heap.objs.size≠s.heap.objs.size+1:=aL (b5 _);refine⟨by rw[db ne,dO],aU _,ne,e2,λ_=>none,(Heap.Ns1.of_empty e3).at λo q=>Heap.get?_push_of_some _ q,λ_=>aH,λy hy=>absurd rfl hy⟩
theorem D7{prog:Program}{w:World}{env:Env}{e:Expr}{f:Str}{pos:Pos}{s:Shared}{Q:Value→Shared→Prop}(hb:attributeBase e f env (eval e env)=eval e env)
  (h:wpAny (model prog w) A (eval e env) (λo s₁=>wpAny (model prog w) A (getAttr o f true) Q E s₁) E s):wpAny (model prog w) A (eval (.Attribute e f pos) env) Q E s:=
 Attribute_any_ h (by rw[arm_eval_Attribute,hb])
end
def kC(K:aA)(ta:TE)(f:Str):TE:=λσ H Q=>ta σ H λx H1=>∃a C dx fs v,x=.ref a∧H1 a=some (.ins C dx fs)∧vt K C∧iy K C f∧fs.lookup f=some v∧Q v H1
def tw(K:aA)(ta tv:TE)(f:Str):TS:=λD σ H=>tv σ H λy H1=>ta σ H1 λx H2=>∃a C dx fs,x=.ref a∧H2 a=some (.ins C dx fs)∧vt K C∧iy K C f∧fs.length<1000∧
 D.nx σ (upd H2 a (.ins C dx (iF f y fs)))
def KC(X:Cx)(op:Operator)(rd:V→V→Hp→VK→Prop):Prop:=
 ∀(pins:List (Addr×Obj))(s:Shared)(σ:St)(H:Hp)(x y:V)(u v:Value)(Q:VK),eU X pins σ H s→fM x u→fM y v→rd x y H Q→wpAny (model X.prog X.w) X.A (inplaceOp op u v) (EP X pins σ Q) X.xe s
def oa(K:aA)(ta tv:TE)(rd:V→V→Hp→VK→Prop)(f:Str):TS:=λD σ H=>ta σ H λx H1=>∃a C dx fs v,x=.ref a∧H1 a=some (.ins C dx fs)∧vt K C∧iy K C f∧fs.lookup f=some v∧
 tv σ H1 λy H2=>rd v y H2 λz H3=>∃dx' fs',H3 a=some (.ins C dx' fs')∧fs'.length<1000∧D.nx σ (upd H3 a (.ins C dx' (iF f z fs')))
section
variable {X:Cx}{o e value:Expr}{f:Str}{pos pos' tpos:Pos}{ta tv:TE}
theorem ib(he:PE X e ta)(hb:attributeBase e f X.env (eval e X.env)=eval e X.env):PE X (.Attribute e f pos) (kC X.K ta f):=by intro pins s σ H Q I h;refine D7 hb (thn (he pins s σ H _ I h) λu s1 ⟨x,H1,I1,rx,a,C,dx,fs,v,ex,ea,c,n,l,q⟩=>?_);subst ex;obtain rfl:u=Value.ref a:=rx;exact qL I1 ea c n l λu' s2 I2 ru=>⟨v,H1,I2,ru,q⟩
theorem mI(ha:PE X o ta)(hv:PE X value tv)(hs:swapsWith value (some (.Attribute o f pos')) pos.line X.env=pure false):PS X (.Assign [.Attribute o f pos'] value pos) (tw X.K ta tv f):=by intro pins s σ H D I h;refine plainObj_wpAny_Assign_Attribute (thn (hv pins s σ H _ I h) λu s1 ⟨y,H1,I1,ry,q⟩=>thn (ha pins s1 σ H1 _ I1 q) λov s2 ⟨x,H2,I2,rx,a,C,dx,fs,ex,ea,c,n,l,q2⟩=>?_) hs;subst ex;obtain rfl:ov=Value.ref a:=rx;exact pW I2 ea c n l ry λs3 I3=>⟨σ,_,I3,q2⟩
theorem nJ{op:Operator}{rd:V→V→Hp→VK→Prop}(ha:PE X o ta)(hv:PE X value tv)(hop:KC X op rd):PS X (.AugAssign (.Attribute o f tpos) op value pos) (oa X.K ta tv rd f):=by intro pins s σ H D I h;refine wpAny_AugAssign_AttributeAny (thn (ha pins s σ H _ I h) λov s1 ⟨x,H1,I1,rx,a,C,dx,fs,v,ex,ea,c,n,l,q⟩=>?_);subst ex;obtain rfl:ov=Value.ref a:=rx;refine qL I1 ea c n l λu s2 I2 ru=>thn (hv pins s2 σ H1 _ I2 q) λw3 s3 ⟨y,H2,I3,ry,q3⟩=>thn (hop pins s3 σ H2 v y u w3 _ I3 ru ry q3) λw4 s4 ⟨z,H3,I4,rz,dx',fs',ea',l',q4⟩=>?_;exact pW I4 ea' c n l' rz λs5 I5=>⟨σ,_,I5,q4⟩
def DO:V→V→Hp→VK→Prop:=λx y H Q=>∃i j,x=.int i∧y=.int j∧Q (.int (i+j)) H
theorem vb:KC X .Add DO:=by rintro pins s σ H x y u v Q I rx ry ⟨i,j,rfl,rfl,q⟩;obtain⟨t,rfl⟩:=(show ∃t,u=Value.int i t from rx);obtain⟨t',rfl⟩:=(show ∃t',v=Value.int j t' from ry);exact PyProof.Rows.iadd_int ⟨.int (i+j),H,I.tok _,⟨_,rfl⟩,q⟩
end
section
variable {X:Cx}{pins:List (Addr×Obj)}{σ:St}{H:Hp}{s:Shared}{A:Around}{E:Value→Shared→Prop}{Q:Value→Shared→Prop}{c:Value}{b:Bool}
inductive lb(K:aA)(H:Hp):V→Value→Prop where
 | non:lb K H .non (.type "NoneType")
 | bl(x:Bool):lb K H (.bl x) (.type "bool")
 | int(i:Int):lb K H (.int i) (.type "int")
 | str(x:Str):lb K H (.str x) (.type "str")
 | flt(x:UInt64):lb K H (.flt x) (.type "float")
 | lst{a:Addr}{xs:List V}(e:H a=some (.lst xs)):lb K H (.ref a) (.type "list")
 | frz{a:Addr}{o:Obj}{xs:List V}(e:H a=some (.frz o (.lst xs))):lb K H (.ref a) (.type "list")
 | tup{a:Addr}{xs:List V}(e:H a=some (.tup xs)):lb K H (.ref a) (.type "tuple")
 | dK{a:Addr}{kvs:List (fE×V)}(e:H a=some (.dK kvs)):lb K H (.ref a) (.type "dict")
 | dT{a:Addr}{kvs:List (List fE×V)}(e:H a=some (.dT kvs)):lb K H (.ref a) (.type "dict")
 | ins{a C dx:Addr}{fs:List (Str×V)}(e:H a=some (.ins C dx fs))(cl:vt K C)(ha:PySem.W.findIn K (.ref C) "__class__"=some (some (.builtin "object.__class__")))
   (hn:PySem.W.specialIn K (.builtin "object.__class__") "__get__"=some (some (.builtin "getset_descriptor.__get__"))) (htk:PySem.W.takesIn K (.builtin "object.__class__")=some true)
   (hm:PySem.W.mroIn K C (.type "object")=some true):lb K H (.ref a) (.ref C)
theorem yS{x:V}{u t:Value}(I:eU X pins σ H s)(rx:fM x u)(ty:lb X.K H x t)(e:PySem.W.kitOne X.K t c=some b)(h:∀tk,Q (.bool b) {s with toks:=tk}):
  wpAny (model X.prog X.w) A (call (.builtin "isinstance") [u,c]) Q E s:=by
 cases ty with
 | non=>cases(show u=Value.none from rx);exact bE PySem.W.kitx_none I.kIn aH e (λz=>nomatch z) h
 | bl y=>cases(show u=Value.bool y from rx);exact bE PySem.W.kitx_bool I.kIn aH e (λz=>nomatch z) h
 | int i=>obtain⟨t,q⟩:=(show ∃t,u=Value.int i t from rx);cases q;exact bE PySem.W.kitx_int I.kIn aH e (λz=>nomatch z) h
 | str y=>obtain⟨t,q⟩:=(show ∃t,u=Value.str y t from rx);cases q;exact bE PySem.W.kitx_str I.kIn aH e (λz=>nomatch z) h
 | flt y=>obtain⟨t,q⟩:=(show ∃t,u=Value.float y t from rx);cases q;exact bE PySem.W.kitx_float I.kIn aH e (λz=>nomatch z) h
 | @lst a xs ea=>
  cases(show u=Value.ref a from rx);obtain⟨_,_,n,_,h1⟩:=(show gB X.prog X.w H s.heap a (.lst xs)from I.hok a _ ea);exact bE b9 I.kIn ⟨_,h1,rfl⟩ e (λz=>nomatch z) h
 | @frz a ob xs ea=>
  cases(show u=Value.ref a from rx);obtain⟨_,_,_,n,_,h1⟩:=(show gB X.prog X.w H s.heap a (.frz ob (.lst xs))from I.hok a _ ea);exact bE b9 I.kIn ⟨_,h1,rfl⟩ e (λz=>nomatch z) h
 | @tup a xs ea=>
  cases(show u=Value.ref a from rx);obtain⟨_,_,_,p⟩:=(show gB X.prog X.w H s.heap a (.tup xs)from I.hok a _ ea);obtain⟨o,h1,h2,_⟩:=p;exact bE PySem.W.kitx_tuple I.kIn ⟨o,h1,h2⟩ e (λz=>nomatch z) h
 | @dK a kvs ea=>
  cases(show u=Value.ref a from rx);obtain⟨_,_,vs,_,p⟩:=(show gB X.prog X.w H s.heap a (.dK kvs)from I.hok a _ ea);obtain⟨o,es,ep,h1,h2,_⟩:=p;exact bE cA I.kIn ⟨o,h1,h2.1⟩ e (λz=>nomatch z) h
 | @dT a kvs ea=>
  cases(show u=Value.ref a from rx);obtain⟨_,_,xs,_,o,es,ep,h1,h2,_⟩:=(show gB X.prog X.w H s.heap a (.dT kvs)from I.hok a _ ea);exact bE cA I.kIn ⟨o,h1,h2.1⟩ e (λz=>nomatch z) h
 | @ins a C dx fs ea cl ha hn htk hm=>cases(show u=Value.ref a from rx);obtain⟨mA,O,_⟩:=mh I.hok ea;obtain⟨od,J,_⟩:=O.look;exact bE (PySem.W.kitx_own (cl.get _) cl.hd ha hn htk hm) I.kIn J e (λz=>nomatch z) h
end
end L2
namespace L2
open PySem PySem.Spec PyProof.Rows
structure ii(k:Nat)(A:Around):Prop where
 hd:A.handled=none
 dp:A.depth+3*k+5<recursionLimit
 un:A.units+16*k+200<cLine
theorem ii.mono{j k:Nat}{A:Around}(r:ii k A)(h:j≤k):ii j A:=⟨r.hd,by have:=r.dp;lia,by have:=r.un;lia⟩
theorem ii.deeper{k:Nat}{A:Around}(r:ii (k+1) A)(env:Env):ii k (A.deeper env):=
 ⟨r.hd,by have:=r.dp;show A.depth+1+3*k+5<_;lia,by have:=r.un;show A.units+3+16*k+200<_;lia⟩
theorem vW{A:Around}{C:Addr}{us:List Value}{kw:List (Str×Value)}:(A.under (.builtin "type.__call__" ⟨.ref C::us,kw⟩)).depth=A.depth+1:=by
 first|rfl|simp[Around.under,Code.weight,Code.isCreation,Code.isGuard,Code.isCaller,Code.frames,Code.isFrame,guardIds]
theorem vV{A:Around}{C:Addr}{us:List Value}{kw:List (Str×Value)}:(A.under (.builtin "type.__call__" ⟨.ref C::us,kw⟩)).units=A.units+1:=by
 first|rfl|simp[Around.under,Code.cUnits,Code.frames,Code.isFrame]
theorem ii.make{k:Nat}{A:Around}(r:ii (k+1) A)(C:Addr)(us:List Value)(kw:List (Str×Value)):ii k (A.under (.builtin "type.__call__" ⟨.ref C::us,kw⟩)):=
 ⟨r.hd,by have:=r.dp;rw[vW];lia,by have:=r.un;rw[vV];lia⟩
theorem ii.depth{k:Nat}{A:Around}(r:ii k A):A.depth<recursionLimit:=by have:=r.dp;lia
theorem ii.units{k:Nat}{A:Around}(r:ii k A):A.units+64<cLine:=by have:=r.un;lia
theorem ii.units0{k:Nat}{A:Around}(r:ii k A):A.units<cLine:=by have:=r.un;lia
def dW:TA:=λ_ H Q=>Q [] H
def dM(ta:TE)(tr:TA):TA:=λσ H Q=>ta σ H λx H1=>tr σ H1 λxs H2=>Q (x::xs) H2
section
variable {X:Cx}{e:Expr}{es:List Expr}{te:TE}{t:TA}{pos:Pos}
theorem fb:PA X [] dW:=λ_ _ _ _ H Q I h=>Calls.spliced_nil ⟨[],H,I,.nil,h⟩
theorem dz(ha:PE X e te)(hr:PA X es t)(hs:starEach (e::es) X.env=(false,eval e X.env)::starEach es X.env:=by rfl):PA X (e::es) (dM te t):=by intro pos pins s σ H Q I h;rw[hs];show wpAny _ _ (spliced ((false,eval e X.env)::backTo pos (starEach es X.env))) _ _ s;refine Calls.spliced_cons (thn (ha pins s σ H _ I h) λu s1 ⟨x,H1,I1,r1,q1⟩=>?_);exact thn (hr pos pins s1 σ H1 _ I1 q1) λus s2 ⟨xs,H2,I2,r2,q2⟩=>⟨x::xs,H2,I2,.cons r1 r2,q2⟩
def fP(t:TA):TE:=λσ H Q=>t σ H λxs H1=>xs.length≤sizeLine∧ku H1 (.tup xs) Q
def fX(t:TA):TE:=λσ H Q=>t σ H λxs H1=>xs.length≤sizeLine∧ku H1 (.lst xs) Q
theorem eQ{x1}(h:PA X es t):PE X (.Tuple es x1 pos) (fP t):=by intro pins s σ H Q I hq;refine wpAny_Tuple_spliced (thn (h pos pins s σ H _ I hq) λus s1 ⟨xs,H1,I1,r,z,q⟩=>⟨by rw[←r.length];exact z,?_⟩);have hf:H1 s1.heap.objs.size=none:=I1.hok.fresh (aC _);refine⟨.ref s1.heap.objs.size,upd H1 s1.heap.objs.size (.tup xs),I1.laid (t':=s1.toks) (λb u e=>Heap.get?_push_of_some _ e) (aC _) ?_,rfl,q _ hf⟩;exact⟨z,us,r,⟨_,Heap.get?_push_size _ rfl,rfl,_,rfl⟩⟩
theorem eT(h:PA X es t):PE X (.List es pos) (fX t):=by intro pins s σ H Q I hq;refine wpAny_List_spliced (thn (h pos pins s σ H _ I hq) λus s1 ⟨xs,H1,I1,r,z,q⟩=>⟨by rw[←r.length];exact z,?_⟩);have hf:H1 s1.heap.objs.size=none:=I1.hok.fresh (aC _);refine⟨.ref s1.heap.objs.size,upd H1 s1.heap.objs.size (.lst xs),I1.laid (t':=s1.toks) (λb u e=>Heap.get?_push_of_some _ e) (aC _) ?_,rfl,q _ hf⟩;exact⟨z,us,0,r,Heap.get?_push_size _ rfl⟩
end
abbrev Sp:=List V→Hp→VK→XK→Prop
abbrev yn:=List Env→Hp→Shared→XK→Value→Shared→Prop
structure vq(P:Program)(w:World)(K:aA)(mg:Str→Option Value)(base:Heap)(A:Around)(outer:List Env)(s:Shared)(H:Hp):Prop where
 frames:A.frames=some outer
 mod:Mod K mg base
 bs:∀b o,base.get? b=some o→s.heap.get? b=some o∧H b=none
 bsz:base.objs.size≤s.heap.objs.size
 funs:s.heap.FunFrames base outer
 frf:∀b∈yW outer,H b=none
 hok:mO P w H s.heap
 bare:AllBare s.gens
def CE(outer:List Env)(P:Program)(w:World)(H:Hp)(s:Shared)(Q:VK)(u:Value)(s':Shared):Prop:=
 ∃v H',s'.os=s.os∧AllBare s'.gens∧Un (yW outer) [] H H' s.heap s'.heap∧mO P w H' s'.heap∧fM v u∧Q v H'
def CR(CX:yn)(outer:List Env)(P:Program)(w:World)(H:Hp)(s:Shared)(Q:VK)(E:XK)(r:Result)(s':Shared):Prop:=
 match r with
 | .ok (.ret u)=>CE outer P w H s Q u s'
 | .ok _=>False
 | .error e=>CX outer H s E e s'
structure lL(P:Program)(w:World)(K:aA)(mg:Str→Option Value)(base:Heap)(CX:yn)(k:Nat)(f:Addr)(fd:FuncData)(ps:List Str)(sp:Sp):Prop where
 len:∀vs H Q E,sp vs H Q E→vs.length=ps.length
 run:∀(A:Around)(outer:List Env)(s:Shared)(H:Hp)(args:Args)(us:List Value)(vs:List V)(Q:VK)(E:XK),ii k A→vq P w K mg base A outer s H→BindsTo s fd args (ps.zip us)→fG vs us→sp vs H Q E→
  codeAny (model P w) A (.call (.ref f) args) (CR CX outer P w H s Q E) s
theorem lL.imp{P:Program}{w:World}{K:aA}{mg:Str→Option Value}{base:Heap}{CX:yn}{k:Nat}{f:Addr}{fd:FuncData}{ps:List Str}{sp sp':Sp}(F:lL P w K mg base CX k f fd ps sp)
  (h:∀vs H Q E,sp' vs H Q E→sp vs H Q E):lL P w K mg base CX k f fd ps sp':=
 ⟨λvs H Q E q=>F.len vs H Q E (h _ _ _ _ q),λA outer s H args us vs Q E hr he hb hv hs=>F.run A outer s H args us vs Q E hr he hb hv (h _ _ _ _ hs)⟩
theorem vq.make{P:Program}{w:World}{K:aA}{mg:Str→Option Value}{base:Heap}{A:Around}{outer:List Env}{s:Shared}{H:Hp}(e:vq P w K mg base A outer s H)(C:Addr)(us:List Value)(kw:List (Str×Value)):
  vq P w K mg base (A.under (.builtin "type.__call__" ⟨.ref C::us,kw⟩)) outer s H:=⟨by first|exact e.frames|(simpa[Around.under,Code.envs,Code.isFrame,pushEnvs]using e.frames),e.mod,e.bs,e.bsz,e.funs,e.frf,e.hok,e.bare⟩
section
variable {X:Cx}{pins:List (Addr×Obj)}{σ:St}{H:Hp}{s s':Shared}
theorem eU.env0(I:eU X pins σ H s):vq X.prog X.w X.K X.mg X.base X.A X.stack s H:=
 ⟨I.ok.frames,I.ok.mod,I.bs,aW I.ok.bsz I.sz,I.stack,I.stkFree,I.hok,I.bare⟩
theorem eU.after{Q:VK}{u:Value}(I:eU X pins σ H s)(h:CE X.stack X.prog X.w H s Q u s'):EP X pins σ Q u s':=by obtain⟨v,H',os,bare,un,hok,r,q⟩:=h;obtain⟨hh,g,d,t,os'⟩:=s';obtain rfl:os'=s.os:=os;exact⟨v,H',I.call (h':=hh) (g':=g) (d':=d) (t':=t) (ch:=[]) un hok bare (λb z=>absurd z (by simp)),r,q⟩
end
def eV(sp:Sp)(dvs:List V)(E:XK)(t:TA):TE:=λσ H Q=>t σ H λvs H1=>sp (vs++dvs) H1 Q E
def jm(C:Addr)(m:Str)(sp:Sp)(dvs:List V)(E:XK)(ta:TE)(t:TA):TE:=λσ H Q=>ta σ H λx H1=>∃a dx fs,x=.ref a∧H1 a=some (.ins C dx fs)∧fs.lookup m=none∧
 t σ H1 λvs H2=>sp (x::(vs++dvs)) H2 Q E
def tQ(C:Addr)(sp:Sp)(dvs:List V)(E:XK)(t:TA):TE:=λσ H Q=>t σ H λvs H1=>∀x dx,H1 x=none→H1 dx=none→dx≠x→
 sp (.ref x::(vs++dvs)) (upd (upd H1 dx (.own x)) x (.ins C dx [])) (λv H2=>v=.non∧Q (.ref x) H2) E
def m6(K:aA)(fd:FuncData)(ps:List Str)(ds:List Value):Prop:=
 ∀(s:Shared)(us:List Value),K.In s.heap→(us++ds).length=ps.length→BindsTo s fd ⟨us,[]⟩ (ps.zip (us++ds))
theorem m6.all{K:aA}{fd:FuncData}{ps:List Str}(h:∀us:List Value,us.length=ps.length→bindArgs fd ⟨us,[]⟩=pure (ps.zip us)):m6 K fd ps []:=λs us _ hl=>by rw[aZ]at hl⊢;exact .of_eq (h us hl)
def oC(CX:yn)(X:Cx)(E:XK):Prop:=∀(pins:List (Addr×Obj))(σ:St)(H:Hp)(s:Shared)(e:Value)(s':Shared),eU X pins σ H s→CX X.stack H s E e s'→X.xe e s'
section
variable {X:Cx}{CX:yn}{k:Nat}{f C:Addr}{fd:FuncData}{ps:List Str}{sp:Sp}{dvs:List V}{ds:List Value}{E:XK}{x m:Str}{p pos apos:Pos}{e o:Expr}{es:List Expr}{ta:TE}{t:TA}
theorem AL{pins:List (Addr×Obj)}{σ:St}{H:Hp}{s:Shared}{Q:VK}{us:List Value}{vs:List V}(F:lL X.prog X.w X.K X.mg X.base CX k f fd ps sp)(hr:ii k X.A)(hb:m6 X.K fd ps ds)(hd:fG dvs ds)(hx:oC CX X E)
  (I:eU X pins σ H s) (r:fG vs us) (h:sp (vs++dvs) H Q E):wpAny (model X.prog X.w) X.A (call (.ref f) us) (EP X pins σ Q) X.xe s:=by
 have r2:fG (vs++dvs) (us++ds):=r.append hd;have hl:(us++ds).length=ps.length:=by rw[←r2.length];exact F.len _ _ _ _ h
 refine wpAny_call (codeAny_mono (F.run X.A X.stack s H ⟨us,[]⟩ (us++ds) (vs++dvs) Q E hr I.env0 (hb s us I.kIn hl) r2 h) λr s' hq=>?_);cases r with
 | error e=>exact hx pins σ H s e s' I hq
 | ok fl=>
  cases fl with
  | ret u=>exact I.after hq
  | next=>exact False.elim hq
  | brk=>exact False.elim hq
  | cont=>exact False.elim hq
theorem DX(F:lL X.prog X.w X.K X.mg X.base CX k f fd ps sp)(hr:ii k X.A)(hg:Gl X x)(hm:X.mg x=some (.ref f))(hk:PySem.W.keepIn X.K (.ref f)=true)(hb:m6 X.K fd ps ds)(hd:fG dvs ds)(hx:oC CX X E)
  (ha:PA X (e::es) t) (hdb:(x==("__debug__":Str))=false:=by decide) (he:starEach (e::es) X.env=(false,eval e X.env)::starEach es X.env:=by rfl) (hpl:(backTo pos (starEach es X.env)).any (·.1)=false:=by rfl):
  PE X (.Call (.Name x p) (e::es) [] pos) (eV sp dvs E t):=by
 intro pins s σ H Q I h;refine wpAny_Call_Name_kw (sJ I hg hm ?_ hdb);refine cN (h₀:=X.base) I.ok.mod.kin hk (thn (ha pos pins s σ H _ I h) λus s1 ⟨vs,H1,I1,r,q⟩=>⟨I1.kIn,?_⟩) he hpl;exact AL F hr hb hd hx I1 r q
theorem DU{pl:Sem Bool}(he:PE X o ta)(c:vt X.K C)(hm:lK X.K C m f)(F:lL X.prog X.w X.K X.mg X.base CX k f fd ps sp)(hr:ii k X.A)(hb:m6 X.K fd ps ds)(hd:fG dvs ds)(hx:oC CX X E)(ha:PA X (e::es) t)
  (hst:starEach (e::es) X.env=(false,eval e X.env)::starEach es X.env:=by rfl) (hpl:(backTo pos (starEach es X.env)).any (·.1)=false:=by rfl)
  (ht:eval (.Call (.Attribute o m apos) (e::es) [] pos) X.env=(do
   let ov ← eval o X.env
   standAt apos.atName
   let (f,first) ← holding [ov] (getMethod ov m pl)
   callWith pos f first (backTo pos (starEach (e::es) X.env)) (backToKw pos (keywordEach [] X.env))):=by rfl):
  PE X (.Call (.Attribute o m apos) (e::es) [] pos) (jm C m sp dvs E ta t):=by
 intro pins s σ H Q I h;refine PySem.W.methodCall_KW (pl:=pl) (thn (he pins s σ H _ I h) λu s1 ⟨x,H1,I1,rx,a,dx,fs,ex,ea,l,q⟩=>?_) ht;subst ex;obtain rfl:u=Value.ref a:=rx;refine vc I1 ea c hm l ?_;refine cN (first:=[.ref a]) (h₀:=X.base) I.ok.mod.kin hm.kp (thn (ha pos pins s1 σ H1 _ I1 q) λus s2 ⟨vs,H2,I2,r,q2⟩=>⟨I2.kIn,?_⟩) hst hpl;exact AL (us:=.ref a::us) (vs:=.ref a::vs) F hr hb hd hx I2 (.cons rfl r) q2
structure Mk(K:aA)(C f:Addr):Prop where
 makes:PySem.W.makesIn K C=true
 init:PySem.W.findIn K (.ref C) "__init__"=some (some (.ref f))
 fn:PySem.W.isFn K (.ref f)=true
 kp:PySem.W.keepIn K (.ref C)=true
theorem AK{pins:List (Addr×Obj)}{σ:St}{H:Hp}{s:Shared}{Q:VK}{us:List Value}{vs:List V}(M:Mk X.K C f)(F:lL X.prog X.w X.K X.mg X.base CX k f fd ps sp)(hr:ii (k+1) X.A)(hb:m6 X.K fd ps ds)(hd:fG dvs ds)
  (hx:oC CX X E) (I:eU X pins σ H s) (r:fG vs us)
  (h:∀x dx,H x=none→H dx=none→dx≠x→sp (.ref x::(vs++dvs)) (upd (upd H dx (.own x)) x (.ins C dx [])) (λv H2=>v=.non∧Q (.ref x) H2) E):
  wpAny (model X.prog X.w) X.A (call (.ref C) us) (EP X pins σ Q) X.xe s:=by
 have hq:=h (s.heap.objs.size+1) s.heap.objs.size (I.hok.fresh (bQ _)) (I.hok.fresh (aC _)) (aL (b5 _));have I2:=eU.made (C:=C) I;have r2:fG (V.ref (s.heap.objs.size+1)::(vs++dvs)) (Value.ref (s.heap.objs.size+1)::(us++ds)):=.cons rfl (r.append hd);have hl:(Value.ref (s.heap.objs.size+1)::us++ds).length=ps.length:=by have e:=r2.length;rw[F.len _ _ _ _ hq]at e;exact e.symm
 refine wpAny_call (Az (f:=f) I.kIn M.makes M.init (beq_iff_eq.mp M.fn) (codeAny_mono (F.run _ X.stack _ _ ⟨Value.ref (s.heap.objs.size+1)::us,[]⟩ (Value.ref (s.heap.objs.size+1)::(us++ds)) _ _ E (hr.make C us [])
  (I2.env0.make C us []) (hb _ (Value.ref (s.heap.objs.size+1)::us) I2.kIn hl) r2 hq) λr s' hq'=>?_))
 cases r with
 | error e=>exact hx pins σ _ _ e s' I2 hq'
 | ok fl=>
  cases fl with
  | ret u=>obtain⟨v,H',I3,rv,ev,q3⟩:=I2.after hq';subst ev;exact⟨rv,⟨V.ref (s.heap.objs.size+1),H',I3,rfl,q3⟩⟩
  | next=>exact False.elim hq'
  | brk=>exact False.elim hq'
  | cont=>exact False.elim hq'
theorem DV(M:Mk X.K C f)(F:lL X.prog X.w X.K X.mg X.base CX k f fd ps sp)(hr:ii (k+1) X.A)(hg:Gl X x)(hm:X.mg x=some (.ref C))(hb:m6 X.K fd ps ds)(hd:fG dvs ds)(hx:oC CX X E)
  (ha:PA X (e::es) t) (hdb:(x==("__debug__":Str))=false:=by decide) (he:starEach (e::es) X.env=(false,eval e X.env)::starEach es X.env:=by rfl) (hpl:(backTo pos (starEach es X.env)).any (·.1)=false:=by rfl):
  PE X (.Call (.Name x p) (e::es) [] pos) (tQ C sp dvs E t):=by
 intro pins s σ H Q I h;refine wpAny_Call_Name_kw (sJ I hg hm ?_ hdb);refine cN (h₀:=X.base) I.ok.mod.kin M.kp (thn (ha pos pins s σ H _ I h) λus s1 ⟨vs,H1,I1,r,q⟩=>⟨I1.kIn,?_⟩) he hpl;exact AK M F hr hb hd hx I1 r q
end
section
variable {X:Cx}{CX:yn}{k:Nat}{f C:Addr}{fd:FuncData}{ps ks:List Str}{sp:Sp}{E:XK}{x m:Str}{p pos apos kpos:Pos}{e o:Expr}{es:List Expr}{kws:List Keyword}{te ta:TE}{t tk:TA}{nm:Option Str}
variable {g:List Value→List Value→List Value}{gV:List V→List V→List V}
end
structure my(N P:List Str)(sc:Scope):Prop where
 kind:sc.kind=.function
 co:sc.isCoroutine=false
 gen:sc.isGenerator=false
 nd:N.Nodup
 pre:N.take P.length=P
 par:∀x∈P,sc.names.lookup x=some .local∨sc.names.lookup x=some .cell
 nofree:∀y∈sc.names,y.2≠.free
theorem rC{kindOf:Str→Option NameKind}{x:Str}:∀{binds:List (Str×Value)}{m:Str→Option Value},(∀v,(x,v)∉binds)→bindL kindOf binds m x=m x
 | [],_,_=>rfl
 | (n,v)::r,m,h=>by
  unfold bindL;rw[rC λw hw=>h w (bC _ hw)];split
  ·have:x≠n:=by rintro rfl;exact h v bb
   simp[this]
  ·rfl
theorem rE{kindOf:Str→Option NameKind}{x:Str}:∀{binds:List (Str×Value)}{m:Str→Option Value},(∀v,(x,v)∉binds)→bindC kindOf binds m x=m x
 | [],_,_=>rfl
 | (n,v)::r,m,h=>by
  unfold bindC;rw[rE λw hw=>h w (bC _ hw)];split
  ·rfl
  ·have:x≠n:=by rintro rfl;exact h v bb
   simp[this]
theorem rD{kindOf:Str→Option NameKind}{x:Str}{v:Value}:∀{P:List Str}{vs:List Value}{i:Nat}{m:Str→Option Value},P.Nodup→P[i]?=some x→vs[i]?=some v→kindOf x=some .local→
  bindL kindOf (P.zip vs) m x=some v
 | [],_,_,_,_,h,_,_=>by simp at h
 | _::_,[],_,_,_,_,h,_=>by simp at h
 | p::P,w::vs,0,m,nd,h1,h2,hk=>by simp at h1 h2;subst h1;subst h2;show bindL kindOf ((p,w)::P.zip vs) m p=_;unfold bindL;rw[rC λv hv=>(bR.mp nd).1 (cB hv).1,if_pos hk];simp
 | p::P,w::vs,i+1,m,nd,h1,h2,hk=>by show bindL kindOf ((p,w)::P.zip vs) m x=_;unfold bindL;exact rD (i:=i) (bR.mp nd).2 (by simpa using h1) (by simpa using h2) hk
theorem rF{kindOf:Str→Option NameKind}{x:Str}{v:Value}:∀{P:List Str}{vs:List Value}{i:Nat}{m:Str→Option Value},P.Nodup→P[i]?=some x→vs[i]?=some v→kindOf x≠some .local→
  bindC kindOf (P.zip vs) m x=some v
 | [],_,_,_,_,h,_,_=>by simp at h
 | _::_,[],_,_,_,_,h,_=>by simp at h
 | p::P,w::vs,0,m,nd,h1,h2,hk=>by simp at h1 h2;subst h1;subst h2;show bindC kindOf ((p,w)::P.zip vs) m p=_;unfold bindC;rw[rE λv hv=>(bR.mp nd).1 (cB hv).1,if_neg hk];simp
 | p::P,w::vs,i+1,m,nd,h1,h2,hk=>by show bindC kindOf ((p,w)::P.zip vs) m x=_;unfold bindC;exact rF (i:=i) (bR.mp nd).2 (by simpa using h1) (by simpa using h2) hk
def start(N:List Str)(vs:List V):St:=vs.map some++List.replicate (N.length-vs.length) none
def oU(CX:yn)(P:Program)(w:World)(K:aA)(mg:Str→Option Value)(base:Heap)(N:List Str)(qual:Str)(scope:Scope)(f:Addr)(cd:Value)(A:Around)(outer:List Env)(s:Shared)(H:Hp)(E:XK):Cx where
 prog:=P
 w:=w
 K:=K
 mg:=mg
 base:=base
 A:=A.deeper (envOfC qual scope s.heap.objs.size f cd)
 N:=N
 s₀:=s
 H₀:=H
 env:=envOfC qual scope s.heap.objs.size f cd
 outer:=outer
 stack:=envOfC qual scope s.heap.objs.size f cd::outer
 ex:=[]
 calm:=true
 fn:=λ_=>true
 pn:=[]
 xe:=λe s'=>wpAny (model P w) (A.deeper (envOfC qual scope s.heap.objs.size f cd)) (leaving (envOfC qual scope s.heap.objs.size f cd) e) (λ_ s''=>CX outer H s E e s'') (λe' s''=>CX outer H s E e' s'') s'
theorem uX{sc:Scope}{n:Nat}{x:Str}(h:sc.names.lookup x=some .cell):∃c,(cellsFrom n sc.names []).lookup x=some c:=by have q:=cu sc.names n [] (.inl h);exact cw.mp q
theorem kO{CX:yn}{P:Program}{w:World}{K:aA}{mg:Str→Option Value}{base:Heap}{N ps:List Str}{qual:Str}{scope:Scope}{f:Addr}{cd:Value}{A:Around}{outer:List Env}{s s1:Shared}{H:Hp}{E:XK}{us:List Value}{vs:List V}
  (S:my N ps scope) (hd:A.handled=none) (e0:vq P w K mg base A outer s H) (hl:vs.length=ps.length) (r:fG vs us)
  (x:InCallC s s.heap.objs.size (bindL (envOfC qual scope s.heap.objs.size f cd).kindOf (ps.zip us) λ_=>none) (cellsFrom (s.heap.objs.size+1) scope.names []) (bindC (envOfC qual scope s.heap.objs.size f cd).kindOf (ps.zip us) λ_=>none) s1):
  eU (oU CX P w K mg base N qual scope f cd A outer s H E) [] (start N vs) H s1:=by
 have hpl:ps.length≤N.length:=by have:=congrArg List.length S.pre;rw[aj]at this;lia
 obtain⟨h1,tk,rfl,hk⟩:=x.done;have noA:∀b:Addr,b∉(oU CX P w K mg base N qual scope f cd A outer s H E).ex:=λb z=>absurd (show b∈([]:List Addr)from z) (by simp);refine⟨⟨e0.mod,S.kind,rfl,rfl,aC _,λy z c h1 h2=>?_,λy hy=>?_,λy c _ h=>?_,λ_=>hd,Around.frames_deeper e0.frames,.inr ⟨rfl,rfl⟩,λb z=>absurd z (noA b),e0.bs,e0.bsz,λb _ _=>noA b,λb z=>absurd z (noA b),e0.funs,e0.frf⟩,
  rfl,e0.bare,Un.kept hk,⟨_,x.toInCall.ns,λi y v h1 h2 h3=>?_⟩,λy c h=>⟨_,x.cell y c h⟩,e0.hok.fresh (aC _),λy c h=>?_,λp hp=>absurd (show p∈([]:List (Addr×Obj))from hp) (by simp),e0.hok.kept hk,?_⟩
 ·exact name_of_addr x.apart (bp h1) (bp h2)
 ·have hy:scope.names.lookup y=some .cell∨scope.names.lookup y=some .free:=hy;rcases hy with hy|hy
  ·exact uX hy
  ·exact absurd rfl (S.nofree _ (bp hy))
 ·exact bO (x.above y c (bp h))
 ·have hi:i<vs.length:=by
   unfold start at h2;by_cases hi:i<vs.length
   ·exact hi
   ·rw[bL (by simpa using hi)]at h2;rw[cy]at h2;split at h2<;>cases h2
  have ha:vs[i]?=some v:=by
   unfold start at h2;rw[ax (by simpa using hi),ae]at h2;cases e:vs[i]? with
   | none=>rw[e]at h2;cases h2
   | some a=>rw[e]at h2;cases h2;rfl
  obtain⟨u,hu,rv⟩:=r.get ha;have hp:ps[i]?=some y:=by rw[←S.pre,cz (by lia)];exact h1
  have ndP:ps.Nodup:=by rw[←S.pre];exact S.nd.sublist (List.take_sublist _ _)
  refine⟨u,rv,?_⟩;rcases S.par y (ac hp)with k|k
  ·exact .inl ⟨k,rD ndP hp hu k⟩
  ·obtain⟨c,e⟩:=uX (n:=s.heap.objs.size+1) k;refine .inr ⟨.inl k,c,e,?_⟩;have q:=x.cell y c e;rw[rF ndP hp hu (by show scope.names.lookup y≠_;rw[k];decide)]at q;exact q
 ·exact e0.hok.fresh (bO (x.above y c (bp h)))
 ·unfold start;show _=N.length;rw[aD,aa,cO];lia
theorem Ju{CX:yn}{P:Program}{w:World}{K:aA}{mg:Str→Option Value}{base:Heap}{k:Nat}{f:Addr}{name qual:Str}{params:Arguments}{body:List Stmt}{scope:Scope}{dV kV doc pm cdv ct oc:Value}{an od:Option Addr}
  {osl:Array (Option Value)} {N ps:List Str} {sp:Sp} (lk:K.lookup f=some ⟨oc,od,.func (PySem.W.fnOf name qual params body scope dV kV doc pm an cdv ct),osl⟩) (hcd:PySem.W.codeIn K cdv qual=true) (S:my N ps scope)
  (len:∀vs H Q E,sp vs H Q E→vs.length=ps.length)
  (hbody:∀(A:Around)(outer:List Env)(s:Shared)(H:Hp)(vs:List V)(Q:VK)(E:XK),ii k (A.deeper (envOfC qual scope s.heap.objs.size f cdv))→sp vs H Q E→
   ∃t,sy (oU CX P w K mg base N qual scope f cdv A outer s H E) body t∧t {nx:=λ_ H'=>Q .non H',rt:=Q} (start N vs) H):
  lL P w K mg base CX (k+1) f (PySem.W.fnOf name qual params body scope dV kV doc pm an cdv ct) ps sp:=by
 refine⟨len,λA outer s H args us vs Q E hr e0 hb r hsp=>?_⟩;have hl:=len _ _ _ _ hsp;have KX:K.In s.heap:=e0.mod.kin.keeps λb o e=>(e0.bs b o e).1;have lim:s.heap.NoLimit:=e0.mod.nolimit.keeps λb o e=>(e0.bs b o e).1;have hkind:∀y∈ps.zip us,scope.names.lookup y.1=some .local∨(scope.names.lookup y.1=some .cell∧((cellsFrom (s.heap.objs.size+1) scope.names []).lookup y.1).isSome=true):=λ⟨n,v⟩ hy=>by
  rcases S.par n (cB hy).1 with q|q
  ·exact .inl q
  ·exact .inr ⟨q,cu _ _ _ (.inl q)⟩
 refine codeAny_call_function hr.depth (KX _ _ lk) rfl S.co S.gen rfl (PySem.W.codeRec_of KX hcd) (hb _ _ _ _ ?_);refine wpAny_newFunctionEnv_cells S.kind hkind λenv he s1 x=>?_;subst he;refine⟨lim.keeps x.toInCall.keep,codeAny_func ?_⟩;obtain⟨t,ht,hq⟩:=hbody A outer s H vs Q E (hr.deeper _) hsp;have I:eU (oU CX P w K mg base N qual scope f cdv A outer s H E) [] (start N vs) H s1:=kO S hr.hd e0 hl r x;refine wpAny_mono (ht [] s1 (start N vs) H _ I hq) (λfl s' hs=>?_) λe s' hs=>hs;have gi:∀{σ':St}{H':Hp}{v:V}{u:Value},eU (oU CX P w K mg base N qual scope f cdv A outer s H E) [] σ' H' s'→fM v u→Q v H'→CE outer P w H s Q u s':=
  λ{σ' H' v u} J rv q=>⟨v,H',J.os,J.bare,J.base,J.hok,rv,q⟩
 cases fl with
 | ret u=>obtain⟨v,σ',H',J,rv,q⟩:=hs;exact gi J rv q
 | next=>obtain⟨σ',H',J,q⟩:=hs;exact gi (v:=V.non) (u:=Value.none) J rfl q
 | brk=>obtain⟨_,_,_,q⟩:=hs;exact False.elim q
 | cont=>obtain⟨_,_,_,q⟩:=hs;exact False.elim q
end L2
namespace L2
open PySem PySem.Spec PyProof.Rows
section
variable {X:Cx}{x:Str}{p pos:Pos}{e:Expr}{es:List Expr}{t:TA}{id T:String}{r:List V→Hp→VK→Prop}
def gm(r:List V→Hp→VK→Prop)(t:TA):TE:=λσ H Q=>t σ H λvs H1=>r vs H1 Q
theorem dh(hc:kP X (.builtin id) r)(hg:Gl X x)(hm:X.mg x=none)(hv:bootBuiltins x=some (.builtin id))(ha:PA X (e::es) t)(hn:x≠"__name__":=by decide)(hdb:(x==("__debug__":Str))=false:=by decide)
  (he:starEach (e::es) X.env=(false,eval e X.env)::starEach es X.env:=by rfl) (hpl:(backTo pos (starEach es X.env)).any (·.1)=false:=by rfl):PE X (.Call (.Name x p) (e::es) [] pos) (gm r t):=by
 intro pins s σ H Q I h;refine wpAny_Call_Name_kw (jw I hg hm hv ?_ hn hdb);exact PyProof.Rows.callWith_builtin1 (thn (ha pos pins s σ H _ I h) λus s1 ⟨vs,H1,I1,r1,q1⟩=>hc pins s1 σ H1 vs us Q I1 r1 q1) he hpl
theorem iD(hc:kP X (.type T) r)(hg:Gl X x)(hm:X.mg x=none)(hv:bootBuiltins x=some (.type T))(ha:PA X (e::es) t)(hn:x≠"__name__":=by decide)(hdb:(x==("__debug__":Str))=false:=by decide)
  (he:starEach (e::es) X.env=(false,eval e X.env)::starEach es X.env:=by rfl) (hpl:(backTo pos (starEach es X.env)).any (·.1)=false:=by rfl):PE X (.Call (.Name x p) (e::es) [] pos) (gm r t):=by
 intro pins s σ H Q I h;refine wpAny_Call_Name_kw (jw I hg hm hv ?_ hn hdb);exact bP (thn (ha pos pins s σ H _ I h) λus s1 ⟨vs,H1,I1,r1,q1⟩=>hc pins s1 σ H1 vs us Q I1 r1 q1) he hpl
end
end L2
namespace HT
open PySem PyProof.Rows
section
open PySem.SeqAt
open PySem.AutoSeq1 (wpAny_loadPart')
open PySem.MeetsSeq PySem.MeetsSeq2 PySem.MeetsSeq3
end
section
variable {prog:Program}{w:World}{A:Around}{E:Value→Shared→Prop}{s:Shared}
theorem KU{t b:Addr}{vs ws:List Value}{Q:Value→Shared→Prop}(ht:IsTup s.heap t vs.toArray)(hb:IsTup s.heap b ws.toArray)(hv:vs≠[])
  (h1:ws=[]→Q (.ref t) s) (h2:ws≠[]→Q (.ref s.heap.objs.size) {s with heap:=s.heap.push {cls:=.type "tuple",data:=.seq (vs++ws).toArray}})
  (hsz:vs.length+ws.length≤sizeLine):wpAny (model prog w) A (binaryOp .Add (.ref t) (.ref b)) Q E s:=by
 obtain⟨⟨cls,dd,data,sl⟩,ho,hc,n,hd⟩:=id ht;obtain⟨⟨cls2,dd2,data2,sl2⟩,ho2,hc2,n2,hd2⟩:=id hb;simp only at hc hd hc2 hd2;subst hc hd hc2 hd2;have e:vs.toArray++ws.toArray=(vs++ws).toArray:=by simp
 by_cases hw:ws=[]
 ·exact concat_meets ⟨_,ho,rfl⟩ ⟨_,ho2,rfl⟩ noFill_tuple_add seq_tuple_add cP cQ (cR _ _)
   (tuple_addW1 t b vs.toArray ws.toArray n n2 dd dd2 sl sl2 (by simpa using hv) (by simp[hw])) ⟨ho,ho2,h1 hw⟩
 ·refine concat_meets ⟨_,ho,rfl⟩ ⟨_,ho2,rfl⟩ noFill_tuple_add seq_tuple_add cP cQ (cR _ _)
   (tuple_addW2 t b vs.toArray ws.toArray n n2 dd dd2 sl sl2 (by simpa using hv) (by simpa using hw) (by rw[aM,aM];exact hsz)) ⟨ho,ho2,?_⟩
  rw[e];exact h2 hw
def kH(n d:Nat):Option Int→Nat
 | none=>d
 | some v=>if v<0 then(v+(n:Int)).toNat else min v.toNat n
theorem Ij(n d:Nat):kH n d none=d:=rfl
theorem KL(n d k:Nat):kH n d (some (k:Int))=min k n:=by show(if(k:Int)<0 then((k:Int)+(n:Int)).toNat else min (k:Int).toNat n)=min k n;rw[if_neg (by lia),bc]
theorem Gc(n d:Nat)(hd:d≤n)(o:Option Int):kH n d o≤n:=by
 cases o with
 | none=>exact hd
 | some v=>
  show(if v<0 then(v+(n:Int)).toNat else min v.toNat n)≤n;by_cases hv:v<0
  ·rw[if_pos hv];lia
  ·rw[if_neg hv];exact Nat.min_le_right _ _
theorem xH(v:Int)(n d:Nat):(if v<0 then max (v+(n:Int)) 0 else min v (n:Int))=((kH n d (some v):Nat):Int):=by
 show(if v<0 then max (v+(n:Int)) 0 else min v (n:Int))=(((if v<0 then(v+(n:Int)).toNat else min v.toNat n):Nat):Int);by_cases hv:v<0
 ·simp only[if_pos hv];lia
 ·simp only[if_neg hv];lia
theorem vk(lo hi:Option Int)(n:Nat):Builtin.Slice.sliceAdjust lo hi 1 (n:Int)=(((kH n 0 lo:Nat):Int),((kH n n hi:Nat):Int)):=by
 have h1:¬((1:Int)<0):=by lia
 unfold Builtin.Slice.sliceAdjust;simp only[h1,if_false];refine Prod.ext ?_ ?_
 ·cases lo with
  | none=>rfl
  | some v=>exact xH v n 0
 ·cases hi with
  | none=>rfl
  | some v=>exact xH v n n
theorem vO(i j:Nat):Builtin.Slice.slicePlaces (i:Int) (j:Int) 1=j-i:=by
 unfold Builtin.Slice.slicePlaces;have h1:(1:Int)>0:=by lia
 simp only[h1,if_true,Int.ediv_one];split<;>lia
theorem pU{v:Value}{o:Option Int}{Q:Option Int→Shared→Prop}(p:IsPart v o)(h:Q o s):wpAny (model prog w) A (Builtin.Slice.slicePartIndex v) Q E s:=by
 cases p with
 | none=>exact slicePart_none h
 | int i t=>exact slicePart_int h
theorem kG{sl:Addr}{vl vu:Value}{lo hi:Option Int}{n:Nat}{Q:Int×Int×Nat→Shared→Prop}(hs:s.heap.IsSliceOf sl vl vu .none)(pl:IsPart vl lo)(pu:IsPart vu hi)
  (h:Q (((kH n 0 lo:Nat):Int),1,kH n n hi-kH n 0 lo) s):wpAny (model prog w) A (Builtin.Slice.sliceApplied (.ref sl) (pure (n:Int))) Q E s:=by
 obtain⟨os,hos,hcs,hds⟩:=id hs;unfold Builtin.Slice.sliceApplied Builtin.Slice.sliceFields;refine wpAny_bind (wpAny_bind (wpAny_field hos hds (x:=vl) rfl (wpAny_bind (wpAny_field hos hds (x:=vu) rfl (wpAny_bind (wpAny_field hos hds (x:=.none) rfl (wpAny_pure ?_)))))));refine wpAny_bind (slicePart_none ?_);show wpAny _ _ (if((1:Int)==0)=true then _ else _) _ _ s;rw[if_neg (by decide)];refine wpAny_bind (pU pl (wpAny_bind (pU pu (wpAny_bind (wpAny_pure ?_)))));show wpAny _ _ (match Builtin.Slice.sliceAdjust lo hi 1 (n:Int) with|(lo,hi)=>pure (lo,(1:Int),Builtin.Slice.slicePlaces lo hi 1)) _ _ s;rw[vk lo hi n];show wpAny _ _ (pure (((kH n 0 lo:Nat):Int),(1:Int),Builtin.Slice.slicePlaces ((kH n 0 lo:Nat):Int) ((kH n n hi:Nat):Int) 1)) _ _ s;rw[vO];exact wpAny_pure h
theorem Ae(xs:Array Value)(i k:Nat):((List.range k).filterMap λ(m:Nat)=>xs[((i:Int)+(m:Int)*1).toNat]?).toArray=((xs.toList.drop i).take k).toArray:=by
 have e:(λ(m:Nat)=>xs[((i:Int)+(m:Int)*1).toNat]?)=λm=>xs[i+m]?:=by
  funext m;have:((i:Int)+(m:Int)*1).toNat=i+m:=by lia
  rw[this]
 rw[e];have:=pick_run xs i k;rw[List.filterMap_map]at this;have e2:((λx=>xs[x]?)∘λx=>i+x)=λm=>xs[i+m]?:=rfl;rw[e2]at this;rw[this]
theorem w6{t sl:Addr}{eL:Array Value}{vl vu:Value}{lo hi:Option Int}{Q:Value→Shared→Prop}(ht:IsTup s.heap t eL)(hs:s.heap.IsSliceOf sl vl vu .none)(pl:IsPart vl lo)(pu:IsPart vu hi)
  (hw:¬(kH eL.size 0 lo=0∧kH eL.size eL.size hi=eL.size))
  (h:Q (.ref s.heap.objs.size) {s with heap:=s.heap.push {cls:=.type "tuple",data:=.seq ((eL.toList.drop (kH eL.size 0 lo)).take (kH eL.size eL.size hi-kH eL.size 0 lo)).toArray}})
  (hsz:eL.size≤sizeLine):wpAny (model prog w) A (getItem (.ref t) (.ref sl)) Q E s:=by
 have htake:sizeOk (.seq ((eL.toList.drop (kH eL.size 0 lo)).take (kH eL.size eL.size hi-kH eL.size 0 lo)).toArray):=by show((eL.toList.drop (kH eL.size 0 lo)).take (kH eL.size eL.size hi-kH eL.size 0 lo)).toArray.size≤sizeLine;rw[aM,aj,ai,bo];lia
 have hj:kH eL.size eL.size hi≤eL.size:=Gc _ _ (aC _) hi;obtain⟨os,hos,hcs,hds⟩:=id hs;have hTs:s.TypeIs (.ref sl) "slice":=⟨os,hos,hcs⟩;unfold getItem
 try with_reducible refine wpAny_holding ?_
 first|refine wpAny_bind (wpAny_pure ?_)|skip
 refine wpAny_bind (wpAny_sequenceKey ht.typeIs (by decide) ?_);refine wpAny_bind (wpAny_callSpecial?_slot (name:=Str.ofString "__getitem__") ht.typeIs be
  (wpAny_call_entry be ht.typeIs entry_tuple_getitem ?_ (args_tuple_getitem _ _)))
 show wpAny _ _ (Builtin.Tuple.tupleItemsOf (.ref t) >>= _) _ _ s;refine wpAny_bind (tupleItemsOf_ ht ?_);refine wpAny_bind (wpAny_typeOf hTs ?_);rw[if_pos (by decide)];refine wpAny_bind (kG hs pl pu ?_);have hno:¬((((kH eL.size 0 lo:Nat):Int)==0&&(1:Int)==1&&(kH eL.size eL.size hi-kH eL.size 0 lo)==eL.size)=true):=by intro q;rw[bf,bf]at q;have q1:((kH eL.size 0 lo:Nat):Int)=0:=eq_of_beq q.1.1;have q2:kH eL.size eL.size hi-kH eL.size 0 lo=eL.size:=eq_of_beq q.2;exact hw ⟨by lia,by lia⟩
 show wpAny _ _ (if(((kH eL.size 0 lo:Nat):Int)==0&&(1:Int)==1&&(kH eL.size eL.size hi-kH eL.size 0 lo)==eL.size)=true then _ else _) _ _ s;rw[if_neg hno,Ae]
 first
  | exact wpAny_bind (m:=Builtin.Tuple.tupleExact _) (wpAny_newObj_type (wpAny_pure ⟨_,rfl,wpAny_pure h⟩) htake)
  | exact wpAny_bind (m:=Builtin.Tuple.tupleExact _) (wpAny_newObj_type (wpAny_bind (wpAny_pure (wpAny_pure ⟨_,rfl,wpAny_pure h⟩))) htake)
  | exact wpAny_bind (wpAny_bind (m:=Builtin.Tuple.tupleExact _) (wpAny_newObj_type (wpAny_pure (wpAny_pure ⟨_,rfl,wpAny_pure h⟩)) htake))
  | exact wpAny_bind (wpAny_bind (m:=Builtin.Tuple.tupleExact _) (wpAny_newObj_type (wpAny_pure ⟨_,rfl,wpAny_pure h⟩) htake))
end
end HT
namespace L2
open PySem PySem.Spec PyProof.Rows
abbrev TO:=St→Hp→(Option Int→Hp→Prop)→Prop
def PO(X:Cx)(e:Option Expr)(t:TO):Prop:=
 ∀(pins:List (Addr×Obj))(s:Shared)(σ:St)(H:Hp)(Q:Option Int→Hp→Prop),eU X pins σ H s→t σ H Q→
  wpAny (model X.prog X.w) X.A (evalPart e X.env) (λu s'=>∃o H',eU X pins σ H' s'∧IsPart u o∧Q o H') X.xe s
def gI:TO:=λ_ H Q=>Q none H
def gH(t:TE):TO:=λσ H Q=>t σ H λx H1=>∃i,x=.int i∧Q (some i) H1
section
variable {X:Cx}{e:Expr}{te:TE}{lo hi:Option Expr}{tl th:TO}{pos p2:Pos}
theorem iA:PO X none gI:=by intro pins s σ H Q I h;rw[evalPart_none];exact wpAny_pure ⟨none,H,I,.none,h⟩
theorem fg(h:PE X e te):PO X (some e) (gH te):=by intro pins s σ H Q I hw;rw[evalPart_some];refine thn (h pins s σ H _ I hw) λu s1 ⟨x,H1,I1,r1,q1⟩=>?_;obtain⟨i,rfl,q⟩:=q1;obtain⟨t,rfl⟩:=r1;exact⟨some i,H1,I1,.int i t,q⟩
def Bu(X:Cx)(r:V→Option Int→Option Int→Hp→VK→Prop):Prop:=
 ∀(pins:List (Addr×Obj))(s:Shared)(σ:St)(H:Hp)(x:V)(v vl vu:Value)(lo hi:Option Int)(sl:Addr)(Q:VK),eU X pins σ H s→fM x v→s.heap.IsSliceOf sl vl vu .none→IsPart vl lo→IsPart vu hi→r x lo hi H Q→
  ∃T id,typeLookup (.type T) "__getitem__"=pure (some (.builtin id))∧s.TypeIs v T∧wpAny (model X.prog X.w) X.A (getItem v (.ref sl)) (EP X pins σ Q) X.xe s
theorem Bu.or{r r':V→Option Int→Option Int→Hp→VK→Prop}(h:Bu X r)(h':Bu X r'):Bu X (λx lo hi H Q=>r x lo hi H Q∨r' x lo hi H Q):=by
 intro pins s σ H x v vl vu lo hi sl Q I rx hs pl pu q;rcases q with q|q
 ·exact h pins s σ H x v vl vu lo hi sl Q I rx hs pl pu q
 ·exact h' pins s σ H x v vl vu lo hi sl Q I rx hs pl pu q
def nA(r:V→Option Int→Option Int→Hp→VK→Prop)(te:TE)(tl th:TO):TE:=λσ H Q=>te σ H λx H1=>tl σ H1 λl H2=>th σ H2 λu H3=>r x l u H3 Q
theorem fj{r:V→Option Int→Option Int→Hp→VK→Prop}(hr:Bu X r)(he:PE X e te)(hl:PO X lo tl)(hu:PO X hi th):PE X (.Subscript e (.Slice lo hi none p2) pos) (nA r te tl th):=by intro pins s σ H Q I h;refine Subscript_ (thn (he pins s σ H _ I h) λv s1 ⟨x,H1,I1,r1,q1⟩=>?_);refine wpAny_Slice (thn (hl pins s1 σ H1 _ I1 q1) λvl s2 ⟨l,H2,I2,pl,q2⟩=>thn (hu pins s2 σ H2 _ I2 q2) λvu s3 ⟨u,H3,I3,pu,q3⟩=>?_);rw[evalPart_none];refine wpAny_pure ?_;have I4:eU X pins σ H3 {s3 with heap:=s3.heap.push {cls:=.type "slice",data:=.fields #[vl,vu,.none]}}:=I3.kept (t':=s3.toks) λb ob q=>Heap.get?_push_of_some _ q;obtain⟨T,id,hT,ht,hg⟩:=hr pins {s3 with heap:=s3.heap.push {cls:=.type "slice",data:=.fields #[vl,vu,.none]}} σ H3 x v vl vu l u s3.heap.objs.size Q I4 r1 (Heap.IsSliceOf.new ..) pl pu q3;show wpAny (model X.prog X.w) X.A (subscriptTail e (.Slice lo hi none p2) v (.ref s3.heap.objs.size)) (EP X pins σ Q) X.xe {s3 with heap:=s3.heap.push {cls:=.type "slice",data:=.fields #[vl,vu,.none]}};exact tail_any (ops:=[.ref s3.heap.objs.size,v]) ht hT hg (by with_unfolding_all rfl)
def ig(xs:List V)(lo hi:Option Int):List V:=(xs.drop (HT.kH xs.length 0 lo)).take (HT.kH xs.length xs.length hi-HT.kH xs.length 0 lo)
theorem oO(xs:List V)(lo hi:Option Int):(ig xs lo hi).length≤xs.length:=by unfold ig;rw[aj,ai];lia
def AV(K:aA):V→Option Int→Option Int→Hp→VK→Prop:=λx lo hi H Q=>∃a xs,x=.ref a∧eC K H a xs∧
 ¬(HT.kH xs.length 0 lo=0∧HT.kH xs.length xs.length hi=xs.length)∧ku H (.tup (ig xs lo hi)) Q
theorem rW:Bu X (AV X.K):=by
 intro pins s σ H x v vl vu lo hi sl Q I rx hs pl pu h;obtain⟨a,xs,rfl,hx,hw,q⟩:=h;cases rx;obtain⟨its,r,ht,hz⟩:=I.tuple hx;have hlen:its.toArray.size=xs.length:=by rw[aM];exact r.length.symm
 refine⟨"tuple",_,be.lookup,ht.typeIs,?_⟩;refine HT.w6 ht hs pl pu (by rw[hlen];exact hw) ?_ (by rw[hlen];exact hz);rw[hlen];refine⟨.ref s.heap.objs.size,_,I.laid (t':=s.toks) (o:=.tup (ig xs lo hi)) (λb ob q=>Heap.get?_push_of_some _ q) (aC _) ?_,rfl,q _ (I.hok.fresh (aC _))⟩;exact⟨aW (oO xs lo hi) hz,_,(r.drop (HT.kH xs.length 0 lo)).take (HT.kH xs.length xs.length hi-HT.kH xs.length 0 lo),IsTup.new _ _⟩
def Iq(K:aA):R2:=λx y H Q=>∃a b xs ys,x=.ref a∧y=.ref b∧eC K H a xs∧eC K H b ys∧xs≠[]∧xs.length+ys.length≤sizeLine∧
 (ys=[]→Q (.ref a) H)∧(ys≠[]→ku H (.tup (xs++ys)) Q)
theorem fG.nil_iff{xs:List V}{us:List Value}(r:fG xs us):us=[]↔xs=[]:=by
 cases r with
 | nil=>simp
 | cons _ _=>simp
theorem Df:mM X (binaryOp .Add) (Iq X.K):=by intro pins s σ H x y v u Q I rx ry h;obtain⟨a,b,xs,ys,rfl,rfl,ha,hb,hx,hz,q1,q2⟩:=h;cases rx;cases ry;obtain⟨its,r1,p1,_⟩:=I.tuple ha;obtain⟨its2,r2,p2,_⟩:=I.tuple hb;refine HT.KU p1 p2 (λz=>hx (r1.nil_iff.mp z)) (λz=>⟨.ref a,H,I,rfl,q1 (r2.nil_iff.mp z)⟩) (λz=>?_) (by rw[←r1.length,←r2.length];exact hz);refine⟨.ref s.heap.objs.size,_,I.laid (t':=s.toks) (o:=.tup (xs++ys)) (λb ob q=>Heap.get?_push_of_some _ q) (aC _) ?_,rfl,q2 (λw=>z (r2.nil_iff.mpr w)) _ (I.hok.fresh (aC _))⟩;exact⟨by rw[aD];exact hz,_,r1.append r2,IsTup.new _ _⟩
end
end L2
namespace L2
open PySem PySem.Spec PyProof.Rows
def Br(n:Nat)(i:Int):Option Nat:=if 0≤i then(if i<n then some i.toNat else none)else if -(n:Int)≤i then some (i+n).toNat else none
def qR{α:Type}(xs:List α)(i:Int):Option α:=(Br xs.length i).bind λj=>xs[j]?
theorem wx{n:Nat}{i:Int}{j:Nat}(h:Br n i=some j):seqIndex? i n=some j∧j<n∧-(n:Int)≤i∧i<n:=by
 unfold Br at h;by_cases h0:0≤i
 ·rw[if_pos h0]at h;by_cases h1:i<n
  ·rw[if_pos h1]at h;have e:i.toNat=j:=Option.some.inj h;exact⟨by rw[seqIndex_of h0 h1,e],by lia,by lia,h1⟩
  ·rw[if_neg h1]at h;cases h
 ·rw[if_neg h0]at h;by_cases h1 : -(n:Int)≤i
  ·rw[if_pos h1]at h;have e:(i+n).toNat=j:=Option.some.inj h;exact⟨by rw[seqIndex_neg (by lia) h1,e],by lia,h1,by lia⟩
  ·rw[if_neg h1]at h;cases h
theorem sk{α:Type}{xs:List α}{i:Int}{v:α}(h:qR xs i=some v):∃j,seqIndex? i xs.length=some j∧xs[j]?=some v∧j<xs.length∧-(xs.length:Int)≤i∧i<xs.length:=by
 unfold qR at h;cases e:Br xs.length i with
 | none=>rw[e]at h;cases h
 | some j=>rw[e]at h;obtain⟨h1,h2,h3,h4⟩:=wx e;exact⟨j,h1,h,h2,h3,h4⟩
theorem dU{α:Type}{xs:List α}{j:Nat}{v:α}(h:xs[j]?=some v):qR xs (j:Int)=some v:=by
 have hj:j<xs.length:=(aO.mp h).1;have e:Br xs.length (j:Int)=some j:=by unfold Br;rw[if_pos (by lia),if_pos (by lia)];simp
 unfold qR;rw[e];exact h
theorem Bf{α:Type}(xs:List α)(v:α):qR (xs++[v]) (-1)=some v:=by
 have hl:(xs++[v]).length=xs.length+1:=by simp
 have e:Br (xs++[v]).length (-1)=some xs.length:=by
  unfold Br;rw[hl,if_neg (by decide),if_pos (by lia)]
  congr 1
  lia
 unfold qR;rw[e];show(xs++[v])[xs.length]?=some v;simp
def sw(b:Expr):Prop:=∀o i,subscripted b false o i=operate [o,i] (getItem o i)
def EA(X:Cx)(r:R2):Prop:=
 ∀(value slice:Expr)(pins:List (Addr×Obj))(s:Shared)(σ:St)(H:Hp)(x y:V)(v u:Value)(Q:VK),eU X pins σ H s→fM x v→fM y u→r x y H Q→
  subscripted slice false v u=operate [v,u] (getItem v u)→wpAny (model X.prog X.w) X.A (subscriptTail value slice v u) (EP X pins σ Q) X.xe s
def Mw(X:Cx)(id:String)(r:V→List V→Hp→VK→Prop):Prop:=
 ∀(pins:List (Addr×Obj))(s:Shared)(σ:St)(H:Hp)(x:V)(xs:List V)(v:Value)(us:List Value)(Q:VK),eU X pins σ H s→fM x v→fG xs us→r x xs H Q→
  wpAny (model X.prog X.w) X.A (call (.builtin id) (v::us)) (EP X pins σ Q) X.xe s
section
variable {X:Cx}{a b:Expr}{ta tb:TE}{pos:Pos}
theorem EA.or{r r':R2}(h:EA X r)(h':EA X r'):EA X (λx y H Q=>r x y H Q∨r' x y H Q):=by
 intro value slice pins s σ H x y v u Q I rx ry q hs;rcases q with q|q
 ·exact h value slice pins s σ H x y v u Q I rx ry q hs
 ·exact h' value slice pins s σ H x y v u Q I rx ry q hs
theorem qB{r:R2}(hr:EA X r)(ha:PE X a ta)(hb:PE X b tb)(hs:sw b):PE X (.Subscript a b pos) (eA r ta tb):=by intro pins s σ H Q I h;exact Subscript_ (Hr ha hb I h λv u s2 x y H2 I2 rx ry q=>hr a b pins s2 σ H2 x y v u Q I2 rx ry q (hs _ _))
inductive Ix(S:List V→Prop)(i:Int)(k:V→Prop):Prop
 | mk{xs:List V}{v:V}(h:S xs)(e:qR xs i=some v)(q:k v):Ix S i k
def gP(K:aA):R2:=λx y H Q=>onR x λp=>onI y λi=>Ix (eK K H p) i λv=>Q v H
def eE(K:aA):R2:=λx y H Q=>onR x λp=>onI y λi=>Ix (eC K H p) i λv=>Q v H
theorem Ed{S:Addr→List V→Prop}{x y:V}{k:V→Prop}(h:onR x λp=>onI y λi=>Ix (S p) i k):∃p xs i v,x=.ref p∧y=.int i∧S p xs∧qR xs i=some v∧k v:=by obtain⟨p,rfl,h1⟩:=onR.ex h;obtain⟨i,rfl,h2⟩:=onI.ex h1;obtain⟨h3,e,q⟩:=h2;exact⟨p,_,i,_,rfl,rfl,h3,e,q⟩
def AX:R2:=λx y H Q=>∃z i c,x=.str z∧y=.int i∧z.length≤sizeLine∧qR z.cps.toList i=some c∧Q (.str ⟨#[c]⟩) H
theorem wv:EA X (gP X.K):=by
 intro value slice pins s σ H x y v u Q I rx ry h hs;obtain⟨p,xs,i,z,rfl,rfl,hq,he,q⟩:=Ed h;cases rx;obtain⟨t,rfl⟩:=ry;obtain⟨its,r,pl,hz⟩:=I.list hq;obtain⟨j,h1,h2,h3,h4,h5⟩:=sk he;obtain⟨w,ew,rw'⟩:=r.get h2;have hl:=r.length;have hn:=nQ;have gi:EP X pins σ Q w s:=⟨z,H,I,rw',q⟩;by_cases h0:0≤i
 ·have hj:i.toNat=j:=by rw[seqIndex_of h0 h5]at h1;exact Option.some.inj h1
  exact item_listR pl.isList h0 (by lia) (by rw[hj];simpa using ew) gi hs
 ·have hj:(i+(its.toArray.size:Int)).toNat=j:=by rw[seqIndex_neg (by lia) h4]at h1;rw[aM,←hl];exact Option.some.inj h1
  exact subscriptTail_builtinR (x:=w) pl.isList.typeIs slot_list_getitem.lookup
   (wpAny_getItem_list_neg (Q:=λr s'=>r=w∧EP X pins σ Q r s') pl.isList (by lia) (by rw[aM]<;>lia) (by lia) (by rw[hj];simpa using ew) ⟨rfl,gi⟩) hs
theorem BF:EA X (eE X.K):=by
 intro value slice pins s σ H x y v u Q I rx ry h hs;obtain⟨p,xs,i,z,rfl,rfl,hq,he,q⟩:=Ed h;cases rx;obtain⟨t,rfl⟩:=ry;obtain⟨its,r,pl,hz⟩:=I.tuple hq;obtain⟨j,h1,h2,h3,h4,h5⟩:=sk he;obtain⟨w,ew,rw'⟩:=r.get h2;have hl:=r.length;have hn:=nQ;have gi:EP X pins σ Q w s:=⟨z,H,I,rw',q⟩;exact subscriptTail_builtinR (x:=w) pl.typeIs slot_tuple_getitem.lookup
  (getItem_tuple (j:=j) (Q:=λr s'=>r=w∧EP X pins σ Q r s') pl (by lia) (by lia) (by rw[aM,←hl];exact h1) (by simpa using ew) ⟨rfl,gi⟩) hs
theorem sK:EA X AX:=by
 intro value slice pins s σ H x y v u Q I rx ry h hs;obtain⟨z,i,c,rfl,rfl,hz,he,q⟩:=h;obtain⟨t,rfl⟩:=rx;obtain⟨t',rfl⟩:=ry;obtain⟨j,h1,h2,h3,h4,h5⟩:=sk he;have hl:z.cps.toList.length=z.length:=by simp[Str.length]
 rw[hl]at h1 h4 h5;have hn:=nQ;exact tail_any (typeIs_str s z t) slot_str_getitem.lookup (getItem_str (c:=c) (by
  have e1:decide (i < -(2^63:Int))=false:=decide_eq_false (by lia);have e2:decide (i≥2^63)=false:=decide_eq_false (by lia);rw[e1,e2,Bool.or_false]) (by rw[h1];simpa using h2) ⟨.str ⟨#[c]⟩,H,I.tok _,⟨_,rfl⟩,q⟩) hs
def Ip(K:aA):R2:=λx y H Q=>gP K x y H Q∨eE K x y H Q∨AX x y H Q
theorem BG:EA X (Ip X.K):=wv.or (BF.or sK)
theorem vU(its:List Value)(n j:Nat)(u:Value):Obj.mapSeq (·.setIfInBounds j u) {cls:=.type "list",data:=.seq its.toArray n}={cls:=.type "list",data:=.seq (its.set j u).toArray n}:=by simp[Obj.mapSeq]
theorem eU.lst{pins:List (Addr×Obj)}{σ:St}{H:Hp}{s:Shared}{p:Addr}{xs:List V}(I:eU X pins σ H s)(h:H p=some (.lst xs)):
  ∃(its:List Value)(n:Nat),fG xs its∧s.heap.get? p=some {cls:=.type "list",data:=.seq its.toArray n}∧xs.length≤sizeLine:=by
 obtain⟨z,its,n,r,e⟩:=I.hok p _ h;exact⟨its,n,r,e,z⟩
theorem eU.lstUpd{pins:List (Addr×Obj)}{σ:St}{H:Hp}{s:Shared}{p:Addr}{xs ys:List V}{its its':List Value}{n n':Nat}{f:Obj→Obj}(I:eU X pins σ H s)(h:H p=some (.lst xs))
  (ho:s.heap.get? p=some {cls:=.type "list",data:=.seq its.toArray n}) (hf:f {cls:=.type "list",data:=.seq its.toArray n}={cls:=.type "list",data:=.seq its'.toArray n'}) (r:fG ys its') (hz:ys.length≤sizeLine) (t:Nat):
  eU X pins σ (upd H p (.lst ys)) {s with heap:=s.heap.update p f,toks:=t}:=by
 have e:(s.heap.update p f).get? p=some {cls:=.type "list",data:=.seq its'.toArray n'}:=by rw[Heap.get?_update_self f ho (by rw[hf]<;>rfl),hf]
 refine I.write (x:=p) (e:=p) (by rw[h];trivial) (.inl rfl) (λb u hb q=>(Heap.get?_update_other _ _ (af hb)).trans q) ⟨_,e⟩ ?_;exact⟨hz,its',n',r,e⟩
def ES:V→V→V→Hp→(Hp→Prop)→Prop:=λo i v H Q=>∃p xs k j,o=.ref p∧i=.int k∧H p=some (.lst xs)∧Br xs.length k=some j∧Q (upd H p (.lst (xs.set j v)))
theorem AF:J7 X ES:=by
 intro pins s σ H o i v ov iv u Q I ro ri rv h;obtain⟨p,xs,k,j,rfl,rfl,hp,hj,q⟩:=h;cases ro;obtain⟨t,rfl⟩:=ri;obtain⟨its,n,r,ho,hz⟩:=I.lst hp;obtain⟨h1,h2,h3,h4⟩:=wx hj;have hl:=r.length;have hn:=nQ;have I':eU X pins σ (upd H p (.lst (xs.set j v))) {s with heap:=s.heap.update p (Obj.mapSeq (·.setIfInBounds j u))}:=
  I.lstUpd hp ho (vU its n j u) (r.set rv j) (by rw[List.length_set];exact hz) s.toks
 by_cases h0:0≤k
 ·have hk:k.toNat=j:=by rw[seqIndex_of h0 h4]at h1;exact Option.some.inj h1
  exact PySem.W.ki_setAt ho h0 (by lia) (by rw[aM,←hl];exact h4) (by rw[hk];exact⟨_,I',q⟩)
 ·have hk:(k+(its.toArray.size:Int)).toNat=j:=by rw[seqIndex_neg (by lia) h3]at h1;rw[aM,←hl];exact Option.some.inj h1
  exact PySem.W.ki_setBack ho (by lia) (by rw[aM,←hl];exact h3) (by lia) (by rw[hk];exact⟨_,I',q⟩)
theorem rV(lo hi:Option Int)(n:Nat):(sliceBounds lo hi none n).1=((HT.kH n 0 lo:Nat):Int)∧(sliceBounds lo hi none n).2.1=((HT.kH n n hi:Nat):Int)∧(sliceBounds lo hi none n).2.2=1:=by
 refine⟨?_,?_,rfl⟩
 ·cases lo with
  | none=>simp[sliceBounds,HT.kH]
  | some i=>
   simp only[sliceBounds,HT.kH,Option.getD_none,show(1:Int)>0 by decide,if_true];by_cases h:i<0
   ·simp only[h,if_true]<;>lia
   ·simp only[h,if_false]<;>lia
 ·cases hi with
  | none=>simp[sliceBounds,HT.kH]
  | some i=>
   simp only[sliceBounds,HT.kH,Option.getD_none,show(1:Int)>0 by decide,if_true];by_cases h:i<0
   ·simp only[h,if_true]<;>lia
   ·simp only[h,if_false]<;>lia
theorem qX(its:List Value)(lo hi:Option Int):slicePick its.toArray lo hi none=((its.drop (HT.kH its.length 0 lo)).take (HT.kH its.length its.length hi-HT.kH its.length 0 lo)).toArray:=by obtain⟨h1,h2,h3⟩:=rV lo hi its.toArray.size;unfold slicePick;rw[h1,h2,h3];simp only[sliceRange_one,pick_run,aM]<;>rfl
def ja(K:aA):V→Option Int→Option Int→Hp→VK→Prop:=λx lo hi H Q=>∃a xs,x=.ref a∧eK K H a xs∧ku H (.lst (ig xs lo hi)) Q
theorem gr:Bu X (ja X.K):=by intro pins s σ H x v vl vu lo hi sl Q I rx hs pl pu h;obtain⟨a,xs,rfl,hx,q⟩:=h;cases rx;obtain⟨its,r,ht,hz⟩:=I.list hx;have hlen:=r.length;refine⟨"list",_,slot_list_getitem.lookup,ht.isList.typeIs,?_⟩;refine wpAny_getItem_list_slice ht.isList hs pl pu .none (by simp) ?_ (by rw[aM]<;>lia);rw[qX,←hlen];refine⟨.ref s.heap.objs.size,_,I.laid (t':=s.toks) (o:=.lst (ig xs lo hi)) (λb ob q=>Heap.get?_push_of_some _ q) (aC _) ?_,rfl,q _ (I.hok.fresh (aC _))⟩;exact⟨aW (oO xs lo hi) hz,_,0,(r.drop (HT.kH xs.length 0 lo)).take (HT.kH xs.length xs.length hi-HT.kH xs.length 0 lo),Heap.get?_push_size _ rfl⟩
def oN:V→Bool
 | .non=>true
 | .bl _=>true
 | .int _=>true
 | .str _=>true
 | _=>false
def Eg:V→V→Bool
 | .non,.non=>true
 | .bl a,.bl b=>a==b
 | .bl a,.int b=>(if a then 1 else 0)==b
 | .int a,.bl b=>a==(if b then 1 else 0)
 | .int a,.int b=>a==b
 | .str a,.str b=>a==b
 | _,_=>false
theorem Hj{A:Around}{s:Shared}{y x:V}{u v:Value}(ry:fM y u)(rx:fM x v)(fy:oN y=true)(fx:oN x=true):SeqAt.EqAt A s u v (Eg y x):=by
 cases y with
 | non=>
  cases ry;cases x with
  | non=>cases rx;exact SeqAt.EqAt.same _
  | bl b=>cases rx;exact SeqAt.EqAt.none_bool b
  | int b=>obtain⟨t,rfl⟩:=rx;exact SeqAt.EqAt.none_int b t
  | str b=>obtain⟨t,rfl⟩:=rx;exact SeqAt.EqAt.none_str b t
  | _=>exact absurd (show false=true from fx) aP
 | bl a=>
  cases ry;cases x with
  | non=>cases rx;exact SeqAt.EqAt.bool_none a
  | bl b=>cases rx;exact SeqAt.EqAt.bool_bool a b
  | int b=>obtain⟨t,rfl⟩:=rx;exact SeqAt.EqAt.bool_int a b t
  | str b=>obtain⟨t,rfl⟩:=rx;exact SeqAt.EqAt.bool_str a b t
  | _=>exact absurd (show false=true from fx) aP
 | int a=>
  obtain⟨t',rfl⟩:=ry;cases x with
  | non=>cases rx;exact SeqAt.EqAt.int_none a t'
  | bl b=>cases rx;exact SeqAt.EqAt.int_bool a t' b
  | int b=>obtain⟨t,rfl⟩:=rx;exact SeqAt.EqAt.int_int a t' b t
  | str b=>obtain⟨t,rfl⟩:=rx;exact SeqAt.EqAt.int_str a t' b t
  | _=>exact absurd (show false=true from fx) aP
 | str a=>
  obtain⟨t',rfl⟩:=ry;cases x with
  | non=>cases rx;exact SeqAt.EqAt.str_none a t'
  | bl b=>cases rx;exact SeqAt.EqAt.str_bool a t' b
  | int b=>obtain⟨t,rfl⟩:=rx;exact SeqAt.EqAt.str_int a t' b t
  | str b=>obtain⟨t,rfl⟩:=rx;exact SeqAt.EqAt.str_str a t' b t
  | _=>exact absurd (show false=true from fx) aP
 | _=>exact absurd (show false=true from fy) aP
def D0(x:V)(u:Value):Bool:=match u with
 | .none=>Eg .non x
 | .bool b=>Eg (.bl b) x
 | .int i _=>Eg (.int i) x
 | .str z _=>Eg (.str z) x
 | _=>false
theorem BR{x y:V}{u:Value}(r:fM y u)(f:oN y=true):D0 x u=Eg y x:=by
 cases y with
 | non=>cases r;rfl
 | bl b=>cases r;rfl
 | int i=>obtain⟨t,rfl⟩:=r;rfl
 | str z=>obtain⟨t,rfl⟩:=r;rfl
 | _=>exact absurd (show false=true from f) aP
theorem sq{x:V}:∀{xs:List V}{us:List Value},fG xs us→xs.all oN=true→us.any (D0 x)=xs.any λy=>Eg y x
 | _,_,.nil,_=>rfl
 | y::xs,u::us,.cons r t,f=>by rw[List.all_cons,bf]at f;rw[bg,bg,BR r f.1,sq t f.2]
theorem qE{A:Around}{s:Shared}{x:V}{v:Value}(rx:fM x v)(fx:oN x=true):∀{xs:List V}{us:List Value},fG xs us→xs.all oN=true→∀u∈us,SeqAt.EqAt A s u v (D0 x u)
 | _,_,.nil,_=>λu hu=>by cases hu
 | y::xs,u::us,.cons r t,f=>λu' hu=>by
  rw[List.all_cons,bf]at f;rcases aB.mp hu with rfl|hu
  ·rw[BR r f.1];exact Hj r rx f.1 fx
  ·exact qE rx fx t f.2 u' hu
def BI(x:V)(xs:List V):Bool:=xs.any λy=>Eg y x
def IF(K:aA)(neg:Bool):R2:=λx y H Q=>∃p xs,y=.ref p∧(eK K H p xs∨eC K H p xs)∧oN x=true∧xs.all oN=true∧Q (.bl (if neg then !BI x xs else BI x xs)) H
theorem kJ:mM X (compareOp .In) (IF X.K false):=by
 intro pins s σ H x y v u Q I rx ry h;obtain⟨p,xs,rfl,hq,fx,fs,q⟩:=h;cases ry;rcases hq with hq|hq
 ·obtain⟨its,r,pl,hz⟩:=I.list hq;refine SeqAt.in_listAt (D0 x) pl.isList (λw hw=>qE rx fx r fs w (by simpa using hw)) ⟨.bl _,H,I,rfl,?_⟩;rw[show its.toArray.any (D0 x)=its.any (D0 x) by simp,sq r fs];exact q
 ·obtain⟨its,r,pl,hz⟩:=I.tuple hq;refine SeqAt.in_tupleAt (D0 x) pl (λw hw=>qE rx fx r fs w (by simpa using hw)) ⟨.bl _,H,I,rfl,?_⟩;rw[show its.toArray.any (D0 x)=its.any (D0 x) by simp,sq r fs];exact q
theorem dj:kP X (.builtin "len") (λxs H Q=>∃p ys,xs=[.ref p]∧(eK X.K H p ys∨eC X.K H p ys)∧Q (.int ys.length) H):=by
 intro pins s σ H xs us Q I r h;obtain⟨p,ys,rfl,hq,q⟩:=h;obtain⟨u,rfl,rx⟩:=k9 r;cases rx;have hn:=nQ;rcases hq with hq|hq
 ·obtain⟨its,r',pl,hz⟩:=I.list hq;have hlen:=r'.length;exact Calls.call_len_list pl.isList (by simp only[aM]<;>lia) ⟨.int ys.length,H,I.tok _,⟨s.toks+1,by rw[aM,hlen]⟩,q⟩
 ·obtain⟨its,r',pl,hz⟩:=I.tuple hq;have hlen:=r'.length;exact len_tuple pl (by simp only[aM]<;>lia) ⟨.int ys.length,H,I.tok _,⟨s.toks+1,by rw[aM,hlen]⟩,q⟩
theorem jX:kP X (.builtin "len") (λxs H Q=>∃z,xs=[.str z]∧z.length≤sizeLine∧Q (.int z.length) H):=by intro pins s σ H xs us Q I r h;obtain⟨z,rfl,hz,q⟩:=h;obtain⟨u,rfl,t,rfl⟩:=k9 r;have hn:=nQ;exact len_str (by lia) ⟨.int z.length,H,I.tok _,⟨_,rfl⟩,q⟩
theorem mq:kP X (.type "list") (λxs H Q=>∃p ys,xs=[.ref p]∧(eK X.K H p ys∨eC X.K H p ys)∧∀l,H l=none→Q (.ref l) (upd H l (.lst ys))):=by
 intro pins s σ H xs us Q I r h;obtain⟨p,ys,rfl,hq,q⟩:=h;obtain⟨u,rfl,rx⟩:=k9 r;cases rx;have gi:∀(its:List Value),fG ys its→ys.length≤sizeLine→∀(h':Heap)(c':Nat),(∀b o',s.heap.get? b=some o'→h'.get? b=some o')→
   h'.get? s.heap.objs.size=some {cls:=.type "list",dict:=none,data:=.seq its.toArray c',slots:=#[]}→EP X pins σ Q (.ref s.heap.objs.size) {s with heap:=h'}:=λits r' hz h' c' kp e=>
  ⟨.ref s.heap.objs.size,_,I.laid (t':=s.toks) kp (aC _) (show gB X.prog X.w _ h' _ (.lst ys)from⟨hz,its,c',r',e⟩),rfl,q _ (I.hok.fresh (aC _))⟩
 rcases hq with hq|hq
 ·obtain⟨its,r',pl,hz⟩:=I.list hq;have hlen:=r'.length;obtain⟨o,ho,hc,n,hd⟩:=pl.isList;exact call_list_seq p (.inl rfl) ho hc hd (λh' c' kp e=>gi its r' hz h' c' kp e) (by simp only[aM]<;>lia)
 ·obtain⟨its,r',pl,hz⟩:=I.tuple hq;have hlen:=r'.length;obtain⟨o,ho,hc,n,hd⟩:=pl;exact call_list_seq p (.inr rfl) ho hc hd (λh' c' kp e=>gi its r' hz h' c' kp e) (by simp only[aM]<;>lia)
theorem lj:kP X (.type "tuple") (λxs H Q=>∃p ys,xs=[.ref p]∧((eK X.K H p ys∧∀l,H l=none→Q (.ref l) (upd H l (.tup ys)))∨(eC X.K H p ys∧Q (.ref p) H))):=by
 intro pins s σ H xs us Q I r h;obtain⟨p,ys,rfl,h⟩:=h;obtain⟨u,rfl,rx⟩:=k9 r;cases rx;rcases h with⟨hq,q⟩|⟨hq,q⟩
 ·obtain⟨its,r',pl,hz⟩:=I.list hq;have hlen:=r'.length;refine call_tuple_list pl.isList (λh' kp=>?_) (by simp only[aM]<;>lia);have I1:eU X pins σ H {s with heap:=h'}:=I.kept (t':=s.toks) kp;have I2:eU X pins σ (upd H h'.objs.size (.tup ys)) {s with heap:=h'.push {cls:=.type "tuple",data:=.seq its.toArray}}:=
   I1.laid (t':=s.toks) (λb o e=>Heap.get?_push_of_some _ e) (aC _) (show gB X.prog X.w _ _ _ (.tup ys)from⟨hz,its,r',IsTup.new _ _⟩)
  exact⟨.ref h'.objs.size,_,I2,rfl,q _ (I1.hok.fresh (aC _))⟩
 ·obtain⟨its,r',pl,hz⟩:=I.tuple hq;exact call_tuple_same pl ⟨.ref p,H,I,rfl,q⟩
def Kd(K:aA)(T:String)(x:V)(H:Hp):Prop:=match x with
 | .str _=>T="str"
 | .int _=>T="int"
 | .ref p=>(T="list"∧∃xs,eK K H p xs)∨(T="tuple"∧∃o,K.lookup p=some o∧o.cls=.type "tuple"∧o.dict=none)∨
   (T="dict"∧((∃kvs,H p=some (.dK kvs))∨∃kvs,H p=some (.dT kvs)))∨(T="set"∧∃S n,H p=some (.set S n))
 | _=>False
theorem yz{pins:List (Addr×Obj)}{σ:St}{H:Hp}{s:Shared}{T:String}{x:V}{v:Value}(I:eU X pins σ H s)(r:fM x v)(ty:Kd X.K T x H):
  s.TypeIs v T∧∀a,v=.ref a→∃ob,s.heap.get? a=some ob∧ob.dict=none:=by
 cases x with
 | str z=>obtain⟨t,rfl⟩:=r;cases(show T="str" from ty);exact⟨typeIs_str s z t,λ_ e=>nomatch e⟩
 | int i=>obtain⟨t,rfl⟩:=r;cases(show T="int" from ty);exact⟨typeIs_int s i t,λ_ e=>nomatch e⟩
 | ref p=>
  cases r;rcases ty with⟨rfl,xs,hq⟩|⟨rfl,o,hk,hc,hd⟩|⟨rfl,hk⟩|⟨rfl,S,n,hk⟩
  ·obtain⟨its,_,pl,_⟩:=I.list hq;refine⟨pl.isList.typeIs,λa e=>?_⟩;cases e;obtain⟨o,n,e,c,hd,_⟩:=pl;exact⟨o,e,hd⟩
  ·refine⟨⟨o,I.kIn p o hk,hc⟩,λa e=>?_⟩;cases e;exact⟨o,I.kIn _ o hk,hd⟩
  ·have z:∃o,s.heap.get? p=some o∧o.ExactDict:=by
    rcases hk with⟨kvs,hk⟩|⟨kvs,hk⟩
    ·obtain⟨_,_,_,_,o,_,_,e,ex,_⟩:=I.hok p _ hk;exact⟨o,e,ex⟩
    ·obtain⟨_,_,_,_,o,_,_,e,ex,_⟩:=I.hok p _ hk;exact⟨o,e,ex⟩
   obtain⟨o,e,ex⟩:=z;refine⟨⟨o,e,ex.1⟩,λa e2=>?_⟩;cases e2;exact⟨o,e,ex.2.1⟩
  ·obtain⟨o,_,_,_,e,ex,_⟩:=I.hok p _ hk;refine⟨⟨o,e,ex.1⟩,λa e2=>?_⟩;cases e2;exact⟨o,e,ex.2.1⟩
 | _=>exact False.elim ty
def lz(K:aA)(T:String)(r:V→List V→Hp→VK→Prop)(to:TE):TE:=λσ H Q=>to σ H λx H1=>Kd K T x H1∧r x [] H1 Q
def kB(K:aA)(T:String)(r:V→List V→Hp→VK→Prop)(to:TE)(t:TA):TE:=λσ H Q=>to σ H λx H1=>Kd K T x H1∧t σ H1 λxs H2=>r x xs H2 Q
variable {o e:Expr}{es:List Expr}{to:TE}{t:TA}{name:Str}{apos cpos:Pos}{T id:String}{r:V→List V→Hp→VK→Prop}
theorem ir(pa:PlainAttrs T)(slot:Slot T name id)(hty:typeOf (.builtin id)=pure (.type "method_descriptor"))(hm:Mw X id r)(ho:PE X o to)
  (hbase:attributeBase o name X.env (eval o X.env)=eval o X.env:=by rfl) (hline:(apos.endLine==cpos.line)=true:=by rfl):PE X (.Call (.Attribute o name apos) [] [] cpos) (lz X.K T r to):=by
 intro pins s σ H Q I h;refine wpAny_Call_method0_late hbase hline (thn (ho pins s σ H _ I h) λv s1 ⟨x,H1,I1,r1,ty,q1⟩=>?_);obtain⟨h1,h2⟩:=yz I1 r1 ty;exact⟨T,id,pa,slot,hty,h1,h2,Calls.callWith_builtin rfl (PySem.evalArgs_none (hm pins s1 σ H1 x [] v [] Q I1 r1 .nil q1))⟩
theorem gE(pa:PlainAttrs T)(slot:Slot T name id)(hty:typeOf (.builtin id)=pure (.type "method_descriptor"))(hm:Mw X id r)(ho:PE X o to)(ha:PA X (e::es) t)
  (hbase:attributeBase o name X.env (eval o X.env)=eval o X.env:=by rfl)
  (hfew:((backTo cpos (starEach (e::es) X.env)).all (λx=>!x.1)&&(backToKw cpos (keywordEach [] X.env)).all (λx=>x.1.isSome)
   && decide ((e::es).length+([]:List Keyword).length+(if([]:List Keyword).isEmpty then 0 else 1)<30))=true:=by rfl)
  (hline:(apos.endLine==cpos.line)=true:=by rfl) (hs:starEach (e::es) X.env=(false,eval e X.env)::starEach es X.env:=by rfl) (hplain:(backTo cpos (starEach es X.env)).any (·.1)=false:=by rfl):
  PE X (.Call (.Attribute o name apos) (e::es) [] cpos) (kB X.K T r to t):=by
 intro pins s σ H Q I h;refine wpAny_Call_method_late hbase hfew hline rfl (thn (ho pins s σ H _ I h) λv s1 ⟨x,H1,I1,r1,ty,q1⟩=>?_);obtain⟨h1,h2⟩:=yz I1 r1 ty;refine⟨T,id,pa,slot,hty,h1,h2,?_⟩;have hA:=ha cpos pins s1 σ H1 _ I1 q1;rw[hs]at hA⊢;refine Calls.callWith_builtin (by show(false||(backTo cpos (starEach es X.env)).any (·.1))=false;rw[hplain]<;>rfl) (Calls.evalArgs_plain ?_);exact thn hA λus s2 ⟨vs,H2,I2,r2,q2⟩=>hm pins s2 σ H2 x vs v us Q I2 r1 r2 q2
end
end L2
namespace L2
open PySem PySem.Spec PyProof.Rows
def Kb(X:Cx)(id:String)(r:V→List V→Hp→VK→Prop):Prop:=
 ∀(pins:List (Addr×Obj))(s:Shared)(σ:St)(H:Hp)(x:V)(xs:List V)(v:Value)(us:List Value)(Q:VK),eU X pins σ H s→fM x v→fG xs us→r x xs H Q→
  wpAny (model X.prog X.w) X.A (call (.builtin id) (v::us)) (EP X pins σ Q) X.xe s
theorem fG.one:∀{x:V}{us:List Value},fG [x] us→∃u,us=[u]∧fM x u
 | _,_,.cons r .nil=>⟨_,rfl,r⟩
theorem fG.two:∀{x y:V}{us:List Value},fG [x,y] us→∃u v,us=[u,v]∧fM x u∧fM y v
 | _,_,_,.cons r (.cons q .nil)=>⟨_,_,rfl,r,q⟩
theorem fG.zero:∀{us:List Value},fG [] us→us=[]
 | _,.nil=>rfl
theorem fG.dropLast{xs:List V}{us:List Value}(h:fG xs us):fG xs.dropLast us.dropLast:=by
 induction h with
 | nil=>exact .nil
 | cons r t ih=>
  cases t with
  | nil=>exact .nil
  | cons q t'=>exact .cons r ih
theorem ve{α:Type}(l:List α):l.eraseIdx (l.length-1)=l.dropLast:=by
 induction l with
 | nil=>rfl
 | cons a r ih=>
  cases r with
  | nil=>rfl
  | cons b r=>
   have e:(a::b::r).length-1=((b::r).length-1)+1:=by have h1:(a::b::r).length=r.length+2:=rfl;have h2:(b::r).length=r.length+1:=rfl;lia
   rw[e,List.eraseIdx_cons_succ,ih]
   all_goals rfl
section
variable {X:Cx}{pins:List (Addr×Obj)}{σ:St}{H:Hp}{s:Shared}{l b:Addr}{xs ys zs:List V}
theorem eU.lset{its its':List Value}{n:Nat}{f:Array Value→Array Value}{t':Nat}(I:eU X pins σ H s)(hH:H l=some (.lst xs))
  (e:s.heap.get? l=some {cls:=.type "list",data:=.seq its.toArray n}) (hf:f its.toArray=its'.toArray) (hv:fG ys its') (hz:ys.length≤sizeLine):
  eU X pins σ (upd H l (.lst ys)) {s with heap:=s.heap.update l (Obj.mapSeq f),toks:=t'}:=by
 have q:=PySem.IsL.update e f;rw[hf]at q;refine I.write (x:=l) (e:=l) (by rw[hH];exact trivial) (.inl rfl) (λb' u hb hu=>(Heap.get?_update_other s.heap (Obj.mapSeq f) (af hb)).trans hu) ⟨_,q⟩ ?_;exact⟨hz,its',_,hv,q⟩
theorem eU.lnew{its:List Value}{t':Nat}(I:eU X pins σ H s)(hv:fG ys its)(hz:ys.length≤sizeLine):
  eU X pins σ (upd H s.heap.objs.size (.lst ys)) {s with heap:=s.heap.push {cls:=.type "list",data:=.seq its.toArray},toks:=t'}:=
 I.laid (λ_ _ q=>Heap.get?_push_of_some _ q) (aC _) ⟨hz,its,0,hv,Heap.get?_push_size _ rfl⟩
theorem eU.fresh(I:eU X pins σ H s):H s.heap.objs.size=none:=I.hok.fresh (aC _)
theorem eU.lstM(I:eU X pins σ H s)(hH:H l=some (.lst xs)):xs.length≤sizeLine∧∃(its:List Value)(n:Nat),fG xs its∧xs.length=its.length∧s.heap.get? l=some {cls:=.type "list",data:=.seq its.toArray n}:=by obtain⟨z,its,n,r,e⟩:=I.hok l _ hH;exact⟨z,its,n,r,r.length,e⟩
theorem uG{n:Nat}(h:n≤sizeLine):Builtin.List.listTooLong n=false:=by unfold Builtin.List.listTooLong;exact decide_eq_false (by lia)
end
section
variable {X:Cx}
def eh:V→List V→Hp→VK→Prop:=λx vs H Q=>∃l xs y,x=.ref l∧vs=[y]∧H l=some (.lst xs)∧xs.length<sizeLine∧Q .non (upd H l (.lst (xs++[y])))
theorem eX:Kb X "list.append" eh:=by intro pins s σ H x vs v us Q I rx rv h;obtain⟨l,xs,y,rfl,rfl,hH,hz,q⟩:=h;cases rx;obtain⟨u,rfl,ru⟩:=rv.one;obtain⟨z,its,n,r,hl,e⟩:=I.lstM hH;refine call_meets F.slot_list_append ⟨_,e,rfl⟩ F.entry_list_append (F.args_list_append_2 _ _) (PySem.list_append l its.toArray n u (by rw[aM];lia)) ⟨e,?_⟩;refine⟨.non,_,I.lset (its':=its++[u]) hH e (by simp) (r.append (.cons ru .nil)) ?_,rfl,q⟩;rw[aD,bB];lia
def mW:V→List V→Hp→VK→Prop:=λx vs H Q=>∃l b xs zs,x=.ref l∧vs=[.ref b]∧H l=some (.lst xs)∧H b=some (.lst zs)∧xs.length+zs.length≤sizeLine∧Q .non (upd H l (.lst (xs++zs)))
theorem nP:Kb X "list.extend" mW:=by
 intro pins s σ H x vs v us Q I rx rv h;obtain⟨l,b,xs,zs,rfl,rfl,hH,hB,hz,q⟩:=h;cases rx;obtain⟨u,rfl,ru⟩:=rv.one;cases ru;obtain⟨z,its,n,r,hl,e⟩:=I.lstM hH;obtain⟨z2,its2,n2,r2,hl2,e2⟩:=I.lstM hB;have hsz:its.toArray.size+its2.toArray.size≤sizeLine:=by rw[aM,aM];lia
 have hlong:¬(!its.toArray.isEmpty&&Builtin.List.listTooLong (its.toArray.size+its2.toArray.size))=true:=by rw[uG hsz,Bool.and_false];exact aP
 refine call_meets F.slot_list_extend ⟨_,e,rfl⟩ F.entry_list_extend (F.args_list_extend_2 _ _)
  (AutoSeq1.list_extend_list_list_0 l its.toArray n b its2.toArray n2 hlong (by rw[aM];lia) (by lia)) ⟨e,e2,?_⟩
 refine⟨.non,_,I.lset (its':=its++its2) hH e (by simp) (r.append r2) ?_,rfl,q⟩;rw[aD];lia
def mF:V→List V→Hp→VK→Prop:=λx vs H Q=>∃l xs y,x=.ref l∧vs=[]∧H l=some (.lst xs)∧xs[xs.length-1]?=some y∧Q y (upd H l (.lst xs.dropLast))
theorem iw:Kb X "list.pop" mF:=by
 intro pins s σ H x vs v us Q I rx rv h;obtain⟨l,xs,y,rfl,rfl,hH,hy,q⟩:=h;cases rx;have hus:=rv.zero;subst hus;obtain⟨z,its,n,r,hl,e⟩:=I.lstM hH;obtain⟨u,hu,ru⟩:=r.get hy;have hy':its.toArray[its.toArray.size-1]?=some u:=by show its.toArray[its.length-1]?=some u;rw[←cS,←hl];exact hu
 refine call_meets F.slot_list_pop ⟨_,e,rfl⟩ F.entry_list_pop (F.args_list_pop_1 _) (MeetsSeq.list_pop_last l its.toArray n u hy' (by rw[aM];lia)) ⟨e,?_⟩;refine⟨y,_,I.lset (its':=its.dropLast) hH e ?_ r.dropLast ?_,ru,q⟩
 ·show its.toArray.eraseIdxIfInBounds (its.toArray.size-1)=its.dropLast.toArray;rw[aM,List.eraseIdxIfInBounds_toArray,ve]
 ·rw[List.length_dropLast];lia
def mG:R2:=λx y H Q=>∃l b xs zs,x=.ref l∧y=.ref b∧H l=some (.lst xs)∧H b=some (.lst zs)∧xs.length+zs.length≤sizeLine∧ku H (.lst (xs++zs)) Q
theorem jv:mM X (binaryOp .Add) mG:=by
 intro pins s σ H x y v u Q I rx ry h;obtain⟨l,b,xs,zs,rfl,rfl,hH,hB,hz,q⟩:=h;cases rx;cases ry;obtain⟨z,its,n,r,hl,e⟩:=I.lstM hH;obtain⟨z2,its2,n2,r2,hl2,e2⟩:=I.lstM hB;refine PySem.P.add_list e e2 ?_ (by rw[aM,aM];lia);have ea:its.toArray++its2.toArray=(its++its2).toArray:=by simp
 rw[ea];exact⟨.ref _,_,I.lnew (t':=s.toks) (r.append r2) (by rw[aD];lia),rfl,q _ I.fresh⟩
end
section
variable {prog:Program}{w:World}{A:Around}{E:Value→Shared→Prop}{s:Shared}
end
section
variable {X:Cx}
end
end L2
namespace L2
open PySem PySem.Spec PyProof.Rows
section
variable {κ:Type}[DecidableEq κ]
def fS(kvs:List (κ×V))(k:κ):Option V:=(kvs.find? λkv=>decide (kv.1=k)).map (·.2)
def gA(kvs:List (κ×V))(k:κ)(v:V):List (κ×V):=
 if(kvs.any λkv=>decide (kv.1=k))=true then kvs.map (λkv=>if kv.1=k then(kv.1,v)else kv)else kvs++[(k,v)]
theorem yw{k:κ}:fS ([]:List (κ×V)) k=none:=rfl
theorem fu{p:κ×V}{r:List (κ×V)}{k:κ}(e:p.1=k):fS (p::r) k=some p.2:=by simp[fS,bh,e]
theorem fz{p:κ×V}{r:List (κ×V)}{k:κ}(e:¬p.1=k):fS (p::r) k=fS r k:=by simp[fS,bh,e]
theorem jJ(k:κ):∀kvs:List (κ×V),(kvs.any λkv=>decide (kv.1=k))=(fS kvs k).isSome
 | []=>rfl
 | p::r=>by
  rw[bg];by_cases e:p.1=k
  ·simp only[fu e,decide_eq_true e,Bool.true_or,Option.isSome_some]
  ·rw[fz e,decide_eq_false e,Bool.false_or];exact jJ k r
theorem tN(k j:κ)(y:V):∀kvs:List (κ×V),fS (kvs.map λkv=>if kv.1=k then(kv.1,y)else kv) j=(fS kvs j).map λx=>if j=k then y else x
 | []=>rfl
 | p::r=>by
  have ih:=tN k j y r;rw[aY];by_cases h:p.1=k
  ·rw[if_pos h];by_cases e:p.1=j
   ·rw[fu (p:=(p.1,y)) e,fu e,bi,if_pos (e.symm.trans h)]
   ·rw[fz (p:=(p.1,y)) e,fz e,ih]
  ·rw[if_neg h];by_cases e:p.1=j
   ·rw[fu (p:=p) e,fu e,bi,if_neg (λz=>h (e.trans z))]
   ·rw[fz (p:=p) e,fz e,ih]
theorem qc(k j:κ)(y:V):∀kvs:List (κ×V),fS kvs k=none→fS (kvs++[(k,y)]) j=if j=k then some y else fS kvs j
 | [],_=>by
  by_cases e:k=j
  ·rw[if_pos e.symm];exact fu (p:=(k,y)) e
  ·rw[if_neg (λz=>e z.symm)];exact fz (p:=(k,y)) e
 | p::r,hn=>by
  rw[aN];have hk:¬p.1=k:=λz=>by rw[fu z]at hn;cases hn
  rw[fz hk]at hn;have ih:=qc k j y r hn;by_cases e:p.1=j
  ·rw[fu e,fu e,if_neg (λz=>hk (e.trans z))]
  ·rw[fz e,fz e,ih]
theorem jY(kvs:List (κ×V))(k j:κ)(y:V):fS (gA kvs k y) j=if j=k then some y else fS kvs j:=by
 unfold gA;by_cases a:(kvs.any λkv=>decide (kv.1=k))=true
 ·rw[if_pos a,tN];rw[jJ]at a;by_cases e:j=k
  ·obtain⟨x,hx⟩:=cw.mp a;rw[if_pos e,e,hx,bi,if_pos rfl]
  ·rw[if_neg e];cases fS kvs j with
   | none=>rfl
   | some x=>rw[bi,if_neg e]
 ·rw[if_neg a];refine qc k j y kvs ?_;rw[jJ]at a;cases q:fS kvs k with
  | none=>rfl
  | some x=>rw[q]at a;exact(a rfl).elim
theorem hG(kvs:List (κ×V))(k:κ)(v:V):(gA kvs k v).length≤kvs.length+1:=by
 unfold gA;split
 ·rw[aa];lia
 ·rw[aD,aE,au];lia
theorem pj{kvs:List (κ×V)}{k:κ}(v:V)(h:fS kvs k=none):gA kvs k v=kvs++[(k,v)]:=by unfold gA;rw[jJ,h];exact if_neg (by decide)
theorem k0.isSome_eq{o:Option V}{u:Option Value}(r:k0 o u):o.isSome=u.isSome:=by
 cases o with
 | none=>cases u with
  | none=>rfl
  | some _=>exact(show False from r).elim
 | some _=>cases u with
  | none=>exact(show False from r).elim
  | some _=>rfl
theorem k0.getD{o:Option V}{u:Option Value}{d:V}{d':Value}(r:k0 o u)(rd:fM d d'):fM (o.getD d) (u.getD d'):=by
 cases o with
 | none=>cases u with
  | none=>exact rd
  | some _=>exact(show False from r).elim
 | some _=>cases u with
  | none=>exact(show False from r).elim
  | some _=>exact r
theorem KV.val{kvs:List (κ×V)}{vs:List (κ×Value)}(r:KV kvs vs)(k:κ):k0 (fS kvs k) (valueAt vs k):=by
 unfold KV at r;induction r with
 | nil=>exact aH
 | @cons p q ps qs h t ih=>
  obtain⟨h1,h2⟩:=h;by_cases e:p.1=k
  ·have e':q.1=k:=h1.symm.trans e;have b:valueAt (q::qs) k=some q.2:=by simp[valueAt,bh,e']
   rw[fu e,b];exact h2
  ·have e':¬q.1=k:=λz=>e (h1.trans z);have b:valueAt (q::qs) k=valueAt qs k:=by simp[valueAt,bh,e']
   rw[fz e,b];exact ih
theorem KV.any{kvs:List (κ×V)}{vs:List (κ×Value)}(r:KV kvs vs)(k:κ):(kvs.any λkv=>decide (kv.1=k))=vs.any λkv=>decide (kv.1=k):=by
 unfold KV at r;induction r with
 | nil=>rfl
 | cons h t ih=>rw[bg,bg,ih,h.1]
theorem KV.repl{kvs:List (κ×V)}{vs:List (κ×Value)}(r:KV kvs vs)(k:κ){y:V}{u:Value}(ry:fM y u):
  KV (kvs.map λkv=>if kv.1=k then(kv.1,y)else kv) (vs.map λkv=>if kv.1=k then(kv.1,u)else kv):=by
 unfold KV at r⊢;induction r with
 | nil=>exact .nil
 | @cons p q ps qs h t ih=>
  rw[aY,aY];refine .cons ?_ ih;obtain⟨h1,h2⟩:=h;by_cases e:p.1=k
  ·rw[if_pos e,if_pos (h1.symm.trans e)];exact⟨h1,ry⟩
  ·rw[if_neg e,if_neg (λz=>e (h1.trans z))];exact⟨h1,h2⟩
theorem KV.put{kvs:List (κ×V)}{vs:List (κ×Value)}(r:KV kvs vs)(k:κ){y:V}{u:Value}(ry:fM y u):KV (gA kvs k y) (stored vs k u):=by
 unfold gA stored;rw[r.any k];by_cases e:(vs.any λkv=>decide (kv.1=k))=true
 ·rw[if_pos e,if_pos e];exact r.repl k ry
 ·rw[if_neg e,if_neg e];exact Paired.snoc r ⟨rfl,ry⟩
theorem KV.keys{kvs:List (κ×V)}{vs:List (κ×Value)}(r:KV kvs vs):kvs.map (·.1)=vs.map (·.1):=by
 unfold KV at r;induction r with
 | nil=>rfl
 | cons h t ih=>rw[aY,aY,ih,h.1]
theorem KV.length{kvs:List (κ×V)}{vs:List (κ×Value)}(r:KV kvs vs):kvs.length=vs.length:=Paired.length r
end
theorem qJ{P:Program}{w:World}{k:fE}{u:Value}(r:fM (kV k) u):(gY P w).is k u=true:=by
 cases k with
 | inl i=>obtain⟨t,e⟩:=(show ∃t,u=Value.int i t from r);subst e;exact uJ P w i t
 | inr x=>obtain⟨t,e⟩:=(show ∃t,u=Value.str x t from r);subst e;exact uI P w x t
theorem qv{P:Program}{w:World}:∀{ks:List fE}{us:List Value},fG (ks.map kV) us→ItemsAre (gY P w) ks us
 | [],_,r=>by rw[bV]at r;cases r;exact .nil
 | k::ks,_,r=>by
  rw[aY]at r;cases r with
  | cons h t=>exact .cons (qJ h) (qv t)
abbrev KT(H:Hp):List (List fE×V)→List (List fE×Addr×Value)→Prop:=Paired λp q=>p.1=q.1∧H q.2.1=some (.tup (p.1.map kV))∧fM p.2 q.2.2
theorem KT.val{H:Hp}{kvs:List (List fE×V)}{xs:List (List fE×Addr×Value)}(r:KT H kvs xs)(k:List fE):k0 (fS kvs k) ((atKey xs k).map (·.2)):=by
 induction r with
 | nil=>exact aH
 | @cons p q ps qs h t ih=>
  obtain⟨h1,_,h2⟩:=h;by_cases e:p.1=k
  ·have e':q.1=k:=h1.symm.trans e;have b:atKey (q::qs) k=some q.2:=by simp[atKey,bh,e']
   rw[fu e,b];exact h2
  ·have e':¬q.1=k:=λz=>e (h1.trans z);have b:atKey (q::qs) k=atKey qs k:=by simp[atKey,bh,e']
   rw[fz e,b];exact ih
theorem KT.repl{H:Hp}{kvs:List (List fE×V)}{xs:List (List fE×Addr×Value)}(r:KT H kvs xs)(k:List fE){y:V}{u:Value}(ry:fM y u):
  KT H (kvs.map λkv=>if kv.1=k then(kv.1,y)else kv) (xs.map (putAt k u)):=by
 induction r with
 | nil=>exact .nil
 | @cons p q ps qs h t ih=>
  rw[aY,aY];refine .cons ?_ ih;obtain⟨h1,h2,h3⟩:=h;unfold putAt;by_cases e:p.1=k
  ·rw[if_pos e,if_pos (h1.symm.trans e)];exact⟨h1,h2,ry⟩
  ·rw[if_neg e,if_neg (λz=>e (h1.trans z))];exact⟨h1,h2,h3⟩
theorem KT.put{H:Hp}{kvs:List (List fE×V)}{xs:List (List fE×Addr×Value)}(r:KT H kvs xs)(k:List fE){b:Addr}{y:V}{u:Value}(hb:H b=some (.tup (k.map kV)))(ry:fM y u):
  KT H (gA kvs k y) (storedH xs k b u):=by
 have e:(kvs.any λkv=>decide (kv.1=k))=(atKey xs k).isSome:=by rw[jJ,(r.val k).isSome_eq,cT]
 unfold gA storedH;rw[e];by_cases q:(atKey xs k).isSome=true
 ·rw[if_pos q,if_pos q];exact r.repl k ry
 ·rw[if_neg q,if_neg q];exact Paired.snoc r ⟨rfl,hb,ry⟩
theorem KT.keeps{H H':Hp}{kvs:List (List fE×V)}{xs:List (List fE×Addr×Value)}(r:KT H kvs xs)(ht:∀b ys,H b=some (.tup ys)→H' b=some (.tup ys)):KT H' kvs xs:=
 Paired.mapP r λ_ _ z=>⟨z.1,ht _ _ z.2.1,z.2.2⟩
section
variable {P:Program}{w:World}{H:Hp}{h:Heap}{a:Addr}
theorem EQ{u:HO}(ok:mO P w H h)(e:Rd H a u):gB P w H h a u:=e.ok ok
theorem mn{kvs:List (fE×V)}(ok:mO P w H h)(e:Rd H a (.dK kvs)):kvs.length≤sizeLine∧(a==sysModules)=false∧∃vs,KV kvs vs∧h.DictOf (gY P w) a vs:=
 show gB P w H h a (.dK kvs)from EQ ok e
theorem Eh{kvs:List (fE×V)}(ok:mO P w H h)(e:H a=some (.dK kvs)):kvs.length≤sizeLine∧(a==sysModules)=false∧∃vs,KV kvs vs∧h.DictOf (gY P w) a vs:=mn ok (.inl e)
theorem nX{ks:List fE}(ok:mO P w H h)(e:H a=some (.tup (ks.map kV))):(tupleKind (gY P w)).is h ks a:=by obtain⟨_,its,r,o,h1,h2,n,h3⟩:=(show gB P w H h a (.tup (ks.map kV))from ok a _ e);exact⟨o,its.toArray,n,h1,h2,h3,by simpa using qv r⟩
theorem qN{kvs:List (List fE×V)}(ok:mO P w H h)(e:Rd H a (.dT kvs)):kvs.length≤sizeLine∧(a==sysModules)=false∧
  ∃xs,KT H kvs xs∧h.DictOfH (tupleKind (gY P w)) a xs:=by
 obtain⟨z,y,xs,r,o,es,ep,h1,h2,h3,h4,h5⟩:=(show gB P w H h a (.dT kvs)from EQ ok e);refine⟨z,y,xs,r,o,es,ep,h1,h2,h3,h4,λx hx=>?_,h5⟩;have all:∀{l:List (List fE×V)}{m:List (List fE×Addr×Value)},KT H l m→∀x∈m,(tupleKind (gY P w)).is h x.1 x.2.1:=by
  intro l m q;induction q with
  | nil=>intro x hx;exact nomatch hx
  | @cons p q ps qs hq t ih=>
   intro x hx;rcases aB.mp hx with e|hx
   ·subst e;exact nX ok (by rw[←hq.1];exact hq.2.1)
   ·exact ih x hx
 exact all r x hx
theorem Jw{kvs:List (List fE×V)}(ok:mO P w H h)(e:H a=some (.dT kvs)):kvs.length≤sizeLine∧(a==sysModules)=false∧
  ∃xs,KT H kvs xs∧h.DictOfH (tupleKind (gY P w)) a xs:=qN ok (.inl e)
end
def iN(H:Hp)(a:Addr)(y:V)(r:Option V):Prop:=
 (∃kvs k,Rd H a (.dK kvs)∧y=kV k∧r=fS kvs k)∨∃kvs k b,Rd H a (.dT kvs)∧y=.ref b∧H b=some (.tup (k.map kV))∧r=fS kvs k
def mz(H:Hp)(a:Addr)(y v:V)(H':Hp):Prop:=
 (∃kvs k,H a=some (.dK kvs)∧y=kV k∧kvs.length<sizeLine∧H'=upd H a (.dK (gA kvs k v)))∨
 ∃kvs k b,H a=some (.dT kvs)∧y=.ref b∧H b=some (.tup (k.map kV))∧kvs.length<sizeLine∧H'=upd H a (.dT (gA kvs k v))
theorem iN.k{H:Hp}{a:Addr}{kvs:List (fE×V)}{k:fE}(e:H a=some (.dK kvs)):iN H a (kV k) (fS kvs k):=.inl ⟨kvs,k,.inl e,rfl,rfl⟩
theorem mz.k{H:Hp}{a:Addr}{kvs:List (fE×V)}{k:fE}{v:V}(e:H a=some (.dK kvs))(hl:kvs.length<sizeLine):mz H a (kV k) v (upd H a (.dK (gA kvs k v))):=.inl ⟨kvs,k,e,rfl,hl,rfl⟩
section
variable {X:Cx}{pins:List (Addr×Obj)}{σ:St}{H:Hp}{s:Shared}{a:Addr}{y v:V}{u r:Value}{o:Option V}{A:Around}{E:Value→Shared→Prop}
theorem eU.big(I:eU X pins σ H s):sysModules<s.heap.objs.size:=by have h:mainGlobals<s.heap.objs.size:=(I.mod.glob.keeps I.bk).lt;exact cU (by decide) h
theorem ya{Q:Value→Shared→Prop}(hu:A.units+1<cLine)(I:eU X pins σ H s)(g:iN H a y (some v))(ry:fM y u)(h:∀w' s',eU X pins σ H s'→fM v w'→Q w' s'):
  wpAny (model X.prog X.w) A (getItem (.ref a) u) Q E s:=by
 rcases g with⟨kvs,k,e,ey,l⟩|⟨kvs,k,b,e,ey,eb,l⟩
 ·subst ey;obtain⟨z,hd,vs,rel,dd⟩:=mn I.hok e;obtain⟨w',hw,rw'⟩:=k0.some_of (v:=v) (o:=valueAt vs k) (by rw[l];exact rel.val k);exact wpAny_getItem_of (qJ ry) dd.mapOf hw (h w' _ (I.tok _) rw')
 ·subst ey;cases(show u=Value.ref b from ry);obtain⟨z,hd,xs,rel,dd⟩:=qN I.hok e;obtain⟨w',hw,rw'⟩:=k0.some_of (v:=v) (o:=(atKey xs k).map (·.2)) (by rw[l];exact rel.val k);obtain⟨p,hp,hp2⟩:=Option.map_eq_some_iff.mp hw;refine wpAny_getItem_heap (tupleKind_room_in1 hu) (nX I.hok eb) dd hp ?_;rw[hp2];exact h w' _ (I.tok _) rw'
theorem Lq{Q:Value→Shared→Prop}(hu:A.units+1<cLine)(I:eU X pins σ H s)(g:iN H a y o)(ry:fM y u)(h:∀s',eU X pins σ H s'→Q (.bool o.isSome) s'):
  wpAny (model X.prog X.w) A (compareOp .In u (.ref a)) Q E s:=by
 rcases g with⟨kvs,k,e,ey,l⟩|⟨kvs,k,b,e,ey,eb,l⟩
 ·subst ey;obtain⟨z,hd,vs,rel,dd⟩:=mn I.hok e;refine wpAny_in_of (qJ ry) hd dd.mapOf ?_;rw[←(rel.val k).isSome_eq,←l];exact h _ (I.tok _)
 ·subst ey;cases(show u=Value.ref b from ry);obtain⟨z,hd,xs,rel,dd⟩:=qN I.hok e;refine wpAny_in_heap (tupleKind_room_in1 hu) (nX I.hok eb) hd dd ?_;have q:=(rel.val k).isSome_eq;rw[cT]at q;rw[←q,←l];exact h _ (I.tok _)
theorem D2{Q:Value→Shared→Prop}(hu:A.units+1<cLine)(I:eU X pins σ H s)(g:iN H a y o)(ry:fM y u)(h:∀s',eU X pins σ H s'→Q (.bool (!o.isSome)) s'):
  wpAny (model X.prog X.w) A (compareOp .NotIn u (.ref a)) Q E s:=by
 rcases g with⟨kvs,k,e,ey,l⟩|⟨kvs,k,b,e,ey,eb,l⟩
 ·subst ey;obtain⟨z,hd,vs,rel,dd⟩:=mn I.hok e;refine wpAny_notIn_of (qJ ry) hd dd.mapOf ?_;rw[←(rel.val k).isSome_eq,←l];exact h _ (I.tok _)
 ·subst ey;cases(show u=Value.ref b from ry);obtain⟨z,hd,xs,rel,dd⟩:=qN I.hok e;refine wpAny_notIn_heap (tupleKind_room_in1 hu) (nX I.hok eb) hd dd ?_;have q:=(rel.val k).isSome_eq;rw[cT]at q;rw[←q,←l];exact h _ (I.tok _)
theorem sW{h':Heap}{t':Nat}{ob:HO}(I:eU X pins σ H s)(mu:KA (H a))(hs:Heap.SameBut a s.heap h')(he:∃q,h'.get? a=some q)(new:gB X.prog X.w (upd H a ob) h' a ob):
  eU X pins σ (upd H a ob) {s with heap:=h',toks:=t'}:=
 I.write (x:=a) (e:=a) mu (.inl rfl) (λb q hb z=>(hs.2 b hb).trans z) he new
theorem vh{P:Program}{w:World}{H':Hp}{h':Heap}{kvs:List (fE×V)}{vs:List (fE×Value)}(z:kvs.length≤sizeLine)(hd:(a==sysModules)=false)(rel:KV kvs vs)(dd:h'.DictOf (gY P w) a vs):
  gB P w H' h' a (.dK kvs):=⟨z,hd,vs,rel,dd⟩
theorem yZ{H':Hp}{Q:Unit→Shared→Prop}(hu:A.units+1<cLine)(I:eU X pins σ H s)(g:mz H a y v H')(ry:fM y u)(rv:fM v r)(h:∀s',eU X pins σ H' s'→Q () s'):
  wpAny (model X.prog X.w) A (setItem (.ref a) u r) Q E s:=by
 rcases g with⟨kvs,k,e,ey,l,eH⟩|⟨kvs,k,b,e,ey,eb,l,eH⟩
 ·subst ey eH;obtain⟨z,hd,vs,rel,dd⟩:=Eh I.hok e;have hz:vs.length≤sizeLine:=by rw[←rel.length];exact z
  have hl:(gA kvs k v).length≤sizeLine:=by have:=hG kvs k v;lia
  refine wpAny_setItem_pairs (hsz:=hz) (qJ ry) dd λh' dd' hs=>h _ ?_;have he:∃q,h'.get? a=some q:=let ⟨q,_,_,hq,_⟩:=dd';⟨q,hq⟩;exact sW I (by rw[e];exact aH) hs he (vh hl hd (rel.put k rv) dd')
 ·subst ey eH;cases(show u=Value.ref b from ry);obtain⟨z,hd,xs,rel,dd⟩:=Jw I.hok e;have hz:xs.length≤sizeLine:=by rw[←Paired.length rel];exact z
  have hl:(gA kvs k v).length≤sizeLine:=by have:=hG kvs k v;lia
  refine wpAny_setItem_heap (hsz:=hz) (tupleKind_room_in1 hu) (nX I.hok eb) dd λh' dd' hs=>h _ ?_;obtain⟨q,es,ep,hq,h2,h3,h4,_,h5⟩:=dd';refine sW I (by rw[e];exact aH) hs ⟨q,hq⟩ ⟨hl,hd,_,(rel.put k eb rv).keeps λc ys ec=>?_,q,es,ep,hq,h2,h3,h4,h5⟩;rw[db (fY ec e (λz=>nomatch z))];exact ec
end
section
variable {X:Cx}{pins:List (Addr×Obj)}{σ:St}{H:Hp}{s:Shared}{a:Addr}{kvs:List (fE×V)}{k:fE}{u:Value}{A:Around}{E:Value→Shared→Prop}
end
def J9(i:Expr):Prop:=∀ov iv,subscripted i false ov iv=operate [ov,iv] (getItem ov iv)
theorem DB{prog:Program}{w:World}{A:Around}{E:Value→Shared→Prop}{s:Shared}{env:Env}{value slice:Expr}{pos:Pos}{T id:String}{Q:Value→Shared→Prop}
  (hl:typeLookup (.type T) "__getitem__"=pure (some (.builtin id))) (hs:J9 slice)
  (h:wpAny (model prog w) A (eval value env) (λo s₁=>wpAny (model prog w) A (eval slice env) (λi s₂=>s₂.TypeIs o T∧wpAny (model prog w) A (getItem o i) Q E s₂) E s₁) E s):
  wpAny (model prog w) A (eval (.Subscript value slice pos) env) Q E s:=by
 refine Subscript_ (wpAny_mono h (λo s₁ h₁=>wpAny_mono h₁ (λi s₂ h₂=>?_) λ_ _ x=>x) λ_ _ x=>x);obtain⟨hT,h₂⟩:=h₂;unfold subscriptTail;refine wpAny_bind ?_;rw[getitemInPython_of_ne hT.not_modules];refine wpAny_bind (wpAny_specialOf hT hl ?_);have gi:wpAny (model prog w) A (subscripted slice false o i) (λr s₃=>wpAny (model prog w) A (letTemporaryGo value o r >>= λ_=>pure r) Q E s₃) E s₂:=by rw[hs o i];exact wpAny_operating (wpAny_mono h₂ (λr s₃ h₃=>wpAny_bind (wpAny_letTemporaryGo (wpAny_pure h₃))) λ_ _ x=>x)
 first
  | exact wpAny_pure (wpAny_bind gi)
  | exact wpAny_bind (wpAny_pure (wpAny_bind gi))
  | exact wpAny_bind gi
theorem uV{X:Cx}{pins:List (Addr×Obj)}{σ:St}{H:Hp}{s:Shared}{a:Addr}{y:V}{o:Option V}(I:eU X pins σ H s)(g:iN H a y o):s.TypeIs (.ref a) "dict":=by
 rcases g with⟨kvs,k,e,_,_⟩|⟨kvs,k,b,e,_,_,_⟩
 ·obtain⟨_,_,vs,_,dd⟩:=mn I.hok e;exact dd.typeIs
 ·obtain⟨_,_,xs,_,dd⟩:=qN I.hok e;exact dd.typeIs
def qd(td ty:TE):TE:=λσ H Q=>td σ H λx H1=>ty σ H1 λy H2=>∃a v,x=.ref a∧iN H2 a y (some v)∧Q v H2
def zt(ty td:TE):TE:=λσ H Q=>ty σ H λy H1=>td σ H1 λx H2=>∃a o,x=.ref a∧iN H2 a y o∧Q (.bl o.isSome) H2
def oY(ty td:TE):TE:=λσ H Q=>ty σ H λy H1=>td σ H1 λx H2=>∃a o,x=.ref a∧iN H2 a y o∧Q (.bl (!o.isSome)) H2
def lB(td ty tv:TE):TS:=λD σ H=>tv σ H λv H1=>td σ H1 λx H2=>ty σ H2 λy H3=>∃a H4,x=.ref a∧mz H3 a y v H4∧D.nx σ H4
section
variable {X:Cx}{o i e value:Expr}{pos pos' tpos:Pos}{td ty tv:TE}
theorem mZ(hu:X.A.units+1<cLine)(ho:PE X o td)(hi:PE X i ty)(hs:J9 i):PE X (.Subscript o i pos) (qd td ty):=by intro pins s σ H Q I h;refine DB PySem.F.slot_dict_getitem.lookup hs (thn (ho pins s σ H _ I h) λu s1 ⟨x,H1,I1,rx,q1⟩=>thn (hi pins s1 σ H1 _ I1 q1) λiv s2 ⟨y,H2,I2,ry,a,v,ex,g,q2⟩=>?_);subst ex;obtain rfl:u=Value.ref a:=rx;exact⟨uV I2 g,ya hu I2 g ry λw' s3 I3 rw'=>⟨v,H2,I3,rw',q2⟩⟩
theorem rh(hu:X.A.units+1<cLine)(hi:PE X i ty)(ho:PE X o td):PC X .In i o (zt ty td):=by intro pins s σ H Q I h;refine thn (hi pins s σ H _ I h) λiv s1 ⟨y,H1,I1,ry,q1⟩=>thn (ho pins s1 σ H1 _ I1 q1) λu s2 ⟨x,H2,I2,rx,a,ov,ex,g,q2⟩=>?_;subst ex;obtain rfl:u=Value.ref a:=rx;exact Lq hu I2 g ry λs3 I3=>⟨.bl ov.isSome,H2,I3,rfl,q2⟩
theorem nN(hu:X.A.units+1<cLine)(hi:PE X i ty)(ho:PE X o td):PC X .NotIn i o (oY ty td):=by intro pins s σ H Q I h;refine thn (hi pins s σ H _ I h) λiv s1 ⟨y,H1,I1,ry,q1⟩=>thn (ho pins s1 σ H1 _ I1 q1) λu s2 ⟨x,H2,I2,rx,a,ov,ex,g,q2⟩=>?_;subst ex;obtain rfl:u=Value.ref a:=rx;exact D2 hu I2 g ry λs3 I3=>⟨.bl (!ov.isSome),H2,I3,rfl,q2⟩
theorem jF(hu:X.A.units+1<cLine)(ho:PE X o td)(hi:PE X i ty)(hv:PE X value tv)(hs:swapsWith value (some (.Subscript o i pos')) pos.line X.env=pure false):
  PS X (.Assign [.Subscript o i pos'] value pos) (lB td ty tv):=by
 intro pins s σ H D I h;refine wpAny_Assign_Subscript (thn (hv pins s σ H _ I h) λr s1 ⟨v,H1,I1,rv,q1⟩=>thn (ho pins s1 σ H1 _ I1 q1) λu s2 ⟨x,H2,I2,rx,q2⟩=>thn (hi pins s2 σ H2 _ I2 q2) λiv s3 ⟨y,H3,I3,ry,a,H4,ex,g,q3⟩=>?_) hs;subst ex;obtain rfl:u=Value.ref a:=rx;exact yZ hu I3 g ry rv λs4 I4=>⟨σ,H4,I4,q3⟩
end
theorem uU{P:Program}{w:World}{H:Hp}(h:Heap)(hb:sysModules<h.objs.size):gB P w H (h.push {cls:=.type "dict",data:=.dict #[]}) h.objs.size (.dK []):=
 ⟨aU _,beq_eq_false_iff_ne.mpr (af (aL hb)),[],.nil,Heap.DictOf.new h⟩
def io:TE:=λ_ H Q=>ku H (.dK []) Q
section
variable {X:Cx}{pos:Pos}
theorem iK:PE X (.Dict [] [] pos) io:=λpins s σ H Q I h=>
 wpAny_Dict_empty ⟨.ref s.heap.objs.size,_,I.laid (a:=s.heap.objs.size) (o:=.dK []) (t':=s.toks) (λ_ _ q=>Heap.get?_push_of_some _ q) (aC _) (uU s.heap I.big),rfl,h _ (I.hok.fresh (aC _))⟩
end
def ux:List (TE×TE)→St→Hp→(List (V×V)→Hp→Prop)→Prop
 | [],_,H,Q=>Q [] H
 | (tk,tv)::r,σ,H,Q=>tk σ H λx H1=>tv σ H1 λy H2=>ux r σ H2 λps H3=>Q ((x,y)::ps) H3
abbrev VV:List (V×V)→List (Value×Value)→Prop:=Paired λp q=>fM p.1 q.1∧fM p.2 q.2
def KZ(X:Cx)(pos:Pos)(keys:List (Option Expr))(values:List Expr)(trs:List (TE×TE)):Prop:=
 ∀(pins:List (Addr×Obj))(s:Shared)(σ:St)(H:Hp)(Q:List (V×V)→Hp→Prop),eU X pins σ H s→ux trs σ H Q→
  wpAny (model X.prog X.w) X.A (evalPairs (pairTrees keys values X.env pos)) (λvs s'=>∃ps H',eU X pins σ H' s'∧VV ps vs∧Q ps H') X.xe s
theorem DR{X:Cx}{pos:Pos}:KZ X pos [] [] []:=λpins s σ H Q I h=>pairTrees_nil_walk ⟨[],H,I,.nil,h⟩
theorem kI{X:Cx}{pos:Pos}{k v:Expr}{ks:List (Option Expr)}{vs:List Expr}{tk tv:TE}{trs:List (TE×TE)}(hk:PE X k tk)(hv:PE X v tv)(hr:KZ X pos ks vs trs):
  KZ X pos (some k::ks) (v::vs) ((tk,tv)::trs):=λpins s σ H Q I h=>
 pairTrees_cons_walk (thn (hk pins s σ H _ I h) λu s1 ⟨x,H1,I1,rx,q1⟩=>thn (hv pins s1 σ H1 _ I1 q1) λw2 s2 ⟨y,H2,I2,ry,q2⟩=>
  thn (hr pins s2 σ H2 _ I2 q2) λws s3 ⟨ps,H3,I3,rel,q3⟩=>⟨(x,y)::ps,H3,I3,.cons ⟨rx,ry⟩ rel,q3⟩)
def eg(kvs more:List (fE×V)):List (fE×V):=more.foldl (λacc kv=>gA acc kv.1 kv.2) kvs
theorem KV.merge:∀{more:List (fE×V)}{rs:List (fE×Value)}{kvs:List (fE×V)}{vs:List (fE×Value)},KV more rs→KV kvs vs→KV (eg kvs more) (merged vs rs):=by
 intro more rs kvs vs r;unfold KV at r;induction r generalizing kvs vs with
 | nil=>intro q;exact q
 | @cons p q ps qs h t ih=>
  intro r0;have e:KV (gA kvs p.1 p.2) (stored vs q.1 q.2):=by have:=r0.put p.1 h.2;rw[←h.1];exact this
  exact ih e
theorem lc:∀(more kvs:List (fE×V)),(eg kvs more).length≤kvs.length+more.length
 | [],kvs=>by show kvs.length≤kvs.length+0;lia
 | p::r,kvs=>by have h1:=lc r (gA kvs p.1 p.2);have h2:=hG kvs p.1 p.2;show(eg (gA kvs p.1 p.2) r).length≤_;rw[aE];lia
theorem qO{P:Program}{w:World}:∀{kvs:List (fE×V)}{ws:List (Value×Value)},VV (kvs.map λkv=>(kV kv.1,kv.2)) ws→∃rs,Carries (gY P w) ws rs∧KV kvs rs
 | [],_,r=>by rw[bV]at r;cases r;exact⟨[],aH,.nil⟩
 | p::kvs,_,r=>by
  rw[aY]at r;cases r with
  | @cons a b as bs h t=>obtain⟨rs,c,q⟩:=qO (P:=P) (w:=w) t;obtain⟨b1,b2⟩:=b;exact⟨(p.1,b2)::rs,⟨qJ h.1,rfl,c⟩,.cons ⟨rfl,h.2⟩ q⟩
def zr(trs:List (TE×TE)):TE:=λσ H Q=>∀p,H p=none→ux trs σ (upd H p (.dK [])) λps H2=>H2 p=some (.dK [])∧∃kvs:List (fE×V),ps=kvs.map (λkv=>(kV kv.1,kv.2))∧kvs.length≤15∧Q (.ref p) (upd H2 p (.dK (eg [] kvs)))
theorem DW{X:Cx}{pos:Pos}{keys:List (Option Expr)}{values:List Expr}{trs:List (TE×TE)}(h:KZ X pos keys values trs)(hall:keys.all (·.isSome)=true)(hl:keys.length=values.length)(h0:keys≠[])
  (h15:keys.length≤15):PE X (.Dict keys values pos) (zr trs):=by
 intro pins s σ H Q I q;have hn:=I.hok.fresh (aC s.heap.objs.size);have I1:=I.laid (a:=s.heap.objs.size) (o:=.dK []) (h':=s.heap.push {cls:=.type "dict",data:=.dict #[]}) (t':=s.toks) (λ_ _ q=>Heap.get?_push_of_some _ q) (aC _) (uU s.heap I.big);refine wpAny_Dict_walk (knd:=gY X.prog X.w) hall hl h0 h15 (thn (h pins _ σ _ _ I1 (q _ hn)) λws s2 ⟨ps,H2,I2,rel,e,kvs,ep,lk,q2⟩=>?_);subst ep;obtain⟨rs,c,rk⟩:=qO (P:=X.prog) (w:=X.w) rel;obtain⟨z,hd,vs0,r0,dd⟩:=Eh I2.hok e;cases r0;refine⟨rs,c,dd,λh' dd' hs=>⟨.ref s.heap.objs.size,_,?_,rfl,q2⟩⟩;have hz:(eg [] kvs).length≤sizeLine:=by have h1:=lc kvs [];rw[au]at h1;rw[sizeLine_eq];lia
 have he:∃q,h'.get? s.heap.objs.size=some q:=let ⟨q,_,_,hq,_⟩:=dd';⟨q,hq⟩;exact sW I2 (by rw[e];exact aH) hs he (vh hz hd (rk.merge .nil) dd')
structure M2(X:Cx)(o:Expr)(m:Str)(apos:Pos)(e f:Expr)(cpos:Pos):Prop where
 base:attributeBase o m X.env (eval o X.env)=eval o X.env
 few:((backTo cpos (starEach [e,f] X.env)).all (λx=>!x.1)&&(backToKw cpos (keywordEach [] X.env)).all (λx=>x.1.isSome)
  && decide (([e,f]:List Expr).length+([]:List Keyword).length+(if([]:List Keyword).isEmpty then 0 else 1)<30))=true
 line:(apos.endLine==cpos.line)=true
 trees:backTo cpos (starEach [e,f] X.env)=[(false,eval e X.env),(false,eval f X.env)]
def Mz(H:Hp)(a:Addr):Prop:=(∃kvs,Rd H a (.dK kvs))∨∃kvs,Rd H a (.dT kvs)
theorem HW{X:Cx}{pins:List (Addr×Obj)}{σ:St}{H:Hp}{s:Shared}{a:Addr}(I:eU X pins σ H s)(d:Mz H a):
  s.TypeIs (.ref a) "dict"∧(∀b,Value.ref a=.ref b→∃ob,s.heap.get? b=some ob∧ob.dict=none)∧(a==sysModules)=false:=by
 rcases d with⟨kvs,e⟩|⟨kvs,e⟩
 ·obtain⟨_,hd,vs,_,dd⟩:=mn I.hok e;refine⟨dd.typeIs,λb q=>?_,hd⟩;cases q;obtain⟨ob,_,_,h1,h2,_⟩:=dd;exact⟨ob,h1,h2.2.1⟩
 ·obtain⟨_,hd,xs,_,dd⟩:=qN I.hok e;refine⟨dd.typeIs,λb q=>?_,hd⟩;cases q;obtain⟨ob,_,_,h1,h2,_⟩:=dd;exact⟨ob,h1,h2.2.1⟩
section
variable {X:Cx}{pins:List (Addr×Obj)}{σ:St}{H:Hp}{s:Shared}{a:Addr}{y d:V}{u r:Value}{o:Option V}{A:Around}{E:Value→Shared→Prop}
theorem Hk{Q:Value→Shared→Prop}(hu:A.units+1<cLine)(I:eU X pins σ H s)(g:iN H a y o)(ry:fM y u)(rd:fM d r)(h:∀w' s',eU X pins σ H s'→fM (o.getD d) w'→Q w' s'):
  wpAny (model X.prog X.w) A (call (.builtin "dict.get") [.ref a,u,r]) Q E s:=by
 rcases g with⟨kvs,k,e,ey,l⟩|⟨kvs,k,b,e,ey,eb,l⟩
 ·subst ey;obtain⟨z,hd,vs,rel,dd⟩:=mn I.hok e;refine call_meetsIn cV dd.typeIs c3 (dA _ _ _) (meets_dict_get_default (gY X.prog X.w) a (qJ ry) hd r) ⟨_,dd.mapOf,h _ _ (I.tok _) ?_⟩;rw[l];exact(rel.val k).getD rd
 ·subst ey;cases(show u=Value.ref b from ry);obtain⟨z,hd,xs,rel,dd⟩:=qN I.hok e;refine call_meetsIn cV dd.typeIs c3 (dA _ _ _) (meetsH_dict_get_default (tupleKind (gY X.prog X.w)) a b hd r) ⟨tupleKind_room_in1 hu,k,xs,nX I.hok eb,dd,h _ _ (I.tok _) ?_⟩;rw[l];exact(rel.val k).getD rd
end
def pF(td ty tx:TE):TE:=λσ H Q=>td σ H λx H1=>∃a,x=.ref a∧Mz H1 a∧ty σ H1 λy H2=>tx σ H2 λz H3=>∃o,iN H3 a y o∧Q (o.getD z) H3
section
variable {X:Cx}{o e f:Expr}{apos cpos:Pos}{td ty tx:TE}
theorem mY(hu:X.A.units+1<cLine)(ho:PE X o td)(he:PE X e ty)(hf:PE X f tx)(m:M2 X o "get" apos e f cpos):PE X (.Call (.Attribute o "get" apos) [e,f] [] cpos) (pF td ty tx):=by
 intro pins s σ H Q I h;refine wpAny_Call_method m.base m.few m.line PySem.F.plainAttrs_dict cV PySem.F.type_dict_get (thn (ho pins s σ H _ I h) λu s1 ⟨x,H1,I1,rx,a,ex,d,q1⟩=>?_);subst ex;obtain rfl:u=Value.ref a:=rx;obtain⟨t1,t2,_⟩:=HW I1 d;refine⟨t1,t2,?_⟩;rw[m.trees];refine Calls.callWith_builtin rfl (Calls.evalArgs_plain (Calls.spliced_cons (thn (he pins s1 σ H1 _ I1 q1) λiv s2 ⟨y,H2,I2,ry,q2⟩=>
  Calls.spliced_cons (thn (hf pins s2 σ H2 _ I2 q2) λfv s3 ⟨z,H3,I3,rz,ov,g,q3⟩=>Calls.spliced_nil ?_))))
 exact Hk hu I3 g ry rz λw' s4 I4 rw'=>⟨_,H3,I4,rw',q3⟩
end
section
variable {X:Cx}{pins:List (Addr×Obj)}{σ:St}{H:Hp}{s:Shared}{a:Addr}{kvs:List (fE×V)}{A:Around}{E:Value→Shared→Prop}
theorem BV{Q:Value→Shared→Prop}(I:eU X pins σ H s)(e:Rd H a (.dK kvs))(h:∀p s',H p=none→eU X pins σ (upd H p (.dK kvs)) s'→Q (.ref p) s'):wpAny (model X.prog X.w) A (call (.type "dict") [.ref a]) Q E s:=by obtain⟨z,hd,vs,rel,dd⟩:=mn I.hok e;refine kt_call_dict hd dd (by rw[←rel.length];exact z) λh' dd' hs=>?_;refine h _ _ (I.hok.fresh (aC _)) (I.laid (a:=s.heap.objs.size) (o:=.dK kvs) (t':=s.toks) (λb q hq=>?_) (aC _) (vh z (beq_eq_false_iff_ne.mpr (af (aL I.big))) rel dd'));exact(hs.2 b (aL (Heap.lt_size hq))).trans (Heap.get?_push_of_some _ hq)
end
section
variable {X:Cx}{pins:List (Addr×Obj)}{σ:St}{H:Hp}{s:Shared}{a:Addr}{y:V}{u:Value}{A:Around}{E:Value→Shared→Prop}
end
end L2
namespace Att
open PySem PySem.W PySem.Calls PyProof.Rows
theorem oT{P:Params}{h:Heap}:∀(ns:List Int)(vs:List Value),WellAll P h vs (ns.map WData.int)→IntsAre vs ns:=by
 intro ns;induction ns with
 | nil=>intro vs w;rw[bV]at w;cases w;exact .nil
 | cons n ns ih=>
  intro vs w;rw[aY]at w;cases w with
  | cons a b=>cases a;exact .cons _ _ (ih _ b)
theorem x5{l:OpenLaw}{n:Nat}(hn:l.most=some n){P:Params}{h:Heap}{args:List WData}{vals:List Value}
  (hpre:l.row.toRowW.claim.pre args=true) (hwl:WellAll P h vals args):
  ∃a vs ns,vals=[Value.ref a]∧args=[WData.list (ns.map WData.int)]∧h.get? a=some {cls:=.type "list",data:=.seq vs.toArray}∧IntsAre vs ns∧ns.length≤n:=by
 have hsh:WShape.hasAll [] args [.list .int]=true:=(pre_splitW hpre).1;have hc:l.pre.holds [] {args:=args}=true:=(pre_splitW hpre).2;obtain⟨d,r,rfl,h1,h2⟩:=hasAllW_cons hsh;obtain rfl:=hasAllW_nil h2;obtain⟨xs,rfl,h3⟩:=hasW_list h1;obtain⟨ns,rfl⟩:=items_int h3;have hlen:ns.length≤n:=by
  unfold OpenLaw.pre at hc;have h4:(WTm.not (.lt (.lit (.int (n:Int))) (.len (.arg 0)))).holds [] {args:=[.list (ns.map .int)]}=true:=by have h4:=(holds_andW hc).1;rw[hn]at h4;exact h4
  have h5:=condW_of h4 (w_not (w_lt w_lit (w_len_list (w_arg rfl))));rw[aa]at h5;refine Nat.le_of_not_lt λq=>?_;have q':(n:Int)<((ns.length:Nat):Int):=by lia
  first
   | (rw[decide_eq_true q']at h5;exact absurd h5 (by decide))
   | (simp at h5;lia)
 cases hwl with
 | cons w1 w2=>
  cases w2;cases w1 with
  | list ho hall=>exact⟨_,_,ns,rfl,rfl,ho,oT ns _ hall,hlen⟩
theorem yG(l:OpenLaw)(args:List WData):l.row.toRowW.claim.post args (.bool true) args=true:=
 postW_of (r:=l.row.toRowW) (X:=(true==true))
  (show WShape.has [] (.bool true) .bool=true by first|rfl|decide|simp[WShape.has,WShape.arms,WShape.armsAll])
  (show(WTm.eq .res (.lit (.bool true))).value [] {args:=args,res:=some (.bool true),after:=args}=some (.bool (true==true))from w_eq_bool (w_res rfl) w_lit) rfl
theorem Ej{l:OpenLaw}{n:Nat}{q:Program}{loose:List Str}{XP:(Str→Option Value)→Heap→Prop}{YP:World→Heap→Prop}{d:DefRec}
  (hn:l.most=some n) (hdf:d.params.defaults=[])
  (call:∀(w:World)(s₀ s₁:Shared)(mg mb:Str→Option Value)(fa:Addr)(o:Obj)(pm cd doc:Value)(a:Addr)(vs:List Value)(ns:List Int),
   Ground q loose [] XP w s₀ mg mb s₁.heap→YP w s₁.heap→
   s₁.heap.get? fa=some o→o.data=.func (docDef d.name d.params d.body d.scope pm cd doc)→s₁.heap.CodeRec cd d.name→mg d.name=some (.ref fa)→
   s₁.heap.get? a=some {cls:=.type "list",data:=.seq vs.toArray}→IntsAre vs ns→ns.length≤n→s₁.gens = #[]→
   codeAny (model l.prog w) callerA (.call (.ref fa) ⟨[.ref a],[]⟩) (λr s'=>r=.ok (.ret (.bool true))∧OldK s₁.heap s'.heap∧s'.os=s₁.os∧AllBare s'.gens) s₁):
  WalkO q loose XP YP l.row.toRowW d [] (λf vs=>PySem.call f vs):=by
 intro w s₀ s₁ mg mb G Y fa o pm cd doc dV kV ho hd hcd hD hmg hg args vals as hpre hlay hrd hwl hlo;obtain rfl:dV=.none:=Dflts.none hD hdf;obtain rfl:kV=.none:=Dflts.noKw hD;obtain⟨a,vs,ns,rfl,rfl,hobj,hints,hlen⟩:=x5 hn hpre hwl;refine enter_call (codeAny_mono (call w s₀ s₁ mg mb fa o pm cd doc a vs ns G Y ho (fd_plain hd) hcd hmg hobj hints hlen hg) λr s' hq=>?_);obtain⟨rfl,h2,h3,h4⟩:=hq;exact⟨.inl ⟨.bool true,.bool true,[],rfl,λ_=>rfl,.bool true,yG l _,λ_=>⟨List.Pairwise.nil,λ_ hm=>(nomatch hm)⟩⟩,h2,h3,h4⟩
section
variable {prog:Program}{w:World}{A:Around}{E:Value→Shared→Prop}{s:Shared}{K:Frag}
end
end Att
namespace L2
open PySem PySem.Spec PyProof.Rows
theorem qb:∀{vs:List Value}{ns:List Int},IntsAre vs ns→fG (ns.map V.int) vs
 | _,_,.nil=>.nil
 | _,_,.cons n t h=>.cons ⟨t,rfl⟩ (qb h)
def Hz(H:Hp):Prop:=∀b,H b=none∨∃o xs,H b=some (.frz o (.lst xs))
theorem A9{P:Program}{w:World}{K:aA}{mg mb:Str→Option Value}{CX:yn}{k:Nat}{fa a:Addr}{fd:FuncData}{x:Str}{sp:Sp}{s₁:Shared}{vs:List Value}{ns:List Int}
  (KX:K.In s₁.heap) (hns:s₁.heap.Ns mainGlobals mg) (hb:s₁.heap.Ns builtinsNs mb) (hbb:∀x:Str,x≠"__name__"→mb x=bootBuiltins x) (hlim:s₁.heap.NoLimit) (hg:s₁.gens = #[])
  (ha:s₁.heap.get? a=some {cls:=.type "list",data:=.seq vs.toArray}) (hi:IntsAre vs ns) (hl:ns.length≤sizeLine) (hr:ii k callerA)
  (F:∀base:Heap,K.In base→base.Ns mainGlobals mg→lL P w K mg base CX k fa fd [x] sp) (hbind:∀(s:Shared)(u:Value),BindsTo s fd ⟨[u],[]⟩ [(x,u)])
  (hsp:∀H:Hp,Hz H→eK K H a (ns.map V.int)→sp [.ref a] H (λv _=>v=.bl true) λ_ _ _=>False)
  (hCX:∀H e s',CX [] H s₁ (λ_ _ _=>False) e s'→False):
  codeAny (model P w) callerA (.call (.ref fa) ⟨[.ref a],[]⟩) (λr s'=>r=.ok (.ret (.bool true))∧OldK s₁.heap s'.heap∧s'.os=s₁.os∧AllBare s'.gens) s₁:=by
 have rv:=qb hi;have lenV:=hi.length;have core:∀H:Hp,Hz H→eK K H a (ns.map V.int)→mO P w H s₁.heap→(∀b,H b≠none→b=a)→(H a≠none→K.lookup a=none)→
   codeAny (model P w) callerA (.call (.ref fa) ⟨[.ref a],[]⟩) (λr s'=>r=.ok (.ret (.bool true))∧OldK s₁.heap s'.heap∧s'.os=s₁.os∧AllBare s'.gens) s₁:=by
  intro H hO hS hok hA hK;have base_of:∀{b:Addr}{o:Obj},s₁.heap.get? b=some o→H b=none→(sM s₁.heap H).get? b=some o:=λe n=>BL e n;have noA:∀{b:Addr}{o:Obj}{es:Array DictEntry}{ep:Nat},s₁.heap.get? b=some o→o.data=.dict es ep→H b=none:=λ{b o es ep} e d=>by
   cases q:H b with
   | none=>rfl
   | some u=>have e':b=a:=hA b (by rw[q];simp);subst e';rw[ha]at e;cases e;have d':Data.seq vs.toArray _=Data.dict es ep:=d;cases d'
  have nsK:∀{b:Addr}{m:Str→Option Value},s₁.heap.Ns b m→(sM s₁.heap H).Ns b m:=λ{b m} ⟨o,es,ep,e,d,r⟩=>⟨o,es,ep,base_of e (noA e d),d,r⟩;have hKb:K.In (sM s₁.heap H):=λb o e=>base_of (KX b o e) (by
   cases q:H b with
   | none=>rfl
   | some u=>
    have e':b=a:=hA b (by rw[q];simp);subst e';rw[hK (by rw[q];simp)]at e;cases e)
  have hM:Mod K mg (sM s₁.heap H):=⟨hKb,nsK hns,⟨mb,nsK hb,hbb⟩,let ⟨mc,h1,h2⟩:=hlim;⟨mc,nsK h1,h2⟩⟩;have e0:vq P w K mg (sM s₁.heap H) callerA [] s₁ H:=⟨rfl,hM,λb o e=>Dn e,Nat.le_of_eq (yT _ _),trivial,λb hb=>absurd (show b∈([]:List Addr)from hb) (by simp),hok,.of_eq hg⟩;refine codeAny_mono ((F _ hKb (nsK hns)).run callerA [] s₁ H ⟨[.ref a],[]⟩ [.ref a] [.ref a] _ _ hr e0 (hbind s₁ (.ref a)) (.cons rfl .nil) (hsp H hO hS)) λr s' h=>?_;cases r with
  | error e=>exact(hCX H e s' h).elim
  | ok fl=>
   cases fl with
   | next=>exact False.elim h
   | brk=>exact False.elim h
   | cont=>exact False.elim h
   | ret u=>
    obtain⟨v,H',os,bare,un,hok',r',q⟩:=h;have q':v=.bl true:=q;subst q';obtain rfl:u=Value.bool true:=r';refine⟨rfl,OldK.of_keep λb o e=>?_,os,bare⟩;cases q:H b with
    | none=>exact un.keep b o e q (by intro z;exact absurd (show b∈([]:List Addr)from z) (by simp)) (by simp)
    | some u=>
     rcases hO b with z|⟨ob,xs,z⟩
     ·rw[q]at z;cases z
     ·have z2:=un.frzs b ob _ z;obtain⟨e1,_⟩:=hok b _ z;obtain⟨e2,_⟩:=hok' b _ z2;rw[e]at e1;cases e1;exact e2
 cases hk:K.lookup a with
 | some o=>have e:=KX a o hk;rw[ha]at e;cases e;refine core (λ_=>none) (λ_=>.inl rfl) (.inr ⟨_,vs.toArray,_,hk,rfl,rfl,rfl,by rw[aM,lenV];exact hl,by simpa using rv⟩) (λb u z=>by have z':(none:Option HO)=some u:=z;cases z') (λb z=>absurd rfl z) λz=>absurd rfl z
 | none=>
  refine core (λb=>if b=a then some (.frz {cls:=.type "list",data:=.seq vs.toArray} (.lst (ns.map V.int)))else none) (λb=>?_) (.inl (.inr ⟨{cls:=.type "list",data:=.seq vs.toArray},if_pos rfl⟩)) (λb u z=>?_) (λb z=>?_) λ_=>hk
  ·by_cases hb:b=a
   ·exact .inr ⟨_,_,if_pos hb⟩
   ·exact .inl (if_neg hb)
  ·by_cases hb:b=a
   ·have z':=(if_pos hb).symm.trans z;cases z';subst hb;exact⟨ha,by rw[aa];exact hl,vs,_,rv,ha⟩
   ·have z':=(if_neg hb).symm.trans z;cases z'
  ·by_cases hb:b=a
   ·exact hb
   ·exact absurd (if_neg hb) z
end L2
namespace L2
open PySem PySem.Spec PyProof.Rows
theorem KI{l:PySem.W.OpenLaw}{n k:Nat}{q:Program}{loose:List Str}{XP:(Str→Option Value)→Heap→Prop}{YP:World→Heap→Prop}{d:DefRec}{K:Params→aA}{CX:World→yn}{sp:World→Sp}{x:Str}
  (hn:l.most=some n) (hn2:n≤sizeLine) (hdf:d.params.defaults=[]) (hr:ii k callerA)
  (hY:∀(w:World)(h:Heap),YP w h→(K w.params).In h)
  (F:∀(w:World)(mg:Str→Option Value)(fa:Addr)(h:Heap),(K w.params).In h→h.Ns mainGlobals mg→mg d.name=some (.ref fa)→
   ∃fd:FuncData,(∀(s:Shared)(u:Value),BindsTo s fd ⟨[u],[]⟩ [(x,u)])∧
    ∀base:Heap,(K w.params).In base→base.Ns mainGlobals mg→lL l.prog w (K w.params) mg base (CX w) k fa fd [x] (sp w))
  (hsp:∀(w:World)(H:Hp)(a:Addr)(ns:List Int),ns.length≤n→Hz H→eK (K w.params) H a (ns.map V.int)→sp w [.ref a] H (λv _=>v=.bl true) λ_ _ _=>False)
  (hCX:∀(w:World)(H:Hp)(s:Shared)(e:Value)(s':Shared),CX w [] H s (λ_ _ _=>False) e s'→False):
  PySem.W.WalkO q loose XP YP l.row.toRowW d [] (λf vs=>PySem.call f vs):=by
 refine Att.Ej hn hdf λw s₀ s₁ mg mb fa o pm cd doc a vs ns G Y ho hd hcd hmg hobj hints hlen hg=>?_;have KX:=hY w _ Y;obtain⟨fd,hb,hF⟩:=F w mg fa _ KX G.T.g hmg;exact A9 KX G.T.g G.T.b G.T.builtins G.T.nolimit hg hobj hints (aW hlen hn2) hr hF hb (λH hO hS=>hsp w H a ns hlen hO hS) λH e s'=>hCX w H s₁ e s'
end L2
namespace L2
open PySem PySem.Spec PyProof.Rows
def ft(s:Stmt)(j:Nat):Stmt:=match s with
 | .ClassDef _ _ _ body _ _ _ _ _ _ _=>body.getD j (.Pass ⟨0,0,0,0⟩)
 | _=>.Pass ⟨0,0,0,0⟩
def kc(s:Stmt):Arguments:=match s with
 | .FunctionDef _ a _ _ _ _ _ _ _ _=>a
 | _=>{posonlyargs:=[],args:=[],vararg:=none,kwonlyargs:=[],kw_defaults:=[],kwarg:=none,defaults:=[]}
def iH(s:Stmt):List Stmt:=match s with
 | .FunctionDef _ _ b _ _ _ _ _ _ _=>b
 | _=>[]
def fR(s:Stmt):Scope:=match s with
 | .FunctionDef _ _ _ _ _ _ sc _ _ _=>sc
 | _=>{kind:=.function,names:=[],isGenerator:=false,isCoroutine:=false}
abbrev vv:yn:=λ_ _ _ _ _ _=>False
abbrev E0:XK:=λ_ _ _=>False
theorem Am{X:Cx}:oC vv X E0:=λ_ _ _ _ _ _ _ h=>h.elim
structure Ep(K:aA)(x qual:Str)(st:Stmt)(f:Addr)(fd:FuncData):Prop where
 ex:∃(oc:Value)(od:Option Addr)(kV doc pm:Value)(an:Option Addr)(cdv ct:Value)(osl:Array (Option Value)),
  fd=PySem.W.fnOf x qual (kc st) (iH st) (fR st) .none kV doc pm an cdv ct∧K.lookup f=some ⟨oc,od,.func fd,osl⟩∧PySem.W.codeIn K cdv qual=true
 kp:PySem.W.keepIn K (.ref f)=true
section
variable {P:Program}{w:World}{K:aA}{mg:Str→Option Value}{base:Heap}
theorem Ep.ok{x qual:Str}{st:Stmt}{f:Addr}{fd:FuncData}{N ps:List Str}{k:Nat}{sp:Sp}(F:Ep K x qual st f fd)(S:my N ps (fR st))(len:∀vs H Q E,sp vs H Q E→vs.length=ps.length)
  (hbody:∀(cdv:Value)(A:Around)(outer:List Env)(s:Shared)(H:Hp)(vs:List V)(Q:VK)(E:XK),ii k (A.deeper (envOfC qual (fR st) s.heap.objs.size f cdv))→sp vs H Q E→
   ∃t,sy (oU vv P w K mg base N qual (fR st) f cdv A outer s H E).nox (iH st) t∧t {nx:=λ_ H'=>Q .non H',rt:=Q} (start N vs) H):lL P w K mg base vv (k+1) f fd ps sp:=by
 obtain⟨oc,od,kV,doc,pm,an,cdv,ct,osl,rfl,lk,hcd⟩:=F.ex;refine Ju lk hcd S len λA outer s H vs Q E hr hsp=>?_;obtain⟨t,h,q⟩:=hbody cdv A outer s H vs Q E hr hsp;exact⟨t,h.nox,q⟩
theorem Ep.binds{x qual:Str}{st:Stmt}{f:Addr}{fd:FuncData}{ps:List Str}(F:Ep K x qual st f fd)
  (h:∀(kV doc pm:Value)(an:Option Addr)(cdv ct:Value)(us:List Value),us.length=ps.length→bindArgs (PySem.W.fnOf x qual (kc st) (iH st) (fR st) .none kV doc pm an cdv ct) ⟨us,[]⟩=pure (ps.zip us)):m6 K fd ps []:=by
 obtain⟨oc,od,kV,doc,pm,an,cdv,ct,osl,rfl,lk,hcd⟩:=F.ex;exact .all (h kV doc pm an cdv ct)
theorem Hg{x qual:Str}{st:Stmt}{f:Addr}{oc:Value}{od an:Option Addr}{osl:Array (Option Value)}{kV doc pm cdv ct:Value}(l:K.lookup f=some ⟨oc,od,.func (PySem.W.fnOf x qual (kc st) (iH st) (fR st) .none kV doc pm an cdv ct),osl⟩)
  (c:PySem.W.codeIn K cdv qual=true) (k:PySem.W.keepIn K (.ref f)=true):Ep K x qual st f (PySem.W.fnOf x qual (kc st) (iH st) (fR st) .none kV doc pm an cdv ct):=⟨⟨oc,od,kV,doc,pm,an,cdv,ct,osl,rfl,l,c⟩,k⟩
end
theorem hU{A:Around}{k:Nat}(hr:ii k A):A.units+1<cLine:=cW (Nat.add_le_add_left (by decide:1≤64) _) hr.units
theorem kF{n:Nat}(h:n≤1000):n<sizeLine:=cW h (by decide)
section
variable {X:Cx}
theorem pv(i:Nat){x:Str}{pos:Pos}(hN:X.N[i]?=some x:=by rfl)(hv:KW X.env.scope x:=by first|exact bF rfl|exact bS (bF rfl)|exact bS (bS rfl))(hd:(x==("__debug__":Str))=false:=by decide)
  (hcd:(x==("__classdict__":Str))=false:=by decide):PE X (.Name x pos) (dN i):=Ai hN hv hd hcd
end
theorem fF{A B:Prop}(h:B):if false=true then A else B:=by rw[if_neg aP];exact h
theorem mf{A B:Prop}(h:A):if true=true then A else B:=by rw[if_pos rfl];exact h
theorem jP{c A B:Prop}[Decidable c](h1:c→A)(h2:¬c→B):if c then A else B:=by
 by_cases h:c
 ·rw[if_pos h];exact h1 h
 ·rw[if_neg h];exact h2 h
def dq(H H':Hp):Prop:=∀b o,H b=some o→H' b=some o
theorem dq.refl(H:Hp):dq H H:=λ_ _ h=>h
theorem dq.trans{H H1 H2:Hp}(a:dq H H1)(b:dq H1 H2):dq H H2:=λc o h=>b c o (a c o h)
theorem dq.free{H H':Hp}(e:dq H H'){l:Addr}(h:H' l=Option.none):H l=Option.none:=by
 cases q:H l with
 | none=>rfl
 | some o=>rw[e l o q]at h;cases h
theorem dq.seq{K:aA}{H H':Hp}{a:Addr}{xs:List V}(e:dq H H')(h:eK K H a xs):eK K H' a xs:=by
 rcases h with(h|⟨o,h⟩)|h
 ·exact .inl (.inl (e _ _ h))
 ·exact .inl (.inr ⟨o,e _ _ h⟩)
 ·exact .inr h
section
variable {κ:Type}[DecidableEq κ]
theorem wj:∀{l:List κ}{k:κ},l.Nodup→¬k∈l→(l++[k]).Nodup
 | [],k,_,_=>by simp
 | a::r,k,h,hk=>by
  obtain⟨h1,h2⟩:=bR.mp h;show(a::(r++[k])).Nodup;refine bR.mpr ⟨λm=>?_,wj h2 λm=>hk (aB.mpr (bS m))⟩;rcases aV.mp m with q|q
  ·exact h1 q
  ·exact hk (aB.mpr (bF (aG.mp q).symm))
end
end L2
namespace L2
open PySem PySem.Spec PyProof.Rows
theorem fD:bootBuiltins "len"=some (.builtin "len"):=by decide+kernel
theorem si:bootBuiltins "int"=some (.type "int"):=by decide+kernel
theorem nq:bootBuiltins "str"=some (.type "str"):=by decide+kernel
theorem ox:bootBuiltins "bool"=some (.type "bool"):=by decide+kernel
theorem kf:bootBuiltins "list"=some (.type "list"):=by decide+kernel
theorem ix:bootBuiltins "tuple"=some (.type "tuple"):=by decide+kernel
theorem ou:bootBuiltins "dict"=some (.type "dict"):=by decide+kernel
theorem yf:bootBuiltins "sorted"=some (.builtin "sorted"):=by decide+kernel
theorem eO:bootBuiltins "isinstance"=some (.builtin "isinstance"):=by decide+kernel
theorem Ho:bootBuiltins "min"=some (.builtin "min"):=by decide+kernel
theorem Hq:bootBuiltins "abs"=some (.builtin "abs"):=by decide+kernel
theorem sL(p:PlainL h a its):h.IsList a its:=by obtain⟨o,n,e,c,_,d⟩:=p;exact⟨o,e,c,n,d⟩
theorem BH(p:IsTup h a its):h.IsTuple a its:=p
theorem vy:∀{xs:List V}{us:List Value},xs.length=us.length→(∀(i:Nat) x u,xs[i]?=some x→us[i]?=some u→fM x u)→fG xs us
 | [],[],_,_=>.nil
 | [],_::_,h,_=>by simp at h
 | _::_,[],h,_=>by simp at h
 | x::xs,u::us,h,k=>.cons (k 0 x u rfl rfl) (vy (by simpa using h) λi y w a b=>k (i+1) y w (by simpa using a) (by simpa using b))
theorem DM(h:qI k u=true):fM (kV k) u:=by
 rcases gR h with⟨i,t,rfl,rfl⟩|⟨x,t,rfl,rfl⟩
 ·exact⟨t,rfl⟩
 ·exact⟨t,rfl⟩
def lh(kvs:List (fE×V)):List V:=kvs.map λkv=>kV kv.1
theorem yP(r:KV kvs vs)(h:ItemsOf (λi v=>∃k x,vs[i]?=some (k,x)∧(gY P w).is k v=true) acc vs.length):fG (lh kvs) acc.toList:=by
 refine vy ?_ λi x u hx hu=>?_
 ·have e1:acc.toList.length=vs.length:=by rw[bo];exact h.1
  have e2:(lh kvs).length=kvs.length:=by simp[lh]
  rw[e1,e2];exact r.length
 ·obtain⟨k,y,e,hk⟩:=h.2 i u (by rw[←cS];exact hu);have q:(kvs.map (·.1))[i]?=some k:=by rw[r.keys,ae,e];rfl
  have q2:(lh kvs)[i]?=some (kV k):=by
   have:lh kvs=(kvs.map (·.1)).map kV:=by simp[lh]
   rw[this,ae,q];rfl
  rw[q2]at hx;cases hx;exact DM hk
section
variable {X:Cx}
def kW(K:aA):R2:=λx y H Q=>∃a b xs,x=.ref a∧y=.ref b∧eK K H a xs∧eK K H b []∧Q (.bl (!xs.isEmpty)) H
theorem je(hu:X.A.units<cLine):mM X (compareOp .NotEq) (kW X.K):=by
 intro pins s σ H x y v u Q I rx ry h;obtain⟨a,b,xs,rfl,rfl,ha,hb,q⟩:=h;cases rx;cases ry;obtain⟨its,r1,p1,_⟩:=I.list ha;obtain⟨its2,r2,p2,_⟩:=I.list hb;cases r2;cases r1 with
 | nil=>exact SeqAt.RcNeAt.lists (e:=λ_=>true) (sL p1) (sL p2) rfl hu (λj h1 _=>absurd h1 (cX _)) _ _ _ _ ⟨.bl false,H,I,rfl,q⟩
 | cons _ _=>exact SeqAt.RcNeAt.lists_lengths (sL p1) (sL p2) rfl hu _ _ _ _ ⟨.bl true,H,I,rfl,q⟩
theorem ke:kP X (.type "dict") (λxs H Q=>∃a kvs,xs=[.ref a]∧Rd H a (.dK kvs)∧ku H (.dK kvs) Q):=by intro pins s σ H xs us Q I r h;obtain⟨a,kvs,rfl,ha,q⟩:=h;obtain⟨u,rfl,ru⟩:=k9 r;cases ru;exact BV I ha λp s' hp I'=>⟨.ref p,_,I',rfl,q p hp⟩
theorem wQ:∀{ws:List Str}{us:List Value},fG (ws.map V.str) us→StrsAre us ws
 | [],_,r=>by rw[bV]at r;cases r;exact .nil
 | w::ws,_,r=>by
  rw[aY]at r;cases r with
  | cons h t=>obtain⟨t',rfl⟩:=h;exact .cons w t' (wQ t)
theorem wd:∀{ws:List Str}{us:List Value},StrsAre us ws→fG (ws.map V.str) us
 | _,_,.nil=>.nil
 | _,_,.cons _ t h=>.cons ⟨t,rfl⟩ (wd h)
theorem ff:kP X (.builtin "isinstance") (λxs H Q=>∃x t c b,xs=[x,.ty c]∧lb X.K H x t∧PySem.W.kitOne X.K t (.type c)=some b∧Q (.bl b) H):=by intro pins s σ H xs us Q I r h;obtain⟨x,t,c,b,rfl,ty,e,q⟩:=h;obtain⟨u,w',rfl,ru,rw'⟩:=vz r;cases rw';exact yS I ru ty e λtk=>⟨.bl b,H,I.tok tk,rfl,q⟩
end
end L2
namespace SW
open PySem PySem.Spec PyProof.Rows
inductive T where
 | num(n:Int)|name(w:Str)
 | sum(a b:T)|less(a b:T)|cho(a b c:T)|lt(w:Str)(a b:T)
 | st0(w:Str)|st1(w:Str)(a:T)|st2(w:Str)(a b:T)
def T.size:T→Nat
 | .num _=>1
 | .name _=>1
 | .sum a b=>a.size+b.size+1
 | .less a b=>a.size+b.size+1
 | .cho a b c=>a.size+b.size+c.size+1
 | .lt _ a b=>a.size+b.size+1
 | .st0 _=>1
 | .st1 _ a=>a.size+1
 | .st2 _ a b=>a.size+b.size+1
theorem T.size_pos(t:T):0<t.size:=by cases t<;>simp[T.size]
def T.kids:T→List T
 | .num _=>[]
 | .name _=>[]
 | .sum a b=>[a,b]
 | .less a b=>[a,b]
 | .cho a b c=>[a,b,c]
 | .lt _ a b=>[a,b]
 | .st0 _=>[]
 | .st1 _ a=>[a]
 | .st2 _ a b=>[a,b]
def fB(ts:List T):Nat:=(ts.map T.size).sum
theorem jA:fB []=0:=rfl
theorem gM(t:T)(ts:List T):fB (t::ts)=t.size+fB ts:=by simp[fB]
theorem fV(a b:List T):fB (a++b)=fB a+fB b:=by simp[fB]
theorem jB(t:T):fB t.kids+1=t.size:=by cases t<;>simp[T.kids,T.size,fB]<;>lia
theorem et:∀ts:List T,ts.length≤fB ts
 | []=>aC _
 | t::ts=>by have h:=et ts;have h2:=t.size_pos;rw[gM,aE];lia
def T.occ(w:Str):T→Prop
 | .num _=>False
 | .name v=>v=w
 | .sum a b=>a.occ w∨b.occ w
 | .less a b=>a.occ w∨b.occ w
 | .cho a b c=>a.occ w∨b.occ w∨c.occ w
 | .lt _ a b=>a.occ w∨b.occ w
 | .st0 _=>False
 | .st1 _ a=>a.occ w
 | .st2 _ a b=>a.occ w∨b.occ w
def T.out(w:Str):T→Prop
 | .num _=>False
 | .name v=>v=w
 | .sum a b=>a.out w∨b.out w
 | .less a b=>a.out w∨b.out w
 | .cho a b c=>a.out w∨b.out w∨c.out w
 | .lt v a b=>a.out w∨(v≠w∧b.out w)
 | .st0 _=>False
 | .st1 _ a=>a.out w
 | .st2 _ a b=>a.out w∨b.out w
theorem T.out_occ:∀{t:T},t.out w→t.occ w
 | .num _,h=>h
 | .name _,h=>h
 | .sum _ _,h=>h.elim (λx=>.inl (out_occ x)) λx=>.inr (out_occ x)
 | .less _ _,h=>h.elim (λx=>.inl (out_occ x)) λx=>.inr (out_occ x)
 | .cho _ _ _,h=>h.elim (λx=>.inl (out_occ x)) λx=>.inr (x.elim (λx=>.inl (out_occ x)) λx=>.inr (out_occ x))
 | .lt _ _ _,h=>h.elim (λx=>.inl (out_occ x)) λx=>.inr (out_occ x.2)
 | .st0 _,h=>h
 | .st1 _ a,h=>out_occ (t:=a) h
 | .st2 _ _ _,h=>h.elim (λx=>.inl (out_occ x)) λx=>.inr (out_occ x)
def T.names:T→List Str
 | .num _=>[]
 | .name v=>[v]
 | .sum a b=>a.names++b.names
 | .less a b=>a.names++b.names
 | .cho a b c=>a.names++b.names++c.names
 | .lt _ a b=>a.names++b.names
 | .st0 _=>[]
 | .st1 _ a=>a.names
 | .st2 _ a b=>a.names++b.names
theorem T.names_occ:∀{t:T},w∈t.names↔t.occ w
 | .num _=>by simp[names,occ]
 | .name _=>by simp[names,occ,eq_comm]
 | .sum a b=>by simp[names,occ,names_occ (t:=a),names_occ (t:=b)]
 | .less a b=>by simp[names,occ,names_occ (t:=a),names_occ (t:=b)]
 | .cho a b c=>by simp[names,occ,names_occ (t:=a),names_occ (t:=b),names_occ (t:=c)]
 | .lt _ a b=>by simp[names,occ,names_occ (t:=a),names_occ (t:=b)]
 | .st0 _=>by simp[names,occ]
 | .st1 _ a=>by simp[names,occ,names_occ (t:=a)]
 | .st2 _ a b=>by simp[names,occ,names_occ (t:=a),names_occ (t:=b)]
theorem T.names_len:∀t:T,t.names.length≤t.size
 | .num _=>by simp[names]
 | .name _=>by simp[names,size]
 | .sum a b=>by have:=names_len a;have:=names_len b;simp[names,size];lia
 | .less a b=>by have:=names_len a;have:=names_len b;simp[names,size];lia
 | .cho a b c=>by have:=names_len a;have:=names_len b;have:=names_len c;simp[names,size];lia
 | .lt _ a b=>by have:=names_len a;have:=names_len b;simp[names,size];lia
 | .st0 _=>by simp[names]
 | .st1 _ a=>by have:=names_len a;simp[names,size];lia
 | .st2 _ a b=>by have:=names_len a;have:=names_len b;simp[names,size];lia
def fc(ts:List T):Nat:=(ts.map λt=>t.names.length).sum
def qU(a b:Str):Prop:=a.cps.toList<b.cps.toList
theorem qU.irrefl(a:Str):¬qU a a:=List.lt_irrefl _
theorem qU.trans(h:qU a b)(k:qU b c):qU a c:=List.lt_trans h k
theorem qU.total(h:¬qU a b)(k:¬qU b a):a=b:=by have e:a.cps.toList=b.cps.toList:=List.le_antisymm (List.not_lt.mp k) (List.not_lt.mp h);cases a;cases b;congr;exact Array.toList_inj.mp e
theorem qj:∀(l:List Str)(p:Str),risingS p l=true→(∀x∈l,¬qU x p)∧l.Pairwise (λa b=>¬qU b a)
 | [],_,_=>⟨λ_ h=>(nomatch h),List.Pairwise.nil⟩
 | x::r,p,h=>by
  have h:(!ltCps x.cps.toList p.cps.toList&&risingS x r)=true:=h;rw[bf,ltCps_eq]at h;obtain⟨i1,i2⟩:=qj r x h.2;have h1:¬qU x p:=by simpa[qU]using h.1
  refine⟨λy hy=>?_,cC.mpr ⟨λy hy=>i1 y hy,i2⟩⟩;rcases aB.mp hy with rfl|hy
  ·exact h1
  ·intro z;have h3:=i1 y hy;by_cases q:qU x y
   ·exact h1 (q.trans z)
   ·exact h1 (qU.total q h3▸z)
theorem xu(h:sortedS l=true):l.Pairwise (λa b=>¬qU b a):=by
 cases l with
 | nil=>exact .nil
 | cons x r=>obtain⟨i1,i2⟩:=qj r x h;exact cC.mpr ⟨i1,i2⟩
abbrev Up(l:List Str):Prop:=l.Pairwise qU
theorem EE:∀{l:List Str},l.Pairwise (λa b=>¬qU b a)→l.Nodup→Up l
 | [],_,_=>.nil
 | x::r,h,n=>by
  obtain⟨h1,h2⟩:=cC.mp h;obtain⟨n1,n2⟩:=bR.mp n;refine cC.mpr ⟨λy hy=>?_,EE h2 n2⟩;by_cases q:qU x y
  ·exact q
  ·exact absurd (qU.total q (h1 y hy)) (λe=>n1 (e▸hy))
end SW
namespace SW
open PySem L2
def fH(H H':Hp):Prop:=∀b xs,H b=some (.tup xs)→H' b=some (.tup xs)
theorem fH.refl:fH H H:=λ_ _ h=>h
theorem fH.trans(a:fH H H1)(b:fH H1 H2):fH H H2:=λc xs h=>b c xs (a c xs h)
theorem dY(s:dq H H'):fH H H':=λb _ h=>s b _ h
theorem iI(h:H p=none):fH H (upd H p o):=λb xs e=>by rw[db (dZ e h)];exact e
theorem fL(h:H l=some (.lst ys)):fH H (upd H l o):=λb xs e=>by rw[db (fY e h (by intro z;cases z))];exact e
theorem y8(h:H l=some (.dK ys)):fH H (upd H l o):=λb xs e=>by rw[db (fY e h (by intro z;cases z))];exact e
theorem dR(h:H p=none):dq H (upd H p o):=λb u e=>by rw[db (dZ e h)];exact e
theorem eu{H:Hp}{o:HO}{Q:VK}(k:∀(p:Addr)(H1:Hp),H p=none→dq H H1→H1 p=some o→Q (.ref p) H1):ku H o Q:=λp hp=>k p _ hp (dR hp) dO
theorem eD(s:dq H₀ H)(h:H₀ l=none):dq H₀ (upd H l o):=λb u e=>by rw[db (dZ e h)];exact s b u e
def kind:T→Str
 | .num _=>"number"
 | .name _=>"name"
 | .sum _ _=>"sum"
 | .less _ _=>"less"
 | .cho _ _ _=>"choose"
 | .lt _ _ _=>"let"
 | .st0 _=>"stamp"
 | .st1 _ _=>"stamp"
 | .st2 _ _ _=>"stamp"
def gG(H:Hp):T→V→Prop
 | .num n,v=>∃p,v=.ref p∧H p=some (.tup [.str "number",.int n])
 | .name w,v=>∃p,v=.ref p∧H p=some (.tup [.str "name",.str w])
 | .sum a b,v=>∃p x y,v=.ref p∧H p=some (.tup [.str "sum",x,y])∧gG H a x∧gG H b y
 | .less a b,v=>∃p x y,v=.ref p∧H p=some (.tup [.str "less",x,y])∧gG H a x∧gG H b y
 | .cho a b c,v=>∃p x y z,v=.ref p∧H p=some (.tup [.str "choose",x,y,z])∧gG H a x∧gG H b y∧gG H c z
 | .lt w a b,v=>∃p x y,v=.ref p∧H p=some (.tup [.str "let",.str w,x,y])∧gG H a x∧gG H b y
 | .st0 w,v=>∃p,v=.ref p∧H p=some (.tup [.str "stamp",.str w])
 | .st1 w a,v=>∃p x,v=.ref p∧H p=some (.tup [.str "stamp",.str w,x])∧gG H a x
 | .st2 w a b,v=>∃p x y,v=.ref p∧H p=some (.tup [.str "stamp",.str w,x,y])∧gG H a x∧gG H b y
theorem gG.mono(k:fH H H'):∀{t:T}{v:V},gG H t v→gG H' t v
 | .num _,_,⟨p,e,h⟩=>⟨p,e,k _ _ h⟩
 | .name _,_,⟨p,e,h⟩=>⟨p,e,k _ _ h⟩
 | .sum _ _,_,⟨p,x,y,e,h,a,b⟩=>⟨p,x,y,e,k _ _ h,gG.mono k a,gG.mono k b⟩
 | .less _ _,_,⟨p,x,y,e,h,a,b⟩=>⟨p,x,y,e,k _ _ h,gG.mono k a,gG.mono k b⟩
 | .cho _ _ _,_,⟨p,x,y,z,e,h,a,b,c⟩=>⟨p,x,y,z,e,k _ _ h,gG.mono k a,gG.mono k b,gG.mono k c⟩
 | .lt _ _ _,_,⟨p,x,y,e,h,a,b⟩=>⟨p,x,y,e,k _ _ h,gG.mono k a,gG.mono k b⟩
 | .st0 _,_,⟨p,e,h⟩=>⟨p,e,k _ _ h⟩
 | .st1 _ _,_,⟨p,x,e,h,a⟩=>⟨p,x,e,k _ _ h,gG.mono k a⟩
 | .st2 _ _ _,_,⟨p,x,y,e,h,a,b⟩=>⟨p,x,y,e,k _ _ h,gG.mono k a,gG.mono k b⟩
inductive gU(H:Hp):List T→List V→Prop where
 | nil:gU H [] []
 | cons{t:T}{v:V}{ts:List T}{vs:List V}:gG H t v→gU H ts vs→gU H (t::ts) (v::vs)
theorem gU.mono(k:fH H H'):∀{ts:List T}{vs:List V},gU H ts vs→gU H' ts vs
 | _,_,.nil=>.nil
 | _,_,.cons a r=>.cons (a.mono k) (gU.mono k r)
theorem gU.length:∀{ts:List T}{vs:List V},gU H ts vs→vs.length=ts.length
 | _,_,.nil=>rfl
 | _,_,.cons _ r=>by rw[aE,aE,gU.length r]
theorem gU.append:∀{ts us:List T}{vs ws:List V},gU H ts vs→gU H us ws→gU H (ts++us) (vs++ws)
 | _,_,_,_,.nil,q=>q
 | _,_,_,_,.cons a r,q=>.cons a (gU.append r q)
theorem gU.snoc:∀{ts:List T}{vs:List V}{v:V},gU H ts (vs++[v])→∃us t,ts=us++[t]∧gU H us vs∧gG H t v
 | _,[],v,.cons a .nil=>⟨[],_,rfl,.nil,a⟩
 | _,x::vs,v,.cons a r=>by obtain⟨us,t,rfl,h1,h2⟩:=gU.snoc (vs:=vs) r;exact⟨_::us,t,rfl,.cons a h1,h2⟩
def hd:T→List V
 | .num n=>[.str "number",.int n]
 | .name w=>[.str "name",.str w]
 | .sum _ _=>[.str "sum"]
 | .less _ _=>[.str "less"]
 | .cho _ _ _=>[.str "choose"]
 | .lt w _ _=>[.str "let",.str w]
 | .st0 w=>[.str "stamp",.str w]
 | .st1 w _=>[.str "stamp",.str w]
 | .st2 w _ _=>[.str "stamp",.str w]
theorem gG.open(h:gG H t v):∃p us,v=.ref p∧H p=some (.tup (hd t++us))∧gU H t.kids us:=by
 cases t with
 | num n=>obtain⟨p,e,h⟩:=h;exact⟨p,[],e,h,.nil⟩
 | name n=>obtain⟨p,e,h⟩:=h;exact⟨p,[],e,h,.nil⟩
 | sum a b=>obtain⟨p,x,y,e,h,d1,d2⟩:=h;exact⟨p,[x,y],e,h,.cons d1 (.cons d2 .nil)⟩
 | less a b=>obtain⟨p,x,y,e,h,d1,d2⟩:=h;exact⟨p,[x,y],e,h,.cons d1 (.cons d2 .nil)⟩
 | cho a b c=>obtain⟨p,x,y,z,e,h,d1,d2,d3⟩:=h;exact⟨p,[x,y,z],e,h,.cons d1 (.cons d2 (.cons d3 .nil))⟩
 | lt w a b=>obtain⟨p,x,y,e,h,d1,d2⟩:=h;exact⟨p,[x,y],e,h,.cons d1 (.cons d2 .nil)⟩
 | st0 w=>obtain⟨p,e,h⟩:=h;exact⟨p,[],e,h,.nil⟩
 | st1 w a=>obtain⟨p,x,e,h,d1⟩:=h;exact⟨p,[x],e,h,.cons d1 .nil⟩
 | st2 w a b=>obtain⟨p,x,y,e,h,d1,d2⟩:=h;exact⟨p,[x,y],e,h,.cons d1 (.cons d2 .nil)⟩
theorem fT(h:Nat.ble n 1000=true:=by rfl):n≤sizeLine:=aW (bT h) (by decide)
theorem fi{c:Bool}{A B:Prop}(h:c=true)(k:A):if c=true then A else B:=by rw[if_pos h];exact k
theorem eM{c:Bool}{A B:Prop}(h:c=false)(k:B):if c=true then A else B:=by rw[h];exact fF k
end SW
namespace SW
open PySem L2
theorem mv(h0:0≤i)(h1:i<xs.length):∃v,v∈xs∧qR xs i=some v:=by
 obtain⟨n,rfl⟩:=dB h0;have hn:n<xs.length:=by lia
 exact⟨xs[n],List.getElem_mem hn,dU (by simp[hn])⟩
def tu:Sp:=λvs H Q _=>∃c:Int,vs=[.int c]∧∀(n:Int)(H':Hp),-(10^59)<n∧n<10^59→dq H H'→Q (.int n) H'
structure Wd(x:Str):Prop where
 one:1≤x.length
 few:x.length≤200
 abc:∀c∈x.cps.toList,97≤c∧c≤122
def pK:Sp:=λvs H Q _=>∃c:Int,vs=[.int c]∧∀x:Str,Wd x∧x.length≤132→Q (.str x) H
structure mL(l:Int)(x:Str):Prop where
 one:l<0→1≤x.length
 few:x.length≤132
 sm:0≤l→∃m:Nat,l<2^m∧x.length+m≤131
 abc:∀c∈x.cps.toList,97≤c∧c≤122
theorem qp:(("":Str)).length=0:=by decide+kernel
theorem rL(c:Int):mL (c%10^(39:Int).toNat) "":=by
 have e:(10:Int)^(39:Int).toNat=1000000000000000000000000000000000000000:=by decide
 rw[e];refine⟨λh=>?_,by rw[qp];lia,λ_=>⟨130,?_,by rw[qp];lia⟩,?_⟩
 ·lia
 ·have e2:(2:Int)^130=1361129467683753853853498429727072845824:=by decide
  rw[e2];lia
 ·have e3:(("":Str)).cps.toList=[]:=by decide+kernel
  rw[e3];intro c hc;cases hc
theorem rM(h:mL l x):(⟨#[c]⟩:Str).length+x.length≤sizeLine:=by have e:(⟨#[c]⟩:Str).length=1:=rfl;have:=h.few;rw[e,sizeLine_eq];lia
theorem tK(h:mL l x)(hl:0≤l)(hc:97≤c∧c≤122):mL (l / 26-1) (⟨#[c]⟩++x):=by
 have el:((⟨#[c]⟩:Str)++x).length=x.length+1:=by show(#[c]++x.cps).size=x.cps.size+1;simp[cY]
 obtain⟨m,h1,h2⟩:=h.sm hl;refine⟨λ_=>by rw[el];lia,by rw[el];lia,λh0=>?_,?_⟩
 ·cases m with
  | zero=>simp at h1;lia
  | succ m=>refine⟨m,?_,by rw[el];lia⟩;have e:(2:Int)^(m+1)=2^m*2:=Int.pow_succ ..;rw[e]at h1;generalize (2:Int)^m=z at *;lia
 ·intro d hd;have hd:d∈(#[c]++x.cps).toList:=hd;rw[cZ]at hd;rcases aV.mp hd with q|q
  ·have:d=c:=by simpa using q
   rw[this];exact hc
  ·exact h.abc d q
theorem uo(h:mL l x)(hl:¬0≤l):Wd x∧x.length≤132:=⟨⟨h.one (by lia),by have:=h.few;lia,h.abc⟩,h.few⟩
theorem wo:(("abcdefghijklmnopqrstuvwxyz":Str)).cps.toList=(List.range 26).map (·+97):=by decide+kernel
theorem yN(l:Int):∃c:Nat,(97≤c∧c≤122)∧qR (("abcdefghijklmnopqrstuvwxyz":Str)).cps.toList (l%26)=some c:=by
 have h:0≤l%26∧l%26<26:=by lia
 obtain⟨n,e⟩:=dB h.1;rw[e]at h⊢;have hn:n<26:=by lia
 refine⟨n+97,by lia,dU ?_⟩;rw[wo,ae,dC hn];rfl
end SW
namespace SW
open PySem L2
theorem jH(k:Nat)(h:0<k)(h2:k≤n):¬(HT.kH n 0 (some (k:Int))=0∧HT.kH n n none=n):=by rintro⟨z,_⟩;rw[HT.KL,bq h2]at z;lia
def iZ:Sp:=λvs H Q _=>∃d x v kvs,vs=[.ref d,.str x,v]∧H d=some (.dK kvs)∧kvs.length≤1000∧∀p H',H p=none→dq H H'→H' p=some (.dK (gA kvs (.inr x) v))→Q (.ref p) H'
def rT:Sp:=λvs H Q _=>∃t v,vs=[v]∧gG H t v∧∀p us H',dq H H'→H' p=some (.tup us)→gU H' t.kids us→Q (.ref p) H'
def gt:Sp:=λvs H Q _=>∃t v,vs=[v]∧gG H t v∧∀l us H',dq H H'→H l=none→H' l=some (.lst us)→gU H' t.kids us→Q (.ref l) H'
end SW
namespace SW
open PySem L2
def WT(S:Str→Nat→Prop):T→Prop
 | .num n=>-(10^60)<n∧n<10^60
 | .name w=>Wd w
 | .sum a b=>WT S a∧WT S b
 | .less a b=>WT S a∧WT S b
 | .cho a b c=>WT S a∧WT S b∧WT S c
 | .lt w a b=>Wd w∧WT S a∧WT S b
 | .st0 w=>S w 0
 | .st1 w a=>S w 1∧WT S a
 | .st2 w a b=>S w 2∧WT S a∧WT S b
structure ki(S:Str→Nat→Prop)(H₀ H:Hp)(n:Nat)(l:Addr)(vs:List V)(ts:List T):Prop where
 same:dq H₀ H
 new:H₀ l=none
 at_:H l=some (.lst vs)
 den:gU H ts vs
 sz:fB ts≤n
 one:ts≠[]
 wt:∀t∈ts,WT S t
theorem yu:Wd "sab":=⟨by decide+kernel,by decide+kernel,by decide+kernel⟩
theorem Et:Wd "tab":=⟨by decide+kernel,by decide+kernel,by decide+kernel⟩
theorem Eu:Wd "sob":=⟨by decide+kernel,by decide+kernel,by decide+kernel⟩
theorem Ew:Wd "sat":=⟨by decide+kernel,by decide+kernel,by decide+kernel⟩
theorem B9(h:v∈[V.str "sab",V.str "tab",V.str "sob",V.str "sat"]):∃x,v=.str x∧Wd x:=by
 rcases aB.mp h with rfl|h
 ·exact⟨_,rfl,yu⟩
 rcases aB.mp h with rfl|h
 ·exact⟨_,rfl,Et⟩
 rcases aB.mp h with rfl|h
 ·exact⟨_,rfl,Eu⟩
 rcases aB.mp h with rfl|h
 ·exact⟨_,rfl,Ew⟩
 ·cases h
theorem Kc(h:Wd x)(hl:x.length≤132):Wd (x++("k":Str)):=by
 have e:(("k":Str)).cps = #[107]:=by decide+kernel
 have el:(x++("k":Str)).length=x.length+1:=by show(x.cps++(("k":Str)).cps).size=_;rw[e];simp[Str.length]
 refine⟨by rw[el];lia,by rw[el];lia,λc hc=>?_⟩;have hc:c∈(x.cps++(("k":Str)).cps).toList:=hc;rw[e,cZ]at hc;rcases aV.mp hc with q|q
 ·exact h.abc c q
 ·have:c=107:=by simpa using q
  lia
def jM(S:Str→Nat→Prop)(H:Hp)(xs:List V):Prop:=∀x∈xs,∃(q:Addr)(nm:Str)(m:Nat),x=.ref q∧H q=some (.tup [.str nm,.int m])∧m≤2∧S nm m
def oZ(K:aA)(S:Str→Nat→Prop):Sp:=λvs H Q _=>∃(c st:Addr)(ns:List Int)(xs:List V),vs=[.ref c,.ref st]∧eK K H c (ns.map V.int)∧ns.length≤100∧H st=some (.lst xs)∧xs.length≤1000∧jM S H xs∧
 ∀(t:T)(v:V)(H':Hp),dq H H'→gG H' t v→WT S t→t.size≤2*ns.length+2→t.names.length≤ns.length+1→Q v H'
def pP(K:aA)(S S':Str→Nat→Prop):Sp:=λvs H Q _=>∃(c st:Addr)(ns:List Int)(xs:List V),vs=[.ref c,.ref st]∧eK K H c (ns.map V.int)∧ns.length≤100∧H st=some (.lst xs)∧xs.length≤1000∧jM S H xs∧(∀t:T,t.size≤ns.length+1→WT S t→WT S' t)∧
 ∀(t:T)(v:V)(H':Hp),dq H H'→gG H' t v→WT S' t→t.size≤2*ns.length+2→t.names.length≤ns.length+1→Q v H'
theorem oZ.two(h:oZ K S vs H Q E):pP K S S vs H Q E:=by obtain⟨c,st,ns,xs,h1,h2,h3,h4,h5,h6,k⟩:=h;exact⟨c,st,ns,xs,h1,h2,h3,h4,h5,h6,λ_ _ z=>z,k⟩
theorem qo:∀{ts:List T},t∈ts→t.size≤fB ts
 | x::ts,h=>by
  rw[gM];rcases aB.mp h with rfl|h
  ·lia
  ·have:=qo h;lia
end SW
namespace L2
open PySem PySem.Spec PyProof.Rows
def gX(X:Cx)(scope:Scope)(cl:List (Str×Addr))(N:List Str)(fp:List Addr)(s:Shared)(H:Hp)(C:Addr):Cx where
 prog:=X.prog
 w:=X.w
 K:=X.K
 mg:=X.mg
 base:=X.base
 A:=X.A
 N:=N
 s₀:=s
 H₀:=H
 env:=compEnvC scope cl C X.env
 outer:=X.stack
 stack:=X.stack
 ex:=fp
 fn:=λ_=>false
 calm:=X.calm
 pn:=[]
 xe:=λ_ _=>False
def BM(σ:St)(js:List Nat):St:=js.map λj=>σ.getD j none
def me(its:List Value)(n:Nat):Obj:={cls:=.type "list",data:=.seq its.toArray n}
section
variable {X:Cx}{pins:List (Addr×Obj)}{σ:St}{H:Hp}{s:Shared}{scope:Scope}{cl:List (Str×Addr)}{x:Str}{ys:List Str}{js:List Nat}{fp:List Addr}{C D:Addr}{h':Heap}
theorem eU.nostk(I:eU X pins σ H s)(h1:b≠X.env.locals)(h2:b∉X.fs):b∉yW X.stack:=λz=>by
 rcases aB.mp (I.stkSub b z)with e|e
 ·exact h1 e
 ·exact h2 e
theorem eU.compOut(I:eU X pins σ H s)(hf:∀b∈fp,oX X pins H b)(hC:s.heap.objs.size≤C)(hD:s.heap.objs.size≤D)(hDC:D≠C)
  (I':eU (gX X scope cl (x::ys) fp s H C) P σ' H' s') (hp:(D,me its n)∈P) (r:fG vs its) (hz:vs.length≤sizeLine) (hs:Heap.SameBut C s'.heap h'):eU X pins σ (upd H' D (.lst vs)) {s' with heap:=h'}:=by
 obtain⟨pe,pn,_,_,_⟩:=I'.pin (D,me its n) (aQ _ hp);have u:Un (yW X.stack) fp H H' s.heap s'.heap:=I'.base;have hCn:H' C=none:=I'.free;have lt:∀b o,s.heap.get? b=some o→b≠C∧b≠D:=λb o e=>⟨aL (aX (Heap.lt_size e) hC),aL (aX (Heap.lt_size e) hD)⟩;have nD:∀b o,H' b=some o→b≠D:=λb o e=>dZ e pn;refine I.call' (ch:=fp) (s':={s' with heap:=h'}) I'.os ⟨λb o q nn hb hx=>?_,λb o q nn hb hx=>?_,λb o q nn hx=>?_,λb o q hx=>?_,λb xs q=>?_,λb o xs q=>?_,λb ps q=>?_⟩ ?_ I'.bare λb hb=>?_
 ·exact(hs.2 b (lt b o q).1).trans (u.keep b o q nn hb hx)
 ·obtain⟨sl,e⟩:=u.slot b o q nn hb hx;exact⟨sl,(hs.2 b (lt b o q).1).trans e⟩
 ·rw[db (lt b o q).2];exact u.free b o q nn hx
 ·obtain⟨o',e⟩:=u.there b o q hx;exact⟨o',(hs.2 b (lt b o q).1).trans e⟩
 ·have e:=u.tups b xs q;rw[db (nD _ _ e)];exact e
 ·have e:=u.frzs b o xs q;rw[db (nD _ _ e)];exact e
 ·obtain⟨more,e⟩:=u.tbls b ps q;exact⟨more,by rw[db (nD _ _ e)];exact e⟩
 ·intro b ob e;by_cases hb:b=D
  ·subst hb;rw[dO]at e;cases e;exact⟨hz,its,n,r,(hs.2 b hDC).trans pe⟩
  ·rw[db hb]at e;refine(I'.hok b ob e).stay (λc v hc q=>(hs.2 c ?_).trans q) (λc q=>by rw[db (nD _ _ q)];exact q) λc xs q=>by rw[db (nD _ _ q)];exact q
   rcases hc with rfl|hc
   ·exact dZ e hCn
   ·exact dZ hc hCn
 ·obtain⟨_,h1,_,h3,h4,h5⟩:=hf b hb;exact⟨h3,h1,h4,h5⟩
end
def Ig(wi:TI)(te:TE)(js:List Nat):TE:=λσ H Q=>wi σ H λJ H1=>∃W:Nat→Nat→List V→Hp→Prop,(∃m,W 0 m [] H1)∧∀i m vs H,W i m vs H→
 (J.stop i H∧vs.length≤sizeLine∧ku H (.lst vs) Q)∨
 (J.go i H∧∀x H',J.yld i H x H'→te (some x::BM σ js) H' λy H''=>vs.length<sizeLine∧∃m',m'<m∧W (i+1) m' (vs++[y]) H'')
end L2
namespace SW
open PySem L2
abbrev oI:R2:=wY λi j=>.int (i+j)
abbrev jR:R2:=wY λi j=>.int (i-j)
abbrev Io:R2:=rI EB λi j=>.int (i*j)
abbrev ql:R2:=rI IC λi j=>.int (i / j)
abbrev jb:R2:=rI (λ_ j=>0<j) λi j=>.int (i%j)
abbrev ET:R2:=rI KG λi j=>.int (i^j.toNat)
abbrev gu:V→Hp→VK→Prop:=rU λi=>.int (-i)
abbrev yD:R2:=wY λi j=>.bl (decide (i<j))
abbrev DN:R2:=wY λi j=>.bl (decide (i≤j))
abbrev oQ:R2:=wY λi j=>.bl (decide (j<i))
abbrev LT:R2:=wY λi j=>.bl (decide (j≤i))
abbrev AY:R2:=λx y H Q=>∃i j,x=.str i∧y=.str j∧i.length+j.length≤sizeLine∧Q (.str (i++j)) H
abbrev LS:R2:=λx y H Q=>y=.non∧Q (.bl (decide (x=.non))) H
abbrev AW:R2:=λx y H Q=>y=.non∧Q (.bl (!decide (x=.non))) H
abbrev gh(K:aA):List V→Hp→VK→Prop:=λxs H Q=>∃p ys,xs=[.ref p]∧(eK K H p ys∨eC K H p ys)∧Q (.int ys.length) H
abbrev xI:List V→Hp→VK→Prop:=λxs H Q=>∃z,xs=[.str z]∧z.length≤sizeLine∧Q (.int z.length) H
abbrev Jz:List V→Hp→VK→Prop:=λxs H Q=>(∃i,xs=[.int i]∧Q (.int i) H)∨∃k,xs=[.bl k]∧Q (.int (if k then 1 else 0)) H
abbrev Lv:List V→Hp→VK→Prop:=λxs H Q=>∃i,xs=[.int i]∧Q (.int (if i<0 then -i else i)) H
abbrev Lu:List V→Hp→VK→Prop:=λxs H Q=>∃i j,xs=[.int i,.int j]∧Q (.int (if j<i then j else i)) H
abbrev sg(K:aA):List V→Hp→VK→Prop:=λxs H Q=>∃p ys,xs=[.ref p]∧(eK K H p ys∨eC K H p ys)∧ku H (.lst ys) Q
abbrev uY(K:aA):List V→Hp→VK→Prop:=λxs H Q=>∃p ys,xs=[.ref p]∧((eK K H p ys∧ku H (.tup ys) Q)∨(eC K H p ys∧Q (.ref p) H))
abbrev sh:List V→Hp→VK→Prop:=λxs H Q=>∃a kvs,xs=[.ref a]∧Rd H a (.dK kvs)∧ku H (.dK kvs) Q
abbrev BZ:List V→Hp→VK→Prop:=λxs H Q=>∃a kvs ws,xs=[.ref a]∧Rd H a (.dK kvs)∧lh kvs=ws.map V.str∧ws.length<64∧∀p ws',H p=none→ws'.Perm ws→PyProof.Rows.sortedS ws'=true→Q (.ref p) (upd H p (.lst (ws'.map V.str)))
abbrev j0(K:aA):List V→Hp→VK→Prop:=λxs H Q=>∃x t c b,xs=[x,.ty c]∧lb K H x t∧PySem.W.kitOne K t (.type c)=some b∧Q (.bl b) H
end SW
namespace SW
open PySem L2
def ug:Str→Nat→Prop:=λx n=>(x="st"∧n=2)∨(x="sta"∧n=1)∨(x="star"∧n=0)
def nC(K:aA):Sp:=λvs H Q _=>∃(c:Addr)(ns:List Int),vs=[.ref c]∧eK K H c (ns.map V.int)∧ns.length≤100∧
 ∀(t:T)(v:V)(H':Hp),dq H H'→gG H' t v→WT ug t→t.size≤2*ns.length+2→t.names.length≤ns.length+1→Q v H'
def nB(K:aA):Sp:=λvs H Q _=>∃(s:Addr)(xs:List V)(m b:Int),vs=[.ref s,.int m,.int b]∧eK K H s xs∧xs.length≤63∧Q (.int m) H
def oG:Sp:=λvs H Q _=>∃(t:T)(v:V),vs=[v]∧gG H t v∧t.size≤900∧t.names.length<64∧
 ∀(l:Addr)(ws:List Str)(H':Hp),dq H H'→H l=none→H' l=some (.lst (ws.map V.str))→Up ws→(∀x,x∈ws↔t.out x)→Q (.ref l) H'
def qT(D:Addr→Prop)(H:Hp)(q:T×List (fE×V))(u:V):Prop:=∃p v d,u=.ref p∧H p=some (.tup [v,.ref d])∧gG H q.1 v∧H d=some (.dK q.2)∧D d
inductive hV(D:Addr→Prop)(H:Hp):List (T×List (fE×V))→List V→Prop where
 | nil:hV D H [] []
 | cons{q:T×List (fE×V)}{u:V}{qs:List (T×List (fE×V))}{us:List V}:qT D H q u→hV D H qs us→hV D H (q::qs) (u::us)
theorem qT.mono(k1:fH H H')(k2:∀d kvs,D d→H d=some (.dK kvs)→H' d=some (.dK kvs)∧D' d)(h:qT D H q u):qT D' H' q u:=by obtain⟨p,v,d,e,h1,h2,h3,h4⟩:=h;exact⟨p,v,d,e,k1 _ _ h1,h2.mono k1,(k2 _ _ h4 h3).1,(k2 _ _ h4 h3).2⟩
theorem hV.mono(k1:fH H H')(k2:∀d kvs,D d→H d=some (.dK kvs)→H' d=some (.dK kvs)∧D' d):∀{qs:List (T×List (fE×V))}{us:List V},hV D H qs us→hV D' H' qs us
 | _,_,.nil=>.nil
 | _,_,.cons a r=>.cons (a.mono k1 k2) (hV.mono k1 k2 r)
theorem hV.append:∀{qs rs:List (T×List (fE×V))}{us ws:List V},hV D H qs us→hV D H rs ws→hV D H (qs++rs) (us++ws)
 | _,_,_,_,.nil,q=>q
 | _,_,_,_,.cons a r,q=>.cons a (hV.append r q)
theorem hV.snoc:∀{qs:List (T×List (fE×V))}{us:List V}{u:V},hV D H qs (us++[u])→∃rs q,qs=rs++[q]∧hV D H rs us∧qT D H q u
 | _,[],_,.cons a .nil=>⟨[],_,rfl,.nil,a⟩
 | _,_::us,_,.cons a r=>by obtain⟨rs,q,rfl,h1,h2⟩:=hV.snoc (us:=us) r;exact⟨_::rs,q,rfl,.cons a h1,h2⟩
theorem hV.length:∀{qs:List (T×List (fE×V))}{us:List V},hV D H qs us→us.length=qs.length
 | _,_,.nil=>rfl
 | _,_,.cons _ r=>by rw[aE,aE,hV.length r]
def jN(t:T)(kvs:List (fE×V)):List (T×List (fE×V)):=match t with
 | .lt x a b=>[(b,gA kvs (.inr x) (.bl true)),(a,kvs)]
 | t=>t.kids.map λk=>(k,kvs)
def qg:Sp:=λvs H Q _=>∃(t:T)(v:V)(d:Addr)(kvs:List (fE×V)),vs=[v,.ref d]∧gG H t v∧H d=some (.dK kvs)∧kvs.length≤1000∧
 ∀(l:Addr)(us:List V)(H':Hp),dq H H'→H l=none→H' l=some (.lst us)→hV (λe=>e=d∨H e=none) H' (jN t kvs) us→Q (.ref l) H'
end SW
namespace SW
open PySem L2
def Ic(K:aA):TS:=(de (eG (eA jb (eA ql (dN 0) (tC (.int 2))) (eA ET (tC (.int 10)) (tC (.int 59)))) (dX 1)) (fI (eA Io (dN 1) (eA (gP K) (fX (dM (tC (.int 1)) (dM (m8 gu (tC (.int 1))) dW))) (eA jb (dN 0) (tC (.int 2)))))))
def GY(K:aA):TS:=(de (eG (eA AY (eA AX (tC (.str "abcdefghijklmnopqrstuvwxyz")) (eA jb (dN 1) (tC (.int 26)))) (dN 2)) (dX 2)) (eG (eA jR (eA ql (dN 1) (tC (.int 26))) (tC (.int 1))) (dX 1)))
def LA(K:aA):TS:=(de (eG (eA jb (gm Lv (dM (dN 0) dW)) (eA ET (tC (.int 10)) (tC (.int 39)))) (dX 1)) (de (eG (tC (.str "")) (dX 2)) (de (hX (eI (eA LT (dN 1) (tC (.int 0)))) (GY K)) (fI (dN 2)))))
def zT(K:aA):TS:=(fI (dN 2))
def zS(K:aA):TS:=(fW (eI (eA oQ (gm (gh K) (dM (dN 0) dW)) (tC (.int 63)))) (zT K) fN)
def FK(K:aA):TS:=(de (zS K) (fI (dN 1)))
def Ke(K:aA):TS:=(de (eG (gm sh (dM (dN 0) dW)) (dX 3)) (de (lB (dN 3) (dN 1) (dN 2)) (fI (dN 3))))
def xf(K:aA):TS:=(fI (fP dW))
def xc(K:aA):TS:=(fW (tG (eI (eA kX (dN 1) (tC (.str "number")))) (eI (eA kX (dN 1) (tC (.str "name"))))) (xf K) fN)
def xZ(K:aA):TS:=(fI (nA (AV K) (dN 0) (gH (tC (.int 2))) gI))
def xY(K:aA):TS:=(fW (tG (eI (eA kX (dN 1) (tC (.str "let")))) (eI (eA kX (dN 1) (tC (.str "stamp"))))) (xZ K) fN)
def CP(K:aA):TS:=(de (eG (eA (eE K) (dN 0) (tC (.int 0))) (dX 1)) (de (xc K) (de (xY K) (fI (nA (AV K) (dN 0) (gH (tC (.int 1))) gI)))))
def Cd(K:aA):TS:=(fI (fX dW))
def Cc(K:aA):TS:=(fW (eI (eA (IF K false) (eA (eE K) (dN 0) (tC (.int 0))) (fX (dM (tC (.str "number")) (dM (tC (.str "name")) dW))))) (Cd K) fN)
def IW(K:aA):TS:=(de (Cc K) (fI (gm (sg K) (dM (nA (AV K) (dN 0) (gH (eA oI (tC (.int 1)) (gm Jz (dM (eA (IF K false) (eA (eE K) (dN 0) (tC (.int 0))) (fX (dM (tC (.str "let")) (dM (tC (.str "stamp")) dW)))) dW)))) gI) dW))))
def CO(K:aA):TS:=(fI (fX (dM (fP (dM (eA (eE K) (dN 0) (tC (.int 3))) (dM (eV iZ [] E0 (dM (dN 1) (dM (eA (eE K) (dN 0) (tC (.int 1))) (dM (tC (.bl true)) dW)))) dW))) (dM (fP (dM (eA (eE K) (dN 0) (tC (.int 2))) (dM (dN 1) dW))) dW))))
def CM(K:aA):TS:=(fW (eI (eA kX (eA (eE K) (dN 0) (tC (.int 0))) (tC (.str "let")))) (CO K) fN)
def IT(K:aA):TS:=(de (CM K) (fI (Ig (HX K (eV rT [] E0 (dM (dN 0) dW))) (fP (dM (dN 0) (dM (dN 1) dW))) [1])))
def CT(K:aA):TS:=(lB (dN 1) (eA (eE K) (dN 4) (tC (.int 1))) (tC (.bl true)))
def CS(K:aA):TS:=(fW (kq (eI (eA kX (eA (eE K) (dN 4) (tC (.int 0))) (tC (.str "name")))) (tB (oY (eA (eE K) (dN 4) (tC (.int 1))) (dN 5)))) (CT K) fN)
def CQ(K:aA):TS:=(de (eG (lz K "list" mF (dN 2)) (dX 3)) (de (eG (eA (eE K) (dN 3) (tC (.int 0))) (dX 4)) (de (eG (eA (eE K) (dN 3) (tC (.int 1))) (dX 5)) (de (CS K) (fQ (kB K "list" mW (dN 2) (dM (eV qg [] E0 (dM (dN 4) (dM (dN 5) dW))) dW)))))))
def IU(K:aA):TS:=(de (eG io (dX 1)) (de (eG (fX (dM (fP (dM (dN 0) (dM io dW))) dW)) (dX 2)) (de (hX (eI (eA oQ (gm (gh K) (dM (dN 2) dW)) (tC (.int 0)))) (CQ K)) (fI (gm BZ (dM (dN 1) dW))))))
def GK(K:aA):TS:=(eG (eA AY (eV pK [] E0 (dM (eA ql (dN 4) (tC (.int 29))) dW)) (tC (.str "k"))) (dX 6))
def GJ(K:aA):TS:=(fW (eI (eA kX (eA jb (dN 4) (tC (.int 29))) (tC (.int 7)))) (GK K) fN)
def zn(K:aA):TS:=(fQ (kB K "list" eh (dN 2) (dM (fP (dM (tC (.str "number")) (dM (eA (gP K) (fX (dM (eA jR (eA jb (dN 4) (tC (.int 4))) (tC (.int 1))) (dM (eV tu [] E0 (dM (dN 4) dW)) dW))) (gm Jz (dM (eA kX (eA jb (dN 4) (tC (.int 5))) (tC (.int 3))) dW))) dW))) dW)))
def zm(K:aA):TS:=(fQ (kB K "list" eh (dN 2) (dM (fP (dM (tC (.str "name")) (dM (dN 6) dW))) dW)))
def zk(K:aA):TS:=(eG (eA mG (nA (ja K) (dN 2) gI (gH (m8 gu (tC (.int 3))))) (fX (dM (fP (dM (tC (.str "choose")) (dM (eA (gP K) (dN 7) (tC (.int 0))) (dM (eA (gP K) (dN 7) (tC (.int 1))) (dM (eA (gP K) (dN 7) (tC (.int 2))) dW))))) dW))) (dX 2))
def zj(K:aA):TS:=(eG (eA mG (nA (ja K) (dN 2) gI (gH (m8 gu (tC (.int 2))))) (fX (dM (fP (dM (eA (gP K) (fX (dM (tC (.str "sum")) (dM (tC (.str "less")) dW))) (eA jb (dN 5) (tC (.int 2)))) (dM (eA (gP K) (dN 7) (m8 gu (tC (.int 2)))) (dM (eA (gP K) (dN 7) (m8 gu (tC (.int 1)))) dW)))) dW))) (dX 2))
def GI(K:aA):TS:=(eG (eA (eE K) (dN 8) (tC (.int 2))) (dX 8))
def GH(K:aA):TS:=(fW (eI (eA (IF K false) (eA (eE K) (dN 8) (tC (.int 0))) (fX (dM (tC (.str "sum")) (dM (tC (.str "less")) dW))))) (GI K) fN)
def GG(K:aA):TS:=(eG (eA (eE K) (dN 8) (tC (.int 1))) (dX 6))
def wH(K:aA):TS:=(fW (kq (eI (eA kX (eA (eE K) (dN 8) (tC (.int 0))) (tC (.str "name")))) (eI (eA oQ (eA jb (dN 4) (tC (.int 3))) (tC (.int 0))))) (GG K) fN)
def wG(K:aA):TS:=(de (eG (eA (gP K) (dN 7) (m8 gu (tC (.int 1)))) (dX 8)) (de (GH K) (de (wH K) (eG (eA mG (nA (ja K) (dN 2) gI (gH (m8 gu (tC (.int 2))))) (fX (dM (fP (dM (tC (.str "let")) (dM (dN 6) (dM (eA (gP K) (dN 7) (m8 gu (tC (.int 2)))) (dM (eA (gP K) (dN 7) (m8 gu (tC (.int 1)))) dW))))) dW))) (dX 2)))))
def Cy(K:aA):TS:=(de (eG (gm (uY K) (dM (eA mG (fX (dM (tC (.str "stamp")) (dM (dN 9) dW))) (nA (ja K) (dN 2) (gH (eA jR (gm (gh K) (dM (dN 2) dW)) (dN 10))) gI)) dW)) (dX 11)) (eG (eA mG (nA (ja K) (dN 2) gI (gH (eA jR (gm (gh K) (dM (dN 2) dW)) (dN 10)))) (fX (dM (dN 11) dW))) (dX 2)))
def Cw(K:aA):TS:=(fW (eI (eA kX (dN 10) (eA (eE K) (eA (gP K) (dN 1) (eA jb (dN 4) (gm (gh K) (dM (dN 1) dW)))) (tC (.int 1))))) (Cy K) fN)
def wF(K:aA):TS:=(de (eG (eA (gP K) (dN 1) (eA jb (dN 4) (gm (gh K) (dM (dN 1) dW)))) (lY K 2 (gF (dX 9) (gF (dX 10) lZ)))) (de (eG (gm Lu (dM (dN 10) (dM (gm (gh K) (dM (dN 2) dW)) dW))) (dX 10)) (Cw K)))
def Cv(K:aA):TS:=(fW (eI (eA (kW K) (dN 1) (fX dW))) (wF K) fN)
def Cu(K:aA):TS:=(fW (eI (eA kX (dN 5) (tC (.int 6)))) (wG K) (Cv K))
def wD(K:aA):TS:=(fW (eI (eA yD (dN 5) (tC (.int 6)))) (zj K) (Cu K))
def Ct(K:aA):TS:=(fW (kq (eI (eA kX (dN 5) (tC (.int 5)))) (eI (eA kX (gm (gh K) (dM (dN 7) dW)) (tC (.int 3))))) (zk K) (wD K))
def wC(K:aA):TS:=(fW (eI (eA yD (dN 5) (tC (.int 3)))) (zm K) (Ct K))
def rQ(K:aA):TS:=(fW (tG (eI (eA kX (dN 5) (tC (.int 0)))) (kq (eI (eA kX (gm (gh K) (dM (dN 7) dW)) (tC (.int 1)))) (eI (zu yD yD (tC (.int 2)) (dN 5) (tC (.int 7)))))) (zn K) (wC K))
def wB(K:aA):TS:=(de (eG (eA ql (dN 3) (tC (.int 9))) (dX 4)) (de (eG (eA jb (dN 3) (tC (.int 9))) (dX 5)) (de (eG (eA (gP K) (fX (dM (tC (.str "sab")) (dM (tC (.str "tab")) (dM (tC (.str "sob")) (dM (tC (.str "sat")) dW))))) (eA jb (dN 4) (tC (.int 4)))) (dX 6)) (de (GJ K) (de (eG (nA (ja K) (dN 2) (gH (m8 gu (tC (.int 3)))) gI) (dX 7)) (rQ K))))))
def Cs(K:aA):TS:=(de (eG (lz K "list" mF (dN 2)) (dX 12)) (fQ (kB K "list" eh (dN 2) (dM (fP (dM (tC (.str "sum")) (dM (lz K "list" mF (dN 2)) (dM (dN 12) dW)))) dW))))
def K4(K:aA):TS:=(de (eG (fX (dM (fP (dM (tC (.str "name")) (dM (tC (.str "sab")) dW))) dW)) (dX 2)) (de (iY (i7 K (dN 0)) (dX 3) (wB K)) (de (hX (eI (eA oQ (gm (gh K) (dM (dN 2) dW)) (tC (.int 1)))) (Cs K)) (fI (eA (gP K) (dN 2) (tC (.int 0)))))))
def Fb(K:aA)(S:Str→Nat→Prop):TS:=(fI (eV (oZ K S) [] E0 (dM (dN 0) (dM (fX (dM (fP (dM (tC (.str "st")) (dM (tC (.int 2)) dW))) (dM (fP (dM (tC (.str "sta")) (dM (tC (.int 1)) dW))) (dM (fP (dM (tC (.str "st")) (dM (tC (.int 2)) dW))) (dM (fP (dM (tC (.str "star")) (dM (tC (.int 0)) dW))) dW))))) dW))))
end SW
namespace SW
open PySem L2
variable {K:aA}{vs:List V}{H:Hp}{Q:VK}{E:XK}
abbrev gi(Q:VK):iz:={nx:=λ_ H'=>Q .non H',rt:=Q}
theorem LR(h:tu vs H Q E):Ic K (gi Q) (start ["_law_cell","_law_size"] vs) H:=by
 obtain⟨c,rfl,k⟩:=h;refine⟨⟨by decide,by decide⟩,⟨by decide,by decide,by decide⟩,(show(0:Int)<10^(59:Int).toNat by decide),?_⟩;refine⟨_,rfl,fT,λp hp=>?_⟩;have h2:0≤c%2∧c%2<2:=by lia
 obtain⟨v,hv,e⟩:=mv (xs:=[V.int 1,V.int (-1)]) h2.1 h2.2;refine⟨(show(0:Int)<2 by decide),eK.of dO,e,?_⟩;have b0:=cD (c / 2) (show(10:Int)^(59:Int).toNat≠0 by decide);have b1:=Int.emod_lt_of_pos (c / 2) (show(0:Int)<10^(59:Int).toNat by decide);have e59:(10:Int)^(59:Int).toNat=10^59:=rfl;rw[e59]at b0 b1;rcases aB.mp hv with rfl|hv
 ·refine⟨.inr ⟨by decide,by decide⟩,k _ _ ?_ (dR hp)⟩;rw[e59];generalize c / 2%10^59=z at *;generalize (10:Int)^59=y at *;lia
 ·rw[aG]at hv;subst hv;refine⟨.inr ⟨by decide,by decide⟩,k _ _ ?_ (dR hp)⟩;rw[e59];generalize c / 2%10^59=z at *;generalize (10:Int)^59=y at *;lia
theorem Me(h:pK vs H Q E):LA K (gi Q) (start ["_law_cell","_law_left","_law_word"] vs) H:=by
 obtain⟨c,rfl,k⟩:=h;refine⟨_,rfl,⟨by decide,by decide,by decide⟩,(show(0:Int)<10^(39:Int).toNat by decide),?_⟩;refine⟨λm σ H'=>H'=H∧∃(l:Int)(x:Str),σ=[some (.int c),some (.int l),some (.str x)]∧mL l x∧-1≤l∧(m:Int)=l+1,⟨((if c<0 then -c else c)%10^(39:Int).toNat+1).toNat,rfl,_,_,rfl,rL _,?_,?_⟩,?_⟩
 ·have:=cD (if c<0 then -c else c) (show(10:Int)^(39:Int).toNat≠0 by decide);lia
 ·have:=cD (if c<0 then -c else c) (show(10:Int)^(39:Int).toNat≠0 by decide);exact Int.toNat_of_nonneg (by lia)
 ·rintro m σ H' ⟨rfl,l,x,rfl,hw,hl1,hm⟩;refine⟨_,rfl,?_⟩;refine jP (λhl=>?_) (λhl=>?_)
  ·have hl:(0:Int)≤l:=of_decide_eq_true hl;refine⟨λσ' H''=>∃m',m'<m∧(H''=H'∧∃(l:Int)(x:Str),σ'=[some (.int c),some (.int l),some (.str x)]∧mL l x∧-1≤l∧(m':Int)=l+1),λ_ _ h=>h,?_⟩;obtain⟨ch,hc,e⟩:=yN l;refine⟨(show(0:Int)<26 by decide),_,_,ch,rfl,rfl,fT (by decide+kernel),e,_,_,rfl,rfl,rM hw,?_⟩;refine⟨⟨by decide,by decide⟩,?_⟩;refine⟨(l / 26-1+1).toNat,?_,rfl,_,_,rfl,tK hw hl hc,?_,?_⟩
   ·lia
   ·lia
   ·lia
  ·have hl:¬(0:Int)≤l:=λz=>hl (decide_eq_true z);exact(k _ (uo hw hl))
theorem KM(h:nB K vs H Q E):FK K (gi Q) (start ["_law_script","_law_most","_law_bound"] vs) H:=by obtain⟨s,xs,m,b,rfl,hs,hl,k⟩:=h;refine⟨s,xs,rfl,.inl hs,_,rfl,?_⟩;refine eM (decide_eq_false (by lia)) ?_;exact k
theorem ME(h:iZ vs H Q E):Ke K (gi Q) (start ["words","word","value","more"] vs) H:=by obtain⟨d,x,v,kvs,rfl,hd,hl,k⟩:=h;refine⟨d,kvs,rfl,.inl hd,λp hp=>?_⟩;refine⟨p,_,rfl,mz.k (k:=.inr x) dO (kF hl),?_⟩;exact(k p _ hp (eD (dR hp) hp) dO)
theorem LK(h:gt vs H Q E):IW K (gi Q) (start ["_law_piece"] vs) H:=by
  obtain⟨t,v,rfl,hd,k⟩:=h;cases t with
  | num n=>obtain⟨p,rfl,hp⟩:=hd;refine⟨eC.of hp,rfl,fT,λq hq=>?_⟩;refine⟨q,_,rfl,.inl (eK.of dO),rfl,rfl,_,rfl,?_⟩;refine fi (by decide+kernel) ⟨fT,λl hl=>?_⟩;exact k l [] _ ((dR hq).trans (dR hl)) ((dR hq).free hl) dO .nil
  | name x=>obtain⟨p,rfl,hp⟩:=hd;refine⟨eC.of hp,rfl,fT,λq hq=>?_⟩;refine⟨q,_,rfl,.inl (eK.of dO),rfl,rfl,_,rfl,?_⟩;refine fi (by decide+kernel) ⟨fT,λl hl=>?_⟩;exact k l [] _ ((dR hq).trans (dR hl)) ((dR hq).free hl) dO .nil
  | sum a b=>obtain⟨p,x,y,rfl,hp,d1,d2⟩:=hd;refine⟨eC.of hp,rfl,fT,λq hq=>?_⟩;refine⟨q,_,rfl,.inl (eK.of dO),rfl,rfl,_,rfl,?_⟩;have h1:=iI (o:=.lst [.str "number",.str "name"]) hq _ _ hp;refine eM (by decide+kernel) ⟨eC.of h1,rfl,fT,λq2 hq2=>?_⟩;have h2:=iI (o:=.lst [.str "let",.str "stamp"]) hq2 _ _ h1;refine⟨q2,_,rfl,.inl (eK.of dO),rfl,rfl,?_⟩;rw[if_neg aP,show BI (V.str "sum") [V.str "let",V.str "stamp"]=false from by decide+kernel];refine .inr ⟨_,rfl,?_⟩;refine⟨_,rfl,p,_,rfl,eC.of h2,jH 1 (by decide) (bT rfl),λq3 hq3=>?_⟩;refine⟨q3,[x,y],rfl,.inr (eC.of dO),λl hl=>?_⟩;have s:=(((dR (o:=.lst [.str "number",.str "name"]) hq).trans (dR (o:=.lst [.str "let",.str "stamp"]) hq2)).trans (dR (o:=.tup [x,y]) hq3)).trans (dR (o:=.lst [x,y]) hl);have s3:=((dR (o:=.lst [.str "number",.str "name"]) hq).trans (dR (o:=.lst [.str "let",.str "stamp"]) hq2)).trans (dR (o:=.tup [x,y]) hq3);exact k l [x,y] _ s (s3.free hl) dO (.cons (d1.mono (dY s)) (.cons (d2.mono (dY s)) .nil))
  | less a b=>obtain⟨p,x,y,rfl,hp,d1,d2⟩:=hd;refine⟨eC.of hp,rfl,fT,λq hq=>?_⟩;refine⟨q,_,rfl,.inl (eK.of dO),rfl,rfl,_,rfl,?_⟩;have h1:=iI (o:=.lst [.str "number",.str "name"]) hq _ _ hp;refine eM (by decide+kernel) ⟨eC.of h1,rfl,fT,λq2 hq2=>?_⟩;have h2:=iI (o:=.lst [.str "let",.str "stamp"]) hq2 _ _ h1;refine⟨q2,_,rfl,.inl (eK.of dO),rfl,rfl,?_⟩;rw[if_neg aP,show BI (V.str "less") [V.str "let",V.str "stamp"]=false from by decide+kernel];refine .inr ⟨_,rfl,?_⟩;refine⟨_,rfl,p,_,rfl,eC.of h2,jH 1 (by decide) (bT rfl),λq3 hq3=>?_⟩;refine⟨q3,[x,y],rfl,.inr (eC.of dO),λl hl=>?_⟩;have s:=(((dR (o:=.lst [.str "number",.str "name"]) hq).trans (dR (o:=.lst [.str "let",.str "stamp"]) hq2)).trans (dR (o:=.tup [x,y]) hq3)).trans (dR (o:=.lst [x,y]) hl);have s3:=((dR (o:=.lst [.str "number",.str "name"]) hq).trans (dR (o:=.lst [.str "let",.str "stamp"]) hq2)).trans (dR (o:=.tup [x,y]) hq3);exact k l [x,y] _ s (s3.free hl) dO (.cons (d1.mono (dY s)) (.cons (d2.mono (dY s)) .nil))
  | cho a b c=>obtain⟨p,x,y,z,rfl,hp,d1,d2,d3⟩:=hd;refine⟨eC.of hp,rfl,fT,λq hq=>?_⟩;refine⟨q,_,rfl,.inl (eK.of dO),rfl,rfl,_,rfl,?_⟩;have h1:=iI (o:=.lst [.str "number",.str "name"]) hq _ _ hp;refine eM (by decide+kernel) ⟨eC.of h1,rfl,fT,λq2 hq2=>?_⟩;have h2:=iI (o:=.lst [.str "let",.str "stamp"]) hq2 _ _ h1;refine⟨q2,_,rfl,.inl (eK.of dO),rfl,rfl,?_⟩;rw[if_neg aP,show BI (V.str "choose") [V.str "let",V.str "stamp"]=false from by decide+kernel];refine .inr ⟨_,rfl,?_⟩;refine⟨_,rfl,p,_,rfl,eC.of h2,jH 1 (by decide) (bT rfl),λq3 hq3=>?_⟩;refine⟨q3,[x,y,z],rfl,.inr (eC.of dO),λl hl=>?_⟩;have s:=(((dR (o:=.lst [.str "number",.str "name"]) hq).trans (dR (o:=.lst [.str "let",.str "stamp"]) hq2)).trans (dR (o:=.tup [x,y,z]) hq3)).trans (dR (o:=.lst [x,y,z]) hl);have s3:=((dR (o:=.lst [.str "number",.str "name"]) hq).trans (dR (o:=.lst [.str "let",.str "stamp"]) hq2)).trans (dR (o:=.tup [x,y,z]) hq3);exact k l [x,y,z] _ s (s3.free hl) dO (.cons (d1.mono (dY s)) (.cons (d2.mono (dY s)) (.cons (d3.mono (dY s)) .nil)))
  | lt w a b=>obtain⟨p,x,y,rfl,hp,d1,d2⟩:=hd;refine⟨eC.of hp,rfl,fT,λq hq=>?_⟩;refine⟨q,_,rfl,.inl (eK.of dO),rfl,rfl,_,rfl,?_⟩;have h1:=iI (o:=.lst [.str "number",.str "name"]) hq _ _ hp;refine eM (by decide+kernel) ⟨eC.of h1,rfl,fT,λq2 hq2=>?_⟩;have h2:=iI (o:=.lst [.str "let",.str "stamp"]) hq2 _ _ h1;refine⟨q2,_,rfl,.inl (eK.of dO),rfl,rfl,?_⟩;rw[if_neg aP,show BI (V.str "let") [V.str "let",V.str "stamp"]=true from by decide+kernel];refine .inr ⟨_,rfl,?_⟩;refine⟨_,rfl,p,_,rfl,eC.of h2,jH 2 (by decide) (bT rfl),λq3 hq3=>?_⟩;refine⟨q3,[x,y],rfl,.inr (eC.of dO),λl hl=>?_⟩;have s:=(((dR (o:=.lst [.str "number",.str "name"]) hq).trans (dR (o:=.lst [.str "let",.str "stamp"]) hq2)).trans (dR (o:=.tup [x,y]) hq3)).trans (dR (o:=.lst [x,y]) hl);have s3:=((dR (o:=.lst [.str "number",.str "name"]) hq).trans (dR (o:=.lst [.str "let",.str "stamp"]) hq2)).trans (dR (o:=.tup [x,y]) hq3);exact k l [x,y] _ s (s3.free hl) dO (.cons (d1.mono (dY s)) (.cons (d2.mono (dY s)) .nil))
  | st0 w=>obtain⟨p,rfl,hp⟩:=hd;refine⟨eC.of hp,rfl,fT,λq hq=>?_⟩;refine⟨q,_,rfl,.inl (eK.of dO),rfl,rfl,_,rfl,?_⟩;have h1:=iI (o:=.lst [.str "number",.str "name"]) hq _ _ hp;refine eM (by decide+kernel) ⟨eC.of h1,rfl,fT,λq2 hq2=>?_⟩;have h2:=iI (o:=.lst [.str "let",.str "stamp"]) hq2 _ _ h1;refine⟨q2,_,rfl,.inl (eK.of dO),rfl,rfl,?_⟩;rw[if_neg aP,show BI (V.str "stamp") [V.str "let",V.str "stamp"]=true from by decide+kernel];refine .inr ⟨_,rfl,?_⟩;refine⟨_,rfl,p,_,rfl,eC.of h2,jH 2 (by decide) (bT rfl),λq3 hq3=>?_⟩;refine⟨q3,[],rfl,.inr (eC.of dO),λl hl=>?_⟩;have s:=(((dR (o:=.lst [.str "number",.str "name"]) hq).trans (dR (o:=.lst [.str "let",.str "stamp"]) hq2)).trans (dR (o:=.tup []) hq3)).trans (dR (o:=.lst []) hl);have s3:=((dR (o:=.lst [.str "number",.str "name"]) hq).trans (dR (o:=.lst [.str "let",.str "stamp"]) hq2)).trans (dR (o:=.tup []) hq3);exact k l [] _ s (s3.free hl) dO .nil
  | st1 w a=>obtain⟨p,x,rfl,hp,d1⟩:=hd;refine⟨eC.of hp,rfl,fT,λq hq=>?_⟩;refine⟨q,_,rfl,.inl (eK.of dO),rfl,rfl,_,rfl,?_⟩;have h1:=iI (o:=.lst [.str "number",.str "name"]) hq _ _ hp;refine eM (by decide+kernel) ⟨eC.of h1,rfl,fT,λq2 hq2=>?_⟩;have h2:=iI (o:=.lst [.str "let",.str "stamp"]) hq2 _ _ h1;refine⟨q2,_,rfl,.inl (eK.of dO),rfl,rfl,?_⟩;rw[if_neg aP,show BI (V.str "stamp") [V.str "let",V.str "stamp"]=true from by decide+kernel];refine .inr ⟨_,rfl,?_⟩;refine⟨_,rfl,p,_,rfl,eC.of h2,jH 2 (by decide) (bT rfl),λq3 hq3=>?_⟩;refine⟨q3,[x],rfl,.inr (eC.of dO),λl hl=>?_⟩;have s:=(((dR (o:=.lst [.str "number",.str "name"]) hq).trans (dR (o:=.lst [.str "let",.str "stamp"]) hq2)).trans (dR (o:=.tup [x]) hq3)).trans (dR (o:=.lst [x]) hl);have s3:=((dR (o:=.lst [.str "number",.str "name"]) hq).trans (dR (o:=.lst [.str "let",.str "stamp"]) hq2)).trans (dR (o:=.tup [x]) hq3);exact k l [x] _ s (s3.free hl) dO (.cons (d1.mono (dY s)) .nil)
  | st2 w a b=>obtain⟨p,x,y,rfl,hp,d1,d2⟩:=hd;refine⟨eC.of hp,rfl,fT,λq hq=>?_⟩;refine⟨q,_,rfl,.inl (eK.of dO),rfl,rfl,_,rfl,?_⟩;have h1:=iI (o:=.lst [.str "number",.str "name"]) hq _ _ hp;refine eM (by decide+kernel) ⟨eC.of h1,rfl,fT,λq2 hq2=>?_⟩;have h2:=iI (o:=.lst [.str "let",.str "stamp"]) hq2 _ _ h1;refine⟨q2,_,rfl,.inl (eK.of dO),rfl,rfl,?_⟩;rw[if_neg aP,show BI (V.str "stamp") [V.str "let",V.str "stamp"]=true from by decide+kernel];refine .inr ⟨_,rfl,?_⟩;refine⟨_,rfl,p,_,rfl,eC.of h2,jH 2 (by decide) (bT rfl),λq3 hq3=>?_⟩;refine⟨q3,[x,y],rfl,.inr (eC.of dO),λl hl=>?_⟩;have s:=(((dR (o:=.lst [.str "number",.str "name"]) hq).trans (dR (o:=.lst [.str "let",.str "stamp"]) hq2)).trans (dR (o:=.tup [x,y]) hq3)).trans (dR (o:=.lst [x,y]) hl);have s3:=((dR (o:=.lst [.str "number",.str "name"]) hq).trans (dR (o:=.lst [.str "let",.str "stamp"]) hq2)).trans (dR (o:=.tup [x,y]) hq3);exact k l [x,y] _ s (s3.free hl) dO (.cons (d1.mono (dY s)) (.cons (d2.mono (dY s)) .nil))
end SW
namespace SW
open PySem L2
def lJ(ws:List Str)(x:Str):List Str:=if x∈ws then ws else ws++[x]
def im(ws:List Str):List (fE×V):=ws.map λx=>(Sum.inr x,V.bl true)
theorem Ay:y∈lJ ws x↔y∈ws∨y=x:=by
 unfold lJ;split
 ·rename_i h;exact⟨.inl,λz=>z.elim id λe=>e▸h⟩
 ·simp
theorem vm(h:ws.Nodup):(lJ ws x).Nodup:=by
 unfold lJ;split
 ·exact h
 ·rename_i n;exact wj h n
theorem ue(ws:List Str)(x:Str):(lJ ws x).length≤ws.length+1:=by
 unfold lJ;split
 ·lia
 ·simp
theorem vZ(ws:List Str):lh (im ws)=ws.map V.str:=by simp[lh,im,kV]
theorem nU(ws:List Str):(im ws).length=ws.length:=by simp[im]
theorem m9(ws:List Str)(x:Str):(fS (im ws) (Sum.inr x:fE)).isSome=decide (x∈ws):=by
 rw[←jJ];unfold im;rw[List.any_map];by_cases h:x∈ws
 ·rw[decide_eq_true h];exact ca.mpr ⟨x,h,by simp⟩
 ·rw[decide_eq_false h];refine List.any_eq_false.mpr λy hy=>?_;simp only[dD,decide_eq_true_eq];intro e;cases e;exact h hy
theorem nI(ws:List Str)(x:Str):gA (im ws) (Sum.inr x:fE) (.bl true)=im (lJ ws x):=by
 unfold lJ;by_cases h:x∈ws
 ·rw[if_pos h];unfold gA;rw[jJ,m9,decide_eq_true h,if_pos rfl];unfold im;rw[cE];refine dE λy _=>?_;simp only[dD];split
  ·rename_i e;rw[e]
  ·rfl
 ·rw[if_neg h,pj _ (by cases e:fS (im ws) (Sum.inr x:fE) with|none=>rfl|some z=>have:=m9 ws x;rw[e,decide_eq_false h]at this;cases this)];simp[im]
theorem qq(h:kind t="name"):∃x,t=.name x:=by
 cases t with
 | name x=>exact⟨x,rfl⟩
 | _=>simp only[kind]at h;exact absurd h (by decide+kernel)
theorem qG(h:kind t="let"):∃x a b,t=.lt x a b:=by
 cases t with
 | lt x a b=>exact⟨x,a,b,rfl⟩
 | _=>simp only[kind]at h;exact absurd h (by decide+kernel)
theorem iG(t:T)(us:List V):qR (hd t++us) 0=some (.str (kind t)):=by cases t<;>exact dU (j:=0) rfl
theorem jO(a b:List T):fc (a++b)=fc a+fc b:=by simp[fc]
theorem qY{t:T}(h:∀y,t≠.name y):fc t.kids=t.names.length:=by
 cases t with
 | name y=>exact absurd rfl (h y)
 | _=>simp[fc,T.kids,T.names]<;>lia
theorem gD(h:l≠[]):∃us u,l=us++[u]:=⟨l.dropLast,l.getLast h,(List.dropLast_concat_getLast h).symm⟩
theorem jC:(us++[u])[(us++[u]).length-1]?=some u:=by simp
theorem iP:(us++[u]).dropLast=us:=by simp
end SW
namespace SW
open PySem L2
variable {K:aA}{vs:List V}{H:Hp}{Q:VK}{E:XK}
end SW
namespace SW
open PySem L2
variable {K:aA}{vs:List V}{H:Hp}{Q:VK}{E:XK}
theorem uD(hD:D d):∀{ts:List T}{us:List V}{vs:List V},gU H ts vs→H d=some (.dK kvs)→us.length=vs.length→(∀(i:Nat) u v,us[i]?=some u→vs[i]?=some v→∃p,u=.ref p∧H p=some (.tup [v,.ref d]))→hV D H (ts.map λk=>(k,kvs)) us
 | _,us,_,.nil,_,hl,_=>by
  have:us=[]:=by simpa using hl
  subst this;exact .nil
 | _,[],_,.cons _ _,_,hl,_=>by simp at hl
 | _,u::us,_,.cons a r,hd,hl,k=>by obtain⟨p,e,hp⟩:=k 0 u _ rfl rfl;exact .cons ⟨p,_,d,e,hp,a,hd,hD⟩ (uD hD r hd (by simpa using hl) λi u v h1 h2=>k (i+1) u v (by simpa using h1) (by simpa using h2))
theorem LH(h:qg vs H Q E):IT K (gi Q) (start ["piece","lets"] vs) H:=by
 obtain⟨t,v,d,kvs,rfl,hd,hk,hl,k⟩:=h;obtain⟨p,ks,rfl,hp,dk⟩:=hd.open;refine⟨eC.of hp,iG t ks,rfl,_,rfl,?_⟩;refine jP (λhn=>?_) (λhn=>?_)
 ·obtain⟨x,a,b,rfl⟩:=qG (V.str.inj (of_decide_eq_true hn));obtain⟨p',u1,u2,e,hp',d1,d2⟩:=hd;cases e;refine⟨eC.of hp',rfl,eC.of hp',rfl,?_⟩;refine⟨d,x,.bl true,kvs,rfl,hk,hl,λe1 H1 n1 s1 h1=>?_⟩;refine⟨fT,eu λq1 H2 hq1 s2 g2=>?_⟩;refine⟨eC.of (s2 _ _ (s1 _ _ hp')),rfl,fT,eu λq2 H3 hq2 s3 g3=>?_⟩;refine⟨fT,λl hl=>?_⟩;have s4:dq H3 (upd H3 l (.lst [.ref q1,.ref q2])):=dR hl;have s:=(s1.trans s2).trans (s3.trans s4);refine k l [.ref q1,.ref q2] _ s (((s1.trans s2).trans s3).free hl) dO (.cons ⟨q1,u2,e1,rfl,s4 _ _ (s3 _ _ g2),d2.mono (dY s),s4 _ _ (s3 _ _ (s2 _ _ h1)),.inr n1⟩ (.cons ⟨q2,u1,d,rfl,s4 _ _ g3,d1.mono (dY s),s _ _ hk,.inl rfl⟩ .nil))
 ·have nn:∀x a b,t≠.lt x a b:=λx a b z=>hn (by rw[z];exact decide_eq_true rfl);have em:jN t kvs=t.kids.map λk=>(k,kvs):=by
   cases t with
   | lt x a b=>exact absurd rfl (nn x a b)
   | _=>rfl
  rw[em]at k;refine⟨t,.ref p,rfl,hd,λq us H1 s1 h1 d1=>⟨q,rfl,⟨us,eC.of h1⟩,?_⟩⟩;have hlen:=d1.length;have hks:=et t.kids;have hsm:us.length≤3:=by rw[hlen];cases t<;>simp[T.kids]
  refine⟨λi m zs H'=>m=us.length-i∧i≤us.length∧zs.length=i∧dq H1 H'∧∀(j:Nat) z v,zs[j]?=some z→us[j]?=some v→∃p,z=.ref p∧H' p=some (.tup [v,.ref d]),⟨us.length,by simp,aU _,rfl,λ_ _ h=>h,λj z v h=>by simp at h⟩,?_⟩;rintro i m zs H' ⟨rfl,hi,hz,s2,hw⟩;by_cases hlt:i<us.length
  ·refine .inr ⟨⟨us,us[i],eC.of (s2 _ _ h1),by simp[hlt]⟩,λx H2 y=>?_⟩;obtain⟨e,y⟩:=y;subst e;have hx:=y us (eC.of (s2 _ _ h1));refine⟨fT,λp2 hp2=>⟨by rw[hz,sizeLine_eq];lia,us.length-(i+1),by lia,rfl,hlt,by simp[hz],s2.trans (dR hp2),λj z v h1 h2=>?_⟩⟩;rcases bM j zs.length with hj|hj
   ·rw[ax hj]at h1;obtain⟨p3,e3,g3⟩:=hw j z v h1 h2;exact⟨p3,e3,dR hp2 _ _ g3⟩
   ·rw[bL hj]at h1;have hj0:j-zs.length=0:=by
     cases q:j-zs.length with
     | zero=>rfl
     | succ n=>rw[q]at h1;simp at h1
    rw[hj0]at h1;have ej:j=i:=by lia
    subst ej;rw[hx]at h2;cases h2;have:z=.ref p2:=by simpa using h1.symm
    exact⟨p2,this,dO⟩
  ·have e:i=us.length:=by lia
   refine .inl ⟨⟨us,eC.of (s2 _ _ h1),by lia⟩,by rw[hz,sizeLine_eq];lia,λl hl=>?_⟩;have s3:=s2.trans (dR (o:=.lst zs) hl);refine k l zs _ (s1.trans s3) ((s1.trans s2).free hl) dO (uD (.inl rfl) (d1.mono (dY s3)) (s3 _ _ (s1 _ _ hk)) (by lia) λi u v h1 h2=>?_);obtain⟨p3,e3,g3⟩:=hw i u v h1 h2;exact⟨p3,e3,dR hl _ _ g3⟩
end SW
namespace SW
open PySem L2
variable {K:aA}{vs:List V}{H:Hp}{Q:VK}{E:XK}
def ie(qs:List (T×List (fE×V))):List T:=qs.map (·.1)
theorem ij(a b:List (T×List (fE×V))):ie (a++b)=ie a++ie b:=by simp[ie]
def lD(x:Str)(qs:List (T×List (fE×V))):Prop:=∃q∈qs,q.1.out x∧fS q.2 (Sum.inr x:fE)=none
theorem jq:lD x (a++b)↔lD x a∨lD x b:=by
 unfold lD;constructor
 ·rintro⟨t,h,o⟩;rcases aV.mp h with z|z
  ·exact .inl ⟨t,z,o⟩
  ·exact .inr ⟨t,z,o⟩
 ·rintro(⟨t,h,o⟩|⟨t,h,o⟩)
  ·exact⟨t,ag _ h,o⟩
  ·exact⟨t,aQ _ h,o⟩
theorem ma:lD x [q]↔q.1.out x∧fS q.2 (Sum.inr x:fE)=none:=by simp[lD]
theorem uE:¬lD x []:=by simp[lD]
theorem An{x:Str}{ts:List T}{kvs:List (fE×V)}:lD x (ts.map λk=>(k,kvs))↔(∃k∈ts,k.out x)∧fS kvs (Sum.inr x:fE)=none:=by
 unfold lD;constructor
 ·rintro⟨q,h,o,v⟩;obtain⟨k,hk,rfl⟩:=bj.mp h;exact⟨⟨k,hk,o⟩,v⟩
 ·rintro⟨⟨k,hk,o⟩,v⟩;exact⟨(k,kvs),bj.mpr ⟨k,hk,rfl⟩,o,v⟩
theorem xy(t:T)(kvs:List (fE×V)):fB (ie (jN t kvs))+1=t.size:=by
 have h:=jB t;cases t with
 | lt x a b=>simp[ie,jN,fB,T.size]<;>lia
 | _=>rw[←h];simp[ie,jN,T.kids,fB]
theorem yK(kvs:List (fE×V))(h:∀y,t≠.name y):fc (ie (jN t kvs))=t.names.length:=by
 have e:=qY h;cases t with
 | lt x a b=>simp[ie,jN,fc,T.names]<;>lia
 | _=>rw[←e];simp[ie,jN,T.kids,fc]
theorem DY{x:Str}{t:T}{kvs:List (fE×V)}(h:∀y,t≠.name y):lD x (jN t kvs)↔t.out x∧fS kvs (Sum.inr x:fE)=none:=by
 cases t with
 | name y=>exact absurd rfl (h y)
 | lt w a b=>
  have e:fS (gA kvs (Sum.inr w:fE) (.bl true)) (Sum.inr x:fE)=none↔w≠x∧fS kvs (Sum.inr x:fE)=none:=by
   rw[jY];by_cases q:w=x
   ·subst q;simp
   ·have q':¬(Sum.inr x:fE)=Sum.inr w:=λz=>q (Sum.inr.inj z).symm;rw[if_neg q'];simp[q]
  simp only[lD,jN,aB,aF,or_false,T.out];constructor
  ·rintro⟨q,rfl|rfl,o,v⟩
   ·exact⟨.inr ⟨(e.mp v).1,o⟩,(e.mp v).2⟩
   ·exact⟨.inl o,v⟩
  ·rintro⟨o|⟨n,o⟩,v⟩
   ·exact⟨_,.inr rfl,o,v⟩
   ·exact⟨_,.inl rfl,o,e.mpr ⟨n,v⟩⟩
 | _=>rw[show jN _ kvs=(T.kids _).map (λk=>(k,kvs))from rfl,An];simp[T.kids,T.out]
theorem BS(h:kvs.length+t.size≤n):∀q∈jN t kvs,q.2.length+q.1.size≤n:=by
 have e:=hG kvs (Sum.inr (match t with|.lt x _ _=>x|_=>""):fE) (.bl true);cases t with
 | lt x a b=>
  have e:=hG kvs (Sum.inr x:fE) (.bl true);simp only[T.size]at h;intro q hq;simp only[jN,aB,aF,or_false]at hq;rcases hq with rfl|rfl
  ·show(gA kvs (Sum.inr x) (V.bl true)).length+b.size≤n;lia
  ·show kvs.length+a.size≤n;lia
 | _=>
  simp only[T.size]at h;intro q hq;simp only[jN,T.kids,aY,bV,aB,aF,or_false]at hq<;>first
   | exact hq.elim
   | (rcases hq with rfl|rfl|rfl<;>(simp only;lia))
   | (rcases hq with rfl|rfl<;>(simp only;lia))
   | (subst hq;simp only;lia)
structure J8(t:T)(H₀ H:Hp)(f l:Addr)(ws:List Str)(qs:List (T×List (fE×V)))(us:List V):Prop where
 same:dq H₀ H
 nf:H₀ f=none
 nl:H₀ l=none
 f_:H f=some (.dK (im ws))
 l_:H l=some (.lst us)
 pr:hV (λe=>e≠f) H qs us
 nd:ws.Nodup
 cnt:ws.length+fc (ie qs)≤t.names.length
 sz:fB (ie qs)≤900
 dp:∀q∈qs,q.2.length+q.1.size≤950
 iff:∀x,x∈ws∨lD x qs↔t.out x
def L8(v:V)(t:T)(H:Hp)(m:Nat)(σ:St)(H':Hp):Prop:=∃f l j3 j4 j5 ws qs us,σ=[some v,some (.ref f),some (.ref l),j3,j4,j5]∧J8 t H H' f l ws qs us∧m=fB (ie qs)
theorem LI(h:oG vs H Q E):IU K (gi Q) (start ["piece","found","waiting","pair","current","lets"] vs) H:=by
 obtain⟨t,v,rfl,hd,hsz,hnm,k⟩:=h;intro f hf;refine(λd hdn=>⟨fT,λp hp=>⟨fT,λl hl=>?_⟩⟩);have s1:dq H (upd H f (.dK [])):=dR hf;have s2:=dR (o:=.dK []) hdn;have s3:=dR (o:=.tup [v,.ref d]) hp;have s4:=dR (o:=.lst [.ref p]) hl;have hfd:d≠f:=(dZ (dO (H:=H) (a:=f) (o:=.dK [])) hdn).symm;refine⟨L8 v t H,⟨_,f,l,none,none,none,[],[(t,[])],[.ref p],rfl,?_,rfl⟩,?_⟩
 ·refine⟨s1.trans (s2.trans (s3.trans s4)),hf,((s1.trans s2).trans s3).free hl,s4 _ _ (s3 _ _ (s2 _ _ dO)),dO,.cons ⟨p,v,d,rfl,s4 _ _ dO,hd.mono (dY (s1.trans (s2.trans (s3.trans s4)))),s4 _ _ (s3 _ _ dO),hfd⟩ .nil,List.nodup_nil,?_,?_,?_,λx=>?_⟩
  ·simp[ie,fc]
  ·simp[ie,fB];lia
  ·intro q hq;rw[aG]at hq;subst hq;simp;lia
  ·rw[ma];simp[yw]
 ·rintro m σ H1 ⟨f,l,j3,j4,j5,ws,qs,us,rfl,A,rfl⟩;refine⟨l,us,rfl,.inl (eK.of A.l_),_,rfl,?_⟩;by_cases hv:us=[]
  ·subst hv;cases A.pr;refine eM rfl ?_;have hlen:ws.length<64:=cW (aW (bn _ _) A.cnt) hnm;refine⟨f,_,ws,rfl,.inl A.f_,vZ ws,hlen,λq ws' hq pm so=>?_⟩;refine k q ws' _ (A.same.trans (dR hq)) (A.same.free hq) dO (EE (xu so) (pm.nodup_iff.mpr A.nd)) λx=>?_;rw[pm.mem_iff,←A.iff x];exact⟨.inl,λz=>z.elim id λz=>(uE z).elim⟩
  ·obtain⟨us,u,rfl⟩:=gD hv;refine fi (decide_eq_true (by simp)) ?_;obtain⟨qs',⟨t',kvs⟩,rfl,d1,p',v',d',rfl,hp',dn,hd',hdf⟩:=A.pr.snoc;refine⟨λσ' H'=>∃m',m'<fB (ie (qs'++[(t',kvs)]))∧L8 v t H m' σ' H',λ_ _ h=>h,?_⟩;refine⟨.inl ⟨rfl,_,eK.of A.l_⟩,l,_,_,rfl,rfl,A.l_,jC,?_⟩;rw[iP];have hfl:f≠l:=fY A.f_ A.l_ (by intro z;cases z);have hdl:d'≠l:=fY hd' A.l_ (by intro z;cases z);have tl1:fH H1 (upd H1 l (.lst us)):=fL A.l_;have s3:dq H (upd H1 l (.lst us)):=eD A.same A.nl;have f3:(upd H1 l (.lst us)) f=some (.dK (im ws)):=by rw[db hfl];exact A.f_
   have l3:(upd H1 l (.lst us)) l=some (.lst us):=dO;have g3:(upd H1 l (.lst us)) d'=some (.dK kvs):=by rw[db hdl];exact hd'
   have d3:hV (λe=>e≠f) (upd H1 l (.lst us)) qs' us:=d1.mono tl1 λe kv h1 h2=>⟨by rw[db (fY h2 A.l_ (by intro z;cases z))];exact h2,h1⟩;have e3:=dn.mono tl1;have hp3:=tl1 _ _ hp';generalize upd H1 l (.lst us)=H3 at s3 f3 l3 d3 e3 hp3 g3⊢;have hcnt:=A.cnt;have hsz2:=A.sz;have hdp:=A.dp (t',kvs) (aQ _ (aG.mpr rfl));simp only at hdp;rw[ij,fV]at hsz2;rw[ij,jO]at hcnt;have eq1:fB (ie [(t',kvs)])=t'.size:=by simp[ie,fB]
   have eq2:fc (ie [(t',kvs)])=t'.names.length:=by simp[ie,fc]
   rw[eq1]at hsz2;rw[eq2]at hcnt;obtain⟨pc,ks,rfl,hpc,dk⟩:=e3.open;refine⟨eC.of hp3,rfl,?_⟩;refine⟨eC.of hp3,rfl,?_⟩;have rest:∀(ws':List Str)(H4:Hp),dq H H4→H4 f=some (.dK (im ws'))→H4 l=some (.lst us)→H4 d'=some (.dK kvs)→hV (λe=>e≠f) H4 qs' us→gG H4 t' (.ref pc)→ws'.Nodup→ws'.length+fc (ie qs')+fc (ie (jN t' kvs))≤t.names.length→
     (∀x,x∈ws'∨lD x qs'∨lD x (jN t' kvs)↔t.out x)→
     (fQ (kB K "list" mW (dN 2) (dM (eV qg [] E0 (dM (dN 4) (dM (dN 5) dW))) dW))) {gi Q with nx:=λσ' H'=>∃m',m'<fB (ie (qs'++[(t',kvs)]))∧L8 v t H m' σ' H'}
      [some v,some (.ref f),some (.ref l),some (.ref p'),some (.ref pc),some (.ref d')] H4:=by
    intro ws' H4 s4 f4 l4 g4 d4 e4 nd4 c4 i4;refine⟨.inl ⟨rfl,_,eK.of l4⟩,t',.ref pc,d',kvs,rfl,e4,g4,by lia,λl2 us2 H5 s5 n5 h5 d5=>?_⟩;have hk:=xy t' kvs;have q1:=d4.length;have q2:=d5.length;have q3:=et (ie qs');have q4:=et (ie (jN t' kvs));have q5:(ie qs').length=qs'.length:=by simp[ie]
    have q6:(ie (jN t' kvs)).length=(jN t' kvs).length:=by simp[ie]
    refine⟨l,l2,us,us2,rfl,rfl,s5 _ _ l4,h5,by rw[sizeLine_eq];lia,?_⟩;have l5:=s5 _ _ l4;have t6:fH H5 (upd H5 l (.lst (us++us2))):=fL l5;have dl6:∀(D:Addr→Prop) e kv,D e→H5 e=some (.dK kv)→(upd H5 l (.lst (us++us2))) e=some (.dK kv)∧D e:=λD e kv h1 h2=>⟨by rw[db (fY h2 l5 (by intro z;cases z))];exact h2,h1⟩;have d6:hV (λe=>e≠f) H5 (jN t' kvs) us2:=d5.mono fH.refl λe kv h1 h2=>⟨h2,by
     rcases h1 with rfl|h1
     ·exact hdf
     ·exact(dZ f4 h1).symm⟩
    have d7:hV (λe=>e≠f) H5 qs' us:=d4.mono (dY s5) λe kv h1 h2=>⟨s5 _ _ h2,h1⟩;refine⟨fB (ie (qs'++jN t' kvs)),by rw[ij,ij,fV,fV,eq1];lia,f,l,_,_,_,ws',qs'++jN t' kvs,us++us2,rfl,⟨eD (s4.trans s5) A.nl,A.nf,A.nl,?_,dO,(d7.append d6).mono t6 (dl6 _),nd4,?_,?_,λq hq=>?_,λx=>?_⟩,rfl⟩
    ·rw[db hfl];exact s5 _ _ f4
    ·rw[ij,jO];lia
    ·rw[ij,fV];lia
    ·rcases aV.mp hq with z|z
     ·exact A.dp q (ag _ z)
     ·exact BS hdp q z
    ·rw[jq];exact i4 x
   have nameOnly:∀x,t'=.name x→jN t' kvs=[]:=λx e=>by subst e;rfl
   refine⟨eC.of hpc,iG t' ks,rfl,_,rfl,?_⟩;refine jP (λhn=>?_) (λhn=>?_)
   ·obtain⟨x,rfl⟩:=qq (V.str.inj (of_decide_eq_true hn));refine⟨eC.of hpc,dU (j:=1) rfl,d',_,rfl,iN.k (k:=.inr x) g3,_,rfl,?_⟩;have q2:(T.name x).names.length=1:=rfl;have q3:fc (ie (jN (T.name x) kvs))=0:=rfl;have q4:∀y,¬lD y (jN (T.name x) kvs):=λy=>uE;refine jP (λhx=>?_) (λhx=>?_)
    ·have hx:fS kvs (Sum.inr x:fE)=none:=by
      cases q:fS kvs (Sum.inr x:fE) with
      | none=>rfl
      | some z=>rw[q]at hx;cases hx
     refine⟨eC.of hpc,dU (j:=1) rfl,f,_,rfl,mz.k (k:=.inr x) f3 (kF (by rw[nU];lia)),?_⟩;rw[nI];have tf:fH H3 (upd H3 f (.dK (im (lJ ws x)))):=y8 f3;refine rest (lJ ws x) _ (eD s3 A.nf) dO ?_ ?_ (d3.mono tf λe kv h1 h2=>⟨by rw[db h1];exact h2,h1⟩) (e3.mono tf) (vm A.nd) ?_ λy=>?_
     ·rw[db hfl.symm];exact l3
     ·rw[db hdf];exact g3
     ·have q1:=ue ws x;lia
     ·rw[Ay,←A.iff y,jq,ma];have q5:(T.name x).out y∧fS kvs (Sum.inr y:fE)=none↔y=x:=⟨λz=>z.1.symm,λz=>⟨z.symm,z▸hx⟩⟩;show _↔y∈ws∨lD y qs'∨((T.name x).out y∧fS kvs (Sum.inr y:fE)=none);rw[q5];constructor
      ·rintro((z|z)|z|z)
       ·exact .inl z
       ·exact .inr (.inr z)
       ·exact .inr (.inl z)
       ·exact(q4 y z).elim
      ·rintro(z|z|z)
       ·exact .inl (.inl z)
       ·exact .inr (.inl z)
       ·exact .inl (.inr z)
    ·refine rest ws _ s3 f3 l3 g3 d3 e3 A.nd (by lia) λy=>?_;rw[←A.iff y,jq,ma];have q5:¬((T.name x).out y∧fS kvs (Sum.inr y:fE)=none):=λz=>by have e:x=y:=z.1;subst e;rw[z.2]at hx;exact hx rfl
     constructor
     ·rintro(z|z|z)
      ·exact .inl z
      ·exact .inr (.inl z)
      ·exact(q4 y z).elim
     ·rintro(z|z|z)
      ·exact .inl z
      ·exact .inr (.inl z)
      ·exact(q5 z).elim
   ·have nn:∀y,t'≠.name y:=λy z=>hn (by rw[z];exact decide_eq_true rfl);refine fF ?_;refine rest ws _ s3 f3 l3 g3 d3 e3 A.nd ?_ λy=>?_
    ·rw[yK kvs nn];lia
    ·rw[DY nn,←A.iff y,jq,ma]
end SW
namespace SW
open PySem L2
variable {K:aA}{vs:List V}{H:Hp}{Q:VK}{E:XK}
theorem BW(xs:List V)(k:Nat)(hk:0<k):ig xs (some (-(k:Int))) none=xs.drop (xs.length-k):=by
 unfold ig HT.kH;have h1:(-(k:Int))<0:=by lia
 simp only[h1,if_true];have e:(-(k:Int)+(xs.length:Int)).toNat=xs.length-k:=by lia
 rw[e,bW];rw[ai];lia
theorem nj(xs:List V)(k:Nat)(hk:0<k):ig xs none (some (-(k:Int)))=xs.take (xs.length-k):=by
 unfold ig HT.kH;have h1:(-(k:Int))<0:=by lia
 simp only[h1,if_true,ah,br];have e:(-(k:Int)+(xs.length:Int)).toNat=xs.length-k:=by lia
 rw[e]
theorem lI(xs:List V)(k:Nat)(hk:k≤xs.length):ig xs (some (k:Int)) none=xs.drop k:=by unfold ig;rw[HT.KL,HT.Ij,bq hk,bW];rw[ai];lia
theorem sX(xs:List V)(k:Nat)(hk:k≤xs.length):ig xs none (some (k:Int))=xs.take k:=by unfold ig;rw[HT.KL,HT.Ij,bq hk,ah,br]
theorem gU.split:∀{us:List V}{ts:List T}{ws:List V},gU H ts (us++ws)→∃ta tb,ts=ta++tb∧gU H ta us∧gU H tb ws
 | [],ts,ws,h=>⟨[],ts,rfl,.nil,h⟩
 | u::us,_,ws,.cons a r=>by obtain⟨ta,tb,rfl,h1,h2⟩:=gU.split (us:=us) r;exact⟨_::ta,tb,rfl,.cons a h1,h2⟩
theorem ud(xs:List V)(a b:V):qR (xs++[a,b]) (-2)=some a:=by
 unfold qR Br;have h1:¬(0:Int)≤-2:=by decide
 have h2 : -((xs++[a,b]).length:Int)≤-2:=by simp;lia
 rw[if_neg h1,if_pos h2];have e:(-2+((xs++[a,b]).length:Int)).toNat=xs.length:=by simp;lia
 show(xs++[a,b])[(-2+((xs++[a,b]).length:Int)).toNat]?=some a;rw[e];simp
theorem qQ(xs:List V)(a b:V):qR (xs++[a,b]) (-1)=some b:=by have:=Bf (xs++[a]) b;rw[aT]at this;exact this
section
variable {S:Str→Nat→Prop}{H₀ H1:Hp}{n:Nat}{l p:Addr}{ts:List T}{t:T}{v:V}
theorem ki.mono(P:ki S H₀ H n l vs ts)(s:dq H H1):ki S H₀ H1 n l vs ts:=⟨P.same.trans s,P.new,s _ _ P.at_,P.den.mono (dY s),P.sz,P.one,P.wt⟩
theorem ki.push(P:ki S H₀ H n l vs ts)(hd:gG H t v)(wt:WT S t)(hs:t.size=1):ki S H₀ (upd H l (.lst (vs++[v]))) (n+1) l (vs++[v]) (ts++[t]):=by
 have tl:=fL (o:=.lst (vs++[v])) P.at_;refine⟨eD P.same P.new,P.new,dO,(P.den.mono tl).append (.cons (hd.mono tl) .nil),?_,by simp,λu hu=>?_⟩
 ·rw[fV,gM,jA];have:=P.sz;lia
 ·rcases aV.mp hu with z|z
  ·exact P.wt u z
  ·rw[aG]at z;subst z;exact wt
theorem ki.fold(P:ki S H₀ H n l (us++ws) (ta++tb))(s:dq H H1)(hp:H1 p=none)(d:gU H ta us)(hd:gG H1 t v)(wt:WT S t)(hs:t.size=fB tb+1):ki S H₀ (upd H1 p (.lst (us++[v]))) (n+1) p (us++[v]) (ta++[t]):=by
 have tl:=iI (o:=.lst (us++[v])) hp;refine⟨(P.same.trans s).trans (dR hp),(P.same.trans s).free hp,dO,((d.mono (dY s)).mono tl).append (.cons (hd.mono tl) .nil),?_,by simp,λu hu=>?_⟩
 ·have:=P.sz;rw[fV]at this⊢;rw[gM,jA];lia
 ·rcases aV.mp hu with z|z
  ·exact P.wt u (ag _ z)
  ·rw[aG]at z;subst z;exact wt
def Bp(S:Str→Nat→Prop)(H₀:Hp)(c st:Addr)(n:Nat)(σ:L2.St)(H:Hp):Prop:=
 ∃l vs ts j3 j4 j5 j6 j7 j8 j9 j10 j11 j12,σ=[some (.ref c),some (.ref st),some (.ref l),j3,j4,j5,j6,j7,j8,j9,j10,j11,j12]∧ki S H₀ H n l vs ts
end
section
variable {S:Str→Nat→Prop}{H₀:Hp}{n:Nat}{l c st li:Addr}{ts:List T}{D:iz}{cell rest way:Int}{x:Str}{j8 j9 j10 j11 j12:Option V}
theorem mV(P:ki S H₀ H n l vs ts)(hn:n≤1000)(hD:∀σ H,Bp S H₀ c st (n+1) σ H→D.nx σ H):
  zn K D [some (.ref c),some (.ref st),some (.ref l),some (.int cell),some (.int rest),some (.int way),some (.str x),some (.ref li),j8,j9,j10,j11,j12] H:=by
 refine⟨.inl ⟨rfl,_,eK.of P.at_⟩,?_⟩;refine⟨(show(0:Int)<4 by decide),rest,rfl,λz H1 hz s1=>⟨fT,eu λq H2 hq zq hq1=>?_⟩⟩;have P1:=(P.mono s1).mono zq;refine⟨(show(0:Int)<5 by decide),rfl,.inr ⟨_,rfl,?_⟩⟩;have hi:0≤(if decide (V.int (rest%5)=V.int 3)=true then(1:Int)else 0)∧(if decide (V.int (rest%5)=V.int 3)=true then(1:Int)else 0)<([V.int (rest%4-1),V.int z]:List V).length:=by
  constructor
  ·split<;>decide
  ·show _<((2:Nat):Int);split<;>decide
 obtain⟨u,hu,e⟩:=mv hi.1 hi.2;obtain⟨y,rfl,hy⟩:∃y,u=.int y∧(-(10^60)<y∧y<10^60):=by
  have e60:(10:Int)^60=1000000000000000000000000000000000000000000000000000000000000:=by decide
  have e59:(10:Int)^59=100000000000000000000000000000000000000000000000000000000000:=by decide
  rw[e60];rw[e59]at hz;rcases aB.mp hu with rfl|hu
  ·exact⟨_,rfl,by lia⟩
  ·rw[aG]at hu;exact⟨_,hu,by lia⟩
 refine⟨eK.of hq1,e,fT,λp hp=>?_⟩;have P2:=P1.mono (dR (o:=.tup [.str "number",.int y]) hp);have hl:vs.length≤n:=by rw[P.den.length];exact aW (et ts) P.sz
 refine⟨l,vs,.ref p,rfl,rfl,P2.at_,by rw[sizeLine_eq];lia,hD _ _ ⟨l,vs++[.ref p],ts++[.num y],_,_,_,_,_,_,_,_,_,_,rfl,P2.push (t:=.num y) (v:=.ref p) ⟨p,rfl,dO⟩ hy rfl⟩⟩
theorem vL(P:ki S H₀ H n l vs ts)(hn:n≤1000)(hx:Wd x)(hD:∀σ H,Bp S H₀ c st (n+1) σ H→D.nx σ H):
  zm K D [some (.ref c),some (.ref st),some (.ref l),some (.int cell),some (.int rest),some (.int way),some (.str x),some (.ref li),j8,j9,j10,j11,j12] H:=by
 refine⟨.inl ⟨rfl,_,eK.of P.at_⟩,fT,λp hp=>?_⟩;have P2:=P.mono (dR (o:=.tup [.str "name",.str x]) hp);have hl:vs.length≤n:=by rw[P.den.length];exact aW (et ts) P.sz
 refine⟨l,vs,.ref p,rfl,rfl,P2.at_,by rw[sizeLine_eq];lia,hD _ _ ⟨l,vs++[.ref p],ts++[.name x],_,_,_,_,_,_,_,_,_,_,rfl,P2.push (t:=.name x) (v:=.ref p) ⟨p,rfl,dO⟩ hx rfl⟩⟩
theorem ra(P:ki S H₀ H n l (us++[a,b,d]) (ta++[t1,t2,t3]))(hn:n≤1000)(d0:gU H ta us)(d1:gG H t1 a)(d2:gG H t2 b)(d3:gG H t3 d)(hli:H li=some (.lst [a,b,d]))(hD:∀σ H,Bp S H₀ c st (n+1) σ H→D.nx σ H):
  zk K D [some (.ref c),some (.ref st),some (.ref l),some (.int cell),some (.int rest),some (.int way),some (.str x),some (.ref li),j8,j9,j10,j11,j12] H:=by
 refine⟨_,rfl,_,rfl,l,_,rfl,eK.of P.at_,λq hq=>?_⟩;rw[show(-3:Int)=-((3:Nat):Int)from rfl,nj _ 3 (by decide),show(us++[a,b,d]).length-3=us.length by simp,cF];have s1:=dR (o:=.lst us) hq;have g1:(upd H q (.lst us)) q=some (.lst us):=dO;generalize upd H q (.lst us)=G1 at s1 g1⊢;refine⟨eK.of (s1 _ _ hli),rfl,eK.of (s1 _ _ hli),rfl,eK.of (s1 _ _ hli),rfl,fT,eu λp G2 hp s2 g2=>?_⟩;refine⟨fT,eu λq2 G3 hq2 s3 g3=>?_⟩;have sA:=s1.trans (s2.trans s3);have hl:(us++[a,b,d]).length≤n:=by rw[P.den.length];exact aW (et _) P.sz
 rw[aD]at hl;refine⟨q,q2,us,[.ref p],rfl,rfl,s3 _ _ (s2 _ _ g1),g3,by rw[sizeLine_eq];simp;lia,λp3 hp3=>hD _ _ ⟨p3,us++[.ref p],ta++[.cho t1 t2 t3],_,_,_,_,_,_,_,_,_,_,rfl,P.fold (t:=.cho t1 t2 t3) (v:=.ref p) sA hp3 d0 ⟨p,a,b,d,rfl,s3 _ _ g2,d1.mono (dY sA),d2.mono (dY sA),d3.mono (dY sA)⟩ ⟨P.wt _ (by simp),P.wt _ (by simp),P.wt _ (by simp)⟩ (by simp[T.size,fB];lia)⟩⟩;simp
theorem yB(P:ki S H₀ H n l (us++[a,b]) (ta++[t1,t2]))(hn:n≤1000)(d0:gU H ta us)(d1:gG H t1 a)(d2:gG H t2 b)(hli:H li=some (.lst (zs++[a,b])))(hD:∀σ H,Bp S H₀ c st (n+1) σ H→D.nx σ H):
  zj K D [some (.ref c),some (.ref st),some (.ref l),some (.int cell),some (.int rest),some (.int way),some (.str x),some (.ref li),j8,j9,j10,j11,j12] H:=by
 refine⟨_,rfl,_,rfl,l,_,rfl,eK.of P.at_,λq hq=>?_⟩;rw[show(-2:Int)=-((2:Nat):Int)from rfl,nj _ 2 (by decide),show(us++[a,b]).length-2=us.length by simp,cF];have s1:=dR (o:=.lst us) hq;have g1:(upd H q (.lst us)) q=some (.lst us):=dO;generalize upd H q (.lst us)=G1 at s1 g1⊢;refine⟨fT,eu λq1 G1b hq1 s1b g1b=>?_⟩;have sB:=s1.trans s1b;have hw:0≤way%2∧way%2<2:=by lia
 obtain⟨u,hu,e⟩:=mv (xs:=[V.str "sum",V.str "less"]) hw.1 hw.2;refine⟨(show(0:Int)<2 by decide),eK.of g1b,e,?_⟩;refine⟨_,rfl,eK.of (sB _ _ hli),ud zs a b,_,rfl,eK.of (sB _ _ hli),qQ zs a b,fT,eu λp G2 hp s2 g2=>?_⟩;refine⟨fT,eu λq2 G3 hq2 s3 g3=>?_⟩;have sA:=sB.trans (s2.trans s3);have hl:(us++[a,b]).length≤n:=by rw[P.den.length];exact aW (et _) P.sz
 rw[aD]at hl;have e1:=d1.mono (dY sA);have e2:=d2.mono (dY sA);have w1:WT S t1:=P.wt _ (by simp);have w2:WT S t2:=P.wt _ (by simp);refine⟨q,q2,us,[.ref p],rfl,rfl,s3 _ _ (s2 _ _ (s1b _ _ g1)),g3,by rw[sizeLine_eq];simp;lia,λp3 hp3=>?_⟩;rcases aB.mp hu with rfl|hu
 ·exact hD _ _ ⟨p3,us++[.ref p],ta++[.sum t1 t2],_,_,_,_,_,_,_,_,_,_,rfl,P.fold (t:=.sum t1 t2) (v:=.ref p) sA hp3 d0 ⟨p,a,b,rfl,s3 _ _ g2,e1,e2⟩ ⟨w1,w2⟩ (by simp[T.size,fB])⟩
 ·rw[aG]at hu;subst hu;exact hD _ _ ⟨p3,us++[.ref p],ta++[.less t1 t2],_,_,_,_,_,_,_,_,_,_,rfl,P.fold (t:=.less t1 t2) (v:=.ref p) sA hp3 d0 ⟨p,a,b,rfl,s3 _ _ g2,e1,e2⟩ ⟨w1,w2⟩ (by simp[T.size,fB])⟩
 all_goals simp
end
end SW
namespace SW
open PySem L2
variable {K:aA}{vs:List V}{H:Hp}{Q:VK}{E:XK}
theorem va(h:(if false=true then !BI (V.str (kind t)) [V.str "sum",V.str "less"]else BI (V.str (kind t)) [V.str "sum",V.str "less"])=true):(∃a b,t=.sum a b)∨∃a b,t=.less a b:=by
 rw[if_neg aP]at h;cases t with
 | sum a b=>exact .inl ⟨a,b,rfl⟩
 | less a b=>exact .inr ⟨a,b,rfl⟩
 | _=>simp only[kind]at h;exact absurd h (by decide+kernel)
section
variable {S:Str→Nat→Prop}{H₀:Hp}{n:Nat}{l c st li:Addr}{ts:List T}{D:iz}{cell rest way:Int}{x:Str}{j8 j9 j10 j11 j12:Option V}
theorem yC(P:ki S H₀ H n l (us++[a,b]) (ta++[t1,t2]))(hn:n≤1000)(d0:gU H ta us)(d1:gG H t1 a)(d2:gG H t2 b)(hli:H li=some (.lst (zs++[a,b])))(hx:Wd x)(hD:∀σ H,Bp S H₀ c st (n+1) σ H→D.nx σ H):
  wG K D [some (.ref c),some (.ref st),some (.ref l),some (.int cell),some (.int rest),some (.int way),some (.str x),some (.ref li),j8,j9,j10,j11,j12] H:=by
 have w1:WT S t1:=P.wt _ (by simp);have w2:WT S t2:=P.wt _ (by simp);have last:∀(y:Str)(vl:V)(G:Hp),Wd y→dq H G→
   (eG (eA mG (nA (ja K) (dN 2) gI (gH (m8 gu (tC (.int 2))))) (fX (dM (fP (dM (tC (.str "let")) (dM (dN 6) (dM (eA (gP K) (dN 7) (m8 gu (tC (.int 2)))) (dM (eA (gP K) (dN 7) (m8 gu (tC (.int 1)))) dW))))) dW))) (dX 2)) D
    [some (.ref c),some (.ref st),some (.ref l),some (.int cell),some (.int rest),some (.int way),some (.str y),some (.ref li),some vl,j9,j10,j11,j12] G:=by
  intro y vl G hy sG;have PG:=P.mono sG;refine⟨_,rfl,_,rfl,l,_,rfl,eK.of PG.at_,λq hq=>?_⟩;rw[show(-2:Int)=-((2:Nat):Int)from rfl,nj _ 2 (by decide),show(us++[a,b]).length-2=us.length by simp,cF];have s1:=dR (o:=.lst us) hq;have g1:(upd G q (.lst us)) q=some (.lst us):=dO;generalize upd G q (.lst us)=G1 at s1 g1⊢;have hli1:=s1 _ _ (sG _ _ hli);refine⟨_,rfl,eK.of hli1,ud zs a b,_,rfl,eK.of hli1,qQ zs a b,fT,eu λp G2 hp s2 g2=>?_⟩;refine⟨fT,eu λq2 G3 hq2 s3 g3=>?_⟩;have sA:=s1.trans (s2.trans s3);have hl:(us++[a,b]).length≤n:=by rw[P.den.length];exact aW (et _) P.sz
  rw[aD]at hl;have e1:=(d1.mono (dY sG)).mono (dY sA);have e2:=(d2.mono (dY sG)).mono (dY sA);refine⟨q,q2,us,[.ref p],rfl,rfl,s3 _ _ (s2 _ _ g1),g3,by rw[sizeLine_eq];simp;lia,λp3 hp3=>?_⟩;exact hD _ _ ⟨p3,us++[.ref p],ta++[.lt y t1 t2],_,_,_,_,_,_,_,_,_,_,rfl,PG.fold (t:=.lt y t1 t2) (v:=.ref p) sA hp3 (d0.mono (dY sG)) ⟨p,a,b,rfl,s3 _ _ g2,e1,e2⟩ ⟨hy,w1,w2⟩ (by simp[T.size,fB])⟩;simp
 have rest2:∀(tl:T)(vl:V)(G:Hp),dq H G→gG G tl vl→WT S tl→
   (de (wH K) (eG (eA mG (nA (ja K) (dN 2) gI (gH (m8 gu (tC (.int 2))))) (fX (dM (fP (dM (tC (.str "let")) (dM (dN 6) (dM (eA (gP K) (dN 7) (m8 gu (tC (.int 2)))) (dM (eA (gP K) (dN 7) (m8 gu (tC (.int 1)))) dW))))) dW))) (dX 2))) D
    [some (.ref c),some (.ref st),some (.ref l),some (.int cell),some (.int rest),some (.int way),some (.str x),some (.ref li),some vl,j9,j10,j11,j12] G:=by
  intro tl vl G sG dl wl;obtain⟨pl,ks,rfl,hpl,_⟩:=dl.open;refine⟨eC.of hpl,iG tl ks,rfl,_,rfl,?_⟩;refine jP (λhk=>?_) (λhk=>?_)
  ·obtain⟨y,rfl⟩:=qq (V.str.inj (of_decide_eq_true hk));refine⟨(show(0:Int)<3 by decide),_,rfl,?_⟩;refine jP (λ_=>?_) (λ_=>?_)
   ·exact⟨eC.of hpl,dU (j:=1) rfl,last y _ G wl sG⟩
   ·exact last x _ G hx sG
  ·exact fF (last x _ G hx sG)
 obtain⟨pb,ks,rfl,hpb,_⟩:=d2.open;refine⟨_,rfl,eK.of hli,qQ zs a _,?_⟩;refine⟨eC.of hpb,iG t2 ks,fT,eu λq G1 hq s1 g1=>?_⟩;refine⟨q,_,rfl,.inl (eK.of g1),rfl,rfl,_,rfl,?_⟩;refine jP (λhk=>?_) (λhk=>?_)
 ·rcases va hk with⟨a',b',rfl⟩|⟨a',b',rfl⟩
  ·obtain⟨p',u1,u2,e,h3,e1,e2⟩:=d2;cases e;exact⟨eC.of (s1 _ _ h3),rfl,rest2 b' u2 G1 s1 (e2.mono (dY s1)) w2.2⟩
  ·obtain⟨p',u1,u2,e,h3,e1,e2⟩:=d2;cases e;exact⟨eC.of (s1 _ _ h3),rfl,rest2 b' u2 G1 s1 (e2.mono (dY s1)) w2.2⟩
 ·exact rest2 t2 _ G1 s1 (d2.mono (dY s1)) w2
theorem zx(hm:m≤2)(hS:S nm m)(hl:ws.length=m)(d:gU H tb ws)(wt:∀t∈tb,WT S t)(hp:H p=some (.tup ([.str "stamp",.str nm]++ws))):
  ∃t,gG H t (.ref p)∧WT S t∧t.size=fB tb+1:=by
 cases d with
 | nil=>subst hl;exact⟨.st0 nm,⟨p,rfl,hp⟩,hS,rfl⟩
 | @cons t1 v1 tb ws a r=>
  cases r with
  | nil=>subst hl;exact⟨.st1 nm t1,⟨p,v1,rfl,hp,a⟩,⟨hS,wt _ (by simp)⟩,by simp[T.size,fB]⟩
  | @cons t2 v2 tb ws b r=>
   cases r with
   | nil=>subst hl;exact⟨.st2 nm t1 t2,⟨p,v1,v2,rfl,hp,a,b⟩,⟨hS,wt _ (by simp),wt _ (by simp)⟩,by simp[T.size,fB]⟩
   | cons _ _=>simp at hl;lia
theorem uA(P:ki S H₀ H n l vs ts)(hn:n≤1000)(hst:H st=some (.lst xs))(hxs:xs≠[])(hS:jM S H xs)(hD:∀σ H,Bp S H₀ c st (n+1) σ H→D.nx σ H)(hD0:∀σ H,Bp S H₀ c st n σ H→D.nx σ H):
  wF K D [some (.ref c),some (.ref st),some (.ref l),some (.int cell),some (.int rest),some (.int way),some (.str x),some (.ref li),j8,j9,j10,j11,j12] H:=by
 have hpos:(0:Int)<(xs.length:Int):=by
  cases xs with
  | nil=>exact absurd rfl hxs
  | cons _ _=>simp
 have hr:=cD rest (Int.ne_of_gt hpos);have hr2:=Int.emod_lt_of_pos rest hpos;obtain⟨v,hv,e⟩:=mv hr hr2;obtain⟨q,nm,m,rfl,hq,hm,hSm⟩:=hS v hv;refine⟨st,xs,rfl,.inl (eK.of hst),hpos,eK.of hst,e,q,_,rfl,eC.of hq,rfl,_,_,rfl,_,_,rfl,rfl,?_⟩;refine⟨l,vs,rfl,.inl (eK.of P.at_),_,_,rfl,?_⟩;refine⟨st,xs,rfl,.inl (eK.of hst),hpos,eK.of hst,e,eC.of hq,dU (j:=1) rfl,rfl,_,rfl,?_⟩;refine jP (λhk=>?_) (λhk=>?_)
 ·have hk:(if(vs.length:Int)<(m:Int)then(vs.length:Int)else(m:Int))=m:=V.int.inj (of_decide_eq_true hk);have hml:m≤vs.length:=by
   split at hk
   ·lia
   ·lia
  rw[hk];obtain⟨us,ws,rfl,hws⟩:∃us ws,vs=us++ws∧ws.length=m:=⟨vs.take (vs.length-m),vs.drop (vs.length-m),(bu _ _).symm,by rw[ai];lia⟩;obtain⟨ta,tb,rfl,d0,d1⟩:=P.den.split;have hel:((us++ws).length:Int)-(m:Int)=((us.length:Nat):Int):=by rw[aD];lia
  have hl:(us++ws).length≤n:=by rw[P.den.length];exact aW (et _) P.sz
  rw[aD]at hl;refine⟨fT,eu λq1 G1 hq1 s1 g1=>?_⟩;refine⟨l,_,rfl,.inl (eK.of (s1 _ _ P.at_)),_,rfl,l,_,rfl,eK.of (s1 _ _ P.at_),λq2 hq2=>?_⟩;rw[hel,lI _ _ (by simp),List.drop_left'];have s2:=dR (o:=.lst ws) hq2;have g2:(upd G1 q2 (.lst ws)) q2=some (.lst ws):=dO;generalize upd G1 q2 (.lst ws)=G2 at s2 g2⊢;refine⟨q1,q2,_,_,rfl,rfl,s2 _ _ g1,g2,by rw[sizeLine_eq];simp;lia,eu λq3 G3 hq3 s3 g3=>?_⟩;refine⟨q3,_,rfl,.inl ⟨eK.of g3,eu λq4 G4 hq4 s4 g4=>?_⟩⟩;have sB:=(s1.trans s2).trans (s3.trans s4);refine⟨l,_,rfl,.inl (eK.of (sB _ _ P.at_)),_,rfl,l,_,rfl,eK.of (sB _ _ P.at_),λq5 hq5=>?_⟩;rw[hel,sX _ _ (by simp),cF];have s5:=dR (o:=.lst us) hq5;have g5:(upd G4 q5 (.lst us)) q5=some (.lst us):=dO;generalize upd G4 q5 (.lst us)=G5 at s5 g5⊢;refine⟨fT,eu λq6 G6 hq6 s6 g6=>?_⟩;have sA:=sB.trans (s5.trans s6);obtain⟨t,dt,wt,hs⟩:=zx hm hSm hws (d1.mono (dY sA)) (λt ht=>P.wt t (aQ _ ht)) (s6 _ _ (s5 _ _ g4));refine⟨q5,q6,us,[.ref q4],rfl,rfl,s6 _ _ g5,g6,by rw[sizeLine_eq];simp;lia,λp3 hp3=>?_⟩;exact hD _ _ ⟨p3,us++[.ref q4],ta++[t],_,_,_,_,_,_,_,_,_,_,rfl,P.fold sA hp3 d0 dt wt hs⟩
  all_goals rfl
 ·exact hD0 _ _ ⟨l,vs,ts,_,_,_,_,_,_,_,_,_,_,rfl,P⟩
end
end SW
namespace SW
open PySem L2
variable {K:aA}{vs:List V}{H:Hp}{Q:VK}{E:XK}
theorem pB:∀{l:List α},2≤l.length→∃us a b,l=us++[a,b]:=λ{l} h=>by
 have hne:l≠[]:=by intro e;subst e;simp at h
 obtain⟨us,b,rfl⟩:=gD hne;have hne:us≠[]:=by intro e;subst e;simp at h
 obtain⟨us,a,rfl⟩:=gD hne;exact⟨us,a,b,by simp⟩
theorem uv:∀{l:List α},3≤l.length→∃us a b c,l=us++[a,b,c]:=λ{l} h=>by
 have hne:l≠[]:=by intro e;subst e;simp at h
 obtain⟨us,c,rfl⟩:=gD hne;obtain⟨us,a,b,rfl⟩:=pB (l:=us) (by simp at h;lia);exact⟨us,a,b,c,by simp⟩
section
variable {S:Str→Nat→Prop}{H₀:Hp}{n:Nat}{l c st li:Addr}{ts:List T}{D:iz}{cell rest way:Int}{x:Str}{j8 j9 j10 j11 j12:Option V}
theorem AQ(P:ki S H₀ H n l vs ts)(hn:n≤1000)(hli:H li=some (.lst (vs.drop (vs.length-3))))(hw:0≤way∧way<9)(hx:Wd x)(hst:H st=some (.lst xs))(hS:jM S H xs)
  (hD:∀σ H,Bp S H₀ c st (n+1) σ H→D.nx σ H):
  rQ K D [some (.ref c),some (.ref st),some (.ref l),some (.int cell),some (.int rest),some (.int way),some (.str x),some (.ref li),j8,j9,j10,j11,j12] H:=by
 have hD0:∀σ H,Bp S H₀ c st n σ H→D.nx σ H:=λσ H h=>hD σ H (by
  obtain⟨l,vs,ts,j3,j4,j5,j6,j7,j8,j9,j10,j11,j12,e,P⟩:=h;exact⟨l,vs,ts,j3,j4,j5,j6,j7,j8,j9,j10,j11,j12,e,P.same,P.new,P.at_,P.den,by have:=P.sz;lia,P.one,P.wt⟩)
 have hlen:(vs.drop (vs.length-3)).length=min 3 vs.length:=by rw[ai];lia
 have h1:1≤vs.length:=by
  rw[P.den.length];cases ts with
  | nil=>exact absurd rfl P.one
  | cons _ _=>simp
 have two:2≤vs.length→∃us a b ta t1 t2,vs=us++[a,b]∧ts=ta++[t1,t2]∧gU H ta us∧gG H t1 a∧gG H t2 b∧∃zs,vs.drop (vs.length-3)=zs++[a,b]:=λh2=>by
  obtain⟨us,a,b,rfl⟩:=pB h2;obtain⟨ta,tb,rfl,d0,d1⟩:=P.den.split;cases d1 with
  | cons e1 r=>
  cases r with
  | cons e2 r=>
  cases r;refine⟨us,a,b,ta,_,_,rfl,rfl,d0,e1,e2,us.drop (us.length-1),?_⟩;rw[show(us++[a,b]).length-3=us.length-1 by simp,List.drop_append_of_le_length (by lia)]
 have other:way≠0→((vs.drop (vs.length-3)).length=1→¬(2<way∧way<7))→
   wC K D [some (.ref c),some (.ref st),some (.ref l),some (.int cell),some (.int rest),some (.int way),some (.str x),some (.ref li),j8,j9,j10,j11,j12] H:=by
  intro h0 hno;have hge:2<way→way<7→2≤vs.length:=λa b=>by
   rcases bM vs.length 2 with z|z
   ·exact absurd ⟨a,b⟩ (hno (by rw[hlen];lia))
   ·exact z
  refine⟨_,rfl,?_⟩;refine jP (λh3=>vL P hn hx hD) (λh3=>?_);have h3:¬way<3:=λz=>h3 (decide_eq_true z);have low:wD K D [some (.ref c),some (.ref st),some (.ref l),some (.int cell),some (.int rest),some (.int way),some (.str x),some (.ref li),j8,j9,j10,j11,j12] H:=by
   refine⟨_,rfl,?_⟩;refine jP (λh6=>?_) (λh6=>?_)
   ·have h6:way<6:=of_decide_eq_true h6;obtain⟨us,a,b,ta,t1,t2,rfl,rfl,d0,d1,d2,zs,ez⟩:=two (hge (by lia) (by lia));rw[ez]at hli;exact yB P hn d0 d1 d2 hli hD
   ·have h6:¬way<6:=λz=>h6 (decide_eq_true z);refine⟨rfl,_,rfl,?_⟩;refine jP (λh7=>?_) (λh7=>?_)
    ·have h7:way=6:=V.int.inj (of_decide_eq_true h7);obtain⟨us,a,b,ta,t1,t2,rfl,rfl,d0,d1,d2,zs,ez⟩:=two (hge (by lia) (by lia));rw[ez]at hli;exact yC P hn d0 d1 d2 hli hx hD
    ·refine⟨fT,eu λe G he s1 g1=>?_⟩;refine⟨st,e,xs,rfl,rfl,eK.of (s1 _ _ hst),eK.of g1,_,rfl,?_⟩;have hSG:jM S G xs:=λv hv=>by obtain⟨q,nm,m,e1,e2,e3⟩:=hS v hv;exact⟨q,nm,m,e1,s1 _ _ e2,e3⟩
     refine jP (λhk=>?_) (λhk=>?_)
     ·exact uA (P.mono s1) hn (s1 _ _ hst) (by intro z;subst z;cases hk) hSG hD hD0
     ·exact hD0 _ _ ⟨l,vs,ts,_,_,_,_,_,_,_,_,_,_,rfl,P.mono s1⟩
  refine⟨rfl,_,rfl,?_⟩;refine jP (λh5=>?_) (λh5=>fF low);refine⟨li,_,rfl,.inl (eK.of hli),rfl,_,rfl,?_⟩;refine jP (λhl3=>?_) (λhl3=>low);have hl3:(((vs.drop (vs.length-3)).length:Nat):Int)=3:=V.int.inj (of_decide_eq_true hl3);obtain⟨us,a,b,d,rfl⟩:=uv (l:=vs) (by lia);obtain⟨ta,tb,rfl,d0,d1⟩:=P.den.split;cases d1 with
  | cons e1 r=>
  cases r with
  | cons e2 r=>
  cases r with
  | cons e3 r=>
  cases r;rw[show(us++[a,b,d]).length-3=us.length by simp,List.drop_left']at hli;exact ra P hn d0 e1 e2 e3 hli hD;rfl
 refine⟨rfl,_,rfl,?_⟩;refine jP (λh0=>mf (mV P hn hD)) (λh0=>?_);have h0:way≠0:=λz=>h0 (by rw[z];exact decide_eq_true rfl);refine⟨li,_,rfl,.inl (eK.of hli),rfl,_,rfl,?_⟩;refine jP (λhl1=>?_) (λhl1=>?_)
 ·refine⟨_,rfl,?_⟩;refine jP (λh2=>⟨_,rfl,?_⟩) (λh2=>⟨_,rfl,?_⟩)
  ·refine jP (λ_=>mV P hn hD) (λh7=>?_);exact other h0 λ_ z=>h7 (decide_eq_true z.2)
  ·exact fF (other h0 λ_ z=>h2 (decide_eq_true z.1))
 ·refine fF (other h0 λz=>?_);exact absurd (decide_eq_true (congrArg V.int (by rw[z];rfl))) hl1
theorem vK(P:ki S H₀ H n l vs ts)(hn:n≤1000)(hst:H st=some (.lst xs))(hS:jM S H xs)(hD:∀σ H,Bp S H₀ c st (n+1) σ H→D.nx σ H):
  wB K D [some (.ref c),some (.ref st),some (.ref l),some (.int cell),j4,j5,j6,j7,j8,j9,j10,j11,j12] H:=by
 refine⟨⟨by decide,by decide⟩,(show(0:Int)<9 by decide),fT,λq hq=>?_⟩;have hw:0≤cell%9∧cell%9<9:=by lia
 have s1:=dR (o:=.lst [.str "sab",.str "tab",.str "sob",.str "sat"]) hq;have g1:(upd H q (.lst [.str "sab",.str "tab",.str "sob",.str "sat"])) q=some (.lst [.str "sab",.str "tab",.str "sob",.str "sat"]):=dO;generalize upd H q (.lst [.str "sab",.str "tab",.str "sob",.str "sat"])=G at s1 g1⊢;have h4:0≤(cell / 9)%4∧(cell / 9)%4<4:=by lia
 obtain⟨v,hv,e⟩:=mv (xs:=[V.str "sab",V.str "tab",V.str "sob",V.str "sat"]) h4.1 h4.2;obtain⟨x,rfl,hx⟩:=B9 hv;refine⟨(show(0:Int)<4 by decide),eK.of g1,e,?_⟩;have PG:=P.mono s1;have hSG:∀{G'},dq G G'→jM S G' xs:=λ{G'} s v hv=>by obtain⟨q,nm,m,e1,e2,e3⟩:=hS v hv;exact⟨q,nm,m,e1,s _ _ (s1 _ _ e2),e3⟩
 have go:∀y,Wd y→(de (eG (nA (ja K) (dN 2) (gH (m8 gu (tC (.int 3)))) gI) (dX 7)) (rQ K)) D [some (.ref c),some (.ref st),some (.ref l),some (.int cell),some (.int (cell / 9)),some (.int (cell%9)),some (.str y),j7,j8,j9,j10,j11,j12] G:=by intro y hy;refine⟨_,rfl,_,rfl,l,vs,rfl,eK.of PG.at_,λli hli=>?_⟩;rw[show(-3:Int)=-((3:Nat):Int)from rfl,BW _ 3 (by decide)];have s2:=dR (o:=.lst (vs.drop (vs.length-3))) hli;exact AQ (PG.mono s2) hn dO hw hy (s2 _ _ (s1 _ _ hst)) (hSG s2) hD
 refine⟨(show(0:Int)<29 by decide),rfl,_,rfl,?_⟩;refine jP (λ_=>?_) (λ_=>go x hx);refine⟨⟨by decide,by decide⟩,_,rfl,λy hy=>?_⟩;refine⟨_,_,rfl,rfl,?_,go _ (Kc hy.1 hy.2)⟩;have:(("k":Str)).length=1:=by decide+kernel
 have:=hy.2;rw[sizeLine_eq];lia
structure L1(S:Str→Nat→Prop)(H₀ H:Hp)(n:Nat)(l:Addr)(vs:List V)(ts:List T):Prop where
 same:dq H₀ H
 new:H₀ l=none
 at_:H l=some (.lst vs)
 den:gU H ts vs
 sz:fB ts+ts.length≤2*n
 nm:fc ts≤n
 one:ts≠[]
 wt:∀t∈ts,WT S t
theorem oJ:∀ts:List T,fc ts≤fB ts
 | []=>aC _
 | t::ts=>by have h:=oJ ts;have h2:=t.names_len;simp only[fc,fB,aY,bI]at *;lia
def M4(S':Str→Nat→Prop)(H:Hp)(c st:Addr)(ns:List Int)(m:Nat)(σ:St)(H':Hp):Prop:=∃l vs ts j3 j4 j5 j6 j7 j8 j9 j10 j11 j12,σ=[some (.ref c),some (.ref st),some (.ref l),j3,j4,j5,j6,j7,j8,j9,j10,j11,j12]∧L1 S' H H' (ns.length+1) l vs ts∧m=ts.length
theorem Gh(h:pP K S S' vs H Q E):K4 K (gi Q) (start ["_law_cells","_law_stamps","_law_pile","_law_cell","_law_rest","_law_way","_law_word","_law_inner","_law_look","_law_name","_law_many","_law_made","_law_last"] vs) H:=by
 obtain⟨c,st,ns,xs,rfl,hc,hns,hst,hxl,hS,hSS,k⟩:=h;refine⟨fT,λp hp=>⟨fT,λl hl=>?_⟩⟩;have s1:=dR (o:=.tup [.str "name",.str "sab"]) hp;have s2:=dR (o:=.lst [.ref p]) hl;have P0:ki S H (upd (upd H p (.tup [.str "name",.str "sab"])) l (.lst [.ref p])) 1 l [.ref p] [.name "sab"]:=
  ⟨s1.trans s2,s1.free hl,dO,.cons ⟨p,rfl,s2 _ _ dO⟩ .nil,by simp[fB,T.size],by simp,λt ht=>by rw[aG]at ht;subst ht;exact yu⟩
 refine⟨c,rfl,⟨_,(s1.trans s2).seq hc⟩,gw (K:=K) (a:=c) (xs:=ns.map V.int) (λi σ H2=>Bp S H c st (i+1) σ H2) ⟨l,_,_,_,_,_,_,_,_,_,_,_,_,rfl,P0⟩ (λi σ H2 _ hN=>?_) ?_ ?_⟩
 ·obtain⟨l,vs,ts,j3,j4,j5,j6,j7,j8,j9,j10,j11,j12,e,P⟩:=hN;exact P.same.seq hc
 ·rintro i y σ H2 hi ⟨l,vs,ts,j3,j4,j5,j6,j7,j8,j9,j10,j11,j12,rfl,P⟩;have hil:i<(ns.map V.int).length:=(aO.mp hi).1;rw[aa]at hil;obtain⟨z,rfl⟩:∃z,y=V.int z:=by
   rw[ae]at hi;cases e:ns[i]? with
   | none=>rw[e]at hi;cases hi
   | some z=>rw[e]at hi;exact⟨z,(Option.some.inj hi).symm⟩
  refine vK P (by lia) (P.same _ _ hst) (λv hv=>?_) (λσ H h=>h);obtain⟨q,nm,m,e1,e2,e3⟩:=hS v hv;exact⟨q,nm,m,e1,P.same _ _ e2,e3⟩
 ·rintro σ H2 ⟨l,vs,ts,j3,j4,j5,j6,j7,j8,j9,j10,j11,j12,rfl,P⟩;rw[aa]at P;refine⟨M4 S' H c st ns,⟨_,l,vs,ts,_,_,_,_,_,_,_,_,_,_,rfl,?_,rfl⟩,?_⟩
  ·refine⟨P.same,P.new,P.at_,P.den,?_,?_,P.one,λt ht=>hSS t (aW (qo ht) P.sz) (P.wt t ht)⟩
   ·have:=et ts;have:=P.sz;lia
   ·have:=oJ ts;have:=P.sz;lia
  ·clear P j3 j4 j5 j6 j7 j8 j9 j10 j11 j12;rintro m σ H3 ⟨l,vs,ts,j3,j4,j5,j6,j7,j8,j9,j10,j11,j12,rfl,A,rfl⟩;refine⟨l,vs,rfl,.inl (eK.of A.at_),_,rfl,?_⟩;refine jP (λh1=>?_) (λh1=>?_)
   ·have h1:(1:Int)<(vs.length:Int):=of_decide_eq_true h1;obtain⟨us,a,b,rfl⟩:=pB (l:=vs) (by lia);obtain⟨ta,tb,rfl,d0,d1⟩:=A.den.split;cases d1 with
    | @cons t1 _ _ _ e1 r=>
    cases r with
    | @cons t2 _ _ _ e2 r=>
    cases r;refine⟨λσ' H'=>∃m',m'<(ta++[t1,t2]).length∧M4 S' H c st ns m' σ' H',λ_ _ h=>h,?_⟩;have ha:=A.at_;rw[show us++[a,b]=(us++[a])++[b] by simp]at ha;refine⟨.inl ⟨rfl,_,eK.of ha⟩,l,_,_,rfl,rfl,ha,jC,?_⟩;rw[iP];have tl1:=fL (o:=.lst (us++[a])) ha;have sO:=eD (o:=.lst (us++[a])) A.same A.new;have g1:(upd H3 l (.lst (us++[a]))) l=some (.lst (us++[a])):=dO;generalize upd H3 l (.lst (us++[a]))=G1 at tl1 sO g1⊢;refine⟨.inl ⟨rfl,_,eK.of g1⟩,.inl ⟨rfl,_,eK.of g1⟩,l,_,_,rfl,rfl,g1,jC,?_⟩;rw[iP];have tl2:=fL (o:=.lst us) g1;have sO2:=eD (o:=.lst us) sO A.new;have g2:(upd G1 l (.lst us)) l=some (.lst us):=dO;generalize upd G1 l (.lst us)=G2 at tl2 sO2 g2⊢;refine⟨fT,eu λp G3 hp s3 g3=>?_⟩;have hlen:=d0.length;have hsz:=A.sz;rw[fV,aD]at hsz;have hq:=et ta;have tl4:=fL (o:=.lst (us++[.ref p])) (s3 _ _ g2);have tlA:=tl1.trans (tl2.trans ((dY s3).trans tl4));refine⟨l,us,.ref p,rfl,rfl,s3 _ _ g2,by rw[sizeLine_eq];lia,(ta++[T.sum t1 t2]).length,by simp,l,us++[.ref p],ta++[T.sum t1 t2],_,_,_,_,_,_,_,_,_,_,rfl,⟨eD (sO2.trans s3) A.new,A.new,dO,(d0.mono tlA).append (.cons (show gG _ (T.sum t1 t2) (.ref p)from⟨p,a,b,rfl,tl4 _ _ g3,e1.mono tlA,e2.mono tlA⟩) .nil),?_,?_,by simp,λt ht=>?_⟩,rfl⟩
    ·rw[fV,aD];simp[fB,T.size]at hsz⊢;lia
    ·have:=A.nm;rw[jO]at this⊢;simp[fc,T.names]at this⊢;lia
    ·rcases aV.mp ht with z|z
     ·exact A.wt t (ag _ z)
     ·rw[aG]at z;subst z;exact⟨A.wt _ (by simp),A.wt _ (by simp)⟩
   ·have h1:¬(1:Int)<(vs.length:Int):=λz=>h1 (decide_eq_true z);have hlen:=A.den.length;obtain⟨t,rfl⟩:∃t,ts=[t]:=by
     cases ts with
     | nil=>exact absurd rfl A.one
     | cons t ts=>
      cases ts with
      | nil=>exact⟨t,rfl⟩
      | cons _ _=>simp at hlen;lia
    obtain⟨v,rfl⟩:∃v,vs=[v]:=by
     cases A.den with
     | cons a r=>cases r;exact⟨_,rfl⟩
    have d1:gG H3 t v:=by cases A.den with|cons a r=>exact a
    have hsz:=A.sz;have hnm:=A.nm;refine⟨eK.of A.at_,rfl,k t v H3 A.same d1 (A.wt t (by simp)) ?_ ?_⟩
    ·simp[fB]at hsz;lia
    ·simp[fc]at hnm;lia
end
theorem KN(h:nC K vs H Q E):Fb K ug (gi Q) (start ["_law_cells"] vs) H:=by
 obtain⟨c,ns,rfl,hc,hns,k⟩:=h;refine⟨fT,λq1 h1=>⟨fT,λq2 h2=>⟨fT,λq3 h3=>⟨fT,λq4 h4=>⟨fT,λl hl=>?_⟩⟩⟩⟩⟩;have s1:=dR (o:=.tup [.str "st",.int 2]) h1;have g1:(upd H q1 (.tup [.str "st",.int 2])) q1=some (.tup [.str "st",.int 2]):=dO;generalize upd H q1 (.tup [.str "st",.int 2])=G1 at *;have s2:=dR (o:=.tup [.str "sta",.int 1]) h2;have g2:(upd G1 q2 (.tup [.str "sta",.int 1])) q2=some (.tup [.str "sta",.int 1]):=dO;generalize upd G1 q2 (.tup [.str "sta",.int 1])=G2 at *;have s3:=dR (o:=.tup [.str "st",.int 2]) h3;have g3:(upd G2 q3 (.tup [.str "st",.int 2])) q3=some (.tup [.str "st",.int 2]):=dO;generalize upd G2 q3 (.tup [.str "st",.int 2])=G3 at *;have s4:=dR (o:=.tup [.str "star",.int 0]) h4;have g4:(upd G3 q4 (.tup [.str "star",.int 0])) q4=some (.tup [.str "star",.int 0]):=dO;generalize upd G3 q4 (.tup [.str "star",.int 0])=G4 at *;have s5:=dR (o:=.lst [.ref q1,.ref q2,.ref q3,.ref q4]) hl;have g5:(upd G4 l (.lst [.ref q1,.ref q2,.ref q3,.ref q4])) l=some (.lst [.ref q1,.ref q2,.ref q3,.ref q4]):=dO;generalize upd G4 l (.lst [.ref q1,.ref q2,.ref q3,.ref q4])=G5 at *;have sA:=(s1.trans s2).trans ((s3.trans s4).trans s5);refine⟨c,l,ns,_,rfl,sA.seq hc,hns,g5,by simp,λx hx=>?_,λt v H' s d w a b=>k t v H' (sA.trans s) d w a b⟩;rcases aB.mp hx with rfl|hx
 ·exact⟨q1,"st",2,rfl,s5 _ _ (s4 _ _ (s3 _ _ (s2 _ _ g1))),by decide,.inl ⟨rfl,rfl⟩⟩
 rcases aB.mp hx with rfl|hx
 ·exact⟨q2,"sta",1,rfl,s5 _ _ (s4 _ _ (s3 _ _ g2)),by decide,.inr (.inl ⟨rfl,rfl⟩)⟩
 rcases aB.mp hx with rfl|hx
 ·exact⟨q3,"st",2,rfl,s5 _ _ (s4 _ _ g3),by decide,.inl ⟨rfl,rfl⟩⟩
 rcases aB.mp hx with rfl|hx
 ·exact⟨q4,"star",0,rfl,s5 _ _ g4,by decide,.inr (.inr ⟨rfl,rfl⟩)⟩
 ·cases hx
end SW
namespace SW
open PySem L2
variable {K:aA}{vs:List V}{H:Hp}{Q:VK}{E:XK}
end SW
namespace SW
open PySem L2
variable {K:aA}{vs:List V}{H:Hp}{Q:VK}{E:XK}
end SW
namespace L2
open PySem PySem.Spec PyProof.Rows
section
variable {X:Cx}
end
section
variable {prog:Program}{w:World}{A:Around}{E:Value→Shared→Prop}{s:Shared}{κ:Type}[DecidableEq κ]{knd:KeyKind prog w κ}{d:Addr}{kvs:List (κ×Value)}{ep:Nat}
theorem se(lo:(d==sysModules)=false)(hh:A.handled=none)(da:s.heap.DictAt knd d kvs ep)(hn:kvs.length≤sizeLine)
  (h:∀h' tk acc,(∀b o,s.heap.get? b=some o→h'.get? b=some o)→s.heap.objs.size<h'.objs.size→ItemsOf (λi v=>∃k x,kvs[i]?=some (k,x)∧knd.is k v=true) acc kvs.length→Q acc.toList {s with heap:=h',toks:=tk}):
  wpAny (model prog w) A (collect (.ref d)) Q E s:=by
 unfold collect;refine wpAny_bind (wpAny_runValue (codeAny_builtin entry_proto_collect' ?_));show wpAny _ _ (do again (.builtin "list.__iadd__" ⟨[← newList [],.ref d],[]⟩)) _ _ s;refine wpAny_bind (wpAny_newList (wpAny_pure ⟨Code.quiet_builtin _ (by decide+kernel),codeAny_builtin entry_list_iadd' ?_⟩));show wpAny _ _ (Builtin.List.listExtendWith (.ref s.heap.objs.size) (.ref d) (.ref s.heap.objs.size)) _ _ {s with heap:=s.heap.push (seqObj "list" #[] 0)};rw[Around.under_plainId (by decide+kernel) _];have hlt:=da.lt_size;have up:∀b o,s.heap.get? b=some o→(s.heap.push (seqObj "list" #[] 0)).get? b=some o:=λb o e=>Heap.get?_push_of_some _ e;have key:=PySem.W.kdl_extend (A:=A) (R:=λr s'=>match r with
   | .ok (.ret v)=>wpAny (model prog w) A (match v with
     | .ref a=>do
      let o ← load a
      match o.data with
      | .seq xs _=>pure xs.toList
      | _=>unsupported "internal:collect"
     | _=>unsupported "internal:collect") Q E s'
   | .ok _=>False
   | .error e=>E e s') (PySem.W.kdl_dict (knd:=knd) lo) hh (s:={s with heap:=s.heap.push (seqObj "list" #[] 0)}) (da.push _) s.heap.objs.size (bD hlt) (bD hlt) (.ref s.heap.objs.size) 0 (Heap.get?_push_size _ rfl) (λh' tk acc c hk hS hacc=>?_) hn
 ·refine wpAny_mono key (λf s' h=>?_) λe s' h=>h;cases f with
  | done f=>exact h
  | again c=>exact h
 ·refine wpAny_bind (wpAny_load hS ?_);exact wpAny_pure (h h' tk acc (λb o e=>hk b o (aL (Heap.lt_size e)) (up b o e)) (Heap.lt_size hS) hacc)
end
section
variable {X:Cx}
theorem sf(hh:X.calm=true):kP X (.builtin "sorted") (λxs H Q=>∃a kvs ws,xs=[.ref a]∧Rd H a (.dK kvs)∧lh kvs=ws.map V.str∧ws.length<64∧∀p ws',H p=none→ws'.Perm ws→sortedS ws'=true→Q (.ref p) (upd H p (.lst (ws'.map V.str)))):=by
 intro pins s σ H xs us Q I r h;obtain⟨a,kvs,ws,rfl,ha,ek,hl,q⟩:=h;obtain⟨u,rfl,ru⟩:=k9 r;cases ru;obtain⟨z,hd,vs,rel,dd⟩:=mn I.hok ha;obtain⟨ep,da⟩:=dd.dictAt;have hA:=I.ok.hd hh;refine Calls.call_function_entry PyProof.Rows.kind_sorted PyProof.Rows.plain_sorted PyProof.Rows.entry_sorted (PyProof.Rows.args_sorted1 _) ?_;unfold Builtin.«sorted»;refine wpAny_bind (m:=checkCount "sorted" 1 1 _) (wpAny_pure ?_);refine wpAny_bind (se hd hA da (by rw[←rel.length];exact z) λh' tk acc keep hsz hacc=>?_);have hv:=yP rel hacc;rw[ek]at hv;have hS:=wQ hv;have hlen:acc.toList.length<64:=by rw[←hv.length];simpa using hl
 refine wpAny_bind (wpAny_newList ?_);have hoL:(h'.push (seqObj "list" acc.toList.toArray 0)).get? h'.objs.size=some (seqObj "list" acc.toList.toArray 0):=Heap.get?_push_size _ rfl;refine wpAny_bind (wpAny_holding (wpAny_call_entry slot_list_sort ⟨_,hoL,rfl⟩ entry_list_sort (list_sort_treeK strKind_oneLt (s:={s with heap:=h'.push (seqObj "list" acc.toList.toArray 0),toks:=tk}) hoL hS.keysOf (λv₁ v₂ rest e=>keyKind_strs (by rw[←e];exact hS)) hlen λst' a1 a2=>⟨_,rfl,?_⟩) (args_list_sort _)));refine wpAny_pure ⟨_,rfl,?_⟩;obtain⟨ss',b1,b2,b3⟩:=sorted_out_str hS a1 a2;obtain⟨e,he⟩:=sortedHeap_at (out:=(arrOf st').map (·.2)) hoL;have hl2:ss'.length<64:=by rw[b2.length_eq];exact hl
 have hn:H h'.objs.size=none:=I.hok.fresh (bO hsz);refine⟨.ref h'.objs.size,_,I.laid (a:=h'.objs.size) (o:=.lst (ss'.map V.str)) (t':=tk) (λb o q=>?_) (bO hsz) ⟨by rw[aa,sizeLine_eq];omega,((arrOf st').map (·.2)).toList,e,wd b1,he⟩,rfl,q _ ss' hn b2 b3⟩;have hb:=Heap.lt_size q;rw[sortedHeap_old (aL (cU hb hsz)) (by rw[Heap.size_push];exact cb (cU hb hsz))];exact Heap.get?_push_of_some _ (keep b o q)
end
end L2
namespace L2
open PySem PySem.Spec PyProof.Rows
section
variable {X:Cx}{pins:List (Addr×Obj)}{σ:St}{H H':Hp}{s s':Shared}{ea:Addr}{cls a0:Value}{B:Heap}
end
section
variable {P:Program}{w:World}{K:aA}{mg:Str→Option Value}{base:Heap}{N:List Str}{qual:Str}{scope:Scope}{f:Addr}{cd:Value}{A:Around}{outer:List Env}{s:Shared}{H:Hp}{E E':XK}
end
end L2
namespace L2
open PySem PySem.Spec PyProof.Rows
section
variable {X:Cx}{pins:List (Addr×Obj)}{σ:St}{H H':Hp}{s s':Shared}{ea:Addr}{oe:Obj}{cls a0:Value}{B:Heap}
end
section
variable {X:Cx}{k:Nat}{f:Addr}{fd:FuncData}{ps:List Str}{sp:Sp}{x:Str}{p pos cpos:Pos}{e:Expr}{es:List Expr}{t:TA}
end
section
variable {X:Cx}{st b₀:Stmt}{suite:List Stmt}{c:Str}{C:Addr}{np hpos pos:Pos}{tb:(St→XK)→TS}{th:TS}
end
end L2
namespace PySem.W
open PySem PySem.Spec PySem.Calls PyProof.Rows Builtin Builtin.ObjectAttr Builtin.Getset_descriptor
section
variable {prog:Program}{w:World}{A:Around}{E:Value→Shared→Prop}{K:Frag}{h:Heap}{g:Array GenState}{d:Drawn}{t:Nat}{os:OsState}{a D:Addr}{o:Obj}
end
end PySem.W
namespace L2
open PySem PySem.Spec PyProof.Rows
section
variable {X:Cx}{ea:Addr}{oe:Obj}{D:Addr}
end
section
variable {X:Cx}{pins:List (Addr×Obj)}{σ:St}{H:Hp}{s:Shared}
end
section
variable {X:Cx}{st b₀:Stmt}{suite:List Stmt}{c n:Str}{C CN:Addr}{j:Nat}{np hpos pos:Pos}{tb:(St→XK)→TS}{th:Addr→TS}
end
end L2
namespace L2
open PySem PySem.Spec PyProof.Rows
def rG(K:aA)(a:Addr)(n:Nat):It:=
 ⟨λi H=>i<n∧∃xs x,eK K H a xs∧xs.length=n∧xs[n-1-i]?=some x,λi H x H'=>H'=H∧∀xs,eK K H a xs→xs[n-1-i]?=some x,λi _=>i=n⟩
theorem y6{P:Program}{w:World}{K:aA}{tg:Expr}(a it:Addr)(n:Nat):uf P w K tg (rG K a n) [it] it (λi h=>h.IsRevIter it a ((n:Int)-1-i)) where
 mem:=by simp
 obj:=λi h st b hb=>by
  have e:b=it:=by simpa using hb
  subst e;obtain⟨o,e,c,d⟩:=st;exact⟨o,e,λv z=>by rw[d]at z;cases z⟩
 keep:=λi h h' st k=>st.at λo e=>k it (by simp) o e
 item:=by
  intro X hP hw hK hc i pins s σ H E I hf st hg;subst hP hw hK;obtain⟨hi,xs,x,hq,hl,hx⟩:=hg;obtain⟨its,rv,p,hz⟩:=I.list hq;obtain⟨u,hu,ru⟩:=rv.get hx;obtain⟨f0,f1,f2,f3,f4,f5⟩:=hf it (by simp);have e1:(n:Int)-1-i=((n-1-i:Nat):Int):=by lia
  have st1:s.heap.IsRevIter it a ((n-1-i:Nat):Int):=by rw[←e1];exact st
  refine wpAny_pyNext_rev_item st1 p.isList (x:=u) (by simpa using hu) λh' st' sb=>?_;have I1:eU X pins σ H {s with heap:=h'}:=I.turned (t':=s.toks) (λb o hb e=>(sb.2 b hb).trans e) f0 f1 f3 f4 f5;obtain⟨o,e,c,d⟩:=id st';have e2:((n-1-i:Nat):Int)-1=(n:Int)-1-(i+1:Nat):=by lia
  exact⟨u,rfl,uN (s:={s with heap:=h'}) e c d (by decide) ⟨x,H,I1,ru,⟨rfl,λys hy=>by rw[I.list_inj hy hq];exact hx⟩,by rw[←e2];exact st',λb hb=>(hf b hb).1⟩⟩
 done:=by intro X hP hw hK hc i pins s σ H E I hf st hg;subst hP hw hK;obtain rfl:i=n:=hg;obtain⟨f0,f1,f2,f3,f4,f5⟩:=hf it (by simp);have st1:s.heap.IsRevIter it a (-1):=(show(i:Int)-1-i=-1 by lia)▸st;exact wpAny_pyNext_rev_end (I.ok.hd hc) st1 λh' eb=>⟨rfl,I.turned (t':=s.toks) (λb o hb e=>eb b o hb e) f0 f1 f3 f4 f5⟩
 self:=λ_ _ _ _ _ st h=>wpAny_pyIter_revIter st h
def HY(K:aA)(tl:TE):TI:=λσ H R=>tl σ H λx H1=>∃a xs,[x]=[V.ref a]∧eK K H1 a xs∧R (rG K a xs.length) H1
theorem oP:bootBuiltins "reversed"=some (.type "reversed"):=by decide+kernel
section
variable {X:Cx}{tg:Expr}
theorem Ah{l:Expr}{tl:TE}{np pos:Pos}(hg:Gl X "reversed")(hm:X.mg "reversed"=none)(hl:PE X l tl)(he:starEach [l] X.env=[(false,eval l X.env)]:=by rfl):PI X tg (.Call (.Name "reversed" np) [l] [] pos) (HY X.K tl):=by
 intro pins s σ H R I h;refine wpAny_Call_Name_kw (jw I hg hm oP ?_);have he':starEach (l::[]) X.env=(false,eval l X.env)::starEach [] X.env:=he;refine bP (thn ((dz hl fb he':PA X [l] (dM tl dW)) pos pins s σ H (λvs H1=>∃a xs,vs=[V.ref a]∧eK X.K H1 a xs∧R (rG X.K a xs.length) H1) I h) λus s1 ⟨vs,H1,I1,r1,q1⟩=>?_) he' (by rfl)
 ·obtain⟨a,xs,rfl,hq,q⟩:=q1;obtain⟨u,rfl,ru⟩:=k9 r1;cases ru;obtain⟨its,rv,p,hz⟩:=I1.list hq;refine call_reversed_list p.isList ?_;refine wpAny_pyIter_revIter (l:=a) (i:=(xs.length:Int)-1) ⟨_,Heap.get?_push_size _ rfl,rfl,by simp[revObj,rv.length]⟩ ?_;refine⟨s1.heap.objs.size,[s1.heap.objs.size],_,_,H1,rfl,I1.kept (t':=s1.toks) λb o e=>Heap.get?_push_of_some _ e,y6 a _ xs.length,⟨_,Heap.get?_push_size _ rfl,rfl,by simp[revObj,rv.length]⟩,λb hb=>?_,q⟩;have e:b=s1.heap.objs.size:=by simpa using hb
  subst e;exact I1.fpOk (aC _) (I1.hok.fresh (aC _))
theorem Lg(I:eU X pins σ H s)(rx:fM x u)(ty:lb X.K H x t)(hp:∃o n,s.heap.get? p=some o∧o.cls=.type "tuple"∧o.data=.seq cs.toArray n)
  (e:PySem.W.kitAny X.K t cs=some b) (h:∀tk,Q (.bool b) {s with toks:=tk}):wpAny (model X.prog X.w) A (call (.builtin "isinstance") [u,.ref p]) Q E s:=by
 obtain⟨⟨oc,od,odt,osl⟩,n,h1,h2,h3⟩:=hp;dsimp only at h2 h3;subst h2 h3;cases ty with
 | non=>cases(show u=Value.none from rx);exact bG PySem.W.kitx_none I.kIn aH h1 e (λz=>nomatch z) h
 | bl y=>cases(show u=Value.bool y from rx);exact bG PySem.W.kitx_bool I.kIn aH h1 e (λz=>nomatch z) h
 | int i=>obtain⟨t,q⟩:=(show ∃t,u=Value.int i t from rx);cases q;exact bG PySem.W.kitx_int I.kIn aH h1 e (λz=>nomatch z) h
 | str y=>obtain⟨t,q⟩:=(show ∃t,u=Value.str y t from rx);cases q;exact bG PySem.W.kitx_str I.kIn aH h1 e (λz=>nomatch z) h
 | flt y=>obtain⟨t,q⟩:=(show ∃t,u=Value.float y t from rx);cases q;exact bG PySem.W.kitx_float I.kIn aH h1 e (λz=>nomatch z) h
 | @lst a xs ea=>
  cases(show u=Value.ref a from rx);obtain⟨_,_,n,_,h2⟩:=(show gB X.prog X.w H s.heap a (.lst xs)from I.hok a _ ea);exact bG b9 I.kIn ⟨_,h2,rfl⟩ h1 e (λz=>nomatch z) h
 | @frz a ob xs ea=>
  cases(show u=Value.ref a from rx);obtain⟨_,_,_,n,_,h2⟩:=(show gB X.prog X.w H s.heap a (.frz ob (.lst xs))from I.hok a _ ea);exact bG b9 I.kIn ⟨_,h2,rfl⟩ h1 e (λz=>nomatch z) h
 | @tup a xs ea=>
  cases(show u=Value.ref a from rx);obtain⟨_,_,_,p⟩:=(show gB X.prog X.w H s.heap a (.tup xs)from I.hok a _ ea);obtain⟨o,h2,h3,_⟩:=p;exact bG PySem.W.kitx_tuple I.kIn ⟨o,h2,h3⟩ h1 e (λz=>nomatch z) h
 | @dK a kvs ea=>
  cases(show u=Value.ref a from rx);obtain⟨_,_,vs,_,p⟩:=(show gB X.prog X.w H s.heap a (.dK kvs)from I.hok a _ ea);obtain⟨o,es,ep,h2,h3,_⟩:=p;exact bG cA I.kIn ⟨o,h2,h3.1⟩ h1 e (λz=>nomatch z) h
 | @dT a kvs ea=>
  cases(show u=Value.ref a from rx);obtain⟨_,_,xs,_,o,es,ep,h2,h3,_⟩:=(show gB X.prog X.w H s.heap a (.dT kvs)from I.hok a _ ea);exact bG cA I.kIn ⟨o,h2,h3.1⟩ h1 e (λz=>nomatch z) h
 | @ins a C dx fs ea cl ha hn htk hm=>cases(show u=Value.ref a from rx);obtain⟨mA,O,_⟩:=mh I.hok ea;obtain⟨od,J,_⟩:=O.look;exact bG (PySem.W.kitx_own (cl.get _) cl.hd ha hn htk hm) I.kIn J h1 e (λz=>nomatch z) h
def Ei(K:aA):List V→Hp→VK→Prop:=λxs H Q=>∃x t p c d b,xs=[x,.ref p]∧H p=some (.tup [.ty c,.ty d])∧lb K H x t∧PySem.W.kitAny K t [.type c,.type d]=some b∧Q (.bl b) H
theorem yd:kP X (.builtin "isinstance") (Ei X.K):=by intro pins s σ H xs us Q I r h;obtain⟨x,t,p,c,d,b,rfl,hp,ty,e,q⟩:=h;obtain⟨u,w',rfl,ru,rw'⟩:=vz r;cases rw';obtain⟨_,its,rv,o,h1,h2,n,h3⟩:=(show gB X.prog X.w H s.heap p (.tup _)from I.hok p _ hp);obtain⟨u1,u2,rfl,r1,r2⟩:=vz rv;cases r1;cases r2;exact Lg I ru ty ⟨o,n,h1,h2,h3⟩ e λtk=>⟨.bl b,H,I.tok tk,rfl,q⟩
end
end L2
namespace L2
open PySem PySem.Spec PyProof.Rows SW
section
variable {X:Cx}{pins:List (Addr×Obj)}{σ:St}{H:Hp}{s:Shared}
theorem q8(h:(∃n,x=.int n)∨∃w,x=.str w)(r1:fM x u1)(r2:fM x u2):SeqAt.EqAt A s u1 u2 true:=by
 rcases h with⟨n,rfl⟩|⟨w,rfl⟩
 ·obtain⟨t1,rfl⟩:=r1;obtain⟨t2,rfl⟩:=r2;have:=SeqAt.EqAt.int_int (A:=A) (s:=s) n t1 n t2;simpa using this
 ·obtain⟨t1,rfl⟩:=r1;obtain⟨t2,rfl⟩:=r2;have:=SeqAt.EqAt.str_str (A:=A) (s:=s) w t1 w t2;simpa using this
theorem Dt(t:T):∀x∈hd t,(∃n,x=.int n)∨∃w,x=.str w:=by cases t<;>simp[hd]
theorem qH{t k:T}(h:k∈t.kids):k.size<t.size:=by
 have h1:=jB t;have h2:k.size≤fB t.kids:=by
  unfold fB;generalize t.kids=l at h;induction l with
  | nil=>cases h
  | cons a r ih=>
   rcases aB.mp h with rfl|h
   ·simp
   ·have:=ih h;simp only[aY,bI];lia
 lia
theorem sV:∀{ts:List T}{us:List V}{i:Nat}{x:V},gU H ts us→us[i]?=some x→∃t,ts[i]?=some t∧gG H t x
 | _,_,0,_,.cons a r,h=>by cases h;exact⟨_,rfl,a⟩
 | _,_,i+1,_,.cons a r,h=>sV (i:=i) r h
end
section
variable {X:Cx}
end
end L2
namespace L2
open PySem PySem.Spec PyProof.Rows
theorem lC(a b:Int):Builtin.Range.rangeSize a b (-1)=if b<a then a-b else 0:=by unfold Builtin.Range.rangeSize;simp only[show ¬((-1:Int)>0) by decide,if_false];split<;>(try split)<;>simp<;>lia
theorem u6(ha : -(2^62)≤a)(ha':a<2^62)(hb : -(2^62)≤b)(hb':b<2^62):Builtin.Range.small a b (-1)=true:=by
 unfold Builtin.Range.small;rw[lC];simp only[Builtin.Range.rangeFitsLong,bf,Bool.or_eq_true,decide_eq_true_eq,beq_iff_eq,show ¬((-1:Int)>0) by decide,if_false];split
 ·refine⟨⟨⟨⟨by lia,by lia⟩,by lia⟩,by lia⟩,.inr (by lia)⟩
 ·refine⟨⟨⟨⟨by lia,by lia⟩,by lia⟩,by lia⟩,.inl ?_⟩
  first|trivial|rfl
def IJ(hi:Int)(n:Nat):It:=⟨λi _=>i<n,λi H x H'=>H'=H∧x=.int (hi-i),λi _=>n≤i⟩
theorem xX{P:Program}{w:World}{K:aA}{tg:Expr}(it:Addr)(hi:Int)(n:Nat):uf P w K tg (IJ hi n) [it] it (λi h=>IsRangeIter h it (hi+(i:Nat)*(-1)) ((n:Int)-(i:Nat)) (-1)) where
 mem:=by simp
 obj:=λi h st b hb=>by
  have e:b=it:=by simpa using hb
  subst e;exact⟨_,st,λv z=>by
   have z':Data.fields _=Data.cell v:=z;cases z'⟩
 keep:=λi h h' st k=>k it (by simp) _ st
 item:=by intro X hP hw hK hc i pins s σ H E I hf st hg;subst hP hw hK;obtain⟨f0,f1,f2,f3,f4,f5⟩:=hf it (by simp);have W:=Walks.range (prog:=X.prog) (w:=X.w) (I.ok.hd hc) it hi (-1) n;refine W.item i s _ _ hg st λv h' tk hv st' kk=>?_;obtain⟨t,rfl⟩:=hv;have I1:eU X pins σ H {s with heap:=h',toks:=tk}:=I.turned (λb o hb e=>kk b o (by simpa using hb) e) f0 f1 f3 f4 f5;refine⟨_,rfl,uN (s:={s with heap:=h',toks:=tk}) (n:="range_iterator") st' rfl rfl (by decide) ⟨.int (hi-i),H,I1,⟨t,?_⟩,⟨rfl,rfl⟩,st',λb hb=>(hf b hb).1⟩⟩;rw[show hi+(i:Int)*(-1)=hi-i by lia]
 done:=by intro X hP hw hK hc i pins s σ H E I hf st hg;subst hP hw hK;obtain⟨f0,f1,f2,f3,f4,f5⟩:=hf it (by simp);exact wpAny_pyNext_range_end (I.ok.hd hc) st (by have:n≤i:=hg;lia) λh' eb=>⟨rfl,I.turned (t':=s.toks) (λb o hb e=>eb b o hb e) f0 f1 f3 f4 f5⟩
 self:=λ_ _ _ _ _ st h=>wpAny_pyIter_rangeiter st h
section
variable {X:Cx}{tg:Expr}
theorem vN{pins:List (Addr×Obj)}{σ:St}{H:Hp}{s:Shared}{R:It→Hp→Prop}{E:Value→Shared→Prop}{hi lo:Int}{t u v:Tok}{tk:Nat}(I:eU X pins σ H s)(h1 : -(2^62)≤hi)(h2:hi<2^62)(h3 : -(2^62)≤lo)(h4:lo<2^62)
  (q:R (IJ hi (hi-lo).toNat) H):wpAny (model X.prog X.w) X.A (pyIter (.ref s.heap.objs.size)) (L7 X pins σ tg R) E {s with heap:=s.heap.push {cls:=.type "range",data:=.fields #[.int hi t,.int lo u,.int (-1) v]},toks:=tk}:=by
 refine wpAny_pyIter_range (IsRange.new ..) (u6 h1 h2 h3 h4) ?_;have I1:eU X pins σ H {s with heap:=s.heap.push {cls:=.type "range",data:=.fields #[.int hi t,.int lo u,.int (-1) v]},toks:=tk}:=I.kept λb o e=>Heap.get?_push_of_some _ e;refine⟨(s.heap.push {cls:=.type "range",data:=.fields #[.int hi t,.int lo u,.int (-1) v]}).objs.size,[(s.heap.push {cls:=.type "range",data:=.fields #[.int hi t,.int lo u,.int (-1) v]}).objs.size],_,_,H,rfl,
  I1.kept (t':=tk) λb o e=>Heap.get?_push_of_some _ e,xX _ hi (hi-lo).toNat,?_,λb hb=>?_,q⟩
 ·have e1:hi+((0:Nat):Int)*(-1)=hi:=by simp
  have e2:(((hi-lo).toNat:Nat):Int)-((0:Nat):Int)=Builtin.Range.rangeSize hi lo (-1):=by rw[lC];split<;>lia
  show IsRangeIter _ _ (hi+((0:Nat):Int)*(-1)) ((((hi-lo).toNat:Nat):Int)-((0:Nat):Int)) (-1);rw[e1,e2];exact Heap.get?_push_size _ rfl
 ·have e:b=(s.heap.push {cls:=.type "range",data:=.fields #[.int hi t,.int lo u,.int (-1) v]}).objs.size:=by simpa using hb
  subst e;exact I1.fpOk (aC _) (I1.hok.fresh (aC _))
def qw(ta:TA):TI:=λσ H R=>ta σ H λvs H1=>∃i j:Int,vs=[.int i,.int j,.int (-1)]∧(-(2^62)≤i∧i<2^62∧-(2^62)≤j∧j<2^62)∧R (IJ i (i-j).toNat) H1
theorem lP(hg:Gl X "range")(hm:X.mg "range"=none)(ha:PA X [a,b,c] ta)(hs:starEach [a,b,c] X.env=[(false,eval a X.env),(false,eval b X.env),(false,eval c X.env)]:=by rfl)(hs2:starEach [b,c] X.env=[(false,eval b X.env),(false,eval c X.env)]:=by rfl):
  PI X tg (.Call (.Name "range" p) [a,b,c] [] pos) (qw ta):=by
 intro pins s σ H R I h;refine Call_ (jw I hg hm boot_range (bP (thn (ha pos pins s σ H _ I h) λus s1 ⟨vs,H1,I1,r1,q1⟩=>?_) (by rw[hs,hs2]) (by rw[hs2];rfl)));obtain⟨i,j,e,⟨q1,q2,q3,q4⟩,q⟩:=q1;subst e;cases r1 with
 | cons r rr=>
  cases rr with
  | cons r' rr=>
   cases rr with
   | cons r'' rr=>cases rr;obtain⟨t,rfl⟩:=r;obtain⟨t',rfl⟩:=r';obtain⟨t'',rfl⟩:=r'';exact call_range_3 (by decide) (vN I1 q1 q2 q3 q4 q) (.inl (cr (by decide)))
end
end L2
namespace PySem.W
open PySem PySem.Spec PySem.Calls PyProof.Rows
theorem AH:typeLookup (.type "list_reverseiterator") "__len__"=pure none:=by rw[typeLookup_type,builtinLookup_eq_fast];kernel_rfl
theorem AI:typeLookup (.type "list_reverseiterator") "__length_hint__"=pure (some (.builtin "list_reverseiterator.__length_hint__")):=by rw[typeLookup_type,builtinLookup_eq_fast];kernel_rfl
section
variable {prog:Program}{w:World}{A:Around}{E:Value→Shared→Prop}{s:Shared}{r l:Addr}{eL:Array Value}
theorem DJ(hT:s.TypeIs (.ref r) "list_reverseiterator")(h:Q false s):wpAny (model prog w) A (Builtin.List.listLengthHint (.ref r)) Q E s:=by
 unfold Builtin.List.listLengthHint;refine wpAny_bind (wpAny_specialOf hT AH ?_);refine wpAny_bind (wpAny_specialOf hT AI ?_);generalize hid:("list_reverseiterator.__length_hint__":String)=id0
 wp_delta
 rw[show splitId id0=some ("list_reverseiterator","__length_hint__")from by subst hid;decide+kernel];subst hid;refine wpAny_bind (wpAny_isInstance (T:="list_reverseiterator") (b:=true) hT (by rw[isSubtype_type];kernel_rfl) ?_);refine wpAny_ite_split (λhab=>absurd hab (by decide)) (λ_=>?_);refine wpAny_ite_split (λ_=>?_) (λhab=>absurd (by decide+kernel) hab);refine wpAny_ite_split (λhab=>absurd hab (by decide+kernel)) (λ_=>?_);exact wpAny_pure h
theorem x8(hh:A.handled=none)(hit:s.heap.IsRevIter r l ((eL.size:Int)-1))(hl:s.heap.IsList l eL)(S:Addr)(hSr:S≠r)(hSl:S≠l)(hlr:l≠r)(res:Value)(c₀:Nat)(hS:s.heap.get? S=some {cls:=.type "list",data:=.seq #[] c₀})
  (hR:∀h' tk acc' c',(∀b o,b≠S→b≠r→s.heap.get? b=some o→h'.get? b=some o)→h'.get? S=some {cls:=.type "list",dict:=none,data:=.seq acc' c',slots:=#[]}→ItemsOf (λi v=>eL[eL.size-1-i]?=some v) acc' eL.size→R (.ok (.ret res)) {s with heap:=h',toks:=tk}) (hn:eL.size≤sizeLine):
  wpAny (model prog w) A.in1 (Builtin.List.listExtendWith (.ref S) (.ref r) res)
   (λgi s'=>match gi with|.done f=>R (.ok f) s'|.again c'=>c'.quiet=true∧codeAny (model prog w) A c' R s') (λe s'=>R (.error e) s') s:=by
 have hSf:S∉[r,l]:=by simp only[aB,aF,or_false,not_or];exact⟨hSr,hSl⟩
 have W:=Walks.listRev (prog:=prog) (w:=w) (A:=A.in1) hh r l hlr eL;have hT:s.TypeIs (.ref r) "list_reverseiterator":=hit.typeIs;have st0:0≤eL.size∧s.heap.IsRevIter r l ((eL.size:Int)-1-((0:Nat):Int))∧s.heap.IsList l eL:=⟨aU _,by simpa using hit,hl⟩;unfold Builtin.List.listExtendWith;refine wpAny_bind (wpAny_typeOf (T:="list_reverseiterator") hT ?_);have h1:Builtin.List.listSameRef (.ref S) (.ref r)=false:=by simp[Builtin.List.listSameRef,hSr]
 simp only[h1,show(Value.type "list_reverseiterator"==Value.type "list")=false from by decide+kernel,show(Value.type "list_reverseiterator"==Value.type "tuple")=false from by decide+kernel,Bool.or_false,Bool.false_eq_true,if_false];refine wpAny_bind (wpAny_pyIter_revIter hit ?_);refine wpAny_bind (wpAny_holding (DJ hT ?_));refine wpAny_ite_split (λhab=>absurd hab (by decide)) (λ_=>wpAny_pure ⟨plainId_quiet PySem.F.plain_extend_loop _,?_⟩);refine codeAny_extend_loopS W.toS hn S hSf res eL.size 0 _ #[] c₀ rfl (aU _) st0 hS (ItemsOf.nil _) λs' acc' c' hm hS' hacc=>?_;rw[Moved.eq_with hm];refine hR s'.heap s'.toks acc' c' (λb o hb hbr e=>hm.heap b o (λhmem=>?_) e) hS' hacc;rcases aB.mp hmem with e'|hmem
 ·exact hb e'
 ·exact hbr (aG.mp hmem)
theorem DI(hh:A.handled=none)(hit:s.heap.IsRevIter r l ((eL.size:Int)-1))(hl:s.heap.IsList l eL)(S:Addr)(hSr:S≠r)(hSl:S≠l)(hlr:l≠r)(hS:s.heap.get? S=some {cls:=.type "list",data:=.seq #[]})
  (hR:∀h' tk acc' c',(∀b o,b≠S→b≠r→s.heap.get? b=some o→h'.get? b=some o)→h'.get? S=some {cls:=.type "list",dict:=none,data:=.seq acc' c',slots:=#[]}→ItemsOf (λi v=>eL[eL.size-1-i]?=some v) acc' eL.size→R (.ok (.ret .none)) {s with heap:=h',toks:=tk}) (hn:eL.size≤sizeLine):
  wpAny (model prog w) A.in1 (Builtin.«list.__init__» ⟨[.ref S,.ref r],[]⟩)
   (λgi s'=>match gi with|.done f=>R (.ok f) s'|.again c'=>c'.quiet=true∧codeAny (model prog w) A c' R s') (λe s'=>R (.error e) s') s:=by
 show wpAny _ _ (do let old ← Builtin.List.listItems (.ref S);Builtin.List.listUpdate (.ref S) (λ_=>#[]);letGo old.toList.reverse;Builtin.List.listExtendWith (.ref S) (.ref r) .none) _ _ s;refine wpAny_bind ?_;unfold Builtin.List.listItems;refine wpAny_bind (wpAny_seqItems hS rfl (wpAny_pure ?_));show wpAny _ _ (updateSeq S (λ_=>#[]) >>= λ_=>letGo (#[]:Array Value).toList.reverse >>= λ_=>Builtin.List.listExtendWith (.ref S) (.ref r) .none) _ _ s;refine wpAny_bind (wpAny_updateSeq hS rfl ?_);have hS₂:=Heap.get?_update_self (Obj.mapSeq (λ_=>(#[]:Array Value))) hS rfl;have oth:∀b o,b≠S→s.heap.get? b=some o→(s.heap.update S (Obj.mapSeq (λ_=>(#[]:Array Value)))).get? b=some o:=
  λb o hb e=>(Heap.get?_update_other _ _ (af hb)).trans e
 refine wpAny_bind (wpAny_letGo ?_);refine x8 hh (hit.at λo e=>oth r o hSr.symm e) (hl.at λo e=>oth l o hSl.symm e) S hSr hSl hlr .none _ hS₂ (λh' tk acc' c' hk hS' hacc=>?_) hn;exact hR h' tk acc' c' (λb o hb hbr e=>hk b o hb hbr (oth b o hb e)) hS' hacc
theorem rv_call(hh:A.handled=none)(hit:s.heap.IsRevIter r l ((eL.size:Int)-1))(hl:s.heap.IsList l eL)(hlr:l≠r)(hn:eL.size≤sizeLine)
  (hQ:∀h' tk acc' c',(∀b o,b≠r→s.heap.get? b=some o→h'.get? b=some o)→h'.get? s.heap.objs.size=some {cls:=.type "list",dict:=none,data:=.seq acc' c',slots:=#[]}→ItemsOf (λi v=>eL[eL.size-1-i]?=some v) acc' eL.size→Q (.ref s.heap.objs.size) {s with heap:=h',toks:=tk}):
  wpAny (model prog w) A (call (.type "list") [.ref r]) Q E s:=by
 refine callType_codes (Q₁:=λobj s₁=>obj=.ref s.heap.objs.size∧s₁={s with heap:=s.heap.push {cls:=.type "list",data:=.seq #[]}}) PySem.F.called_list (PySem.F.typeCall_list_1 _) PySem.F.entry_list_init
  (code_list_new _ ⟨rfl,rfl⟩) λobj s₁ h₁=>?_
 obtain⟨rfl,rfl⟩:=h₁;have hS:(s.heap.push {cls:=.type "list",data:=.seq #[]}).get? s.heap.objs.size=some {cls:=.type "list",data:=.seq #[]}:=Heap.get?_push_size _ rfl;have lr:r<s.heap.objs.size:=by obtain⟨o,e,_⟩:=hit;exact Heap.lt_size e
 have ll:l<s.heap.objs.size:=by obtain⟨o,e,_⟩:=hl;exact Heap.lt_size e
 refine⟨⟨_,hS,rfl⟩,PySem.F.args_list_init_2 _ _,DI (A:=A.in1) hh (hit.at λo e=>Heap.get?_push_of_some _ e) (hl.at λo e=>Heap.get?_push_of_some _ e) _ (bD lr) (bD ll) hlr hS (λh' tk acc' c' hk hS' hacc=>?_) hn⟩;exact⟨rfl,hQ h' tk acc' c' (λb o hbr e=>hk b o (aL (Heap.lt_size e)) hbr (Heap.get?_push_of_some _ e)) hS' hacc⟩
end
end PySem.W
namespace L2
open PySem PySem.Spec PyProof.Rows
section
variable {X:Cx}
theorem mP:∀{xs:List V}{us:List Value},fG xs us→fG xs.reverse us.reverse
 | _,_,.nil=>.nil
 | _,_,.cons r t=>by rw[ay,ay];exact(mP t).append (.cons r .nil)
def zp(K:aA)(tl:TE):TE:=λσ H Q=>tl σ H λx H1=>∃a xs,[x]=[V.ref a]∧eK K H1 a xs∧ku H1 (.lst xs.reverse) Q
theorem wZ(hc:X.calm=true)(hgl:Gl X "list")(hml:X.mg "list"=none)(hgr:Gl X "reversed")(hmr:X.mg "reversed"=none)(he:PE X e tl)(h1:starEach [e] X.env=[(false,eval e X.env)]:=by rfl)
  (h2:starEach [.Call (.Name "reversed" p1) [e] [] p2] X.env=[(false,eval (.Call (.Name "reversed" p1) [e] [] p2) X.env)]:=by rfl):
  PE X (.Call (.Name "list" q1) [.Call (.Name "reversed" p1) [e] [] p2] [] q2) (zp X.K tl):=by
 intro pins s σ H Q I h;refine wpAny_Call_Name_kw (jw I hgl hml kf ?_);have h2':starEach (.Call (.Name "reversed" p1) [e] [] p2::[]) X.env=(false,eval (.Call (.Name "reversed" p1) [e] [] p2) X.env)::starEach [] X.env:=h2;refine bP ?_ h2' (by rfl);rw[h2];refine Calls.spliced_cons ?_;refine wpAny_Call_Name_kw (jw I hgr hmr oP ?_);have h1':starEach (e::[]) X.env=(false,eval e X.env)::starEach [] X.env:=h1;refine bP (thn ((dz he fb h1':PA X [e] (dM tl dW)) p2 pins s σ H (λvs H1=>∃a xs,vs=[V.ref a]∧eK X.K H1 a xs∧ku H1 (.lst xs.reverse) Q) I h) λus s1 ⟨vs,H1,I1,r1,q1⟩=>?_) h1' (by rfl);obtain⟨a,xs,rfl,hq,q⟩:=q1;obtain⟨u,rfl,ru⟩:=k9 r1;cases ru;obtain⟨its,rv,p,hz⟩:=I1.list hq;refine call_reversed_list p.isList ?_;refine Calls.spliced_nil ?_;have hlt:a<s1.heap.objs.size:=by obtain⟨o,eo,_⟩:=p.isList;exact Heap.lt_size eo
 refine PySem.W.rv_call (l:=a) (eL:=its.toArray) (I1.ok.hd hc) ⟨_,Heap.get?_push_size _ rfl,rfl,rfl⟩ (p.isList.at λo eo=>Heap.get?_push_of_some _ eo) (aL hlt) (by simpa[←rv.length]using hz) λh' tk acc' c' hk hD hacc=>?_;have hsz:(s1.heap.push (revObj a ((its.toArray.size:Int)-1))).objs.size=s1.heap.objs.size+1:=Heap.size_push _ _;have hvals:fG xs.reverse acc'.toList:=by
  have e:acc'.toList=its.reverse:=by
   apply List.ext_getElem?;intro i;have hs:acc'.size=its.length:=by simpa using hacc.1
   by_cases hi:i<its.length
   ·have h1:acc'[i]?=some acc'[i]:=by simp[hs,hi]
    have h2:=hacc.2 i _ h1;rw[cS,h1,List.getElem?_reverse hi];simpa using h2.symm
   ·rw[dF (by simp[hs];lia),dF (by simp;lia)]
  rw[e];exact mP rv
 refine⟨.ref (s1.heap.push (revObj a ((its.toArray.size:Int)-1))).objs.size,_,I1.laid (a:=(s1.heap.push (revObj a ((its.toArray.size:Int)-1))).objs.size) (o:=.lst xs.reverse) (h':=h') (t':=tk) (λb o eo=>hk b o (aL (Heap.lt_size eo)) (Heap.get?_push_of_some _ eo)) (by rw[hsz];lia) ⟨by simpa using hz,acc'.toList,c',hvals,by simpa using hD⟩,rfl,q _ (I1.hok.fresh (by rw[hsz];lia))⟩
end
end L2
namespace L2
open PySem PySem.Spec PyProof.Rows
section
variable {X:Cx}
def ph(K:aA):R2:=λx y H Q=>∃a b xs ys,x=.ref a∧y=.ref b∧eC K H a xs∧eC K H b ys∧xs.length+ys.length≤sizeLine∧
 (xs=[]→Q (.ref b) H)∧(xs≠[]→ys=[]→Q (.ref a) H)∧(xs≠[]→ys≠[]→ku H (.tup (xs++ys)) Q)
theorem rm:mM X (binaryOp .Add) (ph X.K):=by
 intro pins s σ H x y v u Q I rx ry h;obtain⟨a,b,xs,ys,rfl,rfl,ha,hb,hz,q0,q1,q2⟩:=h;by_cases hx:xs=[]
 ·subst hx;cases rx;cases ry;obtain⟨its,r1,p1,_⟩:=I.tuple ha;obtain⟨its2,r2,p2,_⟩:=I.tuple hb;cases r1;obtain⟨⟨cls,dd,data,sl⟩,ho,hc,n,hd⟩:=id p1;obtain⟨⟨cls2,dd2,data2,sl2⟩,ho2,hc2,n2,hd2⟩:=id p2;simp only at hc hd hc2 hd2;subst hc hd hc2 hd2;exact concat_meets ⟨_,ho,rfl⟩ ⟨_,ho2,rfl⟩ noFill_tuple_add seq_tuple_add cP cQ (cR _ _)
   (tuple_addW0 a b #[] its2.toArray n n2 dd dd2 sl sl2 rfl) ⟨ho,ho2,.ref b,H,I,rfl,q0 rfl⟩
 ·exact Df pins s σ H _ _ v u Q I rx ry ⟨a,b,xs,ys,rfl,rfl,ha,hb,hx,hz,q1 hx,q2 hx⟩
end
end L2
namespace PySem
section
variable {prog:Program}{w:World}{A:Around}{E:Value→Shared→Prop}{s:Shared}
theorem Bz{c t:Addr}{j:Nat}{its}{v:Value}{Q:Value→Shared→Prop}(hc:s.heap.IsTupleIter c t j)(ht:s.heap.IsTuple t its)(hv:its[j]?=some v)
  (hQ:∀k,k.IsTupleIter c t (j+1)→Heap.SameBut c s.heap k→Q v {s with heap:=k}):wpAny (model prog w) A (Builtin.SmallTypes.nextOf (.ref c)) Q E s:=by
 obtain⟨ob,h1,h2,h3⟩:=id hc;obtain⟨ot,h4,_,m,h5⟩:=ht;unfold Builtin.SmallTypes.nextOf;refine wpAny_bind (wpAny_callSpecial?_slot (name:=Str.ofString "__next__") hc.typeIs F.slot_tuple_iterator_next (wpAny_call_entry F.slot_tuple_iterator_next hc.typeIs F.entry_tuple_iterator_next ?_ (F.args_tuple_iterator_next_1 _)));show wpAny _ _ (field (.ref c) 0 >>= _) _ _ s;refine wpAny_bind (wpAny_field h1 h3 (x:=.ref t) rfl ?_);show wpAny _ _ (if(Value.ref t==Value.none)=true then _ else _) _ _ s;rw[if_neg (show ¬(Value.ref t==Value.none)=true from aP)];show wpAny _ _ (field (.ref c) 1 >>= _) _ _ s;refine wpAny_bind (wpAny_field h1 h3 (x:=.int j 0) rfl ?_);show wpAny _ _ (seqItems? (.ref t) >>= _) _ _ s;refine wpAny_bind (wpAny_seqItems h4 h5 ?_);simp only[bc,hv];refine wpAny_bind (wpAny_setField h1 h3 (by simp) (wpAny_pure ⟨v,rfl,wpAny_pure (hQ _ ?_ (Heap.SameBut.update ..))⟩));exact⟨_,Heap.get?_update_self _ h1 (Obj.isFreed_of_fields (Obj.data_mapFields h3 _)),(Obj.cls_mapFields ..).trans h2,by rw[Obj.data_mapFields h3];simp[rawInt]⟩
theorem By{c t:Addr}{j:Nat}{its}{Q:Value→Shared→Prop}(hh:A.handled=none)(hc:s.heap.IsTupleIter c t j)(ht:s.heap.IsTuple t its)(hv:its[j]?=none)
  (hE:∀k e,Heap.ExtBut c s.heap k→(∃o,k.get? e=some o∧o.cls=.type "StopIteration")→E (.ref e) {s with heap:=k}):wpAny (model prog w) A (Builtin.SmallTypes.nextOf (.ref c)) Q E s:=by
 obtain⟨ob,h1,h2,h3⟩:=id hc;obtain⟨ot,h4,_,m,h5⟩:=ht;unfold Builtin.SmallTypes.nextOf;refine wpAny_bind (wpAny_callSpecial?_slot (name:=Str.ofString "__next__") hc.typeIs F.slot_tuple_iterator_next (wpAny_call_entry F.slot_tuple_iterator_next hc.typeIs F.entry_tuple_iterator_next ?_ (F.args_tuple_iterator_next_1 _)));show wpAny _ _ (field (.ref c) 0 >>= _) _ _ s;refine wpAny_bind (wpAny_field h1 h3 (x:=.ref t) rfl ?_);show wpAny _ _ (if(Value.ref t==Value.none)=true then _ else _) _ _ s;rw[if_neg (show ¬(Value.ref t==Value.none)=true from aP)];show wpAny _ _ (field (.ref c) 1 >>= _) _ _ s;refine wpAny_bind (wpAny_field h1 h3 (x:=.int j 0) rfl ?_);show wpAny _ _ (seqItems? (.ref t) >>= _) _ _ s;refine wpAny_bind (wpAny_seqItems h4 h5 ?_);simp only[bc,hv];refine wpAny_bind (wpAny_rule (wpAny_bind (wpAny_setField h1 h3 (by simp) ?_)));show wpAny _ _ (newExc (.type "StopIteration") [] >>= _) _ _ _;refine wpAny_bind ?_;simp only[newExc,newTuple];refine wpAny_bind (wpAny_newObj_type ?_ (by size_fits));refine wpAny_bind (m:=firstArgMember _ _) (wpAny_of_eq (a:=.none) (by first|rfl|(simp only[firstArgMember];rfl)) ?_);refine wpAny_newObj_type ?_ (by size_fits);simp only[raiseNew];refine wpAny_bind (wpAny_handled ?_)
 first|rw[show A.in1.handled=none from hh]|rw[hh]
 refine wpAny_bind (wpAny_pure (wpAny_throw ?_));exact hE _ _ (((Heap.SameBut.update ..).extBut.push _).push _) ⟨_,Heap.get?_push_size _ rfl,rfl⟩
end
section
variable {prog:Program}{w:World}{A:Around}{E:Value→Shared→Prop}{s:Shared}
end
end PySem
namespace L2
open PySem PySem.Spec PyProof.Rows
section
variable {X:Cx}{pins:List (Addr×Obj)}{σ:List (Option V)}{H:Hp}{s:Shared}{h':Heap}
theorem eU.turnedN{t':Nat}{fp:List Addr}{a:Addr}{o:HO}(I:eU X pins σ H s)(hf:∀b∈fp,oX X pins H b)(k:∀b u,b∉fp→s.heap.get? b=some u→h'.get? b=some u)(hp:s.heap.objs.size≤a)
  (new:gB X.prog X.w (upd H a o) h' a o):eU X pins σ (upd H a o) {s with heap:=h',toks:=t'}:=by
 have hn:=I.hok.fresh hp;have nfp:∀b u,H b=some u→b∉fp:=λb u e z=>by rw[(hf b z).1]at e;cases e
 have na:∀b u,s.heap.get? b=some u→b≠a:=λb u e=>aL (aX (Heap.lt_size e) hp);have up:∀b u,H b=some u→upd H a o b=some u:=λb u e=>by rw[db (dZ e hn)];exact e
 refine I.step (g':=s.gens) (d':=s.drawn) (ch:=fp) (λb hb=>?_) (λb u _ _ hc e _=>k b u hc e) (λb u _ _ hc e _=>⟨u.slots,k b u hc e⟩) (λb u _ e n=>by rw[db (na b u e)];exact n)
  (λb u hc e=>⟨u,k b u hc e⟩) (λb _ e=>up b _ e) (λb _ _ e=>up b _ e) (λb ps e=>⟨#[],by rw[up b _ e];simp⟩) (λm hm=>?_) (λb u e=>?_) I.bare
 ·obtain⟨_,h1,_,h3,h4,h5⟩:=hf b hb;exact⟨h3,h1,h4,h5⟩
 ·obtain⟨u,es,ep,ho,r⟩:=hm;exact⟨u,es,ep,k _ u (λz=>(hf _ z).2.1 rfl) ho,r⟩
 ·by_cases hb:b=a
  ·subst hb;rw[dO]at e;cases e;exact new
  ·rw[db hb]at e;refine(I.hok b u e).stay (λc v hc q=>k c v ?_ q) (λc q=>up c _ q) λc xs q=>up c _ q;rcases hc with z|z
   ·rw[z];exact nfp b u e
   ·exact nfp c _ z
theorem eU.turnedL{t':Nat}{fp:List Addr}(I:eU X pins σ H s)(hf:∀b∈fp,oX X pins H b)(k:∀b u,b∉fp→s.heap.get? b=some u→h'.get? b=some u):eU X pins σ H {s with heap:=h',toks:=t'}:=by
 have nfp:∀b u,H b=some u→b∉fp:=λb u e z=>by rw[(hf b z).1]at e;cases e
 refine I.step (g':=s.gens) (d':=s.drawn) (ch:=fp) (λb hb=>?_) (λb u _ _ hc e _=>k b u hc e) (λb u _ _ hc e _=>⟨u.slots,k b u hc e⟩) (λb u _ e n=>n)
  (λb u hc e=>⟨u,k b u hc e⟩) (λb _ e=>e) (λb _ _ e=>e) (λb ps e=>⟨#[],by rw[e];simp⟩) (λm hm=>?_) (λb u e=>?_) I.bare
 ·obtain⟨_,h1,_,h3,h4,h5⟩:=hf b hb;exact⟨h3,h1,h4,h5⟩
 ·obtain⟨u,es,ep,ho,r⟩:=hm;exact⟨u,es,ep,k _ u (λz=>(hf _ z).2.1 rfl) ho,r⟩
 ·refine(I.hok b u e).stay (λc v hc q=>k c v ?_ q) (λc q=>q) λc xs q=>q;rcases hc with z|z
  ·rw[z];exact nfp b u e
  ·exact nfp c _ z
end
theorem Hm:bootBuiltins "zip"=some (.type "zip"):=by decide+kernel
section
variable {X:Cx}{es:List Expr}{x1:Nat}{tp:Pos}
end
structure iX(X:Cx)(scope:Scope)(cl:List (Str×Addr))(xs ys:List Str)(js:List Nat):Prop where
 clos:closureFor scope X.env=pure cl
 ncell:∀y∈scope.names,y.2≠.cell
 kind:scope.kind=.function
 names:∀y∈scope.names,y.2=.local→scope.names.lookup y.1=some .local
 cells:∀y c,cl.lookup y=some c→X.env.cells.lookup y=some c
 has:∀y,((relabel scope X.env).names.lookup y=some .cell∨(relabel scope X.env).names.lookup y=some .free)→∃c,cl.lookup y=some c
 free:∀(k:Nat)(y:Str),ys[k]?=some y→∃j:Nat,js[k]?=some j∧X.N[j]?=some y∧X.env.scope.names.lookup y=some .cell∧((relabel scope X.env).names.lookup y=some .cell∨(relabel scope X.env).names.lookup y=some .free)
 len:js.length=ys.length
section
variable {X:Cx}{pins:List (Addr×Obj)}{σ:St}{H:Hp}{s:Shared}{scope:Scope}{cl:List (Str×Addr)}{xs ys:List Str}{js:List Nat}{fp:List Addr}{C D:Addr}{h':Heap}
theorem eU.compOkT(I:eU X pins σ H s)(S:iX X scope cl xs ys js)(hf:∀b∈fp,oX X pins H b)(hfb:∀b∈fp,b<s.heap.objs.size)(hC:s.heap.objs.size≤C):(gX X scope cl (xs++ys) fp s H C).Ok where
 mod:=I.ok.mod
 kind:=S.kind
 glob:=I.ok.glob
 blt:=I.ok.blt
 above:=hC
 inj:=λy z c h1 h2=>I.ok.inj y z c (S.cells y c h1) (S.cells z c h2)
 has:=λy h=>S.has y h
 cab:=λ_ _ h=>by cases h
 hd:=I.ok.hd
 frames:=I.ok.frames
 stk:=.inl rfl
 exf:=λb hb=>by obtain⟨_,h1,_,h3,h4,_⟩:=hf b hb;exact⟨aL (aX (hfb b hb) hC),λy c e=>h4 y c (S.cells y c e)⟩
 bs:=I.bs
 bsz:=aW I.ok.bsz I.sz
 noex:=λb o e hb=>by
  obtain⟨_,_,_,h3,_⟩:=hf b hb;rcases h3 with z|z
  ·exact I.ok.noex b o e z
  ·exact absurd (aX (Heap.lt_size e) (aW I.ok.bsz z)) (bU _)
 exfs:=λb hb z=>by
  obtain⟨_,h1,h2,_⟩:=hf b hb;rcases aB.mp (I.stkSub b z)with e|e
  ·exact h1 e
  ·exact h2 e
 funs:=I.stack
 frf:=I.stkFree
theorem eU.compInT(I:eU X pins σ H s)(S:iX X scope cl xs ys js)(hf:∀b∈fp,oX X pins H b)(hfb:∀b∈fp,b<s.heap.objs.size)(hC:s.heap.objs.size≤C)(hD:s.heap.objs.size≤D)(hDC:D≠C)
  (keep:∀b o,s.heap.get? b=some o→h'.get? b=some o) (ns:h'.Ns C m) (ho:h'.get? D=some (me [] n)):
  eU (gX X scope cl (xs++ys) fp s H C) ((X.pn++pins)++[(D,me [] n)]) (List.replicate xs.length none++BM σ js) H {s with heap:=h',toks:=t'} where
 ok:=I.compOkT S hf hfb hC
 os:=rfl
 bare:=I.bare
 base:=Un.kept keep
 loc:=by
  refine⟨m,ns,λi y v e1 e2 e3=>?_⟩;have e1:(xs++ys)[i]?=some y:=e1;by_cases hi:i<xs.length
  ·rw[ax (by simpa using hi),cy,if_pos hi]at e2;cases e2
  ·obtain⟨k,rfl⟩:∃k,i=xs.length+k:=⟨i-xs.length,by lia⟩;rw[bL (by lia),dG]at e1;rw[bL (by simp),cO,dG]at e2;obtain⟨j,hj,hN,hk,hk2⟩:=S.free k y e1;have e4:σ[j]?=some (some v):=by
    unfold BM at e2;rw[ae,hj]at e2;have e2:σ.getD j none=some v:=Option.some.inj e2;rw[List.getD_eq_getElem?_getD]at e2;cases q:σ[j]? with
    | none=>rw[q]at e2;cases e2
    | some z=>rw[q]at e2;exact congrArg some e2
   obtain⟨m0,hn0,hl⟩:=I.loc;obtain⟨u,ru,l⟩:=hl j y v hN e4 (.inr (.inl hk));refine⟨u,ru,.inr ⟨hk2,?_⟩⟩;obtain⟨c,hc⟩:=S.has y hk2;rcases l with⟨z,_⟩|⟨_,c',hc',hcell⟩
   ·have z:X.env.scope.names.lookup y=some .local:=z;rw[hk]at z;cases z
   ·have q:=S.cells y c hc;rw[hc']at q;cases q;obtain⟨oc,a1,a2⟩:=hcell;exact⟨_,hc,oc,keep _ _ a1,a2⟩
 cell:=λy c e=>by obtain⟨v,oc,a1,a2⟩:=I.cell y c (S.cells y c e);exact⟨v,oc,keep _ _ a1,a2⟩
 free:=I.hok.fresh hC
 freeC:=λy c e=>I.freeC y c (S.cells y c e)
 pin:=λp hp=>by
  rcases aV.mp (show p∈(X.pn++pins)++[(D,me [] n)]from hp)with z|z
  ·obtain⟨e,nn,ne,nf,d⟩:=I.pin p z;exact⟨keep _ _ e,nn,aL (aX (Heap.lt_size e) hC),I.nostk ne nf,d⟩
  ·rw[aG]at z;subst z;exact⟨ho,I.hok.fresh hD,hDC,I.nostk (bD (aX I.lt hD)) (I.nofs hD),λv z=>by cases(show Data.seq _ _=Data.cell v from z)⟩
 hok:=I.hok.kept keep
 len:=by simp[BM,gX,S.len]
end
section
variable {prog:Program}{w:World}{A:Around}{s:Shared}{R:Result→Shared→Prop}
end
def Ie(wi:TI)(g:TG)(te:TE)(js:List Nat):TE:=λσ H Q=>wi σ H λJ H1=>∃W:Nat→Nat→List V→Hp→Prop,(∃m,W 0 m [] H1)∧∀i m vs H,W i m vs H→
 (J.stop i H∧vs.length≤sizeLine∧ku H (.lst vs) Q)∨
 (J.go i H∧∀x H',J.yld i H x H'→∀o1 o2,g x (o1::o2::BM σ js) H' λσ2 H2=>(∃o1 o2,σ2=o1::o2::BM σ js)∧te σ2 H2 λy H''=>vs.length<sizeLine∧∃m',m'<m∧W (i+1) m' (vs++[y]) H'')
end L2
namespace L2
open PySem PySem.Spec PyProof.Rows
def yh(K:aA)(a b:Addr):It:=
  ⟨λi H=>∃xs ys x y,eK K H a xs∧eK K H b ys∧xs[i]?=some x∧ys[i]?=some y,
   λi H v H'=>∃p x y,v=.ref p∧H p=none∧H'=upd H p (.tup [x,y])∧(∀xs,eK K H a xs→xs[i]?=some x)∧∀ys,eK K H b ys→ys[i]?=some y,
   λi H=>∃xs ys,eK K H a xs∧eK K H b ys∧xs.length≤i⟩
theorem xU{P:Program}{w:World}{K:aA}{es:List Expr}{x1}{pos:Pos}{z p q c d a b:Addr}(D:ZipApart z p q c d a b):uf P w K (.Tuple es x1 pos) (yh K a b) [z,p,q,c,d] z
  (λi h=>IsZip h z p q .none∧IsPair h p (.ref c) (.ref d)∧(∃u v,IsPair h q u v)∧h.IsListIter c a i∧h.IsListIter d b i) where
 mem:=by simp
 obj:=λi h st b hb=>by
  obtain⟨hz,hp,⟨u,v,hq⟩,⟨oc,ec,_,dc⟩,⟨od,ed,_,dd⟩⟩:=st;simp only[aB,aF,or_false]at hb;rcases hb with rfl|rfl|rfl|rfl|rfl
  ·exact⟨_,hz,λv e=>by cases(show Data.fields _=Data.cell v from e)⟩
  ·exact⟨_,hp,λv e=>by cases(show Data.seq _ _=Data.cell v from e)⟩
  ·exact⟨_,hq,λv e=>by cases(show Data.seq _ _=Data.cell v from e)⟩
  ·exact⟨oc,ec,λv e=>by rw[dc]at e;cases e⟩
  ·exact⟨od,ed,λv e=>by rw[dd]at e;cases e⟩
 keep:=λi h h' st k=>by obtain⟨hz,hp,⟨u,v,hq⟩,⟨oc,ec,rc⟩,⟨od,ed,rd⟩⟩:=st;exact⟨k z (by simp) _ hz,k p (by simp) _ hp,⟨u,v,k q (by simp) _ hq⟩,⟨oc,k c (by simp) _ ec,rc⟩,⟨od,k d (by simp) _ ed,rd⟩⟩
 item:=by
  intro X hP hw hK hc i pins s σ H E I hf st hg;subst hP hw hK;obtain⟨hz,hp,⟨u0,v0,hq⟩,h1,h2⟩:=st;obtain⟨xs,ys,x,y,hxs,hys,hx,hy⟩:=hg;obtain⟨its,rv,pa,za⟩:=I.list hxs;obtain⟨jts,rw',pb,zb⟩:=I.list hys;obtain⟨u,hu,ru⟩:=rv.get hx;obtain⟨v,hv,ru'⟩:=rw'.get hy;refine wpAny_pyNext_zip_item D hz hp hq h1 h2 pa.isList pb.isList (x:=u) (y:=v) (by simpa using hu) (by simpa using hv) λg g1 g2 g3 g4 g5 g6 g7=>?_;refine⟨_,rfl,wpAny_letOwnedTupleGo_zip g1 λg' z' sb=>?_⟩;replace sb:Heap.SameBut z g g':=sb;have zl:z<s.heap.objs.size:=Heap.lt_size hz;have kk:∀b u,b∉[z,p,q,c,d]→s.heap.get? b=some u→g'.get? b=some u:=λb u hb e=>by simp only[aB,aF,or_false,not_or]at hb;exact sb.extBut _ _ hb.1 (g7 b u hb.1 hb.2.2.1 hb.2.2.2.1 hb.2.2.2.2 e)
  have pT:IsPair g' s.heap.objs.size u v:=sb.extBut _ _ (bD zl) g5;have new:gB X.prog X.w (upd H s.heap.objs.size (.tup [x,y])) g' s.heap.objs.size (.tup [x,y]):=⟨(by show 2≤sizeLine;rw[sizeLine_eq];decide),[u,v],.cons ru (.cons ru' .nil),_,pT,rfl,_,rfl⟩;have I1:eU X pins σ (upd H s.heap.objs.size (.tup [x,y])) {s with heap:=g'}:=I.turnedN (t':=s.toks) hf kk (aC _) new;obtain⟨oc,ec,rc⟩:=g3;obtain⟨od,ed,rd⟩:=g4;refine⟨.ref s.heap.objs.size,_,I1,rfl,⟨s.heap.objs.size,x,y,rfl,I.hok.fresh (aC _),rfl,λzs hzs=>by rw[I.list_inj hzs hxs];exact hx,λzs hzs=>by rw[I.list_inj hzs hys];exact hy⟩,
   ⟨z',sb.extBut _ _ D.TIz (g7 p _ D.TIz D.TITO D.TIi1 D.TIi2 hp),⟨u,v,sb.extBut _ _ D.TOz g2⟩,⟨oc,sb.extBut _ _ D.i1z ec,rc⟩,⟨od,sb.extBut _ _ D.i2z ed,rd⟩⟩,λb hb=>?_⟩
  have hbn:=(hf b hb).1;have:b≠s.heap.objs.size:=by
   have st0:∀b∈[z,p,q,c,d],b<s.heap.objs.size:=by
    intro b hb;simp only[aB,aF,or_false]at hb;rcases hb with rfl|rfl|rfl|rfl|rfl
    ·exact Heap.lt_size hz
    ·exact Heap.lt_size hp
    ·exact Heap.lt_size hq
    ·obtain⟨_,e,_⟩:=h1;exact Heap.lt_size e
    ·obtain⟨_,e,_⟩:=h2;exact Heap.lt_size e
   exact aL (st0 b hb)
  rw[db this];exact hbn
 done:=by intro X hP hw hK hc i pins s σ H E I hf st hg;subst hP hw hK;obtain⟨hz,hp,⟨u0,v0,hq⟩,h1,h2⟩:=st;obtain⟨xs,ys,hxs,hys,hl⟩:=hg;obtain⟨its,rv,pa,za⟩:=I.list hxs;obtain⟨jts,rw',pb,zb⟩:=I.list hys;have hlen:=rv.length;refine wpAny_pyNext_zip_end (I.ok.hd hc) D hz hp hq h1 h2 pa.isList pb.isList (.inl (by simp;lia)) λg kg=>⟨rfl,I.turnedL (t':=s.toks) hf λb u hb e=>?_⟩;simp only[aB,aF,or_false,not_or]at hb;exact kg b u hb.1 hb.2.2.1 hb.2.2.2.1 hb.2.2.2.2 e
 self:=λ_ _ _ _ _ st h=>wpAny_pyIter_zip st.1 h
def BJ(K:aA)(ta tb:TE):TI:=λσ H R=>ta σ H λx H1=>tb σ H1 λy H2=>∃a b xs ys,[x,y]=[V.ref a,V.ref b]∧eK K H2 a xs∧eK K H2 b ys∧R (yh K a b) H2
section
variable {X:Cx}{es:List Expr}{x1:Nat}{tp:Pos}
theorem DS{l r:Expr}{ta tb:TE}{np pos:Pos}(hg:Gl X "zip")(hm:X.mg "zip"=none)(ha:PE X l ta)(hb:PE X r tb)(he:starEach [l,r] X.env=[(false,eval l X.env),(false,eval r X.env)]:=by rfl)(he2:starEach [r] X.env=[(false,eval r X.env)]:=by rfl):
  PI X (.Tuple es x1 tp) (.Call (.Name "zip" np) [l,r] [] pos) (BJ X.K ta tb):=by
 intro pins s σ H R I h;refine wpAny_Call_Name_kw (jw I hg hm Hm ?_);have h2:starEach (r::[]) X.env=(false,eval r X.env)::starEach [] X.env:=he2;have h1:starEach (l::[r]) X.env=(false,eval l X.env)::starEach [r] X.env:=by rw[he,he2]
 refine bP (thn ((dz ha (dz hb fb h2) h1:PA X [l,r] (dM ta (dM tb dW))) pos pins s σ H (λvs H2=>∃a b xs ys,vs=[V.ref a,V.ref b]∧eK X.K H2 a xs∧eK X.K H2 b ys∧R (yh X.K a b) H2) I h) λus s1 ⟨vs,H1,I1,r1,q1⟩=>?_) h1 (by rw[he2];rfl);obtain⟨a,b,xs,ys,rfl,hxs,hys,q⟩:=q1;obtain⟨u,v,rfl,ru,rv⟩:=fG.two r1;cases ru;cases rv;obtain⟨its,rva,pa,_⟩:=I1.list hxs;obtain⟨jts,rvb,pb,_⟩:=I1.list hys;refine call_zip_2 pa.isList pb.isList λg g1 g2 g3 g4 g5 g6 g7=>?_;have hla:a<s1.heap.objs.size:=by obtain⟨_,e,_⟩:=pa.isList;exact Heap.lt_size e
 have hlb:b<s1.heap.objs.size:=by obtain⟨_,e,_⟩:=pb.isList;exact Heap.lt_size e
 generalize en:s1.heap.objs.size=n at *;refine wpAny_pyIter_zip g1 ?_;refine⟨n+4,[n+4,n+2,n+3,n,n+1],_,_,H1,rfl,I1.kept (t':=s1.toks) g7,xU (PyProof.Rows.zipApart_new hla hlb),⟨g1,g2,⟨_,_,g3⟩,g4,g5⟩,λc hc=>?_,q⟩;have:s1.heap.objs.size≤c:=by
  simp only[aB,aF,or_false]at hc;rw[en];rcases hc with e|e|e|e|e<;>rw[e]
  ·exact bn n 4
  ·exact bn n 2
  ·exact bn n 3
  ·exact aC n
  ·exact bn n 1
 exact I1.fpOk this (I1.hok.fresh this)
end
end L2
namespace PySem
open AutoSeq1 (wpAny_loadPart')
section
variable {prog:Program}{w:World}{A:Around}{E:Value→Shared→Prop}{s:Shared}
theorem Dy{e c t:Addr}{j:Nat}{xs:Array Value}{x old:Value}{Q:Value→Shared→Prop}(he:IsEnum s.heap e c j old)(hc:s.heap.IsTupleIter c t j)(ht:s.heap.IsTuple t xs)(hx:xs[j]?=some x)(hne:e≠c)
  (hQ:∀g,IsEnumOut g e c ((j:Int)+1) x s.heap.objs.size→g.IsTupleIter c t (j+1)→g.get? s.heap.objs.size=some {cls:=.type "tuple",data:=.seq #[.int j s.toks,x]}→g.objs.size=s.heap.objs.size+1→
   (∀b o,b≠e→b≠c→s.heap.get? b=some o→g.get? b=some o)→Q (.ref s.heap.objs.size) {s with heap:=g,toks:=s.toks+1}):
  wpAny (model prog w) A (Builtin.«enumerate.__next__» ⟨[.ref e],[]⟩) (λgi s'=>∃v,gi=.done (.ret v)∧Q v s') E s:=by
 obtain⟨hp,gg,d,tk,os⟩:=s;show wpAny _ _ (field (.ref e) 2 >>= _) _ _ _;refine wpAny_bind (wpAny_field he rfl (x:=.ref c) rfl ?_);refine wpAny_bind (Bz hc ht hx λg1 c1 e1=>?_);replace e1:Heap.SameBut c hp g1:=e1;have r1:IsEnum g1 e c j old:=(e1.2 e hne).trans he;show wpAny _ _ (field (.ref e) 3 >>= _) _ _ ⟨g1,gg,d,tk,os⟩;refine wpAny_bind (wpAny_field r1 rfl (x:=rawInt j) rfl ?_);show wpAny _ _ (field (.ref e) 4 >>= _) _ _ ⟨g1,gg,d,tk,os⟩;refine wpAny_bind (wpAny_field r1 rfl (x:=.none) rfl ?_);show wpAny _ _ (mkInt j >>= _) _ _ ⟨g1,gg,d,tk,os⟩;refine wpAny_bind (wpAny_mkInt ?_);show wpAny _ _ (setField (.ref e) 3 (rawInt ((j:Int)+1)) >>= _) _ _ ⟨g1,gg,d,tk+1,os⟩;refine wpAny_bind (wpAny_setField_rec r1 (by simp) λg2 r2 e2=>?_);replace e2:Heap.SameBut e g1 g2:=e2;replace r2:IsEnum g2 e c ((j:Int)+1) old:=r2;show wpAny _ _ (setField (.ref e) 4 .none >>= _) _ _ ⟨g2,gg,d,tk+1,os⟩;refine wpAny_bind (wpAny_setField_rec r2 (by simp) λg3 r3 e3=>?_);replace e3:Heap.SameBut e g2 g3:=e3;replace r3:IsEnum g3 e c ((j:Int)+1) old:=r3;show wpAny _ _ (newTuple [.int j tk,x] >>= _) _ _ ⟨g3,gg,d,tk+1,os⟩;refine wpAny_bind (wpAny_newTuple ?_);have r4:IsEnum (g3.push {cls:=.type "tuple",data:=.seq #[.int j tk,x]}) e c ((j:Int)+1) old:=Heap.get?_push_of_some _ r3;generalize q4:g3.push {cls:=.type "tuple",data:=.seq #[.int j tk,x]}=g4 at r4;have sz:g3.objs.size=hp.objs.size:=by rw[e3.1,e2.1,e1.1]
 have el:e<hp.objs.size:=Heap.lt_size he;have t4:g4.get? hp.objs.size=some {cls:=.type "tuple",data:=.seq #[.int j tk,x]}:=by rw[←q4,←sz];exact Heap.get?_push_size _ rfl
 have n4:g4.objs.size=hp.objs.size+1:=by rw[←q4,Heap.size_push,sz]
 have k4:∀b o,b≠e→b≠c→hp.get? b=some o→g4.get? b=some o:=λb o hb1 hb2 hb=>by rw[←q4];exact Heap.get?_push_of_some _ (e3.extBut b o hb1 (e2.extBut b o hb1 (e1.extBut b o hb2 hb)))
 have c4:g4.IsTupleIter c t (j+1):=by rw[←q4];obtain⟨o,ho,r⟩:=(c1.extBut e2.extBut (af hne)).extBut e3.extBut (af hne);exact⟨o,Heap.get?_push_of_some _ ho,r⟩
 show wpAny _ _ (Builtin.SmallTypes.ownedTupleIsFree (.ref e) >>= _) _ _ ⟨g4,gg,d,tk+1,os⟩;rw[sz];clear q4 r3 e3 r2 e2 r1 e1 c1 sz g3 g2 g1;refine wpAny_bind ?_
 ·unfold Builtin.SmallTypes.ownedTupleIsFree;refine wpAny_bind (wpAny_field r4 rfl (x:=.none) rfl (wpAny_pure ?_));simp only[if_true];refine wpAny_bind (wpAny_rule ?_);refine wpAny_bind (wpAny_field r4 rfl (x:=old) rfl ?_);refine wpAny_bind (wpAny_setField_rec r4 (by simp) λg5 r5 e5=>?_);replace e5:Heap.SameBut e g4 g5:=e5;replace r5:IsEnum g5 e c ((j:Int)+1) x:=r5;show wpAny _ _ (Builtin.SmallTypes.ownedTupleHandOut (.ref e) (.ref hp.objs.size) >>= _) _ _ ⟨g5,gg,d,tk+1,os⟩;refine wpAny_bind ?_
  ·unfold Builtin.SmallTypes.ownedTupleHandOut;refine wpAny_bind (wpAny_setField_rec r5 (by simp) λg6 r6 e6=>?_);replace e6:Heap.SameBut e g5 g6:=e6;replace r6:IsEnumOut g6 e c ((j:Int)+1) x hp.objs.size:=r6;refine wpAny_setField_rec r6 (by simp) λg7 r7 e7=>?_;replace e7:Heap.SameBut e g6 g7:=e7;replace r7:IsEnumOut g7 e c ((j:Int)+1) x hp.objs.size:=r7;refine wpAny_bind (wpAny_letGo (wpAny_pure ⟨_,rfl,hQ g7 r7 ?_ ?_ ?_ ?_⟩))
   ·exact((c4.extBut e5.extBut (af hne)).extBut e6.extBut (af hne)).extBut e7.extBut (af hne)
   ·exact e7.extBut _ _ (bD el) (e6.extBut _ _ (bD el) (e5.extBut _ _ (bD el) t4))
   ·rw[e7.1,e6.1,e5.1,n4]
   ·exact λb o hb1 hb2 hb=>e7.extBut b o hb1 (e6.extBut b o hb1 (e5.extBut b o hb1 (k4 b o hb1 hb2 hb)))
theorem yX{e c t:Addr}{j:Nat}{xs:Array Value}{x old:Value}{Q:Option Value→Shared→Prop}(he:IsEnum s.heap e c j old)(hc:s.heap.IsTupleIter c t j)(ht:s.heap.IsTuple t xs)(hx:xs[j]?=some x)(hne:e≠c)
  (hQ:∀g,IsEnumOut g e c ((j:Int)+1) x s.heap.objs.size→g.IsTupleIter c t (j+1)→g.get? s.heap.objs.size=some {cls:=.type "tuple",data:=.seq #[.int j s.toks,x]}→g.objs.size=s.heap.objs.size+1→
   (∀b o,b≠e→b≠c→s.heap.get? b=some o→g.get? b=some o)→Q (some (.ref s.heap.objs.size)) {s with heap:=g,toks:=s.toks+1}):wpAny (model prog w) A (pyNext (.ref e)) Q E s:=by
 have hT:s.TypeIs (.ref e) "enumerate":=⟨_,he,rfl⟩;unfold pyNext;exact wpAny_bind (wpAny_attempt (wpAny_callSpecial?_slot (name:=Str.ofString "__next__") hT F.slot_enumerate_next (wpAny_call_entry F.slot_enumerate_next hT F.entry_enumerate_next (Dy he hc ht hx hne λg a b c d k=>wpAny_pure (hQ g a b c d k)) (F.args_enumerate_next_1 _))))
theorem BP{e c t:Addr}{j:Nat}{xs:Array Value}{old:Value}{Q:Option Value→Shared→Prop}(hh:A.handled=none)(he:IsEnum s.heap e c j old)(hc:s.heap.IsTupleIter c t j)(ht:s.heap.IsTuple t xs)(hx:xs[j]?=none)
  (hQ:∀g,Heap.ExtBut c s.heap g→Q none {s with heap:=g}):wpAny (model prog w) A (pyNext (.ref e)) Q E s:=by
 have hT:s.TypeIs (.ref e) "enumerate":=⟨_,he,rfl⟩;unfold pyNext;refine wpAny_bind (wpAny_attempt (wpAny_callSpecial?_slot (name:=Str.ofString "__next__") hT F.slot_enumerate_next (wpAny_call_entry F.slot_enumerate_next hT F.entry_enumerate_next ?_ (F.args_enumerate_next_1 _))));show wpAny _ _ (field (.ref e) 2 >>= _) _ _ _;refine wpAny_bind (wpAny_field he rfl (x:=.ref c) rfl ?_);refine wpAny_bind (By hh hc ht hx λg y he' hy=>?_);obtain⟨o,ho,hcl⟩:=hy;exact wpAny_bind (wpAny_isInstance (T:="StopIteration") (b:=true) ⟨o,ho,hcl⟩ isSubtype_stop (wpAny_pure (hQ _ he')))
end
theorem BQ(t:Addr)(o:Obj)(xs:Array Value)(hcls:o.cls=.type "tuple")(n:Nat)(hdat:o.data=.seq xs n):
  Meets (Builtin.«enumerate.__new__» ⟨[.type "enumerate",.ref t],[]⟩) (λ_ R s=>s.heap.get? t=some o∧
   R (.ok (.ret (.ref (s.heap.push {cls:=.type "tuple_iterator",data:=.fields #[.ref t,.int 0 0]}).objs.size)))
    {s with heap:=(s.heap.push {cls:=.type "tuple_iterator",data:=.fields #[.ref t,.int 0 0]}).push {cls:=.type "enumerate",data:=.fields #[.none,.bool false,.ref s.heap.objs.size,rawInt 0,.none,.none]}}):=
 .of_wp λprog w A R s h=>by
  obtain⟨hp,g,d,tk,os⟩:=s;obtain⟨hl,h⟩:=h;obtain⟨oc,od,oda,osl⟩:=o;cases hcls;cases hdat;have hsub:=sub_enumerate;have hL:Heap.IsTuple (Shared.heap ⟨hp,g,d,tk,os⟩) t xs:=⟨_,hl,rfl,n,rfl⟩
  wp_walk using wpAny_loadPart' hl
  refine wpAny_stack_any λst=>wpAny_pure ?_;split
  ·rename_i c _ _ _ _ _;cases(c==Value.type "enumerate")
   ·wp_walk using wpAny_loadPart' hl,wpAny_pyIter_tuple hL
    exact⟨_,rfl,h⟩
   ·wp_walk using wpAny_loadPart' hl,wpAny_pyIter_tuple hL
    exact⟨_,rfl,h⟩
  ·wp_walk using wpAny_loadPart' hl,wpAny_pyIter_tuple hL
   exact⟨_,rfl,h⟩
section
variable {prog:Program}{w:World}{A:Around}{E:Value→Shared→Prop}{s:Shared}
theorem Dz(ht:s.heap.IsTuple t xs)
  (h:∀g n,n=s.heap.objs.size→IsEnum g (n+1) n 0 .none→g.IsTupleIter n t 0→g.objs.size=n+2→(∀c o,s.heap.get? c=some o→g.get? c=some o)→Q (.ref (n+1)) {s with heap:=g}):wpAny (model prog w) A (call (.type "enumerate") [.ref t]) Q E s:=by
 obtain⟨o,ho,hc,n,hd⟩:=ht;refine callType_new F.called_enumerate (by decide) (F.typeCall_enumerate_1 _) (F.newCall_enumerate_1 _) (λobj=>F.args_object_init_2 obj _) F.entry_enumerate_new (BQ t o xs hc n hd) ⟨ho,?_⟩;have z1:(s.heap.push {cls:=.type "tuple_iterator",data:=.fields #[.ref t,.int 0 0]}).objs.size=s.heap.objs.size+1:=Heap.size_push ..;show _∧_;have g2:((s.heap.push {cls:=.type "tuple_iterator",data:=.fields #[.ref t,.int 0 0]}).push {cls:=.type "enumerate",data:=.fields #[.none,.bool false,.ref s.heap.objs.size,rawInt 0,.none,.none]}).get? (s.heap.push {cls:=.type "tuple_iterator",data:=.fields #[.ref t,.int 0 0]}).objs.size=some _:=Heap.get?_push_size _ rfl;rw[z1]at g2⊢;exact⟨⟨_,g2,rfl⟩,h _ _ rfl g2 ⟨_,Heap.get?_push_of_some _ (Heap.get?_push_size _ rfl),rfl,rfl⟩ (by rw[Heap.size_push,z1]) λc o e=>Heap.get?_push_of_some _ (Heap.get?_push_of_some _ e)⟩
end
end PySem
namespace L2
open PySem PySem.Spec PyProof.Rows
def MA(K:aA)(a:Addr):It:=
  ⟨λi H=>∃xs x,eC K H a xs∧xs[i]?=some x,
   λi H v H'=>∃p x,v=.ref p∧H p=none∧H'=upd H p (.tup [.int i,x])∧∀xs,eC K H a xs→xs[i]?=some x,
   λi H=>∃xs,eC K H a xs∧xs.length≤i⟩
theorem xW{P:Program}{w:World}{K:aA}{es:List Expr}{x1}{pos:Pos}{e c a:Addr}(hne:e≠c):uf P w K (.Tuple es x1 pos) (MA K a) [e,c] e
  (λi h=>(∃old,IsEnum h e c i old)∧h.IsTupleIter c a i) where
 mem:=by simp
 obj:=λi h st b hb=>by
  obtain⟨⟨old,he⟩,⟨oc,ec,_,dc⟩⟩:=st;simp only[aB,aF,or_false]at hb;rcases hb with rfl|rfl
  ·exact⟨_,he,λv e=>by cases(show Data.fields _=Data.cell v from e)⟩
  ·exact⟨oc,ec,λv e=>by rw[dc]at e;cases e⟩
 keep:=λi h h' st k=>by obtain⟨⟨old,he⟩,⟨oc,ec,rc⟩⟩:=st;exact⟨⟨old,k e (by simp) _ he⟩,⟨oc,k c (by simp) _ ec,rc⟩⟩
 item:=by
  intro X hP hw hK hc i pins s σ H E I hf st hg;subst hP hw hK;obtain⟨⟨old,he⟩,h1⟩:=st;obtain⟨xs,x,hxs,hx⟩:=hg;obtain⟨its,rv,pa,za⟩:=I.tuple hxs;obtain⟨u,hu,ru⟩:=rv.get hx;have cl:c<s.heap.objs.size:=by obtain⟨_,e,_⟩:=h1;exact Heap.lt_size e
  refine yX he h1 (show s.heap.IsTuple a its.toArray from pa) (x:=u) (by simpa using hu) hne λg g1 g2 g3 g4 g5=>?_;refine⟨_,rfl,wpAny_letOwnedTupleGo_enum g1 λg' z' sb=>?_⟩;replace sb:Heap.SameBut e g g':=sb;have zl:e<s.heap.objs.size:=Heap.lt_size he;have kk:∀b u,b∉[e,c]→s.heap.get? b=some u→g'.get? b=some u:=λb u hb ee=>by simp only[aB,aF,or_false,not_or]at hb;exact sb.extBut _ _ hb.1 (g5 b u hb.1 hb.2 ee)
  have pT:g'.get? s.heap.objs.size=some {cls:=.type "tuple",data:=.seq #[.int i s.toks,u]}:=sb.extBut _ _ (bD zl) g3;have new:gB X.prog X.w (upd H s.heap.objs.size (.tup [.int i,x])) g' s.heap.objs.size (.tup [.int i,x]):=⟨(by show 2≤sizeLine;rw[sizeLine_eq];decide),[.int i s.toks,u],.cons ⟨_,rfl⟩ (.cons ru .nil),_,pT,rfl,_,rfl⟩;have I1:eU X pins σ (upd H s.heap.objs.size (.tup [.int i,x])) {s with heap:=g',toks:=s.toks+1}:=I.turnedN (t':=s.toks+1) hf kk (aC _) new;obtain⟨oc,ec,rc⟩:=g2;refine⟨.ref s.heap.objs.size,_,I1,rfl,⟨s.heap.objs.size,x,rfl,I.hok.fresh (aC _),rfl,λzs hzs=>by rw[I.tuple_inj hzs hxs];exact hx⟩,
   ⟨⟨_,z'⟩,⟨oc,sb.extBut _ _ (af hne) ec,rc⟩⟩,λb hb=>?_⟩
  have hbn:=(hf b hb).1;have:b≠s.heap.objs.size:=by
   simp only[aB,aF,or_false]at hb;rcases hb with rfl|rfl
   ·exact aL zl
   ·exact aL cl
  rw[db this];exact hbn
 done:=by intro X hP hw hK hc i pins s σ H E I hf st hg;subst hP hw hK;obtain⟨⟨old,he⟩,h1⟩:=st;obtain⟨xs,hxs,hl⟩:=hg;obtain⟨its,rv,pa,za⟩:=I.tuple hxs;have hlen:=rv.length;refine BP (I.ok.hd hc) he h1 (show s.heap.IsTuple a its.toArray from pa) (by simp;lia) λg kg=>⟨rfl,I.turnedL (t':=s.toks) hf λb u hb ee=>?_⟩;simp only[aB,aF,or_false,not_or]at hb;exact kg b u hb.2 ee
 self:=λ_ _ _ _ _ st h=>by obtain⟨⟨_,he⟩,_⟩:=st;exact wpAny_pyIter_enum he h
def Ee(K:aA)(ta:TE):TI:=λσ H R=>ta σ H λx H1=>∃a xs,[x]=[V.ref a]∧eC K H1 a xs∧R (MA K a) H1
theorem sj:bootBuiltins "enumerate"=some (.type "enumerate"):=by decide+kernel
section
variable {X:Cx}{es:List Expr}{x1:Nat}{tp:Pos}
theorem DT{l:Expr}{ta:TE}{np pos:Pos}(hg:Gl X "enumerate")(hm:X.mg "enumerate"=none)(ha:PE X l ta)(he:starEach [l] X.env=[(false,eval l X.env)]:=by rfl):
  PI X (.Tuple es x1 tp) (.Call (.Name "enumerate" np) [l] [] pos) (Ee X.K ta):=by
 intro pins s σ H R I h;refine wpAny_Call_Name_kw (jw I hg hm sj ?_);have h1:starEach (l::[]) X.env=(false,eval l X.env)::starEach [] X.env:=he;refine bP (thn ((dz ha fb h1:PA X [l] (dM ta dW)) pos pins s σ H (λvs H2=>∃a xs,vs=[V.ref a]∧eC X.K H2 a xs∧R (MA X.K a) H2) I h) λus s1 ⟨vs,H1,I1,r1,q1⟩=>?_) h1 (by rfl);obtain⟨a,xs,rfl,hxs,q⟩:=q1;obtain⟨u,rfl,ru⟩:=fG.one r1;cases ru;obtain⟨its,rva,pa,_⟩:=I1.tuple hxs;refine Dz (show s1.heap.IsTuple a its.toArray from pa) λg n en g1 g2 g3 g4=>?_;refine wpAny_pyIter_enum g1 ?_;refine⟨n+1,[n+1,n],_,_,H1,rfl,I1.kept (t':=s1.toks) g4,xW (a:=a) (Nat.succ_ne_self n),⟨⟨_,g1⟩,g2⟩,λc hc=>?_,q⟩;have:s1.heap.objs.size≤c:=by
  simp only[aB,aF,or_false]at hc;rw[←en];rcases hc with e|e<;>rw[e]
  ·exact bn n 1
  ·exact aC n
 exact I1.fpOk this (I1.hok.fresh this)
end
end L2
namespace L2
open PySem PySem.Spec PyProof.Rows
section
variable {X:Cx}
end
end L2
namespace PySem
open AutoSeq1
theorem KR(l:Addr)(eL:Array Value)(n:Nat)(b:Addr)(o:Obj)(items2:Array Value)(n2:Nat)(hcls:o.cls=.type "tuple")(hdat:o.data=.seq items2 n2)(hs0:¬(!eL.isEmpty&&Builtin.List.listTooLong (eL.size+items2.size))=true)(hs1:eL.size≤sizeLine)(hs2:eL.size+items2.size≤sizeLine+1):
  Meets (Builtin.«list.extend» ⟨[.ref l,.ref b],[]⟩) (λ_ R s=>s.heap.get? l=some {cls:=.type "list",dict:=none,data:=.seq eL n,slots:=#[]}∧s.heap.get? b=some o∧R (.ok (.ret Value.none)) {s with heap:=s.heap.update l (Obj.mapSeq λx=>x++items2),toks:=s.toks}):=
 .of_wp λprog w A R s h=>by
  obtain⟨hp,g,d,tk,os⟩:=s;obtain⟨hl,hb,h⟩:=h;have f1:=idx_int;have f2:=sub_tuple_tuple;have f3:=sub_list_list;have f4:=sub_tuple_list;have f5:=sub_list_tuple;obtain⟨oc,od,oda,osl⟩:=o;cases hcls;cases hdat;have hz':(eL++items2).size≤sizeLine+1:=by rw[Array.size_append];exact hs2
  wp_walk using(wpAny_updateSeq hl rfl (hz:=hs1) (_hz':=hz')),wpAny_loadPart' hl,wpAny_loadPart' hb
  exact⟨_,rfl,h⟩
end PySem
namespace L2
open PySem PySem.Spec PyProof.Rows
section
variable {X:Cx}
def uB:V→List V→Hp→VK→Prop:=λx vs H Q=>∃l b xs zs,x=.ref l∧vs=[.ref b]∧H l=some (.lst xs)∧H b=some (.tup zs)∧xs.length+zs.length≤sizeLine∧Q .non (upd H l (.lst (xs++zs)))
theorem vS:Kb X "list.extend" uB:=by
 intro pins s σ H x vs v us Q I rx rv h;obtain⟨l,b,xs,zs,rfl,rfl,hH,hB,hz,q⟩:=h;cases rx;obtain⟨u,rfl,ru⟩:=rv.one;cases ru;obtain⟨z,its,n,r,hl,e⟩:=I.lstM hH;obtain⟨z2,its2,r2,o,e2,hc,n2,hd⟩:=(show gB X.prog X.w H s.heap b (.tup zs)from I.hok b _ hB);have hl2:=r2.length;have hsz:its.toArray.size+its2.toArray.size≤sizeLine:=by rw[aM,aM];lia
 have hlong:¬(!its.toArray.isEmpty&&Builtin.List.listTooLong (its.toArray.size+its2.toArray.size))=true:=by rw[uG hsz,Bool.and_false];exact aP
 refine call_meets F.slot_list_extend ⟨_,e,rfl⟩ F.entry_list_extend (F.args_list_extend_2 _ _)
  (PySem.KR l its.toArray n b o its2.toArray n2 hc hd hlong (by rw[aM];lia) (by lia)) ⟨e,e2,?_⟩
 refine⟨.non,_,I.lset (its':=its++its2) hH e (by simp) (r.append r2) ?_,rfl,q⟩;rw[aD];lia
end
end L2
namespace S9
open PySem L2 SW
inductive G where
 | leaf(k:Str)(x:V)
 | plain(k:Str)(ks:List G)
 | word(k w:Str)(ks:List G)
def G.kids:G→List G
 | .leaf _ _=>[]
 | .plain _ ks=>ks
 | .word _ _ ks=>ks
def G.hd:G→List V
 | .leaf k x=>[.str k,x]
 | .plain k _=>[.str k]
 | .word k w _=>[.str k,.str w]
def G.kind:G→Str
 | .leaf k _=>k
 | .plain k _=>k
 | .word k _ _=>k
def G.ok:G→Prop
 | .leaf k _=>k="number"∨k="name"
 | .plain k _=>k≠"number"∧k≠"name"∧k≠"let"∧k≠"stamp"
 | .word k w _=>k="let"∨k="stamp"
inductive DG(H:Hp):G→V→Prop where
 | mk{g:G}{p:Addr}{us:List V}:g.ok→H p=some (.tup (g.hd++us))→us.length=g.kids.length→(∀(i:Nat)(k:G)(u:V),g.kids[i]?=some k→us[i]?=some u→DG H k u)→DG H g (.ref p)
def jk(H:Hp)(gs:List G)(us:List V):Prop:=us.length=gs.length∧∀(i:Nat)(k:G)(u:V),gs[i]?=some k→us[i]?=some u→DG H k u
theorem DG.mono(k:fH H H')(h:DG H g v):DG H' g v:=by
 induction h with
 | mk a b c d ih=>exact .mk a (k _ _ b) c ih
theorem jk.mono(k:fH H H')(h:jk H gs us):jk H' gs us:=⟨h.1,λi a u e1 e2=>(h.2 i a u e1 e2).mono k⟩
theorem DG.open(h:DG H g v):∃p us,v=.ref p∧g.ok∧H p=some (.tup (g.hd++us))∧jk H g.kids us:=by
 cases h with
 | mk a b c d=>exact⟨_,_,rfl,a,b,c,d⟩
theorem jk.nil:jk H [] []:=⟨rfl,λi k u e=>by simp at e⟩
theorem jk.cons(a:DG H g v)(b:jk H gs us):jk H (g::gs) (v::us):=by
 refine⟨by rw[aE,aE,b.1],λi k u e1 e2=>?_⟩;cases i with
 | zero=>cases e1;cases e2;exact a
 | succ i=>exact b.2 i k u e1 e2
theorem jk.head(h:jk H (g::gs) (v::us)):DG H g v∧jk H gs us:=
 ⟨h.2 0 g v rfl rfl,by have:=h.1;rw[aE,aE]at this;lia,λi k u e1 e2=>h.2 (i+1) k u e1 e2⟩
theorem jk.append(a:jk H gs us)(b:jk H ks vs):jk H (gs++ks) (us++vs):=by
 induction gs generalizing us with
 | nil=>obtain⟨e,_⟩:=a;cases us with
  | nil=>exact b
  | cons _ _=>cases e
 | cons g gs ih=>
  cases us with
  | nil=>have:=a.1;cases this
  | cons u us=>exact .cons a.head.1 (ih a.head.2)
theorem jk.snoc(h:jk H gs (us++[u])):∃ks k,gs=ks++[k]∧jk H ks us∧DG H k u:=by
 have hl:=h.1;have hne:gs≠[]:=λe=>by subst e;simp at hl
 obtain⟨ks,k,rfl⟩:=gD hne;have hl2:us.length=ks.length:=by simpa using hl
 refine⟨ks,k,rfl,⟨hl2,λi a u' e1 e2=>h.2 i a u' ?_ ?_⟩,h.2 ks.length k u ?_ ?_⟩
 ·rw[ax (aO.mp e1).1];exact e1
 ·rw[ax (aO.mp e2).1];exact e2
 ·simp
 ·rw[←hl2];simp
def gT:T→G
 | .num n=>.leaf "number" (.int n)
 | .name w=>.leaf "name" (.str w)
 | .sum a b=>.plain "sum" [gT a,gT b]
 | .less a b=>.plain "less" [gT a,gT b]
 | .cho a b c=>.plain "choose" [gT a,gT b,gT c]
 | .lt w a b=>.word "let" w [gT a,gT b]
 | .st0 w=>.word "stamp" w []
 | .st1 w a=>.word "stamp" w [gT a]
 | .st2 w a b=>.word "stamp" w [gT a,gT b]
theorem jL:∀{t:T}{v:V},gG H t v→DG H (gT t) v
 | .num _,_,⟨p,e,h⟩=>by subst e;exact .mk (us:=[]) (.inl rfl) h rfl λi k u e=>by simp[G.kids,gT]at e
 | .name _,_,⟨p,e,h⟩=>by subst e;exact .mk (us:=[]) (.inr rfl) h rfl λi k u e=>by simp[G.kids,gT]at e
 | .sum _ _,_,⟨p,x,y,e,h,a,b⟩=>by subst e;have d:=jk.cons (jL a) (.cons (jL b) .nil);exact .mk (us:=[x,y]) ⟨by decide+kernel,by decide+kernel,by decide+kernel,by decide+kernel⟩ h rfl d.2
 | .less _ _,_,⟨p,x,y,e,h,a,b⟩=>by subst e;have d:=jk.cons (jL a) (.cons (jL b) .nil);exact .mk (us:=[x,y]) ⟨by decide+kernel,by decide+kernel,by decide+kernel,by decide+kernel⟩ h rfl d.2
 | .cho _ _ _,_,⟨p,x,y,z,e,h,a,b,c⟩=>by subst e;have d:=jk.cons (jL a) (.cons (jL b) (.cons (jL c) .nil));exact .mk (us:=[x,y,z]) ⟨by decide+kernel,by decide+kernel,by decide+kernel,by decide+kernel⟩ h rfl d.2
 | .lt _ _ _,_,⟨p,x,y,e,h,a,b⟩=>by subst e;have d:=jk.cons (jL a) (.cons (jL b) .nil);exact .mk (us:=[x,y]) (.inl rfl) h rfl d.2
 | .st0 _,_,⟨p,e,h⟩=>by subst e;exact .mk (us:=[]) (.inr rfl) h rfl λi k u e=>by simp[G.kids,gT]at e
 | .st1 _ _,_,⟨p,x,e,h,a⟩=>by subst e;have d:=jk.cons (jL a) jk.nil;exact .mk (us:=[x]) (.inr rfl) h rfl d.2
 | .st2 _ _ _,_,⟨p,x,y,e,h,a,b⟩=>by subst e;have d:=jk.cons (jL a) (.cons (jL b) .nil);exact .mk (us:=[x,y]) (.inr rfl) h rfl d.2
theorem jk.two(h:jk H [a,b] us):∃x y,us=[x,y]∧DG H a x∧DG H b y:=by
 obtain⟨l,d⟩:=h
 match us,l with
 | [x,y],_=>exact⟨x,y,rfl,d 0 a x rfl rfl,d 1 b y rfl rfl⟩
theorem jk.three(h:jk H [a,b,c] us):∃x y z,us=[x,y,z]∧DG H a x∧DG H b y∧DG H c z:=by
 obtain⟨l,d⟩:=h
 match us,l with
 | [x,y,z],_=>exact⟨x,y,z,rfl,d 0 a x rfl rfl,d 1 b y rfl rfl,d 2 c z rfl rfl⟩
theorem jk.one(h:jk H [a] us):∃x,us=[x]∧DG H a x:=by
 obtain⟨l,d⟩:=h
 match us,l with
 | [x],_=>exact⟨x,rfl,d 0 a x rfl rfl⟩
theorem jk.none(h:jk H [] us):us=[]:=cG.mp h.1
theorem gx:∀{t:T}{v:V},DG H (gT t) v→gG H t v
 | .num _,_,d=>by obtain⟨p,us,rfl,_,h,k⟩:=d.open;cases k.none;exact⟨p,rfl,h⟩
 | .name _,_,d=>by obtain⟨p,us,rfl,_,h,k⟩:=d.open;cases k.none;exact⟨p,rfl,h⟩
 | .sum _ _,_,d=>by obtain⟨p,us,rfl,_,h,k⟩:=d.open;obtain⟨x,y,rfl,a,b⟩:=jk.two k;exact⟨p,x,y,rfl,h,gx a,gx b⟩
 | .less _ _,_,d=>by obtain⟨p,us,rfl,_,h,k⟩:=d.open;obtain⟨x,y,rfl,a,b⟩:=jk.two k;exact⟨p,x,y,rfl,h,gx a,gx b⟩
 | .cho _ _ _,_,d=>by obtain⟨p,us,rfl,_,h,k⟩:=d.open;obtain⟨x,y,z,rfl,a,b,c⟩:=jk.three k;exact⟨p,x,y,z,rfl,h,gx a,gx b,gx c⟩
 | .lt _ _ _,_,d=>by obtain⟨p,us,rfl,_,h,k⟩:=d.open;obtain⟨x,y,rfl,a,b⟩:=jk.two k;exact⟨p,x,y,rfl,h,gx a,gx b⟩
 | .st0 _,_,d=>by obtain⟨p,us,rfl,_,h,k⟩:=d.open;cases k.none;exact⟨p,rfl,h⟩
 | .st1 _ _,_,d=>by obtain⟨p,us,rfl,_,h,k⟩:=d.open;obtain⟨x,rfl,a⟩:=jk.one k;exact⟨p,x,rfl,h,gx a⟩
 | .st2 _ _ _,_,d=>by obtain⟨p,us,rfl,_,h,k⟩:=d.open;obtain⟨x,y,rfl,a,b⟩:=jk.two k;exact⟨p,x,y,rfl,h,gx a,gx b⟩
theorem uQ(t:T):(gT t).kids=t.kids.map gT:=by cases t<;>rfl
theorem sU:∀{ts:List T}{us:List V},jk H (ts.map gT) us→gU H ts us
 | [],us,h=>by cases h.none;exact .nil
 | t::ts,[],h=>by have:=h.1;cases this
 | t::ts,u::us,h=>.cons (gx h.head.1) (sU h.head.2)
end S9
namespace S9
open PySem L2 SW
mutual
def G.size:G→Nat
 | .leaf _ _=>1
 | .plain _ ks=>1+gz ks
 | .word _ _ ks=>1+gz ks
def gz:List G→Nat
 | []=>0
 | k::ks=>k.size+gz ks
end
theorem G.size_kids(g:G):g.size=1+gz g.kids:=by cases g<;>simp[G.size,G.kids,gz]
theorem jV(a b:List G):gz (a++b)=gz a+gz b:=by
 induction a with
 | nil=>simp[gz]
 | cons k ks ih=>rw[aN,gz,gz,ih,Nat.add_assoc]
theorem nG(g:G):gz [g]=g.size:=by simp[gz]
theorem qi(gs:List G):gs.length≤gz gs:=by
 induction gs with
 | nil=>exact aU _
 | cons g gs ih=>have:=g.size_kids;rw[aE,gz];lia
inductive Od:List G→List G→Prop where
 | nil:Od [] []
 | step{s l:List G}{g:G}:Od (s++g.kids) l→Od (s++[g]) (g::l)
inductive vp(x:G):G→Prop where
 | refl:vp x x
 | kid{g k:G}:k∈g.kids→vp x k→vp x g
theorem Od.mem(h:Od s l)(x:G):x∈l↔∃g∈s,vp x g:=by
 induction h with
 | nil=>simp
 | @step s l g _ ih=>
  rw[aB,ih];constructor
  ·rintro(rfl|⟨y,hy,i⟩)
   ·exact⟨x,by simp,.refl⟩
   ·rcases aV.mp hy with z|z
    ·exact⟨y,by simp[z],i⟩
    ·exact⟨g,by simp,.kid z i⟩
  ·rintro⟨y,hy,i⟩;rcases aV.mp hy with z|z
   ·exact .inr ⟨y,ag _ z,i⟩
   ·rw[aG]at z;subst z;cases i with
    | refl=>exact .inl rfl
    | kid hk i=>exact .inr ⟨_,aQ _ hk,i⟩
theorem Od.one(h:Od [g] l)(x:G):x∈l↔vp x g:=by rw[h.mem];simp
def iU:Sp:=λvs H Q _=>∃g v,vs=[v]∧DG H g v∧∀p us H',dq H H'→H' p=some (.tup us)→jk H' g.kids us→Q (.ref p) H'
def kU:Sp:=λvs H Q _=>∃g v,vs=[v]∧DG H g v∧g.size≤5000∧∀l us L H',dq H H'→H l=none→H' l=some (.lst us)→Od [g] L→jk H' L us→Q (.ref l) H'
variable {K:aA}{vs:List V}{H:Hp}{Q:VK}{E:XK}
theorem nk(h:k≠w):decide (V.str k=V.str w)=false:=decide_eq_false λe=>h (V.str.inj e)
theorem IE(h:iU vs H Q E):CP K (gi Q) (start ["piece","kind"] vs) H:=by
 obtain⟨g,v,rfl,hd,k⟩:=h;obtain⟨p,us,rfl,ok,hp,dk⟩:=hd.open;cases g with
 | leaf kd x=>
  have e:us=[]:=by have:=dk.1;simpa[G.kids]using this
  subst e;refine⟨eC.of hp,rfl,?_⟩;refine⟨rfl,_,rfl,?_⟩;rcases ok with rfl|rfl
  ·refine fi (by decide+kernel) (mf ?_);exact⟨fT,λq hq=>k q [] _ (dR hq) dO .nil⟩
  ·refine eM (by decide+kernel) ?_;refine⟨rfl,_,rfl,?_⟩;refine fi (by decide+kernel) ?_;exact⟨fT,λq hq=>k q [] _ (dR hq) dO .nil⟩
 | plain kd ks=>obtain⟨o1,o2,o3,o4⟩:=ok;have ec:ig (.str kd::us) (some 1) none=us:=(lI (.str kd::us) 1 (by simp)).trans rfl;refine⟨eC.of hp,dU (j:=0) rfl,?_⟩;refine⟨rfl,_,rfl,eM (nk o1) ⟨rfl,_,rfl,eM (nk o2) ⟨rfl,_,rfl,eM (nk o3) ⟨rfl,_,rfl,eM (nk o4) ?_⟩⟩⟩⟩;refine⟨_,rfl,p,_,rfl,eC.of hp,jH 1 (by decide) (by simp[G.hd]),λq hq=>?_⟩;refine k q us _ (dR hq) ?_ (dk.mono (iI hq));show upd H q (.tup (ig (.str kd::us) (some 1) none)) q=_;rw[ec,dO]
 | word kd w ks=>
  have ec:ig (.str kd::.str w::us) (some 2) none=us:=(lI (.str kd::.str w::us) 2 (by simp)).trans rfl;have fin2:∀q,H q=none→Q (.ref q) (upd H q (.tup (ig (.str kd::.str w::us) (some 2) none))):=λq hq=>by refine k q us _ (dR hq) ?_ (dk.mono (iI hq));rw[ec,dO]
  refine⟨eC.of hp,dU (j:=0) rfl,?_⟩;refine⟨rfl,_,rfl,?_⟩;rcases ok with rfl|rfl
  ·refine eM (by decide+kernel) ⟨rfl,_,rfl,eM (by decide+kernel) ⟨rfl,_,rfl,fi (by decide+kernel) (mf ?_)⟩⟩;exact⟨_,rfl,p,_,rfl,eC.of hp,jH 2 (by decide) (by simp[G.hd]),fin2⟩
  ·refine eM (by decide+kernel) ⟨rfl,_,rfl,eM (by decide+kernel) ⟨rfl,_,rfl,eM (by decide+kernel) ⟨rfl,_,rfl,fi (by decide+kernel) ?_⟩⟩⟩;exact⟨_,rfl,p,_,rfl,eC.of hp,jH 2 (by decide) (by simp[G.hd]),fin2⟩
theorem Ir(h:rT vs H Q E):iU vs H Q E:=by obtain⟨t,v,rfl,d,k⟩:=h;exact⟨gT t,v,rfl,jL d,λp us H' s hp dk=>k p us H' s hp (sU (by rw[uQ]at dk;exact dk))⟩
end S9
namespace S9
open PySem L2 SW
variable {K:aA}{vs:List V}{H:Hp}{Q:VK}{E:XK}
def GF(K:aA):TS:=(de (eG (lz K "list" mF (dN 2)) (dX 3)) (de (fQ (kB K "list" eh (dN 1) (dM (dN 3) dW))) (fQ (kB K "list" uB (dN 2) (dM (eV iU [] E0 (dM (dN 3) dW)) dW)))))
def K3(K:aA):TS:=(de (eG (fX dW) (dX 1)) (de (eG (fX (dM (dN 0) dW)) (dX 2)) (de (hX (eI (eA oQ (gm (gh K) (dM (dN 2) dW)) (tC (.int 0)))) (GF K)) (fI (dN 1)))))
structure KF(g:G)(H₀ H:Hp)(fl wl:Addr)(fs us:List V)(F S:List G):Prop where
 same:dq H₀ H
 nf:H₀ fl=none
 nw:H₀ wl=none
 ne:fl≠wl
 f_:H fl=some (.lst fs)
 w_:H wl=some (.lst us)
 df:jk H F fs
 dw:jk H S us
 od:∀l,Od S l→Od [g] (F++l)
 sz:gz S+F.length≤g.size
theorem Ma(h:kU vs H Q E):K3 K (gi Q) (start ["piece","found","waiting","current"] vs) H:=by
 obtain⟨g,v,rfl,hd,hsz,k⟩:=h;refine⟨fT,λfl hf=>⟨fT,λwl hw=>?_⟩⟩;have s1:dq H (upd H fl (.lst [])):=dR hf;have s2:=dR (o:=.lst [v]) hw;have n1:fl≠wl:=dZ (dO (H:=H) (a:=fl) (o:=.lst [])) hw;refine⟨λm σ H'=>∃j3 fs us F S,σ=[some v,some (.ref fl),some (.ref wl),j3]∧KF g H H' fl wl fs us F S∧m=gz S,⟨_,none,[],[v],[],[g],rfl,?_,rfl⟩,?_⟩
 ·exact⟨s1.trans s2,hf,s1.free hw,n1,s2 _ _ dO,dO,.nil,.cons (hd.mono (dY (s1.trans s2))) .nil,λl h=>h,by rw[nG];simp⟩
 ·clear s1 s2;rintro m σ H1 ⟨j3,fs,us,F,S,rfl,A,rfl⟩;refine⟨wl,us,rfl,.inl (eK.of A.w_),_,rfl,?_⟩;by_cases hv:us=[]
  ·subst hv;refine eM rfl ?_;have e:S=[]:=cG.mp A.dw.1.symm;subst e;have od:=A.od [] .nil;rw[aZ]at od;exact(k fl fs F _ A.same hf A.f_ od A.df)
  ·obtain⟨us,u,rfl⟩:=gD hv;refine fi (decide_eq_true (by simp)) ?_;obtain⟨S',g',rfl,d1,d2⟩:=A.dw.snoc;refine⟨λσ' H'=>∃m',m'<gz (S'++[g'])∧∃j3 fs us F S,σ'=[some v,some (.ref fl),some (.ref wl),j3]∧KF g H H' fl wl fs us F S∧m'=gz S,λ_ _ h=>h,?_⟩;refine⟨.inl ⟨rfl,_,eK.of A.w_⟩,wl,_,_,rfl,rfl,A.w_,jC,?_⟩;rw[iP];have hsz2:=A.sz;rw[jV,nG]at hsz2;have hk:=g'.size_kids;have hf1:=A.df.1;have t1:fH H1 (upd H1 wl (.lst us)):=fL A.w_;have s1:dq H (upd H1 wl (.lst us)):=eD A.same A.nw;have f1:(upd H1 wl (.lst us)) fl=some (.lst fs):=by rw[db A.ne];exact A.f_
   have w1:(upd H1 wl (.lst us)) wl=some (.lst us):=dO;have df1:=A.df.mono t1;have dw1:=d1.mono t1;have dg1:=d2.mono t1;generalize upd H1 wl (.lst us)=H2 at s1 f1 w1 df1 dw1 dg1⊢;refine⟨.inl ⟨rfl,_,eK.of f1⟩,fl,_,_,rfl,rfl,f1,by rw[sizeLine_eq];lia,?_⟩;have t2:fH H2 (upd H2 fl (.lst (fs++[u]))):=fL f1;have s2:dq H (upd H2 fl (.lst (fs++[u]))):=eD s1 hf;have f2:(upd H2 fl (.lst (fs++[u]))) fl=some (.lst (fs++[u])):=dO;have w2:(upd H2 fl (.lst (fs++[u]))) wl=some (.lst us):=by rw[db A.ne.symm];exact w1
   have df2:=(df1.append (.cons dg1 .nil)).mono t2;have dw2:=dw1.mono t2;have dg2:=dg1.mono t2;generalize upd H2 fl (.lst (fs++[u]))=H3 at s2 f2 w2 df2 dw2 dg2⊢;refine⟨.inl ⟨rfl,_,eK.of w2⟩,g',u,rfl,dg2,λp ks H4 s4 hp dk=>?_⟩;have hl1:=dw2.1;have hl2:=dk.1;have hl3:=qi S';have hl4:=qi g'.kids;refine⟨wl,p,us,ks,rfl,rfl,s4 _ _ w2,hp,by rw[sizeLine_eq];lia,?_⟩;have w4:=s4 _ _ w2;have t5:fH H4 (upd H4 wl (.lst (us++ks))):=fL w4;refine⟨gz (S'++g'.kids),by rw[jV,jV,nG];lia,_,fs++[u],us++ks,F++[g'],S'++g'.kids,rfl,⟨eD (s2.trans s4) A.nw,hf,A.nw,A.ne,?_,dO,(df2.mono (dY s4)).mono t5,((dw2.mono (dY s4)).append dk).mono t5,λl h=>?_,?_⟩,rfl⟩
   ·rw[db A.ne];exact s4 _ _ f2
   ·rw[aT];exact A.od _ (.step h)
   ·rw[jV,aD,bB];lia
end S9
namespace S9
open PySem L2 SW
variable {K:aA}{vs:List V}{H:Hp}{Q:VK}{E:XK}{N:Addr}
def jj(H:Hp)(w:Str)(ps:List Str)(g:G)(v:V):Prop:=∃p l x,v=.ref p∧H p=some (.tup [.str w,.ref l,x])∧H l=some (.lst (ps.map V.str))∧DG H g x
theorem jj.mono(s:dq H H')(h:jj H w ps g v):jj H' w ps g v:=by obtain⟨p,l,x,e,a,b,c⟩:=h;exact⟨p,l,x,e,s _ _ a,s _ _ b,c.mono (dY s)⟩
structure Bk(H:Hp)(v1 v2 v3:V)(g1 g2 g3:G):Prop where
 a:jj H "star" [] g1 v1
 b:jj H "sta" ["sab"] g2 v2
 c:jj H "st" ["sab","tab"] g3 v3
theorem Bk.mono(s:dq H H')(h:Bk H v1 v2 v3 g1 g2 g3):Bk H' v1 v2 v3 g1 g2 g3:=⟨h.a.mono s,h.b.mono s,h.c.mono s⟩
def yO(v1 v2 v3:V):List (fE×V):=[(.inr "star",v1),(.inr "sta",v2),(.inr "st",v3)]
theorem Je:("star":Str)≠"sta":=by decide+kernel
theorem Jd:("star":Str)≠"st":=by decide+kernel
theorem Jc:("sta":Str)≠"st":=by decide+kernel
def kb(w:Str):Option Nat:=if w="star" then some 0 else if w="sta" then some 1 else if w="st" then some 2 else none
def IK:G→Prop
 | .word k w ks=>k="stamp"→kb w=some ks.length
 | _=>True
def jZ:Sp:=λvs H Q _=>∃b v1 v2 v3 g1 g2 g3,vs=[.ref b]∧H b=some (.lst [v1,v2,v3])∧Bk H v1 v2 v3 g1 g2 g3∧∀d H',dq H H'→H d=none→H' d=some (.dK (yO v1 v2 v3))→Q (.ref d) H'
def v5(K:aA):TS:=(lB (dN 1) (eA (eE K) (dN 2) (tC (.int 0))) (dN 2))
def IS(K:aA):TS:=(de (eG io (dX 1)) (de (iY (i7 K (dN 0)) (dX 2) (v5 K)) (fI (dN 1))))
theorem LW:gA ([]:List (fE×V)) (.inr "star") v=[(.inr "star",v)]:=rfl
theorem LV:gA [((.inr "star":fE),v1)] (.inr "sta") v=[(.inr "star",v1),(.inr "sta",v)]:=by simp[gA,Je]
theorem LU:gA [((.inr "star":fE),v1),(.inr "sta",v2)] (.inr "st") v=[(.inr "star",v1),(.inr "sta",v2),(.inr "st",v)]:=by simp[gA,Jd,Jc]
theorem LG(h:jZ vs H Q E):IS K (gi Q) (start ["book","stamps","stamp"] vs) H:=by
 obtain⟨b,v1,v2,v3,g1,g2,g3,rfl,hb,bk,k⟩:=h;intro d hd;have s1:dq H (upd H d (.dK [])):=dR hd;refine⟨b,rfl,⟨_,eK.of (s1 _ _ hb)⟩,?_⟩;refine gw (K:=K) (a:=b) (xs:=[v1,v2,v3]) (λi σ H'=>∃j2,σ=[some (.ref b),some (.ref d),j2]∧dq H H'∧H' d=some (.dK ((yO v1 v2 v3).take i))) ⟨none,rfl,s1,dO⟩ (λi σ H' _ hP=>?_) ?_ ?_
 ·obtain⟨_,_,s,_⟩:=hP;exact eK.of (s _ _ hb)
 ·rintro i y σ H' hi ⟨j2,rfl,s,hd'⟩;have B:=bk.mono s;have go:∀(w:Str)(ps:List Str)(g:G),jj H' w ps g y→gA ((yO v1 v2 v3).take i) (.inr w) y=(yO v1 v2 v3).take (i+1)→i≤3→∀D:iz,(∀σ H',(∃j2,σ=[some (.ref b),some (.ref d),j2]∧dq H H'∧H' d=some (.dK ((yO v1 v2 v3).take (i+1))))→D.nx σ H')→dX 2 y [some (.ref b),some (.ref d),j2] H' λσ2 H2=>v5 K D σ2 H2:=by intro w ps g hst e hi3 D hD;obtain⟨p,l,x,rfl,hp,_⟩:=hst;refine⟨eC.of hp,rfl,d,_,rfl,mz.k (k:=.inr w) hd' (kF (aW (List.length_take_le _ _) (by lia))),hD _ _ ⟨_,rfl,eD s hd,?_⟩⟩;rw[dO,e]
  match i,hi,go with
  | 0,hi,go=>cases hi;exact go _ _ _ B.a LW (by lia) _ (λ_ _ z=>z)
  | 1,hi,go=>cases hi;exact go _ _ _ B.b LV (by lia) _ (λ_ _ z=>z)
  | 2,hi,go=>cases hi;exact go _ _ _ B.c LU (by lia) _ (λ_ _ z=>z)
  | n+3,hi,_=>simp at hi
 ·rintro σ H' ⟨j2,rfl,s,hd'⟩;exact(k d H' s hd hd')
end S9
namespace S9
open PySem L2 SW
variable {K:aA}{vs:List V}{H:Hp}{Q:VK}{E:XK}{N:Addr}
theorem CA(v1 v2 v3:V)(w:Str):fS (yO v1 v2 v3) (.inr w)=if w="star" then some v1 else if w="sta" then some v2 else if w="st" then some v3 else none:=by
 unfold yO;by_cases h1:w="star"
 ·subst h1;rw[if_pos rfl];exact fu rfl
 rw[if_neg h1,fz (by intro e;exact h1 (Sum.inr.inj e).symm)];by_cases h2:w="sta"
 ·subst h2;rw[if_pos rfl];exact fu rfl
 rw[if_neg h2,fz (by intro e;exact h2 (Sum.inr.inj e).symm)];by_cases h3:w="st"
 ·subst h3;rw[if_pos rfl];exact fu rfl
 rw[if_neg h3,fz (by intro e;exact h3 (Sum.inr.inj e).symm)];rfl
theorem Jk(B:Bk H v1 v2 v3 g1 g2 g3)(w:Str):(fS (yO v1 v2 v3) (.inr w)=none∧kb w=none)∨∃v ps g,fS (yO v1 v2 v3) (.inr w)=some v∧jj H w ps g v∧kb w=some ps.length∧ps.length≤2:=by
 rw[CA];unfold kb;by_cases h1:w="star"
 ·subst h1;exact .inr ⟨v1,_,_,if_pos rfl,B.a,if_pos rfl,by decide⟩
 rw[if_neg h1,if_neg h1];by_cases h2:w="sta"
 ·subst h2;exact .inr ⟨v2,_,_,if_pos rfl,B.b,if_pos rfl,by decide⟩
 rw[if_neg h2,if_neg h2];by_cases h3:w="st"
 ·subst h3;exact .inr ⟨v3,_,_,if_pos rfl,B.c,if_pos rfl,by decide⟩
 rw[if_neg h3,if_neg h3];exact .inl ⟨rfl,rfl⟩
end S9
namespace S9
open PySem L2 SW
variable {K:aA}{vs:List V}{H:Hp}{Q:VK}{E:XK}{N:Addr}
end S9
namespace S9
open PySem L2 SW
variable {K:aA}{vs:List V}{H:Hp}{Q:VK}{E:XK}{N:Addr}
def FQ(K:aA):TS:=(de (eG (eA AY (eA AX (tC (.str "abcdefghijklmnopqrstuvwxyz")) (eA jb (eA jR (dN 2) (tC (.int 1))) (gm xI (dM (tC (.str "abcdefghijklmnopqrstuvwxyz")) dW)))) (dN 1)) (dX 1)) (eG (eA ql (eA jR (dN 2) (tC (.int 1))) (gm xI (dM (tC (.str "abcdefghijklmnopqrstuvwxyz")) dW))) (dX 2)))
def Kv(K:aA):TS:=(de (eG (eA AX (tC (.str "abcdefghijklmnopqrstuvwxyz")) (eA jb (dN 0) (gm xI (dM (tC (.str "abcdefghijklmnopqrstuvwxyz")) dW)))) (dX 1)) (de (eG (eA ql (dN 0) (gm xI (dM (tC (.str "abcdefghijklmnopqrstuvwxyz")) dW))) (dX 2)) (de (hX (eI (eA oQ (dN 2) (tC (.int 0)))) (FQ K)) (fI (dN 1)))))
def Vw:List Nat→Nat
 | []=>0
 | [c]=>c-97
 | c::d::w=>Vw (d::w)+(c-96)*26^(w.length+1)
theorem D8(h:w≠[]):Vw (c::w)=Vw w+(c-96)*26^w.length:=by
 cases w with
 | nil=>exact absurd rfl h
 | cons d w=>rfl
theorem uL:(("abcdefghijklmnopqrstuvwxyz":Str)).length=26:=by decide+kernel
theorem yM{n:Nat}(hn:n<26):qR (("abcdefghijklmnopqrstuvwxyz":Str)).cps.toList (n:Int)=some (n+97):=by refine dU ?_;rw[wo,ae,dC hn];rfl
structure ui(n r m:Nat)(x:Str):Prop where
 one:1≤x.length
 few:x.length+m≤30
 sm:r<2^m
 abc:∀c∈x.cps.toList,97≤c∧c≤122
 val:Vw x.cps.toList+26^x.length*r=n
theorem yJ(n:Nat)(hn:n≤16000000):ui n (n / 26) 20 ⟨#[n%26+97]⟩:=by
 refine⟨aC _,by show 1+20≤30;lia,by lia,λc hc=>?_,?_⟩
 ·have:c=n%26+97:=by simpa using hc
  lia
 ·show n%26+97-97+26^1*(n / 26)=n;lia
theorem As(h:ui n r m x)(hr:0<r):∃m',ui n ((r-1) / 26) m' (⟨#[(r-1)%26+97]⟩++x):=by
 cases m with
 | zero=>have:=h.sm;lia
 | succ m=>
  have el:((⟨#[(r-1)%26+97]⟩:Str)++x).length=x.length+1:=by show(#[(r-1)%26+97]++x.cps).size=x.cps.size+1;simp[cY]
  have ec:((⟨#[(r-1)%26+97]⟩:Str)++x).cps.toList=((r-1)%26+97)::x.cps.toList:=by show(#[(r-1)%26+97]++x.cps).toList=_;rw[cZ];rfl
  have hl:x.cps.toList.length=x.length:=bo;have hf:=h.few;have hs:=h.sm;refine⟨m,by rw[el];lia,by rw[el];lia,?_,λc hc=>?_,?_⟩
  ·rw[ce]at hs;generalize 2^m=z at *;lia
  ·rw[ec]at hc;rcases aB.mp hc with e|e
   ·lia
   ·exact h.abc c e
  ·rw[ec,D8 (λz=>by have:=h.one;rw[z]at hl;simp at hl;lia),el,hl];have hv:=h.val;have e1:(r-1)%26+97-96=(r-1)%26+1:=by lia
   rw[e1,ce];have e2:r=(r-1)%26+1+26*((r-1) / 26):=by lia
   generalize (r-1)%26=a at *;generalize (r-1) / 26=b at *;rw[e2]at hv;rw[←hv,cf,Nat.mul_comm (a+1),Nat.mul_assoc,Nat.add_assoc]
def pM:Sp:=λvs H Q _=>∃n:Nat,vs=[.int n]∧n≤16000000∧∀x:Str,Wd x→x.length≤30→Vw x.cps.toList=n→Q (.str x) H
theorem MS(h:pM vs H Q E):Kv K (gi Q) (start ["number","word","rest"] vs) H:=by
 obtain⟨n,rfl,hn,k⟩:=h;have z26:(("abcdefghijklmnopqrstuvwxyz":Str)).length≤sizeLine:=by rw[uL];exact fT
 have p26:(0:Int)<((("abcdefghijklmnopqrstuvwxyz":Str)).length:Int):=by rw[uL];decide
 have e0:∀j:Nat,qR (("abcdefghijklmnopqrstuvwxyz":Str)).cps.toList ((j:Int)%((("abcdefghijklmnopqrstuvwxyz":Str)).length:Int))=some (j%26+97):=λj=>by rw[uL,←Int.natCast_emod];exact yM (Nat.mod_lt _ (by decide))
 refine⟨_,rfl,z26,p26,_,_,_,rfl,rfl,z26,e0 n,?_⟩;have c26:∀i:Int,IC i ((("abcdefghijklmnopqrstuvwxyz":Str)).length:Int):=λi=>by rw[uL];exact⟨by decide,by decide⟩
 refine⟨_,rfl,z26,c26 _,?_⟩;have ed:∀j:Nat,((j:Int) / ((("abcdefghijklmnopqrstuvwxyz":Str)).length:Int))=((j / 26:Nat):Int):=λj=>by rw[uL];exact(Int.natCast_ediv j 26).symm
 dsimp only;rw[ed];refine⟨λm σ H'=>H'=H∧∃(r mm:Nat)(x:Str),σ=[some (.int n),some (.str x),some (.int r)]∧ui n r mm x∧m=r,⟨n / 26,rfl,_,_,_,rfl,yJ n hn,rfl⟩,?_⟩;rintro m σ H' ⟨rfl,r,mm,x,rfl,A,rfl⟩;refine⟨_,rfl,?_⟩;refine jP (λhl=>?_) (λhl=>?_)
 ·have hl:(0:Int)<(m:Int):=of_decide_eq_true hl;have hm:0<m:=by lia
  refine⟨λσ' H''=>∃m',m'<m∧(H''=H'∧∃(r mm:Nat)(x:Str),σ'=[some (.int n),some (.str x),some (.int r)]∧ui n r mm x∧m'=r),λ_ _ h=>h,?_⟩;obtain⟨mm',A'⟩:=As A hm;have ec:((m:Int)-1)=((m-1:Nat):Int):=by lia
  have hx:=A.few;refine⟨_,rfl,z26,p26,_,_,_,rfl,rfl,z26,by rw[ec];exact e0 (m-1),_,_,rfl,rfl,?_,?_⟩
  ·show 1+x.length≤_;rw[sizeLine_eq];lia
  refine⟨_,rfl,z26,c26 _,?_⟩;dsimp only;rw[ec,ed];exact⟨(m-1) / 26,by lia,rfl,_,_,_,rfl,A',rfl⟩
 ·have hl:¬(0:Int)<(m:Int):=λz=>hl (decide_eq_true z);have hm:m=0:=by lia
  subst hm;have hv:=A.val;rw[Nat.mul_zero,Nat.add_zero]at hv;have hf:=A.few;exact(k x ⟨A.one,by lia,A.abc⟩ (by lia) hv)
end S9
namespace S9
open PySem L2 SW
variable {K:aA}{vs:List V}{H:Hp}{Q:VK}{E:XK}{N C:Addr}
structure RW(K:aA)(C:Addr):Prop where
 cl:vt K C
 nT:iy K C "taken"
 nR:iy K C "tried"
def wf(d:Addr)(n:Nat):List (Str×V):=[("taken",.ref d),("tried",.int n)]
theorem Mh:¬(("taken":Str)="tried"):=by decide+kernel
theorem tM:(wf d n).lookup ("taken":Str)=some (.ref d):=by
 have e:(("taken":Str)=="taken")=true:=by decide+kernel
 simp only[wf,List.lookup,e]
theorem tL:(wf d n).lookup ("tried":Str)=some (.int n):=by
 have e:(("tried":Str)=="taken")=false:=by decide+kernel
 have e2:(("tried":Str)=="tried")=true:=by decide+kernel
 simp only[wf,List.lookup,e,e2]
theorem rN:iF "tried" (.int i) (wf d n)=([("taken",.ref d),("tried",.int i)]:List (Str×V)):=by simp only[wf,iF,if_neg Mh,if_true]
structure FW(C:Addr)(H:Hp)(p dx d:Addr)(n:Nat)(ws:List Str):Prop where
 ob:H p=some (.ins C dx (wf d n))
 dk:H d=some (.dK (im ws))
def cnt(n:Nat):List Str→Nat
 | []=>0
 | y::r=>(if n≤Vw y.cps.toList then 1 else 0)+cnt n r
theorem BX(n:Nat)(ws:List Str):cnt (n+1) ws≤cnt n ws:=by
 induction ws with
 | nil=>exact aC _
 | cons y r ih=>unfold cnt;split<;>split<;>lia
theorem Hl(h:x∈ws)(e:Vw x.cps.toList=n):cnt (n+1) ws<cnt n ws:=by
 induction ws with
 | nil=>cases h
 | cons y r ih=>
  have:=BX n r;rcases aB.mp h with rfl|h
  ·unfold cnt;rw[if_neg (by lia),if_pos (by lia)];lia
  ·have:=ih h;unfold cnt;split<;>split<;>lia
theorem xG(n:Nat)(ws:List Str):cnt n ws≤ws.length:=by
 induction ws with
 | nil=>exact aC _
 | cons y r ih=>unfold cnt;rw[aE];split<;>lia
theorem vi(n:Nat)(ws:List Str)(x:Str):cnt n (ws++[x])=cnt n ws+(if n≤Vw x.cps.toList then 1 else 0):=by
 induction ws with
 | nil=>simp[cnt]
 | cons y r ih=>rw[aN,cnt,cnt,ih];lia
def Bq(p d:Addr)(H H':Hp):Prop:=∀b o,b≠p→b≠d→H b=some o→H' b=some o
theorem Bq.refl:Bq p d H H:=λ_ _ _ _ h=>h
theorem Bq.trans(a:Bq p d H H1)(b:Bq p d H1 H2):Bq p d H H2:=λc o h1 h2 h=>b c o h1 h2 (a c o h1 h2 h)
def mU(C:Addr):Sp:=λvs H Q _=>∃(p dx d:Addr)(n:Nat)(ws:List Str)(w:Str),vs=[.ref p,.str w]∧FW C H p dx d n ws∧Wd w∧ws.length≤8000000∧n+cnt n ws≤ws.length∧
 ∀(x:Str)(n':Nat)(H':Hp),Wd x→x∉ws→(w∉ws→x=w)→n'+cnt n' (ws++[x])≤ws.length+1→Bq p d H H'→FW C H' p dx d n' (ws++[x])→Q (.str x) H'
def Ez(K:aA)(a_FreshWords:Addr):TS:=(de (eG (eV pM [] E0 (dM (kC K (dN 0) "tried") dW)) (dX 2)) (oa K (dN 0) (tC (.int 1)) DO "tried"))
def Ki(K:aA)(a_FreshWords:Addr):TS:=(de (eG (dN 1) (dX 2)) (de (hX (tB (zt (dN 2) (kC K (dN 0) "taken"))) (Ez K a_FreshWords)) (de (lB (kC K (dN 0) "taken") (dN 2) (tC (.bl true))) (fI (dN 2)))))
def one(x:Str)(ws:List Str):Nat:=if x∈ws then 1 else 0
theorem MI(rc:RW K C)(h:mU C vs H Q E):Ki K C (gi Q) (start ["self","word","free"] vs) H:=by
 obtain⟨p,dx,d,n,ws,w,rfl,A,hw,hl,hn,k⟩:=h;have hpd:p≠d:=fY A.ob A.dk (by intro z;cases z);have c0:=xG n ws;have o0:one w ws≤1:=by unfold one;split<;>lia
 refine ?_;refine⟨λm σ H'=>∃(x:Str)(r:Nat),σ=[some (.ref p),some (.str w),some (.str x)]∧FW C H' p dx d r ws∧Bq p d H H'∧Wd x∧(w∉ws→x=w)∧m=cnt r ws+one x ws∧r+m≤n+(cnt n ws+one w ws)∧((x=w∧r=n)∨Vw x.cps.toList<r),⟨_,w,n,rfl,A,.refl,hw,λ_=>rfl,rfl,aC _,.inl ⟨rfl,rfl⟩⟩,?_⟩;rintro m σ H1 ⟨x,r,rfl,A1,ap1,hx,hxw,rfl,hr,hv0⟩;refine⟨p,C,dx,_,_,rfl,A1.ob,rc.cl,rc.nT,tM,d,_,rfl,iN.k (k:=.inr x) A1.dk,_,rfl,?_⟩;rw[m9];by_cases hm:x∈ws
 ·refine fi (decide_eq_true hm) ?_;refine⟨λσ' H'=>∃m',m'<cnt r ws+one x ws∧∃(x:Str)(r:Nat),σ'=[some (.ref p),some (.str w),some (.str x)]∧FW C H' p dx d r ws∧Bq p d H H'∧Wd x∧(w∉ws→x=w)∧m'=cnt r ws+one x ws∧r+m'≤n+(cnt n ws+one w ws)∧((x=w∧r=n)∨Vw x.cps.toList<r),λ_ _ h=>h,?_⟩;have o1:one x ws=1:=if_pos hm;refine⟨p,C,dx,_,_,rfl,A1.ob,rc.cl,rc.nR,tL,r,rfl,by lia,λy hy hy2 hv=>?_⟩;refine⟨p,C,dx,_,_,rfl,A1.ob,rc.cl,rc.nR,tL,_,_,rfl,rfl,dx,_,A1.ob,by show 2<1000;decide,?_⟩;rw[rN];have hc:cnt (r+1) ws+one y ws≤cnt r ws:=by
   by_cases hy3:y∈ws
   ·have:=Hl hy3 hv;rw[show one y ws=1 from if_pos hy3];lia
   ·have:=BX r ws;rw[show one y ws=0 from if_neg hy3];lia
  refine⟨cnt (r+1) ws+one y ws,by lia,y,r+1,rfl,⟨by rw[dO];rfl,by rw[db hpd.symm];exact A1.dk⟩,ap1.trans λb o h1 _ e=>by rw[db h1];exact e,hy,λz=>absurd (hxw z▸hm) z,rfl,by lia,.inr (by lia)⟩
 ·refine eM (decide_eq_false hm) ?_;refine⟨p,C,dx,_,_,rfl,A1.ob,rc.cl,rc.nT,tM,d,_,rfl,mz.k (k:=.inr x) A1.dk (by rw[nU,sizeLine_eq];lia),?_⟩;rw[nI];have ea:lJ ws x=ws++[x]:=by unfold lJ;rw[if_neg hm]
  rw[ea];have o1:one x ws=0:=if_neg hm;have hc:r+cnt r (ws++[x])≤ws.length+1:=by
   rw[vi];rcases hv0 with⟨rfl,rfl⟩|hv0
   ·split<;>lia
   ·rw[if_neg (by lia)];lia
  refine(k x r _ hx hm hxw hc (ap1.trans λb o _ h2 e=>by rw[db h2];exact e) ⟨by rw[db hpd];exact A1.ob,dO⟩)
end S9
namespace S9
open PySem L2 SW
variable {K:aA}{vs:List V}{H:Hp}{Q:VK}{E:XK}{N C:Addr}
def mT:Sp:=λvs H Q _=>∃(p q:Addr)(x:V)(src:Str)(path:V)(e hd:V)(n:Int),vs=[.ref p,hd,.int n]∧H p=some (.tup [x,.str src,path,e])∧
 ∀(r s:Addr)(H':Hp),dq H H'→H' s=some (.tup [.str src,path])→H' r=some (.tup [.str "row",hd,.int n,.ref s])→Q (.ref r) H'
def Kr(K:aA):TS:=(fI (fP (dM (tC (.str "row")) (dM (dN 1) (dM (dN 2) (dM (fP (dM (eA (eE K) (dN 0) (tC (.int 1))) (dM (eA (eE K) (dN 0) (tC (.int 2))) dW))) dW))))))
theorem MO(h:mT vs H Q E):Kr K (gi Q) (start ["spot","head","many"] vs) H:=by obtain⟨p,q,x,src,path,e,hd,n,rfl,hp,k⟩:=h;refine⟨eC.of hp,rfl,eC.of hp,rfl,fT,λs hs=>⟨fT,λr hr=>?_⟩⟩;have s1:=dR (o:=.tup [.str src,path]) hs;have s2:=dR (o:=.tup [.str "row",hd,.int n,.ref s]) hr;exact k r s _ (s1.trans s2) (s2 _ _ dO) dO
end S9
namespace S9
open PySem L2 SW
variable {K:aA}{vs:List V}{H:Hp}{Q:VK}{E:XK}{N C:Addr}
def tm(C:Addr):Sp:=λvs H Q _=>∃(p dx l:Addr)(us:List Str),vs=[.ref p,.ref l]∧H p=some (.ins C dx [])∧H l=some (.lst (us.map V.str))∧us.length≤900∧
 ∀(d:Addr)(ws:List Str)(H':Hp),H d=none→(∀x,x∈ws↔x∈us)→ws.length≤us.length→(∀b o,b≠p→H b=some o→H' b=some o)→FW C H' p dx d 0 ws→Q .non H'
def Ey(K:aA)(a_FreshWords:Addr):TS:=(lB (kC K (dN 0) "taken") (dN 2) (tC (.bl true)))
def Kg(K:aA)(a_FreshWords:Addr):TS:=(de (tw K (dN 0) io "taken") (de (iY (i7 K (dN 1)) (dX 2) (Ey K a_FreshWords)) (tw K (dN 0) (tC (.int 0)) "tried")))
theorem Bj(ws:List Str)(x y:Str):y∈lJ ws x↔y∈ws∨y=x:=by
 unfold lJ;split
 ·rename_i h;exact⟨.inl,λz=>z.elim id λe=>e▸h⟩
 ·simp
theorem Bl(ws:List Str)(x:Str):(lJ ws x).length≤ws.length+1:=by
 unfold lJ;split
 ·lia
 ·simp
theorem CB:([(("taken":Str),V.ref d)]).lookup ("taken":Str)=some (V.ref d):=by
 have e:(("taken":Str)=="taken")=true:=by decide+kernel
 simp only[List.lookup,e]
theorem MG(rc:RW K C)(h:tm C vs H Q E):Kg K C (gi Q) (start ["self","taken","word"] vs) H:=by
 obtain⟨p,dx,l,us,rfl,hp,hl,hn,k⟩:=h;intro d hd;have s1:dq H (upd H d (.dK [])):=dR hd;have d1:(upd H d (.dK [])) d=some (.dK []):=dO;generalize upd H d (.dK [])=H1 at s1 d1⊢;refine⟨p,C,dx,[],rfl,s1 _ _ hp,rc.cl,rc.nT,by show 0<1000;decide,?_⟩;have hpd:p≠d:=dZ hp hd;have hpl:l≠p:=fY hl hp (by intro z;cases z);have hld:l≠d:=dZ hl hd;have o2:(upd H1 p (.ins C dx (iF "taken" (.ref d) []))) p=some (.ins C dx [("taken",.ref d)]):=dO;have d2:(upd H1 p (.ins C dx (iF "taken" (.ref d) []))) d=some (.dK (im [])):=by rw[db hpd.symm];exact d1
 have a2:∀b o,b≠p→H b=some o→(upd H1 p (.ins C dx (iF "taken" (.ref d) []))) b=some o:=λb o h e=>by rw[db h];exact s1 _ _ e
 generalize upd H1 p (.ins C dx (iF "taken" (.ref d) []))=H2 at o2 d2 a2⊢;refine⟨l,rfl,⟨_,eK.of (a2 _ _ hpl hl)⟩,?_⟩;refine gw (K:=K) (a:=l) (xs:=us.map V.str) (λi σ H'=>∃j2 ws,σ=[some (.ref p),some (.ref l),j2]∧H' p=some (.ins C dx [("taken",.ref d)])∧H' d=some (.dK (im ws))∧(∀b o,b≠p→H b=some o→H' b=some o)∧(∀x,x∈ws↔x∈us.take i)∧ws.length≤i)
  ⟨none,[],rfl,o2,d2,a2,by simp,aC _⟩ (λi σ H' _ hP=>?_) ?_ ?_
 ·obtain⟨_,_,_,_,_,a,_⟩:=hP;exact eK.of (a _ _ hpl hl)
 ·rintro i y σ H3 hi ⟨j2,ws,rfl,o3,d3,a3,m3,l3⟩;obtain⟨x,hx,rfl⟩:∃x,us[i]?=some x∧y=V.str x:=by
   rw[ae]at hi;cases e:us[i]? with
   | none=>rw[e]at hi;cases hi
   | some z=>rw[e]at hi;exact⟨z,rfl,(Option.some.inj hi).symm⟩
  have hil:i<us.length:=(aO.mp hx).1;have hlen:=Bl ws x;refine⟨p,C,dx,_,_,rfl,o3,rc.cl,rc.nT,CB,d,_,rfl,mz.k (k:=.inr x) d3 (kF (by rw[nU];lia)),?_⟩;rw[nI];refine⟨_,lJ ws x,rfl,by rw[db hpd];exact o3,dO,λb o h e=>by rw[db (dZ e hd)];exact a3 b o h e,λz=>?_,by lia⟩;rw[Bj,m3,az,hx];simp
 ·rintro σ H3 ⟨j2,ws,rfl,o3,d3,a3,m3,l3⟩;rw[aa]at m3 l3;refine⟨p,C,dx,_,rfl,o3,rc.cl,rc.nR,by show 1<1000;decide,?_⟩;refine k d ws _ hd (λx=>by rw[m3,bJ]) l3 (λb o h e=>by rw[db h];exact a3 b o h e) ⟨?_,by rw[db hpd.symm];exact d3⟩;rw[dO];simp only[iF,if_neg Mh];rfl
end S9
namespace S9
open PySem L2 SW
variable {K:aA}{vs:List V}{H:Hp}{Q:VK}{E:XK}{N C:Addr}
structure rH(H:Hp)(v1 v2 v3:V)(t1 t2 t3:T):Prop where
 a:jj H "star" [] (gT t1) v1
 b:jj H "sta" ["sab"] (gT t2) v2
 c:jj H "st" ["sab","tab"] (gT t3) v3
theorem rH.mono(s:dq H H')(h:rH H v1 v2 v3 t1 t2 t3):rH H' v1 v2 v3 t1 t2 t3:=⟨h.a.mono s,h.b.mono s,h.c.mono s⟩
theorem rH.g(h:rH H v1 v2 v3 t1 t2 t3):Bk H v1 v2 v3 (gT t1) (gT t2) (gT t3):=⟨h.a,h.b,h.c⟩
end S9
namespace S9
open PySem L2 SW
variable {K:aA}{vs:List V}{H:Hp}{Q:VK}{E:XK}{N C:Addr}
theorem wO:∀{ws ls:List Str},ws.Nodup→(∀x∈ws,x∈ls)→ws.length≤ls.length
 | [],_,_,_=>aU _
 | x::ws,ls,nd,h=>by have hx:=h x bb;obtain⟨n1,n2⟩:=bR.mp nd;have:=wO (ls:=ls.erase x) n2 λy hy=>(List.mem_erase_of_ne (by rintro rfl;exact n1 hy)).mpr (h y (bC _ hy));rw[List.length_erase_of_mem hx]at this;have:=List.length_pos_of_mem hx;rw[aE];lia
theorem yx(h:Up ws):ws.Nodup:=List.Pairwise.imp (λ{a b}(z:qU a b)(e:a=b)=>by subst e;exact qU.irrefl a z) h
theorem wb{ws:List Str}{t:T}(h:Up ws)(m:∀x,x∈ws↔t.out x):ws.length≤t.names.length:=wO (yx h) λx hx=>T.names_occ.mpr (T.out_occ ((m x).mp hx))
def tq:Sp:=λvs H Q _=>∃(b:Addr)(v1 v2 v3 v:V)(t1 t2 t3 t:T),vs=[.ref b,v]∧H b=some (.lst [v1,v2,v3])∧rH H v1 v2 v3 t1 t2 t3∧gG H t v∧(∀y∈[t,t1,t2,t3],y.size≤900∧y.names.length<64)∧
 ∀(l:Addr)(us:List Str)(H':Hp),dq H H'→H l=none→H' l=some (.lst (us.map V.str))→us.length≤252→(∀x,x∈us↔∃y∈[t,t1,t2,t3],y.out x)→Q (.ref l) H'
def wJ(K:aA):TS:=(fQ (kB K "list" mW (dN 2) (dM (eV oG [] E0 (dM (eA (eE K) (dN 3) (tC (.int 2))) dW)) dW)))
def Ib(K:aA):TS:=(de (eG (eV oG [] E0 (dM (dN 1) dW)) (dX 2)) (de (iY (i7 K (dN 0)) (dX 3) (wJ K)) (fI (dN 2))))
theorem LQ(h:tq vs H Q E):Ib K (gi Q) (start ["book","piece","words","stamp"] vs) H:=by
 obtain⟨b,v1,v2,v3,v,t1,t2,t3,t,rfl,hb,B,hd,hs,k⟩:=h;have ht:=hs t (by simp);refine⟨t,v,rfl,hd,ht.1,ht.2,λl ws H1 s1 n1 h1 up1 m1=>?_⟩;refine⟨b,rfl,⟨_,eK.of (s1 _ _ hb)⟩,?_⟩;have hlb:l≠b:=(dZ hb n1).symm;refine gw (K:=K) (a:=b) (xs:=[v1,v2,v3]) (λi σ H'=>∃(j3:Option V)(us:List Str),σ=[some (.ref b),some v,some (.ref l),j3]∧dq H H'∧H' l=some (.lst (us.map V.str))∧us.length≤63*(i+1)∧∀x,x∈us↔∃y∈t::[t1,t2,t3].take i,y.out x)
  ⟨none,ws,rfl,s1,h1,by have:=wb up1 m1;lia,λx=>by rw[m1];simp⟩ (λi σ H' _ hP=>?_) ?_ ?_
 ·obtain⟨_,_,_,s,_⟩:=hP;exact eK.of (s _ _ hb)
 ·rintro i y σ H2 hi ⟨j3,us,rfl,s2,h2,l2,m2⟩;have B2:=B.mono s2;have go:∀(w:Str)(ps:List Str)(tt:T),jj H2 w ps (gT tt) y→tt∈[t,t1,t2,t3]→i≤3→[t1,t2,t3].take (i+1)=[t1,t2,t3].take i++[tt]→∀D:iz,(∀σ H',(∃(j3:Option V)(us:List Str),σ=[some (.ref b),some v,some (.ref l),j3]∧dq H H'∧H' l=some (.lst (us.map V.str))∧us.length≤63*(i+1+1)∧∀x,x∈us↔∃y∈t::[t1,t2,t3].take (i+1),y.out x)→D.nx σ H')→dX 3 y [some (.ref b),some v,some (.ref l),j3] H2 λσ2 H2=>wJ K D σ2 H2:=by
   intro w ps tt st hm hi3 e D hD;obtain⟨p,q,x,rfl,hp,_,dx⟩:=st;have hg:=hs tt hm;refine⟨.inl ⟨rfl,_,eK.of h2⟩,eC.of hp,rfl,tt,x,rfl,gx dx,hg.1,hg.2,λl' ws' H3 s3 n3 h3 up3 m3=>?_⟩;have hw:=wb up3 m3;refine⟨l,l',_,_,rfl,rfl,s3 _ _ h2,h3,by rw[aa,aa,sizeLine_eq];lia,hD _ _ ⟨_,us++ws',rfl,eD (s2.trans s3) n1,by rw[dO,List.map_append],by rw[aD];lia,λz=>?_⟩⟩;rw[aV,m2,m3,e];constructor
   ·rintro(⟨y,hy,o⟩|o)
    ·refine⟨y,?_,o⟩;rcases aB.mp hy with rfl|hy
     ·exact bb
     ·exact bC _ (ag _ hy)
    ·exact⟨tt,bC _ (aQ _ (aG.mpr rfl)),o⟩
   ·rintro⟨y,hy,o⟩;rcases aB.mp hy with rfl|hy
    ·exact .inl ⟨_,bb,o⟩
    ·rcases aV.mp hy with hy|hy
     ·exact .inl ⟨y,bC _ hy,o⟩
     ·rw[aG]at hy;subst hy;exact .inr o
  match i,hi,go with
  | 0,hi,go=>cases hi;exact go _ _ _ B2.a (by simp) (by lia) rfl _ (λ_ _ z=>z)
  | 1,hi,go=>cases hi;exact go _ _ _ B2.b (by simp) (by lia) rfl _ (λ_ _ z=>z)
  | 2,hi,go=>cases hi;exact go _ _ _ B2.c (by simp) (by lia) rfl _ (λ_ _ z=>z)
  | n+3,hi,_=>simp at hi
 ·rintro σ H2 ⟨j3,us,rfl,s2,h2,l2,m2⟩;exact(k l us H2 s2 n1 h2 (by simp at l2;lia) m2)
end S9
namespace S9
open PySem SW
inductive Hd where
 | num(n:Int)|name(w:Str)|sum|less|cho|lt(w:Str)
def Hd.ar:Hd→Nat
 | .num _=>0
 | .name _=>0
 | .sum=>2
 | .less=>2
 | .cho=>3
 | .lt _=>2
inductive Rw where
 | row(h:Hd)(src:Str)(path:List Nat)
 | rdy(n z:Nat)
def Rw.ar:Rw→Nat
 | .row h _ _=>h.ar
 | .rdy _ _=>0
def Rw.wt:Rw→Nat
 | .row _ _ _=>1
 | .rdy _ z=>z
mutual
inductive Mg where
 | called(w:Str)
 | ready(n z:Nat)
 | handed(t:T)(src:Str)(path:List Nat)(e:En)
inductive En where
 | nil
 | cons(w:Str)(m:Mg)(e:En)
end
def En.look:En→Str→Option Mg
 | .nil,_=>none
 | .cons w m e,v=>if w=v then some m else e.look v
def En.put:En→Str→Mg→En
 | .nil,v,n=>.cons v n .nil
 | .cons w m e,v,n=>if w=v then .cons w n e else .cons w m (e.put v n)
def En.len:En→Nat
 | .nil=>0
 | .cons _ _ e=>e.len+1
theorem En.put_len(v:Str)(n:Mg):∀e:En,(e.put v n).len≤e.len+1
 | .nil=>aC _
 | .cons w m e=>by have:=En.put_len v n e;unfold En.put;split<;>simp only[En.len]<;>lia
theorem En.look_put(v x:Str)(n:Mg):∀e:En,(e.put v n).look x=if v=x then some n else e.look x
 | .nil=>by simp only[En.put,En.look]
 | .cons w m e=>by
  have ih:=En.look_put v x n e;unfold En.put;split
  ·rename_i h;subst h;simp only[En.look];split<;>rfl
  ·rename_i h;simp only[En.look,ih];split
   ·rename_i h2;subst h2;rw[if_neg (λz=>h z.symm)]
   ·rfl
structure eF where
 t:T
 src:Str
 path:List Nat
 e:En
def eF.kid(s:eF)(i:Nat)(t:T):eF:=⟨t,s.src,s.path++[i],s.e⟩
def wi(s:eF):Nat→List T→List eF
 | _,[]=>[]
 | i,t::ts=>s.kid i t::wi s (i+1) ts
def eF.within(s:eF):List eF:=wi s 0 s.t.kids
theorem uq(s:eF):∀(ts:List T)(i:Nat),(wi s i ts).length=ts.length
 | [],_=>rfl
 | _::ts,i=>by simp[wi,uq s ts]
def pl:T→Option Hd
 | .num n=>some (.num n)
 | .sum _ _=>some .sum
 | .less _ _=>some .less
 | .cho _ _ _=>some .cho
 | _=>none
theorem EW(e:pl t=some h):h.ar=t.kids.length:=by cases t<;>simp only[pl,Option.some.injEq,reduceCtorEq]at e<;>subst e<;>rfl
inductive Tk(ws:List Str):eF→List eF→List Rw→List Str→Prop where
 | plain{s:eF}{h:Hd}:pl s.t=some h→Tk ws s s.within.reverse [.row h s.src s.path] ws
 | free{s:eF}{w:Str}:s.t=.name w→s.e.look w=none→Tk ws s [] [.row (.name w) s.src s.path] ws
 | called{s:eF}{w v:Str}:s.t=.name w→s.e.look w=some (.called v)→Tk ws s [] [.row (.name v) s.src s.path] ws
 | ready{s:eF}{w:Str}{n z:Nat}:s.t=.name w→s.e.look w=some (.ready n z)→Tk ws s [] [.rdy n z] ws
 | handed{s:eF}{w:Str}{t:T}{src:Str}{path:List Nat}{e:En}:s.t=.name w→s.e.look w=some (.handed t src path e)→Tk ws s [⟨t,src,path,e⟩] [] ws
 | lt{s:eF}{w x:Str}{a b:T}:s.t=.lt w a b→Wd x→x∉ws→(w∉ws→x=w)→
  Tk ws s [⟨b,s.src,s.path++[1],s.e.put w (.called x)⟩,s.kid 0 a] [.row (.lt x) s.src s.path] (ws++[x])
inductive yg:List eF→List Rw→List Str→List Rw→List Str→Prop where
 | nil{R:List Rw}{ws:List Str}:yg [] R ws R ws
 | step{S P:List eF}{s:eF}{R rs R':List Rw}{ws ws' ws'':List Str}:Tk ws s P rs ws'→yg (S++P) (R++rs) ws' R' ws''→yg (S++[s]) R ws R' ws''
def oA:T→Prop
 | .num _=>False
 | .name _=>False
 | .sum a b=>oA a∨oA b
 | .less a b=>oA a∨oA b
 | .cho a b c=>oA a∨oA b∨oA c
 | .lt _ a b=>oA a∨oA b
 | .st0 _=>True
 | .st1 _ _=>True
 | .st2 _ _ _=>True
def Mg.isH:Mg→Prop
 | .handed _ _ _ _=>True
 | _=>False
def Op(s:eF):Prop:=oA s.t∨∃w m,s.t.out w∧s.e.look w=some m∧m.isH
theorem BD(h:¬Op s)(h1:oA t→oA s.t)(h2:∀w,t.out w→s.t.out w):¬Op (s.kid i t):=by
 rintro(z|⟨w,m,o,l,i⟩)
 ·exact h (.inl (h1 z))
 ·exact h (.inr ⟨w,m,h2 w o,l,i⟩)
theorem Iu(h:¬Op s)(h1:∀t∈ts,(oA t→oA s.t)∧∀w,t.out w→s.t.out w):∀(i:Nat),∀k∈wi s i ts,¬Op k:=by
 induction ts with
 | nil=>intro i k hk;cases hk
 | cons t ts ih=>
  intro i k hk;rcases aB.mp hk with rfl|hk
  ·exact BD h (h1 t (.head _)).1 (h1 t (.head _)).2
  ·exact ih (λt ht=>h1 t (.tail _ ht)) (i+1) k hk
theorem IQ(h:Tk ws s P rs ws')(o:¬Op s):∀k∈P,¬Op k:=by
 cases h with
 | plain e=>
  intro k hk;rw[List.mem_reverse]at hk;refine Iu o (λt ht=>?_) 0 k hk;obtain⟨st,src,path,en⟩:=s;cases st<;>simp only[pl,reduceCtorEq]at e
  all_goals (simp only[T.kids,aB,aF,or_false]at ht)
  case sum=>rcases ht with rfl|rfl<;>exact⟨λz=>by simp[oA,z],λw z=>by simp[T.out,z]⟩
  case less=>rcases ht with rfl|rfl<;>exact⟨λz=>by simp[oA,z],λw z=>by simp[T.out,z]⟩
  case cho=>rcases ht with rfl|rfl|rfl<;>exact⟨λz=>by simp[oA,z],λw z=>by simp[T.out,z]⟩
 | free _ _=>intro k hk;cases hk
 | called _ _=>intro k hk;cases hk
 | ready _ _=>intro k hk;cases hk
 | handed e l=>exact absurd (.inr ⟨_,_,by rw[e];exact rfl,l,aH⟩) o
 | @lt w x a b e _ _ _=>
  intro k hk;rcases aB.mp hk with rfl|hk
  ·rintro(z|⟨v,m,o2,l,i⟩)
   ·exact o (.inl (by rw[e];exact .inr z))
   ·rw[En.look_put]at l;by_cases hv:w=v
    ·subst hv;rw[if_pos rfl]at l;cases l;exact i
    ·rw[if_neg hv]at l;exact o (.inr ⟨v,m,by rw[e];exact .inr ⟨hv,o2⟩,l,i⟩)
  ·rw[aG]at hk;subst hk;exact BD o (λz=>by rw[e];exact .inl z) (λw z=>by rw[e];exact .inl z)
def ji(f:Str→Nat):T→Nat
 | .num _=>1
 | .name w=>f w
 | .sum a b=>1+ji f a+ji f b
 | .less a b=>1+ji f a+ji f b
 | .cho a b c=>1+ji f a+ji f b+ji f c
 | .lt w a b=>1+ji f a+ji (λv=>if w=v then 1 else f v) b
 | .st0 _=>1
 | .st1 _ a=>1+ji f a
 | .st2 _ a b=>1+ji f a+ji f b
mutual
def Mg.wt(h:Nat):Mg→Nat
 | .called _=>1
 | .ready _ z=>z
 | .handed t _ _ e=>h+ji (e.fw h) t
def En.fw(h:Nat):En→Str→Nat
 | .nil=>λ_=>1
 | .cons w m e=>λv=>if w=v then m.wt h else e.fw h v
end
def eF.wt(h:Nat)(s:eF):Nat:=ji (s.e.fw h) s.t
def lM(h:Nat)(S:List eF):Nat:=(S.map (eF.wt h)).sum
def kn(R:List Rw):Nat:=(R.map Rw.wt).sum
theorem gC(h:Nat)(a b:List eF):lM h (a++b)=lM h a+lM h b:=by simp[lM]
theorem gq(h:Nat)(s:eF):lM h [s]=s.wt h:=by simp[lM]
theorem k8(h:Nat)(s:eF)(r:List eF):lM h (s::r)=s.wt h+lM h r:=by simp[lM]
theorem jl(h:Nat):lM h []=0:=rfl
theorem rJ(h:Nat)(a:List eF):lM h a.reverse=lM h a:=by simp[lM]
theorem lu(a b:List Rw):kn (a++b)=kn a+kn b:=by simp[kn]
theorem jI(r:Rw)(b:List Rw):kn (r::b)=r.wt+kn b:=by simp[kn]
theorem jU:kn []=0:=rfl
theorem om(h:Nat)(v:Str):∀e:En,e.fw h v=match e.look v with|none=>1|some m=>m.wt h
 | .nil=>rfl
 | .cons w m e=>by
  simp only[En.fw,En.look];split
  ·rfl
  ·exact om h v e
theorem Hf(h:Nat)(w x:Str)(e:En):(e.put w (.called x)).fw h=λv=>if w=v then 1 else e.fw h v:=by
 funext v;rw[om,En.look_put];by_cases hv:w=v
 ·rw[if_pos hv,if_pos hv];rfl
 ·rw[if_neg hv,if_neg hv,om]
theorem qZ{s:eF}{h:Nat}{hd:Hd}(e:pl s.t=some hd):s.wt h=1+lM h s.within:=by
 obtain⟨st,src,path,en⟩:=s;cases st<;>simp only[pl,reduceCtorEq]at e
 all_goals simp only[eF.wt,eF.within,T.kids,wi,k8,jl,ji,eF.kid]
 all_goals lia
theorem yp{s:eF}{h:Nat}{w x:Str}{a b:T}(e:s.t=.lt w a b):s.wt h=1+lM h [⟨b,s.src,s.path++[1],s.e.put w (.called x)⟩,s.kid 0 a]:=by obtain⟨st,src,path,en⟩:=s;simp only at e;subst e;simp only[k8,jl,eF.wt,Hf,eF.kid,ji];lia
theorem iW{s:eF}{h:Nat}{w:Str}(e:s.t=.name w):s.wt h=match s.e.look w with|none=>1|some m=>m.wt h:=by unfold eF.wt;rw[e];exact om h w s.e
theorem EF{ws ws':List Str}{s:eF}{P:List eF}{rs:List Rw}(h:Tk ws s P rs ws'):lM 0 P+kn rs=s.wt 0:=by
 cases h with
 | plain e=>rw[qZ e,rJ,jI,jU];simp only[Rw.wt];lia
 | free e l=>rw[iW e,l];rfl
 | called e l=>rw[iW e,l];rfl
 | ready e l=>rw[iW e,l];simp only[jl,jI,jU,Rw.wt,Mg.wt];lia
 | handed e l=>rw[iW e,l];simp only[k8,jl,jU,Mg.wt,eF.wt];lia
 | @lt w x a b e _ _ _=>rw[yp (x:=x) e,jI,jU];simp only[Rw.wt];lia
theorem vC(h:yg S R ws R' ws'):kn R'=lM 0 S+kn R:=by
 induction h with
 | nil=>rw[jl,bw]
 | step a _ ih=>rw[ih,gC,gC,gq,lu,←EF a];lia
end S9
namespace S9
open PySem SW
def SF(w:Str)(k:Nat):Prop:=kb w=some k
def BT(t:T)(path:List Nat)(n:Nat):Prop:=WT SF t∧path.length+t.size≤1000∧n+t.size≤1000∧t.size≤900∧t.names.length<64
mutual
def Mg.ok(P:Nat→Nat→Prop):Mg→Prop
 | .called _=>True
 | .ready n z=>1≤z∧P n z
 | .handed t _ path e=>BT t path e.len∧e.ok P
def En.ok(P:Nat→Nat→Prop):En→Prop
 | .nil=>True
 | .cons w m e=>m.ok P∧e.ok P∧e.look w=none
end
def eF.ok(P:Nat→Nat→Prop)(s:eF):Prop:=BT s.t s.path s.e.len∧s.e.ok P
def Rw.ok(P:Nat→Nat→Prop):Rw→Prop
 | .row _ _ _=>True
 | .rdy n z=>1≤z∧P n z
mutual
theorem Mg.ok_mono(h:∀n z,P n z→P' n z):∀{m:Mg},m.ok P→m.ok P'
 | .called _,_=>aH
 | .ready _ _,a=>⟨a.1,h _ _ a.2⟩
 | .handed _ _ _ e,a=>⟨a.1,En.ok_mono h (e:=e) a.2⟩
theorem En.ok_mono(h:∀n z,P n z→P' n z):∀{e:En},e.ok P→e.ok P'
 | .nil,_=>aH
 | .cons _ m e,a=>⟨Mg.ok_mono h (m:=m) a.1,En.ok_mono h (e:=e) a.2.1,a.2.2⟩
end
theorem eF.ok_mono{P P':Nat→Nat→Prop}(h:∀n z,P n z→P' n z){s:eF}(a:s.ok P):s.ok P':=⟨a.1,En.ok_mono h a.2⟩
theorem Rw.ok_mono(h:∀n z,P n z→P' n z):∀{r:Rw},r.ok P→r.ok P'
 | .row _ _ _,_=>aH
 | .rdy _ _,a=>⟨a.1,h _ _ a.2⟩
variable {P:Nat→Nat→Prop}
theorem oi:∀{e:En},e.ok P→e.look v=some m→m.ok P
 | .nil,_,h=>by simp only[En.look,reduceCtorEq]at h
 | .cons w n e,a,h=>by
  simp only[En.look]at h;split at h
  ·cases h;exact a.1
  ·exact oi (e:=e) a.2.1 h
theorem AZ(hm:m.ok P):∀{e:En},e.ok P→(e.put v m).ok P
 | .nil,_=>⟨hm,aH,rfl⟩
 | .cons w n e,a=>by
  unfold En.put;split
  ·exact⟨hm,a.2⟩
  ·rename_i hw;exact⟨a.1,AZ hm (e:=e) a.2.1,by rw[En.look_put,if_neg (λz=>hw z.symm)];exact a.2.2⟩
theorem Bb(i:Nat)(h:BT t path n)(hu:u∈t.kids)(hm:m≤n+1):BT u (path++[i]) m:=by
 obtain⟨a,b,c,d,e⟩:=h;have key:WT SF u∧u.size+1≤t.size∧u.names.length≤t.names.length:=by
  cases t<;>simp only[T.kids,aB,aF,or_false]at hu
  case sum=>rcases hu with rfl|rfl<;>simp only[WT,T.size,T.names,aD]at *<;>exact⟨by simp[a],by lia,by lia⟩
  case less=>rcases hu with rfl|rfl<;>simp only[WT,T.size,T.names,aD]at *<;>exact⟨by simp[a],by lia,by lia⟩
  case cho=>rcases hu with rfl|rfl|rfl<;>simp only[WT,T.size,T.names,aD]at *<;>exact⟨by simp[a],by lia,by lia⟩
  case lt=>rcases hu with rfl|rfl<;>simp only[WT,T.size,T.names,aD]at *<;>exact⟨by simp[a],by lia,by lia⟩
  case st1=>subst hu;simp only[WT,T.size,T.names,aD]at *;exact⟨by simp[a],by lia,by lia⟩
  case st2=>rcases hu with rfl|rfl<;>simp only[WT,T.size,T.names,aD]at *<;>exact⟨by simp[a],by lia,by lia⟩
 refine⟨key.1,?_,?_,?_,?_⟩
 ·rw[aD,bB];lia
 ·lia
 ·lia
 ·lia
theorem jz{s:eF}{t:T}{i:Nat}(h:s.ok P)(ht:t∈s.t.kids):(s.kid i t).ok P:=⟨Bb i h.1 ht (by show s.e.len≤_;lia),h.2⟩
theorem ED{s:eF}(h:s.ok P):∀(ts:List T)(i:Nat),(∀t∈ts,t∈s.t.kids)→∀k∈wi s i ts,k.ok P
 | [],_,_,k,hk=>by cases hk
 | t::ts,i,ht,k,hk=>by
  rcases aB.mp hk with rfl|hk
  ·exact jz h (ht t (.head _))
  ·exact ED h ts (i+1) (λu hu=>ht u (.tail _ hu)) k hk
theorem xS{s:eF}(h:s.ok P):∀k∈s.within,k.ok P:=ED h _ 0 λ_ z=>z
theorem zB{ws ws':List Str}{s:eF}{Q:List eF}{rs:List Rw}(h:Tk ws s Q rs ws')(o:s.ok P):(∀k∈Q,k.ok P)∧∀r∈rs,r.ok P:=by
 cases h with
 | plain e=>refine⟨λk hk=>xS o k (List.mem_reverse.mp hk),λr hr=>?_⟩;rw[aG]at hr;subst hr;exact aH
 | free e l=>refine⟨λk hk=>(nomatch hk),λr hr=>?_⟩;rw[aG]at hr;subst hr;exact aH
 | called e l=>refine⟨λk hk=>(nomatch hk),λr hr=>?_⟩;rw[aG]at hr;subst hr;exact aH
 | ready e l=>refine⟨λk hk=>(nomatch hk),λr hr=>?_⟩;rw[aG]at hr;subst hr;exact oi o.2 l
 | handed e l=>refine⟨λk hk=>?_,λr hr=>(nomatch hr)⟩;rw[aG]at hk;subst hk;exact oi (m:=.handed _ _ _ _) o.2 l
 | @lt w x a b e _ _ _=>
  refine⟨λk hk=>?_,λr hr=>?_⟩
  ·rcases aB.mp hk with rfl|hk
   ·exact⟨Bb 1 o.1 (by rw[e];simp[T.kids]) (En.put_len _ _ _),AZ (m:=.called x) aH o.2⟩
   ·rw[aG]at hk;subst hk;exact jz o (by rw[e];simp[T.kids])
  ·rw[aG]at hr;subst hr;exact aH
theorem vw(h:∀v,1≤f v)(t:T):1≤ji f t:=by cases t<;>simp only[ji]<;>first|exact h _|lia
mutual
theorem Mg.wt_pos:∀{m:Mg},m.ok P→1≤m.wt h
 | .called _,_=>aC _
 | .ready _ _,a=>a.1
 | .handed t _ _ e,a=>by have:=vw (λv=>En.fw_pos (h:=h) (e:=e) a.2 v) t;simp only[Mg.wt];lia
theorem En.fw_pos:∀{e:En},e.ok P→∀v,1≤e.fw h v
 | .nil,_,_=>aC _
 | .cons w m e,a,v=>by
  simp only[En.fw];split
  ·exact Mg.wt_pos (m:=m) a.1
  ·exact En.fw_pos (e:=e) a.2.1 v
end
theorem wt_pos{h:Nat}{s:eF}(o:s.ok P):1≤s.wt h:=vw (En.fw_pos o.2) _
theorem rK{h:Nat}:∀{S:List eF},(∀s∈S,s.ok P)→S.length≤lM h S
 | [],_=>aC _
 | s::S,o=>by have h1:=wt_pos (h:=h) (o s (.head _));have h2:=rK (h:=h) (S:=S) λx hx=>o x (.tail _ hx);rw[k8,aE];lia
theorem kQ:∀{R:List Rw},(∀r∈R,r.ok P)→R.length≤kn R
 | [],_=>aC _
 | r::R,o=>by
  have h1:1≤r.wt:=by
   have:=o r (.head _);cases r with
   | row=>exact aC _
   | rdy=>exact this.1
  have h2:=kQ (R:=R) λx hx=>o x (.tail _ hx);rw[jI,aE];lia
theorem zC(h:Tk ws s Q rs ws')(o:s.ok P):lM 1 Q<s.wt 1:=by
 cases h with
 | plain e=>rw[qZ e,rJ];lia
 | free e l=>rw[iW e,l,jl];exact Nat.one_pos
 | called e l=>rw[iW e,l,jl];exact Nat.one_pos
 | ready e l=>rw[iW e,l,jl];exact(oi o.2 l).1
 | handed e l=>rw[iW e,l,gq];simp only[Mg.wt,eF.wt];lia
 | @lt w x a b e _ _ _=>rw[yp (x:=x) e];lia
theorem zA(h:Tk ws s Q rs ws'):ws'.length≤ws.length+rs.length:=by cases h<;>simp
theorem AJ(h:yg S R ws R' ws'):ws'.length+R.length≤ws.length+R'.length:=by
 induction h with
 | nil=>lia
 | step a _ ih=>have:=zA a;rw[aD]at ih;lia
theorem vD(h:yg S R ws R' ws')(hS:∀s∈S,s.ok P)(hR:∀r∈R,r.ok P):∀r∈R',r.ok P:=by
 induction h with
 | nil=>exact hR
 | step a _ ih=>
  have h2:=zB a (hS _ (aQ _ (.head _)));refine ih (λs hs=>?_) λr hr=>?_
  ·rcases aV.mp hs with z|z
   ·exact hS s (ag _ z)
   ·exact h2.1 s z
  ·rcases aV.mp hr with z|z
   ·exact hR r z
   ·exact h2.2 r z
theorem gj:∀(t:T){f g:Str→Nat},(∀v,f v≤g v)→ji f t≤ji g t
 | .num _,_,_,_=>aC _
 | .name w,_,_,h=>h w
 | .sum a b,_,_,h=>by have:=gj a h;have:=gj b h;simp only[ji];lia
 | .less a b,_,_,h=>by have:=gj a h;have:=gj b h;simp only[ji];lia
 | .cho a b c,_,_,h=>by have:=gj a h;have:=gj b h;have:=gj c h;simp only[ji];lia
 | .lt w a b,f,g,h=>by have:=gj a h;have:=gj b (f:=λv=>if w=v then 1 else f v) (g:=λv=>if w=v then 1 else g v) (λv=>by split<;>first|exact h v|exact aC _);simp only[ji];lia
 | .st0 _,_,_,_=>aC _
 | .st1 _ a,_,_,h=>by have:=gj a h;simp only[ji];lia
 | .st2 _ a b,_,_,h=>by have:=gj a h;have:=gj b h;simp only[ji];lia
mutual
theorem Mg.wt01:∀m:Mg,m.wt 0≤m.wt 1
 | .called _=>aC _
 | .ready _ _=>aC _
 | .handed t _ _ e=>by have:=gj t (λv=>En.fw01 e v);simp only[Mg.wt];lia
theorem En.fw01:∀(e:En)(v:Str),e.fw 0 v≤e.fw 1 v
 | .nil,_=>aC _
 | .cons w m e,v=>by
  simp only[En.fw];split
  ·exact Mg.wt01 m
  ·exact En.fw01 e v
end
theorem wt01(s:eF):s.wt 0≤s.wt 1:=gj _ (En.fw01 s.e)
theorem i8(hM:1≤M):∀(t:T){f:Str→Nat},(∀v,f v≤M)→ji f t+t.names.length≤t.size+t.names.length*M
 | .num _,_,_=>by simp[ji,T.names,T.size]
 | .name w,f,h=>by have:=h w;simp only[ji,T.names,T.size,bB,bx];lia
 | .sum a b,_,h=>by have:=i8 hM a h;have:=i8 hM b h;simp only[ji,T.names,T.size,aD,am];lia
 | .less a b,_,h=>by have:=i8 hM a h;have:=i8 hM b h;simp only[ji,T.names,T.size,aD,am];lia
 | .cho a b c,_,h=>by have:=i8 hM a h;have:=i8 hM b h;have:=i8 hM c h;simp only[ji,T.names,T.size,aD,am];lia
 | .lt w a b,f,h=>by have:=i8 hM a h;have:=i8 hM b (f:=λv=>if w=v then 1 else f v) (λv=>by split<;>first|exact h v|exact hM);simp only[ji,T.names,T.size,aD,am];lia
 | .st0 _,_,_=>by simp[ji,T.names,T.size]
 | .st1 _ a,_,h=>by have:=i8 hM a h;simp only[ji,T.names,T.size];lia
 | .st2 _ a b,_,h=>by have:=i8 hM a h;have:=i8 hM b h;simp only[ji,T.names,T.size,aD,am];lia
theorem tJ(hM:1≤M)(t:T)(h:∀v,f v≤M):ji f t≤t.size*M:=by have h1:=i8 hM t h;have h2:=t.names_len;obtain⟨k,hk⟩:=Nat.le.dest h2;rw[←hk,am];have:k≤k*M:=Nat.le_mul_of_pos_right k hM;lia
inductive Pn:List Rw→Nat→Prop where
 | start:Pn [] 1
 | add{R:List Rw}{c:Nat}{r:Rw}:Pn R (c+1)→Pn (R++[r]) (c+r.ar)
theorem EH(h:Tk ws s Q rs ws')(p:Pn R (c+1)):Pn (R++rs) (c+Q.length):=by
 cases h with
 | plain e=>rw[bX,eF.within,uq,←EW e];exact p.add (r:=.row _ _ _)
 | free e l=>exact p.add (r:=.row _ _ _)
 | called e l=>exact p.add (r:=.row _ _ _)
 | ready e l=>exact p.add (r:=.rdy _ _)
 | handed e l=>rw[aZ];exact p
 | lt e _ _ _=>exact p.add (r:=.row _ _ _)
theorem Ge(h:yg S R ws R' ws')(p:Pn R S.length):Pn R' 0:=by
 induction h with
 | nil=>exact p
 | step a _ ih=>refine ih ?_;rw[aD];refine EH a ?_;rw[aD]at p;exact p
inductive Bd:List Rw→Nat→Prop where
 | nil:Bd [] 0
 | cons{b:List Rw}{c:Nat}{r:Rw}:Bd b (r.ar+c)→Bd (r::b) (c+1)
theorem EV(h:Pn a k):∀{b:List Rw},Bd b k→Bd (a++b) 1:=by
 induction h with
 | start=>exact λh=>h
 | @add R c r _ ih=>intro b h;rw[aT];exact ih (.cons (by rw[cY];exact h))
theorem Gf(h:yg [s] [] ws R' ws'):Bd R' 1:=by have:=EV (Ge h .start) .nil;rwa[aZ]at this
theorem xK:∀{a b:List Rw}{n:Nat},Bd (a++b) n→∃c,Bd b c
 | [],b,n,h=>⟨n,h⟩
 | r::a,b,_,.cons h=>xK (a:=a) h
end S9
namespace S9
open PySem SW
def Rf(rd:List (List Rw))(n z:Nat):Prop:=∃R,rd[n]?=some R∧kn R≤z
theorem Rf.mono(x:List (List Rw)):∀n z,Rf rd n z→Rf (rd++x) n z:=by rintro n z ⟨R,e,h⟩;exact⟨R,by rw[ax (aO.mp e).1];exact e,h⟩
inductive oE:Bool→List (List Rw)→List Str→eF→Mg→List (List Rw)→List Str→Prop where
 | handed{go:Bool}{rd:List (List Rw)}{ws:List Str}{s:eF}:Op s→oE go rd ws s (.handed s.t s.src s.path s.e) rd ws
 | ready{rd:List (List Rw)}{ws ws':List Str}{s:eF}{R:List Rw}:¬Op s→yg [s] [] ws R ws'→oE true rd ws s (.ready rd.length (s.wt 0)) (rd++[R]) ws'
 | late{rd:List (List Rw)}{ws:List Str}{s:eF}:¬Op s→oE false rd ws s (.ready rd.length (s.wt 0)) (rd++[[]]) ws
inductive tD(b1 b2 b3:T)(go:Bool)(rd:List (List Rw))(ws:List Str)(s:eF):eF→List (List Rw)→List Str→Prop where
 | star:s.t=.st0 "star"→tD b1 b2 b3 go rd ws s ⟨b1,"star",[],.nil⟩ rd ws
 | sta{a:T}{m:Mg}{rd1:List (List Rw)}{ws1:List Str}:s.t=.st1 "sta" a→oE go rd ws (s.kid 0 a) m rd1 ws1→tD b1 b2 b3 go rd ws s ⟨b2,"sta",[],.cons "sab" m .nil⟩ rd1 ws1
 | st{a b:T}{m n:Mg}{rd1 rd2:List (List Rw)}{ws1 ws2:List Str}:s.t=.st2 "st" a b→oE go rd ws (s.kid 0 a) m rd1 ws1→oE go rd1 ws1 (s.kid 1 b) n rd2 ws2→tD b1 b2 b3 go rd ws s ⟨b3,"st",[],.cons "sab" m (.cons "tab" n .nil)⟩ rd2 ws2
structure oV where
 S:List eF
 R:List Rw
 k:Nat
 ws:List Str
 rd:List (List Rw)
inductive El(b1 b2 b3:T)(F:Nat):oV→oV→Prop where
 | take{S Q:List eF}{s:eF}{R rs:List Rw}{k:Nat}{ws ws':List Str}{rd:List (List Rw)}:Tk ws s Q rs ws'→El b1 b2 b3 F ⟨S++[s],R,k,ws,rd⟩ ⟨S++Q,R++rs,k,ws',rd⟩
 | opn{S:List eF}{s s':eF}{R:List Rw}{k:Nat}{ws ws':List Str}{rd rd':List (List Rw)}:tD b1 b2 b3 (decide (k+1≤F)) rd ws s s' rd' ws'→El b1 b2 b3 F ⟨S++[s],R,k,ws,rd⟩ ⟨S++[s'],R,k+1,ws',rd'⟩
def oB(rd:List (List Rw)):Prop:=∀i R,rd[i]?=some R→Bd R 1∧∀r∈R,r.ok (Rf (rd.take i))
theorem oB.add(h:oB rd)(b:Bd R 1)(o:∀r∈R,r.ok (Rf rd)):oB (rd++[R]):=by
 intro i R' e;rcases bM i rd.length with hi|hi
 ·rw[ax hi]at e;rw[dH (bO hi)];exact h i R' e
 ·rw[bL hi]at e;have:i-rd.length=0:=by
   cases hq:i-rd.length with
   | zero=>rfl
   | succ n=>rw[hq]at e;simp at e
  rw[this]at e;cases e;have:i=rd.length:=by lia
  subst this;rw[cg];exact⟨b,o⟩
theorem sE(h:oE go rd ws s m rd' ws')(o:s.ok (Rf rd)):
  ∃x,rd'=rd++x∧x.length≤1∧m.ok (Rf rd')∧m.wt 1≤s.wt 1+1∧m.wt 0=s.wt 0∧(go=true→oB rd→oB rd'):=by
 cases h with
 | handed p=>exact⟨[],(aZ _).symm,aU _,⟨o.1,o.2⟩,by simp only[Mg.wt,eF.wt];lia,by simp only[Mg.wt,eF.wt];lia,λ_ z=>z⟩
 | @ready _ _ _ _ R p r=>
  have hw:kn R=s.wt 0:=by rw[vC r,gq,jU];lia
  refine⟨[R],rfl,aC _,⟨wt_pos o,R,by simp,by lia⟩,?_,rfl,λ_ z=>z.add (Gf r) (vD r ?_ ?_)⟩
  ·have:=wt01 s;simp only[Mg.wt];lia
  ·intro x hx;rw[aG]at hx;exact hx▸o
  ·intro x hx;cases hx
 | late p=>refine⟨[[]],rfl,aC _,⟨wt_pos o,[],by simp,by rw[jU];exact aU _⟩,?_,rfl,λz=>by cases z⟩;have:=wt01 s;simp only[Mg.wt];lia
structure tF(b1 b2 b3:T):Prop where
 a:BT b1 [] 2
 b:BT b2 [] 2
 c:BT b3 [] 2
theorem BT.less(h:BT t p n)(hm:m≤n):BT t p m:=⟨h.1,h.2.1,by have:=h.2.2.1;lia,h.2.2.2⟩
theorem Dc(B:tF b1 b2 b3)(h:tD b1 b2 b3 go rd ws s s' rd' ws')(o:s.ok (Rf rd)):
  ∃x,rd'=rd++x∧x.length≤2∧s'.ok (Rf rd')∧s'.wt 1≤900*s.wt 1∧(go=true→oB rd→oB rd'):=by
 have hp:=wt_pos (h:=1) o;have big:∀(t:T)(f:Str→Nat),t.size≤900→(∀v,f v≤s.wt 1)→ji f t≤900*s.wt 1:=λt f ht hf=>
  aW (tJ hp t hf) (bY _ ht)
 cases h with
 | star e=>exact⟨[],(aZ _).symm,aU _,⟨B.a.less (by simp[En.len]),aH⟩,big _ _ B.a.2.2.2.1 λv=>hp,λ_ z=>z⟩
 | @sta a m _ _ e h1=>
  have ok1:(s.kid 0 a).ok (Rf rd):=jz o (by rw[e];simp[T.kids]);obtain⟨x,rfl,hx,mo,mw,_,mr⟩:=sE h1 ok1;have ew:s.wt 1=1+(s.kid 0 a).wt 1:=by unfold eF.wt;rw[e];rfl
  refine⟨x,rfl,by lia,⟨B.b.less (by simp[En.len]),mo,aH,rfl⟩,big _ _ B.b.2.2.2.1 λv=>?_,mr⟩;simp only[En.fw];split<;>lia
 | @st a b m n rd1 rd2 ws1 ws2 e h1 h2=>
  have ok1:(s.kid 0 a).ok (Rf rd):=jz o (by rw[e];simp[T.kids]);have ok2:(s.kid 1 b).ok (Rf rd):=jz o (by rw[e];simp[T.kids]);obtain⟨x,rfl,hx,mo,mw,_,mr⟩:=sE h1 ok1;obtain⟨y,rfl,hy,no,nw,_,nr⟩:=sE h2 (eF.ok_mono (Rf.mono x) ok2);have ew:s.wt 1=1+(s.kid 0 a).wt 1+(s.kid 1 b).wt 1:=by unfold eF.wt;rw[e];rfl
  refine⟨x++y,aT _ _ _,by rw[aD];lia,⟨B.c.less (by simp[En.len]),Mg.ok_mono (Rf.mono y) mo,⟨no,aH,rfl⟩,if_neg (by decide+kernel)⟩,big _ _ B.c.2.2.2.1 λv=>?_,λz1 z2=>nr z1 (mr z1 z2)⟩;simp only[En.fw];split
  ·lia
  ·split<;>lia
structure eU(F n0:Nat)(st:oV):Prop where
 so:∀s∈st.S,s.ok (Rf st.rd)
 ro:∀r∈st.R,r.ok (Rf st.rd)
 pn:Pn st.R st.S.length
 rk:st.k≤F→oB st.rd
 mw:lM 1 st.S≤n0*900^st.k
 dl:st.rd.length≤2*st.k
theorem wR(B:tF b1 b2 b3)(h:El b1 b2 b3 F st st')(I:eU F n0 st):eU F n0 st':=by
 cases h with
 | @take S Q s R rs k ws ws' rd a=>
  have os:=I.so s (aQ _ (.head _));have h2:=zB a os;have hm:=zC a os;have mw:=I.mw;have pn:=I.pn;simp only[gC,gq]at mw;refine⟨λx hx=>?_,λr hr=>?_,?_,I.rk,?_,I.dl⟩
  ·rcases aV.mp hx with z|z
   ·exact I.so x (ag _ z)
   ·exact h2.1 x z
  ·rcases aV.mp hr with z|z
   ·exact I.ro r z
   ·exact h2.2 r z
  ·simp only[aD]at pn⊢;exact EH a pn
  ·show lM 1 (S++Q)≤n0*900^k;rw[gC];lia
 | @opn S s s' R k ws ws' rd rd' a=>
  have os:=I.so s (aQ _ (.head _));obtain⟨x,rfl,hx,ok',hw,hr⟩:=Dc B a os;have mw:=I.mw;have pn:=I.pn;have dl:=I.dl;simp only[gC,gq]at mw;refine⟨λy hy=>?_,λr hr=>Rw.ok_mono (Rf.mono x) (I.ro r hr),?_,λhk=>?_,?_,?_⟩
  ·rcases aV.mp hy with z|z
   ·exact eF.ok_mono (Rf.mono x) (I.so y (ag _ z))
   ·rw[aG]at z;exact z▸ok'
  ·simp only[aD,bB]at pn⊢;exact pn
  ·exact hr (decide_eq_true hk) (I.rk (Nat.le_of_succ_le hk))
  ·show lM 1 (S++[s'])≤n0*900^(k+1);rw[gC,gq,ce,←Nat.mul_assoc];generalize n0*900^k=y at *;lia
  ·simp only[aD]at dl⊢;lia
def mu(F n0:Nat)(st:oV):Nat:=(F+1-st.k)*(n0*900^(F+1)+1)+lM 1 st.S
theorem Ga(B:tF b1 b2 b3)(h:El b1 b2 b3 F st st')(I:eU F n0 st)(hk:st.k≤F):mu F n0 st'<mu F n0 st:=by
 have I':=wR B h I;cases h with
 | @take S Q s R rs k ws ws' rd a=>have os:=I.so s (aQ _ (.head _));have hm:=zC a os;unfold mu;simp only[gC,gq];lia
 | @opn S s s' R k ws ws' rd rd' a=>
  have mw:=I'.mw;have hk:k≤F:=hk;unfold mu;simp only at mw⊢;have hp:n0*900^(k+1)≤n0*900^(F+1):=Nat.mul_le_mul_left _ (Nat.pow_le_pow_right (by decide) (by lia));have e:F+1-k=(F+1-(k+1))+1:=by lia
  rw[e,am,bx];generalize (F+1-(k+1))*(n0*900^(F+1)+1)=y at *;generalize n0*900^(F+1)=z at *;generalize n0*900^(k+1)=z2 at *;lia
inductive tI(b1 b2 b3:T)(F:Nat)(st0:oV):oV→Prop where
 | refl:tI b1 b2 b3 F st0 st0
 | step{st st':oV}:tI b1 b2 b3 F st0 st→st.k≤F→El b1 b2 b3 F st st'→tI b1 b2 b3 F st0 st'
theorem og(B:tF b1 b2 b3)(h:tI b1 b2 b3 F st0 st)(I:eU F n0 st0):eU F n0 st:=by
 induction h with
 | refl=>exact I
 | step _ _ a ih=>exact wR B a ih
def vT:Hd→List T→T
 | .num n,_=>.num n
 | .name w,_=>.name w
 | .sum,[a,b]=>.sum a b
 | .less,[a,b]=>.less a b
 | .cho,[a,b,c]=>.cho a b c
 | .lt w,[a,b]=>.lt w a b
 | _,_=>.num 0
def xn(W:List T)(m:List T):Rw→List T
 | .row h _ _=>vT h (m.take h.ar)::m.drop h.ar
 | .rdy n _=>(W[n]?.getD (.num 0))::m
def lq(W:List T):List Rw→List T
 | []=>[]
 | r::b=>xn W (lq W b) r
theorem oy:∀{b:List Rw}{c:Nat},Bd b c→(lq W b).length=c
 | _,_,.nil=>rfl
 | r::b,_,.cons h=>by
  have ih:=oy (W:=W) h;cases r with
  | row hd src path=>simp only[lq,xn,aE,ai,ih,Rw.ar];lia
  | rdy n z=>simp only[lq,xn,aE,ih,Rw.ar];lia
theorem Ax(hl:ts.length=h.ar):(vT h ts).size=1+fB ts:=by
 cases h with
 | num n=>cases ts with
  | nil=>rfl
  | cons=>simp[Hd.ar]at hl
 | name n=>cases ts with
  | nil=>rfl
  | cons=>simp[Hd.ar]at hl
 | sum=>match ts,hl with
  | [a,b],_=>simp[vT,T.size,fB];lia
 | less=>match ts,hl with
  | [a,b],_=>simp[vT,T.size,fB];lia
 | cho=>match ts,hl with
  | [a,b,c],_=>simp[vT,T.size,fB];lia
 | lt w=>match ts,hl with
  | [a,b],_=>simp[vT,T.size,fB];lia
theorem Dp(hn:∀t∈ts,¬oA t):¬oA (vT h ts):=by
 unfold vT;split
 ·exact not_false
 ·exact not_false
 ·rintro(z|z)<;>exact hn _ (by simp) z
 ·rintro(z|z)<;>exact hn _ (by simp) z
 ·rintro(z|z|z)<;>exact hn _ (by simp) z
 ·rintro(z|z)<;>exact hn _ (by simp) z
 ·exact not_false
def Mq(W:List T)(n z:Nat):Prop:=∃t,W[n]?=some t∧t.size≤z∧¬oA t
theorem uc:∀{b:List Rw}{c:Nat},Bd b c→(∀r∈b,r.ok (Mq W))→fB (lq W b)≤kn b∧∀t∈lq W b,¬oA t
 | _,_,.nil,_=>⟨aC _,λt ht=>by cases ht⟩
 | r::b,_,.cons h,o=>by
  have ih:=uc (W:=W) h λx hx=>o x (.tail _ hx);have hl:=oy (W:=W) h;cases r with
  | row hd src path=>
   have e:(vT hd ((lq W b).take hd.ar)).size=1+fB ((lq W b).take hd.ar):=Ax (by rw[aj,hl];simp only[Rw.ar];lia);have e2:fB ((lq W b).take hd.ar)+fB ((lq W b).drop hd.ar)=fB (lq W b):=by rw[←fV,bu]
   refine⟨?_,λt ht=>?_⟩
   ·simp only[lq,xn,gM,jI,Rw.wt,e];lia
   ·rcases aB.mp ht with rfl|ht
    ·exact Dp λt ht=>ih.2 t (dI ht)
    ·exact ih.2 t (List.mem_of_mem_drop ht)
  | rdy n z=>
   obtain⟨h1,t,e,h2,h3⟩:=o _ (.head _);refine⟨?_,λu hu=>?_⟩
   ·simp only[lq,xn,gM,jI,Rw.wt,e,bz];lia
   ·simp only[lq,xn,e,bz]at hu;rcases aB.mp hu with rfl|hu
    ·exact h3
    ·exact ih.2 u hu
abbrev kh:=Str×List Nat
def ik(W:List (List kh)):List Rw→List kh
 | []=>[]
 | .row _ s p::b=>(s,p)::ik W b
 | .rdy n _::b=>(W[n]?.getD [])++ik W b
theorem gy(W:List (List kh)):∀a b:List Rw,ik W (a++b)=ik W a++ik W b
 | [],_=>rfl
 | .row _ s p::a,b=>by simp only[aN,ik,gy W a b]
 | .rdy n _::a,b=>by simp only[aN,ik,gy W a b,aT]
def L4(W:List (List kh))(n z:Nat):Prop:=∃t,W[n]?=some t∧t.length≤z
theorem mR:∀{b:List Rw},(∀r∈b,r.ok (L4 W))→(ik W b).length≤kn b
 | [],_=>aC _
 | .row _ s p::b,o=>by have:=mR (W:=W) (b:=b) λx hx=>o x (.tail _ hx);simp only[ik,aE,jI,Rw.wt];lia
 | .rdy n z::b,o=>by have:=mR (W:=W) (b:=b) λx hx=>o x (.tail _ hx);obtain⟨h1,t,e,h2⟩:=o _ (.head _);simp only[ik,aD,e,bz,jI,Rw.wt];lia
end S9
namespace S9
open PySem SW
structure Bm(st:oV):Prop where
 k:st.k≤400000
 wt:lM 0 st.S+kn st.R≤1000000
 ws:st.ws.length≤1000000
 rd:∀R∈st.rd,kn R≤1000000
def kr(rd:List (List Rw)):Nat:=(rd.map kn).sum
def mB(rd:List (List Rw)):Nat:=(rd.map List.length).sum
theorem jn(a b:List (List Rw)):kr (a++b)=kr a+kr b:=by simp[kr]
theorem jo(a b:List (List Rw)):mB (a++b)=mB a+mB b:=by simp[mB]
theorem tS:∀{rd:List (List Rw)},R∈rd→kn R≤kr rd
 | x::rd,h=>by
  have e:kr (x::rd)=kn x+kr rd:=by simp[kr]
  rcases aB.mp h with rfl|h
  ·lia
  ·have:=tS h;lia
theorem sD(h:oE true rd ws s m rd' ws')(o:s.ok P):
  ∃x,rd'=rd++x∧kr x≤s.wt 0∧mB x≤kr x∧ws'.length≤ws.length+mB x:=by
 cases h with
 | handed p=>exact⟨[],(aZ _).symm,aU _,aC _,aC _⟩
 | @ready _ _ _ _ R p r=>
  have hw:kn R=s.wt 0:=by rw[vC r,gq,jU];lia
  have h2:=AJ r;have h3:=kQ (vD r (P:=P) (λx hx=>by rw[aG]at hx;exact hx▸o) (λx hx=>by cases hx));refine⟨[R],rfl,?_,?_,?_⟩
  ·simp[kr];lia
  ·simp[kr,mB];lia
  ·simp[mB]at h2⊢;lia
theorem Jf{n k M:Nat}(h:n≤k):n*M≤k*M:=bY _ h
def st0(t:T)(ws:List Str):oV:=⟨[⟨t,"",[],.nil⟩],[],0,ws,[]⟩
theorem yo(h:Nat)(t:T):(eF.mk t "" [] .nil).wt h≤t.size:=by have:=tJ (aC 1) t (f:=(En.nil).fw h) λv=>aC _;show ji ((En.nil).fw h) t≤_;lia
theorem kO(h:BT t [] 0):eU F t.size (st0 t ws):=by
 refine⟨λs hs=>?_,λr hr=>(nomatch hr),.start,λ_ i R e=>by simp[st0]at e,?_,aC _⟩
 ·have hs:s=⟨t,"",[],.nil⟩:=by simpa[st0]using hs
  subst hs;exact⟨h,aH⟩
 ·show lM 1 [⟨t,"",[],.nil⟩]≤t.size*900^0;have:=yo 1 t;rw[gq];lia
end S9
namespace S9
open PySem L2 SW
inductive Al{α:Type}(A:α→V→Prop):List α→List V→Prop where
 | nil:Al A [] []
 | cons{a:α}{v:V}{as:List α}{vs:List V}:A a v→Al A as vs→Al A (a::as) (v::vs)
section
variable {α:Type}{A B:α→V→Prop}
theorem Al.mono(h:∀a v,A a v→B a v):∀{as:List α}{vs:List V},Al A as vs→Al B as vs
 | _,_,.nil=>.nil
 | _,_,.cons a r=>.cons (h _ _ a) (Al.mono h r)
theorem Al.length:∀{as:List α}{vs:List V},Al A as vs→vs.length=as.length
 | _,_,.nil=>rfl
 | _,_,.cons _ r=>by rw[aE,aE,Al.length r]
theorem Al.append:∀{as bs:List α}{vs us:List V},Al A as vs→Al A bs us→Al A (as++bs) (vs++us)
 | _,_,_,_,.nil,q=>q
 | _,_,_,_,.cons a r,q=>.cons a (Al.append r q)
theorem Al.one(h:A a v):Al A [a] [v]:=.cons h .nil
theorem Al.snoc:∀{as:List α}{vs:List V}{v:V},Al A as (vs++[v])→∃bs b,as=bs++[b]∧Al A bs vs∧A b v
 | _,[],v,.cons a .nil=>⟨[],_,rfl,.nil,a⟩
 | _,x::vs,v,.cons a r=>by obtain⟨us,t,rfl,h1,h2⟩:=Al.snoc (vs:=vs) r;exact⟨_::us,t,rfl,.cons a h1,h2⟩
theorem Al.get:∀{as:List α}{vs:List V}{i:Nat}{v:V},Al A as vs→vs[i]?=some v→∃a,as[i]?=some a∧A a v
 | _,_,0,_,.cons a r,h=>by cases h;exact⟨_,rfl,a⟩
 | _,_,i+1,_,.cons a r,h=>Al.get (i:=i) r h
theorem Al.getA:∀{as:List α}{vs:List V}{i:Nat}{a:α},Al A as vs→as[i]?=some a→∃v,vs[i]?=some v∧A a v
 | _,_,0,_,.cons a r,h=>by cases h;exact⟨_,rfl,a⟩
 | _,_,i+1,_,.cons a r,h=>Al.getA (i:=i) r h
theorem Al.reverse:∀{as:List α}{vs:List V},Al A as vs→Al A as.reverse vs.reverse
 | _,_,.nil=>.nil
 | _,_,.cons a r=>by rw[ay,ay];exact(Al.reverse r).append (.cons a .nil)
end
def mN(l:List Nat):List V:=l.map λi:Nat=>V.int (i:Int)
theorem DQ(l:List Nat):(mN l).length=l.length:=aa _
mutual
def oW(tk:Addr→Prop)(H:Hp):Mg→V→Prop
 | .called w,v=>∃p,v=.ref p∧H p=some (.tup [.str "called",.str w])
 | .ready n _,v=>∃p,v=.ref p∧H p=some (.tup [.str "ready",.int (n:Int)])
 | .handed t src path e,v=>∃p q x pp d kvs,v=.ref p∧H p=some (.tup [.str "handed",.ref q])∧H q=some (.tup [x,.str src,.ref pp,.ref d])∧gG H t x∧H pp=some (.tup (mN path))∧tk d∧H d=some (.dK kvs)∧k6 tk H e kvs
def k6(tk:Addr→Prop)(H:Hp):En→List (fE×V)→Prop
 | .nil,kvs=>kvs=[]
 | .cons w m e,kvs=>∃v r,kvs=(.inr w,v)::r∧oW tk H m v∧k6 tk H e r
end
def iM(tk:Addr→Prop)(H:Hp)(s:eF)(v:V):Prop:=∃q x pp d kvs,v=.ref q∧H q=some (.tup [x,.str s.src,.ref pp,.ref d])∧gG H s.t x∧H pp=some (.tup (mN s.path))∧tk d∧H d=some (.dK kvs)∧k6 tk H s.e kvs
def Hd.vs:Hd→List V
 | .num n=>[.str "number",.int n]
 | .name w=>[.str "name",.str w]
 | .sum=>[.str "sum"]
 | .less=>[.str "less"]
 | .cho=>[.str "choose"]
 | .lt w=>[.str "let",.str w]
def kA(H:Hp)(s:kh)(v:V):Prop:=∃q pp,v=.ref q∧H q=some (.tup [.str s.1,.ref pp])∧H pp=some (.tup (mN s.2))
def jQ(H:Hp):Rw→V→Prop
 | .row h src path,v=>∃r hp s,v=.ref r∧H r=some (.tup [.str "row",.ref hp,.int (h.ar:Int),s])∧H hp=some (.tup h.vs)∧kA H (src,path) s
 | .rdy n _,v=>∃p,v=.ref p∧H p=some (.tup [.str "ready",.int (n:Int)])
structure Kp(tk:Addr→Prop)(H H':Hp):Prop where
 tup:fH H H'
 dct:∀d kvs,tk d→H d=some (.dK kvs)→H' d=some (.dK kvs)
section
variable {tk:Addr→Prop}{H H' H2:Hp}
theorem Kp.refl:Kp tk H H:=⟨fH.refl,λ_ _ _ h=>h⟩
theorem Kp.trans(a:Kp tk H H')(b:Kp tk H' H2):Kp tk H H2:=⟨a.tup.trans b.tup,λd kvs n h=>b.dct d kvs n (a.dct d kvs n h)⟩
theorem Kp.same(s:dq H H'):Kp tk H H':=⟨dY s,λd kvs _ h=>s _ _ h⟩
theorem Kp.lst(h:H l=some (.lst ys)):Kp tk H (upd H l o):=⟨fL h,λd kvs _ e=>by rw[db (fY e h (by intro z;cases z))];exact e⟩
theorem Kp.ins(h:H l=some (.ins C dx fs)):Kp tk H (upd H l o):=
 ⟨λb xs e=>by rw[db (fY e h (by intro z;cases z))];exact e,λd kvs _ e=>by rw[db (fY e h (by intro z;cases z))];exact e⟩
mutual
theorem oW.mono(k:Kp tk H H'):∀{m:Mg}{v:V},oW tk H m v→oW tk H' m v
 | .called _,_,h=>by obtain⟨p,e,h⟩:=h;exact⟨p,e,k.tup _ _ h⟩
 | .ready _ _,_,h=>by obtain⟨p,e,h⟩:=h;exact⟨p,e,k.tup _ _ h⟩
 | .handed t src path e,_,h=>by obtain⟨p,q,x,pp,d,kvs,h0,h1,h2,h3,h4,h5,h6,h7⟩:=h;exact⟨p,q,x,pp,d,kvs,h0,k.tup _ _ h1,k.tup _ _ h2,h3.mono k.tup,k.tup _ _ h4,h5,k.dct _ _ h5 h6,k6.mono k (e:=e) h7⟩
theorem k6.mono(k:Kp tk H H'):∀{e:En}{kvs:List (fE×V)},k6 tk H e kvs→k6 tk H' e kvs
 | .nil,_,h=>h
 | .cons w m e,_,h=>by obtain⟨v,r,h0,h1,h2⟩:=h;exact⟨v,r,h0,oW.mono k (m:=m) h1,k6.mono k (e:=e) h2⟩
end
mutual
theorem oW.old(k:∀d o,H d=some o→tk d→tk' d):∀{m:Mg}{v:V},oW tk H m v→oW tk' H m v
 | .called _,_,h=>h
 | .ready _ _,_,h=>h
 | .handed t src path e,_,h=>by obtain⟨p,q,x,pp,d,kvs,h0,h1,h2,h3,h4,h5,h6,h7⟩:=h;exact⟨p,q,x,pp,d,kvs,h0,h1,h2,h3,h4,k _ _ h6 h5,h6,k6.old k (e:=e) h7⟩
theorem k6.old(k:∀d o,H d=some o→tk d→tk' d):∀{e:En}{kvs:List (fE×V)},k6 tk H e kvs→k6 tk' H e kvs
 | .nil,_,h=>h
 | .cons w m e,_,h=>by obtain⟨v,r,h0,h1,h2⟩:=h;exact⟨v,r,h0,oW.old k (m:=m) h1,k6.old k (e:=e) h2⟩
end
theorem iM.old(k:∀d o,H d=some o→tk d→tk' d)(h:iM tk H s v):iM tk' H s v:=by obtain⟨q,x,pp,d,kvs,h0,h2,h3,h4,h5,h6,h7⟩:=h;exact⟨q,x,pp,d,kvs,h0,h2,h3,h4,k _ _ h6 h5,h6,h7.old k⟩
theorem iM.mono(k:Kp tk H H')(h:iM tk H s v):iM tk H' s v:=by obtain⟨q,x,pp,d,kvs,h0,h2,h3,h4,h5,h6,h7⟩:=h;exact⟨q,x,pp,d,kvs,h0,k.tup _ _ h2,h3.mono k.tup,k.tup _ _ h4,h5,k.dct _ _ h5 h6,h7.mono k⟩
theorem kA.mono(k:fH H H')(h:kA H s v):kA H' s v:=by obtain⟨q,pp,h0,h1,h2⟩:=h;exact⟨q,pp,h0,k _ _ h1,k _ _ h2⟩
theorem jQ.mono(k:fH H H'):∀{r:Rw}{v:V},jQ H r v→jQ H' r v
 | .row _ _ _,_,h=>by obtain⟨r,hp,s,h0,h1,h2,h3⟩:=h;exact⟨r,hp,s,h0,k _ _ h1,k _ _ h2,h3.mono k⟩
 | .rdy _ _,_,h=>by obtain⟨p,e,h⟩:=h;exact⟨p,e,k _ _ h⟩
theorem vg:∀{e:En}{kvs:List (fE×V)},k6 tk H e kvs→kvs.length=e.len
 | .nil,_,h=>by subst h;rfl
 | .cons w m e,_,h=>by obtain⟨v,r,rfl,_,h2⟩:=h;rw[aE,En.len,vg (e:=e) h2]
theorem sT(w:Str):∀{e:En}{kvs:List (fE×V)},k6 tk H e kvs→(e.look w=none∧fS kvs (.inr w)=none)∨∃m v,e.look w=some m∧fS kvs (.inr w)=some v∧oW tk H m v
 | .nil,_,h=>by subst h;exact .inl ⟨rfl,rfl⟩
 | .cons y m e,_,h=>by
  obtain⟨v,r,rfl,h1,h2⟩:=h;by_cases hy:y=w
  ·subst hy;exact .inr ⟨m,v,by simp only[En.look,if_true],fu rfl,h1⟩
  ·have e1:En.look (.cons y m e) w=e.look w:=by simp only[En.look,if_neg hy]
   have e2:fS (((.inr y,v):fE×V)::r) (.inr w)=fS r (.inr w):=fz λz=>hy (Sum.inr.inj z);rw[e1,e2];exact sT w (e:=e) h2
theorem yF(nd:y=w→fS r (.inr w)=none):gA (((.inr y,v):fE×V)::r) (.inr w) x=if y=w then(.inr y,x)::r else(.inr y,v)::gA r (.inr w) x:=by
 by_cases hy:y=w
 ·subst hy;rw[if_pos rfl];have h0:=jJ (.inr y:fE) r;rw[nd rfl]at h0;have h1:∀p∈r,¬p.1=(.inr y:fE):=by intro p hp z;have:(r.any λkv=>decide (kv.1=(.inr y:fE)))=true:=ca.mpr ⟨p,hp,decide_eq_true z⟩;rw[h0]at this;cases this
  unfold gA;rw[if_pos (by simp),aY,if_pos rfl]
  congr 1
  refine(dE λp hp=>if_neg (h1 p hp)).trans (List.map_id' r)
 ·rw[if_neg hy];have hy2:¬(Sum.inr y:fE)=.inr w:=λz=>hy (Sum.inr.inj z);unfold gA;rw[bg,decide_eq_false hy2,Bool.false_or];split
  ·rw[aY,if_neg hy2]
  ·rfl
end
abbrev Nk(a:Addr):Addr→Prop:=λd=>d≠a
def En.nd:En→Prop
 | .nil=>True
 | .cons w _ e=>e.look w=none∧e.nd
theorem EX:∀{e:En},e.ok P→e.nd
 | .nil,_=>aH
 | .cons _ _ e,h=>⟨h.2.2,EX (e:=e) h.2.1⟩
theorem Aw:∀{e:En},e.nd→(e.put w n).nd
 | .nil,_=>⟨rfl,aH⟩
 | .cons y m e,h=>by
  unfold En.put;split
  ·exact h
  ·rename_i hy;refine⟨?_,Aw (e:=e) h.2⟩;rw[En.look_put,if_neg (λz=>hy z.symm)];exact h.1
theorem vf(hn:oW tk H n x):∀{e:En}{kvs:List (fE×V)},e.nd→k6 tk H e kvs→k6 tk H (e.put w n) (gA kvs (.inr w) x)
 | .nil,_,_,h=>by have h:_=[]:=h;subst h;exact⟨x,[],rfl,hn,rfl⟩
 | .cons y m e,_,nd,h=>by
  obtain⟨v,r,rfl,h1,h2⟩:=h;have hnone:y=w→fS r (.inr w)=none:=λz=>by
   subst z;rcases sT y h2 with⟨_,e2⟩|⟨m',v',e1,_⟩
   ·exact e2
   ·have:=nd.1;rw[e1]at this;cases this
  rw[yF hnone];unfold En.put;by_cases hy:y=w
  ·rw[if_pos hy,if_pos hy];exact⟨x,r,rfl,hn,h2⟩
  ·rw[if_neg hy,if_neg hy];exact⟨v,_,rfl,h1,vf hn (e:=e) nd.2 h2⟩
end S9
namespace S9
open PySem L2 SW
structure RO(K:aA)(C:Addr):Prop where
 cl:vt K C
 nS:iy K C "stamps"
 nL:iy K C "lets"
 nF:iy K C "fuel"
 nM:iy K C "many"
 nR:iy K C "ready"
def lT(sd lp:Addr)(F k:Nat)(yl:Addr):List (Str×V):=[("stamps",.ref sd),("lets",.ref lp),("fuel",.int (F:Int)),("many",.int (k:Int)),("ready",.ref yl)]
section
variable {sd lp yl:Addr}{F k:Nat}
theorem nO:(lT sd lp F k yl).lookup ("stamps":Str)=some (.ref sd):=by
 have e1:(("stamps":Str)=="stamps")=true:=by decide+kernel
 simp only[lT,List.lookup,e1]
theorem Dm:(lT sd lp F k yl).lookup ("lets":Str)=some (.ref lp):=by
 have e1:(("lets":Str)=="stamps")=false:=by decide+kernel
 have e2:(("lets":Str)=="lets")=true:=by decide+kernel
 simp only[lT,List.lookup,e1,e2]
theorem rn:(lT sd lp F k yl).lookup ("fuel":Str)=some (.int (F:Int)):=by
 have e1:(("fuel":Str)=="stamps")=false:=by decide+kernel
 have e2:(("fuel":Str)=="lets")=false:=by decide+kernel
 have e3:(("fuel":Str)=="fuel")=true:=by decide+kernel
 simp only[lT,List.lookup,e1,e2,e3]
theorem lU:(lT sd lp F k yl).lookup ("many":Str)=some (.int (k:Int)):=by
 have e1:(("many":Str)=="stamps")=false:=by decide+kernel
 have e2:(("many":Str)=="lets")=false:=by decide+kernel
 have e3:(("many":Str)=="fuel")=false:=by decide+kernel
 have e4:(("many":Str)=="many")=true:=by decide+kernel
 simp only[lT,List.lookup,e1,e2,e3,e4]
theorem qC:(lT sd lp F k yl).lookup ("ready":Str)=some (.ref yl):=by
 have e1:(("ready":Str)=="stamps")=false:=by decide+kernel
 have e2:(("ready":Str)=="lets")=false:=by decide+kernel
 have e3:(("ready":Str)=="fuel")=false:=by decide+kernel
 have e4:(("ready":Str)=="many")=false:=by decide+kernel
 have e5:(("ready":Str)=="ready")=true:=by decide+kernel
 simp only[lT,List.lookup,e1,e2,e3,e4,e5]
theorem md{m:Str}(e1:(m=="stamps")=false:=by decide+kernel)(e2:(m=="lets")=false:=by decide+kernel)(e3:(m=="fuel")=false:=by decide+kernel)(e4:(m=="many")=false:=by decide+kernel)(e5:(m=="ready")=false:=by decide+kernel):(lT sd lp F k yl).lookup m=none:=by simp only[lT,List.lookup,e1,e2,e3,e4,e5]
theorem Mi:¬(("stamps":Str)="many"):=by decide+kernel
theorem Mj:¬(("lets":Str)="many"):=by decide+kernel
theorem Ml:¬(("fuel":Str)="many"):=by decide+kernel
theorem HH{z:Int}{j:Nat}(h:z=(j:Int)):iF "many" (.int z) (lT sd lp F k yl)=lT sd lp F j yl:=by subst h;simp only[lT,iF,if_neg Mi,if_neg Mj,if_neg Ml,if_true]
theorem HI:(lT sd lp F k yl).length<1000:=by show 5<1000;decide
end
structure Ad where
 op:Addr
 dx:Addr
 sd:Addr
 lp:Addr
 lx:Addr
 tk:Addr
 yl:Addr
 v1:V
 v2:V
 v3:V
def Bt(N:Addr→Prop)(H:Hp)(w:Str)(ps:List Str)(t:T)(v:V):Prop:=∃p l x,v=.ref p∧H p=some (.tup [.str w,.ref l,x])∧H l=some (.lst (ps.map V.str))∧N l∧gG H t x
def su(N:Addr→Prop)(H:Hp)(R:List Rw)(u:V):Prop:=∃l vs,u=.ref l∧N l∧H l=some (.lst vs)∧Al (jQ H) R vs
structure fh(C D:Addr)(A:Ad)(b1 b2 b3:T)(F:Nat)(N:Addr→Prop)(k:Nat)(ws:List Str)(rd:List (List Rw))(H:Hp):Prop where
 ob:H A.op=some (.ins C A.dx (lT A.sd A.lp F k A.yl))
 fw:∃n,FW D H A.lp A.lx A.tk n ws∧n+cnt n ws≤ws.length
 sd:H A.sd=some (.dK (yO A.v1 A.v2 A.v3))
 st:A.sd≠A.tk
 s1:Bt N H "star" [] b1 A.v1
 s2:Bt N H "sta" ["sab"] b2 A.v2
 s3:Bt N H "st" ["sab","tab"] b3 A.v3
 yl:∃us,H A.yl=some (.lst us)∧Al (su N H) rd us
def Ex(l:List Addr)(H H':Hp):Prop:=∀b o,b∉l→H b=some o→H' b=some o
theorem Ex.refl:Ex l H H:=λ_ _ _ h=>h
theorem Ex.trans(a:Ex l H H1)(b:Ex l H1 H2):Ex l H H2:=λc o n h=>b c o n (a c o n h)
theorem Ex.same(s:dq H H1):Ex l H H1:=λc o _ h=>s c o h
theorem Ex.more(h:∀a∈l,a∈l')(e:Ex l H H1):Ex l' H H1:=λc o n z=>e c o (λq=>n (h c q)) z
theorem Ex.upd(h:a∈l):Ex l H (upd H a o):=λc u n z=>by rw[db (λe=>n (by rw[e];exact h))];exact z
theorem Ex.new(h:∀a∈l',a∈l∨H a=none)(e:Ex l' H H1):Ex l H H1:=λc o n z=>e c o (λq=>(h c q).elim n λq2=>by rw[q2]at z;cases z) z
section
variable {C D:Addr}{A:Ad}{b1 b2 b3:T}{F k:Nat}{N N':Addr→Prop}{ws:List Str}{rd:List (List Rw)}{H H':Hp}
theorem Bt.mono(hN:∀a,N a→N' a)(ht:fH H H')(hl:∀l xs,N l→H l=some (.lst xs)→H' l=some (.lst xs))(h:Bt N H w ps t v):Bt N' H' w ps t v:=by obtain⟨p,l,x,e,h1,h2,h3,h4⟩:=h;exact⟨p,l,x,e,ht _ _ h1,hl _ _ h3 h2,hN _ h3,h4.mono ht⟩
theorem su.mono(hN:∀a,N a→N' a)(ht:fH H H')(hl:∀l xs,N l→H l=some (.lst xs)→H' l=some (.lst xs))(h:su N H R u):su N' H' R u:=by obtain⟨l,vs,e,h1,h2,h3⟩:=h;exact⟨l,vs,e,hN _ h1,hl _ _ h1 h2,h3.mono λ_ _=>jQ.mono ht⟩
theorem fh.nOL(O:fh C D A b1 b2 b3 F N k ws rd H):A.op≠A.lp:=by obtain⟨n,f,_⟩:=O.fw;exact fY O.ob f.ob (by intro z;injection z with _ _ z;simp[lT,wf]at z)
theorem fh.nOT(O:fh C D A b1 b2 b3 F N k ws rd H):A.op≠A.tk:=by obtain⟨n,f,_⟩:=O.fw;exact fY O.ob f.dk (by intro z;cases z)
theorem fh.nOY(O:fh C D A b1 b2 b3 F N k ws rd H):A.op≠A.yl:=by obtain⟨n,f,_⟩:=O.yl;exact fY O.ob f (by intro z;cases z)
theorem fh.ex(O:fh C D A b1 b2 b3 F N k ws rd H)(e:Ex l H H')(h1:A.op∉l)(h2:A.lp∉l)(h3:A.tk∉l)(h4:A.sd∉l)(h5:A.yl∉l)(ht:fH H H')(hl:∀a,N a→a∉l):fh C D A b1 b2 b3 F N k ws rd H':=by have hL:∀l xs,N l→H l=some (.lst xs)→H' l=some (.lst xs):=λa xs n z=>e _ _ (hl a n) z;obtain⟨n,f,c⟩:=O.fw;obtain⟨us,y1,y2⟩:=O.yl;exact⟨e _ _ h1 O.ob,⟨n,⟨e _ _ h2 f.ob,e _ _ h3 f.dk⟩,c⟩,e _ _ h4 O.sd,O.st,O.s1.mono (λ_ z=>z) ht hL,O.s2.mono (λ_ z=>z) ht hL,O.s3.mono (λ_ z=>z) ht hL,us,e _ _ h5 y1,y2.mono λ_ _=>su.mono (λ_ z=>z) ht hL⟩
theorem fh.same(O:fh C D A b1 b2 b3 F N k ws rd H)(s:dq H H'):fh C D A b1 b2 b3 F N k ws rd H':=
 O.ex (l:=[]) (Ex.same s) (by simp) (by simp) (by simp) (by simp) (by simp) (dY s) (by simp)
theorem fh.lst(O:fh C D A b1 b2 b3 F N k ws rd H)(h:H l=some (.lst xs))(ny:l≠A.yl)(nl:∀a,N a→a≠l):fh C D A b1 b2 b3 F N k ws rd (upd H l o):=by
 obtain⟨n,f,_⟩:=O.fw;refine O.ex (l:=[l]) (Ex.upd (aG.mpr rfl)) ?_ ?_ ?_ ?_ ?_ (fL h) (λa z q=>nl a z (aG.mp q))
 ·exact λq=>fY O.ob h (by intro z;cases z) (aG.mp q)
 ·exact λq=>fY f.ob h (by intro z;cases z) (aG.mp q)
 ·exact λq=>fY f.dk h (by intro z;cases z) (aG.mp q)
 ·exact λq=>fY O.sd h (by intro z;cases z) (aG.mp q)
 ·exact λq=>ny (aG.mp q).symm
theorem fh.weak(O:fh C D A b1 b2 b3 F N k ws rd H)(h:∀a o,H a=some o→N a→N' a):fh C D A b1 b2 b3 F N' k ws rd H:=by have hS:∀{w:Str}{ps:List Str}{t:T}{v:V},Bt N H w ps t v→Bt N' H w ps t v:=λ⟨p,l,x,e,h1,h2,h3,h4⟩=>⟨p,l,x,e,h1,h2,h _ _ h2 h3,h4⟩;obtain⟨us,y1,y2⟩:=O.yl;exact⟨O.ob,O.fw,O.sd,O.st,hS O.s1,hS O.s2,hS O.s3,us,y1,y2.mono λR u ⟨l,vs,e,h1,h2,h3⟩=>⟨l,vs,e,h _ _ h2 h1,h2,h3⟩⟩
theorem fh.kp(O:fh C D A b1 b2 b3 F N k ws rd H)(e:Ex l H H')(h:∀a∈l,a=A.tk∨(∃xs,H a=some (.lst xs))∨(∃C dx fs,H a=some (.ins C dx fs))):Kp (Nk A.tk) H H':=by
 obtain⟨n,f,_⟩:=O.fw;refine⟨λb xs z=>e _ _ (λq=>?_) z,λd kvs nd z=>e _ _ (λq=>?_) z⟩
 ·rcases h b q with rfl|⟨_,w⟩|⟨_,_,_,w⟩
  ·rw[f.dk]at z;cases z
  ·rw[w]at z;cases z
  ·rw[w]at z;cases z
 ·rcases h d q with rfl|⟨_,w⟩|⟨_,_,_,w⟩
  ·exact nd rfl
  ·rw[w]at z;cases z
  ·rw[w]at z;cases z
theorem fh.word(O:fh C D A b1 b2 b3 F N k ws rd H)(e:Bq A.lp A.tk H H')(f':FW D H' A.lp A.lx A.tk n' ws')(c:n'+cnt n' ws'≤ws'.length):fh C D A b1 b2 b3 F N k ws' rd H':=by
 obtain⟨n,f,_⟩:=O.fw;have ex:Ex [A.lp,A.tk] H H':=λb o nb z=>e b o (λq=>nb (by simp[q])) (λq=>nb (by simp[q])) z;have kp:Kp (Nk A.tk) H H':=O.kp ex (λa ha=>by
  rcases aB.mp ha with rfl|ha
  ·exact .inr (.inr ⟨_,_,_,f.ob⟩)
  ·exact .inl (aG.mp ha))
 have hL:∀l xs,N l→H l=some (.lst xs)→H' l=some (.lst xs):=λa xs n z=>e _ _ (fY z f.ob (by intro z;cases z)) (fY z f.dk (by intro z;cases z)) z;obtain⟨us,y1,y2⟩:=O.yl;exact⟨e _ _ O.nOL O.nOT O.ob,⟨n',f',c⟩,e _ _ (fY O.sd f.ob (by intro z;cases z)) O.st O.sd,O.st,O.s1.mono (λ_ z=>z) kp.tup hL,O.s2.mono (λ_ z=>z) kp.tup hL,O.s3.mono (λ_ z=>z) kp.tup hL,us,e _ _ (fY y1 f.ob (by intro z;cases z)) (fY y1 f.dk (by intro z;cases z)) y1,y2.mono λ_ _=>su.mono (λ_ z=>z) kp.tup hL⟩
end
structure Es(tk:Addr→Prop)(wl rl:Addr)(wus rus:List V)(P:List eF)(rs:List Rw)(H':Hp):Prop where
 w:∃pus,H' wl=some (.lst (wus++pus))∧Al (iM tk H') P pus
 r:∃rvs,H' rl=some (.lst (rus++rvs))∧Al (jQ H') rs rvs
structure xN(A:Ad)(N:Addr→Prop)(H:Hp):Prop where
 y:∀a,N a→a≠A.yl
 f:∀a,H a=none→N a
end S9
namespace S9
open PySem L2 SW
variable {K:aA}{vs:List V}{H:Hp}{Q:VK}{E:XK}{N C D:Addr}
theorem D4(ha:H a=some (.tup xs))(hb:H b=some (.tup ys))(hl:xs.length+ys.length≤sizeLine)(hy:ys≠[])(k:∀r H',dq H H'→H' r=some (.tup (xs++ys))→Q (.ref r) H'):ph K (.ref a) (.ref b) H Q:=
 ⟨a,b,xs,ys,rfl,rfl,eC.of ha,eC.of hb,hl,λe=>k b H (dq.refl _) (by rw[e];exact hb),λ_ z=>absurd z hy,λ_ _ p hp=>k p _ (dR hp) dO⟩
theorem kS(s:eF):s.within.length=s.t.kids.length:=uq s _ 0
theorem yr(s:eF):∀(ts:List T)(j i:Nat)(t:T),ts[i]?=some t→(wi s j ts)[i]?=some (s.kid (j+i) t)
 | [],j,i,t,h=>by simp at h
 | u::ts,j,0,t,h=>by cases h;rfl
 | u::ts,j,i+1,t,h=>by have:=yr s ts (j+1) i t h;rw[show j+(i+1)=j+1+i by lia];exact this
theorem pA{s:eF}{i:Nat}{t:T}(h:s.t.kids[i]?=some t):s.within[i]?=some (s.kid i t):=by have:=yr s _ 0 i t h;rwa[bw]at this
theorem uW:∀{ts:List T}{us:List V}{i:Nat}{u:V},gU H ts us→us[i]?=some u→∃t,ts[i]?=some t∧gG H t u
 | _,_,0,_,.cons a r,h=>by cases h;exact⟨_,rfl,a⟩
 | _,_,i+1,_,.cons a r,h=>uW (i:=i) r h
theorem BC(t:T):t.kids.length≤3:=by cases t<;>simp[T.kids]
theorem Aa(l:List Nat)(i:Nat):mN (l++[i])=mN l++[V.int (i:Int)]:=by simp[mN]
def iT:Sp:=λvs H Q _=>∃(tk:Addr→Prop)(s:eF)(u:V),vs=[u]∧iM tk H s u∧s.path.length≤1000∧∀(l:Addr)(us:List V)(H':Hp),dq H H'→H l=none→H' l=some (.lst us)→Al (iM tk H') s.within us→Q (.ref l) H'
def Ko(K:aA):TS:=(fI (Ie (Ee K (eV iU [] E0 (dM (eA (eE K) (dN 0) (tC (.int 0))) dW))) (lY K 2 (gF (dX 0) (gF (dX 1) lZ))) (fP (dM (dN 1) (dM (eA (eE K) (dN 2) (tC (.int 1))) (dM (eA (ph K) (eA (eE K) (dN 2) (tC (.int 2))) (fP (dM (dN 0) dW))) (dM (eA (eE K) (dN 2) (tC (.int 3))) dW))))) [0]))
theorem MM(h:iT vs H Q E):Ko K (gi Q) (start ["spot"] vs) H:=by
 obtain⟨tk,s,u,rfl,⟨q,x,pp,d,kvs,rfl,hq,hx,hpp,nd,hd,he⟩,hlen,k⟩:=h;refine⟨eC.of hq,dU (j:=0) rfl,gT s.t,x,rfl,jL hx,λpa us H1 s1 g1 dk=>?_⟩;have dk:gU H1 s.t.kids us:=sU (by rw[uQ]at dk;exact dk);have hl:=dk.length;have hk3:=BC s.t;refine⟨pa,us,rfl,eC.of g1,?_⟩;refine⟨λi mm ws H'=>i≤us.length∧mm=us.length-i∧dq H1 H'∧Al (iM tk H') (s.within.take i) ws,⟨_,aU _,rfl,λ_ _ z=>z,.nil⟩,?_⟩;rintro i mm ws H3 ⟨hi,rfl,s3,al⟩;have s13:=s1.trans s3;have hwl:=al.length;rw[aj,kS]at hwl;have g13:=s3 _ _ g1;by_cases hn:i=us.length
 ·refine .inl ⟨⟨us,eC.of g13,by lia⟩,by rw[sizeLine_eq];lia,λl hl'=>?_⟩;rw[bW (by rw[kS];lia)]at al;have s4:=dR (o:=.lst ws) hl';exact k l ws _ (s13.trans s4) (s13.free hl') dO (al.mono λ_ _=>iM.mono (Kp.same s4))
 ·have hlt:i<us.length:=by lia
  obtain⟨xa,hxa⟩:∃xa,us[i]?=some xa:=⟨us[i],aJ _⟩;refine .inr ⟨⟨us,xa,eC.of g13,hxa⟩,?_⟩;rintro z H4 ⟨pz,xa',rfl,hpz,rfl,q1⟩ o1 o2;have ea:=q1 us (eC.of g13);rw[hxa]at ea;cases ea;have s4:=dR (o:=.tup [.int (i:Int),xa]) hpz;have g4:(upd H3 pz (.tup [.int (i:Int),xa])) pz=some (.tup [.int (i:Int),xa]):=dO;generalize upd H3 pz (.tup [.int (i:Int),xa])=H4 at s4 g4⊢;have s14:=s13.trans s4;have hq4:=s14 _ _ hq;refine⟨pz,_,rfl,eC.of g4,rfl,_,_,rfl,_,_,rfl,rfl,⟨_,_,rfl⟩,?_⟩;refine⟨eC.of hq4,dU (j:=1) rfl,eC.of hq4,dU (j:=2) rfl,fT,eu λc H5 hc s5 g5=>?_⟩;have s15:=s14.trans s5;refine D4 (s15 _ _ hpp) g5 (by rw[DQ,sizeLine_eq];simp;lia) (by simp) λr H6 s6 hr=>?_;have s16:=s15.trans s6;refine⟨eC.of (s16 _ _ hq),dU (j:=3) rfl,fT,λy hy=>?_⟩;have s7:=dR (o:=.tup [xa,.str s.src,.ref r,.ref d]) hy;refine⟨by rw[sizeLine_eq];lia,us.length-(i+1),by lia,hlt,rfl,s3.trans (s4.trans (s5.trans (s6.trans s7))),?_⟩;obtain⟨t,ht,dt⟩:=uW dk hxa;rw[az,pA ht];have s37:=s4.trans (s5.trans (s6.trans s7));have s17:=s16.trans s7;refine(al.mono λ_ _=>iM.mono (Kp.same s37)).append (.one ⟨y,xa,r,d,kvs,rfl,dO,dt.mono (dY (s3.trans s37)),?_,nd,s17 _ _ hd,he.mono (Kp.same s17)⟩);rw[s7 _ _ hr];show _=some (HO.tup (mN (s.path++[i])));rw[Aa]
theorem jG:∀(t:T)(x:G),vp x (gT t)→x.kind="stamp"→oA t
 | .num n,x,h,e=>by
  cases h with
  | refl=>exact absurd e (by simp only[gT,G.kind];decide+kernel)
  | kid hk _=>simp[gT,G.kids]at hk
 | .name n,x,h,e=>by
  cases h with
  | refl=>exact absurd e (by simp only[gT,G.kind];decide+kernel)
  | kid hk _=>simp[gT,G.kids]at hk
 | .sum a b,x,h,e=>by
  cases h with
  | refl=>exact absurd e (by simp only[gT,G.kind];decide+kernel)
  | kid hk i=>
   simp only[gT,G.kids,aB,aF,or_false]at hk;rcases hk with rfl|rfl
   ·exact .inl (jG a x i e)
   ·exact .inr (jG b x i e)
 | .less a b,x,h,e=>by
  cases h with
  | refl=>exact absurd e (by simp only[gT,G.kind];decide+kernel)
  | kid hk i=>
   simp only[gT,G.kids,aB,aF,or_false]at hk;rcases hk with rfl|rfl
   ·exact .inl (jG a x i e)
   ·exact .inr (jG b x i e)
 | .cho a b c,x,h,e=>by
  cases h with
  | refl=>exact absurd e (by simp only[gT,G.kind];decide+kernel)
  | kid hk i=>
   simp only[gT,G.kids,aB,aF,or_false]at hk;rcases hk with rfl|rfl|rfl
   ·exact .inl (jG a x i e)
   ·exact .inr (.inl (jG b x i e))
   ·exact .inr (.inr (jG c x i e))
 | .lt w a b,x,h,e=>by
  cases h with
  | refl=>exact absurd e (by simp only[gT,G.kind];decide+kernel)
  | kid hk i=>
   simp only[gT,G.kids,aB,aF,or_false]at hk;rcases hk with rfl|rfl
   ·exact .inl (jG a x i e)
   ·exact .inr (jG b x i e)
 | .st0 _,_,_,_=>aH
 | .st1 _ _,_,_,_=>aH
 | .st2 _ _ _,_,_,_=>aH
theorem jE:∀(t:T),oA t→∃x,vp x (gT t)∧x.kind="stamp"
 | .num n,h=>h.elim
 | .name n,h=>h.elim
 | .sum a b,h=>h.elim (λz=>(jE a z).elim λx y=>⟨x,.kid (by simp[gT,G.kids]) y.1,y.2⟩) (λz=>(jE b z).elim λx y=>⟨x,.kid (by simp[gT,G.kids]) y.1,y.2⟩)
 | .less a b,h=>h.elim (λz=>(jE a z).elim λx y=>⟨x,.kid (by simp[gT,G.kids]) y.1,y.2⟩) (λz=>(jE b z).elim λx y=>⟨x,.kid (by simp[gT,G.kids]) y.1,y.2⟩)
 | .cho a b c,h=>by
  rcases h with z|z|z
  ·obtain⟨x,y⟩:=jE a z;exact⟨x,.kid (k:=gT a) (by simp[gT,G.kids]) y.1,y.2⟩
  ·obtain⟨x,y⟩:=jE b z;exact⟨x,.kid (k:=gT b) (by simp[gT,G.kids]) y.1,y.2⟩
  ·obtain⟨x,y⟩:=jE c z;exact⟨x,.kid (k:=gT c) (by simp[gT,G.kids]) y.1,y.2⟩
 | .lt w a b,h=>h.elim (λz=>(jE a z).elim λx y=>⟨x,.kid (by simp[gT,G.kids]) y.1,y.2⟩) (λz=>(jE b z).elim λx y=>⟨x,.kid (by simp[gT,G.kids]) y.1,y.2⟩)
 | .st0 _,_=>⟨_,.refl,rfl⟩
 | .st1 _ _,_=>⟨_,.refl,rfl⟩
 | .st2 _ _ _,_=>⟨_,.refl,rfl⟩
theorem gk:∀t:T,(gT t).size=t.size
 | .num n=>rfl
 | .name n=>rfl
 | .sum a b=>by simp only[gT,G.size,gz,T.size,gk a,gk b];lia
 | .less a b=>by simp only[gT,G.size,gz,T.size,gk a,gk b];lia
 | .cho a b c=>by simp only[gT,G.size,gz,T.size,gk a,gk b,gk c];lia
 | .lt w a b=>by simp only[gT,G.size,gz,T.size,gk a,gk b];lia
 | .st0 _=>rfl
 | .st1 _ a=>by simp only[gT,G.size,gz,T.size,gk a];lia
 | .st2 _ a b=>by simp only[gT,G.size,gz,T.size,gk a,gk b];lia
def tj:Sp:=λvs H Q _=>∃(tk:Addr→Prop)(s:eF)(u:V),vs=[u]∧iM tk H s u∧s.t.size≤900∧s.t.names.length<64∧(∀H',dq H H'→Op s→Q (.bl true) H')∧(∀H',dq H H'→¬Op s→Q (.bl false) H')
def Fq(K:aA):TS:=(fI (tC (.bl true)))
def Fp(K:aA):TS:=(fW (eI (eA kX (eA (eE K) (dN 1) (tC (.int 0))) (tC (.str "stamp")))) (Fq K) fN)
def Fn(K:aA):TS:=(fI (tC (.bl true)))
def Fm(K:aA):TS:=(fW (kq (tB (zt (dN 2) (eA (eE K) (dN 0) (tC (.int 3))))) (eI (eA kX (eA (eE K) (qd (eA (eE K) (dN 0) (tC (.int 3))) (dN 2)) (tC (.int 0))) (tC (.str "handed"))))) (Fn K) fN)
def K0(K:aA):TS:=(de (iY (i7 K (eV kU [] E0 (dM (eA (eE K) (dN 0) (tC (.int 0))) dW))) (dX 1) (Fp K)) (de (iY (i7 K (eV oG [] E0 (dM (eA (eE K) (dN 0) (tC (.int 0))) dW))) (dX 2) (Fm K)) (fI (tC (.bl false)))))
theorem MX(h:tj vs H Q E):K0 K (gi Q) (start ["spot","piece","word"] vs) H:=by
 obtain⟨tk,s,u,rfl,⟨q,x,pp,d,kvs,rfl,hq,hx,hpp,nd,hd,he⟩,hz1,hz2,k1,k2⟩:=h;refine⟨eC.of hq,dU (j:=0) rfl,gT s.t,x,rfl,jL hx,by rw[gk];lia,λl us L H1 s1 n1 h1 od dL=>⟨l,rfl,⟨_,eK.of h1⟩,?_⟩⟩;have hlen:=dL.1;refine gw (K:=K) (a:=l) (xs:=us) (λi σ H'=>∃j1,σ=[some (.ref q),j1,none]∧dq H1 H'∧∀x∈L.take i,x.kind≠"stamp") ⟨none,rfl,dq.refl _,by simp⟩ (λi σ H' _ hP=>?_) ?_ ?_
 ·obtain⟨_,_,s,_⟩:=hP;exact eK.of (s _ _ h1)
 ·rintro i y σ H' hi ⟨j1,rfl,s',hF⟩;have hil:i<us.length:=(aO.mp hi).1;have hg:L[i]?=some L[i]:=aJ (by lia);generalize L[i]=c at hg;have hcm:vp c (gT s.t):=(od.one c).mp (ac hg);have dc:=(dL.2 i c y hg hi).mono (dY s');obtain⟨p,ks,rfl,ok,hp,dk⟩:=dc.open;have h0:qR (c.hd++ks) 0=some (.str c.kind):=by cases c<;>exact dU (j:=0) rfl
  refine⟨eC.of hp,h0,rfl,_,rfl,?_⟩;by_cases hk:c.kind="stamp"
  ·refine fi (by rw[hk];decide+kernel) ?_;exact k1 _ (s1.trans s') (.inl (jG _ _ hcm hk))
  ·refine eM (nk hk) ⟨_,rfl,s',λx hx=>?_⟩;rw[az,hg]at hx;rcases aV.mp hx with z|z
   ·exact hF x z
   ·have:x=c:=by simpa using z
    exact this▸hk
 ·rintro σ H2 ⟨j1,rfl,s2,hF⟩;have hns:¬oA s.t:=λz=>by obtain⟨x,i1,i2⟩:=jE _ z;refine hF x ?_ i2;rw[hlen,bJ];exact(od.one x).mpr i1
  have s12:=s1.trans s2;refine⟨eC.of (s12 _ _ hq),dU (j:=0) rfl,s.t,x,rfl,hx.mono (dY s12),hz1,hz2,λl' ws H3 s3 n3 h3 up3 m3=>⟨l',rfl,⟨_,eK.of h3⟩,?_⟩⟩;have s13:=s12.trans s3;refine gw (K:=K) (a:=l') (xs:=ws.map V.str) (λi σ H'=>∃j2,σ=[some (.ref q),j1,j2]∧dq H3 H'∧∀w∈ws.take i,∀m,s.e.look w=some m→¬m.isH) ⟨none,rfl,dq.refl _,by simp⟩ (λi σ H' _ hP=>?_) ?_ ?_
  ·obtain⟨_,_,s,_⟩:=hP;exact eK.of (s _ _ h3)
  ·rintro i y σ H' hi ⟨j2,rfl,s',hF2⟩;obtain⟨w,hw,rfl⟩:∃x,ws[i]?=some x∧y=V.str x:=by
    rw[ae]at hi;cases e:ws[i]? with
    | none=>rw[e]at hi;cases hi
    | some z=>rw[e]at hi;exact⟨z,rfl,(Option.some.inj hi).symm⟩
   have s0':=s13.trans s';have hq':=s0' _ _ hq;have hd':=s0' _ _ hd;have dg:=iN.k (k:=.inr w) hd';have ho:s.t.out w:=(m3 w).mp (ac hw);have nx:(∀m,s.e.look w=some m→¬m.isH)→∃j2,([some (.ref q),j1,some (.str w)]:St)=[some (.ref q),j1,j2]∧dq H3 H'∧∀w∈ws.take (i+1),∀m,s.e.look w=some m→¬m.isH:=λhm=>⟨_,rfl,s',λv hv=>by
    rw[az,hw]at hv;rcases aV.mp hv with z|z
    ·exact hF2 v z
    ·have:v=w:=by simpa using z
     exact this▸hm⟩
   refine⟨eC.of hq',dU (j:=3) rfl,d,_,rfl,dg,_,rfl,?_⟩;rcases sT w (he.mono (Kp.same s0'))with⟨e1,e2⟩|⟨m,v,e1,e2,mm⟩
   ·rw[e2];refine eM rfl (eM rfl (nx λm z=>by rw[e1]at z;cases z))
   ·rw[e2]at dg⊢;refine fi rfl ?_;cases m with
    | called v=>obtain⟨p,rfl,hp⟩:=mm;refine⟨eC.of hq',dU (j:=3) rfl,d,_,rfl,dg,eC.of hp,dU (j:=0) rfl,rfl,_,rfl,eM (by decide+kernel) (nx λm z=>?_)⟩;rw[e1]at z;cases z;exact id
    | ready n z=>obtain⟨p,rfl,hp⟩:=mm;refine⟨eC.of hq',dU (j:=3) rfl,d,_,rfl,dg,eC.of hp,dU (j:=0) rfl,rfl,_,rfl,eM (by decide+kernel) (nx λm z=>?_)⟩;rw[e1]at z;cases z;exact id
    | handed t src path e=>obtain⟨p,q2,x2,pp2,d2,kvs2,rfl,hp,_⟩:=mm;refine⟨eC.of hq',dU (j:=3) rfl,d,_,rfl,dg,eC.of hp,dU (j:=0) rfl,rfl,_,rfl,fi (by decide+kernel) ?_⟩;exact k1 _ s0' (.inr ⟨w,_,ho,e1,aH⟩)
  ·rintro σ H4 ⟨j2,rfl,s4,hF2⟩;refine k2 _ (s13.trans s4) ?_;rintro(z|⟨w,m,o,l,i⟩)
   ·exact hns z
   ·refine hF2 w ?_ m l i;rw[aa,bJ];exact(m3 w).mpr o
end S9
namespace HT
open PySem PyProof.Rows
section
open PySem.SeqAt
open PySem.MeetsSeq PySem.MeetsSeq2 PySem.MeetsSeq3
variable {prog:Program}{w:World}{A:Around}{E:Value→Shared→Prop}{s:Shared}
theorem ul{t sl:Addr}{eL:Array Value}{vl vu:Value}{lo hi:Option Int}{Q:Value→Shared→Prop}(ht:IsTup s.heap t eL)(hs:s.heap.IsSliceOf sl vl vu .none)(pl:IsPart vl lo)(pu:IsPart vu hi)
  (h1:kH eL.size 0 lo=0) (h2:kH eL.size eL.size hi=eL.size) (h:Q (.ref t) s):wpAny (model prog w) A (getItem (.ref t) (.ref sl)) Q E s:=by
 obtain⟨os,hos,hcs,hds⟩:=id hs;have hTs:s.TypeIs (.ref sl) "slice":=⟨os,hos,hcs⟩;unfold getItem
 try with_reducible refine wpAny_holding ?_
 first|refine wpAny_bind (wpAny_pure ?_)|skip
 refine wpAny_bind (wpAny_sequenceKey ht.typeIs (by decide) ?_);refine wpAny_bind (wpAny_callSpecial?_slot (name:=Str.ofString "__getitem__") ht.typeIs be
  (wpAny_call_entry be ht.typeIs entry_tuple_getitem ?_ (args_tuple_getitem _ _)))
 show wpAny _ _ (Builtin.Tuple.tupleItemsOf (.ref t) >>= _) _ _ s;refine wpAny_bind (tupleItemsOf_ ht ?_);refine wpAny_bind (wpAny_typeOf hTs ?_);rw[if_pos (by decide)];refine wpAny_bind (kG hs pl pu ?_);have hno:((((kH eL.size 0 lo:Nat):Int)==0&&(1:Int)==1&&(kH eL.size eL.size hi-kH eL.size 0 lo)==eL.size)=true):=by rw[h1,h2];simp
 show wpAny _ _ (if(((kH eL.size 0 lo:Nat):Int)==0&&(1:Int)==1&&(kH eL.size eL.size hi-kH eL.size 0 lo)==eL.size)=true then _ else _) _ _ s;rw[if_pos hno];refine wpAny_bind (wpAny_bind (m:=typeOf (.ref t)) (wpAny_typeOf ht.typeIs (wpAny_pure ?_)));show wpAny _ _ (if _ then _ else _) _ _ s;rw[if_pos (by decide)];refine wpAny_bind (wpAny_rule ?_)
 first
  | exact wpAny_pure ⟨_,rfl,wpAny_pure h⟩
  | exact wpAny_bind (wpAny_pure (wpAny_pure ⟨_,rfl,wpAny_pure h⟩))
  | exact wpAny_bind (wpAny_pure ⟨_,rfl,wpAny_pure h⟩)
end
end HT
namespace L2
open PySem PySem.Spec PyProof.Rows
def Im(K:aA):V→Option Int→Option Int→Hp→VK→Prop:=λx lo hi H Q=>∃a xs,x=.ref a∧eC K H a xs∧
 HT.kH xs.length 0 lo=0∧HT.kH xs.length xs.length hi=xs.length∧Q (.ref a) H
def AU(K:aA):V→Option Int→Option Int→Hp→VK→Prop:=λx lo hi H Q=>AV K x lo hi H Q∨Im K x lo hi H Q
section
variable {X:Cx}
theorem AD:Bu X (Im X.K):=by
 intro pins s σ H x v vl vu lo hi sl Q I rx hs pl pu h;obtain⟨a,xs,rfl,hx,h1,h2,q⟩:=h;cases rx;obtain⟨its,r,ht,hz⟩:=I.tuple hx;have hlen:its.toArray.size=xs.length:=by rw[aM];exact r.length.symm
 refine⟨"tuple",_,be.lookup,ht.typeIs,?_⟩;refine HT.ul ht hs pl pu (by rw[hlen];exact h1) (by rw[hlen];exact h2) ?_;exact⟨.ref a,H,I,rfl,q⟩
theorem DE:Bu X (AU X.K):=Bu.or rW AD
end
end L2
namespace S9
open PySem L2 SW
variable {K:aA}{vs:List V}{H:Hp}{Q:VK}{E:XK}{N C D:Addr}
theorem vB(hr:H r=some (.tup [.str "row",.ref hp,.int n,.ref sx]))(hn:n=(h.ar:Int))(hh:H hp=some (.tup h.vs))(hs:H sx=some (.tup [.str src,.ref pp]))(hpp:H pp=some (.tup (mN path))):jQ H (.row h src path) (.ref r):=by subst hn;exact⟨r,hp,_,rfl,hr,hh,sx,pp,rfl,hs,hpp⟩
def xp:Sp:=λvs H Q _=>∃(tk:Addr→Prop)(wl rl:Addr)(s:eF)(o u:V)(w:Str)(wus rus:List V)(ws:List Str),vs=[o,u,.ref wl,.ref rl]∧iM tk H s u∧s.t=.name w∧H wl=some (.lst wus)∧H rl=some (.lst rus)∧wl≠rl∧wus.length≤9000000∧rus.length≤9000000∧
 ∀(P:List eF)(rs:List Rw)(H':Hp),Tk ws s P rs ws→Es tk wl rl wus rus P rs H'→Ex [wl,rl] H H'→Q .non H'
def E5(K:aA)(a_Opening a_FreshWords:Addr):TS:=(fQ (kB K "list" eh (dN 2) (dM (eA (eE K) (dN 5) (tC (.int 1))) dW)))
def E4(K:aA)(a_Opening a_FreshWords:Addr):TS:=(fQ (kB K "list" eh (dN 3) (dM (dN 5) dW)))
def E3(K:aA)(a_Opening a_FreshWords:Addr):TS:=(fQ (kB K "list" eh (dN 3) (dM (eV mT [] E0 (dM (dN 1) (dM (fP (dM (tC (.str "name")) (dM (eA (eE K) (dN 5) (tC (.int 1))) dW))) (dM (tC (.int 0)) dW)))) dW)))
def E2(K:aA)(a_Opening a_FreshWords:Addr):TS:=(fW (eI (eA kX (eA (eE K) (dN 5) (tC (.int 0))) (tC (.str "ready")))) (E4 K a_Opening a_FreshWords) (E3 K a_Opening a_FreshWords))
def zD(K:aA)(a_Opening a_FreshWords:Addr):TS:=(fW (eI (eA kX (eA (eE K) (dN 5) (tC (.int 0))) (tC (.str "handed")))) (E5 K a_Opening a_FreshWords) (E2 K a_Opening a_FreshWords))
def Kk(K:aA)(a_Opening a_FreshWords:Addr):TS:=(de (eG (eA (eE K) (eA (eE K) (dN 1) (tC (.int 0))) (tC (.int 1))) (dX 4)) (de (eG (pF (eA (eE K) (dN 1) (tC (.int 3))) (dN 4) (fP (dM (tC (.str "called")) (dM (dN 4) dW)))) (dX 5)) (zD K a_Opening a_FreshWords)))
theorem MK(h:xp vs H Q E):Kk K C D (gi Q) (start ["self","spot","waiting","rows","word","meaning"] vs) H:=by
 obtain⟨tk,wl,rl,s,o,u,w,wus,rus,ws,rfl,⟨q,x,pp,d,kvs,rfl,hq,hx,hpp,nd,hd,he⟩,ht,hw,hr,hne,z1,z2,k⟩:=h;rw[ht]at hx;obtain⟨p,rfl,hp⟩:=hx;refine⟨eC.of hq,dU (j:=0) rfl,eC.of hp,dU (j:=1) rfl,?_⟩;refine⟨eC.of hq,dU (j:=3) rfl,d,rfl,.inl ⟨kvs,.inl hd⟩,fT,eu λz H1 hz s1 g1=>?_⟩;refine⟨_,iN.k (k:=.inr w) (s1 _ _ hd),?_⟩;have hr1:=s1 _ _ hr;have hw1:=s1 _ _ hw;have called:∀(mp:Addr)(v:Str),H1 mp=some (.tup [.str "called",.str v])→Tk ws s [] [.row (.name v) s.src s.path] ws→zD K C D (gi Q) [some o,some (.ref q),some (.ref wl),some (.ref rl),some (.str w),some (.ref mp)] H1:=by intro mp v hm tkk;refine⟨eC.of hm,dU (j:=0) rfl,rfl,_,rfl,eM (by decide+kernel) ?_⟩;refine⟨eC.of hm,dU (j:=0) rfl,rfl,_,rfl,eM (by decide+kernel) ?_⟩;refine⟨.inl ⟨rfl,_,eK.of hr1⟩,eC.of hm,dU (j:=1) rfl,fT,eu λhh H2 hhh s2 g2=>?_⟩;have s12:=s1.trans s2;refine⟨q,q,_,s.src,_,_,.ref hh,0,rfl,s12 _ _ hq,λr sx H3 s3 g3 g4=>?_⟩;have s13:=s12.trans s3;have hr3:=s13 _ _ hr;refine⟨rl,_,_,rfl,rfl,hr3,by rw[sizeLine_eq];lia,?_⟩;have t4:fH H3 (upd H3 rl (.lst (rus++[.ref r]))):=fL hr3;refine k [] _ _ tkk ⟨⟨[],by rw[db hne,aZ];exact s13 _ _ hw,.nil⟩,[.ref r],dO,.one ?_⟩ ((Ex.same s13).trans (Ex.upd (by simp)));exact vB (t4 _ _ g4) rfl (t4 _ _ (s3 _ _ g2)) (t4 _ _ g3) (t4 _ _ (s13 _ _ hpp))
 rcases sT w he with⟨e1,e2⟩|⟨m,v,e1,e2,mm⟩
 ·rw[e2];exact called z w g1 (.free ht e1)
 ·rw[e2];have mm:=mm.mono (Kp.same s1);cases m with
  | called v=>obtain⟨p,rfl,hp⟩:=mm;exact called p v hp (.called ht e1)
  | ready n zz=>obtain⟨mp,rfl,hm⟩:=mm;refine⟨eC.of hm,dU (j:=0) rfl,rfl,_,rfl,eM (by decide+kernel) ?_⟩;refine⟨eC.of hm,dU (j:=0) rfl,rfl,_,rfl,fi (by decide+kernel) ?_⟩;refine⟨.inl ⟨rfl,_,eK.of hr1⟩,rl,_,_,rfl,rfl,hr1,by rw[sizeLine_eq];lia,?_⟩;have t4:fH H1 (upd H1 rl (.lst (rus++[.ref mp]))):=fL hr1;exact k [] _ _ (.ready ht e1) ⟨⟨[],by rw[db hne,aZ];exact hw1,.nil⟩,[.ref mp],dO,.one ⟨mp,rfl,t4 _ _ hm⟩⟩ ((Ex.same s1).trans (Ex.upd (by simp)))
  | handed t src path e=>obtain⟨mp,q2,x2,pp2,d2,kvs2,rfl,hm,hq2,hx2,hpp2,nd2,hd2,he2⟩:=mm;refine⟨eC.of hm,dU (j:=0) rfl,rfl,_,rfl,fi (by decide+kernel) ?_⟩;refine⟨.inl ⟨rfl,_,eK.of hw1⟩,eC.of hm,dU (j:=1) rfl,wl,_,_,rfl,rfl,hw1,by rw[sizeLine_eq];lia,?_⟩;have k4:Kp tk H1 (upd H1 wl (.lst (wus++[.ref q2]))):=Kp.lst hw1;have sp:iM tk H1 ⟨t,src,path,e⟩ (.ref q2):=⟨q2,x2,pp2,d2,kvs2,rfl,hq2,hx2,hpp2,nd2,hd2,he2⟩;exact k _ [] _ (.handed ht e1) ⟨⟨[.ref q2],dO,.one (sp.mono k4)⟩,[],by rw[db hne.symm,aZ];exact hr1,.nil⟩ ((Ex.same s1).trans (Ex.upd (by simp)))
def xo:Sp:=λvs H Q _=>∃(tk:Addr→Prop)(wl rl:Addr)(s:eF)(o u:V)(h:Hd)(wus rus:List V)(ws:List Str),vs=[o,u,.ref wl,.ref rl]∧iM tk H s u∧pl s.t=some h∧s.path.length≤1000∧H wl=some (.lst wus)∧H rl=some (.lst rus)∧wl≠rl∧wus.length≤9000000∧rus.length≤9000000∧
 ∀(P:List eF)(rs:List Rw)(H':Hp),Tk ws s P rs ws→Es tk wl rl wus rus P rs H'→Ex [wl,rl] H H'→Q .non H'
def E1(K:aA)(a_Opening a_FreshWords:Addr):TS:=(fQ (kB K "list" eh (dN 2) (dM (dN 6) dW)))
def Kj(K:aA)(a_Opening a_FreshWords:Addr):TS:=(de (eG (eA (eE K) (dN 1) (tC (.int 0))) (dX 4)) (de (eG (eV iT [] E0 (dM (dN 1) dW)) (dX 5)) (de (fQ (kB K "list" eh (dN 3) (dM (eV mT [] E0 (dM (dN 1) (dM (nA (AU K) (dN 4) gI (gH (eA jR (gm (gh K) (dM (dN 4) dW)) (gm (gh K) (dM (dN 5) dW))))) (dM (gm (gh K) (dM (dN 5) dW)) dW)))) dW))) (iY (HY K (dN 5)) (dX 6) (E1 K a_Opening a_FreshWords)))))
theorem uS{K:aA}{a:Addr}{xs:List V}{g:TG}{tb:TS}{D:iz}{σ:St}{H:Hp}(Pv:Nat→St→Hp→Prop)(h0:Pv 0 σ H)(hl:∀i σ H,i≤xs.length→Pv i σ H→eK K H a xs)
  (hs:∀i x σ H,i<xs.length→xs[xs.length-1-i]?=some x→Pv i σ H→g x σ H λσ2 H2=>tb {D with nx:=Pv (i+1),ct:=Pv (i+1),bk:=D.nx} σ2 H2) (hd:∀σ H,Pv xs.length σ H→D.nx σ H):
  ∃W:Nat→Nat→St→Hp→Prop,(∃m,W 0 m σ H)∧∀i m σ H,W i m σ H→
   ((rG K a xs.length).stop i H∧D.nx σ H)∨((rG K a xs.length).go i H∧∃N:St→Hp→Prop,(∀σ' H',N σ' H'→∃m',m'<m∧W (i+1) m' σ' H')∧∀x H',(rG K a xs.length).yld i H x H'→g x σ H' λσ2 H2=>tb {D with nx:=N,ct:=N,bk:=D.nx} σ2 H2):=by
 refine⟨λi m σ H=>m=xs.length-i∧i≤xs.length∧Pv i σ H,⟨_,rfl,aU _,h0⟩,?_⟩;rintro i m σ H ⟨rfl,hi,pv⟩;by_cases e:i=xs.length
 ·subst e;exact .inl ⟨rfl,hd _ _ pv⟩
 ·have hlt:i<xs.length:=by lia
  refine .inr ⟨⟨hlt,xs,xs[xs.length-1-i]'(by lia),hl _ _ _ hi pv,rfl,aJ _⟩,Pv (i+1),λσ' H' h=>⟨xs.length-(i+1),by lia,rfl,hlt,h⟩,?_⟩;rintro x H' ⟨rfl,hx⟩;exact hs i x σ H' hlt (hx xs (hl _ _ _ hi pv)) pv
theorem Jq(e:pl t=some h):SW.hd t=h.vs:=by cases t<;>simp only[pl,Option.some.injEq,reduceCtorEq]at e<;>subst e<;>rfl
theorem DF(hp:H p=some (.tup (xs++ks)))(hz:z=(xs.length:Int))(k:∀r H',dq H H'→H' r=some (.tup xs)→Q (.ref r) H'):AU K (.ref p) none (some z) H Q:=by
 subst hz;by_cases hk:ks=[]
 ·subst hk;rw[aZ]at hp;exact .inr ⟨p,xs,rfl,eC.of hp,rfl,by rw[HT.KL,Nat.min_self],k p H (dq.refl _) hp⟩
 ·refine .inl ⟨p,_,rfl,eC.of hp,?_,λr hr=>k r _ (dR hr) ?_⟩
  ·rintro⟨_,z⟩;have:0<ks.length:=dJ.mpr hk;rw[HT.KL,aD]at z;lia
  ·rw[dO,sX _ _ (by simp),cg]
theorem AN{us:List V}{i:Nat}{x:V}(hi:i<us.length)(hx:us[us.length-1-i]?=some x):(us.drop (us.length-(i+1))).reverse=(us.drop (us.length-i)).reverse++[x]:=by
 obtain⟨h1,h2⟩:=aO.mp hx;have e:us.length-(i+1)=us.length-1-i:=by lia
 rw[e,bZ h1,h2,ay]
 congr 3
 lia
theorem MJ(h:xo vs H Q E):Kj K C D (gi Q) (start ["self","spot","waiting","rows","piece","inner","part"] vs) H:=by
 obtain⟨tk,wl,rl,s,o,u,h,wus,rus,ws,rfl,sp,hpl,hpath,hw,hr,hne,z1,z2,k⟩:=h;have sp0:=sp;obtain⟨q,x,pp,d,kvs,rfl,hq,hx,hpp,nd,hd,he⟩:=sp;refine⟨eC.of hq,dU (j:=0) rfl,?_⟩;refine⟨tk,s,.ref q,rfl,sp0,hpath,λil us H1 s1 n1 g1 al=>?_⟩;obtain⟨p,ks,rfl,hp,dk⟩:=hx.open;rw[Jq hpl]at hp;have hp1:=s1 _ _ hp;have hal:=al.length;rw[kS]at hal;have hkl:=dk.length;have har:=EW hpl;have hk3:=BC s.t;refine⟨.inl ⟨rfl,_,eK.of (s1 _ _ hr)⟩,p,_,rfl,.inr (eC.of hp1),il,_,rfl,.inl (eK.of g1),_,rfl,?_⟩;refine DF hp1 (by rw[aD];lia) λhh H2 s2 g2=>?_;have s12:=s1.trans s2;refine⟨il,_,rfl,.inl (eK.of (s2 _ _ g1)),q,q,_,s.src,_,_,.ref hh,us.length,rfl,s12 _ _ hq,λr sx H3 s3 g3 g4=>?_⟩;have s13:=s12.trans s3;have hr3:=s13 _ _ hr;refine⟨rl,_,_,rfl,rfl,hr3,by rw[sizeLine_eq];lia,?_⟩;have kp4:Kp tk H3 (upd H3 rl (.lst (rus++[.ref r]))):=Kp.lst hr3;have ex4:Ex [wl,rl] H3 (upd H3 rl (.lst (rus++[.ref r]))):=Ex.upd (by simp);have w4:(upd H3 rl (.lst (rus++[.ref r]))) wl=some (.lst wus):=by rw[db hne];exact s13 _ _ hw
 have r4:(upd H3 rl (.lst (rus++[.ref r]))) rl=some (.lst (rus++[.ref r])):=dO;have nil_:il≠rl:=(dZ hr n1).symm;have niw:il≠wl:=(dZ hw n1).symm;have i4:(upd H3 rl (.lst (rus++[.ref r]))) il=some (.lst us):=by rw[db nil_];exact s3 _ _ (s2 _ _ g1)
 generalize upd H3 rl (.lst (rus++[.ref r]))=H4 at kp4 ex4 w4 r4 i4⊢;have rw4:jQ H4 (.row h s.src s.path) (.ref r):=vB (kp4.tup _ _ g4) (by lia) (kp4.tup _ _ (s3 _ _ g2)) (kp4.tup _ _ g3) (kp4.tup _ _ (s13 _ _ hpp));have al4:Al (iM tk H4) s.within us:=al.mono λ_ _=>iM.mono ((Kp.same (s2.trans s3)).trans kp4);have ex04:Ex [wl,rl] H H4:=(Ex.same s13).trans ex4;refine⟨il,us,rfl,eK.of i4,?_⟩;refine uS (K:=K) (a:=il) (xs:=us) (λi σ H'=>∃j6,σ=[some o,some (.ref q),some (.ref wl),some (.ref rl),some (.ref p),some (.ref il),j6]∧Kp tk H4 H'∧Ex [wl,rl] H4 H'∧H' wl=some (.lst (wus++(us.drop (us.length-i)).reverse))∧H' rl=some (.lst (rus++[.ref r]))∧H' il=some (.lst us))
  ⟨none,rfl,.refl,.refl,by simpa using w4,r4,i4⟩ (λi σ H' _ hP=>?_) ?_ ?_
 ·obtain⟨_,_,_,_,_,_,hi⟩:=hP;exact eK.of hi
 ·rintro i y σ H5 hi hy ⟨j6,rfl,kp5,ex5,w5,r5,i5⟩;refine⟨.inl ⟨rfl,_,eK.of w5⟩,wl,_,_,rfl,rfl,w5,?_,?_⟩
  ·rw[aD,bX,ai,sizeLine_eq];lia
  ·refine⟨_,rfl,kp5.trans (Kp.lst w5),ex5.trans (Ex.upd (by simp)),?_,by rw[db hne.symm];exact r5,by rw[db niw];exact i5⟩;rw[dO,AN hi hy,aT]
 ·rintro σ H5 ⟨j6,rfl,kp5,ex5,w5,r5,i5⟩;rw[bN,ah]at w5;exact k _ _ _ (.plain hpl) ⟨⟨us.reverse,w5,(al4.mono λ_ _=>iM.mono kp5).reverse⟩,[.ref r],r5,.one (rw4.mono kp5.tup)⟩ (ex04.trans ex5)
def xq(C D:Addr):Sp:=λvs H Q _=>∃(A:Ad)(b1 b2 b3:T)(F k:Nat)(N:Addr→Prop)(ws:List Str)(rd:List (List Rw))(wl rl:Addr)(s:eF)(u:V)(w:Str)(a b:T)(wus rus:List V)(P:Nat→Nat→Prop),
 vs=[.ref A.op,u,.ref wl,.ref rl]∧fh C D A b1 b2 b3 F N k ws rd H∧iM (Nk A.tk) H s u∧s.t=.lt w a b∧s.ok P∧ws.length≤8000000∧H wl=some (.lst wus)∧H rl=some (.lst rus)∧wl≠rl∧wl≠A.yl∧rl≠A.yl∧(∀a,N a→a≠wl)∧(∀a,N a→a≠rl)∧wus.length≤9000000∧rus.length≤9000000∧
 ∀(P:List eF)(rs:List Rw)(ws':List Str)(H':Hp),Tk ws s P rs ws'→fh C D A b1 b2 b3 F N k ws' rd H'→Es (Nk A.tk) wl rl wus rus P rs H'→Ex [wl,rl,A.lp,A.tk] H H'→Q .non H'
def Kl(K:aA)(a_Opening a_FreshWords:Addr):TS:=(de (eG (eA (eE K) (eA (eE K) (dN 1) (tC (.int 0))) (tC (.int 1))) (dX 4)) (de (eG (jm a_FreshWords "fresh" (mU a_FreshWords) [] E0 (kC K (dN 0) "lets") (dM (dN 4) dW)) (dX 5)) (de (eG (eV iT [] E0 (dM (dN 1) dW)) (dX 6)) (de (eG (eA (gP K) (dN 6) (tC (.int 1))) (dX 7)) (de (fQ (kB K "list" eh (dN 3) (dM (eV mT [] E0 (dM (dN 1) (dM (fP (dM (tC (.str "let")) (dM (dN 5) dW))) (dM (tC (.int 2)) dW)))) dW))) (de (fQ (kB K "list" eh (dN 2) (dM (fP (dM (eA (eE K) (dN 7) (tC (.int 0))) (dM (eA (eE K) (dN 7) (tC (.int 1))) (dM (eA (eE K) (dN 7) (tC (.int 2))) (dM (eV iZ [] E0 (dM (eA (eE K) (dN 1) (tC (.int 3))) (dM (dN 4) (dM (fP (dM (tC (.str "called")) (dM (dN 5) dW))) dW)))) dW))))) dW))) (fQ (kB K "list" eh (dN 2) (dM (eA (gP K) (dN 6) (tC (.int 0))) dW)))))))))
end S9
namespace S9
open PySem L2 SW
variable {K:aA}{vs:List V}{H:Hp}{Q:VK}{E:XK}{C D:Addr}
theorem IN{d:Addr}{n:Nat}{m:Str}(e1:(m=="taken")=false:=by decide+kernel)(e2:(m=="tried")=false:=by decide+kernel):(wf d n).lookup m=none:=by simp only[wf,List.lookup,e1,e2]
theorem fh.kpW(O:fh C D A b1 b2 b3 F N k ws rd H)(e:Ex [A.lp,A.tk] H H'):Kp (Nk A.tk) H H':=by
 obtain⟨n,f,_⟩:=O.fw;refine O.kp e (λa ha=>?_);rcases aB.mp ha with rfl|ha
 ·exact .inr (.inr ⟨_,_,_,f.ob⟩)
 ·exact .inl (aG.mp ha)
theorem Bh(e:Bq p d H H'):Ex [p,d] H H':=λb o nb z=>e b o (λq=>nb (by simp[q])) (λq=>nb (by simp[q])) z
theorem ML(ro:RO K C)(h:xq C D vs H Q E):Kl K C D (gi Q) (start ["self","spot","waiting","rows","own","word","inner","other"] vs) H:=by
 obtain⟨A,b1,b2,b3,F,k,N,ws,rd,wl,rl,s,u,w,a,b,wus,rus,P,rfl,O,sp,ht,ok,hws,hw,hr,hne,ny,nz,nw,nr,z1,z2,kk⟩:=h;have sp0:=sp;obtain⟨q,x,pp,d,kvs,rfl,hq,hx,hpp,nd,hd,he⟩:=sp;rw[ht]at hx;obtain⟨p,x1,x2,rfl,hp,d1,d2⟩:=hx;refine⟨eC.of hq,dU (j:=0) rfl,eC.of hp,dU (j:=1) rfl,?_⟩;obtain⟨n,fw,cn⟩:=O.fw;have wt:WT SF s.t:=ok.1.1;rw[ht]at wt;refine⟨A.op,C,A.dx,_,_,rfl,O.ob,ro.cl,ro.nL,Dm,A.lp,A.lx,_,rfl,fw.ob,IN,A.lp,A.lx,A.tk,n,ws,w,rfl,fw,wt.1,hws,cn,λy n' H1 wy hy hyw hn ap fw1=>?_⟩;have O1:=O.word ap fw1 (by rw[aD];exact hn);have kp1:=O.kpW (Bh ap);have ex1:Ex [wl,rl,A.lp,A.tk] H H1:=(Bh ap).more (by simp);have hw1:H1 wl=some (.lst wus):=ap _ _ (fY hw fw.ob (by intro z;cases z)) (fY hw fw.dk (by intro z;cases z)) hw;have hr1:H1 rl=some (.lst rus):=ap _ _ (fY hr fw.ob (by intro z;cases z)) (fY hr fw.dk (by intro z;cases z)) hr;have sp1:=sp0.mono kp1;have hq1:=kp1.tup _ _ hq;have hpp1:=kp1.tup _ _ hpp;have hd1:=kp1.dct _ _ nd hd;have he1:=he.mono kp1;have htk1:=fw1.dk;refine⟨Nk A.tk,s,.ref q,rfl,sp1,by have:=ok.1.2.1;lia,λil us H2 s2 n2 g2 al=>?_⟩;have ew:s.within=[s.kid 0 a,s.kid 1 b]:=by unfold eF.within;rw[ht];rfl
 rw[ew]at al;cases al with|cons sa al=>cases al with|cons sb al=>cases al with|nil=>
 rename_i ua ub;obtain⟨q1,y1,pp1,dd1,kvs1,rfl,hq3,hy1,hpp3,_⟩:=sb;have hq3:H2 q1=some (.tup [y1,.str s.src,.ref pp1,.ref dd1]):=hq3;have hy1:gG H2 b y1:=hy1;have hpp3:H2 pp1=some (.tup (mN (s.path++[1]))):=hpp3;refine⟨eK.of g2,dU (j:=1) rfl,?_⟩;refine⟨.inl ⟨rfl,_,eK.of (s2 _ _ hr1)⟩,fT,eu λhh H3 hhh s3 g3=>?_⟩;have s13:=s2.trans s3;refine⟨q,q,_,s.src,_,_,.ref hh,2,rfl,s13 _ _ hq1,λr sx H4 s4 g4 g5=>?_⟩;have s14:=s13.trans s4;have hr4:=s14 _ _ hr1;refine⟨rl,_,_,rfl,rfl,hr4,by rw[sizeLine_eq];lia,?_⟩;have nir:il≠rl:=(dZ hr1 n2).symm;have niw:il≠wl:=(dZ hw1 n2).symm;have O5:=(O1.same s14).lst (o:=.lst (rus++[.ref r])) hr4 nz nr;have kp5:Kp (Nk A.tk) H4 (upd H4 rl (.lst (rus++[.ref r]))):=Kp.lst hr4;have ex5:Ex [wl,rl,A.lp,A.tk] H4 (upd H4 rl (.lst (rus++[.ref r]))):=Ex.upd (by simp);have w5:(upd H4 rl (.lst (rus++[.ref r]))) wl=some (.lst wus):=by rw[db hne];exact s14 _ _ hw1
 have r5:(upd H4 rl (.lst (rus++[.ref r]))) rl=some (.lst (rus++[.ref r])):=dO;have i5:(upd H4 rl (.lst (rus++[.ref r]))) il=some (.lst [ua,.ref q1]):=by rw[db nir];exact s4 _ _ (s3 _ _ g2)
 have t5:(upd H4 rl (.lst (rus++[.ref r]))) A.tk=some (.dK (im (ws++[y]))):=by rw[db (fY (s14 _ _ htk1) hr4 (by intro z;cases z))];exact s14 _ _ htk1
 generalize upd H4 rl (.lst (rus++[.ref r]))=H5 at O5 kp5 ex5 w5 r5 i5 t5⊢;have kp15:Kp (Nk A.tk) H1 H5:=(Kp.same s14).trans kp5;have kp25:Kp (Nk A.tk) H2 H5:=(Kp.same (s3.trans s4)).trans kp5;have rw5:jQ H5 (.row (.lt y) s.src s.path) (.ref r):=vB (kp5.tup _ _ g5) rfl (kp5.tup _ _ (s4 _ _ g3)) (kp5.tup _ _ g4) (kp15.tup _ _ hpp1);have sa5:=sa.mono kp25;have hq5:=kp15.tup _ _ hq1;have hq35:=kp25.tup _ _ hq3;have hy5:=hy1.mono kp25.tup;have hpp5:=kp25.tup _ _ hpp3;have hd5:=kp15.dct _ _ nd hd1;have he5:=he1.mono kp15;have ex05:Ex [wl,rl,A.lp,A.tk] H H5:=ex1.trans ((Ex.same s14).trans ex5);refine⟨.inl ⟨rfl,_,eK.of w5⟩,eC.of hq35,dU (j:=0) rfl,eC.of hq35,dU (j:=1) rfl,eC.of hq35,dU (j:=2) rfl,eC.of hq5,dU (j:=3) rfl,fT,eu λcc H6 hcc s6 g6=>?_⟩;refine⟨d,w,.ref cc,kvs,rfl,s6 _ _ hd5,by rw[vg he];have:=ok.1.2.2.1;lia,λdn H7 nn s7 gd=>⟨fT,λsp2 hsp2=>?_⟩⟩;have s8:=dR (o:=.tup [y1,.str s.src,.ref pp1,.ref dn]) hsp2;have g8:(upd H7 sp2 (.tup [y1,.str s.src,.ref pp1,.ref dn])) sp2=some (.tup [y1,.str s.src,.ref pp1,.ref dn]):=dO;have s58:=s6.trans (s7.trans s8);have dnt:dn≠A.tk:=(dZ (s6 _ _ t5) nn).symm;have spb:iM (Nk A.tk) (upd H7 sp2 (.tup [y1,.str s.src,.ref pp1,.ref dn])) ⟨b,s.src,s.path++[1],s.e.put w (.called y)⟩ (.ref sp2):=by refine⟨sp2,y1,pp1,dn,_,rfl,g8,hy5.mono (dY s58),s58 _ _ hpp5,dnt,s8 _ _ gd,?_⟩;exact(vf (n:=.called y) ⟨cc,rfl,s7 _ _ g6⟩ (EX ok.2) (he5.mono (Kp.same (s6.trans s7)))).mono (Kp.same s8)
 generalize upd H7 sp2 (.tup [y1,.str s.src,.ref pp1,.ref dn])=H8 at s8 g8 s58 spb⊢;have w8:=s58 _ _ w5;refine⟨wl,_,_,rfl,rfl,w8,by rw[sizeLine_eq];lia,?_⟩;have O9:=(O5.same s58).lst (o:=.lst (wus++[.ref sp2])) w8 ny nw;have kp9:Kp (Nk A.tk) H8 (upd H8 wl (.lst (wus++[.ref sp2]))):=Kp.lst w8;have ex9:Ex [wl,rl,A.lp,A.tk] H8 (upd H8 wl (.lst (wus++[.ref sp2]))):=Ex.upd (by simp);have w9:(upd H8 wl (.lst (wus++[.ref sp2]))) wl=some (.lst (wus++[.ref sp2])):=dO;have r9:(upd H8 wl (.lst (wus++[.ref sp2]))) rl=some (.lst (rus++[.ref r])):=by rw[db hne.symm];exact s58 _ _ r5
 have i9:(upd H8 wl (.lst (wus++[.ref sp2]))) il=some (.lst [ua,.ref q1]):=by rw[db niw];exact s58 _ _ i5
 generalize upd H8 wl (.lst (wus++[.ref sp2]))=H9 at O9 kp9 ex9 w9 r9 i9⊢;have kp59:Kp (Nk A.tk) H5 H9:=(Kp.same s58).trans kp9;refine⟨.inl ⟨rfl,_,eK.of w9⟩,eK.of i9,dU (j:=0) rfl,wl,_,_,rfl,rfl,w9,by rw[aD,bB,sizeLine_eq];lia,?_⟩;have kp10:Kp (Nk A.tk) H9 (upd H9 wl (.lst (wus++[.ref sp2]++[ua]))):=Kp.lst w9;refine kk _ _ _ _ (.lt ht wy hy hyw) (O9.lst w9 ny nw) ⟨⟨[.ref sp2,ua],by rw[dO,aT];rfl,.cons (spb.mono (kp9.trans kp10)) (.one (sa5.mono (kp59.trans kp10)))⟩,[.ref r],by rw[db hne.symm];exact r9,.one (rw5.mono (kp59.trans kp10).tup)⟩ (ex05.trans ((Ex.same s58).trans (ex9.trans (Ex.upd (by simp)))))
end S9
namespace S9
open PySem L2 SW
variable {K:aA}{vs:List V}{H:Hp}{Q:VK}{E:XK}{C D:Addr}
def wU:Sp:=λvs _ _ _=>vs.length=2∧False
structure J5(C D:Addr)(A:Ad)(b1 b2 b3:T)(F:Nat)(N:Addr→Prop)(k:Nat)(ws:List Str)(rd:List (List Rw))(wl rl:Addr)(wus rus:List V)(s:eF)(u:V)(P:Nat→Nat→Prop)(H:Hp):Prop where
 O:fh C D A b1 b2 b3 F N k ws rd H
 sp:iM (Nk A.tk) H s u
 ok:s.ok P
 zs:ws.length≤8000000
 w:H wl=some (.lst wus)
 r:H rl=some (.lst rus)
 ne:wl≠rl
 ny:wl≠A.yl
 nz:rl≠A.yl
 nw:∀a,N a→a≠wl
 nr:∀a,N a→a≠rl
 z1:wus.length≤9000000
 z2:rus.length≤9000000
section
variable {A:Ad}{b1 b2 b3:T}{F k:Nat}{N:Addr→Prop}{ws:List Str}{rd:List (List Rw)}{wl rl:Addr}{wus rus:List V}{s:eF}{u:V}{P:Nat→Nat→Prop}{H':Hp}
theorem J5.two(B:J5 C D A b1 b2 b3 F N k ws rd wl rl wus rus s u P H)(ex:Ex [wl,rl] H H'):fh C D A b1 b2 b3 F N k ws rd H':=by
 have kp:Kp (Nk A.tk) H H':=B.O.kp ex (λa ha=>by
  rcases aB.mp ha with rfl|ha
  ·exact .inr (.inl ⟨_,B.w⟩)
  ·rw[aG.mp ha];exact .inr (.inl ⟨_,B.r⟩))
 obtain⟨n,f,_⟩:=B.O.fw;have two:∀a o,H a=some o→(∀xs,o≠.lst xs)→a∉[wl,rl]:=λa o h n q=>by
  rcases aB.mp q with rfl|q
  ·rw[B.w]at h;exact n _ (Option.some.inj h).symm
  ·rw[aG.mp q,B.r]at h;exact n _ (Option.some.inj h).symm
 refine B.O.ex ex (two _ _ B.O.ob (by intro xs z;cases z)) (two _ _ f.ob (by intro xs z;cases z)) (two _ _ f.dk (by intro xs z;cases z)) (two _ _ B.O.sd (by intro xs z;cases z)) (λq=>?_) kp.tup (λa z q=>?_)
 ·rcases aB.mp q with q|q
  ·exact B.ny q.symm
  ·exact B.nz (aG.mp q).symm
 ·rcases aB.mp q with q|q
  ·exact B.nw a z q
  ·exact B.nr a z (aG.mp q)
end
def tW(C D:Addr):Sp:=λvs H Q _=>∃(A:Ad)(b1 b2 b3:T)(F k:Nat)(N:Addr→Prop)(ws:List Str)(rd:List (List Rw))(wl rl:Addr)(wus rus:List V)(s:eF)(u:V)(P:Nat→Nat→Prop),
 vs=[.ref A.op,u,.ref wl,.ref rl]∧J5 C D A b1 b2 b3 F N k ws rd wl rl wus rus s u P H∧¬Op s∧
 ∀(P:List eF)(rs:List Rw)(ws':List Str)(H':Hp),Tk ws s P rs ws'→fh C D A b1 b2 b3 F N k ws' rd H'→Es (Nk A.tk) wl rl wus rus P rs H'→Ex [wl,rl,A.lp,A.tk] H H'→Q .non H'
def FC(K:aA)(a_Opening a_FreshWords:Addr):TS:=(de (oa K (dN 0) (tC (.int 1)) DO "many") (fQ (kB K "list" eh (dN 2) (dM (jm a_Opening "body_of" wU [] E0 (dN 0) (dM (dN 1) dW)) dW))))
def FA(K:aA)(a_Opening a_FreshWords:Addr):TS:=(fQ (jm a_Opening "take_name" xp [] E0 (dN 0) (dM (dN 1) (dM (dN 2) (dM (dN 3) dW)))))
def E9(K:aA)(a_Opening a_FreshWords:Addr):TS:=(fQ (jm a_Opening "take_let" (xq a_Opening a_FreshWords) [] E0 (dN 0) (dM (dN 1) (dM (dN 2) (dM (dN 3) dW)))))
def E8(K:aA)(a_Opening a_FreshWords:Addr):TS:=(fQ (jm a_Opening "take_plain" xo [] E0 (dN 0) (dM (dN 1) (dM (dN 2) (dM (dN 3) dW)))))
def E7(K:aA)(a_Opening a_FreshWords:Addr):TS:=(fW (eI (eA kX (dN 4) (tC (.str "let")))) (E9 K a_Opening a_FreshWords) (E8 K a_Opening a_FreshWords))
def rO(K:aA)(a_Opening a_FreshWords:Addr):TS:=(fW (eI (eA kX (dN 4) (tC (.str "name")))) (FA K a_Opening a_FreshWords) (E7 K a_Opening a_FreshWords))
def E6(K:aA)(a_Opening a_FreshWords:Addr):TS:=(fW (eI (eA kX (dN 4) (tC (.str "stamp")))) (FC K a_Opening a_FreshWords) (rO K a_Opening a_FreshWords))
def Km(K:aA)(a_Opening a_FreshWords:Addr):TS:=(de (eG (eA (eE K) (eA (eE K) (dN 1) (tC (.int 0))) (tC (.int 0))) (dX 4)) (E6 K a_Opening a_FreshWords))
theorem Ef(t:T)(ks:List V):qR (SW.hd t++ks) 0=some (.str (kind t)):=by cases t<;>exact dU (j:=0) rfl
theorem AO(B:J5 C D A b1 b2 b3 F N k ws rd wl rl wus rus s u P H)(hk:kind s.t≠"stamp")
  (kk:∀(P:List eF)(rs:List Rw)(ws':List Str)(H':Hp),Tk ws s P rs ws'→fh C D A b1 b2 b3 F N k ws' rd H'→Es (Nk A.tk) wl rl wus rus P rs H'→Ex [wl,rl,A.lp,A.tk] H H'→Q .non H'):
  rO K C D (gi Q) [some (.ref A.op),some u,some (.ref wl),some (.ref rl),some (.str (kind s.t))] H:=by
 have path:s.path.length≤1000:=by have:=B.ok.1.2.1;lia
 have plain:∀h,pl s.t=some h→kind s.t≠"name"→kind s.t≠"let"→rO K C D (gi Q) [some (.ref A.op),some u,some (.ref wl),some (.ref rl),some (.str (kind s.t))] H:=λh hp n1 n2=>by refine⟨rfl,_,rfl,eM (nk n1) ⟨rfl,_,rfl,eM (nk n2) ?_⟩⟩;refine⟨A.op,A.dx,_,rfl,B.O.ob,md,Nk A.tk,wl,rl,s,_,_,h,wus,rus,ws,rfl,B.sp,hp,path,B.w,B.r,B.ne,B.z1,B.z2,λP rs H' tk' aft ex=>?_⟩;exact kk P rs ws H' tk' (B.two ex) aft (ex.more (by simp))
 cases e:s.t with
 | num n=>rw[←e];exact plain _ (by rw[e];rfl) (by rw[e];simp only[kind];decide+kernel) (by rw[e];simp only[kind];decide+kernel)
 | sum a b=>rw[←e];exact plain _ (by rw[e];rfl) (by rw[e];simp only[kind];decide+kernel) (by rw[e];simp only[kind];decide+kernel)
 | less a b=>rw[←e];exact plain _ (by rw[e];rfl) (by rw[e];simp only[kind];decide+kernel) (by rw[e];simp only[kind];decide+kernel)
 | cho a b c=>rw[←e];exact plain _ (by rw[e];rfl) (by rw[e];simp only[kind];decide+kernel) (by rw[e];simp only[kind];decide+kernel)
 | name w=>refine⟨rfl,_,rfl,fi (decide_eq_true rfl) ?_⟩;refine⟨A.op,A.dx,_,rfl,B.O.ob,md,Nk A.tk,wl,rl,s,_,_,w,wus,rus,ws,rfl,B.sp,e,B.w,B.r,B.ne,B.z1,B.z2,λP rs H' tk' aft ex=>?_⟩;exact kk P rs ws H' tk' (B.two ex) aft (ex.more (by simp))
 | lt w a b=>refine⟨rfl,_,rfl,eM (nk (show("let":Str)≠"name" by decide+kernel)) ⟨rfl,_,rfl,fi (decide_eq_true rfl) ?_⟩⟩;exact⟨A.op,A.dx,_,rfl,B.O.ob,md,A,b1,b2,b3,F,k,N,ws,rd,wl,rl,s,_,w,a,b,wus,rus,P,rfl,B.O,B.sp,e,B.ok,B.zs,B.w,B.r,B.ne,B.ny,B.nz,B.nw,B.nr,B.z1,B.z2,kk⟩
 | st0 w=>rw[e]at hk;exact absurd rfl hk
 | st1 w a=>rw[e]at hk;exact absurd rfl hk
 | st2 w a b=>rw[e]at hk;exact absurd rfl hk
theorem BA(h:¬oA t):kind t≠"stamp":=by cases t<;>simp only[kind]<;>first|decide+kernel|exact absurd aH h
theorem LE(h:tW C D vs H Q E):Km K C D (gi Q) (start ["self","spot","waiting","rows","kind"] vs) H:=by obtain⟨A,b1,b2,b3,F,k,N,ws,rd,wl,rl,wus,rus,s,u,P,rfl,B,no,kk⟩:=h;obtain⟨q,x,pp,d,kvs,rfl,hq,hx,hpp,nd,hd,he⟩:=id B.sp;obtain⟨p,ks,rfl,hp,dk⟩:=hx.open;refine⟨eC.of hq,dU (j:=0) rfl,eC.of hp,Ef s.t ks,?_⟩;have hk:kind s.t≠"stamp":=BA λz=>no (.inl z);exact⟨rfl,_,rfl,eM (nk hk) (AO B hk kk)⟩
def mS(C D:Addr):Sp:=λvs H Q _=>∃(A:Ad)(b1 b2 b3:T)(F k:Nat)(N:Addr→Prop)(ws:List Str)(rd:List (List Rw))(s:eF)(u:V)(P:Nat→Nat→Prop),
 vs=[.ref A.op,u]∧fh C D A b1 b2 b3 F N k ws rd H∧xN A N H∧iM (Nk A.tk) H s u∧s.ok P∧¬Op s∧s.wt 0≤4000000∧ws.length≤4000000∧
 (k≤F→∀(R:List Rw)(ws':List Str)(l:Addr)(rus:List V)(H':Hp),yg [s] [] ws R ws'→H l=none→H' l=some (.lst rus)→Al (jQ H') R rus→fh C D A b1 b2 b3 F N k ws' rd H'→Ex [A.lp,A.tk] H H'→Q (.ref l) H')∧
 (¬k≤F→∀(l:Addr)(H':Hp),dq H H'→H l=none→H' l=some (.lst [])→Q (.ref l) H')
def zR(K:aA)(a_Opening a_FreshWords:Addr):TS:=(fQ (jm a_Opening "take" (tW a_Opening a_FreshWords) [] E0 (dN 0) (dM (lz K "list" mF (dN 3)) (dM (dN 3) (dM (dN 2) dW)))))
def FJ(K:aA)(a_Opening a_FreshWords:Addr):TS:=(de (eG (fX dW) (dX 2)) (de (eG (fX (dM (dN 1) dW)) (dX 3)) (de (hX (kq (eI (eA oQ (gm (gh K) (dM (dN 3) dW)) (tC (.int 0)))) (eI (eA DN (kC K (dN 0) "many") (kC K (dN 0) "fuel")))) (zR K a_Opening a_FreshWords)) (fI (dN 2)))))
structure L6(C D:Addr)(A:Ad)(b1 b2 b3:T)(F:Nat)(N:Addr→Prop)(k:Nat)(ws:List Str)(rd:List (List Rw))(wl rl:Addr)(s:eF)(P:Nat→Nat→Prop)(H2:Hp)(S:List eF)(R:List Rw)(ws1:List Str)(wus rus:List V)(H':Hp):Prop where
 O:fh C D A b1 b2 b3 F N k ws1 rd H'
 w:H' wl=some (.lst wus)
 r:H' rl=some (.lst rus)
 dw:Al (iM (Nk A.tk) H') S wus
 dr:Al (jQ H') R rus
 ex:Ex [wl,rl,A.lp,A.tk] H2 H'
 run:∀R' ws',yg S R ws1 R' ws'→yg [s] [] ws R' ws'
 so:∀x∈S,x.ok P∧¬Op x
 ro:∀r∈R,r.ok P
 wt:lM 0 S+kn R=s.wt 0
 zs:ws1.length≤ws.length+R.length
def Ms(C D:Addr)(A:Ad)(b1 b2 b3:T)(F:Nat)(N:Addr→Prop)(k:Nat)(ws:List Str)(rd:List (List Rw))(wl rl:Addr)(s:eF)(P:Nat→Nat→Prop)(H2:Hp)(u:V)(m:Nat)(σ:St)(H':Hp):Prop:=∃S R ws1 wus rus,σ=[some (.ref A.op),some u,some (.ref rl),some (.ref wl)]∧L6 C D A b1 b2 b3 F (λa=>N a∧a≠wl∧a≠rl) k ws rd wl rl s P H2 S R ws1 wus rus H'∧m=lM 1 S
theorem Il(ro:RO K C)(h:mS C D vs H Q E):FJ K C D (gi Q) (start ["self","spot","rows","waiting"] vs) H:=by
 obtain⟨A,b1,b2,b3,F,k,N,ws,rd,s,u,P,rfl,O,no,sp,ok,nop,z1,z2,k1,k2⟩:=h;refine⟨fT,λrl hrl=>⟨fT,λwl hwl=>?_⟩⟩;have s1:dq H (upd H rl (.lst [])):=dR hrl;have s2:=dR (o:=.lst [u]) hwl;have hne:wl≠rl:=(dZ (dO (H:=H) (a:=rl) (o:=.lst [])) hwl).symm;have r2:(upd (upd H rl (.lst [])) wl (.lst [u])) rl=some (.lst []):=s2 _ _ dO;have w2:(upd (upd H rl (.lst [])) wl (.lst [u])) wl=some (.lst [u]):=dO;have hwl0:H wl=none:=s1.free hwl;have s12:=s1.trans s2;generalize upd (upd H rl (.lst [])) wl (.lst [u])=H2 at s2 r2 w2 s12⊢;clear s1 s2 hwl;have O2:=O.same s12;by_cases hk:k≤F
 ·have hy:∃us,H A.yl=some (.lst us):=O.yl.imp λ_ z=>z.1;obtain⟨ys,hy⟩:=hy;have O2':fh C D A b1 b2 b3 F (λa=>N a∧a≠wl∧a≠rl) k ws rd H2:=(O.weak (N':=λa=>N a∧a≠wl∧a≠rl) λa o h n=>⟨n,dZ h hwl0,dZ h hrl⟩).same s12;have nyw:wl≠A.yl:=(dZ hy hwl0).symm;have nyr:rl≠A.yl:=(dZ hy hrl).symm;refine⟨Ms C D A b1 b2 b3 F N k ws rd wl rl s P H2 u,⟨_,[s],[],ws,[u],[],rfl,?_,rfl⟩,?_⟩
  ·exact⟨O2',w2,r2,.one (sp.mono (Kp.same s12)),.nil,.refl,λ_ _ z=>z,(λx hx=>by rw[aG]at hx;exact hx▸⟨ok,nop⟩),(λr hr=>by cases hr),(by rw[gq,jU];rfl),aC _⟩
  ·rintro m σ H3 ⟨S,R,ws1,wus,rus,rfl,B,rfl⟩;refine⟨wl,wus,rfl,.inl (eK.of B.w),_,rfl,?_⟩;by_cases hv:wus=[]
   ·subst hv;refine eM rfl (eM rfl ?_);have e:S=[]:=cG.mp B.dw.length.symm;subst e;have O3:=B.O.weak (N':=N) λa o h n=>n.1;exact(k1 hk R ws1 rl rus H3 (B.run _ _ .nil) hrl B.r B.dr O3 (Ex.new (l':=[wl,rl,A.lp,A.tk]) (λa ha=>by
     simp only[aB,aF,or_false]at ha⊢;rcases ha with rfl|rfl|z|z
     ·exact .inr hwl0
     ·exact .inr hrl
     ·exact .inl (.inl z)
     ·exact .inl (.inr z)) ((Ex.same s12).trans B.ex)))
   ·obtain⟨us,u1,rfl⟩:=gD hv;obtain⟨S',s',rfl,d1,d2⟩:=B.dw.snoc;refine fi (decide_eq_true (by simp)) ?_;refine⟨A.op,C,A.dx,_,_,rfl,B.O.ob,ro.cl,ro.nM,lU,A.op,C,A.dx,_,_,rfl,B.O.ob,ro.cl,ro.nF,rn,_,rfl,?_⟩;refine fi (decide_eq_true (by lia)) ?_;refine⟨λσ' H'=>∃m',m'<lM 1 (S'++[s'])∧Ms C D A b1 b2 b3 F N k ws rd wl rl s P H2 u m' σ' H',λ_ _ h=>h,?_⟩;refine⟨A.op,A.dx,_,rfl,B.O.ob,md,.inl ⟨rfl,_,eK.of B.w⟩,wl,_,_,rfl,rfl,B.w,jC,?_⟩;rw[iP];have O4:=B.O.lst (o:=.lst us) B.w nyw (λa z=>z.2.1);have kp4:Kp (Nk A.tk) H3 (upd H3 wl (.lst us)):=Kp.lst B.w;have ex4:Ex [wl,rl,A.lp,A.tk] H3 (upd H3 wl (.lst us)):=Ex.upd (by simp);have w4:(upd H3 wl (.lst us)) wl=some (.lst us):=dO;have r4:(upd H3 wl (.lst us)) rl=some (.lst rus):=by rw[db hne.symm];exact B.r
    generalize upd H3 wl (.lst us)=H4 at O4 kp4 ex4 w4 r4⊢;have os:=B.so s' (aQ _ (.head _));have hwt:=B.wt;rw[gC,gq]at hwt;have hl1:=rK (h:=0) (S:=S') λx hx=>(B.so x (ag _ hx)).1;have hl2:=kQ B.ro;have hl3:=d1.length;have hl4:=B.dr.length;have hzs:=B.zs;refine⟨A,b1,b2,b3,F,k,_,ws1,rd,wl,rl,us,rus,s',u1,P,rfl,⟨O4,d2.mono kp4,os.1,by lia,w4,r4,hne,nyw,nyr,λa z=>z.2.1,λa z=>z.2.2,by lia,by lia⟩,os.2,λPs rs ws' H5 tkk O5 aft ex5=>?_⟩;obtain⟨⟨pus,w5,dp⟩,rvs,r5,dr5⟩:=aft;have kp5:Kp (Nk A.tk) H4 H5:=by
     obtain⟨n,f,_⟩:=O4.fw;refine O4.kp ex5 (λa ha=>?_);simp only[aB,aF,or_false]at ha;rcases ha with rfl|rfl|rfl|z
     ·exact .inr (.inl ⟨_,w4⟩)
     ·exact .inr (.inl ⟨_,r4⟩)
     ·exact .inr (.inr ⟨_,_,_,f.ob⟩)
     ·exact .inl z
    have kp35:=kp4.trans kp5;have h6:=zC tkk os.1;have h7:=zB tkk os.1;have h8:=IQ tkk os.2;have h9:=EF tkk;have h10:=zA tkk;refine⟨lM 1 (S'++Ps),by rw[gC,gC,gq];lia,S'++Ps,R++rs,ws',us++pus,rus++rvs,rfl,⟨O5,w5,r5,(d1.mono λ_ _=>iM.mono kp35).append dp,(B.dr.mono λ_ _=>jQ.mono kp35.tup).append dr5,B.ex.trans (ex4.trans ex5),λR' ws'' z=>B.run _ _ (.step tkk z),λx hx=>?_,λr hr=>?_,?_,?_⟩,rfl⟩
    ·rcases aV.mp hx with z|z
     ·exact B.so x (ag _ z)
     ·exact⟨h7.1 x z,h8 x z⟩
    ·rcases aV.mp hr with z|z
     ·exact B.ro r z
     ·exact h7.2 r z
    ·rw[gC,lu];lia
    ·rw[aD];lia
 ·refine⟨λm σ H'=>H'=H2∧σ=[some (.ref A.op),some u,some (.ref rl),some (.ref wl)],⟨0,rfl,rfl⟩,?_⟩;rintro m σ H3 ⟨rfl,rfl⟩;refine⟨wl,_,rfl,.inl (eK.of w2),_,rfl,fi rfl ?_⟩;refine⟨A.op,C,A.dx,_,_,rfl,O2.ob,ro.cl,ro.nM,lU,A.op,C,A.dx,_,_,rfl,O2.ob,ro.cl,ro.nF,rn,_,rfl,eM (decide_eq_false (by lia)) ?_⟩;exact(k2 hk rl _ s12 hrl r2)
end S9
namespace S9
open PySem L2 SW
variable {K:aA}{vs:List V}{H:Hp}{Q:VK}{E:XK}{C D:Addr}
section
variable {A:Ad}{b1 b2 b3:T}{F k:Nat}{N:Addr→Prop}{ws:List Str}{rd:List (List Rw)}{H':Hp}
theorem fh.add(O:fh C D A b1 b2 b3 F N k ws rd H)(hN:∀a,N a→a≠A.yl)(hy:H A.yl=some (.lst us))(nl:N l)(hl:H l=some (.lst rus))(dr:Al (jQ H) R rus):
  fh C D A b1 b2 b3 F N k ws (rd++[R]) (upd H A.yl (.lst (us++[.ref l]))):=by
 have ht:fH H (upd H A.yl (.lst (us++[.ref l]))):=fL hy;have hL:∀l xs,N l→H l=some (.lst xs)→(upd H A.yl (.lst (us++[.ref l]))) l=some (.lst xs):=λa xs n z=>by rw[db (hN a n)];exact z
 have hL2:∀a xs,N a→H a=some (.lst xs)→(upd H A.yl (.lst (us++[.ref l]))) a=some (.lst xs):=λa xs n z=>by rw[db (hN a n)];exact z
 obtain⟨n,f,c⟩:=O.fw;obtain⟨us',y1,y2⟩:=O.yl;rw[hy]at y1;cases y1;refine⟨by rw[db O.nOY];exact O.ob,⟨n,⟨by rw[db (fY f.ob hy (by intro z;cases z))];exact f.ob,by rw[db (fY f.dk hy (by intro z;cases z))];exact f.dk⟩,c⟩,by rw[db (fY O.sd hy (by intro z;cases z))];exact O.sd,O.st,O.s1.mono (λ_ z=>z) ht hL2,O.s2.mono (λ_ z=>z) ht hL2,O.s3.mono (λ_ z=>z) ht hL2,_,dO,?_⟩;exact(y2.mono λ_ _=>su.mono (λ_ z=>z) ht hL2).append (.one ⟨l,rus,rfl,nl,hL2 _ _ nl hl,dr.mono λ_ _=>jQ.mono ht⟩)
theorem fh.dct(O:fh C D A b1 b2 b3 F N k ws rd H)(h:H d=some (.dK kvs))(nt:d≠A.tk)(ns:d≠A.sd):fh C D A b1 b2 b3 F N k ws rd (upd H d o):=by
 obtain⟨n,f,c⟩:=O.fw;obtain⟨us,y1,y2⟩:=O.yl;have ht:fH H (upd H d o):=y8 h;have hL:∀a xs,N a→H a=some (.lst xs)→(upd H d o) a=some (.lst xs):=λa xs n z=>by rw[db (fY z h (by intro z;cases z))];exact z
 exact⟨by rw[db (fY O.ob h (by intro z;cases z))];exact O.ob,⟨n,⟨by rw[db (fY f.ob h (by intro z;cases z))];exact f.ob,by rw[db nt.symm];exact f.dk⟩,c⟩,by rw[db ns.symm];exact O.sd,O.st,O.s1.mono (λ_ z=>z) ht hL,O.s2.mono (λ_ z=>z) ht hL,O.s3.mono (λ_ z=>z) ht hL,us,by rw[db (fY y1 h (by intro z;cases z))];exact y1,y2.mono λ_ _=>su.mono (λ_ z=>z) ht hL⟩
theorem fh.rdl(O:fh C D A b1 b2 b3 F N k ws rd H):∃us,H A.yl=some (.lst us)∧us.length=rd.length:=by obtain⟨us,y1,y2⟩:=O.yl;exact⟨us,y1,y2.length⟩
theorem fh.kp3(O:fh C D A b1 b2 b3 F N k ws rd H)(ht:∀d,tk d→d≠A.tk)(e:Ex [A.lp,A.tk,A.yl] H H'):Kp tk H H':=by
 obtain⟨n,f,_⟩:=O.fw;obtain⟨us,y1,y2⟩:=O.yl;have kp:Kp (Nk A.tk) H H':=O.kp e (λa ha=>by
  simp only[aB,aF,or_false]at ha;rcases ha with rfl|rfl|rfl
  ·exact .inr (.inr ⟨_,_,_,f.ob⟩)
  ·exact .inl rfl
  ·exact .inr (.inl ⟨_,y1⟩))
 exact⟨kp.tup,λd kvs n z=>kp.dct d kvs (ht d n) z⟩
end
def AA(C D:Addr):Sp:=λvs H Q _=>∃(A:Ad)(b1 b2 b3:T)(F k:Nat)(N:Addr→Prop)(ws:List Str)(rd:List (List Rw))(s:eF)(u:V)(P:Nat→Nat→Prop)(tk:Addr→Prop),
 vs=[.ref A.op,u]∧fh C D A b1 b2 b3 F N k ws rd H∧xN A N H∧(∀d,tk d→d≠A.tk)∧iM tk H s u∧s.ok P∧s.wt 0≤4000000∧ws.length≤4000000∧rd.length≤4000000∧
 ∀(m:Mg)(v:V)(rd':List (List Rw))(ws':List Str)(H':Hp),oE (decide (k≤F)) rd ws s m rd' ws'→fh C D A b1 b2 b3 F N k ws' rd' H'→oW tk H' m v→Ex [A.lp,A.tk,A.yl] H H'→Q v H'
def Fa(K:aA)(a_Opening a_FreshWords:Addr):TS:=(fI (fP (dM (tC (.str "handed")) (dM (dN 1) dW))))
def FZ(K:aA)(a_Opening a_FreshWords:Addr):TS:=(fW (tB (eV tj [] E0 (dM (dN 1) dW))) (Fa K a_Opening a_FreshWords) fN)
def Kx(K:aA)(a_Opening a_FreshWords:Addr):TS:=(de (FZ K a_Opening a_FreshWords) (de (fQ (kB K "list" eh (kC K (dN 0) "ready") (dM (jm a_Opening "rows_of" (mS a_Opening a_FreshWords) [] E0 (dN 0) (dM (dN 1) dW)) dW))) (fI (fP (dM (tC (.str "ready")) (dM (eA jR (gm (gh K) (dM (kC K (dN 0) "ready") dW)) (tC (.int 1))) dW))))))
theorem MU(ro:RO K C)(h:AA C D vs H Q E):Kx K C D (gi Q) (start ["self","handed"] vs) H:=by
 obtain⟨A,b1,b2,b3,F,k,N,ws,rd,s,u,P,tk,rfl,O,no,ht,sp,ok,z1,z2,z3,kk⟩:=h;refine⟨tk,s,u,rfl,sp,ok.1.2.2.2.1,ok.1.2.2.2.2,λH1 s1 op=>⟨_,rfl,fi rfl ?_⟩,λH1 s1 nop=>⟨_,rfl,eM rfl ?_⟩⟩
 ·refine⟨fT,eu λp H2 hp s2 g2=>?_⟩;have s12:=s1.trans s2;obtain⟨q,x,pp,d,kvs,rfl,hq,hx,hpp,nd,hd,he⟩:=sp.mono (Kp.same s12);exact kk _ _ _ _ _ (.handed op) (O.same s12) ⟨p,q,x,pp,d,kvs,rfl,g2,hq,hx,hpp,nd,hd,he⟩ (Ex.same s12)
 ·have O1:=O.same s1;have no1:xN A N H1:=⟨no.y,λa z=>no.f a (s1.free z)⟩;obtain⟨us,y1,yl1⟩:=O1.rdl;have fin2:∀(R:List Rw)(ws':List Str)(l:Addr)(rus:List V)(H2:Hp),oE (decide (k≤F)) rd ws s (.ready rd.length (s.wt 0)) (rd++[R]) ws'→H1 l=none→H2 l=some (.lst rus)→Al (jQ H2) R rus→fh C D A b1 b2 b3 F N k ws' rd H2→Ex [A.lp,A.tk] H1 H2→
    eh (.ref A.yl) [.ref l] H2 λ_ H3=>(fI (fP (dM (tC (.str "ready")) (dM (eA jR (gm (gh K) (dM (kC K (dN 0) "ready") dW)) (tC (.int 1))) dW)))) (gi Q) [some (.ref A.op),some u] H3:=by
   intro R ws' l rus H2 mean nl hl dr O2 ex2;obtain⟨us2,y2,yl2⟩:=O2.rdl;refine⟨A.yl,us2,.ref l,rfl,rfl,y2,by rw[sizeLine_eq];lia,?_⟩;have O3:=O2.add no.y y2 (no1.f l nl) hl dr;have y3:(upd H2 A.yl (.lst (us2++[.ref l]))) A.yl=some (.lst (us2++[.ref l])):=dO;have ex3:Ex [A.lp,A.tk,A.yl] H2 (upd H2 A.yl (.lst (us2++[.ref l]))):=Ex.upd (by simp);generalize upd H2 A.yl (.lst (us2++[.ref l]))=H3 at O3 y3 ex3⊢;refine⟨A.op,C,A.dx,_,_,rfl,O3.ob,ro.cl,ro.nR,qC,A.yl,_,rfl,.inl (eK.of y3),fT,λp hp=>?_⟩;have e:(((us2++[V.ref l]).length:Int)-1)=((rd.length:Nat):Int):=by rw[aD];simp;lia
   have s4:=dR (o:=.tup [.str "ready",.int (((us2++[V.ref l]).length:Int)-1)]) hp;refine kk _ _ _ _ _ mean (O3.same s4) ⟨p,rfl,?_⟩ ((Ex.same s1).trans ((ex2.more (by simp)).trans (ex3.trans (Ex.same s4))));rw[dO];dsimp only;rw[e]
  refine⟨A.op,C,A.dx,_,_,rfl,O1.ob,ro.cl,ro.nR,qC,.inl ⟨rfl,_,eK.of y1⟩,A.op,A.dx,_,rfl,O1.ob,md,A,b1,b2,b3,F,k,N,ws,rd,s,u,P,rfl,O1,no1,(sp.mono (Kp.same s1)).old (λd o _ z=>ht d z),ok,nop,z1,z2,λhk R ws' l rus H2 run nl hl dr O2 ex2=>?_,λhk l H2 s2 nl hl=>?_⟩
  ·exact fin2 R ws' l rus H2 (by rw[decide_eq_true hk];exact .ready nop run) nl hl dr O2 ex2
  ·exact fin2 [] ws l [] H2 (by rw[decide_eq_false hk];exact .late nop) nl hl .nil (O1.same s2) (Ex.same s2)
theorem Dq(h:oE go rd ws s m rd' ws')(o:s.ok P):ws'.length≤ws.length+s.wt 0∧rd'.length≤rd.length+1:=by
 cases h with
 | handed p=>exact⟨by lia,by lia⟩
 | @ready _ _ _ _ R p r=>
  have hw:kn R=s.wt 0:=by rw[vC r,gq,jU];lia
  have h2:=AJ r;have h3:=kQ (vD r (P:=P) (λx hx=>by rw[aG]at hx;exact hx▸o) (λx hx=>by cases hx));simp only[au]at h2;exact⟨by lia,by simp⟩
 | late p=>exact⟨by lia,by simp⟩
inductive IA(go:Bool)(rd:List (List Rw))(ws:List Str)(s:eF)(ps:List Str):Nat→En→List (List Rw)→List Str→Prop where
 | nil:IA go rd ws s ps 0 .nil rd ws
 | snoc{i:Nat}{e:En}{rd1 rd2:List (List Rw)}{ws1 ws2:List Str}{p:Str}{t:T}{m:Mg}:IA go rd ws s ps i e rd1 ws1→ps[i]?=some p→s.t.kids[i]?=some t→oE go rd1 ws1 (s.kid i t) m rd2 ws2→IA go rd ws s ps (i+1) (e.put p m) rd2 ws2
theorem IA.len(h:IA go rd ws s ps i e rd' ws')(o:s.ok P)(w:∀(i:Nat)(t:T),s.t.kids[i]?=some t→(s.kid i t).wt 0≤s.wt 0):ws'.length≤ws.length+i*s.wt 0∧rd'.length≤rd.length+i∧e.nd∧e.len≤i:=by
 induction h with
 | nil=>exact⟨by lia,aC _,aH,aC _⟩
 | @snoc i e _ _ _ _ p t m _ _ ht mean ih=>have h1:=Dq mean (jz o (ac ht));have h2:=w i t ht;have h3:=En.put_len p m e;refine⟨?_,by lia,Aw ih.2.2.1,by lia⟩;rw[am];lia
theorem BO{a b:Addr}{xs ys:List V}{g:TG}{tb:TS}{D:iz}{σ:St}{H:Hp}(Pv:Nat→St→Hp→Prop)(h0:Pv 0 σ H)(hlen:xs.length=ys.length)(hl:∀i σ H,i≤xs.length→Pv i σ H→eK K H a xs∧eK K H b ys)
  (hs:∀i x y p σ H,xs[i]?=some x→ys[i]?=some y→Pv i σ H→H p=none→g (.ref p) σ (upd H p (.tup [x,y])) λσ2 H2=>tb {D with nx:=Pv (i+1),ct:=Pv (i+1),bk:=D.nx} σ2 H2) (hd:∀σ H,Pv xs.length σ H→D.nx σ H):
  ∃W:Nat→Nat→St→Hp→Prop,(∃m,W 0 m σ H)∧∀i m σ H,W i m σ H→
   ((yh K a b).stop i H∧D.nx σ H)∨((yh K a b).go i H∧∃N:St→Hp→Prop,(∀σ' H',N σ' H'→∃m',m'<m∧W (i+1) m' σ' H')∧∀x H',(yh K a b).yld i H x H'→g x σ H' λσ2 H2=>tb {D with nx:=N,ct:=N,bk:=D.nx} σ2 H2):=by
 refine⟨λi m σ H=>m=xs.length-i∧i≤xs.length∧Pv i σ H,⟨_,rfl,aU _,h0⟩,?_⟩;rintro i m σ H ⟨rfl,hi,pv⟩;obtain⟨q1,q2⟩:=hl _ _ _ hi pv;by_cases e:i=xs.length
 ·subst e;exact .inl ⟨⟨xs,ys,q1,q2,aC _⟩,hd _ _ pv⟩
 ·have hlt:i<xs.length:=by lia
  refine .inr ⟨⟨xs,ys,xs[i],ys[i]'(by lia),q1,q2,aJ _,aJ _⟩,Pv (i+1),λσ' H' h=>⟨xs.length-(i+1),by lia,rfl,hlt,h⟩,?_⟩;rintro z H' ⟨p,x,y,rfl,hp,rfl,hx,hy⟩;exact hs i x y p σ H (hx xs q1) (hy ys q2) pv hp
def AB(C D:Addr):Sp:=λvs H Q _=>∃(A:Ad)(b1 b2 b3:T)(F k:Nat)(N:Addr→Prop)(ws:List Str)(rd:List (List Rw))(s:eF)(u:V)(P:Nat→Nat→Prop),
 vs=[.ref A.op,u]∧fh C D A b1 b2 b3 F N k ws rd H∧xN A N H∧iM (Nk A.tk) H s u∧s.ok P∧kind s.t="stamp"∧s.wt 0≤1000000∧ws.length≤1000000∧rd.length≤1000000∧
 ∀(s':eF)(v:V)(rd':List (List Rw))(ws':List Str)(H':Hp),tD b1 b2 b3 (decide (k≤F)) rd ws s s' rd' ws'→fh C D A b1 b2 b3 F N k ws' rd' H'→iM (Nk A.tk) H' s' v→Ex [A.lp,A.tk,A.yl] H H'→Q v H'
def zo(K:aA)(a_Opening a_FreshWords:Addr):TS:=(lB (dN 3) (dN 4) (jm a_Opening "meaning_of" (AA a_Opening a_FreshWords) [] E0 (dN 0) (dM (dN 5) dW)))
def GX(K:aA)(a_Opening a_FreshWords:Addr):TS:=(de (eG io (dX 3)) (de (iY (BJ K (eA (eE K) (dN 2) (tC (.int 1))) (eV iT [] E0 (dM (dN 1) dW))) (lY K 2 (gF (dX 4) (gF (dX 5) lZ))) (zo K a_Opening a_FreshWords)) (fI (fP (dM (eA (eE K) (dN 2) (tC (.int 2))) (dM (eA (eE K) (dN 2) (tC (.int 0))) (dM (fP dW) (dM (dN 3) dW))))))))
def K8(K:aA)(a_Opening a_FreshWords:Addr):TS:=(de (eG (qd (kC K (dN 0) "stamps") (eA (eE K) (eA (eE K) (dN 1) (tC (.int 0))) (tC (.int 1)))) (dX 2)) (de (eG io (dX 3)) (de (iY (BJ K (eA (eE K) (dN 2) (tC (.int 1))) (eV iT [] E0 (dM (dN 1) dW))) (lY K 2 (gF (dX 4) (gF (dX 5) lZ))) (zo K a_Opening a_FreshWords)) (fI (fP (dM (eA (eE K) (dN 2) (tC (.int 2))) (dM (eA (eE K) (dN 2) (tC (.int 0))) (dM (fP dW) (dM (dN 3) dW)))))))))
theorem vM(ro:RO K C)
  (O:fh C D A b1 b2 b3 F N k ws rd H) (no:xN A N H) (sp:iM (Nk A.tk) H s u) (ok:s.ok P) (hs:Bt N H w ps body v) (hps:ps.length=s.t.kids.length) (hw0:∀(i:Nat)(t:T),s.t.kids[i]?=some t→(s.kid i t).wt 0≤s.wt 0) (z1:s.wt 0≤1000000) (z2:ws.length≤1000000) (z3:rd.length≤1000000)
  (kk:∀(e:En)(v:V)(rd':List (List Rw))(ws':List Str)(H':Hp),IA (decide (k≤F)) rd ws s ps ps.length e rd' ws'→fh C D A b1 b2 b3 F N k ws' rd' H'→iM (Nk A.tk) H' ⟨body,w,[],e⟩ v→Ex [A.lp,A.tk,A.yl] H H'→Q v H'):
  GX K C D (gi Q) [some (.ref A.op),some u,some v,none,none,none] H:=by
 obtain⟨pv,pl_,xb,rfl,hst,hpl,npl,hxb⟩:=hs;intro nd hnd;have s1:dq H (upd H nd (.dK [])):=dR hnd;have g1:(upd H nd (.dK [])) nd=some (.dK []):=dO;generalize upd H nd (.dK [])=H1 at s1 g1⊢;obtain⟨n0,f0,_⟩:=O.fw;have ndt:nd≠A.tk:=(dZ f0.dk hnd).symm;have nds:nd≠A.sd:=(dZ O.sd hnd).symm;have sp1:iM (λd=>d≠A.tk∧d≠nd) H1 s u:=(sp.old (tk':=λd=>d≠A.tk∧d≠nd) (λd o h z=>⟨z,dZ h hnd⟩)).mono (Kp.same s1);have path:s.path.length≤1000:=by have:=ok.1.2.1;lia
 have hk3:=BC s.t;refine⟨eC.of (s1 _ _ hst),dU (j:=1) rfl,_,s,u,rfl,sp1,path,λil us H2 s2 n2 g2 al=>⟨pl_,il,_,_,rfl,eK.of ((s1.trans s2) _ _ hpl),eK.of g2,?_⟩⟩;have s12:=s1.trans s2;have hal:=al.length;rw[kS]at hal;have O2:=O.same s12;obtain⟨ys,y2,_⟩:=O2.rdl;have nil_:il≠A.yl:=by obtain⟨ys0,y0,_⟩:=O.rdl;exact(dZ (s1 _ _ y0) n2).symm
 refine BO (K:=K) (a:=pl_) (b:=il) (xs:=ps.map V.str) (ys:=us) (λi σ H'=>∃j4 j5 e rd' ws' kvs,σ=[some (.ref A.op),some u,some (.ref pv),some (.ref nd),j4,j5]∧IA (decide (k≤F)) rd ws s ps i e rd' ws'∧fh C D A b1 b2 b3 F N k ws' rd' H'∧H' nd=some (.dK kvs)∧k6 (λd=>d≠A.tk∧d≠nd) H' e kvs∧Ex [A.lp,A.tk,A.yl,nd] H2 H'∧Kp (λd=>d≠A.tk∧d≠nd) H2 H')
  ⟨none,none,.nil,rd,ws,[],rfl,.nil,O2,s2 _ _ g1,rfl,.refl,.refl⟩ (by rw[aa];lia) (λi σ H' _ hP=>?_) ?_ ?_
 ·obtain⟨_,_,e,rd',ws',kvs,_,_,O3,hn3,_,ex3,kp3⟩:=hP;obtain⟨n3,f3,_⟩:=O2.fw;have lst:∀l xs,H2 l=some (.lst xs)→l≠A.yl→H' l=some (.lst xs):=λl xs h hy=>ex3 _ _ (λq=>by
   simp only[aB,aF,or_false]at q;rcases q with rfl|rfl|rfl|rfl
   ·rw[f3.ob]at h;cases h
   ·rw[f3.dk]at h;cases h
   ·exact hy rfl
   ·rw[s2 _ _ g1]at h;cases h) h
  exact⟨eK.of (lst _ _ (s12 _ _ hpl) (no.y _ npl)),eK.of (lst _ _ g2 nil_)⟩
 ·rintro i x y p σ H3 hx hy ⟨j4,j5,e,rd',ws',kvs,rfl,ms,O3,hn3,en,ex3,kp3⟩ hp;obtain⟨pl1,hpl1,rfl⟩:∃z,ps[i]?=some z∧x=V.str z:=by
   rw[ae]at hx;cases e:ps[i]? with
   | none=>rw[e]at hx;cases hx
   | some z=>rw[e]at hx;exact⟨z,rfl,(Option.some.inj hx).symm⟩
  have hil:i<us.length:=(aO.mp hy).1;obtain⟨t,ht⟩:∃t,s.t.kids[i]?=some t:=⟨s.t.kids[i]'(by lia),aJ _⟩;obtain⟨s',hs',sp'⟩:=al.get hy;rw[pA ht]at hs';cases hs';have s4:=dR (o:=.tup [.str pl1,y]) hp;have g4:(upd H3 p (.tup [.str pl1,y])) p=some (.tup [.str pl1,y]):=dO;generalize upd H3 p (.tup [.str pl1,y])=H4 at s4 g4⊢;have O4:=O3.same s4;have no4:xN A N H4:=by
   refine⟨no.y,λa z=>no.f a ?_⟩;have z3:=s4.free z;cases q:H a with
   | none=>rfl
   | some o=>
    exfalso;have q2:=s12 _ _ q;obtain⟨n3,f3,_⟩:=O3.fw;obtain⟨ys3,y3,_⟩:=O3.rdl;have:=ex3 a o (λw=>by
     simp only[aB,aF,or_false]at w;rcases w with rfl|rfl|rfl|rfl
     ·rw[f3.ob]at z3;cases z3
     ·rw[f3.dk]at z3;cases z3
     ·rw[y3]at z3;cases z3
     ·rw[hn3]at z3;cases z3) q2
    rw[this]at z3;cases z3
  obtain⟨l1,l2,_,_⟩:=ms.len ok hw0;have hl5:i*s.wt 0≤3*s.wt 0:=bY _ (by lia);refine⟨p,_,rfl,eC.of g4,rfl,_,_,rfl,_,_,rfl,rfl,?_⟩;refine⟨A.op,A.dx,_,rfl,O4.ob,md,A,b1,b2,b3,F,k,N,ws',rd',s.kid i t,y,P,(λd=>d≠A.tk∧d≠nd),rfl,O4,no4,λd z=>z.1,sp'.mono (kp3.trans (Kp.same s4)),jz ok (ac ht),?_,?_,?_,λm v rd2 ws2 H5 mean O5 mg ex5=>?_⟩
  ·have:=hw0 i t ht;lia
  ·lia
  ·lia
  have kp5:Kp (λd=>d≠A.tk∧d≠nd) H4 H5:=O4.kp3 (λd z=>z.1) ex5;have hn5:H5 nd=some (.dK kvs):=by
   refine ex5 _ _ (λw=>?_) (s4 _ _ hn3);obtain⟨n4,f4,_⟩:=O4.fw;obtain⟨ys4,y4,_⟩:=O4.rdl;have hn4:=s4 _ _ hn3;simp only[aB,aF,or_false]at w;rcases w with w|w|w
   ·rw[w,f4.ob]at hn4;cases hn4
   ·exact ndt w
   ·rw[w,y4]at hn4;cases hn4
  have ekl:=vg en;obtain⟨_,_,nd3,el3⟩:=ms.len ok hw0;refine⟨nd,_,rfl,mz.k (k:=.inr pl1) hn5 (kF (by lia)),?_⟩;have kp6:Kp (λd=>d≠A.tk∧d≠nd) H5 (upd H5 nd (.dK (gA kvs (.inr pl1) v))):=⟨y8 hn5,λd kvs z h=>by rw[db z.2];exact h⟩;have kp35:=(Kp.same s4).trans kp5;refine⟨_,_,e.put pl1 m,rd2,ws2,_,rfl,.snoc ms hpl1 ht mean,O5.dct hn5 ndt nds,dO,?_,?_,?_⟩
  ·exact vf (mg.mono kp6) nd3 ((en.mono kp35).mono kp6)
  ·exact ex3.trans ((Ex.same s4).trans ((ex5.more (by simp)).trans (Ex.upd (by simp))))
  ·exact kp3.trans (kp35.trans kp6)
 ·rintro σ H3 ⟨j4,j5,e,rd',ws',kvs,rfl,ms,O3,hn3,en,ex3,kp3⟩;rw[aa]at ms;have hst3:=kp3.tup _ _ (s12 _ _ hst);refine⟨eC.of hst3,dU (j:=2) rfl,eC.of hst3,dU (j:=0) rfl,fT,λte hte=>⟨fT,λr hr=>?_⟩⟩;have s4:=dR (o:=.tup []) hte;have g4:(upd H3 te (.tup [])) te=some (.tup []):=dO;generalize upd H3 te (.tup [])=H4 at s4 g4 hr⊢;have s5:=dR (o:=.tup [xb,.str w,.ref te,.ref nd]) hr;have s45:=s4.trans s5;refine kk e _ rd' ws' _ ms (O3.same s45) ⟨r,xb,te,nd,kvs,rfl,dO,(hxb.mono (dY s12)).mono (kp3.tup.trans (dY s45)),s5 _ _ g4,ndt,s45 _ _ hn3,((en.mono (Kp.same s45)).old λd o _ z=>z.1)⟩ ?_;exact Ex.new (l':=[A.lp,A.tk,A.yl,nd]) (λa ha=>by
   simp only[aB,aF,or_false]at ha⊢;rcases ha with z|z|z|rfl
   ·exact .inl (.inl z)
   ·exact .inl (.inr (.inl z))
   ·exact .inl (.inr (.inr z))
   ·exact .inr hnd) ((Ex.same s12).trans (ex3.trans (Ex.same s45)))
end S9
namespace S9
open PySem L2 SW
variable {K:aA}{vs:List V}{H:Hp}{Q:VK}{E:XK}{C D:Addr}
theorem Dx(h:SF w 0):w="star":=by
 unfold SF kb at h;split at h
 ·assumption
 ·split at h
  ·cases h
  ·split at h<;>cases h
theorem Hh(h:SF w 1):w="sta":=by
 unfold SF kb at h;split at h
 ·cases h
 ·split at h
  ·assumption
  ·split at h<;>cases h
theorem Lm(h:SF w 2):w="st":=by
 unfold SF kb at h;split at h
 ·cases h
 ·split at h
  ·cases h
  ·split at h
   ·assumption
   ·cases h
theorem Md(ro:RO K C)(h:AB C D vs H Q E):K8 K C D (gi Q) (start ["self","spot","stamp","names","place","handed"] vs) H:=by
 obtain⟨A,b1,b2,b3,F,k,N,ws,rd,s,u,P,rfl,O,no,sp,ok,hk,z1,z2,z3,kk⟩:=h;obtain⟨q,x,pp,d,kvs,rfl,hq,hx,_⟩:=id sp;have wt:WT SF s.t:=ok.1.1;cases e:s.t with
 | num n=>rw[e]at hk;exact absurd hk (by simp only[kind];decide+kernel)
 | name n=>rw[e]at hk;exact absurd hk (by simp only[kind];decide+kernel)
 | sum a b=>rw[e]at hk;exact absurd hk (by simp only[kind];decide+kernel)
 | less a b=>rw[e]at hk;exact absurd hk (by simp only[kind];decide+kernel)
 | cho a b c=>rw[e]at hk;exact absurd hk (by simp only[kind];decide+kernel)
 | lt w a b=>rw[e]at hk;exact absurd hk (by simp only[kind];decide+kernel)
 | st0 w=>rw[e]at hx wt;obtain⟨p,rfl,hp⟩:=hx;cases Dx wt;have dg:=iN.k (k:=.inr "star") O.sd;rw[CA,if_pos rfl]at dg;refine⟨A.op,C,A.dx,_,_,rfl,O.ob,ro.cl,ro.nS,nO,eC.of hq,dU (j:=0) rfl,eC.of hp,dU (j:=1) rfl,A.sd,A.v1,rfl,dg,?_⟩;refine vM ro O no sp ok O.s1 (by rw[e];rfl) (λi t ht=>by rw[e]at ht;simp[T.kids]at ht) z1 z2 z3 λe' v rd' ws' H' ms O' sp' ex=>kk _ v rd' ws' H' ?_ O' sp' ex;cases ms;exact .star e
 | st1 w a=>
  rw[e]at hx wt;obtain⟨p,xa,rfl,hp,_⟩:=hx;cases Hh wt.1;have dg:=iN.k (k:=.inr "sta") O.sd;rw[CA,if_neg Je.symm,if_pos rfl]at dg;have ew:s.wt 0=1+(s.kid 0 a).wt 0:=by unfold eF.wt;rw[e];rfl
  refine⟨A.op,C,A.dx,_,_,rfl,O.ob,ro.cl,ro.nS,nO,eC.of hq,dU (j:=0) rfl,eC.of hp,dU (j:=1) rfl,A.sd,A.v2,rfl,dg,?_⟩;refine vM ro O no sp ok O.s2 (by rw[e];rfl) (λi t ht=>?_) z1 z2 z3 λe' v rd' ws' H' ms O' sp' ex=>kk _ v rd' ws' H' ?_ O' sp' ex
  ·rw[e]at ht
   match i,ht with
   | 0,ht=>cases ht;lia
   | n+1,ht=>simp[T.kids]at ht
  ·cases ms with
   | snoc ms hp1 ht mean=>
   cases ms with
   | nil=>
   rw[e]at ht;cases hp1;cases ht;exact .sta e mean
 | st2 w a b=>
  rw[e]at hx wt;obtain⟨p,xa,xb,rfl,hp,_⟩:=hx;cases Lm wt.1;have dg:=iN.k (k:=.inr "st") O.sd;rw[CA,if_neg Jd.symm,if_neg Jc.symm,if_pos rfl]at dg;have ew:s.wt 0=1+(s.kid 0 a).wt 0+(s.kid 1 b).wt 0:=by unfold eF.wt;rw[e];rfl
  refine⟨A.op,C,A.dx,_,_,rfl,O.ob,ro.cl,ro.nS,nO,eC.of hq,dU (j:=0) rfl,eC.of hp,dU (j:=1) rfl,A.sd,A.v3,rfl,dg,?_⟩;refine vM ro O no sp ok O.s3 (by rw[e];rfl) (λi t ht=>?_) z1 z2 z3 λe' v rd' ws' H' ms O' sp' ex=>kk _ v rd' ws' H' ?_ O' sp' ex
  ·rw[e]at ht
   match i,ht with
   | 0,ht=>cases ht;lia
   | 1,ht=>cases ht;lia
   | n+2,ht=>simp[T.kids]at ht
  ·cases ms with
   | snoc ms hp2 ht2 mean2=>
   cases ms with
   | snoc ms hp1 ht1 mean1=>
   cases ms with
   | nil=>
   rw[e]at ht1 ht2;cases hp1;cases ht1;cases hp2;cases ht2;rename_i m1 m2;have ep:∀m n:Mg,En.put (En.put .nil "sab" m) "tab" n=.cons "sab" m (.cons "tab" n .nil):=λm n=>by simp only[En.put,if_neg (show ¬("sab":Str)="tab" by decide+kernel)]
   rw[ep];exact .st e mean1 mean2
theorem fh.many(O:fh C D A b1 b2 b3 F N k ws rd H):fh C D A b1 b2 b3 F N j ws rd (upd H A.op (.ins C A.dx (lT A.sd A.lp F j A.yl))):=by
 obtain⟨n,f,c⟩:=O.fw;obtain⟨us,y1,y2⟩:=O.yl;have ht:fH H (upd H A.op (.ins C A.dx (lT A.sd A.lp F j A.yl))):=λb xs e=>by rw[db (fY e O.ob (by intro z;cases z))];exact e
 have hL:∀a xs,N a→H a=some (.lst xs)→(upd H A.op (.ins C A.dx (lT A.sd A.lp F j A.yl))) a=some (.lst xs):=λa xs n z=>by rw[db (fY z O.ob (by intro z;cases z))];exact z
 exact⟨dO,⟨n,⟨by rw[db O.nOL.symm];exact f.ob,by rw[db O.nOT.symm];exact f.dk⟩,c⟩,by rw[db (fY O.sd O.ob (by intro z;cases z))];exact O.sd,O.st,O.s1.mono (λ_ z=>z) ht hL,O.s2.mono (λ_ z=>z) ht hL,O.s3.mono (λ_ z=>z) ht hL,us,by rw[db O.nOY.symm];exact y1,y2.mono λ_ _=>su.mono (λ_ z=>z) ht hL⟩
def tV(C D:Addr):Sp:=λvs H Q _=>∃(A:Ad)(b1 b2 b3:T)(F k:Nat)(N:Addr→Prop)(ws:List Str)(rd:List (List Rw))(wl rl:Addr)(wus rus:List V)(s:eF)(u:V)(P:Nat→Nat→Prop),
 vs=[.ref A.op,u,.ref wl,.ref rl]∧J5 C D A b1 b2 b3 F N k ws rd wl rl wus rus s u P H∧xN A N H∧s.wt 0≤1000000∧ws.length≤1000000∧rd.length≤1000000∧
 (∀(P:List eF)(rs:List Rw)(ws':List Str)(H':Hp),Tk ws s P rs ws'→fh C D A b1 b2 b3 F N k ws' rd H'→Es (Nk A.tk) wl rl wus rus P rs H'→Ex [wl,rl,A.lp,A.tk] H H'→Q .non H')∧
 (∀(s':eF)(rd':List (List Rw))(ws':List Str)(H':Hp),tD b1 b2 b3 (decide (k+1≤F)) rd ws s s' rd' ws'→fh C D A b1 b2 b3 F N (k+1) ws' rd' H'→Es (Nk A.tk) wl rl wus rus [s'] [] H'→Ex [wl,A.op,A.lp,A.tk,A.yl] H H'→Q .non H')
def FE(K:aA)(a_Opening a_FreshWords:Addr):TS:=(de (oa K (dN 0) (tC (.int 1)) DO "many") (fQ (kB K "list" eh (dN 2) (dM (jm a_Opening "body_of" (AB a_Opening a_FreshWords) [] E0 (dN 0) (dM (dN 1) dW)) dW))))
def FD(K:aA)(a_Opening a_FreshWords:Addr):TS:=(fW (eI (eA kX (dN 4) (tC (.str "stamp")))) (FE K a_Opening a_FreshWords) (rO K a_Opening a_FreshWords))
def Kn(K:aA)(a_Opening a_FreshWords:Addr):TS:=(de (eG (eA (eE K) (eA (eE K) (dN 1) (tC (.int 0))) (tC (.int 0))) (dX 4)) (FD K a_Opening a_FreshWords))
theorem LD(ro:RO K C)(h:tV C D vs H Q E):Kn K C D (gi Q) (start ["self","spot","waiting","rows","kind"] vs) H:=by
 obtain⟨A,b1,b2,b3,F,k,N,ws,rd,wl,rl,wus,rus,s,u,P,rfl,B,no,z1,z2,z3,k1,k2⟩:=h;obtain⟨q,x,pp,d,kvs,rfl,hq,hx,hpp,nd,hd,he⟩:=id B.sp;obtain⟨p,ks,rfl,hp,dk⟩:=hx.open;refine⟨eC.of hq,dU (j:=0) rfl,eC.of hp,Ef s.t ks,?_⟩;by_cases hk:kind s.t="stamp"
 ·refine⟨rfl,_,rfl,fi (by rw[hk];decide+kernel) ?_⟩;refine⟨A.op,C,A.dx,_,_,rfl,B.O.ob,ro.cl,ro.nM,lU,_,_,rfl,rfl,A.dx,_,B.O.ob,HI,?_⟩;rw[HH (j:=k+1) (by lia)];have O1:=B.O.many (j:=k+1);have kp1:Kp (Nk A.tk) H (upd H A.op (.ins C A.dx (lT A.sd A.lp F (k+1) A.yl))):=Kp.ins B.O.ob;have ex1:Ex [wl,A.op,A.lp,A.tk,A.yl] H (upd H A.op (.ins C A.dx (lT A.sd A.lp F (k+1) A.yl))):=Ex.upd (by simp);have w1:(upd H A.op (.ins C A.dx (lT A.sd A.lp F (k+1) A.yl))) wl=some (.lst wus):=by rw[db (fY B.w B.O.ob (by intro z;cases z))];exact B.w
  have r1:(upd H A.op (.ins C A.dx (lT A.sd A.lp F (k+1) A.yl))) rl=some (.lst rus):=by rw[db (fY B.r B.O.ob (by intro z;cases z))];exact B.r
  have no1:xN A N (upd H A.op (.ins C A.dx (lT A.sd A.lp F (k+1) A.yl))):=⟨no.y,λa z=>no.f a (by
   by_cases e:a=A.op
   ·subst e;rw[dO]at z;cases z
   ·rw[db e]at z;exact z)⟩
  generalize upd H A.op (.ins C A.dx (lT A.sd A.lp F (k+1) A.yl))=H1 at O1 kp1 ex1 w1 r1 no1⊢;refine⟨.inl ⟨rfl,_,eK.of w1⟩,A.op,A.dx,_,rfl,O1.ob,md,A,b1,b2,b3,F,k+1,N,ws,rd,s,_,P,rfl,O1,no1,B.sp.mono kp1,B.ok,hk,z1,z2,z3,λs' v rd' ws' H2 opn O2 sp2 ex2=>?_⟩;have lst:∀l xs,H1 l=some (.lst xs)→l≠A.yl→H2 l=some (.lst xs):=λl xs h hy=>ex2 _ _ (λq=>by
   obtain⟨n3,f3,_⟩:=O1.fw;simp only[aB,aF,or_false]at q;rcases q with rfl|rfl|rfl
   ·rw[f3.ob]at h;cases h
   ·rw[f3.dk]at h;cases h
   ·exact hy rfl) h
  have w2:=lst _ _ w1 B.ny;have r2:=lst _ _ r1 B.nz;have hz:=B.z1;refine⟨wl,_,_,rfl,rfl,w2,by rw[sizeLine_eq];lia,?_⟩;refine k2 s' rd' ws' _ opn (O2.lst w2 B.ny B.nw) ⟨⟨[v],dO,.one (sp2.mono (Kp.lst w2))⟩,[],by rw[db B.ne.symm,aZ];exact r2,.nil⟩ (ex1.trans ((ex2.more (by simp)).trans (Ex.upd (by simp))))
 ·exact⟨rfl,_,rfl,eM (nk hk) (AO B hk k1)⟩
def lN(C D:Addr):Sp:=λvs H Q _=>∃(A:Ad)(b1 b2 b3:T)(F:Nat)(N:Addr→Prop)(ws:List Str)(t:T)(u:V),
 vs=[.ref A.op,u]∧fh C D A b1 b2 b3 F N 0 ws [] H∧xN A N H∧iM (Nk A.tk) H ⟨t,"",[],.nil⟩ u∧tF b1 b2 b3∧BT t [] 0∧(∀st,tI b1 b2 b3 F (st0 t ws) st→st.k≤F→Bm st)∧
 ∀(st:oV)(l:Addr)(rus:List V)(H':Hp),tI b1 b2 b3 F (st0 t ws) st→(st.k≤F→st.S=[])→H l=none→H' l=some (.lst rus)→Al (jQ H') st.R rus→fh C D A b1 b2 b3 F N st.k st.ws st.rd H'→Ex [A.op,A.lp,A.tk,A.yl] H H'→Q (.ref l) H'
def zQ(K:aA)(a_Opening a_FreshWords:Addr):TS:=(fQ (jm a_Opening "take" (tV a_Opening a_FreshWords) [] E0 (dN 0) (dM (lz K "list" mF (dN 3)) (dM (dN 3) (dM (dN 2) dW)))))
def FI(K:aA)(a_Opening a_FreshWords:Addr):TS:=(de (eG (fX dW) (dX 2)) (de (eG (fX (dM (dN 1) dW)) (dX 3)) (de (hX (kq (eI (eA oQ (gm (gh K) (dM (dN 3) dW)) (tC (.int 0)))) (eI (eA DN (kC K (dN 0) "many") (kC K (dN 0) "fuel")))) (zQ K a_Opening a_FreshWords)) (fI (dN 2)))))
structure J4(C D:Addr)(A:Ad)(b1 b2 b3:T)(F:Nat)(N:Addr→Prop)(wl rl:Addr)(t:T)(ws:List Str)(H2:Hp)(st:oV)(wus rus:List V)(H':Hp):Prop where
 rch:tI b1 b2 b3 F (st0 t ws) st
 O:fh C D A b1 b2 b3 F N st.k st.ws st.rd H'
 no:xN A N H'
 w:H' wl=some (.lst wus)
 r:H' rl=some (.lst rus)
 dw:Al (iM (Nk A.tk) H') st.S wus
 dr:Al (jQ H') st.R rus
 ex:Ex [wl,rl,A.op,A.lp,A.tk,A.yl] H2 H'
def Mr(C D:Addr)(A:Ad)(b1 b2 b3:T)(F:Nat)(N:Addr→Prop)(wl rl:Addr)(t:T)(ws:List Str)(H2:Hp)(u:V)(m:Nat)(σ:St)(H':Hp):Prop:=∃st wus rus,σ=[some (.ref A.op),some u,some (.ref rl),some (.ref wl)]∧J4 C D A b1 b2 b3 F (λa=>N a∧a≠wl∧a≠rl) wl rl t ws H2 st wus rus H'∧m=mu F t.size st
theorem Ik(ro:RO K C)(h:lN C D vs H Q E):FI K C D (gi Q) (start ["self","spot","rows","waiting"] vs) H:=by
 obtain⟨A,b1,b2,b3,F,N,ws,t,u,rfl,O,no,sp,bk,bt,sm,kk⟩:=h;refine⟨fT,λrl hrl=>⟨fT,λwl hwl=>?_⟩⟩;have s1:dq H (upd H rl (.lst [])):=dR hrl;have s2:=dR (o:=.lst [u]) hwl;have hne:wl≠rl:=(dZ (dO (H:=H) (a:=rl) (o:=.lst [])) hwl).symm;have r2:(upd (upd H rl (.lst [])) wl (.lst [u])) rl=some (.lst []):=s2 _ _ dO;have w2:(upd (upd H rl (.lst [])) wl (.lst [u])) wl=some (.lst [u]):=dO;have hwl0:H wl=none:=s1.free hwl;have s12:=s1.trans s2;generalize upd (upd H rl (.lst [])) wl (.lst [u])=H2 at s2 r2 w2 s12⊢;clear s1 s2 hwl;obtain⟨ys,hy,_⟩:=O.rdl;have O2:fh C D A b1 b2 b3 F (λa=>N a∧a≠wl∧a≠rl) 0 ws [] H2:=(O.weak (N':=λa=>N a∧a≠wl∧a≠rl) λa o h n=>⟨n,dZ h hwl0,dZ h hrl⟩).same s12;have no2:xN A (λa=>N a∧a≠wl∧a≠rl) H2:=⟨λa z=>no.y a z.1,λa z=>⟨no.f a (s12.free z),(dZ w2 z).symm,(dZ r2 z).symm⟩⟩;have nyw:wl≠A.yl:=(dZ hy hwl0).symm;have nyr:rl≠A.yl:=(dZ hy hrl).symm;have I0:eU F t.size (st0 t ws):=kO bt;refine⟨Mr C D A b1 b2 b3 F N wl rl t ws H2 u,⟨_,st0 t ws,[u],[],rfl,?_,rfl⟩,?_⟩
 ·exact⟨.refl,O2,no2,w2,r2,.one (sp.mono (Kp.same s12)),.nil,.refl⟩
 ·rintro m σ H3 ⟨st,wus,rus,rfl,B,rfl⟩;have I:=og bk B.rch I0;have done:(st.k≤F→st.S=[])→Q (.ref rl) H3:=λz=>
   kk st rl rus H3 B.rch z hrl B.r B.dr (B.O.weak (N':=N) λa o h n=>n.1) (Ex.new (l':=[wl,rl,A.op,A.lp,A.tk,A.yl]) (λa ha=>by
     simp only[aB,aF,or_false]at ha⊢;rcases ha with rfl|rfl|z|z|z|z
     ·exact .inr hwl0
     ·exact .inr hrl
     ·exact .inl (.inl z)
     ·exact .inl (.inr (.inl z))
     ·exact .inl (.inr (.inr (.inl z)))
     ·exact .inl (.inr (.inr (.inr z)))) ((Ex.same s12).trans B.ex))
  refine⟨wl,wus,rfl,.inl (eK.of B.w),_,rfl,?_⟩;by_cases hv:wus=[]
  ·subst hv;refine eM rfl (eM rfl ?_);exact(done λ_=>cG.mp B.dw.length.symm)
  ·refine fi (decide_eq_true (by have:=dJ.mpr hv;lia)) ?_;refine⟨A.op,C,A.dx,_,_,rfl,B.O.ob,ro.cl,ro.nM,lU,A.op,C,A.dx,_,_,rfl,B.O.ob,ro.cl,ro.nF,rn,_,rfl,?_⟩;by_cases hk:st.k≤F
   ·refine fi (decide_eq_true (by lia)) ?_;obtain⟨us,u1,rfl⟩:=gD hv;obtain⟨S,R,k,ws1,rd⟩:=st;obtain⟨S',s',rfl,d1,d2⟩:=B.dw.snoc;refine⟨λσ' H'=>∃m',m'<mu F t.size ⟨S'++[s'],R,k,ws1,rd⟩∧Mr C D A b1 b2 b3 F N wl rl t ws H2 u m' σ' H',λ_ _ h=>h,?_⟩;refine⟨A.op,A.dx,_,rfl,B.O.ob,md,.inl ⟨rfl,_,eK.of B.w⟩,wl,_,_,rfl,rfl,B.w,jC,?_⟩;rw[iP];have O4:=B.O.lst (o:=.lst us) B.w nyw (λa z=>z.2.1);have kp4:Kp (Nk A.tk) H3 (upd H3 wl (.lst us)):=Kp.lst B.w;have ex4:Ex [wl,rl,A.op,A.lp,A.tk,A.yl] H3 (upd H3 wl (.lst us)):=Ex.upd (by simp);have w4:(upd H3 wl (.lst us)) wl=some (.lst us):=dO;have r4:(upd H3 wl (.lst us)) rl=some (.lst rus):=by rw[db hne.symm];exact B.r
    have no4:xN A (λa=>N a∧a≠wl∧a≠rl) (upd H3 wl (.lst us)):=⟨B.no.y,λa z=>B.no.f a (by
     by_cases e:a=wl
     ·subst e;rw[dO]at z;cases z
     ·rw[db e]at z;exact z)⟩
    generalize upd H3 wl (.lst us)=H4 at O4 kp4 ex4 w4 r4 no4⊢;have os:=I.so s' (aQ _ (.head _));have SM:=sm _ B.rch hk;have hwt:=SM.wt;have hzs:=SM.ws;have hkk:k≤400000:=SM.k;simp only[gC,gq]at hwt hzs;have hl1:=rK (h:=0) (S:=S') λx hx=>I.so x (ag _ hx);have hl2:=kQ I.ro;have hl3:=d1.length;have hl4:=B.dr.length;have hdl:=I.dl;simp only at hl2 hl4 hdl;have hk':k≤F:=hk;have nxt:∀(st':oV)(P:List eF)(rs:List Rw)(H5:Hp),El b1 b2 b3 F ⟨S'++[s'],R,k,ws1,rd⟩ st'→st'.S=S'++P→st'.R=R++rs→fh C D A b1 b2 b3 F (λa=>N a∧a≠wl∧a≠rl) st'.k st'.ws st'.rd H5→Es (Nk A.tk) wl rl us rus P rs H5→Ex [wl,rl,A.op,A.lp,A.tk,A.yl] H4 H5→
      ∃m',m'<mu F t.size ⟨S'++[s'],R,k,ws1,rd⟩∧∃st wus rus,([some (.ref A.op),some u,some (.ref rl),some (.ref wl)]:St)=[some (.ref A.op),some u,some (.ref rl),some (.ref wl)]∧J4 C D A b1 b2 b3 F (λa=>N a∧a≠wl∧a≠rl) wl rl t ws H2 st wus rus H5∧m'=mu F t.size st:=by
     intro st' P rs H5 stp eS eR O5 aft ex5;obtain⟨⟨pus,w5,dp⟩,rvs,r5,dr5⟩:=aft;obtain⟨n4,f4,_⟩:=O4.fw;obtain⟨ys4,y4,_⟩:=O4.rdl;have kp5:Kp (Nk A.tk) H4 H5:=O4.kp ex5 (λa ha=>by
      simp only[aB,aF,or_false]at ha;rcases ha with rfl|rfl|rfl|rfl|z|rfl
      ·exact .inr (.inl ⟨_,w4⟩)
      ·exact .inr (.inl ⟨_,r4⟩)
      ·exact .inr (.inr ⟨_,_,_,O4.ob⟩)
      ·exact .inr (.inr ⟨_,_,_,f4.ob⟩)
      ·exact .inl z
      ·exact .inr (.inl ⟨_,y4⟩))
     have kp35:=kp4.trans kp5;have no5:xN A (λa=>N a∧a≠wl∧a≠rl) H5:=⟨no4.y,λa z=>no4.f a (by
      cases q:H4 a with
      | none=>rfl
      | some o=>
       exfalso;obtain⟨n5,f5,_⟩:=O5.fw;obtain⟨ys5,y5,_⟩:=O5.rdl;have:=ex5 a o (λw=>by
        simp only[aB,aF,or_false]at w;rcases w with rfl|rfl|rfl|rfl|rfl|rfl
        ·rw[w5]at z;cases z
        ·rw[r5]at z;cases z
        ·rw[O5.ob]at z;cases z
        ·rw[f5.ob]at z;cases z
        ·rw[f5.dk]at z;cases z
        ·rw[y5]at z;cases z) q
       rw[this]at z;cases z)⟩
     refine⟨_,Ga bk stp I hk,st',us++pus,rus++rvs,rfl,⟨.step B.rch hk stp,O5,no5,w5,r5,?_,?_,B.ex.trans (ex4.trans ex5)⟩,rfl⟩
     ·rw[eS];exact(d1.mono λ_ _=>iM.mono kp35).append dp
     ·rw[eR];exact(B.dr.mono λ_ _=>jQ.mono kp35.tup).append dr5
    refine⟨A,b1,b2,b3,F,k,_,ws1,rd,wl,rl,us,rus,s',u1,_,rfl,⟨O4,d2.mono kp4,os,by lia,w4,r4,hne,nyw,nyr,λa z=>z.2.1,λa z=>z.2.2,by lia,by lia⟩,no4,by lia,by lia,by lia,λPs rs ws' H5 tkk O5 aft ex5=>?_,λs2 rd' ws' H5 opn O5 aft ex5=>?_⟩
    ·exact nxt _ Ps rs H5 (.take tkk) rfl rfl O5 aft (ex5.more (by simp only[aB,aF,or_false];rintro a (z|z|z|z)<;>simp[z]))
    ·exact nxt _ [s2] [] H5 (.opn opn) rfl (aZ _).symm O5 aft (ex5.more (by simp only[aB,aF,or_false];rintro a (z|z|z|z|z)<;>simp[z]))
   ·refine eM (decide_eq_false (by lia)) ?_;exact(done λz=>absurd z hk)
end S9
namespace S9
open PySem L2 SW
variable {K:aA}{vs:List V}{H:Hp}{Q:VK}{E:XK}{C D:Addr}
theorem Jy(ha:H a=some (.tup xs))(hb:H b=some (.tup ys))(hl:xs.length+ys.length≤sizeLine)(k:∀r H',dq H H'→H' r=some (.tup (xs++ys))→Q (.ref r) H'):ph K (.ref a) (.ref b) H Q:=
 ⟨a,b,xs,ys,rfl,rfl,eC.of ha,eC.of hb,hl,λe=>k b H (dq.refl _) (by rw[e];exact hb),λ_ e=>k a H (dq.refl _) (by rw[e,aZ];exact ha),λ_ _ p hp=>k p _ (dR hp) dO⟩
def ky(N:Addr→Prop)(H:Hp)(w:T×List kh)(v:V):Prop:=∃p x l us,v=.ref p∧H p=some (.tup [x,.ref l])∧gG H w.1 x∧H l=some (.lst us)∧Al (kA H) w.2 us∧N l
theorem ky.mono(s:dq H H')(h:ky N H w v):ky N H' w v:=by obtain⟨p,x,l,us,e,h1,h2,h3,h4,h5⟩:=h;exact⟨p,x,l,us,e,s _ _ h1,h2.mono (dY s),s _ _ h3,h4.mono λ_ _=>kA.mono (dY s),h5⟩
theorem ky.weak(hN:∀l,N l→N' l)(h:ky N H w v):ky N' H w v:=by obtain⟨p,x,l,us,e,h1,h2,h3,h4,h5⟩:=h;exact⟨p,x,l,us,e,h1,h2,h3,h4,hN l h5⟩
theorem ky.put(hw:H wl=some (.lst xs))(h:ky (λl=>l≠wl) H w v):ky (λl=>l≠wl) (upd H wl o) w v:=by obtain⟨p,x,l,us,e,h1,h2,h3,h4,h5⟩:=h;exact⟨p,x,l,us,e,(fL hw) _ _ h1,h2.mono (fL hw),by rw[db h5];exact h3,h4.mono λ_ _=>kA.mono (fL hw),h5⟩
theorem HK(hl:ts.length=h.ar)(d:Al (gG H) ts us)(hq:H q=some (.tup (h.vs++us))):gG H (vT h ts) (.ref q):=by
 cases h with
 | num n=>match ts,hl with
  | [],_=>cases d;exact⟨q,rfl,hq⟩
 | name n=>match ts,hl with
  | [],_=>cases d;exact⟨q,rfl,hq⟩
 | sum=>match ts,hl with
  | [a,b],_=>cases d with|cons d1 d=>cases d with|cons d2 d=>cases d;exact⟨q,_,_,rfl,hq,d1,d2⟩
 | less=>match ts,hl with
  | [a,b],_=>cases d with|cons d1 d=>cases d with|cons d2 d=>cases d;exact⟨q,_,_,rfl,hq,d1,d2⟩
 | cho=>match ts,hl with
  | [a,b,c],_=>cases d with|cons d1 d=>cases d with|cons d2 d=>cases d with|cons d3 d=>cases d;exact⟨q,_,_,_,rfl,hq,d1,d2,d3⟩
 | lt w=>match ts,hl with
  | [a,b],_=>cases d with|cons d1 d=>cases d with|cons d2 d=>cases d;exact⟨q,_,_,rfl,hq,d1,d2⟩
def Lt(m:Nat)(n z:Nat):Prop:=n<m
theorem yY{α:Type}{l:List α}{i:Nat}{x:α}(hi:i<l.length)(hx:l[l.length-1-i]?=some x):l.drop (l.length-(i+1))=x::l.drop (l.length-i):=by
 obtain⟨h1,h2⟩:=aO.mp hx;have e:l.length-(i+1)=l.length-1-i:=by lia
 rw[e,bZ h1,h2]
 congr 2
 lia
def zy:Sp:=λvs H Q _=>∃(N:Addr→Prop)(rl wl:Addr)(R:List Rw)(rus:List V)(W:List (T×List kh))(wus:List V),vs=[.ref rl,.ref wl]∧H rl=some (.lst rus)∧Al (jQ H) R rus∧H wl=some (.lst wus)∧Al (ky N H) W wus∧Bd R 1∧(∀r∈R,r.ok (Lt W.length))∧R.length≤9000000∧
 ∀(v:V)(t:T)(H':Hp),dq H H'→lq (W.map Prod.fst) R=[t]→gG H' t v→Q v H'
def FN(K:aA):TS:=(fQ (kB K "list" eh (dN 2) (dM (eA (eE K) (eA (gP K) (dN 1) (eA (eE K) (dN 3) (tC (.int 1)))) (tC (.int 0))) dW)))
def FM(K:aA):TS:=(fQ (kB K "list" eh (dN 4) (dM (lz K "list" mF (dN 2)) dW)))
def zU(K:aA):TS:=(de (eG (fX dW) (dX 4)) (de (hX (eI (eA yD (gm (gh K) (dM (dN 4) dW)) (eA (eE K) (dN 3) (tC (.int 2))))) (FM K)) (fQ (kB K "list" eh (dN 2) (dM (eA (ph K) (eA (eE K) (dN 3) (tC (.int 1))) (gm (uY K) (dM (dN 4) dW))) dW)))))
def FL(K:aA):TS:=(fW (eI (eA kX (eA (eE K) (dN 3) (tC (.int 0))) (tC (.str "ready")))) (FN K) (zU K))
def Ks(K:aA):TS:=(de (eG (fX dW) (dX 2)) (de (iY (HY K (dN 0)) (dX 3) (FL K)) (fI (lz K "list" mF (dN 2)))))
theorem NH(h:Hd):h.ar≤3:=by cases h<;>simp[Hd.ar]
theorem Li(h:Hd):h.vs.length≤2:=by cases h<;>simp[Hd.vs]
theorem Gg{rl wl ml p:Addr}{h:Hd}{src:Str}{path:List Nat}{m:List T}{mus:List V}{H₀:Hp}{j4:Option V}{Dd:iz}(s0:dq H₀ H)(nm:H₀ ml=none)(hr:jQ H (.row h src path) (.ref p))(hm:H ml=some (.lst mus))(dm:Al (gG H) m.reverse mus)(ha:h.ar≤m.length)(hz:m.length≤9000000)
  (k:∀(j4:Option V)(us:List V)(H':Hp),dq H₀ H'→H' ml=some (.lst us)→Al (gG H') (vT h (m.take h.ar)::m.drop h.ar).reverse us→Dd.nx [some (.ref rl),some (.ref wl),some (.ref ml),some (.ref p),j4] H'):
  zU K Dd [some (.ref rl),some (.ref wl),some (.ref ml),some (.ref p),j4] H:=by
 obtain⟨p',hp,sx,e,hrow,hhd,hsx⟩:=hr;cases e;have har:=NH h;refine⟨fT,λil hil=>?_⟩;have s1:dq H (upd H il (.lst [])):=dR hil;have i1:(upd H il (.lst [])) il=some (.lst []):=dO;have nim:il≠ml:=(dZ hm hil).symm;have hil0:H₀ il=none:=s0.free hil;generalize upd H il (.lst [])=H1 at s1 i1⊢;refine⟨λmm σ H'=>∃(j:Nat)(us ius:List V),σ=[some (.ref rl),some (.ref wl),some (.ref ml),some (.ref p),some (.ref il)]∧j≤h.ar∧dq H₀ H'∧fH H H'∧H' ml=some (.lst us)∧H' il=some (.lst ius)∧Al (gG H') (m.take j) ius∧Al (gG H') (m.drop j).reverse us∧mm=h.ar-j,
  ⟨_,0,mus,[],rfl,aU _,s0.trans s1,dY s1,s1 _ _ hm,i1,.nil,dm.mono λ_ _=>gG.mono (dY s1),rfl⟩,?_⟩
 rintro mm σ H2 ⟨j,us,ius,rfl,hj,s2,t2,m2,i2,di,du,rfl⟩;have hli:=di.length;rw[aj,bq (by lia)]at hli;have row2:=t2 _ _ hrow;refine⟨il,ius,rfl,.inl (eK.of i2),eC.of row2,dU (j:=2) rfl,_,rfl,?_⟩;by_cases hlt:j<h.ar
 ·refine fi (decide_eq_true (by lia)) ?_;refine⟨λσ' H'=>∃m',m'<h.ar-j∧∃(j:Nat)(us ius:List V),σ'=[some (.ref rl),some (.ref wl),some (.ref ml),some (.ref p),some (.ref il)]∧j≤h.ar∧dq H₀ H'∧fH H H'∧H' ml=some (.lst us)∧H' il=some (.lst ius)∧Al (gG H') (m.take j) ius∧Al (gG H') (m.drop j).reverse us∧m'=h.ar-j,λ_ _ z=>z,?_⟩;obtain⟨x,hx⟩:∃x,m[j]?=some x:=⟨m[j]'(by lia),aJ _⟩;have hd:m.drop j=x::m.drop (j+1):=by obtain⟨h1,h2⟩:=aO.mp hx;rw[bZ h1,h2]
  rw[hd,ay]at du;have hne:us≠[]:=λz=>by have:=du.length;rw[z]at this;simp at this
  obtain⟨us,u1,rfl⟩:=gD hne;obtain⟨bs,b,eb,d1,d2⟩:=du.snoc;obtain⟨rfl,rfl⟩:bs=(m.drop (j+1)).reverse∧b=x:=by have:=List.append_inj' eb rfl;exact⟨this.1.symm,by simpa using this.2.symm⟩
  refine⟨.inl ⟨rfl,_,eK.of i2⟩,.inl ⟨rfl,_,eK.of m2⟩,ml,_,_,rfl,rfl,m2,jC,?_⟩;rw[iP];have t3:fH H2 (upd H2 ml (.lst us)):=fL m2;have s3:dq H₀ (upd H2 ml (.lst us)):=eD s2 nm;have m3:(upd H2 ml (.lst us)) ml=some (.lst us):=dO;have i3:(upd H2 ml (.lst us)) il=some (.lst ius):=by rw[db nim];exact i2
  generalize upd H2 ml (.lst us)=H3 at t3 s3 m3 i3⊢;refine⟨il,_,_,rfl,rfl,i3,by rw[sizeLine_eq];lia,?_⟩;have t4:fH H3 (upd H3 il (.lst (ius++[u1]))):=fL i3;refine⟨h.ar-(j+1),by lia,j+1,us,ius++[u1],rfl,hlt,eD s3 hil0,t2.trans (t3.trans t4),by rw[db nim.symm];exact m3,dO,?_,d1.mono λ_ _=>gG.mono (t3.trans t4),rfl⟩;rw[az,hx];exact(di.mono λ_ _=>gG.mono (t3.trans t4)).append (.one (d2.mono (t3.trans t4)))
 ·refine eM (decide_eq_false (by lia)) ?_;have ej:j=h.ar:=by lia
  subst ej;have hhd2:=t2 _ _ hhd;have hv2:=Li h;refine⟨.inl ⟨rfl,_,eK.of m2⟩,eC.of row2,dU (j:=1) rfl,il,_,rfl,.inl ⟨eK.of i2,eu λq H3 hq s3 g3=>?_⟩⟩;refine Jy (s3 _ _ hhd2) g3 (by rw[sizeLine_eq];lia) λr H4 s4 g4=>?_;have s24:=s3.trans s4;have m4:=s24 _ _ m2;have dul:=du.length;rw[bX,ai]at dul;refine⟨ml,_,_,rfl,rfl,m4,by rw[sizeLine_eq];lia,?_⟩;have t5:fH H4 (upd H4 ml (.lst (us++[.ref r]))):=fL m4;refine k _ _ _ (eD (s2.trans s24) nm) dO ?_;rw[ay];refine((du.mono λ_ _=>gG.mono (dY s24)).mono λ_ _=>gG.mono t5).append (.one ?_);refine HK (by rw[aj];lia) ((di.mono λ_ _=>gG.mono (dY s24)).mono λ_ _=>gG.mono t5) (t5 _ _ g4)
theorem MP(h:zy vs H Q E):Ks K (gi Q) (start ["rows","written","made","row","inner"] vs) H:=by
 obtain⟨N,rl,wl,R,rus,W,wus,rfl,hr,dr,hw,dw,bd,rok,hz,k⟩:=h;refine⟨fT,eu λml H1 hml s1 m1=>?_⟩;have hrl:=dr.length;refine⟨rl,rus,rfl,eK.of (s1 _ _ hr),?_⟩;refine uS (K:=K) (a:=rl) (xs:=rus) (λi σ H'=>∃(j3 j4:Option V)(mus:List V),σ=[some (.ref rl),some (.ref wl),some (.ref ml),j3,j4]∧dq H H'∧H' ml=some (.lst mus)∧Al (gG H') (lq (W.map Prod.fst) (R.drop (R.length-i))).reverse mus)
  ⟨none,none,[],rfl,s1,m1,by rw[br,List.drop_length];exact .nil⟩ (λi σ H' _ hP=>?_) ?_ ?_
 ·obtain⟨_,_,_,_,s,_⟩:=hP;exact eK.of (s _ _ hr)
 ·rintro i y σ H2 hi hy ⟨j3,j4,mus,rfl,s2,m2,dm⟩;obtain⟨r,hrr,rat⟩:=dr.get hy;rw[hrl]at hrr hi;have hdr:=yY hi hrr;have rat:=rat.mono (dY s2);obtain⟨c,hbd⟩:∃c,Bd (R.drop (R.length-(i+1))) c:=xK (a:=R.take (R.length-(i+1))) (by rw[bu];exact bd);rw[hdr]at hbd;have hbl:∃c,Bd (R.drop (R.length-i)) (r.ar+c):=by
   cases hbd with
   | cons hb=>exact⟨_,hb⟩
  obtain⟨c,hbl⟩:=hbl;have hml2:=oy (W:=W.map Prod.fst) hbl;have hbz:(lq (W.map Prod.fst) (R.drop (R.length-i))).length≤9000000:=by
   have:∀{b:List Rw}{c:Nat},Bd b c→c≤b.length:=λh=>by
    induction h with
    | nil=>exact aC _
    | cons _ ih=>rw[aE];lia
   have:=this hbl;rw[ai]at this;lia
  rw[hdr];cases r with
  | rdy n z=>
   obtain⟨p,rfl,hp⟩:=rat;have hn:n<W.length:=(rok _ (ac hrr)).2;obtain⟨w,hW⟩:∃w,W[n]?=some w:=⟨W[n],aJ _⟩;obtain⟨v,hv,pw,xw,lw,usw,rfl,hpw,dxw,_⟩:=dw.getA hW;refine⟨eC.of hp,dU (j:=0) rfl,rfl,_,rfl,fi (by decide+kernel) ?_⟩;have dml:=dm.length;rw[bX]at dml;refine⟨.inl ⟨rfl,_,eK.of m2⟩,eC.of hp,dU (j:=1) rfl,eK.of (s2 _ _ hw),dU hv,eC.of (s2 _ _ hpw),dU (j:=0) rfl,ml,_,_,rfl,rfl,m2,by rw[sizeLine_eq];lia,?_⟩;have t3:fH H2 (upd H2 ml (.lst (mus++[xw]))):=fL m2;refine⟨_,_,mus++[xw],rfl,eD s2 hml,dO,?_⟩;have eW:(W.map Prod.fst)[n]?.getD (.num 0)=w.1:=by rw[ae,hW];rfl
   simp only[lq,xn,eW,ay];exact(dm.mono λ_ _=>gG.mono t3).append (.one ((dxw.mono (dY s2)).mono t3))
  | row h src path=>
   have rat0:=rat;obtain⟨p,hp,sx,rfl,hrow,hhd,hsx⟩:=rat;refine⟨eC.of hrow,dU (j:=0) rfl,rfl,_,rfl,eM (by decide+kernel) ?_⟩;have har:h.ar≤(lq (W.map Prod.fst) (R.drop (R.length-i))).length:=by rw[hml2];simp only[Rw.ar];lia
   exact Gg s2 hml rat0 m2 dm har (by lia) λj4 us H3 s3 m3 d3=>⟨_,_,us,rfl,s3,m3,by simp only[lq,xn];exact d3⟩
 ·rintro σ H2 ⟨j3,j4,mus,rfl,s2,m2,dm⟩;rw[hrl,bN,ah]at dm;have hl:=oy (W:=W.map Prod.fst) bd;obtain⟨t,ht⟩:=List.length_eq_one_iff.mp hl;rw[ht]at dm;cases dm with|cons d0 dn=>cases dn with|nil=>
  refine⟨.inl ⟨rfl,_,eK.of m2⟩,ml,_,_,rfl,rfl,m2,rfl,?_⟩;exact k _ t _ (eD s2 hml) ht (d0.mono (fL m2))
def L5(W:List (T×List kh))(n z:Nat):Prop:=∃w,W[n]?=some w∧w.2.length≤z
def Ih:Sp:=λvs H Q _=>∃(N:Addr→Prop)(rl wl:Addr)(R:List Rw)(rus:List V)(W:List (T×List kh))(wus:List V),vs=[.ref rl,.ref wl]∧H rl=some (.lst rus)∧Al (jQ H) R rus∧H wl=some (.lst wus)∧Al (ky N H) W wus∧(∀r∈R,r.ok (L5 W))∧kn R≤9000000∧
 ∀(l:Addr)(us:List V)(H':Hp),dq H H'→H l=none→H' l=some (.lst us)→Al (kA H') (ik (W.map Prod.snd) R) us→Q (.ref l) H'
def FH(K:aA):TS:=(fQ (kB K "list" mW (dN 2) (dM (eA (eE K) (eA (gP K) (dN 1) (eA (eE K) (dN 3) (tC (.int 1)))) (tC (.int 1))) dW)))
def FG(K:aA):TS:=(fQ (kB K "list" eh (dN 2) (dM (eA (eE K) (dN 3) (tC (.int 3))) dW)))
def FF(K:aA):TS:=(fW (eI (eA kX (eA (eE K) (dN 3) (tC (.int 0))) (tC (.str "ready")))) (FH K) (FG K))
def Kq(K:aA):TS:=(de (eG (fX dW) (dX 2)) (de (iY (i7 K (dN 0)) (dX 3) (FF K)) (fI (dN 2))))
theorem CC(R:List Rw)(i:Nat):kn (R.take i)≤kn R:=by have e:=lu (R.take i) (R.drop i);rw[bu]at e;lia
theorem MN(h:Ih vs H Q E):Kq K (gi Q) (start ["rows","written","sources","row"] vs) H:=by
 obtain⟨N,rl,wl,R,rus,W,wus,rfl,hr,dr,hw,dw,rok,hz,k⟩:=h;refine⟨fT,eu λsl H1 hsl s1 m1=>?_⟩;have hrl:=dr.length;have rokS:∀r∈R,r.ok (L4 (W.map Prod.snd)):=λr h=>Rw.ok_mono (λn z ⟨w,e,l⟩=>⟨w.2,by rw[ae,e];rfl,l⟩) (rok r h);refine⟨rl,rfl,⟨_,eK.of (s1 _ _ hr)⟩,?_⟩;refine gw (K:=K) (a:=rl) (xs:=rus) (λi σ H'=>∃(j3:Option V)(sus:List V),σ=[some (.ref rl),some (.ref wl),some (.ref sl),j3]∧dq H H'∧H' sl=some (.lst sus)∧Al (kA H') (ik (W.map Prod.snd) (R.take i)) sus)
  ⟨none,[],rfl,s1,m1,.nil⟩ (λi σ H' _ hP=>?_) ?_ ?_
 ·obtain⟨_,_,_,s,_⟩:=hP;exact eK.of (s _ _ hr)
 ·rintro i y σ H2 hi ⟨j3,sus,rfl,s2,m2,ds⟩;obtain⟨r,hrr,rat⟩:=dr.get hi;have rat:=rat.mono (dY s2);have htk:R.take (i+1)=R.take i++[r]:=by rw[az,hrr];rfl
  have hsl1:=ds.length;have hsl2:=mR (W:=W.map Prod.snd) (b:=R.take (i+1)) λr h=>rokS r (dI h);have hsl3:=CC R (i+1);rw[htk,gy,aD]at hsl2;rw[htk]at hsl3⊢;rw[gy];cases r with
  | rdy n z=>
   obtain⟨p,rfl,hp⟩:=rat;obtain⟨_,w,hW,hwl⟩:=rok _ (ac hrr);obtain⟨v,hv,pw,xw,lw,usw,rfl,hpw,dxw,hlw,dlw,_⟩:=dw.getA hW;have eW:(W.map Prod.snd)[n]?.getD []=w.2:=by rw[ae,hW];rfl
   have hdl:=dlw.length;simp only[ik,eW,aZ]at hsl2⊢;refine⟨eC.of hp,dU (j:=0) rfl,rfl,_,rfl,fi (by decide+kernel) ?_⟩;refine⟨.inl ⟨rfl,_,eK.of m2⟩,eC.of hp,dU (j:=1) rfl,eK.of (s2 _ _ hw),dU hv,eC.of (s2 _ _ hpw),dU (j:=1) rfl,sl,lw,_,_,rfl,rfl,m2,s2 _ _ hlw,by rw[sizeLine_eq];lia,?_⟩;have t3:fH H2 (upd H2 sl (.lst (sus++usw))):=fL m2;exact⟨_,sus++usw,rfl,eD s2 hsl,dO,(ds.mono λ_ _=>kA.mono t3).append ((dlw.mono λ_ _=>kA.mono (dY s2)).mono λ_ _=>kA.mono t3)⟩
  | row h src path=>obtain⟨p,hp,sx,rfl,hrow,hhd,hsx⟩:=rat;simp only[ik]at hsl2⊢;refine⟨eC.of hrow,dU (j:=0) rfl,rfl,_,rfl,eM (by decide+kernel) ?_⟩;refine⟨.inl ⟨rfl,_,eK.of m2⟩,eC.of hrow,dU (j:=3) rfl,sl,_,_,rfl,rfl,m2,by rw[sizeLine_eq];lia,?_⟩;have t3:fH H2 (upd H2 sl (.lst (sus++[sx]))):=fL m2;exact⟨_,sus++[sx],rfl,eD s2 hsl,dO,(ds.mono λ_ _=>kA.mono t3).append (.one (hsx.mono t3))⟩
 ·rintro σ H2 ⟨j3,sus,rfl,s2,m2,ds⟩;rw[hrl,bJ]at ds;exact(k sl sus H2 s2 hsl m2 ds)
def tU:Sp:=λvs H Q _=>∃(N:Addr→Prop)(rl wl:Addr)(R:List Rw)(rus:List V)(W:List (T×List kh))(wus:List V),vs=[.ref rl,.ref wl]∧H rl=some (.lst rus)∧Al (jQ H) R rus∧H wl=some (.lst wus)∧Al (ky N H) W wus∧Bd R 1∧(∀r∈R,r.ok (L5 W))∧kn R≤9000000∧
 ∀(u:V)(t:T)(H':Hp),dq H H'→lq (W.map Prod.fst) R=[t]→ky (λl=>H l=none) H' (t,ik (W.map Prod.snd) R) u→Q u H'
def Kf(K:aA):TS:=(fI (fP (dM (eV zy [] E0 (dM (dN 0) (dM (dN 1) dW))) (dM (eV Ih [] E0 (dM (dN 0) (dM (dN 1) dW))) dW))))
theorem MF(h:tU vs H Q E):Kf K (gi Q) (start ["rows","written"] vs) H:=by obtain⟨N,rl,wl,R,rus,W,wus,rfl,hr,dr,hw,dw,bd,rok,hz,k⟩:=h;have hlen:=kQ rok;refine⟨N,rl,wl,R,rus,W,wus,rfl,hr,dr,hw,dw,bd,λr h=>Rw.ok_mono (λn z ⟨w,e,_⟩=>(aO.mp e).1) (rok r h),by lia,λv t H1 s1 hb dv=>?_⟩;refine⟨N,rl,wl,R,rus,W,wus,rfl,s1 _ _ hr,dr.mono λ_ _=>jQ.mono (dY s1),s1 _ _ hw,dw.mono λ_ _=>ky.mono s1,rok,hz,λl us H2 s2 n2 hl ds=>⟨fT,λp hp=>?_⟩⟩;have s3:=dR (o:=.tup [v,.ref l]) hp;exact k _ t _ ((s1.trans s2).trans s3) hb ⟨p,v,l,us,rfl,dO,dv.mono (dY (s2.trans s3)),s3 _ _ hl,ds.mono λ_ _=>kA.mono (dY s3),s1.free n2⟩
end S9
namespace S9
open PySem L2 SW
variable {K:aA}{vs:List V}{H:Hp}{Q:VK}{E:XK}{C D:Addr}
inductive mx:List (List Rw)→List (T×List kh)→Prop where
 | nil:mx [] []
 | snoc{rd:List (List Rw)}{W:List (T×List kh)}{R:List Rw}{t:T}:mx rd W→lq (W.map Prod.fst) R=[t]→mx (rd++[R]) (W++[(t,ik (W.map Prod.snd) R)])
theorem oB.front(h:oB (rd++[R])):oB rd∧Bd R 1∧∀r∈R,r.ok (Rf rd):=by
 refine⟨λi R' e=>?_,?_⟩
 ·have hi:i<rd.length:=(aO.mp e).1;have:=h i R' (by rw[ax hi];exact e);rw[dH (bO hi)]at this;exact this
 ·have:=h rd.length R (by simp);rw[cg]at this;exact this
structure Bo(rd:List (List Rw))(W:List (T×List kh)):Prop where
 len:W.length=rd.length
 all:∀(i:Nat)(R:List Rw)(w:T×List kh),rd[i]?=some R→W[i]?=some w→w.1.size≤kn R∧w.2.length≤kn R∧¬oA w.1
theorem Bo.rf(f:Bo rd W):∀n z,Rf rd n z→L5 W n z∧Mq (W.map Prod.fst) n z∧L4 (W.map Prod.snd) n z:=by
 rintro n z ⟨R,e,h⟩;have hn:n<rd.length:=(aO.mp e).1;have hn2:n<W.length:=by rw[f.len];exact hn
 have eW:W[n]?=some W[n]:=aJ hn2;generalize W[n]=w at eW;obtain⟨h1,h2,h3⟩:=f.all n R w e eW;exact⟨⟨w,eW,by lia⟩,⟨w.1,by rw[ae,eW];rfl,by lia,h3⟩,⟨w.2,by rw[ae,eW];rfl,by lia⟩⟩
theorem Bo.one(f:Bo rd W)(bd:Bd R 1)(ok:∀r∈R,r.ok (Rf rd))(hb:lq (W.map Prod.fst) R=[t]):t.size≤kn R∧(ik (W.map Prod.snd) R).length≤kn R∧¬oA t:=by obtain⟨h1,h2⟩:=uc bd (λr h=>Rw.ok_mono (λn z q=>(f.rf n z q).2.1) (ok r h));rw[hb]at h1 h2;refine⟨?_,mR λr h=>Rw.ok_mono (λn z q=>(f.rf n z q).2.2) (ok r h),h2 t (.head _)⟩;rw[gM,jA]at h1;lia
theorem qa(h:mx rd W):oB rd→Bo rd W:=by
 induction h with
 | nil=>exact λ_=>⟨rfl,λi R w e=>by simp at e⟩
 | @snoc rd W R t _ hb ih=>
  intro ok;obtain⟨ok1,bd,ro⟩:=ok.front;have f:=ih ok1;have g:=f.one bd ro hb;refine⟨by simp[f.len],λi R' w e1 e2=>?_⟩;rcases bM i rd.length with hi|hi
  ·rw[ax hi]at e1;rw[ax (by rw[f.len];exact hi)]at e2;exact f.all i R' w e1 e2
  ·have hi2:i<(rd++[R]).length:=(aO.mp e1).1;rw[aD,bB]at hi2;have ei:i=rd.length:=by lia
   subst ei;rw[bL (aC _),bN]at e1;rw[←f.len,bL (aC _),bN]at e2;cases e1;cases e2;exact g
def xt(C D:Addr):Sp:=λvs H Q _=>∃(op dx b:Addr)(v1 v2 v3 u:V)(b1 b2 b3 t:T)(F:Nat),vs=[.ref op,.ref b,u,.int (F:Int)]∧H op=some (.ins C dx [])∧H b=some (.lst [v1,v2,v3])∧rH H v1 v2 v3 b1 b2 b3∧gG H t u∧(∀y∈[t,b1,b2,b3],y.size≤900∧y.names.length<64)∧
 ∀(A:Ad)(ws:List Str)(H':Hp),A.op=op→fh C D A b1 b2 b3 F (λa=>a≠A.yl) 0 ws [] H'→H A.lp=none→H A.tk=none→H A.yl=none→(∀x,x∈ws↔∃y∈[t,b1,b2,b3],y.out x)→ws.length≤252→Ex [op] H H'→Q .non H'
def Ku(K:aA)(a_Opening a_FreshWords:Addr):TS:=(de (tw K (dN 0) (eV jZ [] E0 (dM (dN 1) dW)) "stamps") (de (tw K (dN 0) (tQ a_FreshWords (tm a_FreshWords) [] E0 (dM (eV tq [] E0 (dM (dN 1) (dM (dN 2) dW))) dW)) "lets") (de (tw K (dN 0) (dN 3) "fuel") (de (tw K (dN 0) (tC (.int 0)) "many") (tw K (dN 0) (fX dW) "ready")))))
def KQ(sd:Addr):List (Str×V):=[("stamps",.ref sd)]
def Ea(sd lp:Addr):List (Str×V):=[("stamps",.ref sd),("lets",.ref lp)]
def EZ(sd lp:Addr)(F:Nat):List (Str×V):=[("stamps",.ref sd),("lets",.ref lp),("fuel",.int (F:Int))]
def EY(sd lp:Addr)(F:Nat):List (Str×V):=[("stamps",.ref sd),("lets",.ref lp),("fuel",.int (F:Int)),("many",.int 0)]
theorem NC:iF "lets" (.ref lp) (KQ sd)=Ea sd lp:=by simp only[KQ,Ea,iF,if_neg (show ¬("stamps":Str)="lets" by decide+kernel)]
theorem NB{sd lp:Addr}{F:Nat}:iF "fuel" (.int (F:Int)) (Ea sd lp)=EZ sd lp F:=by simp only[Ea,EZ,iF,if_neg (show ¬("stamps":Str)="fuel" by decide+kernel),if_neg (show ¬("lets":Str)="fuel" by decide+kernel)]
theorem NA:iF "many" (.int 0) (EZ sd lp F)=EY sd lp F:=by simp only[EZ,EY,iF,if_neg Mi,if_neg Mj,if_neg Ml]
theorem M9:iF "ready" (.ref yl) (EY sd lp F)=lT sd lp F 0 yl:=by simp only[iF,EY,lT,if_neg (show ¬("stamps":Str)="ready" by decide+kernel),if_neg (show ¬("lets":Str)="ready" by decide+kernel),if_neg (show ¬("fuel":Str)="ready" by decide+kernel),if_neg (show ¬("many":Str)="ready" by decide+kernel)];rfl
theorem MR(ro:RO K C)(h:xt C D vs H Q E):Ku K C D (gi Q) (start ["self","book","piece","fuel"] vs) H:=by
 obtain⟨op,dx,b,v1,v2,v3,u,b1,b2,b3,t,F,rfl,ho,hb,bk,hd,hs,k⟩:=h;refine⟨b,v1,v2,v3,_,_,_,rfl,hb,bk.g,λsd H1 s1 n1 g1=>?_⟩;refine⟨op,C,dx,[],rfl,s1 _ _ ho,ro.cl,ro.nS,by show 0<1000;decide,?_⟩;have nos:op≠sd:=dZ ho n1;have o2:(upd H1 op (.ins C dx (iF "stamps" (.ref sd) []))) op=some (.ins C dx (KQ sd)):=dO;have e2:Ex [op] H1 (upd H1 op (.ins C dx (iF "stamps" (.ref sd) []))):=Ex.upd (by simp);generalize upd H1 op (.ins C dx (iF "stamps" (.ref sd) []))=H2 at o2 e2⊢;have e02:Ex [op] H H2:=(Ex.same s1).trans e2;have bk2:rH H2 v1 v2 v3 b1 b2 b3:=by
  have st:∀{w:Str}{ps:List Str}{g:G}{v:V},jj H w ps g v→jj H2 w ps g v:=λ{w ps g v} ⟨p,l,x,e,h1,h2,h3⟩=>
   ⟨p,l,x,e,e02 _ _ (λq=>by rw[aG]at q;subst q;rw[ho]at h1;cases h1) h1,e02 _ _ (λq=>by rw[aG]at q;subst q;rw[ho]at h2;cases h2) h2,h3.mono λa xs z=>e02 _ _ (λq=>by rw[aG]at q;subst q;rw[ho]at z;cases z) z⟩
  exact⟨st bk.a,st bk.b,st bk.c⟩
 have hb2:H2 b=some (.lst [v1,v2,v3]):=e02 _ _ (λq=>by rw[aG]at q;subst q;rw[ho]at hb;cases hb) hb;have hd2:gG H2 t u:=hd.mono λa xs z=>e02 _ _ (λq=>by rw[aG]at q;subst q;rw[ho]at z;cases z) z;have g2:H2 sd=some (.dK (yO v1 v2 v3)):=e2 _ _ (λq=>nos (aG.mp q).symm) g1;refine⟨b,v1,v2,v3,u,b1,b2,b3,t,rfl,hb2,bk2,hd2,hs,λl us H3 s3 n3 g3 hlen hus=>?_⟩;intro lp lx hlp hlx nlx;have nlx':lp≠lx:=nlx.symm;have s4:dq H3 (upd (upd H3 lx (.own lp)) lp (.ins D lx [])):=λc o z=>by rw[db (dZ z hlp),db (dZ z hlx)];exact z
 have p4:(upd (upd H3 lx (.own lp)) lp (.ins D lx [])) lp=some (.ins D lx []):=dO;generalize upd (upd H3 lx (.own lp)) lp (.ins D lx [])=H4 at s4 p4⊢;refine⟨lp,lx,l,us,rfl,p4,s4 _ _ g3,by lia,λtk ws H5 ntk hws hwl e5 fw5=>⟨rfl,?_⟩⟩;have s24:=s3.trans s4;have nlp2:H2 lp=none:=s3.free hlp;have ntk2:H2 tk=none:=s24.free ntk;have e25:Ex [lp] H2 H5:=λc o n z=>e5 _ _ (λq=>n (by rw[q];simp)) (s24 _ _ z);have nop:op≠lp:=dZ o2 nlp2;have o5:H5 op=some (.ins C dx (KQ sd)):=e25 _ _ (by simp[nop]) o2;refine⟨op,C,dx,_,rfl,o5,ro.cl,ro.nL,by show 1<1000;decide,?_⟩;rw[NC];have o6:(upd H5 op (.ins C dx (Ea sd lp))) op=some (.ins C dx (Ea sd lp)):=dO;have e6:Ex [op] H5 (upd H5 op (.ins C dx (Ea sd lp))):=Ex.upd (by simp);generalize upd H5 op (.ins C dx (Ea sd lp))=H6 at o6 e6⊢;refine⟨op,C,dx,_,rfl,o6,ro.cl,ro.nF,by show 2<1000;decide,?_⟩;rw[NB];have o7:(upd H6 op (.ins C dx (EZ sd lp F))) op=some (.ins C dx (EZ sd lp F)):=dO;have e7:Ex [op] H6 (upd H6 op (.ins C dx (EZ sd lp F))):=Ex.upd (by simp);generalize upd H6 op (.ins C dx (EZ sd lp F))=H7 at o7 e7⊢;refine⟨op,C,dx,_,rfl,o7,ro.cl,ro.nM,by show 3<1000;decide,?_⟩;rw[NA];have o8:(upd H7 op (.ins C dx (EY sd lp F))) op=some (.ins C dx (EY sd lp F)):=dO;have e8:Ex [op] H7 (upd H7 op (.ins C dx (EY sd lp F))):=Ex.upd (by simp);generalize upd H7 op (.ins C dx (EY sd lp F))=H8 at o8 e8⊢;refine⟨fT,λyl hyl=>⟨op,C,dx,_,rfl,(dR hyl) _ _ o8,ro.cl,ro.nR,by show 4<1000;decide,?_⟩⟩;have s9:dq H8 (upd H8 yl (.lst [])):=dR hyl;have y9:(upd H8 yl (.lst [])) yl=some (.lst []):=dO;have o9:=s9 _ _ o8;generalize upd H8 yl (.lst [])=H9 at s9 y9 o9⊢;rw[M9];have e10:Ex [op] H9 (upd H9 op (.ins C dx (lT sd lp F 0 yl))):=Ex.upd (by simp);have o10:(upd H9 op (.ins C dx (lT sd lp F 0 yl))) op=some (.ins C dx (lT sd lp F 0 yl)):=dO;have noy:yl≠op:=(dZ o8 hyl).symm;have y10:(upd H9 op (.ins C dx (lT sd lp F 0 yl))) yl=some (.lst []):=e10 _ _ (by simp[noy]) y9;generalize upd H9 op (.ins C dx (lT sd lp F 0 yl))=H10 at e10 o10 y10⊢;have e510:Ex [op] H5 H10:=e6.trans (e7.trans (e8.trans ((Ex.same s9).trans e10)));have e210:Ex [op,lp] H2 H10:=(e25.more (by simp)).trans (e510.more (by simp));have ns:∀a o,H2 a=some o→a≠op→H10 a=some o:=λa o z n=>e210 _ _ (by simp[n,dZ z nlp2]) z;have nyl2:H2 yl=none:=by
  cases q:H2 yl with
  | none=>rfl
  | some o=>have:=ns yl o q noy;rw[y10]at this;cases this;have h5:H5 yl=some (.lst []):=e25 _ _ (by simp[dZ q nlp2]) q;have h8:H8 yl=some (.lst []):=(e6.trans (e7.trans e8)) _ _ (by simp[noy]) h5;rw[h8]at hyl;cases hyl
 have nOf:∀a,H2 a=none→H a=none:=λa z=>by
  cases q:H a with
  | none=>rfl
  | some o=>
   by_cases ha:a=op
   ·subst ha;rw[o2]at z;cases z
   ·have:=e02 a o (by simp[ha]) q;rw[this]at z;cases z
 have stn:∀{w:Str}{ps:List Str}{tt:T}{v:V},jj H w ps (gT tt) v→Bt (λa=>a≠yl) H10 w ps tt v:=λ{w ps tt v} ⟨p,l,x,e,h1,h2,h3⟩=>by have toH:∀a o,H a=some o→a≠op→H10 a=some o:=λa o z n=>ns a o (e02 _ _ (by simp[n]) z) n;refine⟨p,l,x,e,toH _ _ h1 (fY h1 ho (by intro z;cases z)),toH _ _ h2 (fY h2 ho (by intro z;cases z)),dZ h2 (nOf _ nyl2),(gx h3).mono λa xs z=>toH _ _ z (fY z ho (by intro z;cases z))⟩
 have ntp:tk≠op:=(dZ o2 ntk2).symm;refine k ⟨op,dx,sd,lp,lx,tk,yl,v1,v2,v3⟩ ws H10 rfl ⟨o10,⟨0,⟨e510 _ _ (by simp[nop.symm]) fw5.ob,e510 _ _ (by simp[ntp]) fw5.dk⟩,?_⟩,ns _ _ g2 nos.symm,dZ g2 ntk2,stn bk.a,stn bk.b,stn bk.c,[],y10,.nil⟩ (nOf _ nlp2) (nOf _ ntk2) (nOf _ nyl2) (λx=>by rw[hws,hus]) (by lia) ?_
 ·have:=xG 0 ws;lia
 ·refine e02.trans (Ex.new (l':=[op,lp]) (λa ha=>?_) e210);simp only[aB,aF,or_false]at ha⊢;rcases ha with z|rfl
  ·exact .inl z
  ·exact .inr nlp2
end S9
namespace S9
open PySem L2 SW
variable {K:aA}{vs:List V}{H:Hp}{Q:VK}{E:XK}{C D Nst:Addr}
structure xQ(b1 b2 b3 t:T)(F:Nat):Prop where
 bk:tF b1 b2 b3
 bt:BT t [] 0
 sm:∀ws:List Str,ws.length≤252→(∀x,x∈ws↔∃y∈[t,b1,b2,b3],y.out x)→∀st,tI b1 b2 b3 F (st0 t ws) st→st.k≤F→Bm st
structure xO(b1 b2 b3 t:T)(F:Nat)(ws:List Str)(st:oV)(W:List (T×List kh))(tt:T):Prop where
 ws_:∀x,x∈ws↔∃y∈[t,b1,b2,b3],y.out x
 wl:ws.length≤252
 rch:tI b1 b2 b3 F (st0 t ws) st
 emp:st.S=[]
 few:st.k≤F
 wr:mx st.rd W
 out:lq (W.map Prod.fst) st.R=[tt]
def Co:TS:=(fI (fP (dM (tC (.str "more")) dW)))
def Cm(K:aA):TS:=(fW (eI (eA oQ (kC K (dN 3) "many") (dN 2))) Co fN)
def Ck(K:aA):TS:=(fQ (kB K "list" eh (dN 5) (dM (eV tU [] E0 (dM (dN 6) (dM (dN 5) dW))) dW)))
theorem vJ(ro:RO K C)(hb:H b=some (.lst [v1,v2,v3]))(B:Bk H v1 v2 v3 (gT b1) (gT b2) (gT b3))(dg:DG H (gT t) u)(ask:xQ b1 b2 b3 t F)
  (kM:∀(p:Addr)(ws:List Str)(st:oV)(H':Hp),dq H H'→H' p=some (.tup [.str "more"])→(∀x,x∈ws↔∃y∈[t,b1,b2,b3],y.out x)→tI b1 b2 b3 F (st0 t ws) st→F<st.k→Q (.ref p) H')
  (kD:∀(p l:Addr)(x:V)(us:List V)(ws:List Str)(st:oV)(W:List (T×List kh))(tt:T)(H':Hp),dq H H'→H' p=some (.tup [.str "done",x,.ref l,.int (st.k:Int)])→xO b1 b2 b3 t F ws st W tt→gG H' tt x→H' l=some (.lst us)→Al (kA H') (ik (W.map Prod.snd) st.R) us→Q (.ref p) H'):
  (de (eG (tQ C (xt C D) [] E0 (dM (dN 0) (dM (dN 1) (dM (dN 2) dW)))) (dX 3)) (de (eG (jm C "rows_of" (lN C D) [] E0 (dN 3) (dM (fP (dM (dN 1) (dM (tC (.str "")) (dM (fP dW) (dM io dW))))) dW)) (dX 4)) (de (Cm K) (de (eG (fX dW) (dX 5)) (de (iY (i7 K (kC K (dN 3) "ready")) (dX 6) (Ck K)) (de (eG (eV tU [] E0 (dM (dN 4) (dM (dN 5) dW))) (dX 7)) (fI (fP (dM (tC (.str "done")) (dM (eA (eE K) (dN 7) (tC (.int 0))) (dM (eA (eE K) (dN 7) (tC (.int 1))) (dM (kC K (dN 3) "many") dW)))))))))))) (gi Q) [some (.ref b),some u,some (.int (F:Int)),none,none,none,none,none] H:=by
 have hz:∀y∈[t,b1,b2,b3],y.size≤900∧y.names.length<64:=λy hy=>by
  simp only[aB,aF,or_false]at hy;rcases hy with rfl|rfl|rfl|rfl
  ·exact ask.bt.2.2.2
  ·exact ask.bk.a.2.2.2
  ·exact ask.bk.b.2.2.2
  ·exact ask.bk.c.2.2.2
 refine ?_;intro op dx hop hdx ndx;have s2:dq H (upd (upd H dx (.own op)) op (.ins C dx [])):=λc o z=>by rw[db (dZ z hop),db (dZ z hdx)];exact z
 have p2:(upd (upd H dx (.own op)) op (.ins C dx [])) op=some (.ins C dx []):=dO;generalize upd (upd H dx (.own op)) op (.ins C dx [])=H2 at s2 p2⊢;have s12:=s2;have BT2:rH H2 v1 v2 v3 b1 b2 b3:=⟨B.a.mono s2,B.b.mono s2,B.c.mono s2⟩;have du:gG H2 t u:=(gx dg).mono (dY s12);have nopH:H op=none:=hop;refine⟨op,dx,b,v1,v2,v3,u,b1,b2,b3,t,F,rfl,p2,s12 _ _ hb,BT2,du,hz,λA ws H3 eop O3 nlp ntk nyl hws hwl e3=>⟨rfl,?_⟩⟩;have s13:dq H H3:=λc o z=>e3 _ _ (λq=>by rw[aG]at q;subst q;rw[nopH]at z;cases z) (s12 _ _ z);have du3:gG H3 t u:=(gx dg).mono (dY s13);refine⟨A.op,A.dx,_,by rw[eop],O3.ob,md,fT,eu λte H4 hte s4 g4=>?_⟩;intro nd hnd;have s5:=dR (o:=.dK []) hnd;have g5:(upd H4 nd (.dK [])) nd=some (.dK []):=dO;generalize upd H4 nd (.dK [])=H5 at s5 g5⊢;refine⟨fT,eu λsp H6 hsp s6 g6=>?_⟩;have s36:=s4.trans (s5.trans s6);have O6:=O3.same s36;have ndt:nd≠A.tk:=by obtain⟨n,f,_⟩:=O3.fw;exact(dZ (s4 _ _ f.dk) hnd).symm
 have spm:iM (Nk A.tk) H6 ⟨t,"",[],.nil⟩ (.ref sp):=⟨sp,u,te,nd,[],rfl,g6,du3.mono (dY s36),s6 _ _ (s5 _ _ g4),ndt,s6 _ _ g5,rfl⟩;have no6:xN A (λa=>a≠A.yl) H6:=⟨λa z=>z,λa z=>by
  obtain⟨us,y,_⟩:=O6.yl;exact(dZ y z).symm⟩
 refine⟨A,b1,b2,b3,F,_,ws,t,.ref sp,by rw[eop];rfl,O6,no6,spm,ask.bk,ask.bt,λst r k=>ask.sm ws hwl hws st r k,λst rl rus H7 rch hst nrl hrl dr O7 e7=>?_⟩;have s17:dq H H7:=λc o z=>e7 _ _ (λq=>by
  simp only[aB,aF,or_false]at q;have z2:=s12 _ _ z;rcases q with rfl|rfl|rfl|rfl
  ·rw[eop,nopH]at z;cases z
  ·rw[nlp]at z2;cases z2
  ·rw[ntk]at z2;cases z2
  ·rw[nyl]at z2;cases z2) ((s13.trans s36) _ _ z)
 have ob7:=O7.ob;rw[eop]at ob7;refine⟨op,C,A.dx,_,_,rfl,ob7,ro.cl,ro.nM,lU,_,rfl,?_⟩;by_cases hk:F<st.k
 ·refine fi (decide_eq_true (by lia)) ?_;refine⟨fT,λp hp=>?_⟩;have s8:=dR (o:=.tup [.str "more"]) hp;exact kM p ws st _ (s17.trans s8) dO hws rch hk
 ·refine eM (decide_eq_false (by lia)) ?_;have hk':st.k≤F:=by lia
  have hS:=hst hk';have I:=og ask.bk rch (kO (ws:=ws) ask.bt);have SM:=ask.sm ws hwl hws st rch hk';have rdok:=I.rk hk';have bdR:Bd st.R 1:=by have:=I.pn;rw[hS]at this;have:=EV this .nil;rwa[aZ]at this
  have hwl0:=hwl;refine⟨fT,eu λwl H8 hwl s8 w8=>?_⟩;obtain⟨us,y7,dus⟩:=O7.yl;have hul:=dus.length;have hdl:=I.dl;have hfl:=SM.k;refine⟨op,C,A.dx,_,_,rfl,s8 _ _ ob7,ro.cl,ro.nR,qC,A.yl,rfl,⟨_,eK.of (s8 _ _ y7)⟩,?_⟩;refine gw (K:=K) (a:=A.yl) (xs:=us) (λi σ H'=>∃(j6:Option V)(W:List (T×List kh))(wus:List V),σ=[some (.ref b),some u,some (.int (F:Int)),some (.ref op),some (.ref rl),some (.ref wl),j6,none]∧dq H7 H'∧H' wl=some (.lst wus)∧Al (ky (λl=>l≠wl) H') W wus∧mx (st.rd.take i) W)
   ⟨none,[],[],rfl,s8,w8,.nil,.nil⟩ (λi σ H' _ hP=>?_) ?_ ?_
  ·obtain⟨_,_,_,_,s,_⟩:=hP;exact eK.of (s _ _ y7)
  ·rintro i y σ H9 hi ⟨j6,W,wus,rfl,s9,w9,dw9,wr9⟩;obtain⟨R,hR,l,rvs,rfl,_,hl,drl⟩:=dus.get hi;have hil:i<st.rd.length:=(aO.mp hR).1;have htk:st.rd.take (i+1)=st.rd.take i++[R]:=by rw[az,hR];rfl
   have rk2:oB (st.rd.take i++[R]):=by
    rw[←htk];intro j R' e;have hj:j<i+1:=by have:=(aO.mp e).1;rw[aj]at this;lia
    rw[cz hj]at e;rw[List.take_take,bq (by lia)];exact rdok j R' e
   obtain⟨rk1,bdr,okr⟩:=rk2.front;have fine:=qa wr9 rk1;have hwt:=SM.rd R (ac hR);have hWl:=fine.len;rw[aj]at hWl;have hwul:=dw9.length;refine⟨.inl ⟨rfl,_,eK.of w9⟩,_,l,wl,R,rvs,W,wus,rfl,s9 _ _ hl,drl.mono λ_ _=>jQ.mono (dY s9),w9,dw9,bdr,λr h=>Rw.ok_mono (λn z q=>(fine.rf n z q).1) (okr r h),by lia,λv tt H10 s10 hb10 wat=>?_⟩;have w10:=s10 _ _ w9;refine⟨wl,_,_,rfl,rfl,w10,by rw[sizeLine_eq];lia,?_⟩;have wat2:ky (λl=>l≠wl) H10 (tt,ik (W.map Prod.snd) R) v:=wat.weak λl z=>(dZ w9 z).symm;refine⟨_,W++[(tt,ik (W.map Prod.snd) R)],wus++[v],rfl,eD (s9.trans s10) hwl,dO,((dw9.mono λ_ _=>ky.mono s10).mono λ_ _=>ky.put w10).append (.one (wat2.put w10)),?_⟩;rw[htk];exact .snoc wr9 hb10
  ·rintro σ H9 ⟨j6,W,wus,rfl,s9,w9,dw9,wr9⟩;rw[hul,bJ]at wr9;have fine:=qa wr9 rdok;have hwt:=SM.wt;refine⟨_,rl,wl,st.R,rus,W,wus,rfl,s9 _ _ hrl,dr.mono λ_ _=>jQ.mono (dY s9),w9,dw9,bdR,λr h=>Rw.ok_mono (λn z q=>(fine.rf n z q).1) (I.ro r h),by lia,λv tt H10 s10 hb10 wat=>?_⟩;obtain⟨pq,x,l,us2,rfl,h1,h2,h3,h4,_⟩:=wat;have ob10:=s10 _ _ (s9 _ _ ob7);refine⟨eC.of h1,dU (j:=0) rfl,eC.of h1,dU (j:=1) rfl,op,C,A.dx,_,_,rfl,ob10,ro.cl,ro.nM,lU,fT,λp hp=>?_⟩;have s11:=dR (o:=.tup [.str "done",x,.ref l,.int (st.k:Int)]) hp;exact kD p l x us2 ws st W tt _ (((s17.trans s9).trans s10).trans s11) dO ⟨hws,hwl0,rch,hS,hk',wr9,hb10⟩ (h2.mono (dY s11)) (s11 _ _ h3) (h4.mono λ_ _=>kA.mono (dY s11))
end S9
namespace S9
open PySem L2 SW
variable {K:aA}{vs:List V}{H:Hp}{Q:VK}{E:XK}{N:Addr}
def pL:Sp:=λvs H Q _=>∃d v1 v2 v3 g1 g2 g3 w ks u,vs=[.ref d,u]∧H d=some (.dK (yO v1 v2 v3))∧Bk H v1 v2 v3 g1 g2 g3∧DG H (.word "stamp" w ks) u∧kb w=some ks.length∧∀H',dq H H'→Q .non H'
def nE:Sp:=λvs H Q _=>∃d v1 v2 v3 g1 g2 g3 g u,vs=[.ref d,u]∧H d=some (.dK (yO v1 v2 v3))∧Bk H v1 v2 v3 g1 g2 g3∧DG H g u∧g.size≤5000∧(∀x,vp x g→IK x)∧∀H',dq H H'→Q .non H'
def pR:Sp:=λvs H Q _=>∃b v1 v2 v3 g1 g2 g3 g u,vs=[.ref b,u]∧H b=some (.lst [v1,v2,v3])∧Bk H v1 v2 v3 g1 g2 g3∧DG H g u∧(∀y∈[g,g1,g2,g3],y.size≤5000∧∀x,vp x y→IK x)∧∀H',dq H H'→Q .non H'
def C6(K:aA):TS:=uy
def C5(K:aA):TS:=(fW (tB (oY (dN 2) (dN 0))) (C6 K) fN)
def C4(K:aA):TS:=uy
def C3(K:aA):TS:=(fW (eI (eA qk (dN 3) (dN 4))) (C4 K) fN)
def IY(K:aA):TS:=(de (eG (eA (eE K) (dN 1) (tC (.int 1))) (dX 2)) (de (C5 K) (de (eG (gm (gh K) (dM (eV iU [] E0 (dM (dN 1) dW)) dW)) (dX 3)) (de (eG (gm (gh K) (dM (eA (eE K) (qd (dN 0) (dN 2)) (tC (.int 1))) dW)) (dX 4)) (C3 K)))))
def C8(K:aA):TS:=(fQ (eV pL [] E0 (dM (dN 0) (dM (dN 2) dW))))
def C7(K:aA):TS:=(fW (eI (eA kX (eA (eE K) (dN 2) (tC (.int 0))) (tC (.str "stamp")))) (C8 K) fN)
def IZ(K:aA):TS:=(iY (i7 K (eV kU [] E0 (dM (dN 1) dW))) (dX 2) (C7 K))
def wI(K:aA):TS:=(fQ (eV nE [] E0 (dM (dN 2) (dM (eA (eE K) (dN 3) (tC (.int 2))) dW))))
def Ia(K:aA):TS:=(de (eG (eV jZ [] E0 (dM (dN 0) dW)) (dX 2)) (de (fQ (eV nE [] E0 (dM (dN 2) (dM (dN 1) dW)))) (iY (i7 K (dN 0)) (dX 3) (wI K))))
theorem LN(h:pL vs H Q E):IY K (gi Q) (start ["stamps","use","word","handed","places"] vs) H:=by
 obtain⟨d,v1,v2,v3,g1,g2,g3,w,ks,u,rfl,hd,B,dg,hf,k⟩:=h;obtain⟨p,us,rfl,_,hp,dk⟩:=dg.open;refine⟨eC.of hp,dU (j:=1) rfl,?_⟩;have dgt:=iN.k (k:=.inr w) hd;refine⟨d,_,rfl,dgt,_,rfl,?_⟩;rcases Jk B w with⟨e,f⟩|⟨v,ps,g,e,st,f,hps⟩
 ·rw[f]at hf;cases hf
 ·rw[e]at dgt⊢;refine eM rfl ?_;refine⟨_,.ref p,rfl,dg,λq us' H1 s1 hq dk1=>?_⟩;have hl:us'.length=ks.length:=dk1.1;refine⟨q,us',rfl,.inr (eC.of hq),?_⟩;obtain⟨pp,l,x,rfl,hpp,hl1,_⟩:=st.mono s1;have dgt1:=iN.k (k:=.inr w) (s1 _ _ hd);rw[e]at dgt1;refine⟨d,_,rfl,dgt1,eC.of hpp,rfl,l,_,rfl,.inl (eK.of hl1),?_⟩;refine⟨rfl,_,rfl,?_⟩;rw[f]at hf;have:=Option.some.inj hf;rw[aa];exact eM (by simp[hl,this]) (k _ s1)
theorem LO(h:nE vs H Q E):IZ K (gi Q) (start ["stamps","piece","current"] vs) H:=by
 obtain⟨d,v1,v2,v3,g1,g2,g3,g,u,rfl,hd,B,dg,hsz,hF,k⟩:=h;refine⟨g,u,rfl,dg,hsz,λl us L H1 s1 n1 h1 od dL=>⟨l,rfl,⟨_,eK.of h1⟩,?_⟩⟩;have hlen:=dL.1;refine gw (K:=K) (a:=l) (xs:=us) (λi σ H'=>∃j2,σ=[some (.ref d),some u,j2]∧dq H1 H') ⟨none,rfl,dq.refl _⟩ (λi σ H' _ hP=>?_) ?_ ?_
 ·obtain⟨_,_,s⟩:=hP;exact eK.of (s _ _ h1)
 ·rintro i y σ H' hi ⟨j2,rfl,s⟩;have hil:i<us.length:=(aO.mp hi).1;have hg:L[i]?=some L[i]:=aJ (by omega);generalize L[i]=c at hg;have hcm:vp c g:=(od.one c).mp (ac hg);have dc:=(dL.2 i c y hg hi).mono (dY s);have dc0:=dc;obtain⟨p,ks,rfl,ok,hp,dk⟩:=dc.open;have h0:qR (c.hd++ks) 0=some (.str c.kind):=by cases c<;>exact dU (j:=0) rfl
  refine⟨eC.of hp,h0,rfl,_,rfl,?_⟩;by_cases hk:c.kind="stamp"
  ·refine fi (by rw[hk];decide+kernel) ?_;cases c with
   | leaf k x=>
    have hk:k="stamp":=hk;subst hk;rcases ok with z|z
    ·exact absurd z (by decide+kernel)
    ·exact absurd z (by decide+kernel)
   | plain k x=>exact absurd hk ok.2.2.2
   | word k w kk=>have hk:k="stamp":=hk;subst hk;have sS:=s1.trans s;exact⟨d,v1,v2,v3,g1,g2,g3,w,kk,_,rfl,sS _ _ hd,B.mono sS,dc0,hF _ hcm rfl,λH2 s2=>⟨_,rfl,s.trans s2⟩⟩
  ·exact eM (nk hk) ⟨_,rfl,s⟩
 ·rintro σ H' ⟨j2,rfl,s⟩;exact k _ (s1.trans s)
theorem LP(h:pR vs H Q E):Ia K (gi Q) (start ["book","piece","stamps","stamp"] vs) H:=by
 obtain⟨b,v1,v2,v3,g1,g2,g3,g,u,rfl,hb,B,dg,hsz,k⟩:=h;refine⟨b,v1,v2,v3,g1,g2,g3,rfl,hb,B,λd H1 s1 n1 hd=>?_⟩;have hg:=hsz g (by simp);refine⟨d,v1,v2,v3,g1,g2,g3,g,u,rfl,hd,B.mono s1,dg.mono (dY s1),hg.1,hg.2,λH2 s2=>?_⟩;have s12:=s1.trans s2;refine⟨b,rfl,⟨_,eK.of (s12 _ _ hb)⟩,?_⟩;refine gw (K:=K) (a:=b) (xs:=[v1,v2,v3]) (λi σ H'=>∃j3,σ=[some (.ref b),some u,some (.ref d),j3]∧dq H2 H') ⟨none,rfl,dq.refl _⟩ (λi σ H' _ hP=>?_) ?_ ?_
 ·obtain⟨_,_,s⟩:=hP;exact eK.of (s _ _ (s12 _ _ hb))
 ·rintro i y σ H' hi ⟨j3,rfl,s⟩;have s3:=s12.trans s;have B3:=B.mono s3;have go:∀(w:Str)(ps:List Str)(gg:G),jj H' w ps gg y→gg∈[g1,g2,g3]→∀D:iz,(∀σ H',(∃j3,σ=[some (.ref b),some u,some (.ref d),j3]∧dq H2 H')→D.nx σ H')→dX 3 y [some (.ref b),some u,some (.ref d),j3] H' λσ2 H2=>wI K D σ2 H2:=by intro w ps gg st hm D hD;obtain⟨p,l,x,rfl,hp,_,dx⟩:=st;have hg:=hsz gg (bC _ hm);exact⟨eC.of hp,rfl,d,v1,v2,v3,g1,g2,g3,gg,x,rfl,(s2.trans s) _ _ hd,B3,dx,hg.1,hg.2,λH4 s4=>hD _ _ ⟨_,rfl,s.trans s4⟩⟩
  match i,hi,go with
  | 0,hi,go=>cases hi;exact go _ _ _ B3.a (by simp) _ (λ_ _ z=>z)
  | 1,hi,go=>cases hi;exact go _ _ _ B3.b (by simp) _ (λ_ _ z=>z)
  | 2,hi,go=>cases hi;exact go _ _ _ B3.c (by simp) _ (λ_ _ z=>z)
  | n+3,hi,_=>simp at hi
 ·rintro σ H' ⟨j3,rfl,s⟩;exact k _ (s12.trans s)
end S9
namespace S9
open PySem L2 SW
variable {K:aA}{vs:List V}{H:Hp}{Q:VK}{E:XK}{C D Nst:Addr}
def pO(C D:Addr):Sp:=λvs H Q _=>∃(b:Addr)(v1 v2 v3 u:V)(t b1 b2 b3:T)(F:Nat),vs=[.ref b,u,.int (F:Int)]∧H b=some (.lst [v1,v2,v3])∧Bk H v1 v2 v3 (gT b1) (gT b2) (gT b3)∧DG H (gT t) u∧(∀y∈[gT t,gT b1,gT b2,gT b3],y.size≤5000∧∀x,vp x y→IK x)∧xQ b1 b2 b3 t F∧
  (∀(p:Addr)(ws:List Str)(st:oV)(H':Hp),dq H H'→H' p=some (.tup [.str "more"])→(∀x,x∈ws↔∃y∈[t,b1,b2,b3],y.out x)→tI b1 b2 b3 F (st0 t ws) st→F<st.k→Q (.ref p) H')∧
  (∀(p l:Addr)(x:V)(us:List V)(ws:List Str)(st:oV)(W:List (T×List kh))(tt:T)(H':Hp),dq H H'→H' p=some (.tup [.str "done",x,.ref l,.int (st.k:Int)])→xO b1 b2 b3 t F ws st W tt→gG H' tt x→H' l=some (.lst us)→Al (kA H') (ik (W.map Prod.snd) st.R) us→Q (.ref p) H')
def Cr(K:aA)(a_Opening a_FreshWords:Addr):TS:=(fI (fP (dM (tC (.str "more")) dW)))
def Cq(K:aA)(a_Opening a_FreshWords:Addr):TS:=(fW (eI (eA oQ (kC K (dN 3) "many") (dN 2))) (Cr K a_Opening a_FreshWords) fN)
def Cp(K:aA)(a_Opening a_FreshWords:Addr):TS:=(fQ (kB K "list" eh (dN 5) (dM (eV tU [] E0 (dM (dN 6) (dM (dN 5) dW))) dW)))
def IX(K:aA)(a_Opening a_FreshWords:Addr):TS:=(de (fQ (eV pR [] E0 (dM (dN 0) (dM (dN 1) dW)))) (de (eG (tQ a_Opening (xt a_Opening a_FreshWords) [] E0 (dM (dN 0) (dM (dN 1) (dM (dN 2) dW)))) (dX 3)) (de (eG (jm a_Opening "rows_of" (lN a_Opening a_FreshWords) [] E0 (dN 3) (dM (fP (dM (dN 1) (dM (tC (.str "")) (dM (fP dW) (dM io dW))))) dW)) (dX 4)) (de (Cq K a_Opening a_FreshWords) (de (eG (fX dW) (dX 5)) (de (iY (i7 K (kC K (dN 3) "ready")) (dX 6) (Cp K a_Opening a_FreshWords)) (de (eG (eV tU [] E0 (dM (dN 4) (dM (dN 5) dW))) (dX 7)) (fI (fP (dM (tC (.str "done")) (dM (eA (eE K) (dN 7) (tC (.int 0))) (dM (eA (eE K) (dN 7) (tC (.int 1))) (dM (kC K (dN 3) "many") dW)))))))))))))
theorem LL(ro:RO K C)(h:pO C D vs H Q E):IX K C D (gi Q) (start ["book","piece","fuel","opening","rows","written","earlier","left"] vs) H:=by obtain⟨b,v1,v2,v3,u,t,b1,b2,b3,F,rfl,hb,B,dg,hsz,ask,kM,kD⟩:=h;exact⟨b,v1,v2,v3,_,_,_,_,u,rfl,hb,B,dg,hsz,λH1 s1=>vJ ro (s1 _ _ hb) (B.mono s1) (dg.mono (dY s1)) ask (λp ws st H' s=>kM p ws st H' (s1.trans s)) (λp l x us ws st W tt H' s=>kD p l x us ws st W tt H' (s1.trans s))⟩
end S9
namespace SW
open PySem L2
def S0:Str→Nat→Prop:=λ_ _=>False
def jp:Sp:=λvs H Q _=>∃n:Int,vs=[.int n]∧Q (.bl true) H
end SW
namespace S1
open PySem L2 SW
def Kh(K:aA):TS:=(fI (zv (gm (j0 K) (dM (dN 0) (dM (tC (.ty "int")) dW))) (EI (gm (j0 K) (dM (dN 0) (dM (tC (.ty "bool")) dW))))))
end S1
namespace L2
open PySem PySem.Spec PyProof.Rows
end L2
namespace S1
open PySem L2 SW
def MD(K:aA):Sp:=λvs H Q _=>∃(a:Addr)(ns:List Int),vs=[.ref a]∧eK K H a (ns.map V.int)∧ns.length≤63∧∀H',Q (.bl true) H'
end S1
namespace S1
open PySem L2 SW
variable {K:aA}{N:Addr}{vs:List V}{H:Hp}{Q:VK}{E:XK}
end S1
namespace SW
open PySem L2
end SW
namespace S1
open PySem L2 SW
variable {K:aA}{N:Addr}{vs:List V}{H:Hp}{Q:VK}{E:XK}
end S1
namespace SW
open PySem L2
end SW
namespace S1
open PySem L2 SW
variable {K:aA}{N:Addr}{vs:List V}{H:Hp}{Q:VK}{E:XK}
end S1
namespace SW
open PySem L2
variable {K:aA}
theorem qF:PySem.W.kitOne K (.type "int") (.type "int")=some true:=by kernel_rfl
theorem lG:PySem.W.kitOne K (.type "int") (.type "bool")=some false:=by kernel_rfl
theorem vY:PySem.W.kitOne K (.type "int") (.type "str")=some false:=by kernel_rfl
theorem fU:PySem.W.kitOne K (.type "str") (.type "str")=some true:=by kernel_rfl
theorem kZ:PySem.W.kitOne K (.type "list") (.type "list")=some true:=by kernel_rfl
theorem lg:PySem.W.kitOne K (.type "list") (.type "tuple")=some false:=by kernel_rfl
theorem HV:PySem.W.kitAny K (.type "int") [.type "list",.type "tuple"]=some false:=by kernel_rfl
theorem HU:PySem.W.kitAny K (.type "str") [.type "list",.type "tuple"]=some false:=by kernel_rfl
theorem Dr:PySem.W.kitAny K (.type "list") [.type "list",.type "tuple"]=some true:=by kernel_rfl
end SW
namespace S1
open PySem L2 SW
variable {K:aA}{N:Addr}{vs:List V}{H:Hp}{Q:VK}{E:XK}
theorem MH(h:jp vs H Q E):Kh K (gi Q) (start ["_law_found"] vs) H:=by obtain⟨n,rfl,k⟩:=h;refine⟨_,_,_,_,rfl,.int n,qF,_,rfl,mf ?_⟩;exact⟨_,_,_,_,rfl,.int n,lG,_,rfl,k⟩
end S1
namespace SW
open PySem L2
end SW
namespace S1
open PySem L2 SW
variable {K:aA}{N:Addr}{vs:List V}{H:Hp}{Q:VK}{E:XK}
end S1
namespace SW
open PySem L2
end SW
namespace S1
open PySem L2 SW
variable {K:aA}{N:Addr}{vs:List V}{H:Hp}{Q:VK}{E:XK}
end S1
namespace SW
open PySem L2
def uj(H H':Hp):Prop:=∀(d:Addr)(kvs:List (fE×V)),H d=some (.dK kvs)→H' d=some (.dK kvs)
theorem lH(h:H l=some (.lst ys)):uj H (upd H l o):=λb xs e=>by rw[db (fY e h (by intro z;cases z))];exact e
theorem gZ(s:dq H H'):uj H H':=λb _ h=>s b _ h
section
variable {H₀ H:Hp}{st nu q:Addr}{fs:List Fr}{us:List V}{ns ns':List Int}{o:HO}{f:Fr}{v z:V}
end
end SW
namespace S1
open PySem L2 SW
variable {K:aA}{N:Addr}{vs:List V}{H H₀:Hp}{Q:VK}{E:XK}
end S1
namespace S1
open PySem L2 SW
variable {K:aA}{N:Addr}{vs:List V}{H H₀:Hp}{Q:VK}{E:XK}
end S1
namespace SW
open PySem L2
end SW
namespace S1
open PySem L2 SW
variable {K:aA}{N:Addr}{vs:List V}{H:Hp}{Q:VK}{E:XK}
end S1
namespace SW
open PySem L2
theorem fC:PySem.W.kitOne K (.type "tuple") (.type "tuple")=some true:=by kernel_rfl
def eY:List (fE×V):=[(.inr "number",.int 2),(.inr "name",.int 2),(.inr "sum",.int 3),(.inr "less",.int 3),(.inr "choose",.int 4),(.inr "let",.int 4)]
def kE:Sp:=λvs H Q _=>∃(t:T)(v:V),vs=[v]∧gG H t v∧t.size≤5000000∧∀H',dq H H'→Q (.bl true) H'
end SW
namespace S10
open PySem L2 SW
def Fk(K:aA):TS:=(fI (tC (.bl false)))
def zi(K:aA):TS:=(fW (tG (ko (tB (gm (j0 K) (dM (dN 2) (dM (tC (.ty "tuple")) dW))))) (tG (eI (eA yD (gm (gh K) (dM (dN 2) dW)) (tC (.int 2)))) (ko (tB (gm (j0 K) (dM (eA (eE K) (dN 2) (tC (.int 0))) (dM (tC (.ty "str")) dW))))))) (Fk K) fN)
def Fj(K:aA):TS:=(fI (tC (.bl false)))
def zh(K:aA):TS:=(fW (kq (eI (eA qk (pF (dN 3) (eA (eE K) (dN 2) (tC (.int 0))) (tC (.int 0))) (gm (gh K) (dM (dN 2) dW)))) (eI (eA qk (eA (eE K) (dN 2) (tC (.int 0))) (tC (.str "stamp"))))) (Fj K) fN)
def Fi(K:aA):TS:=(fI (tC (.bl false)))
def Fh(K:aA):TS:=(fW (ko (tB (eV jp [] E0 (dM (eA (eE K) (dN 2) (tC (.int 1))) dW)))) (Fi K) fN)
def Fg(K:aA):TS:=(fI (tC (.bl false)))
def Ff(K:aA):TS:=(fW (kq (eI (eA (IF K false) (eA (eE K) (dN 2) (tC (.int 0))) (fX (dM (tC (.str "name")) (dM (tC (.str "let")) (dM (tC (.str "stamp")) dW)))))) (ko (tB (gm (j0 K) (dM (eA (eE K) (dN 2) (tC (.int 1))) (dM (tC (.ty "str")) dW)))))) (Fg K) fN)
def zg(K:aA):TS:=(fW (eI (eA kX (eA (eE K) (dN 2) (tC (.int 0))) (tC (.str "number")))) (Fh K) (Ff K))
def Cb(K:aA):TS:=(de (eG (lz K "list" mF (dN 1)) (dX 2)) (de (zi K) (de (eG (zr [((tC (.str "number")),(tC (.int 2))),((tC (.str "name")),(tC (.int 2))),((tC (.str "sum")),(tC (.int 3))),((tC (.str "less")),(tC (.int 3))),((tC (.str "choose")),(tC (.int 4))),((tC (.str "let")),(tC (.int 4)))]) (dX 3)) (de (zh K) (de (zg K) (eG (eA mG (dN 1) (eV gt [] E0 (dM (dN 2) dW))) (dX 1)))))))
def Kz(K:aA):TS:=(de (eG (fX (dM (dN 0) dW)) (dX 1)) (de (hX (eI (eA (kW K) (dN 1) (fX dW))) (Cb K)) (fI (tC (.bl true)))))
variable {K:aA}{vs:List V}{H:Hp}{Q:VK}{E:XK}
theorem vH(hd:gG H t v)
  (k:∀H',dq H H'→∀j3,(eG (eA mG (dN 1) (eV gt [] E0 (dM (dN 2) dW))) (dX 1)) D [some v0,some (.ref tl),some v,j3] H'):
  (de (zi K) (de (eG (zr [((tC (.str "number")),(tC (.int 2))),((tC (.str "name")),(tC (.int 2))),((tC (.str "sum")),(tC (.int 3))),((tC (.str "less")),(tC (.int 3))),((tC (.str "choose")),(tC (.int 4))),((tC (.str "let")),(tC (.int 4)))]) (dX 3)) (de (zh K) (de (zg K) (eG (eA mG (dN 1) (eV gt [] E0 (dM (dN 2) dW))) (dX 1)))))) D [some v0,some (.ref tl),some v,j3] H:=by
 cases t with
 | num n=>obtain⟨p,rfl,hp⟩:=id hd;refine⟨_,_,_,_,rfl,.tup hp,fC,_,rfl,fF ?_⟩;refine⟨p,_,rfl,.inr (eC.of hp),_,rfl,eM rfl ?_⟩;refine⟨eC.of hp,rfl,_,_,_,_,rfl,.str _,fU,_,rfl,fF ?_⟩;refine λpd hpd=>⟨dO,eY,rfl,by decide,?_⟩;have s1:dq H (upd (upd H pd (.dK [])) pd (.dK (eg [] eY))):=eD (dR hpd) hpd;have g1:(upd (upd H pd (.dK [])) pd (.dK (eg [] eY))) pd=some (.dK (eg [] eY)):=dO;generalize upd (upd H pd (.dK [])) pd (.dK (eg [] eY))=H1 at s1 g1⊢;have hp1:=s1 _ _ hp;have dg:=iN.k (k:=.inr ("number":Str)) g1;rw[show fS (eg [] eY) (.inr ("number":Str):fE)=some (.int 2)from by decide+kernel]at dg;refine⟨pd,rfl,.inl ⟨_,.inl g1⟩,eC.of hp1,rfl,_,dg,p,_,rfl,.inr (eC.of hp1),rfl,_,rfl,?_⟩;refine eM rfl (fF ?_);refine⟨eC.of hp1,rfl,rfl,_,rfl,?_⟩;refine fi (by decide+kernel) ?_;refine⟨eC.of hp1,rfl,n,rfl,_,rfl,fF ?_⟩;exact k H1 s1 _
 | name x=>obtain⟨p,rfl,hp⟩:=id hd;refine⟨_,_,_,_,rfl,.tup hp,fC,_,rfl,fF ?_⟩;refine⟨p,_,rfl,.inr (eC.of hp),_,rfl,eM rfl ?_⟩;refine⟨eC.of hp,rfl,_,_,_,_,rfl,.str _,fU,_,rfl,fF ?_⟩;refine λpd hpd=>⟨dO,eY,rfl,by decide,?_⟩;have s1:dq H (upd (upd H pd (.dK [])) pd (.dK (eg [] eY))):=eD (dR hpd) hpd;have g1:(upd (upd H pd (.dK [])) pd (.dK (eg [] eY))) pd=some (.dK (eg [] eY)):=dO;generalize upd (upd H pd (.dK [])) pd (.dK (eg [] eY))=H1 at s1 g1⊢;have hp1:=s1 _ _ hp;have dg:=iN.k (k:=.inr ("name":Str)) g1;rw[show fS (eg [] eY) (.inr ("name":Str):fE)=some (.int 2)from by decide+kernel]at dg;refine⟨pd,rfl,.inl ⟨_,.inl g1⟩,eC.of hp1,rfl,_,dg,p,_,rfl,.inr (eC.of hp1),rfl,_,rfl,?_⟩;refine eM rfl (fF ?_);refine⟨eC.of hp1,rfl,rfl,_,rfl,?_⟩;refine eM (by decide+kernel) ?_;refine⟨eC.of hp1,rfl,fT,eu λl H2 hl s2 g2=>?_⟩;refine⟨l,_,rfl,.inl (eK.of g2),rfl,rfl,_,rfl,?_⟩;refine fi (by decide+kernel) ?_;refine⟨eC.of (s2 _ _ hp1),rfl,_,_,_,_,rfl,.str _,fU,_,rfl,fF ?_⟩;exact k H2 (s1.trans s2) _
 | sum a b=>obtain⟨p,x,y,rfl,hp,d1,d2⟩:=id hd;refine⟨_,_,_,_,rfl,.tup hp,fC,_,rfl,fF ?_⟩;refine⟨p,_,rfl,.inr (eC.of hp),_,rfl,eM rfl ?_⟩;refine⟨eC.of hp,rfl,_,_,_,_,rfl,.str _,fU,_,rfl,fF ?_⟩;refine λpd hpd=>⟨dO,eY,rfl,by decide,?_⟩;have s1:dq H (upd (upd H pd (.dK [])) pd (.dK (eg [] eY))):=eD (dR hpd) hpd;have g1:(upd (upd H pd (.dK [])) pd (.dK (eg [] eY))) pd=some (.dK (eg [] eY)):=dO;generalize upd (upd H pd (.dK [])) pd (.dK (eg [] eY))=H1 at s1 g1⊢;have hp1:=s1 _ _ hp;have dg:=iN.k (k:=.inr ("sum":Str)) g1;rw[show fS (eg [] eY) (.inr ("sum":Str):fE)=some (.int 3)from by decide+kernel]at dg;refine⟨pd,rfl,.inl ⟨_,.inl g1⟩,eC.of hp1,rfl,_,dg,p,_,rfl,.inr (eC.of hp1),rfl,_,rfl,?_⟩;refine eM rfl (fF ?_);refine⟨eC.of hp1,rfl,rfl,_,rfl,?_⟩;refine eM (by decide+kernel) ?_;refine⟨eC.of hp1,rfl,fT,eu λl H2 hl s2 g2=>?_⟩;refine⟨l,_,rfl,.inl (eK.of g2),rfl,rfl,_,rfl,?_⟩;refine eM (by decide+kernel) (fF ?_);exact k H2 (s1.trans s2) _
 | less a b=>obtain⟨p,x,y,rfl,hp,d1,d2⟩:=id hd;refine⟨_,_,_,_,rfl,.tup hp,fC,_,rfl,fF ?_⟩;refine⟨p,_,rfl,.inr (eC.of hp),_,rfl,eM rfl ?_⟩;refine⟨eC.of hp,rfl,_,_,_,_,rfl,.str _,fU,_,rfl,fF ?_⟩;refine λpd hpd=>⟨dO,eY,rfl,by decide,?_⟩;have s1:dq H (upd (upd H pd (.dK [])) pd (.dK (eg [] eY))):=eD (dR hpd) hpd;have g1:(upd (upd H pd (.dK [])) pd (.dK (eg [] eY))) pd=some (.dK (eg [] eY)):=dO;generalize upd (upd H pd (.dK [])) pd (.dK (eg [] eY))=H1 at s1 g1⊢;have hp1:=s1 _ _ hp;have dg:=iN.k (k:=.inr ("less":Str)) g1;rw[show fS (eg [] eY) (.inr ("less":Str):fE)=some (.int 3)from by decide+kernel]at dg;refine⟨pd,rfl,.inl ⟨_,.inl g1⟩,eC.of hp1,rfl,_,dg,p,_,rfl,.inr (eC.of hp1),rfl,_,rfl,?_⟩;refine eM rfl (fF ?_);refine⟨eC.of hp1,rfl,rfl,_,rfl,?_⟩;refine eM (by decide+kernel) ?_;refine⟨eC.of hp1,rfl,fT,eu λl H2 hl s2 g2=>?_⟩;refine⟨l,_,rfl,.inl (eK.of g2),rfl,rfl,_,rfl,?_⟩;refine eM (by decide+kernel) (fF ?_);exact k H2 (s1.trans s2) _
 | cho a b c=>obtain⟨p,x,y,z,rfl,hp,d1,d2,d3⟩:=id hd;refine⟨_,_,_,_,rfl,.tup hp,fC,_,rfl,fF ?_⟩;refine⟨p,_,rfl,.inr (eC.of hp),_,rfl,eM rfl ?_⟩;refine⟨eC.of hp,rfl,_,_,_,_,rfl,.str _,fU,_,rfl,fF ?_⟩;refine λpd hpd=>⟨dO,eY,rfl,by decide,?_⟩;have s1:dq H (upd (upd H pd (.dK [])) pd (.dK (eg [] eY))):=eD (dR hpd) hpd;have g1:(upd (upd H pd (.dK [])) pd (.dK (eg [] eY))) pd=some (.dK (eg [] eY)):=dO;generalize upd (upd H pd (.dK [])) pd (.dK (eg [] eY))=H1 at s1 g1⊢;have hp1:=s1 _ _ hp;have dg:=iN.k (k:=.inr ("choose":Str)) g1;rw[show fS (eg [] eY) (.inr ("choose":Str):fE)=some (.int 4)from by decide+kernel]at dg;refine⟨pd,rfl,.inl ⟨_,.inl g1⟩,eC.of hp1,rfl,_,dg,p,_,rfl,.inr (eC.of hp1),rfl,_,rfl,?_⟩;refine eM rfl (fF ?_);refine⟨eC.of hp1,rfl,rfl,_,rfl,?_⟩;refine eM (by decide+kernel) ?_;refine⟨eC.of hp1,rfl,fT,eu λl H2 hl s2 g2=>?_⟩;refine⟨l,_,rfl,.inl (eK.of g2),rfl,rfl,_,rfl,?_⟩;refine eM (by decide+kernel) (fF ?_);exact k H2 (s1.trans s2) _
 | lt w a b=>obtain⟨p,x,y,rfl,hp,d1,d2⟩:=id hd;refine⟨_,_,_,_,rfl,.tup hp,fC,_,rfl,fF ?_⟩;refine⟨p,_,rfl,.inr (eC.of hp),_,rfl,eM rfl ?_⟩;refine⟨eC.of hp,rfl,_,_,_,_,rfl,.str _,fU,_,rfl,fF ?_⟩;refine λpd hpd=>⟨dO,eY,rfl,by decide,?_⟩;have s1:dq H (upd (upd H pd (.dK [])) pd (.dK (eg [] eY))):=eD (dR hpd) hpd;have g1:(upd (upd H pd (.dK [])) pd (.dK (eg [] eY))) pd=some (.dK (eg [] eY)):=dO;generalize upd (upd H pd (.dK [])) pd (.dK (eg [] eY))=H1 at s1 g1⊢;have hp1:=s1 _ _ hp;have dg:=iN.k (k:=.inr ("let":Str)) g1;rw[show fS (eg [] eY) (.inr ("let":Str):fE)=some (.int 4)from by decide+kernel]at dg;refine⟨pd,rfl,.inl ⟨_,.inl g1⟩,eC.of hp1,rfl,_,dg,p,_,rfl,.inr (eC.of hp1),rfl,_,rfl,?_⟩;refine eM rfl (fF ?_);refine⟨eC.of hp1,rfl,rfl,_,rfl,?_⟩;refine eM (by decide+kernel) ?_;refine⟨eC.of hp1,rfl,fT,eu λl H2 hl s2 g2=>?_⟩;refine⟨l,_,rfl,.inl (eK.of g2),rfl,rfl,_,rfl,?_⟩;refine fi (by decide+kernel) ?_;refine⟨eC.of (s2 _ _ hp1),rfl,_,_,_,_,rfl,.str _,fU,_,rfl,fF ?_⟩;exact k H2 (s1.trans s2) _
 | st0 w=>obtain⟨p,rfl,hp⟩:=id hd;refine⟨_,_,_,_,rfl,.tup hp,fC,_,rfl,fF ?_⟩;refine⟨p,_,rfl,.inr (eC.of hp),_,rfl,eM rfl ?_⟩;refine⟨eC.of hp,rfl,_,_,_,_,rfl,.str _,fU,_,rfl,fF ?_⟩;refine λpd hpd=>⟨dO,eY,rfl,by decide,?_⟩;have s1:dq H (upd (upd H pd (.dK [])) pd (.dK (eg [] eY))):=eD (dR hpd) hpd;have g1:(upd (upd H pd (.dK [])) pd (.dK (eg [] eY))) pd=some (.dK (eg [] eY)):=dO;generalize upd (upd H pd (.dK [])) pd (.dK (eg [] eY))=H1 at s1 g1⊢;have hp1:=s1 _ _ hp;have dg:=iN.k (k:=.inr ("stamp":Str)) g1;rw[show fS (eg [] eY) (.inr ("stamp":Str):fE)=none from by decide+kernel]at dg;refine⟨pd,rfl,.inl ⟨_,.inl g1⟩,eC.of hp1,rfl,_,dg,p,_,rfl,.inr (eC.of hp1),rfl,_,rfl,?_⟩;refine fi rfl ?_;refine⟨eC.of hp1,rfl,rfl,_,rfl,eM (by decide+kernel) ?_⟩;refine⟨eC.of hp1,rfl,rfl,_,rfl,?_⟩;refine eM (by decide+kernel) ?_;refine⟨eC.of hp1,rfl,fT,eu λl H2 hl s2 g2=>?_⟩;refine⟨l,_,rfl,.inl (eK.of g2),rfl,rfl,_,rfl,?_⟩;refine fi (by decide+kernel) ?_;refine⟨eC.of (s2 _ _ hp1),rfl,_,_,_,_,rfl,.str _,fU,_,rfl,fF ?_⟩;exact k H2 (s1.trans s2) _
 | st1 w a=>obtain⟨p,x,rfl,hp,d1⟩:=id hd;refine⟨_,_,_,_,rfl,.tup hp,fC,_,rfl,fF ?_⟩;refine⟨p,_,rfl,.inr (eC.of hp),_,rfl,eM rfl ?_⟩;refine⟨eC.of hp,rfl,_,_,_,_,rfl,.str _,fU,_,rfl,fF ?_⟩;refine λpd hpd=>⟨dO,eY,rfl,by decide,?_⟩;have s1:dq H (upd (upd H pd (.dK [])) pd (.dK (eg [] eY))):=eD (dR hpd) hpd;have g1:(upd (upd H pd (.dK [])) pd (.dK (eg [] eY))) pd=some (.dK (eg [] eY)):=dO;generalize upd (upd H pd (.dK [])) pd (.dK (eg [] eY))=H1 at s1 g1⊢;have hp1:=s1 _ _ hp;have dg:=iN.k (k:=.inr ("stamp":Str)) g1;rw[show fS (eg [] eY) (.inr ("stamp":Str):fE)=none from by decide+kernel]at dg;refine⟨pd,rfl,.inl ⟨_,.inl g1⟩,eC.of hp1,rfl,_,dg,p,_,rfl,.inr (eC.of hp1),rfl,_,rfl,?_⟩;refine fi rfl ?_;refine⟨eC.of hp1,rfl,rfl,_,rfl,eM (by decide+kernel) ?_⟩;refine⟨eC.of hp1,rfl,rfl,_,rfl,?_⟩;refine eM (by decide+kernel) ?_;refine⟨eC.of hp1,rfl,fT,eu λl H2 hl s2 g2=>?_⟩;refine⟨l,_,rfl,.inl (eK.of g2),rfl,rfl,_,rfl,?_⟩;refine fi (by decide+kernel) ?_;refine⟨eC.of (s2 _ _ hp1),rfl,_,_,_,_,rfl,.str _,fU,_,rfl,fF ?_⟩;exact k H2 (s1.trans s2) _
 | st2 w a b=>obtain⟨p,x,y,rfl,hp,d1,d2⟩:=id hd;refine⟨_,_,_,_,rfl,.tup hp,fC,_,rfl,fF ?_⟩;refine⟨p,_,rfl,.inr (eC.of hp),_,rfl,eM rfl ?_⟩;refine⟨eC.of hp,rfl,_,_,_,_,rfl,.str _,fU,_,rfl,fF ?_⟩;refine λpd hpd=>⟨dO,eY,rfl,by decide,?_⟩;have s1:dq H (upd (upd H pd (.dK [])) pd (.dK (eg [] eY))):=eD (dR hpd) hpd;have g1:(upd (upd H pd (.dK [])) pd (.dK (eg [] eY))) pd=some (.dK (eg [] eY)):=dO;generalize upd (upd H pd (.dK [])) pd (.dK (eg [] eY))=H1 at s1 g1⊢;have hp1:=s1 _ _ hp;have dg:=iN.k (k:=.inr ("stamp":Str)) g1;rw[show fS (eg [] eY) (.inr ("stamp":Str):fE)=none from by decide+kernel]at dg;refine⟨pd,rfl,.inl ⟨_,.inl g1⟩,eC.of hp1,rfl,_,dg,p,_,rfl,.inr (eC.of hp1),rfl,_,rfl,?_⟩;refine fi rfl ?_;refine⟨eC.of hp1,rfl,rfl,_,rfl,eM (by decide+kernel) ?_⟩;refine⟨eC.of hp1,rfl,rfl,_,rfl,?_⟩;refine eM (by decide+kernel) ?_;refine⟨eC.of hp1,rfl,fT,eu λl H2 hl s2 g2=>?_⟩;refine⟨l,_,rfl,.inl (eK.of g2),rfl,rfl,_,rfl,?_⟩;refine fi (by decide+kernel) ?_;refine⟨eC.of (s2 _ _ hp1),rfl,_,_,_,_,rfl,.str _,fU,_,rfl,fF ?_⟩;exact k H2 (s1.trans s2) _
structure IB(H₀ H:Hp)(tl:Addr)(us:List V)(ts:List T):Prop where
 same:dq H₀ H
 new:H₀ tl=none
 at_:H tl=some (.lst us)
 den:gU H ts us
 sz:fB ts≤5000000
theorem MW(h:kE vs H Q E):Kz K (gi Q) (start ["_law_found","_law_todo","_law_part","_law_sizes"] vs) H:=by
 obtain⟨t,v,rfl,hd,hs,k⟩:=h;refine⟨fT,eu λtl H1 htl s1 g1=>?_⟩;refine⟨λm σ H'=>∃tl us ts j2 j3,σ=[some v,some (.ref tl),j2,j3]∧IB H H' tl us ts∧m=fB ts,⟨_,tl,[v],[t],none,none,rfl,⟨s1,htl,g1,.cons (hd.mono (dY s1)) .nil,by rw[gM,jA];lia⟩,rfl⟩,?_⟩;clear s1 g1 htl;rintro m σ H2 ⟨tl,us,ts,j2,j3,rfl,A,rfl⟩;refine⟨fT,λe he=>?_⟩;have s3:=dR (o:=.lst []) he;have g3:(upd H2 e (.lst [])) e=some (.lst []):=dO;have A3:IB H (upd H2 e (.lst [])) tl us ts:=⟨A.same.trans s3,A.new,s3 _ _ A.at_,A.den.mono (dY s3),A.sz⟩;generalize upd H2 e (.lst [])=H3 at g3 A3⊢;refine⟨tl,e,us,rfl,rfl,eK.of A3.at_,eK.of g3,_,rfl,?_⟩;by_cases hv:us=[]
 ·subst hv;exact eM rfl (k _ A3.same)
 ·obtain⟨us,u,rfl⟩:=gD hv;refine fi (by simp) ?_;obtain⟨ts',t',rfl,d1,d2⟩:=A3.den.snoc;refine⟨λσ' H'=>∃m',m'<fB (ts'++[t'])∧∃tl us ts j2 j3,σ'=[some v,some (.ref tl),j2,j3]∧IB H H' tl us ts∧m'=fB ts,λ_ _ h=>h,?_⟩;refine⟨.inl ⟨rfl,_,eK.of A3.at_⟩,tl,_,_,rfl,rfl,A3.at_,jC,?_⟩;rw[iP];have t4:=fL (o:=.lst us) A3.at_;have s4:dq H (upd H3 tl (.lst us)):=eD A3.same A3.new;have g4:(upd H3 tl (.lst us)) tl=some (.lst us):=dO;have c1:=d1.mono t4;have c2:=d2.mono t4;generalize upd H3 tl (.lst us)=H4 at s4 g4 c1 c2⊢;refine vH c2 λH5 s5 j3=>?_;refine⟨t',u,rfl,c2.mono (dY s5),λl us2 H6 s6 n6 h6 d6=>?_⟩;have q1:=c1.length;have q2:=d6.length;have q3:=et ts';have q4:=et t'.kids;have hk:=jB t';have hz:=A3.sz;rw[fV,gM,jA]at hz;have s56:=s5.trans s6;refine⟨tl,l,us,us2,rfl,rfl,s56 _ _ g4,h6,by rw[sizeLine_eq];lia,λp7 hp7=>?_⟩;have s7:=dR (o:=.lst (us++us2)) hp7;have s47:=s56.trans s7;refine⟨fB (ts'++t'.kids),by rw[fV,fV,gM,jA];lia,p7,us++us2,ts'++t'.kids,_,_,rfl,⟨s4.trans s47,(s4.trans s56).free hp7,dO,(c1.mono (dY s47)).append (d6.mono (dY s7)),by rw[fV];lia⟩,rfl⟩
end S10
namespace SW
open PySem L2
end SW
namespace SW
open PySem L2
end SW
namespace S10
open PySem L2 SW
variable {K:aA}{vs:List V}{H H₀:Hp}{Q:VK}{E:XK}
end S10
namespace SW
open PySem L2
def gn(K:aA):Sp:=λvs H Q E=>∃S S',pP K S S' vs H Q E
def Mo:Str→Nat→Prop:=λx n=>x="st"∧n=2
def J3:Str→Nat→Prop:=λx n=>x="star"∧n=0
def J2:Str→Nat→Prop:=λx n=>(x="star"∧n=0)∨(x="sta"∧n=1)
def uk(H:Hp)(l:Addr)(b:Str×List Str×T)(u:V):Prop:=∃(q p:Addr)(v:V),u=.ref q∧H q=some (.tup [.str b.1,.ref p,v])∧H p=some (.lst (b.2.1.map V.str))∧p≠l∧gG H b.2.2 v
inductive KH(H:Hp)(l:Addr):List (Str×List Str×T)→List V→Prop where
 | nil:KH H l [] []
 | cons{b:Str×List Str×T}{u:V}{bs:List (Str×List Str×T)}{us:List V}:uk H l b u→KH H l bs us→KH H l (b::bs) (u::us)
theorem uk.mono(m:fH H H')(k:∀p xs,p≠l→H p=some (.lst xs)→H' p=some (.lst xs))(h:uk H l b u):uk H' l b u:=by obtain⟨q,p,v,e,h1,h2,h3,h4⟩:=h;exact⟨q,p,v,e,m _ _ h1,k _ _ h3 h2,h3,h4.mono m⟩
def pS(K:aA):Sp:=λvs H Q _=>∃(c:Addr)(wild:Bool)(ns:List Int),vs=[.ref c,.bl wild]∧eK K H c (ns.map V.int)∧ns.length≤100∧
 ∀(l:Addr)(us:List V)(t0 t1 t2:T)(H':Hp),dq H H'→H l=none→H' l=some (.lst us)→KH H' l [("star",[],t0),("sta",["sab"],t1),("st",["sab","tab"],t2)] us→WT S0 t0→WT J3 t1→WT J2 t2→t0.size≤4→t1.size≤8→t2.size≤10→t1.names.length≤4→t2.names.length≤5→Q (.ref l) H'
theorem lV(ns:List Int)(lo hi:Option Int):∃ms:List Int,ig (ns.map V.int) lo hi=ms.map V.int∧ms.length≤HT.kH ns.length ns.length hi-HT.kH ns.length 0 lo∧ms.length≤ns.length:=by
 refine⟨(ns.drop (HT.kH ns.length 0 lo)).take (HT.kH ns.length ns.length hi-HT.kH ns.length 0 lo),?_,?_,?_⟩
 ·unfold ig;rw[aa,List.map_take,List.map_drop]
 ·rw[aj];lia
 ·rw[aj,ai];lia
theorem lA(n d:Nat)(k:Nat):HT.kH n d (some (k:Int))=min k n:=HT.KL ..
end SW
namespace S9
open PySem L2 SW
def GW(K:aA):TS:=(eG (fX (dM (fP (dM (tC (.str "st")) (dM (tC (.int 2)) dW))) dW)) (Jt (dN 2) (tC (.int 0)) ES))
def GV(K:aA):TS:=(fW (tB (dN 1)) (GW K) fN)
def K7(K:aA):TS:=(de (eG (fX (dM (fX dW) (dM (fX (dM (fP (dM (tC (.str "star")) (dM (tC (.int 0)) dW))) dW)) (dM (fX (dM (fP (dM (tC (.str "star")) (dM (tC (.int 0)) dW))) (dM (fP (dM (tC (.str "sta")) (dM (tC (.int 1)) dW))) dW))) dW)))) (dX 2)) (de (GV K) (de (eG (fX (dM (fP (dM (tC (.str "star")) (dM (fX dW) (dM (eV (gn K) [] E0 (dM (nA (ja K) (dN 0) gI (gH (tC (.int 1)))) (dM (eA (gP K) (dN 2) (tC (.int 0))) dW))) dW)))) dW)) (dX 3)) (de (fQ (kB K "list" eh (dN 3) (dM (fP (dM (tC (.str "sta")) (dM (fX (dM (tC (.str "sab")) dW)) (dM (eV (gn K) [] E0 (dM (nA (ja K) (dN 0) (gH (tC (.int 1))) (gH (tC (.int 4)))) (dM (eA (gP K) (dN 2) (tC (.int 1))) dW))) dW)))) dW))) (de (fQ (kB K "list" eh (dN 3) (dM (fP (dM (tC (.str "st")) (dM (fX (dM (tC (.str "sab")) (dM (tC (.str "tab")) dW))) (dM (eV (gn K) [] E0 (dM (nA (ja K) (dN 0) (gH (tC (.int 4))) (gH (tC (.int 8)))) (dM (eA (gP K) (dN 2) (tC (.int 2))) dW))) dW)))) dW))) (fI (dN 3)))))))
def GU(K:aA):TS:=(fI (tC (.bl false)))
def GT(K:aA):TS:=(fW (tG (ko (tB (gm (j0 K) (dM (dN 0) (dM (tC (.ty "tuple")) dW))))) (tG (eI (eA qk (gm (gh K) (dM (dN 0) dW)) (tC (.int 4)))) (ko (tB (gm (j0 K) (dM (eA (eE K) (dN 0) (tC (.int 0))) (dM (tC (.ty "str")) dW))))))) (GU K) fN)
def GS(K:aA):TS:=(fI (tC (.bl false)))
def GR(K:aA):TS:=(fW (tG (eI (eA qk (eA (eE K) (dN 0) (tC (.int 0))) (tC (.str "done")))) (tG (ko (tB (eV jp [] E0 (dM (eA (eE K) (dN 0) (tC (.int 3))) dW)))) (ko (tB (gm (j0 K) (dM (eA (eE K) (dN 0) (tC (.int 2))) (dM (tC (.ty "list")) dW))))))) (GS K) fN)
def GQ(K:aA):TS:=(fI (tC (.bl false)))
def GP(K:aA):TS:=(fW (tG (ko (tB (gm (j0 K) (dM (dN 1) (dM (tC (.ty "tuple")) dW))))) (tG (eI (eA qk (gm (gh K) (dM (dN 1) dW)) (tC (.int 2)))) (ko (tB (gm (j0 K) (dM (eA (eE K) (dN 1) (tC (.int 0))) (dM (tC (.ty "str")) dW))))))) (GQ K) fN)
def GO(K:aA):TS:=(fI (tC (.bl false)))
def GN(K:aA):TS:=(fW (ko (tB (gm (j0 K) (dM (eA (eE K) (dN 1) (tC (.int 1))) (dM (tC (.ty "tuple")) dW))))) (GO K) fN)
def GM(K:aA):TS:=(fI (tC (.bl false)))
def C2(K:aA):TS:=(fW (ko (tB (eV jp [] E0 (dM (dN 2) dW)))) (GM K) fN)
def Cz(K:aA):TS:=(de (GP K) (de (GN K) (iY (HX K (eA (eE K) (dN 1) (tC (.int 1)))) (dX 2) (C2 K))))
def K6(K:aA):TS:=(de (GT K) (de (GR K) (de (iY (i7 K (eA (eE K) (dN 0) (tC (.int 2)))) (dX 1) (Cz K)) (fI (eV kE [] E0 (dM (eA (eE K) (dN 0) (tC (.int 1))) dW))))))
def K9(K:aA):TS:=(fI (Ig (i7 K (dN 0)) (fP (dM (eA (eE K) (dN 0) (tC (.int 0))) (dM (gm (sg K) (dM (eA (eE K) (dN 0) (tC (.int 1))) dW)) (dM (eA (eE K) (dN 0) (tC (.int 2))) dW)))) []))
variable {K:aA}{vs:List V}{H:Hp}{Q:VK}{E:XK}
theorem LM(h:gn K vs H Q E):SW.K4 K (gi Q) (start ["_law_cells","_law_stamps","_law_pile","_law_cell","_law_rest","_law_way","_law_word","_law_inner","_law_look","_law_name","_law_many","_law_made","_law_last"] vs) H:=by obtain⟨S,S',h⟩:=h;exact Gh h
theorem B8(t:T)(h:t.size≤2)(w:WT Mo t):WT S0 t:=by
 cases t with
 | num n=>exact w
 | name x=>exact w
 | sum a b=>have:=a.size_pos;have:=b.size_pos;simp only[T.size]at h;lia
 | less a b=>have:=a.size_pos;have:=b.size_pos;simp only[T.size]at h;lia
 | cho a b c=>have:=a.size_pos;have:=b.size_pos;simp only[T.size]at h;lia
 | lt x a b=>have:=a.size_pos;have:=b.size_pos;simp only[T.size]at h;lia
 | st0 x=>exact absurd w.2 (by decide)
 | st1 x a=>exact absurd w.1.2 (by decide)
 | st2 x a b=>have:=a.size_pos;have:=b.size_pos;simp only[T.size]at h;lia
theorem pZ{c low z0 l1 l2 a1 a2 a3:Addr}{ns:List Int}{xs0:List V}{Sx:Str→Nat→Prop}{j1:Option V}(hc:eK K H c (ns.map V.int))(hn:ns.length≤100)(hlow:H low=some (.lst [.ref z0,.ref l1,.ref l2]))(h0:H z0=some (.lst xs0))(hx0:xs0.length≤1000)(st0:jM Sx H xs0)(hS0:∀t:T,t.size≤2→WT Sx t→WT S0 t)
  (h1:H l1=some (.lst [.ref a1])) (e1:H a1=some (.tup [.str "star",.int 0])) (h2:H l2=some (.lst [.ref a2,.ref a3])) (e2:H a2=some (.tup [.str "star",.int 0])) (e3:H a3=some (.tup [.str "sta",.int 1]))
  (k:∀(l:Addr)(us:List V)(t0 t1 t2:T)(H':Hp),dq H H'→H l=none→H' l=some (.lst us)→KH H' l [("star",[],t0),("sta",["sab"],t1),("st",["sab","tab"],t2)] us→WT S0 t0→WT J3 t1→WT J2 t2→t0.size≤4→t1.size≤8→t2.size≤10→t1.names.length≤4→t2.names.length≤5→Q (.ref l) H'):
  (de (eG (fX (dM (fP (dM (tC (.str "star")) (dM (fX dW) (dM (eV (gn K) [] E0 (dM (nA (ja K) (dN 0) gI (gH (tC (.int 1)))) (dM (eA (gP K) (dN 2) (tC (.int 0))) dW))) dW)))) dW)) (dX 3)) (de (fQ (kB K "list" eh (dN 3) (dM (fP (dM (tC (.str "sta")) (dM (fX (dM (tC (.str "sab")) dW)) (dM (eV (gn K) [] E0 (dM (nA (ja K) (dN 0) (gH (tC (.int 1))) (gH (tC (.int 4)))) (dM (eA (gP K) (dN 2) (tC (.int 1))) dW))) dW)))) dW))) (de (fQ (kB K "list" eh (dN 3) (dM (fP (dM (tC (.str "st")) (dM (fX (dM (tC (.str "sab")) (dM (tC (.str "tab")) dW))) (dM (eV (gn K) [] E0 (dM (nA (ja K) (dN 0) (gH (tC (.int 4))) (gH (tC (.int 8)))) (dM (eA (gP K) (dN 2) (tC (.int 2))) dW))) dW)))) dW))) (fI (dN 3))))) (gi Q) [some (.ref c),j1,some (.ref low),none] H:=by
 refine⟨fT,eu λp0 H1 hp0 s1 g1=>?_⟩;obtain⟨m0,em0,q0,_⟩:=lV ns none (some 1);refine⟨_,rfl,c,_,rfl,s1.seq hc,λc0 hc0=>?_⟩;rw[em0];have s2:=dR (o:=.lst (m0.map V.int)) hc0;have g2:(upd H1 c0 (.lst (m0.map V.int))) c0=some (.lst (m0.map V.int)):=dO;generalize upd H1 c0 (.lst (m0.map V.int))=H2 at s2 g2⊢;have s12:=s1.trans s2;have q0:m0.length≤1:=by have e:HT.kH ns.length ns.length (some 1)=min 1 ns.length:=lA ns.length ns.length 1;rw[e]at q0;lia
 refine⟨eK.of (s12 _ _ hlow),dU (j:=0) rfl,?_⟩;refine⟨Sx,S0,c0,z0,m0,xs0,rfl,eK.of g2,by lia,s12 _ _ h0,hx0,λx hx=>?_,λt ht=>hS0 t (by lia),λt0 v0 H3 s3 d0 w0 z0' _=>?_⟩
 ·obtain⟨q,nm,m,r1,r2,r3⟩:=st0 x hx;exact⟨q,nm,m,r1,s12 _ _ r2,r3⟩
 have s13:=s12.trans s3;have gp0:=(s2.trans s3) _ _ g1;refine⟨fT,eu λb0 H4 hb0 s4 g4=>?_⟩;refine⟨fT,eu λl H5 hl s5 g5=>?_⟩;have s35:=s4.trans s5;have s15:=s13.trans s35;have nl:H l=none:=(s13.trans s4).free hl;have np0:p0≠l:=dZ (s4 _ _ gp0) hl;have B0:uk H5 l ("star",[],t0) (.ref b0):=⟨b0,p0,v0,rfl,s5 _ _ g4,s35 _ _ gp0,np0,d0.mono (dY s35)⟩;have nlow:low≠l:=dZ hlow nl;have keep:∀{Ha Hb:Hp}{us us':List V},Ha l=some (.lst us)→Hb=upd Ha l (.lst us')→∀p xs,p≠l→Ha p=some (.lst xs)→Hb p=some (.lst xs):=λ_ e p xs n h=>by subst e;rw[db n];exact h
 clear s1 g1 s2 g2 s12 s3 s13 gp0 s4 g4 s35 hp0 hc0 hb0 hl em0;refine⟨.inl ⟨rfl,_,eK.of g5⟩,fT,eu λp1 H6 hp1 s6 g6=>?_⟩;obtain⟨m1,em1,q1,_⟩:=lV ns (some 1) (some 4);refine⟨_,rfl,_,rfl,c,_,rfl,(s15.trans s6).seq hc,λc1 hc1=>?_⟩;rw[em1];have s7:=dR (o:=.lst (m1.map V.int)) hc1;have g7:(upd H6 c1 (.lst (m1.map V.int))) c1=some (.lst (m1.map V.int)):=dO;generalize upd H6 c1 (.lst (m1.map V.int))=H7 at s7 g7⊢;have s67:=s6.trans s7;have q1:m1.length≤3:=by have ea:HT.kH ns.length ns.length (some 4)=min 4 ns.length:=lA ns.length ns.length 4;have eb:HT.kH ns.length 0 (some 1)=min 1 ns.length:=lA ns.length 0 1;rw[ea,eb]at q1;lia
 have s17:=s15.trans s67;refine⟨eK.of (s17 _ _ hlow),dU (j:=1) rfl,?_⟩;refine⟨J3,J3,c1,l1,m1,_,rfl,eK.of g7,by lia,s17 _ _ h1,by simp,λx hx=>?_,λ_ _ z=>z,λt1 v1 H8 s8 d1 w1 z1' y1'=>?_⟩
 ·obtain rfl:x=.ref a1:=by simpa using hx
  exact⟨a1,"star",0,rfl,s17 _ _ e1,by decide,rfl,rfl⟩
 have s68:=s67.trans s8;refine⟨fT,eu λb1 H9 hb1 s9 g9=>?_⟩;have s69:=s68.trans s9;have at9:=s69 _ _ g5;have np1:p1≠l:=λz=>by subst z;rw[g5]at hp1;cases hp1
 refine⟨l,_,_,rfl,rfl,at9,by rw[sizeLine_eq];simp,?_⟩;have t10:=fL (o:=.lst ([.ref b0]++[.ref b1])) at9;have k10:=keep at9 (rfl:upd H9 l (.lst ([.ref b0]++[.ref b1]))=_);have s10:dq H (upd H9 l (.lst ([.ref b0]++[.ref b1]))):=eD (s15.trans s69) nl;have g10:(upd H9 l (.lst ([.ref b0]++[.ref b1]))) l=some (.lst ([.ref b0]++[.ref b1])):=dO;have B0':uk (upd H9 l (.lst ([.ref b0]++[.ref b1]))) l ("star",[],t0) (.ref b0):=(B0.mono (dY s69) λp xs _ h=>s69 _ _ h).mono t10 k10;have B1:uk (upd H9 l (.lst ([.ref b0]++[.ref b1]))) l ("sta",["sab"],t1) (.ref b1):=⟨b1,p1,v1,rfl,t10 _ _ g9,k10 _ _ np1 (((s7.trans s8).trans s9) _ _ g6),np1,(d1.mono (dY s9)).mono t10⟩;generalize upd H9 l (.lst ([.ref b0]++[.ref b1]))=G at t10 k10 s10 g10 B0' B1⊢;clear s6 g6 s7 g7 s67 s8 s68 s9 g9 s69 at9 hp1 hc1 hb1 em1 B0 s17;refine⟨.inl ⟨rfl,_,eK.of g10⟩,fT,eu λp2 H6 hp2 s6 g6=>?_⟩;obtain⟨m2,em2,q2,_⟩:=lV ns (some 4) (some 8);refine⟨_,rfl,_,rfl,c,_,rfl,(s10.trans s6).seq hc,λc2 hc2=>?_⟩;rw[em2];have s7:=dR (o:=.lst (m2.map V.int)) hc2;have g7:(upd H6 c2 (.lst (m2.map V.int))) c2=some (.lst (m2.map V.int)):=dO;generalize upd H6 c2 (.lst (m2.map V.int))=H7 at s7 g7⊢;have s67:=s6.trans s7;have q2:m2.length≤4:=by have ea:HT.kH ns.length ns.length (some 8)=min 8 ns.length:=lA ns.length ns.length 8;have eb:HT.kH ns.length 0 (some 4)=min 4 ns.length:=lA ns.length 0 4;rw[ea,eb]at q2;lia
 have s17:=s10.trans s67;refine⟨eK.of (s17 _ _ hlow),dU (j:=2) rfl,?_⟩;refine⟨J2,J2,c2,l2,m2,_,rfl,eK.of g7,by lia,s17 _ _ h2,by simp,λx hx=>?_,λ_ _ z=>z,λt2 v2 H8 s8 d2 w2 z2' y2'=>?_⟩
 ·simp only[aB,aF,or_false]at hx;rcases hx with rfl|rfl
  ·exact⟨a2,"star",0,rfl,s17 _ _ e2,by decide,.inl ⟨rfl,rfl⟩⟩
  ·exact⟨a3,"sta",1,rfl,s17 _ _ e3,by decide,.inr ⟨rfl,rfl⟩⟩
 have s68:=s67.trans s8;refine⟨fT,eu λb2 H9 hb2 s9 g9=>?_⟩;have s69:=s68.trans s9;have at9:=s69 _ _ g10;have np2:p2≠l:=λz=>by subst z;rw[g10]at hp2;cases hp2
 refine⟨l,_,_,rfl,rfl,at9,by rw[sizeLine_eq];simp,?_⟩;have t10:=fL (o:=.lst ([.ref b0]++[.ref b1]++[.ref b2])) at9;have k10:=keep at9 (rfl:upd H9 l (.lst ([.ref b0]++[.ref b1]++[.ref b2]))=_);refine(k l [.ref b0,.ref b1,.ref b2] t0 t1 t2 _ (eD (s10.trans s69) nl) nl dO (.cons ((B0'.mono (dY s69) λp xs _ h=>s69 _ _ h).mono t10 k10) (.cons ((B1.mono (dY s69) λp xs _ h=>s69 _ _ h).mono t10 k10) (.cons ⟨b2,p2,v2,rfl,t10 _ _ g9,k10 _ _ np2 (((s7.trans s8).trans s9) _ _ g6),np2,(d2.mono (dY s9)).mono t10⟩ .nil))) w0 w1 w2 (by lia) (by lia) (by lia) (by lia) (by lia))
theorem Mc(h:pS K vs H Q E):K7 K (gi Q) (start ["_law_cells","_law_wild","_law_low","_law_book"] vs) H:=by
 obtain⟨c,wild,ns,rfl,hc,hn,k⟩:=h;refine⟨fT,eu λl0 H0 hl0 s0 g0=>?_⟩;refine⟨fT,eu λa1 H1 ha1 s1 g1=>?_⟩;refine⟨fT,eu λl1 H2 hl1 s2 g2=>?_⟩;refine⟨fT,eu λa2 H3 ha2 s3 g3=>?_⟩;refine⟨fT,eu λa3 H4 ha3 s4 g4=>?_⟩;refine⟨fT,eu λl2 H5 hl2 s5 g5=>?_⟩;refine⟨fT,eu λlow H6 hlow s6 g6=>?_⟩;have u5:=s5.trans s6;have u4:=s4.trans u5;have u3:=s3.trans u4;have u2:=s2.trans u3;have u1:=s1.trans u2;have u0:=s0.trans u1;have nlow:H low=none:=(s0.trans (s1.trans (s2.trans (s3.trans (s4.trans s5))))).free hlow;refine⟨_,rfl,?_⟩;cases wild with
 | false=>refine fF ?_;exact pZ (Sx:=S0) (u0.seq hc) hn g6 (u1 _ _ g0) (by simp) (λx hx=>by cases hx) (λ_ _ z=>z) (u3 _ _ g2) (u2 _ _ g1) (s6 _ _ g5) (u4 _ _ g3) (u5 _ _ g4) λl us t0 t1 t2 H' s n h b w0 w1 w2=>k l us t0 t1 t2 H' (u0.trans s) (u0.free n) h b w0 w1 w2
 | true=>
  refine mf ?_;refine⟨fT,eu λb H7 hb s7 g7=>?_⟩;refine⟨fT,eu λlw H8 hlw s8 g8=>?_⟩;have v8:=s7.trans s8;have e8:=v8 _ _ g6;refine⟨low,_,0,0,rfl,rfl,e8,rfl,?_⟩;have t9:=fL (o:=.lst [.ref lw,.ref l1,.ref l2]) e8;have n1:l1≠low:=λz=>by subst z;rw[(s3.trans (s4.trans s5)) _ _ g2]at hlow;cases hlow
  have n2:l2≠low:=λz=>by subst z;rw[g5]at hlow;cases hlow
  have nw:lw≠low:=λz=>by subst z;rw[s7 _ _ g6]at hlw;cases hlw
  have u9:dq H (upd H8 low (.lst [.ref lw,.ref l1,.ref l2])):=eD (u0.trans v8) nlow;refine pZ (Sx:=Mo) (z0:=lw) (u9.seq hc) hn dO (by rw[db nw];exact g8) (by simp) (λx hx=>?_) B8 (by rw[db n1];exact v8 _ _ (u3 _ _ g2)) (t9 _ _ (v8 _ _ (u2 _ _ g1))) (by rw[db n2];exact v8 _ _ (s6 _ _ g5)) (t9 _ _ (v8 _ _ (u4 _ _ g3))) (t9 _ _ (v8 _ _ (u5 _ _ g4))) λl us t0 t1 t2 H' s n h b w0 w1 w2=>k l us t0 t1 t2 H' (u9.trans s) (u9.free n) h b w0 w1 w2;obtain rfl:x=.ref b:=by simpa using hx
  exact⟨b,"st",2,rfl,t9 _ _ (s8 _ _ g7),by decide,rfl,rfl⟩
end S9
namespace SW
open PySem L2
def Em(H:Hp)(u:V):Prop:=∃(q r:Addr)(w:Str)(ks:List Int),u=.ref q∧H q=some (.tup [.str w,.ref r])∧H r=some (.tup (ks.map V.int))
def pQ:Sp:=λvs H Q _=>∃(p sl:Addr)(pv:V)(t:T)(m:Int)(us:List V),vs=[.ref p]∧H p=some (.tup [.str "done",pv,.ref sl,.int m])∧gG H t pv∧t.size≤5000000∧H sl=some (.lst us)∧(∀u∈us,Em H u)∧∀H',dq H H'→Q (.bl true) H'
end SW
namespace S9
open PySem L2 SW
variable {K:aA}{vs:List V}{H:Hp}{Q:VK}{E:XK}
theorem Mb(h:pQ vs H Q E):K6 K (gi Q) (start ["_law_found","_law_one","_law_k"] vs) H:=by
 obtain⟨p,sl,pv,t,m,us,rfl,hp,hd,ht,hs,ha,k⟩:=h;refine⟨_,_,_,_,rfl,.tup hp,fC,_,rfl,fF ?_⟩;refine⟨p,_,rfl,.inr (eC.of hp),rfl,_,rfl,eM rfl ?_⟩;refine⟨eC.of hp,rfl,_,_,_,_,rfl,.str _,fU,_,rfl,fF ?_⟩;refine⟨eC.of hp,rfl,rfl,_,rfl,eM (by decide+kernel) ?_⟩;refine⟨eC.of hp,rfl,m,rfl,_,rfl,fF ?_⟩;refine⟨eC.of hp,rfl,_,_,_,_,rfl,.lst hs,kZ,_,rfl,fF ?_⟩;refine⟨eC.of hp,rfl,sl,rfl,⟨_,eK.of hs⟩,?_⟩;refine gw (K:=K) (a:=sl) (xs:=us) (λi σ H'=>(∃j1 j2,σ=[some (.ref p),j1,j2])∧H'=H) ⟨⟨_,_,rfl⟩,rfl⟩ (λi σ H' _ hP=>by rw[hP.2];exact eK.of hs) ?_ ?_
 ·rintro i u σ H1 hi ⟨⟨j1,j2,rfl⟩,rfl⟩;obtain⟨q,r,w,ks,rfl,h1,h2⟩:=ha u (ac hi);refine⟨_,_,_,_,rfl,.tup h1,fC,_,rfl,fF ?_⟩;refine⟨q,_,rfl,.inr (eC.of h1),rfl,_,rfl,eM rfl ?_⟩;refine⟨eC.of h1,rfl,_,_,_,_,rfl,.str _,fU,_,rfl,fF ?_⟩;refine⟨eC.of h1,rfl,_,_,_,_,rfl,.tup h2,fC,_,rfl,fF ?_⟩;refine⟨eC.of h1,rfl,r,rfl,⟨_,eC.of h2⟩,?_⟩;refine⟨λi m σ H'=>m=ks.length-i∧i≤ks.length∧(∃j2,σ=[some (.ref p),some (.ref q),j2])∧H'=H1,⟨_,rfl,aU _,⟨_,rfl⟩,rfl⟩,?_⟩;rintro i' m' σ' H' ⟨rfl,hi',⟨j2',rfl⟩,rfl⟩;by_cases e:i'=ks.length
  ·exact .inl ⟨⟨_,eC.of h2,by simp[e]⟩,⟨_,_,rfl⟩,rfl⟩
  ·have hlt:i'<ks.length:=by lia
   refine .inr ⟨⟨_,.int ks[i'],eC.of h2,by simp[hlt]⟩,_,λσ2 H2 h=>⟨ks.length-(i'+1),by lia,h⟩,?_⟩;rintro x H2 ⟨rfl,hx⟩;have hx:=hx _ (eC.of h2);rw[ae,aJ hlt]at hx;cases hx;refine⟨ks[i'],rfl,_,rfl,fF ?_⟩;exact⟨rfl,by lia,⟨_,rfl⟩,rfl⟩
 ·rintro σ H1 ⟨⟨j1,j2,rfl⟩,rfl⟩;exact⟨eC.of hp,rfl,t,pv,rfl,hd,ht,k⟩
end S9
namespace SW
open PySem L2
abbrev Ow:=Str→Option Int
def Ow.put(o:Ow)(w:Str)(x:Int):Ow:=λy=>if y=w then some x else o y
def Ow.none:Ow:=λ_=>.none
abbrev En:=T×List Int×Ow
def gv:En→Int→List En
 | (.sum a b,p,o),_=>[(a,p++[0],o),(b,p++[1],o)]
 | (.less a b,p,o),_=>[(a,p++[0],o),(b,p++[1],o)]
 | (.cho a b c,p,o),_=>[(a,p++[0],o),(b,p++[1],o),(c,p++[2],o)]
 | (.lt w a b,p,o),x=>[(a,p++[0],o),(b,p++[1],Ow.put o w x)]
 | (.st1 _ a,p,o),_=>[(a,p++[0],o)]
 | (.st2 _ a b,p,o),_=>[(a,p++[0],o),(b,p++[1],o)]
 | (.num _,_,_),_=>[]
 | (.name _,_,_),_=>[]
 | (.st0 _,_,_),_=>[]
def pre(c:Int):T→List Int→Ow→Nat→List En
 | .num n,p,o,_=>[(.num n,p,o)]
 | .name w,p,o,_=>[(.name w,p,o)]
 | .sum a b,p,o,i=>(.sum a b,p,o)::(pre c a (p++[0]) o (i+1)++pre c b (p++[1]) o (i+1+a.size))
 | .less a b,p,o,i=>(.less a b,p,o)::(pre c a (p++[0]) o (i+1)++pre c b (p++[1]) o (i+1+a.size))
 | .cho a b d,p,o,i=>(.cho a b d,p,o)::(pre c a (p++[0]) o (i+1)++(pre c b (p++[1]) o (i+1+a.size)++pre c d (p++[2]) o (i+1+a.size+b.size)))
 | .lt w a b,p,o,i=>(.lt w a b,p,o)::(pre c a (p++[0]) o (i+1)++pre c b (p++[1]) (Ow.put o w (c+((i+1:Nat):Int))) (i+1+a.size))
 | .st0 w,p,o,_=>[(.st0 w,p,o)]
 | .st1 w a,p,o,i=>(.st1 w a,p,o)::pre c a (p++[0]) o (i+1)
 | .st2 w a b,p,o,i=>(.st2 w a b,p,o)::(pre c a (p++[0]) o (i+1)++pre c b (p++[1]) o (i+1+a.size))
def iL(c:Int):List En→Nat→List En
 | [],_=>[]
 | e::r,i=>pre c e.1 e.2.1 e.2.2 i++iL c r (i+e.1.size)
theorem ni(c:Int)(e:En)(r:List En)(i:Nat):e::iL c (gv e (c+((i+1:Nat):Int))++r) (i+1)=iL c (e::r) i:=by
 obtain⟨t,p,o⟩:=e;cases t with
 | num n=>simp only[gv,ak,iL,pre,aN,T.size]
 | name n=>simp only[gv,ak,iL,pre,aN,T.size]
 | st0 n=>simp only[gv,ak,iL,pre,aN,T.size]
 | sum a b=>simp only[gv,ak,iL,pre,aN,aT,T.size];rw[show i+1+a.size+b.size=i+(a.size+b.size+1) by lia]
 | less a b=>simp only[gv,ak,iL,pre,aN,aT,T.size];rw[show i+1+a.size+b.size=i+(a.size+b.size+1) by lia]
 | cho a b d=>simp only[gv,ak,iL,pre,aN,aT,T.size];rw[show i+1+a.size+b.size+d.size=i+(a.size+b.size+d.size+1) by lia]
 | lt w a b=>simp only[gv,ak,iL,pre,aN,aT,T.size];rw[show i+1+a.size+b.size=i+(a.size+b.size+1) by lia]
 | st1 w a=>simp only[gv,ak,iL,pre,aN,aT,T.size];rw[show i+1+a.size=i+(a.size+1) by lia]
 | st2 w a b=>simp only[gv,ak,iL,pre,aN,aT,T.size];rw[show i+1+a.size+b.size=i+(a.size+b.size+1) by lia]
theorem mK(e:En)(x:Int):(gv e x).map (·.1)=e.1.kids:=by obtain⟨t,p,o⟩:=e;cases t<;>rfl
theorem qu(e:En)(x:Int):(gv e x).length=e.1.kids.length:=by rw[←mK e x,aa]
theorem BB{e k:En}{x:Int}{j:Nat}(h:(gv e x)[j]?=some k):k.2.1=e.2.1++[(j:Int)]∧((∃w a b,e.1=.lt w a b∧j=1∧k.2.2=Ow.put e.2.2 w x)∨((∀w a b,e.1=.lt w a b→j≠1)∧k.2.2=e.2.2)):=by
 obtain⟨t,p,o⟩:=e;cases t<;>(try (simp only[gv]at h))<;>(match j,h with
  | 0,h=>first
   | (cases h;exact⟨rfl,.inr ⟨λ_ _ _ _=>by decide,rfl⟩⟩)
   | (cases h)
  | 1,h=>first
   | (cases h;exact⟨rfl,.inl ⟨_,_,_,rfl,rfl,rfl⟩⟩)
   | (cases h;exact⟨rfl,.inr ⟨λ_ _ _ z=>(by cases z),rfl⟩⟩)
   | (cases h)
  | 2,h=>first
   | (cases h;exact⟨rfl,.inr ⟨λ_ _ _ z=>(by cases z),rfl⟩⟩)
   | (cases h)
  | j+3,h=>cases h)
def Hw(kvs:List (fE×V))(o:Ow):Prop:=∀w:Str,fS kvs (.inr w:fE)=(o w).map V.int
theorem Hw.put(h:Hw kvs g)(w:Str)(x:Int):Hw (gA kvs (.inr w:fE) (.int x)) (Ow.put g w x):=λy=>by
 rw[jY];by_cases e:y=w
 ·subst e;simp[Ow.put]
 ·have:¬((.inr y:fE)=.inr w):=λz=>e (Sum.inr.inj z);simp[Ow.put,e,this,h y]
def Bx(H:Hp)(e:En)(u:V):Prop:=∃(q pp od:Addr)(v:V)(kvs:List (fE×V)),u=.ref q∧H q=some (.tup [v,.ref pp,.ref od])∧gG H e.1 v∧H pp=some (.tup (e.2.1.map V.int))∧H od=some (.dK kvs)∧Hw kvs e.2.2∧kvs.length+e.1.size≤1000∧e.2.1.length+e.1.size≤1000
theorem Bx.mono(m:fH H H')(k:uj H H')(h:Bx H e u):Bx H' e u:=by obtain⟨q,pp,od,v,kvs,r1,r2,r3,r4,r5,r6⟩:=h;exact⟨q,pp,od,v,kvs,r1,m _ _ r2,r3.mono m,m _ _ r4,k _ _ r5,r6⟩
inductive EL(H:Hp):List En→List V→Prop where
 | nil:EL H [] []
 | cons{e:En}{u:V}{es:List En}{us:List V}:Bx H e u→EL H es us→EL H (e::es) (u::us)
inductive ER(H:Hp):List En→List V→Prop where
 | nil:ER H [] []
 | snoc{e:En}{u:V}{es:List En}{us:List V}:ER H es us→Bx H e u→ER H (e::es) (us++[u])
theorem EL.mono(m:fH H H')(k:uj H H'):∀{es:List En}{us:List V},EL H es us→EL H' es us
 | _,_,.nil=>.nil
 | _,_,.cons a r=>.cons (a.mono m k) (EL.mono m k r)
theorem ER.mono(m:fH H H')(k:uj H H'):∀{es:List En}{us:List V},ER H es us→ER H' es us
 | _,_,.nil=>.nil
 | _,_,.snoc r a=>.snoc (ER.mono m k r) (a.mono m k)
theorem EL.snoc:∀{es:List En}{us:List V},EL H es us→Bx H e u→EL H (es++[e]) (us++[u])
 | _,_,.nil,h=>.cons h .nil
 | _,_,.cons a r,h=>.cons a (EL.snoc r h)
theorem EL.length:∀{es:List En}{us:List V},EL H es us→us.length=es.length
 | _,_,.nil=>rfl
 | _,_,.cons _ r=>by rw[aE,aE,EL.length r]
theorem ER.length:∀{es:List En}{us:List V},ER H es us→us.length=es.length
 | _,_,.nil=>rfl
 | _,_,.snoc r _=>by rw[aD,aE,ER.length r];rfl
def tH(es:List En):Nat:=(es.map λe=>e.1.size).sum
theorem pH(e:En)(es:List En):tH (e::es)=e.1.size+tH es:=by simp[tH]
theorem zw(e:En)(x:Int):tH (gv e x)+1=e.1.size:=by have h:=jB e.1;rw[←mK e x]at h;unfold tH;unfold fB at h;rw[cE]at h;exact h
theorem pI(a b:List En):tH (a++b)=tH a+tH b:=by simp[tH]
theorem wN:∀es:List En,es.length≤tH es
 | []=>aC _
 | e::r=>by have:=wN r;have:=e.1.size_pos;rw[pH,aE];lia
end SW
namespace S3
open PySem L2 SW
def FV(K:aA):TS:=(de (eG (gm sh (dM (dN 8) dW)) (dX 11)) (lB (dN 11) (eA (eE K) (dN 6) (tC (.int 1))) (eA oI (dN 3) (gm (gh K) (dM (dN 4) dW)))))
def FU(K:aA):TS:=(fW (kq (eI (eA kX (eA (eE K) (dN 6) (tC (.int 0))) (tC (.str "let")))) (eI (eA kX (dN 10) (tC (.int 1))))) (FV K) fN)
def zY(K:aA):TS:=(de (eG (dN 8) (dX 11)) (de (FU K) (fQ (kB K "list" eh (dN 5) (dM (fP (dM (eA (gP K) (dN 9) (dN 10)) (dM (eA (ph K) (dN 7) (fP (dM (dN 10) dW))) (dM (dN 11) dW)))) dW)))))
def zX(K:aA):TS:=(de (eG (lz K "list" mF (dN 5)) (lY K 3 (gF (dX 6) (gF (dX 7) (gF (dX 8) lZ))))) (de (fQ (kB K "list" eh (dN 4) (dM (fP (dM (dN 6) (dM (dN 7) (dM (dN 8) dW)))) dW))) (de (eG (eV gt [] E0 (dM (dN 6) dW)) (dX 9)) (iY (qw (dM (eA jR (gm (gh K) (dM (dN 9) dW)) (tC (.int 1))) (dM (m8 gu (tC (.int 1))) (dM (m8 gu (tC (.int 1))) dW)))) (dX 10) (zY K)))))
def FT(K:aA):TS:=(eG (eA (eE K) (dN 6) (tC (.int 1))) (dX 15))
def zW(K:aA):TS:=(fW (eI (eA (IF K false) (eA (eE K) (dN 6) (tC (.int 0))) (fX (dM (tC (.str "number")) (dM (tC (.str "name")) (dM (tC (.str "stamp")) dW)))))) (FT K) fN)
def FS(K:aA):TS:=(eG (eA oI (eA oI (dN 3) (dN 10)) (tC (.int 1))) (dX 15))
def zV(K:aA):TS:=(fW (eI (eA kX (eA (eE K) (dN 6) (tC (.int 0))) (tC (.str "let")))) (FS K) fN)
def FR(K:aA):TS:=(eG (qd (dN 8) (eA (eE K) (dN 6) (tC (.int 1)))) (dX 15))
def v9(K:aA):TS:=(fW (kq (eI (eA kX (eA (eE K) (dN 6) (tC (.int 0))) (tC (.str "name")))) (tB (zt (eA (eE K) (dN 6) (tC (.int 1))) (dN 8)))) (FR K) fN)
def CW(K:aA):TS:=(fQ (kB K "list" eh (dN 12) (dM (qd (dN 2) (eA (eE K) (dN 6) (tC (.int 1)))) dW)))
def v7(K:aA):TS:=(fQ (kB K "list" eh (dN 12) (dM (fP (dM (eA (eE K) (dN 6) (tC (.int 0))) (dM (dN 15) (dM (fP (dM (dN 1) (dM (dN 7) dW))) (dM (dN 14) dW))))) dW)))
def v6(K:aA):TS:=(fW (kq (eI (eA kX (eA (eE K) (dN 6) (tC (.int 0))) (tC (.str "name")))) (kq (tB (oY (eA (eE K) (dN 6) (tC (.int 1))) (dN 8))) (tB (zt (eA (eE K) (dN 6) (tC (.int 1))) (dN 2))))) (CW K) (v7 K))
def CV(K:aA):TS:=(de (eG (eA (gP K) (dN 4) (dN 10)) (lY K 3 (gF (dX 6) (gF (dX 7) (gF (dX 8) lZ))))) (de (eG (gm (gh K) (dM (eV gt [] E0 (dM (dN 6) dW)) dW)) (dX 13)) (de (eG (zp K (nA (ja K) (dN 12) (gH (eA jR (gm (gh K) (dM (dN 12) dW)) (dN 13))) gI)) (dX 14)) (de (eG (nA (ja K) (dN 12) gI (gH (eA jR (gm (gh K) (dM (dN 12) dW)) (dN 13)))) (dX 12)) (de (eG (tC .non) (dX 15)) (de (zW K) (de (zV K) (de (v9 K) (v6 K)))))))))
def Kw(K:aA):TS:=(de (eG (fX dW) (dX 4)) (de (eG (fX (dM (fP (dM (dN 0) (dM (fP dW) (dM io dW)))) dW)) (dX 5)) (de (hX (eI (eA (kW K) (dN 5) (fX dW))) (zX K)) (de (eG (fX dW) (dX 12)) (de (iY (qw (dM (eA jR (gm (gh K) (dM (dN 4) dW)) (tC (.int 1))) (dM (m8 gu (tC (.int 1))) (dM (m8 gu (tC (.int 1))) dW)))) (dX 10) (CV K)) (fI (fP (dM (eA (gP K) (dN 12) (tC (.int 0))) (dM (eA oI (dN 3) (gm (gh K) (dM (dN 4) dW))) dW)))))))))
end S3
namespace SW
open PySem L2
structure qV(H₀ H:Hp)(ol tl:Addr)(os st:List En)(ous tus:List V):Prop where
 same:dq H₀ H
 n1:H₀ ol=none
 n2:H₀ tl=none
 ne:ol≠tl
 ol_:H ol=some (.lst ous)
 tl_:H tl=some (.lst tus)
 el:EL H os ous
 er:ER H st tus
section
variable {H₀ H H':Hp}{ol tl q:Addr}{os st:List En}{ous tus:List V}{e:En}{u:V}
theorem qV.grow(B:qV H₀ H ol tl os st ous tus)(s:dq H H'):qV H₀ H' ol tl os st ous tus:=
 ⟨B.same.trans s,B.n1,B.n2,B.ne,s _ _ B.ol_,s _ _ B.tl_,B.el.mono (dY s) (gZ s),B.er.mono (dY s) (gZ s)⟩
theorem qV.push(B:qV H₀ H ol tl os st ous tus)(he:Bx H e (.ref q)):qV H₀ (upd H tl (.lst (tus++[.ref q]))) ol tl os (e::st) ous (tus++[.ref q]):=
 have m:=fL (o:=.lst (tus++[.ref q])) B.tl_;have k:=lH (o:=.lst (tus++[.ref q])) B.tl_
 ⟨eD B.same B.n2,B.n1,B.n2,B.ne,by rw[db B.ne];exact B.ol_,dO,B.el.mono m k,.snoc (B.er.mono m k) (he.mono m k)⟩
theorem qV.put(B:qV H₀ H ol tl os st ous tus)(he:Bx H e (.ref q)):qV H₀ (upd H ol (.lst (ous++[.ref q]))) ol tl (os++[e]) st (ous++[.ref q]) tus:=
 have m:=fL (o:=.lst (ous++[.ref q])) B.ol_;have k:=lH (o:=.lst (ous++[.ref q])) B.ol_
 ⟨eD B.same B.n1,B.n1,B.n2,B.ne,dO,by rw[db B.ne.symm];exact B.tl_,(B.el.mono m k).snoc (he.mono m k),B.er.mono m k⟩
theorem qV.pop(B:qV H₀ H ol tl os (e::st) ous (tus++[u]))(h:ER H st tus):qV H₀ (upd H tl (.lst tus)) ol tl os st ous tus:=
 have m:=fL (o:=.lst tus) B.tl_;have k:=lH (o:=.lst tus) B.tl_
 ⟨eD B.same B.n2,B.n1,B.n2,B.ne,by rw[db B.ne];exact B.ol_,dO,B.el.mono m k,h.mono m k⟩
end
structure Bw(H:Hp)(e:En)(v:V)(pp od:Addr)(kvs:List (fE×V)):Prop where
 den:gG H e.1 v
 path:H pp=some (.tup (e.2.1.map V.int))
 own:H od=some (.dK kvs)
 ow:Hw kvs e.2.2
 f1:kvs.length+e.1.size≤1000
 f2:e.2.1.length+e.1.size≤1000
theorem Bw.mono(m:fH H H')(k:uj H H')(h:Bw H e v pp od kvs):Bw H' e v pp od kvs:=
 ⟨h.den.mono m,m _ _ h.path,k _ _ h.own,h.ow,h.f1,h.f2⟩
end SW
namespace S3
open PySem L2 SW
variable {K:aA}{vs:List V}{H H₀:Hp}{Q:VK}{E:XK}
theorem yA{v0 src giv:Option V}{c:Int}{ol tl pp od il nd:Addr}{pv x:V}{os st:List En}{ous tus us:List V}{e k:En}{j:Nat}{kvs kvs':List (fE×V)}{D:iz}{j12 j13 j14 j15:Option V}
  (B:qV H₀ H ol tl os st ous tus) (hp:H pp=some (.tup (e.2.1.map V.int))) (hil:H il=some (.lst us)) (hx:us[j]?=some x) (dk:gG H k.1 x) (ek:k.2.1=e.2.1++[(j:Int)]) (hn:H nd=some (.dK kvs')) (ow:Hw kvs' k.2.2) (f1:kvs'.length+k.1.size≤1000) (f2:k.2.1.length+k.1.size≤1000) (few:tus.length≤5000)
  (hD:∀(q:Addr)(H':Hp),dq H H'→∀H'',H''=upd H' tl (.lst (tus++[.ref q]))→qV H₀ H'' ol tl os (k::st) ous (tus++[.ref q])→D.nx [v0,src,giv,some (.int c),some (.ref ol),some (.ref tl),some pv,some (.ref pp),some (.ref od),some (.ref il),some (.int j),some (.ref nd),j12,j13,j14,j15] H''):
  (fQ (kB K "list" eh (dN 5) (dM (fP (dM (eA (gP K) (dN 9) (dN 10)) (dM (eA (ph K) (dN 7) (fP (dM (dN 10) dW))) (dM (dN 11) dW)))) dW))) D
   [v0,src,giv,some (.int c),some (.ref ol),some (.ref tl),some pv,some (.ref pp),some (.ref od),some (.ref il),some (.int j),some (.ref nd),j12,j13,j14,j15] H:=by
 refine⟨.inl ⟨rfl,_,eK.of B.tl_⟩,eK.of hil,dU hx,fT,eu λkt H1 hkt s1 g1=>?_⟩;have rest:∀(pq:Addr)(H2:Hp),dq H H2→H2 pq=some (.tup (k.2.1.map V.int))→([x,.ref pq,.ref nd]:List V).length≤sizeLine∧∀p,H2 p=none→eh (.ref tl) [.ref p] (upd H2 p (.tup [x,.ref pq,.ref nd])) λ_ H1=>D.nx [v0,src,giv,some (.int c),some (.ref ol),some (.ref tl),some pv,some (.ref pp),some (.ref od),some (.ref il),some (.int j),some (.ref nd),j12,j13,j14,j15] H1:=by intro pq H2 s2 hpq;refine⟨fT,λq hq=>?_⟩;obtain⟨H3,s3,g3,e3⟩:∃H3,dq H2 H3∧H3 q=some (.tup [x,.ref pq,.ref nd])∧upd H2 q (.tup [x,.ref pq,.ref nd])=H3:=⟨_,dR hq,dO,rfl⟩;rw[e3];have s23:=s2.trans s3;have B3:=B.grow s23;refine⟨tl,tus,_,rfl,rfl,B3.tl_,by rw[sizeLine_eq];lia,hD q H3 s23 _ rfl (B3.push ⟨q,pq,nd,x,kvs',rfl,g3,dk.mono (dY s23),s3 _ _ hpq,s23 _ _ hn,ow,f1,f2⟩)⟩
 refine⟨pp,kt,_,_,rfl,rfl,eC.of (s1 _ _ hp),eC.of g1,?_,λhe=>?_,(λ_ he=>by cases he),λhe _ pq hpq=>?_⟩
 ·rw[aa];simp only[aE,au];rw[ek,aD]at f2;rw[sizeLine_eq];lia
 ·refine(rest kt H1 s1 ?_);have:e.2.1=[]:=by simpa using he
  rw[ek,this];exact g1
 ·have s2:=dR (o:=.tup (e.2.1.map V.int++[.int j])) hpq;refine(rest pq _ (s1.trans s2) ?_);rw[ek,dO];simp
theorem vF{v0 src giv:Option V}{c:Int}{ol tl pp od il:Addr}{pv:V}{os st:List En}{ous tus us:List V}{e:En}{kvs:List (fE×V)}{D:iz}{j10 j11 j12 j13 j14 j15:Option V}
  (B:qV H₀ H ol tl os st ous tus) (O:Bw H e pv pp od kvs) (hil:H il=some (.lst us)) (nil:il≠tl) (dk:gU H e.1.kids us) (few:tus.length≤4000)
  (hD:∀(tus':List V)(H':Hp)(j10 j11:Option V),qV H₀ H' ol tl os (gv e (c+(os.length:Int))++st) ous tus'→D.nx [v0,src,giv,some (.int c),some (.ref ol),some (.ref tl),some pv,some (.ref pp),some (.ref od),some (.ref il),j10,j11,j12,j13,j14,j15] H'):
  (iY (qw (dM (eA jR (gm (gh K) (dM (dN 9) dW)) (tC (.int 1))) (dM (m8 gu (tC (.int 1))) (dM (m8 gu (tC (.int 1))) dW)))) (dX 10) (zY K)) D
   [v0,src,giv,some (.int c),some (.ref ol),some (.ref tl),some pv,some (.ref pp),some (.ref od),some (.ref il),j10,j11,j12,j13,j14,j15] H:=by
 have hlen:=dk.length;have hkl:=qu e (c+(os.length:Int));have hk3:e.1.kids.length≤3:=by cases e.1<;>simp[T.kids]
 refine⟨il,_,rfl,.inl (eK.of hil),_,rfl,_,rfl,(us.length:Int)-1,-1,rfl,⟨by lia,by lia,by lia,by lia⟩,?_⟩;have en:((us.length:Int)-1 - -1).toNat=us.length:=by lia
 rw[en];refine⟨λi m σ H'=>m=us.length-i∧i≤us.length∧(∃j10 j11,σ=[v0,src,giv,some (.int c),some (.ref ol),some (.ref tl),some pv,some (.ref pp),some (.ref od),some (.ref il),j10,j11,j12,j13,j14,j15])∧Bw H' e pv pp od kvs∧H' il=some (.lst us)∧gU H' e.1.kids us∧∃tus',tus'.length=tus.length+i∧qV H₀ H' ol tl os ((gv e (c+(os.length:Int))).drop (us.length-i)++st) ous tus',
  ⟨_,rfl,aU _,⟨_,_,rfl⟩,O,hil,dk,tus,rfl,by rw[br,ci (by lia)];exact B⟩,?_⟩
 rintro i m σ H' ⟨rfl,hi,⟨j10,j11,rfl⟩,O',hil',dk',tus',hl',B'⟩;by_cases hn:i=us.length
 ·refine .inl ⟨by show us.length≤i;lia,hD tus' H' _ _ ?_⟩;rw[hn,bN,ah]at B';exact B'
 ·have hlt:i<us.length:=by lia
  refine .inr ⟨show i<us.length from hlt,_,λσ2 H2 h=>⟨us.length-(i+1),by lia,h⟩,?_⟩;rintro v3 H3 ⟨rfl,rfl⟩;obtain⟨j,hj⟩:∃j:Nat,j=us.length-1-i:=⟨_,rfl⟩;have hjl:j<us.length:=by lia
  rw[show(us.length:Int)-1-(i:Int)=(j:Int) by lia];obtain⟨k,hk⟩:∃k,(gv e (c+(os.length:Int)))[j]?=some k:=⟨(gv e (c+(os.length:Int)))[j]'(by lia),by rw[aJ]⟩;obtain⟨x,hx⟩:∃x,us[j]?=some x:=⟨us[j],by rw[aJ]⟩;obtain⟨tk,htk,dx⟩:=sV dk' hx;have ek:tk=k.1:=by rw[←mK e (c+(os.length:Int)),ae,hk]at htk;exact(Option.some.inj htk).symm
  subst ek;obtain⟨e1,e2⟩:=BB hk;have hsz:=qH (ac htk);have hdrop:(gv e (c+(os.length:Int))).drop (us.length-(i+1))=k::(gv e (c+(os.length:Int))).drop (us.length-i):=by rw[show us.length-(i+1)=j by lia,show us.length-i=j+1 by lia];obtain⟨hjk,e⟩:=aO.mp hk;rw[bZ hjk,e]
  have f2:k.2.1.length+k.1.size≤1000:=by have:=O'.f2;rw[e1,aD];simp only[aE,au];lia
  have tail:∀(nd:Addr)(kvs':List (fE×V))(H4:Hp),dq H3 H4→H4 nd=some (.dK kvs')→Hw kvs' k.2.2→kvs'.length+k.1.size≤1000→_:=λnd kvs' H4 s4 hnd ow f1=>
   yA (K:=K) (v0:=v0) (src:=src) (giv:=giv) (c:=c) (pv:=pv) (od:=od) (nd:=nd) (j12:=j12) (j13:=j13) (j14:=j14) (j15:=j15) (D:={D with nx:=λσ' H''=>us.length-(i+1)=us.length-(i+1)∧i+1≤us.length∧(∃j10 j11,σ'=[v0,src,giv,some (.int c),some (.ref ol),some (.ref tl),some pv,some (.ref pp),some (.ref od),some (.ref il),j10,j11,j12,j13,j14,j15])∧Bw H'' e pv pp od kvs∧H'' il=some (.lst us)∧gU H'' e.1.kids us∧∃tus',tus'.length=tus.length+(i+1)∧qV H₀ H'' ol tl os ((gv e (c+(os.length:Int))).drop (us.length-(i+1))++st) ous tus',ct:=λσ' H''=>us.length-(i+1)=us.length-(i+1)∧i+1≤us.length∧(∃j10 j11,σ'=[v0,src,giv,some (.int c),some (.ref ol),some (.ref tl),some pv,some (.ref pp),some (.ref od),some (.ref il),j10,j11,j12,j13,j14,j15])∧Bw H'' e pv pp od kvs∧H'' il=some (.lst us)∧gU H'' e.1.kids us∧∃tus',tus'.length=tus.length+(i+1)∧qV H₀ H'' ol tl os ((gv e (c+(os.length:Int))).drop (us.length-(i+1))++st) ous tus',bk:=D.nx}) (e:=e) (k:=k) (j:=j) (kvs:=kvs) (kvs':=kvs')
    (B'.grow s4) (s4 _ _ O'.path) (s4 _ _ hil') hx (dx.mono (dY s4)) e1 hnd ow f1 f2 (by lia) λq H5 s5 H6 e6 B6=>by have s45:=s4.trans s5;have B5:=(B'.grow s45);have m:=fL (o:=.lst (tus'++[.ref q])) B5.tl_;have kk:=lH (o:=.lst (tus'++[.ref q])) B5.tl_;rw[←e6]at m kk;refine⟨rfl,hlt,⟨_,_,rfl⟩,(O'.mono (dY s45) (gZ s45)).mono m kk,?_,(dk'.mono (dY s45)).mono m,tus'++[.ref q],by simp[hl'];lia,by rw[hdrop];exact B6⟩;rw[e6,db nil];exact s45 _ _ hil'
  have plain:k.2.2=e.2.2→_:=λeo=>tail od kvs H3 (λ_ _ z=>z) O'.own (by rw[eo];exact O'.ow) (by have:=O'.f1;lia);obtain⟨p9,ks,epv,hp9,_⟩:=O'.den.open;subst epv;refine ?_;refine⟨eC.of hp9,iG e.1 ks,rfl,_,rfl,?_⟩;refine jP (λhlet=>?_) (λhlet=>?_)
  ·obtain⟨w,a,b,elt⟩:=qG (V.str.inj (of_decide_eq_true hlet));refine⟨rfl,_,rfl,?_⟩;refine jP (λhj1=>?_) (λhj1=>?_)
   ·have hj1:j=1:=by have:=V.int.inj (of_decide_eq_true hj1);lia
    have eo:k.2.2=Ow.put e.2.2 w (c+(os.length:Int)):=by
     rcases e2 with⟨w',a',b',q1,_,q2⟩|⟨q1,_⟩
     ·rw[elt]at q1;cases q1;exact q2
     ·exact absurd hj1 (q1 w a b elt)
    refine⟨od,kvs,rfl,.inl O'.own,eu λnd H4 hnd s4 g4=>?_⟩;have hol:=B'.el.length;have hw9:qR (hd e.1++ks) 1=some (.str w):=by rw[elt];exact dU (j:=1) rfl
    refine⟨ol,ous,rfl,.inl (eK.of (s4 _ _ B'.ol_)),eC.of (s4 _ _ hp9),hw9,nd,_,rfl,mz.k (k:=.inr w) g4 (by have:=O'.f1;rw[sizeLine_eq];lia),?_⟩;rw[hol];have s5:dq H3 (upd H4 nd (.dK (gA kvs (.inr w:fE) (.int (c+(os.length:Int)))))):=eD s4 hnd;have hpl:=hG kvs (.inr w:fE) (.int (c+(os.length:Int)));refine tail nd _ _ s5 dO (by rw[eo];exact O'.ow.put w _) ?_;have:=O'.f1;show(gA kvs (.inr w:fE) (.int (c+(os.length:Int)))).length+k.1.size≤1000;lia
   ·refine plain ?_;rcases e2 with⟨_,_,_,_,q1,_⟩|⟨_,q2⟩
    ·exact absurd (by rw[q1];rfl) hj1
    ·exact q2
  ·refine fF (plain ?_);rcases e2 with⟨w',a',b',q1,_,_⟩|⟨_,q2⟩
   ·exact absurd (by rw[q1];exact decide_eq_true rfl) hlet
   ·exact q2
end S3
namespace SW
open PySem L2
theorem iO(c:Int):∀(t:T)(p:List Int)(o:Ow)(i:Nat),(pre c t p o i).length=t.size
 | .num _,_,_,_=>rfl
 | .name _,_,_,_=>rfl
 | .st0 _,_,_,_=>rfl
 | .sum a b,p,o,i=>by simp only[pre,aE,aD,iO c a,iO c b,T.size]
 | .less a b,p,o,i=>by simp only[pre,aE,aD,iO c a,iO c b,T.size]
 | .cho a b d,p,o,i=>by simp only[pre,aE,aD,iO c a,iO c b,iO c d,T.size];lia
 | .lt w a b,p,o,i=>by simp only[pre,aE,aD,iO c a,iO c b,T.size]
 | .st1 w a,p,o,i=>by simp only[pre,aE,iO c a,T.size]
 | .st2 w a b,p,o,i=>by simp only[pre,aE,aD,iO c a,iO c b,T.size]
end SW
namespace S3
open PySem L2 SW
variable {K:aA}{vs:List V}{H H₀:Hp}{Q:VK}{E:XK}
def Mv(H₀:Hp)(v0 src giv:Option V)(c:Int)(ol tl:Addr)(j12 j13 j14 j15:Option V)(es:List En)(m:Nat)(σ:St)(H':Hp):Prop:=∃os st ous tus j6 j7 j8 j9 j10 j11,σ=[v0,src,giv,some (.int c),some (.ref ol),some (.ref tl),j6,j7,j8,j9,j10,j11,j12,j13,j14,j15]∧qV H₀ H' ol tl os st ous tus∧os++iL c st os.length=es∧tH st+os.length≤900∧m=tH st
theorem vE
  (B:qV H₀ H ol tl [] st [] tus) (hes:iL c st 0=es) (hsz:tH st≤900)
  (hD:∀(ous:List V)(H':Hp)(j6 j7 j8 j9 j10 j11:Option V),dq H₀ H'→H' ol=some (.lst ous)→EL H' es ous→D.nx [v0,src,giv,some (.int c),some (.ref ol),some (.ref tl),j6,j7,j8,j9,j10,j11,j12,j13,j14,j15] H'):
  (hX (eI (eA (kW K) (dN 5) (fX dW))) (zX K)) D [v0,src,giv,some (.int c),some (.ref ol),some (.ref tl),j6,j7,j8,j9,j10,j11,j12,j13,j14,j15] H:=by
 refine⟨Mv H₀ v0 src giv c ol tl j12 j13 j14 j15 es,
  ⟨_,[],st,[],tus,_,_,_,_,_,_,rfl,B,by simpa using hes,by simpa using hsz,rfl⟩,?_⟩
 clear B hes hsz j6 j7 j8 j9 j10 j11 st tus;rintro m σ H1 ⟨os,st,ous,tus,j6,j7,j8,j9,j10,j11,rfl,B,he,hsz,rfl⟩;refine⟨fT,λe0 he0=>?_⟩;have s1:=dR (o:=.lst []) he0;have g1:(upd H1 e0 (.lst [])) e0=some (.lst []):=dO;have B1:=B.grow s1;generalize upd H1 e0 (.lst [])=H2 at g1 B1⊢;clear s1 he0 B;refine⟨tl,e0,tus,rfl,rfl,eK.of B1.tl_,eK.of g1,_,rfl,?_⟩;have her:=B1.er;cases her with
 | nil=>
  refine eM rfl (hD ous H2 _ _ _ _ _ _ B1.same B1.ol_ ?_);have:os=es:=by simpa[iL]using he
  rw[←this];exact B1.el
 | @snoc e u st tus her ha=>
  refine fi (by simp) ?_;refine⟨λσ' H'=>∃m',m'<tH (e::st)∧Mv H₀ v0 src giv c ol tl j12 j13 j14 j15 es m' σ' H',λ_ _ h=>h,?_⟩;refine⟨.inl ⟨rfl,_,eK.of B1.tl_⟩,tl,_,_,rfl,rfl,B1.tl_,jC,?_⟩;rw[iP];have m3:=fL (o:=.lst tus) B1.tl_;have k3:=lH (o:=.lst tus) B1.tl_;have B3:=B1.pop her;have a3:=ha.mono m3 k3;generalize upd H2 tl (.lst tus)=H3 at B3 a3⊢;obtain⟨q,pp,od,pv,kvs,rfl,hq,den,hpp,hod,ow,f1,f2⟩:=a3;refine⟨q,_,rfl,eC.of hq,rfl,_,_,rfl,_,_,rfl,_,_,rfl,rfl,?_⟩;refine⟨.inl ⟨rfl,_,eK.of B3.ol_⟩,fT,λq4 hq4=>?_⟩;have s4:=dR (o:=.tup [pv,.ref pp,.ref od]) hq4;have g4:(upd H3 q4 (.tup [pv,.ref pp,.ref od])) q4=some (.tup [pv,.ref pp,.ref od]):=dO;have B4:=B3.grow s4;generalize upd H3 q4 (.tup [pv,.ref pp,.ref od])=H4 at s4 g4 B4⊢;have hol:=B4.el.length;rw[pH]at hsz;refine⟨ol,ous,_,rfl,rfl,B4.ol_,by rw[sizeLine_eq];lia,?_⟩;have m5:=fL (o:=.lst (ous++[.ref q4])) B4.ol_;have k5:=lH (o:=.lst (ous++[.ref q4])) B4.ol_;have O4:Bw H4 e pv pp od kvs:=⟨den.mono (dY s4),s4 _ _ hpp,s4 _ _ hod,ow,f1,f2⟩;have B5:=B4.put (e:=e) ⟨q4,pp,od,pv,kvs,rfl,g4,O4.den,O4.path,O4.own,ow,f1,f2⟩;have O5:=O4.mono m5 k5;generalize upd H4 ol (.lst (ous++[.ref q4]))=H5 at B5 O5⊢;refine⟨e.1,pv,rfl,O5.den,λil us H6 s6 n6 h6 d6=>?_⟩;have B6:=B5.grow s6;have htl:=B6.er.length;have hst:=wN st;refine vF B6 (O5.mono (dY s6) (gZ s6)) h6 (λz=>by subst z;rw[B5.tl_]at n6;cases n6) d6 (by lia) λtus' H7 j10 j11 B7=>?_;have hk:=zw e (c+((os++[e]).length:Int));have hl1:(os++[e]).length=os.length+1:=by simp
  have hfin:tH (gv e (c+((os++[e]).length:Int))++st)+(os++[e]).length≤900:=by rw[pI];generalize tH (gv e (c+((os++[e]).length:Int)))=z at *;lia
  refine⟨tH (gv e (c+((os++[e]).length:Int))++st),by rw[pI,pH];lia,os++[e],_,_,tus',_,_,_,_,_,_,rfl,B7,?_,hfin,rfl⟩;rw[←he,aT]
  congr 1
  have:=ni c e st os.length;rw[←this];simp
end S3
namespace SW
open PySem L2
inductive NT where
 | mk(k:Str)(x:V)(src:Str)(path:List Int)(kids:List NT)
mutual
inductive kj(H:Hp):NT→V→Prop where
 | mk{k:Str}{x:V}{src:Str}{path:List Int}{kids:List NT}{p sp pp kl:Addr}{us:List V}:H p=some (.tup [.str k,x,.ref sp,.ref kl])→H sp=some (.tup [.str src,.ref pp])→H pp=some (.tup (path.map V.int))→H kl=some (.lst us)→gp H kids us→kj H (.mk k x src path kids) (.ref p)
inductive gp(H:Hp):List NT→List V→Prop where
 | nil:gp H [] []
 | cons{n:NT}{u:V}{ns:List NT}{us:List V}:kj H n u→gp H ns us→gp H (n::ns) (u::us)
end
mutual
theorem kj.same(s:dq H H'):∀{n:NT}{u:V},kj H n u→kj H' n u
 | _,_,.mk h1 h2 h3 h4 h5=>.mk (s _ _ h1) (s _ _ h2) (s _ _ h3) (s _ _ h4) (gp.same s h5)
theorem gp.same(s:dq H H'):∀{ns:List NT}{us:List V},gp H ns us→gp H' ns us
 | _,_,.nil=>.nil
 | _,_,.cons a r=>.cons (kj.same s a) (gp.same s r)
end
theorem gp.length:∀{ns:List NT}{us:List V},gp H ns us→us.length=ns.length
 | _,_,.nil=>rfl
 | _,_,.cons _ r=>by rw[aE,aE,gp.length r]
theorem gp.append:∀{a b:List NT}{us ws:List V},gp H a us→gp H b ws→gp H (a++b) (us++ws)
 | _,_,_,_,.nil,q=>q
 | _,_,_,_,.cons a r,q=>.cons a (gp.append r q)
theorem gp.reverse:∀{a:List NT}{us:List V},gp H a us→gp H a.reverse us.reverse
 | _,_,.nil=>.nil
 | _,_,.cons a r=>by rw[ay,ay];exact(gp.reverse r).append (.cons a .nil)
theorem gp.take:∀{a:List NT}{us:List V}(n:Nat),gp H a us→gp H (a.take n) (us.take n)
 | _,_,0,_=>.nil
 | _,_,_+1,.nil=>.nil
 | _,_,n+1,.cons a r=>.cons a (gp.take n r)
theorem gp.drop:∀{a:List NT}{us:List V}(n:Nat),gp H a us→gp H (a.drop n) (us.drop n)
 | _,_,0,h=>h
 | _,_,_+1,.nil=>.nil
 | _,_,n+1,.cons _ r=>gp.drop n r
abbrev Gi:=Str→Option NT
def ef(c:Int)(src:Str)(giv:Gi)(e:En)(i:Nat)(ks:List NT):NT:=match e.1 with
 | .num n=>.mk "number" (.int n) src e.2.1 ks
 | .name w=>(match e.2.2 w with
  | some x=>.mk "name" (.int x) src e.2.1 ks
  | none=>(match giv w with
   | some g=>g
   | none=>.mk "name" (.str w) src e.2.1 ks))
 | .sum _ _=>.mk "sum" .non src e.2.1 ks
 | .less _ _=>.mk "less" .non src e.2.1 ks
 | .cho _ _ _=>.mk "choose" .non src e.2.1 ks
 | .lt _ _ _=>.mk "let" (.int (c+i+1)) src e.2.1 ks
 | .st0 w=>.mk "stamp" (.str w) src e.2.1 ks
 | .st1 w _=>.mk "stamp" (.str w) src e.2.1 ks
 | .st2 w _ _=>.mk "stamp" (.str w) src e.2.1 ks
def nt(c:Int)(src:Str)(giv:Gi):T→List Int→Ow→Nat→NT
 | .num n,p,o,i=>ef c src giv (.num n,p,o) i []
 | .name w,p,o,i=>ef c src giv (.name w,p,o) i []
 | .sum a b,p,o,i=>ef c src giv (.sum a b,p,o) i [nt c src giv a (p++[0]) o (i+1),nt c src giv b (p++[1]) o (i+1+a.size)]
 | .less a b,p,o,i=>ef c src giv (.less a b,p,o) i [nt c src giv a (p++[0]) o (i+1),nt c src giv b (p++[1]) o (i+1+a.size)]
 | .cho a b d,p,o,i=>ef c src giv (.cho a b d,p,o) i [nt c src giv a (p++[0]) o (i+1),nt c src giv b (p++[1]) o (i+1+a.size),nt c src giv d (p++[2]) o (i+1+a.size+b.size)]
 | .lt w a b,p,o,i=>ef c src giv (.lt w a b,p,o) i [nt c src giv a (p++[0]) o (i+1),nt c src giv b (p++[1]) (Ow.put o w (c+((i+1:Nat):Int))) (i+1+a.size)]
 | .st0 w,p,o,i=>ef c src giv (.st0 w,p,o) i []
 | .st1 w a,p,o,i=>ef c src giv (.st1 w a,p,o) i [nt c src giv a (p++[0]) o (i+1)]
 | .st2 w a b,p,o,i=>ef c src giv (.st2 w a b,p,o) i [nt c src giv a (p++[0]) o (i+1),nt c src giv b (p++[1]) o (i+1+a.size)]
def iQ(c:Int)(src:Str)(giv:Gi):List En→Nat→List NT
 | [],_=>[]
 | e::r,i=>ef c src giv e i ((iQ c src giv r (i+1)).take e.1.kids.length)::(iQ c src giv r (i+1)).drop e.1.kids.length
theorem gK(c:Int)(src:Str)(giv:Gi):∀(t:T)(p:List Int)(o:Ow)(i:Nat)(r:List En),iQ c src giv (pre c t p o i++r) i=nt c src giv t p o i::iQ c src giv r (i+t.size)
 | .num n,p,o,i,r=>by simp only[pre,aN,ak,iQ,nt,T.kids,au,bA,ah,T.size]
 | .name n,p,o,i,r=>by simp only[pre,aN,ak,iQ,nt,T.kids,au,bA,ah,T.size]
 | .st0 n,p,o,i,r=>by simp only[pre,aN,ak,iQ,nt,T.kids,au,bA,ah,T.size]
 | .sum a b,p,o,i,r=>by simp only[pre,aN,aT,iQ,gK c src giv a,gK c src giv b,nt,T.kids,aE,au,bK,bA,bH,ah,T.size];rw[show i+1+a.size+b.size=i+(a.size+b.size+1) by lia]
 | .less a b,p,o,i,r=>by simp only[pre,aN,aT,iQ,gK c src giv a,gK c src giv b,nt,T.kids,aE,au,bK,bA,bH,ah,T.size];rw[show i+1+a.size+b.size=i+(a.size+b.size+1) by lia]
 | .cho a b d,p,o,i,r=>by simp only[pre,aN,aT,iQ,gK c src giv a,gK c src giv b,gK c src giv d,nt,T.kids,aE,au,bK,bA,bH,ah,T.size];rw[show i+1+a.size+b.size+d.size=i+(a.size+b.size+d.size+1) by lia]
 | .lt w a b,p,o,i,r=>by simp only[pre,aN,aT,iQ,gK c src giv a,gK c src giv b,nt,T.kids,aE,au,bK,bA,bH,ah,T.size];rw[show i+1+a.size+b.size=i+(a.size+b.size+1) by lia]
 | .st1 w a,p,o,i,r=>by simp only[pre,aN,aT,iQ,gK c src giv a,nt,T.kids,aE,au,bK,bA,bH,ah,T.size];rw[show i+1+a.size=i+(a.size+1) by lia]
 | .st2 w a b,p,o,i,r=>by simp only[pre,aN,aT,iQ,gK c src giv a,gK c src giv b,nt,T.kids,aE,au,bK,bA,bH,ah,T.size];rw[show i+1+a.size+b.size=i+(a.size+b.size+1) by lia]
theorem ye(c:Int)(src:Str)(giv:Gi)(t:T):iQ c src giv (pre c t [] Ow.none 0) 0=[nt c src giv t [] Ow.none 0]:=by have:=gK c src giv t [] Ow.none 0 [];rw[aZ]at this;rw[this];rfl
def tE(H:Hp)(kvs:List (fE×V))(giv:Gi):Prop:=∀w:Str,(giv w=none∧fS kvs (.inr w:fE)=none)∨∃g u,giv w=some g∧fS kvs (.inr w:fE)=some u∧kj H g u
theorem tE.same(s:dq H H')(h:tE H kvs giv):tE H' kvs giv:=λw=>
 (h w).imp id λ⟨g,u,e1,e2,e3⟩=>⟨g,u,e1,e2,e3.same s⟩
def lO:Sp:=λvs H Q _=>∃(t:T)(v:V)(src:Str)(gd:Addr)(gkvs:List (fE×V))(giv:Gi)(c:Int),vs=[v,.str src,.ref gd,.int c]∧gG H t v∧t.size≤900∧H gd=some (.dK gkvs)∧tE H gkvs giv∧
 ∀(r:Addr)(u:V)(H':Hp),dq H H'→kj H' (nt c src giv t [] Ow.none 0) u→H' r=some (.tup [u,.int (c+(t.size:Int))])→Q (.ref r) H'
end SW
namespace SW
open PySem L2
def rY(pl:Addr)(H:Hp):Hp:=λb=>if b=pl then none else H b
theorem iC(s:dq H H'):dq (rY pl H) (rY pl H'):=λb o h=>by
 unfold rY at h⊢;by_cases e:b=pl
 ·rw[if_pos e]at h;cases h
 ·rw[if_neg e]at h⊢;exact s b o h
theorem AM:dq (rY pl H) (upd H pl o):=λb u h=>by
 unfold rY at h;by_cases e:b=pl
 ·rw[if_pos e]at h;cases h
 ·rw[if_neg e]at h;rw[db e];exact h
theorem nH(h:H b=some o)(n:b≠pl):rY pl H b=some o:=by unfold rY;rw[if_neg n];exact h
theorem wX(s:dq H H')(n:H pl=none):dq H (rY pl H'):=λb o h=>nH (s b o h) (dZ h n)
end SW
namespace S3
open PySem L2 SW
variable {K:aA}{vs:List V}{H H₀:Hp}{Q:VK}{E:XK}
theorem iV
  (O:Bw H e (.ref p) pp od kvs) (hp:H p=some (.tup (hd e.1++ks'))) (hkl:H kl=some (.lst kus)) (nkl:kl≠pl) (nks:gp (rY pl H) ks kus) (hpl:H pl=some (.lst pus)) (few:pus.length≤5000)
  (hx:ef c src giv e i ks=.mk (kind e.1) x src e.2.1 ks)
  (hD:∀(u:V)(H1 H':Hp),dq H H1→H'=upd H1 pl (.lst (pus++[u]))→kj (rY pl H1) (ef c src giv e i ks) u→D.nx [v0,some (.str src),He,some (.int c),some (.ref ol),some (.ref tl),some (.ref p),some (.ref pp),some (.ref od),j9,j10,j11,some (.ref pl),j13,some (.ref kl),some x] H'):
  v7 K D [v0,some (.str src),He,some (.int c),some (.ref ol),some (.ref tl),some (.ref p),some (.ref pp),some (.ref od),j9,j10,j11,some (.ref pl),j13,some (.ref kl),some x] H:=by
 refine⟨.inl ⟨rfl,_,eK.of hpl⟩,eC.of hp,iG e.1 ks',fT,eu λsp H1 hsp s1 g1=>?_⟩;refine⟨fT,eu λq H2 hq s2 g2=>?_⟩;have s12:=s1.trans s2;have hpl2:=s12 _ _ hpl;refine⟨pl,pus,_,rfl,rfl,hpl2,by rw[sizeLine_eq];lia,hD (.ref q) H2 _ s12 rfl ?_⟩;rw[hx];have nt:∀{b:Addr}{xs:List V},H2 b=some (.tup xs)→b≠pl:=λh z=>by subst z;rw[hpl2]at h;cases h
 exact .mk (nH g2 (nt g2)) (nH (s2 _ _ g1) (nt (s2 _ _ g1))) (nH (s12 _ _ O.path) (nt (s12 _ _ O.path))) (nH (s12 _ _ hkl) nkl) (nks.same (iC s12))
theorem x9
  (O:Bw H (t,mN,o) (.ref p) pp od kvs) (hp:H p=some (.tup (hd t++ks'))) (hkl:H kl=some (.lst kus)) (nkl:kl≠pl) (nks:gp (rY pl H) ks kus) (hpl:H pl=some (.lst pus)) (few:pus.length≤5000)
  (hgd:H gd=some (.dK gkvs)) (hgiv:tE (rY pl H) gkvs giv)
  (hD:∀(u:V)(H1 H':Hp)(j11 j15:Option V),dq H H1→H'=upd H1 pl (.lst (pus++[u]))→kj (rY pl H1) (ef c src giv (t,mN,o) i ks) u→D.nx [v0,some (.str src),some (.ref gd),some (.int c),some (.ref ol),some (.ref tl),some (.ref p),some (.ref pp),some (.ref od),j9,some (.int i),j11,some (.ref pl),j13,some (.ref kl),j15] H'):
  (de (eG (tC .non) (dX 15)) (de (zW K) (de (zV K) (de (v9 K) (v6 K))))) D [v0,some (.str src),some (.ref gd),some (.int c),some (.ref ol),some (.ref tl),some (.ref p),some (.ref pp),some (.ref od),j9,some (.int i),j11,some (.ref pl),j13,some (.ref kl),j15] H:=by
 cases t with
 | num n=>refine⟨eC.of hp,dU (j:=0) rfl,fT,eu λl H1 hl s1 g1=>?_⟩;have hp1:=s1 _ _ hp;refine⟨l,_,rfl,.inl (eK.of g1),rfl,rfl,_,rfl,?_⟩;refine fi (by decide+kernel) ?_;refine⟨eC.of hp1,dU (j:=1) rfl,?_⟩;refine⟨eC.of hp1,dU (j:=0) rfl,rfl,_,rfl,?_⟩;refine eM (by decide+kernel) ?_;refine⟨eC.of hp1,dU (j:=0) rfl,rfl,_,rfl,?_⟩;refine eM (by decide+kernel) (fF ?_);refine⟨eC.of hp1,dU (j:=0) rfl,rfl,_,rfl,?_⟩;refine eM (by decide+kernel) (fF ?_);exact iV (e:=(.num n,mN,o)) (O.mono (dY s1) (gZ s1)) hp1 (s1 _ _ hkl) nkl (nks.same (iC s1)) (s1 _ _ hpl) few rfl λu H2 H3 s2 e3 n3=>hD u H2 H3 _ _ (s1.trans s2) e3 n3
 | name w=>
  refine⟨eC.of hp,dU (j:=0) rfl,fT,eu λl H1 hl s1 g1=>?_⟩;have hp1:=s1 _ _ hp;refine⟨l,_,rfl,.inl (eK.of g1),rfl,rfl,_,rfl,?_⟩;refine fi (by decide+kernel) ?_;refine⟨eC.of hp1,dU (j:=1) rfl,?_⟩;refine⟨eC.of hp1,dU (j:=0) rfl,rfl,_,rfl,?_⟩;refine eM (by decide+kernel) ?_;refine⟨eC.of hp1,dU (j:=0) rfl,rfl,_,rfl,?_⟩;refine fi (by decide+kernel) ?_;have O1:=O.mono (dY s1) (gZ s1);have dg:=iN.k (k:=.inr w) O1.own;have how:fS kvs (.inr w:fE)=(o w).map V.int:=O1.ow w;rw[how]at dg;refine⟨eC.of hp1,dU (j:=1) rfl,od,_,rfl,dg,_,rfl,?_⟩;cases ho:o w with
  | some x=>rw[ho]at dg;refine fi rfl ?_;refine⟨eC.of hp1,dU (j:=1) rfl,od,_,rfl,dg,?_⟩;refine⟨eC.of hp1,dU (j:=0) rfl,rfl,_,rfl,fi (by decide+kernel) ?_⟩;refine⟨eC.of hp1,dU (j:=1) rfl,od,_,rfl,dg,_,rfl,eM rfl (fF ?_)⟩;exact iV (e:=(.name w,mN,o)) O1 hp1 (s1 _ _ hkl) nkl (nks.same (iC s1)) (s1 _ _ hpl) few (by simp[ef,ho,kind]) λu H2 H3 s2 e3 n3=>hD u H2 H3 _ _ (s1.trans s2) e3 n3
  | none=>
   rw[ho]at dg;refine eM rfl ?_;refine⟨eC.of hp1,dU (j:=0) rfl,rfl,_,rfl,fi (by decide+kernel) ?_⟩;refine⟨eC.of hp1,dU (j:=1) rfl,od,_,rfl,dg,_,rfl,fi rfl ?_⟩;have gg:=iN.k (k:=.inr w) (s1 _ _ hgd);rcases hgiv w with⟨e1,e2⟩|⟨g,u,e1,e2,e3⟩
   ·rw[e2]at gg;refine⟨eC.of hp1,dU (j:=1) rfl,gd,_,rfl,gg,_,rfl,eM rfl ?_⟩;exact iV (e:=(.name w,mN,o)) O1 hp1 (s1 _ _ hkl) nkl (nks.same (iC s1)) (s1 _ _ hpl) few (by simp[ef,ho,e1,kind]) λu H2 H3 s2 e3 n3=>hD u H2 H3 _ _ (s1.trans s2) e3 n3
   ·rw[e2]at gg;refine⟨eC.of hp1,dU (j:=1) rfl,gd,_,rfl,gg,_,rfl,fi rfl ?_⟩;refine⟨.inl ⟨rfl,_,eK.of (s1 _ _ hpl)⟩,eC.of hp1,dU (j:=1) rfl,gd,_,rfl,gg,pl,_,_,rfl,rfl,s1 _ _ hpl,by rw[sizeLine_eq];lia,?_⟩;refine hD u H1 _ _ _ s1 rfl ?_;have:ef c src giv (.name w,mN,o) i ks=g:=by simp[ef,ho,e1]
    rw[this];exact e3.same (iC s1)
 | sum a b=>refine⟨eC.of hp,dU (j:=0) rfl,fT,eu λl H1 hl s1 g1=>?_⟩;have hp1:=s1 _ _ hp;refine⟨l,_,rfl,.inl (eK.of g1),rfl,rfl,_,rfl,?_⟩;refine eM (by decide+kernel) ?_;refine⟨eC.of hp1,dU (j:=0) rfl,rfl,_,rfl,?_⟩;refine eM (by decide+kernel) ?_;refine⟨eC.of hp1,dU (j:=0) rfl,rfl,_,rfl,?_⟩;refine eM (by decide+kernel) (fF ?_);refine⟨eC.of hp1,dU (j:=0) rfl,rfl,_,rfl,?_⟩;refine eM (by decide+kernel) (fF ?_);exact iV (e:=(.sum a b,mN,o)) (O.mono (dY s1) (gZ s1)) hp1 (s1 _ _ hkl) nkl (nks.same (iC s1)) (s1 _ _ hpl) few rfl λu H2 H3 s2 e3 n3=>hD u H2 H3 _ _ (s1.trans s2) e3 n3
 | less a b=>refine⟨eC.of hp,dU (j:=0) rfl,fT,eu λl H1 hl s1 g1=>?_⟩;have hp1:=s1 _ _ hp;refine⟨l,_,rfl,.inl (eK.of g1),rfl,rfl,_,rfl,?_⟩;refine eM (by decide+kernel) ?_;refine⟨eC.of hp1,dU (j:=0) rfl,rfl,_,rfl,?_⟩;refine eM (by decide+kernel) ?_;refine⟨eC.of hp1,dU (j:=0) rfl,rfl,_,rfl,?_⟩;refine eM (by decide+kernel) (fF ?_);refine⟨eC.of hp1,dU (j:=0) rfl,rfl,_,rfl,?_⟩;refine eM (by decide+kernel) (fF ?_);exact iV (e:=(.less a b,mN,o)) (O.mono (dY s1) (gZ s1)) hp1 (s1 _ _ hkl) nkl (nks.same (iC s1)) (s1 _ _ hpl) few rfl λu H2 H3 s2 e3 n3=>hD u H2 H3 _ _ (s1.trans s2) e3 n3
 | cho a b d=>refine⟨eC.of hp,dU (j:=0) rfl,fT,eu λl H1 hl s1 g1=>?_⟩;have hp1:=s1 _ _ hp;refine⟨l,_,rfl,.inl (eK.of g1),rfl,rfl,_,rfl,?_⟩;refine eM (by decide+kernel) ?_;refine⟨eC.of hp1,dU (j:=0) rfl,rfl,_,rfl,?_⟩;refine eM (by decide+kernel) ?_;refine⟨eC.of hp1,dU (j:=0) rfl,rfl,_,rfl,?_⟩;refine eM (by decide+kernel) (fF ?_);refine⟨eC.of hp1,dU (j:=0) rfl,rfl,_,rfl,?_⟩;refine eM (by decide+kernel) (fF ?_);exact iV (e:=(.cho a b d,mN,o)) (O.mono (dY s1) (gZ s1)) hp1 (s1 _ _ hkl) nkl (nks.same (iC s1)) (s1 _ _ hpl) few rfl λu H2 H3 s2 e3 n3=>hD u H2 H3 _ _ (s1.trans s2) e3 n3
 | lt w a b=>refine⟨eC.of hp,dU (j:=0) rfl,fT,eu λl H1 hl s1 g1=>?_⟩;have hp1:=s1 _ _ hp;refine⟨l,_,rfl,.inl (eK.of g1),rfl,rfl,_,rfl,?_⟩;refine eM (by decide+kernel) ?_;refine⟨eC.of hp1,dU (j:=0) rfl,rfl,_,rfl,?_⟩;refine fi (by decide+kernel) ?_;refine ?_;refine⟨eC.of hp1,dU (j:=0) rfl,rfl,_,rfl,?_⟩;refine eM (by decide+kernel) (fF ?_);refine⟨eC.of hp1,dU (j:=0) rfl,rfl,_,rfl,?_⟩;refine eM (by decide+kernel) (fF ?_);exact iV (e:=(.lt w a b,mN,o)) (O.mono (dY s1) (gZ s1)) hp1 (s1 _ _ hkl) nkl (nks.same (iC s1)) (s1 _ _ hpl) few rfl λu H2 H3 s2 e3 n3=>hD u H2 H3 _ _ (s1.trans s2) e3 n3
 | st0 w=>refine⟨eC.of hp,dU (j:=0) rfl,fT,eu λl H1 hl s1 g1=>?_⟩;have hp1:=s1 _ _ hp;refine⟨l,_,rfl,.inl (eK.of g1),rfl,rfl,_,rfl,?_⟩;refine fi (by decide+kernel) ?_;refine⟨eC.of hp1,dU (j:=1) rfl,?_⟩;refine⟨eC.of hp1,dU (j:=0) rfl,rfl,_,rfl,?_⟩;refine eM (by decide+kernel) ?_;refine⟨eC.of hp1,dU (j:=0) rfl,rfl,_,rfl,?_⟩;refine eM (by decide+kernel) (fF ?_);refine⟨eC.of hp1,dU (j:=0) rfl,rfl,_,rfl,?_⟩;refine eM (by decide+kernel) (fF ?_);exact iV (e:=(.st0 w,mN,o)) (O.mono (dY s1) (gZ s1)) hp1 (s1 _ _ hkl) nkl (nks.same (iC s1)) (s1 _ _ hpl) few rfl λu H2 H3 s2 e3 n3=>hD u H2 H3 _ _ (s1.trans s2) e3 n3
 | st1 w a=>refine⟨eC.of hp,dU (j:=0) rfl,fT,eu λl H1 hl s1 g1=>?_⟩;have hp1:=s1 _ _ hp;refine⟨l,_,rfl,.inl (eK.of g1),rfl,rfl,_,rfl,?_⟩;refine fi (by decide+kernel) ?_;refine⟨eC.of hp1,dU (j:=1) rfl,?_⟩;refine⟨eC.of hp1,dU (j:=0) rfl,rfl,_,rfl,?_⟩;refine eM (by decide+kernel) ?_;refine⟨eC.of hp1,dU (j:=0) rfl,rfl,_,rfl,?_⟩;refine eM (by decide+kernel) (fF ?_);refine⟨eC.of hp1,dU (j:=0) rfl,rfl,_,rfl,?_⟩;refine eM (by decide+kernel) (fF ?_);exact iV (e:=(.st1 w a,mN,o)) (O.mono (dY s1) (gZ s1)) hp1 (s1 _ _ hkl) nkl (nks.same (iC s1)) (s1 _ _ hpl) few rfl λu H2 H3 s2 e3 n3=>hD u H2 H3 _ _ (s1.trans s2) e3 n3
 | st2 w a b=>refine⟨eC.of hp,dU (j:=0) rfl,fT,eu λl H1 hl s1 g1=>?_⟩;have hp1:=s1 _ _ hp;refine⟨l,_,rfl,.inl (eK.of g1),rfl,rfl,_,rfl,?_⟩;refine fi (by decide+kernel) ?_;refine⟨eC.of hp1,dU (j:=1) rfl,?_⟩;refine⟨eC.of hp1,dU (j:=0) rfl,rfl,_,rfl,?_⟩;refine eM (by decide+kernel) ?_;refine⟨eC.of hp1,dU (j:=0) rfl,rfl,_,rfl,?_⟩;refine eM (by decide+kernel) (fF ?_);refine⟨eC.of hp1,dU (j:=0) rfl,rfl,_,rfl,?_⟩;refine eM (by decide+kernel) (fF ?_);exact iV (e:=(.st2 w a b,mN,o)) (O.mono (dY s1) (gZ s1)) hp1 (s1 _ _ hkl) nkl (nks.same (iC s1)) (s1 _ _ hpl) few rfl λu H2 H3 s2 e3 n3=>hD u H2 H3 _ _ (s1.trans s2) e3 n3
end S3
namespace SW
open PySem L2
theorem EL.get:∀{es:List En}{us:List V}{i:Nat}{e:En},EL H es us→es[i]?=some e→∃u,us[i]?=some u∧Bx H e u
 | _,_,0,_,.cons a r,h=>by cases h;exact⟨_,rfl,a⟩
 | _,_,i+1,_,.cons a r,h=>EL.get (i:=i) r h
theorem yb{us:List V}{n:Nat}(h:n≤us.length):ig us (some ((us.length:Int)-(n:Int))) none=us.drop (us.length-n):=by
 unfold ig;have e:HT.kH us.length 0 (some ((us.length:Int)-(n:Int)))=us.length-n:=by rw[show(us.length:Int)-(n:Int)=((us.length-n:Nat):Int) by lia,HT.KL];lia
 rw[e,HT.Ij,bW (by rw[ai];lia)]
theorem D3{us:List V}{n:Nat}(h:n≤us.length):ig us none (some ((us.length:Int)-(n:Int)))=us.take (us.length-n):=by
 unfold ig;have e:HT.kH us.length us.length (some ((us.length:Int)-(n:Int)))=us.length-n:=by rw[show(us.length:Int)-(n:Int)=((us.length-n:Nat):Int) by lia,HT.KL];lia
 rw[e,HT.Ij];simp
theorem q9(c:Int):∀(n:Nat)(st:List En)(i:Nat),∃st',(iL c st i).drop n=iL c st' (i+n)
 | 0,st,i=>⟨st,rfl⟩
 | n+1,[],i=>⟨[],by simp[iL]⟩
 | n+1,e::st,i=>by obtain⟨st',h⟩:=q9 c n (gv e (c+((i+1:Nat):Int))++st) (i+1);refine⟨st',?_⟩;rw[←ni,bH,h,show i+1+n=i+(n+1) by lia]
theorem qP(c:Int)(src:Str)(giv:Gi):∀(st:List En)(i:Nat),(iQ c src giv (iL c st i) i).length=st.length
 | [],i=>rfl
 | e::st,i=>by rw[iL,gK,aE,aE,qP c src giv st]
theorem uZ(c:Int)(src:Str)(giv:Gi):∀(es:List En)(i:Nat),(iQ c src giv es i).length≤es.length
 | [],_=>aC _
 | e::r,i=>by have:=uZ c src giv r (i+1);rw[iQ,aE,aE,ai];lia
theorem vj(h:(pre c t [] Ow.none 0).drop j=e::r):e.1.kids.length≤(iQ c src giv r (j+1)).length:=by
 obtain⟨st',hs⟩:=q9 c j [(t,[],Ow.none)] 0;have e0:iL c [(t,[],Ow.none)] 0=pre c t [] Ow.none 0:=by simp[iL]
 rw[e0,h,bw]at hs;cases st' with
 | nil=>cases hs
 | cons e' st=>rw[←ni]at hs;obtain⟨h1,h2⟩:=List.cons.inj hs;subst h1;rw[h2,qP,aD,qu];lia
end SW
namespace S3
open PySem L2 SW
variable {K:aA}{vs:List V}{H H₀:Hp}{Q:VK}{E:XK}
def NK(H:Hp)(v:V)(src:Str)(gd:Addr)(c:Int)(ol tl:Addr)(ous:List V)(t:T)(giv:Gi)(i m:Nat)(σ:St)(H':Hp):Prop:=m=ous.length-i∧i≤ous.length∧dq H H'∧H' ol=some (.lst ous)∧EL H' (pre c t [] Ow.none 0) ous∧∃pl pus j6 j7 j8 j9 j10 j11 j13 j14 j15,σ=[some v,some (.str src),some (.ref gd),some (.int c),some (.ref ol),some (.ref tl),j6,j7,j8,j9,j10,j11,some (.ref pl),j13,j14,j15]∧H' pl=some (.lst pus)∧gp H' (iQ c src giv ((pre c t [] Ow.none 0).drop (ous.length-i)) (ous.length-i)).reverse pus
theorem MT(h:lO vs H Q E):Kw K (gi Q) (start ["_law_piece","_law_source","_law_given","_law_count","_law_order","_law_todo","_law_part","_law_path","_law_own","_law_inner","_law_k","_law_near","_law_pile","_law_many","_law_kids","_law_extra"] vs) H:=by
 obtain⟨t,v,src,gd,gkvs,giv,c,rfl,hd0,hs,hgd,hgiv,k⟩:=h;refine⟨fT,eu λol H1 hol s1 g1=>?_⟩;refine⟨fT,eu λpp H2 hpp s2 g2=>?_⟩;refine λod hod=>?_;have s3:=dR (o:=.dK []) hod;have g3:(upd H2 od (.dK [])) od=some (.dK []):=dO;generalize upd H2 od (.dK [])=H3 at s3 g3⊢;refine⟨fT,eu λq H4 hq s4 g4=>?_⟩;refine⟨fT,λtl htl=>?_⟩;have s5:=dR (o:=.lst [.ref q]) htl;have g5:(upd H4 tl (.lst [.ref q])) tl=some (.lst [.ref q]):=dO;have ne5:ol≠tl:=λz=>by subst z;rw[(s2.trans (s3.trans s4)) _ _ g1]at htl;cases htl
 generalize upd H4 tl (.lst [.ref q])=H5 at s5 g5⊢;have u4:=s4.trans s5;have u3:=s3.trans u4;have u2:=s2.trans u3;have u1:=s1.trans u2;have e0:Bx H5 (t,[],Ow.none) (.ref q):=⟨q,pp,od,v,[],rfl,s5 _ _ g4,hd0.mono (dY u1),u3 _ _ g2,u4 _ _ g3,λw=>rfl,by simp;lia,by simp;lia⟩;have B:qV H H5 ol tl [] [(t,[],Ow.none)] [] [.ref q]:=⟨u1,hol,(s1.trans (s2.trans (s3.trans s4))).free htl,ne5,u2 _ _ g1,g5,.nil,.snoc (us:=[]) .nil e0⟩;refine vE (es:=pre c t [] Ow.none 0) B (by simp[iL]) (by simp[tH];lia) λous H6 j6 j7 j8 j9 j10 j11 s6 h6 el6=>?_;have hplen:=iO c t [] Ow.none 0;have holen:=el6.length;refine⟨fT,eu λpl H7 hpl s7 g7=>?_⟩;have b7:=s6.trans s7;refine⟨ol,_,rfl,.inl (eK.of (s7 _ _ h6)),_,rfl,_,rfl,(ous.length:Int)-1,-1,rfl,⟨by lia,by lia,by lia,by lia⟩,?_⟩;have en:((ous.length:Int)-1 - -1).toNat=ous.length:=by lia
 rw[en];refine⟨NK H v src gd c ol tl ous t giv,
  ⟨_,rfl,aU _,b7,s7 _ _ h6,el6.mono (dY s7) (gZ s7),pl,[],_,_,_,_,_,_,_,_,_,rfl,g7,by rw[br,ci (by lia)];exact .nil⟩,?_⟩
 clear B e0 g5 s5 g4 s4 g3 s3 g2 s2 g1 s1 u4 u3 u2 u1 s7 g7 hpl hq hod hpp h6 el6 s6 b7 j6 j7 j8 j9 j10 j11 pl;rintro i m σ H8 ⟨rfl,hi,s8,h8,el8,pl,pus,j6,j7,j8,j9,j10,j11,j13,j14,j15,rfl,hpl,np⟩;by_cases hn:i=ous.length
 ·refine .inl ⟨by show ous.length≤i;lia,?_⟩;rw[hn,bN,ah,ye]at np;cases np with
  | @cons n9 u9 ns9 us9 a r=>
  cases r;refine⟨eK.of hpl,dU (j:=0) rfl,ol,_,rfl,.inl (eK.of h8),fT,λr hr=>?_⟩;have sr:=dR (o:=.tup [u9,.int (c+(ous.length:Int))]) hr;refine k r _ _ (s8.trans sr) (a.same sr) ?_;rw[dO,holen,hplen]
 ·have hlt:i<ous.length:=by lia
  refine .inr ⟨show i<ous.length from hlt,_,λσ2 H2 h=>⟨ous.length-(i+1),by lia,h⟩,?_⟩;rintro v3 H9 ⟨rfl,rfl⟩;obtain⟨j,hj⟩:∃j:Nat,j=ous.length-1-i:=⟨_,rfl⟩;rw[show(ous.length:Int)-1-(i:Int)=(j:Int) by lia];obtain⟨e,he⟩:∃e,(pre c t [] Ow.none 0)[j]?=some e:=⟨(pre c t [] Ow.none 0)[j]'(by lia),by rw[aJ]⟩;obtain⟨u,hu,q,pp,od,pv,kvs,rfl,hq,den,hpp,hod,ow,f1,f2⟩:=el8.get he;obtain⟨p,ks',rfl,hp,dks⟩:=den.open;have hdrop:(pre c t [] Ow.none 0).drop (ous.length-(i+1))=e::(pre c t [] Ow.none 0).drop (ous.length-i):=by rw[show ous.length-(i+1)=j by lia,show ous.length-i=j+1 by lia];obtain⟨hjk,ee⟩:=aO.mp he;rw[bZ hjk,ee]
  have hidx:ous.length-i=(ous.length-(i+1))+1:=by lia
  have hji:ous.length-(i+1)=j:=by lia
  rw[hidx,hji]at np hdrop;have hkn:=vj (src:=src) (giv:=giv) hdrop;generalize hS:iQ c src giv ((pre c t [] Ow.none 0).drop (j+1)) (j+1)=S at np hkn;have hpl9:=np.length;rw[bX]at hpl9;have hSl:S.length≤5000:=by have:=uZ c src giv ((pre c t [] Ow.none 0).drop (j+1)) (j+1);rw[hS,ai]at this;lia
  refine⟨eK.of h8,dU hu,q,_,rfl,eC.of hq,rfl,_,_,rfl,_,_,rfl,_,_,rfl,rfl,?_⟩;refine⟨e.1,.ref p,rfl,den,λil us Ha sa na ha da=>⟨il,us,rfl,.inl (eK.of ha),?_⟩⟩;have hml:=da.length;have hmn:us.length≤pus.length:=by lia
  have hpa:=sa _ _ hpl;refine⟨pl,pus,rfl,.inl (eK.of hpa),_,rfl,pl,pus,rfl,eK.of hpa,λsl hsl=>?_⟩;rw[yb hmn];have sb:=dR (o:=.lst (pus.drop (pus.length-us.length))) hsl;have gb:(upd Ha sl (.lst (pus.drop (pus.length-us.length)))) sl=some (.lst (pus.drop (pus.length-us.length))):=dO;generalize upd Ha sl (.lst (pus.drop (pus.length-us.length)))=Hb at sb gb⊢;refine⟨sl,_,rfl,eK.of gb,eu λkl Hc hkl sc gc=>?_⟩;have sac:=sa.trans (sb.trans sc);have hpc:=sac _ _ hpl;refine⟨pl,pus,rfl,.inl (eK.of hpc),_,rfl,pl,pus,rfl,eK.of hpc,λpn hpn=>?_⟩;rw[D3 hmn];have sd:=dR (o:=.lst (pus.take (pus.length-us.length))) hpn;have gd':(upd Hc pn (.lst (pus.take (pus.length-us.length)))) pn=some (.lst (pus.take (pus.length-us.length))):=dO;generalize upd Hc pn (.lst (pus.take (pus.length-us.length)))=Hd at sd gd'⊢;have sad:=sac.trans sd;have r1:dq Hc (rY pn Hd):=wX sd hpn;have nS:gp H9 S pus.reverse:=by have:=np.reverse;rw[cH]at this;exact this
  have nk:gp (rY pn Hd) (S.take us.length) (pus.drop (pus.length-us.length)).reverse:=by have h1:=(nS.take us.length).same (sac.trans r1);rw[List.take_reverse]at h1;exact h1
  have nkl:kl≠pn:=dZ gc hpn;refine x9 (t:=e.1) (mN:=e.2.1) (o:=e.2.2) (i:=j) (ks:=S.take us.length) (giv:=giv) (gkvs:=gkvs) ⟨den.mono (dY sad),sad _ _ hpp,sad _ _ hod,ow,f1,f2⟩ (sad _ _ hp) (sd _ _ gc) nkl nk gd' (by rw[aj];lia) ((s8.trans sad) _ _ hgd) (hgiv.same (s8.trans (sac.trans r1))) λw Hx Hy jx jy sx ey nx=>?_;have r2:dq Hc (rY pn Hx):=wX (sd.trans sx) hpn;have r3:dq Hc Hy:=by rw[ey];exact r2.trans AM
  have s9y:dq H9 Hy:=sac.trans r3;refine⟨rfl,by lia,s8.trans s9y,s9y _ _ h8,el8.mono (dY s9y) (gZ s9y),pn,pus.take (pus.length-us.length)++[w],_,_,_,_,_,_,_,_,_,rfl,by rw[ey,dO],?_⟩;rw[hji,hdrop];show gp Hy (iQ c src giv (e::_) j).reverse _;rw[iQ,hS,←hml,ay];refine gp.append ?_ (.cons (nx.same (by rw[ey];exact AM)) .nil);have h2:=(np.take (pus.length-us.length)).same s9y;have e2:S.reverse.take (pus.length-us.length)=(S.drop us.length).reverse:=by rw[List.take_reverse,hpl9,show S.length-(S.length-us.length)=us.length by lia]
  rw[e2]at h2;exact h2
end S3
namespace S8
open PySem L2 SW S9
abbrev Fo:=Str→Option Int
abbrev Ba:=Int→Option Str
def kx(f:Fo)(x:Str)(i:Int):Fo:=λy=>if y=x then some i else f y
def la(b:Ba)(i:Int)(x:Str):Ba:=λj=>if j=i then some x else b j
theorem ka(h:y≠x):kx f x i y=f y:=if_neg h
theorem xC:kx f x i x=some i:=if_pos rfl
theorem oq(h:j≠i):la b i x j=b j:=if_neg h
theorem xJ:la b i x i=some x:=if_pos rfl
theorem qz(h:x≠y):kx (kx f x i) y j=kx (kx f y j) x i:=by
 funext z;unfold kx;by_cases h1:z=y
 ·subst h1;rw[if_pos rfl,if_neg h.symm,if_pos rfl]
 ·rw[if_neg h1,if_neg h1]
theorem rB(h:i≠j):la (la b i x) j y=la (la b j y) i x:=by
 funext z;unfold la;by_cases h1:z=j
 ·subst h1;rw[if_pos rfl,if_neg h.symm,if_pos rfl]
 ·rw[if_neg h1,if_neg h1]
abbrev ip(p:List Nat):List Int:=p.map λi:Nat=>(i:Int)
inductive Lo(c:Int):NT→Prop where
 | mk{k:Str}{x:V}{src:Str}{path:List Int}{ks:List NT}:(k="name"∨k="let"→∀i,x=.int i→i≤c)→(∀n∈ks,Lo c n)→Lo c (.mk k x src path ks)
theorem Lo.mono(h:c≤d)(l:Lo c n):Lo d n:=by
 induction l with
 | mk a _ ih=>exact .mk (λz i e=>Int.le_trans (a z i e) h) ih
theorem Lo.inv(h:Lo c (.mk k x src path ks)):(k="name"∨k="let"→∀i,x=.int i→i≤c)∧∀n∈ks,Lo c n:=by cases h with|mk a b=>exact⟨a,b⟩
inductive Gs(ws:List Str):Fo→Ba→T→NT→Prop where
 | num{f:Fo}{b:Ba}{m:Int}{src:Str}{path:List Int}:Gs ws f b (.num m) (.mk "number" (.int m) src path [])
 | bound{f:Fo}{b:Ba}{w:Str}{i:Int}{src:Str}{path:List Int}:w∈ws→f w=some i→b i=some w→Gs ws f b (.name w) (.mk "name" (.int i) src path [])
 | free{f:Fo}{b:Ba}{w:Str}{src:Str}{path:List Int}:w∈ws→f w=none→Gs ws f b (.name w) (.mk "name" (.str w) src path [])
 | sum{f:Fo}{b:Ba}{t1 t2:T}{n1 n2:NT}{src:Str}{path:List Int}:Gs ws f b t1 n1→Gs ws f b t2 n2→Gs ws f b (.sum t1 t2) (.mk "sum" .non src path [n1,n2])
 | less{f:Fo}{b:Ba}{t1 t2:T}{n1 n2:NT}{src:Str}{path:List Int}:Gs ws f b t1 n1→Gs ws f b t2 n2→Gs ws f b (.less t1 t2) (.mk "less" .non src path [n1,n2])
 | cho{f:Fo}{b:Ba}{t1 t2 t3:T}{n1 n2 n3:NT}{src:Str}{path:List Int}:Gs ws f b t1 n1→Gs ws f b t2 n2→Gs ws f b t3 n3→Gs ws f b (.cho t1 t2 t3) (.mk "choose" .non src path [n1,n2,n3])
 | lt{f:Fo}{b:Ba}{x:Str}{i:Int}{t1 t2:T}{n1 n2:NT}{src:Str}{path:List Int}:x∈ws→Gs ws f b t1 n1→Gs ws (kx f x i) (la b i x) t2 n2→Gs ws f b (.lt x t1 t2) (.mk "let" (.int i) src path [n1,n2])
theorem HJ{ws:List Str}{x w:Str}(hx:x∉ws)(a:w∈ws):w≠x:=λz=>hx (z▸a)
theorem Gs.mono(h:∀x∈ws,x∈ws')(g:Gs ws f b t n):Gs ws' f b t n:=by
 induction g with
 | num=>exact .num
 | bound a e1 e2=>exact .bound (h _ a) e1 e2
 | free a e=>exact .free (h _ a) e
 | sum _ _ i1 i2=>exact .sum i1 i2
 | less _ _ i1 i2=>exact .less i1 i2
 | cho _ _ _ i1 i2 i3=>exact .cho i1 i2 i3
 | lt a _ _ i1 i2=>exact .lt (h _ a) i1 i2
theorem Gs.more{ws:List Str}{f:Fo}{b:Ba}{t:T}{n:NT}(g:Gs ws f b t n){x:Str}{i:Int}(hx:x∉ws){c:Int}(l:Lo c n)(hi:c<i):Gs ws (kx f x i) (la b i x) t n:=by
 induction g with
 | num=>exact .num
 | @bound f b w j src path a e1 e2=>have hj:j≤c:=l.inv.1 (.inl rfl) j rfl;exact .bound a (by rw[ka (HJ hx a)];exact e1) (by rw[oq (by lia)];exact e2)
 | free a e=>exact .free a (by rw[ka (HJ hx a)];exact e)
 | sum _ _ i1 i2=>exact .sum (i1 (l.inv.2 _ (by simp))) (i2 (l.inv.2 _ (by simp)))
 | less _ _ i1 i2=>exact .less (i1 (l.inv.2 _ (by simp))) (i2 (l.inv.2 _ (by simp)))
 | cho _ _ _ i1 i2 i3=>exact .cho (i1 (l.inv.2 _ (by simp))) (i2 (l.inv.2 _ (by simp))) (i3 (l.inv.2 _ (by simp)))
 | @lt f b y j t1 t2 n1 n2 src path a _ _ i1 i2=>have hj:j≤c:=l.inv.1 (.inr rfl) j rfl;have hxy:x≠y:=(HJ hx a).symm;refine .lt a (i1 (l.inv.2 _ (by simp))) ?_;rw[qz hxy,rB (by lia)];exact i2 (l.inv.2 _ (by simp))
inductive IH:NT→Prop where
 | mk{k:Str}{x:V}{src:Str}{path:List Int}{ks:List NT}:k≠"stamp"→(∀n∈ks,IH n)→IH (.mk k x src path ks)
theorem Gs.ns(g:Gs ws f b t n):IH n:=by
 induction g with
 | num=>exact .mk (by decide+kernel) (by simp)
 | bound=>exact .mk (by decide+kernel) (by simp)
 | free=>exact .mk (by decide+kernel) (by simp)
 | sum _ _ i1 i2=>exact .mk (by decide+kernel) (by simp[i1,i2])
 | less _ _ i1 i2=>exact .mk (by decide+kernel) (by simp[i1,i2])
 | cho _ _ _ i1 i2 i3=>exact .mk (by decide+kernel) (by simp[i1,i2,i3])
 | lt _ _ _ i1 i2=>exact .mk (by decide+kernel) (by simp[i1,i2])
mutual
def lW:NT→List (Str×List Int)
 | .mk _ _ src path ks=>(src,path)::mC ks
def mC:List NT→List (Str×List Int)
 | []=>[]
 | n::ns=>lW n++mC ns
end
theorem oF(a b:List NT):mC (a++b)=mC a++mC b:=by
 induction a with
 | nil=>rfl
 | cons n a ih=>rw[aN,mC,mC,ih,aT]
abbrev cv(s:kh):Str×List Int:=(s.1,ip s.2)
mutual
def gf:NT→Nat
 | .mk _ _ _ _ ks=>1+fK ks
def fK:List NT→Nat
 | []=>0
 | n::ns=>gf n+fK ns
end
inductive Rp(W:List (T×List kh)):List Str→Fo→Ba→eF→NT→Prop where
 | num{ws:List Str}{f:Fo}{b:Ba}{s:eF}{m:Int}:s.t=.num m→Rp W ws f b s (.mk "number" (.int m) s.src (ip s.path) [])
 | free{ws:List Str}{f:Fo}{b:Ba}{s:eF}{w:Str}:s.t=.name w→s.e.look w=none→w∈ws→f w=none→Rp W ws f b s (.mk "name" (.str w) s.src (ip s.path) [])
 | called{ws:List Str}{f:Fo}{b:Ba}{s:eF}{w x:Str}{i:Int}:s.t=.name w→s.e.look w=some (.called x)→x∈ws→f x=some i→b i=some x→Rp W ws f b s (.mk "name" (.int i) s.src (ip s.path) [])
 | ready{ws:List Str}{f:Fo}{b:Ba}{s:eF}{w:Str}{k z:Nat}{t:T}{ss:List kh}{n:NT}:s.t=.name w→s.e.look w=some (.ready k z)→W[k]?=some (t,ss)→Gs ws f b t n→lW n=ss.map cv→gf n=z→Rp W ws f b s n
 | handed{ws:List Str}{f:Fo}{b:Ba}{s:eF}{w:Str}{t:T}{src:Str}{path:List Nat}{e:S9.En}{n:NT}:s.t=.name w→s.e.look w=some (.handed t src path e)→Rp W ws f b ⟨t,src,path,e⟩ n→Rp W ws f b s n
 | sum{ws:List Str}{f:Fo}{b:Ba}{s:eF}{t1 t2:T}{n1 n2:NT}:s.t=.sum t1 t2→Rp W ws f b (s.kid 0 t1) n1→Rp W ws f b (s.kid 1 t2) n2→Rp W ws f b s (.mk "sum" .non s.src (ip s.path) [n1,n2])
 | less{ws:List Str}{f:Fo}{b:Ba}{s:eF}{t1 t2:T}{n1 n2:NT}:s.t=.less t1 t2→Rp W ws f b (s.kid 0 t1) n1→Rp W ws f b (s.kid 1 t2) n2→Rp W ws f b s (.mk "less" .non s.src (ip s.path) [n1,n2])
 | cho{ws:List Str}{f:Fo}{b:Ba}{s:eF}{t1 t2 t3:T}{n1 n2 n3:NT}:s.t=.cho t1 t2 t3→Rp W ws f b (s.kid 0 t1) n1→Rp W ws f b (s.kid 1 t2) n2→Rp W ws f b (s.kid 2 t3) n3→Rp W ws f b s (.mk "choose" .non s.src (ip s.path) [n1,n2,n3])
 | lt{ws:List Str}{f:Fo}{b:Ba}{s:eF}{w:Str}{t1 t2:T}{n1 n2:NT}{i:Int}:s.t=.lt w t1 t2→Rp W ws f b (s.kid 0 t1) n1→(∀x,x∉ws→Rp W (x::ws) (kx f x i) (la b i x) ⟨t2,s.src,s.path++[1],s.e.put w (.called x)⟩ n2)→Rp W ws f b s (.mk "let" (.int i) s.src (ip s.path) [n1,n2])
 | st0{ws:List Str}{f:Fo}{b:Ba}{s:eF}{w:Str}:s.t=.st0 w→Rp W ws f b s (.mk "stamp" (.str w) s.src (ip s.path) [])
 | st1{ws:List Str}{f:Fo}{b:Ba}{s:eF}{w:Str}{t1:T}{n1:NT}:s.t=.st1 w t1→Rp W ws f b (s.kid 0 t1) n1→Rp W ws f b s (.mk "stamp" (.str w) s.src (ip s.path) [n1])
 | st2{ws:List Str}{f:Fo}{b:Ba}{s:eF}{w:Str}{t1 t2:T}{n1 n2:NT}:s.t=.st2 w t1 t2→Rp W ws f b (s.kid 0 t1) n1→Rp W ws f b (s.kid 1 t2) n2→Rp W ws f b s (.mk "stamp" (.str w) s.src (ip s.path) [n1,n2])
theorem Rp.mono(hW:∀(k:Nat)(p:T×List kh),W[k]?=some p→W'[k]?=some p)(h:Rp W ws f b s n):∀{ws':List Str},(∀x∈ws,x∈ws')→Rp W' ws' f b s n:=by
 induction h with
 | num e=>exact λ_=>.num e
 | free e l m g=>exact λhs=>.free e l (hs _ m) g
 | called e l m g1 g2=>exact λhs=>.called e l (hs _ m) g1 g2
 | ready e l hk g hs hz=>exact λz=>.ready e l (hW _ _ hk) (g.mono z) hs hz
 | handed e l _ ih=>exact λz=>.handed e l (ih z)
 | sum e _ _ i1 i2=>exact λz=>.sum e (i1 z) (i2 z)
 | less e _ _ i1 i2=>exact λz=>.less e (i1 z) (i2 z)
 | cho e _ _ _ i1 i2 i3=>exact λz=>.cho e (i1 z) (i2 z) (i3 z)
 | lt e _ _ i1 i2=>exact λz=>.lt e (i1 z) λx hx=>i2 x (λq=>hx (z x q)) (λy hy=>by
   rcases aB.mp hy with rfl|hy
   ·exact .head _
   ·exact .tail _ (z y hy))
 | st0 e=>exact λ_=>.st0 e
 | st1 e _ i1=>exact λz=>.st1 e (i1 z)
 | st2 e _ _ i1 i2=>exact λz=>.st2 e (i1 z) (i2 z)
theorem Rp.more{W:List (T×List kh)}{ws:List Str}{f:Fo}{b:Ba}{s:eF}{n:NT}(h:Rp W ws f b s n){x:Str}{i c:Int}(hi:c<i):x∉ws→Lo c n→Rp W (x::ws) (kx f x i) (la b i x) s n:=by
 have sub:∀{ws:List Str}{x:Str},∀y∈ws,y∈x::ws:=λy hy=>.tail _ hy;induction h with
 | num e=>exact λ_ _=>.num e
 | free e l m g=>exact λhx _=>.free e l (.tail _ m) (by rw[ka (HJ hx m)];exact g)
 | @called ws f b s w y j e l m g1 g2=>intro hx lo;have hj:j≤c:=lo.inv.1 (.inl rfl) j rfl;exact .called e l (.tail _ m) (by rw[ka (HJ hx m)];exact g1) (by rw[oq (by lia)];exact g2)
 | ready e l hk g hs hz=>exact λhx lo=>.ready e l hk ((g.more hx lo hi).mono sub) hs hz
 | handed e l _ ih=>exact λhx lo=>.handed e l (ih hx lo)
 | sum e _ _ i1 i2=>exact λhx lo=>.sum e (i1 hx (lo.inv.2 _ (by simp))) (i2 hx (lo.inv.2 _ (by simp)))
 | less e _ _ i1 i2=>exact λhx lo=>.less e (i1 hx (lo.inv.2 _ (by simp))) (i2 hx (lo.inv.2 _ (by simp)))
 | cho e _ _ _ i1 i2 i3=>exact λhx lo=>.cho e (i1 hx (lo.inv.2 _ (by simp))) (i2 hx (lo.inv.2 _ (by simp))) (i3 hx (lo.inv.2 _ (by simp)))
 | @lt ws f b s w t1 t2 n1 n2 j e _ _ i1 i2=>
  intro hx lo;have hj:j≤c:=lo.inv.1 (.inr rfl) j rfl;refine .lt e (i1 hx (lo.inv.2 _ (by simp))) λy hy=>?_;have hyx:y≠x:=λz=>hy (by rw[z];exact .head _);have hyw:y∉ws:=λz=>hy (.tail _ z);have:=i2 y hyw (λz=>by rcases aB.mp z with z|z;exact hyx z.symm;exact hx z) (lo.inv.2 _ (by simp));rw[qz hyx,rB (by lia)]at this;refine this.mono (λ_ _ z=>z) (λz hz=>?_);simp only[aB]at hz⊢;rcases hz with rfl|rfl|hz
  ·exact .inr (.inl rfl)
  ·exact .inl rfl
  ·exact .inr (.inr hz)
 | st0 e=>exact λ_ _=>.st0 e
 | st1 e _ i1=>exact λhx lo=>.st1 e (i1 hx (lo.inv.2 _ (by simp)))
 | st2 e _ _ i1 i2=>exact λhx lo=>.st2 e (i1 hx (lo.inv.2 _ (by simp))) (i2 hx (lo.inv.2 _ (by simp)))
end S8
namespace S8
open PySem L2 SW S9
theorem IG(p:List Nat):ip (p++[0])=ip p++[0]:=by simp[ip]
theorem Jp(p:List Nat):ip (p++[1])=ip p++[1]:=by simp[ip]
theorem NE(p:List Nat):ip (p++[2])=ip p++[2]:=by simp[ip]
def Bv(W:List (T×List kh))(ws:List Str)(f:Fo)(b:Ba):Mg→NT→Prop
 | .called _,_=>False
 | .ready k z,g=>∃t ss,W[k]?=some (t,ss)∧Gs ws f b t g∧lW g=ss.map cv∧gf g=z
 | .handed t src path e,g=>Rp W ws f b ⟨t,src,path,e⟩ g
theorem Bv.more(hi:c<i)(hx:x∉ws):∀{m:Mg}{g:NT},Bv W ws f b m g→Lo c g→Bv W (x::ws) (kx f x i) (la b i x) m g
 | .called _,_,h,_=>h.elim
 | .ready k _,g,h,l=>by obtain⟨t,ss,h1,h2,h3⟩:=h;exact⟨t,ss,h1,(h2.more hx l hi).mono λy hy=>.tail _ hy,h3⟩
 | .handed t src path e,g,h,l=>Rp.more (s:=⟨t,src,path,e⟩) h hi hx l
theorem Bv.mono(hW:∀(k:Nat)(p:T×List kh),W[k]?=some p→W'[k]?=some p)(hs:∀x∈ws,x∈ws'):∀{m:Mg}{g:NT},Bv W ws f b m g→Bv W' ws' f b m g
 | .called _,_,h=>h
 | .ready k _,g,h=>by obtain⟨t,ss,h1,h2,h3⟩:=h;exact⟨t,ss,hW _ _ h1,h2.mono hs,h3⟩
 | .handed t src path e,g,h=>Rp.mono hW (s:=⟨t,src,path,e⟩) h hs
theorem DL(e:s.t=.name w)(l:s.e.look w=some m)(h:Bv W ws f b m g):Rp W ws f b s g:=by
 cases m with
 | called _=>exact h.elim
 | ready k z=>obtain⟨t,ss,h1,h2,h3⟩:=h;exact .ready e l h1 h2 h3.1 h3.2
 | handed t src path en=>exact .handed e l h
structure Er(W:List (T×List kh))(OUT:Str→Prop)(giv:Gi)(c:Int)(ws:List Str)(f:Fo)(b:Ba)(e:S9.En)(o:Ow)(i:Nat):Prop where
 own:∀w id,o w=some id→∃x,e.look w=some (.called x)∧x∈ws∧f x=some id∧b id=some x∧id≤c+i
 giv_:∀w g,o w=none→giv w=some g→∃m,e.look w=some m∧Bv W ws f b m g∧Lo c g
 out:∀w,o w=none→giv w=none→OUT w→e.look w=none∧f w=none∧w∈ws
theorem Er.le(h:Er W OUT giv c ws f b e o i)(hij:i≤j):Er W OUT giv c ws f b e o j:=
 ⟨λw id hw=>by
  obtain⟨x,h1,h2,h3,h4,h5⟩:=h.own w id hw;exact⟨x,h1,h2,h3,h4,by lia⟩,h.giv_,h.out⟩
theorem Er.lt(h:Er W OUT giv c ws f b e o i)(hx:x∉ws):Er W OUT giv c (x::ws) (kx f x (c+((i+1:Nat):Int))) (la b (c+((i+1:Nat):Int)) x) (e.put v (.called x)) (Ow.put o v (c+((i+1:Nat):Int))) (i+1):=by
 refine⟨λw id hw=>?_,λw g hw hg=>?_,λw hw hg ho=>?_⟩
 ·unfold Ow.put at hw;by_cases hv:w=v
  ·rw[if_pos hv]at hw;cases hw;subst hv;exact⟨x,by rw[En.look_put,if_pos rfl],.head _,xC,xJ,Int.le_refl _⟩
  ·rw[if_neg hv]at hw;obtain⟨y,h1,h2,h3,h4,h5⟩:=h.own w id hw;exact⟨y,by rw[En.look_put,if_neg (λz=>hv z.symm)];exact h1,.tail _ h2,by rw[ka (HJ hx h2)];exact h3,by rw[oq (by lia)];exact h4,by lia⟩
 ·unfold Ow.put at hw;by_cases hv:w=v
  ·rw[if_pos hv]at hw;cases hw
  ·rw[if_neg hv]at hw;obtain⟨m,h1,h2,h3⟩:=h.giv_ w g hw hg;exact⟨m,by rw[En.look_put,if_neg (λz=>hv z.symm)];exact h1,h2.more (c:=c) (by lia) hx h3,h3⟩
 ·unfold Ow.put at hw;by_cases hv:w=v
  ·rw[if_pos hv]at hw;cases hw
  ·rw[if_neg hv]at hw;obtain⟨h1,h2,h3⟩:=h.out w hw hg ho;exact⟨by rw[En.look_put,if_neg (λz=>hv z.symm)];exact h1,by rw[ka (HJ hx h3)];exact h2,.tail _ h3⟩
theorem lX:∀(t:T){ws:List Str}{f:Fo}{b:Ba}{e:S9.En}{o:Ow}{i:Nat}{path:List Nat},Er W OUT giv c ws f b e o i→(∀w,t.out w→o w=none→giv w=none→OUT w)→Rp W ws f b ⟨t,src,path,e⟩ (nt c src giv t (ip path) o i)
 | .num n,ws,f,b,e,o,i,path,C,h=>Rp.num (s:=⟨.num n,src,path,e⟩) rfl
 | .name w,ws,f,b,e,o,i,path,C,h=>by
  simp only[nt,ef];cases ho:o w with
  | some id=>obtain⟨x,h1,h2,h3,h4,_⟩:=C.own w id ho;exact Rp.called (s:=⟨.name w,src,path,e⟩) rfl h1 h2 h3 h4
  | none=>
   cases hg:giv w with
   | some g=>obtain⟨m,h1,h2,_⟩:=C.giv_ w g ho hg;exact DL (s:=⟨.name w,src,path,e⟩) rfl h1 h2
   | none=>obtain⟨h1,h2,h3⟩:=C.out w ho hg (h w rfl ho hg);exact Rp.free (s:=⟨.name w,src,path,e⟩) rfl h1 h3 h2
 | .sum p q,ws,f,b,e,o,i,path,C,h=>by simp only[nt,ef];have h1:=lX (src:=src) p (path:=path++[0]) (C.le (bQ i)) (λw z=>h w (.inl z));have h2:=lX (src:=src) q (path:=path++[1]) (C.le (show i≤i+1+p.size by lia)) (λw z=>h w (.inr z));rw[IG]at h1;rw[Jp]at h2;exact Rp.sum (s:=⟨.sum p q,src,path,e⟩) rfl h1 h2
 | .less p q,ws,f,b,e,o,i,path,C,h=>by simp only[nt,ef];have h1:=lX (src:=src) p (path:=path++[0]) (C.le (bQ i)) (λw z=>h w (.inl z));have h2:=lX (src:=src) q (path:=path++[1]) (C.le (show i≤i+1+p.size by lia)) (λw z=>h w (.inr z));rw[IG]at h1;rw[Jp]at h2;exact Rp.less (s:=⟨.less p q,src,path,e⟩) rfl h1 h2
 | .cho p q r,ws,f,b,e,o,i,path,C,h=>by simp only[nt,ef];have h1:=lX (src:=src) p (path:=path++[0]) (C.le (bQ i)) (λw z=>h w (.inl z));have h2:=lX (src:=src) q (path:=path++[1]) (C.le (show i≤i+1+p.size by lia)) (λw z=>h w (.inr (.inl z)));have h3:=lX (src:=src) r (path:=path++[2]) (C.le (show i≤i+1+p.size+q.size by lia)) (λw z=>h w (.inr (.inr z)));rw[IG]at h1;rw[Jp]at h2;rw[NE]at h3;exact Rp.cho (s:=⟨.cho p q r,src,path,e⟩) rfl h1 h2 h3
 | .lt v p q,ws,f,b,e,o,i,path,C,h=>by
  simp only[nt,ef];have h1:=lX (src:=src) p (path:=path++[0]) (C.le (bQ i)) (λw z=>h w (.inl z));rw[IG]at h1;rw[show c+(i:Int)+1=c+((i+1:Nat):Int) by lia];refine Rp.lt (s:=⟨.lt v p q,src,path,e⟩) rfl h1 λx hx=>?_;have h2:=lX (src:=src) q (path:=path++[1]) ((C.lt (v:=v) hx).le (show i+1≤i+1+p.size by lia)) (λw z hw hg=>by
   unfold Ow.put at hw;by_cases hv:w=v
   ·rw[if_pos hv]at hw;cases hw
   ·rw[if_neg hv]at hw;exact h w (.inr ⟨λz=>hv z.symm,z⟩) hw hg)
  rw[Jp]at h2;exact h2
 | .st0 w,ws,f,b,e,o,i,path,C,h=>Rp.st0 (s:=⟨.st0 w,src,path,e⟩) rfl
 | .st1 w p,ws,f,b,e,o,i,path,C,h=>by simp only[nt,ef];have h1:=lX (src:=src) p (path:=path++[0]) (C.le (bQ i)) (λw z=>h w z);rw[IG]at h1;exact Rp.st1 (s:=⟨.st1 w p,src,path,e⟩) rfl h1
 | .st2 w p q,ws,f,b,e,o,i,path,C,h=>by simp only[nt,ef];have h1:=lX (src:=src) p (path:=path++[0]) (C.le (bQ i)) (λw z=>h w (.inl z));have h2:=lX (src:=src) q (path:=path++[1]) (C.le (show i≤i+1+p.size by lia)) (λw z=>h w (.inr z));rw[IG]at h1;rw[Jp]at h2;exact Rp.st2 (s:=⟨.st2 w p q,src,path,e⟩) rfl h1 h2
theorem jt(hg:∀w g,giv w=some g→Lo c g):∀(t:T)(p:List Int)(o:Ow)(i:Nat),(∀w id,o w=some id→id≤c+i)→Lo (c+i+t.size) (nt c src giv t p o i)
 | .num n,p,o,i,h=>.mk (λz=>by rcases z with z|z<;>exact absurd z (by decide+kernel)) (by simp)
 | .name w,p,o,i,h=>by
  simp only[nt,ef];cases ho:o w with
  | some id=>exact .mk (λ_ j e=>by cases e;have:=h w id ho;simp only[T.size];lia) (by simp)
  | none=>
   cases hgw:giv w with
   | some g=>exact(hg w g hgw).mono (by simp only[T.size];lia)
   | none=>exact .mk (λ_ j e=>by cases e) (by simp)
 | .sum a b,p,o,i,h=>by
  have h1:=jt (src:=src) hg a (p++[0]) o (i+1) (λw id z=>by have:=h w id z;lia);have h2:=jt (src:=src) hg b (p++[1]) o (i+1+a.size) (λw id z=>by have:=h w id z;lia);simp only[nt,ef,T.size];refine .mk (λz=>by rcases z with z|z<;>exact absurd z (by decide+kernel)) (λn hn=>?_);simp only[aB,aF,or_false]at hn;rcases hn with rfl|rfl
  ·exact h1.mono (by lia)
  ·exact h2.mono (by lia)
 | .less a b,p,o,i,h=>by
  have h1:=jt (src:=src) hg a (p++[0]) o (i+1) (λw id z=>by have:=h w id z;lia);have h2:=jt (src:=src) hg b (p++[1]) o (i+1+a.size) (λw id z=>by have:=h w id z;lia);simp only[nt,ef,T.size];refine .mk (λz=>by rcases z with z|z<;>exact absurd z (by decide+kernel)) (λn hn=>?_);simp only[aB,aF,or_false]at hn;rcases hn with rfl|rfl
  ·exact h1.mono (by lia)
  ·exact h2.mono (by lia)
 | .cho a b d,p,o,i,h=>by
  have h1:=jt (src:=src) hg a (p++[0]) o (i+1) (λw id z=>by have:=h w id z;lia);have h2:=jt (src:=src) hg b (p++[1]) o (i+1+a.size) (λw id z=>by have:=h w id z;lia);have h3:=jt (src:=src) hg d (p++[2]) o (i+1+a.size+b.size) (λw id z=>by have:=h w id z;lia);simp only[nt,ef,T.size];refine .mk (λz=>by rcases z with z|z<;>exact absurd z (by decide+kernel)) (λn hn=>?_);simp only[aB,aF,or_false]at hn;rcases hn with rfl|rfl|rfl
  ·exact h1.mono (by lia)
  ·exact h2.mono (by lia)
  ·exact h3.mono (by lia)
 | .lt v a b,p,o,i,h=>by
  have h1:=jt (src:=src) hg a (p++[0]) o (i+1) (λw id z=>by have:=h w id z;lia);have h2:=jt (src:=src) hg b (p++[1]) (Ow.put o v (c+((i+1:Nat):Int))) (i+1+a.size) (λw id z=>by
   unfold Ow.put at z;split at z
   ·cases z;lia
   ·have:=h w id z;lia)
  simp only[nt,ef,T.size];refine .mk (λ_ j e=>by cases e;lia) (λn hn=>?_);simp only[aB,aF,or_false]at hn;rcases hn with rfl|rfl
  ·exact h1.mono (by lia)
  ·exact h2.mono (by lia)
 | .st0 w,p,o,i,h=>.mk (λz=>by rcases z with z|z<;>exact absurd z (by decide+kernel)) (by simp)
 | .st1 w a,p,o,i,h=>by have h1:=jt (src:=src) hg a (p++[0]) o (i+1) (λw id z=>by have:=h w id z;lia);simp only[nt,ef,T.size];refine .mk (λz=>by rcases z with z|z<;>exact absurd z (by decide+kernel)) (λn hn=>?_);simp only[aB,aF,or_false]at hn;subst hn;exact h1.mono (by lia)
 | .st2 w a b,p,o,i,h=>by
  have h1:=jt (src:=src) hg a (p++[0]) o (i+1) (λw id z=>by have:=h w id z;lia);have h2:=jt (src:=src) hg b (p++[1]) o (i+1+a.size) (λw id z=>by have:=h w id z;lia);simp only[nt,ef,T.size];refine .mk (λz=>by rcases z with z|z<;>exact absurd z (by decide+kernel)) (λn hn=>?_);simp only[aB,aF,or_false]at hn;rcases hn with rfl|rfl
  ·exact h1.mono (by lia)
  ·exact h2.mono (by lia)
end S8
namespace S8
open PySem L2 SW S9
inductive It where
 | r(x:Rw)
 | s(x:eF)
def It.isR:It→Prop
 | .r _=>True
 | .s _=>False
def It.wt:It→Nat
 | .r x=>x.wt
 | .s x=>x.wt 0
def vx(I:List It):Nat:=(I.map It.wt).sum
theorem kR(a b:List It):vx (a++b)=vx a+vx b:=by simp[vx]
theorem oz(a:It)(b:List It):vx (a::b)=a.wt+vx b:=by simp[vx]
abbrev rI(R:List Rw):List It:=R.map .r
abbrev sI(S:List eF):List It:=S.map .s
theorem IM(R:List Rw):vx (rI R)=kn R:=by simp[vx,kn,cj,It.wt]
theorem IL(S:List eF):vx (sI S)=lM 0 S:=by simp[vx,lM,cj,It.wt]
def Mn(k:Str)(h:Hd):Prop:=(k="sum"∧h=.sum)∨(k="less"∧h=.less)
inductive TR(W:List (T×List kh))(ws0 ws:List Str):Fo→Ba→List It→NT→Prop where
 | spot{f:Fo}{b:Ba}{s:eF}{n:NT}:Rp W ws f b s n→TR W ws0 ws f b [.s s] n
 | num{f:Fo}{b:Ba}{m:Int}{src:Str}{path:List Nat}:TR W ws0 ws f b [.r (.row (.num m) src path)] (.mk "number" (.int m) src (ip path) [])
 | free{f:Fo}{b:Ba}{w:Str}{src:Str}{path:List Nat}:w∈ws→f w=none→TR W ws0 ws f b [.r (.row (.name w) src path)] (.mk "name" (.str w) src (ip path) [])
 | bound{f:Fo}{b:Ba}{w:Str}{i:Int}{src:Str}{path:List Nat}:w∈ws→f w=some i→b i=some w→TR W ws0 ws f b [.r (.row (.name w) src path)] (.mk "name" (.int i) src (ip path) [])
 | rdy{f:Fo}{b:Ba}{k z:Nat}{t:T}{ss:List kh}{n:NT}:W[k]?=some (t,ss)→Gs ws f b t n→lW n=ss.map cv→gf n=z→TR W ws0 ws f b [.r (.rdy k z)] n
 | two{f:Fo}{b:Ba}{k:Str}{h:Hd}{I1 I2:List It}{n1 n2:NT}{src:Str}{path:List Nat}:Mn k h→TR W ws0 ws f b I1 n1→TR W ws0 ws f b I2 n2→TR W ws0 ws f b (.r (.row h src path)::(I1++I2)) (.mk k .non src (ip path) [n1,n2])
 | cho{f:Fo}{b:Ba}{I1 I2 I3:List It}{n1 n2 n3:NT}{src:Str}{path:List Nat}:TR W ws0 ws f b I1 n1→TR W ws0 ws f b I2 n2→TR W ws0 ws f b I3 n3→TR W ws0 ws f b (.r (.row .cho src path)::(I1++(I2++I3))) (.mk "choose" .non src (ip path) [n1,n2,n3])
 | lt{f:Fo}{b:Ba}{x:Str}{i:Int}{I1 I2:List It}{n1 n2:NT}{src:Str}{path:List Nat}:x∈ws→x∉ws0→TR W ws0 ws f b I1 n1→TR W ws0 ws (kx f x i) (la b i x) I2 n2→TR W ws0 ws f b (.r (.row (.lt x) src path)::(I1++I2)) (.mk "let" (.int i) src (ip path) [n1,n2])
abbrev Le(W W':List (T×List kh)):Prop:=∀(k:Nat)(p:T×List kh),W[k]?=some p→W'[k]?=some p
theorem TR.mono(hW:Le W W')(hs:∀x∈ws,x∈ws')(h:TR W ws0 ws f b I n):TR W' ws0 ws' f b I n:=by
 induction h with
 | spot a=>exact .spot (a.mono hW hs)
 | num=>exact .num
 | free a e=>exact .free (hs _ a) e
 | bound a e1 e2=>exact .bound (hs _ a) e1 e2
 | rdy k g s z=>exact .rdy (hW _ _ k) (g.mono hs) s z
 | two k _ _ i1 i2=>exact .two k i1 i2
 | cho _ _ _ i1 i2 i3=>exact .cho i1 i2 i3
 | lt a a2 _ _ i1 i2=>exact .lt (hs _ a) a2 i1 i2
mutual
def fst:NT→Option (List Nat)
 | .mk k _ _ _ ks=>if k="stamp" then some []else jh ks 0
def jh:List NT→Nat→Option (List Nat)
 | [],_=>none
 | n::ns,i=>match fst n with
  | some p=>some (i::p)
  | none=>jh ns (i+1)
end
def iS:NT→List Nat→Option NT
 | n,[]=>some n
 | .mk _ _ _ _ ks,i::p=>match ks[i]? with
  | some m=>iS m p
  | none=>none
def ia:NT→List Nat→NT→NT
 | _,[],m=>m
 | .mk k x src path ks,i::p,m=>.mk k x src path (ks.set i (match ks[i]? with|some n=>ia n p m|none=>m))
mutual
theorem ng:∀{n:NT},IH n→fst n=none
 | .mk k x src path ks,.mk h1 h2=>by rw[fst,if_neg h1];exact xB h2 0
theorem xB:∀{ks:List NT},(∀n∈ks,IH n)→∀i,jh ks i=none
 | [],_,_=>by rw[jh]
 | n::ns,h,i=>by rw[jh,ng (h n (.head _))];exact xB (λm hm=>h m (.tail _ hm)) (i+1)
end
theorem rZ(h:TR W ws0 ws f b I n):(∀x∈I,x.isR)→IH n:=by
 induction h with
 | spot a=>exact λz=>(z _ (.head _)).elim
 | num=>exact λ_=>.mk (by decide+kernel) (by simp)
 | free=>exact λ_=>.mk (by decide+kernel) (by simp)
 | bound=>exact λ_=>.mk (by decide+kernel) (by simp)
 | rdy _ g=>exact λ_=>g.ns
 | two k _ _ i1 i2=>intro z;have h1:=i1 λx hx=>z x (by simp[hx]);have h2:=i2 λx hx=>z x (by simp[hx]);refine .mk ?_ (by simp[h1,h2]);rcases k with⟨rfl,_⟩|⟨rfl,_⟩<;>decide+kernel
 | cho _ _ _ i1 i2 i3=>intro z;have h1:=i1 λx hx=>z x (by simp[hx]);have h2:=i2 λx hx=>z x (by simp[hx]);have h3:=i3 λx hx=>z x (by simp[hx]);exact .mk (by decide+kernel) (by simp[h1,h2,h3])
 | lt _ _ _ _ i1 i2=>intro z;have h1:=i1 λx hx=>z x (by simp[hx]);have h2:=i2 λx hx=>z x (by simp[hx]);exact .mk (by decide+kernel) (by simp[h1,h2])
def Jo:NT→Prop
 | .mk k _ _ _ _=>k="stamp"
abbrev Cx(ws0:List Str)(f:Fo):Prop:=∀x i,f x=some i→x∉ws0
structure At(W:List (T×List kh))(ws0 ws:List Str)(f:Fo)(b:Ba)(A:List It)(s:eF)(B:List It)(n:NT)(p:List Nat)(f':Fo)(b':Ba)(m:NT):Prop where
 get:iS n p=some m
 rp:Rp W ws f' b' s m
 cx:Cx ws0 f'
 st:Jo m→fst n=some p
 put:ia n p m=n
 tr:∀{W':List (T×List kh)}{ws':List Str},Le W W'→(∀x∈ws,x∈ws')→∀{J:List It}{m':NT},TR W' ws0 ws' f' b' J m'→TR W' ws0 ws' f b (A++(J++B)) (ia n p m')
theorem rS{I1 I2 A B:List It}{s:eF}(h:I1++I2=A++.s s::B):(∃B1,I1=A++.s s::B1∧B=B1++I2)∨∃A2,A=I1++A2∧I2=A2++.s s::B:=by
 rcases List.append_eq_append_iff.mp h with⟨c,h1,h2⟩|⟨c,h1,h2⟩
 ·exact .inr ⟨c,h1,h2⟩
 ·cases c with
  | nil=>rw[aZ]at h1;exact .inr ⟨[],by simp[h1],by simpa using h2.symm⟩
  | cons x c=>rw[aN]at h2;injection h2 with e1 e2;subst e1;exact .inl ⟨c,h1,e2⟩
theorem jg(h:.r r::I=A++It.s s::B):∃A1,A=.r r::A1∧I=A1++.s s::B:=by
 cases A with
 | nil=>rw[ak]at h;injection h with e;cases e
 | cons x A=>rw[aN]at h;injection h with e1 e2;exact⟨A,by rw[e1],e2⟩
theorem Jb(z:Mn k h):k≠"stamp":=by rcases z with⟨rfl,_⟩|⟨rfl,_⟩<;>decide+kernel
theorem xM{W:List (T×List kh)}{ws0 ws:List Str}{f:Fo}{b:Ba}{I:List It}{n:NT}(h:TR W ws0 ws f b I n):∀{A B:List It}{s:eF},I=A++.s s::B→(∀x∈A,x.isR)→Cx ws0 f→∃p f' b' m,At W ws0 ws f b A s B n p f' b' m:=by
 induction h with
 | @spot f b s0 n a=>
  intro A B s e _ cx;cases A with
  | nil=>rw[ak]at e;injection e with e1 e2;cases e1;subst e2;exact⟨[],f,b,n,by cases n;rfl,a,cx,λz=>by cases n;exact if_pos z,rfl,λ_ _ J m' t=>by simpa[ia]using t⟩
  | cons x A=>rw[aN]at e;injection e with _ e2;cases A<;>cases e2
 | num=>intro A B s e;obtain⟨A1,_,e2⟩:=jg e;cases A1<;>cases e2
 | free=>intro A B s e;obtain⟨A1,_,e2⟩:=jg e;cases A1<;>cases e2
 | bound=>intro A B s e;obtain⟨A1,_,e2⟩:=jg e;cases A1<;>cases e2
 | rdy=>intro A B s e;obtain⟨A1,_,e2⟩:=jg e;cases A1<;>cases e2
 | @two f b k hd I1 I2 n1 n2 src path hk t1 t2 i1 i2=>
  intro A B s e hA cx;obtain⟨A1,rfl,e2⟩:=jg e;have hA1:∀x∈A1,x.isR:=λx hx=>hA x (.tail _ hx);rcases rS e2 with⟨B1,e3,rfl⟩|⟨A2,rfl,e3⟩
  ·obtain⟨p,f',b',m,a⟩:=i1 e3 hA1 cx;refine⟨0::p,f',b',m,a.get,a.rp,a.cx,λz=>?_,?_,λhW hs J m' t=>?_⟩
   ·rw[fst,if_neg (Jb hk),jh,a.st z]
   ·simp only[ia,List.getElem?_cons_zero,a.put,List.set_cons_zero]
   ·have:=TR.two (src:=src) (path:=path) hk (a.tr hW hs t) (t2.mono hW hs);simpa[ia]using this
  ·have n1s:=ng (rZ t1 λx hx=>hA1 x (by simp[hx]));obtain⟨p,f',b',m,a⟩:=i2 e3 (λx hx=>hA1 x (by simp[hx])) cx;refine⟨1::p,f',b',m,a.get,a.rp,a.cx,λz=>?_,?_,λhW hs J m' t=>?_⟩
   ·rw[fst,if_neg (Jb hk),jh,n1s,jh,a.st z]
   ·simp[ia,a.put]
   ·have:=TR.two (src:=src) (path:=path) hk (t1.mono hW hs) (a.tr hW hs t);simpa[ia]using this
 | @cho f b I1 I2 I3 n1 n2 n3 src path t1 t2 t3 i1 i2 i3=>
  intro A B s e hA cx;obtain⟨A1,rfl,e2⟩:=jg e;have hA1:∀x∈A1,x.isR:=λx hx=>hA x (.tail _ hx);have nk:("choose":Str)≠"stamp":=by decide+kernel
  rcases rS e2 with⟨B1,e3,rfl⟩|⟨A2,rfl,e3⟩
  ·obtain⟨p,f',b',m,a⟩:=i1 e3 hA1 cx;refine⟨0::p,f',b',m,a.get,a.rp,a.cx,λz=>?_,?_,λhW hs J m' t=>?_⟩
   ·rw[fst,if_neg nk,jh,a.st z]
   ·simp[ia,a.put]
   ·have:=TR.cho (src:=src) (path:=path) (a.tr hW hs t) (t2.mono hW hs) (t3.mono hW hs);simpa[ia]using this
  ·have n1s:=ng (rZ t1 λx hx=>hA1 x (by simp[hx]));rcases rS e3 with⟨B1,e4,rfl⟩|⟨A3,rfl,e4⟩
   ·obtain⟨p,f',b',m,a⟩:=i2 e4 (λx hx=>hA1 x (by simp[hx])) cx;refine⟨1::p,f',b',m,a.get,a.rp,a.cx,λz=>?_,?_,λhW hs J m' t=>?_⟩
    ·rw[fst,if_neg nk,jh,n1s,jh,a.st z]
    ·simp[ia,a.put]
    ·have:=TR.cho (src:=src) (path:=path) (t1.mono hW hs) (a.tr hW hs t) (t3.mono hW hs);simpa[ia]using this
   ·have n2s:=ng (rZ t2 λx hx=>hA1 x (by simp[hx]));obtain⟨p,f',b',m,a⟩:=i3 e4 (λx hx=>hA1 x (by simp[hx])) cx;refine⟨2::p,f',b',m,a.get,a.rp,a.cx,λz=>?_,?_,λhW hs J m' t=>?_⟩
    ·rw[fst,if_neg nk,jh,n1s,jh,n2s,jh,a.st z]
    ·simp[ia,a.put]
    ·have:=TR.cho (src:=src) (path:=path) (t1.mono hW hs) (t2.mono hW hs) (a.tr hW hs t);simpa[ia]using this
 | @lt f b x i I1 I2 n1 n2 src path hx hx0 t1 t2 i1 i2=>
  intro A B s e hA cx;obtain⟨A1,rfl,e2⟩:=jg e;have hA1:∀x∈A1,x.isR:=λx hx=>hA x (.tail _ hx);have nk:("let":Str)≠"stamp":=by decide+kernel
  rcases rS e2 with⟨B1,e3,rfl⟩|⟨A2,rfl,e3⟩
  ·obtain⟨p,f',b',m,a⟩:=i1 e3 hA1 cx;refine⟨0::p,f',b',m,a.get,a.rp,a.cx,λz=>?_,?_,λhW hs J m' t=>?_⟩
   ·rw[fst,if_neg nk,jh,a.st z]
   ·simp[ia,a.put]
   ·have:=TR.lt (src:=src) (path:=path) (hs _ hx) hx0 (a.tr hW hs t) (t2.mono hW hs);simpa[ia]using this
  ·have n1s:=ng (rZ t1 λx hx=>hA1 x (by simp[hx]));have cx':Cx ws0 (kx f x i):=λy j h=>by
    unfold kx at h;split at h
    ·rename_i e;subst e;exact hx0
    ·exact cx y j h
   obtain⟨p,f',b',m,a⟩:=i2 e3 (λx hx=>hA1 x (by simp[hx])) cx';refine⟨1::p,f',b',m,a.get,a.rp,a.cx,λz=>?_,?_,λhW hs J m' t=>?_⟩
   ·rw[fst,if_neg nk,jh,n1s,jh,a.st z]
   ·simp[ia,a.put]
   ·have:=TR.lt (src:=src) (path:=path) (hs _ hx) hx0 (t1.mono hW hs) (a.tr hW hs t);simpa[ia]using this
end S8
namespace S8
open PySem L2 SW S9
variable {W:List (T×List kh)}{ws0 ws ws':List Str}{f:Fo}{b:Ba}
def Mp(W:List (T×List kh))(ws:List Str)(f:Fo)(b:Ba)(s:eF)(n:NT):T→Prop
 | .num m=>n=.mk "number" (.int m) s.src (ip s.path) []
 | .name w=>(s.e.look w=none∧w∈ws∧f w=none∧n=.mk "name" (.str w) s.src (ip s.path) [])∨(∃x i,s.e.look w=some (.called x)∧x∈ws∧f x=some i∧b i=some x∧n=.mk "name" (.int i) s.src (ip s.path) [])∨
  (∃k z t ss,s.e.look w=some (.ready k z)∧W[k]?=some (t,ss)∧Gs ws f b t n∧lW n=ss.map cv∧gf n=z)∨∃t src path e,s.e.look w=some (.handed t src path e)∧Rp W ws f b ⟨t,src,path,e⟩ n
 | .sum t1 t2=>∃n1 n2,n=.mk "sum" .non s.src (ip s.path) [n1,n2]∧Rp W ws f b (s.kid 0 t1) n1∧Rp W ws f b (s.kid 1 t2) n2
 | .less t1 t2=>∃n1 n2,n=.mk "less" .non s.src (ip s.path) [n1,n2]∧Rp W ws f b (s.kid 0 t1) n1∧Rp W ws f b (s.kid 1 t2) n2
 | .cho t1 t2 t3=>∃n1 n2 n3,n=.mk "choose" .non s.src (ip s.path) [n1,n2,n3]∧Rp W ws f b (s.kid 0 t1) n1∧Rp W ws f b (s.kid 1 t2) n2∧Rp W ws f b (s.kid 2 t3) n3
 | .lt w t1 t2=>∃n1 n2 i,n=.mk "let" (.int i) s.src (ip s.path) [n1,n2]∧Rp W ws f b (s.kid 0 t1) n1∧∀x,x∉ws→Rp W (x::ws) (kx f x i) (la b i x) ⟨t2,s.src,s.path++[1],s.e.put w (.called x)⟩ n2
 | .st0 w=>n=.mk "stamp" (.str w) s.src (ip s.path) []
 | .st1 w t1=>∃n1,n=.mk "stamp" (.str w) s.src (ip s.path) [n1]∧Rp W ws f b (s.kid 0 t1) n1
 | .st2 w t1 t2=>∃n1 n2,n=.mk "stamp" (.str w) s.src (ip s.path) [n1,n2]∧Rp W ws f b (s.kid 0 t1) n1∧Rp W ws f b (s.kid 1 t2) n2
theorem Rp.inv{s:eF}{n:NT}(h:Rp W ws f b s n):Mp W ws f b s n s.t:=by
 cases h with
 | num e=>rw[e];rfl
 | free e l m g=>rw[e];exact .inl ⟨l,m,g,rfl⟩
 | called e l m g1 g2=>rw[e];exact .inr (.inl ⟨_,_,l,m,g1,g2,rfl⟩)
 | ready e l hk g hs hz=>rw[e];exact .inr (.inr (.inl ⟨_,_,_,_,l,hk,g,hs,hz⟩))
 | handed e l r=>rw[e];exact .inr (.inr (.inr ⟨_,_,_,_,l,r⟩))
 | sum e a c=>rw[e];exact⟨_,_,rfl,a,c⟩
 | less e a c=>rw[e];exact⟨_,_,rfl,a,c⟩
 | cho e a c d=>rw[e];exact⟨_,_,_,rfl,a,c,d⟩
 | lt e a c=>rw[e];exact⟨_,_,_,rfl,a,c⟩
 | st0 e=>rw[e];rfl
 | st1 e a=>rw[e];exact⟨_,rfl,a⟩
 | st2 e a c=>rw[e];exact⟨_,_,rfl,a,c⟩
theorem Rp.at{s:eF}{n:NT}{t:T}(h:Rp W ws f b s n)(e:s.t=t):Mp W ws f b s n t:=e▸h.inv
theorem EG{s:eF}{Q:List eF}{rs:List Rw}{m:NT}(h:Tk ws s Q rs ws')(r:Rp W ws f b s m)(h0:∀x∈ws0,x∈ws):TR W ws0 ws' f b (rI rs++sI Q.reverse) m∧∀x∈ws,x∈ws':=by
 cases h with
 | plain e=>
  refine⟨?_,λ_ z=>z⟩;rw[cH];have v:=r.inv;obtain⟨st,src,path,en⟩:=s;cases st<;>cases e
  ·cases v;exact .num
  ·obtain⟨n1,n2,rfl,r1,r2⟩:=v;exact .two (I1:=[.s _]) (I2:=[.s _]) (.inl ⟨rfl,rfl⟩) (.spot r1) (.spot r2)
  ·obtain⟨n1,n2,rfl,r1,r2⟩:=v;exact .two (I1:=[.s _]) (I2:=[.s _]) (.inr ⟨rfl,rfl⟩) (.spot r1) (.spot r2)
  ·obtain⟨n1,n2,n3,rfl,r1,r2,r3⟩:=v;exact .cho (I1:=[.s _]) (I2:=[.s _]) (I3:=[.s _]) (.spot r1) (.spot r2) (.spot r3)
 | free e l=>
  refine⟨?_,λ_ z=>z⟩;rcases r.at e with⟨_,h1,h2,rfl⟩|⟨_,_,l2,_⟩|⟨_,_,_,_,l2,_⟩|⟨_,_,_,_,l2,_⟩
  ·exact .free h1 h2
  all_goals (rw[l]at l2;cases l2)
 | called e l=>
  refine⟨?_,λ_ z=>z⟩;rcases r.at e with⟨l2,_⟩|⟨_,_,l2,h1,h2,h3,rfl⟩|⟨_,_,_,_,l2,_⟩|⟨_,_,_,_,l2,_⟩
  all_goals (rw[l]at l2;cases l2)
  exact .bound h1 h2 h3
 | ready e l=>
  refine⟨?_,λ_ z=>z⟩;rcases r.at e with⟨l2,_⟩|⟨_,_,l2,_⟩|⟨_,_,_,_,l2,h1,h2,h3,h4⟩|⟨_,_,_,_,l2,_⟩
  all_goals (rw[l]at l2;cases l2)
  exact .rdy h1 h2 h3 h4
 | handed e l=>
  refine⟨?_,λ_ z=>z⟩;rcases r.at e with⟨l2,_⟩|⟨_,_,l2,_⟩|⟨_,_,_,_,l2,_⟩|⟨_,_,_,_,l2,r2⟩
  all_goals (rw[l]at l2;cases l2)
  exact .spot r2
 | @lt w x p q e _ hx _=>
  have sub:∀y∈ws,y∈ws++[x]:=λy hy=>ag _ hy;refine⟨?_,sub⟩;obtain⟨n1,n2,i,rfl,r1,r2⟩:=r.at e;refine .lt (I1:=[.s _]) (I2:=[.s _]) (aQ _ (.head _)) (λz=>hx (h0 _ z)) (.spot (r1.mono (λ_ _ z=>z) sub)) (.spot ((r2 x hx).mono (λ_ _ z=>z) λy hy=>?_));rcases aB.mp hy with rfl|hy
  ·exact aQ _ (.head _)
  ·exact sub _ hy
theorem qS(R:List Rw):∀x∈rI R,x.isR:=λx hx=>by obtain⟨r,_,rfl⟩:=bj.mp hx;exact aH
theorem eL{S Q:List eF}{s:eF}{R:List Rw}:rI R++sI (S++[s]).reverse=rI R++.s s::sI S.reverse:=by simp
theorem Gd{S:List eF}{R R':List Rw}{n:NT}(h:yg S R ws R' ws'):(∀x∈ws0,x∈ws)→Cx ws0 f→TR W ws0 ws f b (rI R++sI S.reverse) n→TR W ws0 ws' f b (rI R') n∧∀x∈ws,x∈ws':=by
 induction h with
 | nil=>exact λ_ _ t=>⟨by simpa using t,λ_ z=>z⟩
 | @step S P s R rs R' ws ws' ws'' tk _ ih=>intro h0 cx t;rw[eL (Q:=P)]at t;obtain⟨p,f',b',m,a⟩:=xM t rfl (qS R) cx;obtain⟨t2,sub⟩:=EG tk a.rp h0;have t3:=a.tr (λ_ _ z=>z) sub t2;rw[a.put]at t3;obtain⟨t4,sub2⟩:=ih (λx hx=>sub x (h0 x hx)) cx (by simpa using t3);exact⟨t4,λx hx=>sub2 x (sub x hx)⟩
theorem Js{I:List It}{n:NT}(h:TR W ws0 ws f b I n):(∀x∈I,x.isR)→∃R,I=rI R∧∃t,(∀R2,lq (W.map Prod.fst) (R++R2)=t::lq (W.map Prod.fst) R2)∧Gs ws f b t n∧lW n=(ik (W.map Prod.snd) R).map cv:=by
 induction h with
 | spot a=>exact λz=>(z _ (.head _)).elim
 | @num f b m src path=>exact λ_=>⟨[.row (.num m) src path],rfl,.num m,λR2=>rfl,.num,rfl⟩
 | @free f b w src path a e=>exact λ_=>⟨[.row (.name w) src path],rfl,.name w,λR2=>rfl,.free a e,rfl⟩
 | @bound f b w i src path a e1 e2=>exact λ_=>⟨[.row (.name w) src path],rfl,.name w,λR2=>rfl,.bound a e1 e2,rfl⟩
 | @rdy f b k z t ss n hk g hs hz=>
  refine λ_=>⟨[.rdy k z],rfl,t,λR2=>?_,g,?_⟩
  ·simp only[aN,ak,lq,xn,ae,hk,bi,bz]
  ·simp only[ik,ae,hk,bi,bz,aZ];exact hs
 | @two f b k hd I1 I2 n1 n2 src path hk t1 t2 i1 i2=>
  intro z;obtain⟨R1,rfl,u1,e1,g1,s1⟩:=i1 λx hx=>z x (by simp[hx]);obtain⟨R2,rfl,u2,e2,g2,s2⟩:=i2 λx hx=>z x (by simp[hx]);rcases hk with⟨rfl,rfl⟩|⟨rfl,rfl⟩
  ·refine⟨.row .sum src path::(R1++R2),by simp,.sum u1 u2,λR3=>?_,.sum g1 g2,?_⟩
   ·simp only[aN,aT,lq,e1,e2,xn,Hd.ar,bK,bA,bH,ah,vT]
   ·simp[lW,mC,ik,gy,s1,s2]
  ·refine⟨.row .less src path::(R1++R2),by simp,.less u1 u2,λR3=>?_,.less g1 g2,?_⟩
   ·simp only[aN,aT,lq,e1,e2,xn,Hd.ar,bK,bA,bH,ah,vT]
   ·simp[lW,mC,ik,gy,s1,s2]
 | @cho f b I1 I2 I3 n1 n2 n3 src path t1 t2 t3 i1 i2 i3=>
  intro z;obtain⟨R1,rfl,u1,e1,g1,s1⟩:=i1 λx hx=>z x (by simp[hx]);obtain⟨R2,rfl,u2,e2,g2,s2⟩:=i2 λx hx=>z x (by simp[hx]);obtain⟨R3,rfl,u3,e3,g3,s3⟩:=i3 λx hx=>z x (by simp[hx]);refine⟨.row .cho src path::(R1++(R2++R3)),by simp,.cho u1 u2 u3,λR4=>?_,.cho g1 g2 g3,?_⟩
  ·simp only[aN,aT,lq,e1,e2,e3,xn,Hd.ar,bK,bA,bH,ah,vT]
  ·simp[lW,mC,ik,gy,s1,s2,s3]
 | @lt f b x i I1 I2 n1 n2 src path hx hx0 t1 t2 i1 i2=>
  intro z;obtain⟨R1,rfl,u1,e1,g1,s1⟩:=i1 λx hx=>z x (by simp[hx]);obtain⟨R2,rfl,u2,e2,g2,s2⟩:=i2 λx hx=>z x (by simp[hx]);refine⟨.row (.lt x) src path::(R1++R2),by simp,.lt x u1 u2,λR3=>?_,.lt hx g1 g2,?_⟩
  ·simp only[aN,aT,lq,e1,e2,xn,Hd.ar,bK,bA,bH,ah,vT]
  ·simp[lW,mC,ik,gy,s1,s2]
theorem Gk{R R2:List Rw}(h:rI R=rI R2):R=R2:=by have:=congrArg (List.map λx=>match x with|It.r y=>y|It.s _=>Rw.rdy 0 0) h;simpa[cE,cj]using this
theorem wz{R:List Rw}{n:NT}(h:TR W ws0 ws f b (rI R) n):∃t,lq (W.map Prod.fst) R=[t]∧Gs ws f b t n∧lW n=(ik (W.map Prod.snd) R).map cv:=by obtain⟨R2,e,t,h1,h2,h3⟩:=Js h (qS R);have:=Gk e;subst this;have:=h1 [];rw[aZ]at this;exact⟨t,this,h2,h3⟩
def Ek(k:Nat):Str:=⟨(List.replicate k 97).toArray⟩
theorem vd(ws:List Str):∃x:Str,x∉ws:=by
 have key:∀ws:List Str,∃m:Nat,∀x∈ws,x.cps.size<m:=by
  intro ws;induction ws with
  | nil=>exact⟨0,λx hx=>by cases hx⟩
  | cons y ws ih=>
   obtain⟨m,hm⟩:=ih;refine⟨m+y.cps.size+1,λx hx=>?_⟩;rcases aB.mp hx with rfl|hx
   ·lia
   ·have:=hm x hx;lia
 obtain⟨m,hm⟩:=key ws;refine⟨Ek m,λz=>?_⟩;have:=hm _ z;simp[Ek]at this
theorem EO{s:eF}{n:NT}(h:Rp W ws f b s n):s.wt 0=gf n:=by
 induction h with
 | num e=>simp[eF.wt,e,ji,gf,fK]
 | free e l=>rw[iW e,l];simp[gf,fK]
 | called e l=>rw[iW e,l];simp[gf,fK,Mg.wt]
 | ready e l _ _ _ hz=>rw[iW e,l];simp[Mg.wt,hz]
 | handed e l _ ih=>rw[iW e,l,←ih];simp[Mg.wt,eF.wt]
 | sum e _ _ i1 i2=>simp only[gf,fK,←i1,←i2];simp only[eF.wt,e,ji,eF.kid];lia
 | less e _ _ i1 i2=>simp only[gf,fK,←i1,←i2];simp only[eF.wt,e,ji,eF.kid];lia
 | cho e _ _ _ i1 i2 i3=>simp only[gf,fK,←i1,←i2,←i3];simp only[eF.wt,e,ji,eF.kid];lia
 | @lt ws f b s w t1 t2 n1 n2 i e _ _ i1 i2=>obtain⟨x,hx⟩:∃x:Str,x∉ws:=vd ws;have:=i2 x hx;simp only[gf,fK,←i1,←this];rw[yp (x:=x) e,k8,gq];lia
 | st0 e=>simp[eF.wt,e,ji,gf,fK]
 | st1 e _ i1=>simp only[gf,fK,←i1];simp only[eF.wt,e,ji,eF.kid];lia
 | st2 e _ _ i1 i2=>simp only[gf,fK,←i1,←i2];simp only[eF.wt,e,ji,eF.kid];lia
theorem IP{I:List It}{n:NT}(h:TR W ws0 ws f b I n):vx I=gf n:=by
 induction h with
 | spot a=>simp[vx,It.wt,EO a]
 | num=>rfl
 | free=>rfl
 | bound=>rfl
 | rdy _ _ _ hz=>simp[vx,It.wt,Rw.wt,hz]
 | two _ _ _ i1 i2=>simp only[oz,kR,i1,i2,It.wt,Rw.wt,gf,fK];lia
 | cho _ _ _ i1 i2 i3=>simp only[oz,kR,i1,i2,i3,It.wt,Rw.wt,gf,fK];lia
 | lt _ _ _ _ i1 i2=>simp only[oz,kR,i1,i2,It.wt,Rw.wt,gf,fK];lia
end S8
namespace S8
open PySem L2 SW S9
variable {W:List (T×List kh)}{ws0 ws ws':List Str}{f:Fo}{b:Ba}{b1 b2 b3 t:T}
def Bs:Gi:=λ_=>none
def HZ(g:NT):Gi:=λw=>if w="sab" then some g else none
def Du(g h:NT):Gi:=λw=>if w="sab" then some g else if w="tab" then some h else none
inductive yk(b1 b2 b3:T):Str→List NT→Gi→T→Prop where
 | star:yk b1 b2 b3 "star" [] Bs b1
 | sta{g:NT}:yk b1 b2 b3 "sta" [g] (HZ g) b2
 | st{g h:NT}:yk b1 b2 b3 "st" [g,h] (Du g h) b3
inductive Ly(b1 b2 b3 t:T):Nat→NT→Int→Prop where
 | zero:Ly b1 b2 b3 t 0 (nt 0 "" Bs t [] Ow.none 0) (0+(t.size:Int))
 | succ{k:Nat}{n:NT}{c:Int}{p:List Nat}{w src:Str}{path:List Int}{ks:List NT}{giv:Gi}{body:T}:Ly b1 b2 b3 t k n c→fst n=some p→iS n p=some (.mk "stamp" (.str w) src path ks)→yk b1 b2 b3 w ks giv body→
  Ly b1 b2 b3 t (k+1) (ia n p (nt c w giv body [] Ow.none 0)) (c+(body.size:Int))
theorem yk.uniq{w:Str}{ks:List NT}{g1 g2:Gi}{c1 c2:T}(h1:yk b1 b2 b3 w ks g1 c1)(h2:yk b1 b2 b3 w ks g2 c2):g1=g2∧c1=c2:=by cases h1<;>cases h2<;>exact⟨rfl,rfl⟩
theorem Ly.uniq{k:Nat}{n1 n2:NT}{c1 c2:Int}(h1:Ly b1 b2 b3 t k n1 c1)(h2:Ly b1 b2 b3 t k n2 c2):n1=n2∧c1=c2:=by
 induction h1 generalizing n2 c2 with
 | zero=>cases h2;exact⟨rfl,rfl⟩
 | succ a f1 g1 B1 ih=>
  cases h2 with
  | succ a2 f2 g2 B2=>obtain⟨rfl,rfl⟩:=ih a2;rw[f1]at f2;cases f2;rw[g1]at g2;cases g2;obtain⟨rfl,rfl⟩:=B1.uniq B2;exact⟨rfl,rfl⟩
theorem Ly.over{k j:Nat}{n m:NT}{c d:Int}(h1:Ly b1 b2 b3 t k n c)(h2:Ly b1 b2 b3 t j m d)(h:k<j):∃p,fst n=some p:=by
 induction h2 with
 | zero=>lia
 | @succ j m d p w src path ks giv body a f1 g1 B1 ih=>
  rcases bM k j with hk|hk
  ·exact ih hk
  ·have:k=j:=by lia
   subst this;obtain⟨rfl,_⟩:=h1.uniq a;exact⟨_,f1⟩
theorem Ly.le_end{k j:Nat}{n m:NT}{c d:Int}(h1:Ly b1 b2 b3 t k n c)(h2:Ly b1 b2 b3 t j m d)(e:fst n=none):j≤k:=by
 rcases bM k j with hk|hk
 ·obtain⟨p,hp⟩:=h1.over h2 hk;rw[e]at hp;cases hp
 ·exact hk
theorem qy:∀{ks:List NT}{j:Nat}{q:List Nat},jh ks j=some q→∃i p m,q=(j+i)::p∧ks[i]?=some m∧fst m=some p
 | [],_,_,h=>by rw[jh]at h;cases h
 | n::ns,j,q,h=>by
  rw[jh]at h;cases e:fst n with
  | some p=>rw[e]at h;cases h;exact⟨0,p,n,rfl,rfl,e⟩
  | none=>rw[e]at h;obtain⟨i,p,m,h1,h2,h3⟩:=qy h;exact⟨i+1,p,m,by rw[h1];congr 1;lia,h2,h3⟩
theorem qM{k:Str}{x:V}{src:Str}{path:List Int}{ks:List NT}{q:List Nat}(h:fst (.mk k x src path ks)=some q):(k="stamp"∧q=[])∨(k≠"stamp"∧∃i p m,q=i::p∧ks[i]?=some m∧fst m=some p):=by
 rw[fst]at h;split at h
 ·rename_i e;cases h;exact .inl ⟨e,rfl⟩
 ·rename_i e;obtain⟨i,p,m,h1,h2,h3⟩:=qy h;exact .inr ⟨e,i,p,m,by rw[h1,bw],h2,h3⟩
theorem A0{c:Int}{m:NT}(hm:Lo c m):∀{p:List Nat}{n:NT},Lo c n→Lo c (ia n p m)
 | [],_,_=>hm
 | i::p,.mk k x src path ks,.mk h1 h2=>by
  refine .mk h1 λy hy=>?_;rcases ck hy with z|rfl
  ·exact h2 y z
  ·cases e:ks[i]? with
   | none=>exact hm
   | some n=>exact A0 hm (h2 n (ac e))
theorem vX{c:Int}:∀{p:List Nat}{n m:NT},Lo c n→iS n p=some m→Lo c m
 | [],n,m,h,e=>by cases n;cases e;exact h
 | i::p,.mk k x src path ks,m,.mk h1 h2,e=>by
  rw[iS]at e;cases e2:ks[i]? with
  | none=>rw[e2]at e;cases e
  | some n=>rw[e2]at e;exact vX (h2 n (ac e2)) e
theorem mt{w:Str}{ks:List NT}{giv:Gi}{body:T}(B:yk b1 b2 b3 w ks giv body){P:NT→Prop}(h:∀n∈ks,P n):∀v g,giv v=some g→P g:=by
 intro v g e;cases B with
 | star=>cases e
 | sta=>
  unfold HZ at e;split at e
  ·cases e;exact h _ (by simp)
  ·cases e
 | st=>
  unfold Du at e;split at e
  ·cases e;exact h _ (by simp)
  ·split at e
   ·cases e;exact h _ (by simp)
   ·cases e
theorem Ji{k:Nat}{n:NT}{c:Int}(h:Ly b1 b2 b3 t k n c):Lo c n:=by
 induction h with
 | zero=>have:=jt (giv:=Bs) (c:=0) (src:="") (λw g e=>by cases e) t [] Ow.none 0 (λw id e=>by cases e);exact this.mono (by lia)
 | @succ k n c p w src path ks giv body _ _ g1 B ih=>have lm:=vX ih g1;have:=jt (giv:=giv) (c:=c) (src:=w) (mt B lm.inv.2) body [] Ow.none 0 (λw id e=>by cases e);exact A0 (this.mono (by lia)) (ih.mono (by lia))
theorem yq{rd:List (List Rw)}(h:mx rd W):W.length=rd.length:=by
 induction h with
 | nil=>rfl
 | snoc _ _ ih=>simp[ih]
theorem rq{rd rd':List (List Rw)}{s:eF}{m:Mg}{n:NT}(h:oE true rd ws s m rd' ws')(r:Rp W ws f b s n)(hw:mx rd W)(h0:∀x∈ws0,x∈ws)(cx:Cx ws0 f):
  ∃W',mx rd' W'∧Le W W'∧(∀x∈ws,x∈ws')∧Bv W' ws' f b m n:=by
 cases h with
 | handed p=>exact⟨W,hw,λ_ _ z=>z,λ_ z=>z,r⟩
 | @ready _ _ _ _ R p run=>
  obtain⟨t1,sub⟩:=Gd (ws0:=ws0) run h0 cx (TR.spot r);obtain⟨t,e,g,hs⟩:=wz t1;refine⟨_,.snoc hw e,λk q z=>?_,sub,t,_,?_,g,hs,(EO r).symm⟩
  ·rw[ax (aO.mp z).1];exact z
  ·rw[←yq hw];simp
theorem sY{giv:Gi}{c:Int}{e:S9.En}{OUT:Str→Prop}(hg:∀w g,giv w=some g→∃m,e.look w=some m∧Bv W ws f b m g∧Lo c g)(ho:∀w,giv w=none→e.look w=none)(hO:∀w,OUT w→w∈ws0)(h0:∀x∈ws0,x∈ws)(cx:Cx ws0 f):Er W OUT giv c ws f b e Ow.none 0:=by
 refine⟨(λw id h=>by cases h),λw g _ h=>hg w g h,λw _ h2 h3=>⟨ho w h2,?_,h0 _ (hO w h3)⟩⟩;cases h:f w with
 | none=>rfl
 | some i=>exact absurd (hO w h3) (cx w i h)
structure vn(b1 b2 b3:T)(ws0:List Str):Prop where
 a:∀w,b1.out w→w∈ws0
 b:∀w,b2.out w→w∈ws0
 c:∀w,b3.out w→w∈ws0
theorem Mf:("sab":Str)≠"tab":=by decide+kernel
theorem DZ{rd rd':List (List Rw)}{s s':eF}{m:NT}{c:Int}(O:vn b1 b2 b3 ws0)(h:tD b1 b2 b3 true rd ws s s' rd' ws')(r:Rp W ws f b s m)(hw:mx rd W)(h0:∀x∈ws0,x∈ws)(cx:Cx ws0 f)(lo:Lo c m):
  ∃W' w giv body ks src path,m=.mk "stamp" (.str w) src path ks∧yk b1 b2 b3 w ks giv body∧mx rd' W'∧Le W W'∧(∀x∈ws,x∈ws')∧Rp W' ws' f b s' (nt c w giv body [] Ow.none 0):=by
 cases h with
 | star e=>
  ·have v:=r.at e;subst v;exact⟨W,"star",Bs,b1,[],_,_,rfl,.star,hw,λ_ _ z=>z,λ_ z=>z,lX (path:=[]) b1 (sY (OUT:=λw=>b1.out w) (λw g h=>by cases h) (λw _=>rfl) O.a h0 cx) λw z _ _=>z⟩
 | @sta p m1 _ _ e h1=>
  ·obtain⟨n1,rfl,r1⟩:=r.at e;obtain⟨W',hw',le,sub,mr⟩:=rq (ws0:=ws0) h1 r1 hw h0 cx;refine⟨W',"sta",HZ n1,b2,[n1],_,_,rfl,.sta,hw',le,sub,lX (path:=[]) b2 (sY (OUT:=λw=>b2.out w) (λw g h=>?_) (λw h=>?_) O.b (λx hx=>sub x (h0 x hx)) cx) λw z _ _=>z⟩
   ·unfold HZ at h;split at h
    ·rename_i hv;subst hv;cases h;exact⟨m1,if_pos rfl,mr,lo.inv.2 _ (by simp)⟩
    ·cases h
   ·unfold HZ at h;split at h
    ·cases h
    ·rename_i hv;exact if_neg (λz=>hv z.symm)
 | @st p q m1 m2 rd1 rd2 ws1 ws2 e h1 h2=>
  ·obtain⟨n1,n2,rfl,r1,r2⟩:=r.at e;obtain⟨W1,hw1,le1,sub1,mr1⟩:=rq (ws0:=ws0) h1 r1 hw h0 cx;obtain⟨W2,hw2,le2,sub2,mr2⟩:=rq (ws0:=ws0) h2 (r2.mono le1 sub1) hw1 (λx hx=>sub1 x (h0 x hx)) cx;refine⟨W2,"st",Du n1 n2,b3,[n1,n2],_,_,rfl,.st,hw2,λk q z=>le2 _ _ (le1 _ _ z),λx hx=>sub2 x (sub1 x hx),lX (path:=[]) b3 (sY (OUT:=λw=>b3.out w) (λw g h=>?_) (λw h=>?_) O.c (λx hx=>sub2 x (sub1 x (h0 x hx))) cx) λw z _ _=>z⟩
   ·unfold Du at h;split at h
    ·rename_i hv;subst hv;cases h;exact⟨m1,if_pos rfl,mr1.mono le2 sub2,lo.inv.2 _ (by simp)⟩
    ·split at h
     ·rename_i hv;subst hv;cases h;exact⟨m2,by unfold En.look;rw[if_neg Mf];exact if_pos rfl,mr2,lo.inv.2 _ (by simp)⟩
     ·cases h
   ·unfold Du at h;split at h
    ·cases h
    ·split at h
     ·cases h
     ·rename_i hv hv2;unfold En.look;rw[if_neg (λz=>hv z.symm)];exact if_neg (λz=>hv2 z.symm)
def f0:Fo:=λ_=>none
def J0:Ba:=λ_=>none
structure J1(b1 b2 b3 t:T)(ws0:List Str)(st:oV)(n:NT)(c:Int)(W:List (T×List kh)):Prop where
 ly:Ly b1 b2 b3 t st.k n c
 wr:mx st.rd W
 tr:TR W ws0 st.ws f0 J0 (rI st.R++sI st.S.reverse) n
 sub:∀x∈ws0,x∈st.ws
theorem KS:Cx ws0 f0:=λx i h=>by cases h
theorem GZ{F:Nat}{st st':oV}{n:NT}{c:Int}(h:El b1 b2 b3 F st st')(S:J1 b1 b2 b3 t ws0 st n c W)(hk:st.k<st'.k):∃p,fst n=some p:=by
 cases h with
 | take a=>exact absurd hk (bU _)
 | @opn S0 s s' R k ws ws' rd rd' a=>
  have tr:=S.tr;rw[eL (Q:=[])]at tr;obtain⟨p,f',b',m,A⟩:=xM tr rfl (qS R) KS;refine⟨p,A.st ?_⟩;have r:=A.rp;cases a with
  | star e=>have v:=r.at e;subst v;exact rfl
  | sta e=>obtain⟨_,rfl,_⟩:=r.at e;exact rfl
  | st e=>obtain⟨_,_,rfl,_⟩:=r.at e;exact rfl
theorem DC{F:Nat}{st st':oV}{n:NT}{c:Int}(O:vn b1 b2 b3 ws0)(h:El b1 b2 b3 F st st')(S:J1 b1 b2 b3 t ws0 st n c W)(hk:st'.k≤F):∃n' c' W',J1 b1 b2 b3 t ws0 st' n' c' W':=by
 cases h with
 | @take S0 Q s R rs k ws ws' rd a=>have tr:=S.tr;rw[eL (Q:=[])]at tr;obtain⟨p,f',b',m,A⟩:=xM tr rfl (qS R) KS;obtain⟨t2,sub⟩:=EG a A.rp S.sub;have t3:=A.tr (λ_ _ z=>z) sub t2;rw[A.put]at t3;exact⟨n,c,W,S.ly,S.wr,by simpa using t3,λx hx=>sub x (S.sub x hx)⟩
 | @opn S0 s s' R k ws ws' rd rd' a=>have hk:k+1≤F:=hk;rw[show decide (k+1≤F)=true from decide_eq_true hk]at a;have tr:=S.tr;rw[eL (Q:=[])]at tr;obtain⟨p,f',b',m,A⟩:=xM tr rfl (qS R) KS;have lo:=vX (Ji S.ly) A.get;obtain⟨W',w,giv,body,ks,src,path,rfl,B,hw,le,sub,rp⟩:=DZ (c:=c) O a A.rp S.wr S.sub A.cx lo;have t3:=A.tr le sub (TR.spot rp);exact⟨_,_,W',S.ly.succ (A.st rfl) A.get B,hw,by simpa using t3,λx hx=>sub x (S.sub x hx)⟩
theorem x0(ht:∀w,t.out w→w∈ws0):J1 b1 b2 b3 t ws0 (st0 t ws0) (nt 0 "" Bs t [] Ow.none 0) (0+(t.size:Int)) []:=
 ⟨.zero,.nil,TR.spot (lX (path:=[]) t (sY (OUT:=λw=>t.out w) (λw g h=>by cases h) (λw _=>rfl) ht (λ_ z=>z) KS) λw z _ _=>z),λ_ z=>z⟩
theorem rb{F:Nat}{st:oV}(O:vn b1 b2 b3 ws0)(ht:∀w,t.out w→w∈ws0)(h:tI b1 b2 b3 F (st0 t ws0) st):st.k≤F→∃n c W,J1 b1 b2 b3 t ws0 st n c W:=by
 induction h with
 | refl=>exact λ_=>⟨_,_,_,x0 ht⟩
 | step _ hk a ih=>intro hk2;obtain⟨n,c,W,S⟩:=ih hk;exact DC O a S hk2
theorem AR{F:Nat}{st:oV}(O:vn b1 b2 b3 ws0)(ht:∀w,t.out w→w∈ws0)(h:tI b1 b2 b3 F (st0 t ws0) st)(hF:F<st.k):∃k n c p,Ly b1 b2 b3 t k n c∧F≤k∧fst n=some p:=by
 cases h with
 | refl=>exact absurd hF (cX _)
 | @step st1 _ r hk a=>
  obtain⟨n,c,W,S⟩:=rb O ht r hk;have h2:st1.k<st.k:=by lia
  have h3:st.k≤st1.k+1:=by cases a<;>simp
  obtain⟨p,hp⟩:=GZ a S h2;exact⟨st1.k,n,c,p,S.ly,by lia,hp⟩
end S8
namespace S8
open PySem L2 SW S9
variable {W:List (T×List kh)}{ws0 ws ws':List Str}{b1 b2 b3 t:T}
inductive SB(a:Nat):NT→Prop where
 | mk{k:Str}{x:V}{src:Str}{path:List Int}{ks:List NT}:(k="stamp"→(∃w,x=.str w∧kb w=some ks.length)∧1+fK ks≤5*a∧(x=.str "st"→1+fK ks≤a))→(∀n∈ks,SB a n)→SB a (.mk k x src path ks)
theorem SB.inv(h:SB a (.mk k x src path ks)):(k="stamp"→(∃w,x=.str w∧kb w=some ks.length)∧1+fK ks≤5*a∧(x=.str "st"→1+fK ks≤a))∧∀n∈ks,SB a n:=by cases h with|mk p q=>exact⟨p,q⟩
theorem SB.leaf{a:Nat}{k:Str}{x:V}{src:Str}{path:List Int}(h:k≠"stamp"):SB a (.mk k x src path []):=.mk (λz=>absurd z h) (by simp)
theorem oh:∀{ks:List NT},n∈ks→gf n≤fK ks
 | x::ks,h=>by
  rw[fK];rcases aB.mp h with rfl|h
  ·lia
  ·have:=oh h;lia
theorem uF:∀{ks:List NT}{i:Nat}{n:NT},ks[i]?=some n→fK (ks.set i m)+gf n=fK ks+gf m
 | [],_,_,h=>by simp at h
 | x::ks,0,n,h=>by cases h;simp only[List.set_cons_zero,fK];lia
 | x::ks,i+1,n,h=>by have:=uF (m:=m) (ks:=ks) (i:=i) (n:=n) (by simpa using h);simp only[List.set_cons_succ,fK];lia
theorem we:∀{p:List Nat}{n m:NT},iS n p=some m→gf (ia n p m')+gf m=gf n+gf m'
 | [],n,m,e=>by cases n;cases e;rw[ia];lia
 | i::p,.mk k x src path ks,m,e=>by
  rw[iS]at e;cases e2:ks[i]? with
  | none=>rw[e2]at e;cases e
  | some n=>rw[e2]at e;have h1:=we (m':=m') e;have h2:=uF (m:=ia n p m') e2;simp only[ia,e2,gf];lia
theorem AG(hm:SB a m'):∀{p:List Nat}{n:NT},SB a n→fst n=some p→SB a (ia n p m')
 | [],n,_,_=>by cases n;exact hm
 | i::p,.mk k x src path ks,h,e=>by
  rcases qM e with⟨_,z⟩|⟨hk,j,q,m,e1,e2,e3⟩
  ·cases z
  ·cases e1;refine .mk (λz=>absurd z hk) λy hy=>?_;rw[e2]at hy;rcases ck hy with z|rfl
   ·exact h.inv.2 y z
   ·exact AG hm (h.inv.2 m (ac e2)) e3
theorem vA:∀{p:List Nat}{n m:NT},SB a n→iS n p=some m→SB a m
 | [],n,m,h,e=>by cases n;cases e;exact h
 | i::p,.mk k x src path ks,m,.mk h1 h2,e=>by
  rw[iS]at e;cases e2:ks[i]? with
  | none=>rw[e2]at e;cases e
  | some n=>rw[e2]at e;exact vA (h2 n (ac e2)) e
theorem xA:∀{p:List Nat}{n:NT},fst n=some p→∃m,iS n p=some m∧Jo m
 | [],.mk k x src path ks,e=>by
  rcases qM e with⟨h,_⟩|⟨_,j,q,m,e1,_⟩
  ·exact⟨_,rfl,h⟩
  ·cases e1
 | i::p,.mk k x src path ks,e=>by
  rcases qM e with⟨_,z⟩|⟨hk,j,q,m,e1,e2,e3⟩
  ·cases z
  ·cases e1;obtain⟨m2,h1,h2⟩:=xA e3;exact⟨m2,by rw[iS,e2];exact h1,h2⟩
theorem jS(hM:1≤M)(hg:∀w g,giv w=some g→gf g≤M):∀(t:T)(p:List Int)(o:Ow)(i:Nat),gf (nt c src giv t p o i)+t.names.length≤t.size+t.names.length*M
 | .num n,p,o,i=>by simp[nt,ef,gf,fK,T.names,T.size]
 | .name w,p,o,i=>by
  simp only[nt,ef,T.names,T.size,bB,bx];cases o w with
  | some x=>simp only[gf,fK];lia
  | none=>cases hw:giv w with
   | none=>simp only[gf,fK];lia
   | some g=>have:=hg w g hw;simp only;lia
 | .sum a b,p,o,i=>by have:=jS (c:=c) (src:=src) hM hg a (p++[0]) o (i+1);have:=jS (c:=c) (src:=src) hM hg b (p++[1]) o (i+1+a.size);simp only[nt,ef,gf,fK,T.names,T.size,aD,am];lia
 | .less a b,p,o,i=>by have:=jS (c:=c) (src:=src) hM hg a (p++[0]) o (i+1);have:=jS (c:=c) (src:=src) hM hg b (p++[1]) o (i+1+a.size);simp only[nt,ef,gf,fK,T.names,T.size,aD,am];lia
 | .cho a b d,p,o,i=>by have:=jS (c:=c) (src:=src) hM hg a (p++[0]) o (i+1);have:=jS (c:=c) (src:=src) hM hg b (p++[1]) o (i+1+a.size);have:=jS (c:=c) (src:=src) hM hg d (p++[2]) o (i+1+a.size+b.size);simp only[nt,ef,gf,fK,T.names,T.size,aD,am];lia
 | .lt w a b,p,o,i=>by have:=jS (c:=c) (src:=src) hM hg a (p++[0]) o (i+1);have:=jS (c:=c) (src:=src) hM hg b (p++[1]) (Ow.put o w (c+((i+1:Nat):Int))) (i+1+a.size);simp only[nt,ef,gf,fK,T.names,T.size,aD,am];lia
 | .st0 w,p,o,i=>by simp[nt,ef,gf,fK,T.names,T.size]
 | .st1 w a,p,o,i=>by have:=jS (c:=c) (src:=src) hM hg a (p++[0]) o (i+1);simp only[nt,ef,gf,fK,T.names,T.size];lia
 | .st2 w a b,p,o,i=>by have:=jS (c:=c) (src:=src) hM hg a (p++[0]) o (i+1);have:=jS (c:=c) (src:=src) hM hg b (p++[1]) o (i+1+a.size);simp only[nt,ef,gf,fK,T.names,T.size,aD,am];lia
def KY(a z:Nat)(S:Str→Nat→Prop):Prop:=(∀w k,S w k→k=0∧w≠"st")∨(z≤5*a∧((∀w k,S w k→w≠"st")∨z≤a))
theorem KY.le(h:KY a z S)(hz:z'≤z):KY a z' S:=by
 rcases h with h|⟨h,h2⟩
 ·exact .inl h
 ·exact .inr ⟨by lia,h2.imp id λq=>by lia⟩
theorem sn:("name":Str)≠"stamp":=by decide+kernel
theorem jT{giv:Gi}{c:Int}{src:Str}{a:Nat}{S:Str→Nat→Prop}(ha:1≤a)(hg:∀w g,giv w=some g→SB a g)(hS:∀w k,S w k→kb w=some k):∀(t:T)(p:List Int)(o:Ow)(i:Nat),WT S t→KY a (gf (nt c src giv t p o i)) S→SB a (nt c src giv t p o i)
 | .num n,p,o,i,_,_=>.leaf (by decide+kernel)
 | .name w,p,o,i,_,_=>by
  simp only[nt,ef];cases o w with
  | some x=>exact .leaf sn
  | none=>cases hw:giv w with
   | none=>exact .leaf sn
   | some g=>exact hg w g hw
 | .sum x y,p,o,i,w,h=>by simp only[nt,ef,gf,fK]at h;have h1:=jT (c:=c) (src:=src) ha hg hS x (p++[0]) o (i+1) w.1 (h.le (by lia));have h2:=jT (c:=c) (src:=src) ha hg hS y (p++[1]) o (i+1+x.size) w.2 (h.le (by lia));exact .mk (λz=>absurd z (by decide+kernel)) (by simp[h1,h2])
 | .less x y,p,o,i,w,h=>by simp only[nt,ef,gf,fK]at h;have h1:=jT (c:=c) (src:=src) ha hg hS x (p++[0]) o (i+1) w.1 (h.le (by lia));have h2:=jT (c:=c) (src:=src) ha hg hS y (p++[1]) o (i+1+x.size) w.2 (h.le (by lia));exact .mk (λz=>absurd z (by decide+kernel)) (by simp[h1,h2])
 | .cho x y q,p,o,i,w,h=>by simp only[nt,ef,gf,fK]at h;have h1:=jT (c:=c) (src:=src) ha hg hS x (p++[0]) o (i+1) w.1 (h.le (by lia));have h2:=jT (c:=c) (src:=src) ha hg hS y (p++[1]) o (i+1+x.size) w.2.1 (h.le (by lia));have h3:=jT (c:=c) (src:=src) ha hg hS q (p++[2]) o (i+1+x.size+y.size) w.2.2 (h.le (by lia));exact .mk (λz=>absurd z (by decide+kernel)) (by simp[h1,h2,h3])
 | .lt v x y,p,o,i,w,h=>by
  simp only[nt,ef,gf,fK]at h;have h1:=jT (c:=c) (src:=src) ha hg hS x (p++[0]) o (i+1) w.2.1 (h.le (by lia));have h2:=jT (c:=c) (src:=src) ha hg hS y (p++[1]) (Ow.put o v (c+((i+1:Nat):Int))) (i+1+x.size) w.2.2 (h.le (by lia));exact .mk (λz=>absurd z (by decide+kernel)) (λn hn=>by
   simp only[aB,aF,or_false]at hn;rcases hn with rfl|rfl
   ·exact h1
   ·exact h2)
 | .st0 v,p,o,i,w,h=>by simp only[nt,ef,gf,fK]at h⊢;exact .mk (λ_=>⟨⟨v,rfl,hS _ _ w⟩,by simp only[fK];lia,λ_=>by simp only[fK];lia⟩) (by simp)
 | .st1 v x,p,o,i,w,h=>by
  simp only[nt,ef,gf,fK]at h;have h1:=jT (c:=c) (src:=src) ha hg hS x (p++[0]) o (i+1) w.2 (h.le (by lia));rcases h with h|⟨h,h3⟩
  ·exact absurd (h _ _ w.1).1 (by decide)
  ·refine .mk (λ_=>⟨⟨v,rfl,hS _ _ w.1⟩,by simp only[fK];lia,λe=>?_⟩) (by simp[h1]);rcases h3 with h3|h3
   ·cases e;exact absurd rfl (h3 _ _ w.1)
   ·simp only[fK];lia
 | .st2 v x y,p,o,i,w,h=>by
  simp only[nt,ef,gf,fK]at h;have h1:=jT (c:=c) (src:=src) ha hg hS x (p++[0]) o (i+1) w.2.1 (h.le (by lia));have h2:=jT (c:=c) (src:=src) ha hg hS y (p++[1]) o (i+1+x.size) w.2.2 (h.le (by lia));rcases h with h|⟨h,h3⟩
  ·exact absurd (h _ _ w.1).1 (by decide)
  ·refine .mk (λ_=>⟨⟨v,rfl,hS _ _ w.1⟩,by simp only[fK];lia,λe=>?_⟩) (by simp[h1,h2]);rcases h3 with h3|h3
   ·cases e;exact absurd rfl (h3 _ _ w.1)
   ·simp only[fK];lia
structure xP(b1 b2 b3:T):Prop where
 w1:WT (λ_ _=>False) b1
 w2:WT (λw k=>w="star"∧k=0) b2
 w3:WT (λw k=>(w="star"∧k=0)∨(w="sta"∧k=1)) b3
 z1:b1.size≤4
 z2:b2.size≤8∧b2.names.length≤4
 z3:b3.size≤10∧b3.names.length≤5
theorem Dx:kb "star"=some 0:=if_pos rfl
theorem Hh:kb "sta"=some 1:=by unfold kb;rw[if_neg (by decide+kernel),if_pos rfl]
theorem Be(K:xP b1 b2 b3)(B:yk b1 b2 b3 w ks giv body):gf (nt c w giv body [] Ow.none 0)≤5*(1+fK ks):=by
 cases B with
 | star=>have:=jS (giv:=Bs) (c:=c) (src:="star") (aC 1) (λw g e=>by cases e) b1 [] Ow.none 0;have:=K.z1;simp only[fK];lia
 | @sta g=>
  have hg:1≤gf g:=by cases g;rw[gf];lia
  have:=jS (giv:=HZ g) (c:=c) (src:="sta") (M:=gf g) hg (mt (b1:=b1) (b2:=b2) (b3:=b3) .sta λn hn=>by rw[aG]at hn;rw[hn];exact aC _) b2 [] Ow.none 0;obtain⟨z1,z2⟩:=K.z2;obtain⟨j,hj⟩:=Nat.le.dest hg;have h6:b2.names.length*gf g=b2.names.length+b2.names.length*j:=by rw[←hj,cf,Nat.mul_one]
  have h7:=Jf (M:=j) z2;simp only[fK];lia
 | @st g h=>
  have hg:1≤gf g:=by cases g;rw[gf];lia
  have hh:1≤gf h:=by cases h;rw[gf];lia
  obtain⟨j,hj⟩:=Nat.le.dest (show 2≤gf g+gf h by lia);have:=jS (giv:=Du g h) (c:=c) (src:="st") (M:=1+j) (by lia) (mt (b1:=b1) (b2:=b2) (b3:=b3) .st λn hn=>by
   simp only[aB,aF,or_false]at hn;rcases hn with rfl|rfl<;>lia) b3 [] Ow.none 0
  obtain⟨z1,z2⟩:=K.z3;rw[cf,Nat.mul_one]at this;have h7:=Jf (M:=j) z2;simp only[fK];lia
theorem Hs(ha:1≤a)(K:xP b1 b2 b3)(B:yk b1 b2 b3 w ks giv body)(h:SB a (.mk "stamp" (.str w) src path ks)):SB a (nt c w giv body [] Ow.none 0):=by
 have hz:=Be (c:=c) K B;have hg:=mt B h.inv.2;have hi:=h.inv.1 rfl;cases B with
 | star=>exact jT ha hg (λw k z=>z.elim) b1 [] Ow.none 0 K.w1 (.inl λw k z=>z.elim)
 | sta=>exact jT ha hg (λw k z=>by obtain⟨rfl,rfl⟩:=z;exact Dx) b2 [] Ow.none 0 K.w2 (.inl λw k z=>⟨z.2,by rw[z.1];decide+kernel⟩)
 | st=>have:=hi.2.2 rfl;exact jT ha hg (λw k z=>by rcases z with⟨rfl,rfl⟩|⟨rfl,rfl⟩;exact Dx;exact Hh) b3 [] Ow.none 0 K.w3 (.inr ⟨by lia,.inl λw k z=>by rcases z with⟨rfl,_⟩|⟨rfl,_⟩<;>decide+kernel⟩)
theorem uK(K:xP b1 b2 b3)(w:WT SF t)(h:Ly b1 b2 b3 t k n c):SB t.size n∧gf n≤t.size+k*(20*t.size):=by
 have ha:=t.size_pos;induction h with
 | zero=>
  have:=jS (giv:=Bs) (c:=0) (src:="") (aC 1) (λw g e=>by cases e) t [] Ow.none 0;have hz:gf (nt 0 "" Bs t [] Ow.none 0)≤t.size:=by lia
  exact⟨jT ha (λw g e=>by cases e) (λw k z=>z) t [] Ow.none 0 w (.inr ⟨by lia,.inr hz⟩),by lia⟩
 | @succ k n c p w src path ks giv body _ f1 g1 B ih=>have sm:=vA ih.1 g1;have h1:=Be (c:=c) K B;have h2:=we (m':=nt c w giv body [] Ow.none 0) g1;have h3:=(sm.inv.1 rfl).2.1;have h4:=ih.2;refine⟨AG (Hs ha K B sm) ih.1 f1,?_⟩;rw[am,bx];simp only[gf]at h2;lia
theorem Jj(K:xP b1 b2 b3)(w:WT SF t)(h:Ly b1 b2 b3 t k n c)(e:fst n=some p):∃w src path ks giv body,iS n p=some (.mk "stamp" (.str w) src path ks)∧yk b1 b2 b3 w ks giv body:=by
 obtain⟨m,h1,h2⟩:=xA e;have sm:=vA (uK K w h).1 h1;obtain⟨k',x,src,path,ks⟩:=m;have h2:k'="stamp":=h2;subst h2;obtain⟨⟨v,rfl,hf⟩,_⟩:=sm.inv.1 rfl;unfold kb at hf;split at hf
 ·rename_i hv;subst hv;cases ks with
  | nil=>exact⟨_,_,_,_,_,_,h1,.star⟩
  | cons=>simp at hf
 ·split at hf
  ·rename_i hv;subst hv
   match ks,hf with
   | [g],_=>exact⟨_,_,_,_,_,_,h1,.sta⟩
  ·split at hf
   ·rename_i hv;subst hv
    match ks,hf with
    | [g,h],_=>exact⟨_,_,_,_,_,_,h1,.st⟩
   ·cases hf
theorem Ao(h:tD b1 b2 b3 true rd ws s s' rd' ws')(o:s.ok (Rf rd)):
  ∃x,rd'=rd++x∧kr x≤s.wt 0∧mB x≤kr x∧ws'.length≤ws.length+mB x:=by
 cases h with
 | star e=>exact⟨[],(aZ _).symm,aU _,aC _,aC _⟩
 | @sta a m _ _ e h1=>
  have ok1:(s.kid 0 a).ok (Rf rd):=jz o (by rw[e];simp[T.kids]);obtain⟨x,rfl,h2,h3,h4⟩:=sD h1 ok1;have ew:s.wt 0=1+(s.kid 0 a).wt 0:=by unfold eF.wt;rw[e];rfl
  exact⟨x,rfl,by lia,h3,h4⟩
 | @st a b m n rd1 rd2 ws1 ws2 e h1 h2=>
  have ok1:(s.kid 0 a).ok (Rf rd):=jz o (by rw[e];simp[T.kids]);have ok2:(s.kid 1 b).ok (Rf rd):=jz o (by rw[e];simp[T.kids]);obtain⟨x,rfl,x2,x3,x4⟩:=sD h1 ok1;have ok3:(s.kid 1 b).ok (Rf (rd++x)):=eF.ok_mono (Rf.mono x) ok2;obtain⟨y,rfl,y2,y3,y4⟩:=sD h2 ok3;have ew:s.wt 0=1+(s.kid 0 a).wt 0+(s.kid 1 b).wt 0:=by unfold eF.wt;rw[e];rfl
  refine⟨x++y,aT _ _ _,?_,?_,?_⟩
  ·rw[jn];lia
  ·rw[jn,jo];lia
  ·rw[jo];lia
structure MB(B w0:Nat)(st:oV):Prop where
 wt:lM 0 st.S+kn st.R≤B
 rd:kr st.rd≤st.k*B
 sl:mB st.rd≤kr st.rd
 ws:st.ws.length≤w0+st.R.length+mB st.rd
theorem AS{F B n1:Nat}{st0 st:oV}(BK:tF b1 b2 b3)(hB:∀st,tI b1 b2 b3 F st0 st→st.k≤F→lM 0 st.S+kn st.R≤B)(h:tI b1 b2 b3 F st0 st)(I:eU F n1 st0)(z1:st0.rd=[])(z2:st0.R=[]):st.k≤F→MB B st0.ws.length st:=by
 induction h with
 | refl=>intro hk;exact⟨hB _ .refl hk,by rw[z1];exact aU _,by rw[z1];exact aC _,by lia⟩
 | @step st1 st2 r hk1 a ih=>
  intro hk;have hB2:=hB _ (.step r hk1 a) hk;have I1:=og BK r I;have J:=ih hk1;cases a with
  | @take S Q s R rs k ws ws' rd a=>have h2:=zA a;obtain⟨j1,j2,j3,j4⟩:=J;exact⟨hB2,j2,j3,by simp only[aD]at j4⊢;lia⟩
  | @opn S s s' R k ws ws' rd rd' a=>
   have hk:k+1≤F:=hk;rw[show decide (k+1≤F)=true from decide_eq_true hk]at a;have os:=I1.so s (aQ _ (.head _));obtain⟨x,rfl,h2,h3,h4⟩:=Ao a os;obtain⟨j1,j2,j3,j4⟩:=J;simp only[gC,gq]at j1 j2 j3 j4;refine⟨hB2,?_,?_,?_⟩
   ·show kr (rd++x)≤(k+1)*B;rw[jn,am,bx];lia
   ·show mB (rd++x)≤kr (rd++x);rw[jn,jo];lia
   ·show ws'.length≤_+R.length+mB (rd++x);rw[jo];lia
theorem AC{F k:Nat}{st:oV}(K:xP b1 b2 b3)(BK:tF b1 b2 b3)(w:WT SF t)(bt:BT t [] 0)(O:vn b1 b2 b3 ws0)(ht:∀w,t.out w→w∈ws0)(hz:t.size≤40)(hw:ws0.length≤252)(hK:∀j n c,Ly b1 b2 b3 t j n c→j≤F→j≤10)(h:tI b1 b2 b3 F (st0 t ws0) st)(hk:st.k≤F):Bm st:=by
 have bound:∀st,tI b1 b2 b3 F (st0 t ws0) st→st.k≤F→st.k≤10∧lM 0 st.S+kn st.R≤10000:=λst h hk=>by obtain⟨n,c,W,S⟩:=rb O ht h hk;have h1:=hK _ _ _ S.ly hk;have h2:=(uK K w S.ly).2;have h3:=IP S.tr;rw[kR,IM,IL,rJ]at h3;have h4:st.k*(20*t.size)≤10*(20*t.size):=bY _ h1;lia
 have I:=kO (F:=F) (ws:=ws0) bt;have J:=AS BK (λst h hk=>(bound st h hk).2) h I rfl rfl hk;obtain⟨h1,h2⟩:=bound st h hk;have h3:=kQ (og BK h I).ro;obtain⟨j1,j2,j3,j4⟩:=J;have j4:st.ws.length≤ws0.length+st.R.length+mB st.rd:=j4;have h4:st.k*10000≤10*10000:=bY _ h1;refine⟨by lia,by lia,by lia,λR hR=>?_⟩;have:=tS hR;lia
end S8
namespace L2
open PySem PySem.Spec PyProof.Rows
section
variable {prog:Program}{w:World}{A:Around}{s:Shared}{R:Result→Shared→Prop}
theorem sZ(J:Nat→Shared→Prop)
  (turn:∀n s,J n s→wpAny (model prog w) A (pyNext it) (λr s1=>match r with
   | none=>R (.ok .next) s1
   | some v=>wpAny (model prog w) A (letOwnedTupleGo tg it v) (λ_ s2=>wpAny (model prog w) A (assign tg env v) (λ_ s3=>wpAny (model prog w) A (forIn ifs true λc r=>if r=true then do let ok ← isTrue c env (eval c env);pure (ForInStep.yield ok)else pure (ForInStep.yield r)) (λok s6=>if ok=true then wpAny (model prog w) A (eval elt env) (λx s4=>
     wpAny (model prog w) A (call (.builtin "list.append") [acc,x]) (λ_ s5=>∃m,m<n∧J m s5) (notedBy (model prog w) A env λe s'=>R (.error e) s') s4) (notedBy (model prog w) A env λe s'=>R (.error e) s') s6 else ∃m,m<n∧J m s6) (notedBy (model prog w) A env λe s'=>R (.error e) s') s3) (notedBy (model prog w) A env λe s'=>R (.error e) s') s2) (notedBy (model prog w) A env λe s'=>R (.error e) s') s1) (notedBy (model prog w) A env λe s'=>R (.error e) s') s)
  (n:Nat) (h:J n s):codeAny (model prog w) A (.compLoop (.ListComp elt [⟨tg,iter,ifs,0⟩] scope pos) 0 it acc env) R s:=by
 refine codeAny_loop rfl J (λn s hJ=>?_) n h;show wpAny _ A ((compTurn (.ListComp elt [⟨tg,iter,ifs,0⟩] scope pos) 0 it acc env).onRaise (λx=>do noteFrame x env;theTreesLotGoes x)) _ _ s;refine wpAny_noted ?_;rw[compTurn_list];refine wpAny_bind (wpAny_standAt (wpAny_bind (wpAny_mono (turn n s hJ) (λr s1 h1=>?_) λ_ _ z=>z)));cases r with
 | none=>exact wpAny_pure h1
 | some v=>
  refine wpAny_bind (wpAny_mono h1 (λ_ s2 h2=>wpAny_bind (wpAny_mono h2 (λ_ s3 h3=>wpAny_bind (wpAny_mono h3 (λok s6 h6=>?_) λ_ _ z=>z)) λ_ _ z=>z)) λ_ _ z=>z);cases ok with
  | false=>exact wpAny_pure ⟨rfl,h6⟩
  | true=>exact wpAny_bind (wpAny_bind (wpAny_mono h6 (λx s4 h4=>wpAny_bind (wpAny_mono h4 (λ_ s5 h5=>wpAny_pure (wpAny_pure ⟨rfl,h5⟩)) λ_ _ z=>z)) λ_ _ z=>z))
end
def J6(X:Cx)(ifs:List Expr)(t:TT):Prop:=
 ∀(pins:List (Addr×Obj))(s:Shared)(σ:St)(H:Hp)(Q:Bool→Hp→Prop),eU X pins σ H s→t σ H Q→wpAny (model X.prog X.w) X.A (forIn ifs true λc r=>if r=true then do let ok ← isTrue c X.env (eval c X.env);pure (ForInStep.yield ok)else pure (ForInStep.yield r)) (TP X pins σ Q) X.xe s
def C9:TT:=λ_ H Q=>Q true H
theorem re:J6 X [] C9:=λpins s σ H Q I h=>wpAny_tests_nil ⟨H,I,h⟩
theorem DP(h:PT X c t):J6 X [c] t:=λpins s σ H Q I z=>wpAny_tests_one (h pins s σ H Q I z)
def DA(k:Nat)(wi:TI)(g:TG)(tt:TT)(te:TE)(js:List Nat):TE:=λσ H Q=>wi σ H λJ H1=>∃W:Nat→Nat→List V→Hp→Prop,(∃m,W 0 m [] H1)∧∀i m vs H,W i m vs H→
 (J.stop i H∧vs.length≤sizeLine∧ku H (.lst vs) Q)∨
 (J.go i H∧∀x H',J.yld i H x H'→∀os:St,os.length=k→g x (os++BM σ js) H' λσ2 H2=>(∃os:St,os.length=k∧σ2=os++BM σ js)∧tt σ2 H2 λc H3=>if c=true then te σ2 H3 λy H''=>vs.length<sizeLine∧∃m',m'<m∧W (i+1) m' (vs++[y]) H'' else ∃m',m'<m∧W (i+1) m' vs H3)
theorem wu{use:Option (Value→Sem Unit)}{Q':Value→Shared→Prop}{cpos:Pos}{pins:List (Addr×Obj)}{s:Shared}{σ:St}{H:Hp}{Q:VK}(hc:X.calm=true)(S:iX X scope cl (x::xr) ys js)(hi:PI X tg iter wi)
  (hg:∀(fp:List Addr)(s:Shared)(H:Hp)(C:Addr),PG (gX X scope cl (x::(xr++ys)) fp s H C) tg g)
  (ht:∀(fp:List Addr)(s:Shared)(H:Hp)(C:Addr),J6 (gX X scope cl (x::(xr++ys)) fp s H C) ifs tt)
  (he:∀(fp:List Addr)(s:Shared)(H:Hp)(C:Addr),PE (gX X scope cl (x::(xr++ys)) fp s H C) elt te) (hs:∀x,foldedSetIterable iter X.env x=pure x) (I:eU X pins σ H s) (h:DA (x::xr).length wi g tt te js σ H Q)
  (gi:∀(D C:Addr)(s2 s4:Shared)(H2 Hn:Hp),eU X pins σ H2 s2→s2.heap.objs.size≤C→(∃m,s4.heap.Ns C m)→Hn C=none→(∀h'',Heap.SameBut C s4.heap h''→eU X pins σ Hn {s4 with heap:=h''})→Q (.ref D) Hn→compPost (model X.prog X.w) X.A X.xe use Q' (.ref D) C (.ok .next) s4):
  wpAny (model X.prog X.w) X.A (comprehension (.ListComp elt [⟨tg,iter,ifs,0⟩] scope pos) scope X.env cpos (newList []) false (eval iter X.env) use) Q' X.xe s:=by
 refine wpAny_comprehension_free (use:=use) rfl hs S.clos S.kind S.names (thn (hi pins s σ H _ I h) λv s1 h1=>thn h1 λitv s2 h2=>?_);obtain⟨it,fp,tn,J,H2,e,I2,T,st2,f2,W,⟨m0,w0⟩,turn⟩:=h2;subst e;have fpb:∀b∈fp,b<s2.heap.objs.size:=λb hb=>by obtain⟨o,e,_⟩:=T.obj _ _ st2 b hb;exact Heap.lt_size e
 refine wpAny_newObj_type (wpAny_newFunctionEnv S.ncell (by intro y hy;simp at hy) (λh₁ hns₁ hsb₁=>?_) S.kind);dsimp only at hns₁ hsb₁⊢;generalize hH2:s2.heap.push {cls:=.type "list",dict:=none,data:=.seq ([]:List Value).toArray}=G2 at hns₁ hsb₁⊢;have hC:G2.objs.size=s2.heap.objs.size+1:=by rw[←hH2,Heap.size_push]
 have hDC:s2.heap.objs.size≠G2.objs.size:=by rw[hC];exact aL (b5 _)
 have hCle:s2.heap.objs.size≤G2.objs.size:=by rw[hC];exact bQ _
 have below:∀b,b<s2.heap.objs.size→b≠G2.objs.size∧b≠s2.heap.objs.size:=λb hb=>⟨by rw[hC];exact aL (cb hb),aL hb⟩;have old:∀b o,s2.heap.get? b=some o→h₁.get? b=some o:=λb o e=>hsb₁.extBut b o (below b (Heap.lt_size e)).1 (Heap.get?_push_of_some _ (hH2▸Heap.get?_push_of_some _ e));have hacc:h₁.get? s2.heap.objs.size=some (me [] 0):=hsb₁.extBut _ _ hDC (Heap.get?_push_of_some _ (hH2▸Heap.get?_push_size _ rfl));have st4:tn 0 h₁:=T.keep _ _ _ st2 λb _ o e=>old b o e;have I4:=λ(t':Nat)=>I2.compInT (t':=t') S f2 fpb hCle (aC _) hDC old hns₁ hacc;have loop:∀t':Nat,codeAny (model X.prog X.w) X.A (.compLoop (.ListComp elt [⟨tg,iter,ifs,0⟩] scope pos) 0 (.ref it) (.ref s2.heap.objs.size) (compEnvC scope cl G2.objs.size X.env))
   (compPost (model X.prog X.w) X.A X.xe use Q' (.ref s2.heap.objs.size) G2.objs.size) {s2 with heap:=h₁,toks:=t'}:=by
  intro t';refine sZ (λn s'=>∃(i:Nat)(os:St)(H':Hp)(vs:List V)(its:List Value)(c:Nat),os.length=(x::xr).length∧eU (gX X scope cl (x::(xr++ys)) fp s2 H2 G2.objs.size) ((X.pn++pins)++[(s2.heap.objs.size,me its c)]) (os++BM σ js) H' s'∧tn i s'.heap∧(∀b∈fp,H' b=none)∧fG vs its∧W i n vs H') ?_ m0
   ⟨0,List.replicate (x::xr).length none,H2,[],[],0,cO,I4 t',st4,λb hb=>(f2 b hb).1,.nil,w0⟩
  rintro n s3 ⟨i,os,H3,vs,its,c,hos,I3,st3,fr3,rv,w3⟩;have stat:∀{H':Hp}{its':List Value}{c':Nat},(∀b∈fp,H' b=none)→∀b∈fp,oX (gX X scope cl (x::(xr++ys)) fp s2 H2 G2.objs.size) ((X.pn++pins)++[(s2.heap.objs.size,me its' c')]) H' b:=λhn b hb=>by
   obtain⟨_,h1,h2,h3,h4,h5⟩:=f2 b hb;refine⟨hn b hb,(below b (fpb b hb)).1,I2.nostk h1 h2,.inl hb,λy c e=>h4 y c (S.cells y c e),λp hp=>?_⟩;rcases aV.mp (show p∈(X.pn++pins)++[(s2.heap.objs.size,_)]from hp)with z|z
   ·exact h5 p z
   ·rw[aG]at z;subst z;exact af (below b (fpb b hb)).2
  rcases turn i n vs H3 w3 with⟨stop,hz,q⟩|⟨go,step⟩
  ·refine thn (T.done (gX X scope cl (x::(xr++ys)) fp s2 H2 G2.objs.size) rfl rfl rfl hc i _ s3 _ H3 _ I3 (stat fr3) st3 stop) λr s4 ⟨hr,I5⟩=>?_;subst hr;obtain⟨mm,hn,_⟩:=I5.loc;have pD:=(I5.pin _ (aQ _ (aQ _ (aG.mpr rfl)))).2.1;exact gi _ _ s2 s4 H2 _ I2 hCle ⟨mm,hn⟩ (by rw[db (af hDC)];exact I5.free) (λh'' hs''=>I2.compOut f2 hCle (aC _) hDC I5 (aQ _ (aG.mpr rfl)) rv hz hs'') (q _ pD)
  ·refine thn (T.item (gX X scope cl (x::(xr++ys)) fp s2 H2 G2.objs.size) rfl rfl rfl hc i _ s3 _ H3 _ I3 (stat fr3) st3 go) λr s4 ⟨u,hr,h4⟩=>?_;subst hr;refine thn h4 λ_ s5 ⟨xv,H5,I5,r5,y5,st5,fr5⟩=>?_;have I5':=I5.pinned (stat fr5) (T.obj _ _ st5);refine wpAny_mono (hg fp s2 H2 G2.objs.size _ s5 _ H5 xv u _ I5' r5 (step xv H5 y5 os hos)) (λ_ s6 ⟨σ6,H6,I6,⟨ps,hps,e6⟩,h6⟩=>?_) (λ_ _ z=>False.elim z);subst e6;refine wpAny_mono (ht fp s2 H2 G2.objs.size _ s6 _ _ _ I6 h6) (λok s6 ⟨H6,I6,h6⟩=>?_) (λ_ _ z=>False.elim z);cases ok with
   | false=>
    obtain⟨m',hm,w7⟩:=h6;have I7a:eU (gX X scope cl (x::(xr++ys)) fp s2 H2 G2.objs.size) ((X.pn++pins)++[(s2.heap.objs.size,me its c)]) (ps++BM σ js) H6 s6:=I6.pins_of λp hp=>I6.pin p (aQ _ (ag _ hp));have pfp:∀b∈fp,∀o,s5.heap.get? b=some o→s6.heap.get? b=some o∧H6 b=none:=λb hb o e=>by have z:=I6.pin (b,o) (aQ _ (aQ _ (kY hb e)));exact⟨z.1,z.2.1⟩
    refine⟨m',hm,i+1,ps,H6,vs,its,c,hps,I7a,T.keep _ _ _ st5 λb hb o e=>(pfp b hb o e).1,λb hb=>?_,rv,w7⟩;obtain⟨o,e,_⟩:=T.obj _ _ st5 b hb;exact(pfp b hb o e).2
   | true=>
   have h6:=h6;refine wpAny_mono (he fp s2 H2 G2.objs.size _ s6 _ _ _ I6 h6) (λy s7 ⟨yv,H7,I7,r7,hz,m',hm,w7⟩=>?_) (λ_ _ z=>False.elim z);have mD:(s2.heap.objs.size,me its c)∈(X.pn++pins)++[(s2.heap.objs.size,me its c)]:=aQ _ (aG.mpr rfl);have pD:=I7.pin (s2.heap.objs.size,me its c) (aQ _ (ag _ mD));have pfp:∀b∈fp,∀o,s5.heap.get? b=some o→s7.heap.get? b=some o∧H7 b=none:=λb hb o e=>by have z:=I7.pin (b,o) (aQ _ (aQ _ (kY hb e)));exact⟨z.1,z.2.1⟩
   refine append_at pD.1 (λh8 hs8 hD8=>?_) (by rw[aM,←rv.length];exact bO hz);have I7a:eU (gX X scope cl (x::(xr++ys)) fp s2 H2 G2.objs.size) (X.pn++pins) (ps++BM σ js) H7 s7:=I7.pins_of λp hp=>I7.pin p (aQ _ (ag _ (ag _ hp)));have I8:=I7a.turned (t':=s7.toks) (it:=s2.heap.objs.size) (λb o hb e=>(hs8.2 b hb).trans e) pD.2.1 pD.2.2.1 (.inr (aC _)) (λz cc e=>by
     obtain⟨v,o,e1,e2⟩:=I2.cell z cc (S.cells z cc e);exact aL (Heap.lt_size e1)) (λp hp=>by
     obtain⟨e1,_⟩:=I2.pin p hp;exact aL (Heap.lt_size e1))
   refine⟨m',hm,i+1,ps,H7,vs++[yv],its++[y],c+1,hps,I8.pins_of λp hp=>?_,?_,λb hb=>?_,fG.append rv (.cons r7 .nil),w7⟩
   ·rcases aV.mp hp with z|z
    ·exact I8.pin p (aQ _ z)
    ·rw[aG]at z;subst z;refine⟨?_,pD.2.1,pD.2.2.1,pD.2.2.2.1,λv z=>by cases(show Data.seq _ _=Data.cell v from z)⟩;rw[show me (its++[y]) (c+1)={cls:=.type "list",data:=.seq (its.toArray.push y) (c+1)} by unfold me;rw[List.push_toArray]];exact hD8
   ·exact T.keep _ _ _ st5 λb hb o e=>(hs8.2 b (aL (fpb b hb))).trans (pfp b hb o e).1
   ·obtain⟨o,e,_⟩:=T.obj _ _ st5 b hb;exact(pfp b hb o e).2
 exact codeAny_compStart_list (loop _) (T.self _ 0 _ _ _ st4 (loop _))
theorem vQ(hc:X.calm=true)(S:iX X scope cl (x::xr) ys js)(hi:PI X tg iter wi)
  (hg:∀(fp:List Addr)(s:Shared)(H:Hp)(C:Addr),PG (gX X scope cl (x::(xr++ys)) fp s H C) tg g)
  (ht:∀(fp:List Addr)(s:Shared)(H:Hp)(C:Addr),J6 (gX X scope cl (x::(xr++ys)) fp s H C) ifs tt)
  (he:∀(fp:List Addr)(s:Shared)(H:Hp)(C:Addr),PE (gX X scope cl (x::(xr++ys)) fp s H C) elt te) (hs:∀x,foldedSetIterable iter X.env x=pure x:=by intro _;rfl):
  PE X (.ListComp elt [⟨tg,iter,ifs,0⟩] scope pos) (DA (x::xr).length wi g tt te js):=by
 intro pins s σ H Q I h;rw[eval_ListComp];exact wu hc S hi hg ht he hs I h λD C s2 s4 H2 Hn I2 hC hn hCn hI q=>hn.elim λm hn=>⟨m,hn,λh'' hs''=>⟨.ref D,_,hI h'' hs'',rfl,q⟩⟩
def M7(wi:TI):TI:=λσ H R=>∃R0,wi σ H R0∧∀J H',R0 J H'→R J H'
theorem Af(h:PI X tg iter wi):PI X tg iter (M7 wi):=λpins s σ H R I ⟨R0,h1,h2⟩=>
 thn (h pins s σ H R0 I h1) λv s1 h3=>thn h3 λitv s2 ⟨it,fp,tn,J,H',e,I',T,st,f,r⟩=>⟨it,fp,tn,J,H',e,I',T,st,f,h2 _ _ r⟩
theorem Gv(hc:X.calm=true)(S:iX X scope cl [x] ys js)(hi:PI X (.Name x px) iter wi)
  (he:∀(fp:List Addr)(s:Shared)(H:Hp)(C:Addr),PE (gX X scope cl (x::ys) fp s H C) elt te) (nd:(x::ys).Nodup:=by decide+kernel) (loc:scope.names.lookup x=some .local:=by rfl) (hs:∀x,foldedSetIterable iter X.env x=pure x:=by intro _;rfl):
  PE X (.ListComp elt [⟨.Name x px,iter,[],0⟩] scope pos) (Ig wi te js):=by
 intro pins s σ H Q I h;refine vQ (xr:=[]) hc S (Af hi) (λfp s H C=>lQ (i:=0) nd rfl (bF (lookup_relabel_local loc)) (.inr (lookup_relabel_local loc))) (λfp s H C=>re) he hs pins s σ H Q I ⟨_,h,λJ H1 z=>?_⟩;obtain⟨W,w0,turn⟩:=z;refine⟨W,w0,λi m vs H w=>(turn i m vs H w).imp id λz=>⟨z.1,λx H' y os hos=>?_⟩⟩
 match os,hos with
 | [o],_=>have q:=z.2 x H' y;refine⟨⟨[some x],rfl,rfl⟩,?_⟩;unfold C9;dsimp only;rw[if_pos rfl];exact q
theorem Gu(hc:X.calm=true)(S:iX X scope cl [x,x2] ys js)(hi:PI X tg iter wi)
  (hg:∀(fp:List Addr)(s:Shared)(H:Hp)(C:Addr),PG (gX X scope cl (x::x2::ys) fp s H C) tg g) (hgm:∀v σ H (Q Q':St→Hp→Prop),g v σ H Q→(∀σ' H',Q σ' H'→Q' σ' H')→g v σ H Q')
  (he:∀(fp:List Addr)(s:Shared)(H:Hp)(C:Addr),PE (gX X scope cl (x::x2::ys) fp s H C) elt te) (hs:∀x,foldedSetIterable iter X.env x=pure x:=by intro _;rfl):
  PE X (.ListComp elt [⟨tg,iter,[],0⟩] scope pos) (Ie wi g te js):=by
 intro pins s σ H Q I h;refine vQ (xr:=[x2]) hc S (Af hi) hg (λfp s H C=>re) he hs pins s σ H Q I ⟨_,h,λJ H1 z=>?_⟩;obtain⟨W,w0,turn⟩:=z;refine⟨W,w0,λi m vs H w=>(turn i m vs H w).imp id λz=>⟨z.1,λx H' y os hos=>?_⟩⟩
 match os,hos with
 | [o1,o2],_=>refine hgm _ _ _ _ _ (z.2 x H' y o1 o2) λσ' H2 q=>?_;obtain⟨⟨p1,p2,e⟩,q⟩:=q;refine⟨⟨[p1,p2],rfl,e⟩,?_⟩;unfold C9;dsimp only;rw[if_pos rfl];exact q
theorem sQ{L:List (Str×NameKind)}{cl:List (Str×Addr)}{y:Str}(hL:∀p∈L,p.2=.cell∨p.2=.free→∃c,cl.lookup p.1=some c)(h:L.lookup y=some .cell∨L.lookup y=some .free):∃c,cl.lookup y=some c:=by
 have key:∀{k:NameKind}{L:List (Str×NameKind)},L.lookup y=some k→(y,k)∈L:=by
  intro k L;induction L with
  | nil=>intro h;cases h
  | cons p L ih=>
   intro h;rw[List.lookup_cons]at h;cases e:y==p.1 with
   | true=>rw[e]at h;cases h;have:=eq_of_beq e;subst this;exact .head _
   | false=>rw[e]at h;exact .tail _ (ih h)
 rcases h with h|h
 ·exact hL _ (key h) (.inl rfl)
 ·exact hL _ (key h) (.inr rfl)
end L2
namespace SW
open PySem L2
abbrev DK:=List (fE×V)
def uM:V→fE
 | .int i=>.inl i
 | .str s=>.inr s
 | _=>.inl 0
def sP(t:T)(x:V)(fo ba:DK):Prop:=match t with
 | .num m=>V.int m=x
 | .name w=>(fS fo (.inr w:fE)).getD (.str w)=x∧(fS ba (uM x)).getD (.str w)=.str w
 | _=>True
def oR(t:T)(x:V)(fo:DK)(j:Nat):DK:=match t,j with
 | .lt w _ _,1=>gA fo (.inr w:fE) x
 | _,_=>fo
def oS(t:T)(x:V)(ba:DK)(j:Nat):DK:=match t,j with
 | .lt w _ _,1=>gA ba (uM x) (.str w)
 | _,_=>ba
inductive km:T→NT→DK→DK→Prop where
 | mk{t:T}{k:Str}{x:V}{src:Str}{path:List Int}{ks:List NT}{fo ba:DK}:kind t=k→sP t x fo ba→t.kids.length=ks.length→(∀(j:Nat) a n,t.kids[j]?=some a→ks[j]?=some n→km a n (oR t x fo j) (oS t x ba j))→km t (.mk k x src path ks) fo ba
theorem km.inv:km t (.mk k x src path ks) fo ba↔kind t=k∧sP t x fo ba∧t.kids.length=ks.length∧∀(j:Nat) a n,t.kids[j]?=some a→ks[j]?=some n→km a n (oR t x fo j) (oS t x ba j):=by
 constructor
 ·intro h;cases h with
  | mk a b c d=>exact⟨a,b,c,d⟩
 ·rintro⟨a,b,c,d⟩;exact .mk a b c d
inductive um:NT→Prop where
 | mk{k:Str}{x:V}{src:Str}{path:List Int}{ks:List NT}:(x=.non∨(∃i,x=.int i)∨∃s,x=.str s)→(k="name"→x≠.non)→(k="let"→∃i,x=.int i)→(∀n∈ks,um n)→um (.mk k x src path ks)
def yj(fo:DK):Prop:=∀(q:fE) v,fS fo q=some v→∃i,v=.int i
def ym(ba:DK):Prop:=∀(q:fE) v,fS ba q=some v→∃s,v=.str s
theorem yj.put(h:yj fo)(q:fE)(i:Int):yj (gA fo q (.int i)):=λq' v e=>by
 rw[jY]at e;by_cases z:q'=q
 ·rw[if_pos z]at e;cases e;exact⟨i,rfl⟩
 ·rw[if_neg z]at e;exact h q' v e
theorem ym.put(h:ym ba)(q:fE)(s:Str):ym (gA ba q (.str s)):=λq' v e=>by
 rw[jY]at e;by_cases z:q'=q
 ·rw[if_pos z]at e;cases e;exact⟨s,rfl⟩
 ·rw[if_neg z]at e;exact h q' v e
abbrev G4:=T×NT×DK×DK
def G4.ok(g:G4):Prop:=km g.1 g.2.1 g.2.2.1 g.2.2.2
def KE(H₀ H:Hp)(g:G4)(w:V):Prop:=∃(q fd bd:Addr)(v u:V),w=.ref q∧H q=some (.tup [v,u,.ref fd,.ref bd])∧gG H g.1 v∧kj H₀ g.2.1 u∧H fd=some (.dK g.2.2.1)∧H bd=some (.dK g.2.2.2)∧um g.2.1∧yj g.2.2.1∧ym g.2.2.2∧g.2.2.1.length+g.1.size≤110000∧g.2.2.2.length+g.1.size≤110000
inductive GL(H₀ H:Hp):List G4→List V→Prop where
 | nil:GL H₀ H [] []
 | snoc{g:G4}{u:V}{gs:List G4}{us:List V}:GL H₀ H gs us→KE H₀ H g u→GL H₀ H (g::gs) (us++[u])
theorem KE.mono(m:fH H H')(k:uj H H')(h:KE H₀ H g u):KE H₀ H' g u:=by obtain⟨q,fd,bd,v,u,e,h1,h2,h3,h4,h5,r⟩:=h;exact⟨q,fd,bd,v,u,e,m _ _ h1,h2.mono m,h3,k _ _ h4,k _ _ h5,r⟩
theorem GL.mono(m:fH H H')(k:uj H H'):∀{gs:List G4}{us:List V},GL H₀ H gs us→GL H₀ H' gs us
 | _,_,.nil=>.nil
 | _,_,.snoc r a=>.snoc (GL.mono m k r) (a.mono m k)
theorem GL.length:∀{gs:List G4}{us:List V},GL H₀ H gs us→us.length=gs.length
 | _,_,.nil=>rfl
 | _,_,.snoc r _=>by rw[aD,aE,GL.length r];rfl
def uz(gs:List G4):Nat:=(gs.map λg=>g.1.size).sum
theorem mQ(g:G4)(gs:List G4):uz (g::gs)=g.1.size+uz gs:=by simp[uz]
def pN:Sp:=λvs H Q _=>∃(t:T)(v u:V)(n:NT),vs=[v,u]∧gG H t v∧kj H n u∧um n∧t.size≤100000∧∀(b:Bool)(H':Hp),dq H H'→(b=true↔km t n [] [])→Q (.bl b) H'
end SW
namespace S3
open PySem L2 SW
def GA(K:aA):TS:=(fI (tC (.bl false)))
def Fz(K:aA):TS:=(fW (eI (eA qk (eA (eE K) (dN 3) (tC (.int 0))) (eA (eE K) (dN 4) (tC (.int 0))))) (GA K) fN)
def Fy(K:aA):TS:=(fI (tC (.bl false)))
def Fx(K:aA):TS:=(fW (kq (eI (eA kX (eA (eE K) (dN 3) (tC (.int 0))) (tC (.str "number")))) (eI (eA qk (eA (eE K) (dN 3) (tC (.int 1))) (eA (eE K) (dN 4) (tC (.int 1)))))) (Fy K) fN)
def Fw(K:aA):TS:=(fI (tC (.bl false)))
def Fv(K:aA):TS:=(fW (eI (eA qk (pF (dN 5) (eA (eE K) (dN 3) (tC (.int 1))) (eA (eE K) (dN 3) (tC (.int 1)))) (eA (eE K) (dN 4) (tC (.int 1))))) (Fw K) fN)
def Fu(K:aA):TS:=(fI (tC (.bl false)))
def Ft(K:aA):TS:=(fW (eI (eA qk (pF (dN 6) (eA (eE K) (dN 4) (tC (.int 1))) (eA (eE K) (dN 3) (tC (.int 1)))) (eA (eE K) (dN 3) (tC (.int 1))))) (Fu K) fN)
def Fs(K:aA):TS:=(de (Fv K) (Ft K))
def Cj(K:aA):TS:=(fW (eI (eA kX (eA (eE K) (dN 3) (tC (.int 0))) (tC (.str "name")))) (Fs K) fN)
def Ci(K:aA):TS:=(fI (tC (.bl false)))
def wA(K:aA):TS:=(fW (eI (eA qk (gm (gh K) (dM (dN 7) dW)) (gm (gh K) (dM (eA (eE K) (dN 4) (tC (.int 3))) dW)))) (Ci K) fN)
def Cg(K:aA):TS:=(de (eG (gm sh (dM (dN 5) dW)) (dX 9)) (de (lB (dN 9) (eA (eE K) (dN 3) (tC (.int 1))) (eA (eE K) (dN 4) (tC (.int 1)))) (de (eG (gm sh (dM (dN 6) dW)) (dX 10)) (lB (dN 10) (eA (eE K) (dN 4) (tC (.int 1))) (eA (eE K) (dN 3) (tC (.int 1)))))))
def Cf(K:aA):TS:=(fW (kq (eI (eA kX (eA (eE K) (dN 3) (tC (.int 0))) (tC (.str "let")))) (eI (eA kX (dN 8) (tC (.int 1))))) (Cg K) fN)
def rP(K:aA):TS:=(de (eG (dN 5) (dX 9)) (de (eG (dN 6) (dX 10)) (de (Cf K) (fQ (kB K "list" eh (dN 2) (dM (fP (dM (eA (gP K) (dN 7) (dN 8)) (dM (eA (gP K) (eA (eE K) (dN 4) (tC (.int 3))) (dN 8)) (dM (dN 9) (dM (dN 10) dW))))) dW))))))
def Ce(K:aA):TS:=(de (eG (lz K "list" mF (dN 2)) (lY K 4 (gF (dX 3) (gF (dX 4) (gF (dX 5) (gF (dX 6) lZ)))))) (de (Fz K) (de (Fx K) (de (Cj K) (de (eG (eV gt [] E0 (dM (dN 3) dW)) (dX 7)) (de (wA K) (iY (qK (dM (gm (gh K) (dM (dN 7) dW)) dW)) (dX 8) (rP K))))))))
def K1(K:aA):TS:=(de (eG (fX (dM (fP (dM (dN 0) (dM (dN 1) (dM io (dM io dW))))) dW)) (dX 2)) (de (hX (eI (eA (kW K) (dN 2) (fX dW))) (Ce K)) (fI (tC (.bl true)))))
end S3
namespace SW
open PySem L2
theorem gp.get:∀{ns:List NT}{us:List V}{i:Nat}{n:NT},gp H ns us→ns[i]?=some n→∃u,us[i]?=some u∧kj H n u
 | _,_,0,_,.cons a r,h=>by cases h;exact⟨_,rfl,a⟩
 | _,_,i+1,_,.cons a r,h=>gp.get (i:=i) r h
def Ec(t:T)(x:V)(fo ba:DK)(ks:List NT)(j:Nat):Prop:=∀a n,t.kids[j]?=some a→ks[j]?=some n→km a n (oR t x fo j) (oS t x ba j)
theorem sF(h:∀w a b,t=.lt w a b→j≠1):oR t x fo j=fo:=by
 unfold oR;split
 ·exact absurd rfl (h _ _ _ rfl)
 ·rfl
theorem sH(h:∀w a b,t=.lt w a b→j≠1):oS t x fo j=fo:=by
 unfold oS;split
 ·exact absurd rfl (h _ _ _ rfl)
 ·rfl
structure KD(H₀ H:Hp)(p:Addr)(pt:List V)(tl fd bd il:Addr)(t:T)(x:V)(fo ba:DK)(ks:List NT)(gs:List G4)(us us2:List V)(i:Nat):Prop where
 same:dq H₀ H
 p_:H p=some (.tup pt)
 f_:H fd=some (.dK fo)
 b_:H bd=some (.dK ba)
 i_:H il=some (.lst us2)
 den:gU H t.kids us2
 rest:∃us' gs',H tl=some (.lst us')∧GL H₀ H gs' us'∧us'.length=us.length+i∧uz gs'=uz gs+fB (t.kids.take i)∧((∀g∈gs',g.ok)↔(∀j,j<i→Ec t x fo ba ks j)∧∀g∈gs,g.ok)
end SW
namespace S3
open PySem L2 SW
variable {K:aA}{vs:List V}{H H₀:Hp}{Q:VK}{E:XK}
theorem vI
  (P:KD H₀ H p (hd t++kk) tl fd bd il t x fo ba ks gs us us2 0) (new:H₀ tl=none) (nil:il≠tl) (hn:H₀ np=some (.tup [.str k,x,.ref sp,.ref kl])) (hkl:H₀ kl=some (.lst nus)) (nn:gp H₀ ks nus) (hlen:t.kids.length=ks.length)
  (wf:∀n∈ks,um n) (wl:k="let"→∃i,x=.int i) (hk:kind t=k) (fk:yj fo) (bk:ym ba) (f1:fo.length+t.size≤110000) (f2:ba.length+t.size≤110000) (few:us.length≤400000)
  (hD:∀(H':Hp)(j8 j9 j10:Option V),KD H₀ H' p (hd t++kk) tl fd bd il t x fo ba ks gs us us2 t.kids.length→D.nx [v0,u0,some (.ref tl),some (.ref p),some (.ref np),some (.ref fd),some (.ref bd),some (.ref il),j8,j9,j10] H'):
  (iY (qK (dM (gm (gh K) (dM (dN 7) dW)) dW)) (dX 8) (rP K)) D [v0,u0,some (.ref tl),some (.ref p),some (.ref np),some (.ref fd),some (.ref bd),some (.ref il),j8,j9,j10] H:=by
 have hl2:=P.den.length;have hk3:t.kids.length≤3:=by cases t<;>simp[T.kids]
 refine⟨il,_,rfl,.inl (eK.of P.i_),(us2.length:Int),rfl,by lia,by lia,?_⟩;rw[bc];refine nh (λi σ H'=>(∃j8 j9 j10,σ=[v0,u0,some (.ref tl),some (.ref p),some (.ref np),some (.ref fd),some (.ref bd),some (.ref il),j8,j9,j10])∧KD H₀ H' p (hd t++kk) tl fd bd il t x fo ba ks gs us us2 i) ⟨⟨_,_,_,rfl⟩,P⟩ ?_ ?_
 ·rintro i σ H1 hi ⟨⟨j8,j9,j10,rfl⟩,P1⟩;rw[cm];obtain⟨us',gs',htl,gl,hlu,hsz,hok⟩:=P1.rest;obtain⟨x1,hx1⟩:∃x1,us2[i]?=some x1:=⟨us2[i],by rw[aJ]⟩;obtain⟨a,ha,da⟩:=sV P1.den hx1;obtain⟨n,hnk⟩:∃n,ks[i]?=some n:=⟨ks[i]'(by lia),by rw[aJ]⟩;obtain⟨y1,hy1,na⟩:=nn.get hnk;have hsa:=qH (ac ha);have app:∀(nf nb:Addr)(H2:Hp),dq H1 H2→H2 nf=some (.dK (oR t x fo i))→H2 nb=some (.dK (oS t x ba i))→yj (oR t x fo i)→ym (oS t x ba i)→(oR t x fo i).length+a.size≤110000→(oS t x ba i).length+a.size≤110000→
    (fQ (kB K "list" eh (dN 2) (dM (fP (dM (eA (gP K) (dN 7) (dN 8)) (dM (eA (gP K) (eA (eE K) (dN 4) (tC (.int 3))) (dN 8)) (dM (dN 9) (dM (dN 10) dW))))) dW))) {D with nx:=λσ H'=>(∃j8 j9 j10,σ=[v0,u0,some (.ref tl),some (.ref p),some (.ref np),some (.ref fd),some (.ref bd),some (.ref il),j8,j9,j10])∧KD H₀ H' p (hd t++kk) tl fd bd il t x fo ba ks gs us us2 (i+1),ct:=λσ H'=>(∃j8 j9 j10,σ=[v0,u0,some (.ref tl),some (.ref p),some (.ref np),some (.ref fd),some (.ref bd),some (.ref il),j8,j9,j10])∧KD H₀ H' p (hd t++kk) tl fd bd il t x fo ba ks gs us us2 (i+1),bk:=D.nx}
     [v0,u0,some (.ref tl),some (.ref p),some (.ref np),some (.ref fd),some (.ref bd),some (.ref il),some (.int i),some (.ref nf),some (.ref nb)] H2:=by
   intro nf nb H2 s2 hnf hnb fk' bk' g1 g2;have b2:=P1.same.trans s2;refine⟨.inl ⟨rfl,_,eK.of (s2 _ _ htl)⟩,eK.of (s2 _ _ P1.i_),dU hx1,eC.of (b2 _ _ hn),dU (j:=3) rfl,eK.of (b2 _ _ hkl),dU hy1,fT,eu λq H3 hq s3 g3=>?_⟩;have s23:=s2.trans s3;have ht3:=s23 _ _ htl;refine⟨tl,us',_,rfl,rfl,ht3,by rw[sizeLine_eq];lia,⟨_,_,_,rfl⟩,?_⟩;have m:=fL (o:=.lst (us'++[.ref q])) ht3;have kk':=lH (o:=.lst (us'++[.ref q])) ht3;have A3:KE H₀ H3 (a,n,oR t x fo i,oS t x ba i) (.ref q):=⟨q,nf,nb,x1,y1,rfl,g3,da.mono (dY s23),na,s3 _ _ hnf,s3 _ _ hnb,wf n (ac hnk),fk',bk',g1,g2⟩;refine⟨eD (P1.same.trans s23) new,m _ _ (s23 _ _ P1.p_),kk' _ _ (s23 _ _ P1.f_),kk' _ _ (s23 _ _ P1.b_),by rw[db nil];exact s23 _ _ P1.i_,(P1.den.mono (dY s23)).mono m,us'++[.ref q],(a,n,oR t x fo i,oS t x ba i)::gs',dO,.snoc ((gl.mono (dY s23) (gZ s23)).mono m kk') (A3.mono m kk'),by simp[hlu];lia,?_,?_⟩
   ·rw[mQ,hsz,az,ha];simp only[Option.toList,fV,gM,jA];lia
   ·have h0:(∀g∈(a,n,oR t x fo i,oS t x ba i)::gs',G4.ok g)↔km a n (oR t x fo i) (oS t x ba i)∧∀g∈gs',g.ok:=by
     constructor
     ·exact λh=>⟨h _ (.head _),λg hg=>h g (.tail _ hg)⟩
     ·rintro⟨h1,h2⟩ g hg;rcases aB.mp hg with rfl|hg
      ·exact h1
      ·exact h2 g hg
    rw[h0,hok];constructor
    ·rintro⟨h1,h2,h3⟩;refine⟨λj hj=>?_,h3⟩;rcases Nat.lt_succ_iff_lt_or_eq.mp hj with z|rfl
     ·exact h2 j z
     ·intro a' n' e1 e2;rw[ha]at e1;rw[hnk]at e2;cases e1;cases e2;exact h1
    ·rintro⟨h2,h3⟩;exact⟨h2 i (b5 _) a n ha hnk,λj hj=>h2 j (cb hj),h3⟩
  have plain:(∀w a b,t=.lt w a b→i≠1)→_:=λhno=>app fd bd H1 (λ_ _ z=>z) (by rw[sF hno];exact P1.f_) (by rw[sH hno];exact P1.b_) (by rw[sF hno];exact fk) (by rw[sH hno];exact bk) (by rw[sF hno];lia) (by rw[sH hno];lia);have hp1:=P1.p_;refine ?_;refine⟨eC.of hp1,iG t kk,rfl,_,rfl,?_⟩;refine jP (λhlet=>?_) (λhlet=>?_)
  ·obtain⟨w,b1,b2,rfl⟩:=qG (V.str.inj (of_decide_eq_true hlet));refine⟨rfl,_,rfl,?_⟩;refine jP (λhj1=>?_) (λhj1=>?_)
   ·have hi1:i=1:=by have:=V.int.inj (of_decide_eq_true hj1);lia
    subst hi1;obtain⟨id,rfl⟩:=wl hk.symm;have hn1:=P1.same _ _ hn;refine⟨fd,fo,rfl,.inl P1.f_,eu λnf H2 hnf s2 g2=>?_⟩;refine⟨eC.of (s2 _ _ hn1),dU (j:=1) rfl,eC.of (s2 _ _ hp1),dU (j:=1) rfl,nf,_,rfl,mz.k (k:=.inr w) g2 (by rw[sizeLine_eq];lia),?_⟩;have s3:dq H1 (upd H2 nf (.dK (gA fo (.inr w:fE) (.int id)))):=eD s2 hnf;have g3:(upd H2 nf (.dK (gA fo (.inr w:fE) (.int id)))) nf=some (.dK (gA fo (.inr w:fE) (.int id))):=dO;generalize upd H2 nf (.dK (gA fo (.inr w:fE) (.int id)))=H3 at s3 g3⊢;refine⟨bd,ba,rfl,.inl (s3 _ _ P1.b_),eu λnb H4 hnb s4 g4=>?_⟩;have s34:=s3.trans s4;refine⟨eC.of (s34 _ _ hp1),dU (j:=1) rfl,eC.of (s34 _ _ hn1),dU (j:=1) rfl,nb,_,rfl,mz.k (k:=.inl id) g4 (by rw[sizeLine_eq];lia),?_⟩;have s5:dq H3 (upd H4 nb (.dK (gA ba (.inl id:fE) (.str w)))):=eD s4 hnb;have l1:=hG fo (.inr w:fE) (.int id);have l2:=hG ba (.inl id:fE) (.str w);refine app nf nb _ (s3.trans s5) (s5 _ _ g3) dO (fk.put _ _) (bk.put _ _) ?_ ?_
    ·show(gA fo (.inr w:fE) (.int id)).length+a.size≤110000;lia
    ·show(gA ba (.inl id:fE) (.str w)).length+a.size≤110000;lia
   ·exact plain λ_ _ _ _ z=>hj1 (by rw[z];rfl)
  ·refine fF (plain λw b1 b2 e z=>?_);exact hlet (by rw[e];exact decide_eq_true rfl)
 ·rintro σ H1 ⟨⟨j8,j9,j10,rfl⟩,P1⟩;rw[hl2]at P1;exact hD H1 _ _ _ P1
end S3
namespace S8
open PySem L2 SW S9
theorem nw(h:H p=none):∃H1,dq H H1∧H1 p=some o∧upd H p o=H1:=⟨_,dR h,dO,rfl⟩
theorem uT{n:Nat}{tb:TS}{D:iz}{σ:St}{H:Hp}{k:Nat}(Pv:Nat→St→Hp→Prop)(h0:Pv n σ H)(hs:∀i σ H,i<n→Pv (i+1) σ H→tb (D.lp (Pv i)) (σ.set k (some (.int (i:Int)))) H)(hd:∀σ H,Pv 0 σ H→D.nx σ H):
  ∃W:Nat→Nat→St→Hp→Prop,(∃m,W 0 m σ H)∧∀i m σ H,W i m σ H→
   ((IJ ((n:Int)-1) n).stop i H∧D.nx σ H)∨((IJ ((n:Int)-1) n).go i H∧∃N:St→Hp→Prop,(∀σ' H',N σ' H'→∃m',m'<m∧W (i+1) m' σ' H')∧∀x H',(IJ ((n:Int)-1) n).yld i H x H'→dX k x σ H' λσ2 H2=>tb (D.lp (N)) σ2 H2):=by
 refine⟨λi m σ H=>m=n-i∧i≤n∧Pv (n-i) σ H,⟨n,by simp,aU _,h0⟩,?_⟩;rintro i m σ H ⟨rfl,hi,p⟩;by_cases e:i=n
 ·subst e;rw[bN]at p;exact .inl ⟨aC _,hd σ H p⟩
 ·refine .inr ⟨show i<n by lia,Pv (n-(i+1)),λσ' H' z=>⟨n-(i+1),by lia,rfl,by lia,z⟩,?_⟩;rintro x H' ⟨rfl,rfl⟩;rw[show n-i=n-(i+1)+1 by lia]at p;rw[show(n:Int)-1-(i:Int)=((n-(i+1):Nat):Int) by lia];exact hs (n-(i+1)) σ H' (by lia) p
theorem pC(n:Nat):((n:Int)-1 - -1).toNat=n:=by lia
def kN(q:List Nat):Nat→List NT→List (NT×List Nat)
 | _,[]=>[]
 | i,n::ns=>(n,q++[i])::kN q (i+1) ns
def uR:List (NT×List Nat)→Option (List Nat)
 | []=>none
 | (n,q)::r=>match fst n with
  | some p=>some (q++p)
  | none=>uR r
theorem qx(q:List Nat)(r:List (NT×List Nat)):∀(ks:List NT)(i:Nat),uR (kN q i ks++r)=match jh ks i with|some p=>some (q++p)|none=>uR r
 | [],i=>by rw[jh];rfl
 | n::ns,i=>by
  rw[kN,aN,uR,jh];cases fst n with
  | some p=>simp
  | none=>exact qx q r ns (i+1)
theorem nV(q:List Nat):∀(ks:List NT)(i:Nat),(kN q i ks).length=ks.length
 | [],_=>rfl
 | _::ns,i=>by simp[kN,nV q ns]
theorem qr(q:List Nat):∀(ks:List NT)(i j:Nat)(n:NT),ks[j]?=some n→(kN q i ks)[j]?=some (n,q++[i+j])
 | m::ns,i,0,n,h=>by cases h;rfl
 | m::ns,i,j+1,n,h=>by have:=qr q ns (i+1) j n (by simpa using h);rw[kN,List.getElem?_cons_succ,this,show i+1+j=i+(j+1) by lia]
def tR(S:List (NT×List Nat)):Nat:=(S.map λx=>gf x.1).sum
theorem kT(a b:List (NT×List Nat)):tR (a++b)=tR a+tR b:=by simp[tR]
theorem rR(x:NT×List Nat):tR [x]=gf x.1:=by simp[tR]
theorem wK(a:List (NT×List Nat)):tR a.reverse=tR a:=by simp[tR]
theorem pG(q:List Nat):∀(ks:List NT)(i:Nat),tR (kN q i ks)=fK ks
 | [],_=>rfl
 | n::ns,i=>by have:=pG q ns (i+1);simp only[tR,kN,aY,bI,fK]at this⊢;rw[this]
theorem wg(n:NT):1≤gf n:=by cases n;rw[gf];lia
theorem wL:∀S:List (NT×List Nat),S.length≤tR S
 | []=>aC _
 | x::S=>by have:=wL S;have:=wg x.1;simp only[tR,aY,bI,aE]at *;lia
theorem kK:∀ks:List NT,ks.length≤fK ks
 | []=>aU _
 | n::ks=>by have:=kK ks;have:=wg n;rw[fK,aE];lia
def pV(q:List Nat):List V:=q.map λi:Nat=>V.int (i:Int)
theorem yH(a b:List Nat):pV (a++b)=pV a++pV b:=by simp[pV]
def yi(H₀ H:Hp)(tl:Addr)(B:Nat)(x:NT×List Nat)(v:V):Prop:=∃(q pl:Addr)(u:V),v=.ref q∧H q=some (.tup [u,.ref pl])∧kj H₀ x.1 u∧pl≠tl∧H pl=some (.lst (pV x.2))∧x.2.length+gf x.1≤B
theorem yi.same(s:dq H H')(h:yi H₀ H tl B x v):yi H₀ H' tl B x v:=by obtain⟨q,pl,u,e,h1,h2,h3,h4,h5⟩:=h;exact⟨q,pl,u,e,s _ _ h1,h2,h3,s _ _ h4,h5⟩
theorem yi.lst(ht:H tl=some (.lst us))(h:yi H₀ H tl B x v):yi H₀ (upd H tl o) tl B x v:=by obtain⟨q,pl,u,e,h1,h2,h3,h4,h5⟩:=h;exact⟨q,pl,u,e,fL ht _ _ h1,h2,h3,by rw[db h3];exact h4,h5⟩
variable {K:aA}{vs:List V}{H:Hp}{Q:VK}{E:XK}
def qh:Sp:=λvs H Q _=>∃(n:NT)(u:V),vs=[u]∧kj H n u∧gf n≤1000000∧(∀p l H',fst n=some p→dq H H'→H' l=some (.lst (pV p))→Q (.ref l) H')∧(∀H',fst n=none→dq H H'→Q .non H')
def GE(K:aA):TS:=(fI (dN 3))
def GD(K:aA):TS:=(fW (eI (eA kX (eA (eE K) (dN 2) (tC (.int 0))) (tC (.str "stamp")))) (GE K) fN)
def GC(K:aA):TS:=(fQ (kB K "list" eh (dN 1) (dM (fP (dM (eA (gP K) (eA (eE K) (dN 2) (tC (.int 3))) (dN 4)) (dM (eA mG (dN 3) (fX (dM (dN 4) dW))) dW))) dW)))
def GB(K:aA):TS:=(de (eG (lz K "list" mF (dN 1)) (lY K 2 (gF (dX 2) (gF (dX 3) lZ)))) (de (GD K) (iY (qw (dM (eA jR (gm (gh K) (dM (eA (eE K) (dN 2) (tC (.int 3))) dW)) (tC (.int 1))) (dM (m8 gu (tC (.int 1))) (dM (m8 gu (tC (.int 1))) dW)))) (dX 4) (GC K))))
def K2(K:aA):TS:=(de (eG (fX (dM (fP (dM (dN 0) (dM (fX dW) dW))) dW)) (dX 1)) (de (hX (eI (eA (kW K) (dN 1) (fX dW))) (GB K)) (fI (tC .non))))
def M3(H:Hp)(u:V)(tl:Addr)(n:NT)(m:Nat)(σ:St)(H':Hp):Prop:=∃S us j2 j3 j4,σ=[some u,some (.ref tl),j2,j3,j4]∧dq H H'∧H' tl=some (.lst us)∧Al (yi H H' tl 1000000) S us∧uR S.reverse=fst n∧tR S≤1000000∧m=tR S
def NL(H H7:Hp)(u:V)(tl np pl:Addr)(S:List (NT×List Nat))(q':List Nat)(ks:List NT)(i:Nat)(σ:St)(H':Hp):Prop:=∃us' j4,σ=[some u,some (.ref tl),some (.ref np),some (.ref pl),j4]∧dq H H'∧dq (rY tl H7) H'∧H' tl=some (.lst us')∧Al (yi H H' tl 1000000) (S++((kN q' 0 ks).drop i).reverse) us'
theorem MZ(h:qh vs H Q E):K2 K (gi Q) (start ["_law_tree","_law_todo","_law_node","_law_path","_law_k"] vs) H:=by
 obtain⟨n,u,rfl,hn,hz,k1,k2⟩:=h;refine⟨fT,eu λe0 H1 he0 s1 g1=>?_⟩;refine⟨fT,eu λq0 H2 hq0 s2 g2=>?_⟩;refine⟨fT,λtl htl=>?_⟩;obtain⟨H3,s3,g3,e3⟩:=nw (o:=.lst [.ref q0]) htl;have s13:=s1.trans (s2.trans s3);have ntl:H tl=none:=(s1.trans s2).free htl;have ne0:e0≠tl:=dZ (s2 _ _ g1) htl;show de _ _ _ _ (upd H2 tl (.lst [.ref q0]));rw[e3];refine⟨M3 H u tl n,
  ⟨_,[(n,[])],[.ref q0],none,none,none,rfl,s13,g3,.one ⟨q0,e0,u,rfl,s3 _ _ g2,hn,ne0,(s2.trans s3) _ _ g1,by simpa using hz⟩,by simp[uR];cases fst n<;>rfl,by rw[rR];exact hz,rfl⟩,?_⟩
 clear s1 g1 s2 g2 s3 g3 s13 he0 hq0 htl e3 ne0;rintro m σ H5 ⟨S,us,j2,j3,j4,rfl,s5,t5,al,hf,hS,rfl⟩;refine⟨fT,eu λe0 H6 he0 s6 g6=>?_⟩;have t6:=s6 _ _ t5;have b6:=s5.trans s6;have al6:=al.mono λ_ _=>yi.same s6;refine⟨tl,e0,us,rfl,rfl,eK.of t6,eK.of g6,_,rfl,?_⟩;by_cases hv:us=[]
 ·subst hv;cases al6;exact eM rfl (k2 _ (by rw[←hf];rfl) b6)
 ·refine fi (by simpa using hv) ?_;obtain⟨us,w,rfl⟩:=gD hv;obtain⟨S,⟨n',q'⟩,rfl,alS,a⟩:=al6.snoc;rw[kT,rR]at hS;refine⟨λσ' H'=>∃m',m'<tR (S++[(n',q')])∧M3 H u tl n m' σ' H',λ_ _ h=>h,?_⟩;refine⟨.inl ⟨rfl,_,eK.of t6⟩,tl,_,_,rfl,rfl,t6,jC,?_⟩;rw[iP];have b7:dq H (upd H6 tl (.lst us)):=eD b6 ntl;have t7:(upd H6 tl (.lst us)) tl=some (.lst us):=dO;have al7:=alS.mono λ_ _=>yi.lst (o:=.lst us) t6;have a7:=a.lst (o:=.lst us) t6;generalize upd H6 tl (.lst us)=H7 at b7 t7 al7 a7⊢;obtain⟨q,pl,nv,rfl,hq,na,npl,hpl,hb⟩:=a7;cases na with
  | @mk kd x src path ks np sp pp kl nus h1 h2 h3 h4 h5=>
  refine⟨q,_,rfl,eC.of hq,rfl,_,_,rfl,_,_,rfl,rfl,?_⟩;have hnp:=b7 _ _ h1;rw[cI]at hf;have hf:uR ((NT.mk kd x src path ks,q')::S.reverse)=fst n:=hf;rw[uR,fst]at hf;refine⟨eC.of hnp,dU (j:=0) rfl,rfl,_,rfl,?_⟩;by_cases hk:kd="stamp"
  ·subst hk;rw[if_pos rfl]at hf;have hf:some (q'++[])=fst n:=hf;rw[aZ]at hf;refine fi (by decide+kernel) ?_;exact(k1 q' pl H7 hf.symm b7 hpl)
  ·rw[if_neg hk]at hf;refine eM (nk hk) ?_;have hnl:=h5.length;have hkl:=kK ks;have hb:q'.length+gf (NT.mk kd x src path ks)≤1000000:=hb;rw[gf]at hS hb;refine⟨eC.of hnp,dU (j:=3) rfl,kl,_,rfl,.inl (eK.of (b7 _ _ h4)),_,rfl,_,rfl,(nus.length:Int)-1,-1,rfl,⟨by lia,by lia,by lia,by lia⟩,?_⟩;rw[pC];refine uT (n:=nus.length) (k:=4) (NL H H7 u tl np pl S q' ks) ?_ ?_ ?_
   ·refine⟨us,_,rfl,b7,λb o z=>?_,t7,?_⟩
    ·unfold rY at z;by_cases e:b=tl
     ·rw[if_pos e]at z;cases z
     ·rw[if_neg e]at z;exact z
    ·rw[ci (by rw[nV];lia)];simpa using al7
   ·rintro i σ H8 hi ⟨us',j4,rfl,b8,c8,t8,al8⟩;have pl8:H8 pl=some (.lst (pV q')):=c8 _ _ (nH hpl npl);obtain⟨x1,hx1⟩:∃x1,nus[i]?=some x1:=⟨nus[i],aJ hi⟩;obtain⟨k1',hk1⟩:∃k,ks[i]?=some k:=⟨ks[i]'(by lia),aJ _⟩;obtain⟨x2,hx2,nk2⟩:=h5.get hk1;rw[hx1]at hx2;cases hx2;have hkz:=oh (ac hk1);have hl8:=al8.length;rw[aD,bX,ai,nV]at hl8;have hSl:=wL S;refine⟨.inl ⟨rfl,_,eK.of t8⟩,?_⟩;refine⟨eC.of (b8 _ _ h1),dU (j:=3) rfl,eK.of (b8 _ _ h4),dU hx1,?_⟩;refine⟨fT,eu λo1 H9 ho1 s9 g9=>?_⟩;refine⟨pl,o1,_,_,rfl,rfl,s9 _ _ pl8,g9,by rw[sizeLine_eq];simp[pV];lia,eu λo2 H10 ho2 s10 g10=>?_⟩;refine⟨fT,eu λo3 H11 ho3 s11 g11=>?_⟩;have s8:=s9.trans (s10.trans s11);have t11:=s8 _ _ t8;refine⟨tl,_,_,rfl,rfl,t11,by rw[sizeLine_eq];lia,?_⟩;have no2:o2≠tl:=(dZ (s9 _ _ t8) ho2).symm;refine⟨_,_,rfl,eD (b8.trans s8) ntl,λb o z=>?_,dO,?_⟩
    ·by_cases e:b=tl
     ·unfold rY at z;rw[if_pos e]at z;cases z
     ·rw[db e];exact s8 _ _ (c8 _ _ z)
    ·have e:(kN q' 0 ks).drop i=(k1',q'++[i])::(kN q' 0 ks).drop (i+1):=by have hg:=qr q' ks 0 i k1' hk1;rw[bw]at hg;obtain⟨hj,ej⟩:=aO.mp hg;rw[bZ hj,ej]
     rw[e,ay,←aT];refine((al8.mono λ_ _=>yi.same s8).mono λ_ _=>yi.lst t11).append (.one (yi.lst t11 ⟨o3,o2,x1,rfl,g11,nk2,no2,?_,?_⟩))
     ·rw[yH];exact s11 _ _ g10
     ·simp only[aD,bB];lia
   ·rintro σ H8 ⟨us',j4,rfl,b8,_,t8,al8⟩;refine⟨tR (S++(kN q' 0 ks).reverse),?_,_,us',_,_,_,rfl,b8,t8,by simpa using al8,?_,?_,rfl⟩
    ·rw[kT,kT,rR,wK,pG,gf];lia
    ·rw[cI,cH,qx];rw[←hf]
    ·rw[kT,wK,pG];lia
end S8
namespace S8
open PySem L2 SW S9
theorem nZ:∀(p:List Nat)(i:Nat){n m:NT},iS n (p++[i])=some m→∃k x src path ks,iS n p=some (.mk k x src path ks)∧ks[i]?=some m
 | [],i,.mk k x src path ks,m,h=>by
  refine⟨k,x,src,path,ks,rfl,?_⟩;rw[ak,iS]at h;cases e:ks[i]? with
  | none=>rw[e]at h;cases h
  | some m'=>rw[e]at h;cases m';exact h
 | j::p,i,.mk k x src path ks,m,h=>by
  rw[aN,iS]at h;cases e:ks[j]? with
  | none=>rw[e]at h;cases h
  | some m'=>rw[e]at h;obtain⟨k',x',src',path',ks',h1,h2⟩:=nZ p i h;exact⟨k',x',src',path',ks',by rw[iS,e];exact h1,h2⟩
theorem yV(h:iS n p=some m):∀j,j≤p.length→∃mj,iS n (p.take j)=some mj:=by
 have key:∀(d j:Nat),j+d=p.length→∃mj,iS n (p.take j)=some mj:=by
  intro d;induction d with
  | zero=>intro j hj;rw[bW (by lia)];exact⟨m,h⟩
  | succ d ih=>intro j hj;obtain⟨mj,e⟩:=ih (j+1) (by lia);rw[az,aJ (show j<p.length by lia)]at e;obtain⟨_,_,_,_,_,h1,_⟩:=nZ _ _ e;exact⟨_,h1⟩
 intro j hj;exact key (p.length-j) j (by lia)
theorem nY(h:iS n p=some m)(hj:j<p.length):∃k x src path ks mj,iS n (p.take j)=some (.mk k x src path ks)∧ks[p[j]]?=some mj∧iS n (p.take (j+1))=some mj:=by obtain⟨mj,e⟩:=yV h (j+1) hj;have e0:=e;rw[az,aJ hj]at e;obtain⟨k,x,src,path,ks,h1,h2⟩:=nZ _ _ e;exact⟨k,x,src,path,ks,mj,h1,h2,e0⟩
theorem yE{n:NT}{p:List Nat}{m':NT}{j:Nat}(hj:j<p.length){k x src path ks}{mj:NT}(e1:iS n (p.take j)=some (.mk k x src path ks))(e2:ks[p[j]]?=some mj):ia (.mk k x src path ks) (p.drop j) m'=.mk k x src path (ks.set p[j] (ia mj (p.drop (j+1)) m')):=by rw[bZ hj,ia,e2]
theorem wW:∀{ks:List α}{i:Nat}{y:α},i<ks.length→ks.set i y=ks.take i++[y]++ks.drop (i+1)
 | x::ks,0,y,_=>rfl
 | x::ks,i+1,y,h=>by have:=wW (ks:=ks) (i:=i) (y:=y) (by simpa using h);rw[List.set_cons_succ,this];simp
theorem sX{us:List V}{i:Nat}(h:i≤us.length):ig us none (some (i:Int))=us.take i:=by
 unfold ig;have e1:HT.kH us.length 0 none=0:=rfl;have e2:HT.kH us.length us.length (some (i:Int))=i:=by rw[lA];lia
 rw[e1,e2];simp
theorem lI{us:List V}{i:Nat}(h:i+1≤us.length):ig us (some ((i:Int)+1)) none=us.drop (i+1):=by
 unfold ig;have e2:HT.kH us.length 0 (some ((i:Int)+1))=i+1:=by rw[show(i:Int)+1=((i+1:Nat):Int) by lia,lA];lia
 have e3:HT.kH us.length us.length none=us.length:=rfl;rw[e2,e3,bW (by rw[ai];lia)]
theorem kj.opn(h:kj H (.mk k x src path ks) u):∃(p sp pp kl:Addr)(us:List V),u=.ref p∧H p=some (.tup [.str k,x,.ref sp,.ref kl])∧H sp=some (.tup [.str src,.ref pp])∧H pp=some (.tup (path.map V.int))∧H kl=some (.lst us)∧gp H ks us:=by cases h with|mk h1 h2 h3 h4 h5=>exact⟨_,_,_,_,_,rfl,h1,h2,h3,h4,h5⟩
variable {K:aA}{vs:List V}{H:Hp}{Q:VK}{E:XK}
def tY:Sp:=λvs H Q _=>∃(n m m':NT)(p:List Nat)(u v:V)(l:Addr),vs=[u,.ref l,v]∧kj H n u∧kj H m' v∧H l=some (.lst (pV p))∧iS n p=some m∧gf n≤1000000∧p.length≤1000000∧∀(w:V)(H':Hp),dq H H'→kj H' (ia n p m') w→Q w H'
def FP(K:aA):TS:=(de (fQ (kB K "list" eh (dN 3) (dM (dN 4) dW))) (eG (eA (gP K) (eA (eE K) (dN 4) (tC (.int 3))) (dN 5)) (dX 4)))
def FO(K:aA):TS:=(de (eG (eA (gP K) (dN 3) (dN 6)) (dX 4)) (de (eG (eA mG (eA mG (nA (ja K) (eA (eE K) (dN 4) (tC (.int 3))) gI (gH (eA (gP K) (dN 1) (dN 6)))) (fX (dM (dN 2) dW))) (nA (ja K) (eA (eE K) (dN 4) (tC (.int 3))) (gH (eA oI (eA (gP K) (dN 1) (dN 6)) (tC (.int 1)))) gI)) (dX 7)) (eG (fP (dM (eA (eE K) (dN 4) (tC (.int 0))) (dM (eA (eE K) (dN 4) (tC (.int 1))) (dM (eA (eE K) (dN 4) (tC (.int 2))) (dM (dN 7) dW))))) (dX 2))))
def Kt(K:aA):TS:=(de (eG (fX dW) (dX 3)) (de (eG (dN 0) (dX 4)) (de (iY (i7 K (dN 1)) (dX 5) (FP K)) (de (iY (qw (dM (eA jR (gm (gh K) (dM (dN 1) dW)) (tC (.int 1))) (dM (m8 gu (tC (.int 1))) (dM (m8 gu (tC (.int 1))) dW)))) (dX 6) (FO K)) (fI (dN 2))))))
theorem uO:∀{p:List Nat}{n m:NT},iS n p=some m→gf m≤gf n
 | [],n,m,e=>by cases n;cases e;exact aC _
 | i::p,.mk k x src path ks,m,e=>by
  rw[iS]at e;cases e2:ks[i]? with
  | none=>rw[e2]at e;cases e
  | some n=>rw[e2]at e;have:=uO e;have:=oh (ac e2);rw[gf];lia
theorem vR(h:j<p.length):(pV p)[j]?=some (.int (p[j]:Int)):=by unfold pV;rw[ae,aJ h];rfl
def ID(H:Hp)(n:NT)(p:List Nat)(j:Nat)(v:V):Prop:=∃mj,iS n (p.take j)=some mj∧kj H mj v
def NJ(H:Hp)(u v:V)(l ab:Addr)(n:NT)(p:List Nat)(i:Nat)(σ:St)(H':Hp):Prop:=∃(aus:List V)(w:V)(j5:Option V),σ=[some u,some (.ref l),some v,some (.ref ab),some w,j5,none,none]∧dq H H'∧H' ab=some (.lst aus)∧aus.length=i∧(∀j y,aus[j]?=some y→ID H n p j y)∧ID H n p i w
def NI(H2:Hp)(u:V)(l ab:Addr)(j5:Option V)(n:NT)(p:List Nat)(m':NT)(i:Nat)(σ:St)(H':Hp):Prop:=∃(v':V)(j4 j6 j7:Option V)(mi:NT),σ=[some u,some (.ref l),some v',some (.ref ab),j4,j5,j6,j7]∧dq H2 H'∧iS n (p.take i)=some mi∧kj H' (ia mi (p.drop i) m') v'
theorem MQ(h:tY vs H Q E):Kt K (gi Q) (start ["_law_tree","_law_path","_law_made","_law_above","_law_node","_law_k","_law_j","_law_kids"] vs) H:=by
 obtain⟨n,m,m',p,u,v,l,rfl,hn,hm,hl,hg,hz,hpl,k⟩:=h;refine⟨fT,λab hab=>?_⟩;obtain⟨H1,s1,g1,e1⟩:=nw (o:=.lst []) hab;show de _ _ _ _ (upd H ab (.lst []));rw[e1];refine⟨l,rfl,⟨_,eK.of (s1 _ _ hl)⟩,?_⟩;refine gw (K:=K) (a:=l) (xs:=pV p) (NJ H u v l ab n p)
  ⟨[],u,none,rfl,s1,g1,rfl,λj y h=>by simp at h,n,by cases n;rfl,hn⟩ (λi σ H' _ hP=>?_) ?_ ?_
 ·obtain⟨_,_,_,_,s,_⟩:=hP;exact eK.of (s _ _ hl)
 ·rintro i y σ H2 hi ⟨aus,w,j5,rfl,s2,a2,hal,ha,hw⟩;have hil:i<p.length:=by have:=(aO.mp hi).1;simpa[pV]using this
  rw[vR hil]at hi;cases hi;obtain⟨kd,x,src,path,ks,mj,g1,g2,g3⟩:=nY hg hil;obtain⟨mi,e,nw⟩:=hw;rw[g1]at e;cases e;obtain⟨np,sp,pp,kl,nus,rfl,h1,h2,h3,h4,h5⟩:=kj.opn nw;obtain⟨x1,hx1,nk⟩:=h5.get g2;refine⟨.inl ⟨rfl,_,eK.of a2⟩,ab,_,_,rfl,rfl,a2,by rw[sizeLine_eq];lia,?_⟩;have nab:∀{b:Addr}{o:HO},H b=some o→(upd H2 ab (.lst (aus++[.ref np]))) b=some o:=λz=>eD s2 hab _ _ z;refine⟨eC.of (nab h1),dU (j:=3) rfl,eK.of (nab h4),dU hx1,?_⟩;refine⟨aus++[.ref np],x1,_,rfl,eD s2 hab,dO,by simp[hal],λj y hj=>?_,mj,g3,nk⟩;rcases bM j aus.length with hlt|hge
  ·rw[ax hlt]at hj;exact ha j y hj
  ·rw[bL hge]at hj;have:j=i:=by have:=(aO.mp hj).1;simp at this;lia
   subst this;rw[hal,bN]at hj;cases hj;exact⟨_,g1,nw⟩
 ·rintro σ H2 ⟨aus,w,j5,rfl,s2,a2,hal,ha,hw⟩;have hpv:(pV p).length=p.length:=by simp[pV]
  rw[hpv]at hal;refine⟨l,_,rfl,.inl (eK.of (s2 _ _ hl)),_,rfl,_,rfl,((pV p).length:Int)-1,-1,rfl,⟨by lia,by lia,by lia,by lia⟩,?_⟩;rw[pC,hpv];refine uT (n:=p.length) (k:=6) (NI H2 u l ab j5 n p m') ?_ ?_ ?_
  ·refine⟨v,_,_,_,m,rfl,dq.refl _,by rw[bJ];exact hg,?_⟩;rw[List.drop_length];cases m;exact hm.same s2
  ·rintro i σ H3 hi ⟨v',j4,j6,j7,mi',rfl,s3,g3,nv⟩;obtain⟨kd,x,src,path,ks,mj,g1,g2,g4⟩:=nY hg hi;rw[g3]at g4;cases g4;obtain⟨y,hy⟩:∃y,aus[i]?=some y:=⟨aus[i]'(by lia),aJ _⟩;obtain⟨mi,e,nwi⟩:=ha i y hy;rw[g1]at e;cases e;obtain⟨np,sp,pp,kl,nus,rfl,h1,h2,h3,h4,h5⟩:=kj.opn (nwi.same (s2.trans s3));have hnl:=h5.length;have hkl:=kK ks;have hzz:=uO g1;rw[gf]at hzz;have hik:p[i]<ks.length:=(aO.mp g2).1;refine⟨eK.of (s3 _ _ a2),dU hy,?_⟩;have hpx:=dU (vR hi);refine⟨eC.of h1,dU (j:=3) rfl,eK.of ((s2.trans s3) _ _ hl),hpx,_,rfl,kl,_,rfl,eK.of h4,λo1 ho1=>?_⟩;rw[sX (by lia)];obtain⟨H4,s4,c4,e4⟩:=nw (o:=.lst (nus.take p[i])) ho1;rw[e4];refine⟨fT,eu λo2 H5 ho2 s5 c5=>?_⟩;refine⟨o1,o2,_,_,rfl,rfl,s5 _ _ c4,c5,by rw[sizeLine_eq,aj];simp;lia,eu λo3 H6 ho3 s6 c6=>?_⟩;have s46:=s4.trans (s5.trans s6);refine⟨eC.of (s46 _ _ h1),dU (j:=3) rfl,eK.of (((s2.trans s3).trans s46) _ _ hl),hpx,_,rfl,kl,_,rfl,eK.of (s46 _ _ h4),λo4 ho4=>?_⟩;rw[lI (by lia)];obtain⟨H7,s7,c7,e7⟩:=nw (o:=.lst (nus.drop (p[i]+1))) ho4;rw[e7];refine⟨o3,o4,_,_,rfl,rfl,s7 _ _ c6,c7,by rw[sizeLine_eq];simp only[aD,aj,ai,bB];lia,eu λo5 H8 ho5 s8 c8=>?_⟩;have s38:=s46.trans (s7.trans s8);have hp8:=s38 _ _ h1;refine⟨eC.of hp8,dU (j:=0) rfl,eC.of hp8,dU (j:=1) rfl,eC.of hp8,dU (j:=2) rfl,fT,λo6 ho6=>?_⟩;obtain⟨H9,s9,c9,e9⟩:=nw (o:=.tup [.str kd,x,.ref sp,.ref o5]) ho6;have s39:=s38.trans s9;refine⟨.ref o6,_,_,_,_,rfl,s3.trans (s38.trans (dR ho6)),g1,?_⟩;rw[yE hi g1 g2,e9];refine .mk c9 (s39 _ _ h2) (s39 _ _ h3) (s9 _ _ c8) ?_;rw[wW hik];exact(((h5.same s39).take p[i]).append (.cons (nv.same s39) .nil)).append ((h5.same s39).drop (p[i]+1))
  ·rintro σ H3 ⟨v',j4,j6,j7,mi,rfl,s3,g3,nv⟩;have:mi=n:=by cases n;cases g3;rfl
   subst this;exact(k v' H3 (s2.trans s3) nv)
end S8
namespace S8
open PySem L2 SW S9
theorem uP:∀{p:List Nat}{n m:NT},iS n p=some m→p.length+gf m≤gf n
 | [],n,m,e=>by cases n;cases e;simp
 | i::p,.mk k x src path ks,m,e=>by
  rw[iS]at e;cases e2:ks[i]? with
  | none=>rw[e2]at e;cases e
  | some n=>rw[e2]at e;have:=uP e;have:=oh (ac e2);rw[gf,aE];lia
def kz(ps:List Str)(us:List V):List (fE×V):=(ps.zip us).map λy=>(Sum.inr y.1,y.2)
theorem pj{kvs:List (fE×V)}{k:fE}{v:V}(h:∀y∈kvs,y.1≠k):gA kvs k v=kvs++[(k,v)]:=by unfold gA;rw[if_neg];simp only[ca,decide_eq_true_eq,not_exists,not_and];exact h
theorem HN{ps:List Str}{us:List V}{i:Nat}{w:Str}{x:V}(hn:ps.Nodup)(h1:ps[i]?=some w)(h2:us[i]?=some x):gA (kz (ps.take i) (us.take i)) (.inr w) x=kz (ps.take (i+1)) (us.take (i+1)):=by
 have e:kz (ps.take (i+1)) (us.take (i+1))=kz (ps.take i) (us.take i)++[(.inr w,x)]:=by unfold kz;have l1:=(aO.mp h1).1;have l2:=(aO.mp h2).1;rw[az,az,h1,h2,Option.toList_some,Option.toList_some,List.zip_append (by simp;lia)];simp
 rw[e];refine pj λy hy=>?_;obtain⟨⟨a,b⟩,hab,rfl⟩:=bj.mp hy;have ha:=cB hab|>.1;intro z;have z:=Sum.inr.inj z;have z:a=w:=z;subst z;obtain⟨j,hj,ej⟩:=List.mem_take_iff_getElem.mp ha;obtain⟨hi,ei⟩:=aO.mp h1;exact List.pairwise_iff_getElem.mp hn j i (by lia) hi (by lia) (ej.trans ei.symm)
theorem He{H:Hp}:tE H (kz [] []) Bs:=λw=>.inl ⟨rfl,rfl⟩
theorem Ll{H:Hp}{g:NT}{x:V}(h:kj H g x):tE H (kz ["sab"] [x]) (HZ g):=λw=>by
 by_cases e:w="sab"
 ·subst e;exact .inr ⟨g,x,if_pos rfl,fu rfl,h⟩
 ·exact .inl ⟨if_neg e,by unfold kz;simp only[List.zip_cons_cons,List.zip_nil_right,aY,bV];rw[fz (λz=>e (Sum.inr.inj z).symm)];rfl⟩
theorem Lj{H:Hp}{g h:NT}{x y:V}(a:kj H g x)(b:kj H h y):tE H (kz ["sab","tab"] [x,y]) (Du g h):=λw=>by
 by_cases e:w="sab"
 ·subst e;exact .inr ⟨g,x,if_pos rfl,fu rfl,a⟩
 ·have q:fS (kz ["sab","tab"] [x,y]) (.inr w:fE)=fS (kz ["tab"] [y]) (.inr w:fE):=fz (λz=>e (Sum.inr.inj z).symm);rw[q];by_cases e2:w="tab"
  ·subst e2;exact .inr ⟨h,y,by unfold Du;rw[if_neg e,if_pos rfl],fu rfl,b⟩
  ·exact .inl ⟨by unfold Du;rw[if_neg e,if_neg e2],by unfold kz;simp only[List.zip_cons_cons,List.zip_nil_right,aY,bV];rw[fz (λz=>e2 (Sum.inr.inj z).symm)];rfl⟩
def D5(v1 v2 v3:V):List (Str×V):=[("star",v1),("sta",v2),("st",v3)]
def vP(w:Str)(L:List (Str×V)):List V:=(L.filter λx=>decide (x.1=w)).map Prod.snd
theorem D6{H:Hp}{v1 v2 v3:V}{b1 b2 b3:T}{w:Str}{ks:List NT}{giv:Gi}{body:T}{us:List V}(BT:rH H v1 v2 v3 b1 b2 b3)(B:yk b1 b2 b3 w ks giv body)(K:xP b1 b2 b3)(hu:gp H ks us):
  ∃(sv:V)(ps:List Str),vP w (D5 v1 v2 v3)=[sv]∧jj H w ps (gT body) sv∧ps.length=us.length∧ps.Nodup∧body.size≤900∧tE H (kz ps us) giv:=by
 have hz:=K.z1;have hz2:=K.z2.1;have hz3:=K.z3.1;cases B with
 | star=>cases hu;exact⟨v1,[],by simp[vP,D5,Je.symm,Jd.symm],BT.a,rfl,.nil,by lia,He⟩
 | sta=>cases hu with|cons a r=>cases r;exact⟨v2,["sab"],by simp[vP,D5,Je,Jc.symm],BT.b,rfl,by simp,by lia,Ll a⟩
 | st=>cases hu with|cons a r=>cases r with|cons b r=>cases r;exact⟨v3,["sab","tab"],by simp[vP,D5,Jd,Jc],BT.c,rfl,by simp[Mf],by lia,Lj a b⟩
variable {K:aA}{vs:List V}{H:Hp}{Q:VK}{E:XK}
def mE:Sp:=λvs H Q _=>∃(b:Addr)(v1 v2 v3 u:V)(t b1 b2 b3:T)(F:Nat),vs=[.ref b,u,.int (F:Int)]∧H b=some (.lst [v1,v2,v3])∧rH H v1 v2 v3 b1 b2 b3∧gG H t u∧xP b1 b2 b3∧WT SF t∧t.size≤40∧F≤9∧
 ∀(r:Addr)(w:V)(n:NT)(c:Int)(k:Nat)(H':Hp),dq H H'→Ly b1 b2 b3 t k n c→kj H' n w→H' r=some (.tup [w,.int (k:Int)])→k≤F+1→(k≤F→fst n=none)→Q (.ref r) H'
def Bn(H:Hp)(n:NT)(v:V):Prop:=(v=.non∧fst n=none)∨∃l p,v=.ref l∧fst n=some p∧H l=some (.lst (pV p))
def Fd(K:aA):TS:=(eG (eA (gP K) (eA (eE K) (dN 7) (tC (.int 3))) (dN 8)) (dX 7))
def Fc(K:aA):TS:=(lB (dN 10) (eA (gP K) (eA (eE K) (dN 9) (tC (.int 1))) (dN 8)) (eA (gP K) (eA (eE K) (dN 7) (tC (.int 3))) (dN 8)))
def xg(K:aA):TS:=(de (eG (eA oI (dN 5) (tC (.int 1))) (dX 5)) (eG (eV qh [] E0 (dM (dN 3) dW)) (dX 6)))
def xh(K:aA):TS:=(de (eG (eV tY [] E0 (dM (dN 3) (dM (dN 6) (dM (dN 11) dW)))) (dX 3)) (xg K))
def xi(K:aA):TS:=(de (eG (eV lO [] E0 (dM (eA (eE K) (dN 9) (tC (.int 2))) (dM (eA (eE K) (dN 9) (tC (.int 0))) (dM (dN 10) (dM (dN 4) dW))))) (lY K 2 (gF (dX 11) (gF (dX 4) lZ)))) (xh K))
def xj(K:aA):TS:=(de (iY (qK (dM (gm (gh K) (dM (eA (eE K) (dN 7) (tC (.int 3))) dW)) dW)) (dX 8) (Fc K)) (xi K))
def xk(K:aA):TS:=(de (eG io (dX 10)) (xj K))
def xl(K:aA):TS:=(de (eG (eA (gP K) (DA 1 (i7 K (dN 0)) (dX 0) (eI (eA kX (eA (eE K) (dN 0) (tC (.int 0))) (eA (eE K) (dN 1) (tC (.int 1))))) (dN 0) [7]) (tC (.int 0))) (dX 9)) (xk K))
def xm(K:aA):TS:=(de (iY (i7 K (dN 6)) (dX 8) (Fd K)) (xl K))
def uw(K:aA):TS:=(de (eG (dN 3) (dX 7)) (xm K))
def CY(K:aA):TS:=(de (hX (kq (eI (eA AW (dN 6) (tC .non))) (eI (eA DN (dN 5) (dN 2)))) (uw K)) (fI (fP (dM (dN 3) (dM (dN 5) dW)))))
def CZ(K:aA):TS:=(de (eG (eV qh [] E0 (dM (dN 3) dW)) (dX 6)) (CY K))
def Ca(K:aA):TS:=(de (eG (tC (.int 0)) (dX 5)) (CZ K))
def Ky(K:aA):TS:=(de (eG (eV lO [] E0 (dM (dN 1) (dM (tC (.str "")) (dM io (dM (tC (.int 0)) dW))))) (lY K 2 (gF (dX 3) (gF (dX 4) lZ)))) (Ca K))
def Lt(I:Nat→St→Hp→Prop)(m:Nat):St→Hp→Prop:=λσ H=>∃m',m'<m∧I m' σ H
def Mx(H₀:Hp)(b:Addr)(u:V)(F:Nat)(b1 b2 b3 t:T)(m:Nat)(σ:St)(H':Hp):Prop:=∃(k:Nat)(n:NT)(c:Int)(w pv:V)(j7 j8 j9 j10 j11:Option V),σ=[some (.ref b),some u,some (.int (F:Int)),some w,some (.int c),some (.int (k:Int)),some pv,j7,j8,j9,j10,j11]∧dq H₀ H'∧Ly b1 b2 b3 t k n c∧kj H' n w∧Bn H' n pv∧k≤F+1∧m=F+1-k
theorem vG{H₀ H1:Hp}{b l:Addr}{v1 v2 v3 u w:V}{t b1 b2 b3:T}{F k:Nat}{n:NT}{c:Int}{p:List Nat}{D:iz}{j7 j8 j9 j10 j11:Option V}(hb:H₀ b=some (.lst [v1,v2,v3]))(B:rH H₀ v1 v2 v3 b1 b2 b3)(bok:xP b1 b2 b3)(wt:WT SF t)(s1:dq H₀ H1)(ly:Ly b1 b2 b3 t k n c)(na:kj H1 n w)(hf:fst n=some p)(hl:H1 l=some (.lst (pV p)))(hnz:gf n≤1000000)(bnd:∀n' c',Ly b1 b2 b3 t (k+1) n' c'→gf n'≤1000000)
  (hD:∀(n':NT)(c':Int)(w2 pv:V)(j7 j8 j9 j10 j11:Option V)(H':Hp),dq H₀ H'→Ly b1 b2 b3 t (k+1) n' c'→kj H' n' w2→Bn H' n' pv→D.nx [some (.ref b),some u,some (.int (F:Int)),some w2,some (.int c'),some (.int ((k+1:Nat):Int)),some pv,j7,j8,j9,j10,j11] H'):
  uw K D [some (.ref b),some u,some (.int (F:Int)),some w,some (.int c),some (.int (k:Int)),some (.ref l),j7,j8,j9,j10,j11] H1:=by
 obtain⟨w0,src,path,ks,giv,body,hg,Bd⟩:=Jj bok wt ly hf;have hpl:=uP hg;refine⟨l,rfl,⟨_,eK.of hl⟩,?_⟩;refine gw (K:=K) (a:=l) (xs:=pV p) (λi σ H'=>∃(y:V)(j8:Option V),σ=[some (.ref b),some u,some (.int (F:Int)),some w,some (.int c),some (.int (k:Int)),some (.ref l),some y,j8,j9,j10,j11]∧H'=H1∧ID H1 n p i y)
  ⟨w,j8,rfl,rfl,n,by cases n;rfl,na⟩ (λi σ H' _ hP=>?_) ?_ ?_
 ·obtain⟨_,_,_,rfl,_⟩:=hP;exact eK.of hl
 ·rintro i y σ H' hi ⟨y',j8,rfl,rfl,hw⟩;have hil:i<p.length:=by have:=(aO.mp hi).1;simpa[pV]using this
  rw[vR hil]at hi;cases hi;obtain⟨kd,x,src',path',ks',mj,g1,g2,g3⟩:=nY hg hil;obtain⟨mi,e,nwi⟩:=hw;rw[g1]at e;cases e;obtain⟨np,sp,pp,kl,nus,rfl,h1,h2,h3,h4,h5⟩:=kj.opn nwi;obtain⟨x1,hx1,nk⟩:=h5.get g2;exact⟨eC.of h1,dU (j:=3) rfl,eK.of h4,dU hx1,x1,_,rfl,rfl,mj,g3,nk⟩
 ·rintro σ H' ⟨y',j8,rfl,rfl,mj,e,nm⟩;have hpv:(pV p).length=p.length:=by simp[pV]
  rw[hpv,bJ,hg]at e;cases e;obtain⟨np,sp,pp,kl,nus,rfl,h1,h2,h3,h4,h5⟩:=kj.opn nm;have hb1:=s1 _ _ hb;have B1:rH H' v1 v2 v3 b1 b2 b3:=⟨B.a.mono s1,B.b.mono s1,B.c.mono s1⟩;obtain⟨sv,ps,hpick,sat,hps,hnd,hbz,hgv⟩:=D6 B1 Bd bok h5;have hnl:=h5.length;have hkl:=kK ks;rw[gf]at hpl;refine⟨b,rfl,⟨_,eK.of hb1⟩,?_⟩;have wds:∀(i:Nat)(x:V),[v1,v2,v3][i]?=some x→∃wi q,(D5 v1 v2 v3)[i]?=some (wi,x)∧x=.ref q∧∃xs,H' q=some (.tup (.str wi::xs)):=λi x hx=>by
   obtain⟨p1,_,_,e1,a1,_⟩:=B1.a;obtain⟨p2,_,_,e2,a2,_⟩:=B1.b;obtain⟨p3,_,_,e3,a3,_⟩:=B1.c
   match i,hx with
   | 0,hx=>cases hx;exact⟨_,p1,rfl,e1,_,a1⟩
   | 1,hx=>cases hx;exact⟨_,p2,rfl,e2,_,a2⟩
   | 2,hx=>cases hx;exact⟨_,p3,rfl,e3,_,a3⟩
   | i+3,hx=>simp at hx
  refine⟨λi m vs Hx=>m=3-i∧i≤3∧Hx=H'∧vs=vP w0 ((D5 v1 v2 v3).take i)∧vs.length≤i,⟨3,rfl,aU _,rfl,rfl,aU _⟩,?_⟩;rintro i m vs Hx ⟨rfl,hi,rfl,hvs,hvl⟩;by_cases hi3:i=3
  ·subst hi3;refine .inl ⟨⟨_,eK.of hb1,by simp⟩,by rw[sizeLine_eq];lia,λlo hlo=>?_⟩;have:(D5 v1 v2 v3).take 3=D5 v1 v2 v3:=rfl;rw[this,hpick]at hvs;subst hvs;obtain⟨H2,s2,g2,e2⟩:=nw (o:=.lst [sv]) hlo;rw[e2];refine⟨eK.of g2,dU (j:=0) rfl,?_⟩;obtain⟨q,pl,x,rfl,hq,hpls,dgx⟩:=sat;refine λgd hgd=>?_;obtain⟨H3,s3,g3,e3⟩:=nw (o:=.dK []) hgd;show de _ _ _ _ (upd H2 gd (.dK []));rw[e3];have s23:=s2.trans s3;refine⟨eC.of (s23 _ _ h1),dU (j:=3) rfl,kl,_,rfl,.inl (eK.of (s23 _ _ h4)),(nus.length:Int),rfl,by lia,by lia,?_⟩;rw[bc];have ngd:Hx gd=none:=s2.free hgd;refine nh (lo:=0) (n:=nus.length) (λi σ H''=>∃j8,σ=[some (.ref b),some u,some (.int (F:Int)),some w,some (.int c),some (.int (k:Int)),some (.ref l),some (.ref np),j8,some (.ref q),some (.ref gd),j11]∧dq Hx H''∧H'' gd=some (.dK (kz (ps.take i) (nus.take i)))) ⟨_,rfl,s23,g3⟩ ?_ ?_
   ·rintro i σ H4 hi ⟨j8,rfl,s4,g4⟩;rw[cm];obtain⟨x1,hx1⟩:∃x1,nus[i]?=some x1:=⟨nus[i],aJ hi⟩;obtain⟨w1,hw1⟩:∃w1,ps[i]?=some w1:=⟨ps[i]'(by lia),aJ _⟩;refine⟨eC.of (s4 _ _ h1),dU (j:=3) rfl,eK.of (s4 _ _ h4),dU hx1,?_⟩;refine⟨eC.of (s4 _ _ hq),dU (j:=1) rfl,eK.of (s4 _ _ hpls),dU (by rw[ae,hw1];rfl),gd,_,rfl,mz.k (k:=.inr w1) g4 ?_,?_⟩
    ·have:(kz (ps.take i) (nus.take i)).length≤nus.length:=by unfold kz;rw[aa,List.length_zip,aj,aj];lia
     rw[sizeLine_eq];lia
    ·refine⟨_,rfl,eD s4 ngd,?_⟩;rw[dO,HN hnd hw1 hx1]
   ·rintro σ H4 ⟨j8,rfl,s4,g4⟩;rw[←hps,bJ,hps,bJ]at g4;refine⟨eC.of (s4 _ _ hq),dU (j:=2) rfl,eC.of (s4 _ _ hq),dU (j:=0) rfl,body,x,w0,gd,_,giv,c,rfl,(gx dgx).mono (dY s4),hbz,g4,hgv.same s4,λr bv H5 s5 nb hr=>?_⟩;refine⟨r,_,rfl,eC.of hr,rfl,_,_,rfl,_,_,rfl,rfl,?_⟩;have s15:=s4.trans s5;refine⟨n,_,_,p,w,bv,l,rfl,na.same s15,nb,s15 _ _ hl,hg,hnz,by lia,λw2 H6 s6 nw2=>?_⟩;have ly2:=ly.succ hf hg Bd;refine ?_;have s06:=s1.trans (s15.trans s6);refine⟨_,w2,rfl,nw2,bnd _ _ ly2,λp' l' H7 hf' s7 hl'=>?_,λH7 hf' s7=>?_⟩
    ·exact hD _ _ _ _ _ _ _ _ _ H7 (s06.trans s7) ly2 (nw2.same s7) (.inr ⟨l',p',rfl,hf',hl'⟩)
    ·exact hD _ _ _ _ _ _ _ _ _ H7 (s06.trans s7) ly2 (nw2.same s7) (.inl ⟨rfl,hf'⟩)
  ·obtain⟨x,hx⟩:∃x,[v1,v2,v3][i]?=some x:=⟨[v1,v2,v3][i]'(by simp;lia),aJ _⟩;refine .inr ⟨⟨_,x,eK.of hb1,hx⟩,λy Hy yy=>?_⟩;obtain⟨rfl,yy⟩:=yy;have hy:=yy _ (eK.of hb1);rw[hx]at hy;cases hy;intro os hos
   match os,hos with
   | [o1],_=>
   obtain⟨wi,q,hwi,rfl,xs,hq⟩:=wds i x hx;refine⟨⟨[some (.ref q)],rfl,rfl⟩,?_⟩;refine⟨eC.of hq,dU (j:=0) rfl,eC.of h1,dU (j:=1) rfl,rfl,_,rfl,?_⟩;have tk:=take_succ_filter (λx:Str×V=>decide (x.1=w0)) (D5 v1 v2 v3) i _ hwi;by_cases hw:wi=w0
   ·subst hw;refine fi (by simp) ⟨by rw[sizeLine_eq];lia,3-(i+1),by lia,rfl,by lia,rfl,?_,by simp;lia⟩;rw[hvs];unfold vP;rw[tk];simp
   ·refine eM (decide_eq_false λz=>hw (V.str.inj z)) ⟨3-(i+1),by lia,rfl,by lia,rfl,?_,by lia⟩;rw[hvs];unfold vP;rw[tk];simp[hw]
theorem pY{H₀:Hp}{b:Addr}{v1 v2 v3 u w pv:V}{t b1 b2 b3:T}{F:Nat}{n:NT}{c:Int}(hb:H₀ b=some (.lst [v1,v2,v3]))(B:rH H₀ v1 v2 v3 b1 b2 b3)(bok:xP b1 b2 b3)(wt:WT SF t)(hz:t.size≤40)(hF:F≤9)
  (kk:∀(r:Addr)(w:V)(n:NT)(c:Int)(k:Nat)(H':Hp),dq H₀ H'→Ly b1 b2 b3 t k n c→kj H' n w→H' r=some (.tup [w,.int (k:Int)])→k≤F+1→(k≤F→fst n=none)→Q (.ref r) H')
  (s0:dq H₀ H) (ly:Ly b1 b2 b3 t 0 n c) (na:kj H n w) (mN:Bn H n pv):
  (de (hX (kq (eI (eA AW (dN 6) (tC .non))) (eI (eA DN (dN 5) (dN 2)))) (uw K)) (fI (fP (dM (dN 3) (dM (dN 5) dW))))) (gi Q) [some (.ref b),some u,some (.int (F:Int)),some w,some (.int c),some (.int 0),some pv,none,none,none,none,none] H:=by
 have bnd:∀{k:Nat}{n:NT}{c:Int},Ly b1 b2 b3 t k n c→k≤F+1→gf n≤1000000:=λ{k n c} ly hk=>by have:=(uK bok wt ly).2;have:k*(20*t.size)≤10*(20*t.size):=bY _ (by lia);lia
 refine⟨Mx H₀ b u F b1 b2 b3 t,
  ⟨_,0,n,c,w,pv,none,none,none,none,none,rfl,s0,ly,na,mN,by lia,rfl⟩,?_⟩
 clear ly na mN s0;rintro m σ H1 ⟨k,n,c,w,pv,j7,j8,j9,j10,j11,rfl,s1,ly,na,mN,hk,rfl⟩;refine⟨rfl,_,rfl,?_⟩;rcases mN with⟨rfl,hf⟩|⟨l,p,rfl,hf,hl⟩
 ·refine eM rfl (eM rfl ?_);refine⟨fT,λr hr=>?_⟩;have s2:=dR (o:=.tup [w,.int (k:Int)]) hr;exact kk r w n c k _ (s1.trans s2) ly (na.same s2) dO hk λ_=>hf
 ·refine fi rfl ?_;refine⟨_,rfl,?_⟩;by_cases hkF:k≤F
  ·refine fi (decide_eq_true (by lia)) ?_;refine⟨Lt (Mx H₀ b u F b1 b2 b3 t) (F+1-k),λ_ _ h=>h,?_⟩;exact vG hb B bok wt s1 ly na hf hl (bnd ly hk) (λn' c' l'=>bnd l' (by lia)) λn' c' w2 pv j7 j8 j9 j10 j11 H' s' ly' na' pth'=>⟨F+1-(k+1),by lia,k+1,n',c',w2,pv,_,_,_,_,_,rfl,s',ly',na',pth',by lia,rfl⟩
  ·refine eM (decide_eq_false (by lia)) ?_;refine⟨fT,λr hr=>?_⟩;have s2:=dR (o:=.tup [w,.int (k:Int)]) hr;exact kk r w n c k _ (s1.trans s2) ly (na.same s2) dO hk λz=>absurd z hkF
theorem MV(h:mE vs H Q E):Ky K (gi Q) (start ["_law_book","_law_piece","_law_fuel","_law_tree","_law_count","_law_many","_law_path","_law_node","_law_k","_law_stamp","_law_given","_law_body"] vs) H:=by
 obtain⟨b,v1,v2,v3,u,t,b1,b2,b3,F,rfl,hb,B,du,bok,wt,hz,hF,kk⟩:=h;refine(λd0 hd0=>?_);obtain⟨H1,s1,g1,e1⟩:=nw (o:=.dK []) hd0;rw[e1];refine⟨t,u,"",d0,[],Bs,0,rfl,du.mono (dY s1),by lia,g1,λw=>.inl ⟨rfl,rfl⟩,λr w H2 s2 n2 hr=>?_⟩;have s12:=s1.trans s2;refine⟨r,_,rfl,eC.of hr,rfl,_,_,rfl,_,_,rfl,rfl,?_⟩;have ly0:Ly b1 b2 b3 t 0 _ _:=.zero;have hz0:=(uK bok wt ly0).2;refine⟨_,w,rfl,n2,by lia,λp l H3 hf s3 hl=>?_,λH3 hf s3=>?_⟩
 ·exact pY hb B bok wt hz hF kk (s12.trans s3) ly0 (n2.same s3) (.inr ⟨l,p,rfl,hf,hl⟩)
 ·exact pY hb B bok wt hz hF kk (s12.trans s3) ly0 (n2.same s3) (.inl ⟨rfl,hf⟩)
end S8
namespace SW
open PySem L2
theorem uu(t:T):(∃m,t=.num m)∨(∃w,t=.name w)∨(kind t≠"number"∧kind t≠"name"∧∀x fo ba,sP t x fo ba):=by
 cases t with
 | num m=>exact .inl ⟨m,rfl⟩
 | name w=>exact .inr (.inl ⟨w,rfl⟩)
 | _=>exact .inr (.inr ⟨by simp only[kind];decide+kernel,by simp only[kind];decide+kernel,λ_ _ _=>trivial⟩)
theorem wM:∀gs:List G4,gs.length≤uz gs
 | []=>aC _
 | g::r=>by have:=wM r;have:=g.1.size_pos;rw[mQ,aE];lia
theorem pf(h:x6 x y=true)(h1:x≠y→Q (.bl true) H)(h2:x=y→Q (.bl false) H):qk x y H Q:=by
 refine⟨h,?_⟩;by_cases e:x=y
 ·rw[decide_eq_true e];exact h2 e
 ·rw[decide_eq_false e];exact h1 e
end SW
namespace S3
open PySem L2 SW
variable {K:aA}{vs:List V}{H H₀:Hp}{Q:VK}{E:XK}
def MC(H:Hp)(v u:V)(tl:Addr)(t:T)(n:NT)(m:Nat)(σ:St)(H':Hp):Prop:=∃gs us j3 j4 j5 j6 j7 j8 j9 j10,σ=[some v,some u,some (.ref tl),j3,j4,j5,j6,j7,j8,j9,j10]∧dq H H'∧H' tl=some (.lst us)∧GL H H' gs us∧((∀g∈gs,g.ok)↔km t n [] [])∧uz gs≤100000∧m=uz gs
theorem MY(h:pN vs H Q E):K1 K (gi Q) (start ["_law_found","_law_tree","_law_todo","_law_part","_law_node","_law_forth","_law_back","_law_inner","_law_k","_law_near","_law_far"] vs) H:=by
 obtain⟨t,v,u,n,rfl,hd0,hn0,hwf,hs,k⟩:=h;refine(λfd hfd=>?_);have s1:=dR (o:=.dK []) hfd;have g1:(upd H fd (.dK [])) fd=some (.dK []):=dO;generalize upd H fd (.dK [])=H1 at s1 g1⊢;refine λbd hbd=>?_;have s2:=dR (o:=.dK []) hbd;have g2:(upd H1 bd (.dK [])) bd=some (.dK []):=dO;generalize upd H1 bd (.dK [])=H2 at s2 g2⊢;refine⟨fT,eu λq H3 hq s3 g3=>?_⟩;refine⟨fT,λtl htl=>?_⟩;have s4:=dR (o:=.lst [.ref q]) htl;have g4:(upd H3 tl (.lst [.ref q])) tl=some (.lst [.ref q]):=dO;have new:H tl=none:=(s1.trans (s2.trans s3)).free htl;generalize upd H3 tl (.lst [.ref q])=H4 at s4 g4⊢;have u3:=s3.trans s4;have u2:=s2.trans u3;have u1:=s1.trans u2;have nov:∀(q:fE)(v:V),fS ([]:DK) q=some v→False:=λq v e=>by cases e
 refine⟨MC H v u tl t n,
  ⟨_,[(t,n,[],[])],[.ref q],none,none,none,none,none,none,none,none,rfl,u1,g4,.snoc (us:=[]) .nil ⟨q,fd,bd,v,u,rfl,s4 _ _ g3,hd0.mono (dY u1),hn0,u2 _ _ g1,u3 _ _ g2,hwf,λq v e=>(nov q v e).elim,λq v e=>(nov q v e).elim,by simp;lia,by simp;lia⟩,?_,by simp[uz];lia,rfl⟩,?_⟩
 ·constructor
  ·exact λh=>h _ (.head _)
  ·intro h g hg;obtain rfl:g=(t,n,[],[]):=by simpa using hg
   exact h
 clear s1 g1 s2 g2 s3 g3 s4 g4 u1 u2 u3 hfd hbd hq htl nov;rintro m σ H5 ⟨gs,us,j3,j4,j5,j6,j7,j8,j9,j10,rfl,s5,t5,gl,iff,hsz,rfl⟩;refine⟨fT,λe0 he0=>?_⟩;have s6:=dR (o:=.lst []) he0;have g6:(upd H5 e0 (.lst [])) e0=some (.lst []):=dO;have gl6:=gl.mono (dY s6) (gZ s6);have t6:=s6 _ _ t5;have b6:=s5.trans s6;generalize upd H5 e0 (.lst [])=H6 at g6 gl6 t6 b6⊢;clear s6 gl s5 t5 he0;refine⟨tl,e0,us,rfl,rfl,eK.of t6,eK.of g6,_,rfl,?_⟩;cases gl6 with
 | nil=>refine eM rfl (k true _ b6 ⟨λ_=>iff.mp (λg hg=>by cases hg),λ_=>rfl⟩)
 | @snoc g w gs us gl6 ga=>
  refine fi (by simp) ?_;rw[mQ]at hsz;refine⟨λσ' H'=>∃m',m'<uz (g::gs)∧MC H v u tl t n m' σ' H',λ_ _ h=>h,?_⟩;refine⟨.inl ⟨rfl,_,eK.of t6⟩,tl,_,_,rfl,rfl,t6,jC,?_⟩;rw[iP];have m7:=fL (o:=.lst us) t6;have k7:=lH (o:=.lst us) t6;have b7:dq H (upd H6 tl (.lst us)):=eD b6 new;have t7:(upd H6 tl (.lst us)) tl=some (.lst us):=dO;have gl7:=gl6.mono m7 k7;have ga7:=ga.mono m7 k7;generalize upd H6 tl (.lst us)=H7 at b7 t7 gl7 ga7⊢;have hgl:=gl7.length;have hgs:=wM gs;obtain⟨t',n',fo,ba⟩:=g;obtain⟨q,fd,bd,pv,nv,rfl,hq,den,na,hfd,hbd,wf,fk,bk,f1,f2⟩:=ga7;have den:gG H7 t' pv:=den;have fail:∀H',dq H H'→¬km t' n' fo ba→Q (.bl false) H':=λH' s no=>k false H' s ⟨(λh=>by cases h),λh=>absurd (iff.mpr h _ (.head _)) no⟩;obtain⟨p,kk,rfl,hp,dkk⟩:=den.open;cases na with
  | @mk kd x src path ks np sp pp kl nus h1 h2 h3 h4 h5=>
  cases wf with
  | mk w1 w2 w3 w4=>
  have hn7:=b7 _ _ h1;refine⟨q,_,rfl,eC.of hq,rfl,_,_,rfl,_,_,rfl,_,_,rfl,_,_,rfl,rfl,?_⟩;refine⟨eC.of hp,iG t' kk,eC.of hn7,dU (j:=0) rfl,?_⟩;refine pf rfl (λhne=>⟨_,rfl,mf (fail _ b7 λh=>hne (by rw[(km.inv.mp h).1]))⟩) (λheq=>⟨_,rfl,fF ?_⟩);have hkd:kind t'=kd:=V.str.inj heq;have rest:sP t' x fo ba→(de (eG (eV gt [] E0 (dM (dN 3) dW)) (dX 7)) (de (wA K) (iY (qK (dM (gm (gh K) (dM (dN 7) dW)) dW)) (dX 8) (rP K)))) (((gi Q).thn (fI (tC (.bl true)))).lp (λσ' H'=>∃m',m'<uz ((t',.mk kd x src path ks,fo,ba)::gs)∧MC H v u tl t n m' σ' H'))
    [some v,some u,some (.ref tl),some (.ref p),some (.ref np),some (.ref fd),some (.ref bd),j7,j8,j9,j10] H7:=by
   intro hok;refine⟨t',.ref p,rfl,den,λil us2 H8 s8 n8 h8 d8=>?_⟩;have b8:=b7.trans s8;have hl2:=d8.length;have hnl:=h5.length;refine⟨il,_,rfl,.inl (eK.of h8),eC.of (b8 _ _ h1),dU (j:=3) rfl,kl,nus,rfl,.inl (eK.of (b8 _ _ h4)),?_⟩;refine pf rfl (λhne=>⟨_,rfl,mf (fail _ b8 λh=>hne ?_)⟩) (λheq=>⟨_,rfl,fF ?_⟩)
   ·have:=(km.inv.mp h).2.2.1;rw[hl2,hnl,this]
   ·have hlen:t'.kids.length=ks.length:=by have:=V.int.inj heq;lia
    have nil:il≠tl:=λz=>by subst z;rw[t7]at n8;cases n8
    refine vI (gs:=gs) (us:=us) (us2:=us2) (kk:=kk) ⟨b8,s8 _ _ hp,s8 _ _ hfd,s8 _ _ hbd,h8,d8,us,gs,s8 _ _ t7,gl7.mono (dY s8) (gZ s8),rfl,by simp[fB],?_⟩ new nil h1 h4 h5 hlen w4 w3 hkd fk bk f1 f2 (by lia) λH9 j8 j9 j10 P9=>?_
    ·constructor
     ·exact λh=>⟨λj hj=>absurd hj (cX _),h⟩
     ·exact λh=>h.2
    ·obtain⟨us',gs',a1,a2,a3,a4,a5⟩:=P9.rest;rw[bJ]at a4;have hk:=jB t';have hsz:t'.size+uz gs≤100000:=hsz;have hcons:uz ((t',NT.mk kd x src path ks,fo,ba)::gs)=t'.size+uz gs:=mQ _ _;refine⟨uz gs',by rw[hcons];lia,gs',us',_,_,_,_,_,_,_,_,rfl,P9.same,a1,a2,?_,by lia,rfl⟩;rw[a5,←iff];have key:(∀j,j<t'.kids.length→Ec t' x fo ba ks j)↔G4.ok (t',NT.mk kd x src path ks,fo,ba):=by
      constructor
      ·intro h;refine km.mk hkd hok hlen λj a n e1 e2=>h j ?_ a n e1 e2;exact(aO.mp e1).1
      ·intro h j _ a n e1 e2;exact(km.inv.mp h).2.2.2 j a n e1 e2
     rw[key];constructor
     ·rintro⟨h1,h2⟩ g hg;rcases aB.mp hg with rfl|hg
      ·exact h1
      ·exact h2 g hg
     ·exact λh=>⟨h _ (.head _),λg hg=>h g (.tail _ hg)⟩
  have hnx:qR [V.str kd,x,.ref sp,.ref kl] 1=some x:=dU (j:=1) rfl;rcases uu t' with⟨m,rfl⟩|⟨w,rfl⟩|⟨k1,k2,hall⟩
  ·refine⟨eC.of hp,iG (.num m) kk,rfl,_,rfl,fi (by simp only[kind];decide+kernel) ?_⟩;refine⟨eC.of hp,dU (j:=1) rfl,eC.of hn7,hnx,?_⟩;have hsc:x6 (V.int m) x=true:=by rcases w1 with rfl|⟨_,rfl⟩|⟨_,rfl⟩<;>rfl
   refine pf hsc (λhne=>⟨_,rfl,mf (fail _ b7 λh=>hne (km.inv.mp h).2.1)⟩) (λheq=>⟨_,rfl,fF ?_⟩);exact⟨eC.of hp,iG (.num m) kk,rfl,_,rfl,eM (show decide (V.str "number"=V.str "name")=false from by decide+kernel) (rest heq)⟩
  ·refine⟨eC.of hp,iG (.name w) kk,rfl,_,rfl,eM (show decide (V.str "name"=V.str "number")=false from by decide+kernel) (fF ?_)⟩;refine⟨eC.of hp,iG (.name w) kk,rfl,_,rfl,fi (by simp only[kind];decide+kernel) ?_⟩;have hpw:qR (hd (.name w)++kk) 1=some (.str w):=dU (j:=1) rfl;refine⟨fd,rfl,.inl ⟨_,.inl hfd⟩,eC.of hp,hpw,eC.of hp,hpw,_,iN.k (k:=.inr w) hfd,eC.of hn7,hnx,?_⟩;have hxn:=w2 hkd.symm;have hfv:(∃i,(fS fo (.inr w:fE)).getD (.str w)=.int i)∨(fS fo (.inr w:fE)).getD (.str w)=.str w:=by
    cases e:fS fo (.inr w:fE) with
    | none=>exact .inr rfl
    | some v=>obtain⟨i,rfl⟩:=fk _ _ e;exact .inl ⟨i,rfl⟩
   have hsc:x6 ((fS fo (.inr w:fE)).getD (.str w)) x=true:=by rcases hfv with⟨i,e⟩|e<;>rw[e]<;>rcases w1 with rfl|⟨_,rfl⟩|⟨_,rfl⟩<;>rfl
   refine pf hsc (λhne=>⟨_,rfl,mf (fail _ b7 λh=>hne (km.inv.mp h).2.1.1)⟩) (λheq=>⟨_,rfl,fF ?_⟩);have dgb:iN H7 bd x (fS ba (uM x)):=by
    rcases w1 with rfl|⟨i,rfl⟩|⟨s,rfl⟩
    ·exact absurd rfl hxn
    ·exact iN.k (k:=.inl i) hbd
    ·exact iN.k (k:=.inr s) hbd
   refine⟨bd,rfl,.inl ⟨_,.inl hbd⟩,eC.of hn7,hnx,eC.of hp,hpw,_,dgb,eC.of hp,hpw,?_⟩;have hsc2:x6 ((fS ba (uM x)).getD (.str w)) (.str w)=true:=by
    cases e:fS ba (uM x) with
    | none=>rfl
    | some v=>obtain⟨s,rfl⟩:=bk _ _ e;rfl
   refine pf hsc2 (λhne=>⟨_,rfl,mf (fail _ b7 λh=>hne (km.inv.mp h).2.1.2)⟩) (λheq2=>⟨_,rfl,fF ?_⟩);exact rest ⟨heq,heq2⟩
  ·refine⟨eC.of hp,iG t' kk,rfl,_,rfl,eM (decide_eq_false λz=>k1 (V.str.inj z)) (fF ?_)⟩;exact⟨eC.of hp,iG t' kk,rfl,_,rfl,eM (decide_eq_false λz=>k2 (V.str.inj z)) (rest (hall _ _ _))⟩
end S3
namespace SW
open PySem L2
theorem LZ:("number":Str)≠"let":=by decide+kernel
theorem LY:("number":Str)≠"name":=by decide+kernel
theorem Jg:("name":Str)≠"let":=by decide+kernel
theorem LC:("sum":Str)≠"let":=by decide+kernel
theorem LB:("sum":Str)≠"name":=by decide+kernel
theorem Lp:("less":Str)≠"let":=by decide+kernel
theorem Ln:("less":Str)≠"name":=by decide+kernel
theorem Ls:("choose":Str)≠"let":=by decide+kernel
theorem Lr:("choose":Str)≠"name":=by decide+kernel
theorem Lc:("let":Str)≠"name":=by decide+kernel
theorem FY:("stamp":Str)≠"let":=by decide+kernel
theorem FX:("stamp":Str)≠"name":=by decide+kernel
theorem jW(hg:∀w g,giv w=some g→um g)(hk:∀n∈ks,um n):um (ef c src giv e i ks):=by
 obtain⟨t,p,o⟩:=e;cases t with
 | num n=>exact .mk (.inr (.inl ⟨_,rfl⟩)) (λh=>absurd h LY) (λh=>absurd h LZ) hk
 | name w=>
  unfold ef;dsimp only;cases ho:o w with
  | some x=>exact .mk (.inr (.inl ⟨_,rfl⟩)) (λ_ h=>by cases h) (λh=>absurd h Jg) hk
  | none=>
   dsimp only;cases hw:giv w with
   | some g=>exact hg w g hw
   | none=>exact .mk (.inr (.inr ⟨_,rfl⟩)) (λ_ h=>by cases h) (λh=>absurd h Jg) hk
 | sum a b=>exact .mk (.inl rfl) (λh=>absurd h LB) (λh=>absurd h LC) hk
 | less a b=>exact .mk (.inl rfl) (λh=>absurd h Ln) (λh=>absurd h Lp) hk
 | cho a b d=>exact .mk (.inl rfl) (λh=>absurd h Lr) (λh=>absurd h Ls) hk
 | lt w a b=>exact .mk (.inr (.inl ⟨_,rfl⟩)) (λh=>absurd h Lc) (λ_=>⟨_,rfl⟩) hk
 | st0 w=>exact .mk (.inr (.inr ⟨_,rfl⟩)) (λh=>absurd h FX) (λh=>absurd h FY) hk
 | st1 w a=>exact .mk (.inr (.inr ⟨_,rfl⟩)) (λh=>absurd h FX) (λh=>absurd h FY) hk
 | st2 w a b=>exact .mk (.inr (.inr ⟨_,rfl⟩)) (λh=>absurd h FX) (λh=>absurd h FY) hk
theorem jr(hg:∀w g,giv w=some g→um g):∀(t:T)(p:List Int)(o:Ow)(i:Nat),um (nt c src giv t p o i)
 | .num n,p,o,i=>jW hg (by intro n h;cases h)
 | .name n,p,o,i=>jW hg (by intro n h;cases h)
 | .st0 n,p,o,i=>jW hg (by intro n h;cases h)
 | .sum a b,p,o,i=>jW hg (by
  intro n h;simp only[aB,aF,or_false]at h;rcases h with rfl|rfl
  ·exact jr hg a _ _ _
  ·exact jr hg b _ _ _)
 | .less a b,p,o,i=>jW hg (by
  intro n h;simp only[aB,aF,or_false]at h;rcases h with rfl|rfl
  ·exact jr hg a _ _ _
  ·exact jr hg b _ _ _)
 | .cho a b d,p,o,i=>jW hg (by
  intro n h;simp only[aB,aF,or_false]at h;rcases h with rfl|rfl|rfl
  ·exact jr hg a _ _ _
  ·exact jr hg b _ _ _
  ·exact jr hg d _ _ _)
 | .lt w a b,p,o,i=>jW hg (by
  intro n h;simp only[aB,aF,or_false]at h;rcases h with rfl|rfl
  ·exact jr hg a _ _ _
  ·exact jr hg b _ _ _)
 | .st1 w a,p,o,i=>jW hg (by
  intro n h;simp only[aB,aF,or_false]at h;subst h;exact jr hg a _ _ _)
 | .st2 w a b,p,o,i=>jW hg (by
  intro n h;simp only[aB,aF,or_false]at h;rcases h with rfl|rfl
  ·exact jr hg a _ _ _
  ·exact jr hg b _ _ _)
end SW
namespace SW
open PySem L2
theorem Ht{α β:Type}{P:Nat→α→β→Prop}{a b:α}{c d:β}:(∀(j:Nat) x y,[a,b][j]?=some x→[c,d][j]?=some y→P j x y)↔P 0 a c∧P 1 b d:=by
 constructor
 ·intro h;exact⟨h 0 a c rfl rfl,h 1 b d rfl rfl⟩
 ·rintro⟨h1,h2⟩ j x y hx hy
  match j,hx,hy with
  | 0,hx,hy=>cases hx;cases hy;exact h1
  | 1,hx,hy=>cases hx;cases hy;exact h2
  | j+2,hx,_=>cases hx
theorem Lx{α β:Type}{P:Nat→α→β→Prop}{a b c:α}{d e f:β}:(∀(j:Nat) x y,[a,b,c][j]?=some x→[d,e,f][j]?=some y→P j x y)↔P 0 a d∧P 1 b e∧P 2 c f:=by
 constructor
 ·intro h;exact⟨h 0 a d rfl rfl,h 1 b e rfl rfl,h 2 c f rfl rfl⟩
 ·rintro⟨h1,h2,h3⟩ j x y hx hy
  match j,hx,hy with
  | 0,hx,hy=>cases hx;cases hy;exact h1
  | 1,hx,hy=>cases hx;cases hy;exact h2
  | 2,hx,hy=>cases hx;cases hy;exact h3
  | j+3,hx,_=>cases hx
end SW
namespace S8
open PySem L2 SW S9
structure FB(f:Fo)(b:Ba)(fo ba:DK):Prop where
 f:∀w:Str,fS fo (.inr w:fE)=(f w).map V.int
 b:∀i:Int,fS ba (.inl i:fE)=(b i).map V.str
 n:∀w:Str,fS ba (.inr w:fE)=none
theorem FB.put{f:Fo}{b:Ba}{fo ba:DK}(h:FB f b fo ba)(x:Str)(i:Int):FB (kx f x i) (la b i x) (gA fo (.inr x:fE) (.int i)) (gA ba (.inl i:fE) (.str x)):=by
 refine⟨λw=>?_,λj=>?_,λw=>?_⟩
 ·rw[jY];by_cases e:w=x
  ·subst e;rw[if_pos rfl,xC];rfl
  ·rw[if_neg (λz=>e (Sum.inr.inj z)),ka e];exact h.f w
 ·rw[jY];by_cases e:j=i
  ·subst e;rw[if_pos rfl,xJ];rfl
  ·rw[if_neg (λz=>e (Sum.inl.inj z)),oq e];exact h.b j
 ·rw[jY,if_neg (λz=>by cases z)];exact h.n w
theorem Dv(g:Gs ws f b t n):∀{fo ba:DK},FB f b fo ba→km t n fo ba:=by
 induction g with
 | num=>exact λ_=>.mk rfl rfl rfl λj a n h=>by simp[T.kids]at h
 | bound _ e1 e2=>exact λh=>.mk rfl ⟨by rw[h.f,e1];rfl,by show(fS _ (.inl _:fE)).getD _=_;rw[h.b,e2];rfl⟩ rfl λj a n h=>by simp[T.kids]at h
 | free _ e=>exact λh=>.mk rfl ⟨by rw[h.f,e];rfl,by show(fS _ (.inr _:fE)).getD _=_;rw[h.n];rfl⟩ rfl λj a n h=>by simp[T.kids]at h
 | sum _ _ i1 i2=>exact λh=>.mk rfl aH rfl (Ht.mpr ⟨i1 h,i2 h⟩)
 | less _ _ i1 i2=>exact λh=>.mk rfl aH rfl (Ht.mpr ⟨i1 h,i2 h⟩)
 | cho _ _ _ i1 i2 i3=>exact λh=>.mk rfl aH rfl (Lx.mpr ⟨i1 h,i2 h,i3 h⟩)
 | lt _ _ _ i1 i2=>exact λh=>.mk rfl aH rfl (Ht.mpr ⟨i1 h,i2 (h.put _ _)⟩)
theorem NG:FB f0 J0 [] []:=⟨λ_=>rfl,λ_=>rfl,λ_=>rfl⟩
theorem Jr(g:Gs ws f b t n):t.size=gf n:=by
 induction g with
 | num=>rfl
 | bound=>rfl
 | free=>rfl
 | sum _ _ i1 i2=>simp only[T.size,gf,fK,i1,i2];lia
 | less _ _ i1 i2=>simp only[T.size,gf,fK,i1,i2];lia
 | cho _ _ _ i1 i2 i3=>simp only[T.size,gf,fK,i1,i2,i3];lia
 | lt _ _ _ i1 i2=>simp only[T.size,gf,fK,i1,i2];lia
theorem rN(hm:um m):∀{p:List Nat}{n:NT},um n→um (ia n p m)
 | [],_,_=>hm
 | i::p,.mk k x src path ks,.mk h1 h2 h3 h4=>by
  refine .mk h1 h2 h3 λy hy=>?_;rcases ck hy with z|rfl
  ·exact h4 y z
  ·cases e:ks[i]? with
   | none=>exact hm
   | some n=>exact rN hm (h4 n (ac e))
theorem yt:∀{p:List Nat}{n m:NT},um n→iS n p=some m→um m
 | [],n,m,h,e=>by cases n;cases e;exact h
 | i::p,.mk k x src path ks,m,.mk h1 h2 h3 h4,e=>by
  rw[iS]at e;cases e2:ks[i]? with
  | none=>rw[e2]at e;cases e
  | some n=>rw[e2]at e;exact yt (h4 n (ac e2)) e
theorem Jh(h:Ly b1 b2 b3 t k n c):um n:=by
 induction h with
 | zero=>exact jr (λw g e=>by cases e) t [] Ow.none 0
 | @succ k n c p w src path ks giv body _ _ g1 B ih=>
  have wm:=yt ih g1;cases wm with
  | mk _ _ _ h4=>exact rN (jr (mt B h4) body [] Ow.none 0) ih
theorem xR(h:mx rd W):mx rd W'→W=W':=by
 induction h generalizing W' with
 | nil=>
  intro h';generalize e:([]:List (List Rw))=rd at h';cases h' with
  | nil=>rfl
  | snoc=>simp at e
 | @snoc rd W R t _ hb ih=>
  intro h';generalize e:rd++[R]=rd' at h';cases h' with
  | nil=>simp at e
  | snoc a hb2=>obtain⟨rfl,e2⟩:=List.append_inj' e rfl;cases e2;have:=ih a;subst this;rw[hb]at hb2;cases hb2;rfl
theorem Jv(O:vn b1 b2 b3 ws)(ht:∀w,t.out w→w∈ws)(en:xO b1 b2 b3 t F ws st W tt):∃n c,Ly b1 b2 b3 t st.k n c∧fst n=none∧Gs st.ws f0 J0 tt n∧lW n=(ik (W.map Prod.snd) st.R).map cv:=by
 obtain⟨n,c,W',S⟩:=rb O ht en.rch en.few;have:=xR S.wr en.wr;subst this;have tr:=S.tr;rw[en.emp]at tr;have tr:TR W' ws st.ws f0 J0 (rI st.R) n:=by simpa using tr
 obtain⟨t',e,g,hs⟩:=wz tr;rw[en.out]at e;cases e;exact⟨n,c,S.ly,ng g.ns,g,hs⟩
theorem rj(h:∀x,x∈ws↔∃y∈[t,b1,b2,b3],y.out x):vn b1 b2 b3 ws∧∀w,t.out w→w∈ws:=
 ⟨⟨λw z=>(h w).mpr ⟨b1,by simp,z⟩,λw z=>(h w).mpr ⟨b2,by simp,z⟩,λw z=>(h w).mpr ⟨b3,by simp,z⟩⟩,λw z=>(h w).mpr ⟨t,by simp,z⟩⟩
end S8
namespace S9
open PySem L2 SW
variable {K:aA}{vs:List V}{H:Hp}{Q:VK}{E:XK}{C D:Addr}
theorem lf:PySem.W.kitOne K (.type "tuple") (.type "list")=some false:=by kernel_rfl
theorem BE:PySem.W.kitAny K (.type "tuple") [.type "list",.type "tuple"]=some true:=by kernel_rfl
def DD:Sp:=λvs H Q _=>∃(l:Addr)(v1 v2 v3:V)(g1 g2 g3:G),vs=[.ref l]∧H l=some (.lst [v1,v2,v3])∧Bk H v1 v2 v3 g1 g2 g3∧
 ∀(l':Addr)(w1 w2 w3:V)(H':Hp),dq H H'→H l'=none→H' l'=some (.lst [w1,w2,w3])→Bk H' w1 w2 w3 g1 g2 g3→Q (.ref l') H'
theorem Gj(h:DD vs H Q E):K9 K (gi Q) (start ["_law_book"] vs) H:=by
 obtain⟨l,v1,v2,v3,g1,g2,g3,rfl,hl,B,k⟩:=h
 let bs:List (Str×List Str×G):=[("star",[],g1),("sta",["sab"],g2),("st",["sab","tab"],g3)]
 have hget:∀(i:Nat)(x:V),[v1,v2,v3][i]?=some x→∃b,bs[i]?=some b∧jj H b.1 b.2.1 b.2.2 x:=λi x hx=>by
  match i,hx with
  | 0,hx=>cases hx;exact⟨_,rfl,B.a⟩
  | 1,hx=>cases hx;exact⟨_,rfl,B.b⟩
  | 2,hx=>cases hx;exact⟨_,rfl,B.c⟩
  | n+3,hx=>simp at hx
 refine⟨l,rfl,⟨_,eK.of hl⟩,?_⟩;refine⟨λi m zs H'=>m=3-i∧i≤3∧zs.length=i∧dq H H'∧∀(j:Nat) z b,zs[j]?=some z→bs[j]?=some b→jj H' b.1 b.2.1 b.2.2 z,⟨3,by simp,aU _,rfl,λ_ _ h=>h,λj z v h=>by simp at h⟩,?_⟩;rintro i m zs H' ⟨rfl,hi,hz,s2,hw⟩;by_cases hlt:i<3
 ·refine .inr ⟨⟨_,[v1,v2,v3][i]'(by simpa using hlt),eK.of (s2 _ _ hl),aJ _⟩,λx H2 y=>?_⟩;obtain⟨e,y⟩:=y;subst e;have hx:=y _ (eK.of (s2 _ _ hl));obtain⟨b,eb,q,p,v,rfl,h1,h2,h4⟩:=hget i x hx;have h1':=s2 _ _ h1;refine⟨eC.of h1',rfl,eC.of h1',rfl,p,_,rfl,.inl (eK.of (s2 _ _ h2)),λp' hp'=>?_⟩;have s3:=dR (o:=.lst (b.2.1.map V.str)) hp';have g3:(upd H2 p' (.lst (b.2.1.map V.str))) p'=some (.lst (b.2.1.map V.str)):=dO;generalize upd H2 p' (.lst (b.2.1.map V.str))=H3 at s3 g3⊢;refine⟨eC.of (s3 _ _ h1'),rfl,fT,λq' hq'=>?_⟩;have s4:=dR (o:=.tup [.str b.1,.ref p',v]) hq';have s34:=s3.trans s4;refine⟨by rw[hz,sizeLine_eq];lia,3-(i+1),by lia,rfl,hlt,by simp[hz],s2.trans s34,λj z c e1 e2=>?_⟩;rcases bM j zs.length with hj|hj
  ·rw[ax hj]at e1;exact(hw j z c e1 e2).mono s34
  ·have hj2:j=i:=by have:=(aO.mp e1).1;rw[aD,bB]at this;lia
   subst hj2;rw[bL hj,hz,bN]at e1;rw[eb]at e2;cases e2;have:z=.ref q':=by simpa using e1.symm
   exact⟨q',p',v,this,dO,s4 _ _ g3,(h4.mono (dY s2)).mono (dY s34)⟩
 ·have e:i=3:=by lia
  subst e;refine .inl ⟨⟨_,eK.of (s2 _ _ hl),by simp⟩,by rw[hz,sizeLine_eq];lia,λl' hl'=>?_⟩
  match zs,hz with
  | [w1,w2,w3],_=>have s3:=dR (o:=.lst [w1,w2,w3]) hl';exact k l' w1 w2 w3 _ (s2.trans s3) (s2.free hl') dO ⟨(hw 0 w1 _ rfl rfl).mono s3,(hw 1 w2 _ rfl rfl).mono s3,(hw 2 w3 _ rfl rfl).mono s3⟩
end S9
namespace S9
open PySem L2 SW
variable {K:aA}{vs:List V}{H:Hp}{Q:VK}{E:XK}{C D:Addr}
theorem gO(h:∀w k,S w k→S' w k):∀{t:T},WT S t→WT S' t
 | .num _,a=>a
 | .name _,a=>a
 | .sum _ _,a=>⟨gO h a.1,gO h a.2⟩
 | .less _ _,a=>⟨gO h a.1,gO h a.2⟩
 | .cho _ _ _,a=>⟨gO h a.1,gO h a.2.1,gO h a.2.2⟩
 | .lt _ _ _,a=>⟨a.1,gO h a.2.1,gO h a.2.2⟩
 | .st0 _,a=>h _ _ a
 | .st1 _ _,a=>⟨h _ _ a.1,gO h a.2⟩
 | .st2 _ _ _,a=>⟨h _ _ a.1,gO h a.2.1,gO h a.2.2⟩
theorem rX:SF "star" 0:=if_pos rfl
theorem AE:SF "sta" 1:=by unfold SF kb;rw[if_neg Je.symm,if_pos rfl]
theorem Ii:SF "st" 2:=by unfold SF kb;rw[if_neg Jd.symm,if_neg Jc.symm,if_pos rfl]
theorem wV(h:ug w k):SF w k:=by
 rcases h with⟨rfl,rfl⟩|⟨rfl,rfl⟩|⟨rfl,rfl⟩
 ·exact Ii
 ·exact AE
 ·exact rX
theorem EK(h:J2 w k):SF w k:=by
 rcases h with⟨rfl,rfl⟩|⟨rfl,rfl⟩
 ·exact rX
 ·exact AE
theorem EM(h:J3 w k):SF w k:=by obtain⟨rfl,rfl⟩:=h;exact rX
theorem u7(h:SF w k):w.length≤1000:=by
 unfold SF kb at h;split at h
 ·rename_i e;subst e;decide+kernel
 ·split at h
  ·rename_i e;subst e;decide+kernel
  ·split at h
   ·rename_i e;subst e;decide+kernel
   ·cases h
def EC(P:G→Prop)(g:G):Prop:=∀x,vp x g→P x
theorem EC.mk(h:P g)(k:∀x∈g.kids,EC P x):EC P g:=λx i=>by
 cases i with
 | refl=>exact h
 | kid hk i=>exact k _ hk x i
def Sh(g:G):Prop:=∀k w ks,g=.word k w ks→w.length≤1000
theorem jD:∀{t:T},WT SF t→EC (λg=>IK g∧Sh g) (gT t)
 | .num n,a=>.mk ⟨aH,λ_ _ _ e=>by cases e⟩ (λx hx=>by simp[gT,G.kids]at hx)
 | .name n,a=>.mk ⟨aH,λ_ _ _ e=>by cases e⟩ (λx hx=>by simp[gT,G.kids]at hx)
 | .sum p q,a=>.mk ⟨aH,λ_ _ _ e=>by cases e⟩ (λx hx=>by
  simp only[gT,G.kids,aB,aF,or_false]at hx;rcases hx with rfl|rfl
  ·exact jD a.1
  ·exact jD a.2)
 | .less p q,a=>.mk ⟨aH,λ_ _ _ e=>by cases e⟩ (λx hx=>by
  simp only[gT,G.kids,aB,aF,or_false]at hx;rcases hx with rfl|rfl
  ·exact jD a.1
  ·exact jD a.2)
 | .cho p q r,a=>.mk ⟨aH,λ_ _ _ e=>by cases e⟩ (λx hx=>by
  simp only[gT,G.kids,aB,aF,or_false]at hx;rcases hx with rfl|rfl|rfl
  ·exact jD a.1
  ·exact jD a.2.1
  ·exact jD a.2.2)
 | .lt w p q,a=>.mk ⟨λe=>absurd e (by decide+kernel),λ_ _ _ e=>by cases e;have:=a.1.few;lia⟩ (λx hx=>by
  simp only[gT,G.kids,aB,aF,or_false]at hx;rcases hx with rfl|rfl
  ·exact jD a.2.1
  ·exact jD a.2.2)
 | .st0 w,a=>.mk ⟨λ_=>a,λ_ _ _ e=>by cases e;exact u7 a⟩ (λx hx=>by simp[gT,G.kids]at hx)
 | .st1 w p,a=>.mk ⟨λ_=>a.1,λ_ _ _ e=>by cases e;exact u7 a.1⟩ (λx hx=>by
  simp only[gT,G.kids,aB,aF,or_false]at hx;subst hx;exact jD a.2)
 | .st2 w p q,a=>.mk ⟨λ_=>a.1,λ_ _ _ e=>by cases e;exact u7 a.1⟩ (λx hx=>by
  simp only[gT,G.kids,aB,aF,or_false]at hx;rcases hx with rfl|rfl
  ·exact jD a.2.1
  ·exact jD a.2.2)
theorem Gb(h:kA H s v):Em H v:=by obtain⟨q,pp,e,h1,h2⟩:=h;refine⟨q,pp,s.1,s.2.map λi:Nat=>(i:Int),e,h1,?_⟩;rw[h2,cE];rfl
theorem Bi:∀{as:List α}{vs:List V}{v:V},Al A as vs→v∈vs→∃a,A a v
 | _,_,_,.cons h r,m=>by
  rcases aB.mp m with rfl|m
  ·exact⟨_,h⟩
  ·exact Bi r m
end S9
namespace S9
open PySem L2 SW
variable {K:aA}{vs:List V}{H:Hp}{Q:VK}{E:XK}{C D Ns Nn Np Se:Addr}
theorem Bc(h:uk H l (w,ps,t) u):jj H w ps (gT t) u:=by obtain⟨q,p,v,e,h1,h2,_,h4⟩:=h;exact⟨q,p,v,e,h1,h2,jL h4⟩
end S9
namespace S8
open PySem L2 SW S9
variable {K:aA}{vs:List V}{H:Hp}{Q:VK}{E:XK}{C D:Addr}
theorem EN(h:WT S0 t):WT SF t:=gO (λw k z=>z.elim) h
theorem oo(w:WT SF t)(h:t.size≤n)(hn:n≤100):(gT t).size≤5000∧∀x,vp x (gT t)→IK x:=⟨by rw[gk];lia,λx i=>(jD w x i).1⟩
theorem Bg(B:xP b1 b2 b3)(w:WT SF t)(hz:t.size≤40)(hK:∀j n c,Ly b1 b2 b3 t j n c→j≤F→j≤10):xQ b1 b2 b3 t F:=by
 have bt:∀(u:T)(n:Nat),WT SF u→u.size≤40→n≤2→BT u [] n:=λu n hw hz hn=>by have:=u.names_len;exact⟨hw,by simp;lia,by lia,by lia,by lia⟩
 have w1:=EN B.w1;have w2:WT SF b2:=gO (λw k=>EM) B.w2;have w3:WT SF b3:=gO (λw k=>EK) B.w3;have z1:=B.z1;have z2:=B.z2.1;have z3:=B.z3.1;have bk:tF b1 b2 b3:=⟨bt _ _ w1 (by lia) (by lia),bt _ _ w2 (by lia) (by lia),bt _ _ w3 (by lia) (by lia)⟩;have bm:BT t [] 0:=bt _ _ w hz (by lia);refine⟨bk,bm,λws hws hiff st r hk=>?_⟩;obtain⟨O,ht⟩:=rj hiff;exact AC (k:=0) B bk w bm O ht hz hws hK r hk
theorem Hi(ly:Ly b1 b2 b3 t k n c)(hk:k≤m)(h:k≤F→fst n=none):∀j n' c',Ly b1 b2 b3 t j n' c'→j≤F→j≤m:=λj n' c' l hj=>by
 by_cases e:k≤F
 ·exact aW (ly.le_end l (h e)) hk
 ·lia
theorem Do(ly:Ly b1 b2 b3 t k n c)(h:k≤F→fst n=none)(hws:∀x,x∈ws↔∃y∈[t,b1,b2,b3],y.out x)(r:tI b1 b2 b3 F (st0 t ws) st)(hF:F<st.k):F<k:=by
 obtain⟨O,ht⟩:=rj hws;obtain⟨j,n',c',p,ly2,hj,hp⟩:=AR O ht r hF;rcases bM F k with z|z
 ·exact z
 ·have hn:=h z;have h1:=ly.le_end ly2 hn;have:j=k:=by lia
  subst this;obtain⟨rfl,_⟩:=ly.uniq ly2;rw[hn]at hp;cases hp
theorem D1(ly:Ly b1 b2 b3 t k n c)(h:k≤F→fst n=none)(en:xO b1 b2 b3 t F ws st W tt):k≤F∧st.k=k∧Gs st.ws f0 J0 tt n∧lW n=(ik (W.map Prod.snd) st.R).map cv:=by
 obtain⟨O,ht⟩:=rj en.ws_;obtain⟨n',c',ly2,hn2,g,hs⟩:=Jv O ht en;have h1:=ly2.le_end ly hn2;have hk:k≤F:=aW h1 en.few;have h2:=ly.le_end ly2 (h hk);have e:st.k=k:=by lia
 rw[e]at ly2;obtain⟨rfl,_⟩:=ly.uniq ly2;exact⟨hk,e,g,hs⟩
end S8
namespace L2
open PySem PySem.Spec PyProof.Rows SW
mutual
inductive Lk(H:Hp):Nat→Nat→V→V→Prop where
 | str{d:Nat}{s:Str}:Lk H d 1 (.str s) (.str s)
 | int{d:Nat}{i:Int}:Lk H d 1 (.int i) (.int i)
 | lst{d:Nat}{ws:List Nat}{p q:Addr}{xs ys:List V}:H p=some (.lst xs)→H q=some (.lst ys)→qW H d ws xs ys→Lk H (d+1) (ws.sum+1) (.ref p) (.ref q)
 | tup{d:Nat}{ws:List Nat}{p q:Addr}{xs ys:List V}:H p=some (.tup xs)→H q=some (.tup ys)→qW H d ws xs ys→Lk H (d+1) (ws.sum+1) (.ref p) (.ref q)
inductive qW(H:Hp):Nat→List Nat→List V→List V→Prop where
 | nil{d:Nat}:qW H d [] [] []
 | cons{d w:Nat}{ws:List Nat}{x y:V}{xs ys:List V}:Lk H d w x y→qW H d ws xs ys→qW H d (w::ws) (x::xs) (y::ys)
end
theorem Lk.pos(h:Lk H d w x y):1≤w:=by cases h<;>lia
theorem qW.len:∀{ws:List Nat}{xs ys:List V},qW H d ws xs ys→xs.length=ws.length∧ys.length=ws.length
 | _,_,_,.nil=>⟨rfl,rfl⟩
 | _,_,_,.cons _ r=>⟨congrArg (·+1) r.len.1,congrArg (·+1) r.len.2⟩
theorem qW.get:∀{ws:List Nat}{xs ys:List V}{i:Nat}{x y:V},qW H d ws xs ys→xs[i]?=some x→ys[i]?=some y→∃w,ws[i]?=some w∧Lk H d w x y
 | _,_,_,0,_,_,.cons a r,h,k=>by cases h;cases k;exact⟨_,rfl,a⟩
 | _,_,_,i+1,_,_,.cons a r,h,k=>qW.get (i:=i) r h k
section
variable {X:Cx}{pins:List (Addr×Obj)}{σ:St}{H:Hp}{s:Shared}
theorem sR(I:eU X pins σ H s):∀(d:Nat){w:Nat}{x y:V}{u v:Value}{A:Around},A.units+d<cLine→Lk H d w x y→fM x u→fM y v→SeqAt.EqAt A s u v true
 | d,_,_,_,_,_,_,_,.str,r1,r2=>q8 (.inr ⟨_,rfl⟩) r1 r2
 | d,_,_,_,_,_,_,_,.int,r1,r2=>q8 (.inl ⟨_,rfl⟩) r1 r2
 | d+1,_,_,_,_,_,A,hu,.lst (p:=p) (q:=q) (xs:=xs) (ys:=ys) h1 h2 l,r1,r2=>by
  cases r1;cases r2;by_cases e:p=q
  ·subst e;exact SeqAt.EqAt.same _
  ·obtain⟨i1,rr1,p1,_⟩:=I.list (eK.of h1);obtain⟨i2,rr2,p2,_⟩:=I.list (eK.of h2);have l1:=rr1.length;have l2:=rr2.length;have ll:=l.len;have hm:=SeqAt.RcAt.lists (A:=A) (s:=s) (e:=λ_=>true) p1.isList p2.isList (by simp only[aM];lia) (by lia) λj h1 h2=>by
    have h1':j<i1.length:=by simpa using h1
    have h2':j<i2.length:=by simpa using h2
    have hx1:j<xs.length:=by lia
    have hx2:j<ys.length:=by lia
    obtain⟨w1,gw1,rw1⟩:=rr1.get (aJ hx1);obtain⟨w2,gw2,rw2⟩:=rr2.get (aJ hx2);obtain⟨w,_,k⟩:=l.get (aJ hx1) (aJ hx2);rw[aJ h1']at gw1;rw[aJ h2']at gw2;cases gw1;cases gw2;simp only[List.getElem_toArray];exact sR I d (A:=A.in1) (by show A.units+1+d<cLine;lia) k rw1 rw2
   have ha:(List.range i1.toArray.size).all (λ_=>true)=true:=by simp
   rw[ha]at hm;exact SeqAt.EqAt.of_refs e hm
 | d+1,_,_,_,_,_,A,hu,.tup (p:=p) (q:=q) (xs:=xs) (ys:=ys) h1 h2 l,r1,r2=>by
  cases r1;cases r2;by_cases e:p=q
  ·subst e;exact SeqAt.EqAt.same _
  ·obtain⟨i1,rr1,p1,_⟩:=I.tuple (eC.of h1);obtain⟨i2,rr2,p2,_⟩:=I.tuple (eC.of h2);have l1:=rr1.length;have l2:=rr2.length;have ll:=l.len;have hm:=SeqAt.RcAt.tuples (A:=A) (s:=s) (e:=λ_=>true) (BH p1) (BH p2) (by lia) λj h1 h2=>by
    have h1':j<i1.length:=by simpa using h1
    have h2':j<i2.length:=by simpa using h2
    have hx1:j<xs.length:=by lia
    have hx2:j<ys.length:=by lia
    obtain⟨w1,gw1,rw1⟩:=rr1.get (aJ hx1);obtain⟨w2,gw2,rw2⟩:=rr2.get (aJ hx2);obtain⟨w,_,k⟩:=l.get (aJ hx1) (aJ hx2);rw[aJ h1']at gw1;rw[aJ h2']at gw2;cases gw1;cases gw2;simp only[List.getElem_toArray];exact sR I d (A:=A.in1) (by show A.units+1+d<cLine;lia) k rw1 rw2
   have hs:i1.length=i2.length:=by lia
   have ha:((List.range (min i1.toArray.size i2.toArray.size)).all (λ_=>true)&&i1.toArray.size==i2.toArray.size)=true:=by simp[hs]
   rw[ha]at hm;exact SeqAt.EqAt.of_refs e hm
end
section
variable {X:Cx}
def EU:R2:=λx y H Q=>∃p q d w xs ys,x=.ref p∧y=.ref q∧H p=some (.lst xs)∧H q=some (.lst ys)∧qW H d w xs ys∧d≤9∧Q (.bl true) H
theorem De(hu:X.A.units+64<cLine):mM X (compareOp .Eq) EU:=by
 intro pins s σ H x y v u Q I rx ry h;obtain⟨p,q,d,w,xs,ys,rfl,rfl,h1,h2,l,hd,k⟩:=h;cases rx;cases ry;obtain⟨i1,rr1,p1,_⟩:=I.list (eK.of h1);obtain⟨i2,rr2,p2,_⟩:=I.list (eK.of h2);have l1:=rr1.length;have l2:=rr2.length;have ll:=l.len;have hm:=SeqAt.RcAt.lists (A:=X.A) (s:=s) (e:=λ_=>true) p1.isList p2.isList (by simp only[aM];lia) (by lia) λj h1 h2=>by
  have h1':j<i1.length:=by simpa using h1
  have h2':j<i2.length:=by simpa using h2
  have hx1:j<xs.length:=by lia
  have hx2:j<ys.length:=by lia
  obtain⟨w1,gw1,rw1⟩:=rr1.get (aJ hx1);obtain⟨w2,gw2,rw2⟩:=rr2.get (aJ hx2);obtain⟨w,_,k⟩:=l.get (aJ hx1) (aJ hx2);rw[aJ h1']at gw1;rw[aJ h2']at gw2;cases gw1;cases gw2;simp only[List.getElem_toArray];exact sR I d (A:=X.A.in1) (by show X.A.units+1+d<cLine;lia) k rw1 rw2
 have ha:(List.range i1.toArray.size).all (λ_=>true)=true:=by simp
 rw[ha]at hm;exact hm X.prog X.w X.xe _ ⟨.bl true,H,I,rfl,k⟩
end
end L2
namespace L2
open PySem PySem.Spec PyProof.Rows
def gS(K:aA)(x qual:Str)(st:Stmt)(f:Addr):Prop:=∃fd,Ep K x qual st f fd
theorem LX{K:aA}{x qual:Str}{st:Stmt}{f:Addr}{oc:Value}{od an:Option Addr}{osl:Array (Option Value)}{kV doc pm cdv ct:Value}(l:K.lookup f=some ⟨oc,od,.func (PySem.W.fnOf x qual (kc st) (iH st) (fR st) .none kV doc pm an cdv ct),osl⟩)
  (c:PySem.W.codeIn K cdv qual=true) (k:PySem.W.keepIn K (.ref f)=true):gS K x qual st f:=⟨_,Hg l c k⟩
structure Ds(P:Program)(w:World)(K:aA)(mg:Str→Option Value)(base:Heap)(k:Nat)(f:Addr)(ps:List Str)(sp:Sp):Prop where
 ex:∃fd,lL P w K mg base vv k f fd ps sp∧m6 K fd ps []
 kp:PySem.W.keepIn K (.ref f)=true
section
variable {P:Program}{w:World}{K:aA}{mg:Str→Option Value}{base:Heap}{x qual:Str}{st:Stmt}{f:Addr}{N ps:List Str}{k:Nat}{sp sp':Sp}
theorem Ds.imp(D:Ds P w K mg base k f ps sp)(h:∀vs H Q E,sp' vs H Q E→sp vs H Q E):Ds P w K mg base k f ps sp':=by obtain⟨⟨fd,F,b⟩,kp⟩:=D;exact⟨⟨fd,F.imp h,b⟩,kp⟩
theorem jf(F:gS K x qual st f)(S:my N ps (fR st))
  (hb:∀(kV doc pm:Value)(an:Option Addr)(cdv ct:Value)(us:List Value),us.length=ps.length→bindArgs (PySem.W.fnOf x qual (kc st) (iH st) (fR st) .none kV doc pm an cdv ct) ⟨us,[]⟩=pure (ps.zip us)) (len:∀vs H Q E,sp vs H Q E→vs.length=ps.length)
  (hbody:∀(cdv:Value)(A:Around)(outer:List Env)(s:Shared)(H:Hp)(vs:List V)(Q:VK)(E:XK),N.Nodup→ii k (A.deeper (envOfC qual (fR st) s.heap.objs.size f cdv))→sp vs H Q E→
   ∃t,sy (oU vv P w K mg base N qual (fR st) f cdv A outer s H E).nox (iH st) t∧t {nx:=λ_ H'=>Q .non H',rt:=Q} (start N vs) H):Ds P w K mg base (k+1) f ps sp:=by
 obtain⟨fd,F⟩:=F;exact⟨⟨fd,F.ok S len λcdv A outer s H vs Q E=>hbody cdv A outer s H vs Q E S.nd,F.binds hb⟩,F.kp⟩
theorem ND(F:Ep K x qual st f fd)(S:my N ps (fR st))(len:∀vs H Q E,sp vs H Q E→vs.length=ps.length)
  (hbody:∀(cdv:Value)(A:Around)(outer:List Env)(s:Shared)(H:Hp)(vs:List V)(Q:VK)(E:XK),N.Nodup→ii k (A.deeper (envOfC qual (fR st) s.heap.objs.size f cdv))→sp vs H Q E→
   ∃t,sy (oU vv P w K mg base N qual (fR st) f cdv A outer s H E).nox (iH st) t∧t {nx:=λ_ H'=>Q .non H',rt:=Q} (start N vs) H):lL P w K mg base vv (k+1) f fd ps sp:=
 F.ok S len λcdv A outer s H vs Q E=>hbody cdv A outer s H vs Q E S.nd
theorem Jx(F:gS K x qual st f)
  (hb:∀(kV doc pm:Value)(an:Option Addr)(cdv ct:Value)(us:List Value),us.length=ps.length→bindArgs (PySem.W.fnOf x qual (kc st) (iH st) (fR st) .none kV doc pm an cdv ct) ⟨us,[]⟩=pure (ps.zip us)) (h:∀vs H Q E,sp vs H Q E→vs.length=ps.length∧False):Ds P w K mg base k f ps sp:=by
 obtain⟨fd,F⟩:=F;exact⟨⟨fd,⟨λvs H Q E z=>(h vs H Q E z).1,λA outer s H args us vs Q E _ _ _ _ z=>(h _ _ _ _ z).2.elim⟩,F.binds hb⟩,F.kp⟩
end
section
variable {X:Cx}{k n:Nat}{f C:Addr}{ps:List Str}{sp:Sp}{x m:Str}{e a b o:Expr}{es:List Expr}{t:TA}{ta tb te:TE}{p pos apos:Pos}
theorem pc(D:Ds X.prog X.w X.K X.mg X.base k f ps sp)(hr:ii n X.A)(hm:X.mg x=some (.ref f))(ha:PA X (e::es) t)(hk:k≤n:=by decide)(hg:Gl X x:=by rfl)(hdb:(x==("__debug__":Str))=false:=by decide)(he:starEach (e::es) X.env=(false,eval e X.env)::starEach es X.env:=by rfl)(hpl:(backTo pos (starEach es X.env)).any (·.1)=false:=by rfl):
  PE X (.Call (.Name x p) (e::es) [] pos) (eV sp [] E0 t):=by
 obtain⟨⟨fd,F,bd⟩,kp⟩:=D;exact DX F (hr.mono hk) hg hm kp bd .nil Am ha hdb he hpl
theorem pm(he:PE X o ta)(c:vt X.K C)(hm:lK X.K C m f)(D:Ds X.prog X.w X.K X.mg X.base k f ps sp)(hr:ii n X.A)(ha:PA X (e::es) t)(hk:k≤n:=by decide)
  (hst:starEach (e::es) X.env=(false,eval e X.env)::starEach es X.env:=by rfl) (hpl:(backTo pos (starEach es X.env)).any (·.1)=false:=by rfl)
  (ht:eval (.Call (.Attribute o m apos) (e::es) [] pos) X.env=(do
   let ov ← eval o X.env
   standAt apos.atName
   let (f,first) ← holding [ov] (getMethod ov m pl)
   callWith pos f first (backTo pos (starEach (e::es) X.env)) (backToKw pos (keywordEach [] X.env))):=by rfl):PE X (.Call (.Attribute o m apos) (e::es) [] pos) (jm C m sp [] E0 ta t):=by
 obtain⟨⟨fd,F,bd⟩,kp⟩:=D;exact DU he c hm F (hr.mono hk) bd .nil Am ha hst hpl ht
theorem pk(M:Mk X.K C f)(D:Ds X.prog X.w X.K X.mg X.base k f ps sp)(hr:ii n X.A)(hm:X.mg x=some (.ref C))(ha:PA X (e::es) t)(hk:k+1≤n:=by decide)(hg:Gl X x:=by rfl)(hdb:(x==("__debug__":Str))=false:=by decide)(he:starEach (e::es) X.env=(false,eval e X.env)::starEach es X.env:=by rfl)(hpl:(backTo pos (starEach es X.env)).any (·.1)=false:=by rfl):
  PE X (.Call (.Name x p) (e::es) [] pos) (tQ C sp [] E0 t):=by
 obtain⟨⟨fd,F,bd⟩,kp⟩:=D;exact DV M F (hr.mono hk) hg hm bd .nil Am ha hdb he hpl
theorem NF{K:aA}{i j:Nat}:∀(v:V)(σ:St)(H:Hp)(Q Q':St→Hp→Prop),lY K 2 (gF (dX i) (gF (dX j) lZ)) v σ H Q→(∀σ' H',Q σ' H'→Q' σ' H')→lY K 2 (gF (dX i) (gF (dX j) lZ)) v σ H Q':=by rintro v σ H Q Q' ⟨a,xs,e1,e2,e3,v1,r1,e4,v2,r2,e5,e6,h⟩ k;exact⟨a,xs,e1,e2,e3,v1,r1,e4,v2,r2,e5,e6,k _ _ h⟩
theorem xT(ha:PE X a ta)(hb:PE X b tb)(hs:sw b:=by exact λ_ _=>rfl):PE X (.Subscript a b pos) (eA (eE X.K) ta tb):=qB BF ha hb hs
theorem xL(ha:PE X a ta)(hb:PE X b tb)(hs:sw b:=by exact λ_ _=>rfl):PE X (.Subscript a b pos) (eA (gP X.K) ta tb):=qB wv ha hb hs
theorem sN(i:Nat)(nd:X.N.Nodup)(hx:D9 X.env.scope x)(he:PE X e te)(hi:X.N[i]?=some x:=by rfl)(hs:swapsWith e (some (.Name x pos')) pos.line X.env=pure false:=by rfl)(hf:X.fn x=true∨X.env.scope.names.lookup x=some .local:=by first|exact .inl rfl|exact .inr rfl):PS X (.Assign [.Name x pos'] e pos) (eG te (dX i)):=Gm nd hi hx he hs hf
theorem qt(ho:mM X (compareOp op) r)(ha:PE X a ta)(hb:PE X b tb)(h:op≠.In:=by decide)(h2:op≠.NotIn:=by decide):PT X (.Compare a [op] [b] pos) (eI (eA r ta tb)):=mX ho ha hb (Au b h h2)
theorem qe(ho:mM X (compareOp op) r)(ha:PE X a ta)(hb:PE X b tb)(h:op≠.In:=by decide)(h2:op≠.NotIn:=by decide):PE X (.Compare a [op] [b] pos) (eA r ta tb):=wa ho ha hb (Au b h h2)
theorem fO(h:PE X e te)(hs:starEach [e] X.env=(false,eval e X.env)::starEach [] X.env:=by rfl):PA X [e] (dM te dW):=dz h fb hs
theorem fZ(h:PE X e te)(h2:PE X a ta)(hs:starEach [e,a] X.env=(false,eval e X.env)::starEach [a] X.env:=by rfl)(hs2:starEach [a] X.env=(false,eval a X.env)::starEach [] X.env:=by rfl):PA X [e,a] (dM te (dM ta dW)):=dz h (fO h2 hs2) hs
variable {body:List Stmt}{ts:TS}
theorem wq(i:Nat)(hN:X.N[i]?=some x)(k:(∀{pos:Pos},PE X (.Name x pos) (dN i))→sy X body ts)(hv:KW X.env.scope x:=by first|exact bF rfl|exact bS (bF rfl)|exact bS (bS rfl))(hd:(x==("__debug__":Str))=false:=by decide)(hcd:(x==("__classdict__":Str))=false:=by decide):sy X body ts:=k (λ{pos}=>Ai hN hv hd hcd)
theorem wh(i:Nat)(hi:X.N[i]?=some x)(nd:X.N.Nodup)(k:D9 X.env.scope x→(∀{pos:Pos},PG X (.Name x pos) (dX i))→sy X body ts)(hx:D9 X.env.scope x:=by first|exact bF rfl|exact bS rfl)
  (hf:X.fn x=true∨X.env.scope.names.lookup x=some .local:=by first|exact .inl rfl|exact .inr rfl):sy X body ts:=k hx (λ{pos}=>lQ (i:=i) nd hi hx hf)
end
end L2
namespace L2
open PySem PySem.Spec PyProof.Rows
theorem Gn{i:Nat}{y:Str}{py spos:Pos}(hc:X.calm=true)(S:iX X scope cl (x::xr) ys js)(hi:PI X tg iter wi)
  (hg:∀(fp:List Addr)(s:Shared)(H:Hp)(C:Addr),PG (gX X scope cl (x::(xr++ys)) fp s H C) tg g)
  (ht:∀(fp:List Addr)(s:Shared)(H:Hp)(C:Addr),J6 (gX X scope cl (x::(xr++ys)) fp s H C) ifs tt)
  (he:∀(fp:List Addr)(s:Shared)(H:Hp)(C:Addr),PE (gX X scope cl (x::(xr++ys)) fp s H C) elt te) (hN:X.N.Nodup) (hy:X.N[i]?=some y) (hx:D9 X.env.scope y) (hs:∀x,foldedSetIterable iter X.env x=pure x)
  (hsw:swapsWith (.ListComp elt [⟨tg,iter,ifs,0⟩] scope pos) (some (.Name y py)) spos.line X.env=pure true) (hf:X.fn y=true∨X.env.scope.names.lookup y=some .local):
  PS X (.Assign [.Name y py] (.ListComp elt [⟨tg,iter,ifs,0⟩] scope pos) spos) (eG (DA (x::xr).length wi g tt te js) (dX i)):=by
 intro pins s σ H D I h;rw[exec_Assign_Name_used _ _ _ _ hsw];refine wpAny_bind (wpAny_standAt (wpAny_bind ?_));show wpAny _ X.A (do let _ ← comprehension (.ListComp elt [⟨tg,iter,ifs,0⟩] scope pos) scope X.env _ (newList []) false (eval iter X.env) (some (assign (.Name y py) X.env))) _ _ s;refine wpAny_bind (wpAny_mono (wu (Q':=λ_ s'=>SP X pins D .next s') hc S hi hg ht he hs I h λDa C s2 s4 H2 Hn I2 hC hn hCn hI q=>?_) (λ_ s' hq=>wpAny_pure (wpAny_pure hq)) λ_ _ e=>e);obtain⟨m,hn⟩:=hn;have I4:eU X pins σ Hn s4:=hI s4.heap (Heap.SameBut.refl _ _);have nL:C≠X.env.locals:=af (aL (aX I2.lt hC));have nc:∀z c,X.env.cells.lookup z=some c→c≠C:=λz c e=>by obtain⟨v,o,e1,e2⟩:=I2.cell z c e;exact aL (aX (Heap.lt_size e1) hC)
 refine wpAny_assign_Name (qf I4 hN hy hx (v:=.ref Da) rfl (λs5 I5 ⟨a,hs5,ha⟩=>?_) hf);have nCa:C≠a:=by
  rcases ha with rfl|e
  ·exact nL
  ·exact af (nc _ _ e)
 refine⟨m,hn.sameBut hs5 nCa,λh' hs'=>⟨_,Hn,I5.turned (t':=s5.toks) (it:=C) (λb o hb e=>(hs'.2 b hb).trans e) hCn nL (.inr (aW I2.sz hC)) nc (λp hp=>?_),q⟩⟩;obtain⟨e1,_⟩:=I2.pin p hp;exact aL (aX (Heap.lt_size e1) hC)
theorem Gp{i:Nat}{y:Str}{py spos:Pos}(hc:X.calm=true)(S:iX X scope cl [x] ys js)(hi:PI X (.Name x px) iter wi)
  (he:∀(fp:List Addr)(s:Shared)(H:Hp)(C:Addr),PE (gX X scope cl (x::ys) fp s H C) elt te) (hN:X.N.Nodup) (hx:D9 X.env.scope y) (hy:X.N[i]?=some y:=by rfl) (hsw:swapsWith (.ListComp elt [⟨.Name x px,iter,[],0⟩] scope pos) (some (.Name y py)) spos.line X.env=pure true:=by rfl)
  (hf:X.fn y=true∨X.env.scope.names.lookup y=some .local:=by first|exact .inl rfl|exact .inr rfl) (nd:(x::ys).Nodup:=by decide+kernel) (loc:scope.names.lookup x=some .local:=by rfl) (hs:∀x,foldedSetIterable iter X.env x=pure x:=by intro _;rfl):
  PS X (.Assign [.Name y py] (.ListComp elt [⟨.Name x px,iter,[],0⟩] scope pos) spos) (eG (Ig wi te js) (dX i)):=by
 intro pins s σ H D I h;refine Gn (xr:=[]) hc S (Af hi) (λfp s H C=>lQ (i:=0) nd rfl (bF (lookup_relabel_local loc)) (.inr (lookup_relabel_local loc))) (λfp s H C=>re) he hN hy hx hs hsw hf pins s σ H D I ⟨_,h,λJ H1 z=>?_⟩;obtain⟨W,w0,turn⟩:=z;refine⟨W,w0,λi m vs H w=>(turn i m vs H w).imp id λz=>⟨z.1,λx H' y os hos=>?_⟩⟩
 match os,hos with
 | [o],_=>have q:=z.2 x H' y;refine⟨⟨[some x],rfl,rfl⟩,?_⟩;unfold C9;dsimp only;rw[if_pos rfl];exact q
end L2
namespace S8
open PySem L2 SW S9
variable {K:aA}{vs:List V}{H:Hp}{Q:VK}{E:XK}{C D:Addr}
theorem qW.app:∀{ws ws':List Nat}{xs ys xs' ys':List V},qW H d ws xs ys→qW H d ws' xs' ys'→qW H d (ws++ws') (xs++xs') (ys++ys')
 | _,_,_,_,_,_,.nil,h=>h
 | _,_,_,_,_,_,.cons a r,h=>.cons a (qW.app r h)
theorem oj:∀(zs:List V),(∀x∈zs,(∃n,x=.int n)∨∃w,x=.str w)→qW H d (zs.map λ_=>1) zs zs
 | [],_=>.nil
 | z::zs,h=>.cons (by rcases h z (.head _)with⟨n,rfl⟩|⟨w,rfl⟩;exact .int;exact .str) (oj zs λx hx=>h x (.tail _ hx))
theorem pJ:∀(zs:List V),(zs.map λ_=>1).sum=zs.length
 | []=>rfl
 | _::zs=>by simp only[aY,bI,aE,pJ zs];lia
theorem wn(ih:∀{t:T}{x y:V},t.size≤d→gG H t x→gG H t y→∃w,Lk H d w x y∧w≤3*t.size):∀{ks:List T}{us us':List V},gU H ks us→gU H ks us'→(∀k∈ks,k.size≤d)→∃ws,qW H d ws us us'∧ws.sum≤3*fB ks
 | _,_,_,.nil,.nil,_=>⟨[],.nil,by simp⟩
 | _,_,_,.cons a r,.cons b s,h=>by obtain⟨w,l,hw⟩:=ih (h _ (.head _)) a b;obtain⟨ws,ls,hs⟩:=wn ih r s λk hk=>h k (.tail _ hk);exact⟨w::ws,.cons l ls,by rw[bI,gM];lia⟩
theorem A8:∀(d:Nat){t:T}{x y:V},t.size≤d→gG H t x→gG H t y→∃w,Lk H d w x y∧w≤3*t.size
 | 0,t,_,_,h,_,_=>absurd t.size_pos (by lia)
 | d+1,t,x,y,h,dx,dy=>by
  obtain⟨p,us,rfl,hp,k1⟩:=dx.open;obtain⟨q,us',rfl,hq,k2⟩:=dy.open;obtain⟨ws,l,hs⟩:=wn (λ{t x y}=>A8 d (t:=t) (x:=x) (y:=y)) k1 k2 λk hk=>by have:=qH hk;lia
  refine⟨_,.tup hp hq (qW.app (oj _ (Dt t)) l),?_⟩;rw[List.sum_append,pJ];have:=jB t;have:(hd t).length≤2:=by cases t<;>simp[hd]
  lia
theorem A7(hx:jj H w ps (gT t) x)(hy:jj H w ps (gT t) y)(hz:t.size≤40)(hp:ps.length≤2):∃v,Lk H 45 v x y∧v≤200:=by
 obtain⟨p,l,a,rfl,h1,h2,h3⟩:=hx;obtain⟨q,m,b,rfl,g1,g2,g3⟩:=hy;obtain⟨v,lv,hv⟩:=A8 44 (t:=t) (by lia) (gx h3) (gx g3);refine⟨_,.tup h1 g1 (.cons .str (.cons (.lst h2 g2 (oj _ λx hx=>?_)) (.cons lv .nil))),?_⟩
 ·obtain⟨z,_,rfl⟩:=bj.mp hx;exact .inr ⟨z,rfl⟩
 ·simp only[bI,List.sum_nil,pJ,aa];lia
theorem Jl(hx:H a=some (.lst [x1,x2,x3]))(hy:H b=some (.lst [y1,y2,y3]))(A:rH H x1 x2 x3 t1 t2 t3)(B:rH H y1 y2 y3 t1 t2 t3)(o:xP t1 t2 t3):∃d w,Lk H d w (.ref a) (.ref b)∧w≤1000:=by have z1:=o.z1;have z2:=o.z2.1;have z3:=o.z3.1;obtain⟨v1,l1,h1⟩:=A7 A.a B.a (by lia) (by simp);obtain⟨v2,l2,h2⟩:=A7 A.b B.b (by lia) (by simp);obtain⟨v3,l3,h3⟩:=A7 A.c B.c (by lia) (by simp);exact⟨_,_,.lst hx hy (.cons l1 (.cons l2 (.cons l3 .nil))),by simp only[bI,List.sum_nil];lia⟩
def uh(H₀ H:Hp)(w:Nat)(u:V):Prop:=∃(p:Addr)(x y:V)(d:Nat),u=.ref p∧H p=some (.tup [x,y])∧Lk H₀ d w x y
theorem uh.mono(t:fH H H')(h:uh H₀ H w u):uh H₀ H' w u:=by obtain⟨p,x,y,d,e,h1,h2⟩:=h;exact⟨p,x,y,d,e,t _ _ h1,h2⟩
theorem Ac:∀{ws:List Nat}{us:List V},Al (uh H₀ H) ws us→us.length≤ws.sum
 | _,_,.nil=>aC _
 | _,_,.cons ⟨_,_,_,_,_,_,l⟩ r=>by have:=Ac r;have:=l.pos;rw[bI,aE];lia
structure Eo(H₀ H:Hp)(tl:Addr)(us:List V)(ws:List Nat):Prop where
 same:dq H₀ H
 at_:H tl=some (.lst us)
 al:Al (uh H₀ H) ws us
theorem Eo.new(A:Eo H₀ H tl us ws)(s:dq H H'):Eo H₀ H' tl us ws:=⟨A.same.trans s,s _ _ A.at_,A.al.mono λ_ _=>uh.mono (dY s)⟩
def tX:Sp:=λvs H Q _=>∃(x y:V)(d w:Nat),vs=[x,y]∧Lk H d w x y∧w≤100000∧∀H',dq H H'→Q (.bl true) H'
def L3(H:Hp)(x y:V)(tl:Addr)(m:Nat)(σ:St)(H':Hp):Prop:=∃us ws j3 j4 j5,σ=[some x,some y,some (.ref tl),j3,j4,j5]∧Eo H H' tl us ws∧ws.sum≤100000∧m=ws.sum
def CL(K:aA):TS:=(fI (tC (.bl false)))
def CK(K:aA):TS:=(fW (eI (eA qk (gm (j0 K) (dM (dN 3) (dM (tC (.ty "list")) dW))) (gm (j0 K) (dM (dN 4) (dM (tC (.ty "list")) dW))))) (CL K) fN)
def CJ(K:aA):TS:=(fI (tC (.bl false)))
def CI(K:aA):TS:=(fW (eI (eA qk (gm (j0 K) (dM (dN 3) (dM (tC (.ty "tuple")) dW))) (gm (j0 K) (dM (dN 4) (dM (tC (.ty "tuple")) dW))))) (CJ K) fN)
def CH(K:aA):TS:=(fI (tC (.bl false)))
def CG(K:aA):TS:=(fW (eI (eA qk (gm (gh K) (dM (dN 3) dW)) (gm (gh K) (dM (dN 4) dW)))) (CH K) fN)
def v4(K:aA):TS:=(fQ (kB K "list" eh (dN 2) (dM (fP (dM (eA (Ip K) (dN 3) (dN 5)) (dM (eA (Ip K) (dN 4) (dN 5)) dW))) dW)))
def CF(K:aA):TS:=(de (CK K) (de (CI K) (de (CG K) (iY (qK (dM (gm (gh K) (dM (dN 4) dW)) dW)) (dX 5) (v4 K)))))
def CD(K:aA):TS:=(fI (tC (.bl false)))
def zP(K:aA):TS:=(fW (tG (ko (tB (gm (j0 K) (dM (dN 3) (dM (tC (.ty "str")) dW))))) (eI (eA qk (dN 3) (dN 4)))) (CD K) fN)
def zO(K:aA):TS:=(fI (tC (.bl false)))
def zN(K:aA):TS:=(fW (tG (ko (tB (gm (j0 K) (dM (dN 3) (dM (tC (.ty "bool")) dW))))) (eI (eA qk (dN 3) (dN 4)))) (zO K) fN)
def zM(K:aA):TS:=(fI (tC (.bl false)))
def zL(K:aA):TS:=(fW (eI (eA AW (dN 3) (tC .non))) (zM K) fN)
def zK(K:aA):TS:=(fI (tC (.bl false)))
def zJ(K:aA):TS:=(fW (tG (ko (tB (gm (j0 K) (dM (dN 3) (dM (tC (.ty "int")) dW))))) (tG (tB (gm (j0 K) (dM (dN 3) (dM (tC (.ty "bool")) dW)))) (eI (eA qk (dN 3) (dN 4))))) (zK K) fN)
def zI(K:aA):TS:=(fW (eI (eA LS (dN 4) (tC .non))) (zL K) (zJ K))
def zH(K:aA):TS:=(fW (tB (gm (j0 K) (dM (dN 4) (dM (tC (.ty "bool")) dW)))) (zN K) (zI K))
def zG(K:aA):TS:=(fW (tB (gm (j0 K) (dM (dN 4) (dM (tC (.ty "str")) dW)))) (zP K) (zH K))
def zF(K:aA):TS:=(fW (tB (gm (Ei K) (dM (dN 4) (dM (fP (dM (tC (.ty "list")) (dM (tC (.ty "tuple")) dW))) dW)))) (CF K) (zG K))
def zE(K:aA):TS:=(de (eG (lz K "list" mF (dN 2)) (lY K 2 (gF (dX 3) (gF (dX 4) lZ)))) (zF K))
def IR(K:aA):TS:=(de (eG (fX (dM (fP (dM (dN 0) (dM (dN 1) dW))) dW)) (dX 2)) (de (hX (eI (eA (kW K) (dN 2) (fX dW))) (zE K)) (fI (tC (.bl true)))))
theorem wk:∀{ws:List Nat}{xs ys:List V},qW H d ws xs ys→ws.length≤ws.sum
 | _,_,_,.nil=>aC _
 | _,_,_,.cons a r=>by have:=a.pos;have:=wk r;rw[aE,bI];lia
theorem pX{D:iz}(hix:∀(H':Hp)(i:Nat)(v:V)(Q:VK),dq H H'→xs[i]?=some v→Q v H'→Ip K (.ref a) (.int (i:Int)) H' Q)(hiy:∀(H':Hp)(i:Nat)(v:V)(Q:VK),dq H H'→ys[i]?=some v→Q v H'→Ip K (.ref b) (.int (i:Int)) H' Q)
  (hb:eK K H6 b ys∨eC K H6 b ys) (l:qW H d ws xs ys) (n2:H tl=none) (A:Eo H H6 tl us bs) (hz:bs.sum+ws.sum≤100000) (kk:∀j5 us' H',Eo H H' tl us' (bs++ws)→D.nx [some x,some y,some (.ref tl),some (.ref a),some (.ref b),j5] H'):
  (iY (qK (dM (gm (gh K) (dM (dN 4) dW)) dW)) (dX 5) (v4 K)) D [some x,some y,some (.ref tl),some (.ref a),some (.ref b),j5] H6:=by
 have ll:=l.len;have hws:=wk l;refine⟨b,_,rfl,hb,(ys.length:Int),rfl,by lia,by lia,?_⟩;rw[bc];refine nh (λi σ H'=>∃j5 us',σ=[some x,some y,some (.ref tl),some (.ref a),some (.ref b),j5]∧Eo H H' tl us' (bs++ws.take i)) ⟨j5,us,rfl,by simpa using A⟩ ?_ ?_
 ·rintro i σ H1 hi ⟨j5,us',rfl,P⟩;rw[cm];have hix1:i<xs.length:=by lia
  have hiw:i<ws.length:=by lia
  obtain⟨w,hw,lk⟩:=l.get (aJ hix1) (aJ hi);refine⟨.inl ⟨rfl,_,eK.of P.at_⟩,?_⟩;refine hix _ _ _ _ P.same (aJ hix1) ?_;refine hiy _ _ _ _ P.same (aJ hi) ?_;refine⟨fT,eu λq H2 hq s2 g2=>?_⟩;have P2:=P.new s2;have hl:=Ac P2.al;have hle:(bs++ws.take i).sum≤100000:=by
   have:(ws.take i).sum≤ws.sum:=by have:=congrArg List.sum (bu i ws);rw[List.sum_append]at this;lia
   rw[List.sum_append];lia
  refine⟨tl,us',_,rfl,rfl,P2.at_,by rw[sizeLine_eq];lia,_,us'++[.ref q],rfl,?_⟩;have t3:fH H2 (upd H2 tl (.lst (us'++[.ref q]))):=fL P2.at_;refine⟨eD P2.same n2,dO,?_⟩;rw[az,hw,←aT];exact(P2.al.mono λ_ _=>uh.mono t3).append (.one ⟨q,_,_,_,rfl,t3 _ _ g2,lk⟩)
 ·rintro σ H1 ⟨j5,us',rfl,P⟩;rw[bW (by lia)]at P;exact kk _ _ _ P
theorem LF(h:tX vs H Q E):IR K (gi Q) (start ["_law_found","_law_due","_law_todo","_law_one","_law_other","_law_k"] vs) H:=by
 obtain⟨x,y,d,w,rfl,lk,hw,k⟩:=h;refine⟨fT,eu λp H1 hp s1 g1=>?_⟩;refine⟨fT,eu λtl H2 htl s2 g2=>?_⟩;have n2:H tl=none:=s1.free htl;refine⟨L3 H x y tl,⟨_,_,[w],_,_,_,rfl,⟨s1.trans s2,g2,.one ⟨p,x,y,d,rfl,s2 _ _ g1,lk⟩⟩,by simpa using hw,rfl⟩,?_⟩;clear lk hw s1 g1 s2 g2 hp htl;rintro m σ H3 ⟨us,ws,j3,j4,j5,rfl,A,hz,rfl⟩;refine⟨fT,eu λe H4 he s4 g4=>?_⟩;have A4:=A.new s4;clear A s4 he;refine⟨tl,e,us,rfl,rfl,eK.of A4.at_,eK.of g4,?_⟩;by_cases hv:us=[]
 ·subst hv;exact⟨_,rfl,eM rfl (k _ A4.same)⟩
 ·obtain⟨us,u,rfl⟩:=gD hv;obtain⟨bs,b,rfl,al,p',x',y',d',rfl,hp',lk'⟩:=A4.al.snoc;refine⟨_,rfl,fi (by simp) ?_⟩;refine⟨λσ' H'=>∃m',m'<(bs++[b]).sum∧L3 H x y tl m' σ' H',λ_ _ h=>h,?_⟩;refine⟨.inl ⟨rfl,_,eK.of A4.at_⟩,tl,_,_,rfl,rfl,A4.at_,jC,?_⟩;rw[iP];have t5:fH H4 (upd H4 tl (.lst us)):=fL A4.at_;have A5:Eo H (upd H4 tl (.lst us)) tl us bs:=⟨eD A4.same n2,dO,al.mono λ_ _=>uh.mono t5⟩;have hp5:=t5 _ _ hp';generalize upd H4 tl (.lst us)=H5 at A5 hp5⊢;clear t5 A4 al g4 hp';refine⟨p',_,rfl,eC.of hp5,rfl,_,_,rfl,_,_,rfl,rfl,?_⟩;refine⟨fT,eu λq H6 hq s6 g6=>?_⟩;have A6:=A5.new s6;clear A5 s6 hq hp5;have hb:=lk'.pos;have hs:(bs++[b]).sum=bs.sum+b:=by simp
  rw[hs]at hz⊢;have f6:∀j3 j4 j5,∃m',m'<bs.sum+b∧L3 H x y tl m' [some x,some y,some (.ref tl),j3,j4,j5] H6:=λ_ _ _=>⟨bs.sum,by lia,us,bs,_,_,_,rfl,A6,by lia,rfl⟩;cases lk' with
  | str=>refine⟨_,_,_,_,_,_,rfl,g6,.str _,HU,_,rfl,fF ?_⟩;refine⟨_,_,_,_,rfl,.str _,fU,_,rfl,mf ?_⟩;refine⟨_,_,_,_,rfl,.str _,fU,_,rfl,fF ?_⟩;exact⟨rfl,_,rfl,eM (by simp) (f6 _ _ _)⟩
  | int=>refine⟨_,_,_,_,_,_,rfl,g6,.int _,HV,_,rfl,fF ?_⟩;refine⟨_,_,_,_,rfl,.int _,vY,_,rfl,fF ?_⟩;refine⟨_,_,_,_,rfl,.int _,lG,_,rfl,fF ?_⟩;refine⟨rfl,_,rfl,eM rfl ?_⟩;refine⟨_,_,_,_,rfl,.int _,qF,_,rfl,fF ?_⟩;refine⟨_,_,_,_,rfl,.int _,lG,_,rfl,fF ?_⟩;exact⟨rfl,_,rfl,eM (by simp) (f6 _ _ _)⟩
  | lst h1 h2 l=>have a6:=A6.same _ _ h1;have b6:=A6.same _ _ h2;have ll:=l.len;refine⟨_,_,_,_,_,_,rfl,g6,.lst b6,Dr,_,rfl,mf ?_⟩;refine⟨_,_,_,_,rfl,.lst a6,kZ,_,_,_,_,rfl,.lst b6,kZ,rfl,_,rfl,eM rfl ?_⟩;refine⟨_,_,_,_,rfl,.lst a6,lg,_,_,_,_,rfl,.lst b6,lg,rfl,_,rfl,eM rfl ?_⟩;refine⟨_,_,rfl,.inl (eK.of a6),_,_,rfl,.inl (eK.of b6),rfl,_,rfl,eM (by simp[ll.1,ll.2]) ?_⟩;exact pX (λH' i v Q s e q=>.inl ⟨eK.of (s _ _ h1),dU e,q⟩) (λH' i v Q s e q=>.inl ⟨eK.of (s _ _ h2),dU e,q⟩) (.inl (eK.of b6)) l n2 A6 (by lia) λj5 us' H' B=>⟨(bs++_).sum,by rw[List.sum_append];lia,us',_,_,_,_,rfl,B,by rw[List.sum_append];lia,rfl⟩
  | tup h1 h2 l=>have a6:=A6.same _ _ h1;have b6:=A6.same _ _ h2;have ll:=l.len;refine⟨_,_,_,_,_,_,rfl,g6,.tup b6,BE,_,rfl,mf ?_⟩;refine⟨_,_,_,_,rfl,.tup a6,lf,_,_,_,_,rfl,.tup b6,lf,rfl,_,rfl,eM rfl ?_⟩;refine⟨_,_,_,_,rfl,.tup a6,fC,_,_,_,_,rfl,.tup b6,fC,rfl,_,rfl,eM rfl ?_⟩;refine⟨_,_,rfl,.inr (eC.of a6),_,_,rfl,.inr (eC.of b6),rfl,_,rfl,eM (by simp[ll.1,ll.2]) ?_⟩;exact pX (λH' i v Q s e q=>.inr (.inl ⟨eC.of (s _ _ h1),dU e,q⟩)) (λH' i v Q s e q=>.inr (.inl ⟨eC.of (s _ _ h2),dU e,q⟩)) (.inr (eC.of b6)) l n2 A6 (by lia) λj5 us' H' B=>⟨(bs++_).sum,by rw[List.sum_append];lia,us',_,_,_,_,rfl,B,by rw[List.sum_append];lia,rfl⟩
def SN(H:Hp)(s:Str×List Int)(v:V):Prop:=∃q pp,v=.ref q∧H q=some (.tup [.str s.1,.ref pp])∧H pp=some (.tup (s.2.map V.int))
theorem SN.mono(t:fH H H')(h:SN H s v):SN H' s v:=by obtain⟨q,pp,e,h1,h2⟩:=h;exact⟨q,pp,e,t _ _ h1,t _ _ h2⟩
theorem EJ:∀{S:List kh}{us:List V},Al (kA H) S us→Al (SN H) (S.map cv) us
 | _,_,.nil=>.nil
 | _,_,.cons ⟨q,pp,e,h1,h2⟩ r=>.cons ⟨q,pp,e,h1,by rw[h2];simp[mN,ip]⟩ (EJ r)
theorem Eb:∀{S:List (Str×List Int)}{us us':List V},Al (SN H) S us→Al (SN H) S us'→∃ws,qW H 2 ws us us'
 | _,_,_,.nil,.nil=>⟨_,.nil⟩
 | _,_,_,.cons ⟨q,pp,e,h1,h2⟩ r,.cons ⟨q',pp',e',g1,g2⟩ r'=>by obtain⟨ws,l⟩:=Eb r r';subst e;subst e';refine⟨_,.cons (.tup h1 g1 (.cons .str (.cons (.tup h2 g2 (oj _ λx hx=>?_)) .nil))) l⟩;obtain⟨z,_,rfl⟩:=bj.mp hx;exact .inl ⟨z,rfl⟩
theorem Av:∀{ns:List NT}{us:List V},gp H ns us→Al (kj H) ns us
 | _,_,.nil=>.nil
 | _,_,.cons a r=>.cons a (Av r)
theorem kL:∀(a b:List NT),fK (a++b)=fK a+fK b
 | [],b=>by simp[fK]
 | n::a,b=>by rw[aN,fK,fK,kL a b];lia
theorem qD:∀(a:List NT),fK a.reverse=fK a
 | []=>rfl
 | n::a=>by rw[ay,kL,qD a,fK,fK,fK];lia
def tZ:Sp:=λvs H Q _=>∃(w:V)(n:NT),vs=[w]∧kj H n w∧gf n≤100000∧∀(l:Addr)(us:List V)(H':Hp),dq H H'→H' l=some (.lst us)→Al (SN H') (lW n) us→Q (.ref l) H'
structure Mt(H₀ H:Hp)(n:NT)(rl tl:Addr)(rs us:List V)(S:List (Str×List Int))(ns:List NT):Prop where
 same:dq H₀ H
 r_:H rl=some (.lst rs)
 t_:H tl=some (.lst us)
 nt:H₀ tl=none
 ne:rl≠tl
 al:Al (SN H₀) S rs
 an:Al (kj H₀) ns us
 eq:S++mC ns.reverse=lW n
 sz:S.length+fK ns=gf n
def Mu(H₀:Hp)(n:NT)(w:V)(rl:Addr)(m:Nat)(σ:St)(H:Hp):Prop:=∃tl rs us S ns j3,σ=[some w,some (.ref rl),some (.ref tl),j3]∧Mt H₀ H n rl tl rs us S ns∧m=fK ns
def CU(K:aA):TS:=(de (eG (lz K "list" mF (dN 2)) (dX 3)) (de (fQ (kB K "list" eh (dN 1) (dM (eA (eE K) (dN 3) (tC (.int 2))) dW))) (eG (eA mG (dN 2) (zp K (eA (eE K) (dN 3) (tC (.int 3))))) (dX 2))))
def IV(K:aA):TS:=(de (eG (fX dW) (dX 1)) (de (eG (fX (dM (dN 0) dW)) (dX 2)) (de (hX (eI (eA (kW K) (dN 2) (fX dW))) (CU K)) (fI (dN 1)))))
theorem LJ(h:tZ vs H Q E):IV K (gi Q) (start ["_law_tree","_law_row","_law_todo","_law_node"] vs) H:=by
 obtain⟨w,n,rfl,na,hz,k⟩:=h;refine⟨fT,eu λrl H1 hrl s1 g1=>?_⟩;refine⟨fT,eu λtl H2 htl s2 g2=>?_⟩;refine⟨Mu H n w rl,⟨_,tl,[],[w],[],[n],_,rfl,⟨s1.trans s2,s2 _ _ g1,g2,s1.free htl,dZ g1 htl,.nil,.one na,by simp[mC],by simp[fK]⟩,rfl⟩,?_⟩;clear s1 g1 s2 g2 htl tl;rintro m σ H3 ⟨tl,rs,us,S,ns,j3,rfl,A,rfl⟩;refine⟨fT,eu λe H4 he s4 g4=>?_⟩;have A4:Mt H H4 n rl tl rs us S ns:=⟨A.same.trans s4,s4 _ _ A.r_,s4 _ _ A.t_,A.nt,A.ne,A.al,A.an,A.eq,A.sz⟩;clear A s4 he;refine⟨tl,e,us,rfl,rfl,eK.of A4.t_,eK.of g4,?_⟩;by_cases hv:us=[]
 ·subst hv;cases A4.an;have eq:=A4.eq;rw[List.reverse_nil,mC,aZ]at eq;subst eq;exact⟨_,rfl,eM rfl (k _ _ _ A4.same A4.r_ (A4.al.mono λ_ _=>SN.mono (dY A4.same)))⟩
 ·obtain⟨us,u,rfl⟩:=gD hv;obtain⟨ns,nd,rfl,an,nu⟩:=A4.an.snoc;refine⟨_,rfl,fi (by simp) ?_⟩;refine⟨λσ' H'=>∃m',m'<fK (ns++[nd])∧Mu H n w rl m' σ' H',λ_ _ h=>h,?_⟩;refine⟨.inl ⟨rfl,_,eK.of A4.t_⟩,tl,_,_,rfl,rfl,A4.t_,jC,?_⟩;rw[iP];have s5:dq H (upd H4 tl (.lst us)):=eD A4.same A4.nt;have r5:(upd H4 tl (.lst us)) rl=some (.lst rs):=by rw[db A4.ne];exact A4.r_
  have t5:(upd H4 tl (.lst us)) tl=some (.lst us):=dO;generalize upd H4 tl (.lst us)=H5 at s5 r5 t5⊢;cases nu with
  | @mk kk xx src path kids p sp pp kl kus h1 h2 h3 h4 h5=>
  have hal:=A4.al.length;have hsz:=A4.sz;have heq:=A4.eq;have hlk:=kK kids;have hkl:=(Av h5).length;have hln:=kK ns;have hul:=an.length;rw[kL,fK,fK,gf]at hsz;refine⟨.inl ⟨rfl,_,eK.of r5⟩,eC.of (s5 _ _ h1),dU (j:=2) rfl,rl,rs,_,rfl,rfl,r5,by rw[sizeLine_eq];lia,?_⟩;have s6:dq H (upd H5 rl (.lst (rs++[.ref sp]))):=eD s5 hrl;have t6:(upd H5 rl (.lst (rs++[.ref sp]))) tl=some (.lst us):=by rw[db A4.ne.symm];exact t5
  have r6:(upd H5 rl (.lst (rs++[.ref sp]))) rl=some (.lst (rs++[.ref sp])):=dO;generalize upd H5 rl (.lst (rs++[.ref sp]))=H6 at s6 t6 r6⊢;refine⟨eC.of (s6 _ _ h1),dU (j:=3) rfl,kl,_,rfl,eK.of (s6 _ _ h4),eu λq H7 hq s7 g7=>?_⟩;refine⟨tl,q,us,kus.reverse,rfl,rfl,s7 _ _ t6,g7,by rw[sizeLine_eq,bX];lia,λz hz'=>?_⟩;obtain⟨H8,s8,g8,e8⟩:=nw (o:=.lst (us++kus.reverse)) hz';rw[e8];have s68:=s7.trans s8;refine⟨fK (ns++kids.reverse),?_,z,rs++[.ref sp],us++kus.reverse,S++[(src,path)],ns++kids.reverse,_,rfl,⟨s6.trans s68,s68 _ _ r6,g8,(s6.trans s7).free hz',dZ (s7 _ _ r6) hz',A4.al.append (.one ⟨sp,pp,rfl,h2,h3⟩),an.append (Av h5).reverse,?_,?_⟩,rfl⟩
  ·rw[kL,kL,qD,fK,fK,gf];lia
  ·rw[←heq,cI,cI,cH,oF,oF,aT];simp[mC,lW]
  ·rw[kL,qD,aD,bB];lia
def zf(K:aA)(a_Opening a_FreshWords:Addr):TS:=(eG (eV (nC K) [] E0 (dM (nA (ja K) (dN 0) (gH (tC (.int 9))) (gH (tC (.int 12)))) dW)) (dX 3))
def ze(K:aA)(a_Opening a_FreshWords:Addr):TS:=(fW (eI (eA oQ (eA (eE K) (eV mE [] E0 (dM (dN 2) (dM (dN 3) (dM (dN 1) dW)))) (tC (.int 1))) (dN 1))) (zf K a_Opening a_FreshWords) fN)
def zd(K:aA)(a_Opening a_FreshWords:Addr):TS:=(fI (tC (.bl true)))
def tP(K:aA)(a_Opening a_FreshWords:Addr):TS:=(fW (eI (eA oQ (dN 5) (dN 1))) (zd K a_Opening a_FreshWords) fN)
def zc(K:aA)(a_Opening a_FreshWords:Addr):TS:=(fI (tC (.bl false)))
def zZ(K:aA)(a_Opening a_FreshWords:Addr):TS:=(fW (tG (ko (tB (eV tX [] E0 (dM (dN 6) (dM (dN 2) dW))))) (tG (ko (tB (eV pQ [] E0 (dM (dN 7) dW)))) (eI (eA qk (eA (eE K) (dN 7) (tC (.int 3))) (dN 5))))) (zc K a_Opening a_FreshWords) fN)
def tO(K:aA)(a_Opening a_FreshWords:Addr):TS:=(de (eG (eV (pO a_Opening a_FreshWords) [] E0 (dM (dN 6) (dM (dN 3) (dM (dN 1) dW)))) (dX 7)) (de (zZ K a_Opening a_FreshWords) (fI (zv (eV pN [] E0 (dM (eA (eE K) (dN 7) (tC (.int 1))) (dM (dN 4) dW))) (eA EU (eA (eE K) (dN 7) (tC (.int 2))) (eV tZ [] E0 (dM (dN 4) dW)))))))
def pE(K:aA)(a_Opening a_FreshWords:Addr):TS:=(de (eG (Ig (i7 K (dN 2)) (fP (dM (eA (eE K) (dN 0) (tC (.int 0))) (dM (gm (sg K) (dM (eA (eE K) (dN 0) (tC (.int 1))) dW)) (dM (eA (eE K) (dN 0) (tC (.int 2))) dW)))) []) (dX 6)) (tO K a_Opening a_FreshWords))
def Fe(K:aA)(a_Opening a_FreshWords:Addr):TS:=(de (eG (eV (nB K) [] E0 (dM (dN 0) (dM (tC (.int 8)) (dM (tC (.int 30)) dW)))) (dX 1)) (de (eG (eV (pS K) [] E0 (dM (nA (ja K) (dN 0) (gH (tC (.int 1))) (gH (tC (.int 9)))) (dM (tC (.bl false)) dW))) (dX 2)) (de (eG (eV (nC K) [] E0 (dM (nA (ja K) (dN 0) (gH (tC (.int 9))) (gH (eA oI (tC (.int 9)) (eV (nB K) [] E0 (dM (dN 0) (dM (tC (.int 9)) (dM (tC (.int 16)) dW))))))) dW)) (dX 3)) (de (ze K a_Opening a_FreshWords) (de (eG (eV mE [] E0 (dM (dN 2) (dM (dN 3) (dM (dN 1) dW)))) (lY K 2 (gF (dX 4) (gF (dX 5) lZ)))) (de (tP K a_Opening a_FreshWords) (pE K a_Opening a_FreshWords)))))))
theorem tz(hb:H bl=some (.lst [u0,u1,u2]))(B:rH H u0 u1 u2 t0 t1 t2)(bok:xP t0 t1 t2)(dt:gG H t v)(wt:WT SF t)(hz:t.size≤40)(ly:Ly t0 t1 t2 t k n c)(na:kj H n w)(hk:k≤8)(hend:fst n=none)(hQ:∀H',Q (.bl true) H'):
  pE K C D (gi Q) [some (.ref a),some (.int 8),some (.ref bl),some v,some w,some (.int (k:Int)),j6,j7] H:=by
 have w1:=EN bok.w1;have w2:WT SF t1:=gO (λw k=>EM) bok.w2;have w3:WT SF t2:=gO (λw k=>EK) bok.w3;have z1:=bok.z1;have z2:=bok.z2.1;have z3:=bok.z3.1;have hsz:∀y∈[gT t,gT t0,gT t1,gT t2],y.size≤5000∧∀x,vp x y→IK x:=λy hy=>by
  simp only[aB,aF,or_false]at hy;rcases hy with rfl|rfl|rfl|rfl
  ·exact oo wt hz (by lia)
  ·exact oo w1 z1 (by lia)
  ·exact oo w2 z2 (by lia)
  ·exact oo w3 z3 (by lia)
 have ask:xQ t0 t1 t2 t 8:=Bg bok wt hz (Hi ly (m:=10) (by lia) λ_=>hend);have hnz:=(uK bok wt ly).2;have hkz:k*(20*t.size)≤8*(20*t.size):=bY _ hk;refine Gj (K:=K) (E:=E0) (Q:=λx H1=>tO K C D (gi Q) [some (.ref a),some (.int 8),some (.ref bl),some v,some w,some (.int (k:Int)),some x,j7] H1) ⟨bl,u0,u1,u2,_,_,_,rfl,hb,⟨B.a,B.b,B.c⟩,λl' w1 w2 w3 H1 s1 n1 h1 B1=>?_⟩;refine⟨l',w1,w2,w3,v,t,t0,t1,t2,8,rfl,h1,B1,jL (dt.mono (dY s1)),hsz,ask,λp ws st H2 s2 hp hws rch hkF=>?_,λp l x us ws st W tt H2 s2 hp en dx hl ds=>?_⟩
 ·have hlt:=Do (F:=8) ly (λ_=>hend) hws rch hkF;lia
 ·obtain⟨hkF,e,g,hsr⟩:=D1 ly (λ_=>hend) en;have hs:=Jr g;have s12:=s1.trans s2;obtain⟨d5,w5,lk,hw5⟩:=Jl (s2 _ _ h1) (s12 _ _ hb) (rH.mono s2 ⟨B1.a,B1.b,B1.c⟩) (B.mono s12) bok;refine⟨.ref l',.ref bl,d5,w5,rfl,lk,by lia,λH3 s3=>⟨_,rfl,fF ?_⟩⟩;refine⟨p,l,x,tt,st.k,us,rfl,s3 _ _ hp,dx.mono (dY s3),by lia,s3 _ _ hl,λv hv=>?_,λH4 s4=>⟨_,rfl,fF ?_⟩⟩
  ·obtain⟨sr,hsr⟩:=Bi ds hv;obtain⟨q,r,ww,ks,e1,e2,e3⟩:=Gb hsr;exact⟨q,r,ww,ks,e1,s3 _ _ e2,s3 _ _ e3⟩
  ·have s34:=s3.trans s4;have hp4:=s34 _ _ hp;refine⟨eC.of hp4,dU (j:=3) rfl,rfl,_,rfl,eM (by rw[e];simp) ?_⟩;refine⟨eC.of hp4,dU (j:=1) rfl,tt,x,w,n,rfl,dx.mono (dY s34),na.same (s12.trans s34),Jh ly,by lia,λb H5 s5 hb5=>?_⟩;have:b=true:=hb5.mpr (Dv g NG);subst this;have s35:=s34.trans s5;refine⟨true,rfl,mf ?_⟩;refine⟨eC.of (s5 _ _ hp4),dU (j:=2) rfl,w,n,rfl,na.same (s12.trans s35),by lia,λol ous H6 s6 ho ao=>?_⟩;have ds6:=EJ (ds.mono λa v (z:kA H2 a v)=>by obtain⟨q,pp,e1,e2,e3⟩:=z;exact⟨q,pp,e1,(s35.trans s6) _ _ e2,(s35.trans s6) _ _ e3⟩:Al (kA H6) _ us);rw[←hsr]at ds6;obtain⟨ws6,l6⟩:=Eb ds6 ao;exact⟨l,ol,_,_,us,ous,rfl,rfl,(s35.trans s6) _ _ hl,ho,l6,by lia,hQ _⟩
theorem oH(hb:H bl=some (.lst [u0,u1,u2]))(B:rH H u0 u1 u2 t0 t1 t2)(bok:xP t0 t1 t2)(dt:gG H t v)(wt:WT SF t)(hz:t.size≤40)(hQ:∀H',Q (.bl true) H'):
  (de (eG (eV mE [] E0 (dM (dN 2) (dM (dN 3) (dM (dN 1) dW)))) (lY K 2 (gF (dX 4) (gF (dX 5) lZ)))) (de (tP K C D) (pE K C D))) (gi Q) [some (.ref a),some (.int 8),some (.ref bl),some v,none,none,none,none] H:=by
 refine⟨bl,u0,u1,u2,v,t,t0,t1,t2,8,rfl,hb,B,dt,bok,wt,by lia,by lia,λr w n c k H3 s3 ly na hr hk1 hk2=>?_⟩;refine⟨r,_,rfl,eC.of hr,rfl,_,_,rfl,_,_,rfl,rfl,?_⟩;by_cases h8:k≤8
 ·refine⟨_,rfl,eM (decide_eq_false (by lia)) ?_⟩;exact tz (s3 _ _ hb) (B.mono s3) bok (dt.mono (dY s3)) wt hz ly na h8 (hk2 h8) hQ
 ·exact⟨_,rfl,fi (decide_eq_true (by lia)) (hQ _)⟩
theorem KO(h:S1.MD K vs H Q E):Fe K C D (gi Q) (start ["_law_script","_law_top","_law_book","_law_piece","_law_tree","_law_many","_law_handed","_law_found"] vs) H:=by
 obtain⟨a,ns,rfl,ha,hl,hQ⟩:=h;have hl2:(ns.map V.int).length≤63:=by rw[aa];exact hl
 refine⟨a,_,8,30,rfl,ha,hl2,?_⟩;obtain⟨ms,em,hm1,hm2⟩:=lV ns (some 1) (some 9);refine⟨_,rfl,_,rfl,a,_,rfl,ha,λq hq=>?_⟩;refine⟨q,_,ms,rfl,eK.of (by rw[dO,em]),by lia,λbl bus t0 t1 t2 H1 s1 nbl hbl bkl w0 w1 w2 z0 z1 z2 y1 y2=>?_⟩;have sA:=(dR (o:=.lst (ig (ns.map V.int) (some 1) (some 9))) hq).trans s1;clear s1 hq;obtain⟨ms2,em2,hm3,hm4⟩:=lV ns (some 9) (some (9+9));refine⟨_,rfl,a,_,9,16,rfl,sA.seq ha,hl2,_,rfl,a,_,rfl,sA.seq ha,λq2 hq2=>?_⟩;refine⟨q2,ms2,rfl,eK.of (by rw[dO,em2]),by lia,λt v H2 s2 dt wt hsz hnm=>?_⟩;have hm7:ms2.length≤9:=by have ea:HT.kH ns.length ns.length (some (9+9))=min 18 ns.length:=lA ns.length ns.length 18;have eb:HT.kH ns.length 0 (some 9)=min 9 ns.length:=lA ns.length 0 9;rw[ea,eb]at hm3;lia
 have sB:dq H1 H2:=(dR (o:=.lst (ig (ns.map V.int) (some 9) (some (9+9)))) hq2).trans s2;clear s2 hq2;have wt:WT SF t:=gO (λw k=>wV) wt;have bok:xP t0 t1 t2:=⟨w0,w1,w2,z0,⟨z1,y1⟩,z2,y2⟩;cases bkl with|cons B0 bkl=>cases bkl with|cons B1 bkl=>cases bkl with|cons B2 bkl=>cases bkl with|nil=>
 rename_i u0 u1 u2;have BT2:rH H2 u0 u1 u2 t0 t1 t2:=⟨(Bc B0).mono sB,(Bc B1).mono sB,(Bc B2).mono sB⟩;have hb2:=sB _ _ hbl;refine⟨bl,u0,u1,u2,v,t,t0,t1,t2,8,rfl,hb2,BT2,dt,bok,wt,by lia,by lia,λr w n c k H3 s3 ly na hr hk1 hk2=>?_⟩;refine⟨eC.of hr,dU (j:=1) rfl,?_⟩;by_cases h8:k≤8
 ·refine⟨_,rfl,eM (decide_eq_false (by lia)) ?_⟩;exact oH (s3 _ _ hb2) (BT2.mono s3) bok (dt.mono (dY s3)) wt (by lia) hQ
 ·refine⟨_,rfl,fi (decide_eq_true (by lia)) ?_⟩;have s03:=(sA.trans sB).trans s3;obtain⟨ms3,em3,hm5,hm6⟩:=lV ns (some 9) (some 12);have hm8:ms3.length≤3:=by have ea:HT.kH ns.length ns.length (some 12)=min 12 ns.length:=lA ns.length ns.length 12;have eb:HT.kH ns.length 0 (some 9)=min 9 ns.length:=lA ns.length 0 9;rw[ea,eb]at hm5;lia
  refine⟨_,rfl,_,rfl,a,_,rfl,s03.seq ha,λq3 hq3=>?_⟩;refine⟨q3,ms3,rfl,eK.of (by rw[dO,em3]),by lia,λt' v' H4 s4 dt' wt' hsz' hnm'=>?_⟩;have sC:dq H3 H4:=(dR (o:=.lst (ig (ns.map V.int) (some 9) (some 12))) hq3).trans s4;exact oH (sC _ _ (s3 _ _ hb2)) (BT2.mono (s3.trans sC)) bok dt' (gO (λw k=>wV) wt') (by lia) hQ
end S8
namespace K5
open PySem L2 SW S9 S8
def gL(i:Nat):Stmt:=PySem.Challenge.pw_stampword_k05_whole_where_pieces_come_fr.main.body.getD i (.Pass ⟨0,0,0,0⟩)
structure M5 where
 (f0 f1 f2 f3 f4 f5 f6 f7 f8 f9 f10 f11 f12 f13 f14 f15 f16 f17 f18 f19 f20 f21 f22 f23 f24 f25 f26 f27 f28 f29 f30 f31 f32 f33 f34 f35 f36 f37 f38 f39 f40 f41 f42 f43 f44 o0 o1:Addr)
structure Mm(K:aA)(mg:Str→Option Value)(a:M5):Prop where
 n0:mg "abs"=none
 n1:mg "bool"=none
 n2:mg "isinstance"=none
 n3:mg "int"=none
 n4:mg "list"=none
 n5:mg "len"=none
 n6:mg "min"=none
 n7:mg "tuple"=none
 n8:mg "str"=none
 n9:mg "range"=none
 n10:mg "reversed"=none
 n11:mg "dict"=none
 n12:mg "sorted"=none
 n13:mg "enumerate"=none
 n14:mg "zip"=none
 g0:mg "_law_any"=some (.ref a.f0)
 g1:mg "_law_any_word"=some (.ref a.f1)
 g2:mg "_law_whole"=some (.ref a.f2)
 g3:mg "_law_inside"=some (.ref a.f3)
 g4:mg "_law_room"=some (.ref a.f4)
 g5:mg "_law_drawn_piece"=some (.ref a.f5)
 g6:mg "_law_drawn_main"=some (.ref a.f6)
 g7:mg "_law_is_piece"=some (.ref a.f7)
 g8:mg "_law_drawn_book"=some (.ref a.f8)
 g9:mg "_law_is_done"=some (.ref a.f9)
 g10:mg "_law_so"=some (.ref a.f10)
 g11:mg "_law_origins"=some (.ref a.f11)
 g12:mg "_law_noted"=some (.ref a.f12)
 g13:mg "_law_goes_with"=some (.ref a.f13)
 g14:mg "_law_first_stamp"=some (.ref a.f14)
 g15:mg "_law_placed"=some (.ref a.f15)
 g16:mg "_law_laid"=some (.ref a.f16)
 g17:mg "parts"=some (.ref a.f17)
 g18:mg "every_piece"=some (.ref a.f18)
 g19:mg "with_word"=some (.ref a.f19)
 g20:mg "pieces_with_lets"=some (.ref a.f20)
 g21:mg "outside_names"=some (.ref a.f21)
 g22:mg "stamps_by_word"=some (.ref a.f22)
 g23:mg "check_use"=some (.ref a.f23)
 g24:mg "check_piece"=some (.ref a.f24)
 g25:mg "check_stamps"=some (.ref a.f25)
 g26:mg "numbered_word"=some (.ref a.f26)
 g29:mg "all_outside_names"=some (.ref a.f29)
 g30:mg "spots_within"=some (.ref a.f30)
 g31:mg "has_stamps_to_open"=some (.ref a.f31)
 g32:mg "row_at"=some (.ref a.f32)
 g41:mg "piece_of"=some (.ref a.f41)
 g42:mg "sources_of"=some (.ref a.f42)
 g43:mg "write_out"=some (.ref a.f43)
 g44:mg "expanded"=some (.ref a.f44)
 u0:∃t,mg "LETTERS"=some (.str "abcdefghijklmnopqrstuvwxyz" t)
 c0:mg "Opening"=some (.ref a.o0)
 l0:vt K a.o0
 c1:mg "FreshWords"=some (.ref a.o1)
 l1:vt K a.o1
seal L2.PE L2.PT L2.PW L2.PA L2.PS L2.sy L2.PC L2.PG L2.Ka L2.PI L2.PO L2.KZ
section
variable {P:Program}{w:World}{K:aA}{mg:Str→Option Value}{base:Heap}{a:M5}{f:Addr}(T:Mm K mg a)(ro:RO K a.o0)(rw:RW K a.o1)
include T ro rw
theorem HG(F:gS K "_law_any" "_law_any" (gL 43) f):Ds P w K mg base 1 f ["_law_cell"] tu:=
 jf (N:=["_law_cell","_law_size"]) F ⟨rfl,rfl,rfl,by decide+kernel,rfl,by decide+kernel,by decide+kernel⟩ (λ_ _ _ _ _ _ us hl=>match us,hl with|[_],_=>rfl) (λvs H Q E h=>by obtain⟨_,rfl,_⟩:=h;rfl) λcdv A outer s H vs Q E nd hr h=>⟨SW.Ic K,wq 0 rfl λp0=>wq 1 rfl λp1=>wh 1 rfl nd λl1 g1=>(dP (sN 1 nd l1 (fA ic (fA lS p0 dQ) (fA Ap dQ dQ))) (dS (eJ (fA Gw p1 (xL (eT (fZ dQ (i0 iE dQ))) (fA ic p0 dQ)))))),SW.LR h⟩
theorem Ja(F:gS K "_law_any_word" "_law_any_word" (gL 42) f):Ds P w K mg base 1 f ["_law_cell"] pK:=
 jf (N:=["_law_cell","_law_left","_law_word"]) F ⟨rfl,rfl,rfl,by decide+kernel,rfl,by decide+kernel,by decide+kernel⟩ (λ_ _ _ _ _ _ us hl=>match us,hl with|[_],_=>rfl) (λvs H Q E h=>by obtain⟨_,rfl,_⟩:=h;rfl) λcdv A outer s H vs Q E nd hr h=>⟨SW.LA K,wq 0 rfl λp0=>wq 1 rfl λp1=>wq 2 rfl λp2=>wh 1 rfl nd λl1 g1=>wh 2 rfl nd λl2 g2=>(dP (sN 1 nd l1 (fA ic (dh BY (by rfl) T.n0 Hq (fO p0)) (fA Ap dQ dQ))) (dP (sN 2 nd l2 eB) (dP (gN PassesOwn.never (qt Iv p1 dQ) (dP (sN 2 nd l2 (fA mJ (qB sK eB (fA ic p1 dQ) (λ_ _=>rfl)) p2)) (dS (sN 1 nd l1 (fA iu (fA lS p1 dQ) dQ))))) (dS (eJ p2))))),SW.Me h⟩
theorem JA(F:gS K "_law_whole" "_law_whole" (gL 29) f):Ds P w K mg base 1 f ["_law_found"] jp:=
 jf (N:=["_law_found"]) F ⟨rfl,rfl,rfl,by decide+kernel,rfl,by decide+kernel,by decide+kernel⟩ (λ_ _ _ _ _ _ us hl=>match us,hl with|[_],_=>rfl) (λvs H Q E h=>by obtain⟨_,rfl,_⟩:=h;rfl) λcdv A outer s H vs Q E nd hr h=>⟨S1.Kh K,wq 0 rfl λp0=>(dS (eJ (Ak (dh ff (by rfl) T.n2 eO (fZ p0 (fq (v:=.ty "int") (by rfl) T.n3 si rfl))) (Aj (Gr (dh ff (by rfl) T.n2 eO (fZ p0 (fq (v:=.ty "bool") (by rfl) T.n1 ox rfl)))))))),S1.MH h⟩
theorem G9(F:gS K "_law_inside" "_law_inside" (gL 31) f):Ds P w K mg base 1 f ["_law_piece"] gt:=
 jf (N:=["_law_piece"]) F ⟨rfl,rfl,rfl,by decide+kernel,rfl,by decide+kernel,by decide+kernel⟩ (λ_ _ _ _ _ _ us hl=>match us,hl with|[_],_=>rfl) (λvs H Q E h=>by obtain⟨_,_,rfl,_⟩:=h;rfl) λcdv A outer s H vs Q E nd hr h=>⟨SW.IW K,wq 0 rfl λp0=>(dP (eZ (mX kJ (xT p0 dQ) (eT (fZ eB eB)) (by with_unfolding_all rfl)) (dS (eJ (eT fb))) eN) (dS (eJ (iD mq (by rfl) T.n4 kf (fO (fj rW p0 (fg (fA lF dQ (iD rA (by rfl) T.n3 si (fO (wa kJ (xT p0 dQ) (eT (fZ eB eB)) (by with_unfolding_all rfl)))))) iA)))))),SW.LK h⟩
theorem Dj(F:gS K "_law_room" "_law_room" (gL 44) f):Ds P w K mg base 1 f ["_law_script","_law_most","_law_bound"] (nB K):=
 jf (N:=["_law_script","_law_most","_law_bound"]) F ⟨rfl,rfl,rfl,by decide+kernel,rfl,by decide+kernel,by decide+kernel⟩ (λ_ _ _ _ _ _ us hl=>match us,hl with|[_,_,_],_=>rfl) (λvs H Q E h=>by obtain⟨_,_,_,_,rfl,_⟩:=h;rfl) λcdv A outer s H vs Q E nd hr h=>⟨SW.FK K,wq 0 rfl λp0=>wq 1 rfl λp1=>wq 2 rfl λp2=>(dP (eZ (qt lE (dh dj (by rfl) T.n5 fD (fO p0)) dQ) (dS (eJ p2)) eN) (dS (eJ p1))),SW.KM h⟩
theorem JW(F:gS K "_law_drawn_piece" "_law_drawn_piece" (gL 30) f)(d1:Ds P w K mg base 1 a.f1 ["_law_cell"] pK)(d0:Ds P w K mg base 1 a.f0 ["_law_cell"] tu):Ds P w K mg base 2 f ["_law_cells","_law_stamps"] (gn K):=
 jf (N:=["_law_cells","_law_stamps","_law_pile","_law_cell","_law_rest","_law_way","_law_word","_law_inner","_law_look","_law_name","_law_many","_law_made","_law_last"]) F ⟨rfl,rfl,rfl,by decide+kernel,rfl,by decide+kernel,by decide+kernel⟩ (λ_ _ _ _ _ _ us hl=>match us,hl with|[_,_],_=>rfl) (λvs H Q E h=>by obtain⟨_,_,_,_,_,_,rfl,_⟩:=h;rfl) λcdv A outer s H vs Q E nd hr h=>⟨SW.K4 K,wq 0 rfl λp0=>wq 1 rfl λp1=>wq 2 rfl λp2=>wq 3 rfl λp3=>wq 4 rfl λp4=>wq 5 rfl λp5=>wq 6 rfl λp6=>wq 7 rfl λp7=>wq 8 rfl λp8=>wq 9 rfl λp9=>wq 10 rfl λp10=>wq 11 rfl λp11=>wq 12 rfl λp12=>wh 2 rfl nd λl2 g2=>wh 3 rfl nd λl3 g3=>wh 4 rfl nd λl4 g4=>wh 5 rfl nd λl5 g5=>wh 6 rfl nd λl6 g6=>wh 7 rfl nd λl7 g7=>wh 8 rfl nd λl8 g8=>wh 9 rfl nd λl9 g9=>wh 10 rfl nd λl10 g10=>wh 11 rfl nd λl11 g11=>wh 12 rfl nd λl12 g12=>(dP (sN 2 nd l2 (eT (fO (eQ (fZ eB eB))))) (dP (gQ PassesOwn.never rfl (iB p0) g3 (dP (sN 4 nd l4 (fA lS p3 dQ)) (dP (sN 5 nd l5 (fA ic p3 dQ)) (dP (sN 6 nd l6 (xL (eT (dz eB (dz eB (fZ eB eB)))) (fA ic p4 dQ))) (dP (eZ (qt fm (fA ic p4 dQ) dQ) (dS (sN 6 nd l6 (fA mJ (pc d1 hr T.g1 (fO (fA lS p4 dQ))) eB))) eN) (dP (sN 7 nd l7 (fj gr p2 (fg (i0 iE dQ)) iA)) (dS (eZ (jK (qt fm p5 dQ) (jc (iR (qt fm (dh dj (by rfl) T.n5 fD (fO p7)) dQ) (hZ (Ab qm qm dQ p5 dQ))).pt)).pt (dS (eP (gE aI aR aS eX p2 (fO (eQ (fZ eB (xL (eT (fZ (fA iu (fA ic p4 dQ) dQ) (pc d0 hr T.g0 (fO p4)))) (iD rA (by rfl) T.n3 si (fO (qe fm (fA ic p4 dQ) dQ)))))))))) (dS (eZ (qt qm p5 dQ) (dS (eP (gE aI aR aS eX p2 (fO (eQ (fZ eB p6)))))) (dS (eZ (iR (qt fm p5 dQ) (hZ (qt fm (dh dj (by rfl) T.n5 fD (fO p7)) dQ))).pt (dS (sN 2 nd l2 (fA jv (fj gr p2 iA (fg (i0 iE dQ))) (eT (fO (eQ (dz eB (dz (xL p7 dQ) (fZ (xL p7 dQ) (xL p7 dQ)))))))))) (dS (eZ (qt qm p5 dQ) (dS (sN 2 nd l2 (fA jv (fj gr p2 iA (fg (i0 iE dQ))) (eT (fO (eQ (dz (xL (eT (fZ eB eB)) (fA ic p5 dQ)) (fZ (xL p7 (i0 iE dQ)) (xL p7 (i0 iE dQ)))))))))) (dS (eZ (qt fm p5 dQ) (dP (sN 8 nd l8 (xL p7 (i0 iE dQ))) (dP (eZ (mX kJ (xT p8 dQ) (eT (fZ eB eB)) (by with_unfolding_all rfl)) (dS (sN 8 nd l8 (xT p8 dQ))) eN) (dP (eZ (iR (qt fm (xT p8 dQ) eB) (hZ (qt lE (fA ic p4 dQ) dQ))).pt (dS (sN 6 nd l6 (xT p8 dQ))) eN) (dS (sN 2 nd l2 (fA jv (fj gr p2 iA (fg (i0 iE dQ))) (eT (fO (eQ (dz eB (dz p6 (fZ (xL p7 (i0 iE dQ)) (xL p7 (i0 iE dQ)))))))))))))) (dS (eZ (qt (je hr.units0) p1 (eT fb)) (dP (ju (xL p1 (fA ic p4 (dh dj (by rfl) T.n5 fD (fO p1)))) (jd rfl (fJ g9 (fJ g10 iq)))) (dP (sN 10 nd l10 (dh (yc rfl) (by rfl) T.n6 Ho (fZ p10 (dh dj (by rfl) T.n5 fD (fO p2))))) (dS (eZ (qt fm p10 (xT (xL p1 (fA ic p4 (dh dj (by rfl) T.n5 fD (fO p1)))) dQ)) (dP (sN 11 nd l11 (iD lj (by rfl) T.n7 ix (fO (fA jv (eT (fZ eB p9)) (fj gr p2 (fg (fA iu (dh dj (by rfl) T.n5 fD (fO p2)) p10)) iA))))) (dS (sN 2 nd l2 (fA jv (fj gr p2 iA (fg (fA iu (dh dj (by rfl) T.n5 fD (fO p2)) p10))) (eT (fO p11)))))) eN)))) eN)))))))))))))))))) (dP (gN PassesOwn.never (qt lE (dh dj (by rfl) T.n5 fD (fO p2)) dQ) (dP (sN 12 nd l12 (ir aI av aw iw p2)) (dS (eP (gE aI aR aS eX p2 (fO (eQ (dz eB (fZ (ir aI av aw iw p2) p12))))))))) (dS (eJ (xL p2 dQ)))))),S9.LM h⟩
theorem Dk(F:gS K "_law_drawn_main" "_law_drawn_main" (gL 33) f)(d5:Ds P w K mg base 2 a.f5 ["_law_cells","_law_stamps"] (oZ K ug)):Ds P w K mg base 3 f ["_law_cells"] (nC K):=
 jf (N:=["_law_cells"]) F ⟨rfl,rfl,rfl,by decide+kernel,rfl,by decide+kernel,by decide+kernel⟩ (λ_ _ _ _ _ _ us hl=>match us,hl with|[_],_=>rfl) (λvs H Q E h=>by obtain⟨_,_,rfl,_⟩:=h;rfl) λcdv A outer s H vs Q E nd hr h=>⟨SW.Fb K ug,wq 0 rfl λp0=>(dS (eJ (pc d5 hr T.g5 (fZ p0 (eT (dz (eQ (fZ eB dQ)) (dz (eQ (fZ eB dQ)) (fZ (eQ (fZ eB dQ)) (eQ (fZ eB dQ)))))))))),SW.KN h⟩
theorem JR(F:gS K "_law_is_piece" "_law_is_piece" (gL 38) f)(d2:Ds P w K mg base 1 a.f2 ["_law_found"] jp)(d3:Ds P w K mg base 1 a.f3 ["_law_piece"] gt):Ds P w K mg base 2 f ["_law_found"] kE:=
 jf (N:=["_law_found","_law_todo","_law_part","_law_sizes"]) F ⟨rfl,rfl,rfl,by decide+kernel,rfl,by decide+kernel,by decide+kernel⟩ (λ_ _ _ _ _ _ us hl=>match us,hl with|[_],_=>rfl) (λvs H Q E h=>by obtain⟨_,_,rfl,_⟩:=h;rfl) λcdv A outer s H vs Q E nd hr h=>⟨S10.Kz K,wq 0 rfl λp0=>wq 1 rfl λp1=>wq 2 rfl λp2=>wq 3 rfl λp3=>wh 1 rfl nd λl1 g1=>wh 2 rfl nd λl2 g2=>wh 3 rfl nd λl3 g3=>(dP (sN 1 nd l1 (eT (fO p0))) (dP (gN PassesOwn.never (qt (je hr.units0) p1 (eT fb)) (dP (sN 2 nd l2 (ir aI av aw iw p1)) (dP (eZ (jK (iJ (gW (dh ff (by rfl) T.n2 eO (fZ p2 (fq (v:=.ty "tuple") (by rfl) T.n7 ix rfl))))) (jK (qt qm (dh dj (by rfl) T.n5 fD (fO p2)) dQ) (jc (iJ (gW (dh ff (by rfl) T.n2 eO (fZ (xT p2 dQ) (fq (v:=.ty "str") (by rfl) T.n8 nq rfl)))))))).pt (dS (eJ gJ)) eN) (dP (sN 3 nd l3 (DW (kI eB dQ (kI eB dQ (kI eB dQ (kI eB dQ (kI eB dQ (kI eB dQ DR)))))) rfl rfl (by intro z;cases z) (by decide))) (dP (eZ (iR (qt i6 (mY (hU hr) p3 (xT p2 dQ) dQ ⟨rfl,rfl,rfl,rfl⟩) (dh dj (by rfl) T.n5 fD (fO p2))) (hZ (qt i6 (xT p2 dQ) eB))).pt (dS (eJ gJ)) eN) (dP (eZ (qt fm (xT p2 dQ) eB) (dS (eZ (iJ (gW (pc d2 hr T.g2 (fO (xT p2 dQ))))) (dS (eJ gJ)) eN)) (dS (eZ (iR (mX kJ (xT p2 dQ) (eT (dz eB (fZ eB eB))) (by with_unfolding_all rfl)) (hZ (iJ (gW (dh ff (by rfl) T.n2 eO (fZ (xT p2 dQ) (fq (v:=.ty "str") (by rfl) T.n8 nq rfl))))))).pt (dS (eJ gJ)) eN))) (dS (sN 1 nd l1 (fA jv p1 (pc d3 hr T.g3 (fO p2))))))))))) (dS (eJ gJ)))),S10.MW h⟩
theorem JY(F:gS K "_law_drawn_book" "_law_drawn_book" (gL 32) f)(d5:Ds P w K mg base 2 a.f5 ["_law_cells","_law_stamps"] (gn K)):Ds P w K mg base 3 f ["_law_cells","_law_wild"] (pS K):=
 jf (N:=["_law_cells","_law_wild","_law_low","_law_book"]) F ⟨rfl,rfl,rfl,by decide+kernel,rfl,by decide+kernel,by decide+kernel⟩ (λ_ _ _ _ _ _ us hl=>match us,hl with|[_,_],_=>rfl) (λvs H Q E h=>by obtain⟨_,_,_,rfl,_⟩:=h;rfl) λcdv A outer s H vs Q E nd hr h=>⟨S9.K7 K,wq 0 rfl λp0=>wq 1 rfl λp1=>wq 2 rfl λp2=>wq 3 rfl λp3=>wh 2 rfl nd λl2 g2=>wh 3 rfl nd λl3 g3=>(dP (sN 2 nd l2 (eT (dz (eT fb) (fZ (eT (fO (eQ (fZ eB dQ)))) (eT (fZ (eQ (fZ eB dQ)) (eQ (fZ eB dQ)))))))) (dP (eZ (gW p1) (dS (ju (eT (fO (eQ (fZ eB dQ)))) (Gq p2 dQ AF))) eN) (dP (sN 3 nd l3 (eT (fO (eQ (dz eB (fZ (eT fb) (pc d5 hr T.g5 (fZ (fj gr p0 iA (fg dQ)) (xL p2 dQ))))))))) (dP (eP (gE aI aR aS eX p3 (fO (eQ (dz eB (fZ (eT (fO eB)) (pc d5 hr T.g5 (fZ (fj gr p0 (fg dQ) (fg dQ)) (xL p2 dQ))))))))) (dP (eP (gE aI aR aS eX p3 (fO (eQ (dz eB (fZ (eT (fZ eB eB)) (pc d5 hr T.g5 (fZ (fj gr p0 (fg dQ) (fg dQ)) (xL p2 dQ))))))))) (dS (eJ p3))))))),S9.Mc h⟩
theorem JX(F:gS K "_law_is_done" "_law_is_done" (gL 41) f)(d2:Ds P w K mg base 1 a.f2 ["_law_found"] jp)(d7:Ds P w K mg base 2 a.f7 ["_law_found"] kE):Ds P w K mg base 3 f ["_law_found"] pQ:=
 jf (N:=["_law_found","_law_one","_law_k"]) F ⟨rfl,rfl,rfl,by decide+kernel,rfl,by decide+kernel,by decide+kernel⟩ (λ_ _ _ _ _ _ us hl=>match us,hl with|[_],_=>rfl) (λvs H Q E h=>by obtain⟨_,_,_,_,_,_,rfl,_⟩:=h;rfl) λcdv A outer s H vs Q E nd hr h=>⟨S9.K6 K,wq 0 rfl λp0=>wq 1 rfl λp1=>wq 2 rfl λp2=>wh 1 rfl nd λl1 g1=>wh 2 rfl nd λl2 g2=>(dP (eZ (jK (iJ (gW (dh ff (by rfl) T.n2 eO (fZ p0 (fq (v:=.ty "tuple") (by rfl) T.n7 ix rfl))))) (jK (qt i6 (dh dj (by rfl) T.n5 fD (fO p0)) dQ) (jc (iJ (gW (dh ff (by rfl) T.n2 eO (fZ (xT p0 dQ) (fq (v:=.ty "str") (by rfl) T.n8 nq rfl)))))))).pt (dS (eJ gJ)) eN) (dP (eZ (jK (qt i6 (xT p0 dQ) eB) (jK (iJ (gW (pc d2 hr T.g2 (fO (xT p0 dQ))))) (jc (iJ (gW (dh ff (by rfl) T.n2 eO (fZ (xT p0 dQ) (fq (v:=.ty "list") (by rfl) T.n4 kf rfl)))))))).pt (dS (eJ gJ)) eN) (dP (gQ PassesOwn.never rfl (iB (xT p0 dQ)) g1 (dP (eZ (jK (iJ (gW (dh ff (by rfl) T.n2 eO (fZ p1 (fq (v:=.ty "tuple") (by rfl) T.n7 ix rfl))))) (jK (qt i6 (dh dj (by rfl) T.n5 fD (fO p1)) dQ) (jc (iJ (gW (dh ff (by rfl) T.n2 eO (fZ (xT p1 dQ) (fq (v:=.ty "str") (by rfl) T.n8 nq rfl)))))))).pt (dS (eJ gJ)) eN) (dP (eZ (iJ (gW (dh ff (by rfl) T.n2 eO (fZ (xT p1 dQ) (fq (v:=.ty "tuple") (by rfl) T.n7 ix rfl))))) (dS (eJ gJ)) eN) (dS (gQ PassesOwn.never rfl (Ag (xT p1 dQ)) g2 (dS (eZ (iJ (gW (pc d2 hr T.g2 (fO p2)))) (dS (eJ gJ)) eN))))))) (dS (eJ (pc d7 hr T.g7 (fO (xT p0 dQ)))))))),S9.Mb h⟩
theorem Gy(F:gS K "_law_so" "_law_so" (gL 45) f):Ds P w K mg base 1 f ["_law_found","_law_due"] tX:=
 jf (N:=["_law_found","_law_due","_law_todo","_law_one","_law_other","_law_k"]) F ⟨rfl,rfl,rfl,by decide+kernel,rfl,by decide+kernel,by decide+kernel⟩ (λ_ _ _ _ _ _ us hl=>match us,hl with|[_,_],_=>rfl) (λvs H Q E h=>by obtain⟨_,_,_,_,rfl,_⟩:=h;rfl) λcdv A outer s H vs Q E nd hr h=>⟨S8.IR K,wq 0 rfl λp0=>wq 1 rfl λp1=>wq 2 rfl λp2=>wq 3 rfl λp3=>wq 4 rfl λp4=>wq 5 rfl λp5=>wh 2 rfl nd λl2 g2=>wh 3 rfl nd λl3 g3=>wh 4 rfl nd λl4 g4=>wh 5 rfl nd λl5 g5=>(dP (sN 2 nd l2 (eT (fO (eQ (fZ p0 p1))))) (dP (gN PassesOwn.never (qt (je hr.units0) p2 (eT fb)) (dP (ju (ir aI av aw iw p2) (jd rfl (fJ g3 (fJ g4 iq)))) (dS (eZ (gW (dh yd (by rfl) T.n2 eO (fZ p4 (eQ (fZ (fq (v:=.ty "list") (by rfl) T.n4 kf rfl) (fq (v:=.ty "tuple") (by rfl) T.n7 ix rfl)))))) (dP (eZ (qt i6 (dh ff (by rfl) T.n2 eO (fZ p3 (fq (v:=.ty "list") (by rfl) T.n4 kf rfl))) (dh ff (by rfl) T.n2 eO (fZ p4 (fq (v:=.ty "list") (by rfl) T.n4 kf rfl)))) (dS (eJ gJ)) eN) (dP (eZ (qt i6 (dh ff (by rfl) T.n2 eO (fZ p3 (fq (v:=.ty "tuple") (by rfl) T.n7 ix rfl))) (dh ff (by rfl) T.n2 eO (fZ p4 (fq (v:=.ty "tuple") (by rfl) T.n7 ix rfl)))) (dS (eJ gJ)) eN) (dP (eZ (qt i6 (dh dj (by rfl) T.n5 fD (fO p3)) (dh dj (by rfl) T.n5 fD (fO p4))) (dS (eJ gJ)) eN) (dS (gQ PassesOwn.never rfl (nK (by rfl) T.n9 (fO (dh dj (by rfl) T.n5 fD (fO p4)))) g5 (dS (eP (gE aI aR aS eX p2 (fO (eQ (fZ (qB BG p3 p5 (λ_ _=>rfl)) (qB BG p4 p5 (λ_ _=>rfl))))))))))))) (dS (eZ (gW (dh ff (by rfl) T.n2 eO (fZ p4 (fq (v:=.ty "str") (by rfl) T.n8 nq rfl)))) (dS (eZ (jK (iJ (gW (dh ff (by rfl) T.n2 eO (fZ p3 (fq (v:=.ty "str") (by rfl) T.n8 nq rfl))))) (jc (qt i6 p3 p4))).pt (dS (eJ gJ)) eN)) (dS (eZ (gW (dh ff (by rfl) T.n2 eO (fZ p4 (fq (v:=.ty "bool") (by rfl) T.n1 ox rfl)))) (dS (eZ (jK (iJ (gW (dh ff (by rfl) T.n2 eO (fZ p3 (fq (v:=.ty "bool") (by rfl) T.n1 ox rfl))))) (jc (qt i6 p3 p4))).pt (dS (eJ gJ)) eN)) (dS (eZ (qt Gx p4 qA) (dS (eZ (qt wc p3 qA) (dS (eJ gJ)) eN)) (dS (eZ (jK (iJ (gW (dh ff (by rfl) T.n2 eO (fZ p3 (fq (v:=.ty "int") (by rfl) T.n3 si rfl))))) (jK (gW (dh ff (by rfl) T.n2 eO (fZ p3 (fq (v:=.ty "bool") (by rfl) T.n1 ox rfl)))) (jc (qt i6 p3 p4)))).pt (dS (eJ gJ)) eN)))))))))))) (dS (eJ gJ)))),S8.LF h⟩
theorem G8(F:gS K "_law_origins" "_law_origins" (gL 40) f):Ds P w K mg base 1 f ["_law_tree"] tZ:=
 jf (N:=["_law_tree","_law_row","_law_todo","_law_node"]) F ⟨rfl,rfl,rfl,by decide+kernel,rfl,by decide+kernel,by decide+kernel⟩ (λ_ _ _ _ _ _ us hl=>match us,hl with|[_],_=>rfl) (λvs H Q E h=>by obtain⟨_,_,rfl,_⟩:=h;rfl) λcdv A outer s H vs Q E nd hr h=>⟨S8.IV K,wq 0 rfl λp0=>wq 1 rfl λp1=>wq 2 rfl λp2=>wq 3 rfl λp3=>wh 1 rfl nd λl1 g1=>wh 2 rfl nd λl2 g2=>wh 3 rfl nd λl3 g3=>(dP (sN 1 nd l1 (eT fb)) (dP (sN 2 nd l2 (eT (fO p0))) (dP (gN PassesOwn.never (qt (je hr.units0) p2 (eT fb)) (dP (sN 3 nd l3 (ir aI av aw iw p2)) (dP (eP (gE aI aR aS eX p1 (fO (xT p3 dQ)))) (dS (sN 2 nd l2 (fA jv p2 (wZ rfl (by rfl) T.n4 (by rfl) T.n10 (xT p3 dQ)))))))) (dS (eJ p1))))),S8.LJ h⟩
theorem JO(F:gS K "_law_noted" "_law_noted" (gL 34) f)(d3:Ds P w K mg base 1 a.f3 ["_law_piece"] gt):Ds P w K mg base 2 f ["_law_piece","_law_source","_law_given","_law_count"] lO:=
 jf (N:=["_law_piece","_law_source","_law_given","_law_count","_law_order","_law_todo","_law_part","_law_path","_law_own","_law_inner","_law_k","_law_near","_law_pile","_law_many","_law_kids","_law_extra"]) F ⟨rfl,rfl,rfl,by decide+kernel,rfl,by decide+kernel,by decide+kernel⟩ (λ_ _ _ _ _ _ us hl=>match us,hl with|[_,_,_,_],_=>rfl) (λvs H Q E h=>by obtain⟨_,_,_,_,_,_,_,rfl,_⟩:=h;rfl) λcdv A outer s H vs Q E nd hr h=>⟨S3.Kw K,wq 0 rfl λp0=>wq 1 rfl λp1=>wq 2 rfl λp2=>wq 3 rfl λp3=>wq 4 rfl λp4=>wq 5 rfl λp5=>wq 6 rfl λp6=>wq 7 rfl λp7=>wq 8 rfl λp8=>wq 9 rfl λp9=>wq 10 rfl λp10=>wq 11 rfl λp11=>wq 12 rfl λp12=>wq 13 rfl λp13=>wq 14 rfl λp14=>wq 15 rfl λp15=>wh 4 rfl nd λl4 g4=>wh 5 rfl nd λl5 g5=>wh 6 rfl nd λl6 g6=>wh 7 rfl nd λl7 g7=>wh 8 rfl nd λl8 g8=>wh 9 rfl nd λl9 g9=>wh 10 rfl nd λl10 g10=>wh 11 rfl nd λl11 g11=>wh 12 rfl nd λl12 g12=>wh 13 rfl nd λl13 g13=>wh 14 rfl nd λl14 g14=>wh 15 rfl nd λl15 g15=>(dP (sN 4 nd l4 (eT fb)) (dP (sN 5 nd l5 (eT (fO (eQ (dz p0 (fZ (eQ fb) iK)))))) (dP (gN PassesOwn.never (qt (je hr.units0) p5 (eT fb)) (dP (ju (ir aI av aw iw p5) (jd rfl (fJ g6 (fJ g7 (fJ g8 iq))))) (dP (eP (gE aI aR aS eX p4 (fO (eQ (dz p6 (fZ p7 p8)))))) (dP (sN 9 nd l9 (pc d3 hr T.g3 (fO p6))) (dS (gQ PassesOwn.never rfl (lP (by rfl) T.n9 (dz (fA iu (dh dj (by rfl) T.n5 fD (fO p9)) dQ) (fZ (i0 iE dQ) (i0 iE dQ)))) g10 (dP (sN 11 nd l11 p8) (dP (eZ (iR (qt fm (xT p6 dQ) eB) (hZ (qt fm p10 dQ))).pt (dP (sN 11 nd l11 (iD ke (by rfl) T.n11 ou (fO p8))) (dS (jF (hU hr) p11 (xT p6 dQ) (fA lF p3 (dh dj (by rfl) T.n5 fD (fO p4))) rfl))) eN) (dS (eP (gE aI aR aS eX p5 (fO (eQ (dz (xL p9 p10) (fZ (fA rm p7 (eQ (fO p10))) p11))))))))))))))) (dP (sN 12 nd l12 (eT fb)) (dP (gQ PassesOwn.never rfl (lP (by rfl) T.n9 (dz (fA iu (dh dj (by rfl) T.n5 fD (fO p4)) dQ) (fZ (i0 iE dQ) (i0 iE dQ)))) g10 (dP (ju (xL p4 p10) (jd rfl (fJ g6 (fJ g7 (fJ g8 iq))))) (dP (sN 13 nd l13 (dh dj (by rfl) T.n5 fD (fO (pc d3 hr T.g3 (fO p6))))) (dP (sN 14 nd l14 (wZ rfl (by rfl) T.n4 (by rfl) T.n10 (fj gr p12 (fg (fA iu (dh dj (by rfl) T.n5 fD (fO p12)) p13)) iA))) (dP (sN 12 nd l12 (fj gr p12 iA (fg (fA iu (dh dj (by rfl) T.n5 fD (fO p12)) p13)))) (dP (sN 15 nd l15 qA) (dP (eZ (mX kJ (xT p6 dQ) (eT (dz eB (fZ eB eB))) (by with_unfolding_all rfl)) (dS (sN 15 nd l15 (xT p6 dQ))) eN) (dP (eZ (qt fm (xT p6 dQ) eB) (dS (sN 15 nd l15 (fA lF (fA lF p3 p10) dQ))) eN) (dP (eZ (iR (qt fm (xT p6 dQ) eB) (hZ (mH (rh (hU hr) (xT p6 dQ) p8)))).pt (dS (sN 15 nd l15 (mZ (hU hr) p8 (xT p6 dQ) (λ_ _=>rfl)))) eN) (dS (eZ (iR (qt fm (xT p6 dQ) eB) (iR (mH (nN (hU hr) (xT p6 dQ) p8)) (hZ (mH (rh (hU hr) (xT p6 dQ) p2))))).pt (dS (eP (gE aI aR aS eX p12 (fO (mZ (hU hr) p2 (xT p6 dQ) (λ_ _=>rfl)))))) (dS (eP (gE aI aR aS eX p12 (fO (eQ (dz (xT p6 dQ) (dz p15 (fZ (eQ (fZ p1 p7)) p14))))))))))))))))))) (dS (eJ (eQ (fZ (xL p12 dQ) (fA lF p3 (dh dj (by rfl) T.n5 fD (fO p4)))))))))))),S3.MT h⟩
theorem JT(F:gS K "_law_goes_with" "_law_goes_with" (gL 39) f)(d3:Ds P w K mg base 1 a.f3 ["_law_piece"] gt):Ds P w K mg base 2 f ["_law_found","_law_tree"] pN:=
 jf (N:=["_law_found","_law_tree","_law_todo","_law_part","_law_node","_law_forth","_law_back","_law_inner","_law_k","_law_near","_law_far"]) F ⟨rfl,rfl,rfl,by decide+kernel,rfl,by decide+kernel,by decide+kernel⟩ (λ_ _ _ _ _ _ us hl=>match us,hl with|[_,_],_=>rfl) (λvs H Q E h=>by obtain⟨_,_,_,_,rfl,_⟩:=h;rfl) λcdv A outer s H vs Q E nd hr h=>⟨S3.K1 K,wq 0 rfl λp0=>wq 1 rfl λp1=>wq 2 rfl λp2=>wq 3 rfl λp3=>wq 4 rfl λp4=>wq 5 rfl λp5=>wq 6 rfl λp6=>wq 7 rfl λp7=>wq 8 rfl λp8=>wq 9 rfl λp9=>wq 10 rfl λp10=>wh 2 rfl nd λl2 g2=>wh 3 rfl nd λl3 g3=>wh 4 rfl nd λl4 g4=>wh 5 rfl nd λl5 g5=>wh 6 rfl nd λl6 g6=>wh 7 rfl nd λl7 g7=>wh 8 rfl nd λl8 g8=>wh 9 rfl nd λl9 g9=>wh 10 rfl nd λl10 g10=>(dP (sN 2 nd l2 (eT (fO (eQ (dz p0 (dz p1 (fZ iK iK))))))) (dP (gN PassesOwn.never (qt (je hr.units0) p2 (eT fb)) (dP (ju (ir aI av aw iw p2) (jd rfl (fJ g3 (fJ g4 (fJ g5 (fJ g6 iq)))))) (dP (eZ (qt i6 (xT p3 dQ) (xT p4 dQ)) (dS (eJ gJ)) eN) (dP (eZ (iR (qt fm (xT p3 dQ) eB) (hZ (qt i6 (xT p3 dQ) (xT p4 dQ)))).pt (dS (eJ gJ)) eN) (dP (eZ (qt fm (xT p3 dQ) eB) (dP (eZ (qt i6 (mY (hU hr) p5 (xT p3 dQ) (xT p3 dQ) ⟨rfl,rfl,rfl,rfl⟩) (xT p4 dQ)) (dS (eJ gJ)) eN) (dS (eZ (qt i6 (mY (hU hr) p6 (xT p4 dQ) (xT p3 dQ) ⟨rfl,rfl,rfl,rfl⟩) (xT p3 dQ)) (dS (eJ gJ)) eN))) eN) (dP (sN 7 nd l7 (pc d3 hr T.g3 (fO p3))) (dP (eZ (qt i6 (dh dj (by rfl) T.n5 fD (fO p7)) (dh dj (by rfl) T.n5 fD (fO (xT p4 dQ)))) (dS (eJ gJ)) eN) (dS (gQ PassesOwn.never rfl (nK (by rfl) T.n9 (fO (dh dj (by rfl) T.n5 fD (fO p7)))) g8 (dP (sN 9 nd l9 p5) (dP (sN 10 nd l10 p6) (dP (eZ (iR (qt fm (xT p3 dQ) eB) (hZ (qt fm p8 dQ))).pt (dP (sN 9 nd l9 (iD ke (by rfl) T.n11 ou (fO p5))) (dP (jF (hU hr) p9 (xT p3 dQ) (xT p4 dQ) rfl) (dP (sN 10 nd l10 (iD ke (by rfl) T.n11 ou (fO p6))) (dS (jF (hU hr) p10 (xT p4 dQ) (xT p3 dQ) rfl))))) eN) (dS (eP (gE aI aR aS eX p2 (fO (eQ (dz (xL p7 p8) (dz (xL (xT p4 dQ) p8) (fZ p9 p10)))))))))))))))))))) (dS (eJ gJ)))),S3.MY h⟩
theorem JU(F:gS K "_law_first_stamp" "_law_first_stamp" (gL 35) f):Ds P w K mg base 1 f ["_law_tree"] qh:=
 jf (N:=["_law_tree","_law_todo","_law_node","_law_path","_law_k"]) F ⟨rfl,rfl,rfl,by decide+kernel,rfl,by decide+kernel,by decide+kernel⟩ (λ_ _ _ _ _ _ us hl=>match us,hl with|[_],_=>rfl) (λvs H Q E h=>by obtain⟨_,_,rfl,_⟩:=h;rfl) λcdv A outer s H vs Q E nd hr h=>⟨S8.K2 K,wq 0 rfl λp0=>wq 1 rfl λp1=>wq 2 rfl λp2=>wq 3 rfl λp3=>wq 4 rfl λp4=>wh 1 rfl nd λl1 g1=>wh 2 rfl nd λl2 g2=>wh 3 rfl nd λl3 g3=>wh 4 rfl nd λl4 g4=>(dP (sN 1 nd l1 (eT (fO (eQ (fZ p0 (eT fb)))))) (dP (gN PassesOwn.never (qt (je hr.units0) p1 (eT fb)) (dP (ju (ir aI av aw iw p1) (jd rfl (fJ g2 (fJ g3 iq)))) (dP (eZ (qt fm (xT p2 dQ) eB) (dS (eJ p3)) eN) (dS (gQ PassesOwn.never rfl (lP (by rfl) T.n9 (dz (fA iu (dh dj (by rfl) T.n5 fD (fO (xT p2 dQ))) dQ) (fZ (i0 iE dQ) (i0 iE dQ)))) g4 (dS (eP (gE aI aR aS eX p1 (fO (eQ (fZ (xL (xT p2 dQ) p4) (fA jv p3 (eT (fO p4)))))))))))))) (dS (eJ qA)))),S8.MZ h⟩
theorem JL(F:gS K "_law_placed" "_law_placed" (gL 36) f):Ds P w K mg base 1 f ["_law_tree","_law_path","_law_made"] tY:=
 jf (N:=["_law_tree","_law_path","_law_made","_law_above","_law_node","_law_k","_law_j","_law_kids"]) F ⟨rfl,rfl,rfl,by decide+kernel,rfl,by decide+kernel,by decide+kernel⟩ (λ_ _ _ _ _ _ us hl=>match us,hl with|[_,_,_],_=>rfl) (λvs H Q E h=>by obtain⟨_,_,_,_,_,_,_,rfl,_⟩:=h;rfl) λcdv A outer s H vs Q E nd hr h=>⟨S8.Kt K,wq 0 rfl λp0=>wq 1 rfl λp1=>wq 2 rfl λp2=>wq 3 rfl λp3=>wq 4 rfl λp4=>wq 5 rfl λp5=>wq 6 rfl λp6=>wq 7 rfl λp7=>wh 2 rfl nd λl2 g2=>wh 3 rfl nd λl3 g3=>wh 4 rfl nd λl4 g4=>wh 5 rfl nd λl5 g5=>wh 6 rfl nd λl6 g6=>wh 7 rfl nd λl7 g7=>(dP (sN 3 nd l3 (eT fb)) (dP (sN 4 nd l4 p0) (dP (gQ PassesOwn.never rfl (iB p1) g5 (dP (eP (gE aI aR aS eX p3 (fO p4))) (dS (sN 4 nd l4 (xL (xT p4 dQ) p5))))) (dP (gQ PassesOwn.never rfl (lP (by rfl) T.n9 (dz (fA iu (dh dj (by rfl) T.n5 fD (fO p1)) dQ) (fZ (i0 iE dQ) (i0 iE dQ)))) g6 (dP (sN 4 nd l4 (xL p3 p6)) (dP (sN 7 nd l7 (fA jv (fA jv (fj gr (xT p4 dQ) iA (fg (xL p1 p6))) (eT (fO p2))) (fj gr (xT p4 dQ) (fg (fA lF (xL p1 p6) dQ)) iA))) (dS (sN 2 nd l2 (eQ (dz (xT p4 dQ) (dz (xT p4 dQ) (fZ (xT p4 dQ) p7))))))))) (dS (eJ p2)))))),S8.MQ h⟩
def Lf(s:Stmt):Scope:=match((iH s)[3]?:Option Stmt) with
 | some (.While _ b _ _)=>(match(b[2]?:Option Stmt) with
  | some (.Assign _ (.Subscript (.ListComp _ _ sc _) _ _) _)=>sc
  | _=>fR s)
 | _=>fR s
omit T ro rw in
theorem Lb{f:Addr}{cdv:Value}{A:Around}{outer:List Env}{s:Shared}{H:Hp}{E:XK}:iX ((oU vv P w K mg base ["_law_book","_law_piece","_law_fuel","_law_tree","_law_count","_law_many","_law_path","_law_node","_law_k","_law_stamp","_law_given","_law_body"] "_law_laid" (fR (gL 37)) f cdv A outer s H E).nox) (Lf (gL 37)) [("_law_node",s.heap.objs.size+1)] ["_law_one"] ["_law_node"] [7]:=
 ⟨rfl,by decide+kernel,rfl,by decide+kernel,λy c h=>h,λy h=>sQ (L:=[((".0":Str),NameKind.local),(("_law_one":Str),NameKind.local),(("_law_node":Str),NameKind.cell)]) (by simp) h,λk y hy=>match k,hy with|0,hy=>by cases hy;exact⟨7,rfl,rfl,rfl,.inl rfl⟩,rfl⟩
theorem JQ(F:gS K "_law_laid" "_law_laid" (gL 37) f)(d12:Ds P w K mg base 2 a.f12 ["_law_piece","_law_source","_law_given","_law_count"] lO)(d14:Ds P w K mg base 1 a.f14 ["_law_tree"] qh)(d15:Ds P w K mg base 1 a.f15 ["_law_tree","_law_path","_law_made"] tY):Ds P w K mg base 3 f ["_law_book","_law_piece","_law_fuel"] mE:=
 jf (N:=["_law_book","_law_piece","_law_fuel","_law_tree","_law_count","_law_many","_law_path","_law_node","_law_k","_law_stamp","_law_given","_law_body"]) F ⟨rfl,rfl,rfl,by decide+kernel,rfl,by decide+kernel,by decide+kernel⟩ (λ_ _ _ _ _ _ us hl=>match us,hl with|[_,_,_],_=>rfl) (λvs H Q E h=>by obtain⟨_,_,_,_,_,_,_,_,_,_,rfl,_⟩:=h;rfl) λcdv A outer s H vs Q E nd hr h=>⟨S8.Ky K,wq 0 rfl λp0=>wq 1 rfl λp1=>wq 2 rfl λp2=>wq 3 rfl λp3=>wq 4 rfl λp4=>wq 5 rfl λp5=>wq 6 rfl λp6=>wq 7 rfl λp7=>wq 8 rfl λp8=>wq 9 rfl λp9=>wq 10 rfl λp10=>wq 11 rfl λp11=>wh 3 rfl nd λl3 g3=>wh 4 rfl nd λl4 g4=>wh 5 rfl nd λl5 g5=>wh 6 rfl nd λl6 g6=>wh 7 rfl nd λl7 g7=>wh 8 rfl nd λl8 g8=>wh 9 rfl nd λl9 g9=>wh 10 rfl nd λl10 g10=>wh 11 rfl nd λl11 g11=>(dP (ju (pc d12 hr T.g12 (dz p1 (dz eB (fZ iK dQ)))) (jd rfl (fJ g3 (fJ g4 iq)))) (dP (sN 5 nd l5 dQ) (dP (sN 6 nd l6 (pc d14 hr T.g14 (fO p3))) (dP (gN PassesOwn.never (iR (qt wc p6 qA) (hZ (qt Aq p5 p2))).pt (dP (sN 7 nd l7 p3) (dP (gQ PassesOwn.never rfl (iB p6) g8 (dS (sN 7 nd l7 (xL (xT p7 dQ) p8)))) (dP (sN 9 nd l9 (xL (vQ (xr:=[]) rfl Lb (iB p0) (λfp s H C=>lQ (i:=0) (by show(["_law_one","_law_node"]:List Str).Nodup;decide+kernel) rfl (bF rfl) (.inr rfl)) (λfp s H C=>DP (qt fm (xT (pv 0) dQ) (xT (pv 1) dQ))) (λfp s H C=>(pv 0))) dQ)) (dP (sN 10 nd l10 iK) (dP (gQ PassesOwn.never rfl (nK (by rfl) T.n9 (fO (dh dj (by rfl) T.n5 fD (fO (xT p7 dQ))))) g8 (dS (jF (hU hr) p10 (xL (xT p9 dQ) p8) (xL (xT p7 dQ) p8) rfl))) (dP (ju (pc d12 hr T.g12 (dz (xT p9 dQ) (dz (xT p9 dQ) (fZ p10 p4)))) (jd rfl (fJ g11 (fJ g4 iq)))) (dP (sN 3 nd l3 (pc d15 hr T.g15 (dz p3 (fZ p6 p11)))) (dP (sN 5 nd l5 (fA lF p5 dQ)) (dS (sN 6 nd l6 (pc d14 hr T.g14 (fO p3))))))))))))) (dS (eJ (eQ (fZ p3 p5)))))))),S8.MV h⟩
theorem Ar(F:gS K "parts" "parts" (gL 4) f):Ds P w K mg base 1 f ["piece"] iU:=
 jf (N:=["piece","kind"]) F ⟨rfl,rfl,rfl,by decide+kernel,rfl,by decide+kernel,by decide+kernel⟩ (λ_ _ _ _ _ _ us hl=>match us,hl with|[_],_=>rfl) (λvs H Q E h=>by obtain⟨_,_,rfl,_⟩:=h;rfl) λcdv A outer s H vs Q E nd hr h=>⟨SW.CP K,wq 0 rfl λp0=>wq 1 rfl λp1=>wh 1 rfl nd λl1 g1=>(dP (sN 1 nd l1 (xT p0 dQ)) (dP (eZ (jK (qt fm p1 eB) (jc (qt fm p1 eB))).pt (dS (eJ (eQ fb))) eN) (dP (eZ (jK (qt fm p1 eB) (jc (qt fm p1 eB))).pt (dS (eJ (fj rW p0 (fg dQ) iA))) eN) (dS (eJ (fj rW p0 (fg dQ) iA)))))),S9.IE h⟩
theorem JV(F:gS K "every_piece" "every_piece" (gL 5) f)(d17:Ds P w K mg base 1 a.f17 ["piece"] iU):Ds P w K mg base 2 f ["piece"] kU:=
 jf (N:=["piece","found","waiting","current"]) F ⟨rfl,rfl,rfl,by decide+kernel,rfl,by decide+kernel,by decide+kernel⟩ (λ_ _ _ _ _ _ us hl=>match us,hl with|[_],_=>rfl) (λvs H Q E h=>by obtain⟨_,_,rfl,_⟩:=h;rfl) λcdv A outer s H vs Q E nd hr h=>⟨S9.K3 K,wq 0 rfl λp0=>wq 1 rfl λp1=>wq 2 rfl λp2=>wq 3 rfl λp3=>wh 1 rfl nd λl1 g1=>wh 2 rfl nd λl2 g2=>wh 3 rfl nd λl3 g3=>(dP (sN 1 nd l1 (eT fb)) (dP (sN 2 nd l2 (eT (fO p0))) (dP (gN PassesOwn.never (qt lE (dh dj (by rfl) T.n5 fD (fO p2)) dQ) (dP (sN 3 nd l3 (ir aI av aw iw p2)) (dP (eP (gE aI aR aS eX p1 (fO p3))) (dS (eP (gE aI cJ cK vS p2 (fO (pc d17 hr T.g17 (fO p3))))))))) (dS (eJ p1))))),S9.Ma h⟩
theorem Iy(F:gS K "with_word" "with_word" (gL 6) f):Ds P w K mg base 1 f ["words","word","value"] iZ:=
 jf (N:=["words","word","value","more"]) F ⟨rfl,rfl,rfl,by decide+kernel,rfl,by decide+kernel,by decide+kernel⟩ (λ_ _ _ _ _ _ us hl=>match us,hl with|[_,_,_],_=>rfl) (λvs H Q E h=>by obtain⟨_,_,_,_,rfl,_⟩:=h;rfl) λcdv A outer s H vs Q E nd hr h=>⟨SW.Ke K,wq 0 rfl λp0=>wq 1 rfl λp1=>wq 2 rfl λp2=>wq 3 rfl λp3=>wh 3 rfl nd λl3 g3=>(dP (sN 3 nd l3 (iD ke (by rfl) T.n11 ou (fO p0))) (dP (jF (hU hr) p3 p1 p2 rfl) (dS (eJ p3)))),SW.ME h⟩
def Jn(s:Stmt):Scope:=match(iH s).getLast? with
 | some (.Return (some (.ListComp _ _ sc _)) _)=>sc
 | _=>fR s
omit T ro rw in
theorem Jm{f:Addr}{cdv:Value}{A:Around}{outer:List Env}{s:Shared}{H:Hp}{E:XK}:iX ((oU vv P w K mg base ["piece","lets"] "pieces_with_lets" (fR (gL 7)) f cdv A outer s H E).nox) (Jn (gL 7)) [("lets",s.heap.objs.size+1)] ["part"] ["lets"] [1]:=
 ⟨rfl,by decide+kernel,rfl,by decide+kernel,λy c h=>h,λy h=>sQ (L:=[((".0":Str),NameKind.local),(("part":Str),NameKind.local),(("lets":Str),NameKind.cell)]) (by simp) h,λk y hy=>match k,hy with|0,hy=>by cases hy;exact⟨1,rfl,rfl,rfl,.inl rfl⟩,rfl⟩
theorem G0(F:gS K "pieces_with_lets" "pieces_with_lets" (gL 7) f)(d19:Ds P w K mg base 1 a.f19 ["words","word","value"] iZ)(d17:Ds P w K mg base 1 a.f17 ["piece"] rT):Ds P w K mg base 2 f ["piece","lets"] qg:=
 jf (N:=["piece","lets"]) F ⟨rfl,rfl,rfl,by decide+kernel,rfl,by decide+kernel,by decide+kernel⟩ (λ_ _ _ _ _ _ us hl=>match us,hl with|[_,_],_=>rfl) (λvs H Q E h=>by first|(obtain⟨_,_,_,rfl,_⟩:=h;rfl)|(obtain⟨_,_,_,_,rfl,_⟩:=h;rfl)|(obtain⟨_,_,_,_,_,rfl,_⟩:=h;rfl)|(obtain⟨_,_,rfl,_⟩:=h;rfl)) λcdv A outer s H vs Q E nd hr h=>⟨SW.IT K,wq 0 rfl λp0=>wq 1 rfl λp1=>(dP (eZ (qt fm (xT p0 dQ) eB) (dS (eJ (eT (fZ (eQ (fZ (xT p0 dQ) (pc d19 hr T.g19 (dz p1 (fZ (xT p0 dQ) gJ))))) (eQ (fZ (xT p0 dQ) p1)))))) eN) (dS (eJ (Gv rfl Jm (Ag (pc d17 hr T.g17 (fO p0))) (λfp s H C=>(eQ (fZ (pv 0) (pv 1)))))))),SW.LH h⟩
theorem G7(F:gS K "outside_names" "outside_names" (gL 8) f)(d20:Ds P w K mg base 2 a.f20 ["piece","lets"] qg):Ds P w K mg base 3 f ["piece"] oG:=
 jf (N:=["piece","found","waiting","pair","current","lets"]) F ⟨rfl,rfl,rfl,by decide+kernel,rfl,by decide+kernel,by decide+kernel⟩ (λ_ _ _ _ _ _ us hl=>match us,hl with|[_],_=>rfl) (λvs H Q E h=>by obtain⟨_,_,rfl,_⟩:=h;rfl) λcdv A outer s H vs Q E nd hr h=>⟨SW.IU K,wq 0 rfl λp0=>wq 1 rfl λp1=>wq 2 rfl λp2=>wq 3 rfl λp3=>wq 4 rfl λp4=>wq 5 rfl λp5=>wh 1 rfl nd λl1 g1=>wh 2 rfl nd λl2 g2=>wh 3 rfl nd λl3 g3=>wh 4 rfl nd λl4 g4=>wh 5 rfl nd λl5 g5=>(dP (sN 1 nd l1 iK) (dP (sN 2 nd l2 (eT (fO (eQ (fZ p0 iK))))) (dP (gN PassesOwn.never (qt lE (dh dj (by rfl) T.n5 fD (fO p2)) dQ) (dP (sN 3 nd l3 (ir aI av aw iw p2)) (dP (sN 4 nd l4 (xT p3 dQ)) (dP (sN 5 nd l5 (xT p3 dQ)) (dP (eZ (iR (qt fm (xT p4 dQ) eB) (hZ (mH (nN (hU hr) (xT p4 dQ) p5)))).pt (dS (jF (hU hr) p1 (xT p4 dQ) gJ rfl)) eN) (dS (eP (gE aI cJ cK nP p2 (fO (pc d20 hr T.g20 (fZ p4 p5))))))))))) (dS (eJ (dh (sf rfl) (by rfl) T.n12 yf (fO p1))))))),SW.LI h⟩
theorem Gz(F:gS K "stamps_by_word" "stamps_by_word" (gL 10) f):Ds P w K mg base 1 f ["book"] jZ:=
 jf (N:=["book","stamps","stamp"]) F ⟨rfl,rfl,rfl,by decide+kernel,rfl,by decide+kernel,by decide+kernel⟩ (λ_ _ _ _ _ _ us hl=>match us,hl with|[_],_=>rfl) (λvs H Q E h=>by obtain⟨_,_,_,_,_,_,_,rfl,_⟩:=h;rfl) λcdv A outer s H vs Q E nd hr h=>⟨S9.IS K,wq 0 rfl λp0=>wq 1 rfl λp1=>wq 2 rfl λp2=>wh 1 rfl nd λl1 g1=>wh 2 rfl nd λl2 g2=>(dP (sN 1 nd l1 iK) (dP (gQ PassesOwn.never rfl (iB p0) g2 (dS (jF (hU hr) p1 (xT p2 dQ) p2 rfl))) (dS (eJ p1)))),S9.LG h⟩
theorem HB(F:gS K "check_use" "check_use" (gL 11) f)(d17:Ds P w K mg base 1 a.f17 ["piece"] iU):Ds P w K mg base 2 f ["stamps","use"] pL:=
 jf (N:=["stamps","use","word","handed","places"]) F ⟨rfl,rfl,rfl,by decide+kernel,rfl,by decide+kernel,by decide+kernel⟩ (λ_ _ _ _ _ _ us hl=>match us,hl with|[_,_],_=>rfl) (λvs H Q E h=>by obtain⟨_,_,_,_,_,_,_,_,_,_,rfl,_⟩:=h;rfl) λcdv A outer s H vs Q E nd hr h=>⟨S9.IY K,wq 0 rfl λp0=>wq 1 rfl λp1=>wq 2 rfl λp2=>wq 3 rfl λp3=>wq 4 rfl λp4=>wh 2 rfl nd λl2 g2=>wh 3 rfl nd λl3 g3=>wh 4 rfl nd λl4 g4=>(dP (sN 2 nd l2 (xT p1 dQ)) (dP (eZ (mH (nN (hU hr) p2 p0)) (dS uC) eN) (dP (sN 3 nd l3 (dh dj (by rfl) T.n5 fD (fO (pc d17 hr T.g17 (fO p1))))) (dP (sN 4 nd l4 (dh dj (by rfl) T.n5 fD (fO (xT (mZ (hU hr) p0 p2 (λ_ _=>rfl)) dQ)))) (dS (eZ (qt i6 p3 p4) (dS uC) eN)))))),S9.LN h⟩
theorem HC(F:gS K "check_piece" "check_piece" (gL 12) f)(d18:Ds P w K mg base 2 a.f18 ["piece"] kU)(d23:Ds P w K mg base 2 a.f23 ["stamps","use"] pL):Ds P w K mg base 3 f ["stamps","piece"] nE:=
 jf (N:=["stamps","piece","current"]) F ⟨rfl,rfl,rfl,by decide+kernel,rfl,by decide+kernel,by decide+kernel⟩ (λ_ _ _ _ _ _ us hl=>match us,hl with|[_,_],_=>rfl) (λvs H Q E h=>by obtain⟨_,_,_,_,_,_,_,_,_,rfl,_⟩:=h;rfl) λcdv A outer s H vs Q E nd hr h=>⟨S9.IZ K,wq 0 rfl λp0=>wq 1 rfl λp1=>wq 2 rfl λp2=>wh 2 rfl nd λl2 g2=>(dS (gQ PassesOwn.never rfl (iB (pc d18 hr T.g18 (fO p1))) g2 (dS (eZ (qt fm (xT p2 dQ) eB) (dS (eP (pc d23 hr T.g23 (fZ p0 p2)))) eN)))),S9.LO h⟩
theorem HD(F:gS K "check_stamps" "check_stamps" (gL 13) f)(d22:Ds P w K mg base 1 a.f22 ["book"] jZ)(d24:Ds P w K mg base 3 a.f24 ["stamps","piece"] nE):Ds P w K mg base 4 f ["book","piece"] pR:=
 jf (N:=["book","piece","stamps","stamp"]) F ⟨rfl,rfl,rfl,by decide+kernel,rfl,by decide+kernel,by decide+kernel⟩ (λ_ _ _ _ _ _ us hl=>match us,hl with|[_,_],_=>rfl) (λvs H Q E h=>by obtain⟨_,_,_,_,_,_,_,_,_,rfl,_⟩:=h;rfl) λcdv A outer s H vs Q E nd hr h=>⟨S9.Ia K,wq 0 rfl λp0=>wq 1 rfl λp1=>wq 2 rfl λp2=>wq 3 rfl λp3=>wh 2 rfl nd λl2 g2=>wh 3 rfl nd λl3 g3=>(dP (sN 2 nd l2 (pc d22 hr T.g22 (fO p0))) (dP (eP (pc d24 hr T.g24 (fZ p2 p1))) (dS (gQ PassesOwn.never rfl (iB p0) g3 (dS (eP (pc d24 hr T.g24 (fZ p2 (xT p3 dQ))))))))),S9.LP h⟩
theorem JN(F:gS K "numbered_word" "numbered_word" (gL 16) f):Ds P w K mg base 1 f ["number"] pM:=
 jf (N:=["number","word","rest"]) F ⟨rfl,rfl,rfl,by decide+kernel,rfl,by decide+kernel,by decide+kernel⟩ (λ_ _ _ _ _ _ us hl=>match us,hl with|[_],_=>rfl) (λvs H Q E h=>by obtain⟨_,rfl,_⟩:=h;rfl) λcdv A outer s H vs Q E nd hr h=>⟨S9.Kv K,let ⟨_,v0⟩:=T.u0;wq 0 rfl λp0=>wq 1 rfl λp1=>wq 2 rfl λp2=>wh 1 rfl nd λl1 g1=>wh 2 rfl nd λl2 g2=>(dP (sN 1 nd l1 (qB sK (lR (v:=.str "abcdefghijklmnopqrstuvwxyz") (by rfl) v0 ⟨_,rfl⟩) (fA ic p0 (dh jX (by rfl) T.n5 fD (fO (lR (v:=.str "abcdefghijklmnopqrstuvwxyz") (by rfl) v0 ⟨_,rfl⟩)))) (λ_ _=>rfl))) (dP (sN 2 nd l2 (fA lS p0 (dh jX (by rfl) T.n5 fD (fO (lR (v:=.str "abcdefghijklmnopqrstuvwxyz") (by rfl) v0 ⟨_,rfl⟩))))) (dP (gN PassesOwn.never (qt lE p2 dQ) (dP (sN 1 nd l1 (fA mJ (qB sK (lR (v:=.str "abcdefghijklmnopqrstuvwxyz") (by rfl) v0 ⟨_,rfl⟩) (fA ic (fA iu p2 dQ) (dh jX (by rfl) T.n5 fD (fO (lR (v:=.str "abcdefghijklmnopqrstuvwxyz") (by rfl) v0 ⟨_,rfl⟩)))) (λ_ _=>rfl)) p1)) (dS (sN 2 nd l2 (fA lS (fA iu p2 dQ) (dh jX (by rfl) T.n5 fD (fO (lR (v:=.str "abcdefghijklmnopqrstuvwxyz") (by rfl) v0 ⟨_,rfl⟩)))))))) (dS (eJ p1))))),S9.MS h⟩
theorem I9(F:gS K "__init__" "FreshWords.__init__" (ft (gL 17) 0) f):Ds P w K mg base 1 f ["self","taken"] (tm a.o1):=
 jf (N:=["self","taken","word"]) F ⟨rfl,rfl,rfl,by decide+kernel,rfl,by decide+kernel,by decide+kernel⟩ (λ_ _ _ _ _ _ us hl=>match us,hl with|[_,_],_=>rfl) (λvs H Q E h=>by obtain⟨_,_,_,_,rfl,_⟩:=h;rfl) λcdv A outer s H vs Q E nd hr h=>⟨S9.Kg K a.o1,wq 0 rfl λp0=>wq 1 rfl λp1=>wq 2 rfl λp2=>wh 2 rfl nd λl2 g2=>(dP (mI p0 iK rfl) (dP (gQ PassesOwn.never rfl (iB p1) g2 (dS (jF (hU hr) (ib p0 rfl) p2 gJ rfl))) (dS (mI p0 dQ rfl)))),S9.MG rw h⟩
theorem JB(F:gS K "fresh" "FreshWords.fresh" (ft (gL 17) 1) f)(d26:Ds P w K mg base 1 a.f26 ["number"] pM):Ds P w K mg base 2 f ["self","word"] (mU a.o1):=
 jf (N:=["self","word","free"]) F ⟨rfl,rfl,rfl,by decide+kernel,rfl,by decide+kernel,by decide+kernel⟩ (λ_ _ _ _ _ _ us hl=>match us,hl with|[_,_],_=>rfl) (λvs H Q E h=>by obtain⟨_,_,_,_,_,_,rfl,_⟩:=h;rfl) λcdv A outer s H vs Q E nd hr h=>⟨S9.Ki K a.o1,wq 0 rfl λp0=>wq 1 rfl λp1=>wq 2 rfl λp2=>wh 2 rfl nd λl2 g2=>(dP (sN 2 nd l2 p1) (dP (gN PassesOwn.never (mH (rh (hU hr) p2 (ib p0 rfl))) (dP (sN 2 nd l2 (pc d26 hr T.g26 (fO (ib p0 rfl)))) (dS (nJ p0 dQ vb)))) (dP (jF (hU hr) (ib p0 rfl) p2 gJ rfl) (dS (eJ p2))))),S9.MI rw h⟩
theorem HF(F:gS K "all_outside_names" "all_outside_names" (gL 19) f)(d21:Ds P w K mg base 3 a.f21 ["piece"] oG):Ds P w K mg base 4 f ["book","piece"] tq:=
 jf (N:=["book","piece","words","stamp"]) F ⟨rfl,rfl,rfl,by decide+kernel,rfl,by decide+kernel,by decide+kernel⟩ (λ_ _ _ _ _ _ us hl=>match us,hl with|[_,_],_=>rfl) (λvs H Q E h=>by obtain⟨_,_,_,_,_,_,_,_,_,rfl,_⟩:=h;rfl) λcdv A outer s H vs Q E nd hr h=>⟨S9.Ib K,wq 0 rfl λp0=>wq 1 rfl λp1=>wq 2 rfl λp2=>wq 3 rfl λp3=>wh 2 rfl nd λl2 g2=>wh 3 rfl nd λl3 g3=>(dP (sN 2 nd l2 (pc d21 hr T.g21 (fO p1))) (dP (gQ PassesOwn.never rfl (iB p0) g3 (dS (eP (gE aI cJ cK nP p2 (fO (pc d21 hr T.g21 (fO (xT p3 dQ)))))))) (dS (eJ p2)))),S9.LQ h⟩
def Ld(s:Stmt):Scope:=match(iH s).getLast? with
 | some (.Return (some (.ListComp _ _ sc _)) _)=>sc
 | _=>fR s
omit T ro rw in
theorem La{f:Addr}{cdv:Value}{A:Around}{outer:List Env}{s:Shared}{H:Hp}{E:XK}:iX ((oU vv P w K mg base ["spot"] "spots_within" (fR (gL 20)) f cdv A outer s H E).nox) (Ld (gL 20)) [("spot",s.heap.objs.size+1)] ["place","part"] ["spot"] [0]:=
 ⟨rfl,by decide+kernel,rfl,by decide+kernel,λy c h=>h,λy h=>sQ (L:=[((".0":Str),NameKind.local),(("place":Str),NameKind.local),(("part":Str),NameKind.local),(("spot":Str),NameKind.cell)]) (by simp) h,λk y hy=>match k,hy with|0,hy=>by cases hy;exact⟨0,rfl,rfl,rfl,.inl rfl⟩,rfl⟩
theorem JH(F:gS K "spots_within" "spots_within" (gL 20) f)(d17:Ds P w K mg base 1 a.f17 ["piece"] iU):Ds P w K mg base 2 f ["spot"] iT:=
 jf (N:=["spot"]) F ⟨rfl,rfl,rfl,by decide+kernel,rfl,by decide+kernel,by decide+kernel⟩ (λ_ _ _ _ _ _ us hl=>match us,hl with|[_],_=>rfl) (λvs H Q E h=>by obtain⟨_,_,_,rfl,_⟩:=h;rfl) λcdv A outer s H vs Q E nd hr h=>⟨S9.Ko K,wq 0 rfl λp0=>(dS (eJ (Gu rfl La (DT (by rfl) T.n13 (pc d17 hr T.g17 (fO (xT p0 dQ)))) (λfp s H C=>jd rfl (fJ (lQ (i:=0) (by show(["place","part","spot"]:List Str).Nodup;decide+kernel) rfl (bF rfl) (.inr rfl)) (fJ (lQ (i:=1) (by show(["place","part","spot"]:List Str).Nodup;decide+kernel) rfl (bF rfl) (.inr rfl)) iq))) NF (λfp s H C=>(eQ (dz (pv 1) (dz (xT (pv 2) dQ) (fZ (fA rm (xT (pv 2) dQ) (eQ (fO (pv 0)))) (xT (pv 2) dQ))))))))),S9.MM h⟩
theorem JS(F:gS K "has_stamps_to_open" "has_stamps_to_open" (gL 21) f)(d18:Ds P w K mg base 2 a.f18 ["piece"] kU)(d21:Ds P w K mg base 3 a.f21 ["piece"] oG):Ds P w K mg base 4 f ["spot"] tj:=
 jf (N:=["spot","piece","word"]) F ⟨rfl,rfl,rfl,by decide+kernel,rfl,by decide+kernel,by decide+kernel⟩ (λ_ _ _ _ _ _ us hl=>match us,hl with|[_],_=>rfl) (λvs H Q E h=>by obtain⟨_,_,_,rfl,_⟩:=h;rfl) λcdv A outer s H vs Q E nd hr h=>⟨S9.K0 K,wq 0 rfl λp0=>wq 1 rfl λp1=>wq 2 rfl λp2=>wh 1 rfl nd λl1 g1=>wh 2 rfl nd λl2 g2=>(dP (gQ PassesOwn.never rfl (iB (pc d18 hr T.g18 (fO (xT p0 dQ)))) g1 (dS (eZ (qt fm (xT p1 dQ) eB) (dS (eJ gJ)) eN))) (dP (gQ PassesOwn.never rfl (iB (pc d21 hr T.g21 (fO (xT p0 dQ)))) g2 (dS (eZ (iR (mH (rh (hU hr) p2 (xT p0 dQ))) (hZ (qt fm (xT (mZ (hU hr) (xT p0 dQ) p2 (λ_ _=>rfl)) dQ) eB))).pt (dS (eJ gJ)) eN))) (dS (eJ gJ)))),S9.MX h⟩
theorem JJ(F:gS K "row_at" "row_at" (gL 22) f):Ds P w K mg base 1 f ["spot","head","many"] mT:=
 jf (N:=["spot","head","many"]) F ⟨rfl,rfl,rfl,by decide+kernel,rfl,by decide+kernel,by decide+kernel⟩ (λ_ _ _ _ _ _ us hl=>match us,hl with|[_,_,_],_=>rfl) (λvs H Q E h=>by obtain⟨_,_,_,_,_,_,_,_,rfl,_⟩:=h;rfl) λcdv A outer s H vs Q E nd hr h=>⟨S9.Kr K,wq 0 rfl λp0=>wq 1 rfl λp1=>wq 2 rfl λp2=>(dS (eJ (eQ (dz eB (dz p1 (fZ p2 (eQ (fZ (xT p0 dQ) (xT p0 dQ))))))))),S9.MO h⟩
theorem JM(F:gS K "__init__" "Opening.__init__" (ft (gL 23) 0) f)(d22:Ds P w K mg base 1 a.f22 ["book"] jZ)(d29:Ds P w K mg base 4 a.f29 ["book","piece"] tq)(d27:Ds P w K mg base 1 a.f27 ["self","taken"] (tm a.o1))(M1:Mk K a.o1 a.f27):Ds P w K mg base 5 f ["self","book","piece","fuel"] (xt a.o0 a.o1):=
 jf (N:=["self","book","piece","fuel"]) F ⟨rfl,rfl,rfl,by decide+kernel,rfl,by decide+kernel,by decide+kernel⟩ (λ_ _ _ _ _ _ us hl=>match us,hl with|[_,_,_,_],_=>rfl) (λvs H Q E h=>by obtain⟨_,_,_,_,_,_,_,_,_,_,_,_,rfl,_⟩:=h;rfl) λcdv A outer s H vs Q E nd hr h=>⟨S9.Ku K a.o0 a.o1,wq 0 rfl λp0=>wq 1 rfl λp1=>wq 2 rfl λp2=>wq 3 rfl λp3=>(dP (mI p0 (pc d22 hr T.g22 (fO p1)) rfl) (dP (mI p0 (pk M1 d27 hr T.c1 (fO (pc d29 hr T.g29 (fZ p1 p2)))) rfl) (dP (mI p0 p3 rfl) (dP (mI p0 dQ rfl) (dS (mI p0 (eT fb) rfl)))))),S9.MR ro h⟩
theorem JD(F:gS K "take_name" "Opening.take_name" (ft (gL 23) 5) f)(d32:Ds P w K mg base 1 a.f32 ["spot","head","many"] mT):Ds P w K mg base 2 f ["self","spot","waiting","rows"] xp:=
 jf (N:=["self","spot","waiting","rows","word","meaning"]) F ⟨rfl,rfl,rfl,by decide+kernel,rfl,by decide+kernel,by decide+kernel⟩ (λ_ _ _ _ _ _ us hl=>match us,hl with|[_,_,_,_],_=>rfl) (λvs H Q E h=>by obtain⟨_,_,_,_,_,_,_,_,_,_,rfl,_⟩:=h;rfl) λcdv A outer s H vs Q E nd hr h=>⟨S9.Kk K a.o0 a.o1,wq 1 rfl λp1=>wq 2 rfl λp2=>wq 3 rfl λp3=>wq 4 rfl λp4=>wq 5 rfl λp5=>wh 4 rfl nd λl4 g4=>wh 5 rfl nd λl5 g5=>(dP (sN 4 nd l4 (xT (xT p1 dQ) dQ)) (dP (sN 5 nd l5 (mY (hU hr) (xT p1 dQ) p4 (eQ (fZ eB p4)) ⟨rfl,rfl,rfl,rfl⟩)) (dS (eZ (qt fm (xT p5 dQ) eB) (dS (eP (gE aI aR aS eX p2 (fO (xT p5 dQ))))) (dS (eZ (qt fm (xT p5 dQ) eB) (dS (eP (gE aI aR aS eX p3 (fO p5)))) (dS (eP (gE aI aR aS eX p3 (fO (pc d32 hr T.g32 (dz p1 (fZ (eQ (fZ eB (xT p5 dQ))) dQ))))))))))))),S9.MK h⟩
theorem JC(F:gS K "take_plain" "Opening.take_plain" (ft (gL 23) 7) f)(d30:Ds P w K mg base 2 a.f30 ["spot"] iT)(d32:Ds P w K mg base 1 a.f32 ["spot","head","many"] mT):Ds P w K mg base 3 f ["self","spot","waiting","rows"] xo:=
 jf (N:=["self","spot","waiting","rows","piece","inner","part"]) F ⟨rfl,rfl,rfl,by decide+kernel,rfl,by decide+kernel,by decide+kernel⟩ (λ_ _ _ _ _ _ us hl=>match us,hl with|[_,_,_,_],_=>rfl) (λvs H Q E h=>by obtain⟨_,_,_,_,_,_,_,_,_,_,rfl,_⟩:=h;rfl) λcdv A outer s H vs Q E nd hr h=>⟨S9.Kj K a.o0 a.o1,wq 1 rfl λp1=>wq 2 rfl λp2=>wq 3 rfl λp3=>wq 4 rfl λp4=>wq 5 rfl λp5=>wq 6 rfl λp6=>wh 4 rfl nd λl4 g4=>wh 5 rfl nd λl5 g5=>wh 6 rfl nd λl6 g6=>(dP (sN 4 nd l4 (xT p1 dQ)) (dP (sN 5 nd l5 (pc d30 hr T.g30 (fO p1))) (dP (eP (gE aI aR aS eX p3 (fO (pc d32 hr T.g32 (dz p1 (fZ (fj DE p4 iA (fg (fA iu (dh dj (by rfl) T.n5 fD (fO p4)) (dh dj (by rfl) T.n5 fD (fO p5))))) (dh dj (by rfl) T.n5 fD (fO p5)))))))) (dS (gQ PassesOwn.never rfl (Ah (by rfl) T.n10 p5) g6 (dS (eP (gE aI aR aS eX p2 (fO p6))))))))),S9.MJ h⟩
theorem JE(F:gS K "take_let" "Opening.take_let" (ft (gL 23) 6) f)(d28:Ds P w K mg base 2 a.f28 ["self","word"] (mU a.o1))(m28:lK K a.o1 "fresh" a.f28)(d30:Ds P w K mg base 2 a.f30 ["spot"] iT)(d32:Ds P w K mg base 1 a.f32 ["spot","head","many"] mT)(d19:Ds P w K mg base 1 a.f19 ["words","word","value"] iZ):Ds P w K mg base 3 f ["self","spot","waiting","rows"] (xq a.o0 a.o1):=
 jf (N:=["self","spot","waiting","rows","own","word","inner","other"]) F ⟨rfl,rfl,rfl,by decide+kernel,rfl,by decide+kernel,by decide+kernel⟩ (λ_ _ _ _ _ _ us hl=>match us,hl with|[_,_,_,_],_=>rfl) (λvs H Q E h=>by obtain⟨_,_,_,_,_,_,_,_,_,_,_,_,_,_,_,_,_,_,_,rfl,_⟩:=h;rfl) λcdv A outer s H vs Q E nd hr h=>⟨S9.Kl K a.o0 a.o1,wq 0 rfl λp0=>wq 1 rfl λp1=>wq 2 rfl λp2=>wq 3 rfl λp3=>wq 4 rfl λp4=>wq 5 rfl λp5=>wq 6 rfl λp6=>wq 7 rfl λp7=>wh 4 rfl nd λl4 g4=>wh 5 rfl nd λl5 g5=>wh 6 rfl nd λl6 g6=>wh 7 rfl nd λl7 g7=>(dP (sN 4 nd l4 (xT (xT p1 dQ) dQ)) (dP (sN 5 nd l5 (pm (ib p0 rfl) T.l1 m28 d28 hr (fO p4))) (dP (sN 6 nd l6 (pc d30 hr T.g30 (fO p1))) (dP (sN 7 nd l7 (xL p6 dQ)) (dP (eP (gE aI aR aS eX p3 (fO (pc d32 hr T.g32 (dz p1 (fZ (eQ (fZ eB p5)) dQ)))))) (dP (eP (gE aI aR aS eX p2 (fO (eQ (dz (xT p7 dQ) (dz (xT p7 dQ) (fZ (xT p7 dQ) (pc d19 hr T.g19 (dz (xT p1 dQ) (fZ p4 (eQ (fZ eB p5)))))))))))) (dS (eP (gE aI aR aS eX p2 (fO (xL p6 dQ))))))))))),S9.ML ro h⟩
omit T ro rw in
theorem HE(F:gS K "body_of" "Opening.body_of" (ft (gL 23) 3) f):Ds P w K mg base 1 f ["self","spot"] wU:=Jx F (λ_ _ _ _ _ _ us hl=>match us,hl with|[_,_],_=>rfl) λ_ _ _ _ h=>⟨h.1,h.2⟩
theorem JF(F:gS K "take" "Opening.take" (ft (gL 23) 2) f)(d37:Ds P w K mg base 1 a.f37 ["self","spot"] wU)(m37:lK K a.o0 "body_of" a.f37)(d34:Ds P w K mg base 2 a.f34 ["self","spot","waiting","rows"] xp)(m34:lK K a.o0 "take_name" a.f34)(d36:Ds P w K mg base 3 a.f36 ["self","spot","waiting","rows"] (xq a.o0 a.o1))(m36:lK K a.o0 "take_let" a.f36)(d35:Ds P w K mg base 3 a.f35 ["self","spot","waiting","rows"] xo)(m35:lK K a.o0 "take_plain" a.f35):Ds P w K mg base 4 f ["self","spot","waiting","rows"] (tW a.o0 a.o1):=
 jf (N:=["self","spot","waiting","rows","kind"]) F ⟨rfl,rfl,rfl,by decide+kernel,rfl,by decide+kernel,by decide+kernel⟩ (λ_ _ _ _ _ _ us hl=>match us,hl with|[_,_,_,_],_=>rfl) (λvs H Q E h=>by obtain⟨_,_,_,_,_,_,_,_,_,_,_,_,_,_,_,_,rfl,_⟩:=h;rfl) λcdv A outer s H vs Q E nd hr h=>⟨S9.Km K a.o0 a.o1,wq 0 rfl λp0=>wq 1 rfl λp1=>wq 2 rfl λp2=>wq 3 rfl λp3=>wq 4 rfl λp4=>wh 4 rfl nd λl4 g4=>(dP (sN 4 nd l4 (xT (xT p1 dQ) dQ)) (dS (eZ (qt fm p4 eB) (dP (nJ p0 dQ vb) (dS (eP (gE aI aR aS eX p2 (fO (pm p0 T.l0 m37 d37 hr (fO p1))))))) (dS (eZ (qt fm p4 eB) (dS (eP (pm p0 T.l0 m34 d34 hr (dz p1 (fZ p2 p3))))) (dS (eZ (qt fm p4 eB) (dS (eP (pm p0 T.l0 m36 d36 hr (dz p1 (fZ p2 p3))))) (dS (eP (pm p0 T.l0 m35 d35 hr (dz p1 (fZ p2 p3)))))))))))),S9.LE h⟩
theorem Di(F:gS K "rows_of" "Opening.rows_of" (ft (gL 23) 1) f)(d38:Ds P w K mg base 4 a.f38 ["self","spot","waiting","rows"] (tW a.o0 a.o1))(m38:lK K a.o0 "take" a.f38):Ds P w K mg base 5 f ["self","spot"] (mS a.o0 a.o1):=
 jf (N:=["self","spot","rows","waiting"]) F ⟨rfl,rfl,rfl,by decide+kernel,rfl,by decide+kernel,by decide+kernel⟩ (λ_ _ _ _ _ _ us hl=>match us,hl with|[_,_],_=>rfl) (λvs H Q E h=>by obtain⟨_,_,_,_,_,_,_,_,_,_,_,_,rfl,_⟩:=h;rfl) λcdv A outer s H vs Q E nd hr h=>⟨S9.FJ K a.o0 a.o1,wq 0 rfl λp0=>wq 1 rfl λp1=>wq 2 rfl λp2=>wq 3 rfl λp3=>wh 2 rfl nd λl2 g2=>wh 3 rfl nd λl3 g3=>(dP (sN 2 nd l2 (eT fb)) (dP (sN 3 nd l3 (eT (fO p1))) (dP (gN PassesOwn.never (iR (qt lE (dh dj (by rfl) T.n5 fD (fO p3)) dQ) (hZ (qt Aq (ib p0 rfl) (ib p0 rfl)))).pt (dS (eP (pm p0 T.l0 m38 d38 hr (dz (ir aI av aw iw p3) (fZ p3 p2)))))) (dS (eJ p2))))),S9.Il ro h⟩
theorem JP(F:gS K "meaning_of" "Opening.meaning_of" (ft (gL 23) 4) f)(d31:Ds P w K mg base 4 a.f31 ["spot"] tj)(d39:Ds P w K mg base 5 a.f39 ["self","spot"] (mS a.o0 a.o1))(m39:lK K a.o0 "rows_of" a.f39):Ds P w K mg base 6 f ["self","handed"] (AA a.o0 a.o1):=
 jf (N:=["self","handed"]) F ⟨rfl,rfl,rfl,by decide+kernel,rfl,by decide+kernel,by decide+kernel⟩ (λ_ _ _ _ _ _ us hl=>match us,hl with|[_,_],_=>rfl) (λvs H Q E h=>by obtain⟨_,_,_,_,_,_,_,_,_,_,_,_,_,rfl,_⟩:=h;rfl) λcdv A outer s H vs Q E nd hr h=>⟨S9.Kx K a.o0 a.o1,wq 0 rfl λp0=>wq 1 rfl λp1=>(dP (eZ (gW (pc d31 hr T.g31 (fO p1))) (dS (eJ (eQ (fZ eB p1)))) eN) (dP (eP (gE aI aR aS eX (ib p0 rfl) (fO (pm p0 T.l0 m39 d39 hr (fO p1))))) (dS (eJ (eQ (fZ eB (fA iu (dh dj (by rfl) T.n5 fD (fO (ib p0 rfl))) dQ))))))),S9.MU ro h⟩
theorem JZ(F:gS K "body_of" "Opening.body_of" (ft (gL 23) 3) f)(d30:Ds P w K mg base 2 a.f30 ["spot"] iT)(d40:Ds P w K mg base 6 a.f40 ["self","handed"] (AA a.o0 a.o1))(m40:lK K a.o0 "meaning_of" a.f40):Ds P w K mg base 7 f ["self","spot"] (AB a.o0 a.o1):=
 jf (N:=["self","spot","stamp","names","place","handed"]) F ⟨rfl,rfl,rfl,by decide+kernel,rfl,by decide+kernel,by decide+kernel⟩ (λ_ _ _ _ _ _ us hl=>match us,hl with|[_,_],_=>rfl) (λvs H Q E h=>by obtain⟨_,_,_,_,_,_,_,_,_,_,_,_,rfl,_⟩:=h;rfl) λcdv A outer s H vs Q E nd hr h=>⟨S9.K8 K a.o0 a.o1,wq 0 rfl λp0=>wq 1 rfl λp1=>wq 2 rfl λp2=>wq 3 rfl λp3=>wq 4 rfl λp4=>wq 5 rfl λp5=>wh 2 rfl nd λl2 g2=>wh 3 rfl nd λl3 g3=>wh 4 rfl nd λl4 g4=>wh 5 rfl nd λl5 g5=>(dP (sN 2 nd l2 (mZ (hU hr) (ib p0 rfl) (xT (xT p1 dQ) dQ) (λ_ _=>rfl))) (dP (sN 3 nd l3 iK) (dP (gQ PassesOwn.never rfl (DS (by rfl) T.n14 (xT p2 dQ) (pc d30 hr T.g30 (fO p1))) (jd rfl (fJ g4 (fJ g5 iq))) (dS (jF (hU hr) p3 p4 (pm p0 T.l0 m40 d40 hr (fO p5)) rfl))) (dS (eJ (eQ (dz (xT p2 dQ) (dz (xT p2 dQ) (fZ (eQ fb) p3))))))))),S9.Md ro h⟩
theorem JG(F:gS K "take" "Opening.take" (ft (gL 23) 2) f)(d37:Ds P w K mg base 7 a.f37 ["self","spot"] (AB a.o0 a.o1))(m37:lK K a.o0 "body_of" a.f37)(d34:Ds P w K mg base 2 a.f34 ["self","spot","waiting","rows"] xp)(m34:lK K a.o0 "take_name" a.f34)(d36:Ds P w K mg base 3 a.f36 ["self","spot","waiting","rows"] (xq a.o0 a.o1))(m36:lK K a.o0 "take_let" a.f36)(d35:Ds P w K mg base 3 a.f35 ["self","spot","waiting","rows"] xo)(m35:lK K a.o0 "take_plain" a.f35):Ds P w K mg base 8 f ["self","spot","waiting","rows"] (tV a.o0 a.o1):=
 jf (N:=["self","spot","waiting","rows","kind"]) F ⟨rfl,rfl,rfl,by decide+kernel,rfl,by decide+kernel,by decide+kernel⟩ (λ_ _ _ _ _ _ us hl=>match us,hl with|[_,_,_,_],_=>rfl) (λvs H Q E h=>by obtain⟨_,_,_,_,_,_,_,_,_,_,_,_,_,_,_,_,rfl,_⟩:=h;rfl) λcdv A outer s H vs Q E nd hr h=>⟨S9.Kn K a.o0 a.o1,wq 0 rfl λp0=>wq 1 rfl λp1=>wq 2 rfl λp2=>wq 3 rfl λp3=>wq 4 rfl λp4=>wh 4 rfl nd λl4 g4=>(dP (sN 4 nd l4 (xT (xT p1 dQ) dQ)) (dS (eZ (qt fm p4 eB) (dP (nJ p0 dQ vb) (dS (eP (gE aI aR aS eX p2 (fO (pm p0 T.l0 m37 d37 hr (fO p1))))))) (dS (eZ (qt fm p4 eB) (dS (eP (pm p0 T.l0 m34 d34 hr (dz p1 (fZ p2 p3))))) (dS (eZ (qt fm p4 eB) (dS (eP (pm p0 T.l0 m36 d36 hr (dz p1 (fZ p2 p3))))) (dS (eP (pm p0 T.l0 m35 d35 hr (dz p1 (fZ p2 p3)))))))))))),S9.LD ro h⟩
theorem Dh(F:gS K "rows_of" "Opening.rows_of" (ft (gL 23) 1) f)(d38:Ds P w K mg base 8 a.f38 ["self","spot","waiting","rows"] (tV a.o0 a.o1))(m38:lK K a.o0 "take" a.f38):Ds P w K mg base 9 f ["self","spot"] (lN a.o0 a.o1):=
 jf (N:=["self","spot","rows","waiting"]) F ⟨rfl,rfl,rfl,by decide+kernel,rfl,by decide+kernel,by decide+kernel⟩ (λ_ _ _ _ _ _ us hl=>match us,hl with|[_,_],_=>rfl) (λvs H Q E h=>by obtain⟨_,_,_,_,_,_,_,_,_,rfl,_⟩:=h;rfl) λcdv A outer s H vs Q E nd hr h=>⟨S9.FI K a.o0 a.o1,wq 0 rfl λp0=>wq 1 rfl λp1=>wq 2 rfl λp2=>wq 3 rfl λp3=>wh 2 rfl nd λl2 g2=>wh 3 rfl nd λl3 g3=>(dP (sN 2 nd l2 (eT fb)) (dP (sN 3 nd l3 (eT (fO p1))) (dP (gN PassesOwn.never (iR (qt lE (dh dj (by rfl) T.n5 fD (fO p3)) dQ) (hZ (qt Aq (ib p0 rfl) (ib p0 rfl)))).pt (dS (eP (pm p0 T.l0 m38 d38 hr (dz (ir aI av aw iw p3) (fZ p3 p2)))))) (dS (eJ p2))))),S9.Ik ro h⟩
theorem JK(F:gS K "piece_of" "piece_of" (gL 24) f):Ds P w K mg base 1 f ["rows","written"] zy:=
 jf (N:=["rows","written","made","row","inner"]) F ⟨rfl,rfl,rfl,by decide+kernel,rfl,by decide+kernel,by decide+kernel⟩ (λ_ _ _ _ _ _ us hl=>match us,hl with|[_,_],_=>rfl) (λvs H Q E h=>by obtain⟨_,_,_,_,_,_,_,rfl,_⟩:=h;rfl) λcdv A outer s H vs Q E nd hr h=>⟨S9.Ks K,wq 0 rfl λp0=>wq 1 rfl λp1=>wq 2 rfl λp2=>wq 3 rfl λp3=>wq 4 rfl λp4=>wh 2 rfl nd λl2 g2=>wh 3 rfl nd λl3 g3=>wh 4 rfl nd λl4 g4=>(dP (sN 2 nd l2 (eT fb)) (dP (gQ PassesOwn.never rfl (Ah (by rfl) T.n10 p0) g3 (dS (eZ (qt fm (xT p3 dQ) eB) (dS (eP (gE aI aR aS eX p2 (fO (xT (xL p1 (xT p3 dQ)) dQ))))) (dP (sN 4 nd l4 (eT fb)) (dP (gN PassesOwn.never (qt qm (dh dj (by rfl) T.n5 fD (fO p4)) (xT p3 dQ)) (dS (eP (gE aI aR aS eX p4 (fO (ir aI av aw iw p2)))))) (dS (eP (gE aI aR aS eX p2 (fO (fA rm (xT p3 dQ) (iD lj (by rfl) T.n7 ix (fO p4)))))))))))) (dS (eJ (ir aI av aw iw p2))))),S9.MP h⟩
theorem JI(F:gS K "sources_of" "sources_of" (gL 25) f):Ds P w K mg base 1 f ["rows","written"] S9.Ih:=
 jf (N:=["rows","written","sources","row"]) F ⟨rfl,rfl,rfl,by decide+kernel,rfl,by decide+kernel,by decide+kernel⟩ (λ_ _ _ _ _ _ us hl=>match us,hl with|[_,_],_=>rfl) (λvs H Q E h=>by obtain⟨_,_,_,_,_,_,_,rfl,_⟩:=h;rfl) λcdv A outer s H vs Q E nd hr h=>⟨S9.Kq K,wq 0 rfl λp0=>wq 1 rfl λp1=>wq 2 rfl λp2=>wq 3 rfl λp3=>wh 2 rfl nd λl2 g2=>wh 3 rfl nd λl3 g3=>(dP (sN 2 nd l2 (eT fb)) (dP (gQ PassesOwn.never rfl (iB p0) g3 (dS (eZ (qt fm (xT p3 dQ) eB) (dS (eP (gE aI cJ cK nP p2 (fO (xT (xL p1 (xT p3 dQ)) dQ))))) (dS (eP (gE aI aR aS eX p2 (fO (xT p3 dQ)))))))) (dS (eJ p2)))),S9.MN h⟩
theorem Iz(F:gS K "write_out" "write_out" (gL 26) f)(d42:Ds P w K mg base 1 a.f42 ["rows","written"] S9.Ih)(d41:Ds P w K mg base 1 a.f41 ["rows","written"] zy):Ds P w K mg base 2 f ["rows","written"] tU:=
 jf (N:=["rows","written"]) F ⟨rfl,rfl,rfl,by decide+kernel,rfl,by decide+kernel,by decide+kernel⟩ (λ_ _ _ _ _ _ us hl=>match us,hl with|[_,_],_=>rfl) (λvs H Q E h=>by obtain⟨_,_,_,_,_,_,_,rfl,_⟩:=h;rfl) λcdv A outer s H vs Q E nd hr h=>⟨S9.Kf K,wq 0 rfl λp0=>wq 1 rfl λp1=>(dS (eJ (eQ (fZ (pc d41 hr T.g41 (fZ p0 p1)) (pc d42 hr T.g42 (fZ p0 p1)))))),S9.MF h⟩
theorem HA(F:gS K "expanded" "expanded" (gL 27) f)(d25:Ds P w K mg base 4 a.f25 ["book","piece"] pR)(d33:Ds P w K mg base 5 a.f33 ["self","book","piece","fuel"] (xt a.o0 a.o1))(M0:Mk K a.o0 a.f33)(d39:Ds P w K mg base 9 a.f39 ["self","spot"] (lN a.o0 a.o1))(m39:lK K a.o0 "rows_of" a.f39)(d43:Ds P w K mg base 2 a.f43 ["rows","written"] tU):Ds P w K mg base 10 f ["book","piece","fuel"] (pO a.o0 a.o1):=
 jf (N:=["book","piece","fuel","opening","rows","written","earlier","left"]) F ⟨rfl,rfl,rfl,by decide+kernel,rfl,by decide+kernel,by decide+kernel⟩ (λ_ _ _ _ _ _ us hl=>match us,hl with|[_,_,_],_=>rfl) (λvs H Q E h=>by obtain⟨_,_,_,_,_,_,_,_,_,_,rfl,_⟩:=h;rfl) λcdv A outer s H vs Q E nd hr h=>⟨S9.IX K a.o0 a.o1,wq 0 rfl λp0=>wq 1 rfl λp1=>wq 2 rfl λp2=>wq 3 rfl λp3=>wq 4 rfl λp4=>wq 5 rfl λp5=>wq 6 rfl λp6=>wq 7 rfl λp7=>wh 3 rfl nd λl3 g3=>wh 4 rfl nd λl4 g4=>wh 5 rfl nd λl5 g5=>wh 6 rfl nd λl6 g6=>wh 7 rfl nd λl7 g7=>(dP (eP (pc d25 hr T.g25 (fZ p0 p1))) (dP (sN 3 nd l3 (pk M0 d33 hr T.c0 (dz p0 (fZ p1 p2)))) (dP (sN 4 nd l4 (pm p3 T.l0 m39 d39 hr (fO (eQ (dz p1 (dz eB (fZ (eQ fb) iK))))))) (dP (eZ (qt lE (ib p3 rfl) p2) (dS (eJ (eQ (fO eB)))) eN) (dP (sN 5 nd l5 (eT fb)) (dP (gQ PassesOwn.never rfl (iB (ib p3 rfl)) g6 (dS (eP (gE aI aR aS eX p5 (fO (pc d43 hr T.g43 (fZ p6 p5))))))) (dP (sN 7 nd l7 (pc d43 hr T.g43 (fZ p4 p5))) (dS (eJ (eQ (dz eB (dz (xT p7 dQ) (fZ (xT p7 dQ) (ib p3 rfl)))))))))))))),S9.LL ro h⟩
def HM(s:Stmt):Scope:=match((iH s)[6]?:Option Stmt) with
 | some (.Assign _ (.ListComp _ _ sc _) _)=>sc
 | _=>fR s
omit T ro rw in
theorem HL{f:Addr}{cdv:Value}{A:Around}{outer:List Env}{s:Shared}{H:Hp}{E:XK}:iX ((oU vv P w K mg base ["_law_script","_law_top","_law_book","_law_piece","_law_tree","_law_many","_law_handed","_law_found"] "law" (fR (gL 46)) f cdv A outer s H E).nox) (HM (gL 46)) [] ["_law_one"] [] []:=
 ⟨rfl,by decide+kernel,rfl,by decide+kernel,λy c h=>h,λy h=>sQ (L:=[((".0":Str),NameKind.local),(("_law_one":Str),NameKind.local),(("list":Str),NameKind.globalImplicit)]) (by simp) h,λk y hy=>by simp at hy,rfl⟩
theorem Dl{fd:FuncData}(F:Ep K "law" "law" (gL 46) f fd)(d4:Ds P w K mg base 1 a.f4 ["_law_script","_law_most","_law_bound"] (nB K))(d8:Ds P w K mg base 3 a.f8 ["_law_cells","_law_wild"] (pS K))(d6:Ds P w K mg base 3 a.f6 ["_law_cells"] (nC K))(d16:Ds P w K mg base 3 a.f16 ["_law_book","_law_piece","_law_fuel"] mE)(d44:Ds P w K mg base 10 a.f44 ["book","piece","fuel"] (pO a.o0 a.o1))(d9:Ds P w K mg base 3 a.f9 ["_law_found"] pQ)(d10:Ds P w K mg base 1 a.f10 ["_law_found","_law_due"] tX)(d11:Ds P w K mg base 1 a.f11 ["_law_tree"] tZ)(d13:Ds P w K mg base 2 a.f13 ["_law_found","_law_tree"] pN):lL P w K mg base vv 11 f fd ["_law_script"] (S1.MD K):=
 ND (N:=["_law_script","_law_top","_law_book","_law_piece","_law_tree","_law_many","_law_handed","_law_found"]) F ⟨rfl,rfl,rfl,by decide+kernel,rfl,by decide+kernel,by decide+kernel⟩ (λvs H Q E h=>by obtain⟨_,_,rfl,_⟩:=h;rfl) λcdv A outer s H vs Q E nd hr h=>⟨S8.Fe K a.o0 a.o1,wq 0 rfl λp0=>wq 1 rfl λp1=>wq 2 rfl λp2=>wq 3 rfl λp3=>wq 4 rfl λp4=>wq 5 rfl λp5=>wq 6 rfl λp6=>wq 7 rfl λp7=>wh 1 rfl nd λl1 g1=>wh 2 rfl nd λl2 g2=>wh 3 rfl nd λl3 g3=>wh 4 rfl nd λl4 g4=>wh 5 rfl nd λl5 g5=>wh 6 rfl nd λl6 g6=>wh 7 rfl nd λl7 g7=>(dP (sN 1 nd l1 (pc d4 hr T.g4 (dz p0 (fZ dQ dQ)))) (dP (sN 2 nd l2 (pc d8 hr T.g8 (fZ (fj gr p0 (fg dQ) (fg dQ)) gJ))) (dP (sN 3 nd l3 (pc d6 hr T.g6 (fO (fj gr p0 (fg dQ) (fg (fA lF dQ (pc d4 hr T.g4 (dz p0 (fZ dQ dQ))))))))) (dP (eZ (qt lE (xT (pc d16 hr T.g16 (dz p2 (fZ p3 p1))) dQ) p1) (dS (sN 3 nd l3 (pc d6 hr T.g6 (fO (fj gr p0 (fg dQ) (fg dQ)))))) eN) (dP (ju (pc d16 hr T.g16 (dz p2 (fZ p3 p1))) (jd rfl (fJ g4 (fJ g5 iq)))) (dP (eZ (qt lE p5 p1) (dS (eJ gJ)) eN) (dP (Gp rfl HL (iB p2) (λfp s H C=>(eQ (dz (xT (pv 0) dQ) (fZ (iD mq (by rfl) T.n4 kf (fO (xT (pv 0) dQ))) (xT (pv 0) dQ))))) nd l6) (dP (sN 7 nd l7 (pc d44 hr T.g44 (dz p6 (fZ p3 p1)))) (dP (eZ (jK (iJ (gW (pc d10 hr T.g10 (fZ p6 p2)))) (jK (iJ (gW (pc d9 hr T.g9 (fO p7)))) (jc (qt i6 (xT p7 dQ) p5)))).pt (dS (eJ gJ)) eN) (dS (eJ (Ak (pc d13 hr T.g13 (fZ (xT p7 dQ) p4)) (Aj (qe (De hr.units) (xT p7 dQ) (pc d11 hr T.g11 (fO p4)))))))))))))))),S8.KO h⟩
end
end K5
namespace K5
open PySem L2 SW S9 S8
theorem Lw{l:PySem.W.OpenLaw}{w:World}{K:aA}{h:Heap}{mg:Str→Option Value}{fa:Addr}(X:K.In h)(G:h.Ns mainGlobals mg)(hfa:mg "law"=some (.ref fa))
  {f0 f1 f2 f3 f4 f5 f6 f7 f8 f9 f10 f11 f12 f13 f14 f15 f16 f17 f18 f19 f20 f21 f22 f23 f24 f25 f26 f27 f28 f29 f30 f31 f32 f33 f34 f35 f36 f37 f38 f39 f40 f41 f42 f43 f44 f45 C0 C1:Addr} {tk0:Tok}
  (aC0:PySem.W.nsIn K mainGlobals "Opening"=some (some (.ref C0)))
  (aC1:PySem.W.nsIn K mainGlobals "FreshWords"=some (some (.ref C1)))
  (a0:PySem.W.nsIn K mainGlobals "_law_any"=some (some (.ref f0)))
  (F0:gS K "_law_any" "_law_any" (gL 43) f0)
  (a1:PySem.W.nsIn K mainGlobals "_law_any_word"=some (some (.ref f1)))
  (F1:gS K "_law_any_word" "_law_any_word" (gL 42) f1)
  (a2:PySem.W.nsIn K mainGlobals "_law_whole"=some (some (.ref f2)))
  (F2:gS K "_law_whole" "_law_whole" (gL 29) f2)
  (a3:PySem.W.nsIn K mainGlobals "_law_inside"=some (some (.ref f3)))
  (F3:gS K "_law_inside" "_law_inside" (gL 31) f3)
  (a4:PySem.W.nsIn K mainGlobals "_law_room"=some (some (.ref f4)))
  (F4:gS K "_law_room" "_law_room" (gL 44) f4)
  (a5:PySem.W.nsIn K mainGlobals "_law_drawn_piece"=some (some (.ref f5)))
  (F5:gS K "_law_drawn_piece" "_law_drawn_piece" (gL 30) f5)
  (a6:PySem.W.nsIn K mainGlobals "_law_drawn_main"=some (some (.ref f6)))
  (F6:gS K "_law_drawn_main" "_law_drawn_main" (gL 33) f6)
  (a7:PySem.W.nsIn K mainGlobals "_law_is_piece"=some (some (.ref f7)))
  (F7:gS K "_law_is_piece" "_law_is_piece" (gL 38) f7)
  (a8:PySem.W.nsIn K mainGlobals "_law_drawn_book"=some (some (.ref f8)))
  (F8:gS K "_law_drawn_book" "_law_drawn_book" (gL 32) f8)
  (a9:PySem.W.nsIn K mainGlobals "_law_is_done"=some (some (.ref f9)))
  (F9:gS K "_law_is_done" "_law_is_done" (gL 41) f9)
  (a10:PySem.W.nsIn K mainGlobals "_law_so"=some (some (.ref f10)))
  (F10:gS K "_law_so" "_law_so" (gL 45) f10)
  (a11:PySem.W.nsIn K mainGlobals "_law_origins"=some (some (.ref f11)))
  (F11:gS K "_law_origins" "_law_origins" (gL 40) f11)
  (a12:PySem.W.nsIn K mainGlobals "_law_noted"=some (some (.ref f12)))
  (F12:gS K "_law_noted" "_law_noted" (gL 34) f12)
  (a13:PySem.W.nsIn K mainGlobals "_law_goes_with"=some (some (.ref f13)))
  (F13:gS K "_law_goes_with" "_law_goes_with" (gL 39) f13)
  (a14:PySem.W.nsIn K mainGlobals "_law_first_stamp"=some (some (.ref f14)))
  (F14:gS K "_law_first_stamp" "_law_first_stamp" (gL 35) f14)
  (a15:PySem.W.nsIn K mainGlobals "_law_placed"=some (some (.ref f15)))
  (F15:gS K "_law_placed" "_law_placed" (gL 36) f15)
  (a16:PySem.W.nsIn K mainGlobals "_law_laid"=some (some (.ref f16)))
  (F16:gS K "_law_laid" "_law_laid" (gL 37) f16)
  (a17:PySem.W.nsIn K mainGlobals "parts"=some (some (.ref f17)))
  (F17:gS K "parts" "parts" (gL 4) f17)
  (a18:PySem.W.nsIn K mainGlobals "every_piece"=some (some (.ref f18)))
  (F18:gS K "every_piece" "every_piece" (gL 5) f18)
  (a19:PySem.W.nsIn K mainGlobals "with_word"=some (some (.ref f19)))
  (F19:gS K "with_word" "with_word" (gL 6) f19)
  (a20:PySem.W.nsIn K mainGlobals "pieces_with_lets"=some (some (.ref f20)))
  (F20:gS K "pieces_with_lets" "pieces_with_lets" (gL 7) f20)
  (a21:PySem.W.nsIn K mainGlobals "outside_names"=some (some (.ref f21)))
  (F21:gS K "outside_names" "outside_names" (gL 8) f21)
  (a22:PySem.W.nsIn K mainGlobals "stamps_by_word"=some (some (.ref f22)))
  (F22:gS K "stamps_by_word" "stamps_by_word" (gL 10) f22)
  (a23:PySem.W.nsIn K mainGlobals "check_use"=some (some (.ref f23)))
  (F23:gS K "check_use" "check_use" (gL 11) f23)
  (a24:PySem.W.nsIn K mainGlobals "check_piece"=some (some (.ref f24)))
  (F24:gS K "check_piece" "check_piece" (gL 12) f24)
  (a25:PySem.W.nsIn K mainGlobals "check_stamps"=some (some (.ref f25)))
  (F25:gS K "check_stamps" "check_stamps" (gL 13) f25)
  (a26:PySem.W.nsIn K mainGlobals "numbered_word"=some (some (.ref f26)))
  (F26:gS K "numbered_word" "numbered_word" (gL 16) f26)
  (a27:PySem.W.findIn K (.ref C1) "__init__"=some (some (.ref f27)))
  (i27:PySem.W.isFn K (.ref f27)=true)
  (F27:gS K "__init__" "FreshWords.__init__" (ft (gL 17) 0) f27)
  (a28:PySem.W.findIn K (.ref C1) "fresh"=some (some (.ref f28)))
  (i28:PySem.W.isFn K (.ref f28)=true)
  (F28:gS K "fresh" "FreshWords.fresh" (ft (gL 17) 1) f28)
  (a29:PySem.W.nsIn K mainGlobals "all_outside_names"=some (some (.ref f29)))
  (F29:gS K "all_outside_names" "all_outside_names" (gL 19) f29)
  (a30:PySem.W.nsIn K mainGlobals "spots_within"=some (some (.ref f30)))
  (F30:gS K "spots_within" "spots_within" (gL 20) f30)
  (a31:PySem.W.nsIn K mainGlobals "has_stamps_to_open"=some (some (.ref f31)))
  (F31:gS K "has_stamps_to_open" "has_stamps_to_open" (gL 21) f31)
  (a32:PySem.W.nsIn K mainGlobals "row_at"=some (some (.ref f32)))
  (F32:gS K "row_at" "row_at" (gL 22) f32)
  (a33:PySem.W.findIn K (.ref C0) "__init__"=some (some (.ref f33)))
  (i33:PySem.W.isFn K (.ref f33)=true)
  (F33:gS K "__init__" "Opening.__init__" (ft (gL 23) 0) f33)
  (a34:PySem.W.findIn K (.ref C0) "take_name"=some (some (.ref f34)))
  (i34:PySem.W.isFn K (.ref f34)=true)
  (F34:gS K "take_name" "Opening.take_name" (ft (gL 23) 5) f34)
  (a35:PySem.W.findIn K (.ref C0) "take_plain"=some (some (.ref f35)))
  (i35:PySem.W.isFn K (.ref f35)=true)
  (F35:gS K "take_plain" "Opening.take_plain" (ft (gL 23) 7) f35)
  (a36:PySem.W.findIn K (.ref C0) "take_let"=some (some (.ref f36)))
  (i36:PySem.W.isFn K (.ref f36)=true)
  (F36:gS K "take_let" "Opening.take_let" (ft (gL 23) 6) f36)
  (a37:PySem.W.findIn K (.ref C0) "body_of"=some (some (.ref f37)))
  (i37:PySem.W.isFn K (.ref f37)=true)
  (F37:gS K "body_of" "Opening.body_of" (ft (gL 23) 3) f37)
  (a38:PySem.W.findIn K (.ref C0) "take"=some (some (.ref f38)))
  (i38:PySem.W.isFn K (.ref f38)=true)
  (F38:gS K "take" "Opening.take" (ft (gL 23) 2) f38)
  (a39:PySem.W.findIn K (.ref C0) "rows_of"=some (some (.ref f39)))
  (i39:PySem.W.isFn K (.ref f39)=true)
  (F39:gS K "rows_of" "Opening.rows_of" (ft (gL 23) 1) f39)
  (a40:PySem.W.findIn K (.ref C0) "meaning_of"=some (some (.ref f40)))
  (i40:PySem.W.isFn K (.ref f40)=true)
  (F40:gS K "meaning_of" "Opening.meaning_of" (ft (gL 23) 4) f40)
  (a41:PySem.W.nsIn K mainGlobals "piece_of"=some (some (.ref f41)))
  (F41:gS K "piece_of" "piece_of" (gL 24) f41)
  (a42:PySem.W.nsIn K mainGlobals "sources_of"=some (some (.ref f42)))
  (F42:gS K "sources_of" "sources_of" (gL 25) f42)
  (a43:PySem.W.nsIn K mainGlobals "write_out"=some (some (.ref f43)))
  (F43:gS K "write_out" "write_out" (gL 26) f43)
  (a44:PySem.W.nsIn K mainGlobals "expanded"=some (some (.ref f44)))
  (F44:gS K "expanded" "expanded" (gL 27) f44)
  (a45:PySem.W.nsIn K mainGlobals "law"=some (some (.ref f45)))
  (F45:gS K "law" "law" (gL 46) f45)
  (z0:PySem.W.nsIn K mainGlobals "abs"=some none)
  (z1:PySem.W.nsIn K mainGlobals "bool"=some none)
  (z2:PySem.W.nsIn K mainGlobals "isinstance"=some none)
  (z3:PySem.W.nsIn K mainGlobals "int"=some none)
  (z4:PySem.W.nsIn K mainGlobals "list"=some none)
  (z5:PySem.W.nsIn K mainGlobals "len"=some none)
  (z6:PySem.W.nsIn K mainGlobals "min"=some none)
  (z7:PySem.W.nsIn K mainGlobals "tuple"=some none)
  (z8:PySem.W.nsIn K mainGlobals "str"=some none)
  (z9:PySem.W.nsIn K mainGlobals "range"=some none)
  (z10:PySem.W.nsIn K mainGlobals "reversed"=some none)
  (z11:PySem.W.nsIn K mainGlobals "dict"=some none)
  (z12:PySem.W.nsIn K mainGlobals "sorted"=some none)
  (z13:PySem.W.nsIn K mainGlobals "enumerate"=some none)
  (z14:PySem.W.nsIn K mainGlobals "zip"=some none)
  (u0:PySem.W.nsIn K mainGlobals "LETTERS"=some (some (.str "abcdefghijklmnopqrstuvwxyz" tk0)))
  (pg0:PySem.W.plainGet K C0 Str.empty=true)
  (hd0:PySem.W.hasDictIn K C0=true)
  (po0:PySem.W.plainOver K C0=true)
  (sa0:PySem.W.findIn K (.ref C0) "__setattr__"=some (some (.builtin "object.__setattr__")))
  (mk0:PySem.W.makesIn K C0=true)
  (kc0:PySem.W.keepIn K (.ref C0)=true)
  (n0_stamps:PySem.W.findIn K (.ref C0) "stamps"=some none)
  (n0_lets:PySem.W.findIn K (.ref C0) "lets"=some none)
  (n0_fuel:PySem.W.findIn K (.ref C0) "fuel"=some none)
  (n0_many:PySem.W.findIn K (.ref C0) "many"=some none)
  (n0_ready:PySem.W.findIn K (.ref C0) "ready"=some none)
  (pg1:PySem.W.plainGet K C1 Str.empty=true)
  (hd1:PySem.W.hasDictIn K C1=true)
  (po1:PySem.W.plainOver K C1=true)
  (sa1:PySem.W.findIn K (.ref C1) "__setattr__"=some (some (.builtin "object.__setattr__")))
  (mk1:PySem.W.makesIn K C1=true)
  (kc1:PySem.W.keepIn K (.ref C1)=true)
  (n1_taken:PySem.W.findIn K (.ref C1) "taken"=some none)
  (n1_tried:PySem.W.findIn K (.ref C1) "tried"=some none):
  ∃fd:FuncData,(∀(s:Shared)(v:Value),BindsTo s fd ⟨[v],[]⟩ [("_law_script",v)])∧∀base:Heap,K.In base→base.Ns mainGlobals mg→lL l.prog w K mg base vv 11 fa fd ["_law_script"] (S1.MD K):=by
 have e:=hfa.symm.trans (aK X G a45);cases e;have T:Mm K mg ⟨f0,f1,f2,f3,f4,f5,f6,f7,f8,f9,f10,f11,f12,f13,f14,f15,f16,f17,f18,f19,f20,f21,f22,f23,f24,f25,f26,f27,f28,f29,f30,f31,f32,f33,f34,f35,f36,f37,f38,f39,f40,f41,f42,f43,f44,C0,C1⟩:=⟨aq X G z0,aq X G z1,aq X G z2,aq X G z3,aq X G z4,aq X G z5,aq X G z6,aq X G z7,aq X G z8,aq X G z9,aq X G z10,aq X G z11,aq X G z12,aq X G z13,aq X G z14,aK X G a0,aK X G a1,aK X G a2,aK X G a3,aK X G a4,aK X G a5,aK X G a6,aK X G a7,aK X G a8,aK X G a9,aK X G a10,aK X G a11,aK X G a12,aK X G a13,aK X G a14,aK X G a15,aK X G a16,aK X G a17,aK X G a18,aK X G a19,aK X G a20,aK X G a21,aK X G a22,aK X G a23,aK X G a24,aK X G a25,aK X G a26,aK X G a29,aK X G a30,aK X G a31,aK X G a32,aK X G a41,aK X G a42,aK X G a43,aK X G a44,⟨_,aK X G u0⟩,aK X G aC0,⟨pg0,hd0,po0,sa0⟩,aK X G aC1,⟨pg1,hd1,po1,sa1⟩⟩;have ro:RO K C0:=⟨⟨pg0,hd0,po0,sa0⟩,n0_stamps,n0_lets,n0_fuel,n0_many,n0_ready⟩;have rw:RW K C1:=⟨⟨pg1,hd1,po1,sa1⟩,n1_taken,n1_tried⟩;have Y:∀{x q:Str}{st:Stmt}{f:Addr},gS K x q st f→PySem.W.keepIn K (.ref f)=true:=λ⟨_,z⟩=>z.kp;have g__law_any:∀base:Heap,Ds l.prog w K mg base 1 f0 ["_law_cell"] tu:=λbase=>HG T ro rw F0;have g__law_any_word:∀base:Heap,Ds l.prog w K mg base 1 f1 ["_law_cell"] pK:=λbase=>Ja T ro rw F1;have g__law_whole:∀base:Heap,Ds l.prog w K mg base 1 f2 ["_law_found"] jp:=λbase=>JA T ro rw F2;have g__law_inside:∀base:Heap,Ds l.prog w K mg base 1 f3 ["_law_piece"] gt:=λbase=>G9 T ro rw F3;have g__law_room:∀base:Heap,Ds l.prog w K mg base 1 f4 ["_law_script","_law_most","_law_bound"] (nB K):=λbase=>Dj T ro rw F4;have g__law_drawn_piece:∀base:Heap,Ds l.prog w K mg base 2 f5 ["_law_cells","_law_stamps"] (gn K):=λbase=>JW T ro rw F5 (g__law_any_word base) (g__law_any base);have g__law_drawn_main:∀base:Heap,Ds l.prog w K mg base 3 f6 ["_law_cells"] (nC K):=λbase=>Dk T ro rw F6 ((g__law_drawn_piece base).imp (λ_ _ _ _ z=>⟨_,_,z.two⟩));have g__law_is_piece:∀base:Heap,Ds l.prog w K mg base 2 f7 ["_law_found"] kE:=λbase=>JR T ro rw F7 (g__law_whole base) (g__law_inside base);have g__law_drawn_book:∀base:Heap,Ds l.prog w K mg base 3 f8 ["_law_cells","_law_wild"] (pS K):=λbase=>JY T ro rw F8 (g__law_drawn_piece base);have g__law_is_done:∀base:Heap,Ds l.prog w K mg base 3 f9 ["_law_found"] pQ:=λbase=>JX T ro rw F9 (g__law_whole base) (g__law_is_piece base);have g__law_so:∀base:Heap,Ds l.prog w K mg base 1 f10 ["_law_found","_law_due"] tX:=λbase=>Gy T ro rw F10;have g__law_origins:∀base:Heap,Ds l.prog w K mg base 1 f11 ["_law_tree"] tZ:=λbase=>G8 T ro rw F11;have g__law_noted:∀base:Heap,Ds l.prog w K mg base 2 f12 ["_law_piece","_law_source","_law_given","_law_count"] lO:=λbase=>JO T ro rw F12 (g__law_inside base);have g__law_goes_with:∀base:Heap,Ds l.prog w K mg base 2 f13 ["_law_found","_law_tree"] pN:=λbase=>JT T ro rw F13 (g__law_inside base);have g__law_first_stamp:∀base:Heap,Ds l.prog w K mg base 1 f14 ["_law_tree"] qh:=λbase=>JU T ro rw F14;have g__law_placed:∀base:Heap,Ds l.prog w K mg base 1 f15 ["_law_tree","_law_path","_law_made"] tY:=λbase=>JL T ro rw F15;have g__law_laid:∀base:Heap,Ds l.prog w K mg base 3 f16 ["_law_book","_law_piece","_law_fuel"] mE:=λbase=>JQ T ro rw F16 (g__law_noted base) (g__law_first_stamp base) (g__law_placed base);have g_parts:∀base:Heap,Ds l.prog w K mg base 1 f17 ["piece"] iU:=λbase=>Ar T ro rw F17;have g_every_piece:∀base:Heap,Ds l.prog w K mg base 2 f18 ["piece"] kU:=λbase=>JV T ro rw F18 (g_parts base);have g_with_word:∀base:Heap,Ds l.prog w K mg base 1 f19 ["words","word","value"] iZ:=λbase=>Iy T ro rw F19;have g_pieces_with_lets:∀base:Heap,Ds l.prog w K mg base 2 f20 ["piece","lets"] qg:=λbase=>G0 T ro rw F20 (g_with_word base) ((g_parts base).imp (λ_ _ _ _ z=>S9.Ir z));have g_outside_names:∀base:Heap,Ds l.prog w K mg base 3 f21 ["piece"] oG:=λbase=>G7 T ro rw F21 (g_pieces_with_lets base);have g_stamps_by_word:∀base:Heap,Ds l.prog w K mg base 1 f22 ["book"] jZ:=λbase=>Gz T ro rw F22;have g_check_use:∀base:Heap,Ds l.prog w K mg base 2 f23 ["stamps","use"] pL:=λbase=>HB T ro rw F23 (g_parts base);have g_check_piece:∀base:Heap,Ds l.prog w K mg base 3 f24 ["stamps","piece"] nE:=λbase=>HC T ro rw F24 (g_every_piece base) (g_check_use base);have g_check_stamps:∀base:Heap,Ds l.prog w K mg base 4 f25 ["book","piece"] pR:=λbase=>HD T ro rw F25 (g_stamps_by_word base) (g_check_piece base);have g_numbered_word:∀base:Heap,Ds l.prog w K mg base 1 f26 ["number"] pM:=λbase=>JN T ro rw F26;have g_FreshWords___init__:∀base:Heap,Ds l.prog w K mg base 1 f27 ["self","taken"] (tm C1):=λbase=>I9 T ro rw F27;have g_FreshWords_fresh:∀base:Heap,Ds l.prog w K mg base 2 f28 ["self","word"] (mU C1):=λbase=>JB T ro rw F28 (g_numbered_word base);have g_all_outside_names:∀base:Heap,Ds l.prog w K mg base 4 f29 ["book","piece"] tq:=λbase=>HF T ro rw F29 (g_outside_names base);have g_spots_within:∀base:Heap,Ds l.prog w K mg base 2 f30 ["spot"] iT:=λbase=>JH T ro rw F30 (g_parts base);have g_has_stamps_to_open:∀base:Heap,Ds l.prog w K mg base 4 f31 ["spot"] tj:=λbase=>JS T ro rw F31 (g_every_piece base) (g_outside_names base);have g_row_at:∀base:Heap,Ds l.prog w K mg base 1 f32 ["spot","head","many"] mT:=λbase=>JJ T ro rw F32;have g_Opening___init__:∀base:Heap,Ds l.prog w K mg base 5 f33 ["self","book","piece","fuel"] (xt C0 C1):=λbase=>JM T ro rw F33 (g_stamps_by_word base) (g_all_outside_names base) (g_FreshWords___init__ base) ⟨mk1,a27,i27,kc1⟩;have g_Opening_take_name:∀base:Heap,Ds l.prog w K mg base 2 f34 ["self","spot","waiting","rows"] xp:=λbase=>JD T ro rw F34 (g_row_at base);have g_Opening_take_plain:∀base:Heap,Ds l.prog w K mg base 3 f35 ["self","spot","waiting","rows"] xo:=λbase=>JC T ro rw F35 (g_spots_within base) (g_row_at base);have g_Opening_take_let:∀base:Heap,Ds l.prog w K mg base 3 f36 ["self","spot","waiting","rows"] (xq C0 C1):=λbase=>JE T ro rw F36 (g_FreshWords_fresh base) ⟨a28,i28,Y F28⟩ (g_spots_within base) (g_row_at base) (g_with_word base);have g_Opening_body_of_v0:∀base:Heap,Ds l.prog w K mg base 1 f37 ["self","spot"] wU:=λbase=>HE F37;have g_Opening_take_v1:∀base:Heap,Ds l.prog w K mg base 4 f38 ["self","spot","waiting","rows"] (tW C0 C1):=λbase=>JF T ro rw F38 (g_Opening_body_of_v0 base) ⟨a37,i37,Y F37⟩ (g_Opening_take_name base) ⟨a34,i34,Y F34⟩ (g_Opening_take_let base) ⟨a36,i36,Y F36⟩ (g_Opening_take_plain base) ⟨a35,i35,Y F35⟩;have g_Opening_rows_of_v1:∀base:Heap,Ds l.prog w K mg base 5 f39 ["self","spot"] (mS C0 C1):=λbase=>Di T ro rw F39 (g_Opening_take_v1 base) ⟨a38,i38,Y F38⟩;have g_Opening_meaning_of:∀base:Heap,Ds l.prog w K mg base 6 f40 ["self","handed"] (AA C0 C1):=λbase=>JP T ro rw F40 (g_has_stamps_to_open base) (g_Opening_rows_of_v1 base) ⟨a39,i39,Y F39⟩;have g_Opening_body_of:∀base:Heap,Ds l.prog w K mg base 7 f37 ["self","spot"] (AB C0 C1):=λbase=>JZ T ro rw F37 (g_spots_within base) (g_Opening_meaning_of base) ⟨a40,i40,Y F40⟩;have g_Opening_take_v2:∀base:Heap,Ds l.prog w K mg base 8 f38 ["self","spot","waiting","rows"] (tV C0 C1):=λbase=>JG T ro rw F38 (g_Opening_body_of base) ⟨a37,i37,Y F37⟩ (g_Opening_take_name base) ⟨a34,i34,Y F34⟩ (g_Opening_take_let base) ⟨a36,i36,Y F36⟩ (g_Opening_take_plain base) ⟨a35,i35,Y F35⟩;have g_Opening_rows_of_v2:∀base:Heap,Ds l.prog w K mg base 9 f39 ["self","spot"] (lN C0 C1):=λbase=>Dh T ro rw F39 (g_Opening_take_v2 base) ⟨a38,i38,Y F38⟩;have g_piece_of:∀base:Heap,Ds l.prog w K mg base 1 f41 ["rows","written"] zy:=λbase=>JK T ro rw F41;have g_sources_of:∀base:Heap,Ds l.prog w K mg base 1 f42 ["rows","written"] S9.Ih:=λbase=>JI T ro rw F42;have g_write_out:∀base:Heap,Ds l.prog w K mg base 2 f43 ["rows","written"] tU:=λbase=>Iz T ro rw F43 (g_sources_of base) (g_piece_of base);have g_expanded:∀base:Heap,Ds l.prog w K mg base 10 f44 ["book","piece","fuel"] (pO C0 C1):=λbase=>HA T ro rw F44 (g_check_stamps base) (g_Opening___init__ base) ⟨mk0,a33,i33,kc0⟩ (g_Opening_rows_of_v2 base) ⟨a39,i39,Y F39⟩ (g_write_out base);obtain⟨fd,Fl⟩:=F45;refine⟨fd,λs v=>?_,λbase _ _=>Dl T ro rw Fl (g__law_room base) (g__law_drawn_book base) (g__law_drawn_main base) (g__law_laid base) (g_expanded base) (g__law_is_done base) (g__law_so base) (g__law_origins base) (g__law_goes_with base)⟩;obtain⟨oc,od,kV,doc,pm,an,cdv,ct,osl,rfl,lk,hcd⟩:=Fl.ex;exact .of_eq rfl
theorem M6{l:PySem.W.OpenLaw}{q:Program}{loose:List Str}{XP:(Str→Option Value)→Heap→Prop}{YP:World→Heap→Prop}{d:DefRec}{K:Params→aA}(hn:l.most=some 63)(hdf:d.params.defaults=[])
  (hY:∀(w:World)(h:Heap),YP w h→(K w.params).In h)
  (F:∀(w:World)(mg:Str→Option Value)(fa:Addr)(h:Heap),(K w.params).In h→h.Ns mainGlobals mg→mg d.name=some (.ref fa)→
   ∃fd:FuncData,(∀(s:Shared)(u:Value),BindsTo s fd ⟨[u],[]⟩ [("_law_script",u)])∧∀base:Heap,(K w.params).In base→base.Ns mainGlobals mg→lL l.prog w (K w.params) mg base vv 11 fa fd ["_law_script"] (S1.MD (K w.params))):
  PySem.W.WalkO q loose XP YP l.row.toRowW d [] (λf vs=>PySem.call f vs):=
 L2.KI (n:=63) (k:=11) (x:="_law_script") (CX:=λ_=>vv) (sp:=λw=>S1.MD (K w.params)) hn (by decide) hdf ⟨rfl,by decide,by decide⟩ hY F (λ_ _ a ns hl _ hS=>⟨a,ns,rfl,hS,hl,λ_=>rfl⟩) λ_ _ _ _ _ z=>z
end K5
open PySem PySem.W PyProof.Rows
set_option maxRecDepth 100000 in
set_option maxHeartbeats 0 in
theorem PySem.Challenge.cw_stampword_k05_whole_where_pieces_come_fr_holds : PySem.Challenge.rw_stampword_k05_whole_where_pieces_come_fr.Holds := by
 w_on;refine QWtp ?_
 k_fill
 refine K5.M6 (l:=PySem.Challenge.rw_stampword_k05_whole_where_pieces_come_fr) rfl rfl (λw h Y=>PySem.W.kIn_of Y) ?F
 case F=>
  intro w mg fa h KX G hmg
  refine' K5.Lw KX G hmg ?aC0 ?aC1 ?a0 ?F0 ?a1 ?F1 ?a2 ?F2 ?a3 ?F3 ?a4 ?F4 ?a5 ?F5 ?a6 ?F6 ?a7 ?F7 ?a8 ?F8 ?a9 ?F9 ?a10 ?F10 ?a11 ?F11 ?a12 ?F12 ?a13 ?F13 ?a14 ?F14 ?a15 ?F15 ?a16 ?F16 ?a17 ?F17 ?a18 ?F18 ?a19 ?F19 ?a20 ?F20 ?a21 ?F21 ?a22 ?F22 ?a23 ?F23 ?a24 ?F24 ?a25 ?F25 ?a26 ?F26 ?a27 ?i27 ?F27 ?a28 ?i28 ?F28 ?a29 ?F29 ?a30 ?F30 ?a31 ?F31 ?a32 ?F32 ?a33 ?i33 ?F33 ?a34 ?i34 ?F34 ?a35 ?i35 ?F35 ?a36 ?i36 ?F36 ?a37 ?i37 ?F37 ?a38 ?i38 ?F38 ?a39 ?i39 ?F39 ?a40 ?i40 ?F40 ?a41 ?F41 ?a42 ?F42 ?a43 ?F43 ?a44 ?F44 ?a45 ?F45 ?z0 ?z1 ?z2 ?z3 ?z4 ?z5 ?z6 ?z7 ?z8 ?z9 ?z10 ?z11 ?z12 ?z13 ?z14 ?u0 ?pg0 ?hd0 ?po0 ?sa0 ?mk0 ?kc0 ?n0_stamps ?n0_lets ?n0_fuel ?n0_many ?n0_ready ?pg1 ?hd1 ?po1 ?sa1 ?mk1 ?kc1 ?n1_taken ?n1_tried
  case aC0|aC1|a0|F0|a1|F1|a2|F2|a3|F3|a4|F4|a5|F5|a6|F6|a7|F7|a8|F8|a9|F9|a10|F10|a11|F11|a12|F12|a13|F13|a14|F14|a15|F15|a16|F16|a17|F17|a18|F18|a19|F19|a20|F20|a21|F21|a22|F22|a23|F23|a24|F24|a25|F25|a26|F26|a27|i27|F27|a28|i28|F28|a29|F29|a30|F30|a31|F31|a32|F32|a33|i33|F33|a34|i34|F34|a35|i35|F35|a36|i36|F36|a37|i37|F37|a38|i38|F38|a39|i39|F39|a40|i40|F40|a41|F41|a42|F42|a43|F43|a44|F44|a45|F45|z0|z1|z2|z3|z4|z5|z6|z7|z8|z9|z10|z11|z12|z13|z14|u0|pg0|hd0|po0|sa0|mk0|kc0|n0_stamps|n0_lets|n0_fuel|n0_many|n0_ready|pg1|hd1|po1|sa1|mk1|kc1|n1_taken|n1_tried=>first|(apply L2.LX;k_is;k_is;k_is)|k_is
#print axioms PySem.Challenge.cw_stampword_k05_whole_where_pieces_come_fr_holds
