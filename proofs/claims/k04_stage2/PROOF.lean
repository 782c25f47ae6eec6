import PyProof.Rows.All
import Wide.All
import OpenK.KSplit
import OpenK.KNot
import OpenK.KApp
import OpenK.KLine
import KE.KDictList
import KE.KDictOf
import KE.KItem
import KE.KRevIter
import KE.RegKTryMore
import Wide.FinOn
import Lean
import PyProof.EqAt
import PyProof.EqKinds
import PyProof.TupleCall
import PySem.Challenge.RW_stampword_k04_whole_means_the_same
set_option Elab.async false
set_option linter.all false
set_option maxRecDepth 100000
set_option maxHeartbeats 4000000
namespace QW
open PySem PySem.W PyProof.Rows
abbrev pw := PySem.Challenge.pw_stampword_k04_whole_means_the_same
abbrev rw := PySem.Challenge.rw_stampword_k04_whole_means_the_same
def tq (i : Nat) : Stmt := pw.main.body.getD i (.Pass ⟨0, 0, 0, 0⟩)
def qv : Program := { pw with main := { pw.main with body := [tq 1, tq 2, tq 3, tq 5, tq 6, tq 7, tq 8, tq 9, tq 11, tq 12, tq 13, tq 14, tq 16, tq 17, tq 18, tq 20, tq 21, tq 22, tq 23, tq 24, tq 25, tq 26, tq 27, tq 28, tq 30, tq 31, tq 32, tq 33, tq 34, tq 36, tq 37, tq 38, tq 39, tq 40, tq 41, tq 42, tq 43, tq 44, tq 45, tq 46, tq 47, tq 48, tq 49, tq 50, tq 51, tq 52, tq 53, tq 54, tq 55] } }
abbrev Xt : Shared → Bool := fun s => xlAt qv [] s && recOk (RowW.records (OpenRow.toRowW rw.row)) s
theorem lfG {p q : Program} {X : Shared → Bool} {N : Nat} {α : Type} {Yf : Shared → α} {Ya : World → α} (a : ∀ w, (openEnds treeTable p w N).map (fun s => (seen ((recsOf q).map (·.name)) (ownsOf q) [] { s with gens := #[] }, s.heap.bltView)) = some (expectedOf q, bltViewBooted)) (b : ∀ w, (openEnds treeTable p w N).map (fun s => (openSeen q [] (importedModules p.main.body) X true s).2.2) = some (openGood q []).2.2) (c : ∀ w, (openEnds treeTable p w N).map Yf = some (Ya w)) : LeftO p q [] X Yf Ya N := fun w => by
  have a := a w
  have b := b w
  have c := c w
  revert a b c
  cases openEnds treeTable p w N with
  | none => intro a; cases a
  | some s =>
    intro a b c
    have a := Prod.mk.inj (Option.some.inj a)
    exact congrArg some (Prod.ext (Prod.ext a.1 (Prod.ext a.2 (Option.some.inj b))) (Option.some.inj c))
theorem ta (w : World) : (openEnds treeTable pw w 5686).map (fun s => (seen ((recsOf qv).map (·.name)) (ownsOf qv) [] { s with gens := #[] }, s.heap.bltView)) = some (expectedOf qv, bltViewBooted) := by kernel_rfl
theorem tb (w : World) : (openEnds treeTable pw w 5686).map (fun s => (openSeen qv [] (importedModules pw.main.body) Xt true s).2.2) = some (openGood qv []).2.2 := by kernel_rfl
theorem ws : rw.wellSaid = true := by decide +kernel
end QW
section
open PySem PySem.W PyProof.Rows
set_option hygiene false in
local macro_rules | `(tactic| o_law) => `(tactic| refine holds_law QW.ws fun said => ?_)
set_option hygiene false in
local macro_rules | `(tactic| o_head $H) => `(tactic| (refine holds_open (q := QW.qv) (loose := []) (Xt := QW.Xt) (XP := XL QW.qv []) (Yf := Hook.obs $H) (Ya := Hook.val $H) (YP := Hook.says $H) (N := 5686) (QW.lfG QW.ta QW.tb fun _ => by kernel_rfl) (Hook.of $H) (Hook.keeps $H) (fun s e => xl_of s (Bool.and_eq_true_iff.mp e).1) XL.keeps (by rfl) (by rfl) (by rfl) (fun s e => recFacts_of (Bool.and_eq_true_iff.mp e).2) (by rfl) (by assumption) (by decide +kernel) ⟨rfl, rfl, rfl, rfl, rfl, by decide +kernel⟩ ?hw ?hc <;> clear said))
open_top QWtp for PySem.Challenge.rw_stampword_k04_whole_means_the_same
end
local macro_rules|`(tactic|decide)=>`(tactic|decide+kernel)

abbrev aA:=PySem.W.Frag
abbrev aB:=@List.mem_cons
abbrev aC:=@Nat.le_refl
abbrev aD:=@List.length_cons
abbrev aE:=@List.length_append
abbrev aF:=@List.mem_singleton
abbrev aG:=@List.not_mem_nil
abbrev aH:=@PySem.W.mg_of
abbrev aI:=@True.intro
abbrev aJ:=@Nat.ne_of_lt
abbrev aK:=@List.getElem?_eq_some_iff
abbrev aL:=@List.mem_append_right
abbrev aM:=@List.size_toArray
abbrev aN:=@List.cons_append
abbrev aO:=@List.length_map
abbrev aP:=@Nat.le_trans
abbrev aQ:=@List.mem_append
abbrev aR:=@Bool.false_ne_true
abbrev aS:=@Nat.zero_le
abbrev aT:=@List.getElem?_map
abbrev aU:=@List.getElem?_eq_getElem
abbrev aV:=@List.map_cons
abbrev aW:=@List.append_assoc
abbrev aX:=@List.append_nil
abbrev aY:=@Nat.lt_of_lt_of_le
abbrev aZ:=@List.mem_of_getElem?
abbrev aa:=@Nat.add_mul
abbrev ac:=@Ne.symm
abbrev ae:=@List.mem_append_left
abbrev af:=@List.drop_zero
abbrev ag:=@List.length_take
abbrev ah:=@List.length_drop
abbrev aj:=@List.reverse_cons
abbrev ak:=@List.nil_append
abbrev am:=@List.length_nil
abbrev ao:=@PySem.W.mg_none_of
abbrev aq:=@Nat.lt_succ_self
abbrev au:=@List.getElem?_append_left
abbrev av:=@Or.inl
abbrev aw:=@List.take_zero
abbrev ax:=@List.mem_cons_of_mem
abbrev ay:=@List.take_add_one
abbrev az:=@Nat.ne_of_gt
abbrev a4:=@PySem.W.kia_one
abbrev a5:=@List.length_singleton
abbrev a6:=@List.take_length
abbrev a8:=@List.take_succ_cons
abbrev a9:=@List.drop_succ_cons
abbrev bA:=@List.map_nil
abbrev bB:=@Nat.sub_self
abbrev bC:=@List.getElem?_append_right
abbrev bD:=@Or.inr
abbrev bE:=@Nat.lt_or_ge
abbrev bF:=@List.length_eq_zero_iff
abbrev bG:=@List.length_reverse
abbrev bH:=@Option.getD_some
abbrev bI:=@Nat.le_of_lt
abbrev bJ:=@PyProof.Rows.callWith_type1
abbrev bK:=@Nat.le_succ
abbrev bL:=@List.nodup_cons
abbrev bM:=@List.find?_cons
abbrev bN:=@List.map_map
abbrev bO:=@List.mem_map
abbrev bQ:=@List.take_of_length_le
abbrev bR:=@List.drop_eq_getElem_cons
abbrev bS:=@Nat.lt_irrefl
abbrev bT:=@Bool.and_eq_true
abbrev bU:=@Nat.mul_le_mul_right
abbrev bV:=@List.mem_cons_self
abbrev bW:=@PyProof.Rows.slot_tuple_getitem
abbrev bX:=@List.any_cons
abbrev bY:=@Option.map_some
abbrev bZ:=@Nat.min_eq_left
abbrev ba:=@Nat.le_add_right
abbrev bb:=@And.intro
abbrev bc:=@PySem.F.plainAttrs_list
abbrev be:=@Array.length_toList
abbrev bf:=@PySem.mem_of_lookup
abbrev bg:=@Int.toNat_natCast
abbrev bh:=@Nat.sub_zero
abbrev bi:=@Nat.zero_add
abbrev bj:=@Nat.one_mul
abbrev bn:=@PySem.W.hideAll_get
abbrev bp:=@Bool.eq_iff_iff
abbrev bq:=@PySem.W.callWith_K
abbrev br:=@List.of_mem_zip
abbrev bu:=@List.pairwise_cons
abbrev bw:=@Array.toList_append
abbrev bx:=@Int.emod_nonneg
abbrev bz:=@List.any_eq_true
abbrev b4:=@List.take_left'
abbrev b5:=@List.take_append_drop
abbrev b9:=@List.sum_cons
abbrev cA:=@List.getD_eq_getElem?_getD
abbrev cB:=@List.drop_of_length_le
abbrev cC:=@List.set_cons_zero
abbrev cD:=@PySem.F.slot_list_extend
abbrev cE:=@PySem.F.type_list_extend
abbrev cF:=@List.filterMap_cons
abbrev cG:=@List.getElem_inj
abbrev cH:=@List.mem_filterMap
abbrev cI:=@List.any_eq_false
abbrev cJ:=@PySem.W.plainGet_of
abbrev cK:=@List.length_replicate
abbrev cL:=@PySem.F.slot_tuple_add
abbrev cM:=@PySem.F.entry_tuple_add
abbrev cO:=@PySem.F.args_tuple_add_2
abbrev cP:=@Array.getElem?_toList
abbrev cQ:=@Option.isSome_map
abbrev cR:=@Nat.lt_trans
abbrev cS:=@PySem.F.slot_dict_get
abbrev cT:=@Nat.lt_of_le_of_lt
abbrev cU:=@Nat.add_comm
abbrev cV:=@List.drop_left'
abbrev cW:=@Nat.add_sub_cancel_left
abbrev cX:=@Nat.pow_succ
abbrev cY:=@Nat.mul_add
abbrev cZ:=@List.take_left
abbrev ca:=@List.getElem_of_mem
abbrev cb:=@List.reverse_reverse
abbrev ce:=@Function.comp_def
abbrev cf:=@List.set_cons_succ
abbrev cg:=@Option.bind_some
abbrev ci:=@List.getElem?_set_self
abbrev cj:=@List.getElem?_set_ne
abbrev ck:=@PyProof.noPylong_small
abbrev cm:=@PySem.W.cellsFrom_some
abbrev cp:=@Option.isSome_iff_exists
abbrev cq:=@List.getElem?_replicate
abbrev cr:=@List.getElem?_take_of_lt
abbrev cs:=@PySem.F.entry_dict_get
abbrev cu:=@PySem.F.args_dict_get_3
abbrev cw:=@Nat.le_of_ble_eq_true
abbrev cy:=@Int.eq_ofNat_of_zero_le
abbrev cz:=@List.getElem?_range
abbrev c3:=@Function.comp_apply
abbrev dA:=@List.map_congr_left
abbrev dB:=@List.getElem?_reverse
abbrev dC:=@List.getElem?_eq_none
abbrev dD:=@List.take_append_of_le_length
abbrev dE:=@List.mem_of_mem_take
abbrev dF:=@List.length_pos_iff
abbrev dG:=@List.mem_or_eq_of_mem_set
abbrev dH:=@List.reverse_append
namespace L2
open PySem PySem.Spec PyProof.Rows
abbrev fB:=Sum Int Str
def qH:fB->Value->Bool
 | .inl k,v=>Value.isInt k v
 | .inr x,v=>Value.isStrOf x v
def On(w:World):fB->Int
 | .inl k=>hashInt k
 | .inr x=>hashStr w x
theorem gH:∀{k:fB}{v:Value},qH k v=true->(∃i t,k=Sum.inl i/\v=Value.int i t)∨(∃x t,k=Sum.inr x/\v=Value.str x t)
 | .inl i,v,h=>by obtain⟨t,e⟩:=Value.isInt_shape (k:=i) (v:=v) h;exact .inl ⟨i,t,rfl,e⟩
 | .inr x,v,h=>by obtain⟨t,e⟩:=Value.isStrOf_shape (x:=x) (v:=v) h;exact .inr ⟨x,t,rfl,e⟩
theorem zy(i:Int)(t:Tok):qH (.inl i) (.int i t)=true:=by simp[qH,Value.isInt]
theorem zx(x:Str)(t:Tok):qH (.inr x) (.str x t)=true:=by simp[qH,Value.isStrOf]
theorem KH(a b:Int):decide ((Sum.inl a:fB)=Sum.inl b)=(a==b):=by
 by_cases e:a=b
 ·subst e;simp
 ·have h:¬(Sum.inl a:fB)=Sum.inl b:=λq=>e (Sum.inl.inj q);rw[decide_eq_false h];exact(beq_eq_false_iff_ne.mpr e).symm
theorem KE(a b:Str):decide ((Sum.inr a:fB)=Sum.inr b)=decide (a=b):=by
 by_cases e:a=b
 ·subst e;simp
 ·have h:¬(Sum.inr a:fB)=Sum.inr b:=λq=>e (Sum.inr.inj q);rw[decide_eq_false h,decide_eq_false e]
theorem KG(a:Int)(b:Str):decide ((Sum.inl a:fB)=Sum.inr b)=false:=decide_eq_false (λq=>nomatch q)
theorem KF(a:Str)(b:Int):decide ((Sum.inr a:fB)=Sum.inl b)=false:=decide_eq_false (λq=>nomatch q)
def gJ(prog:Program)(w:World):PySem.KeyKind prog w fB where
 is:=qH
 hash:=On w
 inj:=λv a b ha hb=>by
  rcases gH ha with⟨i,t,rfl,rfl⟩|⟨x,t,rfl,rfl⟩
  ·rcases gH hb with⟨j,u,rfl,e⟩|⟨y,u,rfl,e⟩
   ·injection e with e1 _;rw[e1]
   ·exact nomatch e
  ·rcases gH hb with⟨j,u,rfl,e⟩|⟨y,u,rfl,e⟩
   ·exact nomatch e
   ·injection e with e1 _;rw[e1]
 byValue:=λk v h=>by rcases gH h with⟨i,t,rfl,rfl⟩|⟨x,t,rfl,rfl⟩<;>rfl
 pyHash:=λhv h=>by
  rcases gH hv with⟨i,t,rfl,rfl⟩|⟨x,t,rfl,rfl⟩
  ·exact wpAny_pyHash_int h
  ·exact wpAny_pyHash_str h
 eqBool:=λhu hv h=>by
  rcases gH hu with⟨i,t,rfl,rfl⟩|⟨x,t,rfl,rfl⟩
  ·rcases gH hv with⟨j,u,rfl,rfl⟩|⟨y,u,rfl,rfl⟩
   ·rw[KH]at h;exact wpAny_eqBool_int h
   ·rw[KG]at h;exact SeqAt.EqAt.int_str i t y u _ _ _ _ h
  ·rcases gH hv with⟨j,u,rfl,rfl⟩|⟨y,u,rfl,rfl⟩
   ·rw[KF]at h;exact SeqAt.EqAt.str_int x t j u _ _ _ _ h
   ·rw[KE]at h;exact wpAny_eqBool_str h
 «strs»:=λk x t v h=>by
  rcases gH h with⟨i,u,rfl,e⟩|⟨y,u,rfl,e⟩
  ·exact nomatch e
  ·injection e with e1 _;subst e1;cases v<;>rfl
theorem ue(prog:Program)(w:World)(i:Int)(t:Tok):(gJ prog w).is (.inl i) (.int i t)=true:=zy i t
theorem ud(prog:Program)(w:World)(x:Str)(t:Tok):(gJ prog w).is (.inr x) (.str x t)=true:=zx x t
inductive V where
 | non|bl(b:Bool)|int(i:Int)|str(x:Str)|byt(b:Array UInt8)|flt(b:UInt64)|ref(a:Addr)|ty(n:String)
 deriving DecidableEq
def fH:V->Value->Prop
 | .non,u=>u=Value.none
 | .bl b,u=>u=Value.bool b
 | .int i,u=>∃t,u=Value.int i t
 | .str x,u=>∃t,u=Value.str x t
 | .byt b,u=>∃t,u=Value.bytes b t
 | .flt b,u=>∃t,u=Value.float b t
 | .ref a,u=>u=Value.ref a
 | .ty n,u=>u=Value.type n
abbrev eu:List V->List Value->Prop:=Paired fH
theorem eu.length(r:eu xs us):xs.length=us.length:=Paired.length r
theorem eu.get:∀{xs:List V}{us:List Value}{i:Nat}{x:V},eu xs us->xs[i]?=some x->∃u,us[i]?=some u/\fH x u
 | _,_,_,_,.nil,e=>by simp at e
 | _,_,0,_,.cons r _,e=>by simp at e;subst e;exact⟨_,rfl,r⟩
 | _,_,i+1,x,.cons _ t,e=>by obtain⟨u,h1,h2⟩:=eu.get (i:=i) (x:=x) t (by simpa using e);exact⟨u,by simpa using h1,h2⟩
theorem eu.set(r:fH x u):∀{xs:List V}{us:List Value}(i:Nat),eu xs us->eu (xs.set i x) (us.set i u)
 | _,_,_,.nil=>.nil
 | _,_,0,.cons _ t=>.cons r t
 | _,_,i+1,.cons q t=>.cons q (eu.set r i t)
theorem eu.append:∀{xs ys:List V}{us ws:List Value},eu xs us->eu ys ws->eu (xs++ys) (us++ws)
 | _,_,_,_,.nil,s=>s
 | _,_,_,_,.cons r t,s=>.cons r (eu.append t s)
theorem eu.take:∀{xs:List V}{us:List Value}(n:Nat),eu xs us->eu (xs.take n) (us.take n)
 | _,_,0,_=>.nil
 | _,_,_+1,.nil=>.nil
 | _,_,n+1,.cons r t=>.cons r (eu.take n t)
theorem eu.drop:∀{xs:List V}{us:List Value}(n:Nat),eu xs us->eu (xs.drop n) (us.drop n)
 | _,_,0,r=>r
 | _,_,_+1,.nil=>.nil
 | _,_,n+1,.cons _ t=>eu.drop n t
def k7:Option V->Option Value->Prop
 | some v,some u=>fH v u
 | none,none=>True
 | _,_=>False
def KV{κ:Type}:List (κ×V)->List (κ×Value)->Prop:=Paired λ(p:κ×V)(q:κ×Value)=>p.1=q.1/\fH p.2 q.2
def kV:fB->V
 | .inl i=>.int i
 | .inr x=>.str x
inductive HO where
 | lst(xs:List V)
 | tup(xs:List V)
 | dK(kvs:List (fB×V))|dT(kvs:List (List fB×V))
 | set(S:Int->Bool)(n:Nat)
 | ins(C dx:Addr)(fs:List (Str×V))
 | own(x:Addr)
 | xd(fs:List (Str×V))
 | met(f x:Addr)
 | rng(lo hi:Int)
 | frz(o:Obj)(u:HO)
 | tbl(ps:Array Value)
 | ext(φ:Heap->Prop)
abbrev Hp:=Addr->Option HO
def upd(H:Hp)(a:Addr)(o:HO):Hp:=λb=>if b=a then some o else H b
theorem dP:upd H a o a=some o:=by unfold upd;rw[if_pos rfl]
theorem dY(h:b≠a):upd H a o b=H b:=by unfold upd;rw[if_neg h]
theorem fM{H:Hp}{a b:Addr}{o u:HO}(h:H a=some o)(h':H b=some u)(d:o≠u):a≠b:=by intro e;subst e;rw[h]at h';exact d (Option.some.inj h')
theorem dX{H:Hp}{a b:Addr}{o:HO}(h:H a=some o)(h':H b=none):a≠b:=by intro e;subst e;rw[h]at h';cases h'
section
variable (P:Program)(w:World)
def gC(H:Hp)(h:Heap)(a:Addr):HO->Prop
 | .lst xs=>xs.length<=sizeLine/\∃(its:List Value)(n:Nat),eu xs its/\h.get? a=some {cls:=.type "list",data:=.seq its.toArray n}
 | .tup xs=>xs.length<=sizeLine/\∃its:List Value,eu xs its/\IsTup h a its.toArray
 | .dK kvs=>kvs.length<=sizeLine/\(a==sysModules)=false/\∃vs,KV kvs vs/\h.DictOf (gJ P w) a vs
 | .dT kvs=>kvs.length<=sizeLine/\(a==sysModules)=false/\∃xs:List (List fB×Addr×Value),
   Paired (λ(p:List fB×V)(q:List fB×Addr×Value)=>p.1=q.1/\H q.2.1=some (.tup (p.1.map kV))/\fH p.2 q.2.2) kvs xs/\
   ∃o es ep,h.get? a=some o/\o.ExactDict/\o.data=.dict es ep/\es.toList=xs.map (entryOfKey (tupleKind (gJ P w)))/\(xs.map (·.1)).Nodup
 | .set S n=>h.SetOf (intKind P w) a S n
 | .ins C dx fs=>H dx=some (.own a)/\fs.length<=1000/\dx≠a/\h.get? a=some (PySem.W.instObj C dx)/\
   ∃mA,h.Ns1 dx mA/\(∀f,k7 (fs.lookup f) (mA f))/\PySem.Within mA (fs.map (·.1))
 | .own _=>∃o,h.get? a=some o
 | .xd fs=>∃mA,h.Ns1 a mA/\∀f,k7 (fs.lookup f) (mA f)
 | .rng lo hi=>∃t u v,h.get? a=some {cls:=.type "range",data:=.fields #[.int lo t,.int hi u,.int 1 v]}
 | .frz o u=>h.get? a=some o/\gC H h a u
 | .tbl ps=>h.get? a=some {cls:=.none,data:=.fields ps}
 | .met f x=>h.get? a=some (PySem.W.methodObj (.ref f) (.ref x))
 | .ext φ=>φ h/\(∃o,h.get? a=some o)/\∀h1 h2:Heap,φ h1->(∀o,h1.get? a=some o->h2.get? a=some o)->φ h2
def lL(H:Hp)(h:Heap):Prop:=∀a o,H a=some o->gC P w H h a o
end
section
variable {P:Program}{w:World}{H H':Hp}{h h':Heap}{a:Addr}{o:HO}
theorem gC.lt(x:gC P w H h a o):a<h.objs.size:=by
 cases o with
 | lst xs=>obtain⟨_,_,_,_,e⟩:=x;exact Heap.lt_size e
 | tup xs=>obtain⟨_,_,_,p⟩:=x;exact p.lt
 | dK kvs=>obtain⟨_,_,_,_,o,_,_,e,_⟩:=x;exact Heap.lt_size e
 | dT kvs=>obtain⟨_,_,_,_,o,_,_,e,_⟩:=x;exact Heap.lt_size e
 | set S n=>obtain⟨o,_,_,_,e,_⟩:=x;exact Heap.lt_size e
 | ins C dx fs=>obtain⟨_,_,_,e,_⟩:=x;exact Heap.lt_size e
 | own y=>obtain⟨_,e⟩:=x;exact Heap.lt_size e
 | xd fs=>obtain⟨_,⟨_,_,_,e,_⟩,_⟩:=x;exact Heap.lt_size e
 | rng lo hi=>obtain⟨_,_,_,e⟩:=x;exact Heap.lt_size e
 | frz ob u=>obtain⟨e,_⟩:=x;exact Heap.lt_size e
 | tbl ps=>exact Heap.lt_size (show h.get? a=some _ from x)
 | met f y=>exact Heap.lt_size (show h.get? a=some _ from x)
 | ext φ=>obtain⟨_,⟨_,e⟩,_⟩:=x;exact Heap.lt_size e
theorem Paired.mapP:∀{l₁:List α}{l₂:List β},Paired F l₁ l₂->(∀a b,F a b->G a b)->Paired G l₁ l₂
 | _,_,.nil,_=>.nil
 | _,_,.cons r t,f=>.cons (f _ _ r) (Paired.mapP t f)
theorem gC.stay(x:gC P w H h a o)(k:∀b u,(b=a∨H b=some (.own a))->h.get? b=some u->h'.get? b=some u)
  (ho:∀b,H b=some (.own a)->H' b=some (.own a)) (ht:∀b xs,H b=some (.tup xs)->H' b=some (.tup xs)):gC P w H' h' a o:=by
 induction o with
 | lst xs=>obtain⟨z,its,n,r,e⟩:=x;exact⟨z,its,n,r,k _ _ (.inl rfl) e⟩
 | tup xs=>obtain⟨z,its,r,ob,e,c⟩:=x;exact⟨z,its,r,ob,k _ _ (.inl rfl) e,c⟩
 | dK kvs=>obtain⟨z,y,vs,r,ob,es,ep,e,c⟩:=x;exact⟨z,y,vs,r,ob,es,ep,k _ _ (.inl rfl) e,c⟩
 | dT kvs=>obtain⟨z,y,xs,r,ob,es,ep,e,c⟩:=x;exact⟨z,y,xs,Paired.mapP r λp q z=>⟨z.1,ht _ _ z.2.1,z.2.2⟩,ob,es,ep,k _ _ (.inl rfl) e,c⟩
 | set S n=>obtain⟨ob,es,ep,t,e,c⟩:=x;exact⟨ob,es,ep,t,k _ _ (.inl rfl) e,c⟩
 | ins C dx fs=>obtain⟨d,z,ne,e,mA,⟨od,es,ep,e2,c⟩,r⟩:=x;exact⟨ho _ d,z,ne,k _ _ (.inl rfl) e,mA,⟨od,es,ep,k _ _ (.inr d) e2,c⟩,r⟩
 | own y=>obtain⟨ob,e⟩:=x;exact⟨ob,k _ _ (.inl rfl) e⟩
 | xd fs=>obtain⟨mA,⟨od,es,ep,e,c⟩,r⟩:=x;exact⟨mA,⟨od,es,ep,k _ _ (.inl rfl) e,c⟩,r⟩
 | rng lo hi=>obtain⟨t,u,v,e⟩:=x;exact⟨t,u,v,k _ _ (.inl rfl) e⟩
 | frz ob u ih=>obtain⟨e,q⟩:=x;exact⟨k _ _ (.inl rfl) e,ih q⟩
 | tbl ps=>have e:h.get? a=some {cls:=.none,data:=.fields ps}:=x;show h'.get? a=some {cls:=.none,data:=.fields ps};exact k a _ (.inl rfl) e
 | met f y=>have e:h.get? a=some (PySem.W.methodObj (.ref f) (.ref y)):=x;show h'.get? a=some (PySem.W.methodObj (.ref f) (.ref y));exact k a _ (.inl rfl) e
 | ext φ=>obtain⟨p,⟨o,e⟩,st⟩:=x;exact⟨st _ _ p λo q=>k _ _ (.inl rfl) q,⟨o,k _ _ (.inl rfl) e⟩,st⟩
theorem lL.lt(x:lL P w H h)(e:H a=some o):a<h.objs.size:=(x a o e).lt
theorem lL.fresh(x:lL P w H h)(e:h.objs.size<=a):H a=none:=by
 cases q:H a with
 | none=>rfl
 | some u=>exact absurd (aY (x.lt q) e) (bS _)
theorem lL.kept(x:lL P w H h)(k:∀b u,h.get? b=some u->h'.get? b=some u):lL P w H h':=λa o e=>
 (x a o e).stay (λb u _ q=>k b u q) (λ_ q=>q) λ_ _ q=>q
theorem lL.laid(x:lL P w H h)(k:∀b u,h.get? b=some u->h'.get? b=some u)(hp:h.objs.size<=a)(new:gC P w (upd H a o) h' a o):lL P w (upd H a o) h':=λb u e=>by
 have hn:=x.fresh hp;by_cases hb:b=a
 ·subst hb;rw[dP]at e;cases e;exact new
 ·rw[dY hb]at e;exact(x b u e).stay (λc v _ q=>k c v q) (λc q=>by rw[dY (dX q hn)];exact q) λc xs q=>by rw[dY (dX q hn)];exact q
end
def Rd(H:Hp)(a:Addr)(u:HO):Prop:=H a=some u∨∃o,H a=some (.frz o u)
theorem Rd.ok(r:Rd H a u)(x:lL P w H h):gC P w H h a u:=by
 rcases r with r|⟨o,r⟩
 ·exact x a u r
 ·obtain⟨_,q⟩:=x a _ r;exact q
def Mw:Option HO->Prop
 | some (.lst _)=>True
 | some (.dK _)=>True
 | some (.dT _)=>True
 | some (.set _ _)=>True
 | some (.ins _ _ _)=>True
 | some (.ext _)=>True
 | _=>False
section
variable {P:Program}{w:World}{H:Hp}{h h':Heap}{x e:Addr}{o':HO}
theorem lL.write(ok:lL P w H h)(mu:Mw (H x))(he:e=x∨H e=some (.own x))(k:∀b u,b≠e->h.get? b=some u->h'.get? b=some u)(heo:∃u,h'.get? e=some u)
  (new:gC P w (upd H x o') h' x o'):lL P w (upd H x o') h':=λb u q=>by
 have nown:∀c y,H c=some (.own y)->c≠x:=λc y r z=>by subst z;rw[r]at mu;exact mu
 have ntup:∀c xs,H c=some (.tup xs)->c≠x:=λc xs r z=>by subst z;rw[r]at mu;exact mu
 by_cases hb:b=x
 ·subst hb;rw[dP]at q;cases q;exact new
 ·rw[dY hb]at q;by_cases hbe:b=e
  ·have q':H b=some (.own x):=by
    rcases he with z|z
    ·exact absurd (hbe.trans z) hb
    ·rw[hbe];exact z
   rw[q]at q';cases q';obtain⟨v,hv⟩:=heo;exact⟨v,by rw[hbe];exact hv⟩
  ·refine(ok b u q).stay (λc v hc r=>k c v ?_ r) (λc r=>by rw[dY (nown c b r)];exact r) λc xs r=>by rw[dY (ntup c xs r)];exact r
   rcases hc with rfl|hc
   ·exact hbe
   ·rintro rfl;rcases he with z|z
    ·exact nown c b hc z
    ·rw[hc]at z;cases z;exact hb rfl
end
structure Un(fs ex:List Addr)(H H':Hp)(h h':Heap):Prop where
 keep:∀b o,h.get? b=some o->H b=none->b∉fs->b∉ex->h'.get? b=some o
 slot:∀b o,h.get? b=some o->H b=none->b∈fs->b∉ex->∃sl,h'.get? b=some {o with slots:=sl}
 free:∀b o,h.get? b=some o->H b=none->b∉ex->H' b=none
 there:∀b o,h.get? b=some o->b∉ex->∃o',h'.get? b=some o'
 tups:∀b xs,H b=some (.tup xs)->H' b=some (.tup xs)
 frzs:∀b o u,H b=some (.frz o u)->H' b=some (.frz o u)
 tbls:∀b ps,H b=some (.tbl ps)->∃more,H' b=some (.tbl (ps++more))
section
variable {fs fs' ex ex':List Addr}{H H1 H2:Hp}{h h1 h2 h':Heap}{a x e:Addr}{o:HO}
theorem Un.any(u:Un fs ex H H1 h h1)(q:h.get? b=some ob)(n:H b=none)(hx:b∉ex):∃sl,h1.get? b=some {ob with slots:=sl}:=by
 by_cases hb:b∈fs
 ·exact u.slot b ob q n hb hx
 ·exact⟨ob.slots,u.keep b ob q n hb hx⟩
theorem Un.kept(k:∀b u,h.get? b=some u->h'.get? b=some u):Un fs ex H H h h':=
 ⟨λb ob q _ _ _=>k b ob q,λb ob q _ _ _=>⟨ob.slots,k b ob q⟩,λ_ _ _ n _=>n,λb ob q _=>⟨ob,k b ob q⟩,λ_ _ q=>q,λ_ _ _ q=>q,λ_ ps q=>⟨#[],by rw[q];simp⟩⟩
theorem Un.refl:Un fs ex H H h h:=Un.kept λ_ _ q=>q
theorem Un.laid(k:∀b u,h.get? b=some u->h'.get? b=some u)(hp:h.objs.size<=a)(hn:H a=none):Un fs ex H (upd H a o) h h' where
 keep:=λb u q _ _ _=>k b u q
 slot:=λb u q _ _ _=>⟨u.slots,k b u q⟩
 free:=λb u q n _=>by rw[dY (aJ (aY (Heap.lt_size q) hp))];exact n
 there:=λb u q _=>⟨u,k b u q⟩
 tups:=λb xs q=>by rw[dY (dX q hn)];exact q
 frzs:=λb u xs q=>by rw[dY (dX q hn)];exact q
 tbls:=λb ps q=>⟨#[],by rw[dY (dX q hn),q];simp⟩
theorem Un.write(mu:Mw (H x))(he:e=x∨H e=some (.own x))(k:∀b u,b≠e->h.get? b=some u->h'.get? b=some u)(heo:∃u,h'.get? e=some u):Un fs ex H (upd H x o) h h':=by
 have hx:∀b,H b=none->b≠x:=λb n z=>by subst z;rw[n]at mu;exact mu
 have hb:∀b,H b=none->b≠e:=λb n z=>by
  subst z;rcases he with r|r
  ·exact hx b n r
  ·rw[n]at r;cases r
 have hm:∀b u,H b=some u->¬Mw (some u)->b≠x:=λb u q nm z=>by subst z;rw[q]at mu;exact nm mu
 refine⟨λb u q n _ _=>k b u (hb b n) q,λb u q n _ _=>⟨u.slots,k b u (hb b n) q⟩,λb u q n _=>by rw[dY (hx b n)];exact n,λb u q _=>?_,
  λb xs q=>by rw[dY (hm b _ q λz=>z)];exact q,λb u xs q=>by rw[dY (hm b _ q λz=>z)];exact q,λb ps q=>⟨#[],by rw[dY (hm b _ q λz=>z),q];simp⟩⟩
 by_cases hbe:b=e
 ·subst hbe;exact heo
 ·exact⟨u,k b u hbe q⟩
end
def M8(h:Heap)(H:Hp):List Addr:=(List.range h.objs.size).filter λa=>(H a).isSome
def sk(h:Heap)(H:Hp):Heap:=PySem.W.hideAll h (M8 h H)
theorem AB(h:Heap)(H:Hp):(sk h H).objs.size=h.objs.size:=PySem.W.hideAll_size _ _
theorem Ct(e:h.get? b=some o)(n:H b=none):(sk h H).get? b=some o:=
 bn _ e λhm=>by have q:(H b).isSome=true:=(List.mem_filter.mp hm).2;rw[n]at q;simp at q
theorem FS(e:(sk h H).get? b=some o):h.get? b=some o/\H b=none:=by
 have e':h.get? b=some o:=PySem.W.of_hideAll (M8 h H) e;refine⟨e',?_⟩;cases q:H b with
 | none=>rfl
 | some x=>have hm:b∈M8 h H:=List.mem_filter.mpr ⟨List.mem_range.mpr (Heap.lt_size e'),by simp[q]⟩;have z:(sk h H).get? b=none:=PySem.W.hideAll_none (M8 h H) hm;rw[z]at e;cases e
structure Mod(K:aA)(mg:Str->Option Value)(base:Heap):Prop where
 kin:K.In base
 glob:base.Ns mainGlobals mg
 blt:∃mb,base.Ns builtinsNs mb/\∀x:Str,x≠"__name__"->mb x=bootBuiltins x
 nolimit:base.NoLimit
structure Cx where
 prog:Program
 w:World
 K:aA
 mg:Str->Option Value
 base:Heap
 A:Around
 N:List Str
 s₀:Shared
 H₀:Hp
 env:Env
 outer:List Env
 stack:List Env
 ex:List Addr
 fn:Str->Bool
 calm:Bool
 pn:List (Addr×Obj)
 xe:Value->Shared->Prop
def qb(l:List Env):List Addr:=l.filterMap (·.frame)
abbrev Cx.fs(X:Cx):List Addr:=qb X.outer
def NN(sc:Scope)(x:Str):Prop:=sc.names.lookup x=some .local∨sc.names.lookup x=some .cell∨sc.names.lookup x=some .free
def Dl(sc:Scope)(x:Str):Prop:=sc.names.lookup x=some .local∨sc.names.lookup x=some .cell
def PR(env:Env)(h:Heap)(m:Str->Option Value)(x:Str)(u:Value):Prop:=
 (env.kindOf x=some .local/\m x=some u)∨((env.kindOf x=some .cell∨env.kindOf x=some .free)/\∃c,env.cells.lookup x=some c/\h.IsCell c (some u))
structure Cx.Ok(X:Cx):Prop where
 mod:Mod X.K X.mg X.base
 kind:X.env.scope.kind=.function
 glob:X.env.globals=mainGlobals
 blt:X.env.builtins=builtinsNs
 above:X.s₀.heap.objs.size<=X.env.locals
 inj:∀x y c,X.env.cells.lookup x=some c->X.env.cells.lookup y=some c->x=y
 has:∀x,(X.env.kindOf x=some .cell∨X.env.kindOf x=some .free)->∃c,X.env.cells.lookup x=some c
 cab:∀x c,X.fn x=true->X.env.cells.lookup x=some c->X.s₀.heap.objs.size<=c
 hd:X.calm=true->X.A.handled=none
 frames:X.A.frames=some X.stack
 stk:X.stack=X.outer∨(X.stack=X.env::X.outer/\X.env.frame=some X.env.locals)
 exf:∀b∈X.ex,b≠X.env.locals/\∀x c,X.env.cells.lookup x=some c->c≠b
 bs:∀b o,X.base.get? b=some o->X.s₀.heap.get? b=some o/\X.H₀ b=none
 bsz:X.base.objs.size<=X.s₀.heap.objs.size
 noex:∀b o,X.base.get? b=some o->b∉X.ex
 exfs:∀b∈X.ex,b∉X.fs
 funs:X.s₀.heap.FunFrames X.base X.outer
 frf:∀b∈X.fs,X.H₀ b=none
structure eM(X:Cx)(pins:List (Addr×Obj))(σ:List (Option V))(H:Hp)(s:Shared):Prop where
 ok:X.Ok
 os:s.os=X.s₀.os
 bare:AllBare s.gens
 base:Un X.fs X.ex X.H₀ H X.s₀.heap s.heap
 loc:∃m,s.heap.Ns X.env.locals m/\∀(i:Nat)(x:Str)(v:V),X.N[i]?=some x->σ[i]?=some (some v)->NN X.env.scope x->∃u,fH v u/\PR X.env s.heap m x u
 cell:∀x c,X.env.cells.lookup x=some c->∃v,s.heap.IsCell c v
 free:H X.env.locals=none
 freeC:∀x c,X.env.cells.lookup x=some c->H c=none
 pin:∀p∈X.pn++pins,s.heap.get? p.1=some p.2/\H p.1=none/\p.1≠X.env.locals/\p.1∉X.fs/\∀v,p.2.data≠.cell v
 hok:lL X.prog X.w H s.heap
 len:σ.length=X.N.length
section
variable {X:Cx}{pins:List (Addr×Obj)}{σ:List (Option V)}{H H':Hp}{s:Shared}{h':Heap}
theorem Cx.Ok.nofr(ok:X.Ok)(e:X.base.get? b=some o):b∉X.fs:=λhb=>by have:=(ok.funs.mem hb).1;rw[e]at this;cases this
theorem eM.bs(I:eM X pins σ H s):∀b o,X.base.get? b=some o->s.heap.get? b=some o/\H b=none:=λb o e=>
 ⟨I.base.keep b o (I.ok.bs b o e).1 (I.ok.bs b o e).2 (I.ok.nofr e) (I.ok.noex b o e),I.base.free b o (I.ok.bs b o e).1 (I.ok.bs b o e).2 (I.ok.noex b o e)⟩
theorem eM.bk(I:eM X pins σ H s):∀b o,X.base.get? b=some o->s.heap.get? b=some o:=λb o e=>(I.bs b o e).1
theorem eM.mod(I:eM X pins σ H s):Mod X.K X.mg X.base:=I.ok.mod
theorem eM.kIn(I:eM X pins σ H s):X.K.In s.heap:=I.ok.mod.kin.keeps I.bk
theorem eM.lt(I:eM X pins σ H s):X.env.locals<s.heap.objs.size:=let ⟨_,hn,_⟩:=I.loc;hn.lt
theorem eM.sz(I:eM X pins σ H s):X.s₀.heap.objs.size<=s.heap.objs.size:=aP I.ok.above (bI I.lt)
theorem eM.nofs(I:eM X pins σ H s)(h:s.heap.objs.size<=a):a∉X.fs:=λhb=>by obtain⟨_,o,ho,_⟩:=I.ok.funs.mem hb;exact absurd (aY (Heap.lt_size ho) (aP I.sz h)) (bS _)
theorem eM.cne(I:eM X pins σ H s):∀x c,X.env.cells.lookup x=some c->c≠X.env.locals:=λx c e z=>by obtain⟨v,o,ho,hd⟩:=I.cell x c e;obtain⟨m,⟨o',es,ep,ho',hd',_⟩,_⟩:=I.loc;rw[z,ho']at ho;cases ho;rw[hd']at hd;cases hd
theorem eM.funs(I:eM X pins σ H s):s.heap.FunFrames X.base X.outer:=by
 have all:∀(l:List Env),(∀b∈qb l,b∈X.fs)->X.s₀.heap.FunFrames X.base l->s.heap.FunFrames X.base l:=by
  intro l;induction l with
  | nil=>intro _ _;trivial
  | cons env r ih=>intro hs hl;obtain⟨hk,⟨L,o,hf,hn,ho,hd⟩,hr⟩:=hl;have hL:L∈X.fs:=hs L (by unfold qb;rw[cF,hf];exact bV);obtain⟨sl,e⟩:=I.base.slot L o ho (I.ok.frf L hL) hL λz=>I.ok.exfs L z hL;exact⟨hk,⟨L,_,hf,hn,e,hd⟩,ih (λb hb=>hs b (by unfold qb;rw[cF,hf];exact ax _ hb)) hr⟩
 exact all X.outer (λ_ hb=>hb) I.ok.funs
theorem eM.stack(I:eM X pins σ H s):s.heap.FunFrames X.base X.stack:=by
 rcases I.ok.stk with e|⟨e,hf⟩
 ·rw[e];exact I.funs
 ·rw[e];obtain⟨m,hn,_⟩:=I.loc;refine .cons (by rw[I.ok.kind];decide) hf hn ?_ I.funs;exact Heap.get?_none_of_le (aP I.ok.bsz I.ok.above)
theorem eM.stkSub(I:eM X pins σ H s):∀b∈qb X.stack,b∈X.env.locals::X.fs:=λb hb=>by
 rcases I.ok.stk with e|⟨e,hf⟩
 ·rw[e]at hb;exact ax _ hb
 ·rw[e]at hb;unfold qb at hb;rw[cF,hf]at hb;exact hb
theorem eM.stkFree(I:eM X pins σ H s):∀b∈qb X.stack,H b=none:=λb hb=>by
 rcases aB.mp (I.stkSub b hb)with e|hb
 ·rw[e];exact I.free
 ·obtain⟨_,o,ho,_⟩:=I.ok.funs.mem hb;exact I.base.free b o ho (I.ok.frf b hb) λz=>I.ok.exfs b z hb
theorem eM.step{g':Array GenState}{t':Nat}{d':Drawn}{ch:List Addr}(I:eM X pins σ H s)
  (hch:∀b∈ch,(b∈X.ex∨X.s₀.heap.objs.size<=b)/\b≠X.env.locals/\(∀x c,X.env.cells.lookup x=some c->c≠b)/\∀p∈X.pn++pins,p.1≠b)
  (keep:∀b o,b≠X.env.locals->b∉X.fs->b∉ch->s.heap.get? b=some o->H b=none->h'.get? b=some o)
  (slot:∀b o,b≠X.env.locals->b∈X.fs->b∉ch->s.heap.get? b=some o->H b=none->∃sl,h'.get? b=some {o with slots:=sl}) (free:∀b o,b∉ch->s.heap.get? b=some o->H b=none->H' b=none)
  (there:∀b o,b∉ch->s.heap.get? b=some o->∃o',h'.get? b=some o')
  (tups:∀b xs,H b=some (.tup xs)->H' b=some (.tup xs)) (frzs:∀b o u,H b=some (.frz o u)->H' b=some (.frz o u)) (tbls:∀b ps,H b=some (.tbl ps)->∃more,H' b=some (.tbl (ps++more)))
  (ns:∀m,s.heap.Ns X.env.locals m->h'.Ns X.env.locals m) (hok:lL X.prog X.w H' h') (hg:AllBare g'):
  eM X pins σ H' {s with heap:=h',gens:=g',drawn:=d',toks:=t'}:=by
 have neL:∀b o,X.s₀.heap.get? b=some o->b≠X.env.locals:=λb o e=>aJ (aY (Heap.lt_size e) I.ok.above);have neC:∀b o,X.s₀.heap.get? b=some o->b∉X.ex->b∉ch:=λb o e hx hb=>by
  rcases(hch b hb).1 with z|z
  ·exact hx z
  ·exact absurd (aY (Heap.lt_size e) z) (bS _)
 have cellK:∀x c,X.env.cells.lookup x=some c->∀v,s.heap.IsCell c v->h'.IsCell c v:=λx c e v ⟨o,ho,hd⟩=>by
  have nch:c∉ch:=λz=>(hch c z).2.2.1 x c e rfl;by_cases hc:c∈X.fs
  ·obtain⟨sl,q⟩:=slot c o (I.cne x c e) hc nch ho (I.freeC x c e);exact⟨_,q,hd⟩
  ·exact⟨o,keep c o (I.cne x c e) hc nch ho (I.freeC x c e),hd⟩
 refine⟨I.ok,I.os,hg,⟨λb o e n hb hx=>?_,λb o e n hb hx=>?_,λb o e n hx=>?_,λb o e hx=>?_,λb xs e=>tups b xs (I.base.tups b xs e),λb o xs e=>frzs b o xs (I.base.frzs b o xs e),λb ps e=>?_⟩,?_,λx c e=>?_,?_,λx c e=>?_,λp hp=>?_,hok,I.len⟩
 ·exact keep b o (neL b o e) hb (neC b o e hx) (I.base.keep b o e n hb hx) (I.base.free b o e n hx)
 ·obtain⟨sl,e1⟩:=I.base.slot b o e n hb hx;obtain⟨sl',e2⟩:=slot b _ (neL b o e) hb (neC b o e hx) e1 (I.base.free b o e n hx);exact⟨sl',e2⟩
 ·obtain⟨o',e1⟩:=I.base.there b o e hx;exact free b o' (neC b o e hx) e1 (I.base.free b o e n hx)
 ·obtain⟨o',e1⟩:=I.base.there b o e hx;exact there b o' (neC b o e hx) e1
 ·obtain⟨m1,e1⟩:=I.base.tbls b ps e;obtain⟨m2,e2⟩:=tbls b _ e1;exact⟨m1++m2,by rw[e2,Array.append_assoc]⟩
 ·obtain⟨m,hn,hl⟩:=I.loc;refine⟨m,ns m hn,λi x v e1 e2 e3=>?_⟩;obtain⟨u,r,l⟩:=hl i x v e1 e2 e3;refine⟨u,r,?_⟩;rcases l with l|⟨k,c,e,z⟩
  ·exact .inl l
  ·exact .inr ⟨k,c,e,cellK x c e _ z⟩
 ·obtain⟨v,z⟩:=I.cell x c e;exact⟨v,cellK x c e v z⟩
 ·obtain⟨m,⟨o,_,_,ho,_⟩,_⟩:=I.loc;exact free _ o (λz=>(hch _ z).2.1 rfl) ho I.free
 ·obtain⟨v,o,ho,hd⟩:=I.cell x c e;exact free c o (λz=>(hch c z).2.2.1 x c e rfl) ho (I.freeC x c e)
 ·obtain⟨e,n,ne,nf,d⟩:=I.pin p hp;have nch:p.1∉ch:=λz=>(hch p.1 z).2.2.2 p hp rfl;exact⟨keep p.1 p.2 ne nf nch e n,free p.1 p.2 nch e n,ne,nf,d⟩
theorem eM.un{t':Nat}(I:eM X pins σ H s)(u:Un X.fs [] H H' s.heap h')(hok:lL X.prog X.w H' h'):eM X pins σ H' {s with heap:=h',toks:=t'}:=by
 obtain⟨m,⟨o,es,ep,ho,r⟩,_⟩:=id I.loc;obtain⟨sl,hL⟩:=u.any ho I.free (by simp);exact I.step (g':=s.gens) (d':=s.drawn) (ch:=[]) (λ_ z=>nomatch z) (λb o _ hb _ e n=>u.keep b o e n hb (by simp)) (λb o _ hb _ e n=>u.slot b o e n hb (by simp)) (λb o _ e n=>u.free b o e n (by simp)) (λb o _ e=>u.there b o e (by simp)) u.tups u.frzs u.tbls (λm' hm=>by
  obtain⟨o',es',ep',ho',r'⟩:=hm;rw[ho]at ho';cases ho';exact⟨_,es',ep',hL,r'⟩) hok I.bare
theorem eM.call{g':Array GenState}{t':Nat}{d':Drawn}{ch:List Addr}(I:eM X pins σ H s)(u:Un (qb X.stack) ch H H' s.heap h')(hok:lL X.prog X.w H' h')(hg:AllBare g')
  (hch:∀b∈ch,(b∈X.ex∨X.s₀.heap.objs.size<=b)/\b≠X.env.locals/\(∀x c,X.env.cells.lookup x=some c->c≠b)/\∀p∈X.pn++pins,p.1≠b):
  eM X pins σ H' {s with heap:=h',gens:=g',drawn:=d',toks:=t'}:=by
 obtain⟨m,⟨o,es,ep,ho,r⟩,_⟩:=id I.loc;obtain⟨sl,hL⟩:=u.any ho I.free λz=>(hch _ z).2.1 rfl;exact I.step (ch:=ch) hch (λb o hL hb hc e n=>u.keep b o e n (λz=>(aB.mp (I.stkSub b z)).elim hL hb) hc) (λb o _ _ hc e n=>u.any e n hc) (λb o hc e n=>u.free b o e n hc) (λb o hc e=>u.there b o e hc) u.tups u.frzs u.tbls (λm' hm=>by
  obtain⟨o',es',ep',ho',r'⟩:=hm;rw[ho]at ho';cases ho';exact⟨_,es',ep',hL,r'⟩) hok hg
theorem eM.turned{t':Nat}{it:Addr}(I:eM X pins σ H s)(k:∀b o,b≠it->s.heap.get? b=some o->h'.get? b=some o)(hn:H it=none)(hL:it≠X.env.locals)
  (h1:it∈X.ex∨X.s₀.heap.objs.size<=it) (h2:∀x c,X.env.cells.lookup x=some c->c≠it) (h3:∀p∈X.pn++pins,p.1≠it):eM X pins σ H {s with heap:=h',toks:=t'}:=by
 have nit:∀b u,H b=some u->b≠it:=λb u e z=>by rw[z,hn]at e;cases e
 refine I.step (g':=s.gens) (d':=s.drawn) (ch:=[it]) (λb hb=>?_) (λb o _ _ hc e _=>k b o (λz=>hc (by simp[z])) e) (λb o _ _ hc e _=>⟨o.slots,k b o (λz=>hc (by simp[z])) e⟩) (λ_ _ _ _ n=>n)
  (λb o hc e=>⟨o,k b o (λz=>hc (by simp[z])) e⟩) (λ_ _ e=>e) (λ_ _ _ e=>e) (λb ps e=>⟨#[],by rw[e];simp⟩) (λm hm=>?_) (λb u e=>?_) I.bare
 ·have e:b=it:=by simpa using hb
  subst e;exact⟨h1,hL,h2,h3⟩
 ·obtain⟨o,es,ep,ho,r⟩:=hm;exact⟨o,es,ep,k _ o (ac hL) ho,r⟩
 ·refine(I.hok b u e).stay (λc v hc q=>k c v ?_ q) (λ_ q=>q) λ_ _ q=>q;rcases hc with z|z
  ·rw[z];exact nit b u e
  ·exact nit c _ z
theorem eM.tok(I:eM X pins σ H s)(t:Nat):eM X pins σ H {s with toks:=t}:=I.un (h':=s.heap) (t':=t) Un.refl I.hok
theorem eM.kept(I:eM X pins σ H s)(k:∀b u,s.heap.get? b=some u->h'.get? b=some u):eM X pins σ H {s with heap:=h',toks:=t'}:=I.un (Un.kept k) (I.hok.kept k)
theorem eM.laid(I:eM X pins σ H s)(k:∀b u,s.heap.get? b=some u->h'.get? b=some u)(hp:s.heap.objs.size<=a)(new:gC X.prog X.w (upd H a o) h' a o):
  eM X pins σ (upd H a o) {s with heap:=h',toks:=t'}:=I.un (Un.laid k hp (I.hok.fresh hp)) (I.hok.laid k hp new)
theorem eM.write(I:eM X pins σ H s)(mu:Mw (H x))(he:e=x∨H e=some (.own x))(k:∀b u,b≠e->s.heap.get? b=some u->h'.get? b=some u)(heo:∃u,h'.get? e=some u)
  (new:gC X.prog X.w (upd H x o) h' x o):eM X pins σ (upd H x o) {s with heap:=h',toks:=t'}:=I.un (Un.write mu he k heo) (I.hok.write mu he k heo new)
theorem eM.pins_of(I:eM X pins σ H s)(h:∀p∈pins',s.heap.get? p.1=some p.2/\H p.1=none/\p.1≠X.env.locals/\p.1∉X.fs/\∀v,p.2.data≠.cell v):eM X pins' σ H s:=
 ⟨I.ok,I.os,I.bare,I.base,I.loc,I.cell,I.free,I.freeC,λp hp=>(aQ.mp hp).elim (λz=>I.pin p (ae _ z)) (h p),I.hok,I.len⟩
theorem uc{N:List Str}(hN:N.Nodup){i j:Nat}{x:Str}(a:N[i]?=some x)(b:N[j]?=some x):i=j:=by obtain⟨h1,e1⟩:=aK.mp a;obtain⟨h2,e2⟩:=aK.mp b;exact(cG hN).mp (e1.trans e2.symm)
theorem zP{M:Model}{A:Around}{E:Value->Shared->Prop}{i:Nat}{x:Str}{v:V}{u:Value}{Q:Unit->Shared->Prop}(I:eM X pins σ H s)(hN:X.N.Nodup)(hi:X.N[i]?=some x)(hx:Dl X.env.scope x)(r:fH v u)
  (h:∀s',eM X pins (σ.set i (some v)) H s'->(∃a,Heap.SameBut a s.heap s'.heap/\(a=X.env.locals∨X.env.cells.lookup x=some a))->Q () s') (hf:X.fn x=true∨X.env.scope.names.lookup x=some .local:=by first|exact .inl rfl|exact .inr rfl|assumption):wpAny M A (storeName X.env x u) Q E s:=by
 obtain⟨m,hn,hl⟩:=id I.loc;have hcls:(X.env.scope.kind==.class||(X.env.scope.kind==.module&&X.env.locals != X.env.globals))=false:=by rw[I.ok.kind];rfl
 have hiσ:i<σ.length:=by rw[I.len];exact(aK.mp hi).1
 have cne:=I.cne;have tracked:∀{a:Addr}{h':Heap},(∃o,s.heap.get? a=some o/\H a=none)->Heap.SameBut a s.heap h'->lL X.prog X.w H h':=λ{a h'} ha hs b ob e=>by
  obtain⟨_,_,hfree⟩:=ha;refine(I.hok b ob e).stay (λc w' hc q=>(hs.2 c ?_).trans q) (λ_ q=>q) λ_ _ q=>q;rintro rfl;rcases hc with rfl|hc
  ·rw[hfree]at e;cases e
  ·rw[hfree]at hc;cases hc
 rcases hx with hk|hk
 ·refine wpAny_storeName_local hk hn (λh' hn' hs=>?_) hcls;obtain⟨oL,_,_,hoL,_⟩:=id hn;refine h _ ⟨I.ok,I.os,I.bare,⟨λb o e n hb hx=>?_,λb o e n hb hx=>?_,I.base.free,λb o e hx=>?_,I.base.tups,I.base.frzs,I.base.tbls⟩,⟨_,hn',λj y v' e1 e2 e3=>?_⟩,λy c e=>?_,I.free,I.freeC,λp hp=>?_,tracked ⟨oL,hoL,I.free⟩ hs,by simpa using I.len⟩ ⟨_,hs,.inl rfl⟩
  ·exact(hs.2 b (aJ (aY (Heap.lt_size e) I.ok.above))).trans (I.base.keep b o e n hb hx)
  ·obtain⟨sl,e1⟩:=I.base.slot b o e n hb hx;exact⟨sl,(hs.2 b (aJ (aY (Heap.lt_size e) I.ok.above))).trans e1⟩
  ·obtain⟨o',e1⟩:=I.base.there b o e hx;exact⟨o',(hs.2 b (aJ (aY (Heap.lt_size e) I.ok.above))).trans e1⟩
  ·by_cases hj:j=i
   ·subst hj;rw[hi]at e1;cases e1;rw[ci hiσ]at e2;cases e2;exact⟨u,r,.inl ⟨hk,by simp⟩⟩
   ·rw[cj (ac hj)]at e2;obtain⟨u',r',q⟩:=hl j y v' e1 e2 e3;refine⟨u',r',?_⟩;rcases q with⟨k,e⟩|⟨k,c,e,z⟩
    ·refine .inl ⟨k,?_⟩;have:y≠x:=λe=>hj (uc hN e1 (e▸hi));simp[this,e]
    ·exact .inr ⟨k,c,e,z.sameBut hs (cne y c e)⟩
  ·obtain⟨w',z⟩:=I.cell y c e;exact⟨w',z.sameBut hs (cne y c e)⟩
  ·obtain⟨e,n,ne,nf,d⟩:=I.pin p hp;exact⟨(hs.2 p.1 ne).trans e,n,ne,nf,d⟩
 ·have hfn:X.fn x=true:=by
   rcases hf with z|z
   ·exact z
   ·rw[z]at hk;cases hk
  obtain⟨c,hc⟩:=I.ok.has x (.inl hk);obtain⟨w',z⟩:=I.cell x c hc;refine wpAny_storeName_cell I.ok.kind hk hc z (λh' hc' hs=>?_);obtain⟨oc,hoc,hocd⟩:=id z;refine h {s with heap:=h'} ⟨I.ok,I.os,I.bare,⟨λb o e n hb hx=>?_,λb o e n hb hx=>?_,I.base.free,λb o e hx=>?_,I.base.tups,I.base.frzs,I.base.tbls⟩,⟨m,hn.sameBut hs (ac (cne x c hc)),λj y v' e1 e2 e3=>?_⟩,λy c' e=>?_,I.free,I.freeC,λp hp=>?_,tracked ⟨oc,hoc,I.freeC x c hc⟩ hs,by simpa using I.len⟩ ⟨c,hs,.inr hc⟩
  ·exact(hs.2 b (aJ (aY (Heap.lt_size e) (I.ok.cab x c hfn hc)))).trans (I.base.keep b o e n hb hx)
  ·obtain⟨sl,e1⟩:=I.base.slot b o e n hb hx;exact⟨sl,(hs.2 b (aJ (aY (Heap.lt_size e) (I.ok.cab x c hfn hc)))).trans e1⟩
  ·obtain⟨o',e1⟩:=I.base.there b o e hx;exact⟨o',(hs.2 b (aJ (aY (Heap.lt_size e) (I.ok.cab x c hfn hc)))).trans e1⟩
  ·by_cases hj:j=i
   ·subst hj;rw[hi]at e1;cases e1;rw[ci hiσ]at e2;cases e2;exact⟨u,r,.inr ⟨.inl hk,c,hc,hc'⟩⟩
   ·rw[cj (ac hj)]at e2;obtain⟨u',r',q⟩:=hl j y v' e1 e2 e3;refine⟨u',r',?_⟩;rcases q with q|⟨k,c',e,z'⟩
    ·exact .inl q
    ·refine .inr ⟨k,c',e,z'.sameBut hs ?_⟩;rintro rfl;exact hj (uc hN e1 (I.ok.inj _ _ _ e hc▸hi))
  ·by_cases hcc:c'=c
   ·subst hcc;exact⟨_,hc'⟩
   ·obtain⟨w2,z2⟩:=I.cell y c' e;exact⟨w2,z2.sameBut hs hcc⟩
  ·obtain⟨e,n,ne,nf,d⟩:=I.pin p hp;refine⟨(hs.2 p.1 ?_).trans e,n,ne,nf,d⟩;intro q;rw[q,hoc]at e;have q':oc=p.2:=Option.some.inj e;exact d w' (by rw[<-q'];exact hocd)
theorem pQ(I:eM X pins σ H s)(hN:X.N.Nodup)(hi:X.N[i]?=some x)(hx:Dl X.env.scope x)(r:fH v u)
  (h:∀s',eM X pins (σ.set i (some v)) H s'->Q () s') (hf:X.fn x=true∨X.env.scope.names.lookup x=some .local:=by first|exact .inl rfl|exact .inr rfl|assumption):wpAny M A (storeName X.env x u) Q E s:=
 zP I hN hi hx r (λs' I' _=>h s' I') hf
theorem eM.call'(I:eM X pins σ H s)(ho:s'.os=s.os)(u:Un (qb X.stack) ch H H' s.heap s'.heap)(hok:lL X.prog X.w H' s'.heap)(hg:AllBare s'.gens)
  (hch:∀b∈ch,(b∈X.ex∨X.s₀.heap.objs.size<=b)/\b≠X.env.locals/\(∀x c,X.env.cells.lookup x=some c->c≠b)/\∀p∈X.pn++pins,p.1≠b):eM X pins σ H' s':=by
 obtain⟨h',g',d',t',o'⟩:=s';have e:o'=s.os:=ho;subst e;exact I.call (g':=g') (t':=t') (d':=d') u hok hg hch
end
abbrev XK:=Value->Option Addr->Hp->Prop
abbrev St:=List (Option V)
abbrev VK:=V->Hp->Prop
abbrev TE:=St->Hp->VK->Prop
abbrev TT:=St->Hp->(Bool->Hp->Prop)->Prop
abbrev TA:=St->Hp->(List V->Hp->Prop)->Prop
structure fz where
 nx:St->Hp->Prop
 rt:VK
 bk:St->Hp->Prop:=λ_ _=>False
 ct:St->Hp->Prop:=λ_ _=>False
abbrev TS:=fz->St->Hp->Prop
def fz.thn(D:fz)(u:TS):fz:={D with nx:=u D}
def fz.lp(D:fz)(N:St->Hp->Prop):fz:=⟨N,D.rt,D.nx,N⟩
def EP(X:Cx)(pins:List (Addr×Obj))(σ:St)(Q:VK)(u:Value)(s':Shared):Prop:=∃v H',eM X pins σ H' s'/\fH v u/\Q v H'
def TP(X:Cx)(pins:List (Addr×Obj))(σ:St)(Q:Bool->Hp->Prop)(b:Bool)(s':Shared):Prop:=∃H',eM X pins σ H' s'/\Q b H'
def AP(X:Cx)(pins:List (Addr×Obj))(σ:St)(Q:List V->Hp->Prop)(us:List Value)(s':Shared):Prop:=∃vs H',eM X pins σ H' s'/\eu vs us/\Q vs H'
def SP(X:Cx)(pins:List (Addr×Obj))(D:fz)(f:Flow)(s':Shared):Prop:=
 match f with
 | .next=>∃σ' H',eM X pins σ' H' s'/\D.nx σ' H'
 | .brk=>∃σ' H',eM X pins σ' H' s'/\D.bk σ' H'
 | .cont=>∃σ' H',eM X pins σ' H' s'/\D.ct σ' H'
 | .ret u=>∃v σ' H',eM X pins σ' H' s'/\fH v u/\D.rt v H'
def PE(X:Cx)(e:Expr)(t:TE):Prop:=
 ∀(pins:List (Addr×Obj))(s:Shared)(σ:St)(H:Hp)(Q:VK),eM X pins σ H s->t σ H Q->wpAny (model X.prog X.w) X.A (eval e X.env) (EP X pins σ Q) X.xe s
def PT(X:Cx)(e:Expr)(t:TT):Prop:=
 ∀(pins:List (Addr×Obj))(s:Shared)(σ:St)(H:Hp)(Q:Bool->Hp->Prop),eM X pins σ H s->t σ H Q->wpAny (model X.prog X.w) X.A (isTrue e X.env (eval e X.env)) (TP X pins σ Q) X.xe s
def PW(X:Cx)(e:Expr)(t:TT):Prop:=
 ∀(whole:Sem Value)(pins:List (Addr×Obj))(s:Shared)(σ:St)(H:Hp)(Q:Bool->Hp->Prop),eM X pins σ H s->t σ H Q->wpAny (model X.prog X.w) X.A (isTrue e X.env whole) (TP X pins σ Q) X.xe s
theorem PW.pt(h:PW X e t):PT X e t:=h _
def PA(X:Cx)(es:List Expr)(t:TA):Prop:=
 ∀(pos:Pos)(pins:List (Addr×Obj))(s:Shared)(σ:St)(H:Hp)(Q:List V->Hp->Prop),eM X pins σ H s->t σ H Q->wpAny (model X.prog X.w) X.A (spliced (backTo pos (starEach es X.env))) (AP X pins σ Q) X.xe s
def PS(X:Cx)(st:Stmt)(t:TS):Prop:=
 ∀(pins:List (Addr×Obj))(s:Shared)(σ:St)(H:Hp)(D:fz),eM X pins σ H s->t D σ H->wpAny (model X.prog X.w) X.A (exec st X.env) (SP X pins D) X.xe s
def pG(X:Cx)(st:List Stmt)(t:TS):Prop:=
 ∀(pins:List (Addr×Obj))(s:Shared)(σ:St)(H:Hp)(D:fz),eM X pins σ H s->t D σ H->wpAny (model X.prog X.w) X.A (execs st X.env) (SP X pins D) X.xe s
theorem thn(h:wpAny M A t Q E s)(hQ:∀a s,Q a s->Q' a s):wpAny M A t Q' E s:=wpAny_mono h hQ λ_ _ x=>x
section
variable {X:Cx}
def kL(H:Hp)(o:HO)(Q:VK):Prop:=∀p,H p=none->Q (.ref p) (upd H p o)
@[reducible] def nmQ:Option (Option V)->(V->Prop)->Prop
 | some (some v),k=>k v
 | _,_=>False
theorem nmQ.ex(h:nmQ o k):∃v,o=some (some v)/\k v:=by
 match o,h with
 | some (some v),h=>exact⟨v,rfl,h⟩
theorem nmQ.of(h:o=some (some v))(q:k v):nmQ o k:=by subst h;exact q
@[reducible] def onI:V->(Int->Prop)->Prop
 | .int c,k=>k c
 | _,_=>False
theorem onI.ex(h:onI x k):∃c,x=.int c/\k c:=by cases x<;>first|exact⟨_,rfl,h⟩|exact h.elim
@[reducible] def onR:V->(Addr->Prop)->Prop
 | .ref c,k=>k c
 | _,_=>False
theorem onR.ex(h:onR x k):∃c,x=.ref c/\k c:=by cases x<;>first|exact⟨_,rfl,h⟩|exact h.elim
@[reducible] def onS:V->(Str->Prop)->Prop
 | .str c,k=>k c
 | _,_=>False
theorem onS.ex(h:onS x k):∃c,x=.str c/\k c:=by cases x<;>first|exact⟨_,rfl,h⟩|exact h.elim
@[reducible] def onY:V->(String->Prop)->Prop
 | .ty c,k=>k c
 | _,_=>False
theorem onY.ex(h:onY x k):∃c,x=.ty c/\k c:=by cases x<;>first|exact⟨_,rfl,h⟩|exact h.elim
@[reducible] def on1:List V->(V->Prop)->Prop
 | [x],k=>k x
 | _,_=>False
theorem on1.ex:∀{vs:List V},on1 vs k->∃x,vs=[x]/\k x
 | [_],h=>⟨_,rfl,h⟩
 | [],h=>h.elim
 | _::_::_,h=>h.elim
@[reducible] def on0:List V->Prop->Prop
 | [],k=>k
 | _,_=>False
theorem on0.ex:∀{vs:List V},on0 vs k->vs=[]/\k
 | [],h=>⟨rfl,h⟩
 | _::_,h=>h.elim
@[reducible] def onC{α:Type}:List α->(α->List α->Prop)->Prop
 | x::r,k=>k x r
 | _,_=>False
theorem onC.ex{α:Type}{k:α->List α->Prop}:∀{vs:List α},onC vs k->∃x r,vs=x::r/\k x r
 | _::_,h=>⟨_,_,rfl,h⟩
 | [],h=>h.elim
inductive lM{α:Type}(S:α->Prop)(k:α->Prop):Prop
 | mk{a:α}(h:S a)(q:k a):lM S k
def dJ(i:Nat):TE:=λσ H Q=>nmQ σ[i]? λv=>Q v H
def tC(v:V):TE:=λ_ H Q=>Q v H
theorem wG(hN:X.N[i]?=some x)(hv:NN X.env.scope x)(hd:(x==("__debug__":Str))=false:=by decide)(hcd:(x==("__classdict__":Str))=false:=by decide):PE X (.Name x pos) (dJ i):=by
 intro pins s σ H Q I h;obtain⟨v,e,h⟩:=nmQ.ex h;obtain⟨m,hn,hl⟩:=I.loc;obtain⟨u,r,l⟩:=hl i x v hN e hv;have fk:EP X pins σ Q u s:=⟨v,H,I,r,h⟩;rcases l with⟨hk,hm⟩|⟨hk,c,hc,hcell⟩
 ·exact wpAny_Name (wpAny_loadName_local I.ok.kind hk hn hm fk) hd
 ·rcases hk with hk|hk
  ·exact wpAny_Name (wpAny_loadName_cell I.ok.kind hk hc hcell fk) hd
  ·exact wpAny_Name (wpAny_loadName_free I.ok.kind hk hc hcell fk hcd) hd
theorem dN:PE X (.Constant (.int i) j pos) (tC (.int i)):=λ_ _ _ H _ I h=>wpAny_Constant_int ⟨.int i,H,I.tok _,⟨_,rfl⟩,h⟩
theorem gy:PE X (.Constant (.bool b) j pos) (tC (.bl b)):=λ_ _ _ H _ I h=>Constant_bool ⟨.bl b,H,I,rfl,h⟩
theorem nU:PE X (.Constant .none j pos) (tC .non):=λ_ _ _ H _ I h=>Constant_none ⟨.non,H,I,rfl,h⟩
theorem dU:PE X (.Constant (.str x) j pos) (tC (.str x)):=λ_ _ _ H _ I h=>Calls.Constant_str ⟨.str x,H,I.tok _,⟨_,rfl⟩,h⟩
def Gl(X:Cx)(x:Str):Prop:=X.env.kindOf x=some .globalImplicit
theorem la(I:eM X pins σ H s)(hg:Gl X x)(hm:X.mg x=some u)(h:Q u s)
  (hd:(x==("__debug__":Str))=false:=by decide):wpAny (model X.prog X.w) X.A (eval (.Name x pos) X.env) Q E s:=
 Calls.Name_function_global I.ok.kind hg (Calls.loadGlobal_global (by rw[I.ok.glob];exact I.mod.glob.keeps I.bk) hm h) hd
theorem ju(I:eM X pins σ H s)(hg:Gl X x)(hm:X.mg x=none)(hv:bootBuiltins x=some u)(h:Q u s)
  (hn:x≠"__name__":=by decide) (hd:(x==("__debug__":Str))=false:=by decide):wpAny (model X.prog X.w) X.A (eval (.Name x pos) X.env) Q E s:=by
 obtain⟨mb,h1,h2⟩:=I.mod.blt;exact Calls.Name_function_global I.ok.kind hg (Calls.loadGlobal_builtin (by rw[I.ok.glob];exact I.mod.glob.keeps I.bk) hm (by rw[I.ok.blt];exact h1.keeps I.bk) ((h2 x hn).trans hv) h) hd
theorem lX(hg:Gl X x)(hm:X.mg x=some u)(r:fH v u)(hd:(x==("__debug__":Str))=false:=by decide):PE X (.Name x pos) (tC v):=
 λ_ _ _ H _ I h=>la I hg hm ⟨v,H,I,r,h⟩ hd
theorem ii(hg:Gl X x)(hm:X.mg x=none)(hv:bootBuiltins x=some u)(r:fH v u)(hn:x≠"__name__":=by decide)(hd:(x==("__debug__":Str))=false:=by decide):PE X (.Name x pos) (tC v):=
 λ_ _ _ H _ I h=>ju I hg hm hv ⟨v,H,I,r,h⟩ hn hd
variable {a b:Expr}{ta tb:TE}{pos:Pos}
def PC(X:Cx)(op:CmpOp)(a b:Expr)(t:TE):Prop:=
 ∀(pins:List (Addr×Obj))(s:Shared)(σ:St)(H:Hp)(Q:VK),eM X pins σ H s->t σ H Q->
  wpAny (model X.prog X.w) X.A (eval a X.env) (λv s₁=>wpAny (model X.prog X.w) X.A (eval b X.env) (λu s₂=>wpAny (model X.prog X.w) X.A (compareOp op v u) (EP X pins σ Q) X.xe s₂) X.xe s₁) X.xe s
def tB(t:TE):TT:=λσ H Q=>t σ H λx H1=>∃c,x=.bl c/\Q c H1
theorem kZ(h:PC X op a b t)(h1:behindInMarks op b=false:=by first|exact nobehind _ (by decide) (by decide)|rfl):PT X (.Compare a [op] [b] pos) (tB t):=by intro pins s σ H Q I hw;refine wpAny_isTrue_Compare1 (thn (h pins s σ H _ I hw) λv s1 h1=>thn h1 λu s2 h2=>thn h2 λc s3 hz=>?_) h1;obtain⟨x,H1,I1,r1,q1⟩:=hz;obtain⟨d,rfl,q⟩:=q1;cases r1;exact wpAny_truthy_bool ⟨H1,I1,q⟩
theorem iN(h:PE X e t)(he:∀whole,isTrue e X.env whole=(do let v <- whole;standAt e.pos;holding [v] (truthy v)):=by intro _;rfl):PT X e (tB t):=by intro pins s σ H Q I hw;refine isTrue_plain (thn (h pins s σ H _ I hw) λv s1 hz=>?_) (he _);obtain⟨x,H1,I1,r1,q1⟩:=hz;obtain⟨d,rfl,q⟩:=q1;cases r1;exact wpAny_truthy_bool ⟨H1,I1,q⟩
variable {tA tB':TT}{rest:List Expr}
def lq(t u:TT):TT:=λσ H Q=>t σ H λc H1=>if c=true then u σ H1 Q else Q false H1
def zO(t u:TT):TT:=λσ H Q=>t σ H λc H1=>if c=true then Q true H1 else u σ H1 Q
def mR(t:TT):TT:=λσ H Q=>t σ H λc H1=>Q (!c) H1
theorem hZ(ha:PT X a tA):PW X (.BoolOp .And [a] pos) tA:=by
 intro wh pins s σ H Q I h;refine isTrue_and (thn (ha pins s σ H Q I h) λc s1 e=>?_);cases c with
 | true=>exact isTrue_and_nil e
 | false=>exact e
theorem lF(ha:PT X a tA):PW X (.BoolOp .Or [a] pos) tA:=by
 intro wh pins s σ H Q I h;refine isTrue_or (thn (ha pins s σ H Q I h) λc s1 e=>?_);cases c with
 | false=>exact isTrue_or_nil e
 | true=>exact e
theorem ie(ha:PT X a tA)(hb:PW X (.BoolOp .And (b::rest) pos) tB'):PW X (.BoolOp .And (a::b::rest) pos) (lq tA tB'):=by
 intro wh pins s σ H Q I h;refine isTrue_and (thn (ha pins s σ H _ I h) λc s1 hz=>?_);obtain⟨H1,I1,q1⟩:=hz;cases c with
 | true=>exact hb wh pins s1 σ H1 Q I1 q1
 | false=>exact⟨H1,I1,q1⟩
theorem ko(ha:PT X a tA)(hb:PW X (.BoolOp .Or (b::rest) pos) tB'):PW X (.BoolOp .Or (a::b::rest) pos) (zO tA tB'):=by
 intro wh pins s σ H Q I h;refine isTrue_or (thn (ha pins s σ H _ I h) λc s1 hz=>?_);obtain⟨H1,I1,q1⟩:=hz;cases c with
 | true=>exact⟨H1,I1,q1⟩
 | false=>exact hb wh pins s1 σ H1 Q I1 q1
theorem iz(ha:PT X a tA):PT X (.UnaryOp .Not a pos) (mR tA):=by intro pins s σ H Q I h;exact isTrue_not (ha pins s σ H (λc H1=>Q (!c) H1) I h)
def xX(ta tb:TE):TE:=λσ H Q=>ta σ H λx H1=>∃c,x=.bl c/\if c=true then tb σ H1 Q else Q (.bl false) H1
def BP(ta:TE):TE:=λσ H Q=>ta σ H λx H1=>∃c,x=.bl c/\Q (.bl (!c)) H1
theorem CJ(h:PE X a t):PE X (.BoolOp op [a] pos) t:=λpins s σ H Q I hw=>BoolOp_one (h pins s σ H Q I hw)
theorem wH(ha:PE X a ta)(hb:PE X (.BoolOp .And (b::rest) pos) tb):PE X (.BoolOp .And (a::b::rest) pos) (xX ta tb):=by
 intro pins s σ H Q I h;refine BoolOp_and (thn (ha pins s σ H _ I h) λv s1 hz=>?_);obtain⟨x,H1,I1,r1,q1⟩:=hz;obtain⟨c,rfl,q1⟩:=q1;cases r1;refine wpAny_truthy_bool ?_;cases c with
 | true=>exact hb pins s1 σ H1 Q I1 q1
 | false=>exact⟨.bl false,H1,I1,rfl,q1⟩
theorem CK(ha:PE X a ta):PE X (.UnaryOp .Not a pos) (BP ta):=by intro pins s σ H Q I h;refine UnaryOp_ (thn (ha pins s σ H _ I h) λv s1 hz=>?_);obtain⟨x,H1,I1,r1,q1⟩:=hz;obtain⟨c,rfl,q1⟩:=q1;cases r1;exact not_of (wpAny_truthy_bool ⟨.bl (!c),H1,I1,rfl,q1⟩)
def Pb(t:TT)(ta tb:TE):TE:=λσ H Q=>t σ H λc H1=>if c=true then ta σ H1 Q else tb σ H1 Q
theorem CM(hc:PT X c tA)(ha:PE X a ta)(hb:PE X b tb):PE X (.IfExp c a b pos) (Pb tA ta tb):=by
 intro pins s σ H Q I h;refine wpAny_IfExp (thn (hc pins s σ H _ I h) λd s1 hz=>?_);obtain⟨H1,I1,q1⟩:=hz;cases d with
 | true=>exact ha pins s1 σ H1 Q I1 q1
 | false=>exact hb pins s1 σ H1 Q I1 q1
end
def eL(K:aA)(H:Hp)(a:Addr)(xs:List V):Prop:=
 Rd H a (.lst xs)∨
  ∃(o:Obj)(its:Array Value)(n:Nat),K.lookup a=some o/\o.cls=.type "list"/\o.dict=none/\o.data=.seq its n/\its.size<=sizeLine/\eu xs its.toList
def eD(K:aA)(H:Hp)(a:Addr)(xs:List V):Prop:=
 Rd H a (.tup xs)∨
  ∃(o:Obj)(its:Array Value)(n:Nat),K.lookup a=some o/\o.cls=.type "tuple"/\o.data=.seq its n/\its.size<=sizeLine/\eu xs its.toList
def Oz:Value->Option V
 | .none=>some .non
 | .bool b=>some (.bl b)
 | .int i _=>some (.int i)
 | .str x _=>some (.str x)
 | .bytes b _=>some (.byt b)
 | .float b _=>some (.flt b)
 | .ref a=>some (.ref a)
 | .type n=>some (.ty n)
 | _=>none
theorem fH.abs(r:fH x u):Oz u=some x:=by
 cases x with
 | non=>cases r;rfl
 | bl _=>cases r;rfl
 | int _=>obtain⟨t,rfl⟩:=r;rfl
 | str _=>obtain⟨t,rfl⟩:=r;rfl
 | byt _=>obtain⟨t,rfl⟩:=r;rfl
 | flt _=>obtain⟨t,rfl⟩:=r;rfl
 | ref _=>cases r;rfl
 | ty _=>cases r;rfl
theorem fH.inj(r:fH x u)(q:fH y u):x=y:=Option.some.inj (r.abs.symm.trans q.abs)
theorem eu.inj:∀{xs ys:List V}{us:List Value},eu xs us->eu ys us->xs=ys
 | _,_,_,.nil,.nil=>rfl
 | _,_,_,.cons r t,.cons r' t'=>by rw[r.inj r',eu.inj t t']
section
variable {X:Cx}{pins:List (Addr×Obj)}{σ:St}{H:Hp}{s:Shared}{a:Addr}{xs ys:List V}
theorem eL.of{K:aA}(h:H a=some (.lst xs)):eL K H a xs:=.inl (.inl h)
theorem eD.of{K:aA}(h:H a=some (.tup xs)):eD K H a xs:=.inl (.inl h)
theorem eM.list(I:eM X pins σ H s)(h:eL X.K H a xs):∃its:List Value,eu xs its/\PlainL s.heap a its.toArray/\xs.length<=sizeLine:=by
 rcases h with h|⟨o,its,n,hk,hc,hd,hs,hz,r⟩
 ·obtain⟨z,its,n,r,e⟩:=h.ok I.hok;exact⟨its,r,⟨_,n,e,rfl,rfl,rfl⟩,z⟩
 ·refine⟨its.toList,r,⟨o,n,I.kIn a o hk,hc,hd,by simpa using hs⟩,?_⟩;have e:=r.length;simp only[be]at e;lia
theorem eM.tuple(I:eM X pins σ H s)(h:eD X.K H a xs):∃its:List Value,eu xs its/\IsTup s.heap a its.toArray/\xs.length<=sizeLine:=by
 rcases h with h|⟨o,its,n,hk,hc,hs,hz,r⟩
 ·obtain⟨z,its,r,p⟩:=h.ok I.hok;exact⟨its,r,p,z⟩
 ·refine⟨its.toList,r,⟨o,I.kIn a o hk,hc,n,by simpa using hs⟩,?_⟩;have e:=r.length;simp only[be]at e;lia
theorem eM.list_inj(I:eM X pins σ H s)(h:eL X.K H a xs)(h':eL X.K H a ys):xs=ys:=by
 obtain⟨its,r,⟨o,n,e,_,_,d⟩,_⟩:=I.list h;obtain⟨its',r',⟨o',n',e',_,_,d'⟩,_⟩:=I.list h';rw[e]at e';cases e';rw[d]at d';injection d' with d1 _;have:its=its':=by simpa using congrArg Array.toList d1
 subst this;exact r.inj r'
theorem eM.tuple_inj(I:eM X pins σ H s)(h:eD X.K H a xs)(h':eD X.K H a ys):xs=ys:=by
 obtain⟨its,r,⟨o,e,_,n,d⟩,_⟩:=I.tuple h;obtain⟨its',r',⟨o',e',_,n',d'⟩,_⟩:=I.tuple h';rw[e]at e';cases e';rw[d]at d';injection d' with d1 _;have:its=its':=by simpa using congrArg Array.toList d1
 subst this;exact r.inj r'
end
abbrev Cx.wish(X:Cx)(E:Value->Shared->Prop):Cx:={X with xe:=E}
abbrev Cx.nox(X:Cx):Cx:=X.wish λ_ _=>False
theorem Cx.Ok.wish{X:Cx}(ok:X.Ok)(E:Value->Shared->Prop):(X.wish E).Ok:=
 ⟨ok.mod,ok.kind,ok.glob,ok.blt,ok.above,ok.inj,ok.has,ok.cab,ok.hd,ok.frames,ok.stk,ok.exf,ok.bs,ok.bsz,ok.noex,ok.exfs,ok.funs,ok.frf⟩
theorem Cx.Ok.unwish{X:Cx}{E:Value->Shared->Prop}(ok:(X.wish E).Ok):X.Ok:=
 ⟨ok.mod,ok.kind,ok.glob,ok.blt,ok.above,ok.inj,ok.has,ok.cab,ok.hd,ok.frames,ok.stk,ok.exf,ok.bs,ok.bsz,ok.noex,ok.exfs,ok.funs,ok.frf⟩
section
variable {X:Cx}{pins:List (Addr×Obj)}{σ:St}{H:Hp}{s:Shared}{E:Value->Shared->Prop}
theorem eM.wish(I:eM X pins σ H s)(E:Value->Shared->Prop):eM (X.wish E) pins σ H s:=⟨I.ok.wish E,I.os,I.bare,I.base,I.loc,I.cell,I.free,I.freeC,I.pin,I.hok,I.len⟩
theorem eM.unwish(I:eM (X.wish E) pins σ H s):eM X pins σ H s:=⟨I.ok.unwish,I.os,I.bare,I.base,I.loc,I.cell,I.free,I.freeC,I.pin,I.hok,I.len⟩
theorem SP.unwish(h:SP (X.wish E) pins D f s'):SP X pins D f s':=by
 cases f with
 | next=>obtain⟨σ',H',I,q⟩:=h;exact⟨σ',H',I.unwish,q⟩
 | brk=>obtain⟨σ',H',I,q⟩:=h;exact⟨σ',H',I.unwish,q⟩
 | cont=>obtain⟨σ',H',I,q⟩:=h;exact⟨σ',H',I.unwish,q⟩
 | ret u=>obtain⟨v,σ',H',I,r,q⟩:=h;exact⟨v,σ',H',I.unwish,r,q⟩
theorem pG.nox{st:List Stmt}{t:TS}(h:pG X.nox st t):pG X st t:=λpins s σ H D I hw=>
 wpAny_mono (h pins s σ H D (I.wish _) hw) (λ_ _ q=>q.unwish) λ_ _ z=>False.elim z
end
section
variable {X:Cx}{st:Stmt}{rest:List Stmt}{t u:TS}{e:Expr}{te:TE}{pos:Pos}
def fC:TS:=λD σ H=>D.nx σ H
def dZ(t u:TS):TS:=λD σ H=>t (D.thn u) σ H
theorem eO:pG X [] fC:=λ_ _ σ H _ I h=>wpAny_execs_nil ⟨σ,H,I,h⟩
theorem dM(h1:PS X st t)(h2:pG X rest u):pG X (st::rest) (dZ t u):=by
 intro pins s σ H D I h;refine wpAny_execs_cons (thn (h1 pins s σ H (D.thn u) I h) λf s1 q=>?_);cases f with
 | next=>obtain⟨σ',H',I',q⟩:=q;exact h2 pins s1 σ' H' D I' q
 | ret v=>exact q
 | brk=>exact q
 | cont=>exact q
theorem dO(h1:PS X st t):pG X [st] t:=by
 intro pins s σ H D I h;refine wpAny_execs_cons (thn (h1 pins s σ H D I h) λf s1 q=>?_);cases f with
 | next=>exact wpAny_execs_nil q
 | ret v=>exact q
 | brk=>exact q
 | cont=>exact q
theorem eM.quiet(I:eM X pins σ H s):interactive X.env=false:=by simp[interactive,I.ok.kind]
def eX(te:TE):TS:=λD σ H=>te σ H λ_ H1=>D.nx σ H1
theorem gE(he:PE X e te)(hs:swapsWith e none pos.line X.env=pure false:=by rfl):PS X (.Expr e pos) (eX te):=by intro pins s σ H D I h;exact wpAny_Expr_any (thn (he pins s σ H _ I h) λv s1 ⟨x,H1,I1,r1,q1⟩=>⟨σ,H1,I1,q1⟩) I.quiet hs
def fD(te:TE):TS:=λD σ H=>te σ H D.rt
theorem eF(he:PE X e te):PS X (.Return (some e) pos) (fD te):=by intro pins s σ H D I h;exact wpAny_Return_some (thn (he pins s σ H _ I h) λv s1 ⟨x,H1,I1,r1,q1⟩=>⟨x,σ,H1,I1,r1,q1⟩)
def fE(c:TT)(t u:TS):TS:=λD σ H=>c σ H λb H1=>if b=true then t D σ H1 else u D σ H1
theorem eP(hc:PT X c tc)(ha:pG X a t)(hb:pG X b u):PS X (.If c a b pos) (fE tc t u):=by
 intro pins s σ H D I h;refine wpAny_If (thn (hc pins s σ H _ I h) λd s1 hz=>?_);obtain⟨H1,I1,q1⟩:=hz;cases d with
 | true=>exact ha pins s1 σ H1 D I1 q1
 | false=>exact hb pins s1 σ H1 D I1 q1
def vY:TS:=λ_ _ _=>False
theorem uR:PS X st vY:=λ_ _ _ _ _ _ h=>h.elim
end
abbrev TG:=V->St->Hp->(St->Hp->Prop)->Prop
abbrev Ml:=List V->St->Hp->(St->Hp->Prop)->Prop
def PG(X:Cx)(target:Expr)(t:TG):Prop:=
 ∀(pins:List (Addr×Obj))(s:Shared)(σ:St)(H:Hp)(v:V)(u:Value)(Q:St->Hp->Prop),eM X pins σ H s->fH v u->t v σ H Q->
  wpAny (model X.prog X.w) X.A (assign target X.env u) (λ_ s'=>∃σ' H',eM X pins σ' H' s'/\Q σ' H') X.xe s
def NR(X:Cx)(ts:List Expr)(t:Ml):Prop:=
 ∀(pins:List (Addr×Obj))(s:Shared)(σ:St)(H:Hp)(vs:List V)(us:List Value)(Q:St->Hp->Prop),eM X pins σ H s->eu vs us->t vs σ H Q->
  wpAny (model X.prog X.w) X.A (assignInOrder ((assignEach ts X.env).map (·.2)) us) (λ_ s'=>∃σ' H',eM X pins σ' H' s'/\Q σ' H') X.xe s
abbrev Mj:=V->V->V->Hp->(Hp->Prop)->Prop
def Mr(X:Cx)(t:Mj):Prop:=
 ∀(pins:List (Addr×Obj))(s:Shared)(σ:St)(H:Hp)(o i v:V)(ov iv u:Value)(Q:Hp->Prop),eM X pins σ H s->fH o ov->fH i iv->fH v u->t o i v H Q->
  wpAny (model X.prog X.w) X.A (setItem ov iv u) (λ_ s'=>∃H',eM X pins σ H' s'/\Q H') X.xe s
section
variable {X:Cx}{pos:Pos}
def dR(i:Nat):TG:=λv σ H Q=>Q (σ.set i (some v)) H
theorem kc(hN:X.N.Nodup)(hi:X.N[i]?=some x)(hx:Dl X.env.scope x)(hf:X.fn x=true∨X.env.scope.names.lookup x=some .local:=by first|exact .inl rfl|exact .inr rfl|assumption):PG X (.Name x pos) (dR i):=by intro pins s σ H v u Q I r h;exact wpAny_assign_Name (pQ I hN hi hx r (λs' I'=>⟨_,H,I',h⟩) hf)
def oA:Ml:=λvs σ H Q=>vs=[]/\Q σ H
def gR(t:TG)(u:Ml):Ml:=λvs σ H Q=>onC vs λv r=>t v σ H λσ' H'=>u r σ' H' Q
theorem jS:NR X [] oA:=by intro pins s σ H vs us Q I r h;obtain⟨e,h⟩:=h;subst e;cases r;exact assignInOrder_nil ⟨σ,H,I,h⟩
theorem fQ(h1:PG X e t)(h2:NR X es u)
  (hs:(assignEach (e::es) X.env).map (·.2)=assign e X.env::(assignEach es X.env).map (·.2):=by rfl):NR X (e::es) (gR t u):=by
 intro pins s σ H vs us Q I r h;obtain⟨v,vr,e1,h⟩:=onC.ex h;subst e1;cases r with
 | cons r rr=>rw[hs];refine assignInOrder_cons (thn (h1 pins s σ H _ _ _ I r h) λ_ s1 hz=>?_);obtain⟨σ1,H1,I1,q1⟩:=hz;exact h2 pins s1 σ1 H1 _ _ Q I1 rr q1
def nq(K:aA)(n:Nat)(t:Ml):TG:=λv σ H Q=>onR v λa=>lM (eD K H a) λxs=>xs.length=n/\t xs σ H Q
theorem kb(hc:X.calm=true)(h:NR X es t)
  (hn:(assignEach es X.env).length=n:=by rfl) (hst:(assignEach es X.env).findIdx? (·.1)=none:=by rfl):PG X (.Tuple es k pos) (nq X.K n t):=by
 intro pins s σ H v u Q I r hw;obtain⟨a,rfl,hw⟩:=onR.ex hw;obtain @⟨xs,hq,hl,hw⟩:=hw;cases r;obtain⟨its,rv,ht,hz⟩:=I.tuple hq;refine assign_Tuple_tuple (I.ok.hd hc) ht (by simp[hn,<-hl,rv.length]) hst λh' hx=>?_;have I1:eM X pins σ H {s with heap:=h'}:=I.kept (t':=s.toks) λb o e=>hx b o (aJ (Heap.lt_size e)) e;exact h pins _ σ H xs _ Q I1 (by simpa using rv) hw
def KN(to ti:TE)(t:Mj):TG:=λv σ H Q=>to σ H λo H1=>ti σ H1 λi H2=>t o i v H2 λH3=>Q σ H3
theorem CI(ho:PE X o to)(hi:PE X i ti)(hs:Mr X t)
  (ha:∀v,assign (.Subscript o i pos) X.env v=(do
   let ov <- holding [v] (eval o X.env)
   let iv <- holding [v,ov] (eval i X.env)
   standAt pos
   holding [v,ov,iv] (setItem ov iv v)
   release [v,ov,iv] []):=by intro _;rfl):PG X (.Subscript o i pos) (KN to ti t):=by
 intro pins s σ H v u Q I r h;rw[ha];refine wpAny_bind (wpAny_holding (thn (ho pins s σ H _ I h) λov s1 hz=>?_));obtain⟨x,H1,I1,r1,q1⟩:=hz;refine wpAny_bind (wpAny_holding (thn (hi pins s1 σ H1 _ I1 q1) λiv s2 hz=>?_));obtain⟨y,H2,I2,r2,q2⟩:=hz;refine wpAny_bind (wpAny_standAt (wpAny_bind (wpAny_holding (thn (hs pins s2 σ H2 x y v ov iv u _ I2 r1 r2 r q2) λ_ s3 hz=>?_))));obtain⟨H3,I3,q3⟩:=hz;exact wpAny_release ⟨σ,H3,I3,q3⟩
def eB(te:TE)(g:TG):TS:=λD σ H=>te σ H λx H1=>g x σ H1 D.nx
theorem ka(he:PE X e te)(hg:PG X tg g)(hs:swapsWithSole [tg] e pos.line X.env=pure false:=by rfl)(hw:swappedStores [tg] e X.env=pure none:=by rfl)
  (h1:(assignEach [tg] X.env).map (·.2)=[assign tg X.env]:=by rfl):PS X (.Assign [tg] e pos) (eB te g):=by
 intro pins s σ H D I h;refine wpAny_Assign_stores (thn (he pins s σ H _ I h) λv s1 hz=>?_) hs hw;obtain⟨x,H1,I1,r1,q1⟩:=hz;rw[h1];exact thn (hg pins s1 σ H1 x v _ I1 r1 q1) λ_ s2 q=>q
theorem CD(hN:X.N.Nodup)(hi:X.N[i]?=some x)(hx:Dl X.env.scope x)(he:PE X e te)(hs:swapsWith e (some (.Name x pos')) pos.line X.env=pure false:=by rfl)(hf:X.fn x=true∨X.env.scope.names.lookup x=some .local:=by first|exact .inl rfl|exact .inr rfl|assumption):
  PS X (.Assign [.Name x pos'] e pos) (eB te (dR i)):=by
 intro pins s σ H D I h;refine wpAny_Assign_Name (thn (he pins s σ H _ I h) λv s1 hz=>?_) hs;obtain⟨y,H1,I1,r1,q1⟩:=hz;exact pQ I1 hN hi hx r1 (λs2 I2=>⟨_,H1,I2,q1⟩) hf
end
section
variable {X:Cx}{pos:Pos}
def gi(c:TT)(tb:TS):TS:=λD σ H=>∃W:Nat->St->Hp->Prop,(∃m,W m σ H)/\∀m σ H,W m σ H->
 c σ H λb H1=>if b=true then ∃N:St->Hp->Prop,(∀σ' H',N σ' H'->∃m',m'<m/\W m' σ' H')/\tb (D.lp (N)) σ H1 else D.nx σ H1
theorem gA(hp:PassesOwn (model X.prog X.w) X.A X.env X.xe)(hc:PT X c tc)(hb:pG X body tb):PS X (.While c body [] pos) (gi tc tb):=by
 intro pins s σ H D I h;obtain⟨W,⟨m0,w0⟩,turn⟩:=h;refine wpAny_While (codeAny_whileLoop (λn s'=>∃σ' H',eM X pins σ' H' s'/\W n σ' H') ?_ m0 ⟨σ,H,I,w0⟩);rintro n s1 ⟨σ1,H1,I1,w1⟩;refine wpAny_passesOwn hp (thn (hc pins s1 σ1 H1 _ I1 (turn n σ1 H1 w1)) λb s2 hz=>?_);obtain⟨H2,I2,q2⟩:=hz;cases b with
 | true=>
  obtain⟨N,hN,q2⟩:=q2;rw[if_pos rfl];refine wpAny_passesOwn hp (thn (hb pins s2 σ1 H2 _ I2 q2) λf s3 q3=>?_);cases f with
  | next=>obtain⟨σ3,H3,I3,n3⟩:=q3;obtain⟨m',hm,w3⟩:=hN σ3 H3 n3;exact⟨m',hm,σ3,H3,I3,w3⟩
  | cont=>obtain⟨σ3,H3,I3,n3⟩:=q3;obtain⟨m',hm,w3⟩:=hN σ3 H3 n3;exact⟨m',hm,σ3,H3,I3,w3⟩
  | brk=>exact q3
  | ret v=>exact q3
 | false=>rw[if_neg aR];exact wpAny_execs_nil ⟨σ1,H2,I2,q2⟩
end
structure It where
 go:Nat->Hp->Prop
 yld:Nat->Hp->V->Hp->Prop
 stop:Nat->Hp->Prop
def oa(X:Cx)(pins:List (Addr×Obj))(H:Hp)(b:Addr):Prop:=
 H b=none/\b≠X.env.locals/\b∉X.fs/\(b∈X.ex∨X.s₀.heap.objs.size<=b)/\(∀x c,X.env.cells.lookup x=some c->c≠b)/\∀p∈X.pn++pins,p.1≠b
theorem eM.fpOk(I:eM X pins σ H s)(hb:s.heap.objs.size<=b)(hn:H' b=none):oa X pins H' b:=by
 refine⟨hn,az (aY I.lt hb),I.nofs hb,.inr (aP I.sz hb),λx c e z=>?_,λp hp z=>?_⟩
 ·obtain⟨v,q⟩:=I.cell x c e;exact absurd (aY q.lt (by rw[z];exact hb)) (bS _)
 ·exact absurd (aY (Heap.lt_size (I.pin p hp).1) (by rw[z];exact hb)) (bS _)
structure vE(P:Program)(w:World)(K:aA)(tg:Expr)(J:It)(fp:List Addr)(it:Addr)(tn:Nat->Heap->Prop):Prop where
 mem:it∈fp
 obj:∀i h,tn i h->∀b∈fp,∃o,h.get? b=some o/\∀v,o.data≠.cell v
 keep:∀i h h',tn i h->(∀b∈fp,∀o,h.get? b=some o->h'.get? b=some o)->tn i h'
 item:∀(X:Cx),X.prog=P->X.w=w->X.K=K->X.calm=true->∀(i:Nat)(pins:List (Addr×Obj))(s:Shared)(σ:St)(H:Hp)(E:Value->Shared->Prop),eM X pins σ H s->(∀b∈fp,oa X pins H b)->tn i s.heap->J.go i H->
  wpAny (model P w) X.A (pyNext (.ref it)) (λr s1=>∃u,r=some u/\
   wpAny (model P w) X.A (letOwnedTupleGo tg (.ref it) u) (λ_ s2=>∃x H',eM X pins σ H' s2/\fH x u/\J.yld i H x H'/\tn (i+1) s2.heap/\∀b∈fp,H' b=none) E s1) E s
 done:∀(X:Cx),X.prog=P->X.w=w->X.K=K->X.calm=true->∀(i:Nat)(pins:List (Addr×Obj))(s:Shared)(σ:St)(H:Hp)(E:Value->Shared->Prop),eM X pins σ H s->(∀b∈fp,oa X pins H b)->tn i s.heap->J.stop i H->
  wpAny (model P w) X.A (pyNext (.ref it)) (λr s1=>r=none/\eM X pins σ H s1) E s
 self:∀(A:Around)(i:Nat)(s:Shared)(Q:Value->Shared->Prop)(E:Value->Shared->Prop),tn i s.heap->Q (.ref it) s->wpAny (model P w) A (pyIter (.ref it)) Q E s
abbrev TI:=St->Hp->(It->Hp->Prop)->Prop
def PJ(X:Cx)(pins:List (Addr×Obj))(σ:St)(tg:Expr)(R:It->Hp->Prop)(itv:Value)(s2:Shared):Prop:=
 ∃(it:Addr)(fp:List Addr)(tn:Nat->Heap->Prop)(J:It)(H':Hp),itv=.ref it/\eM X pins σ H' s2/\vE X.prog X.w X.K tg J fp it tn/\tn 0 s2.heap/\(∀b∈fp,oa X pins H' b)/\R J H'
def PI(X:Cx)(tg iter:Expr)(wi:TI):Prop:=
 ∀(pins:List (Addr×Obj))(s:Shared)(σ:St)(H:Hp)(R:It->Hp->Prop),eM X pins σ H s->wi σ H R->
  wpAny (model X.prog X.w) X.A (eval iter X.env) (λv s1=>wpAny (model X.prog X.w) X.A (pyIter v) (PJ X pins σ tg R) X.xe s1) X.xe s
theorem ul(ho:s.heap.get? it=some o)(hc:o.cls=.type n)(hd:o.data=.fields vs)
    (hn:["enumerate","zip","dict_itemiterator","dict_reverseitemiterator","odict_iterator","itertools.zip_longest","itertools.pairwise"].contains n=false) (hQ:Q () s):wpAny M A (letOwnedTupleGo tg (.ref it) u) Q E s:=by
  unfold letOwnedTupleGo;cases tg<;>first
    | exact wpAny_pure hQ
    | (cases u<;>first
        | exact wpAny_pure hQ
        | (refine wpAny_bind (wpAny_load ho ?_)
           rw[hc,hd];show wpAny M A (if(["enumerate","zip","dict_itemiterator","dict_reverseitemiterator","odict_iterator","itertools.zip_longest","itertools.pairwise"].contains n&&vs[0]? == some (rawInt _))=true then _ else _) Q E s;rw[if_neg (by intro h;rw[hn,Bool.false_and]at h;cases h)];exact wpAny_pure hQ))
def My(K:aA)(a:Addr):It:=
 ⟨λi H=>∃xs x,eL K H a xs/\xs[i]?=some x,λi H x H'=>H'=H/\∀xs,eL K H a xs->xs[i]?=some x,λi H=>∃xs,eL K H a xs/\xs.length<=i⟩
def QY(K:aA)(a:Addr):It:=
 ⟨λi H=>∃xs x,eD K H a xs/\xs[i]?=some x,λi H x H'=>H'=H/\∀xs,eD K H a xs->xs[i]?=some x,λi H=>∃xs,eD K H a xs/\xs.length<=i⟩
def Kw(lo:Int)(n:Nat):It:=⟨λi _=>i<n,λi H x H'=>H'=H/\x=.int (lo+i),λi _=>n<=i⟩
theorem yx{P:Program}{w:World}{K:aA}{tg:Expr}(a it:Addr):vE P w K tg (My K a) [it] it (λi h=>h.IsListIter it a i) where
 mem:=by simp
 obj:=λi h st b hb=>by
  have e:b=it:=by simpa using hb
  subst e;obtain⟨o,e,c,d⟩:=st;exact⟨o,e,λv z=>by rw[d]at z;cases z⟩
 keep:=λi h h' st k=>st.at λo e=>k it (by simp) o e
 item:=by intro X hP hw hK hc i pins s σ H E I hf st hg;subst hP hw hK;obtain⟨xs,x,hq,hx⟩:=hg;obtain⟨its,rv,p,hz⟩:=I.list hq;obtain⟨u,hu,ru⟩:=rv.get hx;obtain⟨f0,f1,f2,f3,f4,f5⟩:=hf it (by simp);refine wpAny_pyNext_list_item st p.isList (x:=u) (by simpa using hu) λh' st' sb=>?_;have I1:eM X pins σ H {s with heap:=h'}:=I.turned (t':=s.toks) (λb o hb e=>(sb.2 b hb).trans e) f0 f1 f3 f4 f5;obtain⟨o,e,c,d⟩:=id st';exact⟨u,rfl,ul (s:={s with heap:=h'}) e c d (by decide) ⟨x,H,I1,ru,⟨rfl,λys hy=>by rw[I.list_inj hy hq];exact hx⟩,st',λb hb=>(hf b hb).1⟩⟩
 done:=by intro X hP hw hK hc i pins s σ H E I hf st hg;subst hP hw hK;obtain⟨xs,hq,hx⟩:=hg;obtain⟨its,rv,p,hz⟩:=I.list hq;obtain⟨f0,f1,f2,f3,f4,f5⟩:=hf it (by simp);have hl:=rv.length;exact wpAny_pyNext_list_end (I.ok.hd hc) st p.isList (by simp;lia) λh' eb=>⟨rfl,I.turned (t':=s.toks) (λb o hb e=>eb b o hb e) f0 f1 f3 f4 f5⟩
 self:=λ_ _ _ _ _ st h=>wpAny_pyIter_listiter st h
theorem vP{P:Program}{w:World}{K:aA}{tg:Expr}(a it:Addr):vE P w K tg (QY K a) [it] it (λi h=>h.IsTupleIter it a i) where
 mem:=by simp
 obj:=λi h st b hb=>by
  have e:b=it:=by simpa using hb
  subst e;obtain⟨o,e,c,d⟩:=st;exact⟨o,e,λv z=>by rw[d]at z;cases z⟩
 keep:=λi h h' st k=>st.at λo e=>k it (by simp) o e
 item:=by intro X hP hw hK hc i pins s σ H E I hf st hg;subst hP hw hK;obtain⟨xs,x,hq,hx⟩:=hg;obtain⟨its,rv,p,hz⟩:=I.tuple hq;obtain⟨u,hu,ru⟩:=rv.get hx;obtain⟨f0,f1,f2,f3,f4,f5⟩:=hf it (by simp);refine wpAny_pyNext_tuple_item st (show s.heap.IsTuple a its.toArray from p) (x:=u) (by simpa using hu) λh' st' sb=>?_;have I1:eM X pins σ H {s with heap:=h'}:=I.turned (t':=s.toks) (λb o hb e=>(sb.2 b hb).trans e) f0 f1 f3 f4 f5;obtain⟨o,e,c,d⟩:=id st';exact⟨u,rfl,ul (s:={s with heap:=h'}) e c d (by decide) ⟨x,H,I1,ru,⟨rfl,λys hy=>by rw[I.tuple_inj hy hq];exact hx⟩,st',λb hb=>(hf b hb).1⟩⟩
 done:=by intro X hP hw hK hc i pins s σ H E I hf st hg;subst hP hw hK;obtain⟨xs,hq,hx⟩:=hg;obtain⟨its,rv,p,hz⟩:=I.tuple hq;obtain⟨f0,f1,f2,f3,f4,f5⟩:=hf it (by simp);have hl:=rv.length;exact wpAny_pyNext_tuple_end (I.ok.hd hc) st (show s.heap.IsTuple a its.toArray from p) (by simp;lia) λh' eb=>⟨rfl,I.turned (t':=s.toks) (λb o hb e=>eb b o hb e) f0 f1 f3 f4 f5⟩
 self:=λ_ _ _ _ _ st h=>wpAny_pyIter_tupleiter st h
theorem vQ{P:Program}{w:World}{K:aA}{tg:Expr}(it:Addr)(lo:Int)(n:Nat):vE P w K tg (Kw lo n) [it] it (λi h=>IsRangeIter h it (lo+(i:Nat)*1) ((n:Int)-(i:Nat)) 1) where
 mem:=by simp
 obj:=λi h st b hb=>by
  have e:b=it:=by simpa using hb
  subst e;exact⟨_,st,λv z=>by
   have z':Data.fields _=Data.cell v:=z;cases z'⟩
 keep:=λi h h' st k=>k it (by simp) _ st
 item:=by intro X hP hw hK hc i pins s σ H E I hf st hg;subst hP hw hK;obtain⟨f0,f1,f2,f3,f4,f5⟩:=hf it (by simp);have W:=Walks.range (prog:=X.prog) (w:=X.w) (I.ok.hd hc) it lo 1 n;refine W.item i s _ _ hg st λv h' tk hv st' kk=>?_;obtain⟨t,rfl⟩:=hv;have I1:eM X pins σ H {s with heap:=h',toks:=tk}:=I.turned (λb o hb e=>kk b o (by simpa using hb) e) f0 f1 f3 f4 f5;refine⟨_,rfl,ul (s:={s with heap:=h',toks:=tk}) (n:="range_iterator") st' rfl rfl (by decide) ⟨.int (lo+i),H,I1,⟨t,?_⟩,⟨rfl,rfl⟩,st',λb hb=>(hf b hb).1⟩⟩;rw[Int.mul_one]
 done:=by intro X hP hw hK hc i pins s σ H E I hf st hg;subst hP hw hK;obtain⟨f0,f1,f2,f3,f4,f5⟩:=hf it (by simp);exact wpAny_pyNext_range_end (I.ok.hd hc) st (by have:n<=i:=hg;lia) λh' eb=>⟨rfl,I.turned (t':=s.toks) (λb o hb e=>eb b o hb e) f0 f1 f3 f4 f5⟩
 self:=λ_ _ _ _ _ st h=>wpAny_pyIter_rangeiter st h
section
variable {X:Cx}{tg:Expr}
def iT(K:aA)(tl:TE):TI:=λσ H R=>tl σ H λx H1=>onR x λa=>lM (eL K H1 a) λ_=>R (My K a) H1
def KL(K:aA)(tl:TE):TI:=λσ H R=>tl σ H λx H1=>onR x λa=>lM (eD K H1 a) λ_=>R (QY K a) H1
theorem gN{l:Expr}{tl:TE}(hl:PE X l tl):PI X tg l (iT X.K tl):=by
 intro pins s σ H R I h;refine thn (hl pins s σ H _ I h) λv s1 hz=>?_;obtain⟨x,H1,I1,r1,q1⟩:=hz;obtain⟨a,rfl,q1⟩:=onR.ex q1;obtain @⟨xs,hq,q⟩:=q1;cases r1;obtain⟨its,rv,p,hz⟩:=I1.list hq;refine wpAny_pyIter_list p.isList ?_;refine⟨s1.heap.objs.size,[s1.heap.objs.size],_,_,H1,rfl,I1.kept (t':=s1.toks) λb o e=>Heap.get?_push_of_some _ e,yx a _,⟨_,Heap.get?_push_size _ rfl,rfl,rfl⟩,λb hb=>?_,q⟩;have e:b=s1.heap.objs.size:=by simpa using hb
 subst e;exact I1.fpOk (aC _) (I1.hok.fresh (aC _))
theorem CH{l:Expr}{tl:TE}(hl:PE X l tl):PI X tg l (KL X.K tl):=by
 intro pins s σ H R I h;refine thn (hl pins s σ H _ I h) λv s1 hz=>?_;obtain⟨x,H1,I1,r1,q1⟩:=hz;obtain⟨a,rfl,q1⟩:=onR.ex q1;obtain @⟨xs,hq,q⟩:=q1;cases r1;obtain⟨its,rv,p,hz⟩:=I1.tuple hq;refine wpAny_pyIter_tuple (show s1.heap.IsTuple a its.toArray from p) ?_;refine⟨s1.heap.objs.size,[s1.heap.objs.size],_,_,H1,rfl,I1.kept (t':=s1.toks) λb o e=>Heap.get?_push_of_some _ e,vP a _,⟨_,Heap.get?_push_size _ rfl,rfl,rfl⟩,λb hb=>?_,q⟩;have e:b=s1.heap.objs.size:=by simpa using hb
 subst e;exact I1.fpOk (aC _) (I1.hok.fresh (aC _))
theorem Bz{pins:List (Addr×Obj)}{σ:St}{H:Hp}{s:Shared}{R:It->Hp->Prop}{E:Value->Shared->Prop}{lo hi:Int}{t u v:Tok}{tk:Nat}(I:eM X pins σ H s)(h1 : -(2^62)<=lo)(h2:lo<2^62)(h3 : -(2^62)<=hi)(h4:hi<2^62)
  (q:R (Kw lo (hi-lo).toNat) H):wpAny (model X.prog X.w) X.A (pyIter (.ref s.heap.objs.size)) (PJ X pins σ tg R) E {s with heap:=s.heap.push {cls:=.type "range",data:=.fields #[.int lo t,.int hi u,.int 1 v]},toks:=tk}:=by
 refine wpAny_pyIter_range (IsRange.new ..) (small_one h1 h2 h3 h4) ?_;have I1:eM X pins σ H {s with heap:=s.heap.push {cls:=.type "range",data:=.fields #[.int lo t,.int hi u,.int 1 v]},toks:=tk}:=I.kept λb o e=>Heap.get?_push_of_some _ e;refine⟨(s.heap.push {cls:=.type "range",data:=.fields #[.int lo t,.int hi u,.int 1 v]}).objs.size,[(s.heap.push {cls:=.type "range",data:=.fields #[.int lo t,.int hi u,.int 1 v]}).objs.size],_,_,H,rfl,
  I1.kept (t':=tk) λb o e=>Heap.get?_push_of_some _ e,vQ _ lo (hi-lo).toNat,?_,λb hb=>?_,q⟩
 ·have e1:lo+((0:Nat):Int)*1=lo:=by simp
  have e2:(((hi-lo).toNat:Nat):Int)-((0:Nat):Int)=Builtin.Range.rangeSize lo hi 1:=by rw[rangeSize_one];split<;>lia
  show IsRangeIter _ _ (lo+((0:Nat):Int)*1) ((((hi-lo).toNat:Nat):Int)-((0:Nat):Int)) 1;rw[e1,e2];exact Heap.get?_push_size _ rfl
 ·have e:b=(s.heap.push {cls:=.type "range",data:=.fields #[.int lo t,.int hi u,.int 1 v]}).objs.size:=by simpa using hb
  subst e;exact I1.fpOk (aC _) (I1.hok.fresh (aC _))
def yN(ta:TA):TI:=λσ H R=>ta σ H λvs H1=>on1 vs λx=>onI x λj=>-(2^62)<=j/\j<2^62/\R (Kw 0 j.toNat) H1
theorem nQ{a:Expr}{ta:TA}{p pos:Pos}(hg:Gl X "range")(hm:X.mg "range"=none)(ha:PA X [a] ta)(hs:starEach [a] X.env=[(false,eval a X.env)]:=by rfl):PI X tg (.Call (.Name "range" p) [a] [] pos) (yN ta):=by
 intro pins s σ H R I h;refine Call_ (ju I hg hm boot_range (bJ (thn (ha pos pins s σ H _ I h) λus s1 hz=>?_) hs rfl));obtain⟨vs,H1,I1,r1,q1⟩:=hz;obtain⟨x,rfl,q1⟩:=on1.ex q1;obtain⟨j,rfl,q1,q2,q⟩:=onI.ex q1;cases r1 with
 | cons r rr=>cases rr;obtain⟨t,rfl⟩:=r;exact call_range_1 (Bz I1 (by lia) (by lia) q1 q2 (by simpa using q))
def iV(wi:TI)(g:TG)(tb:TS):TS:=λD σ H=>wi σ H λJ H1=>∃W:Nat->Nat->St->Hp->Prop,(∃m,W 0 m σ H1)/\∀i m σ H,W i m σ H->
 (J.stop i H/\D.nx σ H)∨(J.go i H/\∃N:St->Hp->Prop,(∀σ' H',N σ' H'->∃m',m'<m/\W (i+1) m' σ' H')/\∀x H',J.yld i H x H'->g x σ H' λσ2 H2=>tb (D.lp (N)) σ2 H2)
def sL(fp:List Addr)(h:Heap):List (Addr×Obj):=fp.filterMap λb=>(h.get? b).map λo=>(b,o)
theorem ke(hb:b∈fp)(e:h.get? b=some o):(b,o)∈sL fp h:=cH.mpr ⟨b,hb,by rw[e];rfl⟩
theorem zm(hp:p∈sL fp h):p.1∈fp/\h.get? p.1=some p.2:=by
 obtain⟨b,hb,e⟩:=cH.mp hp;cases q:h.get? b with
 | none=>rw[q]at e;cases e
 | some o=>rw[q]at e;have e':(b,o)=p:=Option.some.inj e;subst e';exact⟨hb,q⟩
theorem eM.pinned(I:eM X pins σ H s)(hf:∀b∈fp,oa X pins H b)(ho:∀b∈fp,∃o,s.heap.get? b=some o/\∀v,o.data≠.cell v):eM X (pins++sL fp s.heap) σ H s:=
 I.pins_of λp hp=>(aQ.mp hp).elim (λz=>I.pin p (aL _ z)) λz=>by obtain⟨hb,e⟩:=zm z;obtain⟨f0,f1,f2,_⟩:=hf p.1 hb;obtain⟨o,e',d⟩:=ho p.1 hb;rw[e]at e';cases e';exact⟨e,f0,f1,f2,d⟩
theorem eM.unpinned(I:eM X (pins++pl) σ H s):eM X pins σ H s:=I.pins_of λp hp=>I.pin p (aL _ (ae _ hp))
theorem fj(hp:PassesOwn (model X.prog X.w) X.A X.env X.xe)(hc:X.calm=true)(hi:PI X tg iter wi)(hg:PG X tg g)(hb:pG X body tb)
  (hs:∀x,foldedSetIterable iter X.env x=pure x:=by intro _;rfl):PS X (.For tg iter body [] pos) (iV wi g tb):=by
 intro pins s σ H D I h;refine wpAny_For (thn (hi pins s σ H _ I h) λv s1 h1=>thn h1 λitv s2 h2=>?_) hs;obtain⟨it,fp,tn,J,H2,e,I2,T,st2,f2,W,⟨m0,w0⟩,turn⟩:=h2;subst e;have stat:∀{H':Hp},(∀b∈fp,H' b=none)->∀b∈fp,oa X pins H' b:=λhn b hb=>⟨hn b hb,(f2 b hb).2⟩;refine codeAny_forLoop_any (λn s'=>∃i σ' H',eM X pins σ' H' s'/\tn i s'.heap/\(∀b∈fp,H' b=none)/\W i n σ' H') ?_ m0 ⟨0,σ,H2,I2,st2,λb hb=>(f2 b hb).1,w0⟩;rintro n s3 ⟨i,σ3,H3,I3,st3,fr3,w3⟩;rcases turn i n σ3 H3 w3 with⟨stop,qn⟩|⟨go,N,hN,step⟩
 ·refine wpAny_passesOwn hp (thn (T.done X rfl rfl rfl hc i pins s3 σ3 H3 X.xe I3 (stat fr3) st3 stop) λr s4 hz=>?_);obtain⟨hr,I4⟩:=hz;subst hr;exact wpAny_execs_nil ⟨σ3,H3,I4,qn⟩
 ·refine wpAny_passesOwn hp (thn (T.item X rfl rfl rfl hc i pins s3 σ3 H3 X.xe I3 (stat fr3) st3 go) λr s4 hz=>?_);obtain⟨u,hr,h4⟩:=hz;subst hr;refine wpAny_passesOwn hp (thn h4 λ_ s5 hz=>?_);obtain⟨x,H5,I5,r5,y5,st5,fr5⟩:=hz;have I5':=I5.pinned (stat fr5) (T.obj _ _ st5);refine wpAny_passesOwn hp (thn (hg _ s5 σ3 H5 x u _ I5' r5 (step x H5 y5)) λ_ s6 hz=>?_);obtain⟨σ6,H6,I6,q6⟩:=hz;refine wpAny_passesOwn hp (thn (hb _ s6 σ6 H6 _ I6 q6) λf s7 q7=>?_);have again:∀{σ7:St}{H7:Hp},eM X (pins++sL fp s5.heap) σ7 H7 s7->N σ7 H7->∃m,m<n/\∃i σ' H',eM X pins σ' H' s7/\tn i s7.heap/\(∀b∈fp,H' b=none)/\W i m σ' H':=λ{σ7 H7} I7 n7=>by obtain⟨m',hm,w7⟩:=hN σ7 H7 n7;refine⟨m',hm,i+1,σ7,H7,I7.unpinned,T.keep _ _ _ st5 λb hb o e=>(I7.pin (b,o) (aL _ (aL _ (ke hb e)))).1,λb hb=>?_,w7⟩;obtain⟨o,e,d⟩:=T.obj _ _ st5 b hb;exact(I7.pin (b,o) (aL _ (aL _ (ke hb e)))).2.1
  cases f with
  | next=>obtain⟨σ7,H7,I7,n7⟩:=q7;exact again I7 n7
  | cont=>obtain⟨σ7,H7,I7,n7⟩:=q7;exact again I7 n7
  | brk=>obtain⟨σ7,H7,I7,q7⟩:=q7;exact⟨σ7,H7,I7.unpinned,q7⟩
  | ret v=>obtain⟨x7,σ7,H7,I7,r7,q7⟩:=q7;exact⟨x7,σ7,H7,I7.unpinned,r7,q7⟩
end
theorem gZ{K:aA}{a:Addr}{xs:List V}{g:TG}{tb:TS}{D:fz}{σ:St}{H:Hp}(Pv:Nat->St->Hp->Prop)(h0:Pv 0 σ H)(hl:∀i σ H,i<=xs.length->Pv i σ H->eL K H a xs)
  (hs:∀i x σ H,xs[i]?=some x->Pv i σ H->g x σ H λσ2 H2=>tb (D.lp (Pv (i+1))) σ2 H2) (hd:∀σ H,Pv xs.length σ H->D.nx σ H):
  ∃W:Nat->Nat->St->Hp->Prop,(∃m,W 0 m σ H)/\∀i m σ H,W i m σ H->
   ((My K a).stop i H/\D.nx σ H)∨((My K a).go i H/\∃N:St->Hp->Prop,(∀σ' H',N σ' H'->∃m',m'<m/\W (i+1) m' σ' H')/\∀x H',(My K a).yld i H x H'->g x σ H' λσ2 H2=>tb (D.lp (N)) σ2 H2):=by
 refine⟨λi m σ H=>m=xs.length-i/\i<=xs.length/\Pv i σ H,⟨xs.length,by simp,aS _,h0⟩,?_⟩;rintro i m σ H ⟨rfl,hi,p⟩;have q:=hl i σ H hi p;by_cases hlt:i<xs.length
 ·refine .inr ⟨⟨xs,xs[i],q,by simp[hlt]⟩,Pv (i+1),λσ' H' p'=>⟨xs.length-(i+1),by lia,rfl,hlt,p'⟩,λx H' y=>?_⟩;obtain⟨e,y⟩:=y;subst e;exact hs i x σ _ (y xs q) p
 ·have e:i=xs.length:=by lia
  subst e;exact .inl ⟨⟨xs,q,aC _⟩,hd σ H p⟩
theorem rD{lo:Int}{n:Nat}{g:TG}{tb:TS}{D:fz}{σ:St}{H:Hp}(Pv:Nat->St->Hp->Prop)(h0:Pv 0 σ H)
  (hs:∀i σ H,i<n->Pv i σ H->g (.int (lo+i)) σ H λσ2 H2=>tb (D.lp (Pv (i+1))) σ2 H2) (hd:∀σ H,Pv n σ H->D.nx σ H):
  ∃W:Nat->Nat->St->Hp->Prop,(∃m,W 0 m σ H)/\∀i m σ H,W i m σ H->
   ((Kw lo n).stop i H/\D.nx σ H)∨((Kw lo n).go i H/\∃N:St->Hp->Prop,(∀σ' H',N σ' H'->∃m',m'<m/\W (i+1) m' σ' H')/\∀x H',(Kw lo n).yld i H x H'->g x σ H' λσ2 H2=>tb (D.lp (N)) σ2 H2):=by
 refine⟨λi m σ H=>m=n-i/\i<=n/\Pv i σ H,⟨n,by simp,aS _,h0⟩,?_⟩;rintro i m σ H ⟨rfl,hi,p⟩;by_cases hlt:i<n
 ·refine .inr ⟨hlt,Pv (i+1),λσ' H' p'=>⟨n-(i+1),by lia,rfl,hlt,p'⟩,λx H' y=>?_⟩;obtain⟨e,y⟩:=y;subst e y;exact hs i σ _ hlt p
 ·have e:i=n:=by lia
  subst e;exact .inl ⟨aC _,hd σ H p⟩
abbrev R2:=V->V->Hp->VK->Prop
def mM(X:Cx)(f:Value->Value->Sem Value)(r:R2):Prop:=
 ∀(pins:List (Addr×Obj))(s:Shared)(σ:St)(H:Hp)(x y:V)(v u:Value)(Q:VK),eM X pins σ H s->fH x v->fH y u->r x y H Q->
  wpAny (model X.prog X.w) X.A (f v u) (EP X pins σ Q) X.xe s
def O0(X:Cx)(f:Value->Sem Value)(r:V->Hp->VK->Prop):Prop:=
 ∀(pins:List (Addr×Obj))(s:Shared)(σ:St)(H:Hp)(x:V)(v:Value)(Q:VK),eM X pins σ H s->fH x v->r x H Q->
  wpAny (model X.prog X.w) X.A (f v) (EP X pins σ Q) X.xe s
def kS(X:Cx)(f:Value)(r:List V->Hp->VK->Prop):Prop:=
 ∀(pins:List (Addr×Obj))(s:Shared)(σ:St)(H:Hp)(xs:List V)(us:List Value)(Q:VK),eM X pins σ H s->eu xs us->r xs H Q->
  wpAny (model X.prog X.w) X.A (call f us) (EP X pins σ Q) X.xe s
def dj(r:R2)(ta tb:TE):TE:=λσ H Q=>ta σ H λx H1=>tb σ H1 λy H2=>r x y H2 Q
def mQ(r:V->Hp->VK->Prop)(ta:TE):TE:=λσ H Q=>ta σ H λx H1=>r x H1 Q
def rI(C:Int->Int->Prop)(g:Int->Int->V):R2:=λx y H Q=>onI x λi=>onI y λj=>C i j/\Q (g i j) H
def vx(g:Int->Int->V):R2:=λx y H Q=>onI x λi=>onI y λj=>Q (g i j) H
def rU(g:Int->V):V->Hp->VK->Prop:=λx H Q=>onI x λi=>Q (g i) H
section
variable {X:Cx}{a b c:Expr}{ta tb tc:TE}{pos:Pos}
theorem Kg(ha:PE X a ta)(hb:PE X b tb){pins:List (Addr×Obj)}{s:Shared}{σ:St}{H:Hp}{R:V->V->Hp->Prop}(I:eM X pins σ H s)
  (h:ta σ H λx H1=>tb σ H1 λy H2=>R x y H2) {Q:Value->Shared->Prop} {f:Value->Value->Sem Value}
  (hf:∀v u s2 x y H2,eM X pins σ H2 s2->fH x v->fH y u->R x y H2->wpAny (model X.prog X.w) X.A (f v u) Q X.xe s2):
  wpAny (model X.prog X.w) X.A (eval a X.env) (λv s₁=>wpAny (model X.prog X.w) X.A (eval b X.env) (λu s₂=>wpAny (model X.prog X.w) X.A (f v u) Q X.xe s₂) X.xe s₁) X.xe s:=by
 refine thn (ha pins s σ H _ I h) λv s1 hz=>?_;obtain⟨x,H1,I1,r1,q1⟩:=hz;refine thn (hb pins s1 σ H1 _ I1 q1) λu s2 hz=>?_;obtain⟨y,H2,I2,r2,q2⟩:=hz;exact hf v u s2 x y H2 I2 r1 r2 q2
theorem eT{op:Operator}{r:R2}(ho:mM X (binaryOp op) r)(ha:PE X a ta)(hb:PE X b tb):PE X (.BinOp a op b pos) (dj r ta tb):=by intro pins s σ H Q I h;exact wpAny_BinOp (Kg ha hb I h λv u s2 x y H2 I2 rx ry q=>ho pins s2 σ H2 x y v u Q I2 rx ry q)
theorem ig(ho:O0 X (unaryOp op) r)(ha:PE X a ta):PE X (.UnaryOp op a pos) (mQ r ta):=by intro pins s σ H Q I h;exact UnaryOp_ (thn (ha pins s σ H _ I h) λv s1 ⟨x,H1,I1,r1,q1⟩=>ho pins s1 σ H1 x v Q I1 r1 q1)
theorem ND{f:Value->Value->Sem Value}{C:Int->Int->Prop}{g:Int->Int->Int}
  (rule:∀(i j:Int)(t u:Tok)(s:Shared)(Q:Value->Shared->Prop)(E:Value->Shared->Prop),C i j->Q (.int (g i j) s.toks) {s with toks:=s.toks+1}->wpAny (model X.prog X.w) X.A (f (.int i t) (.int j u)) Q E s):
  mM X f (rI C λi j=>.int (g i j)):=by
 intro pins s σ H x y v u Q I rx ry h;obtain⟨i,rfl,h2⟩:=onI.ex h;obtain⟨j,rfl,hc,q⟩:=onI.ex h2;obtain⟨t,rfl⟩:=rx;obtain⟨t',rfl⟩:=ry;exact rule i j t t' s _ _ hc ⟨.int (g i j),H,I.tok _,⟨_,rfl⟩,q⟩
theorem LY{f:Value->Value->Sem Value}{g:Int->Int->Int}
  (rule:∀(i j:Int)(t u:Tok)(s:Shared)(Q:Value->Shared->Prop)(E:Value->Shared->Prop),Q (.int (g i j) s.toks) {s with toks:=s.toks+1}->wpAny (model X.prog X.w) X.A (f (.int i t) (.int j u)) Q E s):
  mM X f (vx λi j=>.int (g i j)):=by
 intro pins s σ H x y v u Q I rx ry h;obtain⟨i,rfl,h2⟩:=onI.ex h;obtain⟨j,rfl,q⟩:=onI.ex h2;obtain⟨t,rfl⟩:=rx;obtain⟨t',rfl⟩:=ry;exact rule i j t t' s _ _ ⟨.int (g i j),H,I.tok _,⟨_,rfl⟩,q⟩
theorem FL{f:Value->Value->Sem Value}{g:Int->Int->Bool}
  (rule:∀(i j:Int)(t u:Tok)(s:Shared)(Q:Value->Shared->Prop)(E:Value->Shared->Prop),Q (.bool (g i j)) s->wpAny (model X.prog X.w) X.A (f (.int i t) (.int j u)) Q E s):
  mM X f (vx λi j=>.bl (g i j)):=by
 intro pins s σ H x y v u Q I rx ry h;obtain⟨i,rfl,h2⟩:=onI.ex h;obtain⟨j,rfl,q⟩:=onI.ex h2;obtain⟨t,rfl⟩:=rx;obtain⟨t',rfl⟩:=ry;exact rule i j t t' s _ _ ⟨.bl (g i j),H,I,rfl,q⟩
def Ko(i j:Int):Prop:=0<j/\j<1073741824
def M5(i j:Int):Prop:=0<=j/\j<=1000000/\i.natAbs<2^64
def Fx(i j:Int):Prop:=(-(2^64)<i/\i<2^64)∨(-(2^64)<j/\j<2^64)
theorem Fx.ok(h:Fx i j):IntMulOk i j:=by
 rcases h with⟨h1,h2⟩|⟨h1,h2⟩
 ·exact .of_left (intBits_le_64 h1 h2)
 ·exact .of_right (intBits_le_64 h1 h2)
theorem i0:mM X (binaryOp .Add) (vx λi j=>.int (i+j)):=LY λ_ _ _ _ _ _ _ q=>add_int q
theorem hG:mM X (binaryOp .Sub) (vx λi j=>.int (i-j)):=LY λ_ _ _ _ _ _ _ q=>sub_int q
theorem Jl:mM X (binaryOp .Mult) (rI Fx λi j=>.int (i*j)):=ND λ_ _ _ _ _ _ _ hc q=>mul_int q hc.ok
theorem jn:mM X (binaryOp .FloorDiv) (rI Ko λi j=>.int (i / j)):=ND λi j _ _ _ _ _ hc q=>by have h1:(0:Int)<j:=hc.1;have h2:j<1073741824:=hc.2;exact floordiv_int (by lia) (by rw[Int.fdiv_eq_ediv_of_nonneg i (by lia)];exact q) (.inl (ck (by lia)))
theorem gw:mM X (binaryOp .Mod) (rI (λ_ j=>0<j) λi j=>.int (i%j)):=ND λi j _ _ _ _ _ hc q=>by have h1:(0:Int)<j:=hc;exact mod_int' (by lia) (by rw[Int.fmod_eq_emod_of_nonneg i (by lia)];exact q)
theorem CS:mM X (binaryOp .Pow) (rI M5 λi j=>.int (i^j.toNat)):=ND λ_ _ _ _ _ _ _ hc q=>pow_int_small hc.1 hc.2.1 hc.2.2 q
theorem Qg{f:Value->Sem Value}{g:Int->Int}
  (rule:∀(i:Int)(t:Tok)(s:Shared)(Q:Value->Shared->Prop)(E:Value->Shared->Prop),Q (.int (g i) s.toks) {s with toks:=s.toks+1}->wpAny (model X.prog X.w) X.A (f (.int i t)) Q E s):
  O0 X f (rU λi=>.int (g i)):=by
 intro pins s σ H x v Q I rx h;obtain⟨i,rfl,q⟩:=onI.ex h;obtain⟨t,rfl⟩:=rx;exact rule i t s _ _ ⟨.int (g i),H,I.tok _,⟨_,rfl⟩,q⟩
theorem gh:O0 X (unaryOp .USub) (rU λi=>.int (-i)):=Qg λ_ _ _ _ _ q=>neg_int q
end
def LN:V->V->Bool
 | .non,.non=>true|.non,.int _=>true|.int _,.non=>true|.non,.bl _=>true|.bl _,.non=>true|.non,.str _=>true|.str _,.non=>true
 | .int _,.int _=>true|.bl _,.bl _=>true|.str _,.str _=>true|.byt _,.byt _=>true
 | .int _,.str _=>true|.str _,.int _=>true|.bl _,.str _=>true|.str _,.bl _=>true
 | _,_=>false
def ic:R2:=λx y H Q=>LN x y=true/\Q (.bl (decide (x=y))) H
def Dc:R2:=λx y H Q=>LN x y=true/\Q (.bl (!decide (x=y))) H
theorem yc:decide (V.int i=V.int j)=(i==j):=by rw[bp];simp
theorem DA:decide (V.bl i=V.bl j)=(i==j):=by rw[bp];simp
theorem yb:decide (V.str i=V.str j)=(i==j):=by rw[bp];simp
theorem yd:decide (V.byt i=V.byt j)=(i.toList==j.toList):=by rw[bp];cases i;cases j;simp
section
variable {X:Cx}{a b c:Expr}{ta tb tc:TE}{pos:Pos}
theorem fT(I:eM X pins σ H s)(q:Q (.bl k) H)(e:k=k'):EP X pins σ Q (.bool k') s:=by subst e;exact⟨.bl k,H,I,rfl,q⟩
theorem eh:mM X (compareOp .Eq) ic:=by
 intro pins s σ H x y v u Q I rx ry h;obtain⟨hs,q⟩:=h;cases x with
 | non=>
  cases rx;cases y with
  | non=>cases ry;exact PySem.EqNone.eq_none_none (fT I q (by simp))
  | bl j=>cases ry;exact PySem.EqNone.eq_none_bool (fT I q (by simp))
  | int j=>obtain⟨t',rfl⟩:=ry;exact PySem.EqNone.eq_none_int (fT I q (by simp))
  | str j=>obtain⟨t',rfl⟩:=ry;exact PySem.EqNone.eq_none_str (fT I q (by simp))
  | _=>exact absurd (show false=true from hs) aR
 | bl i=>
  cases rx;cases y with
  | non=>cases ry;exact PySem.EqNone.eq_bool_none (fT I q (by simp))
  | bl j=>cases ry;exact eq_bool (fT I q DA)
  | str j=>obtain⟨t',rfl⟩:=ry;exact PySem.EqMixed.eq_bool_str (fT I q (by simp))
  | _=>exact absurd (show false=true from hs) aR
 | int i=>
  obtain⟨t,rfl⟩:=rx;cases y with
  | non=>cases ry;exact PySem.EqNone.eq_int_none (fT I q (by simp))
  | int j=>obtain⟨t',rfl⟩:=ry;exact eq_int (fT I q yc)
  | str j=>obtain⟨t',rfl⟩:=ry;exact PySem.EqMixed.eq_int_str (fT I q (by simp))
  | _=>exact absurd (show false=true from hs) aR
 | str i=>
  obtain⟨t,rfl⟩:=rx;cases y with
  | non=>cases ry;exact PySem.EqNone.eq_str_none (fT I q (by simp))
  | bl j=>cases ry;exact PySem.EqMixed.eq_str_bool (fT I q (by simp))
  | int j=>obtain⟨t',rfl⟩:=ry;exact PySem.EqMixed.eq_str_int (fT I q (by simp))
  | str j=>obtain⟨t',rfl⟩:=ry;exact eq_str (fT I q yb)
  | _=>exact absurd (show false=true from hs) aR
 | byt i=>
  obtain⟨t,rfl⟩:=rx;cases y with
  | byt j=>obtain⟨t',rfl⟩:=ry;exact PySem.W.eq_bytes (fT I q yd)
  | _=>exact absurd (show false=true from hs) aR
 | _=>cases y<;>exact absurd (show false=true from hs) aR
theorem md:mM X (compareOp .NotEq) Dc:=by
 intro pins s σ H x y v u Q I rx ry h;obtain⟨hs,q⟩:=h;cases x with
 | non=>
  cases rx;cases y with
  | non=>cases ry;exact PySem.EqNone.ne_none_none (fT I q (by simp))
  | bl j=>cases ry;exact PySem.EqNone.ne_none_bool (fT I q (by simp))
  | int j=>obtain⟨t',rfl⟩:=ry;exact PySem.EqNone.ne_none_int (fT I q (by simp))
  | str j=>obtain⟨t',rfl⟩:=ry;exact PySem.EqNone.ne_none_str (fT I q (by simp))
  | _=>exact absurd (show false=true from hs) aR
 | bl i=>
  cases rx;cases y with
  | non=>cases ry;exact PySem.EqNone.ne_bool_none (fT I q (by simp))
  | bl j=>cases ry;exact ne_bool (fT I q (congrArg not DA))
  | str j=>obtain⟨t',rfl⟩:=ry;exact PySem.EqMixed.ne_bool_str (fT I q (by simp))
  | _=>exact absurd (show false=true from hs) aR
 | int i=>
  obtain⟨t,rfl⟩:=rx;cases y with
  | non=>cases ry;exact PySem.EqNone.ne_int_none (fT I q (by simp))
  | int j=>obtain⟨t',rfl⟩:=ry;exact ne_int (fT I q (congrArg not yc))
  | str j=>obtain⟨t',rfl⟩:=ry;exact PySem.EqMixed.ne_int_str (fT I q (by simp))
  | _=>exact absurd (show false=true from hs) aR
 | str i=>
  obtain⟨t,rfl⟩:=rx;cases y with
  | non=>cases ry;exact PySem.EqNone.ne_str_none (fT I q (by simp))
  | bl j=>cases ry;exact PySem.EqMixed.ne_str_bool (fT I q (by simp))
  | int j=>obtain⟨t',rfl⟩:=ry;exact PySem.EqMixed.ne_str_int (fT I q (by simp))
  | str j=>obtain⟨t',rfl⟩:=ry;exact ne_str (fT I q (congrArg not yb))
  | _=>exact absurd (show false=true from hs) aR
 | byt i=>
  obtain⟨t,rfl⟩:=rx;cases y with
  | byt j=>obtain⟨t',rfl⟩:=ry;exact PySem.W.ne_bytes (fT I q (congrArg not yd))
  | _=>exact absurd (show false=true from hs) aR
 | _=>cases y<;>exact absurd (show false=true from hs) aR
theorem qD:mM X (compareOp .Lt) (vx λi j=>.bl (decide (i<j))):=FL λ_ _ _ _ _ _ _ q=>lt_int q
theorem CT:mM X (compareOp .LtE) (vx λi j=>.bl (decide (i<=j))):=FL λ_ _ _ _ _ _ _ q=>le_int q
theorem kq:mM X (compareOp .Gt) (vx λi j=>.bl (decide (j<i))):=FL λ_ _ _ _ _ _ _ q=>gt_int q
theorem LX:mM X (compareOp .GtE) (vx λi j=>.bl (decide (j<=i))):=FL λ_ _ _ _ _ _ _ q=>ge_int q
theorem Jm:mM X (compareOp .Is) (λx y H Q=>y=.non/\Q (.bl (decide (x=.non))) H):=by
 intro pins s σ H x y v u Q I rx ry h;obtain⟨rfl,q⟩:=h;cases ry;refine is_none_gen (fT I q ?_);cases x<;>first
  | (cases rx;rfl)
  | (obtain⟨t,rfl⟩:=rx;rfl)
theorem FJ:mM X (compareOp .IsNot) (λx y H Q=>y=.non/\Q (.bl (!decide (x=.non))) H):=by
 intro pins s σ H x y v u Q I rx ry h;obtain⟨rfl,q⟩:=h;cases ry;refine isnot_none_gen (fT I q ?_);cases x<;>first
  | (cases rx;rfl)
  | (obtain⟨t,rfl⟩:=rx;rfl)
theorem CW(b:Expr)(h:op≠.In:=by decide)(h2:op≠.NotIn:=by decide):behindInMarks op b=false:=by
 have e1:(op==CmpOp.In)=false:=by cases op<;>first|rfl|exact absurd rfl h
 have e2:(op==CmpOp.NotIn)=false:=by cases op<;>first|rfl|exact absurd rfl h2
 cases b<;>simp[behindInMarks,e1,e2]
theorem yD{op:CmpOp}{r:R2}(ho:mM X (compareOp op) r)(ha:PE X a ta)(hb:PE X b tb)(hm:behindInMarks op b=false):PE X (.Compare a [op] [b] pos) (dj r ta tb):=by intro pins s σ H Q I h;exact wpAny_Compare1 (Kg ha hb I h λv u s2 x y H2 I2 rx ry q=>ho pins s2 σ H2 x y v u Q I2 rx ry q) hm
def dz(t:TE):TT:=λσ H Q=>t σ H λx H'=>∃k,x=.bl k/\Q k H'
theorem lV(ho:mM X (compareOp op) r)(ha:PE X a ta)(hb:PE X b tb)(hm:behindInMarks op b=false):PT X (.Compare a [op] [b] pos) (dz (dj r ta tb)):=by
 intro pins s σ H Q I h;refine wpAny_isTrue_Compare1 (thn (ha pins s σ H _ I h) λv s1 ⟨x,H1,I1,r1,q1⟩=>thn (hb pins s1 σ H1 _ I1 q1) λu s2 ⟨y,H2,I2,r2,q2⟩=>
  thn (ho pins s2 σ H2 x y v u _ I2 r1 r2 q2) λc s3 ⟨z,H3,I3,r3,k,e,q3⟩=>?_) hm
 subst e;cases r3;exact wpAny_truthy_bool ⟨H3,I3,q3⟩
def BS(r r':R2)(ta tb tc:TE):TE:=λσ H Q=>ta σ H λx H1=>tb σ H1 λy H2=>r x y H2 λz H3=>∃k,z=.bl k/\
 (if k=true then tc σ H3 λw' H4=>r' y w' H4 Q else Q (.bl false) H3)
theorem CC(ho:mM X (compareOp op) r)(ho':mM X (compareOp op') r')(ha:PE X a ta)(hb:PE X b tb)(hc:PE X c tc)
  (hm:lastMarks [op,op'] [b,c]=false:=by with_unfolding_all rfl):PT X (.Compare a [op,op'] [b,c] pos) (dz (BS r r' ta tb tc)):=by
 intro pins s σ H Q I h;refine isTrue_chain (thn (ha pins s σ H _ I h) λv s1 ⟨x,H1,I1,r1,q1⟩=>test_link (thn (hb pins s1 σ H1 _ I1 q1) λu s2 ⟨y,H2,I2,r2,q2⟩=>
  thn (ho pins s2 σ H2 x y v u _ I2 r1 r2 q2) λd s3 ⟨z,H3,I3,r3,k,e,q3⟩=>?_)) hm
 subst e;cases r3;refine wpAny_truthy_bool ?_;cases k with
 | false=>obtain⟨k',e',q'⟩:=q3;cases e';exact ite_ff ⟨H3,I3,q'⟩
 | true=>refine ite_tt (test_last (thn (hc pins s3 σ H3 _ I3 q3) λw' s4 ⟨z',H4,I4,r4,q4⟩=>thn (ho' pins s4 σ H4 y z' u w' _ I4 r2 r4 q4) λd' s5 hz=>?_));obtain⟨z2,H5,I5,r5,k2,e2,q5⟩:=hz;subst e2;cases r5;exact wpAny_truthy_bool ⟨H5,I5,q5⟩
theorem nY:(sizeLine:Nat)<2^63:=by rw[sizeLine_eq];decide
def x6:R2:=λx y H Q=>onS x λi=>onS y λj=>i.length+j.length<=sizeLine/\Q (.str (i++j)) H
theorem mH:mM X (binaryOp .Add) x6:=by intro pins s σ H x y v u Q I rx ry h;obtain⟨i,rfl,h⟩:=onS.ex h;obtain⟨j,rfl,hz,q⟩:=onS.ex h;obtain⟨t,rfl⟩:=rx;obtain⟨t',rfl⟩:=ry;exact add_str (λt' tk=>⟨.str (i++j),H,I.tok _,⟨_,rfl⟩,q⟩) hz
theorem km(r:eu [x] us):∃u,us=[u]/\fH x u:=by
 cases r with
 | cons r1 r2=>cases r2;exact⟨_,rfl,r1⟩
theorem GA(r:eu [x,y] us):∃u w',us=[u,w']/\fH x u/\fH y w':=by
 cases r with
 | cons r1 r2=>
  cases r2 with
  | cons r3 r4=>cases r4;exact⟨_,_,rfl,r1,r3⟩
theorem DE:kS X (.builtin "abs") (λxs H Q=>∃i,xs=[.int i]/\Q (.int (if i<0 then -i else i)) H):=by intro pins s σ H xs us Q I r h;obtain⟨i,rfl,q⟩:=h;obtain⟨u,rfl,t,rfl⟩:=km r;exact call_abs_int λu tk=>⟨.int (if i<0 then -i else i),H,I.tok _,⟨_,rfl⟩,q⟩
theorem AJ(hc:X.calm=true):kS X (.builtin "min") (λxs H Q=>∃i j,xs=[.int i,.int j]/\Q (.int (if j<i then j else i)) H):=by
 intro pins s σ H xs us Q I r h;obtain⟨i,j,rfl,q⟩:=h;obtain⟨u,w',rfl,⟨t,rfl⟩,⟨t',rfl⟩⟩:=GA r;refine min_two_ints (I.ok.hd hc) λh' tk k=>⟨_,H,I.kept k,?_,q⟩;by_cases hj:j<i
 ·rw[if_pos hj,if_pos hj];exact⟨_,rfl⟩
 ·rw[if_neg hj,if_neg hj];exact⟨_,rfl⟩
theorem lg:kS X (.type "int") (λxs H Q=>(∃i,xs=[.int i]/\Q (.int i) H)∨∃k,xs=[.bl k]/\Q (.int (if k then 1 else 0)) H):=by
 intro pins s σ H xs us Q I r h;rcases h with⟨i,rfl,q⟩|⟨k,rfl,q⟩
 ·obtain⟨u,rfl,t,rfl⟩:=km r;exact call_int_int ⟨.int i,H,I,⟨_,rfl⟩,q⟩
 ·obtain⟨u,rfl,r1⟩:=km r;cases r1;exact call_int_bool ⟨.int (if k then 1 else 0),H,I.tok _,⟨_,rfl⟩,q⟩
end
structure w6(h:Heap)(x dx C:Addr)(mA:Str->Option Value):Prop where
 obj:h.get? x=some (PySem.W.instObj C dx)
 ns:h.Ns1 dx mA
 ne:dx≠x
theorem zr{h:Heap}{dx:Addr}{mA:Str->Option Value}(n:h.Ns1 dx mA):∃od,h.get? dx=some od/\∀name,PySem.W.lookIn name od=some (mA name):=by
 obtain⟨o,es,ep,ho,hd,hk,_,hm⟩:=n;refine⟨o,ho,λname=>?_⟩;have e:=hm name;unfold nsFind findBy at e;rw[<-Array.find?_toList]at e;unfold PySem.W.lookIn;rw[hd];dsimp only;split
 ·rename_i y q;rw[q]at e;exact congrArg some e
 ·rename_i q;rw[q]at e;have a:es.toList.any (·.refKey)=false:=by rw[cI];intro y hy;obtain⟨z,t,hkey⟩:=hk y (Array.mem_toList_iff.mp hy);simp[DictEntry.refKey,hkey]
  have a':¬es.toList.any (·.refKey)=true:=by rw[a];exact aR
  rw[if_neg a'];exact congrArg some e
theorem w6.look(I:w6 h x dx C mA):∃od,PySem.W.InstAt h x (PySem.W.instObj C dx) C (some od)/\∀name,PySem.W.lookIn name od=some (mA name):=
 let ⟨od,ho,hl⟩:=zr I.ns
 ⟨od,⟨I.obj,rfl,rfl,ho⟩,hl⟩
section
variable {prog:Program}{w:World}{A:Around}{E:Value->Shared->Prop}{s:Shared}{K:aA}{x dx C f:Addr}{mA:Str->Option Value}{name:Str}{v:Value}
theorem Fg(X:K.In s.heap)(I:w6 s.heap x dx C mA)(hg:PySem.W.plainGet K C name=true)(hh:PySem.W.hasDictIn K C=true)
  (ha:PySem.W.findIn K (.ref C) name=some none) (hv:mA name=some v) (hv':PySem.W.handedIn v=true) (h:Q v {s with toks:=s.toks+1}):
  wpAny (model prog w) A (getAttr (.ref x) name expr) Q E s:=by
 obtain⟨od,J,hl⟩:=I.look;exact PySem.W.get_value X J (cJ hg).1 (PySem.W.findObj_own hh ha rfl (by rw[hl,hv])) hv' h
theorem Cv(X:K.In s.heap)(I:w6 s.heap x dx C mA)(hg:PySem.W.plainGet K C name=true)
  (hf:PySem.W.findIn K (.ref C) name=some (some (.ref f))) (ht:PySem.W.isFn K (.ref f)=true) (hv:mA name=none) (h:Q (.ref f,[.ref x]) s):
  wpAny (model prog w) A (getMethod (.ref x) name pl) Q E s:=by
 obtain⟨od,J,hl⟩:=I.look;exact PySem.W.method_fn X J (cJ hg).1 (cJ hg).2 hf (beq_iff_eq.mp ht) (by show(PySem.W.lookIn name od).map (·.isSome)=some false;rw[hl,hv];rfl) h
theorem Eu(X:K.In s.heap)(I:w6 s.heap x dx C mA)
  (hs:PySem.W.findIn K (.ref C) "__setattr__"=some (some (.builtin "object.__setattr__"))) (hp:PySem.W.plainOver K C=true) (ht:PySem.W.takerIn K C name=some none) (hh:PySem.W.hasDictIn K C=true)
  (hw:PySem.Within mA ns) (hsz:ns.length<=sizeLine)
  (h:∀h',w6 h' x dx C (λy=>if y=name then some v else mA y)->Heap.SameBut dx s.heap h'->Q () {s with heap:=h',toks:=s.toks+2}):
  wpAny (model prog w) A (setAttr (.ref x) name v) Q E s:=by
 obtain⟨od,J,hl⟩:=I.look;refine PySem.W.set_plain X J hs (PySem.W.osa_open (s:={s with toks:=s.toks+1}) (r:=none) X J hp ht λb=>?_);obtain⟨cd,hc,hd'⟩:=PySem.W.any_some hh;have hx:s.heap.get? x=some ⟨.ref C,some dx,.plain,#[]⟩:=I.obj;refine wpAny_bind (wpAny_pure (wpAny_bind (wpAny_bind (wpAny_loadPart hx (wpAny_bind (PySem.W.Looks.here (s:={s with toks:=s.toks+1}) (PySem.W.looks_clsIn X hc) ?_))))));rw[hd'];refine wpAny_pure (a:=some dx) (wpAny_bind (wpAny_pure (wpAny_bind ?_)));refine wpAny_nsSet1 (s:={s with toks:=s.toks+1}) I.ns λh' hn2 hs2=>?_;obtain⟨oD,esD,epD,hoD,hdD,hcD⟩:=hn2.count (PySem.Within.cons name v hw);refine wpAny_bind (wpAny_lookBehind hoD (by rw[hdD];exact pastItsLine_dict (aP hcD (by rw[aD];lia))) ?_);exact wpAny_pure (h _ ⟨(hs2.2 _ (ac I.ne)).trans I.obj,hn2,I.ne⟩ hs2)
theorem Ce(X:K.In s.heap)(hm:PySem.W.makesIn K C=true)
  (hi:PySem.W.findIn K (.ref C) "__init__"=some (some (.ref f))) (hf:PySem.W.typeIn K (.ref f)=some (.type "function"))
  (h:codeAny (model prog w) (A.under (.builtin "type.__call__" ⟨.ref C::vs,kw⟩)) (.call (.ref f) ⟨.ref (s.heap.objs.size+1)::vs,kw⟩) (PySem.W.InitBack (s.heap.objs.size+1) R)
   {s with heap:=(s.heap.push PySem.W.emptyDict).push (PySem.W.instObj C s.heap.objs.size)}):
  codeAny (model prog w) A (.call (.ref C) ⟨vs,kw⟩) R s:=by
 obtain⟨hh,g,d,t,os⟩:=s;exact PySem.W.make_core (PySem.W.makes_of X hm) (PySem.W.looks_findIn X hi) (λself=>PySem.W.bind_fn X self hf) (.inl rfl) h
end
def gv(f:Str)(v:V):List (Str×V)->List (Str×V)
 | []=>[(f,v)]
 | (g,x)::r=>if g=f then(g,v)::r else(g,x)::gv f v r
theorem oO(f g:Str)(v:V):∀fs:List (Str×V),(gv f v fs).lookup g=if g=f then some v else fs.lookup g
 | []=>by
  show List.lookup g [(f,v)]=_;by_cases h:g=f
  ·have hb:(g==f)=true:=beq_iff_eq.mpr h;simp only[List.lookup,hb,if_pos h]
  ·have hb:(g==f)=false:=beq_eq_false_iff_ne.mpr h;simp only[List.lookup,hb,if_neg h]
 | (k,x)::r=>by
  have ih:=oO f g v r;rw[show gv f v ((k,x)::r)=(if k=f then(k,v)::r else(k,x)::gv f v r)from rfl];by_cases hk:k=f
  ·rw[if_pos hk];by_cases h:g=k
   ·have hb:(g==k)=true:=beq_iff_eq.mpr h;simp only[List.lookup,hb,if_pos (h.trans hk)]
   ·have hb:(g==k)=false:=beq_eq_false_iff_ne.mpr h;simp only[List.lookup,hb,if_neg (λe:g=f=>h (e.trans hk.symm))]
  ·rw[if_neg hk];by_cases h:g=k
   ·have hb:(g==k)=true:=beq_iff_eq.mpr h;simp only[List.lookup,hb,if_neg (λe:g=f=>hk (h.symm.trans e))]
   ·have hb:(g==k)=false:=beq_eq_false_iff_ne.mpr h;simp only[List.lookup,hb];exact ih
theorem ng(f:Str)(v:V):∀fs:List (Str×V),f∈(gv f v fs).map (·.1)/\∀g,g∈fs.map (·.1)->g∈(gv f v fs).map (·.1)
 | []=>⟨by simp[gv],λg h=>by simp at h⟩
 | (k,x)::r=>by
  obtain⟨i1,i2⟩:=ng f v r;rw[show gv f v ((k,x)::r)=(if k=f then(k,v)::r else(k,x)::gv f v r)from rfl];by_cases hk:k=f
  ·rw[if_pos hk];subst hk;exact⟨by simp,λg h=>by simpa using h⟩
  ·rw[if_neg hk];refine⟨?_,λg h=>?_⟩
   ·rw[aV];exact ax _ i1
   ·rw[aV]at h⊢;rcases aB.mp h with e|e
    ·exact aB.mpr (.inl e)
    ·exact ax _ (i2 g e)
theorem oP(f:Str)(v:V):∀fs:List (Str×V),(gv f v fs).length<=fs.length+1
 | []=>by simp[gv]
 | (k,x)::r=>by
  have ih:=oP f v r;rw[show gv f v ((k,x)::r)=(if k=f then(k,v)::r else(k,x)::gv f v r)from rfl];by_cases hk:k=f
  ·rw[if_pos hk,aD,aD];lia
  ·rw[if_neg hk,aD,aD];lia
theorem k7.some_of(r:k7 (some v) o):∃u,o=some u/\fH v u:=by
 cases o with
 | none=>exact(show False from r).elim
 | some u=>exact⟨u,rfl,r⟩
theorem k7.none_of(r:k7 none o):o=none:=by
 cases o with
 | none=>rfl
 | some u=>exact(show False from r).elim
theorem AC(r:fH v u):PySem.W.handedIn u=true:=by
 cases v with
 | non=>cases(show u=Value.none from r);rfl
 | bl b=>cases(show u=Value.bool b from r);rfl
 | int i=>obtain⟨t,e⟩:=(show ∃t,u=Value.int i t from r);cases e;rfl
 | str x=>obtain⟨t,e⟩:=(show ∃t,u=Value.str x t from r);cases e;rfl
 | byt b=>obtain⟨t,e⟩:=(show ∃t,u=Value.bytes b t from r);cases e;rfl
 | flt b=>obtain⟨t,e⟩:=(show ∃t,u=Value.float b t from r);cases e;rfl
 | ref a=>cases(show u=Value.ref a from r);rfl
 | ty n=>cases(show u=Value.type n from r);rfl
section
variable {P:Program}{w:World}{H H':Hp}{h h':Heap}{a C dx:Addr}{fs fs':List (Str×V)}
theorem oz(hok:lL P w H h)(e:H a=some (.ins C dx fs)):∃mA,w6 h a dx C mA/\(∀f,k7 (fs.lookup f) (mA f))/\PySem.Within mA (fs.map (·.1))/\fs.length<=1000/\H dx=some (.own a):=by obtain⟨d,z,ne,ob,mA,n,r,q⟩:=(show gC P w H h a (.ins C dx fs)from hok a _ e);exact⟨mA,⟨ob,n,ne⟩,r,q,z,d⟩
end
structure xE(K:aA)(C:Addr):Prop where
 pg:PySem.W.plainGet K C Str.empty=true
 hd:PySem.W.hasDictIn K C=true
 po:PySem.W.plainOver K C=true
 sa:PySem.W.findIn K (.ref C) "__setattr__"=some (some (.builtin "object.__setattr__"))
theorem xE.get{K:aA}{C:Addr}(c:xE K C)(f:Str):PySem.W.plainGet K C f=true:=c.pg
def io(K:aA)(C:Addr)(f:Str):Prop:=PySem.W.findIn K (.ref C) f=some none
theorem io.taker{K:aA}{C:Addr}{f:Str}(n:io K C f):PySem.W.takerIn K C f=some none:=by unfold PySem.W.takerIn;rw[show PySem.W.findIn K (.ref C) f=some none from n];rfl
structure k8(K:aA)(C:Addr)(m:Str)(f:Addr):Prop where
 at_:PySem.W.findIn K (.ref C) m=some (some (.ref f))
 fn:PySem.W.isFn K (.ref f)=true
 kp:PySem.W.keepIn K (.ref f)=true
section
variable {X:Cx}{pins:List (Addr×Obj)}{σ:St}{H:Hp}{s:Shared}{a C dx:Addr}{fs:List (Str×V)}{f:Str}{v:V}{A:Around}{E:Value->Shared->Prop}
theorem qK(I:eM X pins σ H s)(e:H a=some (.ins C dx fs))(c:xE X.K C)(n:io X.K C f)(l:fs.lookup f=some v)
  (h:∀u s',eM X pins σ H s'->fH v u->Q u s'):wpAny (model X.prog X.w) A (getAttr (.ref a) f b) Q E s:=by
 obtain⟨mA,O,r,_,_,_⟩:=oz I.hok e;obtain⟨u,hu,ru⟩:=k7.some_of (v:=v) (o:=mA f) (by rw[<-l];exact r f);exact Fg I.kIn O (c.get f) c.hd n hu (AC ru) (h u _ (I.tok _) ru)
theorem wW(I:eM X pins σ H s)(e:H a=some (.ins C dx fs))(c:xE X.K C)(k:k8 X.K C m g)(l:fs.lookup m=none)
  (h:Q (.ref g,[.ref a]) s):wpAny (model X.prog X.w) A (getMethod (.ref a) m pl) Q E s:=by
 obtain⟨mA,O,r,_,_,_⟩:=oz I.hok e;have hn:mA m=none:=k7.none_of (by rw[<-l];exact r m);exact Cv I.kIn O (c.get m) k.at_ k.fn hn h
theorem ph(I:eM X pins σ H s)(e:H a=some (.ins C dx fs))(c:xE X.K C)(n:io X.K C f)(hl:fs.length<1000)(ry:fH y u)
  (h:∀s',eM X pins σ (upd H a (.ins C dx (gv f y fs))) s'->Q () s'):wpAny (model X.prog X.w) A (setAttr (.ref a) f u) Q E s:=by
 obtain⟨mA,O,r,wi,_,ho⟩:=oz I.hok e;have hz:(fs.map (·.1)).length<=sizeLine:=by rw[aO,sizeLine_eq];lia
 refine Eu I.kIn O c.sa c.po n.taker c.hd wi hz λh' O' sb=>h _ ?_;have hd:∃o,h'.get? dx=some o:=let ⟨o,_,_,e',_⟩:=O'.ns;⟨o,e'⟩;refine I.write (x:=a) (e:=dx) (by rw[e];exact aI) (.inr ho) (λb q hb z=>(sb.2 b hb).trans z) hd ?_;refine⟨by rw[dY O.ne];exact ho,?_,O.ne,O'.obj,_,O'.ns,λg=>?_,λg hg=>?_⟩
 ·have:=oP f y fs;lia
 ·show k7 ((gv f y fs).lookup g) (if g=f then some u else mA g);rw[oO];by_cases q:g=f
  ·rw[if_pos q,if_pos q];exact ry
  ·rw[if_neg q,if_neg q];exact r g
 ·by_cases q:g=f
  ·rw[q];exact(ng f y fs).1
  ·refine(ng f y fs).2 g (wi g λz=>hg ?_);show(if g=f then some u else mA g)=none;rw[if_neg q];exact z
theorem eM.made(I:eM X pins σ H s):eM X pins σ (upd (upd H s.heap.objs.size (.own (s.heap.objs.size+1))) (s.heap.objs.size+1) (.ins C s.heap.objs.size []))
  {s with heap:=(s.heap.push PySem.W.emptyDict).push (PySem.W.instObj C s.heap.objs.size)}:=by
 have e1:(s.heap.push PySem.W.emptyDict).get? s.heap.objs.size=some PySem.W.emptyDict:=Heap.get?_push_size s.heap rfl;have e2:((s.heap.push PySem.W.emptyDict).push (PySem.W.instObj C s.heap.objs.size)).get? (s.heap.objs.size+1)=some (PySem.W.instObj C s.heap.objs.size):=by have:=Heap.get?_push_size (s.heap.push PySem.W.emptyDict) (o:=PySem.W.instObj C s.heap.objs.size) rfl;rwa[Heap.size_push]at this
 have e3:(s.heap.push PySem.W.emptyDict).Ns s.heap.objs.size (λ_=>none):=⟨PySem.W.emptyDict,#[],_,e1,rfl,(λe he=>absurd he (by simp)),λ_=>rfl⟩;have I1:=I.laid (a:=s.heap.objs.size) (o:=.own (s.heap.objs.size+1)) (h':=s.heap.push PySem.W.emptyDict) (t':=s.toks) (λb u q=>Heap.get?_push_of_some _ q) (aC _) ⟨_,e1⟩;refine I1.laid (a:=s.heap.objs.size+1) (o:=.ins C s.heap.objs.size []) (t':=s.toks) (λb u q=>Heap.get?_push_of_some _ q) (Nat.le_of_eq (Heap.size_push _ _)) ?_;have ne:s.heap.objs.size≠s.heap.objs.size+1:=aJ (aq _);refine⟨by rw[dY ne,dP],aS _,ne,e2,λ_=>none,(Heap.Ns1.of_empty e3).at λo q=>Heap.get?_push_of_some _ q,λ_=>aI,λy hy=>absurd rfl hy⟩
theorem Fv(hb:attributeBase e f env (eval e env)=eval e env)
  (h:wpAny (model prog w) A (eval e env) (λo s₁=>wpAny (model prog w) A (getAttr o f true) Q E s₁) E s):wpAny (model prog w) A (eval (.Attribute e f pos) env) Q E s:=
 Attribute_any_ h (by rw[arm_eval_Attribute,hb])
end
inductive M4(K:aA)(H:Hp)(a:Addr)(f:Str)(Q:VK):Prop
 | mk{C dx:Addr}{fs:List (Str×V)}{v:V}(h:H a=some (.ins C dx fs))(c:xE K C)(n:io K C f)(l:fs.lookup f=some v)(q:Q v H):M4 K H a f Q
def kB(K:aA)(ta:TE)(f:Str):TE:=λσ H Q=>ta σ H λx H1=>onR x λa=>M4 K H1 a f Q
def uO(K:aA)(ta tv:TE)(f:Str):TS:=λD σ H=>tv σ H λy H1=>ta σ H1 λx H2=>∃a C dx fs,x=.ref a/\H2 a=some (.ins C dx fs)/\xE K C/\io K C f/\fs.length<1000/\
 D.nx σ (upd H2 a (.ins C dx (gv f y fs)))
def M3(X:Cx)(op:Operator)(rd:V->V->Hp->VK->Prop):Prop:=
 ∀(pins:List (Addr×Obj))(s:Shared)(σ:St)(H:Hp)(x y:V)(u v:Value)(Q:VK),eM X pins σ H s->fH x u->fH y v->rd x y H Q->wpAny (model X.prog X.w) X.A (inplaceOp op u v) (EP X pins σ Q) X.xe s
def oo(K:aA)(ta tv:TE)(rd:V->V->Hp->VK->Prop)(f:Str):TS:=λD σ H=>ta σ H λx H1=>∃a C dx fs v,x=.ref a/\H1 a=some (.ins C dx fs)/\xE K C/\io K C f/\fs.lookup f=some v/\
 tv σ H1 λy H2=>rd v y H2 λz H3=>∃dx' fs',H3 a=some (.ins C dx' fs')/\fs'.length<1000/\D.nx σ (upd H3 a (.ins C dx' (gv f z fs')))
section
variable {X:Cx}{o e value:Expr}{f:Str}{pos pos' tpos:Pos}{ta tv:TE}
theorem iP(he:PE X e ta)(hb:attributeBase e f X.env (eval e X.env)=eval e X.env):PE X (.Attribute e f pos) (kB X.K ta f):=by intro pins s σ H Q I h;refine Fv hb (thn (he pins s σ H _ I h) λu s1 hz=>?_);obtain⟨x,H1,I1,rx,q⟩:=hz;obtain⟨a,rfl,q⟩:=onR.ex q;obtain @⟨C,dx,fs,v,ea,c,n,l,q⟩:=q;obtain rfl:u=Value.ref a:=rx;exact qK I1 ea c n l λu' s2 I2 ru=>⟨v,H1,I2,ru,q⟩
theorem mG(ha:PE X o ta)(hv:PE X value tv)(hs:swapsWith value (some (.Attribute o f pos')) pos.line X.env=pure false):PS X (.Assign [.Attribute o f pos'] value pos) (uO X.K ta tv f):=by intro pins s σ H D I h;refine plainObj_wpAny_Assign_Attribute (thn (hv pins s σ H _ I h) λu s1 ⟨y,H1,I1,ry,q⟩=>thn (ha pins s1 σ H1 _ I1 q) λov s2 hz=>?_) hs;obtain⟨x,H2,I2,rx,a,C,dx,fs,ex,ea,c,n,l,q2⟩:=hz;subst ex;obtain rfl:ov=Value.ref a:=rx;exact ph I2 ea c n l ry λs3 I3=>⟨σ,_,I3,q2⟩
theorem nP(ha:PE X o ta)(hv:PE X value tv)(hop:M3 X op rd):PS X (.AugAssign (.Attribute o f tpos) op value pos) (oo X.K ta tv rd f):=by intro pins s σ H D I h;refine wpAny_AugAssign_AttributeAny (thn (ha pins s σ H _ I h) λov s1 hz=>?_);obtain⟨x,H1,I1,rx,a,C,dx,fs,v,ex,ea,c,n,l,q⟩:=hz;subst ex;obtain rfl:ov=Value.ref a:=rx;refine qK I1 ea c n l λu s2 I2 ru=>thn (hv pins s2 σ H1 _ I2 q) λw3 s3 ⟨y,H2,I3,ry,q3⟩=>thn (hop pins s3 σ H2 v y u w3 _ I3 ru ry q3) λw4 s4 hz=>?_;obtain⟨z,H3,I4,rz,dx',fs',ea',l',q4⟩:=hz;exact ph I4 ea' c n l' rz λs5 I5=>⟨σ,_,I5,q4⟩
def E5:V->V->Hp->VK->Prop:=λx y H Q=>∃i j,x=.int i/\y=.int j/\Q (.int (i+j)) H
theorem wV:M3 X .Add E5:=by rintro pins s σ H x y u v Q I rx ry ⟨i,j,rfl,rfl,q⟩;obtain⟨t,rfl⟩:=(show ∃t,u=Value.int i t from rx);obtain⟨t',rfl⟩:=(show ∃t',v=Value.int j t' from ry);exact PyProof.Rows.iadd_int ⟨.int (i+j),H,I.tok _,⟨_,rfl⟩,q⟩
end
section
variable {X:Cx}{pins:List (Addr×Obj)}{σ:St}{H:Hp}{s:Shared}{A:Around}{E:Value->Shared->Prop}{Q:Value->Shared->Prop}{c:Value}{b:Bool}
inductive oF(K:aA)(H:Hp):V->Value->Prop where
 | non:oF K H .non (.type "NoneType")
 | bl(x:Bool):oF K H (.bl x) (.type "bool")
 | int(i:Int):oF K H (.int i) (.type "int")
 | str(x:Str):oF K H (.str x) (.type "str")
 | flt(x:UInt64):oF K H (.flt x) (.type "float")
 | lst{a:Addr}{xs:List V}(e:H a=some (.lst xs)):oF K H (.ref a) (.type "list")
 | frz{a:Addr}{o:Obj}{xs:List V}(e:H a=some (.frz o (.lst xs))):oF K H (.ref a) (.type "list")
 | tup{a:Addr}{xs:List V}(e:H a=some (.tup xs)):oF K H (.ref a) (.type "tuple")
 | dK{a:Addr}{kvs:List (fB×V)}(e:H a=some (.dK kvs)):oF K H (.ref a) (.type "dict")
 | dT{a:Addr}{kvs:List (List fB×V)}(e:H a=some (.dT kvs)):oF K H (.ref a) (.type "dict")
 | ins{a C dx:Addr}{fs:List (Str×V)}(e:H a=some (.ins C dx fs))(cl:xE K C)(ha:PySem.W.findIn K (.ref C) "__class__"=some (some (.builtin "object.__class__")))
   (hn:PySem.W.specialIn K (.builtin "object.__class__") "__get__"=some (some (.builtin "getset_descriptor.__get__"))) (htk:PySem.W.takesIn K (.builtin "object.__class__")=some true)
   (hm:PySem.W.mroIn K C (.type "object")=some true):oF K H (.ref a) (.ref C)
theorem AA(I:eM X pins σ H s)(rx:fH x u)(ty:oF X.K H x t)(e:PySem.W.kitOne X.K t c=some b)(h:∀tk,Q (.bool b) {s with toks:=tk}):
  wpAny (model X.prog X.w) A (call (.builtin "isinstance") [u,c]) Q E s:=by
 cases ty with
 | non=>cases(show u=Value.none from rx);exact a4 PySem.W.kitx_none I.kIn aI e (λz=>nomatch z) h
 | bl y=>cases(show u=Value.bool y from rx);exact a4 PySem.W.kitx_bool I.kIn aI e (λz=>nomatch z) h
 | int i=>obtain⟨t,q⟩:=(show ∃t,u=Value.int i t from rx);cases q;exact a4 PySem.W.kitx_int I.kIn aI e (λz=>nomatch z) h
 | str y=>obtain⟨t,q⟩:=(show ∃t,u=Value.str y t from rx);cases q;exact a4 PySem.W.kitx_str I.kIn aI e (λz=>nomatch z) h
 | flt y=>obtain⟨t,q⟩:=(show ∃t,u=Value.float y t from rx);cases q;exact a4 PySem.W.kitx_float I.kIn aI e (λz=>nomatch z) h
 | @lst a xs ea=>
  cases(show u=Value.ref a from rx);obtain⟨_,_,n,_,h1⟩:=(show gC X.prog X.w H s.heap a (.lst xs)from I.hok a _ ea);exact a4 PySem.W.kitx_list I.kIn ⟨_,h1,rfl⟩ e (λz=>nomatch z) h
 | @frz a ob xs ea=>
  cases(show u=Value.ref a from rx);obtain⟨_,_,_,n,_,h1⟩:=(show gC X.prog X.w H s.heap a (.frz ob (.lst xs))from I.hok a _ ea);exact a4 PySem.W.kitx_list I.kIn ⟨_,h1,rfl⟩ e (λz=>nomatch z) h
 | @tup a xs ea=>
  cases(show u=Value.ref a from rx);obtain⟨_,_,_,p⟩:=(show gC X.prog X.w H s.heap a (.tup xs)from I.hok a _ ea);obtain⟨o,h1,h2,_⟩:=p;exact a4 PySem.W.kitx_tuple I.kIn ⟨o,h1,h2⟩ e (λz=>nomatch z) h
 | @dK a kvs ea=>
  cases(show u=Value.ref a from rx);obtain⟨_,_,vs,_,p⟩:=(show gC X.prog X.w H s.heap a (.dK kvs)from I.hok a _ ea);obtain⟨o,es,ep,h1,h2,_⟩:=p;exact a4 PySem.W.kitx_dict I.kIn ⟨o,h1,h2.1⟩ e (λz=>nomatch z) h
 | @dT a kvs ea=>
  cases(show u=Value.ref a from rx);obtain⟨_,_,xs,_,o,es,ep,h1,h2,_⟩:=(show gC X.prog X.w H s.heap a (.dT kvs)from I.hok a _ ea);exact a4 PySem.W.kitx_dict I.kIn ⟨o,h1,h2.1⟩ e (λz=>nomatch z) h
 | @ins a C dx fs ea cl ha hn htk hm=>cases(show u=Value.ref a from rx);obtain⟨mA,O,_⟩:=oz I.hok ea;obtain⟨od,J,_⟩:=O.look;exact a4 (PySem.W.kitx_own (cl.get _) cl.hd ha hn htk hm) I.kIn J e (λz=>nomatch z) h
end
structure gr(k:Nat)(A:Around):Prop where
 hd:A.handled=none
 dp:A.depth+3*k+5<recursionLimit
 un:A.units+16*k+200<cLine
theorem gr.mono(r:gr k A)(h:j<=k):gr j A:=⟨r.hd,by have:=r.dp;lia,by have:=r.un;lia⟩
theorem gr.deeper(r:gr (k+1) A)(env:Env):gr k (A.deeper env):=
 ⟨r.hd,by have:=r.dp;show A.depth+1+3*k+5<_;lia,by have:=r.un;show A.units+3+16*k+200<_;lia⟩
theorem wN{A:Around}{C:Addr}{us:List Value}{kw:List (Str×Value)}:(A.under (.builtin "type.__call__" ⟨.ref C::us,kw⟩)).depth=A.depth+1:=by
 first|rfl|simp[Around.under,Code.weight,Code.isCreation,Code.isGuard,Code.isCaller,Code.frames,Code.isFrame,guardIds]
theorem wM{A:Around}{C:Addr}{us:List Value}{kw:List (Str×Value)}:(A.under (.builtin "type.__call__" ⟨.ref C::us,kw⟩)).units=A.units+1:=by
 first|rfl|simp[Around.under,Code.cUnits,Code.frames,Code.isFrame]
theorem gr.make(r:gr (k+1) A)(C:Addr)(us:List Value)(kw:List (Str×Value)):gr k (A.under (.builtin "type.__call__" ⟨.ref C::us,kw⟩)):=
 ⟨r.hd,by have:=r.dp;rw[wN];lia,by have:=r.un;rw[wM];lia⟩
theorem gr.depth(r:gr k A):A.depth<recursionLimit:=by have:=r.dp;lia
theorem gr.units(r:gr k A):A.units+64<cLine:=by have:=r.un;lia
theorem gr.units0(r:gr k A):A.units<cLine:=by have:=r.un;lia
def dQ:TA:=λ_ H Q=>Q [] H
def dI(ta:TE)(tr:TA):TA:=λσ H Q=>ta σ H λx H1=>tr σ H1 λxs H2=>Q (x::xs) H2
section
variable {X:Cx}{e:Expr}{es:List Expr}{te:TE}{t:TA}{pos:Pos}
theorem fN:PA X [] dQ:=λ_ _ _ _ H Q I h=>Calls.spliced_nil ⟨[],H,I,.nil,h⟩
theorem de(ha:PE X e te)(hr:PA X es t)(hs:starEach (e::es) X.env=(false,eval e X.env)::starEach es X.env:=by rfl):PA X (e::es) (dI te t):=by intro pos pins s σ H Q I h;rw[hs];show wpAny _ _ (spliced ((false,eval e X.env)::backTo pos (starEach es X.env))) _ _ s;refine Calls.spliced_cons (thn (ha pins s σ H _ I h) λu s1 hz=>?_);obtain⟨x,H1,I1,r1,q1⟩:=hz;exact thn (hr pos pins s1 σ H1 _ I1 q1) λus s2 ⟨xs,H2,I2,r2,q2⟩=>⟨x::xs,H2,I2,.cons r1 r2,q2⟩
def ef(t:TA):TE:=λσ H Q=>t σ H λxs H1=>xs.length<=sizeLine/\kL H1 (.tup xs) Q
def fG(t:TA):TE:=λσ H Q=>t σ H λxs H1=>xs.length<=sizeLine/\kL H1 (.lst xs) Q
theorem eG(h:PA X es t):PE X (.Tuple es x1 pos) (ef t):=by intro pins s σ H Q I hq;refine wpAny_Tuple_spliced (thn (h pos pins s σ H _ I hq) λus s1 ⟨xs,H1,I1,r,z,q⟩=>⟨by rw[<-r.length];exact z,?_⟩);have hf:H1 s1.heap.objs.size=none:=I1.hok.fresh (aC _);refine⟨.ref s1.heap.objs.size,upd H1 s1.heap.objs.size (.tup xs),I1.laid (t':=s1.toks) (λb u e=>Heap.get?_push_of_some _ e) (aC _) ?_,rfl,q _ hf⟩;exact⟨z,us,r,⟨_,Heap.get?_push_size _ rfl,rfl,_,rfl⟩⟩
theorem eK(h:PA X es t):PE X (.List es pos) (fG t):=by intro pins s σ H Q I hq;refine wpAny_List_spliced (thn (h pos pins s σ H _ I hq) λus s1 ⟨xs,H1,I1,r,z,q⟩=>⟨by rw[<-r.length];exact z,?_⟩);have hf:H1 s1.heap.objs.size=none:=I1.hok.fresh (aC _);refine⟨.ref s1.heap.objs.size,upd H1 s1.heap.objs.size (.lst xs),I1.laid (t':=s1.toks) (λb u e=>Heap.get?_push_of_some _ e) (aC _) ?_,rfl,q _ hf⟩;exact⟨z,us,0,r,Heap.get?_push_size _ rfl⟩
end
abbrev Sp:=List V->Hp->VK->XK->Prop
abbrev AR:=List Env->Hp->Shared->XK->Value->Shared->Prop
structure xC(P:Program)(w:World)(K:aA)(mg:Str->Option Value)(base:Heap)(A:Around)(outer:List Env)(s:Shared)(H:Hp):Prop where
 frames:A.frames=some outer
 mod:Mod K mg base
 bs:∀b o,base.get? b=some o->s.heap.get? b=some o/\H b=none
 bsz:base.objs.size<=s.heap.objs.size
 funs:s.heap.FunFrames base outer
 frf:∀b∈qb outer,H b=none
 hok:lL P w H s.heap
 bare:AllBare s.gens
def CE(outer:List Env)(P:Program)(w:World)(H:Hp)(s:Shared)(Q:VK)(u:Value)(s':Shared):Prop:=
 ∃v H',s'.os=s.os/\AllBare s'.gens/\Un (qb outer) [] H H' s.heap s'.heap/\lL P w H' s'.heap/\fH v u/\Q v H'
def CR(CX:AR)(outer:List Env)(P:Program)(w:World)(H:Hp)(s:Shared)(Q:VK)(E:XK)(r:Result)(s':Shared):Prop:=
 match r with
 | .ok (.ret u)=>CE outer P w H s Q u s'
 | .ok _=>False
 | .error e=>CX outer H s E e s'
structure je(P:Program)(w:World)(K:aA)(mg:Str->Option Value)(base:Heap)(CX:AR)(k:Nat)(f:Addr)(fd:FuncData)(ps:List Str)(sp:Sp):Prop where
 len:∀vs H Q E,sp vs H Q E->vs.length=ps.length
 run:∀(A:Around)(outer:List Env)(s:Shared)(H:Hp)(args:Args)(us:List Value)(vs:List V)(Q:VK)(E:XK),gr k A->xC P w K mg base A outer s H->BindsTo s fd args (ps.zip us)->eu vs us->sp vs H Q E->
  codeAny (model P w) A (.call (.ref f) args) (CR CX outer P w H s Q E) s
theorem je.imp{P:Program}{w:World}{K:aA}{mg:Str->Option Value}{base:Heap}{CX:AR}{k:Nat}{f:Addr}{fd:FuncData}{ps:List Str}{sp sp':Sp}(F:je P w K mg base CX k f fd ps sp)
  (h:∀vs H Q E,sp' vs H Q E->sp vs H Q E):je P w K mg base CX k f fd ps sp':=
 ⟨λvs H Q E q=>F.len vs H Q E (h _ _ _ _ q),λA outer s H args us vs Q E hr he hb hv hs=>F.run A outer s H args us vs Q E hr he hb hv (h _ _ _ _ hs)⟩
theorem xC.make{P:Program}{w:World}{K:aA}{mg:Str->Option Value}{base:Heap}{A:Around}{outer:List Env}{s:Shared}{H:Hp}(e:xC P w K mg base A outer s H)(C:Addr)(us:List Value)(kw:List (Str×Value)):
  xC P w K mg base (A.under (.builtin "type.__call__" ⟨.ref C::us,kw⟩)) outer s H:=⟨by first|exact e.frames|(simpa[Around.under,Code.envs,Code.isFrame,pushEnvs]using e.frames),e.mod,e.bs,e.bsz,e.funs,e.frf,e.hok,e.bare⟩
section
variable {X:Cx}{pins:List (Addr×Obj)}{σ:St}{H:Hp}{s s':Shared}
theorem eM.env0(I:eM X pins σ H s):xC X.prog X.w X.K X.mg X.base X.A X.stack s H:=
 ⟨I.ok.frames,I.ok.mod,I.bs,aP I.ok.bsz I.sz,I.stack,I.stkFree,I.hok,I.bare⟩
theorem eM.after(I:eM X pins σ H s)(h:CE X.stack X.prog X.w H s Q u s'):EP X pins σ Q u s':=by obtain⟨v,H',os,bare,un,hok,r,q⟩:=h;obtain⟨hh,g,d,t,os'⟩:=s';obtain rfl:os'=s.os:=os;exact⟨v,H',I.call (h':=hh) (g':=g) (d':=d) (t':=t) (ch:=[]) un hok bare (λb z=>absurd z (by simp)),r,q⟩
end
def eN(sp:Sp)(dvs:List V)(E:XK)(t:TA):TE:=λσ H Q=>t σ H λvs H1=>sp (vs++dvs) H1 Q E
inductive Mx(H:Hp)(a C:Addr)(m:Str)(k:Prop):Prop
 | mk{dx:Addr}{fs:List (Str×V)}(h:H a=some (.ins C dx fs))(l:fs.lookup m=none)(q:k):Mx H a C m k
def ji(C:Addr)(m:Str)(sp:Sp)(dvs:List V)(E:XK)(ta:TE)(t:TA):TE:=λσ H Q=>ta σ H λx H1=>onR x λa=>Mx H1 a C m (t σ H1 λvs H2=>sp (x::(vs++dvs)) H2 Q E)
def uH(C:Addr)(sp:Sp)(dvs:List V)(E:XK)(t:TA):TE:=λσ H Q=>t σ H λvs H1=>∀x dx,H1 x=none->H1 dx=none->dx≠x->
 sp (.ref x::(vs++dvs)) (upd (upd H1 dx (.own x)) x (.ins C dx [])) (λv H2=>v=.non/\Q (.ref x) H2) E
def kT(K:aA)(fd:FuncData)(ps:List Str)(ds:List Value):Prop:=
 ∀(s:Shared)(us:List Value),K.In s.heap->(us++ds).length=ps.length->BindsTo s fd ⟨us,[]⟩ (ps.zip (us++ds))
theorem kT.all{K:aA}{fd:FuncData}{ps:List Str}(h:∀us:List Value,us.length=ps.length->bindArgs fd ⟨us,[]⟩=pure (ps.zip us)):kT K fd ps []:=λs us _ hl=>by rw[aX]at hl⊢;exact .of_eq (h us hl)
def lK(CX:AR)(X:Cx)(E:XK):Prop:=∀(pins:List (Addr×Obj))(σ:St)(H:Hp)(s:Shared)(e:Value)(s':Shared),eM X pins σ H s->CX X.stack H s E e s'->X.xe e s'
section
variable {X:Cx}{CX:AR}{k:Nat}{f C:Addr}{fd:FuncData}{ps:List Str}{sp:Sp}{dvs:List V}{ds:List Value}{E:XK}{x m:Str}{p pos apos:Pos}{e o:Expr}{es:List Expr}{ta:TE}{t:TA}
theorem Br(F:je X.prog X.w X.K X.mg X.base CX k f fd ps sp)(hr:gr k X.A)(hb:kT X.K fd ps ds)(hd:eu dvs ds)(hx:lK CX X E)
  (I:eM X pins σ H s) (r:eu vs us) (h:sp (vs++dvs) H Q E):wpAny (model X.prog X.w) X.A (call (.ref f) us) (EP X pins σ Q) X.xe s:=by
 have r2:eu (vs++dvs) (us++ds):=r.append hd;have hl:(us++ds).length=ps.length:=by rw[<-r2.length];exact F.len _ _ _ _ h
 refine wpAny_call (codeAny_mono (F.run X.A X.stack s H ⟨us,[]⟩ (us++ds) (vs++dvs) Q E hr I.env0 (hb s us I.kIn hl) r2 h) λr s' hq=>?_);cases r with
 | error e=>exact hx pins σ H s e s' I hq
 | ok fl=>
  cases fl with
  | ret u=>exact I.after hq
  | next=>exact False.elim hq
  | brk=>exact False.elim hq
  | cont=>exact False.elim hq
theorem yE(F:je X.prog X.w X.K X.mg X.base CX k f fd ps sp)(hr:gr k X.A)(hg:Gl X x)(hm:X.mg x=some (.ref f))(hk:PySem.W.keepIn X.K (.ref f)=true)(hb:kT X.K fd ps ds)(hd:eu dvs ds)(hx:lK CX X E)
  (ha:PA X (e::es) t) (hdb:(x==("__debug__":Str))=false:=by decide) (he:starEach (e::es) X.env=(false,eval e X.env)::starEach es X.env:=by rfl) (hpl:(backTo pos (starEach es X.env)).any (·.1)=false:=by rfl):
  PE X (.Call (.Name x p) (e::es) [] pos) (eN sp dvs E t):=by
 intro pins s σ H Q I h;refine wpAny_Call_Name_kw (la I hg hm ?_ hdb);refine bq (h₀:=X.base) I.ok.mod.kin hk (thn (ha pos pins s σ H _ I h) λus s1 ⟨vs,H1,I1,r,q⟩=>⟨I1.kIn,?_⟩) he hpl;exact Br F hr hb hd hx I1 r q
theorem FD(he:PE X o ta)(c:xE X.K C)(hm:k8 X.K C m f)(F:je X.prog X.w X.K X.mg X.base CX k f fd ps sp)(hr:gr k X.A)(hb:kT X.K fd ps ds)(hd:eu dvs ds)(hx:lK CX X E)(ha:PA X (e::es) t)
  (hst:starEach (e::es) X.env=(false,eval e X.env)::starEach es X.env:=by rfl) (hpl:(backTo pos (starEach es X.env)).any (·.1)=false:=by rfl)
  (ht:eval (.Call (.Attribute o m apos) (e::es) [] pos) X.env=(do
   let ov <- eval o X.env
   standAt apos.atName
   let (f,first) <- holding [ov] (getMethod ov m pl)
   callWith pos f first (backTo pos (starEach (e::es) X.env)) (backToKw pos (keywordEach [] X.env))):=by rfl):
  PE X (.Call (.Attribute o m apos) (e::es) [] pos) (ji C m sp dvs E ta t):=by
 intro pins s σ H Q I h;refine PySem.W.methodCall_KW (pl:=pl) (thn (he pins s σ H _ I h) λu s1 hz=>?_) ht;obtain⟨x,H1,I1,rx,q⟩:=hz;obtain⟨a,rfl,q⟩:=onR.ex q;obtain @⟨dx,fs,ea,l,q⟩:=q;obtain rfl:u=Value.ref a:=rx;refine wW I1 ea c hm l ?_;refine bq (first:=[.ref a]) (h₀:=X.base) I.ok.mod.kin hm.kp (thn (ha pos pins s1 σ H1 _ I1 q) λus s2 ⟨vs,H2,I2,r,q2⟩=>⟨I2.kIn,?_⟩) hst hpl;exact Br (us:=.ref a::us) (vs:=.ref a::vs) F hr hb hd hx I2 (.cons rfl r) q2
structure Mk(K:aA)(C f:Addr):Prop where
 makes:PySem.W.makesIn K C=true
 init:PySem.W.findIn K (.ref C) "__init__"=some (some (.ref f))
 fn:PySem.W.isFn K (.ref f)=true
 kp:PySem.W.keepIn K (.ref C)=true
theorem Bq(M:Mk X.K C f)(F:je X.prog X.w X.K X.mg X.base CX k f fd ps sp)(hr:gr (k+1) X.A)(hb:kT X.K fd ps ds)(hd:eu dvs ds)
  (hx:lK CX X E) (I:eM X pins σ H s) (r:eu vs us)
  (h:∀x dx,H x=none->H dx=none->dx≠x->sp (.ref x::(vs++dvs)) (upd (upd H dx (.own x)) x (.ins C dx [])) (λv H2=>v=.non/\Q (.ref x) H2) E):
  wpAny (model X.prog X.w) X.A (call (.ref C) us) (EP X pins σ Q) X.xe s:=by
 have hq:=h (s.heap.objs.size+1) s.heap.objs.size (I.hok.fresh (bK _)) (I.hok.fresh (aC _)) (aJ (aq _));have I2:=eM.made (C:=C) I;have r2:eu (V.ref (s.heap.objs.size+1)::(vs++dvs)) (Value.ref (s.heap.objs.size+1)::(us++ds)):=.cons rfl (r.append hd);have hl:(Value.ref (s.heap.objs.size+1)::us++ds).length=ps.length:=by have e:=r2.length;rw[F.len _ _ _ _ hq]at e;exact e.symm
 refine wpAny_call (Ce (f:=f) I.kIn M.makes M.init (beq_iff_eq.mp M.fn) (codeAny_mono (F.run _ X.stack _ _ ⟨Value.ref (s.heap.objs.size+1)::us,[]⟩ (Value.ref (s.heap.objs.size+1)::(us++ds)) _ _ E (hr.make C us [])
  (I2.env0.make C us []) (hb _ (Value.ref (s.heap.objs.size+1)::us) I2.kIn hl) r2 hq) λr s' hq'=>?_))
 cases r with
 | error e=>exact hx pins σ _ _ e s' I2 hq'
 | ok fl=>
  cases fl with
  | ret u=>obtain⟨v,H',I3,rv,ev,q3⟩:=I2.after hq';subst ev;exact⟨rv,⟨V.ref (s.heap.objs.size+1),H',I3,rfl,q3⟩⟩
  | next=>exact False.elim hq'
  | brk=>exact False.elim hq'
  | cont=>exact False.elim hq'
theorem FE(M:Mk X.K C f)(F:je X.prog X.w X.K X.mg X.base CX k f fd ps sp)(hr:gr (k+1) X.A)(hg:Gl X x)(hm:X.mg x=some (.ref C))(hb:kT X.K fd ps ds)(hd:eu dvs ds)(hx:lK CX X E)
  (ha:PA X (e::es) t) (hdb:(x==("__debug__":Str))=false:=by decide) (he:starEach (e::es) X.env=(false,eval e X.env)::starEach es X.env:=by rfl) (hpl:(backTo pos (starEach es X.env)).any (·.1)=false:=by rfl):
  PE X (.Call (.Name x p) (e::es) [] pos) (uH C sp dvs E t):=by
 intro pins s σ H Q I h;refine wpAny_Call_Name_kw (la I hg hm ?_ hdb);refine bq (h₀:=X.base) I.ok.mod.kin M.kp (thn (ha pos pins s σ H _ I h) λus s1 ⟨vs,H1,I1,r,q⟩=>⟨I1.kIn,?_⟩) he hpl;exact Bq M F hr hb hd hx I1 r q
end
section
variable {X:Cx}{CX:AR}{k:Nat}{f C:Addr}{fd:FuncData}{ps ks:List Str}{sp:Sp}{E:XK}{x m:Str}{p pos apos kpos:Pos}{e o:Expr}{es:List Expr}{kws:List Keyword}{te ta:TE}{t tk:TA}{nm:Option Str}
variable {g:List Value->List Value->List Value}{gV:List V->List V->List V}
end
structure kj(N P:List Str)(sc:Scope):Prop where
 kind:sc.kind=.function
 co:sc.isCoroutine=false
 gen:sc.isGenerator=false
 nd:N.Nodup
 pre:N.take P.length=P
 par:∀x∈P,sc.names.lookup x=some .local∨sc.names.lookup x=some .cell
 nofree:∀y∈sc.names,y.2≠.free
theorem rG{kindOf:Str->Option NameKind}{x:Str}:∀{binds:List (Str×Value)}{m:Str->Option Value},(∀v,(x,v)∉binds)->bindL kindOf binds m x=m x
 | [],_,_=>rfl
 | (n,v)::r,m,h=>by
  unfold bindL;rw[rG λw hw=>h w (ax _ hw)];split
  ·have:x≠n:=by rintro rfl;exact h v bV
   simp[this]
  ·rfl
theorem rJ{kindOf:Str->Option NameKind}{x:Str}:∀{binds:List (Str×Value)}{m:Str->Option Value},(∀v,(x,v)∉binds)->bindC kindOf binds m x=m x
 | [],_,_=>rfl
 | (n,v)::r,m,h=>by
  unfold bindC;rw[rJ λw hw=>h w (ax _ hw)];split
  ·rfl
  ·have:x≠n:=by rintro rfl;exact h v bV
   simp[this]
theorem rH{kindOf:Str->Option NameKind}{x:Str}{v:Value}:∀{P:List Str}{vs:List Value}{i:Nat}{m:Str->Option Value},P.Nodup->P[i]?=some x->vs[i]?=some v->kindOf x=some .local->
  bindL kindOf (P.zip vs) m x=some v
 | [],_,_,_,_,h,_,_=>by simp at h
 | _::_,[],_,_,_,_,h,_=>by simp at h
 | p::P,w::vs,0,m,nd,h1,h2,hk=>by simp at h1 h2;subst h1;subst h2;show bindL kindOf ((p,w)::P.zip vs) m p=_;unfold bindL;rw[rG λv hv=>(bL.mp nd).1 (br hv).1,if_pos hk];simp
 | p::P,w::vs,i+1,m,nd,h1,h2,hk=>by show bindL kindOf ((p,w)::P.zip vs) m x=_;unfold bindL;exact rH (i:=i) (bL.mp nd).2 (by simpa using h1) (by simpa using h2) hk
theorem rK{kindOf:Str->Option NameKind}{x:Str}{v:Value}:∀{P:List Str}{vs:List Value}{i:Nat}{m:Str->Option Value},P.Nodup->P[i]?=some x->vs[i]?=some v->kindOf x≠some .local->
  bindC kindOf (P.zip vs) m x=some v
 | [],_,_,_,_,h,_,_=>by simp at h
 | _::_,[],_,_,_,_,h,_=>by simp at h
 | p::P,w::vs,0,m,nd,h1,h2,hk=>by simp at h1 h2;subst h1;subst h2;show bindC kindOf ((p,w)::P.zip vs) m p=_;unfold bindC;rw[rJ λv hv=>(bL.mp nd).1 (br hv).1,if_neg hk];simp
 | p::P,w::vs,i+1,m,nd,h1,h2,hk=>by show bindC kindOf ((p,w)::P.zip vs) m x=_;unfold bindC;exact rK (i:=i) (bL.mp nd).2 (by simpa using h1) (by simpa using h2) hk
def start(N:List Str)(vs:List V):St:=vs.map some++List.replicate (N.length-vs.length) none
def i7(CX:AR)(P:Program)(w:World)(K:aA)(mg:Str->Option Value)(base:Heap)(N:List Str)(qual:Str)(scope:Scope)(f:Addr)(cd:Value)(A:Around)(outer:List Env)(s:Shared)(H:Hp)(E:XK):Cx where
 prog:=P
 w:=w
 K:=K
 mg:=mg
 base:=base
 A:=A.deeper (envOfC qual scope s.heap.objs.size f cd)
 N:=N
 s₀:=s
 H₀:=H
 env:=envOfC qual scope s.heap.objs.size f cd
 outer:=outer
 stack:=envOfC qual scope s.heap.objs.size f cd::outer
 ex:=[]
 calm:=true
 fn:=λ_=>true
 pn:=[]
 xe:=λe s'=>wpAny (model P w) (A.deeper (envOfC qual scope s.heap.objs.size f cd)) (leaving (envOfC qual scope s.heap.objs.size f cd) e) (λ_ s''=>CX outer H s E e s'') (λe' s''=>CX outer H s E e' s'') s'
theorem u6{sc:Scope}{n:Nat}{x:Str}(h:sc.names.lookup x=some .cell):∃c,(cellsFrom n sc.names []).lookup x=some c:=by have q:=cm sc.names n [] (.inl h);exact cp.mp q
theorem kO{CX:AR}{P:Program}{w:World}{K:aA}{mg:Str->Option Value}{base:Heap}{N ps:List Str}{qual:Str}{scope:Scope}{f:Addr}{cd:Value}{A:Around}{outer:List Env}{s s1:Shared}{H:Hp}{E:XK}{us:List Value}{vs:List V}
  (S:kj N ps scope) (hd:A.handled=none) (e0:xC P w K mg base A outer s H) (hl:vs.length=ps.length) (r:eu vs us)
  (x:InCallC s s.heap.objs.size (bindL (envOfC qual scope s.heap.objs.size f cd).kindOf (ps.zip us) λ_=>none) (cellsFrom (s.heap.objs.size+1) scope.names []) (bindC (envOfC qual scope s.heap.objs.size f cd).kindOf (ps.zip us) λ_=>none) s1):
  eM (i7 CX P w K mg base N qual scope f cd A outer s H E) [] (start N vs) H s1:=by
 have hpl:ps.length<=N.length:=by have:=congrArg List.length S.pre;rw[ag]at this;lia
 obtain⟨h1,tk,rfl,hk⟩:=x.done;have noA:∀b:Addr,b∉(i7 CX P w K mg base N qual scope f cd A outer s H E).ex:=λb z=>absurd (show b∈([]:List Addr)from z) (by simp);refine⟨⟨e0.mod,S.kind,rfl,rfl,aC _,λy z c h1 h2=>?_,λy hy=>?_,λy c _ h=>?_,λ_=>hd,Around.frames_deeper e0.frames,.inr ⟨rfl,rfl⟩,λb z=>absurd z (noA b),e0.bs,e0.bsz,λb _ _=>noA b,λb z=>absurd z (noA b),e0.funs,e0.frf⟩,
  rfl,e0.bare,Un.kept hk,⟨_,x.toInCall.ns,λi y v h1 h2 h3=>?_⟩,λy c h=>⟨_,x.cell y c h⟩,e0.hok.fresh (aC _),λy c h=>?_,λp hp=>absurd (show p∈([]:List (Addr×Obj))from hp) (by simp),e0.hok.kept hk,?_⟩
 ·exact name_of_addr x.apart (bf h1) (bf h2)
 ·have hy:scope.names.lookup y=some .cell∨scope.names.lookup y=some .free:=hy;rcases hy with hy|hy
  ·exact u6 hy
  ·exact absurd rfl (S.nofree _ (bf hy))
 ·exact bI (x.above y c (bf h))
 ·have hi:i<vs.length:=by
   unfold start at h2;by_cases hi:i<vs.length
   ·exact hi
   ·rw[bC (by simpa using hi)]at h2;rw[cq]at h2;split at h2<;>cases h2
  have ha:vs[i]?=some v:=by
   unfold start at h2;rw[au (by simpa using hi),aT]at h2;cases e:vs[i]? with
   | none=>rw[e]at h2;cases h2
   | some a=>rw[e]at h2;cases h2;rfl
  obtain⟨u,hu,rv⟩:=r.get ha;have hp:ps[i]?=some y:=by rw[<-S.pre,cr (by lia)];exact h1
  have ndP:ps.Nodup:=by rw[<-S.pre];exact S.nd.sublist (List.take_sublist _ _)
  refine⟨u,rv,?_⟩;rcases S.par y (aZ hp)with k|k
  ·exact .inl ⟨k,rH ndP hp hu k⟩
  ·obtain⟨c,e⟩:=u6 (n:=s.heap.objs.size+1) k;refine .inr ⟨.inl k,c,e,?_⟩;have q:=x.cell y c e;rw[rK ndP hp hu (by show scope.names.lookup y≠_;rw[k];decide)]at q;exact q
 ·exact e0.hok.fresh (bI (x.above y c (bf h)))
 ·unfold start;show _=N.length;rw[aE,aO,cK];lia
theorem Gf{CX:AR}{P:Program}{w:World}{K:aA}{mg:Str->Option Value}{base:Heap}{k:Nat}{f:Addr}{name qual:Str}{params:Arguments}{body:List Stmt}{scope:Scope}{dV kV doc pm cdv ct oc:Value}{an od:Option Addr}
  {osl:Array (Option Value)} {N ps:List Str} {sp:Sp} (lk:K.lookup f=some ⟨oc,od,.func (PySem.W.fnOf name qual params body scope dV kV doc pm an cdv ct),osl⟩) (hcd:PySem.W.codeIn K cdv qual=true) (S:kj N ps scope)
  (len:∀vs H Q E,sp vs H Q E->vs.length=ps.length)
  (hbody:∀(A:Around)(outer:List Env)(s:Shared)(H:Hp)(vs:List V)(Q:VK)(E:XK),gr k (A.deeper (envOfC qual scope s.heap.objs.size f cdv))->sp vs H Q E->
   ∃t,pG (i7 CX P w K mg base N qual scope f cdv A outer s H E) body t/\t {nx:=λ_ H'=>Q .non H',rt:=Q} (start N vs) H):
  je P w K mg base CX (k+1) f (PySem.W.fnOf name qual params body scope dV kV doc pm an cdv ct) ps sp:=by
 refine⟨len,λA outer s H args us vs Q E hr e0 hb r hsp=>?_⟩;have hl:=len _ _ _ _ hsp;have KX:K.In s.heap:=e0.mod.kin.keeps λb o e=>(e0.bs b o e).1;have lim:s.heap.NoLimit:=e0.mod.nolimit.keeps λb o e=>(e0.bs b o e).1;have hkind:∀y∈ps.zip us,scope.names.lookup y.1=some .local∨(scope.names.lookup y.1=some .cell/\((cellsFrom (s.heap.objs.size+1) scope.names []).lookup y.1).isSome=true):=λ⟨n,v⟩ hy=>by
  rcases S.par n (br hy).1 with q|q
  ·exact .inl q
  ·exact .inr ⟨q,cm _ _ _ (.inl q)⟩
 refine codeAny_call_function hr.depth (KX _ _ lk) rfl S.co S.gen rfl (PySem.W.codeRec_of KX hcd) (hb _ _ _ _ ?_);refine wpAny_newFunctionEnv_cells S.kind hkind λenv he s1 x=>?_;subst he;refine⟨lim.keeps x.toInCall.keep,codeAny_func ?_⟩;obtain⟨t,ht,hq⟩:=hbody A outer s H vs Q E (hr.deeper _) hsp;have I:eM (i7 CX P w K mg base N qual scope f cdv A outer s H E) [] (start N vs) H s1:=kO S hr.hd e0 hl r x;refine wpAny_mono (ht [] s1 (start N vs) H _ I hq) (λfl s' hs=>?_) λe s' hs=>hs;have fk:∀{σ':St}{H':Hp}{v:V}{u:Value},eM (i7 CX P w K mg base N qual scope f cdv A outer s H E) [] σ' H' s'->fH v u->Q v H'->CE outer P w H s Q u s':=
  λ{σ' H' v u} J rv q=>⟨v,H',J.os,J.bare,J.base,J.hok,rv,q⟩
 cases fl with
 | ret u=>obtain⟨v,σ',H',J,rv,q⟩:=hs;exact fk J rv q
 | next=>obtain⟨σ',H',J,q⟩:=hs;exact fk (v:=V.non) (u:=Value.none) J rfl q
 | brk=>obtain⟨_,_,_,q⟩:=hs;exact False.elim q
 | cont=>obtain⟨_,_,_,q⟩:=hs;exact False.elim q
section
variable {X:Cx}{x:Str}{p pos:Pos}{e:Expr}{es:List Expr}{t:TA}{id T:String}{r:List V->Hp->VK->Prop}
def gx(r:List V->Hp->VK->Prop)(t:TA):TE:=λσ H Q=>t σ H λvs H1=>r vs H1 Q
theorem fZ(hc:kS X (.builtin id) r)(hg:Gl X x)(hm:X.mg x=none)(hv:bootBuiltins x=some (.builtin id))(ha:PA X (e::es) t)(hn:x≠"__name__":=by decide)(hdb:(x==("__debug__":Str))=false:=by decide)
  (he:starEach (e::es) X.env=(false,eval e X.env)::starEach es X.env:=by rfl) (hpl:(backTo pos (starEach es X.env)).any (·.1)=false:=by rfl):PE X (.Call (.Name x p) (e::es) [] pos) (gx r t):=by
 intro pins s σ H Q I h;refine wpAny_Call_Name_kw (ju I hg hm hv ?_ hn hdb);exact PyProof.Rows.callWith_builtin1 (thn (ha pos pins s σ H _ I h) λus s1 ⟨vs,H1,I1,r1,q1⟩=>hc pins s1 σ H1 vs us Q I1 r1 q1) he hpl
theorem fo(hc:kS X (.type T) r)(hg:Gl X x)(hm:X.mg x=none)(hv:bootBuiltins x=some (.type T))(ha:PA X (e::es) t)(hn:x≠"__name__":=by decide)(hdb:(x==("__debug__":Str))=false:=by decide)
  (he:starEach (e::es) X.env=(false,eval e X.env)::starEach es X.env:=by rfl) (hpl:(backTo pos (starEach es X.env)).any (·.1)=false:=by rfl):PE X (.Call (.Name x p) (e::es) [] pos) (gx r t):=by
 intro pins s σ H Q I h;refine wpAny_Call_Name_kw (ju I hg hm hv ?_ hn hdb);exact bJ (thn (ha pos pins s σ H _ I h) λus s1 ⟨vs,H1,I1,r1,q1⟩=>hc pins s1 σ H1 vs us Q I1 r1 q1) he hpl
end
end L2
namespace HT
open PySem PyProof.Rows
section
open PySem.SeqAt
open PySem.AutoSeq1 (wpAny_loadPart')
open PySem.MeetsSeq PySem.MeetsSeq2 PySem.MeetsSeq3
end
section
variable {prog:Program}{w:World}{A:Around}{E:Value->Shared->Prop}{s:Shared}
theorem NL(ht:IsTup s.heap t vs.toArray)(hb:IsTup s.heap b ws.toArray)(hv:vs≠[])
  (h1:ws=[]->Q (.ref t) s) (h2:ws≠[]->Q (.ref s.heap.objs.size) {s with heap:=s.heap.push {cls:=.type "tuple",data:=.seq (vs++ws).toArray}})
  (hsz:vs.length+ws.length<=sizeLine):wpAny (model prog w) A (binaryOp .Add (.ref t) (.ref b)) Q E s:=by
 obtain⟨⟨cls,dd,data,sl⟩,ho,hc,n,hd⟩:=id ht;obtain⟨⟨cls2,dd2,data2,sl2⟩,ho2,hc2,n2,hd2⟩:=id hb;simp only at hc hd hc2 hd2;subst hc hd hc2 hd2;have e:vs.toArray++ws.toArray=(vs++ws).toArray:=by simp
 by_cases hw:ws=[]
 ·exact concat_meets ⟨_,ho,rfl⟩ ⟨_,ho2,rfl⟩ noFill_tuple_add seq_tuple_add cL cM (cO _ _)
   (tuple_addW1 t b vs.toArray ws.toArray n n2 dd dd2 sl sl2 (by simpa using hv) (by simp[hw])) ⟨ho,ho2,h1 hw⟩
 ·refine concat_meets ⟨_,ho,rfl⟩ ⟨_,ho2,rfl⟩ noFill_tuple_add seq_tuple_add cL cM (cO _ _)
   (tuple_addW2 t b vs.toArray ws.toArray n n2 dd dd2 sl sl2 (by simpa using hv) (by simpa using hw) (by rw[aM,aM];exact hsz)) ⟨ho,ho2,?_⟩
  rw[e];exact h2 hw
def kG(n d:Nat):Option Int->Nat
 | none=>d
 | some v=>if v<0 then(v+(n:Int)).toNat else min v.toNat n
theorem LO(n d:Nat):kG n d none=d:=rfl
theorem M9(n d k:Nat):kG n d (some (k:Int))=min k n:=by show(if(k:Int)<0 then((k:Int)+(n:Int)).toNat else min (k:Int).toNat n)=min k n;rw[if_neg (by lia),bg]
theorem JW(n d:Nat)(hd:d<=n)(o:Option Int):kG n d o<=n:=by
 cases o with
 | none=>exact hd
 | some v=>
  show(if v<0 then(v+(n:Int)).toNat else min v.toNat n)<=n;by_cases hv:v<0
  ·rw[if_pos hv];lia
  ·rw[if_neg hv];exact Nat.min_le_right _ _
theorem yf(v:Int)(n d:Nat):(if v<0 then max (v+(n:Int)) 0 else min v (n:Int))=((kG n d (some v):Nat):Int):=by
 show(if v<0 then max (v+(n:Int)) 0 else min v (n:Int))=(((if v<0 then(v+(n:Int)).toNat else min v.toNat n):Nat):Int);by_cases hv:v<0
 ·simp only[if_pos hv];lia
 ·simp only[if_neg hv];lia
theorem wv(lo hi:Option Int)(n:Nat):Builtin.Slice.sliceAdjust lo hi 1 (n:Int)=(((kG n 0 lo:Nat):Int),((kG n n hi:Nat):Int)):=by
 have h1:¬((1:Int)<0):=by lia
 unfold Builtin.Slice.sliceAdjust;simp only[h1,if_false];refine Prod.ext ?_ ?_
 ·cases lo with
  | none=>rfl
  | some v=>exact yf v n 0
 ·cases hi with
  | none=>rfl
  | some v=>exact yf v n n
theorem wC(i j:Nat):Builtin.Slice.slicePlaces (i:Int) (j:Int) 1=j-i:=by
 unfold Builtin.Slice.slicePlaces;have h1:(1:Int)>0:=by lia
 simp only[h1,if_true,Int.ediv_one];split<;>lia
theorem pZ(p:IsPart v o)(h:Q o s):wpAny (model prog w) A (Builtin.Slice.slicePartIndex v) Q E s:=by
 cases p with
 | none=>exact slicePart_none h
 | int i t=>exact slicePart_int h
theorem kF{sl:Addr}{vl vu:Value}{lo hi:Option Int}{n:Nat}{Q:Int×Int×Nat->Shared->Prop}(hs:s.heap.IsSliceOf sl vl vu .none)(pl:IsPart vl lo)(pu:IsPart vu hi)
  (h:Q (((kG n 0 lo:Nat):Int),1,kG n n hi-kG n 0 lo) s):wpAny (model prog w) A (Builtin.Slice.sliceApplied (.ref sl) (pure (n:Int))) Q E s:=by
 obtain⟨os,hos,hcs,hds⟩:=id hs;unfold Builtin.Slice.sliceApplied Builtin.Slice.sliceFields;refine wpAny_bind (wpAny_bind (wpAny_field hos hds (x:=vl) rfl (wpAny_bind (wpAny_field hos hds (x:=vu) rfl (wpAny_bind (wpAny_field hos hds (x:=.none) rfl (wpAny_pure ?_)))))));refine wpAny_bind (slicePart_none ?_);show wpAny _ _ (if((1:Int)==0)=true then _ else _) _ _ s;rw[if_neg (by decide)];refine wpAny_bind (pZ pl (wpAny_bind (pZ pu (wpAny_bind (wpAny_pure ?_)))));show wpAny _ _ (match Builtin.Slice.sliceAdjust lo hi 1 (n:Int) with|(lo,hi)=>pure (lo,(1:Int),Builtin.Slice.slicePlaces lo hi 1)) _ _ s;rw[wv lo hi n];show wpAny _ _ (pure (((kG n 0 lo:Nat):Int),(1:Int),Builtin.Slice.slicePlaces ((kG n 0 lo:Nat):Int) ((kG n n hi:Nat):Int) 1)) _ _ s;rw[wC];exact wpAny_pure h
theorem CG(xs:Array Value)(i k:Nat):((List.range k).filterMap λ(m:Nat)=>xs[((i:Int)+(m:Int)*1).toNat]?).toArray=((xs.toList.drop i).take k).toArray:=by
 have e:(λ(m:Nat)=>xs[((i:Int)+(m:Int)*1).toNat]?)=λm=>xs[i+m]?:=by
  funext m;have:((i:Int)+(m:Int)*1).toNat=i+m:=by lia
  rw[this]
 rw[e];have:=pick_run xs i k;rw[List.filterMap_map]at this;have e2:((λx=>xs[x]?)∘λx=>i+x)=λm=>xs[i+m]?:=rfl;rw[e2]at this;rw[this]
theorem yP{t sl:Addr}{eI:Array Value}{vl vu:Value}{lo hi:Option Int}{Q:Value->Shared->Prop}(ht:IsTup s.heap t eI)(hs:s.heap.IsSliceOf sl vl vu .none)(pl:IsPart vl lo)(pu:IsPart vu hi)
  (hw:¬(kG eI.size 0 lo=0/\kG eI.size eI.size hi=eI.size))
  (h:Q (.ref s.heap.objs.size) {s with heap:=s.heap.push {cls:=.type "tuple",data:=.seq ((eI.toList.drop (kG eI.size 0 lo)).take (kG eI.size eI.size hi-kG eI.size 0 lo)).toArray}})
  (hsz:eI.size<=sizeLine):wpAny (model prog w) A (getItem (.ref t) (.ref sl)) Q E s:=by
 have htake:sizeOk (.seq ((eI.toList.drop (kG eI.size 0 lo)).take (kG eI.size eI.size hi-kG eI.size 0 lo)).toArray):=by show((eI.toList.drop (kG eI.size 0 lo)).take (kG eI.size eI.size hi-kG eI.size 0 lo)).toArray.size<=sizeLine;rw[aM,ag,ah,be];lia
 have hj:kG eI.size eI.size hi<=eI.size:=JW _ _ (aC _) hi;obtain⟨os,hos,hcs,hds⟩:=id hs;have hTs:s.TypeIs (.ref sl) "slice":=⟨os,hos,hcs⟩;unfold getItem
 try with_reducible refine wpAny_holding ?_
 first|refine wpAny_bind (wpAny_pure ?_)|skip
 refine wpAny_bind (wpAny_sequenceKey ht.typeIs (by decide) ?_);refine wpAny_bind (wpAny_callSpecial?_slot (name:=Str.ofString "__getitem__") ht.typeIs bW
  (wpAny_call_entry bW ht.typeIs entry_tuple_getitem ?_ (args_tuple_getitem _ _)))
 show wpAny _ _ (Builtin.Tuple.tupleItemsOf (.ref t) >>= _) _ _ s;refine wpAny_bind (tupleItemsOf_ ht ?_);refine wpAny_bind (wpAny_typeOf hTs ?_);rw[if_pos (by decide)];refine wpAny_bind (kF hs pl pu ?_);have hno:¬((((kG eI.size 0 lo:Nat):Int)==0&&(1:Int)==1&&(kG eI.size eI.size hi-kG eI.size 0 lo)==eI.size)=true):=by intro q;rw[bT,bT]at q;have q1:((kG eI.size 0 lo:Nat):Int)=0:=eq_of_beq q.1.1;have q2:kG eI.size eI.size hi-kG eI.size 0 lo=eI.size:=eq_of_beq q.2;exact hw ⟨by lia,by lia⟩
 show wpAny _ _ (if(((kG eI.size 0 lo:Nat):Int)==0&&(1:Int)==1&&(kG eI.size eI.size hi-kG eI.size 0 lo)==eI.size)=true then _ else _) _ _ s;rw[if_neg hno,CG]
 first
  | exact wpAny_bind (m:=Builtin.Tuple.tupleExact _) (wpAny_newObj_type (wpAny_pure ⟨_,rfl,wpAny_pure h⟩) htake)
  | exact wpAny_bind (m:=Builtin.Tuple.tupleExact _) (wpAny_newObj_type (wpAny_bind (wpAny_pure (wpAny_pure ⟨_,rfl,wpAny_pure h⟩))) htake)
  | exact wpAny_bind (wpAny_bind (m:=Builtin.Tuple.tupleExact _) (wpAny_newObj_type (wpAny_pure (wpAny_pure ⟨_,rfl,wpAny_pure h⟩)) htake))
  | exact wpAny_bind (wpAny_bind (m:=Builtin.Tuple.tupleExact _) (wpAny_newObj_type (wpAny_pure ⟨_,rfl,wpAny_pure h⟩) htake))
end
end HT
namespace L2
open PySem PySem.Spec PyProof.Rows
abbrev TO:=St->Hp->(Option Int->Hp->Prop)->Prop
def PO(X:Cx)(e:Option Expr)(t:TO):Prop:=
 ∀(pins:List (Addr×Obj))(s:Shared)(σ:St)(H:Hp)(Q:Option Int->Hp->Prop),eM X pins σ H s->t σ H Q->
  wpAny (model X.prog X.w) X.A (evalPart e X.env) (λu s'=>∃o H',eM X pins σ H' s'/\IsPart u o/\Q o H') X.xe s
def fg:TO:=λ_ H Q=>Q none H
def fi(t:TE):TO:=λσ H Q=>t σ H λx H1=>onI x λi=>Q (some i) H1
section
variable {X:Cx}{e:Expr}{te:TE}{lo hi:Option Expr}{tl th:TO}{pos p2:Pos}
theorem gU:PO X none fg:=by intro pins s σ H Q I h;rw[evalPart_none];exact wpAny_pure ⟨none,H,I,.none,h⟩
theorem fO(h:PE X e te):PO X (some e) (fi te):=by intro pins s σ H Q I hw;rw[evalPart_some];refine thn (h pins s σ H _ I hw) λu s1 hz=>?_;obtain⟨x,H1,I1,r1,q1⟩:=hz;obtain⟨i,rfl,q⟩:=onI.ex q1;obtain⟨t,rfl⟩:=r1;exact⟨some i,H1,I1,.int i t,q⟩
def Dj(X:Cx)(r:V->Option Int->Option Int->Hp->VK->Prop):Prop:=
 ∀(pins:List (Addr×Obj))(s:Shared)(σ:St)(H:Hp)(x:V)(v vl vu:Value)(lo hi:Option Int)(sl:Addr)(Q:VK),eM X pins σ H s->fH x v->s.heap.IsSliceOf sl vl vu .none->IsPart vl lo->IsPart vu hi->r x lo hi H Q->
  ∃T id,typeLookup (.type T) "__getitem__"=pure (some (.builtin id))/\s.TypeIs v T/\wpAny (model X.prog X.w) X.A (getItem v (.ref sl)) (EP X pins σ Q) X.xe s
theorem Dj.or(h:Dj X r)(h':Dj X r'):Dj X (λx lo hi H Q=>r x lo hi H Q∨r' x lo hi H Q):=by
 intro pins s σ H x v vl vu lo hi sl Q I rx hs pl pu q;rcases q with q|q
 ·exact h pins s σ H x v vl vu lo hi sl Q I rx hs pl pu q
 ·exact h' pins s σ H x v vl vu lo hi sl Q I rx hs pl pu q
def nB(r:V->Option Int->Option Int->Hp->VK->Prop)(te:TE)(tl th:TO):TE:=λσ H Q=>te σ H λx H1=>tl σ H1 λl H2=>th σ H2 λu H3=>r x l u H3 Q
theorem fR(hr:Dj X r)(he:PE X e te)(hl:PO X lo tl)(hu:PO X hi th):PE X (.Subscript e (.Slice lo hi none p2) pos) (nB r te tl th):=by intro pins s σ H Q I h;refine Subscript_ (thn (he pins s σ H _ I h) λv s1 hz=>?_);obtain⟨x,H1,I1,r1,q1⟩:=hz;refine wpAny_Slice (thn (hl pins s1 σ H1 _ I1 q1) λvl s2 ⟨l,H2,I2,pl,q2⟩=>thn (hu pins s2 σ H2 _ I2 q2) λvu s3 hz=>?_);obtain⟨u,H3,I3,pu,q3⟩:=hz;rw[evalPart_none];refine wpAny_pure ?_;have I4:eM X pins σ H3 {s3 with heap:=s3.heap.push {cls:=.type "slice",data:=.fields #[vl,vu,.none]}}:=I3.kept (t':=s3.toks) λb ob q=>Heap.get?_push_of_some _ q;obtain⟨T,id,hT,ht,hg⟩:=hr pins {s3 with heap:=s3.heap.push {cls:=.type "slice",data:=.fields #[vl,vu,.none]}} σ H3 x v vl vu l u s3.heap.objs.size Q I4 r1 (Heap.IsSliceOf.new ..) pl pu q3;show wpAny (model X.prog X.w) X.A (subscriptTail e (.Slice lo hi none p2) v (.ref s3.heap.objs.size)) (EP X pins σ Q) X.xe {s3 with heap:=s3.heap.push {cls:=.type "slice",data:=.fields #[vl,vu,.none]}};exact tail_any (ops:=[.ref s3.heap.objs.size,v]) ht hT hg (by with_unfolding_all rfl)
def iJ(xs:List V)(lo hi:Option Int):List V:=(xs.drop (HT.kG xs.length 0 lo)).take (HT.kG xs.length xs.length hi-HT.kG xs.length 0 lo)
theorem oS(xs:List V)(lo hi:Option Int):(iJ xs lo hi).length<=xs.length:=by unfold iJ;rw[ag,ah];lia
def zf(K:aA):V->Option Int->Option Int->Hp->VK->Prop:=λx lo hi H Q=>onR x λa=>lM (eD K H a) λxs=>
 ¬(HT.kG xs.length 0 lo=0/\HT.kG xs.length xs.length hi=xs.length)/\kL H (.tup (iJ xs lo hi)) Q
theorem pf:Dj X (zf X.K):=by
 intro pins s σ H x v vl vu lo hi sl Q I rx hs pl pu h;obtain⟨a,rfl,h⟩:=onR.ex h;obtain @⟨xs,hx,hw,q⟩:=h;cases rx;obtain⟨its,r,ht,hz⟩:=I.tuple hx;have hlen:its.toArray.size=xs.length:=by rw[aM];exact r.length.symm
 refine⟨"tuple",_,bW.lookup,ht.typeIs,?_⟩;refine HT.yP ht hs pl pu (by rw[hlen];exact hw) ?_ (by rw[hlen];exact hz);rw[hlen];refine⟨.ref s.heap.objs.size,_,I.laid (t':=s.toks) (o:=.tup (iJ xs lo hi)) (λb ob q=>Heap.get?_push_of_some _ q) (aC _) ?_,rfl,q _ (I.hok.fresh (aC _))⟩;exact⟨aP (oS xs lo hi) hz,_,(r.drop (HT.kG xs.length 0 lo)).take (HT.kG xs.length xs.length hi-HT.kG xs.length 0 lo),IsTup.new _ _⟩
def LU(K:aA):R2:=λx y H Q=>∃a b xs ys,x=.ref a/\y=.ref b/\eD K H a xs/\eD K H b ys/\xs≠[]/\xs.length+ys.length<=sizeLine/\
 (ys=[]->Q (.ref a) H)/\(ys≠[]->kL H (.tup (xs++ys)) Q)
theorem eu.nil_iff(r:eu xs us):us=[]↔xs=[]:=by
 cases r with
 | nil=>simp
 | cons _ _=>simp
theorem FK:mM X (binaryOp .Add) (LU X.K):=by intro pins s σ H x y v u Q I rx ry h;obtain⟨a,b,xs,ys,rfl,rfl,ha,hb,hx,hz,q1,q2⟩:=h;cases rx;cases ry;obtain⟨its,r1,p1,_⟩:=I.tuple ha;obtain⟨its2,r2,p2,_⟩:=I.tuple hb;refine HT.NL p1 p2 (λz=>hx (r1.nil_iff.mp z)) (λz=>⟨.ref a,H,I,rfl,q1 (r2.nil_iff.mp z)⟩) (λz=>?_) (by rw[<-r1.length,<-r2.length];exact hz);refine⟨.ref s.heap.objs.size,_,I.laid (t':=s.toks) (o:=.tup (xs++ys)) (λb ob q=>Heap.get?_push_of_some _ q) (aC _) ?_,rfl,q2 (λw=>z (r2.nil_iff.mpr w)) _ (I.hok.fresh (aC _))⟩;exact⟨by rw[aE];exact hz,_,r1.append r2,IsTup.new _ _⟩
end
def AS(n:Nat)(i:Int):Option Nat:=if 0<=i then(if i<n then some i.toNat else none)else if -(n:Int)<=i then some (i+n).toNat else none
def nC{α:Type}(xs:List α)(i:Int):Option α:=(AS xs.length i).bind λj=>xs[j]?
theorem yM(h:AS n i=some j):seqIndex? i n=some j/\j<n/\-(n:Int)<=i/\i<n:=by
 unfold AS at h;by_cases h0:0<=i
 ·rw[if_pos h0]at h;by_cases h1:i<n
  ·rw[if_pos h1]at h;have e:i.toNat=j:=Option.some.inj h;exact⟨by rw[seqIndex_of h0 h1,e],by lia,by lia,h1⟩
  ·rw[if_neg h1]at h;cases h
 ·rw[if_neg h0]at h;by_cases h1 : -(n:Int)<=i
  ·rw[if_pos h1]at h;have e:(i+n).toNat=j:=Option.some.inj h;exact⟨by rw[seqIndex_neg (by lia) h1,e],by lia,h1,by lia⟩
  ·rw[if_neg h1]at h;cases h
theorem tO(h:nC xs i=some v):∃j,seqIndex? i xs.length=some j/\xs[j]?=some v/\j<xs.length/\-(xs.length:Int)<=i/\i<xs.length:=by
 unfold nC at h;cases e:AS xs.length i with
 | none=>rw[e]at h;cases h
 | some j=>rw[e]at h;obtain⟨h1,h2,h3,h4⟩:=yM e;exact⟨j,h1,h,h2,h3,h4⟩
theorem fK{α:Type}{xs:List α}{j:Nat}{v:α}(h:xs[j]?=some v):nC xs (j:Int)=some v:=by
 have hj:j<xs.length:=(aK.mp h).1;have e:AS xs.length (j:Int)=some j:=by unfold AS;rw[if_pos (by lia),if_pos (by lia)];simp
 unfold nC;rw[e];exact h
theorem gF{α:Type}{x:α}{xs:List α}:nC (x::xs) 0=some x:=fK (j:=0) rfl
theorem iM{α:Type}{x y:α}{xs:List α}:nC (x::y::xs) 1=some y:=fK (j:=1) rfl
theorem tY{α:Type}{x y z:α}{xs:List α}:nC (x::y::z::xs) 2=some z:=fK (j:=2) rfl
theorem rL{α:Type}{x y z w:α}{xs:List α}:nC (x::y::z::w::xs) 3=some w:=fK (j:=3) rfl
theorem DO(xs:List α)(v:α):nC (xs++[v]) (-1)=some v:=by
 have hl:(xs++[v]).length=xs.length+1:=by simp
 have e:AS (xs++[v]).length (-1)=some xs.length:=by
  unfold AS;rw[hl,if_neg (by decide),if_pos (by lia)]
  congr 1
  lia
 unfold nC;rw[e];show(xs++[v])[xs.length]?=some v;simp
def tS(b:Expr):Prop:=∀o i,subscripted b false o i=operate [o,i] (getItem o i)
def NU(X:Cx)(r:R2):Prop:=
 ∀(value slice:Expr)(pins:List (Addr×Obj))(s:Shared)(σ:St)(H:Hp)(x y:V)(v u:Value)(Q:VK),eM X pins σ H s->fH x v->fH y u->r x y H Q->
  subscripted slice false v u=operate [v,u] (getItem v u)->wpAny (model X.prog X.w) X.A (subscriptTail value slice v u) (EP X pins σ Q) X.xe s
def QW(X:Cx)(id:String)(r:V->List V->Hp->VK->Prop):Prop:=
 ∀(pins:List (Addr×Obj))(s:Shared)(σ:St)(H:Hp)(x:V)(xs:List V)(v:Value)(us:List Value)(Q:VK),eM X pins σ H s->fH x v->eu xs us->r x xs H Q->
  wpAny (model X.prog X.w) X.A (call (.builtin id) (v::us)) (EP X pins σ Q) X.xe s
section
variable {X:Cx}{a b:Expr}{ta tb:TE}{pos:Pos}
theorem uT(hr:NU X r)(ha:PE X a ta)(hb:PE X b tb)(hs:tS b):PE X (.Subscript a b pos) (dj r ta tb):=by intro pins s σ H Q I h;exact Subscript_ (Kg ha hb I h λv u s2 x y H2 I2 rx ry q=>hr a b pins s2 σ H2 x y v u Q I2 rx ry q (hs _ _))
inductive Ix(S:List V->Prop)(i:Int)(k:V->Prop):Prop
 | mk{xs:List V}{v:V}(h:S xs)(e:nC xs i=some v)(q:k v):Ix S i k
def fu(K:aA):R2:=λx y H Q=>onR x λp=>onI y λi=>Ix (eL K H p) i λv=>Q v H
def dy(K:aA):R2:=λx y H Q=>onR x λp=>onI y λi=>Ix (eD K H p) i λv=>Q v H
theorem GZ{S:Addr->List V->Prop}{x y:V}{k:V->Prop}(h:onR x λp=>onI y λi=>Ix (S p) i k):∃p xs i v,x=.ref p/\y=.int i/\S p xs/\nC xs i=some v/\k v:=by obtain⟨p,rfl,h1⟩:=onR.ex h;obtain⟨i,rfl,h2⟩:=onI.ex h1;obtain⟨h3,e,q⟩:=h2;exact⟨p,_,i,_,rfl,rfl,h3,e,q⟩
def E4:R2:=λx y H Q=>∃z i c,x=.str z/\y=.int i/\z.length<=sizeLine/\nC z.cps.toList i=some c/\Q (.str ⟨#[c]⟩) H
theorem Fc:NU X (fu X.K):=by
 intro value slice pins s σ H x y v u Q I rx ry h hs;obtain⟨p,xs,i,z,rfl,rfl,hq,he,q⟩:=GZ h;cases rx;obtain⟨t,rfl⟩:=ry;obtain⟨its,r,pl,hz⟩:=I.list hq;obtain⟨j,h1,h2,h3,h4,h5⟩:=tO he;obtain⟨w,ew,rw'⟩:=r.get h2;have hl:=r.length;have hn:=nY;have fk:EP X pins σ Q w s:=⟨z,H,I,rw',q⟩;by_cases h0:0<=i
 ·have hj:i.toNat=j:=by rw[seqIndex_of h0 h5]at h1;exact Option.some.inj h1
  exact item_listR pl.isList h0 (by lia) (by rw[hj];simpa using ew) fk hs
 ·have hj:(i+(its.toArray.size:Int)).toNat=j:=by rw[seqIndex_neg (by lia) h4]at h1;rw[aM,<-hl];exact Option.some.inj h1
  exact subscriptTail_builtinR (x:=w) pl.isList.typeIs slot_list_getitem.lookup
   (wpAny_getItem_list_neg (Q:=λr s'=>r=w/\EP X pins σ Q r s') pl.isList (by lia) (by rw[aM]<;>lia) (by lia) (by rw[hj];simpa using ew) ⟨rfl,fk⟩) hs
theorem KI:NU X (dy X.K):=by
 intro value slice pins s σ H x y v u Q I rx ry h hs;obtain⟨p,xs,i,z,rfl,rfl,hq,he,q⟩:=GZ h;cases rx;obtain⟨t,rfl⟩:=ry;obtain⟨its,r,pl,hz⟩:=I.tuple hq;obtain⟨j,h1,h2,h3,h4,h5⟩:=tO he;obtain⟨w,ew,rw'⟩:=r.get h2;have hl:=r.length;have hn:=nY;have fk:EP X pins σ Q w s:=⟨z,H,I,rw',q⟩;exact subscriptTail_builtinR (x:=w) pl.typeIs slot_tuple_getitem.lookup
  (getItem_tuple (j:=j) (Q:=λr s'=>r=w/\EP X pins σ Q r s') pl (by lia) (by lia) (by rw[aM,<-hl];exact h1) (by simpa using ew) ⟨rfl,fk⟩) hs
theorem wR:NU X E4:=by
 intro value slice pins s σ H x y v u Q I rx ry h hs;obtain⟨z,i,c,rfl,rfl,hz,he,q⟩:=h;obtain⟨t,rfl⟩:=rx;obtain⟨t',rfl⟩:=ry;obtain⟨j,h1,h2,h3,h4,h5⟩:=tO he;have hl:z.cps.toList.length=z.length:=by simp[Str.length]
 rw[hl]at h1 h4 h5;have hn:=nY;exact tail_any (typeIs_str s z t) slot_str_getitem.lookup (getItem_str (c:=c) (by
  have e1:decide (i < -(2^63:Int))=false:=decide_eq_false (by lia);have e2:decide (i>=2^63)=false:=decide_eq_false (by lia);rw[e1,e2,Bool.or_false]) (by rw[h1];simpa using h2) ⟨.str ⟨#[c]⟩,H,I.tok _,⟨_,rfl⟩,q⟩) hs
theorem wL(its:List Value)(n j:Nat)(u:Value):Obj.mapSeq (·.setIfInBounds j u) {cls:=.type "list",data:=.seq its.toArray n}={cls:=.type "list",data:=.seq (its.set j u).toArray n}:=by simp[Obj.mapSeq]
theorem eM.lst(I:eM X pins σ H s)(h:H p=some (.lst xs)):
  ∃(its:List Value)(n:Nat),eu xs its/\s.heap.get? p=some {cls:=.type "list",data:=.seq its.toArray n}/\xs.length<=sizeLine:=by
 obtain⟨z,its,n,r,e⟩:=I.hok p _ h;exact⟨its,n,r,e,z⟩
theorem eM.lstUpd{pins:List (Addr×Obj)}{σ:St}{H:Hp}{s:Shared}{p:Addr}{xs ys:List V}{its its':List Value}{n n':Nat}{f:Obj->Obj}(I:eM X pins σ H s)(h:H p=some (.lst xs))
  (ho:s.heap.get? p=some {cls:=.type "list",data:=.seq its.toArray n}) (hf:f {cls:=.type "list",data:=.seq its.toArray n}={cls:=.type "list",data:=.seq its'.toArray n'}) (r:eu ys its') (hz:ys.length<=sizeLine) (t:Nat):
  eM X pins σ (upd H p (.lst ys)) {s with heap:=s.heap.update p f,toks:=t}:=by
 have e:(s.heap.update p f).get? p=some {cls:=.type "list",data:=.seq its'.toArray n'}:=by rw[Heap.get?_update_self f ho (by rw[hf]<;>rfl),hf]
 refine I.write (x:=p) (e:=p) (by rw[h];trivial) (.inl rfl) (λb u hb q=>(Heap.get?_update_other _ _ (ac hb)).trans q) ⟨_,e⟩ ?_;exact⟨hz,its',n',r,e⟩
def B9:V->V->V->Hp->(Hp->Prop)->Prop:=λo i v H Q=>onR o λp=>onI i λk=>lM (λxs=>H p=some (.lst xs)) λxs=>lM (λj=>AS xs.length k=some j) λj=>Q (upd H p (.lst (xs.set j v)))
theorem uM:Mr X B9:=by
 intro pins s σ H o i v ov iv u Q I ro ri rv h;obtain⟨p,rfl,h⟩:=onR.ex h;obtain⟨k,rfl,h⟩:=onI.ex h;obtain @⟨xs,hp,h⟩:=h;obtain @⟨j,hj,q⟩:=h;cases ro;obtain⟨t,rfl⟩:=ri;obtain⟨its,n,r,ho,hz⟩:=I.lst hp;obtain⟨h1,h2,h3,h4⟩:=yM hj;have hl:=r.length;have hn:=nY;have I':eM X pins σ (upd H p (.lst (xs.set j v))) {s with heap:=s.heap.update p (Obj.mapSeq (·.setIfInBounds j u))}:=
  I.lstUpd hp ho (wL its n j u) (r.set rv j) (by rw[List.length_set];exact hz) s.toks
 by_cases h0:0<=k
 ·have hk:k.toNat=j:=by rw[seqIndex_of h0 h4]at h1;exact Option.some.inj h1
  exact PySem.W.ki_setAt ho h0 (by lia) (by rw[aM,<-hl];exact h4) (by rw[hk];exact⟨_,I',q⟩)
 ·have hk:(k+(its.toArray.size:Int)).toNat=j:=by rw[seqIndex_neg (by lia) h3]at h1;rw[aM,<-hl];exact Option.some.inj h1
  exact PySem.W.ki_setBack ho (by lia) (by rw[aM,<-hl];exact h3) (by lia) (by rw[hk];exact⟨_,I',q⟩)
theorem sD(lo hi:Option Int)(n:Nat):(sliceBounds lo hi none n).1=((HT.kG n 0 lo:Nat):Int)/\(sliceBounds lo hi none n).2.1=((HT.kG n n hi:Nat):Int)/\(sliceBounds lo hi none n).2.2=1:=by
 refine⟨?_,?_,rfl⟩
 ·cases lo with
  | none=>simp[sliceBounds,HT.kG]
  | some i=>
   simp only[sliceBounds,HT.kG,Option.getD_none,show(1:Int)>0 by decide,if_true];by_cases h:i<0
   ·simp only[h,if_true]<;>lia
   ·simp only[h,if_false]<;>lia
 ·cases hi with
  | none=>simp[sliceBounds,HT.kG]
  | some i=>
   simp only[sliceBounds,HT.kG,Option.getD_none,show(1:Int)>0 by decide,if_true];by_cases h:i<0
   ·simp only[h,if_true]<;>lia
   ·simp only[h,if_false]<;>lia
theorem qZ(its:List Value)(lo hi:Option Int):slicePick its.toArray lo hi none=((its.drop (HT.kG its.length 0 lo)).take (HT.kG its.length its.length hi-HT.kG its.length 0 lo)).toArray:=by obtain⟨h1,h2,h3⟩:=sD lo hi its.toArray.size;unfold slicePick;rw[h1,h2,h3];simp only[sliceRange_one,pick_run,aM]<;>rfl
def jX(K:aA):V->Option Int->Option Int->Hp->VK->Prop:=λx lo hi H Q=>onR x λa=>lM (eL K H a) λxs=>kL H (.lst (iJ xs lo hi)) Q
theorem gT:Dj X (jX X.K):=by intro pins s σ H x v vl vu lo hi sl Q I rx hs pl pu h;obtain⟨a,rfl,h⟩:=onR.ex h;obtain @⟨xs,hx,q⟩:=h;cases rx;obtain⟨its,r,ht,hz⟩:=I.list hx;have hlen:=r.length;refine⟨"list",_,slot_list_getitem.lookup,ht.isList.typeIs,?_⟩;refine wpAny_getItem_list_slice ht.isList hs pl pu .none (by simp) ?_ (by rw[aM]<;>lia);rw[qZ,<-hlen];refine⟨.ref s.heap.objs.size,_,I.laid (t':=s.toks) (o:=.lst (iJ xs lo hi)) (λb ob q=>Heap.get?_push_of_some _ q) (aC _) ?_,rfl,q _ (I.hok.fresh (aC _))⟩;exact⟨aP (oS xs lo hi) hz,_,0,(r.drop (HT.kG xs.length 0 lo)).take (HT.kG xs.length xs.length hi-HT.kG xs.length 0 lo),Heap.get?_push_size _ rfl⟩
def oR:V->Bool
 | .non=>true
 | .bl _=>true
 | .int _=>true
 | .str _=>true
 | _=>false
def Gg:V->V->Bool
 | .non,.non=>true
 | .bl a,.bl b=>a==b
 | .bl a,.int b=>(if a then 1 else 0)==b
 | .int a,.bl b=>a==(if b then 1 else 0)
 | .int a,.int b=>a==b
 | .str a,.str b=>a==b
 | _,_=>false
theorem KU(ry:fH y u)(rx:fH x v)(fy:oR y=true)(fx:oR x=true):SeqAt.EqAt A s u v (Gg y x):=by
 cases y with
 | non=>
  cases ry;cases x with
  | non=>cases rx;exact SeqAt.EqAt.same _
  | bl b=>cases rx;exact SeqAt.EqAt.none_bool b
  | int b=>obtain⟨t,rfl⟩:=rx;exact SeqAt.EqAt.none_int b t
  | str b=>obtain⟨t,rfl⟩:=rx;exact SeqAt.EqAt.none_str b t
  | _=>exact absurd (show false=true from fx) aR
 | bl a=>
  cases ry;cases x with
  | non=>cases rx;exact SeqAt.EqAt.bool_none a
  | bl b=>cases rx;exact SeqAt.EqAt.bool_bool a b
  | int b=>obtain⟨t,rfl⟩:=rx;exact SeqAt.EqAt.bool_int a b t
  | str b=>obtain⟨t,rfl⟩:=rx;exact SeqAt.EqAt.bool_str a b t
  | _=>exact absurd (show false=true from fx) aR
 | int a=>
  obtain⟨t',rfl⟩:=ry;cases x with
  | non=>cases rx;exact SeqAt.EqAt.int_none a t'
  | bl b=>cases rx;exact SeqAt.EqAt.int_bool a t' b
  | int b=>obtain⟨t,rfl⟩:=rx;exact SeqAt.EqAt.int_int a t' b t
  | str b=>obtain⟨t,rfl⟩:=rx;exact SeqAt.EqAt.int_str a t' b t
  | _=>exact absurd (show false=true from fx) aR
 | str a=>
  obtain⟨t',rfl⟩:=ry;cases x with
  | non=>cases rx;exact SeqAt.EqAt.str_none a t'
  | bl b=>cases rx;exact SeqAt.EqAt.str_bool a t' b
  | int b=>obtain⟨t,rfl⟩:=rx;exact SeqAt.EqAt.str_int a t' b t
  | str b=>obtain⟨t,rfl⟩:=rx;exact SeqAt.EqAt.str_str a t' b t
  | _=>exact absurd (show false=true from fx) aR
 | _=>exact absurd (show false=true from fy) aR
def Fk(x:V)(u:Value):Bool:=match u with
 | .none=>Gg .non x
 | .bool b=>Gg (.bl b) x
 | .int i _=>Gg (.int i) x
 | .str z _=>Gg (.str z) x
 | _=>false
theorem C8(r:fH y u)(f:oR y=true):Fk x u=Gg y x:=by
 cases y with
 | non=>cases r;rfl
 | bl b=>cases r;rfl
 | int i=>obtain⟨t,rfl⟩:=r;rfl
 | str z=>obtain⟨t,rfl⟩:=r;rfl
 | _=>exact absurd (show false=true from f) aR
theorem tP:∀{xs:List V}{us:List Value},eu xs us->xs.all oR=true->us.any (Fk x)=xs.any λy=>Gg y x
 | _,_,.nil,_=>rfl
 | y::xs,u::us,.cons r t,f=>by rw[List.all_cons,bT]at f;rw[bX,bX,C8 r f.1,tP t f.2]
theorem qF(rx:fH x v)(fx:oR x=true):∀{xs:List V}{us:List Value},eu xs us->xs.all oR=true->∀u∈us,SeqAt.EqAt A s u v (Fk x u)
 | _,_,.nil,_=>λu hu=>by cases hu
 | y::xs,u::us,.cons r t,f=>λu' hu=>by
  rw[List.all_cons,bT]at f;rcases aB.mp hu with rfl|hu
  ·rw[C8 r f.1];exact KU r rx f.1 fx
  ·exact qF rx fx t f.2 u' hu
def De(x:V)(xs:List V):Bool:=xs.any λy=>Gg y x
def Je(K:aA)(neg:Bool):R2:=λx y H Q=>onR y λp=>lM (λxs=>eL K H p xs∨eD K H p xs) λxs=>oR x=true/\xs.all oR=true/\Q (.bl (if neg then !De x xs else De x xs)) H
theorem jW:mM X (compareOp .In) (Je X.K false):=by
 intro pins s σ H x y v u Q I rx ry h;obtain⟨p,rfl,h⟩:=onR.ex h;obtain @⟨xs,hq,fx,fs,q⟩:=h;cases ry;rcases hq with hq|hq
 ·obtain⟨its,r,pl,hz⟩:=I.list hq;refine SeqAt.in_listAt (Fk x) pl.isList (λw hw=>qF rx fx r fs w (by simpa using hw)) ⟨.bl _,H,I,rfl,?_⟩;rw[show its.toArray.any (Fk x)=its.any (Fk x) by simp,tP r fs];exact q
 ·obtain⟨its,r,pl,hz⟩:=I.tuple hq;refine SeqAt.in_tupleAt (Fk x) pl (λw hw=>qF rx fx r fs w (by simpa using hw)) ⟨.bl _,H,I,rfl,?_⟩;rw[show its.toArray.any (Fk x)=its.any (Fk x) by simp,tP r fs];exact q
def ga(K:aA):List V->Hp->VK->Prop:=λxs H Q=>on1 xs λx=>onR x λp=>lM (λys=>eL K H p ys∨eD K H p ys) λys=>Q (.int ys.length) H
theorem tK:kS X (.builtin "len") (ga X.K):=by
 intro pins s σ H xs us Q I r h;obtain⟨_,rfl,h⟩:=on1.ex h;obtain⟨p,rfl,h⟩:=onR.ex h;obtain @⟨ys,hq,q⟩:=h;obtain⟨u,rfl,rx⟩:=km r;cases rx;have hn:=nY;rcases hq with hq|hq
 ·obtain⟨its,r',pl,hz⟩:=I.list hq;have hlen:=r'.length;exact Calls.call_len_list pl.isList (by simp only[aM]<;>lia) ⟨.int ys.length,H,I.tok _,⟨s.toks+1,by rw[aM,hlen]⟩,q⟩
 ·obtain⟨its,r',pl,hz⟩:=I.tuple hq;have hlen:=r'.length;exact len_tuple pl (by simp only[aM]<;>lia) ⟨.int ys.length,H,I.tok _,⟨s.toks+1,by rw[aM,hlen]⟩,q⟩
theorem jV:kS X (.builtin "len") (λxs H Q=>∃z,xs=[.str z]/\z.length<=sizeLine/\Q (.int z.length) H):=by intro pins s σ H xs us Q I r h;obtain⟨z,rfl,hz,q⟩:=h;obtain⟨u,rfl,t,rfl⟩:=km r;have hn:=nY;exact len_str (by lia) ⟨.int z.length,H,I.tok _,⟨_,rfl⟩,q⟩
def tL(K:aA):List V->Hp->VK->Prop:=λxs H Q=>on1 xs λx=>onR x λp=>lM (λys=>eL K H p ys∨eD K H p ys) λys=>kL H (.lst ys) Q
theorem mq:kS X (.type "list") (tL X.K):=by
 intro pins s σ H xs us Q I r h;obtain⟨_,rfl,h⟩:=on1.ex h;obtain⟨p,rfl,h⟩:=onR.ex h;obtain @⟨ys,hq,q⟩:=h;obtain⟨u,rfl,rx⟩:=km r;cases rx;have fk:∀(its:List Value),eu ys its->ys.length<=sizeLine->∀(h':Heap)(c':Nat),(∀b o',s.heap.get? b=some o'->h'.get? b=some o')->
   h'.get? s.heap.objs.size=some {cls:=.type "list",dict:=none,data:=.seq its.toArray c',slots:=#[]}->EP X pins σ Q (.ref s.heap.objs.size) {s with heap:=h'}:=λits r' hz h' c' kp e=>
  ⟨.ref s.heap.objs.size,_,I.laid (t':=s.toks) kp (aC _) (show gC X.prog X.w _ h' _ (.lst ys)from⟨hz,its,c',r',e⟩),rfl,q _ (I.hok.fresh (aC _))⟩
 rcases hq with hq|hq
 ·obtain⟨its,r',pl,hz⟩:=I.list hq;have hlen:=r'.length;obtain⟨o,ho,hc,n,hd⟩:=pl.isList;exact call_list_seq p (.inl rfl) ho hc hd (λh' c' kp e=>fk its r' hz h' c' kp e) (by simp only[aM]<;>lia)
 ·obtain⟨its,r',pl,hz⟩:=I.tuple hq;have hlen:=r'.length;obtain⟨o,ho,hc,n,hd⟩:=pl;exact call_list_seq p (.inr rfl) ho hc hd (λh' c' kp e=>fk its r' hz h' c' kp e) (by simp only[aM]<;>lia)
theorem mB:kS X (.type "tuple") (λxs H Q=>∃p ys,xs=[.ref p]/\((eL X.K H p ys/\∀l,H l=none->Q (.ref l) (upd H l (.tup ys)))∨(eD X.K H p ys/\Q (.ref p) H))):=by
 intro pins s σ H xs us Q I r h;obtain⟨p,ys,rfl,h⟩:=h;obtain⟨u,rfl,rx⟩:=km r;cases rx;rcases h with⟨hq,q⟩|⟨hq,q⟩
 ·obtain⟨its,r',pl,hz⟩:=I.list hq;have hlen:=r'.length;refine call_tuple_list pl.isList (λh' kp=>?_) (by simp only[aM]<;>lia);have I1:eM X pins σ H {s with heap:=h'}:=I.kept (t':=s.toks) kp;have I2:eM X pins σ (upd H h'.objs.size (.tup ys)) {s with heap:=h'.push {cls:=.type "tuple",data:=.seq its.toArray}}:=
   I1.laid (t':=s.toks) (λb o e=>Heap.get?_push_of_some _ e) (aC _) (show gC X.prog X.w _ _ _ (.tup ys)from⟨hz,its,r',IsTup.new _ _⟩)
  exact⟨.ref h'.objs.size,_,I2,rfl,q _ (I1.hok.fresh (aC _))⟩
 ·obtain⟨its,r',pl,hz⟩:=I.tuple hq;exact call_tuple_same pl ⟨.ref p,H,I,rfl,q⟩
def NY(K:aA)(T:String)(x:V)(H:Hp):Prop:=match x with
 | .str _=>T="str"
 | .int _=>T="int"
 | .ref p=>(T="list"/\∃xs,eL K H p xs)∨(T="tuple"/\∃o,K.lookup p=some o/\o.cls=.type "tuple"/\o.dict=none)∨
   (T="dict"/\((∃kvs,H p=some (.dK kvs))∨∃kvs,H p=some (.dT kvs)))∨(T="set"/\∃S n,H p=some (.set S n))
 | _=>False
theorem Ab(I:eM X pins σ H s)(r:fH x v)(ty:NY X.K T x H):
  s.TypeIs v T/\∀a,v=.ref a->∃ob,s.heap.get? a=some ob/\ob.dict=none:=by
 cases x with
 | str z=>obtain⟨t,rfl⟩:=r;cases(show T="str" from ty);exact⟨typeIs_str s z t,λ_ e=>nomatch e⟩
 | int i=>obtain⟨t,rfl⟩:=r;cases(show T="int" from ty);exact⟨typeIs_int s i t,λ_ e=>nomatch e⟩
 | ref p=>
  cases r;rcases ty with⟨rfl,xs,hq⟩|⟨rfl,o,hk,hc,hd⟩|⟨rfl,hk⟩|⟨rfl,S,n,hk⟩
  ·obtain⟨its,_,pl,_⟩:=I.list hq;refine⟨pl.isList.typeIs,λa e=>?_⟩;cases e;obtain⟨o,n,e,c,hd,_⟩:=pl;exact⟨o,e,hd⟩
  ·refine⟨⟨o,I.kIn p o hk,hc⟩,λa e=>?_⟩;cases e;exact⟨o,I.kIn _ o hk,hd⟩
  ·have z:∃o,s.heap.get? p=some o/\o.ExactDict:=by
    rcases hk with⟨kvs,hk⟩|⟨kvs,hk⟩
    ·obtain⟨_,_,_,_,o,_,_,e,ex,_⟩:=I.hok p _ hk;exact⟨o,e,ex⟩
    ·obtain⟨_,_,_,_,o,_,_,e,ex,_⟩:=I.hok p _ hk;exact⟨o,e,ex⟩
   obtain⟨o,e,ex⟩:=z;refine⟨⟨o,e,ex.1⟩,λa e2=>?_⟩;cases e2;exact⟨o,e,ex.2.1⟩
  ·obtain⟨o,_,_,_,e,ex,_⟩:=I.hok p _ hk;refine⟨⟨o,e,ex.1⟩,λa e2=>?_⟩;cases e2;exact⟨o,e,ex.2.1⟩
 | _=>exact False.elim ty
def jG(K:aA)(T:String)(r:V->List V->Hp->VK->Prop)(to:TE):TE:=λσ H Q=>to σ H λx H1=>NY K T x H1/\r x [] H1 Q
def iW(K:aA)(T:String)(r:V->List V->Hp->VK->Prop)(to:TE)(t:TA):TE:=λσ H Q=>to σ H λx H1=>NY K T x H1/\t σ H1 λxs H2=>r x xs H2 Q
variable {o e:Expr}{es:List Expr}{to:TE}{t:TA}{name:Str}{apos cpos:Pos}{T id:String}{r:V->List V->Hp->VK->Prop}
theorem Jk(pa:PlainAttrs T)(slot:Slot T name id)(hty:typeOf (.builtin id)=pure (.type "method_descriptor"))(hm:QW X id r)(ho:PE X o to)
  (hbase:attributeBase o name X.env (eval o X.env)=eval o X.env:=by rfl) (hline:(apos.endLine==cpos.line)=true:=by rfl):PE X (.Call (.Attribute o name apos) [] [] cpos) (jG X.K T r to):=by
 intro pins s σ H Q I h;refine wpAny_Call_method0_late hbase hline (thn (ho pins s σ H _ I h) λv s1 hz=>?_);obtain⟨x,H1,I1,r1,ty,q1⟩:=hz;obtain⟨h1,h2⟩:=Ab I1 r1 ty;exact⟨T,id,pa,slot,hty,h1,h2,Calls.callWith_builtin rfl (PySem.evalArgs_none (hm pins s1 σ H1 x [] v [] Q I1 r1 .nil q1))⟩
theorem uV(pa:PlainAttrs T)(slot:Slot T name id)(hty:typeOf (.builtin id)=pure (.type "method_descriptor"))(hm:QW X id r)(ho:PE X o to)(ha:PA X (e::es) t)
  (hbase:attributeBase o name X.env (eval o X.env)=eval o X.env:=by rfl)
  (hfew:((backTo cpos (starEach (e::es) X.env)).all (λx=>!x.1)&&(backToKw cpos (keywordEach [] X.env)).all (λx=>x.1.isSome)
   && decide ((e::es).length+([]:List Keyword).length+(if([]:List Keyword).isEmpty then 0 else 1)<30))=true:=by rfl)
  (hline:(apos.endLine==cpos.line)=true:=by rfl) (hs:starEach (e::es) X.env=(false,eval e X.env)::starEach es X.env:=by rfl) (hplain:(backTo cpos (starEach es X.env)).any (·.1)=false:=by rfl):
  PE X (.Call (.Attribute o name apos) (e::es) [] cpos) (iW X.K T r to t):=by
 intro pins s σ H Q I h;refine wpAny_Call_method_late hbase hfew hline rfl (thn (ho pins s σ H _ I h) λv s1 hz=>?_);obtain⟨x,H1,I1,r1,ty,q1⟩:=hz;obtain⟨h1,h2⟩:=Ab I1 r1 ty;refine⟨T,id,pa,slot,hty,h1,h2,?_⟩;have hA:=ha cpos pins s1 σ H1 _ I1 q1;rw[hs]at hA⊢;refine Calls.callWith_builtin (by show(false||(backTo cpos (starEach es X.env)).any (·.1))=false;rw[hplain]<;>rfl) (Calls.evalArgs_plain ?_);exact thn hA λus s2 ⟨vs,H2,I2,r2,q2⟩=>hm pins s2 σ H2 x vs v us Q I2 r1 r2 q2
end
def NS(X:Cx)(id:String)(r:V->List V->Hp->VK->Prop):Prop:=
 ∀(pins:List (Addr×Obj))(s:Shared)(σ:St)(H:Hp)(x:V)(xs:List V)(v:Value)(us:List Value)(Q:VK),eM X pins σ H s->fH x v->eu xs us->r x xs H Q->
  wpAny (model X.prog X.w) X.A (call (.builtin id) (v::us)) (EP X pins σ Q) X.xe s
theorem eu.one{x:V}{us:List Value}(h:eu [x] us):∃u,us=[u]/\fH x u:=by cases h with|cons r h=>cases h;exact⟨_,rfl,r⟩
theorem eu.two{x y:V}{us:List Value}(h:eu [x,y] us):∃u v,us=[u,v]/\fH x u/\fH y v:=by cases h with|cons r h=>cases h with|cons q h=>cases h;exact⟨_,_,rfl,r,q⟩
theorem eu.zero:∀{us:List Value},eu [] us->us=[]
 | _,.nil=>rfl
theorem eu.dropLast(h:eu xs us):eu xs.dropLast us.dropLast:=by
 induction h with
 | nil=>exact .nil
 | cons r t ih=>
  cases t with
  | nil=>exact .nil
  | cons q t'=>exact .cons r ih
theorem wc(l:List α):l.eraseIdx (l.length-1)=l.dropLast:=by
 induction l with
 | nil=>rfl
 | cons a r ih=>
  cases r with
  | nil=>rfl
  | cons b r=>
   have e:(a::b::r).length-1=((b::r).length-1)+1:=by have h1:(a::b::r).length=r.length+2:=rfl;have h2:(b::r).length=r.length+1:=rfl;lia
   rw[e,List.eraseIdx_cons_succ,ih]
   all_goals rfl
section
variable {X:Cx}{pins:List (Addr×Obj)}{σ:St}{H:Hp}{s:Shared}{l b:Addr}{xs ys zs:List V}
theorem eM.lset{its its':List Value}{n:Nat}{f:Array Value->Array Value}{t':Nat}(I:eM X pins σ H s)(hH:H l=some (.lst xs))
  (e:s.heap.get? l=some {cls:=.type "list",data:=.seq its.toArray n}) (hf:f its.toArray=its'.toArray) (hv:eu ys its') (hz:ys.length<=sizeLine):
  eM X pins σ (upd H l (.lst ys)) {s with heap:=s.heap.update l (Obj.mapSeq f),toks:=t'}:=by
 have q:=PySem.IsL.update e f;rw[hf]at q;refine I.write (x:=l) (e:=l) (by rw[hH];exact trivial) (.inl rfl) (λb' u hb hu=>(Heap.get?_update_other s.heap (Obj.mapSeq f) (ac hb)).trans hu) ⟨_,q⟩ ?_;exact⟨hz,its',_,hv,q⟩
theorem eM.lnew(I:eM X pins σ H s)(hv:eu ys its)(hz:ys.length<=sizeLine):
  eM X pins σ (upd H s.heap.objs.size (.lst ys)) {s with heap:=s.heap.push {cls:=.type "list",data:=.seq its.toArray},toks:=t'}:=
 I.laid (λ_ _ q=>Heap.get?_push_of_some _ q) (aC _) ⟨hz,its,0,hv,Heap.get?_push_size _ rfl⟩
theorem eM.fresh(I:eM X pins σ H s):H s.heap.objs.size=none:=I.hok.fresh (aC _)
theorem eM.lstM(I:eM X pins σ H s)(hH:H l=some (.lst xs)):xs.length<=sizeLine/\∃(its:List Value)(n:Nat),eu xs its/\xs.length=its.length/\s.heap.get? l=some {cls:=.type "list",data:=.seq its.toArray n}:=by obtain⟨z,its,n,r,e⟩:=I.hok l _ hH;exact⟨z,its,n,r,r.length,e⟩
theorem uZ(h:n<=sizeLine):Builtin.List.listTooLong n=false:=by unfold Builtin.List.listTooLong;exact decide_eq_false (by lia)
end
section
variable {X:Cx}
def eE:V->List V->Hp->VK->Prop:=λx vs H Q=>onR x λl=>on1 vs λy=>lM (λxs=>H l=some (.lst xs)) λxs=>xs.length<sizeLine/\Q .non (upd H l (.lst (xs++[y])))
theorem zp:NS X "list.append" eE:=by intro pins s σ H x vs v us Q I rx rv h;obtain⟨l,rfl,h⟩:=onR.ex h;obtain⟨y,rfl,h⟩:=on1.ex h;obtain @⟨xs,hH,hz,q⟩:=h;cases rx;obtain⟨u,rfl,ru⟩:=rv.one;obtain⟨z,its,n,r,hl,e⟩:=I.lstM hH;refine call_meets F.slot_list_append ⟨_,e,rfl⟩ F.entry_list_append (F.args_list_append_2 _ _) (PySem.list_append l its.toArray n u (by rw[aM];lia)) ⟨e,?_⟩;refine⟨.non,_,I.lset (its':=its++[u]) hH e (by simp) (r.append (.cons ru .nil)) ?_,rfl,q⟩;rw[aE,a5];lia
def mZ:V->List V->Hp->VK->Prop:=λx vs H Q=>∃l b xs zs,x=.ref l/\vs=[.ref b]/\H l=some (.lst xs)/\H b=some (.lst zs)/\xs.length+zs.length<=sizeLine/\Q .non (upd H l (.lst (xs++zs)))
theorem nX:NS X "list.extend" mZ:=by
 intro pins s σ H x vs v us Q I rx rv h;obtain⟨l,b,xs,zs,rfl,rfl,hH,hB,hz,q⟩:=h;cases rx;obtain⟨u,rfl,ru⟩:=rv.one;cases ru;obtain⟨z,its,n,r,hl,e⟩:=I.lstM hH;obtain⟨z2,its2,n2,r2,hl2,e2⟩:=I.lstM hB;have hsz:its.toArray.size+its2.toArray.size<=sizeLine:=by rw[aM,aM];lia
 have hlong:¬(!its.toArray.isEmpty&&Builtin.List.listTooLong (its.toArray.size+its2.toArray.size))=true:=by rw[uZ hsz,Bool.and_false];exact aR
 refine call_meets F.slot_list_extend ⟨_,e,rfl⟩ F.entry_list_extend (F.args_list_extend_2 _ _)
  (AutoSeq1.list_extend_list_list_0 l its.toArray n b its2.toArray n2 hlong (by rw[aM];lia) (by lia)) ⟨e,e2,?_⟩
 refine⟨.non,_,I.lset (its':=its++its2) hH e (by simp) (r.append r2) ?_,rfl,q⟩;rw[aE];lia
def jH:V->List V->Hp->VK->Prop:=λx vs H Q=>onR x λl=>on0 vs (lM (λxs=>H l=some (.lst xs)) λxs=>lM (λy=>xs[xs.length-1]?=some y) λy=>Q y (upd H l (.lst xs.dropLast)))
theorem J8:NS X "list.pop" jH:=by
 intro pins s σ H x vs v us Q I rx rv h;obtain⟨l,rfl,h⟩:=onR.ex h;obtain⟨rfl,h⟩:=on0.ex h;obtain @⟨xs,hH,h⟩:=h;obtain @⟨y,hy,q⟩:=h;cases rx;have hus:=rv.zero;subst hus;obtain⟨z,its,n,r,hl,e⟩:=I.lstM hH;obtain⟨u,hu,ru⟩:=r.get hy;have hy':its.toArray[its.toArray.size-1]?=some u:=by show its.toArray[its.length-1]?=some u;rw[<-cP,<-hl];exact hu
 refine call_meets F.slot_list_pop ⟨_,e,rfl⟩ F.entry_list_pop (F.args_list_pop_1 _) (MeetsSeq.list_pop_last l its.toArray n u hy' (by rw[aM];lia)) ⟨e,?_⟩;refine⟨y,_,I.lset (its':=its.dropLast) hH e ?_ r.dropLast ?_,ru,q⟩
 ·show its.toArray.eraseIdxIfInBounds (its.toArray.size-1)=its.dropLast.toArray;rw[aM,List.eraseIdxIfInBounds_toArray,wc]
 ·rw[List.length_dropLast];lia
def nN:R2:=λx y H Q=>onR x λl=>onR y λb=>lM (λxs=>H l=some (.lst xs)) λxs=>lM (λzs=>H b=some (.lst zs)) λzs=>xs.length+zs.length<=sizeLine/\kL H (.lst (xs++zs)) Q
theorem jr:mM X (binaryOp .Add) nN:=by
 intro pins s σ H x y v u Q I rx ry h;obtain⟨l,rfl,h⟩:=onR.ex h;obtain⟨b,rfl,h⟩:=onR.ex h;obtain @⟨xs,hH,h⟩:=h;obtain @⟨zs,hB,hz,q⟩:=h;cases rx;cases ry;obtain⟨z,its,n,r,hl,e⟩:=I.lstM hH;obtain⟨z2,its2,n2,r2,hl2,e2⟩:=I.lstM hB;refine PySem.P.add_list e e2 ?_ (by rw[aM,aM];lia);have ea:its.toArray++its2.toArray=(its++its2).toArray:=by simp
 rw[ea];exact⟨.ref _,_,I.lnew (t':=s.toks) (r.append r2) (by rw[aE];lia),rfl,q _ I.fresh⟩
end
section
variable {prog:Program}{w:World}{A:Around}{E:Value->Shared->Prop}{s:Shared}
end
section
variable {X:Cx}
end
section
variable {κ:Type}[DecidableEq κ]
def fP(kvs:List (κ×V))(k:κ):Option V:=(kvs.find? λkv=>decide (kv.1=k)).map (·.2)
def fh(kvs:List (κ×V))(k:κ)(v:V):List (κ×V):=
 if(kvs.any λkv=>decide (kv.1=k))=true then kvs.map (λkv=>if kv.1=k then(kv.1,v)else kv)else kvs++[(k,v)]
theorem AZ:fP ([]:List (κ×V)) k=none:=rfl
theorem fX{p:κ×V}{r:List (κ×V)}{k:κ}(e:p.1=k):fP (p::r) k=some p.2:=by simp[fP,bM,e]
theorem fY{p:κ×V}{r:List (κ×V)}{k:κ}(e:¬p.1=k):fP (p::r) k=fP r k:=by simp[fP,bM,e]
theorem jD(k:κ):∀kvs:List (κ×V),(kvs.any λkv=>decide (kv.1=k))=(fP kvs k).isSome
 | []=>rfl
 | p::r=>by
  rw[bX];by_cases e:p.1=k
  ·simp only[fX e,decide_eq_true e,Bool.true_or,Option.isSome_some]
  ·rw[fY e,decide_eq_false e,Bool.false_or];exact jD k r
theorem tw(k j:κ)(y:V):∀kvs:List (κ×V),fP (kvs.map λkv=>if kv.1=k then(kv.1,y)else kv) j=(fP kvs j).map λx=>if j=k then y else x
 | []=>rfl
 | p::r=>by
  have ih:=tw k j y r;rw[aV];by_cases h:p.1=k
  ·rw[if_pos h];by_cases e:p.1=j
   ·rw[fX (p:=(p.1,y)) e,fX e,bY,if_pos (e.symm.trans h)]
   ·rw[fY (p:=(p.1,y)) e,fY e,ih]
  ·rw[if_neg h];by_cases e:p.1=j
   ·rw[fX (p:=p) e,fX e,bY,if_neg (λz=>h (e.trans z))]
   ·rw[fY (p:=p) e,fY e,ih]
theorem qi(k j:κ)(y:V):∀kvs:List (κ×V),fP kvs k=none->fP (kvs++[(k,y)]) j=if j=k then some y else fP kvs j
 | [],_=>by
  by_cases e:k=j
  ·rw[if_pos e.symm];exact fX (p:=(k,y)) e
  ·rw[if_neg (λz=>e z.symm)];exact fY (p:=(k,y)) e
 | p::r,hn=>by
  rw[aN];have hk:¬p.1=k:=λz=>by rw[fX z]at hn;cases hn
  rw[fY hk]at hn;have ih:=qi k j y r hn;by_cases e:p.1=j
  ·rw[fX e,fX e,if_neg (λz=>hk (e.trans z))]
  ·rw[fY e,fY e,ih]
theorem mP(kvs:List (κ×V))(k j:κ)(y:V):fP (fh kvs k y) j=if j=k then some y else fP kvs j:=by
 unfold fh;by_cases a:(kvs.any λkv=>decide (kv.1=k))=true
 ·rw[if_pos a,tw];rw[jD]at a;by_cases e:j=k
  ·obtain⟨x,hx⟩:=cp.mp a;rw[if_pos e,e,hx,bY,if_pos rfl]
  ·rw[if_neg e];cases fP kvs j with
   | none=>rfl
   | some x=>rw[bY,if_neg e]
 ·rw[if_neg a];refine qi k j y kvs ?_;rw[jD]at a;cases q:fP kvs k with
  | none=>rfl
  | some x=>rw[q]at a;exact(a rfl).elim
theorem gG(kvs:List (κ×V))(k:κ)(v:V):(fh kvs k v).length<=kvs.length+1:=by
 unfold fh;split
 ·rw[aO];lia
 ·rw[aE,aD,am];lia
theorem qC{kvs:List (κ×V)}{k:κ}(v:V)(h:fP kvs k=none):fh kvs k v=kvs++[(k,v)]:=by unfold fh;rw[jD,h];exact if_neg (by decide)
theorem k7.isSome_eq(r:k7 o u):o.isSome=u.isSome:=by
 cases o with
 | none=>cases u with
  | none=>rfl
  | some _=>exact(show False from r).elim
 | some _=>cases u with
  | none=>exact(show False from r).elim
  | some _=>rfl
theorem k7.getD(r:k7 o u)(rd:fH d d'):fH (o.getD d) (u.getD d'):=by
 cases o with
 | none=>cases u with
  | none=>exact rd
  | some _=>exact(show False from r).elim
 | some _=>cases u with
  | none=>exact(show False from r).elim
  | some _=>exact r
theorem KV.val{kvs:List (κ×V)}{vs:List (κ×Value)}(r:KV kvs vs)(k:κ):k7 (fP kvs k) (valueAt vs k):=by
 unfold KV at r;induction r with
 | nil=>exact aI
 | @cons p q ps qs h t ih=>
  obtain⟨h1,h2⟩:=h;by_cases e:p.1=k
  ·have e':q.1=k:=h1.symm.trans e;have b:valueAt (q::qs) k=some q.2:=by simp[valueAt,bM,e']
   rw[fX e,b];exact h2
  ·have e':¬q.1=k:=λz=>e (h1.trans z);have b:valueAt (q::qs) k=valueAt qs k:=by simp[valueAt,bM,e']
   rw[fY e,b];exact ih
theorem KV.any(r:KV kvs vs)(k:κ):(kvs.any λkv=>decide (kv.1=k))=vs.any λkv=>decide (kv.1=k):=by
 unfold KV at r;induction r with
 | nil=>rfl
 | cons h t ih=>rw[bX,bX,ih,h.1]
theorem KV.repl(r:KV kvs vs)(k:κ)(ry:fH y u):
  KV (kvs.map λkv=>if kv.1=k then(kv.1,y)else kv) (vs.map λkv=>if kv.1=k then(kv.1,u)else kv):=by
 unfold KV at r⊢;induction r with
 | nil=>exact .nil
 | @cons p q ps qs h t ih=>
  rw[aV,aV];refine .cons ?_ ih;obtain⟨h1,h2⟩:=h;by_cases e:p.1=k
  ·rw[if_pos e,if_pos (h1.symm.trans e)];exact⟨h1,ry⟩
  ·rw[if_neg e,if_neg (λz=>e (h1.trans z))];exact⟨h1,h2⟩
theorem KV.put(r:KV kvs vs)(k:κ)(ry:fH y u):KV (fh kvs k y) (stored vs k u):=by
 unfold fh stored;rw[r.any k];by_cases e:(vs.any λkv=>decide (kv.1=k))=true
 ·rw[if_pos e,if_pos e];exact r.repl k ry
 ·rw[if_neg e,if_neg e];exact Paired.snoc r ⟨rfl,ry⟩
theorem KV.keys{kvs:List (κ×V)}{vs:List (κ×Value)}(r:KV kvs vs):kvs.map (·.1)=vs.map (·.1):=by
 unfold KV at r;induction r with
 | nil=>rfl
 | cons h t ih=>rw[aV,aV,ih,h.1]
theorem KV.length(r:KV kvs vs):kvs.length=vs.length:=Paired.length r
end
theorem qI(r:fH (kV k) u):(gJ P w).is k u=true:=by
 cases k with
 | inl i=>obtain⟨t,e⟩:=(show ∃t,u=Value.int i t from r);subst e;exact ue P w i t
 | inr x=>obtain⟨t,e⟩:=(show ∃t,u=Value.str x t from r);subst e;exact ud P w x t
theorem q8:∀{ks:List fB}{us:List Value},eu (ks.map kV) us->ItemsAre (gJ P w) ks us
 | [],_,r=>by rw[bA]at r;cases r;exact .nil
 | k::ks,_,r=>by
  rw[aV]at r;cases r with
  | cons h t=>exact .cons (qI h) (q8 t)
abbrev KT(H:Hp):List (List fB×V)->List (List fB×Addr×Value)->Prop:=Paired λp q=>p.1=q.1/\H q.2.1=some (.tup (p.1.map kV))/\fH p.2 q.2.2
theorem KT.val{H:Hp}{kvs:List (List fB×V)}{xs:List (List fB×Addr×Value)}(r:KT H kvs xs)(k:List fB):k7 (fP kvs k) ((atKey xs k).map (·.2)):=by
 induction r with
 | nil=>exact aI
 | @cons p q ps qs h t ih=>
  obtain⟨h1,_,h2⟩:=h;by_cases e:p.1=k
  ·have e':q.1=k:=h1.symm.trans e;have b:atKey (q::qs) k=some q.2:=by simp[atKey,bM,e']
   rw[fX e,b];exact h2
  ·have e':¬q.1=k:=λz=>e (h1.trans z);have b:atKey (q::qs) k=atKey qs k:=by simp[atKey,bM,e']
   rw[fY e,b];exact ih
theorem KT.repl(r:KT H kvs xs)(k:List fB)(ry:fH y u):
  KT H (kvs.map λkv=>if kv.1=k then(kv.1,y)else kv) (xs.map (putAt k u)):=by
 induction r with
 | nil=>exact .nil
 | @cons p q ps qs h t ih=>
  rw[aV,aV];refine .cons ?_ ih;obtain⟨h1,h2,h3⟩:=h;unfold putAt;by_cases e:p.1=k
  ·rw[if_pos e,if_pos (h1.symm.trans e)];exact⟨h1,h2,ry⟩
  ·rw[if_neg e,if_neg (λz=>e (h1.trans z))];exact⟨h1,h2,h3⟩
theorem KT.put(r:KT H kvs xs)(k:List fB)(hb:H b=some (.tup (k.map kV)))(ry:fH y u):
  KT H (fh kvs k y) (storedH xs k b u):=by
 have e:(kvs.any λkv=>decide (kv.1=k))=(atKey xs k).isSome:=by rw[jD,(r.val k).isSome_eq,cQ]
 unfold fh storedH;rw[e];by_cases q:(atKey xs k).isSome=true
 ·rw[if_pos q,if_pos q];exact r.repl k ry
 ·rw[if_neg q,if_neg q];exact Paired.snoc r ⟨rfl,hb,ry⟩
theorem KT.keeps(r:KT H kvs xs)(ht:∀b ys,H b=some (.tup ys)->H' b=some (.tup ys)):KT H' kvs xs:=
 Paired.mapP r λ_ _ z=>⟨z.1,ht _ _ z.2.1,z.2.2⟩
section
variable {P:Program}{w:World}{H:Hp}{h:Heap}{a:Addr}
theorem GN(ok:lL P w H h)(e:Rd H a u):gC P w H h a u:=e.ok ok
theorem l8(ok:lL P w H h)(e:Rd H a (.dK kvs)):kvs.length<=sizeLine/\(a==sysModules)=false/\∃vs,KV kvs vs/\h.DictOf (gJ P w) a vs:=
 show gC P w H h a (.dK kvs)from GN ok e
theorem Gh(ok:lL P w H h)(e:H a=some (.dK kvs)):kvs.length<=sizeLine/\(a==sysModules)=false/\∃vs,KV kvs vs/\h.DictOf (gJ P w) a vs:=l8 ok (.inl e)
theorem nh(ok:lL P w H h)(e:H a=some (.tup (ks.map kV))):(tupleKind (gJ P w)).is h ks a:=by obtain⟨_,its,r,o,h1,h2,n,h3⟩:=(show gC P w H h a (.tup (ks.map kV))from ok a _ e);exact⟨o,its.toArray,n,h1,h2,h3,by simpa using q8 r⟩
theorem qM(ok:lL P w H h)(e:Rd H a (.dT kvs)):kvs.length<=sizeLine/\(a==sysModules)=false/\
  ∃xs,KT H kvs xs/\h.DictOfH (tupleKind (gJ P w)) a xs:=by
 obtain⟨z,y,xs,r,o,es,ep,h1,h2,h3,h4,h5⟩:=(show gC P w H h a (.dT kvs)from GN ok e);refine⟨z,y,xs,r,o,es,ep,h1,h2,h3,h4,λx hx=>?_,h5⟩;have all:∀{l:List (List fB×V)}{m:List (List fB×Addr×Value)},KT H l m->∀x∈m,(tupleKind (gJ P w)).is h x.1 x.2.1:=by
  intro l m q;induction q with
  | nil=>intro x hx;exact nomatch hx
  | @cons p q ps qs hq t ih=>
   intro x hx;rcases aB.mp hx with e|hx
   ·subst e;exact nh ok (by rw[<-hq.1];exact hq.2.1)
   ·exact ih x hx
 exact all r x hx
theorem Mc(ok:lL P w H h)(e:H a=some (.dT kvs)):kvs.length<=sizeLine/\(a==sysModules)=false/\
  ∃xs,KT H kvs xs/\h.DictOfH (tupleKind (gJ P w)) a xs:=qM ok (.inl e)
end
def iR(H:Hp)(a:Addr)(y:V)(r:Option V):Prop:=
 (∃kvs k,Rd H a (.dK kvs)/\y=kV k/\r=fP kvs k)∨∃kvs k b,Rd H a (.dT kvs)/\y=.ref b/\H b=some (.tup (k.map kV))/\r=fP kvs k
def lO(H:Hp)(a:Addr)(y v:V)(H':Hp):Prop:=
 (∃kvs k,H a=some (.dK kvs)/\y=kV k/\kvs.length<sizeLine/\H'=upd H a (.dK (fh kvs k v)))∨
 ∃kvs k b,H a=some (.dT kvs)/\y=.ref b/\H b=some (.tup (k.map kV))/\kvs.length<sizeLine/\H'=upd H a (.dT (fh kvs k v))
theorem iR.k{H:Hp}{a:Addr}{kvs:List (fB×V)}{k:fB}(e:H a=some (.dK kvs)):iR H a (kV k) (fP kvs k):=.inl ⟨kvs,k,.inl e,rfl,rfl⟩
theorem lO.k{H:Hp}{a:Addr}{kvs:List (fB×V)}{k:fB}{v:V}(e:H a=some (.dK kvs))(hl:kvs.length<sizeLine):lO H a (kV k) v (upd H a (.dK (fh kvs k v))):=.inl ⟨kvs,k,e,rfl,hl,rfl⟩
section
variable {X:Cx}{pins:List (Addr×Obj)}{σ:St}{H:Hp}{s:Shared}{a:Addr}{y v:V}{u r:Value}{o:Option V}{A:Around}{E:Value->Shared->Prop}
theorem eM.big(I:eM X pins σ H s):sysModules<s.heap.objs.size:=by have h:mainGlobals<s.heap.objs.size:=(I.mod.glob.keeps I.bk).lt;exact cR (by decide) h
theorem AH(hu:A.units+1<cLine)(I:eM X pins σ H s)(g:iR H a y (some v))(ry:fH y u)(h:∀w' s',eM X pins σ H s'->fH v w'->Q w' s'):
  wpAny (model X.prog X.w) A (getItem (.ref a) u) Q E s:=by
 rcases g with⟨kvs,k,e,ey,l⟩|⟨kvs,k,b,e,ey,eb,l⟩
 ·subst ey;obtain⟨z,hd,vs,rel,dd⟩:=l8 I.hok e;obtain⟨w',hw,rw'⟩:=k7.some_of (v:=v) (o:=valueAt vs k) (by rw[l];exact rel.val k);exact wpAny_getItem_of (qI ry) dd.mapOf hw (h w' _ (I.tok _) rw')
 ·subst ey;cases(show u=Value.ref b from ry);obtain⟨z,hd,xs,rel,dd⟩:=qM I.hok e;obtain⟨w',hw,rw'⟩:=k7.some_of (v:=v) (o:=(atKey xs k).map (·.2)) (by rw[l];exact rel.val k);obtain⟨p,hp,hp2⟩:=Option.map_eq_some_iff.mp hw;refine wpAny_getItem_heap (tupleKind_room_in1 hu) (nh I.hok eb) dd hp ?_;rw[hp2];exact h w' _ (I.tok _) rw'
theorem Ou(hu:A.units+1<cLine)(I:eM X pins σ H s)(g:iR H a y o)(ry:fH y u)(h:∀s',eM X pins σ H s'->Q (.bool o.isSome) s'):
  wpAny (model X.prog X.w) A (compareOp .In u (.ref a)) Q E s:=by
 rcases g with⟨kvs,k,e,ey,l⟩|⟨kvs,k,b,e,ey,eb,l⟩
 ·subst ey;obtain⟨z,hd,vs,rel,dd⟩:=l8 I.hok e;refine wpAny_in_of (qI ry) hd dd.mapOf ?_;rw[<-(rel.val k).isSome_eq,<-l];exact h _ (I.tok _)
 ·subst ey;cases(show u=Value.ref b from ry);obtain⟨z,hd,xs,rel,dd⟩:=qM I.hok e;refine wpAny_in_heap (tupleKind_room_in1 hu) (nh I.hok eb) hd dd ?_;have q:=(rel.val k).isSome_eq;rw[cQ]at q;rw[<-q,<-l];exact h _ (I.tok _)
theorem Fn(hu:A.units+1<cLine)(I:eM X pins σ H s)(g:iR H a y o)(ry:fH y u)(h:∀s',eM X pins σ H s'->Q (.bool (!o.isSome)) s'):
  wpAny (model X.prog X.w) A (compareOp .NotIn u (.ref a)) Q E s:=by
 rcases g with⟨kvs,k,e,ey,l⟩|⟨kvs,k,b,e,ey,eb,l⟩
 ·subst ey;obtain⟨z,hd,vs,rel,dd⟩:=l8 I.hok e;refine wpAny_notIn_of (qI ry) hd dd.mapOf ?_;rw[<-(rel.val k).isSome_eq,<-l];exact h _ (I.tok _)
 ·subst ey;cases(show u=Value.ref b from ry);obtain⟨z,hd,xs,rel,dd⟩:=qM I.hok e;refine wpAny_notIn_heap (tupleKind_room_in1 hu) (nh I.hok eb) hd dd ?_;have q:=(rel.val k).isSome_eq;rw[cQ]at q;rw[<-q,<-l];exact h _ (I.tok _)
theorem tE(I:eM X pins σ H s)(mu:Mw (H a))(hs:Heap.SameBut a s.heap h')(he:∃q,h'.get? a=some q)(new:gC X.prog X.w (upd H a ob) h' a ob):
  eM X pins σ (upd H a ob) {s with heap:=h',toks:=t'}:=
 I.write (x:=a) (e:=a) mu (.inl rfl) (λb q hb z=>(hs.2 b hb).trans z) he new
theorem wk(z:kvs.length<=sizeLine)(hd:(a==sysModules)=false)(rel:KV kvs vs)(dd:h'.DictOf (gJ P w) a vs):
  gC P w H' h' a (.dK kvs):=⟨z,hd,vs,rel,dd⟩
theorem AG(hu:A.units+1<cLine)(I:eM X pins σ H s)(g:lO H a y v H')(ry:fH y u)(rv:fH v r)(h:∀s',eM X pins σ H' s'->Q () s'):
  wpAny (model X.prog X.w) A (setItem (.ref a) u r) Q E s:=by
 rcases g with⟨kvs,k,e,ey,l,eH⟩|⟨kvs,k,b,e,ey,eb,l,eH⟩
 ·subst ey eH;obtain⟨z,hd,vs,rel,dd⟩:=Gh I.hok e;have hz:vs.length<=sizeLine:=by rw[<-rel.length];exact z
  have hl:(fh kvs k v).length<=sizeLine:=by have:=gG kvs k v;lia
  refine wpAny_setItem_pairs (hsz:=hz) (qI ry) dd λh' dd' hs=>h _ ?_;have he:∃q,h'.get? a=some q:=let ⟨q,_,_,hq,_⟩:=dd';⟨q,hq⟩;exact tE I (by rw[e];exact aI) hs he (wk hl hd (rel.put k rv) dd')
 ·subst ey eH;cases(show u=Value.ref b from ry);obtain⟨z,hd,xs,rel,dd⟩:=Mc I.hok e;have hz:xs.length<=sizeLine:=by rw[<-Paired.length rel];exact z
  have hl:(fh kvs k v).length<=sizeLine:=by have:=gG kvs k v;lia
  refine wpAny_setItem_heap (hsz:=hz) (tupleKind_room_in1 hu) (nh I.hok eb) dd λh' dd' hs=>h _ ?_;obtain⟨q,es,ep,hq,h2,h3,h4,_,h5⟩:=dd';refine tE I (by rw[e];exact aI) hs ⟨q,hq⟩ ⟨hl,hd,_,(rel.put k eb rv).keeps λc ys ec=>?_,q,es,ep,hq,h2,h3,h4,h5⟩;rw[dY (fM ec e (λz=>nomatch z))];exact ec
end
section
variable {X:Cx}{pins:List (Addr×Obj)}{σ:St}{H:Hp}{s:Shared}{a:Addr}{kvs:List (fB×V)}{k:fB}{u:Value}{A:Around}{E:Value->Shared->Prop}
end
def Mv(i:Expr):Prop:=∀ov iv,subscripted i false ov iv=operate [ov,iv] (getItem ov iv)
theorem Ek{prog:Program}{w:World}{A:Around}{E:Value->Shared->Prop}{s:Shared}{env:Env}{value slice:Expr}{pos:Pos}{T id:String}{Q:Value->Shared->Prop}
  (hl:typeLookup (.type T) "__getitem__"=pure (some (.builtin id))) (hs:Mv slice)
  (h:wpAny (model prog w) A (eval value env) (λo s₁=>wpAny (model prog w) A (eval slice env) (λi s₂=>s₂.TypeIs o T/\wpAny (model prog w) A (getItem o i) Q E s₂) E s₁) E s):
  wpAny (model prog w) A (eval (.Subscript value slice pos) env) Q E s:=by
 refine Subscript_ (wpAny_mono h (λo s₁ h₁=>wpAny_mono h₁ (λi s₂ h₂=>?_) λ_ _ x=>x) λ_ _ x=>x);obtain⟨hT,h₂⟩:=h₂;unfold subscriptTail;refine wpAny_bind ?_;rw[getitemInPython_of_ne hT.not_modules];refine wpAny_bind (wpAny_specialOf hT hl ?_);have fk:wpAny (model prog w) A (subscripted slice false o i) (λr s₃=>wpAny (model prog w) A (letTemporaryGo value o r >>= λ_=>pure r) Q E s₃) E s₂:=by rw[hs o i];exact wpAny_operating (wpAny_mono h₂ (λr s₃ h₃=>wpAny_bind (wpAny_letTemporaryGo (wpAny_pure h₃))) λ_ _ x=>x)
 first
  | exact wpAny_pure (wpAny_bind fk)
  | exact wpAny_bind (wpAny_pure (wpAny_bind fk))
  | exact wpAny_bind fk
theorem uy(I:eM X pins σ H s)(g:iR H a y o):s.TypeIs (.ref a) "dict":=by
 rcases g with⟨kvs,k,e,_,_⟩|⟨kvs,k,b,e,_,_,_⟩
 ·obtain⟨_,_,vs,_,dd⟩:=l8 I.hok e;exact dd.typeIs
 ·obtain⟨_,_,xs,_,dd⟩:=qM I.hok e;exact dd.typeIs
def kC(td ty:TE):TE:=λσ H Q=>td σ H λx H1=>ty σ H1 λy H2=>onR x λa=>lM (λv=>iR H2 a y (some v)) λv=>Q v H2
def BR(ty td:TE):TE:=λσ H Q=>ty σ H λy H1=>td σ H1 λx H2=>onR x λa=>lM (λo=>iR H2 a y o) λo=>Q (.bl o.isSome) H2
def lQ(ty td:TE):TE:=λσ H Q=>ty σ H λy H1=>td σ H1 λx H2=>onR x λa=>lM (λo=>iR H2 a y o) λo=>Q (.bl (!o.isSome)) H2
def jl(td ty tv:TE):TS:=λD σ H=>tv σ H λv H1=>td σ H1 λx H2=>ty σ H2 λy H3=>onR x λa=>lM (λH4=>lO H3 a y v H4) λH4=>D.nx σ H4
section
variable {X:Cx}{o i e value:Expr}{pos pos' tpos:Pos}{td ty tv:TE}
theorem iL(hu:X.A.units+1<cLine)(ho:PE X o td)(hi:PE X i ty)(hs:Mv i):PE X (.Subscript o i pos) (kC td ty):=by intro pins s σ H Q I h;refine Ek PySem.F.slot_dict_getitem.lookup hs (thn (ho pins s σ H _ I h) λu s1 ⟨x,H1,I1,rx,q1⟩=>thn (hi pins s1 σ H1 _ I1 q1) λiv s2 hz=>?_);obtain⟨y,H2,I2,ry,q2⟩:=hz;obtain⟨a,rfl,q2⟩:=onR.ex q2;obtain @⟨v,g,q2⟩:=q2;obtain rfl:u=Value.ref a:=rx;exact⟨uy I2 g,AH hu I2 g ry λw' s3 I3 rw'=>⟨v,H2,I3,rw',q2⟩⟩
theorem sP(hu:X.A.units+1<cLine)(hi:PE X i ty)(ho:PE X o td):PC X .In i o (BR ty td):=by intro pins s σ H Q I h;refine thn (hi pins s σ H _ I h) λiv s1 ⟨y,H1,I1,ry,q1⟩=>thn (ho pins s1 σ H1 _ I1 q1) λu s2 hz=>?_;obtain⟨x,H2,I2,rx,q2⟩:=hz;obtain⟨a,rfl,q2⟩:=onR.ex q2;obtain @⟨ov,g,q2⟩:=q2;obtain rfl:u=Value.ref a:=rx;exact Ou hu I2 g ry λs3 I3=>⟨.bl ov.isSome,H2,I3,rfl,q2⟩
theorem kJ(hu:X.A.units+1<cLine)(hi:PE X i ty)(ho:PE X o td):PC X .NotIn i o (lQ ty td):=by intro pins s σ H Q I h;refine thn (hi pins s σ H _ I h) λiv s1 ⟨y,H1,I1,ry,q1⟩=>thn (ho pins s1 σ H1 _ I1 q1) λu s2 hz=>?_;obtain⟨x,H2,I2,rx,q2⟩:=hz;obtain⟨a,rfl,q2⟩:=onR.ex q2;obtain @⟨ov,g,q2⟩:=q2;obtain rfl:u=Value.ref a:=rx;exact Fn hu I2 g ry λs3 I3=>⟨.bl (!ov.isSome),H2,I3,rfl,q2⟩
theorem iA(hu:X.A.units+1<cLine)(ho:PE X o td)(hi:PE X i ty)(hv:PE X value tv)(hs:swapsWith value (some (.Subscript o i pos')) pos.line X.env=pure false):
  PS X (.Assign [.Subscript o i pos'] value pos) (jl td ty tv):=by
 intro pins s σ H D I h;refine wpAny_Assign_Subscript (thn (hv pins s σ H _ I h) λr s1 ⟨v,H1,I1,rv,q1⟩=>thn (ho pins s1 σ H1 _ I1 q1) λu s2 ⟨x,H2,I2,rx,q2⟩=>thn (hi pins s2 σ H2 _ I2 q2) λiv s3 hz=>?_) hs;obtain⟨y,H3,I3,ry,q3⟩:=hz;obtain⟨a,rfl,q3⟩:=onR.ex q3;obtain @⟨H4,g,q3⟩:=q3;obtain rfl:u=Value.ref a:=rx;exact AG hu I3 g ry rv λs4 I4=>⟨σ,H4,I4,q3⟩
end
theorem ux(h:Heap)(hb:sysModules<h.objs.size):gC P w H (h.push {cls:=.type "dict",data:=.dict #[]}) h.objs.size (.dK []):=
 ⟨aS _,beq_eq_false_iff_ne.mpr (ac (aJ hb)),[],.nil,Heap.DictOf.new h⟩
def iF:TE:=λ_ H Q=>kL H (.dK []) Q
section
variable {X:Cx}{pos:Pos}
theorem gX:PE X (.Dict [] [] pos) iF:=λpins s σ H Q I h=>
 wpAny_Dict_empty ⟨.ref s.heap.objs.size,_,I.laid (a:=s.heap.objs.size) (o:=.dK []) (t':=s.toks) (λ_ _ q=>Heap.get?_push_of_some _ q) (aC _) (ux s.heap I.big),rfl,h _ (I.hok.fresh (aC _))⟩
end
def vX:List (TE×TE)->St->Hp->(List (V×V)->Hp->Prop)->Prop
 | [],_,H,Q=>Q [] H
 | (tk,tv)::r,σ,H,Q=>tk σ H λx H1=>tv σ H1 λy H2=>vX r σ H2 λps H3=>Q ((x,y)::ps) H3
abbrev VV:List (V×V)->List (Value×Value)->Prop:=Paired λp q=>fH p.1 q.1/\fH p.2 q.2
def NQ(X:Cx)(pos:Pos)(keys:List (Option Expr))(values:List Expr)(trs:List (TE×TE)):Prop:=
 ∀(pins:List (Addr×Obj))(s:Shared)(σ:St)(H:Hp)(Q:List (V×V)->Hp->Prop),eM X pins σ H s->vX trs σ H Q->
  wpAny (model X.prog X.w) X.A (evalPairs (pairTrees keys values X.env pos)) (λvs s'=>∃ps H',eM X pins σ H' s'/\VV ps vs/\Q ps H') X.xe s
theorem E8:NQ X pos [] [] []:=λpins s σ H Q I h=>pairTrees_nil_walk ⟨[],H,I,.nil,h⟩
theorem kI(hk:PE X k tk)(hv:PE X v tv)(hr:NQ X pos ks vs trs):
  NQ X pos (some k::ks) (v::vs) ((tk,tv)::trs):=λpins s σ H Q I h=>
 pairTrees_cons_walk (thn (hk pins s σ H _ I h) λu s1 ⟨x,H1,I1,rx,q1⟩=>thn (hv pins s1 σ H1 _ I1 q1) λw2 s2 ⟨y,H2,I2,ry,q2⟩=>
  thn (hr pins s2 σ H2 _ I2 q2) λws s3 ⟨ps,H3,I3,rel,q3⟩=>⟨(x,y)::ps,H3,I3,.cons ⟨rx,ry⟩ rel,q3⟩)
def jt(kvs more:List (fB×V)):List (fB×V):=more.foldl (λacc kv=>fh acc kv.1 kv.2) kvs
theorem KV.merge:∀{more:List (fB×V)}{rs:List (fB×Value)}{kvs:List (fB×V)}{vs:List (fB×Value)},KV more rs->KV kvs vs->KV (jt kvs more) (merged vs rs):=by
 intro more rs kvs vs r;unfold KV at r;induction r generalizing kvs vs with
 | nil=>intro q;exact q
 | @cons p q ps qs h t ih=>
  intro r0;have e:KV (fh kvs p.1 p.2) (stored vs q.1 q.2):=by have:=r0.put p.1 h.2;rw[<-h.1];exact this
  exact ih e
theorem lz:∀(more kvs:List (fB×V)),(jt kvs more).length<=kvs.length+more.length
 | [],kvs=>by show kvs.length<=kvs.length+0;lia
 | p::r,kvs=>by have h1:=lz r (fh kvs p.1 p.2);have h2:=gG kvs p.1 p.2;show(jt (fh kvs p.1 p.2) r).length<=_;rw[aD];lia
theorem qN:∀{kvs:List (fB×V)}{ws:List (Value×Value)},VV (kvs.map λkv=>(kV kv.1,kv.2)) ws->∃rs,Carries (gJ P w) ws rs/\KV kvs rs
 | [],_,r=>by rw[bA]at r;cases r;exact⟨[],aI,.nil⟩
 | p::kvs,_,r=>by
  rw[aV]at r;cases r with
  | @cons a b as bs h t=>obtain⟨rs,c,q⟩:=qN (P:=P) (w:=w) t;obtain⟨b1,b2⟩:=b;exact⟨(p.1,b2)::rs,⟨qI h.1,rfl,c⟩,.cons ⟨rfl,h.2⟩ q⟩
def GI(trs:List (TE×TE)):TE:=λσ H Q=>∀p,H p=none->vX trs σ (upd H p (.dK [])) λps H2=>H2 p=some (.dK [])/\∃kvs:List (fB×V),ps=kvs.map (λkv=>(kV kv.1,kv.2))/\kvs.length<=15/\Q (.ref p) (upd H2 p (.dK (jt [] kvs)))
theorem FF(h:NQ X pos keys values trs)(hall:keys.all (·.isSome)=true)(hl:keys.length=values.length)(h0:keys≠[])
  (h15:keys.length<=15):PE X (.Dict keys values pos) (GI trs):=by
 intro pins s σ H Q I q;have hn:=I.hok.fresh (aC s.heap.objs.size);have I1:=I.laid (a:=s.heap.objs.size) (o:=.dK []) (h':=s.heap.push {cls:=.type "dict",data:=.dict #[]}) (t':=s.toks) (λ_ _ q=>Heap.get?_push_of_some _ q) (aC _) (ux s.heap I.big);refine wpAny_Dict_walk (knd:=gJ X.prog X.w) hall hl h0 h15 (thn (h pins _ σ _ _ I1 (q _ hn)) λws s2 hz=>?_);obtain⟨ps,H2,I2,rel,e,kvs,ep,lk,q2⟩:=hz;subst ep;obtain⟨rs,c,rk⟩:=qN (P:=X.prog) (w:=X.w) rel;obtain⟨z,hd,vs0,r0,dd⟩:=Gh I2.hok e;cases r0;refine⟨rs,c,dd,λh' dd' hs=>⟨.ref s.heap.objs.size,_,?_,rfl,q2⟩⟩;have hz:(jt [] kvs).length<=sizeLine:=by have h1:=lz kvs [];rw[am]at h1;rw[sizeLine_eq];lia
 have he:∃q,h'.get? s.heap.objs.size=some q:=let ⟨q,_,_,hq,_⟩:=dd';⟨q,hq⟩;exact tE I2 (by rw[e];exact aI) hs he (wk hz hd (rk.merge .nil) dd')
structure M2(X:Cx)(o:Expr)(m:Str)(apos:Pos)(e f:Expr)(cpos:Pos):Prop where
 base:attributeBase o m X.env (eval o X.env)=eval o X.env
 few:((backTo cpos (starEach [e,f] X.env)).all (λx=>!x.1)&&(backToKw cpos (keywordEach [] X.env)).all (λx=>x.1.isSome)
  && decide (([e,f]:List Expr).length+([]:List Keyword).length+(if([]:List Keyword).isEmpty then 0 else 1)<30))=true
 line:(apos.endLine==cpos.line)=true
 trees:backTo cpos (starEach [e,f] X.env)=[(false,eval e X.env),(false,eval f X.env)]
def QZ(H:Hp)(a:Addr):Prop:=(∃kvs,Rd H a (.dK kvs))∨∃kvs,Rd H a (.dT kvs)
theorem KJ(I:eM X pins σ H s)(d:QZ H a):
  s.TypeIs (.ref a) "dict"/\(∀b,Value.ref a=.ref b->∃ob,s.heap.get? b=some ob/\ob.dict=none)/\(a==sysModules)=false:=by
 rcases d with⟨kvs,e⟩|⟨kvs,e⟩
 ·obtain⟨_,hd,vs,_,dd⟩:=l8 I.hok e;refine⟨dd.typeIs,λb q=>?_,hd⟩;cases q;obtain⟨ob,_,_,h1,h2,_⟩:=dd;exact⟨ob,h1,h2.2.1⟩
 ·obtain⟨_,hd,xs,_,dd⟩:=qM I.hok e;refine⟨dd.typeIs,λb q=>?_,hd⟩;cases q;obtain⟨ob,_,_,h1,h2,_⟩:=dd;exact⟨ob,h1,h2.2.1⟩
section
variable {X:Cx}{pins:List (Addr×Obj)}{σ:St}{H:Hp}{s:Shared}{a:Addr}{y d:V}{u r:Value}{o:Option V}{A:Around}{E:Value->Shared->Prop}
theorem KW(hu:A.units+1<cLine)(I:eM X pins σ H s)(g:iR H a y o)(ry:fH y u)(rd:fH d r)(h:∀w' s',eM X pins σ H s'->fH (o.getD d) w'->Q w' s'):
  wpAny (model X.prog X.w) A (call (.builtin "dict.get") [.ref a,u,r]) Q E s:=by
 rcases g with⟨kvs,k,e,ey,l⟩|⟨kvs,k,b,e,ey,eb,l⟩
 ·subst ey;obtain⟨z,hd,vs,rel,dd⟩:=l8 I.hok e;refine call_meetsIn cS dd.typeIs cs (cu _ _ _) (meets_dict_get_default (gJ X.prog X.w) a (qI ry) hd r) ⟨_,dd.mapOf,h _ _ (I.tok _) ?_⟩;rw[l];exact(rel.val k).getD rd
 ·subst ey;cases(show u=Value.ref b from ry);obtain⟨z,hd,xs,rel,dd⟩:=qM I.hok e;refine call_meetsIn cS dd.typeIs cs (cu _ _ _) (meetsH_dict_get_default (tupleKind (gJ X.prog X.w)) a b hd r) ⟨tupleKind_room_in1 hu,k,xs,nh I.hok eb,dd,h _ _ (I.tok _) ?_⟩;rw[l];exact(rel.val k).getD rd
end
def vZ(td ty tx:TE):TE:=λσ H Q=>td σ H λx H1=>onR x λa=>QZ H1 a/\ty σ H1 λy H2=>tx σ H2 λz H3=>∃o,iR H3 a y o/\Q (o.getD z) H3
section
variable {X:Cx}{o e f:Expr}{apos cpos:Pos}{td ty tx:TE}
theorem uU(hu:X.A.units+1<cLine)(ho:PE X o td)(he:PE X e ty)(hf:PE X f tx)(m:M2 X o "get" apos e f cpos):PE X (.Call (.Attribute o "get" apos) [e,f] [] cpos) (vZ td ty tx):=by
 intro pins s σ H Q I h;refine wpAny_Call_method m.base m.few m.line PySem.F.plainAttrs_dict cS PySem.F.type_dict_get (thn (ho pins s σ H _ I h) λu s1 hz=>?_);obtain⟨x,H1,I1,rx,q1⟩:=hz;obtain⟨a,rfl,d,q1⟩:=onR.ex q1;obtain rfl:u=Value.ref a:=rx;obtain⟨t1,t2,_⟩:=KJ I1 d;refine⟨t1,t2,?_⟩;rw[m.trees];refine Calls.callWith_builtin rfl (Calls.evalArgs_plain (Calls.spliced_cons (thn (he pins s1 σ H1 _ I1 q1) λiv s2 ⟨y,H2,I2,ry,q2⟩=>
  Calls.spliced_cons (thn (hf pins s2 σ H2 _ I2 q2) λfv s3 ⟨z,H3,I3,rz,ov,g,q3⟩=>Calls.spliced_nil ?_))))
 exact KW hu I3 g ry rz λw' s4 I4 rw'=>⟨_,H3,I4,rw',q3⟩
end
section
variable {X:Cx}{pins:List (Addr×Obj)}{σ:St}{H:Hp}{s:Shared}{a:Addr}{kvs:List (fB×V)}{A:Around}{E:Value->Shared->Prop}
theorem DB(I:eM X pins σ H s)(e:Rd H a (.dK kvs))(h:∀p s',H p=none->eM X pins σ (upd H p (.dK kvs)) s'->Q (.ref p) s'):wpAny (model X.prog X.w) A (call (.type "dict") [.ref a]) Q E s:=by obtain⟨z,hd,vs,rel,dd⟩:=l8 I.hok e;refine kt_call_dict hd dd (by rw[<-rel.length];exact z) λh' dd' hs=>?_;refine h _ _ (I.hok.fresh (aC _)) (I.laid (a:=s.heap.objs.size) (o:=.dK kvs) (t':=s.toks) (λb q hq=>?_) (aC _) (wk z (beq_eq_false_iff_ne.mpr (ac (aJ I.big))) rel dd'));exact(hs.2 b (aJ (Heap.lt_size hq))).trans (Heap.get?_push_of_some _ hq)
end
section
variable {X:Cx}{pins:List (Addr×Obj)}{σ:St}{H:Hp}{s:Shared}{a:Addr}{y:V}{u:Value}{A:Around}{E:Value->Shared->Prop}
end
end L2
namespace Att
open PySem PySem.W PySem.Calls PyProof.Rows
theorem oX:∀(ns:List Int)(vs:List Value),WellAll P h vs (ns.map WData.int)->IntsAre vs ns:=by
 intro ns;induction ns with
 | nil=>intro vs w;rw[bA]at w;cases w;exact .nil
 | cons n ns ih=>
  intro vs w;rw[aV]at w;cases w with
  | cons a b=>cases a;exact .cons _ _ (ih _ b)
theorem zV{l:OpenLaw}{n:Nat}(hn:l.most=some n){P:Params}{h:Heap}{args:List WData}{vals:List Value}
  (hpre:l.row.toRowW.claim.pre args=true) (hwl:WellAll P h vals args):
  ∃a vs ns,vals=[Value.ref a]/\args=[WData.list (ns.map WData.int)]/\h.get? a=some {cls:=.type "list",data:=.seq vs.toArray}/\IntsAre vs ns/\ns.length<=n:=by
 have hsh:WShape.hasAll [] args [.list .int]=true:=(pre_splitW hpre).1;have hc:l.pre.holds [] {args:=args}=true:=(pre_splitW hpre).2;obtain⟨d,r,rfl,h1,h2⟩:=hasAllW_cons hsh;obtain rfl:=hasAllW_nil h2;obtain⟨xs,rfl,h3⟩:=hasW_list h1;obtain⟨ns,rfl⟩:=items_int h3;have hlen:ns.length<=n:=by
  unfold OpenLaw.pre at hc;have h4:(WTm.not (.lt (.lit (.int (n:Int))) (.len (.arg 0)))).holds [] {args:=[.list (ns.map .int)]}=true:=by have h4:=(holds_andW hc).1;rw[hn]at h4;exact h4
  have h5:=condW_of h4 (w_not (w_lt w_lit (w_len_list (w_arg rfl))));rw[aO]at h5;refine Nat.le_of_not_lt λq=>?_;have q':(n:Int)<((ns.length:Nat):Int):=by lia
  first
   | (rw[decide_eq_true q']at h5;exact absurd h5 (by decide))
   | (simp at h5;lia)
 cases hwl with
 | cons w1 w2=>
  cases w2;cases w1 with
  | list ho hall=>exact⟨_,_,ns,rfl,rfl,ho,oX ns _ hall,hlen⟩
theorem zi(l:OpenLaw)(args:List WData):l.row.toRowW.claim.post args (.bool true) args=true:=
 postW_of (r:=l.row.toRowW) (X:=(true==true))
  (show WShape.has [] (.bool true) .bool=true by first|rfl|decide|simp[WShape.has,WShape.arms,WShape.armsAll])
  (show(WTm.eq .res (.lit (.bool true))).value [] {args:=args,res:=some (.bool true),after:=args}=some (.bool (true==true))from w_eq_bool (w_res rfl) w_lit) rfl
theorem Gk{l:OpenLaw}{n:Nat}{q:Program}{loose:List Str}{XP:(Str->Option Value)->Heap->Prop}{YP:World->Heap->Prop}{d:DefRec}
  (hn:l.most=some n) (hdf:d.params.defaults=[])
  (call:∀(w:World)(s₀ s₁:Shared)(mg mb:Str->Option Value)(fa:Addr)(o:Obj)(pm cd doc:Value)(a:Addr)(vs:List Value)(ns:List Int),
   Ground q loose [] XP w s₀ mg mb s₁.heap->YP w s₁.heap->
   s₁.heap.get? fa=some o->o.data=.func (docDef d.name d.params d.body d.scope pm cd doc)->s₁.heap.CodeRec cd d.name->mg d.name=some (.ref fa)->
   s₁.heap.get? a=some {cls:=.type "list",data:=.seq vs.toArray}->IntsAre vs ns->ns.length<=n->s₁.gens = #[]->
   codeAny (model l.prog w) callerA (.call (.ref fa) ⟨[.ref a],[]⟩) (λr s'=>r=.ok (.ret (.bool true))/\OldK s₁.heap s'.heap/\s'.os=s₁.os/\AllBare s'.gens) s₁):
  WalkO q loose XP YP l.row.toRowW d [] (λf vs=>PySem.call f vs):=by
 intro w s₀ s₁ mg mb G Y fa o pm cd doc dV kV ho hd hcd hD hmg hg args vals as hpre hlay hrd hwl hlo;obtain rfl:dV=.none:=Dflts.none hD hdf;obtain rfl:kV=.none:=Dflts.noKw hD;obtain⟨a,vs,ns,rfl,rfl,hobj,hints,hlen⟩:=zV hn hpre hwl;refine enter_call (codeAny_mono (call w s₀ s₁ mg mb fa o pm cd doc a vs ns G Y ho (fd_plain hd) hcd hmg hobj hints hlen hg) λr s' hq=>?_);obtain⟨rfl,h2,h3,h4⟩:=hq;exact⟨.inl ⟨.bool true,.bool true,[],rfl,λ_=>rfl,.bool true,zi l _,λ_=>⟨List.Pairwise.nil,λ_ hm=>(nomatch hm)⟩⟩,h2,h3,h4⟩
section
variable {prog:Program}{w:World}{A:Around}{E:Value->Shared->Prop}{s:Shared}{K:Frag}
end
end Att
namespace L2
open PySem PySem.Spec PyProof.Rows
theorem qh:∀{vs:List Value}{ns:List Int},IntsAre vs ns->eu (ns.map V.int) vs
 | _,_,.nil=>.nil
 | _,_,.cons n t h=>.cons ⟨t,rfl⟩ (qh h)
def Kk(H:Hp):Prop:=∀b,H b=none∨∃o xs,H b=some (.frz o (.lst xs))
theorem Ci{P:Program}{w:World}{K:aA}{mg mb:Str->Option Value}{CX:AR}{k:Nat}{fa a:Addr}{fd:FuncData}{x:Str}{sp:Sp}{s₁:Shared}{vs:List Value}{ns:List Int}
  (KX:K.In s₁.heap) (hns:s₁.heap.Ns mainGlobals mg) (hb:s₁.heap.Ns builtinsNs mb) (hbb:∀x:Str,x≠"__name__"->mb x=bootBuiltins x) (hlim:s₁.heap.NoLimit) (hg:s₁.gens = #[])
  (ha:s₁.heap.get? a=some {cls:=.type "list",data:=.seq vs.toArray}) (hi:IntsAre vs ns) (hl:ns.length<=sizeLine) (hr:gr k callerA)
  (F:∀base:Heap,K.In base->base.Ns mainGlobals mg->je P w K mg base CX k fa fd [x] sp) (hbind:∀(s:Shared)(u:Value),BindsTo s fd ⟨[u],[]⟩ [(x,u)])
  (hsp:∀H:Hp,Kk H->eL K H a (ns.map V.int)->sp [.ref a] H (λv _=>v=.bl true) λ_ _ _=>False)
  (hCX:∀H e s',CX [] H s₁ (λ_ _ _=>False) e s'->False):
  codeAny (model P w) callerA (.call (.ref fa) ⟨[.ref a],[]⟩) (λr s'=>r=.ok (.ret (.bool true))/\OldK s₁.heap s'.heap/\s'.os=s₁.os/\AllBare s'.gens) s₁:=by
 have rv:=qh hi;have lenV:=hi.length;have core:∀H:Hp,Kk H->eL K H a (ns.map V.int)->lL P w H s₁.heap->(∀b,H b≠none->b=a)->(H a≠none->K.lookup a=none)->
   codeAny (model P w) callerA (.call (.ref fa) ⟨[.ref a],[]⟩) (λr s'=>r=.ok (.ret (.bool true))/\OldK s₁.heap s'.heap/\s'.os=s₁.os/\AllBare s'.gens) s₁:=by
  intro H hO hS hok hA hK;have base_of:∀{b:Addr}{o:Obj},s₁.heap.get? b=some o->H b=none->(sk s₁.heap H).get? b=some o:=λe n=>Ct e n;have noA:∀{b:Addr}{o:Obj}{es:Array DictEntry}{ep:Nat},s₁.heap.get? b=some o->o.data=.dict es ep->H b=none:=λ{b o es ep} e d=>by
   cases q:H b with
   | none=>rfl
   | some u=>have e':b=a:=hA b (by rw[q];simp);subst e';rw[ha]at e;cases e;have d':Data.seq vs.toArray _=Data.dict es ep:=d;cases d'
  have nsK:∀{b:Addr}{m:Str->Option Value},s₁.heap.Ns b m->(sk s₁.heap H).Ns b m:=λ{b m} ⟨o,es,ep,e,d,r⟩=>⟨o,es,ep,base_of e (noA e d),d,r⟩;have hKb:K.In (sk s₁.heap H):=λb o e=>base_of (KX b o e) (by
   cases q:H b with
   | none=>rfl
   | some u=>
    have e':b=a:=hA b (by rw[q];simp);subst e';rw[hK (by rw[q];simp)]at e;cases e)
  have hM:Mod K mg (sk s₁.heap H):=⟨hKb,nsK hns,⟨mb,nsK hb,hbb⟩,let ⟨mc,h1,h2⟩:=hlim;⟨mc,nsK h1,h2⟩⟩;have e0:xC P w K mg (sk s₁.heap H) callerA [] s₁ H:=⟨rfl,hM,λb o e=>FS e,Nat.le_of_eq (AB _ _),trivial,λb hb=>absurd (show b∈([]:List Addr)from hb) (by simp),hok,.of_eq hg⟩;refine codeAny_mono ((F _ hKb (nsK hns)).run callerA [] s₁ H ⟨[.ref a],[]⟩ [.ref a] [.ref a] _ _ hr e0 (hbind s₁ (.ref a)) (.cons rfl .nil) (hsp H hO hS)) λr s' h=>?_;cases r with
  | error e=>exact(hCX H e s' h).elim
  | ok fl=>
   cases fl with
   | next=>exact False.elim h
   | brk=>exact False.elim h
   | cont=>exact False.elim h
   | ret u=>
    obtain⟨v,H',os,bare,un,hok',r',q⟩:=h;have q':v=.bl true:=q;subst q';obtain rfl:u=Value.bool true:=r';refine⟨rfl,OldK.of_keep λb o e=>?_,os,bare⟩;cases q:H b with
    | none=>exact un.keep b o e q (by intro z;exact absurd (show b∈([]:List Addr)from z) (by simp)) (by simp)
    | some u=>
     rcases hO b with z|⟨ob,xs,z⟩
     ·rw[q]at z;cases z
     ·have z2:=un.frzs b ob _ z;obtain⟨e1,_⟩:=hok b _ z;obtain⟨e2,_⟩:=hok' b _ z2;rw[e]at e1;cases e1;exact e2
 cases hk:K.lookup a with
 | some o=>have e:=KX a o hk;rw[ha]at e;cases e;refine core (λ_=>none) (λ_=>.inl rfl) (.inr ⟨_,vs.toArray,_,hk,rfl,rfl,rfl,by rw[aM,lenV];exact hl,by simpa using rv⟩) (λb u z=>by have z':(none:Option HO)=some u:=z;cases z') (λb z=>absurd rfl z) λz=>absurd rfl z
 | none=>
  refine core (λb=>if b=a then some (.frz {cls:=.type "list",data:=.seq vs.toArray} (.lst (ns.map V.int)))else none) (λb=>?_) (.inl (.inr ⟨{cls:=.type "list",data:=.seq vs.toArray},if_pos rfl⟩)) (λb u z=>?_) (λb z=>?_) λ_=>hk
  ·by_cases hb:b=a
   ·exact .inr ⟨_,_,if_pos hb⟩
   ·exact .inl (if_neg hb)
  ·by_cases hb:b=a
   ·have z':=(if_pos hb).symm.trans z;cases z';subst hb;exact⟨ha,by rw[aO];exact hl,vs,_,rv,ha⟩
   ·have z':=(if_neg hb).symm.trans z;cases z'
  ·by_cases hb:b=a
   ·exact hb
   ·exact absurd (if_neg hb) z
theorem M7{l:PySem.W.OpenLaw}{n k:Nat}{q:Program}{loose:List Str}{XP:(Str->Option Value)->Heap->Prop}{YP:World->Heap->Prop}{d:DefRec}{K:Params->aA}{CX:World->AR}{sp:World->Sp}{x:Str}
  (hn:l.most=some n) (hn2:n<=sizeLine) (hdf:d.params.defaults=[]) (hr:gr k callerA)
  (hY:∀(w:World)(h:Heap),YP w h->(K w.params).In h)
  (F:∀(w:World)(mg:Str->Option Value)(fa:Addr)(h:Heap),(K w.params).In h->h.Ns mainGlobals mg->mg d.name=some (.ref fa)->
   ∃fd:FuncData,(∀(s:Shared)(u:Value),BindsTo s fd ⟨[u],[]⟩ [(x,u)])/\
    ∀base:Heap,(K w.params).In base->base.Ns mainGlobals mg->je l.prog w (K w.params) mg base (CX w) k fa fd [x] (sp w))
  (hsp:∀(w:World)(H:Hp)(a:Addr)(ns:List Int),ns.length<=n->Kk H->eL (K w.params) H a (ns.map V.int)->sp w [.ref a] H (λv _=>v=.bl true) λ_ _ _=>False)
  (hCX:∀(w:World)(H:Hp)(s:Shared)(e:Value)(s':Shared),CX w [] H s (λ_ _ _=>False) e s'->False):
  PySem.W.WalkO q loose XP YP l.row.toRowW d [] (λf vs=>PySem.call f vs):=by
 refine Att.Gk hn hdf λw s₀ s₁ mg mb fa o pm cd doc a vs ns G Y ho hd hcd hmg hobj hints hlen hg=>?_;have KX:=hY w _ Y;obtain⟨fd,hb,hF⟩:=F w mg fa _ KX G.T.g hmg;exact Ci KX G.T.g G.T.b G.T.builtins G.T.nolimit hg hobj hints (aP hlen hn2) hr hF hb (λH hO hS=>hsp w H a ns hlen hO hS) λH e s'=>hCX w H s₁ e s'
def Fe(s:Stmt)(j:Nat):Stmt:=match s with
 | .ClassDef _ _ _ body _ _ _ _ _ _ _=>body.getD j (.Pass ⟨0,0,0,0⟩)
 | _=>.Pass ⟨0,0,0,0⟩
def jq(s:Stmt):Arguments:=match s with
 | .FunctionDef _ a _ _ _ _ _ _ _ _=>a
 | _=>{posonlyargs:=[],args:=[],vararg:=none,kwonlyargs:=[],kw_defaults:=[],kwarg:=none,defaults:=[]}
def gK(s:Stmt):List Stmt:=match s with
 | .FunctionDef _ _ b _ _ _ _ _ _ _=>b
 | _=>[]
def eZ(s:Stmt):Scope:=match s with
 | .FunctionDef _ _ _ _ _ _ sc _ _ _=>sc
 | _=>{kind:=.function,names:=[],isGenerator:=false,isCoroutine:=false}
abbrev vM:AR:=λ_ _ _ _ _ _=>False
abbrev E0:XK:=λ_ _ _=>False
theorem CO:lK vM X E0:=λ_ _ _ _ _ _ _ h=>h.elim
structure Dm(K:aA)(x qual:Str)(st:Stmt)(f:Addr)(fd:FuncData):Prop where
 ex:∃(oc:Value)(od:Option Addr)(kV doc pm:Value)(an:Option Addr)(cdv ct:Value)(osl:Array (Option Value)),
  fd=PySem.W.fnOf x qual (jq st) (gK st) (eZ st) .none kV doc pm an cdv ct/\K.lookup f=some ⟨oc,od,.func fd,osl⟩/\PySem.W.codeIn K cdv qual=true
 kp:PySem.W.keepIn K (.ref f)=true
section
variable {P:Program}{w:World}{K:aA}{mg:Str->Option Value}{base:Heap}
theorem Dm.ok{x qual:Str}{st:Stmt}{f:Addr}{fd:FuncData}{N ps:List Str}{k:Nat}{sp:Sp}(F:Dm K x qual st f fd)(S:kj N ps (eZ st))(len:∀vs H Q E,sp vs H Q E->vs.length=ps.length)
  (hbody:∀(cdv:Value)(A:Around)(outer:List Env)(s:Shared)(H:Hp)(vs:List V)(Q:VK)(E:XK),gr k (A.deeper (envOfC qual (eZ st) s.heap.objs.size f cdv))->sp vs H Q E->
   ∃t,pG (i7 vM P w K mg base N qual (eZ st) f cdv A outer s H E).nox (gK st) t/\t {nx:=λ_ H'=>Q .non H',rt:=Q} (start N vs) H):je P w K mg base vM (k+1) f fd ps sp:=by
 obtain⟨oc,od,kV,doc,pm,an,cdv,ct,osl,rfl,lk,hcd⟩:=F.ex;refine Gf lk hcd S len λA outer s H vs Q E hr hsp=>?_;obtain⟨t,h,q⟩:=hbody cdv A outer s H vs Q E hr hsp;exact⟨t,h.nox,q⟩
theorem Dm.binds{x qual:Str}{st:Stmt}{f:Addr}{fd:FuncData}{ps:List Str}(F:Dm K x qual st f fd)
  (h:∀(kV doc pm:Value)(an:Option Addr)(cdv ct:Value)(us:List Value),us.length=ps.length->bindArgs (PySem.W.fnOf x qual (jq st) (gK st) (eZ st) .none kV doc pm an cdv ct) ⟨us,[]⟩=pure (ps.zip us)):kT K fd ps []:=by
 obtain⟨oc,od,kV,doc,pm,an,cdv,ct,osl,rfl,lk,hcd⟩:=F.ex;exact .all (h kV doc pm an cdv ct)
theorem KP{x qual:Str}{st:Stmt}{f:Addr}{oc:Value}{od an:Option Addr}{osl:Array (Option Value)}{kV doc pm cdv ct:Value}(l:K.lookup f=some ⟨oc,od,.func (PySem.W.fnOf x qual (jq st) (gK st) (eZ st) .none kV doc pm an cdv ct),osl⟩)
  (c:PySem.W.codeIn K cdv qual=true) (k:PySem.W.keepIn K (.ref f)=true):Dm K x qual st f (PySem.W.fnOf x qual (jq st) (gK st) (eZ st) .none kV doc pm an cdv ct):=⟨⟨oc,od,kV,doc,pm,an,cdv,ct,osl,rfl,l,c⟩,k⟩
end
theorem ff(hr:gr k A):A.units+1<cLine:=cT (Nat.add_le_add_left (by decide:1<=64) _) hr.units
theorem lU(h:n<=1000):n<sizeLine:=cT h (by decide)
section
variable {X:Cx}
theorem pv(i:Nat)(hN:X.N[i]?=some x:=by rfl)(hv:NN X.env.scope x:=by first|exact av rfl|exact bD (av rfl)|exact bD (bD rfl))(hd:(x==("__debug__":Str))=false:=by decide)
  (hcd:(x==("__classdict__":Str))=false:=by decide):PE X (.Name x pos) (dJ i):=wG hN hv hd hcd
end
theorem jE{A B:Prop}(h:B):if false=true then A else B:=by rw[if_neg aR];exact h
theorem uk{A B:Prop}(h:A):if true=true then A else B:=by rw[if_pos rfl];exact h
theorem ir{c A B:Prop}[Decidable c](h1:c->A)(h2:¬c->B):if c then A else B:=by
 by_cases h:c
 ·rw[if_pos h];exact h1 h
 ·rw[if_neg h];exact h2 h
def dq(H H':Hp):Prop:=∀b o,H b=some o->H' b=some o
theorem dq.refl(H:Hp):dq H H:=λ_ _ h=>h
theorem dq.trans(a:dq H H1)(b:dq H1 H2):dq H H2:=λc o h=>b c o (a c o h)
theorem dq.free(e:dq H H')(h:H' l=Option.none):H l=Option.none:=by
 cases q:H l with
 | none=>rfl
 | some o=>rw[e l o q]at h;cases h
theorem dq.seq{K:aA}{H H':Hp}{a:Addr}{xs:List V}(e:dq H H')(h:eL K H a xs):eL K H' a xs:=by
 rcases h with(h|⟨o,h⟩)|h
 ·exact .inl (.inl (e _ _ h))
 ·exact .inl (.inr ⟨o,e _ _ h⟩)
 ·exact .inr h
section
variable {κ:Type}[DecidableEq κ]
theorem yJ:∀{l:List κ}{k:κ},l.Nodup->¬k∈l->(l++[k]).Nodup
 | [],k,_,_=>by simp
 | a::r,k,h,hk=>by
  obtain⟨h1,h2⟩:=bL.mp h;show(a::(r++[k])).Nodup;refine bL.mpr ⟨λm=>?_,yJ h2 λm=>hk (aB.mpr (bD m))⟩;rcases aQ.mp m with q|q
  ·exact h1 q
  ·exact hk (aB.mpr (av (aF.mp q).symm))
end
theorem qQ:bootBuiltins "len"=some (.builtin "len"):=by decide
theorem qR:bootBuiltins "int"=some (.type "int"):=by decide
theorem tM:bootBuiltins "str"=some (.type "str"):=by decide
theorem Ft:bootBuiltins "bool"=some (.type "bool"):=by decide
theorem mv:bootBuiltins "list"=some (.type "list"):=by decide
theorem kP:bootBuiltins "tuple"=some (.type "tuple"):=by decide
theorem mx:bootBuiltins "dict"=some (.type "dict"):=by decide
theorem AL:bootBuiltins "sorted"=some (.builtin "sorted"):=by decide
theorem fU:bootBuiltins "isinstance"=some (.builtin "isinstance"):=by decide
theorem Kd:bootBuiltins "min"=some (.builtin "min"):=by decide
theorem Ke:bootBuiltins "abs"=some (.builtin "abs"):=by decide
theorem sj(p:PlainL h a its):h.IsList a its:=by obtain⟨o,n,e,c,_,d⟩:=p;exact⟨o,e,c,n,d⟩
theorem xJ:∀{xs:List V}{us:List Value},xs.length=us.length->(∀(i:Nat) x u,xs[i]?=some x->us[i]?=some u->fH x u)->eu xs us
 | [],[],_,_=>.nil
 | [],_::_,h,_=>by simp at h
 | _::_,[],h,_=>by simp at h
 | x::xs,u::us,h,k=>.cons (k 0 x u rfl rfl) (xJ (by simpa using h) λi y w a b=>k (i+1) y w (by simpa using a) (by simpa using b))
theorem E2(h:qH k u=true):fH (kV k) u:=by
 rcases gH h with⟨i,t,rfl,rfl⟩|⟨x,t,rfl,rfl⟩
 ·exact⟨t,rfl⟩
 ·exact⟨t,rfl⟩
def jO(kvs:List (fB×V)):List V:=kvs.map λkv=>kV kv.1
theorem qz(r:KV kvs vs)(h:ItemsOf (λi v=>∃k x,vs[i]?=some (k,x)/\(gJ P w).is k v=true) acc vs.length):eu (jO kvs) acc.toList:=by
 refine xJ ?_ λi x u hx hu=>?_
 ·have e1:acc.toList.length=vs.length:=by rw[be];exact h.1
  have e2:(jO kvs).length=kvs.length:=by simp[jO]
  rw[e1,e2];exact r.length
 ·obtain⟨k,y,e,hk⟩:=h.2 i u (by rw[<-cP];exact hu);have q:(kvs.map (·.1))[i]?=some k:=by rw[r.keys,aT,e];rfl
  have q2:(jO kvs)[i]?=some (kV k):=by
   have:jO kvs=(kvs.map (·.1)).map kV:=by simp[jO]
   rw[this,aT,q];rfl
  rw[q2]at hx;cases hx;exact E2 hk
section
variable {X:Cx}
def lE(K:aA):R2:=λx y H Q=>onR x λa=>onR y λb=>lM (eL K H a) λxs=>eL K H b []/\Q (.bl (!xs.isEmpty)) H
theorem kK(hu:X.A.units<cLine):mM X (compareOp .NotEq) (lE X.K):=by
 intro pins s σ H x y v u Q I rx ry h;obtain⟨a,rfl,h⟩:=onR.ex h;obtain⟨b,rfl,h⟩:=onR.ex h;obtain @⟨xs,ha,hb,q⟩:=h;cases rx;cases ry;obtain⟨its,r1,p1,_⟩:=I.list ha;obtain⟨its2,r2,p2,_⟩:=I.list hb;cases r2;cases r1 with
 | nil=>exact SeqAt.RcNeAt.lists (e:=λ_=>true) (sj p1) (sj p2) rfl hu (λj h1 _=>absurd h1 (Nat.not_lt_zero _)) _ _ _ _ ⟨.bl false,H,I,rfl,q⟩
 | cons _ _=>exact SeqAt.RcNeAt.lists_lengths (sj p1) (sj p2) rfl hu _ _ _ _ ⟨.bl true,H,I,rfl,q⟩
theorem jb:kS X (.type "dict") (λxs H Q=>∃a kvs,xs=[.ref a]/\Rd H a (.dK kvs)/\kL H (.dK kvs) Q):=by intro pins s σ H xs us Q I r h;obtain⟨a,kvs,rfl,ha,q⟩:=h;obtain⟨u,rfl,ru⟩:=km r;cases ru;exact DB I ha λp s' hp I'=>⟨.ref p,_,I',rfl,q p hp⟩
theorem xg:∀{ws:List Str}{us:List Value},eu (ws.map V.str) us->StrsAre us ws
 | [],_,r=>by rw[bA]at r;cases r;exact .nil
 | w::ws,_,r=>by
  rw[aV]at r;cases r with
  | cons h t=>obtain⟨t',rfl⟩:=h;exact .cons w t' (xg t)
theorem yG:∀{ws:List Str}{us:List Value},StrsAre us ws->eu (ws.map V.str) us
 | _,_,.nil=>.nil
 | _,_,.cons _ t h=>.cons ⟨t,rfl⟩ (yG h)
def oY(K:aA):List V->Hp->VK->Prop:=λxs H Q=>onC xs λx r=>on1 r λy=>onY y λc=>lM (oF K H x) λt=>lM (λb=>PySem.W.kitOne K t (.type c)=some b) λb=>Q (.bl b) H
theorem hV:kS X (.builtin "isinstance") (oY X.K):=by intro pins s σ H xs us Q I r h;obtain⟨x,_,rfl,h⟩:=onC.ex h;obtain⟨_,rfl,h⟩:=on1.ex h;obtain⟨c,rfl,h⟩:=onY.ex h;obtain @⟨t,ty,h⟩:=h;obtain @⟨b,e,q⟩:=h;obtain⟨u,w',rfl,ru,rw'⟩:=GA r;cases rw';exact AA I ru ty e λtk=>⟨.bl b,H,I.tok tk,rfl,q⟩
end
end L2
namespace SW
open PySem PySem.Spec PyProof.Rows
inductive T where
 | num(n:Int)|name(w:Str)
 | sum(a b:T)|less(a b:T)|cho(a b c:T)|lt(w:Str)(a b:T)
 | st0(w:Str)|st1(w:Str)(a:T)|st2(w:Str)(a b:T)
def T.size:T->Nat
 | .num _=>1
 | .name _=>1
 | .sum a b=>a.size+b.size+1
 | .less a b=>a.size+b.size+1
 | .cho a b c=>a.size+b.size+c.size+1
 | .lt _ a b=>a.size+b.size+1
 | .st0 _=>1
 | .st1 _ a=>a.size+1
 | .st2 _ a b=>a.size+b.size+1
theorem T.size_pos(t:T):0<t.size:=by cases t<;>simp[T.size]
def T.kids:T->List T
 | .num _=>[]
 | .name _=>[]
 | .sum a b=>[a,b]
 | .less a b=>[a,b]
 | .cho a b c=>[a,b,c]
 | .lt _ a b=>[a,b]
 | .st0 _=>[]
 | .st1 _ a=>[a]
 | .st2 _ a b=>[a,b]
def et(ts:List T):Nat:=(ts.map T.size).sum
theorem iS:et []=0:=rfl
theorem ft(t:T)(ts:List T):et (t::ts)=t.size+et ts:=by simp[et]
theorem eg(a b:List T):et (a++b)=et a+et b:=by simp[et]
theorem iy(t:T):et t.kids+1=t.size:=by cases t<;>simp[T.kids,T.size,et]<;>lia
theorem eV:∀ts:List T,ts.length<=et ts
 | []=>aC _
 | t::ts=>by have h:=eV ts;have h2:=t.size_pos;rw[ft,aD];lia
def T.occ(w:Str):T->Prop
 | .num _=>False
 | .name v=>v=w
 | .sum a b=>a.occ w∨b.occ w
 | .less a b=>a.occ w∨b.occ w
 | .cho a b c=>a.occ w∨b.occ w∨c.occ w
 | .lt _ a b=>a.occ w∨b.occ w
 | .st0 _=>False
 | .st1 _ a=>a.occ w
 | .st2 _ a b=>a.occ w∨b.occ w
def T.out(w:Str):T->Prop
 | .num _=>False
 | .name v=>v=w
 | .sum a b=>a.out w∨b.out w
 | .less a b=>a.out w∨b.out w
 | .cho a b c=>a.out w∨b.out w∨c.out w
 | .lt v a b=>a.out w∨(v≠w/\b.out w)
 | .st0 _=>False
 | .st1 _ a=>a.out w
 | .st2 _ a b=>a.out w∨b.out w
theorem T.out_occ:∀{t:T},t.out w->t.occ w
 | .num _,h=>h
 | .name _,h=>h
 | .sum _ _,h=>h.elim (λx=>.inl (out_occ x)) λx=>.inr (out_occ x)
 | .less _ _,h=>h.elim (λx=>.inl (out_occ x)) λx=>.inr (out_occ x)
 | .cho _ _ _,h=>h.elim (λx=>.inl (out_occ x)) λx=>.inr (x.elim (λx=>.inl (out_occ x)) λx=>.inr (out_occ x))
 | .lt _ _ _,h=>h.elim (λx=>.inl (out_occ x)) λx=>.inr (out_occ x.2)
 | .st0 _,h=>h
 | .st1 _ a,h=>out_occ (t:=a) h
 | .st2 _ _ _,h=>h.elim (λx=>.inl (out_occ x)) λx=>.inr (out_occ x)
def T.names:T->List Str
 | .num _=>[]
 | .name v=>[v]
 | .sum a b=>a.names++b.names
 | .less a b=>a.names++b.names
 | .cho a b c=>a.names++b.names++c.names
 | .lt _ a b=>a.names++b.names
 | .st0 _=>[]
 | .st1 _ a=>a.names
 | .st2 _ a b=>a.names++b.names
theorem T.names_occ:∀{t:T},w∈t.names↔t.occ w
 | .num _=>by simp[names,occ]
 | .name _=>by simp[names,occ,eq_comm]
 | .sum a b=>by simp[names,occ,names_occ (t:=a),names_occ (t:=b)]
 | .less a b=>by simp[names,occ,names_occ (t:=a),names_occ (t:=b)]
 | .cho a b c=>by simp[names,occ,names_occ (t:=a),names_occ (t:=b),names_occ (t:=c)]
 | .lt _ a b=>by simp[names,occ,names_occ (t:=a),names_occ (t:=b)]
 | .st0 _=>by simp[names,occ]
 | .st1 _ a=>by simp[names,occ,names_occ (t:=a)]
 | .st2 _ a b=>by simp[names,occ,names_occ (t:=a),names_occ (t:=b)]
theorem T.names_len:∀t:T,t.names.length<=t.size
 | .num _=>by simp[names]
 | .name _=>by simp[names,size]
 | .sum a b=>by have:=names_len a;have:=names_len b;simp[names,size];lia
 | .less a b=>by have:=names_len a;have:=names_len b;simp[names,size];lia
 | .cho a b c=>by have:=names_len a;have:=names_len b;have:=names_len c;simp[names,size];lia
 | .lt _ a b=>by have:=names_len a;have:=names_len b;simp[names,size];lia
 | .st0 _=>by simp[names]
 | .st1 _ a=>by have:=names_len a;simp[names,size];lia
 | .st2 _ a b=>by have:=names_len a;have:=names_len b;simp[names,size];lia
def fS(ts:List T):Nat:=(ts.map λt=>t.names.length).sum
def oM:Bool->Str
 | false=>"sab"
 | true=>"sabq"
def uS:Bool->Str
 | false=>"tab"
 | true=>"tabq"
theorem wD:∀e,oM e≠uS e
 | false=>by decide
 | true=>by decide
structure Bo where
 (e:Bool) (x y z:T)
def qX(a b:Str):Prop:=a.cps.toList<b.cps.toList
theorem qX.irrefl(a:Str):¬qX a a:=List.lt_irrefl _
theorem qX.trans(h:qX a b)(k:qX b c):qX a c:=List.lt_trans h k
theorem qX.total(h:¬qX a b)(k:¬qX b a):a=b:=by have e:a.cps.toList=b.cps.toList:=List.le_antisymm (List.not_lt.mp k) (List.not_lt.mp h);cases a;cases b;congr;exact Array.toList_inj.mp e
theorem qm:∀(l:List Str)(p:Str),risingS p l=true->(∀x∈l,¬qX x p)/\l.Pairwise (λa b=>¬qX b a)
 | [],_,_=>⟨λ_ h=>(nomatch h),List.Pairwise.nil⟩
 | x::r,p,h=>by
  have h:(!ltCps x.cps.toList p.cps.toList&&risingS x r)=true:=h;rw[bT,ltCps_eq]at h;obtain⟨i1,i2⟩:=qm r x h.2;have h1:¬qX x p:=by simpa[qX]using h.1
  refine⟨λy hy=>?_,bu.mpr ⟨λy hy=>i1 y hy,i2⟩⟩;rcases aB.mp hy with rfl|hy
  ·exact h1
  ·intro z;have h3:=i1 y hy;by_cases q:qX x y
   ·exact h1 (q.trans z)
   ·exact h1 (qX.total q h3▸z)
theorem zS(h:sortedS l=true):l.Pairwise (λa b=>¬qX b a):=by
 cases l with
 | nil=>exact .nil
 | cons x r=>obtain⟨i1,i2⟩:=qm r x h;exact bu.mpr ⟨i1,i2⟩
abbrev Up(l:List Str):Prop:=l.Pairwise qX
theorem GB:∀{l:List Str},l.Pairwise (λa b=>¬qX b a)->l.Nodup->Up l
 | [],_,_=>.nil
 | x::r,h,n=>by
  obtain⟨h1,h2⟩:=bu.mp h;obtain⟨n1,n2⟩:=bL.mp n;refine bu.mpr ⟨λy hy=>?_,GB h2 n2⟩;by_cases q:qX x y
  ·exact q
  ·exact absurd (qX.total q (h1 y hy)) (λe=>n1 (e▸hy))
end SW
namespace SW
open PySem L2
def fF(H H':Hp):Prop:=∀b xs,H b=some (.tup xs)->H' b=some (.tup xs)
theorem fF.refl:fF H H:=λ_ _ h=>h
theorem fF.trans(a:fF H H1)(b:fF H1 H2):fF H H2:=λc xs h=>b c xs (a c xs h)
theorem dW(s:dq H H'):fF H H':=λb _ h=>s b _ h
theorem vR(h:H p=none):fF H (upd H p o):=λb xs e=>by rw[dY (dX e h)];exact e
theorem fA(h:H l=some (.lst ys)):fF H (upd H l o):=λb xs e=>by rw[dY (fM e h (by intro z;cases z))];exact e
theorem uA(h:H l=some (.dK ys)):fF H (upd H l o):=λb xs e=>by rw[dY (fM e h (by intro z;cases z))];exact e
theorem dS(h:H p=none):dq H (upd H p o):=λb u e=>by rw[dY (dX e h)];exact e
theorem eY{H:Hp}{o:HO}{Q:VK}(k:∀(p:Addr)(H1:Hp),H p=none->dq H H1->H1 p=some o->Q (.ref p) H1):kL H o Q:=λp hp=>k p _ hp (dS hp) dP
theorem eJ(s:dq H₀ H)(h:H₀ l=none):dq H₀ (upd H l o):=λb u e=>by rw[dY (dX e h)];exact s b u e
def kind:T->Str
 | .num _=>"number"
 | .name _=>"name"
 | .sum _ _=>"sum"
 | .less _ _=>"less"
 | .cho _ _ _=>"choose"
 | .lt _ _ _=>"let"
 | .st0 _=>"stamp"
 | .st1 _ _=>"stamp"
 | .st2 _ _ _=>"stamp"
def fc(H:Hp):T->V->Prop
 | .num n,v=>∃p,v=.ref p/\H p=some (.tup [.str "number",.int n])
 | .name w,v=>∃p,v=.ref p/\H p=some (.tup [.str "name",.str w])
 | .sum a b,v=>∃p x y,v=.ref p/\H p=some (.tup [.str "sum",x,y])/\fc H a x/\fc H b y
 | .less a b,v=>∃p x y,v=.ref p/\H p=some (.tup [.str "less",x,y])/\fc H a x/\fc H b y
 | .cho a b c,v=>∃p x y z,v=.ref p/\H p=some (.tup [.str "choose",x,y,z])/\fc H a x/\fc H b y/\fc H c z
 | .lt w a b,v=>∃p x y,v=.ref p/\H p=some (.tup [.str "let",.str w,x,y])/\fc H a x/\fc H b y
 | .st0 w,v=>∃p,v=.ref p/\H p=some (.tup [.str "stamp",.str w])
 | .st1 w a,v=>∃p x,v=.ref p/\H p=some (.tup [.str "stamp",.str w,x])/\fc H a x
 | .st2 w a b,v=>∃p x y,v=.ref p/\H p=some (.tup [.str "stamp",.str w,x,y])/\fc H a x/\fc H b y
theorem fc.mono(k:fF H H'):∀{t:T}{v:V},fc H t v->fc H' t v
 | .num _,_,⟨p,e,h⟩=>⟨p,e,k _ _ h⟩
 | .name _,_,⟨p,e,h⟩=>⟨p,e,k _ _ h⟩
 | .sum _ _,_,⟨p,x,y,e,h,a,b⟩=>⟨p,x,y,e,k _ _ h,fc.mono k a,fc.mono k b⟩
 | .less _ _,_,⟨p,x,y,e,h,a,b⟩=>⟨p,x,y,e,k _ _ h,fc.mono k a,fc.mono k b⟩
 | .cho _ _ _,_,⟨p,x,y,z,e,h,a,b,c⟩=>⟨p,x,y,z,e,k _ _ h,fc.mono k a,fc.mono k b,fc.mono k c⟩
 | .lt _ _ _,_,⟨p,x,y,e,h,a,b⟩=>⟨p,x,y,e,k _ _ h,fc.mono k a,fc.mono k b⟩
 | .st0 _,_,⟨p,e,h⟩=>⟨p,e,k _ _ h⟩
 | .st1 _ _,_,⟨p,x,e,h,a⟩=>⟨p,x,e,k _ _ h,fc.mono k a⟩
 | .st2 _ _ _,_,⟨p,x,y,e,h,a,b⟩=>⟨p,x,y,e,k _ _ h,fc.mono k a,fc.mono k b⟩
inductive fm(H:Hp):List T->List V->Prop where
 | nil:fm H [] []
 | cons{t:T}{v:V}{ts:List T}{vs:List V}:fc H t v->fm H ts vs->fm H (t::ts) (v::vs)
theorem fm.mono(k:fF H H'):∀{ts:List T}{vs:List V},fm H ts vs->fm H' ts vs
 | _,_,.nil=>.nil
 | _,_,.cons a r=>.cons (a.mono k) (fm.mono k r)
theorem fm.length:∀{ts:List T}{vs:List V},fm H ts vs->vs.length=ts.length
 | _,_,.nil=>rfl
 | _,_,.cons _ r=>by rw[aD,aD,fm.length r]
theorem fm.append:∀{ts us:List T}{vs ws:List V},fm H ts vs->fm H us ws->fm H (ts++us) (vs++ws)
 | _,_,_,_,.nil,q=>q
 | _,_,_,_,.cons a r,q=>.cons a (fm.append r q)
theorem fm.snoc:∀{ts:List T}{vs:List V}{v:V},fm H ts (vs++[v])->∃us t,ts=us++[t]/\fm H us vs/\fc H t v
 | _,[],v,.cons a .nil=>⟨[],_,rfl,.nil,a⟩
 | _,x::vs,v,.cons a r=>by obtain⟨us,t,rfl,h1,h2⟩:=fm.snoc (vs:=vs) r;exact⟨_::us,t,rfl,.cons a h1,h2⟩
def hd:T->List V
 | .num n=>[.str "number",.int n]
 | .name w=>[.str "name",.str w]
 | .sum _ _=>[.str "sum"]
 | .less _ _=>[.str "less"]
 | .cho _ _ _=>[.str "choose"]
 | .lt w _ _=>[.str "let",.str w]
 | .st0 w=>[.str "stamp",.str w]
 | .st1 w _=>[.str "stamp",.str w]
 | .st2 w _ _=>[.str "stamp",.str w]
theorem fc.open(h:fc H t v):∃p us,v=.ref p/\H p=some (.tup (hd t++us))/\fm H t.kids us:=by
 cases t with
 | num n=>obtain⟨p,e,h⟩:=h;exact⟨p,[],e,h,.nil⟩
 | name n=>obtain⟨p,e,h⟩:=h;exact⟨p,[],e,h,.nil⟩
 | sum a b=>obtain⟨p,x,y,e,h,d1,d2⟩:=h;exact⟨p,[x,y],e,h,.cons d1 (.cons d2 .nil)⟩
 | less a b=>obtain⟨p,x,y,e,h,d1,d2⟩:=h;exact⟨p,[x,y],e,h,.cons d1 (.cons d2 .nil)⟩
 | cho a b c=>obtain⟨p,x,y,z,e,h,d1,d2,d3⟩:=h;exact⟨p,[x,y,z],e,h,.cons d1 (.cons d2 (.cons d3 .nil))⟩
 | lt w a b=>obtain⟨p,x,y,e,h,d1,d2⟩:=h;exact⟨p,[x,y],e,h,.cons d1 (.cons d2 .nil)⟩
 | st0 w=>obtain⟨p,e,h⟩:=h;exact⟨p,[],e,h,.nil⟩
 | st1 w a=>obtain⟨p,x,e,h,d1⟩:=h;exact⟨p,[x],e,h,.cons d1 .nil⟩
 | st2 w a b=>obtain⟨p,x,y,e,h,d1,d2⟩:=h;exact⟨p,[x,y],e,h,.cons d1 (.cons d2 .nil)⟩
def Lt(I:Nat->St->Hp->Prop)(m:Nat):St->Hp->Prop:=λσ H=>∃m',m'<m/\I m' σ H
theorem fL(h:Nat.ble n 1000=true:=by rfl):n<=sizeLine:=aP (cw h) (by decide)
theorem fI{c:Bool}{A B:Prop}(h:c=true)(k:A):if c=true then A else B:=by rw[if_pos h];exact k
theorem eU{c:Bool}{A B:Prop}(h:c=false)(k:B):if c=true then A else B:=by rw[h];exact jE k
theorem lh(h0:0<=i)(h1:i<xs.length):∃v,v∈xs/\nC xs i=some v:=by
 obtain⟨n,rfl⟩:=cy h0;have hn:n<xs.length:=by lia
 exact⟨xs[n],List.getElem_mem hn,fK (by simp[hn])⟩
def qk:Sp:=λvs H Q _=>∃c:Int,vs=[.int c]/\∀(n:Int)(H':Hp),-(10^59)<n/\n<10^59->dq H H'->Q (.int n) H'
structure Wd(x:Str):Prop where
 one:1<=x.length
 few:x.length<=200
 abc:∀c∈x.cps.toList,97<=c/\c<=122
def ra:Sp:=λvs H Q _=>∃c:Int,vs=[.int c]/\∀x:Str,Wd x/\x.length<=132->Q (.str x) H
structure mL(l:Int)(x:Str):Prop where
 one:l<0->1<=x.length
 few:x.length<=132
 sm:0<=l->∃m:Nat,l<2^m/\x.length+m<=131
 abc:∀c∈x.cps.toList,97<=c/\c<=122
theorem qv:(("":Str)).length=0:=by decide
theorem rP(c:Int):mL (c%10^(39:Int).toNat) "":=by
 have e:(10:Int)^(39:Int).toNat=1000000000000000000000000000000000000000:=by decide
 rw[e];refine⟨λh=>?_,by rw[qv];lia,λ_=>⟨130,?_,by rw[qv];lia⟩,?_⟩
 ·lia
 ·have e2:(2:Int)^130=1361129467683753853853498429727072845824:=by decide
  rw[e2];lia
 ·have e3:(("":Str)).cps.toList=[]:=by decide
  rw[e3];intro c hc;cases hc
theorem rQ(h:mL l x):(⟨#[c]⟩:Str).length+x.length<=sizeLine:=by have e:(⟨#[c]⟩:Str).length=1:=rfl;have:=h.few;rw[e,sizeLine_eq];lia
theorem tj(h:mL l x)(hl:0<=l)(hc:97<=c/\c<=122):mL (l / 26-1) (⟨#[c]⟩++x):=by
 have el:((⟨#[c]⟩:Str)++x).length=x.length+1:=by show(#[c]++x.cps).size=x.cps.size+1;simp[cU]
 obtain⟨m,h1,h2⟩:=h.sm hl;refine⟨λ_=>by rw[el];lia,by rw[el];lia,λh0=>?_,?_⟩
 ·cases m with
  | zero=>simp at h1;lia
  | succ m=>refine⟨m,?_,by rw[el];lia⟩;have e:(2:Int)^(m+1)=2^m*2:=Int.pow_succ ..;rw[e]at h1;generalize (2:Int)^m=z at *;lia
 ·intro d hd;have hd:d∈(#[c]++x.cps).toList:=hd;rw[bw]at hd;rcases aQ.mp hd with q|q
  ·have:d=c:=by simpa using q
   rw[this];exact hc
  ·exact h.abc d q
theorem vN(h:mL l x)(hl:¬0<=l):Wd x/\x.length<=132:=⟨⟨h.one (by lia),by have:=h.few;lia,h.abc⟩,h.few⟩
theorem yK:(("abcdefghijklmnopqrstuvwxyz":Str)).cps.toList=(List.range 26).map (·+97):=by decide
theorem zu(l:Int):∃c:Nat,(97<=c/\c<=122)/\nC (("abcdefghijklmnopqrstuvwxyz":Str)).cps.toList (l%26)=some c:=by
 have h:0<=l%26/\l%26<26:=by lia
 obtain⟨n,e⟩:=cy h.1;rw[e]at h⊢;have hn:n<26:=by lia
 refine⟨n+97,by lia,fK ?_⟩;rw[yK,aT,cz hn];rfl
theorem mn(k:Nat)(h:0<k)(h2:k<=n):¬(HT.kG n 0 (some (k:Int))=0/\HT.kG n n none=n):=by rintro⟨z,_⟩;rw[HT.M9,bZ h2]at z;lia
def gz:Sp:=λvs H Q _=>∃d x v kvs,vs=[.ref d,.str x,v]/\H d=some (.dK kvs)/\kvs.length<=5000/\∀p H',H p=none->dq H H'->H' p=some (.dK (fh kvs (.inr x) v))->Q (.ref p) H'
def rg:Sp:=λvs H Q _=>∃t v,vs=[v]/\fc H t v/\∀p us H',dq H H'->H' p=some (.tup us)->fm H' t.kids us->Q (.ref p) H'
def ia:Sp:=λvs H Q _=>∃t v,vs=[v]/\fc H t v/\∀l us H',dq H H'->H l=none->H' l=some (.lst us)->fm H' t.kids us->Q (.ref l) H'
def qV(P:Str->Prop)(S:Str->Nat->Prop):T->Prop
 | .num n=>-(10^60)<n/\n<10^60
 | .name w=>P w
 | .sum a b=>qV P S a/\qV P S b
 | .less a b=>qV P S a/\qV P S b
 | .cho a b c=>qV P S a/\qV P S b/\qV P S c
 | .lt w a b=>P w/\qV P S a/\qV P S b
 | .st0 w=>S w 0
 | .st1 w a=>S w 1/\qV P S a
 | .st2 w a b=>S w 2/\qV P S a/\qV P S b
abbrev WT(S:Str->Nat->Prop):T->Prop:=qV Wd S
structure Wg(w:Str):Prop where
 wd:Wd w
 gd:w.cps.toList.getLast?≠some 122/\w.cps.toList.getLast?≠some 113
 sh:w.length<=150
abbrev WG(S:Str->Nat->Prop):T->Prop:=qV Wg S
theorem gW{P P':Str->Prop}{S:Str->Nat->Prop}(h:∀w,P w->P' w):∀{t:T},qV P S t->qV P' S t
 | .num _,z=>z
 | .name _,z=>h _ z
 | .sum _ _,z=>⟨gW h z.1,gW h z.2⟩
 | .less _ _,z=>⟨gW h z.1,gW h z.2⟩
 | .cho _ _ _,z=>⟨gW h z.1,gW h z.2.1,gW h z.2.2⟩
 | .lt _ _ _,z=>⟨h _ z.1,gW h z.2.1,gW h z.2.2⟩
 | .st0 _,z=>z
 | .st1 _ _,z=>⟨z.1,gW h z.2⟩
 | .st2 _ _ _,z=>⟨z.1,gW h z.2.1,gW h z.2.2⟩
theorem tm{S:Str->Nat->Prop}{t:T}(h:WG S t):WT S t:=gW (λ_ z=>z.wd) h
structure ki(S:Str->Nat->Prop)(H₀ H:Hp)(n:Nat)(l:Addr)(vs:List V)(ts:List T):Prop where
 same:dq H₀ H
 new:H₀ l=none
 at_:H l=some (.lst vs)
 den:fm H ts vs
 sz:et ts<=n
 one:ts≠[]
 wt:∀t∈ts,WG S t
theorem HC:Wd "sab":=⟨by decide,by decide,by decide⟩
theorem G9:Wd "tab":=⟨by decide,by decide,by decide⟩
theorem HA:Wd "sob":=⟨by decide,by decide,by decide⟩
theorem HB:Wd "sat":=⟨by decide,by decide,by decide⟩
theorem AY:Wg "sab":=⟨HC,⟨by decide,by decide⟩,by decide⟩
theorem xI(h:v∈[V.str "sab",V.str "tab",V.str "sob",V.str "sat"]):∃x,v=.str x/\Wg x:=by
 rcases aB.mp h with rfl|h
 ·exact⟨_,rfl,AY⟩
 rcases aB.mp h with rfl|h
 ·exact⟨_,rfl,G9,⟨by decide,by decide⟩,by decide⟩
 rcases aB.mp h with rfl|h
 ·exact⟨_,rfl,HA,⟨by decide,by decide⟩,by decide⟩
 rcases aB.mp h with rfl|h
 ·exact⟨_,rfl,HB,⟨by decide,by decide⟩,by decide⟩
 ·cases h
theorem NX(h:Wd x)(hl:x.length<=132):Wd (x++("k":Str)):=by
 have e:(("k":Str)).cps = #[107]:=by decide
 have el:(x++("k":Str)).length=x.length+1:=by show(x.cps++(("k":Str)).cps).size=_;rw[e];simp[Str.length]
 refine⟨by rw[el];lia,by rw[el];lia,λc hc=>?_⟩;have hc:c∈(x.cps++(("k":Str)).cps).toList:=hc;rw[e,bw]at hc;rcases aQ.mp hc with q|q
 ·exact h.abc c q
 ·have:c=107:=by simpa using q
  lia
theorem NW(h:Wd x)(hl:x.length<=132):Wg (x++("k":Str)):=by
 have e:(("k":Str)).cps = #[107]:=by decide
 have el:(x++("k":Str)).cps.toList=x.cps.toList++[107]:=by show(x.cps++(("k":Str)).cps).toList=_;rw[e,bw]
 have en:(x++("k":Str)).length=x.length+1:=by show(x.cps++(("k":Str)).cps).size=_;rw[e];simp[Str.length]
 refine⟨NX h hl,⟨?_,?_⟩,by lia⟩<;>rw[el,List.getLast?_append]<;>simp
def jF(S:Str->Nat->Prop)(H:Hp)(xs:List V):Prop:=∀x∈xs,∃(q:Addr)(nm:Str)(m:Nat),x=.ref q/\H q=some (.tup [.str nm,.int m])/\m<=2/\S nm m
def oi(K:aA)(S:Str->Nat->Prop):Sp:=λvs H Q _=>∃(c st:Addr)(ns:List Int)(xs:List V),vs=[.ref c,.ref st]/\eL K H c (ns.map V.int)/\ns.length<=100/\H st=some (.lst xs)/\xs.length<=1000/\jF S H xs/\
 ∀(t:T)(v:V)(H':Hp),dq H H'->fc H' t v->WG S t->t.size<=2*ns.length+2->t.names.length<=ns.length+1->Q v H'
def pX(K:aA)(S S':Str->Nat->Prop):Sp:=λvs H Q _=>∃(c st:Addr)(ns:List Int)(xs:List V),vs=[.ref c,.ref st]/\eL K H c (ns.map V.int)/\ns.length<=100/\H st=some (.lst xs)/\xs.length<=1000/\jF S H xs/\(∀t:T,t.size<=ns.length+1->WG S t->WG S' t)/\
 ∀(t:T)(v:V)(H':Hp),dq H H'->fc H' t v->WG S' t->t.size<=2*ns.length+2->t.names.length<=ns.length+1->Q v H'
theorem oi.two(h:oi K S vs H Q E):pX K S S vs H Q E:=by obtain⟨c,st,ns,xs,h1,h2,h3,h4,h5,h6,k⟩:=h;exact⟨c,st,ns,xs,h1,h2,h3,h4,h5,h6,λ_ _ z=>z,k⟩
theorem qu:∀{ts:List T},t∈ts->t.size<=et ts
 | x::ts,h=>by
  rw[ft];rcases aB.mp h with rfl|h
  ·lia
  ·have:=qu h;lia
end SW
namespace L2
open PySem PySem.Spec PyProof.Rows
def gn(X:Cx)(scope:Scope)(cl:List (Str×Addr))(N:List Str)(fp:List Addr)(s:Shared)(H:Hp)(C:Addr):Cx where
 prog:=X.prog
 w:=X.w
 K:=X.K
 mg:=X.mg
 base:=X.base
 A:=X.A
 N:=N
 s₀:=s
 H₀:=H
 env:=compEnvC scope cl C X.env
 outer:=X.stack
 stack:=X.stack
 ex:=fp
 fn:=λ_=>false
 calm:=X.calm
 pn:=[]
 xe:=λ_ _=>False
def AT(σ:St)(js:List Nat):St:=js.map λj=>σ.getD j none
def mh(its:List Value)(n:Nat):Obj:={cls:=.type "list",data:=.seq its.toArray n}
section
variable {X:Cx}{pins:List (Addr×Obj)}{σ:St}{H:Hp}{s:Shared}{scope:Scope}{cl:List (Str×Addr)}{x:Str}{ys:List Str}{js:List Nat}{fp:List Addr}{C D:Addr}{h':Heap}
theorem eM.nostk(I:eM X pins σ H s)(h1:b≠X.env.locals)(h2:b∉X.fs):b∉qb X.stack:=λz=>by
 rcases aB.mp (I.stkSub b z)with e|e
 ·exact h1 e
 ·exact h2 e
theorem eM.compOut(I:eM X pins σ H s)(hf:∀b∈fp,oa X pins H b)(hC:s.heap.objs.size<=C)(hD:s.heap.objs.size<=D)(hDC:D≠C)
  (I':eM (gn X scope cl (x::ys) fp s H C) P σ' H' s') (hp:(D,mh its n)∈P) (r:eu vs its) (hz:vs.length<=sizeLine) (hs:Heap.SameBut C s'.heap h'):eM X pins σ (upd H' D (.lst vs)) {s' with heap:=h'}:=by
 obtain⟨pe,pn,_,_,_⟩:=I'.pin (D,mh its n) (aL _ hp);have u:Un (qb X.stack) fp H H' s.heap s'.heap:=I'.base;have hCn:H' C=none:=I'.free;have lt:∀b o,s.heap.get? b=some o->b≠C/\b≠D:=λb o e=>⟨aJ (aY (Heap.lt_size e) hC),aJ (aY (Heap.lt_size e) hD)⟩;have nD:∀b o,H' b=some o->b≠D:=λb o e=>dX e pn;refine I.call' (ch:=fp) (s':={s' with heap:=h'}) I'.os ⟨λb o q nn hb hx=>?_,λb o q nn hb hx=>?_,λb o q nn hx=>?_,λb o q hx=>?_,λb xs q=>?_,λb o xs q=>?_,λb ps q=>?_⟩ ?_ I'.bare λb hb=>?_
 ·exact(hs.2 b (lt b o q).1).trans (u.keep b o q nn hb hx)
 ·obtain⟨sl,e⟩:=u.slot b o q nn hb hx;exact⟨sl,(hs.2 b (lt b o q).1).trans e⟩
 ·rw[dY (lt b o q).2];exact u.free b o q nn hx
 ·obtain⟨o',e⟩:=u.there b o q hx;exact⟨o',(hs.2 b (lt b o q).1).trans e⟩
 ·have e:=u.tups b xs q;rw[dY (nD _ _ e)];exact e
 ·have e:=u.frzs b o xs q;rw[dY (nD _ _ e)];exact e
 ·obtain⟨more,e⟩:=u.tbls b ps q;exact⟨more,by rw[dY (nD _ _ e)];exact e⟩
 ·intro b ob e;by_cases hb:b=D
  ·subst hb;rw[dP]at e;cases e;exact⟨hz,its,n,r,(hs.2 b hDC).trans pe⟩
  ·rw[dY hb]at e;refine(I'.hok b ob e).stay (λc v hc q=>(hs.2 c ?_).trans q) (λc q=>by rw[dY (nD _ _ q)];exact q) λc xs q=>by rw[dY (nD _ _ q)];exact q
   rcases hc with rfl|hc
   ·exact dX e hCn
   ·exact dX hc hCn
 ·obtain⟨_,h1,_,h3,h4,h5⟩:=hf b hb;exact⟨h3,h1,h4,h5⟩
end
def OG(wi:TI)(te:TE)(js:List Nat):TE:=λσ H Q=>wi σ H λJ H1=>∃W:Nat->Nat->List V->Hp->Prop,(∃m,W 0 m [] H1)/\∀i m vs H,W i m vs H->
 (J.stop i H/\vs.length<=sizeLine/\kL H (.lst vs) Q)∨
 (J.go i H/\∀x H',J.yld i H x H'->te (some x::AT σ js) H' λy H''=>vs.length<sizeLine/\∃m',m'<m/\W (i+1) m' (vs++[y]) H'')
end L2
namespace SW
open PySem L2
abbrev kH:R2:=vx λi j=>.int (i+j)
abbrev ib:R2:=vx λi j=>.int (i-j)
abbrev LT:R2:=rI Fx λi j=>.int (i*j)
abbrev oK:R2:=rI Ko λi j=>.int (i / j)
abbrev iu:R2:=rI (λ_ j=>0<j) λi j=>.int (i%j)
abbrev GO:R2:=rI M5 λi j=>.int (i^j.toNat)
abbrev gQ:V->Hp->VK->Prop:=rU λi=>.int (-i)
abbrev vw:R2:=vx λi j=>.bl (decide (i<j))
abbrev E3:R2:=vx λi j=>.bl (decide (i<=j))
abbrev nK:R2:=vx λi j=>.bl (decide (j<i))
abbrev OY:R2:=vx λi j=>.bl (decide (j<=i))
abbrev OX:R2:=λx y H Q=>y=.non/\Q (.bl (decide (x=.non))) H
abbrev GP:R2:=λx y H Q=>y=.non/\Q (.bl (!decide (x=.non))) H
abbrev yg:List V->Hp->VK->Prop:=λxs H Q=>∃z,xs=[.str z]/\z.length<=sizeLine/\Q (.int z.length) H
abbrev Fs:List V->Hp->VK->Prop:=λxs H Q=>(∃i,xs=[.int i]/\Q (.int i) H)∨∃k,xs=[.bl k]/\Q (.int (if k then 1 else 0)) H
abbrev Ox:List V->Hp->VK->Prop:=λxs H Q=>∃i,xs=[.int i]/\Q (.int (if i<0 then -i else i)) H
abbrev Ov:List V->Hp->VK->Prop:=λxs H Q=>∃i j,xs=[.int i,.int j]/\Q (.int (if j<i then j else i)) H
abbrev u7(K:aA):List V->Hp->VK->Prop:=λxs H Q=>∃p ys,xs=[.ref p]/\((eL K H p ys/\kL H (.tup ys) Q)∨(eD K H p ys/\Q (.ref p) H))
abbrev qO:List V->Hp->VK->Prop:=λxs H Q=>∃a kvs,xs=[.ref a]/\Rd H a (.dK kvs)/\kL H (.dK kvs) Q
abbrev Kb:List V->Hp->VK->Prop:=λxs H Q=>∃a kvs,xs=[.ref a]/\Rd H a (.dK kvs)/\kL H (.lst (jO kvs)) Q
abbrev DF:List V->Hp->VK->Prop:=λxs H Q=>∃a kvs ws,xs=[.ref a]/\Rd H a (.dK kvs)/\jO kvs=ws.map V.str/\ws.length<64/\∀p ws',H p=none->ws'.Perm ws->PyProof.Rows.sortedS ws'=true->Q (.ref p) (upd H p (.lst (ws'.map V.str)))
def ym:Str->Nat->Prop:=λx n=>(x="st"/\n=2)∨(x="sta"/\n=1)∨(x="star"/\n=0)
def pU(K:aA):Sp:=λvs H Q _=>∃(c:Addr)(ns:List Int),vs=[.ref c]/\eL K H c (ns.map V.int)/\ns.length<=100/\
 ∀(t:T)(v:V)(H':Hp),dq H H'->fc H' t v->WG ym t->t.size<=2*ns.length+2->t.names.length<=ns.length+1->Q v H'
def pR(K:aA):Sp:=λvs H Q _=>∃(s:Addr)(xs:List V)(m b:Int),vs=[.ref s,.int m,.int b]/\eL K H s xs/\xs.length<=63/\Q (.int m) H
def pS:Sp:=λvs H Q _=>∃(t:T)(v:V),vs=[v]/\fc H t v/\t.size<=900/\t.names.length<64/\
 ∀(l:Addr)(ws:List Str)(H':Hp),dq H H'->H l=none->H' l=some (.lst (ws.map V.str))->Up ws->(∀x,x∈ws↔t.out x)->Q (.ref l) H'
def qW(D:Addr->Prop)(H:Hp)(q:T×List (fB×V))(u:V):Prop:=∃p v d,u=.ref p/\H p=some (.tup [v,.ref d])/\fc H q.1 v/\H d=some (.dK q.2)/\D d
inductive gu(D:Addr->Prop)(H:Hp):List (T×List (fB×V))->List V->Prop where
 | nil:gu D H [] []
 | cons{q:T×List (fB×V)}{u:V}{qs:List (T×List (fB×V))}{us:List V}:qW D H q u->gu D H qs us->gu D H (q::qs) (u::us)
theorem qW.mono(k1:fF H H')(k2:∀d kvs,D d->H d=some (.dK kvs)->H' d=some (.dK kvs)/\D' d)(h:qW D H q u):qW D' H' q u:=by obtain⟨p,v,d,e,h1,h2,h3,h4⟩:=h;exact⟨p,v,d,e,k1 _ _ h1,h2.mono k1,(k2 _ _ h4 h3).1,(k2 _ _ h4 h3).2⟩
theorem gu.mono(k1:fF H H')(k2:∀d kvs,D d->H d=some (.dK kvs)->H' d=some (.dK kvs)/\D' d):∀{qs:List (T×List (fB×V))}{us:List V},gu D H qs us->gu D' H' qs us
 | _,_,.nil=>.nil
 | _,_,.cons a r=>.cons (a.mono k1 k2) (gu.mono k1 k2 r)
theorem gu.append:∀{qs rs:List (T×List (fB×V))}{us ws:List V},gu D H qs us->gu D H rs ws->gu D H (qs++rs) (us++ws)
 | _,_,_,_,.nil,q=>q
 | _,_,_,_,.cons a r,q=>.cons a (gu.append r q)
theorem gu.snoc{qs:List (T×List (fB×V))}{us:List V}{u:V}(h:gu D H qs (us++[u])):∃rs q,qs=rs++[q]/\gu D H rs us/\qW D H q u:=by
 induction us generalizing qs with
 | nil=>cases h with|cons a r=>cases r;exact⟨[],_,rfl,.nil,a⟩
 | cons x us ih=>
  cases h with|cons a r=>
  obtain⟨rs,q,rfl,h1,h2⟩:=ih r;exact⟨_::rs,q,rfl,.cons a h1,h2⟩
theorem gu.length:∀{qs:List (T×List (fB×V))}{us:List V},gu D H qs us->us.length=qs.length
 | _,_,.nil=>rfl
 | _,_,.cons _ r=>by rw[aD,aD,gu.length r]
def jI(t:T)(kvs:List (fB×V)):List (T×List (fB×V)):=match t with
 | .lt x a b=>[(b,fh kvs (.inr x) (.bl true)),(a,kvs)]
 | t=>t.kids.map λk=>(k,kvs)
def uK:Sp:=λvs H Q _=>∃(t:T)(v:V)(d:Addr)(kvs:List (fB×V)),vs=[v,.ref d]/\fc H t v/\H d=some (.dK kvs)/\kvs.length<=1000/\
 ∀(l:Addr)(us:List V)(H':Hp),dq H H'->H l=none->H' l=some (.lst us)->gu (λe=>e=d∨H e=none) H' (jI t kvs) us->Q (.ref l) H'
def LH(K:aA):TS:=(dZ (eB (dj iu (dj oK (dJ 0) (tC (.int 2))) (dj GO (tC (.int 10)) (tC (.int 59)))) (dR 1)) (fD (dj LT (dJ 1) (dj (fu K) (fG (dI (tC (.int 1)) (dI (mQ gQ (tC (.int 1))) dQ))) (dj iu (dJ 0) (tC (.int 2)))))))
def JP(K:aA):TS:=(dZ (eB (dj x6 (dj E4 (tC (.str "abcdefghijklmnopqrstuvwxyz")) (dj iu (dJ 1) (tC (.int 26)))) (dJ 2)) (dR 2)) (eB (dj ib (dj oK (dJ 1) (tC (.int 26))) (tC (.int 1))) (dR 1)))
def OE(K:aA):TS:=(dZ (eB (dj iu (gx Ox (dI (dJ 0) dQ)) (dj GO (tC (.int 10)) (tC (.int 39)))) (dR 1)) (dZ (eB (tC (.str "")) (dR 2)) (dZ (gi (dz (dj OY (dJ 1) (tC (.int 0)))) (JP K)) (fD (dJ 2)))))
def Am(K:aA):TS:=(fD (dJ 2))
def Ak(K:aA):TS:=(fE (dz (dj nK (gx (ga K) (dI (dJ 0) dQ)) (tC (.int 63)))) (Am K) fC)
def He(K:aA):TS:=(dZ (Ak K) (fD (dJ 1)))
def NZ(K:aA):TS:=(dZ (eB (gx qO (dI (dJ 0) dQ)) (dR 3)) (dZ (jl (dJ 3) (dJ 1) (dJ 2)) (fD (dJ 3))))
def zC(K:aA):TS:=(fD (ef dQ))
def zB(K:aA):TS:=(fE (zO (dz (dj ic (dJ 1) (tC (.str "number")))) (dz (dj ic (dJ 1) (tC (.str "name"))))) (zC K) fC)
def zA(K:aA):TS:=(fD (nB (zf K) (dJ 0) (fi (tC (.int 2))) fg))
def y8(K:aA):TS:=(fE (zO (dz (dj ic (dJ 1) (tC (.str "let")))) (dz (dj ic (dJ 1) (tC (.str "stamp"))))) (zA K) fC)
def D1(K:aA):TS:=(dZ (eB (dj (dy K) (dJ 0) (tC (.int 0))) (dR 1)) (dZ (zB K) (dZ (y8 K) (fD (nB (zf K) (dJ 0) (fi (tC (.int 1))) fg)))))
def EJ(K:aA):TS:=(fD (fG dQ))
def EI(K:aA):TS:=(fE (dz (dj (Je K false) (dj (dy K) (dJ 0) (tC (.int 0))) (fG (dI (tC (.str "number")) (dI (tC (.str "name")) dQ))))) (EJ K) fC)
def GG(K:aA):TS:=(dZ (EI K) (fD (gx (tL K) (dI (nB (zf K) (dJ 0) (fi (dj kH (tC (.int 1)) (gx Fs (dI (dj (Je K false) (dj (dy K) (dJ 0) (tC (.int 0))) (fG (dI (tC (.str "let")) (dI (tC (.str "stamp")) dQ)))) dQ)))) fg) dQ))))
def D0(K:aA):TS:=(fD (fG (dI (ef (dI (dj (dy K) (dJ 0) (tC (.int 3))) (dI (eN gz [] E0 (dI (dJ 1) (dI (dj (dy K) (dJ 0) (tC (.int 1))) (dI (tC (.bl true)) dQ)))) dQ))) (dI (ef (dI (dj (dy K) (dJ 0) (tC (.int 2))) (dI (dJ 1) dQ))) dQ))))
def Dz(K:aA):TS:=(fE (dz (dj ic (dj (dy K) (dJ 0) (tC (.int 0))) (tC (.str "let")))) (D0 K) fC)
def K8(K:aA):TS:=(dZ (Dz K) (fD (OG (KL K (eN rg [] E0 (dI (dJ 0) dQ))) (ef (dI (dJ 0) (dI (dJ 1) dQ))) [1])))
def D4(K:aA):TS:=(jl (dJ 1) (dj (dy K) (dJ 4) (tC (.int 1))) (tC (.bl true)))
def D3(K:aA):TS:=(fE (lq (dz (dj ic (dj (dy K) (dJ 4) (tC (.int 0))) (tC (.str "name")))) (tB (lQ (dj (dy K) (dJ 4) (tC (.int 1))) (dJ 5)))) (D4 K) fC)
def D2(K:aA):TS:=(dZ (eB (jG K "list" jH (dJ 2)) (dR 3)) (dZ (eB (dj (dy K) (dJ 3) (tC (.int 0))) (dR 4)) (dZ (eB (dj (dy K) (dJ 3) (tC (.int 1))) (dR 5)) (dZ (D3 K) (eX (iW K "list" mZ (dJ 2) (dI (eN uK [] E0 (dI (dJ 4) (dI (dJ 5) dQ))) dQ)))))))
def K9(K:aA):TS:=(dZ (eB iF (dR 1)) (dZ (eB (fG (dI (ef (dI (dJ 0) (dI iF dQ))) dQ)) (dR 2)) (dZ (gi (dz (dj nK (gx (ga K) (dI (dJ 2) dQ)) (tC (.int 0)))) (D2 K)) (fD (gx DF (dI (dJ 1) dQ))))))
def Iy(K:aA):TS:=(eB (dj x6 (eN ra [] E0 (dI (dj oK (dJ 4) (tC (.int 29))) dQ)) (tC (.str "k"))) (dR 6))
def Iw(K:aA):TS:=(fE (dz (dj ic (dj iu (dJ 4) (tC (.int 29))) (tC (.int 7)))) (Iy K) fC)
def BM(K:aA):TS:=(eX (iW K "list" eE (dJ 2) (dI (ef (dI (tC (.str "number")) (dI (dj (fu K) (fG (dI (dj ib (dj iu (dJ 4) (tC (.int 4))) (tC (.int 1))) (dI (eN qk [] E0 (dI (dJ 4) dQ)) dQ))) (gx Fs (dI (dj ic (dj iu (dJ 4) (tC (.int 5))) (tC (.int 3))) dQ))) dQ))) dQ)))
def BL(K:aA):TS:=(eX (iW K "list" eE (dJ 2) (dI (ef (dI (tC (.str "name")) (dI (dJ 6) dQ))) dQ)))
def BJ(K:aA):TS:=(eB (dj nN (nB (jX K) (dJ 2) fg (fi (mQ gQ (tC (.int 3))))) (fG (dI (ef (dI (tC (.str "choose")) (dI (dj (fu K) (dJ 7) (tC (.int 0))) (dI (dj (fu K) (dJ 7) (tC (.int 1))) (dI (dj (fu K) (dJ 7) (tC (.int 2))) dQ))))) dQ))) (dR 2))
def BI(K:aA):TS:=(eB (dj nN (nB (jX K) (dJ 2) fg (fi (mQ gQ (tC (.int 2))))) (fG (dI (ef (dI (dj (fu K) (fG (dI (tC (.str "sum")) (dI (tC (.str "less")) dQ))) (dj iu (dJ 5) (tC (.int 2)))) (dI (dj (fu K) (dJ 7) (mQ gQ (tC (.int 2)))) (dI (dj (fu K) (dJ 7) (mQ gQ (tC (.int 1)))) dQ)))) dQ))) (dR 2))
def Iv(K:aA):TS:=(eB (dj (dy K) (dJ 8) (tC (.int 2))) (dR 8))
def Iu(K:aA):TS:=(fE (dz (dj (Je K false) (dj (dy K) (dJ 8) (tC (.int 0))) (fG (dI (tC (.str "sum")) (dI (tC (.str "less")) dQ))))) (Iv K) fC)
def Ir(K:aA):TS:=(eB (dj (dy K) (dJ 8) (tC (.int 1))) (dR 6))
def xU(K:aA):TS:=(fE (lq (dz (dj ic (dj (dy K) (dJ 8) (tC (.int 0))) (tC (.str "name")))) (dz (dj nK (dj iu (dJ 4) (tC (.int 3))) (tC (.int 0))))) (Ir K) fC)
def xS(K:aA):TS:=(dZ (eB (dj (fu K) (dJ 7) (mQ gQ (tC (.int 1)))) (dR 8)) (dZ (Iu K) (dZ (xU K) (eB (dj nN (nB (jX K) (dJ 2) fg (fi (mQ gQ (tC (.int 2))))) (fG (dI (ef (dI (tC (.str "let")) (dI (dJ 6) (dI (dj (fu K) (dJ 7) (mQ gQ (tC (.int 2)))) (dI (dj (fu K) (dJ 7) (mQ gQ (tC (.int 1)))) dQ))))) dQ))) (dR 2)))))
def EY(K:aA):TS:=(dZ (eB (gx (u7 K) (dI (dj nN (fG (dI (tC (.str "stamp")) (dI (dJ 9) dQ))) (nB (jX K) (dJ 2) (fi (dj ib (gx (ga K) (dI (dJ 2) dQ)) (dJ 10))) fg)) dQ)) (dR 11)) (eB (dj nN (nB (jX K) (dJ 2) fg (fi (dj ib (gx (ga K) (dI (dJ 2) dQ)) (dJ 10)))) (fG (dI (dJ 11) dQ))) (dR 2)))
def EX(K:aA):TS:=(fE (dz (dj ic (dJ 10) (dj (dy K) (dj (fu K) (dJ 1) (dj iu (dJ 4) (gx (ga K) (dI (dJ 1) dQ)))) (tC (.int 1))))) (EY K) fC)
def xR(K:aA):TS:=(dZ (eB (dj (fu K) (dJ 1) (dj iu (dJ 4) (gx (ga K) (dI (dJ 1) dQ)))) (nq K 2 (gR (dR 9) (gR (dR 10) oA)))) (dZ (eB (gx Ov (dI (dJ 10) (dI (gx (ga K) (dI (dJ 2) dQ)) dQ))) (dR 10)) (EX K)))
def EW(K:aA):TS:=(fE (dz (dj (lE K) (dJ 1) (fG dQ))) (xR K) fC)
def EV(K:aA):TS:=(fE (dz (dj ic (dJ 5) (tC (.int 6)))) (xS K) (EW K))
def xQ(K:aA):TS:=(fE (dz (dj vw (dJ 5) (tC (.int 6)))) (BI K) (EV K))
def EU(K:aA):TS:=(fE (lq (dz (dj ic (dJ 5) (tC (.int 5)))) (dz (dj ic (gx (ga K) (dI (dJ 7) dQ)) (tC (.int 3))))) (BJ K) (xQ K))
def xP(K:aA):TS:=(fE (dz (dj vw (dJ 5) (tC (.int 3)))) (BL K) (EU K))
def rX(K:aA):TS:=(fE (zO (dz (dj ic (dJ 5) (tC (.int 0)))) (lq (dz (dj ic (gx (ga K) (dI (dJ 7) dQ)) (tC (.int 1)))) (dz (BS vw vw (tC (.int 2)) (dJ 5) (tC (.int 7)))))) (BM K) (xP K))
def xO(K:aA):TS:=(dZ (eB (dj oK (dJ 3) (tC (.int 9))) (dR 4)) (dZ (eB (dj iu (dJ 3) (tC (.int 9))) (dR 5)) (dZ (eB (dj (fu K) (fG (dI (tC (.str "sab")) (dI (tC (.str "tab")) (dI (tC (.str "sob")) (dI (tC (.str "sat")) dQ))))) (dj iu (dJ 4) (tC (.int 4)))) (dR 6)) (dZ (Iw K) (dZ (eB (nB (jX K) (dJ 2) (fi (mQ gQ (tC (.int 3)))) fg) (dR 7)) (rX K))))))
def ET(K:aA):TS:=(dZ (eB (jG K "list" jH (dJ 2)) (dR 12)) (eX (iW K "list" eE (dJ 2) (dI (ef (dI (tC (.str "sum")) (dI (jG K "list" jH (dJ 2)) (dI (dJ 12) dQ)))) dQ))))
def N9(K:aA):TS:=(dZ (eB (fG (dI (ef (dI (tC (.str "name")) (dI (tC (.str "sab")) dQ))) dQ)) (dR 2)) (dZ (iV (iT K (dJ 0)) (dR 3) (xO K)) (dZ (gi (dz (dj nK (gx (ga K) (dI (dJ 2) dQ)) (tC (.int 1)))) (ET K)) (fD (dj (fu K) (dJ 2) (tC (.int 0)))))))
def IL(K:aA)(S:Str->Nat->Prop):TS:=(fD (eN (oi K S) [] E0 (dI (dJ 0) (dI (fG (dI (ef (dI (tC (.str "st")) (dI (tC (.int 2)) dQ))) (dI (ef (dI (tC (.str "sta")) (dI (tC (.int 1)) dQ))) (dI (ef (dI (tC (.str "st")) (dI (tC (.int 2)) dQ))) (dI (ef (dI (tC (.str "star")) (dI (tC (.int 0)) dQ))) dQ))))) dQ))))
end SW
namespace SW
open PySem L2
variable {K:aA}{vs:List V}{H:Hp}{Q:VK}{E:XK}
abbrev fk(Q:VK):fz:={nx:=λ_ H'=>Q .non H',rt:=Q}
theorem OW(h:qk vs H Q E):LH K (fk Q) (start ["_law_cell","_law_size"] vs) H:=by
 obtain⟨c,rfl,k⟩:=h;refine⟨⟨by decide,by decide⟩,⟨by decide,by decide,by decide⟩,(show(0:Int)<10^(59:Int).toNat by decide),?_⟩;refine⟨fL,λp hp=>?_⟩;have h2:0<=c%2/\c%2<2:=by lia
 obtain⟨v,hv,e⟩:=lh (xs:=[V.int 1,V.int (-1)]) h2.1 h2.2;refine⟨(show(0:Int)<2 by decide),eL.of dP,e,?_⟩;have b0:=bx (c / 2) (show(10:Int)^(59:Int).toNat≠0 by decide);have b1:=Int.emod_lt_of_pos (c / 2) (show(0:Int)<10^(59:Int).toNat by decide);have e59:(10:Int)^(59:Int).toNat=10^59:=rfl;rw[e59]at b0 b1;rcases aB.mp hv with rfl|hv
 ·refine⟨.inr ⟨by decide,by decide⟩,k _ _ ?_ (dS hp)⟩;rw[e59];generalize c / 2%10^59=z at *;generalize (10:Int)^59=y at *;lia
 ·rw[aF]at hv;subst hv;refine⟨.inr ⟨by decide,by decide⟩,k _ _ ?_ (dS hp)⟩;rw[e59];generalize c / 2%10^59=z at *;generalize (10:Int)^59=y at *;lia
theorem QF(h:ra vs H Q E):OE K (fk Q) (start ["_law_cell","_law_left","_law_word"] vs) H:=by
 obtain⟨c,rfl,k⟩:=h;refine⟨_,rfl,⟨by decide,by decide,by decide⟩,(show(0:Int)<10^(39:Int).toNat by decide),?_⟩;refine⟨λm σ H'=>H'=H/\∃(l:Int)(x:Str),σ=[some (.int c),some (.int l),some (.str x)]/\mL l x/\-1<=l/\(m:Int)=l+1,⟨((if c<0 then -c else c)%10^(39:Int).toNat+1).toNat,rfl,_,_,rfl,rP _,?_,?_⟩,?_⟩
 ·have:=bx (if c<0 then -c else c) (show(10:Int)^(39:Int).toNat≠0 by decide);lia
 ·have:=bx (if c<0 then -c else c) (show(10:Int)^(39:Int).toNat≠0 by decide);exact Int.toNat_of_nonneg (by lia)
 ·rintro m σ H' ⟨rfl,l,x,rfl,hw,hl1,hm⟩;refine⟨_,rfl,?_⟩;refine ir (λhl=>?_) (λhl=>?_)
  ·have hl:(0:Int)<=l:=of_decide_eq_true hl;refine⟨λσ' H''=>∃m',m'<m/\(H''=H'/\∃(l:Int)(x:Str),σ'=[some (.int c),some (.int l),some (.str x)]/\mL l x/\-1<=l/\(m':Int)=l+1),λ_ _ h=>h,?_⟩;obtain⟨ch,hc,e⟩:=zu l;refine⟨(show(0:Int)<26 by decide),_,_,ch,rfl,rfl,fL (by decide),e,rQ hw,?_⟩;refine⟨⟨by decide,by decide⟩,?_⟩;refine⟨(l / 26-1+1).toNat,?_,rfl,_,_,rfl,tj hw hl hc,?_,?_⟩
   ·lia
   ·lia
   ·lia
  ·have hl:¬(0:Int)<=l:=λz=>hl (decide_eq_true z);exact(k _ (vN hw hl))
theorem NA(h:pR K vs H Q E):He K (fk Q) (start ["_law_script","_law_most","_law_bound"] vs) H:=by obtain⟨s,xs,m,b,rfl,hs,hl,k⟩:=h;refine⟨.inl hs,_,rfl,?_⟩;refine eU (decide_eq_false (by lia)) ?_;exact k
theorem Pe(h:gz vs H Q E):NZ K (fk Q) (start ["words","word","value","more"] vs) H:=by obtain⟨d,x,v,kvs,rfl,hd,hl,k⟩:=h;refine⟨d,kvs,rfl,.inl hd,λp hp=>?_⟩;refine⟨lO.k (k:=.inr x) dP (by rw[sizeLine_eq];omega),?_⟩;exact(k p _ hp (eJ (dS hp) hp) dP)
theorem KY{hs us:List V}{n:Nat}(h:n=hs.length):iJ (hs++us) (some (n:Int)) none=us:=by subst h;unfold iJ;rw[HT.M9,HT.LO,aE,bZ (by lia),cV rfl,cW,a6]
theorem jY{hs us:List V}{w:Str}{ts:List T}{p:Addr}{b:Bool}(n:Nat)(hp:H p=some (.tup (hs++us)))(hw:(hs++us)[0]?=some (.str w))(e1:De (.str w) [.str "number",.str "name"]=false)(e2:De (.str w) [.str "let",.str "stamp"]=b)(hl:n=hs.length)(hn:1+(if b=true then 1 else 0)=n)(dl:fm H ts us)(h:∀l us H',dq H H'->H l=none->H' l=some (.lst us)->fm H' ts us->Q (.ref l) H'):
  GG K (fk Q) [some (.ref p)] H:=by
 refine⟨eD.of hp,fK (j:=0) hw,fL,eY λq H1 hq s1 g1=>⟨.inl (eL.of g1),rfl,rfl,_,rfl,eU e1 ?_⟩⟩;refine⟨eD.of (s1 _ _ hp),fK (j:=0) hw,fL,eY λq2 H2 hq2 s2 g2=>⟨.inl (eL.of g2),rfl,rfl,?_⟩⟩;rw[if_neg aR,e2];have s12:=s1.trans s2;have hc:n<=(hs++us).length:=by rw[aE];lia
 have go:∀{q3 l:Addr}{H3 H4:Hp},H4 l=some (.lst (iJ (hs++us) (some (n:Int)) none))->dq H2 H3->dq H3 H4->H3 l=none->Q (.ref l) H4:=λg4 s3 s4 hl4=>by rw[KY hl]at g4;have s:=s12.trans (s3.trans s4);exact h _ _ _ s ((s12.trans s3).free hl4) g4 (dl.mono (dW s))
 cases b with
 | true=>subst hn;exact .inr ⟨_,rfl,eD.of (s12 _ _ hp),mn 2 (by decide) hc,eY λq3 H3 hq3 s3 g3=>⟨.inr (eD.of g3),eY λl H4 hl4 s4 g4=>go (q3:=q3) g4 s3 s4 hl4⟩⟩
 | false=>subst hn;exact .inr ⟨_,rfl,eD.of (s12 _ _ hp),mn 1 (by decide) hc,eY λq3 H3 hq3 s3 g3=>⟨.inr (eD.of g3),eY λl H4 hl4 s4 g4=>go (q3:=q3) g4 s3 s4 hl4⟩⟩
theorem ON(h:ia vs H Q E):GG K (fk Q) (start ["_law_piece"] vs) H:=by
 obtain⟨t,v,rfl,hd,k⟩:=h;cases t with
 | num n=>obtain⟨p,rfl,hp⟩:=hd;exact⟨eD.of hp,rfl,fL,eY λq H1 hq s1 g1=>⟨.inl (eL.of g1),rfl,rfl,_,rfl,fI (by decide) ⟨fL,eY λl H2 hl s2 g2=>k l [] H2 (s1.trans s2) (s1.free hl) g2 .nil⟩⟩⟩
 | name x=>obtain⟨p,rfl,hp⟩:=hd;exact⟨eD.of hp,rfl,fL,eY λq H1 hq s1 g1=>⟨.inl (eL.of g1),rfl,rfl,_,rfl,fI (by decide) ⟨fL,eY λl H2 hl s2 g2=>k l [] H2 (s1.trans s2) (s1.free hl) g2 .nil⟩⟩⟩
 | sum a b=>obtain⟨p,x,y,rfl,hp,d1,d2⟩:=hd;exact jY 1 (hs:=[_]) (us:=[x,y]) hp rfl (by decide) (b:=false) (by decide) rfl rfl (.cons d1 (.cons d2 .nil)) k
 | less a b=>obtain⟨p,x,y,rfl,hp,d1,d2⟩:=hd;exact jY 1 (hs:=[_]) (us:=[x,y]) hp rfl (by decide) (b:=false) (by decide) rfl rfl (.cons d1 (.cons d2 .nil)) k
 | cho a b c=>obtain⟨p,x,y,z,rfl,hp,d1,d2,d3⟩:=hd;exact jY 1 (hs:=[_]) (us:=[x,y,z]) hp rfl (by decide) (b:=false) (by decide) rfl rfl (.cons d1 (.cons d2 (.cons d3 .nil))) k
 | lt w a b=>obtain⟨p,x,y,rfl,hp,d1,d2⟩:=hd;exact jY 2 (hs:=[_,_]) (us:=[x,y]) hp rfl (by decide) (b:=true) (by decide) rfl rfl (.cons d1 (.cons d2 .nil)) k
 | st0 w=>obtain⟨p,rfl,hp⟩:=hd;exact jY 2 (hs:=[_,_]) (us:=[]) hp rfl (by decide) (b:=true) (by decide) rfl rfl .nil k
 | st1 w a=>obtain⟨p,x,rfl,hp,d1⟩:=hd;exact jY 2 (hs:=[_,_]) (us:=[x]) hp rfl (by decide) (b:=true) (by decide) rfl rfl (.cons d1 .nil) k
 | st2 w a b=>obtain⟨p,x,y,rfl,hp,d1,d2⟩:=hd;exact jY 2 (hs:=[_,_]) (us:=[x,y]) hp rfl (by decide) (b:=true) (by decide) rfl rfl (.cons d1 (.cons d2 .nil)) k
end SW
namespace SW
open PySem L2
def kQ(ws:List Str)(x:Str):List Str:=if x∈ws then ws else ws++[x]
def iX(ws:List Str):List (fB×V):=ws.map λx=>(Sum.inr x,V.bl true)
theorem uf:y∈kQ ws x↔y∈ws∨y=x:=by
 unfold kQ;split
 ·rename_i h;exact⟨.inl,λz=>z.elim id λe=>e▸h⟩
 ·simp
theorem qU(h:ws.Nodup):(kQ ws x).Nodup:=by
 unfold kQ;split
 ·exact h
 ·rename_i n;exact yJ h n
theorem oU(ws:List Str)(x:Str):(kQ ws x).length<=ws.length+1:=by
 unfold kQ;split
 ·lia
 ·simp
theorem wQ(ws:List Str):jO (iX ws)=ws.map V.str:=by simp[jO,iX,kV]
theorem nZ(ws:List Str):(iX ws).length=ws.length:=by simp[iX]
theorem nE(ws:List Str)(x:Str):(fP (iX ws) (Sum.inr x:fB)).isSome=decide (x∈ws):=by
 rw[<-jD];unfold iX;rw[List.any_map];by_cases h:x∈ws
 ·rw[decide_eq_true h];exact bz.mpr ⟨x,h,by simp⟩
 ·rw[decide_eq_false h];refine cI.mpr λy hy=>?_;simp only[c3,decide_eq_true_eq];intro e;cases e;exact h hy
theorem nO(ws:List Str)(x:Str):fh (iX ws) (Sum.inr x:fB) (.bl true)=iX (kQ ws x):=by
 unfold kQ;by_cases h:x∈ws
 ·rw[if_pos h];unfold fh;rw[jD,nE,decide_eq_true h,if_pos rfl];unfold iX;rw[bN];refine dA λy _=>?_;simp only[c3];split
  ·rename_i e;rw[e]
  ·rfl
 ·rw[if_neg h,qC _ (by cases e:fP (iX ws) (Sum.inr x:fB) with|none=>rfl|some z=>have:=nE ws x;rw[e,decide_eq_false h]at this;cases this)];simp[iX]
theorem qw(h:kind t="name"):∃x,t=.name x:=by
 cases t with
 | name x=>exact⟨x,rfl⟩
 | _=>simp only[kind]at h;exact absurd h (by decide)
theorem uj(h:kind t="let"):∃x a b,t=.lt x a b:=by
 cases t with
 | lt x a b=>exact⟨x,a,b,rfl⟩
 | _=>simp only[kind]at h;exact absurd h (by decide)
theorem lf(t:T)(us:List V):nC (hd t++us) 0=some (.str (kind t)):=by cases t<;>exact gF
theorem jK(a b:List T):fS (a++b)=fS a+fS b:=by simp[fS]
theorem qa{t:T}(h:∀y,t≠.name y):fS t.kids=t.names.length:=by
 cases t with
 | name y=>exact absurd rfl (h y)
 | _=>simp[fS,T.kids,T.names]<;>lia
theorem gI(h:l≠[]):∃us u,l=us++[u]:=⟨l.dropLast,l.getLast h,(List.dropLast_concat_getLast h).symm⟩
theorem iO:(us++[u])[(us++[u]).length-1]?=some u:=by simp
theorem gk:(us++[u]).dropLast=us:=by simp
end SW
namespace SW
open PySem L2
variable {K:aA}{vs:List V}{H:Hp}{Q:VK}{E:XK}
theorem uW(hD:D d):∀{ts:List T}{us:List V}{vs:List V},fm H ts vs->H d=some (.dK kvs)->us.length=vs.length->(∀(i:Nat) u v,us[i]?=some u->vs[i]?=some v->∃p,u=.ref p/\H p=some (.tup [v,.ref d]))->gu D H (ts.map λk=>(k,kvs)) us
 | _,us,_,.nil,_,hl,_=>by
  have:us=[]:=by simpa using hl
  subst this;exact .nil
 | _,[],_,.cons _ _,_,hl,_=>by simp at hl
 | _,u::us,_,.cons a r,hd,hl,k=>by obtain⟨p,e,hp⟩:=k 0 u _ rfl rfl;exact .cons ⟨p,_,d,e,hp,a,hd,hD⟩ (uW hD r hd (by simpa using hl) λi u v h1 h2=>k (i+1) u v (by simpa using h1) (by simpa using h2))
theorem OK(h:uK vs H Q E):K8 K (fk Q) (start ["piece","lets"] vs) H:=by
 obtain⟨t,v,d,kvs,rfl,hd,hk,hl,k⟩:=h;obtain⟨p,ks,rfl,hp,dk⟩:=hd.open;refine⟨eD.of hp,lf t ks,rfl,_,rfl,?_⟩;refine ir (λhn=>?_) (λhn=>?_)
 ·obtain⟨x,a,b,rfl⟩:=uj (V.str.inj (of_decide_eq_true hn));obtain⟨p',u1,u2,e,hp',d1,d2⟩:=hd;cases e;refine⟨eD.of hp',rfl,eD.of hp',rfl,?_⟩;refine⟨d,x,.bl true,kvs,rfl,hk,(by omega),λe1 H1 n1 s1 h1=>?_⟩;refine⟨fL,eY λq1 H2 hq1 s2 g2=>?_⟩;refine⟨eD.of (s2 _ _ (s1 _ _ hp')),rfl,fL,eY λq2 H3 hq2 s3 g3=>?_⟩;refine⟨fL,λl hl=>?_⟩;have s4:dq H3 (upd H3 l (.lst [.ref q1,.ref q2])):=dS hl;have s:=(s1.trans s2).trans (s3.trans s4);refine k l [.ref q1,.ref q2] _ s (((s1.trans s2).trans s3).free hl) dP (.cons ⟨q1,u2,e1,rfl,s4 _ _ (s3 _ _ g2),d2.mono (dW s),s4 _ _ (s3 _ _ (s2 _ _ h1)),.inr n1⟩ (.cons ⟨q2,u1,d,rfl,s4 _ _ g3,d1.mono (dW s),s _ _ hk,.inl rfl⟩ .nil))
 ·have nn:∀x a b,t≠.lt x a b:=λx a b z=>hn (by rw[z];exact decide_eq_true rfl);have em:jI t kvs=t.kids.map λk=>(k,kvs):=by
   cases t with
   | lt x a b=>exact absurd rfl (nn x a b)
   | _=>rfl
  rw[em]at k;refine⟨t,.ref p,rfl,hd,λq us H1 s1 h1 d1=>⟨eD.of h1,?_⟩⟩;have hlen:=d1.length;have hks:=eV t.kids;have hsm:us.length<=3:=by rw[hlen];cases t<;>simp[T.kids]
  refine⟨λi m zs H'=>m=us.length-i/\i<=us.length/\zs.length=i/\dq H1 H'/\∀(j:Nat) z v,zs[j]?=some z->us[j]?=some v->∃p,z=.ref p/\H' p=some (.tup [v,.ref d]),⟨us.length,by simp,aS _,rfl,λ_ _ h=>h,λj z v h=>by simp at h⟩,?_⟩;rintro i m zs H' ⟨rfl,hi,hz,s2,hw⟩;by_cases hlt:i<us.length
  ·refine .inr ⟨⟨us,us[i],eD.of (s2 _ _ h1),by simp[hlt]⟩,λx H2 y=>?_⟩;obtain⟨e,y⟩:=y;subst e;have hx:=y us (eD.of (s2 _ _ h1));refine⟨fL,λp2 hp2=>⟨by rw[hz,sizeLine_eq];lia,us.length-(i+1),by lia,rfl,hlt,by simp[hz],s2.trans (dS hp2),λj z v h1 h2=>?_⟩⟩;rcases bE j zs.length with hj|hj
   ·rw[au hj]at h1;obtain⟨p3,e3,g3⟩:=hw j z v h1 h2;exact⟨p3,e3,dS hp2 _ _ g3⟩
   ·rw[bC hj]at h1;have hj0:j-zs.length=0:=by
     cases q:j-zs.length with
     | zero=>rfl
     | succ n=>rw[q]at h1;simp at h1
    rw[hj0]at h1;have ej:j=i:=by lia
    subst ej;rw[hx]at h2;cases h2;have:z=.ref p2:=by simpa using h1.symm
    exact⟨p2,this,dP⟩
  ·have e:i=us.length:=by lia
   refine .inl ⟨⟨us,eD.of (s2 _ _ h1),by lia⟩,by rw[hz,sizeLine_eq];lia,λl hl=>?_⟩;have s3:=s2.trans (dS (o:=.lst zs) hl);refine k l zs _ (s1.trans s3) ((s1.trans s2).free hl) dP (uW (.inl rfl) (d1.mono (dW s3)) (s3 _ _ (s1 _ _ hk)) (by lia) λi u v h1 h2=>?_);obtain⟨p3,e3,g3⟩:=hw i u v h1 h2;exact⟨p3,e3,dS hl _ _ g3⟩
def iQ(qs:List (T×List (fB×V))):List T:=qs.map (·.1)
theorem iU(a b:List (T×List (fB×V))):iQ (a++b)=iQ a++iQ b:=by simp[iQ]
def lG(x:Str)(qs:List (T×List (fB×V))):Prop:=∃q∈qs,q.1.out x/\fP q.2 (Sum.inr x:fB)=none
theorem jm:lG x (a++b)↔lG x a∨lG x b:=by
 unfold lG;constructor
 ·rintro⟨t,h,o⟩;rcases aQ.mp h with z|z
  ·exact .inl ⟨t,z,o⟩
  ·exact .inr ⟨t,z,o⟩
 ·rintro(⟨t,h,o⟩|⟨t,h,o⟩)
  ·exact⟨t,ae _ h,o⟩
  ·exact⟨t,aL _ h,o⟩
theorem ma:lG x [q]↔q.1.out x/\fP q.2 (Sum.inr x:fB)=none:=by simp[lG]
theorem uX:¬lG x []:=by simp[lG]
theorem CP{x:Str}{ts:List T}{kvs:List (fB×V)}:lG x (ts.map λk=>(k,kvs))↔(∃k∈ts,k.out x)/\fP kvs (Sum.inr x:fB)=none:=by
 unfold lG;constructor
 ·rintro⟨q,h,o,v⟩;obtain⟨k,hk,rfl⟩:=bO.mp h;exact⟨⟨k,hk,o⟩,v⟩
 ·rintro⟨⟨k,hk,o⟩,v⟩;exact⟨(k,kvs),bO.mpr ⟨k,hk,rfl⟩,o,v⟩
theorem zT(t:T)(kvs:List (fB×V)):et (iQ (jI t kvs))+1=t.size:=by
 have h:=iy t;cases t with
 | lt x a b=>simp[iQ,jI,et,T.size]<;>lia
 | _=>rw[<-h];simp[iQ,jI,T.kids,et]
theorem zo(kvs:List (fB×V))(h:∀y,t≠.name y):fS (iQ (jI t kvs))=t.names.length:=by
 have e:=qa h;cases t with
 | lt x a b=>simp[iQ,jI,fS,T.names]<;>lia
 | _=>rw[<-e];simp[iQ,jI,T.kids,fS]
theorem FG{x:Str}{t:T}{kvs:List (fB×V)}(h:∀y,t≠.name y):lG x (jI t kvs)↔t.out x/\fP kvs (Sum.inr x:fB)=none:=by
 cases t with
 | name y=>exact absurd rfl (h y)
 | lt w a b=>
  have e:fP (fh kvs (Sum.inr w:fB) (.bl true)) (Sum.inr x:fB)=none↔w≠x/\fP kvs (Sum.inr x:fB)=none:=by
   rw[mP];by_cases q:w=x
   ·subst q;simp
   ·have q':¬(Sum.inr x:fB)=Sum.inr w:=λz=>q (Sum.inr.inj z).symm;rw[if_neg q'];simp[q]
  simp only[lG,jI,aB,aG,or_false,T.out];constructor
  ·rintro⟨q,rfl|rfl,o,v⟩
   ·exact⟨.inr ⟨(e.mp v).1,o⟩,(e.mp v).2⟩
   ·exact⟨.inl o,v⟩
  ·rintro⟨o|⟨n,o⟩,v⟩
   ·exact⟨_,.inr rfl,o,v⟩
   ·exact⟨_,.inl rfl,o,e.mpr ⟨n,v⟩⟩
 | _=>rw[show jI _ kvs=(T.kids _).map (λk=>(k,kvs))from rfl,CP];simp[T.kids,T.out]
theorem C9(h:kvs.length+t.size<=n):∀q∈jI t kvs,q.2.length+q.1.size<=n:=by
 have e:=gG kvs (Sum.inr (match t with|.lt x _ _=>x|_=>""):fB) (.bl true);cases t with
 | lt x a b=>
  have e:=gG kvs (Sum.inr x:fB) (.bl true);simp only[T.size]at h;intro q hq;simp only[jI,aB,aG,or_false]at hq;rcases hq with rfl|rfl
  ·show(fh kvs (Sum.inr x) (V.bl true)).length+b.size<=n;lia
  ·show kvs.length+a.size<=n;lia
 | _=>
  simp only[T.size]at h;intro q hq;simp only[jI,T.kids,aV,bA,aB,aG,or_false]at hq<;>first
   | exact hq.elim
   | (rcases hq with rfl|rfl|rfl<;>(simp only;lia))
   | (rcases hq with rfl|rfl<;>(simp only;lia))
   | (subst hq;simp only;lia)
structure Mt(t:T)(H₀ H:Hp)(f l:Addr)(ws:List Str)(qs:List (T×List (fB×V)))(us:List V):Prop where
 same:dq H₀ H
 nf:H₀ f=none
 nl:H₀ l=none
 f_:H f=some (.dK (iX ws))
 l_:H l=some (.lst us)
 pr:gu (λe=>e≠f) H qs us
 nd:ws.Nodup
 cnt:ws.length+fS (iQ qs)<=t.names.length
 sz:et (iQ qs)<=900
 dp:∀q∈qs,q.2.length+q.1.size<=950
 iff:∀x,x∈ws∨lG x qs↔t.out x
def PK(v:V)(t:T)(H:Hp)(m:Nat)(σ:St)(H':Hp):Prop:=∃f l j3 j4 j5 ws qs us,σ=[some v,some (.ref f),some (.ref l),j3,j4,j5]/\Mt t H H' f l ws qs us/\m=et (iQ qs)
theorem OL(h:pS vs H Q E):K9 K (fk Q) (start ["piece","found","waiting","pair","current","lets"] vs) H:=by
 obtain⟨t,v,rfl,hd,hsz,hnm,k⟩:=h;intro f hf;refine(λd hdn=>⟨fL,λp hp=>⟨fL,λl hl=>?_⟩⟩);have s1:dq H (upd H f (.dK [])):=dS hf;have s2:=dS (o:=.dK []) hdn;have s3:=dS (o:=.tup [v,.ref d]) hp;have s4:=dS (o:=.lst [.ref p]) hl;have hfd:d≠f:=(dX (dP (H:=H) (a:=f) (o:=.dK [])) hdn).symm;refine⟨PK v t H,⟨_,f,l,none,none,none,[],[(t,[])],[.ref p],rfl,?_,rfl⟩,?_⟩
 ·refine⟨s1.trans (s2.trans (s3.trans s4)),hf,((s1.trans s2).trans s3).free hl,s4 _ _ (s3 _ _ (s2 _ _ dP)),dP,.cons ⟨p,v,d,rfl,s4 _ _ dP,hd.mono (dW (s1.trans (s2.trans (s3.trans s4)))),s4 _ _ (s3 _ _ dP),hfd⟩ .nil,List.nodup_nil,?_,?_,?_,λx=>?_⟩
  ·simp[iQ,fS]
  ·simp[iQ,et];lia
  ·intro q hq;rw[aF]at hq;subst hq;simp;lia
  ·rw[ma];simp[AZ]
 ·rintro m σ H1 ⟨f,l,j3,j4,j5,ws,qs,us,rfl,A,rfl⟩;refine⟨.inl (eL.of A.l_),_,rfl,?_⟩;by_cases hv:us=[]
  ·subst hv;cases A.pr;refine eU rfl ?_;have hlen:ws.length<64:=cT (aP (ba _ _) A.cnt) hnm;refine⟨f,_,ws,rfl,.inl A.f_,wQ ws,hlen,λq ws' hq pm so=>?_⟩;refine k q ws' _ (A.same.trans (dS hq)) (A.same.free hq) dP (GB (zS so) (pm.nodup_iff.mpr A.nd)) λx=>?_;rw[pm.mem_iff,<-A.iff x];exact⟨.inl,λz=>z.elim id λz=>(uX z).elim⟩
  ·obtain⟨us,u,rfl⟩:=gI hv;refine fI (decide_eq_true (by simp)) ?_;obtain⟨qs',⟨t',kvs⟩,rfl,d1,p',v',d',rfl,hp',dn,hd',hdf⟩:=A.pr.snoc;refine⟨Lt (PK v t H) (et (iQ (qs'++[(t',kvs)]))),λ_ _ h=>h,?_⟩;refine⟨.inl ⟨rfl,_,eL.of A.l_⟩,A.l_,iO,?_⟩;rw[gk];have hfl:f≠l:=fM A.f_ A.l_ (by intro z;cases z);have hdl:d'≠l:=fM hd' A.l_ (by intro z;cases z);have tl1:fF H1 (upd H1 l (.lst us)):=fA A.l_;have s3:dq H (upd H1 l (.lst us)):=eJ A.same A.nl;have f3:(upd H1 l (.lst us)) f=some (.dK (iX ws)):=by rw[dY hfl];exact A.f_
   have l3:(upd H1 l (.lst us)) l=some (.lst us):=dP;have g3:(upd H1 l (.lst us)) d'=some (.dK kvs):=by rw[dY hdl];exact hd'
   have d3:gu (λe=>e≠f) (upd H1 l (.lst us)) qs' us:=d1.mono tl1 λe kv h1 h2=>⟨by rw[dY (fM h2 A.l_ (by intro z;cases z))];exact h2,h1⟩;have e3:=dn.mono tl1;have hp3:=tl1 _ _ hp';generalize upd H1 l (.lst us)=H3 at s3 f3 l3 d3 e3 hp3 g3⊢;have hcnt:=A.cnt;have hsz2:=A.sz;have hdp:=A.dp (t',kvs) (aL _ (aF.mpr rfl));simp only at hdp;rw[iU,eg]at hsz2;rw[iU,jK]at hcnt;have eq1:et (iQ [(t',kvs)])=t'.size:=by simp[iQ,et]
   have eq2:fS (iQ [(t',kvs)])=t'.names.length:=by simp[iQ,fS]
   rw[eq1]at hsz2;rw[eq2]at hcnt;obtain⟨pc,ks,rfl,hpc,dk⟩:=e3.open;refine⟨eD.of hp3,rfl,?_⟩;refine⟨eD.of hp3,rfl,?_⟩;have rest:∀(ws':List Str)(H4:Hp),dq H H4->H4 f=some (.dK (iX ws'))->H4 l=some (.lst us)->H4 d'=some (.dK kvs)->gu (λe=>e≠f) H4 qs' us->fc H4 t' (.ref pc)->ws'.Nodup->ws'.length+fS (iQ qs')+fS (iQ (jI t' kvs))<=t.names.length->
     (∀x,x∈ws'∨lG x qs'∨lG x (jI t' kvs)↔t.out x)->
     (eX (iW K "list" mZ (dJ 2) (dI (eN uK [] E0 (dI (dJ 4) (dI (dJ 5) dQ))) dQ))) {fk Q with nx:=Lt (PK v t H) (et (iQ (qs'++[(t',kvs)])))}
      [some v,some (.ref f),some (.ref l),some (.ref p'),some (.ref pc),some (.ref d')] H4:=by
    intro ws' H4 s4 f4 l4 g4 d4 e4 nd4 c4 i4;refine⟨.inl ⟨rfl,_,eL.of l4⟩,t',.ref pc,d',kvs,rfl,e4,g4,by lia,λl2 us2 H5 s5 n5 h5 d5=>?_⟩;have hk:=zT t' kvs;have q1:=d4.length;have q2:=d5.length;have q3:=eV (iQ qs');have q4:=eV (iQ (jI t' kvs));have q5:(iQ qs').length=qs'.length:=by simp[iQ]
    have q6:(iQ (jI t' kvs)).length=(jI t' kvs).length:=by simp[iQ]
    refine⟨l,l2,us,us2,rfl,rfl,s5 _ _ l4,h5,by rw[sizeLine_eq];lia,?_⟩;have l5:=s5 _ _ l4;have t6:fF H5 (upd H5 l (.lst (us++us2))):=fA l5;have dl6:∀(D:Addr->Prop) e kv,D e->H5 e=some (.dK kv)->(upd H5 l (.lst (us++us2))) e=some (.dK kv)/\D e:=λD e kv h1 h2=>⟨by rw[dY (fM h2 l5 (by intro z;cases z))];exact h2,h1⟩;have d6:gu (λe=>e≠f) H5 (jI t' kvs) us2:=d5.mono fF.refl λe kv h1 h2=>⟨h2,by
     rcases h1 with rfl|h1
     ·exact hdf
     ·exact(dX f4 h1).symm⟩
    have d7:gu (λe=>e≠f) H5 qs' us:=d4.mono (dW s5) λe kv h1 h2=>⟨s5 _ _ h2,h1⟩;refine⟨et (iQ (qs'++jI t' kvs)),by rw[iU,iU,eg,eg,eq1];lia,f,l,_,_,_,ws',qs'++jI t' kvs,us++us2,rfl,⟨eJ (s4.trans s5) A.nl,A.nf,A.nl,?_,dP,(d7.append d6).mono t6 (dl6 _),nd4,?_,?_,λq hq=>?_,λx=>?_⟩,rfl⟩
    ·rw[dY hfl];exact s5 _ _ f4
    ·rw[iU,jK];lia
    ·rw[iU,eg];lia
    ·rcases aQ.mp hq with z|z
     ·exact A.dp q (ae _ z)
     ·exact C9 hdp q z
    ·rw[jm];exact i4 x
   have nameOnly:∀x,t'=.name x->jI t' kvs=[]:=λx e=>by subst e;rfl
   refine⟨eD.of hpc,lf t' ks,rfl,_,rfl,?_⟩;refine ir (λhn=>?_) (λhn=>?_)
   ·obtain⟨x,rfl⟩:=qw (V.str.inj (of_decide_eq_true hn));refine⟨eD.of hpc,iM,iR.k (k:=.inr x) g3,_,rfl,?_⟩;have q2:(T.name x).names.length=1:=rfl;have q3:fS (iQ (jI (T.name x) kvs))=0:=rfl;have q4:∀y,¬lG y (jI (T.name x) kvs):=λy=>uX;refine ir (λhx=>?_) (λhx=>?_)
    ·have hx:fP kvs (Sum.inr x:fB)=none:=by
      cases q:fP kvs (Sum.inr x:fB) with
      | none=>rfl
      | some z=>rw[q]at hx;cases hx
     refine⟨eD.of hpc,iM,lO.k (k:=.inr x) f3 (lU (by rw[nZ];lia)),?_⟩;rw[nO];have tf:fF H3 (upd H3 f (.dK (iX (kQ ws x)))):=uA f3;refine rest (kQ ws x) _ (eJ s3 A.nf) dP ?_ ?_ (d3.mono tf λe kv h1 h2=>⟨by rw[dY h1];exact h2,h1⟩) (e3.mono tf) (qU A.nd) ?_ λy=>?_
     ·rw[dY hfl.symm];exact l3
     ·rw[dY hdf];exact g3
     ·have q1:=oU ws x;lia
     ·rw[uf,<-A.iff y,jm,ma];have q5:(T.name x).out y/\fP kvs (Sum.inr y:fB)=none↔y=x:=⟨λz=>z.1.symm,λz=>⟨z.symm,z▸hx⟩⟩;show _↔y∈ws∨lG y qs'∨((T.name x).out y/\fP kvs (Sum.inr y:fB)=none);rw[q5];constructor
      ·rintro((z|z)|z|z)
       ·exact .inl z
       ·exact .inr (.inr z)
       ·exact .inr (.inl z)
       ·exact(q4 y z).elim
      ·rintro(z|z|z)
       ·exact .inl (.inl z)
       ·exact .inr (.inl z)
       ·exact .inl (.inr z)
    ·refine rest ws _ s3 f3 l3 g3 d3 e3 A.nd (by lia) λy=>?_;rw[<-A.iff y,jm,ma];have q5:¬((T.name x).out y/\fP kvs (Sum.inr y:fB)=none):=λz=>by have e:x=y:=z.1;subst e;rw[z.2]at hx;exact hx rfl
     constructor
     ·rintro(z|z|z)
      ·exact .inl z
      ·exact .inr (.inl z)
      ·exact(q4 y z).elim
     ·rintro(z|z|z)
      ·exact .inl z
      ·exact .inr (.inl z)
      ·exact(q5 z).elim
   ·have nn:∀y,t'≠.name y:=λy z=>hn (by rw[z];exact decide_eq_true rfl);refine jE ?_;refine rest ws _ s3 f3 l3 g3 d3 e3 A.nd ?_ λy=>?_
    ·rw[zo kvs nn];lia
    ·rw[FG nn,<-A.iff y,jm,ma]
theorem DC(xs:List V)(k:Nat)(hk:0<k):iJ xs (some (-(k:Int))) none=xs.drop (xs.length-k):=by
 unfold iJ HT.kG;have h1:(-(k:Int))<0:=by lia
 simp only[h1,if_true];have e:(-(k:Int)+(xs.length:Int)).toNat=xs.length-k:=by lia
 rw[e,bQ];rw[ah];lia
theorem oE(xs:List V)(k:Nat)(hk:0<k):iJ xs none (some (-(k:Int)))=xs.take (xs.length-k):=by
 unfold iJ HT.kG;have h1:(-(k:Int))<0:=by lia
 simp only[h1,if_true,af,bh];have e:(-(k:Int)+(xs.length:Int)).toNat=xs.length-k:=by lia
 rw[e]
theorem lJ(xs:List V)(k:Nat)(hk:k<=xs.length):iJ xs (some (k:Int)) none=xs.drop k:=by unfold iJ;rw[HT.M9,HT.LO,bZ hk,bQ];rw[ah];lia
theorem tF(xs:List V)(k:Nat)(hk:k<=xs.length):iJ xs none (some (k:Int))=xs.take k:=by unfold iJ;rw[HT.M9,HT.LO,bZ hk,af,bh]
theorem fm.split:∀{us:List V}{ts:List T}{ws:List V},fm H ts (us++ws)->∃ta tb,ts=ta++tb/\fm H ta us/\fm H tb ws
 | [],ts,ws,h=>⟨[],ts,rfl,.nil,h⟩
 | u::us,_,ws,.cons a r=>by obtain⟨ta,tb,rfl,h1,h2⟩:=fm.split (us:=us) r;exact⟨_::ta,tb,rfl,.cons a h1,h2⟩
theorem vC(xs:List V)(a b:V):nC (xs++[a,b]) (-2)=some a:=by
 unfold nC AS;have h1:¬(0:Int)<=-2:=by decide
 have h2 : -((xs++[a,b]).length:Int)<=-2:=by simp;lia
 rw[if_neg h1,if_pos h2];have e:(-2+((xs++[a,b]).length:Int)).toNat=xs.length:=by simp;lia
 show(xs++[a,b])[(-2+((xs++[a,b]).length:Int)).toNat]?=some a;rw[e];simp
theorem qS(xs:List V)(a b:V):nC (xs++[a,b]) (-1)=some b:=by have:=DO (xs++[a]) b;rw[aW]at this;exact this
section
variable {S:Str->Nat->Prop}{H₀ H1:Hp}{n:Nat}{l p:Addr}{ts:List T}{t:T}{v:V}
theorem ki.mono(P:ki S H₀ H n l vs ts)(s:dq H H1):ki S H₀ H1 n l vs ts:=⟨P.same.trans s,P.new,s _ _ P.at_,P.den.mono (dW s),P.sz,P.one,P.wt⟩
theorem ki.push(P:ki S H₀ H n l vs ts)(hd:fc H t v)(wt:WG S t)(hs:t.size=1):ki S H₀ (upd H l (.lst (vs++[v]))) (n+1) l (vs++[v]) (ts++[t]):=by
 have tl:=fA (o:=.lst (vs++[v])) P.at_;refine⟨eJ P.same P.new,P.new,dP,(P.den.mono tl).append (.cons (hd.mono tl) .nil),?_,by simp,λu hu=>?_⟩
 ·rw[eg,ft,iS];have:=P.sz;lia
 ·rcases aQ.mp hu with z|z
  ·exact P.wt u z
  ·rw[aF]at z;subst z;exact wt
theorem ki.fold(P:ki S H₀ H n l (us++ws) (ta++tb))(s:dq H H1)(hp:H1 p=none)(d:fm H ta us)(hd:fc H1 t v)(wt:WG S t)(hs:t.size=et tb+1):ki S H₀ (upd H1 p (.lst (us++[v]))) (n+1) p (us++[v]) (ta++[t]):=by
 have tl:=vR (o:=.lst (us++[v])) hp;refine⟨(P.same.trans s).trans (dS hp),(P.same.trans s).free hp,dP,((d.mono (dW s)).mono tl).append (.cons (hd.mono tl) .nil),?_,by simp,λu hu=>?_⟩
 ·have:=P.sz;rw[eg]at this⊢;rw[ft,iS];lia
 ·rcases aQ.mp hu with z|z
  ·exact P.wt u (ae _ z)
  ·rw[aF]at z;subst z;exact wt
def DZ(S:Str->Nat->Prop)(H₀:Hp)(c st:Addr)(n:Nat)(σ:L2.St)(H:Hp):Prop:=
 ∃l vs ts j3 j4 j5 j6 j7 j8 j9 j10 j11 j12,σ=[some (.ref c),some (.ref st),some (.ref l),j3,j4,j5,j6,j7,j8,j9,j10,j11,j12]/\ki S H₀ H n l vs ts
end
section
variable {S:Str->Nat->Prop}{H₀:Hp}{n:Nat}{l c st li:Addr}{ts:List T}{D:fz}{cell rest way:Int}{x:Str}{j8 j9 j10 j11 j12:Option V}
theorem mY(P:ki S H₀ H n l vs ts)(hn:n<=1000)(hD:∀σ H,DZ S H₀ c st (n+1) σ H->D.nx σ H):
  BM K D [some (.ref c),some (.ref st),some (.ref l),some (.int cell),some (.int rest),some (.int way),some (.str x),some (.ref li),j8,j9,j10,j11,j12] H:=by
 refine⟨.inl ⟨rfl,_,eL.of P.at_⟩,?_⟩;refine⟨(show(0:Int)<4 by decide),rest,rfl,λz H1 hz s1=>⟨fL,eY λq H2 hq zq hq1=>?_⟩⟩;have P1:=(P.mono s1).mono zq;refine⟨(show(0:Int)<5 by decide),rfl,.inr ⟨_,rfl,?_⟩⟩;have hi:0<=(if decide (V.int (rest%5)=V.int 3)=true then(1:Int)else 0)/\(if decide (V.int (rest%5)=V.int 3)=true then(1:Int)else 0)<([V.int (rest%4-1),V.int z]:List V).length:=by
  constructor
  ·split<;>decide
  ·show _<((2:Nat):Int);split<;>decide
 obtain⟨u,hu,e⟩:=lh hi.1 hi.2;obtain⟨y,rfl,hy⟩:∃y,u=.int y/\(-(10^60)<y/\y<10^60):=by
  have e60:(10:Int)^60=1000000000000000000000000000000000000000000000000000000000000:=by decide
  have e59:(10:Int)^59=100000000000000000000000000000000000000000000000000000000000:=by decide
  rw[e60];rw[e59]at hz;rcases aB.mp hu with rfl|hu
  ·exact⟨_,rfl,by lia⟩
  ·rw[aF]at hu;exact⟨_,hu,by lia⟩
 refine⟨eL.of hq1,e,fL,λp hp=>?_⟩;have P2:=P1.mono (dS (o:=.tup [.str "number",.int y]) hp);have hl:vs.length<=n:=by rw[P.den.length];exact aP (eV ts) P.sz
 refine⟨P2.at_,by rw[sizeLine_eq];lia,hD _ _ ⟨l,vs++[.ref p],ts++[.num y],_,_,_,_,_,_,_,_,_,_,rfl,P2.push (t:=.num y) (v:=.ref p) ⟨p,rfl,dP⟩ hy rfl⟩⟩
theorem vq(P:ki S H₀ H n l vs ts)(hn:n<=1000)(hx:Wg x)(hD:∀σ H,DZ S H₀ c st (n+1) σ H->D.nx σ H):
  BL K D [some (.ref c),some (.ref st),some (.ref l),some (.int cell),some (.int rest),some (.int way),some (.str x),some (.ref li),j8,j9,j10,j11,j12] H:=by
 refine⟨.inl ⟨rfl,_,eL.of P.at_⟩,fL,λp hp=>?_⟩;have P2:=P.mono (dS (o:=.tup [.str "name",.str x]) hp);have hl:vs.length<=n:=by rw[P.den.length];exact aP (eV ts) P.sz
 refine⟨P2.at_,by rw[sizeLine_eq];lia,hD _ _ ⟨l,vs++[.ref p],ts++[.name x],_,_,_,_,_,_,_,_,_,_,rfl,P2.push (t:=.name x) (v:=.ref p) ⟨p,rfl,dP⟩ hx rfl⟩⟩
theorem sJ(P:ki S H₀ H n l (us++[a,b,d]) (ta++[t1,t2,t3]))(hn:n<=1000)(d0:fm H ta us)(d1:fc H t1 a)(d2:fc H t2 b)(d3:fc H t3 d)(hli:H li=some (.lst [a,b,d]))(hD:∀σ H,DZ S H₀ c st (n+1) σ H->D.nx σ H):
  BJ K D [some (.ref c),some (.ref st),some (.ref l),some (.int cell),some (.int rest),some (.int way),some (.str x),some (.ref li),j8,j9,j10,j11,j12] H:=by
 refine⟨eL.of P.at_,λq hq=>?_⟩;rw[show(-3:Int)=-((3:Nat):Int)from rfl,oE _ 3 (by decide),show(us++[a,b,d]).length-3=us.length by simp,b4];have s1:=dS (o:=.lst us) hq;have g1:(upd H q (.lst us)) q=some (.lst us):=dP;generalize upd H q (.lst us)=G1 at s1 g1⊢;refine⟨eL.of (s1 _ _ hli),rfl,eL.of (s1 _ _ hli),rfl,eL.of (s1 _ _ hli),rfl,fL,eY λp G2 hp s2 g2=>?_⟩;refine⟨fL,eY λq2 G3 hq2 s3 g3=>?_⟩;have sA:=s1.trans (s2.trans s3);have hl:(us++[a,b,d]).length<=n:=by rw[P.den.length];exact aP (eV _) P.sz
 rw[aE]at hl;refine⟨s3 _ _ (s2 _ _ g1),g3,by rw[sizeLine_eq];simp;lia,λp3 hp3=>hD _ _ ⟨p3,us++[.ref p],ta++[.cho t1 t2 t3],_,_,_,_,_,_,_,_,_,_,rfl,P.fold (t:=.cho t1 t2 t3) (v:=.ref p) sA hp3 d0 ⟨p,a,b,d,rfl,s3 _ _ g2,d1.mono (dW sA),d2.mono (dW sA),d3.mono (dW sA)⟩ ⟨P.wt _ (by simp),P.wt _ (by simp),P.wt _ (by simp)⟩ (by simp[T.size,et];lia)⟩⟩;simp
theorem zd(P:ki S H₀ H n l (us++[a,b]) (ta++[t1,t2]))(hn:n<=1000)(d0:fm H ta us)(d1:fc H t1 a)(d2:fc H t2 b)(hli:H li=some (.lst (zs++[a,b])))(hD:∀σ H,DZ S H₀ c st (n+1) σ H->D.nx σ H):
  BI K D [some (.ref c),some (.ref st),some (.ref l),some (.int cell),some (.int rest),some (.int way),some (.str x),some (.ref li),j8,j9,j10,j11,j12] H:=by
 refine⟨eL.of P.at_,λq hq=>?_⟩;rw[show(-2:Int)=-((2:Nat):Int)from rfl,oE _ 2 (by decide),show(us++[a,b]).length-2=us.length by simp,b4];have s1:=dS (o:=.lst us) hq;have g1:(upd H q (.lst us)) q=some (.lst us):=dP;generalize upd H q (.lst us)=G1 at s1 g1⊢;refine⟨fL,eY λq1 G1b hq1 s1b g1b=>?_⟩;have sB:=s1.trans s1b;have hw:0<=way%2/\way%2<2:=by lia
 obtain⟨u,hu,e⟩:=lh (xs:=[V.str "sum",V.str "less"]) hw.1 hw.2;refine⟨(show(0:Int)<2 by decide),eL.of g1b,e,?_⟩;refine⟨eL.of (sB _ _ hli),vC zs a b,eL.of (sB _ _ hli),qS zs a b,fL,eY λp G2 hp s2 g2=>?_⟩;refine⟨fL,eY λq2 G3 hq2 s3 g3=>?_⟩;have sA:=sB.trans (s2.trans s3);have hl:(us++[a,b]).length<=n:=by rw[P.den.length];exact aP (eV _) P.sz
 rw[aE]at hl;have e1:=d1.mono (dW sA);have e2:=d2.mono (dW sA);have w1:WG S t1:=P.wt _ (by simp);have w2:WG S t2:=P.wt _ (by simp);refine⟨s3 _ _ (s2 _ _ (s1b _ _ g1)),g3,by rw[sizeLine_eq];simp;lia,λp3 hp3=>?_⟩;rcases aB.mp hu with rfl|hu
 ·exact hD _ _ ⟨p3,us++[.ref p],ta++[.sum t1 t2],_,_,_,_,_,_,_,_,_,_,rfl,P.fold (t:=.sum t1 t2) (v:=.ref p) sA hp3 d0 ⟨p,a,b,rfl,s3 _ _ g2,e1,e2⟩ ⟨w1,w2⟩ (by simp[T.size,et])⟩
 ·rw[aF]at hu;subst hu;exact hD _ _ ⟨p3,us++[.ref p],ta++[.less t1 t2],_,_,_,_,_,_,_,_,_,_,rfl,P.fold (t:=.less t1 t2) (v:=.ref p) sA hp3 d0 ⟨p,a,b,rfl,s3 _ _ g2,e1,e2⟩ ⟨w1,w2⟩ (by simp[T.size,et])⟩
 all_goals simp
end
theorem wU(h:(if false=true then !De (V.str (kind t)) [V.str "sum",V.str "less"]else De (V.str (kind t)) [V.str "sum",V.str "less"])=true):(∃a b,t=.sum a b)∨∃a b,t=.less a b:=by
 rw[if_neg aR]at h;cases t with
 | sum a b=>exact .inl ⟨a,b,rfl⟩
 | less a b=>exact .inr ⟨a,b,rfl⟩
 | _=>simp only[kind]at h;exact absurd h (by decide)
section
variable {S:Str->Nat->Prop}{H₀:Hp}{n:Nat}{l c st li:Addr}{ts:List T}{D:fz}{cell rest way:Int}{x:Str}{j8 j9 j10 j11 j12:Option V}
theorem ze(P:ki S H₀ H n l (us++[a,b]) (ta++[t1,t2]))(hn:n<=1000)(d0:fm H ta us)(d1:fc H t1 a)(d2:fc H t2 b)(hli:H li=some (.lst (zs++[a,b])))(hx:Wg x)(hD:∀σ H,DZ S H₀ c st (n+1) σ H->D.nx σ H):
  xS K D [some (.ref c),some (.ref st),some (.ref l),some (.int cell),some (.int rest),some (.int way),some (.str x),some (.ref li),j8,j9,j10,j11,j12] H:=by
 have w1:WG S t1:=P.wt _ (by simp);have w2:WG S t2:=P.wt _ (by simp);have last:∀(y:Str)(vl:V)(G:Hp),Wg y->dq H G->
   (eB (dj nN (nB (jX K) (dJ 2) fg (fi (mQ gQ (tC (.int 2))))) (fG (dI (ef (dI (tC (.str "let")) (dI (dJ 6) (dI (dj (fu K) (dJ 7) (mQ gQ (tC (.int 2)))) (dI (dj (fu K) (dJ 7) (mQ gQ (tC (.int 1)))) dQ))))) dQ))) (dR 2)) D
    [some (.ref c),some (.ref st),some (.ref l),some (.int cell),some (.int rest),some (.int way),some (.str y),some (.ref li),some vl,j9,j10,j11,j12] G:=by
  intro y vl G hy sG;have PG:=P.mono sG;refine⟨eL.of PG.at_,λq hq=>?_⟩;rw[show(-2:Int)=-((2:Nat):Int)from rfl,oE _ 2 (by decide),show(us++[a,b]).length-2=us.length by simp,b4];have s1:=dS (o:=.lst us) hq;have g1:(upd G q (.lst us)) q=some (.lst us):=dP;generalize upd G q (.lst us)=G1 at s1 g1⊢;have hli1:=s1 _ _ (sG _ _ hli);refine⟨eL.of hli1,vC zs a b,eL.of hli1,qS zs a b,fL,eY λp G2 hp s2 g2=>?_⟩;refine⟨fL,eY λq2 G3 hq2 s3 g3=>?_⟩;have sA:=s1.trans (s2.trans s3);have hl:(us++[a,b]).length<=n:=by rw[P.den.length];exact aP (eV _) P.sz
  rw[aE]at hl;have e1:=(d1.mono (dW sG)).mono (dW sA);have e2:=(d2.mono (dW sG)).mono (dW sA);refine⟨s3 _ _ (s2 _ _ g1),g3,by rw[sizeLine_eq];simp;lia,λp3 hp3=>?_⟩;exact hD _ _ ⟨p3,us++[.ref p],ta++[.lt y t1 t2],_,_,_,_,_,_,_,_,_,_,rfl,PG.fold (t:=.lt y t1 t2) (v:=.ref p) sA hp3 (d0.mono (dW sG)) ⟨p,a,b,rfl,s3 _ _ g2,e1,e2⟩ ⟨hy,w1,w2⟩ (by simp[T.size,et])⟩;simp
 have rest2:∀(tl:T)(vl:V)(G:Hp),dq H G->fc G tl vl->WG S tl->
   (dZ (xU K) (eB (dj nN (nB (jX K) (dJ 2) fg (fi (mQ gQ (tC (.int 2))))) (fG (dI (ef (dI (tC (.str "let")) (dI (dJ 6) (dI (dj (fu K) (dJ 7) (mQ gQ (tC (.int 2)))) (dI (dj (fu K) (dJ 7) (mQ gQ (tC (.int 1)))) dQ))))) dQ))) (dR 2))) D
    [some (.ref c),some (.ref st),some (.ref l),some (.int cell),some (.int rest),some (.int way),some (.str x),some (.ref li),some vl,j9,j10,j11,j12] G:=by
  intro tl vl G sG dl wl;obtain⟨pl,ks,rfl,hpl,_⟩:=dl.open;refine⟨eD.of hpl,lf tl ks,rfl,_,rfl,?_⟩;refine ir (λhk=>?_) (λhk=>?_)
  ·obtain⟨y,rfl⟩:=qw (V.str.inj (of_decide_eq_true hk));refine⟨(show(0:Int)<3 by decide),_,rfl,?_⟩;refine ir (λ_=>?_) (λ_=>?_)
   ·exact⟨eD.of hpl,iM,last y _ G wl sG⟩
   ·exact last x _ G hx sG
  ·exact jE (last x _ G hx sG)
 obtain⟨pb,ks,rfl,hpb,_⟩:=d2.open;refine⟨eL.of hli,qS zs a _,?_⟩;refine⟨eD.of hpb,lf t2 ks,fL,eY λq G1 hq s1 g1=>?_⟩;refine⟨.inl (eL.of g1),rfl,rfl,_,rfl,?_⟩;refine ir (λhk=>?_) (λhk=>?_)
 ·rcases wU hk with⟨a',b',rfl⟩|⟨a',b',rfl⟩
  ·obtain⟨p',u1,u2,e,h3,e1,e2⟩:=d2;cases e;exact⟨eD.of (s1 _ _ h3),rfl,rest2 b' u2 G1 s1 (e2.mono (dW s1)) w2.2⟩
  ·obtain⟨p',u1,u2,e,h3,e1,e2⟩:=d2;cases e;exact⟨eD.of (s1 _ _ h3),rfl,rest2 b' u2 G1 s1 (e2.mono (dW s1)) w2.2⟩
 ·exact rest2 t2 _ G1 s1 (d2.mono (dW s1)) w2
theorem BV(hm:m<=2)(hS:S nm m)(hl:ws.length=m)(d:fm H tb ws)(wt:∀t∈tb,WG S t)(hp:H p=some (.tup ([.str "stamp",.str nm]++ws))):
  ∃t,fc H t (.ref p)/\WG S t/\t.size=et tb+1:=by
 cases d with
 | nil=>subst hl;exact⟨.st0 nm,⟨p,rfl,hp⟩,hS,rfl⟩
 | @cons t1 v1 tb ws a r=>
  cases r with
  | nil=>subst hl;exact⟨.st1 nm t1,⟨p,v1,rfl,hp,a⟩,⟨hS,wt _ (by simp)⟩,by simp[T.size,et]⟩
  | @cons t2 v2 tb ws b r=>
   cases r with
   | nil=>subst hl;exact⟨.st2 nm t1 t2,⟨p,v1,v2,rfl,hp,a,b⟩,⟨hS,wt _ (by simp),wt _ (by simp)⟩,by simp[T.size,et]⟩
   | cons _ _=>simp at hl;lia
theorem uP(P:ki S H₀ H n l vs ts)(hn:n<=1000)(hst:H st=some (.lst xs))(hxs:xs≠[])(hS:jF S H xs)(hD:∀σ H,DZ S H₀ c st (n+1) σ H->D.nx σ H)(hD0:∀σ H,DZ S H₀ c st n σ H->D.nx σ H):
  xR K D [some (.ref c),some (.ref st),some (.ref l),some (.int cell),some (.int rest),some (.int way),some (.str x),some (.ref li),j8,j9,j10,j11,j12] H:=by
 have hpos:(0:Int)<(xs.length:Int):=by
  cases xs with
  | nil=>exact absurd rfl hxs
  | cons _ _=>simp
 have hr:=bx rest (Int.ne_of_gt hpos);have hr2:=Int.emod_lt_of_pos rest hpos;obtain⟨v,hv,e⟩:=lh hr hr2;obtain⟨q,nm,m,rfl,hq,hm,hSm⟩:=hS v hv;refine⟨.inl (eL.of hst),hpos,eL.of hst,e,eD.of hq,rfl,rfl,?_⟩;refine⟨.inl (eL.of P.at_),_,_,rfl,?_⟩;refine⟨.inl (eL.of hst),hpos,eL.of hst,e,eD.of hq,iM,rfl,_,rfl,?_⟩;refine ir (λhk=>?_) (λhk=>?_)
 ·have hk:(if(vs.length:Int)<(m:Int)then(vs.length:Int)else(m:Int))=m:=V.int.inj (of_decide_eq_true hk);have hml:m<=vs.length:=by
   split at hk
   ·lia
   ·lia
  rw[hk];obtain⟨us,ws,rfl,hws⟩:∃us ws,vs=us++ws/\ws.length=m:=⟨vs.take (vs.length-m),vs.drop (vs.length-m),(b5 _ _).symm,by rw[ah];lia⟩;obtain⟨ta,tb,rfl,d0,d1⟩:=P.den.split;have hel:((us++ws).length:Int)-(m:Int)=((us.length:Nat):Int):=by rw[aE];lia
  have hl:(us++ws).length<=n:=by rw[P.den.length];exact aP (eV _) P.sz
  rw[aE]at hl;refine⟨fL,eY λq1 G1 hq1 s1 g1=>?_⟩;refine⟨.inl (eL.of (s1 _ _ P.at_)),eL.of (s1 _ _ P.at_),λq2 hq2=>?_⟩;rw[hel,lJ _ _ (by simp),cV];have s2:=dS (o:=.lst ws) hq2;have g2:(upd G1 q2 (.lst ws)) q2=some (.lst ws):=dP;generalize upd G1 q2 (.lst ws)=G2 at s2 g2⊢;refine⟨s2 _ _ g1,g2,by rw[sizeLine_eq];simp;lia,eY λq3 G3 hq3 s3 g3=>?_⟩;refine⟨q3,_,rfl,.inl ⟨eL.of g3,eY λq4 G4 hq4 s4 g4=>?_⟩⟩;have sB:=(s1.trans s2).trans (s3.trans s4);refine⟨.inl (eL.of (sB _ _ P.at_)),eL.of (sB _ _ P.at_),λq5 hq5=>?_⟩;rw[hel,tF _ _ (by simp),b4];have s5:=dS (o:=.lst us) hq5;have g5:(upd G4 q5 (.lst us)) q5=some (.lst us):=dP;generalize upd G4 q5 (.lst us)=G5 at s5 g5⊢;refine⟨fL,eY λq6 G6 hq6 s6 g6=>?_⟩;have sA:=sB.trans (s5.trans s6);obtain⟨t,dt,wt,hs⟩:=BV hm hSm hws (d1.mono (dW sA)) (λt ht=>P.wt t (aL _ ht)) (s6 _ _ (s5 _ _ g4));refine⟨s6 _ _ g5,g6,by rw[sizeLine_eq];simp;lia,λp3 hp3=>?_⟩;exact hD _ _ ⟨p3,us++[.ref q4],ta++[t],_,_,_,_,_,_,_,_,_,_,rfl,P.fold sA hp3 d0 dt wt hs⟩
  all_goals rfl
 ·exact hD0 _ _ ⟨l,vs,ts,_,_,_,_,_,_,_,_,_,_,rfl,P⟩
end
theorem pK:∀{l:List α},2<=l.length->∃us a b,l=us++[a,b]:=λ{l} h=>by
 have hne:l≠[]:=by intro e;subst e;simp at h
 obtain⟨us,b,rfl⟩:=gI hne;have hne:us≠[]:=by intro e;subst e;simp at h
 obtain⟨us,a,rfl⟩:=gI hne;exact⟨us,a,b,by simp⟩
theorem vS:∀{l:List α},3<=l.length->∃us a b c,l=us++[a,b,c]:=λ{l} h=>by
 have hne:l≠[]:=by intro e;subst e;simp at h
 obtain⟨us,c,rfl⟩:=gI hne;obtain⟨us,a,b,rfl⟩:=pK (l:=us) (by simp at h;lia);exact⟨us,a,b,c,by simp⟩
section
variable {S:Str->Nat->Prop}{H₀:Hp}{n:Nat}{l c st li:Addr}{ts:List T}{D:fz}{cell rest way:Int}{x:Str}{j8 j9 j10 j11 j12:Option V}
theorem Bw(P:ki S H₀ H n l vs ts)(hn:n<=1000)(hli:H li=some (.lst (vs.drop (vs.length-3))))(hw:0<=way/\way<9)(hx:Wg x)(hst:H st=some (.lst xs))(hS:jF S H xs)
  (hD:∀σ H,DZ S H₀ c st (n+1) σ H->D.nx σ H):
  rX K D [some (.ref c),some (.ref st),some (.ref l),some (.int cell),some (.int rest),some (.int way),some (.str x),some (.ref li),j8,j9,j10,j11,j12] H:=by
 have hD0:∀σ H,DZ S H₀ c st n σ H->D.nx σ H:=λσ H h=>hD σ H (by
  obtain⟨l,vs,ts,j3,j4,j5,j6,j7,j8,j9,j10,j11,j12,e,P⟩:=h;exact⟨l,vs,ts,j3,j4,j5,j6,j7,j8,j9,j10,j11,j12,e,P.same,P.new,P.at_,P.den,by have:=P.sz;lia,P.one,P.wt⟩)
 have hlen:(vs.drop (vs.length-3)).length=min 3 vs.length:=by rw[ah];lia
 have h1:1<=vs.length:=by
  rw[P.den.length];cases ts with
  | nil=>exact absurd rfl P.one
  | cons _ _=>simp
 have two:2<=vs.length->∃us a b ta t1 t2,vs=us++[a,b]/\ts=ta++[t1,t2]/\fm H ta us/\fc H t1 a/\fc H t2 b/\∃zs,vs.drop (vs.length-3)=zs++[a,b]:=λh2=>by
  obtain⟨us,a,b,rfl⟩:=pK h2;obtain⟨ta,tb,rfl,d0,d1⟩:=P.den.split;cases d1 with
  | cons e1 r=>
  cases r with
  | cons e2 r=>
  cases r;refine⟨us,a,b,ta,_,_,rfl,rfl,d0,e1,e2,us.drop (us.length-1),?_⟩;rw[show(us++[a,b]).length-3=us.length-1 by simp,List.drop_append_of_le_length (by lia)]
 have other:way≠0->((vs.drop (vs.length-3)).length=1->¬(2<way/\way<7))->
   xP K D [some (.ref c),some (.ref st),some (.ref l),some (.int cell),some (.int rest),some (.int way),some (.str x),some (.ref li),j8,j9,j10,j11,j12] H:=by
  intro h0 hno;have hge:2<way->way<7->2<=vs.length:=λa b=>by
   rcases bE vs.length 2 with z|z
   ·exact absurd ⟨a,b⟩ (hno (by rw[hlen];lia))
   ·exact z
  refine⟨_,rfl,?_⟩;refine ir (λh3=>vq P hn hx hD) (λh3=>?_);have h3:¬way<3:=λz=>h3 (decide_eq_true z);have low:xQ K D [some (.ref c),some (.ref st),some (.ref l),some (.int cell),some (.int rest),some (.int way),some (.str x),some (.ref li),j8,j9,j10,j11,j12] H:=by
   refine⟨_,rfl,?_⟩;refine ir (λh6=>?_) (λh6=>?_)
   ·have h6:way<6:=of_decide_eq_true h6;obtain⟨us,a,b,ta,t1,t2,rfl,rfl,d0,d1,d2,zs,ez⟩:=two (hge (by lia) (by lia));rw[ez]at hli;exact zd P hn d0 d1 d2 hli hD
   ·have h6:¬way<6:=λz=>h6 (decide_eq_true z);refine⟨rfl,_,rfl,?_⟩;refine ir (λh7=>?_) (λh7=>?_)
    ·have h7:way=6:=V.int.inj (of_decide_eq_true h7);obtain⟨us,a,b,ta,t1,t2,rfl,rfl,d0,d1,d2,zs,ez⟩:=two (hge (by lia) (by lia));rw[ez]at hli;exact ze P hn d0 d1 d2 hli hx hD
    ·refine⟨fL,eY λe G he s1 g1=>?_⟩;refine⟨eL.of (s1 _ _ hst),eL.of g1,_,rfl,?_⟩;have hSG:jF S G xs:=λv hv=>by obtain⟨q,nm,m,e1,e2,e3⟩:=hS v hv;exact⟨q,nm,m,e1,s1 _ _ e2,e3⟩
     refine ir (λhk=>?_) (λhk=>?_)
     ·exact uP (P.mono s1) hn (s1 _ _ hst) (by intro z;subst z;cases hk) hSG hD hD0
     ·exact hD0 _ _ ⟨l,vs,ts,_,_,_,_,_,_,_,_,_,_,rfl,P.mono s1⟩
  refine⟨rfl,_,rfl,?_⟩;refine ir (λh5=>?_) (λh5=>jE low);refine⟨.inl (eL.of hli),rfl,_,rfl,?_⟩;refine ir (λhl3=>?_) (λhl3=>low);have hl3:(((vs.drop (vs.length-3)).length:Nat):Int)=3:=V.int.inj (of_decide_eq_true hl3);obtain⟨us,a,b,d,rfl⟩:=vS (l:=vs) (by lia);obtain⟨ta,tb,rfl,d0,d1⟩:=P.den.split;cases d1 with
  | cons e1 r=>
  cases r with
  | cons e2 r=>
  cases r with
  | cons e3 r=>
  cases r;rw[show(us++[a,b,d]).length-3=us.length by simp,cV]at hli;exact sJ P hn d0 e1 e2 e3 hli hD;rfl
 refine⟨rfl,_,rfl,?_⟩;refine ir (λh0=>uk (mY P hn hD)) (λh0=>?_);have h0:way≠0:=λz=>h0 (by rw[z];exact decide_eq_true rfl);refine⟨.inl (eL.of hli),rfl,_,rfl,?_⟩;refine ir (λhl1=>?_) (λhl1=>?_)
 ·refine⟨_,rfl,?_⟩;refine ir (λh2=>⟨_,rfl,?_⟩) (λh2=>⟨_,rfl,?_⟩)
  ·refine ir (λ_=>mY P hn hD) (λh7=>?_);exact other h0 λ_ z=>h7 (decide_eq_true z.2)
  ·exact jE (other h0 λ_ z=>h2 (decide_eq_true z.1))
 ·refine jE (other h0 λz=>?_);exact absurd (decide_eq_true (congrArg V.int (by rw[z];rfl))) hl1
theorem vp(P:ki S H₀ H n l vs ts)(hn:n<=1000)(hst:H st=some (.lst xs))(hS:jF S H xs)(hD:∀σ H,DZ S H₀ c st (n+1) σ H->D.nx σ H):
  xO K D [some (.ref c),some (.ref st),some (.ref l),some (.int cell),j4,j5,j6,j7,j8,j9,j10,j11,j12] H:=by
 refine⟨⟨by decide,by decide⟩,(show(0:Int)<9 by decide),fL,λq hq=>?_⟩;have hw:0<=cell%9/\cell%9<9:=by lia
 have s1:=dS (o:=.lst [.str "sab",.str "tab",.str "sob",.str "sat"]) hq;have g1:(upd H q (.lst [.str "sab",.str "tab",.str "sob",.str "sat"])) q=some (.lst [.str "sab",.str "tab",.str "sob",.str "sat"]):=dP;generalize upd H q (.lst [.str "sab",.str "tab",.str "sob",.str "sat"])=G at s1 g1⊢;have h4:0<=(cell / 9)%4/\(cell / 9)%4<4:=by lia
 obtain⟨v,hv,e⟩:=lh (xs:=[V.str "sab",V.str "tab",V.str "sob",V.str "sat"]) h4.1 h4.2;obtain⟨x,rfl,hx⟩:=xI hv;refine⟨(show(0:Int)<4 by decide),eL.of g1,e,?_⟩;have PG:=P.mono s1;have hSG:∀{G'},dq G G'->jF S G' xs:=λ{G'} s v hv=>by obtain⟨q,nm,m,e1,e2,e3⟩:=hS v hv;exact⟨q,nm,m,e1,s _ _ (s1 _ _ e2),e3⟩
 have go:∀y,Wg y->(dZ (eB (nB (jX K) (dJ 2) (fi (mQ gQ (tC (.int 3)))) fg) (dR 7)) (rX K)) D [some (.ref c),some (.ref st),some (.ref l),some (.int cell),some (.int (cell / 9)),some (.int (cell%9)),some (.str y),j7,j8,j9,j10,j11,j12] G:=by intro y hy;refine⟨eL.of PG.at_,λli hli=>?_⟩;rw[show(-3:Int)=-((3:Nat):Int)from rfl,DC _ 3 (by decide)];have s2:=dS (o:=.lst (vs.drop (vs.length-3))) hli;exact Bw (PG.mono s2) hn dP hw hy (s2 _ _ (s1 _ _ hst)) (hSG s2) hD
 refine⟨(show(0:Int)<29 by decide),rfl,_,rfl,?_⟩;refine ir (λ_=>?_) (λ_=>go x hx);refine⟨⟨by decide,by decide⟩,_,rfl,λy hy=>?_⟩;refine⟨?_,go _ (NW hy.1 hy.2)⟩;have:(("k":Str)).length=1:=by decide
 have:=hy.2;rw[sizeLine_eq];lia
structure O8(S:Str->Nat->Prop)(H₀ H:Hp)(n:Nat)(l:Addr)(vs:List V)(ts:List T):Prop where
 same:dq H₀ H
 new:H₀ l=none
 at_:H l=some (.lst vs)
 den:fm H ts vs
 sz:et ts+ts.length<=2*n
 nm:fS ts<=n
 one:ts≠[]
 wt:∀t∈ts,WG S t
theorem oN:∀ts:List T,fS ts<=et ts
 | []=>aC _
 | t::ts=>by have h:=oN ts;have h2:=t.names_len;simp only[fS,et,aV,b9]at *;lia
inductive Pa(S':Str->Nat->Prop)(H:Hp)(c st:Addr)(ns:List Int):Nat->St->Hp->Prop where
 | mk{l:Addr}{vs:List V}{ts:List T}{j3 j4 j5 j6 j7 j8 j9 j10 j11 j12:Option V}{H':Hp}(h:O8 S' H H' (ns.length+1) l vs ts):Pa S' H c st ns ts.length [some (.ref c),some (.ref st),some (.ref l),j3,j4,j5,j6,j7,j8,j9,j10,j11,j12] H'
theorem Jc(h:pX K S S' vs H Q E):N9 K (fk Q) (start ["_law_cells","_law_stamps","_law_pile","_law_cell","_law_rest","_law_way","_law_word","_law_inner","_law_look","_law_name","_law_many","_law_made","_law_last"] vs) H:=by
 obtain⟨c,st,ns,xs,rfl,hc,hns,hst,hxl,hS,hSS,k⟩:=h;refine⟨fL,λp hp=>⟨fL,λl hl=>?_⟩⟩;have s1:=dS (o:=.tup [.str "name",.str "sab"]) hp;have s2:=dS (o:=.lst [.ref p]) hl;have P0:ki S H (upd (upd H p (.tup [.str "name",.str "sab"])) l (.lst [.ref p])) 1 l [.ref p] [.name "sab"]:=
  ⟨s1.trans s2,s1.free hl,dP,.cons ⟨p,rfl,s2 _ _ dP⟩ .nil,by simp[et,T.size],by simp,λt ht=>by rw[aF]at ht;subst ht;exact AY⟩
 refine⟨(s1.trans s2).seq hc,gZ (K:=K) (a:=c) (xs:=ns.map V.int) (λi σ H2=>DZ S H c st (i+1) σ H2) ⟨l,_,_,_,_,_,_,_,_,_,_,_,_,rfl,P0⟩ (λi σ H2 _ hN=>?_) ?_ ?_⟩
 ·obtain⟨l,vs,ts,j3,j4,j5,j6,j7,j8,j9,j10,j11,j12,e,P⟩:=hN;exact P.same.seq hc
 ·rintro i y σ H2 hi ⟨l,vs,ts,j3,j4,j5,j6,j7,j8,j9,j10,j11,j12,rfl,P⟩;have hil:i<(ns.map V.int).length:=(aK.mp hi).1;rw[aO]at hil;obtain⟨z,rfl⟩:∃z,y=V.int z:=by
   rw[aT]at hi;cases e:ns[i]? with
   | none=>rw[e]at hi;cases hi
   | some z=>rw[e]at hi;exact⟨z,(Option.some.inj hi).symm⟩
  refine vp P (by lia) (P.same _ _ hst) (λv hv=>?_) (λσ H h=>h);obtain⟨q,nm,m,e1,e2,e3⟩:=hS v hv;exact⟨q,nm,m,e1,P.same _ _ e2,e3⟩
 ·rintro σ H2 ⟨l,vs,ts,j3,j4,j5,j6,j7,j8,j9,j10,j11,j12,rfl,P⟩;rw[aO]at P;refine⟨Pa S' H c st ns,⟨_,.mk (vs:=vs) (ts:=ts) ?_⟩,?_⟩
  ·refine⟨P.same,P.new,P.at_,P.den,?_,?_,P.one,λt ht=>hSS t (aP (qu ht) P.sz) (P.wt t ht)⟩
   ·have:=eV ts;have:=P.sz;lia
   ·have:=oN ts;have:=P.sz;lia
  ·clear P j3 j4 j5 j6 j7 j8 j9 j10 j11 j12;rintro m σ H3 @⟨l,vs,ts,j3,j4,j5,j6,j7,j8,j9,j10,j11,j12,_,A⟩;refine⟨.inl (eL.of A.at_),_,rfl,?_⟩;refine ir (λh1=>?_) (λh1=>?_)
   ·have h1:(1:Int)<(vs.length:Int):=of_decide_eq_true h1;obtain⟨us,a,b,rfl⟩:=pK (l:=vs) (by lia);obtain⟨ta,tb,rfl,d0,d1⟩:=A.den.split;cases d1 with
    | @cons t1 _ _ _ e1 r=>
    cases r with
    | @cons t2 _ _ _ e2 r=>
    cases r;refine⟨Lt (Pa S' H c st ns) ((ta++[t1,t2]).length),λ_ _ h=>h,?_⟩;have ha:=A.at_;rw[show us++[a,b]=(us++[a])++[b] by simp]at ha;refine⟨.inl ⟨rfl,_,eL.of ha⟩,ha,iO,?_⟩;rw[gk];have tl1:=fA (o:=.lst (us++[a])) ha;have sO:=eJ (o:=.lst (us++[a])) A.same A.new;have g1:(upd H3 l (.lst (us++[a]))) l=some (.lst (us++[a])):=dP;generalize upd H3 l (.lst (us++[a]))=G1 at tl1 sO g1⊢;refine⟨.inl ⟨rfl,_,eL.of g1⟩,.inl ⟨rfl,_,eL.of g1⟩,g1,iO,?_⟩;rw[gk];have tl2:=fA (o:=.lst us) g1;have sO2:=eJ (o:=.lst us) sO A.new;have g2:(upd G1 l (.lst us)) l=some (.lst us):=dP;generalize upd G1 l (.lst us)=G2 at tl2 sO2 g2⊢;refine⟨fL,eY λp G3 hp s3 g3=>?_⟩;have hlen:=d0.length;have hsz:=A.sz;rw[eg,aE]at hsz;have hq:=eV ta;have tl4:=fA (o:=.lst (us++[.ref p])) (s3 _ _ g2);have tlA:=tl1.trans (tl2.trans ((dW s3).trans tl4));refine⟨s3 _ _ g2,by rw[sizeLine_eq];lia,(ta++[T.sum t1 t2]).length,by simp,.mk ⟨eJ (sO2.trans s3) A.new,A.new,dP,(d0.mono tlA).append (.cons (show fc _ (T.sum t1 t2) (.ref p)from⟨p,a,b,rfl,tl4 _ _ g3,e1.mono tlA,e2.mono tlA⟩) .nil),?_,?_,by simp,λt ht=>?_⟩⟩
    ·rw[eg,aE];simp[et,T.size]at hsz⊢;lia
    ·have:=A.nm;rw[jK]at this⊢;simp[fS,T.names]at this⊢;lia
    ·rcases aQ.mp ht with z|z
     ·exact A.wt t (ae _ z)
     ·rw[aF]at z;subst z;exact⟨A.wt _ (by simp),A.wt _ (by simp)⟩
   ·have h1:¬(1:Int)<(vs.length:Int):=λz=>h1 (decide_eq_true z);have hlen:=A.den.length;obtain⟨t,rfl⟩:∃t,ts=[t]:=by
     cases ts with
     | nil=>exact absurd rfl A.one
     | cons t ts=>
      cases ts with
      | nil=>exact⟨t,rfl⟩
      | cons _ _=>simp at hlen;lia
    obtain⟨v,rfl⟩:∃v,vs=[v]:=by
     cases A.den with
     | cons a r=>cases r;exact⟨_,rfl⟩
    have d1:fc H3 t v:=by cases A.den with|cons a r=>exact a
    have hsz:=A.sz;have hnm:=A.nm;refine⟨eL.of A.at_,rfl,k t v H3 A.same d1 (A.wt t (by simp)) ?_ ?_⟩
    ·simp[et]at hsz;lia
    ·simp[fS]at hnm;lia
end
theorem NB(h:pU K vs H Q E):IL K ym (fk Q) (start ["_law_cells"] vs) H:=by
 obtain⟨c,ns,rfl,hc,hns,k⟩:=h;refine⟨fL,λq1 h1=>⟨fL,λq2 h2=>⟨fL,λq3 h3=>⟨fL,λq4 h4=>⟨fL,λl hl=>?_⟩⟩⟩⟩⟩;have s1:=dS (o:=.tup [.str "st",.int 2]) h1;have g1:(upd H q1 (.tup [.str "st",.int 2])) q1=some (.tup [.str "st",.int 2]):=dP;generalize upd H q1 (.tup [.str "st",.int 2])=G1 at *;have s2:=dS (o:=.tup [.str "sta",.int 1]) h2;have g2:(upd G1 q2 (.tup [.str "sta",.int 1])) q2=some (.tup [.str "sta",.int 1]):=dP;generalize upd G1 q2 (.tup [.str "sta",.int 1])=G2 at *;have s3:=dS (o:=.tup [.str "st",.int 2]) h3;have g3:(upd G2 q3 (.tup [.str "st",.int 2])) q3=some (.tup [.str "st",.int 2]):=dP;generalize upd G2 q3 (.tup [.str "st",.int 2])=G3 at *;have s4:=dS (o:=.tup [.str "star",.int 0]) h4;have g4:(upd G3 q4 (.tup [.str "star",.int 0])) q4=some (.tup [.str "star",.int 0]):=dP;generalize upd G3 q4 (.tup [.str "star",.int 0])=G4 at *;have s5:=dS (o:=.lst [.ref q1,.ref q2,.ref q3,.ref q4]) hl;have g5:(upd G4 l (.lst [.ref q1,.ref q2,.ref q3,.ref q4])) l=some (.lst [.ref q1,.ref q2,.ref q3,.ref q4]):=dP;generalize upd G4 l (.lst [.ref q1,.ref q2,.ref q3,.ref q4])=G5 at *;have sA:=(s1.trans s2).trans ((s3.trans s4).trans s5);refine⟨c,l,ns,_,rfl,sA.seq hc,hns,g5,by simp,λx hx=>?_,λt v H' s d w a b=>k t v H' (sA.trans s) d w a b⟩;rcases aB.mp hx with rfl|hx
 ·exact⟨q1,"st",2,rfl,s5 _ _ (s4 _ _ (s3 _ _ (s2 _ _ g1))),by decide,.inl ⟨rfl,rfl⟩⟩
 rcases aB.mp hx with rfl|hx
 ·exact⟨q2,"sta",1,rfl,s5 _ _ (s4 _ _ (s3 _ _ g2)),by decide,.inr (.inl ⟨rfl,rfl⟩)⟩
 rcases aB.mp hx with rfl|hx
 ·exact⟨q3,"st",2,rfl,s5 _ _ (s4 _ _ g3),by decide,.inl ⟨rfl,rfl⟩⟩
 rcases aB.mp hx with rfl|hx
 ·exact⟨q4,"star",0,rfl,s5 _ _ g4,by decide,.inr (.inr ⟨rfl,rfl⟩)⟩
 ·cases hx
end SW
namespace L2
open PySem PySem.Spec PyProof.Rows
section
variable {X:Cx}
theorem wo(hh:X.calm=true):kS X (.type "list") (λxs H Q=>∃a kvs,xs=[.ref a]/\Rd H a (.dK kvs)/\kL H (.lst (jO kvs)) Q):=by intro pins s σ H xs us Q I r h;obtain⟨a,kvs,rfl,ha,q⟩:=h;obtain⟨u,rfl,ru⟩:=km r;cases ru;obtain⟨z,hd,vs,rel,dd⟩:=l8 I.hok ha;obtain⟨ep,da⟩:=dd.dictAt;refine PySem.W.kdl_call (PySem.W.kdl_dict hd) (I.ok.hd hh) da (by rw[<-rel.length];exact z) λh' tk acc' c' hk hD hacc=>?_;refine⟨.ref s.heap.objs.size,_,I.laid (a:=s.heap.objs.size) (o:=.lst (jO kvs)) hk (aC _) ⟨by simpa[jO]using z,acc'.toList,c',qz rel hacc,by simpa using hD⟩,rfl,q _ I.fresh⟩
end
section
variable {prog:Program}{w:World}{A:Around}{E:Value->Shared->Prop}{s:Shared}{κ:Type}[DecidableEq κ]{knd:KeyKind prog w κ}{d:Addr}{kvs:List (κ×Value)}{ep:Nat}
theorem tI(lo:(d==sysModules)=false)(hh:A.handled=none)(da:s.heap.DictAt knd d kvs ep)(hn:kvs.length<=sizeLine)
  (h:∀h' tk acc,(∀b o,s.heap.get? b=some o->h'.get? b=some o)->s.heap.objs.size<h'.objs.size->ItemsOf (λi v=>∃k x,kvs[i]?=some (k,x)/\knd.is k v=true) acc kvs.length->Q acc.toList {s with heap:=h',toks:=tk}):
  wpAny (model prog w) A (collect (.ref d)) Q E s:=by
 unfold collect;refine wpAny_bind (wpAny_runValue (codeAny_builtin entry_proto_collect' ?_));show wpAny _ _ (do again (.builtin "list.__iadd__" ⟨[<- newList [],.ref d],[]⟩)) _ _ s;refine wpAny_bind (wpAny_newList (wpAny_pure ⟨Code.quiet_builtin _ (by decide),codeAny_builtin entry_list_iadd' ?_⟩));show wpAny _ _ (Builtin.List.listExtendWith (.ref s.heap.objs.size) (.ref d) (.ref s.heap.objs.size)) _ _ {s with heap:=s.heap.push (seqObj "list" #[] 0)};rw[Around.under_plainId (by decide) _];have hlt:=da.lt_size;have up:∀b o,s.heap.get? b=some o->(s.heap.push (seqObj "list" #[] 0)).get? b=some o:=λb o e=>Heap.get?_push_of_some _ e;have key:=PySem.W.kdl_extend (A:=A) (R:=λr s'=>match r with
   | .ok (.ret v)=>wpAny (model prog w) A (match v with
     | .ref a=>do
      let o <- load a
      match o.data with
      | .seq xs _=>pure xs.toList
      | _=>unsupported "internal:collect"
     | _=>unsupported "internal:collect") Q E s'
   | .ok _=>False
   | .error e=>E e s') (PySem.W.kdl_dict (knd:=knd) lo) hh (s:={s with heap:=s.heap.push (seqObj "list" #[] 0)}) (da.push _) s.heap.objs.size (az hlt) (az hlt) (.ref s.heap.objs.size) 0 (Heap.get?_push_size _ rfl) (λh' tk acc c hk hS hacc=>?_) hn
 ·refine wpAny_mono key (λf s' h=>?_) λe s' h=>h;cases f with
  | done f=>exact h
  | again c=>exact h
 ·refine wpAny_bind (wpAny_load hS ?_);exact wpAny_pure (h h' tk acc (λb o e=>hk b o (aJ (Heap.lt_size e)) (up b o e)) (Heap.lt_size hS) hacc)
end
section
variable {X:Cx}
theorem tJ(hh:X.calm=true):kS X (.builtin "sorted") (λxs H Q=>∃a kvs ws,xs=[.ref a]/\Rd H a (.dK kvs)/\jO kvs=ws.map V.str/\ws.length<64/\∀p ws',H p=none->ws'.Perm ws->sortedS ws'=true->Q (.ref p) (upd H p (.lst (ws'.map V.str)))):=by
 intro pins s σ H xs us Q I r h;obtain⟨a,kvs,ws,rfl,ha,ek,hl,q⟩:=h;obtain⟨u,rfl,ru⟩:=km r;cases ru;obtain⟨z,hd,vs,rel,dd⟩:=l8 I.hok ha;obtain⟨ep,da⟩:=dd.dictAt;have hA:=I.ok.hd hh;refine Calls.call_function_entry PyProof.Rows.kind_sorted PyProof.Rows.plain_sorted PyProof.Rows.entry_sorted (PyProof.Rows.args_sorted1 _) ?_;unfold Builtin.«sorted»;refine wpAny_bind (m:=checkCount "sorted" 1 1 _) (wpAny_pure ?_);refine wpAny_bind (tI hd hA da (by rw[<-rel.length];exact z) λh' tk acc keep hsz hacc=>?_);have hv:=qz rel hacc;rw[ek]at hv;have hS:=xg hv;have hlen:acc.toList.length<64:=by rw[<-hv.length];simpa using hl
 refine wpAny_bind (wpAny_newList ?_);have hoL:(h'.push (seqObj "list" acc.toList.toArray 0)).get? h'.objs.size=some (seqObj "list" acc.toList.toArray 0):=Heap.get?_push_size _ rfl;refine wpAny_bind (wpAny_holding (wpAny_call_entry slot_list_sort ⟨_,hoL,rfl⟩ entry_list_sort (list_sort_treeK strKind_oneLt (s:={s with heap:=h'.push (seqObj "list" acc.toList.toArray 0),toks:=tk}) hoL hS.keysOf (λv₁ v₂ rest e=>keyKind_strs (by rw[<-e];exact hS)) hlen λst' a1 a2=>⟨_,rfl,?_⟩) (args_list_sort _)));refine wpAny_pure ⟨_,rfl,?_⟩;obtain⟨ss',b1,b2,b3⟩:=sorted_out_str hS a1 a2;obtain⟨e,he⟩:=sortedHeap_at (out:=(arrOf st').map (·.2)) hoL;have hl2:ss'.length<64:=by rw[b2.length_eq];exact hl
 have hn:H h'.objs.size=none:=I.hok.fresh (bI hsz);refine⟨.ref h'.objs.size,_,I.laid (a:=h'.objs.size) (o:=.lst (ss'.map V.str)) (t':=tk) (λb o q=>?_) (bI hsz) ⟨by rw[aO,sizeLine_eq];omega,((arrOf st').map (·.2)).toList,e,yG b1,he⟩,rfl,q _ ss' hn b2 b3⟩;have hb:=Heap.lt_size q;rw[sortedHeap_old (aJ (cR hb hsz)) (by rw[Heap.size_push];exact Nat.lt_succ_of_lt (cR hb hsz))];exact Heap.get?_push_of_some _ (keep b o q)
end
theorem gC.at_(x:gC P w H h a o):∃u,h.get? a=some u:=by
 cases o with
 | lst xs=>obtain⟨_,_,_,_,e⟩:=x;exact⟨_,e⟩
 | tup xs=>obtain⟨_,_,_,o,e,_⟩:=x;exact⟨_,e⟩
 | dK kvs=>obtain⟨_,_,_,_,o,_,_,e,_⟩:=x;exact⟨_,e⟩
 | dT kvs=>obtain⟨_,_,_,_,o,_,_,e,_⟩:=x;exact⟨_,e⟩
 | set S n=>obtain⟨o,_,_,_,e,_⟩:=x;exact⟨_,e⟩
 | ins C dx fs=>obtain⟨_,_,_,e,_⟩:=x;exact⟨_,e⟩
 | own y=>obtain⟨_,e⟩:=x;exact⟨_,e⟩
 | xd fs=>obtain⟨_,⟨_,_,_,e,_⟩,_⟩:=x;exact⟨_,e⟩
 | rng lo hi=>obtain⟨_,_,_,e⟩:=x;exact⟨_,e⟩
 | frz ob u=>obtain⟨e,_⟩:=x;exact⟨_,e⟩
 | tbl ps=>exact⟨_,(show h.get? a=some _ from x)⟩
 | met f y=>exact⟨_,(show h.get? a=some _ from x)⟩
 | ext φ=>obtain⟨_,⟨_,e⟩,_⟩:=x;exact⟨_,e⟩
theorem lL.new(x:lL P w H h)(e:h.get? a=none):H a=none:=by
 cases q:H a with
 | none=>rfl
 | some u=>obtain⟨o,z⟩:=(x a u q).at_;rw[e]at z;cases z
structure Gx(P:Program)(w:World)(outer:List Env)(H H':Hp)(s s':Shared)(ea:Addr)(cls:Value)(B:Heap)(a0:Value):Prop where
 os:s'.os=s.os
 bare:AllBare s'.gens
 un:Un (qb outer) [] H H' s.heap s'.heap
 hok:lL P w H' s'.heap
 free:H' ea=none
 fly:Heap.FlyingW B outer ea cls a0 s'.heap
 b1:∀b o,s'.heap.get? b=some o->(H' b).isSome=true->B.get? b=some o
 b2:∀b o,s.heap.get? b=some o->H b=none->b∉qb outer->B.get? b=some o
 b3:∀b o,s.heap.get? b=some o->b∉qb outer->∃o',B.get? b=some o'
def pH(P:Program)(w:World):AR:=λouter H s E e s'=>∃ea cls H' B a0,e=.ref ea/\Gx P w outer H H' s s' ea cls B a0/\E cls none H'
theorem Gb{P:Program}{w:World}{H:Hp}{h h' B:Heap}(x:lL P w H h)(b1:∀b o,h.get? b=some o->(H b).isSome=true->B.get? b=some o)(k:B.StaysIn h'):lL P w H h':=λb o e=>
 (x b o e).stay (λc v hc q=>k c v (b1 c v q (by rcases hc with rfl|hc;(· rw[e];rfl);(· rw[hc];rfl)))) (λ_ q=>q) λ_ _ q=>q
theorem Gx.on(F:Gx P w outer H H' s s' ea cls B a0)(fl:Heap.FlyingW B outer ea cls a0 h')(up:s'.heap.UpToSlots h'):
  Gx P w outer H H' s {s' with heap:=h'} ea cls B a0 where
 os:=F.os
 bare:=F.bare
 un:=⟨λb o e n hb _=>fl.1 b o (F.b2 b o e n hb),λb o e n hb hx=>by
   obtain⟨sl,e1⟩:=F.un.slot b o e n hb hx;obtain⟨_,o2,e2,hd⟩:=F.fly.2.2.1.mem hb;rw[e1]at e2;cases e2;obtain⟨sl',e3⟩:=up b _ e1 hd;exact⟨sl',e3⟩,F.un.free,λb o e hx=>by
   by_cases hb:b∈qb outer
   ·obtain⟨o1,e1⟩:=F.un.there b o e hx;obtain⟨_,o2,e2,hd⟩:=F.fly.2.2.1.mem hb;obtain⟨sl',e3⟩:=up b _ e2 hd;exact⟨_,e3⟩
   ·obtain⟨o',e'⟩:=F.b3 b o e hb;exact⟨o',fl.1 b o' e'⟩,F.un.tups,F.un.frzs,F.un.tbls⟩
 hok:=Gb F.hok F.b1 fl.1
 free:=F.free
 fly:=fl
 b1:=λb o e q=>by
  cases z:H' b with
  | none=>rw[z]at q;cases q
  | some u=>obtain⟨o',e'⟩:=(F.hok b u z).at_;have e2:=F.b1 b o' e' q;have e3:=fl.1 b o' e2;rw[show h'.get? b=some o from e]at e3;cases e3;exact e2
 b2:=F.b2
 b3:=F.b3
section
variable {X:Cx}{pins:List (Addr×Obj)}{σ:St}{H H':Hp}{s s':Shared}{ea:Addr}{cls a0:Value}{B:Heap}
theorem eM.flown(I:eM X pins σ H s)(F:Gx X.prog X.w X.stack H H' s s' ea cls B a0):eM X pins σ H' s':=
 I.call' (ch:=[]) F.os F.un F.hok F.bare λb z=>absurd z (by simp)
theorem eM.ne0(I:eM X pins σ H s)(e:X.s₀.heap.get? b=some o):b≠X.env.locals:=aJ (aY (Heap.lt_size e) I.ok.above)
theorem eM.nstk(I:eM X pins σ H s)(e:X.s₀.heap.get? b=some o)(n:b∉X.fs):b∉qb X.stack:=λz=>
 (aB.mp (I.stkSub b z)).elim (I.ne0 e) n
theorem eM.leave(I:eM X pins σ H s)(hex:X.ex=[])(hfree:H ea=none)(fl:Heap.FlyingW B X.outer ea cls a0 h')(up:s.heap.UpToSlots h')
  (b1:∀b o,s.heap.get? b=some o->(H b).isSome=true->B.get? b=some o)
  (b2:∀b o,X.s₀.heap.get? b=some o->X.H₀ b=none->b∉X.fs->B.get? b=some o) (b3:∀b o,X.s₀.heap.get? b=some o->b∉X.fs->∃o',B.get? b=some o') (hg:AllBare g'):
  Gx X.prog X.w X.outer X.H₀ H X.s₀ {s with heap:=h',gens:=g',drawn:=d',toks:=t'} ea cls B a0 where
 os:=I.os
 bare:=hg
 un:=⟨λb o e n hb _=>fl.1 b o (b2 b o e n hb),λb o e n hb _=>by
   obtain⟨sl,e1⟩:=I.base.slot b o e n hb (by rw[hex];simp);obtain⟨_,o2,e2,hd⟩:=I.ok.funs.mem hb;rw[e]at e2;cases e2;obtain⟨sl',e3⟩:=up b _ e1 hd;exact⟨sl',e3⟩,λb o e n _=>I.base.free b o e n (by rw[hex];simp),λb o e _=>by
   by_cases hb:b∈X.fs
   ·obtain⟨_,o2,e2,hd⟩:=I.ok.funs.mem hb;rw[e]at e2;cases e2;obtain⟨sl,e1⟩:=I.base.slot b o e (I.ok.frf b hb) hb (by rw[hex];simp);obtain⟨sl',e3⟩:=up b _ e1 hd;exact⟨_,e3⟩
   ·obtain⟨o',e'⟩:=b3 b o e hb;exact⟨o',fl.1 b o' e'⟩,I.base.tups,I.base.frzs,I.base.tbls⟩
 hok:=Gb I.hok b1 fl.1
 free:=hfree
 fly:=fl
 b1:=λb o e q=>by
  cases z:H b with
  | none=>rw[z]at q;cases q
  | some u=>obtain⟨o',e'⟩:=(I.hok b u z).at_;have e2:=b1 b o' e' q;have e3:=fl.1 b o' e2;rw[show h'.get? b=some o from e]at e3;cases e3;exact e2
 b2:=b2
 b3:=b3
end
section
variable {P:Program}{w:World}{K:aA}{mg:Str->Option Value}{base:Heap}{N:List Str}{qual:Str}{scope:Scope}{f:Addr}{cd:Value}{A:Around}{outer:List Env}{s:Shared}{H:Hp}{E E':XK}
theorem GT(hE:∀c o H',E c o H'->E' c o H'):lK (pH P w) (i7 (pH P w) P w K mg base N qual scope f cd A outer s H E') E:=by
 intro pins σ H1 s1 e s2 I h;obtain⟨ea,cls,H2,B,a0,rfl,F,q⟩:=h;have J:=I.flown F;show wpAny _ _ (leaving _ _) _ _ _;refine wpAny_leaves_onW (I.ok.frames) rfl F.fly λh' fl up=>?_;refine⟨ea,cls,H2,B,a0,rfl,?_,hE _ _ _ q⟩;exact J.leave (X:=i7 (pH P w) P w K mg base N qual scope f cd A outer s H E') rfl F.free fl up F.b1 (λb o e n hb=>F.b2 b o (I.base.keep b o e n hb (by intro z;cases z)) (I.base.free b o e n (by intro z;cases z)) (I.nstk e hb))
  (λb o e hb=>by
   obtain⟨o1,e1⟩:=I.base.there b o e (by intro z;cases z);exact F.b3 b o1 e1 (I.nstk e hb)) F.bare
def BO(C:Addr)(E:XK)(ta:TE):TS:=λ_ σ H=>ta σ H λ_ H1=>E (.ref C) none H1
theorem CF(FB:ExcBaseFacts Bn newId initId bmB)
  (hg:Gl (i7 (pH P w) P w K mg base N qual scope f cd A outer s H E) x) (hm:mg x=some (.ref C)) (q:PySem.W.excIn K C bmB newId=true)
  (he:PE (i7 (pH P w) P w K mg base N qual scope f cd A outer s H E) e ta) (hdb:(x==("__debug__":Str))=false:=by decide)
  (hst:starEach [e] (i7 (pH P w) P w K mg base N qual scope f cd A outer s H E).env=[(false,eval e (i7 (pH P w) P w K mg base N qual scope f cd A outer s H E).env)]:=by rfl):
  PS (i7 (pH P w) P w K mg base N qual scope f cd A outer s H E) (.Raise (some (.Call (.Name x np) [e] [] cpos)) none pos) (BO C E ta):=by
 intro pins s1 σ H1 D I h;have KX:=I.kIn;unfold PySem.W.excIn at q;split at q
 ·rename_i dd cd' sl ho;split at q
  ·rename_i C' bm k0 k1 k2 k3 n k5 hmr hs;simp only[bT,beq_iff_eq,Bool.not_eq_true']at q;obtain⟨⟨⟨⟨⟨rfl,rfl⟩,hdel⟩,ht⟩,hok⟩,hni⟩:=q;obtain⟨nm,bs,mro,ns,qn,hd,sn,sub,ab,col,del⟩:=cd';dsimp only at hmr hdel hok hni;subst hmr hdel;have hsl:sl = #[k0,k1,k2,k3,some (.builtin n),k5]:=by obtain⟨l⟩:=sl;simp only at hs;rw[hs]
   subst hsl;have KB:=I.ok.mod.kin;have T:=PySem.W.tail_of_in KB ht;have hN:Heap.Ns _ ns (Heap.nsMap _ ns):=.of_isNs (PySem.W.isNs_of_in KB hok);refine wpAny_Raise_call_subT (C:=C') (nm:=nm) (q:=qn) (N:=ns) (bs:=bs) (bm:=bm) (hdct:=hd) (sn:=sn) (sub:=sub) (ab:=ab) (col:=col) (dd:=dd) (k0:=k0) (k1:=k1) (k2:=k2) (k3:=k3) (k5:=k5) (newId:=n)
    FB (mN:=base.nsMap ns) (T.hasType FB.hasBase) (I.ok.hd rfl) (by rw[hst];rfl) (PySem.W.nsMap_none_of_in KB hok hni) (la I hg hm ⟨rfl,?_⟩ hdb)
   have ea:=he pins s1 σ H1 _ I h;rw[hst];refine Calls.evalArgs_plain (Calls.spliced_cons (thn ea λv s2 ⟨y,H2,I2,r,q2⟩=>Calls.spliced_nil ⟨rfl,aP (by decide:1<=1) (by rw[sizeLine_eq];decide),I2.kIn _ _ ho,hN.keeps I2.bk,T.keeps I2.bk,λh' e hx=>?_⟩));show wpAny _ _ (leaving _ _) _ _ _;have hin:∀env∈(i7 (pH P w) P w K mg base N qual scope f cd A outer s H E).stack,∀b,env.frame=some b->b∈qb (i7 (pH P w) P w K mg base N qual scope f cd A outer s H E).stack:=λenv he b hb=>cH.mpr ⟨env,he,hb⟩;refine wpAny_leaves_madeW (base:=PySem.W.hideAll s2.heap (qb (i7 (pH P w) P w K mg base N qual scope f cd A outer s H E).stack)) I.ok.frames rfl (λb o q=>PySem.W.of_hideAll _ q) (PySem.W.funFrames_hide I2.stack hin) hx λh'' t x1 x2 x3 x4=>?_;refine⟨e,.ref C',H2,PySem.W.hideAll s2.heap (qb (i7 (pH P w) P w K mg base N qual scope f cd A outer s H E).stack),.ref t,rfl,?_,q2⟩;exact I2.leave (X:=i7 (pH P w) P w K mg base N qual scope f cd A outer s H E) rfl (I2.hok.new hx.new) x1 ((Heap.UpToSlots.of_keeps hx.keeps).trans x4)
    (λb o e q=>bn _ e λz=>by rw[I2.stkFree b z]at q;cases q)
    (λb o e n hb=>bn _ (I2.base.keep b o e n hb (by intro z;cases z)) (I2.nstk e hb))
    (λb o e hb=>by
     obtain⟨o1,e1⟩:=I2.base.there b o e (by intro z;cases z);exact⟨o1,bn _ e1 (I2.nstk e hb)⟩) I2.bare
  ·cases q
 ·cases q
end
def Cx.inH(X:Cx)(ea:Addr)(oe:Obj):Cx:={X with A:=X.A.mark (some (.ref ea)),calm:=false,pn:=(ea,oe)::X.pn}
section
variable {X:Cx}{pins:List (Addr×Obj)}{σ:St}{H H':Hp}{s s':Shared}{ea:Addr}{oe:Obj}{cls a0:Value}{B:Heap}
theorem Cx.Ok.inH(ok:X.Ok)(ea:Addr)(oe:Obj):(X.inH ea oe).Ok:=
 ⟨ok.mod,ok.kind,ok.glob,ok.blt,ok.above,ok.inj,ok.has,ok.cab,λh=>absurd h aR,ok.frames,ok.stk,ok.exf,ok.bs,ok.bsz,ok.noex,ok.exfs,ok.funs,ok.frf⟩
theorem eM.inH(I:eM X pins σ H s)(h:s.heap.get? ea=some oe/\H ea=none/\ea≠X.env.locals/\ea∉X.fs/\∀v,oe.data≠.cell v):eM (X.inH ea oe) pins σ H s:=
 ⟨I.ok.inH ea oe,I.os,I.bare,I.base,I.loc,I.cell,I.free,I.freeC,λp hp=>(aB.mp (show p∈(ea,oe)::(X.pn++pins)from hp)).elim (λe=>by subst e;exact h) (I.pin p),I.hok,I.len⟩
theorem eM.outH(ok:X.Ok)(I:eM (X.inH ea oe) pins σ H s):eM X pins σ H s:=
 ⟨ok,I.os,I.bare,I.base,I.loc,I.cell,I.free,I.freeC,λp hp=>I.pin p (ax _ hp),I.hok,I.len⟩
theorem SP.outH(ok:X.Ok)(h:SP (X.inH ea oe) pins D f s):SP X pins D f s:=by
 cases f with
 | next=>obtain⟨σ',H',I,q⟩:=h;exact⟨σ',H',I.outH ok,q⟩
 | brk=>obtain⟨σ',H',I,q⟩:=h;exact⟨σ',H',I.outH ok,q⟩
 | cont=>obtain⟨σ',H',I,q⟩:=h;exact⟨σ',H',I.outH ok,q⟩
 | ret u=>obtain⟨v,σ',H',I,r,q⟩:=h;exact⟨v,σ',H',I.outH ok,r,q⟩
theorem Gx.pin(J:eM X pins σ H' s')(F:Gx X.prog X.w X.stack H H' s s' ea cls B a0):∃oe vs,oe.cls=cls/\oe.data=.fields vs/\(s'.heap.get? ea=some oe/\H' ea=none/\ea≠X.env.locals/\ea∉X.fs/\∀v,oe.data≠.cell v):=by
 obtain⟨oe,vs,h1,h2,h3,_⟩:=F.fly.first;refine⟨oe,vs,h2,h3,h1,F.free,?_,?_,λv q=>by rw[h3]at q;cases q⟩
 ·rintro rfl;obtain⟨m,⟨o,es,ep,ho,hd,_⟩,_⟩:=J.loc;rw[h1]at ho;cases ho;rw[h3]at hd;cases hd
 ·intro z;obtain⟨_,o,ho,hn⟩:=J.funs.mem z;rw[h1]at ho;cases ho;exact hn vs h3
end
def PX(X:Cx)(st:Stmt)(t:(St->XK)->TS):Prop:=
 ∀(pins:List (Addr×Obj))(s:Shared)(σ:St)(H:Hp)(D:fz)(Ex:St->XK)(Eh:Value->Shared->Prop),eM X pins σ H s->t Ex D σ H->
  (∀σ1 H1 s1 e s',eM X pins σ1 H1 s1->pH X.prog X.w X.stack H1 s1 (Ex σ1) e s'->Eh e s')->wpAny (model X.prog X.w) X.A (exec st X.env) (SP X pins D) Eh s
section
variable {X:Cx}{k:Nat}{f:Addr}{fd:FuncData}{ps:List Str}{sp:Sp}{x:Str}{p pos cpos:Pos}{e:Expr}{es:List Expr}{t:TA}
theorem Ez(F:je X.prog X.w X.K X.mg X.base (pH X.prog X.w) k f fd ps sp)(hr:gr k X.A)(hb:kT X.K fd ps [])
  (I:eM X pins σ H s) (r:eu vs us) (h:sp vs H Q E) (hq:∀u s',EP X pins σ Q u s'->Q' u s') (hx:∀e s',pH X.prog X.w X.stack H s E e s'->Eh e s'):wpAny (model X.prog X.w) X.A (call (.ref f) us) Q' Eh s:=by
 have hl:(us++[]).length=ps.length:=by rw[aX,<-r.length];exact F.len _ _ _ _ h
 have hb':=hb s us I.kIn hl;rw[aX]at hb';refine wpAny_call (codeAny_mono (F.run X.A X.stack s H ⟨us,[]⟩ us vs Q E hr I.env0 hb' r h) λr s' hq'=>?_);cases r with
 | error e=>exact hx e s' hq'
 | ok fl=>
  cases fl with
  | ret u=>exact hq _ _ (I.after hq')
  | next=>exact False.elim hq'
  | brk=>exact False.elim hq'
  | cont=>exact False.elim hq'
def G7(sp:Sp)(i:Nat)(t:TA):(St->XK)->TS:=λEx D σ H=>t σ H λvs H1=>sp vs H1 (λv H2=>D.nx (σ.set i (some v)) H2) (Ex σ)
theorem E6{pins:List (Addr×Obj)}{σ:St}{H:Hp}{s:Shared}{E:XK}{Q':Value->Shared->Prop}{Eh:Value->Shared->Prop}{Q:List V->Hp->VK}(F:je X.prog X.w X.K X.mg X.base (pH X.prog X.w) k f fd ps sp)(hr:gr k X.A)(hg:Gl X x)(hm:X.mg x=some (.ref f))(hk:PySem.W.keepIn X.K (.ref f)=true)(hb:kT X.K fd ps [])
  (ha:PA X (e::es) t) (hne:∀e s,¬X.xe e s) (hdb:(x==("__debug__":Str))=false) (he:starEach (e::es) X.env=(false,eval e X.env)::starEach es X.env) (hpl:(backTo cpos (starEach es X.env)).any (·.1)=false)
  (I:eM X pins σ H s) (h:t σ H λvs H1=>sp vs H1 (Q vs H1) E) (hq:∀vs H1 u s',EP X pins σ (Q vs H1) u s'->Q' u s') (hx:∀H1 s1 e s',eM X pins σ H1 s1->pH X.prog X.w X.stack H1 s1 E e s'->Eh e s'):
  wpAny (model X.prog X.w) X.A (eval (.Call (.Name x p) (e::es) [] cpos) X.env) Q' Eh s:=by
 refine wpAny_Call_Name_kw (la I hg hm ?_ hdb);refine bq (h₀:=X.base) I.ok.mod.kin hk (wpAny_mono (ha cpos pins s σ H _ I h) (λus s1 ⟨vs,H1,I1,r,q⟩=>⟨I1.kIn,?_⟩) λe s z=>absurd z (hne e s)) he hpl;exact Ez F hr hb I1 r q (λu s' z=>hq vs H1 u s' z) λe s' z=>hx H1 s1 e s' I1 z
theorem Jg{i:Nat}{y:Str}{pos':Pos}(F:je X.prog X.w X.K X.mg X.base (pH X.prog X.w) k f fd ps sp)(hr:gr k X.A)(hg:Gl X x)(hm:X.mg x=some (.ref f))(hk:PySem.W.keepIn X.K (.ref f)=true)(hb:kT X.K fd ps [])
  (ha:PA X (e::es) t) (hne:∀e s,¬X.xe e s) (hN:X.N.Nodup) (hi:X.N[i]?=some y) (hy:Dl X.env.scope y) (hs:swapsWith (.Call (.Name x p) (e::es) [] cpos) (some (.Name y pos')) pos.line X.env=pure false:=by rfl)
  (hf:X.fn y=true∨X.env.scope.names.lookup y=some .local:=by first|exact .inl rfl|exact .inr rfl|assumption)
  (hdb:(x==("__debug__":Str))=false:=by decide) (he:starEach (e::es) X.env=(false,eval e X.env)::starEach es X.env:=by rfl) (hpl:(backTo cpos (starEach es X.env)).any (·.1)=false:=by rfl):
  PX X (.Assign [.Name y pos'] (.Call (.Name x p) (e::es) [] cpos) pos) (G7 sp i t):=by
 intro pins s σ H D Ex Eh I h hx;refine wpAny_Assign_Name (E6 (Q:=λ_ _ v H2=>D.nx (σ.set i (some v)) H2) F hr hg hm hk hb ha hne hdb he hpl I h (λvs H1 u s1 hz=>?_) λH1 s1 e s' I1 z=>hx σ H1 s1 e s' I1 z) hs;obtain⟨v,H2,I2,r,q⟩:=hz;exact pQ I2 hN hi hy r (λs2 I3=>⟨_,H2,I3,q⟩) hf
end
section
variable {X:Cx}{st b₀:Stmt}{suite:List Stmt}{c:Str}{C:Addr}{np hpos pos:Pos}{tb:(St->XK)->TS}{th:TS}
theorem K3(h1:h.get? a=some o)(h2:o.cls=cls):PySem.W.Looks M h (typeOf (.ref a)) cls:=h2▸(PySem.W.Looks.ld h1).andThen .now
def LI(K:aA)(C:Addr)(tb:(St->XK)->TS)(th:TS):TS:=λD σ H=>tb (λσ1 cls _ H1=>PySem.W.exmOne K cls (.ref C)=some true/\th D σ1 H1) D σ H
theorem Jh(hstk:X.stack=X.env::X.outer/\X.env.frame=some X.env.locals)(hne:∀e s,¬X.xe e s)(hb:PX X st tb)(hg:Gl X c)(hm:X.mg c=some (.ref C))(hth:∀ea oe,pG (X.inH ea oe) (b₀::suite) th)(hdb:(c==("__debug__":Str))=false:=by decide):
  PS X (.Try [st] [.ExceptHandler (some (.Name c np)) none (b₀::suite) hpos] [] [] pos) (LI X.K C tb th):=by
 intro pins s σ H D I h;refine wpAny_Try_except (wpAny_execs_cons ?_);refine wpAny_mono (hb pins s σ H D _ _ I h ?_) (λf s1 q=>?_) λ_ _ z=>z
 case refine_2=>
  cases f with
  | next=>exact wpAny_execs_nil (wpAny_execs_nil q)
  | ret v=>exact q
  | brk=>exact q
  | cont=>exact q
 intro σ1 H1 s1 e s' I1 hx;obtain⟨ea,cls,H2,B,a0,rfl,F,he,hd⟩:=hx;have hfr:X.A.frames=some (X.env::X.outer):=by rw[<-hstk.1];exact I.ok.frames
 have fl0:=F.fly;rw[hstk.1]at fl0;refine wpAny_looks_onW hfr hstk.2 fl0 λh4 held4 up4=>?_;refine wpAny_landsW held4 λh5 fl5 up5=>?_;rw[<-hstk.1]at fl5;have F5:=F.on fl5 (up4.trans up5);have J5:=I1.flown F5;obtain⟨oe,vs,o1,o2,o3⟩:=F5.pin J5;have J5':=J5.inH o3;refine wpAny_handleBy_cons (codeAny_handlers_test ?_) (by intro q;cases q);refine la (X:=X.inH ea oe) J5' hg hm ?_ hdb;refine(PySem.W.exm_one J5.kIn (K3 o3.1 o1) he).here ?_;refine codeAny_handlers_suite ?_;refine lands_againW fl5 λh6 fl6 up6=>?_;have F6:=F5.on fl6 up6;have J6:=I1.flown F6;obtain⟨oe6,vs6,_,_,o6⟩:=F6.pin J6;exact wpAny_mono (hth ea oe6 pins _ σ1 H2 D (J6.inH o6) hd) (λf s2 q=>q.outH I.ok) λe s2 z=>absurd z (hne e s2)
end
end L2
namespace PySem.W
open PySem PySem.Spec PySem.Calls PyProof.Rows Builtin Builtin.ObjectAttr Builtin.Getset_descriptor
section
variable {prog:Program}{w:World}{A:Around}{E:Value->Shared->Prop}{K:Frag}{h:Heap}{g:Array GenState}{d:Drawn}{t:Nat}{os:OsState}{a D:Addr}{o:Obj}
end
end PySem.W
namespace L2
open PySem PySem.Spec PyProof.Rows
section
variable {X:Cx}{ea:Addr}{oe:Obj}{D:Addr}
end
section
variable {X:Cx}{pins:List (Addr×Obj)}{σ:St}{H:Hp}{s:Shared}
end
section
variable {X:Cx}{st b₀:Stmt}{suite:List Stmt}{c n:Str}{C CN:Addr}{j:Nat}{np hpos pos:Pos}{tb:(St->XK)->TS}{th:Addr->TS}
end
def nA(K:aA)(a:Addr)(n:Nat):It:=
 ⟨λi H=>i<n/\∃xs x,eL K H a xs/\xs.length=n/\xs[n-1-i]?=some x,λi H x H'=>H'=H/\∀xs,eL K H a xs->xs[n-1-i]?=some x,λi _=>i=n⟩
theorem Ac{P:Program}{w:World}{K:aA}{tg:Expr}(a it:Addr)(n:Nat):vE P w K tg (nA K a n) [it] it (λi h=>h.IsRevIter it a ((n:Int)-1-i)) where
 mem:=by simp
 obj:=λi h st b hb=>by
  have e:b=it:=by simpa using hb
  subst e;obtain⟨o,e,c,d⟩:=st;exact⟨o,e,λv z=>by rw[d]at z;cases z⟩
 keep:=λi h h' st k=>st.at λo e=>k it (by simp) o e
 item:=by
  intro X hP hw hK hc i pins s σ H E I hf st hg;subst hP hw hK;obtain⟨hi,xs,x,hq,hl,hx⟩:=hg;obtain⟨its,rv,p,hz⟩:=I.list hq;obtain⟨u,hu,ru⟩:=rv.get hx;obtain⟨f0,f1,f2,f3,f4,f5⟩:=hf it (by simp);have e1:(n:Int)-1-i=((n-1-i:Nat):Int):=by lia
  have st1:s.heap.IsRevIter it a ((n-1-i:Nat):Int):=by rw[<-e1];exact st
  refine wpAny_pyNext_rev_item st1 p.isList (x:=u) (by simpa using hu) λh' st' sb=>?_;have I1:eM X pins σ H {s with heap:=h'}:=I.turned (t':=s.toks) (λb o hb e=>(sb.2 b hb).trans e) f0 f1 f3 f4 f5;obtain⟨o,e,c,d⟩:=id st';have e2:((n-1-i:Nat):Int)-1=(n:Int)-1-(i+1:Nat):=by lia
  exact⟨u,rfl,ul (s:={s with heap:=h'}) e c d (by decide) ⟨x,H,I1,ru,⟨rfl,λys hy=>by rw[I.list_inj hy hq];exact hx⟩,by rw[<-e2];exact st',λb hb=>(hf b hb).1⟩⟩
 done:=by intro X hP hw hK hc i pins s σ H E I hf st hg;subst hP hw hK;obtain rfl:i=n:=hg;obtain⟨f0,f1,f2,f3,f4,f5⟩:=hf it (by simp);have st1:s.heap.IsRevIter it a (-1):=(show(i:Int)-1-i=-1 by lia)▸st;exact wpAny_pyNext_rev_end (I.ok.hd hc) st1 λh' eb=>⟨rfl,I.turned (t':=s.toks) (λb o hb e=>eb b o hb e) f0 f1 f3 f4 f5⟩
 self:=λ_ _ _ _ _ st h=>wpAny_pyIter_revIter st h
def Ff(K:aA)(tl:TE):TI:=λσ H R=>tl σ H λx H1=>onR x λa=>lM (eL K H1 a) λxs=>R (nA K a xs.length) H1
theorem oT:bootBuiltins "reversed"=some (.type "reversed"):=by decide
section
variable {X:Cx}{tg:Expr}
theorem wF{l:Expr}{tl:TE}{np pos:Pos}(hg:Gl X "reversed")(hm:X.mg "reversed"=none)(hl:PE X l tl)(he:starEach [l] X.env=[(false,eval l X.env)]:=by rfl):PI X tg (.Call (.Name "reversed" np) [l] [] pos) (Ff X.K tl):=by
 intro pins s σ H R I h;refine wpAny_Call_Name_kw (ju I hg hm oT ?_);have he':starEach (l::[]) X.env=(false,eval l X.env)::starEach [] X.env:=he;refine bJ (thn ((de hl fN he':PA X [l] (dI tl dQ)) pos pins s σ H (λvs H1=>on1 vs λx=>onR x λa=>lM (eL X.K H1 a) λxs=>R (nA X.K a xs.length) H1) I h) λus s1 hz=>?_) he' (by rfl);obtain⟨vs,H1,I1,r1,q1⟩:=hz
 ·obtain⟨_,rfl,q1⟩:=on1.ex q1;obtain⟨a,rfl,q1⟩:=onR.ex q1;obtain @⟨xs,hq,q⟩:=q1;obtain⟨u,rfl,ru⟩:=km r1;cases ru;obtain⟨its,rv,p,hz⟩:=I1.list hq;refine call_reversed_list p.isList ?_;refine wpAny_pyIter_revIter (l:=a) (i:=(xs.length:Int)-1) ⟨_,Heap.get?_push_size _ rfl,rfl,by simp[revObj,rv.length]⟩ ?_;refine⟨s1.heap.objs.size,[s1.heap.objs.size],_,_,H1,rfl,I1.kept (t':=s1.toks) λb o e=>Heap.get?_push_of_some _ e,Ac a _ xs.length,⟨_,Heap.get?_push_size _ rfl,rfl,by simp[revObj,rv.length]⟩,λb hb=>?_,q⟩;have e:b=s1.heap.objs.size:=by simpa using hb
  subst e;exact I1.fpOk (aC _) (I1.hok.fresh (aC _))
def LK(ta:TE)(x:Str):TE:=λσ H Q=>ta σ H λv H1=>∃y,v=.str y/\x.length+y.length<=sizeLine/\Q (.str (x++y)) H1
theorem Jj(he:PE X e ta)(hx:(Str.empty++x)=x:=by decide)(hz:Nat.ble x.length 1000=true:=by decide):PE X (.JoinedStr [.Constant (.str x) j p1,.FormattedValue e (-1) none p2] p3) (LK ta x):=by
 intro pins s σ H Q I h;refine JoinedStr_many (joinParts_cons (Calls.Constant_str ⟨?_,joinParts_cons (FormattedValue_plain (thn (he pins _ σ H _ (I.tok _) h) λv s1 ⟨y,H1,I1,r,z,ey,hl,q⟩=>?_))⟩))
 ·rw[hx];exact aP (cw hz) (by rw[sizeLine_eq];decide)
 ·subst ey;obtain⟨tk,rfl⟩:=r;refine formatField_str (λt' tk'=>?_) (by lia);rw[hx];refine⟨by rw[strLen_append];exact hl,joinParts_nil ?_ (by rw[strLen_append];exact hl)⟩;exact⟨.str (x++z),H1,(I1.tok _).tok _,⟨_,rfl⟩,q⟩
end
end L2
namespace L2
open PySem PySem.Spec PyProof.Rows SW
section
variable {X:Cx}{pins:List (Addr×Obj)}{σ:St}{H:Hp}{s:Shared}
theorem Cp{t k:T}(h:k∈t.kids):k.size<t.size:=by
 have h1:=iy t;have h2:k.size<=et t.kids:=by
  unfold et;generalize t.kids=l at h;induction l with
  | nil=>cases h
  | cons a r ih=>
   rcases aB.mp h with rfl|h
   ·simp
   ·have:=ih h;simp only[aV,b9];lia
 lia
theorem ya:∀{ts:List T}{us:List V}{i:Nat}{x:V},fm H ts us->us[i]?=some x->∃t,ts[i]?=some t/\fc H t x
 | _,_,0,_,.cons a r,h=>by cases h;exact⟨_,rfl,a⟩
 | _,_,i+1,_,.cons a r,h=>ya (i:=i) r h
end
section
variable {X:Cx}
end
end L2
namespace L2
open PySem PySem.Spec PyProof.Rows
theorem lD(a b:Int):Builtin.Range.rangeSize a b (-1)=if b<a then a-b else 0:=by unfold Builtin.Range.rangeSize;simp only[show ¬((-1:Int)>0) by decide,if_false];split<;>(try split)<;>simp<;>lia
theorem vc(ha : -(2^62)<=a)(ha':a<2^62)(hb : -(2^62)<=b)(hb':b<2^62):Builtin.Range.small a b (-1)=true:=by
 unfold Builtin.Range.small;rw[lD];simp only[Builtin.Range.rangeFitsLong,bT,Bool.or_eq_true,decide_eq_true_eq,beq_iff_eq,show ¬((-1:Int)>0) by decide,if_false];split
 ·refine⟨⟨⟨⟨by lia,by lia⟩,by lia⟩,by lia⟩,.inr (by lia)⟩
 ·refine⟨⟨⟨⟨by lia,by lia⟩,by lia⟩,by lia⟩,.inl ?_⟩
  first|trivial|rfl
def Kx(hi:Int)(n:Nat):It:=⟨λi _=>i<n,λi H x H'=>H'=H/\x=.int (hi-i),λi _=>n<=i⟩
theorem y6{P:Program}{w:World}{K:aA}{tg:Expr}(it:Addr)(hi:Int)(n:Nat):vE P w K tg (Kx hi n) [it] it (λi h=>IsRangeIter h it (hi+(i:Nat)*(-1)) ((n:Int)-(i:Nat)) (-1)) where
 mem:=by simp
 obj:=λi h st b hb=>by
  have e:b=it:=by simpa using hb
  subst e;exact⟨_,st,λv z=>by
   have z':Data.fields _=Data.cell v:=z;cases z'⟩
 keep:=λi h h' st k=>k it (by simp) _ st
 item:=by intro X hP hw hK hc i pins s σ H E I hf st hg;subst hP hw hK;obtain⟨f0,f1,f2,f3,f4,f5⟩:=hf it (by simp);have W:=Walks.range (prog:=X.prog) (w:=X.w) (I.ok.hd hc) it hi (-1) n;refine W.item i s _ _ hg st λv h' tk hv st' kk=>?_;obtain⟨t,rfl⟩:=hv;have I1:eM X pins σ H {s with heap:=h',toks:=tk}:=I.turned (λb o hb e=>kk b o (by simpa using hb) e) f0 f1 f3 f4 f5;refine⟨_,rfl,ul (s:={s with heap:=h',toks:=tk}) (n:="range_iterator") st' rfl rfl (by decide) ⟨.int (hi-i),H,I1,⟨t,?_⟩,⟨rfl,rfl⟩,st',λb hb=>(hf b hb).1⟩⟩;rw[show hi+(i:Int)*(-1)=hi-i by lia]
 done:=by intro X hP hw hK hc i pins s σ H E I hf st hg;subst hP hw hK;obtain⟨f0,f1,f2,f3,f4,f5⟩:=hf it (by simp);exact wpAny_pyNext_range_end (I.ok.hd hc) st (by have:n<=i:=hg;lia) λh' eb=>⟨rfl,I.turned (t':=s.toks) (λb o hb e=>eb b o hb e) f0 f1 f3 f4 f5⟩
 self:=λ_ _ _ _ _ st h=>wpAny_pyIter_rangeiter st h
section
variable {X:Cx}{tg:Expr}
theorem vv{pins:List (Addr×Obj)}{σ:St}{H:Hp}{s:Shared}{R:It->Hp->Prop}{E:Value->Shared->Prop}{hi lo:Int}{t u v:Tok}{tk:Nat}(I:eM X pins σ H s)(h1 : -(2^62)<=hi)(h2:hi<2^62)(h3 : -(2^62)<=lo)(h4:lo<2^62)
  (q:R (Kx hi (hi-lo).toNat) H):wpAny (model X.prog X.w) X.A (pyIter (.ref s.heap.objs.size)) (PJ X pins σ tg R) E {s with heap:=s.heap.push {cls:=.type "range",data:=.fields #[.int hi t,.int lo u,.int (-1) v]},toks:=tk}:=by
 refine wpAny_pyIter_range (IsRange.new ..) (vc h1 h2 h3 h4) ?_;have I1:eM X pins σ H {s with heap:=s.heap.push {cls:=.type "range",data:=.fields #[.int hi t,.int lo u,.int (-1) v]},toks:=tk}:=I.kept λb o e=>Heap.get?_push_of_some _ e;refine⟨(s.heap.push {cls:=.type "range",data:=.fields #[.int hi t,.int lo u,.int (-1) v]}).objs.size,[(s.heap.push {cls:=.type "range",data:=.fields #[.int hi t,.int lo u,.int (-1) v]}).objs.size],_,_,H,rfl,
  I1.kept (t':=tk) λb o e=>Heap.get?_push_of_some _ e,y6 _ hi (hi-lo).toNat,?_,λb hb=>?_,q⟩
 ·have e1:hi+((0:Nat):Int)*(-1)=hi:=by simp
  have e2:(((hi-lo).toNat:Nat):Int)-((0:Nat):Int)=Builtin.Range.rangeSize hi lo (-1):=by rw[lD];split<;>lia
  show IsRangeIter _ _ (hi+((0:Nat):Int)*(-1)) ((((hi-lo).toNat:Nat):Int)-((0:Nat):Int)) (-1);rw[e1,e2];exact Heap.get?_push_size _ rfl
 ·have e:b=(s.heap.push {cls:=.type "range",data:=.fields #[.int hi t,.int lo u,.int (-1) v]}).objs.size:=by simpa using hb
  subst e;exact I1.fpOk (aC _) (I1.hok.fresh (aC _))
def q9(ta:TA):TI:=λσ H R=>ta σ H λvs H1=>∃i j:Int,vs=[.int i,.int j,.int (-1)]/\(-(2^62)<=i/\i<2^62/\-(2^62)<=j/\j<2^62)/\R (Kx i (i-j).toNat) H1
theorem lW(hg:Gl X "range")(hm:X.mg "range"=none)(ha:PA X [a,b,c] ta)(hs:starEach [a,b,c] X.env=[(false,eval a X.env),(false,eval b X.env),(false,eval c X.env)]:=by rfl)(hs2:starEach [b,c] X.env=[(false,eval b X.env),(false,eval c X.env)]:=by rfl):
  PI X tg (.Call (.Name "range" p) [a,b,c] [] pos) (q9 ta):=by
 intro pins s σ H R I h;refine Call_ (ju I hg hm boot_range (bJ (thn (ha pos pins s σ H _ I h) λus s1 hz=>?_) (by rw[hs,hs2]) (by rw[hs2];rfl)));obtain⟨vs,H1,I1,r1,q1⟩:=hz;obtain⟨i,j,e,⟨q1,q2,q3,q4⟩,q⟩:=q1;subst e;cases r1 with
 | cons r rr=>
  cases rr with
  | cons r' rr=>
   cases rr with
   | cons r'' rr=>cases rr;obtain⟨t,rfl⟩:=r;obtain⟨t',rfl⟩:=r';obtain⟨t'',rfl⟩:=r'';exact call_range_3 (by decide) (vv I1 q1 q2 q3 q4 q) (.inl (ck (by decide)))
end
end L2
namespace PySem.W
open PySem PySem.Spec PySem.Calls PyProof.Rows
theorem Bl:typeLookup (.type "list_reverseiterator") "__len__"=pure none:=by rw[typeLookup_type,builtinLookup_eq_fast];kernel_rfl
theorem Bm:typeLookup (.type "list_reverseiterator") "__length_hint__"=pure (some (.builtin "list_reverseiterator.__length_hint__")):=by rw[typeLookup_type,builtinLookup_eq_fast];kernel_rfl
section
variable {prog:Program}{w:World}{A:Around}{E:Value->Shared->Prop}{s:Shared}{r l:Addr}{eI:Array Value}
theorem Ey(hT:s.TypeIs (.ref r) "list_reverseiterator")(h:Q false s):wpAny (model prog w) A (Builtin.List.listLengthHint (.ref r)) Q E s:=by
 unfold Builtin.List.listLengthHint;refine wpAny_bind (wpAny_specialOf hT Bl ?_);refine wpAny_bind (wpAny_specialOf hT Bm ?_);generalize hid:("list_reverseiterator.__length_hint__":String)=id0
 wp_delta
 rw[show splitId id0=some ("list_reverseiterator","__length_hint__")from by subst hid;decide];subst hid;refine wpAny_bind (wpAny_isInstance (T:="list_reverseiterator") (b:=true) hT (by rw[isSubtype_type];kernel_rfl) ?_);refine wpAny_ite_split (λhab=>absurd hab (by decide)) (λ_=>?_);refine wpAny_ite_split (λ_=>?_) (λhab=>absurd (by decide) hab);refine wpAny_ite_split (λhab=>absurd hab (by decide)) (λ_=>?_);exact wpAny_pure h
theorem zW(hh:A.handled=none)(hit:s.heap.IsRevIter r l ((eI.size:Int)-1))(hl:s.heap.IsList l eI)(S:Addr)(hSr:S≠r)(hSl:S≠l)(hlr:l≠r)(res:Value)(c₀:Nat)(hS:s.heap.get? S=some {cls:=.type "list",data:=.seq #[] c₀})
  (hR:∀h' tk acc' c',(∀b o,b≠S->b≠r->s.heap.get? b=some o->h'.get? b=some o)->h'.get? S=some {cls:=.type "list",dict:=none,data:=.seq acc' c',slots:=#[]}->ItemsOf (λi v=>eI[eI.size-1-i]?=some v) acc' eI.size->R (.ok (.ret res)) {s with heap:=h',toks:=tk}) (hn:eI.size<=sizeLine):
  wpAny (model prog w) A.in1 (Builtin.List.listExtendWith (.ref S) (.ref r) res)
   (λfk s'=>match fk with|.done f=>R (.ok f) s'|.again c'=>c'.quiet=true/\codeAny (model prog w) A c' R s') (λe s'=>R (.error e) s') s:=by
 have hSf:S∉[r,l]:=by simp only[aB,aG,or_false,not_or];exact⟨hSr,hSl⟩
 have W:=Walks.listRev (prog:=prog) (w:=w) (A:=A.in1) hh r l hlr eI;have hT:s.TypeIs (.ref r) "list_reverseiterator":=hit.typeIs;have st0:0<=eI.size/\s.heap.IsRevIter r l ((eI.size:Int)-1-((0:Nat):Int))/\s.heap.IsList l eI:=⟨aS _,by simpa using hit,hl⟩;unfold Builtin.List.listExtendWith;refine wpAny_bind (wpAny_typeOf (T:="list_reverseiterator") hT ?_);have h1:Builtin.List.listSameRef (.ref S) (.ref r)=false:=by simp[Builtin.List.listSameRef,hSr]
 simp only[h1,show(Value.type "list_reverseiterator"==Value.type "list")=false from by decide,show(Value.type "list_reverseiterator"==Value.type "tuple")=false from by decide,Bool.or_false,Bool.false_eq_true,if_false];refine wpAny_bind (wpAny_pyIter_revIter hit ?_);refine wpAny_bind (wpAny_holding (Ey hT ?_));refine wpAny_ite_split (λhab=>absurd hab (by decide)) (λ_=>wpAny_pure ⟨plainId_quiet PySem.F.plain_extend_loop _,?_⟩);refine codeAny_extend_loopS W.toS hn S hSf res eI.size 0 _ #[] c₀ rfl (aS _) st0 hS (ItemsOf.nil _) λs' acc' c' hm hS' hacc=>?_;rw[Moved.eq_with hm];refine hR s'.heap s'.toks acc' c' (λb o hb hbr e=>hm.heap b o (λhmem=>?_) e) hS' hacc;rcases aB.mp hmem with e'|hmem
 ·exact hb e'
 ·exact hbr (aF.mp hmem)
theorem Ew(hh:A.handled=none)(hit:s.heap.IsRevIter r l ((eI.size:Int)-1))(hl:s.heap.IsList l eI)(S:Addr)(hSr:S≠r)(hSl:S≠l)(hlr:l≠r)(hS:s.heap.get? S=some {cls:=.type "list",data:=.seq #[]})
  (hR:∀h' tk acc' c',(∀b o,b≠S->b≠r->s.heap.get? b=some o->h'.get? b=some o)->h'.get? S=some {cls:=.type "list",dict:=none,data:=.seq acc' c',slots:=#[]}->ItemsOf (λi v=>eI[eI.size-1-i]?=some v) acc' eI.size->R (.ok (.ret .none)) {s with heap:=h',toks:=tk}) (hn:eI.size<=sizeLine):
  wpAny (model prog w) A.in1 (Builtin.«list.__init__» ⟨[.ref S,.ref r],[]⟩)
   (λfk s'=>match fk with|.done f=>R (.ok f) s'|.again c'=>c'.quiet=true/\codeAny (model prog w) A c' R s') (λe s'=>R (.error e) s') s:=by
 show wpAny _ _ (do let old <- Builtin.List.listItems (.ref S);Builtin.List.listUpdate (.ref S) (λ_=>#[]);letGo old.toList.reverse;Builtin.List.listExtendWith (.ref S) (.ref r) .none) _ _ s;refine wpAny_bind ?_;unfold Builtin.List.listItems;refine wpAny_bind (wpAny_seqItems hS rfl (wpAny_pure ?_));show wpAny _ _ (updateSeq S (λ_=>#[]) >>= λ_=>letGo (#[]:Array Value).toList.reverse >>= λ_=>Builtin.List.listExtendWith (.ref S) (.ref r) .none) _ _ s;refine wpAny_bind (wpAny_updateSeq hS rfl ?_);have hS₂:=Heap.get?_update_self (Obj.mapSeq (λ_=>(#[]:Array Value))) hS rfl;have oth:∀b o,b≠S->s.heap.get? b=some o->(s.heap.update S (Obj.mapSeq (λ_=>(#[]:Array Value)))).get? b=some o:=
  λb o hb e=>(Heap.get?_update_other _ _ (ac hb)).trans e
 refine wpAny_bind (wpAny_letGo ?_);refine zW hh (hit.at λo e=>oth r o hSr.symm e) (hl.at λo e=>oth l o hSl.symm e) S hSr hSl hlr .none _ hS₂ (λh' tk acc' c' hk hS' hacc=>?_) hn;exact hR h' tk acc' c' (λb o hb hbr e=>hk b o hb hbr (oth b o hb e)) hS' hacc
theorem rv_call(hh:A.handled=none)(hit:s.heap.IsRevIter r l ((eI.size:Int)-1))(hl:s.heap.IsList l eI)(hlr:l≠r)(hn:eI.size<=sizeLine)
  (hQ:∀h' tk acc' c',(∀b o,b≠r->s.heap.get? b=some o->h'.get? b=some o)->h'.get? s.heap.objs.size=some {cls:=.type "list",dict:=none,data:=.seq acc' c',slots:=#[]}->ItemsOf (λi v=>eI[eI.size-1-i]?=some v) acc' eI.size->Q (.ref s.heap.objs.size) {s with heap:=h',toks:=tk}):
  wpAny (model prog w) A (call (.type "list") [.ref r]) Q E s:=by
 refine callType_codes (Q₁:=λobj s₁=>obj=.ref s.heap.objs.size/\s₁={s with heap:=s.heap.push {cls:=.type "list",data:=.seq #[]}}) PySem.F.called_list (PySem.F.typeCall_list_1 _) PySem.F.entry_list_init
  (code_list_new _ ⟨rfl,rfl⟩) λobj s₁ h₁=>?_
 obtain⟨rfl,rfl⟩:=h₁;have hS:(s.heap.push {cls:=.type "list",data:=.seq #[]}).get? s.heap.objs.size=some {cls:=.type "list",data:=.seq #[]}:=Heap.get?_push_size _ rfl;have lr:r<s.heap.objs.size:=by obtain⟨o,e,_⟩:=hit;exact Heap.lt_size e
 have ll:l<s.heap.objs.size:=by obtain⟨o,e,_⟩:=hl;exact Heap.lt_size e
 refine⟨⟨_,hS,rfl⟩,PySem.F.args_list_init_2 _ _,Ew (A:=A.in1) hh (hit.at λo e=>Heap.get?_push_of_some _ e) (hl.at λo e=>Heap.get?_push_of_some _ e) _ (az lr) (az ll) hlr hS (λh' tk acc' c' hk hS' hacc=>?_) hn⟩;exact⟨rfl,hQ h' tk acc' c' (λb o hbr e=>hk b o (aJ (Heap.lt_size e)) hbr (Heap.get?_push_of_some _ e)) hS' hacc⟩
end
end PySem.W
namespace L2
open PySem PySem.Spec PyProof.Rows
section
variable {X:Cx}
theorem mO:∀{xs:List V}{us:List Value},eu xs us->eu xs.reverse us.reverse
 | _,_,.nil=>.nil
 | _,_,.cons r t=>by rw[aj,aj];exact(mO t).append (.cons r .nil)
def GH(K:aA)(tl:TE):TE:=λσ H Q=>tl σ H λx H1=>onR x λa=>lM (eL K H1 a) λxs=>kL H1 (.lst xs.reverse) Q
theorem FC(hc:X.calm=true)(hgl:Gl X "list")(hml:X.mg "list"=none)(hgr:Gl X "reversed")(hmr:X.mg "reversed"=none)(he:PE X e tl)(h1:starEach [e] X.env=[(false,eval e X.env)]:=by rfl)
  (h2:starEach [.Call (.Name "reversed" p1) [e] [] p2] X.env=[(false,eval (.Call (.Name "reversed" p1) [e] [] p2) X.env)]:=by rfl):
  PE X (.Call (.Name "list" q1) [.Call (.Name "reversed" p1) [e] [] p2] [] q2) (GH X.K tl):=by
 intro pins s σ H Q I h;refine wpAny_Call_Name_kw (ju I hgl hml mv ?_);have h2':starEach (.Call (.Name "reversed" p1) [e] [] p2::[]) X.env=(false,eval (.Call (.Name "reversed" p1) [e] [] p2) X.env)::starEach [] X.env:=h2;refine bJ ?_ h2' (by rfl);rw[h2];refine Calls.spliced_cons ?_;refine wpAny_Call_Name_kw (ju I hgr hmr oT ?_);have h1':starEach (e::[]) X.env=(false,eval e X.env)::starEach [] X.env:=h1;refine bJ (thn ((de he fN h1':PA X [e] (dI tl dQ)) p2 pins s σ H (λvs H1=>on1 vs λx=>onR x λa=>lM (eL X.K H1 a) λxs=>kL H1 (.lst xs.reverse) Q) I h) λus s1 hz=>?_) h1' (by rfl);obtain⟨vs,H1,I1,r1,q1⟩:=hz;obtain⟨_,rfl,q1⟩:=on1.ex q1;obtain⟨a,rfl,q1⟩:=onR.ex q1;obtain @⟨xs,hq,q⟩:=q1;obtain⟨u,rfl,ru⟩:=km r1;cases ru;obtain⟨its,rv,p,hz⟩:=I1.list hq;refine call_reversed_list p.isList ?_;refine Calls.spliced_nil ?_;have hlt:a<s1.heap.objs.size:=by obtain⟨o,eo,_⟩:=p.isList;exact Heap.lt_size eo
 refine PySem.W.rv_call (l:=a) (eI:=its.toArray) (I1.ok.hd hc) ⟨_,Heap.get?_push_size _ rfl,rfl,rfl⟩ (p.isList.at λo eo=>Heap.get?_push_of_some _ eo) (aJ hlt) (by simpa[<-rv.length]using hz) λh' tk acc' c' hk hD hacc=>?_;have hsz:(s1.heap.push (revObj a ((its.toArray.size:Int)-1))).objs.size=s1.heap.objs.size+1:=Heap.size_push _ _;have hvals:eu xs.reverse acc'.toList:=by
  have e:acc'.toList=its.reverse:=by
   apply List.ext_getElem?;intro i;have hs:acc'.size=its.length:=by simpa using hacc.1
   by_cases hi:i<its.length
   ·have h1:acc'[i]?=some acc'[i]:=by simp[hs,hi]
    have h2:=hacc.2 i _ h1;rw[cP,h1,dB hi];simpa using h2.symm
   ·rw[dC (by simp[hs];lia),dC (by simp;lia)]
  rw[e];exact mO rv
 refine⟨.ref (s1.heap.push (revObj a ((its.toArray.size:Int)-1))).objs.size,_,I1.laid (a:=(s1.heap.push (revObj a ((its.toArray.size:Int)-1))).objs.size) (o:=.lst xs.reverse) (h':=h') (t':=tk) (λb o eo=>hk b o (aJ (Heap.lt_size eo)) (Heap.get?_push_of_some _ eo)) (by rw[hsz];lia) ⟨by simpa using hz,acc'.toList,c',hvals,by simpa using hD⟩,rfl,q _ (I1.hok.fresh (by rw[hsz];lia))⟩
end
section
variable {X:Cx}
def qB(K:aA):R2:=λx y H Q=>onR x λa=>onR y λb=>lM (eD K H a) λxs=>lM (eD K H b) λys=>xs.length+ys.length<=sizeLine/\
 (xs=[]->Q (.ref b) H)/\(xs≠[]->ys=[]->Q (.ref a) H)/\(xs≠[]->ys≠[]->kL H (.tup (xs++ys)) Q)
theorem sR:mM X (binaryOp .Add) (qB X.K):=by
 intro pins s σ H x y v u Q I rx ry h;obtain⟨a,rfl,h⟩:=onR.ex h;obtain⟨b,rfl,h⟩:=onR.ex h;obtain @⟨xs,ha,h⟩:=h;obtain @⟨ys,hb,hz,q0,q1,q2⟩:=h;by_cases hx:xs=[]
 ·subst hx;cases rx;cases ry;obtain⟨its,r1,p1,_⟩:=I.tuple ha;obtain⟨its2,r2,p2,_⟩:=I.tuple hb;cases r1;obtain⟨⟨cls,dd,data,sl⟩,ho,hc,n,hd⟩:=id p1;obtain⟨⟨cls2,dd2,data2,sl2⟩,ho2,hc2,n2,hd2⟩:=id p2;simp only at hc hd hc2 hd2;subst hc hd hc2 hd2;exact concat_meets ⟨_,ho,rfl⟩ ⟨_,ho2,rfl⟩ noFill_tuple_add seq_tuple_add cL cM (cO _ _)
   (tuple_addW0 a b #[] its2.toArray n n2 dd dd2 sl sl2 rfl) ⟨ho,ho2,.ref b,H,I,rfl,q0 rfl⟩
 ·exact FK pins s σ H _ _ v u Q I rx ry ⟨a,b,xs,ys,rfl,rfl,ha,hb,hx,hz,q1 hx,q2 hx⟩
end
end L2
namespace PySem
section
variable {prog:Program}{w:World}{A:Around}{E:Value->Shared->Prop}{s:Shared}
theorem Dr{c t:Addr}{j:Nat}{its}{v:Value}{Q:Value->Shared->Prop}(hc:s.heap.IsTupleIter c t j)(ht:s.heap.IsTuple t its)(hv:its[j]?=some v)
  (hQ:∀k,k.IsTupleIter c t (j+1)->Heap.SameBut c s.heap k->Q v {s with heap:=k}):wpAny (model prog w) A (Builtin.SmallTypes.nextOf (.ref c)) Q E s:=by
 obtain⟨ob,h1,h2,h3⟩:=id hc;obtain⟨ot,h4,_,m,h5⟩:=ht;unfold Builtin.SmallTypes.nextOf;refine wpAny_bind (wpAny_callSpecial?_slot (name:=Str.ofString "__next__") hc.typeIs F.slot_tuple_iterator_next (wpAny_call_entry F.slot_tuple_iterator_next hc.typeIs F.entry_tuple_iterator_next ?_ (F.args_tuple_iterator_next_1 _)));show wpAny _ _ (field (.ref c) 0 >>= _) _ _ s;refine wpAny_bind (wpAny_field h1 h3 (x:=.ref t) rfl ?_);show wpAny _ _ (if(Value.ref t==Value.none)=true then _ else _) _ _ s;rw[if_neg (show ¬(Value.ref t==Value.none)=true from aR)];show wpAny _ _ (field (.ref c) 1 >>= _) _ _ s;refine wpAny_bind (wpAny_field h1 h3 (x:=.int j 0) rfl ?_);show wpAny _ _ (seqItems? (.ref t) >>= _) _ _ s;refine wpAny_bind (wpAny_seqItems h4 h5 ?_);simp only[bg,hv];refine wpAny_bind (wpAny_setField h1 h3 (by simp) (wpAny_pure ⟨v,rfl,wpAny_pure (hQ _ ?_ (Heap.SameBut.update ..))⟩));exact⟨_,Heap.get?_update_self _ h1 (Obj.isFreed_of_fields (Obj.data_mapFields h3 _)),(Obj.cls_mapFields ..).trans h2,by rw[Obj.data_mapFields h3];simp[rawInt]⟩
theorem Dq{c t:Addr}{j:Nat}{its}{Q:Value->Shared->Prop}(hh:A.handled=none)(hc:s.heap.IsTupleIter c t j)(ht:s.heap.IsTuple t its)(hv:its[j]?=none)
  (hE:∀k e,Heap.ExtBut c s.heap k->(∃o,k.get? e=some o/\o.cls=.type "StopIteration")->E (.ref e) {s with heap:=k}):wpAny (model prog w) A (Builtin.SmallTypes.nextOf (.ref c)) Q E s:=by
 obtain⟨ob,h1,h2,h3⟩:=id hc;obtain⟨ot,h4,_,m,h5⟩:=ht;unfold Builtin.SmallTypes.nextOf;refine wpAny_bind (wpAny_callSpecial?_slot (name:=Str.ofString "__next__") hc.typeIs F.slot_tuple_iterator_next (wpAny_call_entry F.slot_tuple_iterator_next hc.typeIs F.entry_tuple_iterator_next ?_ (F.args_tuple_iterator_next_1 _)));show wpAny _ _ (field (.ref c) 0 >>= _) _ _ s;refine wpAny_bind (wpAny_field h1 h3 (x:=.ref t) rfl ?_);show wpAny _ _ (if(Value.ref t==Value.none)=true then _ else _) _ _ s;rw[if_neg (show ¬(Value.ref t==Value.none)=true from aR)];show wpAny _ _ (field (.ref c) 1 >>= _) _ _ s;refine wpAny_bind (wpAny_field h1 h3 (x:=.int j 0) rfl ?_);show wpAny _ _ (seqItems? (.ref t) >>= _) _ _ s;refine wpAny_bind (wpAny_seqItems h4 h5 ?_);simp only[bg,hv];refine wpAny_bind (wpAny_rule (wpAny_bind (wpAny_setField h1 h3 (by simp) ?_)));show wpAny _ _ (newExc (.type "StopIteration") [] >>= _) _ _ _;refine wpAny_bind ?_;simp only[newExc,newTuple];refine wpAny_bind (wpAny_newObj_type ?_ (by size_fits));refine wpAny_bind (m:=firstArgMember _ _) (wpAny_of_eq (a:=.none) (by first|rfl|(simp only[firstArgMember];rfl)) ?_);refine wpAny_newObj_type ?_ (by size_fits);simp only[raiseNew];refine wpAny_bind (wpAny_handled ?_)
 first|rw[show A.in1.handled=none from hh]|rw[hh]
 refine wpAny_bind (wpAny_pure (wpAny_throw ?_));exact hE _ _ (((Heap.SameBut.update ..).extBut.push _).push _) ⟨_,Heap.get?_push_size _ rfl,rfl⟩
end
section
variable {prog:Program}{w:World}{A:Around}{E:Value->Shared->Prop}{s:Shared}
end
end PySem
namespace L2
open PySem PySem.Spec PyProof.Rows
section
variable {X:Cx}{pins:List (Addr×Obj)}{σ:List (Option V)}{H:Hp}{s:Shared}{h':Heap}
theorem eM.turnedN{t':Nat}{fp:List Addr}{a:Addr}{o:HO}(I:eM X pins σ H s)(hf:∀b∈fp,oa X pins H b)(k:∀b u,b∉fp->s.heap.get? b=some u->h'.get? b=some u)(hp:s.heap.objs.size<=a)
  (new:gC X.prog X.w (upd H a o) h' a o):eM X pins σ (upd H a o) {s with heap:=h',toks:=t'}:=by
 have hn:=I.hok.fresh hp;have nfp:∀b u,H b=some u->b∉fp:=λb u e z=>by rw[(hf b z).1]at e;cases e
 have na:∀b u,s.heap.get? b=some u->b≠a:=λb u e=>aJ (aY (Heap.lt_size e) hp);have up:∀b u,H b=some u->upd H a o b=some u:=λb u e=>by rw[dY (dX e hn)];exact e
 refine I.step (g':=s.gens) (d':=s.drawn) (ch:=fp) (λb hb=>?_) (λb u _ _ hc e _=>k b u hc e) (λb u _ _ hc e _=>⟨u.slots,k b u hc e⟩) (λb u _ e n=>by rw[dY (na b u e)];exact n)
  (λb u hc e=>⟨u,k b u hc e⟩) (λb _ e=>up b _ e) (λb _ _ e=>up b _ e) (λb ps e=>⟨#[],by rw[up b _ e];simp⟩) (λm hm=>?_) (λb u e=>?_) I.bare
 ·obtain⟨_,h1,_,h3,h4,h5⟩:=hf b hb;exact⟨h3,h1,h4,h5⟩
 ·obtain⟨u,es,ep,ho,r⟩:=hm;exact⟨u,es,ep,k _ u (λz=>(hf _ z).2.1 rfl) ho,r⟩
 ·by_cases hb:b=a
  ·subst hb;rw[dP]at e;cases e;exact new
  ·rw[dY hb]at e;refine(I.hok b u e).stay (λc v hc q=>k c v ?_ q) (λc q=>up c _ q) λc xs q=>up c _ q;rcases hc with z|z
   ·rw[z];exact nfp b u e
   ·exact nfp c _ z
theorem eM.turnedL{t':Nat}{fp:List Addr}(I:eM X pins σ H s)(hf:∀b∈fp,oa X pins H b)(k:∀b u,b∉fp->s.heap.get? b=some u->h'.get? b=some u):eM X pins σ H {s with heap:=h',toks:=t'}:=by
 have nfp:∀b u,H b=some u->b∉fp:=λb u e z=>by rw[(hf b z).1]at e;cases e
 refine I.step (g':=s.gens) (d':=s.drawn) (ch:=fp) (λb hb=>?_) (λb u _ _ hc e _=>k b u hc e) (λb u _ _ hc e _=>⟨u.slots,k b u hc e⟩) (λb u _ e n=>n)
  (λb u hc e=>⟨u,k b u hc e⟩) (λb _ e=>e) (λb _ _ e=>e) (λb ps e=>⟨#[],by rw[e];simp⟩) (λm hm=>?_) (λb u e=>?_) I.bare
 ·obtain⟨_,h1,_,h3,h4,h5⟩:=hf b hb;exact⟨h3,h1,h4,h5⟩
 ·obtain⟨u,es,ep,ho,r⟩:=hm;exact⟨u,es,ep,k _ u (λz=>(hf _ z).2.1 rfl) ho,r⟩
 ·refine(I.hok b u e).stay (λc v hc q=>k c v ?_ q) (λc q=>q) λc xs q=>q;rcases hc with z|z
  ·rw[z];exact nfp b u e
  ·exact nfp c _ z
end
theorem Kc:bootBuiltins "zip"=some (.type "zip"):=by decide
section
variable {X:Cx}{es:List Expr}{x1:Nat}{tp:Pos}
end
structure iq(X:Cx)(scope:Scope)(cl:List (Str×Addr))(xs ys:List Str)(js:List Nat):Prop where
 clos:closureFor scope X.env=pure cl
 ncell:∀y∈scope.names,y.2≠.cell
 kind:scope.kind=.function
 names:∀y∈scope.names,y.2=.local->scope.names.lookup y.1=some .local
 cells:∀y c,cl.lookup y=some c->X.env.cells.lookup y=some c
 has:∀y,((relabel scope X.env).names.lookup y=some .cell∨(relabel scope X.env).names.lookup y=some .free)->∃c,cl.lookup y=some c
 free:∀(k:Nat)(y:Str),ys[k]?=some y->∃j:Nat,js[k]?=some j/\X.N[j]?=some y/\X.env.scope.names.lookup y=some .cell/\((relabel scope X.env).names.lookup y=some .cell∨(relabel scope X.env).names.lookup y=some .free)
 len:js.length=ys.length
section
variable {X:Cx}{pins:List (Addr×Obj)}{σ:St}{H:Hp}{s:Shared}{scope:Scope}{cl:List (Str×Addr)}{xs ys:List Str}{js:List Nat}{fp:List Addr}{C D:Addr}{h':Heap}
theorem eM.compOkT(I:eM X pins σ H s)(S:iq X scope cl xs ys js)(hf:∀b∈fp,oa X pins H b)(hfb:∀b∈fp,b<s.heap.objs.size)(hC:s.heap.objs.size<=C):(gn X scope cl (xs++ys) fp s H C).Ok where
 mod:=I.ok.mod
 kind:=S.kind
 glob:=I.ok.glob
 blt:=I.ok.blt
 above:=hC
 inj:=λy z c h1 h2=>I.ok.inj y z c (S.cells y c h1) (S.cells z c h2)
 has:=λy h=>S.has y h
 cab:=λ_ _ h=>by cases h
 hd:=I.ok.hd
 frames:=I.ok.frames
 stk:=.inl rfl
 exf:=λb hb=>by obtain⟨_,h1,_,h3,h4,_⟩:=hf b hb;exact⟨aJ (aY (hfb b hb) hC),λy c e=>h4 y c (S.cells y c e)⟩
 bs:=I.bs
 bsz:=aP I.ok.bsz I.sz
 noex:=λb o e hb=>by
  obtain⟨_,_,_,h3,_⟩:=hf b hb;rcases h3 with z|z
  ·exact I.ok.noex b o e z
  ·exact absurd (aY (Heap.lt_size e) (aP I.ok.bsz z)) (bS _)
 exfs:=λb hb z=>by
  obtain⟨_,h1,h2,_⟩:=hf b hb;rcases aB.mp (I.stkSub b z)with e|e
  ·exact h1 e
  ·exact h2 e
 funs:=I.stack
 frf:=I.stkFree
theorem eM.compInT(I:eM X pins σ H s)(S:iq X scope cl xs ys js)(hf:∀b∈fp,oa X pins H b)(hfb:∀b∈fp,b<s.heap.objs.size)(hC:s.heap.objs.size<=C)(hD:s.heap.objs.size<=D)(hDC:D≠C)
  (keep:∀b o,s.heap.get? b=some o->h'.get? b=some o) (ns:h'.Ns C m) (ho:h'.get? D=some (mh [] n)):
  eM (gn X scope cl (xs++ys) fp s H C) ((X.pn++pins)++[(D,mh [] n)]) (List.replicate xs.length none++AT σ js) H {s with heap:=h',toks:=t'} where
 ok:=I.compOkT S hf hfb hC
 os:=rfl
 bare:=I.bare
 base:=Un.kept keep
 loc:=by
  refine⟨m,ns,λi y v e1 e2 e3=>?_⟩;have e1:(xs++ys)[i]?=some y:=e1;by_cases hi:i<xs.length
  ·rw[au (by simpa using hi),cq,if_pos hi]at e2;cases e2
  ·obtain⟨k,rfl⟩:∃k,i=xs.length+k:=⟨i-xs.length,by lia⟩;rw[bC (by lia),cW]at e1;rw[bC (by simp),cK,cW]at e2;obtain⟨j,hj,hN,hk,hk2⟩:=S.free k y e1;have e4:σ[j]?=some (some v):=by
    unfold AT at e2;rw[aT,hj]at e2;have e2:σ.getD j none=some v:=Option.some.inj e2;rw[cA]at e2;cases q:σ[j]? with
    | none=>rw[q]at e2;cases e2
    | some z=>rw[q]at e2;exact congrArg some e2
   obtain⟨m0,hn0,hl⟩:=I.loc;obtain⟨u,ru,l⟩:=hl j y v hN e4 (.inr (.inl hk));refine⟨u,ru,.inr ⟨hk2,?_⟩⟩;obtain⟨c,hc⟩:=S.has y hk2;rcases l with⟨z,_⟩|⟨_,c',hc',hcell⟩
   ·have z:X.env.scope.names.lookup y=some .local:=z;rw[hk]at z;cases z
   ·have q:=S.cells y c hc;rw[hc']at q;cases q;obtain⟨oc,a1,a2⟩:=hcell;exact⟨_,hc,oc,keep _ _ a1,a2⟩
 cell:=λy c e=>by obtain⟨v,oc,a1,a2⟩:=I.cell y c (S.cells y c e);exact⟨v,oc,keep _ _ a1,a2⟩
 free:=I.hok.fresh hC
 freeC:=λy c e=>I.freeC y c (S.cells y c e)
 pin:=λp hp=>by
  rcases aQ.mp (show p∈(X.pn++pins)++[(D,mh [] n)]from hp)with z|z
  ·obtain⟨e,nn,ne,nf,d⟩:=I.pin p z;exact⟨keep _ _ e,nn,aJ (aY (Heap.lt_size e) hC),I.nostk ne nf,d⟩
  ·rw[aF]at z;subst z;exact⟨ho,I.hok.fresh hD,hDC,I.nostk (az (aY I.lt hD)) (I.nofs hD),λv z=>by cases(show Data.seq _ _=Data.cell v from z)⟩
 hok:=I.hok.kept keep
 len:=by simp[AT,gn,S.len]
end
section
variable {prog:Program}{w:World}{A:Around}{s:Shared}{R:Result->Shared->Prop}
end
def LJ(wi:TI)(g:TG)(te:TE)(js:List Nat):TE:=λσ H Q=>wi σ H λJ H1=>∃W:Nat->Nat->List V->Hp->Prop,(∃m,W 0 m [] H1)/\∀i m vs H,W i m vs H->
 (J.stop i H/\vs.length<=sizeLine/\kL H (.lst vs) Q)∨
 (J.go i H/\∀x H',J.yld i H x H'->∀o1 o2,g x (o1::o2::AT σ js) H' λσ2 H2=>(∃o1 o2,σ2=o1::o2::AT σ js)/\te σ2 H2 λy H''=>vs.length<sizeLine/\∃m',m'<m/\W (i+1) m' (vs++[y]) H'')
def AO(K:aA)(a b:Addr):It:=
  ⟨λi H=>∃xs ys x y,eL K H a xs/\eL K H b ys/\xs[i]?=some x/\ys[i]?=some y,
   λi H v H'=>∃p x y,v=.ref p/\H p=none/\H'=upd H p (.tup [x,y])/\(∀xs,eL K H a xs->xs[i]?=some x)/\∀ys,eL K H b ys->ys[i]?=some y,
   λi H=>∃xs ys,eL K H a xs/\eL K H b ys/\xs.length<=i⟩
theorem yw{P:Program}{w:World}{K:aA}{es:List Expr}{x1}{pos:Pos}{z p q c d a b:Addr}(D:ZipApart z p q c d a b):vE P w K (.Tuple es x1 pos) (AO K a b) [z,p,q,c,d] z
  (λi h=>IsZip h z p q .none/\IsPair h p (.ref c) (.ref d)/\(∃u v,IsPair h q u v)/\h.IsListIter c a i/\h.IsListIter d b i) where
 mem:=by simp
 obj:=λi h st b hb=>by
  obtain⟨hz,hp,⟨u,v,hq⟩,⟨oc,ec,_,dc⟩,⟨od,ed,_,dd⟩⟩:=st;simp only[aB,aG,or_false]at hb;rcases hb with rfl|rfl|rfl|rfl|rfl
  ·exact⟨_,hz,λv e=>by cases(show Data.fields _=Data.cell v from e)⟩
  ·exact⟨_,hp,λv e=>by cases(show Data.seq _ _=Data.cell v from e)⟩
  ·exact⟨_,hq,λv e=>by cases(show Data.seq _ _=Data.cell v from e)⟩
  ·exact⟨oc,ec,λv e=>by rw[dc]at e;cases e⟩
  ·exact⟨od,ed,λv e=>by rw[dd]at e;cases e⟩
 keep:=λi h h' st k=>by obtain⟨hz,hp,⟨u,v,hq⟩,⟨oc,ec,rc⟩,⟨od,ed,rd⟩⟩:=st;exact⟨k z (by simp) _ hz,k p (by simp) _ hp,⟨u,v,k q (by simp) _ hq⟩,⟨oc,k c (by simp) _ ec,rc⟩,⟨od,k d (by simp) _ ed,rd⟩⟩
 item:=by
  intro X hP hw hK hc i pins s σ H E I hf st hg;subst hP hw hK;obtain⟨hz,hp,⟨u0,v0,hq⟩,h1,h2⟩:=st;obtain⟨xs,ys,x,y,hxs,hys,hx,hy⟩:=hg;obtain⟨its,rv,pa,za⟩:=I.list hxs;obtain⟨jts,rw',pb,zb⟩:=I.list hys;obtain⟨u,hu,ru⟩:=rv.get hx;obtain⟨v,hv,ru'⟩:=rw'.get hy;refine wpAny_pyNext_zip_item D hz hp hq h1 h2 pa.isList pb.isList (x:=u) (y:=v) (by simpa using hu) (by simpa using hv) λg g1 g2 g3 g4 g5 g6 g7=>?_;refine⟨_,rfl,wpAny_letOwnedTupleGo_zip g1 λg' z' sb=>?_⟩;replace sb:Heap.SameBut z g g':=sb;have zl:z<s.heap.objs.size:=Heap.lt_size hz;have kk:∀b u,b∉[z,p,q,c,d]->s.heap.get? b=some u->g'.get? b=some u:=λb u hb e=>by simp only[aB,aG,or_false,not_or]at hb;exact sb.extBut _ _ hb.1 (g7 b u hb.1 hb.2.2.1 hb.2.2.2.1 hb.2.2.2.2 e)
  have pT:IsPair g' s.heap.objs.size u v:=sb.extBut _ _ (az zl) g5;have new:gC X.prog X.w (upd H s.heap.objs.size (.tup [x,y])) g' s.heap.objs.size (.tup [x,y]):=⟨(by show 2<=sizeLine;rw[sizeLine_eq];decide),[u,v],.cons ru (.cons ru' .nil),_,pT,rfl,_,rfl⟩;have I1:eM X pins σ (upd H s.heap.objs.size (.tup [x,y])) {s with heap:=g'}:=I.turnedN (t':=s.toks) hf kk (aC _) new;obtain⟨oc,ec,rc⟩:=g3;obtain⟨od,ed,rd⟩:=g4;refine⟨.ref s.heap.objs.size,_,I1,rfl,⟨s.heap.objs.size,x,y,rfl,I.hok.fresh (aC _),rfl,λzs hzs=>by rw[I.list_inj hzs hxs];exact hx,λzs hzs=>by rw[I.list_inj hzs hys];exact hy⟩,
   ⟨z',sb.extBut _ _ D.TIz (g7 p _ D.TIz D.TITO D.TIi1 D.TIi2 hp),⟨u,v,sb.extBut _ _ D.TOz g2⟩,⟨oc,sb.extBut _ _ D.i1z ec,rc⟩,⟨od,sb.extBut _ _ D.i2z ed,rd⟩⟩,λb hb=>?_⟩
  have hbn:=(hf b hb).1;have:b≠s.heap.objs.size:=by
   have st0:∀b∈[z,p,q,c,d],b<s.heap.objs.size:=by
    intro b hb;simp only[aB,aG,or_false]at hb;rcases hb with rfl|rfl|rfl|rfl|rfl
    ·exact Heap.lt_size hz
    ·exact Heap.lt_size hp
    ·exact Heap.lt_size hq
    ·obtain⟨_,e,_⟩:=h1;exact Heap.lt_size e
    ·obtain⟨_,e,_⟩:=h2;exact Heap.lt_size e
   exact aJ (st0 b hb)
  rw[dY this];exact hbn
 done:=by intro X hP hw hK hc i pins s σ H E I hf st hg;subst hP hw hK;obtain⟨hz,hp,⟨u0,v0,hq⟩,h1,h2⟩:=st;obtain⟨xs,ys,hxs,hys,hl⟩:=hg;obtain⟨its,rv,pa,za⟩:=I.list hxs;obtain⟨jts,rw',pb,zb⟩:=I.list hys;have hlen:=rv.length;refine wpAny_pyNext_zip_end (I.ok.hd hc) D hz hp hq h1 h2 pa.isList pb.isList (.inl (by simp;lia)) λg kg=>⟨rfl,I.turnedL (t':=s.toks) hf λb u hb e=>?_⟩;simp only[aB,aG,or_false,not_or]at hb;exact kg b u hb.1 hb.2.2.1 hb.2.2.2.1 hb.2.2.2.2 e
 self:=λ_ _ _ _ _ st h=>wpAny_pyIter_zip st.1 h
def Cs(K:aA)(ta tb:TE):TI:=λσ H R=>ta σ H λx H1=>tb σ H1 λy H2=>onR x λa=>onR y λb=>lM (eL K H2 a) λ_=>lM (eL K H2 b) λ_=>R (AO K a b) H2
section
variable {X:Cx}{es:List Expr}{x1:Nat}{tp:Pos}
theorem E9{l r:Expr}{ta tb:TE}{np pos:Pos}(hg:Gl X "zip")(hm:X.mg "zip"=none)(ha:PE X l ta)(hb:PE X r tb)(he:starEach [l,r] X.env=[(false,eval l X.env),(false,eval r X.env)]:=by rfl)(he2:starEach [r] X.env=[(false,eval r X.env)]:=by rfl):
  PI X (.Tuple es x1 tp) (.Call (.Name "zip" np) [l,r] [] pos) (Cs X.K ta tb):=by
 intro pins s σ H R I h;refine wpAny_Call_Name_kw (ju I hg hm Kc ?_);have h2:starEach (r::[]) X.env=(false,eval r X.env)::starEach [] X.env:=he2;have h1:starEach (l::[r]) X.env=(false,eval l X.env)::starEach [r] X.env:=by rw[he,he2]
 refine bJ (thn ((de ha (de hb fN h2) h1:PA X [l,r] (dI ta (dI tb dQ))) pos pins s σ H (λvs H2=>onC vs λx r=>on1 r λy=>onR x λa=>onR y λb=>lM (eL X.K H2 a) λ_=>lM (eL X.K H2 b) λ_=>R (AO X.K a b) H2) I h) λus s1 hz=>?_) h1 (by rw[he2];rfl);obtain⟨vs,H1,I1,r1,q1⟩:=hz;obtain⟨_,_,rfl,q1⟩:=onC.ex q1;obtain⟨_,rfl,q1⟩:=on1.ex q1;obtain⟨a,rfl,q1⟩:=onR.ex q1;obtain⟨b,rfl,q1⟩:=onR.ex q1;obtain @⟨xs,hxs,q1⟩:=q1;obtain @⟨ys,hys,q⟩:=q1;obtain⟨u,v,rfl,ru,rv⟩:=eu.two r1;cases ru;cases rv;obtain⟨its,rva,pa,_⟩:=I1.list hxs;obtain⟨jts,rvb,pb,_⟩:=I1.list hys;refine call_zip_2 pa.isList pb.isList λg g1 g2 g3 g4 g5 g6 g7=>?_;have hla:a<s1.heap.objs.size:=by obtain⟨_,e,_⟩:=pa.isList;exact Heap.lt_size e
 have hlb:b<s1.heap.objs.size:=by obtain⟨_,e,_⟩:=pb.isList;exact Heap.lt_size e
 generalize en:s1.heap.objs.size=n at *;refine wpAny_pyIter_zip g1 ?_;refine⟨n+4,[n+4,n+2,n+3,n,n+1],_,_,H1,rfl,I1.kept (t':=s1.toks) g7,yw (PyProof.Rows.zipApart_new hla hlb),⟨g1,g2,⟨_,_,g3⟩,g4,g5⟩,λc hc=>?_,q⟩;have:s1.heap.objs.size<=c:=by
  simp only[aB,aG,or_false]at hc;rw[en];rcases hc with e|e|e|e|e<;>rw[e]
  ·exact ba n 4
  ·exact ba n 2
  ·exact ba n 3
  ·exact aC n
  ·exact ba n 1
 exact I1.fpOk this (I1.hok.fresh this)
end
end L2
namespace PySem
open AutoSeq1 (wpAny_loadPart')
section
variable {prog:Program}{w:World}{A:Around}{E:Value->Shared->Prop}{s:Shared}
theorem Fi{e c t:Addr}{j:Nat}{xs:Array Value}{x old:Value}{Q:Value->Shared->Prop}(he:IsEnum s.heap e c j old)(hc:s.heap.IsTupleIter c t j)(ht:s.heap.IsTuple t xs)(hx:xs[j]?=some x)(hne:e≠c)
  (hQ:∀g,IsEnumOut g e c ((j:Int)+1) x s.heap.objs.size->g.IsTupleIter c t (j+1)->g.get? s.heap.objs.size=some {cls:=.type "tuple",data:=.seq #[.int j s.toks,x]}->g.objs.size=s.heap.objs.size+1->
   (∀b o,b≠e->b≠c->s.heap.get? b=some o->g.get? b=some o)->Q (.ref s.heap.objs.size) {s with heap:=g,toks:=s.toks+1}):
  wpAny (model prog w) A (Builtin.«enumerate.__next__» ⟨[.ref e],[]⟩) (λfk s'=>∃v,fk=.done (.ret v)/\Q v s') E s:=by
 obtain⟨hp,gg,d,tk,os⟩:=s;show wpAny _ _ (field (.ref e) 2 >>= _) _ _ _;refine wpAny_bind (wpAny_field he rfl (x:=.ref c) rfl ?_);refine wpAny_bind (Dr hc ht hx λg1 c1 e1=>?_);replace e1:Heap.SameBut c hp g1:=e1;have r1:IsEnum g1 e c j old:=(e1.2 e hne).trans he;show wpAny _ _ (field (.ref e) 3 >>= _) _ _ ⟨g1,gg,d,tk,os⟩;refine wpAny_bind (wpAny_field r1 rfl (x:=rawInt j) rfl ?_);show wpAny _ _ (field (.ref e) 4 >>= _) _ _ ⟨g1,gg,d,tk,os⟩;refine wpAny_bind (wpAny_field r1 rfl (x:=.none) rfl ?_);show wpAny _ _ (mkInt j >>= _) _ _ ⟨g1,gg,d,tk,os⟩;refine wpAny_bind (wpAny_mkInt ?_);show wpAny _ _ (setField (.ref e) 3 (rawInt ((j:Int)+1)) >>= _) _ _ ⟨g1,gg,d,tk+1,os⟩;refine wpAny_bind (wpAny_setField_rec r1 (by simp) λg2 r2 e2=>?_);replace e2:Heap.SameBut e g1 g2:=e2;replace r2:IsEnum g2 e c ((j:Int)+1) old:=r2;show wpAny _ _ (setField (.ref e) 4 .none >>= _) _ _ ⟨g2,gg,d,tk+1,os⟩;refine wpAny_bind (wpAny_setField_rec r2 (by simp) λg3 r3 e3=>?_);replace e3:Heap.SameBut e g2 g3:=e3;replace r3:IsEnum g3 e c ((j:Int)+1) old:=r3;show wpAny _ _ (newTuple [.int j tk,x] >>= _) _ _ ⟨g3,gg,d,tk+1,os⟩;refine wpAny_bind (wpAny_newTuple ?_);have r4:IsEnum (g3.push {cls:=.type "tuple",data:=.seq #[.int j tk,x]}) e c ((j:Int)+1) old:=Heap.get?_push_of_some _ r3;generalize q4:g3.push {cls:=.type "tuple",data:=.seq #[.int j tk,x]}=g4 at r4;have sz:g3.objs.size=hp.objs.size:=by rw[e3.1,e2.1,e1.1]
 have el:e<hp.objs.size:=Heap.lt_size he;have t4:g4.get? hp.objs.size=some {cls:=.type "tuple",data:=.seq #[.int j tk,x]}:=by rw[<-q4,<-sz];exact Heap.get?_push_size _ rfl
 have n4:g4.objs.size=hp.objs.size+1:=by rw[<-q4,Heap.size_push,sz]
 have k4:∀b o,b≠e->b≠c->hp.get? b=some o->g4.get? b=some o:=λb o hb1 hb2 hb=>by rw[<-q4];exact Heap.get?_push_of_some _ (e3.extBut b o hb1 (e2.extBut b o hb1 (e1.extBut b o hb2 hb)))
 have c4:g4.IsTupleIter c t (j+1):=by rw[<-q4];obtain⟨o,ho,r⟩:=(c1.extBut e2.extBut (ac hne)).extBut e3.extBut (ac hne);exact⟨o,Heap.get?_push_of_some _ ho,r⟩
 show wpAny _ _ (Builtin.SmallTypes.ownedTupleIsFree (.ref e) >>= _) _ _ ⟨g4,gg,d,tk+1,os⟩;rw[sz];clear q4 r3 e3 r2 e2 r1 e1 c1 sz g3 g2 g1;refine wpAny_bind ?_
 ·unfold Builtin.SmallTypes.ownedTupleIsFree;refine wpAny_bind (wpAny_field r4 rfl (x:=.none) rfl (wpAny_pure ?_));simp only[if_true];refine wpAny_bind (wpAny_rule ?_);refine wpAny_bind (wpAny_field r4 rfl (x:=old) rfl ?_);refine wpAny_bind (wpAny_setField_rec r4 (by simp) λg5 r5 e5=>?_);replace e5:Heap.SameBut e g4 g5:=e5;replace r5:IsEnum g5 e c ((j:Int)+1) x:=r5;show wpAny _ _ (Builtin.SmallTypes.ownedTupleHandOut (.ref e) (.ref hp.objs.size) >>= _) _ _ ⟨g5,gg,d,tk+1,os⟩;refine wpAny_bind ?_
  ·unfold Builtin.SmallTypes.ownedTupleHandOut;refine wpAny_bind (wpAny_setField_rec r5 (by simp) λg6 r6 e6=>?_);replace e6:Heap.SameBut e g5 g6:=e6;replace r6:IsEnumOut g6 e c ((j:Int)+1) x hp.objs.size:=r6;refine wpAny_setField_rec r6 (by simp) λg7 r7 e7=>?_;replace e7:Heap.SameBut e g6 g7:=e7;replace r7:IsEnumOut g7 e c ((j:Int)+1) x hp.objs.size:=r7;refine wpAny_bind (wpAny_letGo (wpAny_pure ⟨_,rfl,hQ g7 r7 ?_ ?_ ?_ ?_⟩))
   ·exact((c4.extBut e5.extBut (ac hne)).extBut e6.extBut (ac hne)).extBut e7.extBut (ac hne)
   ·exact e7.extBut _ _ (az el) (e6.extBut _ _ (az el) (e5.extBut _ _ (az el) t4))
   ·rw[e7.1,e6.1,e5.1,n4]
   ·exact λb o hb1 hb2 hb=>e7.extBut b o hb1 (e6.extBut b o hb1 (e5.extBut b o hb1 (k4 b o hb1 hb2 hb)))
theorem AE{e c t:Addr}{j:Nat}{xs:Array Value}{x old:Value}{Q:Option Value->Shared->Prop}(he:IsEnum s.heap e c j old)(hc:s.heap.IsTupleIter c t j)(ht:s.heap.IsTuple t xs)(hx:xs[j]?=some x)(hne:e≠c)
  (hQ:∀g,IsEnumOut g e c ((j:Int)+1) x s.heap.objs.size->g.IsTupleIter c t (j+1)->g.get? s.heap.objs.size=some {cls:=.type "tuple",data:=.seq #[.int j s.toks,x]}->g.objs.size=s.heap.objs.size+1->
   (∀b o,b≠e->b≠c->s.heap.get? b=some o->g.get? b=some o)->Q (some (.ref s.heap.objs.size)) {s with heap:=g,toks:=s.toks+1}):wpAny (model prog w) A (pyNext (.ref e)) Q E s:=by
 have hT:s.TypeIs (.ref e) "enumerate":=⟨_,he,rfl⟩;unfold pyNext;exact wpAny_bind (wpAny_attempt (wpAny_callSpecial?_slot (name:=Str.ofString "__next__") hT F.slot_enumerate_next (wpAny_call_entry F.slot_enumerate_next hT F.entry_enumerate_next (Fi he hc ht hx hne λg a b c d k=>wpAny_pure (hQ g a b c d k)) (F.args_enumerate_next_1 _))))
theorem C6{e c t:Addr}{j:Nat}{xs:Array Value}{old:Value}{Q:Option Value->Shared->Prop}(hh:A.handled=none)(he:IsEnum s.heap e c j old)(hc:s.heap.IsTupleIter c t j)(ht:s.heap.IsTuple t xs)(hx:xs[j]?=none)
  (hQ:∀g,Heap.ExtBut c s.heap g->Q none {s with heap:=g}):wpAny (model prog w) A (pyNext (.ref e)) Q E s:=by
 have hT:s.TypeIs (.ref e) "enumerate":=⟨_,he,rfl⟩;unfold pyNext;refine wpAny_bind (wpAny_attempt (wpAny_callSpecial?_slot (name:=Str.ofString "__next__") hT F.slot_enumerate_next (wpAny_call_entry F.slot_enumerate_next hT F.entry_enumerate_next ?_ (F.args_enumerate_next_1 _))));show wpAny _ _ (field (.ref e) 2 >>= _) _ _ _;refine wpAny_bind (wpAny_field he rfl (x:=.ref c) rfl ?_);refine wpAny_bind (Dq hh hc ht hx λg y he' hy=>?_);obtain⟨o,ho,hcl⟩:=hy;exact wpAny_bind (wpAny_isInstance (T:="StopIteration") (b:=true) ⟨o,ho,hcl⟩ isSubtype_stop (wpAny_pure (hQ _ he')))
end
theorem C7(t:Addr)(o:Obj)(xs:Array Value)(hcls:o.cls=.type "tuple")(n:Nat)(hdat:o.data=.seq xs n):
  Meets (Builtin.«enumerate.__new__» ⟨[.type "enumerate",.ref t],[]⟩) (λ_ R s=>s.heap.get? t=some o/\
   R (.ok (.ret (.ref (s.heap.push {cls:=.type "tuple_iterator",data:=.fields #[.ref t,.int 0 0]}).objs.size)))
    {s with heap:=(s.heap.push {cls:=.type "tuple_iterator",data:=.fields #[.ref t,.int 0 0]}).push {cls:=.type "enumerate",data:=.fields #[.none,.bool false,.ref s.heap.objs.size,rawInt 0,.none,.none]}}):=
 .of_wp λprog w A R s h=>by
  obtain⟨hp,g,d,tk,os⟩:=s;obtain⟨hl,h⟩:=h;obtain⟨oc,od,oda,osl⟩:=o;cases hcls;cases hdat;have hsub:=sub_enumerate;have hL:Heap.IsTuple (Shared.heap ⟨hp,g,d,tk,os⟩) t xs:=⟨_,hl,rfl,n,rfl⟩
  wp_walk using wpAny_loadPart' hl
  refine wpAny_stack_any λst=>wpAny_pure ?_;split
  ·rename_i c _ _ _ _ _;cases(c==Value.type "enumerate")
   ·wp_walk using wpAny_loadPart' hl,wpAny_pyIter_tuple hL
    exact⟨_,rfl,h⟩
   ·wp_walk using wpAny_loadPart' hl,wpAny_pyIter_tuple hL
    exact⟨_,rfl,h⟩
  ·wp_walk using wpAny_loadPart' hl,wpAny_pyIter_tuple hL
   exact⟨_,rfl,h⟩
section
variable {prog:Program}{w:World}{A:Around}{E:Value->Shared->Prop}{s:Shared}
theorem Fj(ht:s.heap.IsTuple t xs)
  (h:∀g n,n=s.heap.objs.size->IsEnum g (n+1) n 0 .none->g.IsTupleIter n t 0->g.objs.size=n+2->(∀c o,s.heap.get? c=some o->g.get? c=some o)->Q (.ref (n+1)) {s with heap:=g}):wpAny (model prog w) A (call (.type "enumerate") [.ref t]) Q E s:=by
 obtain⟨o,ho,hc,n,hd⟩:=ht;refine callType_new F.called_enumerate (by decide) (F.typeCall_enumerate_1 _) (F.newCall_enumerate_1 _) (λobj=>F.args_object_init_2 obj _) F.entry_enumerate_new (C7 t o xs hc n hd) ⟨ho,?_⟩;have z1:(s.heap.push {cls:=.type "tuple_iterator",data:=.fields #[.ref t,.int 0 0]}).objs.size=s.heap.objs.size+1:=Heap.size_push ..;show _/\_;have g2:((s.heap.push {cls:=.type "tuple_iterator",data:=.fields #[.ref t,.int 0 0]}).push {cls:=.type "enumerate",data:=.fields #[.none,.bool false,.ref s.heap.objs.size,rawInt 0,.none,.none]}).get? (s.heap.push {cls:=.type "tuple_iterator",data:=.fields #[.ref t,.int 0 0]}).objs.size=some _:=Heap.get?_push_size _ rfl;rw[z1]at g2⊢;exact⟨⟨_,g2,rfl⟩,h _ _ rfl g2 ⟨_,Heap.get?_push_of_some _ (Heap.get?_push_size _ rfl),rfl,rfl⟩ (by rw[Heap.size_push,z1]) λc o e=>Heap.get?_push_of_some _ (Heap.get?_push_of_some _ e)⟩
end
end PySem
namespace L2
open PySem PySem.Spec PyProof.Rows
def PV(K:aA)(a:Addr):It:=
  ⟨λi H=>∃xs x,eD K H a xs/\xs[i]?=some x,
   λi H v H'=>∃p x,v=.ref p/\H p=none/\H'=upd H p (.tup [.int i,x])/\∀xs,eD K H a xs->xs[i]?=some x,
   λi H=>∃xs,eD K H a xs/\xs.length<=i⟩
theorem yz{P:Program}{w:World}{K:aA}{es:List Expr}{x1}{pos:Pos}{e c a:Addr}(hne:e≠c):vE P w K (.Tuple es x1 pos) (PV K a) [e,c] e
  (λi h=>(∃old,IsEnum h e c i old)/\h.IsTupleIter c a i) where
 mem:=by simp
 obj:=λi h st b hb=>by
  obtain⟨⟨old,he⟩,⟨oc,ec,_,dc⟩⟩:=st;simp only[aB,aG,or_false]at hb;rcases hb with rfl|rfl
  ·exact⟨_,he,λv e=>by cases(show Data.fields _=Data.cell v from e)⟩
  ·exact⟨oc,ec,λv e=>by rw[dc]at e;cases e⟩
 keep:=λi h h' st k=>by obtain⟨⟨old,he⟩,⟨oc,ec,rc⟩⟩:=st;exact⟨⟨old,k e (by simp) _ he⟩,⟨oc,k c (by simp) _ ec,rc⟩⟩
 item:=by
  intro X hP hw hK hc i pins s σ H E I hf st hg;subst hP hw hK;obtain⟨⟨old,he⟩,h1⟩:=st;obtain⟨xs,x,hxs,hx⟩:=hg;obtain⟨its,rv,pa,za⟩:=I.tuple hxs;obtain⟨u,hu,ru⟩:=rv.get hx;have cl:c<s.heap.objs.size:=by obtain⟨_,e,_⟩:=h1;exact Heap.lt_size e
  refine AE he h1 (show s.heap.IsTuple a its.toArray from pa) (x:=u) (by simpa using hu) hne λg g1 g2 g3 g4 g5=>?_;refine⟨_,rfl,wpAny_letOwnedTupleGo_enum g1 λg' z' sb=>?_⟩;replace sb:Heap.SameBut e g g':=sb;have zl:e<s.heap.objs.size:=Heap.lt_size he;have kk:∀b u,b∉[e,c]->s.heap.get? b=some u->g'.get? b=some u:=λb u hb ee=>by simp only[aB,aG,or_false,not_or]at hb;exact sb.extBut _ _ hb.1 (g5 b u hb.1 hb.2 ee)
  have pT:g'.get? s.heap.objs.size=some {cls:=.type "tuple",data:=.seq #[.int i s.toks,u]}:=sb.extBut _ _ (az zl) g3;have new:gC X.prog X.w (upd H s.heap.objs.size (.tup [.int i,x])) g' s.heap.objs.size (.tup [.int i,x]):=⟨(by show 2<=sizeLine;rw[sizeLine_eq];decide),[.int i s.toks,u],.cons ⟨_,rfl⟩ (.cons ru .nil),_,pT,rfl,_,rfl⟩;have I1:eM X pins σ (upd H s.heap.objs.size (.tup [.int i,x])) {s with heap:=g',toks:=s.toks+1}:=I.turnedN (t':=s.toks+1) hf kk (aC _) new;obtain⟨oc,ec,rc⟩:=g2;refine⟨.ref s.heap.objs.size,_,I1,rfl,⟨s.heap.objs.size,x,rfl,I.hok.fresh (aC _),rfl,λzs hzs=>by rw[I.tuple_inj hzs hxs];exact hx⟩,
   ⟨⟨_,z'⟩,⟨oc,sb.extBut _ _ (ac hne) ec,rc⟩⟩,λb hb=>?_⟩
  have hbn:=(hf b hb).1;have:b≠s.heap.objs.size:=by
   simp only[aB,aG,or_false]at hb;rcases hb with rfl|rfl
   ·exact aJ zl
   ·exact aJ cl
  rw[dY this];exact hbn
 done:=by intro X hP hw hK hc i pins s σ H E I hf st hg;subst hP hw hK;obtain⟨⟨old,he⟩,h1⟩:=st;obtain⟨xs,hxs,hl⟩:=hg;obtain⟨its,rv,pa,za⟩:=I.tuple hxs;have hlen:=rv.length;refine C6 (I.ok.hd hc) he h1 (show s.heap.IsTuple a its.toArray from pa) (by simp;lia) λg kg=>⟨rfl,I.turnedL (t':=s.toks) hf λb u hb ee=>?_⟩;simp only[aB,aG,or_false,not_or]at hb;exact kg b u hb.2 ee
 self:=λ_ _ _ _ _ st h=>by obtain⟨⟨_,he⟩,_⟩:=st;exact wpAny_pyIter_enum he h
def Ga(K:aA)(ta:TE):TI:=λσ H R=>ta σ H λx H1=>onR x λa=>lM (eD K H1 a) λ_=>R (PV K a) H1
theorem tN:bootBuiltins "enumerate"=some (.type "enumerate"):=by decide
section
variable {X:Cx}{es:List Expr}{x1:Nat}{tp:Pos}
theorem FA{l:Expr}{ta:TE}{np pos:Pos}(hg:Gl X "enumerate")(hm:X.mg "enumerate"=none)(ha:PE X l ta)(he:starEach [l] X.env=[(false,eval l X.env)]:=by rfl):
  PI X (.Tuple es x1 tp) (.Call (.Name "enumerate" np) [l] [] pos) (Ga X.K ta):=by
 intro pins s σ H R I h;refine wpAny_Call_Name_kw (ju I hg hm tN ?_);have h1:starEach (l::[]) X.env=(false,eval l X.env)::starEach [] X.env:=he;refine bJ (thn ((de ha fN h1:PA X [l] (dI ta dQ)) pos pins s σ H (λvs H2=>on1 vs λx=>onR x λa=>lM (eD X.K H2 a) λ_=>R (PV X.K a) H2) I h) λus s1 hz=>?_) h1 (by rfl);obtain⟨vs,H1,I1,r1,q1⟩:=hz;obtain⟨_,rfl,q1⟩:=on1.ex q1;obtain⟨a,rfl,q1⟩:=onR.ex q1;obtain @⟨xs,hxs,q⟩:=q1;obtain⟨u,rfl,ru⟩:=eu.one r1;cases ru;obtain⟨its,rva,pa,_⟩:=I1.tuple hxs;refine Fj (show s1.heap.IsTuple a its.toArray from pa) λg n en g1 g2 g3 g4=>?_;refine wpAny_pyIter_enum g1 ?_;refine⟨n+1,[n+1,n],_,_,H1,rfl,I1.kept (t':=s1.toks) g4,yz (a:=a) (Nat.succ_ne_self n),⟨⟨_,g1⟩,g2⟩,λc hc=>?_,q⟩;have:s1.heap.objs.size<=c:=by
  simp only[aB,aG,or_false]at hc;rw[<-en];rcases hc with e|e<;>rw[e]
  ·exact ba n 1
  ·exact aC n
 exact I1.fpOk this (I1.hok.fresh this)
end
section
variable {X:Cx}
end
end L2
namespace PySem
open AutoSeq1
theorem NJ(l:Addr)(eI:Array Value)(n:Nat)(b:Addr)(o:Obj)(items2:Array Value)(n2:Nat)(hcls:o.cls=.type "tuple")(hdat:o.data=.seq items2 n2)(hs0:¬(!eI.isEmpty&&Builtin.List.listTooLong (eI.size+items2.size))=true)(hs1:eI.size<=sizeLine)(hs2:eI.size+items2.size<=sizeLine+1):
  Meets (Builtin.«list.extend» ⟨[.ref l,.ref b],[]⟩) (λ_ R s=>s.heap.get? l=some {cls:=.type "list",dict:=none,data:=.seq eI n,slots:=#[]}/\s.heap.get? b=some o/\R (.ok (.ret Value.none)) {s with heap:=s.heap.update l (Obj.mapSeq λx=>x++items2),toks:=s.toks}):=
 .of_wp λprog w A R s h=>by
  obtain⟨hp,g,d,tk,os⟩:=s;obtain⟨hl,hb,h⟩:=h;have f1:=idx_int;have f2:=sub_tuple_tuple;have f3:=sub_list_list;have f4:=sub_tuple_list;have f5:=sub_list_tuple;obtain⟨oc,od,oda,osl⟩:=o;cases hcls;cases hdat;have hz':(eI++items2).size<=sizeLine+1:=by rw[Array.size_append];exact hs2
  wp_walk using(wpAny_updateSeq hl rfl (hz:=hs1) (_hz':=hz')),wpAny_loadPart' hl,wpAny_loadPart' hb
  exact⟨_,rfl,h⟩
end PySem
namespace L2
open PySem PySem.Spec PyProof.Rows
section
variable {X:Cx}
def uQ:V->List V->Hp->VK->Prop:=λx vs H Q=>∃l b xs zs,x=.ref l/\vs=[.ref b]/\H l=some (.lst xs)/\H b=some (.tup zs)/\xs.length+zs.length<=sizeLine/\Q .non (upd H l (.lst (xs++zs)))
theorem wJ:NS X "list.extend" uQ:=by
 intro pins s σ H x vs v us Q I rx rv h;obtain⟨l,b,xs,zs,rfl,rfl,hH,hB,hz,q⟩:=h;cases rx;obtain⟨u,rfl,ru⟩:=rv.one;cases ru;obtain⟨z,its,n,r,hl,e⟩:=I.lstM hH;obtain⟨z2,its2,r2,o,e2,hc,n2,hd⟩:=(show gC X.prog X.w H s.heap b (.tup zs)from I.hok b _ hB);have hl2:=r2.length;have hsz:its.toArray.size+its2.toArray.size<=sizeLine:=by rw[aM,aM];lia
 have hlong:¬(!its.toArray.isEmpty&&Builtin.List.listTooLong (its.toArray.size+its2.toArray.size))=true:=by rw[uZ hsz,Bool.and_false];exact aR
 refine call_meets F.slot_list_extend ⟨_,e,rfl⟩ F.entry_list_extend (F.args_list_extend_2 _ _)
  (PySem.NJ l its.toArray n b o its2.toArray n2 hc hd hlong (by rw[aM];lia) (by lia)) ⟨e,e2,?_⟩
 refine⟨.non,_,I.lset (its':=its++its2) hH e (by simp) (r.append r2) ?_,rfl,q⟩;rw[aE];lia
end
end L2
namespace S9
open PySem L2 SW
inductive G where
 | leaf(k:Str)(x:V)
 | plain(k:Str)(ks:List G)
 | word(k w:Str)(ks:List G)
def G.kids:G->List G
 | .leaf _ _=>[]
 | .plain _ ks=>ks
 | .word _ _ ks=>ks
def G.hd:G->List V
 | .leaf k x=>[.str k,x]
 | .plain k _=>[.str k]
 | .word k w _=>[.str k,.str w]
def G.kind:G->Str
 | .leaf k _=>k
 | .plain k _=>k
 | .word k _ _=>k
def G.ok:G->Prop
 | .leaf k _=>k="number"∨k="name"
 | .plain k _=>k≠"number"/\k≠"name"/\k≠"let"/\k≠"stamp"
 | .word k w _=>k="let"∨k="stamp"
inductive DG(H:Hp):G->V->Prop where
 | mk{g:G}{p:Addr}{us:List V}:g.ok->H p=some (.tup (g.hd++us))->us.length=g.kids.length->(∀(i:Nat)(k:G)(u:V),g.kids[i]?=some k->us[i]?=some u->DG H k u)->DG H g (.ref p)
def jf(H:Hp)(gs:List G)(us:List V):Prop:=us.length=gs.length/\∀(i:Nat)(k:G)(u:V),gs[i]?=some k->us[i]?=some u->DG H k u
theorem DG.mono(k:fF H H')(h:DG H g v):DG H' g v:=by
 induction h with
 | mk a b c d ih=>exact .mk a (k _ _ b) c ih
theorem jf.mono(k:fF H H')(h:jf H gs us):jf H' gs us:=⟨h.1,λi a u e1 e2=>(h.2 i a u e1 e2).mono k⟩
theorem DG.open(h:DG H g v):∃p us,v=.ref p/\g.ok/\H p=some (.tup (g.hd++us))/\jf H g.kids us:=by
 cases h with
 | mk a b c d=>exact⟨_,_,rfl,a,b,c,d⟩
theorem jf.nil:jf H [] []:=⟨rfl,λi k u e=>by simp at e⟩
theorem jf.cons(a:DG H g v)(b:jf H gs us):jf H (g::gs) (v::us):=by
 refine⟨by rw[aD,aD,b.1],λi k u e1 e2=>?_⟩;cases i with
 | zero=>cases e1;cases e2;exact a
 | succ i=>exact b.2 i k u e1 e2
theorem jf.head(h:jf H (g::gs) (v::us)):DG H g v/\jf H gs us:=
 ⟨h.2 0 g v rfl rfl,by have:=h.1;rw[aD,aD]at this;lia,λi k u e1 e2=>h.2 (i+1) k u e1 e2⟩
theorem jf.append(a:jf H gs us)(b:jf H ks vs):jf H (gs++ks) (us++vs):=by
 induction gs generalizing us with
 | nil=>obtain⟨e,_⟩:=a;cases us with
  | nil=>exact b
  | cons _ _=>cases e
 | cons g gs ih=>
  cases us with
  | nil=>have:=a.1;cases this
  | cons u us=>exact .cons a.head.1 (ih a.head.2)
theorem jf.snoc(h:jf H gs (us++[u])):∃ks k,gs=ks++[k]/\jf H ks us/\DG H k u:=by
 have hl:=h.1;have hne:gs≠[]:=λe=>by subst e;simp at hl
 obtain⟨ks,k,rfl⟩:=gI hne;have hl2:us.length=ks.length:=by simpa using hl
 refine⟨ks,k,rfl,⟨hl2,λi a u' e1 e2=>h.2 i a u' ?_ ?_⟩,h.2 ks.length k u ?_ ?_⟩
 ·rw[au (aK.mp e1).1];exact e1
 ·rw[au (aK.mp e2).1];exact e2
 ·simp
 ·rw[<-hl2];simp
def gD:T->G
 | .num n=>.leaf "number" (.int n)
 | .name w=>.leaf "name" (.str w)
 | .sum a b=>.plain "sum" [gD a,gD b]
 | .less a b=>.plain "less" [gD a,gD b]
 | .cho a b c=>.plain "choose" [gD a,gD b,gD c]
 | .lt w a b=>.word "let" w [gD a,gD b]
 | .st0 w=>.word "stamp" w []
 | .st1 w a=>.word "stamp" w [gD a]
 | .st2 w a b=>.word "stamp" w [gD a,gD b]
theorem iw:∀{t:T}{v:V},fc H t v->DG H (gD t) v
 | .num _,_,⟨p,e,h⟩=>by subst e;exact .mk (us:=[]) (.inl rfl) h rfl λi k u e=>by simp[G.kids,gD]at e
 | .name _,_,⟨p,e,h⟩=>by subst e;exact .mk (us:=[]) (.inr rfl) h rfl λi k u e=>by simp[G.kids,gD]at e
 | .sum _ _,_,⟨p,x,y,e,h,a,b⟩=>by subst e;have d:=jf.cons (iw a) (.cons (iw b) .nil);exact .mk (us:=[x,y]) ⟨by decide,by decide,by decide,by decide⟩ h rfl d.2
 | .less _ _,_,⟨p,x,y,e,h,a,b⟩=>by subst e;have d:=jf.cons (iw a) (.cons (iw b) .nil);exact .mk (us:=[x,y]) ⟨by decide,by decide,by decide,by decide⟩ h rfl d.2
 | .cho _ _ _,_,⟨p,x,y,z,e,h,a,b,c⟩=>by subst e;have d:=jf.cons (iw a) (.cons (iw b) (.cons (iw c) .nil));exact .mk (us:=[x,y,z]) ⟨by decide,by decide,by decide,by decide⟩ h rfl d.2
 | .lt _ _ _,_,⟨p,x,y,e,h,a,b⟩=>by subst e;have d:=jf.cons (iw a) (.cons (iw b) .nil);exact .mk (us:=[x,y]) (.inl rfl) h rfl d.2
 | .st0 _,_,⟨p,e,h⟩=>by subst e;exact .mk (us:=[]) (.inr rfl) h rfl λi k u e=>by simp[G.kids,gD]at e
 | .st1 _ _,_,⟨p,x,e,h,a⟩=>by subst e;have d:=jf.cons (iw a) jf.nil;exact .mk (us:=[x]) (.inr rfl) h rfl d.2
 | .st2 _ _ _,_,⟨p,x,y,e,h,a,b⟩=>by subst e;have d:=jf.cons (iw a) (.cons (iw b) .nil);exact .mk (us:=[x,y]) (.inr rfl) h rfl d.2
theorem Kt{us:List V}(h:us.length=n+1):∃x r,us=x::r/\r.length=n:=by
 cases us with
 | nil=>cases h
 | cons x r=>exact⟨x,r,rfl,Nat.succ.inj h⟩
theorem jf.one(h:jf H [a] us):∃x,us=[x]/\DG H a x:=by obtain⟨l,d⟩:=h;obtain⟨x,r,rfl,k⟩:=Kt l;cases bF.mp k;exact⟨x,rfl,d 0 a x rfl rfl⟩
theorem jf.two(h:jf H [a,b] us):∃x y,us=[x,y]/\DG H a x/\DG H b y:=by obtain⟨l,d⟩:=h;obtain⟨x,r,rfl,k⟩:=Kt l;obtain⟨y,q,rfl,k2⟩:=Kt k;cases bF.mp k2;exact⟨x,y,rfl,d 0 a x rfl rfl,d 1 b y rfl rfl⟩
theorem jf.three(h:jf H [a,b,c] us):∃x y z,us=[x,y,z]/\DG H a x/\DG H b y/\DG H c z:=by obtain⟨l,d⟩:=h;obtain⟨x,r,rfl,k⟩:=Kt l;obtain⟨y,q,rfl,k2⟩:=Kt k;obtain⟨z,o,rfl,k3⟩:=Kt k2;cases bF.mp k3;exact⟨x,y,z,rfl,d 0 a x rfl rfl,d 1 b y rfl rfl,d 2 c z rfl rfl⟩
theorem jf.none(h:jf H [] us):us=[]:=bF.mp h.1
theorem gm:∀{t:T}{v:V},DG H (gD t) v->fc H t v
 | .num _,_,d=>by obtain⟨p,us,rfl,_,h,k⟩:=d.open;cases k.none;exact⟨p,rfl,h⟩
 | .name _,_,d=>by obtain⟨p,us,rfl,_,h,k⟩:=d.open;cases k.none;exact⟨p,rfl,h⟩
 | .sum _ _,_,d=>by obtain⟨p,us,rfl,_,h,k⟩:=d.open;obtain⟨x,y,rfl,a,b⟩:=jf.two k;exact⟨p,x,y,rfl,h,gm a,gm b⟩
 | .less _ _,_,d=>by obtain⟨p,us,rfl,_,h,k⟩:=d.open;obtain⟨x,y,rfl,a,b⟩:=jf.two k;exact⟨p,x,y,rfl,h,gm a,gm b⟩
 | .cho _ _ _,_,d=>by obtain⟨p,us,rfl,_,h,k⟩:=d.open;obtain⟨x,y,z,rfl,a,b,c⟩:=jf.three k;exact⟨p,x,y,z,rfl,h,gm a,gm b,gm c⟩
 | .lt _ _ _,_,d=>by obtain⟨p,us,rfl,_,h,k⟩:=d.open;obtain⟨x,y,rfl,a,b⟩:=jf.two k;exact⟨p,x,y,rfl,h,gm a,gm b⟩
 | .st0 _,_,d=>by obtain⟨p,us,rfl,_,h,k⟩:=d.open;cases k.none;exact⟨p,rfl,h⟩
 | .st1 _ _,_,d=>by obtain⟨p,us,rfl,_,h,k⟩:=d.open;obtain⟨x,rfl,a⟩:=jf.one k;exact⟨p,x,rfl,h,gm a⟩
 | .st2 _ _ _,_,d=>by obtain⟨p,us,rfl,_,h,k⟩:=d.open;obtain⟨x,y,rfl,a,b⟩:=jf.two k;exact⟨p,x,y,rfl,h,gm a,gm b⟩
theorem uq(t:T):(gD t).kids=t.kids.map gD:=by cases t<;>rfl
theorem tD:∀{ts:List T}{us:List V},jf H (ts.map gD) us->fm H ts us
 | [],us,h=>by cases h.none;exact .nil
 | t::ts,[],h=>by have:=h.1;cases this
 | t::ts,u::us,h=>.cons (gm h.head.1) (tD h.head.2)
mutual
def G.size:G->Nat
 | .leaf _ _=>1
 | .plain _ ks=>1+gq ks
 | .word _ _ ks=>1+gq ks
def gq:List G->Nat
 | []=>0
 | k::ks=>k.size+gq ks
end
theorem G.size_kids(g:G):g.size=1+gq g.kids:=by cases g<;>simp[G.size,G.kids,gq]
theorem jR(a b:List G):gq (a++b)=gq a+gq b:=by
 induction a with
 | nil=>simp[gq]
 | cons k ks ih=>rw[aN,gq,gq,ih,Nat.add_assoc]
theorem nI(g:G):gq [g]=g.size:=by simp[gq]
theorem ql(gs:List G):gs.length<=gq gs:=by
 induction gs with
 | nil=>exact aS _
 | cons g gs ih=>have:=g.size_kids;rw[aD,gq];lia
inductive Od:List G->List G->Prop where
 | nil:Od [] []
 | step{s l:List G}{g:G}:Od (s++g.kids) l->Od (s++[g]) (g::l)
inductive xA(x:G):G->Prop where
 | refl:xA x x
 | kid{g k:G}:k∈g.kids->xA x k->xA x g
theorem Od.mem(h:Od s l)(x:G):x∈l↔∃g∈s,xA x g:=by
 induction h with
 | nil=>simp
 | @step s l g _ ih=>
  rw[aB,ih];constructor
  ·rintro(rfl|⟨y,hy,i⟩)
   ·exact⟨x,by simp,.refl⟩
   ·rcases aQ.mp hy with z|z
    ·exact⟨y,by simp[z],i⟩
    ·exact⟨g,by simp,.kid z i⟩
  ·rintro⟨y,hy,i⟩;rcases aQ.mp hy with z|z
   ·exact .inr ⟨y,ae _ z,i⟩
   ·rw[aF]at z;subst z;cases i with
    | refl=>exact .inl rfl
    | kid hk i=>exact .inr ⟨_,aL _ hk,i⟩
theorem Od.one(h:Od [g] l)(x:G):x∈l↔xA x g:=by rw[h.mem];simp
def iZ:Sp:=λvs H Q _=>∃g v,vs=[v]/\DG H g v/\∀p us H',dq H H'->H' p=some (.tup us)->jf H' g.kids us->Q (.ref p) H'
def lT:Sp:=λvs H Q _=>∃g v,vs=[v]/\DG H g v/\g.size<=5000/\∀l us L H',dq H H'->H l=none->H' l=some (.lst us)->Od [g] L->jf H' L us->Q (.ref l) H'
variable {K:aA}{vs:List V}{H:Hp}{Q:VK}{E:XK}
theorem nk(h:k≠w):decide (V.str k=V.str w)=false:=decide_eq_false λe=>h (V.str.inj e)
theorem Kr(h:iZ vs H Q E):D1 K (fk Q) (start ["piece","kind"] vs) H:=by
 obtain⟨g,v,rfl,hd,k⟩:=h;obtain⟨p,us,rfl,ok,hp,dk⟩:=hd.open;cases g with
 | leaf kd x=>
  have e:us=[]:=by have:=dk.1;simpa[G.kids]using this
  subst e;refine⟨eD.of hp,rfl,?_⟩;refine⟨rfl,_,rfl,?_⟩;rcases ok with rfl|rfl
  ·refine fI (by decide) (uk ?_);exact⟨fL,λq hq=>k q [] _ (dS hq) dP .nil⟩
  ·refine eU (by decide) ?_;refine⟨rfl,_,rfl,?_⟩;refine fI (by decide) ?_;exact⟨fL,λq hq=>k q [] _ (dS hq) dP .nil⟩
 | plain kd ks=>obtain⟨o1,o2,o3,o4⟩:=ok;have ec:iJ (.str kd::us) (some 1) none=us:=(lJ (.str kd::us) 1 (by simp)).trans rfl;refine⟨eD.of hp,gF,?_⟩;refine⟨rfl,_,rfl,eU (nk o1) ⟨rfl,_,rfl,eU (nk o2) ⟨rfl,_,rfl,eU (nk o3) ⟨rfl,_,rfl,eU (nk o4) ?_⟩⟩⟩⟩;refine⟨eD.of hp,mn 1 (by decide) (by simp[G.hd]),λq hq=>?_⟩;refine k q us _ (dS hq) ?_ (dk.mono (vR hq));show upd H q (.tup (iJ (.str kd::us) (some 1) none)) q=_;rw[ec,dP]
 | word kd w ks=>
  have ec:iJ (.str kd::.str w::us) (some 2) none=us:=(lJ (.str kd::.str w::us) 2 (by simp)).trans rfl;have fin2:∀q,H q=none->Q (.ref q) (upd H q (.tup (iJ (.str kd::.str w::us) (some 2) none))):=λq hq=>by refine k q us _ (dS hq) ?_ (dk.mono (vR hq));rw[ec,dP]
  refine⟨eD.of hp,gF,?_⟩;refine⟨rfl,_,rfl,?_⟩;rcases ok with rfl|rfl
  ·refine eU (by decide) ⟨rfl,_,rfl,eU (by decide) ⟨rfl,_,rfl,fI (by decide) (uk ?_)⟩⟩;exact⟨eD.of hp,mn 2 (by decide) (by simp[G.hd]),fin2⟩
  ·refine eU (by decide) ⟨rfl,_,rfl,eU (by decide) ⟨rfl,_,rfl,eU (by decide) ⟨rfl,_,rfl,fI (by decide) ?_⟩⟩⟩;exact⟨eD.of hp,mn 2 (by decide) (by simp[G.hd]),fin2⟩
theorem LV(h:rg vs H Q E):iZ vs H Q E:=by obtain⟨t,v,rfl,d,k⟩:=h;exact⟨gD t,v,rfl,iw d,λp us H' s hp dk=>k p us H' s hp (tD (by rw[uq]at dk;exact dk))⟩
def Ii(K:aA):TS:=(dZ (eB (jG K "list" jH (dJ 2)) (dR 3)) (dZ (eX (iW K "list" eE (dJ 1) (dI (dJ 3) dQ))) (eX (iW K "list" uQ (dJ 2) (dI (eN iZ [] E0 (dI (dJ 3) dQ)) dQ)))))
def N7(K:aA):TS:=(dZ (eB (fG dQ) (dR 1)) (dZ (eB (fG (dI (dJ 0) dQ)) (dR 2)) (dZ (gi (dz (dj nK (gx (ga K) (dI (dJ 2) dQ)) (tC (.int 0)))) (Ii K)) (fD (dJ 1)))))
structure PZ(g:G)(H₀ H:Hp)(fl wl:Addr)(fs us:List V)(F S:List G):Prop where
 same:dq H₀ H
 nf:H₀ fl=none
 nw:H₀ wl=none
 ne:fl≠wl
 f_:H fl=some (.lst fs)
 w_:H wl=some (.lst us)
 df:jf H F fs
 dw:jf H S us
 od:∀l,Od S l->Od [g] (F++l)
 sz:gq S+F.length<=g.size
def Qd(g:G)(H:Hp)(fl wl:Addr)(v:V)(m:Nat)(σ:St)(H':Hp):Prop:=∃j3 fs us F S,σ=[some v,some (.ref fl),some (.ref wl),j3]/\PZ g H H' fl wl fs us F S/\m=gq S
theorem P9(h:lT vs H Q E):N7 K (fk Q) (start ["piece","found","waiting","current"] vs) H:=by
 obtain⟨g,v,rfl,hd,hsz,k⟩:=h;refine⟨fL,λfl hf=>⟨fL,λwl hw=>?_⟩⟩;have s1:dq H (upd H fl (.lst [])):=dS hf;have s2:=dS (o:=.lst [v]) hw;have n1:fl≠wl:=dX (dP (H:=H) (a:=fl) (o:=.lst [])) hw;refine⟨Qd g H fl wl v,⟨_,none,[],[v],[],[g],rfl,?_,rfl⟩,?_⟩
 ·exact⟨s1.trans s2,hf,s1.free hw,n1,s2 _ _ dP,dP,.nil,.cons (hd.mono (dW (s1.trans s2))) .nil,λl h=>h,by rw[nI];simp⟩
 ·clear s1 s2;rintro m σ H1 ⟨j3,fs,us,F,S,rfl,A,rfl⟩;refine⟨.inl (eL.of A.w_),_,rfl,?_⟩;by_cases hv:us=[]
  ·subst hv;refine eU rfl ?_;have e:S=[]:=bF.mp A.dw.1.symm;subst e;have od:=A.od [] .nil;rw[aX]at od;exact(k fl fs F _ A.same hf A.f_ od A.df)
  ·obtain⟨us,u,rfl⟩:=gI hv;refine fI (decide_eq_true (by simp)) ?_;obtain⟨S',g',rfl,d1,d2⟩:=A.dw.snoc;refine⟨Lt (Qd g H fl wl v) (gq (S'++[g'])),λ_ _ h=>h,?_⟩;refine⟨.inl ⟨rfl,_,eL.of A.w_⟩,A.w_,iO,?_⟩;rw[gk];have hsz2:=A.sz;rw[jR,nI]at hsz2;have hk:=g'.size_kids;have hf1:=A.df.1;have t1:fF H1 (upd H1 wl (.lst us)):=fA A.w_;have s1:dq H (upd H1 wl (.lst us)):=eJ A.same A.nw;have f1:(upd H1 wl (.lst us)) fl=some (.lst fs):=by rw[dY A.ne];exact A.f_
   have w1:(upd H1 wl (.lst us)) wl=some (.lst us):=dP;have df1:=A.df.mono t1;have dw1:=d1.mono t1;have dg1:=d2.mono t1;generalize upd H1 wl (.lst us)=H2 at s1 f1 w1 df1 dw1 dg1⊢;refine⟨.inl ⟨rfl,_,eL.of f1⟩,f1,by rw[sizeLine_eq];lia,?_⟩;have t2:fF H2 (upd H2 fl (.lst (fs++[u]))):=fA f1;have s2:dq H (upd H2 fl (.lst (fs++[u]))):=eJ s1 hf;have f2:(upd H2 fl (.lst (fs++[u]))) fl=some (.lst (fs++[u])):=dP;have w2:(upd H2 fl (.lst (fs++[u]))) wl=some (.lst us):=by rw[dY A.ne.symm];exact w1
   have df2:=(df1.append (.cons dg1 .nil)).mono t2;have dw2:=dw1.mono t2;have dg2:=dg1.mono t2;generalize upd H2 fl (.lst (fs++[u]))=H3 at s2 f2 w2 df2 dw2 dg2⊢;refine⟨.inl ⟨rfl,_,eL.of w2⟩,g',u,rfl,dg2,λp ks H4 s4 hp dk=>?_⟩;have hl1:=dw2.1;have hl2:=dk.1;have hl3:=ql S';have hl4:=ql g'.kids;refine⟨wl,p,us,ks,rfl,rfl,s4 _ _ w2,hp,by rw[sizeLine_eq];lia,?_⟩;have w4:=s4 _ _ w2;have t5:fF H4 (upd H4 wl (.lst (us++ks))):=fA w4;refine⟨gq (S'++g'.kids),by rw[jR,jR,nI];lia,_,fs++[u],us++ks,F++[g'],S'++g'.kids,rfl,⟨eJ (s2.trans s4) A.nw,hf,A.nw,A.ne,?_,dP,(df2.mono (dW s4)).mono t5,((dw2.mono (dW s4)).append dk).mono t5,λl h=>?_,?_⟩,rfl⟩
   ·rw[dY A.ne];exact s4 _ _ f2
   ·rw[aW];exact A.od _ (.step h)
   ·rw[jR,aE,a5];lia
end S9
namespace S9
open PySem L2 SW
variable {K:aA}{vs:List V}{H:Hp}{Q:VK}{E:XK}{N:Addr}
def jz(H:Hp)(w:Str)(ps:List Str)(g:G)(v:V):Prop:=∃p l x,v=.ref p/\H p=some (.tup [.str w,.ref l,x])/\H l=some (.lst (ps.map V.str))/\DG H g x
theorem jz.mono(s:dq H H')(h:jz H w ps g v):jz H' w ps g v:=by obtain⟨p,l,x,e,a,b,c⟩:=h;exact⟨p,l,x,e,s _ _ a,s _ _ b,c.mono (dW s)⟩
structure Bk(H:Hp)(v1 v2 v3:V)(g1 g2 g3:G):Prop where
 a:jz H "star" [] g1 v1
 b:∃p,jz H "sta" [p] g2 v2
 c:∃p q,jz H "st" [p,q] g3 v3
theorem Bk.mono(s:dq H H')(h:Bk H v1 v2 v3 g1 g2 g3):Bk H' v1 v2 v3 g1 g2 g3:=⟨h.a.mono s,h.b.imp λ_ z=>z.mono s,h.c.imp λ_ z=>z.imp λ_ z=>z.mono s⟩
def zw(v1 v2 v3:V):List (fB×V):=[(.inr "star",v1),(.inr "sta",v2),(.inr "st",v3)]
theorem J7:("star":Str)≠"sta":=by decide
theorem J4:("star":Str)≠"st":=by decide
theorem J3:("sta":Str)≠"st":=by decide
def jU(w:Str):Option Nat:=if w="star" then some 0 else if w="sta" then some 1 else if w="st" then some 2 else none
def Kz:G->Prop
 | .word k w ks=>k="stamp"->jU w=some ks.length
 | _=>True
def kE:Sp:=λvs H Q _=>∃b v1 v2 v3 g1 g2 g3,vs=[.ref b]/\H b=some (.lst [v1,v2,v3])/\Bk H v1 v2 v3 g1 g2 g3/\∀d H',dq H H'->H d=none->H' d=some (.dK (zw v1 v2 v3))->Q (.ref d) H'
def xK(K:aA):TS:=(jl (dJ 1) (dj (dy K) (dJ 2) (tC (.int 0))) (dJ 2))
def K7(K:aA):TS:=(dZ (eB iF (dR 1)) (dZ (iV (iT K (dJ 0)) (dR 2) (xK K)) (fD (dJ 1))))
theorem Ob:fh ([]:List (fB×V)) (.inr "star") v=[(.inr "star",v)]:=rfl
theorem Oa:fh [((.inr "star":fB),v1)] (.inr "sta") v=[(.inr "star",v1),(.inr "sta",v)]:=by simp[fh,J7]
theorem OZ:fh [((.inr "star":fB),v1),(.inr "sta",v2)] (.inr "st") v=[(.inr "star",v1),(.inr "sta",v2),(.inr "st",v)]:=by simp[fh,J4,J3]
theorem OJ(h:kE vs H Q E):K7 K (fk Q) (start ["book","stamps","stamp"] vs) H:=by
 obtain⟨b,v1,v2,v3,g1,g2,g3,rfl,hb,bk,k⟩:=h;intro d hd;have s1:dq H (upd H d (.dK [])):=dS hd;refine⟨eL.of (s1 _ _ hb),?_⟩;refine gZ (K:=K) (a:=b) (xs:=[v1,v2,v3]) (λi σ H'=>∃j2,σ=[some (.ref b),some (.ref d),j2]/\dq H H'/\H' d=some (.dK ((zw v1 v2 v3).take i))) ⟨none,rfl,s1,dP⟩ (λi σ H' _ hP=>?_) ?_ ?_
 ·obtain⟨_,_,s,_⟩:=hP;exact eL.of (s _ _ hb)
 ·rintro i y σ H' hi ⟨j2,rfl,s,hd'⟩;have B:=bk.mono s;have go:∀(w:Str)(ps:List Str)(g:G),jz H' w ps g y->fh ((zw v1 v2 v3).take i) (.inr w) y=(zw v1 v2 v3).take (i+1)->i<=3->∀D:fz,(∀σ H',(∃j2,σ=[some (.ref b),some (.ref d),j2]/\dq H H'/\H' d=some (.dK ((zw v1 v2 v3).take (i+1))))->D.nx σ H')->dR 2 y [some (.ref b),some (.ref d),j2] H' λσ2 H2=>xK K D σ2 H2:=by intro w ps g hst e hi3 D hD;obtain⟨p,l,x,rfl,hp,_⟩:=hst;refine⟨eD.of hp,rfl,lO.k (k:=.inr w) hd' (lU (aP (List.length_take_le _ _) (by lia))),hD _ _ ⟨_,rfl,eJ s hd,?_⟩⟩;rw[dP,e]
  match i,hi,go with
  | 0,hi,go=>cases hi;exact go _ _ _ B.a Ob (by lia) _ (λ_ _ z=>z)
  | 1,hi,go=>cases hi;have⟨_,z⟩:=B.b;exact go _ _ _ z Oa (by lia) _ (λ_ _ z=>z)
  | 2,hi,go=>cases hi;have⟨_,_,z⟩:=B.c;exact go _ _ _ z OZ (by lia) _ (λ_ _ z=>z)
  | n+3,hi,_=>simp at hi
 ·rintro σ H' ⟨j2,rfl,s,hd'⟩;exact(k d H' s hd hd')
theorem Dv(v1 v2 v3:V)(w:Str):fP (zw v1 v2 v3) (.inr w)=if w="star" then some v1 else if w="sta" then some v2 else if w="st" then some v3 else none:=by
 unfold zw;by_cases h1:w="star"
 ·subst h1;rw[if_pos rfl];exact fX rfl
 rw[if_neg h1,fY (by intro e;exact h1 (Sum.inr.inj e).symm)];by_cases h2:w="sta"
 ·subst h2;rw[if_pos rfl];exact fX rfl
 rw[if_neg h2,fY (by intro e;exact h2 (Sum.inr.inj e).symm)];by_cases h3:w="st"
 ·subst h3;rw[if_pos rfl];exact fX rfl
 rw[if_neg h3,fY (by intro e;exact h3 (Sum.inr.inj e).symm)];rfl
theorem MM(B:Bk H v1 v2 v3 g1 g2 g3)(w:Str):(fP (zw v1 v2 v3) (.inr w)=none/\jU w=none)∨∃v ps g,fP (zw v1 v2 v3) (.inr w)=some v/\jz H w ps g v/\jU w=some ps.length/\ps.length<=2:=by
 rw[Dv];unfold jU;by_cases h1:w="star"
 ·subst h1;exact .inr ⟨v1,_,_,if_pos rfl,B.a,if_pos rfl,by decide⟩
 rw[if_neg h1,if_neg h1];by_cases h2:w="sta"
 ·subst h2;have⟨_,z⟩:=B.b;exact .inr ⟨v2,_,_,if_pos rfl,z,if_pos rfl,by simp⟩
 rw[if_neg h2,if_neg h2];by_cases h3:w="st"
 ·subst h3;have⟨_,_,z⟩:=B.c;exact .inr ⟨v3,_,_,if_pos rfl,z,if_pos rfl,by simp⟩
 rw[if_neg h3,if_neg h3];exact .inl ⟨rfl,rfl⟩
def Hv(K:aA):TS:=(dZ (eB (dj x6 (dj E4 (tC (.str "abcdefghijklmnopqrstuvwxyz")) (dj iu (dj ib (dJ 2) (tC (.int 1))) (gx yg (dI (tC (.str "abcdefghijklmnopqrstuvwxyz")) dQ)))) (dJ 1)) (dR 1)) (eB (dj oK (dj ib (dJ 2) (tC (.int 1))) (gx yg (dI (tC (.str "abcdefghijklmnopqrstuvwxyz")) dQ))) (dR 2)))
def Ny(K:aA):TS:=(dZ (eB (dj E4 (tC (.str "abcdefghijklmnopqrstuvwxyz")) (dj iu (dJ 0) (gx yg (dI (tC (.str "abcdefghijklmnopqrstuvwxyz")) dQ)))) (dR 1)) (dZ (eB (dj oK (dJ 0) (gx yg (dI (tC (.str "abcdefghijklmnopqrstuvwxyz")) dQ))) (dR 2)) (dZ (gi (dz (dj nK (dJ 2) (tC (.int 0)))) (Hv K)) (fD (dJ 1)))))
def Vw:List Nat->Nat
 | []=>0
 | [c]=>c-97
 | c::d::w=>Vw (d::w)+(c-96)*26^(w.length+1)
theorem Fw(h:w≠[]):Vw (c::w)=Vw w+(c-96)*26^w.length:=by
 cases w with
 | nil=>exact absurd rfl h
 | cons d w=>rfl
theorem uh:(("abcdefghijklmnopqrstuvwxyz":Str)).length=26:=by decide
theorem zt{n:Nat}(hn:n<26):nC (("abcdefghijklmnopqrstuvwxyz":Str)).cps.toList (n:Int)=some (n+97):=by refine fK ?_;rw[yK,aT,cz hn];rfl
structure vG(n r m:Nat)(x:Str):Prop where
 one:1<=x.length
 few:x.length+m<=30
 sm:r<2^m
 abc:∀c∈x.cps.toList,97<=c/\c<=122
 val:Vw x.cps.toList+26^x.length*r=n
theorem zn(n:Nat)(hn:n<=16000000):vG n (n / 26) 20 ⟨#[n%26+97]⟩:=by
 refine⟨aC _,by show 1+20<=30;lia,by lia,λc hc=>?_,?_⟩
 ·have:c=n%26+97:=by simpa using hc
  lia
 ·show n%26+97-97+26^1*(n / 26)=n;lia
theorem CV(h:vG n r m x)(hr:0<r):∃m',vG n ((r-1) / 26) m' (⟨#[(r-1)%26+97]⟩++x):=by
 cases m with
 | zero=>have:=h.sm;lia
 | succ m=>
  have el:((⟨#[(r-1)%26+97]⟩:Str)++x).length=x.length+1:=by show(#[(r-1)%26+97]++x.cps).size=x.cps.size+1;simp[cU]
  have ec:((⟨#[(r-1)%26+97]⟩:Str)++x).cps.toList=((r-1)%26+97)::x.cps.toList:=by show(#[(r-1)%26+97]++x.cps).toList=_;rw[bw];rfl
  have hl:x.cps.toList.length=x.length:=be;have hf:=h.few;have hs:=h.sm;refine⟨m,by rw[el];lia,by rw[el];lia,?_,λc hc=>?_,?_⟩
  ·rw[cX]at hs;generalize 2^m=z at *;lia
  ·rw[ec]at hc;rcases aB.mp hc with e|e
   ·lia
   ·exact h.abc c e
  ·rw[ec,Fw (λz=>by have:=h.one;rw[z]at hl;simp at hl;lia),el,hl];have hv:=h.val;have e1:(r-1)%26+97-96=(r-1)%26+1:=by lia
   rw[e1,cX];have e2:r=(r-1)%26+1+26*((r-1) / 26):=by lia
   generalize (r-1)%26=a at *;generalize (r-1) / 26=b at *;rw[e2]at hv;rw[<-hv,cY,Nat.mul_comm (a+1),Nat.mul_assoc,Nat.add_assoc]
def rh:Sp:=λvs H Q _=>∃n:Nat,vs=[.int n]/\n<=16000000/\∀x:Str,Wd x->x.length<=30->Vw x.cps.toList=n->Q (.str x) H
theorem Px(h:rh vs H Q E):Ny K (fk Q) (start ["number","word","rest"] vs) H:=by
 obtain⟨n,rfl,hn,k⟩:=h;have z26:(("abcdefghijklmnopqrstuvwxyz":Str)).length<=sizeLine:=by rw[uh];exact fL
 have p26:(0:Int)<((("abcdefghijklmnopqrstuvwxyz":Str)).length:Int):=by rw[uh];decide
 have e0:∀j:Nat,nC (("abcdefghijklmnopqrstuvwxyz":Str)).cps.toList ((j:Int)%((("abcdefghijklmnopqrstuvwxyz":Str)).length:Int))=some (j%26+97):=λj=>by rw[uh,<-Int.natCast_emod];exact zt (Nat.mod_lt _ (by decide))
 refine⟨_,rfl,z26,p26,_,_,_,rfl,rfl,z26,e0 n,?_⟩;have c26:∀i:Int,Ko i ((("abcdefghijklmnopqrstuvwxyz":Str)).length:Int):=λi=>by rw[uh];exact⟨by decide,by decide⟩
 refine⟨_,rfl,z26,c26 _,?_⟩;have ed:∀j:Nat,((j:Int) / ((("abcdefghijklmnopqrstuvwxyz":Str)).length:Int))=((j / 26:Nat):Int):=λj=>by rw[uh];exact(Int.natCast_ediv j 26).symm
 dsimp only;rw[ed];refine⟨λm σ H'=>H'=H/\∃(r mm:Nat)(x:Str),σ=[some (.int n),some (.str x),some (.int r)]/\vG n r mm x/\m=r,⟨n / 26,rfl,_,_,_,rfl,zn n hn,rfl⟩,?_⟩;rintro m σ H' ⟨rfl,r,mm,x,rfl,A,rfl⟩;refine⟨_,rfl,?_⟩;refine ir (λhl=>?_) (λhl=>?_)
 ·have hl:(0:Int)<(m:Int):=of_decide_eq_true hl;have hm:0<m:=by lia
  refine⟨λσ' H''=>∃m',m'<m/\(H''=H'/\∃(r mm:Nat)(x:Str),σ'=[some (.int n),some (.str x),some (.int r)]/\vG n r mm x/\m'=r),λ_ _ h=>h,?_⟩;obtain⟨mm',A'⟩:=CV A hm;have ec:((m:Int)-1)=((m-1:Nat):Int):=by lia
  have hx:=A.few;refine⟨_,rfl,z26,p26,_,_,_,rfl,rfl,z26,by rw[ec];exact e0 (m-1),?_,?_⟩
  ·show 1+x.length<=_;rw[sizeLine_eq];lia
  refine⟨_,rfl,z26,c26 _,?_⟩;dsimp only;rw[ec,ed];exact⟨(m-1) / 26,by lia,rfl,_,_,_,rfl,A',rfl⟩
 ·have hl:¬(0:Int)<(m:Int):=λz=>hl (decide_eq_true z);have hm:m=0:=by lia
  subst hm;have hv:=A.val;rw[Nat.mul_zero,Nat.add_zero]at hv;have hf:=A.few;exact(k x ⟨A.one,by lia,A.abc⟩ (by lia) hv)
end S9
namespace S9
open PySem L2 SW
variable {K:aA}{vs:List V}{H:Hp}{Q:VK}{E:XK}{N C:Addr}
structure RW(K:aA)(C:Addr):Prop where
 cl:xE K C
 nT:io K C "taken"
 nR:io K C "tried"
def wf(d:Addr)(n:Nat):List (Str×V):=[("taken",.ref d),("tried",.int n)]
theorem QI:¬(("taken":Str)="tried"):=by decide
theorem tu:(wf d n).lookup ("taken":Str)=some (.ref d):=by
 have e:(("taken":Str)=="taken")=true:=by decide
 simp only[wf,List.lookup,e]
theorem tq:(wf d n).lookup ("tried":Str)=some (.int n):=by
 have e:(("tried":Str)=="taken")=false:=by decide
 have e2:(("tried":Str)=="tried")=true:=by decide
 simp only[wf,List.lookup,e,e2]
theorem G8:gv "tried" (.int i) (wf d n)=([("taken",.ref d),("tried",.int i)]:List (Str×V)):=by simp only[wf,gv,if_neg QI,if_true]
structure FW(C:Addr)(H:Hp)(p dx d:Addr)(n:Nat)(ws:List Str):Prop where
 ob:H p=some (.ins C dx (wf d n))
 dk:H d=some (.dK (iX ws))
def cnt(n:Nat):List Str->Nat
 | []=>0
 | y::r=>(if n<=Vw y.cps.toList then 1 else 0)+cnt n r
theorem DD(n:Nat)(ws:List Str):cnt (n+1) ws<=cnt n ws:=by
 induction ws with
 | nil=>exact aC _
 | cons y r ih=>unfold cnt;split<;>split<;>lia
theorem KZ(h:x∈ws)(e:Vw x.cps.toList=n):cnt (n+1) ws<cnt n ws:=by
 induction ws with
 | nil=>cases h
 | cons y r ih=>
  have:=DD n r;rcases aB.mp h with rfl|h
  ·unfold cnt;rw[if_neg (by lia),if_pos (by lia)];lia
  ·have:=ih h;unfold cnt;split<;>split<;>lia
theorem ye(n:Nat)(ws:List Str):cnt n ws<=ws.length:=by
 induction ws with
 | nil=>exact aC _
 | cons y r ih=>unfold cnt;rw[aD];split<;>lia
theorem wm(n:Nat)(ws:List Str)(x:Str):cnt n (ws++[x])=cnt n ws+(if n<=Vw x.cps.toList then 1 else 0):=by
 induction ws with
 | nil=>simp[cnt]
 | cons y r ih=>rw[aN,cnt,cnt,ih];lia
def Dp(p d:Addr)(H H':Hp):Prop:=∀b o,b≠p->b≠d->H b=some o->H' b=some o
theorem Dp.refl:Dp p d H H:=λ_ _ _ _ h=>h
theorem Dp.trans(a:Dp p d H H1)(b:Dp p d H1 H2):Dp p d H H2:=λc o h1 h2 h=>b c o h1 h2 (a c o h1 h2 h)
def oh(C:Addr):Sp:=λvs H Q _=>∃(p dx d:Addr)(n:Nat)(ws:List Str)(w:Str),vs=[.ref p,.str w]/\FW C H p dx d n ws/\Wd w/\ws.length<=8000000/\n+cnt n ws<=ws.length/\
 ∀(x:Str)(n':Nat)(H':Hp),Wd x->x∉ws->(w∉ws->x=w)->n'+cnt n' (ws++[x])<=ws.length+1->Dp p d H H'->FW C H' p dx d n' (ws++[x])->Q (.str x) H'
def HF(K:aA)(a_FreshWords:Addr):TS:=(dZ (eB (eN rh [] E0 (dI (kB K (dJ 0) "tried") dQ)) (dR 2)) (oo K (dJ 0) (tC (.int 1)) E5 "tried"))
def Nd(K:aA)(a_FreshWords:Addr):TS:=(dZ (eB (dJ 1) (dR 2)) (dZ (gi (tB (BR (dJ 2) (kB K (dJ 0) "taken"))) (HF K a_FreshWords)) (dZ (jl (kB K (dJ 0) "taken") (dJ 2) (tC (.bl true))) (fD (dJ 2)))))
def one(x:Str)(ws:List Str):Nat:=if x∈ws then 1 else 0
def Qc(C p dx d:Addr)(ws:List Str)(H:Hp)(w:Str)(n:Nat)(m:Nat)(σ:St)(H':Hp):Prop:=∃(x:Str)(r:Nat),σ=[some (.ref p),some (.str w),some (.str x)]/\FW C H' p dx d r ws/\Dp p d H H'/\Wd x/\(w∉ws->x=w)/\m=cnt r ws+one x ws/\r+m<=n+(cnt n ws+one w ws)/\((x=w/\r=n)∨Vw x.cps.toList<r)
theorem Pi(rc:RW K C)(h:oh C vs H Q E):Nd K C (fk Q) (start ["self","word","free"] vs) H:=by
 obtain⟨p,dx,d,n,ws,w,rfl,A,hw,hl,hn,k⟩:=h;have hpd:p≠d:=fM A.ob A.dk (by intro z;cases z);have c0:=ye n ws;have o0:one w ws<=1:=by unfold one;split<;>lia
 refine ?_;refine⟨Qc C p dx d ws H w n,⟨_,w,n,rfl,A,.refl,hw,λ_=>rfl,rfl,aC _,.inl ⟨rfl,rfl⟩⟩,?_⟩;rintro m σ H1 ⟨x,r,rfl,A1,ap1,hx,hxw,rfl,hr,hv0⟩;refine⟨A1.ob,rc.cl,rc.nT,tu,iR.k (k:=.inr x) A1.dk,_,rfl,?_⟩;rw[nE];by_cases hm:x∈ws
 ·refine fI (decide_eq_true hm) ?_;refine⟨Lt (Qc C p dx d ws H w n) (cnt r ws+one x ws),λ_ _ h=>h,?_⟩;have o1:one x ws=1:=if_pos hm;refine⟨A1.ob,rc.cl,rc.nR,tq,r,rfl,by lia,λy hy hy2 hv=>?_⟩;refine⟨p,C,dx,_,_,rfl,A1.ob,rc.cl,rc.nR,tq,_,_,rfl,rfl,dx,_,A1.ob,by show 2<1000;decide,?_⟩;rw[G8];have hc:cnt (r+1) ws+one y ws<=cnt r ws:=by
   by_cases hy3:y∈ws
   ·have:=KZ hy3 hv;rw[show one y ws=1 from if_pos hy3];lia
   ·have:=DD r ws;rw[show one y ws=0 from if_neg hy3];lia
  refine⟨cnt (r+1) ws+one y ws,by lia,y,r+1,rfl,⟨by rw[dP];rfl,by rw[dY hpd.symm];exact A1.dk⟩,ap1.trans λb o h1 _ e=>by rw[dY h1];exact e,hy,λz=>absurd (hxw z▸hm) z,rfl,by lia,.inr (by lia)⟩
 ·refine eU (decide_eq_false hm) ?_;refine⟨A1.ob,rc.cl,rc.nT,tu,lO.k (k:=.inr x) A1.dk (by rw[nZ,sizeLine_eq];lia),?_⟩;rw[nO];have ea:kQ ws x=ws++[x]:=by unfold kQ;rw[if_neg hm]
  rw[ea];have o1:one x ws=0:=if_neg hm;have hc:r+cnt r (ws++[x])<=ws.length+1:=by
   rw[wm];rcases hv0 with⟨rfl,rfl⟩|hv0
   ·split<;>lia
   ·rw[if_neg (by lia)];lia
  refine(k x r _ hx hm hxw hc (ap1.trans λb o _ h2 e=>by rw[dY h2];exact e) ⟨by rw[dY hpd];exact A1.ob,dP⟩)
def oJ:Sp:=λvs H Q _=>∃(p q:Addr)(x:V)(src:Str)(path:V)(e hd:V)(n:Int),vs=[.ref p,hd,.int n]/\H p=some (.tup [x,.str src,path,e])/\
 ∀(r s:Addr)(H':Hp),dq H H'->H' s=some (.tup [.str src,path])->H' r=some (.tup [.str "row",hd,.int n,.ref s])->Q (.ref r) H'
def Nr(K:aA):TS:=(fD (ef (dI (tC (.str "row")) (dI (dJ 1) (dI (dJ 2) (dI (ef (dI (dj (dy K) (dJ 0) (tC (.int 1))) (dI (dj (dy K) (dJ 0) (tC (.int 2))) dQ))) dQ))))))
theorem Pq(h:oJ vs H Q E):Nr K (fk Q) (start ["spot","head","many"] vs) H:=by obtain⟨p,q,x,src,path,e,hd,n,rfl,hp,k⟩:=h;refine⟨eD.of hp,rfl,eD.of hp,rfl,fL,λs hs=>⟨fL,λr hr=>?_⟩⟩;have s1:=dS (o:=.tup [.str src,path]) hs;have s2:=dS (o:=.tup [.str "row",hd,.int n,.ref s]) hr;exact k r s _ (s1.trans s2) (s2 _ _ dP) dP
def xn(C:Addr):Sp:=λvs H Q _=>∃(p dx l:Addr)(us:List Str),vs=[.ref p,.ref l]/\H p=some (.ins C dx [])/\H l=some (.lst (us.map V.str))/\us.length<=900/\
 ∀(d:Addr)(ws:List Str)(H':Hp),H d=none->(∀x,x∈ws↔x∈us)->ws.length<=us.length->(∀b o,b≠p->H b=some o->H' b=some o)->FW C H' p dx d 0 ws->Q .non H'
def HE(K:aA)(a_FreshWords:Addr):TS:=(jl (kB K (dJ 0) "taken") (dJ 2) (tC (.bl true)))
def Nb(K:aA)(a_FreshWords:Addr):TS:=(dZ (uO K (dJ 0) iF "taken") (dZ (iV (iT K (dJ 1)) (dR 2) (HE K a_FreshWords)) (uO K (dJ 0) (tC (.int 0)) "tried")))
theorem DS(ws:List Str)(x y:Str):y∈kQ ws x↔y∈ws∨y=x:=by
 unfold kQ;split
 ·rename_i h;exact⟨.inl,λz=>z.elim id λe=>e▸h⟩
 ·simp
theorem DT(ws:List Str)(x:Str):(kQ ws x).length<=ws.length+1:=by
 unfold kQ;split
 ·lia
 ·simp
theorem Dw:([(("taken":Str),V.ref d)]).lookup ("taken":Str)=some (V.ref d):=by
 have e:(("taken":Str)=="taken")=true:=by decide
 simp only[List.lookup,e]
def Qq(p l d dx C:Addr)(H:Hp)(us:List Str)(i:Nat)(σ:St)(H':Hp):Prop:=∃j2 ws,σ=[some (.ref p),some (.ref l),j2]/\H' p=some (.ins C dx [("taken",.ref d)])/\H' d=some (.dK (iX ws))/\(∀b o,b≠p->H b=some o->H' b=some o)/\(∀x,x∈ws↔x∈us.take i)/\ws.length<=i
theorem Pg(rc:RW K C)(h:xn C vs H Q E):Nb K C (fk Q) (start ["self","taken","word"] vs) H:=by
 obtain⟨p,dx,l,us,rfl,hp,hl,hn,k⟩:=h;intro d hd;have s1:dq H (upd H d (.dK [])):=dS hd;have d1:(upd H d (.dK [])) d=some (.dK []):=dP;generalize upd H d (.dK [])=H1 at s1 d1⊢;refine⟨p,C,dx,[],rfl,s1 _ _ hp,rc.cl,rc.nT,by show 0<1000;decide,?_⟩;have hpd:p≠d:=dX hp hd;have hpl:l≠p:=fM hl hp (by intro z;cases z);have hld:l≠d:=dX hl hd;have o2:(upd H1 p (.ins C dx (gv "taken" (.ref d) []))) p=some (.ins C dx [("taken",.ref d)]):=dP;have d2:(upd H1 p (.ins C dx (gv "taken" (.ref d) []))) d=some (.dK (iX [])):=by rw[dY hpd.symm];exact d1
 have a2:∀b o,b≠p->H b=some o->(upd H1 p (.ins C dx (gv "taken" (.ref d) []))) b=some o:=λb o h e=>by rw[dY h];exact s1 _ _ e
 generalize upd H1 p (.ins C dx (gv "taken" (.ref d) []))=H2 at o2 d2 a2⊢;refine⟨eL.of (a2 _ _ hpl hl),?_⟩;refine gZ (K:=K) (a:=l) (xs:=us.map V.str) (Qq p l d dx C H us)
  ⟨none,[],rfl,o2,d2,a2,by simp,aC _⟩ (λi σ H' _ hP=>?_) ?_ ?_
 ·obtain⟨_,_,_,_,_,a,_⟩:=hP;exact eL.of (a _ _ hpl hl)
 ·rintro i y σ H3 hi ⟨j2,ws,rfl,o3,d3,a3,m3,l3⟩;obtain⟨x,hx,rfl⟩:∃x,us[i]?=some x/\y=V.str x:=by
   rw[aT]at hi;cases e:us[i]? with
   | none=>rw[e]at hi;cases hi
   | some z=>rw[e]at hi;exact⟨z,rfl,(Option.some.inj hi).symm⟩
  have hil:i<us.length:=(aK.mp hx).1;have hlen:=DT ws x;refine⟨o3,rc.cl,rc.nT,Dw,lO.k (k:=.inr x) d3 (lU (by rw[nZ];lia)),?_⟩;rw[nO];refine⟨_,kQ ws x,rfl,by rw[dY hpd];exact o3,dP,λb o h e=>by rw[dY (dX e hd)];exact a3 b o h e,λz=>?_,by lia⟩;rw[DS,m3,ay,hx];simp
 ·rintro σ H3 ⟨j2,ws,rfl,o3,d3,a3,m3,l3⟩;rw[aO]at m3 l3;refine⟨p,C,dx,_,rfl,o3,rc.cl,rc.nR,by show 1<1000;decide,?_⟩;refine k d ws _ hd (λx=>by rw[m3,a6]) l3 (λb o h e=>by rw[dY h];exact a3 b o h e) ⟨?_,by rw[dY hpd.symm];exact d3⟩;rw[dP];simp only[gv,if_neg QI];rfl
structure rM(H:Hp)(v1 v2 v3:V)(bo:Bo):Prop where
 a:jz H "star" [] (gD bo.x) v1
 b:jz H "sta" [oM bo.e] (gD bo.y) v2
 c:jz H "st" [oM bo.e,uS bo.e] (gD bo.z) v3
theorem rM.mono(s:dq H H')(h:rM H v1 v2 v3 bo):rM H' v1 v2 v3 bo:=⟨h.a.mono s,h.b.mono s,h.c.mono s⟩
theorem rM.g(h:rM H v1 v2 v3 bo):Bk H v1 v2 v3 (gD bo.x) (gD bo.y) (gD bo.z):=⟨h.a,⟨_,h.b⟩,⟨_,_,h.c⟩⟩
theorem xf:∀{ws ls:List Str},ws.Nodup->(∀x∈ws,x∈ls)->ws.length<=ls.length
 | [],_,_,_=>aS _
 | x::ws,ls,nd,h=>by have hx:=h x bV;obtain⟨n1,n2⟩:=bL.mp nd;have:=xf (ls:=ls.erase x) n2 λy hy=>(List.mem_erase_of_ne (by rintro rfl;exact n1 hy)).mpr (h y (ax _ hy));rw[List.length_erase_of_mem hx]at this;have:=List.length_pos_of_mem hx;rw[aD];lia
theorem Aa(h:Up ws):ws.Nodup:=List.Pairwise.imp (λ{a b}(z:qX a b)(e:a=b)=>by subst e;exact qX.irrefl a z) h
theorem yF{ws:List Str}{t:T}(h:Up ws)(m:∀x,x∈ws↔t.out x):ws.length<=t.names.length:=xf (Aa h) λx hx=>T.names_occ.mpr (T.out_occ ((m x).mp hx))
def xq:Sp:=λvs H Q _=>∃(b:Addr)(v1 v2 v3 v:V)(bo:Bo)(t:T),vs=[.ref b,v]/\H b=some (.lst [v1,v2,v3])/\rM H v1 v2 v3 bo/\fc H t v/\(∀y∈[t,bo.x,bo.y,bo.z],y.size<=900/\y.names.length<64)/\
 ∀(l:Addr)(us:List Str)(H':Hp),dq H H'->H l=none->H' l=some (.lst (us.map V.str))->us.length<=252->(∀x,x∈us↔∃y∈[t,bo.x,bo.y,bo.z],y.out x)->Q (.ref l) H'
def xW(K:aA):TS:=(eX (iW K "list" mZ (dJ 2) (dI (eN pS [] E0 (dI (dj (dy K) (dJ 3) (tC (.int 2))) dQ)) dQ)))
def LG(K:aA):TS:=(dZ (eB (eN pS [] E0 (dI (dJ 1) dQ)) (dR 2)) (dZ (iV (iT K (dJ 0)) (dR 3) (xW K)) (fD (dJ 2))))
def Q0(b:Addr)(v:V)(l:Addr)(H:Hp)(t:T)(bo:Bo)(i:Nat)(σ:St)(H':Hp):Prop:=∃(j3:Option V)(us:List Str),σ=[some (.ref b),some v,some (.ref l),j3]/\dq H H'/\H' l=some (.lst (us.map V.str))/\us.length<=63*(i+1)/\∀x,x∈us↔∃y∈t::[bo.x,bo.y,bo.z].take i,y.out x
theorem OV(h:xq vs H Q E):LG K (fk Q) (start ["book","piece","words","stamp"] vs) H:=by
 obtain⟨b,v1,v2,v3,v,bo,t,rfl,hb,B,hd,hs,k⟩:=h;have ht:=hs t (by simp);refine⟨t,v,rfl,hd,ht.1,ht.2,λl ws H1 s1 n1 h1 up1 m1=>?_⟩;refine⟨eL.of (s1 _ _ hb),?_⟩;have hlb:l≠b:=(dX hb n1).symm;refine gZ (K:=K) (a:=b) (xs:=[v1,v2,v3]) (Q0 b v l H t bo)
  ⟨none,ws,rfl,s1,h1,by have:=yF up1 m1;lia,λx=>by rw[m1];simp⟩ (λi σ H' _ hP=>?_) ?_ ?_
 ·obtain⟨_,_,_,s,_⟩:=hP;exact eL.of (s _ _ hb)
 ·rintro i y σ H2 hi ⟨j3,us,rfl,s2,h2,l2,m2⟩;have B2:=B.mono s2;have go:∀(w:Str)(ps:List Str)(tt:T),jz H2 w ps (gD tt) y->tt∈[t,bo.x,bo.y,bo.z]->i<=3->[bo.x,bo.y,bo.z].take (i+1)=[bo.x,bo.y,bo.z].take i++[tt]->∀D:fz,(∀σ H',(∃(j3:Option V)(us:List Str),σ=[some (.ref b),some v,some (.ref l),j3]/\dq H H'/\H' l=some (.lst (us.map V.str))/\us.length<=63*(i+1+1)/\∀x,x∈us↔∃y∈t::[bo.x,bo.y,bo.z].take (i+1),y.out x)->D.nx σ H')->dR 3 y [some (.ref b),some v,some (.ref l),j3] H2 λσ2 H2=>xW K D σ2 H2:=by
   intro w ps tt st hm hi3 e D hD;obtain⟨p,q,x,rfl,hp,_,dx⟩:=st;have hg:=hs tt hm;refine⟨.inl ⟨rfl,_,eL.of h2⟩,eD.of hp,rfl,tt,x,rfl,gm dx,hg.1,hg.2,λl' ws' H3 s3 n3 h3 up3 m3=>?_⟩;have hw:=yF up3 m3;refine⟨l,l',_,_,rfl,rfl,s3 _ _ h2,h3,by rw[aO,aO,sizeLine_eq];lia,hD _ _ ⟨_,us++ws',rfl,eJ (s2.trans s3) n1,by rw[dP,List.map_append],by rw[aE];lia,λz=>?_⟩⟩;rw[aQ,m2,m3,e];constructor
   ·rintro(⟨y,hy,o⟩|o)
    ·refine⟨y,?_,o⟩;rcases aB.mp hy with rfl|hy
     ·exact bV
     ·exact ax _ (ae _ hy)
    ·exact⟨tt,ax _ (aL _ (aF.mpr rfl)),o⟩
   ·rintro⟨y,hy,o⟩;rcases aB.mp hy with rfl|hy
    ·exact .inl ⟨_,bV,o⟩
    ·rcases aQ.mp hy with hy|hy
     ·exact .inl ⟨y,ax _ hy,o⟩
     ·rw[aF]at hy;subst hy;exact .inr o
  match i,hi,go with
  | 0,hi,go=>cases hi;exact go _ _ _ B2.a (by simp) (by lia) rfl _ (λ_ _ z=>z)
  | 1,hi,go=>cases hi;exact go _ _ _ B2.b (by simp) (by lia) rfl _ (λ_ _ z=>z)
  | 2,hi,go=>cases hi;exact go _ _ _ B2.c (by simp) (by lia) rfl _ (λ_ _ z=>z)
  | n+3,hi,_=>simp at hi
 ·rintro σ H2 ⟨j3,us,rfl,s2,h2,l2,m2⟩;exact(k l us H2 s2 n1 h2 (by simp at l2;lia) m2)
end S9
namespace S9
open PySem SW
inductive Hd where
 | num(n:Int)|name(w:Str)|sum|less|cho|lt(w:Str)
def Hd.ar:Hd->Nat
 | .num _=>0
 | .name _=>0
 | .sum=>2
 | .less=>2
 | .cho=>3
 | .lt _=>2
inductive Rw where
 | row(h:Hd)(src:Str)(path:List Nat)
 | rdy(n z:Nat)
def Rw.ar:Rw->Nat
 | .row h _ _=>h.ar
 | .rdy _ _=>0
def Rw.wt:Rw->Nat
 | .row _ _ _=>1
 | .rdy _ z=>z
mutual
inductive Mg where
 | called(w:Str)
 | ready(n z:Nat)
 | handed(t:T)(src:Str)(path:List Nat)(e:En)
inductive En where
 | nil
 | cons(w:Str)(m:Mg)(e:En)
end
def En.look:En->Str->Option Mg
 | .nil,_=>none
 | .cons w m e,v=>if w=v then some m else e.look v
def En.put:En->Str->Mg->En
 | .nil,v,n=>.cons v n .nil
 | .cons w m e,v,n=>if w=v then .cons w n e else .cons w m (e.put v n)
def En.len:En->Nat
 | .nil=>0
 | .cons _ _ e=>e.len+1
theorem En.put_len(v:Str)(n:Mg):∀e:En,(e.put v n).len<=e.len+1
 | .nil=>aC _
 | .cons w m e=>by have:=En.put_len v n e;unfold En.put;split<;>simp only[En.len]<;>lia
theorem En.look_put(v x:Str)(n:Mg):∀e:En,(e.put v n).look x=if v=x then some n else e.look x
 | .nil=>by simp only[En.put,En.look]
 | .cons w m e=>by
  have ih:=En.look_put v x n e;unfold En.put;split
  ·rename_i h;subst h;simp only[En.look];split<;>rfl
  ·rename_i h;simp only[En.look,ih];split
   ·rename_i h2;subst h2;rw[if_neg (λz=>h z.symm)]
   ·rfl
structure eC where
 t:T
 src:Str
 path:List Nat
 e:En
def eC.kid(s:eC)(i:Nat)(t:T):eC:=⟨t,s.src,s.path++[i],s.e⟩
def wi(s:eC):Nat->List T->List eC
 | _,[]=>[]
 | i,t::ts=>s.kid i t::wi s (i+1) ts
def eC.within(s:eC):List eC:=wi s 0 s.t.kids
theorem vO(s:eC):∀(ts:List T)(i:Nat),(wi s i ts).length=ts.length
 | [],_=>rfl
 | _::ts,i=>by simp[wi,vO s ts]
def pl:T->Option Hd
 | .num n=>some (.num n)
 | .sum _ _=>some .sum
 | .less _ _=>some .less
 | .cho _ _ _=>some .cho
 | _=>none
theorem GR(e:pl t=some h):h.ar=t.kids.length:=by cases t<;>simp only[pl,Option.some.injEq,reduceCtorEq]at e<;>subst e<;>rfl
inductive Tk(ws:List Str):eC->List eC->List Rw->List Str->Prop where
 | plain{s:eC}{h:Hd}:pl s.t=some h->Tk ws s s.within.reverse [.row h s.src s.path] ws
 | free{s:eC}{w:Str}:s.t=.name w->s.e.look w=none->Tk ws s [] [.row (.name w) s.src s.path] ws
 | called{s:eC}{w v:Str}:s.t=.name w->s.e.look w=some (.called v)->Tk ws s [] [.row (.name v) s.src s.path] ws
 | ready{s:eC}{w:Str}{n z:Nat}:s.t=.name w->s.e.look w=some (.ready n z)->Tk ws s [] [.rdy n z] ws
 | handed{s:eC}{w:Str}{t:T}{src:Str}{path:List Nat}{e:En}:s.t=.name w->s.e.look w=some (.handed t src path e)->Tk ws s [⟨t,src,path,e⟩] [] ws
 | lt{s:eC}{w x:Str}{a b:T}:s.t=.lt w a b->Wd x->x∉ws->(w∉ws->x=w)->
  Tk ws s [⟨b,s.src,s.path++[1],s.e.put w (.called x)⟩,s.kid 0 a] [.row (.lt x) s.src s.path] (ws++[x])
inductive yn:List eC->List Rw->List Str->List Rw->List Str->Prop where
 | nil{R:List Rw}{ws:List Str}:yn [] R ws R ws
 | step{S P:List eC}{s:eC}{R rs R':List Rw}{ws ws' ws'':List Str}:Tk ws s P rs ws'->yn (S++P) (R++rs) ws' R' ws''->yn (S++[s]) R ws R' ws''
def oG:T->Prop
 | .num _=>False
 | .name _=>False
 | .sum a b=>oG a∨oG b
 | .less a b=>oG a∨oG b
 | .cho a b c=>oG a∨oG b∨oG c
 | .lt _ a b=>oG a∨oG b
 | .st0 _=>True
 | .st1 _ _=>True
 | .st2 _ _ _=>True
def Mg.isH:Mg->Prop
 | .handed _ _ _ _=>True
 | _=>False
def Op(s:eC):Prop:=oG s.t∨∃w m,s.t.out w/\s.e.look w=some m/\m.isH
theorem Cq(h:¬Op s)(h1:oG t->oG s.t)(h2:∀w,t.out w->s.t.out w):¬Op (s.kid i t):=by
 rintro(z|⟨w,m,o,l,i⟩)
 ·exact h (.inl (h1 z))
 ·exact h (.inr ⟨w,m,h2 w o,l,i⟩)
theorem LW(h:¬Op s)(h1:∀t∈ts,(oG t->oG s.t)/\∀w,t.out w->s.t.out w):∀(i:Nat),∀k∈wi s i ts,¬Op k:=by
 induction ts with
 | nil=>intro i k hk;cases hk
 | cons t ts ih=>
  intro i k hk;rcases aB.mp hk with rfl|hk
  ·exact Cq h (h1 t (.head _)).1 (h1 t (.head _)).2
  ·exact ih (λt ht=>h1 t (.tail _ ht)) (i+1) k hk
theorem K6(h:Tk ws s P rs ws')(o:¬Op s):∀k∈P,¬Op k:=by
 cases h with
 | plain e=>
  intro k hk;rw[List.mem_reverse]at hk;refine LW o (λt ht=>?_) 0 k hk;obtain⟨st,src,path,en⟩:=s;cases st<;>simp only[pl,reduceCtorEq]at e
  all_goals (simp only[T.kids,aB,aG,or_false]at ht)
  case sum=>rcases ht with rfl|rfl<;>exact⟨λz=>by simp[oG,z],λw z=>by simp[T.out,z]⟩
  case less=>rcases ht with rfl|rfl<;>exact⟨λz=>by simp[oG,z],λw z=>by simp[T.out,z]⟩
  case cho=>rcases ht with rfl|rfl|rfl<;>exact⟨λz=>by simp[oG,z],λw z=>by simp[T.out,z]⟩
 | free _ _=>intro k hk;cases hk
 | called _ _=>intro k hk;cases hk
 | ready _ _=>intro k hk;cases hk
 | handed e l=>exact absurd (.inr ⟨_,_,by rw[e];exact rfl,l,aI⟩) o
 | @lt w x a b e _ _ _=>
  intro k hk;rcases aB.mp hk with rfl|hk
  ·rintro(z|⟨v,m,o2,l,i⟩)
   ·exact o (.inl (by rw[e];exact .inr z))
   ·rw[En.look_put]at l;by_cases hv:w=v
    ·subst hv;rw[if_pos rfl]at l;cases l;exact i
    ·rw[if_neg hv]at l;exact o (.inr ⟨v,m,by rw[e];exact .inr ⟨hv,o2⟩,l,i⟩)
  ·rw[aF]at hk;subst hk;exact Cq o (λz=>by rw[e];exact .inl z) (λw z=>by rw[e];exact .inl z)
def jc(f:Str->Nat):T->Nat
 | .num _=>1
 | .name w=>f w
 | .sum a b=>1+jc f a+jc f b
 | .less a b=>1+jc f a+jc f b
 | .cho a b c=>1+jc f a+jc f b+jc f c
 | .lt w a b=>1+jc f a+jc (λv=>if w=v then 1 else f v) b
 | .st0 _=>1
 | .st1 _ a=>1+jc f a
 | .st2 _ a b=>1+jc f a+jc f b
mutual
def Mg.wt(h:Nat):Mg->Nat
 | .called _=>1
 | .ready _ z=>z
 | .handed t _ _ e=>h+jc (e.fw h) t
def En.fw(h:Nat):En->Str->Nat
 | .nil=>λ_=>1
 | .cons w m e=>λv=>if w=v then m.wt h else e.fw h v
end
def eC.wt(h:Nat)(s:eC):Nat:=jc (s.e.fw h) s.t
def lP(h:Nat)(S:List eC):Nat:=(S.map (eC.wt h)).sum
def kr(R:List Rw):Nat:=(R.map Rw.wt).sum
theorem fe(h:Nat)(a b:List eC):lP h (a++b)=lP h a+lP h b:=by simp[lP]
theorem gS(h:Nat)(s:eC):lP h [s]=s.wt h:=by simp[lP]
theorem lB(h:Nat)(s:eC)(r:List eC):lP h (s::r)=s.wt h+lP h r:=by simp[lP]
theorem jh(h:Nat):lP h []=0:=rfl
theorem rN(h:Nat)(a:List eC):lP h a.reverse=lP h a:=by simp[lP]
theorem mE(a b:List Rw):kr (a++b)=kr a+kr b:=by simp[kr]
theorem jC(r:Rw)(b:List Rw):kr (r::b)=r.wt+kr b:=by simp[kr]
theorem jP:kr []=0:=rfl
theorem pA(h:Nat)(v:Str):∀e:En,e.fw h v=match e.look v with|none=>1|some m=>m.wt h
 | .nil=>rfl
 | .cons w m e=>by
  simp only[En.fw,En.look];split
  ·rfl
  ·exact pA h v e
theorem KO(h:Nat)(w x:Str)(e:En):(e.put w (.called x)).fw h=λv=>if w=v then 1 else e.fw h v:=by
 funext v;rw[pA,En.look_put];by_cases hv:w=v
 ·rw[if_pos hv,if_pos hv];rfl
 ·rw[if_neg hv,if_neg hv,pA]
theorem qf{s:eC}{h:Nat}{hd:Hd}(e:pl s.t=some hd):s.wt h=1+lP h s.within:=by
 obtain⟨st,src,path,en⟩:=s;cases st<;>simp only[pl,reduceCtorEq]at e
 all_goals simp only[eC.wt,eC.within,T.kids,wi,lB,jh,jc,eC.kid]
 all_goals lia
theorem AV{s:eC}{h:Nat}{w x:Str}{a b:T}(e:s.t=.lt w a b):s.wt h=1+lP h [⟨b,s.src,s.path++[1],s.e.put w (.called x)⟩,s.kid 0 a]:=by obtain⟨st,src,path,en⟩:=s;simp only at e;subst e;simp only[lB,jh,eC.wt,KO,eC.kid,jc];lia
theorem iK{s:eC}{h:Nat}{w:Str}(e:s.t=.name w):s.wt h=match s.e.look w with|none=>1|some m=>m.wt h:=by unfold eC.wt;rw[e];exact pA h w s.e
theorem GC{ws ws':List Str}{s:eC}{P:List eC}{rs:List Rw}(h:Tk ws s P rs ws'):lP 0 P+kr rs=s.wt 0:=by
 cases h with
 | plain e=>rw[qf e,rN,jC,jP];simp only[Rw.wt];lia
 | free e l=>rw[iK e,l];rfl
 | called e l=>rw[iK e,l];rfl
 | ready e l=>rw[iK e,l];simp only[jh,jC,jP,Rw.wt,Mg.wt];lia
 | handed e l=>rw[iK e,l];simp only[lB,jh,jP,Mg.wt,eC.wt];lia
 | @lt w x a b e _ _ _=>rw[AV (x:=x) e,jC,jP];simp only[Rw.wt];lia
theorem vg(h:yn S R ws R' ws'):kr R'=lP 0 S+kr R:=by
 induction h with
 | nil=>rw[jh,bi]
 | step a _ ih=>rw[ih,fe,fe,gS,mE,<-GC a];lia
def SF(w:Str)(k:Nat):Prop:=jU w=some k
def BT(t:T)(path:List Nat)(n:Nat):Prop:=WT SF t/\path.length+t.size<=1000/\n+t.size<=1000/\t.size<=900/\t.names.length<64
mutual
def Mg.ok(P:Nat->Nat->Prop):Mg->Prop
 | .called _=>True
 | .ready n z=>1<=z/\P n z
 | .handed t _ path e=>BT t path e.len/\e.ok P
def En.ok(P:Nat->Nat->Prop):En->Prop
 | .nil=>True
 | .cons w m e=>m.ok P/\e.ok P/\e.look w=none
end
def eC.ok(P:Nat->Nat->Prop)(s:eC):Prop:=BT s.t s.path s.e.len/\s.e.ok P
def Rw.ok(P:Nat->Nat->Prop):Rw->Prop
 | .row _ _ _=>True
 | .rdy n z=>1<=z/\P n z
mutual
theorem Mg.ok_mono(h:∀n z,P n z->P' n z):∀{m:Mg},m.ok P->m.ok P'
 | .called _,_=>aI
 | .ready _ _,a=>⟨a.1,h _ _ a.2⟩
 | .handed _ _ _ e,a=>⟨a.1,En.ok_mono h (e:=e) a.2⟩
theorem En.ok_mono(h:∀n z,P n z->P' n z):∀{e:En},e.ok P->e.ok P'
 | .nil,_=>aI
 | .cons _ m e,a=>⟨Mg.ok_mono h (m:=m) a.1,En.ok_mono h (e:=e) a.2.1,a.2.2⟩
end
theorem eC.ok_mono{P P':Nat->Nat->Prop}(h:∀n z,P n z->P' n z){s:eC}(a:s.ok P):s.ok P':=⟨a.1,En.ok_mono h a.2⟩
theorem Rw.ok_mono(h:∀n z,P n z->P' n z):∀{r:Rw},r.ok P->r.ok P'
 | .row _ _ _,_=>aI
 | .rdy _ _,a=>⟨a.1,h _ _ a.2⟩
variable {P:Nat->Nat->Prop}
theorem oy:∀{e:En},e.ok P->e.look v=some m->m.ok P
 | .nil,_,h=>by simp only[En.look,reduceCtorEq]at h
 | .cons w n e,a,h=>by
  simp only[En.look]at h;split at h
  ·cases h;exact a.1
  ·exact oy (e:=e) a.2.1 h
theorem CA(hm:m.ok P):∀{e:En},e.ok P->(e.put v m).ok P
 | .nil,_=>⟨hm,aI,rfl⟩
 | .cons w n e,a=>by
  unfold En.put;split
  ·exact⟨hm,a.2⟩
  ·rename_i hw;exact⟨a.1,CA hm (e:=e) a.2.1,by rw[En.look_put,if_neg (λz=>hw z.symm)];exact a.2.2⟩
theorem DH(i:Nat)(h:BT t path n)(hu:u∈t.kids)(hm:m<=n+1):BT u (path++[i]) m:=by
 obtain⟨a,b,c,d,e⟩:=h;have key:WT SF u/\u.size+1<=t.size/\u.names.length<=t.names.length:=by
  cases t<;>simp only[T.kids,aB,aG,or_false]at hu
  case sum=>rcases hu with rfl|rfl<;>simp only[WT,qV,T.size,T.names,aE]at *<;>exact⟨by simp[a],by lia,by lia⟩
  case less=>rcases hu with rfl|rfl<;>simp only[WT,qV,T.size,T.names,aE]at *<;>exact⟨by simp[a],by lia,by lia⟩
  case cho=>rcases hu with rfl|rfl|rfl<;>simp only[WT,qV,T.size,T.names,aE]at *<;>exact⟨by simp[a],by lia,by lia⟩
  case lt=>rcases hu with rfl|rfl<;>simp only[WT,qV,T.size,T.names,aE]at *<;>exact⟨by simp[a],by lia,by lia⟩
  case st1=>subst hu;simp only[WT,qV,T.size,T.names,aE]at *;exact⟨by simp[a],by lia,by lia⟩
  case st2=>rcases hu with rfl|rfl<;>simp only[WT,qV,T.size,T.names,aE]at *<;>exact⟨by simp[a],by lia,by lia⟩
 refine⟨key.1,?_,?_,?_,?_⟩
 ·rw[aE,a5];lia
 ·lia
 ·lia
 ·lia
theorem jw{s:eC}{t:T}{i:Nat}(h:s.ok P)(ht:t∈s.t.kids):(s.kid i t).ok P:=⟨DH i h.1 ht (by show s.e.len<=_;lia),h.2⟩
theorem Fz{s:eC}(h:s.ok P):∀(ts:List T)(i:Nat),(∀t∈ts,t∈s.t.kids)->∀k∈wi s i ts,k.ok P
 | [],_,_,k,hk=>by cases hk
 | t::ts,i,ht,k,hk=>by
  rcases aB.mp hk with rfl|hk
  ·exact jw h (ht t (.head _))
  ·exact Fz h ts (i+1) (λu hu=>ht u (.tail _ hu)) k hk
theorem yu{s:eC}(h:s.ok P):∀k∈s.within,k.ok P:=Fz h _ 0 λ_ z=>z
theorem Af{ws ws':List Str}{s:eC}{Q:List eC}{rs:List Rw}(h:Tk ws s Q rs ws')(o:s.ok P):(∀k∈Q,k.ok P)/\∀r∈rs,r.ok P:=by
 cases h with
 | plain e=>refine⟨λk hk=>yu o k (List.mem_reverse.mp hk),λr hr=>?_⟩;rw[aF]at hr;subst hr;exact aI
 | free e l=>refine⟨λk hk=>(nomatch hk),λr hr=>?_⟩;rw[aF]at hr;subst hr;exact aI
 | called e l=>refine⟨λk hk=>(nomatch hk),λr hr=>?_⟩;rw[aF]at hr;subst hr;exact aI
 | ready e l=>refine⟨λk hk=>(nomatch hk),λr hr=>?_⟩;rw[aF]at hr;subst hr;exact oy o.2 l
 | handed e l=>refine⟨λk hk=>?_,λr hr=>(nomatch hr)⟩;rw[aF]at hk;subst hk;exact oy (m:=.handed _ _ _ _) o.2 l
 | @lt w x a b e _ _ _=>
  refine⟨λk hk=>?_,λr hr=>?_⟩
  ·rcases aB.mp hk with rfl|hk
   ·exact⟨DH 1 o.1 (by rw[e];simp[T.kids]) (En.put_len _ _ _),CA (m:=.called x) aI o.2⟩
   ·rw[aF]at hk;subst hk;exact jw o (by rw[e];simp[T.kids])
  ·rw[aF]at hr;subst hr;exact aI
theorem xG(h:∀v,1<=f v)(t:T):1<=jc f t:=by cases t<;>simp only[jc]<;>first|exact h _|lia
mutual
theorem Mg.wt_pos:∀{m:Mg},m.ok P->1<=m.wt h
 | .called _,_=>aC _
 | .ready _ _,a=>a.1
 | .handed t _ _ e,a=>by have:=xG (λv=>En.fw_pos (h:=h) (e:=e) a.2 v) t;simp only[Mg.wt];lia
theorem En.fw_pos:∀{e:En},e.ok P->∀v,1<=e.fw h v
 | .nil,_,_=>aC _
 | .cons w m e,a,v=>by
  simp only[En.fw];split
  ·exact Mg.wt_pos (m:=m) a.1
  ·exact En.fw_pos (e:=e) a.2.1 v
end
theorem wt_pos{h:Nat}{s:eC}(o:s.ok P):1<=s.wt h:=xG (En.fw_pos o.2) _
theorem rO{h:Nat}:∀{S:List eC},(∀s∈S,s.ok P)->S.length<=lP h S
 | [],_=>aC _
 | s::S,o=>by have h1:=wt_pos (h:=h) (o s (.head _));have h2:=rO (h:=h) (S:=S) λx hx=>o x (.tail _ hx);rw[lB,aD];lia
theorem kU:∀{R:List Rw},(∀r∈R,r.ok P)->R.length<=kr R
 | [],_=>aC _
 | r::R,o=>by
  have h1:1<=r.wt:=by
   have:=o r (.head _);cases r with
   | row=>exact aC _
   | rdy=>exact this.1
  have h2:=kU (R:=R) λx hx=>o x (.tail _ hx);rw[jC,aD];lia
theorem Ag(h:Tk ws s Q rs ws')(o:s.ok P):lP 1 Q<s.wt 1:=by
 cases h with
 | plain e=>rw[qf e,rN];lia
 | free e l=>rw[iK e,l,jh];exact Nat.one_pos
 | called e l=>rw[iK e,l,jh];exact Nat.one_pos
 | ready e l=>rw[iK e,l,jh];exact(oy o.2 l).1
 | handed e l=>rw[iK e,l,gS];simp only[Mg.wt,eC.wt];lia
 | @lt w x a b e _ _ _=>rw[AV (x:=x) e];lia
theorem Ae(h:Tk ws s Q rs ws'):ws'.length<=ws.length+rs.length:=by cases h<;>simp
theorem Bp(h:yn S R ws R' ws'):ws'.length+R.length<=ws.length+R'.length:=by
 induction h with
 | nil=>lia
 | step a _ ih=>have:=Ae a;rw[aE]at ih;lia
theorem vh(h:yn S R ws R' ws')(hS:∀s∈S,s.ok P)(hR:∀r∈R,r.ok P):∀r∈R',r.ok P:=by
 induction h with
 | nil=>exact hR
 | step a _ ih=>
  have h2:=Af a (hS _ (aL _ (.head _)));refine ih (λs hs=>?_) λr hr=>?_
  ·rcases aQ.mp hs with z|z
   ·exact hS s (ae _ z)
   ·exact h2.1 s z
  ·rcases aQ.mp hr with z|z
   ·exact hR r z
   ·exact h2.2 r z
theorem gL:∀(t:T){f g:Str->Nat},(∀v,f v<=g v)->jc f t<=jc g t
 | .num _,_,_,_=>aC _
 | .name w,_,_,h=>h w
 | .sum a b,_,_,h=>by have:=gL a h;have:=gL b h;simp only[jc];lia
 | .less a b,_,_,h=>by have:=gL a h;have:=gL b h;simp only[jc];lia
 | .cho a b c,_,_,h=>by have:=gL a h;have:=gL b h;have:=gL c h;simp only[jc];lia
 | .lt w a b,f,g,h=>by have:=gL a h;have:=gL b (f:=λv=>if w=v then 1 else f v) (g:=λv=>if w=v then 1 else g v) (λv=>by split<;>first|exact h v|exact aC _);simp only[jc];lia
 | .st0 _,_,_,_=>aC _
 | .st1 _ a,_,_,h=>by have:=gL a h;simp only[jc];lia
 | .st2 _ a b,_,_,h=>by have:=gL a h;have:=gL b h;simp only[jc];lia
mutual
theorem Mg.wt01:∀m:Mg,m.wt 0<=m.wt 1
 | .called _=>aC _
 | .ready _ _=>aC _
 | .handed t _ _ e=>by have:=gL t (λv=>En.fw01 e v);simp only[Mg.wt];lia
theorem En.fw01:∀(e:En)(v:Str),e.fw 0 v<=e.fw 1 v
 | .nil,_=>aC _
 | .cons w m e,v=>by
  simp only[En.fw];split
  ·exact Mg.wt01 m
  ·exact En.fw01 e v
end
theorem wt01(s:eC):s.wt 0<=s.wt 1:=gL _ (En.fw01 s.e)
theorem ix(hM:1<=M):∀(t:T){f:Str->Nat},(∀v,f v<=M)->jc f t+t.names.length<=t.size+t.names.length*M
 | .num _,_,_=>by simp[jc,T.names,T.size]
 | .name w,f,h=>by have:=h w;simp only[jc,T.names,T.size,a5,bj];lia
 | .sum a b,_,h=>by have:=ix hM a h;have:=ix hM b h;simp only[jc,T.names,T.size,aE,aa];lia
 | .less a b,_,h=>by have:=ix hM a h;have:=ix hM b h;simp only[jc,T.names,T.size,aE,aa];lia
 | .cho a b c,_,h=>by have:=ix hM a h;have:=ix hM b h;have:=ix hM c h;simp only[jc,T.names,T.size,aE,aa];lia
 | .lt w a b,f,h=>by have:=ix hM a h;have:=ix hM b (f:=λv=>if w=v then 1 else f v) (λv=>by split<;>first|exact h v|exact hM);simp only[jc,T.names,T.size,aE,aa];lia
 | .st0 _,_,_=>by simp[jc,T.names,T.size]
 | .st1 _ a,_,h=>by have:=ix hM a h;simp only[jc,T.names,T.size];lia
 | .st2 _ a b,_,h=>by have:=ix hM a h;have:=ix hM b h;simp only[jc,T.names,T.size,aE,aa];lia
theorem tZ(hM:1<=M)(t:T)(h:∀v,f v<=M):jc f t<=t.size*M:=by have h1:=ix hM t h;have h2:=t.names_len;obtain⟨k,hk⟩:=Nat.le.dest h2;rw[<-hk,aa];have:k<=k*M:=Nat.le_mul_of_pos_right k hM;lia
inductive Pn:List Rw->Nat->Prop where
 | start:Pn [] 1
 | add{R:List Rw}{c:Nat}{r:Rw}:Pn R (c+1)->Pn (R++[r]) (c+r.ar)
theorem GF(h:Tk ws s Q rs ws')(p:Pn R (c+1)):Pn (R++rs) (c+Q.length):=by
 cases h with
 | plain e=>rw[bG,eC.within,vO,<-GR e];exact p.add (r:=.row _ _ _)
 | free e l=>exact p.add (r:=.row _ _ _)
 | called e l=>exact p.add (r:=.row _ _ _)
 | ready e l=>exact p.add (r:=.rdy _ _)
 | handed e l=>rw[aX];exact p
 | lt e _ _ _=>exact p.add (r:=.row _ _ _)
theorem JZ(h:yn S R ws R' ws')(p:Pn R S.length):Pn R' 0:=by
 induction h with
 | nil=>exact p
 | step a _ ih=>refine ih ?_;rw[aE];refine GF a ?_;rw[aE]at p;exact p
inductive Bd:List Rw->Nat->Prop where
 | nil:Bd [] 0
 | cons{b:List Rw}{c:Nat}{r:Rw}:Bd b (r.ar+c)->Bd (r::b) (c+1)
theorem GQ(h:Pn a k):∀{b:List Rw},Bd b k->Bd (a++b) 1:=by
 induction h with
 | start=>exact λh=>h
 | @add R c r _ ih=>intro b h;rw[aW];exact ih (.cons (by rw[cU];exact h))
theorem Ja(h:yn [s] [] ws R' ws'):Bd R' 1:=by have:=GQ (JZ h .start) .nil;rwa[aX]at this
theorem yj:∀{a b:List Rw}{n:Nat},Bd (a++b) n->∃c,Bd b c
 | [],b,n,h=>⟨n,h⟩
 | r::a,b,_,.cons h=>yj (a:=a) h
end S9
namespace S9
open PySem SW
def Rf(rd:List (List Rw))(n z:Nat):Prop:=∃R,rd[n]?=some R/\kr R<=z
theorem Rf.mono(x:List (List Rw)):∀n z,Rf rd n z->Rf (rd++x) n z:=by rintro n z ⟨R,e,h⟩;exact⟨R,by rw[au (aK.mp e).1];exact e,h⟩
inductive m9:Bool->List (List Rw)->List Str->eC->Mg->List (List Rw)->List Str->Prop where
 | handed{go:Bool}{rd:List (List Rw)}{ws:List Str}{s:eC}:Op s->m9 go rd ws s (.handed s.t s.src s.path s.e) rd ws
 | ready{rd:List (List Rw)}{ws ws':List Str}{s:eC}{R:List Rw}:¬Op s->yn [s] [] ws R ws'->m9 true rd ws s (.ready rd.length (s.wt 0)) (rd++[R]) ws'
 | late{rd:List (List Rw)}{ws:List Str}{s:eC}:¬Op s->m9 false rd ws s (.ready rd.length (s.wt 0)) (rd++[[]]) ws
inductive tT(bo:Bo)(go:Bool)(rd:List (List Rw))(ws:List Str)(s:eC):eC->List (List Rw)->List Str->Prop where
 | star:s.t=.st0 "star"->tT bo go rd ws s ⟨bo.x,"star",[],.nil⟩ rd ws
 | sta{a:T}{m:Mg}{rd1:List (List Rw)}{ws1:List Str}:s.t=.st1 "sta" a->m9 go rd ws (s.kid 0 a) m rd1 ws1->tT bo go rd ws s ⟨bo.y,"sta",[],.cons (oM bo.e) m .nil⟩ rd1 ws1
 | st{a b:T}{m n:Mg}{rd1 rd2:List (List Rw)}{ws1 ws2:List Str}:s.t=.st2 "st" a b->m9 go rd ws (s.kid 0 a) m rd1 ws1->m9 go rd1 ws1 (s.kid 1 b) n rd2 ws2->tT bo go rd ws s ⟨bo.z,"st",[],.cons (oM bo.e) m (.cons (uS bo.e) n .nil)⟩ rd2 ws2
structure oH where
 S:List eC
 R:List Rw
 k:Nat
 ws:List Str
 rd:List (List Rw)
inductive Gp(bo:Bo)(F:Nat):oH->oH->Prop where
 | take{S Q:List eC}{s:eC}{R rs:List Rw}{k:Nat}{ws ws':List Str}{rd:List (List Rw)}:Tk ws s Q rs ws'->Gp bo F ⟨S++[s],R,k,ws,rd⟩ ⟨S++Q,R++rs,k,ws',rd⟩
 | opn{S:List eC}{s s':eC}{R:List Rw}{k:Nat}{ws ws':List Str}{rd rd':List (List Rw)}:tT bo (decide (k+1<=F)) rd ws s s' rd' ws'->Gp bo F ⟨S++[s],R,k,ws,rd⟩ ⟨S++[s'],R,k+1,ws',rd'⟩
def oI(rd:List (List Rw)):Prop:=∀i R,rd[i]?=some R->Bd R 1/\∀r∈R,r.ok (Rf (rd.take i))
theorem oI.add(h:oI rd)(b:Bd R 1)(o:∀r∈R,r.ok (Rf rd)):oI (rd++[R]):=by
 intro i R' e;rcases bE i rd.length with hi|hi
 ·rw[au hi]at e;rw[dD (bI hi)];exact h i R' e
 ·rw[bC hi]at e;have:i-rd.length=0:=by
   cases hq:i-rd.length with
   | zero=>rfl
   | succ n=>rw[hq]at e;simp at e
  rw[this]at e;cases e;have:i=rd.length:=by lia
  subst this;rw[cZ];exact⟨b,o⟩
theorem sZ(h:m9 go rd ws s m rd' ws')(o:s.ok (Rf rd)):
  ∃x,rd'=rd++x/\x.length<=1/\m.ok (Rf rd')/\m.wt 1<=s.wt 1+1/\m.wt 0=s.wt 0/\(go=true->oI rd->oI rd'):=by
 cases h with
 | handed p=>exact⟨[],(aX _).symm,aS _,⟨o.1,o.2⟩,by simp only[Mg.wt,eC.wt];lia,by simp only[Mg.wt,eC.wt];lia,λ_ z=>z⟩
 | @ready _ _ _ _ R p r=>
  have hw:kr R=s.wt 0:=by rw[vg r,gS,jP];lia
  refine⟨[R],rfl,aC _,⟨wt_pos o,R,by simp,by lia⟩,?_,rfl,λ_ z=>z.add (Ja r) (vh r ?_ ?_)⟩
  ·have:=wt01 s;simp only[Mg.wt];lia
  ·intro x hx;rw[aF]at hx;exact hx▸o
  ·intro x hx;cases hx
 | late p=>refine⟨[[]],rfl,aC _,⟨wt_pos o,[],by simp,by rw[jP];exact aS _⟩,?_,rfl,λz=>by cases z⟩;have:=wt01 s;simp only[Mg.wt];lia
structure tW(bo:Bo):Prop where
 a:BT bo.x [] 2
 b:BT bo.y [] 2
 c:BT bo.z [] 2
theorem BT.less(h:BT t p n)(hm:m<=n):BT t p m:=⟨h.1,h.2.1,by have:=h.2.2.1;lia,h.2.2.2⟩
theorem FI(B:tW bo)(h:tT bo go rd ws s s' rd' ws')(o:s.ok (Rf rd)):
  ∃x,rd'=rd++x/\x.length<=2/\s'.ok (Rf rd')/\s'.wt 1<=900*s.wt 1/\(go=true->oI rd->oI rd'):=by
 have hp:=wt_pos (h:=1) o;have big:∀(t:T)(f:Str->Nat),t.size<=900->(∀v,f v<=s.wt 1)->jc f t<=900*s.wt 1:=λt f ht hf=>
  aP (tZ hp t hf) (bU _ ht)
 cases h with
 | star e=>exact⟨[],(aX _).symm,aS _,⟨B.a.less (by simp[En.len]),aI⟩,big _ _ B.a.2.2.2.1 λv=>hp,λ_ z=>z⟩
 | @sta a m _ _ e h1=>
  have ok1:(s.kid 0 a).ok (Rf rd):=jw o (by rw[e];simp[T.kids]);obtain⟨x,rfl,hx,mo,mw,_,mr⟩:=sZ h1 ok1;have ew:s.wt 1=1+(s.kid 0 a).wt 1:=by unfold eC.wt;rw[e];rfl
  refine⟨x,rfl,by lia,⟨B.b.less (by simp[En.len]),mo,aI,rfl⟩,big _ _ B.b.2.2.2.1 λv=>?_,mr⟩;simp only[En.fw];split<;>lia
 | @st a b m n rd1 rd2 ws1 ws2 e h1 h2=>
  have ok1:(s.kid 0 a).ok (Rf rd):=jw o (by rw[e];simp[T.kids]);have ok2:(s.kid 1 b).ok (Rf rd):=jw o (by rw[e];simp[T.kids]);obtain⟨x,rfl,hx,mo,mw,_,mr⟩:=sZ h1 ok1;obtain⟨y,rfl,hy,no,nw,_,nr⟩:=sZ h2 (eC.ok_mono (Rf.mono x) ok2);have ew:s.wt 1=1+(s.kid 0 a).wt 1+(s.kid 1 b).wt 1:=by unfold eC.wt;rw[e];rfl
  refine⟨x++y,aW _ _ _,by rw[aE];lia,⟨B.c.less (by simp[En.len]),Mg.ok_mono (Rf.mono y) mo,⟨no,aI,rfl⟩,if_neg (wD bo.e).symm⟩,big _ _ B.c.2.2.2.1 λv=>?_,λz1 z2=>nr z1 (mr z1 z2)⟩;simp only[En.fw];split
  ·lia
  ·split<;>lia
structure eM(F n0:Nat)(st:oH):Prop where
 so:∀s∈st.S,s.ok (Rf st.rd)
 ro:∀r∈st.R,r.ok (Rf st.rd)
 pn:Pn st.R st.S.length
 rk:st.k<=F->oI st.rd
 mw:lP 1 st.S<=n0*900^st.k
 dl:st.rd.length<=2*st.k
theorem xh(B:tW bo)(h:Gp bo F st st')(I:eM F n0 st):eM F n0 st':=by
 cases h with
 | @take S Q s R rs k ws ws' rd a=>
  have os:=I.so s (aL _ (.head _));have h2:=Af a os;have hm:=Ag a os;have mw:=I.mw;have pn:=I.pn;simp only[fe,gS]at mw;refine⟨λx hx=>?_,λr hr=>?_,?_,I.rk,?_,I.dl⟩
  ·rcases aQ.mp hx with z|z
   ·exact I.so x (ae _ z)
   ·exact h2.1 x z
  ·rcases aQ.mp hr with z|z
   ·exact I.ro r z
   ·exact h2.2 r z
  ·simp only[aE]at pn⊢;exact GF a pn
  ·show lP 1 (S++Q)<=n0*900^k;rw[fe];lia
 | @opn S s s' R k ws ws' rd rd' a=>
  have os:=I.so s (aL _ (.head _));obtain⟨x,rfl,hx,ok',hw,hr⟩:=FI B a os;have mw:=I.mw;have pn:=I.pn;have dl:=I.dl;simp only[fe,gS]at mw;refine⟨λy hy=>?_,λr hr=>Rw.ok_mono (Rf.mono x) (I.ro r hr),?_,λhk=>?_,?_,?_⟩
  ·rcases aQ.mp hy with z|z
   ·exact eC.ok_mono (Rf.mono x) (I.so y (ae _ z))
   ·rw[aF]at z;exact z▸ok'
  ·simp only[aE,a5]at pn⊢;exact pn
  ·exact hr (decide_eq_true hk) (I.rk (Nat.le_of_succ_le hk))
  ·show lP 1 (S++[s'])<=n0*900^(k+1);rw[fe,gS,cX,<-Nat.mul_assoc];generalize n0*900^k=y at *;lia
  ·simp only[aE]at dl⊢;lia
def mu(F n0:Nat)(st:oH):Nat:=(F+1-st.k)*(n0*900^(F+1)+1)+lP 1 st.S
theorem JT(B:tW bo)(h:Gp bo F st st')(I:eM F n0 st)(hk:st.k<=F):mu F n0 st'<mu F n0 st:=by
 have I':=xh B h I;cases h with
 | @take S Q s R rs k ws ws' rd a=>have os:=I.so s (aL _ (.head _));have hm:=Ag a os;unfold mu;simp only[fe,gS];lia
 | @opn S s s' R k ws ws' rd rd' a=>
  have mw:=I'.mw;have hk:k<=F:=hk;unfold mu;simp only at mw⊢;have hp:n0*900^(k+1)<=n0*900^(F+1):=Nat.mul_le_mul_left _ (Nat.pow_le_pow_right (by decide) (by lia));have e:F+1-k=(F+1-(k+1))+1:=by lia
  rw[e,aa,bj];generalize (F+1-(k+1))*(n0*900^(F+1)+1)=y at *;generalize n0*900^(F+1)=z at *;generalize n0*900^(k+1)=z2 at *;lia
inductive tR(bo:Bo)(F:Nat)(st0:oH):oH->Prop where
 | refl:tR bo F st0 st0
 | step{st st':oH}:tR bo F st0 st->st.k<=F->Gp bo F st st'->tR bo F st0 st'
theorem oq(B:tW bo)(h:tR bo F st0 st)(I:eM F n0 st0):eM F n0 st:=by
 induction h with
 | refl=>exact I
 | step _ _ a ih=>exact xh B a ih
def wK:Hd->List T->T
 | .num n,_=>.num n
 | .name w,_=>.name w
 | .sum,[a,b]=>.sum a b
 | .less,[a,b]=>.less a b
 | .cho,[a,b,c]=>.cho a b c
 | .lt w,[a,b]=>.lt w a b
 | _,_=>.num 0
def zQ(W:List T)(m:List T):Rw->List T
 | .row h _ _=>wK h (m.take h.ar)::m.drop h.ar
 | .rdy n _=>(W[n]?.getD (.num 0))::m
def mC(W:List T):List Rw->List T
 | []=>[]
 | r::b=>zQ W (mC W b) r
theorem pF:∀{b:List Rw}{c:Nat},Bd b c->(mC W b).length=c
 | _,_,.nil=>rfl
 | r::b,_,.cons h=>by
  have ih:=pF (W:=W) h;cases r with
  | row hd src path=>simp only[mC,zQ,aD,ah,ih,Rw.ar];lia
  | rdy n z=>simp only[mC,zQ,aD,ih,Rw.ar];lia
theorem Ca(hl:ts.length=h.ar):(wK h ts).size=1+et ts:=by
 cases h with
 | num n=>cases ts with
  | nil=>rfl
  | cons=>simp[Hd.ar]at hl
 | name n=>cases ts with
  | nil=>rfl
  | cons=>simp[Hd.ar]at hl
 | sum=>match ts,hl with
  | [a,b],_=>simp[wK,T.size,et];lia
 | less=>match ts,hl with
  | [a,b],_=>simp[wK,T.size,et];lia
 | cho=>match ts,hl with
  | [a,b,c],_=>simp[wK,T.size,et];lia
 | lt w=>match ts,hl with
  | [a,b],_=>simp[wK,T.size,et];lia
theorem FV(hn:∀t∈ts,¬oG t):¬oG (wK h ts):=by
 unfold wK;split
 ·exact not_false
 ·exact not_false
 ·rintro(z|z)<;>exact hn _ (by simp) z
 ·rintro(z|z)<;>exact hn _ (by simp) z
 ·rintro(z|z|z)<;>exact hn _ (by simp) z
 ·rintro(z|z)<;>exact hn _ (by simp) z
 ·exact not_false
def QS(W:List T)(n z:Nat):Prop:=∃t,W[n]?=some t/\t.size<=z/\¬oG t
theorem vB:∀{b:List Rw}{c:Nat},Bd b c->(∀r∈b,r.ok (QS W))->et (mC W b)<=kr b/\∀t∈mC W b,¬oG t
 | _,_,.nil,_=>⟨aC _,λt ht=>by cases ht⟩
 | r::b,_,.cons h,o=>by
  have ih:=vB (W:=W) h λx hx=>o x (.tail _ hx);have hl:=pF (W:=W) h;cases r with
  | row hd src path=>
   have e:(wK hd ((mC W b).take hd.ar)).size=1+et ((mC W b).take hd.ar):=Ca (by rw[ag,hl];simp only[Rw.ar];lia);have e2:et ((mC W b).take hd.ar)+et ((mC W b).drop hd.ar)=et (mC W b):=by rw[<-eg,b5]
   refine⟨?_,λt ht=>?_⟩
   ·simp only[mC,zQ,ft,jC,Rw.wt,e];lia
   ·rcases aB.mp ht with rfl|ht
    ·exact FV λt ht=>ih.2 t (dE ht)
    ·exact ih.2 t (List.mem_of_mem_drop ht)
  | rdy n z=>
   obtain⟨h1,t,e,h2,h3⟩:=o _ (.head _);refine⟨?_,λu hu=>?_⟩
   ·simp only[mC,zQ,ft,jC,Rw.wt,e,bH];lia
   ·simp only[mC,zQ,e,bH]at hu;rcases aB.mp hu with rfl|hu
    ·exact h3
    ·exact ih.2 u hu
abbrev kh:=Str×List Nat
def iH(W:List (List kh)):List Rw->List kh
 | []=>[]
 | .row _ s p::b=>(s,p)::iH W b
 | .rdy n _::b=>(W[n]?.getD [])++iH W b
theorem gM(W:List (List kh)):∀a b:List Rw,iH W (a++b)=iH W a++iH W b
 | [],_=>rfl
 | .row _ s p::a,b=>by simp only[aN,iH,gM W a b]
 | .rdy n _::a,b=>by simp only[aN,iH,gM W a b,aW]
def PD(W:List (List kh))(n z:Nat):Prop:=∃t,W[n]?=some t/\t.length<=z
theorem mT:∀{b:List Rw},(∀r∈b,r.ok (PD W))->(iH W b).length<=kr b
 | [],_=>aC _
 | .row _ s p::b,o=>by have:=mT (W:=W) (b:=b) λx hx=>o x (.tail _ hx);simp only[iH,aD,jC,Rw.wt];lia
 | .rdy n z::b,o=>by have:=mT (W:=W) (b:=b) λx hx=>o x (.tail _ hx);obtain⟨h1,t,e,h2⟩:=o _ (.head _);simp only[iH,aE,e,bH,jC,Rw.wt];lia
structure DW(st:oH):Prop where
 k:st.k<=400000
 wt:lP 0 st.S+kr st.R<=1000000
 ws:st.ws.length<=1000000
 rd:∀R∈st.rd,kr R<=1000000
def ku(rd:List (List Rw)):Nat:=(rd.map kr).sum
def mF(rd:List (List Rw)):Nat:=(rd.map List.length).sum
theorem jj(a b:List (List Rw)):ku (a++b)=ku a+ku b:=by simp[ku]
theorem jk(a b:List (List Rw)):mF (a++b)=mF a+mF b:=by simp[mF]
theorem uJ:∀{rd:List (List Rw)},R∈rd->kr R<=ku rd
 | x::rd,h=>by
  have e:ku (x::rd)=kr x+ku rd:=by simp[ku]
  rcases aB.mp h with rfl|h
  ·lia
  ·have:=uJ h;lia
theorem sY(h:m9 true rd ws s m rd' ws')(o:s.ok P):
  ∃x,rd'=rd++x/\ku x<=s.wt 0/\mF x<=ku x/\ws'.length<=ws.length+mF x:=by
 cases h with
 | handed p=>exact⟨[],(aX _).symm,aS _,aC _,aC _⟩
 | @ready _ _ _ _ R p r=>
  have hw:kr R=s.wt 0:=by rw[vg r,gS,jP];lia
  have h2:=Bp r;have h3:=kU (vh r (P:=P) (λx hx=>by rw[aF]at hx;exact hx▸o) (λx hx=>by cases hx));refine⟨[R],rfl,?_,?_,?_⟩
  ·simp[ku];lia
  ·simp[ku,mF];lia
  ·simp[mF]at h2⊢;lia
theorem MI{n k M:Nat}(h:n<=k):n*M<=k*M:=bU _ h
def st0(t:T)(ws:List Str):oH:=⟨[⟨t,"",[],.nil⟩],[],0,ws,[]⟩
theorem AU(h:Nat)(t:T):(eC.mk t "" [] .nil).wt h<=t.size:=by have:=tZ (aC 1) t (f:=(En.nil).fw h) λv=>aC _;show jc ((En.nil).fw h) t<=_;lia
theorem kO(h:BT t [] 0):eM F t.size (st0 t ws):=by
 refine⟨λs hs=>?_,λr hr=>(nomatch hr),.start,λ_ i R e=>by simp[st0]at e,?_,aC _⟩
 ·have hs:s=⟨t,"",[],.nil⟩:=by simpa[st0]using hs
  subst hs;exact⟨h,aI⟩
 ·show lP 1 [⟨t,"",[],.nil⟩]<=t.size*900^0;have:=AU 1 t;rw[gS];lia
end S9
namespace S9
open PySem L2 SW
inductive Al{α:Type}(A:α->V->Prop):List α->List V->Prop where
 | nil:Al A [] []
 | cons{a:α}{v:V}{as:List α}{vs:List V}:A a v->Al A as vs->Al A (a::as) (v::vs)
section
variable {α:Type}{A B:α->V->Prop}
theorem Al.mono(h:∀a v,A a v->B a v):∀{as:List α}{vs:List V},Al A as vs->Al B as vs
 | _,_,.nil=>.nil
 | _,_,.cons a r=>.cons (h _ _ a) (Al.mono h r)
theorem Al.length:∀{as:List α}{vs:List V},Al A as vs->vs.length=as.length
 | _,_,.nil=>rfl
 | _,_,.cons _ r=>by rw[aD,aD,Al.length r]
theorem Al.append:∀{as bs:List α}{vs us:List V},Al A as vs->Al A bs us->Al A (as++bs) (vs++us)
 | _,_,_,_,.nil,q=>q
 | _,_,_,_,.cons a r,q=>.cons a (Al.append r q)
theorem Al.one(h:A a v):Al A [a] [v]:=.cons h .nil
theorem Al.snoc:∀{as:List α}{vs:List V}{v:V},Al A as (vs++[v])->∃bs b,as=bs++[b]/\Al A bs vs/\A b v
 | _,[],v,.cons a .nil=>⟨[],_,rfl,.nil,a⟩
 | _,x::vs,v,.cons a r=>by obtain⟨us,t,rfl,h1,h2⟩:=Al.snoc (vs:=vs) r;exact⟨_::us,t,rfl,.cons a h1,h2⟩
theorem Al.get:∀{as:List α}{vs:List V}{i:Nat}{v:V},Al A as vs->vs[i]?=some v->∃a,as[i]?=some a/\A a v
 | _,_,0,_,.cons a r,h=>by cases h;exact⟨_,rfl,a⟩
 | _,_,i+1,_,.cons a r,h=>Al.get (i:=i) r h
theorem Al.getA:∀{as:List α}{vs:List V}{i:Nat}{a:α},Al A as vs->as[i]?=some a->∃v,vs[i]?=some v/\A a v
 | _,_,0,_,.cons a r,h=>by cases h;exact⟨_,rfl,a⟩
 | _,_,i+1,_,.cons a r,h=>Al.getA (i:=i) r h
theorem Al.reverse:∀{as:List α}{vs:List V},Al A as vs->Al A as.reverse vs.reverse
 | _,_,.nil=>.nil
 | _,_,.cons a r=>by rw[aj,aj];exact(Al.reverse r).append (.cons a .nil)
end
def ou(l:List Nat):List V:=l.map λi:Nat=>V.int (i:Int)
theorem E7(l:List Nat):(ou l).length=l.length:=aO _
mutual
def oZ(tk:Addr->Prop)(H:Hp):Mg->V->Prop
 | .called w,v=>∃p,v=.ref p/\H p=some (.tup [.str "called",.str w])
 | .ready n _,v=>∃p,v=.ref p/\H p=some (.tup [.str "ready",.int (n:Int)])
 | .handed t src path e,v=>∃p q x pp d kvs,v=.ref p/\H p=some (.tup [.str "handed",.ref q])/\H q=some (.tup [x,.str src,.ref pp,.ref d])/\fc H t x/\H pp=some (.tup (ou path))/\tk d/\H d=some (.dK kvs)/\k9 tk H e kvs
def k9(tk:Addr->Prop)(H:Hp):En->List (fB×V)->Prop
 | .nil,kvs=>kvs=[]
 | .cons w m e,kvs=>∃v r,kvs=(.inr w,v)::r/\oZ tk H m v/\k9 tk H e r
end
def hX(tk:Addr->Prop)(H:Hp)(s:eC)(v:V):Prop:=∃q x pp d kvs,v=.ref q/\H q=some (.tup [x,.str s.src,.ref pp,.ref d])/\fc H s.t x/\H pp=some (.tup (ou s.path))/\tk d/\H d=some (.dK kvs)/\k9 tk H s.e kvs
def Hd.vs:Hd->List V
 | .num n=>[.str "number",.int n]
 | .name w=>[.str "name",.str w]
 | .sum=>[.str "sum"]
 | .less=>[.str "less"]
 | .cho=>[.str "choose"]
 | .lt w=>[.str "let",.str w]
def ky(H:Hp)(s:kh)(v:V):Prop:=∃q pp,v=.ref q/\H q=some (.tup [.str s.1,.ref pp])/\H pp=some (.tup (ou s.2))
def jL(H:Hp):Rw->V->Prop
 | .row h src path,v=>∃r hp s,v=.ref r/\H r=some (.tup [.str "row",.ref hp,.int (h.ar:Int),s])/\H hp=some (.tup h.vs)/\ky H (src,path) s
 | .rdy n _,v=>∃p,v=.ref p/\H p=some (.tup [.str "ready",.int (n:Int)])
structure Kp(tk:Addr->Prop)(H H':Hp):Prop where
 tup:fF H H'
 dct:∀d kvs,tk d->H d=some (.dK kvs)->H' d=some (.dK kvs)
section
variable {tk:Addr->Prop}{H H' H2:Hp}
theorem Kp.refl:Kp tk H H:=⟨fF.refl,λ_ _ _ h=>h⟩
theorem Kp.trans(a:Kp tk H H')(b:Kp tk H' H2):Kp tk H H2:=⟨a.tup.trans b.tup,λd kvs n h=>b.dct d kvs n (a.dct d kvs n h)⟩
theorem Kp.same(s:dq H H'):Kp tk H H':=⟨dW s,λd kvs _ h=>s _ _ h⟩
theorem Kp.lst(h:H l=some (.lst ys)):Kp tk H (upd H l o):=⟨fA h,λd kvs _ e=>by rw[dY (fM e h (by intro z;cases z))];exact e⟩
theorem Kp.ins(h:H l=some (.ins C dx fs)):Kp tk H (upd H l o):=
 ⟨λb xs e=>by rw[dY (fM e h (by intro z;cases z))];exact e,λd kvs _ e=>by rw[dY (fM e h (by intro z;cases z))];exact e⟩
mutual
theorem oZ.mono(k:Kp tk H H'):∀{m:Mg}{v:V},oZ tk H m v->oZ tk H' m v
 | .called _,_,h=>by obtain⟨p,e,h⟩:=h;exact⟨p,e,k.tup _ _ h⟩
 | .ready _ _,_,h=>by obtain⟨p,e,h⟩:=h;exact⟨p,e,k.tup _ _ h⟩
 | .handed t src path e,_,h=>by obtain⟨p,q,x,pp,d,kvs,h0,h1,h2,h3,h4,h5,h6,h7⟩:=h;exact⟨p,q,x,pp,d,kvs,h0,k.tup _ _ h1,k.tup _ _ h2,h3.mono k.tup,k.tup _ _ h4,h5,k.dct _ _ h5 h6,k9.mono k (e:=e) h7⟩
theorem k9.mono(k:Kp tk H H'):∀{e:En}{kvs:List (fB×V)},k9 tk H e kvs->k9 tk H' e kvs
 | .nil,_,h=>h
 | .cons w m e,_,h=>by obtain⟨v,r,h0,h1,h2⟩:=h;exact⟨v,r,h0,oZ.mono k (m:=m) h1,k9.mono k (e:=e) h2⟩
end
mutual
theorem oZ.old(k:∀d o,H d=some o->tk d->tk' d):∀{m:Mg}{v:V},oZ tk H m v->oZ tk' H m v
 | .called _,_,h=>h
 | .ready _ _,_,h=>h
 | .handed t src path e,_,h=>by obtain⟨p,q,x,pp,d,kvs,h0,h1,h2,h3,h4,h5,h6,h7⟩:=h;exact⟨p,q,x,pp,d,kvs,h0,h1,h2,h3,h4,k _ _ h6 h5,h6,k9.old k (e:=e) h7⟩
theorem k9.old(k:∀d o,H d=some o->tk d->tk' d):∀{e:En}{kvs:List (fB×V)},k9 tk H e kvs->k9 tk' H e kvs
 | .nil,_,h=>h
 | .cons w m e,_,h=>by obtain⟨v,r,h0,h1,h2⟩:=h;exact⟨v,r,h0,oZ.old k (m:=m) h1,k9.old k (e:=e) h2⟩
end
theorem hX.old(k:∀d o,H d=some o->tk d->tk' d)(h:hX tk H s v):hX tk' H s v:=by obtain⟨q,x,pp,d,kvs,h0,h2,h3,h4,h5,h6,h7⟩:=h;exact⟨q,x,pp,d,kvs,h0,h2,h3,h4,k _ _ h6 h5,h6,h7.old k⟩
theorem hX.mono(k:Kp tk H H')(h:hX tk H s v):hX tk H' s v:=by obtain⟨q,x,pp,d,kvs,h0,h2,h3,h4,h5,h6,h7⟩:=h;exact⟨q,x,pp,d,kvs,h0,k.tup _ _ h2,h3.mono k.tup,k.tup _ _ h4,h5,k.dct _ _ h5 h6,h7.mono k⟩
theorem ky.mono(k:fF H H')(h:ky H s v):ky H' s v:=by obtain⟨q,pp,h0,h1,h2⟩:=h;exact⟨q,pp,h0,k _ _ h1,k _ _ h2⟩
theorem jL.mono(k:fF H H'):∀{r:Rw}{v:V},jL H r v->jL H' r v
 | .row _ _ _,_,h=>by obtain⟨r,hp,s,h0,h1,h2,h3⟩:=h;exact⟨r,hp,s,h0,k _ _ h1,k _ _ h2,h3.mono k⟩
 | .rdy _ _,_,h=>by obtain⟨p,e,h⟩:=h;exact⟨p,e,k _ _ h⟩
theorem wj:∀{e:En}{kvs:List (fB×V)},k9 tk H e kvs->kvs.length=e.len
 | .nil,_,h=>by subst h;rfl
 | .cons w m e,_,h=>by obtain⟨v,r,rfl,_,h2⟩:=h;rw[aD,En.len,wj (e:=e) h2]
theorem sy(w:Str):∀{e:En}{kvs:List (fB×V)},k9 tk H e kvs->(e.look w=none/\fP kvs (.inr w)=none)∨∃m v,e.look w=some m/\fP kvs (.inr w)=some v/\oZ tk H m v
 | .nil,_,h=>by subst h;exact .inl ⟨rfl,rfl⟩
 | .cons y m e,_,h=>by
  obtain⟨v,r,rfl,h1,h2⟩:=h;by_cases hy:y=w
  ·subst hy;exact .inr ⟨m,v,by simp only[En.look,if_true],fX rfl,h1⟩
  ·have e1:En.look (.cons y m e) w=e.look w:=by simp only[En.look,if_neg hy]
   have e2:fP (((.inr y,v):fB×V)::r) (.inr w)=fP r (.inr w):=fY λz=>hy (Sum.inr.inj z);rw[e1,e2];exact sy w (e:=e) h2
theorem zh(nd:y=w->fP r (.inr w)=none):fh (((.inr y,v):fB×V)::r) (.inr w) x=if y=w then(.inr y,x)::r else(.inr y,v)::fh r (.inr w) x:=by
 by_cases hy:y=w
 ·subst hy;rw[if_pos rfl];have h0:=jD (.inr y:fB) r;rw[nd rfl]at h0;have h1:∀p∈r,¬p.1=(.inr y:fB):=by intro p hp z;have:(r.any λkv=>decide (kv.1=(.inr y:fB)))=true:=bz.mpr ⟨p,hp,decide_eq_true z⟩;rw[h0]at this;cases this
  unfold fh;rw[if_pos (by simp),aV,if_pos rfl]
  congr 1
  refine(dA λp hp=>if_neg (h1 p hp)).trans (List.map_id' r)
 ·rw[if_neg hy];have hy2:¬(Sum.inr y:fB)=.inr w:=λz=>hy (Sum.inr.inj z);unfold fh;rw[bX,decide_eq_false hy2,Bool.false_or];split
  ·rw[aV,if_neg hy2]
  ·rfl
end
abbrev Nk(a:Addr):Addr->Prop:=λd=>d≠a
def En.nd:En->Prop
 | .nil=>True
 | .cons w _ e=>e.look w=none/\e.nd
theorem GU:∀{e:En},e.ok P->e.nd
 | .nil,_=>aI
 | .cons _ _ e,h=>⟨h.2.2,GU (e:=e) h.2.1⟩
theorem CZ:∀{e:En},e.nd->(e.put w n).nd
 | .nil,_=>⟨rfl,aI⟩
 | .cons y m e,h=>by
  unfold En.put;split
  ·exact h
  ·rename_i hy;refine⟨?_,CZ (e:=e) h.2⟩;rw[En.look_put,if_neg (λz=>hy z.symm)];exact h.1
theorem we(hn:oZ tk H n x):∀{e:En}{kvs:List (fB×V)},e.nd->k9 tk H e kvs->k9 tk H (e.put w n) (fh kvs (.inr w) x)
 | .nil,_,_,h=>by have h:_=[]:=h;subst h;exact⟨x,[],rfl,hn,rfl⟩
 | .cons y m e,_,nd,h=>by
  obtain⟨v,r,rfl,h1,h2⟩:=h;have hnone:y=w->fP r (.inr w)=none:=λz=>by
   subst z;rcases sy y h2 with⟨_,e2⟩|⟨m',v',e1,_⟩
   ·exact e2
   ·have:=nd.1;rw[e1]at this;cases this
  rw[zh hnone];unfold En.put;by_cases hy:y=w
  ·rw[if_pos hy,if_pos hy];exact⟨x,r,rfl,hn,h2⟩
  ·rw[if_neg hy,if_neg hy];exact⟨v,_,rfl,h1,we hn (e:=e) nd.2 h2⟩
structure RO(K:aA)(C:Addr):Prop where
 cl:xE K C
 nS:io K C "stamps"
 nL:io K C "lets"
 nF:io K C "fuel"
 nM:io K C "many"
 nR:io K C "ready"
def lY(sd lp:Addr)(F k:Nat)(yl:Addr):List (Str×V):=[("stamps",.ref sd),("lets",.ref lp),("fuel",.int (F:Int)),("many",.int (k:Int)),("ready",.ref yl)]
section
variable {sd lp yl:Addr}{F k:Nat}
theorem nV:(lY sd lp F k yl).lookup ("stamps":Str)=some (.ref sd):=by
 have e1:(("stamps":Str)=="stamps")=true:=by decide
 simp only[lY,List.lookup,e1]
theorem FR:(lY sd lp F k yl).lookup ("lets":Str)=some (.ref lp):=by
 have e1:(("lets":Str)=="stamps")=false:=by decide
 have e2:(("lets":Str)=="lets")=true:=by decide
 simp only[lY,List.lookup,e1,e2]
theorem sT:(lY sd lp F k yl).lookup ("fuel":Str)=some (.int (F:Int)):=by
 have e1:(("fuel":Str)=="stamps")=false:=by decide
 have e2:(("fuel":Str)=="lets")=false:=by decide
 have e3:(("fuel":Str)=="fuel")=true:=by decide
 simp only[lY,List.lookup,e1,e2,e3]
theorem lZ:(lY sd lp F k yl).lookup ("many":Str)=some (.int (k:Int)):=by
 have e1:(("many":Str)=="stamps")=false:=by decide
 have e2:(("many":Str)=="lets")=false:=by decide
 have e3:(("many":Str)=="fuel")=false:=by decide
 have e4:(("many":Str)=="many")=true:=by decide
 simp only[lY,List.lookup,e1,e2,e3,e4]
theorem qE:(lY sd lp F k yl).lookup ("ready":Str)=some (.ref yl):=by
 have e1:(("ready":Str)=="stamps")=false:=by decide
 have e2:(("ready":Str)=="lets")=false:=by decide
 have e3:(("ready":Str)=="fuel")=false:=by decide
 have e4:(("ready":Str)=="many")=false:=by decide
 have e5:(("ready":Str)=="ready")=true:=by decide
 simp only[lY,List.lookup,e1,e2,e3,e4,e5]
theorem me{m:Str}(e1:(m=="stamps")=false:=by decide)(e2:(m=="lets")=false:=by decide)(e3:(m=="fuel")=false:=by decide)(e4:(m=="many")=false:=by decide)(e5:(m=="ready")=false:=by decide):(lY sd lp F k yl).lookup m=none:=by simp only[lY,List.lookup,e1,e2,e3,e4,e5]
theorem QJ:¬(("stamps":Str)="many"):=by decide
theorem QK:¬(("lets":Str)="many"):=by decide
theorem QL:¬(("fuel":Str)="many"):=by decide
theorem J0{z:Int}{j:Nat}(h:z=(j:Int)):gv "many" (.int z) (lY sd lp F k yl)=lY sd lp F j yl:=by subst h;simp only[lY,gv,if_neg QJ,if_neg QK,if_neg QL,if_true]
theorem J1:(lY sd lp F k yl).length<1000:=by show 5<1000;decide
end
structure Ad where
 op:Addr
 dx:Addr
 sd:Addr
 lp:Addr
 lx:Addr
 tk:Addr
 yl:Addr
 v1:V
 v2:V
 v3:V
def Di(N:Addr->Prop)(H:Hp)(w:Str)(ps:List Str)(t:T)(v:V):Prop:=∃p l x,v=.ref p/\H p=some (.tup [.str w,.ref l,x])/\H l=some (.lst (ps.map V.str))/\N l/\fc H t x
def tQ(N:Addr->Prop)(H:Hp)(R:List Rw)(u:V):Prop:=∃l vs,u=.ref l/\N l/\H l=some (.lst vs)/\Al (jL H) R vs
structure fV(C D:Addr)(A:Ad)(bo:Bo)(F:Nat)(N:Addr->Prop)(k:Nat)(ws:List Str)(rd:List (List Rw))(H:Hp):Prop where
 ob:H A.op=some (.ins C A.dx (lY A.sd A.lp F k A.yl))
 fw:∃n,FW D H A.lp A.lx A.tk n ws/\n+cnt n ws<=ws.length
 sd:H A.sd=some (.dK (zw A.v1 A.v2 A.v3))
 st:A.sd≠A.tk
 s1:Di N H "star" [] bo.x A.v1
 s2:Di N H "sta" [oM bo.e] bo.y A.v2
 s3:Di N H "st" [oM bo.e,uS bo.e] bo.z A.v3
 yl:∃us,H A.yl=some (.lst us)/\Al (tQ N H) rd us
def Ex(l:List Addr)(H H':Hp):Prop:=∀b o,b∉l->H b=some o->H' b=some o
theorem Ex.refl:Ex l H H:=λ_ _ _ h=>h
theorem Ex.trans(a:Ex l H H1)(b:Ex l H1 H2):Ex l H H2:=λc o n h=>b c o n (a c o n h)
theorem Ex.same(s:dq H H1):Ex l H H1:=λc o _ h=>s c o h
theorem Ex.more(h:∀a∈l,a∈l')(e:Ex l H H1):Ex l' H H1:=λc o n z=>e c o (λq=>n (h c q)) z
theorem Ex.upd(h:a∈l):Ex l H (upd H a o):=λc u n z=>by rw[dY (λe=>n (by rw[e];exact h))];exact z
theorem Ex.new(h:∀a∈l',a∈l∨H a=none)(e:Ex l' H H1):Ex l H H1:=λc o n z=>e c o (λq=>(h c q).elim n λq2=>by rw[q2]at z;cases z) z
section
variable {C D:Addr}{A:Ad}{bo:Bo}{F k:Nat}{N N':Addr->Prop}{ws:List Str}{rd:List (List Rw)}{H H':Hp}
theorem Di.mono(hN:∀a,N a->N' a)(ht:fF H H')(hl:∀l xs,N l->H l=some (.lst xs)->H' l=some (.lst xs))(h:Di N H w ps t v):Di N' H' w ps t v:=by obtain⟨p,l,x,e,h1,h2,h3,h4⟩:=h;exact⟨p,l,x,e,ht _ _ h1,hl _ _ h3 h2,hN _ h3,h4.mono ht⟩
theorem tQ.mono(hN:∀a,N a->N' a)(ht:fF H H')(hl:∀l xs,N l->H l=some (.lst xs)->H' l=some (.lst xs))(h:tQ N H R u):tQ N' H' R u:=by obtain⟨l,vs,e,h1,h2,h3⟩:=h;exact⟨l,vs,e,hN _ h1,hl _ _ h1 h2,h3.mono λ_ _=>jL.mono ht⟩
theorem fV.nOL(O:fV C D A bo F N k ws rd H):A.op≠A.lp:=by obtain⟨n,f,_⟩:=O.fw;exact fM O.ob f.ob (by intro z;injection z with _ _ z;simp[lY,wf]at z)
theorem fV.nOT(O:fV C D A bo F N k ws rd H):A.op≠A.tk:=by obtain⟨n,f,_⟩:=O.fw;exact fM O.ob f.dk (by intro z;cases z)
theorem fV.nOY(O:fV C D A bo F N k ws rd H):A.op≠A.yl:=by obtain⟨n,f,_⟩:=O.yl;exact fM O.ob f (by intro z;cases z)
theorem fV.ex(O:fV C D A bo F N k ws rd H)(e:Ex l H H')(h1:A.op∉l)(h2:A.lp∉l)(h3:A.tk∉l)(h4:A.sd∉l)(h5:A.yl∉l)(ht:fF H H')(hl:∀a,N a->a∉l):fV C D A bo F N k ws rd H':=by have hL:∀l xs,N l->H l=some (.lst xs)->H' l=some (.lst xs):=λa xs n z=>e _ _ (hl a n) z;obtain⟨n,f,c⟩:=O.fw;obtain⟨us,y1,y2⟩:=O.yl;exact⟨e _ _ h1 O.ob,⟨n,⟨e _ _ h2 f.ob,e _ _ h3 f.dk⟩,c⟩,e _ _ h4 O.sd,O.st,O.s1.mono (λ_ z=>z) ht hL,O.s2.mono (λ_ z=>z) ht hL,O.s3.mono (λ_ z=>z) ht hL,us,e _ _ h5 y1,y2.mono λ_ _=>tQ.mono (λ_ z=>z) ht hL⟩
theorem fV.same(O:fV C D A bo F N k ws rd H)(s:dq H H'):fV C D A bo F N k ws rd H':=
 O.ex (l:=[]) (Ex.same s) (by simp) (by simp) (by simp) (by simp) (by simp) (dW s) (by simp)
theorem fV.lst(O:fV C D A bo F N k ws rd H)(h:H l=some (.lst xs))(ny:l≠A.yl)(nl:∀a,N a->a≠l):fV C D A bo F N k ws rd (upd H l o):=by
 obtain⟨n,f,_⟩:=O.fw;refine O.ex (l:=[l]) (Ex.upd (aF.mpr rfl)) ?_ ?_ ?_ ?_ ?_ (fA h) (λa z q=>nl a z (aF.mp q))
 ·exact λq=>fM O.ob h (by intro z;cases z) (aF.mp q)
 ·exact λq=>fM f.ob h (by intro z;cases z) (aF.mp q)
 ·exact λq=>fM f.dk h (by intro z;cases z) (aF.mp q)
 ·exact λq=>fM O.sd h (by intro z;cases z) (aF.mp q)
 ·exact λq=>ny (aF.mp q).symm
theorem fV.weak(O:fV C D A bo F N k ws rd H)(h:∀a o,H a=some o->N a->N' a):fV C D A bo F N' k ws rd H:=by have hS:∀{w:Str}{ps:List Str}{t:T}{v:V},Di N H w ps t v->Di N' H w ps t v:=λ⟨p,l,x,e,h1,h2,h3,h4⟩=>⟨p,l,x,e,h1,h2,h _ _ h2 h3,h4⟩;obtain⟨us,y1,y2⟩:=O.yl;exact⟨O.ob,O.fw,O.sd,O.st,hS O.s1,hS O.s2,hS O.s3,us,y1,y2.mono λR u ⟨l,vs,e,h1,h2,h3⟩=>⟨l,vs,e,h _ _ h2 h1,h2,h3⟩⟩
theorem fV.kp(O:fV C D A bo F N k ws rd H)(e:Ex l H H')(h:∀a∈l,a=A.tk∨(∃xs,H a=some (.lst xs))∨(∃C dx fs,H a=some (.ins C dx fs))):Kp (Nk A.tk) H H':=by
 obtain⟨n,f,_⟩:=O.fw;refine⟨λb xs z=>e _ _ (λq=>?_) z,λd kvs nd z=>e _ _ (λq=>?_) z⟩
 ·rcases h b q with rfl|⟨_,w⟩|⟨_,_,_,w⟩
  ·rw[f.dk]at z;cases z
  ·rw[w]at z;cases z
  ·rw[w]at z;cases z
 ·rcases h d q with rfl|⟨_,w⟩|⟨_,_,_,w⟩
  ·exact nd rfl
  ·rw[w]at z;cases z
  ·rw[w]at z;cases z
theorem fV.word(O:fV C D A bo F N k ws rd H)(e:Dp A.lp A.tk H H')(f':FW D H' A.lp A.lx A.tk n' ws')(c:n'+cnt n' ws'<=ws'.length):fV C D A bo F N k ws' rd H':=by
 obtain⟨n,f,_⟩:=O.fw;have ex:Ex [A.lp,A.tk] H H':=λb o nb z=>e b o (λq=>nb (by simp[q])) (λq=>nb (by simp[q])) z;have kp:Kp (Nk A.tk) H H':=O.kp ex (λa ha=>by
  rcases aB.mp ha with rfl|ha
  ·exact .inr (.inr ⟨_,_,_,f.ob⟩)
  ·exact .inl (aF.mp ha))
 have hL:∀l xs,N l->H l=some (.lst xs)->H' l=some (.lst xs):=λa xs n z=>e _ _ (fM z f.ob (by intro z;cases z)) (fM z f.dk (by intro z;cases z)) z;obtain⟨us,y1,y2⟩:=O.yl;exact⟨e _ _ O.nOL O.nOT O.ob,⟨n',f',c⟩,e _ _ (fM O.sd f.ob (by intro z;cases z)) O.st O.sd,O.st,O.s1.mono (λ_ z=>z) kp.tup hL,O.s2.mono (λ_ z=>z) kp.tup hL,O.s3.mono (λ_ z=>z) kp.tup hL,us,e _ _ (fM y1 f.ob (by intro z;cases z)) (fM y1 f.dk (by intro z;cases z)) y1,y2.mono λ_ _=>tQ.mono (λ_ z=>z) kp.tup hL⟩
end
structure G0(tk:Addr->Prop)(wl rl:Addr)(wus rus:List V)(P:List eC)(rs:List Rw)(H':Hp):Prop where
 w:∃pus,H' wl=some (.lst (wus++pus))/\Al (hX tk H') P pus
 r:∃rvs,H' rl=some (.lst (rus++rvs))/\Al (jL H') rs rvs
structure yo(A:Ad)(N:Addr->Prop)(H:Hp):Prop where
 y:∀a,N a->a≠A.yl
 f:∀a,H a=none->N a
end S9
namespace S9
open PySem L2 SW
variable {K:aA}{vs:List V}{H:Hp}{Q:VK}{E:XK}{N C D:Addr}
theorem Fq(ha:H a=some (.tup xs))(hb:H b=some (.tup ys))(hl:xs.length+ys.length<=sizeLine)(hy:ys≠[])(k:∀r H',dq H H'->H' r=some (.tup (xs++ys))->Q (.ref r) H'):qB K (.ref a) (.ref b) H Q:=
 ⟨eD.of ha,eD.of hb,hl,λe=>k b H (dq.refl _) (by rw[e];exact hb),λ_ z=>absurd z hy,λ_ _ p hp=>k p _ (dS hp) dP⟩
theorem kX(s:eC):s.within.length=s.t.kids.length:=vO s _ 0
theorem AX(s:eC):∀(ts:List T)(j i:Nat)(t:T),ts[i]?=some t->(wi s j ts)[i]?=some (s.kid (j+i) t)
 | [],j,i,t,h=>by simp at h
 | u::ts,j,0,t,h=>by cases h;rfl
 | u::ts,j,i+1,t,h=>by have:=AX s ts (j+1) i t h;rw[show j+(i+1)=j+1+i by lia];exact this
theorem pJ{s:eC}{i:Nat}{t:T}(h:s.t.kids[i]?=some t):s.within[i]?=some (s.kid i t):=by have:=AX s _ 0 i t h;rwa[bi]at this
theorem uz:∀{ts:List T}{us:List V}{i:Nat}{u:V},fm H ts us->us[i]?=some u->∃t,ts[i]?=some t/\fc H t u
 | _,_,0,_,.cons a r,h=>by cases h;exact⟨_,rfl,a⟩
 | _,_,i+1,_,.cons a r,h=>uz (i:=i) r h
theorem Co(t:T):t.kids.length<=3:=by cases t<;>simp[T.kids]
theorem CB(l:List Nat)(i:Nat):ou (l++[i])=ou l++[V.int (i:Int)]:=by simp[ou]
def iY:Sp:=λvs H Q _=>∃(tk:Addr->Prop)(s:eC)(u:V),vs=[u]/\hX tk H s u/\s.path.length<=1000/\∀(l:Addr)(us:List V)(H':Hp),dq H H'->H l=none->H' l=some (.lst us)->Al (hX tk H') s.within us->Q (.ref l) H'
def Nl(K:aA):TS:=(fD (LJ (Ga K (eN iZ [] E0 (dI (dj (dy K) (dJ 0) (tC (.int 0))) dQ))) (nq K 2 (gR (dR 0) (gR (dR 1) oA))) (ef (dI (dJ 1) (dI (dj (dy K) (dJ 2) (tC (.int 1))) (dI (dj (qB K) (dj (dy K) (dJ 2) (tC (.int 2))) (ef (dI (dJ 0) dQ))) (dI (dj (dy K) (dJ 2) (tC (.int 3))) dQ))))) [0]))
theorem Pm(h:iY vs H Q E):Nl K (fk Q) (start ["spot"] vs) H:=by
 obtain⟨tk,s,u,rfl,⟨q,x,pp,d,kvs,rfl,hq,hx,hpp,nd,hd,he⟩,hlen,k⟩:=h;refine⟨eD.of hq,gF,gD s.t,x,rfl,iw hx,λpa us H1 s1 g1 dk=>?_⟩;have dk:fm H1 s.t.kids us:=tD (by rw[uq]at dk;exact dk);have hl:=dk.length;have hk3:=Co s.t;refine⟨eD.of g1,?_⟩;refine⟨λi mm ws H'=>i<=us.length/\mm=us.length-i/\dq H1 H'/\Al (hX tk H') (s.within.take i) ws,⟨_,aS _,rfl,λ_ _ z=>z,.nil⟩,?_⟩;rintro i mm ws H3 ⟨hi,rfl,s3,al⟩;have s13:=s1.trans s3;have hwl:=al.length;rw[ag,kX]at hwl;have g13:=s3 _ _ g1;by_cases hn:i=us.length
 ·refine .inl ⟨⟨us,eD.of g13,by lia⟩,by rw[sizeLine_eq];lia,λl hl'=>?_⟩;rw[bQ (by rw[kX];lia)]at al;have s4:=dS (o:=.lst ws) hl';exact k l ws _ (s13.trans s4) (s13.free hl') dP (al.mono λ_ _=>hX.mono (Kp.same s4))
 ·have hlt:i<us.length:=by lia
  obtain⟨xa,hxa⟩:∃xa,us[i]?=some xa:=⟨us[i],aU _⟩;refine .inr ⟨⟨us,xa,eD.of g13,hxa⟩,?_⟩;rintro z H4 ⟨pz,xa',rfl,hpz,rfl,q1⟩ o1 o2;have ea:=q1 us (eD.of g13);rw[hxa]at ea;cases ea;have s4:=dS (o:=.tup [.int (i:Int),xa]) hpz;have g4:(upd H3 pz (.tup [.int (i:Int),xa])) pz=some (.tup [.int (i:Int),xa]):=dP;generalize upd H3 pz (.tup [.int (i:Int),xa])=H4 at s4 g4⊢;have s14:=s13.trans s4;have hq4:=s14 _ _ hq;refine⟨eD.of g4,rfl,rfl,⟨_,_,rfl⟩,?_⟩;refine⟨eD.of hq4,iM,eD.of hq4,tY,fL,eY λc H5 hc s5 g5=>?_⟩;have s15:=s14.trans s5;refine Fq (s15 _ _ hpp) g5 (by rw[E7,sizeLine_eq];simp;lia) (by simp) λr H6 s6 hr=>?_;have s16:=s15.trans s6;refine⟨eD.of (s16 _ _ hq),rL,fL,λy hy=>?_⟩;have s7:=dS (o:=.tup [xa,.str s.src,.ref r,.ref d]) hy;refine⟨by rw[sizeLine_eq];lia,us.length-(i+1),by lia,hlt,rfl,s3.trans (s4.trans (s5.trans (s6.trans s7))),?_⟩;obtain⟨t,ht,dt⟩:=uz dk hxa;rw[ay,pJ ht];have s37:=s4.trans (s5.trans (s6.trans s7));have s17:=s16.trans s7;refine(al.mono λ_ _=>hX.mono (Kp.same s37)).append (.one ⟨y,xa,r,d,kvs,rfl,dP,dt.mono (dW (s3.trans s37)),?_,nd,s17 _ _ hd,he.mono (Kp.same s17)⟩);rw[s7 _ _ hr];show _=some (HO.tup (ou (s.path++[i])));rw[CB]
theorem jB:∀(t:T)(x:G),xA x (gD t)->x.kind="stamp"->oG t
 | .num n,x,h,e=>by
  cases h with
  | refl=>exact absurd e (by simp only[gD,G.kind];decide)
  | kid hk _=>simp[gD,G.kids]at hk
 | .name n,x,h,e=>by
  cases h with
  | refl=>exact absurd e (by simp only[gD,G.kind];decide)
  | kid hk _=>simp[gD,G.kids]at hk
 | .sum a b,x,h,e=>by
  cases h with
  | refl=>exact absurd e (by simp only[gD,G.kind];decide)
  | kid hk i=>
   simp only[gD,G.kids,aB,aG,or_false]at hk;rcases hk with rfl|rfl
   ·exact .inl (jB a x i e)
   ·exact .inr (jB b x i e)
 | .less a b,x,h,e=>by
  cases h with
  | refl=>exact absurd e (by simp only[gD,G.kind];decide)
  | kid hk i=>
   simp only[gD,G.kids,aB,aG,or_false]at hk;rcases hk with rfl|rfl
   ·exact .inl (jB a x i e)
   ·exact .inr (jB b x i e)
 | .cho a b c,x,h,e=>by
  cases h with
  | refl=>exact absurd e (by simp only[gD,G.kind];decide)
  | kid hk i=>
   simp only[gD,G.kids,aB,aG,or_false]at hk;rcases hk with rfl|rfl|rfl
   ·exact .inl (jB a x i e)
   ·exact .inr (.inl (jB b x i e))
   ·exact .inr (.inr (jB c x i e))
 | .lt w a b,x,h,e=>by
  cases h with
  | refl=>exact absurd e (by simp only[gD,G.kind];decide)
  | kid hk i=>
   simp only[gD,G.kids,aB,aG,or_false]at hk;rcases hk with rfl|rfl
   ·exact .inl (jB a x i e)
   ·exact .inr (jB b x i e)
 | .st0 _,_,_,_=>aI
 | .st1 _ _,_,_,_=>aI
 | .st2 _ _ _,_,_,_=>aI
theorem jA:∀(t:T),oG t->∃x,xA x (gD t)/\x.kind="stamp"
 | .num n,h=>h.elim
 | .name n,h=>h.elim
 | .sum a b,h=>h.elim (λz=>(jA a z).elim λx y=>⟨x,.kid (by simp[gD,G.kids]) y.1,y.2⟩) (λz=>(jA b z).elim λx y=>⟨x,.kid (by simp[gD,G.kids]) y.1,y.2⟩)
 | .less a b,h=>h.elim (λz=>(jA a z).elim λx y=>⟨x,.kid (by simp[gD,G.kids]) y.1,y.2⟩) (λz=>(jA b z).elim λx y=>⟨x,.kid (by simp[gD,G.kids]) y.1,y.2⟩)
 | .cho a b c,h=>by
  rcases h with z|z|z
  ·obtain⟨x,y⟩:=jA a z;exact⟨x,.kid (k:=gD a) (by simp[gD,G.kids]) y.1,y.2⟩
  ·obtain⟨x,y⟩:=jA b z;exact⟨x,.kid (k:=gD b) (by simp[gD,G.kids]) y.1,y.2⟩
  ·obtain⟨x,y⟩:=jA c z;exact⟨x,.kid (k:=gD c) (by simp[gD,G.kids]) y.1,y.2⟩
 | .lt w a b,h=>h.elim (λz=>(jA a z).elim λx y=>⟨x,.kid (by simp[gD,G.kids]) y.1,y.2⟩) (λz=>(jA b z).elim λx y=>⟨x,.kid (by simp[gD,G.kids]) y.1,y.2⟩)
 | .st0 _,_=>⟨_,.refl,rfl⟩
 | .st1 _ _,_=>⟨_,.refl,rfl⟩
 | .st2 _ _ _,_=>⟨_,.refl,rfl⟩
theorem gP:∀t:T,(gD t).size=t.size
 | .num n=>rfl
 | .name n=>rfl
 | .sum a b=>by simp only[gD,G.size,gq,T.size,gP a,gP b];lia
 | .less a b=>by simp only[gD,G.size,gq,T.size,gP a,gP b];lia
 | .cho a b c=>by simp only[gD,G.size,gq,T.size,gP a,gP b,gP c];lia
 | .lt w a b=>by simp only[gD,G.size,gq,T.size,gP a,gP b];lia
 | .st0 _=>rfl
 | .st1 _ a=>by simp only[gD,G.size,gq,T.size,gP a];lia
 | .st2 _ a b=>by simp only[gD,G.size,gq,T.size,gP a,gP b];lia
def xl:Sp:=λvs H Q _=>∃(tk:Addr->Prop)(s:eC)(u:V),vs=[u]/\hX tk H s u/\s.t.size<=900/\s.t.names.length<64/\(∀H',dq H H'->Op s->Q (.bl true) H')/\(∀H',dq H H'->¬Op s->Q (.bl false) H')
def Ib(K:aA):TS:=(fD (tC (.bl true)))
def Ia(K:aA):TS:=(fE (dz (dj ic (dj (dy K) (dJ 1) (tC (.int 0))) (tC (.str "stamp")))) (Ib K) fC)
def IZ(K:aA):TS:=(fD (tC (.bl true)))
def IY(K:aA):TS:=(fE (lq (tB (BR (dJ 2) (dj (dy K) (dJ 0) (tC (.int 3))))) (dz (dj ic (dj (dy K) (kC (dj (dy K) (dJ 0) (tC (.int 3))) (dJ 2)) (tC (.int 0))) (tC (.str "handed"))))) (IZ K) fC)
def N5(K:aA):TS:=(dZ (iV (iT K (eN lT [] E0 (dI (dj (dy K) (dJ 0) (tC (.int 0))) dQ))) (dR 1) (Ia K)) (dZ (iV (iT K (eN pS [] E0 (dI (dj (dy K) (dJ 0) (tC (.int 0))) dQ))) (dR 2) (IY K)) (fD (tC (.bl false)))))
theorem P7(h:xl vs H Q E):N5 K (fk Q) (start ["spot","piece","word"] vs) H:=by
 obtain⟨tk,s,u,rfl,⟨q,x,pp,d,kvs,rfl,hq,hx,hpp,nd,hd,he⟩,hz1,hz2,k1,k2⟩:=h;refine⟨eD.of hq,gF,gD s.t,x,rfl,iw hx,by rw[gP];lia,λl us L H1 s1 n1 h1 od dL=>⟨eL.of h1,?_⟩⟩;have hlen:=dL.1;refine gZ (K:=K) (a:=l) (xs:=us) (λi σ H'=>∃j1,σ=[some (.ref q),j1,none]/\dq H1 H'/\∀x∈L.take i,x.kind≠"stamp") ⟨none,rfl,dq.refl _,by simp⟩ (λi σ H' _ hP=>?_) ?_ ?_
 ·obtain⟨_,_,s,_⟩:=hP;exact eL.of (s _ _ h1)
 ·rintro i y σ H' hi ⟨j1,rfl,s',hF⟩;have hil:i<us.length:=(aK.mp hi).1;have hg:L[i]?=some L[i]:=aU (by lia);generalize L[i]=c at hg;have hcm:xA c (gD s.t):=(od.one c).mp (aZ hg);have dc:=(dL.2 i c y hg hi).mono (dW s');obtain⟨p,ks,rfl,ok,hp,dk⟩:=dc.open;have h0:nC (c.hd++ks) 0=some (.str c.kind):=by cases c<;>exact gF
  refine⟨eD.of hp,h0,rfl,_,rfl,?_⟩;by_cases hk:c.kind="stamp"
  ·refine fI (by rw[hk];decide) ?_;exact k1 _ (s1.trans s') (.inl (jB _ _ hcm hk))
  ·refine eU (nk hk) ⟨_,rfl,s',λx hx=>?_⟩;rw[ay,hg]at hx;rcases aQ.mp hx with z|z
   ·exact hF x z
   ·have:x=c:=by simpa using z
    exact this▸hk
 ·rintro σ H2 ⟨j1,rfl,s2,hF⟩;have hns:¬oG s.t:=λz=>by obtain⟨x,i1,i2⟩:=jA _ z;refine hF x ?_ i2;rw[hlen,a6];exact(od.one x).mpr i1
  have s12:=s1.trans s2;refine⟨eD.of (s12 _ _ hq),gF,s.t,x,rfl,hx.mono (dW s12),hz1,hz2,λl' ws H3 s3 n3 h3 up3 m3=>⟨eL.of h3,?_⟩⟩;have s13:=s12.trans s3;refine gZ (K:=K) (a:=l') (xs:=ws.map V.str) (λi σ H'=>∃j2,σ=[some (.ref q),j1,j2]/\dq H3 H'/\∀w∈ws.take i,∀m,s.e.look w=some m->¬m.isH) ⟨none,rfl,dq.refl _,by simp⟩ (λi σ H' _ hP=>?_) ?_ ?_
  ·obtain⟨_,_,s,_⟩:=hP;exact eL.of (s _ _ h3)
  ·rintro i y σ H' hi ⟨j2,rfl,s',hF2⟩;obtain⟨w,hw,rfl⟩:∃x,ws[i]?=some x/\y=V.str x:=by
    rw[aT]at hi;cases e:ws[i]? with
    | none=>rw[e]at hi;cases hi
    | some z=>rw[e]at hi;exact⟨z,rfl,(Option.some.inj hi).symm⟩
   have s0':=s13.trans s';have hq':=s0' _ _ hq;have hd':=s0' _ _ hd;have dg:=iR.k (k:=.inr w) hd';have ho:s.t.out w:=(m3 w).mp (aZ hw);have nx:(∀m,s.e.look w=some m->¬m.isH)->∃j2,([some (.ref q),j1,some (.str w)]:St)=[some (.ref q),j1,j2]/\dq H3 H'/\∀w∈ws.take (i+1),∀m,s.e.look w=some m->¬m.isH:=λhm=>⟨_,rfl,s',λv hv=>by
    rw[ay,hw]at hv;rcases aQ.mp hv with z|z
    ·exact hF2 v z
    ·have:v=w:=by simpa using z
     exact this▸hm⟩
   refine⟨eD.of hq',rL,dg,_,rfl,?_⟩;rcases sy w (he.mono (Kp.same s0'))with⟨e1,e2⟩|⟨m,v,e1,e2,mm⟩
   ·rw[e2];refine eU rfl (eU rfl (nx λm z=>by rw[e1]at z;cases z))
   ·rw[e2]at dg⊢;refine fI rfl ?_;cases m with
    | called v=>obtain⟨p,rfl,hp⟩:=mm;refine⟨eD.of hq',rL,dg,eD.of hp,gF,rfl,_,rfl,eU (by decide) (nx λm z=>?_)⟩;rw[e1]at z;cases z;exact id
    | ready n z=>obtain⟨p,rfl,hp⟩:=mm;refine⟨eD.of hq',rL,dg,eD.of hp,gF,rfl,_,rfl,eU (by decide) (nx λm z=>?_)⟩;rw[e1]at z;cases z;exact id
    | handed t src path e=>obtain⟨p,q2,x2,pp2,d2,kvs2,rfl,hp,_⟩:=mm;refine⟨eD.of hq',rL,dg,eD.of hp,gF,rfl,_,rfl,fI (by decide) ?_⟩;exact k1 _ s0' (.inr ⟨w,_,ho,e1,aI⟩)
  ·rintro σ H4 ⟨j2,rfl,s4,hF2⟩;refine k2 _ (s13.trans s4) ?_;rintro(z|⟨w,m,o,l,i⟩)
   ·exact hns z
   ·refine hF2 w ?_ m l i;rw[aO,a6];exact(m3 w).mpr o
end S9
namespace HT
open PySem PyProof.Rows
section
open PySem.SeqAt
open PySem.MeetsSeq PySem.MeetsSeq2 PySem.MeetsSeq3
variable {prog:Program}{w:World}{A:Around}{E:Value->Shared->Prop}{s:Shared}
theorem vL{t sl:Addr}{eI:Array Value}{vl vu:Value}{lo hi:Option Int}{Q:Value->Shared->Prop}(ht:IsTup s.heap t eI)(hs:s.heap.IsSliceOf sl vl vu .none)(pl:IsPart vl lo)(pu:IsPart vu hi)
  (h1:kG eI.size 0 lo=0) (h2:kG eI.size eI.size hi=eI.size) (h:Q (.ref t) s):wpAny (model prog w) A (getItem (.ref t) (.ref sl)) Q E s:=by
 obtain⟨os,hos,hcs,hds⟩:=id hs;have hTs:s.TypeIs (.ref sl) "slice":=⟨os,hos,hcs⟩;unfold getItem
 try with_reducible refine wpAny_holding ?_
 first|refine wpAny_bind (wpAny_pure ?_)|skip
 refine wpAny_bind (wpAny_sequenceKey ht.typeIs (by decide) ?_);refine wpAny_bind (wpAny_callSpecial?_slot (name:=Str.ofString "__getitem__") ht.typeIs bW
  (wpAny_call_entry bW ht.typeIs entry_tuple_getitem ?_ (args_tuple_getitem _ _)))
 show wpAny _ _ (Builtin.Tuple.tupleItemsOf (.ref t) >>= _) _ _ s;refine wpAny_bind (tupleItemsOf_ ht ?_);refine wpAny_bind (wpAny_typeOf hTs ?_);rw[if_pos (by decide)];refine wpAny_bind (kF hs pl pu ?_);have hno:((((kG eI.size 0 lo:Nat):Int)==0&&(1:Int)==1&&(kG eI.size eI.size hi-kG eI.size 0 lo)==eI.size)=true):=by rw[h1,h2];simp
 show wpAny _ _ (if(((kG eI.size 0 lo:Nat):Int)==0&&(1:Int)==1&&(kG eI.size eI.size hi-kG eI.size 0 lo)==eI.size)=true then _ else _) _ _ s;rw[if_pos hno];refine wpAny_bind (wpAny_bind (m:=typeOf (.ref t)) (wpAny_typeOf ht.typeIs (wpAny_pure ?_)));show wpAny _ _ (if _ then _ else _) _ _ s;rw[if_pos (by decide)];refine wpAny_bind (wpAny_rule ?_)
 first
  | exact wpAny_pure ⟨_,rfl,wpAny_pure h⟩
  | exact wpAny_bind (wpAny_pure (wpAny_pure ⟨_,rfl,wpAny_pure h⟩))
  | exact wpAny_bind (wpAny_pure ⟨_,rfl,wpAny_pure h⟩)
end
end HT
namespace L2
open PySem PySem.Spec PyProof.Rows
def LS(K:aA):V->Option Int->Option Int->Hp->VK->Prop:=λx lo hi H Q=>∃a xs,x=.ref a/\eD K H a xs/\
 HT.kG xs.length 0 lo=0/\HT.kG xs.length xs.length hi=xs.length/\Q (.ref a) H
def B8(K:aA):V->Option Int->Option Int->Hp->VK->Prop:=λx lo hi H Q=>zf K x lo hi H Q∨LS K x lo hi H Q
section
variable {X:Cx}
theorem Bf:Dj X (LS X.K):=by
 intro pins s σ H x v vl vu lo hi sl Q I rx hs pl pu h;obtain⟨a,xs,rfl,hx,h1,h2,q⟩:=h;cases rx;obtain⟨its,r,ht,hz⟩:=I.tuple hx;have hlen:its.toArray.size=xs.length:=by rw[aM];exact r.length.symm
 refine⟨"tuple",_,bW.lookup,ht.typeIs,?_⟩;refine HT.vL ht hs pl pu (by rw[hlen];exact h1) (by rw[hlen];exact h2) ?_;exact⟨.ref a,H,I,rfl,q⟩
theorem Es:Dj X (B8 X.K):=Dj.or pf Bf
end
end L2
namespace S9
open PySem L2 SW
variable {K:aA}{vs:List V}{H:Hp}{Q:VK}{E:XK}{N C D:Addr}
theorem vf(hr:H r=some (.tup [.str "row",.ref hp,.int n,.ref sx]))(hn:n=(h.ar:Int))(hh:H hp=some (.tup h.vs))(hs:H sx=some (.tup [.str src,.ref pp]))(hpp:H pp=some (.tup (ou path))):jL H (.row h src path) (.ref r):=by subst hn;exact⟨r,hp,_,rfl,hr,hh,sx,pp,rfl,hs,hpp⟩
def BX:Sp:=λvs H Q _=>∃(tk:Addr->Prop)(wl rl:Addr)(s:eC)(o u:V)(w:Str)(wus rus:List V)(ws:List Str),vs=[o,u,.ref wl,.ref rl]/\hX tk H s u/\s.t=.name w/\H wl=some (.lst wus)/\H rl=some (.lst rus)/\wl≠rl/\wus.length<=9000000/\rus.length<=9000000/\
 ∀(P:List eC)(rs:List Rw)(H':Hp),Tk ws s P rs ws->G0 tk wl rl wus rus P rs H'->Ex [wl,rl] H H'->Q .non H'
def HK(K:aA)(a_Opening a_FreshWords:Addr):TS:=(eX (iW K "list" eE (dJ 2) (dI (dj (dy K) (dJ 5) (tC (.int 1))) dQ)))
def HJ(K:aA)(a_Opening a_FreshWords:Addr):TS:=(eX (iW K "list" eE (dJ 3) (dI (dJ 5) dQ)))
def HI(K:aA)(a_Opening a_FreshWords:Addr):TS:=(eX (iW K "list" eE (dJ 3) (dI (eN oJ [] E0 (dI (dJ 1) (dI (ef (dI (tC (.str "name")) (dI (dj (dy K) (dJ 5) (tC (.int 1))) dQ))) (dI (tC (.int 0)) dQ)))) dQ)))
def HH(K:aA)(a_Opening a_FreshWords:Addr):TS:=(fE (dz (dj ic (dj (dy K) (dJ 5) (tC (.int 0))) (tC (.str "ready")))) (HJ K a_Opening a_FreshWords) (HI K a_Opening a_FreshWords))
def Ah(K:aA)(a_Opening a_FreshWords:Addr):TS:=(fE (dz (dj ic (dj (dy K) (dJ 5) (tC (.int 0))) (tC (.str "handed")))) (HK K a_Opening a_FreshWords) (HH K a_Opening a_FreshWords))
def Ng(K:aA)(a_Opening a_FreshWords:Addr):TS:=(dZ (eB (dj (dy K) (dj (dy K) (dJ 1) (tC (.int 0))) (tC (.int 1))) (dR 4)) (dZ (eB (vZ (dj (dy K) (dJ 1) (tC (.int 3))) (dJ 4) (ef (dI (tC (.str "called")) (dI (dJ 4) dQ)))) (dR 5)) (Ah K a_Opening a_FreshWords)))
theorem Pk(h:BX vs H Q E):Ng K C D (fk Q) (start ["self","spot","waiting","rows","word","meaning"] vs) H:=by
 obtain⟨tk,wl,rl,s,o,u,w,wus,rus,ws,rfl,⟨q,x,pp,d,kvs,rfl,hq,hx,hpp,nd,hd,he⟩,ht,hw,hr,hne,z1,z2,k⟩:=h;rw[ht]at hx;obtain⟨p,rfl,hp⟩:=hx;refine⟨eD.of hq,gF,eD.of hp,iM,?_⟩;refine⟨eD.of hq,rL,.inl ⟨kvs,.inl hd⟩,fL,eY λz H1 hz s1 g1=>?_⟩;refine⟨_,iR.k (k:=.inr w) (s1 _ _ hd),?_⟩;have hr1:=s1 _ _ hr;have hw1:=s1 _ _ hw;have called:∀(mp:Addr)(v:Str),H1 mp=some (.tup [.str "called",.str v])->Tk ws s [] [.row (.name v) s.src s.path] ws->Ah K C D (fk Q) [some o,some (.ref q),some (.ref wl),some (.ref rl),some (.str w),some (.ref mp)] H1:=by intro mp v hm tkk;refine⟨eD.of hm,gF,rfl,_,rfl,eU (by decide) ?_⟩;refine⟨eD.of hm,gF,rfl,_,rfl,eU (by decide) ?_⟩;refine⟨.inl ⟨rfl,_,eL.of hr1⟩,eD.of hm,iM,fL,eY λhh H2 hhh s2 g2=>?_⟩;have s12:=s1.trans s2;refine⟨q,q,_,s.src,_,_,.ref hh,0,rfl,s12 _ _ hq,λr sx H3 s3 g3 g4=>?_⟩;have s13:=s12.trans s3;have hr3:=s13 _ _ hr;refine⟨hr3,by rw[sizeLine_eq];lia,?_⟩;have t4:fF H3 (upd H3 rl (.lst (rus++[.ref r]))):=fA hr3;refine k [] _ _ tkk ⟨⟨[],by rw[dY hne,aX];exact s13 _ _ hw,.nil⟩,[.ref r],dP,.one ?_⟩ ((Ex.same s13).trans (Ex.upd (by simp)));exact vf (t4 _ _ g4) rfl (t4 _ _ (s3 _ _ g2)) (t4 _ _ g3) (t4 _ _ (s13 _ _ hpp))
 rcases sy w he with⟨e1,e2⟩|⟨m,v,e1,e2,mm⟩
 ·rw[e2];exact called z w g1 (.free ht e1)
 ·rw[e2];have mm:=mm.mono (Kp.same s1);cases m with
  | called v=>obtain⟨p,rfl,hp⟩:=mm;exact called p v hp (.called ht e1)
  | ready n zz=>obtain⟨mp,rfl,hm⟩:=mm;refine⟨eD.of hm,gF,rfl,_,rfl,eU (by decide) ?_⟩;refine⟨eD.of hm,gF,rfl,_,rfl,fI (by decide) ?_⟩;refine⟨.inl ⟨rfl,_,eL.of hr1⟩,hr1,by rw[sizeLine_eq];lia,?_⟩;have t4:fF H1 (upd H1 rl (.lst (rus++[.ref mp]))):=fA hr1;exact k [] _ _ (.ready ht e1) ⟨⟨[],by rw[dY hne,aX];exact hw1,.nil⟩,[.ref mp],dP,.one ⟨mp,rfl,t4 _ _ hm⟩⟩ ((Ex.same s1).trans (Ex.upd (by simp)))
  | handed t src path e=>obtain⟨mp,q2,x2,pp2,d2,kvs2,rfl,hm,hq2,hx2,hpp2,nd2,hd2,he2⟩:=mm;refine⟨eD.of hm,gF,rfl,_,rfl,fI (by decide) ?_⟩;refine⟨.inl ⟨rfl,_,eL.of hw1⟩,eD.of hm,iM,hw1,by rw[sizeLine_eq];lia,?_⟩;have k4:Kp tk H1 (upd H1 wl (.lst (wus++[.ref q2]))):=Kp.lst hw1;have sp:hX tk H1 ⟨t,src,path,e⟩ (.ref q2):=⟨q2,x2,pp2,d2,kvs2,rfl,hq2,hx2,hpp2,nd2,hd2,he2⟩;exact k _ [] _ (.handed ht e1) ⟨⟨[.ref q2],dP,.one (sp.mono k4)⟩,[],by rw[dY hne.symm,aX];exact hr1,.nil⟩ ((Ex.same s1).trans (Ex.upd (by simp)))
def BW:Sp:=λvs H Q _=>∃(tk:Addr->Prop)(wl rl:Addr)(s:eC)(o u:V)(h:Hd)(wus rus:List V)(ws:List Str),vs=[o,u,.ref wl,.ref rl]/\hX tk H s u/\pl s.t=some h/\s.path.length<=1000/\H wl=some (.lst wus)/\H rl=some (.lst rus)/\wl≠rl/\wus.length<=9000000/\rus.length<=9000000/\
 ∀(P:List eC)(rs:List Rw)(H':Hp),Tk ws s P rs ws->G0 tk wl rl wus rus P rs H'->Ex [wl,rl] H H'->Q .non H'
def HG(K:aA)(a_Opening a_FreshWords:Addr):TS:=(eX (iW K "list" eE (dJ 2) (dI (dJ 6) dQ)))
def Nf(K:aA)(a_Opening a_FreshWords:Addr):TS:=(dZ (eB (dj (dy K) (dJ 1) (tC (.int 0))) (dR 4)) (dZ (eB (eN iY [] E0 (dI (dJ 1) dQ)) (dR 5)) (dZ (eX (iW K "list" eE (dJ 3) (dI (eN oJ [] E0 (dI (dJ 1) (dI (nB (B8 K) (dJ 4) fg (fi (dj ib (gx (ga K) (dI (dJ 4) dQ)) (gx (ga K) (dI (dJ 5) dQ))))) (dI (gx (ga K) (dI (dJ 5) dQ)) dQ)))) dQ))) (iV (Ff K (dJ 5)) (dR 6) (HG K a_Opening a_FreshWords)))))
theorem ut{K:aA}{a:Addr}{xs:List V}{g:TG}{tb:TS}{D:fz}{σ:St}{H:Hp}(Pv:Nat->St->Hp->Prop)(h0:Pv 0 σ H)(hl:∀i σ H,i<=xs.length->Pv i σ H->eL K H a xs)
  (hs:∀i x σ H,i<xs.length->xs[xs.length-1-i]?=some x->Pv i σ H->g x σ H λσ2 H2=>tb {D with nx:=Pv (i+1),ct:=Pv (i+1),bk:=D.nx} σ2 H2) (hd:∀σ H,Pv xs.length σ H->D.nx σ H):
  ∃W:Nat->Nat->St->Hp->Prop,(∃m,W 0 m σ H)/\∀i m σ H,W i m σ H->
   ((nA K a xs.length).stop i H/\D.nx σ H)∨((nA K a xs.length).go i H/\∃N:St->Hp->Prop,(∀σ' H',N σ' H'->∃m',m'<m/\W (i+1) m' σ' H')/\∀x H',(nA K a xs.length).yld i H x H'->g x σ H' λσ2 H2=>tb {D with nx:=N,ct:=N,bk:=D.nx} σ2 H2):=by
 refine⟨λi m σ H=>m=xs.length-i/\i<=xs.length/\Pv i σ H,⟨_,rfl,aS _,h0⟩,?_⟩;rintro i m σ H ⟨rfl,hi,pv⟩;by_cases e:i=xs.length
 ·subst e;exact .inl ⟨rfl,hd _ _ pv⟩
 ·have hlt:i<xs.length:=by lia
  refine .inr ⟨⟨hlt,xs,xs[xs.length-1-i]'(by lia),hl _ _ _ hi pv,rfl,aU _⟩,Pv (i+1),λσ' H' h=>⟨xs.length-(i+1),by lia,rfl,hlt,h⟩,?_⟩;rintro x H' ⟨rfl,hx⟩;exact hs i x σ H' hlt (hx xs (hl _ _ _ hi pv)) pv
theorem MU(e:pl t=some h):SW.hd t=h.vs:=by cases t<;>simp only[pl,Option.some.injEq,reduceCtorEq]at e<;>subst e<;>rfl
theorem Et(hp:H p=some (.tup (xs++ks)))(hz:z=(xs.length:Int))(k:∀r H',dq H H'->H' r=some (.tup xs)->Q (.ref r) H'):B8 K (.ref p) none (some z) H Q:=by
 subst hz;by_cases hk:ks=[]
 ·subst hk;rw[aX]at hp;exact .inr ⟨p,xs,rfl,eD.of hp,rfl,by rw[HT.M9,Nat.min_self],k p H (dq.refl _) hp⟩
 ·refine .inl ⟨eD.of hp,?_,λr hr=>k r _ (dS hr) ?_⟩
  ·rintro⟨_,z⟩;have:0<ks.length:=dF.mpr hk;rw[HT.M9,aE]at z;lia
  ·rw[dP,tF _ _ (by simp),cZ]
theorem Bu{us:List V}{i:Nat}{x:V}(hi:i<us.length)(hx:us[us.length-1-i]?=some x):(us.drop (us.length-(i+1))).reverse=(us.drop (us.length-i)).reverse++[x]:=by
 obtain⟨h1,h2⟩:=aK.mp hx;have e:us.length-(i+1)=us.length-1-i:=by lia
 rw[e,bR h1,h2,aj]
 congr 3
 lia
theorem Pj(h:BW vs H Q E):Nf K C D (fk Q) (start ["self","spot","waiting","rows","piece","inner","part"] vs) H:=by
 obtain⟨tk,wl,rl,s,o,u,h,wus,rus,ws,rfl,sp,hpl,hpath,hw,hr,hne,z1,z2,k⟩:=h;have sp0:=sp;obtain⟨q,x,pp,d,kvs,rfl,hq,hx,hpp,nd,hd,he⟩:=sp;refine⟨eD.of hq,gF,?_⟩;refine⟨tk,s,.ref q,rfl,sp0,hpath,λil us H1 s1 n1 g1 al=>?_⟩;obtain⟨p,ks,rfl,hp,dk⟩:=hx.open;rw[MU hpl]at hp;have hp1:=s1 _ _ hp;have hal:=al.length;rw[kX]at hal;have hkl:=dk.length;have har:=GR hpl;have hk3:=Co s.t;refine⟨.inl ⟨rfl,_,eL.of (s1 _ _ hr)⟩,.inr (eD.of hp1),.inl (eL.of g1),?_⟩;refine Et hp1 (by rw[aE];lia) λhh H2 s2 g2=>?_;have s12:=s1.trans s2;refine⟨.inl (eL.of (s2 _ _ g1)),q,q,_,s.src,_,_,.ref hh,us.length,rfl,s12 _ _ hq,λr sx H3 s3 g3 g4=>?_⟩;have s13:=s12.trans s3;have hr3:=s13 _ _ hr;refine⟨hr3,by rw[sizeLine_eq];lia,?_⟩;have kp4:Kp tk H3 (upd H3 rl (.lst (rus++[.ref r]))):=Kp.lst hr3;have ex4:Ex [wl,rl] H3 (upd H3 rl (.lst (rus++[.ref r]))):=Ex.upd (by simp);have w4:(upd H3 rl (.lst (rus++[.ref r]))) wl=some (.lst wus):=by rw[dY hne];exact s13 _ _ hw
 have r4:(upd H3 rl (.lst (rus++[.ref r]))) rl=some (.lst (rus++[.ref r])):=dP;have nil_:il≠rl:=(dX hr n1).symm;have niw:il≠wl:=(dX hw n1).symm;have i4:(upd H3 rl (.lst (rus++[.ref r]))) il=some (.lst us):=by rw[dY nil_];exact s3 _ _ (s2 _ _ g1)
 generalize upd H3 rl (.lst (rus++[.ref r]))=H4 at kp4 ex4 w4 r4 i4⊢;have rw4:jL H4 (.row h s.src s.path) (.ref r):=vf (kp4.tup _ _ g4) (by lia) (kp4.tup _ _ (s3 _ _ g2)) (kp4.tup _ _ g3) (kp4.tup _ _ (s13 _ _ hpp));have al4:Al (hX tk H4) s.within us:=al.mono λ_ _=>hX.mono ((Kp.same (s2.trans s3)).trans kp4);have ex04:Ex [wl,rl] H H4:=(Ex.same s13).trans ex4;refine⟨eL.of i4,?_⟩;refine ut (K:=K) (a:=il) (xs:=us) (λi σ H'=>∃j6,σ=[some o,some (.ref q),some (.ref wl),some (.ref rl),some (.ref p),some (.ref il),j6]/\Kp tk H4 H'/\Ex [wl,rl] H4 H'/\H' wl=some (.lst (wus++(us.drop (us.length-i)).reverse))/\H' rl=some (.lst (rus++[.ref r]))/\H' il=some (.lst us))
  ⟨none,rfl,.refl,.refl,by simpa using w4,r4,i4⟩ (λi σ H' _ hP=>?_) ?_ ?_
 ·obtain⟨_,_,_,_,_,_,hi⟩:=hP;exact eL.of hi
 ·rintro i y σ H5 hi hy ⟨j6,rfl,kp5,ex5,w5,r5,i5⟩;refine⟨.inl ⟨rfl,_,eL.of w5⟩,w5,?_,?_⟩
  ·rw[aE,bG,ah,sizeLine_eq];lia
  ·refine⟨_,rfl,kp5.trans (Kp.lst w5),ex5.trans (Ex.upd (by simp)),?_,by rw[dY hne.symm];exact r5,by rw[dY niw];exact i5⟩;rw[dP,Bu hi hy,aW]
 ·rintro σ H5 ⟨j6,rfl,kp5,ex5,w5,r5,i5⟩;rw[bB,af]at w5;exact k _ _ _ (.plain hpl) ⟨⟨us.reverse,w5,(al4.mono λ_ _=>hX.mono kp5).reverse⟩,[.ref r],r5,.one (rw4.mono kp5.tup)⟩ (ex04.trans ex5)
inductive Gr(C D:Addr)(H:Hp)(Q:VK):List V->Prop where
 | mk(A:Ad)(bo:Bo)(F k:Nat)(N:Addr->Prop)(ws:List Str)(rd:List (List Rw))(wl rl:Addr)(s:eC)(u:V)(w:Str)(a b:T)(wus rus:List V)(P:Nat->Nat->Prop)(f0:fV C D A bo F N k ws rd H)(f1:hX (Nk A.tk) H s u)(f2:s.t=.lt w a b)(f3:s.ok P)(f4:ws.length<=8000000)(f5:H wl=some (.lst wus))(f6:H rl=some (.lst rus))(f7:wl≠rl)(f8:wl≠A.yl)(f9:rl≠A.yl)(f10:(∀a,N a->a≠wl))(f11:(∀a,N a->a≠rl))(f12:wus.length<=9000000)(f13:rus.length<=9000000)(f14:∀(P:List eC)(rs:List Rw)(ws':List Str)(H':Hp),Tk ws s P rs ws'->fV C D A bo F N k ws' rd H'->G0 (Nk A.tk) wl rl wus rus P rs H'->Ex [wl,rl,A.lp,A.tk] H H'->Q .non H'):Gr C D H Q [.ref A.op,u,.ref wl,.ref rl]
def BY(C D:Addr):Sp:=λvs H Q _=>Gr C D H Q vs
def Nh(K:aA)(a_Opening a_FreshWords:Addr):TS:=(dZ (eB (dj (dy K) (dj (dy K) (dJ 1) (tC (.int 0))) (tC (.int 1))) (dR 4)) (dZ (eB (ji a_FreshWords "fresh" (oh a_FreshWords) [] E0 (kB K (dJ 0) "lets") (dI (dJ 4) dQ)) (dR 5)) (dZ (eB (eN iY [] E0 (dI (dJ 1) dQ)) (dR 6)) (dZ (eB (dj (fu K) (dJ 6) (tC (.int 1))) (dR 7)) (dZ (eX (iW K "list" eE (dJ 3) (dI (eN oJ [] E0 (dI (dJ 1) (dI (ef (dI (tC (.str "let")) (dI (dJ 5) dQ))) (dI (tC (.int 2)) dQ)))) dQ))) (dZ (eX (iW K "list" eE (dJ 2) (dI (ef (dI (dj (dy K) (dJ 7) (tC (.int 0))) (dI (dj (dy K) (dJ 7) (tC (.int 1))) (dI (dj (dy K) (dJ 7) (tC (.int 2))) (dI (eN gz [] E0 (dI (dj (dy K) (dJ 1) (tC (.int 3))) (dI (dJ 4) (dI (ef (dI (tC (.str "called")) (dI (dJ 5) dQ))) dQ)))) dQ))))) dQ))) (eX (iW K "list" eE (dJ 2) (dI (dj (fu K) (dJ 6) (tC (.int 0))) dQ)))))))))
end S9
namespace S9
open PySem L2 SW
variable {K:aA}{vs:List V}{H:Hp}{Q:VK}{E:XK}{C D:Addr}
theorem K2{d:Addr}{n:Nat}{m:Str}(e1:(m=="taken")=false:=by decide)(e2:(m=="tried")=false:=by decide):(wf d n).lookup m=none:=by simp only[wf,List.lookup,e1,e2]
theorem fV.kpW(O:fV C D A bo F N k ws rd H)(e:Ex [A.lp,A.tk] H H'):Kp (Nk A.tk) H H':=by
 obtain⟨n,f,_⟩:=O.fw;refine O.kp e (λa ha=>?_);rcases aB.mp ha with rfl|ha
 ·exact .inr (.inr ⟨_,_,_,f.ob⟩)
 ·exact .inl (aF.mp ha)
theorem DQ(e:Dp p d H H'):Ex [p,d] H H':=λb o nb z=>e b o (λq=>nb (by simp[q])) (λq=>nb (by simp[q])) z
theorem Pl(ro:RO K C)(h:BY C D vs H Q E):Nh K C D (fk Q) (start ["self","spot","waiting","rows","own","word","inner","other"] vs) H:=by
 obtain⟨A,bo,F,k,N,ws,rd,wl,rl,s,u,w,a,b,wus,rus,P,O,sp,ht,ok,hws,hw,hr,hne,ny,nz,nw,nr,z1,z2,kk⟩:=h;have sp0:=sp;obtain⟨q,x,pp,d,kvs,rfl,hq,hx,hpp,nd,hd,he⟩:=sp;rw[ht]at hx;obtain⟨p,x1,x2,rfl,hp,d1,d2⟩:=hx;refine⟨eD.of hq,gF,eD.of hp,iM,?_⟩;obtain⟨n,fw,cn⟩:=O.fw;have wt:WT SF s.t:=ok.1.1;rw[ht]at wt;refine⟨O.ob,ro.cl,ro.nL,FR,fw.ob,K2,A.lp,A.lx,A.tk,n,ws,w,rfl,fw,wt.1,hws,cn,λy n' H1 wy hy hyw hn ap fw1=>?_⟩;have O1:=O.word ap fw1 (by rw[aE];exact hn);have kp1:=O.kpW (DQ ap);have ex1:Ex [wl,rl,A.lp,A.tk] H H1:=(DQ ap).more (by simp);have hw1:H1 wl=some (.lst wus):=ap _ _ (fM hw fw.ob (by intro z;cases z)) (fM hw fw.dk (by intro z;cases z)) hw;have hr1:H1 rl=some (.lst rus):=ap _ _ (fM hr fw.ob (by intro z;cases z)) (fM hr fw.dk (by intro z;cases z)) hr;have sp1:=sp0.mono kp1;have hq1:=kp1.tup _ _ hq;have hpp1:=kp1.tup _ _ hpp;have hd1:=kp1.dct _ _ nd hd;have he1:=he.mono kp1;have htk1:=fw1.dk;refine⟨Nk A.tk,s,.ref q,rfl,sp1,by have:=ok.1.2.1;lia,λil us H2 s2 n2 g2 al=>?_⟩;have ew:s.within=[s.kid 0 a,s.kid 1 b]:=by unfold eC.within;rw[ht];rfl
 rw[ew]at al;cases al with|cons sa al=>cases al with|cons sb al=>cases al with|nil=>
 rename_i ua ub;obtain⟨q1,y1,pp1,dd1,kvs1,rfl,hq3,hy1,hpp3,_⟩:=sb;have hq3:H2 q1=some (.tup [y1,.str s.src,.ref pp1,.ref dd1]):=hq3;have hy1:fc H2 b y1:=hy1;have hpp3:H2 pp1=some (.tup (ou (s.path++[1]))):=hpp3;refine⟨eL.of g2,iM,?_⟩;refine⟨.inl ⟨rfl,_,eL.of (s2 _ _ hr1)⟩,fL,eY λhh H3 hhh s3 g3=>?_⟩;have s13:=s2.trans s3;refine⟨q,q,_,s.src,_,_,.ref hh,2,rfl,s13 _ _ hq1,λr sx H4 s4 g4 g5=>?_⟩;have s14:=s13.trans s4;have hr4:=s14 _ _ hr1;refine⟨hr4,by rw[sizeLine_eq];lia,?_⟩;have nir:il≠rl:=(dX hr1 n2).symm;have niw:il≠wl:=(dX hw1 n2).symm;have O5:=(O1.same s14).lst (o:=.lst (rus++[.ref r])) hr4 nz nr;have kp5:Kp (Nk A.tk) H4 (upd H4 rl (.lst (rus++[.ref r]))):=Kp.lst hr4;have ex5:Ex [wl,rl,A.lp,A.tk] H4 (upd H4 rl (.lst (rus++[.ref r]))):=Ex.upd (by simp);have w5:(upd H4 rl (.lst (rus++[.ref r]))) wl=some (.lst wus):=by rw[dY hne];exact s14 _ _ hw1
 have r5:(upd H4 rl (.lst (rus++[.ref r]))) rl=some (.lst (rus++[.ref r])):=dP;have i5:(upd H4 rl (.lst (rus++[.ref r]))) il=some (.lst [ua,.ref q1]):=by rw[dY nir];exact s4 _ _ (s3 _ _ g2)
 have t5:(upd H4 rl (.lst (rus++[.ref r]))) A.tk=some (.dK (iX (ws++[y]))):=by rw[dY (fM (s14 _ _ htk1) hr4 (by intro z;cases z))];exact s14 _ _ htk1
 generalize upd H4 rl (.lst (rus++[.ref r]))=H5 at O5 kp5 ex5 w5 r5 i5 t5⊢;have kp15:Kp (Nk A.tk) H1 H5:=(Kp.same s14).trans kp5;have kp25:Kp (Nk A.tk) H2 H5:=(Kp.same (s3.trans s4)).trans kp5;have rw5:jL H5 (.row (.lt y) s.src s.path) (.ref r):=vf (kp5.tup _ _ g5) rfl (kp5.tup _ _ (s4 _ _ g3)) (kp5.tup _ _ g4) (kp15.tup _ _ hpp1);have sa5:=sa.mono kp25;have hq5:=kp15.tup _ _ hq1;have hq35:=kp25.tup _ _ hq3;have hy5:=hy1.mono kp25.tup;have hpp5:=kp25.tup _ _ hpp3;have hd5:=kp15.dct _ _ nd hd1;have he5:=he1.mono kp15;have ex05:Ex [wl,rl,A.lp,A.tk] H H5:=ex1.trans ((Ex.same s14).trans ex5);refine⟨.inl ⟨rfl,_,eL.of w5⟩,eD.of hq35,gF,eD.of hq35,iM,eD.of hq35,tY,eD.of hq5,rL,fL,eY λcc H6 hcc s6 g6=>?_⟩;refine⟨d,w,.ref cc,kvs,rfl,s6 _ _ hd5,by rw[wj he];have:=ok.1.2.2.1;lia,λdn H7 nn s7 gd=>⟨fL,λsp2 hsp2=>?_⟩⟩;have s8:=dS (o:=.tup [y1,.str s.src,.ref pp1,.ref dn]) hsp2;have g8:(upd H7 sp2 (.tup [y1,.str s.src,.ref pp1,.ref dn])) sp2=some (.tup [y1,.str s.src,.ref pp1,.ref dn]):=dP;have s58:=s6.trans (s7.trans s8);have dnt:dn≠A.tk:=(dX (s6 _ _ t5) nn).symm;have spb:hX (Nk A.tk) (upd H7 sp2 (.tup [y1,.str s.src,.ref pp1,.ref dn])) ⟨b,s.src,s.path++[1],s.e.put w (.called y)⟩ (.ref sp2):=by refine⟨sp2,y1,pp1,dn,_,rfl,g8,hy5.mono (dW s58),s58 _ _ hpp5,dnt,s8 _ _ gd,?_⟩;exact(we (n:=.called y) ⟨cc,rfl,s7 _ _ g6⟩ (GU ok.2) (he5.mono (Kp.same (s6.trans s7)))).mono (Kp.same s8)
 generalize upd H7 sp2 (.tup [y1,.str s.src,.ref pp1,.ref dn])=H8 at s8 g8 s58 spb⊢;have w8:=s58 _ _ w5;refine⟨w8,by rw[sizeLine_eq];lia,?_⟩;have O9:=(O5.same s58).lst (o:=.lst (wus++[.ref sp2])) w8 ny nw;have kp9:Kp (Nk A.tk) H8 (upd H8 wl (.lst (wus++[.ref sp2]))):=Kp.lst w8;have ex9:Ex [wl,rl,A.lp,A.tk] H8 (upd H8 wl (.lst (wus++[.ref sp2]))):=Ex.upd (by simp);have w9:(upd H8 wl (.lst (wus++[.ref sp2]))) wl=some (.lst (wus++[.ref sp2])):=dP;have r9:(upd H8 wl (.lst (wus++[.ref sp2]))) rl=some (.lst (rus++[.ref r])):=by rw[dY hne.symm];exact s58 _ _ r5
 have i9:(upd H8 wl (.lst (wus++[.ref sp2]))) il=some (.lst [ua,.ref q1]):=by rw[dY niw];exact s58 _ _ i5
 generalize upd H8 wl (.lst (wus++[.ref sp2]))=H9 at O9 kp9 ex9 w9 r9 i9⊢;have kp59:Kp (Nk A.tk) H5 H9:=(Kp.same s58).trans kp9;refine⟨.inl ⟨rfl,_,eL.of w9⟩,eL.of i9,gF,w9,by rw[aE,a5,sizeLine_eq];lia,?_⟩;have kp10:Kp (Nk A.tk) H9 (upd H9 wl (.lst (wus++[.ref sp2]++[ua]))):=Kp.lst w9;refine kk _ _ _ _ (.lt ht wy hy hyw) (O9.lst w9 ny nw) ⟨⟨[.ref sp2,ua],by rw[dP,aW];rfl,.cons (spb.mono (kp9.trans kp10)) (.one (sa5.mono (kp59.trans kp10)))⟩,[.ref r],by rw[dY hne.symm];exact r9,.one (rw5.mono (kp59.trans kp10).tup)⟩ (ex05.trans ((Ex.same s58).trans (ex9.trans (Ex.upd (by simp)))))
def Bc:Sp:=λvs _ _ _=>vs.length=2/\False
structure Mq(C D:Addr)(A:Ad)(bo:Bo)(F:Nat)(N:Addr->Prop)(k:Nat)(ws:List Str)(rd:List (List Rw))(wl rl:Addr)(wus rus:List V)(s:eC)(u:V)(P:Nat->Nat->Prop)(H:Hp):Prop where
 O:fV C D A bo F N k ws rd H
 sp:hX (Nk A.tk) H s u
 ok:s.ok P
 zs:ws.length<=8000000
 w:H wl=some (.lst wus)
 r:H rl=some (.lst rus)
 ne:wl≠rl
 ny:wl≠A.yl
 nz:rl≠A.yl
 nw:∀a,N a->a≠wl
 nr:∀a,N a->a≠rl
 z1:wus.length<=9000000
 z2:rus.length<=9000000
section
variable {A:Ad}{bo:Bo}{F k:Nat}{N:Addr->Prop}{ws:List Str}{rd:List (List Rw)}{wl rl:Addr}{wus rus:List V}{s:eC}{u:V}{P:Nat->Nat->Prop}{H':Hp}
theorem Mq.two(B:Mq C D A bo F N k ws rd wl rl wus rus s u P H)(ex:Ex [wl,rl] H H'):fV C D A bo F N k ws rd H':=by
 have kp:Kp (Nk A.tk) H H':=B.O.kp ex (λa ha=>by
  rcases aB.mp ha with rfl|ha
  ·exact .inr (.inl ⟨_,B.w⟩)
  ·rw[aF.mp ha];exact .inr (.inl ⟨_,B.r⟩))
 obtain⟨n,f,_⟩:=B.O.fw;have two:∀a o,H a=some o->(∀xs,o≠.lst xs)->a∉[wl,rl]:=λa o h n q=>by
  rcases aB.mp q with rfl|q
  ·rw[B.w]at h;exact n _ (Option.some.inj h).symm
  ·rw[aF.mp q,B.r]at h;exact n _ (Option.some.inj h).symm
 refine B.O.ex ex (two _ _ B.O.ob (by intro xs z;cases z)) (two _ _ f.ob (by intro xs z;cases z)) (two _ _ f.dk (by intro xs z;cases z)) (two _ _ B.O.sd (by intro xs z;cases z)) (λq=>?_) kp.tup (λa z q=>?_)
 ·rcases aB.mp q with q|q
  ·exact B.ny q.symm
  ·exact B.nz (aF.mp q).symm
 ·rcases aB.mp q with q|q
  ·exact B.nw a z q
  ·exact B.nr a z (aF.mp q)
end
inductive DV(C D:Addr)(H:Hp)(Q:VK):List V->Prop where
 | mk(A:Ad)(bo:Bo)(F k:Nat)(N:Addr->Prop)(ws:List Str)(rd:List (List Rw))(wl rl:Addr)(wus rus:List V)(s:eC)(u:V)(P:Nat->Nat->Prop)(f0:Mq C D A bo F N k ws rd wl rl wus rus s u P H)(f1:¬Op s)(f2:∀(P:List eC)(rs:List Rw)(ws':List Str)(H':Hp),Tk ws s P rs ws'->fV C D A bo F N k ws' rd H'->G0 (Nk A.tk) wl rl wus rus P rs H'->Ex [wl,rl,A.lp,A.tk] H H'->Q .non H'):DV C D H Q [.ref A.op,u,.ref wl,.ref rl]
def xj(C D:Addr):Sp:=λvs H Q _=>DV C D H Q vs
def HR(K:aA)(a_Opening a_FreshWords:Addr):TS:=(dZ (oo K (dJ 0) (tC (.int 1)) E5 "many") (eX (iW K "list" eE (dJ 2) (dI (ji a_Opening "body_of" Bc [] E0 (dJ 0) (dI (dJ 1) dQ)) dQ))))
def HQ(K:aA)(a_Opening a_FreshWords:Addr):TS:=(eX (ji a_Opening "take_name" BX [] E0 (dJ 0) (dI (dJ 1) (dI (dJ 2) (dI (dJ 3) dQ)))))
def HP(K:aA)(a_Opening a_FreshWords:Addr):TS:=(eX (ji a_Opening "take_let" (BY a_Opening a_FreshWords) [] E0 (dJ 0) (dI (dJ 1) (dI (dJ 2) (dI (dJ 3) dQ)))))
def HN(K:aA)(a_Opening a_FreshWords:Addr):TS:=(eX (ji a_Opening "take_plain" BW [] E0 (dJ 0) (dI (dJ 1) (dI (dJ 2) (dI (dJ 3) dQ)))))
def HM(K:aA)(a_Opening a_FreshWords:Addr):TS:=(fE (dz (dj ic (dJ 4) (tC (.str "let")))) (HP K a_Opening a_FreshWords) (HN K a_Opening a_FreshWords))
def rR(K:aA)(a_Opening a_FreshWords:Addr):TS:=(fE (dz (dj ic (dJ 4) (tC (.str "name")))) (HQ K a_Opening a_FreshWords) (HM K a_Opening a_FreshWords))
def HL(K:aA)(a_Opening a_FreshWords:Addr):TS:=(fE (dz (dj ic (dJ 4) (tC (.str "stamp")))) (HR K a_Opening a_FreshWords) (rR K a_Opening a_FreshWords))
def Ni(K:aA)(a_Opening a_FreshWords:Addr):TS:=(dZ (eB (dj (dy K) (dj (dy K) (dJ 1) (tC (.int 0))) (tC (.int 0))) (dR 4)) (HL K a_Opening a_FreshWords))
theorem Gc(t:T)(ks:List V):nC (SW.hd t++ks) 0=some (.str (kind t)):=by cases t<;>exact gF
theorem Bv(B:Mq C D A bo F N k ws rd wl rl wus rus s u P H)(hk:kind s.t≠"stamp")
  (kk:∀(P:List eC)(rs:List Rw)(ws':List Str)(H':Hp),Tk ws s P rs ws'->fV C D A bo F N k ws' rd H'->G0 (Nk A.tk) wl rl wus rus P rs H'->Ex [wl,rl,A.lp,A.tk] H H'->Q .non H'):
  rR K C D (fk Q) [some (.ref A.op),some u,some (.ref wl),some (.ref rl),some (.str (kind s.t))] H:=by
 have path:s.path.length<=1000:=by have:=B.ok.1.2.1;lia
 have plain:∀h,pl s.t=some h->kind s.t≠"name"->kind s.t≠"let"->rR K C D (fk Q) [some (.ref A.op),some u,some (.ref wl),some (.ref rl),some (.str (kind s.t))] H:=λh hp n1 n2=>by refine⟨rfl,_,rfl,eU (nk n1) ⟨rfl,_,rfl,eU (nk n2) ?_⟩⟩;refine⟨B.O.ob,me,Nk A.tk,wl,rl,s,_,_,h,wus,rus,ws,rfl,B.sp,hp,path,B.w,B.r,B.ne,B.z1,B.z2,λP rs H' tk' aft ex=>?_⟩;exact kk P rs ws H' tk' (B.two ex) aft (ex.more (by simp))
 cases e:s.t with
 | num n=>rw[<-e];exact plain _ (by rw[e];rfl) (by rw[e];simp only[kind];decide) (by rw[e];simp only[kind];decide)
 | sum a b=>rw[<-e];exact plain _ (by rw[e];rfl) (by rw[e];simp only[kind];decide) (by rw[e];simp only[kind];decide)
 | less a b=>rw[<-e];exact plain _ (by rw[e];rfl) (by rw[e];simp only[kind];decide) (by rw[e];simp only[kind];decide)
 | cho a b c=>rw[<-e];exact plain _ (by rw[e];rfl) (by rw[e];simp only[kind];decide) (by rw[e];simp only[kind];decide)
 | name w=>refine⟨rfl,_,rfl,fI (decide_eq_true rfl) ?_⟩;refine⟨B.O.ob,me,Nk A.tk,wl,rl,s,_,_,w,wus,rus,ws,rfl,B.sp,e,B.w,B.r,B.ne,B.z1,B.z2,λP rs H' tk' aft ex=>?_⟩;exact kk P rs ws H' tk' (B.two ex) aft (ex.more (by simp))
 | lt w a b=>refine⟨rfl,_,rfl,eU (nk (show("let":Str)≠"name" by decide)) ⟨rfl,_,rfl,fI (decide_eq_true rfl) ?_⟩⟩;exact⟨B.O.ob,me,A,bo,F,k,N,ws,rd,wl,rl,s,_,w,a,b,wus,rus,P,B.O,B.sp,e,B.ok,B.zs,B.w,B.r,B.ne,B.ny,B.nz,B.nw,B.nr,B.z1,B.z2,kk⟩
 | st0 w=>rw[e]at hk;exact absurd rfl hk
 | st1 w a=>rw[e]at hk;exact absurd rfl hk
 | st2 w a b=>rw[e]at hk;exact absurd rfl hk
theorem Ck(h:¬oG t):kind t≠"stamp":=by cases t<;>simp only[kind]<;>first|decide|exact absurd aI h
theorem OI(h:xj C D vs H Q E):Ni K C D (fk Q) (start ["self","spot","waiting","rows","kind"] vs) H:=by obtain⟨A,bo,F,k,N,ws,rd,wl,rl,wus,rus,s,u,P,B,no,kk⟩:=h;obtain⟨q,x,pp,d,kvs,rfl,hq,hx,hpp,nd,hd,he⟩:=id B.sp;obtain⟨p,ks,rfl,hp,dk⟩:=hx.open;refine⟨eD.of hq,gF,eD.of hp,Gc s.t ks,?_⟩;have hk:kind s.t≠"stamp":=Ck λz=>no (.inl z);exact⟨rfl,_,rfl,eU (nk hk) (Bv B hk kk)⟩
inductive vF(C D:Addr)(H:Hp)(Q:VK):List V->Prop where
 | mk(A:Ad)(bo:Bo)(F k:Nat)(N:Addr->Prop)(ws:List Str)(rd:List (List Rw))(s:eC)(u:V)(P:Nat->Nat->Prop)(f0:fV C D A bo F N k ws rd H)(f1:yo A N H)(f2:hX (Nk A.tk) H s u)(f3:s.ok P)(f4:¬Op s)(f5:s.wt 0<=4000000)(f6:ws.length<=4000000)(f7:(k<=F->∀(R:List Rw)(ws':List Str)(l:Addr)(rus:List V)(H':Hp),yn [s] [] ws R ws'->H l=none->H' l=some (.lst rus)->Al (jL H') R rus->fV C D A bo F N k ws' rd H'->Ex [A.lp,A.tk] H H'->Q (.ref l) H'))(f8:(¬k<=F->∀(l:Addr)(H':Hp),dq H H'->H l=none->H' l=some (.lst [])->Q (.ref l) H')):vF C D H Q [.ref A.op,u]
def og(C D:Addr):Sp:=λvs H Q _=>vF C D H Q vs
def Aj(K:aA)(a_Opening a_FreshWords:Addr):TS:=(eX (ji a_Opening "take" (xj a_Opening a_FreshWords) [] E0 (dJ 0) (dI (jG K "list" jH (dJ 3)) (dI (dJ 3) (dI (dJ 2) dQ)))))
def HZ(K:aA)(a_Opening a_FreshWords:Addr):TS:=(dZ (eB (fG dQ) (dR 2)) (dZ (eB (fG (dI (dJ 1) dQ)) (dR 3)) (dZ (gi (lq (dz (dj nK (gx (ga K) (dI (dJ 3) dQ)) (tC (.int 0)))) (dz (dj E3 (kB K (dJ 0) "many") (kB K (dJ 0) "fuel")))) (Aj K a_Opening a_FreshWords)) (fD (dJ 2)))))
structure PH(C D:Addr)(A:Ad)(bo:Bo)(F:Nat)(N:Addr->Prop)(k:Nat)(ws:List Str)(rd:List (List Rw))(wl rl:Addr)(s:eC)(P:Nat->Nat->Prop)(H2:Hp)(S:List eC)(R:List Rw)(ws1:List Str)(wus rus:List V)(H':Hp):Prop where
 O:fV C D A bo F N k ws1 rd H'
 w:H' wl=some (.lst wus)
 r:H' rl=some (.lst rus)
 dw:Al (hX (Nk A.tk) H') S wus
 dr:Al (jL H') R rus
 ex:Ex [wl,rl,A.lp,A.tk] H2 H'
 run:∀R' ws',yn S R ws1 R' ws'->yn [s] [] ws R' ws'
 so:∀x∈S,x.ok P/\¬Op x
 ro:∀r∈R,r.ok P
 wt:lP 0 S+kr R=s.wt 0
 zs:ws1.length<=ws.length+R.length
def QU(C D:Addr)(A:Ad)(bo:Bo)(F:Nat)(N:Addr->Prop)(k:Nat)(ws:List Str)(rd:List (List Rw))(wl rl:Addr)(s:eC)(P:Nat->Nat->Prop)(H2:Hp)(u:V)(m:Nat)(σ:St)(H':Hp):Prop:=∃S R ws1 wus rus,σ=[some (.ref A.op),some u,some (.ref rl),some (.ref wl)]/\PH C D A bo F (λa=>N a/\a≠wl/\a≠rl) k ws rd wl rl s P H2 S R ws1 wus rus H'/\m=lP 1 S
theorem LR(ro:RO K C)(h:og C D vs H Q E):HZ K C D (fk Q) (start ["self","spot","rows","waiting"] vs) H:=by
 obtain⟨A,bo,F,k,N,ws,rd,s,u,P,O,no,sp,ok,nop,z1,z2,k1,k2⟩:=h;refine⟨fL,λrl hrl=>⟨fL,λwl hwl=>?_⟩⟩;have s1:dq H (upd H rl (.lst [])):=dS hrl;have s2:=dS (o:=.lst [u]) hwl;have hne:wl≠rl:=(dX (dP (H:=H) (a:=rl) (o:=.lst [])) hwl).symm;have r2:(upd (upd H rl (.lst [])) wl (.lst [u])) rl=some (.lst []):=s2 _ _ dP;have w2:(upd (upd H rl (.lst [])) wl (.lst [u])) wl=some (.lst [u]):=dP;have hwl0:H wl=none:=s1.free hwl;have s12:=s1.trans s2;generalize upd (upd H rl (.lst [])) wl (.lst [u])=H2 at s2 r2 w2 s12⊢;clear s1 s2 hwl;have O2:=O.same s12;by_cases hk:k<=F
 ·have hy:∃us,H A.yl=some (.lst us):=O.yl.imp λ_ z=>z.1;obtain⟨ys,hy⟩:=hy;have O2':fV C D A bo F (λa=>N a/\a≠wl/\a≠rl) k ws rd H2:=(O.weak (N':=λa=>N a/\a≠wl/\a≠rl) λa o h n=>⟨n,dX h hwl0,dX h hrl⟩).same s12;have nyw:wl≠A.yl:=(dX hy hwl0).symm;have nyr:rl≠A.yl:=(dX hy hrl).symm;refine⟨QU C D A bo F N k ws rd wl rl s P H2 u,⟨_,[s],[],ws,[u],[],rfl,?_,rfl⟩,?_⟩
  ·exact⟨O2',w2,r2,.one (sp.mono (Kp.same s12)),.nil,.refl,λ_ _ z=>z,(λx hx=>by rw[aF]at hx;exact hx▸⟨ok,nop⟩),(λr hr=>by cases hr),(by rw[gS,jP];rfl),aC _⟩
  ·rintro m σ H3 ⟨S,R,ws1,wus,rus,rfl,B,rfl⟩;refine⟨.inl (eL.of B.w),_,rfl,?_⟩;by_cases hv:wus=[]
   ·subst hv;refine eU rfl (eU rfl ?_);have e:S=[]:=bF.mp B.dw.length.symm;subst e;have O3:=B.O.weak (N':=N) λa o h n=>n.1;exact(k1 hk R ws1 rl rus H3 (B.run _ _ .nil) hrl B.r B.dr O3 (Ex.new (l':=[wl,rl,A.lp,A.tk]) (λa ha=>by
     simp only[aB,aG,or_false]at ha⊢;rcases ha with rfl|rfl|z|z
     ·exact .inr hwl0
     ·exact .inr hrl
     ·exact .inl (.inl z)
     ·exact .inl (.inr z)) ((Ex.same s12).trans B.ex)))
   ·obtain⟨us,u1,rfl⟩:=gI hv;obtain⟨S',s',rfl,d1,d2⟩:=B.dw.snoc;refine fI (decide_eq_true (by simp)) ?_;refine⟨B.O.ob,ro.cl,ro.nM,lZ,B.O.ob,ro.cl,ro.nF,sT,_,rfl,?_⟩;refine fI (decide_eq_true (by lia)) ?_;refine⟨Lt (QU C D A bo F N k ws rd wl rl s P H2 u) (lP 1 (S'++[s'])),λ_ _ h=>h,?_⟩;refine⟨B.O.ob,me,.inl ⟨rfl,_,eL.of B.w⟩,B.w,iO,?_⟩;rw[gk];have O4:=B.O.lst (o:=.lst us) B.w nyw (λa z=>z.2.1);have kp4:Kp (Nk A.tk) H3 (upd H3 wl (.lst us)):=Kp.lst B.w;have ex4:Ex [wl,rl,A.lp,A.tk] H3 (upd H3 wl (.lst us)):=Ex.upd (by simp);have w4:(upd H3 wl (.lst us)) wl=some (.lst us):=dP;have r4:(upd H3 wl (.lst us)) rl=some (.lst rus):=by rw[dY hne.symm];exact B.r
    generalize upd H3 wl (.lst us)=H4 at O4 kp4 ex4 w4 r4⊢;have os:=B.so s' (aL _ (.head _));have hwt:=B.wt;rw[fe,gS]at hwt;have hl1:=rO (h:=0) (S:=S') λx hx=>(B.so x (ae _ hx)).1;have hl2:=kU B.ro;have hl3:=d1.length;have hl4:=B.dr.length;have hzs:=B.zs;refine⟨A,bo,F,k,_,ws1,rd,wl,rl,us,rus,s',u1,P,⟨O4,d2.mono kp4,os.1,by lia,w4,r4,hne,nyw,nyr,λa z=>z.2.1,λa z=>z.2.2,by lia,by lia⟩,os.2,λPs rs ws' H5 tkk O5 aft ex5=>?_⟩;obtain⟨⟨pus,w5,dp⟩,rvs,r5,dr5⟩:=aft;have kp5:Kp (Nk A.tk) H4 H5:=by
     obtain⟨n,f,_⟩:=O4.fw;refine O4.kp ex5 (λa ha=>?_);simp only[aB,aG,or_false]at ha;rcases ha with rfl|rfl|rfl|z
     ·exact .inr (.inl ⟨_,w4⟩)
     ·exact .inr (.inl ⟨_,r4⟩)
     ·exact .inr (.inr ⟨_,_,_,f.ob⟩)
     ·exact .inl z
    have kp35:=kp4.trans kp5;have h6:=Ag tkk os.1;have h7:=Af tkk os.1;have h8:=K6 tkk os.2;have h9:=GC tkk;have h10:=Ae tkk;refine⟨lP 1 (S'++Ps),by rw[fe,fe,gS];lia,S'++Ps,R++rs,ws',us++pus,rus++rvs,rfl,⟨O5,w5,r5,(d1.mono λ_ _=>hX.mono kp35).append dp,(B.dr.mono λ_ _=>jL.mono kp35.tup).append dr5,B.ex.trans (ex4.trans ex5),λR' ws'' z=>B.run _ _ (.step tkk z),λx hx=>?_,λr hr=>?_,?_,?_⟩,rfl⟩
    ·rcases aQ.mp hx with z|z
     ·exact B.so x (ae _ z)
     ·exact⟨h7.1 x z,h8 x z⟩
    ·rcases aQ.mp hr with z|z
     ·exact B.ro r z
     ·exact h7.2 r z
    ·rw[fe,mE];lia
    ·rw[aE];lia
 ·refine⟨λm σ H'=>H'=H2/\σ=[some (.ref A.op),some u,some (.ref rl),some (.ref wl)],⟨0,rfl,rfl⟩,?_⟩;rintro m σ H3 ⟨rfl,rfl⟩;refine⟨.inl (eL.of w2),_,rfl,fI rfl ?_⟩;refine⟨O2.ob,ro.cl,ro.nM,lZ,O2.ob,ro.cl,ro.nF,sT,_,rfl,eU (decide_eq_false (by lia)) ?_⟩;exact(k2 hk rl _ s12 hrl r2)
section
variable {A:Ad}{bo:Bo}{F k:Nat}{N:Addr->Prop}{ws:List Str}{rd:List (List Rw)}{H':Hp}
theorem fV.add(O:fV C D A bo F N k ws rd H)(hN:∀a,N a->a≠A.yl)(hy:H A.yl=some (.lst us))(nl:N l)(hl:H l=some (.lst rus))(dr:Al (jL H) R rus):
  fV C D A bo F N k ws (rd++[R]) (upd H A.yl (.lst (us++[.ref l]))):=by
 have ht:fF H (upd H A.yl (.lst (us++[.ref l]))):=fA hy;have hL:∀l xs,N l->H l=some (.lst xs)->(upd H A.yl (.lst (us++[.ref l]))) l=some (.lst xs):=λa xs n z=>by rw[dY (hN a n)];exact z
 have hL2:∀a xs,N a->H a=some (.lst xs)->(upd H A.yl (.lst (us++[.ref l]))) a=some (.lst xs):=λa xs n z=>by rw[dY (hN a n)];exact z
 obtain⟨n,f,c⟩:=O.fw;obtain⟨us',y1,y2⟩:=O.yl;rw[hy]at y1;cases y1;refine⟨by rw[dY O.nOY];exact O.ob,⟨n,⟨by rw[dY (fM f.ob hy (by intro z;cases z))];exact f.ob,by rw[dY (fM f.dk hy (by intro z;cases z))];exact f.dk⟩,c⟩,by rw[dY (fM O.sd hy (by intro z;cases z))];exact O.sd,O.st,O.s1.mono (λ_ z=>z) ht hL2,O.s2.mono (λ_ z=>z) ht hL2,O.s3.mono (λ_ z=>z) ht hL2,_,dP,?_⟩;exact(y2.mono λ_ _=>tQ.mono (λ_ z=>z) ht hL2).append (.one ⟨l,rus,rfl,nl,hL2 _ _ nl hl,dr.mono λ_ _=>jL.mono ht⟩)
theorem fV.dct(O:fV C D A bo F N k ws rd H)(h:H d=some (.dK kvs))(nt:d≠A.tk)(ns:d≠A.sd):fV C D A bo F N k ws rd (upd H d o):=by
 obtain⟨n,f,c⟩:=O.fw;obtain⟨us,y1,y2⟩:=O.yl;have ht:fF H (upd H d o):=uA h;have hL:∀a xs,N a->H a=some (.lst xs)->(upd H d o) a=some (.lst xs):=λa xs n z=>by rw[dY (fM z h (by intro z;cases z))];exact z
 exact⟨by rw[dY (fM O.ob h (by intro z;cases z))];exact O.ob,⟨n,⟨by rw[dY (fM f.ob h (by intro z;cases z))];exact f.ob,by rw[dY nt.symm];exact f.dk⟩,c⟩,by rw[dY ns.symm];exact O.sd,O.st,O.s1.mono (λ_ z=>z) ht hL,O.s2.mono (λ_ z=>z) ht hL,O.s3.mono (λ_ z=>z) ht hL,us,by rw[dY (fM y1 h (by intro z;cases z))];exact y1,y2.mono λ_ _=>tQ.mono (λ_ z=>z) ht hL⟩
theorem fV.rdl(O:fV C D A bo F N k ws rd H):∃us,H A.yl=some (.lst us)/\us.length=rd.length:=by obtain⟨us,y1,y2⟩:=O.yl;exact⟨us,y1,y2.length⟩
theorem fV.kp3(O:fV C D A bo F N k ws rd H)(ht:∀d,tk d->d≠A.tk)(e:Ex [A.lp,A.tk,A.yl] H H'):Kp tk H H':=by
 obtain⟨n,f,_⟩:=O.fw;obtain⟨us,y1,y2⟩:=O.yl;have kp:Kp (Nk A.tk) H H':=O.kp e (λa ha=>by
  simp only[aB,aG,or_false]at ha;rcases ha with rfl|rfl|rfl
  ·exact .inr (.inr ⟨_,_,_,f.ob⟩)
  ·exact .inl rfl
  ·exact .inr (.inl ⟨_,y1⟩))
 exact⟨kp.tup,λd kvs n z=>kp.dct d kvs (ht d n) z⟩
end
inductive Gu(C D:Addr)(H:Hp)(Q:VK):List V->Prop where
 | mk(A:Ad)(bo:Bo)(F k:Nat)(N:Addr->Prop)(ws:List Str)(rd:List (List Rw))(s:eC)(u:V)(P:Nat->Nat->Prop)(tk:Addr->Prop)(f0:fV C D A bo F N k ws rd H)(f1:yo A N H)(f2:(∀d,tk d->d≠A.tk))(f3:hX tk H s u)(f4:s.ok P)(f5:s.wt 0<=4000000)(f6:ws.length<=4000000)(f7:rd.length<=4000000)(f8:∀(m:Mg)(v:V)(rd':List (List Rw))(ws':List Str)(H':Hp),m9 (decide (k<=F)) rd ws s m rd' ws'->fV C D A bo F N k ws' rd' H'->oZ tk H' m v->Ex [A.lp,A.tk,A.yl] H H'->Q v H'):Gu C D H Q [.ref A.op,u]
def Ep(C D:Addr):Sp:=λvs H Q _=>Gu C D H Q vs
def IK(K:aA)(a_Opening a_FreshWords:Addr):TS:=(fD (ef (dI (tC (.str "handed")) (dI (dJ 1) dQ))))
def IJ(K:aA)(a_Opening a_FreshWords:Addr):TS:=(fE (tB (eN xl [] E0 (dI (dJ 1) dQ))) (IK K a_Opening a_FreshWords) fC)
def N2(K:aA)(a_Opening a_FreshWords:Addr):TS:=(dZ (IJ K a_Opening a_FreshWords) (dZ (eX (iW K "list" eE (kB K (dJ 0) "ready") (dI (ji a_Opening "rows_of" (og a_Opening a_FreshWords) [] E0 (dJ 0) (dI (dJ 1) dQ)) dQ))) (fD (ef (dI (tC (.str "ready")) (dI (dj ib (gx (ga K) (dI (kB K (dJ 0) "ready") dQ)) (tC (.int 1))) dQ))))))
theorem P4(ro:RO K C)(h:Ep C D vs H Q E):N2 K C D (fk Q) (start ["self","handed"] vs) H:=by
 obtain⟨A,bo,F,k,N,ws,rd,s,u,P,tk,O,no,ht,sp,ok,z1,z2,z3,kk⟩:=h;refine⟨tk,s,u,rfl,sp,ok.1.2.2.2.1,ok.1.2.2.2.2,λH1 s1 op=>⟨_,rfl,fI rfl ?_⟩,λH1 s1 nop=>⟨_,rfl,eU rfl ?_⟩⟩
 ·refine⟨fL,eY λp H2 hp s2 g2=>?_⟩;have s12:=s1.trans s2;obtain⟨q,x,pp,d,kvs,rfl,hq,hx,hpp,nd,hd,he⟩:=sp.mono (Kp.same s12);exact kk _ _ _ _ _ (.handed op) (O.same s12) ⟨p,q,x,pp,d,kvs,rfl,g2,hq,hx,hpp,nd,hd,he⟩ (Ex.same s12)
 ·have O1:=O.same s1;have no1:yo A N H1:=⟨no.y,λa z=>no.f a (s1.free z)⟩;obtain⟨us,y1,yl1⟩:=O1.rdl;have fin2:∀(R:List Rw)(ws':List Str)(l:Addr)(rus:List V)(H2:Hp),m9 (decide (k<=F)) rd ws s (.ready rd.length (s.wt 0)) (rd++[R]) ws'->H1 l=none->H2 l=some (.lst rus)->Al (jL H2) R rus->fV C D A bo F N k ws' rd H2->Ex [A.lp,A.tk] H1 H2->
    eE (.ref A.yl) [.ref l] H2 λ_ H3=>(fD (ef (dI (tC (.str "ready")) (dI (dj ib (gx (ga K) (dI (kB K (dJ 0) "ready") dQ)) (tC (.int 1))) dQ)))) (fk Q) [some (.ref A.op),some u] H3:=by
   intro R ws' l rus H2 mean nl hl dr O2 ex2;obtain⟨us2,y2,yl2⟩:=O2.rdl;refine⟨y2,by rw[sizeLine_eq];lia,?_⟩;have O3:=O2.add no.y y2 (no1.f l nl) hl dr;have y3:(upd H2 A.yl (.lst (us2++[.ref l]))) A.yl=some (.lst (us2++[.ref l])):=dP;have ex3:Ex [A.lp,A.tk,A.yl] H2 (upd H2 A.yl (.lst (us2++[.ref l]))):=Ex.upd (by simp);generalize upd H2 A.yl (.lst (us2++[.ref l]))=H3 at O3 y3 ex3⊢;refine⟨O3.ob,ro.cl,ro.nR,qE,.inl (eL.of y3),fL,λp hp=>?_⟩;have e:(((us2++[V.ref l]).length:Int)-1)=((rd.length:Nat):Int):=by rw[aE];simp;lia
   have s4:=dS (o:=.tup [.str "ready",.int (((us2++[V.ref l]).length:Int)-1)]) hp;refine kk _ _ _ _ _ mean (O3.same s4) ⟨p,rfl,?_⟩ ((Ex.same s1).trans ((ex2.more (by simp)).trans (ex3.trans (Ex.same s4))));rw[dP];dsimp only;rw[e]
  refine⟨O1.ob,ro.cl,ro.nR,qE,.inl ⟨rfl,_,eL.of y1⟩,O1.ob,me,A,bo,F,k,N,ws,rd,s,u,P,O1,no1,(sp.mono (Kp.same s1)).old (λd o _ z=>ht d z),ok,nop,z1,z2,λhk R ws' l rus H2 run nl hl dr O2 ex2=>?_,λhk l H2 s2 nl hl=>?_⟩
  ·exact fin2 R ws' l rus H2 (by rw[decide_eq_true hk];exact .ready nop run) nl hl dr O2 ex2
  ·exact fin2 [] ws l [] H2 (by rw[decide_eq_false hk];exact .late nop) nl hl .nil (O1.same s2) (Ex.same s2)
theorem FX(h:m9 go rd ws s m rd' ws')(o:s.ok P):ws'.length<=ws.length+s.wt 0/\rd'.length<=rd.length+1:=by
 cases h with
 | handed p=>exact⟨by lia,by lia⟩
 | @ready _ _ _ _ R p r=>
  have hw:kr R=s.wt 0:=by rw[vg r,gS,jP];lia
  have h2:=Bp r;have h3:=kU (vh r (P:=P) (λx hx=>by rw[aF]at hx;exact hx▸o) (λx hx=>by cases hx));simp only[am]at h2;exact⟨by lia,by simp⟩
 | late p=>exact⟨by lia,by simp⟩
inductive Kl(go:Bool)(rd:List (List Rw))(ws:List Str)(s:eC)(ps:List Str):Nat->En->List (List Rw)->List Str->Prop where
 | nil:Kl go rd ws s ps 0 .nil rd ws
 | snoc{i:Nat}{e:En}{rd1 rd2:List (List Rw)}{ws1 ws2:List Str}{p:Str}{t:T}{m:Mg}:Kl go rd ws s ps i e rd1 ws1->ps[i]?=some p->s.t.kids[i]?=some t->m9 go rd1 ws1 (s.kid i t) m rd2 ws2->Kl go rd ws s ps (i+1) (e.put p m) rd2 ws2
theorem Kl.len(h:Kl go rd ws s ps i e rd' ws')(o:s.ok P)(w:∀(i:Nat)(t:T),s.t.kids[i]?=some t->(s.kid i t).wt 0<=s.wt 0):ws'.length<=ws.length+i*s.wt 0/\rd'.length<=rd.length+i/\e.nd/\e.len<=i:=by
 induction h with
 | nil=>exact⟨by lia,aC _,aI,aC _⟩
 | @snoc i e _ _ _ _ p t m _ _ ht mean ih=>have h1:=FX mean (jw o (aZ ht));have h2:=w i t ht;have h3:=En.put_len p m e;refine⟨?_,by lia,CZ ih.2.2.1,by lia⟩;rw[aa];lia
theorem Cz{a b:Addr}{xs ys:List V}{g:TG}{tb:TS}{D:fz}{σ:St}{H:Hp}(Pv:Nat->St->Hp->Prop)(h0:Pv 0 σ H)(hlen:xs.length=ys.length)(hl:∀i σ H,i<=xs.length->Pv i σ H->eL K H a xs/\eL K H b ys)
  (hs:∀i x y p σ H,xs[i]?=some x->ys[i]?=some y->Pv i σ H->H p=none->g (.ref p) σ (upd H p (.tup [x,y])) λσ2 H2=>tb {D with nx:=Pv (i+1),ct:=Pv (i+1),bk:=D.nx} σ2 H2) (hd:∀σ H,Pv xs.length σ H->D.nx σ H):
  ∃W:Nat->Nat->St->Hp->Prop,(∃m,W 0 m σ H)/\∀i m σ H,W i m σ H->
   ((AO K a b).stop i H/\D.nx σ H)∨((AO K a b).go i H/\∃N:St->Hp->Prop,(∀σ' H',N σ' H'->∃m',m'<m/\W (i+1) m' σ' H')/\∀x H',(AO K a b).yld i H x H'->g x σ H' λσ2 H2=>tb {D with nx:=N,ct:=N,bk:=D.nx} σ2 H2):=by
 refine⟨λi m σ H=>m=xs.length-i/\i<=xs.length/\Pv i σ H,⟨_,rfl,aS _,h0⟩,?_⟩;rintro i m σ H ⟨rfl,hi,pv⟩;obtain⟨q1,q2⟩:=hl _ _ _ hi pv;by_cases e:i=xs.length
 ·subst e;exact .inl ⟨⟨xs,ys,q1,q2,aC _⟩,hd _ _ pv⟩
 ·have hlt:i<xs.length:=by lia
  refine .inr ⟨⟨xs,ys,xs[i],ys[i]'(by lia),q1,q2,aU _,aU _⟩,Pv (i+1),λσ' H' h=>⟨xs.length-(i+1),by lia,rfl,hlt,h⟩,?_⟩;rintro z H' ⟨p,x,y,rfl,hp,rfl,hx,hy⟩;exact hs i x y p σ H (hx xs q1) (hy ys q2) pv hp
inductive Gw(C D:Addr)(H:Hp)(Q:VK):List V->Prop where
 | mk(A:Ad)(bo:Bo)(F k:Nat)(N:Addr->Prop)(ws:List Str)(rd:List (List Rw))(s:eC)(u:V)(P:Nat->Nat->Prop)(f0:fV C D A bo F N k ws rd H)(f1:yo A N H)(f2:hX (Nk A.tk) H s u)(f3:s.ok P)(f4:kind s.t="stamp")(f5:s.wt 0<=1000000)(f6:ws.length<=1000000)(f7:rd.length<=1000000)(f8:∀(s':eC)(v:V)(rd':List (List Rw))(ws':List Str)(H':Hp),tT bo (decide (k<=F)) rd ws s s' rd' ws'->fV C D A bo F N k ws' rd' H'->hX (Nk A.tk) H' s' v->Ex [A.lp,A.tk,A.yl] H H'->Q v H'):Gw C D H Q [.ref A.op,u]
def Er(C D:Addr):Sp:=λvs H Q _=>Gw C D H Q vs
def BN(K:aA)(a_Opening a_FreshWords:Addr):TS:=(jl (dJ 3) (dJ 4) (ji a_Opening "meaning_of" (Ep a_Opening a_FreshWords) [] E0 (dJ 0) (dI (dJ 5) dQ)))
def JJ(K:aA)(a_Opening a_FreshWords:Addr):TS:=(dZ (eB iF (dR 3)) (dZ (iV (Cs K (dj (dy K) (dJ 2) (tC (.int 1))) (eN iY [] E0 (dI (dJ 1) dQ))) (nq K 2 (gR (dR 4) (gR (dR 5) oA))) (BN K a_Opening a_FreshWords)) (fD (ef (dI (dj (dy K) (dJ 2) (tC (.int 2))) (dI (dj (dy K) (dJ 2) (tC (.int 0))) (dI (ef dQ) (dI (dJ 3) dQ))))))))
def OC(K:aA)(a_Opening a_FreshWords:Addr):TS:=(dZ (eB (kC (kB K (dJ 0) "stamps") (dj (dy K) (dj (dy K) (dJ 1) (tC (.int 0))) (tC (.int 1)))) (dR 2)) (dZ (eB iF (dR 3)) (dZ (iV (Cs K (dj (dy K) (dJ 2) (tC (.int 1))) (eN iY [] E0 (dI (dJ 1) dQ))) (nq K 2 (gR (dR 4) (gR (dR 5) oA))) (BN K a_Opening a_FreshWords)) (fD (ef (dI (dj (dy K) (dJ 2) (tC (.int 2))) (dI (dj (dy K) (dJ 2) (tC (.int 0))) (dI (ef dQ) (dI (dJ 3) dQ)))))))))
def Qz(C D:Addr)(A:Ad)(bo:Bo)(F:Nat)(N:Addr->Prop)(k:Nat)(u:V)(pv nd:Addr)(rd:List (List Rw))(ws:List Str)(s:eC)(ps:List Str)(H2:Hp)(i:Nat)(σ:St)(H':Hp):Prop:=∃j4 j5 e rd' ws' kvs,σ=[some (.ref A.op),some u,some (.ref pv),some (.ref nd),j4,j5]/\Kl (decide (k<=F)) rd ws s ps i e rd' ws'/\fV C D A bo F N k ws' rd' H'/\H' nd=some (.dK kvs)/\k9 (λd=>d≠A.tk/\d≠nd) H' e kvs/\Ex [A.lp,A.tk,A.yl,nd] H2 H'/\Kp (λd=>d≠A.tk/\d≠nd) H2 H'
theorem vt(ro:RO K C)
  (O:fV C D A bo F N k ws rd H) (no:yo A N H) (sp:hX (Nk A.tk) H s u) (ok:s.ok P) (hs:Di N H w ps body v) (hps:ps.length=s.t.kids.length) (hw0:∀(i:Nat)(t:T),s.t.kids[i]?=some t->(s.kid i t).wt 0<=s.wt 0) (z1:s.wt 0<=1000000) (z2:ws.length<=1000000) (z3:rd.length<=1000000)
  (kk:∀(e:En)(v:V)(rd':List (List Rw))(ws':List Str)(H':Hp),Kl (decide (k<=F)) rd ws s ps ps.length e rd' ws'->fV C D A bo F N k ws' rd' H'->hX (Nk A.tk) H' ⟨body,w,[],e⟩ v->Ex [A.lp,A.tk,A.yl] H H'->Q v H'):
  JJ K C D (fk Q) [some (.ref A.op),some u,some v,none,none,none] H:=by
 obtain⟨pv,pl_,xb,rfl,hst,hpl,npl,hxb⟩:=hs;intro nd hnd;have s1:dq H (upd H nd (.dK [])):=dS hnd;have g1:(upd H nd (.dK [])) nd=some (.dK []):=dP;generalize upd H nd (.dK [])=H1 at s1 g1⊢;obtain⟨n0,f0,_⟩:=O.fw;have ndt:nd≠A.tk:=(dX f0.dk hnd).symm;have nds:nd≠A.sd:=(dX O.sd hnd).symm;have sp1:hX (λd=>d≠A.tk/\d≠nd) H1 s u:=(sp.old (tk':=λd=>d≠A.tk/\d≠nd) (λd o h z=>⟨z,dX h hnd⟩)).mono (Kp.same s1);have path:s.path.length<=1000:=by have:=ok.1.2.1;lia
 have hk3:=Co s.t;refine⟨eD.of (s1 _ _ hst),iM,_,s,u,rfl,sp1,path,λil us H2 s2 n2 g2 al=>⟨eL.of ((s1.trans s2) _ _ hpl),eL.of g2,?_⟩⟩;have s12:=s1.trans s2;have hal:=al.length;rw[kX]at hal;have O2:=O.same s12;obtain⟨ys,y2,_⟩:=O2.rdl;have nil_:il≠A.yl:=by obtain⟨ys0,y0,_⟩:=O.rdl;exact(dX (s1 _ _ y0) n2).symm
 refine Cz (K:=K) (a:=pl_) (b:=il) (xs:=ps.map V.str) (ys:=us) (Qz C D A bo F N k u pv nd rd ws s ps H2)
  ⟨none,none,.nil,rd,ws,[],rfl,.nil,O2,s2 _ _ g1,rfl,.refl,.refl⟩ (by rw[aO];lia) (λi σ H' _ hP=>?_) ?_ ?_
 ·obtain⟨_,_,e,rd',ws',kvs,_,_,O3,hn3,_,ex3,kp3⟩:=hP;obtain⟨n3,f3,_⟩:=O2.fw;have lst:∀l xs,H2 l=some (.lst xs)->l≠A.yl->H' l=some (.lst xs):=λl xs h hy=>ex3 _ _ (λq=>by
   simp only[aB,aG,or_false]at q;rcases q with rfl|rfl|rfl|rfl
   ·rw[f3.ob]at h;cases h
   ·rw[f3.dk]at h;cases h
   ·exact hy rfl
   ·rw[s2 _ _ g1]at h;cases h) h
  exact⟨eL.of (lst _ _ (s12 _ _ hpl) (no.y _ npl)),eL.of (lst _ _ g2 nil_)⟩
 ·rintro i x y p σ H3 hx hy ⟨j4,j5,e,rd',ws',kvs,rfl,ms,O3,hn3,en,ex3,kp3⟩ hp;obtain⟨pl1,hpl1,rfl⟩:∃z,ps[i]?=some z/\x=V.str z:=by
   rw[aT]at hx;cases e:ps[i]? with
   | none=>rw[e]at hx;cases hx
   | some z=>rw[e]at hx;exact⟨z,rfl,(Option.some.inj hx).symm⟩
  have hil:i<us.length:=(aK.mp hy).1;obtain⟨t,ht⟩:∃t,s.t.kids[i]?=some t:=⟨s.t.kids[i]'(by lia),aU _⟩;obtain⟨s',hs',sp'⟩:=al.get hy;rw[pJ ht]at hs';cases hs';have s4:=dS (o:=.tup [.str pl1,y]) hp;have g4:(upd H3 p (.tup [.str pl1,y])) p=some (.tup [.str pl1,y]):=dP;generalize upd H3 p (.tup [.str pl1,y])=H4 at s4 g4⊢;have O4:=O3.same s4;have no4:yo A N H4:=by
   refine⟨no.y,λa z=>no.f a ?_⟩;have z3:=s4.free z;cases q:H a with
   | none=>rfl
   | some o=>
    exfalso;have q2:=s12 _ _ q;obtain⟨n3,f3,_⟩:=O3.fw;obtain⟨ys3,y3,_⟩:=O3.rdl;have:=ex3 a o (λw=>by
     simp only[aB,aG,or_false]at w;rcases w with rfl|rfl|rfl|rfl
     ·rw[f3.ob]at z3;cases z3
     ·rw[f3.dk]at z3;cases z3
     ·rw[y3]at z3;cases z3
     ·rw[hn3]at z3;cases z3) q2
    rw[this]at z3;cases z3
  obtain⟨l1,l2,_,_⟩:=ms.len ok hw0;have hl5:i*s.wt 0<=3*s.wt 0:=bU _ (by lia);refine⟨eD.of g4,rfl,rfl,?_⟩;refine⟨O4.ob,me,A,bo,F,k,N,ws',rd',s.kid i t,y,P,(λd=>d≠A.tk/\d≠nd),O4,no4,λd z=>z.1,sp'.mono (kp3.trans (Kp.same s4)),jw ok (aZ ht),?_,?_,?_,λm v rd2 ws2 H5 mean O5 mg ex5=>?_⟩
  ·have:=hw0 i t ht;lia
  ·lia
  ·lia
  have kp5:Kp (λd=>d≠A.tk/\d≠nd) H4 H5:=O4.kp3 (λd z=>z.1) ex5;have hn5:H5 nd=some (.dK kvs):=by
   refine ex5 _ _ (λw=>?_) (s4 _ _ hn3);obtain⟨n4,f4,_⟩:=O4.fw;obtain⟨ys4,y4,_⟩:=O4.rdl;have hn4:=s4 _ _ hn3;simp only[aB,aG,or_false]at w;rcases w with w|w|w
   ·rw[w,f4.ob]at hn4;cases hn4
   ·exact ndt w
   ·rw[w,y4]at hn4;cases hn4
  have ekl:=wj en;obtain⟨_,_,nd3,el3⟩:=ms.len ok hw0;refine⟨lO.k (k:=.inr pl1) hn5 (lU (by lia)),?_⟩;have kp6:Kp (λd=>d≠A.tk/\d≠nd) H5 (upd H5 nd (.dK (fh kvs (.inr pl1) v))):=⟨uA hn5,λd kvs z h=>by rw[dY z.2];exact h⟩;have kp35:=(Kp.same s4).trans kp5;refine⟨_,_,e.put pl1 m,rd2,ws2,_,rfl,.snoc ms hpl1 ht mean,O5.dct hn5 ndt nds,dP,?_,?_,?_⟩
  ·exact we (mg.mono kp6) nd3 ((en.mono kp35).mono kp6)
  ·exact ex3.trans ((Ex.same s4).trans ((ex5.more (by simp)).trans (Ex.upd (by simp))))
  ·exact kp3.trans (kp35.trans kp6)
 ·rintro σ H3 ⟨j4,j5,e,rd',ws',kvs,rfl,ms,O3,hn3,en,ex3,kp3⟩;rw[aO]at ms;have hst3:=kp3.tup _ _ (s12 _ _ hst);refine⟨eD.of hst3,tY,eD.of hst3,gF,fL,λte hte=>⟨fL,λr hr=>?_⟩⟩;have s4:=dS (o:=.tup []) hte;have g4:(upd H3 te (.tup [])) te=some (.tup []):=dP;generalize upd H3 te (.tup [])=H4 at s4 g4 hr⊢;have s5:=dS (o:=.tup [xb,.str w,.ref te,.ref nd]) hr;have s45:=s4.trans s5;refine kk e _ rd' ws' _ ms (O3.same s45) ⟨r,xb,te,nd,kvs,rfl,dP,(hxb.mono (dW s12)).mono (kp3.tup.trans (dW s45)),s5 _ _ g4,ndt,s45 _ _ hn3,((en.mono (Kp.same s45)).old λd o _ z=>z.1)⟩ ?_;exact Ex.new (l':=[A.lp,A.tk,A.yl,nd]) (λa ha=>by
   simp only[aB,aG,or_false]at ha⊢;rcases ha with z|z|z|rfl
   ·exact .inl (.inl z)
   ·exact .inl (.inr (.inl z))
   ·exact .inl (.inr (.inr z))
   ·exact .inr hnd) ((Ex.same s12).trans (ex3.trans (Ex.same s45)))
theorem Fh(h:SF w 0):w="star":=by
 unfold SF jU at h;split at h
 ·assumption
 ·split at h
  ·cases h
  ·split at h<;>cases h
theorem KR(h:SF w 1):w="sta":=by
 unfold SF jU at h;split at h
 ·cases h
 ·split at h
  ·assumption
  ·split at h<;>cases h
theorem Ot(h:SF w 2):w="st":=by
 unfold SF jU at h;split at h
 ·cases h
 ·split at h
  ·cases h
  ·split at h
   ·assumption
   ·cases h
theorem QD(ro:RO K C)(h:Er C D vs H Q E):OC K C D (fk Q) (start ["self","spot","stamp","names","place","handed"] vs) H:=by
 obtain⟨A,bo,F,k,N,ws,rd,s,u,P,O,no,sp,ok,hk,z1,z2,z3,kk⟩:=h;obtain⟨q,x,pp,d,kvs,rfl,hq,hx,_⟩:=id sp;have wt:WT SF s.t:=ok.1.1;cases e:s.t with
 | num n=>rw[e]at hk;exact absurd hk (by simp only[kind];decide)
 | name n=>rw[e]at hk;exact absurd hk (by simp only[kind];decide)
 | sum a b=>rw[e]at hk;exact absurd hk (by simp only[kind];decide)
 | less a b=>rw[e]at hk;exact absurd hk (by simp only[kind];decide)
 | cho a b c=>rw[e]at hk;exact absurd hk (by simp only[kind];decide)
 | lt w a b=>rw[e]at hk;exact absurd hk (by simp only[kind];decide)
 | st0 w=>rw[e]at hx wt;obtain⟨p,rfl,hp⟩:=hx;cases Fh wt;have dg:=iR.k (k:=.inr "star") O.sd;rw[Dv,if_pos rfl]at dg;refine⟨O.ob,ro.cl,ro.nS,nV,eD.of hq,gF,eD.of hp,iM,dg,?_⟩;refine vt ro O no sp ok O.s1 (by rw[e];rfl) (λi t ht=>by rw[e]at ht;simp[T.kids]at ht) z1 z2 z3 λe' v rd' ws' H' ms O' sp' ex=>kk _ v rd' ws' H' ?_ O' sp' ex;cases ms;exact .star e
 | st1 w a=>
  rw[e]at hx wt;obtain⟨p,xa,rfl,hp,_⟩:=hx;cases KR wt.1;have dg:=iR.k (k:=.inr "sta") O.sd;rw[Dv,if_neg J7.symm,if_pos rfl]at dg;have ew:s.wt 0=1+(s.kid 0 a).wt 0:=by unfold eC.wt;rw[e];rfl
  refine⟨O.ob,ro.cl,ro.nS,nV,eD.of hq,gF,eD.of hp,iM,dg,?_⟩;refine vt ro O no sp ok O.s2 (by rw[e];rfl) (λi t ht=>?_) z1 z2 z3 λe' v rd' ws' H' ms O' sp' ex=>kk _ v rd' ws' H' ?_ O' sp' ex
  ·rw[e]at ht
   match i,ht with
   | 0,ht=>cases ht;lia
   | n+1,ht=>simp[T.kids]at ht
  ·cases ms with
   | snoc ms hp1 ht mean=>
   cases ms with
   | nil=>
   rw[e]at ht;cases hp1;cases ht;exact .sta e mean
 | st2 w a b=>
  rw[e]at hx wt;obtain⟨p,xa,xb,rfl,hp,_⟩:=hx;cases Ot wt.1;have dg:=iR.k (k:=.inr "st") O.sd;rw[Dv,if_neg J4.symm,if_neg J3.symm,if_pos rfl]at dg;have ew:s.wt 0=1+(s.kid 0 a).wt 0+(s.kid 1 b).wt 0:=by unfold eC.wt;rw[e];rfl
  refine⟨O.ob,ro.cl,ro.nS,nV,eD.of hq,gF,eD.of hp,iM,dg,?_⟩;refine vt ro O no sp ok O.s3 (by rw[e];rfl) (λi t ht=>?_) z1 z2 z3 λe' v rd' ws' H' ms O' sp' ex=>kk _ v rd' ws' H' ?_ O' sp' ex
  ·rw[e]at ht
   match i,ht with
   | 0,ht=>cases ht;lia
   | 1,ht=>cases ht;lia
   | n+2,ht=>simp[T.kids]at ht
  ·cases ms with
   | snoc ms hp2 ht2 mean2=>
   cases ms with
   | snoc ms hp1 ht1 mean1=>
   cases ms with
   | nil=>
   rw[e]at ht1 ht2;cases hp1;cases ht1;cases hp2;cases ht2;rename_i m1 m2;have ep:∀m n:Mg,En.put (En.put .nil (oM bo.e) m) (uS bo.e) n=.cons (oM bo.e) m (.cons (uS bo.e) n .nil):=λm n=>by simp only[En.put,if_neg (wD bo.e)]
   rw[ep];exact .st e mean1 mean2
theorem fV.many(O:fV C D A bo F N k ws rd H):fV C D A bo F N j ws rd (upd H A.op (.ins C A.dx (lY A.sd A.lp F j A.yl))):=by
 obtain⟨n,f,c⟩:=O.fw;obtain⟨us,y1,y2⟩:=O.yl;have ht:fF H (upd H A.op (.ins C A.dx (lY A.sd A.lp F j A.yl))):=λb xs e=>by rw[dY (fM e O.ob (by intro z;cases z))];exact e
 have hL:∀a xs,N a->H a=some (.lst xs)->(upd H A.op (.ins C A.dx (lY A.sd A.lp F j A.yl))) a=some (.lst xs):=λa xs n z=>by rw[dY (fM z O.ob (by intro z;cases z))];exact z
 exact⟨dP,⟨n,⟨by rw[dY O.nOL.symm];exact f.ob,by rw[dY O.nOT.symm];exact f.dk⟩,c⟩,by rw[dY (fM O.sd O.ob (by intro z;cases z))];exact O.sd,O.st,O.s1.mono (λ_ z=>z) ht hL,O.s2.mono (λ_ z=>z) ht hL,O.s3.mono (λ_ z=>z) ht hL,us,by rw[dY O.nOY.symm];exact y1,y2.mono λ_ _=>tQ.mono (λ_ z=>z) ht hL⟩
inductive DU(C D:Addr)(H:Hp)(Q:VK):List V->Prop where
 | mk(A:Ad)(bo:Bo)(F k:Nat)(N:Addr->Prop)(ws:List Str)(rd:List (List Rw))(wl rl:Addr)(wus rus:List V)(s:eC)(u:V)(P:Nat->Nat->Prop)(f0:Mq C D A bo F N k ws rd wl rl wus rus s u P H)(f1:yo A N H)(f2:s.wt 0<=1000000)(f3:ws.length<=1000000)(f4:rd.length<=1000000)(f5:(∀(P:List eC)(rs:List Rw)(ws':List Str)(H':Hp),Tk ws s P rs ws'->fV C D A bo F N k ws' rd H'->G0 (Nk A.tk) wl rl wus rus P rs H'->Ex [wl,rl,A.lp,A.tk] H H'->Q .non H'))(f6:(∀(s':eC)(rd':List (List Rw))(ws':List Str)(H':Hp),tT bo (decide (k+1<=F)) rd ws s s' rd' ws'->fV C D A bo F N (k+1) ws' rd' H'->G0 (Nk A.tk) wl rl wus rus [s'] [] H'->Ex [wl,A.op,A.lp,A.tk,A.yl] H H'->Q .non H')):DU C D H Q [.ref A.op,u,.ref wl,.ref rl]
def xi(C D:Addr):Sp:=λvs H Q _=>DU C D H Q vs
def HU(K:aA)(a_Opening a_FreshWords:Addr):TS:=(dZ (oo K (dJ 0) (tC (.int 1)) E5 "many") (eX (iW K "list" eE (dJ 2) (dI (ji a_Opening "body_of" (Er a_Opening a_FreshWords) [] E0 (dJ 0) (dI (dJ 1) dQ)) dQ))))
def HS(K:aA)(a_Opening a_FreshWords:Addr):TS:=(fE (dz (dj ic (dJ 4) (tC (.str "stamp")))) (HU K a_Opening a_FreshWords) (rR K a_Opening a_FreshWords))
def Nj(K:aA)(a_Opening a_FreshWords:Addr):TS:=(dZ (eB (dj (dy K) (dj (dy K) (dJ 1) (tC (.int 0))) (tC (.int 0))) (dR 4)) (HS K a_Opening a_FreshWords))
theorem OH(ro:RO K C)(h:xi C D vs H Q E):Nj K C D (fk Q) (start ["self","spot","waiting","rows","kind"] vs) H:=by
 obtain⟨A,bo,F,k,N,ws,rd,wl,rl,wus,rus,s,u,P,B,no,z1,z2,z3,k1,k2⟩:=h;obtain⟨q,x,pp,d,kvs,rfl,hq,hx,hpp,nd,hd,he⟩:=id B.sp;obtain⟨p,ks,rfl,hp,dk⟩:=hx.open;refine⟨eD.of hq,gF,eD.of hp,Gc s.t ks,?_⟩;by_cases hk:kind s.t="stamp"
 ·refine⟨rfl,_,rfl,fI (by rw[hk];decide) ?_⟩;refine⟨A.op,C,A.dx,_,_,rfl,B.O.ob,ro.cl,ro.nM,lZ,_,_,rfl,rfl,A.dx,_,B.O.ob,J1,?_⟩;rw[J0 (j:=k+1) (by lia)];have O1:=B.O.many (j:=k+1);have kp1:Kp (Nk A.tk) H (upd H A.op (.ins C A.dx (lY A.sd A.lp F (k+1) A.yl))):=Kp.ins B.O.ob;have ex1:Ex [wl,A.op,A.lp,A.tk,A.yl] H (upd H A.op (.ins C A.dx (lY A.sd A.lp F (k+1) A.yl))):=Ex.upd (by simp);have w1:(upd H A.op (.ins C A.dx (lY A.sd A.lp F (k+1) A.yl))) wl=some (.lst wus):=by rw[dY (fM B.w B.O.ob (by intro z;cases z))];exact B.w
  have r1:(upd H A.op (.ins C A.dx (lY A.sd A.lp F (k+1) A.yl))) rl=some (.lst rus):=by rw[dY (fM B.r B.O.ob (by intro z;cases z))];exact B.r
  have no1:yo A N (upd H A.op (.ins C A.dx (lY A.sd A.lp F (k+1) A.yl))):=⟨no.y,λa z=>no.f a (by
   by_cases e:a=A.op
   ·subst e;rw[dP]at z;cases z
   ·rw[dY e]at z;exact z)⟩
  generalize upd H A.op (.ins C A.dx (lY A.sd A.lp F (k+1) A.yl))=H1 at O1 kp1 ex1 w1 r1 no1⊢;refine⟨.inl ⟨rfl,_,eL.of w1⟩,O1.ob,me,A,bo,F,k+1,N,ws,rd,s,_,P,O1,no1,B.sp.mono kp1,B.ok,hk,z1,z2,z3,λs' v rd' ws' H2 opn O2 sp2 ex2=>?_⟩;have lst:∀l xs,H1 l=some (.lst xs)->l≠A.yl->H2 l=some (.lst xs):=λl xs h hy=>ex2 _ _ (λq=>by
   obtain⟨n3,f3,_⟩:=O1.fw;simp only[aB,aG,or_false]at q;rcases q with rfl|rfl|rfl
   ·rw[f3.ob]at h;cases h
   ·rw[f3.dk]at h;cases h
   ·exact hy rfl) h
  have w2:=lst _ _ w1 B.ny;have r2:=lst _ _ r1 B.nz;have hz:=B.z1;refine⟨w2,by rw[sizeLine_eq];lia,?_⟩;refine k2 s' rd' ws' _ opn (O2.lst w2 B.ny B.nw) ⟨⟨[v],dP,.one (sp2.mono (Kp.lst w2))⟩,[],by rw[dY B.ne.symm,aX];exact r2,.nil⟩ (ex1.trans ((ex2.more (by simp)).trans (Ex.upd (by simp))))
 ·exact⟨rfl,_,rfl,eU (nk hk) (Bv B hk k1)⟩
inductive m8(C D:Addr)(H:Hp)(Q:VK):List V->Prop where
 | mk(A:Ad)(bo:Bo)(F:Nat)(N:Addr->Prop)(ws:List Str)(t:T)(u:V)(f0:fV C D A bo F N 0 ws [] H)(f1:yo A N H)(f2:hX (Nk A.tk) H ⟨t,"",[],.nil⟩ u)(f3:tW bo)(f4:BT t [] 0)(f5:(∀st,tR bo F (st0 t ws) st->st.k<=F->DW st))(f6:∀(st:oH)(l:Addr)(rus:List V)(H':Hp),tR bo F (st0 t ws) st->(st.k<=F->st.S=[])->H l=none->H' l=some (.lst rus)->Al (jL H') st.R rus->fV C D A bo F N st.k st.ws st.rd H'->Ex [A.op,A.lp,A.tk,A.yl] H H'->Q (.ref l) H'):m8 C D H Q [.ref A.op,u]
def mU(C D:Addr):Sp:=λvs H Q _=>m8 C D H Q vs
theorem Bt{C D:Addr}{H:Hp}{Q:VK}{vs vs':List V}(h:m8 C D H Q vs')(e:vs=vs'):m8 C D H Q vs:=e▸h
def Ai(K:aA)(a_Opening a_FreshWords:Addr):TS:=(eX (ji a_Opening "take" (xi a_Opening a_FreshWords) [] E0 (dJ 0) (dI (jG K "list" jH (dJ 3)) (dI (dJ 3) (dI (dJ 2) dQ)))))
def HY(K:aA)(a_Opening a_FreshWords:Addr):TS:=(dZ (eB (fG dQ) (dR 2)) (dZ (eB (fG (dI (dJ 1) dQ)) (dR 3)) (dZ (gi (lq (dz (dj nK (gx (ga K) (dI (dJ 3) dQ)) (tC (.int 0)))) (dz (dj E3 (kB K (dJ 0) "many") (kB K (dJ 0) "fuel")))) (Ai K a_Opening a_FreshWords)) (fD (dJ 2)))))
structure Mp(C D:Addr)(A:Ad)(bo:Bo)(F:Nat)(N:Addr->Prop)(wl rl:Addr)(t:T)(ws:List Str)(H2:Hp)(st:oH)(wus rus:List V)(H':Hp):Prop where
 rch:tR bo F (st0 t ws) st
 O:fV C D A bo F N st.k st.ws st.rd H'
 no:yo A N H'
 w:H' wl=some (.lst wus)
 r:H' rl=some (.lst rus)
 dw:Al (hX (Nk A.tk) H') st.S wus
 dr:Al (jL H') st.R rus
 ex:Ex [wl,rl,A.op,A.lp,A.tk,A.yl] H2 H'
def QT(C D:Addr)(A:Ad)(bo:Bo)(F:Nat)(N:Addr->Prop)(wl rl:Addr)(t:T)(ws:List Str)(H2:Hp)(u:V)(m:Nat)(σ:St)(H':Hp):Prop:=∃st wus rus,σ=[some (.ref A.op),some u,some (.ref rl),some (.ref wl)]/\Mp C D A bo F (λa=>N a/\a≠wl/\a≠rl) wl rl t ws H2 st wus rus H'/\m=mu F t.size st
theorem LQ(ro:RO K C)(h:mU C D vs H Q E):HY K C D (fk Q) (start ["self","spot","rows","waiting"] vs) H:=by
 obtain⟨A,bo,F,N,ws,t,u,O,no,sp,bk,bt,sm,kk⟩:=h;refine⟨fL,λrl hrl=>⟨fL,λwl hwl=>?_⟩⟩;have s1:dq H (upd H rl (.lst [])):=dS hrl;have s2:=dS (o:=.lst [u]) hwl;have hne:wl≠rl:=(dX (dP (H:=H) (a:=rl) (o:=.lst [])) hwl).symm;have r2:(upd (upd H rl (.lst [])) wl (.lst [u])) rl=some (.lst []):=s2 _ _ dP;have w2:(upd (upd H rl (.lst [])) wl (.lst [u])) wl=some (.lst [u]):=dP;have hwl0:H wl=none:=s1.free hwl;have s12:=s1.trans s2;generalize upd (upd H rl (.lst [])) wl (.lst [u])=H2 at s2 r2 w2 s12⊢;clear s1 s2 hwl;obtain⟨ys,hy,_⟩:=O.rdl;have O2:fV C D A bo F (λa=>N a/\a≠wl/\a≠rl) 0 ws [] H2:=(O.weak (N':=λa=>N a/\a≠wl/\a≠rl) λa o h n=>⟨n,dX h hwl0,dX h hrl⟩).same s12;have no2:yo A (λa=>N a/\a≠wl/\a≠rl) H2:=⟨λa z=>no.y a z.1,λa z=>⟨no.f a (s12.free z),(dX w2 z).symm,(dX r2 z).symm⟩⟩;have nyw:wl≠A.yl:=(dX hy hwl0).symm;have nyr:rl≠A.yl:=(dX hy hrl).symm;have I0:eM F t.size (st0 t ws):=kO bt;refine⟨QT C D A bo F N wl rl t ws H2 u,⟨_,st0 t ws,[u],[],rfl,?_,rfl⟩,?_⟩
 ·exact⟨.refl,O2,no2,w2,r2,.one (sp.mono (Kp.same s12)),.nil,.refl⟩
 ·rintro m σ H3 ⟨st,wus,rus,rfl,B,rfl⟩;have I:=oq bk B.rch I0;have done:(st.k<=F->st.S=[])->Q (.ref rl) H3:=λz=>
   kk st rl rus H3 B.rch z hrl B.r B.dr (B.O.weak (N':=N) λa o h n=>n.1) (Ex.new (l':=[wl,rl,A.op,A.lp,A.tk,A.yl]) (λa ha=>by
     simp only[aB,aG,or_false]at ha⊢;rcases ha with rfl|rfl|z|z|z|z
     ·exact .inr hwl0
     ·exact .inr hrl
     ·exact .inl (.inl z)
     ·exact .inl (.inr (.inl z))
     ·exact .inl (.inr (.inr (.inl z)))
     ·exact .inl (.inr (.inr (.inr z)))) ((Ex.same s12).trans B.ex))
  refine⟨.inl (eL.of B.w),_,rfl,?_⟩;by_cases hv:wus=[]
  ·subst hv;refine eU rfl (eU rfl ?_);exact(done λ_=>bF.mp B.dw.length.symm)
  ·refine fI (decide_eq_true (by have:=dF.mpr hv;lia)) ?_;refine⟨B.O.ob,ro.cl,ro.nM,lZ,B.O.ob,ro.cl,ro.nF,sT,_,rfl,?_⟩;by_cases hk:st.k<=F
   ·refine fI (decide_eq_true (by lia)) ?_;obtain⟨us,u1,rfl⟩:=gI hv;obtain⟨S,R,k,ws1,rd⟩:=st;obtain⟨S',s',rfl,d1,d2⟩:=B.dw.snoc;refine⟨Lt (QT C D A bo F N wl rl t ws H2 u) (mu F t.size ⟨S'++[s'],R,k,ws1,rd⟩),λ_ _ h=>h,?_⟩;refine⟨B.O.ob,me,.inl ⟨rfl,_,eL.of B.w⟩,B.w,iO,?_⟩;rw[gk];have O4:=B.O.lst (o:=.lst us) B.w nyw (λa z=>z.2.1);have kp4:Kp (Nk A.tk) H3 (upd H3 wl (.lst us)):=Kp.lst B.w;have ex4:Ex [wl,rl,A.op,A.lp,A.tk,A.yl] H3 (upd H3 wl (.lst us)):=Ex.upd (by simp);have w4:(upd H3 wl (.lst us)) wl=some (.lst us):=dP;have r4:(upd H3 wl (.lst us)) rl=some (.lst rus):=by rw[dY hne.symm];exact B.r
    have no4:yo A (λa=>N a/\a≠wl/\a≠rl) (upd H3 wl (.lst us)):=⟨B.no.y,λa z=>B.no.f a (by
     by_cases e:a=wl
     ·subst e;rw[dP]at z;cases z
     ·rw[dY e]at z;exact z)⟩
    generalize upd H3 wl (.lst us)=H4 at O4 kp4 ex4 w4 r4 no4⊢;have os:=I.so s' (aL _ (.head _));have SM:=sm _ B.rch hk;have hwt:=SM.wt;have hzs:=SM.ws;have hkk:k<=400000:=SM.k;simp only[fe,gS]at hwt hzs;have hl1:=rO (h:=0) (S:=S') λx hx=>I.so x (ae _ hx);have hl2:=kU I.ro;have hl3:=d1.length;have hl4:=B.dr.length;have hdl:=I.dl;simp only at hl2 hl4 hdl;have hk':k<=F:=hk;have nxt:∀(st':oH)(P:List eC)(rs:List Rw)(H5:Hp),Gp bo F ⟨S'++[s'],R,k,ws1,rd⟩ st'->st'.S=S'++P->st'.R=R++rs->fV C D A bo F (λa=>N a/\a≠wl/\a≠rl) st'.k st'.ws st'.rd H5->G0 (Nk A.tk) wl rl us rus P rs H5->Ex [wl,rl,A.op,A.lp,A.tk,A.yl] H4 H5->
      ∃m',m'<mu F t.size ⟨S'++[s'],R,k,ws1,rd⟩/\∃st wus rus,([some (.ref A.op),some u,some (.ref rl),some (.ref wl)]:St)=[some (.ref A.op),some u,some (.ref rl),some (.ref wl)]/\Mp C D A bo F (λa=>N a/\a≠wl/\a≠rl) wl rl t ws H2 st wus rus H5/\m'=mu F t.size st:=by
     intro st' P rs H5 Da eS eR O5 aft ex5;obtain⟨⟨pus,w5,dp⟩,rvs,r5,dr5⟩:=aft;obtain⟨n4,f4,_⟩:=O4.fw;obtain⟨ys4,y4,_⟩:=O4.rdl;have kp5:Kp (Nk A.tk) H4 H5:=O4.kp ex5 (λa ha=>by
      simp only[aB,aG,or_false]at ha;rcases ha with rfl|rfl|rfl|rfl|z|rfl
      ·exact .inr (.inl ⟨_,w4⟩)
      ·exact .inr (.inl ⟨_,r4⟩)
      ·exact .inr (.inr ⟨_,_,_,O4.ob⟩)
      ·exact .inr (.inr ⟨_,_,_,f4.ob⟩)
      ·exact .inl z
      ·exact .inr (.inl ⟨_,y4⟩))
     have kp35:=kp4.trans kp5;have no5:yo A (λa=>N a/\a≠wl/\a≠rl) H5:=⟨no4.y,λa z=>no4.f a (by
      cases q:H4 a with
      | none=>rfl
      | some o=>
       exfalso;obtain⟨n5,f5,_⟩:=O5.fw;obtain⟨ys5,y5,_⟩:=O5.rdl;have:=ex5 a o (λw=>by
        simp only[aB,aG,or_false]at w;rcases w with rfl|rfl|rfl|rfl|rfl|rfl
        ·rw[w5]at z;cases z
        ·rw[r5]at z;cases z
        ·rw[O5.ob]at z;cases z
        ·rw[f5.ob]at z;cases z
        ·rw[f5.dk]at z;cases z
        ·rw[y5]at z;cases z) q
       rw[this]at z;cases z)⟩
     refine⟨_,JT bk Da I hk,st',us++pus,rus++rvs,rfl,⟨.step B.rch hk Da,O5,no5,w5,r5,?_,?_,B.ex.trans (ex4.trans ex5)⟩,rfl⟩
     ·rw[eS];exact(d1.mono λ_ _=>hX.mono kp35).append dp
     ·rw[eR];exact(B.dr.mono λ_ _=>jL.mono kp35.tup).append dr5
    refine⟨A,bo,F,k,_,ws1,rd,wl,rl,us,rus,s',u1,_,⟨O4,d2.mono kp4,os,by lia,w4,r4,hne,nyw,nyr,λa z=>z.2.1,λa z=>z.2.2,by lia,by lia⟩,no4,by lia,by lia,by lia,λPs rs ws' H5 tkk O5 aft ex5=>?_,λs2 rd' ws' H5 opn O5 aft ex5=>?_⟩
    ·exact nxt _ Ps rs H5 (.take tkk) rfl rfl O5 aft (ex5.more (by simp only[aB,aG,or_false];rintro a (z|z|z|z)<;>simp[z]))
    ·exact nxt _ [s2] [] H5 (.opn opn) rfl (aX _).symm O5 aft (ex5.more (by simp only[aB,aG,or_false];rintro a (z|z|z|z|z)<;>simp[z]))
   ·refine eU (decide_eq_false (by lia)) ?_;exact(done λz=>absurd z hk)
theorem Mf(ha:H a=some (.tup xs))(hb:H b=some (.tup ys))(hl:xs.length+ys.length<=sizeLine)(k:∀r H',dq H H'->H' r=some (.tup (xs++ys))->Q (.ref r) H'):qB K (.ref a) (.ref b) H Q:=
 ⟨eD.of ha,eD.of hb,hl,λe=>k b H (dq.refl _) (by rw[e];exact hb),λ_ e=>k a H (dq.refl _) (by rw[e,aX];exact ha),λ_ _ p hp=>k p _ (dS hp) dP⟩
def kx(N:Addr->Prop)(H:Hp)(w:T×List kh)(v:V):Prop:=∃p x l us,v=.ref p/\H p=some (.tup [x,.ref l])/\fc H w.1 x/\H l=some (.lst us)/\Al (ky H) w.2 us/\N l
theorem kx.mono(s:dq H H')(h:kx N H w v):kx N H' w v:=by obtain⟨p,x,l,us,e,h1,h2,h3,h4,h5⟩:=h;exact⟨p,x,l,us,e,s _ _ h1,h2.mono (dW s),s _ _ h3,h4.mono λ_ _=>ky.mono (dW s),h5⟩
theorem kx.weak(hN:∀l,N l->N' l)(h:kx N H w v):kx N' H w v:=by obtain⟨p,x,l,us,e,h1,h2,h3,h4,h5⟩:=h;exact⟨p,x,l,us,e,h1,h2,h3,h4,hN l h5⟩
theorem kx.put(hw:H wl=some (.lst xs))(h:kx (λl=>l≠wl) H w v):kx (λl=>l≠wl) (upd H wl o) w v:=by obtain⟨p,x,l,us,e,h1,h2,h3,h4,h5⟩:=h;exact⟨p,x,l,us,e,(fA hw) _ _ h1,h2.mono (fA hw),by rw[dY h5];exact h3,h4.mono λ_ _=>ky.mono (fA hw),h5⟩
theorem J9(hl:ts.length=h.ar)(d:Al (fc H) ts us)(hq:H q=some (.tup (h.vs++us))):fc H (wK h ts) (.ref q):=by
 cases h with
 | num n=>match ts,hl with
  | [],_=>cases d;exact⟨q,rfl,hq⟩
 | name n=>match ts,hl with
  | [],_=>cases d;exact⟨q,rfl,hq⟩
 | sum=>match ts,hl with
  | [a,b],_=>cases d with|cons d1 d=>cases d with|cons d2 d=>cases d;exact⟨q,_,_,rfl,hq,d1,d2⟩
 | less=>match ts,hl with
  | [a,b],_=>cases d with|cons d1 d=>cases d with|cons d2 d=>cases d;exact⟨q,_,_,rfl,hq,d1,d2⟩
 | cho=>match ts,hl with
  | [a,b,c],_=>cases d with|cons d1 d=>cases d with|cons d2 d=>cases d with|cons d3 d=>cases d;exact⟨q,_,_,_,rfl,hq,d1,d2,d3⟩
 | lt w=>match ts,hl with
  | [a,b],_=>cases d with|cons d1 d=>cases d with|cons d2 d=>cases d;exact⟨q,_,_,rfl,hq,d1,d2⟩
def Lt(m:Nat)(n z:Nat):Prop:=n<m
theorem AF{α:Type}{l:List α}{i:Nat}{x:α}(hi:i<l.length)(hx:l[l.length-1-i]?=some x):l.drop (l.length-(i+1))=x::l.drop (l.length-i):=by
 obtain⟨h1,h2⟩:=aK.mp hx;have e:l.length-(i+1)=l.length-1-i:=by lia
 rw[e,bR h1,h2]
 congr 2
 lia
def Eo:Sp:=λvs H Q _=>∃(N:Addr->Prop)(rl wl:Addr)(R:List Rw)(rus:List V)(W:List (T×List kh))(wus:List V),vs=[.ref rl,.ref wl]/\H rl=some (.lst rus)/\Al (jL H) R rus/\H wl=some (.lst wus)/\Al (kx N H) W wus/\Bd R 1/\(∀r∈R,r.ok (Lt W.length))/\R.length<=9000000/\
 ∀(v:V)(t:T)(H':Hp),dq H H'->mC (W.map Prod.fst) R=[t]->fc H' t v->Q v H'
def Hl(K:aA):TS:=(eX (iW K "list" eE (dJ 2) (dI (dj (dy K) (dj (fu K) (dJ 1) (dj (dy K) (dJ 3) (tC (.int 1)))) (tC (.int 0))) dQ)))
def Hk(K:aA):TS:=(eX (iW K "list" eE (dJ 4) (dI (jG K "list" jH (dJ 2)) dQ)))
def An(K:aA):TS:=(dZ (eB (fG dQ) (dR 4)) (dZ (gi (dz (dj vw (gx (ga K) (dI (dJ 4) dQ)) (dj (dy K) (dJ 3) (tC (.int 2))))) (Hk K)) (eX (iW K "list" eE (dJ 2) (dI (dj (qB K) (dj (dy K) (dJ 3) (tC (.int 1))) (gx (u7 K) (dI (dJ 4) dQ))) dQ)))))
def Hj(K:aA):TS:=(fE (dz (dj ic (dj (dy K) (dJ 3) (tC (.int 0))) (tC (.str "ready")))) (Hl K) (An K))
def Nt(K:aA):TS:=(dZ (eB (fG dQ) (dR 2)) (dZ (iV (Ff K (dJ 0)) (dR 3) (Hj K)) (fD (jG K "list" jH (dJ 2)))))
theorem Qp(h:Hd):h.ar<=3:=by cases h<;>simp[Hd.ar]
theorem Oo(h:Hd):h.vs.length<=2:=by cases h<;>simp[Hd.vs]
def QV(rl wl ml p il:Addr)(h:Hd)(m:List T)(H₀ H:Hp)(mm:Nat)(σ:St)(H':Hp):Prop:=∃(j:Nat)(us ius:List V),σ=[some (.ref rl),some (.ref wl),some (.ref ml),some (.ref p),some (.ref il)]/\j<=h.ar/\dq H₀ H'/\fF H H'/\H' ml=some (.lst us)/\H' il=some (.lst ius)/\Al (fc H') (m.take j) ius/\Al (fc H') (m.drop j).reverse us/\mm=h.ar-j
theorem Jb{rl wl ml p:Addr}{h:Hd}{src:Str}{path:List Nat}{m:List T}{mus:List V}{H₀:Hp}{j4:Option V}{Dd:fz}(s0:dq H₀ H)(nm:H₀ ml=none)(hr:jL H (.row h src path) (.ref p))(hm:H ml=some (.lst mus))(dm:Al (fc H) m.reverse mus)(ha:h.ar<=m.length)(hz:m.length<=9000000)
  (k:∀(j4:Option V)(us:List V)(H':Hp),dq H₀ H'->H' ml=some (.lst us)->Al (fc H') (wK h (m.take h.ar)::m.drop h.ar).reverse us->Dd.nx [some (.ref rl),some (.ref wl),some (.ref ml),some (.ref p),j4] H'):
  An K Dd [some (.ref rl),some (.ref wl),some (.ref ml),some (.ref p),j4] H:=by
 obtain⟨p',hp,sx,e,hrow,hhd,hsx⟩:=hr;cases e;have har:=Qp h;refine⟨fL,λil hil=>?_⟩;have s1:dq H (upd H il (.lst [])):=dS hil;have i1:(upd H il (.lst [])) il=some (.lst []):=dP;have nim:il≠ml:=(dX hm hil).symm;have hil0:H₀ il=none:=s0.free hil;generalize upd H il (.lst [])=H1 at s1 i1⊢;refine⟨QV rl wl ml p il h m H₀ H,
  ⟨_,0,mus,[],rfl,aS _,s0.trans s1,dW s1,s1 _ _ hm,i1,.nil,dm.mono λ_ _=>fc.mono (dW s1),rfl⟩,?_⟩
 rintro mm σ H2 ⟨j,us,ius,rfl,hj,s2,t2,m2,i2,di,du,rfl⟩;have hli:=di.length;rw[ag,bZ (by lia)]at hli;have row2:=t2 _ _ hrow;refine⟨.inl (eL.of i2),eD.of row2,tY,_,rfl,?_⟩;by_cases hlt:j<h.ar
 ·refine fI (decide_eq_true (by lia)) ?_;refine⟨SW.Lt (QV rl wl ml p il h m H₀ H) (h.ar-j),λ_ _ z=>z,?_⟩;obtain⟨x,hx⟩:∃x,m[j]?=some x:=⟨m[j]'(by lia),aU _⟩;have hd:m.drop j=x::m.drop (j+1):=by obtain⟨h1,h2⟩:=aK.mp hx;rw[bR h1,h2]
  rw[hd,aj]at du;have hne:us≠[]:=λz=>by have:=du.length;rw[z]at this;simp at this
  obtain⟨us,u1,rfl⟩:=gI hne;obtain⟨bs,b,eb,d1,d2⟩:=du.snoc;obtain⟨rfl,rfl⟩:bs=(m.drop (j+1)).reverse/\b=x:=by have:=List.append_inj' eb rfl;exact⟨this.1.symm,by simpa using this.2.symm⟩
  refine⟨.inl ⟨rfl,_,eL.of i2⟩,.inl ⟨rfl,_,eL.of m2⟩,m2,iO,?_⟩;rw[gk];have t3:fF H2 (upd H2 ml (.lst us)):=fA m2;have s3:dq H₀ (upd H2 ml (.lst us)):=eJ s2 nm;have m3:(upd H2 ml (.lst us)) ml=some (.lst us):=dP;have i3:(upd H2 ml (.lst us)) il=some (.lst ius):=by rw[dY nim];exact i2
  generalize upd H2 ml (.lst us)=H3 at t3 s3 m3 i3⊢;refine⟨i3,by rw[sizeLine_eq];lia,?_⟩;have t4:fF H3 (upd H3 il (.lst (ius++[u1]))):=fA i3;refine⟨h.ar-(j+1),by lia,j+1,us,ius++[u1],rfl,hlt,eJ s3 hil0,t2.trans (t3.trans t4),by rw[dY nim.symm];exact m3,dP,?_,d1.mono λ_ _=>fc.mono (t3.trans t4),rfl⟩;rw[ay,hx];exact(di.mono λ_ _=>fc.mono (t3.trans t4)).append (.one (d2.mono (t3.trans t4)))
 ·refine eU (decide_eq_false (by lia)) ?_;have ej:j=h.ar:=by lia
  subst ej;have hhd2:=t2 _ _ hhd;have hv2:=Oo h;refine⟨.inl ⟨rfl,_,eL.of m2⟩,eD.of row2,iM,il,_,rfl,.inl ⟨eL.of i2,eY λq H3 hq s3 g3=>?_⟩⟩;refine Mf (s3 _ _ hhd2) g3 (by rw[sizeLine_eq];lia) λr H4 s4 g4=>?_;have s24:=s3.trans s4;have m4:=s24 _ _ m2;have dul:=du.length;rw[bG,ah]at dul;refine⟨m4,by rw[sizeLine_eq];lia,?_⟩;have t5:fF H4 (upd H4 ml (.lst (us++[.ref r]))):=fA m4;refine k _ _ _ (eJ (s2.trans s24) nm) dP ?_;rw[aj];refine((du.mono λ_ _=>fc.mono (dW s24)).mono λ_ _=>fc.mono t5).append (.one ?_);refine J9 (by rw[ag];lia) ((di.mono λ_ _=>fc.mono (dW s24)).mono λ_ _=>fc.mono t5) (t5 _ _ g4)
theorem Pr(h:Eo vs H Q E):Nt K (fk Q) (start ["rows","written","made","row","inner"] vs) H:=by
 obtain⟨N,rl,wl,R,rus,W,wus,rfl,hr,dr,hw,dw,bd,rok,hz,k⟩:=h;refine⟨fL,eY λml H1 hml s1 m1=>?_⟩;have hrl:=dr.length;refine⟨eL.of (s1 _ _ hr),?_⟩;refine ut (K:=K) (a:=rl) (xs:=rus) (λi σ H'=>∃(j3 j4:Option V)(mus:List V),σ=[some (.ref rl),some (.ref wl),some (.ref ml),j3,j4]/\dq H H'/\H' ml=some (.lst mus)/\Al (fc H') (mC (W.map Prod.fst) (R.drop (R.length-i))).reverse mus)
  ⟨none,none,[],rfl,s1,m1,by rw[bh,List.drop_length];exact .nil⟩ (λi σ H' _ hP=>?_) ?_ ?_
 ·obtain⟨_,_,_,_,s,_⟩:=hP;exact eL.of (s _ _ hr)
 ·rintro i y σ H2 hi hy ⟨j3,j4,mus,rfl,s2,m2,dm⟩;obtain⟨r,hrr,rat⟩:=dr.get hy;rw[hrl]at hrr hi;have hdr:=AF hi hrr;have rat:=rat.mono (dW s2);obtain⟨c,hbd⟩:∃c,Bd (R.drop (R.length-(i+1))) c:=yj (a:=R.take (R.length-(i+1))) (by rw[b5];exact bd);rw[hdr]at hbd;have hbl:∃c,Bd (R.drop (R.length-i)) (r.ar+c):=by
   cases hbd with
   | cons hb=>exact⟨_,hb⟩
  obtain⟨c,hbl⟩:=hbl;have hml2:=pF (W:=W.map Prod.fst) hbl;have hbz:(mC (W.map Prod.fst) (R.drop (R.length-i))).length<=9000000:=by
   have:∀{b:List Rw}{c:Nat},Bd b c->c<=b.length:=λh=>by
    induction h with
    | nil=>exact aC _
    | cons _ ih=>rw[aD];lia
   have:=this hbl;rw[ah]at this;lia
  rw[hdr];cases r with
  | rdy n z=>
   obtain⟨p,rfl,hp⟩:=rat;have hn:n<W.length:=(rok _ (aZ hrr)).2;obtain⟨w,hW⟩:∃w,W[n]?=some w:=⟨W[n],aU _⟩;obtain⟨v,hv,pw,xw,lw,usw,rfl,hpw,dxw,_⟩:=dw.getA hW;refine⟨eD.of hp,gF,rfl,_,rfl,fI (by decide) ?_⟩;have dml:=dm.length;rw[bG]at dml;refine⟨.inl ⟨rfl,_,eL.of m2⟩,eD.of hp,iM,eL.of (s2 _ _ hw),fK hv,eD.of (s2 _ _ hpw),gF,m2,by rw[sizeLine_eq];lia,?_⟩;have t3:fF H2 (upd H2 ml (.lst (mus++[xw]))):=fA m2;refine⟨_,_,mus++[xw],rfl,eJ s2 hml,dP,?_⟩;have eW:(W.map Prod.fst)[n]?.getD (.num 0)=w.1:=by rw[aT,hW];rfl
   simp only[mC,zQ,eW,aj];exact(dm.mono λ_ _=>fc.mono t3).append (.one ((dxw.mono (dW s2)).mono t3))
  | row h src path=>
   have rat0:=rat;obtain⟨p,hp,sx,rfl,hrow,hhd,hsx⟩:=rat;refine⟨eD.of hrow,gF,rfl,_,rfl,eU (by decide) ?_⟩;have har:h.ar<=(mC (W.map Prod.fst) (R.drop (R.length-i))).length:=by rw[hml2];simp only[Rw.ar];lia
   exact Jb s2 hml rat0 m2 dm har (by lia) λj4 us H3 s3 m3 d3=>⟨_,_,us,rfl,s3,m3,by simp only[mC,zQ];exact d3⟩
 ·rintro σ H2 ⟨j3,j4,mus,rfl,s2,m2,dm⟩;rw[hrl,bB,af]at dm;have hl:=pF (W:=W.map Prod.fst) bd;obtain⟨t,ht⟩:=List.length_eq_one_iff.mp hl;rw[ht]at dm;cases dm with|cons d0 dn=>cases dn with|nil=>
  refine⟨.inl ⟨rfl,_,eL.of m2⟩,m2,rfl,?_⟩;exact k _ t _ (eJ s2 hml) ht (d0.mono (fA m2))
def PF(W:List (T×List kh))(n z:Nat):Prop:=∃w,W[n]?=some w/\w.2.length<=z
def LL:Sp:=λvs H Q _=>∃(N:Addr->Prop)(rl wl:Addr)(R:List Rw)(rus:List V)(W:List (T×List kh))(wus:List V),vs=[.ref rl,.ref wl]/\H rl=some (.lst rus)/\Al (jL H) R rus/\H wl=some (.lst wus)/\Al (kx N H) W wus/\(∀r∈R,r.ok (PF W))/\kr R<=9000000/\
 ∀(l:Addr)(us:List V)(H':Hp),dq H H'->H l=none->H' l=some (.lst us)->Al (ky H') (iH (W.map Prod.snd) R) us->Q (.ref l) H'
def HX(K:aA):TS:=(eX (iW K "list" mZ (dJ 2) (dI (dj (dy K) (dj (fu K) (dJ 1) (dj (dy K) (dJ 3) (tC (.int 1)))) (tC (.int 1))) dQ)))
def HW(K:aA):TS:=(eX (iW K "list" eE (dJ 2) (dI (dj (dy K) (dJ 3) (tC (.int 3))) dQ)))
def HV(K:aA):TS:=(fE (dz (dj ic (dj (dy K) (dJ 3) (tC (.int 0))) (tC (.str "ready")))) (HX K) (HW K))
def Nm(K:aA):TS:=(dZ (eB (fG dQ) (dR 2)) (dZ (iV (iT K (dJ 0)) (dR 3) (HV K)) (fD (dJ 2))))
theorem Dy(R:List Rw)(i:Nat):kr (R.take i)<=kr R:=by have e:=mE (R.take i) (R.drop i);rw[b5]at e;lia
def Qr(rl wl sl:Addr)(H:Hp)(W:List (T×List kh))(R:List Rw)(i:Nat)(σ:St)(H':Hp):Prop:=∃(j3:Option V)(sus:List V),σ=[some (.ref rl),some (.ref wl),some (.ref sl),j3]/\dq H H'/\H' sl=some (.lst sus)/\Al (ky H') (iH (W.map Prod.snd) (R.take i)) sus
theorem Po(h:LL vs H Q E):Nm K (fk Q) (start ["rows","written","sources","row"] vs) H:=by
 obtain⟨N,rl,wl,R,rus,W,wus,rfl,hr,dr,hw,dw,rok,hz,k⟩:=h;refine⟨fL,eY λsl H1 hsl s1 m1=>?_⟩;have hrl:=dr.length;have rokS:∀r∈R,r.ok (PD (W.map Prod.snd)):=λr h=>Rw.ok_mono (λn z ⟨w,e,l⟩=>⟨w.2,by rw[aT,e];rfl,l⟩) (rok r h);refine⟨eL.of (s1 _ _ hr),?_⟩;refine gZ (K:=K) (a:=rl) (xs:=rus) (Qr rl wl sl H W R)
  ⟨none,[],rfl,s1,m1,.nil⟩ (λi σ H' _ hP=>?_) ?_ ?_
 ·obtain⟨_,_,_,s,_⟩:=hP;exact eL.of (s _ _ hr)
 ·rintro i y σ H2 hi ⟨j3,sus,rfl,s2,m2,ds⟩;obtain⟨r,hrr,rat⟩:=dr.get hi;have rat:=rat.mono (dW s2);have htk:R.take (i+1)=R.take i++[r]:=by rw[ay,hrr];rfl
  have hsl1:=ds.length;have hsl2:=mT (W:=W.map Prod.snd) (b:=R.take (i+1)) λr h=>rokS r (dE h);have hsl3:=Dy R (i+1);rw[htk,gM,aE]at hsl2;rw[htk]at hsl3;cases r with
  | rdy n z=>
   obtain⟨p,rfl,hp⟩:=rat;obtain⟨_,w,hW,hwl⟩:=rok _ (aZ hrr);obtain⟨v,hv,pw,xw,lw,usw,rfl,hpw,dxw,hlw,dlw,_⟩:=dw.getA hW;have eW:(W.map Prod.snd)[n]?.getD []=w.2:=by rw[aT,hW];rfl
   have hdl:=dlw.length;simp only[iH,eW,aX]at hsl2;refine⟨eD.of hp,gF,rfl,_,rfl,fI (by decide) ?_⟩;refine⟨.inl ⟨rfl,_,eL.of m2⟩,eD.of hp,iM,eL.of (s2 _ _ hw),fK hv,eD.of (s2 _ _ hpw),iM,sl,lw,_,_,rfl,rfl,m2,s2 _ _ hlw,by rw[sizeLine_eq];lia,?_⟩;have t3:fF H2 (upd H2 sl (.lst (sus++usw))):=fA m2;exact⟨_,sus++usw,rfl,eJ s2 hsl,dP,by rw[htk,gM];simp only[iH,eW,aX];exact(ds.mono λ_ _=>ky.mono t3).append ((dlw.mono λ_ _=>ky.mono (dW s2)).mono λ_ _=>ky.mono t3)⟩
  | row h src path=>obtain⟨p,hp,sx,rfl,hrow,hhd,hsx⟩:=rat;simp only[iH]at hsl2;refine⟨eD.of hrow,gF,rfl,_,rfl,eU (by decide) ?_⟩;refine⟨.inl ⟨rfl,_,eL.of m2⟩,eD.of hrow,rL,m2,by rw[sizeLine_eq];lia,?_⟩;have t3:fF H2 (upd H2 sl (.lst (sus++[sx]))):=fA m2;exact⟨_,sus++[sx],rfl,eJ s2 hsl,dP,by rw[htk,gM];simp only[iH];exact(ds.mono λ_ _=>ky.mono t3).append (.one (hsx.mono t3))⟩
 ·rintro σ H2 ⟨j3,sus,rfl,s2,m2,ds⟩;rw[hrl,a6]at ds;exact(k sl sus H2 s2 hsl m2 ds)
def vb:Sp:=λvs H Q _=>∃(N:Addr->Prop)(rl wl:Addr)(R:List Rw)(rus:List V)(W:List (T×List kh))(wus:List V),vs=[.ref rl,.ref wl]/\H rl=some (.lst rus)/\Al (jL H) R rus/\H wl=some (.lst wus)/\Al (kx N H) W wus/\Bd R 1/\(∀r∈R,r.ok (PF W))/\kr R<=9000000/\
 ∀(u:V)(t:T)(H':Hp),dq H H'->mC (W.map Prod.fst) R=[t]->kx (λl=>H l=none) H' (t,iH (W.map Prod.snd) R) u->Q u H'
def Na(K:aA):TS:=(fD (ef (dI (eN Eo [] E0 (dI (dJ 0) (dI (dJ 1) dQ))) (dI (eN LL [] E0 (dI (dJ 0) (dI (dJ 1) dQ))) dQ))))
theorem Pf(h:vb vs H Q E):Na K (fk Q) (start ["rows","written"] vs) H:=by obtain⟨N,rl,wl,R,rus,W,wus,rfl,hr,dr,hw,dw,bd,rok,hz,k⟩:=h;have hlen:=kU rok;refine⟨N,rl,wl,R,rus,W,wus,rfl,hr,dr,hw,dw,bd,λr h=>Rw.ok_mono (λn z ⟨w,e,_⟩=>(aK.mp e).1) (rok r h),by lia,λv t H1 s1 hb dv=>?_⟩;refine⟨N,rl,wl,R,rus,W,wus,rfl,s1 _ _ hr,dr.mono λ_ _=>jL.mono (dW s1),s1 _ _ hw,dw.mono λ_ _=>kx.mono s1,rok,hz,λl us H2 s2 n2 hl ds=>⟨fL,λp hp=>?_⟩⟩;have s3:=dS (o:=.tup [v,.ref l]) hp;exact k _ t _ ((s1.trans s2).trans s3) hb ⟨p,v,l,us,rfl,dP,dv.mono (dW (s2.trans s3)),s3 _ _ hl,ds.mono λ_ _=>ky.mono (dW s3),s1.free n2⟩
inductive mz:List (List Rw)->List (T×List kh)->Prop where
 | nil:mz [] []
 | snoc{rd:List (List Rw)}{W:List (T×List kh)}{R:List Rw}{t:T}:mz rd W->mC (W.map Prod.fst) R=[t]->mz (rd++[R]) (W++[(t,iH (W.map Prod.snd) R)])
theorem oI.front(h:oI (rd++[R])):oI rd/\Bd R 1/\∀r∈R,r.ok (Rf rd):=by
 refine⟨λi R' e=>?_,?_⟩
 ·have hi:i<rd.length:=(aK.mp e).1;have:=h i R' (by rw[au hi];exact e);rw[dD (bI hi)]at this;exact this
 ·have:=h rd.length R (by simp);rw[cZ]at this;exact this
structure DY(rd:List (List Rw))(W:List (T×List kh)):Prop where
 len:W.length=rd.length
 all:∀(i:Nat)(R:List Rw)(w:T×List kh),rd[i]?=some R->W[i]?=some w->w.1.size<=kr R/\w.2.length<=kr R/\¬oG w.1
theorem DY.rf(f:DY rd W):∀n z,Rf rd n z->PF W n z/\QS (W.map Prod.fst) n z/\PD (W.map Prod.snd) n z:=by
 rintro n z ⟨R,e,h⟩;have hn:n<rd.length:=(aK.mp e).1;have hn2:n<W.length:=by rw[f.len];exact hn
 have eW:W[n]?=some W[n]:=aU hn2;generalize W[n]=w at eW;obtain⟨h1,h2,h3⟩:=f.all n R w e eW;exact⟨⟨w,eW,by lia⟩,⟨w.1,by rw[aT,eW];rfl,by lia,h3⟩,⟨w.2,by rw[aT,eW];rfl,by lia⟩⟩
theorem DY.one(f:DY rd W)(bd:Bd R 1)(ok:∀r∈R,r.ok (Rf rd))(hb:mC (W.map Prod.fst) R=[t]):t.size<=kr R/\(iH (W.map Prod.snd) R).length<=kr R/\¬oG t:=by obtain⟨h1,h2⟩:=vB bd (λr h=>Rw.ok_mono (λn z q=>(f.rf n z q).2.1) (ok r h));rw[hb]at h1 h2;refine⟨?_,mT λr h=>Rw.ok_mono (λn z q=>(f.rf n z q).2.2) (ok r h),h2 t (.head _)⟩;rw[ft,iS]at h1;lia
theorem qg(h:mz rd W):oI rd->DY rd W:=by
 induction h with
 | nil=>exact λ_=>⟨rfl,λi R w e=>by simp at e⟩
 | @snoc rd W R t _ hb ih=>
  intro ok;obtain⟨ok1,bd,ro⟩:=ok.front;have f:=ih ok1;have g:=f.one bd ro hb;refine⟨by simp[f.len],λi R' w e1 e2=>?_⟩;rcases bE i rd.length with hi|hi
  ·rw[au hi]at e1;rw[au (by rw[f.len];exact hi)]at e2;exact f.all i R' w e1 e2
  ·have hi2:i<(rd++[R]).length:=(aK.mp e1).1;rw[aE,a5]at hi2;have ei:i=rd.length:=by lia
   subst ei;rw[bC (aC _),bB]at e1;rw[<-f.len,bC (aC _),bB]at e2;cases e1;cases e2;exact g
def Bb(C D:Addr):Sp:=λvs H Q _=>∃(op dx b:Addr)(v1 v2 v3 u:V)(bo:Bo)(t:T)(F:Nat),vs=[.ref op,.ref b,u,.int (F:Int)]/\H op=some (.ins C dx [])/\H b=some (.lst [v1,v2,v3])/\rM H v1 v2 v3 bo/\fc H t u/\(∀y∈[t,bo.x,bo.y,bo.z],y.size<=900/\y.names.length<64)/\
 ∀(A:Ad)(ws:List Str)(H':Hp),A.op=op->fV C D A bo F (λa=>a≠A.yl) 0 ws [] H'->H A.lp=none->H A.tk=none->H A.yl=none->(∀x,x∈ws↔∃y∈[t,bo.x,bo.y,bo.z],y.out x)->ws.length<=252->Ex [op] H H'->Q .non H'
def Nw(K:aA)(a_Opening a_FreshWords:Addr):TS:=(dZ (uO K (dJ 0) (eN kE [] E0 (dI (dJ 1) dQ)) "stamps") (dZ (uO K (dJ 0) (uH a_FreshWords (xn a_FreshWords) [] E0 (dI (eN xq [] E0 (dI (dJ 1) (dI (dJ 2) dQ))) dQ)) "lets") (dZ (uO K (dJ 0) (dJ 3) "fuel") (dZ (uO K (dJ 0) (tC (.int 0)) "many") (uO K (dJ 0) (fG dQ) "ready")))))
def NE(sd:Addr):List (Str×V):=[("stamps",.ref sd)]
def GX(sd lp:Addr):List (Str×V):=[("stamps",.ref sd),("lets",.ref lp)]
def GW(sd lp:Addr)(F:Nat):List (Str×V):=[("stamps",.ref sd),("lets",.ref lp),("fuel",.int (F:Int))]
def GV(sd lp:Addr)(F:Nat):List (Str×V):=[("stamps",.ref sd),("lets",.ref lp),("fuel",.int (F:Int)),("many",.int 0)]
theorem Ql:gv "lets" (.ref lp) (NE sd)=GX sd lp:=by simp only[NE,GX,gv,if_neg (show ¬("stamps":Str)="lets" by decide)]
theorem Qk{sd lp:Addr}{F:Nat}:gv "fuel" (.int (F:Int)) (GX sd lp)=GW sd lp F:=by simp only[GX,GW,gv,if_neg (show ¬("stamps":Str)="fuel" by decide),if_neg (show ¬("lets":Str)="fuel" by decide)]
theorem Qj:gv "many" (.int 0) (GW sd lp F)=GV sd lp F:=by simp only[GW,GV,gv,if_neg QJ,if_neg QK,if_neg QL]
theorem Qi:gv "ready" (.ref yl) (GV sd lp F)=lY sd lp F 0 yl:=by simp only[gv,GV,lY,if_neg (show ¬("stamps":Str)="ready" by decide),if_neg (show ¬("lets":Str)="ready" by decide),if_neg (show ¬("fuel":Str)="ready" by decide),if_neg (show ¬("many":Str)="ready" by decide)];rfl
theorem Pw(ro:RO K C)(h:Bb C D vs H Q E):Nw K C D (fk Q) (start ["self","book","piece","fuel"] vs) H:=by
 obtain⟨op,dx,b,v1,v2,v3,u,bo,t,F,rfl,ho,hb,bk,hd,hs,k⟩:=h;refine⟨b,v1,v2,v3,_,_,_,rfl,hb,bk.g,λsd H1 s1 n1 g1=>?_⟩;refine⟨op,C,dx,[],rfl,s1 _ _ ho,ro.cl,ro.nS,by show 0<1000;decide,?_⟩;have nos:op≠sd:=dX ho n1;have o2:(upd H1 op (.ins C dx (gv "stamps" (.ref sd) []))) op=some (.ins C dx (NE sd)):=dP;have e2:Ex [op] H1 (upd H1 op (.ins C dx (gv "stamps" (.ref sd) []))):=Ex.upd (by simp);generalize upd H1 op (.ins C dx (gv "stamps" (.ref sd) []))=H2 at o2 e2⊢;have e02:Ex [op] H H2:=(Ex.same s1).trans e2;have bk2:rM H2 v1 v2 v3 bo:=by
  have st:∀{w:Str}{ps:List Str}{g:G}{v:V},jz H w ps g v->jz H2 w ps g v:=λ{w ps g v} ⟨p,l,x,e,h1,h2,h3⟩=>
   ⟨p,l,x,e,e02 _ _ (λq=>by rw[aF]at q;subst q;rw[ho]at h1;cases h1) h1,e02 _ _ (λq=>by rw[aF]at q;subst q;rw[ho]at h2;cases h2) h2,h3.mono λa xs z=>e02 _ _ (λq=>by rw[aF]at q;subst q;rw[ho]at z;cases z) z⟩
  exact⟨st bk.a,st bk.b,st bk.c⟩
 have hb2:H2 b=some (.lst [v1,v2,v3]):=e02 _ _ (λq=>by rw[aF]at q;subst q;rw[ho]at hb;cases hb) hb;have hd2:fc H2 t u:=hd.mono λa xs z=>e02 _ _ (λq=>by rw[aF]at q;subst q;rw[ho]at z;cases z) z;have g2:H2 sd=some (.dK (zw v1 v2 v3)):=e2 _ _ (λq=>nos (aF.mp q).symm) g1;refine⟨b,v1,v2,v3,u,bo,t,rfl,hb2,bk2,hd2,hs,λl us H3 s3 n3 g3 hlen hus=>?_⟩;intro lp lx hlp hlx nlx;have nlx':lp≠lx:=nlx.symm;have s4:dq H3 (upd (upd H3 lx (.own lp)) lp (.ins D lx [])):=λc o z=>by rw[dY (dX z hlp),dY (dX z hlx)];exact z
 have p4:(upd (upd H3 lx (.own lp)) lp (.ins D lx [])) lp=some (.ins D lx []):=dP;generalize upd (upd H3 lx (.own lp)) lp (.ins D lx [])=H4 at s4 p4⊢;refine⟨lp,lx,l,us,rfl,p4,s4 _ _ g3,by lia,λtk ws H5 ntk hws hwl e5 fw5=>⟨rfl,?_⟩⟩;have s24:=s3.trans s4;have nlp2:H2 lp=none:=s3.free hlp;have ntk2:H2 tk=none:=s24.free ntk;have e25:Ex [lp] H2 H5:=λc o n z=>e5 _ _ (λq=>n (by rw[q];simp)) (s24 _ _ z);have nop:op≠lp:=dX o2 nlp2;have o5:H5 op=some (.ins C dx (NE sd)):=e25 _ _ (by simp[nop]) o2;refine⟨op,C,dx,_,rfl,o5,ro.cl,ro.nL,by show 1<1000;decide,?_⟩;rw[Ql];have o6:(upd H5 op (.ins C dx (GX sd lp))) op=some (.ins C dx (GX sd lp)):=dP;have e6:Ex [op] H5 (upd H5 op (.ins C dx (GX sd lp))):=Ex.upd (by simp);generalize upd H5 op (.ins C dx (GX sd lp))=H6 at o6 e6⊢;refine⟨op,C,dx,_,rfl,o6,ro.cl,ro.nF,by show 2<1000;decide,?_⟩;rw[Qk];have o7:(upd H6 op (.ins C dx (GW sd lp F))) op=some (.ins C dx (GW sd lp F)):=dP;have e7:Ex [op] H6 (upd H6 op (.ins C dx (GW sd lp F))):=Ex.upd (by simp);generalize upd H6 op (.ins C dx (GW sd lp F))=H7 at o7 e7⊢;refine⟨op,C,dx,_,rfl,o7,ro.cl,ro.nM,by show 3<1000;decide,?_⟩;rw[Qj];have o8:(upd H7 op (.ins C dx (GV sd lp F))) op=some (.ins C dx (GV sd lp F)):=dP;have e8:Ex [op] H7 (upd H7 op (.ins C dx (GV sd lp F))):=Ex.upd (by simp);generalize upd H7 op (.ins C dx (GV sd lp F))=H8 at o8 e8⊢;refine⟨fL,λyl hyl=>⟨op,C,dx,_,rfl,(dS hyl) _ _ o8,ro.cl,ro.nR,by show 4<1000;decide,?_⟩⟩;have s9:dq H8 (upd H8 yl (.lst [])):=dS hyl;have y9:(upd H8 yl (.lst [])) yl=some (.lst []):=dP;have o9:=s9 _ _ o8;generalize upd H8 yl (.lst [])=H9 at s9 y9 o9⊢;rw[Qi];have e10:Ex [op] H9 (upd H9 op (.ins C dx (lY sd lp F 0 yl))):=Ex.upd (by simp);have o10:(upd H9 op (.ins C dx (lY sd lp F 0 yl))) op=some (.ins C dx (lY sd lp F 0 yl)):=dP;have noy:yl≠op:=(dX o8 hyl).symm;have y10:(upd H9 op (.ins C dx (lY sd lp F 0 yl))) yl=some (.lst []):=e10 _ _ (by simp[noy]) y9;generalize upd H9 op (.ins C dx (lY sd lp F 0 yl))=H10 at e10 o10 y10⊢;have e510:Ex [op] H5 H10:=e6.trans (e7.trans (e8.trans ((Ex.same s9).trans e10)));have e210:Ex [op,lp] H2 H10:=(e25.more (by simp)).trans (e510.more (by simp));have ns:∀a o,H2 a=some o->a≠op->H10 a=some o:=λa o z n=>e210 _ _ (by simp[n,dX z nlp2]) z;have nyl2:H2 yl=none:=by
  cases q:H2 yl with
  | none=>rfl
  | some o=>have:=ns yl o q noy;rw[y10]at this;cases this;have h5:H5 yl=some (.lst []):=e25 _ _ (by simp[dX q nlp2]) q;have h8:H8 yl=some (.lst []):=(e6.trans (e7.trans e8)) _ _ (by simp[noy]) h5;rw[h8]at hyl;cases hyl
 have nOf:∀a,H2 a=none->H a=none:=λa z=>by
  cases q:H a with
  | none=>rfl
  | some o=>
   by_cases ha:a=op
   ·subst ha;rw[o2]at z;cases z
   ·have:=e02 a o (by simp[ha]) q;rw[this]at z;cases z
 have stn:∀{w:Str}{ps:List Str}{tt:T}{v:V},jz H w ps (gD tt) v->Di (λa=>a≠yl) H10 w ps tt v:=λ{w ps tt v} ⟨p,l,x,e,h1,h2,h3⟩=>by have toH:∀a o,H a=some o->a≠op->H10 a=some o:=λa o z n=>ns a o (e02 _ _ (by simp[n]) z) n;refine⟨p,l,x,e,toH _ _ h1 (fM h1 ho (by intro z;cases z)),toH _ _ h2 (fM h2 ho (by intro z;cases z)),dX h2 (nOf _ nyl2),(gm h3).mono λa xs z=>toH _ _ z (fM z ho (by intro z;cases z))⟩
 have ntp:tk≠op:=(dX o2 ntk2).symm;refine k ⟨op,dx,sd,lp,lx,tk,yl,v1,v2,v3⟩ ws H10 rfl ⟨o10,⟨0,⟨e510 _ _ (by simp[nop.symm]) fw5.ob,e510 _ _ (by simp[ntp]) fw5.dk⟩,?_⟩,ns _ _ g2 nos.symm,dX g2 ntk2,stn bk.a,stn bk.b,stn bk.c,[],y10,.nil⟩ (nOf _ nlp2) (nOf _ ntk2) (nOf _ nyl2) (λx=>by rw[hws,hus]) (by lia) ?_
 ·have:=ye 0 ws;lia
 ·refine e02.trans (Ex.new (l':=[op,lp]) (λa ha=>?_) e210);simp only[aB,aG,or_false]at ha⊢;rcases ha with z|rfl
  ·exact .inl z
  ·exact .inr nlp2
end S9
namespace S9
open PySem L2 SW
variable {K:aA}{vs:List V}{H:Hp}{Q:VK}{E:XK}{C D Nst:Addr}
structure yr(bo:Bo)(t:T)(F:Nat):Prop where
 bk:tW bo
 bt:BT t [] 0
 sm:∀ws:List Str,ws.length<=252->(∀x,x∈ws↔∃y∈[t,bo.x,bo.y,bo.z],y.out x)->∀st,tR bo F (st0 t ws) st->st.k<=F->DW st
structure yp(bo:Bo)(t:T)(F:Nat)(ws:List Str)(st:oH)(W:List (T×List kh))(tt:T):Prop where
 ws_:∀x,x∈ws↔∃y∈[t,bo.x,bo.y,bo.z],y.out x
 wl:ws.length<=252
 rch:tR bo F (st0 t ws) st
 emp:st.S=[]
 few:st.k<=F
 wr:mz st.rd W
 out:mC (W.map Prod.fst) st.R=[tt]
def EN:TS:=(fD (ef (dI (tC (.str "more")) dQ)))
def EM(K:aA):TS:=(fE (dz (dj nK (kB K (dJ 3) "many") (dJ 2))) EN fC)
def EK(K:aA):TS:=(eX (iW K "list" eE (dJ 5) (dI (eN vb [] E0 (dI (dJ 6) (dI (dJ 5) dQ))) dQ)))
def Qy(b:Addr)(u:V)(F:Nat)(op rl wl:Addr)(H7:Hp)(st:oH)(i:Nat)(σ:St)(H':Hp):Prop:=∃(j6:Option V)(W:List (T×List kh))(wus:List V),σ=[some (.ref b),some u,some (.int (F:Int)),some (.ref op),some (.ref rl),some (.ref wl),j6,none]/\dq H7 H'/\H' wl=some (.lst wus)/\Al (kx (λl=>l≠wl) H') W wus/\mz (st.rd.take i) W
theorem vo(ro:RO K C)(hb:H b=some (.lst [v1,v2,v3]))(B:rM H v1 v2 v3 bo)(dg:DG H (gD t) u)(ask:yr bo t F)
  (kM:∀(p:Addr)(ws:List Str)(st:oH)(H':Hp),dq H H'->H' p=some (.tup [.str "more"])->(∀x,x∈ws↔∃y∈[t,bo.x,bo.y,bo.z],y.out x)->tR bo F (st0 t ws) st->F<st.k->Q (.ref p) H')
  (kD:∀(p l:Addr)(x:V)(us:List V)(ws:List Str)(st:oH)(W:List (T×List kh))(tt:T)(H':Hp),dq H H'->H' p=some (.tup [.str "done",x,.ref l,.int (st.k:Int)])->yp bo t F ws st W tt->fc H' tt x->H' l=some (.lst us)->Al (ky H') (iH (W.map Prod.snd) st.R) us->Q (.ref p) H'):
  (dZ (eB (uH C (Bb C D) [] E0 (dI (dJ 0) (dI (dJ 1) (dI (dJ 2) dQ)))) (dR 3)) (dZ (eB (ji C "rows_of" (mU C D) [] E0 (dJ 3) (dI (ef (dI (dJ 1) (dI (tC (.str "")) (dI (ef dQ) (dI iF dQ))))) dQ)) (dR 4)) (dZ (EM K) (dZ (eB (fG dQ) (dR 5)) (dZ (iV (iT K (kB K (dJ 3) "ready")) (dR 6) (EK K)) (dZ (eB (eN vb [] E0 (dI (dJ 4) (dI (dJ 5) dQ))) (dR 7)) (fD (ef (dI (tC (.str "done")) (dI (dj (dy K) (dJ 7) (tC (.int 0))) (dI (dj (dy K) (dJ 7) (tC (.int 1))) (dI (kB K (dJ 3) "many") dQ)))))))))))) (fk Q) [some (.ref b),some u,some (.int (F:Int)),none,none,none,none,none] H:=by
 have hz:∀y∈[t,bo.x,bo.y,bo.z],y.size<=900/\y.names.length<64:=λy hy=>by
  simp only[aB,aG,or_false]at hy;rcases hy with rfl|rfl|rfl|rfl
  ·exact ask.bt.2.2.2
  ·exact ask.bk.a.2.2.2
  ·exact ask.bk.b.2.2.2
  ·exact ask.bk.c.2.2.2
 refine ?_;intro op dx hop hdx ndx;have s2:dq H (upd (upd H dx (.own op)) op (.ins C dx [])):=λc o z=>by rw[dY (dX z hop),dY (dX z hdx)];exact z
 have p2:(upd (upd H dx (.own op)) op (.ins C dx [])) op=some (.ins C dx []):=dP;generalize upd (upd H dx (.own op)) op (.ins C dx [])=H2 at s2 p2⊢;have s12:=s2;have BT2:=B.mono s2;have du:fc H2 t u:=(gm dg).mono (dW s12);have nopH:H op=none:=hop;refine⟨op,dx,b,v1,v2,v3,u,bo,t,F,rfl,p2,s12 _ _ hb,BT2,du,hz,λA ws H3 eop O3 nlp ntk nyl hws hwl e3=>⟨rfl,?_⟩⟩;have s13:dq H H3:=λc o z=>e3 _ _ (λq=>by rw[aF]at q;subst q;rw[nopH]at z;cases z) (s12 _ _ z);have du3:fc H3 t u:=(gm dg).mono (dW s13);have ob3:=O3.ob;rw[eop]at ob3;refine⟨ob3,me,fL,eY λte H4 hte s4 g4=>?_⟩;intro nd hnd;have s5:=dS (o:=.dK []) hnd;have g5:(upd H4 nd (.dK [])) nd=some (.dK []):=dP;generalize upd H4 nd (.dK [])=H5 at s5 g5⊢;refine⟨fL,eY λsp H6 hsp s6 g6=>?_⟩;have s36:=s4.trans (s5.trans s6);have O6:=O3.same s36;have ndt:nd≠A.tk:=by obtain⟨n,f,_⟩:=O3.fw;exact(dX (s4 _ _ f.dk) hnd).symm
 have spm:hX (Nk A.tk) H6 ⟨t,"",[],.nil⟩ (.ref sp):=⟨sp,u,te,nd,[],rfl,g6,du3.mono (dW s36),s6 _ _ (s5 _ _ g4),ndt,s6 _ _ g5,rfl⟩;have no6:yo A (λa=>a≠A.yl) H6:=⟨λa z=>z,λa z=>by
  obtain⟨us,y,_⟩:=O6.yl;exact(dX y z).symm⟩
 refine Bt (.mk A bo F _ ws t (.ref sp) O6 no6 spm ask.bk ask.bt (λst r k=>ask.sm ws hwl hws st r k) λst rl rus H7 rch hst nrl hrl dr O7 e7=>?_) (by rw[eop];rfl);have s17:dq H H7:=λc o z=>e7 _ _ (λq=>by
  simp only[aB,aG,or_false]at q;have z2:=s12 _ _ z;rcases q with rfl|rfl|rfl|rfl
  ·rw[eop,nopH]at z;cases z
  ·rw[nlp]at z2;cases z2
  ·rw[ntk]at z2;cases z2
  ·rw[nyl]at z2;cases z2) ((s13.trans s36) _ _ z)
 have ob7:=O7.ob;rw[eop]at ob7;refine⟨ob7,ro.cl,ro.nM,lZ,_,rfl,?_⟩;by_cases hk:F<st.k
 ·refine fI (decide_eq_true (by lia)) ?_;refine⟨fL,λp hp=>?_⟩;have s8:=dS (o:=.tup [.str "more"]) hp;exact kM p ws st _ (s17.trans s8) dP hws rch hk
 ·refine eU (decide_eq_false (by lia)) ?_;have hk':st.k<=F:=by lia
  have hS:=hst hk';have I:=oq ask.bk rch (kO (ws:=ws) ask.bt);have SM:=ask.sm ws hwl hws st rch hk';have rdok:=I.rk hk';have bdR:Bd st.R 1:=by have:=I.pn;rw[hS]at this;have:=GQ this .nil;rwa[aX]at this
  have hwl0:=hwl;refine⟨fL,eY λwl H8 hwl s8 w8=>?_⟩;obtain⟨us,y7,dus⟩:=O7.yl;have hul:=dus.length;have hdl:=I.dl;have hfl:=SM.k;refine⟨s8 _ _ ob7,ro.cl,ro.nR,qE,eL.of (s8 _ _ y7),?_⟩;refine gZ (K:=K) (a:=A.yl) (xs:=us) (Qy b u F op rl wl H7 st)
   ⟨none,[],[],rfl,s8,w8,.nil,.nil⟩ (λi σ H' _ hP=>?_) ?_ ?_
  ·obtain⟨_,_,_,_,s,_⟩:=hP;exact eL.of (s _ _ y7)
  ·rintro i y σ H9 hi ⟨j6,W,wus,rfl,s9,w9,dw9,wr9⟩;obtain⟨R,hR,l,rvs,rfl,_,hl,drl⟩:=dus.get hi;have hil:i<st.rd.length:=(aK.mp hR).1;have htk:st.rd.take (i+1)=st.rd.take i++[R]:=by rw[ay,hR];rfl
   have rk2:oI (st.rd.take i++[R]):=by
    rw[<-htk];intro j R' e;have hj:j<i+1:=by have:=(aK.mp e).1;rw[ag]at this;lia
    rw[cr hj]at e;rw[List.take_take,bZ (by lia)];exact rdok j R' e
   obtain⟨rk1,bdr,okr⟩:=rk2.front;have fine:=qg wr9 rk1;have hwt:=SM.rd R (aZ hR);have hWl:=fine.len;rw[ag]at hWl;have hwul:=dw9.length;refine⟨.inl ⟨rfl,_,eL.of w9⟩,_,l,wl,R,rvs,W,wus,rfl,s9 _ _ hl,drl.mono λ_ _=>jL.mono (dW s9),w9,dw9,bdr,λr h=>Rw.ok_mono (λn z q=>(fine.rf n z q).1) (okr r h),by lia,λv tt H10 s10 hb10 wat=>?_⟩;have w10:=s10 _ _ w9;refine⟨w10,by rw[sizeLine_eq];lia,?_⟩;have wat2:kx (λl=>l≠wl) H10 (tt,iH (W.map Prod.snd) R) v:=wat.weak λl z=>(dX w9 z).symm;refine⟨_,W++[(tt,iH (W.map Prod.snd) R)],wus++[v],rfl,eJ (s9.trans s10) hwl,dP,((dw9.mono λ_ _=>kx.mono s10).mono λ_ _=>kx.put w10).append (.one (wat2.put w10)),?_⟩;rw[htk];exact .snoc wr9 hb10
  ·rintro σ H9 ⟨j6,W,wus,rfl,s9,w9,dw9,wr9⟩;rw[hul,a6]at wr9;have fine:=qg wr9 rdok;have hwt:=SM.wt;refine⟨_,rl,wl,st.R,rus,W,wus,rfl,s9 _ _ hrl,dr.mono λ_ _=>jL.mono (dW s9),w9,dw9,bdR,λr h=>Rw.ok_mono (λn z q=>(fine.rf n z q).1) (I.ro r h),by lia,λv tt H10 s10 hb10 wat=>?_⟩;obtain⟨pq,x,l,us2,rfl,h1,h2,h3,h4,_⟩:=wat;have ob10:=s10 _ _ (s9 _ _ ob7);refine⟨eD.of h1,gF,eD.of h1,iM,ob10,ro.cl,ro.nM,lZ,fL,λp hp=>?_⟩;have s11:=dS (o:=.tup [.str "done",x,.ref l,.int (st.k:Int)]) hp;exact kD p l x us2 ws st W tt _ (((s17.trans s9).trans s10).trans s11) dP ⟨hws,hwl0,rch,hS,hk',wr9,hb10⟩ (h2.mono (dW s11)) (s11 _ _ h3) (h4.mono λ_ _=>ky.mono (dW s11))
end S9
namespace S9
open PySem L2 SW
variable {K:aA}{vs:List V}{H:Hp}{Q:VK}{E:XK}{N:Addr}
def rb:Sp:=λvs H Q _=>∃d v1 v2 v3 g1 g2 g3 w ks u,vs=[.ref d,u]/\H d=some (.dK (zw v1 v2 v3))/\Bk H v1 v2 v3 g1 g2 g3/\DG H (.word "stamp" w ks) u/\jU w=some ks.length/\∀H',dq H H'->Q .non H'
def pY:Sp:=λvs H Q _=>∃d v1 v2 v3 g1 g2 g3 g u,vs=[.ref d,u]/\H d=some (.dK (zw v1 v2 v3))/\Bk H v1 v2 v3 g1 g2 g3/\DG H g u/\g.size<=5000/\(∀x,xA x g->Kz x)/\∀H',dq H H'->Q .non H'
def rq:Sp:=λvs H Q _=>∃b v1 v2 v3 g1 g2 g3 g u,vs=[.ref b,u]/\H b=some (.lst [v1,v2,v3])/\Bk H v1 v2 v3 g1 g2 g3/\DG H g u/\(∀y∈[g,g1,g2,g3],y.size<=5000/\∀x,xA x y->Kz x)/\∀H',dq H H'->Q .non H'
def Ee(K:aA):TS:=vY
def Ed(K:aA):TS:=(fE (tB (lQ (dJ 2) (dJ 0))) (Ee K) fC)
def Ec(K:aA):TS:=vY
def Eb(K:aA):TS:=(fE (dz (dj Dc (dJ 3) (dJ 4))) (Ec K) fC)
def LC(K:aA):TS:=(dZ (eB (dj (dy K) (dJ 1) (tC (.int 1))) (dR 2)) (dZ (Ed K) (dZ (eB (gx (ga K) (dI (eN iZ [] E0 (dI (dJ 1) dQ)) dQ)) (dR 3)) (dZ (eB (gx (ga K) (dI (dj (dy K) (kC (dJ 0) (dJ 2)) (tC (.int 1))) dQ)) (dR 4)) (Eb K)))))
def Eg(K:aA):TS:=(eX (eN rb [] E0 (dI (dJ 0) (dI (dJ 2) dQ))))
def Ef(K:aA):TS:=(fE (dz (dj ic (dj (dy K) (dJ 2) (tC (.int 0))) (tC (.str "stamp")))) (Eg K) fC)
def LD(K:aA):TS:=(iV (iT K (eN lT [] E0 (dI (dJ 1) dQ))) (dR 2) (Ef K))
def xV(K:aA):TS:=(eX (eN pY [] E0 (dI (dJ 2) (dI (dj (dy K) (dJ 3) (tC (.int 2))) dQ))))
def LE(K:aA):TS:=(dZ (eB (eN kE [] E0 (dI (dJ 0) dQ)) (dR 2)) (dZ (eX (eN pY [] E0 (dI (dJ 2) (dI (dJ 1) dQ)))) (iV (iT K (dJ 0)) (dR 3) (xV K))))
theorem OQ(h:rb vs H Q E):LC K (fk Q) (start ["stamps","use","word","handed","places"] vs) H:=by
 obtain⟨d,v1,v2,v3,g1,g2,g3,w,ks,u,rfl,hd,B,dg,hf,k⟩:=h;obtain⟨p,us,rfl,_,hp,dk⟩:=dg.open;refine⟨eD.of hp,iM,?_⟩;have dgt:=iR.k (k:=.inr w) hd;refine⟨dgt,_,rfl,?_⟩;rcases MM B w with⟨e,f⟩|⟨v,ps,g,e,st,f,hps⟩
 ·rw[f]at hf;cases hf
 ·rw[e]at dgt⊢;refine eU rfl ?_;refine⟨_,.ref p,rfl,dg,λq us' H1 s1 hq dk1=>?_⟩;have hl:us'.length=ks.length:=dk1.1;refine⟨.inr (eD.of hq),?_⟩;obtain⟨pp,l,x,rfl,hpp,hl1,_⟩:=st.mono s1;have dgt1:=iR.k (k:=.inr w) (s1 _ _ hd);rw[e]at dgt1;refine⟨dgt1,eD.of hpp,rfl,.inl (eL.of hl1),?_⟩;refine⟨rfl,_,rfl,?_⟩;rw[f]at hf;have:=Option.some.inj hf;rw[aO];exact eU (by simp[hl,this]) (k _ s1)
theorem OR(h:pY vs H Q E):LD K (fk Q) (start ["stamps","piece","current"] vs) H:=by
 obtain⟨d,v1,v2,v3,g1,g2,g3,g,u,rfl,hd,B,dg,hsz,hF,k⟩:=h;refine⟨g,u,rfl,dg,hsz,λl us L H1 s1 n1 h1 od dL=>⟨eL.of h1,?_⟩⟩;have hlen:=dL.1;refine gZ (K:=K) (a:=l) (xs:=us) (λi σ H'=>∃j2,σ=[some (.ref d),some u,j2]/\dq H1 H') ⟨none,rfl,dq.refl _⟩ (λi σ H' _ hP=>?_) ?_ ?_
 ·obtain⟨_,_,s⟩:=hP;exact eL.of (s _ _ h1)
 ·rintro i y σ H' hi ⟨j2,rfl,s⟩;have hil:i<us.length:=(aK.mp hi).1;have hg:L[i]?=some L[i]:=aU (by omega);generalize L[i]=c at hg;have hcm:xA c g:=(od.one c).mp (aZ hg);have dc:=(dL.2 i c y hg hi).mono (dW s);have dc0:=dc;obtain⟨p,ks,rfl,ok,hp,dk⟩:=dc.open;have h0:nC (c.hd++ks) 0=some (.str c.kind):=by cases c<;>exact gF
  refine⟨eD.of hp,h0,rfl,_,rfl,?_⟩;by_cases hk:c.kind="stamp"
  ·refine fI (by rw[hk];decide) ?_;cases c with
   | leaf k x=>
    have hk:k="stamp":=hk;subst hk;rcases ok with z|z
    ·exact absurd z (by decide)
    ·exact absurd z (by decide)
   | plain k x=>exact absurd hk ok.2.2.2
   | word k w kk=>have hk:k="stamp":=hk;subst hk;have sS:=s1.trans s;exact⟨d,v1,v2,v3,g1,g2,g3,w,kk,_,rfl,sS _ _ hd,B.mono sS,dc0,hF _ hcm rfl,λH2 s2=>⟨_,rfl,s.trans s2⟩⟩
  ·exact eU (nk hk) ⟨_,rfl,s⟩
 ·rintro σ H' ⟨j2,rfl,s⟩;exact k _ (s1.trans s)
theorem OS(h:rq vs H Q E):LE K (fk Q) (start ["book","piece","stamps","stamp"] vs) H:=by
 obtain⟨b,v1,v2,v3,g1,g2,g3,g,u,rfl,hb,B,dg,hsz,k⟩:=h;refine⟨b,v1,v2,v3,g1,g2,g3,rfl,hb,B,λd H1 s1 n1 hd=>?_⟩;have hg:=hsz g (by simp);refine⟨d,v1,v2,v3,g1,g2,g3,g,u,rfl,hd,B.mono s1,dg.mono (dW s1),hg.1,hg.2,λH2 s2=>?_⟩;have s12:=s1.trans s2;refine⟨eL.of (s12 _ _ hb),?_⟩;refine gZ (K:=K) (a:=b) (xs:=[v1,v2,v3]) (λi σ H'=>∃j3,σ=[some (.ref b),some u,some (.ref d),j3]/\dq H2 H') ⟨none,rfl,dq.refl _⟩ (λi σ H' _ hP=>?_) ?_ ?_
 ·obtain⟨_,_,s⟩:=hP;exact eL.of (s _ _ (s12 _ _ hb))
 ·rintro i y σ H' hi ⟨j3,rfl,s⟩;have s3:=s12.trans s;have B3:=B.mono s3;have go:∀(w:Str)(ps:List Str)(gg:G),jz H' w ps gg y->gg∈[g1,g2,g3]->∀D:fz,(∀σ H',(∃j3,σ=[some (.ref b),some u,some (.ref d),j3]/\dq H2 H')->D.nx σ H')->dR 3 y [some (.ref b),some u,some (.ref d),j3] H' λσ2 H2=>xV K D σ2 H2:=by intro w ps gg st hm D hD;obtain⟨p,l,x,rfl,hp,_,dx⟩:=st;have hg:=hsz gg (ax _ hm);exact⟨eD.of hp,rfl,d,v1,v2,v3,g1,g2,g3,gg,x,rfl,(s2.trans s) _ _ hd,B3,dx,hg.1,hg.2,λH4 s4=>hD _ _ ⟨_,rfl,s.trans s4⟩⟩
  match i,hi,go with
  | 0,hi,go=>cases hi;exact go _ _ _ B3.a (by simp) _ (λ_ _ z=>z)
  | 1,hi,go=>cases hi;have⟨_,z⟩:=B3.b;exact go _ _ _ z (by simp) _ (λ_ _ z=>z)
  | 2,hi,go=>cases hi;have⟨_,_,z⟩:=B3.c;exact go _ _ _ z (by simp) _ (λ_ _ z=>z)
  | n+3,hi,_=>simp at hi
 ·rintro σ H' ⟨j3,rfl,s⟩;exact k _ (s12.trans s)
end S9
namespace S9
open PySem L2 SW
variable {K:aA}{vs:List V}{H:Hp}{Q:VK}{E:XK}{C D Nst:Addr}
def rm(C D:Addr):Sp:=λvs H Q _=>∃(b:Addr)(v1 v2 v3 u:V)(t:T)(bo:Bo)(F:Nat),vs=[.ref b,u,.int (F:Int)]/\H b=some (.lst [v1,v2,v3])/\rM H v1 v2 v3 bo/\DG H (gD t) u/\(∀y∈[gD t,gD bo.x,gD bo.y,gD bo.z],y.size<=5000/\∀x,xA x y->Kz x)/\yr bo t F/\
  (∀(p:Addr)(ws:List Str)(st:oH)(H':Hp),dq H H'->H' p=some (.tup [.str "more"])->(∀x,x∈ws↔∃y∈[t,bo.x,bo.y,bo.z],y.out x)->tR bo F (st0 t ws) st->F<st.k->Q (.ref p) H')/\
  (∀(p l:Addr)(x:V)(us:List V)(ws:List Str)(st:oH)(W:List (T×List kh))(tt:T)(H':Hp),dq H H'->H' p=some (.tup [.str "done",x,.ref l,.int (st.k:Int)])->yp bo t F ws st W tt->fc H' tt x->H' l=some (.lst us)->Al (ky H') (iH (W.map Prod.snd) st.R) us->Q (.ref p) H')
def ES(K:aA)(a_Opening a_FreshWords:Addr):TS:=(fD (ef (dI (tC (.str "more")) dQ)))
def EQ(K:aA)(a_Opening a_FreshWords:Addr):TS:=(fE (dz (dj nK (kB K (dJ 3) "many") (dJ 2))) (ES K a_Opening a_FreshWords) fC)
def EO(K:aA)(a_Opening a_FreshWords:Addr):TS:=(eX (iW K "list" eE (dJ 5) (dI (eN vb [] E0 (dI (dJ 6) (dI (dJ 5) dQ))) dQ)))
def LB(K:aA)(a_Opening a_FreshWords:Addr):TS:=(dZ (eX (eN rq [] E0 (dI (dJ 0) (dI (dJ 1) dQ)))) (dZ (eB (uH a_Opening (Bb a_Opening a_FreshWords) [] E0 (dI (dJ 0) (dI (dJ 1) (dI (dJ 2) dQ)))) (dR 3)) (dZ (eB (ji a_Opening "rows_of" (mU a_Opening a_FreshWords) [] E0 (dJ 3) (dI (ef (dI (dJ 1) (dI (tC (.str "")) (dI (ef dQ) (dI iF dQ))))) dQ)) (dR 4)) (dZ (EQ K a_Opening a_FreshWords) (dZ (eB (fG dQ) (dR 5)) (dZ (iV (iT K (kB K (dJ 3) "ready")) (dR 6) (EO K a_Opening a_FreshWords)) (dZ (eB (eN vb [] E0 (dI (dJ 4) (dI (dJ 5) dQ))) (dR 7)) (fD (ef (dI (tC (.str "done")) (dI (dj (dy K) (dJ 7) (tC (.int 0))) (dI (dj (dy K) (dJ 7) (tC (.int 1))) (dI (kB K (dJ 3) "many") dQ)))))))))))))
theorem OO(ro:RO K C)(h:rm C D vs H Q E):LB K C D (fk Q) (start ["book","piece","fuel","opening","rows","written","earlier","left"] vs) H:=by obtain⟨b,v1,v2,v3,u,t,bo,F,rfl,hb,B,dg,hsz,ask,kM,kD⟩:=h;exact⟨b,v1,v2,v3,_,_,_,_,u,rfl,hb,B.g,dg,hsz,λH1 s1=>vo ro (s1 _ _ hb) (B.mono s1) (dg.mono (dW s1)) ask (λp ws st H' s=>kM p ws st H' (s1.trans s)) (λp l x us ws st W tt H' s=>kD p l x us ws st W tt H' (s1.trans s))⟩
end S9
namespace SW
open PySem L2
def S0:Str->Nat->Prop:=λ_ _=>False
def WX(P:Str->Prop)(S:Str->Nat->Prop):T->Prop
 | .num _=>True
 | .name w=>P w
 | .sum a b=>WX P S a/\WX P S b
 | .less a b=>WX P S a/\WX P S b
 | .cho a b c=>WX P S a/\WX P S b/\WX P S c
 | .lt _ a b=>WX P S a/\WX P S b
 | .st0 w=>S w 0
 | .st1 w a=>S w 1/\WX P S a
 | .st2 w a b=>S w 2/\WX P S a/\WX P S b
theorem jg{P P':Str->Prop}{S S':Str->Nat->Prop}(h:∀w,P w->P' w)(hs:∀w k,S w k->S' w k):∀{t:T},qV P S t->WX P' S' t
 | .num _,_=>trivial
 | .name _,z=>h _ z
 | .sum _ _,z=>⟨jg h hs z.1,jg h hs z.2⟩
 | .less _ _,z=>⟨jg h hs z.1,jg h hs z.2⟩
 | .cho _ _ _,z=>⟨jg h hs z.1,jg h hs z.2.1,jg h hs z.2.2⟩
 | .lt _ _ _,z=>⟨jg h hs z.2.1,jg h hs z.2.2⟩
 | .st0 _,z=>hs _ _ z
 | .st1 _ _,z=>⟨hs _ _ z.1,jg h hs z.2⟩
 | .st2 _ _ _,z=>⟨hs _ _ z.1,jg h hs z.2.1,jg h hs z.2.2⟩
abbrev Gv:=Str->Option Int
def Gv.put(g:Gv)(w:Str)(x:Int):Gv:=λy=>if y=w then some x else g y
def ev:T->Gv->Option Int
 | .num n,_=>some n
 | .name w,g=>g w
 | .sum a b,g=>(ev a g).bind λx=>(ev b g).bind λy=>some (x+y)
 | .less a b,g=>(ev a g).bind λx=>(ev b g).bind λy=>some (x-y)
 | .cho c a b,g=>(ev c g).bind λx=>if x=0 then ev b g else ev a g
 | .lt w a b,g=>(ev a g).bind λx=>ev b (Gv.put g w x)
 | .st0 _,_=>none
 | .st1 _ _,_=>none
 | .st2 _ _ _,_=>none
def MT:T->Prop
 | .sum _ _=>True
 | .less _ _=>True
 | .cho _ _ _=>True
 | .lt _ _ _=>True
 | _=>False
def Mu(kvs:List (fB×V))(g:Gv):Prop:=∀w:Str,fP kvs (.inr w:fB)=(g w).map V.int
def qd(H:Hp)(kvs:List (fB×V))(g:Gv):Prop:=∀w:Str,(g w=none/\fP kvs (.inr w:fB)=none)∨∃x p z,g w=some x/\fP kvs (.inr w:fB)=some (.ref p)/\H p=some (.tup [.str "number",.int x,z])
theorem qd.mono(k:fF H H')(h:qd H kvs g):qd H' kvs g:=λw=>
 (h w).imp id λ⟨x,p,z,e1,e2,e3⟩=>⟨x,p,z,e1,e2,k _ _ e3⟩
theorem qd.put(h:qd H kvs g)(w:Str)(x:Int)(hp:H p=some (.tup [.str "number",.int x,z])):qd H (fh kvs (.inr w:fB) (.ref p)) (Gv.put g w x):=λy=>by
 rw[mP];by_cases e:y=w
 ·subst e;exact .inr ⟨x,p,z,by simp[Gv.put],by simp,hp⟩
 ·have:¬((.inr y:fB)=.inr w):=λz=>e (Sum.inr.inj z);rcases h y with⟨a,b⟩|⟨x',p',z',a,b,c⟩
  ·exact .inl ⟨by simp[Gv.put,e,a],by simp[this,b]⟩
  ·exact .inr ⟨x',p',z',by simp[Gv.put,e,a],by simp[this,b],c⟩
def iI(ps:List (Str×Int)):List (fB×V):=ps.map λp=>((.inr p.1:fB),V.int p.2)
def gD(ps:List (Str×Int)):Gv:=λw=>(ps.find? λp=>decide (p.1=w)).map (·.2)
theorem sU:∀ps:List (Str×Int),Mu (iI ps) (gD ps)
 | [],w=>rfl
 | p::r,w=>by
  have ih:=sU r w;unfold iI gD at *;rw[aV];by_cases e:p.1=w
  ·rw[fX (by rw[e])];simp[bM,e]
  ·rw[fY (λz=>e (Sum.inr.inj z)),ih];simp[bM,e]
def jQ:Sp:=λvs H Q _=>∃n:Int,vs=[.int n]/\Q (.bl true) H
def lR:Sp:=λvs H Q _=>∃c:Int,vs=[.int c]/\∀(d:Addr)(ps:List (Str×Int))(H':Hp),dq H H'->H d=none->H' d=some (.dK (iI ps))->(ps.map (·.1)).Nodup->ps.length<=4->Q (.ref d) H'
def mW:Sp:=λvs H Q _=>∃(d:Addr)(ps:List (Str×Int)),vs=[.ref d]/\H d=some (.dK (iI ps))/\(ps.map (·.1)).Nodup/\ps.length<=4/\∀(e:Addr)(kvs:List (fB×V))(H':Hp),dq H H'->H' e=some (.dK kvs)->qd H' kvs (gD ps)->kvs.length<=4->Q (.ref e) H'
end SW
namespace S1
open PySem L2 SW
def Nc(K:aA):TS:=(fD (xX (gx (oY K) (dI (dJ 0) (dI (tC (.ty "int")) dQ))) (BP (gx (oY K) (dI (dJ 0) (dI (tC (.ty "bool")) dQ))))))
def Hu(K:aA):TS:=(jl (dJ 1) (dJ 3) (eN qk [] E0 (dI (dJ 0) dQ)))
def Ht(K:aA):TS:=(fE (dz (dj ic (dj iu (dj oK (dJ 0) (tC (.int 7))) (tC (.int 9))) (dJ 2))) (Hu K) fC)
def Hs(K:aA):TS:=(dZ (jl (dJ 1) (dJ 3) (dj ib (dj iu (dj oK (dJ 0) (dj kH (dJ 2) (tC (.int 3)))) (tC (.int 5))) (tC (.int 2)))) (Ht K))
def Hr(K:aA):TS:=(fE (dz (dj Dc (dj iu (dJ 0) (tC (.int 11))) (dJ 2))) (Hs K) fC)
def Hq(K:aA):TS:=(dZ (eB (dj (fu K) (fG (dI (tC (.str "sab")) (dI (tC (.str "tab")) (dI (tC (.str "sob")) (dI (tC (.str "sat")) dQ))))) (dJ 2)) (dR 3)) (Hr K))
def Nv(K:aA):TS:=(dZ (eB iF (dR 1)) (dZ (iV (yN (dI (tC (.int 4)) dQ)) (dR 2) (Hq K)) (fD (dJ 1))))
def JQ(K:aA):TS:=(jl (dJ 1) (dJ 2) (ef (dI (tC (.str "number")) (dI (kC (dJ 0) (dJ 2)) (dI iF dQ)))))
def OF(K:aA):TS:=(dZ (eB iF (dR 1)) (dZ (iV (iT K (gx Kb (dI (dJ 0) dQ))) (dR 2) (JQ K)) (fD (dJ 1))))
end S1
namespace L2
open PySem PySem.Spec PyProof.Rows
theorem Dm.okx{P:Program}{w:World}{K:aA}{mg:Str->Option Value}{base:Heap}{x qual:Str}{st:Stmt}{f:Addr}{fd:FuncData}{N ps:List Str}{k:Nat}{sp:Sp}(F:Dm K x qual st f fd)(S:kj N ps (eZ st))(len:∀vs H Q E,sp vs H Q E->vs.length=ps.length)
  (hbody:∀(cdv:Value)(A:Around)(outer:List Env)(s:Shared)(H:Hp)(vs:List V)(Q:VK)(E:XK),gr k (A.deeper (envOfC qual (eZ st) s.heap.objs.size f cdv))->sp vs H Q E->
   ∃t,pG (i7 (pH P w) P w K mg base N qual (eZ st) f cdv A outer s H E) (gK st) t/\t {nx:=λ_ H'=>Q .non H',rt:=Q} (start N vs) H):je P w K mg base (pH P w) (k+1) f fd ps sp:=by
 obtain⟨oc,od,kV,doc,pm,an,cdv,ct,osl,rfl,lk,hcd⟩:=F.ex;exact Gf lk hcd S len λA outer s H vs Q E hr hsp=>hbody cdv A outer s H vs Q E hr hsp
end L2
namespace S1
open PySem L2 SW
def Pd(K:aA):Sp:=λvs H Q _=>∃(a:Addr)(ns:List Int),vs=[.ref a]/\eL K H a (ns.map V.int)/\ns.length<=63/\∀H',Q (.bl true) H'
end S1
namespace SW
open PySem L2
variable {K:aA}
theorem wO:PySem.W.kitOne K (.type "int") (.type "int")=some true:=by kernel_rfl
theorem ui:PySem.W.kitOne K (.type "int") (.type "bool")=some false:=by kernel_rfl
theorem kf:PySem.W.kitOne K (.type "str") (.type "str")=some true:=by kernel_rfl
theorem si:PySem.W.kitOne K (.type "list") (.type "list")=some true:=by kernel_rfl
end SW
namespace S1
open PySem L2 SW
variable {K:aA}{N:Addr}{vs:List V}{H:Hp}{Q:VK}{E:XK}
theorem Ph(h:jQ vs H Q E):Nc K (fk Q) (start ["_law_found"] vs) H:=by obtain⟨n,rfl,k⟩:=h;refine⟨.int n,wO,_,rfl,uk ?_⟩;exact⟨.int n,ui,_,rfl,k⟩
end S1
namespace SW
open PySem L2
def oV(ps:List (Str×Int))(w:Str)(x:Int):List (Str×Int):=
 if(ps.any λp=>decide (p.1=w))=true then ps.map (λp=>if p.1=w then(p.1,x)else p)else ps++[(w,x)]
theorem x9(ps:List (Str×Int))(w:Str)(x:Int):fh (iI ps) (.inr w:fB) (.int x)=iI (oV ps w x):=by
 have e:((iI ps).any λkv=>decide (kv.1=(.inr w:fB)))=ps.any λp=>decide (p.1=w):=by
  unfold iI;rw[List.any_map]
  congr 1;funext p
  simp[Function.comp,Sum.inr.injEq]
 unfold fh oV;rw[e];by_cases h:(ps.any λp=>decide (p.1=w))=true
 ·rw[if_pos h,if_pos h];unfold iI;rw[bN,bN]
  congr 1;funext p
  by_cases z:p.1=w<;>simp[Function.comp,z]
 ·rw[if_neg h,if_neg h];simp[iI]
theorem lb(ps:List (Str×Int))(w:Str)(x:Int):(oV ps w x).map (·.1)=kQ (ps.map (·.1)) w:=by
 have e:(ps.any λp=>decide (p.1=w))=decide (w∈ps.map (·.1)):=by
  by_cases h:w∈ps.map (·.1)
  ·rw[decide_eq_true h];obtain⟨p,hp,e⟩:=bO.mp h;exact bz.mpr ⟨p,hp,decide_eq_true e⟩
  ·rw[decide_eq_false h];exact cI.mpr λp hp z=>h (bO.mpr ⟨p,hp,of_decide_eq_true z⟩)
 unfold oV kQ;rw[e];by_cases h:w∈ps.map (·.1)
 ·rw[if_pos (decide_eq_true h),if_pos h,bN]
  congr 1;funext p
  by_cases z:p.1=w<;>simp[Function.comp,z]
 ·rw[if_neg (by simpa using h),if_neg h];simp
theorem Cg(ps:List (Str×Int))(w:Str)(x:Int):(oV ps w x).length<=ps.length+1:=by have h:=congrArg List.length (lb ps w x);have h2:=oU (ps.map (·.1)) w;rw[aO]at h;rw[aO]at h2;lia
theorem zv(x:Int)(hw:w∈ps.map (·.1)):(oV ps w x).length=ps.length:=by have h:=congrArg List.length (lb ps w x);rw[aO]at h;unfold kQ at h;rw[if_pos hw,aO]at h;exact h
theorem sV(h:(ps.map (·.1)).Nodup)(w:Str)(x:Int):((oV ps w x).map (·.1)).Nodup:=by rw[lb];exact qU h
theorem Cb(ps:List (Str×Int))(w:Str)(x:Int):w∈(oV ps w x).map (·.1):=by rw[lb];exact uf.mpr (.inr rfl)
theorem nW(ps:List (Str×Int)):(iI ps).length=ps.length:=by simp[iI]
theorem Cr(ps:List (Str×Int)):jO (iI ps)=(ps.map (·.1)).map V.str:=by simp[jO,iI,kV]
theorem Cy(h:w∉ps.map (·.1)):gD (ps++[(w,x)])=Gv.put (gD ps) w x:=by
 funext y;unfold gD Gv.put;rw[List.find?_append];by_cases e:y=w
 ·subst e;have:(ps.find? λp=>decide (p.1=y))=none:=List.find?_eq_none.mpr λp hp z=>h (bO.mpr ⟨p,hp,of_decide_eq_true z⟩);rw[this];simp
 ·rw[if_neg e];cases hf:ps.find? λp=>decide (p.1=y) with
  | some q=>simp[hf]
  | none=>simp[ac e,hf]
end SW
namespace S1
open PySem L2 SW
variable {K:aA}{N:Addr}{vs:List V}{H:Hp}{Q:VK}{E:XK}
theorem Pu(h:lR vs H Q E):Nv K (fk Q) (start ["_law_seed","_law_known","_law_k","_law_word"] vs) H:=by
 obtain⟨c,rfl,k⟩:=h;refine λd hd=>?_;have s1:=dS (o:=.dK []) hd;have g1:(upd H d (.dK [])) d=some (.dK []):=dP;generalize upd H d (.dK [])=H1 at s1 g1⊢;refine⟨by decide,by decide,?_⟩;refine⟨λi m σ H'=>m=4-i/\i<=4/\(∃j2 j3,σ=[some (.int c),some (.ref d),j2,j3])/\dq H H'/\∃ps,H' d=some (.dK (iI ps))/\(ps.map (·.1)).Nodup/\ps.length<=i,⟨_,rfl,by lia,⟨_,_,rfl⟩,s1,[],g1,by simp,by simp⟩,?_⟩;rintro i m σ H' ⟨rfl,hi,⟨j2,j3,rfl⟩,s',ps,e',nd,hl⟩;by_cases hi4:i=4
 ·subst hi4;exact .inl ⟨aC _,k d ps H' s' hd e' nd hl⟩
 ·refine .inr ⟨show i<4 by lia,_,λσ2 H2 h=>⟨4-(i+1),by lia,h⟩,?_⟩;rintro x H2 ⟨rfl,rfl⟩;obtain⟨v,hv,ea⟩:=lh (xs:=[V.str "sab",V.str "tab",V.str "sob",V.str "sat"]) (i:=0+(i:Int)) (by lia) (by simp only[aD,am];lia);obtain⟨w,rfl,_⟩:=xI hv;refine⟨fL,eY λp H3 hp s3 g3=>?_⟩;refine⟨eL.of g3,ea,?_⟩;have s4:=s'.trans s3;have e4:=s3 _ _ e';refine⟨(show(0:Int)<11 by decide),rfl,_,rfl,?_⟩;refine ir (λ_=>?_) (λ_=>?_)
  ·refine⟨⟨by lia,by lia⟩,(show(0:Int)<5 by decide),lO.k (k:=.inr w) e4 (by rw[nW,sizeLine_eq];lia),?_⟩;rw[x9];have s5:dq H (upd H3 d (.dK (iI (oV ps w (c / (0+↑i+3)%5-2))))):=eJ s4 hd;have e5:(upd H3 d (.dK (iI (oV ps w (c / (0+↑i+3)%5-2))))) d=some (.dK (iI (oV ps w (c / (0+↑i+3)%5-2)))):=dP;generalize c / (0+↑i+3)%5-2=z at s5 e5⊢;generalize upd H3 d (.dK (iI (oV ps w z)))=H5 at s5 e5⊢;have l5:=Cg ps w z;refine⟨⟨by decide,by decide⟩,(show(0:Int)<9 by decide),rfl,_,rfl,?_⟩;refine ir (λ_=>?_) (λ_=>?_)
   ·refine⟨c,rfl,λn H6 b6 s6=>⟨lO.k (k:=.inr w) (s6 _ _ e5) (by rw[nW,sizeLine_eq];lia),?_⟩⟩;rw[x9];exact⟨rfl,by lia,⟨_,_,rfl⟩,eJ (s5.trans s6) hd,_,dP,sV (sV nd w z) w n,by rw[zv n (Cb ps w z)];lia⟩
   ·exact⟨rfl,by lia,⟨_,_,rfl⟩,s5,_,e5,sV nd w z,by lia⟩
  ·exact⟨rfl,by lia,⟨_,_,rfl⟩,s4,ps,e4,nd,by lia⟩
theorem QG(h:mW vs H Q E):OF K (fk Q) (start ["_law_known","_law_made","_law_word"] vs) H:=by
 obtain⟨d,ps,rfl,hd,nd,hl,k⟩:=h;refine λe he=>?_;have s1:=dS (o:=.dK []) he;have g1:(upd H e (.dK [])) e=some (.dK []):=dP;generalize upd H e (.dK [])=H1 at s1 g1⊢;refine⟨d,_,rfl,.inl (s1 _ _ hd),λp hp=>?_⟩;rw[Cr];have s2:=dS (o:=.lst ((ps.map (·.1)).map V.str)) hp;have g2:(upd H1 p (.lst ((ps.map (·.1)).map V.str))) p=some (.lst ((ps.map (·.1)).map V.str)):=dP;have np:H p=none:=s1.free hp;generalize upd H1 p (.lst ((ps.map (·.1)).map V.str))=H2 at s2 g2⊢;refine⟨eL.of g2,?_⟩;have s12:=s1.trans s2;refine⟨λi m σ H'=>m=ps.length-i/\i<=ps.length/\(∃j2,σ=[some (.ref d),some (.ref e),j2])/\dq H H'/\H' p=some (.lst ((ps.map (·.1)).map V.str))/\∃kvs,H' e=some (.dK kvs)/\qd H' kvs (gD (ps.take i))/\kvs.length<=i,⟨_,rfl,by lia,⟨_,rfl⟩,s12,g2,[],s2 _ _ g1,λw=>.inl ⟨rfl,rfl⟩,by simp⟩,?_⟩;rintro i m σ H' ⟨rfl,hi,⟨j2,rfl⟩,s',p',kvs,e',lk,hk⟩;by_cases hi4:i=ps.length
 ·subst hi4;rw[a6]at lk;exact .inl ⟨⟨_,eL.of p',by simp⟩,k e kvs H' s' e' lk (by lia)⟩
 ·have hlt:i<ps.length:=by lia
  obtain⟨⟨w,x⟩,hw⟩:∃q,ps[i]?=some q:=⟨ps[i],by simp[hlt]⟩;refine .inr ⟨⟨_,.str w,eL.of p',by simp[aT,hw]⟩,_,λσ2 H2 h=>⟨ps.length-(i+1),by lia,h⟩,?_⟩;rintro x' H3 ⟨rfl,hx⟩;have hx:=hx _ (eL.of p');rw[aT,aT,hw]at hx;cases hx;have hg:fP (iI ps) (.inr w:fB)=some (.int x):=by
   rw[sU];have:gD ps w=some x:=by
    unfold gD;have hm:(w,x)∈ps:=aZ hw;cases hf:ps.find? λp=>decide (p.1=w) with
    | none=>exact absurd (decide_eq_true rfl) (List.find?_eq_none.mp hf _ hm)
    | some q=>
     have h1:=List.find?_some hf;have h2:=List.mem_of_find?_eq_some hf;have e1:q.1=w:=of_decide_eq_true h1;have:q=(w,x):=by obtain⟨q1,q2⟩:=q;have e1:q1=w:=e1;subst e1;obtain⟨a,ha,ea⟩:=ca h2;obtain⟨b,hb,eb⟩:=ca hm;have:a=b:=(cG (h₀:=by simpa using ha) (h₁:=by simpa using hb) nd).mp (by simp[ea,eb]);subst this;rw[ea]at eb;exact eb
     rw[this];rfl
   rw[this];rfl
  have dg:iR H3 d (.str w) (some (.int x)):=by have:=iR.k (k:=.inr w) (s' _ _ hd);rw[hg]at this;exact this
  refine⟨dg,λz hz=>?_⟩;have s4:=dS (o:=.dK []) hz;generalize upd H3 z (.dK [])=H4 at s4⊢;refine⟨fL,eY λq H5 hq s5 g5=>?_⟩;have s45:=s4.trans s5;have e5:=s45 _ _ e';refine⟨lO.k (k:=.inr w) e5 (by rw[sizeLine_eq];lia),?_⟩;have t6:fF H5 (upd H5 e (.dK (fh kvs (.inr w:fB) (.ref q)))):=uA e5;have hpl:=gG kvs (.inr w:fB) (.ref q);have ne:p≠e:=λz=>by subst z;rw[p']at e';cases e'
  refine⟨rfl,by lia,⟨_,rfl⟩,eJ (s'.trans s45) he,by rw[dY ne];exact s45 _ _ p',_,dP,?_,by lia⟩;rw[ay,hw];have hnin:w∉(ps.take i).map (·.1):=λz=>by
   obtain⟨q',hq',eq'⟩:=bO.mp z;obtain⟨a,ha,ea⟩:=ca hq';rw[List.getElem_take]at ea;rw[ag]at ha;have hb:ps[i]=(w,x):=by have:=hw;simp[hlt]at this;exact this
   have:a=i:=(cG (h₀:=by simp;lia) (h₁:=by simpa using hlt) nd).mp (by simp[ea,eq',hb]);lia
  show qd _ _ (gD (ps.take i++[(w,x)]));rw[Cy hnin];exact((lk.mono (dW s45)).put w x g5).mono t6
end S1
namespace SW
open PySem L2
def vI(H H':Hp):Prop:=∀(d:Addr)(kvs:List (fB×V)),H d=some (.dK kvs)->H' d=some (.dK kvs)
theorem mJ(h:H l=some (.lst ys)):vI H (upd H l o):=λb xs e=>by rw[dY (fM e h (by intro z;cases z))];exact e
theorem im(s:dq H H'):vI H H':=λb _ h=>s b _ h
theorem ij:PySem.W.kitOne K (.type "tuple") (.type "tuple")=some true:=by kernel_rfl
def nH:List (fB×V):=[(.inr "number",.int 2),(.inr "name",.int 2),(.inr "sum",.int 3),(.inr "less",.int 3),(.inr "choose",.int 4),(.inr "let",.int 4)]
def lS:Sp:=λvs H Q _=>∃(t:T)(v:V),vs=[v]/\fc H t v/\t.size<=5000000/\∀H',dq H H'->Q (.bl true) H'
end SW
namespace S10
open PySem L2 SW
def rW:TS:=(eB (dj nN (dJ 1) (eN ia [] E0 (dI (dJ 2) dQ))) (dR 1))
def IX(K:aA):TS:=(fD (tC (.bl false)))
def IW(K:aA):TS:=(fE (zO (mR (tB (gx (oY K) (dI (dJ 2) (dI (tC (.ty "tuple")) dQ))))) (zO (dz (dj vw (gx (ga K) (dI (dJ 2) dQ)) (tC (.int 2)))) (mR (tB (gx (oY K) (dI (dj (dy K) (dJ 2) (tC (.int 0))) (dI (tC (.ty "str")) dQ))))))) (IX K) fC)
def IV(K:aA):TS:=(fD (tC (.bl false)))
def IU(K:aA):TS:=(fE (lq (dz (dj Dc (vZ (dJ 3) (dj (dy K) (dJ 2) (tC (.int 0))) (tC (.int 0))) (gx (ga K) (dI (dJ 2) dQ)))) (dz (dj Dc (dj (dy K) (dJ 2) (tC (.int 0))) (tC (.str "stamp"))))) (IV K) fC)
def IT(K:aA):TS:=(fD (tC (.bl false)))
def IS(K:aA):TS:=(fE (mR (tB (eN jQ [] E0 (dI (dj (dy K) (dJ 2) (tC (.int 1))) dQ)))) (IT K) fC)
def IR(K:aA):TS:=(fD (tC (.bl false)))
def IQ(K:aA):TS:=(fE (lq (dz (dj (Je K false) (dj (dy K) (dJ 2) (tC (.int 0))) (fG (dI (tC (.str "name")) (dI (tC (.str "let")) (dI (tC (.str "stamp")) dQ)))))) (mR (tB (gx (oY K) (dI (dj (dy K) (dJ 2) (tC (.int 1))) (dI (tC (.ty "str")) dQ)))))) (IR K) fC)
def BH(K:aA):TS:=(fE (dz (dj ic (dj (dy K) (dJ 2) (tC (.int 0))) (tC (.str "number")))) (IS K) (IQ K))
def vU(K:aA):TS:=(dZ (IW K) (dZ (eB (GI [((tC (.str "number")),(tC (.int 2))),((tC (.str "name")),(tC (.int 2))),((tC (.str "sum")),(tC (.int 3))),((tC (.str "less")),(tC (.int 3))),((tC (.str "choose")),(tC (.int 4))),((tC (.str "let")),(tC (.int 4)))]) (dR 3)) (dZ (IU K) (dZ (BH K) rW))))
def EH(K:aA):TS:=(dZ (eB (jG K "list" jH (dJ 1)) (dR 2)) (vU K))
def N4(K:aA):TS:=(dZ (eB (fG (dI (dJ 0) dQ)) (dR 1)) (dZ (gi (dz (dj (lE K) (dJ 1) (fG dQ))) (EH K)) (fD (tC (.bl true)))))
variable {K:aA}{vs:List V}{H:Hp}{Q:VK}{E:XK}
theorem jT{w:Str}{x:V}{r:List V}{o:Option V}(hp:H p=some (.tup (.str w::x::r)))(dv:fP (jt [] nH) (.inr w:fB)=o)(ho:o=some (.int ((V.str w::x::r).length:Nat))∨w="stamp"/\o=none)
  (hn:(w="number"/\∃n,x=.int n)∨decide (V.str w=V.str "number")=false/\(De (.str w) [.str "name",.str "let",.str "stamp"]=false∨De (.str w) [.str "name",.str "let",.str "stamp"]=true/\∃y,x=.str y))
  (k:∀H',dq H H'->∀j3,rW D [some v0,some (.ref tl),some (.ref p),j3] H'):vU K D [some v0,some (.ref tl),some (.ref p),j3] H:=by
 refine⟨.tup hp,ij,_,rfl,jE ⟨.inr (eD.of hp),_,rfl,eU (decide_eq_false (by simp only[aD];lia)) ⟨eD.of hp,gF,.str _,kf,_,rfl,jE λpd hpd=>⟨dP,nH,rfl,by decide,?_⟩⟩⟩⟩;have s1:dq H (upd (upd H pd (.dK [])) pd (.dK (jt [] nH))):=eJ (dS hpd) hpd;have g1:(upd (upd H pd (.dK [])) pd (.dK (jt [] nH))) pd=some (.dK (jt [] nH)):=dP;generalize upd (upd H pd (.dK [])) pd (.dK (jt [] nH))=H1 at s1 g1⊢;have hp1:=s1 _ _ hp;have dg:=iR.k (k:=.inr w) g1;rw[dv]at dg;have rest:BH K (D.thn rW) [some v0,some (.ref tl),some (.ref p),some (.ref pd)] H1:=by
  refine⟨eD.of hp1,gF,rfl,_,rfl,?_⟩;rcases hn with⟨rfl,n,rfl⟩|⟨e,h⟩
  ·exact fI (by decide) ⟨eD.of hp1,iM,n,rfl,_,rfl,jE (k H1 s1 _)⟩
  ·refine eU e ⟨eD.of hp1,gF,fL,eY λl H2 hl s2 g2=>⟨.inl (eL.of g2),rfl,rfl,_,rfl,?_⟩⟩;rcases h with h|⟨h,y,rfl⟩
   ·exact eU h (jE (k H2 (s1.trans s2) _))
   ·exact fI h ⟨eD.of (s2 _ _ hp1),iM,.str _,kf,_,rfl,jE (k H2 (s1.trans s2) _)⟩
 rcases ho with rfl|⟨rfl,rfl⟩
 ·exact⟨.inl ⟨_,.inl g1⟩,eD.of hp1,gF,_,dg,.inr (eD.of hp1),rfl,_,rfl,eU (show(!decide (V.int _=V.int _))=false by rw[decide_eq_true rfl];rfl) (jE rest)⟩
 ·have ne:decide (V.int 0=V.int ((V.str "stamp"::x::r).length:Nat))=false:=decide_eq_false λz=>by have:=V.int.inj z;simp only[aD]at this;lia
  exact⟨.inl ⟨_,.inl g1⟩,eD.of hp1,gF,_,dg,.inr (eD.of hp1),rfl,_,rfl,fI (show(!decide (V.int 0=V.int ((V.str "stamp"::x::r).length:Nat)))=true by rw[ne];rfl) ⟨eD.of hp1,gF,rfl,_,rfl,eU (by decide) rest⟩⟩
theorem vn(hd:fc H t v)(k:∀H',dq H H'->∀j3,rW D [some v0,some (.ref tl),some v,j3] H'):vU K D [some v0,some (.ref tl),some v,j3] H:=by
 cases t with
 | num n=>obtain⟨p,rfl,hp⟩:=hd;exact jT (o:=some (.int 2)) hp (by decide) (.inl rfl) (.inl ⟨rfl,n,rfl⟩) k
 | name x=>obtain⟨p,rfl,hp⟩:=hd;exact jT (o:=some (.int 2)) hp (by decide) (.inl rfl) (.inr ⟨by decide,.inr ⟨by decide,x,rfl⟩⟩) k
 | sum a b=>obtain⟨p,x,y,rfl,hp,_⟩:=hd;exact jT (o:=some (.int 3)) hp (by decide) (.inl rfl) (.inr ⟨by decide,.inl (by decide)⟩) k
 | less a b=>obtain⟨p,x,y,rfl,hp,_⟩:=hd;exact jT (o:=some (.int 3)) hp (by decide) (.inl rfl) (.inr ⟨by decide,.inl (by decide)⟩) k
 | cho a b c=>obtain⟨p,x,y,z,rfl,hp,_⟩:=hd;exact jT (o:=some (.int 4)) hp (by decide) (.inl rfl) (.inr ⟨by decide,.inl (by decide)⟩) k
 | lt w a b=>obtain⟨p,x,y,rfl,hp,_⟩:=hd;exact jT (o:=some (.int 4)) hp (by decide) (.inl rfl) (.inr ⟨by decide,.inr ⟨by decide,w,rfl⟩⟩) k
 | st0 w=>obtain⟨p,rfl,hp⟩:=hd;exact jT hp (by decide) (.inr ⟨rfl,rfl⟩) (.inr ⟨by decide,.inr ⟨by decide,w,rfl⟩⟩) k
 | st1 w a=>obtain⟨p,x,rfl,hp,_⟩:=hd;exact jT hp (by decide) (.inr ⟨rfl,rfl⟩) (.inr ⟨by decide,.inr ⟨by decide,w,rfl⟩⟩) k
 | st2 w a b=>obtain⟨p,x,y,rfl,hp,_⟩:=hd;exact jT hp (by decide) (.inr ⟨rfl,rfl⟩) (.inr ⟨by decide,.inr ⟨by decide,w,rfl⟩⟩) k
structure Mz(H₀ H:Hp)(tl:Addr)(us:List V)(ts:List T):Prop where
 same:dq H₀ H
 new:H₀ tl=none
 at_:H tl=some (.lst us)
 den:fm H ts us
 sz:et ts<=5000000
def Qa(H:Hp)(v:V)(m:Nat)(σ:St)(H':Hp):Prop:=∃tl us ts j2 j3,σ=[some v,some (.ref tl),j2,j3]/\Mz H H' tl us ts/\m=et ts
theorem P6(h:lS vs H Q E):N4 K (fk Q) (start ["_law_found","_law_todo","_law_part","_law_sizes"] vs) H:=by
 obtain⟨t,v,rfl,hd,hs,k⟩:=h;refine⟨fL,eY λtl H1 htl s1 g1=>?_⟩;refine⟨Qa H v,⟨_,tl,[v],[t],none,none,rfl,⟨s1,htl,g1,.cons (hd.mono (dW s1)) .nil,by rw[ft,iS];lia⟩,rfl⟩,?_⟩;clear s1 g1 htl;rintro m σ H2 ⟨tl,us,ts,j2,j3,rfl,A,rfl⟩;refine⟨fL,λe he=>?_⟩;have s3:=dS (o:=.lst []) he;have g3:(upd H2 e (.lst [])) e=some (.lst []):=dP;have A3:Mz H (upd H2 e (.lst [])) tl us ts:=⟨A.same.trans s3,A.new,s3 _ _ A.at_,A.den.mono (dW s3),A.sz⟩;generalize upd H2 e (.lst [])=H3 at g3 A3⊢;refine⟨eL.of A3.at_,eL.of g3,_,rfl,?_⟩;by_cases hv:us=[]
 ·subst hv;exact eU rfl (k _ A3.same)
 ·obtain⟨us,u,rfl⟩:=gI hv;refine fI (by simp) ?_;obtain⟨ts',t',rfl,d1,d2⟩:=A3.den.snoc;refine⟨Lt (Qa H v) (et (ts'++[t'])),λ_ _ h=>h,?_⟩;refine⟨.inl ⟨rfl,_,eL.of A3.at_⟩,A3.at_,iO,?_⟩;rw[gk];have t4:=fA (o:=.lst us) A3.at_;have s4:dq H (upd H3 tl (.lst us)):=eJ A3.same A3.new;have g4:(upd H3 tl (.lst us)) tl=some (.lst us):=dP;have c1:=d1.mono t4;have c2:=d2.mono t4;generalize upd H3 tl (.lst us)=H4 at s4 g4 c1 c2⊢;refine vn c2 λH5 s5 j3=>?_;refine⟨t',u,rfl,c2.mono (dW s5),λl us2 H6 s6 n6 h6 d6=>?_⟩;have q1:=c1.length;have q2:=d6.length;have q3:=eV ts';have q4:=eV t'.kids;have hk:=iy t';have hz:=A3.sz;rw[eg,ft,iS]at hz;have s56:=s5.trans s6;refine⟨s56 _ _ g4,h6,by rw[sizeLine_eq];lia,λp7 hp7=>?_⟩;have s7:=dS (o:=.lst (us++us2)) hp7;have s47:=s56.trans s7;refine⟨et (ts'++t'.kids),by rw[eg,eg,ft,iS];lia,p7,us++us2,ts'++t'.kids,_,_,rfl,⟨s4.trans s47,(s4.trans s56).free hp7,dP,(c1.mono (dW s47)).append (d6.mono (dW s7)),by rw[eg];lia⟩,rfl⟩
end S10
namespace SW
open PySem L2
end SW
namespace S10
open PySem L2 SW
variable {K:aA}{vs:List V}{H H₀:Hp}{Q:VK}{E:XK}
end S10
namespace SW
open PySem L2
def gj(K:aA):Sp:=λvs H Q E=>∃S S',pX K S S' vs H Q E
def QO:Str->Nat->Prop:=λx n=>x="st"/\n=2
def Mo:Str->Nat->Prop:=λx n=>x="star"/\n=0
def Mn:Str->Nat->Prop:=λx n=>(x="star"/\n=0)∨(x="sta"/\n=1)
def vJ(H:Hp)(l:Addr)(b:Str×List Str×T)(u:V):Prop:=∃(q p:Addr)(v:V),u=.ref q/\H q=some (.tup [.str b.1,.ref p,v])/\H p=some (.lst (b.2.1.map V.str))/\p≠l/\fc H b.2.2 v
inductive M6(H:Hp)(l:Addr):List (Str×List Str×T)->List V->Prop where
 | nil:M6 H l [] []
 | cons{b:Str×List Str×T}{u:V}{bs:List (Str×List Str×T)}{us:List V}:vJ H l b u->M6 H l bs us->M6 H l (b::bs) (u::us)
theorem vJ.mono(m:fF H H')(k:∀p xs,p≠l->H p=some (.lst xs)->H' p=some (.lst xs))(h:vJ H l b u):vJ H' l b u:=by obtain⟨q,p,v,e,h1,h2,h3,h4⟩:=h;exact⟨q,p,v,e,m _ _ h1,k _ _ h3 h2,h3,h4.mono m⟩
def sC(K:aA):Sp:=λvs H Q _=>∃(c:Addr)(wild:Bool)(ns:List Int),vs=[.ref c,.bl wild]/\eL K H c (ns.map V.int)/\ns.length<=100/\
 ∀(l:Addr)(us:List V)(t0 t1 t2:T)(H':Hp),dq H H'->H l=none->H' l=some (.lst us)->M6 H' l [("star",[],t0),("sta",["sab"],t1),("st",["sab","tab"],t2)] us->WG S0 t0->WG Mo t1->WG Mn t2->t0.size<=4->t1.size<=8->t2.size<=10->t1.names.length<=4->t2.names.length<=5->Q (.ref l) H'
theorem pC(ns:List Int)(lo hi:Option Int):∃ms:List Int,iJ (ns.map V.int) lo hi=ms.map V.int/\ms.length<=HT.kG ns.length ns.length hi-HT.kG ns.length 0 lo/\ms.length<=ns.length:=by
 refine⟨(ns.drop (HT.kG ns.length 0 lo)).take (HT.kG ns.length ns.length hi-HT.kG ns.length 0 lo),?_,?_,?_⟩
 ·unfold iJ;rw[aO,List.map_take,List.map_drop]
 ·rw[ag];lia
 ·rw[ag,ah];lia
theorem mX(n d:Nat)(k:Nat):HT.kG n d (some (k:Int))=min k n:=HT.M9 ..
end SW
namespace S9
open PySem L2 SW
def JI(K:aA):TS:=(eB (fG (dI (ef (dI (tC (.str "st")) (dI (tC (.int 2)) dQ))) dQ)) (KN (dJ 2) (tC (.int 0)) B9))
def JH(K:aA):TS:=(fE (tB (dJ 1)) (JI K) fC)
def OB(K:aA):TS:=(dZ (eB (fG (dI (fG dQ) (dI (fG (dI (ef (dI (tC (.str "star")) (dI (tC (.int 0)) dQ))) dQ)) (dI (fG (dI (ef (dI (tC (.str "star")) (dI (tC (.int 0)) dQ))) (dI (ef (dI (tC (.str "sta")) (dI (tC (.int 1)) dQ))) dQ))) dQ)))) (dR 2)) (dZ (JH K) (dZ (eB (fG (dI (ef (dI (tC (.str "star")) (dI (fG dQ) (dI (eN (gj K) [] E0 (dI (nB (jX K) (dJ 0) fg (fi (tC (.int 1)))) (dI (dj (fu K) (dJ 2) (tC (.int 0))) dQ))) dQ)))) dQ)) (dR 3)) (dZ (eX (iW K "list" eE (dJ 3) (dI (ef (dI (tC (.str "sta")) (dI (fG (dI (tC (.str "sab")) dQ)) (dI (eN (gj K) [] E0 (dI (nB (jX K) (dJ 0) (fi (tC (.int 1))) (fi (tC (.int 4)))) (dI (dj (fu K) (dJ 2) (tC (.int 1))) dQ))) dQ)))) dQ))) (dZ (eX (iW K "list" eE (dJ 3) (dI (ef (dI (tC (.str "st")) (dI (fG (dI (tC (.str "sab")) (dI (tC (.str "tab")) dQ))) (dI (eN (gj K) [] E0 (dI (nB (jX K) (dJ 0) (fi (tC (.int 4))) (fi (tC (.int 8)))) (dI (dj (fu K) (dJ 2) (tC (.int 2))) dQ))) dQ)))) dQ))) (fD (dJ 3)))))))
def JG(K:aA):TS:=(fD (tC (.bl false)))
def JF(K:aA):TS:=(fE (zO (mR (tB (gx (oY K) (dI (dJ 0) (dI (tC (.ty "tuple")) dQ))))) (zO (dz (dj Dc (gx (ga K) (dI (dJ 0) dQ)) (tC (.int 4)))) (mR (tB (gx (oY K) (dI (dj (dy K) (dJ 0) (tC (.int 0))) (dI (tC (.ty "str")) dQ))))))) (JG K) fC)
def JE(K:aA):TS:=(fD (tC (.bl false)))
def JD(K:aA):TS:=(fE (zO (dz (dj Dc (dj (dy K) (dJ 0) (tC (.int 0))) (tC (.str "done")))) (zO (mR (tB (eN jQ [] E0 (dI (dj (dy K) (dJ 0) (tC (.int 3))) dQ)))) (mR (tB (gx (oY K) (dI (dj (dy K) (dJ 0) (tC (.int 2))) (dI (tC (.ty "list")) dQ))))))) (JE K) fC)
def JC(K:aA):TS:=(fD (tC (.bl false)))
def JB(K:aA):TS:=(fE (zO (mR (tB (gx (oY K) (dI (dJ 1) (dI (tC (.ty "tuple")) dQ))))) (zO (dz (dj Dc (gx (ga K) (dI (dJ 1) dQ)) (tC (.int 2)))) (mR (tB (gx (oY K) (dI (dj (dy K) (dJ 1) (tC (.int 0))) (dI (tC (.ty "str")) dQ))))))) (JC K) fC)
def JA(K:aA):TS:=(fD (tC (.bl false)))
def I9(K:aA):TS:=(fE (mR (tB (gx (oY K) (dI (dj (dy K) (dJ 1) (tC (.int 1))) (dI (tC (.ty "tuple")) dQ))))) (JA K) fC)
def Iz(K:aA):TS:=(fD (tC (.bl false)))
def Ea(K:aA):TS:=(fE (mR (tB (eN jQ [] E0 (dI (dJ 2) dQ)))) (Iz K) fC)
def EZ(K:aA):TS:=(dZ (JB K) (dZ (I9 K) (iV (KL K (dj (dy K) (dJ 1) (tC (.int 1)))) (dR 2) (Ea K))))
def OA(K:aA):TS:=(dZ (JF K) (dZ (JD K) (dZ (iV (iT K (dj (dy K) (dJ 0) (tC (.int 2)))) (dR 1) (EZ K)) (fD (eN lS [] E0 (dI (dj (dy K) (dJ 0) (tC (.int 1))) dQ))))))
def OD(K:aA):TS:=(fD (OG (iT K (dJ 0)) (ef (dI (dj (dy K) (dJ 0) (tC (.int 0))) (dI (gx (tL K) (dI (dj (dy K) (dJ 0) (tC (.int 1))) dQ)) (dI (dj (dy K) (dJ 0) (tC (.int 2))) dQ)))) []))
variable {K:aA}{vs:List V}{H:Hp}{Q:VK}{E:XK}
theorem OP(h:gj K vs H Q E):SW.N9 K (fk Q) (start ["_law_cells","_law_stamps","_law_pile","_law_cell","_law_rest","_law_way","_law_word","_law_inner","_law_look","_law_name","_law_many","_law_made","_law_last"] vs) H:=by obtain⟨S,S',h⟩:=h;exact Jc h
theorem Du(t:T)(h:t.size<=2)(w:WG QO t):WG S0 t:=by
 cases t with
 | num n=>exact w
 | name x=>exact w
 | sum a b=>have:=a.size_pos;have:=b.size_pos;simp only[T.size]at h;lia
 | less a b=>have:=a.size_pos;have:=b.size_pos;simp only[T.size]at h;lia
 | cho a b c=>have:=a.size_pos;have:=b.size_pos;simp only[T.size]at h;lia
 | lt x a b=>have:=a.size_pos;have:=b.size_pos;simp only[T.size]at h;lia
 | st0 x=>exact absurd w.2 (by decide)
 | st1 x a=>exact absurd w.1.2 (by decide)
 | st2 x a b=>have:=a.size_pos;have:=b.size_pos;simp only[T.size]at h;lia
theorem qA{c low z0 l1 l2 a1 a2 a3:Addr}{ns:List Int}{xs0:List V}{Sx:Str->Nat->Prop}{j1:Option V}(hc:eL K H c (ns.map V.int))(hn:ns.length<=100)(hlow:H low=some (.lst [.ref z0,.ref l1,.ref l2]))(h0:H z0=some (.lst xs0))(hx0:xs0.length<=1000)(st0:jF Sx H xs0)(hS0:∀t:T,t.size<=2->WG Sx t->WG S0 t)
  (h1:H l1=some (.lst [.ref a1])) (e1:H a1=some (.tup [.str "star",.int 0])) (h2:H l2=some (.lst [.ref a2,.ref a3])) (e2:H a2=some (.tup [.str "star",.int 0])) (e3:H a3=some (.tup [.str "sta",.int 1]))
  (k:∀(l:Addr)(us:List V)(t0 t1 t2:T)(H':Hp),dq H H'->H l=none->H' l=some (.lst us)->M6 H' l [("star",[],t0),("sta",["sab"],t1),("st",["sab","tab"],t2)] us->WG S0 t0->WG Mo t1->WG Mn t2->t0.size<=4->t1.size<=8->t2.size<=10->t1.names.length<=4->t2.names.length<=5->Q (.ref l) H'):
  (dZ (eB (fG (dI (ef (dI (tC (.str "star")) (dI (fG dQ) (dI (eN (gj K) [] E0 (dI (nB (jX K) (dJ 0) fg (fi (tC (.int 1)))) (dI (dj (fu K) (dJ 2) (tC (.int 0))) dQ))) dQ)))) dQ)) (dR 3)) (dZ (eX (iW K "list" eE (dJ 3) (dI (ef (dI (tC (.str "sta")) (dI (fG (dI (tC (.str "sab")) dQ)) (dI (eN (gj K) [] E0 (dI (nB (jX K) (dJ 0) (fi (tC (.int 1))) (fi (tC (.int 4)))) (dI (dj (fu K) (dJ 2) (tC (.int 1))) dQ))) dQ)))) dQ))) (dZ (eX (iW K "list" eE (dJ 3) (dI (ef (dI (tC (.str "st")) (dI (fG (dI (tC (.str "sab")) (dI (tC (.str "tab")) dQ))) (dI (eN (gj K) [] E0 (dI (nB (jX K) (dJ 0) (fi (tC (.int 4))) (fi (tC (.int 8)))) (dI (dj (fu K) (dJ 2) (tC (.int 2))) dQ))) dQ)))) dQ))) (fD (dJ 3))))) (fk Q) [some (.ref c),j1,some (.ref low),none] H:=by
 refine⟨fL,eY λp0 H1 hp0 s1 g1=>?_⟩;obtain⟨m0,em0,q0,_⟩:=pC ns none (some 1);refine⟨s1.seq hc,λc0 hc0=>?_⟩;rw[em0];have s2:=dS (o:=.lst (m0.map V.int)) hc0;have g2:(upd H1 c0 (.lst (m0.map V.int))) c0=some (.lst (m0.map V.int)):=dP;generalize upd H1 c0 (.lst (m0.map V.int))=H2 at s2 g2⊢;have s12:=s1.trans s2;have q0:m0.length<=1:=by have e:HT.kG ns.length ns.length (some 1)=min 1 ns.length:=mX ns.length ns.length 1;rw[e]at q0;lia
 refine⟨eL.of (s12 _ _ hlow),gF,?_⟩;refine⟨Sx,S0,c0,z0,m0,xs0,rfl,eL.of g2,by lia,s12 _ _ h0,hx0,λx hx=>?_,λt ht=>hS0 t (by lia),λt0 v0 H3 s3 d0 w0 z0' _=>?_⟩
 ·obtain⟨q,nm,m,r1,r2,r3⟩:=st0 x hx;exact⟨q,nm,m,r1,s12 _ _ r2,r3⟩
 have s13:=s12.trans s3;have gp0:=(s2.trans s3) _ _ g1;refine⟨fL,eY λb0 H4 hb0 s4 g4=>?_⟩;refine⟨fL,eY λl H5 hl s5 g5=>?_⟩;have s35:=s4.trans s5;have s15:=s13.trans s35;have nl:H l=none:=(s13.trans s4).free hl;have np0:p0≠l:=dX (s4 _ _ gp0) hl;have B0:vJ H5 l ("star",[],t0) (.ref b0):=⟨b0,p0,v0,rfl,s5 _ _ g4,s35 _ _ gp0,np0,d0.mono (dW s35)⟩;have nlow:low≠l:=dX hlow nl;have keep:∀{Ha Hb:Hp}{us us':List V},Ha l=some (.lst us)->Hb=upd Ha l (.lst us')->∀p xs,p≠l->Ha p=some (.lst xs)->Hb p=some (.lst xs):=λ_ e p xs n h=>by subst e;rw[dY n];exact h
 clear s1 g1 s2 g2 s12 s3 s13 gp0 s4 g4 s35 hp0 hc0 hb0 hl em0;refine⟨.inl ⟨rfl,_,eL.of g5⟩,fL,eY λp1 H6 hp1 s6 g6=>?_⟩;obtain⟨m1,em1,q1,_⟩:=pC ns (some 1) (some 4);refine⟨(s15.trans s6).seq hc,λc1 hc1=>?_⟩;rw[em1];have s7:=dS (o:=.lst (m1.map V.int)) hc1;have g7:(upd H6 c1 (.lst (m1.map V.int))) c1=some (.lst (m1.map V.int)):=dP;generalize upd H6 c1 (.lst (m1.map V.int))=H7 at s7 g7⊢;have s67:=s6.trans s7;have q1:m1.length<=3:=by have ea:HT.kG ns.length ns.length (some 4)=min 4 ns.length:=mX ns.length ns.length 4;have eb:HT.kG ns.length 0 (some 1)=min 1 ns.length:=mX ns.length 0 1;rw[ea,eb]at q1;lia
 have s17:=s15.trans s67;refine⟨eL.of (s17 _ _ hlow),iM,?_⟩;refine⟨Mo,Mo,c1,l1,m1,_,rfl,eL.of g7,by lia,s17 _ _ h1,by simp,λx hx=>?_,λ_ _ z=>z,λt1 v1 H8 s8 d1 w1 z1' y1'=>?_⟩
 ·obtain rfl:x=.ref a1:=by simpa using hx
  exact⟨a1,"star",0,rfl,s17 _ _ e1,by decide,rfl,rfl⟩
 have s68:=s67.trans s8;refine⟨fL,eY λb1 H9 hb1 s9 g9=>?_⟩;have s69:=s68.trans s9;have at9:=s69 _ _ g5;have np1:p1≠l:=λz=>by subst z;rw[g5]at hp1;cases hp1
 refine⟨at9,by rw[sizeLine_eq];simp,?_⟩;have t10:=fA (o:=.lst ([.ref b0]++[.ref b1])) at9;have k10:=keep at9 (rfl:upd H9 l (.lst ([.ref b0]++[.ref b1]))=_);have s10:dq H (upd H9 l (.lst ([.ref b0]++[.ref b1]))):=eJ (s15.trans s69) nl;have g10:(upd H9 l (.lst ([.ref b0]++[.ref b1]))) l=some (.lst ([.ref b0]++[.ref b1])):=dP;have B0':vJ (upd H9 l (.lst ([.ref b0]++[.ref b1]))) l ("star",[],t0) (.ref b0):=(B0.mono (dW s69) λp xs _ h=>s69 _ _ h).mono t10 k10;have B1:vJ (upd H9 l (.lst ([.ref b0]++[.ref b1]))) l ("sta",["sab"],t1) (.ref b1):=⟨b1,p1,v1,rfl,t10 _ _ g9,k10 _ _ np1 (((s7.trans s8).trans s9) _ _ g6),np1,(d1.mono (dW s9)).mono t10⟩;generalize upd H9 l (.lst ([.ref b0]++[.ref b1]))=G at t10 k10 s10 g10 B0' B1⊢;clear s6 g6 s7 g7 s67 s8 s68 s9 g9 s69 at9 hp1 hc1 hb1 em1 B0 s17;refine⟨.inl ⟨rfl,_,eL.of g10⟩,fL,eY λp2 H6 hp2 s6 g6=>?_⟩;obtain⟨m2,em2,q2,_⟩:=pC ns (some 4) (some 8);refine⟨(s10.trans s6).seq hc,λc2 hc2=>?_⟩;rw[em2];have s7:=dS (o:=.lst (m2.map V.int)) hc2;have g7:(upd H6 c2 (.lst (m2.map V.int))) c2=some (.lst (m2.map V.int)):=dP;generalize upd H6 c2 (.lst (m2.map V.int))=H7 at s7 g7⊢;have s67:=s6.trans s7;have q2:m2.length<=4:=by have ea:HT.kG ns.length ns.length (some 8)=min 8 ns.length:=mX ns.length ns.length 8;have eb:HT.kG ns.length 0 (some 4)=min 4 ns.length:=mX ns.length 0 4;rw[ea,eb]at q2;lia
 have s17:=s10.trans s67;refine⟨eL.of (s17 _ _ hlow),tY,?_⟩;refine⟨Mn,Mn,c2,l2,m2,_,rfl,eL.of g7,by lia,s17 _ _ h2,by simp,λx hx=>?_,λ_ _ z=>z,λt2 v2 H8 s8 d2 w2 z2' y2'=>?_⟩
 ·simp only[aB,aG,or_false]at hx;rcases hx with rfl|rfl
  ·exact⟨a2,"star",0,rfl,s17 _ _ e2,by decide,.inl ⟨rfl,rfl⟩⟩
  ·exact⟨a3,"sta",1,rfl,s17 _ _ e3,by decide,.inr ⟨rfl,rfl⟩⟩
 have s68:=s67.trans s8;refine⟨fL,eY λb2 H9 hb2 s9 g9=>?_⟩;have s69:=s68.trans s9;have at9:=s69 _ _ g10;have np2:p2≠l:=λz=>by subst z;rw[g10]at hp2;cases hp2
 refine⟨at9,by rw[sizeLine_eq];simp,?_⟩;have t10:=fA (o:=.lst ([.ref b0]++[.ref b1]++[.ref b2])) at9;have k10:=keep at9 (rfl:upd H9 l (.lst ([.ref b0]++[.ref b1]++[.ref b2]))=_);refine(k l [.ref b0,.ref b1,.ref b2] t0 t1 t2 _ (eJ (s10.trans s69) nl) nl dP (.cons ((B0'.mono (dW s69) λp xs _ h=>s69 _ _ h).mono t10 k10) (.cons ((B1.mono (dW s69) λp xs _ h=>s69 _ _ h).mono t10 k10) (.cons ⟨b2,p2,v2,rfl,t10 _ _ g9,k10 _ _ np2 (((s7.trans s8).trans s9) _ _ g6),np2,(d2.mono (dW s9)).mono t10⟩ .nil))) w0 w1 w2 (by lia) (by lia) (by lia) (by lia) (by lia))
theorem QC(h:sC K vs H Q E):OB K (fk Q) (start ["_law_cells","_law_wild","_law_low","_law_book"] vs) H:=by
 obtain⟨c,wild,ns,rfl,hc,hn,k⟩:=h;refine⟨fL,eY λl0 H0 hl0 s0 g0=>?_⟩;refine⟨fL,eY λa1 H1 ha1 s1 g1=>?_⟩;refine⟨fL,eY λl1 H2 hl1 s2 g2=>?_⟩;refine⟨fL,eY λa2 H3 ha2 s3 g3=>?_⟩;refine⟨fL,eY λa3 H4 ha3 s4 g4=>?_⟩;refine⟨fL,eY λl2 H5 hl2 s5 g5=>?_⟩;refine⟨fL,eY λlow H6 hlow s6 g6=>?_⟩;have u5:=s5.trans s6;have u4:=s4.trans u5;have u3:=s3.trans u4;have u2:=s2.trans u3;have u1:=s1.trans u2;have u0:=s0.trans u1;have nlow:H low=none:=(s0.trans (s1.trans (s2.trans (s3.trans (s4.trans s5))))).free hlow;refine⟨_,rfl,?_⟩;cases wild with
 | false=>refine jE ?_;exact qA (Sx:=S0) (u0.seq hc) hn g6 (u1 _ _ g0) (by simp) (λx hx=>by cases hx) (λ_ _ z=>z) (u3 _ _ g2) (u2 _ _ g1) (s6 _ _ g5) (u4 _ _ g3) (u5 _ _ g4) λl us t0 t1 t2 H' s n h b w0 w1 w2=>k l us t0 t1 t2 H' (u0.trans s) (u0.free n) h b w0 w1 w2
 | true=>
  refine uk ?_;refine⟨fL,eY λb H7 hb s7 g7=>?_⟩;refine⟨fL,eY λlw H8 hlw s8 g8=>?_⟩;have v8:=s7.trans s8;have e8:=v8 _ _ g6;refine⟨e8,rfl,?_⟩;have t9:=fA (o:=.lst [.ref lw,.ref l1,.ref l2]) e8;have n1:l1≠low:=λz=>by subst z;rw[(s3.trans (s4.trans s5)) _ _ g2]at hlow;cases hlow
  have n2:l2≠low:=λz=>by subst z;rw[g5]at hlow;cases hlow
  have nw:lw≠low:=λz=>by subst z;rw[s7 _ _ g6]at hlw;cases hlw
  have u9:dq H (upd H8 low (.lst [.ref lw,.ref l1,.ref l2])):=eJ (u0.trans v8) nlow;refine qA (Sx:=QO) (z0:=lw) (u9.seq hc) hn dP (by rw[dY nw];exact g8) (by simp) (λx hx=>?_) Du (by rw[dY n1];exact v8 _ _ (u3 _ _ g2)) (t9 _ _ (v8 _ _ (u2 _ _ g1))) (by rw[dY n2];exact v8 _ _ (s6 _ _ g5)) (t9 _ _ (v8 _ _ (u4 _ _ g3))) (t9 _ _ (v8 _ _ (u5 _ _ g4))) λl us t0 t1 t2 H' s n h b w0 w1 w2=>k l us t0 t1 t2 H' (u9.trans s) (u9.free n) h b w0 w1 w2;obtain rfl:x=.ref b:=by simpa using hx
  exact⟨b,"st",2,rfl,t9 _ _ (s8 _ _ g7),by decide,rfl,rfl⟩
end S9
namespace SW
open PySem L2
def Gq(H:Hp)(u:V):Prop:=∃(q r:Addr)(w:Str)(ks:List Int),u=.ref q/\H q=some (.tup [.str w,.ref r])/\H r=some (.tup (ks.map V.int))
def rn:Sp:=λvs H Q _=>∃(p sl:Addr)(pv:V)(t:T)(m:Int)(us:List V),vs=[.ref p]/\H p=some (.tup [.str "done",pv,.ref sl,.int m])/\fc H t pv/\t.size<=5000000/\H sl=some (.lst us)/\(∀u∈us,Gq H u)/\∀H',dq H H'->Q (.bl true) H'
end SW
namespace S9
open PySem L2 SW
variable {K:aA}{vs:List V}{H:Hp}{Q:VK}{E:XK}
theorem QB(h:rn vs H Q E):OA K (fk Q) (start ["_law_found","_law_one","_law_k"] vs) H:=by
 obtain⟨p,sl,pv,t,m,us,rfl,hp,hd,ht,hs,ha,k⟩:=h;refine⟨.tup hp,ij,_,rfl,jE ?_⟩;refine⟨.inr (eD.of hp),rfl,_,rfl,eU rfl ?_⟩;refine⟨eD.of hp,rfl,.str _,kf,_,rfl,jE ?_⟩;refine⟨eD.of hp,rfl,rfl,_,rfl,eU (by decide) ?_⟩;refine⟨eD.of hp,rfl,m,rfl,_,rfl,jE ?_⟩;refine⟨eD.of hp,rfl,.lst hs,si,_,rfl,jE ?_⟩;refine⟨eD.of hp,rfl,eL.of hs,?_⟩;refine gZ (K:=K) (a:=sl) (xs:=us) (λi σ H'=>(∃j1 j2,σ=[some (.ref p),j1,j2])/\H'=H) ⟨⟨_,_,rfl⟩,rfl⟩ (λi σ H' _ hP=>by rw[hP.2];exact eL.of hs) ?_ ?_
 ·rintro i u σ H1 hi ⟨⟨j1,j2,rfl⟩,rfl⟩;obtain⟨q,r,w,ks,rfl,h1,h2⟩:=ha u (aZ hi);refine⟨.tup h1,ij,_,rfl,jE ?_⟩;refine⟨.inr (eD.of h1),rfl,_,rfl,eU rfl ?_⟩;refine⟨eD.of h1,rfl,.str _,kf,_,rfl,jE ?_⟩;refine⟨eD.of h1,rfl,.tup h2,ij,_,rfl,jE ?_⟩;refine⟨eD.of h1,rfl,eD.of h2,?_⟩;refine⟨λi m σ H'=>m=ks.length-i/\i<=ks.length/\(∃j2,σ=[some (.ref p),some (.ref q),j2])/\H'=H1,⟨_,rfl,aS _,⟨_,rfl⟩,rfl⟩,?_⟩;rintro i' m' σ' H' ⟨rfl,hi',⟨j2',rfl⟩,rfl⟩;by_cases e:i'=ks.length
  ·exact .inl ⟨⟨_,eD.of h2,by simp[e]⟩,⟨_,_,rfl⟩,rfl⟩
  ·have hlt:i'<ks.length:=by lia
   refine .inr ⟨⟨_,.int ks[i'],eD.of h2,by simp[hlt]⟩,_,λσ2 H2 h=>⟨ks.length-(i'+1),by lia,h⟩,?_⟩;rintro x H2 ⟨rfl,hx⟩;have hx:=hx _ (eD.of h2);rw[aT,aU hlt]at hx;cases hx;refine⟨ks[i'],rfl,_,rfl,jE ?_⟩;exact⟨rfl,by lia,⟨_,rfl⟩,rfl⟩
 ·rintro σ H1 ⟨⟨j1,j2,rfl⟩,rfl⟩;exact⟨eD.of hp,rfl,t,pv,rfl,hd,ht,k⟩
end S9
namespace SW
open PySem L2
abbrev Ow:=Str->Option Int
def Ow.put(o:Ow)(w:Str)(x:Int):Ow:=λy=>if y=w then some x else o y
def Ow.none:Ow:=λ_=>.none
abbrev En:=T×List Int×Ow
def gY:En->Int->List En
 | (.sum a b,p,o),_=>[(a,p++[0],o),(b,p++[1],o)]
 | (.less a b,p,o),_=>[(a,p++[0],o),(b,p++[1],o)]
 | (.cho a b c,p,o),_=>[(a,p++[0],o),(b,p++[1],o),(c,p++[2],o)]
 | (.lt w a b,p,o),x=>[(a,p++[0],o),(b,p++[1],Ow.put o w x)]
 | (.st1 _ a,p,o),_=>[(a,p++[0],o)]
 | (.st2 _ a b,p,o),_=>[(a,p++[0],o),(b,p++[1],o)]
 | (.num _,_,_),_=>[]
 | (.name _,_,_),_=>[]
 | (.st0 _,_,_),_=>[]
def pre(c:Int):T->List Int->Ow->Nat->List En
 | .num n,p,o,_=>[(.num n,p,o)]
 | .name w,p,o,_=>[(.name w,p,o)]
 | .sum a b,p,o,i=>(.sum a b,p,o)::(pre c a (p++[0]) o (i+1)++pre c b (p++[1]) o (i+1+a.size))
 | .less a b,p,o,i=>(.less a b,p,o)::(pre c a (p++[0]) o (i+1)++pre c b (p++[1]) o (i+1+a.size))
 | .cho a b d,p,o,i=>(.cho a b d,p,o)::(pre c a (p++[0]) o (i+1)++(pre c b (p++[1]) o (i+1+a.size)++pre c d (p++[2]) o (i+1+a.size+b.size)))
 | .lt w a b,p,o,i=>(.lt w a b,p,o)::(pre c a (p++[0]) o (i+1)++pre c b (p++[1]) (Ow.put o w (c+((i+1:Nat):Int))) (i+1+a.size))
 | .st0 w,p,o,_=>[(.st0 w,p,o)]
 | .st1 w a,p,o,i=>(.st1 w a,p,o)::pre c a (p++[0]) o (i+1)
 | .st2 w a b,p,o,i=>(.st2 w a b,p,o)::(pre c a (p++[0]) o (i+1)++pre c b (p++[1]) o (i+1+a.size))
def hU(c:Int):List En->Nat->List En
 | [],_=>[]
 | e::r,i=>pre c e.1 e.2.1 e.2.2 i++hU c r (i+e.1.size)
theorem oC(c:Int)(e:En)(r:List En)(i:Nat):e::hU c (gY e (c+((i+1:Nat):Int))++r) (i+1)=hU c (e::r) i:=by
 obtain⟨t,p,o⟩:=e;cases t with
 | num n=>simp only[gY,ak,hU,pre,aN,T.size]
 | name n=>simp only[gY,ak,hU,pre,aN,T.size]
 | st0 n=>simp only[gY,ak,hU,pre,aN,T.size]
 | sum a b=>simp only[gY,ak,hU,pre,aN,aW,T.size];rw[show i+1+a.size+b.size=i+(a.size+b.size+1) by lia]
 | less a b=>simp only[gY,ak,hU,pre,aN,aW,T.size];rw[show i+1+a.size+b.size=i+(a.size+b.size+1) by lia]
 | cho a b d=>simp only[gY,ak,hU,pre,aN,aW,T.size];rw[show i+1+a.size+b.size+d.size=i+(a.size+b.size+d.size+1) by lia]
 | lt w a b=>simp only[gY,ak,hU,pre,aN,aW,T.size];rw[show i+1+a.size+b.size=i+(a.size+b.size+1) by lia]
 | st1 w a=>simp only[gY,ak,hU,pre,aN,aW,T.size];rw[show i+1+a.size=i+(a.size+1) by lia]
 | st2 w a b=>simp only[gY,ak,hU,pre,aN,aW,T.size];rw[show i+1+a.size+b.size=i+(a.size+b.size+1) by lia]
theorem mI(e:En)(x:Int):(gY e x).map (·.1)=e.1.kids:=by obtain⟨t,p,o⟩:=e;cases t<;>rfl
theorem qy(e:En)(x:Int):(gY e x).length=e.1.kids.length:=by rw[<-mI e x,aO]
theorem Cm{e k:En}{x:Int}{j:Nat}(h:(gY e x)[j]?=some k):k.2.1=e.2.1++[(j:Int)]/\((∃w a b,e.1=.lt w a b/\j=1/\k.2.2=Ow.put e.2.2 w x)∨((∀w a b,e.1=.lt w a b->j≠1)/\k.2.2=e.2.2)):=by
 obtain⟨t,p,o⟩:=e;cases t<;>(try (simp only[gY]at h))<;>(match j,h with
  | 0,h=>first
   | (cases h;exact⟨rfl,.inr ⟨λ_ _ _ _=>by decide,rfl⟩⟩)
   | (cases h)
  | 1,h=>first
   | (cases h;exact⟨rfl,.inl ⟨_,_,_,rfl,rfl,rfl⟩⟩)
   | (cases h;exact⟨rfl,.inr ⟨λ_ _ _ z=>(by cases z),rfl⟩⟩)
   | (cases h)
  | 2,h=>first
   | (cases h;exact⟨rfl,.inr ⟨λ_ _ _ z=>(by cases z),rfl⟩⟩)
   | (cases h)
  | j+3,h=>cases h)
def Kj(kvs:List (fB×V))(o:Ow):Prop:=∀w:Str,fP kvs (.inr w:fB)=(o w).map V.int
theorem Kj.put(h:Kj kvs g)(w:Str)(x:Int):Kj (fh kvs (.inr w:fB) (.int x)) (Ow.put g w x):=λy=>by
 rw[mP];by_cases e:y=w
 ·subst e;simp[Ow.put]
 ·have:¬((.inr y:fB)=.inr w):=λz=>e (Sum.inr.inj z);simp[Ow.put,e,this,h y]
def Do(H:Hp)(e:En)(u:V):Prop:=∃(q pp od:Addr)(v:V)(kvs:List (fB×V)),u=.ref q/\H q=some (.tup [v,.ref pp,.ref od])/\fc H e.1 v/\H pp=some (.tup (e.2.1.map V.int))/\H od=some (.dK kvs)/\Kj kvs e.2.2/\kvs.length+e.1.size<=1000/\e.2.1.length+e.1.size<=1000
theorem Do.mono(m:fF H H')(k:vI H H')(h:Do H e u):Do H' e u:=by obtain⟨q,pp,od,v,kvs,r1,r2,r3,r4,r5,r6⟩:=h;exact⟨q,pp,od,v,kvs,r1,m _ _ r2,r3.mono m,m _ _ r4,k _ _ r5,r6⟩
inductive EL(H:Hp):List En->List V->Prop where
 | nil:EL H [] []
 | cons{e:En}{u:V}{es:List En}{us:List V}:Do H e u->EL H es us->EL H (e::es) (u::us)
inductive ER(H:Hp):List En->List V->Prop where
 | nil:ER H [] []
 | snoc{e:En}{u:V}{es:List En}{us:List V}:ER H es us->Do H e u->ER H (e::es) (us++[u])
theorem EL.mono(m:fF H H')(k:vI H H'):∀{es:List En}{us:List V},EL H es us->EL H' es us
 | _,_,.nil=>.nil
 | _,_,.cons a r=>.cons (a.mono m k) (EL.mono m k r)
theorem ER.mono(m:fF H H')(k:vI H H'):∀{es:List En}{us:List V},ER H es us->ER H' es us
 | _,_,.nil=>.nil
 | _,_,.snoc r a=>.snoc (ER.mono m k r) (a.mono m k)
theorem EL.snoc:∀{es:List En}{us:List V},EL H es us->Do H e u->EL H (es++[e]) (us++[u])
 | _,_,.nil,h=>.cons h .nil
 | _,_,.cons a r,h=>.cons a (EL.snoc r h)
theorem EL.length:∀{es:List En}{us:List V},EL H es us->us.length=es.length
 | _,_,.nil=>rfl
 | _,_,.cons _ r=>by rw[aD,aD,EL.length r]
theorem ER.length:∀{es:List En}{us:List V},ER H es us->us.length=es.length
 | _,_,.nil=>rfl
 | _,_,.snoc r _=>by rw[aE,aD,ER.length r];rfl
def tX(es:List En):Nat:=(es.map λe=>e.1.size).sum
theorem pO(e:En)(es:List En):tX (e::es)=e.1.size+tX es:=by simp[tX]
theorem BU(e:En)(x:Int):tX (gY e x)+1=e.1.size:=by have h:=iy e.1;rw[<-mI e x]at h;unfold tX;unfold et at h;rw[bN]at h;exact h
theorem pP(a b:List En):tX (a++b)=tX a+tX b:=by simp[tX]
theorem xc:∀es:List En,es.length<=tX es
 | []=>aC _
 | e::r=>by have:=xc r;have:=e.1.size_pos;rw[pO,aD];lia
end SW
namespace S3
open PySem L2 SW
def IC(K:aA):TS:=(dZ (eB (gx qO (dI (dJ 8) dQ)) (dR 11)) (jl (dJ 11) (dj (dy K) (dJ 6) (tC (.int 1))) (dj kH (dJ 3) (gx (ga K) (dI (dJ 4) dQ)))))
def IB(K:aA):TS:=(fE (lq (dz (dj ic (dj (dy K) (dJ 6) (tC (.int 0))) (tC (.str "let")))) (dz (dj ic (dJ 10) (tC (.int 1))))) (IC K) fC)
def Ar(K:aA):TS:=(dZ (eB (dJ 8) (dR 11)) (dZ (IB K) (eX (iW K "list" eE (dJ 5) (dI (ef (dI (dj (fu K) (dJ 9) (dJ 10)) (dI (dj (qB K) (dJ 7) (ef (dI (dJ 10) dQ))) (dI (dJ 11) dQ)))) dQ)))))
def Aq(K:aA):TS:=(dZ (eB (jG K "list" jH (dJ 5)) (nq K 3 (gR (dR 6) (gR (dR 7) (gR (dR 8) oA))))) (dZ (eX (iW K "list" eE (dJ 4) (dI (ef (dI (dJ 6) (dI (dJ 7) (dI (dJ 8) dQ)))) dQ))) (dZ (eB (eN ia [] E0 (dI (dJ 6) dQ)) (dR 9)) (iV (q9 (dI (dj ib (gx (ga K) (dI (dJ 9) dQ)) (tC (.int 1))) (dI (mQ gQ (tC (.int 1))) (dI (mQ gQ (tC (.int 1))) dQ)))) (dR 10) (Ar K)))))
def IA(K:aA):TS:=(eB (dj (dy K) (dJ 6) (tC (.int 1))) (dR 15))
def Ap(K:aA):TS:=(fE (dz (dj (Je K false) (dj (dy K) (dJ 6) (tC (.int 0))) (fG (dI (tC (.str "number")) (dI (tC (.str "name")) (dI (tC (.str "stamp")) dQ)))))) (IA K) fC)
def Hz(K:aA):TS:=(eB (dj kH (dj kH (dJ 3) (dJ 10)) (tC (.int 1))) (dR 15))
def Ao(K:aA):TS:=(fE (dz (dj ic (dj (dy K) (dJ 6) (tC (.int 0))) (tC (.str "let")))) (Hz K) fC)
def Hw(K:aA):TS:=(eB (kC (dJ 8) (dj (dy K) (dJ 6) (tC (.int 1)))) (dR 15))
def rT(K:aA):TS:=(fE (lq (dz (dj ic (dj (dy K) (dJ 6) (tC (.int 0))) (tC (.str "name")))) (tB (BR (dj (dy K) (dJ 6) (tC (.int 1))) (dJ 8)))) (Hw K) fC)
def D6(K:aA):TS:=(eX (iW K "list" eE (dJ 12) (dI (kC (dJ 2) (dj (dy K) (dJ 6) (tC (.int 1)))) dQ)))
def xM(K:aA):TS:=(eX (iW K "list" eE (dJ 12) (dI (ef (dI (dj (dy K) (dJ 6) (tC (.int 0))) (dI (dJ 15) (dI (ef (dI (dJ 1) (dI (dJ 7) dQ))) (dI (dJ 14) dQ))))) dQ)))
def rS(K:aA):TS:=(fE (lq (dz (dj ic (dj (dy K) (dJ 6) (tC (.int 0))) (tC (.str "name")))) (lq (tB (lQ (dj (dy K) (dJ 6) (tC (.int 1))) (dJ 8))) (tB (BR (dj (dy K) (dJ 6) (tC (.int 1))) (dJ 2))))) (D6 K) (xM K))
def D5(K:aA):TS:=(dZ (eB (dj (fu K) (dJ 4) (dJ 10)) (nq K 3 (gR (dR 6) (gR (dR 7) (gR (dR 8) oA))))) (dZ (eB (gx (ga K) (dI (eN ia [] E0 (dI (dJ 6) dQ)) dQ)) (dR 13)) (dZ (eB (GH K (nB (jX K) (dJ 12) (fi (dj ib (gx (ga K) (dI (dJ 12) dQ)) (dJ 13))) fg)) (dR 14)) (dZ (eB (nB (jX K) (dJ 12) fg (fi (dj ib (gx (ga K) (dI (dJ 12) dQ)) (dJ 13)))) (dR 12)) (dZ (eB (tC .non) (dR 15)) (dZ (Ap K) (dZ (Ao K) (dZ (rT K) (rS K)))))))))
def Nz(K:aA):TS:=(dZ (eB (fG dQ) (dR 4)) (dZ (eB (fG (dI (ef (dI (dJ 0) (dI (ef dQ) (dI iF dQ)))) dQ)) (dR 5)) (dZ (gi (dz (dj (lE K) (dJ 5) (fG dQ))) (Aq K)) (dZ (eB (fG dQ) (dR 12)) (dZ (iV (q9 (dI (dj ib (gx (ga K) (dI (dJ 4) dQ)) (tC (.int 1))) (dI (mQ gQ (tC (.int 1))) (dI (mQ gQ (tC (.int 1))) dQ)))) (dR 10) (D5 K)) (fD (ef (dI (dj (fu K) (dJ 12) (tC (.int 0))) (dI (dj kH (dJ 3) (gx (ga K) (dI (dJ 4) dQ))) dQ)))))))))
end S3
namespace SW
open PySem L2
structure qY(H₀ H:Hp)(ol tl:Addr)(os st:List En)(ous tus:List V):Prop where
 same:dq H₀ H
 n1:H₀ ol=none
 n2:H₀ tl=none
 ne:ol≠tl
 ol_:H ol=some (.lst ous)
 tl_:H tl=some (.lst tus)
 el:EL H os ous
 er:ER H st tus
section
variable {H₀ H H':Hp}{ol tl q:Addr}{os st:List En}{ous tus:List V}{e:En}{u:V}
theorem qY.grow(B:qY H₀ H ol tl os st ous tus)(s:dq H H'):qY H₀ H' ol tl os st ous tus:=
 ⟨B.same.trans s,B.n1,B.n2,B.ne,s _ _ B.ol_,s _ _ B.tl_,B.el.mono (dW s) (im s),B.er.mono (dW s) (im s)⟩
theorem qY.push(B:qY H₀ H ol tl os st ous tus)(he:Do H e (.ref q)):qY H₀ (upd H tl (.lst (tus++[.ref q]))) ol tl os (e::st) ous (tus++[.ref q]):=
 have m:=fA (o:=.lst (tus++[.ref q])) B.tl_;have k:=mJ (o:=.lst (tus++[.ref q])) B.tl_
 ⟨eJ B.same B.n2,B.n1,B.n2,B.ne,by rw[dY B.ne];exact B.ol_,dP,B.el.mono m k,.snoc (B.er.mono m k) (he.mono m k)⟩
theorem qY.put(B:qY H₀ H ol tl os st ous tus)(he:Do H e (.ref q)):qY H₀ (upd H ol (.lst (ous++[.ref q]))) ol tl (os++[e]) st (ous++[.ref q]) tus:=
 have m:=fA (o:=.lst (ous++[.ref q])) B.ol_;have k:=mJ (o:=.lst (ous++[.ref q])) B.ol_
 ⟨eJ B.same B.n1,B.n1,B.n2,B.ne,dP,by rw[dY B.ne.symm];exact B.tl_,(B.el.mono m k).snoc (he.mono m k),B.er.mono m k⟩
theorem qY.pop(B:qY H₀ H ol tl os (e::st) ous (tus++[u]))(h:ER H st tus):qY H₀ (upd H tl (.lst tus)) ol tl os st ous tus:=
 have m:=fA (o:=.lst tus) B.tl_;have k:=mJ (o:=.lst tus) B.tl_
 ⟨eJ B.same B.n2,B.n1,B.n2,B.ne,by rw[dY B.ne];exact B.ol_,dP,B.el.mono m k,h.mono m k⟩
end
structure Dn(H:Hp)(e:En)(v:V)(pp od:Addr)(kvs:List (fB×V)):Prop where
 den:fc H e.1 v
 path:H pp=some (.tup (e.2.1.map V.int))
 own:H od=some (.dK kvs)
 ow:Kj kvs e.2.2
 f1:kvs.length+e.1.size<=1000
 f2:e.2.1.length+e.1.size<=1000
theorem Dn.mono(m:fF H H')(k:vI H H')(h:Dn H e v pp od kvs):Dn H' e v pp od kvs:=
 ⟨h.den.mono m,m _ _ h.path,k _ _ h.own,h.ow,h.f1,h.f2⟩
end SW
namespace S3
open PySem L2 SW
variable {K:aA}{vs:List V}{H H₀:Hp}{Q:VK}{E:XK}
theorem zY{v0 src giv:Option V}{c:Int}{ol tl pp od il nd:Addr}{pv x:V}{os st:List En}{ous tus us:List V}{e k:En}{j:Nat}{kvs kvs':List (fB×V)}{D:fz}{j12 j13 j14 j15:Option V}
  (B:qY H₀ H ol tl os st ous tus) (hp:H pp=some (.tup (e.2.1.map V.int))) (hil:H il=some (.lst us)) (hx:us[j]?=some x) (dk:fc H k.1 x) (ek:k.2.1=e.2.1++[(j:Int)]) (hn:H nd=some (.dK kvs')) (ow:Kj kvs' k.2.2) (f1:kvs'.length+k.1.size<=1000) (f2:k.2.1.length+k.1.size<=1000) (few:tus.length<=5000)
  (hD:∀(q:Addr)(H':Hp),dq H H'->∀H'',H''=upd H' tl (.lst (tus++[.ref q]))->qY H₀ H'' ol tl os (k::st) ous (tus++[.ref q])->D.nx [v0,src,giv,some (.int c),some (.ref ol),some (.ref tl),some pv,some (.ref pp),some (.ref od),some (.ref il),some (.int j),some (.ref nd),j12,j13,j14,j15] H''):
  (eX (iW K "list" eE (dJ 5) (dI (ef (dI (dj (fu K) (dJ 9) (dJ 10)) (dI (dj (qB K) (dJ 7) (ef (dI (dJ 10) dQ))) (dI (dJ 11) dQ)))) dQ))) D
   [v0,src,giv,some (.int c),some (.ref ol),some (.ref tl),some pv,some (.ref pp),some (.ref od),some (.ref il),some (.int j),some (.ref nd),j12,j13,j14,j15] H:=by
 refine⟨.inl ⟨rfl,_,eL.of B.tl_⟩,eL.of hil,fK hx,fL,eY λkt H1 hkt s1 g1=>?_⟩;have rest:∀(pq:Addr)(H2:Hp),dq H H2->H2 pq=some (.tup (k.2.1.map V.int))->([x,.ref pq,.ref nd]:List V).length<=sizeLine/\∀p,H2 p=none->eE (.ref tl) [.ref p] (upd H2 p (.tup [x,.ref pq,.ref nd])) λ_ H1=>D.nx [v0,src,giv,some (.int c),some (.ref ol),some (.ref tl),some pv,some (.ref pp),some (.ref od),some (.ref il),some (.int j),some (.ref nd),j12,j13,j14,j15] H1:=by intro pq H2 s2 hpq;refine⟨fL,λq hq=>?_⟩;obtain⟨H3,s3,g3,e3⟩:∃H3,dq H2 H3/\H3 q=some (.tup [x,.ref pq,.ref nd])/\upd H2 q (.tup [x,.ref pq,.ref nd])=H3:=⟨_,dS hq,dP,rfl⟩;rw[e3];have s23:=s2.trans s3;have B3:=B.grow s23;refine⟨B3.tl_,by rw[sizeLine_eq];lia,hD q H3 s23 _ rfl (B3.push ⟨q,pq,nd,x,kvs',rfl,g3,dk.mono (dW s23),s3 _ _ hpq,s23 _ _ hn,ow,f1,f2⟩)⟩
 refine⟨eD.of (s1 _ _ hp),eD.of g1,?_,λhe=>?_,(λ_ he=>by cases he),λhe _ pq hpq=>?_⟩
 ·rw[aO];simp only[aD,am];rw[ek,aE]at f2;rw[sizeLine_eq];lia
 ·refine(rest kt H1 s1 ?_);have:e.2.1=[]:=by simpa using he
  rw[ek,this];exact g1
 ·have s2:=dS (o:=.tup (e.2.1.map V.int++[.int j])) hpq;refine(rest pq _ (s1.trans s2) ?_);rw[ek,dP];simp
theorem vk{v0 src giv:Option V}{c:Int}{ol tl pp od il:Addr}{pv:V}{os st:List En}{ous tus us:List V}{e:En}{kvs:List (fB×V)}{D:fz}{j10 j11 j12 j13 j14 j15:Option V}
  (B:qY H₀ H ol tl os st ous tus) (O:Dn H e pv pp od kvs) (hil:H il=some (.lst us)) (nil:il≠tl) (dk:fm H e.1.kids us) (few:tus.length<=4000)
  (hD:∀(tus':List V)(H':Hp)(j10 j11:Option V),qY H₀ H' ol tl os (gY e (c+(os.length:Int))++st) ous tus'->D.nx [v0,src,giv,some (.int c),some (.ref ol),some (.ref tl),some pv,some (.ref pp),some (.ref od),some (.ref il),j10,j11,j12,j13,j14,j15] H'):
  (iV (q9 (dI (dj ib (gx (ga K) (dI (dJ 9) dQ)) (tC (.int 1))) (dI (mQ gQ (tC (.int 1))) (dI (mQ gQ (tC (.int 1))) dQ)))) (dR 10) (Ar K)) D
   [v0,src,giv,some (.int c),some (.ref ol),some (.ref tl),some pv,some (.ref pp),some (.ref od),some (.ref il),j10,j11,j12,j13,j14,j15] H:=by
 have hlen:=dk.length;have hkl:=qy e (c+(os.length:Int));have hk3:e.1.kids.length<=3:=by cases e.1<;>simp[T.kids]
 refine⟨.inl (eL.of hil),(us.length:Int)-1,-1,rfl,⟨by lia,by lia,by lia,by lia⟩,?_⟩;have en:((us.length:Int)-1 - -1).toNat=us.length:=by lia
 rw[en];refine⟨λi m σ H'=>m=us.length-i/\i<=us.length/\(∃j10 j11,σ=[v0,src,giv,some (.int c),some (.ref ol),some (.ref tl),some pv,some (.ref pp),some (.ref od),some (.ref il),j10,j11,j12,j13,j14,j15])/\Dn H' e pv pp od kvs/\H' il=some (.lst us)/\fm H' e.1.kids us/\∃tus',tus'.length=tus.length+i/\qY H₀ H' ol tl os ((gY e (c+(os.length:Int))).drop (us.length-i)++st) ous tus',
  ⟨_,rfl,aS _,⟨_,_,rfl⟩,O,hil,dk,tus,rfl,by rw[bh,cB (by lia)];exact B⟩,?_⟩
 rintro i m σ H' ⟨rfl,hi,⟨j10,j11,rfl⟩,O',hil',dk',tus',hl',B'⟩;by_cases hn:i=us.length
 ·refine .inl ⟨by show us.length<=i;lia,hD tus' H' _ _ ?_⟩;rw[hn,bB,af]at B';exact B'
 ·have hlt:i<us.length:=by lia
  refine .inr ⟨show i<us.length from hlt,_,λσ2 H2 h=>⟨us.length-(i+1),by lia,h⟩,?_⟩;rintro v3 H3 ⟨rfl,rfl⟩;obtain⟨j,hj⟩:∃j:Nat,j=us.length-1-i:=⟨_,rfl⟩;have hjl:j<us.length:=by lia
  rw[show(us.length:Int)-1-(i:Int)=(j:Int) by lia];obtain⟨k,hk⟩:∃k,(gY e (c+(os.length:Int)))[j]?=some k:=⟨(gY e (c+(os.length:Int)))[j]'(by lia),by rw[aU]⟩;obtain⟨x,hx⟩:∃x,us[j]?=some x:=⟨us[j],by rw[aU]⟩;obtain⟨tk,htk,dx⟩:=ya dk' hx;have ek:tk=k.1:=by rw[<-mI e (c+(os.length:Int)),aT,hk]at htk;exact(Option.some.inj htk).symm
  subst ek;obtain⟨e1,e2⟩:=Cm hk;have hsz:=Cp (aZ htk);have hdrop:(gY e (c+(os.length:Int))).drop (us.length-(i+1))=k::(gY e (c+(os.length:Int))).drop (us.length-i):=by rw[show us.length-(i+1)=j by lia,show us.length-i=j+1 by lia];obtain⟨hjk,e⟩:=aK.mp hk;rw[bR hjk,e]
  have f2:k.2.1.length+k.1.size<=1000:=by have:=O'.f2;rw[e1,aE];simp only[aD,am];lia
  have tail:∀(nd:Addr)(kvs':List (fB×V))(H4:Hp),dq H3 H4->H4 nd=some (.dK kvs')->Kj kvs' k.2.2->kvs'.length+k.1.size<=1000->_:=λnd kvs' H4 s4 hnd ow f1=>
   zY (K:=K) (v0:=v0) (src:=src) (giv:=giv) (c:=c) (pv:=pv) (od:=od) (nd:=nd) (j12:=j12) (j13:=j13) (j14:=j14) (j15:=j15) (D:={D with nx:=λσ' H''=>us.length-(i+1)=us.length-(i+1)/\i+1<=us.length/\(∃j10 j11,σ'=[v0,src,giv,some (.int c),some (.ref ol),some (.ref tl),some pv,some (.ref pp),some (.ref od),some (.ref il),j10,j11,j12,j13,j14,j15])/\Dn H'' e pv pp od kvs/\H'' il=some (.lst us)/\fm H'' e.1.kids us/\∃tus',tus'.length=tus.length+(i+1)/\qY H₀ H'' ol tl os ((gY e (c+(os.length:Int))).drop (us.length-(i+1))++st) ous tus',ct:=λσ' H''=>us.length-(i+1)=us.length-(i+1)/\i+1<=us.length/\(∃j10 j11,σ'=[v0,src,giv,some (.int c),some (.ref ol),some (.ref tl),some pv,some (.ref pp),some (.ref od),some (.ref il),j10,j11,j12,j13,j14,j15])/\Dn H'' e pv pp od kvs/\H'' il=some (.lst us)/\fm H'' e.1.kids us/\∃tus',tus'.length=tus.length+(i+1)/\qY H₀ H'' ol tl os ((gY e (c+(os.length:Int))).drop (us.length-(i+1))++st) ous tus',bk:=D.nx}) (e:=e) (k:=k) (j:=j) (kvs:=kvs) (kvs':=kvs')
    (B'.grow s4) (s4 _ _ O'.path) (s4 _ _ hil') hx (dx.mono (dW s4)) e1 hnd ow f1 f2 (by lia) λq H5 s5 H6 e6 B6=>by have s45:=s4.trans s5;have B5:=(B'.grow s45);have m:=fA (o:=.lst (tus'++[.ref q])) B5.tl_;have kk:=mJ (o:=.lst (tus'++[.ref q])) B5.tl_;rw[<-e6]at m kk;refine⟨rfl,hlt,⟨_,_,rfl⟩,(O'.mono (dW s45) (im s45)).mono m kk,?_,(dk'.mono (dW s45)).mono m,tus'++[.ref q],by simp[hl'];lia,by rw[hdrop];exact B6⟩;rw[e6,dY nil];exact s45 _ _ hil'
  have plain:k.2.2=e.2.2->_:=λeo=>tail od kvs H3 (λ_ _ z=>z) O'.own (by rw[eo];exact O'.ow) (by have:=O'.f1;lia);obtain⟨p9,ks,epv,hp9,_⟩:=O'.den.open;subst epv;refine ?_;refine⟨eD.of hp9,lf e.1 ks,rfl,_,rfl,?_⟩;refine ir (λhlet=>?_) (λhlet=>?_)
  ·obtain⟨w,a,b,elt⟩:=uj (V.str.inj (of_decide_eq_true hlet));refine⟨rfl,_,rfl,?_⟩;refine ir (λhj1=>?_) (λhj1=>?_)
   ·have hj1:j=1:=by have:=V.int.inj (of_decide_eq_true hj1);lia
    have eo:k.2.2=Ow.put e.2.2 w (c+(os.length:Int)):=by
     rcases e2 with⟨w',a',b',q1,_,q2⟩|⟨q1,_⟩
     ·rw[elt]at q1;cases q1;exact q2
     ·exact absurd hj1 (q1 w a b elt)
    refine⟨od,kvs,rfl,.inl O'.own,eY λnd H4 hnd s4 g4=>?_⟩;have hol:=B'.el.length;have hw9:nC (hd e.1++ks) 1=some (.str w):=by rw[elt];exact iM
    refine⟨.inl (eL.of (s4 _ _ B'.ol_)),eD.of (s4 _ _ hp9),hw9,lO.k (k:=.inr w) g4 (by have:=O'.f1;rw[sizeLine_eq];lia),?_⟩;rw[hol];have s5:dq H3 (upd H4 nd (.dK (fh kvs (.inr w:fB) (.int (c+(os.length:Int)))))):=eJ s4 hnd;have hpl:=gG kvs (.inr w:fB) (.int (c+(os.length:Int)));refine tail nd _ _ s5 dP (by rw[eo];exact O'.ow.put w _) ?_;have:=O'.f1;show(fh kvs (.inr w:fB) (.int (c+(os.length:Int)))).length+k.1.size<=1000;lia
   ·refine plain ?_;rcases e2 with⟨_,_,_,_,q1,_⟩|⟨_,q2⟩
    ·exact absurd (by rw[q1];rfl) hj1
    ·exact q2
  ·refine jE (plain ?_);rcases e2 with⟨w',a',b',q1,_,_⟩|⟨_,q2⟩
   ·exact absurd (by rw[q1];exact decide_eq_true rfl) hlet
   ·exact q2
end S3
namespace SW
open PySem L2
theorem iB(c:Int):∀(t:T)(p:List Int)(o:Ow)(i:Nat),(pre c t p o i).length=t.size
 | .num _,_,_,_=>rfl
 | .name _,_,_,_=>rfl
 | .st0 _,_,_,_=>rfl
 | .sum a b,p,o,i=>by simp only[pre,aD,aE,iB c a,iB c b,T.size]
 | .less a b,p,o,i=>by simp only[pre,aD,aE,iB c a,iB c b,T.size]
 | .cho a b d,p,o,i=>by simp only[pre,aD,aE,iB c a,iB c b,iB c d,T.size];lia
 | .lt w a b,p,o,i=>by simp only[pre,aD,aE,iB c a,iB c b,T.size]
 | .st1 w a,p,o,i=>by simp only[pre,aD,iB c a,T.size]
 | .st2 w a b,p,o,i=>by simp only[pre,aD,aE,iB c a,iB c b,T.size]
end SW
namespace S3
open PySem L2 SW
variable {K:aA}{vs:List V}{H H₀:Hp}{Q:VK}{E:XK}
inductive PM(H₀:Hp)(v0 src giv:Option V)(c:Int)(ol tl:Addr)(j12 j13 j14 j15:Option V)(es:List En):Nat->St->Hp->Prop where
 | mk{os st:List En}{ous tus:List V}{j6 j7 j8 j9 j10 j11:Option V}{H':Hp}(b:qY H₀ H' ol tl os st ous tus)(e:os++hU c st os.length=es)(z:tX st+os.length<=900):PM H₀ v0 src giv c ol tl j12 j13 j14 j15 es (tX st) [v0,src,giv,some (.int c),some (.ref ol),some (.ref tl),j6,j7,j8,j9,j10,j11,j12,j13,j14,j15] H'
theorem vj
  (B:qY H₀ H ol tl [] st [] tus) (hes:hU c st 0=es) (hsz:tX st<=900)
  (hD:∀(ous:List V)(H':Hp)(j6 j7 j8 j9 j10 j11:Option V),dq H₀ H'->H' ol=some (.lst ous)->EL H' es ous->D.nx [v0,src,giv,some (.int c),some (.ref ol),some (.ref tl),j6,j7,j8,j9,j10,j11,j12,j13,j14,j15] H'):
  (gi (dz (dj (lE K) (dJ 5) (fG dQ))) (Aq K)) D [v0,src,giv,some (.int c),some (.ref ol),some (.ref tl),j6,j7,j8,j9,j10,j11,j12,j13,j14,j15] H:=by
 refine⟨PM H₀ v0 src giv c ol tl j12 j13 j14 j15 es,
  ⟨_,.mk B (by simpa using hes) (by simpa using hsz)⟩,?_⟩
 clear B hes hsz j6 j7 j8 j9 j10 j11 st tus;rintro m σ H1 @⟨os,st,ous,tus,j6,j7,j8,j9,j10,j11,_,B,he,hsz⟩;refine⟨fL,λe0 he0=>?_⟩;have s1:=dS (o:=.lst []) he0;have g1:(upd H1 e0 (.lst [])) e0=some (.lst []):=dP;have B1:=B.grow s1;generalize upd H1 e0 (.lst [])=H2 at g1 B1⊢;clear s1 he0 B;refine⟨eL.of B1.tl_,eL.of g1,_,rfl,?_⟩;have her:=B1.er;cases her with
 | nil=>
  refine eU rfl (hD ous H2 _ _ _ _ _ _ B1.same B1.ol_ ?_);have:os=es:=by simpa[hU]using he
  rw[<-this];exact B1.el
 | @snoc e u st tus her ha=>
  refine fI (by simp) ?_;refine⟨Lt (PM H₀ v0 src giv c ol tl j12 j13 j14 j15 es) (tX (e::st)),λ_ _ h=>h,?_⟩;refine⟨.inl ⟨rfl,_,eL.of B1.tl_⟩,B1.tl_,iO,?_⟩;rw[gk];have m3:=fA (o:=.lst tus) B1.tl_;have k3:=mJ (o:=.lst tus) B1.tl_;have B3:=B1.pop her;have a3:=ha.mono m3 k3;generalize upd H2 tl (.lst tus)=H3 at B3 a3⊢;obtain⟨q,pp,od,pv,kvs,rfl,hq,den,hpp,hod,ow,f1,f2⟩:=a3;refine⟨eD.of hq,rfl,rfl,?_⟩;refine⟨.inl ⟨rfl,_,eL.of B3.ol_⟩,fL,λq4 hq4=>?_⟩;have s4:=dS (o:=.tup [pv,.ref pp,.ref od]) hq4;have g4:(upd H3 q4 (.tup [pv,.ref pp,.ref od])) q4=some (.tup [pv,.ref pp,.ref od]):=dP;have B4:=B3.grow s4;generalize upd H3 q4 (.tup [pv,.ref pp,.ref od])=H4 at s4 g4 B4⊢;have hol:=B4.el.length;rw[pO]at hsz;refine⟨B4.ol_,by rw[sizeLine_eq];lia,?_⟩;have m5:=fA (o:=.lst (ous++[.ref q4])) B4.ol_;have k5:=mJ (o:=.lst (ous++[.ref q4])) B4.ol_;have O4:Dn H4 e pv pp od kvs:=⟨den.mono (dW s4),s4 _ _ hpp,s4 _ _ hod,ow,f1,f2⟩;have B5:=B4.put (e:=e) ⟨q4,pp,od,pv,kvs,rfl,g4,O4.den,O4.path,O4.own,ow,f1,f2⟩;have O5:=O4.mono m5 k5;generalize upd H4 ol (.lst (ous++[.ref q4]))=H5 at B5 O5⊢;refine⟨e.1,pv,rfl,O5.den,λil us H6 s6 n6 h6 d6=>?_⟩;have B6:=B5.grow s6;have htl:=B6.er.length;have hst:=xc st;refine vk B6 (O5.mono (dW s6) (im s6)) h6 (λz=>by subst z;rw[B5.tl_]at n6;cases n6) d6 (by lia) λtus' H7 j10 j11 B7=>?_;have hk:=BU e (c+((os++[e]).length:Int));have hl1:(os++[e]).length=os.length+1:=by simp
  have hfin:tX (gY e (c+((os++[e]).length:Int))++st)+(os++[e]).length<=900:=by rw[pP];generalize tX (gY e (c+((os++[e]).length:Int)))=z at *;lia
  refine⟨tX (gY e (c+((os++[e]).length:Int))++st),by rw[pP,pO];lia,.mk B7 ?_ hfin⟩;rw[<-he,aW]
  congr 1
  have:=oC c e st os.length;rw[<-this];simp
end S3
namespace SW
open PySem L2
inductive NT where
 | mk(k:Str)(x:V)(src:Str)(path:List Int)(kids:List NT)
mutual
inductive lv(H:Hp):NT->V->Prop where
 | mk{k:Str}{x:V}{src:Str}{path:List Int}{kids:List NT}{p sp pp kl:Addr}{us:List V}:H p=some (.tup [.str k,x,.ref sp,.ref kl])->H sp=some (.tup [.str src,.ref pp])->H pp=some (.tup (path.map V.int))->H kl=some (.lst us)->gf H kids us->lv H (.mk k x src path kids) (.ref p)
inductive gf(H:Hp):List NT->List V->Prop where
 | nil:gf H [] []
 | cons{n:NT}{u:V}{ns:List NT}{us:List V}:lv H n u->gf H ns us->gf H (n::ns) (u::us)
end
mutual
theorem lv.same(s:dq H H'):∀{n:NT}{u:V},lv H n u->lv H' n u
 | _,_,.mk h1 h2 h3 h4 h5=>.mk (s _ _ h1) (s _ _ h2) (s _ _ h3) (s _ _ h4) (gf.same s h5)
theorem gf.same(s:dq H H'):∀{ns:List NT}{us:List V},gf H ns us->gf H' ns us
 | _,_,.nil=>.nil
 | _,_,.cons a r=>.cons (lv.same s a) (gf.same s r)
end
theorem gf.length:∀{ns:List NT}{us:List V},gf H ns us->us.length=ns.length
 | _,_,.nil=>rfl
 | _,_,.cons _ r=>by rw[aD,aD,gf.length r]
theorem gf.append:∀{a b:List NT}{us ws:List V},gf H a us->gf H b ws->gf H (a++b) (us++ws)
 | _,_,_,_,.nil,q=>q
 | _,_,_,_,.cons a r,q=>.cons a (gf.append r q)
theorem gf.reverse:∀{a:List NT}{us:List V},gf H a us->gf H a.reverse us.reverse
 | _,_,.nil=>.nil
 | _,_,.cons a r=>by rw[aj,aj];exact(gf.reverse r).append (.cons a .nil)
theorem gf.take:∀{a:List NT}{us:List V}(n:Nat),gf H a us->gf H (a.take n) (us.take n)
 | _,_,0,_=>.nil
 | _,_,_+1,.nil=>.nil
 | _,_,n+1,.cons a r=>.cons a (gf.take n r)
theorem gf.drop:∀{a:List NT}{us:List V}(n:Nat),gf H a us->gf H (a.drop n) (us.drop n)
 | _,_,0,h=>h
 | _,_,_+1,.nil=>.nil
 | _,_,n+1,.cons _ r=>gf.drop n r
abbrev Gi:=Str->Option NT
def eQ(c:Int)(src:Str)(giv:Gi)(e:En)(i:Nat)(ks:List NT):NT:=match e.1 with
 | .num n=>.mk "number" (.int n) src e.2.1 ks
 | .name w=>(match e.2.2 w with
  | some x=>.mk "name" (.int x) src e.2.1 ks
  | none=>(match giv w with
   | some g=>g
   | none=>.mk "name" (.str w) src e.2.1 ks))
 | .sum _ _=>.mk "sum" .non src e.2.1 ks
 | .less _ _=>.mk "less" .non src e.2.1 ks
 | .cho _ _ _=>.mk "choose" .non src e.2.1 ks
 | .lt _ _ _=>.mk "let" (.int (c+i+1)) src e.2.1 ks
 | .st0 w=>.mk "stamp" (.str w) src e.2.1 ks
 | .st1 w _=>.mk "stamp" (.str w) src e.2.1 ks
 | .st2 w _ _=>.mk "stamp" (.str w) src e.2.1 ks
def nt(c:Int)(src:Str)(giv:Gi):T->List Int->Ow->Nat->NT
 | .num n,p,o,i=>eQ c src giv (.num n,p,o) i []
 | .name w,p,o,i=>eQ c src giv (.name w,p,o) i []
 | .sum a b,p,o,i=>eQ c src giv (.sum a b,p,o) i [nt c src giv a (p++[0]) o (i+1),nt c src giv b (p++[1]) o (i+1+a.size)]
 | .less a b,p,o,i=>eQ c src giv (.less a b,p,o) i [nt c src giv a (p++[0]) o (i+1),nt c src giv b (p++[1]) o (i+1+a.size)]
 | .cho a b d,p,o,i=>eQ c src giv (.cho a b d,p,o) i [nt c src giv a (p++[0]) o (i+1),nt c src giv b (p++[1]) o (i+1+a.size),nt c src giv d (p++[2]) o (i+1+a.size+b.size)]
 | .lt w a b,p,o,i=>eQ c src giv (.lt w a b,p,o) i [nt c src giv a (p++[0]) o (i+1),nt c src giv b (p++[1]) (Ow.put o w (c+((i+1:Nat):Int))) (i+1+a.size)]
 | .st0 w,p,o,i=>eQ c src giv (.st0 w,p,o) i []
 | .st1 w a,p,o,i=>eQ c src giv (.st1 w a,p,o) i [nt c src giv a (p++[0]) o (i+1)]
 | .st2 w a b,p,o,i=>eQ c src giv (.st2 w a b,p,o) i [nt c src giv a (p++[0]) o (i+1),nt c src giv b (p++[1]) o (i+1+a.size)]
def iD(c:Int)(src:Str)(giv:Gi):List En->Nat->List NT
 | [],_=>[]
 | e::r,i=>eQ c src giv e i ((iD c src giv r (i+1)).take e.1.kids.length)::(iD c src giv r (i+1)).drop e.1.kids.length
theorem fq(c:Int)(src:Str)(giv:Gi):∀(t:T)(p:List Int)(o:Ow)(i:Nat)(r:List En),iD c src giv (pre c t p o i++r) i=nt c src giv t p o i::iD c src giv r (i+t.size)
 | .num n,p,o,i,r=>by simp only[pre,aN,ak,iD,nt,T.kids,am,aw,af,T.size]
 | .name n,p,o,i,r=>by simp only[pre,aN,ak,iD,nt,T.kids,am,aw,af,T.size]
 | .st0 n,p,o,i,r=>by simp only[pre,aN,ak,iD,nt,T.kids,am,aw,af,T.size]
 | .sum a b,p,o,i,r=>by simp only[pre,aN,aW,iD,fq c src giv a,fq c src giv b,nt,T.kids,aD,am,a8,aw,a9,af,T.size];rw[show i+1+a.size+b.size=i+(a.size+b.size+1) by lia]
 | .less a b,p,o,i,r=>by simp only[pre,aN,aW,iD,fq c src giv a,fq c src giv b,nt,T.kids,aD,am,a8,aw,a9,af,T.size];rw[show i+1+a.size+b.size=i+(a.size+b.size+1) by lia]
 | .cho a b d,p,o,i,r=>by simp only[pre,aN,aW,iD,fq c src giv a,fq c src giv b,fq c src giv d,nt,T.kids,aD,am,a8,aw,a9,af,T.size];rw[show i+1+a.size+b.size+d.size=i+(a.size+b.size+d.size+1) by lia]
 | .lt w a b,p,o,i,r=>by simp only[pre,aN,aW,iD,fq c src giv a,fq c src giv b,nt,T.kids,aD,am,a8,aw,a9,af,T.size];rw[show i+1+a.size+b.size=i+(a.size+b.size+1) by lia]
 | .st1 w a,p,o,i,r=>by simp only[pre,aN,aW,iD,fq c src giv a,nt,T.kids,aD,am,a8,aw,a9,af,T.size];rw[show i+1+a.size=i+(a.size+1) by lia]
 | .st2 w a b,p,o,i,r=>by simp only[pre,aN,aW,iD,fq c src giv a,fq c src giv b,nt,T.kids,aD,am,a8,aw,a9,af,T.size];rw[show i+1+a.size+b.size=i+(a.size+b.size+1) by lia]
theorem AK(c:Int)(src:Str)(giv:Gi)(t:T):iD c src giv (pre c t [] Ow.none 0) 0=[nt c src giv t [] Ow.none 0]:=by have:=fq c src giv t [] Ow.none 0 [];rw[aX]at this;rw[this];rfl
def tV(H:Hp)(kvs:List (fB×V))(giv:Gi):Prop:=∀w:Str,(giv w=none/\fP kvs (.inr w:fB)=none)∨∃g u,giv w=some g/\fP kvs (.inr w:fB)=some u/\lv H g u
theorem tV.same(s:dq H H')(h:tV H kvs giv):tV H' kvs giv:=λw=>
 (h w).imp id λ⟨g,u,e1,e2,e3⟩=>⟨g,u,e1,e2,e3.same s⟩
def mV:Sp:=λvs H Q _=>∃(t:T)(v:V)(src:Str)(gd:Addr)(gkvs:List (fB×V))(giv:Gi)(c:Int),vs=[v,.str src,.ref gd,.int c]/\fc H t v/\t.size<=900/\H gd=some (.dK gkvs)/\tV H gkvs giv/\
 ∀(r:Addr)(u:V)(H':Hp),dq H H'->lv H' (nt c src giv t [] Ow.none 0) u->H' r=some (.tup [u,.int (c+(t.size:Int))])->Q (.ref r) H'
def sF(pl:Addr)(H:Hp):Hp:=λb=>if b=pl then none else H b
theorem lC(s:dq H H'):dq (sF pl H) (sF pl H'):=λb o h=>by
 unfold sF at h⊢;by_cases e:b=pl
 ·rw[if_pos e]at h;cases h
 ·rw[if_neg e]at h⊢;exact s b o h
theorem Bs:dq (sF pl H) (upd H pl o):=λb u h=>by
 unfold sF at h;by_cases e:b=pl
 ·rw[if_pos e]at h;cases h
 ·rw[if_neg e]at h;rw[dY e];exact h
theorem nJ(h:H b=some o)(n:b≠pl):sF pl H b=some o:=by unfold sF;rw[if_neg n];exact h
theorem xy(s:dq H H')(n:H pl=none):dq H (sF pl H'):=λb o h=>nJ (s b o h) (dX h n)
end SW
namespace S3
open PySem L2 SW
variable {K:aA}{vs:List V}{H H₀:Hp}{Q:VK}{E:XK}
theorem pj
  (O:Dn H e (.ref p) pp od kvs) (hp:H p=some (.tup (hd e.1++ks'))) (hkl:H kl=some (.lst kus)) (nkl:kl≠pl) (nks:gf (sF pl H) ks kus) (hpl:H pl=some (.lst pus)) (few:pus.length<=5000)
  (hx:eQ c src giv e i ks=.mk (kind e.1) x src e.2.1 ks)
  (hD:∀(u:V)(H1 H':Hp),dq H H1->H'=upd H1 pl (.lst (pus++[u]))->lv (sF pl H1) (eQ c src giv e i ks) u->D.nx [v0,some (.str src),KM,some (.int c),some (.ref ol),some (.ref tl),some (.ref p),some (.ref pp),some (.ref od),j9,j10,j11,some (.ref pl),j13,some (.ref kl),some x] H'):
  xM K D [v0,some (.str src),KM,some (.int c),some (.ref ol),some (.ref tl),some (.ref p),some (.ref pp),some (.ref od),j9,j10,j11,some (.ref pl),j13,some (.ref kl),some x] H:=by
 refine⟨.inl ⟨rfl,_,eL.of hpl⟩,eD.of hp,lf e.1 ks',fL,eY λsp H1 hsp s1 g1=>?_⟩;refine⟨fL,eY λq H2 hq s2 g2=>?_⟩;have s12:=s1.trans s2;have hpl2:=s12 _ _ hpl;refine⟨hpl2,by rw[sizeLine_eq];lia,hD (.ref q) H2 _ s12 rfl ?_⟩;rw[hx];have nt:∀{b:Addr}{xs:List V},H2 b=some (.tup xs)->b≠pl:=λh z=>by subst z;rw[hpl2]at h;cases h
 exact .mk (nJ g2 (nt g2)) (nJ (s2 _ _ g1) (nt (s2 _ _ g1))) (nJ (s12 _ _ O.path) (nt (s12 _ _ O.path))) (nJ (s12 _ _ hkl) nkl) (nks.same (lC s12))
theorem zX
  (O:Dn H (t,ou,o) (.ref p) pp od kvs) (hp:H p=some (.tup (hd t++ks'))) (hkl:H kl=some (.lst kus)) (nkl:kl≠pl) (nks:gf (sF pl H) ks kus) (hpl:H pl=some (.lst pus)) (few:pus.length<=5000)
  (hgd:H gd=some (.dK gkvs)) (hgiv:tV (sF pl H) gkvs giv)
  (hD:∀(u:V)(H1 H':Hp)(j11 j15:Option V),dq H H1->H'=upd H1 pl (.lst (pus++[u]))->lv (sF pl H1) (eQ c src giv (t,ou,o) i ks) u->D.nx [v0,some (.str src),some (.ref gd),some (.int c),some (.ref ol),some (.ref tl),some (.ref p),some (.ref pp),some (.ref od),j9,some (.int i),j11,some (.ref pl),j13,some (.ref kl),j15] H'):
  (dZ (eB (tC .non) (dR 15)) (dZ (Ap K) (dZ (Ao K) (dZ (rT K) (rS K))))) D [v0,some (.str src),some (.ref gd),some (.int c),some (.ref ol),some (.ref tl),some (.ref p),some (.ref pp),some (.ref od),j9,some (.int i),j11,some (.ref pl),j13,some (.ref kl),j15] H:=by
 have key:(∃w,t=.name w)∨∃w r x,hd t++ks'=.str w::r/\decide (V.str w=V.str "name")=false/\(De (.str w) [.str "number",.str "name",.str "stamp"]=true/\decide (V.str w=V.str "let")=false/\r[0]?=some x∨De (.str w) [.str "number",.str "name",.str "stamp"]=false/\(decide (V.str w=V.str "let")=true/\x=.int (c+i+1)∨decide (V.str w=V.str "let")=false/\x=.non))/\eQ c src giv (t,ou,o) i ks=.mk (kind t) x src ou ks:=by
  cases t with
  | name w=>exact .inl ⟨w,rfl⟩
  | sum a b=>exact .inr ⟨_,_,_,rfl,by decide,.inr ⟨by decide,.inr ⟨by decide,rfl⟩⟩,rfl⟩
  | less a b=>exact .inr ⟨_,_,_,rfl,by decide,.inr ⟨by decide,.inr ⟨by decide,rfl⟩⟩,rfl⟩
  | cho a b d=>exact .inr ⟨_,_,_,rfl,by decide,.inr ⟨by decide,.inr ⟨by decide,rfl⟩⟩,rfl⟩
  | lt w a b=>exact .inr ⟨_,_,_,rfl,by decide,.inr ⟨by decide,.inl ⟨by decide,rfl⟩⟩,rfl⟩
  | _=>exact .inr ⟨_,_,_,rfl,by decide,.inl ⟨by decide,by decide,rfl⟩,rfl⟩
 rcases key with⟨w,rfl⟩|⟨w,r,x,ew,en,ht,hx⟩
 ·refine⟨eD.of hp,gF,fL,eY λl H1 hl s1 g1=>⟨.inl (eL.of g1),rfl,rfl,_,rfl,fI (by decide) ?_⟩⟩;have hp1:=s1 _ _ hp;refine⟨eD.of hp1,iM,eD.of hp1,gF,rfl,_,rfl,eU (by decide) ⟨eD.of hp1,gF,rfl,_,rfl,fI (by decide) ?_⟩⟩;have O1:=O.mono (dW s1) (im s1);have dg:=iR.k (k:=.inr w) O1.own;have how:fP kvs (.inr w:fB)=(o w).map V.int:=O1.ow w;rw[how]at dg;refine⟨eD.of hp1,iM,dg,_,rfl,?_⟩;cases ho:o w with
  | some x=>rw[ho]at dg;refine fI rfl ?_;refine⟨eD.of hp1,iM,dg,?_⟩;refine⟨eD.of hp1,gF,rfl,_,rfl,fI (by decide) ?_⟩;refine⟨eD.of hp1,iM,dg,_,rfl,eU rfl (jE ?_)⟩;exact pj (e:=(.name w,ou,o)) O1 hp1 (s1 _ _ hkl) nkl (nks.same (lC s1)) (s1 _ _ hpl) few (by simp[eQ,ho,kind]) λu H2 H3 s2 e3 n3=>hD u H2 H3 _ _ (s1.trans s2) e3 n3
  | none=>
   rw[ho]at dg;refine eU rfl ?_;refine⟨eD.of hp1,gF,rfl,_,rfl,fI (by decide) ?_⟩;refine⟨eD.of hp1,iM,dg,_,rfl,fI rfl ?_⟩;have gg:=iR.k (k:=.inr w) (s1 _ _ hgd);rcases hgiv w with⟨e1,e2⟩|⟨g,u,e1,e2,e3⟩
   ·rw[e2]at gg;refine⟨eD.of hp1,iM,gg,_,rfl,eU rfl ?_⟩;exact pj (e:=(.name w,ou,o)) O1 hp1 (s1 _ _ hkl) nkl (nks.same (lC s1)) (s1 _ _ hpl) few (by simp[eQ,ho,e1,kind]) λu H2 H3 s2 e3 n3=>hD u H2 H3 _ _ (s1.trans s2) e3 n3
   ·rw[e2]at gg;refine⟨eD.of hp1,iM,gg,_,rfl,fI rfl ?_⟩;refine⟨.inl ⟨rfl,_,eL.of (s1 _ _ hpl)⟩,eD.of hp1,iM,gg,s1 _ _ hpl,by rw[sizeLine_eq];lia,?_⟩;refine hD u H1 _ _ _ s1 rfl ?_;have:eQ c src giv (.name w,ou,o) i ks=g:=by simp[eQ,ho,e1]
    rw[this];exact e3.same (lC s1)
 ·have hp':H p=some (.tup (.str w::r)):=by rw[<-ew];exact hp
  refine⟨eD.of hp',gF,fL,eY λl H1 hl s1 g1=>⟨.inl (eL.of g1),rfl,rfl,_,rfl,?_⟩⟩;have hp1:=s1 _ _ hp';have fk:(dZ (rT K) (rS K)) D [v0,some (.str src),some (.ref gd),some (.int c),some (.ref ol),some (.ref tl),some (.ref p),some (.ref pp),some (.ref od),j9,some (.int i),j11,some (.ref pl),j13,some (.ref kl),some x] H1:=⟨eD.of hp1,gF,rfl,_,rfl,eU en (jE ⟨eD.of hp1,gF,rfl,_,rfl,eU en (jE (pj (e:=(t,ou,o)) (O.mono (dW s1) (im s1)) (s1 _ _ hp) (s1 _ _ hkl) nkl (nks.same (lC s1)) (s1 _ _ hpl) few hx λu H2 H3 s2 e3 n3=>hD u H2 H3 _ _ (s1.trans s2) e3 n3))⟩)⟩;rcases ht with⟨a,b,hr⟩|⟨a,⟨b,rfl⟩|⟨b,rfl⟩⟩
  ·exact fI a ⟨eD.of hp1,fK (j:=1) hr,eD.of hp1,gF,rfl,_,rfl,eU b fk⟩
  ·exact eU a ⟨eD.of hp1,gF,rfl,_,rfl,fI b fk⟩
  ·exact eU a ⟨eD.of hp1,gF,rfl,_,rfl,eU b fk⟩
end S3
namespace SW
open PySem L2
theorem EL.get:∀{es:List En}{us:List V}{i:Nat}{e:En},EL H es us->es[i]?=some e->∃u,us[i]?=some u/\Do H e u
 | _,_,0,_,.cons a r,h=>by cases h;exact⟨_,rfl,a⟩
 | _,_,i+1,_,.cons a r,h=>EL.get (i:=i) r h
theorem AI{us:List V}{n:Nat}(h:n<=us.length):iJ us (some ((us.length:Int)-(n:Int))) none=us.drop (us.length-n):=by
 unfold iJ;have e:HT.kG us.length 0 (some ((us.length:Int)-(n:Int)))=us.length-n:=by rw[show(us.length:Int)-(n:Int)=((us.length-n:Nat):Int) by lia,HT.M9];lia
 rw[e,HT.LO,bQ (by rw[ah];lia)]
theorem Fp{us:List V}{n:Nat}(h:n<=us.length):iJ us none (some ((us.length:Int)-(n:Int)))=us.take (us.length-n):=by
 unfold iJ;have e:HT.kG us.length us.length (some ((us.length:Int)-(n:Int)))=us.length-n:=by rw[show(us.length:Int)-(n:Int)=((us.length-n:Nat):Int) by lia,HT.M9];lia
 rw[e,HT.LO];simp
theorem rE(c:Int):∀(n:Nat)(st:List En)(i:Nat),∃st',(hU c st i).drop n=hU c st' (i+n)
 | 0,st,i=>⟨st,rfl⟩
 | n+1,[],i=>⟨[],by simp[hU]⟩
 | n+1,e::st,i=>by obtain⟨st',h⟩:=rE c n (gY e (c+((i+1:Nat):Int))++st) (i+1);refine⟨st',?_⟩;rw[<-oC,a9,h,show i+1+n=i+(n+1) by lia]
theorem qP(c:Int)(src:Str)(giv:Gi):∀(st:List En)(i:Nat),(iD c src giv (hU c st i) i).length=st.length
 | [],i=>rfl
 | e::st,i=>by rw[hU,fq,aD,aD,qP c src giv st]
theorem vA(c:Int)(src:Str)(giv:Gi):∀(es:List En)(i:Nat),(iD c src giv es i).length<=es.length
 | [],_=>aC _
 | e::r,i=>by have:=vA c src giv r (i+1);rw[iD,aD,aD,ah];lia
theorem wu(h:(pre c t [] Ow.none 0).drop j=e::r):e.1.kids.length<=(iD c src giv r (j+1)).length:=by
 obtain⟨st',hs⟩:=rE c j [(t,[],Ow.none)] 0;have e0:hU c [(t,[],Ow.none)] 0=pre c t [] Ow.none 0:=by simp[hU]
 rw[e0,h,bi]at hs;cases st' with
 | nil=>cases hs
 | cons e' st=>rw[<-oC]at hs;obtain⟨h1,h2⟩:=List.cons.inj hs;subst h1;rw[h2,qP,aE,qy];lia
end SW
namespace S3
open PySem L2 SW
variable {K:aA}{vs:List V}{H H₀:Hp}{Q:VK}{E:XK}
def Qu(H:Hp)(v:V)(src:Str)(gd:Addr)(c:Int)(ol tl:Addr)(ous:List V)(t:T)(giv:Gi)(i m:Nat)(σ:St)(H':Hp):Prop:=m=ous.length-i/\i<=ous.length/\dq H H'/\H' ol=some (.lst ous)/\EL H' (pre c t [] Ow.none 0) ous/\∃pl pus j6 j7 j8 j9 j10 j11 j13 j14 j15,σ=[some v,some (.str src),some (.ref gd),some (.int c),some (.ref ol),some (.ref tl),j6,j7,j8,j9,j10,j11,some (.ref pl),j13,j14,j15]/\H' pl=some (.lst pus)/\gf H' (iD c src giv ((pre c t [] Ow.none 0).drop (ous.length-i)) (ous.length-i)).reverse pus
theorem Py(h:mV vs H Q E):Nz K (fk Q) (start ["_law_piece","_law_source","_law_given","_law_count","_law_order","_law_todo","_law_part","_law_path","_law_own","_law_inner","_law_k","_law_near","_law_pile","_law_many","_law_kids","_law_extra"] vs) H:=by
 obtain⟨t,v,src,gd,gkvs,giv,c,rfl,hd0,hs,hgd,hgiv,k⟩:=h;refine⟨fL,eY λol H1 hol s1 g1=>?_⟩;refine⟨fL,eY λpp H2 hpp s2 g2=>?_⟩;refine λod hod=>?_;have s3:=dS (o:=.dK []) hod;have g3:(upd H2 od (.dK [])) od=some (.dK []):=dP;generalize upd H2 od (.dK [])=H3 at s3 g3⊢;refine⟨fL,eY λq H4 hq s4 g4=>?_⟩;refine⟨fL,λtl htl=>?_⟩;have s5:=dS (o:=.lst [.ref q]) htl;have g5:(upd H4 tl (.lst [.ref q])) tl=some (.lst [.ref q]):=dP;have ne5:ol≠tl:=λz=>by subst z;rw[(s2.trans (s3.trans s4)) _ _ g1]at htl;cases htl
 generalize upd H4 tl (.lst [.ref q])=H5 at s5 g5⊢;have u4:=s4.trans s5;have u3:=s3.trans u4;have u2:=s2.trans u3;have u1:=s1.trans u2;have e0:Do H5 (t,[],Ow.none) (.ref q):=⟨q,pp,od,v,[],rfl,s5 _ _ g4,hd0.mono (dW u1),u3 _ _ g2,u4 _ _ g3,λw=>rfl,by simp;lia,by simp;lia⟩;have B:qY H H5 ol tl [] [(t,[],Ow.none)] [] [.ref q]:=⟨u1,hol,(s1.trans (s2.trans (s3.trans s4))).free htl,ne5,u2 _ _ g1,g5,.nil,.snoc (us:=[]) .nil e0⟩;refine vj (es:=pre c t [] Ow.none 0) B (by simp[hU]) (by simp[tX];lia) λous H6 j6 j7 j8 j9 j10 j11 s6 h6 el6=>?_;have hplen:=iB c t [] Ow.none 0;have holen:=el6.length;refine⟨fL,eY λpl H7 hpl s7 g7=>?_⟩;have b7:=s6.trans s7;refine⟨.inl (eL.of (s7 _ _ h6)),(ous.length:Int)-1,-1,rfl,⟨by lia,by lia,by lia,by lia⟩,?_⟩;have en:((ous.length:Int)-1 - -1).toNat=ous.length:=by lia
 rw[en];refine⟨Qu H v src gd c ol tl ous t giv,
  ⟨_,rfl,aS _,b7,s7 _ _ h6,el6.mono (dW s7) (im s7),pl,[],_,_,_,_,_,_,_,_,_,rfl,g7,by rw[bh,cB (by lia)];exact .nil⟩,?_⟩
 clear B e0 g5 s5 g4 s4 g3 s3 g2 s2 g1 s1 u4 u3 u2 u1 s7 g7 hpl hq hod hpp h6 el6 s6 b7 j6 j7 j8 j9 j10 j11 pl;rintro i m σ H8 ⟨rfl,hi,s8,h8,el8,pl,pus,j6,j7,j8,j9,j10,j11,j13,j14,j15,rfl,hpl,np⟩;by_cases hn:i=ous.length
 ·refine .inl ⟨by show ous.length<=i;lia,?_⟩;rw[hn,bB,af,AK]at np;cases np with
  | @cons n9 u9 ns9 us9 a r=>
  cases r;refine⟨eL.of hpl,gF,.inl (eL.of h8),fL,λr hr=>?_⟩;have sr:=dS (o:=.tup [u9,.int (c+(ous.length:Int))]) hr;refine k r _ _ (s8.trans sr) (a.same sr) ?_;rw[dP,holen,hplen]
 ·have hlt:i<ous.length:=by lia
  refine .inr ⟨show i<ous.length from hlt,_,λσ2 H2 h=>⟨ous.length-(i+1),by lia,h⟩,?_⟩;rintro v3 H9 ⟨rfl,rfl⟩;obtain⟨j,hj⟩:∃j:Nat,j=ous.length-1-i:=⟨_,rfl⟩;rw[show(ous.length:Int)-1-(i:Int)=(j:Int) by lia];obtain⟨e,he⟩:∃e,(pre c t [] Ow.none 0)[j]?=some e:=⟨(pre c t [] Ow.none 0)[j]'(by lia),by rw[aU]⟩;obtain⟨u,hu,q,pp,od,pv,kvs,rfl,hq,den,hpp,hod,ow,f1,f2⟩:=el8.get he;obtain⟨p,ks',rfl,hp,dks⟩:=den.open;have hdrop:(pre c t [] Ow.none 0).drop (ous.length-(i+1))=e::(pre c t [] Ow.none 0).drop (ous.length-i):=by rw[show ous.length-(i+1)=j by lia,show ous.length-i=j+1 by lia];obtain⟨hjk,ee⟩:=aK.mp he;rw[bR hjk,ee]
  have hidx:ous.length-i=(ous.length-(i+1))+1:=by lia
  have hji:ous.length-(i+1)=j:=by lia
  rw[hidx,hji]at np hdrop;have hkn:=wu (src:=src) (giv:=giv) hdrop;generalize hS:iD c src giv ((pre c t [] Ow.none 0).drop (j+1)) (j+1)=S at np hkn;have hpl9:=np.length;rw[bG]at hpl9;have hSl:S.length<=5000:=by have:=vA c src giv ((pre c t [] Ow.none 0).drop (j+1)) (j+1);rw[hS,ah]at this;lia
  refine⟨eL.of h8,fK hu,eD.of hq,rfl,rfl,?_⟩;refine⟨e.1,.ref p,rfl,den,λil us Ha sa na ha da=>⟨.inl (eL.of ha),?_⟩⟩;have hml:=da.length;have hmn:us.length<=pus.length:=by lia
  have hpa:=sa _ _ hpl;refine⟨.inl (eL.of hpa),eL.of hpa,λsl hsl=>?_⟩;rw[AI hmn];have sb:=dS (o:=.lst (pus.drop (pus.length-us.length))) hsl;have gb:(upd Ha sl (.lst (pus.drop (pus.length-us.length)))) sl=some (.lst (pus.drop (pus.length-us.length))):=dP;generalize upd Ha sl (.lst (pus.drop (pus.length-us.length)))=Hb at sb gb⊢;refine⟨eL.of gb,eY λkl Hc hkl sc gc=>?_⟩;have sac:=sa.trans (sb.trans sc);have hpc:=sac _ _ hpl;refine⟨.inl (eL.of hpc),eL.of hpc,λpn hpn=>?_⟩;rw[Fp hmn];have sd:=dS (o:=.lst (pus.take (pus.length-us.length))) hpn;have gd':(upd Hc pn (.lst (pus.take (pus.length-us.length)))) pn=some (.lst (pus.take (pus.length-us.length))):=dP;generalize upd Hc pn (.lst (pus.take (pus.length-us.length)))=Hd at sd gd'⊢;have sad:=sac.trans sd;have r1:dq Hc (sF pn Hd):=xy sd hpn;have nS:gf H9 S pus.reverse:=by have:=np.reverse;rw[cb]at this;exact this
  have nk:gf (sF pn Hd) (S.take us.length) (pus.drop (pus.length-us.length)).reverse:=by have h1:=(nS.take us.length).same (sac.trans r1);rw[List.take_reverse]at h1;exact h1
  have nkl:kl≠pn:=dX gc hpn;refine zX (t:=e.1) (ou:=e.2.1) (o:=e.2.2) (i:=j) (ks:=S.take us.length) (giv:=giv) (gkvs:=gkvs) ⟨den.mono (dW sad),sad _ _ hpp,sad _ _ hod,ow,f1,f2⟩ (sad _ _ hp) (sd _ _ gc) nkl nk gd' (by rw[ag];lia) ((s8.trans sad) _ _ hgd) (hgiv.same (s8.trans (sac.trans r1))) λw Hx Hy jx jy sx ey nx=>?_;have r2:dq Hc (sF pn Hx):=xy (sd.trans sx) hpn;have r3:dq Hc Hy:=by rw[ey];exact r2.trans Bs
  have s9y:dq H9 Hy:=sac.trans r3;refine⟨rfl,by lia,s8.trans s9y,s9y _ _ h8,el8.mono (dW s9y) (im s9y),pn,pus.take (pus.length-us.length)++[w],_,_,_,_,_,_,_,_,_,rfl,by rw[ey,dP],?_⟩;rw[hji,hdrop];show gf Hy (iD c src giv (e::_) j).reverse _;rw[iD,hS,<-hml,aj];refine gf.append ?_ (.cons (nx.same (by rw[ey];exact Bs)) .nil);have h2:=(np.take (pus.length-us.length)).same s9y;have e2:S.reverse.take (pus.length-us.length)=(S.drop us.length).reverse:=by rw[List.take_reverse,hpl9,show S.length-(S.length-us.length)=us.length by lia]
  rw[e2]at h2;exact h2
end S3
namespace S8
open PySem L2 SW S9
abbrev Fo:=Str->Option Int
abbrev Ba:=Int->Option Str
def lI(f:Fo)(x:Str)(i:Int):Fo:=λy=>if y=x then some i else f y
def mK(b:Ba)(i:Int)(x:Str):Ba:=λj=>if j=i then some x else b j
theorem jp(h:y≠x):lI f x i y=f y:=if_neg h
theorem sq:lI f x i x=some i:=if_pos rfl
theorem pE(h:j≠i):mK b i x j=b j:=if_neg h
theorem yh:mK b i x i=some x:=if_pos rfl
theorem rC(h:x≠y):lI (lI f x i) y j=lI (lI f y j) x i:=by
 funext z;unfold lI;by_cases h1:z=y
 ·subst h1;rw[if_pos rfl,if_neg h.symm,if_pos rfl]
 ·rw[if_neg h1,if_neg h1]
theorem rF(h:i≠j):mK (mK b i x) j y=mK (mK b j y) i x:=by
 funext z;unfold mK;by_cases h1:z=j
 ·subst h1;rw[if_pos rfl,if_neg h.symm,if_pos rfl]
 ·rw[if_neg h1,if_neg h1]
abbrev ip(p:List Nat):List Int:=p.map λi:Nat=>(i:Int)
inductive Lo(c:Int):NT->Prop where
 | mk{k:Str}{x:V}{src:Str}{path:List Int}{ks:List NT}:(k="name"∨k="let"->∀i,x=.int i->i<=c)->(∀n∈ks,Lo c n)->Lo c (.mk k x src path ks)
theorem Lo.mono(h:c<=d)(l:Lo c n):Lo d n:=by
 induction l with
 | mk a _ ih=>exact .mk (λz i e=>Int.le_trans (a z i e) h) ih
theorem Lo.inv(h:Lo c (.mk k x src path ks)):(k="name"∨k="let"->∀i,x=.int i->i<=c)/\∀n∈ks,Lo c n:=by cases h with|mk a b=>exact⟨a,b⟩
inductive Gs(ws:List Str):Fo->Ba->T->NT->Prop where
 | num{f:Fo}{b:Ba}{m:Int}{src:Str}{path:List Int}:Gs ws f b (.num m) (.mk "number" (.int m) src path [])
 | bound{f:Fo}{b:Ba}{w:Str}{i:Int}{src:Str}{path:List Int}:w∈ws->f w=some i->b i=some w->Gs ws f b (.name w) (.mk "name" (.int i) src path [])
 | free{f:Fo}{b:Ba}{w:Str}{src:Str}{path:List Int}:w∈ws->f w=none->Gs ws f b (.name w) (.mk "name" (.str w) src path [])
 | sum{f:Fo}{b:Ba}{t1 t2:T}{n1 n2:NT}{src:Str}{path:List Int}:Gs ws f b t1 n1->Gs ws f b t2 n2->Gs ws f b (.sum t1 t2) (.mk "sum" .non src path [n1,n2])
 | less{f:Fo}{b:Ba}{t1 t2:T}{n1 n2:NT}{src:Str}{path:List Int}:Gs ws f b t1 n1->Gs ws f b t2 n2->Gs ws f b (.less t1 t2) (.mk "less" .non src path [n1,n2])
 | cho{f:Fo}{b:Ba}{t1 t2 t3:T}{n1 n2 n3:NT}{src:Str}{path:List Int}:Gs ws f b t1 n1->Gs ws f b t2 n2->Gs ws f b t3 n3->Gs ws f b (.cho t1 t2 t3) (.mk "choose" .non src path [n1,n2,n3])
 | lt{f:Fo}{b:Ba}{x:Str}{i:Int}{t1 t2:T}{n1 n2:NT}{src:Str}{path:List Int}:x∈ws->Gs ws f b t1 n1->Gs ws (lI f x i) (mK b i x) t2 n2->Gs ws f b (.lt x t1 t2) (.mk "let" (.int i) src path [n1,n2])
theorem J2{ws:List Str}{x w:Str}(hx:x∉ws)(a:w∈ws):w≠x:=λz=>hx (z▸a)
theorem Gs.mono(h:∀x∈ws,x∈ws')(g:Gs ws f b t n):Gs ws' f b t n:=by
 induction g with
 | num=>exact .num
 | bound a e1 e2=>exact .bound (h _ a) e1 e2
 | free a e=>exact .free (h _ a) e
 | sum _ _ i1 i2=>exact .sum i1 i2
 | less _ _ i1 i2=>exact .less i1 i2
 | cho _ _ _ i1 i2 i3=>exact .cho i1 i2 i3
 | lt a _ _ i1 i2=>exact .lt (h _ a) i1 i2
theorem Gs.more{ws:List Str}{f:Fo}{b:Ba}{t:T}{n:NT}(g:Gs ws f b t n){x:Str}{i:Int}(hx:x∉ws){c:Int}(l:Lo c n)(hi:c<i):Gs ws (lI f x i) (mK b i x) t n:=by
 induction g with
 | num=>exact .num
 | @bound f b w j src path a e1 e2=>have hj:j<=c:=l.inv.1 (.inl rfl) j rfl;exact .bound a (by rw[jp (J2 hx a)];exact e1) (by rw[pE (by lia)];exact e2)
 | free a e=>exact .free a (by rw[jp (J2 hx a)];exact e)
 | sum _ _ i1 i2=>exact .sum (i1 (l.inv.2 _ (by simp))) (i2 (l.inv.2 _ (by simp)))
 | less _ _ i1 i2=>exact .less (i1 (l.inv.2 _ (by simp))) (i2 (l.inv.2 _ (by simp)))
 | cho _ _ _ i1 i2 i3=>exact .cho (i1 (l.inv.2 _ (by simp))) (i2 (l.inv.2 _ (by simp))) (i3 (l.inv.2 _ (by simp)))
 | @lt f b y j t1 t2 n1 n2 src path a _ _ i1 i2=>have hj:j<=c:=l.inv.1 (.inr rfl) j rfl;have hxy:x≠y:=(J2 hx a).symm;refine .lt a (i1 (l.inv.2 _ (by simp))) ?_;rw[rC hxy,rF (by lia)];exact i2 (l.inv.2 _ (by simp))
inductive Kv:NT->Prop where
 | mk{k:Str}{x:V}{src:Str}{path:List Int}{ks:List NT}:k≠"stamp"->(∀n∈ks,Kv n)->Kv (.mk k x src path ks)
theorem Gs.ns(g:Gs ws f b t n):Kv n:=by
 induction g with
 | num=>exact .mk (by decide) (by simp)
 | bound=>exact .mk (by decide) (by simp)
 | free=>exact .mk (by decide) (by simp)
 | sum _ _ i1 i2=>exact .mk (by decide) (by simp[i1,i2])
 | less _ _ i1 i2=>exact .mk (by decide) (by simp[i1,i2])
 | cho _ _ _ i1 i2 i3=>exact .mk (by decide) (by simp[i1,i2,i3])
 | lt _ _ _ i1 i2=>exact .mk (by decide) (by simp[i1,i2])
mutual
def nG:NT->List (Str×List Int)
 | .mk _ _ src path ks=>(src,path)::zR ks
def zR:List NT->List (Str×List Int)
 | []=>[]
 | n::ns=>nG n++zR ns
end
abbrev cv(s:kh):Str×List Int:=(s.1,ip s.2)
mutual
def gO:NT->Nat
 | .mk _ _ _ _ ks=>1+fW ks
def fW:List NT->Nat
 | []=>0
 | n::ns=>gO n+fW ns
end
inductive Rp(W:List (T×List kh)):List Str->Fo->Ba->eC->NT->Prop where
 | num{ws:List Str}{f:Fo}{b:Ba}{s:eC}{m:Int}:s.t=.num m->Rp W ws f b s (.mk "number" (.int m) s.src (ip s.path) [])
 | free{ws:List Str}{f:Fo}{b:Ba}{s:eC}{w:Str}:s.t=.name w->s.e.look w=none->w∈ws->f w=none->Rp W ws f b s (.mk "name" (.str w) s.src (ip s.path) [])
 | called{ws:List Str}{f:Fo}{b:Ba}{s:eC}{w x:Str}{i:Int}:s.t=.name w->s.e.look w=some (.called x)->x∈ws->f x=some i->b i=some x->Rp W ws f b s (.mk "name" (.int i) s.src (ip s.path) [])
 | ready{ws:List Str}{f:Fo}{b:Ba}{s:eC}{w:Str}{k z:Nat}{t:T}{ss:List kh}{n:NT}:s.t=.name w->s.e.look w=some (.ready k z)->W[k]?=some (t,ss)->Gs ws f b t n->nG n=ss.map cv->gO n=z->Rp W ws f b s n
 | handed{ws:List Str}{f:Fo}{b:Ba}{s:eC}{w:Str}{t:T}{src:Str}{path:List Nat}{e:S9.En}{n:NT}:s.t=.name w->s.e.look w=some (.handed t src path e)->Rp W ws f b ⟨t,src,path,e⟩ n->Rp W ws f b s n
 | sum{ws:List Str}{f:Fo}{b:Ba}{s:eC}{t1 t2:T}{n1 n2:NT}:s.t=.sum t1 t2->Rp W ws f b (s.kid 0 t1) n1->Rp W ws f b (s.kid 1 t2) n2->Rp W ws f b s (.mk "sum" .non s.src (ip s.path) [n1,n2])
 | less{ws:List Str}{f:Fo}{b:Ba}{s:eC}{t1 t2:T}{n1 n2:NT}:s.t=.less t1 t2->Rp W ws f b (s.kid 0 t1) n1->Rp W ws f b (s.kid 1 t2) n2->Rp W ws f b s (.mk "less" .non s.src (ip s.path) [n1,n2])
 | cho{ws:List Str}{f:Fo}{b:Ba}{s:eC}{t1 t2 t3:T}{n1 n2 n3:NT}:s.t=.cho t1 t2 t3->Rp W ws f b (s.kid 0 t1) n1->Rp W ws f b (s.kid 1 t2) n2->Rp W ws f b (s.kid 2 t3) n3->Rp W ws f b s (.mk "choose" .non s.src (ip s.path) [n1,n2,n3])
 | lt{ws:List Str}{f:Fo}{b:Ba}{s:eC}{w:Str}{t1 t2:T}{n1 n2:NT}{i:Int}:s.t=.lt w t1 t2->Rp W ws f b (s.kid 0 t1) n1->(∀x,x∉ws->Rp W (x::ws) (lI f x i) (mK b i x) ⟨t2,s.src,s.path++[1],s.e.put w (.called x)⟩ n2)->Rp W ws f b s (.mk "let" (.int i) s.src (ip s.path) [n1,n2])
 | st0{ws:List Str}{f:Fo}{b:Ba}{s:eC}{w:Str}:s.t=.st0 w->Rp W ws f b s (.mk "stamp" (.str w) s.src (ip s.path) [])
 | st1{ws:List Str}{f:Fo}{b:Ba}{s:eC}{w:Str}{t1:T}{n1:NT}:s.t=.st1 w t1->Rp W ws f b (s.kid 0 t1) n1->Rp W ws f b s (.mk "stamp" (.str w) s.src (ip s.path) [n1])
 | st2{ws:List Str}{f:Fo}{b:Ba}{s:eC}{w:Str}{t1 t2:T}{n1 n2:NT}:s.t=.st2 w t1 t2->Rp W ws f b (s.kid 0 t1) n1->Rp W ws f b (s.kid 1 t2) n2->Rp W ws f b s (.mk "stamp" (.str w) s.src (ip s.path) [n1,n2])
theorem Rp.mono(hW:∀(k:Nat)(p:T×List kh),W[k]?=some p->W'[k]?=some p)(h:Rp W ws f b s n):∀{ws':List Str},(∀x∈ws,x∈ws')->Rp W' ws' f b s n:=by
 induction h with
 | num e=>exact λ_=>.num e
 | free e l m g=>exact λhs=>.free e l (hs _ m) g
 | called e l m g1 g2=>exact λhs=>.called e l (hs _ m) g1 g2
 | ready e l hk g hs hz=>exact λz=>.ready e l (hW _ _ hk) (g.mono z) hs hz
 | handed e l _ ih=>exact λz=>.handed e l (ih z)
 | sum e _ _ i1 i2=>exact λz=>.sum e (i1 z) (i2 z)
 | less e _ _ i1 i2=>exact λz=>.less e (i1 z) (i2 z)
 | cho e _ _ _ i1 i2 i3=>exact λz=>.cho e (i1 z) (i2 z) (i3 z)
 | lt e _ _ i1 i2=>exact λz=>.lt e (i1 z) λx hx=>i2 x (λq=>hx (z x q)) (λy hy=>by
   rcases aB.mp hy with rfl|hy
   ·exact .head _
   ·exact .tail _ (z y hy))
 | st0 e=>exact λ_=>.st0 e
 | st1 e _ i1=>exact λz=>.st1 e (i1 z)
 | st2 e _ _ i1 i2=>exact λz=>.st2 e (i1 z) (i2 z)
theorem Rp.more{W:List (T×List kh)}{ws:List Str}{f:Fo}{b:Ba}{s:eC}{n:NT}(h:Rp W ws f b s n){x:Str}{i c:Int}(hi:c<i):x∉ws->Lo c n->Rp W (x::ws) (lI f x i) (mK b i x) s n:=by
 have sub:∀{ws:List Str}{x:Str},∀y∈ws,y∈x::ws:=λy hy=>.tail _ hy;induction h with
 | num e=>exact λ_ _=>.num e
 | free e l m g=>exact λhx _=>.free e l (.tail _ m) (by rw[jp (J2 hx m)];exact g)
 | @called ws f b s w y j e l m g1 g2=>intro hx lo;have hj:j<=c:=lo.inv.1 (.inl rfl) j rfl;exact .called e l (.tail _ m) (by rw[jp (J2 hx m)];exact g1) (by rw[pE (by lia)];exact g2)
 | ready e l hk g hs hz=>exact λhx lo=>.ready e l hk ((g.more hx lo hi).mono sub) hs hz
 | handed e l _ ih=>exact λhx lo=>.handed e l (ih hx lo)
 | sum e _ _ i1 i2=>exact λhx lo=>.sum e (i1 hx (lo.inv.2 _ (by simp))) (i2 hx (lo.inv.2 _ (by simp)))
 | less e _ _ i1 i2=>exact λhx lo=>.less e (i1 hx (lo.inv.2 _ (by simp))) (i2 hx (lo.inv.2 _ (by simp)))
 | cho e _ _ _ i1 i2 i3=>exact λhx lo=>.cho e (i1 hx (lo.inv.2 _ (by simp))) (i2 hx (lo.inv.2 _ (by simp))) (i3 hx (lo.inv.2 _ (by simp)))
 | @lt ws f b s w t1 t2 n1 n2 j e _ _ i1 i2=>
  intro hx lo;have hj:j<=c:=lo.inv.1 (.inr rfl) j rfl;refine .lt e (i1 hx (lo.inv.2 _ (by simp))) λy hy=>?_;have hyx:y≠x:=λz=>hy (by rw[z];exact .head _);have hyw:y∉ws:=λz=>hy (.tail _ z);have:=i2 y hyw (λz=>by rcases aB.mp z with z|z;exact hyx z.symm;exact hx z) (lo.inv.2 _ (by simp));rw[rC hyx,rF (by lia)]at this;refine this.mono (λ_ _ z=>z) (λz hz=>?_);simp only[aB]at hz⊢;rcases hz with rfl|rfl|hz
  ·exact .inr (.inl rfl)
  ·exact .inl rfl
  ·exact .inr (.inr hz)
 | st0 e=>exact λ_ _=>.st0 e
 | st1 e _ i1=>exact λhx lo=>.st1 e (i1 hx (lo.inv.2 _ (by simp)))
 | st2 e _ _ i1 i2=>exact λhx lo=>.st2 e (i1 hx (lo.inv.2 _ (by simp))) (i2 hx (lo.inv.2 _ (by simp)))
theorem Ks(p:List Nat):ip (p++[0])=ip p++[0]:=by simp[ip]
theorem MS(p:List Nat):ip (p++[1])=ip p++[1]:=by simp[ip]
theorem Qn(p:List Nat):ip (p++[2])=ip p++[2]:=by simp[ip]
def Dk(W:List (T×List kh))(ws:List Str)(f:Fo)(b:Ba):Mg->NT->Prop
 | .called _,_=>False
 | .ready k z,g=>∃t ss,W[k]?=some (t,ss)/\Gs ws f b t g/\nG g=ss.map cv/\gO g=z
 | .handed t src path e,g=>Rp W ws f b ⟨t,src,path,e⟩ g
theorem Dk.more(hi:c<i)(hx:x∉ws):∀{m:Mg}{g:NT},Dk W ws f b m g->Lo c g->Dk W (x::ws) (lI f x i) (mK b i x) m g
 | .called _,_,h,_=>h.elim
 | .ready k _,g,h,l=>by obtain⟨t,ss,h1,h2,h3⟩:=h;exact⟨t,ss,h1,(h2.more hx l hi).mono λy hy=>.tail _ hy,h3⟩
 | .handed t src path e,g,h,l=>Rp.more (s:=⟨t,src,path,e⟩) h hi hx l
theorem Dk.mono(hW:∀(k:Nat)(p:T×List kh),W[k]?=some p->W'[k]?=some p)(hs:∀x∈ws,x∈ws'):∀{m:Mg}{g:NT},Dk W ws f b m g->Dk W' ws' f b m g
 | .called _,_,h=>h
 | .ready k _,g,h=>by obtain⟨t,ss,h1,h2,h3⟩:=h;exact⟨t,ss,hW _ _ h1,h2.mono hs,h3⟩
 | .handed t src path e,g,h=>Rp.mono hW (s:=⟨t,src,path,e⟩) h hs
theorem E1(e:s.t=.name w)(l:s.e.look w=some m)(h:Dk W ws f b m g):Rp W ws f b s g:=by
 cases m with
 | called _=>exact h.elim
 | ready k z=>obtain⟨t,ss,h1,h2,h3⟩:=h;exact .ready e l h1 h2 h3.1 h3.2
 | handed t src path en=>exact .handed e l h
structure Gy(W:List (T×List kh))(OUT:Str->Prop)(giv:Gi)(c:Int)(ws:List Str)(f:Fo)(b:Ba)(e:S9.En)(o:Ow)(i:Nat):Prop where
 own:∀w id,o w=some id->∃x,e.look w=some (.called x)/\x∈ws/\f x=some id/\b id=some x/\id<=c+i
 giv_:∀w g,o w=none->giv w=some g->∃m,e.look w=some m/\Dk W ws f b m g/\Lo c g
 out:∀w,o w=none->giv w=none->OUT w->e.look w=none/\f w=none/\w∈ws
theorem Gy.le(h:Gy W OUT giv c ws f b e o i)(hij:i<=j):Gy W OUT giv c ws f b e o j:=
 ⟨λw id hw=>by
  obtain⟨x,h1,h2,h3,h4,h5⟩:=h.own w id hw;exact⟨x,h1,h2,h3,h4,by lia⟩,h.giv_,h.out⟩
theorem Gy.lt(h:Gy W OUT giv c ws f b e o i)(hx:x∉ws):Gy W OUT giv c (x::ws) (lI f x (c+((i+1:Nat):Int))) (mK b (c+((i+1:Nat):Int)) x) (e.put v (.called x)) (Ow.put o v (c+((i+1:Nat):Int))) (i+1):=by
 refine⟨λw id hw=>?_,λw g hw hg=>?_,λw hw hg ho=>?_⟩
 ·unfold Ow.put at hw;by_cases hv:w=v
  ·rw[if_pos hv]at hw;cases hw;subst hv;exact⟨x,by rw[En.look_put,if_pos rfl],.head _,sq,yh,Int.le_refl _⟩
  ·rw[if_neg hv]at hw;obtain⟨y,h1,h2,h3,h4,h5⟩:=h.own w id hw;exact⟨y,by rw[En.look_put,if_neg (λz=>hv z.symm)];exact h1,.tail _ h2,by rw[jp (J2 hx h2)];exact h3,by rw[pE (by lia)];exact h4,by lia⟩
 ·unfold Ow.put at hw;by_cases hv:w=v
  ·rw[if_pos hv]at hw;cases hw
  ·rw[if_neg hv]at hw;obtain⟨m,h1,h2,h3⟩:=h.giv_ w g hw hg;exact⟨m,by rw[En.look_put,if_neg (λz=>hv z.symm)];exact h1,h2.more (c:=c) (by lia) hx h3,h3⟩
 ·unfold Ow.put at hw;by_cases hv:w=v
  ·rw[if_pos hv]at hw;cases hw
  ·rw[if_neg hv]at hw;obtain⟨h1,h2,h3⟩:=h.out w hw hg ho;exact⟨by rw[En.look_put,if_neg (λz=>hv z.symm)];exact h1,by rw[jp (J2 hx h3)];exact h2,.tail _ h3⟩
theorem lu:∀(t:T){ws:List Str}{f:Fo}{b:Ba}{e:S9.En}{o:Ow}{i:Nat}{path:List Nat},Gy W OUT giv c ws f b e o i->(∀w,t.out w->o w=none->giv w=none->OUT w)->Rp W ws f b ⟨t,src,path,e⟩ (nt c src giv t (ip path) o i)
 | .num n,ws,f,b,e,o,i,path,C,h=>Rp.num (s:=⟨.num n,src,path,e⟩) rfl
 | .name w,ws,f,b,e,o,i,path,C,h=>by
  simp only[nt,eQ];cases ho:o w with
  | some id=>obtain⟨x,h1,h2,h3,h4,_⟩:=C.own w id ho;exact Rp.called (s:=⟨.name w,src,path,e⟩) rfl h1 h2 h3 h4
  | none=>
   cases hg:giv w with
   | some g=>obtain⟨m,h1,h2,_⟩:=C.giv_ w g ho hg;exact E1 (s:=⟨.name w,src,path,e⟩) rfl h1 h2
   | none=>obtain⟨h1,h2,h3⟩:=C.out w ho hg (h w rfl ho hg);exact Rp.free (s:=⟨.name w,src,path,e⟩) rfl h1 h3 h2
 | .sum p q,ws,f,b,e,o,i,path,C,h=>by simp only[nt,eQ];have h1:=lu (src:=src) p (path:=path++[0]) (C.le (bK i)) (λw z=>h w (.inl z));have h2:=lu (src:=src) q (path:=path++[1]) (C.le (show i<=i+1+p.size by lia)) (λw z=>h w (.inr z));rw[Ks]at h1;rw[MS]at h2;exact Rp.sum (s:=⟨.sum p q,src,path,e⟩) rfl h1 h2
 | .less p q,ws,f,b,e,o,i,path,C,h=>by simp only[nt,eQ];have h1:=lu (src:=src) p (path:=path++[0]) (C.le (bK i)) (λw z=>h w (.inl z));have h2:=lu (src:=src) q (path:=path++[1]) (C.le (show i<=i+1+p.size by lia)) (λw z=>h w (.inr z));rw[Ks]at h1;rw[MS]at h2;exact Rp.less (s:=⟨.less p q,src,path,e⟩) rfl h1 h2
 | .cho p q r,ws,f,b,e,o,i,path,C,h=>by simp only[nt,eQ];have h1:=lu (src:=src) p (path:=path++[0]) (C.le (bK i)) (λw z=>h w (.inl z));have h2:=lu (src:=src) q (path:=path++[1]) (C.le (show i<=i+1+p.size by lia)) (λw z=>h w (.inr (.inl z)));have h3:=lu (src:=src) r (path:=path++[2]) (C.le (show i<=i+1+p.size+q.size by lia)) (λw z=>h w (.inr (.inr z)));rw[Ks]at h1;rw[MS]at h2;rw[Qn]at h3;exact Rp.cho (s:=⟨.cho p q r,src,path,e⟩) rfl h1 h2 h3
 | .lt v p q,ws,f,b,e,o,i,path,C,h=>by
  simp only[nt,eQ];have h1:=lu (src:=src) p (path:=path++[0]) (C.le (bK i)) (λw z=>h w (.inl z));rw[Ks]at h1;rw[show c+(i:Int)+1=c+((i+1:Nat):Int) by lia];refine Rp.lt (s:=⟨.lt v p q,src,path,e⟩) rfl h1 λx hx=>?_;have h2:=lu (src:=src) q (path:=path++[1]) ((C.lt (v:=v) hx).le (show i+1<=i+1+p.size by lia)) (λw z hw hg=>by
   unfold Ow.put at hw;by_cases hv:w=v
   ·rw[if_pos hv]at hw;cases hw
   ·rw[if_neg hv]at hw;exact h w (.inr ⟨λz=>hv z.symm,z⟩) hw hg)
  rw[MS]at h2;exact h2
 | .st0 w,ws,f,b,e,o,i,path,C,h=>Rp.st0 (s:=⟨.st0 w,src,path,e⟩) rfl
 | .st1 w p,ws,f,b,e,o,i,path,C,h=>by simp only[nt,eQ];have h1:=lu (src:=src) p (path:=path++[0]) (C.le (bK i)) (λw z=>h w z);rw[Ks]at h1;exact Rp.st1 (s:=⟨.st1 w p,src,path,e⟩) rfl h1
 | .st2 w p q,ws,f,b,e,o,i,path,C,h=>by simp only[nt,eQ];have h1:=lu (src:=src) p (path:=path++[0]) (C.le (bK i)) (λw z=>h w (.inl z));have h2:=lu (src:=src) q (path:=path++[1]) (C.le (show i<=i+1+p.size by lia)) (λw z=>h w (.inr z));rw[Ks]at h1;rw[MS]at h2;exact Rp.st2 (s:=⟨.st2 w p q,src,path,e⟩) rfl h1 h2
theorem jo(hg:∀w g,giv w=some g->Lo c g):∀(t:T)(p:List Int)(o:Ow)(i:Nat),(∀w id,o w=some id->id<=c+i)->Lo (c+i+t.size) (nt c src giv t p o i)
 | .num n,p,o,i,h=>.mk (λz=>by rcases z with z|z<;>exact absurd z (by decide)) (by simp)
 | .name w,p,o,i,h=>by
  simp only[nt,eQ];cases ho:o w with
  | some id=>exact .mk (λ_ j e=>by cases e;have:=h w id ho;simp only[T.size];lia) (by simp)
  | none=>
   cases hgw:giv w with
   | some g=>exact(hg w g hgw).mono (by simp only[T.size];lia)
   | none=>exact .mk (λ_ j e=>by cases e) (by simp)
 | .sum a b,p,o,i,h=>by
  have h1:=jo (src:=src) hg a (p++[0]) o (i+1) (λw id z=>by have:=h w id z;lia);have h2:=jo (src:=src) hg b (p++[1]) o (i+1+a.size) (λw id z=>by have:=h w id z;lia);simp only[nt,eQ,T.size];refine .mk (λz=>by rcases z with z|z<;>exact absurd z (by decide)) (λn hn=>?_);simp only[aB,aG,or_false]at hn;rcases hn with rfl|rfl
  ·exact h1.mono (by lia)
  ·exact h2.mono (by lia)
 | .less a b,p,o,i,h=>by
  have h1:=jo (src:=src) hg a (p++[0]) o (i+1) (λw id z=>by have:=h w id z;lia);have h2:=jo (src:=src) hg b (p++[1]) o (i+1+a.size) (λw id z=>by have:=h w id z;lia);simp only[nt,eQ,T.size];refine .mk (λz=>by rcases z with z|z<;>exact absurd z (by decide)) (λn hn=>?_);simp only[aB,aG,or_false]at hn;rcases hn with rfl|rfl
  ·exact h1.mono (by lia)
  ·exact h2.mono (by lia)
 | .cho a b d,p,o,i,h=>by
  have h1:=jo (src:=src) hg a (p++[0]) o (i+1) (λw id z=>by have:=h w id z;lia);have h2:=jo (src:=src) hg b (p++[1]) o (i+1+a.size) (λw id z=>by have:=h w id z;lia);have h3:=jo (src:=src) hg d (p++[2]) o (i+1+a.size+b.size) (λw id z=>by have:=h w id z;lia);simp only[nt,eQ,T.size];refine .mk (λz=>by rcases z with z|z<;>exact absurd z (by decide)) (λn hn=>?_);simp only[aB,aG,or_false]at hn;rcases hn with rfl|rfl|rfl
  ·exact h1.mono (by lia)
  ·exact h2.mono (by lia)
  ·exact h3.mono (by lia)
 | .lt v a b,p,o,i,h=>by
  have h1:=jo (src:=src) hg a (p++[0]) o (i+1) (λw id z=>by have:=h w id z;lia);have h2:=jo (src:=src) hg b (p++[1]) (Ow.put o v (c+((i+1:Nat):Int))) (i+1+a.size) (λw id z=>by
   unfold Ow.put at z;split at z
   ·cases z;lia
   ·have:=h w id z;lia)
  simp only[nt,eQ,T.size];refine .mk (λ_ j e=>by cases e;lia) (λn hn=>?_);simp only[aB,aG,or_false]at hn;rcases hn with rfl|rfl
  ·exact h1.mono (by lia)
  ·exact h2.mono (by lia)
 | .st0 w,p,o,i,h=>.mk (λz=>by rcases z with z|z<;>exact absurd z (by decide)) (by simp)
 | .st1 w a,p,o,i,h=>by have h1:=jo (src:=src) hg a (p++[0]) o (i+1) (λw id z=>by have:=h w id z;lia);simp only[nt,eQ,T.size];refine .mk (λz=>by rcases z with z|z<;>exact absurd z (by decide)) (λn hn=>?_);simp only[aB,aG,or_false]at hn;subst hn;exact h1.mono (by lia)
 | .st2 w a b,p,o,i,h=>by
  have h1:=jo (src:=src) hg a (p++[0]) o (i+1) (λw id z=>by have:=h w id z;lia);have h2:=jo (src:=src) hg b (p++[1]) o (i+1+a.size) (λw id z=>by have:=h w id z;lia);simp only[nt,eQ,T.size];refine .mk (λz=>by rcases z with z|z<;>exact absurd z (by decide)) (λn hn=>?_);simp only[aB,aG,or_false]at hn;rcases hn with rfl|rfl
  ·exact h1.mono (by lia)
  ·exact h2.mono (by lia)
inductive It where
 | r(x:Rw)
 | s(x:eC)
def It.isR:It->Prop
 | .r _=>True
 | .s _=>False
def It.wt:It->Nat
 | .r x=>x.wt
 | .s x=>x.wt 0
def xH(I:List It):Nat:=(I.map It.wt).sum
theorem kW(a b:List It):xH (a++b)=xH a+xH b:=by simp[xH]
theorem pI(a:It)(b:List It):xH (a::b)=a.wt+xH b:=by simp[xH]
abbrev rI(R:List Rw):List It:=R.map .r
abbrev sI(S:List eC):List It:=S.map .s
theorem K1(R:List Rw):xH (rI R)=kr R:=by simp[xH,kr,ce,It.wt]
theorem K0(S:List eC):xH (sI S)=lP 0 S:=by simp[xH,lP,ce,It.wt]
def QM(k:Str)(h:Hd):Prop:=(k="sum"/\h=.sum)∨(k="less"/\h=.less)
inductive TR(W:List (T×List kh))(ws0 ws:List Str):Fo->Ba->List It->NT->Prop where
 | spot{f:Fo}{b:Ba}{s:eC}{n:NT}:Rp W ws f b s n->TR W ws0 ws f b [.s s] n
 | num{f:Fo}{b:Ba}{m:Int}{src:Str}{path:List Nat}:TR W ws0 ws f b [.r (.row (.num m) src path)] (.mk "number" (.int m) src (ip path) [])
 | free{f:Fo}{b:Ba}{w:Str}{src:Str}{path:List Nat}:w∈ws->f w=none->TR W ws0 ws f b [.r (.row (.name w) src path)] (.mk "name" (.str w) src (ip path) [])
 | bound{f:Fo}{b:Ba}{w:Str}{i:Int}{src:Str}{path:List Nat}:w∈ws->f w=some i->b i=some w->TR W ws0 ws f b [.r (.row (.name w) src path)] (.mk "name" (.int i) src (ip path) [])
 | rdy{f:Fo}{b:Ba}{k z:Nat}{t:T}{ss:List kh}{n:NT}:W[k]?=some (t,ss)->Gs ws f b t n->nG n=ss.map cv->gO n=z->TR W ws0 ws f b [.r (.rdy k z)] n
 | two{f:Fo}{b:Ba}{k:Str}{h:Hd}{I1 I2:List It}{n1 n2:NT}{src:Str}{path:List Nat}:QM k h->TR W ws0 ws f b I1 n1->TR W ws0 ws f b I2 n2->TR W ws0 ws f b (.r (.row h src path)::(I1++I2)) (.mk k .non src (ip path) [n1,n2])
 | cho{f:Fo}{b:Ba}{I1 I2 I3:List It}{n1 n2 n3:NT}{src:Str}{path:List Nat}:TR W ws0 ws f b I1 n1->TR W ws0 ws f b I2 n2->TR W ws0 ws f b I3 n3->TR W ws0 ws f b (.r (.row .cho src path)::(I1++(I2++I3))) (.mk "choose" .non src (ip path) [n1,n2,n3])
 | lt{f:Fo}{b:Ba}{x:Str}{i:Int}{I1 I2:List It}{n1 n2:NT}{src:Str}{path:List Nat}:x∈ws->x∉ws0->TR W ws0 ws f b I1 n1->TR W ws0 ws (lI f x i) (mK b i x) I2 n2->TR W ws0 ws f b (.r (.row (.lt x) src path)::(I1++I2)) (.mk "let" (.int i) src (ip path) [n1,n2])
abbrev Le(W W':List (T×List kh)):Prop:=∀(k:Nat)(p:T×List kh),W[k]?=some p->W'[k]?=some p
theorem TR.mono(hW:Le W W')(hs:∀x∈ws,x∈ws')(h:TR W ws0 ws f b I n):TR W' ws0 ws' f b I n:=by
 induction h with
 | spot a=>exact .spot (a.mono hW hs)
 | num=>exact .num
 | free a e=>exact .free (hs _ a) e
 | bound a e1 e2=>exact .bound (hs _ a) e1 e2
 | rdy k g s z=>exact .rdy (hW _ _ k) (g.mono hs) s z
 | two k _ _ i1 i2=>exact .two k i1 i2
 | cho _ _ _ i1 i2 i3=>exact .cho i1 i2 i3
 | lt a a2 _ _ i1 i2=>exact .lt (hs _ a) a2 i1 i2
mutual
def fst:NT->Option (List Nat)
 | .mk k _ _ _ ks=>if k="stamp" then some []else ja ks 0
def ja:List NT->Nat->Option (List Nat)
 | [],_=>none
 | n::ns,i=>match fst n with
  | some p=>some (i::p)
  | none=>ja ns (i+1)
end
def iC:NT->List Nat->Option NT
 | n,[]=>some n
 | .mk _ _ _ _ ks,i::p=>match ks[i]? with
  | some m=>iC m p
  | none=>none
def iG:NT->List Nat->NT->NT
 | _,[],m=>m
 | .mk k x src path ks,i::p,m=>.mk k x src path (ks.set i (match ks[i]? with|some n=>iG n p m|none=>m))
mutual
theorem oB:∀{n:NT},Kv n->fst n=none
 | .mk k x src path ks,.mk h1 h2=>by rw[fst,if_neg h1];exact yR h2 0
theorem yR:∀{ks:List NT},(∀n∈ks,Kv n)->∀i,ja ks i=none
 | [],_,_=>by rw[ja]
 | n::ns,h,i=>by rw[ja,oB (h n (.head _))];exact yR (λm hm=>h m (.tail _ hm)) (i+1)
end
theorem sH(h:TR W ws0 ws f b I n):(∀x∈I,x.isR)->Kv n:=by
 induction h with
 | spot a=>exact λz=>(z _ (.head _)).elim
 | num=>exact λ_=>.mk (by decide) (by simp)
 | free=>exact λ_=>.mk (by decide) (by simp)
 | bound=>exact λ_=>.mk (by decide) (by simp)
 | rdy _ g=>exact λ_=>g.ns
 | two k _ _ i1 i2=>intro z;have h1:=i1 λx hx=>z x (by simp[hx]);have h2:=i2 λx hx=>z x (by simp[hx]);refine .mk ?_ (by simp[h1,h2]);rcases k with⟨rfl,_⟩|⟨rfl,_⟩<;>decide
 | cho _ _ _ i1 i2 i3=>intro z;have h1:=i1 λx hx=>z x (by simp[hx]);have h2:=i2 λx hx=>z x (by simp[hx]);have h3:=i3 λx hx=>z x (by simp[hx]);exact .mk (by decide) (by simp[h1,h2,h3])
 | lt _ _ _ _ i1 i2=>intro z;have h1:=i1 λx hx=>z x (by simp[hx]);have h2:=i2 λx hx=>z x (by simp[hx]);exact .mk (by decide) (by simp[h1,h2])
def MR:NT->Prop
 | .mk k _ _ _ _=>k="stamp"
abbrev Cx(ws0:List Str)(f:Fo):Prop:=∀x i,f x=some i->x∉ws0
structure At(W:List (T×List kh))(ws0 ws:List Str)(f:Fo)(b:Ba)(A:List It)(s:eC)(B:List It)(n:NT)(p:List Nat)(f':Fo)(b':Ba)(m:NT):Prop where
 get:iC n p=some m
 rp:Rp W ws f' b' s m
 cx:Cx ws0 f'
 st:MR m->fst n=some p
 put:iG n p m=n
 tr:∀{W':List (T×List kh)}{ws':List Str},Le W W'->(∀x∈ws,x∈ws')->∀{J:List It}{m':NT},TR W' ws0 ws' f' b' J m'->TR W' ws0 ws' f b (A++(J++B)) (iG n p m')
theorem rZ{I1 I2 A B:List It}{s:eC}(h:I1++I2=A++.s s::B):(∃B1,I1=A++.s s::B1/\B=B1++I2)∨∃A2,A=I1++A2/\I2=A2++.s s::B:=by
 rcases List.append_eq_append_iff.mp h with⟨c,h1,h2⟩|⟨c,h1,h2⟩
 ·exact .inr ⟨c,h1,h2⟩
 ·cases c with
  | nil=>rw[aX]at h1;exact .inr ⟨[],by simp[h1],by simpa using h2.symm⟩
  | cons x c=>rw[aN]at h2;injection h2 with e1 e2;subst e1;exact .inl ⟨c,h1,e2⟩
theorem jZ(h:.r r::I=A++It.s s::B):∃A1,A=.r r::A1/\I=A1++.s s::B:=by
 cases A with
 | nil=>rw[ak]at h;injection h with e;cases e
 | cons x A=>rw[aN]at h;injection h with e1 e2;exact⟨A,by rw[e1],e2⟩
theorem MH(z:QM k h):k≠"stamp":=by rcases z with⟨rfl,_⟩|⟨rfl,_⟩<;>decide
theorem yk{W:List (T×List kh)}{ws0 ws:List Str}{f:Fo}{b:Ba}{I:List It}{n:NT}(h:TR W ws0 ws f b I n):∀{A B:List It}{s:eC},I=A++.s s::B->(∀x∈A,x.isR)->Cx ws0 f->∃p f' b' m,At W ws0 ws f b A s B n p f' b' m:=by
 induction h with
 | @spot f b s0 n a=>
  intro A B s e _ cx;cases A with
  | nil=>rw[ak]at e;injection e with e1 e2;cases e1;subst e2;exact⟨[],f,b,n,by cases n;rfl,a,cx,λz=>by cases n;exact if_pos z,rfl,λ_ _ J m' t=>by simpa[iG]using t⟩
  | cons x A=>rw[aN]at e;injection e with _ e2;cases A<;>cases e2
 | num=>intro A B s e;obtain⟨A1,_,e2⟩:=jZ e;cases A1<;>cases e2
 | free=>intro A B s e;obtain⟨A1,_,e2⟩:=jZ e;cases A1<;>cases e2
 | bound=>intro A B s e;obtain⟨A1,_,e2⟩:=jZ e;cases A1<;>cases e2
 | rdy=>intro A B s e;obtain⟨A1,_,e2⟩:=jZ e;cases A1<;>cases e2
 | @two f b k hd I1 I2 n1 n2 src path hk t1 t2 i1 i2=>
  intro A B s e hA cx;obtain⟨A1,rfl,e2⟩:=jZ e;have hA1:∀x∈A1,x.isR:=λx hx=>hA x (.tail _ hx);rcases rZ e2 with⟨B1,e3,rfl⟩|⟨A2,rfl,e3⟩
  ·obtain⟨p,f',b',m,a⟩:=i1 e3 hA1 cx;refine⟨0::p,f',b',m,a.get,a.rp,a.cx,λz=>?_,?_,λhW hs J m' t=>?_⟩
   ·rw[fst,if_neg (MH hk),ja,a.st z]
   ·simp only[iG,List.getElem?_cons_zero,a.put,cC]
   ·have:=TR.two (src:=src) (path:=path) hk (a.tr hW hs t) (t2.mono hW hs);simpa[iG]using this
  ·have n1s:=oB (sH t1 λx hx=>hA1 x (by simp[hx]));obtain⟨p,f',b',m,a⟩:=i2 e3 (λx hx=>hA1 x (by simp[hx])) cx;refine⟨1::p,f',b',m,a.get,a.rp,a.cx,λz=>?_,?_,λhW hs J m' t=>?_⟩
   ·rw[fst,if_neg (MH hk),ja,n1s,ja,a.st z]
   ·simp[iG,a.put]
   ·have:=TR.two (src:=src) (path:=path) hk (t1.mono hW hs) (a.tr hW hs t);simpa[iG]using this
 | @cho f b I1 I2 I3 n1 n2 n3 src path t1 t2 t3 i1 i2 i3=>
  intro A B s e hA cx;obtain⟨A1,rfl,e2⟩:=jZ e;have hA1:∀x∈A1,x.isR:=λx hx=>hA x (.tail _ hx);have nk:("choose":Str)≠"stamp":=by decide
  rcases rZ e2 with⟨B1,e3,rfl⟩|⟨A2,rfl,e3⟩
  ·obtain⟨p,f',b',m,a⟩:=i1 e3 hA1 cx;refine⟨0::p,f',b',m,a.get,a.rp,a.cx,λz=>?_,?_,λhW hs J m' t=>?_⟩
   ·rw[fst,if_neg nk,ja,a.st z]
   ·simp[iG,a.put]
   ·have:=TR.cho (src:=src) (path:=path) (a.tr hW hs t) (t2.mono hW hs) (t3.mono hW hs);simpa[iG]using this
  ·have n1s:=oB (sH t1 λx hx=>hA1 x (by simp[hx]));rcases rZ e3 with⟨B1,e4,rfl⟩|⟨A3,rfl,e4⟩
   ·obtain⟨p,f',b',m,a⟩:=i2 e4 (λx hx=>hA1 x (by simp[hx])) cx;refine⟨1::p,f',b',m,a.get,a.rp,a.cx,λz=>?_,?_,λhW hs J m' t=>?_⟩
    ·rw[fst,if_neg nk,ja,n1s,ja,a.st z]
    ·simp[iG,a.put]
    ·have:=TR.cho (src:=src) (path:=path) (t1.mono hW hs) (a.tr hW hs t) (t3.mono hW hs);simpa[iG]using this
   ·have n2s:=oB (sH t2 λx hx=>hA1 x (by simp[hx]));obtain⟨p,f',b',m,a⟩:=i3 e4 (λx hx=>hA1 x (by simp[hx])) cx;refine⟨2::p,f',b',m,a.get,a.rp,a.cx,λz=>?_,?_,λhW hs J m' t=>?_⟩
    ·rw[fst,if_neg nk,ja,n1s,ja,n2s,ja,a.st z]
    ·simp[iG,a.put]
    ·have:=TR.cho (src:=src) (path:=path) (t1.mono hW hs) (t2.mono hW hs) (a.tr hW hs t);simpa[iG]using this
 | @lt f b x i I1 I2 n1 n2 src path hx hx0 t1 t2 i1 i2=>
  intro A B s e hA cx;obtain⟨A1,rfl,e2⟩:=jZ e;have hA1:∀x∈A1,x.isR:=λx hx=>hA x (.tail _ hx);have nk:("let":Str)≠"stamp":=by decide
  rcases rZ e2 with⟨B1,e3,rfl⟩|⟨A2,rfl,e3⟩
  ·obtain⟨p,f',b',m,a⟩:=i1 e3 hA1 cx;refine⟨0::p,f',b',m,a.get,a.rp,a.cx,λz=>?_,?_,λhW hs J m' t=>?_⟩
   ·rw[fst,if_neg nk,ja,a.st z]
   ·simp[iG,a.put]
   ·have:=TR.lt (src:=src) (path:=path) (hs _ hx) hx0 (a.tr hW hs t) (t2.mono hW hs);simpa[iG]using this
  ·have n1s:=oB (sH t1 λx hx=>hA1 x (by simp[hx]));have cx':Cx ws0 (lI f x i):=λy j h=>by
    unfold lI at h;split at h
    ·rename_i e;subst e;exact hx0
    ·exact cx y j h
   obtain⟨p,f',b',m,a⟩:=i2 e3 (λx hx=>hA1 x (by simp[hx])) cx';refine⟨1::p,f',b',m,a.get,a.rp,a.cx,λz=>?_,?_,λhW hs J m' t=>?_⟩
   ·rw[fst,if_neg nk,ja,n1s,ja,a.st z]
   ·simp[iG,a.put]
   ·have:=TR.lt (src:=src) (path:=path) (hs _ hx) hx0 (t1.mono hW hs) (a.tr hW hs t);simpa[iG]using this
end S8
namespace S8
open PySem L2 SW S9
variable {W:List (T×List kh)}{ws0 ws ws':List Str}{f:Fo}{b:Ba}
def QP(W:List (T×List kh))(ws:List Str)(f:Fo)(b:Ba)(s:eC)(n:NT):T->Prop
 | .num m=>n=.mk "number" (.int m) s.src (ip s.path) []
 | .name w=>(s.e.look w=none/\w∈ws/\f w=none/\n=.mk "name" (.str w) s.src (ip s.path) [])∨(∃x i,s.e.look w=some (.called x)/\x∈ws/\f x=some i/\b i=some x/\n=.mk "name" (.int i) s.src (ip s.path) [])∨
  (∃k z t ss,s.e.look w=some (.ready k z)/\W[k]?=some (t,ss)/\Gs ws f b t n/\nG n=ss.map cv/\gO n=z)∨∃t src path e,s.e.look w=some (.handed t src path e)/\Rp W ws f b ⟨t,src,path,e⟩ n
 | .sum t1 t2=>∃n1 n2,n=.mk "sum" .non s.src (ip s.path) [n1,n2]/\Rp W ws f b (s.kid 0 t1) n1/\Rp W ws f b (s.kid 1 t2) n2
 | .less t1 t2=>∃n1 n2,n=.mk "less" .non s.src (ip s.path) [n1,n2]/\Rp W ws f b (s.kid 0 t1) n1/\Rp W ws f b (s.kid 1 t2) n2
 | .cho t1 t2 t3=>∃n1 n2 n3,n=.mk "choose" .non s.src (ip s.path) [n1,n2,n3]/\Rp W ws f b (s.kid 0 t1) n1/\Rp W ws f b (s.kid 1 t2) n2/\Rp W ws f b (s.kid 2 t3) n3
 | .lt w t1 t2=>∃n1 n2 i,n=.mk "let" (.int i) s.src (ip s.path) [n1,n2]/\Rp W ws f b (s.kid 0 t1) n1/\∀x,x∉ws->Rp W (x::ws) (lI f x i) (mK b i x) ⟨t2,s.src,s.path++[1],s.e.put w (.called x)⟩ n2
 | .st0 w=>n=.mk "stamp" (.str w) s.src (ip s.path) []
 | .st1 w t1=>∃n1,n=.mk "stamp" (.str w) s.src (ip s.path) [n1]/\Rp W ws f b (s.kid 0 t1) n1
 | .st2 w t1 t2=>∃n1 n2,n=.mk "stamp" (.str w) s.src (ip s.path) [n1,n2]/\Rp W ws f b (s.kid 0 t1) n1/\Rp W ws f b (s.kid 1 t2) n2
theorem Rp.inv{s:eC}{n:NT}(h:Rp W ws f b s n):QP W ws f b s n s.t:=by
 cases h with
 | num e=>rw[e];rfl
 | free e l m g=>rw[e];exact .inl ⟨l,m,g,rfl⟩
 | called e l m g1 g2=>rw[e];exact .inr (.inl ⟨_,_,l,m,g1,g2,rfl⟩)
 | ready e l hk g hs hz=>rw[e];exact .inr (.inr (.inl ⟨_,_,_,_,l,hk,g,hs,hz⟩))
 | handed e l r=>rw[e];exact .inr (.inr (.inr ⟨_,_,_,_,l,r⟩))
 | sum e a c=>rw[e];exact⟨_,_,rfl,a,c⟩
 | less e a c=>rw[e];exact⟨_,_,rfl,a,c⟩
 | cho e a c d=>rw[e];exact⟨_,_,_,rfl,a,c,d⟩
 | lt e a c=>rw[e];exact⟨_,_,_,rfl,a,c⟩
 | st0 e=>rw[e];rfl
 | st1 e a=>rw[e];exact⟨_,rfl,a⟩
 | st2 e a c=>rw[e];exact⟨_,_,rfl,a,c⟩
theorem Rp.at{s:eC}{n:NT}{t:T}(h:Rp W ws f b s n)(e:s.t=t):QP W ws f b s n t:=e▸h.inv
theorem GE{s:eC}{Q:List eC}{rs:List Rw}{m:NT}(h:Tk ws s Q rs ws')(r:Rp W ws f b s m)(h0:∀x∈ws0,x∈ws):TR W ws0 ws' f b (rI rs++sI Q.reverse) m/\∀x∈ws,x∈ws':=by
 cases h with
 | plain e=>
  refine⟨?_,λ_ z=>z⟩;rw[cb];have v:=r.inv;obtain⟨st,src,path,en⟩:=s;cases st<;>cases e
  ·cases v;exact .num
  ·obtain⟨n1,n2,rfl,r1,r2⟩:=v;exact .two (I1:=[.s _]) (I2:=[.s _]) (.inl ⟨rfl,rfl⟩) (.spot r1) (.spot r2)
  ·obtain⟨n1,n2,rfl,r1,r2⟩:=v;exact .two (I1:=[.s _]) (I2:=[.s _]) (.inr ⟨rfl,rfl⟩) (.spot r1) (.spot r2)
  ·obtain⟨n1,n2,n3,rfl,r1,r2,r3⟩:=v;exact .cho (I1:=[.s _]) (I2:=[.s _]) (I3:=[.s _]) (.spot r1) (.spot r2) (.spot r3)
 | free e l=>
  refine⟨?_,λ_ z=>z⟩;rcases r.at e with⟨_,h1,h2,rfl⟩|⟨_,_,l2,_⟩|⟨_,_,_,_,l2,_⟩|⟨_,_,_,_,l2,_⟩
  ·exact .free h1 h2
  all_goals (rw[l]at l2;cases l2)
 | called e l=>
  refine⟨?_,λ_ z=>z⟩;rcases r.at e with⟨l2,_⟩|⟨_,_,l2,h1,h2,h3,rfl⟩|⟨_,_,_,_,l2,_⟩|⟨_,_,_,_,l2,_⟩
  all_goals (rw[l]at l2;cases l2)
  exact .bound h1 h2 h3
 | ready e l=>
  refine⟨?_,λ_ z=>z⟩;rcases r.at e with⟨l2,_⟩|⟨_,_,l2,_⟩|⟨_,_,_,_,l2,h1,h2,h3,h4⟩|⟨_,_,_,_,l2,_⟩
  all_goals (rw[l]at l2;cases l2)
  exact .rdy h1 h2 h3 h4
 | handed e l=>
  refine⟨?_,λ_ z=>z⟩;rcases r.at e with⟨l2,_⟩|⟨_,_,l2,_⟩|⟨_,_,_,_,l2,_⟩|⟨_,_,_,_,l2,r2⟩
  all_goals (rw[l]at l2;cases l2)
  exact .spot r2
 | @lt w x p q e _ hx _=>
  have sub:∀y∈ws,y∈ws++[x]:=λy hy=>ae _ hy;refine⟨?_,sub⟩;obtain⟨n1,n2,i,rfl,r1,r2⟩:=r.at e;refine .lt (I1:=[.s _]) (I2:=[.s _]) (aL _ (.head _)) (λz=>hx (h0 _ z)) (.spot (r1.mono (λ_ _ z=>z) sub)) (.spot ((r2 x hx).mono (λ_ _ z=>z) λy hy=>?_));rcases aB.mp hy with rfl|hy
  ·exact aL _ (.head _)
  ·exact sub _ hy
theorem qT(R:List Rw):∀x∈rI R,x.isR:=λx hx=>by obtain⟨r,_,rfl⟩:=bO.mp hx;exact aI
theorem eI{S Q:List eC}{s:eC}{R:List Rw}:rI R++sI (S++[s]).reverse=rI R++.s s::sI S.reverse:=by simp
theorem JY{S:List eC}{R R':List Rw}{n:NT}(h:yn S R ws R' ws'):(∀x∈ws0,x∈ws)->Cx ws0 f->TR W ws0 ws f b (rI R++sI S.reverse) n->TR W ws0 ws' f b (rI R') n/\∀x∈ws,x∈ws':=by
 induction h with
 | nil=>exact λ_ _ t=>⟨by simpa using t,λ_ z=>z⟩
 | @step S P s R rs R' ws ws' ws'' tk _ ih=>intro h0 cx t;rw[eI (Q:=P)]at t;obtain⟨p,f',b',m,a⟩:=yk t rfl (qT R) cx;obtain⟨t2,sub⟩:=GE tk a.rp h0;have t3:=a.tr (λ_ _ z=>z) sub t2;rw[a.put]at t3;obtain⟨t4,mS⟩:=ih (λx hx=>sub x (h0 x hx)) cx (by simpa using t3);exact⟨t4,λx hx=>mS x (sub x hx)⟩
theorem MX{I:List It}{n:NT}(h:TR W ws0 ws f b I n):(∀x∈I,x.isR)->∃R,I=rI R/\∃t,(∀R2,mC (W.map Prod.fst) (R++R2)=t::mC (W.map Prod.fst) R2)/\Gs ws f b t n/\nG n=(iH (W.map Prod.snd) R).map cv:=by
 induction h with
 | spot a=>exact λz=>(z _ (.head _)).elim
 | @num f b m src path=>exact λ_=>⟨[.row (.num m) src path],rfl,.num m,λR2=>rfl,.num,rfl⟩
 | @free f b w src path a e=>exact λ_=>⟨[.row (.name w) src path],rfl,.name w,λR2=>rfl,.free a e,rfl⟩
 | @bound f b w i src path a e1 e2=>exact λ_=>⟨[.row (.name w) src path],rfl,.name w,λR2=>rfl,.bound a e1 e2,rfl⟩
 | @rdy f b k z t ss n hk g hs hz=>
  refine λ_=>⟨[.rdy k z],rfl,t,λR2=>?_,g,?_⟩
  ·simp only[aN,ak,mC,zQ,aT,hk,bY,bH]
  ·simp only[iH,aT,hk,bY,bH,aX];exact hs
 | @two f b k hd I1 I2 n1 n2 src path hk t1 t2 i1 i2=>
  intro z;obtain⟨R1,rfl,u1,e1,g1,s1⟩:=i1 λx hx=>z x (by simp[hx]);obtain⟨R2,rfl,u2,e2,g2,s2⟩:=i2 λx hx=>z x (by simp[hx]);rcases hk with⟨rfl,rfl⟩|⟨rfl,rfl⟩
  ·refine⟨.row .sum src path::(R1++R2),by simp,.sum u1 u2,λR3=>?_,.sum g1 g2,?_⟩
   ·simp only[aN,aW,mC,e1,e2,zQ,Hd.ar,a8,aw,a9,af,wK]
   ·simp[nG,zR,iH,gM,s1,s2]
  ·refine⟨.row .less src path::(R1++R2),by simp,.less u1 u2,λR3=>?_,.less g1 g2,?_⟩
   ·simp only[aN,aW,mC,e1,e2,zQ,Hd.ar,a8,aw,a9,af,wK]
   ·simp[nG,zR,iH,gM,s1,s2]
 | @cho f b I1 I2 I3 n1 n2 n3 src path t1 t2 t3 i1 i2 i3=>
  intro z;obtain⟨R1,rfl,u1,e1,g1,s1⟩:=i1 λx hx=>z x (by simp[hx]);obtain⟨R2,rfl,u2,e2,g2,s2⟩:=i2 λx hx=>z x (by simp[hx]);obtain⟨R3,rfl,u3,e3,g3,s3⟩:=i3 λx hx=>z x (by simp[hx]);refine⟨.row .cho src path::(R1++(R2++R3)),by simp,.cho u1 u2 u3,λR4=>?_,.cho g1 g2 g3,?_⟩
  ·simp only[aN,aW,mC,e1,e2,e3,zQ,Hd.ar,a8,aw,a9,af,wK]
  ·simp[nG,zR,iH,gM,s1,s2,s3]
 | @lt f b x i I1 I2 n1 n2 src path hx hx0 t1 t2 i1 i2=>
  intro z;obtain⟨R1,rfl,u1,e1,g1,s1⟩:=i1 λx hx=>z x (by simp[hx]);obtain⟨R2,rfl,u2,e2,g2,s2⟩:=i2 λx hx=>z x (by simp[hx]);refine⟨.row (.lt x) src path::(R1++R2),by simp,.lt x u1 u2,λR3=>?_,.lt hx g1 g2,?_⟩
  ·simp only[aN,aW,mC,e1,e2,zQ,Hd.ar,a8,aw,a9,af,wK]
  ·simp[nG,zR,iH,gM,s1,s2]
theorem Jf{R R2:List Rw}(h:rI R=rI R2):R=R2:=by have:=congrArg (List.map λx=>match x with|It.r y=>y|It.s _=>Rw.rdy 0 0) h;simpa[bN,ce]using this
theorem yO{R:List Rw}{n:NT}(h:TR W ws0 ws f b (rI R) n):∃t,mC (W.map Prod.fst) R=[t]/\Gs ws f b t n/\nG n=(iH (W.map Prod.snd) R).map cv:=by obtain⟨R2,e,t,h1,h2,h3⟩:=MX h (qT R);have:=Jf e;subst this;have:=h1 [];rw[aX]at this;exact⟨t,this,h2,h3⟩
def Gn(k:Nat):Str:=⟨(List.replicate k 97).toArray⟩
theorem wX(ws:List Str):∃x:Str,x∉ws:=by
 have key:∀ws:List Str,∃m:Nat,∀x∈ws,x.cps.size<m:=by
  intro ws;induction ws with
  | nil=>exact⟨0,λx hx=>by cases hx⟩
  | cons y ws ih=>
   obtain⟨m,hm⟩:=ih;refine⟨m+y.cps.size+1,λx hx=>?_⟩;rcases aB.mp hx with rfl|hx
   ·lia
   ·have:=hm x hx;lia
 obtain⟨m,hm⟩:=key ws;refine⟨Gn m,λz=>?_⟩;have:=hm _ z;simp[Gn]at this
theorem GM{s:eC}{n:NT}(h:Rp W ws f b s n):s.wt 0=gO n:=by
 induction h with
 | num e=>simp[eC.wt,e,jc,gO,fW]
 | free e l=>rw[iK e,l];simp[gO,fW]
 | called e l=>rw[iK e,l];simp[gO,fW,Mg.wt]
 | ready e l _ _ _ hz=>rw[iK e,l];simp[Mg.wt,hz]
 | handed e l _ ih=>rw[iK e,l,<-ih];simp[Mg.wt,eC.wt]
 | sum e _ _ i1 i2=>simp only[gO,fW,<-i1,<-i2];simp only[eC.wt,e,jc,eC.kid];lia
 | less e _ _ i1 i2=>simp only[gO,fW,<-i1,<-i2];simp only[eC.wt,e,jc,eC.kid];lia
 | cho e _ _ _ i1 i2 i3=>simp only[gO,fW,<-i1,<-i2,<-i3];simp only[eC.wt,e,jc,eC.kid];lia
 | @lt ws f b s w t1 t2 n1 n2 i e _ _ i1 i2=>obtain⟨x,hx⟩:∃x:Str,x∉ws:=wX ws;have:=i2 x hx;simp only[gO,fW,<-i1,<-this];rw[AV (x:=x) e,lB,gS];lia
 | st0 e=>simp[eC.wt,e,jc,gO,fW]
 | st1 e _ i1=>simp only[gO,fW,<-i1];simp only[eC.wt,e,jc,eC.kid];lia
 | st2 e _ _ i1 i2=>simp only[gO,fW,<-i1,<-i2];simp only[eC.wt,e,jc,eC.kid];lia
theorem K5{I:List It}{n:NT}(h:TR W ws0 ws f b I n):xH I=gO n:=by
 induction h with
 | spot a=>simp[xH,It.wt,GM a]
 | num=>rfl
 | free=>rfl
 | bound=>rfl
 | rdy _ _ _ hz=>simp[xH,It.wt,Rw.wt,hz]
 | two _ _ _ i1 i2=>simp only[pI,kW,i1,i2,It.wt,Rw.wt,gO,fW];lia
 | cho _ _ _ i1 i2 i3=>simp only[pI,kW,i1,i2,i3,It.wt,Rw.wt,gO,fW];lia
 | lt _ _ _ _ i1 i2=>simp only[pI,kW,i1,i2,It.wt,Rw.wt,gO,fW];lia
end S8
namespace S8
open PySem L2 SW S9
variable {W:List (T×List kh)}{ws0 ws ws':List Str}{f:Fo}{b:Ba}{bo:Bo}{t:T}
def Dg:Gi:=λ_=>none
def Ge(e:Bool)(g:NT):Gi:=λw=>if w=oM e then some g else none
def Df(e:Bool)(g h:NT):Gi:=λw=>if w=oM e then some g else if w=uS e then some h else none
inductive yq(bo:Bo):Str->List NT->Gi->T->Prop where
 | star:yq bo "star" [] Dg bo.x
 | sta{g:NT}:yq bo "sta" [g] (Ge bo.e g) bo.y
 | st{g h:NT}:yq bo "st" [g,h] (Df bo.e g h) bo.z
inductive Ly(bo:Bo)(t:T):Nat->NT->Int->Prop where
 | zero:Ly bo t 0 (nt 0 "" Dg t [] Ow.none 0) (0+(t.size:Int))
 | succ{k:Nat}{n:NT}{c:Int}{p:List Nat}{w src:Str}{path:List Int}{ks:List NT}{giv:Gi}{body:T}:Ly bo t k n c->fst n=some p->iC n p=some (.mk "stamp" (.str w) src path ks)->yq bo w ks giv body->
  Ly bo t (k+1) (iG n p (nt c w giv body [] Ow.none 0)) (c+(body.size:Int))
theorem yq.uniq{w:Str}{ks:List NT}{g1 g2:Gi}{c1 c2:T}(h1:yq bo w ks g1 c1)(h2:yq bo w ks g2 c2):g1=g2/\c1=c2:=by cases h1<;>cases h2<;>exact⟨rfl,rfl⟩
theorem Ly.uniq{k:Nat}{n1 n2:NT}{c1 c2:Int}(h1:Ly bo t k n1 c1)(h2:Ly bo t k n2 c2):n1=n2/\c1=c2:=by
 induction h1 generalizing n2 c2 with
 | zero=>cases h2;exact⟨rfl,rfl⟩
 | succ a f1 g1 B1 ih=>
  cases h2 with
  | succ a2 f2 g2 B2=>obtain⟨rfl,rfl⟩:=ih a2;rw[f1]at f2;cases f2;rw[g1]at g2;cases g2;obtain⟨rfl,rfl⟩:=B1.uniq B2;exact⟨rfl,rfl⟩
theorem Ly.over{k j:Nat}{n m:NT}{c d:Int}(h1:Ly bo t k n c)(h2:Ly bo t j m d)(h:k<j):∃p,fst n=some p:=by
 induction h2 with
 | zero=>lia
 | @succ j m d p w src path ks giv body a f1 g1 B1 ih=>
  rcases bE k j with hk|hk
  ·exact ih hk
  ·have:k=j:=by lia
   subst this;obtain⟨rfl,_⟩:=h1.uniq a;exact⟨_,f1⟩
theorem Ly.le_end{k j:Nat}{n m:NT}{c d:Int}(h1:Ly bo t k n c)(h2:Ly bo t j m d)(e:fst n=none):j<=k:=by
 rcases bE k j with hk|hk
 ·obtain⟨p,hp⟩:=h1.over h2 hk;rw[e]at hp;cases hp
 ·exact hk
theorem rB:∀{ks:List NT}{j:Nat}{q:List Nat},ja ks j=some q->∃i p m,q=(j+i)::p/\ks[i]?=some m/\fst m=some p
 | [],_,_,h=>by rw[ja]at h;cases h
 | n::ns,j,q,h=>by
  rw[ja]at h;cases e:fst n with
  | some p=>rw[e]at h;cases h;exact⟨0,p,n,rfl,rfl,e⟩
  | none=>rw[e]at h;obtain⟨i,p,m,h1,h2,h3⟩:=rB h;exact⟨i+1,p,m,by rw[h1];congr 1;lia,h2,h3⟩
theorem qL{k:Str}{x:V}{src:Str}{path:List Int}{ks:List NT}{q:List Nat}(h:fst (.mk k x src path ks)=some q):(k="stamp"/\q=[])∨(k≠"stamp"/\∃i p m,q=i::p/\ks[i]?=some m/\fst m=some p):=by
 rw[fst]at h;split at h
 ·rename_i e;cases h;exact .inl ⟨e,rfl⟩
 ·rename_i e;obtain⟨i,p,m,h1,h2,h3⟩:=rB h;exact .inr ⟨e,i,p,m,by rw[h1,bi],h2,h3⟩
theorem Cf{c:Int}{m:NT}(hm:Lo c m):∀{p:List Nat}{n:NT},Lo c n->Lo c (iG n p m)
 | [],_,_=>hm
 | i::p,.mk k x src path ks,.mk h1 h2=>by
  refine .mk h1 λy hy=>?_;rcases dG hy with z|rfl
  ·exact h2 y z
  ·cases e:ks[i]? with
   | none=>exact hm
   | some n=>exact Cf hm (h2 n (aZ e))
theorem se{c:Int}:∀{p:List Nat}{n m:NT},Lo c n->iC n p=some m->Lo c m
 | [],n,m,h,e=>by cases n;cases e;exact h
 | i::p,.mk k x src path ks,m,.mk h1 h2,e=>by
  rw[iC]at e;cases e2:ks[i]? with
  | none=>rw[e2]at e;cases e
  | some n=>rw[e2]at e;exact se (h2 n (aZ e2)) e
theorem my{w:Str}{ks:List NT}{giv:Gi}{body:T}(B:yq bo w ks giv body){P:NT->Prop}(h:∀n∈ks,P n):∀v g,giv v=some g->P g:=by
 intro v g e;cases B with
 | star=>cases e
 | sta=>
  unfold Ge at e;split at e
  ·cases e;exact h _ (by simp)
  ·cases e
 | st=>
  unfold Df at e;split at e
  ·cases e;exact h _ (by simp)
  ·split at e
   ·cases e;exact h _ (by simp)
   ·cases e
theorem GY{k:Nat}{n:NT}{c:Int}(h:Ly bo t k n c):Lo c n:=by
 induction h with
 | zero=>have:=jo (giv:=Dg) (c:=0) (src:="") (λw g e=>by cases e) t [] Ow.none 0 (λw id e=>by cases e);exact this.mono (by lia)
 | @succ k n c p w src path ks giv body _ _ g1 B ih=>have lm:=se ih g1;have:=jo (giv:=giv) (c:=c) (src:=w) (my B lm.inv.2) body [] Ow.none 0 (λw id e=>by cases e);exact Cf (this.mono (by lia)) (ih.mono (by lia))
theorem AW{rd:List (List Rw)}(h:mz rd W):W.length=rd.length:=by
 induction h with
 | nil=>rfl
 | snoc _ _ ih=>simp[ih]
theorem sX{rd rd':List (List Rw)}{s:eC}{m:Mg}{n:NT}(h:m9 true rd ws s m rd' ws')(r:Rp W ws f b s n)(hw:mz rd W)(h0:∀x∈ws0,x∈ws)(cx:Cx ws0 f):
  ∃W',mz rd' W'/\Le W W'/\(∀x∈ws,x∈ws')/\Dk W' ws' f b m n:=by
 cases h with
 | handed p=>exact⟨W,hw,λ_ _ z=>z,λ_ z=>z,r⟩
 | @ready _ _ _ _ R p run=>
  obtain⟨t1,sub⟩:=JY (ws0:=ws0) run h0 cx (TR.spot r);obtain⟨t,e,g,hs⟩:=yO t1;refine⟨_,.snoc hw e,λk q z=>?_,sub,t,_,?_,g,hs,(GM r).symm⟩
  ·rw[au (aK.mp z).1];exact z
  ·rw[<-AW hw];simp
theorem tG{giv:Gi}{c:Int}{e:S9.En}{OUT:Str->Prop}(hg:∀w g,giv w=some g->∃m,e.look w=some m/\Dk W ws f b m g/\Lo c g)(ho:∀w,giv w=none->e.look w=none)(hO:∀w,OUT w->w∈ws0)(h0:∀x∈ws0,x∈ws)(cx:Cx ws0 f):Gy W OUT giv c ws f b e Ow.none 0:=by
 refine⟨(λw id h=>by cases h),λw g _ h=>hg w g h,λw _ h2 h3=>⟨ho w h2,?_,h0 _ (hO w h3)⟩⟩;cases h:f w with
 | none=>rfl
 | some i=>exact absurd (hO w h3) (cx w i h)
structure wz(bo:Bo)(ws0:List Str):Prop where
 a:∀w,bo.x.out w->w∈ws0
 b:∀w,bo.y.out w->w∈ws0
 c:∀w,bo.z.out w->w∈ws0
theorem FH{rd rd':List (List Rw)}{s s':eC}{m:NT}{c:Int}(O:wz bo ws0)(h:tT bo true rd ws s s' rd' ws')(r:Rp W ws f b s m)(hw:mz rd W)(h0:∀x∈ws0,x∈ws)(cx:Cx ws0 f)(lo:Lo c m):
  ∃W' w giv body ks src path,m=.mk "stamp" (.str w) src path ks/\yq bo w ks giv body/\mz rd' W'/\Le W W'/\(∀x∈ws,x∈ws')/\Rp W' ws' f b s' (nt c w giv body [] Ow.none 0):=by
 cases h with
 | star e=>
  ·have v:=r.at e;subst v;exact⟨W,"star",Dg,bo.x,[],_,_,rfl,.star,hw,λ_ _ z=>z,λ_ z=>z,lu (path:=[]) bo.x (tG (OUT:=λw=>bo.x.out w) (λw g h=>by cases h) (λw _=>rfl) O.a h0 cx) λw z _ _=>z⟩
 | @sta p m1 _ _ e h1=>
  ·obtain⟨n1,rfl,r1⟩:=r.at e;obtain⟨W',hw',le,sub,mr⟩:=sX (ws0:=ws0) h1 r1 hw h0 cx;refine⟨W',"sta",Ge bo.e n1,bo.y,[n1],_,_,rfl,.sta,hw',le,sub,lu (path:=[]) bo.y (tG (OUT:=λw=>bo.y.out w) (λw g h=>?_) (λw h=>?_) O.b (λx hx=>sub x (h0 x hx)) cx) λw z _ _=>z⟩
   ·unfold Ge at h;split at h
    ·rename_i hv;subst hv;cases h;exact⟨m1,if_pos rfl,mr,lo.inv.2 _ (by simp)⟩
    ·cases h
   ·unfold Ge at h;split at h
    ·cases h
    ·rename_i hv;exact if_neg (λz=>hv z.symm)
 | @st p q m1 m2 rd1 rd2 ws1 ws2 e h1 h2=>
  ·obtain⟨n1,n2,rfl,r1,r2⟩:=r.at e;obtain⟨W1,hw1,le1,sub1,mr1⟩:=sX (ws0:=ws0) h1 r1 hw h0 cx;obtain⟨W2,hw2,le2,mS,mr2⟩:=sX (ws0:=ws0) h2 (r2.mono le1 sub1) hw1 (λx hx=>sub1 x (h0 x hx)) cx;refine⟨W2,"st",Df bo.e n1 n2,bo.z,[n1,n2],_,_,rfl,.st,hw2,λk q z=>le2 _ _ (le1 _ _ z),λx hx=>mS x (sub1 x hx),lu (path:=[]) bo.z (tG (OUT:=λw=>bo.z.out w) (λw g h=>?_) (λw h=>?_) O.c (λx hx=>mS x (sub1 x (h0 x hx))) cx) λw z _ _=>z⟩
   ·unfold Df at h;split at h
    ·rename_i hv;subst hv;cases h;exact⟨m1,if_pos rfl,mr1.mono le2 mS,lo.inv.2 _ (by simp)⟩
    ·split at h
     ·rename_i hv;subst hv;cases h;exact⟨m2,by unfold En.look;rw[if_neg (wD bo.e)];exact if_pos rfl,mr2,lo.inv.2 _ (by simp)⟩
     ·cases h
   ·unfold Df at h;split at h
    ·cases h
    ·split at h
     ·cases h
     ·rename_i hv hv2;unfold En.look;rw[if_neg (λz=>hv z.symm)];exact if_neg (λz=>hv2 z.symm)
def f0:Fo:=λ_=>none
def Mi:Ba:=λ_=>none
structure Mm(bo:Bo)(t:T)(ws0:List Str)(st:oH)(n:NT)(c:Int)(W:List (T×List kh)):Prop where
 ly:Ly bo t st.k n c
 wr:mz st.rd W
 tr:TR W ws0 st.ws f0 Mi (rI st.R++sI st.S.reverse) n
 sub:∀x∈ws0,x∈st.ws
theorem NK:Cx ws0 f0:=λx i h=>by cases h
theorem JS{F:Nat}{st st':oH}{n:NT}{c:Int}(h:Gp bo F st st')(S:Mm bo t ws0 st n c W)(hk:st.k<st'.k):∃p,fst n=some p:=by
 cases h with
 | take a=>exact absurd hk (bS _)
 | @opn S0 s s' R k ws ws' rd rd' a=>
  have tr:=S.tr;rw[eI (Q:=[])]at tr;obtain⟨p,f',b',m,A⟩:=yk tr rfl (qT R) NK;refine⟨p,A.st ?_⟩;have r:=A.rp;cases a with
  | star e=>have v:=r.at e;subst v;exact rfl
  | sta e=>obtain⟨_,rfl,_⟩:=r.at e;exact rfl
  | st e=>obtain⟨_,_,rfl,_⟩:=r.at e;exact rfl
theorem El{F:Nat}{st st':oH}{n:NT}{c:Int}(O:wz bo ws0)(h:Gp bo F st st')(S:Mm bo t ws0 st n c W)(hk:st'.k<=F):∃n' c' W',Mm bo t ws0 st' n' c' W':=by
 cases h with
 | @take S0 Q s R rs k ws ws' rd a=>have tr:=S.tr;rw[eI (Q:=[])]at tr;obtain⟨p,f',b',m,A⟩:=yk tr rfl (qT R) NK;obtain⟨t2,sub⟩:=GE a A.rp S.sub;have t3:=A.tr (λ_ _ z=>z) sub t2;rw[A.put]at t3;exact⟨n,c,W,S.ly,S.wr,by simpa using t3,λx hx=>sub x (S.sub x hx)⟩
 | @opn S0 s s' R k ws ws' rd rd' a=>have hk:k+1<=F:=hk;rw[show decide (k+1<=F)=true from decide_eq_true hk]at a;have tr:=S.tr;rw[eI (Q:=[])]at tr;obtain⟨p,f',b',m,A⟩:=yk tr rfl (qT R) NK;have lo:=se (GY S.ly) A.get;obtain⟨W',w,giv,body,ks,src,path,rfl,B,hw,le,sub,rp⟩:=FH (c:=c) O a A.rp S.wr S.sub A.cx lo;have t3:=A.tr le sub (TR.spot rp);exact⟨_,_,W',S.ly.succ (A.st rfl) A.get B,hw,by simpa using t3,λx hx=>sub x (S.sub x hx)⟩
theorem zU(ht:∀w,t.out w->w∈ws0):Mm bo t ws0 (st0 t ws0) (nt 0 "" Dg t [] Ow.none 0) (0+(t.size:Int)) []:=
 ⟨.zero,.nil,TR.spot (lu (path:=[]) t (tG (OUT:=λw=>t.out w) (λw g h=>by cases h) (λw _=>rfl) ht (λ_ z=>z) NK) λw z _ _=>z),λ_ z=>z⟩
theorem sK{F:Nat}{st:oH}(O:wz bo ws0)(ht:∀w,t.out w->w∈ws0)(h:tR bo F (st0 t ws0) st):st.k<=F->∃n c W,Mm bo t ws0 st n c W:=by
 induction h with
 | refl=>exact λ_=>⟨_,_,_,zU ht⟩
 | step _ hk a ih=>intro hk2;obtain⟨n,c,W,S⟩:=ih hk;exact El O a S hk2
theorem Bx{F:Nat}{st:oH}(O:wz bo ws0)(ht:∀w,t.out w->w∈ws0)(h:tR bo F (st0 t ws0) st)(hF:F<st.k):∃k n c p,Ly bo t k n c/\F<=k/\fst n=some p:=by
 cases h with
 | refl=>exact absurd hF (Nat.not_lt_zero _)
 | @step st1 _ r hk a=>
  obtain⟨n,c,W,S⟩:=sK O ht r hk;have h2:st1.k<st.k:=by lia
  have h3:st.k<=st1.k+1:=by cases a<;>simp
  obtain⟨p,hp⟩:=JS a S h2;exact⟨st1.k,n,c,p,S.ly,by lia,hp⟩
end S8
namespace S8
open PySem L2 SW S9
variable {W:List (T×List kh)}{ws0 ws ws':List Str}{bo:Bo}{t:T}
inductive SB(a:Nat):NT->Prop where
 | mk{k:Str}{x:V}{src:Str}{path:List Int}{ks:List NT}:(k="stamp"->(∃w,x=.str w/\jU w=some ks.length)/\1+fW ks<=5*a/\(x=.str "st"->1+fW ks<=a))->(∀n∈ks,SB a n)->SB a (.mk k x src path ks)
theorem SB.inv(h:SB a (.mk k x src path ks)):(k="stamp"->(∃w,x=.str w/\jU w=some ks.length)/\1+fW ks<=5*a/\(x=.str "st"->1+fW ks<=a))/\∀n∈ks,SB a n:=by cases h with|mk p q=>exact⟨p,q⟩
theorem SB.leaf{a:Nat}{k:Str}{x:V}{src:Str}{path:List Int}(h:k≠"stamp"):SB a (.mk k x src path []):=.mk (λz=>absurd z h) (by simp)
theorem ox:∀{ks:List NT},n∈ks->gO n<=fW ks
 | x::ks,h=>by
  rw[fW];rcases aB.mp h with rfl|h
  ·lia
  ·have:=ox h;lia
theorem uY:∀{ks:List NT}{i:Nat}{n:NT},ks[i]?=some n->fW (ks.set i m)+gO n=fW ks+gO m
 | [],_,_,h=>by simp at h
 | x::ks,0,n,h=>by cases h;simp only[cC,fW];lia
 | x::ks,i+1,n,h=>by have:=uY (m:=m) (ks:=ks) (i:=i) (n:=n) (by simpa using h);simp only[cf,fW];lia
theorem yH:∀{p:List Nat}{n m:NT},iC n p=some m->gO (iG n p m')+gO m=gO n+gO m'
 | [],n,m,e=>by cases n;cases e;rw[iG];lia
 | i::p,.mk k x src path ks,m,e=>by
  rw[iC]at e;cases e2:ks[i]? with
  | none=>rw[e2]at e;cases e
  | some n=>rw[e2]at e;have h1:=yH (m':=m') e;have h2:=uY (m:=iG n p m') e2;simp only[iG,e2,gO];lia
theorem Bj(hm:SB a m'):∀{p:List Nat}{n:NT},SB a n->fst n=some p->SB a (iG n p m')
 | [],n,_,_=>by cases n;exact hm
 | i::p,.mk k x src path ks,h,e=>by
  rcases qL e with⟨_,z⟩|⟨hk,j,q,m,e1,e2,e3⟩
  ·cases z
  ·cases e1;refine .mk (λz=>absurd z hk) λy hy=>?_;rw[e2]at hy;rcases dG hy with z|rfl
   ·exact h.inv.2 y z
   ·exact Bj hm (h.inv.2 m (aZ e2)) e3
theorem ve:∀{p:List Nat}{n m:NT},SB a n->iC n p=some m->SB a m
 | [],n,m,h,e=>by cases n;cases e;exact h
 | i::p,.mk k x src path ks,m,.mk h1 h2,e=>by
  rw[iC]at e;cases e2:ks[i]? with
  | none=>rw[e2]at e;cases e
  | some n=>rw[e2]at e;exact ve (h2 n (aZ e2)) e
theorem yQ:∀{p:List Nat}{n:NT},fst n=some p->∃m,iC n p=some m/\MR m
 | [],.mk k x src path ks,e=>by
  rcases qL e with⟨h,_⟩|⟨_,j,q,m,e1,_⟩
  ·exact⟨_,rfl,h⟩
  ·cases e1
 | i::p,.mk k x src path ks,e=>by
  rcases qL e with⟨_,z⟩|⟨hk,j,q,m,e1,e2,e3⟩
  ·cases z
  ·cases e1;obtain⟨m2,h1,h2⟩:=yQ e3;exact⟨m2,by rw[iC,e2];exact h1,h2⟩
theorem jM(hM:1<=M)(hg:∀w g,giv w=some g->gO g<=M):∀(t:T)(p:List Int)(o:Ow)(i:Nat),gO (nt c src giv t p o i)+t.names.length<=t.size+t.names.length*M
 | .num n,p,o,i=>by simp[nt,eQ,gO,fW,T.names,T.size]
 | .name w,p,o,i=>by
  simp only[nt,eQ,T.names,T.size,a5,bj];cases o w with
  | some x=>simp only[gO,fW];lia
  | none=>cases hw:giv w with
   | none=>simp only[gO,fW];lia
   | some g=>have:=hg w g hw;simp only;lia
 | .sum a b,p,o,i=>by have:=jM (c:=c) (src:=src) hM hg a (p++[0]) o (i+1);have:=jM (c:=c) (src:=src) hM hg b (p++[1]) o (i+1+a.size);simp only[nt,eQ,gO,fW,T.names,T.size,aE,aa];lia
 | .less a b,p,o,i=>by have:=jM (c:=c) (src:=src) hM hg a (p++[0]) o (i+1);have:=jM (c:=c) (src:=src) hM hg b (p++[1]) o (i+1+a.size);simp only[nt,eQ,gO,fW,T.names,T.size,aE,aa];lia
 | .cho a b d,p,o,i=>by have:=jM (c:=c) (src:=src) hM hg a (p++[0]) o (i+1);have:=jM (c:=c) (src:=src) hM hg b (p++[1]) o (i+1+a.size);have:=jM (c:=c) (src:=src) hM hg d (p++[2]) o (i+1+a.size+b.size);simp only[nt,eQ,gO,fW,T.names,T.size,aE,aa];lia
 | .lt w a b,p,o,i=>by have:=jM (c:=c) (src:=src) hM hg a (p++[0]) o (i+1);have:=jM (c:=c) (src:=src) hM hg b (p++[1]) (Ow.put o w (c+((i+1:Nat):Int))) (i+1+a.size);simp only[nt,eQ,gO,fW,T.names,T.size,aE,aa];lia
 | .st0 w,p,o,i=>by simp[nt,eQ,gO,fW,T.names,T.size]
 | .st1 w a,p,o,i=>by have:=jM (c:=c) (src:=src) hM hg a (p++[0]) o (i+1);simp only[nt,eQ,gO,fW,T.names,T.size];lia
 | .st2 w a b,p,o,i=>by have:=jM (c:=c) (src:=src) hM hg a (p++[0]) o (i+1);have:=jM (c:=c) (src:=src) hM hg b (p++[1]) o (i+1+a.size);simp only[nt,eQ,gO,fW,T.names,T.size,aE,aa];lia
def NO(a z:Nat)(S:Str->Nat->Prop):Prop:=(∀w k,S w k->k=0/\w≠"st")∨(z<=5*a/\((∀w k,S w k->w≠"st")∨z<=a))
theorem NO.le(h:NO a z S)(hz:z'<=z):NO a z' S:=by
 rcases h with h|⟨h,h2⟩
 ·exact .inl h
 ·exact .inr ⟨by lia,h2.imp id λq=>by lia⟩
theorem sn:("name":Str)≠"stamp":=by decide
theorem jN{giv:Gi}{c:Int}{src:Str}{a:Nat}{S:Str->Nat->Prop}(ha:1<=a)(hg:∀w g,giv w=some g->SB a g)(hS:∀w k,S w k->jU w=some k):∀(t:T)(p:List Int)(o:Ow)(i:Nat),WT S t->NO a (gO (nt c src giv t p o i)) S->SB a (nt c src giv t p o i)
 | .num n,p,o,i,_,_=>.leaf (by decide)
 | .name w,p,o,i,_,_=>by
  simp only[nt,eQ];cases o w with
  | some x=>exact .leaf sn
  | none=>cases hw:giv w with
   | none=>exact .leaf sn
   | some g=>exact hg w g hw
 | .sum x y,p,o,i,w,h=>by simp only[nt,eQ,gO,fW]at h;have h1:=jN (c:=c) (src:=src) ha hg hS x (p++[0]) o (i+1) w.1 (h.le (by lia));have h2:=jN (c:=c) (src:=src) ha hg hS y (p++[1]) o (i+1+x.size) w.2 (h.le (by lia));exact .mk (λz=>absurd z (by decide)) (by simp[h1,h2])
 | .less x y,p,o,i,w,h=>by simp only[nt,eQ,gO,fW]at h;have h1:=jN (c:=c) (src:=src) ha hg hS x (p++[0]) o (i+1) w.1 (h.le (by lia));have h2:=jN (c:=c) (src:=src) ha hg hS y (p++[1]) o (i+1+x.size) w.2 (h.le (by lia));exact .mk (λz=>absurd z (by decide)) (by simp[h1,h2])
 | .cho x y q,p,o,i,w,h=>by simp only[nt,eQ,gO,fW]at h;have h1:=jN (c:=c) (src:=src) ha hg hS x (p++[0]) o (i+1) w.1 (h.le (by lia));have h2:=jN (c:=c) (src:=src) ha hg hS y (p++[1]) o (i+1+x.size) w.2.1 (h.le (by lia));have h3:=jN (c:=c) (src:=src) ha hg hS q (p++[2]) o (i+1+x.size+y.size) w.2.2 (h.le (by lia));exact .mk (λz=>absurd z (by decide)) (by simp[h1,h2,h3])
 | .lt v x y,p,o,i,w,h=>by
  simp only[nt,eQ,gO,fW]at h;have h1:=jN (c:=c) (src:=src) ha hg hS x (p++[0]) o (i+1) w.2.1 (h.le (by lia));have h2:=jN (c:=c) (src:=src) ha hg hS y (p++[1]) (Ow.put o v (c+((i+1:Nat):Int))) (i+1+x.size) w.2.2 (h.le (by lia));exact .mk (λz=>absurd z (by decide)) (λn hn=>by
   simp only[aB,aG,or_false]at hn;rcases hn with rfl|rfl
   ·exact h1
   ·exact h2)
 | .st0 v,p,o,i,w,h=>by simp only[nt,eQ,gO,fW]at h⊢;exact .mk (λ_=>⟨⟨v,rfl,hS _ _ w⟩,by simp only[fW];lia,λ_=>by simp only[fW];lia⟩) (by simp)
 | .st1 v x,p,o,i,w,h=>by
  simp only[nt,eQ,gO,fW]at h;have h1:=jN (c:=c) (src:=src) ha hg hS x (p++[0]) o (i+1) w.2 (h.le (by lia));rcases h with h|⟨h,h3⟩
  ·exact absurd (h _ _ w.1).1 (by decide)
  ·refine .mk (λ_=>⟨⟨v,rfl,hS _ _ w.1⟩,by simp only[fW];lia,λe=>?_⟩) (by simp[h1]);rcases h3 with h3|h3
   ·cases e;exact absurd rfl (h3 _ _ w.1)
   ·simp only[fW];lia
 | .st2 v x y,p,o,i,w,h=>by
  simp only[nt,eQ,gO,fW]at h;have h1:=jN (c:=c) (src:=src) ha hg hS x (p++[0]) o (i+1) w.2.1 (h.le (by lia));have h2:=jN (c:=c) (src:=src) ha hg hS y (p++[1]) o (i+1+x.size) w.2.2 (h.le (by lia));rcases h with h|⟨h,h3⟩
  ·exact absurd (h _ _ w.1).1 (by decide)
  ·refine .mk (λ_=>⟨⟨v,rfl,hS _ _ w.1⟩,by simp only[fW];lia,λe=>?_⟩) (by simp[h1,h2]);rcases h3 with h3|h3
   ·cases e;exact absurd rfl (h3 _ _ w.1)
   ·simp only[fW];lia
structure xF(bo:Bo):Prop where
 w1:WT (λ_ _=>False) bo.x
 w2:WT (λw k=>w="star"/\k=0) bo.y
 w3:WT (λw k=>(w="star"/\k=0)∨(w="sta"/\k=1)) bo.z
 z1:bo.x.size<=4
 z2:bo.y.size<=8/\bo.y.names.length<=4
 z3:bo.z.size<=10/\bo.z.names.length<=5
theorem Fh:jU "star"=some 0:=if_pos rfl
theorem KR:jU "sta"=some 1:=by unfold jU;rw[if_neg (by decide),if_pos rfl]
theorem DN(K:xF bo)(B:yq bo w ks giv body):gO (nt c w giv body [] Ow.none 0)<=5*(1+fW ks):=by
 cases B with
 | star=>have:=jM (giv:=Dg) (c:=c) (src:="star") (aC 1) (λw g e=>by cases e) bo.x [] Ow.none 0;have:=K.z1;simp only[fW];lia
 | @sta g=>
  have hg:1<=gO g:=by cases g;rw[gO];lia
  have:=jM (giv:=Ge bo.e g) (c:=c) (src:="sta") (M:=gO g) hg (my (bo:=bo) .sta λn hn=>by rw[aF]at hn;rw[hn];exact aC _) bo.y [] Ow.none 0;obtain⟨z1,z2⟩:=K.z2;obtain⟨j,hj⟩:=Nat.le.dest hg;have h6:bo.y.names.length*gO g=bo.y.names.length+bo.y.names.length*j:=by rw[<-hj,cY,Nat.mul_one]
  have h7:=MI (M:=j) z2;simp only[fW];lia
 | @st g h=>
  have hg:1<=gO g:=by cases g;rw[gO];lia
  have hh:1<=gO h:=by cases h;rw[gO];lia
  obtain⟨j,hj⟩:=Nat.le.dest (show 2<=gO g+gO h by lia);have:=jM (giv:=Df bo.e g h) (c:=c) (src:="st") (M:=1+j) (by lia) (my (bo:=bo) .st λn hn=>by
   simp only[aB,aG,or_false]at hn;rcases hn with rfl|rfl<;>lia) bo.z [] Ow.none 0
  obtain⟨z1,z2⟩:=K.z3;rw[cY,Nat.mul_one]at this;have h7:=MI (M:=j) z2;simp only[fW];lia
theorem Kh(ha:1<=a)(K:xF bo)(B:yq bo w ks giv body)(h:SB a (.mk "stamp" (.str w) src path ks)):SB a (nt c w giv body [] Ow.none 0):=by
 have hz:=DN (c:=c) K B;have hg:=my B h.inv.2;have hi:=h.inv.1 rfl;cases B with
 | star=>exact jN ha hg (λw k z=>z.elim) bo.x [] Ow.none 0 K.w1 (.inl λw k z=>z.elim)
 | sta=>exact jN ha hg (λw k z=>by obtain⟨rfl,rfl⟩:=z;exact Fh) bo.y [] Ow.none 0 K.w2 (.inl λw k z=>⟨z.2,by rw[z.1];decide⟩)
 | st=>have:=hi.2.2 rfl;exact jN ha hg (λw k z=>by rcases z with⟨rfl,rfl⟩|⟨rfl,rfl⟩;exact Fh;exact KR) bo.z [] Ow.none 0 K.w3 (.inr ⟨by lia,.inl λw k z=>by rcases z with⟨rfl,_⟩|⟨rfl,_⟩<;>decide⟩)
theorem ug(K:xF bo)(w:WT SF t)(h:Ly bo t k n c):SB t.size n/\gO n<=t.size+k*(20*t.size):=by
 have ha:=t.size_pos;induction h with
 | zero=>
  have:=jM (giv:=Dg) (c:=0) (src:="") (aC 1) (λw g e=>by cases e) t [] Ow.none 0;have hz:gO (nt 0 "" Dg t [] Ow.none 0)<=t.size:=by lia
  exact⟨jN ha (λw g e=>by cases e) (λw k z=>z) t [] Ow.none 0 w (.inr ⟨by lia,.inr hz⟩),by lia⟩
 | @succ k n c p w src path ks giv body _ f1 g1 B ih=>have sm:=ve ih.1 g1;have h1:=DN (c:=c) K B;have h2:=yH (m':=nt c w giv body [] Ow.none 0) g1;have h3:=(sm.inv.1 rfl).2.1;have h4:=ih.2;refine⟨Bj (Kh ha K B sm) ih.1 f1,?_⟩;rw[aa,bj];simp only[gO]at h2;lia
theorem ML(K:xF bo)(w:WT SF t)(h:Ly bo t k n c)(e:fst n=some p):∃w src path ks giv body,iC n p=some (.mk "stamp" (.str w) src path ks)/\yq bo w ks giv body:=by
 obtain⟨m,h1,h2⟩:=yQ e;have sm:=ve (ug K w h).1 h1;obtain⟨k',x,src,path,ks⟩:=m;have h2:k'="stamp":=h2;subst h2;obtain⟨⟨v,rfl,hf⟩,_⟩:=sm.inv.1 rfl;unfold jU at hf;split at hf
 ·rename_i hv;subst hv;cases ks with
  | nil=>exact⟨_,_,_,_,_,_,h1,.star⟩
  | cons=>simp at hf
 ·split at hf
  ·rename_i hv;subst hv
   match ks,hf with
   | [g],_=>exact⟨_,_,_,_,_,_,h1,.sta⟩
  ·split at hf
   ·rename_i hv;subst hv
    match ks,hf with
    | [g,h],_=>exact⟨_,_,_,_,_,_,h1,.st⟩
   ·cases hf
theorem CQ(h:tT bo true rd ws s s' rd' ws')(o:s.ok (Rf rd)):
  ∃x,rd'=rd++x/\ku x<=s.wt 0/\mF x<=ku x/\ws'.length<=ws.length+mF x:=by
 cases h with
 | star e=>exact⟨[],(aX _).symm,aS _,aC _,aC _⟩
 | @sta a m _ _ e h1=>
  have ok1:(s.kid 0 a).ok (Rf rd):=jw o (by rw[e];simp[T.kids]);obtain⟨x,rfl,h2,h3,h4⟩:=sY h1 ok1;have ew:s.wt 0=1+(s.kid 0 a).wt 0:=by unfold eC.wt;rw[e];rfl
  exact⟨x,rfl,by lia,h3,h4⟩
 | @st a b m n rd1 rd2 ws1 ws2 e h1 h2=>
  have ok1:(s.kid 0 a).ok (Rf rd):=jw o (by rw[e];simp[T.kids]);have ok2:(s.kid 1 b).ok (Rf rd):=jw o (by rw[e];simp[T.kids]);obtain⟨x,rfl,x2,x3,x4⟩:=sY h1 ok1;have ok3:(s.kid 1 b).ok (Rf (rd++x)):=eC.ok_mono (Rf.mono x) ok2;obtain⟨y,rfl,y2,y3,y4⟩:=sY h2 ok3;have ew:s.wt 0=1+(s.kid 0 a).wt 0+(s.kid 1 b).wt 0:=by unfold eC.wt;rw[e];rfl
  refine⟨x++y,aW _ _ _,?_,?_,?_⟩
  ·rw[jj];lia
  ·rw[jj,jk];lia
  ·rw[jk];lia
structure PY(B w0:Nat)(st:oH):Prop where
 wt:lP 0 st.S+kr st.R<=B
 rd:ku st.rd<=st.k*B
 sl:mF st.rd<=ku st.rd
 ws:st.ws.length<=w0+st.R.length+mF st.rd
theorem By{F B n1:Nat}{st0 st:oH}(BK:tW bo)(hB:∀st,tR bo F st0 st->st.k<=F->lP 0 st.S+kr st.R<=B)(h:tR bo F st0 st)(I:eM F n1 st0)(z1:st0.rd=[])(z2:st0.R=[]):st.k<=F->PY B st0.ws.length st:=by
 induction h with
 | refl=>intro hk;exact⟨hB _ .refl hk,by rw[z1];exact aS _,by rw[z1];exact aC _,by lia⟩
 | @step st1 st2 r hk1 a ih=>
  intro hk;have hB2:=hB _ (.step r hk1 a) hk;have I1:=oq BK r I;have J:=ih hk1;cases a with
  | @take S Q s R rs k ws ws' rd a=>have h2:=Ae a;obtain⟨j1,j2,j3,j4⟩:=J;exact⟨hB2,j2,j3,by simp only[aE]at j4⊢;lia⟩
  | @opn S s s' R k ws ws' rd rd' a=>
   have hk:k+1<=F:=hk;rw[show decide (k+1<=F)=true from decide_eq_true hk]at a;have os:=I1.so s (aL _ (.head _));obtain⟨x,rfl,h2,h3,h4⟩:=CQ a os;obtain⟨j1,j2,j3,j4⟩:=J;simp only[fe,gS]at j1 j2 j3 j4;refine⟨hB2,?_,?_,?_⟩
   ·show ku (rd++x)<=(k+1)*B;rw[jj,aa,bj];lia
   ·show mF (rd++x)<=ku (rd++x);rw[jj,jk];lia
   ·show ws'.length<=_+R.length+mF (rd++x);rw[jk];lia
theorem Be{F k:Nat}{st:oH}(K:xF bo)(BK:tW bo)(w:WT SF t)(bt:BT t [] 0)(O:wz bo ws0)(ht:∀w,t.out w->w∈ws0)(hz:t.size<=40)(hw:ws0.length<=252)(hK:∀j n c,Ly bo t j n c->j<=F->j<=10)(h:tR bo F (st0 t ws0) st)(hk:st.k<=F):DW st:=by
 have bound:∀st,tR bo F (st0 t ws0) st->st.k<=F->st.k<=10/\lP 0 st.S+kr st.R<=10000:=λst h hk=>by obtain⟨n,c,W,S⟩:=sK O ht h hk;have h1:=hK _ _ _ S.ly hk;have h2:=(ug K w S.ly).2;have h3:=K5 S.tr;rw[kW,K1,K0,rN]at h3;have h4:st.k*(20*t.size)<=10*(20*t.size):=bU _ h1;lia
 have I:=kO (F:=F) (ws:=ws0) bt;have J:=By BK (λst h hk=>(bound st h hk).2) h I rfl rfl hk;obtain⟨h1,h2⟩:=bound st h hk;have h3:=kU (oq BK h I).ro;obtain⟨j1,j2,j3,j4⟩:=J;have j4:st.ws.length<=ws0.length+st.R.length+mF st.rd:=j4;have h4:st.k*10000<=10*10000:=bU _ h1;refine⟨by lia,by lia,by lia,λR hR=>?_⟩;have:=uJ hR;lia
end S8
namespace L2
open PySem PySem.Spec PyProof.Rows
section
variable {prog:Program}{w:World}{A:Around}{s:Shared}{R:Result->Shared->Prop}
theorem tH(J:Nat->Shared->Prop)
  (turn:∀n s,J n s->wpAny (model prog w) A (pyNext it) (λr s1=>match r with
   | none=>R (.ok .next) s1
   | some v=>wpAny (model prog w) A (letOwnedTupleGo tg it v) (λ_ s2=>wpAny (model prog w) A (assign tg env v) (λ_ s3=>wpAny (model prog w) A (forIn ifs true λc r=>if r=true then do let ok <- isTrue c env (eval c env);pure (ForInStep.yield ok)else pure (ForInStep.yield r)) (λok s6=>if ok=true then wpAny (model prog w) A (eval elt env) (λx s4=>
     wpAny (model prog w) A (call (.builtin "list.append") [acc,x]) (λ_ s5=>∃m,m<n/\J m s5) (notedBy (model prog w) A env λe s'=>R (.error e) s') s4) (notedBy (model prog w) A env λe s'=>R (.error e) s') s6 else ∃m,m<n/\J m s6) (notedBy (model prog w) A env λe s'=>R (.error e) s') s3) (notedBy (model prog w) A env λe s'=>R (.error e) s') s2) (notedBy (model prog w) A env λe s'=>R (.error e) s') s1) (notedBy (model prog w) A env λe s'=>R (.error e) s') s)
  (n:Nat) (h:J n s):codeAny (model prog w) A (.compLoop (.ListComp elt [⟨tg,iter,ifs,0⟩] scope pos) 0 it acc env) R s:=by
 refine codeAny_loop rfl J (λn s hJ=>?_) n h;show wpAny _ A ((compTurn (.ListComp elt [⟨tg,iter,ifs,0⟩] scope pos) 0 it acc env).onRaise (λx=>do noteFrame x env;theTreesLotGoes x)) _ _ s;refine wpAny_noted ?_;rw[compTurn_list];refine wpAny_bind (wpAny_standAt (wpAny_bind (wpAny_mono (turn n s hJ) (λr s1 h1=>?_) λ_ _ z=>z)));cases r with
 | none=>exact wpAny_pure h1
 | some v=>
  refine wpAny_bind (wpAny_mono h1 (λ_ s2 h2=>wpAny_bind (wpAny_mono h2 (λ_ s3 h3=>wpAny_bind (wpAny_mono h3 (λok s6 h6=>?_) λ_ _ z=>z)) λ_ _ z=>z)) λ_ _ z=>z);cases ok with
  | false=>exact wpAny_pure ⟨rfl,h6⟩
  | true=>exact wpAny_bind (wpAny_bind (wpAny_mono h6 (λx s4 h4=>wpAny_bind (wpAny_mono h4 (λ_ s5 h5=>wpAny_pure (wpAny_pure ⟨rfl,h5⟩)) λ_ _ z=>z)) λ_ _ z=>z))
end
def NP(X:Cx)(ifs:List Expr)(t:TT):Prop:=
 ∀(pins:List (Addr×Obj))(s:Shared)(σ:St)(H:Hp)(Q:Bool->Hp->Prop),eM X pins σ H s->t σ H Q->wpAny (model X.prog X.w) X.A (forIn ifs true λc r=>if r=true then do let ok <- isTrue c X.env (eval c X.env);pure (ForInStep.yield ok)else pure (ForInStep.yield r)) (TP X pins σ Q) X.xe s
def JR:TT:=λ_ H Q=>Q true H
theorem yC:NP X [] JR:=λpins s σ H Q I h=>wpAny_tests_nil ⟨H,I,h⟩
theorem yB(h:PT X c t):NP X [c] t:=λpins s σ H Q I z=>wpAny_tests_one (h pins s σ H Q I z)
def BQ(k:Nat)(wi:TI)(g:TG)(tt:TT)(te:TE)(js:List Nat):TE:=λσ H Q=>wi σ H λJ H1=>∃W:Nat->Nat->List V->Hp->Prop,(∃m,W 0 m [] H1)/\∀i m vs H,W i m vs H->
 (J.stop i H/\vs.length<=sizeLine/\kL H (.lst vs) Q)∨
 (J.go i H/\∀x H',J.yld i H x H'->∀os:St,os.length=k->g x (os++AT σ js) H' λσ2 H2=>(∃os:St,os.length=k/\σ2=os++AT σ js)/\tt σ2 H2 λc H3=>if c=true then te σ2 H3 λy H''=>vs.length<sizeLine/\∃m',m'<m/\W (i+1) m' (vs++[y]) H'' else ∃m',m'<m/\W (i+1) m' vs H3)
theorem Fa{use:Option (Value->Sem Unit)}{Q':Value->Shared->Prop}{cpos:Pos}{pins:List (Addr×Obj)}{s:Shared}{σ:St}{H:Hp}{Q:VK}(hc:X.calm=true)(S:iq X scope cl (x::xr) ys js)(hi:PI X tg iter wi)
  (hg:∀(fp:List Addr)(s:Shared)(H:Hp)(C:Addr),PG (gn X scope cl (x::(xr++ys)) fp s H C) tg g)
  (ht:∀(fp:List Addr)(s:Shared)(H:Hp)(C:Addr),NP (gn X scope cl (x::(xr++ys)) fp s H C) ifs tt)
  (he:∀(fp:List Addr)(s:Shared)(H:Hp)(C:Addr),PE (gn X scope cl (x::(xr++ys)) fp s H C) elt te) (hs:∀x,foldedSetIterable iter X.env x=pure x) (I:eM X pins σ H s) (h:BQ (x::xr).length wi g tt te js σ H Q)
  (fk:∀(D C:Addr)(s2 s4:Shared)(H2 Hn:Hp),eM X pins σ H2 s2->s2.heap.objs.size<=C->(∃m,s4.heap.Ns C m)->Hn C=none->(∀h'',Heap.SameBut C s4.heap h''->eM X pins σ Hn {s4 with heap:=h''})->Q (.ref D) Hn->compPost (model X.prog X.w) X.A X.xe use Q' (.ref D) C (.ok .next) s4):
  wpAny (model X.prog X.w) X.A (comprehension (.ListComp elt [⟨tg,iter,ifs,0⟩] scope pos) scope X.env cpos (newList []) false (eval iter X.env) use) Q' X.xe s:=by
 refine wpAny_comprehension_free (use:=use) rfl hs S.clos S.kind S.names (thn (hi pins s σ H _ I h) λv s1 h1=>thn h1 λitv s2 h2=>?_);obtain⟨it,fp,tn,J,H2,e,I2,T,st2,f2,W,⟨m0,w0⟩,turn⟩:=h2;subst e;have fpb:∀b∈fp,b<s2.heap.objs.size:=λb hb=>by obtain⟨o,e,_⟩:=T.obj _ _ st2 b hb;exact Heap.lt_size e
 refine wpAny_newObj_type (wpAny_newFunctionEnv S.ncell (by intro y hy;simp at hy) (λh₁ hns₁ hsb₁=>?_) S.kind);dsimp only at hns₁ hsb₁⊢;generalize hH2:s2.heap.push {cls:=.type "list",dict:=none,data:=.seq ([]:List Value).toArray}=G2 at hns₁ hsb₁⊢;have hC:G2.objs.size=s2.heap.objs.size+1:=by rw[<-hH2,Heap.size_push]
 have hDC:s2.heap.objs.size≠G2.objs.size:=by rw[hC];exact aJ (aq _)
 have hCle:s2.heap.objs.size<=G2.objs.size:=by rw[hC];exact bK _
 have below:∀b,b<s2.heap.objs.size->b≠G2.objs.size/\b≠s2.heap.objs.size:=λb hb=>⟨by rw[hC];exact aJ (Nat.lt_succ_of_lt hb),aJ hb⟩;have old:∀b o,s2.heap.get? b=some o->h₁.get? b=some o:=λb o e=>hsb₁.extBut b o (below b (Heap.lt_size e)).1 (Heap.get?_push_of_some _ (hH2▸Heap.get?_push_of_some _ e));have hacc:h₁.get? s2.heap.objs.size=some (mh [] 0):=hsb₁.extBut _ _ hDC (Heap.get?_push_of_some _ (hH2▸Heap.get?_push_size _ rfl));have st4:tn 0 h₁:=T.keep _ _ _ st2 λb _ o e=>old b o e;have I4:=λ(t':Nat)=>I2.compInT (t':=t') S f2 fpb hCle (aC _) hDC old hns₁ hacc;have loop:∀t':Nat,codeAny (model X.prog X.w) X.A (.compLoop (.ListComp elt [⟨tg,iter,ifs,0⟩] scope pos) 0 (.ref it) (.ref s2.heap.objs.size) (compEnvC scope cl G2.objs.size X.env))
   (compPost (model X.prog X.w) X.A X.xe use Q' (.ref s2.heap.objs.size) G2.objs.size) {s2 with heap:=h₁,toks:=t'}:=by
  intro t';refine tH (λn s'=>∃(i:Nat)(os:St)(H':Hp)(vs:List V)(its:List Value)(c:Nat),os.length=(x::xr).length/\eM (gn X scope cl (x::(xr++ys)) fp s2 H2 G2.objs.size) ((X.pn++pins)++[(s2.heap.objs.size,mh its c)]) (os++AT σ js) H' s'/\tn i s'.heap/\(∀b∈fp,H' b=none)/\eu vs its/\W i n vs H') ?_ m0
   ⟨0,List.replicate (x::xr).length none,H2,[],[],0,cK,I4 t',st4,λb hb=>(f2 b hb).1,.nil,w0⟩
  rintro n s3 ⟨i,os,H3,vs,its,c,hos,I3,st3,fr3,rv,w3⟩;have stat:∀{H':Hp}{its':List Value}{c':Nat},(∀b∈fp,H' b=none)->∀b∈fp,oa (gn X scope cl (x::(xr++ys)) fp s2 H2 G2.objs.size) ((X.pn++pins)++[(s2.heap.objs.size,mh its' c')]) H' b:=λhn b hb=>by
   obtain⟨_,h1,h2,h3,h4,h5⟩:=f2 b hb;refine⟨hn b hb,(below b (fpb b hb)).1,I2.nostk h1 h2,.inl hb,λy c e=>h4 y c (S.cells y c e),λp hp=>?_⟩;rcases aQ.mp (show p∈(X.pn++pins)++[(s2.heap.objs.size,_)]from hp)with z|z
   ·exact h5 p z
   ·rw[aF]at z;subst z;exact ac (below b (fpb b hb)).2
  rcases turn i n vs H3 w3 with⟨stop,hz,q⟩|⟨go,step⟩
  ·refine thn (T.done (gn X scope cl (x::(xr++ys)) fp s2 H2 G2.objs.size) rfl rfl rfl hc i _ s3 _ H3 _ I3 (stat fr3) st3 stop) λr s4 hz=>?_;obtain⟨hr,I5⟩:=hz;subst hr;obtain⟨mm,hn,_⟩:=I5.loc;have pD:=(I5.pin _ (aL _ (aL _ (aF.mpr rfl)))).2.1;exact fk _ _ s2 s4 H2 _ I2 hCle ⟨mm,hn⟩ (by rw[dY (ac hDC)];exact I5.free) (λh'' hs''=>I2.compOut f2 hCle (aC _) hDC I5 (aL _ (aF.mpr rfl)) rv hz hs'') (q _ pD)
  ·refine thn (T.item (gn X scope cl (x::(xr++ys)) fp s2 H2 G2.objs.size) rfl rfl rfl hc i _ s3 _ H3 _ I3 (stat fr3) st3 go) λr s4 hz=>?_;obtain⟨u,hr,h4⟩:=hz;subst hr;refine thn h4 λ_ s5 hz=>?_;obtain⟨xv,H5,I5,r5,y5,st5,fr5⟩:=hz;have I5':=I5.pinned (stat fr5) (T.obj _ _ st5);refine wpAny_mono (hg fp s2 H2 G2.objs.size _ s5 _ H5 xv u _ I5' r5 (step xv H5 y5 os hos)) (λ_ s6 hz=>?_) (λ_ _ z=>False.elim z);obtain⟨σ6,H6,I6,⟨ps,hps,e6⟩,h6⟩:=hz;subst e6;refine wpAny_mono (ht fp s2 H2 G2.objs.size _ s6 _ _ _ I6 h6) (λok s6 hz=>?_) (λ_ _ z=>False.elim z);obtain⟨H6,I6,h6⟩:=hz;cases ok with
   | false=>
    obtain⟨m',hm,w7⟩:=h6;have I7a:eM (gn X scope cl (x::(xr++ys)) fp s2 H2 G2.objs.size) ((X.pn++pins)++[(s2.heap.objs.size,mh its c)]) (ps++AT σ js) H6 s6:=I6.pins_of λp hp=>I6.pin p (aL _ (ae _ hp));have pfp:∀b∈fp,∀o,s5.heap.get? b=some o->s6.heap.get? b=some o/\H6 b=none:=λb hb o e=>by have z:=I6.pin (b,o) (aL _ (aL _ (ke hb e)));exact⟨z.1,z.2.1⟩
    refine⟨m',hm,i+1,ps,H6,vs,its,c,hps,I7a,T.keep _ _ _ st5 λb hb o e=>(pfp b hb o e).1,λb hb=>?_,rv,w7⟩;obtain⟨o,e,_⟩:=T.obj _ _ st5 b hb;exact(pfp b hb o e).2
   | true=>
   have h6:=h6;refine wpAny_mono (he fp s2 H2 G2.objs.size _ s6 _ _ _ I6 h6) (λy s7 hz=>?_) (λ_ _ z=>False.elim z);obtain⟨yv,H7,I7,r7,hz,m',hm,w7⟩:=hz;have mD:(s2.heap.objs.size,mh its c)∈(X.pn++pins)++[(s2.heap.objs.size,mh its c)]:=aL _ (aF.mpr rfl);have pD:=I7.pin (s2.heap.objs.size,mh its c) (aL _ (ae _ mD));have pfp:∀b∈fp,∀o,s5.heap.get? b=some o->s7.heap.get? b=some o/\H7 b=none:=λb hb o e=>by have z:=I7.pin (b,o) (aL _ (aL _ (ke hb e)));exact⟨z.1,z.2.1⟩
   refine append_at pD.1 (λh8 hs8 hD8=>?_) (by rw[aM,<-rv.length];exact bI hz);have I7a:eM (gn X scope cl (x::(xr++ys)) fp s2 H2 G2.objs.size) (X.pn++pins) (ps++AT σ js) H7 s7:=I7.pins_of λp hp=>I7.pin p (aL _ (ae _ (ae _ hp)));have I8:=I7a.turned (t':=s7.toks) (it:=s2.heap.objs.size) (λb o hb e=>(hs8.2 b hb).trans e) pD.2.1 pD.2.2.1 (.inr (aC _)) (λz cc e=>by
     obtain⟨v,o,e1,e2⟩:=I2.cell z cc (S.cells z cc e);exact aJ (Heap.lt_size e1)) (λp hp=>by
     obtain⟨e1,_⟩:=I2.pin p hp;exact aJ (Heap.lt_size e1))
   refine⟨m',hm,i+1,ps,H7,vs++[yv],its++[y],c+1,hps,I8.pins_of λp hp=>?_,?_,λb hb=>?_,eu.append rv (.cons r7 .nil),w7⟩
   ·rcases aQ.mp hp with z|z
    ·exact I8.pin p (aL _ z)
    ·rw[aF]at z;subst z;refine⟨?_,pD.2.1,pD.2.2.1,pD.2.2.2.1,λv z=>by cases(show Data.seq _ _=Data.cell v from z)⟩;rw[show mh (its++[y]) (c+1)={cls:=.type "list",data:=.seq (its.toArray.push y) (c+1)} by unfold mh;rw[List.push_toArray]];exact hD8
   ·exact T.keep _ _ _ st5 λb hb o e=>(hs8.2 b (aJ (fpb b hb))).trans (pfp b hb o e).1
   ·obtain⟨o,e,_⟩:=T.obj _ _ st5 b hb;exact(pfp b hb o e).2
 exact codeAny_compStart_list (loop _) (T.self _ 0 _ _ _ st4 (loop _))
theorem sM(hc:X.calm=true)(S:iq X scope cl (x::xr) ys js)(hi:PI X tg iter wi)
  (hg:∀(fp:List Addr)(s:Shared)(H:Hp)(C:Addr),PG (gn X scope cl (x::(xr++ys)) fp s H C) tg g)
  (ht:∀(fp:List Addr)(s:Shared)(H:Hp)(C:Addr),NP (gn X scope cl (x::(xr++ys)) fp s H C) ifs tt)
  (he:∀(fp:List Addr)(s:Shared)(H:Hp)(C:Addr),PE (gn X scope cl (x::(xr++ys)) fp s H C) elt te) (hs:∀x,foldedSetIterable iter X.env x=pure x:=by intro _;rfl):
  PE X (.ListComp elt [⟨tg,iter,ifs,0⟩] scope pos) (BQ (x::xr).length wi g tt te js):=by
 intro pins s σ H Q I h;rw[eval_ListComp];exact Fa hc S hi hg ht he hs I h λD C s2 s4 H2 Hn I2 hC hn hCn hI q=>hn.elim λm hn=>⟨m,hn,λh'' hs''=>⟨.ref D,_,hI h'' hs'',rfl,q⟩⟩
def Qf(wi:TI):TI:=λσ H R=>∃R0,wi σ H R0/\∀J H',R0 J H'->R J H'
theorem GS(h:PI X tg iter wi):PI X tg iter (Qf wi):=λpins s σ H R I ⟨R0,h1,h2⟩=>
 thn (h pins s σ H R0 I h1) λv s1 h3=>thn h3 λitv s2 ⟨it,fp,tn,J,H',e,I',T,st,f,r⟩=>⟨it,fp,tn,J,H',e,I',T,st,f,h2 _ _ r⟩
theorem CL(hc:X.calm=true)(S:iq X scope cl [x] ys js)(hi:PI X (.Name x px) iter wi)
  (he:∀(fp:List Addr)(s:Shared)(H:Hp)(C:Addr),PE (gn X scope cl (x::ys) fp s H C) elt te) (nd:(x::ys).Nodup:=by decide) (loc:scope.names.lookup x=some .local:=by rfl) (hs:∀x,foldedSetIterable iter X.env x=pure x:=by intro _;rfl):
  PE X (.ListComp elt [⟨.Name x px,iter,[],0⟩] scope pos) (OG wi te js):=by
 intro pins s σ H Q I h;refine sM (xr:=[]) hc S (GS hi) (λfp s H C=>kc (i:=0) nd rfl (av (lookup_relabel_local loc)) (.inr (lookup_relabel_local loc))) (λfp s H C=>yC) he hs pins s σ H Q I ⟨_,h,λJ H1 z=>?_⟩;obtain⟨W,w0,turn⟩:=z;refine⟨W,w0,λi m vs H w=>(turn i m vs H w).imp id λz=>⟨z.1,λx H' y os hos=>?_⟩⟩
 match os,hos with
 | [o],_=>have q:=z.2 x H' y;refine⟨⟨[some x],rfl,rfl⟩,?_⟩;unfold JR;dsimp only;rw[if_pos rfl];exact q
theorem Ji(hc:X.calm=true)(S:iq X scope cl [x,x2] ys js)(hi:PI X tg iter wi)
  (hg:∀(fp:List Addr)(s:Shared)(H:Hp)(C:Addr),PG (gn X scope cl (x::x2::ys) fp s H C) tg g) (hgm:∀v σ H (Q Q':St->Hp->Prop),g v σ H Q->(∀σ' H',Q σ' H'->Q' σ' H')->g v σ H Q')
  (he:∀(fp:List Addr)(s:Shared)(H:Hp)(C:Addr),PE (gn X scope cl (x::x2::ys) fp s H C) elt te) (hs:∀x,foldedSetIterable iter X.env x=pure x:=by intro _;rfl):
  PE X (.ListComp elt [⟨tg,iter,[],0⟩] scope pos) (LJ wi g te js):=by
 intro pins s σ H Q I h;refine sM (xr:=[x2]) hc S (GS hi) hg (λfp s H C=>yC) he hs pins s σ H Q I ⟨_,h,λJ H1 z=>?_⟩;obtain⟨W,w0,turn⟩:=z;refine⟨W,w0,λi m vs H w=>(turn i m vs H w).imp id λz=>⟨z.1,λx H' y os hos=>?_⟩⟩
 match os,hos with
 | [o1,o2],_=>refine hgm _ _ _ _ _ (z.2 x H' y o1 o2) λσ' H2 q=>?_;obtain⟨⟨p1,p2,e⟩,q⟩:=q;refine⟨⟨[p1,p2],rfl,e⟩,?_⟩;unfold JR;dsimp only;rw[if_pos rfl];exact q
theorem qJ{L:List (Str×NameKind)}{cl:List (Str×Addr)}{y:Str}(hL:∀p∈L,p.2=.cell∨p.2=.free->∃c,cl.lookup p.1=some c)(h:L.lookup y=some .cell∨L.lookup y=some .free):∃c,cl.lookup y=some c:=by
 have key:∀{k:NameKind}{L:List (Str×NameKind)},L.lookup y=some k->(y,k)∈L:=by
  intro k L;induction L with
  | nil=>intro h;cases h
  | cons p L ih=>
   intro h;rw[List.lookup_cons]at h;cases e:y==p.1 with
   | true=>rw[e]at h;cases h;have:=eq_of_beq e;subst this;exact .head _
   | false=>rw[e]at h;exact .tail _ (ih h)
 rcases h with h|h
 ·exact hL _ (key h) (.inl rfl)
 ·exact hL _ (key h) (.inr rfl)
end L2
namespace SW
open PySem L2
end SW
namespace S3
open PySem L2 SW
end S3
namespace SW
open PySem L2
theorem gf.get:∀{ns:List NT}{us:List V}{i:Nat}{n:NT},gf H ns us->ns[i]?=some n->∃u,us[i]?=some u/\lv H n u
 | _,_,0,_,.cons a r,h=>by cases h;exact⟨_,rfl,a⟩
 | _,_,i+1,_,.cons a r,h=>gf.get (i:=i) r h
end SW
namespace S3
open PySem L2 SW
variable {K:aA}{vs:List V}{H H₀:Hp}{Q:VK}{E:XK}
end S3
namespace S8
open PySem L2 SW S9
theorem nw(h:H p=none):∃H1,dq H H1/\H1 p=some o/\upd H p o=H1:=⟨_,dS h,dP,rfl⟩
theorem uu{n:Nat}{tb:TS}{D:fz}{σ:St}{H:Hp}{k:Nat}(Pv:Nat->St->Hp->Prop)(h0:Pv n σ H)(hs:∀i σ H,i<n->Pv (i+1) σ H->tb (D.lp (Pv i)) (σ.set k (some (.int (i:Int)))) H)(hd:∀σ H,Pv 0 σ H->D.nx σ H):
  ∃W:Nat->Nat->St->Hp->Prop,(∃m,W 0 m σ H)/\∀i m σ H,W i m σ H->
   ((Kx ((n:Int)-1) n).stop i H/\D.nx σ H)∨((Kx ((n:Int)-1) n).go i H/\∃N:St->Hp->Prop,(∀σ' H',N σ' H'->∃m',m'<m/\W (i+1) m' σ' H')/\∀x H',(Kx ((n:Int)-1) n).yld i H x H'->dR k x σ H' λσ2 H2=>tb (D.lp (N)) σ2 H2):=by
 refine⟨λi m σ H=>m=n-i/\i<=n/\Pv (n-i) σ H,⟨n,by simp,aS _,h0⟩,?_⟩;rintro i m σ H ⟨rfl,hi,p⟩;by_cases e:i=n
 ·subst e;rw[bB]at p;exact .inl ⟨aC _,hd σ H p⟩
 ·refine .inr ⟨show i<n by lia,Pv (n-(i+1)),λσ' H' z=>⟨n-(i+1),by lia,rfl,by lia,z⟩,?_⟩;rintro x H' ⟨rfl,rfl⟩;rw[show n-i=n-(i+1)+1 by lia]at p;rw[show(n:Int)-1-(i:Int)=((n-(i+1):Nat):Int) by lia];exact hs (n-(i+1)) σ H' (by lia) p
theorem pL(n:Nat):((n:Int)-1 - -1).toNat=n:=by lia
def kN(q:List Nat):Nat->List NT->List (NT×List Nat)
 | _,[]=>[]
 | i,n::ns=>(n,q++[i])::kN q (i+1) ns
def ur:List (NT×List Nat)->Option (List Nat)
 | []=>none
 | (n,q)::r=>match fst n with
  | some p=>some (q++p)
  | none=>ur r
theorem rA(q:List Nat)(r:List (NT×List Nat)):∀(ks:List NT)(i:Nat),ur (kN q i ks++r)=match ja ks i with|some p=>some (q++p)|none=>ur r
 | [],i=>by rw[ja];rfl
 | n::ns,i=>by
  rw[kN,aN,ur,ja];cases fst n with
  | some p=>simp
  | none=>exact rA q r ns (i+1)
theorem nc(q:List Nat):∀(ks:List NT)(i:Nat),(kN q i ks).length=ks.length
 | [],_=>rfl
 | _::ns,i=>by simp[kN,nc q ns]
theorem qx(q:List Nat):∀(ks:List NT)(i j:Nat)(n:NT),ks[j]?=some n->(kN q i ks)[j]?=some (n,q++[i+j])
 | m::ns,i,0,n,h=>by cases h;rfl
 | m::ns,i,j+1,n,h=>by have:=qx q ns (i+1) j n (by simpa using h);rw[kN,List.getElem?_cons_succ,this,show i+1+j=i+(j+1) by lia]
def uI(S:List (NT×List Nat)):Nat:=(S.map λx=>gO x.1).sum
theorem kY(a b:List (NT×List Nat)):uI (a++b)=uI a+uI b:=by simp[uI]
theorem rY(x:NT×List Nat):uI [x]=gO x.1:=by simp[uI]
theorem xY(a:List (NT×List Nat)):uI a.reverse=uI a:=by simp[uI]
theorem pN(q:List Nat):∀(ks:List NT)(i:Nat),uI (kN q i ks)=fW ks
 | [],_=>rfl
 | n::ns,i=>by have:=pN q ns (i+1);simp only[uI,kN,aV,b9,fW]at this⊢;rw[this]
theorem yI(n:NT):1<=gO n:=by cases n;rw[gO];lia
theorem xZ:∀S:List (NT×List Nat),S.length<=uI S
 | []=>aC _
 | x::S=>by have:=xZ S;have:=yI x.1;simp only[uI,aV,b9,aD]at *;lia
theorem mf:∀ks:List NT,ks.length<=fW ks
 | []=>aS _
 | n::ks=>by have:=mf ks;have:=yI n;rw[fW,aD];lia
def pV(q:List Nat):List V:=q.map λi:Nat=>V.int (i:Int)
theorem zk(a b:List Nat):pV (a++b)=pV a++pV b:=by simp[pV]
def AQ(H₀ H:Hp)(tl:Addr)(B:Nat)(x:NT×List Nat)(v:V):Prop:=∃(q pl:Addr)(u:V),v=.ref q/\H q=some (.tup [u,.ref pl])/\lv H₀ x.1 u/\pl≠tl/\H pl=some (.lst (pV x.2))/\x.2.length+gO x.1<=B
theorem AQ.same(s:dq H H')(h:AQ H₀ H tl B x v):AQ H₀ H' tl B x v:=by obtain⟨q,pl,u,e,h1,h2,h3,h4,h5⟩:=h;exact⟨q,pl,u,e,s _ _ h1,h2,h3,s _ _ h4,h5⟩
theorem AQ.lst(ht:H tl=some (.lst us))(h:AQ H₀ H tl B x v):AQ H₀ (upd H tl o) tl B x v:=by obtain⟨q,pl,u,e,h1,h2,h3,h4,h5⟩:=h;exact⟨q,pl,u,e,fA ht _ _ h1,h2,h3,by rw[dY h3];exact h4,h5⟩
variable {K:aA}{vs:List V}{H:Hp}{Q:VK}{E:XK}
def uL:Sp:=λvs H Q _=>∃(n:NT)(u:V),vs=[u]/\lv H n u/\gO n<=1000000/\(∀p l H',fst n=some p->dq H H'->H' l=some (.lst (pV p))->Q (.ref l) H')/\(∀H',fst n=none->dq H H'->Q .non H')
def Ih(K:aA):TS:=(fD (dJ 3))
def Ig(K:aA):TS:=(fE (dz (dj ic (dj (dy K) (dJ 2) (tC (.int 0))) (tC (.str "stamp")))) (Ih K) fC)
def Ie(K:aA):TS:=(eX (iW K "list" eE (dJ 1) (dI (ef (dI (dj (fu K) (dj (dy K) (dJ 2) (tC (.int 3))) (dJ 4)) (dI (dj nN (dJ 3) (fG (dI (dJ 4) dQ))) dQ))) dQ)))
def Ic(K:aA):TS:=(dZ (eB (jG K "list" jH (dJ 1)) (nq K 2 (gR (dR 2) (gR (dR 3) oA)))) (dZ (Ig K) (iV (q9 (dI (dj ib (gx (ga K) (dI (dj (dy K) (dJ 2) (tC (.int 3))) dQ)) (tC (.int 1))) (dI (mQ gQ (tC (.int 1))) (dI (mQ gQ (tC (.int 1))) dQ)))) (dR 4) (Ie K))))
def N6(K:aA):TS:=(dZ (eB (fG (dI (ef (dI (dJ 0) (dI (fG dQ) dQ))) dQ)) (dR 1)) (dZ (gi (dz (dj (lE K) (dJ 1) (fG dQ))) (Ic K)) (fD (tC .non))))
def Qb(H:Hp)(u:V)(tl:Addr)(n:NT)(m:Nat)(σ:St)(H':Hp):Prop:=∃S us j2 j3 j4,σ=[some u,some (.ref tl),j2,j3,j4]/\dq H H'/\H' tl=some (.lst us)/\Al (AQ H H' tl 1000000) S us/\ur S.reverse=fst n/\uI S<=1000000/\m=uI S
def Qx(H H7:Hp)(u:V)(tl np pl:Addr)(S:List (NT×List Nat))(q':List Nat)(ks:List NT)(i:Nat)(σ:St)(H':Hp):Prop:=∃us' j4,σ=[some u,some (.ref tl),some (.ref np),some (.ref pl),j4]/\dq H H'/\dq (sF tl H7) H'/\H' tl=some (.lst us')/\Al (AQ H H' tl 1000000) (S++((kN q' 0 ks).drop i).reverse) us'
theorem P8(h:uL vs H Q E):N6 K (fk Q) (start ["_law_tree","_law_todo","_law_node","_law_path","_law_k"] vs) H:=by
 obtain⟨n,u,rfl,hn,hz,k1,k2⟩:=h;refine⟨fL,eY λe0 H1 he0 s1 g1=>?_⟩;refine⟨fL,eY λq0 H2 hq0 s2 g2=>?_⟩;refine⟨fL,λtl htl=>?_⟩;obtain⟨H3,s3,g3,e3⟩:=nw (o:=.lst [.ref q0]) htl;have s13:=s1.trans (s2.trans s3);have ntl:H tl=none:=(s1.trans s2).free htl;have ne0:e0≠tl:=dX (s2 _ _ g1) htl;show dZ _ _ _ _ (upd H2 tl (.lst [.ref q0]));rw[e3];refine⟨Qb H u tl n,
  ⟨_,[(n,[])],[.ref q0],none,none,none,rfl,s13,g3,.one ⟨q0,e0,u,rfl,s3 _ _ g2,hn,ne0,(s2.trans s3) _ _ g1,by simpa using hz⟩,by simp[ur];cases fst n<;>rfl,by rw[rY];exact hz,rfl⟩,?_⟩
 clear s1 g1 s2 g2 s3 g3 s13 he0 hq0 htl e3 ne0;rintro m σ H5 ⟨S,us,j2,j3,j4,rfl,s5,t5,al,hf,hS,rfl⟩;refine⟨fL,eY λe0 H6 he0 s6 g6=>?_⟩;have t6:=s6 _ _ t5;have b6:=s5.trans s6;have al6:=al.mono λ_ _=>AQ.same s6;refine⟨eL.of t6,eL.of g6,_,rfl,?_⟩;by_cases hv:us=[]
 ·subst hv;cases al6;exact eU rfl (k2 _ (by rw[<-hf];rfl) b6)
 ·refine fI (by simpa using hv) ?_;obtain⟨us,w,rfl⟩:=gI hv;obtain⟨S,⟨n',q'⟩,rfl,alS,a⟩:=al6.snoc;rw[kY,rY]at hS;refine⟨Lt (Qb H u tl n) (uI (S++[(n',q')])),λ_ _ h=>h,?_⟩;refine⟨.inl ⟨rfl,_,eL.of t6⟩,t6,iO,?_⟩;rw[gk];have b7:dq H (upd H6 tl (.lst us)):=eJ b6 ntl;have t7:(upd H6 tl (.lst us)) tl=some (.lst us):=dP;have al7:=alS.mono λ_ _=>AQ.lst (o:=.lst us) t6;have a7:=a.lst (o:=.lst us) t6;generalize upd H6 tl (.lst us)=H7 at b7 t7 al7 a7⊢;obtain⟨q,pl,nv,rfl,hq,na,npl,hpl,hb⟩:=a7;cases na with
  | @mk kd x src path ks np sp pp kl nus h1 h2 h3 h4 h5=>
  refine⟨eD.of hq,rfl,rfl,?_⟩;have hnp:=b7 _ _ h1;rw[dH]at hf;have hf:ur ((NT.mk kd x src path ks,q')::S.reverse)=fst n:=hf;rw[ur,fst]at hf;refine⟨eD.of hnp,gF,rfl,_,rfl,?_⟩;by_cases hk:kd="stamp"
  ·subst hk;rw[if_pos rfl]at hf;have hf:some (q'++[])=fst n:=hf;rw[aX]at hf;refine fI (by decide) ?_;exact(k1 q' pl H7 hf.symm b7 hpl)
  ·rw[if_neg hk]at hf;refine eU (nk hk) ?_;have hnl:=h5.length;have hkl:=mf ks;have hb:q'.length+gO (NT.mk kd x src path ks)<=1000000:=hb;rw[gO]at hS hb;refine⟨eD.of hnp,rL,.inl (eL.of (b7 _ _ h4)),(nus.length:Int)-1,-1,rfl,⟨by lia,by lia,by lia,by lia⟩,?_⟩;rw[pL];refine uu (n:=nus.length) (k:=4) (Qx H H7 u tl np pl S q' ks) ?_ ?_ ?_
   ·refine⟨us,_,rfl,b7,λb o z=>?_,t7,?_⟩
    ·unfold sF at z;by_cases e:b=tl
     ·rw[if_pos e]at z;cases z
     ·rw[if_neg e]at z;exact z
    ·rw[cB (by rw[nc];lia)];simpa using al7
   ·rintro i σ H8 hi ⟨us',j4,rfl,b8,c8,t8,al8⟩;have pl8:H8 pl=some (.lst (pV q')):=c8 _ _ (nJ hpl npl);obtain⟨x1,hx1⟩:∃x1,nus[i]?=some x1:=⟨nus[i],aU hi⟩;obtain⟨k1',hk1⟩:∃k,ks[i]?=some k:=⟨ks[i]'(by lia),aU _⟩;obtain⟨x2,hx2,nk2⟩:=h5.get hk1;rw[hx1]at hx2;cases hx2;have hkz:=ox (aZ hk1);have hl8:=al8.length;rw[aE,bG,ah,nc]at hl8;have hSl:=xZ S;refine⟨.inl ⟨rfl,_,eL.of t8⟩,?_⟩;refine⟨eD.of (b8 _ _ h1),rL,eL.of (b8 _ _ h4),fK hx1,?_⟩;refine⟨fL,eY λo1 H9 ho1 s9 g9=>?_⟩;refine⟨s9 _ _ pl8,g9,by rw[sizeLine_eq];simp[pV];lia,eY λo2 H10 ho2 s10 g10=>?_⟩;refine⟨fL,eY λo3 H11 ho3 s11 g11=>?_⟩;have s8:=s9.trans (s10.trans s11);have t11:=s8 _ _ t8;refine⟨t11,by rw[sizeLine_eq];lia,?_⟩;have no2:o2≠tl:=(dX (s9 _ _ t8) ho2).symm;refine⟨_,_,rfl,eJ (b8.trans s8) ntl,λb o z=>?_,dP,?_⟩
    ·by_cases e:b=tl
     ·unfold sF at z;rw[if_pos e]at z;cases z
     ·rw[dY e];exact s8 _ _ (c8 _ _ z)
    ·have e:(kN q' 0 ks).drop i=(k1',q'++[i])::(kN q' 0 ks).drop (i+1):=by have hg:=qx q' ks 0 i k1' hk1;rw[bi]at hg;obtain⟨hj,ej⟩:=aK.mp hg;rw[bR hj,ej]
     rw[e,aj,<-aW];refine((al8.mono λ_ _=>AQ.same s8).mono λ_ _=>AQ.lst t11).append (.one (AQ.lst t11 ⟨o3,o2,x1,rfl,g11,nk2,no2,?_,?_⟩))
     ·rw[zk];exact s11 _ _ g10
     ·simp only[aE,a5];lia
   ·rintro σ H8 ⟨us',j4,rfl,b8,_,t8,al8⟩;refine⟨uI (S++(kN q' 0 ks).reverse),?_,_,us',_,_,_,rfl,b8,t8,by simpa using al8,?_,?_,rfl⟩
    ·rw[kY,kY,rY,xY,pN,gO];lia
    ·rw[dH,cb,rA];rw[<-hf]
    ·rw[kY,xY,pN];lia
end S8
namespace S8
open PySem L2 SW S9
theorem nj:∀(p:List Nat)(i:Nat){n m:NT},iC n (p++[i])=some m->∃k x src path ks,iC n p=some (.mk k x src path ks)/\ks[i]?=some m
 | [],i,.mk k x src path ks,m,h=>by
  refine⟨k,x,src,path,ks,rfl,?_⟩;rw[ak,iC]at h;cases e:ks[i]? with
  | none=>rw[e]at h;cases h
  | some m'=>rw[e]at h;cases m';exact h
 | j::p,i,.mk k x src path ks,m,h=>by
  rw[aN,iC]at h;cases e:ks[j]? with
  | none=>rw[e]at h;cases h
  | some m'=>rw[e]at h;obtain⟨k',x',src',path',ks',h1,h2⟩:=nj p i h;exact⟨k',x',src',path',ks',by rw[iC,e];exact h1,h2⟩
theorem AD(h:iC n p=some m):∀j,j<=p.length->∃mj,iC n (p.take j)=some mj:=by
 have key:∀(d j:Nat),j+d=p.length->∃mj,iC n (p.take j)=some mj:=by
  intro d;induction d with
  | zero=>intro j hj;rw[bQ (by lia)];exact⟨m,h⟩
  | succ d ih=>intro j hj;obtain⟨mj,e⟩:=ih (j+1) (by lia);rw[ay,aU (show j<p.length by lia)]at e;obtain⟨_,_,_,_,_,h1,_⟩:=nj _ _ e;exact⟨_,h1⟩
 intro j hj;exact key (p.length-j) j (by lia)
theorem ni(h:iC n p=some m)(hj:j<p.length):∃k x src path ks mj,iC n (p.take j)=some (.mk k x src path ks)/\ks[p[j]]?=some mj/\iC n (p.take (j+1))=some mj:=by obtain⟨mj,e⟩:=AD h (j+1) hj;have e0:=e;rw[ay,aU hj]at e;obtain⟨k,x,src,path,ks,h1,h2⟩:=nj _ _ e;exact⟨k,x,src,path,ks,mj,h1,h2,e0⟩
theorem zg{n:NT}{p:List Nat}{m':NT}{j:Nat}(hj:j<p.length){k x src path ks}{mj:NT}(e1:iC n (p.take j)=some (.mk k x src path ks))(e2:ks[p[j]]?=some mj):iG (.mk k x src path ks) (p.drop j) m'=.mk k x src path (ks.set p[j] (iG mj (p.drop (j+1)) m')):=by rw[bR hj,iG,e2]
theorem xu:∀{ks:List α}{i:Nat}{y:α},i<ks.length->ks.set i y=ks.take i++[y]++ks.drop (i+1)
 | x::ks,0,y,_=>rfl
 | x::ks,i+1,y,h=>by have:=xu (ks:=ks) (i:=i) (y:=y) (by simpa using h);rw[cf,this];simp
theorem tF{us:List V}{i:Nat}(h:i<=us.length):iJ us none (some (i:Int))=us.take i:=by
 unfold iJ;have e1:HT.kG us.length 0 none=0:=rfl;have e2:HT.kG us.length us.length (some (i:Int))=i:=by rw[mX];lia
 rw[e1,e2];simp
theorem lJ{us:List V}{i:Nat}(h:i+1<=us.length):iJ us (some ((i:Int)+1)) none=us.drop (i+1):=by
 unfold iJ;have e2:HT.kG us.length 0 (some ((i:Int)+1))=i+1:=by rw[show(i:Int)+1=((i+1:Nat):Int) by lia,mX];lia
 have e3:HT.kG us.length us.length none=us.length:=rfl;rw[e2,e3,bQ (by rw[ah];lia)]
theorem lv.opn(h:lv H (.mk k x src path ks) u):∃(p sp pp kl:Addr)(us:List V),u=.ref p/\H p=some (.tup [.str k,x,.ref sp,.ref kl])/\H sp=some (.tup [.str src,.ref pp])/\H pp=some (.tup (path.map V.int))/\H kl=some (.lst us)/\gf H ks us:=by cases h with|mk h1 h2 h3 h4 h5=>exact⟨_,_,_,_,_,rfl,h1,h2,h3,h4,h5⟩
variable {K:aA}{vs:List V}{H:Hp}{Q:VK}{E:XK}
def xk:Sp:=λvs H Q _=>∃(n m m':NT)(p:List Nat)(u v:V)(l:Addr),vs=[u,.ref l,v]/\lv H n u/\lv H m' v/\H l=some (.lst (pV p))/\iC n p=some m/\gO n<=1000000/\p.length<=1000000/\∀(w:V)(H':Hp),dq H H'->lv H' (iG n p m') w->Q w H'
def Ho(K:aA):TS:=(dZ (eX (iW K "list" eE (dJ 3) (dI (dJ 4) dQ))) (eB (dj (fu K) (dj (dy K) (dJ 4) (tC (.int 3))) (dJ 5)) (dR 4)))
def Hm(K:aA):TS:=(dZ (eB (dj (fu K) (dJ 3) (dJ 6)) (dR 4)) (dZ (eB (dj nN (dj nN (nB (jX K) (dj (dy K) (dJ 4) (tC (.int 3))) fg (fi (dj (fu K) (dJ 1) (dJ 6)))) (fG (dI (dJ 2) dQ))) (nB (jX K) (dj (dy K) (dJ 4) (tC (.int 3))) (fi (dj kH (dj (fu K) (dJ 1) (dJ 6)) (tC (.int 1)))) fg)) (dR 7)) (eB (ef (dI (dj (dy K) (dJ 4) (tC (.int 0))) (dI (dj (dy K) (dJ 4) (tC (.int 1))) (dI (dj (dy K) (dJ 4) (tC (.int 2))) (dI (dJ 7) dQ))))) (dR 2))))
def Nu(K:aA):TS:=(dZ (eB (fG dQ) (dR 3)) (dZ (eB (dJ 0) (dR 4)) (dZ (iV (iT K (dJ 1)) (dR 5) (Ho K)) (dZ (iV (q9 (dI (dj ib (gx (ga K) (dI (dJ 1) dQ)) (tC (.int 1))) (dI (mQ gQ (tC (.int 1))) (dI (mQ gQ (tC (.int 1))) dQ)))) (dR 6) (Hm K)) (fD (dJ 2))))))
theorem um:∀{p:List Nat}{n m:NT},iC n p=some m->gO m<=gO n
 | [],n,m,e=>by cases n;cases e;exact aC _
 | i::p,.mk k x src path ks,m,e=>by
  rw[iC]at e;cases e2:ks[i]? with
  | none=>rw[e2]at e;cases e
  | some n=>rw[e2]at e;have:=um e;have:=ox (aZ e2);rw[gO];lia
theorem wI(h:j<p.length):(pV p)[j]?=some (.int (p[j]:Int)):=by unfold pV;rw[aT,aU h];rfl
def Kq(H:Hp)(n:NT)(p:List Nat)(j:Nat)(v:V):Prop:=∃mj,iC n (p.take j)=some mj/\lv H mj v
def Qt(H:Hp)(u v:V)(l ab:Addr)(n:NT)(p:List Nat)(i:Nat)(σ:St)(H':Hp):Prop:=∃(aus:List V)(w:V)(j5:Option V),σ=[some u,some (.ref l),some v,some (.ref ab),some w,j5,none,none]/\dq H H'/\H' ab=some (.lst aus)/\aus.length=i/\(∀j y,aus[j]?=some y->Kq H n p j y)/\Kq H n p i w
def Qs(H2:Hp)(u:V)(l ab:Addr)(j5:Option V)(n:NT)(p:List Nat)(m':NT)(i:Nat)(σ:St)(H':Hp):Prop:=∃(v':V)(j4 j6 j7:Option V)(mi:NT),σ=[some u,some (.ref l),some v',some (.ref ab),j4,j5,j6,j7]/\dq H2 H'/\iC n (p.take i)=some mi/\lv H' (iG mi (p.drop i) m') v'
theorem Pt(h:xk vs H Q E):Nu K (fk Q) (start ["_law_tree","_law_path","_law_made","_law_above","_law_node","_law_k","_law_j","_law_kids"] vs) H:=by
 obtain⟨n,m,m',p,u,v,l,rfl,hn,hm,hl,hg,hz,hpl,k⟩:=h;refine⟨fL,λab hab=>?_⟩;obtain⟨H1,s1,g1,e1⟩:=nw (o:=.lst []) hab;show dZ _ _ _ _ (upd H ab (.lst []));rw[e1];refine⟨eL.of (s1 _ _ hl),?_⟩;refine gZ (K:=K) (a:=l) (xs:=pV p) (Qt H u v l ab n p)
  ⟨[],u,none,rfl,s1,g1,rfl,λj y h=>by simp at h,n,by cases n;rfl,hn⟩ (λi σ H' _ hP=>?_) ?_ ?_
 ·obtain⟨_,_,_,_,s,_⟩:=hP;exact eL.of (s _ _ hl)
 ·rintro i y σ H2 hi ⟨aus,w,j5,rfl,s2,a2,hal,ha,hw⟩;have hil:i<p.length:=by have:=(aK.mp hi).1;simpa[pV]using this
  rw[wI hil]at hi;cases hi;obtain⟨kd,x,src,path,ks,mj,g1,g2,g3⟩:=ni hg hil;obtain⟨mi,e,nw⟩:=hw;rw[g1]at e;cases e;obtain⟨np,sp,pp,kl,nus,rfl,h1,h2,h3,h4,h5⟩:=lv.opn nw;obtain⟨x1,hx1,nk⟩:=h5.get g2;refine⟨.inl ⟨rfl,_,eL.of a2⟩,a2,by rw[sizeLine_eq];lia,?_⟩;have nab:∀{b:Addr}{o:HO},H b=some o->(upd H2 ab (.lst (aus++[.ref np]))) b=some o:=λz=>eJ s2 hab _ _ z;refine⟨eD.of (nab h1),rL,eL.of (nab h4),fK hx1,?_⟩;refine⟨aus++[.ref np],x1,_,rfl,eJ s2 hab,dP,by simp[hal],λj y hj=>?_,mj,g3,nk⟩;rcases bE j aus.length with hlt|hge
  ·rw[au hlt]at hj;exact ha j y hj
  ·rw[bC hge]at hj;have:j=i:=by have:=(aK.mp hj).1;simp at this;lia
   subst this;rw[hal,bB]at hj;cases hj;exact⟨_,g1,nw⟩
 ·rintro σ H2 ⟨aus,w,j5,rfl,s2,a2,hal,ha,hw⟩;have hpv:(pV p).length=p.length:=by simp[pV]
  rw[hpv]at hal;refine⟨.inl (eL.of (s2 _ _ hl)),((pV p).length:Int)-1,-1,rfl,⟨by lia,by lia,by lia,by lia⟩,?_⟩;rw[pL,hpv];refine uu (n:=p.length) (k:=6) (Qs H2 u l ab j5 n p m') ?_ ?_ ?_
  ·refine⟨v,_,_,_,m,rfl,dq.refl _,by rw[a6];exact hg,?_⟩;rw[List.drop_length];cases m;exact hm.same s2
  ·rintro i σ H3 hi ⟨v',j4,j6,j7,mi',rfl,s3,g3,nv⟩;obtain⟨kd,x,src,path,ks,mj,g1,g2,g4⟩:=ni hg hi;rw[g3]at g4;cases g4;obtain⟨y,hy⟩:∃y,aus[i]?=some y:=⟨aus[i]'(by lia),aU _⟩;obtain⟨mi,e,nwi⟩:=ha i y hy;rw[g1]at e;cases e;obtain⟨np,sp,pp,kl,nus,rfl,h1,h2,h3,h4,h5⟩:=lv.opn (nwi.same (s2.trans s3));have hnl:=h5.length;have hkl:=mf ks;have hzz:=um g1;rw[gO]at hzz;have hik:p[i]<ks.length:=(aK.mp g2).1;refine⟨eL.of (s3 _ _ a2),fK hy,?_⟩;have hpx:=fK (wI hi);refine⟨eD.of h1,rL,eL.of ((s2.trans s3) _ _ hl),hpx,eL.of h4,λo1 ho1=>?_⟩;rw[tF (by lia)];obtain⟨H4,s4,c4,e4⟩:=nw (o:=.lst (nus.take p[i])) ho1;rw[e4];refine⟨fL,eY λo2 H5 ho2 s5 c5=>?_⟩;refine⟨s5 _ _ c4,c5,by rw[sizeLine_eq,ag];simp;lia,eY λo3 H6 ho3 s6 c6=>?_⟩;have s46:=s4.trans (s5.trans s6);refine⟨eD.of (s46 _ _ h1),rL,eL.of (((s2.trans s3).trans s46) _ _ hl),hpx,eL.of (s46 _ _ h4),λo4 ho4=>?_⟩;rw[lJ (by lia)];obtain⟨H7,s7,c7,e7⟩:=nw (o:=.lst (nus.drop (p[i]+1))) ho4;rw[e7];refine⟨s7 _ _ c6,c7,by rw[sizeLine_eq];simp only[aE,ag,ah,a5];lia,eY λo5 H8 ho5 s8 c8=>?_⟩;have s38:=s46.trans (s7.trans s8);have hp8:=s38 _ _ h1;refine⟨eD.of hp8,gF,eD.of hp8,iM,eD.of hp8,tY,fL,λo6 ho6=>?_⟩;obtain⟨H9,s9,c9,e9⟩:=nw (o:=.tup [.str kd,x,.ref sp,.ref o5]) ho6;have s39:=s38.trans s9;refine⟨.ref o6,_,_,_,_,rfl,s3.trans (s38.trans (dS ho6)),g1,?_⟩;rw[zg hi g1 g2,e9];refine .mk c9 (s39 _ _ h2) (s39 _ _ h3) (s9 _ _ c8) ?_;rw[xu hik];exact(((h5.same s39).take p[i]).append (.cons (nv.same s39) .nil)).append ((h5.same s39).drop (p[i]+1))
  ·rintro σ H3 ⟨v',j4,j6,j7,mi,rfl,s3,g3,nv⟩;have:mi=n:=by cases n;cases g3;rfl
   subst this;exact(k v' H3 (s2.trans s3) nv)
end S8
namespace S8
open PySem L2 SW S9
theorem uo:∀{p:List Nat}{n m:NT},iC n p=some m->p.length+gO m<=gO n
 | [],n,m,e=>by cases n;cases e;simp
 | i::p,.mk k x src path ks,m,e=>by
  rw[iC]at e;cases e2:ks[i]? with
  | none=>rw[e2]at e;cases e
  | some n=>rw[e2]at e;have:=uo e;have:=ox (aZ e2);rw[gO,aD];lia
def kz(ps:List Str)(us:List V):List (fB×V):=(ps.zip us).map λy=>(Sum.inr y.1,y.2)
theorem qC{kvs:List (fB×V)}{k:fB}{v:V}(h:∀y∈kvs,y.1≠k):fh kvs k v=kvs++[(k,v)]:=by unfold fh;rw[if_neg];simp only[bz,decide_eq_true_eq,not_exists,not_and];exact h
theorem KD{ps:List Str}{us:List V}{i:Nat}{w:Str}{x:V}(hn:ps.Nodup)(h1:ps[i]?=some w)(h2:us[i]?=some x):fh (kz (ps.take i) (us.take i)) (.inr w) x=kz (ps.take (i+1)) (us.take (i+1)):=by
 have e:kz (ps.take (i+1)) (us.take (i+1))=kz (ps.take i) (us.take i)++[(.inr w,x)]:=by unfold kz;have l1:=(aK.mp h1).1;have l2:=(aK.mp h2).1;rw[ay,ay,h1,h2,Option.toList_some,Option.toList_some,List.zip_append (by simp;lia)];simp
 rw[e];refine qC λy hy=>?_;obtain⟨⟨a,b⟩,hab,rfl⟩:=bO.mp hy;have ha:=br hab|>.1;intro z;have z:=Sum.inr.inj z;have z:a=w:=z;subst z;obtain⟨j,hj,ej⟩:=List.mem_take_iff_getElem.mp ha;obtain⟨hi,ei⟩:=aK.mp h1;exact List.pairwise_iff_getElem.mp hn j i (by lia) hi (by lia) (ej.trans ei.symm)
theorem KM{H:Hp}:tV H (kz [] []) Dg:=λw=>.inl ⟨rfl,rfl⟩
theorem Os{H:Hp}{e:Bool}{g:NT}{x:V}(h:lv H g x):tV H (kz [oM e] [x]) (Ge e g):=λw=>by
 by_cases h1:w=oM e
 ·subst h1;exact .inr ⟨g,x,if_pos rfl,fX rfl,h⟩
 ·exact .inl ⟨if_neg h1,by unfold kz;simp only[List.zip_cons_cons,List.zip_nil_right,aV,bA];rw[fY (λz=>h1 (Sum.inr.inj z).symm)];rfl⟩
theorem Oq{H:Hp}{e:Bool}{g h:NT}{x y:V}(a:lv H g x)(b:lv H h y):tV H (kz [oM e,uS e] [x,y]) (Df e g h):=λw=>by
 by_cases h1:w=oM e
 ·subst h1;exact .inr ⟨g,x,if_pos rfl,fX rfl,a⟩
 ·have q:fP (kz [oM e,uS e] [x,y]) (.inr w:fB)=fP (kz [uS e] [y]) (.inr w:fB):=fY (λz=>h1 (Sum.inr.inj z).symm);rw[q];by_cases e2:w=uS e
  ·subst e2;exact .inr ⟨h,y,by unfold Df;rw[if_neg h1,if_pos rfl],fX rfl,b⟩
  ·exact .inl ⟨by unfold Df;rw[if_neg h1,if_neg e2],by unfold kz;simp only[List.zip_cons_cons,List.zip_nil_right,aV,bA];rw[fY (λz=>e2 (Sum.inr.inj z).symm)];rfl⟩
def yi(v1 v2 v3:V):List (Str×V):=[("star",v1),("sta",v2),("st",v3)]
def oW(w:Str)(L:List (Str×V)):List V:=(L.filter λx=>decide (x.1=w)).map Prod.snd
theorem Fu{H:Hp}{v1 v2 v3:V}{bo:Bo}{w:Str}{ks:List NT}{giv:Gi}{body:T}{us:List V}(BT:rM H v1 v2 v3 bo)(B:yq bo w ks giv body)(K:xF bo)(hu:gf H ks us):
  ∃(sv:V)(ps:List Str),oW w (yi v1 v2 v3)=[sv]/\jz H w ps (gD body) sv/\ps.length=us.length/\ps.Nodup/\body.size<=900/\tV H (kz ps us) giv:=by
 have hz:=K.z1;have hz2:=K.z2.1;have hz3:=K.z3.1;cases B with
 | star=>cases hu;exact⟨v1,[],by simp[oW,yi,J7.symm,J4.symm],BT.a,rfl,.nil,by lia,KM⟩
 | sta=>cases hu with|cons a r=>cases r;exact⟨v2,[_],by simp[oW,yi,J7,J3.symm],BT.b,rfl,by simp,by lia,Os a⟩
 | st=>cases hu with|cons a r=>cases r with|cons b r=>cases r;exact⟨v3,[_,_],by simp[oW,yi,J4,J3],BT.c,rfl,by simp[wD],by lia,Oq a b⟩
variable {K:aA}{vs:List V}{H:Hp}{Q:VK}{E:XK}
def pW:Sp:=λvs H Q _=>∃(b:Addr)(v1 v2 v3 u:V)(t:T)(bo:Bo)(F:Nat),vs=[.ref b,u,.int (F:Int)]/\H b=some (.lst [v1,v2,v3])/\rM H v1 v2 v3 bo/\fc H t u/\xF bo/\WT SF t/\t.size<=40/\F<=9/\
 ∀(r:Addr)(w:V)(n:NT)(c:Int)(k:Nat)(H':Hp),dq H H'->Ly bo t k n c->lv H' n w->H' r=some (.tup [w,.int (k:Int)])->k<=F+1->(k<=F->fst n=none)->Q (.ref r) H'
def DX(H:Hp)(n:NT)(v:V):Prop:=(v=.non/\fst n=none)∨∃l p,v=.ref l/\fst n=some p/\H l=some (.lst (pV p))
def IN(K:aA):TS:=(eB (dj (fu K) (dj (dy K) (dJ 7) (tC (.int 3))) (dJ 8)) (dR 7))
def IM(K:aA):TS:=(jl (dJ 10) (dj (fu K) (dj (dy K) (dJ 9) (tC (.int 1))) (dJ 8)) (dj (fu K) (dj (dy K) (dJ 7) (tC (.int 3))) (dJ 8)))
def zD(K:aA):TS:=(dZ (eB (dj kH (dJ 5) (tC (.int 1))) (dR 5)) (eB (eN uL [] E0 (dI (dJ 3) dQ)) (dR 6)))
def zE(K:aA):TS:=(dZ (eB (eN xk [] E0 (dI (dJ 3) (dI (dJ 6) (dI (dJ 11) dQ)))) (dR 3)) (zD K))
def zF(K:aA):TS:=(dZ (eB (eN mV [] E0 (dI (dj (dy K) (dJ 9) (tC (.int 2))) (dI (dj (dy K) (dJ 9) (tC (.int 0))) (dI (dJ 10) (dI (dJ 4) dQ))))) (nq K 2 (gR (dR 11) (gR (dR 4) oA)))) (zE K))
def zG(K:aA):TS:=(dZ (iV (yN (dI (gx (ga K) (dI (dj (dy K) (dJ 7) (tC (.int 3))) dQ)) dQ)) (dR 8) (IM K)) (zF K))
def zH(K:aA):TS:=(dZ (eB iF (dR 10)) (zG K))
def qj(K:aA):TS:=(dZ (eB (dj (fu K) (BQ 1 (iT K (dJ 0)) (dR 0) (dz (dj ic (dj (dy K) (dJ 0) (tC (.int 0))) (dj (dy K) (dJ 1) (tC (.int 1))))) (dJ 0) [7]) (tC (.int 0))) (dR 9)) (zH K))
def zI(K:aA):TS:=(dZ (iV (iT K (dJ 6)) (dR 8) (IN K)) (qj K))
def vT(K:aA):TS:=(dZ (eB (dJ 3) (dR 7)) (zI K))
def EE(K:aA):TS:=(dZ (gi (lq (dz (dj GP (dJ 6) (tC .non))) (dz (dj E3 (dJ 5) (dJ 2)))) (vT K)) (fD (ef (dI (dJ 3) (dI (dJ 5) dQ)))))
def EF(K:aA):TS:=(dZ (eB (eN uL [] E0 (dI (dJ 3) dQ)) (dR 6)) (EE K))
def EG(K:aA):TS:=(dZ (eB (tC (.int 0)) (dR 5)) (EF K))
def N3(K:aA):TS:=(dZ (eB (eN mV [] E0 (dI (dJ 1) (dI (tC (.str "")) (dI iF (dI (tC (.int 0)) dQ))))) (nq K 2 (gR (dR 3) (gR (dR 4) oA)))) (EG K))
inductive PU(H₀:Hp)(b:Addr)(u:V)(F:Nat)(bo:Bo)(t:T):Nat->St->Hp->Prop where
 | mk{k:Nat}{n:NT}{c:Int}{w pv:V}{j7 j8 j9 j10 j11:Option V}{H':Hp}(s:dq H₀ H')(l:Ly bo t k n c)(a:lv H' n w)(p:DX H' n pv)(z:k<=F+1):PU H₀ b u F bo t (F+1-k) [some (.ref b),some u,some (.int (F:Int)),some w,some (.int c),some (.int (k:Int)),some pv,j7,j8,j9,j10,j11] H'
def Qw(b:Addr)(u:V)(F:Nat)(w:V)(c:Int)(k:Nat)(l:Addr)(n:NT)(p:List Nat)(H1:Hp)(j9 j10 j11:Option V)(i:Nat)(σ:St)(H':Hp):Prop:=∃(y:V)(j8:Option V),σ=[some (.ref b),some u,some (.int (F:Int)),some w,some (.int c),some (.int (k:Int)),some (.ref l),some y,j8,j9,j10,j11]/\H'=H1/\Kq H1 n p i y
def Qv(b l np q gd:Addr)(u w:V)(F:Nat)(c:Int)(k:Nat)(j11:Option V)(Hx:Hp)(ps:List Str)(nus:List V)(i:Nat)(σ:St)(H'':Hp):Prop:=∃j8,σ=[some (.ref b),some u,some (.int (F:Int)),some w,some (.int c),some (.int (k:Int)),some (.ref l),some (.ref np),j8,some (.ref q),some (.ref gd),j11]/\dq Hx H''/\H'' gd=some (.dK (kz (ps.take i) (nus.take i)))
theorem x5{σ:St}{i j:Nat}{rr:TS}{D:fz}{b np:Addr}{v1 v2 v3 k0 sv:V}{w0:Str}{r:List V}{bo:Bo}(hb1:H b=some (.lst [v1,v2,v3]))(B1:rM H v1 v2 v3 bo)(h1:H np=some (.tup (k0::.str w0::r)))(hpick:oW w0 (yi v1 v2 v3)=[sv])(k:∀H',dq H H'->rr D (σ.set i (some sv)) H')(e0:σ[0]?=some (some (.ref b)):=by rfl)(ej:AT σ [j]=[some (.ref np)]:=by rfl):
  (dZ (eB (dj (fu K) (BQ 1 (iT K (dJ 0)) (dR 0) (dz (dj ic (dj (dy K) (dJ 0) (tC (.int 0))) (dj (dy K) (dJ 1) (tC (.int 1))))) (dJ 0) [j]) (tC (.int 0))) (dR i)) rr) D σ H:=by
 refine nmQ.of e0 ⟨eL.of hb1,?_⟩;have wds:∀(i:Nat)(x:V),[v1,v2,v3][i]?=some x->∃wi q,(yi v1 v2 v3)[i]?=some (wi,x)/\x=.ref q/\∃xs,H q=some (.tup (.str wi::xs)):=λi x hx=>by
  obtain⟨p1,_,_,e1,a1,_⟩:=B1.a;obtain⟨p2,_,_,e2,a2,_⟩:=B1.b;obtain⟨p3,_,_,e3,a3,_⟩:=B1.c
  match i,hx with
  | 0,hx=>cases hx;exact⟨_,p1,rfl,e1,_,a1⟩
  | 1,hx=>cases hx;exact⟨_,p2,rfl,e2,_,a2⟩
  | 2,hx=>cases hx;exact⟨_,p3,rfl,e3,_,a3⟩
  | i+3,hx=>simp at hx
 rw[ej];refine⟨λi m vs Hx=>m=3-i/\i<=3/\Hx=H/\vs=oW w0 ((yi v1 v2 v3).take i)/\vs.length<=i,⟨3,rfl,aS _,rfl,rfl,aS _⟩,?_⟩;rintro i m vs Hx ⟨rfl,hi,rfl,hvs,hvl⟩;by_cases hi3:i=3
 ·subst hi3;rw[show(yi v1 v2 v3).take 3=yi v1 v2 v3 from rfl,hpick]at hvs;subst hvs;exact .inl ⟨⟨_,eL.of hb1,by simp⟩,by rw[sizeLine_eq];lia,eY λlo H2 _ s2 g2=>⟨eL.of g2,gF,k H2 s2⟩⟩
 ·obtain⟨x,hx⟩:∃x,[v1,v2,v3][i]?=some x:=⟨[v1,v2,v3][i]'(by simp;lia),aU _⟩;refine .inr ⟨⟨_,x,eL.of hb1,hx⟩,λy Hy yy=>?_⟩;obtain⟨rfl,yy⟩:=yy;have hy:=yy _ (eL.of hb1);rw[hx]at hy;cases hy;intro os hos
  match os,hos with
  | [o1],_=>
  obtain⟨wi,q,hwi,rfl,xs,hq⟩:=wds i x hx;refine⟨⟨[some (.ref q)],rfl,rfl⟩,?_⟩;refine⟨eD.of hq,gF,eD.of h1,iM,rfl,_,rfl,?_⟩;have tk:=take_succ_filter (λx:Str×V=>decide (x.1=w0)) (yi v1 v2 v3) i _ hwi;by_cases hw:wi=w0
  ·subst hw;refine fI (by simp) ⟨by rw[sizeLine_eq];lia,3-(i+1),by lia,rfl,by lia,rfl,?_,by simp;lia⟩;rw[hvs];unfold oW;rw[tk];simp
  ·refine eU (decide_eq_false λz=>hw (V.str.inj z)) ⟨3-(i+1),by lia,rfl,by lia,rfl,?_,by lia⟩;rw[hvs];unfold oW;rw[tk];simp[hw]
theorem vm{H₀ H1:Hp}{b l:Addr}{v1 v2 v3 u w:V}{t:T}{bo:Bo}{F k:Nat}{n:NT}{c:Int}{p:List Nat}{D:fz}{j7 j8 j9 j10 j11:Option V}(hb:H₀ b=some (.lst [v1,v2,v3]))(B:rM H₀ v1 v2 v3 bo)(bok:xF bo)(wt:WT SF t)(s1:dq H₀ H1)(ly:Ly bo t k n c)(na:lv H1 n w)(hf:fst n=some p)(hl:H1 l=some (.lst (pV p)))(hnz:gO n<=1000000)(bnd:∀n' c',Ly bo t (k+1) n' c'->gO n'<=1000000)
  (hD:∀(n':NT)(c':Int)(w2 pv:V)(j7 j8 j9 j10 j11:Option V)(H':Hp),dq H₀ H'->Ly bo t (k+1) n' c'->lv H' n' w2->DX H' n' pv->D.nx [some (.ref b),some u,some (.int (F:Int)),some w2,some (.int c'),some (.int ((k+1:Nat):Int)),some pv,j7,j8,j9,j10,j11] H'):
  vT K D [some (.ref b),some u,some (.int (F:Int)),some w,some (.int c),some (.int (k:Int)),some (.ref l),j7,j8,j9,j10,j11] H1:=by
 obtain⟨w0,src,path,ks,giv,body,hg,Bd⟩:=ML bok wt ly hf;have hpl:=uo hg;refine⟨eL.of hl,?_⟩;refine gZ (K:=K) (a:=l) (xs:=pV p) (Qw b u F w c k l n p H1 j9 j10 j11)
  ⟨w,j8,rfl,rfl,n,by cases n;rfl,na⟩ (λi σ H' _ hP=>?_) ?_ ?_
 ·obtain⟨_,_,_,rfl,_⟩:=hP;exact eL.of hl
 ·rintro i y σ H' hi ⟨y',j8,rfl,rfl,hw⟩;have hil:i<p.length:=by have:=(aK.mp hi).1;simpa[pV]using this
  rw[wI hil]at hi;cases hi;obtain⟨kd,x,src',path',ks',mj,g1,g2,g3⟩:=ni hg hil;obtain⟨mi,e,nwi⟩:=hw;rw[g1]at e;cases e;obtain⟨np,sp,pp,kl,nus,rfl,h1,h2,h3,h4,h5⟩:=lv.opn nwi;obtain⟨x1,hx1,nk⟩:=h5.get g2;exact⟨eD.of h1,rL,eL.of h4,fK hx1,x1,_,rfl,rfl,mj,g3,nk⟩
 ·rintro σ H' ⟨y',j8,rfl,rfl,mj,e,nm⟩;have hpv:(pV p).length=p.length:=by simp[pV]
  rw[hpv,a6,hg]at e;cases e;obtain⟨np,sp,pp,kl,nus,rfl,h1,h2,h3,h4,h5⟩:=lv.opn nm;have hb1:=s1 _ _ hb;have B1:=B.mono s1;obtain⟨sv,ps,hpick,sat,hps,hnd,hbz,hgv⟩:=Fu B1 Bd bok h5;have hnl:=h5.length;have hkl:=mf ks;rw[gO]at hpl;dsimp only[fz.thn];unfold qj;refine x5 hb1 B1 h1 hpick λH2 s2=>?_;obtain⟨q,pl,x,rfl,hq,hpls,dgx⟩:=sat;refine λgd hgd=>?_;obtain⟨H3,s3,g3,e3⟩:=nw (o:=.dK []) hgd;show dZ _ _ _ _ (upd H2 gd (.dK []));rw[e3];have s23:=s2.trans s3;refine⟨eD.of (s23 _ _ h1),rL,.inl (eL.of (s23 _ _ h4)),by lia,by lia,?_⟩;rw[bg];have ngd:H' gd=none:=s2.free hgd;refine rD (lo:=0) (n:=nus.length) (Qv b l np q gd u w F c k j11 H' ps nus) ⟨_,rfl,s23,g3⟩ ?_ ?_
  ·rintro i σ H4 hi ⟨j8,rfl,s4,g4⟩;rw[Int.zero_add];obtain⟨x1,hx1⟩:∃x1,nus[i]?=some x1:=⟨nus[i],aU hi⟩;obtain⟨w1,hw1⟩:∃w1,ps[i]?=some w1:=⟨ps[i]'(by lia),aU _⟩;refine⟨eD.of (s4 _ _ h1),rL,eL.of (s4 _ _ h4),fK hx1,?_⟩;refine⟨eD.of (s4 _ _ hq),iM,eL.of (s4 _ _ hpls),fK (by rw[aT,hw1];rfl),lO.k (k:=.inr w1) g4 ?_,?_⟩
   ·have:(kz (ps.take i) (nus.take i)).length<=nus.length:=by unfold kz;rw[aO,List.length_zip,ag,ag];lia
    rw[sizeLine_eq];lia
   ·refine⟨_,rfl,eJ s4 ngd,?_⟩;rw[dP,KD hnd hw1 hx1]
  ·rintro σ H4 ⟨j8,rfl,s4,g4⟩;rw[<-hps,a6,hps,a6]at g4;refine⟨eD.of (s4 _ _ hq),tY,eD.of (s4 _ _ hq),gF,body,x,w0,gd,_,giv,c,rfl,(gm dgx).mono (dW s4),hbz,g4,hgv.same s4,λr bv H5 s5 nb hr=>?_⟩;refine⟨eD.of hr,rfl,rfl,?_⟩;have s15:=s4.trans s5;refine⟨n,_,_,p,w,bv,l,rfl,na.same s15,nb,s15 _ _ hl,hg,hnz,by lia,λw2 H6 s6 nw2=>?_⟩;have ly2:=ly.succ hf hg Bd;refine ?_;have s06:=s1.trans (s15.trans s6);refine⟨_,w2,rfl,nw2,bnd _ _ ly2,λp' l' H7 hf' s7 hl'=>?_,λH7 hf' s7=>?_⟩
   ·exact hD _ _ _ _ _ _ _ _ _ H7 (s06.trans s7) ly2 (nw2.same s7) (.inr ⟨l',p',rfl,hf',hl'⟩)
   ·exact hD _ _ _ _ _ _ _ _ _ H7 (s06.trans s7) ly2 (nw2.same s7) (.inl ⟨rfl,hf'⟩)
theorem py{H₀:Hp}{b:Addr}{v1 v2 v3 u w pv:V}{t:T}{bo:Bo}{F:Nat}{n:NT}{c:Int}(hb:H₀ b=some (.lst [v1,v2,v3]))(B:rM H₀ v1 v2 v3 bo)(bok:xF bo)(wt:WT SF t)(hz:t.size<=40)(hF:F<=9)
  (kk:∀(r:Addr)(w:V)(n:NT)(c:Int)(k:Nat)(H':Hp),dq H₀ H'->Ly bo t k n c->lv H' n w->H' r=some (.tup [w,.int (k:Int)])->k<=F+1->(k<=F->fst n=none)->Q (.ref r) H')
  (s0:dq H₀ H) (ly:Ly bo t 0 n c) (na:lv H n w) (ou:DX H n pv):
  (dZ (gi (lq (dz (dj GP (dJ 6) (tC .non))) (dz (dj E3 (dJ 5) (dJ 2)))) (vT K)) (fD (ef (dI (dJ 3) (dI (dJ 5) dQ))))) (fk Q) [some (.ref b),some u,some (.int (F:Int)),some w,some (.int c),some (.int 0),some pv,none,none,none,none,none] H:=by
 have bnd:∀{k:Nat}{n:NT}{c:Int},Ly bo t k n c->k<=F+1->gO n<=1000000:=λ{k n c} ly hk=>by have:=(ug bok wt ly).2;have:k*(20*t.size)<=10*(20*t.size):=bU _ (by lia);lia
 refine⟨PU H₀ b u F bo t,
  ⟨_,.mk s0 ly na ou (by lia)⟩,?_⟩
 clear ly na ou s0;rintro m σ H1 @⟨k,n,c,w,pv,j7,j8,j9,j10,j11,_,s1,ly,na,ou,hk⟩;refine⟨rfl,_,rfl,?_⟩;rcases ou with⟨rfl,hf⟩|⟨l,p,rfl,hf,hl⟩
 ·refine eU rfl (eU rfl ?_);refine⟨fL,λr hr=>?_⟩;have s2:=dS (o:=.tup [w,.int (k:Int)]) hr;exact kk r w n c k _ (s1.trans s2) ly (na.same s2) dP hk λ_=>hf
 ·refine fI rfl ?_;refine⟨_,rfl,?_⟩;by_cases hkF:k<=F
  ·refine fI (decide_eq_true (by lia)) ?_;refine⟨Lt (PU H₀ b u F bo t) (F+1-k),λ_ _ h=>h,?_⟩;exact vm hb B bok wt s1 ly na hf hl (bnd ly hk) (λn' c' l'=>bnd l' (by lia)) λn' c' w2 pv j7 j8 j9 j10 j11 H' s' ly' na' pth'=>⟨F+1-(k+1),by lia,.mk s' ly' na' pth' (by lia)⟩
  ·refine eU (decide_eq_false (by lia)) ?_;refine⟨fL,λr hr=>?_⟩;have s2:=dS (o:=.tup [w,.int (k:Int)]) hr;exact kk r w n c k _ (s1.trans s2) ly (na.same s2) dP hk λz=>absurd z hkF
theorem P5(h:pW vs H Q E):N3 K (fk Q) (start ["_law_book","_law_piece","_law_fuel","_law_tree","_law_count","_law_many","_law_path","_law_node","_law_k","_law_stamp","_law_given","_law_body"] vs) H:=by
 obtain⟨b,v1,v2,v3,u,t,bo,F,rfl,hb,B,du,bok,wt,hz,hF,kk⟩:=h;refine(λd0 hd0=>?_);obtain⟨H1,s1,g1,e1⟩:=nw (o:=.dK []) hd0;rw[e1];refine⟨t,u,"",d0,[],Dg,0,rfl,du.mono (dW s1),by lia,g1,λw=>.inl ⟨rfl,rfl⟩,λr w H2 s2 n2 hr=>?_⟩;have s12:=s1.trans s2;refine⟨eD.of hr,rfl,rfl,?_⟩;have ly0:Ly bo t 0 _ _:=.zero;have hz0:=(ug bok wt ly0).2;refine⟨_,w,rfl,n2,by lia,λp l H3 hf s3 hl=>?_,λH3 hf s3=>?_⟩
 ·exact py hb B bok wt hz hF kk (s12.trans s3) ly0 (n2.same s3) (.inr ⟨l,p,rfl,hf,hl⟩)
 ·exact py hb B bok wt hz hF kk (s12.trans s3) ly0 (n2.same s3) (.inl ⟨rfl,hf⟩)
end S8
namespace S4
open PySem L2 SW S9 S8
structure Sm where
 (v:Option Int) (c d:Nat)
abbrev kR:=Str->Option Sm
abbrev lA:=Str->List Sm->Sm
def kR.put(e:kR)(w:Str)(s:Sm):kR:=λy=>if y=w then some s else e y
def DI:Sm:=⟨none,0,1⟩
def lk(e:kR)(w:Str):Sm:=(e w).getD DI
def vD(x y:Option Int):Option Int:=x.bind λi=>y.bind λj=>some (i+j)
def mS(x y:Option Int):Option Int:=x.bind λi=>y.bind λj=>some (i-j)
def wn(x y z:Option Int):Option Int:=x.bind λi=>if i=0 then z else y
def M(sem:lA):T->kR->Sm
 | .num n,_=>⟨some n,1,1⟩
 | .name w,e=>⟨(lk e w).v,(lk e w).c+1,(lk e w).d⟩
 | .sum a b,e=>⟨vD (M sem a e).v (M sem b e).v,(M sem a e).c+(M sem b e).c+2,max (M sem a e).d (M sem b e).d+2⟩
 | .less a b,e=>⟨mS (M sem a e).v (M sem b e).v,(M sem a e).c+(M sem b e).c+2,max (M sem a e).d (M sem b e).d+2⟩
 | .cho a b c,e=>⟨wn (M sem a e).v (M sem b e).v (M sem c e).v,(M sem a e).c+(M sem b e).c+(M sem c e).c+2,max (M sem a e).d (max (M sem b e).d (M sem c e).d)+2⟩
 | .lt w a b,e=>⟨(M sem a e).v.bind λ_=>(M sem b (e.put w ⟨(M sem a e).v,1,1⟩)).v,(M sem a e).c+(M sem b (e.put w ⟨(M sem a e).v,1,1⟩)).c+2,max (M sem a e).d (M sem b (e.put w ⟨(M sem a e).v,1,1⟩)).d+2⟩
 | .st0 w,_=>sem w []
 | .st1 w a,e=>sem w [M sem a e]
 | .st2 w a b,e=>sem w [M sem a e,M sem b e]
theorem gp{S:Str->Nat->Prop}{sem sem':lA}(h:∀w as,S w as.length->sem w as=sem' w as):∀(t:T)(e:kR),WT S t->M sem t e=M sem' t e
 | .num _,_,_=>rfl
 | .name _,_,_=>rfl
 | .sum a b,e,k=>by simp only[M,gp h a e k.1,gp h b e k.2]
 | .less a b,e,k=>by simp only[M,gp h a e k.1,gp h b e k.2]
 | .cho a b c,e,k=>by simp only[M,gp h a e k.1,gp h b e k.2.1,gp h c e k.2.2]
 | .lt w a b,e,k=>by simp only[M,gp h a e k.2.1,gp h b _ k.2.2]
 | .st0 w,_,k=>h w [] k
 | .st1 w a,e,k=>by simp only[M,gp h a e k.2];exact h w [_] k.1
 | .st2 w a b,e,k=>by simp only[M,gp h a e k.2.1,gp h b e k.2.2];exact h w [_,_] k.1
def ww(sem:lA):Prop:=∀w as bs,as.map Sm.v=bs.map Sm.v->(sem w as).v=(sem w bs).v
theorem lH{e:kR}:lk (e.put w s) y=if y=w then s else lk e y:=by unfold lk kR.put;split<;>rfl
theorem x8{e e':kR}(h:∀w,(lk e w).v=(lk e' w).v)(hs:s.v=s'.v)(x:Str):∀w,(lk (e.put x s) w).v=(lk (e'.put x s') w).v:=λw=>by
 rw[lH,lH];split
 ·exact hs
 ·exact h w
theorem tU{sem:lA}(hv:ww sem):∀(t:T)(e e':kR),(∀w,(lk e w).v=(lk e' w).v)->(M sem t e).v=(M sem t e').v
 | .num _,_,_,_=>rfl
 | .name w,_,_,h=>h w
 | .sum a b,e,e',h=>by simp only[M,tU hv a e e' h,tU hv b e e' h]
 | .less a b,e,e',h=>by simp only[M,tU hv a e e' h,tU hv b e e' h]
 | .cho a b c,e,e',h=>by simp only[M,tU hv a e e' h,tU hv b e e' h,tU hv c e e' h]
 | .lt w a b,e,e',h=>by have h1:=tU hv a e e' h;have h2:=tU hv b _ _ (x8 h (s:=⟨(M sem a e).v,1,1⟩) (s':=⟨(M sem a e').v,1,1⟩) h1 w);simp only[M,h1,h2];rw[h1]at h2;rw[h2]
 | .st0 w,_,_,_=>rfl
 | .st1 w a,e,e',h=>hv w _ _ (by simp[tU hv a e e' h])
 | .st2 w a b,e,e',h=>hv w _ _ (by simp[tU hv a e e' h,tU hv b e e' h])
def AN(sem:lA)(C:Nat):Prop:=∀w as m,1<=m->(∀a∈as,a.d<=m)->(sem w as).d<=C+m
theorem yA{e:kR}(h:∀w,(lk e w).d<=m)(hs:s.d<=m)(x:Str):∀w,(lk (e.put x s) w).d<=m:=λw=>by
 rw[lH];split
 ·exact hs
 ·exact h w
theorem vH{sem:lA}{C m:Nat}(hd:AN sem C)(hm:1<=m):∀(t:T)(e:kR),(∀w,(lk e w).d<=m)->(M sem t e).d<=t.size*(C+2)+m
 | .num _,_,_=>by simp only[M];lia
 | .name w,_,h=>by have:=h w;simp only[M];lia
 | .sum a b,e,h=>by have:=vH hd hm a e h;have:=vH hd hm b e h;simp only[M,T.size,aa];lia
 | .less a b,e,h=>by have:=vH hd hm a e h;have:=vH hd hm b e h;simp only[M,T.size,aa];lia
 | .cho a b c,e,h=>by have:=vH hd hm a e h;have:=vH hd hm b e h;have:=vH hd hm c e h;simp only[M,T.size,aa];lia
 | .lt w a b,e,h=>by have:=vH hd hm a e h;have:=vH hd hm b _ (yA h (s:=⟨(M sem a e).v,1,1⟩) hm w);simp only[M,T.size,aa];lia
 | .st0 w,_,h=>by have:=hd w [] m hm (by simp);simp only[M,T.size];lia
 | .st1 w a,e,h=>by have:=vH hd hm a e h;have:=hd w [M sem a e] (a.size*(C+2)+m) (by lia) (by simpa);simp only[M,T.size,aa];lia
 | .st2 w a b,e,h=>by have:=vH hd hm a e h;have:=vH hd hm b e h;have:=hd w [M sem a e,M sem b e] (a.size*(C+2)+b.size*(C+2)+m) (by lia) (by simp only[aB,aG,or_false];rintro x (rfl|rfl)<;>lia);simp only[M,T.size,aa];lia
def up(s:Sm):Sm:=⟨s.v,s.c+1,s.d⟩
section
variable (bo:Bo)(kn:kR)
def s0:lA:=λ_ _=>DI
def s1:lA:=λw _=>if w="star" then up (M s0 bo.x kn)else DI
def s2:lA:=λw as=>if w="sta" then up (M (s1 bo kn) bo.y (kn.put (oM bo.e) (as.getD 0 DI)))else s1 bo kn w as
def s3:lA:=λw as=>if w="st" then up (M (s2 bo kn) bo.z ((kn.put (oM bo.e) (as.getD 0 DI)).put (uS bo.e) (as.getD 1 DI)))else s2 bo kn w as
end
theorem Cu{as bs:List Sm}(h:as.map Sm.v=bs.map Sm.v)(i:Nat):(as.getD i DI).v=(bs.getD i DI).v:=by
 have e:∀l:List Sm,(l.getD i DI).v=(l.map Sm.v).getD i none:=λl=>by rw[cA,cA,aT];cases l[i]?<;>rfl
 rw[e,e,h]
theorem Cw{as:List Sm}(hm:1<=m)(h:∀a∈as,a.d<=m)(i:Nat):(as.getD i DI).d<=m:=by
 rw[cA];cases e:as[i]? with
 | none=>exact hm
 | some a=>exact h a (aZ e)
structure Ky(bo:Bo)(kn:kR)(sem:lA):Prop where
 v:ww sem
 d:AN sem 1000
 x:sem "star" []=up (M sem bo.x kn)
 y:∀a,sem "sta" [a]=up (M sem bo.y (kn.put (oM bo.e) a))
 z:∀a b,sem "st" [a,b]=up (M sem bo.z ((kn.put (oM bo.e) a).put (uS bo.e) b))
theorem MY(K:xF bo)(hk:∀w,(lk kn w).d<=1):Ky bo kn (s3 bo kn):=by
 have n1:("star":Str)≠"st":=by decide
 have n2:("star":Str)≠"sta":=by decide
 have n3:("sta":Str)≠"st":=by decide
 have v0:ww s0:=λ_ _ _ _=>rfl;have v1:ww (s1 bo kn):=λw as bs h=>rfl;have v2:ww (s2 bo kn):=λw as bs h=>by
  unfold s2;split
  ·exact tU v1 _ _ _ (x8 (λ_=>rfl) (Cu h 0) _)
  ·rfl
 have v3:ww (s3 bo kn):=λw as bs h=>by
  unfold s3;split
  ·exact tU v2 _ _ _ (x8 (x8 (λ_=>rfl) (Cu h 0) _) (Cu h 1) _)
  ·exact v2 w as bs h
 have d0:AN s0 0:=λw as m hm _=>by show 1<=_;lia
 have d1:AN (s1 bo kn) 8:=λw as m hm _=>by have:=vH d0 (aC 1) bo.x kn hk;have:=K.z1;unfold s1 up DI;split<;>simp only<;>lia
 have d2:AN (s2 bo kn) 80:=λw as m hm ha=>by
  have z:=d1 w as m hm ha;have:=K.z2.1;have:=vH d1 hm bo.y _ (yA (λw=>aP (hk w) hm) (Cw hm ha 0) (oM bo.e));unfold s2;split
  ·simp only[up];lia
  ·lia
 have d3:AN (s3 bo kn) 1000:=λw as m hm ha=>by
  have z:=d2 w as m hm ha;have:=K.z3.1;have:=vH d2 hm bo.z _ (yA (yA (λw=>aP (hk w) hm) (Cw hm ha 0) (oM bo.e)) (Cw hm ha 1) (uS bo.e));unfold s3;split
  ·simp only[up];lia
  ·lia
 have e1:∀as,s3 bo kn "star" as=s1 bo kn "star" as:=λas=>by rw[s3,if_neg n1,s2,if_neg n2]
 have e2:∀as,s3 bo kn "sta" as=s2 bo kn "sta" as:=λas=>by rw[s3,if_neg n3]
 have c1:∀(w:Str)(as:List Sm),(w="star"/\as.length=0)->s1 bo kn w as=s3 bo kn w as:=by rintro _ as ⟨rfl,_⟩;exact(e1 as).symm
 refine⟨v3,d3,?_,λa=>?_,λa b=>?_⟩
 ·rw[e1,s1,if_pos rfl,gp (S:=λ_ _=>False) (λ_ _ z=>z.elim) bo.x kn K.w1]
 ·rw[e2,s2,if_pos rfl,gp c1 bo.y _ K.w2];rfl
 ·rw[s3,if_pos rfl,gp (sem':=s3 bo kn) (λw as z=>?_) bo.z _ K.w3]
  ·rfl
  rcases z with z|⟨rfl,_⟩
  ·rw[<-c1 w as z,z.1,s2,if_neg n2]
  ·exact(e2 as).symm
abbrev xB:=Int->Option Int
def Da(k:Str)(x:V)(e:xB)(v:Option Int):xB:=if k="let" then λj=>if x=.int j then v else e j else e
def sf(v:Option Int):Sm:=⟨v,0,1⟩
def Dh(sem:lA)(g:Gv)(k:Str)(x:V)(e:xB)(vs:List (Option Int)):Option Int:=
 if k="number" then(match x with|.int n=>some n|_=>none)
 else if k="name" then(match x with|.int i=>e i|.str w=>g w|_=>none)
 else if k="stamp" then(match x with|.str w=>(sem w (vs.map sf)).v|_=>none)
 else match vs with
  | [a,b]=>if k="let" then a.bind λ_=>b else if k="sum" then vD a b else mS a b
  | [a,b,c]=>wn a b c
  | _=>none
mutual
def jd(sem:lA)(g:Gv):NT->xB->Option Int
 | .mk k x _ _ ks,e=>Dh sem g k x e (wY sem g k x ks e)
def wY(sem:lA)(g:Gv)(k:Str)(x:V):List NT->xB->List (Option Int)
 | [],_=>[]
 | n::ns,e=>jd sem g n e::wY sem g k x ns (Da k x e (jd sem g n e))
end
section
variable {sem:lA}{g:Gv}
theorem yZ{n n':NT}(h:∀e,jd sem g n' e=jd sem g n e):∀{ks:List NT}{i:Nat}(e:xB),ks[i]?=some n->wY sem g k x (ks.set i n') e=wY sem g k x ks e
 | m::ks,0,e,z=>by
  obtain rfl:m=n:=by simpa using z
  simp only[cC,wY,h]
 | m::ks,i+1,e,z=>by simp only[cf,wY];rw[yZ h _ (by simpa using z)]
theorem yU{m m':NT}(h:∀e,jd sem g m' e=jd sem g m e):∀{p:List Nat}{n:NT}(e:xB),iC n p=some m->jd sem g (iG n p m') e=jd sem g n e
 | [],n,e,z=>by
  obtain rfl:n=m:=by simpa[iC]using z
  simp only[iG];exact h e
 | i::p,.mk k x s q ks,e,z=>by
  simp only[iC]at z;cases hk:ks[i]? with
  | none=>rw[hk]at z;cases z
  | some n=>rw[hk]at z;simp only[iG,hk,jd];rw[yZ (λe=>yU h e z) e hk]
mutual
theorem C2:∀{n:NT}{e e':xB},Lo c n->(∀j,j<=c->e j=e' j)->jd sem g n e=jd sem g n e'
 | .mk k x s q ks,e,e',l,h=>by
  obtain⟨l1,l2⟩:=l.inv;have hk:=C5 (k:=k) (x:=x) l2 (λz i ei=>l1 (.inr z) i ei) h;simp only[jd,hk,Dh];split
  ·rfl
  split
  ·rename_i z;cases x<;>first|rfl|exact h _ (l1 (.inl z) _ rfl)
  ·rfl
theorem C5{k:Str}{x:V}:∀{ks:List NT}{e e':xB},(∀n∈ks,Lo c n)->(k="let"->∀i,x=.int i->i<=c)->(∀j,j<=c->e j=e' j)->wY sem g k x ks e=wY sem g k x ks e'
 | [],_,_,_,_,_=>rfl
 | n::ks,e,e',l,lx,h=>by
  have h1:=C2 (l n (by simp)) h;simp only[wY,h1];rw[C5 (λm hm=>l m (by simp[hm])) lx λj hj=>?_];unfold Da;split
  ·simp only;split
   ·rfl
   ·exact h j hj
  ·exact h j hj
end
theorem KA:("let":Str)≠"number"/\("let":Str)≠"name"/\("let":Str)≠"stamp":=by decide
theorem JV:("sum":Str)≠"number"/\("sum":Str)≠"name"/\("sum":Str)≠"stamp"/\("sum":Str)≠"let":=by decide
theorem KC:("less":Str)≠"number"/\("less":Str)≠"name"/\("less":Str)≠"stamp"/\("less":Str)≠"let"/\("less":Str)≠"sum":=by decide
theorem Ka:("choose":Str)≠"number"/\("choose":Str)≠"name"/\("choose":Str)≠"stamp"/\("choose":Str)≠"let":=by decide
theorem va:("stamp":Str)≠"number"/\("stamp":Str)≠"name"/\("stamp":Str)≠"let":=by decide
theorem CY:("name":Str)≠"number":=by decide
theorem yW:jd sem g (.mk "number" (.int n) s q []) e=some n:=by simp[jd,Dh]
theorem C3:jd sem g (.mk "name" (.int i) s q []) e=e i:=by simp[jd,Dh,CY]
theorem yV:jd sem g (.mk "name" (.str w) s q []) e=g w:=by simp[jd,Dh,CY]
theorem yT:jd sem g (.mk "sum" x s q [a,b]) e=vD (jd sem g a e) (jd sem g b e):=by simp[jd,wY,Dh,Da,JV]
theorem uv:jd sem g (.mk "less" x s q [a,b]) e=mS (jd sem g a e) (jd sem g b e):=by simp[jd,wY,Dh,Da,KC]
theorem yY:jd sem g (.mk "choose" x s q [a,b,c]) e=wn (jd sem g a e) (jd sem g b e) (jd sem g c e):=by simp[jd,wY,Dh,Da,Ka]
theorem yX:jd sem g (.mk "let" x s q [a,b]) e=(jd sem g a e).bind λ_=>jd sem g b (λj=>if x=.int j then jd sem g a e else e j):=by simp[jd,wY,Dh,Da,KA]
theorem C4:∀(ks:List NT)(e:xB),wY sem g "stamp" x ks e=ks.map λn=>jd sem g n e
 | [],_=>rfl
 | n::ks,e=>by simp only[wY,Da,if_neg va.2.2,aV,C4 ks]
theorem su:jd sem g (.mk "stamp" (.str w) s q ks) e=(sem w (ks.map λn=>sf (jd sem g n e))).v:=by simp only[jd,Dh,C4,if_neg va.1,if_neg va.2.1,if_pos,bN];rfl
def uw(sem:lA)(g:Gv)(giv:Gi)(o:Ow)(e:xB):kR:=λw=>some (sf (match o w with
 | some i=>e i
 | none=>(match giv w with
  | some n=>jd sem g n e
  | none=>g w)))
theorem ik(hv:ww sem){giv:Gi}{c:Int}(hg:∀w n,giv w=some n->Lo c n):∀(t:T)(p:List Int)(o:Ow)(i:Nat)(e:xB),(∀w id,o w=some id->id<=c+i)->jd sem g (nt c src giv t p o i) e=(M sem t (uw sem g giv o e)).v
 | .num n,p,o,i,e,ho=>by simp only[nt,eQ,yW,M]
 | .name w,p,o,i,e,ho=>by
  simp only[nt,eQ,M,lk,uw,bH,sf];cases h1:o w with
  | some id=>simp only[C3]
  | none=>
   simp only;cases h2:giv w with
   | some n=>simp only
   | none=>simp only[yV]
 | .sum a b,p,o,i,e,ho=>by simp only[nt,eQ,yT,M,ik hv hg a _ o (i+1) e λw id z=>by have:=ho w id z;lia,ik hv hg b _ o (i+1+a.size) e λw id z=>by have:=ho w id z;lia]
 | .less a b,p,o,i,e,ho=>by simp only[nt,eQ,uv,M,ik hv hg a _ o (i+1) e λw id z=>by have:=ho w id z;lia,ik hv hg b _ o (i+1+a.size) e λw id z=>by have:=ho w id z;lia]
 | .cho a b d,p,o,i,e,ho=>by simp only[nt,eQ,yY,M,ik hv hg a _ o (i+1) e λw id z=>by have:=ho w id z;lia,ik hv hg b _ o (i+1+a.size) e λw id z=>by have:=ho w id z;lia,ik hv hg d _ o (i+1+a.size+b.size) e λw id z=>by have:=ho w id z;lia]
 | .lt w a b,p,o,i,e,ho=>by
  have h1:=ik (src:=src) hv hg a (p++[0]) o (i+1) e λw id z=>by have:=ho w id z;lia
  simp only[nt,eQ,yX,M,h1]
  congr 1
  funext _;rw[ik hv hg b _ _ _ _ λy id z=>?_]
  ·refine tU hv b _ _ λy=>?_;rw[lH];simp only[lk,uw,bH,sf,Ow.put];by_cases hy:y=w
   ·simp[hy,show c+(i:Int)+1=c+((i:Int)+1) by lia]
   ·simp only[if_neg hy];cases h2:o y with
    | some id=>have:=ho y id h2;simp only;rw[if_neg (λz=>by cases z;lia)]
    | none=>
     simp only;cases h3:giv y with
     | some n=>exact C2 (hg y n h3) λj hj=>if_neg λz=>by cases z;lia
     | none=>rfl
  ·simp only[Ow.put]at z;split at z
   ·cases z;lia
   ·have:=ho y id z;lia
 | .st0 w,p,o,i,e,ho=>by simp only[nt,eQ,su,M];rfl
 | .st1 w a,p,o,i,e,ho=>by simp only[nt,eQ,su,M];exact hv w _ _ (by simp[sf,ik hv hg a (p++[0]) o (i+1) e λw id z=>by have:=ho w id z;lia])
 | .st2 w a b,p,o,i,e,ho=>by simp only[nt,eQ,su,M];exact hv w _ _ (by simp[sf,ik hv hg a (p++[0]) o (i+1) e λw id z=>by have:=ho w id z;lia,ik hv hg b (p++[1]) o (i+1+a.size) e λw id z=>by have:=ho w id z;lia])
theorem MZ{n:NT}{tt:T}{f:Fo}{b:Ba}(h:Gs ws f b tt n):∀{e:xB}{G:Gv},(∀w i,f w=some i->b i=some w->G w=e i)->(∀w,f w=none->G w=g w)->jd sem g n e=ev tt G:=by
 induction h with
 | num=>intros;rw[yW];rfl
 | bound _ e1 e2=>intro e G h1 h2;rw[C3];exact(h1 _ _ e1 e2).symm
 | free _ e1=>intro e G h1 h2;rw[yV];exact(h2 _ e1).symm
 | sum _ _ i1 i2=>intro e G h1 h2;rw[yT,i1 h1 h2,i2 h1 h2];rfl
 | less _ _ i1 i2=>intro e G h1 h2;rw[uv,i1 h1 h2,i2 h1 h2];rfl
 | cho _ _ _ i1 i2 i3=>intro e G h1 h2;rw[yY,i1 h1 h2,i2 h1 h2,i3 h1 h2];rfl
 | lt _ _ _ i1 i2=>
  rename_i f b x i t1 t2 n1 n2 _ _ _ _ _;intro e G h1 h2;rw[yX,i1 h1 h2];simp only[ev];cases hx:ev t1 G with
  | none=>rfl
  | some v=>
   simp only[cg];refine i2 (λw j e1 e2=>?_) λw e1=>?_
   ·by_cases hw:w=x
    ·subst hw;rw[sq]at e1;cases e1;simp[Gv.put]
    ·rw[jp hw]at e1;have hj:j≠i:=λz=>by subst z;rw[yh]at e2;cases e2;exact hw rfl
     rw[pE hj]at e2;simp only[Gv.put,if_neg hw];rw[if_neg (λz=>hj (by cases z;rfl))];exact h1 w j e1 e2
   ·have hw:w≠x:=λz=>by subst z;rw[sq]at e1;cases e1
    rw[jp hw]at e1;simp only[Gv.put,if_neg hw];exact h2 w e1
end
def jv(g:Gv):kR:=λw=>(g w).map λx=>⟨some x,1,1⟩
theorem Cj{g:Gv}:(lk (jv g) w).v=g w:=by unfold lk jv;cases g w<;>rfl
theorem Fb{g:Gv}:(lk (jv g) w).d<=1:=by unfold lk jv;cases g w<;>exact aC _
theorem Ki{bo:Bo}{g:Gv}{sem:lA}(F:Ky bo (jv g) sem){c:Int}(B:yq bo w ks giv body)(hl:∀n∈ks,Lo c n)(e:xB):
  jd sem g (nt c w giv body [] Ow.none 0) e=jd sem g (.mk "stamp" (.str w) src path ks) e:=by
 rw[ik F.v (λv n=>my B hl v n) body [] Ow.none 0 e (λw id z=>by cases z),su];cases B with
 | star=>simp only[bA,F.x,up];exact tU F.v _ _ _ λw=>by rw[Cj];rfl
 | sta=>
  simp only[aV,bA,F.y,up];refine tU F.v _ _ _ λw=>?_;rw[lH];simp only[lk,uw,Ow.none,Ge,bH,sf];by_cases z:w=oM bo.e
  ·simp[z]
  ·simp only[if_neg z];exact Cj.symm
 | st=>
  simp only[aV,bA,F.z,up];refine tU F.v _ _ _ λw=>?_;rw[lH,lH];simp only[lk,uw,Ow.none,Df,bH,sf];by_cases z1:w=oM bo.e
  ·have z2:w≠uS bo.e:=λz=>wD bo.e (z1.symm.trans z);simp[z1,wD]
  ·by_cases z2:w=uS bo.e
   ·simp[z2,(wD bo.e).symm]
   ·simp only[if_neg z1,if_neg z2];exact Cj.symm
theorem MK{bo:Bo}{g:Gv}{sem:lA}(F:Ky bo (jv g) sem){n:NT}{c:Int}(h:Ly bo t k n c)(e:xB):jd sem g n e=(M sem t (jv g)).v:=by
 induction h with
 | zero=>rw[ik F.v (λv n z=>by cases z) t [] Ow.none 0 e (λw id z=>by cases z)];exact tU F.v _ _ _ λw=>by rw[Cj];rfl
 | succ l _ gt B ih=>have lo:=(se (GY l) gt).inv.2;rw[yU (λe=>Ki F B lo e) e gt];exact ih
theorem uN{bo:Bo}{g:Gv}{sem:lA}(F:Ky bo (jv g) sem){n:NT}{c:Int}(h:Ly bo t k n c)(G:Gs ws f0 Mi tt n):ev tt g=(M sem t (jv g)).v:=by rw[<-MK F h (λ_=>none)];exact(MZ G (λw i z=>by cases z) λw _=>rfl).symm
abbrev wA(W:Bool):Str:=cond W "begin" "piece"
abbrev wB(W:Bool):Str:=cond W "end" "rest"
mutual
inductive xD(W:Bool)(H:Hp)(sem:lA)(S:Str->Nat->Prop):Option Sm->Option V->Prop where
 | none:xD W H sem S none none
 | int{x:Int}:W=true->xD W H sem S (some ⟨some x,1,1⟩) (some (.int x))
 | num{x:Int}{p:Addr}{z:V}:W=false->H p=some (.tup [.str "number",.int x,z])->xD W H sem S (some ⟨some x,1,1⟩) (some (.ref p))
 | hand{p d:Addr}{v:V}{t:T}{e:kR}{n:Nat}:W=false->H p=some (.tup [.str "handed",v,.ref d])->fc H t v->WX Wd S t->lN W H sem S d e n->n+t.size<=5000->xD W H sem S (some (M sem t e)) (some (.ref p))
inductive lN(W:Bool)(H:Hp)(sem:lA)(S:Str->Nat->Prop):Addr->kR->Nat->Prop where
 | mk{d:Addr}{e:kR}{kvs:List (fB×V)}:H d=some (.dK kvs)->(∀w:Str,xD W H sem S (e w) (fP kvs (.inr w:fB)))->lN W H sem S d e kvs.length
end
structure Le(H H':Hp):Prop where
 t:fF H H'
 k:vI H H'
theorem Le.of(s:dq H H'):Le H H':=⟨dW s,im s⟩
theorem Le.trans(a:Le H H1)(b:Le H1 H2):Le H H2:=⟨λc xs h=>b.t c xs (a.t c xs h),λc xs h=>b.k c xs (a.k c xs h)⟩
theorem Le.upd(s:dq H H')(h:H st=some (.lst us)):Le H (upd H' st o):=(Le.of s).trans ⟨fA (s _ _ h),mJ (s _ _ h)⟩
section
variable {W:Bool}{H H':Hp}{sem:lA}{S:Str->Nat->Prop}
mutual
theorem xD.mono(l:Le H H'):∀{s:Option Sm}{v:Option V},xD W H sem S s v->xD W H' sem S s v
 | _,_,.none=>.none
 | _,_,.int h=>.int h
 | _,_,.num a h=>.num a (l.t _ _ h)
 | _,_,.hand a h1 h2 h3 h4 h5=>.hand a (l.t _ _ h1) (h2.mono l.t) h3 (lN.mono l h4) h5
theorem lN.mono(l:Le H H'):∀{d:Addr}{e:kR}{n:Nat},lN W H sem S d e n->lN W H' sem S d e n
 | _,_,_,.mk h1 h2=>.mk (l.k _ _ h1) λw=>xD.mono l (h2 w)
end
theorem wZ{e:kR}{kvs:List (fB×V)}(h:∀w:Str,xD W H sem S (e w) (fP kvs (.inr w:fB)))(hu:xD W H sem S (some s) (some u))(w:Str):∀y:Str,xD W H sem S (e.put w s y) (fP (fh kvs (.inr w:fB) u) (.inr y:fB)):=λy=>by
 rw[mP];unfold kR.put;by_cases z:y=w
 ·rw[if_pos z,if_pos (by rw[z])];exact hu
 ·rw[if_neg z,if_neg λq=>z (Sum.inr.inj q)];exact h y
inductive Km(W:Bool)(H:Hp)(sem:lA)(S:Str->Nat->Prop)(e:kR)(v z:V):T->Prop where
 | num{n:Int}:fc H (.num n) v->Km W H sem S e v z (.num n)
 | at{t:T}{d:Addr}{n:Nat}:z=.ref d->fc H t v->WX Wd S t->lN W H sem S d e n->n+t.size<=5000->Km W H sem S e v z t
theorem Km.mono(l:Le H H'):Km W H sem S e v z t->Km W H' sem S e v z t
 | .num a=>.num (a.mono l.t)
 | .at a b c d e=>.at a (b.mono l.t) c (d.mono l) e
inductive Ms(W:Bool)(H:Hp)(sem:lA)(S:Str->Nat->Prop)(R:Option Int):List V->List Int->Nat->Prop where
 | nil{x:Int}:R=some x->Ms W H sem S R [] [x] 0
 | piece{p:Addr}{v z:V}{t:T}{e:kR}{us:List V}{ns:List Int}{m:Nat}:H p=some (.tup [.str (wA W),v,z])->Km W H sem S e v z t->us.length+(M sem t e).d<=50000->ns.length<=us.length->
   (∀x,(M sem t e).v=some x->Ms W H sem S R us (x::ns) m)->((M sem t e).v=none->R=none)->Ms W H sem S R (.ref p::us) ns (m+(M sem t e).c)
 | two{p q:Addr}{z u1 u2:V}{us:List V}{x y:Int}{ns:List Int}{m:Nat}(k:Bool):H p=some (.tup [.str (wB W),.ref q,z])->H q=some (.tup [.str (if k then "less" else "sum"),u1,u2])->us.length<=50000->ns.length<=us.length->
   Ms W H sem S R us ((if k then x-y else x+y)::ns) m->Ms W H sem S R (.ref p::us) (y::x::ns) (m+1)
 | cho{p q:Addr}{z u1 u2 u3:V}{t:T}{e:kR}{us:List V}{x:Int}{ns:List Int}{m c:Nat}:H p=some (.tup [.str (wB W),.ref q,z])->H q=some (.tup [.str "choose",u1,u2,u3])->Km W H sem S e (if x=0 then u3 else u2) z t->us.length+(M sem t e).d<=50000->ns.length<=us.length->
   (∀x,(M sem t e).v=some x->Ms W H sem S R us (x::ns) m)->((M sem t e).v=none->R=none)->(M sem t e).c<c->Ms W H sem S R (.ref p::us) (x::ns) (m+c)
 | lt{p q d:Addr}{u1 u2:V}{w:Str}{t:T}{e:kR}{us:List V}{x:Int}{ns:List Int}{m n:Nat}:H p=some (.tup [.str (wB W),.ref q,.ref d])->H q=some (.tup [.str "let",.str w,u1,u2])->fc H t u2->WX Wd S t->lN W H sem S d e n->n+1+t.size<=5000->us.length+(M sem t (e.put w ⟨some x,1,1⟩)).d<=50000->ns.length<=us.length->
   (∀y,(M sem t (e.put w ⟨some x,1,1⟩)).v=some y->Ms W H sem S R us (y::ns) m)->((M sem t (e.put w ⟨some x,1,1⟩)).v=none->R=none)->Ms W H sem S R (.ref p::us) (x::ns) (m+(M sem t (e.put w ⟨some x,1,1⟩)).c+1)
theorem Ms.mono(l:Le H H')(h:Ms W H sem S R us ns m):Ms W H' sem S R us ns m:=by
 induction h with
 | nil a=>exact .nil a
 | piece a b c d _ f ih=>exact .piece (l.t _ _ a) (b.mono l) c d ih f
 | two k a b c d _ ih=>exact .two k (l.t _ _ a) (l.t _ _ b) c d ih
 | cho a b c d e _ g i ih=>exact .cho (l.t _ _ a) (l.t _ _ b) (c.mono l) d e ih g i
 | lt a b c d e f g i _ j ih=>exact .lt (l.t _ _ a) (l.t _ _ b) (c.mono l.t) d (e.mono l) f g i ih j
theorem Ms.top(h:Ms W H sem S R (u::us) ns m):∃p v z,∃k:Bool,u=.ref p/\H p=some (.tup [.str (cond k (wB W) (wA W)),v,z]):=by
 cases h with
 | piece a=>exact⟨_,_,_,false,rfl,a⟩
 | two _ a=>exact⟨_,_,_,true,rfl,a⟩
 | cho a=>exact⟨_,_,_,true,rfl,a⟩
 | lt a=>exact⟨_,_,_,true,rfl,a⟩
theorem lj{a b c a' b' c':V}(h:H p=some (.tup [a,b,c]))(k:H p=some (.tup [a',b',c'])):a=a'/\b=b'/\c=c':=by cases h.symm.trans k;exact⟨rfl,rfl,rfl⟩
end
def oQ(ns:List Int):List V:=ns.reverse.map V.int
theorem i6(n:Int)(ns:List Int):oQ (n::ns)=oQ ns++[.int n]:=by simp[oQ]
theorem lc(ns:List Int):(oQ ns).length=ns.length:=by simp[oQ]
structure B4(H₀ H:Hp)(st nu:Addr)(us:List V)(ns:List Int):Prop where
 same:dq H₀ H
 n1:H₀ st=none
 n2:H₀ nu=none
 ne:st≠nu
 st_:H st=some (.lst us.reverse)
 nu_:H nu=some (.lst (oQ ns))
section
variable {H₀ H H':Hp}{st nu:Addr}{us us':List V}{ns ns':List Int}
theorem B4.grow(B:B4 H₀ H st nu us ns)(s:dq H H'):B4 H₀ H' st nu us ns:=⟨B.same.trans s,B.n1,B.n2,B.ne,s _ _ B.st_,s _ _ B.nu_⟩
theorem B4.sst(B:B4 H₀ H st nu us ns)(e:l=us'.reverse):B4 H₀ (upd H st (.lst l)) st nu us' ns:=⟨eJ B.same B.n1,B.n1,B.n2,B.ne,by rw[e,dP],by rw[dY B.ne.symm];exact B.nu_⟩
theorem B4.snu(B:B4 H₀ H st nu us ns)(e:l=oQ ns'):B4 H₀ (upd H nu (.lst l)) st nu us ns':=⟨eJ B.same B.n2,B.n1,B.n2,B.ne,by rw[dY B.ne];exact B.st_,by rw[e,dP]⟩
theorem B4.tp(B:B4 H₀ H st nu (u::us) ns):H st=some (.lst (us.reverse++[u])):=by rw[B.st_,aj]
end
section
variable {K:aA}{H₀ H:Hp}{st nu:Addr}{us:List V}{ns:List Int}{σ:St}{D:fz}{te tz:TE}{s:Str}{z:V}{P:V->Hp->Prop}{r:TS}{x y:Int}{i j:Nat}
theorem vK(P:V->Hp->Prop)(B:B4 H₀ H st nu us ns)(hl:us.length<=100000)(h1:∀Q:VK,(∀v H',dq H H'->P v H'->Q v H')->te σ H Q)(h2:∀H',dq H H'->∀Q:VK,Q z H'->tz σ H' Q)
  (k:∀p v H1 H2,P v H1->dq H H1->B4 H₀ H2 st nu (.ref p::us) ns->Le H1 H2->H2 p=some (.tup [.str s,v,z])->D.nx σ H2) (hi:σ[i]?=some (some (.ref st)):=by rfl):
  (eX (iW K "list" eE (dJ i) (dI (ef (dI (tC (.str s)) (dI te (dI tz dQ)))) dQ))) D σ H:=by
 refine nmQ.of hi ⟨.inl ⟨rfl,_,eL.of B.st_⟩,h1 _ λv H1 s1 pv=>h2 H1 s1 _ ⟨fL,eY λp H3 hp s3 g3=>?_⟩⟩;have B3:=B.grow (s1.trans s3);exact⟨B3.st_,by rw[bG,sizeLine_eq];lia,k p v H1 _ pv s1 (B3.sst (by rw[aj])) (.upd s3 (s1 _ _ B.st_)) (fA B3.st_ _ _ g3)⟩
theorem zj(B:B4 H₀ H st nu us (y::ns))(k:∀H2,B4 H₀ H2 st nu us ns->Le H H2->r D (σ.set j (some (.int y))) H2)(hi:σ[3]?=some (some (.ref nu)):=by rfl):(dZ (eB (jG K "list" jH (dJ 3)) (dR j)) r) D σ H:=by have hn:=B.nu_;rw[i6]at hn;refine nmQ.of hi ⟨.inl ⟨rfl,_,eL.of hn⟩,hn,iO,?_⟩;rw[gk];exact k _ (B.snu rfl) (.upd (λ_ _ h=>h) hn)
theorem NM{f:Int->Int->Int}(B:B4 H₀ H st nu us (x::ns))(hl:ns.length<=100000)(k:∀H2,B4 H₀ H2 st nu us (f x y::ns)->Le H H2->D.nx σ H2)(hi:σ[3]?=some (some (.ref nu)):=by rfl)(hy:σ[j]?=some (some (.int y)):=by rfl):
  (eX (iW K "list" eE (dJ 3) (dI (dj (vx λi j=>.int (f i j)) (jG K "list" jH (dJ 3)) (dJ j)) dQ))) D σ H:=by
 have hn:=B.nu_;rw[i6]at hn;refine nmQ.of hi ⟨.inl ⟨rfl,_,eL.of hn⟩,nmQ.of hi ⟨.inl ⟨rfl,_,eL.of hn⟩,hn,iO,nmQ.of hy ?_⟩⟩;rw[gk];have B2:B4 H₀ (upd H nu (.lst (oQ ns))) st nu us ns:=B.snu rfl;exact⟨B2.nu_,by rw[lc,sizeLine_eq];lia,k _ (B2.snu (by rw[i6])) ((Le.upd (λ_ _ h=>h) hn).trans (.upd (λ_ _ h=>h) B2.nu_))⟩
end
def ED(K:aA):TS:=(eX (iW K "list" eE (dJ 3) (dI (dj kH (jG K "list" jH (dJ 3)) (dJ 8)) dQ)))
def EC(K:aA):TS:=(eX (iW K "list" eE (dJ 3) (dI (dj ib (jG K "list" jH (dJ 3)) (dJ 8)) dQ)))
def xN(K:aA):TS:=(eX (iW K "list" eE (dJ 4) (dI (ef (dI (tC (.str "piece")) (dI (dj (dy K) (dJ 6) (dj (fu K) (fG (dI (tC (.int 2)) (dI (tC (.int 3)) dQ))) (gx Fs (dI (dj ic (dJ 8) (tC (.int 0))) dQ)))) (dI (dJ 7) dQ)))) dQ)))
def EB(K:aA):TS:=(dZ (eB (gx qO (dI (dJ 7) dQ)) (dR 9)) (dZ (jl (dJ 9) (dj (dy K) (dJ 6) (tC (.int 1))) (ef (dI (tC (.str "number")) (dI (dJ 8) (dI iF dQ))))) (eX (iW K "list" eE (dJ 4) (dI (ef (dI (tC (.str "piece")) (dI (dj (dy K) (dJ 6) (tC (.int 3))) (dI (dJ 9) dQ)))) dQ)))))
def EA(K:aA):TS:=(fE (dz (dj ic (dj (dy K) (dJ 6) (tC (.int 0))) (tC (.str "choose")))) (xN K) (EB K))
def D9(K:aA):TS:=(fE (dz (dj ic (dj (dy K) (dJ 6) (tC (.int 0))) (tC (.str "less")))) (EC K) (EA K))
def D8(K:aA):TS:=(fE (dz (dj ic (dj (dy K) (dJ 6) (tC (.int 0))) (tC (.str "sum")))) (ED K) (D9 K))
def rV(K:aA):TS:=(dZ (eB (jG K "list" jH (dJ 3)) (dR 8)) (D8 K))
def D7(K:aA):TS:=(eX (iW K "list" eE (dJ 3) (dI (dj (dy K) (dJ 6) (tC (.int 1))) dQ)))
def A7(K:aA):TS:=(fD (tC .non))
def A6(K:aA):TS:=(fE (tB (lQ (dj (dy K) (dJ 6) (tC (.int 1))) (dJ 7))) (A7 K) fC)
def A5(K:aA):TS:=(eB (ef (dI (tC (.str "piece")) (dI (dj (dy K) (kC (dJ 7) (dj (dy K) (dJ 6) (tC (.int 1)))) (tC (.int 1))) (dI (dj (dy K) (kC (dJ 7) (dj (dy K) (dJ 6) (tC (.int 1)))) (tC (.int 2))) dQ)))) (KN (dJ 4) (mQ gQ (tC (.int 1))) B9))
def A4(K:aA):TS:=(fE (dz (dj Dc (dj (dy K) (kC (dJ 7) (dj (dy K) (dJ 6) (tC (.int 1)))) (tC (.int 0))) (tC (.str "number")))) (A5 K) fC)
def A0(K:aA):TS:=(dZ (A6 K) (dZ (eX (iW K "list" eE (dJ 4) (dI (ef (dI (tC (.str "piece")) (dI (nB (zf K) (kC (dJ 7) (dj (dy K) (dJ 6) (tC (.int 1)))) fg (fi (tC (.int 2)))) (dI (dj (dy K) (kC (dJ 7) (dj (dy K) (dJ 6) (tC (.int 1)))) (tC (.int 2))) dQ)))) dQ))) (A4 K)))
def Az(K:aA):TS:=(jl (dJ 9) (dj (fu K) (dj (dy K) (dJ 10) (tC (.int 1))) (dJ 11)) (ef (dI (tC (.str "handed")) (dI (dj (dy K) (dJ 6) (dj kH (tC (.int 2)) (dJ 11))) (dI (dJ 7) dQ)))))
def uB(K:aA):TS:=(dZ (eB (dj (fu K) (BQ 1 (iT K (dJ 0)) (dR 0) (dz (dj ic (dj (dy K) (dJ 0) (tC (.int 0))) (dj (dy K) (dJ 1) (tC (.int 1))))) (dJ 0) [6]) (tC (.int 0))) (dR 10)) (dZ (eB (gx qO (dI (dJ 2) dQ)) (dR 9)) (dZ (iV (yN (dI (gx (ga K) (dI (dj (dy K) (dJ 10) (tC (.int 1))) dQ)) dQ)) (dR 11) (Az K)) (eX (iW K "list" eE (dJ 4) (dI (ef (dI (tC (.str "piece")) (dI (dj (dy K) (dJ 10) (tC (.int 2))) (dI (dJ 9) dQ)))) dQ))))))
def Ay(K:aA):TS:=(eX (iW K "list" eE (dJ 4) (dI (ef (dI (tC (.str "piece")) (dI (dj (dy K) (dJ 6) (tC (.int 2))) (dI (dJ 7) dQ)))) dQ)))
def Ax(K:aA):TS:=(fE (dz (dj (Je K false) (dj (dy K) (dJ 6) (tC (.int 0))) (fG (dI (tC (.str "sum")) (dI (tC (.str "less")) dQ))))) (Ay K) fC)
def pM(K:aA):TS:=(dZ (eX (iW K "list" eE (dJ 4) (dI (ef (dI (tC (.str "rest")) (dI (dJ 6) (dI (dJ 7) dQ)))) dQ))) (dZ (Ax K) (eX (iW K "list" eE (dJ 4) (dI (ef (dI (tC (.str "piece")) (dI (dj (dy K) (dJ 6) (dj kH (tC (.int 1)) (gx Fs (dI (dj ic (dj (dy K) (dJ 6) (tC (.int 0))) (tC (.str "let"))) dQ)))) (dI (dJ 7) dQ)))) dQ)))))
def Aw(K:aA):TS:=(fE (dz (dj ic (dj (dy K) (dJ 6) (tC (.int 0))) (tC (.str "stamp")))) (uB K) (pM K))
def Av(K:aA):TS:=(fE (dz (dj ic (dj (dy K) (dJ 6) (tC (.int 0))) (tC (.str "name")))) (A0 K) (Aw K))
def kA(K:aA):TS:=(fE (dz (dj ic (dj (dy K) (dJ 6) (tC (.int 0))) (tC (.str "number")))) (D7 K) (Av K))
def Au(K:aA):TS:=(fE (dz (dj ic (dJ 5) (tC (.str "rest")))) (rV K) (kA K))
def As(K:aA):TS:=(dZ (eB (jG K "list" jH (dJ 4)) (nq K 3 (gR (dR 5) (gR (dR 6) (gR (dR 7) oA))))) (Au K))
def LA(K:aA):TS:=(dZ (eB (fG dQ) (dR 3)) (dZ (eB (fG (dI (ef (dI (tC (.str "piece")) (dI (dJ 1) (dI (dJ 2) dQ)))) dQ)) (dR 4)) (dZ (gi (dz (dj (lE K) (dJ 4) (fG dQ))) (As K)) (fD (dj (fu K) (dJ 3) (tC (.int 0)))))))
abbrev sg(b d nu st:Addr)(v:V)(j5 j6 j7 j8 j9 j10 j11:Option V):St:=[some (.ref b),some v,some (.ref d),some (.ref nu),some (.ref st),j5,j6,j7,j8,j9,j10,j11]
def Nx(H₀:Hp)(sem:lA)(S:Str->Nat->Prop)(R:Option Int)(b d nu st:Addr)(v:V)(m:Nat)(D:fz):Prop:=
 ∀(us:List V)(ns:List Int)(m':Nat)(H:Hp)(j5 j6 j7 j8 j9 j10 j11:Option V),B4 H₀ H st nu us ns->Ms false H sem S R us ns m'->m'<m->D.nx (sg b d nu st v j5 j6 j7 j8 j9 j10 j11) H
section
variable {K:aA}{H₀ H:Hp}{sem:lA}{S:Str->Nat->Prop}{R:Option Int}{b d nu st p:Addr}{v v' z:V}{m:Nat}{D:fz}{us:List V}{ns:List Int}{j5 j8 j9 j10 j11:Option V}
theorem FY(B:B4 H₀ H st nu us ns)(hp:H p=some (.tup [.str "rest",v',z]))(ms:Ms false H sem S R (.ref p::us) ns m)(nx:Nx H₀ sem S R b d nu st v m D):
  rV K D (sg b d nu st v j5 (some v') (some z) j8 j9 j10 j11) H:=by
 unfold rV;cases ms with
 | piece a=>exact absurd (lj hp a).1 (by decide)
 | @two _ q _ u1 u2 _ x y ns m k a hq hl hn ms=>
  obtain⟨_,rfl,rfl⟩:=lj hp a;refine zj B λH1 B1 l1=>?_;have q1:=l1.t _ _ hq;cases k with
  | false=>exact⟨eD.of q1,gF,rfl,_,rfl,fI (by decide) (NM (f:=λi j=>i+j) (y:=y) B1 (by lia) λH2 B2 l2=>nx _ _ _ _ _ _ _ _ _ _ _ B2 (ms.mono (l1.trans l2)) (aq _))⟩
  | true=>exact⟨eD.of q1,gF,rfl,_,rfl,eU (by decide) ⟨eD.of q1,gF,rfl,_,rfl,fI (by decide) (NM (f:=λi j=>i-j) (y:=y) B1 (by lia) λH2 B2 l2=>nx _ _ _ _ _ _ _ _ _ _ _ B2 (ms.mono (l1.trans l2)) (aq _))⟩⟩
 | @cho _ q _ u1 u2 u3 t e _ x ns m c a hq it hl hn h1 h2 hc=>
  obtain⟨_,rfl,rfl⟩:=lj hp a;refine zj B λH1 B1 l1=>?_;have q1:=l1.t _ _ hq;refine⟨eD.of q1,gF,rfl,_,rfl,eU (by decide) ⟨eD.of q1,gF,rfl,_,rfl,eU (by decide) ⟨eD.of q1,gF,rfl,_,rfl,fI (by decide) ?_⟩⟩⟩;unfold xN;refine vK (λv _=>v=if x=0 then u3 else u2) (z:=z) B1 (by lia) (λQ k=>⟨fL,eY λl H2 _ s2 g2=>⟨rfl,.inr ⟨_,rfl,?_⟩⟩⟩) (λ_ _ Q k=>k) λp v H2 H3 hv s2 B3 l3 hp=>?_
  ·by_cases hx:x=0
   ·subst hx;exact⟨eL.of g2,iM,eD.of (s2 _ _ q1),rL,k _ _ s2 rfl⟩
   ·have e:decide (V.int x=V.int 0)=false:=decide_eq_false λz=>hx (V.int.inj z);rw[e];exact⟨eL.of g2,gF,eD.of (s2 _ _ q1),tY,k _ _ s2 (by rw[if_neg hx])⟩
  ·have l:=l1.trans ((Le.of s2).trans l3);exact nx _ _ _ _ _ _ _ _ _ _ _ B3 (.piece hp ((hv▸it).mono l) hl hn (λx h=>(h1 x h).mono l) h2) (by lia)
 | @lt _ q d' u1 u2 w t e _ x ns m n a hq dn wt ev hz hl hn h1 h2=>
  obtain⟨_,rfl,rfl⟩:=lj hp a;refine zj B λH1 B1 l1=>?_;have q1:=l1.t _ _ hq;refine⟨eD.of q1,gF,rfl,_,rfl,eU (by decide) ⟨eD.of q1,gF,rfl,_,rfl,eU (by decide) ⟨eD.of q1,gF,rfl,_,rfl,eU (by decide) ?_⟩⟩⟩;have ev1:=ev.mono l1;cases ev1 with
  | @mk _ _ kvs hk hE=>
  refine⟨d',kvs,rfl,.inl hk,eY λdd H2 hd s2 g2=>?_⟩;refine λy3 hy3=>?_;have s3:=dS (o:=.dK []) hy3;generalize upd H2 y3 (.dK [])=H3 at s3⊢;refine⟨fL,eY λq4 H4 _ s4 g4=>?_⟩;have s34:=s3.trans s4;have s24:=s2.trans s34;have hpl:=gG kvs (.inr w:fB) (.ref q4);refine⟨eD.of (s24 _ _ q1),iM,lO.k (k:=.inr w) (s34 _ _ g2) (by rw[sizeLine_eq];lia),?_⟩;have s5:dq H1 (upd H4 dd (.dK (fh kvs (.inr w:fB) (.ref q4)))):=eJ s24 hd;have q5:=(uA (o:=.dK (fh kvs (.inr w:fB) (.ref q4))) (s34 _ _ g2)) _ _ g4;have g5:(upd H4 dd (.dK (fh kvs (.inr w:fB) (.ref q4)))) dd=some (.dK (fh kvs (.inr w:fB) (.ref q4))):=dP;generalize upd H4 dd (.dK (fh kvs (.inr w:fB) (.ref q4)))=H5 at s5 q5 g5⊢;have e5:=lN.mk g5 (wZ (λy=>(hE y).mono (Le.of s5)) (.num rfl q5) w);dsimp only[fz.thn];refine vK (λv _=>v=u2) (z:=.ref dd) (B1.grow s5) (by lia) (λQ k=>⟨eD.of (s5 _ _ q1),rL,k _ _ (λ_ _ h=>h) rfl⟩) (λ_ _ Q k=>k) λp v H6 H7 hv s6 B7 l7 hp=>?_;have l57:=(Le.of s6).trans l7;have l:=l1.trans ((Le.of s5).trans l57);subst hv;exact nx _ _ _ _ _ _ _ _ _ _ _ B7 (.piece hp (.at rfl (dn.mono l.t) wt (e5.mono l57) (by lia)) hl hn (λx h=>(h1 x h).mono l) h2) (aq _)
end
structure Pc(H₀ H:Hp)(sem:lA)(S:Str->Nat->Prop)(R:Option Int)(b d nu st:Addr)(v:V)(us:List V)(ns:List Int)(m:Nat)(D:fz)(t:T)(e:kR):Prop where
 B:B4 H₀ H st nu us ns
 hl:us.length+(M sem t e).d<=50000
 hn:ns.length<=us.length
 h1:∀x,(M sem t e).v=some x->Ms false H sem S R us (x::ns) m
 h2:(M sem t e).v=none->R=none
 nx:Nx H₀ sem S R b d nu st v (m+(M sem t e).c) D
 hN:∀H',dq H₀ H'->R=none->D.rt .non H'
section
variable {W:Bool}{K:aA}{H₀ H:Hp}{sem:lA}{S:Str->Nat->Prop}{R:Option Int}{b d nu st p q d':Addr}{v z u1 u2 u3:V}{m c n:Nat}{D:fz}{us:List V}{ns:List Int}{x y:Int}{j5 j8 j9 j10 j11:Option V}{t a:T}{e:kR}{w:Str}
theorem Fd{a:V}:AS (us++[a]).length (-1)=some us.length:=by unfold AS;simp;lia
theorem FZ(P:Pc H₀ H sem S R b d nu st v us ns m D (.name w) e)(hp:H p=some (.tup [.str "name",.str w]))(ev:lN false H sem S d' e n):
  kA K D (sg b d nu st v j5 (some (.ref p)) (some (.ref d')) j8 j9 j10 j11) H:=by
 cases ev with
 | @mk _ _ kvs hk hE=>
 refine⟨eD.of hp,gF,rfl,_,rfl,eU (by decide) ⟨eD.of hp,gF,rfl,_,rfl,fI (by decide) ?_⟩⟩;have dg:∀{H'},vI H H'->iR H' d' (.str w) (fP kvs (.inr w:fB)):=λl=>iR.k (k:=.inr w) (l _ _ hk);have hw:=hE w;have hl:=P.hl;have h1:=P.h1;have h2:=P.h2;have nx:=P.nx;simp only[M,lk]at hl h1 h2 nx;refine⟨eD.of hp,iM,dg (λ_ _ h=>h),_,rfl,?_⟩;generalize e w=s at hw hl h1 h2 nx;generalize fP kvs (.inr w:fB)=o at hw dg⊢;cases hw with
 | none=>exact fI rfl (P.hN _ P.B.same (h2 rfl))
 | int z=>cases z
 | @num x pz zz _ e3=>
  refine eU rfl ?_;dsimp only[fC,dZ,fz.thn];refine vK (λv H'=>fc H' (.num x) v) (z:=zz) P.B (by lia) (λQ k=>⟨eD.of hp,iM,dg (λ_ _ h=>h),eD.of e3,(show ¬(HT.kG 3 0 none=0/\HT.kG 3 3 (some 2)=3) by decide),eY λq2 H2 _ s2 g2=>k _ _ s2 ⟨q2,rfl,g2⟩⟩)
   (λH' s Q k=>⟨eD.of (s _ _ hp),iM,dg (im s),eD.of (s _ _ e3),tY,k⟩) λp3 v3 H2 H3 hv s2 B3 l3 hp3=>?_
  have l:=(Le.of s2).trans l3;refine⟨eD.of (l.t _ _ hp),iM,dg l.k,eD.of (l.t _ _ e3),gF,rfl,_,rfl,eU (by decide) (nx _ _ _ _ _ _ _ _ _ _ _ B3 (.piece (t:=.num x) (e:=e) (m:=m) hp3 (.num (hv.mono l3.t)) hl P.hn (λx h=>(h1 x h).mono l) h2) ?_)⟩;show m+1<m+(1+1);lia
 | @hand pz dh vz t' e' n' _ e3 dn wt ev hz=>
  refine eU rfl ?_;dsimp only[fC,dZ,fz.thn];refine vK (λ_ _=>True) (z:=.ref dh) P.B (by lia) (λQ k=>⟨eD.of hp,iM,dg (λ_ _ h=>h),eD.of e3,(show ¬(HT.kG 3 0 none=0/\HT.kG 3 3 (some 2)=3) by decide),eY λq2 H2 _ s2 g2=>k _ _ s2 trivial⟩)
   (λH' s Q k=>⟨eD.of (s _ _ hp),iM,dg (im s),eD.of (s _ _ e3),tY,k⟩) λp3 v3 H2 H3 hv s2 B3 l3 hp3=>?_
  have l:=(Le.of s2).trans l3;refine⟨eD.of (l.t _ _ hp),iM,dg l.k,eD.of (l.t _ _ e3),gF,rfl,_,rfl,fI (by decide) ⟨eD.of (l.t _ _ hp),iM,dg l.k,eD.of (l.t _ _ e3),iM,eD.of (l.t _ _ hp),iM,dg l.k,eD.of (l.t _ _ e3),tY,fL,eY λq4 H4 _ s4 g4=>?_⟩⟩;have B4':=B3.grow s4;refine⟨B4'.tp,Fd,?_⟩;rw[List.set_append_right _ _ (aC _),bB,cC];have l4:=l.trans (.upd (o:=.lst (us.reverse++[.ref q4])) s4 B3.st_);exact nx _ _ _ _ _ _ _ _ _ _ _ (B4'.sst (us':=.ref q4::us) aj.symm) (.piece (t:=t') (e:=e') (m:=m) (fA B4'.st_ _ _ g4) (.at rfl (dn.mono l4.t) wt (ev.mono l4) hz) hl P.hn (λx h=>(h1 x h).mono l4) h2) (aq _)
inductive Bn(W:Bool)(H:Hp)(sem:lA)(S:Str->Nat->Prop)(R:Option Int)(us:List V)(ns:List Int)(m:Nat)(d':Addr)(t:T)(e:kR)(p:Addr):Prop where
 | two{u1 u2:V}(k:Bool)(hp:H p=some (.tup [.str (if k then "less" else "sum"),u1,u2]))(f:∀H7 p1 p4 p6,Le H H7->H7 p1=some (.tup [.str (wB W),.ref p,.ref d'])->H7 p4=some (.tup [.str (wA W),u2,.ref d'])->H7 p6=some (.tup [.str (wA W),u1,.ref d'])->∃m',m'<m+(M sem t e).c/\Ms W H7 sem S R (.ref p6::.ref p4::.ref p1::us) ns m'):Bn W H sem S R us ns m d' t e p
 | one{u1:V}{r:List V}(k:Bool)(hp:H p=some (.tup (.str (if k then "let" else "choose")::r)))(hr:r[if k then 1 else 0]?=some u1)(f:∀H7 p1 p6,Le H H7->H7 p1=some (.tup [.str (wB W),.ref p,.ref d'])->H7 p6=some (.tup [.str (wA W),u1,.ref d'])->∃m',m'<m+(M sem t e).c/\Ms W H7 sem S R (.ref p6::.ref p1::us) ns m'):Bn W H sem S R us ns m d' t e p
theorem DJ(k:Bool){a b':T}(hp:H p=some (.tup [.str (if k then "less" else "sum"),u1,u2]))(da:fc H a u1)(db:fc H b' u2)(wa:WX Wd S a)(wb:WX Wd S b')(ev:lN W H sem S d' e n)(hz:n+(a.size+b'.size+1)<=5000)
  (hl:us.length+(M sem (if k then .less a b' else .sum a b') e).d<=50000) (hn:ns.length<=us.length) (h1:∀x,(M sem (if k then .less a b' else .sum a b') e).v=some x->Ms W H sem S R us (x::ns) m) (h2:(M sem (if k then .less a b' else .sum a b') e).v=none->R=none):
  Bn W H sem S R us ns m d' (if k then .less a b' else .sum a b') e p:=by
 have hM:M sem (if k then .less a b' else .sum a b') e=⟨if k then mS (M sem a e).v (M sem b' e).v else vD (M sem a e).v (M sem b' e).v,(M sem a e).c+(M sem b' e).c+2,max (M sem a e).d (M sem b' e).d+2⟩:=by cases k<;>rfl
 simp only[hM]at hl h1 h2;refine .two k hp λH7 p1 p4 p6 l hp1 hp4 hp6=>⟨m+1+(M sem b' e).c+(M sem a e).c,by rw[hM];show _<m+(_+_+2);lia,?_⟩;have e7:=ev.mono l;refine .piece hp6 (.at rfl (da.mono l.t) wa e7 (by lia)) (by simp only[aD];lia) (by simp only[aD];lia) (λx hx=>?_) λhx=>h2 (by cases k<;>simp[hx,mS,vD]);refine .piece hp4 (.at rfl (db.mono l.t) wb e7 (by lia)) (by simp only[aD];lia) (by simp only[aD];lia) (λy hy=>?_) λhy=>h2 (by cases k<;>simp[hx,hy,mS,vD]);exact .two k hp1 (l.t _ _ hp) (by lia) hn ((h1 _ (by cases k<;>simp[hx,hy,mS,vD])).mono l)
theorem DK(k:Bool){r:List V}(hp:H p=some (.tup (.str (if k then "let" else "choose")::r)))(hr:r[if k then 1 else 0]?=some u1)(da:fc H a u1)(wa:WX Wd S a)(ev:lN W H sem S d' e n)(hz:n+a.size<=5000)(hl:us.length+(M sem t e).d<=50000)(hn:ns.length<=us.length)(h2:(M sem t e).v=none->R=none)
  (hd:(M sem a e).d+2<=(M sem t e).d) (m':Nat) (hm:m'+(M sem a e).c<m+(M sem t e).c) (hv:(M sem a e).v=none->(M sem t e).v=none) (rest:∀p1 H7 x,Le H H7->H7 p1=some (.tup [.str (wB W),.ref p,.ref d'])->(M sem a e).v=some x->Ms W H7 sem S R (.ref p1::us) (x::ns) m'):Bn W H sem S R us ns m d' t e p:=
 .one k hp hr λH7 p1 p6 l hp1 hp6=>⟨_,hm,.piece hp6 (.at rfl (da.mono l.t) wa (ev.mono l) hz) (by simp only[aD];lia) (by simp only[aD];lia) (λx hx=>rest p1 H7 x l hp1 hx) λhx=>h2 (hv hx)⟩
theorem Gj(dn:fc H t v)(wt:WX Wd S t)(ev:lN W H sem S d' e n)(hz:n+t.size<=5000)(hl:us.length+(M sem t e).d<=50000)(hn:ns.length<=us.length)(h1:∀x,(M sem t e).v=some x->Ms W H sem S R us (x::ns) m)(h2:(M sem t e).v=none->R=none)(hi:MT t):∃p,v=.ref p/\Bn W H sem S R us ns m d' t e p:=by
 cases t with
 | sum a b'=>obtain⟨p,x1,y1,rfl,hp,d1,d2⟩:=dn;exact⟨p,rfl,DJ false hp d1 d2 wt.1 wt.2 ev hz hl hn h1 h2⟩
 | less a b'=>obtain⟨p,x1,y1,rfl,hp,d1,d2⟩:=dn;exact⟨p,rfl,DJ true hp d1 d2 wt.1 wt.2 ev hz hl hn h1 h2⟩
 | cho a b' c=>
  obtain⟨p,x1,y1,z1,rfl,hp,d1,d2,d3⟩:=dn;simp only[T.size]at hz;refine⟨p,rfl,DK false hp rfl d1 wt.1 ev (by lia) hl hn h2 (by simp only[M];lia) (m+((M sem b' e).c+(M sem c e).c+1)) (by simp only[M];lia) (λh=>by simp[M,wn,h]) λp1 H7 x l hp1 hx=>?_⟩;simp only[M]at hl h1 h2;by_cases hx0:x=0
  ·simp only[wn,hx,cg,if_pos hx0]at h1 h2;exact .cho (t:=c) (e:=e) hp1 (l.t _ _ hp) (by rw[if_pos hx0];exact .at rfl (d3.mono l.t) wt.2.2 (ev.mono l) (by lia)) (by lia) hn (λx h=>(h1 x h).mono l) h2 (by lia)
  ·simp only[wn,hx,cg,if_neg hx0]at h1 h2;exact .cho (t:=b') (e:=e) hp1 (l.t _ _ hp) (by rw[if_neg hx0];exact .at rfl (d2.mono l.t) wt.2.1 (ev.mono l) (by lia)) (by lia) hn (λx h=>(h1 x h).mono l) h2 (by lia)
 | lt w a b'=>obtain⟨p,x1,y1,rfl,hp,d1,d2⟩:=dn;simp only[T.size]at hz;have:=a.size_pos;refine⟨p,rfl,DK true hp rfl d1 wt.1 ev (by lia) hl hn h2 (by simp only[M];lia) (m+(M sem b' (e.put w ⟨(M sem a e).v,1,1⟩)).c+1) (by simp only[M];lia) (λh=>by simp[M,h]) λp1 H7 x l hp1 hx=>?_⟩;simp only[M]at hl h1 h2;rw[hx]at hl h1 h2⊢;exact .lt hp1 (l.t _ _ hp) (d2.mono l.t) wt.2 (ev.mono l) (by lia) (by lia) hn (λy h=>(h1 y h).mono l) h2
 | _=>exact hi.elim
theorem MJ(P:Pc H₀ H sem S R b d nu st v us ns m D t e)(hb:Bn false H sem S R us ns m d' t e p):
  kA K D (sg b d nu st v j5 (some (.ref p)) (some (.ref d')) j8 j9 j10 j11) H:=by
 have hl:=P.hl;cases hb with
 | @two u1 u2 k hp f=>
  refine⟨eD.of hp,gF,rfl,_,rfl,eU (by cases k<;>decide) ⟨eD.of hp,gF,rfl,_,rfl,eU (by cases k<;>decide) ⟨eD.of hp,gF,rfl,_,rfl,eU (by cases k<;>decide) ?_⟩⟩⟩;dsimp only[pM,dZ,fz.thn];refine vK (λv _=>v=.ref p) (z:=.ref d') P.B (by lia) (λQ k=>k _ _ (λ_ _ h=>h) rfl) (λ_ _ Q k=>k) λp1 v1 H1 H2 hv s1 B2 l2 hp1=>?_;subst hv;have l02:=(Le.of s1).trans l2;have q2:=l02.t _ _ hp;refine⟨eD.of q2,gF,fL,eY λl3 H3 _ s3 g3=>⟨.inl (eL.of g3),rfl,rfl,_,rfl,fI (by cases k<;>decide) ?_⟩⟩;have q3:=s3 _ _ q2;refine vK (λv _=>v=u2) (z:=.ref d') (B2.grow s3) (by simp only[aD];lia) (λQ k=>⟨eD.of q3,tY,k _ _ (λ_ _ h=>h) rfl⟩) (λ_ _ Q k=>k) λp4 v4 H4 H5 hv s4 B5 l5 hp4=>?_;subst hv;have l25:=(Le.of s3).trans ((Le.of s4).trans l5);have q5:=l25.t _ _ q2;dsimp only[fz.thn];refine vK (λv _=>v=u1) (z:=.ref d') B5 (by simp only[aD];lia) (λQ kk=>⟨eD.of q5,gF,rfl,.inr ⟨_,rfl,eD.of q5,(?_:nC _ _=some u1),kk _ _ (λ_ _ h=>h) rfl⟩⟩) (λ_ _ Q k=>k) λp6 v6 H6 H7 hv s6 B7 l7 hp6=>?_
  ·rw[show decide (V.str (if k then "less" else "sum")=V.str "let")=false by cases k<;>decide];exact iM
  subst hv;have l57:=(Le.of s6).trans l7;have l27:=l25.trans l57;obtain⟨m',hm,ms⟩:=f H7 p1 p4 p6 (l02.trans l27) (l27.t _ _ hp1) (l57.t _ _ hp4) hp6;exact P.nx _ _ _ _ _ _ _ _ _ _ _ B7 ms hm
 | @one u1 r k hp hr f=>
  refine⟨eD.of hp,gF,rfl,_,rfl,eU (by cases k<;>decide) ⟨eD.of hp,gF,rfl,_,rfl,eU (by cases k<;>decide) ⟨eD.of hp,gF,rfl,_,rfl,eU (by cases k<;>decide) ?_⟩⟩⟩;dsimp only[pM,dZ,fz.thn];refine vK (λv _=>v=.ref p) (z:=.ref d') P.B (by lia) (λQ k=>k _ _ (λ_ _ h=>h) rfl) (λ_ _ Q k=>k) λp1 v1 H1 H2 hv s1 B2 l2 hp1=>?_;subst hv;have l02:=(Le.of s1).trans l2;have q2:=l02.t _ _ hp;refine⟨eD.of q2,gF,fL,eY λl3 H3 _ s3 g3=>⟨.inl (eL.of g3),rfl,rfl,_,rfl,eU (by cases k<;>decide) ?_⟩⟩;have q3:=s3 _ _ q2;dsimp only[fC,fz.thn];refine vK (λv _=>v=u1) (z:=.ref d') (B2.grow s3) (by simp only[aD];lia) (λQ kk=>⟨eD.of q3,gF,rfl,.inr ⟨_,rfl,eD.of q3,(?_:nC _ _=some u1),kk _ _ (λ_ _ h=>h) rfl⟩⟩) (λ_ _ Q k=>k) λp6 v6 H6 H7 hv s6 B7 l7 hp6=>?_
  ·cases k with
   | false=>rw[show decide (V.str (if false=true then "let" else "choose")=V.str "let")=false by decide];exact fK (j:=1) hr
   | true=>rw[show decide (V.str (if true=true then "let" else "choose")=V.str "let")=true by decide];exact fK (j:=2) hr
  subst hv;have l27:=(Le.of s3).trans ((Le.of s6).trans l7);obtain⟨m',hm,ms⟩:=f H7 p1 p6 (l02.trans l27) (l27.t _ _ hp1) hp6;exact P.nx _ _ _ _ _ _ _ _ _ _ _ B7 ms hm
end
end S4
namespace S9
open PySem L2 SW
variable {K:aA}{vs:List V}{H:Hp}{Q:VK}{E:XK}{C D:Addr}
def xp(K:aA):Sp:=λvs H Q _=>∃(a:Addr)(ns:List Int)(i:Nat),vs=[.ref a,.int i]/\eL K H a (ns.map V.int)/\∀n,Q (.int n) H
def Ej(K:aA):TS:=(fD (dj (fu K) (dJ 0) (dJ 1)))
def Ei(K:aA):TS:=(fE (dz (dj vw (dJ 1) (gx (ga K) (dI (dJ 0) dQ)))) (Ej K) fC)
def LF(K:aA):TS:=(dZ (Ei K) (fD (tC (.int 0))))
theorem OU(h:xp K vs H Q E):LF K (fk Q) (start ["_law_script","_law_k"] vs) H:=by
 obtain⟨a,ns,i,rfl,ha,hQ⟩:=h;refine⟨.inl ha,_,rfl,?_⟩;refine ir (λhlt=>?_) (λ_=>hQ 0);have hlt:(i:Int)<((ns.map V.int).length:Int):=of_decide_eq_true hlt;rw[aO]at hlt;have hi:i<ns.length:=by lia
 exact⟨ha,fK (v:=V.int ns[i]) (by rw[aT,aU hi];rfl),hQ _⟩
def oj:Sp:=λvs H Q _=>∃(l:Addr)(v1 v2 v3:V)(bo:Bo),vs=[.ref l]/\H l=some (.lst [v1,v2,v3])/\rM H v1 v2 v3 bo/\
 ∀(l':Addr)(w1 w2 w3:V)(H':Hp),dq H H'->H l'=none->H' l'=some (.lst [w1,w2,w3])->rM H' w1 w2 w3 bo->Q (.ref l') H'
theorem OT(h:oj vs H Q E):OD K (fk Q) (start ["_law_book"] vs) H:=by
 obtain⟨l,v1,v2,v3,bo,rfl,hl,B,k⟩:=h
 let bs:List (Str×List Str×G):=[("star",[],gD bo.x),("sta",[oM bo.e],gD bo.y),("st",[oM bo.e,uS bo.e],gD bo.z)]
 have hget:∀(i:Nat)(x:V),[v1,v2,v3][i]?=some x->∃b,bs[i]?=some b/\jz H b.1 b.2.1 b.2.2 x:=λi x hx=>by
  match i,hx with
  | 0,hx=>cases hx;exact⟨_,rfl,B.a⟩
  | 1,hx=>cases hx;exact⟨_,rfl,B.b⟩
  | 2,hx=>cases hx;exact⟨_,rfl,B.c⟩
  | n+3,hx=>simp at hx
 refine⟨eL.of hl,?_⟩;refine⟨λi m zs H'=>m=3-i/\i<=3/\zs.length=i/\dq H H'/\∀(j:Nat) z b,zs[j]?=some z->bs[j]?=some b->jz H' b.1 b.2.1 b.2.2 z,⟨3,by simp,aS _,rfl,λ_ _ h=>h,λj z v h=>by simp at h⟩,?_⟩;rintro i m zs H' ⟨rfl,hi,hz,s2,hw⟩;by_cases hlt:i<3
 ·refine .inr ⟨⟨_,[v1,v2,v3][i]'(by simpa using hlt),eL.of (s2 _ _ hl),aU _⟩,λx H2 y=>?_⟩;obtain⟨e,y⟩:=y;subst e;have hx:=y _ (eL.of (s2 _ _ hl));obtain⟨b,eb,q,p,v,rfl,h1,h2,h4⟩:=hget i x hx;have h1':=s2 _ _ h1;refine⟨eD.of h1',rfl,eD.of h1',rfl,.inl (eL.of (s2 _ _ h2)),λp' hp'=>?_⟩;have s3:=dS (o:=.lst (b.2.1.map V.str)) hp';have g3:(upd H2 p' (.lst (b.2.1.map V.str))) p'=some (.lst (b.2.1.map V.str)):=dP;generalize upd H2 p' (.lst (b.2.1.map V.str))=H3 at s3 g3⊢;refine⟨eD.of (s3 _ _ h1'),rfl,fL,λq' hq'=>?_⟩;have s4:=dS (o:=.tup [.str b.1,.ref p',v]) hq';have s34:=s3.trans s4;refine⟨by rw[hz,sizeLine_eq];lia,3-(i+1),by lia,rfl,hlt,by simp[hz],s2.trans s34,λj z c e1 e2=>?_⟩;rcases bE j zs.length with hj|hj
  ·rw[au hj]at e1;exact(hw j z c e1 e2).mono s34
  ·have hj2:j=i:=by have:=(aK.mp e1).1;rw[aE,a5]at this;lia
   subst hj2;rw[bC hj,hz,bB]at e1;rw[eb]at e2;cases e2;have:z=.ref q':=by simpa using e1.symm
   exact⟨q',p',v,this,dP,s4 _ _ g3,(h4.mono (dW s2)).mono (dW s34)⟩
 ·have e:i=3:=by lia
  subst e;refine .inl ⟨⟨_,eL.of (s2 _ _ hl),by simp⟩,by rw[hz,sizeLine_eq];lia,λl' hl'=>?_⟩
  match zs,hz with
  | [w1,w2,w3],_=>have s3:=dS (o:=.lst [w1,w2,w3]) hl';exact k l' w1 w2 w3 _ (s2.trans s3) (s2.free hl') dP ⟨(hw 0 w1 _ rfl rfl).mono s3,(hw 1 w2 _ rfl rfl).mono s3,(hw 2 w3 _ rfl rfl).mono s3⟩
theorem fb(h:∀w k,S w k->S' w k):∀{t:T},WT S t->WT S' t
 | .num _,a=>a
 | .name _,a=>a
 | .sum _ _,a=>⟨fb h a.1,fb h a.2⟩
 | .less _ _,a=>⟨fb h a.1,fb h a.2⟩
 | .cho _ _ _,a=>⟨fb h a.1,fb h a.2.1,fb h a.2.2⟩
 | .lt _ _ _,a=>⟨a.1,fb h a.2.1,fb h a.2.2⟩
 | .st0 _,a=>h _ _ a
 | .st1 _ _,a=>⟨h _ _ a.1,fb h a.2⟩
 | .st2 _ _ _,a=>⟨h _ _ a.1,fb h a.2.1,fb h a.2.2⟩
theorem sE:SF "star" 0:=if_pos rfl
theorem Bg:SF "sta" 1:=by unfold SF jU;rw[if_neg J7.symm,if_pos rfl]
theorem LM:SF "st" 2:=by unfold SF jU;rw[if_neg J4.symm,if_neg J3.symm,if_pos rfl]
theorem xt(h:ym w k):SF w k:=by
 rcases h with⟨rfl,rfl⟩|⟨rfl,rfl⟩|⟨rfl,rfl⟩
 ·exact LM
 ·exact Bg
 ·exact sE
theorem Bh(h:Mn w k):SF w k:=by
 rcases h with⟨rfl,rfl⟩|⟨rfl,rfl⟩
 ·exact sE
 ·exact Bg
theorem Bi(h:Mo w k):SF w k:=by obtain⟨rfl,rfl⟩:=h;exact sE
theorem vd(h:SF w k):w.length<=1000:=by
 unfold SF jU at h;split at h
 ·rename_i e;subst e;decide
 ·split at h
  ·rename_i e;subst e;decide
  ·split at h
   ·rename_i e;subst e;decide
   ·cases h
def Fy(P:G->Prop)(g:G):Prop:=∀x,xA x g->P x
theorem Fy.mk(h:P g)(k:∀x∈g.kids,Fy P x):Fy P g:=λx i=>by
 cases i with
 | refl=>exact h
 | kid hk i=>exact k _ hk x i
def Sh(g:G):Prop:=∀k w ks,g=.word k w ks->w.length<=1000
theorem i8:∀{t:T},WT SF t->Fy (λg=>Kz g/\Sh g) (gD t)
 | .num n,a=>.mk ⟨aI,λ_ _ _ e=>by cases e⟩ (λx hx=>by simp[gD,G.kids]at hx)
 | .name n,a=>.mk ⟨aI,λ_ _ _ e=>by cases e⟩ (λx hx=>by simp[gD,G.kids]at hx)
 | .sum p q,a=>.mk ⟨aI,λ_ _ _ e=>by cases e⟩ (λx hx=>by
  simp only[gD,G.kids,aB,aG,or_false]at hx;rcases hx with rfl|rfl
  ·exact i8 a.1
  ·exact i8 a.2)
 | .less p q,a=>.mk ⟨aI,λ_ _ _ e=>by cases e⟩ (λx hx=>by
  simp only[gD,G.kids,aB,aG,or_false]at hx;rcases hx with rfl|rfl
  ·exact i8 a.1
  ·exact i8 a.2)
 | .cho p q r,a=>.mk ⟨aI,λ_ _ _ e=>by cases e⟩ (λx hx=>by
  simp only[gD,G.kids,aB,aG,or_false]at hx;rcases hx with rfl|rfl|rfl
  ·exact i8 a.1
  ·exact i8 a.2.1
  ·exact i8 a.2.2)
 | .lt w p q,a=>.mk ⟨λe=>absurd e (by decide),λ_ _ _ e=>by cases e;have:=a.1.few;lia⟩ (λx hx=>by
  simp only[gD,G.kids,aB,aG,or_false]at hx;rcases hx with rfl|rfl
  ·exact i8 a.2.1
  ·exact i8 a.2.2)
 | .st0 w,a=>.mk ⟨λ_=>a,λ_ _ _ e=>by cases e;exact vd a⟩ (λx hx=>by simp[gD,G.kids]at hx)
 | .st1 w p,a=>.mk ⟨λ_=>a.1,λ_ _ _ e=>by cases e;exact vd a.1⟩ (λx hx=>by
  simp only[gD,G.kids,aB,aG,or_false]at hx;subst hx;exact i8 a.2)
 | .st2 w p q,a=>.mk ⟨λ_=>a.1,λ_ _ _ e=>by cases e;exact vd a.1⟩ (λx hx=>by
  simp only[gD,G.kids,aB,aG,or_false]at hx;rcases hx with rfl|rfl
  ·exact i8 a.2.1
  ·exact i8 a.2.2)
theorem JU(h:ky H s v):Gq H v:=by obtain⟨q,pp,e,h1,h2⟩:=h;refine⟨q,pp,s.1,s.2.map λi:Nat=>(i:Int),e,h1,?_⟩;rw[h2,bN];rfl
theorem DR:∀{as:List α}{vs:List V}{v:V},Al A as vs->v∈vs->∃a,A a v
 | _,_,_,.cons h r,m=>by
  rcases aB.mp m with rfl|m
  ·exact⟨_,h⟩
  ·exact DR r m
end S9
namespace SW
open PySem L2
theorem fm.get:∀{ts:List T}{vs:List V}{i:Nat}{x:V},fm H ts vs->vs[i]?=some x->∃t,ts[i]?=some t/\fc H t x
 | _,_,0,_,.cons a r,h=>by cases h;exact⟨_,rfl,a⟩
 | _,_,i+1,_,.cons a r,h=>fm.get (i:=i) r h
end SW
namespace S4
open PySem L2 SW S9 S8
def vy(e:kR):List Str->List Sm->kR
 | p::ps,a::as=>vy (e.put p a) ps as
 | _,_=>e
theorem qr:∀{ps:List Str}{as:List Sm}{i:Nat}{e:kR},ps[i]?=some w->as[i]?=some s->vy e (ps.take (i+1)) (as.take (i+1))=(vy e (ps.take i) (as.take i)).put w s
 | p::ps,a::as,0,e,h1,h2=>by
  cases h1;cases h2;simp[vy]
 | p::ps,a::as,i+1,e,h1,h2=>by simp only[a8,vy];exact qr (by simpa using h1) (by simpa using h2)
theorem Kf{kn:kR}(F:Ky bo kn sem)(Bo:xF bo)(BT:rM H v1 v2 v3 bo)(hw:jU w=some k):
  ∃sv ps body,oW w (yi v1 v2 v3)=[sv]/\jz H w ps (gD body) sv/\ps.length=k/\body.size<=10/\WT SF body/\∀as:List Sm,as.length=k->sem w as=up (M sem body (vy kn ps as)):=by
 have hz:=Bo.z1;have hz2:=Bo.z2.1;have hz3:=Bo.z3.1;unfold jU at hw;split at hw
 ·rename_i e;cases hw;subst e;exact⟨v1,[],bo.x,by simp[oW,yi,J7.symm,J4.symm],BT.a,rfl,by lia,fb (λw k z=>z.elim) Bo.w1,λas h=>by rw[bF.mp h,F.x];rfl⟩
 split at hw
 ·rename_i e;cases hw;subst e;refine⟨v2,[_],bo.y,by simp[oW,yi,J7,J3.symm],BT.b,rfl,by lia,fb (λw k=>Bi) Bo.w2,λas h=>?_⟩
  match as,h with
  | [a],_=>exact F.y a
 split at hw
 ·rename_i e;cases hw;subst e;refine⟨v3,[_,_],bo.z,by simp[oW,yi,J4,J3],BT.c,rfl,by lia,fb (λw k=>Bh) Bo.w3,λas h=>?_⟩
  match as,h with
  | [a,b],_=>exact F.z a b
 ·cases hw
theorem KQ(h:jU w=some k):k<=2:=by
 unfold jU at h;split at h
 ·cases h;lia
 split at h
 ·cases h;lia
 split at h
 ·cases h;lia
 ·cases h
def er(H:Hp)(a:Addr):Hp:=λc=>if c=a then none else H c
theorem sw:dq (er H a) H:=λc o h=>by
 unfold er at h;split at h
 ·cases h
 ·exact h
theorem om(s:dq H H')(h:H a=none):dq H (er H' a):=λc o e=>by unfold er;rw[if_neg λz=>by rw[z,h]at e;cases e];exact s c o e
theorem Ma(s:dq H H'):dq (er H a) (er (upd H' a o) a):=λc u e=>by
 unfold er at e⊢;split at e
 ·cases e
 ·rename_i z;rw[if_neg z,dY z];exact s c u e
structure Hd(H:Hp)(sem:lA)(S:Str->Nat->Prop)(b d:Addr)(kn:kR):Prop where
 kn_:∃n,lN false H sem S d kn n/\n<=50
 bk:∀w k,S w k->jU w=some k/\∃v1 v2 v3 bo,H b=some (.lst [v1,v2,v3])/\rM H v1 v2 v3 bo/\xF bo/\Ky bo kn sem/\∀t,WT SF t->WX Wd S t
theorem Hd.mono(s:dq H H')(h:Hd H sem S b d kn):Hd H' sem S b d kn:=
 ⟨h.kn_.imp λn z=>⟨z.1.mono (.of s),z.2⟩,λw k z=>⟨(h.bk w k z).1,(h.bk w k z).2.imp λv1 ⟨v2,v3,bo,a,b,c,d,e⟩=>⟨v2,v3,bo,s _ _ a,b.mono s,c,d,e⟩⟩⟩
section
variable {K:aA}{H₀ H:Hp}{sem:lA}{S:Str->Nat->Prop}{R:Option Int}{b d nu st p q d':Addr}{v z u1 u2 u3:V}{m c n:Nat}{D:fz}{us:List V}{ns:List Int}{x y:Int}{j5 j8 j9 j10 j11:Option V}{t a:T}{e kn:kR}{w:Str}
inductive QN(H:Hp)(sem:lA)(S:Str->Nat->Prop)(b d nu st dn q:Addr)(v:V)(j5 j6 j7 j8:Option V)(kn:kR)(ps:List Str)(as:List Sm)(n:Nat):Nat->St->Hp->Prop where
 | mk{i:Nat}{H':Hp}{kvs:List (fB×V)}{j11:Option V}(s:dq H H')(g:H' dn=some (.dK kvs))(l:kvs.length<=n+i)(h:∀y:Str,xD false (er H' dn) sem S (vy kn (ps.take i) (as.take i) y) (fP kvs (.inr y:fB))):QN H sem S b d nu st dn q v j5 j6 j7 j8 kn ps as n i (sg b d nu st v j5 j6 j7 j8 (some (.ref dn)) (some (.ref q)) j11) H'
theorem qG{as:List T}{vks:List V}(P:Pc H₀ H sem S R b d nu st v us ns m D t e)(hd:Hd H sem S b d kn)(hp:H p=some (.tup (.str "stamp"::.str w::vks)))(dl:fm H as vks)(wa:∀a∈as,WX Wd S a/\n+a.size<=5000)(ev:lN false H sem S d' e n)(hM:M sem t e=sem w (as.map λa=>M sem a e))(hS:S w as.length):
  kA K D (sg b d nu st v j5 (some (.ref p)) (some (.ref d')) j8 j9 j10 j11) H:=by
 refine⟨eD.of hp,gF,rfl,_,rfl,eU (by decide) ⟨eD.of hp,gF,rfl,_,rfl,eU (by decide) ⟨eD.of hp,gF,rfl,_,rfl,fI (by decide) ?_⟩⟩⟩;obtain⟨hf,v1,v2,v3,bo,hb,BT,Bo,F,hw⟩:=hd.bk _ _ hS;obtain⟨sv,ps,body,hpick,sat,hps,hbz,wtb,hsem⟩:=Kf F Bo BT hf;obtain⟨q,pl,x,rfl,hq,hpls,dgx⟩:=sat;have hl:=P.hl;have h1:=P.h1;have h2:=P.h2;have nx:=P.nx;rw[hM,hsem _ (by rw[aO])]at hl h1 h2 nx;have hvl:vks.length=as.length:=dl.length;have has:=KQ hf;unfold uB;refine x5 hb BT hp hpick λH2 s2=>?_;obtain⟨n0,ek,hn0⟩:=hd.kn_;cases ek.mono (Le.of s2) with
 | @mk _ _ kvs0 hk0 hE0=>
 refine⟨d,kvs0,rfl,.inl hk0,eY λdn H3 hdn s3 g3=>?_⟩;have s23:=s2.trans s3;refine⟨eD.of (s23 _ _ hq),iM,.inl (eL.of (s23 _ _ hpls)),by lia,by rw[aO,hps];lia,?_⟩;rw[bg,aO,hps];have hnd:H dn=none:=s2.free hdn;refine rD (lo:=0) (n:=as.length) (QN H sem S b d nu st dn q v j5 (some (.ref p)) (some (.ref d')) j8 kn ps (as.map λa=>M sem a e) kvs0.length)
  (.mk s23 g3 (aC _) λy=>(hE0 y).mono (.of (om s3 hdn))) ?_ ?_
 ·rintro i σ H4 hi ⟨s4,g4,l4,h4⟩;rename_i kvs j11';rw[Int.zero_add];obtain⟨vi,hvi⟩:∃vi,vks[i]?=some vi:=⟨vks[i]'(by lia),aU _⟩;obtain⟨ai,hai,dai⟩:=dl.get hvi;obtain⟨wi,hwi⟩:∃wi,ps[i]?=some wi:=⟨ps[i]'(by lia),aU _⟩;refine⟨eD.of (s4 _ _ hp),(show nC (V.str "stamp"::V.str w::vks) (2+(i:Int))=some vi by rw[show(2:Int)+i=((i+2:Nat):Int) by lia];exact fK hvi),fL,eY λq5 H5 hq5 s5 g5=>?_⟩;have hpl:=gG kvs (.inr wi:fB) (.ref q5);refine⟨eD.of ((s4.trans s5) _ _ hq),iM,eL.of ((s4.trans s5) _ _ hpls),fK (by rw[aT,hwi];rfl),lO.k (k:=.inr wi) (s5 _ _ g4) ?_,?_⟩
  ·have:kvs0.length<=50:=hn0;have:=(wa ai (aZ hai)).2;rw[sizeLine_eq];lia
  ·have ss:=om (eJ (o:=.dK (fh kvs (.inr wi:fB) (.ref q5))) (s4.trans s5) hnd) hnd;have hqd:q5≠dn:=λz=>by rw[z,g4]at hq5;cases hq5
   have hm:=aZ hai;refine .mk (eJ (s4.trans s5) hnd) dP (by lia) ?_;rw[qr hwi (by rw[aT,hai];rfl)];exact wZ (λy=>(h4 y).mono (.of (Ma s5))) (.hand rfl (show er _ dn q5=_ by rw[er,if_neg hqd,dY hqd];exact g5) (dai.mono (dW ss)) (wa ai hm).1 (ev.mono (.of ss)) (wa ai hm).2) wi
 ·rintro σ H4 ⟨s4,g4,l4,h4⟩;rw[bQ (by lia),bQ (by simp)]at h4;have q4:=s4 _ _ hq;dsimp only[fz.thn];refine vK (λv _=>v=x) (z:=.ref dn) (P.B.grow s4) (by lia) (λQ k=>⟨eD.of q4,tY,k _ _ (λ_ _ h=>h) rfl⟩) (λ_ _ Q k=>k) λp6 v6 H6 H7 hv s6 B7 l7 hp6=>?_;subst hv;have l47:=(Le.of s6).trans l7;have l:=(Le.of s4).trans l47;exact nx _ _ _ _ _ _ _ _ _ _ _ B7 (.piece (m:=m) hp6 (.at rfl ((gm dgx).mono l.t) (hw _ wtb) ((lN.mk g4 λy=>(h4 y).mono (.of sw)).mono l47) (by have:kvs0.length<=50:=hn0;lia)) hl P.hn (λx h=>(h1 x h).mono l) h2) (aq _)
end
section
variable {K:aA}{H₀ H:Hp}{sem:lA}{S:Str->Nat->Prop}{R:Option Int}{b d nu st p q d':Addr}{v v' z u1 u2 u3:V}{m c n:Nat}{D:fz}{us:List V}{ns:List Int}{x y:Int}{j5 j8 j9 j10 j11:Option V}{t a:T}{e kn:kR}{w:Str}
theorem Cd{x:Int}(P:Pc H₀ H sem S R b d nu st v us ns m D (.num x) e)(dn:fc H (.num x) v'):
  kA K D (sg b d nu st v j5 (some v') (some z) j8 j9 j10 j11) H:=by
 obtain⟨p,rfl,hp⟩:=dn;have hl:=P.hl;have hn:=P.hn;exact⟨eD.of hp,gF,rfl,_,rfl,fI (by decide) ⟨.inl ⟨rfl,_,eL.of P.B.nu_⟩,eD.of hp,iM,P.B.nu_,by rw[lc,sizeLine_eq];lia,P.nx _ _ _ _ _ _ _ _ _ _ _ (P.B.snu (by rw[i6])) ((P.h1 x rfl).mono (.upd (λ_ _ h=>h) P.B.nu_)) (aq _)⟩⟩
theorem Cc(B:B4 H₀ H st nu us ns)(hp:H p=some (.tup [.str "piece",v',z]))(ms:Ms false H sem S R (.ref p::us) ns m)(hd:Hd H sem S b d kn)(nx:Nx H₀ sem S R b d nu st v m D)(hN:∀H',dq H₀ H'->R=none->D.rt .non H'):
  kA K D (sg b d nu st v j5 (some v') (some z) j8 j9 j10 j11) H:=by
 cases ms with
 | two _ a=>exact absurd (lj hp a).1 (by decide)
 | cho a=>exact absurd (lj hp a).1 (by decide)
 | lt a=>exact absurd (lj hp a).1 (by decide)
 | @piece _ _ _ t e _ _ m a it hl hn h1 h2=>
 obtain⟨_,rfl,rfl⟩:=lj hp a;clear hp a;have P:Pc H₀ H sem S R b d nu st v us ns m D t e:=⟨B,hl,hn,h1,h2,nx,hN⟩;cases it with
 | num dn=>exact Cd P dn
 | @«at» _ d' n ez dn wt ev hz=>
 subst ez;cases t with
 | num x=>exact Cd P dn
 | name w=>obtain⟨p,rfl,hp⟩:=dn;exact FZ P hp ev
 | st0 w=>obtain⟨p,rfl,hp⟩:=dn;exact qG (as:=[]) P hd hp .nil (by simp) ev rfl wt
 | st1 w a=>obtain⟨p,x1,rfl,hp,d1⟩:=dn;simp only[T.size]at hz;exact qG (as:=[a]) P hd hp (.cons d1 .nil) (by simp only[aF];rintro _ rfl;exact⟨wt.2,by lia⟩) ev rfl wt.1
 | st2 w a b'=>obtain⟨p,x1,y1,rfl,hp,d1,d2⟩:=dn;simp only[T.size]at hz;exact qG (as:=[a,b']) P hd hp (.cons d1 (.cons d2 .nil)) (by simp only[aB,aG,or_false];exact λx hx=>hx.elim (λz=>z▸⟨wt.2.1,by lia⟩) λz=>z▸⟨wt.2.2,by lia⟩) ev rfl wt.1
 | _=>obtain⟨p,rfl,hb⟩:=Gj dn wt ev hz hl hn h1 h2 trivial;exact MJ P hb
end
inductive QX(H:Hp)(Q:VK):List V->Prop where
 | mk{sem:lA}{S:Str->Nat->Prop}{kn:kR}{b d:Addr}{t:T}{v:V}(hd:Hd H sem S b d kn)(dn:fc H t v)(wt:WX Wd S t)(hz:t.size<=4000)(hm:(M sem t kn).d<=50000)(h1:∀x H',dq H H'->(M sem t kn).v=some x->Q (.int x) H')(h2:∀H',dq H H'->(M sem t kn).v=none->Q .non H'):QX H Q [.ref b,v,.ref d]
def rj:Sp:=λvs H Q _=>QX H Q vs
inductive PQ(H₀:Hp)(sem:lA)(S:Str->Nat->Prop)(R:Option Int)(b d nu st:Addr)(v:V):Nat->St->Hp->Prop where
 | mk{H:Hp}{us:List V}{ns:List Int}{m:Nat}{j5 j6 j7 j8 j9 j10 j11:Option V}(B:B4 H₀ H st nu us ns)(ms:Ms false H sem S R us ns m):PQ H₀ sem S R b d nu st v m (sg b d nu st v j5 j6 j7 j8 j9 j10 j11) H
theorem OM{K:aA}(h:rj vs H Q E):LA K (fk Q) (start ["_law_book","_law_piece","_law_known","_law_pile","_law_todo","_law_word","_law_part","_law_own","_law_last","_law_near","_law_stamp","_law_k"] vs) H:=by
 obtain @⟨sem,S,kn,b,d,t,v,hd,dn,wt,hz,hm,h1,h2⟩:=h;refine⟨fL,eY λnu H1 hnu s1 g1=>?_⟩;refine⟨fL,eY λp H2 hp s2 g2=>?_⟩;refine⟨fL,eY λst H3 hst s3 g3=>?_⟩;have s13:=s1.trans (s2.trans s3);obtain⟨n,ek,hn⟩:=hd.kn_;refine⟨PQ H sem S (M sem t kn).v b d nu st v,⟨_,.mk (us:=[.ref p]) (ns:=[]) ⟨s13,(s1.trans s2).free hst,hnu,(λz=>by rw[z,s2 _ _ g1]at hst;cases hst),g3,(s2.trans s3) _ _ g1⟩ (.piece (us:=[]) (ns:=[]) (m:=0) (s3 _ _ g2) (.at rfl (dn.mono (dW s13)) wt (ek.mono (.of s13)) (by lia)) (by simpa using hm) (aC _) (λx h=>.nil h) id)⟩,?_⟩;rintro m σ H4 ⟨B,ms⟩;rename_i us ns j5 j6 j7 j8 j9 j10 j11;refine⟨fL,eY λl H5 _ s5 g5=>⟨eL.of (B.grow s5).st_,eL.of g5,_,rfl,?_⟩⟩;replace B:=B.grow s5;replace ms:=ms.mono (.of s5);cases us with
 | nil=>cases ms with|nil hx=>exact eU rfl ⟨eL.of B.nu_,gF,h1 _ _ B.same hx⟩
 | cons u us=>
  obtain⟨p,v',z,k,rfl,hp⟩:=ms.top;refine fI (by simp) ⟨_,λ_ _ h=>h,.inl ⟨rfl,_,eL.of B.tp⟩,B.tp,iO,?_⟩;rw[gk];have B6:B4 H (upd H5 st (.lst us.reverse)) st nu us ns:=B.sst rfl;have l6:Le H5 (upd H5 st (.lst us.reverse)):=.upd (λ_ _ h=>h) B.st_;have nx:Nx H sem S (M sem t kn).v b d nu st v m ((fk Q).lp λσ H'=>∃m',m'<m/\PQ H sem S (M sem t kn).v b d nu st v m' σ H'):=λus ns m' H j5 j6 j7 j8 j9 j10 j11 B ms hm=>⟨m',hm,.mk B ms⟩;cases k with
  | true=>exact⟨eD.of (l6.t _ _ hp),rfl,rfl,rfl,_,rfl,fI (by decide) (FY B6 (l6.t _ _ hp) (ms.mono l6) nx)⟩
  | false=>exact⟨eD.of (l6.t _ _ hp),rfl,rfl,rfl,_,rfl,eU (by decide) (Cc B6 (l6.t _ _ hp) (ms.mono l6) (hd.mono B6.same) nx λH' s hR=>h2 H' s hR)⟩
end S4
namespace SW
open PySem L2
end SW
namespace S3
open PySem L2 SW
variable {K:aA}{vs:List V}{H H₀:Hp}{Q:VK}{E:XK}
end S3
namespace SW
open PySem L2
end SW
namespace S8
open PySem L2 SW S9
theorem MW(g:Gs ws f b t n):t.size=gO n:=by
 induction g with
 | num=>rfl
 | bound=>rfl
 | free=>rfl
 | sum _ _ i1 i2=>simp only[T.size,gO,fW,i1,i2];lia
 | less _ _ i1 i2=>simp only[T.size,gO,fW,i1,i2];lia
 | cho _ _ _ i1 i2 i3=>simp only[T.size,gO,fW,i1,i2,i3];lia
 | lt _ _ _ i1 i2=>simp only[T.size,gO,fW,i1,i2];lia
theorem yt(h:mz rd W):mz rd W'->W=W':=by
 induction h generalizing W' with
 | nil=>
  intro h';generalize e:([]:List (List Rw))=rd at h';cases h' with
  | nil=>rfl
  | snoc=>simp at e
 | @snoc rd W R t _ hb ih=>
  intro h';generalize e:rd++[R]=rd' at h';cases h' with
  | nil=>simp at e
  | snoc a hb2=>obtain⟨rfl,e2⟩:=List.append_inj' e rfl;cases e2;have:=ih a;subst this;rw[hb]at hb2;cases hb2;rfl
theorem Mb(O:wz bo ws)(ht:∀w,t.out w->w∈ws)(en:yp bo t F ws st W tt):∃n c,Ly bo t st.k n c/\fst n=none/\Gs st.ws f0 Mi tt n/\nG n=(iH (W.map Prod.snd) st.R).map cv:=by
 obtain⟨n,c,W',S⟩:=sK O ht en.rch en.few;have:=yt S.wr en.wr;subst this;have tr:=S.tr;rw[en.emp]at tr;have tr:TR W' ws st.ws f0 Mi (rI st.R) n:=by simpa using tr
 obtain⟨t',e,g,hs⟩:=yO tr;rw[en.out]at e;cases e;exact⟨n,c,S.ly,oB g.ns,g,hs⟩
theorem sQ(h:∀x,x∈ws↔∃y∈[t,bo.x,bo.y,bo.z],y.out x):wz bo ws/\∀w,t.out w->w∈ws:=
 ⟨⟨λw z=>(h w).mpr ⟨bo.x,by simp,z⟩,λw z=>(h w).mpr ⟨bo.y,by simp,z⟩,λw z=>(h w).mpr ⟨bo.z,by simp,z⟩⟩,λw z=>(h w).mpr ⟨t,by simp,z⟩⟩
end S8
namespace S9
open PySem L2 SW
variable {K:aA}{vs:List V}{H:Hp}{Q:VK}{E:XK}{C D Ns Nn Np Se:Addr}
theorem DL(h:vJ H l (w,ps,t) u):jz H w ps (gD t) u:=by obtain⟨q,p,v,e,h1,h2,_,h4⟩:=h;exact⟨q,p,v,e,h1,h2,iw h4⟩
end S9
namespace S8
open PySem L2 SW S9
variable {K:aA}{vs:List V}{H:Hp}{Q:VK}{E:XK}{C D:Addr}
theorem GL(h:WT S0 t):WT SF t:=fb (λw k z=>z.elim) h
theorem pB(w:WT SF t)(h:t.size<=n)(hn:n<=100):(gD t).size<=5000/\∀x,xA x (gD t)->Kz x:=⟨by rw[gP];lia,λx i=>(i8 w x i).1⟩
theorem DP(B:xF bo)(w:WT SF t)(hz:t.size<=40)(hK:∀j n c,Ly bo t j n c->j<=F->j<=10):yr bo t F:=by
 have bt:∀(u:T)(n:Nat),WT SF u->u.size<=40->n<=2->BT u [] n:=λu n hw hz hn=>by have:=u.names_len;exact⟨hw,by simp;lia,by lia,by lia,by lia⟩
 have w1:=GL B.w1;have w2:WT SF bo.y:=fb (λw k=>Bi) B.w2;have w3:WT SF bo.z:=fb (λw k=>Bh) B.w3;have z1:=B.z1;have z2:=B.z2.1;have z3:=B.z3.1;have bk:tW bo:=⟨bt _ _ w1 (by lia) (by lia),bt _ _ w2 (by lia) (by lia),bt _ _ w3 (by lia) (by lia)⟩;have bm:BT t [] 0:=bt _ _ w hz (by lia);refine⟨bk,bm,λws hws hiff st r hk=>?_⟩;obtain⟨O,ht⟩:=sQ hiff;exact Be (k:=0) B bk w bm O ht hz hws hK r hk
theorem KS(ly:Ly bo t k n c)(hk:k<=m)(h:k<=F->fst n=none):∀j n' c',Ly bo t j n' c'->j<=F->j<=m:=λj n' c' l hj=>by
 by_cases e:k<=F
 ·exact aP (ly.le_end l (h e)) hk
 ·lia
theorem FU(ly:Ly bo t k n c)(h:k<=F->fst n=none)(hws:∀x,x∈ws↔∃y∈[t,bo.x,bo.y,bo.z],y.out x)(r:tR bo F (st0 t ws) st)(hF:F<st.k):F<k:=by
 obtain⟨O,ht⟩:=sQ hws;obtain⟨j,n',c',p,ly2,hj,hp⟩:=Bx O ht r hF;rcases bE F k with z|z
 ·exact z
 ·have hn:=h z;have h1:=ly.le_end ly2 hn;have:j=k:=by lia
  subst this;obtain⟨rfl,_⟩:=ly.uniq ly2;rw[hn]at hp;cases hp
theorem Fm(ly:Ly bo t k n c)(h:k<=F->fst n=none)(en:yp bo t F ws st W tt):k<=F/\st.k=k/\Gs st.ws f0 Mi tt n/\nG n=(iH (W.map Prod.snd) st.R).map cv:=by
 obtain⟨O,ht⟩:=sQ en.ws_;obtain⟨n',c',ly2,hn2,g,hs⟩:=Mb O ht en;have h1:=ly2.le_end ly hn2;have hk:k<=F:=aP h1 en.few;have h2:=ly.le_end ly2 (h hk);have e:st.k=k:=by lia
 rw[e]at ly2;obtain⟨rfl,_⟩:=ly.uniq ly2;exact⟨hk,e,g,hs⟩
end S8
namespace S4
open PySem L2 SW S9 S8
theorem GD(h:Tk ws s Q rs ws')(hw:∀x∈ws,Wd x):∀x∈ws',Wd x:=by
 cases h with
 | lt _ wx _ _=>
  intro x hx;rcases aQ.mp hx with h|h
  ·exact hw x h
  ·rw[aF.mp h];exact wx
 | _=>exact hw
theorem JX(h:yn S R ws R' ws'):(∀x∈ws,Wd x)->∀x∈ws',Wd x:=by
 induction h with
 | nil=>exact id
 | step k _ ih=>exact λhw=>ih (GD k hw)
theorem sW(h:m9 go rd ws s m rd' ws')(hw:∀x∈ws,Wd x):∀x∈ws',Wd x:=by
 cases h with
 | ready _ r=>exact JX r hw
 | _=>exact hw
theorem Jd{sa:oH}(h:tR bo F sa st)(hw:∀x∈sa.ws,Wd x):∀x∈st.ws,Wd x:=by
 induction h with
 | refl=>exact hw
 | step _ _ a ih=>
  cases a with
  | take k=>exact GD k ih
  | opn o=>
   cases o with
   | star=>exact ih
   | sta _ m=>exact sW m ih
   | st _ m n=>exact sW n (sW m ih)
theorem iE{S:Str->Nat->Prop}:∀{t:T},WT S t->t.out w->Wd w
 | .num _,_,h=>h.elim
 | .name _,z,h=>h▸z
 | .sum _ _,z,h=>h.elim (iE z.1) (iE z.2)
 | .less _ _,z,h=>h.elim (iE z.1) (iE z.2)
 | .cho _ _ _,z,h=>h.elim (iE z.1) λh=>h.elim (iE z.2.1) (iE z.2.2)
 | .lt _ _ _,z,h=>h.elim (iE z.2.1) λh=>iE z.2.2 h.2
 | .st0 _,_,h=>h.elim
 | .st1 _ a,z,h=>iE (t:=a) z.2 h
 | .st2 _ _ _,z,h=>h.elim (iE z.2.1) (iE z.2.2)
theorem MV{P:Str->Prop}{S:Str->Nat->Prop}(h:Gs ws f b tt n)(hw:∀w∈ws,P w):WX P S tt:=by
 induction h with
 | num=>trivial
 | bound a _ _=>exact hw _ a
 | free a _=>exact hw _ a
 | sum _ _ i1 i2=>exact⟨i1,i2⟩
 | less _ _ i1 i2=>exact⟨i1,i2⟩
 | cho _ _ _ i1 i2 i3=>exact⟨i1,i2,i3⟩
 | lt _ _ _ i1 i2=>exact⟨i1,i2⟩
theorem qc{sem:lA}:∀{t:T}{e:kR}{G:Gv},WX Wd S0 t->(∀w,(lk e w).v=G w)->(M sem t e).v=ev t G
 | .num _,_,_,_,_=>rfl
 | .name w,_,_,_,h=>h w
 | .sum a b,_,_,z,h=>by simp only[M,ev,vD,qc z.1 h,qc z.2 h]
 | .less a b,_,_,z,h=>by simp only[M,ev,mS,qc z.1 h,qc z.2 h]
 | .cho a b c,_,_,z,h=>by simp only[M,ev,wn,qc z.1 h,qc z.2.1 h,qc z.2.2 h]
 | .lt w a b,e,G,z,h=>by
  simp only[M,ev,qc z.1 h];cases ev a G with
  | none=>rfl
  | some x=>
   refine qc z.2 λy=>?_;rw[lH];unfold Gv.put;split
   ·rfl
   ·exact h y
theorem yL{g:Gv}(h:qd H kvs g)(w:Str):xD false H sem S (jv g w) (fP kvs (.inr w:fB)):=by
 unfold jv;rcases h w with⟨e1,e2⟩|⟨x,p,z,e1,e2,e3⟩
 ·rw[e1,e2];exact .none
 ·rw[e1,e2];exact .num rfl e3
theorem Em{t:T}(w:WX Wd S0 t)(d:fc H t v):∃p k r,v=.ref p/\H p=some (.tup (.str k::r))/\k≠"stamp":=by obtain⟨p,us,rfl,_,h,_⟩:=(iw d).open;cases t<;>first|exact⟨p,_,_,rfl,h,by decide⟩|exact w.elim|exact w.1.elim
theorem Dt:∀{t:T},WX Wd S0 t->∀k∈t.kids,WX Wd S0 k
 | .num _,_,k,h=>by cases h
 | .name _,_,k,h=>by cases h
 | .sum _ _,z,k,h=>by rcases aB.mp h with rfl|h;exact z.1;rw[aF.mp h];exact z.2
 | .less _ _,z,k,h=>by rcases aB.mp h with rfl|h;exact z.1;rw[aF.mp h];exact z.2
 | .lt _ _ _,z,k,h=>by rcases aB.mp h with rfl|h;exact z.1;rw[aF.mp h];exact z.2
 | .cho _ _ _,z,k,h=>by rcases aB.mp h with rfl|h;exact z.1;rcases aB.mp h with rfl|h;exact z.2.1;rw[aF.mp h];exact z.2.2
inductive PN(N:Addr)(H:Hp)(Q:VK)(E:XK):List V->Prop where
 | yes{w:Str}{d:Addr}{u:V}(dg:iR H d (.str w) (some u))(q:Q u H):PN N H Q E [.str w,.ref d]
 | no{w:Str}{d:Addr}(hw:w.length<=200)(dg:iR H d (.str w) none)(q:E (.ref N) none H):PN N H Q E [.str w,.ref d]
inductive PP(H:Hp)(Q:VK):List V->Prop where
 | two{p:Addr}{u1 u2:V}(k:Bool)(hp:H p=some (.tup [.str (if k then "less" else "sum"),u1,u2]))(q:∀l H',dq H H'->H l=none->H' l=some (.lst [u1,u2])->Q (.ref l) H'):PP H Q [.ref p]
 | one{p:Addr}{u1:V}{r:List V}(k:Bool)(hp:H p=some (.tup (.str (if k then "let" else "choose")::r)))(hr:r[if k then 1 else 0]?=some u1)(q:∀l H',dq H H'->H l=none->H' l=some (.lst [u1])->Q (.ref l) H'):PP H Q [.ref p]
abbrev PL(H₀:Hp)(R:Option Int)(nu st:Addr)(m:Nat)(Q:VK):Prop:=∀us ns m' H,B4 H₀ H st nu us ns->Ms true H s0 S0 R us ns m'->m'<m->Q .non H
inductive PB(k:Bool)(X:Hp->Option Int->Prop)(H:Hp)(Q:VK):List V->Prop where
 | mk{H₀:Hp}{R:Option Int}{st nu p:Addr}{us:List V}{ns:List Int}{m:Nat}{v z:V}(B:B4 H₀ H st nu us ns)(hp:H p=some (.tup [.str (cond k "end" "begin"),v,z]))(ms:Ms true H s0 S0 R (.ref p::us) ns m)(nx:PL H₀ R nu st m Q)(x:X H₀ R):PB k X H Q [v,z,.ref st,.ref nu]
inductive QQ(N:Addr)(H:Hp)(Q:VK)(E:XK):List V->Prop where
 | mk{t:T}{v:V}{d:Addr}{e:kR}{n:Nat}(dn:fc H t v)(wt:WX Wd S0 t)(hz:n+t.size<=5000)(ev:lN true H s0 S0 d e n)(hm:(M s0 t e).d<=50000)(h1:∀x H',dq H H'->(M s0 t e).v=some x->Q (.int x) H')(h2:∀H',dq H H'->(M s0 t e).v=none->E (.ref N) none H'):QQ N H Q E [v,.ref d]
def GJ(N:Addr):Sp:=λvs H Q E=>PN N H Q E vs
def xm:Sp:=λvs H Q _=>PP H Q vs
def xo(N:Addr):Sp:=λvs H Q E=>PB false (λH₀ R=>∀H',dq H₀ H'->R=none->E (.ref N) none H') H Q vs
def GK:Sp:=λvs H Q _=>PB true (λ_ _=>True) H Q vs
def BZ(N:Addr):Sp:=λvs H Q E=>QQ N H Q E vs
def IE(K:aA)(a_NoName:Addr)(E:XK):TS:=(BO a_NoName E (LK (dJ 0) "no number is known of the name "))
def ID(K:aA)(a_NoName:Addr)(E:XK):TS:=(fE (tB (lQ (dJ 0) (dJ 1))) (IE K a_NoName E) fC)
def N0(K:aA)(a_NoName:Addr)(E:XK):TS:=(dZ (ID K a_NoName E) (fD (kC (dJ 1) (dJ 0))))
def II(K:aA):TS:=(fD (fG (dI (dj (dy K) (dJ 0) (tC (.int 1))) (dI (dj (dy K) (dJ 0) (tC (.int 2))) dQ))))
def IH(K:aA):TS:=(fE (zO (dz (dj ic (dJ 1) (tC (.str "sum")))) (dz (dj ic (dJ 1) (tC (.str "less"))))) (II K) fC)
def IG(K:aA):TS:=(fD (fG (dI (dj (dy K) (dJ 0) (tC (.int 1))) dQ)))
def IF(K:aA):TS:=(fE (dz (dj ic (dJ 1) (tC (.str "choose")))) (IG K) fC)
def N1(K:aA):TS:=(dZ (eB (dj (dy K) (dJ 0) (tC (.int 0))) (dR 1)) (dZ (IH K) (dZ (IF K) (fD (fG (dI (dj (dy K) (dJ 0) (tC (.int 2))) dQ))))))
def JN(K:aA)(a_NoName:Addr)(E:XK):TS:=(eX (iW K "list" eE (dJ 3) (dI (dj (dy K) (dJ 0) (tC (.int 1))) dQ)))
def JM(K:aA)(a_NoName:Addr)(E:XK):TS:=(eX (iW K "list" eE (dJ 3) (dI (eN (GJ a_NoName) [] E (dI (dj (dy K) (dJ 0) (tC (.int 1))) (dI (dJ 1) dQ))) dQ)))
def vW(K:aA)(a_NoName:Addr)(E:XK):TS:=(eX (iW K "list" eE (dJ 2) (dI (ef (dI (tC (.str "begin")) (dI (dJ 5) (dI (dJ 1) dQ)))) dQ)))
def vV(K:aA)(a_NoName:Addr)(E:XK):TS:=(dZ (eX (iW K "list" eE (dJ 2) (dI (ef (dI (tC (.str "end")) (dI (dJ 0) (dI (dJ 1) dQ)))) dQ))) (iV (Ff K (eN xm [] E0 (dI (dJ 0) dQ))) (dR 5) (vW K a_NoName E)))
def JL(K:aA)(a_NoName:Addr)(E:XK):TS:=(fE (dz (dj ic (dJ 4) (tC (.str "name")))) (JM K a_NoName E) (vV K a_NoName E))
def JK(K:aA)(a_NoName:Addr)(E:XK):TS:=(fE (dz (dj ic (dJ 4) (tC (.str "number")))) (JN K a_NoName E) (JL K a_NoName E))
def JO(K:aA)(a_NoName:Addr)(E:XK):TS:=(dZ (eB (dj (dy K) (dJ 0) (tC (.int 0))) (dR 4)) (JK K a_NoName E))
def Iq(K:aA):TS:=(eX (iW K "list" eE (dJ 3) (dI (dj kH (jG K "list" jH (dJ 3)) (dJ 5)) dQ)))
def Ip(K:aA):TS:=(eX (iW K "list" eE (dJ 3) (dI (dj ib (jG K "list" jH (dJ 3)) (dJ 5)) dQ)))
def Io(K:aA):TS:=(dZ (eB (Pb (dz (dj ic (dJ 5) (tC (.int 0)))) (dj (dy K) (dJ 0) (tC (.int 3))) (dj (dy K) (dJ 0) (tC (.int 2)))) (dR 6)) (eX (iW K "list" eE (dJ 2) (dI (ef (dI (tC (.str "begin")) (dI (dJ 6) (dI (dJ 1) dQ)))) dQ))))
def Im(K:aA):TS:=(eX (iW K "list" eE (dJ 2) (dI (ef (dI (tC (.str "begin")) (dI (dj (dy K) (dJ 0) (tC (.int 3))) (dI (eN gz [] E0 (dI (dJ 1) (dI (dj (dy K) (dJ 0) (tC (.int 1))) (dI (dJ 5) dQ)))) dQ)))) dQ)))
def Il(K:aA):TS:=(fE (dz (dj ic (dJ 4) (tC (.str "choose")))) (Io K) (Im K))
def Ik(K:aA):TS:=(fE (dz (dj ic (dJ 4) (tC (.str "less")))) (Ip K) (Il K))
def Ij(K:aA):TS:=(fE (dz (dj ic (dJ 4) (tC (.str "sum")))) (Iq K) (Ik K))
def N8(K:aA):TS:=(dZ (eB (dj (dy K) (dJ 0) (tC (.int 0))) (dR 4)) (dZ (eB (jG K "list" jH (dJ 3)) (dR 5)) (Ij K)))
def Hi(K:aA)(a_NoName:Addr)(E:XK):TS:=(eX (eN (xo a_NoName) [] E (dI (dj (dy K) (dJ 4) (tC (.int 1))) (dI (dj (dy K) (dJ 4) (tC (.int 2))) (dI (dJ 3) (dI (dJ 2) dQ))))))
def Hh(K:aA)(a_NoName:Addr)(E:XK):TS:=(eX (eN GK [] E0 (dI (dj (dy K) (dJ 4) (tC (.int 1))) (dI (dj (dy K) (dJ 4) (tC (.int 2))) (dI (dJ 3) (dI (dJ 2) dQ))))))
def Hg(K:aA)(a_NoName:Addr)(E:XK):TS:=(fE (dz (dj ic (dj (dy K) (dJ 4) (tC (.int 0))) (tC (.str "begin")))) (Hi K a_NoName E) (Hh K a_NoName E))
def Hf(K:aA)(a_NoName:Addr)(E:XK):TS:=(dZ (eB (jG K "list" jH (dJ 3)) (dR 4)) (Hg K a_NoName E))
def Nq(K:aA)(a_NoName:Addr)(E:XK):TS:=(dZ (eB (fG dQ) (dR 2)) (dZ (eB (fG (dI (ef (dI (tC (.str "begin")) (dI (dJ 0) (dI (dJ 1) dQ)))) dQ)) (dR 3)) (dZ (gi (dz (dj nK (gx (ga K) (dI (dJ 3) dQ)) (tC (.int 0)))) (Hf K a_NoName E)) (fD (jG K "list" jH (dJ 2))))))
def LP(tb:TS)(D:fz)(j:Nat)(P:Hp->Prop):List V->St->Hp->Prop
 | [],σ,H=>D.nx σ H
 | x::r,σ,H=>dR j x σ H λσ2 H2=>tb (D.lp λσ H=>P H/\LP tb D j P r σ H) σ2 H2
section
variable {K:aA}{N:Addr}{vs:List V}{H:Hp}{Q:VK}{E:XK}
theorem yS{fs rs:List V}{l:Addr}{tb:TS}{D:fz}{σ:St}{j:Nat}(hl:H l=some (.lst fs))(hr:fs.reverse=rs)(h:LP tb D j (λH=>H l=some (.lst fs)) rs σ H):
  ∃W:Nat->Nat->St->Hp->Prop,(∃m,W 0 m σ H)/\∀i m σ H,W i m σ H->
   ((nA K l fs.length).stop i H/\D.nx σ H)∨((nA K l fs.length).go i H/\∃N:St->Hp->Prop,(∀σ' H',N σ' H'->∃m',m'<m/\W (i+1) m' σ' H')/\∀x H',(nA K l fs.length).yld i H x H'->dR j x σ H' λσ2 H2=>tb (D.lp N) σ2 H2):=by
 subst hr;refine⟨λi m σ H=>m=fs.length-i/\i<=fs.length/\H l=some (.lst fs)/\LP tb D j (λH=>H l=some (.lst fs)) (fs.reverse.drop i) σ H,⟨_,rfl,aS _,hl,h⟩,?_⟩;rintro i m σ H ⟨rfl,hi,hl,h⟩;by_cases hn:i=fs.length
 ·rw[cB (by rw[bG];lia)]at h;exact .inl ⟨hn,h⟩
 ·have hx:fs.length-1-i<fs.length:=by lia
  refine .inr ⟨⟨by lia,fs,_,eL.of hl,rfl,aU hx⟩,_,λσ' H' z=>⟨fs.length-(i+1),by lia,rfl,by lia,z⟩,?_⟩;rintro x H' ⟨rfl,hx2⟩;have e:=hx2 fs (eL.of hl);rw[<-dB (by lia)]at e;obtain⟨hi2,e⟩:=aK.mp e;rw[bR hi2,e]at h;exact h
theorem Pz(h:GJ N vs H Q E):N0 K N E (fk Q) (start ["word","known"] vs) H:=by
 cases h with
 | yes dg q=>exact⟨dg,_,rfl,eU rfl ⟨dg,q⟩⟩
 | @no w d hw dg q=>exact⟨dg,_,rfl,fI rfl ⟨w,rfl,by rw[show(("no number is known of the name ":Str)).length=31 by decide,sizeLine_eq];lia,q⟩⟩
theorem P3(h:xm vs H Q E):N1 K (fk Q) (start ["piece","kind"] vs) H:=by
 cases h with
 | two k hp q=>
  refine⟨eD.of hp,gF,rfl,_,rfl,?_⟩;cases k with
  | false=>exact fI (by decide) (uk ⟨eD.of hp,iM,eD.of hp,tY,fL,λl hl=>q l _ (dS hl) hl dP⟩)
  | true=>exact eU (by decide) ⟨rfl,_,rfl,fI (by decide) ⟨eD.of hp,iM,eD.of hp,tY,fL,λl hl=>q l _ (dS hl) hl dP⟩⟩
 | one k hp hr q=>
  refine⟨eD.of hp,gF,rfl,_,rfl,eU (by cases k<;>decide) ⟨rfl,_,rfl,eU (by cases k<;>decide) ⟨rfl,_,rfl,?_⟩⟩⟩;cases k with
  | false=>exact fI (by decide) ⟨eD.of hp,fK (j:=1) hr,fL,λl hl=>q l _ (dS hl) hl dP⟩
  | true=>exact eU (by decide) ⟨eD.of hp,fK (j:=2) hr,fL,λl hl=>q l _ (dS hl) hl dP⟩
theorem B4.root{H₀:Hp}{st nu l:Addr}{us:List V}{ns:List Int}{o:HO}(B:B4 H₀ H st nu us ns)(h:H l=some o)(h1:l≠st)(h2:l≠nu):∃H₁,B4 H₁ H st nu us ns/\dq H₀ H₁/\H₁ l=some o:=by
 refine⟨er (er H st) nu,⟨sw.trans sw,?_,by simp[er],B.ne,B.st_,B.nu_⟩,om (om B.same B.n1) B.n2,?_⟩
 ·simp[er]
 ·rw[er,if_neg h2,er,if_neg h1];exact h
theorem B4.re{H₀ H₁:Hp}{st nu:Addr}{us:List V}{ns:List Int}(B:B4 H₁ H st nu us ns)(s:dq H₀ H₁):B4 H₀ H st nu us ns:=⟨s.trans B.same,s.free B.n1,s.free B.n2,B.ne,B.st_,B.nu_⟩
theorem Mh{H₀:Hp}{R:Option Int}{st nu p d:Addr}{us:List V}{ns:List Int}{m:Nat}{t:T}{e:kR}(B:B4 H₀ H st nu us ns)(hl:us.length<=50000)(hb:Bn true H s0 S0 R us ns m d t e p)(nx:PL H₀ R nu st (m+(M s0 t e).c) Q):
  JO K N E (fk Q) (start ["piece","known","steps","numbers","kind","part"] [.ref p,.ref d,.ref st,.ref nu]) H:=by
 have nl:∀{H1:Hp}{us:List V}{l:Addr},B4 H₀ H1 st nu us ns->H1 l=none->l≠st/\l≠nu:=λB hn=>⟨(λz=>by rw[z,B.st_]at hn;cases hn),λz=>by rw[z,B.nu_]at hn;cases hn⟩;cases hb with
 | @two u1 u2 k hp f=>refine⟨eD.of hp,gF,rfl,_,rfl,eU (by cases k<;>decide) ⟨rfl,_,rfl,eU (by cases k<;>decide) ?_⟩⟩;dsimp only[vV,dZ,fz.thn];refine vK (i:=2) (λv _=>v=.ref p) (z:=.ref d) B (by lia) (λQ k=>k _ _ (λ_ _ h=>h) rfl) (λ_ _ Q k=>k) λp1 v1 H1 H2 hv s1 B2 l2 hp1=>?_;subst hv;have l02:=(Le.of s1).trans l2;refine .two k (l02.t _ _ hp) λl H3 s3 hn g3=>⟨eL.of g3,yS g3 (rs:=[u2,u1]) rfl ?_⟩;obtain⟨H₁,B3,r,gl⟩:=(B2.grow s3).root g3 (nl B2 hn).1 (nl B2 hn).2;dsimp only[LP,dR,vW];refine vK (i:=2) (λv _=>v=u2) (z:=.ref d) B3 (by simp only[aD];lia) (λQ k=>k _ _ (λ_ _ h=>h) rfl) (λ_ _ Q k=>k) λp4 v4 H4 H5 hv s4 B5 l5 hp4=>bb (B5.same _ _ gl) ?_;subst hv;refine vK (i:=2) (λv _=>v=u1) (z:=.ref d) B5 (by simp only[aD];lia) (λQ k=>k _ _ (λ_ _ h=>h) rfl) (λ_ _ Q k=>k) λp6 v6 H6 H7 hv s6 B7 l7 hp6=>bb (B7.same _ _ gl) ?_;subst hv;have l57:=(Le.of s6).trans l7;have l27:=(Le.of s3).trans (((Le.of s4).trans l5).trans l57);obtain⟨m',hm,ms⟩:=f H7 p1 p4 p6 (l02.trans l27) (l27.t _ _ hp1) (l57.t _ _ hp4) hp6;exact nx _ _ _ _ (B7.re r) ms hm
 | @one u1 us' k hp hr f=>refine⟨eD.of hp,gF,rfl,_,rfl,eU (by cases k<;>decide) ⟨rfl,_,rfl,eU (by cases k<;>decide) ?_⟩⟩;dsimp only[vV,dZ,fz.thn];refine vK (i:=2) (λv _=>v=.ref p) (z:=.ref d) B (by lia) (λQ k=>k _ _ (λ_ _ h=>h) rfl) (λ_ _ Q k=>k) λp1 v1 H1 H2 hv s1 B2 l2 hp1=>?_;subst hv;have l02:=(Le.of s1).trans l2;refine .one k (l02.t _ _ hp) hr λl H3 s3 hn g3=>⟨eL.of g3,yS g3 (rs:=[u1]) rfl ?_⟩;obtain⟨H₁,B3,r,gl⟩:=(B2.grow s3).root g3 (nl B2 hn).1 (nl B2 hn).2;dsimp only[LP,dR,vW];refine vK (i:=2) (λv _=>v=u1) (z:=.ref d) B3 (by simp only[aD];lia) (λQ k=>k _ _ (λ_ _ h=>h) rfl) (λ_ _ Q k=>k) λp6 v6 H6 H7 hv s6 B7 l7 hp6=>bb (B7.same _ _ gl) ?_;subst hv;have l27:=(Le.of s3).trans ((Le.of s6).trans l7);obtain⟨m',hm,ms⟩:=f H7 p1 p6 (l02.trans l27) (l27.t _ _ hp1) hp6;exact nx _ _ _ _ (B7.re r) ms hm
theorem DM{H₀:Hp}{R:Option Int}{st nu:Addr}{us:List V}{ns:List Int}{m:Nat}{x:Int}{v z:V}(dn:fc H (.num x) v)(B:B4 H₀ H st nu us ns)(hl:ns.length<=50000)(h:Ms true H s0 S0 R us (x::ns) m)(nx:PL H₀ R nu st (m+1) Q):
  JO K N E (fk Q) (start ["piece","known","steps","numbers","kind","part"] [v,z,.ref st,.ref nu]) H:=by
 obtain⟨p,rfl,hp⟩:=dn;exact⟨eD.of hp,gF,rfl,_,rfl,fI (by decide) ⟨.inl ⟨rfl,_,eL.of B.nu_⟩,eD.of hp,iM,B.nu_,by rw[lc,sizeLine_eq];lia,nx _ _ _ _ (B.snu (by rw[i6])) (h.mono (.upd (λ_ _ h=>h) B.nu_)) (aq _)⟩⟩
theorem QE(h:xo N vs H Q E):JO K N E (fk Q) (start ["piece","known","steps","numbers","kind","part"] vs) H:=by
 obtain @⟨H₀,R,st,nu,p,us,ns,m,v,z,B,hp,ms,nx,hN⟩:=h;cases ms with
 | two _ a=>exact absurd (lj hp a).1 (by decide)
 | cho a=>exact absurd (lj hp a).1 (by decide)
 | lt a=>exact absurd (lj hp a).1 (by decide)
 | @piece _ _ _ t e _ _ m a it hl hn h1 h2=>
 obtain⟨_,rfl,rfl⟩:=lj hp a;clear hp a;cases it with
 | num dn=>exact DM dn B (by lia) (h1 _ rfl) nx
 | @«at» _ d n ez dn wt ev hz=>
 subst ez;cases t with
 | num x=>exact DM dn B (by lia) (h1 _ rfl) nx
 | name w=>
  obtain⟨p,rfl,hp⟩:=dn;cases ev with
  | @mk _ _ kvs hk hE=>
  refine⟨eD.of hp,gF,rfl,_,rfl,eU (by decide) ⟨rfl,_,rfl,fI (by decide) ⟨.inl ⟨rfl,_,eL.of B.nu_⟩,eD.of hp,iM,?_⟩⟩⟩;have dg:iR H d (.str w) (fP kvs (.inr w:fB)):=iR.k (k:=.inr w) hk;have hw:=hE w;simp only[M,lk]at h1 h2 nx;generalize e w=s at hw h1 h2 nx;generalize fP kvs (.inr w:fB)=o at hw dg;cases hw with
  | none=>exact .no wt.few dg (hN _ B.same (h2 rfl))
  | int _=>exact .yes dg ⟨B.nu_,by rw[lc,sizeLine_eq];lia,nx _ _ _ _ (B.snu (by rw[i6])) ((h1 _ rfl).mono (.upd (λ_ _ h=>h) B.nu_)) (by show m<m+(1+1);lia)⟩
  | num z=>cases z
  | hand z=>cases z
 | st0 w=>exact wt.elim
 | st1 w a=>exact wt.1.elim
 | st2 w a b'=>exact wt.1.elim
 | _=>obtain⟨p,rfl,hb⟩:=Gj dn wt ev hz hl hn h1 h2 trivial;exact Mh B (by lia) hb nx
theorem QA(h:GK vs H Q E):N8 K (fk Q) (start ["piece","known","steps","numbers","kind","last","chosen"] vs) H:=by
 obtain @⟨H₀,R,st,nu,p,us,ns,m,v,z,B,hp,ms,nx,_⟩:=h;cases ms with
 | piece a=>exact absurd (lj hp a).1 (by decide)
 | @two _ q _ u1 u2 _ x y ns m k a hq hl hn ms=>
  obtain⟨_,rfl,rfl⟩:=lj hp a;refine⟨eD.of hq,gF,?_⟩;dsimp only[dR,fz.thn];refine zj B λH1 B1 l1=>?_;have q1:=l1.t _ _ hq;cases k with
  | false=>exact⟨rfl,_,rfl,fI (by decide) (NM (j:=5) (f:=λi j=>i+j) (y:=y) B1 (by lia) λH2 B2 l2=>nx _ _ _ _ B2 (ms.mono (l1.trans l2)) (aq _))⟩
  | true=>exact⟨rfl,_,rfl,eU (by decide) ⟨rfl,_,rfl,fI (by decide) (NM (j:=5) (f:=λi j=>i-j) (y:=y) B1 (by lia) λH2 B2 l2=>nx _ _ _ _ B2 (ms.mono (l1.trans l2)) (aq _))⟩⟩
 | @cho _ q _ u1 u2 u3 t e _ x ns m c a hq it hl hn h1 h2 hc=>
  obtain⟨_,rfl,rfl⟩:=lj hp a;refine⟨eD.of hq,gF,?_⟩;dsimp only[dR,fz.thn];refine zj B λH1 B1 l1=>?_;have q1:=l1.t _ _ hq;refine⟨rfl,_,rfl,eU (by decide) ⟨rfl,_,rfl,eU (by decide) ⟨rfl,_,rfl,fI (by decide) ?_⟩⟩⟩;have go:∀{v:V},(if x=0 then u3 else u2)=v->eX (iW K "list" eE (dJ 2) (dI (ef (dI (tC (.str "begin")) (dI (dJ 6) (dI (dJ 1) dQ)))) dQ)) (fk Q) [some (.ref q),some z,some (.ref st),some (.ref nu),some (.str "choose"),some (.int x),some v] H1:=λ{v} hv=>by refine vK (i:=2) (λu _=>u=v) (z:=z) B1 (by lia) (λQ k=>k _ _ (λ_ _ h=>h) rfl) (λ_ _ Q k=>k) λp v' H2 H3 hv' s2 B3 l3 hp=>?_;subst hv';have l:=l1.trans ((Le.of s2).trans l3);exact nx _ _ _ _ B3 (.piece hp ((hv▸it).mono l) hl hn (λx h=>(h1 x h).mono l) h2) (by lia)
  refine⟨rfl,_,rfl,ir (λhx=>?_) λhx=>?_⟩
  ·exact⟨eD.of q1,rL,go (if_pos (V.int.inj (of_decide_eq_true hx)))⟩
  ·exact⟨eD.of q1,tY,go (if_neg λz=>hx (by rw[z];rfl))⟩
 | @lt _ q d u1 u2 w t e _ x ns m n a hq dn wt ev hz hl hn h1 h2=>
  obtain⟨_,rfl,rfl⟩:=lj hp a;refine⟨eD.of hq,gF,?_⟩;dsimp only[dR,fz.thn];refine zj B λH1 B1 l1=>?_;have q1:=l1.t _ _ hq;have ev1:=ev.mono l1;cases ev1 with
  | @mk _ _ kvs hk hE=>
  refine⟨rfl,_,rfl,eU (by decide) ⟨rfl,_,rfl,eU (by decide) ⟨rfl,_,rfl,eU (by decide) ⟨.inl ⟨rfl,_,eL.of B1.st_⟩,eD.of q1,rL,eD.of q1,iM,d,w,.int x,kvs,rfl,hk,by lia,λd' H2 n2 s2 h2'=>⟨fL,eY λp3 H3 _ s3 g3=>?_⟩⟩⟩⟩⟩;have B3:=B1.grow (s2.trans s3);have l3:Le H1 (upd H3 st (.lst (us.reverse++[.ref p3]))):=.upd (s2.trans s3) B1.st_;have l23:Le H2 (upd H3 st (.lst (us.reverse++[.ref p3]))):=.upd s3 (s2 _ _ B1.st_);have hpl:=gG kvs (.inr w:fB) (.int x);refine⟨B3.st_,by rw[bG,sizeLine_eq];lia,nx _ _ _ _ (B3.sst (us':=.ref p3::us) aj.symm) (.piece (fA B3.st_ _ _ g3) (.at rfl (dn.mono (l1.trans l3).t) wt (.mk (l23.k _ _ h2') (wZ (λy=>(hE y).mono l3) (.int rfl) w)) (by lia)) hl hn (λx h=>(h1 x h).mono (l1.trans l3)) h2) (aq _)⟩
inductive QR(H₀:Hp)(R:Option Int)(nu st:Addr)(j0 j1:Option V):Nat->St->Hp->Prop where
 | mk{H:Hp}{us:List V}{ns:List Int}{m:Nat}{j4:Option V}(B:B4 H₀ H st nu us ns)(ms:Ms true H s0 S0 R us ns m):QR H₀ R nu st j0 j1 m [j0,j1,some (.ref nu),some (.ref st),j4] H
theorem Pp(h:BZ N vs H Q E):Nq K N E (fk Q) (start ["piece","known","numbers","steps","step"] vs) H:=by
 obtain @⟨t,v,d,e,n,dn,wt,hz,ev,hm,h1,h2⟩:=h;refine⟨fL,eY λnu H1 hnu s1 g1=>?_⟩;refine⟨fL,eY λp H2 hp s2 g2=>?_⟩;refine⟨fL,eY λst H3 hst s3 g3=>?_⟩;have s13:=s1.trans (s2.trans s3);refine⟨QR H (M s0 t e).v nu st (some v) (some (.ref d)),⟨_,.mk (us:=[.ref p]) (ns:=[]) ⟨s13,(s1.trans s2).free hst,hnu,(λz=>by rw[z,s2 _ _ g1]at hst;cases hst),g3,(s2.trans s3) _ _ g1⟩ (.piece (us:=[]) (ns:=[]) (m:=0) (s3 _ _ g2) (.at rfl (dn.mono (dW s13)) wt (ev.mono (.of s13)) hz) (by simpa using hm) (aC _) (λx h=>.nil h) id)⟩,?_⟩;rintro m σ H5 ⟨B,ms⟩;rename_i us ns j4;refine⟨.inl (eL.of B.st_),_,rfl,?_⟩;cases us with
 | nil=>cases ms with|nil hx=>exact eU rfl ⟨.inl ⟨rfl,_,eL.of B.nu_⟩,B.nu_,rfl,h1 _ _ (eJ B.same B.n2) hx⟩
 | cons u us=>
  obtain⟨p,v',z,k,rfl,hp⟩:=ms.top;refine fI (by simp) ⟨_,λ_ _ h=>h,.inl ⟨rfl,_,eL.of B.tp⟩,B.tp,iO,?_⟩;rw[gk];have B6:B4 H (upd H5 st (.lst us.reverse)) st nu us ns:=B.sst rfl;have l6:Le H5 (upd H5 st (.lst us.reverse)):=.upd (λ_ _ h=>h) B.st_;have q6:=l6.t _ _ hp;cases k with
  | false=>exact⟨eD.of q6,gF,rfl,_,rfl,fI (by decide) ⟨eD.of q6,iM,eD.of q6,tY,.mk B6 q6 (ms.mono l6) (λus ns m' H B ms hm=>⟨m',hm,.mk B ms⟩) h2⟩⟩
  | true=>exact⟨eD.of q6,gF,rfl,_,rfl,eU (by decide) ⟨eD.of q6,iM,eD.of q6,tY,.mk B6 q6 (ms.mono l6) (λus ns m' H B ms hm=>⟨m',hm,.mk B ms⟩) trivial⟩⟩
theorem FT{g:Gv}{kvs:List (fB×V)}(h:Mu kvs g)(w:Str):xD true H s0 S0 (jv g w) (fP kvs (.inr w:fB)):=by
 unfold jv;rw[h w];cases g w with
 | none=>exact .none
 | some x=>exact .int rfl
end
end S4
namespace S4
open PySem L2 SW S9 S8
variable {K:aA}{vs:List V}{H H₀:Hp}{Q:VK}{E:XK}{N C D:Addr}
def BG(K:aA)(a_NoName a_Opening a_FreshWords:Addr):TS:=(eB (eN (pU K) [] E0 (dI (nB (jX K) (dJ 0) (fi (tC (.int 9))) (fi (tC (.int 12)))) dQ)) (dR 3))
def BF(K:aA)(a_NoName a_Opening a_FreshWords:Addr):TS:=(fE (dz (dj nK (dj (dy K) (eN pW [] E0 (dI (dJ 2) (dI (dJ 3) (dI (dJ 1) dQ)))) (tC (.int 1))) (dJ 1))) (BG K a_NoName a_Opening a_FreshWords) fC)
def BE(K:aA)(a_NoName a_Opening a_FreshWords:Addr):TS:=(fD (tC (.bl true)))
def BD(K:aA)(a_NoName a_Opening a_FreshWords:Addr):TS:=(fE (dz (dj nK (dj (dy K) (eN pW [] E0 (dI (dJ 2) (dI (dJ 3) (dI (dJ 1) dQ)))) (tC (.int 1))) (dJ 1))) (BE K a_NoName a_Opening a_FreshWords) fC)
def BC(K:aA)(a_NoName a_Opening a_FreshWords:Addr):TS:=(fD (tC (.bl false)))
def BB(K:aA)(a_NoName a_Opening a_FreshWords:Addr):TS:=(fE (mR (tB (eN rn [] E0 (dI (dJ 6) dQ)))) (BC K a_NoName a_Opening a_FreshWords) fC)
def BA(K:aA)(a_NoName a_Opening a_FreshWords:Addr):TS:=(fD (tC (.bl false)))
def A9(K:aA)(a_NoName a_Opening a_FreshWords:Addr):TS:=(fE (dz (dj ic (dj (dy K) (dJ 8) (tC (.int 0))) (tC (.str "stamp")))) (BA K a_NoName a_Opening a_FreshWords) fC)
def A8(K:aA)(a_NoName a_Opening a_FreshWords:Addr):TS:=(dZ (eB (jG K "list" jH (dJ 7)) (dR 8)) (dZ (A9 K a_NoName a_Opening a_FreshWords) (eB (dj nN (dJ 7) (eN ia [] E0 (dI (dJ 8) dQ))) (dR 7))))
def zN(K:aA)(a_NoName a_Opening a_FreshWords:Addr):TS:=(fD (tC (.bl false)))
def zM(K:aA)(a_NoName a_Opening a_FreshWords:Addr):TS:=(fE (dz (dj Dc (eN rj [] E0 (dI (fG dQ) (dI (dj (dy K) (dJ 6) (tC (.int 1))) (dI (eN mW [] E0 (dI (dJ 4) dQ)) dQ)))) (dJ 5))) (zN K a_NoName a_Opening a_FreshWords) fC)
def zL(K:aA)(a_NoName a_Opening a_FreshWords:Addr):TS:=(eB (tC (.bl true)) (dR 10))
def zK(K:aA)(a_NoName a_Opening a_FreshWords:Addr):TS:=(fD (dJ 10))
def zJ(K:aA)(a_NoName a_Opening a_FreshWords:Addr):TS:=(fE (dz (dj OX (dJ 5) (tC .non))) (zK K a_NoName a_Opening a_FreshWords) fC)
def uC(K:aA)(a_NoName a_Opening a_FreshWords:Addr):TS:=(dZ (eB (tC .non) (dR 9)) (dZ (eB (tC (.bl false)) (dR 10)) (dZ (LI K a_NoName (G7 (BZ a_NoName) 9 (dI (dj (dy K) (dJ 6) (tC (.int 1))) (dI (gx qO (dI (dJ 4) dQ)) dQ))) (zL K a_NoName a_Opening a_FreshWords)) (dZ (zJ K a_NoName a_Opening a_FreshWords) (fD (xX (BP (dJ 10)) (xX (eN jQ [] E0 (dI (dJ 9) dQ)) (dj ic (dJ 9) (dJ 5)))))))))
def uD(K:aA)(a_NoName a_Opening a_FreshWords:Addr):TS:=(dZ (gi (dz (dj (lE K) (dJ 7) (fG dQ))) (A8 K a_NoName a_Opening a_FreshWords)) (dZ (zM K a_NoName a_Opening a_FreshWords) (uC K a_NoName a_Opening a_FreshWords)))
def uE(K:aA)(a_NoName a_Opening a_FreshWords:Addr):TS:=(dZ (eB (eN (rm a_Opening a_FreshWords) [] E0 (dI (eN oj [] E0 (dI (dJ 2) dQ)) (dI (dJ 3) (dI (dJ 1) dQ)))) (dR 6)) (dZ (BB K a_NoName a_Opening a_FreshWords) (dZ (eB (fG (dI (dj (dy K) (dJ 6) (tC (.int 1))) dQ)) (dR 7)) (uD K a_NoName a_Opening a_FreshWords))))
def uF(K:aA)(a_NoName a_Opening a_FreshWords:Addr):TS:=(dZ (eB (eN rj [] E0 (dI (dJ 2) (dI (dJ 3) (dI (eN mW [] E0 (dI (dJ 4) dQ)) dQ)))) (dR 5)) (uE K a_NoName a_Opening a_FreshWords))
def uG(K:aA)(a_NoName a_Opening a_FreshWords:Addr):TS:=(dZ (BD K a_NoName a_Opening a_FreshWords) (uF K a_NoName a_Opening a_FreshWords))
def IP(K:aA)(a_NoName a_Opening a_FreshWords:Addr):TS:=(dZ (eB (eN (pR K) [] E0 (dI (dJ 0) (dI (tC (.int 8)) (dI (tC (.int 30)) dQ)))) (dR 1)) (dZ (eB (eN (sC K) [] E0 (dI (nB (jX K) (dJ 0) (fi (tC (.int 1))) (fi (tC (.int 9)))) (dI (tC (.bl false)) dQ))) (dR 2)) (dZ (eB (eN (pU K) [] E0 (dI (nB (jX K) (dJ 0) (fi (tC (.int 9))) (fi (dj kH (tC (.int 9)) (eN (pR K) [] E0 (dI (dJ 0) (dI (tC (.int 9)) (dI (tC (.int 16)) dQ))))))) dQ)) (dR 3)) (dZ (eB (eN lR [] E0 (dI (eN (xp K) [] E0 (dI (dJ 0) (dI (tC (.int 0)) dQ))) dQ)) (dR 4)) (dZ (BF K a_NoName a_Opening a_FreshWords) (uG K a_NoName a_Opening a_FreshWords))))))
def HD:Option Int->V
 | some x=>.int x
 | none=>.non
structure Kn(H:Hp)(kd:Addr)(ps:List (Str×Int)):Prop where
 hk:H kd=some (.dK (iI ps))
 nd:(ps.map (·.1)).Nodup
 le:ps.length<=4
theorem Kn.mono(s:dq H H')(h:Kn H kd ps):Kn H' kd ps:=⟨s _ _ h.hk,h.nd,h.le⟩
structure Md(H:Hp)(p:Addr)(tt:T)(x:V)(g:Gv)(R:Option Int):Prop where
 hp:∃y z,H p=some (.tup [.str "done",x,y,z])
 dx:fc H tt x
 wx:WX Wd S0 tt
 hz:tt.size<=4000
 hd:(M s0 tt (jv g)).d<=50000
 hv:(M s0 tt (jv g)).v=R
theorem Md.mono(s:dq H H')(h:Md H p tt x g R):Md H' p tt x g R:=⟨h.hp.imp λy ⟨z,e⟩=>⟨z,s _ _ e⟩,h.dx.mono (dW s),h.wx,h.hz,h.hd,h.hv⟩
section
variable {v0 v1 v2 v3 v7 v8 v9 v10:Option V}{kd p:Addr}{ps:List (Str×Int)}{tt:T}{x:V}{R:Option Int}
theorem qo(e1:PySem.W.exmOne K (.ref N) (.ref N)=some true)(m:Md H p tt x (SW.gD ps) R)(kn:Kn H kd ps)(hQ:∀H',Q (.bl true) H'):
  uC K N C D (fk Q) [v0,v1,v2,v3,some (.ref kd),some (HD R),some (.ref p),v7,v8,v9,v10] H:=by
 obtain⟨y,z,hp⟩:=m.hp;have hl:=kn.le;refine⟨eD.of hp,iM,kd,_,rfl,.inl kn.hk,eY λdd H1 _ s1 g1=>?_⟩;refine .mk (m.dx.mono (dW s1)) m.wx (by have:=m.hz;rw[nW];lia) (.mk g1 (FT (sU ps))) m.hd (λy H2 s2 hy=>?_) λH2 s2 hy=>⟨e1,?_⟩
 ·obtain rfl:=m.hv.symm.trans hy;refine⟨rfl,_,rfl,eU (by simp[HD]) ?_⟩;refine⟨_,rfl,_,rfl,uk ⟨y,rfl,_,rfl,uk ⟨rfl,?_⟩⟩⟩;rw[show HD (some y)=V.int y from rfl,decide_eq_true rfl];exact hQ _
 ·obtain rfl:=m.hv.symm.trans hy;exact⟨rfl,_,rfl,fI (by decide) (hQ _)⟩
inductive Ti(H₀:Hp)(v0 v1 v2 v3 v4 v5 v6:Option V):Nat->St->Hp->Prop where
 | mk{H:Hp}{tl:Addr}{us:List V}{ts:List T}{j8:Option V}(s:dq H₀ H)(n:H₀ tl=none)(h:H tl=some (.lst us))(d:fm H ts us)(w:∀t∈ts,WX Wd S0 t)(z:et ts<=4000):Ti H₀ v0 v1 v2 v3 v4 v5 v6 (et ts) [v0,v1,v2,v3,v4,v5,v6,some (.ref tl),j8,none,none] H
theorem zZ{tl:Addr}(e1:PySem.W.exmOne K (.ref N) (.ref N)=some true)(m:Md H₀ p tt x (SW.gD ps) R)(kn:Kn H₀ kd ps)(hQ:∀H',Q (.bl true) H')(s:dq H₀ H)(n:H₀ tl=none)(h:H tl=some (.lst [x])):
  uD K N C D (fk Q) [v0,v1,v2,v3,some (.ref kd),some (HD R),some (.ref p),some (.ref tl),none,none,none] H:=by
 refine⟨Ti H₀ v0 v1 v2 v3 (some (.ref kd)) (some (HD R)) (some (.ref p)),⟨_,.mk (ts:=[tt]) s n h (.cons (m.mono s).dx .nil) (by simpa using m.wx) (by simpa[et]using m.hz)⟩,?_⟩;clear s n h;rintro k σ H4 ⟨s,n,h,d,w,z⟩;rename_i tl us ts j8;refine⟨fL,eY λe H5 _ s5 g5=>⟨eL.of (s5 _ _ h),eL.of g5,_,rfl,?_⟩⟩;replace s:=s.trans s5;replace h:=s5 _ _ h;replace d:=d.mono (dW s5);rcases List.eq_nil_or_concat us with rfl|⟨us',u,rfl⟩
 ·refine eU rfl ?_;refine⟨fL,eY λb2 H6 _ s6 _=>?_⟩;replace s:=s.trans s6;have m6:=m.mono s;have k6:=kn.mono s;obtain⟨y,z,hp⟩:=m6.hp;have hl:=k6.le;refine⟨eD.of hp,iM,kd,ps,rfl,k6.hk,k6.nd,k6.le,λe kvs H7 s7 he lkk hkl=>?_⟩;have m7:=m6.mono s7;refine .mk (sem:=s0) (S:=S0) (kn:=jv (SW.gD ps)) ⟨⟨_,.mk he (yL lkk),by lia⟩,λw k z=>z.elim⟩ m7.dx m.wx m.hz m.hd (λy H8 s8 hy=>?_) λH8 s8 hy=>?_
  ·obtain rfl:=m.hv.symm.trans hy;exact⟨rfl,_,rfl,eU (by simp[HD]) (qo e1 (m7.mono s8) (k6.mono (s7.trans s8)) hQ)⟩
  ·obtain rfl:=m.hv.symm.trans hy;exact⟨rfl,_,rfl,eU (by decide) (qo e1 (m7.mono s8) (k6.mono (s7.trans s8)) hQ)⟩
 ·rw[List.concat_eq_append]at h d⊢;refine fI (by simp) ⟨_,λ_ _ h=>h,.inl ⟨rfl,_,eL.of h⟩,h,iO,?_⟩;rw[gk];obtain⟨ts',t,rfl,d1,d2⟩:=d.snoc;have t6:=fA (o:=.lst us') h;have s6:dq H₀ (upd H5 tl (.lst us')):=eJ s n;have g6:(upd H5 tl (.lst us')) tl=some (.lst us'):=dP;replace d1:=d1.mono t6;replace d2:=d2.mono t6;generalize upd H5 tl (.lst us')=H6 at s6 g6 d1 d2⊢;have wt:=w t (by simp);obtain⟨q,kk,r,rfl,hq,hk⟩:=Em wt d2;refine⟨eD.of hq,gF,rfl,_,rfl,eU (decide_eq_false λz=>hk (V.str.inj z)) ?_⟩;refine⟨t,.ref q,rfl,d2,λl us2 H7 s7 _ g7 d7=>⟨s7 _ _ g6,g7,?_,eY λtl2 H8 hn s8 g8=>?_⟩⟩
  ·have e1:=d1.length;have e2:=d7.length;have e3:=eV ts';have e4:=eV t.kids;have e5:=iy t;rw[eg,ft,iS]at z;rw[sizeLine_eq];lia
  ·have e5:=iy t;have s68:=s7.trans s8;rw[eg,ft,iS]at z⊢;refine⟨_,?_,.mk (ts:=ts'++t.kids) (s6.trans s68) ((s6.trans s7).free hn) g8 ((d1.mono (dW s68)).append (d7.mono (dW s8))) (λy hy=>?_) ?_⟩
   ·rw[eg];lia
   ·rcases aQ.mp hy with hy|hy
    ·exact w y (by simp[hy])
    ·exact Dt wt y hy
   ·rw[eg];lia
end
theorem Oc(bok:xF bo)(wt:WT SF t)(hz:t.size<=20)(ly:Ly bo t k n c)(hk:k<=8)(hend:fst n=none):(∀y∈[S9.gD t,S9.gD bo.x,S9.gD bo.y,S9.gD bo.z],y.size<=5000/\∀x,xA x y->Kz x)/\yr bo t 8/\gO n<=4000:=by
 have z1:=bok.z1;have z2:=bok.z2.1;have z3:=bok.z3.1;refine⟨λy hy=>?_,DP bok wt (by lia) (KS ly (m:=10) (by lia) λ_=>hend),?_⟩
 ·simp only[aB,aG,or_false]at hy;rcases hy with rfl|rfl|rfl|rfl
  ·exact pB wt hz (by lia)
  ·exact pB (GL bok.w1) z1 (by lia)
  ·exact pB (fb (λw k=>Bi) bok.w2) z2 (by lia)
  ·exact pB (fb (λw k=>Bh) bok.w3) z3 (by lia)
 ·have hnz:=(ug bok wt ly).2;have hkz:k*(20*t.size)<=8*(20*t.size):=bU _ hk;lia
structure L4(H:Hp)(bl kd:Addr)(bo:Bo)(t:T)(v:V)(ps:List (Str×Int)):Prop where
 b:∃u0 u1 u2,H bl=some (.lst [u0,u1,u2])/\rM H u0 u1 u2 bo
 bok:xF bo
 dt:fc H t v
 wt:WT SF t
 hz:t.size<=20
 kn:Kn H kd ps
theorem L4.mono(s:dq H H')(h:L4 H bl kd bo t v ps):L4 H' bl kd bo t v ps:=
 ⟨h.b.imp λu0 ⟨u1,u2,a,b⟩=>⟨u1,u2,s _ _ a,b.mono s⟩,h.bok,h.dt.mono (dW s),h.wt,h.hz,h.kn.mono s⟩
section
variable {v0:Option V}{bl kd:Addr}{bo:Bo}{t:T}{v:V}{ps:List (Str×Int)}{R:Option Int}
theorem qp{n:NT}{k:Nat}{c:Int}(e1:PySem.W.exmOne K (.ref N) (.ref N)=some true)(L:L4 H bl kd bo t v ps)(ly:Ly bo t k n c)(hk:k<=8)(he:fst n=none)(hR:(M (s3 bo (jv (SW.gD ps))) t (jv (SW.gD ps))).v=R)(hQ:∀H',Q (.bl true) H'):
  uE K N C D (fk Q) [v0,some (.int 8),some (.ref bl),some v,some (.ref kd),some (HD R),none,none,none,none,none] H:=by
 obtain⟨u0,u1,u2,hb,B⟩:=L.b;obtain⟨hsz,ask,hnz⟩:=Oc L.bok L.wt L.hz ly hk he;refine⟨bl,u0,u1,u2,bo,rfl,hb,B,λl' w1 w2 w3 H1 s1 n1 h1 B1=>?_⟩;refine⟨l',w1,w2,w3,v,t,bo,8,rfl,h1,B1,iw (L.dt.mono (dW s1)),hsz,ask,λp ws st H2 s2 hp hws rch hkF=>?_,λp l x us ws st W tt H2 s2 hp en dx hl ds=>?_⟩
 ·have hlt:=FU ly (λ_=>he) hws rch hkF;lia
 ·obtain⟨hkF,e,g,hsr⟩:=Fm ly (λ_=>he) en;have hs:=MW g;have wd:∀y∈st.ws,Wd y:=Jd en.rch λy hy=>by
   obtain⟨z,hz,ho⟩:=(en.ws_ y).mp hy;simp only[aB,aG,or_false]at hz;rcases hz with rfl|rfl|rfl|rfl
   ·exact iE L.wt ho
   ·exact iE L.bok.w1 ho
   ·exact iE L.bok.w2 ho
   ·exact iE L.bok.w3 ho
  refine⟨p,l,x,tt,st.k,us,rfl,hp,dx,by lia,hl,λu hu=>(DR ds hu).elim λ_ z=>JU z,λH3 s3=>⟨_,rfl,jE ?_⟩⟩;refine⟨eD.of (s3 _ _ hp),iM,fL,eY λtl H4 hn s4 g4=>?_⟩;have hd:=vH (sem:=s0) (C:=0) (λw as m hm _=>by show 1<=_;lia) (aC 1) tt (jv (SW.gD ps)) λ_=>Fb;have wx:WX Wd S0 tt:=MV g wd;exact zZ e1 (H₀:=H3) (tt:=tt) ⟨⟨_,_,s3 _ _ hp⟩,dx.mono (dW s3),wx,by lia,by lia,(qc wx λ_=>Cj).trans ((uN (MY L.bok λ_=>Fb) ly g).trans hR)⟩ (L.kn.mono ((s1.trans s2).trans s3)) hQ s4 hn g4
theorem zc{n:NT}{k:Nat}{c:Int}(e1:PySem.W.exmOne K (.ref N) (.ref N)=some true)(L:L4 H bl kd bo t v ps)(ly:Ly bo t k n c)(hk:k<=8)(he:fst n=none)(hQ:∀H',Q (.bl true) H'):
  uF K N C D (fk Q) [v0,some (.int 8),some (.ref bl),some v,some (.ref kd),none,none,none,none,none,none] H:=by
 obtain⟨u0,u1,u2,hb,B⟩:=L.b;have kn:=L.kn;have F:=MY L.bok (kn:=jv (SW.gD ps)) λ_=>Fb;have hd:=vH F.d (aC 1) t (jv (SW.gD ps)) λ_=>Fb;have hz:=L.hz;refine⟨kd,ps,rfl,kn.hk,kn.nd,kn.le,λe kvs H1 s1 he' lkk hkl=>?_⟩;refine .mk (S:=SF) ⟨⟨_,.mk he' (yL lkk),by lia⟩,λw k z=>⟨z,u0,u1,u2,bo,s1 _ _ hb,B.mono s1,L.bok,F,λt h=>jg (λ_ z=>z) (λ_ _ z=>z) h⟩⟩ (L.dt.mono (dW s1)) (jg (λ_ z=>z) (λ_ _ z=>z) L.wt) (by lia) (by lia) (λx H2 s2 hx=>?_) λH2 s2 hx=>?_
 ·exact qp (R:=some x) e1 (L.mono (s1.trans s2)) ly hk he hx hQ
 ·exact qp (R:=none) e1 (L.mono (s1.trans s2)) ly hk he hx hQ
theorem qq(e1:PySem.W.exmOne K (.ref N) (.ref N)=some true)(L:L4 H bl kd bo t v ps)(hQ:∀H',Q (.bl true) H'):
  uG K N C D (fk Q) [v0,some (.int 8),some (.ref bl),some v,some (.ref kd),none,none,none,none,none,none] H:=by
 obtain⟨u0,u1,u2,hb,B⟩:=L.b;have hz:=L.hz;refine⟨bl,u0,u1,u2,v,t,_,8,rfl,hb,B,L.dt,L.bok,L.wt,by lia,by lia,λr w n c k H3 s3 ly na hr hk1 hk2=>⟨eD.of hr,iM,_,rfl,?_⟩⟩;by_cases h8:k<=8
 ·exact eU (decide_eq_false (by lia)) (zc e1 (L.mono s3) ly h8 (hk2 h8) hQ)
 ·exact fI (decide_eq_true (by lia)) (hQ _)
end
theorem NC(e1:PySem.W.exmOne K (.ref N) (.ref N)=some true)(h:S1.Pd K vs H Q E):IP K N C D (fk Q) (start ["_law_script","_law_top","_law_book","_law_piece","_law_known","_law_due","_law_made","_law_todo","_law_part","_law_found","_law_refused"] vs) H:=by
 obtain⟨a,ns,rfl,ha,hl,hQ⟩:=h;have hl2:(ns.map V.int).length<=63:=by rw[aO];exact hl
 have cut:∀lo hi:Nat,∃ms:List Int,iJ (ns.map V.int) (some (lo:Int)) (some (hi:Int))=ms.map V.int/\ms.length<=hi-lo:=λlo hi=>by obtain⟨ms,e,h,_⟩:=pC ns (some lo) (some hi);rw[mX,mX]at h;exact⟨ms,e,by lia⟩
 obtain⟨ms,em,hm⟩:=cut 1 9;refine⟨a,_,8,30,rfl,ha,hl2,?_⟩;refine⟨ha,eY λq H1 hq s1 g1=>?_⟩;refine⟨q,_,ms,rfl,eL.of (g1.trans (by rw[<-em];rfl)),by lia,λbl bus t0 t1 t2 H2 s2 nbl hbl bkl w0 w1 w2 z0 z1 z2 y1 y2=>?_⟩;have sA:=s1.trans s2;obtain⟨ms2,em2,hm2⟩:=cut 9 18;refine⟨a,_,9,16,rfl,sA.seq ha,hl2,sA.seq ha,eY λq2 H3 hq2 s3 g3=>?_⟩;refine⟨q2,ms2,rfl,eL.of (g3.trans (by rw[<-em2];rfl)),by lia,λt v H4 s4 dt wg hsz hnm=>?_⟩;have sB:=s3.trans s4;refine⟨a,ns,0,rfl,(sA.trans sB).seq ha,λn0=>⟨n0,rfl,λkd ps H5 s5 _ hkd nd hps=>?_⟩⟩;have s25:=sB.trans s5;cases bkl with|cons B0 bkl=>cases bkl with|cons B1 bkl=>cases bkl with|cons B2 bkl=>cases bkl with|nil=>
 have L:L4 H5 bl kd ⟨false,t0,t1,t2⟩ t v ps:=⟨⟨_,_,_,s25 _ _ hbl,(DL B0).mono s25,(DL B1).mono s25,(DL B2).mono s25⟩,⟨tm w0,tm w1,tm w2,z0,⟨z1,y1⟩,z2,y2⟩,dt.mono (dW s5),fb (λw k=>xt) (tm wg),by lia,hkd,nd,hps⟩;obtain⟨u0,u1,u2,hb,B⟩:=L.b;refine⟨bl,u0,u1,u2,v,t,_,8,rfl,hb,B,L.dt,L.bok,L.wt,by lia,by lia,λr w n c k H6 s6 ly na hr hk1 hk2=>⟨eD.of hr,iM,_,rfl,ir (λ_=>?_) λ_=>qq e1 (L.mono s6) hQ⟩⟩;obtain⟨ms3,em3,hm3⟩:=cut 9 12;have s06:=sA.trans (s25.trans s6);refine⟨s06.seq ha,eY λq3 H7 hq3 s7 g7=>?_⟩;refine⟨q3,ms3,rfl,eL.of (g7.trans (by rw[<-em3];rfl)),by lia,λt' v' H8 s8 dt' wg' hsz' hnm'=>?_⟩;have L8:=L.mono (s6.trans (s7.trans s8));exact qq e1 ⟨L8.b,L8.bok,dt',fb (λw k=>xt) (tm wg'),by lia,L8.kn⟩ hQ
end S4
namespace L2
open PySem PySem.Spec PyProof.Rows
section
variable {P:List Value->Prop}
theorem NI{us:List Value}(h:us.length=n+1):∃x r,us=x::r/\r.length=n:=by
 cases us with
 | nil=>cases h
 | cons x r=>exact⟨x,r,rfl,Nat.succ.inj h⟩
theorem NH(h:∀a,P [a])(us:List Value)(l:us.length=1):P us:=by obtain⟨a,r,rfl,k⟩:=NI l;cases bF.mp k;exact h a
theorem NG(h:∀a b,P [a,b])(us:List Value)(l:us.length=2):P us:=by obtain⟨a,r,rfl,k⟩:=NI l;exact NH (P:=λr=>P (a::r)) (h a) r k
theorem NF(h:∀a b c,P [a,b,c])(us:List Value)(l:us.length=3):P us:=by obtain⟨a,r,rfl,k⟩:=NI l;exact NG (P:=λr=>P (a::r)) (h a) r k
theorem Of(h:∀a b c d,P [a,b,c,d])(us:List Value)(l:us.length=4):P us:=by obtain⟨a,r,rfl,k⟩:=NI l;exact NF (P:=λr=>P (a::r)) (h a) r k
end
def Ku(K:aA)(x qual:Str)(st:Stmt)(f:Addr):Prop:=∃fd,Dm K x qual st f fd
theorem Oe{K:aA}{x qual:Str}{st:Stmt}{f:Addr}{oc:Value}{od an:Option Addr}{osl:Array (Option Value)}{kV doc pm cdv ct:Value}(l:K.lookup f=some ⟨oc,od,.func (PySem.W.fnOf x qual (jq st) (gK st) (eZ st) .none kV doc pm an cdv ct),osl⟩)
  (c:PySem.W.codeIn K cdv qual=true) (k:PySem.W.keepIn K (.ref f)=true):Ku K x qual st f:=⟨_,KP l c k⟩
structure Ds(P:Program)(w:World)(K:aA)(mg:Str->Option Value)(base:Heap)(k:Nat)(f:Addr)(ps:List Str)(sp:Sp):Prop where
 ex:∃fd,je P w K mg base vM k f fd ps sp/\kT K fd ps []
 kp:PySem.W.keepIn K (.ref f)=true
section
variable {P:Program}{w:World}{K:aA}{mg:Str->Option Value}{base:Heap}{x qual:Str}{st:Stmt}{f:Addr}{N ps:List Str}{k:Nat}{sp sp':Sp}
theorem Ds.imp(D:Ds P w K mg base k f ps sp)(h:∀vs H Q E,sp' vs H Q E->sp vs H Q E):Ds P w K mg base k f ps sp':=by obtain⟨⟨fd,F,b⟩,kp⟩:=D;exact⟨⟨fd,F.imp h,b⟩,kp⟩
theorem jJ(F:Ku K x qual st f)
  (hbody:∀{cdv:Value}{A:Around}{outer:List Env}{s:Shared}{H:Hp}{vs:List V}{Q:VK}{E:XK},N.Nodup->gr k (A.deeper (envOfC qual (eZ st) s.heap.objs.size f cdv))->sp vs H Q E->
   ∃t,t {nx:=λ_ H'=>Q .non H',rt:=Q} (start N vs) H/\pG (i7 vM P w K mg base N qual (eZ st) f cdv A outer s H E).nox (gK st) t)
  (S:kj N ps (eZ st):=by exact⟨rfl,rfl,rfl,by decide,rfl,by decide,by decide⟩)
  (hb:∀(kV doc pm:Value)(an:Option Addr)(cdv ct:Value)(us:List Value),us.length=ps.length->bindArgs (PySem.W.fnOf x qual (jq st) (gK st) (eZ st) .none kV doc pm an cdv ct) ⟨us,[]⟩=pure (ps.zip us):=by intro _ _ _ _ _ _;first|exact NH λ_=>rfl|exact NG λ_ _=>rfl|exact NF λ_ _ _=>rfl|exact Of λ_ _ _ _=>rfl)
  (len:∀vs H Q E,sp vs H Q E->vs.length=ps.length:=by intro vs H Q E h;first|(cases h<;>rfl)|(repeat (first|(obtain⟨rfl,_⟩:=h;rfl)|obtain⟨_,h⟩:=h))):Ds P w K mg base (k+1) f ps sp:=by
 obtain⟨fd,F⟩:=F;exact⟨⟨fd,F.ok S len λcdv A outer s H vs Q E hr h=>(hbody S.nd hr h).imp λ_=>And.symm,F.binds hb⟩,F.kp⟩
theorem Qm(F:Dm K x qual st f fd)
  (hbody:∀{cdv:Value}{A:Around}{outer:List Env}{s:Shared}{H:Hp}{vs:List V}{Q:VK}{E:XK},N.Nodup->gr k (A.deeper (envOfC qual (eZ st) s.heap.objs.size f cdv))->sp vs H Q E->
   ∃t,t {nx:=λ_ H'=>Q .non H',rt:=Q} (start N vs) H/\pG (i7 vM P w K mg base N qual (eZ st) f cdv A outer s H E).nox (gK st) t)
  (S:kj N ps (eZ st):=by exact⟨rfl,rfl,rfl,by decide,rfl,by decide,by decide⟩)
  (len:∀vs H Q E,sp vs H Q E->vs.length=ps.length:=by intro vs H Q E h;first|(cases h<;>rfl)|(repeat (first|(obtain⟨rfl,_⟩:=h;rfl)|obtain⟨_,h⟩:=h))):je P w K mg base vM (k+1) f fd ps sp:=
 F.ok S len λcdv A outer s H vs Q E hr h=>(hbody S.nd hr h).imp λ_=>And.symm
theorem Me(F:Ku K x qual st f)
  (h:∀vs H Q E,sp vs H Q E->vs.length=ps.length/\False)
  (hb:∀(kV doc pm:Value)(an:Option Addr)(cdv ct:Value)(us:List Value),us.length=ps.length->bindArgs (PySem.W.fnOf x qual (jq st) (gK st) (eZ st) .none kV doc pm an cdv ct) ⟨us,[]⟩=pure (ps.zip us):=by intro _ _ _ _ _ _;first|exact NH λ_=>rfl|exact NG λ_ _=>rfl|exact NF λ_ _ _=>rfl|exact Of λ_ _ _ _=>rfl):Ds P w K mg base k f ps sp:=by
 obtain⟨fd,F⟩:=F;exact⟨⟨fd,⟨λvs H Q E z=>(h vs H Q E z).1,λA outer s H args us vs Q E _ _ _ _ z=>(h _ _ _ _ z).2.elim⟩,F.binds hb⟩,F.kp⟩
end
section
variable {X:Cx}{k n:Nat}{f C:Addr}{ps:List Str}{sp:Sp}{x m:Str}{e a b o:Expr}{es:List Expr}{t:TA}{ta tb te:TE}{p pos apos:Pos}
theorem pc(D:Ds X.prog X.w X.K X.mg X.base k f ps sp)(hr:gr n X.A)(hm:X.mg x=some (.ref f))(ha:PA X (e::es) t)(hk:k<=n:=by decide)(hg:Gl X x:=by rfl)(hdb:(x==("__debug__":Str))=false:=by decide)(he:starEach (e::es) X.env=(false,eval e X.env)::starEach es X.env:=by rfl)(hpl:(backTo pos (starEach es X.env)).any (·.1)=false:=by rfl):
  PE X (.Call (.Name x p) (e::es) [] pos) (eN sp [] E0 t):=by
 obtain⟨⟨fd,F,bd⟩,kp⟩:=D;exact yE F (hr.mono hk) hg hm kp bd .nil CO ha hdb he hpl
theorem pm(he:PE X o ta)(c:xE X.K C)(hm:k8 X.K C m f)(D:Ds X.prog X.w X.K X.mg X.base k f ps sp)(hr:gr n X.A)(ha:PA X (e::es) t)(hk:k<=n:=by decide)
  (hst:starEach (e::es) X.env=(false,eval e X.env)::starEach es X.env:=by rfl) (hpl:(backTo pos (starEach es X.env)).any (·.1)=false:=by rfl)
  (ht:eval (.Call (.Attribute o m apos) (e::es) [] pos) X.env=(do
   let ov <- eval o X.env
   standAt apos.atName
   let (f,first) <- holding [ov] (getMethod ov m pl)
   callWith pos f first (backTo pos (starEach (e::es) X.env)) (backToKw pos (keywordEach [] X.env))):=by rfl):PE X (.Call (.Attribute o m apos) (e::es) [] pos) (ji C m sp [] E0 ta t):=by
 obtain⟨⟨fd,F,bd⟩,kp⟩:=D;exact FD he c hm F (hr.mono hk) bd .nil CO ha hst hpl ht
theorem pk(M:Mk X.K C f)(D:Ds X.prog X.w X.K X.mg X.base k f ps sp)(hr:gr n X.A)(hm:X.mg x=some (.ref C))(ha:PA X (e::es) t)(hk:k+1<=n:=by decide)(hg:Gl X x:=by rfl)(hdb:(x==("__debug__":Str))=false:=by decide)(he:starEach (e::es) X.env=(false,eval e X.env)::starEach es X.env:=by rfl)(hpl:(backTo pos (starEach es X.env)).any (·.1)=false:=by rfl):
  PE X (.Call (.Name x p) (e::es) [] pos) (uH C sp [] E0 t):=by
 obtain⟨⟨fd,F,bd⟩,kp⟩:=D;exact FE M F (hr.mono hk) hg hm bd .nil CO ha hdb he hpl
theorem Qo{K:aA}{i j:Nat}:∀(v:V)(σ:St)(H:Hp)(Q Q':St->Hp->Prop),nq K 2 (gR (dR i) (gR (dR j) oA)) v σ H Q->(∀σ' H',Q σ' H'->Q' σ' H')->nq K 2 (gR (dR i) (gR (dR j) oA)) v σ H Q':=by intro v σ H Q Q' h k;obtain⟨a,rfl,h⟩:=onR.ex h;obtain @⟨xs,e1,e2,h⟩:=h;obtain⟨v1,r1,rfl,h⟩:=onC.ex h;obtain⟨v2,r2,rfl,e3,h⟩:=onC.ex h;exact⟨e1,e2,e3,k _ _ h⟩
theorem xT(ha:PE X a ta)(hb:PE X b tb)(hs:tS b:=by exact λ_ _=>rfl):PE X (.Subscript a b pos) (dj (dy X.K) ta tb):=uT KI ha hb hs
theorem xL(ha:PE X a ta)(hb:PE X b tb)(hs:tS b:=by exact λ_ _=>rfl):PE X (.Subscript a b pos) (dj (fu X.K) ta tb):=uT Fc ha hb hs
theorem sN(i:Nat)(nd:X.N.Nodup)(hx:Dl X.env.scope x)(he:PE X e te)(hi:X.N[i]?=some x:=by rfl)(hs:swapsWith e (some (.Name x pos')) pos.line X.env=pure false:=by rfl)(hf:X.fn x=true∨X.env.scope.names.lookup x=some .local:=by first|exact .inl rfl|exact .inr rfl):PS X (.Assign [.Name x pos'] e pos) (eB te (dR i)):=CD nd hi hx he hs hf
theorem qt(ho:mM X (compareOp op) r)(ha:PE X a ta)(hb:PE X b tb)(h:op≠.In:=by decide)(h2:op≠.NotIn:=by decide):PT X (.Compare a [op] [b] pos) (dz (dj r ta tb)):=lV ho ha hb (CW b h h2)
theorem qe(ho:mM X (compareOp op) r)(ha:PE X a ta)(hb:PE X b tb)(h:op≠.In:=by decide)(h2:op≠.NotIn:=by decide):PE X (.Compare a [op] [b] pos) (dj r ta tb):=yD ho ha hb (CW b h h2)
theorem gB(h:PE X e te)(hs:starEach [e] X.env=(false,eval e X.env)::starEach [] X.env:=by rfl):PA X [e] (dI te dQ):=de h fN hs
theorem fJ(h:PE X e te)(h2:PE X a ta)(hs:starEach [e,a] X.env=(false,eval e X.env)::starEach [a] X.env:=by rfl)(hs2:starEach [a] X.env=(false,eval a X.env)::starEach [] X.env:=by rfl):PA X [e,a] (dI te (dI ta dQ)):=de h (gB h2 hs2) hs
variable {body:List Stmt}{ts:TS}
theorem wq(i:Nat)(hN:X.N[i]?=some x)(k:(∀{pos:Pos},PE X (.Name x pos) (dJ i))->pG X body ts)(hv:NN X.env.scope x:=by first|exact av rfl|exact bD (av rfl)|exact bD (bD rfl))(hd:(x==("__debug__":Str))=false:=by decide)(hcd:(x==("__classdict__":Str))=false:=by decide):pG X body ts:=k (λ{pos}=>wG hN hv hd hcd)
theorem wh(i:Nat)(hi:X.N[i]?=some x)(nd:X.N.Nodup)(k:Dl X.env.scope x->(∀{pos:Pos},PG X (.Name x pos) (dR i))->pG X body ts)(hx:Dl X.env.scope x:=by first|exact av rfl|exact bD rfl)
  (hf:X.fn x=true∨X.env.scope.names.lookup x=some .local:=by first|exact .inl rfl|exact .inr rfl):pG X body ts:=k hx (λ{pos}=>kc (i:=i) nd hi hx hf)
theorem wb(i:Nat)(hi:X.N[i]?=some x)(nd:X.N.Nodup)(k:(∀{pos:Pos},PE X (.Name x pos) (dJ i))->(∀{e:Expr}{te:TE}{pos pos':Pos},PE X e te->(hs:swapsWith e (some (.Name x pos')) pos.line X.env=pure false:=by rfl)->PS X (.Assign [.Name x pos'] e pos) (eB te (dR i)))->(∀{pos:Pos},PG X (.Name x pos) (dR i))->pG X body ts)(hx:Dl X.env.scope x:=by first|exact av rfl|exact bD rfl)
  (hf:X.fn x=true∨X.env.scope.names.lookup x=some .local:=by first|exact .inl rfl|exact .inr rfl) (hd:(x==("__debug__":Str))=false:=by decide) (hcd:(x==("__classdict__":Str))=false:=by decide):pG X body ts:=
 k (λ{pos}=>wG hi (hx.imp id .inl) hd hcd) (λhe hs=>CD nd hi hx he hs hf) (λ{pos}=>kc (i:=i) nd hi hx hf)
theorem eA{o e:Expr}{to te:TE}{apos cpos pos:Pos}(ho:PE X o to)(he:PE X e te)(hbase:attributeBase o "append" X.env (eval o X.env)=eval o X.env:=by rfl)
  (hfew:((backTo cpos (starEach [e] X.env)).all (λx=>!x.1)&&(backToKw cpos (keywordEach [] X.env)).all (λx=>x.1.isSome)&&decide ([e].length+([]:List Keyword).length+(if([]:List Keyword).isEmpty then 0 else 1)<30))=true:=by rfl)
  (hline:(apos.endLine==cpos.line)=true:=by rfl) (hs:starEach [e] X.env=(false,eval e X.env)::starEach [] X.env:=by rfl) (hw:swapsWith (.Call (.Attribute o "append" apos) [e] [] cpos) none pos.line X.env=pure false:=by rfl):
  PS X (.Expr (.Call (.Attribute o "append" apos) [e] [] cpos) pos) (eX (iW X.K "list" eE to (dI te dQ))):=
 gE (uV bc PySem.F.slot_list_append PySem.F.type_list_append zp ho (gB he hs) hbase hfew hline hs) hw
theorem bP{o:Expr}{to:TE}{apos cpos:Pos}(ho:PE X o to)(hbase:attributeBase o "pop" X.env (eval o X.env)=eval o X.env:=by rfl)(hline:(apos.endLine==cpos.line)=true:=by rfl):PE X (.Call (.Attribute o "pop" apos) [] [] cpos) (jG X.K "list" jH to):=
 Jk bc PySem.F.slot_list_pop PySem.F.type_list_pop J8 ho hbase hline
theorem cN{e:Expr}{te:TE}{p pos:Pos}(hm:X.mg "len"=none)(he:PE X e te)(hg:Gl X "len":=by rfl)(hs:starEach [e] X.env=(false,eval e X.env)::starEach [] X.env:=by rfl):PE X (.Call (.Name "len" p) [e] [] pos) (gx (ga X.K) (dI te dQ)):=
 fZ tK hg hm qQ (gB he hs) (by decide) (by decide) hs
end
structure Dx(P:Program)(w:World)(K:aA)(mg:Str->Option Value)(base:Heap)(k:Nat)(f:Addr)(ps:List Str)(sp:Sp):Prop where
 ex:∃fd,je P w K mg base (pH P w) k f fd ps sp/\kT K fd ps []
 kp:PySem.W.keepIn K (.ref f)=true
section
variable {P:Program}{w:World}{K:aA}{mg:Str->Option Value}{base:Heap}{x qual:Str}{st:Stmt}{f:Addr}{N ps:List Str}{k:Nat}{sp sp':Sp}
theorem okx(F:Ku K x qual st f)
  (hbody:∀{cdv:Value}{A:Around}{outer:List Env}{s:Shared}{H:Hp}{vs:List V}{Q:VK}{E:XK},N.Nodup->gr k (A.deeper (envOfC qual (eZ st) s.heap.objs.size f cdv))->sp vs H Q E->
   ∃t,t {nx:=λ_ H'=>Q .non H',rt:=Q} (start N vs) H/\pG (i7 (pH P w) P w K mg base N qual (eZ st) f cdv A outer s H E) (gK st) t)
  (S:kj N ps (eZ st):=by exact⟨rfl,rfl,rfl,by decide,rfl,by decide,by decide⟩)
  (hb:∀(kV doc pm:Value)(an:Option Addr)(cdv ct:Value)(us:List Value),us.length=ps.length->bindArgs (PySem.W.fnOf x qual (jq st) (gK st) (eZ st) .none kV doc pm an cdv ct) ⟨us,[]⟩=pure (ps.zip us):=by intro _ _ _ _ _ _;first|exact NH λ_=>rfl|exact NG λ_ _=>rfl|exact NF λ_ _ _=>rfl|exact Of λ_ _ _ _=>rfl)
  (len:∀vs H Q E,sp vs H Q E->vs.length=ps.length:=by intro vs H Q E h;first|(cases h<;>rfl)|(repeat (first|(obtain⟨rfl,_⟩:=h;rfl)|obtain⟨_,h⟩:=h))):Dx P w K mg base (k+1) f ps sp:=by
 obtain⟨fd,F⟩:=F;exact⟨⟨fd,F.okx S len λcdv A outer s H vs Q E hr h=>(hbody S.nd hr h).imp λ_=>And.symm,F.binds hb⟩,F.kp⟩
end
section
variable {X:Cx}{k n:Nat}{f C:Addr}{ps:List Str}{sp:Sp}{x m:Str}{e a b o:Expr}{es:List Expr}{t:TA}{ta tb te:TE}{p pos apos:Pos}{E:XK}
theorem QH(D:Dx X.prog X.w X.K X.mg X.base k f ps sp)(hr:gr n X.A)(hm:X.mg x=some (.ref f))(hx:lK (pH X.prog X.w) X E)(ha:PA X (e::es) t)(hk:k<=n:=by decide)(hg:Gl X x:=by rfl)(hdb:(x==("__debug__":Str))=false:=by decide)(he:starEach (e::es) X.env=(false,eval e X.env)::starEach es X.env:=by rfl)(hpl:(backTo pos (starEach es X.env)).any (·.1)=false:=by rfl):
  PE X (.Call (.Name x p) (e::es) [] pos) (eN sp [] E t):=by
 obtain⟨⟨fd,F,bd⟩,kp⟩:=D;exact yE F (hr.mono hk) hg hm kp bd .nil hx ha hdb he hpl
theorem Qh{i:Nat}{y:Str}{pos':Pos}(D:Dx X.prog X.w X.K X.mg X.base k f ps sp)(hr:gr n X.A)(hm:X.mg x=some (.ref f))(ha:PA X (e::es) t)(hne:∀e s,¬X.xe e s)(hN:X.N.Nodup)(hy:Dl X.env.scope y)(hi:X.N[i]?=some y:=by rfl)(hk:k<=n:=by decide)(hg:Gl X x:=by rfl)(hs:swapsWith (.Call (.Name x p) (e::es) [] cpos) (some (.Name y pos')) pos.line X.env=pure false:=by rfl)
  (hf:X.fn y=true∨X.env.scope.names.lookup y=some .local:=by first|exact .inl rfl|exact .inr rfl)
  (hdb:(x==("__debug__":Str))=false:=by decide) (he:starEach (e::es) X.env=(false,eval e X.env)::starEach es X.env:=by rfl) (hpl:(backTo cpos (starEach es X.env)).any (·.1)=false:=by rfl):
  PX X (.Assign [.Name y pos'] (.Call (.Name x p) (e::es) [] cpos) pos) (G7 sp i t):=by
 obtain⟨⟨fd,F,bd⟩,kp⟩:=D;exact Jg F (hr.mono hk) hg hm kp bd ha hne hN hi hy hs hf hdb he hpl
end
end L2
namespace K4
open PySem L2 SW S9 S8
def top(i:Nat):Stmt:=PySem.Challenge.pw_stampword_k04_whole_means_the_same.main.body.getD i (.Pass ⟨0,0,0,0⟩)
set_option genInjectivity false in
set_option genSizeOf false in
structure NV where
 (f0 f1 f2 f3 f4 f5 f6 f7 f8 f9 f10 f11 f12 f13 f14 f15 f16 f17 f18 f19 f20 f21 f22 f23 f24 f25 f26 f27 f28 f29 f30 f31 f32 f33 f34 f35 f36 f37 f38 f39 f40 f41 f42 f43 f44 f45 f46 f47 f48 f49 f50 f51 o0 o1 y0:Addr)
structure AM(P:Program)(w:World)(K:aA)(mg:Str->Option Value)(base:Heap)(a:NV):Prop where
 n0:mg "abs"=none
 n1:mg "bool"=none
 n2:mg "isinstance"=none
 n3:mg "int"=none
 n4:mg "list"=none
 n5:mg "len"=none
 n6:mg "min"=none
 n7:mg "tuple"=none
 n8:mg "str"=none
 n9:mg "range"=none
 n10:mg "dict"=none
 n11:mg "reversed"=none
 n12:mg "sorted"=none
 n13:mg "enumerate"=none
 n14:mg "zip"=none
 g0:mg "_law_any"=some (.ref a.f0)
 g1:mg "_law_any_word"=some (.ref a.f1)
 g2:mg "_law_whole"=some (.ref a.f2)
 g3:mg "_law_inside"=some (.ref a.f3)
 g4:mg "_law_at"=some (.ref a.f4)
 g5:mg "_law_room"=some (.ref a.f5)
 g6:mg "_law_drawn_piece"=some (.ref a.f6)
 g7:mg "_law_drawn_main"=some (.ref a.f7)
 g8:mg "_law_is_piece"=some (.ref a.f8)
 g9:mg "_law_drawn_book"=some (.ref a.f9)
 g10:mg "_law_is_done"=some (.ref a.f10)
 g11:mg "_law_book_copied"=some (.ref a.f11)
 g12:mg "_law_noted"=some (.ref a.f12)
 g13:mg "_law_first_stamp"=some (.ref a.f13)
 g14:mg "_law_placed"=some (.ref a.f14)
 g15:mg "_law_laid"=some (.ref a.f15)
 g16:mg "_law_meaning"=some (.ref a.f16)
 g17:mg "_law_outside"=some (.ref a.f17)
 g18:mg "_law_as_known"=some (.ref a.f18)
 g19:mg "parts"=some (.ref a.f19)
 g20:mg "every_piece"=some (.ref a.f20)
 g21:mg "with_word"=some (.ref a.f21)
 g22:mg "pieces_with_lets"=some (.ref a.f22)
 g23:mg "outside_names"=some (.ref a.f23)
 g24:mg "stamps_by_word"=some (.ref a.f24)
 g25:mg "check_use"=some (.ref a.f25)
 g26:mg "check_piece"=some (.ref a.f26)
 g27:mg "check_stamps"=some (.ref a.f27)
 g28:mg "numbered_word"=some (.ref a.f28)
 g31:mg "all_outside_names"=some (.ref a.f31)
 g32:mg "spots_within"=some (.ref a.f32)
 g33:mg "has_stamps_to_open"=some (.ref a.f33)
 g34:mg "row_at"=some (.ref a.f34)
 g43:mg "piece_of"=some (.ref a.f43)
 g44:mg "sources_of"=some (.ref a.f44)
 g45:mg "write_out"=some (.ref a.f45)
 g46:mg "expanded"=some (.ref a.f46)
 g47:mg "number_of_name"=some (.ref a.f47)
 g48:mg "needed_first"=some (.ref a.f48)
 g49:mg "begin"=some (.ref a.f49)
 g50:mg "end"=some (.ref a.f50)
 g51:mg "reckoned"=some (.ref a.f51)
 u0:∃t,mg "LETTERS"=some (.str "abcdefghijklmnopqrstuvwxyz" t)
 c0:mg "Opening"=some (.ref a.o0)
 l0:xE K a.o0
 c1:mg "FreshWords"=some (.ref a.o1)
 l1:xE K a.o1
 x0:mg "NoName"=some (.ref a.y0)
abbrev AM.X{P:Program}{w:World}{K:aA}{mg:Str->Option Value}{base:Heap}{a:NV}(_:AM P w K mg base a):=Dx P w K mg base
abbrev AM.D{P:Program}{w:World}{K:aA}{mg:Str->Option Value}{base:Heap}{a:NV}(_:AM P w K mg base a):=Ds P w K mg base
def Gd(K:aA)(x:Str)(i:Nat)(f:Addr):Prop:=PySem.W.nsIn K mainGlobals x=some (some (.ref f))/\Ku K x x (top i) f
def Gm(K:aA)(C:Addr)(x q:Str)(i j:Nat)(f:Addr):Prop:=PySem.W.findIn K (.ref C) x=some (some (.ref f))/\PySem.W.isFn K (.ref f)=true/\Ku K x q (Fe (top i) j) f
def Gz(K:aA)(x:Str):Prop:=PySem.W.nsIn K mainGlobals x=some none
theorem Gm.m{K:aA}{C:Addr}{x q:Str}{i j:Nat}{f:Addr}(h:Gm K C x q i j f):k8 K C x f:=by obtain⟨a,b,_,c⟩:=h;exact⟨a,b,c.kp⟩
seal L2.PE L2.PT L2.PW L2.PA L2.PS L2.pG L2.PC L2.PG L2.NR L2.PI L2.PO L2.NQ
section
variable {P:Program}{w:World}{K:aA}{mg:Str->Option Value}{base:Heap}{a:NV}{f C:Addr}(T:AM P w K mg base a)(ro:RO K a.o0)(rw:RW K a.o1)(hx:PySem.W.excIn K a.y0 [.type "ValueError",.type "Exception",.type "BaseException",.type "object"] "ValueError.__new__"=true)(e1:PySem.W.exmOne K (.ref a.y0) (.ref a.y0)=some true)
include T ro rw hx e1
theorem Jz(F:Gd K "_law_any" 52 f):T.D 1 f ["_law_cell"] qk:=
 jJ F.2 λnd hr h=>⟨_,SW.OW h,wb 1 rfl nd λp1 s1 g1=>wq 0 rfl λp0=>(dM (s1 (eT gw (eT jn p0 dN) (eT CS dN dN))) (dO (eF (eT Jl p1 (xL (eK (fJ dN (ig gh dN))) (eT gw p0 dN))))))⟩
theorem MF(F:Gd K "_law_any_word" 51 f):T.D 1 f ["_law_cell"] ra:=
 jJ F.2 λnd hr h=>⟨SW.OE K,SW.QF h,wb 1 rfl nd λp1 s1 g1=>wb 2 rfl nd λp2 s2 g2=>wq 0 rfl λp0=>(dM (s1 (eT gw (fZ DE (by rfl) T.n0 Ke (gB p0)) (eT CS dN dN))) (dM (s2 dU) (dM (gA PassesOwn.never (qt LX p1 dN) (dM (s2 (eT mH (uT wR dU (eT gw p1 dN) (λ_ _=>rfl)) p2)) (dO (s1 (eT hG (eT jn p1 dN) dN))))) (dO (eF p2)))))⟩
theorem Lc(F:Gd K "_law_whole" 36 f):T.D 1 f ["_law_found"] jQ:=
 jJ F.2 λnd hr h=>⟨_,S1.Ph h,wq 0 rfl λp0=>(dO (eF (wH (fZ hV (by rfl) T.n2 fU (fJ p0 (ii (v:=.ty "int") (by rfl) T.n3 qR rfl))) (CJ (CK (fZ hV (by rfl) T.n2 fU (fJ p0 (ii (v:=.ty "bool") (by rfl) T.n1 Ft rfl))))))))⟩
theorem Jr(F:Gd K "_law_inside" 39 f):T.D 1 f ["_law_piece"] ia:=
 jJ F.2 λnd hr h=>⟨_,SW.ON h,wq 0 rfl λp0=>(dM (eP (lV jW (xT p0 dN) (eK (fJ dU dU)) (by with_unfolding_all rfl)) (dO (eF (eK fN))) eO) (dO (eF (fo mq (by rfl) T.n4 mv (gB (fR pf p0 (fO (eT i0 dN (fo lg (by rfl) T.n3 qR (gB (yD jW (xT p0 dN) (eK (fJ dU dU)) (by with_unfolding_all rfl)))))) gU))))))⟩
theorem Jx(F:Gd K "_law_at" 37 f):T.D 1 f ["_law_script","_law_k"] (xp K):=
 jJ F.2 λnd hr h=>⟨_,S9.OU h,wq 0 rfl λp0=>wq 1 rfl λp1=>(dM (eP (qt qD p1 (cN T.n5 p0)) (dO (eF (xL p0 p1))) eO) (dO (eF dN)))⟩
theorem FO(F:Gd K "_law_room" 53 f):T.D 1 f ["_law_script","_law_most","_law_bound"] (pR K):=
 jJ F.2 λnd hr h=>⟨_,SW.NA h,wq 0 rfl λp0=>wq 1 rfl λp1=>wq 2 rfl λp2=>(dM (eP (qt kq (cN T.n5 p0) dN) (dO (eF p2)) eO) (dO (eF p1)))⟩
theorem L9(F:Gd K "_law_drawn_piece" 38 f)(d1:T.D 1 a.f1 ["_law_cell"] ra)(d0:T.D 1 a.f0 ["_law_cell"] qk):T.D 2 f ["_law_cells","_law_stamps"] (gj K):=
 jJ F.2 λnd hr h=>⟨_,S9.OP h,wb 2 rfl nd λp2 s2 g2=>wb 3 rfl nd λp3 s3 g3=>wb 4 rfl nd λp4 s4 g4=>wb 5 rfl nd λp5 s5 g5=>wb 6 rfl nd λp6 s6 g6=>wb 7 rfl nd λp7 s7 g7=>wb 8 rfl nd λp8 s8 g8=>wb 9 rfl nd λp9 s9 g9=>wb 10 rfl nd λp10 s10 g10=>wb 11 rfl nd λp11 s11 g11=>wb 12 rfl nd λp12 s12 g12=>wq 0 rfl λp0=>wq 1 rfl λp1=>(dM (s2 (eK (gB (eG (fJ dU dU))))) (dM (fj PassesOwn.never rfl (gN p0) g3 (dM (s4 (eT jn p3 dN)) (dM (s5 (eT gw p3 dN)) (dM (s6 (xL (eK (de dU (de dU (fJ dU dU)))) (eT gw p4 dN))) (dM (eP (qt eh (eT gw p4 dN) dN) (dO (s6 (eT mH (pc d1 hr T.g1 (gB (eT jn p4 dN))) dU))) eO) (dM (s7 (fR gT p2 (fO (ig gh dN)) gU)) (dO (eP (ko (qt eh p5 dN) (lF (ie (qt eh (cN T.n5 p7) dN) (hZ (CC qD qD dN p5 dN))).pt)).pt (dO (eA p2 (eG (fJ dU (xL (eK (fJ (eT hG (eT gw p4 dN) dN) (pc d0 hr T.g0 (gB p4)))) (fo lg (by rfl) T.n3 qR (gB (qe eh (eT gw p4 dN) dN)))))))) (dO (eP (qt qD p5 dN) (dO (eA p2 (eG (fJ dU p6)))) (dO (eP (ie (qt eh p5 dN) (hZ (qt eh (cN T.n5 p7) dN))).pt (dO (s2 (eT jr (fR gT p2 gU (fO (ig gh dN))) (eK (gB (eG (de dU (de (xL p7 dN) (fJ (xL p7 dN) (xL p7 dN)))))))))) (dO (eP (qt qD p5 dN) (dO (s2 (eT jr (fR gT p2 gU (fO (ig gh dN))) (eK (gB (eG (de (xL (eK (fJ dU dU)) (eT gw p5 dN)) (fJ (xL p7 (ig gh dN)) (xL p7 (ig gh dN)))))))))) (dO (eP (qt eh p5 dN) (dM (s8 (xL p7 (ig gh dN))) (dM (eP (lV jW (xT p8 dN) (eK (fJ dU dU)) (by with_unfolding_all rfl)) (dO (s8 (xT p8 dN))) eO) (dM (eP (ie (qt eh (xT p8 dN) dU) (hZ (qt kq (eT gw p4 dN) dN))).pt (dO (s6 (xT p8 dN))) eO) (dO (s2 (eT jr (fR gT p2 gU (fO (ig gh dN))) (eK (gB (eG (de dU (de p6 (fJ (xL p7 (ig gh dN)) (xL p7 (ig gh dN)))))))))))))) (dO (eP (qt (kK hr.units0) p1 (eK fN)) (dM (ka (xL p1 (eT gw p4 (cN T.n5 p1))) (kb rfl (fQ g9 (fQ g10 jS)))) (dM (s10 (fZ (AJ rfl) (by rfl) T.n6 Kd (fJ p10 (cN T.n5 p2)))) (dO (eP (qt eh p10 (xT (xL p1 (eT gw p4 (cN T.n5 p1))) dN)) (dM (s11 (fo mB (by rfl) T.n7 kP (gB (eT jr (eK (fJ dU p9)) (fR gT p2 (fO (eT hG (cN T.n5 p2) p10)) gU))))) (dO (s2 (eT jr (fR gT p2 gU (fO (eT hG (cN T.n5 p2) p10))) (eK (gB p11)))))) eO)))) eO)))))))))))))))))) (dM (gA PassesOwn.never (qt kq (cN T.n5 p2) dN) (dM (s12 (bP p2)) (dO (eA p2 (eG (de dU (fJ (bP p2) p12))))))) (dO (eF (xL p2 dN))))))⟩
theorem FP(F:Gd K "_law_drawn_main" 41 f)(d6:T.D 2 a.f6 ["_law_cells","_law_stamps"] (oi K ym)):T.D 3 f ["_law_cells"] (pU K):=
 jJ F.2 λnd hr h=>⟨_,SW.NB h,wq 0 rfl λp0=>(dO (eF (pc d6 hr T.g6 (fJ p0 (eK (de (eG (fJ dU dN)) (de (eG (fJ dU dN)) (fJ (eG (fJ dU dN)) (eG (fJ dU dN))))))))))⟩
theorem L1(F:Gd K "_law_is_piece" 46 f)(d2:T.D 1 a.f2 ["_law_found"] jQ)(d3:T.D 1 a.f3 ["_law_piece"] ia):T.D 2 f ["_law_found"] lS:=
 jJ F.2 λnd hr h=>⟨_,S10.P6 h,wb 1 rfl nd λp1 s1 g1=>wb 2 rfl nd λp2 s2 g2=>wb 3 rfl nd λp3 s3 g3=>wq 0 rfl λp0=>(dM (s1 (eK (gB p0))) (dM (gA PassesOwn.never (qt (kK hr.units0) p1 (eK fN)) (dM (s2 (bP p1)) (dM (eP (ko (iz (iN (fZ hV (by rfl) T.n2 fU (fJ p2 (ii (v:=.ty "tuple") (by rfl) T.n7 kP rfl))))) (ko (qt qD (cN T.n5 p2) dN) (lF (iz (iN (fZ hV (by rfl) T.n2 fU (fJ (xT p2 dN) (ii (v:=.ty "str") (by rfl) T.n8 tM rfl)))))))).pt (dO (eF gy)) eO) (dM (s3 (FF (kI dU dN (kI dU dN (kI dU dN (kI dU dN (kI dU dN (kI dU dN E8)))))) rfl rfl (by intro z;cases z) (by decide))) (dM (eP (ie (qt md (uU (ff hr) p3 (xT p2 dN) dN ⟨rfl,rfl,rfl,rfl⟩) (cN T.n5 p2)) (hZ (qt md (xT p2 dN) dU))).pt (dO (eF gy)) eO) (dM (eP (qt eh (xT p2 dN) dU) (dO (eP (iz (iN (pc d2 hr T.g2 (gB (xT p2 dN))))) (dO (eF gy)) eO)) (dO (eP (ie (lV jW (xT p2 dN) (eK (de dU (fJ dU dU))) (by with_unfolding_all rfl)) (hZ (iz (iN (fZ hV (by rfl) T.n2 fU (fJ (xT p2 dN) (ii (v:=.ty "str") (by rfl) T.n8 tM rfl))))))).pt (dO (eF gy)) eO))) (dO (s1 (eT jr p1 (pc d3 hr T.g3 (gB p2))))))))))) (dO (eF gy))))⟩
theorem MB(F:Gd K "_law_drawn_book" 40 f)(d6:T.D 2 a.f6 ["_law_cells","_law_stamps"] (gj K)):T.D 3 f ["_law_cells","_law_wild"] (sC K):=
 jJ F.2 λnd hr h=>⟨_,S9.QC h,wb 2 rfl nd λp2 s2 g2=>wb 3 rfl nd λp3 s3 g3=>wq 0 rfl λp0=>wq 1 rfl λp1=>(dM (s2 (eK (de (eK fN) (fJ (eK (gB (eG (fJ dU dN)))) (eK (fJ (eG (fJ dU dN)) (eG (fJ dU dN)))))))) (dM (eP (iN p1) (dO (ka (eK (gB (eG (fJ dU dN)))) (CI p2 dN uM))) eO) (dM (s3 (eK (gB (eG (de dU (fJ (eK fN) (pc d6 hr T.g6 (fJ (fR gT p0 gU (fO dN)) (xL p2 dN))))))))) (dM (eA p3 (eG (de dU (fJ (eK (gB dU)) (pc d6 hr T.g6 (fJ (fR gT p0 (fO dN) (fO dN)) (xL p2 dN))))))) (dM (eA p3 (eG (de dU (fJ (eK (fJ dU dU)) (pc d6 hr T.g6 (fJ (fR gT p0 (fO dN) (fO dN)) (xL p2 dN))))))) (dO (eF p3)))))))⟩
theorem MA(F:Gd K "_law_is_done" 50 f)(d2:T.D 1 a.f2 ["_law_found"] jQ)(d8:T.D 2 a.f8 ["_law_found"] lS):T.D 3 f ["_law_found"] rn:=
 jJ F.2 λnd hr h=>⟨_,S9.QB h,wb 1 rfl nd λp1 s1 g1=>wb 2 rfl nd λp2 s2 g2=>wq 0 rfl λp0=>(dM (eP (ko (iz (iN (fZ hV (by rfl) T.n2 fU (fJ p0 (ii (v:=.ty "tuple") (by rfl) T.n7 kP rfl))))) (ko (qt md (cN T.n5 p0) dN) (lF (iz (iN (fZ hV (by rfl) T.n2 fU (fJ (xT p0 dN) (ii (v:=.ty "str") (by rfl) T.n8 tM rfl)))))))).pt (dO (eF gy)) eO) (dM (eP (ko (qt md (xT p0 dN) dU) (ko (iz (iN (pc d2 hr T.g2 (gB (xT p0 dN))))) (lF (iz (iN (fZ hV (by rfl) T.n2 fU (fJ (xT p0 dN) (ii (v:=.ty "list") (by rfl) T.n4 mv rfl)))))))).pt (dO (eF gy)) eO) (dM (fj PassesOwn.never rfl (gN (xT p0 dN)) g1 (dM (eP (ko (iz (iN (fZ hV (by rfl) T.n2 fU (fJ p1 (ii (v:=.ty "tuple") (by rfl) T.n7 kP rfl))))) (ko (qt md (cN T.n5 p1) dN) (lF (iz (iN (fZ hV (by rfl) T.n2 fU (fJ (xT p1 dN) (ii (v:=.ty "str") (by rfl) T.n8 tM rfl)))))))).pt (dO (eF gy)) eO) (dM (eP (iz (iN (fZ hV (by rfl) T.n2 fU (fJ (xT p1 dN) (ii (v:=.ty "tuple") (by rfl) T.n7 kP rfl))))) (dO (eF gy)) eO) (dO (fj PassesOwn.never rfl (CH (xT p1 dN)) g2 (dO (eP (iz (iN (pc d2 hr T.g2 (gB p2)))) (dO (eF gy)) eO))))))) (dO (eF (pc d8 hr T.g8 (gB (xT p0 dN))))))))⟩
def Om(s:Stmt):Scope:=match(gK s).getLast? with
 | some (.Return (some (.ListComp _ _ sc _)) _)=>sc
 | _=>eZ s
omit T ro rw hx e1 in
theorem Oi{f:Addr}{cdv:Value}{A:Around}{outer:List Env}{s:Shared}{H:Hp}{E:XK}:iq ((i7 vM P w K mg base ["_law_book"] "_law_book_copied" (eZ (top 54)) f cdv A outer s H E).nox) (Om (top 54)) [] ["_law_one"] [] []:=
 ⟨rfl,by decide,rfl,by decide,λy c h=>h,λy h=>qJ (L:=[((".0":Str),NameKind.local),(("_law_one":Str),NameKind.local),(("list":Str),NameKind.globalImplicit)]) (by simp) h,λk y hy=>by simp at hy,rfl⟩
theorem ME(F:Gd K "_law_book_copied" 54 f):T.D 1 f ["_law_book"] oj:=
 jJ F.2 λnd hr h=>⟨_,S9.OT h,wq 0 rfl λp0=>(dO (eF (CL rfl Oi (gN p0) (λfp s H C=>(eG (de (xT (pv 0) dN) (fJ (fo mq (by rfl) T.n4 mv (gB (xT (pv 0) dN))) (xT (pv 0) dN))))))))⟩
theorem Lv(F:Gd K "_law_noted" 42 f)(d3:T.D 1 a.f3 ["_law_piece"] ia):T.D 2 f ["_law_piece","_law_source","_law_given","_law_count"] mV:=
 jJ F.2 λnd hr h=>⟨_,S3.Py h,wb 4 rfl nd λp4 s4 g4=>wb 5 rfl nd λp5 s5 g5=>wb 6 rfl nd λp6 s6 g6=>wb 7 rfl nd λp7 s7 g7=>wb 8 rfl nd λp8 s8 g8=>wb 9 rfl nd λp9 s9 g9=>wb 10 rfl nd λp10 s10 g10=>wb 11 rfl nd λp11 s11 g11=>wb 12 rfl nd λp12 s12 g12=>wb 13 rfl nd λp13 s13 g13=>wb 14 rfl nd λp14 s14 g14=>wb 15 rfl nd λp15 s15 g15=>wq 0 rfl λp0=>wq 1 rfl λp1=>wq 2 rfl λp2=>wq 3 rfl λp3=>(dM (s4 (eK fN)) (dM (s5 (eK (gB (eG (de p0 (fJ (eG fN) gX)))))) (dM (gA PassesOwn.never (qt (kK hr.units0) p5 (eK fN)) (dM (ka (bP p5) (kb rfl (fQ g6 (fQ g7 (fQ g8 jS))))) (dM (eA p4 (eG (de p6 (fJ p7 p8)))) (dM (s9 (pc d3 hr T.g3 (gB p6))) (dO (fj PassesOwn.never rfl (lW (by rfl) T.n9 (de (eT hG (cN T.n5 p9) dN) (fJ (ig gh dN) (ig gh dN)))) g10 (dM (s11 p8) (dM (eP (ie (qt eh (xT p6 dN) dU) (hZ (qt eh p10 dN))).pt (dM (s11 (fo jb (by rfl) T.n10 mx (gB p8))) (dO (iA (ff hr) p11 (xT p6 dN) (eT i0 p3 (cN T.n5 p4)) rfl))) eO) (dO (eA p5 (eG (de (xL p9 p10) (fJ (eT sR p7 (eG (gB p10))) p11))))))))))))) (dM (s12 (eK fN)) (dM (fj PassesOwn.never rfl (lW (by rfl) T.n9 (de (eT hG (cN T.n5 p4) dN) (fJ (ig gh dN) (ig gh dN)))) g10 (dM (ka (xL p4 p10) (kb rfl (fQ g6 (fQ g7 (fQ g8 jS))))) (dM (s13 (cN T.n5 (pc d3 hr T.g3 (gB p6)))) (dM (s14 (FC rfl (by rfl) T.n4 (by rfl) T.n11 (fR gT p12 (fO (eT hG (cN T.n5 p12) p13)) gU))) (dM (s12 (fR gT p12 gU (fO (eT hG (cN T.n5 p12) p13)))) (dM (s15 nU) (dM (eP (lV jW (xT p6 dN) (eK (de dU (fJ dU dU))) (by with_unfolding_all rfl)) (dO (s15 (xT p6 dN))) eO) (dM (eP (qt eh (xT p6 dN) dU) (dO (s15 (eT i0 (eT i0 p3 p10) dN))) eO) (dM (eP (ie (qt eh (xT p6 dN) dU) (hZ (kZ (sP (ff hr) (xT p6 dN) p8)))).pt (dO (s15 (iL (ff hr) p8 (xT p6 dN) (λ_ _=>rfl)))) eO) (dO (eP (ie (qt eh (xT p6 dN) dU) (ie (kZ (kJ (ff hr) (xT p6 dN) p8)) (hZ (kZ (sP (ff hr) (xT p6 dN) p2))))).pt (dO (eA p12 (iL (ff hr) p2 (xT p6 dN) (λ_ _=>rfl)))) (dO (eA p12 (eG (de (xT p6 dN) (de p15 (fJ (eG (fJ p1 p7)) p14))))))))))))))))) (dO (eF (eG (fJ (xL p12 dN) (eT i0 p3 (cN T.n5 p4)))))))))))⟩
theorem L5(F:Gd K "_law_first_stamp" 43 f):T.D 1 f ["_law_tree"] uL:=
 jJ F.2 λnd hr h=>⟨_,S8.P8 h,wb 1 rfl nd λp1 s1 g1=>wb 2 rfl nd λp2 s2 g2=>wb 3 rfl nd λp3 s3 g3=>wb 4 rfl nd λp4 s4 g4=>wq 0 rfl λp0=>(dM (s1 (eK (gB (eG (fJ p0 (eK fN)))))) (dM (gA PassesOwn.never (qt (kK hr.units0) p1 (eK fN)) (dM (ka (bP p1) (kb rfl (fQ g2 (fQ g3 jS)))) (dM (eP (qt eh (xT p2 dN) dU) (dO (eF p3)) eO) (dO (fj PassesOwn.never rfl (lW (by rfl) T.n9 (de (eT hG (cN T.n5 (xT p2 dN)) dN) (fJ (ig gh dN) (ig gh dN)))) g4 (dO (eA p1 (eG (fJ (xL (xT p2 dN) p4) (eT jr p3 (eK (gB p4)))))))))))) (dO (eF nU))))⟩
theorem Lq(F:Gd K "_law_placed" 44 f):T.D 1 f ["_law_tree","_law_path","_law_made"] xk:=
 jJ F.2 λnd hr h=>⟨_,S8.Pt h,wb 2 rfl nd λp2 s2 g2=>wb 3 rfl nd λp3 s3 g3=>wb 4 rfl nd λp4 s4 g4=>wb 5 rfl nd λp5 s5 g5=>wb 6 rfl nd λp6 s6 g6=>wb 7 rfl nd λp7 s7 g7=>wq 0 rfl λp0=>wq 1 rfl λp1=>(dM (s3 (eK fN)) (dM (s4 p0) (dM (fj PassesOwn.never rfl (gN p1) g5 (dM (eA p3 p4) (dO (s4 (xL (xT p4 dN) p5))))) (dM (fj PassesOwn.never rfl (lW (by rfl) T.n9 (de (eT hG (cN T.n5 p1) dN) (fJ (ig gh dN) (ig gh dN)))) g6 (dM (s4 (xL p3 p6)) (dM (s7 (eT jr (eT jr (fR gT (xT p4 dN) gU (fO (xL p1 p6))) (eK (gB p2))) (fR gT (xT p4 dN) (fO (eT i0 (xL p1 p6) dN)) gU))) (dO (s2 (eG (de (xT p4 dN) (de (xT p4 dN) (fJ (xT p4 dN) p7))))))))) (dO (eF p2))))))⟩
def Ol(s:Stmt):Scope:=match((gK s)[3]?:Option Stmt) with
 | some (.While _ b _ _)=>(match(b[2]?:Option Stmt) with
  | some (.Assign _ (.Subscript (.ListComp _ _ sc _) _ _) _)=>sc
  | _=>eZ s)
 | _=>eZ s
omit T ro rw hx e1 in
theorem Oh{f:Addr}{cdv:Value}{A:Around}{outer:List Env}{s:Shared}{H:Hp}{E:XK}:iq ((i7 vM P w K mg base ["_law_book","_law_piece","_law_fuel","_law_tree","_law_count","_law_many","_law_path","_law_node","_law_k","_law_stamp","_law_given","_law_body"] "_law_laid" (eZ (top 45)) f cdv A outer s H E).nox) (Ol (top 45)) [("_law_node",s.heap.objs.size+1)] ["_law_one"] ["_law_node"] [7]:=
 ⟨rfl,by decide,rfl,by decide,λy c h=>h,λy h=>qJ (L:=[((".0":Str),NameKind.local),(("_law_one":Str),NameKind.local),(("_law_node":Str),NameKind.cell)]) (by simp) h,λk y hy=>match k,hy with|0,hy=>by cases hy;exact⟨7,rfl,rfl,rfl,.inl rfl⟩,rfl⟩
theorem L0(F:Gd K "_law_laid" 45 f)(d12:T.D 2 a.f12 ["_law_piece","_law_source","_law_given","_law_count"] mV)(d13:T.D 1 a.f13 ["_law_tree"] uL)(d14:T.D 1 a.f14 ["_law_tree","_law_path","_law_made"] xk):T.D 3 f ["_law_book","_law_piece","_law_fuel"] pW:=
 jJ F.2 λnd hr h=>⟨_,S8.P5 h,wb 3 rfl nd λp3 s3 g3=>wb 4 rfl nd λp4 s4 g4=>wb 5 rfl nd λp5 s5 g5=>wb 6 rfl nd λp6 s6 g6=>wb 7 rfl nd λp7 s7 g7=>wb 8 rfl nd λp8 s8 g8=>wb 9 rfl nd λp9 s9 g9=>wb 10 rfl nd λp10 s10 g10=>wb 11 rfl nd λp11 s11 g11=>wq 0 rfl λp0=>wq 1 rfl λp1=>wq 2 rfl λp2=>(dM (ka (pc d12 hr T.g12 (de p1 (de dU (fJ gX dN)))) (kb rfl (fQ g3 (fQ g4 jS)))) (dM (s5 dN) (dM (s6 (pc d13 hr T.g13 (gB p3))) (dM (gA PassesOwn.never (ie (qt FJ p6 nU) (hZ (qt CT p5 p2))).pt (dM (s7 p3) (dM (fj PassesOwn.never rfl (gN p6) g8 (dO (s7 (xL (xT p7 dN) p8)))) (dM (s9 (xL (sM (xr:=[]) rfl Oh (gN p0) (λfp s H C=>kc (i:=0) (by show(["_law_one","_law_node"]:List Str).Nodup;decide) rfl (av rfl) (.inr rfl)) (λfp s H C=>yB (qt eh (xT (pv 0) dN) (xT (pv 1) dN))) (λfp s H C=>(pv 0))) dN)) (dM (s10 gX) (dM (fj PassesOwn.never rfl (nQ (by rfl) T.n9 (gB (cN T.n5 (xT p7 dN)))) g8 (dO (iA (ff hr) p10 (xL (xT p9 dN) p8) (xL (xT p7 dN) p8) rfl))) (dM (ka (pc d12 hr T.g12 (de (xT p9 dN) (de (xT p9 dN) (fJ p10 p4)))) (kb rfl (fQ g11 (fQ g4 jS)))) (dM (s3 (pc d14 hr T.g14 (de p3 (fJ p6 p11)))) (dM (s5 (eT i0 p5 dN)) (dO (s6 (pc d13 hr T.g13 (gB p3))))))))))))) (dO (eF (eG (fJ p3 p5))))))))⟩
def MQ(s:Stmt):Scope:=match((gK s)[2]?:Option Stmt) with
 | some (.While _ b _ _)=>(match(b[1]?:Option Stmt) with
  | some (.If _ _ [.If _ _ [.If _ _ [.If _ (.Assign _ (.Subscript (.ListComp _ _ sc _) _ _) _::_) _ _] _] _] _)=>sc
  | _=>eZ s)
 | _=>eZ s
omit T ro rw hx e1 in
theorem MO{f:Addr}{cdv:Value}{A:Around}{outer:List Env}{s:Shared}{H:Hp}{E:XK}:iq ((i7 vM P w K mg base ["_law_book","_law_piece","_law_known","_law_pile","_law_todo","_law_word","_law_part","_law_own","_law_last","_law_near","_law_stamp","_law_k"] "_law_meaning" (eZ (top 47)) f cdv A outer s H E).nox) (MQ (top 47)) [("_law_part",s.heap.objs.size+1)] ["_law_one"] ["_law_part"] [6]:=
 ⟨rfl,by decide,rfl,by decide,λy c h=>h,λy h=>qJ (L:=[((".0":Str),NameKind.local),(("_law_one":Str),NameKind.local),(("_law_part":Str),NameKind.cell)]) (by simp) h,λk y hy=>match k,hy with|0,hy=>by cases hy;exact⟨6,rfl,rfl,rfl,.inl rfl⟩,rfl⟩
theorem Jq(F:Gd K "_law_meaning" 47 f):T.D 1 f ["_law_book","_law_piece","_law_known"] S4.rj:=
 jJ F.2 λnd hr h=>⟨_,S4.OM h,wb 3 rfl nd λp3 s3 g3=>wb 4 rfl nd λp4 s4 g4=>wb 5 rfl nd λp5 s5 g5=>wb 6 rfl nd λp6 s6 g6=>wb 7 rfl nd λp7 s7 g7=>wb 8 rfl nd λp8 s8 g8=>wb 9 rfl nd λp9 s9 g9=>wb 10 rfl nd λp10 s10 g10=>wb 11 rfl nd λp11 s11 g11=>wq 0 rfl λp0=>wq 1 rfl λp1=>wq 2 rfl λp2=>(dM (s3 (eK fN)) (dM (s4 (eK (gB (eG (de dU (fJ p1 p2)))))) (dM (gA PassesOwn.never (qt (kK hr.units0) p4 (eK fN)) (dM (ka (bP p4) (kb rfl (fQ g5 (fQ g6 (fQ g7 jS))))) (dO (eP (qt eh p5 dU) (dM (s8 (bP p3)) (dO (eP (qt eh (xT p6 dN) dU) (dO (eA p3 (eT i0 (bP p3) p8))) (dO (eP (qt eh (xT p6 dN) dU) (dO (eA p3 (eT hG (bP p3) p8))) (dO (eP (qt eh (xT p6 dN) dU) (dO (eA p4 (eG (de dU (fJ (xT p6 (xL (eK (fJ dN dN)) (fo lg (by rfl) T.n3 qR (gB (qe eh p8 dN))))) p7))))) (dM (s9 (fo jb (by rfl) T.n10 mx (gB p7))) (dM (iA (ff hr) p9 (xT p6 dN) (eG (de dU (fJ p8 gX))) rfl) (dO (eA p4 (eG (de dU (fJ (xT p6 dN) p9)))))))))))))) (dO (eP (qt eh (xT p6 dN) dU) (dO (eA p3 (xT p6 dN))) (dO (eP (qt eh (xT p6 dN) dU) (dM (eP (kZ (kJ (ff hr) (xT p6 dN) p7)) (dO (eF nU)) eO) (dM (eA p4 (eG (de dU (fJ (fR pf (iL (ff hr) p7 (xT p6 dN) (λ_ _=>rfl)) gU (fO dN)) (xT (iL (ff hr) p7 (xT p6 dN) (λ_ _=>rfl)) dN))))) (dO (eP (qt md (xT (iL (ff hr) p7 (xT p6 dN) (λ_ _=>rfl)) dN) dU) (dO (ka (eG (de dU (fJ (xT (iL (ff hr) p7 (xT p6 dN) (λ_ _=>rfl)) dN) (xT (iL (ff hr) p7 (xT p6 dN) (λ_ _=>rfl)) dN)))) (CI p4 (ig gh dN) uM))) eO)))) (dO (eP (qt eh (xT p6 dN) dU) (dM (s10 (xL (sM (xr:=[]) rfl MO (gN p0) (λfp s H C=>kc (i:=0) (by show(["_law_one","_law_part"]:List Str).Nodup;decide) rfl (av rfl) (.inr rfl)) (λfp s H C=>yB (qt eh (xT (pv 0) dN) (xT (pv 1) dN))) (λfp s H C=>(pv 0))) dN)) (dM (s9 (fo jb (by rfl) T.n10 mx (gB p2))) (dM (fj PassesOwn.never rfl (nQ (by rfl) T.n9 (gB (cN T.n5 (xT p10 dN)))) g11 (dO (iA (ff hr) p9 (xL (xT p10 dN) p11) (eG (de dU (fJ (xT p6 (eT i0 dN p11)) p7))) rfl))) (dO (eA p4 (eG (de dU (fJ (xT p10 dN) p9)))))))) (dM (eA p4 (eG (de dU (fJ p6 p7)))) (dM (eP (lV jW (xT p6 dN) (eK (fJ dU dU)) (by with_unfolding_all rfl)) (dO (eA p4 (eG (de dU (fJ (xT p6 dN) p7))))) eO) (dO (eA p4 (eG (de dU (fJ (xT p6 (eT i0 dN (fo lg (by rfl) T.n3 qR (gB (qe eh (xT p6 dN) dU))))) p7))))))))))))))))) (dO (eF (xL p3 dN))))))⟩
theorem Lr(F:Gd K "_law_outside" 48 f)(d0:T.D 1 a.f0 ["_law_cell"] qk):T.D 2 f ["_law_seed"] lR:=
 jJ F.2 λnd hr h=>⟨_,S1.Pu h,wb 1 rfl nd λp1 s1 g1=>wb 2 rfl nd λp2 s2 g2=>wb 3 rfl nd λp3 s3 g3=>wq 0 rfl λp0=>(dM (s1 gX) (dM (fj PassesOwn.never rfl (nQ (by rfl) T.n9 (gB dN)) g2 (dM (s3 (xL (eK (de dU (de dU (fJ dU dU)))) p2)) (dO (eP (qt md (eT gw p0 dN) p2) (dM (iA (ff hr) p1 p3 (eT hG (eT gw (eT jn p0 (eT i0 p2 dN)) dN) dN) rfl) (dO (eP (qt eh (eT gw (eT jn p0 dN) dN) p2) (dO (iA (ff hr) p1 p3 (pc d0 hr T.g0 (gB p0)) rfl)) eO))) eO)))) (dO (eF p1))))⟩
theorem MG(F:Gd K "_law_as_known" 49 f):T.D 1 f ["_law_known"] mW:=
 jJ F.2 λnd hr h=>⟨_,S1.QG h,wb 1 rfl nd λp1 s1 g1=>wb 2 rfl nd λp2 s2 g2=>wq 0 rfl λp0=>(dM (s1 gX) (dM (fj PassesOwn.never rfl (gN (fo (wo rfl) (by rfl) T.n4 mv (gB p0))) g2 (dO (iA (ff hr) p1 p2 (eG (de dU (fJ (iL (ff hr) p0 p2 (λ_ _=>rfl)) gX))) rfl))) (dO (eF p1))))⟩
theorem CU(F:Gd K "parts" 5 f):T.D 1 f ["piece"] iZ:=
 jJ F.2 λnd hr h=>⟨_,S9.Kr h,wb 1 rfl nd λp1 s1 g1=>wq 0 rfl λp0=>(dM (s1 (xT p0 dN)) (dM (eP (ko (qt eh p1 dU) (lF (qt eh p1 dU))).pt (dO (eF (eG fN))) eO) (dM (eP (ko (qt eh p1 dU) (lF (qt eh p1 dU))).pt (dO (eF (fR pf p0 (fO dN) gU))) eO) (dO (eF (fR pf p0 (fO dN) gU))))))⟩
theorem L6(F:Gd K "every_piece" 6 f)(d19:T.D 1 a.f19 ["piece"] iZ):T.D 2 f ["piece"] lT:=
 jJ F.2 λnd hr h=>⟨_,S9.P9 h,wb 1 rfl nd λp1 s1 g1=>wb 2 rfl nd λp2 s2 g2=>wb 3 rfl nd λp3 s3 g3=>wq 0 rfl λp0=>(dM (s1 (eK fN)) (dM (s2 (eK (gB p0))) (dM (gA PassesOwn.never (qt kq (cN T.n5 p2) dN) (dM (s3 (bP p2)) (dM (eA p1 p3) (dO (gE (uV bc cD cE wJ p2 (gB (pc d19 hr T.g19 (gB p3))))))))) (dO (eF p1)))))⟩
theorem LZ(F:Gd K "with_word" 7 f):T.D 1 f ["words","word","value"] gz:=
 jJ F.2 λnd hr h=>⟨SW.NZ K,SW.Pe h,wb 3 rfl nd λp3 s3 g3=>wq 0 rfl λp0=>wq 1 rfl λp1=>wq 2 rfl λp2=>(dM (s3 (fo jb (by rfl) T.n10 mx (gB p0))) (dM (iA (ff hr) p3 p1 p2 rfl) (dO (eF p3))))⟩
def MP(s:Stmt):Scope:=match(gK s).getLast? with
 | some (.Return (some (.ListComp _ _ sc _)) _)=>sc
 | _=>eZ s
omit T ro rw hx e1 in
theorem MN{f:Addr}{cdv:Value}{A:Around}{outer:List Env}{s:Shared}{H:Hp}{E:XK}:iq ((i7 vM P w K mg base ["piece","lets"] "pieces_with_lets" (eZ (top 8)) f cdv A outer s H E).nox) (MP (top 8)) [("lets",s.heap.objs.size+1)] ["part"] ["lets"] [1]:=
 ⟨rfl,by decide,rfl,by decide,λy c h=>h,λy h=>qJ (L:=[((".0":Str),NameKind.local),(("part":Str),NameKind.local),(("lets":Str),NameKind.cell)]) (by simp) h,λk y hy=>match k,hy with|0,hy=>by cases hy;exact⟨1,rfl,rfl,rfl,.inl rfl⟩,rfl⟩
theorem Jo(F:Gd K "pieces_with_lets" 8 f)(d21:T.D 1 a.f21 ["words","word","value"] gz)(d19:T.D 1 a.f19 ["piece"] rg):T.D 2 f ["piece","lets"] uK:=
 jJ F.2 λnd hr h=>⟨_,SW.OK h,wq 0 rfl λp0=>wq 1 rfl λp1=>(dM (eP (qt eh (xT p0 dN) dU) (dO (eF (eK (fJ (eG (fJ (xT p0 dN) (pc d21 hr T.g21 (de p1 (fJ (xT p0 dN) gy))))) (eG (fJ (xT p0 dN) p1)))))) eO) (dO (eF (CL rfl MN (CH (pc d19 hr T.g19 (gB p0))) (λfp s H C=>(eG (fJ (pv 0) (pv 1))))))))⟩
theorem Jp(F:Gd K "outside_names" 9 f)(d22:T.D 2 a.f22 ["piece","lets"] uK):T.D 3 f ["piece"] pS:=
 jJ F.2 λnd hr h=>⟨_,SW.OL h,wb 1 rfl nd λp1 s1 g1=>wb 2 rfl nd λp2 s2 g2=>wb 3 rfl nd λp3 s3 g3=>wb 4 rfl nd λp4 s4 g4=>wb 5 rfl nd λp5 s5 g5=>wq 0 rfl λp0=>(dM (s1 gX) (dM (s2 (eK (gB (eG (fJ p0 gX))))) (dM (gA PassesOwn.never (qt kq (cN T.n5 p2) dN) (dM (s3 (bP p2)) (dM (s4 (xT p3 dN)) (dM (s5 (xT p3 dN)) (dM (eP (ie (qt eh (xT p4 dN) dU) (hZ (kZ (kJ (ff hr) (xT p4 dN) p5)))).pt (dO (iA (ff hr) p1 (xT p4 dN) gy rfl)) eO) (dO (gE (uV bc cD cE nX p2 (gB (pc d22 hr T.g22 (fJ p4 p5))))))))))) (dO (eF (fZ (tJ rfl) (by rfl) T.n12 AL (gB p1)))))))⟩
theorem Jn(F:Gd K "stamps_by_word" 11 f):T.D 1 f ["book"] kE:=
 jJ F.2 λnd hr h=>⟨_,S9.OJ h,wb 1 rfl nd λp1 s1 g1=>wb 2 rfl nd λp2 s2 g2=>wq 0 rfl λp0=>(dM (s1 gX) (dM (fj PassesOwn.never rfl (gN p0) g2 (dO (iA (ff hr) p1 (xT p2 dN) p2 rfl))) (dO (eF p1))))⟩
theorem Jt(F:Gd K "check_use" 12 f)(d19:T.D 1 a.f19 ["piece"] iZ):T.D 2 f ["stamps","use"] rb:=
 jJ F.2 λnd hr h=>⟨_,S9.OQ h,wb 2 rfl nd λp2 s2 g2=>wb 3 rfl nd λp3 s3 g3=>wb 4 rfl nd λp4 s4 g4=>wq 0 rfl λp0=>wq 1 rfl λp1=>(dM (s2 (xT p1 dN)) (dM (eP (kZ (kJ (ff hr) p2 p0)) (dO uR) eO) (dM (s3 (cN T.n5 (pc d19 hr T.g19 (gB p1)))) (dM (s4 (cN T.n5 (xT (iL (ff hr) p0 p2 (λ_ _=>rfl)) dN))) (dO (eP (qt md p3 p4) (dO uR) eO))))))⟩
theorem Ju(F:Gd K "check_piece" 13 f)(d20:T.D 2 a.f20 ["piece"] lT)(d25:T.D 2 a.f25 ["stamps","use"] rb):T.D 3 f ["stamps","piece"] pY:=
 jJ F.2 λnd hr h=>⟨_,S9.OR h,wb 2 rfl nd λp2 s2 g2=>wq 0 rfl λp0=>wq 1 rfl λp1=>(dO (fj PassesOwn.never rfl (gN (pc d20 hr T.g20 (gB p1))) g2 (dO (eP (qt eh (xT p2 dN) dU) (dO (gE (pc d25 hr T.g25 (fJ p0 p2)))) eO))))⟩
theorem Jv(F:Gd K "check_stamps" 14 f)(d24:T.D 1 a.f24 ["book"] kE)(d26:T.D 3 a.f26 ["stamps","piece"] pY):T.D 4 f ["book","piece"] rq:=
 jJ F.2 λnd hr h=>⟨_,S9.OS h,wb 2 rfl nd λp2 s2 g2=>wb 3 rfl nd λp3 s3 g3=>wq 0 rfl λp0=>wq 1 rfl λp1=>(dM (s2 (pc d24 hr T.g24 (gB p0))) (dM (gE (pc d26 hr T.g26 (fJ p2 p1))) (dO (fj PassesOwn.never rfl (gN p0) g3 (dO (gE (pc d26 hr T.g26 (fJ p2 (xT p3 dN)))))))))⟩
theorem Lu(F:Gd K "numbered_word" 17 f):T.D 1 f ["number"] rh:=
 jJ F.2 λnd hr h=>⟨S9.Ny K,S9.Px h,let ⟨_,v0⟩:=T.u0;wb 1 rfl nd λp1 s1 g1=>wb 2 rfl nd λp2 s2 g2=>wq 0 rfl λp0=>(dM (s1 (uT wR (lX (v:=.str "abcdefghijklmnopqrstuvwxyz") (by rfl) v0 ⟨_,rfl⟩) (eT gw p0 (fZ jV (by rfl) T.n5 qQ (gB (lX (v:=.str "abcdefghijklmnopqrstuvwxyz") (by rfl) v0 ⟨_,rfl⟩)))) (λ_ _=>rfl))) (dM (s2 (eT jn p0 (fZ jV (by rfl) T.n5 qQ (gB (lX (v:=.str "abcdefghijklmnopqrstuvwxyz") (by rfl) v0 ⟨_,rfl⟩))))) (dM (gA PassesOwn.never (qt kq p2 dN) (dM (s1 (eT mH (uT wR (lX (v:=.str "abcdefghijklmnopqrstuvwxyz") (by rfl) v0 ⟨_,rfl⟩) (eT gw (eT hG p2 dN) (fZ jV (by rfl) T.n5 qQ (gB (lX (v:=.str "abcdefghijklmnopqrstuvwxyz") (by rfl) v0 ⟨_,rfl⟩)))) (λ_ _=>rfl)) p1)) (dO (s2 (eT jn (eT hG p2 dN) (fZ jV (by rfl) T.n5 qQ (gB (lX (v:=.str "abcdefghijklmnopqrstuvwxyz") (by rfl) v0 ⟨_,rfl⟩)))))))) (dO (eF p1)))))⟩
theorem Lb(F:Gm K C "__init__" "FreshWords.__init__" 18 0 f):T.D 1 f ["self","taken"] (xn a.o1):=
 jJ F.2.2 λnd hr h=>⟨_,S9.Pg rw h,wb 2 rfl nd λp2 s2 g2=>wq 0 rfl λp0=>wq 1 rfl λp1=>(dM (mG p0 gX rfl) (dM (fj PassesOwn.never rfl (gN p1) g2 (dO (iA (ff hr) (iP p0 rfl) p2 gy rfl))) (dO (mG p0 dN rfl))))⟩
theorem Ld(F:Gm K C "fresh" "FreshWords.fresh" 18 1 f)(d28:T.D 1 a.f28 ["number"] rh):T.D 2 f ["self","word"] (oh a.o1):=
 jJ F.2.2 λnd hr h=>⟨_,S9.Pi rw h,wb 2 rfl nd λp2 s2 g2=>wq 0 rfl λp0=>wq 1 rfl λp1=>(dM (s2 p1) (dM (gA PassesOwn.never (kZ (sP (ff hr) p2 (iP p0 rfl))) (dM (s2 (pc d28 hr T.g28 (gB (iP p0 rfl)))) (dO (nP p0 dN wV)))) (dM (iA (ff hr) (iP p0 rfl) p2 gy rfl) (dO (eF p2)))))⟩
theorem Jy(F:Gd K "all_outside_names" 20 f)(d23:T.D 3 a.f23 ["piece"] pS):T.D 4 f ["book","piece"] xq:=
 jJ F.2 λnd hr h=>⟨_,S9.OV h,wb 2 rfl nd λp2 s2 g2=>wb 3 rfl nd λp3 s3 g3=>wq 0 rfl λp0=>wq 1 rfl λp1=>(dM (s2 (pc d23 hr T.g23 (gB p1))) (dM (fj PassesOwn.never rfl (gN p0) g3 (dO (gE (uV bc cD cE nX p2 (gB (pc d23 hr T.g23 (gB (xT p3 dN)))))))) (dO (eF p2))))⟩
def Oj(s:Stmt):Scope:=match(gK s).getLast? with
 | some (.Return (some (.ListComp _ _ sc _)) _)=>sc
 | _=>eZ s
omit T ro rw hx e1 in
theorem Og{f:Addr}{cdv:Value}{A:Around}{outer:List Env}{s:Shared}{H:Hp}{E:XK}:iq ((i7 vM P w K mg base ["spot"] "spots_within" (eZ (top 21)) f cdv A outer s H E).nox) (Oj (top 21)) [("spot",s.heap.objs.size+1)] ["place","part"] ["spot"] [0]:=
 ⟨rfl,by decide,rfl,by decide,λy c h=>h,λy h=>qJ (L:=[((".0":Str),NameKind.local),(("place":Str),NameKind.local),(("part":Str),NameKind.local),(("spot":Str),NameKind.cell)]) (by simp) h,λk y hy=>match k,hy with|0,hy=>by cases hy;exact⟨0,rfl,rfl,rfl,.inl rfl⟩,rfl⟩
theorem Lk(F:Gd K "spots_within" 21 f)(d19:T.D 1 a.f19 ["piece"] iZ):T.D 2 f ["spot"] iY:=
 jJ F.2 λnd hr h=>⟨_,S9.Pm h,wq 0 rfl λp0=>(dO (eF (Ji rfl Og (FA (by rfl) T.n13 (pc d19 hr T.g19 (gB (xT p0 dN)))) (λfp s H C=>kb rfl (fQ (kc (i:=0) (by show(["place","part","spot"]:List Str).Nodup;decide) rfl (av rfl) (.inr rfl)) (fQ (kc (i:=1) (by show(["place","part","spot"]:List Str).Nodup;decide) rfl (av rfl) (.inr rfl)) jS))) Qo (λfp s H C=>(eG (de (pv 1) (de (xT (pv 2) dN) (fJ (eT sR (xT (pv 2) dN) (eG (gB (pv 0)))) (xT (pv 2) dN)))))))))⟩
theorem L3(F:Gd K "has_stamps_to_open" 22 f)(d20:T.D 2 a.f20 ["piece"] lT)(d23:T.D 3 a.f23 ["piece"] pS):T.D 4 f ["spot"] xl:=
 jJ F.2 λnd hr h=>⟨_,S9.P7 h,wb 1 rfl nd λp1 s1 g1=>wb 2 rfl nd λp2 s2 g2=>wq 0 rfl λp0=>(dM (fj PassesOwn.never rfl (gN (pc d20 hr T.g20 (gB (xT p0 dN)))) g1 (dO (eP (qt eh (xT p1 dN) dU) (dO (eF gy)) eO))) (dM (fj PassesOwn.never rfl (gN (pc d23 hr T.g23 (gB (xT p0 dN)))) g2 (dO (eP (ie (kZ (sP (ff hr) p2 (xT p0 dN))) (hZ (qt eh (xT (iL (ff hr) (xT p0 dN) p2 (λ_ _=>rfl)) dN) dU))).pt (dO (eF gy)) eO))) (dO (eF gy))))⟩
theorem Ln(F:Gd K "row_at" 23 f):T.D 1 f ["spot","head","many"] oJ:=
 jJ F.2 λnd hr h=>⟨_,S9.Pq h,wq 0 rfl λp0=>wq 1 rfl λp1=>wq 2 rfl λp2=>(dO (eF (eG (de dU (de p1 (fJ p2 (eG (fJ (xT p0 dN) (xT p0 dN)))))))))⟩
theorem Ls(F:Gm K C "__init__" "Opening.__init__" 24 0 f)(d24:T.D 1 a.f24 ["book"] kE)(d31:T.D 4 a.f31 ["book","piece"] xq)(d29:T.D 1 a.f29 ["self","taken"] (xn a.o1))(M1:Mk K a.o1 a.f29):T.D 5 f ["self","book","piece","fuel"] (Bb a.o0 a.o1):=
 jJ F.2.2 λnd hr h=>⟨_,S9.Pw ro h,wq 0 rfl λp0=>wq 1 rfl λp1=>wq 2 rfl λp2=>wq 3 rfl λp3=>(dM (mG p0 (pc d24 hr T.g24 (gB p1)) rfl) (dM (mG p0 (pk M1 d29 hr T.c1 (gB (pc d31 hr T.g31 (fJ p1 p2)))) rfl) (dM (mG p0 p3 rfl) (dM (mG p0 dN rfl) (dO (mG p0 (eK fN) rfl))))))⟩
theorem Lg(F:Gm K C "take_name" "Opening.take_name" 24 5 f)(d34:T.D 1 a.f34 ["spot","head","many"] oJ):T.D 2 f ["self","spot","waiting","rows"] BX:=
 jJ F.2.2 λnd hr h=>⟨S9.Ng K a.o0 a.o1,S9.Pk h,wb 4 rfl nd λp4 s4 g4=>wb 5 rfl nd λp5 s5 g5=>wq 1 rfl λp1=>wq 2 rfl λp2=>wq 3 rfl λp3=>(dM (s4 (xT (xT p1 dN) dN)) (dM (s5 (uU (ff hr) (xT p1 dN) p4 (eG (fJ dU p4)) ⟨rfl,rfl,rfl,rfl⟩)) (dO (eP (qt eh (xT p5 dN) dU) (dO (eA p2 (xT p5 dN))) (dO (eP (qt eh (xT p5 dN) dU) (dO (eA p3 p5)) (dO (eA p3 (pc d34 hr T.g34 (de p1 (fJ (eG (fJ dU (xT p5 dN))) dN)))))))))))⟩
theorem Lf(F:Gm K C "take_plain" "Opening.take_plain" 24 7 f)(d32:T.D 2 a.f32 ["spot"] iY)(d34:T.D 1 a.f34 ["spot","head","many"] oJ):T.D 3 f ["self","spot","waiting","rows"] BW:=
 jJ F.2.2 λnd hr h=>⟨S9.Nf K a.o0 a.o1,S9.Pj h,wb 4 rfl nd λp4 s4 g4=>wb 5 rfl nd λp5 s5 g5=>wb 6 rfl nd λp6 s6 g6=>wq 1 rfl λp1=>wq 2 rfl λp2=>wq 3 rfl λp3=>(dM (s4 (xT p1 dN)) (dM (s5 (pc d32 hr T.g32 (gB p1))) (dM (eA p3 (pc d34 hr T.g34 (de p1 (fJ (fR Es p4 gU (fO (eT hG (cN T.n5 p4) (cN T.n5 p5)))) (cN T.n5 p5))))) (dO (fj PassesOwn.never rfl (wF (by rfl) T.n11 p5) g6 (dO (eA p2 p6)))))))⟩
theorem Lh(F:Gm K C "take_let" "Opening.take_let" 24 6 f)(d30:T.D 2 a.f30 ["self","word"] (oh a.o1))(m30:k8 K a.o1 "fresh" a.f30)(d32:T.D 2 a.f32 ["spot"] iY)(d34:T.D 1 a.f34 ["spot","head","many"] oJ)(d21:T.D 1 a.f21 ["words","word","value"] gz):T.D 3 f ["self","spot","waiting","rows"] (BY a.o0 a.o1):=
 jJ F.2.2 λnd hr h=>⟨_,S9.Pl ro h,wb 4 rfl nd λp4 s4 g4=>wb 5 rfl nd λp5 s5 g5=>wb 6 rfl nd λp6 s6 g6=>wb 7 rfl nd λp7 s7 g7=>wq 0 rfl λp0=>wq 1 rfl λp1=>wq 2 rfl λp2=>wq 3 rfl λp3=>(dM (s4 (xT (xT p1 dN) dN)) (dM (s5 (pm (iP p0 rfl) T.l1 m30 d30 hr (gB p4))) (dM (s6 (pc d32 hr T.g32 (gB p1))) (dM (s7 (xL p6 dN)) (dM (eA p3 (pc d34 hr T.g34 (de p1 (fJ (eG (fJ dU p5)) dN)))) (dM (eA p2 (eG (de (xT p7 dN) (de (xT p7 dN) (fJ (xT p7 dN) (pc d21 hr T.g21 (de (xT p1 dN) (fJ p4 (eG (fJ dU p5)))))))))) (dO (eA p2 (xL p6 dN)))))))))⟩
theorem Jw(F:Gm K C "body_of" "Opening.body_of" 24 3 f):T.D 1 f ["self","spot"] Bc:=Me F.2.2 λ_ _ _ _ h=>⟨h.1,h.2⟩
theorem Li(F:Gm K C "take" "Opening.take" 24 2 f)(d39:T.D 1 a.f39 ["self","spot"] Bc)(m39:k8 K a.o0 "body_of" a.f39)(d36:T.D 2 a.f36 ["self","spot","waiting","rows"] BX)(m36:k8 K a.o0 "take_name" a.f36)(d38:T.D 3 a.f38 ["self","spot","waiting","rows"] (BY a.o0 a.o1))(m38:k8 K a.o0 "take_let" a.f38)(d37:T.D 3 a.f37 ["self","spot","waiting","rows"] BW)(m37:k8 K a.o0 "take_plain" a.f37):T.D 4 f ["self","spot","waiting","rows"] (xj a.o0 a.o1):=
 jJ F.2.2 λnd hr h=>⟨_,S9.OI h,wb 4 rfl nd λp4 s4 g4=>wq 0 rfl λp0=>wq 1 rfl λp1=>wq 2 rfl λp2=>wq 3 rfl λp3=>(dM (s4 (xT (xT p1 dN) dN)) (dO (eP (qt eh p4 dU) (dM (nP p0 dN wV) (dO (eA p2 (pm p0 T.l0 m39 d39 hr (gB p1))))) (dO (eP (qt eh p4 dU) (dO (gE (pm p0 T.l0 m36 d36 hr (de p1 (fJ p2 p3))))) (dO (eP (qt eh p4 dU) (dO (gE (pm p0 T.l0 m38 d38 hr (de p1 (fJ p2 p3))))) (dO (gE (pm p0 T.l0 m37 d37 hr (de p1 (fJ p2 p3))))))))))))⟩
theorem FN(F:Gm K C "rows_of" "Opening.rows_of" 24 1 f)(d40:T.D 4 a.f40 ["self","spot","waiting","rows"] (xj a.o0 a.o1))(m40:k8 K a.o0 "take" a.f40):T.D 5 f ["self","spot"] (og a.o0 a.o1):=
 jJ F.2.2 λnd hr h=>⟨_,S9.LR ro h,wb 2 rfl nd λp2 s2 g2=>wb 3 rfl nd λp3 s3 g3=>wq 0 rfl λp0=>wq 1 rfl λp1=>(dM (s2 (eK fN)) (dM (s3 (eK (gB p1))) (dM (gA PassesOwn.never (ie (qt kq (cN T.n5 p3) dN) (hZ (qt CT (iP p0 rfl) (iP p0 rfl)))).pt (dO (gE (pm p0 T.l0 m40 d40 hr (de (bP p3) (fJ p3 p2)))))) (dO (eF p2)))))⟩
theorem Lz(F:Gm K C "meaning_of" "Opening.meaning_of" 24 4 f)(d33:T.D 4 a.f33 ["spot"] xl)(d41:T.D 5 a.f41 ["self","spot"] (og a.o0 a.o1))(m41:k8 K a.o0 "rows_of" a.f41):T.D 6 f ["self","handed"] (Ep a.o0 a.o1):=
 jJ F.2.2 λnd hr h=>⟨_,S9.P4 ro h,wq 0 rfl λp0=>wq 1 rfl λp1=>(dM (eP (iN (pc d33 hr T.g33 (gB p1))) (dO (eF (eG (fJ dU p1)))) eO) (dM (eA (iP p0 rfl) (pm p0 T.l0 m41 d41 hr (gB p1))) (dO (eF (eG (fJ dU (eT hG (cN T.n5 (iP p0 rfl)) dN)))))))⟩
theorem MC(F:Gm K C "body_of" "Opening.body_of" 24 3 f)(d32:T.D 2 a.f32 ["spot"] iY)(d42:T.D 6 a.f42 ["self","handed"] (Ep a.o0 a.o1))(m42:k8 K a.o0 "meaning_of" a.f42):T.D 7 f ["self","spot"] (Er a.o0 a.o1):=
 jJ F.2.2 λnd hr h=>⟨_,S9.QD ro h,wb 2 rfl nd λp2 s2 g2=>wb 3 rfl nd λp3 s3 g3=>wb 4 rfl nd λp4 s4 g4=>wb 5 rfl nd λp5 s5 g5=>wq 0 rfl λp0=>wq 1 rfl λp1=>(dM (s2 (iL (ff hr) (iP p0 rfl) (xT (xT p1 dN) dN) (λ_ _=>rfl))) (dM (s3 gX) (dM (fj PassesOwn.never rfl (E9 (by rfl) T.n14 (xT p2 dN) (pc d32 hr T.g32 (gB p1))) (kb rfl (fQ g4 (fQ g5 jS))) (dO (iA (ff hr) p3 p4 (pm p0 T.l0 m42 d42 hr (gB p5)) rfl))) (dO (eF (eG (de (xT p2 dN) (de (xT p2 dN) (fJ (eG fN) p3)))))))))⟩
theorem Lj(F:Gm K C "take" "Opening.take" 24 2 f)(d39:T.D 7 a.f39 ["self","spot"] (Er a.o0 a.o1))(m39:k8 K a.o0 "body_of" a.f39)(d36:T.D 2 a.f36 ["self","spot","waiting","rows"] BX)(m36:k8 K a.o0 "take_name" a.f36)(d38:T.D 3 a.f38 ["self","spot","waiting","rows"] (BY a.o0 a.o1))(m38:k8 K a.o0 "take_let" a.f38)(d37:T.D 3 a.f37 ["self","spot","waiting","rows"] BW)(m37:k8 K a.o0 "take_plain" a.f37):T.D 8 f ["self","spot","waiting","rows"] (xi a.o0 a.o1):=
 jJ F.2.2 λnd hr h=>⟨_,S9.OH ro h,wb 4 rfl nd λp4 s4 g4=>wq 0 rfl λp0=>wq 1 rfl λp1=>wq 2 rfl λp2=>wq 3 rfl λp3=>(dM (s4 (xT (xT p1 dN) dN)) (dO (eP (qt eh p4 dU) (dM (nP p0 dN wV) (dO (eA p2 (pm p0 T.l0 m39 d39 hr (gB p1))))) (dO (eP (qt eh p4 dU) (dO (gE (pm p0 T.l0 m36 d36 hr (de p1 (fJ p2 p3))))) (dO (eP (qt eh p4 dU) (dO (gE (pm p0 T.l0 m38 d38 hr (de p1 (fJ p2 p3))))) (dO (gE (pm p0 T.l0 m37 d37 hr (de p1 (fJ p2 p3))))))))))))⟩
theorem FM(F:Gm K C "rows_of" "Opening.rows_of" 24 1 f)(d40:T.D 8 a.f40 ["self","spot","waiting","rows"] (xi a.o0 a.o1))(m40:k8 K a.o0 "take" a.f40):T.D 9 f ["self","spot"] (mU a.o0 a.o1):=
 jJ F.2.2 λnd hr h=>⟨_,S9.LQ ro h,wb 2 rfl nd λp2 s2 g2=>wb 3 rfl nd λp3 s3 g3=>wq 0 rfl λp0=>wq 1 rfl λp1=>(dM (s2 (eK fN)) (dM (s3 (eK (gB p1))) (dM (gA PassesOwn.never (ie (qt kq (cN T.n5 p3) dN) (hZ (qt CT (iP p0 rfl) (iP p0 rfl)))).pt (dO (gE (pm p0 T.l0 m40 d40 hr (de (bP p3) (fJ p3 p2)))))) (dO (eF p2)))))⟩
theorem Lp(F:Gd K "piece_of" 25 f):T.D 1 f ["rows","written"] Eo:=
 jJ F.2 λnd hr h=>⟨_,S9.Pr h,wb 2 rfl nd λp2 s2 g2=>wb 3 rfl nd λp3 s3 g3=>wb 4 rfl nd λp4 s4 g4=>wq 0 rfl λp0=>wq 1 rfl λp1=>(dM (s2 (eK fN)) (dM (fj PassesOwn.never rfl (wF (by rfl) T.n11 p0) g3 (dO (eP (qt eh (xT p3 dN) dU) (dO (eA p2 (xT (xL p1 (xT p3 dN)) dN))) (dM (s4 (eK fN)) (dM (gA PassesOwn.never (qt qD (cN T.n5 p4) (xT p3 dN)) (dO (eA p4 (bP p2)))) (dO (eA p2 (eT sR (xT p3 dN) (fo mB (by rfl) T.n7 kP (gB p4)))))))))) (dO (eF (bP p2)))))⟩
theorem Ll(F:Gd K "sources_of" 26 f):T.D 1 f ["rows","written"] S9.LL:=
 jJ F.2 λnd hr h=>⟨_,S9.Po h,wb 2 rfl nd λp2 s2 g2=>wb 3 rfl nd λp3 s3 g3=>wq 0 rfl λp0=>wq 1 rfl λp1=>(dM (s2 (eK fN)) (dM (fj PassesOwn.never rfl (gN p0) g3 (dO (eP (qt eh (xT p3 dN) dU) (dO (gE (uV bc cD cE nX p2 (gB (xT (xL p1 (xT p3 dN)) dN))))) (dO (eA p2 (xT p3 dN)))))) (dO (eF p2))))⟩
theorem La(F:Gd K "write_out" 27 f)(d44:T.D 1 a.f44 ["rows","written"] S9.LL)(d43:T.D 1 a.f43 ["rows","written"] Eo):T.D 2 f ["rows","written"] vb:=
 jJ F.2 λnd hr h=>⟨S9.Na K,S9.Pf h,wq 0 rfl λp0=>wq 1 rfl λp1=>(dO (eF (eG (fJ (pc d43 hr T.g43 (fJ p0 p1)) (pc d44 hr T.g44 (fJ p0 p1))))))⟩
theorem Js(F:Gd K "expanded" 28 f)(d27:T.D 4 a.f27 ["book","piece"] rq)(d35:T.D 5 a.f35 ["self","book","piece","fuel"] (Bb a.o0 a.o1))(M0:Mk K a.o0 a.f35)(d41:T.D 9 a.f41 ["self","spot"] (mU a.o0 a.o1))(m41:k8 K a.o0 "rows_of" a.f41)(d45:T.D 2 a.f45 ["rows","written"] vb):T.D 10 f ["book","piece","fuel"] (rm a.o0 a.o1):=
 jJ F.2 λnd hr h=>⟨_,S9.OO ro h,wb 3 rfl nd λp3 s3 g3=>wb 4 rfl nd λp4 s4 g4=>wb 5 rfl nd λp5 s5 g5=>wb 6 rfl nd λp6 s6 g6=>wb 7 rfl nd λp7 s7 g7=>wq 0 rfl λp0=>wq 1 rfl λp1=>wq 2 rfl λp2=>(dM (gE (pc d27 hr T.g27 (fJ p0 p1))) (dM (s3 (pk M0 d35 hr T.c0 (de p0 (fJ p1 p2)))) (dM (s4 (pm p3 T.l0 m41 d41 hr (gB (eG (de p1 (de dU (fJ (eG fN) gX))))))) (dM (eP (qt kq (iP p3 rfl) p2) (dO (eF (eG (gB dU)))) eO) (dM (s5 (eK fN)) (dM (fj PassesOwn.never rfl (gN (iP p3 rfl)) g6 (dO (eA p5 (pc d45 hr T.g45 (fJ p6 p5))))) (dM (s7 (pc d45 hr T.g45 (fJ p4 p5))) (dO (eF (eG (de dU (de (xT p7 dN) (fJ (xT p7 dN) (iP p3 rfl))))))))))))))⟩
theorem Lw(F:Gd K "number_of_name" 30 f):T.X 1 f ["word","known"] (S4.GJ a.y0):=
 okx F.2 λnd hr h=>⟨S4.N0 K a.y0 _,S4.Pz h,wq 0 rfl λp0=>wq 1 rfl λp1=>(dM (eP (kZ (kJ (ff hr) p0 p1)) (dO (CF PySem.F.excBase_ValueError (by rfl) T.x0 hx (Jj p0))) eO) (dO (eF (iL (ff hr) p1 p0 (λ_ _=>rfl)))))⟩
theorem Lx(F:Gd K "needed_first" 31 f):T.D 1 f ["piece"] S4.xm:=
 jJ F.2 λnd hr h=>⟨_,S4.P3 h,wb 1 rfl nd λp1 s1 g1=>wq 0 rfl λp0=>(dM (s1 (xT p0 dN)) (dM (eP (ko (qt eh p1 dU) (lF (qt eh p1 dU))).pt (dO (eF (eK (fJ (xT p0 dN) (xT p0 dN))))) eO) (dM (eP (qt eh p1 dU) (dO (eF (eK (gB (xT p0 dN))))) eO) (dO (eF (eK (gB (xT p0 dN))))))))⟩
theorem MD(F:Gd K "begin" 32 f)(d47:T.X 1 a.f47 ["word","known"] (S4.GJ a.y0))(d48:T.D 1 a.f48 ["piece"] S4.xm):T.X 2 f ["piece","known","steps","numbers"] (S4.xo a.y0):=
 okx F.2 λnd hr h=>⟨_,S4.QE h,wb 4 rfl nd λp4 s4 g4=>wb 5 rfl nd λp5 s5 g5=>wq 0 rfl λp0=>wq 1 rfl λp1=>wq 2 rfl λp2=>wq 3 rfl λp3=>(dM (s4 (xT p0 dN)) (dO (eP (qt eh p4 dU) (dO (eA p3 (xT p0 dN))) (dO (eP (qt eh p4 dU) (dO (eA p3 (QH d47 hr T.g47 (GT λ_ _ _ z=>z) (fJ (xT p0 dN) p1)))) (dM (eA p2 (eG (de dU (fJ p0 p1)))) (dO (fj PassesOwn.leaving rfl (wF (by rfl) T.n11 (pc d48 hr T.g48 (gB p0))) g5 (dO (eA p2 (eG (de dU (fJ p5 p1)))))))))))))⟩
theorem L7(F:Gd K "end" 33 f)(d21:T.D 1 a.f21 ["words","word","value"] gz):T.D 2 f ["piece","known","steps","numbers"] S4.GK:=
 jJ F.2 λnd hr h=>⟨_,S4.QA h,wb 4 rfl nd λp4 s4 g4=>wb 5 rfl nd λp5 s5 g5=>wb 6 rfl nd λp6 s6 g6=>wq 0 rfl λp0=>wq 1 rfl λp1=>wq 2 rfl λp2=>wq 3 rfl λp3=>(dM (s4 (xT p0 dN)) (dM (s5 (bP p3)) (dO (eP (qt eh p4 dU) (dO (eA p3 (eT i0 (bP p3) p5))) (dO (eP (qt eh p4 dU) (dO (eA p3 (eT hG (bP p3) p5))) (dO (eP (qt eh p4 dU) (dM (s6 (CM (qt eh p5 dN) (xT p0 dN) (xT p0 dN))) (dO (eA p2 (eG (de dU (fJ p6 p1)))))) (dO (eA p2 (eG (de dU (fJ (xT p0 dN) (pc d21 hr T.g21 (de p1 (fJ (xT p0 dN) p5))))))))))))))))⟩
theorem Lm(F:Gd K "reckoned" 34 f)(d49:T.X 2 a.f49 ["piece","known","steps","numbers"] (S4.xo a.y0))(d50:T.D 2 a.f50 ["piece","known","steps","numbers"] S4.GK):T.X 3 f ["piece","known"] (S4.BZ a.y0):=
 okx F.2 λnd hr h=>⟨_,S4.Pp h,wb 2 rfl nd λp2 s2 g2=>wb 3 rfl nd λp3 s3 g3=>wb 4 rfl nd λp4 s4 g4=>wq 0 rfl λp0=>wq 1 rfl λp1=>(dM (s2 (eK fN)) (dM (s3 (eK (gB (eG (de dU (fJ p0 p1)))))) (dM (gA PassesOwn.leaving (qt kq (cN T.n5 p3) dN) (dM (s4 (bP p3)) (dO (eP (qt eh (xT p4 dN) dU) (dO (gE (QH d49 hr T.g49 (GT λ_ _ _ z=>z) (de (xT p4 dN) (de (xT p4 dN) (fJ p3 p2)))))) (dO (gE (pc d50 hr T.g50 (de (xT p4 dN) (de (xT p4 dN) (fJ p3 p2)))))))))) (dO (eF (bP p2))))))⟩
theorem FQ{fd:FuncData}(F:Dm K "law" "law" (top 55) f fd)(d5:T.D 1 a.f5 ["_law_script","_law_most","_law_bound"] (pR K))(d9:T.D 3 a.f9 ["_law_cells","_law_wild"] (sC K))(d7:T.D 3 a.f7 ["_law_cells"] (pU K))(d4:T.D 1 a.f4 ["_law_script","_law_k"] (xp K))(d17:T.D 2 a.f17 ["_law_seed"] lR)(d15:T.D 3 a.f15 ["_law_book","_law_piece","_law_fuel"] pW)(d18:T.D 1 a.f18 ["_law_known"] mW)(d16:T.D 1 a.f16 ["_law_book","_law_piece","_law_known"] S4.rj)(d11:T.D 1 a.f11 ["_law_book"] oj)(d46:T.D 10 a.f46 ["book","piece","fuel"] (rm a.o0 a.o1))(d10:T.D 3 a.f10 ["_law_found"] rn)(d3:T.D 1 a.f3 ["_law_piece"] ia)(d51:T.X 3 a.f51 ["piece","known"] (S4.BZ a.y0))(d2:T.D 1 a.f2 ["_law_found"] jQ):je P w K mg base vM 11 f fd ["_law_script"] (S1.Pd K):=
 Qm F λnd hr h=>⟨S4.IP K a.y0 a.o0 a.o1,S4.NC e1 h,wb 1 rfl nd λp1 s1 g1=>wb 2 rfl nd λp2 s2 g2=>wb 3 rfl nd λp3 s3 g3=>wb 4 rfl nd λp4 s4 g4=>wb 5 rfl nd λp5 s5 g5=>wb 6 rfl nd λp6 s6 g6=>wb 7 rfl nd λp7 s7 g7=>wb 8 rfl nd λp8 s8 g8=>wb 9 rfl nd λp9 s9 g9=>wb 10 rfl nd λp10 s10 g10=>wq 0 rfl λp0=>wh 9 rfl nd λl9 _=>(dM (s1 (pc d5 hr T.g5 (de p0 (fJ dN dN)))) (dM (s2 (pc d9 hr T.g9 (fJ (fR gT p0 (fO dN) (fO dN)) gy))) (dM (s3 (pc d7 hr T.g7 (gB (fR gT p0 (fO dN) (fO (eT i0 dN (pc d5 hr T.g5 (de p0 (fJ dN dN))))))))) (dM (s4 (pc d17 hr T.g17 (gB (pc d4 hr T.g4 (fJ p0 dN))))) (dM (eP (qt kq (xT (pc d15 hr T.g15 (de p2 (fJ p3 p1))) dN) p1) (dO (s3 (pc d7 hr T.g7 (gB (fR gT p0 (fO dN) (fO dN)))))) eO) (dM (eP (qt kq (xT (pc d15 hr T.g15 (de p2 (fJ p3 p1))) dN) p1) (dO (eF gy)) eO) (dM (s5 (pc d16 hr T.g16 (de p2 (fJ p3 (pc d18 hr T.g18 (gB p4)))))) (dM (s6 (pc d46 hr T.g46 (de (pc d11 hr T.g11 (gB p2)) (fJ p3 p1)))) (dM (eP (iz (iN (pc d10 hr T.g10 (gB p6)))) (dO (eF gy)) eO) (dM (s7 (eK (gB (xT p6 dN)))) (dM (gA PassesOwn.never (qt (kK hr.units0) p7 (eK fN)) (dM (s8 (bP p7)) (dM (eP (qt eh (xT p8 dN) dU) (dO (eF gy)) eO) (dO (s7 (eT jr p7 (pc d3 hr T.g3 (gB p8)))))))) (dM (eP (qt md (pc d16 hr T.g16 (de (eK fN) (fJ (xT p6 dN) (pc d18 hr T.g18 (gB p4))))) p5) (dO (eF gy)) eO) (dM (s9 nU) (dM (s10 gy) (dM (Jh ⟨rfl,rfl⟩ (λ_ _ z=>z) (Qh (i:=9) d51 hr T.g51 (fJ (xT p6 dN) (fo jb (by rfl) T.n10 mx (gB p4))) (λ_ _ z=>z) nd l9) (by rfl) T.x0 (λea oe=>(dO (sN 10 nd (av rfl) gy)))) (dM (eP (qt Jm p5 nU) (dO (eF p10)) eO) (dO (eF (wH (CK p10) (wH (pc d2 hr T.g2 (gB p9)) (CJ (qe eh p9 p5))))))))))))))))))))))⟩
end
theorem Oy{l:PySem.W.OpenLaw}{w:World}{K:aA}{h:Heap}{mg:Str->Option Value}{fa:Addr}(X:K.In h)(G:h.Ns mainGlobals mg)(hfa:mg "law"=some (.ref fa))
  {f0 f1 f2 f3 f4 f5 f6 f7 f8 f9 f10 f11 f12 f13 f14 f15 f16 f17 f18 f19 f20 f21 f22 f23 f24 f25 f26 f27 f28 f29 f30 f31 f32 f33 f34 f35 f36 f37 f38 f39 f40 f41 f42 f43 f44 f45 f46 f47 f48 f49 f50 f51 f52 C0 C1 y0:Addr} {tk0:Tok}
  (aC0:PySem.W.nsIn K mainGlobals "Opening"=some (some (.ref C0)))
  (aC1:PySem.W.nsIn K mainGlobals "FreshWords"=some (some (.ref C1)))
  (F0:Gd K "_law_any" 52 f0)
  (F1:Gd K "_law_any_word" 51 f1)
  (F2:Gd K "_law_whole" 36 f2)
  (F3:Gd K "_law_inside" 39 f3)
  (F4:Gd K "_law_at" 37 f4)
  (F5:Gd K "_law_room" 53 f5)
  (F6:Gd K "_law_drawn_piece" 38 f6)
  (F7:Gd K "_law_drawn_main" 41 f7)
  (F8:Gd K "_law_is_piece" 46 f8)
  (F9:Gd K "_law_drawn_book" 40 f9)
  (F10:Gd K "_law_is_done" 50 f10)
  (F11:Gd K "_law_book_copied" 54 f11)
  (F12:Gd K "_law_noted" 42 f12)
  (F13:Gd K "_law_first_stamp" 43 f13)
  (F14:Gd K "_law_placed" 44 f14)
  (F15:Gd K "_law_laid" 45 f15)
  (F16:Gd K "_law_meaning" 47 f16)
  (F17:Gd K "_law_outside" 48 f17)
  (F18:Gd K "_law_as_known" 49 f18)
  (F19:Gd K "parts" 5 f19)
  (F20:Gd K "every_piece" 6 f20)
  (F21:Gd K "with_word" 7 f21)
  (F22:Gd K "pieces_with_lets" 8 f22)
  (F23:Gd K "outside_names" 9 f23)
  (F24:Gd K "stamps_by_word" 11 f24)
  (F25:Gd K "check_use" 12 f25)
  (F26:Gd K "check_piece" 13 f26)
  (F27:Gd K "check_stamps" 14 f27)
  (F28:Gd K "numbered_word" 17 f28)
  (F29:Gm K C1 "__init__" "FreshWords.__init__" 18 0 f29)
  (F30:Gm K C1 "fresh" "FreshWords.fresh" 18 1 f30)
  (F31:Gd K "all_outside_names" 20 f31)
  (F32:Gd K "spots_within" 21 f32)
  (F33:Gd K "has_stamps_to_open" 22 f33)
  (F34:Gd K "row_at" 23 f34)
  (F35:Gm K C0 "__init__" "Opening.__init__" 24 0 f35)
  (F36:Gm K C0 "take_name" "Opening.take_name" 24 5 f36)
  (F37:Gm K C0 "take_plain" "Opening.take_plain" 24 7 f37)
  (F38:Gm K C0 "take_let" "Opening.take_let" 24 6 f38)
  (F39:Gm K C0 "body_of" "Opening.body_of" 24 3 f39)
  (F40:Gm K C0 "take" "Opening.take" 24 2 f40)
  (F41:Gm K C0 "rows_of" "Opening.rows_of" 24 1 f41)
  (F42:Gm K C0 "meaning_of" "Opening.meaning_of" 24 4 f42)
  (F43:Gd K "piece_of" 25 f43)
  (F44:Gd K "sources_of" 26 f44)
  (F45:Gd K "write_out" 27 f45)
  (F46:Gd K "expanded" 28 f46)
  (F47:Gd K "number_of_name" 30 f47)
  (F48:Gd K "needed_first" 31 f48)
  (F49:Gd K "begin" 32 f49)
  (F50:Gd K "end" 33 f50)
  (F51:Gd K "reckoned" 34 f51)
  (F52:Gd K "law" 55 f52)
  (z0:Gz K "abs")
  (z1:Gz K "bool")
  (z2:Gz K "isinstance")
  (z3:Gz K "int")
  (z4:Gz K "list")
  (z5:Gz K "len")
  (z6:Gz K "min")
  (z7:Gz K "tuple")
  (z8:Gz K "str")
  (z9:Gz K "range")
  (z10:Gz K "dict")
  (z11:Gz K "reversed")
  (z12:Gz K "sorted")
  (z13:Gz K "enumerate")
  (z14:Gz K "zip")
  (u0:PySem.W.nsIn K mainGlobals "LETTERS"=some (some (.str "abcdefghijklmnopqrstuvwxyz" tk0)))
  (pg0:PySem.W.plainGet K C0 Str.empty=true)
  (hd0:PySem.W.hasDictIn K C0=true)
  (po0:PySem.W.plainOver K C0=true)
  (sa0:PySem.W.findIn K (.ref C0) "__setattr__"=some (some (.builtin "object.__setattr__")))
  (mk0:PySem.W.makesIn K C0=true)
  (kc0:PySem.W.keepIn K (.ref C0)=true)
  (n0_stamps:PySem.W.findIn K (.ref C0) "stamps"=some none)
  (n0_lets:PySem.W.findIn K (.ref C0) "lets"=some none)
  (n0_fuel:PySem.W.findIn K (.ref C0) "fuel"=some none)
  (n0_many:PySem.W.findIn K (.ref C0) "many"=some none)
  (n0_ready:PySem.W.findIn K (.ref C0) "ready"=some none)
  (pg1:PySem.W.plainGet K C1 Str.empty=true)
  (hd1:PySem.W.hasDictIn K C1=true)
  (po1:PySem.W.plainOver K C1=true)
  (sa1:PySem.W.findIn K (.ref C1) "__setattr__"=some (some (.builtin "object.__setattr__")))
  (mk1:PySem.W.makesIn K C1=true)
  (kc1:PySem.W.keepIn K (.ref C1)=true)
  (n1_taken:PySem.W.findIn K (.ref C1) "taken"=some none)
  (n1_tried:PySem.W.findIn K (.ref C1) "tried"=some none)
  (s0:PySem.W.nsIn K mainGlobals "NoName"=some (some (.ref y0)))
  (xx:PySem.W.excIn K y0 [.type "ValueError",.type "Exception",.type "BaseException",.type "object"] "ValueError.__new__"=true)
  (e1:PySem.W.exmOne K (.ref y0) (.ref y0)=some true):
  ∃fd:FuncData,(∀(s:Shared)(v:Value),BindsTo s fd ⟨[v],[]⟩ [("_law_script",v)])/\∀base:Heap,K.In base->base.Ns mainGlobals mg->je l.prog w K mg base vM 11 fa fd ["_law_script"] (S1.Pd K):=by
 have e:=hfa.symm.trans (aH X G F52.1);cases e;have ro:RO K C0:=⟨⟨pg0,hd0,po0,sa0⟩,n0_stamps,n0_lets,n0_fuel,n0_many,n0_ready⟩;have rw:RW K C1:=⟨⟨pg1,hd1,po1,sa1⟩,n1_taken,n1_tried⟩;obtain⟨fd,Fl⟩:=F52.2;refine⟨fd,λs v=>?_,λbase _ _=>?_⟩
 ·obtain⟨oc,od,kV,doc,pm,an,cdv,ct,osl,rfl,lk,hcd⟩:=Fl.ex;exact .of_eq rfl
 have T:AM l.prog w K mg base ⟨f0,f1,f2,f3,f4,f5,f6,f7,f8,f9,f10,f11,f12,f13,f14,f15,f16,f17,f18,f19,f20,f21,f22,f23,f24,f25,f26,f27,f28,f29,f30,f31,f32,f33,f34,f35,f36,f37,f38,f39,f40,f41,f42,f43,f44,f45,f46,f47,f48,f49,f50,f51,C0,C1,y0⟩:=⟨ao X G z0,ao X G z1,ao X G z2,ao X G z3,ao X G z4,ao X G z5,ao X G z6,ao X G z7,ao X G z8,ao X G z9,ao X G z10,ao X G z11,ao X G z12,ao X G z13,ao X G z14,aH X G F0.1,aH X G F1.1,aH X G F2.1,aH X G F3.1,aH X G F4.1,aH X G F5.1,aH X G F6.1,aH X G F7.1,aH X G F8.1,aH X G F9.1,aH X G F10.1,aH X G F11.1,aH X G F12.1,aH X G F13.1,aH X G F14.1,aH X G F15.1,aH X G F16.1,aH X G F17.1,aH X G F18.1,aH X G F19.1,aH X G F20.1,aH X G F21.1,aH X G F22.1,aH X G F23.1,aH X G F24.1,aH X G F25.1,aH X G F26.1,aH X G F27.1,aH X G F28.1,aH X G F31.1,aH X G F32.1,aH X G F33.1,aH X G F34.1,aH X G F43.1,aH X G F44.1,aH X G F45.1,aH X G F46.1,aH X G F47.1,aH X G F48.1,aH X G F49.1,aH X G F50.1,aH X G F51.1,⟨_,aH X G u0⟩,aH X G aC0,⟨pg0,hd0,po0,sa0⟩,aH X G aC1,⟨pg1,hd1,po1,sa1⟩,aH X G s0⟩;have g0:=Jz T ro rw xx e1 F0;have g1:=MF T ro rw xx e1 F1;have g2:=Lc T ro rw xx e1 F2;have g3:=Jr T ro rw xx e1 F3;have g4:=Jx T ro rw xx e1 F4;have g5:=FO T ro rw xx e1 F5;have g6:=L9 T ro rw xx e1 F6 g1 g0;have g7:=FP T ro rw xx e1 F7 (g6.imp (λ_ _ _ _ z=>⟨_,_,z.two⟩));have g8:=L1 T ro rw xx e1 F8 g2 g3;have g9:=MB T ro rw xx e1 F9 g6;have g10:=MA T ro rw xx e1 F10 g2 g8;have g11:=ME T ro rw xx e1 F11;have g12:=Lv T ro rw xx e1 F12 g3;have g13:=L5 T ro rw xx e1 F13;have g14:=Lq T ro rw xx e1 F14;have g15:=L0 T ro rw xx e1 F15 g12 g13 g14;have g16:=Jq T ro rw xx e1 F16;have g17:=Lr T ro rw xx e1 F17 g0;have g18:=MG T ro rw xx e1 F18;have g19:=CU T ro rw xx e1 F19;have g20:=L6 T ro rw xx e1 F20 g19;have g21:=LZ T ro rw xx e1 F21;have g22:=Jo T ro rw xx e1 F22 g21 (g19.imp (λ_ _ _ _ z=>S9.LV z));have g23:=Jp T ro rw xx e1 F23 g22;have g24:=Jn T ro rw xx e1 F24;have g25:=Jt T ro rw xx e1 F25 g19;have g26:=Ju T ro rw xx e1 F26 g20 g25;have g27:=Jv T ro rw xx e1 F27 g24 g26;have g28:=Lu T ro rw xx e1 F28;have g29:=Lb T ro rw xx e1 F29;have g30:=Ld T ro rw xx e1 F30 g28;have g31:=Jy T ro rw xx e1 F31 g23;have g32:=Lk T ro rw xx e1 F32 g19;have g33:=L3 T ro rw xx e1 F33 g20 g23;have g34:=Ln T ro rw xx e1 F34;have g35:=Ls T ro rw xx e1 F35 g24 g31 g29 ⟨mk1,F29.1,F29.2.1,kc1⟩;have g36:=Lg T ro rw xx e1 F36 g34;have g37:=Lf T ro rw xx e1 F37 g32 g34;have g38:=Lh T ro rw xx e1 F38 g30 F30.m g32 g34 g21;have g39:=Jw T ro rw xx e1 F39;have g40:=Li T ro rw xx e1 F40 g39 F39.m g36 F36.m g38 F38.m g37 F37.m;have g41:=FN T ro rw xx e1 F41 g40 F40.m;have g42:=Lz T ro rw xx e1 F42 g33 g41 F41.m;have g43:=MC T ro rw xx e1 F39 g32 g42 F42.m;have g44:=Lj T ro rw xx e1 F40 g43 F39.m g36 F36.m g38 F38.m g37 F37.m;have g45:=FM T ro rw xx e1 F41 g44 F40.m;have g46:=Lp T ro rw xx e1 F43;have g47:=Ll T ro rw xx e1 F44;have g48:=La T ro rw xx e1 F45 g47 g46;have g49:=Js T ro rw xx e1 F46 g27 g35 ⟨mk0,F35.1,F35.2.1,kc0⟩ g45 F41.m g48;have g50:=Lw T ro rw xx e1 F47;have g51:=Lx T ro rw xx e1 F48;have g52:=MD T ro rw xx e1 F49 g50 g51;have g53:=L7 T ro rw xx e1 F50 g21;have g54:=Lm T ro rw xx e1 F51 g52 g53;exact FQ T ro rw xx e1 Fl g5 g9 g7 g4 g17 g15 g18 g16 g11 g49 g10 g3 g54 g2
theorem Qe{l:PySem.W.OpenLaw}{q:Program}{loose:List Str}{XP:(Str->Option Value)->Heap->Prop}{YP:World->Heap->Prop}{d:DefRec}{K:Params->aA}(hn:l.most=some 63)(hdf:d.params.defaults=[])
  (hY:∀(w:World)(h:Heap),YP w h->(K w.params).In h)
  (F:∀(w:World)(mg:Str->Option Value)(fa:Addr)(h:Heap),(K w.params).In h->h.Ns mainGlobals mg->mg d.name=some (.ref fa)->
   ∃fd:FuncData,(∀(s:Shared)(u:Value),BindsTo s fd ⟨[u],[]⟩ [("_law_script",u)])/\∀base:Heap,(K w.params).In base->base.Ns mainGlobals mg->je l.prog w (K w.params) mg base vM 11 fa fd ["_law_script"] (S1.Pd (K w.params))):
  PySem.W.WalkO q loose XP YP l.row.toRowW d [] (λf vs=>PySem.call f vs):=
 L2.M7 (n:=63) (k:=11) (x:="_law_script") (CX:=λ_=>vM) (sp:=λw=>S1.Pd (K w.params)) hn (by decide) hdf ⟨rfl,by decide,by decide⟩ hY F (λ_ _ a ns hl _ hS=>⟨a,ns,rfl,hS,hl,λ_=>rfl⟩) λ_ _ _ _ _ z=>z
end K4
open PySem PySem.W PyProof.Rows
set_option maxRecDepth 100000 in
set_option maxHeartbeats 0 in
theorem PySem.Challenge.cw_stampword_k04_whole_means_the_same_holds : PySem.Challenge.rw_stampword_k04_whole_means_the_same.Holds := by
 w_on;refine QWtp ?_
 k_fill
 refine K4.Qe (l:=PySem.Challenge.rw_stampword_k04_whole_means_the_same) rfl rfl (λw h Y=>PySem.W.kIn_of Y) ?F
 case F=>
  intro w mg fa h KX G hmg
  refine' K4.Oy KX G hmg ..
  all_goals first|(apply bb;k_is;apply L2.Oe;k_is;k_is;k_is)|(apply bb;k_is;apply bb;k_is;apply L2.Oe;k_is;k_is;k_is)|(show _=_;k_is)|k_is|k_exc|kts_exm|skip
#print axioms PySem.Challenge.cw_stampword_k04_whole_means_the_same_holds
