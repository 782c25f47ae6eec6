import PyProof.Rows.All
import Wide.All
import OpenK.AllK
import Wide.FinOn
import Lean
import PyProof.EqAt
import PyProof.EqKinds
import PyProof.TupleCall
import PySem.Challenge.RW_stampword_k11_lines_read_or_refused
set_option Elab.async false
set_option linter.all false
set_option maxRecDepth 100000
set_option maxHeartbeats 4000000
namespace QW
open PySem PySem.W PyProof.Rows
abbrev pw := PySem.Challenge.pw_stampword_k11_lines_read_or_refused
abbrev rw := PySem.Challenge.rw_stampword_k11_lines_read_or_refused
def tq (i : Nat) : Stmt := pw.main.body.getD i (.Pass ⟨0, 0, 0, 0⟩)
def qv : Program := { pw with main := { pw.main with body := [tq 1, tq 2, tq 3, tq 4, tq 5, tq 7, tq 8, tq 9, tq 11, tq 12, tq 13, tq 14, tq 15, tq 16, tq 17, tq 18, tq 19, tq 20, tq 21, tq 22, tq 23, tq 24, tq 25] } }
abbrev Xt : Shared → Bool := fun s => xlAt qv [] s && recOk (RowW.records (OpenRow.toRowW rw.row)) s
theorem lfG {p q : Program} {X : Shared → Bool} {N : Nat} {α : Type} {Yf : Shared → α} {Ya : World → α} (a : ∀ w, (openEnds treeTable p w N).map (fun s => (seen ((recsOf q).map (·.name)) (ownsOf q) [] { s with gens := #[] }, s.heap.bltView)) = some (expectedOf q, bltViewBooted)) (b : ∀ w, (openEnds treeTable p w N).map (fun s => (openSeen q [] (importedModules p.main.body) X true s).2.2) = some (openGood q []).2.2) (c : ∀ w, (openEnds treeTable p w N).map Yf = some (Ya w)) : LeftO p q [] X Yf Ya N := fun w => by
  have a := a w
  have b := b w
  have c := c w
  revert a b c
  cases openEnds treeTable p w N with
  | none => intro a; cases a
  | some s =>
    intro a b c
    have a := Prod.mk.inj (Option.some.inj a)
    exact congrArg some (Prod.ext (Prod.ext a.1 (Prod.ext a.2 (Option.some.inj b))) (Option.some.inj c))
theorem ws : rw.wellSaid = true := by decide +kernel
theorem ta (w : World) : (openEnds treeTable pw w 4096).map (fun s => (seen ((recsOf qv).map (·.name)) (ownsOf qv) [] { s with gens := #[] }, s.heap.bltView)) = some (expectedOf qv, bltViewBooted) := by kernel_rfl
theorem tb (w : World) : (openEnds treeTable pw w 4096).map (fun s => (openSeen qv [] (importedModules pw.main.body) Xt true s).2.2) = some (openGood qv []).2.2 := by kernel_rfl
end QW
section
open PySem PySem.W PyProof.Rows
set_option hygiene false in
local macro_rules | `(tactic| o_law) => `(tactic| refine holds_law QW.ws fun said => ?_)
set_option hygiene false in
local macro_rules | `(tactic| o_head $H) => `(tactic| (refine holds_open (q := QW.qv) (loose := []) (Xt := QW.Xt) (XP := XL QW.qv []) (Yf := Hook.obs $H) (Ya := Hook.val $H) (YP := Hook.says $H) (N := 4096) (QW.lfG QW.ta QW.tb fun _ => by kernel_rfl) (Hook.of $H) (Hook.keeps $H) (fun s e => xl_of s (Bool.and_eq_true_iff.mp e).1) XL.keeps (by rfl) (by rfl) (by rfl) (fun s e => recFacts_of (Bool.and_eq_true_iff.mp e).2) (by rfl) (by assumption) (by decide +kernel) ⟨rfl, rfl, rfl, rfl, rfl, by decide +kernel⟩ ?hw ?hc <;> clear said))
open_top QWtp for PySem.Challenge.rw_stampword_k11_lines_read_or_refused
end
local macro_rules|`(tactic|decide)=>`(tactic|decide+kernel)

abbrev aA:=PySem.W.Frag
abbrev aB:=@Nat.le_refl
abbrev aC:=@List.length_cons
abbrev aD:=@List.length_append
abbrev aE:=@Nat.le_trans
abbrev aF:=@List.mem_cons
abbrev aG:=@List.length_nil
abbrev aH:=@Nat.lt_of_lt_of_le
abbrev aI:=@Nat.ne_of_lt
abbrev aJ:=@Bool.false_ne_true
abbrev aK:=@List.size_toArray
abbrev aL:=@PySem.F.plainAttrs_list
abbrev aM:=@Nat.le_add_right
abbrev aN:=@PySem.W.mg_of
abbrev aO:=@List.length_drop
abbrev aP:=@List.mem_append_right
abbrev aQ:=@Nat.le_succ
abbrev aR:=@Nat.zero_le
abbrev aS:=@List.mem_append
abbrev aT:=@List.mem_singleton
abbrev aU:=@List.takeWhile_cons
abbrev aV:=@List.length_map
abbrev aW:=@PySem.W.kia_one
abbrev aX:=@PySem.F.slot_list_append
abbrev aY:=@PySem.F.type_list_append
abbrev aZ:=@PySem.W.mg_none_of
abbrev aa:=@List.mem_cons_of_mem
abbrev ac:=@True.intro
abbrev ae:=@Or.inl
abbrev af:=@List.map_cons
abbrev ag:=@List.append_nil
abbrev ah:=@List.append_assoc
abbrev ai:=@Ne.symm
abbrev aj:=@List.mem_append_left
abbrev ak:=@List.length_take
abbrev al:=@List.getElem?_map
abbrev am:=@List.reverse_cons
abbrev ao:=@List.getElem?_eq_getElem
abbrev aq:=@Bool.and_eq_true
abbrev au:=@Or.inr
abbrev av:=@List.not_mem_nil
abbrev aw:=@List.drop_zero
abbrev ax:=@List.drop_left'
abbrev ay:=@List.length_reverse
abbrev az:=@PySem.F.slot_list_pop
abbrev bA:=@PySem.F.type_list_pop
abbrev bB:=@PySem.F.slot_list_extend
abbrev bC:=@PySem.F.type_list_extend
abbrev bD:=@Nat.lt_irrefl
abbrev bE:=@Nat.le_of_lt
abbrev bF:=@List.find?_cons
abbrev bG:=@Int.emod_nonneg
abbrev bH:=@List.foldl_cons
abbrev bI:=@List.length_pos_iff
abbrev bJ:=@List.dropWhile_cons
abbrev bK:=@List.mem_cons_self
abbrev bL:=@List.getElem?_eq_some_iff
abbrev bM:=@PyProof.Rows.callWith_type1
abbrev bN:=@Bool.eq_iff_iff
abbrev bO:=@Nat.lt_succ_self
abbrev bP:=@PySem.W.callWith_K
abbrev bQ:=@PySem.mem_of_lookup
abbrev bR:=@Array.toList_append
abbrev bS:=@Nat.sub_zero
abbrev bT:=@List.take_left'
abbrev bU:=@List.drop_drop
abbrev bV:=@Nat.add_sub_cancel_left
abbrev bW:=@PySem.W.hideAll_get
abbrev bX:=@Nat.ne_of_gt
abbrev bY:=@Nat.le_of_eq
abbrev bZ:=@List.nodup_cons
abbrev ba:=@List.of_mem_zip
abbrev bb:=@List.any_cons
abbrev bc:=@List.map_nil
abbrev be:=@Nat.min_eq_left
abbrev bf:=@Bool.or_eq_true
abbrev bg:=@List.getElem?_eq_none
abbrev bh:=@Int.emod_lt_of_pos
abbrev bi:=@List.cons_append
abbrev bj:=@List.mem_range
abbrev bn:=@List.filterMap_cons
abbrev bo:=@Array.length_toList
abbrev bp:=@List.mem_filterMap
abbrev bq:=@PySem.W.plainGet_of
abbrev br:=@PySem.W.cellsFrom_some
abbrev bt:=@List.getElem?_append_right
abbrev bu:=@List.getElem?_replicate
abbrev bv:=@List.mem_of_getElem?
abbrev bw:=@List.length_replicate
abbrev bx:=@PySem.F.slot_tuple_add
abbrev bz:=@PySem.F.entry_tuple_add
abbrev b4:=@PySem.F.args_tuple_add_2
abbrev b5:=@PyProof.Rows.slot_tuple_getitem
abbrev b6:=@PySem.F.slot_dict_get
abbrev b7:=@Nat.lt_of_le_of_lt
abbrev b8:=@Nat.le_of_ble_eq_true
abbrev b9:=@PySem.F.called_tuple
abbrev cA:=@List.take_of_length_le
abbrev cB:=@List.take_append_drop
abbrev cC:=@List.drop_succ_cons
abbrev cD:=@List.infix_cons_iff
abbrev cE:=@List.take_succ_cons
abbrev cF:=@List.reverse_reverse
abbrev cG:=@List.reverse_append
abbrev cH:=@List.takeWhile_prefix
abbrev cI:=@List.take_length
abbrev cJ:=@Nat.sub_self
abbrev cK:=@List.length_eq_zero_iff
abbrev cL:=@Int.ofNat_lt
abbrev cM:=@List.takeWhile_append
abbrev cN:=@PySem.F.plainAttrs_str
abbrev cO:=@List.getElem?_set_self
abbrev cP:=@List.getElem?_set_ne
abbrev cQ:=@PyProof.noPylong_small
abbrev cR:=@PySem.W.methodCall_KW
abbrev cS:=@List.getElem?_append_left
abbrev cT:=@Array.getElem?_toList
abbrev cU:=@PySem.F.entry_dict_get
abbrev cV:=@PySem.F.args_dict_get_3
abbrev cW:=@Option.bind_eq_some_iff
abbrev cX:=@Int.eq_ofNat_of_zero_le
abbrev cY:=@PySem.F.plain_list_iadd
abbrev cZ:=@PySem.F.plain_tuple_new
abbrev cb:=@List.dropLast_concat_getLast
abbrev ce:=@List.mem_of_elem_eq_true
abbrev cf:=@List.prefix_iff_eq_take
abbrev cg:=@Nat.pow_le_pow_right
abbrev ci:=@List.drop_eq_getElem_cons
abbrev cj:=@Array.toList_extract
abbrev ck:=@Nat.mul_le_mul_right
abbrev cm:=@List.drop_of_length_le
abbrev cn:=@PySem.F.slot_str_replace
namespace L2
open PySem PySem.Spec PyProof.Rows
abbrev gJ:=Sum Int Str
def lf:gJ→Value→Bool
 | .inl k,v=>Value.isInt k v
 | .inr x,v=>Value.isStrOf x v
def CV(w:World):gJ→Int
 | .inl k=>hashInt k
 | .inr x=>hashStr w x
theorem eT:∀{k:gJ}{v:Value},lf k v=true→(∃i t,k=Sum.inl i∧v=Value.int i t)∨(∃x t,k=Sum.inr x∧v=Value.str x t)
 | .inl i,v,h=>by obtain⟨t,e⟩:=Value.isInt_shape (k:=i) (v:=v) h;exact .inl ⟨i,t,rfl,e⟩
 | .inr x,v,h=>by obtain⟨t,e⟩:=Value.isStrOf_shape (x:=x) (v:=v) h;exact .inr ⟨x,t,rfl,e⟩
theorem rQ(i:Int)(t:Tok):lf (.inl i) (.int i t)=true:=by simp[lf,Value.isInt]
theorem rP(x:Str)(t:Tok):lf (.inr x) (.str x t)=true:=by simp[lf,Value.isStrOf]
theorem zQ(a b:Int):decide ((Sum.inl a:gJ)=Sum.inl b)=(a==b):=by
 by_cases e:a=b
 ·subst e;simp
 ·have h:¬(Sum.inl a:gJ)=Sum.inl b:=λq=>e (Sum.inl.inj q);rw[decide_eq_false h];exact(beq_eq_false_iff_ne.mpr e).symm
theorem zN(a b:Str):decide ((Sum.inr a:gJ)=Sum.inr b)=decide (a=b):=by
 by_cases e:a=b
 ·subst e;simp
 ·have h:¬(Sum.inr a:gJ)=Sum.inr b:=λq=>e (Sum.inr.inj q);rw[decide_eq_false h,decide_eq_false e]
theorem zP(a:Int)(b:Str):decide ((Sum.inl a:gJ)=Sum.inr b)=false:=decide_eq_false (λq=>nomatch q)
theorem zO(a:Str)(b:Int):decide ((Sum.inr a:gJ)=Sum.inl b)=false:=decide_eq_false (λq=>nomatch q)
def eY(prog:Program)(w:World):PySem.KeyKind prog w gJ where
 is:=lf
 hash:=CV w
 inj:=λv a b ha hb=>by
  rcases eT ha with⟨i,t,rfl,rfl⟩|⟨x,t,rfl,rfl⟩
  ·rcases eT hb with⟨j,u,rfl,e⟩|⟨y,u,rfl,e⟩
   ·injection e with e1 _;rw[e1]
   ·exact nomatch e
  ·rcases eT hb with⟨j,u,rfl,e⟩|⟨y,u,rfl,e⟩
   ·exact nomatch e
   ·injection e with e1 _;rw[e1]
 byValue:=λk v h=>by rcases eT h with⟨i,t,rfl,rfl⟩|⟨x,t,rfl,rfl⟩<;>rfl
 pyHash:=λhv h=>by
  rcases eT hv with⟨i,t,rfl,rfl⟩|⟨x,t,rfl,rfl⟩
  ·exact wpAny_pyHash_int h
  ·exact wpAny_pyHash_str h
 eqBool:=λhu hv h=>by
  rcases eT hu with⟨i,t,rfl,rfl⟩|⟨x,t,rfl,rfl⟩
  ·rcases eT hv with⟨j,u,rfl,rfl⟩|⟨y,u,rfl,rfl⟩
   ·rw[zQ]at h;exact wpAny_eqBool_int h
   ·rw[zP]at h;exact SeqAt.EqAt.int_str i t y u _ _ _ _ h
  ·rcases eT hv with⟨j,u,rfl,rfl⟩|⟨y,u,rfl,rfl⟩
   ·rw[zO]at h;exact SeqAt.EqAt.str_int x t j u _ _ _ _ h
   ·rw[zN]at h;exact wpAny_eqBool_str h
 «strs»:=λk x t v h=>by
  rcases eT h with⟨i,u,rfl,e⟩|⟨y,u,rfl,e⟩
  ·exact nomatch e
  ·injection e with e1 _;subst e1;cases v<;>rfl
theorem nZ(prog:Program)(w:World)(i:Int)(t:Tok):(eY prog w).is (.inl i) (.int i t)=true:=rQ i t
theorem nY(prog:Program)(w:World)(x:Str)(t:Tok):(eY prog w).is (.inr x) (.str x t)=true:=rP x t
inductive V where
 | non|bl(b:Bool)|int(i:Int)|str(x:Str)|byt(b:Array UInt8)|flt(b:UInt64)|ref(a:Addr)|ty(n:String)
 deriving DecidableEq
def df:V→Value→Prop
 | .non,u=>u=Value.none
 | .bl b,u=>u=Value.bool b
 | .int i,u=>∃t,u=Value.int i t
 | .str x,u=>∃t,u=Value.str x t
 | .byt b,u=>∃t,u=Value.bytes b t
 | .flt b,u=>∃t,u=Value.float b t
 | .ref a,u=>u=Value.ref a
 | .ty n,u=>u=Value.type n
abbrev dS:List V→List Value→Prop:=Paired df
theorem dS.length(r:dS xs us):xs.length=us.length:=Paired.length r
theorem dS.get:∀{xs:List V}{us:List Value}{i:Nat}{x:V},dS xs us→xs[i]?=some x→∃u,us[i]?=some u∧df x u
 | _,_,_,_,.nil,e=>by simp at e
 | _,_,0,_,.cons r _,e=>by simp at e;subst e;exact⟨_,rfl,r⟩
 | _,_,i+1,x,.cons _ t,e=>by obtain⟨u,h1,h2⟩:=dS.get (i:=i) (x:=x) t (by simpa using e);exact⟨u,by simpa using h1,h2⟩
theorem dS.append:∀{xs ys:List V}{us ws:List Value},dS xs us→dS ys ws→dS (xs++ys) (us++ws)
 | _,_,_,_,.nil,s=>s
 | _,_,_,_,.cons r t,s=>.cons r (dS.append t s)
theorem dS.take:∀{xs:List V}{us:List Value}(n:Nat),dS xs us→dS (xs.take n) (us.take n)
 | _,_,0,_=>.nil
 | _,_,_+1,.nil=>.nil
 | _,_,n+1,.cons r t=>.cons r (dS.take n t)
theorem dS.drop:∀{xs:List V}{us:List Value}(n:Nat),dS xs us→dS (xs.drop n) (us.drop n)
 | _,_,0,r=>r
 | _,_,_+1,.nil=>.nil
 | _,_,n+1,.cons _ t=>dS.drop n t
def jE:Option V→Option Value→Prop
 | some v,some u=>df v u
 | none,none=>True
 | _,_=>False
def KV{κ:Type}:List (κ×V)→List (κ×Value)→Prop:=Paired λ(p:κ×V)(q:κ×Value)=>p.1=q.1∧df p.2 q.2
def kV:gJ→V
 | .inl i=>.int i
 | .inr x=>.str x
inductive HO where
 | lst(xs:List V)
 | tup(xs:List V)
 | dK(kvs:List (gJ×V))|dT(kvs:List (List gJ×V))
 | set(S:Int→Bool)(n:Nat)
 | ins(C dx:Addr)(fs:List (Str×V))
 | own(x:Addr)
 | xd(fs:List (Str×V))
 | met(f x:Addr)
 | rng(lo hi:Int)
 | frz(o:Obj)(u:HO)
 | tbl(ps:Array Value)
 | ext(φ:Heap→Prop)
abbrev Hp:=Addr→Option HO
def dc(H:Hp)(a:Addr)(o:HO):Hp:=λb=>if b=a then some o else H b
theorem c6:dc H a o a=some o:=by unfold dc;rw[if_pos rfl]
theorem dN(h:b≠a):dc H a o b=H b:=by unfold dc;rw[if_neg h]
theorem iW{H:Hp}{a b:Addr}{o u:HO}(h:H a=some o)(h':H b=some u)(d:o≠u):a≠b:=by intro e;subst e;rw[h]at h';exact d (Option.some.inj h')
theorem da{H:Hp}{a b:Addr}{o:HO}(h:H a=some o)(h':H b=none):a≠b:=by intro e;subst e;rw[h]at h';cases h'
section
variable (P:Program)(w:World)
def eP(H:Hp)(h:Heap)(a:Addr):HO→Prop
 | .lst xs=>xs.length≤sizeLine∧∃(dU:List Value)(n:Nat),dS xs dU∧h.get? a=some {cls:=.type "list",data:=.seq dU.toArray n}
 | .tup xs=>xs.length≤sizeLine∧∃dU:List Value,dS xs dU∧IsTup h a dU.toArray
 | .dK kvs=>kvs.length≤sizeLine∧(a==sysModules)=false∧∃vs,KV kvs vs∧h.DictOf (eY P w) a vs
 | .dT kvs=>kvs.length≤sizeLine∧(a==sysModules)=false∧∃xs:List (List gJ×Addr×Value),
   Paired (λ(p:List gJ×V)(q:List gJ×Addr×Value)=>p.1=q.1∧H q.2.1=some (.tup (p.1.map kV))∧df p.2 q.2.2) kvs xs∧
   ∃o es ep,h.get? a=some o∧o.ExactDict∧o.data=.dict es ep∧es.toList=xs.map (entryOfKey (tupleKind (eY P w)))∧(xs.map (·.1)).Nodup
 | .set S n=>h.SetOf (intKind P w) a S n
 | .ins C dx fs=>H dx=some (.own a)∧fs.length≤1000∧dx≠a∧h.get? a=some (PySem.W.instObj C dx)∧
   ∃mA,h.Ns1 dx mA∧(∀f,jE (fs.lookup f) (mA f))∧PySem.Within mA (fs.map (·.1))
 | .own _=>∃o,h.get? a=some o
 | .xd fs=>∃mA,h.Ns1 a mA∧∀f,jE (fs.lookup f) (mA f)
 | .rng lo hi=>∃t u v,h.get? a=some {cls:=.type "range",data:=.fields #[.int lo t,.int hi u,.int 1 v]}
 | .frz o u=>h.get? a=some o∧eP H h a u
 | .tbl ps=>h.get? a=some {cls:=.none,data:=.fields ps}
 | .met f x=>h.get? a=some (PySem.W.methodObj (.ref f) (.ref x))
 | .ext φ=>φ h∧(∃o,h.get? a=some o)∧∀h1 h2:Heap,φ h1→(∀o,h1.get? a=some o→h2.get? a=some o)→φ h2
def i9(H:Hp)(h:Heap):Prop:=∀a o,H a=some o→eP P w H h a o
end
section
variable {P:Program}{w:World}{H H':Hp}{h h':Heap}{a:Addr}{o:HO}
theorem eP.lt(x:eP P w H h a o):a<h.objs.size:=by
 cases o with
 | lst xs=>obtain⟨_,_,_,_,e⟩:=x;exact Heap.lt_size e
 | tup xs=>obtain⟨_,_,_,p⟩:=x;exact p.lt
 | dK kvs=>obtain⟨_,_,_,_,o,_,_,e,_⟩:=x;exact Heap.lt_size e
 | dT kvs=>obtain⟨_,_,_,_,o,_,_,e,_⟩:=x;exact Heap.lt_size e
 | set S n=>obtain⟨o,_,_,_,e,_⟩:=x;exact Heap.lt_size e
 | ins C dx fs=>obtain⟨_,_,_,e,_⟩:=x;exact Heap.lt_size e
 | own y=>obtain⟨_,e⟩:=x;exact Heap.lt_size e
 | xd fs=>obtain⟨_,⟨_,_,_,e,_⟩,_⟩:=x;exact Heap.lt_size e
 | rng lo hi=>obtain⟨_,_,_,e⟩:=x;exact Heap.lt_size e
 | frz ob u=>obtain⟨e,_⟩:=x;exact Heap.lt_size e
 | tbl ps=>exact Heap.lt_size (show h.get? a=some _ from x)
 | met f y=>exact Heap.lt_size (show h.get? a=some _ from x)
 | ext φ=>obtain⟨_,⟨_,e⟩,_⟩:=x;exact Heap.lt_size e
theorem Paired.mapP:∀{l₁:List α}{l₂:List β},Paired F l₁ l₂→(∀a b,F a b→G a b)→Paired G l₁ l₂
 | _,_,.nil,_=>.nil
 | _,_,.cons r t,f=>.cons (f _ _ r) (Paired.mapP t f)
theorem eP.stay(x:eP P w H h a o)(k:∀b u,(b=a∨H b=some (.own a))→h.get? b=some u→h'.get? b=some u)
  (ho:∀b,H b=some (.own a)→H' b=some (.own a)) (ht:∀b xs,H b=some (.tup xs)→H' b=some (.tup xs)):eP P w H' h' a o:=by
 induction o with
 | lst xs=>obtain⟨z,dU,n,r,e⟩:=x;exact⟨z,dU,n,r,k _ _ (.inl rfl) e⟩
 | tup xs=>obtain⟨z,dU,r,ob,e,c⟩:=x;exact⟨z,dU,r,ob,k _ _ (.inl rfl) e,c⟩
 | dK kvs=>obtain⟨z,y,vs,r,ob,es,ep,e,c⟩:=x;exact⟨z,y,vs,r,ob,es,ep,k _ _ (.inl rfl) e,c⟩
 | dT kvs=>obtain⟨z,y,xs,r,ob,es,ep,e,c⟩:=x;exact⟨z,y,xs,Paired.mapP r λp q z=>⟨z.1,ht _ _ z.2.1,z.2.2⟩,ob,es,ep,k _ _ (.inl rfl) e,c⟩
 | set S n=>obtain⟨ob,es,ep,t,e,c⟩:=x;exact⟨ob,es,ep,t,k _ _ (.inl rfl) e,c⟩
 | ins C dx fs=>obtain⟨d,z,ne,e,mA,⟨od,es,ep,e2,c⟩,r⟩:=x;exact⟨ho _ d,z,ne,k _ _ (.inl rfl) e,mA,⟨od,es,ep,k _ _ (.inr d) e2,c⟩,r⟩
 | own y=>obtain⟨ob,e⟩:=x;exact⟨ob,k _ _ (.inl rfl) e⟩
 | xd fs=>obtain⟨mA,⟨od,es,ep,e,c⟩,r⟩:=x;exact⟨mA,⟨od,es,ep,k _ _ (.inl rfl) e,c⟩,r⟩
 | rng lo hi=>obtain⟨t,u,v,e⟩:=x;exact⟨t,u,v,k _ _ (.inl rfl) e⟩
 | frz ob u ih=>obtain⟨e,q⟩:=x;exact⟨k _ _ (.inl rfl) e,ih q⟩
 | tbl ps=>have e:h.get? a=some {cls:=.none,data:=.fields ps}:=x;show h'.get? a=some {cls:=.none,data:=.fields ps};exact k a _ (.inl rfl) e
 | met f y=>have e:h.get? a=some (PySem.W.methodObj (.ref f) (.ref y)):=x;show h'.get? a=some (PySem.W.methodObj (.ref f) (.ref y));exact k a _ (.inl rfl) e
 | ext φ=>obtain⟨p,⟨o,e⟩,st⟩:=x;exact⟨st _ _ p λo q=>k _ _ (.inl rfl) q,⟨o,k _ _ (.inl rfl) e⟩,st⟩
theorem i9.lt(x:i9 P w H h)(e:H a=some o):a<h.objs.size:=(x a o e).lt
theorem i9.fresh(x:i9 P w H h)(e:h.objs.size≤a):H a=none:=by
 cases q:H a with
 | none=>rfl
 | some u=>exact absurd (aH (x.lt q) e) (bD _)
theorem i9.kept(x:i9 P w H h)(k:∀b u,h.get? b=some u→h'.get? b=some u):i9 P w H h':=λa o e=>
 (x a o e).stay (λb u _ q=>k b u q) (λ_ q=>q) λ_ _ q=>q
theorem i9.laid(x:i9 P w H h)(k:∀b u,h.get? b=some u→h'.get? b=some u)(hp:h.objs.size≤a)(new:eP P w (dc H a o) h' a o):i9 P w (dc H a o) h':=λb u e=>by
 have hn:=x.fresh hp;by_cases hb:b=a
 ·subst hb;rw[c6]at e;cases e;exact new
 ·rw[dN hb]at e;exact(x b u e).stay (λc v _ q=>k c v q) (λc q=>by rw[dN (da q hn)];exact q) λc xs q=>by rw[dN (da q hn)];exact q
end
def Rd(H:Hp)(a:Addr)(u:HO):Prop:=H a=some u∨∃o,H a=some (.frz o u)
theorem Rd.ok(r:Rd H a u)(x:i9 P w H h):eP P w H h a u:=by
 rcases r with r|⟨o,r⟩
 ·exact x a u r
 ·obtain⟨_,q⟩:=x a _ r;exact q
def BG:Option HO→Prop
 | some (.lst _)=>True
 | some (.dK _)=>True
 | some (.dT _)=>True
 | some (.set _ _)=>True
 | some (.ins _ _ _)=>True
 | some (.ext _)=>True
 | _=>False
section
variable {P:Program}{w:World}{H:Hp}{h h':Heap}{x e:Addr}{o':HO}
theorem i9.write(ok:i9 P w H h)(mu:BG (H x))(he:e=x∨H e=some (.own x))(k:∀b u,b≠e→h.get? b=some u→h'.get? b=some u)(heo:∃u,h'.get? e=some u)
  (new:eP P w (dc H x o') h' x o'):i9 P w (dc H x o') h':=λb u q=>by
 have nown:∀c y,H c=some (.own y)→c≠x:=λc y r z=>by subst z;rw[r]at mu;exact mu
 have ntup:∀c xs,H c=some (.tup xs)→c≠x:=λc xs r z=>by subst z;rw[r]at mu;exact mu
 by_cases hb:b=x
 ·subst hb;rw[c6]at q;cases q;exact new
 ·rw[dN hb]at q;by_cases hbe:b=e
  ·have q':H b=some (.own x):=by
    rcases he with z|z
    ·exact absurd (hbe.trans z) hb
    ·rw[hbe];exact z
   rw[q]at q';cases q';obtain⟨v,hv⟩:=heo;exact⟨v,by rw[hbe];exact hv⟩
  ·refine(ok b u q).stay (λc v hc r=>k c v ?_ r) (λc r=>by rw[dN (nown c b r)];exact r) λc xs r=>by rw[dN (ntup c xs r)];exact r
   rcases hc with rfl|hc
   ·exact hbe
   ·rintro rfl;rcases he with z|z
    ·exact nown c b hc z
    ·rw[hc]at z;cases z;exact hb rfl
end
structure Un(fs ex:List Addr)(H H':Hp)(h h':Heap):Prop where
 keep:∀b o,h.get? b=some o→H b=none→b∉fs→b∉ex→h'.get? b=some o
 slot:∀b o,h.get? b=some o→H b=none→b∈fs→b∉ex→∃sl,h'.get? b=some {o with slots:=sl}
 free:∀b o,h.get? b=some o→H b=none→b∉ex→H' b=none
 there:∀b o,h.get? b=some o→b∉ex→∃o',h'.get? b=some o'
 tups:∀b xs,H b=some (.tup xs)→H' b=some (.tup xs)
 frzs:∀b o u,H b=some (.frz o u)→H' b=some (.frz o u)
 tbls:∀b ps,H b=some (.tbl ps)→∃more,H' b=some (.tbl (ps++more))
section
variable {fs fs' ex ex':List Addr}{H H1 H2:Hp}{h h1 h2 h':Heap}{a x e:Addr}{o:HO}
theorem Un.any(u:Un fs ex H H1 h h1)(q:h.get? b=some ob)(n:H b=none)(hx:b∉ex):∃sl,h1.get? b=some {ob with slots:=sl}:=by
 by_cases hb:b∈fs
 ·exact u.slot b ob q n hb hx
 ·exact⟨ob.slots,u.keep b ob q n hb hx⟩
theorem Un.kept(k:∀b u,h.get? b=some u→h'.get? b=some u):Un fs ex H H h h':=
 ⟨λb ob q _ _ _=>k b ob q,λb ob q _ _ _=>⟨ob.slots,k b ob q⟩,λ_ _ _ n _=>n,λb ob q _=>⟨ob,k b ob q⟩,λ_ _ q=>q,λ_ _ _ q=>q,λ_ ps q=>⟨#[],by rw[q];simp⟩⟩
theorem Un.refl:Un fs ex H H h h:=Un.kept λ_ _ q=>q
theorem Un.laid(k:∀b u,h.get? b=some u→h'.get? b=some u)(hp:h.objs.size≤a)(hn:H a=none):Un fs ex H (dc H a o) h h' where
 keep:=λb u q _ _ _=>k b u q
 slot:=λb u q _ _ _=>⟨u.slots,k b u q⟩
 free:=λb u q n _=>by rw[dN (aI (aH (Heap.lt_size q) hp))];exact n
 there:=λb u q _=>⟨u,k b u q⟩
 tups:=λb xs q=>by rw[dN (da q hn)];exact q
 frzs:=λb u xs q=>by rw[dN (da q hn)];exact q
 tbls:=λb ps q=>⟨#[],by rw[dN (da q hn),q];simp⟩
theorem Un.write(mu:BG (H x))(he:e=x∨H e=some (.own x))(k:∀b u,b≠e→h.get? b=some u→h'.get? b=some u)(heo:∃u,h'.get? e=some u):Un fs ex H (dc H x o) h h':=by
 have hx:∀b,H b=none→b≠x:=λb n z=>by subst z;rw[n]at mu;exact mu
 have hb:∀b,H b=none→b≠e:=λb n z=>by
  subst z;rcases he with r|r
  ·exact hx b n r
  ·rw[n]at r;cases r
 have hm:∀b u,H b=some u→¬BG (some u)→b≠x:=λb u q nm z=>by subst z;rw[q]at mu;exact nm mu
 refine⟨λb u q n _ _=>k b u (hb b n) q,λb u q n _ _=>⟨u.slots,k b u (hb b n) q⟩,λb u q n _=>by rw[dN (hx b n)];exact n,λb u q _=>?_,
  λb xs q=>by rw[dN (hm b _ q λz=>z)];exact q,λb u xs q=>by rw[dN (hm b _ q λz=>z)];exact q,λb ps q=>⟨#[],by rw[dN (hm b _ q λz=>z),q];simp⟩⟩
 by_cases hbe:b=e
 ·subst hbe;exact heo
 ·exact⟨u,k b u hbe q⟩
end
def BR(h:Heap)(H:Hp):List Addr:=(List.range h.objs.size).filter λa=>(H a).isSome
def mt(h:Heap)(H:Hp):Heap:=PySem.W.hideAll h (BR h H)
theorem rS(h:Heap)(H:Hp):(mt h H).objs.size=h.objs.size:=PySem.W.hideAll_size _ _
theorem uG(e:h.get? b=some o)(n:H b=none):(mt h H).get? b=some o:=
 bW _ e λhm=>by have q:(H b).isSome=true:=(List.mem_filter.mp hm).2;rw[n]at q;simp at q
theorem vj(e:(mt h H).get? b=some o):h.get? b=some o∧H b=none:=by
 have e':h.get? b=some o:=PySem.W.of_hideAll (BR h H) e;refine⟨e',?_⟩;cases q:H b with
 | none=>rfl
 | some x=>have hm:b∈BR h H:=List.mem_filter.mpr ⟨bj.mpr (Heap.lt_size e'),by simp[q]⟩;have z:(mt h H).get? b=none:=PySem.W.hideAll_none (BR h H) hm;rw[z]at e;cases e
structure Mod(K:aA)(mg:Str→Option Value)(base:Heap):Prop where
 kin:K.In base
 glob:base.Ns mainGlobals mg
 blt:∃mb,base.Ns builtinsNs mb∧∀x:Str,x≠"__name__"→mb x=bootBuiltins x
 nolimit:base.NoLimit
structure Cx where
 prog:Program
 w:World
 K:aA
 mg:Str→Option Value
 base:Heap
 A:Around
 N:List Str
 s₀:Shared
 H₀:Hp
 env:Env
 outer:List Env
 stack:List Env
 ex:List Addr
 fn:Str→Bool
 calm:Bool
 pn:List (Addr×Obj)
 xe:Value→Shared→Prop
def lN(l:List Env):List Addr:=l.filterMap (·.frame)
abbrev Cx.fs(X:Cx):List Addr:=lN X.outer
def Be(sc:Scope)(x:Str):Prop:=sc.names.lookup x=some .local∨sc.names.lookup x=some .cell∨sc.names.lookup x=some .free
def uf(sc:Scope)(x:Str):Prop:=sc.names.lookup x=some .local∨sc.names.lookup x=some .cell
def Cq(env:Env)(h:Heap)(m:Str→Option Value)(x:Str)(u:Value):Prop:=
 (env.kindOf x=some .local∧m x=some u)∨((env.kindOf x=some .cell∨env.kindOf x=some .free)∧∃c,env.cells.lookup x=some c∧h.IsCell c (some u))
structure Cx.Ok(X:Cx):Prop where
 mod:Mod X.K X.mg X.base
 kind:X.env.scope.kind=.function
 glob:X.env.globals=mainGlobals
 blt:X.env.builtins=builtinsNs
 above:X.s₀.heap.objs.size≤X.env.locals
 inj:∀x y c,X.env.cells.lookup x=some c→X.env.cells.lookup y=some c→x=y
 has:∀x,(X.env.kindOf x=some .cell∨X.env.kindOf x=some .free)→∃c,X.env.cells.lookup x=some c
 cab:∀x c,X.fn x=true→X.env.cells.lookup x=some c→X.s₀.heap.objs.size≤c
 hd:X.calm=true→X.A.handled=none
 frames:X.A.frames=some X.stack
 stk:X.stack=X.outer∨(X.stack=X.env::X.outer∧X.env.frame=some X.env.locals)
 exf:∀b∈X.ex,b≠X.env.locals∧∀x c,X.env.cells.lookup x=some c→c≠b
 bs:∀b o,X.base.get? b=some o→X.s₀.heap.get? b=some o∧X.H₀ b=none
 bsz:X.base.objs.size≤X.s₀.heap.objs.size
 noex:∀b o,X.base.get? b=some o→b∉X.ex
 exfs:∀b∈X.ex,b∉X.fs
 funs:X.s₀.heap.FunFrames X.base X.outer
 frf:∀b∈X.fs,X.H₀ b=none
structure dB(X:Cx)(pins:List (Addr×Obj))(σ:List (Option V))(H:Hp)(s:Shared):Prop where
 ok:X.Ok
 os:s.os=X.s₀.os
 bare:AllBare s.gens
 base:Un X.fs X.ex X.H₀ H X.s₀.heap s.heap
 loc:∃m,s.heap.Ns X.env.locals m∧∀(i:Nat)(x:Str)(v:V),X.N[i]?=some x→σ[i]?=some (some v)→Be X.env.scope x→∃u,df v u∧Cq X.env s.heap m x u
 cell:∀x c,X.env.cells.lookup x=some c→∃v,s.heap.IsCell c v
 free:H X.env.locals=none
 freeC:∀x c,X.env.cells.lookup x=some c→H c=none
 pin:∀p∈X.pn++pins,s.heap.get? p.1=some p.2∧H p.1=none∧p.1≠X.env.locals∧p.1∉X.fs∧∀v,p.2.data≠.cell v
 hok:i9 X.prog X.w H s.heap
 len:σ.length=X.N.length
 tk:X.s₀.toks≤s.toks
section
variable {X:Cx}{pins:List (Addr×Obj)}{σ:List (Option V)}{H H':Hp}{s:Shared}{h':Heap}
theorem Cx.Ok.nofr(ok:X.Ok)(e:X.base.get? b=some o):b∉X.fs:=λhb=>by have:=(ok.funs.mem hb).1;rw[e]at this;cases this
theorem dB.bs(I:dB X pins σ H s):∀b o,X.base.get? b=some o→s.heap.get? b=some o∧H b=none:=λb o e=>
 ⟨I.base.keep b o (I.ok.bs b o e).1 (I.ok.bs b o e).2 (I.ok.nofr e) (I.ok.noex b o e),I.base.free b o (I.ok.bs b o e).1 (I.ok.bs b o e).2 (I.ok.noex b o e)⟩
theorem dB.bk(I:dB X pins σ H s):∀b o,X.base.get? b=some o→s.heap.get? b=some o:=λb o e=>(I.bs b o e).1
theorem dB.mod(I:dB X pins σ H s):Mod X.K X.mg X.base:=I.ok.mod
theorem dB.kIn(I:dB X pins σ H s):X.K.In s.heap:=I.ok.mod.kin.keeps I.bk
theorem dB.lt(I:dB X pins σ H s):X.env.locals<s.heap.objs.size:=let ⟨_,hn,_⟩:=I.loc;hn.lt
theorem dB.sz(I:dB X pins σ H s):X.s₀.heap.objs.size≤s.heap.objs.size:=aE I.ok.above (bE I.lt)
theorem dB.nofs(I:dB X pins σ H s)(h:s.heap.objs.size≤a):a∉X.fs:=λhb=>by obtain⟨_,o,ho,_⟩:=I.ok.funs.mem hb;exact absurd (aH (Heap.lt_size ho) (aE I.sz h)) (bD _)
theorem dB.cne(I:dB X pins σ H s):∀x c,X.env.cells.lookup x=some c→c≠X.env.locals:=λx c e z=>by obtain⟨v,o,ho,hd⟩:=I.cell x c e;obtain⟨m,⟨o',es,ep,ho',hd',_⟩,_⟩:=I.loc;rw[z,ho']at ho;cases ho;rw[hd']at hd;cases hd
theorem dB.funs(I:dB X pins σ H s):s.heap.FunFrames X.base X.outer:=by
 have all:∀(l:List Env),(∀b∈lN l,b∈X.fs)→X.s₀.heap.FunFrames X.base l→s.heap.FunFrames X.base l:=by
  intro l;induction l with
  | nil=>intro _ _;trivial
  | cons env r ih=>intro hs hl;obtain⟨hk,⟨L,o,hf,hn,ho,hd⟩,hr⟩:=hl;have hL:L∈X.fs:=hs L (by unfold lN;rw[bn,hf];exact bK);obtain⟨sl,e⟩:=I.base.slot L o ho (I.ok.frf L hL) hL λz=>I.ok.exfs L z hL;exact⟨hk,⟨L,_,hf,hn,e,hd⟩,ih (λb hb=>hs b (by unfold lN;rw[bn,hf];exact aa _ hb)) hr⟩
 exact all X.outer (λ_ hb=>hb) I.ok.funs
theorem dB.stack(I:dB X pins σ H s):s.heap.FunFrames X.base X.stack:=by
 rcases I.ok.stk with e|⟨e,hf⟩
 ·rw[e];exact I.funs
 ·rw[e];obtain⟨m,hn,_⟩:=I.loc;refine .cons (by rw[I.ok.kind];decide) hf hn ?_ I.funs;exact Heap.get?_none_of_le (aE I.ok.bsz I.ok.above)
theorem dB.stkSub(I:dB X pins σ H s):∀b∈lN X.stack,b∈X.env.locals::X.fs:=λb hb=>by
 rcases I.ok.stk with e|⟨e,hf⟩
 ·rw[e]at hb;exact aa _ hb
 ·rw[e]at hb;unfold lN at hb;rw[bn,hf]at hb;exact hb
theorem dB.stkFree(I:dB X pins σ H s):∀b∈lN X.stack,H b=none:=λb hb=>by
 rcases aF.mp (I.stkSub b hb)with e|hb
 ·rw[e];exact I.free
 ·obtain⟨_,o,ho,_⟩:=I.ok.funs.mem hb;exact I.base.free b o ho (I.ok.frf b hb) λz=>I.ok.exfs b z hb
theorem dB.step{g':Array GenState}{t':Nat}{d':Drawn}{ch:List Addr}(I:dB X pins σ H s)
  (hch:∀b∈ch,(b∈X.ex∨X.s₀.heap.objs.size≤b)∧b≠X.env.locals∧(∀x c,X.env.cells.lookup x=some c→c≠b)∧∀p∈X.pn++pins,p.1≠b)
  (keep:∀b o,b≠X.env.locals→b∉X.fs→b∉ch→s.heap.get? b=some o→H b=none→h'.get? b=some o)
  (slot:∀b o,b≠X.env.locals→b∈X.fs→b∉ch→s.heap.get? b=some o→H b=none→∃sl,h'.get? b=some {o with slots:=sl}) (free:∀b o,b∉ch→s.heap.get? b=some o→H b=none→H' b=none)
  (there:∀b o,b∉ch→s.heap.get? b=some o→∃o',h'.get? b=some o')
  (tups:∀b xs,H b=some (.tup xs)→H' b=some (.tup xs)) (frzs:∀b o u,H b=some (.frz o u)→H' b=some (.frz o u)) (tbls:∀b ps,H b=some (.tbl ps)→∃more,H' b=some (.tbl (ps++more)))
  (ns:∀m,s.heap.Ns X.env.locals m→h'.Ns X.env.locals m) (hok:i9 X.prog X.w H' h') (hg:AllBare g') (ht:s.toks≤t'):
  dB X pins σ H' {s with heap:=h',gens:=g',drawn:=d',toks:=t'}:=by
 have neL:∀b o,X.s₀.heap.get? b=some o→b≠X.env.locals:=λb o e=>aI (aH (Heap.lt_size e) I.ok.above);have neC:∀b o,X.s₀.heap.get? b=some o→b∉X.ex→b∉ch:=λb o e hx hb=>by
  rcases(hch b hb).1 with z|z
  ·exact hx z
  ·exact absurd (aH (Heap.lt_size e) z) (bD _)
 have cellK:∀x c,X.env.cells.lookup x=some c→∀v,s.heap.IsCell c v→h'.IsCell c v:=λx c e v ⟨o,ho,hd⟩=>by
  have nch:c∉ch:=λz=>(hch c z).2.2.1 x c e rfl;by_cases hc:c∈X.fs
  ·obtain⟨sl,q⟩:=slot c o (I.cne x c e) hc nch ho (I.freeC x c e);exact⟨_,q,hd⟩
  ·exact⟨o,keep c o (I.cne x c e) hc nch ho (I.freeC x c e),hd⟩
 refine⟨I.ok,I.os,hg,⟨λb o e n hb hx=>?_,λb o e n hb hx=>?_,λb o e n hx=>?_,λb o e hx=>?_,λb xs e=>tups b xs (I.base.tups b xs e),λb o xs e=>frzs b o xs (I.base.frzs b o xs e),λb ps e=>?_⟩,?_,λx c e=>?_,?_,λx c e=>?_,λp hp=>?_,hok,I.len,aE I.tk ht⟩
 ·exact keep b o (neL b o e) hb (neC b o e hx) (I.base.keep b o e n hb hx) (I.base.free b o e n hx)
 ·obtain⟨sl,e1⟩:=I.base.slot b o e n hb hx;obtain⟨sl',e2⟩:=slot b _ (neL b o e) hb (neC b o e hx) e1 (I.base.free b o e n hx);exact⟨sl',e2⟩
 ·obtain⟨o',e1⟩:=I.base.there b o e hx;exact free b o' (neC b o e hx) e1 (I.base.free b o e n hx)
 ·obtain⟨o',e1⟩:=I.base.there b o e hx;exact there b o' (neC b o e hx) e1
 ·obtain⟨m1,e1⟩:=I.base.tbls b ps e;obtain⟨m2,e2⟩:=tbls b _ e1;exact⟨m1++m2,by rw[e2,Array.append_assoc]⟩
 ·obtain⟨m,hn,hl⟩:=I.loc;refine⟨m,ns m hn,λi x v e1 e2 e3=>?_⟩;obtain⟨u,r,l⟩:=hl i x v e1 e2 e3;refine⟨u,r,?_⟩;rcases l with l|⟨k,c,e,z⟩
  ·exact .inl l
  ·exact .inr ⟨k,c,e,cellK x c e _ z⟩
 ·obtain⟨v,z⟩:=I.cell x c e;exact⟨v,cellK x c e v z⟩
 ·obtain⟨m,⟨o,_,_,ho,_⟩,_⟩:=I.loc;exact free _ o (λz=>(hch _ z).2.1 rfl) ho I.free
 ·obtain⟨v,o,ho,hd⟩:=I.cell x c e;exact free c o (λz=>(hch c z).2.2.1 x c e rfl) ho (I.freeC x c e)
 ·obtain⟨e,n,ne,nf,d⟩:=I.pin p hp;have nch:p.1∉ch:=λz=>(hch p.1 z).2.2.2 p hp rfl;exact⟨keep p.1 p.2 ne nf nch e n,free p.1 p.2 nch e n,ne,nf,d⟩
theorem dB.un{t':Nat}(I:dB X pins σ H s)(u:Un X.fs [] H H' s.heap h')(hok:i9 X.prog X.w H' h')(ht:s.toks≤t':=by first|exact aB _|exact aQ _|assumption|exact aM _ _):dB X pins σ H' {s with heap:=h',toks:=t'}:=by
 obtain⟨m,⟨o,es,ep,ho,r⟩,_⟩:=id I.loc;obtain⟨sl,hL⟩:=u.any ho I.free (by simp);exact I.step (g':=s.gens) (d':=s.drawn) (ch:=[]) (λ_ z=>nomatch z) (λb o _ hb _ e n=>u.keep b o e n hb (by simp)) (λb o _ hb _ e n=>u.slot b o e n hb (by simp)) (λb o _ e n=>u.free b o e n (by simp)) (λb o _ e=>u.there b o e (by simp)) u.tups u.frzs u.tbls (λm' hm=>by
  obtain⟨o',es',ep',ho',r'⟩:=hm;rw[ho]at ho';cases ho';exact⟨_,es',ep',hL,r'⟩) hok I.bare ht
theorem dB.call{g':Array GenState}{t':Nat}{d':Drawn}{ch:List Addr}(I:dB X pins σ H s)(u:Un (lN X.stack) ch H H' s.heap h')(hok:i9 X.prog X.w H' h')(hg:AllBare g')
  (hch:∀b∈ch,(b∈X.ex∨X.s₀.heap.objs.size≤b)∧b≠X.env.locals∧(∀x c,X.env.cells.lookup x=some c→c≠b)∧∀p∈X.pn++pins,p.1≠b) (ht:s.toks≤t'):
  dB X pins σ H' {s with heap:=h',gens:=g',drawn:=d',toks:=t'}:=by
 obtain⟨m,⟨o,es,ep,ho,r⟩,_⟩:=id I.loc;obtain⟨sl,hL⟩:=u.any ho I.free λz=>(hch _ z).2.1 rfl;exact I.step (ch:=ch) hch (λb o hL hb hc e n=>u.keep b o e n (λz=>(aF.mp (I.stkSub b z)).elim hL hb) hc) (λb o _ _ hc e n=>u.any e n hc) (λb o hc e n=>u.free b o e n hc) (λb o hc e=>u.there b o e hc) u.tups u.frzs u.tbls (λm' hm=>by
  obtain⟨o',es',ep',ho',r'⟩:=hm;rw[ho]at ho';cases ho';exact⟨_,es',ep',hL,r'⟩) hok hg ht
theorem dB.turned{t':Nat}{it:Addr}(I:dB X pins σ H s)(k:∀b o,b≠it→s.heap.get? b=some o→h'.get? b=some o)(hn:H it=none)(hL:it≠X.env.locals)
  (h1:it∈X.ex∨X.s₀.heap.objs.size≤it) (h2:∀x c,X.env.cells.lookup x=some c→c≠it) (h3:∀p∈X.pn++pins,p.1≠it) (ht:s.toks≤t':=by first|exact aB _|exact aQ _|assumption|exact aM _ _):dB X pins σ H {s with heap:=h',toks:=t'}:=by
 have nit:∀b u,H b=some u→b≠it:=λb u e z=>by rw[z,hn]at e;cases e
 refine I.step (g':=s.gens) (d':=s.drawn) (ch:=[it]) (λb hb=>?_) (λb o _ _ hc e _=>k b o (λz=>hc (by simp[z])) e) (λb o _ _ hc e _=>⟨o.slots,k b o (λz=>hc (by simp[z])) e⟩) (λ_ _ _ _ n=>n)
  (λb o hc e=>⟨o,k b o (λz=>hc (by simp[z])) e⟩) (λ_ _ e=>e) (λ_ _ _ e=>e) (λb ps e=>⟨#[],by rw[e];simp⟩) (λm hm=>?_) (λb u e=>?_) I.bare ht
 ·have e:b=it:=by simpa using hb
  subst e;exact⟨h1,hL,h2,h3⟩
 ·obtain⟨o,es,ep,ho,r⟩:=hm;exact⟨o,es,ep,k _ o (ai hL) ho,r⟩
 ·refine(I.hok b u e).stay (λc v hc q=>k c v ?_ q) (λ_ q=>q) λ_ _ q=>q;rcases hc with z|z
  ·rw[z];exact nit b u e
  ·exact nit c _ z
theorem dB.tok(I:dB X pins σ H s)(t':Nat)(ht:s.toks≤t':=by first|exact aB _|exact aQ _|assumption|exact aM _ _|exact aM _ 2):dB X pins σ H {s with toks:=t'}:=I.un (h':=s.heap) (t':=t') Un.refl I.hok ht
theorem dB.kept(I:dB X pins σ H s)(k:∀b u,s.heap.get? b=some u→h'.get? b=some u)(ht:s.toks≤t':=by first|exact aB _|exact aQ _|assumption|exact aM _ _):dB X pins σ H {s with heap:=h',toks:=t'}:=I.un (Un.kept k) (I.hok.kept k) ht
theorem dB.laid(I:dB X pins σ H s)(k:∀b u,s.heap.get? b=some u→h'.get? b=some u)(hp:s.heap.objs.size≤a)(new:eP X.prog X.w (dc H a o) h' a o)(ht:s.toks≤t':=by first|exact aB _|exact aQ _|assumption|exact aM _ _|exact aM _ 2):
  dB X pins σ (dc H a o) {s with heap:=h',toks:=t'}:=I.un (Un.laid k hp (I.hok.fresh hp)) (I.hok.laid k hp new) ht
theorem dB.write(I:dB X pins σ H s)(mu:BG (H x))(he:e=x∨H e=some (.own x))(k:∀b u,b≠e→s.heap.get? b=some u→h'.get? b=some u)(heo:∃u,h'.get? e=some u)
  (new:eP X.prog X.w (dc H x o) h' x o) (ht:s.toks≤t':=by first|exact aB _|exact aQ _|assumption|exact aM _ _):dB X pins σ (dc H x o) {s with heap:=h',toks:=t'}:=I.un (Un.write mu he k heo) (I.hok.write mu he k heo new) ht
theorem dB.pins_of(I:dB X pins σ H s)(h:∀p∈pins',s.heap.get? p.1=some p.2∧H p.1=none∧p.1≠X.env.locals∧p.1∉X.fs∧∀v,p.2.data≠.cell v):dB X pins' σ H s:=
 ⟨I.ok,I.os,I.bare,I.base,I.loc,I.cell,I.free,I.freeC,λp hp=>(aS.mp hp).elim (λz=>I.pin p (aj _ z)) (h p),I.hok,I.len,I.tk⟩
theorem nW{N:List Str}(hN:N.Nodup){i j:Nat}{x:Str}(a:N[i]?=some x)(b:N[j]?=some x):i=j:=by obtain⟨h1,e1⟩:=bL.mp a;obtain⟨h2,e2⟩:=bL.mp b;exact(List.getElem_inj hN).mp (e1.trans e2.symm)
theorem qz{M:Model}{A:Around}{E:Value→Shared→Prop}{i:Nat}{x:Str}{v:V}{u:Value}{Q:Unit→Shared→Prop}(I:dB X pins σ H s)(hN:X.N.Nodup)(hi:X.N[i]?=some x)(hx:uf X.env.scope x)(r:df v u)
  (h:∀s',dB X pins (σ.set i (some v)) H s'→(∃a,Heap.SameBut a s.heap s'.heap∧(a=X.env.locals∨X.env.cells.lookup x=some a))→Q () s') (hf:X.fn x=true∨X.env.scope.names.lookup x=some .local:=by first|exact .inl rfl|exact .inr rfl|assumption):wpAny M A (storeName X.env x u) Q E s:=by
 obtain⟨m,hn,hl⟩:=id I.loc;have hcls:(X.env.scope.kind==.class||(X.env.scope.kind==.module&&X.env.locals != X.env.globals))=false:=by rw[I.ok.kind];rfl
 have hiσ:i<σ.length:=by rw[I.len];exact(bL.mp hi).1
 have cne:=I.cne;have tracked:∀{a:Addr}{h':Heap},(∃o,s.heap.get? a=some o∧H a=none)→Heap.SameBut a s.heap h'→i9 X.prog X.w H h':=λ{a h'} ha hs b ob e=>by
  obtain⟨_,_,hfree⟩:=ha;refine(I.hok b ob e).stay (λc w' hc q=>(hs.2 c ?_).trans q) (λ_ q=>q) λ_ _ q=>q;rintro rfl;rcases hc with rfl|hc
  ·rw[hfree]at e;cases e
  ·rw[hfree]at hc;cases hc
 rcases hx with hk|hk
 ·refine wpAny_storeName_local hk hn (λh' hn' hs=>?_) hcls;obtain⟨oL,_,_,hoL,_⟩:=id hn;refine h _ ⟨I.ok,I.os,I.bare,⟨λb o e n hb hx=>?_,λb o e n hb hx=>?_,I.base.free,λb o e hx=>?_,I.base.tups,I.base.frzs,I.base.tbls⟩,⟨_,hn',λj y v' e1 e2 e3=>?_⟩,λy c e=>?_,I.free,I.freeC,λp hp=>?_,tracked ⟨oL,hoL,I.free⟩ hs,by simpa using I.len,aE I.tk (aQ _)⟩ ⟨_,hs,.inl rfl⟩
  ·exact(hs.2 b (aI (aH (Heap.lt_size e) I.ok.above))).trans (I.base.keep b o e n hb hx)
  ·obtain⟨sl,e1⟩:=I.base.slot b o e n hb hx;exact⟨sl,(hs.2 b (aI (aH (Heap.lt_size e) I.ok.above))).trans e1⟩
  ·obtain⟨o',e1⟩:=I.base.there b o e hx;exact⟨o',(hs.2 b (aI (aH (Heap.lt_size e) I.ok.above))).trans e1⟩
  ·by_cases hj:j=i
   ·subst hj;rw[hi]at e1;cases e1;rw[cO hiσ]at e2;cases e2;exact⟨u,r,.inl ⟨hk,by simp⟩⟩
   ·rw[cP (ai hj)]at e2;obtain⟨u',r',q⟩:=hl j y v' e1 e2 e3;refine⟨u',r',?_⟩;rcases q with⟨k,e⟩|⟨k,c,e,z⟩
    ·refine .inl ⟨k,?_⟩;have:y≠x:=λe=>hj (nW hN e1 (e▸hi));simp[this,e]
    ·exact .inr ⟨k,c,e,z.sameBut hs (cne y c e)⟩
  ·obtain⟨w',z⟩:=I.cell y c e;exact⟨w',z.sameBut hs (cne y c e)⟩
  ·obtain⟨e,n,ne,nf,d⟩:=I.pin p hp;exact⟨(hs.2 p.1 ne).trans e,n,ne,nf,d⟩
 ·have hfn:X.fn x=true:=by
   rcases hf with z|z
   ·exact z
   ·rw[z]at hk;cases hk
  obtain⟨c,hc⟩:=I.ok.has x (.inl hk);obtain⟨w',z⟩:=I.cell x c hc;refine wpAny_storeName_cell I.ok.kind hk hc z (λh' hc' hs=>?_);obtain⟨oc,hoc,hocd⟩:=id z;refine h {s with heap:=h'} ⟨I.ok,I.os,I.bare,⟨λb o e n hb hx=>?_,λb o e n hb hx=>?_,I.base.free,λb o e hx=>?_,I.base.tups,I.base.frzs,I.base.tbls⟩,⟨m,hn.sameBut hs (ai (cne x c hc)),λj y v' e1 e2 e3=>?_⟩,λy c' e=>?_,I.free,I.freeC,λp hp=>?_,tracked ⟨oc,hoc,I.freeC x c hc⟩ hs,by simpa using I.len,I.tk⟩ ⟨c,hs,.inr hc⟩
  ·exact(hs.2 b (aI (aH (Heap.lt_size e) (I.ok.cab x c hfn hc)))).trans (I.base.keep b o e n hb hx)
  ·obtain⟨sl,e1⟩:=I.base.slot b o e n hb hx;exact⟨sl,(hs.2 b (aI (aH (Heap.lt_size e) (I.ok.cab x c hfn hc)))).trans e1⟩
  ·obtain⟨o',e1⟩:=I.base.there b o e hx;exact⟨o',(hs.2 b (aI (aH (Heap.lt_size e) (I.ok.cab x c hfn hc)))).trans e1⟩
  ·by_cases hj:j=i
   ·subst hj;rw[hi]at e1;cases e1;rw[cO hiσ]at e2;cases e2;exact⟨u,r,.inr ⟨.inl hk,c,hc,hc'⟩⟩
   ·rw[cP (ai hj)]at e2;obtain⟨u',r',q⟩:=hl j y v' e1 e2 e3;refine⟨u',r',?_⟩;rcases q with q|⟨k,c',e,z'⟩
    ·exact .inl q
    ·refine .inr ⟨k,c',e,z'.sameBut hs ?_⟩;rintro rfl;exact hj (nW hN e1 (I.ok.inj _ _ _ e hc▸hi))
  ·by_cases hcc:c'=c
   ·subst hcc;exact⟨_,hc'⟩
   ·obtain⟨w2,z2⟩:=I.cell y c' e;exact⟨w2,z2.sameBut hs hcc⟩
  ·obtain⟨e,n,ne,nf,d⟩:=I.pin p hp;refine⟨(hs.2 p.1 ?_).trans e,n,ne,nf,d⟩;intro q;rw[q,hoc]at e;have q':oc=p.2:=Option.some.inj e;exact d w' (by rw[←q'];exact hocd)
theorem ia(I:dB X pins σ H s)(hN:X.N.Nodup)(hi:X.N[i]?=some x)(hx:uf X.env.scope x)(r:df v u)
  (h:∀s',dB X pins (σ.set i (some v)) H s'→Q () s') (hf:X.fn x=true∨X.env.scope.names.lookup x=some .local:=by first|exact .inl rfl|exact .inr rfl|assumption):wpAny M A (storeName X.env x u) Q E s:=
 qz I hN hi hx r (λs' I' _=>h s' I') hf
theorem dB.call'(I:dB X pins σ H s)(ho:s'.os=s.os)(u:Un (lN X.stack) ch H H' s.heap s'.heap)(hok:i9 X.prog X.w H' s'.heap)(hg:AllBare s'.gens)
  (hch:∀b∈ch,(b∈X.ex∨X.s₀.heap.objs.size≤b)∧b≠X.env.locals∧(∀x c,X.env.cells.lookup x=some c→c≠b)∧∀p∈X.pn++pins,p.1≠b) (ht:s.toks≤s'.toks):dB X pins σ H' s':=by
 obtain⟨h',g',d',t',o'⟩:=s';have e:o'=s.os:=ho;subst e;exact I.call (g':=g') (t':=t') (d':=d') u hok hg hch ht
end
abbrev XK:=Value→Option Addr→Hp→Prop
abbrev St:=List (Option V)
abbrev VK:=V→Hp→Prop
abbrev TE:=St→Hp→VK→Prop
abbrev TT:=St→Hp→(Bool→Hp→Prop)→Prop
abbrev TA:=St→Hp→(List V→Hp→Prop)→Prop
structure fL where
 nx:St→Hp→Prop
 rt:VK
 bk:St→Hp→Prop:=λ_ _=>False
 ct:St→Hp→Prop:=λ_ _=>False
abbrev TS:=fL→St→Hp→Prop
def fL.thn(D:fL)(u:TS):fL:={D with nx:=u D}
def fL.lp(D:fL)(N:St→Hp→Prop):fL:=⟨N,D.rt,D.nx,N⟩
def EP(X:Cx)(pins:List (Addr×Obj))(σ:St)(Q:VK)(u:Value)(s':Shared):Prop:=∃v H',dB X pins σ H' s'∧df v u∧Q v H'
def TP(X:Cx)(pins:List (Addr×Obj))(σ:St)(Q:Bool→Hp→Prop)(b:Bool)(s':Shared):Prop:=∃H',dB X pins σ H' s'∧Q b H'
def AP(X:Cx)(pins:List (Addr×Obj))(σ:St)(Q:List V→Hp→Prop)(us:List Value)(s':Shared):Prop:=∃vs H',dB X pins σ H' s'∧dS vs us∧Q vs H'
def SP(X:Cx)(pins:List (Addr×Obj))(D:fL)(f:Flow)(s':Shared):Prop:=
 match f with
 | .next=>∃σ' H',dB X pins σ' H' s'∧D.nx σ' H'
 | .brk=>∃σ' H',dB X pins σ' H' s'∧D.bk σ' H'
 | .cont=>∃σ' H',dB X pins σ' H' s'∧D.ct σ' H'
 | .ret u=>∃v σ' H',dB X pins σ' H' s'∧df v u∧D.rt v H'
def PE(X:Cx)(e:Expr)(t:TE):Prop:=
 ∀(pins:List (Addr×Obj))(s:Shared)(σ:St)(H:Hp)(Q:VK),dB X pins σ H s→t σ H Q→wpAny (model X.prog X.w) X.A (eval e X.env) (EP X pins σ Q) X.xe s
def PT(X:Cx)(e:Expr)(t:TT):Prop:=
 ∀(pins:List (Addr×Obj))(s:Shared)(σ:St)(H:Hp)(Q:Bool→Hp→Prop),dB X pins σ H s→t σ H Q→wpAny (model X.prog X.w) X.A (isTrue e X.env (eval e X.env)) (TP X pins σ Q) X.xe s
def PW(X:Cx)(e:Expr)(t:TT):Prop:=
 ∀(whole:Sem Value)(pins:List (Addr×Obj))(s:Shared)(σ:St)(H:Hp)(Q:Bool→Hp→Prop),dB X pins σ H s→t σ H Q→wpAny (model X.prog X.w) X.A (isTrue e X.env whole) (TP X pins σ Q) X.xe s
theorem PW.pt(h:PW X e t):PT X e t:=h _
def PA(X:Cx)(es:List Expr)(t:TA):Prop:=
 ∀(pos:Pos)(pins:List (Addr×Obj))(s:Shared)(σ:St)(H:Hp)(Q:List V→Hp→Prop),dB X pins σ H s→t σ H Q→wpAny (model X.prog X.w) X.A (spliced (backTo pos (starEach es X.env))) (AP X pins σ Q) X.xe s
def PS(X:Cx)(st:Stmt)(t:TS):Prop:=
 ∀(pins:List (Addr×Obj))(s:Shared)(σ:St)(H:Hp)(D:fL),dB X pins σ H s→t D σ H→wpAny (model X.prog X.w) X.A (exec st X.env) (SP X pins D) X.xe s
def kU(X:Cx)(st:List Stmt)(t:TS):Prop:=
 ∀(pins:List (Addr×Obj))(s:Shared)(σ:St)(H:Hp)(D:fL),dB X pins σ H s→t D σ H→wpAny (model X.prog X.w) X.A (execs st X.env) (SP X pins D) X.xe s
theorem thn(h:wpAny M A t Q E s)(hQ:∀a s,Q a s→Q' a s):wpAny M A t Q' E s:=wpAny_mono h hQ λ_ _ x=>x
section
variable {X:Cx}
def kR(H:Hp)(o:HO)(Q:VK):Prop:=∀p,H p=none→Q (.ref p) (dc H p o)
@[reducible] def nmQ:Option (Option V)→(V→Prop)→Prop
 | some (some v),k=>k v
 | _,_=>False
theorem nmQ.ex(h:nmQ o k):∃v,o=some (some v)∧k v:=by
 match o,h with
 | some (some v),h=>exact⟨v,rfl,h⟩
@[reducible] def onI:V→(Int→Prop)→Prop
 | .int c,k=>k c
 | _,_=>False
theorem onI.ex(h:onI x k):∃c,x=.int c∧k c:=by cases x<;>first|exact⟨_,rfl,h⟩|exact h.elim
@[reducible] def onR:V→(Addr→Prop)→Prop
 | .ref c,k=>k c
 | _,_=>False
theorem onR.ex(h:onR x k):∃c,x=.ref c∧k c:=by cases x<;>first|exact⟨_,rfl,h⟩|exact h.elim
@[reducible] def onS:V→(Str→Prop)→Prop
 | .str c,k=>k c
 | _,_=>False
theorem onS.ex(h:onS x k):∃c,x=.str c∧k c:=by cases x<;>first|exact⟨_,rfl,h⟩|exact h.elim
@[reducible] def onY:V→(String→Prop)→Prop
 | .ty c,k=>k c
 | _,_=>False
theorem onY.ex(h:onY x k):∃c,x=.ty c∧k c:=by cases x<;>first|exact⟨_,rfl,h⟩|exact h.elim
@[reducible] def on1:List V→(V→Prop)→Prop
 | [x],k=>k x
 | _,_=>False
theorem on1.ex:∀{vs:List V},on1 vs k→∃x,vs=[x]∧k x
 | [_],h=>⟨_,rfl,h⟩
 | [],h=>h.elim
 | _::_::_,h=>h.elim
@[reducible] def on0:List V→Prop→Prop
 | [],k=>k
 | _,_=>False
theorem on0.ex:∀{vs:List V},on0 vs k→vs=[]∧k
 | [],h=>⟨rfl,h⟩
 | _::_,h=>h.elim
@[reducible] def onC{α:Type}:List α→(α→List α→Prop)→Prop
 | x::r,k=>k x r
 | _,_=>False
theorem onC.ex{α:Type}{k:α→List α→Prop}:∀{vs:List α},onC vs k→∃x r,vs=x::r∧k x r
 | _::_,h=>⟨_,_,rfl,h⟩
 | [],h=>h.elim
inductive m8{α:Type}(S:α→Prop)(k:α→Prop):Prop
 | mk{a:α}(h:S a)(q:k a):m8 S k
def cq(i:Nat):TE:=λσ H Q=>nmQ σ[i]? λv=>Q v H
def tC(v:V):TE:=λ_ H Q=>Q v H
theorem tS(hN:X.N[i]?=some x)(hv:Be X.env.scope x)(hd:(x==("__debug__":Str))=false:=by decide)(hcd:(x==("__classdict__":Str))=false:=by decide):PE X (.Name x pos) (cq i):=by
 intro pins s σ H Q I h;obtain⟨v,e,h⟩:=nmQ.ex h;obtain⟨m,hn,hl⟩:=I.loc;obtain⟨u,r,l⟩:=hl i x v hN e hv;have fC:EP X pins σ Q u s:=⟨v,H,I,r,h⟩;rcases l with⟨hk,hm⟩|⟨hk,c,hc,hcell⟩
 ·exact wpAny_Name (wpAny_loadName_local I.ok.kind hk hn hm fC) hd
 ·rcases hk with hk|hk
  ·exact wpAny_Name (wpAny_loadName_cell I.ok.kind hk hc hcell fC) hd
  ·exact wpAny_Name (wpAny_loadName_free I.ok.kind hk hc hcell fC hcd) hd
theorem cx:PE X (.Constant (.int i) j pos) (tC (.int i)):=λ_ _ _ H _ I h=>wpAny_Constant_int ⟨.int i,H,I.tok _,⟨_,rfl⟩,h⟩
theorem ii:PE X (.Constant (.bool b) j pos) (tC (.bl b)):=λ_ _ _ H _ I h=>Constant_bool ⟨.bl b,H,I,rfl,h⟩
theorem yz:PE X (.Constant .none j pos) (tC .non):=λ_ _ _ H _ I h=>Constant_none ⟨.non,H,I,rfl,h⟩
theorem cr:PE X (.Constant (.str x) j pos) (tC (.str x)):=λ_ _ _ H _ I h=>Calls.Constant_str ⟨.str x,H,I.tok _,⟨_,rfl⟩,h⟩
def Gl(X:Cx)(x:Str):Prop:=X.env.kindOf x=some .globalImplicit
theorem gm(I:dB X pins σ H s)(hg:Gl X x)(hm:X.mg x=some u)(h:Q u s)
  (hd:(x==("__debug__":Str))=false:=by decide):wpAny (model X.prog X.w) X.A (eval (.Name x pos) X.env) Q E s:=
 Calls.Name_function_global I.ok.kind hg (Calls.loadGlobal_global (by rw[I.ok.glob];exact I.mod.glob.keeps I.bk) hm h) hd
theorem jS(I:dB X pins σ H s)(hg:Gl X x)(hm:X.mg x=none)(hv:bootBuiltins x=some u)(h:Q u s)
  (hn:x≠"__name__":=by decide) (hd:(x==("__debug__":Str))=false:=by decide):wpAny (model X.prog X.w) X.A (eval (.Name x pos) X.env) Q E s:=by
 obtain⟨mb,h1,h2⟩:=I.mod.blt;exact Calls.Name_function_global I.ok.kind hg (Calls.loadGlobal_builtin (by rw[I.ok.glob];exact I.mod.glob.keeps I.bk) hm (by rw[I.ok.blt];exact h1.keeps I.bk) ((h2 x hn).trans hv) h) hd
theorem i3(hg:Gl X x)(hm:X.mg x=some u)(r:df v u)(hd:(x==("__debug__":Str))=false:=by decide):PE X (.Name x pos) (tC v):=
 λ_ _ _ H _ I h=>gm I hg hm ⟨v,H,I,r,h⟩ hd
theorem iO(hg:Gl X x)(hm:X.mg x=none)(hv:bootBuiltins x=some u)(r:df v u)(hn:x≠"__name__":=by decide)(hd:(x==("__debug__":Str))=false:=by decide):PE X (.Name x pos) (tC v):=
 λ_ _ _ H _ I h=>jS I hg hm hv ⟨v,H,I,r,h⟩ hn hd
variable {a b:Expr}{ta tb:TE}{pos:Pos}
def tB(t:TE):TT:=λσ H Q=>t σ H λx H1=>∃c,x=.bl c∧Q c H1
theorem fH(h:PE X e t)(he:∀whole,isTrue e X.env whole=(do let v ← whole;standAt e.pos;holding [v] (truthy v)):=by intro _;rfl):PT X e (tB t):=by intro pins s σ H Q I hw;refine isTrue_plain (thn (h pins s σ H _ I hw) λv s1 ⟨x,H1,I1,r1,q1⟩=>?_) (he _);obtain⟨d,rfl,q⟩:=q1;cases r1;exact wpAny_truthy_bool ⟨H1,I1,q⟩
variable {tA tB':TT}{rest:List Expr}
def jt(t u:TT):TT:=λσ H Q=>t σ H λc H1=>if c=true then u σ H1 Q else Q false H1
def AL(t u:TT):TT:=λσ H Q=>t σ H λc H1=>if c=true then Q true H1 else u σ H1 Q
def mM(t:TT):TT:=λσ H Q=>t σ H λc H1=>Q (!c) H1
theorem gF(ha:PT X a tA):PW X (.BoolOp .And [a] pos) tA:=by
 intro wh pins s σ H Q I h;refine isTrue_and (thn (ha pins s σ H Q I h) λc s1 e=>?_);cases c with
 | true=>exact isTrue_and_nil e
 | false=>exact e
theorem om(ha:PT X a tA):PW X (.BoolOp .Or [a] pos) tA:=by
 intro wh pins s σ H Q I h;refine isTrue_or (thn (ha pins s σ H Q I h) λc s1 e=>?_);cases c with
 | false=>exact isTrue_or_nil e
 | true=>exact e
theorem gu(ha:PT X a tA)(hb:PW X (.BoolOp .And (b::rest) pos) tB'):PW X (.BoolOp .And (a::b::rest) pos) (jt tA tB'):=by
 intro wh pins s σ H Q I h;refine isTrue_and (thn (ha pins s σ H _ I h) λc s1 ⟨H1,I1,q1⟩=>?_);cases c with
 | true=>exact hb wh pins s1 σ H1 Q I1 q1
 | false=>exact⟨H1,I1,q1⟩
theorem qD(ha:PT X a tA)(hb:PW X (.BoolOp .Or (b::rest) pos) tB'):PW X (.BoolOp .Or (a::b::rest) pos) (AL tA tB'):=by
 intro wh pins s σ H Q I h;refine isTrue_or (thn (ha pins s σ H _ I h) λc s1 ⟨H1,I1,q1⟩=>?_);cases c with
 | true=>exact⟨H1,I1,q1⟩
 | false=>exact hb wh pins s1 σ H1 Q I1 q1
theorem ie(ha:PT X a tA):PT X (.UnaryOp .Not a pos) (mM tA):=by intro pins s σ H Q I h;exact isTrue_not (ha pins s σ H (λc H1=>Q (!c) H1) I h)
def lW(ta tb:TE):TE:=λσ H Q=>ta σ H λx H1=>∃c,x=.bl c∧if c=true then tb σ H1 Q else Q (.bl false) H1
def sf(ta:TE):TE:=λσ H Q=>ta σ H λx H1=>∃c,x=.bl c∧Q (.bl (!c)) H1
theorem mf(h:PE X a t):PE X (.BoolOp op [a] pos) t:=λpins s σ H Q I hw=>BoolOp_one (h pins s σ H Q I hw)
theorem k8(ha:PE X a ta)(hb:PE X (.BoolOp .And (b::rest) pos) tb):PE X (.BoolOp .And (a::b::rest) pos) (lW ta tb):=by
 intro pins s σ H Q I h;refine BoolOp_and (thn (ha pins s σ H _ I h) λv s1 ⟨x,H1,I1,r1,q1⟩=>?_);obtain⟨c,rfl,q1⟩:=q1;cases r1;refine wpAny_truthy_bool ?_;cases c with
 | true=>exact hb pins s1 σ H1 Q I1 q1
 | false=>exact⟨.bl false,H1,I1,rfl,q1⟩
theorem tT(ha:PE X a ta):PE X (.UnaryOp .Not a pos) (sf ta):=by intro pins s σ H Q I h;refine UnaryOp_ (thn (ha pins s σ H _ I h) λv s1 ⟨x,H1,I1,r1,q1⟩=>?_);obtain⟨c,rfl,q1⟩:=q1;cases r1;exact not_of (wpAny_truthy_bool ⟨.bl (!c),H1,I1,rfl,q1⟩)
def BS(t:TT)(ta tb:TE):TE:=λσ H Q=>t σ H λc H1=>if c=true then ta σ H1 Q else tb σ H1 Q
theorem tV(hc:PT X c tA)(ha:PE X a ta)(hb:PE X b tb):PE X (.IfExp c a b pos) (BS tA ta tb):=by
 intro pins s σ H Q I h;refine wpAny_IfExp (thn (hc pins s σ H _ I h) λd s1 ⟨H1,I1,q1⟩=>?_);cases d with
 | true=>exact ha pins s1 σ H1 Q I1 q1
 | false=>exact hb pins s1 σ H1 Q I1 q1
end
def dv(K:aA)(H:Hp)(a:Addr)(xs:List V):Prop:=
 Rd H a (.lst xs)∨
  ∃(o:Obj)(dU:Array Value)(n:Nat),K.lookup a=some o∧o.cls=.type "list"∧o.dict=none∧o.data=.seq dU n∧dU.size≤sizeLine∧dS xs dU.toList
def eM(K:aA)(H:Hp)(a:Addr)(xs:List V):Prop:=
 Rd H a (.tup xs)∨
  ∃(o:Obj)(dU:Array Value)(n:Nat),K.lookup a=some o∧o.cls=.type "tuple"∧o.data=.seq dU n∧dU.size≤sizeLine∧dS xs dU.toList
def Cc:Value→Option V
 | .none=>some .non
 | .bool b=>some (.bl b)
 | .int i _=>some (.int i)
 | .str x _=>some (.str x)
 | .bytes b _=>some (.byt b)
 | .float b _=>some (.flt b)
 | .ref a=>some (.ref a)
 | .type n=>some (.ty n)
 | _=>none
theorem df.abs(r:df x u):Cc u=some x:=by
 cases x with
 | non=>cases r;rfl
 | bl _=>cases r;rfl
 | int _=>obtain⟨t,rfl⟩:=r;rfl
 | str _=>obtain⟨t,rfl⟩:=r;rfl
 | byt _=>obtain⟨t,rfl⟩:=r;rfl
 | flt _=>obtain⟨t,rfl⟩:=r;rfl
 | ref _=>cases r;rfl
 | ty _=>cases r;rfl
theorem df.inj(r:df x u)(q:df y u):x=y:=Option.some.inj (r.abs.symm.trans q.abs)
theorem dS.inj:∀{xs ys:List V}{us:List Value},dS xs us→dS ys us→xs=ys
 | _,_,_,.nil,.nil=>rfl
 | _,_,_,.cons r t,.cons r' t'=>by rw[r.inj r',dS.inj t t']
section
variable {X:Cx}{pins:List (Addr×Obj)}{σ:St}{H:Hp}{s:Shared}{a:Addr}{xs ys:List V}
theorem dv.of{K:aA}(h:H a=some (.lst xs)):dv K H a xs:=.inl (.inl h)
theorem eM.of{K:aA}(h:H a=some (.tup xs)):eM K H a xs:=.inl (.inl h)
theorem dB.list(I:dB X pins σ H s)(h:dv X.K H a xs):∃dU:List Value,dS xs dU∧PlainL s.heap a dU.toArray∧xs.length≤sizeLine:=by
 rcases h with h|⟨o,dU,n,hk,hc,hd,hs,hz,r⟩
 ·obtain⟨z,dU,n,r,e⟩:=h.ok I.hok;exact⟨dU,r,⟨_,n,e,rfl,rfl,rfl⟩,z⟩
 ·refine⟨dU.toList,r,⟨o,n,I.kIn a o hk,hc,hd,by simpa using hs⟩,?_⟩;have e:=r.length;simp only[bo]at e;lia
theorem dB.tuple(I:dB X pins σ H s)(h:eM X.K H a xs):∃dU:List Value,dS xs dU∧IsTup s.heap a dU.toArray∧xs.length≤sizeLine:=by
 rcases h with h|⟨o,dU,n,hk,hc,hs,hz,r⟩
 ·obtain⟨z,dU,r,p⟩:=h.ok I.hok;exact⟨dU,r,p,z⟩
 ·refine⟨dU.toList,r,⟨o,I.kIn a o hk,hc,n,by simpa using hs⟩,?_⟩;have e:=r.length;simp only[bo]at e;lia
theorem dB.list_inj(I:dB X pins σ H s)(h:dv X.K H a xs)(h':dv X.K H a ys):xs=ys:=by
 obtain⟨dU,r,⟨o,n,e,_,_,d⟩,_⟩:=I.list h;obtain⟨its',r',⟨o',n',e',_,_,d'⟩,_⟩:=I.list h';rw[e]at e';cases e';rw[d]at d';injection d' with d1 _;have:dU=its':=by simpa using congrArg Array.toList d1
 subst this;exact r.inj r'
end
abbrev Cx.wish(X:Cx)(E:Value→Shared→Prop):Cx:={X with xe:=E}
abbrev Cx.nox(X:Cx):Cx:=X.wish λ_ _=>False
theorem Cx.Ok.wish{X:Cx}(ok:X.Ok)(E:Value→Shared→Prop):(X.wish E).Ok:=
 ⟨ok.mod,ok.kind,ok.glob,ok.blt,ok.above,ok.inj,ok.has,ok.cab,ok.hd,ok.frames,ok.stk,ok.exf,ok.bs,ok.bsz,ok.noex,ok.exfs,ok.funs,ok.frf⟩
theorem Cx.Ok.unwish{X:Cx}{E:Value→Shared→Prop}(ok:(X.wish E).Ok):X.Ok:=
 ⟨ok.mod,ok.kind,ok.glob,ok.blt,ok.above,ok.inj,ok.has,ok.cab,ok.hd,ok.frames,ok.stk,ok.exf,ok.bs,ok.bsz,ok.noex,ok.exfs,ok.funs,ok.frf⟩
section
variable {X:Cx}{pins:List (Addr×Obj)}{σ:St}{H:Hp}{s:Shared}{E:Value→Shared→Prop}
theorem dB.wish(I:dB X pins σ H s)(E:Value→Shared→Prop):dB (X.wish E) pins σ H s:=⟨I.ok.wish E,I.os,I.bare,I.base,I.loc,I.cell,I.free,I.freeC,I.pin,I.hok,I.len,I.tk⟩
theorem dB.unwish(I:dB (X.wish E) pins σ H s):dB X pins σ H s:=⟨I.ok.unwish,I.os,I.bare,I.base,I.loc,I.cell,I.free,I.freeC,I.pin,I.hok,I.len,I.tk⟩
theorem SP.unwish(h:SP (X.wish E) pins D f s'):SP X pins D f s':=by
 cases f with
 | next=>obtain⟨σ',H',I,q⟩:=h;exact⟨σ',H',I.unwish,q⟩
 | brk=>obtain⟨σ',H',I,q⟩:=h;exact⟨σ',H',I.unwish,q⟩
 | cont=>obtain⟨σ',H',I,q⟩:=h;exact⟨σ',H',I.unwish,q⟩
 | ret u=>obtain⟨v,σ',H',I,r,q⟩:=h;exact⟨v,σ',H',I.unwish,r,q⟩
theorem kU.nox{st:List Stmt}{t:TS}(h:kU X.nox st t):kU X st t:=λpins s σ H D I hw=>
 wpAny_mono (h pins s σ H D (I.wish _) hw) (λ_ _ q=>q.unwish) λ_ _ z=>False.elim z
end
section
variable {X:Cx}{st:Stmt}{rest:List Stmt}{t u:TS}{e:Expr}{te:TE}{pos:Pos}
def eS:TS:=λD σ H=>D.nx σ H
def c8(t u:TS):TS:=λD σ H=>t (D.thn u) σ H
theorem dX:kU X [] eS:=λ_ _ σ H _ I h=>wpAny_execs_nil ⟨σ,H,I,h⟩
theorem cu(h1:PS X st t)(h2:kU X rest u):kU X (st::rest) (c8 t u):=by
 intro pins s σ H D I h;refine wpAny_execs_cons (thn (h1 pins s σ H (D.thn u) I h) λf s1 q=>?_);cases f with
 | next=>obtain⟨σ',H',I',q⟩:=q;exact h2 pins s1 σ' H' D I' q
 | ret v=>exact q
 | brk=>exact q
 | cont=>exact q
theorem cw(h1:PS X st t):kU X [st] t:=by
 intro pins s σ H D I h;refine wpAny_execs_cons (thn (h1 pins s σ H D I h) λf s1 q=>?_);cases f with
 | next=>exact wpAny_execs_nil q
 | ret v=>exact q
 | brk=>exact q
 | cont=>exact q
theorem dB.quiet(I:dB X pins σ H s):interactive X.env=false:=by simp[interactive,I.ok.kind]
def dj(te:TE):TS:=λD σ H=>te σ H λ_ H1=>D.nx σ H1
theorem dM(he:PE X e te)(hs:swapsWith e none pos.line X.env=pure false:=by rfl):PS X (.Expr e pos) (dj te):=by intro pins s σ H D I h;exact wpAny_Expr_any (thn (he pins s σ H _ I h) λv s1 ⟨x,H1,I1,r1,q1⟩=>⟨σ,H1,I1,q1⟩) I.quiet hs
def e9(te:TE):TS:=λD σ H=>te σ H D.rt
theorem dY(he:PE X e te):PS X (.Return (some e) pos) (e9 te):=by intro pins s σ H D I h;exact wpAny_Return_some (thn (he pins s σ H _ I h) λv s1 ⟨x,H1,I1,r1,q1⟩=>⟨x,σ,H1,I1,r1,q1⟩)
def dy(c:TT)(t u:TS):TS:=λD σ H=>c σ H λb H1=>if b=true then t D σ H1 else u D σ H1
theorem dP(hc:PT X c tc)(ha:kU X a t)(hb:kU X b u):PS X (.If c a b pos) (dy tc t u):=by
 intro pins s σ H D I h;refine wpAny_If (thn (hc pins s σ H _ I h) λd s1 ⟨H1,I1,q1⟩=>?_);cases d with
 | true=>exact ha pins s1 σ H1 D I1 q1
 | false=>exact hb pins s1 σ H1 D I1 q1
end
abbrev TG:=V→St→Hp→(St→Hp→Prop)→Prop
abbrev BD:=List V→St→Hp→(St→Hp→Prop)→Prop
def PG(X:Cx)(target:Expr)(t:TG):Prop:=
 ∀(pins:List (Addr×Obj))(s:Shared)(σ:St)(H:Hp)(v:V)(u:Value)(Q:St→Hp→Prop),dB X pins σ H s→df v u→t v σ H Q→
  wpAny (model X.prog X.w) X.A (assign target X.env u) (λ_ s'=>∃σ' H',dB X pins σ' H' s'∧Q σ' H') X.xe s
def Bh(X:Cx)(ts:List Expr)(t:BD):Prop:=
 ∀(pins:List (Addr×Obj))(s:Shared)(σ:St)(H:Hp)(vs:List V)(us:List Value)(Q:St→Hp→Prop),dB X pins σ H s→dS vs us→t vs σ H Q→
  wpAny (model X.prog X.w) X.A (assignInOrder ((assignEach ts X.env).map (·.2)) us) (λ_ s'=>∃σ' H',dB X pins σ' H' s'∧Q σ' H') X.xe s
section
variable {X:Cx}{pos:Pos}
def c5(i:Nat):TG:=λv σ H Q=>Q (σ.set i (some v)) H
theorem qK(hN:X.N.Nodup)(hi:X.N[i]?=some x)(hx:uf X.env.scope x)(hf:X.fn x=true∨X.env.scope.names.lookup x=some .local:=by first|exact .inl rfl|exact .inr rfl|assumption):PG X (.Name x pos) (c5 i):=by intro pins s σ H v u Q I r h;exact wpAny_assign_Name (ia I hN hi hx r (λs' I'=>⟨_,H,I',h⟩) hf)
def A5:BD:=λvs σ H Q=>vs=[]∧Q σ H
def uK(t:TG)(u:BD):BD:=λvs σ H Q=>onC vs λv r=>t v σ H λσ' H'=>u r σ' H' Q
theorem vY:Bh X [] A5:=by intro pins s σ H vs us Q I r h;obtain⟨e,h⟩:=h;subst e;cases r;exact assignInOrder_nil ⟨σ,H,I,h⟩
theorem nV(h1:PG X e t)(h2:Bh X es u)
  (hs:(assignEach (e::es) X.env).map (·.2)=assign e X.env::(assignEach es X.env).map (·.2):=by rfl):Bh X (e::es) (uK t u):=by
 intro pins s σ H vs us Q I r h;obtain⟨v,vr,e1,h⟩:=onC.ex h;subst e1;cases r with
 | cons r rr=>rw[hs];refine assignInOrder_cons (thn (h1 pins s σ H _ _ _ I r h) λ_ s1 ⟨σ1,H1,I1,q1⟩=>?_);exact h2 pins s1 σ1 H1 _ _ Q I1 rr q1
def A4(K:aA)(n:Nat)(t:BD):TG:=λv σ H Q=>onR v λa=>m8 (eM K H a) λxs=>xs.length=n∧t xs σ H Q
theorem yy(hc:X.calm=true)(h:Bh X es t)
  (hn:(assignEach es X.env).length=n:=by rfl) (hst:(assignEach es X.env).findIdx? (·.1)=none:=by rfl):PG X (.Tuple es k pos) (A4 X.K n t):=by
 intro pins s σ H v u Q I r hw;obtain⟨a,rfl,hw⟩:=onR.ex hw;obtain @⟨xs,hq,hl,hw⟩:=hw;cases r;obtain⟨dU,rv,ht,hz⟩:=I.tuple hq;refine assign_Tuple_tuple (I.ok.hd hc) ht (by simp[hn,←hl,rv.length]) hst λh' hx=>?_;have I1:dB X pins σ H {s with heap:=h'}:=I.kept (t':=s.toks) λb o e=>hx b o (aI (Heap.lt_size e)) e;exact h pins _ σ H xs _ Q I1 (by simpa using rv) hw
def dE(te:TE)(g:TG):TS:=λD σ H=>te σ H λx H1=>g x σ H1 D.nx
theorem yu(he:PE X e te)(hg:PG X tg g)(hs:swapsWithSole [tg] e pos.line X.env=pure false:=by rfl)(hw:swappedStores [tg] e X.env=pure none:=by rfl)
  (h1:(assignEach [tg] X.env).map (·.2)=[assign tg X.env]:=by rfl):PS X (.Assign [tg] e pos) (dE te g):=by
 intro pins s σ H D I h;refine wpAny_Assign_stores (thn (he pins s σ H _ I h) λv s1 ⟨x,H1,I1,r1,q1⟩=>?_) hs hw;rw[h1];exact thn (hg pins s1 σ H1 x v _ I1 r1 q1) λ_ s2 q=>q
theorem yt(hN:X.N.Nodup)(hi:X.N[i]?=some x)(hx:uf X.env.scope x)(he:PE X e te)(hs:swapsWith e (some (.Name x pos')) pos.line X.env=pure false:=by rfl)(hf:X.fn x=true∨X.env.scope.names.lookup x=some .local:=by first|exact .inl rfl|exact .inr rfl|assumption):
  PS X (.Assign [.Name x pos'] e pos) (dE te (c5 i)):=by
 intro pins s σ H D I h;refine wpAny_Assign_Name (thn (he pins s σ H _ I h) λv s1 ⟨y,H1,I1,r1,q1⟩=>?_) hs;exact ia I1 hN hi hx r1 (λs2 I2=>⟨_,H1,I2,q1⟩) hf
end
section
variable {X:Cx}{pos:Pos}
def fu(c:TT)(tb:TS):TS:=λD σ H=>∃W:Nat→St→Hp→Prop,(∃m,W m σ H)∧∀m σ H,W m σ H→
 c σ H λb H1=>if b=true then ∃N:St→Hp→Prop,(∀σ' H',N σ' H'→∃m',m'<m∧W m' σ' H')∧tb (D.lp (N)) σ H1 else D.nx σ H1
theorem fQ(hp:PassesOwn (model X.prog X.w) X.A X.env X.xe)(hc:PT X c tc)(hb:kU X body tb):PS X (.While c body [] pos) (fu tc tb):=by
 intro pins s σ H D I h;obtain⟨W,⟨m0,w0⟩,jJ⟩:=h;refine wpAny_While (codeAny_whileLoop (λn s'=>∃σ' H',dB X pins σ' H' s'∧W n σ' H') ?_ m0 ⟨σ,H,I,w0⟩);rintro n s1 ⟨σ1,H1,I1,w1⟩;refine wpAny_passesOwn hp (thn (hc pins s1 σ1 H1 _ I1 (jJ n σ1 H1 w1)) λb s2 ⟨H2,I2,q2⟩=>?_);cases b with
 | true=>
  obtain⟨N,hN,q2⟩:=q2;rw[if_pos rfl];refine wpAny_passesOwn hp (thn (hb pins s2 σ1 H2 _ I2 q2) λf s3 q3=>?_);cases f with
  | next=>obtain⟨σ3,H3,I3,n3⟩:=q3;obtain⟨m',hm,w3⟩:=hN σ3 H3 n3;exact⟨m',hm,σ3,H3,I3,w3⟩
  | cont=>obtain⟨σ3,H3,I3,n3⟩:=q3;obtain⟨m',hm,w3⟩:=hN σ3 H3 n3;exact⟨m',hm,σ3,H3,I3,w3⟩
  | brk=>exact q3
  | ret v=>exact q3
 | false=>rw[if_neg aJ];exact wpAny_execs_nil ⟨σ1,H2,I2,q2⟩
end
structure It where
 go:Nat→Hp→Prop
 yld:Nat→Hp→V→Hp→Prop
 stop:Nat→Hp→Prop
def lS(X:Cx)(pins:List (Addr×Obj))(H:Hp)(b:Addr):Prop:=
 H b=none∧b≠X.env.locals∧b∉X.fs∧(b∈X.ex∨X.s₀.heap.objs.size≤b)∧(∀x c,X.env.cells.lookup x=some c→c≠b)∧∀p∈X.pn++pins,p.1≠b
theorem dB.fpOk(I:dB X pins σ H s)(hb:s.heap.objs.size≤b)(hn:H' b=none):lS X pins H' b:=by
 refine⟨hn,bX (aH I.lt hb),I.nofs hb,.inr (aE I.sz hb),λx c e z=>?_,λp hp z=>?_⟩
 ·obtain⟨v,q⟩:=I.cell x c e;exact absurd (aH q.lt (by rw[z];exact hb)) (bD _)
 ·exact absurd (aH (Heap.lt_size (I.pin p hp).1) (by rw[z];exact hb)) (bD _)
structure wR(P:Program)(w:World)(K:aA)(tg:Expr)(J:It)(fp:List Addr)(it:Addr)(tn:Nat→Heap→Prop):Prop where
 mem:it∈fp
 obj:∀i h,tn i h→∀b∈fp,∃o,h.get? b=some o∧∀v,o.data≠.cell v
 keep:∀i h h',tn i h→(∀b∈fp,∀o,h.get? b=some o→h'.get? b=some o)→tn i h'
 item:∀(X:Cx),X.prog=P→X.w=w→X.K=K→X.calm=true→∀(i:Nat)(pins:List (Addr×Obj))(s:Shared)(σ:St)(H:Hp)(E:Value→Shared→Prop),dB X pins σ H s→(∀b∈fp,lS X pins H b)→tn i s.heap→J.go i H→
  wpAny (model P w) X.A (pyNext (.ref it)) (λr s1=>∃u,r=some u∧
   wpAny (model P w) X.A (letOwnedTupleGo tg (.ref it) u) (λ_ s2=>∃x H',dB X pins σ H' s2∧df x u∧J.yld i H x H'∧tn (i+1) s2.heap∧∀b∈fp,H' b=none) E s1) E s
 done:∀(X:Cx),X.prog=P→X.w=w→X.K=K→X.calm=true→∀(i:Nat)(pins:List (Addr×Obj))(s:Shared)(σ:St)(H:Hp)(E:Value→Shared→Prop),dB X pins σ H s→(∀b∈fp,lS X pins H b)→tn i s.heap→J.stop i H→
  wpAny (model P w) X.A (pyNext (.ref it)) (λr s1=>r=none∧dB X pins σ H s1) E s
 self:∀(A:Around)(i:Nat)(s:Shared)(Q:Value→Shared→Prop)(E:Value→Shared→Prop),tn i s.heap→Q (.ref it) s→wpAny (model P w) A (pyIter (.ref it)) Q E s
abbrev TI:=St→Hp→(It→Hp→Prop)→Prop
def Ck(X:Cx)(pins:List (Addr×Obj))(σ:St)(tg:Expr)(R:It→Hp→Prop)(itv:Value)(s2:Shared):Prop:=
 ∃(it:Addr)(fp:List Addr)(tn:Nat→Heap→Prop)(J:It)(H':Hp),itv=.ref it∧dB X pins σ H' s2∧wR X.prog X.w X.K tg J fp it tn∧tn 0 s2.heap∧(∀b∈fp,lS X pins H' b)∧R J H'
def PI(X:Cx)(tg iter:Expr)(wi:TI):Prop:=
 ∀(pins:List (Addr×Obj))(s:Shared)(σ:St)(H:Hp)(R:It→Hp→Prop),dB X pins σ H s→wi σ H R→
  wpAny (model X.prog X.w) X.A (eval iter X.env) (λv s1=>wpAny (model X.prog X.w) X.A (pyIter v) (Ck X pins σ tg R) X.xe s1) X.xe s
theorem uH(ho:s.heap.get? it=some o)(hc:o.cls=.type n)(hd:o.data=.fields vs)
    (hn:["enumerate","zip","dict_itemiterator","dict_reverseitemiterator","odict_iterator","itertools.zip_longest","itertools.pairwise"].contains n=false) (hQ:Q () s):wpAny M A (letOwnedTupleGo tg (.ref it) u) Q E s:=by
  unfold letOwnedTupleGo;cases tg<;>first
    | exact wpAny_pure hQ
    | (cases u<;>first
        | exact wpAny_pure hQ
        | (refine wpAny_bind (wpAny_load ho ?_)
           rw[hc,hd];show wpAny M A (if(["enumerate","zip","dict_itemiterator","dict_reverseitemiterator","odict_iterator","itertools.zip_longest","itertools.pairwise"].contains n&&vs[0]? == some (rawInt _))=true then _ else _) Q E s;rw[if_neg (by intro h;rw[hn,Bool.false_and]at h;cases h)];exact wpAny_pure hQ))
def BJ(K:aA)(a:Addr):It:=
 ⟨λi H=>∃xs x,dv K H a xs∧xs[i]?=some x,λi H x H'=>H'=H∧∀xs,dv K H a xs→xs[i]?=some x,λi H=>∃xs,dv K H a xs∧xs.length≤i⟩
def zt(lo:Int)(n:Nat):It:=⟨λi _=>i<n,λi H x H'=>H'=H∧x=.int (lo+i),λi _=>n≤i⟩
theorem qq{P:Program}{w:World}{K:aA}{tg:Expr}(a it:Addr):wR P w K tg (BJ K a) [it] it (λi h=>h.IsListIter it a i) where
 mem:=by simp
 obj:=λi h st b hb=>by
  have e:b=it:=by simpa using hb
  subst e;obtain⟨o,e,c,d⟩:=st;exact⟨o,e,λv z=>by rw[d]at z;cases z⟩
 keep:=λi h h' st k=>st.at λo e=>k it (by simp) o e
 item:=by intro X hP hw hK hc i pins s σ H E I hf st hg;subst hP hw hK;obtain⟨xs,x,hq,hx⟩:=hg;obtain⟨dU,rv,p,hz⟩:=I.list hq;obtain⟨u,hu,ru⟩:=rv.get hx;obtain⟨f0,f1,f2,f3,f4,f5⟩:=hf it (by simp);refine wpAny_pyNext_list_item st p.isList (x:=u) (by simpa using hu) λh' st' sb=>?_;have I1:dB X pins σ H {s with heap:=h'}:=I.turned (t':=s.toks) (λb o hb e=>(sb.2 b hb).trans e) f0 f1 f3 f4 f5;obtain⟨o,e,c,d⟩:=id st';exact⟨u,rfl,uH (s:={s with heap:=h'}) e c d (by decide) ⟨x,H,I1,ru,⟨rfl,λys hy=>by rw[I.list_inj hy hq];exact hx⟩,st',λb hb=>(hf b hb).1⟩⟩
 done:=by intro X hP hw hK hc i pins s σ H E I hf st hg;subst hP hw hK;obtain⟨xs,hq,hx⟩:=hg;obtain⟨dU,rv,p,hz⟩:=I.list hq;obtain⟨f0,f1,f2,f3,f4,f5⟩:=hf it (by simp);have hl:=rv.length;exact wpAny_pyNext_list_end (I.ok.hd hc) st p.isList (by simp;lia) λh' eb=>⟨rfl,I.turned (t':=s.toks) (λb o hb e=>eb b o hb e) f0 f1 f3 f4 f5⟩
 self:=λ_ _ _ _ _ st h=>wpAny_pyIter_listiter st h
theorem oP{P:Program}{w:World}{K:aA}{tg:Expr}(it:Addr)(lo:Int)(n:Nat):wR P w K tg (zt lo n) [it] it (λi h=>IsRangeIter h it (lo+(i:Nat)*1) ((n:Int)-(i:Nat)) 1) where
 mem:=by simp
 obj:=λi h st b hb=>by
  have e:b=it:=by simpa using hb
  subst e;exact⟨_,st,λv z=>by
   have z':Data.fields _=Data.cell v:=z;cases z'⟩
 keep:=λi h h' st k=>k it (by simp) _ st
 item:=by intro X hP hw hK hc i pins s σ H E I hf st hg;subst hP hw hK;obtain⟨f0,f1,f2,f3,f4,f5⟩:=hf it (by simp);have W:=Walks.range (prog:=X.prog) (w:=X.w) (I.ok.hd hc) it lo 1 n;refine wpAny_with_toks (aB s.toks) (W.item i s _ _ hg st λv h' tk hv st' kk ht=>?_);obtain⟨t,rfl⟩:=hv;have I1:dB X pins σ H {s with heap:=h',toks:=tk}:=I.turned (λb o hb e=>kk b o (by simpa using hb) e) f0 f1 f3 f4 f5 ht;refine⟨_,rfl,uH (s:={s with heap:=h',toks:=tk}) (n:="range_iterator") st' rfl rfl (by decide) ⟨.int (lo+i),H,I1,⟨t,?_⟩,⟨rfl,rfl⟩,st',λb hb=>(hf b hb).1⟩⟩;rw[Int.mul_one]
 done:=by intro X hP hw hK hc i pins s σ H E I hf st hg;subst hP hw hK;obtain⟨f0,f1,f2,f3,f4,f5⟩:=hf it (by simp);exact wpAny_pyNext_range_end (I.ok.hd hc) st (by have:n≤i:=hg;lia) λh' eb=>⟨rfl,I.turned (t':=s.toks) (λb o hb e=>eb b o hb e) f0 f1 f3 f4 f5⟩
 self:=λ_ _ _ _ _ st h=>wpAny_pyIter_rangeiter st h
section
variable {X:Cx}{tg:Expr}
def uF(K:aA)(tl:TE):TI:=λσ H R=>tl σ H λx H1=>onR x λa=>m8 (dv K H1 a) λ_=>R (BJ K a) H1
theorem qJ{l:Expr}{tl:TE}(hl:PE X l tl):PI X tg l (uF X.K tl):=by
 intro pins s σ H R I h;refine thn (hl pins s σ H _ I h) λv s1 ⟨x,H1,I1,r1,q1⟩=>?_;obtain⟨a,rfl,q1⟩:=onR.ex q1;obtain @⟨xs,hq,q⟩:=q1;cases r1;obtain⟨dU,rv,p,hz⟩:=I1.list hq;refine wpAny_pyIter_list p.isList ?_;refine⟨s1.heap.objs.size,[s1.heap.objs.size],_,_,H1,rfl,I1.kept (t':=s1.toks) λb o e=>Heap.get?_push_of_some _ e,qq a _,⟨_,Heap.get?_push_size _ rfl,rfl,rfl⟩,λb hb=>?_,q⟩;have e:b=s1.heap.objs.size:=by simpa using hb
 subst e;exact I1.fpOk (aB _) (I1.hok.fresh (aB _))
theorem tH{pins:List (Addr×Obj)}{σ:St}{H:Hp}{s:Shared}{R:It→Hp→Prop}{E:Value→Shared→Prop}{lo hi:Int}{t u v:Tok}{tk:Nat}(I:dB X pins σ H s)(ht:s.toks≤tk)(h1 : -(2^62)≤lo)(h2:lo<2^62)(h3 : -(2^62)≤hi)(h4:hi<2^62)
  (q:R (zt lo (hi-lo).toNat) H):wpAny (model X.prog X.w) X.A (pyIter (.ref s.heap.objs.size)) (Ck X pins σ tg R) E {s with heap:=s.heap.push {cls:=.type "range",data:=.fields #[.int lo t,.int hi u,.int 1 v]},toks:=tk}:=by
 refine wpAny_pyIter_range (IsRange.new ..) (small_one h1 h2 h3 h4) ?_;have I1:dB X pins σ H {s with heap:=s.heap.push {cls:=.type "range",data:=.fields #[.int lo t,.int hi u,.int 1 v]},toks:=tk}:=I.kept (λb o e=>Heap.get?_push_of_some _ e) ht;refine⟨(s.heap.push {cls:=.type "range",data:=.fields #[.int lo t,.int hi u,.int 1 v]}).objs.size,[(s.heap.push {cls:=.type "range",data:=.fields #[.int lo t,.int hi u,.int 1 v]}).objs.size],_,_,H,rfl,
  I1.kept (t':=tk) λb o e=>Heap.get?_push_of_some _ e,oP _ lo (hi-lo).toNat,?_,λb hb=>?_,q⟩
 ·have e1:lo+((0:Nat):Int)*1=lo:=by simp
  have e2:(((hi-lo).toNat:Nat):Int)-((0:Nat):Int)=Builtin.Range.rangeSize lo hi 1:=by rw[rangeSize_one];split<;>lia
  show IsRangeIter _ _ (lo+((0:Nat):Int)*1) ((((hi-lo).toNat:Nat):Int)-((0:Nat):Int)) 1;rw[e1,e2];exact Heap.get?_push_size _ rfl
 ·have e:b=(s.heap.push {cls:=.type "range",data:=.fields #[.int lo t,.int hi u,.int 1 v]}).objs.size:=by simpa using hb
  subst e;exact I1.fpOk (aB _) (I1.hok.fresh (aB _))
def wx(ta:TA):TI:=λσ H R=>ta σ H λvs H1=>on1 vs λx=>onI x λj=>-(2^62)≤j∧j<2^62∧R (zt 0 j.toNat) H1
theorem rF{a:Expr}{ta:TA}{p pos:Pos}(hg:Gl X "range")(hm:X.mg "range"=none)(ha:PA X [a] ta)(hs:starEach [a] X.env=[(false,eval a X.env)]:=by rfl):PI X tg (.Call (.Name "range" p) [a] [] pos) (wx ta):=by
 intro pins s σ H R I h;refine Call_ (jS I hg hm boot_range (bM (thn (ha pos pins s σ H _ I h) λus s1 ⟨vs,H1,I1,r1,q1⟩=>?_) hs rfl));obtain⟨x,rfl,q1⟩:=on1.ex q1;obtain⟨j,rfl,q1,q2,q⟩:=onI.ex q1;cases r1 with
 | cons r rr=>cases rr;obtain⟨t,rfl⟩:=r;exact call_range_1 (tH I1 (by first|exact aB _|exact aM _ 1|exact aM _ 2|exact aM _ 3) (by lia) (by lia) q1 q2 (by simpa using q))
def vL(wi:TI)(g:TG)(tb:TS):TS:=λD σ H=>wi σ H λJ H1=>∃W:Nat→Nat→St→Hp→Prop,(∃m,W 0 m σ H1)∧∀i m σ H,W i m σ H→
 (J.stop i H∧D.nx σ H)∨(J.go i H∧∃N:St→Hp→Prop,(∀σ' H',N σ' H'→∃m',m'<m∧W (i+1) m' σ' H')∧∀x H',J.yld i H x H'→g x σ H' λσ2 H2=>tb (D.lp (N)) σ2 H2)
def me(fp:List Addr)(h:Heap):List (Addr×Obj):=fp.filterMap λb=>(h.get? b).map λo=>(b,o)
theorem iQ(hb:b∈fp)(e:h.get? b=some o):(b,o)∈me fp h:=bp.mpr ⟨b,hb,by rw[e];rfl⟩
theorem rG(hp:p∈me fp h):p.1∈fp∧h.get? p.1=some p.2:=by
 obtain⟨b,hb,e⟩:=bp.mp hp;cases q:h.get? b with
 | none=>rw[q]at e;cases e
 | some o=>rw[q]at e;have e':(b,o)=p:=Option.some.inj e;subst e';exact⟨hb,q⟩
theorem dB.pinned(I:dB X pins σ H s)(hf:∀b∈fp,lS X pins H b)(ho:∀b∈fp,∃o,s.heap.get? b=some o∧∀v,o.data≠.cell v):dB X (pins++me fp s.heap) σ H s:=
 I.pins_of λp hp=>(aS.mp hp).elim (λz=>I.pin p (aP _ z)) λz=>by obtain⟨hb,e⟩:=rG z;obtain⟨f0,f1,f2,_⟩:=hf p.1 hb;obtain⟨o,e',d⟩:=ho p.1 hb;rw[e]at e';cases e';exact⟨e,f0,f1,f2,d⟩
theorem dB.unpinned(I:dB X (pins++pl) σ H s):dB X pins σ H s:=I.pins_of λp hp=>I.pin p (aP _ (aj _ hp))
theorem oo(hp:PassesOwn (model X.prog X.w) X.A X.env X.xe)(hc:X.calm=true)(hi:PI X tg iter wi)(hg:PG X tg g)(hb:kU X body tb)
  (hs:∀x,foldedSetIterable iter X.env x=pure x:=by intro _;rfl):PS X (.For tg iter body [] pos) (vL wi g tb):=by
 intro pins s σ H D I h;refine wpAny_For (thn (hi pins s σ H _ I h) λv s1 h1=>thn h1 λitv s2 h2=>?_) hs;obtain⟨it,fp,tn,J,H2,e,I2,T,st2,f2,W,⟨m0,w0⟩,jJ⟩:=h2;subst e;have stat:∀{H':Hp},(∀b∈fp,H' b=none)→∀b∈fp,lS X pins H' b:=λhn b hb=>⟨hn b hb,(f2 b hb).2⟩;refine codeAny_forLoop_any (λn s'=>∃i σ' H',dB X pins σ' H' s'∧tn i s'.heap∧(∀b∈fp,H' b=none)∧W i n σ' H') ?_ m0 ⟨0,σ,H2,I2,st2,λb hb=>(f2 b hb).1,w0⟩;rintro n s3 ⟨i,σ3,H3,I3,st3,fr3,w3⟩;rcases jJ i n σ3 H3 w3 with⟨stop,qn⟩|⟨go,N,hN,step⟩
 ·refine wpAny_passesOwn hp (thn (T.done X rfl rfl rfl hc i pins s3 σ3 H3 X.xe I3 (stat fr3) st3 stop) λr s4 ⟨hr,I4⟩=>?_);subst hr;exact wpAny_execs_nil ⟨σ3,H3,I4,qn⟩
 ·refine wpAny_passesOwn hp (thn (T.item X rfl rfl rfl hc i pins s3 σ3 H3 X.xe I3 (stat fr3) st3 go) λr s4 ⟨u,hr,h4⟩=>?_);subst hr;refine wpAny_passesOwn hp (thn h4 λ_ s5 ⟨x,H5,I5,r5,y5,st5,fr5⟩=>?_);have I5':=I5.pinned (stat fr5) (T.obj _ _ st5);refine wpAny_passesOwn hp (thn (hg _ s5 σ3 H5 x u _ I5' r5 (step x H5 y5)) λ_ s6 ⟨σ6,H6,I6,q6⟩=>?_);refine wpAny_passesOwn hp (thn (hb _ s6 σ6 H6 _ I6 q6) λf s7 q7=>?_);have again:∀{σ7:St}{H7:Hp},dB X (pins++me fp s5.heap) σ7 H7 s7→N σ7 H7→∃m,m<n∧∃i σ' H',dB X pins σ' H' s7∧tn i s7.heap∧(∀b∈fp,H' b=none)∧W i m σ' H':=λ{σ7 H7} I7 n7=>by obtain⟨m',hm,w7⟩:=hN σ7 H7 n7;refine⟨m',hm,i+1,σ7,H7,I7.unpinned,T.keep _ _ _ st5 λb hb o e=>(I7.pin (b,o) (aP _ (aP _ (iQ hb e)))).1,λb hb=>?_,w7⟩;obtain⟨o,e,d⟩:=T.obj _ _ st5 b hb;exact(I7.pin (b,o) (aP _ (aP _ (iQ hb e)))).2.1
  cases f with
  | next=>obtain⟨σ7,H7,I7,n7⟩:=q7;exact again I7 n7
  | cont=>obtain⟨σ7,H7,I7,n7⟩:=q7;exact again I7 n7
  | brk=>obtain⟨σ7,H7,I7,q7⟩:=q7;exact⟨σ7,H7,I7.unpinned,q7⟩
  | ret v=>obtain⟨x7,σ7,H7,I7,r7,q7⟩:=q7;exact⟨x7,σ7,H7,I7.unpinned,r7,q7⟩
end
theorem uL{K:aA}{a:Addr}{xs:List V}{g:TG}{tb:TS}{D:fL}{σ:St}{H:Hp}(Pv:Nat→St→Hp→Prop)(h0:Pv 0 σ H)(hl:∀i σ H,i≤xs.length→Pv i σ H→dv K H a xs)
  (hs:∀i x σ H,xs[i]?=some x→Pv i σ H→g x σ H λσ2 H2=>tb (D.lp (Pv (i+1))) σ2 H2) (hd:∀σ H,Pv xs.length σ H→D.nx σ H):
  ∃W:Nat→Nat→St→Hp→Prop,(∃m,W 0 m σ H)∧∀i m σ H,W i m σ H→
   ((BJ K a).stop i H∧D.nx σ H)∨((BJ K a).go i H∧∃N:St→Hp→Prop,(∀σ' H',N σ' H'→∃m',m'<m∧W (i+1) m' σ' H')∧∀x H',(BJ K a).yld i H x H'→g x σ H' λσ2 H2=>tb (D.lp (N)) σ2 H2):=by
 refine⟨λi m σ H=>m=xs.length-i∧i≤xs.length∧Pv i σ H,⟨xs.length,by simp,aR _,h0⟩,?_⟩;rintro i m σ H ⟨rfl,hi,p⟩;have q:=hl i σ H hi p;by_cases hlt:i<xs.length
 ·refine .inr ⟨⟨xs,xs[i],q,by simp[hlt]⟩,Pv (i+1),λσ' H' p'=>⟨xs.length-(i+1),by lia,rfl,hlt,p'⟩,λx H' y=>?_⟩;obtain⟨e,y⟩:=y;subst e;exact hs i x σ _ (y xs q) p
 ·have e:i=xs.length:=by lia
  subst e;exact .inl ⟨⟨xs,q,aB _⟩,hd σ H p⟩
theorem rV{lo:Int}{n:Nat}{g:TG}{tb:TS}{D:fL}{σ:St}{H:Hp}(Pv:Nat→St→Hp→Prop)(h0:Pv 0 σ H)
  (hs:∀i σ H,i<n→Pv i σ H→g (.int (lo+i)) σ H λσ2 H2=>tb (D.lp (Pv (i+1))) σ2 H2) (hd:∀σ H,Pv n σ H→D.nx σ H):
  ∃W:Nat→Nat→St→Hp→Prop,(∃m,W 0 m σ H)∧∀i m σ H,W i m σ H→
   ((zt lo n).stop i H∧D.nx σ H)∨((zt lo n).go i H∧∃N:St→Hp→Prop,(∀σ' H',N σ' H'→∃m',m'<m∧W (i+1) m' σ' H')∧∀x H',(zt lo n).yld i H x H'→g x σ H' λσ2 H2=>tb (D.lp (N)) σ2 H2):=by
 refine⟨λi m σ H=>m=n-i∧i≤n∧Pv i σ H,⟨n,by simp,aR _,h0⟩,?_⟩;rintro i m σ H ⟨rfl,hi,p⟩;by_cases hlt:i<n
 ·refine .inr ⟨hlt,Pv (i+1),λσ' H' p'=>⟨n-(i+1),by lia,rfl,hlt,p'⟩,λx H' y=>?_⟩;obtain⟨e,y⟩:=y;subst e y;exact hs i σ _ hlt p
 ·have e:i=n:=by lia
  subst e;exact .inl ⟨aB _,hd σ H p⟩
abbrev R2:=V→V→Hp→VK→Prop
def jq(X:Cx)(f:Value→Value→Sem Value)(r:R2):Prop:=
 ∀(pins:List (Addr×Obj))(s:Shared)(σ:St)(H:Hp)(x y:V)(v u:Value)(Q:VK),dB X pins σ H s→df x v→df y u→r x y H Q→
  wpAny (model X.prog X.w) X.A (f v u) (EP X pins σ Q) X.xe s
def Cd(X:Cx)(f:Value→Sem Value)(r:V→Hp→VK→Prop):Prop:=
 ∀(pins:List (Addr×Obj))(s:Shared)(σ:St)(H:Hp)(x:V)(v:Value)(Q:VK),dB X pins σ H s→df x v→r x H Q→
  wpAny (model X.prog X.w) X.A (f v) (EP X pins σ Q) X.xe s
def iG(X:Cx)(f:Value)(r:List V→Hp→VK→Prop):Prop:=
 ∀(pins:List (Addr×Obj))(s:Shared)(σ:St)(H:Hp)(xs:List V)(us:List Value)(Q:VK),dB X pins σ H s→dS xs us→r xs H Q→
  wpAny (model X.prog X.w) X.A (call f us) (EP X pins σ Q) X.xe s
def c9(r:R2)(ta tb:TE):TE:=λσ H Q=>ta σ H λx H1=>tb σ H1 λy H2=>r x y H2 Q
def kq(r:V→Hp→VK→Prop)(ta:TE):TE:=λσ H Q=>ta σ H λx H1=>r x H1 Q
def rI(C:Int→Int→Prop)(g:Int→Int→V):R2:=λx y H Q=>onI x λi=>onI y λj=>C i j∧Q (g i j) H
def rg(g:Int→Int→V):R2:=λx y H Q=>onI x λi=>onI y λj=>Q (g i j) H
def rU(g:Int→V):V→Hp→VK→Prop:=λx H Q=>onI x λi=>Q (g i) H
section
variable {X:Cx}{a b c:Expr}{ta tb tc:TE}{pos:Pos}
theorem zf(ha:PE X a ta)(hb:PE X b tb){pins:List (Addr×Obj)}{s:Shared}{σ:St}{H:Hp}{R:V→V→Hp→Prop}(I:dB X pins σ H s)
  (h:ta σ H λx H1=>tb σ H1 λy H2=>R x y H2) {Q:Value→Shared→Prop} {f:Value→Value→Sem Value}
  (hf:∀v u s2 x y H2,dB X pins σ H2 s2→df x v→df y u→R x y H2→wpAny (model X.prog X.w) X.A (f v u) Q X.xe s2):
  wpAny (model X.prog X.w) X.A (eval a X.env) (λv s₁=>wpAny (model X.prog X.w) X.A (eval b X.env) (λu s₂=>wpAny (model X.prog X.w) X.A (f v u) Q X.xe s₂) X.xe s₁) X.xe s:=by
 refine thn (ha pins s σ H _ I h) λv s1 ⟨x,H1,I1,r1,q1⟩=>?_;refine thn (hb pins s1 σ H1 _ I1 q1) λu s2 ⟨y,H2,I2,r2,q2⟩=>?_;exact hf v u s2 x y H2 I2 r1 r2 q2
theorem dA{op:Operator}{r:R2}(ho:jq X (binaryOp op) r)(ha:PE X a ta)(hb:PE X b tb):PE X (.BinOp a op b pos) (c9 r ta tb):=by intro pins s σ H Q I h;exact wpAny_BinOp (zf ha hb I h λv u s2 x y H2 I2 rx ry q=>ho pins s2 σ H2 x y v u Q I2 rx ry q)
theorem iA(ho:Cd X (unaryOp op) r)(ha:PE X a ta):PE X (.UnaryOp op a pos) (kq r ta):=by intro pins s σ H Q I h;exact UnaryOp_ (thn (ha pins s σ H _ I h) λv s1 ⟨x,H1,I1,r1,q1⟩=>ho pins s1 σ H1 x v Q I1 r1 q1)
theorem BY{f:Value→Value→Sem Value}{C:Int→Int→Prop}{g:Int→Int→Int}
  (rule:∀(i j:Int)(t u:Tok)(s:Shared)(Q:Value→Shared→Prop)(E:Value→Shared→Prop),C i j→Q (.int (g i j) s.toks) {s with toks:=s.toks+1}→wpAny (model X.prog X.w) X.A (f (.int i t) (.int j u)) Q E s):
  jq X f (rI C λi j=>.int (g i j)):=by
 intro pins s σ H x y v u Q I rx ry h;obtain⟨i,rfl,h2⟩:=onI.ex h;obtain⟨j,rfl,hc,q⟩:=onI.ex h2;obtain⟨t,rfl⟩:=rx;obtain⟨t',rfl⟩:=ry;exact rule i j t t' s _ _ hc ⟨.int (g i j),H,I.tok _,⟨_,rfl⟩,q⟩
theorem AV{f:Value→Value→Sem Value}{g:Int→Int→Int}
  (rule:∀(i j:Int)(t u:Tok)(s:Shared)(Q:Value→Shared→Prop)(E:Value→Shared→Prop),Q (.int (g i j) s.toks) {s with toks:=s.toks+1}→wpAny (model X.prog X.w) X.A (f (.int i t) (.int j u)) Q E s):
  jq X f (rg λi j=>.int (g i j)):=by
 intro pins s σ H x y v u Q I rx ry h;obtain⟨i,rfl,h2⟩:=onI.ex h;obtain⟨j,rfl,q⟩:=onI.ex h2;obtain⟨t,rfl⟩:=rx;obtain⟨t',rfl⟩:=ry;exact rule i j t t' s _ _ ⟨.int (g i j),H,I.tok _,⟨_,rfl⟩,q⟩
theorem y9{f:Value→Value→Sem Value}{g:Int→Int→Bool}
  (rule:∀(i j:Int)(t u:Tok)(s:Shared)(Q:Value→Shared→Prop)(E:Value→Shared→Prop),Q (.bool (g i j)) s→wpAny (model X.prog X.w) X.A (f (.int i t) (.int j u)) Q E s):
  jq X f (rg λi j=>.bl (g i j)):=by
 intro pins s σ H x y v u Q I rx ry h;obtain⟨i,rfl,h2⟩:=onI.ex h;obtain⟨j,rfl,q⟩:=onI.ex h2;obtain⟨t,rfl⟩:=rx;obtain⟨t',rfl⟩:=ry;exact rule i j t t' s _ _ ⟨.bl (g i j),H,I,rfl,q⟩
def zn(i j:Int):Prop:=0<j∧j<1073741824
def BO(i j:Int):Prop:=0≤j∧j≤1000000∧i.natAbs<2^64
def wW(i j:Int):Prop:=(-(2^64)<i∧i<2^64)∨(-(2^64)<j∧j<2^64)
theorem wW.ok(h:wW i j):IntMulOk i j:=by
 rcases h with⟨h1,h2⟩|⟨h1,h2⟩
 ·exact .of_left (intBits_le_64 h1 h2)
 ·exact .of_right (intBits_le_64 h1 h2)
theorem gM:jq X (binaryOp .Add) (rg λi j=>.int (i+j)):=AV λ_ _ _ _ _ _ _ q=>add_int q
theorem k9:jq X (binaryOp .Sub) (rg λi j=>.int (i-j)):=AV λ_ _ _ _ _ _ _ q=>sub_int q
theorem y8:jq X (binaryOp .Mult) (rI wW λi j=>.int (i*j)):=BY λ_ _ _ _ _ _ _ hc q=>mul_int q hc.ok
theorem jf:jq X (binaryOp .FloorDiv) (rI zn λi j=>.int (i / j)):=BY λi j _ _ _ _ _ hc q=>by have h1:(0:Int)<j:=hc.1;have h2:j<1073741824:=hc.2;exact floordiv_int (by lia) (by rw[Int.fdiv_eq_ediv_of_nonneg i (by lia)];exact q) (.inl (cQ (by lia)))
theorem eu:jq X (binaryOp .Mod) (rI (λ_ j=>0<j) λi j=>.int (i%j)):=BY λi j _ _ _ _ _ hc q=>by have h1:(0:Int)<j:=hc;exact mod_int' (by lia) (by rw[Int.fmod_eq_emod_of_nonneg i (by lia)];exact q)
theorem tY:jq X (binaryOp .Pow) (rI BO λi j=>.int (i^j.toNat)):=BY λ_ _ _ _ _ _ _ hc q=>pow_int_small hc.1 hc.2.1 hc.2.2 q
theorem Dg{f:Value→Sem Value}{g:Int→Int}
  (rule:∀(i:Int)(t:Tok)(s:Shared)(Q:Value→Shared→Prop)(E:Value→Shared→Prop),Q (.int (g i) s.toks) {s with toks:=s.toks+1}→wpAny (model X.prog X.w) X.A (f (.int i t)) Q E s):
  Cd X f (rU λi=>.int (g i)):=by
 intro pins s σ H x v Q I rx h;obtain⟨i,rfl,q⟩:=onI.ex h;obtain⟨t,rfl⟩:=rx;exact rule i t s _ _ ⟨.int (g i),H,I.tok _,⟨_,rfl⟩,q⟩
theorem fq:Cd X (unaryOp .USub) (rU λi=>.int (-i)):=Dg λ_ _ _ _ _ q=>neg_int q
end
def yk:V→V→Bool
 | .non,.non=>true|.non,.int _=>true|.int _,.non=>true|.non,.bl _=>true|.bl _,.non=>true|.non,.str _=>true|.str _,.non=>true
 | .int _,.int _=>true|.bl _,.bl _=>true|.str _,.str _=>true|.byt _,.byt _=>true
 | .int _,.str _=>true|.str _,.int _=>true|.bl _,.str _=>true|.str _,.bl _=>true
 | _,_=>false
def i0:R2:=λx y H Q=>yk x y=true∧Q (.bl (decide (x=y))) H
def yn:R2:=λx y H Q=>yk x y=true∧Q (.bl (!decide (x=y))) H
theorem qf:decide (V.int i=V.int j)=(i==j):=by rw[bN];simp
theorem uS:decide (V.bl i=V.bl j)=(i==j):=by rw[bN];simp
theorem qd:decide (V.str i=V.str j)=(i==j):=by rw[bN];simp
theorem qg:decide (V.byt i=V.byt j)=(i.toList==j.toList):=by rw[bN];cases i;cases j;simp
section
variable {X:Cx}{a b c:Expr}{ta tb tc:TE}{pos:Pos}
theorem dk(I:dB X pins σ H s)(q:Q (.bl k) H)(e:k=k'):EP X pins σ Q (.bool k') s:=by subst e;exact⟨.bl k,H,I,rfl,q⟩
theorem eH:jq X (compareOp .Eq) i0:=by
 intro pins s σ H x y v u Q I rx ry h;obtain⟨hs,q⟩:=h;cases x with
 | non=>
  cases rx;cases y with
  | non=>cases ry;exact PySem.EqNone.eq_none_none (dk I q (by simp))
  | bl j=>cases ry;exact PySem.EqNone.eq_none_bool (dk I q (by simp))
  | int j=>obtain⟨t',rfl⟩:=ry;exact PySem.EqNone.eq_none_int (dk I q (by simp))
  | str j=>obtain⟨t',rfl⟩:=ry;exact PySem.EqNone.eq_none_str (dk I q (by simp))
  | _=>exact absurd (show false=true from hs) aJ
 | bl i=>
  cases rx;cases y with
  | non=>cases ry;exact PySem.EqNone.eq_bool_none (dk I q (by simp))
  | bl j=>cases ry;exact eq_bool (dk I q uS)
  | str j=>obtain⟨t',rfl⟩:=ry;exact PySem.EqMixed.eq_bool_str (dk I q (by simp))
  | _=>exact absurd (show false=true from hs) aJ
 | int i=>
  obtain⟨t,rfl⟩:=rx;cases y with
  | non=>cases ry;exact PySem.EqNone.eq_int_none (dk I q (by simp))
  | int j=>obtain⟨t',rfl⟩:=ry;exact eq_int (dk I q qf)
  | str j=>obtain⟨t',rfl⟩:=ry;exact PySem.EqMixed.eq_int_str (dk I q (by simp))
  | _=>exact absurd (show false=true from hs) aJ
 | str i=>
  obtain⟨t,rfl⟩:=rx;cases y with
  | non=>cases ry;exact PySem.EqNone.eq_str_none (dk I q (by simp))
  | bl j=>cases ry;exact PySem.EqMixed.eq_str_bool (dk I q (by simp))
  | int j=>obtain⟨t',rfl⟩:=ry;exact PySem.EqMixed.eq_str_int (dk I q (by simp))
  | str j=>obtain⟨t',rfl⟩:=ry;exact eq_str (dk I q qd)
  | _=>exact absurd (show false=true from hs) aJ
 | byt i=>
  obtain⟨t,rfl⟩:=rx;cases y with
  | byt j=>obtain⟨t',rfl⟩:=ry;exact PySem.W.eq_bytes (dk I q qg)
  | _=>exact absurd (show false=true from hs) aJ
 | _=>cases y<;>exact absurd (show false=true from hs) aJ
theorem lZ:jq X (compareOp .NotEq) yn:=by
 intro pins s σ H x y v u Q I rx ry h;obtain⟨hs,q⟩:=h;cases x with
 | non=>
  cases rx;cases y with
  | non=>cases ry;exact PySem.EqNone.ne_none_none (dk I q (by simp))
  | bl j=>cases ry;exact PySem.EqNone.ne_none_bool (dk I q (by simp))
  | int j=>obtain⟨t',rfl⟩:=ry;exact PySem.EqNone.ne_none_int (dk I q (by simp))
  | str j=>obtain⟨t',rfl⟩:=ry;exact PySem.EqNone.ne_none_str (dk I q (by simp))
  | _=>exact absurd (show false=true from hs) aJ
 | bl i=>
  cases rx;cases y with
  | non=>cases ry;exact PySem.EqNone.ne_bool_none (dk I q (by simp))
  | bl j=>cases ry;exact ne_bool (dk I q (congrArg not uS))
  | str j=>obtain⟨t',rfl⟩:=ry;exact PySem.EqMixed.ne_bool_str (dk I q (by simp))
  | _=>exact absurd (show false=true from hs) aJ
 | int i=>
  obtain⟨t,rfl⟩:=rx;cases y with
  | non=>cases ry;exact PySem.EqNone.ne_int_none (dk I q (by simp))
  | int j=>obtain⟨t',rfl⟩:=ry;exact ne_int (dk I q (congrArg not qf))
  | str j=>obtain⟨t',rfl⟩:=ry;exact PySem.EqMixed.ne_int_str (dk I q (by simp))
  | _=>exact absurd (show false=true from hs) aJ
 | str i=>
  obtain⟨t,rfl⟩:=rx;cases y with
  | non=>cases ry;exact PySem.EqNone.ne_str_none (dk I q (by simp))
  | bl j=>cases ry;exact PySem.EqMixed.ne_str_bool (dk I q (by simp))
  | int j=>obtain⟨t',rfl⟩:=ry;exact PySem.EqMixed.ne_str_int (dk I q (by simp))
  | str j=>obtain⟨t',rfl⟩:=ry;exact ne_str (dk I q (congrArg not qd))
  | _=>exact absurd (show false=true from hs) aJ
 | byt i=>
  obtain⟨t,rfl⟩:=rx;cases y with
  | byt j=>obtain⟨t',rfl⟩:=ry;exact PySem.W.ne_bytes (dk I q (congrArg not qg))
  | _=>exact absurd (show false=true from hs) aJ
 | _=>cases y<;>exact absurd (show false=true from hs) aJ
theorem iV:jq X (compareOp .Lt) (rg λi j=>.bl (decide (i<j))):=y9 λ_ _ _ _ _ _ _ q=>lt_int q
theorem lB:jq X (compareOp .Gt) (rg λi j=>.bl (decide (j<i))):=y9 λ_ _ _ _ _ _ _ q=>gt_int q
theorem AU:jq X (compareOp .GtE) (rg λi j=>.bl (decide (j≤i))):=y9 λ_ _ _ _ _ _ _ q=>ge_int q
theorem i6:jq X (compareOp .In) (λx y H Q=>∃i j,x=.str i∧y=.str j∧Q (.bl (!(Builtin.Str.occurrences j i 0 j.length 1).isEmpty)) H):=by intro pins s σ H x y v u Q I rx ry h;obtain⟨i,j,rfl,rfl,q⟩:=h;obtain⟨t,rfl⟩:=rx;obtain⟨t',rfl⟩:=ry;exact in_str (dk I q rfl)
theorem t0(b:Expr)(h:op≠.In:=by decide)(h2:op≠.NotIn:=by decide):behindInMarks op b=false:=by
 have e1:(op==CmpOp.In)=false:=by cases op<;>first|rfl|exact absurd rfl h
 have e2:(op==CmpOp.NotIn)=false:=by cases op<;>first|rfl|exact absurd rfl h2
 cases b<;>simp[behindInMarks,e1,e2]
theorem kb{op:CmpOp}{r:R2}(ho:jq X (compareOp op) r)(ha:PE X a ta)(hb:PE X b tb)(hm:behindInMarks op b=false):PE X (.Compare a [op] [b] pos) (c9 r ta tb):=by intro pins s σ H Q I h;exact wpAny_Compare1 (zf ha hb I h λv u s2 x y H2 I2 rx ry q=>ho pins s2 σ H2 x y v u Q I2 rx ry q) hm
def dG(t:TE):TT:=λσ H Q=>t σ H λx H'=>∃k,x=.bl k∧Q k H'
theorem iN(ho:jq X (compareOp op) r)(ha:PE X a ta)(hb:PE X b tb)(hm:behindInMarks op b=false):PT X (.Compare a [op] [b] pos) (dG (c9 r ta tb)):=by
 intro pins s σ H Q I h;refine wpAny_isTrue_Compare1 (thn (ha pins s σ H _ I h) λv s1 ⟨x,H1,I1,r1,q1⟩=>thn (hb pins s1 σ H1 _ I1 q1) λu s2 ⟨y,H2,I2,r2,q2⟩=>
  thn (ho pins s2 σ H2 x y v u _ I2 r1 r2 q2) λc s3 ⟨z,H3,I3,r3,k,e,q3⟩=>?_) hm
 subst e;cases r3;exact wpAny_truthy_bool ⟨H3,I3,q3⟩
def sk(r r':R2)(ta tb tc:TE):TE:=λσ H Q=>ta σ H λx H1=>tb σ H1 λy H2=>r x y H2 λz H3=>∃k,z=.bl k∧
 (if k=true then tc σ H3 λw' H4=>r' y w' H4 Q else Q (.bl false) H3)
theorem tJ(ho:jq X (compareOp op) r)(ho':jq X (compareOp op') r')(ha:PE X a ta)(hb:PE X b tb)(hc:PE X c tc)
  (hm:lastMarks [op,op'] [b,c]=false:=by with_unfolding_all rfl):PT X (.Compare a [op,op'] [b,c] pos) (dG (sk r r' ta tb tc)):=by
 intro pins s σ H Q I h;refine isTrue_chain (thn (ha pins s σ H _ I h) λv s1 ⟨x,H1,I1,r1,q1⟩=>test_link (thn (hb pins s1 σ H1 _ I1 q1) λu s2 ⟨y,H2,I2,r2,q2⟩=>
  thn (ho pins s2 σ H2 x y v u _ I2 r1 r2 q2) λd s3 ⟨z,H3,I3,r3,k,e,q3⟩=>?_)) hm
 subst e;cases r3;refine wpAny_truthy_bool ?_;cases k with
 | false=>obtain⟨k',e',q'⟩:=q3;cases e';exact ite_ff ⟨H3,I3,q'⟩
 | true=>refine ite_tt (test_last (thn (hc pins s3 σ H3 _ I3 q3) λw' s4 ⟨z',H4,I4,r4,q4⟩=>thn (ho' pins s4 σ H4 y z' u w' _ I4 r2 r4 q4) λd' s5 ⟨z2,H5,I5,r5,k2,e2,q5⟩=>?_));subst e2;cases r5;exact wpAny_truthy_bool ⟨H5,I5,q5⟩
theorem lC:(sizeLine:Nat)<2^63:=by rw[sizeLine_eq];decide
def fE:R2:=λx y H Q=>onS x λi=>onS y λj=>i.length+j.length≤sizeLine∧Q (.str (i++j)) H
theorem dL:jq X (binaryOp .Add) fE:=by intro pins s σ H x y v u Q I rx ry h;obtain⟨i,rfl,h⟩:=onS.ex h;obtain⟨j,rfl,hz,q⟩:=onS.ex h;obtain⟨t,rfl⟩:=rx;obtain⟨t',rfl⟩:=ry;exact wpAny_with_toks (aB s.toks) (add_str (λt' tk ht=>⟨.str (i++j),H,I.tok _ ht,⟨_,rfl⟩,q⟩) hz)
theorem jF(r:dS [x] us):∃u,us=[u]∧df x u:=by
 cases r with
 | cons r1 r2=>cases r2;exact⟨_,rfl,r1⟩
theorem sC(r:dS [x,y] us):∃u w',us=[u,w']∧df x u∧df y w':=by
 cases r with
 | cons r1 r2=>
  cases r2 with
  | cons r3 r4=>cases r4;exact⟨_,_,rfl,r1,r3⟩
theorem uY:iG X (.builtin "abs") (λxs H Q=>∃i,xs=[.int i]∧Q (.int (if i<0 then -i else i)) H):=by intro pins s σ H xs us Q I r h;obtain⟨i,rfl,q⟩:=h;obtain⟨u,rfl,t,rfl⟩:=jF r;exact wpAny_with_toks (aB s.toks) (call_abs_int λu tk ht=>⟨.int (if i<0 then -i else i),H,I.tok _ ht,⟨_,rfl⟩,q⟩)
theorem ra(hc:X.calm=true):iG X (.builtin "min") (λxs H Q=>∃i j,xs=[.int i,.int j]∧Q (.int (if j<i then j else i)) H):=by
 intro pins s σ H xs us Q I r h;obtain⟨i,j,rfl,q⟩:=h;obtain⟨u,w',rfl,⟨t,rfl⟩,⟨t',rfl⟩⟩:=sC r;refine wpAny_with_toks (aB s.toks) (min_two_ints (I.ok.hd hc) λh' tk k ht=>⟨_,H,I.kept k ht,?_,q⟩);by_cases hj:j<i
 ·rw[if_pos hj,if_pos hj];exact⟨_,rfl⟩
 ·rw[if_neg hj,if_neg hj];exact⟨_,rfl⟩
theorem gD:iG X (.type "int") (λxs H Q=>(∃i,xs=[.int i]∧Q (.int i) H)∨∃k,xs=[.bl k]∧Q (.int (if k then 1 else 0)) H):=by
 intro pins s σ H xs us Q I r h;rcases h with⟨i,rfl,q⟩|⟨k,rfl,q⟩
 ·obtain⟨u,rfl,t,rfl⟩:=jF r;exact call_int_int ⟨.int i,H,I,⟨_,rfl⟩,q⟩
 ·obtain⟨u,rfl,r1⟩:=jF r;cases r1;exact call_int_bool ⟨.int (if k then 1 else 0),H,I.tok _,⟨_,rfl⟩,q⟩
theorem mz:iG X (.type "str") (λxs H Q=>∃i,xs=[.int i]∧i.natAbs.log2<1920∧Q (.str (toString i)) H):=by intro pins s σ H xs us Q I r h;obtain⟨i,rfl,hz,q⟩:=h;obtain⟨u,rfl,t,rfl⟩:=jF r;exact PySem.P.str_of_int hz ⟨.str _,H,I.tok _,⟨_,rfl⟩,q⟩
end
structure pH(h:Heap)(x dx C:Addr)(mA:Str→Option Value):Prop where
 obj:h.get? x=some (PySem.W.instObj C dx)
 ns:h.Ns1 dx mA
 ne:dx≠x
theorem rL{h:Heap}{dx:Addr}{mA:Str→Option Value}(n:h.Ns1 dx mA):∃od,h.get? dx=some od∧∀name,PySem.W.lookIn name od=some (mA name):=by
 obtain⟨o,es,ep,ho,hd,hk,_,hm⟩:=n;refine⟨o,ho,λname=>?_⟩;have e:=hm name;unfold nsFind findBy at e;rw[←Array.find?_toList]at e;unfold PySem.W.lookIn;rw[hd];dsimp only;split
 ·rename_i y q;rw[q]at e;exact congrArg some e
 ·rename_i q;rw[q]at e;have a:es.toList.any (·.refKey)=false:=by rw[List.any_eq_false];intro y hy;obtain⟨z,t,hkey⟩:=hk y (Array.mem_toList_iff.mp hy);simp[DictEntry.refKey,hkey]
  have a':¬es.toList.any (·.refKey)=true:=by rw[a];exact aJ
  rw[if_neg a'];exact congrArg some e
theorem pH.look(I:pH h x dx C mA):∃od,PySem.W.InstAt h x (PySem.W.instObj C dx) C (some od)∧∀name,PySem.W.lookIn name od=some (mA name):=
 let ⟨od,ho,hl⟩:=rL I.ns
 ⟨od,⟨I.obj,rfl,rfl,ho⟩,hl⟩
section
variable {prog:Program}{w:World}{A:Around}{E:Value→Shared→Prop}{s:Shared}{K:aA}{x dx C f:Addr}{mA:Str→Option Value}{name:Str}{v:Value}
theorem wH(X:K.In s.heap)(I:pH s.heap x dx C mA)(hg:PySem.W.plainGet K C name=true)(hh:PySem.W.hasDictIn K C=true)
  (ha:PySem.W.findIn K (.ref C) name=some none) (hv:mA name=some v) (hv':PySem.W.handedIn v=true) (h:Q v {s with toks:=s.toks+1}):
  wpAny (model prog w) A (getAttr (.ref x) name expr) Q E s:=by
 obtain⟨od,J,hl⟩:=I.look;exact PySem.W.get_value X J (bq hg).1 (PySem.W.findObj_own hh ha rfl (by rw[hl,hv])) hv' h
theorem uJ(X:K.In s.heap)(I:pH s.heap x dx C mA)(hg:PySem.W.plainGet K C name=true)
  (hf:PySem.W.findIn K (.ref C) name=some (some (.ref f))) (ht:PySem.W.isFn K (.ref f)=true) (hv:mA name=none) (h:Q (.ref f,[.ref x]) s):
  wpAny (model prog w) A (getMethod (.ref x) name pl) Q E s:=by
 obtain⟨od,J,hl⟩:=I.look;exact PySem.W.method_fn X J (bq hg).1 (bq hg).2 hf (beq_iff_eq.mp ht) (by show(PySem.W.lookIn name od).map (·.isSome)=some false;rw[hl,hv];rfl) h
theorem vQ(X:K.In s.heap)(I:pH s.heap x dx C mA)
  (hs:PySem.W.findIn K (.ref C) "__setattr__"=some (some (.builtin "object.__setattr__"))) (hp:PySem.W.plainOver K C=true) (ht:PySem.W.takerIn K C name=some none) (hh:PySem.W.hasDictIn K C=true)
  (hw:PySem.Within mA ns) (hsz:ns.length≤sizeLine)
  (h:∀h',pH h' x dx C (λy=>if y=name then some v else mA y)→Heap.SameBut dx s.heap h'→Q () {s with heap:=h',toks:=s.toks+2}):
  wpAny (model prog w) A (setAttr (.ref x) name v) Q E s:=by
 obtain⟨od,J,hl⟩:=I.look;refine PySem.W.set_plain X J hs (PySem.W.osa_open (s:={s with toks:=s.toks+1}) (r:=none) X J hp ht λb=>?_);obtain⟨cd,hc,hd'⟩:=PySem.W.any_some hh;have hx:s.heap.get? x=some ⟨.ref C,some dx,.plain,#[]⟩:=I.obj;refine wpAny_bind (wpAny_pure (wpAny_bind (wpAny_bind (wpAny_loadPart hx (wpAny_bind (PySem.W.Looks.here (s:={s with toks:=s.toks+1}) (PySem.W.looks_clsIn X hc) ?_))))));rw[hd'];refine wpAny_pure (a:=some dx) (wpAny_bind (wpAny_pure (wpAny_bind ?_)));refine wpAny_nsSet1 (s:={s with toks:=s.toks+1}) I.ns λh' hn2 hs2=>?_;obtain⟨oD,esD,epD,hoD,Bc,hcD⟩:=hn2.count (PySem.Within.cons name v hw);refine wpAny_bind (wpAny_lookBehind hoD (by rw[Bc];exact pastItsLine_dict (aE hcD (by rw[aC];lia))) ?_);exact wpAny_pure (h _ ⟨(hs2.2 _ (ai I.ne)).trans I.obj,hn2,I.ne⟩ hs2)
theorem uA(X:K.In s.heap)(hm:PySem.W.makesIn K C=true)
  (hi:PySem.W.findIn K (.ref C) "__init__"=some (some (.ref f))) (hf:PySem.W.typeIn K (.ref f)=some (.type "function"))
  (h:codeAny (model prog w) (A.under (.builtin "type.__call__" ⟨.ref C::vs,kw⟩)) (.call (.ref f) ⟨.ref (s.heap.objs.size+1)::vs,kw⟩) (PySem.W.InitBack (s.heap.objs.size+1) R)
   {s with heap:=(s.heap.push PySem.W.emptyDict).push (PySem.W.instObj C s.heap.objs.size)}):
  codeAny (model prog w) A (.call (.ref C) ⟨vs,kw⟩) R s:=by
 obtain⟨hh,g,d,t,os⟩:=s;exact PySem.W.make_core (PySem.W.makes_of X hm) (PySem.W.looks_findIn X hi) (λself=>PySem.W.bind_fn X self hf) (.inl rfl) h
end
def fX(f:Str)(v:V):List (Str×V)→List (Str×V)
 | []=>[(f,v)]
 | (g,x)::r=>if g=f then(g,v)::r else(g,x)::fX f v r
theorem kJ(f g:Str)(v:V):∀fs:List (Str×V),(fX f v fs).lookup g=if g=f then some v else fs.lookup g
 | []=>by
  show List.lookup g [(f,v)]=_;by_cases h:g=f
  ·have hb:(g==f)=true:=beq_iff_eq.mpr h;simp only[List.lookup,hb,if_pos h]
  ·have hb:(g==f)=false:=beq_eq_false_iff_ne.mpr h;simp only[List.lookup,hb,if_neg h]
 | (k,x)::r=>by
  have ih:=kJ f g v r;rw[show fX f v ((k,x)::r)=(if k=f then(k,v)::r else(k,x)::fX f v r)from rfl];by_cases hk:k=f
  ·rw[if_pos hk];by_cases h:g=k
   ·have hb:(g==k)=true:=beq_iff_eq.mpr h;simp only[List.lookup,hb,if_pos (h.trans hk)]
   ·have hb:(g==k)=false:=beq_eq_false_iff_ne.mpr h;simp only[List.lookup,hb,if_neg (λe:g=f=>h (e.trans hk.symm))]
  ·rw[if_neg hk];by_cases h:g=k
   ·have hb:(g==k)=true:=beq_iff_eq.mpr h;simp only[List.lookup,hb,if_neg (λe:g=f=>hk (h.symm.trans e))]
   ·have hb:(g==k)=false:=beq_eq_false_iff_ne.mpr h;simp only[List.lookup,hb];exact ih
theorem jy(f:Str)(v:V):∀fs:List (Str×V),f∈(fX f v fs).map (·.1)∧∀g,g∈fs.map (·.1)→g∈(fX f v fs).map (·.1)
 | []=>⟨by simp[fX],λg h=>by simp at h⟩
 | (k,x)::r=>by
  obtain⟨i1,i2⟩:=jy f v r;rw[show fX f v ((k,x)::r)=(if k=f then(k,v)::r else(k,x)::fX f v r)from rfl];by_cases hk:k=f
  ·rw[if_pos hk];subst hk;exact⟨by simp,λg h=>by simpa using h⟩
  ·rw[if_neg hk];refine⟨?_,λg h=>?_⟩
   ·rw[af];exact aa _ i1
   ·rw[af]at h⊢;rcases aF.mp h with e|e
    ·exact aF.mpr (.inl e)
    ·exact aa _ (i2 g e)
theorem kK(f:Str)(v:V):∀fs:List (Str×V),(fX f v fs).length≤fs.length+1
 | []=>by simp[fX]
 | (k,x)::r=>by
  have ih:=kK f v r;rw[show fX f v ((k,x)::r)=(if k=f then(k,v)::r else(k,x)::fX f v r)from rfl];by_cases hk:k=f
  ·rw[if_pos hk,aC,aC];lia
  ·rw[if_neg hk,aC,aC];lia
theorem jE.some_of(r:jE (some v) o):∃u,o=some u∧df v u:=by
 cases o with
 | none=>exact(show False from r).elim
 | some u=>exact⟨u,rfl,r⟩
theorem jE.none_of(r:jE none o):o=none:=by
 cases o with
 | none=>rfl
 | some u=>exact(show False from r).elim
theorem rT(r:df v u):PySem.W.handedIn u=true:=by
 cases v with
 | non=>cases(show u=Value.none from r);rfl
 | bl b=>cases(show u=Value.bool b from r);rfl
 | int i=>obtain⟨t,e⟩:=(show ∃t,u=Value.int i t from r);cases e;rfl
 | str x=>obtain⟨t,e⟩:=(show ∃t,u=Value.str x t from r);cases e;rfl
 | byt b=>obtain⟨t,e⟩:=(show ∃t,u=Value.bytes b t from r);cases e;rfl
 | flt b=>obtain⟨t,e⟩:=(show ∃t,u=Value.float b t from r);cases e;rfl
 | ref a=>cases(show u=Value.ref a from r);rfl
 | ty n=>cases(show u=Value.type n from r);rfl
section
variable {P:Program}{w:World}{H H':Hp}{h h':Heap}{a C dx:Addr}{fs fs':List (Str×V)}
theorem kf(hok:i9 P w H h)(e:H a=some (.ins C dx fs)):∃mA,pH h a dx C mA∧(∀f,jE (fs.lookup f) (mA f))∧PySem.Within mA (fs.map (·.1))∧fs.length≤1000∧H dx=some (.own a):=by obtain⟨d,z,ne,ob,mA,n,r,q⟩:=(show eP P w H h a (.ins C dx fs)from hok a _ e);exact⟨mA,⟨ob,n,ne⟩,r,q,z,d⟩
end
structure oK(K:aA)(C:Addr):Prop where
 pg:PySem.W.plainGet K C Str.empty=true
 hd:PySem.W.hasDictIn K C=true
 po:PySem.W.plainOver K C=true
 sa:PySem.W.findIn K (.ref C) "__setattr__"=some (some (.builtin "object.__setattr__"))
theorem oK.get{K:aA}{C:Addr}(c:oK K C)(f:Str):PySem.W.plainGet K C f=true:=c.pg
def gg(K:aA)(C:Addr)(f:Str):Prop:=PySem.W.findIn K (.ref C) f=some none
theorem gg.taker{K:aA}{C:Addr}{f:Str}(n:gg K C f):PySem.W.takerIn K C f=some none:=by unfold PySem.W.takerIn;rw[show PySem.W.findIn K (.ref C) f=some none from n];rfl
structure fT(K:aA)(C:Addr)(m:Str)(f:Addr):Prop where
 at_:PySem.W.findIn K (.ref C) m=some (some (.ref f))
 fn:PySem.W.isFn K (.ref f)=true
 kp:PySem.W.keepIn K (.ref f)=true
section
variable {X:Cx}{pins:List (Addr×Obj)}{σ:St}{H:Hp}{s:Shared}{a C dx:Addr}{fs:List (Str×V)}{f:Str}{v:V}{A:Around}{E:Value→Shared→Prop}
theorem lF(I:dB X pins σ H s)(e:H a=some (.ins C dx fs))(c:oK X.K C)(n:gg X.K C f)(l:fs.lookup f=some v)
  (h:∀u s',dB X pins σ H s'→df v u→Q u s'):wpAny (model X.prog X.w) A (getAttr (.ref a) f b) Q E s:=by
 obtain⟨mA,O,r,_,_,_⟩:=kf I.hok e;obtain⟨u,hu,ru⟩:=jE.some_of (v:=v) (o:=mA f) (by rw[←l];exact r f);exact wH I.kIn O (c.get f) c.hd n hu (rT ru) (h u _ (I.tok _) ru)
theorem lE(I:dB X pins σ H s)(e:H a=some (.ins C dx fs))(c:oK X.K C)(k:fT X.K C m g)(l:fs.lookup m=none)
  (h:Q (.ref g,[.ref a]) s):wpAny (model X.prog X.w) A (getMethod (.ref a) m pl) Q E s:=by
 obtain⟨mA,O,r,_,_,_⟩:=kf I.hok e;have hn:mA m=none:=jE.none_of (by rw[←l];exact r m);exact uJ I.kIn O (c.get m) k.at_ k.fn hn h
theorem ky(I:dB X pins σ H s)(e:H a=some (.ins C dx fs))(c:oK X.K C)(n:gg X.K C f)(hl:fs.length<1000)(ry:df y u)
  (h:∀s',dB X pins σ (dc H a (.ins C dx (fX f y fs))) s'→Q () s'):wpAny (model X.prog X.w) A (setAttr (.ref a) f u) Q E s:=by
 obtain⟨mA,O,r,wi,_,ho⟩:=kf I.hok e;have hz:(fs.map (·.1)).length≤sizeLine:=by rw[aV,sizeLine_eq];lia
 refine vQ I.kIn O c.sa c.po n.taker c.hd wi hz λh' O' sb=>h _ ?_;have hd:∃o,h'.get? dx=some o:=let ⟨o,_,_,e',_⟩:=O'.ns;⟨o,e'⟩;refine I.write (x:=a) (e:=dx) (by rw[e];exact ac) (.inr ho) (λb q hb z=>(sb.2 b hb).trans z) hd ?_;refine⟨by rw[dN O.ne];exact ho,?_,O.ne,O'.obj,_,O'.ns,λg=>?_,λg hg=>?_⟩
 ·have:=kK f y fs;lia
 ·show jE ((fX f y fs).lookup g) (if g=f then some u else mA g);rw[kJ];by_cases q:g=f
  ·rw[if_pos q,if_pos q];exact ry
  ·rw[if_neg q,if_neg q];exact r g
 ·by_cases q:g=f
  ·rw[q];exact(jy f y fs).1
  ·refine(jy f y fs).2 g (wi g λz=>hg ?_);show(if g=f then some u else mA g)=none;rw[if_neg q];exact z
theorem dB.made(I:dB X pins σ H s):dB X pins σ (dc (dc H s.heap.objs.size (.own (s.heap.objs.size+1))) (s.heap.objs.size+1) (.ins C s.heap.objs.size []))
  {s with heap:=(s.heap.push PySem.W.emptyDict).push (PySem.W.instObj C s.heap.objs.size)}:=by
 have e1:(s.heap.push PySem.W.emptyDict).get? s.heap.objs.size=some PySem.W.emptyDict:=Heap.get?_push_size s.heap rfl;have e2:((s.heap.push PySem.W.emptyDict).push (PySem.W.instObj C s.heap.objs.size)).get? (s.heap.objs.size+1)=some (PySem.W.instObj C s.heap.objs.size):=by have:=Heap.get?_push_size (s.heap.push PySem.W.emptyDict) (o:=PySem.W.instObj C s.heap.objs.size) rfl;rwa[Heap.size_push]at this
 have e3:(s.heap.push PySem.W.emptyDict).Ns s.heap.objs.size (λ_=>none):=⟨PySem.W.emptyDict,#[],_,e1,rfl,(λe he=>absurd he (by simp)),λ_=>rfl⟩;have I1:=I.laid (a:=s.heap.objs.size) (o:=.own (s.heap.objs.size+1)) (h':=s.heap.push PySem.W.emptyDict) (t':=s.toks) (λb u q=>Heap.get?_push_of_some _ q) (aB _) ⟨_,e1⟩;refine I1.laid (a:=s.heap.objs.size+1) (o:=.ins C s.heap.objs.size []) (t':=s.toks) (λb u q=>Heap.get?_push_of_some _ q) (bY (Heap.size_push _ _)) ?_;have ne:s.heap.objs.size≠s.heap.objs.size+1:=aI (bO _);refine⟨by rw[dN ne,c6],aR _,ne,e2,λ_=>none,(Heap.Ns1.of_empty e3).at λo q=>Heap.get?_push_of_some _ q,λ_=>ac,λy hy=>absurd rfl hy⟩
theorem wO(hb:attributeBase e f env (eval e env)=eval e env)
  (h:wpAny (model prog w) A (eval e env) (λo s₁=>wpAny (model prog w) A (getAttr o f true) Q E s₁) E s):wpAny (model prog w) A (eval (.Attribute e f pos) env) Q E s:=
 Attribute_any_ h (by rw[arm_eval_Attribute,hb])
end
inductive BN(K:aA)(H:Hp)(a:Addr)(f:Str)(Q:VK):Prop
 | mk{C dx:Addr}{fs:List (Str×V)}{v:V}(h:H a=some (.ins C dx fs))(c:oK K C)(n:gg K C f)(l:fs.lookup f=some v)(q:Q v H):BN K H a f Q
def fO(K:aA)(ta:TE)(f:Str):TE:=λσ H Q=>ta σ H λx H1=>onR x λa=>BN K H1 a f Q
def sw(K:aA)(ta tv:TE)(f:Str):TS:=λD σ H=>tv σ H λy H1=>ta σ H1 λx H2=>∃a C dx fs,x=.ref a∧H2 a=some (.ins C dx fs)∧oK K C∧gg K C f∧fs.length<1000∧
 D.nx σ (dc H2 a (.ins C dx (fX f y fs)))
def BM(X:Cx)(op:Operator)(rd:V→V→Hp→VK→Prop):Prop:=
 ∀(pins:List (Addr×Obj))(s:Shared)(σ:St)(H:Hp)(x y:V)(u v:Value)(Q:VK),dB X pins σ H s→df x u→df y v→rd x y H Q→wpAny (model X.prog X.w) X.A (inplaceOp op u v) (EP X pins σ Q) X.xe s
def mW(K:aA)(ta tv:TE)(rd:V→V→Hp→VK→Prop)(f:Str):TS:=λD σ H=>ta σ H λx H1=>∃a C dx fs v,x=.ref a∧H1 a=some (.ins C dx fs)∧oK K C∧gg K C f∧fs.lookup f=some v∧
 tv σ H1 λy H2=>rd v y H2 λz H3=>∃dx' fs',H3 a=some (.ins C dx' fs')∧fs'.length<1000∧D.nx σ (dc H3 a (.ins C dx' (fX f z fs')))
section
variable {X:Cx}{o e value:Expr}{f:Str}{pos pos' tpos:Pos}{ta tv:TE}
theorem eE(he:PE X e ta)(hb:attributeBase e f X.env (eval e X.env)=eval e X.env):PE X (.Attribute e f pos) (fO X.K ta f):=by intro pins s σ H Q I h;refine wO hb (thn (he pins s σ H _ I h) λu s1 ⟨x,H1,I1,rx,q⟩=>?_);obtain⟨a,rfl,q⟩:=onR.ex q;obtain @⟨C,dx,fs,v,ea,c,n,l,q⟩:=q;obtain rfl:u=Value.ref a:=rx;exact lF I1 ea c n l λu' s2 I2 ru=>⟨v,H1,I2,ru,q⟩
theorem ma(ha:PE X o ta)(hv:PE X value tv)(hs:swapsWith value (some (.Attribute o f pos')) pos.line X.env=pure false):PS X (.Assign [.Attribute o f pos'] value pos) (sw X.K ta tv f):=by intro pins s σ H D I h;refine plainObj_wpAny_Assign_Attribute (thn (hv pins s σ H _ I h) λu s1 ⟨y,H1,I1,ry,q⟩=>thn (ha pins s1 σ H1 _ I1 q) λov s2 ⟨x,H2,I2,rx,a,C,dx,fs,ex,ea,c,n,l,q2⟩=>?_) hs;subst ex;obtain rfl:ov=Value.ref a:=rx;exact ky I2 ea c n l ry λs3 I3=>⟨σ,_,I3,q2⟩
theorem lY(ha:PE X o ta)(hv:PE X value tv)(hop:BM X op rd):PS X (.AugAssign (.Attribute o f tpos) op value pos) (mW X.K ta tv rd f):=by intro pins s σ H D I h;refine wpAny_AugAssign_AttributeAny (thn (ha pins s σ H _ I h) λov s1 ⟨x,H1,I1,rx,a,C,dx,fs,v,ex,ea,c,n,l,q⟩=>?_);subst ex;obtain rfl:ov=Value.ref a:=rx;refine lF I1 ea c n l λu s2 I2 ru=>thn (hv pins s2 σ H1 _ I2 q) λw3 s3 ⟨y,H2,I3,ry,q3⟩=>thn (hop pins s3 σ H2 v y u w3 _ I3 ru ry q3) λw4 s4 ⟨z,H3,I4,rz,dx',fs',ea',l',q4⟩=>?_;exact ky I4 ea' c n l' rz λs5 I5=>⟨σ,_,I5,q4⟩
def yp:V→V→Hp→VK→Prop:=λx y H Q=>∃i j,x=.int i∧y=.int j∧Q (.int (i+j)) H
theorem uE:BM X .Add yp:=by rintro pins s σ H x y u v Q I rx ry ⟨i,j,rfl,rfl,q⟩;obtain⟨t,rfl⟩:=(show ∃t,u=Value.int i t from rx);obtain⟨t',rfl⟩:=(show ∃t',v=Value.int j t' from ry);exact PyProof.Rows.iadd_int ⟨.int (i+j),H,I.tok _,⟨_,rfl⟩,q⟩
end
section
variable {X:Cx}{pins:List (Addr×Obj)}{σ:St}{H:Hp}{s:Shared}{A:Around}{E:Value→Shared→Prop}{Q:Value→Shared→Prop}{c:Value}{b:Bool}
inductive kC(K:aA)(H:Hp):V→Value→Prop where
 | non:kC K H .non (.type "NoneType")
 | bl(x:Bool):kC K H (.bl x) (.type "bool")
 | int(i:Int):kC K H (.int i) (.type "int")
 | str(x:Str):kC K H (.str x) (.type "str")
 | flt(x:UInt64):kC K H (.flt x) (.type "float")
 | lst{a:Addr}{xs:List V}(e:H a=some (.lst xs)):kC K H (.ref a) (.type "list")
 | frz{a:Addr}{o:Obj}{xs:List V}(e:H a=some (.frz o (.lst xs))):kC K H (.ref a) (.type "list")
 | tup{a:Addr}{xs:List V}(e:H a=some (.tup xs)):kC K H (.ref a) (.type "tuple")
 | dK{a:Addr}{kvs:List (gJ×V)}(e:H a=some (.dK kvs)):kC K H (.ref a) (.type "dict")
 | dT{a:Addr}{kvs:List (List gJ×V)}(e:H a=some (.dT kvs)):kC K H (.ref a) (.type "dict")
 | ins{a C dx:Addr}{fs:List (Str×V)}(e:H a=some (.ins C dx fs))(cl:oK K C)(ha:PySem.W.findIn K (.ref C) "__class__"=some (some (.builtin "object.__class__")))
   (hn:PySem.W.specialIn K (.builtin "object.__class__") "__get__"=some (some (.builtin "getset_descriptor.__get__"))) (htk:PySem.W.takesIn K (.builtin "object.__class__")=some true)
   (hm:PySem.W.mroIn K C (.type "object")=some true):kC K H (.ref a) (.ref C)
theorem rR(I:dB X pins σ H s)(rx:df x u)(ty:kC X.K H x t)(e:PySem.W.kitOne X.K t c=some b)(h:∀tk,Q (.bool b) {s with toks:=tk}):
  wpAny (model X.prog X.w) A (call (.builtin "isinstance") [u,c]) Q E s:=by
 cases ty with
 | non=>cases(show u=Value.none from rx);exact aW PySem.W.kitx_none I.kIn ac e (λz=>nomatch z) h
 | bl y=>cases(show u=Value.bool y from rx);exact aW PySem.W.kitx_bool I.kIn ac e (λz=>nomatch z) h
 | int i=>obtain⟨t,q⟩:=(show ∃t,u=Value.int i t from rx);cases q;exact aW PySem.W.kitx_int I.kIn ac e (λz=>nomatch z) h
 | str y=>obtain⟨t,q⟩:=(show ∃t,u=Value.str y t from rx);cases q;exact aW PySem.W.kitx_str I.kIn ac e (λz=>nomatch z) h
 | flt y=>obtain⟨t,q⟩:=(show ∃t,u=Value.float y t from rx);cases q;exact aW PySem.W.kitx_float I.kIn ac e (λz=>nomatch z) h
 | @lst a xs ea=>
  cases(show u=Value.ref a from rx);obtain⟨_,_,n,_,h1⟩:=(show eP X.prog X.w H s.heap a (.lst xs)from I.hok a _ ea);exact aW PySem.W.kitx_list I.kIn ⟨_,h1,rfl⟩ e (λz=>nomatch z) h
 | @frz a ob xs ea=>
  cases(show u=Value.ref a from rx);obtain⟨_,_,_,n,_,h1⟩:=(show eP X.prog X.w H s.heap a (.frz ob (.lst xs))from I.hok a _ ea);exact aW PySem.W.kitx_list I.kIn ⟨_,h1,rfl⟩ e (λz=>nomatch z) h
 | @tup a xs ea=>
  cases(show u=Value.ref a from rx);obtain⟨_,_,_,p⟩:=(show eP X.prog X.w H s.heap a (.tup xs)from I.hok a _ ea);obtain⟨o,h1,h2,_⟩:=p;exact aW PySem.W.kitx_tuple I.kIn ⟨o,h1,h2⟩ e (λz=>nomatch z) h
 | @dK a kvs ea=>
  cases(show u=Value.ref a from rx);obtain⟨_,_,vs,_,p⟩:=(show eP X.prog X.w H s.heap a (.dK kvs)from I.hok a _ ea);obtain⟨o,es,ep,h1,h2,_⟩:=p;exact aW PySem.W.kitx_dict I.kIn ⟨o,h1,h2.1⟩ e (λz=>nomatch z) h
 | @dT a kvs ea=>
  cases(show u=Value.ref a from rx);obtain⟨_,_,xs,_,o,es,ep,h1,h2,_⟩:=(show eP X.prog X.w H s.heap a (.dT kvs)from I.hok a _ ea);exact aW PySem.W.kitx_dict I.kIn ⟨o,h1,h2.1⟩ e (λz=>nomatch z) h
 | @ins a C dx fs ea cl ha hn htk hm=>cases(show u=Value.ref a from rx);obtain⟨mA,O,_⟩:=kf I.hok ea;obtain⟨od,J,_⟩:=O.look;exact aW (PySem.W.kitx_own (cl.get _) cl.hd ha hn htk hm) I.kIn J e (λz=>nomatch z) h
end
structure eQ(k:Nat)(A:Around):Prop where
 hd:A.handled=none
 dp:A.depth+3*k+5<recursionLimit
 un:A.units+16*k+200<cLine
theorem eQ.mono(r:eQ k A)(h:j≤k):eQ j A:=⟨r.hd,by have:=r.dp;lia,by have:=r.un;lia⟩
theorem eQ.deeper(r:eQ (k+1) A)(env:Env):eQ k (A.deeper env):=
 ⟨r.hd,by have:=r.dp;show A.depth+1+3*k+5<_;lia,by have:=r.un;show A.units+3+16*k+200<_;lia⟩
theorem oy{A:Around}{C:Addr}{us:List Value}{kw:List (Str×Value)}:(A.under (.builtin "type.__call__" ⟨.ref C::us,kw⟩)).depth=A.depth+1:=by
 first|rfl|simp[Around.under,Code.weight,Code.isCreation,Code.isGuard,Code.isCaller,Code.frames,Code.isFrame,guardIds]
theorem ox{A:Around}{C:Addr}{us:List Value}{kw:List (Str×Value)}:(A.under (.builtin "type.__call__" ⟨.ref C::us,kw⟩)).units=A.units+1:=by
 first|rfl|simp[Around.under,Code.cUnits,Code.frames,Code.isFrame]
theorem eQ.make(r:eQ (k+1) A)(C:Addr)(us:List Value)(kw:List (Str×Value)):eQ k (A.under (.builtin "type.__call__" ⟨.ref C::us,kw⟩)):=
 ⟨r.hd,by have:=r.dp;rw[oy];lia,by have:=r.un;rw[ox];lia⟩
theorem eQ.depth(r:eQ k A):A.depth<recursionLimit:=by have:=r.dp;lia
theorem eQ.units(r:eQ k A):A.units+64<cLine:=by have:=r.un;lia
theorem eQ.units0(r:eQ k A):A.units<cLine:=by have:=r.un;lia
def cy:TA:=λ_ H Q=>Q [] H
def cp(ta:TE)(tr:TA):TA:=λσ H Q=>ta σ H λx H1=>tr σ H1 λxs H2=>Q (x::xs) H2
section
variable {X:Cx}{e:Expr}{es:List Expr}{te:TE}{t:TA}{pos:Pos}
theorem ij:PA X [] cy:=λ_ _ _ _ H Q I h=>Calls.spliced_nil ⟨[],H,I,.nil,h⟩
theorem c7(ha:PE X e te)(hr:PA X es t)(hs:starEach (e::es) X.env=(false,eval e X.env)::starEach es X.env:=by rfl):PA X (e::es) (cp te t):=by intro pos pins s σ H Q I h;rw[hs];show wpAny _ _ (spliced ((false,eval e X.env)::backTo pos (starEach es X.env))) _ _ s;refine Calls.spliced_cons (thn (ha pins s σ H _ I h) λu s1 ⟨x,H1,I1,r1,q1⟩=>?_);exact thn (hr pos pins s1 σ H1 _ I1 q1) λus s2 ⟨xs,H2,I2,r2,q2⟩=>⟨x::xs,H2,I2,.cons r1 r2,q2⟩
def eC(t:TA):TE:=λσ H Q=>t σ H λxs H1=>xs.length≤sizeLine∧kR H1 (.tup xs) Q
def dh(t:TA):TE:=λσ H Q=>t σ H λxs H1=>xs.length≤sizeLine∧kR H1 (.lst xs) Q
theorem dO(h:PA X es t):PE X (.Tuple es x1 pos) (eC t):=by intro pins s σ H Q I hq;refine wpAny_Tuple_spliced (thn (h pos pins s σ H _ I hq) λus s1 ⟨xs,H1,I1,r,z,q⟩=>⟨by rw[←r.length];exact z,?_⟩);have hf:H1 s1.heap.objs.size=none:=I1.hok.fresh (aB _);refine⟨.ref s1.heap.objs.size,dc H1 s1.heap.objs.size (.tup xs),I1.laid (t':=s1.toks) (λb u e=>Heap.get?_push_of_some _ e) (aB _) ?_,rfl,q _ hf⟩;exact⟨z,us,r,⟨_,Heap.get?_push_size _ rfl,rfl,_,rfl⟩⟩
theorem dC(h:PA X es t):PE X (.List es pos) (dh t):=by intro pins s σ H Q I hq;refine wpAny_List_spliced (thn (h pos pins s σ H _ I hq) λus s1 ⟨xs,H1,I1,r,z,q⟩=>⟨by rw[←r.length];exact z,?_⟩);have hf:H1 s1.heap.objs.size=none:=I1.hok.fresh (aB _);refine⟨.ref s1.heap.objs.size,dc H1 s1.heap.objs.size (.lst xs),I1.laid (t':=s1.toks) (λb u e=>Heap.get?_push_of_some _ e) (aB _) ?_,rfl,q _ hf⟩;exact⟨z,us,0,r,Heap.get?_push_size _ rfl⟩
end
abbrev Sp:=List V→Hp→VK→XK→Prop
abbrev rj:=List Env→Hp→Shared→XK→Value→Shared→Prop
structure oI(P:Program)(w:World)(K:aA)(mg:Str→Option Value)(base:Heap)(A:Around)(outer:List Env)(s:Shared)(H:Hp):Prop where
 frames:A.frames=some outer
 mod:Mod K mg base
 bs:∀b o,base.get? b=some o→s.heap.get? b=some o∧H b=none
 bsz:base.objs.size≤s.heap.objs.size
 funs:s.heap.FunFrames base outer
 frf:∀b∈lN outer,H b=none
 hok:i9 P w H s.heap
 bare:AllBare s.gens
def CE(outer:List Env)(P:Program)(w:World)(H:Hp)(s:Shared)(Q:VK)(u:Value)(s':Shared):Prop:=
 ∃v H',s'.os=s.os∧(s.toks≤s'.toks∧AllBare s'.gens)∧Un (lN outer) [] H H' s.heap s'.heap∧i9 P w H' s'.heap∧df v u∧Q v H'
def CR(CX:rj)(outer:List Env)(P:Program)(w:World)(H:Hp)(s:Shared)(Q:VK)(E:XK)(r:Result)(s':Shared):Prop:=
 match r with
 | .ok (.ret u)=>CE outer P w H s Q u s'
 | .ok _=>False
 | .error e=>CX outer H s E e s'
structure hU(P:Program)(w:World)(K:aA)(mg:Str→Option Value)(base:Heap)(CX:rj)(k:Nat)(f:Addr)(fd:FuncData)(ps:List Str)(sp:Sp):Prop where
 len:∀vs H Q E,sp vs H Q E→vs.length=ps.length
 run:∀(A:Around)(outer:List Env)(s:Shared)(H:Hp)(args:Args)(us:List Value)(vs:List V)(Q:VK)(E:XK),eQ k A→oI P w K mg base A outer s H→BindsTo s fd args (ps.zip us)→dS vs us→sp vs H Q E→
  codeAny (model P w) A (.call (.ref f) args) (CR CX outer P w H s Q E) s
theorem oI.make{P:Program}{w:World}{K:aA}{mg:Str→Option Value}{base:Heap}{A:Around}{outer:List Env}{s:Shared}{H:Hp}(e:oI P w K mg base A outer s H)(C:Addr)(us:List Value)(kw:List (Str×Value)):
  oI P w K mg base (A.under (.builtin "type.__call__" ⟨.ref C::us,kw⟩)) outer s H:=⟨by first|exact e.frames|(simpa[Around.under,Code.envs,Code.isFrame,pushEnvs]using e.frames),e.mod,e.bs,e.bsz,e.funs,e.frf,e.hok,e.bare⟩
section
variable {X:Cx}{pins:List (Addr×Obj)}{σ:St}{H:Hp}{s s':Shared}
theorem dB.env0(I:dB X pins σ H s):oI X.prog X.w X.K X.mg X.base X.A X.stack s H:=
 ⟨I.ok.frames,I.ok.mod,I.bs,aE I.ok.bsz I.sz,I.stack,I.stkFree,I.hok,I.bare⟩
theorem dB.after(I:dB X pins σ H s)(h:CE X.stack X.prog X.w H s Q u s'):EP X pins σ Q u s':=by obtain⟨v,H',os,⟨ht,bare⟩,un,hok,r,q⟩:=h;obtain⟨hh,g,d,t,os'⟩:=s';obtain rfl:os'=s.os:=os;exact⟨v,H',I.call (h':=hh) (g':=g) (d':=d) (t':=t) (ch:=[]) un hok bare (λb z=>absurd z (by simp)) ht,r,q⟩
end
def eV(sp:Sp)(dvs:List V)(E:XK)(t:TA):TE:=λσ H Q=>t σ H λvs H1=>sp (vs++dvs) H1 Q E
inductive BH(H:Hp)(a C:Addr)(m:Str)(k:Prop):Prop
 | mk{dx:Addr}{fs:List (Str×V)}(h:H a=some (.ins C dx fs))(l:fs.lookup m=none)(q:k):BH H a C m k
def eB(C:Addr)(m:Str)(sp:Sp)(dvs:List V)(E:XK)(ta:TE)(t:TA):TE:=λσ H Q=>ta σ H λx H1=>onR x λa=>BH H1 a C m (t σ H1 λvs H2=>sp (x::(vs++dvs)) H2 Q E)
def si(C:Addr)(sp:Sp)(dvs:List V)(E:XK)(t:TA):TE:=λσ H Q=>t σ H λvs H1=>∀x dx,H1 x=none→H1 dx=none→dx≠x→
 sp (.ref x::(vs++dvs)) (dc (dc H1 dx (.own x)) x (.ins C dx [])) (λv H2=>v=.non∧Q (.ref x) H2) E
def gO(K:aA)(fd:FuncData)(ps:List Str)(ds:List Value):Prop:=
 ∀(s:Shared)(us:List Value),K.In s.heap→(us++ds).length=ps.length→BindsTo s fd ⟨us,[]⟩ (ps.zip (us++ds))
theorem gO.all{K:aA}{fd:FuncData}{ps:List Str}(h:∀us:List Value,us.length=ps.length→bindArgs fd ⟨us,[]⟩=pure (ps.zip us)):gO K fd ps []:=λs us _ hl=>by rw[ag]at hl⊢;exact .of_eq (h us hl)
def gz(CX:rj)(X:Cx)(E:XK):Prop:=∀(pins:List (Addr×Obj))(σ:St)(H:Hp)(s:Shared)(e:Value)(s':Shared),dB X pins σ H s→CX X.stack H s E e s'→X.xe e s'
section
variable {X:Cx}{CX:rj}{k:Nat}{f C:Addr}{fd:FuncData}{ps:List Str}{sp:Sp}{dvs:List V}{ds:List Value}{E:XK}{x m:Str}{p pos apos:Pos}{e o:Expr}{es:List Expr}{ta:TE}{t:TA}
theorem oY(F:hU X.prog X.w X.K X.mg X.base CX k f fd ps sp)(hr:eQ k X.A)(hb:gO X.K fd ps ds)(hd:dS dvs ds)(hx:gz CX X E)
  (I:dB X pins σ H s) (r:dS vs us) (h:sp (vs++dvs) H Q E):wpAny (model X.prog X.w) X.A (call (.ref f) us) (EP X pins σ Q) X.xe s:=by
 have r2:dS (vs++dvs) (us++ds):=r.append hd;have hl:(us++ds).length=ps.length:=by rw[←r2.length];exact F.len _ _ _ _ h
 refine wpAny_call (codeAny_mono (F.run X.A X.stack s H ⟨us,[]⟩ (us++ds) (vs++dvs) Q E hr I.env0 (hb s us I.kIn hl) r2 h) λr s' hq=>?_);cases r with
 | error e=>exact hx pins σ H s e s' I hq
 | ok fl=>
  cases fl with
  | ret u=>exact I.after hq
  | next=>exact False.elim hq
  | brk=>exact False.elim hq
  | cont=>exact False.elim hq
theorem vd(F:hU X.prog X.w X.K X.mg X.base CX k f fd ps sp)(hr:eQ k X.A)(hg:Gl X x)(hm:X.mg x=some (.ref f))(hk:PySem.W.keepIn X.K (.ref f)=true)(hb:gO X.K fd ps ds)(hd:dS dvs ds)(hx:gz CX X E)
  (ha:PA X (e::es) t) (hdb:(x==("__debug__":Str))=false:=by decide) (he:starEach (e::es) X.env=(false,eval e X.env)::starEach es X.env:=by rfl) (hpl:(backTo pos (starEach es X.env)).any (·.1)=false:=by rfl):
  PE X (.Call (.Name x p) (e::es) [] pos) (eV sp dvs E t):=by
 intro pins s σ H Q I h;refine wpAny_Call_Name_kw (gm I hg hm ?_ hdb);refine bP (h₀:=X.base) I.ok.mod.kin hk (thn (ha pos pins s σ H _ I h) λus s1 ⟨vs,H1,I1,r,q⟩=>⟨I1.kIn,?_⟩) he hpl;exact oY F hr hb hd hx I1 r q
theorem qL(he:PE X o ta)(c:oK X.K C)(hm:fT X.K C m f)(F:hU X.prog X.w X.K X.mg X.base CX k f fd ps sp)(hr:eQ k X.A)(hb:gO X.K fd ps ds)(hd:dS dvs ds)(hx:gz CX X E)(ha:PA X (e::es) t)
  (hst:starEach (e::es) X.env=(false,eval e X.env)::starEach es X.env:=by rfl) (hpl:(backTo pos (starEach es X.env)).any (·.1)=false:=by rfl)
  (ht:eval (.Call (.Attribute o m apos) (e::es) [] pos) X.env=(do
   let ov ← eval o X.env
   standAt apos.atName
   let (f,first) ← holding [ov] (getMethod ov m pl)
   callWith pos f first (backTo pos (starEach (e::es) X.env)) (backToKw pos (keywordEach [] X.env))):=by rfl):
  PE X (.Call (.Attribute o m apos) (e::es) [] pos) (eB C m sp dvs E ta t):=by
 intro pins s σ H Q I h;refine cR (pl:=pl) (thn (he pins s σ H _ I h) λu s1 ⟨x,H1,I1,rx,q⟩=>?_) ht;obtain⟨a,rfl,q⟩:=onR.ex q;obtain @⟨dx,fs,ea,l,q⟩:=q;obtain rfl:u=Value.ref a:=rx;refine lE I1 ea c hm l ?_;refine bP (first:=[.ref a]) (h₀:=X.base) I.ok.mod.kin hm.kp (thn (ha pos pins s1 σ H1 _ I1 q) λus s2 ⟨vs,H2,I2,r,q2⟩=>⟨I2.kIn,?_⟩) hst hpl;exact oY (us:=.ref a::us) (vs:=.ref a::vs) F hr hb hd hx I2 (.cons rfl r) q2
theorem tU(he:PE X o ta)(c:oK X.K C)(hm:fT X.K C m f)(F:hU X.prog X.w X.K X.mg X.base CX k f fd ps sp)(hr:eQ k X.A)(hb:gO X.K fd ps ds)(hd:dS dvs ds)(hx:gz CX X E)
  (ht:eval (.Call (.Attribute o m apos) [] [] pos) X.env=(do
   let ov ← eval o X.env
   standAt apos.atName
   let (f,first) ← holding [ov] (getMethod ov m pl)
   callWith pos f first (backTo pos (starEach [] X.env)) (backToKw pos (keywordEach [] X.env))):=by rfl):
  PE X (.Call (.Attribute o m apos) [] [] pos) (eB C m sp dvs E ta cy):=by
 intro pins s σ H Q I h;refine cR (pl:=pl) (thn (he pins s σ H _ I h) λu s1 ⟨x,H1,I1,rx,q⟩=>?_) ht;obtain⟨a,rfl,q⟩:=onR.ex q;obtain @⟨dx,fs,ea,l,q⟩:=q;obtain rfl:u=Value.ref a:=rx;refine lE I1 ea c hm l ?_;exact PySem.W.callWith_K0 (first:=[.ref a]) I1.kIn hm.kp (oY (us:=[.ref a]) (vs:=[.ref a]) F hr hb hd hx I1 (.cons rfl .nil) q)
structure Mk(K:aA)(C f:Addr):Prop where
 makes:PySem.W.makesIn K C=true
 init:PySem.W.findIn K (.ref C) "__init__"=some (some (.ref f))
 fn:PySem.W.isFn K (.ref f)=true
 kp:PySem.W.keepIn K (.ref C)=true
theorem s9(M:Mk X.K C f)(F:hU X.prog X.w X.K X.mg X.base CX k f fd ps sp)(hr:eQ (k+1) X.A)(hb:gO X.K fd ps ds)(hd:dS dvs ds)
  (hx:gz CX X E) (I:dB X pins σ H s) (r:dS vs us)
  (h:∀x dx,H x=none→H dx=none→dx≠x→sp (.ref x::(vs++dvs)) (dc (dc H dx (.own x)) x (.ins C dx [])) (λv H2=>v=.non∧Q (.ref x) H2) E):
  wpAny (model X.prog X.w) X.A (call (.ref C) us) (EP X pins σ Q) X.xe s:=by
 have hq:=h (s.heap.objs.size+1) s.heap.objs.size (I.hok.fresh (aQ _)) (I.hok.fresh (aB _)) (aI (bO _));have I2:=dB.made (C:=C) I;have r2:dS (V.ref (s.heap.objs.size+1)::(vs++dvs)) (Value.ref (s.heap.objs.size+1)::(us++ds)):=.cons rfl (r.append hd);have hl:(Value.ref (s.heap.objs.size+1)::us++ds).length=ps.length:=by have e:=r2.length;rw[F.len _ _ _ _ hq]at e;exact e.symm
 refine wpAny_call (uA (f:=f) I.kIn M.makes M.init (beq_iff_eq.mp M.fn) (codeAny_mono (F.run _ X.stack _ _ ⟨Value.ref (s.heap.objs.size+1)::us,[]⟩ (Value.ref (s.heap.objs.size+1)::(us++ds)) _ _ E (hr.make C us [])
  (I2.env0.make C us []) (hb _ (Value.ref (s.heap.objs.size+1)::us) I2.kIn hl) r2 hq) λr s' hq'=>?_))
 cases r with
 | error e=>exact hx pins σ _ _ e s' I2 hq'
 | ok fl=>
  cases fl with
  | ret u=>obtain⟨v,H',I3,rv,ev,q3⟩:=I2.after hq';subst ev;exact⟨rv,⟨V.ref (s.heap.objs.size+1),H',I3,rfl,q3⟩⟩
  | next=>exact False.elim hq'
  | brk=>exact False.elim hq'
  | cont=>exact False.elim hq'
theorem vb(M:Mk X.K C f)(F:hU X.prog X.w X.K X.mg X.base CX k f fd ps sp)(hr:eQ (k+1) X.A)(hg:Gl X x)(hm:X.mg x=some (.ref C))(hb:gO X.K fd ps ds)(hd:dS dvs ds)(hx:gz CX X E)
  (ha:PA X (e::es) t) (hdb:(x==("__debug__":Str))=false:=by decide) (he:starEach (e::es) X.env=(false,eval e X.env)::starEach es X.env:=by rfl) (hpl:(backTo pos (starEach es X.env)).any (·.1)=false:=by rfl):
  PE X (.Call (.Name x p) (e::es) [] pos) (si C sp dvs E t):=by
 intro pins s σ H Q I h;refine wpAny_Call_Name_kw (gm I hg hm ?_ hdb);refine bP (h₀:=X.base) I.ok.mod.kin M.kp (thn (ha pos pins s σ H _ I h) λus s1 ⟨vs,H1,I1,r,q⟩=>⟨I1.kIn,?_⟩) he hpl;exact s9 M F hr hb hd hx I1 r q
end
section
variable {X:Cx}{CX:rj}{k:Nat}{f C:Addr}{fd:FuncData}{ps ks:List Str}{sp:Sp}{E:XK}{x m:Str}{p pos apos kpos:Pos}{e o:Expr}{es:List Expr}{kws:List Keyword}{te ta:TE}{t tk:TA}{nm:Option Str}
variable {g:List Value→List Value→List Value}{gV:List V→List V→List V}
end
structure gp(N P:List Str)(sc:Scope):Prop where
 kind:sc.kind=.function
 co:sc.isCoroutine=false
 gen:sc.isGenerator=false
 nd:N.Nodup
 pre:N.take P.length=P
 par:∀x∈P,sc.names.lookup x=some .local∨sc.names.lookup x=some .cell
 nofree:∀y∈sc.names,y.2≠.free
theorem lq{kindOf:Str→Option NameKind}{x:Str}:∀{binds:List (Str×Value)}{m:Str→Option Value},(∀v,(x,v)∉binds)→bindL kindOf binds m x=m x
 | [],_,_=>rfl
 | (n,v)::r,m,h=>by
  unfold bindL;rw[lq λw hw=>h w (aa _ hw)];split
  ·have:x≠n:=by rintro rfl;exact h v bK
   simp[this]
  ·rfl
theorem lu{kindOf:Str→Option NameKind}{x:Str}:∀{binds:List (Str×Value)}{m:Str→Option Value},(∀v,(x,v)∉binds)→bindC kindOf binds m x=m x
 | [],_,_=>rfl
 | (n,v)::r,m,h=>by
  unfold bindC;rw[lu λw hw=>h w (aa _ hw)];split
  ·rfl
  ·have:x≠n:=by rintro rfl;exact h v bK
   simp[this]
theorem ls{kindOf:Str→Option NameKind}{x:Str}{v:Value}:∀{P:List Str}{vs:List Value}{i:Nat}{m:Str→Option Value},P.Nodup→P[i]?=some x→vs[i]?=some v→kindOf x=some .local→
  bindL kindOf (P.zip vs) m x=some v
 | [],_,_,_,_,h,_,_=>by simp at h
 | _::_,[],_,_,_,_,h,_=>by simp at h
 | p::P,w::vs,0,m,nd,h1,h2,hk=>by simp at h1 h2;subst h1;subst h2;show bindL kindOf ((p,w)::P.zip vs) m p=_;unfold bindL;rw[lq λv hv=>(bZ.mp nd).1 (ba hv).1,if_pos hk];simp
 | p::P,w::vs,i+1,m,nd,h1,h2,hk=>by show bindL kindOf ((p,w)::P.zip vs) m x=_;unfold bindL;exact ls (i:=i) (bZ.mp nd).2 (by simpa using h1) (by simpa using h2) hk
theorem lv{kindOf:Str→Option NameKind}{x:Str}{v:Value}:∀{P:List Str}{vs:List Value}{i:Nat}{m:Str→Option Value},P.Nodup→P[i]?=some x→vs[i]?=some v→kindOf x≠some .local→
  bindC kindOf (P.zip vs) m x=some v
 | [],_,_,_,_,h,_,_=>by simp at h
 | _::_,[],_,_,_,_,h,_=>by simp at h
 | p::P,w::vs,0,m,nd,h1,h2,hk=>by simp at h1 h2;subst h1;subst h2;show bindC kindOf ((p,w)::P.zip vs) m p=_;unfold bindC;rw[lu λv hv=>(bZ.mp nd).1 (ba hv).1,if_neg hk];simp
 | p::P,w::vs,i+1,m,nd,h1,h2,hk=>by show bindC kindOf ((p,w)::P.zip vs) m x=_;unfold bindC;exact lv (i:=i) (bZ.mp nd).2 (by simpa using h1) (by simpa using h2) hk
def start(N:List Str)(vs:List V):St:=vs.map some++List.replicate (N.length-vs.length) none
def gH(CX:rj)(P:Program)(w:World)(K:aA)(mg:Str→Option Value)(base:Heap)(N:List Str)(qual:Str)(scope:Scope)(f:Addr)(cd:Value)(A:Around)(outer:List Env)(s:Shared)(H:Hp)(E:XK):Cx where
 prog:=P
 w:=w
 K:=K
 mg:=mg
 base:=base
 A:=A.deeper (envOfC qual scope s.heap.objs.size f cd)
 N:=N
 s₀:=s
 H₀:=H
 env:=envOfC qual scope s.heap.objs.size f cd
 outer:=outer
 stack:=envOfC qual scope s.heap.objs.size f cd::outer
 ex:=[]
 calm:=true
 fn:=λ_=>true
 pn:=[]
 xe:=λe s'=>wpAny (model P w) (A.deeper (envOfC qual scope s.heap.objs.size f cd)) (leaving (envOfC qual scope s.heap.objs.size f cd) e) (λ_ s''=>CX outer H s E e s'') (λe' s''=>CX outer H s E e' s'') s'
theorem oB{sc:Scope}{n:Nat}{x:Str}(h:sc.names.lookup x=some .cell):∃c,(cellsFrom n sc.names []).lookup x=some c:=by have q:=br sc.names n [] (.inl h);exact Option.isSome_iff_exists.mp q
theorem lh{CX:rj}{P:Program}{w:World}{K:aA}{mg:Str→Option Value}{base:Heap}{N ps:List Str}{qual:Str}{scope:Scope}{f:Addr}{cd:Value}{A:Around}{outer:List Env}{s s1:Shared}{H:Hp}{E:XK}{us:List Value}{vs:List V}
  (S:gp N ps scope) (hd:A.handled=none) (e0:oI P w K mg base A outer s H) (hl:vs.length=ps.length) (r:dS vs us)
  (x:InCallC s s.heap.objs.size (bindL (envOfC qual scope s.heap.objs.size f cd).kindOf (ps.zip us) λ_=>none) (cellsFrom (s.heap.objs.size+1) scope.names []) (bindC (envOfC qual scope s.heap.objs.size f cd).kindOf (ps.zip us) λ_=>none) s1) (ht:s.toks≤s1.toks):
  dB (gH CX P w K mg base N qual scope f cd A outer s H E) [] (start N vs) H s1:=by
 have hpl:ps.length≤N.length:=by have:=congrArg List.length S.pre;rw[ak]at this;lia
 obtain⟨h1,tk,rfl,hk⟩:=x.done;have noA:∀b:Addr,b∉(gH CX P w K mg base N qual scope f cd A outer s H E).ex:=λb z=>absurd (show b∈([]:List Addr)from z) (by simp);refine⟨⟨e0.mod,S.kind,rfl,rfl,aB _,λy z c h1 h2=>?_,λy hy=>?_,λy c _ h=>?_,λ_=>hd,Around.frames_deeper e0.frames,.inr ⟨rfl,rfl⟩,λb z=>absurd z (noA b),e0.bs,e0.bsz,λb _ _=>noA b,λb z=>absurd z (noA b),e0.funs,e0.frf⟩,
  rfl,e0.bare,Un.kept hk,⟨_,x.toInCall.ns,λi y v h1 h2 h3=>?_⟩,λy c h=>⟨_,x.cell y c h⟩,e0.hok.fresh (aB _),λy c h=>?_,λp hp=>absurd (show p∈([]:List (Addr×Obj))from hp) (by simp),e0.hok.kept hk,?_,ht⟩
 ·exact name_of_addr x.apart (bQ h1) (bQ h2)
 ·have hy:scope.names.lookup y=some .cell∨scope.names.lookup y=some .free:=hy;rcases hy with hy|hy
  ·exact oB hy
  ·exact absurd rfl (S.nofree _ (bQ hy))
 ·exact bE (x.above y c (bQ h))
 ·have hi:i<vs.length:=by
   unfold start at h2;by_cases hi:i<vs.length
   ·exact hi
   ·rw[bt (by simpa using hi)]at h2;rw[bu]at h2;split at h2<;>cases h2
  have ha:vs[i]?=some v:=by
   unfold start at h2;rw[cS (by simpa using hi),al]at h2;cases e:vs[i]? with
   | none=>rw[e]at h2;cases h2
   | some a=>rw[e]at h2;cases h2;rfl
  obtain⟨u,hu,rv⟩:=r.get ha;have hp:ps[i]?=some y:=by rw[←S.pre,List.getElem?_take_of_lt (by lia)];exact h1
  have ndP:ps.Nodup:=by rw[←S.pre];exact S.nd.sublist (List.take_sublist _ _)
  refine⟨u,rv,?_⟩;rcases S.par y (bv hp)with k|k
  ·exact .inl ⟨k,ls ndP hp hu k⟩
  ·obtain⟨c,e⟩:=oB (n:=s.heap.objs.size+1) k;refine .inr ⟨.inl k,c,e,?_⟩;have q:=x.cell y c e;rw[lv ndP hp hu (by show scope.names.lookup y≠_;rw[k];decide)]at q;exact q
 ·exact e0.hok.fresh (bE (x.above y c (bQ h)))
 ·unfold start;show _=N.length;rw[aD,aV,bw];lia
theorem w5{CX:rj}{P:Program}{w:World}{K:aA}{mg:Str→Option Value}{base:Heap}{k:Nat}{f:Addr}{name qual:Str}{params:Arguments}{body:List Stmt}{scope:Scope}{dV kV doc pm cdv ct oc:Value}{an od:Option Addr}
  {osl:Array (Option Value)} {N ps:List Str} {sp:Sp} (lk:K.lookup f=some ⟨oc,od,.func (PySem.W.fnOf name qual params body scope dV kV doc pm an cdv ct),osl⟩) (hcd:PySem.W.codeIn K cdv qual=true) (S:gp N ps scope)
  (len:∀vs H Q E,sp vs H Q E→vs.length=ps.length)
  (hbody:∀(A:Around)(outer:List Env)(s:Shared)(H:Hp)(vs:List V)(Q:VK)(E:XK),eQ k (A.deeper (envOfC qual scope s.heap.objs.size f cdv))→sp vs H Q E→
   ∃t,kU (gH CX P w K mg base N qual scope f cdv A outer s H E) body t∧t {nx:=λ_ H'=>Q .non H',rt:=Q} (start N vs) H):
  hU P w K mg base CX (k+1) f (PySem.W.fnOf name qual params body scope dV kV doc pm an cdv ct) ps sp:=by
 refine⟨len,λA outer s H args us vs Q E hr e0 hb r hsp=>?_⟩;have hl:=len _ _ _ _ hsp;have KX:K.In s.heap:=e0.mod.kin.keeps λb o e=>(e0.bs b o e).1;have lim:s.heap.NoLimit:=e0.mod.nolimit.keeps λb o e=>(e0.bs b o e).1;have hkind:∀y∈ps.zip us,scope.names.lookup y.1=some .local∨(scope.names.lookup y.1=some .cell∧((cellsFrom (s.heap.objs.size+1) scope.names []).lookup y.1).isSome=true):=λ⟨n,v⟩ hy=>by
  rcases S.par n (ba hy).1 with q|q
  ·exact .inl q
  ·exact .inr ⟨q,br _ _ _ (.inl q)⟩
 refine codeAny_call_function hr.depth (KX _ _ lk) rfl S.co S.gen rfl (PySem.W.codeRec_of KX hcd) (hb _ _ _ _ ?_);refine wpAny_with_toks (aB s.toks) (wpAny_newFunctionEnv_cells S.kind hkind λenv he s1 x hts=>?_);subst he;refine⟨lim.keeps x.toInCall.keep,codeAny_func ?_⟩;obtain⟨t,ht,hq⟩:=hbody A outer s H vs Q E (hr.deeper _) hsp;have I:dB (gH CX P w K mg base N qual scope f cdv A outer s H E) [] (start N vs) H s1:=lh S hr.hd e0 hl r x hts;refine wpAny_mono (ht [] s1 (start N vs) H _ I hq) (λfl s' hs=>?_) λe s' hs=>hs;have fC:∀{σ':St}{H':Hp}{v:V}{u:Value},dB (gH CX P w K mg base N qual scope f cdv A outer s H E) [] σ' H' s'→df v u→Q v H'→CE outer P w H s Q u s':=
  λ{σ' H' v u} J rv q=>⟨v,H',J.os,⟨J.tk,J.bare⟩,J.base,J.hok,rv,q⟩
 cases fl with
 | ret u=>obtain⟨v,σ',H',J,rv,q⟩:=hs;exact fC J rv q
 | next=>obtain⟨σ',H',J,q⟩:=hs;exact fC (v:=V.non) (u:=Value.none) J rfl q
 | brk=>obtain⟨_,_,_,q⟩:=hs;exact False.elim q
 | cont=>obtain⟨_,_,_,q⟩:=hs;exact False.elim q
section
variable {X:Cx}{x:Str}{p pos:Pos}{e:Expr}{es:List Expr}{t:TA}{id T:String}{r:List V→Hp→VK→Prop}
def gG(r:List V→Hp→VK→Prop)(t:TA):TE:=λσ H Q=>t σ H λvs H1=>r vs H1 Q
theorem dD(hc:iG X (.builtin id) r)(hg:Gl X x)(hm:X.mg x=none)(hv:bootBuiltins x=some (.builtin id))(ha:PA X (e::es) t)(hn:x≠"__name__":=by decide)(hdb:(x==("__debug__":Str))=false:=by decide)
  (he:starEach (e::es) X.env=(false,eval e X.env)::starEach es X.env:=by rfl) (hpl:(backTo pos (starEach es X.env)).any (·.1)=false:=by rfl):PE X (.Call (.Name x p) (e::es) [] pos) (gG r t):=by
 intro pins s σ H Q I h;refine wpAny_Call_Name_kw (jS I hg hm hv ?_ hn hdb);exact PyProof.Rows.callWith_builtin1 (thn (ha pos pins s σ H _ I h) λus s1 ⟨vs,H1,I1,r1,q1⟩=>hc pins s1 σ H1 vs us Q I1 r1 q1) he hpl
theorem ei(hc:iG X (.type T) r)(hg:Gl X x)(hm:X.mg x=none)(hv:bootBuiltins x=some (.type T))(ha:PA X (e::es) t)(hn:x≠"__name__":=by decide)(hdb:(x==("__debug__":Str))=false:=by decide)
  (he:starEach (e::es) X.env=(false,eval e X.env)::starEach es X.env:=by rfl) (hpl:(backTo pos (starEach es X.env)).any (·.1)=false:=by rfl):PE X (.Call (.Name x p) (e::es) [] pos) (gG r t):=by
 intro pins s σ H Q I h;refine wpAny_Call_Name_kw (jS I hg hm hv ?_ hn hdb);exact bM (thn (ha pos pins s σ H _ I h) λus s1 ⟨vs,H1,I1,r1,q1⟩=>hc pins s1 σ H1 vs us Q I1 r1 q1) he hpl
end
end L2
namespace HT
open PySem PyProof.Rows
section
open PySem.SeqAt
open PySem.AutoSeq1 (wpAny_loadPart')
open PySem.MeetsSeq PySem.MeetsSeq2 PySem.MeetsSeq3
end
section
variable {prog:Program}{w:World}{A:Around}{E:Value→Shared→Prop}{s:Shared}
theorem Bd(ht:IsTup s.heap t vs.toArray)(hb:IsTup s.heap b ws.toArray)(hv:vs≠[])
  (h1:ws=[]→Q (.ref t) s) (h2:ws≠[]→Q (.ref s.heap.objs.size) {s with heap:=s.heap.push {cls:=.type "tuple",data:=.seq (vs++ws).toArray}})
  (hsz:vs.length+ws.length≤sizeLine):wpAny (model prog w) A (binaryOp .Add (.ref t) (.ref b)) Q E s:=by
 obtain⟨⟨cls,dd,data,sl⟩,ho,hc,n,hd⟩:=id ht;obtain⟨⟨cls2,dd2,data2,sl2⟩,ho2,hc2,n2,hd2⟩:=id hb;simp only at hc hd hc2 hd2;subst hc hd hc2 hd2;have e:vs.toArray++ws.toArray=(vs++ws).toArray:=by simp
 by_cases hw:ws=[]
 ·exact concat_meets ⟨_,ho,rfl⟩ ⟨_,ho2,rfl⟩ noFill_tuple_add seq_tuple_add bx bz (b4 _ _)
   (tuple_addW1 t b vs.toArray ws.toArray n n2 dd dd2 sl sl2 (by simpa using hv) (by simp[hw])) ⟨ho,ho2,h1 hw⟩
 ·refine concat_meets ⟨_,ho,rfl⟩ ⟨_,ho2,rfl⟩ noFill_tuple_add seq_tuple_add bx bz (b4 _ _)
   (tuple_addW2 t b vs.toArray ws.toArray n n2 dd dd2 sl sl2 (by simpa using hv) (by simpa using hw) (by rw[aK,aK];exact hsz)) ⟨ho,ho2,?_⟩
  rw[e];exact h2 hw
def jB(n d:Nat):Option Int→Nat
 | none=>d
 | some v=>if v<0 then(v+(n:Int)).toNat else min v.toNat n
theorem AO(n d:Nat):jB n d none=d:=rfl
theorem BV(n d k:Nat):jB n d (some (k:Int))=min k n:=by show(if(k:Int)<0 then((k:Int)+(n:Int)).toNat else min (k:Int).toNat n)=min k n;rw[if_neg (by lia),Int.toNat_natCast]
theorem yl(n d:Nat)(hd:d≤n)(o:Option Int):jB n d o≤n:=by
 cases o with
 | none=>exact hd
 | some v=>
  show(if v<0 then(v+(n:Int)).toNat else min v.toNat n)≤n;by_cases hv:v<0
  ·rw[if_pos hv];lia
  ·rw[if_neg hv];exact Nat.min_le_right _ _
theorem qi(v:Int)(n d:Nat):(if v<0 then max (v+(n:Int)) 0 else min v (n:Int))=((jB n d (some v):Nat):Int):=by
 show(if v<0 then max (v+(n:Int)) 0 else min v (n:Int))=(((if v<0 then(v+(n:Int)).toNat else min v.toNat n):Nat):Int);by_cases hv:v<0
 ·simp only[if_pos hv];lia
 ·simp only[if_neg hv];lia
theorem pG(lo hi:Option Int)(n:Nat):Builtin.Slice.sliceAdjust lo hi 1 (n:Int)=(((jB n 0 lo:Nat):Int),((jB n n hi:Nat):Int)):=by
 have h1:¬((1:Int)<0):=by lia
 unfold Builtin.Slice.sliceAdjust;simp only[h1,if_false];refine Prod.ext ?_ ?_
 ·cases lo with
  | none=>rfl
  | some v=>exact qi v n 0
 ·cases hi with
  | none=>rfl
  | some v=>exact qi v n n
theorem oq(i j:Nat):Builtin.Slice.slicePlaces (i:Int) (j:Int) 1=j-i:=by
 unfold Builtin.Slice.slicePlaces;have h1:(1:Int)>0:=by lia
 simp only[h1,if_true,Int.ediv_one];split<;>lia
theorem ku(p:IsPart v o)(h:Q o s):wpAny (model prog w) A (Builtin.Slice.slicePartIndex v) Q E s:=by
 cases p with
 | none=>exact slicePart_none h
 | int i t=>exact slicePart_int h
theorem ju{sl:Addr}{vl vu:Value}{lo hi:Option Int}{n:Nat}{Q:Int×Int×Nat→Shared→Prop}(hs:s.heap.IsSliceOf sl vl vu .none)(pl:IsPart vl lo)(pu:IsPart vu hi)
  (h:Q (((jB n 0 lo:Nat):Int),1,jB n n hi-jB n 0 lo) s):wpAny (model prog w) A (Builtin.Slice.sliceApplied (.ref sl) (pure (n:Int))) Q E s:=by
 obtain⟨os,hos,hcs,hds⟩:=id hs;unfold Builtin.Slice.sliceApplied Builtin.Slice.sliceFields;refine wpAny_bind (wpAny_bind (wpAny_field hos hds (x:=vl) rfl (wpAny_bind (wpAny_field hos hds (x:=vu) rfl (wpAny_bind (wpAny_field hos hds (x:=.none) rfl (wpAny_pure ?_)))))));refine wpAny_bind (slicePart_none ?_);show wpAny _ _ (if((1:Int)==0)=true then _ else _) _ _ s;rw[if_neg (by decide)];refine wpAny_bind (ku pl (wpAny_bind (ku pu (wpAny_bind (wpAny_pure ?_)))));show wpAny _ _ (match Builtin.Slice.sliceAdjust lo hi 1 (n:Int) with|(lo,hi)=>pure (lo,(1:Int),Builtin.Slice.slicePlaces lo hi 1)) _ _ s;rw[pG lo hi n];show wpAny _ _ (pure (((jB n 0 lo:Nat):Int),(1:Int),Builtin.Slice.slicePlaces ((jB n 0 lo:Nat):Int) ((jB n n hi:Nat):Int) 1)) _ _ s;rw[oq];exact wpAny_pure h
theorem tQ(xs:Array Value)(i k:Nat):((List.range k).filterMap λ(m:Nat)=>xs[((i:Int)+(m:Int)*1).toNat]?).toArray=((xs.toList.drop i).take k).toArray:=by
 have e:(λ(m:Nat)=>xs[((i:Int)+(m:Int)*1).toNat]?)=λm=>xs[i+m]?:=by
  funext m;have:((i:Int)+(m:Int)*1).toNat=i+m:=by lia
  rw[this]
 rw[e];have:=pick_run xs i k;rw[List.filterMap_map]at this;have e2:((λx=>xs[x]?)∘λx=>i+x)=λm=>xs[i+m]?:=rfl;rw[e2]at this;rw[this]
theorem qW{t sl:Addr}{items:Array Value}{vl vu:Value}{lo hi:Option Int}{Q:Value→Shared→Prop}(ht:IsTup s.heap t items)(hs:s.heap.IsSliceOf sl vl vu .none)(pl:IsPart vl lo)(pu:IsPart vu hi)
  (hw:¬(jB items.size 0 lo=0∧jB items.size items.size hi=items.size))
  (h:Q (.ref s.heap.objs.size) {s with heap:=s.heap.push {cls:=.type "tuple",data:=.seq ((items.toList.drop (jB items.size 0 lo)).take (jB items.size items.size hi-jB items.size 0 lo)).toArray}})
  (hsz:items.size≤sizeLine):wpAny (model prog w) A (getItem (.ref t) (.ref sl)) Q E s:=by
 have htake:sizeOk (.seq ((items.toList.drop (jB items.size 0 lo)).take (jB items.size items.size hi-jB items.size 0 lo)).toArray):=by show((items.toList.drop (jB items.size 0 lo)).take (jB items.size items.size hi-jB items.size 0 lo)).toArray.size≤sizeLine;rw[aK,ak,aO,bo];lia
 have hj:jB items.size items.size hi≤items.size:=yl _ _ (aB _) hi;obtain⟨os,hos,hcs,hds⟩:=id hs;have hTs:s.TypeIs (.ref sl) "slice":=⟨os,hos,hcs⟩;unfold getItem
 try with_reducible refine wpAny_holding ?_
 first|refine wpAny_bind (wpAny_pure ?_)|skip
 refine wpAny_bind (wpAny_sequenceKey ht.typeIs (by decide) ?_);refine wpAny_bind (wpAny_callSpecial?_slot (name:=Str.ofString "__getitem__") ht.typeIs b5
  (wpAny_call_entry b5 ht.typeIs entry_tuple_getitem ?_ (args_tuple_getitem _ _)))
 show wpAny _ _ (Builtin.Tuple.tupleItemsOf (.ref t) >>= _) _ _ s;refine wpAny_bind (tupleItemsOf_ ht ?_);refine wpAny_bind (wpAny_typeOf hTs ?_);rw[if_pos (by decide)];refine wpAny_bind (ju hs pl pu ?_);have hno:¬((((jB items.size 0 lo:Nat):Int)==0&&(1:Int)==1&&(jB items.size items.size hi-jB items.size 0 lo)==items.size)=true):=by intro q;rw[aq,aq]at q;have q1:((jB items.size 0 lo:Nat):Int)=0:=eq_of_beq q.1.1;have q2:jB items.size items.size hi-jB items.size 0 lo=items.size:=eq_of_beq q.2;exact hw ⟨by lia,by lia⟩
 show wpAny _ _ (if(((jB items.size 0 lo:Nat):Int)==0&&(1:Int)==1&&(jB items.size items.size hi-jB items.size 0 lo)==items.size)=true then _ else _) _ _ s;rw[if_neg hno,tQ]
 first
  | exact wpAny_bind (m:=Builtin.Tuple.tupleExact _) (wpAny_newObj_type (wpAny_pure ⟨_,rfl,wpAny_pure h⟩) htake)
  | exact wpAny_bind (m:=Builtin.Tuple.tupleExact _) (wpAny_newObj_type (wpAny_bind (wpAny_pure (wpAny_pure ⟨_,rfl,wpAny_pure h⟩))) htake)
  | exact wpAny_bind (wpAny_bind (m:=Builtin.Tuple.tupleExact _) (wpAny_newObj_type (wpAny_pure (wpAny_pure ⟨_,rfl,wpAny_pure h⟩)) htake))
  | exact wpAny_bind (wpAny_bind (m:=Builtin.Tuple.tupleExact _) (wpAny_newObj_type (wpAny_pure ⟨_,rfl,wpAny_pure h⟩) htake))
end
end HT
namespace L2
open PySem PySem.Spec PyProof.Rows
abbrev TO:=St→Hp→(Option Int→Hp→Prop)→Prop
def PO(X:Cx)(e:Option Expr)(t:TO):Prop:=
 ∀(pins:List (Addr×Obj))(s:Shared)(σ:St)(H:Hp)(Q:Option Int→Hp→Prop),dB X pins σ H s→t σ H Q→
  wpAny (model X.prog X.w) X.A (evalPart e X.env) (λu s'=>∃o H',dB X pins σ H' s'∧IsPart u o∧Q o H') X.xe s
def eN:TO:=λ_ H Q=>Q none H
def eL(t:TE):TO:=λσ H Q=>t σ H λx H1=>onI x λi=>Q (some i) H1
section
variable {X:Cx}{e:Expr}{te:TE}{lo hi:Option Expr}{tl th:TO}{pos p2:Pos}
theorem fF:PO X none eN:=by intro pins s σ H Q I h;rw[evalPart_none];exact wpAny_pure ⟨none,H,I,.none,h⟩
theorem dm(h:PE X e te):PO X (some e) (eL te):=by intro pins s σ H Q I hw;rw[evalPart_some];refine thn (h pins s σ H _ I hw) λu s1 ⟨x,H1,I1,r1,q1⟩=>?_;obtain⟨i,rfl,q⟩:=onI.ex q1;obtain⟨t,rfl⟩:=r1;exact⟨some i,H1,I1,.int i t,q⟩
def Bf(X:Cx)(r:V→Option Int→Option Int→Hp→VK→Prop):Prop:=
 ∀(pins:List (Addr×Obj))(s:Shared)(σ:St)(H:Hp)(x:V)(v vl vu:Value)(lo hi:Option Int)(sl:Addr)(Q:VK),dB X pins σ H s→df x v→s.heap.IsSliceOf sl vl vu .none→IsPart vl lo→IsPart vu hi→r x lo hi H Q→
  ∃T id,typeLookup (.type T) "__getitem__"=pure (some (.builtin id))∧s.TypeIs v T∧wpAny (model X.prog X.w) X.A (getItem v (.ref sl)) (EP X pins σ Q) X.xe s
def kP(r:V→Option Int→Option Int→Hp→VK→Prop)(te:TE)(tl th:TO):TE:=λσ H Q=>te σ H λx H1=>tl σ H1 λl H2=>th σ H2 λu H3=>r x l u H3 Q
theorem dq(hr:Bf X r)(he:PE X e te)(hl:PO X lo tl)(hu:PO X hi th):PE X (.Subscript e (.Slice lo hi none p2) pos) (kP r te tl th):=by intro pins s σ H Q I h;refine Subscript_ (thn (he pins s σ H _ I h) λv s1 ⟨x,H1,I1,r1,q1⟩=>?_);refine wpAny_Slice (thn (hl pins s1 σ H1 _ I1 q1) λvl s2 ⟨l,H2,I2,pl,q2⟩=>thn (hu pins s2 σ H2 _ I2 q2) λvu s3 ⟨u,H3,I3,pu,q3⟩=>?_);rw[evalPart_none];refine wpAny_pure ?_;have I4:dB X pins σ H3 {s3 with heap:=s3.heap.push {cls:=.type "slice",data:=.fields #[vl,vu,.none]}}:=I3.kept (t':=s3.toks) λb ob q=>Heap.get?_push_of_some _ q;obtain⟨T,id,hT,ht,hg⟩:=hr pins {s3 with heap:=s3.heap.push {cls:=.type "slice",data:=.fields #[vl,vu,.none]}} σ H3 x v vl vu l u s3.heap.objs.size Q I4 r1 (Heap.IsSliceOf.new ..) pl pu q3;show wpAny (model X.prog X.w) X.A (subscriptTail e (.Slice lo hi none p2) v (.ref s3.heap.objs.size)) (EP X pins σ Q) X.xe {s3 with heap:=s3.heap.push {cls:=.type "slice",data:=.fields #[vl,vu,.none]}};exact tail_any (ops:=[.ref s3.heap.objs.size,v]) ht hT hg (by with_unfolding_all rfl)
def iE(xs:List V)(lo hi:Option Int):List V:=(xs.drop (HT.jB xs.length 0 lo)).take (HT.jB xs.length xs.length hi-HT.jB xs.length 0 lo)
theorem kN(xs:List V)(lo hi:Option Int):(iE xs lo hi).length≤xs.length:=by unfold iE;rw[ak,aO];lia
def AQ(K:aA):V→Option Int→Option Int→Hp→VK→Prop:=λx lo hi H Q=>onR x λa=>m8 (eM K H a) λxs=>
 ¬(HT.jB xs.length 0 lo=0∧HT.jB xs.length xs.length hi=xs.length)∧kR H (.tup (iE xs lo hi)) Q
theorem yj:Bf X (AQ X.K):=by
 intro pins s σ H x v vl vu lo hi sl Q I rx hs pl pu h;obtain⟨a,rfl,h⟩:=onR.ex h;obtain @⟨xs,hx,hw,q⟩:=h;cases rx;obtain⟨dU,r,ht,hz⟩:=I.tuple hx;have hlen:dU.toArray.size=xs.length:=by rw[aK];exact r.length.symm
 refine⟨"tuple",_,b5.lookup,ht.typeIs,?_⟩;refine HT.qW ht hs pl pu (by rw[hlen];exact hw) ?_ (by rw[hlen];exact hz);rw[hlen];refine⟨.ref s.heap.objs.size,_,I.laid (t':=s.toks) (o:=.tup (iE xs lo hi)) (λb ob q=>Heap.get?_push_of_some _ q) (aB _) ?_,rfl,q _ (I.hok.fresh (aB _))⟩;exact⟨aE (kN xs lo hi) hz,_,(r.drop (HT.jB xs.length 0 lo)).take (HT.jB xs.length xs.length hi-HT.jB xs.length 0 lo),IsTup.new _ _⟩
def AS(K:aA):R2:=λx y H Q=>∃a b xs ys,x=.ref a∧y=.ref b∧eM K H a xs∧eM K H b ys∧xs≠[]∧xs.length+ys.length≤sizeLine∧
 (ys=[]→Q (.ref a) H)∧(ys≠[]→kR H (.tup (xs++ys)) Q)
theorem dS.nil_iff(r:dS xs us):us=[]↔xs=[]:=by
 cases r with
 | nil=>simp
 | cons _ _=>simp
theorem ve:jq X (binaryOp .Add) (AS X.K):=by intro pins s σ H x y v u Q I rx ry h;obtain⟨a,b,xs,ys,rfl,rfl,ha,hb,hx,hz,q1,q2⟩:=h;cases rx;cases ry;obtain⟨dU,r1,p1,_⟩:=I.tuple ha;obtain⟨its2,r2,p2,_⟩:=I.tuple hb;refine HT.Bd p1 p2 (λz=>hx (r1.nil_iff.mp z)) (λz=>⟨.ref a,H,I,rfl,q1 (r2.nil_iff.mp z)⟩) (λz=>?_) (by rw[←r1.length,←r2.length];exact hz);refine⟨.ref s.heap.objs.size,_,I.laid (t':=s.toks) (o:=.tup (xs++ys)) (λb ob q=>Heap.get?_push_of_some _ q) (aB _) ?_,rfl,q2 (λw=>z (r2.nil_iff.mpr w)) _ (I.hok.fresh (aB _))⟩;exact⟨by rw[aD];exact hz,_,r1.append r2,IsTup.new _ _⟩
end
def wC(n:Nat)(i:Int):Option Nat:=if 0≤i then(if i<n then some i.toNat else none)else if -(n:Int)≤i then some (i+n).toNat else none
def oF{α:Type}(xs:List α)(i:Int):Option α:=(wC xs.length i).bind λj=>xs[j]?
theorem wB(h:wC n i=some j):seqIndex? i n=some j∧j<n∧-(n:Int)≤i∧i<n:=by
 unfold wC at h;by_cases h0:0≤i
 ·rw[if_pos h0]at h;by_cases h1:i<n
  ·rw[if_pos h1]at h;have e:i.toNat=j:=Option.some.inj h;exact⟨by rw[seqIndex_of h0 h1,e],by lia,by lia,h1⟩
  ·rw[if_neg h1]at h;cases h
 ·rw[if_neg h0]at h;by_cases h1 : -(n:Int)≤i
  ·rw[if_pos h1]at h;have e:(i+n).toNat=j:=Option.some.inj h;exact⟨by rw[seqIndex_neg (by lia) h1,e],by lia,h1,by lia⟩
  ·rw[if_neg h1]at h;cases h
theorem m5(h:oF xs i=some v):∃j,seqIndex? i xs.length=some j∧xs[j]?=some v∧j<xs.length∧-(xs.length:Int)≤i∧i<xs.length:=by
 unfold oF at h;cases e:wC xs.length i with
 | none=>rw[e]at h;cases h
 | some j=>rw[e]at h;obtain⟨h1,h2,h3,h4⟩:=wB e;exact⟨j,h1,h,h2,h3,h4⟩
theorem cz{α:Type}{xs:List α}{j:Nat}{v:α}(h:xs[j]?=some v):oF xs (j:Int)=some v:=by
 have hj:j<xs.length:=(bL.mp h).1;have e:wC xs.length (j:Int)=some j:=by unfold wC;rw[if_pos (by lia),if_pos (by lia)];simp
 unfold oF;rw[e];exact h
theorem uc(xs:List α)(v:α):oF (xs++[v]) (-1)=some v:=by
 have hl:(xs++[v]).length=xs.length+1:=by simp
 have e:wC (xs++[v]).length (-1)=some xs.length:=by
  unfold wC;rw[hl,if_neg (by decide),if_pos (by lia)]
  congr 1
  lia
 unfold oF;rw[e];show(xs++[v])[xs.length]?=some v;simp
def m7(b:Expr):Prop:=∀o i,subscripted b false o i=operate [o,i] (getItem o i)
def Bl(X:Cx)(r:R2):Prop:=
 ∀(value slice:Expr)(pins:List (Addr×Obj))(s:Shared)(σ:St)(H:Hp)(x y:V)(v u:Value)(Q:VK),dB X pins σ H s→df x v→df y u→r x y H Q→
  subscripted slice false v u=operate [v,u] (getItem v u)→wpAny (model X.prog X.w) X.A (subscriptTail value slice v u) (EP X pins σ Q) X.xe s
def Bi(X:Cx)(id:String)(r:V→List V→Hp→VK→Prop):Prop:=
 ∀(pins:List (Addr×Obj))(s:Shared)(σ:St)(H:Hp)(x:V)(xs:List V)(v:Value)(us:List Value)(Q:VK),dB X pins σ H s→df x v→dS xs us→r x xs H Q→
  wpAny (model X.prog X.w) X.A (call (.builtin id) (v::us)) (EP X pins σ Q) X.xe s
section
variable {X:Cx}{a b:Expr}{ta tb:TE}{pos:Pos}
theorem iB(hr:Bl X r)(ha:PE X a ta)(hb:PE X b tb)(hs:m7 b):PE X (.Subscript a b pos) (c9 r ta tb):=by intro pins s σ H Q I h;exact Subscript_ (zf ha hb I h λv u s2 x y H2 I2 rx ry q=>hr a b pins s2 σ H2 x y v u Q I2 rx ry q (hs _ _))
inductive Ix(S:List V→Prop)(i:Int)(k:V→Prop):Prop
 | mk{xs:List V}{v:V}(h:S xs)(e:oF xs i=some v)(q:k v):Ix S i k
def gA(K:aA):R2:=λx y H Q=>onR x λp=>onI y λi=>Ix (dv K H p) i λv=>Q v H
def ef(K:aA):R2:=λx y H Q=>onR x λp=>onI y λi=>Ix (eM K H p) i λv=>Q v H
theorem wv{S:Addr→List V→Prop}{x y:V}{k:V→Prop}(h:onR x λp=>onI y λi=>Ix (S p) i k):∃p xs i v,x=.ref p∧y=.int i∧S p xs∧oF xs i=some v∧k v:=by obtain⟨p,rfl,h1⟩:=onR.ex h;obtain⟨i,rfl,h2⟩:=onI.ex h1;obtain⟨h3,e,q⟩:=h2;exact⟨p,_,i,_,rfl,rfl,h3,e,q⟩
def jN:R2:=λx y H Q=>∃z i c,x=.str z∧y=.int i∧z.length≤sizeLine∧oF z.cps.toList i=some c∧Q (.str ⟨#[c]⟩) H
theorem wA:Bl X (gA X.K):=by
 intro value slice pins s σ H x y v u Q I rx ry h hs;obtain⟨p,xs,i,z,rfl,rfl,hq,he,q⟩:=wv h;cases rx;obtain⟨t,rfl⟩:=ry;obtain⟨dU,r,pl,hz⟩:=I.list hq;obtain⟨j,h1,h2,h3,h4,h5⟩:=m5 he;obtain⟨w,ew,rw'⟩:=r.get h2;have hl:=r.length;have hn:=lC;have fC:EP X pins σ Q w s:=⟨z,H,I,rw',q⟩;by_cases h0:0≤i
 ·have hj:i.toNat=j:=by rw[seqIndex_of h0 h5]at h1;exact Option.some.inj h1
  exact item_listR pl.isList h0 (by lia) (by rw[hj];simpa using ew) fC hs
 ·have hj:(i+(dU.toArray.size:Int)).toNat=j:=by rw[seqIndex_neg (by lia) h4]at h1;rw[aK,←hl];exact Option.some.inj h1
  exact subscriptTail_builtinR (x:=w) pl.isList.typeIs slot_list_getitem.lookup
   (wpAny_getItem_list_neg (Q:=λr s'=>r=w∧EP X pins σ Q r s') pl.isList (by lia) (by rw[aK]<;>lia) (by lia) (by rw[hj];simpa using ew) ⟨rfl,fC⟩) hs
theorem zR:Bl X (ef X.K):=by
 intro value slice pins s σ H x y v u Q I rx ry h hs;obtain⟨p,xs,i,z,rfl,rfl,hq,he,q⟩:=wv h;cases rx;obtain⟨t,rfl⟩:=ry;obtain⟨dU,r,pl,hz⟩:=I.tuple hq;obtain⟨j,h1,h2,h3,h4,h5⟩:=m5 he;obtain⟨w,ew,rw'⟩:=r.get h2;have hl:=r.length;have hn:=lC;have fC:EP X pins σ Q w s:=⟨z,H,I,rw',q⟩;exact subscriptTail_builtinR (x:=w) pl.typeIs slot_tuple_getitem.lookup
  (getItem_tuple (j:=j) (Q:=λr s'=>r=w∧EP X pins σ Q r s') pl (by lia) (by lia) (by rw[aK,←hl];exact h1) (by simpa using ew) ⟨rfl,fC⟩) hs
theorem gc:Bl X jN:=by
 intro value slice pins s σ H x y v u Q I rx ry h hs;obtain⟨z,i,c,rfl,rfl,hz,he,q⟩:=h;obtain⟨t,rfl⟩:=rx;obtain⟨t',rfl⟩:=ry;obtain⟨j,h1,h2,h3,h4,h5⟩:=m5 he;have hl:z.cps.toList.length=z.length:=by simp[Str.length]
 rw[hl]at h1 h4 h5;have hn:=lC;exact tail_any (typeIs_str s z t) slot_str_getitem.lookup (getItem_str (c:=c) (by
  have e1:decide (i < -(2^63:Int))=false:=decide_eq_false (by lia);have e2:decide (i≥2^63)=false:=decide_eq_false (by lia);rw[e1,e2,Bool.or_false]) (by rw[h1];simpa using h2) ⟨.str ⟨#[c]⟩,H,I.tok _,⟨_,rfl⟩,q⟩) hs
theorem mU(lo hi:Option Int)(n:Nat):(sliceBounds lo hi none n).1=((HT.jB n 0 lo:Nat):Int)∧(sliceBounds lo hi none n).2.1=((HT.jB n n hi:Nat):Int)∧(sliceBounds lo hi none n).2.2=1:=by
 refine⟨?_,?_,rfl⟩
 ·cases lo with
  | none=>simp[sliceBounds,HT.jB]
  | some i=>
   simp only[sliceBounds,HT.jB,Option.getD_none,show(1:Int)>0 by decide,if_true];by_cases h:i<0
   ·simp only[h,if_true]<;>lia
   ·simp only[h,if_false]<;>lia
 ·cases hi with
  | none=>simp[sliceBounds,HT.jB]
  | some i=>
   simp only[sliceBounds,HT.jB,Option.getD_none,show(1:Int)>0 by decide,if_true];by_cases h:i<0
   ·simp only[h,if_true]<;>lia
   ·simp only[h,if_false]<;>lia
theorem lM(dU:List Value)(lo hi:Option Int):slicePick dU.toArray lo hi none=((dU.drop (HT.jB dU.length 0 lo)).take (HT.jB dU.length dU.length hi-HT.jB dU.length 0 lo)).toArray:=by obtain⟨h1,h2,h3⟩:=mU lo hi dU.toArray.size;unfold slicePick;rw[h1,h2,h3];simp only[sliceRange_one,pick_run,aK]<;>rfl
def kQ(K:aA):V→Option Int→Option Int→Hp→VK→Prop:=λx lo hi H Q=>onR x λa=>m8 (dv K H a) λxs=>kR H (.lst (iE xs lo hi)) Q
theorem gi:Bf X (kQ X.K):=by intro pins s σ H x v vl vu lo hi sl Q I rx hs pl pu h;obtain⟨a,rfl,h⟩:=onR.ex h;obtain @⟨xs,hx,q⟩:=h;cases rx;obtain⟨dU,r,ht,hz⟩:=I.list hx;have hlen:=r.length;refine⟨"list",_,slot_list_getitem.lookup,ht.isList.typeIs,?_⟩;refine wpAny_getItem_list_slice ht.isList hs pl pu .none (by simp) ?_ (by rw[aK]<;>lia);rw[lM,←hlen];refine⟨.ref s.heap.objs.size,_,I.laid (t':=s.toks) (o:=.lst (iE xs lo hi)) (λb ob q=>Heap.get?_push_of_some _ q) (aB _) ?_,rfl,q _ (I.hok.fresh (aB _))⟩;exact⟨aE (kN xs lo hi) hz,_,0,(r.drop (HT.jB xs.length 0 lo)).take (HT.jB xs.length xs.length hi-HT.jB xs.length 0 lo),Heap.get?_push_size _ rfl⟩
def kL:V→Bool
 | .non=>true
 | .bl _=>true
 | .int _=>true
 | .str _=>true
 | _=>false
def rX:V→V→Bool
 | .non,.non=>true
 | .bl a,.bl b=>a==b
 | .bl a,.int b=>(if a then 1 else 0)==b
 | .int a,.bl b=>a==(if b then 1 else 0)
 | .int a,.int b=>a==b
 | .str a,.str b=>a==b
 | _,_=>false
theorem zX(ry:df y u)(rx:df x v)(fy:kL y=true)(fx:kL x=true):SeqAt.EqAt A s u v (rX y x):=by
 cases y with
 | non=>
  cases ry;cases x with
  | non=>cases rx;exact SeqAt.EqAt.same _
  | bl b=>cases rx;exact SeqAt.EqAt.none_bool b
  | int b=>obtain⟨t,rfl⟩:=rx;exact SeqAt.EqAt.none_int b t
  | str b=>obtain⟨t,rfl⟩:=rx;exact SeqAt.EqAt.none_str b t
  | _=>exact absurd (show false=true from fx) aJ
 | bl a=>
  cases ry;cases x with
  | non=>cases rx;exact SeqAt.EqAt.bool_none a
  | bl b=>cases rx;exact SeqAt.EqAt.bool_bool a b
  | int b=>obtain⟨t,rfl⟩:=rx;exact SeqAt.EqAt.bool_int a b t
  | str b=>obtain⟨t,rfl⟩:=rx;exact SeqAt.EqAt.bool_str a b t
  | _=>exact absurd (show false=true from fx) aJ
 | int a=>
  obtain⟨t',rfl⟩:=ry;cases x with
  | non=>cases rx;exact SeqAt.EqAt.int_none a t'
  | bl b=>cases rx;exact SeqAt.EqAt.int_bool a t' b
  | int b=>obtain⟨t,rfl⟩:=rx;exact SeqAt.EqAt.int_int a t' b t
  | str b=>obtain⟨t,rfl⟩:=rx;exact SeqAt.EqAt.int_str a t' b t
  | _=>exact absurd (show false=true from fx) aJ
 | str a=>
  obtain⟨t',rfl⟩:=ry;cases x with
  | non=>cases rx;exact SeqAt.EqAt.str_none a t'
  | bl b=>cases rx;exact SeqAt.EqAt.str_bool a t' b
  | int b=>obtain⟨t,rfl⟩:=rx;exact SeqAt.EqAt.str_int a t' b t
  | str b=>obtain⟨t,rfl⟩:=rx;exact SeqAt.EqAt.str_str a t' b t
  | _=>exact absurd (show false=true from fx) aJ
 | _=>exact absurd (show false=true from fy) aJ
def pB(x:V)(u:Value):Bool:=match u with
 | .none=>rX .non x
 | .bool b=>rX (.bl b) x
 | .int i _=>rX (.int i) x
 | .str z _=>rX (.str z) x
 | _=>false
theorem uO(r:df y u)(f:kL y=true):pB x u=rX y x:=by
 cases y with
 | non=>cases r;rfl
 | bl b=>cases r;rfl
 | int i=>obtain⟨t,rfl⟩:=r;rfl
 | str z=>obtain⟨t,rfl⟩:=r;rfl
 | _=>exact absurd (show false=true from f) aJ
theorem jo:∀{xs:List V}{us:List Value},dS xs us→xs.all kL=true→us.any (pB x)=xs.any λy=>rX y x
 | _,_,.nil,_=>rfl
 | y::xs,u::us,.cons r t,f=>by rw[List.all_cons,aq]at f;rw[bb,bb,uO r f.1,jo t f.2]
theorem ik(rx:df x v)(fx:kL x=true):∀{xs:List V}{us:List Value},dS xs us→xs.all kL=true→∀u∈us,SeqAt.EqAt A s u v (pB x u)
 | _,_,.nil,_=>λu hu=>by cases hu
 | y::xs,u::us,.cons r t,f=>λu' hu=>by
  rw[List.all_cons,aq]at f;rcases aF.mp hu with rfl|hu
  ·rw[uO r f.1];exact zX r rx f.1 fx
  ·exact ik rx fx t f.2 u' hu
def o9(x:V)(xs:List V):Bool:=xs.any λy=>rX y x
def yo(K:aA)(jx:Bool):R2:=λx y H Q=>onR y λp=>m8 (λxs=>dv K H p xs∨eM K H p xs) λxs=>kL x=true∧xs.all kL=true∧Q (.bl (if jx then !o9 x xs else o9 x xs)) H
theorem i7:jq X (compareOp .In) (yo X.K false):=by
 intro pins s σ H x y v u Q I rx ry h;obtain⟨p,rfl,h⟩:=onR.ex h;obtain @⟨xs,hq,fx,fs,q⟩:=h;cases ry;rcases hq with hq|hq
 ·obtain⟨dU,r,pl,hz⟩:=I.list hq;refine SeqAt.in_listAt (pB x) pl.isList (λw hw=>ik rx fx r fs w (by simpa using hw)) ⟨.bl _,H,I,rfl,?_⟩;rw[show dU.toArray.any (pB x)=dU.any (pB x) by simp,jo r fs];exact q
 ·obtain⟨dU,r,pl,hz⟩:=I.tuple hq;refine SeqAt.in_tupleAt (pB x) pl (λw hw=>ik rx fx r fs w (by simpa using hw)) ⟨.bl _,H,I,rfl,?_⟩;rw[show dU.toArray.any (pB x)=dU.any (pB x) by simp,jo r fs];exact q
theorem mh:jq X (compareOp .NotIn) (yo X.K true):=by
 intro pins s σ H x y v u Q I rx ry h;obtain⟨p,rfl,h⟩:=onR.ex h;obtain @⟨xs,hq,fx,fs,q⟩:=h;cases ry;rcases hq with hq|hq
 ·obtain⟨dU,r,pl,hz⟩:=I.list hq;refine SeqAt.notIn_listAt (pB x) pl.isList (λw hw=>ik rx fx r fs w (by simpa using hw)) ⟨.bl _,H,I,rfl,?_⟩;rw[show dU.toArray.any (pB x)=dU.any (pB x) by simp,jo r fs];exact q
 ·obtain⟨dU,r,pl,hz⟩:=I.tuple hq;refine SeqAt.notIn_tupleAt (pB x) pl (λw hw=>ik rx fx r fs w (by simpa using hw)) ⟨.bl _,H,I,rfl,?_⟩;rw[show dU.toArray.any (pB x)=dU.any (pB x) by simp,jo r fs];exact q
def jD(K:aA):List V→Hp→VK→Prop:=λxs H Q=>on1 xs λx=>onR x λp=>m8 (λys=>dv K H p ys∨eM K H p ys) λys=>Q (.int ys.length) H
theorem dR:iG X (.builtin "len") (jD X.K):=by
 intro pins s σ H xs us Q I r h;obtain⟨_,rfl,h⟩:=on1.ex h;obtain⟨p,rfl,h⟩:=onR.ex h;obtain @⟨ys,hq,q⟩:=h;obtain⟨u,rfl,rx⟩:=jF r;cases rx;have hn:=lC;rcases hq with hq|hq
 ·obtain⟨dU,r',pl,hz⟩:=I.list hq;have hlen:=r'.length;exact Calls.call_len_list pl.isList (by simp only[aK]<;>lia) ⟨.int ys.length,H,I.tok _,⟨s.toks+1,by rw[aK,hlen]⟩,q⟩
 ·obtain⟨dU,r',pl,hz⟩:=I.tuple hq;have hlen:=r'.length;exact len_tuple pl (by simp only[aK]<;>lia) ⟨.int ys.length,H,I.tok _,⟨s.toks+1,by rw[aK,hlen]⟩,q⟩
theorem eJ:iG X (.builtin "len") (λxs H Q=>∃z,xs=[.str z]∧z.length≤sizeLine∧Q (.int z.length) H):=by intro pins s σ H xs us Q I r h;obtain⟨z,rfl,hz,q⟩:=h;obtain⟨u,rfl,t,rfl⟩:=jF r;have hn:=lC;exact len_str (by lia) ⟨.int z.length,H,I.tok _,⟨_,rfl⟩,q⟩
def qj(K:aA):List V→Hp→VK→Prop:=λxs H Q=>on1 xs λx=>onR x λp=>m8 (λys=>dv K H p ys∨eM K H p ys) λys=>kR H (.lst ys) Q
theorem m3:iG X (.type "list") (qj X.K):=by
 intro pins s σ H xs us Q I r h;obtain⟨_,rfl,h⟩:=on1.ex h;obtain⟨p,rfl,h⟩:=onR.ex h;obtain @⟨ys,hq,q⟩:=h;obtain⟨u,rfl,rx⟩:=jF r;cases rx;have fC:∀(dU:List Value),dS ys dU→ys.length≤sizeLine→∀(h':Heap)(c':Nat),(∀b o',s.heap.get? b=some o'→h'.get? b=some o')→
   h'.get? s.heap.objs.size=some {cls:=.type "list",dict:=none,data:=.seq dU.toArray c',slots:=#[]}→EP X pins σ Q (.ref s.heap.objs.size) {s with heap:=h'}:=λdU r' hz h' c' kp e=>
  ⟨.ref s.heap.objs.size,_,I.laid (t':=s.toks) kp (aB _) (show eP X.prog X.w _ h' _ (.lst ys)from⟨hz,dU,c',r',e⟩),rfl,q _ (I.hok.fresh (aB _))⟩
 rcases hq with hq|hq
 ·obtain⟨dU,r',pl,hz⟩:=I.list hq;have hlen:=r'.length;obtain⟨o,ho,hc,n,hd⟩:=pl.isList;exact call_list_seq p (.inl rfl) ho hc hd (λh' c' kp e=>fC dU r' hz h' c' kp e) (by simp only[aK]<;>lia)
 ·obtain⟨dU,r',pl,hz⟩:=I.tuple hq;have hlen:=r'.length;obtain⟨o,ho,hc,n,hd⟩:=pl;exact call_list_seq p (.inr rfl) ho hc hd (λh' c' kp e=>fC dU r' hz h' c' kp e) (by simp only[aK]<;>lia)
theorem lP:iG X (.type "tuple") (λxs H Q=>∃p ys,xs=[.ref p]∧((dv X.K H p ys∧∀l,H l=none→Q (.ref l) (dc H l (.tup ys)))∨(eM X.K H p ys∧Q (.ref p) H))):=by
 intro pins s σ H xs us Q I r h;obtain⟨p,ys,rfl,h⟩:=h;obtain⟨u,rfl,rx⟩:=jF r;cases rx;rcases h with⟨hq,q⟩|⟨hq,q⟩
 ·obtain⟨dU,r',pl,hz⟩:=I.list hq;have hlen:=r'.length;refine call_tuple_list pl.isList (λh' kp=>?_) (by simp only[aK]<;>lia);have I1:dB X pins σ H {s with heap:=h'}:=I.kept (t':=s.toks) kp;have I2:dB X pins σ (dc H h'.objs.size (.tup ys)) {s with heap:=h'.push {cls:=.type "tuple",data:=.seq dU.toArray}}:=
   I1.laid (t':=s.toks) (λb o e=>Heap.get?_push_of_some _ e) (aB _) (show eP X.prog X.w _ _ _ (.tup ys)from⟨hz,dU,r',IsTup.new _ _⟩)
  exact⟨.ref h'.objs.size,_,I2,rfl,q _ (I1.hok.fresh (aB _))⟩
 ·obtain⟨dU,r',pl,hz⟩:=I.tuple hq;exact call_tuple_same pl ⟨.ref p,H,I,rfl,q⟩
def Bs(K:aA)(T:String)(x:V)(H:Hp):Prop:=match x with
 | .str _=>T="str"
 | .int _=>T="int"
 | .ref p=>(T="list"∧∃xs,dv K H p xs)∨(T="tuple"∧∃o,K.lookup p=some o∧o.cls=.type "tuple"∧o.dict=none)∨
   (T="dict"∧((∃kvs,H p=some (.dK kvs))∨∃kvs,H p=some (.dT kvs)))∨(T="set"∧∃S n,H p=some (.set S n))
 | _=>False
theorem sD(I:dB X pins σ H s)(r:df x v)(ty:Bs X.K T x H):
  s.TypeIs v T∧∀a,v=.ref a→∃ob,s.heap.get? a=some ob∧ob.dict=none:=by
 cases x with
 | str z=>obtain⟨t,rfl⟩:=r;cases(show T="str" from ty);exact⟨typeIs_str s z t,λ_ e=>nomatch e⟩
 | int i=>obtain⟨t,rfl⟩:=r;cases(show T="int" from ty);exact⟨typeIs_int s i t,λ_ e=>nomatch e⟩
 | ref p=>
  cases r;rcases ty with⟨rfl,xs,hq⟩|⟨rfl,o,hk,hc,hd⟩|⟨rfl,hk⟩|⟨rfl,S,n,hk⟩
  ·obtain⟨dU,_,pl,_⟩:=I.list hq;refine⟨pl.isList.typeIs,λa e=>?_⟩;cases e;obtain⟨o,n,e,c,hd,_⟩:=pl;exact⟨o,e,hd⟩
  ·refine⟨⟨o,I.kIn p o hk,hc⟩,λa e=>?_⟩;cases e;exact⟨o,I.kIn _ o hk,hd⟩
  ·have z:∃o,s.heap.get? p=some o∧o.ExactDict:=by
    rcases hk with⟨kvs,hk⟩|⟨kvs,hk⟩
    ·obtain⟨_,_,_,_,o,_,_,e,ex,_⟩:=I.hok p _ hk;exact⟨o,e,ex⟩
    ·obtain⟨_,_,_,_,o,_,_,e,ex,_⟩:=I.hok p _ hk;exact⟨o,e,ex⟩
   obtain⟨o,e,ex⟩:=z;refine⟨⟨o,e,ex.1⟩,λa e2=>?_⟩;cases e2;exact⟨o,e,ex.2.1⟩
  ·obtain⟨o,_,_,_,e,ex,_⟩:=I.hok p _ hk;refine⟨⟨o,e,ex.1⟩,λa e2=>?_⟩;cases e2;exact⟨o,e,ex.2.1⟩
 | _=>exact False.elim ty
def nJ(K:aA)(T:String)(r:V→List V→Hp→VK→Prop)(to:TE):TE:=λσ H Q=>to σ H λx H1=>Bs K T x H1∧r x [] H1 Q
def kD(K:aA)(T:String)(r:V→List V→Hp→VK→Prop)(to:TE)(t:TA):TE:=λσ H Q=>to σ H λx H1=>Bs K T x H1∧t σ H1 λxs H2=>r x xs H2 Q
variable {o e:Expr}{es:List Expr}{to:TE}{t:TA}{name:Str}{apos cpos:Pos}{T id:String}{r:V→List V→Hp→VK→Prop}
theorem jP(pa:PlainAttrs T)(slot:Slot T name id)(hty:typeOf (.builtin id)=pure (.type "method_descriptor"))(hm:Bi X id r)(ho:PE X o to)
  (hbase:attributeBase o name X.env (eval o X.env)=eval o X.env:=by rfl) (hline:(apos.endLine==cpos.line)=true:=by rfl):PE X (.Call (.Attribute o name apos) [] [] cpos) (nJ X.K T r to):=by
 intro pins s σ H Q I h;refine wpAny_Call_method0_late hbase hline (thn (ho pins s σ H _ I h) λv s1 ⟨x,H1,I1,r1,ty,q1⟩=>?_);obtain⟨h1,h2⟩:=sD I1 r1 ty;exact⟨T,id,pa,slot,hty,h1,h2,Calls.callWith_builtin rfl (PySem.evalArgs_none (hm pins s1 σ H1 x [] v [] Q I1 r1 .nil q1))⟩
theorem fR(pa:PlainAttrs T)(slot:Slot T name id)(hty:typeOf (.builtin id)=pure (.type "method_descriptor"))(hm:Bi X id r)(ho:PE X o to)(ha:PA X (e::es) t)
  (hbase:attributeBase o name X.env (eval o X.env)=eval o X.env:=by rfl)
  (hfew:((backTo cpos (starEach (e::es) X.env)).all (λx=>!x.1)&&(backToKw cpos (keywordEach [] X.env)).all (λx=>x.1.isSome)
   && decide ((e::es).length+([]:List Keyword).length+(if([]:List Keyword).isEmpty then 0 else 1)<30))=true:=by rfl)
  (hline:(apos.endLine==cpos.line)=true:=by rfl) (hs:starEach (e::es) X.env=(false,eval e X.env)::starEach es X.env:=by rfl) (hplain:(backTo cpos (starEach es X.env)).any (·.1)=false:=by rfl):
  PE X (.Call (.Attribute o name apos) (e::es) [] cpos) (kD X.K T r to t):=by
 intro pins s σ H Q I h;refine wpAny_Call_method_late hbase hfew hline rfl (thn (ho pins s σ H _ I h) λv s1 ⟨x,H1,I1,r1,ty,q1⟩=>?_);obtain⟨h1,h2⟩:=sD I1 r1 ty;refine⟨T,id,pa,slot,hty,h1,h2,?_⟩;have hA:=ha cpos pins s1 σ H1 _ I1 q1;rw[hs]at hA⊢;refine Calls.callWith_builtin (by show(false||(backTo cpos (starEach es X.env)).any (·.1))=false;rw[hplain]<;>rfl) (Calls.evalArgs_plain ?_);exact thn hA λus s2 ⟨vs,H2,I2,r2,q2⟩=>hm pins s2 σ H2 x vs v us Q I2 r1 r2 q2
end
def Co(X:Cx)(id:String)(r:V→List V→Hp→VK→Prop):Prop:=
 ∀(pins:List (Addr×Obj))(s:Shared)(σ:St)(H:Hp)(x:V)(xs:List V)(v:Value)(us:List Value)(Q:VK),dB X pins σ H s→df x v→dS xs us→r x xs H Q→
  wpAny (model X.prog X.w) X.A (call (.builtin id) (v::us)) (EP X pins σ Q) X.xe s
theorem dS.one:∀{x:V}{us:List Value},dS [x] us→∃u,us=[u]∧df x u
 | _,_,.cons r .nil=>⟨_,rfl,r⟩
theorem dS.two:∀{x y:V}{us:List Value},dS [x,y] us→∃u v,us=[u,v]∧df x u∧df y v
 | _,_,_,.cons r (.cons q .nil)=>⟨_,_,rfl,r,q⟩
theorem dS.zero:∀{us:List Value},dS [] us→us=[]
 | _,.nil=>rfl
theorem dS.dropLast(h:dS xs us):dS xs.dropLast us.dropLast:=by
 induction h with
 | nil=>exact .nil
 | cons r t ih=>
  cases t with
  | nil=>exact .nil
  | cons q t'=>exact .cons r ih
theorem pA(l:List α):l.eraseIdx (l.length-1)=l.dropLast:=by
 induction l with
 | nil=>rfl
 | cons a r ih=>
  cases r with
  | nil=>rfl
  | cons b r=>
   have e:(a::b::r).length-1=((b::r).length-1)+1:=by have h1:(a::b::r).length=r.length+2:=rfl;have h2:(b::r).length=r.length+1:=rfl;lia
   rw[e,List.eraseIdx_cons_succ,ih]
   all_goals rfl
section
variable {X:Cx}{pins:List (Addr×Obj)}{σ:St}{H:Hp}{s:Shared}{l b:Addr}{xs ys zs:List V}
theorem dB.lset{dU its':List Value}{n:Nat}{f:Array Value→Array Value}{t':Nat}(I:dB X pins σ H s)(hH:H l=some (.lst xs))
  (e:s.heap.get? l=some {cls:=.type "list",data:=.seq dU.toArray n}) (hf:f dU.toArray=its'.toArray) (hv:dS ys its') (hz:ys.length≤sizeLine) (ht:s.toks≤t':=by first|exact aB _|exact aQ _|assumption|exact aM _ _):
  dB X pins σ (dc H l (.lst ys)) {s with heap:=s.heap.update l (Obj.mapSeq f),toks:=t'}:=by
 have q:=PySem.IsL.update e f;rw[hf]at q;refine I.write (x:=l) (e:=l) (by rw[hH];exact trivial) (.inl rfl) (λb' u hb hu=>(Heap.get?_update_other s.heap (Obj.mapSeq f) (ai hb)).trans hu) ⟨_,q⟩ ?_;exact⟨hz,its',_,hv,q⟩
theorem dB.lnew(I:dB X pins σ H s)(hv:dS ys dU)(hz:ys.length≤sizeLine)(ht:s.toks≤t':=by first|exact aB _|exact aQ _|assumption|exact aM _ _):
  dB X pins σ (dc H s.heap.objs.size (.lst ys)) {s with heap:=s.heap.push {cls:=.type "list",data:=.seq dU.toArray},toks:=t'}:=
 I.laid (λ_ _ q=>Heap.get?_push_of_some _ q) (aB _) ⟨hz,dU,0,hv,Heap.get?_push_size _ rfl⟩
theorem dB.fresh(I:dB X pins σ H s):H s.heap.objs.size=none:=I.hok.fresh (aB _)
theorem dB.lstM(I:dB X pins σ H s)(hH:H l=some (.lst xs)):xs.length≤sizeLine∧∃(dU:List Value)(n:Nat),dS xs dU∧xs.length=dU.length∧s.heap.get? l=some {cls:=.type "list",data:=.seq dU.toArray n}:=by obtain⟨z,dU,n,r,e⟩:=I.hok l _ hH;exact⟨z,dU,n,r,r.length,e⟩
theorem tz(h:n≤sizeLine):Builtin.List.listTooLong n=false:=by unfold Builtin.List.listTooLong;exact decide_eq_false (by lia)
end
section
variable {X:Cx}
def eX:V→List V→Hp→VK→Prop:=λx vs H Q=>onR x λl=>on1 vs λy=>m8 (λxs=>H l=some (.lst xs)) λxs=>xs.length<sizeLine∧Q .non (dc H l (.lst (xs++[y])))
theorem eR:Co X "list.append" eX:=by intro pins s σ H x vs v us Q I rx rv h;obtain⟨l,rfl,h⟩:=onR.ex h;obtain⟨y,rfl,h⟩:=on1.ex h;obtain @⟨xs,hH,hz,q⟩:=h;cases rx;obtain⟨u,rfl,ru⟩:=rv.one;obtain⟨z,dU,n,r,hl,e⟩:=I.lstM hH;refine call_meets F.slot_list_append ⟨_,e,rfl⟩ F.entry_list_append (F.args_list_append_2 _ _) (PySem.list_append l dU.toArray n u (by rw[aK];lia)) ⟨e,?_⟩;refine⟨.non,_,I.lset (its':=dU++[u]) hH e (by simp) (r.append (.cons ru .nil)) ?_,rfl,q⟩;rw[aD,List.length_singleton];lia
def gQ:V→List V→Hp→VK→Prop:=λx vs H Q=>∃l b xs zs,x=.ref l∧vs=[.ref b]∧H l=some (.lst xs)∧H b=some (.lst zs)∧xs.length+zs.length≤sizeLine∧Q .non (dc H l (.lst (xs++zs)))
theorem gB:Co X "list.extend" gQ:=by
 intro pins s σ H x vs v us Q I rx rv h;obtain⟨l,b,xs,zs,rfl,rfl,hH,hB,hz,q⟩:=h;cases rx;obtain⟨u,rfl,ru⟩:=rv.one;cases ru;obtain⟨z,dU,n,r,hl,e⟩:=I.lstM hH;obtain⟨z2,its2,n2,r2,hl2,e2⟩:=I.lstM hB;have hsz:dU.toArray.size+its2.toArray.size≤sizeLine:=by rw[aK,aK];lia
 have hlong:¬(!dU.toArray.isEmpty&&Builtin.List.listTooLong (dU.toArray.size+its2.toArray.size))=true:=by rw[tz hsz,Bool.and_false];exact aJ
 refine call_meets F.slot_list_extend ⟨_,e,rfl⟩ F.entry_list_extend (F.args_list_extend_2 _ _)
  (AutoSeq1.list_extend_list_list_0 l dU.toArray n b its2.toArray n2 hlong (by rw[aK];lia) (by lia)) ⟨e,e2,?_⟩
 refine⟨.non,_,I.lset (its':=dU++its2) hH e (by simp) (r.append r2) ?_,rfl,q⟩;rw[aD];lia
def nQ:V→List V→Hp→VK→Prop:=λx vs H Q=>onR x λl=>on0 vs (m8 (λxs=>H l=some (.lst xs)) λxs=>m8 (λy=>xs[xs.length-1]?=some y) λy=>Q y (dc H l (.lst xs.dropLast)))
theorem jQ:Co X "list.pop" nQ:=by
 intro pins s σ H x vs v us Q I rx rv h;obtain⟨l,rfl,h⟩:=onR.ex h;obtain⟨rfl,h⟩:=on0.ex h;obtain @⟨xs,hH,h⟩:=h;obtain @⟨y,hy,q⟩:=h;cases rx;have hus:=rv.zero;subst hus;obtain⟨z,dU,n,r,hl,e⟩:=I.lstM hH;obtain⟨u,hu,ru⟩:=r.get hy;have hy':dU.toArray[dU.toArray.size-1]?=some u:=by show dU.toArray[dU.length-1]?=some u;rw[←cT,←hl];exact hu
 refine call_meets F.slot_list_pop ⟨_,e,rfl⟩ F.entry_list_pop (F.args_list_pop_1 _) (MeetsSeq.list_pop_last l dU.toArray n u hy' (by rw[aK];lia)) ⟨e,?_⟩;refine⟨y,_,I.lset (its':=dU.dropLast) hH e ?_ r.dropLast ?_,ru,q⟩
 ·show dU.toArray.eraseIdxIfInBounds (dU.toArray.size-1)=dU.dropLast.toArray;rw[aK,List.eraseIdxIfInBounds_toArray,pA]
 ·rw[List.length_dropLast];lia
def h9:R2:=λx y H Q=>onR x λl=>onR y λb=>m8 (λxs=>H l=some (.lst xs)) λxs=>m8 (λzs=>H b=some (.lst zs)) λzs=>xs.length+zs.length≤sizeLine∧kR H (.lst (xs++zs)) Q
theorem gZ:jq X (binaryOp .Add) h9:=by
 intro pins s σ H x y v u Q I rx ry h;obtain⟨l,rfl,h⟩:=onR.ex h;obtain⟨b,rfl,h⟩:=onR.ex h;obtain @⟨xs,hH,h⟩:=h;obtain @⟨zs,hB,hz,q⟩:=h;cases rx;cases ry;obtain⟨z,dU,n,r,hl,e⟩:=I.lstM hH;obtain⟨z2,its2,n2,r2,hl2,e2⟩:=I.lstM hB;refine PySem.P.add_list e e2 ?_ (by rw[aK,aK];lia);have ea:dU.toArray++its2.toArray=(dU++its2).toArray:=by simp
 rw[ea];exact⟨.ref _,_,I.lnew (t':=s.toks) (r.append r2) (by rw[aD];lia),rfl,q _ I.fresh⟩
end
section
variable {prog:Program}{w:World}{A:Around}{E:Value→Shared→Prop}{s:Shared}
end
section
variable {X:Cx}
end
section
variable {κ:Type}[DecidableEq κ]
def gq(kvs:List (κ×V))(k:κ):Option V:=(kvs.find? λkv=>decide (kv.1=k)).map (·.2)
def nT(kvs:List (κ×V))(k:κ)(v:V):List (κ×V):=
 if(kvs.any λkv=>decide (kv.1=k))=true then kvs.map (λkv=>if kv.1=k then(kv.1,v)else kv)else kvs++[(k,v)]
theorem zz:gq ([]:List (κ×V)) k=none:=rfl
theorem nF{p:κ×V}{r:List (κ×V)}{k:κ}(e:p.1=k):gq (p::r) k=some p.2:=by simp[gq,bF,e]
theorem nG{p:κ×V}{r:List (κ×V)}{k:κ}(e:¬p.1=k):gq (p::r) k=gq r k:=by simp[gq,bF,e]
theorem nc(kvs:List (κ×V))(k:κ)(v:V):(nT kvs k v).length≤kvs.length+1:=by
 unfold nT;split
 ·rw[aV];lia
 ·rw[aD,aC,aG];lia
theorem jE.getD(r:jE o u)(rd:df d d'):df (o.getD d) (u.getD d'):=by
 cases o with
 | none=>cases u with
  | none=>exact rd
  | some _=>exact(show False from r).elim
 | some _=>cases u with
  | none=>exact(show False from r).elim
  | some _=>exact r
theorem KV.val{kvs:List (κ×V)}{vs:List (κ×Value)}(r:KV kvs vs)(k:κ):jE (gq kvs k) (valueAt vs k):=by
 unfold KV at r;induction r with
 | nil=>exact ac
 | @cons p q ps qs h t ih=>
  obtain⟨h1,h2⟩:=h;by_cases e:p.1=k
  ·have e':q.1=k:=h1.symm.trans e;have b:valueAt (q::qs) k=some q.2:=by simp[valueAt,bF,e']
   rw[nF e,b];exact h2
  ·have e':¬q.1=k:=λz=>e (h1.trans z);have b:valueAt (q::qs) k=valueAt qs k:=by simp[valueAt,bF,e']
   rw[nG e,b];exact ih
theorem KV.any(r:KV kvs vs)(k:κ):(kvs.any λkv=>decide (kv.1=k))=vs.any λkv=>decide (kv.1=k):=by
 unfold KV at r;induction r with
 | nil=>rfl
 | cons h t ih=>rw[bb,bb,ih,h.1]
theorem KV.repl(r:KV kvs vs)(k:κ)(ry:df y u):
  KV (kvs.map λkv=>if kv.1=k then(kv.1,y)else kv) (vs.map λkv=>if kv.1=k then(kv.1,u)else kv):=by
 unfold KV at r⊢;induction r with
 | nil=>exact .nil
 | @cons p q ps qs h t ih=>
  rw[af,af];refine .cons ?_ ih;obtain⟨h1,h2⟩:=h;by_cases e:p.1=k
  ·rw[if_pos e,if_pos (h1.symm.trans e)];exact⟨h1,ry⟩
  ·rw[if_neg e,if_neg (λz=>e (h1.trans z))];exact⟨h1,h2⟩
theorem KV.put(r:KV kvs vs)(k:κ)(ry:df y u):KV (nT kvs k y) (stored vs k u):=by
 unfold nT stored;rw[r.any k];by_cases e:(vs.any λkv=>decide (kv.1=k))=true
 ·rw[if_pos e,if_pos e];exact r.repl k ry
 ·rw[if_neg e,if_neg e];exact Paired.snoc r ⟨rfl,ry⟩
end
theorem qS(r:df (kV k) u):(eY P w).is k u=true:=by
 cases k with
 | inl i=>obtain⟨t,e⟩:=(show ∃t,u=Value.int i t from r);subst e;exact nZ P w i t
 | inr x=>obtain⟨t,e⟩:=(show ∃t,u=Value.str x t from r);subst e;exact nY P w x t
theorem lg:∀{ks:List gJ}{us:List Value},dS (ks.map kV) us→ItemsAre (eY P w) ks us
 | [],_,r=>by rw[bc]at r;cases r;exact .nil
 | k::ks,_,r=>by
  rw[af]at r;cases r with
  | cons h t=>exact .cons (qS h) (lg t)
abbrev KT(H:Hp):List (List gJ×V)→List (List gJ×Addr×Value)→Prop:=Paired λp q=>p.1=q.1∧H q.2.1=some (.tup (p.1.map kV))∧df p.2 q.2.2
theorem KT.val{H:Hp}{kvs:List (List gJ×V)}{xs:List (List gJ×Addr×Value)}(r:KT H kvs xs)(k:List gJ):jE (gq kvs k) ((atKey xs k).map (·.2)):=by
 induction r with
 | nil=>exact ac
 | @cons p q ps qs h t ih=>
  obtain⟨h1,_,h2⟩:=h;by_cases e:p.1=k
  ·have e':q.1=k:=h1.symm.trans e;have b:atKey (q::qs) k=some q.2:=by simp[atKey,bF,e']
   rw[nF e,b];exact h2
  ·have e':¬q.1=k:=λz=>e (h1.trans z);have b:atKey (q::qs) k=atKey qs k:=by simp[atKey,bF,e']
   rw[nG e,b];exact ih
section
variable {P:Program}{w:World}{H:Hp}{h:Heap}{a:Addr}
theorem wf(ok:i9 P w H h)(e:Rd H a u):eP P w H h a u:=e.ok ok
theorem nr(ok:i9 P w H h)(e:Rd H a (.dK kvs)):kvs.length≤sizeLine∧(a==sysModules)=false∧∃vs,KV kvs vs∧h.DictOf (eY P w) a vs:=
 show eP P w H h a (.dK kvs)from wf ok e
theorem A7(ok:i9 P w H h)(e:H a=some (.dK kvs)):kvs.length≤sizeLine∧(a==sysModules)=false∧∃vs,KV kvs vs∧h.DictOf (eY P w) a vs:=nr ok (.inl e)
theorem o4(ok:i9 P w H h)(e:H a=some (.tup (ks.map kV))):(tupleKind (eY P w)).is h ks a:=by obtain⟨_,dU,r,o,h1,h2,n,h3⟩:=(show eP P w H h a (.tup (ks.map kV))from ok a _ e);exact⟨o,dU.toArray,n,h1,h2,h3,by simpa using lg r⟩
theorem qa(ok:i9 P w H h)(e:Rd H a (.dT kvs)):kvs.length≤sizeLine∧(a==sysModules)=false∧
  ∃xs,KT H kvs xs∧h.DictOfH (tupleKind (eY P w)) a xs:=by
 obtain⟨z,y,xs,r,o,es,ep,h1,h2,h3,h4,h5⟩:=(show eP P w H h a (.dT kvs)from wf ok e);refine⟨z,y,xs,r,o,es,ep,h1,h2,h3,h4,λx hx=>?_,h5⟩;have all:∀{l:List (List gJ×V)}{m:List (List gJ×Addr×Value)},KT H l m→∀x∈m,(tupleKind (eY P w)).is h x.1 x.2.1:=by
  intro l m q;induction q with
  | nil=>intro x hx;exact nomatch hx
  | @cons p q ps qs hq t ih=>
   intro x hx;rcases aF.mp hx with e|hx
   ·subst e;exact o4 ok (by rw[←hq.1];exact hq.2.1)
   ·exact ih x hx
 exact all r x hx
end
def lT(H:Hp)(a:Addr)(y:V)(r:Option V):Prop:=
 (∃kvs k,Rd H a (.dK kvs)∧y=kV k∧r=gq kvs k)∨∃kvs k b,Rd H a (.dT kvs)∧y=.ref b∧H b=some (.tup (k.map kV))∧r=gq kvs k
theorem lT.k{H:Hp}{a:Addr}{kvs:List (gJ×V)}{k:gJ}(e:H a=some (.dK kvs)):lT H a (kV k) (gq kvs k):=.inl ⟨kvs,k,.inl e,rfl,rfl⟩
section
variable {X:Cx}{pins:List (Addr×Obj)}{σ:St}{H:Hp}{s:Shared}{a:Addr}{y v:V}{u r:Value}{o:Option V}{A:Around}{E:Value→Shared→Prop}
theorem dB.big(I:dB X pins σ H s):sysModules<s.heap.objs.size:=by have h:mainGlobals<s.heap.objs.size:=(I.mod.glob.keeps I.bk).lt;exact Nat.lt_trans (by decide) h
theorem rZ(hu:A.units+1<cLine)(I:dB X pins σ H s)(g:lT H a y (some v))(ry:df y u)(h:∀w' s',dB X pins σ H s'→df v w'→Q w' s'):
  wpAny (model X.prog X.w) A (getItem (.ref a) u) Q E s:=by
 rcases g with⟨kvs,k,e,ey,l⟩|⟨kvs,k,b,e,ey,eb,l⟩
 ·subst ey;obtain⟨z,hd,vs,rel,dd⟩:=nr I.hok e;obtain⟨w',hw,rw'⟩:=jE.some_of (v:=v) (o:=valueAt vs k) (by rw[l];exact rel.val k);exact wpAny_getItem_of (qS ry) dd.mapOf hw (h w' _ (I.tok _) rw')
 ·subst ey;cases(show u=Value.ref b from ry);obtain⟨z,hd,xs,rel,dd⟩:=qa I.hok e;obtain⟨w',hw,rw'⟩:=jE.some_of (v:=v) (o:=(atKey xs k).map (·.2)) (by rw[l];exact rel.val k);obtain⟨p,hp,hp2⟩:=Option.map_eq_some_iff.mp hw;refine wpAny_getItem_heap (tupleKind_room_in1 hu) (o4 I.hok eb) dd hp ?_;rw[hp2];exact h w' _ (I.tok _) rw'
theorem wL(I:dB X pins σ H s)(mu:BG (H a))(hs:Heap.SameBut a s.heap h')(he:∃q,h'.get? a=some q)(new:eP X.prog X.w (dc H a ob) h' a ob)(ht:s.toks≤t':=by first|exact aB _|exact aQ _|assumption|exact aM _ _):
  dB X pins σ (dc H a ob) {s with heap:=h',toks:=t'}:=
 I.write (x:=a) (e:=a) mu (.inl rfl) (λb q hb z=>(hs.2 b hb).trans z) he new
theorem zY(z:kvs.length≤sizeLine)(hd:(a==sysModules)=false)(rel:KV kvs vs)(dd:h'.DictOf (eY P w) a vs):
  eP P w H' h' a (.dK kvs):=⟨z,hd,vs,rel,dd⟩
end
section
variable {X:Cx}{pins:List (Addr×Obj)}{σ:St}{H:Hp}{s:Shared}{a:Addr}{kvs:List (gJ×V)}{k:gJ}{u:Value}{A:Around}{E:Value→Shared→Prop}
end
def BF(i:Expr):Prop:=∀ov iv,subscripted i false ov iv=operate [ov,iv] (getItem ov iv)
theorem vM{prog:Program}{w:World}{A:Around}{E:Value→Shared→Prop}{s:Shared}{env:Env}{value slice:Expr}{pos:Pos}{T id:String}{Q:Value→Shared→Prop}
  (hl:typeLookup (.type T) "__getitem__"=pure (some (.builtin id))) (hs:BF slice)
  (h:wpAny (model prog w) A (eval value env) (λo s₁=>wpAny (model prog w) A (eval slice env) (λi s₂=>s₂.TypeIs o T∧wpAny (model prog w) A (getItem o i) Q E s₂) E s₁) E s):
  wpAny (model prog w) A (eval (.Subscript value slice pos) env) Q E s:=by
 refine Subscript_ (wpAny_mono h (λo s₁ h₁=>wpAny_mono h₁ (λi s₂ h₂=>?_) λ_ _ x=>x) λ_ _ x=>x);obtain⟨hT,h₂⟩:=h₂;unfold subscriptTail;refine wpAny_bind ?_;rw[getitemInPython_of_ne hT.not_modules];refine wpAny_bind (wpAny_specialOf hT hl ?_);have fC:wpAny (model prog w) A (subscripted slice false o i) (λr s₃=>wpAny (model prog w) A (letTemporaryGo value o r >>= λ_=>pure r) Q E s₃) E s₂:=by rw[hs o i];exact wpAny_operating (wpAny_mono h₂ (λr s₃ h₃=>wpAny_bind (wpAny_letTemporaryGo (wpAny_pure h₃))) λ_ _ x=>x)
 first
  | exact wpAny_pure (wpAny_bind fC)
  | exact wpAny_bind (wpAny_pure (wpAny_bind fC))
  | exact wpAny_bind fC
theorem ny(I:dB X pins σ H s)(g:lT H a y o):s.TypeIs (.ref a) "dict":=by
 rcases g with⟨kvs,k,e,_,_⟩|⟨kvs,k,b,e,_,_,_⟩
 ·obtain⟨_,_,vs,_,dd⟩:=nr I.hok e;exact dd.typeIs
 ·obtain⟨_,_,xs,_,dd⟩:=qa I.hok e;exact dd.typeIs
def wb(td ty:TE):TE:=λσ H Q=>td σ H λx H1=>ty σ H1 λy H2=>onR x λa=>m8 (λv=>lT H2 a y (some v)) λv=>Q v H2
section
variable {X:Cx}{o i e value:Expr}{pos pos' tpos:Pos}{td ty tv:TE}
theorem vc(hu:X.A.units+1<cLine)(ho:PE X o td)(hi:PE X i ty)(hs:BF i):PE X (.Subscript o i pos) (wb td ty):=by intro pins s σ H Q I h;refine vM PySem.F.slot_dict_getitem.lookup hs (thn (ho pins s σ H _ I h) λu s1 ⟨x,H1,I1,rx,q1⟩=>thn (hi pins s1 σ H1 _ I1 q1) λiv s2 ⟨y,H2,I2,ry,q2⟩=>?_);obtain⟨a,rfl,q2⟩:=onR.ex q2;obtain @⟨v,g,q2⟩:=q2;obtain rfl:u=Value.ref a:=rx;exact⟨ny I2 g,rZ hu I2 g ry λw' s3 I3 rw'=>⟨v,H2,I3,rw',q2⟩⟩
end
theorem uR(h:Heap)(hb:sysModules<h.objs.size):eP P w H (h.push {cls:=.type "dict",data:=.dict #[]}) h.objs.size (.dK []):=
 ⟨aR _,beq_eq_false_iff_ne.mpr (ai (aI hb)),[],.nil,Heap.DictOf.new h⟩
section
variable {X:Cx}{pos:Pos}
end
def oS:List (TE×TE)→St→Hp→(List (V×V)→Hp→Prop)→Prop
 | [],_,H,Q=>Q [] H
 | (tk,tv)::r,σ,H,Q=>tk σ H λx H1=>tv σ H1 λy H2=>oS r σ H2 λps H3=>Q ((x,y)::ps) H3
abbrev VV:List (V×V)→List (Value×Value)→Prop:=Paired λp q=>df p.1 q.1∧df p.2 q.2
def Bg(X:Cx)(pos:Pos)(keys:List (Option Expr))(values:List Expr)(trs:List (TE×TE)):Prop:=
 ∀(pins:List (Addr×Obj))(s:Shared)(σ:St)(H:Hp)(Q:List (V×V)→Hp→Prop),dB X pins σ H s→oS trs σ H Q→
  wpAny (model X.prog X.w) X.A (evalPairs (pairTrees keys values X.env pos)) (λvs s'=>∃ps H',dB X pins σ H' s'∧VV ps vs∧Q ps H') X.xe s
theorem qI:Bg X pos [] [] []:=λpins s σ H Q I h=>pairTrees_nil_walk ⟨[],H,I,.nil,h⟩
theorem fe(hk:PE X k tk)(hv:PE X v tv)(hr:Bg X pos ks vs trs):
  Bg X pos (some k::ks) (v::vs) ((tk,tv)::trs):=λpins s σ H Q I h=>
 pairTrees_cons_walk (thn (hk pins s σ H _ I h) λu s1 ⟨x,H1,I1,rx,q1⟩=>thn (hv pins s1 σ H1 _ I1 q1) λw2 s2 ⟨y,H2,I2,ry,q2⟩=>
  thn (hr pins s2 σ H2 _ I2 q2) λws s3 ⟨ps,H3,I3,rel,q3⟩=>⟨(x,y)::ps,H3,I3,.cons ⟨rx,ry⟩ rel,q3⟩)
def dz(kvs more:List (gJ×V)):List (gJ×V):=more.foldl (λacc kv=>nT acc kv.1 kv.2) kvs
theorem KV.merge:∀{more:List (gJ×V)}{rs:List (gJ×Value)}{kvs:List (gJ×V)}{vs:List (gJ×Value)},KV more rs→KV kvs vs→KV (dz kvs more) (merged vs rs):=by
 intro more rs kvs vs r;unfold KV at r;induction r generalizing kvs vs with
 | nil=>intro q;exact q
 | @cons p q ps qs h t ih=>
  intro r0;have e:KV (nT kvs p.1 p.2) (stored vs q.1 q.2):=by have:=r0.put p.1 h.2;rw[←h.1];exact this
  exact ih e
theorem jI:∀(more kvs:List (gJ×V)),(dz kvs more).length≤kvs.length+more.length
 | [],kvs=>by show kvs.length≤kvs.length+0;lia
 | p::r,kvs=>by have h1:=jI r (nT kvs p.1 p.2);have h2:=nc kvs p.1 p.2;show(dz (nT kvs p.1 p.2) r).length≤_;rw[aC];lia
theorem lG:∀{kvs:List (gJ×V)}{ws:List (Value×Value)},VV (kvs.map λkv=>(kV kv.1,kv.2)) ws→∃rs,Carries (eY P w) ws rs∧KV kvs rs
 | [],_,r=>by rw[bc]at r;cases r;exact⟨[],ac,.nil⟩
 | p::kvs,_,r=>by
  rw[af]at r;cases r with
  | @cons a b as bs h t=>obtain⟨rs,c,q⟩:=lG (P:=P) (w:=w) t;obtain⟨b1,b2⟩:=b;exact⟨(p.1,b2)::rs,⟨qS h.1,rfl,c⟩,.cons ⟨rfl,h.2⟩ q⟩
def pY(trs:List (TE×TE)):TE:=λσ H Q=>∀p,H p=none→oS trs σ (dc H p (.dK [])) λps H2=>H2 p=some (.dK [])∧∃kvs:List (gJ×V),ps=kvs.map (λkv=>(kV kv.1,kv.2))∧kvs.length≤15∧Q (.ref p) (dc H2 p (.dK (dz [] kvs)))
theorem qM(h:Bg X pos keys values trs)(hall:keys.all (·.isSome)=true)(hl:keys.length=values.length)(h0:keys≠[])
  (h15:keys.length≤15):PE X (.Dict keys values pos) (pY trs):=by
 intro pins s σ H Q I q;have hn:=I.hok.fresh (aB s.heap.objs.size);have I1:=I.laid (a:=s.heap.objs.size) (o:=.dK []) (h':=s.heap.push {cls:=.type "dict",data:=.dict #[]}) (t':=s.toks) (λ_ _ q=>Heap.get?_push_of_some _ q) (aB _) (uR s.heap I.big);refine wpAny_Dict_walk (knd:=eY X.prog X.w) hall hl h0 h15 (thn (h pins _ σ _ _ I1 (q _ hn)) λws s2 ⟨ps,H2,I2,rel,e,kvs,ep,lk,q2⟩=>?_);subst ep;obtain⟨rs,c,rk⟩:=lG (P:=X.prog) (w:=X.w) rel;obtain⟨z,hd,vs0,r0,dd⟩:=A7 I2.hok e;cases r0;refine⟨rs,c,dd,λh' dd' hs=>⟨.ref s.heap.objs.size,_,?_,rfl,q2⟩⟩;have hz:(dz [] kvs).length≤sizeLine:=by have h1:=jI kvs [];rw[aG]at h1;rw[sizeLine_eq];lia
 have he:∃q,h'.get? s.heap.objs.size=some q:=let ⟨q,_,_,hq,_⟩:=dd';⟨q,hq⟩;exact wL I2 (by rw[e];exact ac) hs he (zY hz hd (rk.merge .nil) dd')
structure M2(X:Cx)(o:Expr)(m:Str)(apos:Pos)(e f:Expr)(cpos:Pos):Prop where
 base:attributeBase o m X.env (eval o X.env)=eval o X.env
 few:((backTo cpos (starEach [e,f] X.env)).all (λx=>!x.1)&&(backToKw cpos (keywordEach [] X.env)).all (λx=>x.1.isSome)
  && decide (([e,f]:List Expr).length+([]:List Keyword).length+(if([]:List Keyword).isEmpty then 0 else 1)<30))=true
 line:(apos.endLine==cpos.line)=true
 trees:backTo cpos (starEach [e,f] X.env)=[(false,eval e X.env),(false,eval f X.env)]
def DX(H:Hp)(a:Addr):Prop:=(∃kvs,Rd H a (.dK kvs))∨∃kvs,Rd H a (.dT kvs)
theorem zU(I:dB X pins σ H s)(d:DX H a):
  s.TypeIs (.ref a) "dict"∧(∀b,Value.ref a=.ref b→∃ob,s.heap.get? b=some ob∧ob.dict=none)∧(a==sysModules)=false:=by
 rcases d with⟨kvs,e⟩|⟨kvs,e⟩
 ·obtain⟨_,hd,vs,_,dd⟩:=nr I.hok e;refine⟨dd.typeIs,λb q=>?_,hd⟩;cases q;obtain⟨ob,_,_,h1,h2,_⟩:=dd;exact⟨ob,h1,h2.2.1⟩
 ·obtain⟨_,hd,xs,_,dd⟩:=qa I.hok e;refine⟨dd.typeIs,λb q=>?_,hd⟩;cases q;obtain⟨ob,_,_,h1,h2,_⟩:=dd;exact⟨ob,h1,h2.2.1⟩
section
variable {X:Cx}{pins:List (Addr×Obj)}{σ:St}{H:Hp}{s:Shared}{a:Addr}{y d:V}{u r:Value}{o:Option V}{A:Around}{E:Value→Shared→Prop}
theorem za(hu:A.units+1<cLine)(I:dB X pins σ H s)(g:lT H a y o)(ry:df y u)(rd:df d r)(h:∀w' s',dB X pins σ H s'→df (o.getD d) w'→Q w' s'):
  wpAny (model X.prog X.w) A (call (.builtin "dict.get") [.ref a,u,r]) Q E s:=by
 rcases g with⟨kvs,k,e,ey,l⟩|⟨kvs,k,b,e,ey,eb,l⟩
 ·subst ey;obtain⟨z,hd,vs,rel,dd⟩:=nr I.hok e;refine call_meetsIn b6 dd.typeIs cU (cV _ _ _) (meets_dict_get_default (eY X.prog X.w) a (qS ry) hd r) ⟨_,dd.mapOf,h _ _ (I.tok _) ?_⟩;rw[l];exact(rel.val k).getD rd
 ·subst ey;cases(show u=Value.ref b from ry);obtain⟨z,hd,xs,rel,dd⟩:=qa I.hok e;refine call_meetsIn b6 dd.typeIs cU (cV _ _ _) (meetsH_dict_get_default (tupleKind (eY X.prog X.w)) a b hd r) ⟨tupleKind_room_in1 hu,k,xs,o4 I.hok eb,dd,h _ _ (I.tok _) ?_⟩;rw[l];exact(rel.val k).getD rd
end
def sj(td ty tx:TE):TE:=λσ H Q=>td σ H λx H1=>onR x λa=>DX H1 a∧ty σ H1 λy H2=>tx σ H2 λz H3=>∃o,lT H3 a y o∧Q (o.getD z) H3
section
variable {X:Cx}{o e f:Expr}{apos cpos:Pos}{td ty tx:TE}
theorem tW(hu:X.A.units+1<cLine)(ho:PE X o td)(he:PE X e ty)(hf:PE X f tx)(m:M2 X o "get" apos e f cpos):PE X (.Call (.Attribute o "get" apos) [e,f] [] cpos) (sj td ty tx):=by
 intro pins s σ H Q I h;refine wpAny_Call_method m.base m.few m.line PySem.F.plainAttrs_dict b6 PySem.F.type_dict_get (thn (ho pins s σ H _ I h) λu s1 ⟨x,H1,I1,rx,q1⟩=>?_);obtain⟨a,rfl,d,q1⟩:=onR.ex q1;obtain rfl:u=Value.ref a:=rx;obtain⟨t1,t2,_⟩:=zU I1 d;refine⟨t1,t2,?_⟩;rw[m.trees];refine Calls.callWith_builtin rfl (Calls.evalArgs_plain (Calls.spliced_cons (thn (he pins s1 σ H1 _ I1 q1) λiv s2 ⟨y,H2,I2,ry,q2⟩=>
  Calls.spliced_cons (thn (hf pins s2 σ H2 _ I2 q2) λfv s3 ⟨z,H3,I3,rz,ov,g,q3⟩=>Calls.spliced_nil ?_))))
 exact za hu I3 g ry rz λw' s4 I4 rw'=>⟨_,H3,I4,rw',q3⟩
end
section
variable {X:Cx}{pins:List (Addr×Obj)}{σ:St}{H:Hp}{s:Shared}{a:Addr}{kvs:List (gJ×V)}{A:Around}{E:Value→Shared→Prop}
end
section
variable {X:Cx}{pins:List (Addr×Obj)}{σ:St}{H:Hp}{s:Shared}{a:Addr}{y:V}{u:Value}{A:Around}{E:Value→Shared→Prop}
end
end L2
namespace Att
open PySem PySem.W PySem.Calls PyProof.Rows
theorem kT:∀(ns:List Int)(vs:List Value),WellAll P h vs (ns.map WData.int)→IntsAre vs ns:=by
 intro ns;induction ns with
 | nil=>intro vs w;rw[bc]at w;cases w;exact .nil
 | cons n ns ih=>
  intro vs w;rw[af]at w;cases w with
  | cons a b=>cases a;exact .cons _ _ (ih _ b)
theorem q8{l:OpenLaw}{n:Nat}(hn:l.most=some n){P:Params}{h:Heap}{args:List WData}{vals:List Value}
  (hpre:l.row.toRowW.claim.pre args=true) (hwl:WellAll P h vals args):
  ∃a vs ns,vals=[Value.ref a]∧args=[WData.list (ns.map WData.int)]∧h.get? a=some {cls:=.type "list",data:=.seq vs.toArray}∧IntsAre vs ns∧ns.length≤n:=by
 have hsh:WShape.hasAll [] args [.list .int]=true:=(pre_splitW hpre).1;have hc:l.pre.holds [] {args:=args}=true:=(pre_splitW hpre).2;obtain⟨d,r,rfl,h1,h2⟩:=hasAllW_cons hsh;obtain rfl:=hasAllW_nil h2;obtain⟨xs,rfl,h3⟩:=hasW_list h1;obtain⟨ns,rfl⟩:=items_int h3;have hlen:ns.length≤n:=by
  unfold OpenLaw.pre at hc;have h4:(WTm.not (.lt (.lit (.int (n:Int))) (.len (.arg 0)))).holds [] {args:=[.list (ns.map .int)]}=true:=by have h4:=(holds_andW hc).1;rw[hn]at h4;exact h4
  have h5:=condW_of h4 (w_not (w_lt w_lit (w_len_list (w_arg rfl))));rw[aV]at h5;refine Nat.le_of_not_lt λq=>?_;have q':(n:Int)<((ns.length:Nat):Int):=by lia
  first
   | (rw[decide_eq_true q']at h5;exact absurd h5 (by decide))
   | (simp at h5;lia)
 cases hwl with
 | cons w1 w2=>
  cases w2;cases w1 with
  | list ho hall=>exact⟨_,_,ns,rfl,rfl,ho,kT ns _ hall,hlen⟩
theorem rD(l:OpenLaw)(args:List WData):l.row.toRowW.claim.post args (.bool true) args=true:=
 postW_of (r:=l.row.toRowW) (X:=(true==true))
  (show WShape.has [] (.bool true) .bool=true by first|rfl|decide|simp[WShape.has,WShape.arms,WShape.armsAll])
  (show(WTm.eq .res (.lit (.bool true))).value [] {args:=args,res:=some (.bool true),after:=args}=some (.bool (true==true))from w_eq_bool (w_res rfl) w_lit) rfl
theorem xA{l:OpenLaw}{n:Nat}{q:Program}{loose:List Str}{XP:(Str→Option Value)→Heap→Prop}{YP:World→Heap→Prop}{d:DefRec}
  (hn:l.most=some n) (hdf:d.params.defaults=[])
  (call:∀(w:World)(s₀ s₁:Shared)(mg mb:Str→Option Value)(fa:Addr)(o:Obj)(pm cd doc:Value)(a:Addr)(vs:List Value)(ns:List Int),
   Ground q loose [] XP w s₀ mg mb s₁.heap→YP w s₁.heap→
   s₁.heap.get? fa=some o→o.data=.func (docDef d.name d.params d.body d.scope pm cd doc)→s₁.heap.CodeRec cd d.name→mg d.name=some (.ref fa)→
   s₁.heap.get? a=some {cls:=.type "list",data:=.seq vs.toArray}→IntsAre vs ns→ns.length≤n→s₁.gens = #[]→
   codeAny (model l.prog w) callerA (.call (.ref fa) ⟨[.ref a],[]⟩) (λr s'=>r=.ok (.ret (.bool true))∧OldK s₁.heap s'.heap∧s'.os=s₁.os∧AllBare s'.gens) s₁):
  WalkO q loose XP YP l.row.toRowW d [] (λf vs=>PySem.call f vs):=by
 intro w s₀ s₁ mg mb G Y fa o pm cd doc dV kV ho hd hcd hD hmg hg args vals as hpre hlay hrd hwl hlo;obtain rfl:dV=.none:=Dflts.none hD hdf;obtain rfl:kV=.none:=Dflts.noKw hD;obtain⟨a,vs,ns,rfl,rfl,hobj,hints,hlen⟩:=q8 hn hpre hwl;refine enter_call (codeAny_mono (call w s₀ s₁ mg mb fa o pm cd doc a vs ns G Y ho (fd_plain hd) hcd hmg hobj hints hlen hg) λr s' hq=>?_);obtain⟨rfl,h2,h3,h4⟩:=hq;exact⟨.inl ⟨.bool true,.bool true,[],rfl,λ_=>rfl,.bool true,rD l _,λ_=>⟨List.Pairwise.nil,λ_ hm=>(nomatch hm)⟩⟩,h2,h3,h4⟩
section
variable {prog:Program}{w:World}{A:Around}{E:Value→Shared→Prop}{s:Shared}{K:Frag}
end
end Att
namespace L2
open PySem PySem.Spec PyProof.Rows
theorem lU:∀{vs:List Value}{ns:List Int},IntsAre vs ns→dS (ns.map V.int) vs
 | _,_,.nil=>.nil
 | _,_,.cons n t h=>.cons ⟨t,rfl⟩ (lU h)
def zh(H:Hp):Prop:=∀b,H b=none∨∃o xs,H b=some (.frz o (.lst xs))
theorem uC{P:Program}{w:World}{K:aA}{mg mb:Str→Option Value}{CX:rj}{k:Nat}{fa a:Addr}{fd:FuncData}{x:Str}{sp:Sp}{s₁:Shared}{vs:List Value}{ns:List Int}
  (KX:K.In s₁.heap) (hns:s₁.heap.Ns mainGlobals mg) (hb:s₁.heap.Ns builtinsNs mb) (hbb:∀x:Str,x≠"__name__"→mb x=bootBuiltins x) (hlim:s₁.heap.NoLimit) (hg:s₁.gens = #[])
  (ha:s₁.heap.get? a=some {cls:=.type "list",data:=.seq vs.toArray}) (hi:IntsAre vs ns) (hl:ns.length≤sizeLine) (hr:eQ k callerA)
  (F:∀base:Heap,K.In base→base.Ns mainGlobals mg→hU P w K mg base CX k fa fd [x] sp) (hbind:∀(s:Shared)(u:Value),BindsTo s fd ⟨[u],[]⟩ [(x,u)])
  (hsp:∀H:Hp,zh H→dv K H a (ns.map V.int)→sp [.ref a] H (λv _=>v=.bl true) λ_ _ _=>False)
  (hCX:∀H e s',CX [] H s₁ (λ_ _ _=>False) e s'→False):
  codeAny (model P w) callerA (.call (.ref fa) ⟨[.ref a],[]⟩) (λr s'=>r=.ok (.ret (.bool true))∧OldK s₁.heap s'.heap∧s'.os=s₁.os∧AllBare s'.gens) s₁:=by
 have rv:=lU hi;have lenV:=hi.length;have core:∀H:Hp,zh H→dv K H a (ns.map V.int)→i9 P w H s₁.heap→(∀b,H b≠none→b=a)→(H a≠none→K.lookup a=none)→
   codeAny (model P w) callerA (.call (.ref fa) ⟨[.ref a],[]⟩) (λr s'=>r=.ok (.ret (.bool true))∧OldK s₁.heap s'.heap∧s'.os=s₁.os∧AllBare s'.gens) s₁:=by
  intro H hO hS hok hA hK;have base_of:∀{b:Addr}{o:Obj},s₁.heap.get? b=some o→H b=none→(mt s₁.heap H).get? b=some o:=λe n=>uG e n;have noA:∀{b:Addr}{o:Obj}{es:Array DictEntry}{ep:Nat},s₁.heap.get? b=some o→o.data=.dict es ep→H b=none:=λ{b o es ep} e d=>by
   cases q:H b with
   | none=>rfl
   | some u=>have e':b=a:=hA b (by rw[q];simp);subst e';rw[ha]at e;cases e;have d':Data.seq vs.toArray _=Data.dict es ep:=d;cases d'
  have nsK:∀{b:Addr}{m:Str→Option Value},s₁.heap.Ns b m→(mt s₁.heap H).Ns b m:=λ{b m} ⟨o,es,ep,e,d,r⟩=>⟨o,es,ep,base_of e (noA e d),d,r⟩;have hKb:K.In (mt s₁.heap H):=λb o e=>base_of (KX b o e) (by
   cases q:H b with
   | none=>rfl
   | some u=>
    have e':b=a:=hA b (by rw[q];simp);subst e';rw[hK (by rw[q];simp)]at e;cases e)
  have hM:Mod K mg (mt s₁.heap H):=⟨hKb,nsK hns,⟨mb,nsK hb,hbb⟩,let ⟨mc,h1,h2⟩:=hlim;⟨mc,nsK h1,h2⟩⟩;have e0:oI P w K mg (mt s₁.heap H) callerA [] s₁ H:=⟨rfl,hM,λb o e=>vj e,bY (rS _ _),trivial,λb hb=>absurd (show b∈([]:List Addr)from hb) (by simp),hok,.of_eq hg⟩;refine codeAny_mono ((F _ hKb (nsK hns)).run callerA [] s₁ H ⟨[.ref a],[]⟩ [.ref a] [.ref a] _ _ hr e0 (hbind s₁ (.ref a)) (.cons rfl .nil) (hsp H hO hS)) λr s' h=>?_;cases r with
  | error e=>exact(hCX H e s' h).elim
  | ok fl=>
   cases fl with
   | next=>exact False.elim h
   | brk=>exact False.elim h
   | cont=>exact False.elim h
   | ret u=>
    obtain⟨v,H',os,⟨_,bare⟩,un,hok',r',q⟩:=h;have q':v=.bl true:=q;subst q';obtain rfl:u=Value.bool true:=r';refine⟨rfl,OldK.of_keep λb o e=>?_,os,bare⟩;cases q:H b with
    | none=>exact un.keep b o e q (by intro z;exact absurd (show b∈([]:List Addr)from z) (by simp)) (by simp)
    | some u=>
     rcases hO b with z|⟨ob,xs,z⟩
     ·rw[q]at z;cases z
     ·have z2:=un.frzs b ob _ z;obtain⟨e1,_⟩:=hok b _ z;obtain⟨e2,_⟩:=hok' b _ z2;rw[e]at e1;cases e1;exact e2
 cases hk:K.lookup a with
 | some o=>have e:=KX a o hk;rw[ha]at e;cases e;refine core (λ_=>none) (λ_=>.inl rfl) (.inr ⟨_,vs.toArray,_,hk,rfl,rfl,rfl,by rw[aK,lenV];exact hl,by simpa using rv⟩) (λb u z=>by have z':(none:Option HO)=some u:=z;cases z') (λb z=>absurd rfl z) λz=>absurd rfl z
 | none=>
  refine core (λb=>if b=a then some (.frz {cls:=.type "list",data:=.seq vs.toArray} (.lst (ns.map V.int)))else none) (λb=>?_) (.inl (.inr ⟨{cls:=.type "list",data:=.seq vs.toArray},if_pos rfl⟩)) (λb u z=>?_) (λb z=>?_) λ_=>hk
  ·by_cases hb:b=a
   ·exact .inr ⟨_,_,if_pos hb⟩
   ·exact .inl (if_neg hb)
  ·by_cases hb:b=a
   ·have z':=(if_pos hb).symm.trans z;cases z';subst hb;exact⟨ha,by rw[aV];exact hl,vs,_,rv,ha⟩
   ·have z':=(if_neg hb).symm.trans z;cases z'
  ·by_cases hb:b=a
   ·exact hb
   ·exact absurd (if_neg hb) z
theorem BQ{l:PySem.W.OpenLaw}{n k:Nat}{q:Program}{loose:List Str}{XP:(Str→Option Value)→Heap→Prop}{YP:World→Heap→Prop}{d:DefRec}{K:Params→aA}{CX:World→rj}{sp:World→Sp}{x:Str}
  (hn:l.most=some n) (hn2:n≤sizeLine) (hdf:d.params.defaults=[]) (hr:eQ k callerA)
  (hY:∀(w:World)(h:Heap),YP w h→(K w.params).In h)
  (F:∀(w:World)(mg:Str→Option Value)(fa:Addr)(h:Heap),(K w.params).In h→h.Ns mainGlobals mg→mg d.name=some (.ref fa)→
   ∃fd:FuncData,(∀(s:Shared)(u:Value),BindsTo s fd ⟨[u],[]⟩ [(x,u)])∧
    ∀base:Heap,(K w.params).In base→base.Ns mainGlobals mg→hU l.prog w (K w.params) mg base (CX w) k fa fd [x] (sp w))
  (hsp:∀(w:World)(H:Hp)(a:Addr)(ns:List Int),ns.length≤n→zh H→dv (K w.params) H a (ns.map V.int)→sp w [.ref a] H (λv _=>v=.bl true) λ_ _ _=>False)
  (hCX:∀(w:World)(H:Hp)(s:Shared)(e:Value)(s':Shared),CX w [] H s (λ_ _ _=>False) e s'→False):
  PySem.W.WalkO q loose XP YP l.row.toRowW d [] (λf vs=>PySem.call f vs):=by
 refine Att.xA hn hdf λw s₀ s₁ mg mb fa o pm cd doc a vs ns G Y ho hd hcd hmg hobj hints hlen hg=>?_;have KX:=hY w _ Y;obtain⟨fd,hb,hF⟩:=F w mg fa _ KX G.T.g hmg;exact uC KX G.T.g G.T.b G.T.builtins G.T.nolimit hg hobj hints (aE hlen hn2) hr hF hb (λH hO hS=>hsp w H a ns hlen hO hS) λH e s'=>hCX w H s₁ e s'
def db(s:Stmt)(j:Nat):Stmt:=match s with
 | .ClassDef _ _ _ body _ _ _ _ _ _ _=>body.getD j (.Pass ⟨0,0,0,0⟩)
 | _=>.Pass ⟨0,0,0,0⟩
def gn(s:Stmt):Arguments:=match s with
 | .FunctionDef _ a _ _ _ _ _ _ _ _=>a
 | _=>{posonlyargs:=[],args:=[],vararg:=none,kwonlyargs:=[],kw_defaults:=[],kwarg:=none,defaults:=[]}
def e8(s:Stmt):List Stmt:=match s with
 | .FunctionDef _ _ b _ _ _ _ _ _ _=>b
 | _=>[]
def dH(s:Stmt):Scope:=match s with
 | .FunctionDef _ _ _ _ _ _ sc _ _ _=>sc
 | _=>{kind:=.function,names:=[],isGenerator:=false,isCoroutine:=false}
abbrev oM:rj:=λ_ _ _ _ _ _=>False
abbrev E0:XK:=λ_ _ _=>False
theorem tX:gz oM X E0:=λ_ _ _ _ _ _ _ h=>h.elim
structure ug(K:aA)(x qual:Str)(st:Stmt)(f:Addr)(fd:FuncData):Prop where
 ex:∃(oc:Value)(od:Option Addr)(kV doc pm:Value)(an:Option Addr)(cdv ct:Value)(osl:Array (Option Value)),
  fd=PySem.W.fnOf x qual (gn st) (e8 st) (dH st) .none kV doc pm an cdv ct∧K.lookup f=some ⟨oc,od,.func fd,osl⟩∧PySem.W.codeIn K cdv qual=true
 kp:PySem.W.keepIn K (.ref f)=true
section
variable {P:Program}{w:World}{K:aA}{mg:Str→Option Value}{base:Heap}
theorem ug.ok{x qual:Str}{st:Stmt}{f:Addr}{fd:FuncData}{N ps:List Str}{k:Nat}{sp:Sp}(F:ug K x qual st f fd)(S:gp N ps (dH st))(len:∀vs H Q E,sp vs H Q E→vs.length=ps.length)
  (hbody:∀(cdv:Value)(A:Around)(outer:List Env)(s:Shared)(H:Hp)(vs:List V)(Q:VK)(E:XK),eQ k (A.deeper (envOfC qual (dH st) s.heap.objs.size f cdv))→sp vs H Q E→
   ∃t,kU (gH oM P w K mg base N qual (dH st) f cdv A outer s H E).nox (e8 st) t∧t {nx:=λ_ H'=>Q .non H',rt:=Q} (start N vs) H):hU P w K mg base oM (k+1) f fd ps sp:=by
 obtain⟨oc,od,kV,doc,pm,an,cdv,ct,osl,rfl,lk,hcd⟩:=F.ex;refine w5 lk hcd S len λA outer s H vs Q E hr hsp=>?_;obtain⟨t,h,q⟩:=hbody cdv A outer s H vs Q E hr hsp;exact⟨t,h.nox,q⟩
theorem ug.binds{x qual:Str}{st:Stmt}{f:Addr}{fd:FuncData}{ps:List Str}(F:ug K x qual st f fd)
  (h:∀(kV doc pm:Value)(an:Option Addr)(cdv ct:Value)(us:List Value),us.length=ps.length→bindArgs (PySem.W.fnOf x qual (gn st) (e8 st) (dH st) .none kV doc pm an cdv ct) ⟨us,[]⟩=pure (ps.zip us)):gO K fd ps []:=by
 obtain⟨oc,od,kV,doc,pm,an,cdv,ct,osl,rfl,lk,hcd⟩:=F.ex;exact .all (h kV doc pm an cdv ct)
theorem zW{x qual:Str}{st:Stmt}{f:Addr}{oc:Value}{od an:Option Addr}{osl:Array (Option Value)}{kV doc pm cdv ct:Value}(l:K.lookup f=some ⟨oc,od,.func (PySem.W.fnOf x qual (gn st) (e8 st) (dH st) .none kV doc pm an cdv ct),osl⟩)
  (c:PySem.W.codeIn K cdv qual=true) (k:PySem.W.keepIn K (.ref f)=true):ug K x qual st f (PySem.W.fnOf x qual (gn st) (e8 st) (dH st) .none kV doc pm an cdv ct):=⟨⟨oc,od,kV,doc,pm,an,cdv,ct,osl,rfl,l,c⟩,k⟩
end
theorem wy(hr:eQ k A):A.units+1<cLine:=b7 (Nat.add_le_add_left (by decide:1≤64) _) hr.units
section
variable {X:Cx}
theorem pv(i:Nat)(hN:X.N[i]?=some x:=by rfl)(hv:Be X.env.scope x:=by first|exact ae rfl|exact au (ae rfl)|exact au (au rfl))(hd:(x==("__debug__":Str))=false:=by decide)
  (hcd:(x==("__classdict__":Str))=false:=by decide):PE X (.Name x pos) (cq i):=tS hN hv hd hcd
end
theorem e7{A B:Prop}(h:B):if false=true then A else B:=by rw[if_neg aJ];exact h
theorem gw{A B:Prop}(h:A):if true=true then A else B:=by rw[if_pos rfl];exact h
theorem gS{c A B:Prop}[Decidable c](h1:c→A)(h2:¬c→B):if c then A else B:=by
 by_cases h:c
 ·rw[if_pos h];exact h1 h
 ·rw[if_neg h];exact h2 h
def dQ(H H':Hp):Prop:=∀b o,H b=some o→H' b=some o
theorem dQ.trans(a:dQ H H1)(b:dQ H1 H2):dQ H H2:=λc o h=>b c o (a c o h)
theorem dQ.free(e:dQ H H')(h:H' l=Option.none):H l=Option.none:=by
 cases q:H l with
 | none=>rfl
 | some o=>rw[e l o q]at h;cases h
theorem dQ.seq{K:aA}{H H':Hp}{a:Addr}{xs:List V}(e:dQ H H')(h:dv K H a xs):dv K H' a xs:=by
 rcases h with(h|⟨o,h⟩)|h
 ·exact .inl (.inl (e _ _ h))
 ·exact .inl (.inr ⟨o,e _ _ h⟩)
 ·exact .inr h
section
variable {κ:Type}[DecidableEq κ]
end
theorem eK:bootBuiltins "len"=some (.builtin "len"):=by decide
theorem iT:bootBuiltins "int"=some (.type "int"):=by decide
theorem m4:bootBuiltins "str"=some (.type "str"):=by decide
theorem wN:bootBuiltins "bool"=some (.type "bool"):=by decide
theorem wM:bootBuiltins "list"=some (.type "list"):=by decide
theorem lI:bootBuiltins "tuple"=some (.type "tuple"):=by decide
theorem dn:bootBuiltins "isinstance"=some (.builtin "isinstance"):=by decide
theorem zd:bootBuiltins "min"=some (.builtin "min"):=by decide
theorem ze:bootBuiltins "abs"=some (.builtin "abs"):=by decide
theorem mr(p:PlainL h a dU):h.IsList a dU:=by obtain⟨o,n,e,c,_,d⟩:=p;exact⟨o,e,c,n,d⟩
section
variable {X:Cx}
def mZ(K:aA):R2:=λx y H Q=>onR x λa=>onR y λb=>m8 (dv K H a) λxs=>dv K H b []∧Q (.bl (!xs.isEmpty)) H
theorem lA(hu:X.A.units<cLine):jq X (compareOp .NotEq) (mZ X.K):=by
 intro pins s σ H x y v u Q I rx ry h;obtain⟨a,rfl,h⟩:=onR.ex h;obtain⟨b,rfl,h⟩:=onR.ex h;obtain @⟨xs,ha,hb,q⟩:=h;cases rx;cases ry;obtain⟨dU,r1,p1,_⟩:=I.list ha;obtain⟨its2,r2,p2,_⟩:=I.list hb;cases r2;cases r1 with
 | nil=>exact SeqAt.RcNeAt.lists (e:=λ_=>true) (mr p1) (mr p2) rfl hu (λj h1 _=>absurd h1 (Nat.not_lt_zero _)) _ _ _ _ ⟨.bl false,H,I,rfl,q⟩
 | cons _ _=>exact SeqAt.RcNeAt.lists_lengths (mr p1) (mr p2) rfl hu _ _ _ _ ⟨.bl true,H,I,rfl,q⟩
theorem ph:∀{ws:List Str}{us:List Value},dS (ws.map V.str) us→StrsAre us ws
 | [],_,r=>by rw[bc]at r;cases r;exact .nil
 | w::ws,_,r=>by
  rw[af]at r;cases r with
  | cons h t=>obtain⟨t',rfl⟩:=h;exact .cons w t' (ph t)
def pC(K:aA):List V→Hp→VK→Prop:=λxs H Q=>onC xs λx r=>on1 r λy=>onY y λc=>m8 (kC K H x) λt=>m8 (λb=>PySem.W.kitOne K t (.type c)=some b) λb=>Q (.bl b) H
theorem iF:iG X (.builtin "isinstance") (pC X.K):=by intro pins s σ H xs us Q I r h;obtain⟨x,_,rfl,h⟩:=onC.ex h;obtain⟨_,rfl,h⟩:=on1.ex h;obtain⟨c,rfl,h⟩:=onY.ex h;obtain @⟨t,ty,h⟩:=h;obtain @⟨b,e,q⟩:=h;obtain⟨u,w',rfl,ru,rw'⟩:=sC r;cases rw';exact wpAny_with_toks (aB s.toks) (rR I ru ty e λtk ht=>⟨.bl b,H,I.tok tk ht,rfl,q⟩)
end
section
variable {X:Cx}
end
section
variable {prog:Program}{w:World}{A:Around}{E:Value→Shared→Prop}{s:Shared}{κ:Type}[DecidableEq κ]{knd:KeyKind prog w κ}{d:Addr}{kvs:List (κ×Value)}{ep:Nat}
end
section
variable {X:Cx}
end
theorem eP.at_(x:eP P w H h a o):∃u,h.get? a=some u:=by
 cases o with
 | lst xs=>obtain⟨_,_,_,_,e⟩:=x;exact⟨_,e⟩
 | tup xs=>obtain⟨_,_,_,o,e,_⟩:=x;exact⟨_,e⟩
 | dK kvs=>obtain⟨_,_,_,_,o,_,_,e,_⟩:=x;exact⟨_,e⟩
 | dT kvs=>obtain⟨_,_,_,_,o,_,_,e,_⟩:=x;exact⟨_,e⟩
 | set S n=>obtain⟨o,_,_,_,e,_⟩:=x;exact⟨_,e⟩
 | ins C dx fs=>obtain⟨_,_,_,e,_⟩:=x;exact⟨_,e⟩
 | own y=>obtain⟨_,e⟩:=x;exact⟨_,e⟩
 | xd fs=>obtain⟨_,⟨_,_,_,e,_⟩,_⟩:=x;exact⟨_,e⟩
 | rng lo hi=>obtain⟨_,_,_,e⟩:=x;exact⟨_,e⟩
 | frz ob u=>obtain⟨e,_⟩:=x;exact⟨_,e⟩
 | tbl ps=>exact⟨_,(show h.get? a=some _ from x)⟩
 | met f y=>exact⟨_,(show h.get? a=some _ from x)⟩
 | ext φ=>obtain⟨_,⟨_,e⟩,_⟩:=x;exact⟨_,e⟩
theorem i9.new(x:i9 P w H h)(e:h.get? a=none):H a=none:=by
 cases q:H a with
 | none=>rfl
 | some u=>obtain⟨o,z⟩:=(x a u q).at_;rw[e]at z;cases z
structure xC(P:Program)(w:World)(outer:List Env)(H H':Hp)(s s':Shared)(ea:Addr)(cls:Value)(B:Heap)(a0:Value):Prop where
 os:s'.os=s.os
 bare:AllBare s'.gens
 un:Un (lN outer) [] H H' s.heap s'.heap
 hok:i9 P w H' s'.heap
 tk:s.toks≤s'.toks
 free:H' ea=none
 fly:Heap.FlyingW B outer ea cls a0 s'.heap
 b1:∀b o,s'.heap.get? b=some o→(H' b).isSome=true→B.get? b=some o
 b2:∀b o,s.heap.get? b=some o→H b=none→b∉lN outer→B.get? b=some o
 b3:∀b o,s.heap.get? b=some o→b∉lN outer→∃o',B.get? b=some o'
def kO(P:Program)(w:World):rj:=λouter H s E e s'=>∃ea cls H' B a0,e=.ref ea∧xC P w outer H H' s s' ea cls B a0∧E cls none H'
theorem wz{P:Program}{w:World}{H:Hp}{h h' B:Heap}(x:i9 P w H h)(b1:∀b o,h.get? b=some o→(H b).isSome=true→B.get? b=some o)(k:B.StaysIn h'):i9 P w H h':=λb o e=>
 (x b o e).stay (λc v hc q=>k c v (b1 c v q (by rcases hc with rfl|hc;(· rw[e];rfl);(· rw[hc];rfl)))) (λ_ q=>q) λ_ _ q=>q
theorem xC.on(F:xC P w outer H H' s s' ea cls B a0)(fl:Heap.FlyingW B outer ea cls a0 h')(up:s'.heap.UpToSlots h'):
  xC P w outer H H' s {s' with heap:=h'} ea cls B a0 where
 tk:=F.tk
 os:=F.os
 bare:=F.bare
 un:=⟨λb o e n hb _=>fl.1 b o (F.b2 b o e n hb),λb o e n hb hx=>by
   obtain⟨sl,e1⟩:=F.un.slot b o e n hb hx;obtain⟨_,o2,e2,hd⟩:=F.fly.2.2.1.mem hb;rw[e1]at e2;cases e2;obtain⟨sl',e3⟩:=up b _ e1 hd;exact⟨sl',e3⟩,F.un.free,λb o e hx=>by
   by_cases hb:b∈lN outer
   ·obtain⟨o1,e1⟩:=F.un.there b o e hx;obtain⟨_,o2,e2,hd⟩:=F.fly.2.2.1.mem hb;obtain⟨sl',e3⟩:=up b _ e2 hd;exact⟨_,e3⟩
   ·obtain⟨o',e'⟩:=F.b3 b o e hb;exact⟨o',fl.1 b o' e'⟩,F.un.tups,F.un.frzs,F.un.tbls⟩
 hok:=wz F.hok F.b1 fl.1
 free:=F.free
 fly:=fl
 b1:=λb o e q=>by
  cases z:H' b with
  | none=>rw[z]at q;cases q
  | some u=>obtain⟨o',e'⟩:=(F.hok b u z).at_;have e2:=F.b1 b o' e' q;have e3:=fl.1 b o' e2;rw[show h'.get? b=some o from e]at e3;cases e3;exact e2
 b2:=F.b2
 b3:=F.b3
section
variable {X:Cx}{pins:List (Addr×Obj)}{σ:St}{H H':Hp}{s s':Shared}{ea:Addr}{cls a0:Value}{B:Heap}
theorem dB.flown(I:dB X pins σ H s)(F:xC X.prog X.w X.stack H H' s s' ea cls B a0):dB X pins σ H' s':=
 I.call' (ch:=[]) F.os F.un F.hok F.bare (λb z=>absurd z (by simp)) F.tk
theorem dB.ne0(I:dB X pins σ H s)(e:X.s₀.heap.get? b=some o):b≠X.env.locals:=aI (aH (Heap.lt_size e) I.ok.above)
theorem dB.nstk(I:dB X pins σ H s)(e:X.s₀.heap.get? b=some o)(n:b∉X.fs):b∉lN X.stack:=λz=>
 (aF.mp (I.stkSub b z)).elim (I.ne0 e) n
theorem dB.leave(I:dB X pins σ H s)(hex:X.ex=[])(hfree:H ea=none)(fl:Heap.FlyingW B X.outer ea cls a0 h')(up:s.heap.UpToSlots h')
  (b1:∀b o,s.heap.get? b=some o→(H b).isSome=true→B.get? b=some o)
  (b2:∀b o,X.s₀.heap.get? b=some o→X.H₀ b=none→b∉X.fs→B.get? b=some o) (b3:∀b o,X.s₀.heap.get? b=some o→b∉X.fs→∃o',B.get? b=some o') (hg:AllBare g') (ht:s.toks≤t':=by first|exact aB _|exact aQ _|assumption|exact aM _ _):
  xC X.prog X.w X.outer X.H₀ H X.s₀ {s with heap:=h',gens:=g',drawn:=d',toks:=t'} ea cls B a0 where
 tk:=aE I.tk ht
 os:=I.os
 bare:=hg
 un:=⟨λb o e n hb _=>fl.1 b o (b2 b o e n hb),λb o e n hb _=>by
   obtain⟨sl,e1⟩:=I.base.slot b o e n hb (by rw[hex];simp);obtain⟨_,o2,e2,hd⟩:=I.ok.funs.mem hb;rw[e]at e2;cases e2;obtain⟨sl',e3⟩:=up b _ e1 hd;exact⟨sl',e3⟩,λb o e n _=>I.base.free b o e n (by rw[hex];simp),λb o e _=>by
   by_cases hb:b∈X.fs
   ·obtain⟨_,o2,e2,hd⟩:=I.ok.funs.mem hb;rw[e]at e2;cases e2;obtain⟨sl,e1⟩:=I.base.slot b o e (I.ok.frf b hb) hb (by rw[hex];simp);obtain⟨sl',e3⟩:=up b _ e1 hd;exact⟨_,e3⟩
   ·obtain⟨o',e'⟩:=b3 b o e hb;exact⟨o',fl.1 b o' e'⟩,I.base.tups,I.base.frzs,I.base.tbls⟩
 hok:=wz I.hok b1 fl.1
 free:=hfree
 fly:=fl
 b1:=λb o e q=>by
  cases z:H b with
  | none=>rw[z]at q;cases q
  | some u=>obtain⟨o',e'⟩:=(I.hok b u z).at_;have e2:=b1 b o' e' q;have e3:=fl.1 b o' e2;rw[show h'.get? b=some o from e]at e3;cases e3;exact e2
 b2:=b2
 b3:=b3
end
section
variable {P:Program}{w:World}{K:aA}{mg:Str→Option Value}{base:Heap}{N:List Str}{qual:Str}{scope:Scope}{f:Addr}{cd:Value}{A:Around}{outer:List Env}{s:Shared}{H:Hp}{E E':XK}
theorem gY(hE:∀c o H',E c o H'→E' c o H'):gz (kO P w) (gH (kO P w) P w K mg base N qual scope f cd A outer s H E') E:=by
 intro pins σ H1 s1 e s2 I h;obtain⟨ea,cls,H2,B,a0,rfl,F,q⟩:=h;have J:=I.flown F;show wpAny _ _ (leaving _ _) _ _ _;refine wpAny_leaves_onW (I.ok.frames) rfl F.fly λh' fl up=>?_;refine⟨ea,cls,H2,B,a0,rfl,?_,hE _ _ _ q⟩;exact J.leave (X:=gH (kO P w) P w K mg base N qual scope f cd A outer s H E') rfl F.free fl up F.b1 (λb o e n hb=>F.b2 b o (I.base.keep b o e n hb (by intro z;cases z)) (I.base.free b o e n (by intro z;cases z)) (I.nstk e hb))
  (λb o e hb=>by
   obtain⟨o1,e1⟩:=I.base.there b o e (by intro z;cases z);exact F.b3 b o1 e1 (I.nstk e hb)) F.bare
def sd(C:Addr)(E:XK)(ta:TE):TS:=λ_ σ H=>ta σ H λ_ H1=>E (.ref C) none H1
theorem tL(FB:ExcBaseFacts Bn newId initId bmB)
  (hg:Gl (gH (kO P w) P w K mg base N qual scope f cd A outer s H E) x) (hm:mg x=some (.ref C)) (q:PySem.W.excIn K C bmB newId=true)
  (he:PE (gH (kO P w) P w K mg base N qual scope f cd A outer s H E) e ta) (hdb:(x==("__debug__":Str))=false:=by decide)
  (hst:starEach [e] (gH (kO P w) P w K mg base N qual scope f cd A outer s H E).env=[(false,eval e (gH (kO P w) P w K mg base N qual scope f cd A outer s H E).env)]:=by rfl):
  PS (gH (kO P w) P w K mg base N qual scope f cd A outer s H E) (.Raise (some (.Call (.Name x np) [e] [] cpos)) none pos) (sd C E ta):=by
 intro pins s1 σ H1 D I h;have KX:=I.kIn;unfold PySem.W.excIn at q;split at q
 ·rename_i dd cd' sl ho;split at q
  ·rename_i C' bm k0 k1 k2 k3 n k5 hmr hs;simp only[aq,beq_iff_eq,Bool.not_eq_true']at q;obtain⟨⟨⟨⟨⟨rfl,rfl⟩,hdel⟩,ht⟩,hok⟩,hni⟩:=q;obtain⟨nm,bs,mro,ns,qn,hd,sn,sub,ab,col,del⟩:=cd';dsimp only at hmr hdel hok hni;subst hmr hdel;have hsl:sl = #[k0,k1,k2,k3,some (.builtin n),k5]:=by obtain⟨l⟩:=sl;simp only at hs;rw[hs]
   subst hsl;have KB:=I.ok.mod.kin;have T:=PySem.W.tail_of_in KB ht;have hN:Heap.Ns _ ns (Heap.nsMap _ ns):=.of_isNs (PySem.W.isNs_of_in KB hok);refine wpAny_Raise_call_subT (C:=C') (nm:=nm) (q:=qn) (N:=ns) (bs:=bs) (bm:=bm) (hdct:=hd) (sn:=sn) (sub:=sub) (ab:=ab) (col:=col) (dd:=dd) (k0:=k0) (k1:=k1) (k2:=k2) (k3:=k3) (k5:=k5) (newId:=n)
    FB (mN:=base.nsMap ns) (T.hasType FB.hasBase) (I.ok.hd rfl) (by rw[hst];rfl) (PySem.W.nsMap_none_of_in KB hok hni) (gm I hg hm ⟨rfl,?_⟩ hdb)
   have ea:=he pins s1 σ H1 _ I h;rw[hst];refine Calls.evalArgs_plain (Calls.spliced_cons (thn ea λv s2 ⟨y,H2,I2,r,q2⟩=>Calls.spliced_nil ⟨rfl,aE (by decide:1≤1) (by rw[sizeLine_eq];decide),I2.kIn _ _ ho,hN.keeps I2.bk,T.keeps I2.bk,λh' e hx=>?_⟩));show wpAny _ _ (leaving _ _) _ _ _;have hin:∀env∈(gH (kO P w) P w K mg base N qual scope f cd A outer s H E).stack,∀b,env.frame=some b→b∈lN (gH (kO P w) P w K mg base N qual scope f cd A outer s H E).stack:=λenv he b hb=>bp.mpr ⟨env,he,hb⟩;refine wpAny_leaves_madeW (base:=PySem.W.hideAll s2.heap (lN (gH (kO P w) P w K mg base N qual scope f cd A outer s H E).stack)) I.ok.frames rfl (λb o q=>PySem.W.of_hideAll _ q) (PySem.W.funFrames_hide I2.stack hin) hx λh'' t x1 x2 x3 x4=>?_;refine⟨e,.ref C',H2,PySem.W.hideAll s2.heap (lN (gH (kO P w) P w K mg base N qual scope f cd A outer s H E).stack),.ref t,rfl,?_,q2⟩;exact I2.leave (X:=gH (kO P w) P w K mg base N qual scope f cd A outer s H E) rfl (I2.hok.new hx.new) x1 ((Heap.UpToSlots.of_keeps hx.keeps).trans x4)
    (λb o e q=>bW _ e λz=>by rw[I2.stkFree b z]at q;cases q)
    (λb o e n hb=>bW _ (I2.base.keep b o e n hb (by intro z;cases z)) (I2.nstk e hb))
    (λb o e hb=>by
     obtain⟨o1,e1⟩:=I2.base.there b o e (by intro z;cases z);exact⟨o1,bW _ e1 (I2.nstk e hb)⟩) I2.bare
  ·cases q
 ·cases q
end
def Cx.inH(X:Cx)(ea:Addr)(oe:Obj):Cx:={X with A:=X.A.mark (some (.ref ea)),calm:=false,pn:=(ea,oe)::X.pn}
section
variable {X:Cx}{pins:List (Addr×Obj)}{σ:St}{H H':Hp}{s s':Shared}{ea:Addr}{oe:Obj}{cls a0:Value}{B:Heap}
theorem Cx.Ok.inH(ok:X.Ok)(ea:Addr)(oe:Obj):(X.inH ea oe).Ok:=
 ⟨ok.mod,ok.kind,ok.glob,ok.blt,ok.above,ok.inj,ok.has,ok.cab,λh=>absurd h aJ,ok.frames,ok.stk,ok.exf,ok.bs,ok.bsz,ok.noex,ok.exfs,ok.funs,ok.frf⟩
theorem dB.inH(I:dB X pins σ H s)(h:s.heap.get? ea=some oe∧H ea=none∧ea≠X.env.locals∧ea∉X.fs∧∀v,oe.data≠.cell v):dB (X.inH ea oe) pins σ H s:=
 ⟨I.ok.inH ea oe,I.os,I.bare,I.base,I.loc,I.cell,I.free,I.freeC,λp hp=>(aF.mp (show p∈(ea,oe)::(X.pn++pins)from hp)).elim (λe=>by subst e;exact h) (I.pin p),I.hok,I.len,I.tk⟩
theorem dB.outH(ok:X.Ok)(I:dB (X.inH ea oe) pins σ H s):dB X pins σ H s:=
 ⟨ok,I.os,I.bare,I.base,I.loc,I.cell,I.free,I.freeC,λp hp=>I.pin p (aa _ hp),I.hok,I.len,I.tk⟩
theorem SP.outH(ok:X.Ok)(h:SP (X.inH ea oe) pins D f s):SP X pins D f s:=by
 cases f with
 | next=>obtain⟨σ',H',I,q⟩:=h;exact⟨σ',H',I.outH ok,q⟩
 | brk=>obtain⟨σ',H',I,q⟩:=h;exact⟨σ',H',I.outH ok,q⟩
 | cont=>obtain⟨σ',H',I,q⟩:=h;exact⟨σ',H',I.outH ok,q⟩
 | ret u=>obtain⟨v,σ',H',I,r,q⟩:=h;exact⟨v,σ',H',I.outH ok,r,q⟩
theorem xC.pin(J:dB X pins σ H' s')(F:xC X.prog X.w X.stack H H' s s' ea cls B a0):∃oe vs,oe.cls=cls∧oe.data=.fields vs∧(s'.heap.get? ea=some oe∧H' ea=none∧ea≠X.env.locals∧ea∉X.fs∧∀v,oe.data≠.cell v):=by
 obtain⟨oe,vs,h1,h2,h3,_⟩:=F.fly.first;refine⟨oe,vs,h2,h3,h1,F.free,?_,?_,λv q=>by rw[h3]at q;cases q⟩
 ·rintro rfl;obtain⟨m,⟨o,es,ep,ho,hd,_⟩,_⟩:=J.loc;rw[h1]at ho;cases ho;rw[h3]at hd;cases hd
 ·intro z;obtain⟨_,o,ho,hn⟩:=J.funs.mem z;rw[h1]at ho;cases ho;exact hn vs h3
end
def PX(X:Cx)(st:Stmt)(t:(St→XK)→TS):Prop:=
 ∀(pins:List (Addr×Obj))(s:Shared)(σ:St)(H:Hp)(D:fL)(Ex:St→XK)(Eh:Value→Shared→Prop),dB X pins σ H s→t Ex D σ H→
  (∀σ1 H1 s1 e s',dB X pins σ1 H1 s1→kO X.prog X.w X.stack H1 s1 (Ex σ1) e s'→Eh e s')→wpAny (model X.prog X.w) X.A (exec st X.env) (SP X pins D) Eh s
section
variable {X:Cx}{k:Nat}{f:Addr}{fd:FuncData}{ps:List Str}{sp:Sp}{x:Str}{p pos cpos:Pos}{e:Expr}{es:List Expr}{t:TA}
theorem vT(F:hU X.prog X.w X.K X.mg X.base (kO X.prog X.w) k f fd ps sp)(hr:eQ k X.A)(hb:gO X.K fd ps [])
  (I:dB X pins σ H s) (r:dS vs us) (h:sp vs H Q E) (hq:∀u s',EP X pins σ Q u s'→Q' u s') (hx:∀e s',kO X.prog X.w X.stack H s E e s'→Eh e s'):wpAny (model X.prog X.w) X.A (call (.ref f) us) Q' Eh s:=by
 have hl:(us++[]).length=ps.length:=by rw[ag,←r.length];exact F.len _ _ _ _ h
 have hb':=hb s us I.kIn hl;rw[ag]at hb';refine wpAny_call (codeAny_mono (F.run X.A X.stack s H ⟨us,[]⟩ us vs Q E hr I.env0 hb' r h) λr s' hq'=>?_);cases r with
 | error e=>exact hx e s' hq'
 | ok fl=>
  cases fl with
  | ret u=>exact hq _ _ (I.after hq')
  | next=>exact False.elim hq'
  | brk=>exact False.elim hq'
  | cont=>exact False.elim hq'
def xE(sp:Sp)(i:Nat)(t:TA):(St→XK)→TS:=λEx D σ H=>t σ H λvs H1=>sp vs H1 (λv H2=>D.nx (σ.set i (some v)) H2) (Ex σ)
def ro(sp:Sp)(t:TA):(St→XK)→TS:=λEx D σ H=>t σ H λvs H1=>sp vs H1 (λ_ H2=>D.nx σ H2) (Ex σ)
theorem qC{pins:List (Addr×Obj)}{σ:St}{H:Hp}{s:Shared}{E:XK}{Q':Value→Shared→Prop}{Eh:Value→Shared→Prop}{Q:List V→Hp→VK}(F:hU X.prog X.w X.K X.mg X.base (kO X.prog X.w) k f fd ps sp)(hr:eQ k X.A)(hg:Gl X x)(hm:X.mg x=some (.ref f))(hk:PySem.W.keepIn X.K (.ref f)=true)(hb:gO X.K fd ps [])
  (ha:PA X (e::es) t) (hne:∀e s,¬X.xe e s) (hdb:(x==("__debug__":Str))=false) (he:starEach (e::es) X.env=(false,eval e X.env)::starEach es X.env) (hpl:(backTo cpos (starEach es X.env)).any (·.1)=false)
  (I:dB X pins σ H s) (h:t σ H λvs H1=>sp vs H1 (Q vs H1) E) (hq:∀vs H1 u s',EP X pins σ (Q vs H1) u s'→Q' u s') (hx:∀H1 s1 e s',dB X pins σ H1 s1→kO X.prog X.w X.stack H1 s1 E e s'→Eh e s'):
  wpAny (model X.prog X.w) X.A (eval (.Call (.Name x p) (e::es) [] cpos) X.env) Q' Eh s:=by
 refine wpAny_Call_Name_kw (gm I hg hm ?_ hdb);refine bP (h₀:=X.base) I.ok.mod.kin hk (wpAny_mono (ha cpos pins s σ H _ I h) (λus s1 ⟨vs,H1,I1,r,q⟩=>⟨I1.kIn,?_⟩) λe s z=>absurd z (hne e s)) he hpl;exact vT F hr hb I1 r q (λu s' z=>hq vs H1 u s' z) λe s' z=>hx H1 s1 e s' I1 z
theorem yq{i:Nat}{y:Str}{pos':Pos}(F:hU X.prog X.w X.K X.mg X.base (kO X.prog X.w) k f fd ps sp)(hr:eQ k X.A)(hg:Gl X x)(hm:X.mg x=some (.ref f))(hk:PySem.W.keepIn X.K (.ref f)=true)(hb:gO X.K fd ps [])
  (ha:PA X (e::es) t) (hne:∀e s,¬X.xe e s) (hN:X.N.Nodup) (hi:X.N[i]?=some y) (hy:uf X.env.scope y) (hs:swapsWith (.Call (.Name x p) (e::es) [] cpos) (some (.Name y pos')) pos.line X.env=pure false:=by rfl)
  (hf:X.fn y=true∨X.env.scope.names.lookup y=some .local:=by first|exact .inl rfl|exact .inr rfl|assumption)
  (hdb:(x==("__debug__":Str))=false:=by decide) (he:starEach (e::es) X.env=(false,eval e X.env)::starEach es X.env:=by rfl) (hpl:(backTo cpos (starEach es X.env)).any (·.1)=false:=by rfl):
  PX X (.Assign [.Name y pos'] (.Call (.Name x p) (e::es) [] cpos) pos) (xE sp i t):=by
 intro pins s σ H D Ex Eh I h hx;refine wpAny_Assign_Name (qC (Q:=λ_ _ v H2=>D.nx (σ.set i (some v)) H2) F hr hg hm hk hb ha hne hdb he hpl I h (λvs H1 u s1 ⟨v,H2,I2,r,q⟩=>?_) λH1 s1 e s' I1 z=>hx σ H1 s1 e s' I1 z) hs;exact ia I2 hN hi hy r (λs2 I3=>⟨_,H2,I3,q⟩) hf
theorem vU(F:hU X.prog X.w X.K X.mg X.base (kO X.prog X.w) k f fd ps sp)(hr:eQ k X.A)(hg:Gl X x)(hm:X.mg x=some (.ref f))(hk:PySem.W.keepIn X.K (.ref f)=true)(hb:gO X.K fd ps [])
  (ha:PA X (e::es) t) (hne:∀e s,¬X.xe e s) (hs:swapsWith (.Call (.Name x p) (e::es) [] cpos) none pos.line X.env=pure false:=by rfl)
  (hdb:(x==("__debug__":Str))=false:=by decide) (he:starEach (e::es) X.env=(false,eval e X.env)::starEach es X.env:=by rfl) (hpl:(backTo cpos (starEach es X.env)).any (·.1)=false:=by rfl):
  PX X (.Expr (.Call (.Name x p) (e::es) [] cpos) pos) (ro sp t):=by
 intro pins s σ H D Ex Eh I h hx;exact wpAny_Expr_any (qC (Q:=λ_ _ _ H2=>D.nx σ H2) F hr hg hm hk hb ha hne hdb he hpl I h (λvs H1 u s1 ⟨v,H2,I2,r,q⟩=>⟨σ,H2,I2,q⟩) λH1 s1 e s' I1 z=>hx σ H1 s1 e s' I1 z) I.quiet hs
end
section
variable {X:Cx}{st b₀:Stmt}{suite:List Stmt}{c:Str}{C:Addr}{np hpos pos:Pos}{tb:(St→XK)→TS}{th:TS}
theorem wX(h1:h.get? a=some o)(h2:o.cls=cls):PySem.W.Looks M h (typeOf (.ref a)) cls:=h2▸(PySem.W.Looks.ld h1).andThen .now
def AK(K:aA)(C:Addr)(tb:(St→XK)→TS)(th:TS):TS:=λD σ H=>tb (λσ1 cls _ H1=>PySem.W.exmOne K cls (.ref C)=some true∧th D σ1 H1) D σ H
theorem yr(hstk:X.stack=X.env::X.outer∧X.env.frame=some X.env.locals)(hne:∀e s,¬X.xe e s)(hb:PX X st tb)(hg:Gl X c)(hm:X.mg c=some (.ref C))(hth:∀ea oe,kU (X.inH ea oe) (b₀::suite) th)(hdb:(c==("__debug__":Str))=false:=by decide):
  PS X (.Try [st] [.ExceptHandler (some (.Name c np)) none (b₀::suite) hpos] [] [] pos) (AK X.K C tb th):=by
 intro pins s σ H D I h;refine wpAny_Try_except (wpAny_execs_cons ?_);refine wpAny_mono (hb pins s σ H D _ _ I h ?_) (λf s1 q=>?_) λ_ _ z=>z
 case refine_2=>
  cases f with
  | next=>exact wpAny_execs_nil (wpAny_execs_nil q)
  | ret v=>exact q
  | brk=>exact q
  | cont=>exact q
 intro σ1 H1 s1 e s' I1 hx;obtain⟨ea,cls,H2,B,a0,rfl,F,he,hd⟩:=hx;have hfr:X.A.frames=some (X.env::X.outer):=by rw[←hstk.1];exact I.ok.frames
 have fl0:=F.fly;rw[hstk.1]at fl0;refine wpAny_looks_onW hfr hstk.2 fl0 λh4 held4 up4=>?_;refine wpAny_landsW held4 λh5 fl5 up5=>?_;rw[←hstk.1]at fl5;have F5:=F.on fl5 (up4.trans up5);have J5:=I1.flown F5;obtain⟨oe,vs,o1,o2,o3⟩:=F5.pin J5;have J5':=J5.inH o3;refine wpAny_handleBy_cons (codeAny_handlers_test ?_) (by intro q;cases q);refine gm (X:=X.inH ea oe) J5' hg hm ?_ hdb;refine(PySem.W.exm_one J5.kIn (wX o3.1 o1) he).here ?_;refine codeAny_handlers_suite ?_;refine lands_againW fl5 λh6 fl6 up6=>?_;have F6:=F5.on fl6 up6;have J6:=I1.flown F6;obtain⟨oe6,vs6,_,_,o6⟩:=F6.pin J6;exact wpAny_mono (hth ea oe6 pins _ σ1 H2 D (J6.inH o6) hd) (λf s2 q=>q.outH I.ok) λe s2 z=>absurd z (hne e s2)
end
end L2
namespace PySem.W
open PySem PySem.Spec PySem.Calls PyProof.Rows Builtin Builtin.ObjectAttr Builtin.Getset_descriptor
section
variable {prog:Program}{w:World}{A:Around}{E:Value→Shared→Prop}{K:Frag}{h:Heap}{g:Array GenState}{d:Drawn}{t:Nat}{os:OsState}{a D:Addr}{o:Obj}
theorem xD(X:K.In h)(hx:h.get? a=some o)(hc:o.cls=.ref D)(hm:mroIn K D (.type "object")=some true)(hq:R (.ok (.ret (.ref D))) ⟨h,g,d,t,os⟩):
  codeAny (model prog w) A (.call (.builtin "getset_descriptor.__get__") ⟨[.builtin "object.__class__",.ref a,tp],[]⟩) R ⟨h,g,d,t,os⟩:=by
 have L0:Looks (model prog w) h (typeOf (.ref a)) (.ref D):=L2.wX hx hc;have L1:=looks_mroIn (M:=model prog w) X hm;refine codeAny_call_builtin KF.slot_gs.plain KF.entry_gs (KF.slot_gs.check _ _ _ _ _ _ _ _ KF.type_class (KF.args_gs _ _ _) ?_);unfold Builtin.«getset_descriptor.__get__» descrGet;rw[dga_obj];refine wpAny_bind (wpAny_pure ?_);unfold descrGetter descrCheckInstance descrNameAndClass isInstance;simp only[KF.owner_class]
 repeat lk
 refine⟨Code.quiet_builtin _ (by decide),codeAny_builtin KF.entry_class ?_⟩;unfold Builtin.«object.__class__» shownTypeOf
 repeat lk
 exact hq
theorem rl(X:K.In h)(hx:h.get? a=some o)(hc:o.cls=.ref D)(hm:mroIn K D (.type "object")=some true)(hcl:findIn K (.ref D) "__class__"=some (some (.builtin "object.__class__")))
  (hq:Q (.done (.ret (.ref D))) ⟨h,g,d,t,os⟩):wpAny (model prog w) A (Builtin.«object.__getattribute__» ⟨[.ref a,.str "__class__" tk],[]⟩) Q E ⟨h,g,d,t,os⟩:=by
 have hT5:(⟨h,g,d,t,os⟩:Shared).TypeIs (.builtin "object.__class__") "getset_descriptor":=F.typeOf_object_class;have f5:=F.typeOf_object_class;have f6:=F.slot_gs_get.lookup;have f7:=F.slot_gs_set.lookup;have LC:=looks_findIn (M:=model prog w) X hcl
 repeat (any_goals (first|assumption|(with_reducible refine wpAny_loadPart_at hx ?_;rw[hc])|with_reducible refine LC.at ?_|wp_step))
 refine xD X hx hc hm ?_
 repeat (any_goals (first|assumption|wp_step))
theorem rm(X:K.In h)(hx:h.get? a=some o)(hc:o.cls=.ref D)(hb:mroIn K D (.type "BaseException")=some true)
  (hq:Q () ⟨h,g,d,t,os⟩):wpAny (model prog w) A (checkBuiltinCall "BaseException.__getattribute__" ⟨[.ref a,nameV],[]⟩) Q E ⟨h,g,d,t,os⟩:=by
 have hk:builtinKind "BaseException.__getattribute__"=some .slot:=by decide
 have hsplit:splitId "BaseException.__getattribute__"=some ("BaseException","__getattribute__"):=by decide
 have ha:=F.args_bexc_ga (.ref a) nameV;have L0:Looks (model prog w) h (typeOf (.ref a)) (.ref D):=L2.wX hx hc;have L1:=looks_mroIn (M:=model prog w) X hb;have LI:Looks (model prog w) h (isInstance (.ref a) (.type "BaseException")) true:=L0.andThen L1;simp only[checkBuiltinCall,hk,hsplit];refine wpAny_bind (LI.at ?_)
 repeat (first|exact hq|wp_step)
theorem zw{tk:Tok}{fill expr:Bool}{Q:Value→Shared→Prop}(X:K.In h)(hx:h.get? a=some o)(hc:o.cls=.ref D)(hm:mroIn K D (.type "object")=some true)(hb:mroIn K D (.type "BaseException")=some true)(hcl:findIn K (.ref D) "__class__"=some (some (.builtin "object.__class__")))
  (hga:findIn K (.ref D) "__getattribute__"=some (some (.builtin "BaseException.__getattribute__"))) (hgt:findIn K (.ref D) "__getattr__"=some none)
  (hq:Q (.ref D) ⟨h,g,d,t,os⟩):wpAny (model prog w) A (getAttrBy (.ref a) (.str "__class__" tk) fill expr) Q E ⟨h,g,d,t,os⟩:=by
 have f3:=F.excAttr_ValueError.ga.bind (.ref a);have hx0:(expr&&onTheHeap (Value.builtin "BaseException.__getattribute__"))=false:=by cases expr<;>rfl
 have hx2:(Value.builtin "BaseException.__getattribute__"==Value.builtin "object.__getattribute__")=false:=by decide
 have hx1:(onTheHeap (Value.ref D)&&Value.builtin "BaseException.__getattribute__"==Value.builtin "object.__getattribute__")=false:=by rw[hx2];rfl
 have LA:=looks_findIn (M:=model prog w) X hga;have LG:=looks_findIn (M:=model prog w) X hgt
 repeat (any_goals (first|assumption|(with_reducible refine wpAny_loadPart_at hx ?_;rw[hc])|with_reducible refine LA.at ?_|with_reducible refine LG.at ?_|wp_step))
 refine codeAny_call_builtin F.excAttr_ValueError.ga.plain F.entry_bexc_ga (rm X hx hc hb (rl X hx hc hm hcl ?_))
 repeat (any_goals (first|assumption|wp_step))
theorem uh{Q:Option Value→Shared→Prop}(X:K.In h)(hx:h.get? a=some o)(hc:o.cls=.ref D)(hm:mroIn K D (.type "object")=some true)(hb:mroIn K D (.type "BaseException")=some true)(hcl:findIn K (.ref D) "__class__"=some (some (.builtin "object.__class__")))
  (hga:findIn K (.ref D) "__getattribute__"=some (some (.builtin "BaseException.__getattribute__"))) (hgt:findIn K (.ref D) "__getattr__"=some none)
  (hq:Q (some (.ref D)) ⟨h,g,d,t+1,os⟩):wpAny (model prog w) A (getAttr? (.ref a) "__class__") Q E ⟨h,g,d,t,os⟩:=by
 unfold getAttr? getAttrBy?
 repeat (any_goals (first|assumption|with_reducible apply zw X hx hc hm hb hcl hga hgt|wp_step))
structure XCls(K:Frag)(D:Addr):Prop where
 hm:mroIn K D (.type "object")=some true
 hb:mroIn K D (.type "BaseException")=some true
 hcl:findIn K (.ref D) "__class__"=some (some (.builtin "object.__class__"))
 hga:findIn K (.ref D) "__getattribute__"=some (some (.builtin "BaseException.__getattribute__"))
 hgt:findIn K (.ref D) "__getattr__"=some none
theorem kitx_exc(C:XCls K D):KitX K (.ref a) (.ref D) (λh=>∃o,h.get? a=some o∧o.cls=.ref D) where
 ty:=λ_ _ _ ⟨_,h1,h2⟩=>L2.wX h1 h2
 it:=λ_ _ X _=>by
  obtain⟨cdD,hcD,_⟩:=cW.mp C.hm;unfold clsIn at hcD;split at hcD
  ·rename_i c' d' cd' sl' ho;intro A' Q' E' s' k q;unfold isType loadHead;exact wpAny_bind (wpAny_loadPart (k _ _ (X _ _ ho)) (wpAny_pure q))
  ·cases hcD
 ne:=λh tp dd dU n sl X htp=>by
  obtain⟨cdD,hcD,_⟩:=cW.mp C.hm;refine Bool.eq_false_iff.mpr λq=>?_;have e:D=tp:=Value.ref.inj (beq_iff_eq.mp q);subst e;unfold clsIn at hcD;split at hcD
  ·rename_i c' d' cd' sl' ho;have z:=(X _ _ ho).symm.trans htp;cases z
  ·cases hcD
 ca:=λ{_ _ _ _ _ s} X ⟨_,h1,h2⟩ k=>by obtain⟨h,g,d,t,os⟩:=s;exact uh X h1 h2 C.hm C.hb C.hcl C.hga C.hgt k
end
end PySem.W
namespace L2
open PySem PySem.Spec PyProof.Rows
section
variable {X:Cx}{ea:Addr}{oe:Obj}{D:Addr}
theorem uX(C:PySem.W.XCls X.K D)(hp:(ea,oe)∈X.pn)(ho:oe.cls=.ref D)(e:PySem.W.kitOne X.K (.ref D) c=some b)(I:dB X pins σ H s)
  (h:∀tk,Q (.bool b) {s with toks:=tk}):wpAny (model X.prog X.w) A (call (.builtin "isinstance") [.ref ea,c]) Q E s:=
 aW (PySem.W.kitx_exc C) I.kIn ⟨oe,(I.pin _ (aj _ hp)).1,ho⟩ e (λz=>nomatch z) h
def tI(K:aA)(D ea:Addr):List V→Hp→VK→Prop:=λxs H Q=>∃c cv b,xs=[.ref ea,c]∧df c cv∧(∀u,df c u→u=cv)∧PySem.W.kitOne K (.ref D) cv=some b∧Q (.bl b) H
theorem jm(C:PySem.W.XCls X.K D)(hp:(ea,oe)∈X.pn)(ho:oe.cls=.ref D):iG X (.builtin "isinstance") (tI X.K D ea):=by intro pins s σ H xs us Q I r h;obtain⟨c,cv,b,rfl,_,hc,e,q⟩:=h;obtain⟨u,w',rfl,ru,rw'⟩:=sC r;cases ru;obtain rfl:=hc _ rw';exact wpAny_with_toks (aB s.toks) (uX C hp ho e I λtk ht=>⟨.bl b,H,I.tok tk ht,rfl,q⟩)
end
section
variable {X:Cx}{pins:List (Addr×Obj)}{σ:St}{H:Hp}{s:Shared}
theorem dB.gone(I:dB X pins σ H s)(hn:h'.Ns X.env.locals m')(hs:Heap.SameBut X.env.locals s.heap h')(ht:s.toks≤t':=by first|exact aB _|exact aQ _|assumption|exact aM _ _):dB X pins (List.replicate σ.length none) H {s with heap:=h',toks:=t'}:=by
 have ne0:∀b o,X.s₀.heap.get? b=some o→h'.get? b=s.heap.get? b:=λb o e=>hs.2 b (I.ne0 e);refine⟨I.ok,I.os,I.bare,⟨λb o e n hb hx=>(ne0 b o e).trans (I.base.keep b o e n hb hx),λb o e n hb hx=>?_,I.base.free,λb o e hx=>?_,I.base.tups,I.base.frzs,I.base.tbls⟩,⟨m',hn,λj y v e1 e2 e3=>?_⟩,λy c e=>?_,I.free,I.freeC,λp hp=>?_,λb ob e=>?_,by simpa using I.len,aE I.tk ht⟩
 ·obtain⟨sl,e1⟩:=I.base.slot b o e n hb hx;exact⟨sl,(ne0 b o e).trans e1⟩
 ·obtain⟨o',e1⟩:=I.base.there b o e hx;exact⟨o',(ne0 b o e).trans e1⟩
 ·rw[bu]at e2;split at e2<;>cases e2
 ·obtain⟨v,o,ho,hd⟩:=I.cell y c e;exact⟨v,o,(hs.2 c (I.cne y c e)).trans ho,hd⟩
 ·obtain⟨a1,a2,a3,a4⟩:=I.pin p hp;exact⟨(hs.2 _ a3).trans a1,a2,a3,a4⟩
 ·have nl:∀c u,H c=some u→c≠X.env.locals:=λc u q z=>by subst z;rw[I.free]at q;cases q
  refine(I.hok b ob e).stay (λc v hc q=>(hs.2 c ?_).trans q) (λ_ q=>q) λ_ _ q=>q;rcases hc with rfl|hc
  ·exact nl _ _ e
  ·exact nl _ _ hc
end
section
variable {X:Cx}{st b₀:Stmt}{suite:List Stmt}{c n:Str}{C CN:Addr}{j:Nat}{np hpos pos:Pos}{tb:(St→XK)→TS}{th:Addr→TS}
def sZ(K:aA)(CN C:Addr)(j:Nat)(tb:(St→XK)→TS)(th:Addr→TS):TS:=λD σ H=>tb (λσ1 cls _ H1=>cls=.ref CN∧PySem.W.exmOne K (.ref CN) (.ref C)=some true∧∀ea,H1 ea=none→th ea {nx:=λ_ _=>False,rt:=D.rt} (σ1.set j (some (.ref ea))) H1) D σ H
theorem tK(hstk:X.stack=X.env::X.outer∧X.env.frame=some X.env.locals)(hne:∀e s,¬X.xe e s)(hb:PX X st tb)(hg:Gl X c)(hm:X.mg c=some (.ref C))(hN:X.N.Nodup)(hj:X.N[j]?=some n)(hl:X.env.kindOf n=some .local)
  (hth:∀ea oe,oe.cls=.ref CN→kU (X.inH ea oe) (b₀::suite) (th ea)) (hdb:(c==("__debug__":Str))=false:=by decide):
  PS X (.Try [st] [.ExceptHandler (some (.Name c np)) (some n) (b₀::suite) hpos] [] [] pos) (sZ X.K CN C j tb th):=by
 intro pins s σ H D I h;refine wpAny_Try_except (wpAny_execs_cons ?_);refine wpAny_mono (hb pins s σ H D _ _ I h ?_) (λf s1 q=>?_) λ_ _ z=>z
 case refine_2=>
  cases f with
  | next=>exact wpAny_execs_nil (wpAny_execs_nil q)
  | ret v=>exact q
  | brk=>exact q
  | cont=>exact q
 intro σ1 H1 s1 e s' I1 hx;obtain⟨ea,cls,H2,B,a0,rfl,F,rfl,he,hd⟩:=hx;have hfr:X.A.frames=some (X.env::X.outer):=by rw[←hstk.1];exact I.ok.frames
 have fl0:=F.fly;rw[hstk.1]at fl0;refine wpAny_looks_onW hfr hstk.2 fl0 λh4 held4 up4=>?_;refine wpAny_landsW held4 λh5 fl5 up5=>?_;rw[←hstk.1]at fl5;have F5:=F.on fl5 (up4.trans up5);have J5:=I1.flown F5;obtain⟨oe,vs,o1,o2,o3⟩:=F5.pin J5;have J5':=J5.inH o3;refine wpAny_handleBy_cons (codeAny_handlers_test ?_) (by intro q;cases q);refine gm (X:=X.inH ea oe) J5' hg hm ?_ hdb;refine(PySem.W.exm_one J5.kIn (wX o3.1 o1) he).here ?_;refine codeAny_handlers_suite_as ?_;refine lands_againW fl5 λh6 fl6 up6=>?_;have F6:=F5.on fl6 up6;have J6:=I1.flown F6;obtain⟨oe6,vs6,p1,p2,o6⟩:=F6.pin J6;refine ia (X:=X.inH ea oe6) (i:=j) (v:=.ref ea) (J6.inH o6) hN hj (.inl hl) rfl (λs7 I7=>?_) (.inr hl);refine wpAny_mono (hth ea oe6 p1 pins _ _ H2 _ I7 (hd ea o6.2.1)) (λf s2 q=>?_) λe s2 z=>absurd z (hne e s2);cases f with
 | next=>obtain⟨_,_,_,z⟩:=q;exact z.elim
 | brk=>obtain⟨_,_,_,z⟩:=q;exact z.elim
 | cont=>obtain⟨_,_,_,z⟩:=q;exact z.elim
 | ret u=>obtain⟨v,σ',H',I8,r,q⟩:=q;have I9:=I8.outH I.ok;obtain⟨m,hn,_⟩:=id I9.loc;refine wpAny_nameGoes hl hn (by rw[I.ok.kind];rfl) λh' m' hn' hs'=>?_;exact⟨v,_,H',I9.gone hn' hs',r,q⟩
end
theorem oC:bootBuiltins "reversed"=some (.type "reversed"):=by decide
section
variable {X:Cx}{tg:Expr}
end
end L2
namespace SW
open PySem PySem.Spec PyProof.Rows
inductive T where
 | num(n:Int)|name(w:Str)
 | sum(a b:T)|less(a b:T)|cho(a b c:T)|lt(w:Str)(a b:T)
 | st0(w:Str)|st1(w:Str)(a:T)|st2(w:Str)(a b:T)
def T.size:T→Nat
 | .num _=>1
 | .name _=>1
 | .sum a b=>a.size+b.size+1
 | .less a b=>a.size+b.size+1
 | .cho a b c=>a.size+b.size+c.size+1
 | .lt _ a b=>a.size+b.size+1
 | .st0 _=>1
 | .st1 _ a=>a.size+1
 | .st2 _ a b=>a.size+b.size+1
theorem T.size_pos(t:T):0<t.size:=by cases t<;>simp[T.size]
def T.kids:T→List T
 | .num _=>[]
 | .name _=>[]
 | .sum a b=>[a,b]
 | .less a b=>[a,b]
 | .cho a b c=>[a,b,c]
 | .lt _ a b=>[a,b]
 | .st0 _=>[]
 | .st1 _ a=>[a]
 | .st2 _ a b=>[a,b]
def fA(ts:List T):Nat:=(ts.map T.size).sum
theorem lX:fA []=0:=rfl
theorem iL(t:T)(ts:List T):fA (t::ts)=t.size+fA ts:=by simp[fA]
theorem gP(a b:List T):fA (a++b)=fA a+fA b:=by simp[fA]
theorem di:∀ts:List T,ts.length≤fA ts
 | []=>aB _
 | t::ts=>by have h:=di ts;have h2:=t.size_pos;rw[iL,aC];lia
def T.names:T→List Str
 | .num _=>[]
 | .name v=>[v]
 | .sum a b=>a.names++b.names
 | .less a b=>a.names++b.names
 | .cho a b c=>a.names++b.names++c.names
 | .lt _ a b=>a.names++b.names
 | .st0 _=>[]
 | .st1 _ a=>a.names
 | .st2 _ a b=>a.names++b.names
theorem T.names_len:∀t:T,t.names.length≤t.size
 | .num _=>by simp[names]
 | .name _=>by simp[names,size]
 | .sum a b=>by have:=names_len a;have:=names_len b;simp[names,size];lia
 | .less a b=>by have:=names_len a;have:=names_len b;simp[names,size];lia
 | .cho a b c=>by have:=names_len a;have:=names_len b;have:=names_len c;simp[names,size];lia
 | .lt _ a b=>by have:=names_len a;have:=names_len b;simp[names,size];lia
 | .st0 _=>by simp[names]
 | .st1 _ a=>by have:=names_len a;simp[names,size];lia
 | .st2 _ a b=>by have:=names_len a;have:=names_len b;simp[names,size];lia
def ff(ts:List T):Nat:=(ts.map λt=>t.names.length).sum
end SW
namespace SW
open PySem L2
def fZ(H H':Hp):Prop:=∀b xs,H b=some (.tup xs)→H' b=some (.tup xs)
theorem fZ.refl:fZ H H:=λ_ _ h=>h
theorem fZ.trans(a:fZ H H1)(b:fZ H1 H2):fZ H H2:=λc xs h=>b c xs (a c xs h)
theorem dI(s:dQ H H'):fZ H H':=λb _ h=>s b _ h
theorem xM(h:H p=none):fZ H (dc H p o):=λb xs e=>by rw[dN (da e h)];exact e
theorem fN(h:H l=some (.lst ys)):fZ H (dc H l o):=λb xs e=>by rw[dN (iW e h (by intro z;cases z))];exact e
theorem dW(h:H p=none):dQ H (dc H p o):=λb u e=>by rw[dN (da e h)];exact e
theorem dZ{H:Hp}{o:HO}{Q:VK}(k:∀(p:Addr)(H1:Hp),H p=none→dQ H H1→H1 p=some o→Q (.ref p) H1):kR H o Q:=λp hp=>k p _ hp (dW hp) c6
theorem dw(s:dQ H₀ H)(h:H₀ l=none):dQ H₀ (dc H l o):=λb u e=>by rw[dN (da e h)];exact s b u e
def kind:T→Str
 | .num _=>"number"
 | .name _=>"name"
 | .sum _ _=>"sum"
 | .less _ _=>"less"
 | .cho _ _ _=>"choose"
 | .lt _ _ _=>"let"
 | .st0 _=>"stamp"
 | .st1 _ _=>"stamp"
 | .st2 _ _ _=>"stamp"
def gU(H:Hp):T→V→Prop
 | .num n,v=>∃p,v=.ref p∧H p=some (.tup [.str "number",.int n])
 | .name w,v=>∃p,v=.ref p∧H p=some (.tup [.str "name",.str w])
 | .sum a b,v=>∃p x y,v=.ref p∧H p=some (.tup [.str "sum",x,y])∧gU H a x∧gU H b y
 | .less a b,v=>∃p x y,v=.ref p∧H p=some (.tup [.str "less",x,y])∧gU H a x∧gU H b y
 | .cho a b c,v=>∃p x y z,v=.ref p∧H p=some (.tup [.str "choose",x,y,z])∧gU H a x∧gU H b y∧gU H c z
 | .lt w a b,v=>∃p x y,v=.ref p∧H p=some (.tup [.str "let",.str w,x,y])∧gU H a x∧gU H b y
 | .st0 w,v=>∃p,v=.ref p∧H p=some (.tup [.str "stamp",.str w])
 | .st1 w a,v=>∃p x,v=.ref p∧H p=some (.tup [.str "stamp",.str w,x])∧gU H a x
 | .st2 w a b,v=>∃p x y,v=.ref p∧H p=some (.tup [.str "stamp",.str w,x,y])∧gU H a x∧gU H b y
theorem gU.mono(k:fZ H H'):∀{t:T}{v:V},gU H t v→gU H' t v
 | .num _,_,⟨p,e,h⟩=>⟨p,e,k _ _ h⟩
 | .name _,_,⟨p,e,h⟩=>⟨p,e,k _ _ h⟩
 | .sum _ _,_,⟨p,x,y,e,h,a,b⟩=>⟨p,x,y,e,k _ _ h,gU.mono k a,gU.mono k b⟩
 | .less _ _,_,⟨p,x,y,e,h,a,b⟩=>⟨p,x,y,e,k _ _ h,gU.mono k a,gU.mono k b⟩
 | .cho _ _ _,_,⟨p,x,y,z,e,h,a,b,c⟩=>⟨p,x,y,z,e,k _ _ h,gU.mono k a,gU.mono k b,gU.mono k c⟩
 | .lt _ _ _,_,⟨p,x,y,e,h,a,b⟩=>⟨p,x,y,e,k _ _ h,gU.mono k a,gU.mono k b⟩
 | .st0 _,_,⟨p,e,h⟩=>⟨p,e,k _ _ h⟩
 | .st1 _ _,_,⟨p,x,e,h,a⟩=>⟨p,x,e,k _ _ h,gU.mono k a⟩
 | .st2 _ _ _,_,⟨p,x,y,e,h,a,b⟩=>⟨p,x,y,e,k _ _ h,gU.mono k a,gU.mono k b⟩
inductive fj(H:Hp):List T→List V→Prop where
 | nil:fj H [] []
 | cons{t:T}{v:V}{ts:List T}{vs:List V}:gU H t v→fj H ts vs→fj H (t::ts) (v::vs)
theorem fj.mono(k:fZ H H'):∀{ts:List T}{vs:List V},fj H ts vs→fj H' ts vs
 | _,_,.nil=>.nil
 | _,_,.cons a r=>.cons (a.mono k) (fj.mono k r)
theorem fj.length:∀{ts:List T}{vs:List V},fj H ts vs→vs.length=ts.length
 | _,_,.nil=>rfl
 | _,_,.cons _ r=>by rw[aC,aC,fj.length r]
theorem fj.append:∀{ts us:List T}{vs ws:List V},fj H ts vs→fj H us ws→fj H (ts++us) (vs++ws)
 | _,_,_,_,.nil,q=>q
 | _,_,_,_,.cons a r,q=>.cons a (fj.append r q)
def hd:T→List V
 | .num n=>[.str "number",.int n]
 | .name w=>[.str "name",.str w]
 | .sum _ _=>[.str "sum"]
 | .less _ _=>[.str "less"]
 | .cho _ _ _=>[.str "choose"]
 | .lt w _ _=>[.str "let",.str w]
 | .st0 w=>[.str "stamp",.str w]
 | .st1 w _=>[.str "stamp",.str w]
 | .st2 w _ _=>[.str "stamp",.str w]
theorem gU.open(h:gU H t v):∃p us,v=.ref p∧H p=some (.tup (hd t++us))∧fj H t.kids us:=by
 cases t with
 | num n=>obtain⟨p,e,h⟩:=h;exact⟨p,[],e,h,.nil⟩
 | name n=>obtain⟨p,e,h⟩:=h;exact⟨p,[],e,h,.nil⟩
 | sum a b=>obtain⟨p,x,y,e,h,d1,d2⟩:=h;exact⟨p,[x,y],e,h,.cons d1 (.cons d2 .nil)⟩
 | less a b=>obtain⟨p,x,y,e,h,d1,d2⟩:=h;exact⟨p,[x,y],e,h,.cons d1 (.cons d2 .nil)⟩
 | cho a b c=>obtain⟨p,x,y,z,e,h,d1,d2,d3⟩:=h;exact⟨p,[x,y,z],e,h,.cons d1 (.cons d2 (.cons d3 .nil))⟩
 | lt w a b=>obtain⟨p,x,y,e,h,d1,d2⟩:=h;exact⟨p,[x,y],e,h,.cons d1 (.cons d2 .nil)⟩
 | st0 w=>obtain⟨p,e,h⟩:=h;exact⟨p,[],e,h,.nil⟩
 | st1 w a=>obtain⟨p,x,e,h,d1⟩:=h;exact⟨p,[x],e,h,.cons d1 .nil⟩
 | st2 w a b=>obtain⟨p,x,y,e,h,d1,d2⟩:=h;exact⟨p,[x,y],e,h,.cons d1 (.cons d2 .nil)⟩
def Lt(I:Nat→St→Hp→Prop)(m:Nat):St→Hp→Prop:=λσ H=>∃m',m'<m∧I m' σ H
theorem fU(h:Nat.ble n 1000=true:=by rfl):n≤sizeLine:=aE (b8 h) (by decide)
theorem fI{c:Bool}{A B:Prop}(h:c=true)(k:A):if c=true then A else B:=by rw[if_pos h];exact k
theorem du{c:Bool}{A B:Prop}(h:c=false)(k:B):if c=true then A else B:=by rw[h];exact e7 k
theorem jn(h0:0≤i)(h1:i<xs.length):∃v,v∈xs∧oF xs i=some v:=by
 obtain⟨n,rfl⟩:=cX h0;have hn:n<xs.length:=by lia
 exact⟨xs[n],List.getElem_mem hn,cz (by simp[hn])⟩
def pj:Sp:=λvs H Q _=>∃c:Int,vs=[.int c]∧∀(n:Int)(H':Hp),-(10^59)<n∧n<10^59→dQ H H'→Q (.int n) H'
structure Wd(x:Str):Prop where
 one:1≤x.length
 few:x.length≤200
 abc:∀c∈x.cps.toList,97≤c∧c≤122
def mP:Sp:=λvs H Q _=>∃c:Int,vs=[.int c]∧∀x:Str,Wd x∧x.length≤132→Q (.str x) H
structure jV(l:Int)(x:Str):Prop where
 one:l<0→1≤x.length
 few:x.length≤132
 sm:0≤l→∃m:Nat,l<2^m∧x.length+m≤131
 abc:∀c∈x.cps.toList,97≤c∧c≤122
theorem lc:(("":Str)).length=0:=by decide
theorem lz(c:Int):jV (c%10^(39:Int).toNat) "":=by
 have e:(10:Int)^(39:Int).toNat=1000000000000000000000000000000000000000:=by decide
 rw[e];refine⟨λh=>?_,by rw[lc];lia,λ_=>⟨130,?_,by rw[lc];lia⟩,?_⟩
 ·lia
 ·have e2:(2:Int)^130=1361129467683753853853498429727072845824:=by decide
  rw[e2];lia
 ·have e3:(("":Str)).cps.toList=[]:=by decide
  rw[e3];intro c hc;cases hc
theorem mB(h:jV l x):(⟨#[c]⟩:Str).length+x.length≤sizeLine:=by have e:(⟨#[c]⟩:Str).length=1:=rfl;have:=h.few;rw[e,sizeLine_eq];lia
theorem nC(h:jV l x)(hl:0≤l)(hc:97≤c∧c≤122):jV (l / 26-1) (⟨#[c]⟩++x):=by
 have el:((⟨#[c]⟩:Str)++x).length=x.length+1:=by show(#[c]++x.cps).size=x.cps.size+1;simp[Nat.add_comm]
 obtain⟨m,h1,h2⟩:=h.sm hl;refine⟨λ_=>by rw[el];lia,by rw[el];lia,λh0=>?_,?_⟩
 ·cases m with
  | zero=>simp at h1;lia
  | succ m=>refine⟨m,?_,by rw[el];lia⟩;have e:(2:Int)^(m+1)=2^m*2:=Int.pow_succ ..;rw[e]at h1;generalize (2:Int)^m=z at *;lia
 ·intro d hd;have hd:d∈(#[c]++x.cps).toList:=hd;rw[bR]at hd;rcases aS.mp hd with q|q
  ·have:d=c:=by simpa using q
   rw[this];exact hc
  ·exact h.abc d q
theorem oN(h:jV l x)(hl:¬0≤l):Wd x∧x.length≤132:=⟨⟨h.one (by lia),by have:=h.few;lia,h.abc⟩,h.few⟩
theorem qR:(("abcdefghijklmnopqrstuvwxyz":Str)).cps.toList=(List.range 26).map (·+97):=by decide
theorem rM(l:Int):∃c:Nat,(97≤c∧c≤122)∧oF (("abcdefghijklmnopqrstuvwxyz":Str)).cps.toList (l%26)=some c:=by
 have h:0≤l%26∧l%26<26:=by lia
 obtain⟨n,e⟩:=cX h.1;rw[e]at h⊢;have hn:n<26:=by lia
 refine⟨n+97,by lia,cz ?_⟩;rw[qR,al,List.getElem?_range hn];rfl
theorem qh(k:Nat)(h:0<k)(h2:k≤n):¬(HT.jB n 0 (some (k:Int))=0∧HT.jB n n none=n):=by rintro⟨z,_⟩;rw[HT.BV,be h2]at z;lia
def oJ(P:Str→Prop)(S:Str→Nat→Prop):T→Prop
 | .num n=>-(10^60)<n∧n<10^60
 | .name w=>P w
 | .sum a b=>oJ P S a∧oJ P S b
 | .less a b=>oJ P S a∧oJ P S b
 | .cho a b c=>oJ P S a∧oJ P S b∧oJ P S c
 | .lt w a b=>P w∧oJ P S a∧oJ P S b
 | .st0 w=>S w 0
 | .st1 w a=>S w 1∧oJ P S a
 | .st2 w a b=>S w 2∧oJ P S a∧oJ P S b
abbrev WT(S:Str→Nat→Prop):T→Prop:=oJ Wd S
structure Wg(w:Str):Prop where
 wd:Wd w
 gd:w.cps.toList.getLast?≠some 122∧w.cps.toList.getLast?≠some 113
 sh:w.length≤150
abbrev WG(S:Str→Nat→Prop):T→Prop:=oJ Wg S
theorem ee{P P':Str→Prop}{S:Str→Nat→Prop}(h:∀w,P w→P' w):∀{t:T},oJ P S t→oJ P' S t
 | .num _,z=>z
 | .name _,z=>h _ z
 | .sum _ _,z=>⟨ee h z.1,ee h z.2⟩
 | .less _ _,z=>⟨ee h z.1,ee h z.2⟩
 | .cho _ _ _,z=>⟨ee h z.1,ee h z.2.1,ee h z.2.2⟩
 | .lt _ _ _,z=>⟨h _ z.1,ee h z.2.1,ee h z.2.2⟩
 | .st0 _,z=>z
 | .st1 _ _,z=>⟨z.1,ee h z.2⟩
 | .st2 _ _ _,z=>⟨z.1,ee h z.2.1,ee h z.2.2⟩
theorem zx{S:Str→Nat→Prop}{t:T}(h:WG S t):WT S t:=ee (λ_ z=>z.wd) h
structure iU(S:Str→Nat→Prop)(H₀ H:Hp)(n:Nat)(l:Addr)(vs:List V)(ts:List T):Prop where
 same:dQ H₀ H
 new:H₀ l=none
 at_:H l=some (.lst vs)
 den:fj H ts vs
 sz:fA ts≤n
 one:ts≠[]
 wt:∀t∈ts,WG S t
theorem xI:Wd "sab":=⟨by decide,by decide,by decide⟩
theorem xF:Wd "tab":=⟨by decide,by decide,by decide⟩
theorem xG:Wd "sob":=⟨by decide,by decide,by decide⟩
theorem xH:Wd "sat":=⟨by decide,by decide,by decide⟩
theorem rq:Wg "sab":=⟨xI,⟨by decide,by decide⟩,by decide⟩
theorem ui(h:v∈[V.str "sab",V.str "tab",V.str "sob",V.str "sat"]):∃x,v=.str x∧Wg x:=by
 rcases aF.mp h with rfl|h
 ·exact⟨_,rfl,rq⟩
 rcases aF.mp h with rfl|h
 ·exact⟨_,rfl,xF,⟨by decide,by decide⟩,by decide⟩
 rcases aF.mp h with rfl|h
 ·exact⟨_,rfl,xG,⟨by decide,by decide⟩,by decide⟩
 rcases aF.mp h with rfl|h
 ·exact⟨_,rfl,xH,⟨by decide,by decide⟩,by decide⟩
 ·cases h
theorem Br(h:Wd x)(hl:x.length≤132):Wd (x++("k":Str)):=by
 have e:(("k":Str)).cps = #[107]:=by decide
 have el:(x++("k":Str)).length=x.length+1:=by show(x.cps++(("k":Str)).cps).size=_;rw[e];simp[Str.length]
 refine⟨by rw[el];lia,by rw[el];lia,λc hc=>?_⟩;have hc:c∈(x.cps++(("k":Str)).cps).toList:=hc;rw[e,bR]at hc;rcases aS.mp hc with q|q
 ·exact h.abc c q
 ·have:c=107:=by simpa using q
  lia
theorem Bp(h:Wd x)(hl:x.length≤132):Wg (x++("k":Str)):=by
 have e:(("k":Str)).cps = #[107]:=by decide
 have el:(x++("k":Str)).cps.toList=x.cps.toList++[107]:=by show(x.cps++(("k":Str)).cps).toList=_;rw[e,bR]
 have en:(x++("k":Str)).length=x.length+1:=by show(x.cps++(("k":Str)).cps).size=_;rw[e];simp[Str.length]
 refine⟨Br h hl,⟨?_,?_⟩,by lia⟩<;>rw[el,List.getLast?_append]<;>simp
def gf(S:Str→Nat→Prop)(H:Hp)(xs:List V):Prop:=∀x∈xs,∃(q:Addr)(nm:Str)(m:Nat),x=.ref q∧H q=some (.tup [.str nm,.int m])∧m≤2∧S nm m
def iw(K:aA)(S:Str→Nat→Prop):Sp:=λvs H Q _=>∃(c st:Addr)(ns:List Int)(xs:List V),vs=[.ref c,.ref st]∧dv K H c (ns.map V.int)∧ns.length≤100∧H st=some (.lst xs)∧xs.length≤1000∧gf S H xs∧
 ∀(t:T)(v:V)(H':Hp),dQ H H'→gU H' t v→WG S t→t.size≤2*ns.length+2→t.names.length≤ns.length+1→Q v H'
def nK(K:aA)(S S':Str→Nat→Prop):Sp:=λvs H Q _=>∃(c st:Addr)(ns:List Int)(xs:List V),vs=[.ref c,.ref st]∧dv K H c (ns.map V.int)∧ns.length≤100∧H st=some (.lst xs)∧xs.length≤1000∧gf S H xs∧(∀t:T,t.size≤ns.length+1→WG S t→WG S' t)∧
 ∀(t:T)(v:V)(H':Hp),dQ H H'→gU H' t v→WG S' t→t.size≤2*ns.length+2→t.names.length≤ns.length+1→Q v H'
theorem iw.two(h:iw K S vs H Q E):nK K S S vs H Q E:=by obtain⟨c,st,ns,xs,h1,h2,h3,h4,h5,h6,k⟩:=h;exact⟨c,st,ns,xs,h1,h2,h3,h4,h5,h6,λ_ _ z=>z,k⟩
theorem lb:∀{ts:List T},t∈ts→t.size≤fA ts
 | x::ts,h=>by
  rw[iL];rcases aF.mp h with rfl|h
  ·lia
  ·have:=lb h;lia
end SW
namespace L2
open PySem PySem.Spec PyProof.Rows
def fJ(X:Cx)(scope:Scope)(cl:List (Str×Addr))(N:List Str)(fp:List Addr)(s:Shared)(H:Hp)(C:Addr):Cx where
 prog:=X.prog
 w:=X.w
 K:=X.K
 mg:=X.mg
 base:=X.base
 A:=X.A
 N:=N
 s₀:=s
 H₀:=H
 env:=compEnvC scope cl C X.env
 outer:=X.stack
 stack:=X.stack
 ex:=fp
 fn:=λ_=>false
 calm:=X.calm
 pn:=[]
 xe:=λ_ _=>False
def wG(σ:St)(js:List Nat):St:=js.map λj=>σ.getD j none
def ji(dU:List Value)(n:Nat):Obj:={cls:=.type "list",data:=.seq dU.toArray n}
section
variable {X:Cx}{pins:List (Addr×Obj)}{σ:St}{H:Hp}{s:Shared}{scope:Scope}{cl:List (Str×Addr)}{x:Str}{ys:List Str}{js:List Nat}{fp:List Addr}{C D:Addr}{h':Heap}
theorem dB.nostk(I:dB X pins σ H s)(h1:b≠X.env.locals)(h2:b∉X.fs):b∉lN X.stack:=λz=>by
 rcases aF.mp (I.stkSub b z)with e|e
 ·exact h1 e
 ·exact h2 e
theorem dB.compOut(I:dB X pins σ H s)(hf:∀b∈fp,lS X pins H b)(hC:s.heap.objs.size≤C)(hD:s.heap.objs.size≤D)(hDC:D≠C)
  (I':dB (fJ X scope cl (x::ys) fp s H C) P σ' H' s') (hp:(D,ji dU n)∈P) (r:dS vs dU) (hz:vs.length≤sizeLine) (hs:Heap.SameBut C s'.heap h'):dB X pins σ (dc H' D (.lst vs)) {s' with heap:=h'}:=by
 obtain⟨pe,pn,_,_,_⟩:=I'.pin (D,ji dU n) (aP _ hp);have u:Un (lN X.stack) fp H H' s.heap s'.heap:=I'.base;have hCn:H' C=none:=I'.free;have lt:∀b o,s.heap.get? b=some o→b≠C∧b≠D:=λb o e=>⟨aI (aH (Heap.lt_size e) hC),aI (aH (Heap.lt_size e) hD)⟩;have nD:∀b o,H' b=some o→b≠D:=λb o e=>da e pn;refine I.call' (ch:=fp) (s':={s' with heap:=h'}) I'.os ⟨λb o q nn hb hx=>?_,λb o q nn hb hx=>?_,λb o q nn hx=>?_,λb o q hx=>?_,λb xs q=>?_,λb o xs q=>?_,λb ps q=>?_⟩ ?_ I'.bare (λb hb=>?_) I'.tk
 ·exact(hs.2 b (lt b o q).1).trans (u.keep b o q nn hb hx)
 ·obtain⟨sl,e⟩:=u.slot b o q nn hb hx;exact⟨sl,(hs.2 b (lt b o q).1).trans e⟩
 ·rw[dN (lt b o q).2];exact u.free b o q nn hx
 ·obtain⟨o',e⟩:=u.there b o q hx;exact⟨o',(hs.2 b (lt b o q).1).trans e⟩
 ·have e:=u.tups b xs q;rw[dN (nD _ _ e)];exact e
 ·have e:=u.frzs b o xs q;rw[dN (nD _ _ e)];exact e
 ·obtain⟨more,e⟩:=u.tbls b ps q;exact⟨more,by rw[dN (nD _ _ e)];exact e⟩
 ·intro b ob e;by_cases hb:b=D
  ·subst hb;rw[c6]at e;cases e;exact⟨hz,dU,n,r,(hs.2 b hDC).trans pe⟩
  ·rw[dN hb]at e;refine(I'.hok b ob e).stay (λc v hc q=>(hs.2 c ?_).trans q) (λc q=>by rw[dN (nD _ _ q)];exact q) λc xs q=>by rw[dN (nD _ _ q)];exact q
   rcases hc with rfl|hc
   ·exact da e hCn
   ·exact da hc hCn
 ·obtain⟨_,h1,_,h3,h4,h5⟩:=hf b hb;exact⟨h3,h1,h4,h5⟩
end
def Cw(wi:TI)(te:TE)(js:List Nat):TE:=λσ H Q=>wi σ H λJ H1=>∃W:Nat→Nat→List V→Hp→Prop,(∃m,W 0 m [] H1)∧∀i m vs H,W i m vs H→
 (J.stop i H∧vs.length≤sizeLine∧kR H (.lst vs) Q)∨
 (J.go i H∧∀x H',J.yld i H x H'→te (some x::wG σ js) H' λy H''=>vs.length<sizeLine∧∃m',m'<m∧W (i+1) m' (vs++[y]) H'')
end L2
namespace SW
open PySem L2
abbrev gj:R2:=rg λi j=>.int (i+j)
abbrev nP:R2:=rg λi j=>.int (i-j)
abbrev AR:R2:=rI wW λi j=>.int (i*j)
abbrev nR:R2:=rI zn λi j=>.int (i / j)
abbrev fP:R2:=rI (λ_ j=>0<j) λi j=>.int (i%j)
abbrev wj:R2:=rI BO λi j=>.int (i^j.toNat)
abbrev fM:V→Hp→VK→Prop:=rU λi=>.int (-i)
abbrev jd:R2:=rg λi j=>.bl (decide (i<j))
abbrev ol:R2:=rg λi j=>.bl (decide (j<i))
abbrev CP:R2:=rg λi j=>.bl (decide (j≤i))
abbrev iq:List V→Hp→VK→Prop:=λxs H Q=>∃z,xs=[.str z]∧z.length≤sizeLine∧Q (.int z.length) H
abbrev pE:List V→Hp→VK→Prop:=λxs H Q=>(∃i,xs=[.int i]∧Q (.int i) H)∨∃k,xs=[.bl k]∧Q (.int (if k then 1 else 0)) H
abbrev Ca:List V→Hp→VK→Prop:=λxs H Q=>∃i,xs=[.int i]∧Q (.int (if i<0 then -i else i)) H
abbrev CZ:List V→Hp→VK→Prop:=λxs H Q=>∃i j,xs=[.int i,.int j]∧Q (.int (if j<i then j else i)) H
abbrev uZ(K:aA):List V→Hp→VK→Prop:=λxs H Q=>∃p ys,xs=[.ref p]∧((dv K H p ys∧kR H (.tup ys) Q)∨(eM K H p ys∧Q (.ref p) H))
end SW
namespace L2
open PySem PySem.Spec PyProof.Rows SW
section
variable {X:Cx}{pins:List (Addr×Obj)}{σ:St}{H:Hp}{s:Shared}
end
section
variable {X:Cx}
end
end L2
namespace L2
open PySem PySem.Spec PyProof.Rows
theorem ic(a b:Int):Builtin.Range.rangeSize a b (-1)=if b<a then a-b else 0:=by unfold Builtin.Range.rangeSize;simp only[show ¬((-1:Int)>0) by decide,if_false];split<;>(try split)<;>simp<;>lia
theorem oT(ha : -(2^62)≤a)(ha':a<2^62)(hb : -(2^62)≤b)(hb':b<2^62):Builtin.Range.small a b (-1)=true:=by
 unfold Builtin.Range.small;rw[ic];simp only[Builtin.Range.rangeFitsLong,aq,bf,decide_eq_true_eq,beq_iff_eq,show ¬((-1:Int)>0) by decide,if_false];split
 ·refine⟨⟨⟨⟨by lia,by lia⟩,by lia⟩,by lia⟩,.inr (by lia)⟩
 ·refine⟨⟨⟨⟨by lia,by lia⟩,by lia⟩,by lia⟩,.inl ?_⟩
  first|trivial|rfl
def zu(hi:Int)(n:Nat):It:=⟨λi _=>i<n,λi H x H'=>H'=H∧x=.int (hi-i),λi _=>n≤i⟩
theorem qr{P:Program}{w:World}{K:aA}{tg:Expr}(it:Addr)(hi:Int)(n:Nat):wR P w K tg (zu hi n) [it] it (λi h=>IsRangeIter h it (hi+(i:Nat)*(-1)) ((n:Int)-(i:Nat)) (-1)) where
 mem:=by simp
 obj:=λi h st b hb=>by
  have e:b=it:=by simpa using hb
  subst e;exact⟨_,st,λv z=>by
   have z':Data.fields _=Data.cell v:=z;cases z'⟩
 keep:=λi h h' st k=>k it (by simp) _ st
 item:=by intro X hP hw hK hc i pins s σ H E I hf st hg;subst hP hw hK;obtain⟨f0,f1,f2,f3,f4,f5⟩:=hf it (by simp);have W:=Walks.range (prog:=X.prog) (w:=X.w) (I.ok.hd hc) it hi (-1) n;refine wpAny_with_toks (aB s.toks) (W.item i s _ _ hg st λv h' tk hv st' kk ht=>?_);obtain⟨t,rfl⟩:=hv;have I1:dB X pins σ H {s with heap:=h',toks:=tk}:=I.turned (λb o hb e=>kk b o (by simpa using hb) e) f0 f1 f3 f4 f5 ht;refine⟨_,rfl,uH (s:={s with heap:=h',toks:=tk}) (n:="range_iterator") st' rfl rfl (by decide) ⟨.int (hi-i),H,I1,⟨t,?_⟩,⟨rfl,rfl⟩,st',λb hb=>(hf b hb).1⟩⟩;rw[show hi+(i:Int)*(-1)=hi-i by lia]
 done:=by intro X hP hw hK hc i pins s σ H E I hf st hg;subst hP hw hK;obtain⟨f0,f1,f2,f3,f4,f5⟩:=hf it (by simp);exact wpAny_pyNext_range_end (I.ok.hd hc) st (by have:n≤i:=hg;lia) λh' eb=>⟨rfl,I.turned (t':=s.toks) (λb o hb e=>eb b o hb e) f0 f1 f3 f4 f5⟩
 self:=λ_ _ _ _ _ st h=>wpAny_pyIter_rangeiter st h
section
variable {X:Cx}{tg:Expr}
theorem oj{pins:List (Addr×Obj)}{σ:St}{H:Hp}{s:Shared}{R:It→Hp→Prop}{E:Value→Shared→Prop}{hi lo:Int}{t u v:Tok}{tk:Nat}(I:dB X pins σ H s)(ht:s.toks≤tk)(h1 : -(2^62)≤hi)(h2:hi<2^62)(h3 : -(2^62)≤lo)(h4:lo<2^62)
  (q:R (zu hi (hi-lo).toNat) H):wpAny (model X.prog X.w) X.A (pyIter (.ref s.heap.objs.size)) (Ck X pins σ tg R) E {s with heap:=s.heap.push {cls:=.type "range",data:=.fields #[.int hi t,.int lo u,.int (-1) v]},toks:=tk}:=by
 refine wpAny_pyIter_range (IsRange.new ..) (oT h1 h2 h3 h4) ?_;have I1:dB X pins σ H {s with heap:=s.heap.push {cls:=.type "range",data:=.fields #[.int hi t,.int lo u,.int (-1) v]},toks:=tk}:=I.kept λb o e=>Heap.get?_push_of_some _ e;refine⟨(s.heap.push {cls:=.type "range",data:=.fields #[.int hi t,.int lo u,.int (-1) v]}).objs.size,[(s.heap.push {cls:=.type "range",data:=.fields #[.int hi t,.int lo u,.int (-1) v]}).objs.size],_,_,H,rfl,
  I1.kept (t':=tk) λb o e=>Heap.get?_push_of_some _ e,qr _ hi (hi-lo).toNat,?_,λb hb=>?_,q⟩
 ·have e1:hi+((0:Nat):Int)*(-1)=hi:=by simp
  have e2:(((hi-lo).toNat:Nat):Int)-((0:Nat):Int)=Builtin.Range.rangeSize hi lo (-1):=by rw[ic];split<;>lia
  show IsRangeIter _ _ (hi+((0:Nat):Int)*(-1)) ((((hi-lo).toNat:Nat):Int)-((0:Nat):Int)) (-1);rw[e1,e2];exact Heap.get?_push_size _ rfl
 ·have e:b=(s.heap.push {cls:=.type "range",data:=.fields #[.int hi t,.int lo u,.int (-1) v]}).objs.size:=by simpa using hb
  subst e;exact I1.fpOk (aB _) (I1.hok.fresh (aB _))
def ww(ta:TA):TI:=λσ H R=>ta σ H λvs H1=>∃i j:Int,vs=[.int i,.int j,.int (-1)]∧(-(2^62)≤i∧i<2^62∧-(2^62)≤j∧j<2^62)∧R (zu i (i-j).toNat) H1
theorem rE(hg:Gl X "range")(hm:X.mg "range"=none)(ha:PA X [a,b,c] ta)(hs:starEach [a,b,c] X.env=[(false,eval a X.env),(false,eval b X.env),(false,eval c X.env)]:=by rfl)(hs2:starEach [b,c] X.env=[(false,eval b X.env),(false,eval c X.env)]:=by rfl):
  PI X tg (.Call (.Name "range" p) [a,b,c] [] pos) (ww ta):=by
 intro pins s σ H R I h;refine Call_ (jS I hg hm boot_range (bM (thn (ha pos pins s σ H _ I h) λus s1 ⟨vs,H1,I1,r1,q1⟩=>?_) (by rw[hs,hs2]) (by rw[hs2];rfl)));obtain⟨i,j,e,⟨q1,q2,q3,q4⟩,q⟩:=q1;subst e;cases r1 with
 | cons r rr=>
  cases rr with
  | cons r' rr=>
   cases rr with
   | cons r'' rr=>cases rr;obtain⟨t,rfl⟩:=r;obtain⟨t',rfl⟩:=r';obtain⟨t'',rfl⟩:=r'';exact call_range_3 (by decide) (oj I1 (by first|exact aB _|exact aM _ 1|exact aM _ 2|exact aM _ 3) q1 q2 q3 q4 q) (.inl (cQ (by decide)))
end
end L2
namespace PySem.W
open PySem PySem.Spec PySem.Calls PyProof.Rows
theorem sy:typeLookup (.type "list_reverseiterator") "__len__"=pure none:=by rw[typeLookup_type,builtinLookup_eq_fast];kernel_rfl
theorem s8:typeLookup (.type "list_reverseiterator") "__length_hint__"=pure (some (.builtin "list_reverseiterator.__length_hint__")):=by rw[typeLookup_type,builtinLookup_eq_fast];kernel_rfl
section
variable {prog:Program}{w:World}{A:Around}{E:Value→Shared→Prop}{s:Shared}{r l:Addr}{items:Array Value}
theorem vS(hT:s.TypeIs (.ref r) "list_reverseiterator")(h:Q false s):wpAny (model prog w) A (Builtin.List.listLengthHint (.ref r)) Q E s:=by
 unfold Builtin.List.listLengthHint;refine wpAny_bind (wpAny_specialOf hT sy ?_);refine wpAny_bind (wpAny_specialOf hT s8 ?_);generalize hid:("list_reverseiterator.__length_hint__":String)=id0
 wp_delta
 rw[show splitId id0=some ("list_reverseiterator","__length_hint__")from by subst hid;decide];subst hid;refine wpAny_bind (wpAny_isInstance (T:="list_reverseiterator") (b:=true) hT (by rw[isSubtype_type];kernel_rfl) ?_);refine wpAny_ite_split (λhab=>absurd hab (by decide)) (λ_=>?_);refine wpAny_ite_split (λ_=>?_) (λhab=>absurd (by decide) hab);refine wpAny_ite_split (λhab=>absurd hab (by decide)) (λ_=>?_);exact wpAny_pure h
theorem q9(hh:A.handled=none)(hit:s.heap.IsRevIter r l ((items.size:Int)-1))(hl:s.heap.IsList l items)(S:Addr)(hSr:S≠r)(hSl:S≠l)(hlr:l≠r)(res:Value)(c₀:Nat)(hS:s.heap.get? S=some {cls:=.type "list",data:=.seq #[] c₀})
  (hR:∀h' tk acc' c',(∀b o,b≠S→b≠r→s.heap.get? b=some o→h'.get? b=some o)→h'.get? S=some {cls:=.type "list",dict:=none,data:=.seq acc' c',slots:=#[]}→ItemsOf (λi v=>items[items.size-1-i]?=some v) acc' items.size→R (.ok (.ret res)) {s with heap:=h',toks:=tk}) (hn:items.size≤sizeLine):
  wpAny (model prog w) A.in1 (Builtin.List.listExtendWith (.ref S) (.ref r) res)
   (λfC s'=>match fC with|.done f=>R (.ok f) s'|.again c'=>c'.quiet=true∧codeAny (model prog w) A c' R s') (λe s'=>R (.error e) s') s:=by
 have hSf:S∉[r,l]:=by simp only[aF,av,or_false,not_or];exact⟨hSr,hSl⟩
 have W:=Walks.listRev (prog:=prog) (w:=w) (A:=A.in1) hh r l hlr items;have hT:s.TypeIs (.ref r) "list_reverseiterator":=hit.typeIs;have st0:0≤items.size∧s.heap.IsRevIter r l ((items.size:Int)-1-((0:Nat):Int))∧s.heap.IsList l items:=⟨aR _,by simpa using hit,hl⟩;unfold Builtin.List.listExtendWith;refine wpAny_bind (wpAny_typeOf (T:="list_reverseiterator") hT ?_);have h1:Builtin.List.listSameRef (.ref S) (.ref r)=false:=by simp[Builtin.List.listSameRef,hSr]
 simp only[h1,show(Value.type "list_reverseiterator"==Value.type "list")=false from by decide,show(Value.type "list_reverseiterator"==Value.type "tuple")=false from by decide,Bool.or_false,Bool.false_eq_true,if_false];refine wpAny_bind (wpAny_pyIter_revIter hit ?_);refine wpAny_bind (wpAny_holding (vS hT ?_));refine wpAny_ite_split (λhab=>absurd hab (by decide)) (λ_=>wpAny_pure ⟨plainId_quiet PySem.F.plain_extend_loop _,?_⟩);refine codeAny_extend_loopS W.toS hn S hSf res items.size 0 _ #[] c₀ rfl (aR _) st0 hS (ItemsOf.nil _) λs' acc' c' hm hS' hacc=>?_;rw[Moved.eq_with hm];refine hR s'.heap s'.toks acc' c' (λb o hb hbr e=>hm.heap b o (λhmem=>?_) e) hS' hacc;rcases aF.mp hmem with e'|hmem
 ·exact hb e'
 ·exact hbr (aT.mp hmem)
end
end PySem.W
namespace L2
open PySem PySem.Spec PyProof.Rows
section
variable {X:Cx}
theorem jW:∀{xs:List V}{us:List Value},dS xs us→dS xs.reverse us.reverse
 | _,_,.nil=>.nil
 | _,_,.cons r t=>by rw[am,am];exact(jW t).append (.cons r .nil)
end
section
variable {X:Cx}
def wm(K:aA):R2:=λx y H Q=>onR x λa=>onR y λb=>m8 (eM K H a) λxs=>m8 (eM K H b) λys=>xs.length+ys.length≤sizeLine∧
 (xs=[]→Q (.ref b) H)∧(xs≠[]→ys=[]→Q (.ref a) H)∧(xs≠[]→ys≠[]→kR H (.tup (xs++ys)) Q)
theorem vf:jq X (binaryOp .Add) (wm X.K):=by
 intro pins s σ H x y v u Q I rx ry h;obtain⟨a,rfl,h⟩:=onR.ex h;obtain⟨b,rfl,h⟩:=onR.ex h;obtain @⟨xs,ha,h⟩:=h;obtain @⟨ys,hb,hz,q0,q1,q2⟩:=h;by_cases hx:xs=[]
 ·subst hx;cases rx;cases ry;obtain⟨dU,r1,p1,_⟩:=I.tuple ha;obtain⟨its2,r2,p2,_⟩:=I.tuple hb;cases r1;obtain⟨⟨cls,dd,data,sl⟩,ho,hc,n,hd⟩:=id p1;obtain⟨⟨cls2,dd2,data2,sl2⟩,ho2,hc2,n2,hd2⟩:=id p2;simp only at hc hd hc2 hd2;subst hc hd hc2 hd2;exact concat_meets ⟨_,ho,rfl⟩ ⟨_,ho2,rfl⟩ noFill_tuple_add seq_tuple_add bx bz (b4 _ _)
   (tuple_addW0 a b #[] its2.toArray n n2 dd dd2 sl sl2 rfl) ⟨ho,ho2,.ref b,H,I,rfl,q0 rfl⟩
 ·exact ve pins s σ H _ _ v u Q I rx ry ⟨a,b,xs,ys,rfl,rfl,ha,hb,hx,hz,q1 hx,q2 hx⟩
end
end L2
namespace PySem.W
open PySem PySem.Spec PySem.Calls PyProof.Rows
section
variable {prog:Program}{w:World}{A:Around}{E:Value→Shared→Prop}{s:Shared}{r l:Addr}{items:Array Value}
theorem oX{Q:List Value→Shared→Prop}(hh:A.handled=none)(hit:s.heap.IsRevIter r l ((items.size:Int)-1))(hl:s.heap.IsList l items)(hlr:l≠r)(hn:items.size≤sizeLine)
  (hQ:∀(h':Heap)(tk:Nat)(acc':Array Value),(∀b o,b≠r→s.heap.get? b=some o→h'.get? b=some o)→ItemsOf (λi v=>items[items.size-1-i]?=some v) acc' items.size→Q acc'.toList {s with heap:=h',toks:=tk}):
  wpAny (model prog w) A (collect (.ref r)) Q E s:=by
 have lr:r<s.heap.objs.size:=by obtain⟨o,e,_⟩:=hit;exact Heap.lt_size e
 have ll:l<s.heap.objs.size:=by obtain⟨o,e,_⟩:=hl;exact Heap.lt_size e
 unfold collect;refine wpAny_bind (wpAny_runValue (codeAny_builtin PySem.F.entry_proto_collect ?_));rw[Around.under_plainId PySem.F.plain_proto_collect _];show wpAny _ A.in1 (newList [] >>= λl=>again (.builtin "list.__iadd__" ⟨[l,.ref r],[]⟩)) _ _ s;refine wpAny_bind (wpAny_newObj_type ?_);refine wpAny_pure ⟨plainId_quiet cY _,codeAny_builtin PySem.F.entry_list_iadd ?_⟩;rw[Around.under_plainId cY _];have hS:(s.heap.push {cls:=.type "list",data:=.seq ([]:List Value).toArray}).get? s.heap.objs.size=some {cls:=.type "list",data:=.seq #[]}:=Heap.get?_push_size _ rfl;show wpAny _ A.in1 (Builtin.List.listExtendWith (.ref s.heap.objs.size) (.ref r) (.ref s.heap.objs.size)) _ _ _;refine q9 (R:=wants (λv s'=>wpAny (model prog w) A (match v with|.ref a=>(load a >>= λo=>match o.data with|.seq xs _=>pure xs.toList|_=>unsupported "internal:collect")|_=>unsupported "internal:collect") Q E s') E) (s:={s with heap:=s.heap.push {cls:=.type "list",data:=.seq ([]:List Value).toArray}}) (items:=items) hh (hit.at λo e=>Heap.get?_push_of_some _ e) (hl.at λo e=>Heap.get?_push_of_some _ e) s.heap.objs.size (bX lr) (bX ll) hlr (.ref s.heap.objs.size) 0 hS (λh' tk acc' c' hk hS' hacc=>?_) hn;show wpAny _ A (load s.heap.objs.size >>= _) _ _ _;refine wpAny_bind (wpAny_load hS' ?_);exact wpAny_pure (hQ h' tk acc' (λb o hb e=>hk b o (aI (Heap.lt_size e)) hb (Heap.get?_push_of_some _ e)) hacc)
theorem oW{Q₁:Value→Shared→Prop}(hh:A.handled=none)(hit:s.heap.IsRevIter r l ((items.size:Int)-1))(hl:s.heap.IsList l items)(hlr:l≠r)(hn:items.size≤sizeLine)
  (h:∀(h':Heap)(tk:Nat)(acc':Array Value),(∀b o,b≠r→s.heap.get? b=some o→h'.get? b=some o)→ItemsOf (λi v=>items[items.size-1-i]?=some v) acc' items.size→Q₁ (.ref h'.objs.size) {s with heap:=h'.push {cls:=.type "tuple",data:=.seq acc'},toks:=tk}):
  codeAny (model prog w) A (.call (.builtin "tuple.__new__") ⟨[.type "tuple",.ref r],[]⟩) (wants Q₁ E) s:=by
 refine codeAny_of_tree ?_;show wpAny _ A.in1 (do checkBuiltinCall "tuple.__new__" ⟨[.type "tuple",.ref r],[]⟩;again (.builtin "tuple.__new__" ⟨[.type "tuple",.ref r],[]⟩)) _ _ s;refine wpAny_bind (wpAny_of_eq (PySem.F.newCall_tuple_1 _) (wpAny_pure ⟨plainId_quiet cZ _,codeAny_builtin PySem.F.entry_tuple_new ?_⟩));rw[Around.under_plainId cZ _];have hsub:=sub_tuple_self;have hinit:=init_tuple_lookup;have hmh:=madeHere_tuple;have hTI:s.TypeIs (.ref r) "list_reverseiterator":=hit.typeIs
 wp_walk using wpAny_typeOf hTI,oX (A:=A.in1) hh hit hl hlr hn
 intro h' tk acc hk hacc;show wpAny _ _ (Builtin.Tuple.tupleExact acc.toList.toArray >>= λv=>ret v) _ _ _;unfold Builtin.Tuple.tupleExact;refine wpAny_bind (wpAny_newObj_type ?_ (by show acc.toList.toArray.size≤sizeLine;simp only[Array.toArray_toList];rw[hacc.1];exact hn));refine wpAny_pure ?_;have e:acc.toList.toArray=acc:=by simp
 rw[e];exact h h' tk acc hk hacc
theorem rv_tuple{Q:Value→Shared→Prop}(hh:A.handled=none)(hit:s.heap.IsRevIter r l ((items.size:Int)-1))(hl:s.heap.IsList l items)(hlr:l≠r)(hn:items.size≤sizeLine)
  (hQ:∀(h':Heap)(tk:Nat)(acc':Array Value),(∀b o,b≠r→s.heap.get? b=some o→h'.get? b=some o)→ItemsOf (λi v=>items[items.size-1-i]?=some v) acc' items.size→Q (.ref h'.objs.size) {s with heap:=h'.push {cls:=.type "tuple",data:=.seq acc'},toks:=tk}):
  wpAny (model prog w) A (call (.type "tuple") [.ref r]) Q E s:=by
 refine callType_codes (Q₁:=λobj s₁=>s₁.TypeIs obj "tuple"∧Q obj s₁) b9 (PySem.F.typeCall_tuple_1 _) PySem.F.entry_object_init
  (oW hh hit hl hlr hn λh' tk acc' hk hacc=>⟨⟨_,Heap.get?_push_size _ rfl,rfl⟩,hQ h' tk acc' hk hacc⟩) λobj s₁ h₁=>?_
 exact⟨h₁.1,PySem.F.args_object_init_2 obj _,object_init_meets b9.init.lookup b9.made (by decide) prog w A.in1 _ s₁ ⟨h₁.1,rfl,h₁.2⟩⟩
end
end PySem.W
namespace L2
open PySem PySem.Spec PyProof.Rows
section
variable {X:Cx}
def wa(K:aA)(tl:TE):TE:=λσ H Q=>tl σ H λx H1=>∃a xs,[x]=[V.ref a]∧dv K H1 a xs∧∀p,H1 p=none→Q (.ref p) (dc H1 p (.tup xs.reverse))
theorem va{e:Expr}{tl:TE}{p1 p2 q1 q2:Pos}(hc:X.calm=true)(hgl:Gl X "tuple")(hml:X.mg "tuple"=none)(hgr:Gl X "reversed")(hmr:X.mg "reversed"=none)(he:PE X e tl)(h1:starEach [e] X.env=[(false,eval e X.env)]:=by rfl)
  (h2:starEach [.Call (.Name "reversed" p1) [e] [] p2] X.env=[(false,eval (.Call (.Name "reversed" p1) [e] [] p2) X.env)]:=by rfl):
  PE X (.Call (.Name "tuple" q1) [.Call (.Name "reversed" p1) [e] [] p2] [] q2) (wa X.K tl):=by
 intro pins s σ H Q I h;refine wpAny_Call_Name_kw (jS I hgl hml lI ?_);have h2':starEach (.Call (.Name "reversed" p1) [e] [] p2::[]) X.env=(false,eval (.Call (.Name "reversed" p1) [e] [] p2) X.env)::starEach [] X.env:=h2;refine bM ?_ h2' (by rfl);rw[h2];refine Calls.spliced_cons ?_;refine wpAny_Call_Name_kw (jS I hgr hmr oC ?_);have h1':starEach (e::[]) X.env=(false,eval e X.env)::starEach [] X.env:=h1;refine bM (thn ((c7 he ij h1':PA X [e] (cp tl cy)) p2 pins s σ H (λvs H1=>∃a xs,vs=[V.ref a]∧dv X.K H1 a xs∧∀p,H1 p=none→Q (.ref p) (dc H1 p (.tup xs.reverse))) I h) λus s1 ⟨vs,H1,I1,r1,q1⟩=>?_) h1' (by rfl);obtain⟨a,xs,rfl,hq,q⟩:=q1;obtain⟨u,rfl,ru⟩:=jF r1;cases ru;obtain⟨dU,rv,p,hz⟩:=I1.list hq;refine call_reversed_list p.isList ?_;refine Calls.spliced_nil ?_;have hlt:a<s1.heap.objs.size:=by obtain⟨o,eo,_⟩:=p.isList;exact Heap.lt_size eo
 refine wpAny_with_toks (aB s1.toks) (PySem.W.rv_tuple (l:=a) (items:=dU.toArray) (I1.ok.hd hc) ⟨_,Heap.get?_push_size _ rfl,rfl,rfl⟩ (p.isList.at λo eo=>Heap.get?_push_of_some _ eo) (aI hlt) (by simpa[←rv.length]using hz) λh' tk acc' hk hacc ht=>?_);have hvals:dS xs.reverse acc'.toList:=by
  have e:acc'.toList=dU.reverse:=by
   apply List.ext_getElem?;intro i;have hs:acc'.size=dU.length:=by simpa using hacc.1
   by_cases hi:i<dU.length
   ·have h1:acc'[i]?=some acc'[i]:=by simp[hs,hi]
    have h2:=hacc.2 i _ h1;rw[cT,h1,List.getElem?_reverse hi];simpa using h2.symm
   ·rw[bg (by simp[hs];omega),bg (by simp;omega)]
  rw[e];exact jW rv
 have I2:dB X pins σ H1 {s1 with heap:=h',toks:=tk}:=I1.kept (t':=tk) λb o eo=>hk b o (aI (Heap.lt_size eo)) (Heap.get?_push_of_some _ eo);have I3:dB X pins σ (dc H1 h'.objs.size (.tup xs.reverse)) {s1 with heap:=h'.push {cls:=.type "tuple",data:=.seq acc'},toks:=tk}:=
  I2.laid (t':=tk) (λb o e=>Heap.get?_push_of_some _ e) (aB _) (show eP X.prog X.w _ _ _ (.tup xs.reverse)from⟨by simpa using hz,acc'.toList,hvals,by simpa using IsTup.new h' acc'⟩)
 exact⟨.ref h'.objs.size,_,I3,rfl,q _ (I2.hok.fresh (aB _))⟩
def qB:V→List V→Hp→VK→Prop:=λx ys H Q=>∃a b i,x=.str a∧ys=[.str b,.int i]∧Q (.bl (PySem.Txt.startswith3 a b i)) H
theorem rH:Bi X "str.startswith" qB:=by intro pins s σ H x xs v us Q I rx rs h;obtain⟨a,b,i,rfl,rfl,q⟩:=h;obtain⟨t,rfl⟩:=rx;obtain⟨u1,u2,rfl,⟨t1,rfl⟩,⟨t2,rfl⟩⟩:=dS.two rs;exact SC.startswith3 ⟨.bl _,H,I,rfl,q⟩
def wk(K:aA):V→List V→Hp→VK→Prop:=λx ys H Q=>∃a p ws,x=.str a∧ys=[.ref p]∧dv K H p (ws.map V.str)∧(ws.map (·.length)).sum+ws.length*a.length≤16777216∧Q (.str (PySem.Txt.join a ws)) H
theorem vo:Bi X "str.join" (wk X.K):=by intro pins s σ H x xs v us Q I rx rs h;obtain⟨a,p,ws,rfl,rfl,hq,hb,q⟩:=h;obtain⟨t,rfl⟩:=rx;obtain⟨u1,rfl,r1⟩:=dS.one rs;cases r1;obtain⟨dU,rv,pl,hz⟩:=I.list hq;exact wpAny_with_toks (aB s.toks) (join_list pl.isList (by simpa using ph rv) hb λt' k ht=>⟨.str _,H,I.tok _ ht,⟨_,rfl⟩,q⟩)
abbrev qk:List V→Hp→VK→Prop:=λxs H Q=>∃z n,xs=[.str z]∧PySem.intText? z=some n∧z.length≤640∧Q (.int n) H
theorem rb:iG X (.type "int") qk:=by intro pins s σ H xs us Q I r h;obtain⟨z,n,rfl,hn,hl,q⟩:=h;obtain⟨u,rfl,t,rfl⟩:=jF r;exact PySem.W.KIN.call_text hn hl ⟨.int n,H,I.tok _,⟨_,rfl⟩,q⟩
def jw:V→Option Int→Option Int→Hp→VK→Prop:=λx lo hi H Q=>∃z,x=.str z∧z.length≤sizeLine∧Q (.str (PySem.Txt.slice z lo hi)) H
theorem qN{v:Value}{lo:Option Int}(h:IsPart v lo):∃l:Option (Int×Tok),v=partValue l∧lo=l.map (·.1):=by
 cases h with
 | none=>exact⟨none,rfl,rfl⟩
 | int i t=>exact⟨some (i,t),rfl,rfl⟩
theorem gr:Bf X jw:=by
 intro pins s σ H x v vl vu lo hi sl Q I rx hs pl pu h;obtain⟨z,rfl,hz,q⟩:=h;obtain⟨t,rfl⟩:=rx;obtain⟨l,rfl,rfl⟩:=qN pl;obtain⟨u,rfl,rfl⟩:=qN pu;refine⟨"str",_,PySem.F.slot_str_getitem.lookup,typeIs_str _ _ _,?_⟩;refine wpAny_getItem_str_slice (l:=l) (u:=u) (st:=none) hs rfl ?_;unfold sliceMade;have hle:(PySem.Txt.slice z (l.map (·.1)) (u.map (·.1))).length≤z.length:=PySem.Txt.slice_le z _ _;have e:PySem.Txt.slice z (l.map (·.1)) (u.map (·.1))=if((1:Int)==1&&(slicePicked z l u none).length==z.length)=true then z else⟨((slicePicked z l u none).filterMap (z.cps[·]?)).toArray⟩:=rfl
 rw[e]at q hle;by_cases c:((1:Int)==1&&(slicePicked z l u none).length==z.length)=true
 ·rw[if_pos c]at q;rw[if_pos (show((((none:Option (Int×Tok)).map (·.1)).getD 1==1&&(slicePicked z l u none).length==z.length)=true)from c)];exact⟨.str z,H,I,⟨_,rfl⟩,q⟩
 ·rw[if_neg c]at q hle;rw[if_neg (show ¬((((none:Option (Int×Tok)).map (·.1)).getD 1==1&&(slicePicked z l u none).length==z.length)=true)from c)];exact⟨aE hle hz,.str _,H,I.tok _,⟨_,rfl⟩,q⟩
end
end L2
namespace SW
open PySem L2
def lw:Str→Nat→Prop:=λx n=>(x="st"∧n=2)∨(x="sta"∧n=1)∨(x="star"∧n=0)
def mS(K:aA):Sp:=λvs H Q _=>∃(c:Addr)(ns:List Int),vs=[.ref c]∧dv K H c (ns.map V.int)∧ns.length≤100∧
 ∀(t:T)(v:V)(H':Hp),dQ H H'→gU H' t v→WG lw t→t.size≤2*ns.length+2→t.names.length≤ns.length+1→Q v H'
def mR(K:aA):Sp:=λvs H Q _=>∃(s:Addr)(xs:List V)(m b:Int),vs=[.ref s,.int m,.int b]∧dv K H s xs∧xs.length≤63∧Q (.int m) H
def AI(K:aA):TS:=(c8 (dE (c9 fP (c9 nR (cq 0) (tC (.int 2))) (c9 wj (tC (.int 10)) (tC (.int 59)))) (c5 1)) (e9 (c9 AR (cq 1) (c9 (gA K) (dh (cp (tC (.int 1)) (cp (kq fM (tC (.int 1))) cy))) (c9 fP (cq 0) (tC (.int 2)))))))
def ye(K:aA):TS:=(c8 (dE (c9 fE (c9 jN (tC (.str "abcdefghijklmnopqrstuvwxyz")) (c9 fP (cq 1) (tC (.int 26)))) (cq 2)) (c5 2)) (dE (c9 nP (c9 nR (cq 1) (tC (.int 26))) (tC (.int 1))) (c5 1)))
def CH(K:aA):TS:=(c8 (dE (c9 fP (gG Ca (cp (cq 0) cy)) (c9 wj (tC (.int 10)) (tC (.int 39)))) (c5 1)) (c8 (dE (tC (.str "")) (c5 2)) (c8 (fu (dG (c9 CP (cq 1) (tC (.int 0)))) (ye K)) (e9 (cq 2)))))
def yc(K:aA):TS:=(dE (c9 fE (eV mP [] E0 (cp (c9 nR (cq 4) (tC (.int 29))) cy)) (tC (.str "k"))) (c5 6))
def yb(K:aA):TS:=(dy (dG (c9 i0 (c9 fP (cq 4) (tC (.int 29))) (tC (.int 7)))) (yc K) eS)
def sY(K:aA):TS:=(dj (kD K "list" eX (cq 2) (cp (eC (cp (tC (.str "number")) (cp (c9 (gA K) (dh (cp (c9 nP (c9 fP (cq 4) (tC (.int 4))) (tC (.int 1))) (cp (eV pj [] E0 (cp (cq 4) cy)) cy))) (gG pE (cp (c9 i0 (c9 fP (cq 4) (tC (.int 5))) (tC (.int 3))) cy))) cy))) cy)))
def sX(K:aA):TS:=(dj (kD K "list" eX (cq 2) (cp (eC (cp (tC (.str "name")) (cp (cq 6) cy))) cy)))
def sW(K:aA):TS:=(dE (c9 h9 (kP (kQ K) (cq 2) eN (eL (kq fM (tC (.int 3))))) (dh (cp (eC (cp (tC (.str "choose")) (cp (c9 (gA K) (cq 7) (tC (.int 0))) (cp (c9 (gA K) (cq 7) (tC (.int 1))) (cp (c9 (gA K) (cq 7) (tC (.int 2))) cy))))) cy))) (c5 2))
def sV(K:aA):TS:=(dE (c9 h9 (kP (kQ K) (cq 2) eN (eL (kq fM (tC (.int 2))))) (dh (cp (eC (cp (c9 (gA K) (dh (cp (tC (.str "sum")) (cp (tC (.str "less")) cy))) (c9 fP (cq 5) (tC (.int 2)))) (cp (c9 (gA K) (cq 7) (kq fM (tC (.int 2)))) (cp (c9 (gA K) (cq 7) (kq fM (tC (.int 1)))) cy)))) cy))) (c5 2))
def ya(K:aA):TS:=(dE (c9 (ef K) (cq 8) (tC (.int 2))) (c5 8))
def yZ(K:aA):TS:=(dy (dG (c9 (yo K false) (c9 (ef K) (cq 8) (tC (.int 0))) (dh (cp (tC (.str "sum")) (cp (tC (.str "less")) cy))))) (ya K) eS)
def yY(K:aA):TS:=(dE (c9 (ef K) (cq 8) (tC (.int 1))) (c5 6))
def pU(K:aA):TS:=(dy (jt (dG (c9 i0 (c9 (ef K) (cq 8) (tC (.int 0))) (tC (.str "name")))) (dG (c9 ol (c9 fP (cq 4) (tC (.int 3))) (tC (.int 0))))) (yY K) eS)
def pT(K:aA):TS:=(c8 (dE (c9 (gA K) (cq 7) (kq fM (tC (.int 1)))) (c5 8)) (c8 (yZ K) (c8 (pU K) (dE (c9 h9 (kP (kQ K) (cq 2) eN (eL (kq fM (tC (.int 2))))) (dh (cp (eC (cp (tC (.str "let")) (cp (cq 6) (cp (c9 (gA K) (cq 7) (kq fM (tC (.int 2)))) (cp (c9 (gA K) (cq 7) (kq fM (tC (.int 1)))) cy))))) cy))) (c5 2)))))
def vF(K:aA):TS:=(c8 (dE (gG (uZ K) (cp (c9 h9 (dh (cp (tC (.str "stamp")) (cp (cq 9) cy))) (kP (kQ K) (cq 2) (eL (c9 nP (gG (jD K) (cp (cq 2) cy)) (cq 10))) eN)) cy)) (c5 11)) (dE (c9 h9 (kP (kQ K) (cq 2) eN (eL (c9 nP (gG (jD K) (cp (cq 2) cy)) (cq 10)))) (dh (cp (cq 11) cy))) (c5 2)))
def vE(K:aA):TS:=(dy (dG (c9 i0 (cq 10) (c9 (ef K) (c9 (gA K) (cq 1) (c9 fP (cq 4) (gG (jD K) (cp (cq 1) cy)))) (tC (.int 1))))) (vF K) eS)
def pS(K:aA):TS:=(c8 (dE (c9 (gA K) (cq 1) (c9 fP (cq 4) (gG (jD K) (cp (cq 1) cy)))) (A4 K 2 (uK (c5 9) (uK (c5 10) A5)))) (c8 (dE (gG CZ (cp (cq 10) (cp (gG (jD K) (cp (cq 2) cy)) cy))) (c5 10)) (vE K)))
def vD(K:aA):TS:=(dy (dG (c9 (mZ K) (cq 1) (dh cy))) (pS K) eS)
def vC(K:aA):TS:=(dy (dG (c9 i0 (cq 5) (tC (.int 6)))) (pT K) (vD K))
def pR(K:aA):TS:=(dy (dG (c9 jd (cq 5) (tC (.int 6)))) (sV K) (vC K))
def vB(K:aA):TS:=(dy (jt (dG (c9 i0 (cq 5) (tC (.int 5)))) (dG (c9 i0 (gG (jD K) (cp (cq 7) cy)) (tC (.int 3))))) (sW K) (pR K))
def pQ(K:aA):TS:=(dy (dG (c9 jd (cq 5) (tC (.int 3)))) (sX K) (vB K))
def mI(K:aA):TS:=(dy (AL (dG (c9 i0 (cq 5) (tC (.int 0)))) (jt (dG (c9 i0 (gG (jD K) (cp (cq 7) cy)) (tC (.int 1)))) (dG (sk jd jd (tC (.int 2)) (cq 5) (tC (.int 7)))))) (sY K) (pQ K))
def pP(K:aA):TS:=(c8 (dE (c9 nR (cq 3) (tC (.int 9))) (c5 4)) (c8 (dE (c9 fP (cq 3) (tC (.int 9))) (c5 5)) (c8 (dE (c9 (gA K) (dh (cp (tC (.str "sab")) (cp (tC (.str "tab")) (cp (tC (.str "sob")) (cp (tC (.str "sat")) cy))))) (c9 fP (cq 4) (tC (.int 4)))) (c5 6)) (c8 (yb K) (c8 (dE (kP (kQ K) (cq 2) (eL (kq fM (tC (.int 3)))) eN) (c5 7)) (mI K))))))
def vA(K:aA):TS:=(c8 (dE (nJ K "list" nQ (cq 2)) (c5 12)) (dj (kD K "list" eX (cq 2) (cp (eC (cp (tC (.str "sum")) (cp (nJ K "list" nQ (cq 2)) (cp (cq 12) cy)))) cy))))
def AF(K:aA):TS:=(c8 (dE (dh (cp (eC (cp (tC (.str "name")) (cp (tC (.str "sab")) cy))) cy)) (c5 2)) (c8 (vL (uF K (cq 0)) (c5 3) (pP K)) (c8 (fu (dG (c9 ol (gG (jD K) (cp (cq 2) cy)) (tC (.int 1)))) (vA K)) (e9 (c9 (gA K) (cq 2) (tC (.int 0)))))))
def yJ(K:aA)(S:Str→Nat→Prop):TS:=(e9 (eV (iw K S) [] E0 (cp (cq 0) (cp (dh (cp (eC (cp (tC (.str "st")) (cp (tC (.int 2)) cy))) (cp (eC (cp (tC (.str "sta")) (cp (tC (.int 1)) cy))) (cp (eC (cp (tC (.str "st")) (cp (tC (.int 2)) cy))) (cp (eC (cp (tC (.str "star")) (cp (tC (.int 0)) cy))) cy))))) cy))))
end SW
namespace SW
open PySem L2
variable {K:aA}{vs:List V}{H:Hp}{Q:VK}{E:XK}
abbrev fC(Q:VK):fL:={nx:=λ_ H'=>Q .non H',rt:=Q}
theorem CO(h:pj vs H Q E):AI K (fC Q) (start ["_law_cell","_law_size"] vs) H:=by
 obtain⟨c,rfl,k⟩:=h;refine⟨⟨by decide,by decide⟩,⟨by decide,by decide,by decide⟩,(show(0:Int)<10^(59:Int).toNat by decide),?_⟩;refine⟨fU,λp hp=>?_⟩;have h2:0≤c%2∧c%2<2:=by lia
 obtain⟨v,hv,e⟩:=jn (xs:=[V.int 1,V.int (-1)]) h2.1 h2.2;refine⟨(show(0:Int)<2 by decide),dv.of c6,e,?_⟩;have b0:=bG (c / 2) (show(10:Int)^(59:Int).toNat≠0 by decide);have b1:=bh (c / 2) (show(0:Int)<10^(59:Int).toNat by decide);have e59:(10:Int)^(59:Int).toNat=10^59:=rfl;rw[e59]at b0 b1;rcases aF.mp hv with rfl|hv
 ·refine⟨.inr ⟨by decide,by decide⟩,k _ _ ?_ (dW hp)⟩;rw[e59];generalize c / 2%10^59=z at *;generalize (10:Int)^59=y at *;lia
 ·rw[aT]at hv;subst hv;refine⟨.inr ⟨by decide,by decide⟩,k _ _ ?_ (dW hp)⟩;rw[e59];generalize c / 2%10^59=z at *;generalize (10:Int)^59=y at *;lia
theorem DJ(h:mP vs H Q E):CH K (fC Q) (start ["_law_cell","_law_left","_law_word"] vs) H:=by
 obtain⟨c,rfl,k⟩:=h;refine⟨_,rfl,⟨by decide,by decide,by decide⟩,(show(0:Int)<10^(39:Int).toNat by decide),?_⟩;refine⟨λm σ H'=>H'=H∧∃(l:Int)(x:Str),σ=[some (.int c),some (.int l),some (.str x)]∧jV l x∧-1≤l∧(m:Int)=l+1,⟨((if c<0 then -c else c)%10^(39:Int).toNat+1).toNat,rfl,_,_,rfl,lz _,?_,?_⟩,?_⟩
 ·have:=bG (if c<0 then -c else c) (show(10:Int)^(39:Int).toNat≠0 by decide);lia
 ·have:=bG (if c<0 then -c else c) (show(10:Int)^(39:Int).toNat≠0 by decide);exact Int.toNat_of_nonneg (by lia)
 ·rintro m σ H' ⟨rfl,l,x,rfl,hw,hl1,hm⟩;refine⟨_,rfl,?_⟩;refine gS (λhl=>?_) (λhl=>?_)
  ·have hl:(0:Int)≤l:=of_decide_eq_true hl;refine⟨λσ' H''=>∃m',m'<m∧(H''=H'∧∃(l:Int)(x:Str),σ'=[some (.int c),some (.int l),some (.str x)]∧jV l x∧-1≤l∧(m':Int)=l+1),λ_ _ h=>h,?_⟩;obtain⟨ch,hc,e⟩:=rM l;refine⟨(show(0:Int)<26 by decide),_,_,ch,rfl,rfl,fU (by decide),e,mB hw,?_⟩;refine⟨⟨by decide,by decide⟩,?_⟩;refine⟨(l / 26-1+1).toNat,?_,rfl,_,_,rfl,nC hw hl hc,?_,?_⟩
   ·lia
   ·lia
   ·lia
  ·have hl:¬(0:Int)≤l:=λz=>hl (decide_eq_true z);exact(k _ (oN hw hl))
end SW
namespace SW
open PySem L2
theorem rO(h:kind t="name"):∃x,t=.name x:=by
 cases t with
 | name x=>exact⟨x,rfl⟩
 | _=>simp only[kind]at h;exact absurd h (by decide)
theorem qV(t:T)(us:List V):oF (hd t++us) 0=some (.str (kind t)):=by cases t<;>exact cz (j:=0) rfl
theorem kS(a b:List T):ff (a++b)=ff a+ff b:=by simp[ff]
theorem iK(h:l≠[]):∃us u,l=us++[u]:=⟨l.dropLast,l.getLast h,(cb h).symm⟩
theorem jO:(us++[u])[(us++[u]).length-1]?=some u:=by simp
theorem iS:(us++[u]).dropLast=us:=by simp
end SW
namespace SW
open PySem L2
variable {K:aA}{vs:List V}{H:Hp}{Q:VK}{E:XK}
theorem uV(xs:List V)(k:Nat)(hk:0<k):iE xs (some (-(k:Int))) none=xs.drop (xs.length-k):=by
 unfold iE HT.jB;have h1:(-(k:Int))<0:=by lia
 simp only[h1,if_true];have e:(-(k:Int)+(xs.length:Int)).toNat=xs.length-k:=by lia
 rw[e,cA];rw[aO];lia
theorem kA(xs:List V)(k:Nat)(hk:0<k):iE xs none (some (-(k:Int)))=xs.take (xs.length-k):=by
 unfold iE HT.jB;have h1:(-(k:Int))<0:=by lia
 simp only[h1,if_true,aw,bS];have e:(-(k:Int)+(xs.length:Int)).toNat=xs.length-k:=by lia
 rw[e]
theorem uU(xs:List V)(k:Nat)(hk:k≤xs.length):iE xs (some (k:Int)) none=xs.drop k:=by unfold iE;rw[HT.BV,HT.AO,be hk,cA];rw[aO];lia
theorem zc(xs:List V)(k:Nat)(hk:k≤xs.length):iE xs none (some (k:Int))=xs.take k:=by unfold iE;rw[HT.BV,HT.AO,be hk,aw,bS]
theorem fj.split:∀{us:List V}{ts:List T}{ws:List V},fj H ts (us++ws)→∃ta tb,ts=ta++tb∧fj H ta us∧fj H tb ws
 | [],ts,ws,h=>⟨[],ts,rfl,.nil,h⟩
 | u::us,_,ws,.cons a r=>by obtain⟨ta,tb,rfl,h1,h2⟩:=fj.split (us:=us) r;exact⟨_::ta,tb,rfl,.cons a h1,h2⟩
theorem oE(xs:List V)(a b:V):oF (xs++[a,b]) (-2)=some a:=by
 unfold oF wC;have h1:¬(0:Int)≤-2:=by decide
 have h2 : -((xs++[a,b]).length:Int)≤-2:=by simp;lia
 rw[if_neg h1,if_pos h2];have e:(-2+((xs++[a,b]).length:Int)).toNat=xs.length:=by simp;lia
 show(xs++[a,b])[(-2+((xs++[a,b]).length:Int)).toNat]?=some a;rw[e];simp
theorem lJ(xs:List V)(a b:V):oF (xs++[a,b]) (-1)=some b:=by have:=uc (xs++[a]) b;rw[ah]at this;exact this
section
variable {S:Str→Nat→Prop}{H₀ H1:Hp}{n:Nat}{l p:Addr}{ts:List T}{t:T}{v:V}
theorem iU.mono(P:iU S H₀ H n l vs ts)(s:dQ H H1):iU S H₀ H1 n l vs ts:=⟨P.same.trans s,P.new,s _ _ P.at_,P.den.mono (dI s),P.sz,P.one,P.wt⟩
theorem iU.push(P:iU S H₀ H n l vs ts)(hd:gU H t v)(wt:WG S t)(hs:t.size=1):iU S H₀ (dc H l (.lst (vs++[v]))) (n+1) l (vs++[v]) (ts++[t]):=by
 have tl:=fN (o:=.lst (vs++[v])) P.at_;refine⟨dw P.same P.new,P.new,c6,(P.den.mono tl).append (.cons (hd.mono tl) .nil),?_,by simp,λu hu=>?_⟩
 ·rw[gP,iL,lX];have:=P.sz;lia
 ·rcases aS.mp hu with z|z
  ·exact P.wt u z
  ·rw[aT]at z;subst z;exact wt
theorem iU.fold(P:iU S H₀ H n l (us++ws) (ta++tb))(s:dQ H H1)(hp:H1 p=none)(d:fj H ta us)(hd:gU H1 t v)(wt:WG S t)(hs:t.size=fA tb+1):iU S H₀ (dc H1 p (.lst (us++[v]))) (n+1) p (us++[v]) (ta++[t]):=by
 have tl:=xM (o:=.lst (us++[v])) hp;refine⟨(P.same.trans s).trans (dW hp),(P.same.trans s).free hp,c6,((d.mono (dI s)).mono tl).append (.cons (hd.mono tl) .nil),?_,by simp,λu hu=>?_⟩
 ·have:=P.sz;rw[gP]at this⊢;rw[iL,lX];lia
 ·rcases aS.mp hu with z|z
  ·exact P.wt u (aj _ z)
  ·rw[aT]at z;subst z;exact wt
def ue(S:Str→Nat→Prop)(H₀:Hp)(c st:Addr)(n:Nat)(σ:L2.St)(H:Hp):Prop:=
 ∃l vs ts j3 j4 j5 j6 j7 j8 j9 j10 j11 j12,σ=[some (.ref c),some (.ref st),some (.ref l),j3,j4,j5,j6,j7,j8,j9,j10,j11,j12]∧iU S H₀ H n l vs ts
end
section
variable {S:Str→Nat→Prop}{H₀:Hp}{n:Nat}{l c st li:Addr}{ts:List T}{D:fL}{cell rest way:Int}{x:Str}{j8 j9 j10 j11 j12:Option V}
theorem jc(P:iU S H₀ H n l vs ts)(hn:n≤1000)(hD:∀σ H,ue S H₀ c st (n+1) σ H→D.nx σ H):
  sY K D [some (.ref c),some (.ref st),some (.ref l),some (.int cell),some (.int rest),some (.int way),some (.str x),some (.ref li),j8,j9,j10,j11,j12] H:=by
 refine⟨.inl ⟨rfl,_,dv.of P.at_⟩,?_⟩;refine⟨(show(0:Int)<4 by decide),rest,rfl,λz H1 hz s1=>⟨fU,dZ λq H2 hq zq hq1=>?_⟩⟩;have P1:=(P.mono s1).mono zq;refine⟨(show(0:Int)<5 by decide),rfl,.inr ⟨_,rfl,?_⟩⟩;have hi:0≤(if decide (V.int (rest%5)=V.int 3)=true then(1:Int)else 0)∧(if decide (V.int (rest%5)=V.int 3)=true then(1:Int)else 0)<([V.int (rest%4-1),V.int z]:List V).length:=by
  constructor
  ·split<;>decide
  ·show _<((2:Nat):Int);split<;>decide
 obtain⟨u,hu,e⟩:=jn hi.1 hi.2;obtain⟨y,rfl,hy⟩:∃y,u=.int y∧(-(10^60)<y∧y<10^60):=by
  have e60:(10:Int)^60=1000000000000000000000000000000000000000000000000000000000000:=by decide
  have e59:(10:Int)^59=100000000000000000000000000000000000000000000000000000000000:=by decide
  rw[e60];rw[e59]at hz;rcases aF.mp hu with rfl|hu
  ·exact⟨_,rfl,by lia⟩
  ·rw[aT]at hu;exact⟨_,hu,by lia⟩
 refine⟨dv.of hq1,e,fU,λp hp=>?_⟩;have P2:=P1.mono (dW (o:=.tup [.str "number",.int y]) hp);have hl:vs.length≤n:=by rw[P.den.length];exact aE (di ts) P.sz
 refine⟨P2.at_,by rw[sizeLine_eq];lia,hD _ _ ⟨l,vs++[.ref p],ts++[.num y],_,_,_,_,_,_,_,_,_,_,rfl,P2.push (t:=.num y) (v:=.ref p) ⟨p,rfl,c6⟩ hy rfl⟩⟩
theorem oh(P:iU S H₀ H n l vs ts)(hn:n≤1000)(hx:Wg x)(hD:∀σ H,ue S H₀ c st (n+1) σ H→D.nx σ H):
  sX K D [some (.ref c),some (.ref st),some (.ref l),some (.int cell),some (.int rest),some (.int way),some (.str x),some (.ref li),j8,j9,j10,j11,j12] H:=by
 refine⟨.inl ⟨rfl,_,dv.of P.at_⟩,fU,λp hp=>?_⟩;have P2:=P.mono (dW (o:=.tup [.str "name",.str x]) hp);have hl:vs.length≤n:=by rw[P.den.length];exact aE (di ts) P.sz
 refine⟨P2.at_,by rw[sizeLine_eq];lia,hD _ _ ⟨l,vs++[.ref p],ts++[.name x],_,_,_,_,_,_,_,_,_,_,rfl,P2.push (t:=.name x) (v:=.ref p) ⟨p,rfl,c6⟩ hx rfl⟩⟩
theorem mY(P:iU S H₀ H n l (us++[a,b,d]) (ta++[t1,t2,t3]))(hn:n≤1000)(d0:fj H ta us)(d1:gU H t1 a)(d2:gU H t2 b)(d3:gU H t3 d)(hli:H li=some (.lst [a,b,d]))(hD:∀σ H,ue S H₀ c st (n+1) σ H→D.nx σ H):
  sW K D [some (.ref c),some (.ref st),some (.ref l),some (.int cell),some (.int rest),some (.int way),some (.str x),some (.ref li),j8,j9,j10,j11,j12] H:=by
 refine⟨dv.of P.at_,λq hq=>?_⟩;rw[show(-3:Int)=-((3:Nat):Int)from rfl,kA _ 3 (by decide),show(us++[a,b,d]).length-3=us.length by simp,bT];have s1:=dW (o:=.lst us) hq;have g1:(dc H q (.lst us)) q=some (.lst us):=c6;generalize dc H q (.lst us)=G1 at s1 g1⊢;refine⟨dv.of (s1 _ _ hli),rfl,dv.of (s1 _ _ hli),rfl,dv.of (s1 _ _ hli),rfl,fU,dZ λp G2 hp s2 g2=>?_⟩;refine⟨fU,dZ λq2 G3 hq2 s3 g3=>?_⟩;have sA:=s1.trans (s2.trans s3);have hl:(us++[a,b,d]).length≤n:=by rw[P.den.length];exact aE (di _) P.sz
 rw[aD]at hl;refine⟨s3 _ _ (s2 _ _ g1),g3,by rw[sizeLine_eq];simp;lia,λp3 hp3=>hD _ _ ⟨p3,us++[.ref p],ta++[.cho t1 t2 t3],_,_,_,_,_,_,_,_,_,_,rfl,P.fold (t:=.cho t1 t2 t3) (v:=.ref p) sA hp3 d0 ⟨p,a,b,d,rfl,s3 _ _ g2,d1.mono (dI sA),d2.mono (dI sA),d3.mono (dI sA)⟩ ⟨P.wt _ (by simp),P.wt _ (by simp),P.wt _ (by simp)⟩ (by simp[T.size,fA];lia)⟩⟩;simp
theorem rA(P:iU S H₀ H n l (us++[a,b]) (ta++[t1,t2]))(hn:n≤1000)(d0:fj H ta us)(d1:gU H t1 a)(d2:gU H t2 b)(hli:H li=some (.lst (zs++[a,b])))(hD:∀σ H,ue S H₀ c st (n+1) σ H→D.nx σ H):
  sV K D [some (.ref c),some (.ref st),some (.ref l),some (.int cell),some (.int rest),some (.int way),some (.str x),some (.ref li),j8,j9,j10,j11,j12] H:=by
 refine⟨dv.of P.at_,λq hq=>?_⟩;rw[show(-2:Int)=-((2:Nat):Int)from rfl,kA _ 2 (by decide),show(us++[a,b]).length-2=us.length by simp,bT];have s1:=dW (o:=.lst us) hq;have g1:(dc H q (.lst us)) q=some (.lst us):=c6;generalize dc H q (.lst us)=G1 at s1 g1⊢;refine⟨fU,dZ λq1 G1b hq1 s1b g1b=>?_⟩;have sB:=s1.trans s1b;have hw:0≤way%2∧way%2<2:=by lia
 obtain⟨u,hu,e⟩:=jn (xs:=[V.str "sum",V.str "less"]) hw.1 hw.2;refine⟨(show(0:Int)<2 by decide),dv.of g1b,e,?_⟩;refine⟨dv.of (sB _ _ hli),oE zs a b,dv.of (sB _ _ hli),lJ zs a b,fU,dZ λp G2 hp s2 g2=>?_⟩;refine⟨fU,dZ λq2 G3 hq2 s3 g3=>?_⟩;have sA:=sB.trans (s2.trans s3);have hl:(us++[a,b]).length≤n:=by rw[P.den.length];exact aE (di _) P.sz
 rw[aD]at hl;have e1:=d1.mono (dI sA);have e2:=d2.mono (dI sA);have w1:WG S t1:=P.wt _ (by simp);have w2:WG S t2:=P.wt _ (by simp);refine⟨s3 _ _ (s2 _ _ (s1b _ _ g1)),g3,by rw[sizeLine_eq];simp;lia,λp3 hp3=>?_⟩;rcases aF.mp hu with rfl|hu
 ·exact hD _ _ ⟨p3,us++[.ref p],ta++[.sum t1 t2],_,_,_,_,_,_,_,_,_,_,rfl,P.fold (t:=.sum t1 t2) (v:=.ref p) sA hp3 d0 ⟨p,a,b,rfl,s3 _ _ g2,e1,e2⟩ ⟨w1,w2⟩ (by simp[T.size,fA])⟩
 ·rw[aT]at hu;subst hu;exact hD _ _ ⟨p3,us++[.ref p],ta++[.less t1 t2],_,_,_,_,_,_,_,_,_,_,rfl,P.fold (t:=.less t1 t2) (v:=.ref p) sA hp3 d0 ⟨p,a,b,rfl,s3 _ _ g2,e1,e2⟩ ⟨w1,w2⟩ (by simp[T.size,fA])⟩
 all_goals simp
end
theorem o7(h:(if false=true then !o9 (V.str (kind t)) [V.str "sum",V.str "less"]else o9 (V.str (kind t)) [V.str "sum",V.str "less"])=true):(∃a b,t=.sum a b)∨∃a b,t=.less a b:=by
 rw[if_neg aJ]at h;cases t with
 | sum a b=>exact .inl ⟨a,b,rfl⟩
 | less a b=>exact .inr ⟨a,b,rfl⟩
 | _=>simp only[kind]at h;exact absurd h (by decide)
section
variable {S:Str→Nat→Prop}{H₀:Hp}{n:Nat}{l c st li:Addr}{ts:List T}{D:fL}{cell rest way:Int}{x:Str}{j8 j9 j10 j11 j12:Option V}
theorem rB(P:iU S H₀ H n l (us++[a,b]) (ta++[t1,t2]))(hn:n≤1000)(d0:fj H ta us)(d1:gU H t1 a)(d2:gU H t2 b)(hli:H li=some (.lst (zs++[a,b])))(hx:Wg x)(hD:∀σ H,ue S H₀ c st (n+1) σ H→D.nx σ H):
  pT K D [some (.ref c),some (.ref st),some (.ref l),some (.int cell),some (.int rest),some (.int way),some (.str x),some (.ref li),j8,j9,j10,j11,j12] H:=by
 have w1:WG S t1:=P.wt _ (by simp);have w2:WG S t2:=P.wt _ (by simp);have last:∀(y:Str)(vl:V)(G:Hp),Wg y→dQ H G→
   (dE (c9 h9 (kP (kQ K) (cq 2) eN (eL (kq fM (tC (.int 2))))) (dh (cp (eC (cp (tC (.str "let")) (cp (cq 6) (cp (c9 (gA K) (cq 7) (kq fM (tC (.int 2)))) (cp (c9 (gA K) (cq 7) (kq fM (tC (.int 1)))) cy))))) cy))) (c5 2)) D
    [some (.ref c),some (.ref st),some (.ref l),some (.int cell),some (.int rest),some (.int way),some (.str y),some (.ref li),some vl,j9,j10,j11,j12] G:=by
  intro y vl G hy sG;have PG:=P.mono sG;refine⟨dv.of PG.at_,λq hq=>?_⟩;rw[show(-2:Int)=-((2:Nat):Int)from rfl,kA _ 2 (by decide),show(us++[a,b]).length-2=us.length by simp,bT];have s1:=dW (o:=.lst us) hq;have g1:(dc G q (.lst us)) q=some (.lst us):=c6;generalize dc G q (.lst us)=G1 at s1 g1⊢;have hli1:=s1 _ _ (sG _ _ hli);refine⟨dv.of hli1,oE zs a b,dv.of hli1,lJ zs a b,fU,dZ λp G2 hp s2 g2=>?_⟩;refine⟨fU,dZ λq2 G3 hq2 s3 g3=>?_⟩;have sA:=s1.trans (s2.trans s3);have hl:(us++[a,b]).length≤n:=by rw[P.den.length];exact aE (di _) P.sz
  rw[aD]at hl;have e1:=(d1.mono (dI sG)).mono (dI sA);have e2:=(d2.mono (dI sG)).mono (dI sA);refine⟨s3 _ _ (s2 _ _ g1),g3,by rw[sizeLine_eq];simp;lia,λp3 hp3=>?_⟩;exact hD _ _ ⟨p3,us++[.ref p],ta++[.lt y t1 t2],_,_,_,_,_,_,_,_,_,_,rfl,PG.fold (t:=.lt y t1 t2) (v:=.ref p) sA hp3 (d0.mono (dI sG)) ⟨p,a,b,rfl,s3 _ _ g2,e1,e2⟩ ⟨hy,w1,w2⟩ (by simp[T.size,fA])⟩;simp
 have rest2:∀(tl:T)(vl:V)(G:Hp),dQ H G→gU G tl vl→WG S tl→
   (c8 (pU K) (dE (c9 h9 (kP (kQ K) (cq 2) eN (eL (kq fM (tC (.int 2))))) (dh (cp (eC (cp (tC (.str "let")) (cp (cq 6) (cp (c9 (gA K) (cq 7) (kq fM (tC (.int 2)))) (cp (c9 (gA K) (cq 7) (kq fM (tC (.int 1)))) cy))))) cy))) (c5 2))) D
    [some (.ref c),some (.ref st),some (.ref l),some (.int cell),some (.int rest),some (.int way),some (.str x),some (.ref li),some vl,j9,j10,j11,j12] G:=by
  intro tl vl G sG dl wl;obtain⟨pl,ks,rfl,hpl,_⟩:=dl.open;refine⟨eM.of hpl,qV tl ks,rfl,_,rfl,?_⟩;refine gS (λhk=>?_) (λhk=>?_)
  ·obtain⟨y,rfl⟩:=rO (V.str.inj (of_decide_eq_true hk));refine⟨(show(0:Int)<3 by decide),_,rfl,?_⟩;refine gS (λ_=>?_) (λ_=>?_)
   ·exact⟨eM.of hpl,cz (j:=1) rfl,last y _ G wl sG⟩
   ·exact last x _ G hx sG
  ·exact e7 (last x _ G hx sG)
 obtain⟨pb,ks,rfl,hpb,_⟩:=d2.open;refine⟨dv.of hli,lJ zs a _,?_⟩;refine⟨eM.of hpb,qV t2 ks,fU,dZ λq G1 hq s1 g1=>?_⟩;refine⟨.inl (dv.of g1),rfl,rfl,_,rfl,?_⟩;refine gS (λhk=>?_) (λhk=>?_)
 ·rcases o7 hk with⟨a',b',rfl⟩|⟨a',b',rfl⟩
  ·obtain⟨p',u1,u2,e,h3,e1,e2⟩:=d2;cases e;exact⟨eM.of (s1 _ _ h3),rfl,rest2 b' u2 G1 s1 (e2.mono (dI s1)) w2.2⟩
  ·obtain⟨p',u1,u2,e,h3,e1,e2⟩:=d2;cases e;exact⟨eM.of (s1 _ _ h3),rfl,rest2 b' u2 G1 s1 (e2.mono (dI s1)) w2.2⟩
 ·exact rest2 t2 _ G1 s1 (d2.mono (dI s1)) w2
theorem sr(hm:m≤2)(hS:S nm m)(hl:ws.length=m)(d:fj H tb ws)(wt:∀t∈tb,WG S t)(hp:H p=some (.tup ([.str "stamp",.str nm]++ws))):
  ∃t,gU H t (.ref p)∧WG S t∧t.size=fA tb+1:=by
 cases d with
 | nil=>subst hl;exact⟨.st0 nm,⟨p,rfl,hp⟩,hS,rfl⟩
 | @cons t1 v1 tb ws a r=>
  cases r with
  | nil=>subst hl;exact⟨.st1 nm t1,⟨p,v1,rfl,hp,a⟩,⟨hS,wt _ (by simp)⟩,by simp[T.size,fA]⟩
  | @cons t2 v2 tb ws b r=>
   cases r with
   | nil=>subst hl;exact⟨.st2 nm t1 t2,⟨p,v1,v2,rfl,hp,a,b⟩,⟨hS,wt _ (by simp),wt _ (by simp)⟩,by simp[T.size,fA]⟩
   | cons _ _=>simp at hl;lia
theorem nO(P:iU S H₀ H n l vs ts)(hn:n≤1000)(hst:H st=some (.lst xs))(hxs:xs≠[])(hS:gf S H xs)(hD:∀σ H,ue S H₀ c st (n+1) σ H→D.nx σ H)(hD0:∀σ H,ue S H₀ c st n σ H→D.nx σ H):
  pS K D [some (.ref c),some (.ref st),some (.ref l),some (.int cell),some (.int rest),some (.int way),some (.str x),some (.ref li),j8,j9,j10,j11,j12] H:=by
 have hpos:(0:Int)<(xs.length:Int):=by
  cases xs with
  | nil=>exact absurd rfl hxs
  | cons _ _=>simp
 have hr:=bG rest (Int.ne_of_gt hpos);have hr2:=bh rest hpos;obtain⟨v,hv,e⟩:=jn hr hr2;obtain⟨q,nm,m,rfl,hq,hm,hSm⟩:=hS v hv;refine⟨.inl (dv.of hst),hpos,dv.of hst,e,eM.of hq,rfl,rfl,?_⟩;refine⟨.inl (dv.of P.at_),_,_,rfl,?_⟩;refine⟨.inl (dv.of hst),hpos,dv.of hst,e,eM.of hq,cz (j:=1) rfl,rfl,_,rfl,?_⟩;refine gS (λhk=>?_) (λhk=>?_)
 ·have hk:(if(vs.length:Int)<(m:Int)then(vs.length:Int)else(m:Int))=m:=V.int.inj (of_decide_eq_true hk);have hml:m≤vs.length:=by
   split at hk
   ·lia
   ·lia
  rw[hk];obtain⟨us,ws,rfl,hws⟩:∃us ws,vs=us++ws∧ws.length=m:=⟨vs.take (vs.length-m),vs.drop (vs.length-m),(cB _ _).symm,by rw[aO];lia⟩;obtain⟨ta,tb,rfl,d0,d1⟩:=P.den.split;have hel:((us++ws).length:Int)-(m:Int)=((us.length:Nat):Int):=by rw[aD];lia
  have hl:(us++ws).length≤n:=by rw[P.den.length];exact aE (di _) P.sz
  rw[aD]at hl;refine⟨fU,dZ λq1 G1 hq1 s1 g1=>?_⟩;refine⟨.inl (dv.of (s1 _ _ P.at_)),dv.of (s1 _ _ P.at_),λq2 hq2=>?_⟩;rw[hel,uU _ _ (by simp),ax];have s2:=dW (o:=.lst ws) hq2;have g2:(dc G1 q2 (.lst ws)) q2=some (.lst ws):=c6;generalize dc G1 q2 (.lst ws)=G2 at s2 g2⊢;refine⟨s2 _ _ g1,g2,by rw[sizeLine_eq];simp;lia,dZ λq3 G3 hq3 s3 g3=>?_⟩;refine⟨q3,_,rfl,.inl ⟨dv.of g3,dZ λq4 G4 hq4 s4 g4=>?_⟩⟩;have sB:=(s1.trans s2).trans (s3.trans s4);refine⟨.inl (dv.of (sB _ _ P.at_)),dv.of (sB _ _ P.at_),λq5 hq5=>?_⟩;rw[hel,zc _ _ (by simp),bT];have s5:=dW (o:=.lst us) hq5;have g5:(dc G4 q5 (.lst us)) q5=some (.lst us):=c6;generalize dc G4 q5 (.lst us)=G5 at s5 g5⊢;refine⟨fU,dZ λq6 G6 hq6 s6 g6=>?_⟩;have sA:=sB.trans (s5.trans s6);obtain⟨t,dt,wt,hs⟩:=sr hm hSm hws (d1.mono (dI sA)) (λt ht=>P.wt t (aP _ ht)) (s6 _ _ (s5 _ _ g4));refine⟨s6 _ _ g5,g6,by rw[sizeLine_eq];simp;lia,λp3 hp3=>?_⟩;exact hD _ _ ⟨p3,us++[.ref q4],ta++[t],_,_,_,_,_,_,_,_,_,_,rfl,P.fold sA hp3 d0 dt wt hs⟩
  all_goals rfl
 ·exact hD0 _ _ ⟨l,vs,ts,_,_,_,_,_,_,_,_,_,_,rfl,P⟩
end
theorem ki:∀{l:List α},2≤l.length→∃us a b,l=us++[a,b]:=λ{l} h=>by
 have hne:l≠[]:=by intro e;subst e;simp at h
 obtain⟨us,b,rfl⟩:=iK hne;have hne:us≠[]:=by intro e;subst e;simp at h
 obtain⟨us,a,rfl⟩:=iK hne;exact⟨us,a,b,by simp⟩
theorem oQ:∀{l:List α},3≤l.length→∃us a b c,l=us++[a,b,c]:=λ{l} h=>by
 have hne:l≠[]:=by intro e;subst e;simp at h
 obtain⟨us,c,rfl⟩:=iK hne;obtain⟨us,a,b,rfl⟩:=ki (l:=us) (by simp at h;lia);exact⟨us,a,b,c,by simp⟩
section
variable {S:Str→Nat→Prop}{H₀:Hp}{n:Nat}{l c st li:Addr}{ts:List T}{D:fL}{cell rest way:Int}{x:Str}{j8 j9 j10 j11 j12:Option V}
theorem tG(P:iU S H₀ H n l vs ts)(hn:n≤1000)(hli:H li=some (.lst (vs.drop (vs.length-3))))(hw:0≤way∧way<9)(hx:Wg x)(hst:H st=some (.lst xs))(hS:gf S H xs)
  (hD:∀σ H,ue S H₀ c st (n+1) σ H→D.nx σ H):
  mI K D [some (.ref c),some (.ref st),some (.ref l),some (.int cell),some (.int rest),some (.int way),some (.str x),some (.ref li),j8,j9,j10,j11,j12] H:=by
 have hD0:∀σ H,ue S H₀ c st n σ H→D.nx σ H:=λσ H h=>hD σ H (by
  obtain⟨l,vs,ts,j3,j4,j5,j6,j7,j8,j9,j10,j11,j12,e,P⟩:=h;exact⟨l,vs,ts,j3,j4,j5,j6,j7,j8,j9,j10,j11,j12,e,P.same,P.new,P.at_,P.den,by have:=P.sz;lia,P.one,P.wt⟩)
 have hlen:(vs.drop (vs.length-3)).length=min 3 vs.length:=by rw[aO];lia
 have h1:1≤vs.length:=by
  rw[P.den.length];cases ts with
  | nil=>exact absurd rfl P.one
  | cons _ _=>simp
 have two:2≤vs.length→∃us a b ta t1 t2,vs=us++[a,b]∧ts=ta++[t1,t2]∧fj H ta us∧gU H t1 a∧gU H t2 b∧∃zs,vs.drop (vs.length-3)=zs++[a,b]:=λh2=>by
  obtain⟨us,a,b,rfl⟩:=ki h2;obtain⟨ta,tb,rfl,d0,d1⟩:=P.den.split;cases d1 with
  | cons e1 r=>
  cases r with
  | cons e2 r=>
  cases r;refine⟨us,a,b,ta,_,_,rfl,rfl,d0,e1,e2,us.drop (us.length-1),?_⟩;rw[show(us++[a,b]).length-3=us.length-1 by simp,List.drop_append_of_le_length (by lia)]
 have other:way≠0→((vs.drop (vs.length-3)).length=1→¬(2<way∧way<7))→
   pQ K D [some (.ref c),some (.ref st),some (.ref l),some (.int cell),some (.int rest),some (.int way),some (.str x),some (.ref li),j8,j9,j10,j11,j12] H:=by
  intro h0 hno;have hge:2<way→way<7→2≤vs.length:=λa b=>by
   rcases Nat.lt_or_ge vs.length 2 with z|z
   ·exact absurd ⟨a,b⟩ (hno (by rw[hlen];lia))
   ·exact z
  refine⟨_,rfl,?_⟩;refine gS (λh3=>oh P hn hx hD) (λh3=>?_);have h3:¬way<3:=λz=>h3 (decide_eq_true z);have low:pR K D [some (.ref c),some (.ref st),some (.ref l),some (.int cell),some (.int rest),some (.int way),some (.str x),some (.ref li),j8,j9,j10,j11,j12] H:=by
   refine⟨_,rfl,?_⟩;refine gS (λh6=>?_) (λh6=>?_)
   ·have h6:way<6:=of_decide_eq_true h6;obtain⟨us,a,b,ta,t1,t2,rfl,rfl,d0,d1,d2,zs,ez⟩:=two (hge (by lia) (by lia));rw[ez]at hli;exact rA P hn d0 d1 d2 hli hD
   ·have h6:¬way<6:=λz=>h6 (decide_eq_true z);refine⟨rfl,_,rfl,?_⟩;refine gS (λh7=>?_) (λh7=>?_)
    ·have h7:way=6:=V.int.inj (of_decide_eq_true h7);obtain⟨us,a,b,ta,t1,t2,rfl,rfl,d0,d1,d2,zs,ez⟩:=two (hge (by lia) (by lia));rw[ez]at hli;exact rB P hn d0 d1 d2 hli hx hD
    ·refine⟨fU,dZ λe G he s1 g1=>?_⟩;refine⟨dv.of (s1 _ _ hst),dv.of g1,_,rfl,?_⟩;have hSG:gf S G xs:=λv hv=>by obtain⟨q,nm,m,e1,e2,e3⟩:=hS v hv;exact⟨q,nm,m,e1,s1 _ _ e2,e3⟩
     refine gS (λhk=>?_) (λhk=>?_)
     ·exact nO (P.mono s1) hn (s1 _ _ hst) (by intro z;subst z;cases hk) hSG hD hD0
     ·exact hD0 _ _ ⟨l,vs,ts,_,_,_,_,_,_,_,_,_,_,rfl,P.mono s1⟩
  refine⟨rfl,_,rfl,?_⟩;refine gS (λh5=>?_) (λh5=>e7 low);refine⟨.inl (dv.of hli),rfl,_,rfl,?_⟩;refine gS (λhl3=>?_) (λhl3=>low);have hl3:(((vs.drop (vs.length-3)).length:Nat):Int)=3:=V.int.inj (of_decide_eq_true hl3);obtain⟨us,a,b,d,rfl⟩:=oQ (l:=vs) (by lia);obtain⟨ta,tb,rfl,d0,d1⟩:=P.den.split;cases d1 with
  | cons e1 r=>
  cases r with
  | cons e2 r=>
  cases r with
  | cons e3 r=>
  cases r;rw[show(us++[a,b,d]).length-3=us.length by simp,ax]at hli;exact mY P hn d0 e1 e2 e3 hli hD;rfl
 refine⟨rfl,_,rfl,?_⟩;refine gS (λh0=>gw (jc P hn hD)) (λh0=>?_);have h0:way≠0:=λz=>h0 (by rw[z];exact decide_eq_true rfl);refine⟨.inl (dv.of hli),rfl,_,rfl,?_⟩;refine gS (λhl1=>?_) (λhl1=>?_)
 ·refine⟨_,rfl,?_⟩;refine gS (λh2=>⟨_,rfl,?_⟩) (λh2=>⟨_,rfl,?_⟩)
  ·refine gS (λ_=>jc P hn hD) (λh7=>?_);exact other h0 λ_ z=>h7 (decide_eq_true z.2)
  ·exact e7 (other h0 λ_ z=>h2 (decide_eq_true z.1))
 ·refine e7 (other h0 λz=>?_);exact absurd (decide_eq_true (congrArg V.int (by rw[z];rfl))) hl1
theorem og(P:iU S H₀ H n l vs ts)(hn:n≤1000)(hst:H st=some (.lst xs))(hS:gf S H xs)(hD:∀σ H,ue S H₀ c st (n+1) σ H→D.nx σ H):
  pP K D [some (.ref c),some (.ref st),some (.ref l),some (.int cell),j4,j5,j6,j7,j8,j9,j10,j11,j12] H:=by
 refine⟨⟨by decide,by decide⟩,(show(0:Int)<9 by decide),fU,λq hq=>?_⟩;have hw:0≤cell%9∧cell%9<9:=by lia
 have s1:=dW (o:=.lst [.str "sab",.str "tab",.str "sob",.str "sat"]) hq;have g1:(dc H q (.lst [.str "sab",.str "tab",.str "sob",.str "sat"])) q=some (.lst [.str "sab",.str "tab",.str "sob",.str "sat"]):=c6;generalize dc H q (.lst [.str "sab",.str "tab",.str "sob",.str "sat"])=G at s1 g1⊢;have h4:0≤(cell / 9)%4∧(cell / 9)%4<4:=by lia
 obtain⟨v,hv,e⟩:=jn (xs:=[V.str "sab",V.str "tab",V.str "sob",V.str "sat"]) h4.1 h4.2;obtain⟨x,rfl,hx⟩:=ui hv;refine⟨(show(0:Int)<4 by decide),dv.of g1,e,?_⟩;have PG:=P.mono s1;have hSG:∀{G'},dQ G G'→gf S G' xs:=λ{G'} s v hv=>by obtain⟨q,nm,m,e1,e2,e3⟩:=hS v hv;exact⟨q,nm,m,e1,s _ _ (s1 _ _ e2),e3⟩
 have go:∀y,Wg y→(c8 (dE (kP (kQ K) (cq 2) (eL (kq fM (tC (.int 3)))) eN) (c5 7)) (mI K)) D [some (.ref c),some (.ref st),some (.ref l),some (.int cell),some (.int (cell / 9)),some (.int (cell%9)),some (.str y),j7,j8,j9,j10,j11,j12] G:=by intro y hy;refine⟨dv.of PG.at_,λli hli=>?_⟩;rw[show(-3:Int)=-((3:Nat):Int)from rfl,uV _ 3 (by decide)];have s2:=dW (o:=.lst (vs.drop (vs.length-3))) hli;exact tG (PG.mono s2) hn c6 hw hy (s2 _ _ (s1 _ _ hst)) (hSG s2) hD
 refine⟨(show(0:Int)<29 by decide),rfl,_,rfl,?_⟩;refine gS (λ_=>?_) (λ_=>go x hx);refine⟨⟨by decide,by decide⟩,_,rfl,λy hy=>?_⟩;refine⟨?_,go _ (Bp hy.1 hy.2)⟩;have:(("k":Str)).length=1:=by decide
 have:=hy.2;rw[sizeLine_eq];lia
structure Ce(S:Str→Nat→Prop)(H₀ H:Hp)(n:Nat)(l:Addr)(vs:List V)(ts:List T):Prop where
 same:dQ H₀ H
 new:H₀ l=none
 at_:H l=some (.lst vs)
 den:fj H ts vs
 sz:fA ts+ts.length≤2*n
 nm:ff ts≤n
 one:ts≠[]
 wt:∀t∈ts,WG S t
theorem kG:∀ts:List T,ff ts≤fA ts
 | []=>aB _
 | t::ts=>by have h:=kG ts;have h2:=t.names_len;simp only[ff,fA,af,List.sum_cons]at *;lia
inductive Cs(S':Str→Nat→Prop)(H:Hp)(c st:Addr)(ns:List Int):Nat→St→Hp→Prop where
 | mk{l:Addr}{vs:List V}{ts:List T}{j3 j4 j5 j6 j7 j8 j9 j10 j11 j12:Option V}{H':Hp}(h:Ce S' H H' (ns.length+1) l vs ts):Cs S' H c st ns ts.length [some (.ref c),some (.ref st),some (.ref l),j3,j4,j5,j6,j7,j8,j9,j10,j11,j12] H'
theorem ym(h:nK K S S' vs H Q E):AF K (fC Q) (start ["_law_cells","_law_stamps","_law_pile","_law_cell","_law_rest","_law_way","_law_word","_law_inner","_law_look","_law_name","_law_many","_law_made","_law_last"] vs) H:=by
 obtain⟨c,st,ns,xs,rfl,hc,hns,hst,hxl,hS,hSS,k⟩:=h;refine⟨fU,λp hp=>⟨fU,λl hl=>?_⟩⟩;have s1:=dW (o:=.tup [.str "name",.str "sab"]) hp;have s2:=dW (o:=.lst [.ref p]) hl;have P0:iU S H (dc (dc H p (.tup [.str "name",.str "sab"])) l (.lst [.ref p])) 1 l [.ref p] [.name "sab"]:=
  ⟨s1.trans s2,s1.free hl,c6,.cons ⟨p,rfl,s2 _ _ c6⟩ .nil,by simp[fA,T.size],by simp,λt ht=>by rw[aT]at ht;subst ht;exact rq⟩
 refine⟨(s1.trans s2).seq hc,uL (K:=K) (a:=c) (xs:=ns.map V.int) (λi σ H2=>ue S H c st (i+1) σ H2) ⟨l,_,_,_,_,_,_,_,_,_,_,_,_,rfl,P0⟩ (λi σ H2 _ hN=>?_) ?_ ?_⟩
 ·obtain⟨l,vs,ts,j3,j4,j5,j6,j7,j8,j9,j10,j11,j12,e,P⟩:=hN;exact P.same.seq hc
 ·rintro i y σ H2 hi ⟨l,vs,ts,j3,j4,j5,j6,j7,j8,j9,j10,j11,j12,rfl,P⟩;have hil:i<(ns.map V.int).length:=(bL.mp hi).1;rw[aV]at hil;obtain⟨z,rfl⟩:∃z,y=V.int z:=by
   rw[al]at hi;cases e:ns[i]? with
   | none=>rw[e]at hi;cases hi
   | some z=>rw[e]at hi;exact⟨z,(Option.some.inj hi).symm⟩
  refine og P (by lia) (P.same _ _ hst) (λv hv=>?_) (λσ H h=>h);obtain⟨q,nm,m,e1,e2,e3⟩:=hS v hv;exact⟨q,nm,m,e1,P.same _ _ e2,e3⟩
 ·rintro σ H2 ⟨l,vs,ts,j3,j4,j5,j6,j7,j8,j9,j10,j11,j12,rfl,P⟩;rw[aV]at P;refine⟨Cs S' H c st ns,⟨_,.mk (vs:=vs) (ts:=ts) ?_⟩,?_⟩
  ·refine⟨P.same,P.new,P.at_,P.den,?_,?_,P.one,λt ht=>hSS t (aE (lb ht) P.sz) (P.wt t ht)⟩
   ·have:=di ts;have:=P.sz;lia
   ·have:=kG ts;have:=P.sz;lia
  ·clear P j3 j4 j5 j6 j7 j8 j9 j10 j11 j12;rintro m σ H3 @⟨l,vs,ts,j3,j4,j5,j6,j7,j8,j9,j10,j11,j12,_,A⟩;refine⟨.inl (dv.of A.at_),_,rfl,?_⟩;refine gS (λh1=>?_) (λh1=>?_)
   ·have h1:(1:Int)<(vs.length:Int):=of_decide_eq_true h1;obtain⟨us,a,b,rfl⟩:=ki (l:=vs) (by lia);obtain⟨ta,tb,rfl,d0,d1⟩:=A.den.split;cases d1 with
    | @cons t1 _ _ _ e1 r=>
    cases r with
    | @cons t2 _ _ _ e2 r=>
    cases r;refine⟨Lt (Cs S' H c st ns) ((ta++[t1,t2]).length),λ_ _ h=>h,?_⟩;have ha:=A.at_;rw[show us++[a,b]=(us++[a])++[b] by simp]at ha;refine⟨.inl ⟨rfl,_,dv.of ha⟩,ha,jO,?_⟩;rw[iS];have tl1:=fN (o:=.lst (us++[a])) ha;have sO:=dw (o:=.lst (us++[a])) A.same A.new;have g1:(dc H3 l (.lst (us++[a]))) l=some (.lst (us++[a])):=c6;generalize dc H3 l (.lst (us++[a]))=G1 at tl1 sO g1⊢;refine⟨.inl ⟨rfl,_,dv.of g1⟩,.inl ⟨rfl,_,dv.of g1⟩,g1,jO,?_⟩;rw[iS];have tl2:=fN (o:=.lst us) g1;have sO2:=dw (o:=.lst us) sO A.new;have g2:(dc G1 l (.lst us)) l=some (.lst us):=c6;generalize dc G1 l (.lst us)=G2 at tl2 sO2 g2⊢;refine⟨fU,dZ λp G3 hp s3 g3=>?_⟩;have hlen:=d0.length;have hsz:=A.sz;rw[gP,aD]at hsz;have hq:=di ta;have tl4:=fN (o:=.lst (us++[.ref p])) (s3 _ _ g2);have tlA:=tl1.trans (tl2.trans ((dI s3).trans tl4));refine⟨s3 _ _ g2,by rw[sizeLine_eq];lia,(ta++[T.sum t1 t2]).length,by simp,.mk ⟨dw (sO2.trans s3) A.new,A.new,c6,(d0.mono tlA).append (.cons (show gU _ (T.sum t1 t2) (.ref p)from⟨p,a,b,rfl,tl4 _ _ g3,e1.mono tlA,e2.mono tlA⟩) .nil),?_,?_,by simp,λt ht=>?_⟩⟩
    ·rw[gP,aD];simp[fA,T.size]at hsz⊢;lia
    ·have:=A.nm;rw[kS]at this⊢;simp[ff,T.names]at this⊢;lia
    ·rcases aS.mp ht with z|z
     ·exact A.wt t (aj _ z)
     ·rw[aT]at z;subst z;exact⟨A.wt _ (by simp),A.wt _ (by simp)⟩
   ·have h1:¬(1:Int)<(vs.length:Int):=λz=>h1 (decide_eq_true z);have hlen:=A.den.length;obtain⟨t,rfl⟩:∃t,ts=[t]:=by
     cases ts with
     | nil=>exact absurd rfl A.one
     | cons t ts=>
      cases ts with
      | nil=>exact⟨t,rfl⟩
      | cons _ _=>simp at hlen;lia
    obtain⟨v,rfl⟩:∃v,vs=[v]:=by
     cases A.den with
     | cons a r=>cases r;exact⟨_,rfl⟩
    have d1:gU H3 t v:=by cases A.den with|cons a r=>exact a
    have hsz:=A.sz;have hnm:=A.nm;refine⟨dv.of A.at_,rfl,k t v H3 A.same d1 (A.wt t (by simp)) ?_ ?_⟩
    ·simp[fA]at hsz;lia
    ·simp[ff]at hnm;lia
theorem DH(h:iw K S vs H Q E):AF K (fC Q) (start ["_law_cells","_law_stamps","_law_pile","_law_cell","_law_rest","_law_way","_law_word","_law_inner","_law_look","_law_name","_law_many","_law_made","_law_last"] vs) H:=ym h.two
end
theorem BX(h:mS K vs H Q E):yJ K lw (fC Q) (start ["_law_cells"] vs) H:=by
 obtain⟨c,ns,rfl,hc,hns,k⟩:=h;refine⟨fU,λq1 h1=>⟨fU,λq2 h2=>⟨fU,λq3 h3=>⟨fU,λq4 h4=>⟨fU,λl hl=>?_⟩⟩⟩⟩⟩;have s1:=dW (o:=.tup [.str "st",.int 2]) h1;have g1:(dc H q1 (.tup [.str "st",.int 2])) q1=some (.tup [.str "st",.int 2]):=c6;generalize dc H q1 (.tup [.str "st",.int 2])=G1 at *;have s2:=dW (o:=.tup [.str "sta",.int 1]) h2;have g2:(dc G1 q2 (.tup [.str "sta",.int 1])) q2=some (.tup [.str "sta",.int 1]):=c6;generalize dc G1 q2 (.tup [.str "sta",.int 1])=G2 at *;have s3:=dW (o:=.tup [.str "st",.int 2]) h3;have g3:(dc G2 q3 (.tup [.str "st",.int 2])) q3=some (.tup [.str "st",.int 2]):=c6;generalize dc G2 q3 (.tup [.str "st",.int 2])=G3 at *;have s4:=dW (o:=.tup [.str "star",.int 0]) h4;have g4:(dc G3 q4 (.tup [.str "star",.int 0])) q4=some (.tup [.str "star",.int 0]):=c6;generalize dc G3 q4 (.tup [.str "star",.int 0])=G4 at *;have s5:=dW (o:=.lst [.ref q1,.ref q2,.ref q3,.ref q4]) hl;have g5:(dc G4 l (.lst [.ref q1,.ref q2,.ref q3,.ref q4])) l=some (.lst [.ref q1,.ref q2,.ref q3,.ref q4]):=c6;generalize dc G4 l (.lst [.ref q1,.ref q2,.ref q3,.ref q4])=G5 at *;have sA:=(s1.trans s2).trans ((s3.trans s4).trans s5);refine⟨c,l,ns,_,rfl,sA.seq hc,hns,g5,by simp,λx hx=>?_,λt v H' s d w a b=>k t v H' (sA.trans s) d w a b⟩;rcases aF.mp hx with rfl|hx
 ·exact⟨q1,"st",2,rfl,s5 _ _ (s4 _ _ (s3 _ _ (s2 _ _ g1))),by decide,.inl ⟨rfl,rfl⟩⟩
 rcases aF.mp hx with rfl|hx
 ·exact⟨q2,"sta",1,rfl,s5 _ _ (s4 _ _ (s3 _ _ g2)),by decide,.inr (.inl ⟨rfl,rfl⟩)⟩
 rcases aF.mp hx with rfl|hx
 ·exact⟨q3,"st",2,rfl,s5 _ _ (s4 _ _ g3),by decide,.inl ⟨rfl,rfl⟩⟩
 rcases aF.mp hx with rfl|hx
 ·exact⟨q4,"star",0,rfl,s5 _ _ g4,by decide,.inr (.inr ⟨rfl,rfl⟩)⟩
 ·cases hx
end SW
namespace SW
open PySem L2
def kX:Sp:=λvs H Q _=>∃n:Int,vs=[.int n]∧Q (.bl true) H
end SW
namespace S1
open PySem L2 SW
def Bt(K:aA):TS:=(e9 (lW (gG (pC K) (cp (cq 0) (cp (tC (.ty "int")) cy))) (sf (gG (pC K) (cp (cq 0) (cp (tC (.ty "bool")) cy))))))
end S1
namespace L2
open PySem PySem.Spec PyProof.Rows
theorem ug.okx{P:Program}{w:World}{K:aA}{mg:Str→Option Value}{base:Heap}{x qual:Str}{st:Stmt}{f:Addr}{fd:FuncData}{N ps:List Str}{k:Nat}{sp:Sp}(F:ug K x qual st f fd)(S:gp N ps (dH st))(len:∀vs H Q E,sp vs H Q E→vs.length=ps.length)
  (hbody:∀(cdv:Value)(A:Around)(outer:List Env)(s:Shared)(H:Hp)(vs:List V)(Q:VK)(E:XK),eQ k (A.deeper (envOfC qual (dH st) s.heap.objs.size f cdv))→sp vs H Q E→
   ∃t,kU (gH (kO P w) P w K mg base N qual (dH st) f cdv A outer s H E) (e8 st) t∧t {nx:=λ_ H'=>Q .non H',rt:=Q} (start N vs) H):hU P w K mg base (kO P w) (k+1) f fd ps sp:=by
 obtain⟨oc,od,kV,doc,pm,an,cdv,ct,osl,rfl,lk,hcd⟩:=F.ex;exact w5 lk hcd S len λA outer s H vs Q E hr hsp=>hbody cdv A outer s H vs Q E hr hsp
theorem lQ:bootBuiltins "ValueError"=some (.type "ValueError"):=by decide
end L2
namespace S1
open PySem L2 SW
def Cy(K:aA):Sp:=λvs H Q _=>∃(a:Addr)(ns:List Int),vs=[.ref a]∧dv K H a (ns.map V.int)∧ns.length≤63∧∀H',Q (.bl true) H'
structure Da(K:aA)(n st pc se:Addr):Prop where
 e1:PySem.W.exmOne K (.ref n) (.ref n)=some true
 e2:PySem.W.exmOne K (.ref n) (.ref se)=some true
 k1:PySem.W.kitOne K (.ref n) (.ref n)=some true
 k2:PySem.W.kitOne K (.ref n) (.ref st)=some false
 k3:PySem.W.kitOne K (.ref n) (.ref pc)=some false
 k4:PySem.W.kitOne K (.ref n) (.type "ValueError")=some true
end S1
namespace S1
open PySem L2 SW
variable {K:aA}{N:Addr}{vs:List V}{H:Hp}{Q:VK}{E:XK}
end S1
namespace SW
open PySem L2
end SW
namespace S1
open PySem L2 SW
variable {K:aA}{N:Addr}{vs:List V}{H:Hp}{Q:VK}{E:XK}
end S1
namespace SW
open PySem L2
end SW
namespace S1
open PySem L2 SW
variable {K:aA}{N:Addr}{vs:List V}{H:Hp}{Q:VK}{E:XK}
end S1
namespace SW
open PySem L2
variable {K:aA}
theorem oz:PySem.W.kitOne K (.type "int") (.type "int")=some true:=by kernel_rfl
theorem nh:PySem.W.kitOne K (.type "int") (.type "bool")=some false:=by kernel_rfl
theorem jT:PySem.W.kitOne K (.type "str") (.type "str")=some true:=by kernel_rfl
end SW
namespace S1
open PySem L2 SW
variable {K:aA}{N:Addr}{vs:List V}{H:Hp}{Q:VK}{E:XK}
theorem Cz(h:kX vs H Q E):Bt K (fC Q) (start ["_law_found"] vs) H:=by obtain⟨n,rfl,k⟩:=h;refine⟨.int n,oz,_,rfl,gw ?_⟩;exact⟨.int n,nh,_,rfl,k⟩
end S1
namespace SW
open PySem L2
end SW
namespace S1
open PySem L2 SW
variable {K:aA}{N:Addr}{vs:List V}{H:Hp}{Q:VK}{E:XK}
end S1
namespace SW
open PySem L2
end SW
namespace S1
open PySem L2 SW
variable {K:aA}{N:Addr}{vs:List V}{H:Hp}{Q:VK}{E:XK}
end S1
namespace SW
open PySem L2
def Ct(H H':Hp):Prop:=∀(d:Addr)(kvs:List (gJ×V)),H d=some (.dK kvs)→H' d=some (.dK kvs)
theorem uQ(h:H l=some (.lst ys)):Ct H (dc H l o):=λb xs e=>by rw[dN (iW e h (by intro z;cases z))];exact e
section
variable {H₀ H:Hp}{st nu q:Addr}{fs:List Fr}{us:List V}{ns ns':List Int}{o:HO}{f:Fr}{v z:V}
end
end SW
namespace S1
open PySem L2 SW
variable {K:aA}{N:Addr}{vs:List V}{H H₀:Hp}{Q:VK}{E:XK}
end S1
namespace SW
open PySem L2
end SW
namespace S1
open PySem L2 SW
variable {K:aA}{N:Addr}{vs:List V}{H:Hp}{Q:VK}{E:XK}
end S1
namespace SW
open PySem L2
abbrev A8:List V→Hp→VK→Prop:=λxs H Q=>∃i,xs=[.int i]∧i.natAbs.log2<1920∧Q (.str (toString i)) H
theorem lD:PySem.W.kitOne K (.type "tuple") (.type "tuple")=some true:=by kernel_rfl
theorem mq:PySem.W.kitOne K (.type "tuple") (.type "str")=some false:=by kernel_rfl
def fw:List (gJ×V):=[(.inr "number",.int 2),(.inr "name",.int 2),(.inr "sum",.int 3),(.inr "less",.int 3),(.inr "choose",.int 4),(.inr "let",.int 4)]
end SW
namespace S10
open PySem L2 SW
variable {K:aA}{vs:List V}{H:Hp}{Q:VK}{E:XK}
end S10
namespace SW
open PySem L2
def cs(x:Str):List Nat:=x.cps.toList
theorem dF(x y:Str):cs (x++y)=cs x++cs y:=by show(x.cps++y.cps).toList=_;rw[bR];rfl
theorem c4(x:Str):(cs x).length=x.length:=by simp[cs,Str.length]
theorem gy(h:cs x=cs y):x=y:=by obtain⟨a⟩:=x;obtain⟨b⟩:=y;have:a.toList=b.toList:=h;rw[Array.toList_inj.mp this]
def gK:List (gJ×V):=[(.inr "sum",.str "+"),(.inr "less",.str "-"),(.inr "choose",.str "?")]
end SW
namespace S10
open PySem L2 SW
variable {K:aA}{vs:List V}{H H₀:Hp}{Q:VK}{E:XK}
end S10
namespace SW
open PySem L2
abbrev rC:R2:=λx y H Q=>∃i j,x=.str i∧y=.str j∧Q (.bl (!(Builtin.Str.occurrences j i 0 j.length 1).isEmpty)) H
theorem tf{y:Str}{c:Nat}(h:cs y=[c]):y=⟨#[c]⟩:=gy (by rw[h];rfl)
theorem yh{x y:Str}{c k:Nat}(hy:cs y=[c]):Txt.startswith3 x y (k:Int)=decide ((cs x)[k]?=some c):=by
 rw[tf hy];unfold Txt.startswith3;have e:fromIndex x.length (k:Int)=k:=by
  unfold fromIndex;rw[if_neg (by omega)]
  omega
 rw[e];apply bN.mpr;rw[decide_eq_true_iff,aq,decide_eq_true_iff];exact StrLaws.subAt_one x c k
theorem o8{x y:Str}{c:Nat}(hy:cs y=[c]):(!(Builtin.Str.occurrences x y 0 x.length 1).isEmpty)=decide (c∈cs x):=by
 rw[tf hy];rcases StrLaws.occ_head_from x ⟨#[c]⟩ 0 1 (aB 1)with⟨h0,hn⟩|⟨k,r,h0,hlo,hk,hn⟩
 ·rw[h0];have:c∉cs x:=λhm=>by obtain⟨v,hv⟩:=List.getElem?_of_mem hm;exact hn v (aR _) ((StrLaws.subAt_one x c v).mpr hv)
  simp[this]
 ·rw[h0];have:c∈cs x:=bv ((StrLaws.subAt_one x c k).mp hk);simp[this]
theorem kt{x:Str}{b e:Nat}(h1:b≤e)(h2:e≤x.length):cs (Txt.slice x (some (b:Int)) (some (e:Int)))=((cs x).drop b).take (e-b):=by have h:=PyProof.Rows.slice_closesL (x:=x) (i:=b) (j:=e) (by omega) (by omega) (by omega);rw[eq_of_beq h];show(((x.cps.toList.drop ((b:Int)).toNat).take ((e:Int)-b).toNat).toArray).toList=_;rw[show((b:Int)).toNat=b by omega,show((e:Int)-b).toNat=e-b by omega];simp[cs]
theorem ip:cs ""=[]:=by decide
theorem qT:∀(ws:List Str)(a:Array Nat),(ws.foldl (λacc p=>acc++(("":Str)).cps++p.cps) a).toList=a.toList++(ws.map cs).flatten
 | [],a=>by simp
 | w::ws,a=>by
  rw[bH,qT ws];have e:(("":Str)).cps = #[]:=by decide
  rw[e];simp[cs]
theorem qU:∀ws:List Str,cs (Txt.join "" ws)=(ws.map cs).flatten
 | []=>by decide
 | w::ws=>by show(((w::ws).drop 1).foldl (λacc p=>acc++(("":Str)).cps++p.cps) ((w::ws).headD Str.empty).cps).toList=_;rw[cC,aw,qT];rfl
theorem wJ:cs "0123456789"=(List.range 10).map (·+48):=by decide
theorem kH{c:Nat}:c∈cs "abcdefghijklmnopqrstuvwxyz"↔97≤c∧c≤122:=by
 show c∈(("abcdefghijklmnopqrstuvwxyz":Str)).cps.toList↔_;rw[qR];simp only[List.mem_map,bj];constructor
 ·rintro⟨a,h,rfl⟩;omega
 ·rintro⟨h1,h2⟩;exact⟨c-97,by omega,by omega⟩
theorem kI{c:Nat}:c∈cs "0123456789"↔48≤c∧c≤57:=by
 rw[wJ];simp only[List.mem_map,bj];constructor
 ·rintro⟨a,h,rfl⟩;omega
 ·rintro⟨h1,h2⟩;exact⟨c-48,by omega,by omega⟩
def fh(m:Nat):List Nat:=(Nat.toDigits 10 m).map Char.toNat
theorem gT{m:Nat}(h:m<10):fh m=[m+48]:=by
 unfold fh;rw[Nat.toDigits_of_lt_base h];have:∀d:Nat,d<10→(Nat.digitChar d).toNat=d+48:=by decide
 simp[this m h]
theorem i8{m:Nat}(h:¬m<10):fh m=fh (m / 10)++[m%10+48]:=by have hm:m%10<10:=Nat.mod_lt m (by decide);have t:Nat.toDigits 10 (m / 10)++Nat.toDigits 10 (m%10)=Nat.toDigits 10 (10*(m / 10)+m%10):=Nat.toDigits_append_toDigits (by decide) (by omega) hm;rw[Nat.div_add_mod]at t;rw[←gT hm];unfold fh;rw[←t,List.map_append]
theorem qc(m:Nat):fh m≠[]:=by
 by_cases h:m<10
 ·rw[gT h];simp
 ·rw[i8 h];simp
theorem nt(m:Nat):∀c∈fh m,48≤c∧c≤57:=by
 induction m using Nat.strongRecOn with
 | _ m ih=>
  by_cases h:m<10
  ·rw[gT h];intro c hc;simp at hc;omega
  ·rw[i8 h];intro c hc;rcases aS.mp hc with z|z
   ·exact ih (m / 10) (by omega) c z
   ·simp at z;omega
theorem io{k:Nat}:∀{m:Nat},m<10^(k+1)→(fh m).length≤k+1:=by
 induction k with
 | zero=>intro m h;rw[gT (by omega)];simp
 | succ k ih=>
  intro m h;by_cases h1:m<10
  ·rw[gT h1];simp
  ·rw[i8 h1,aD];have:=ih (m:=m / 10) (by rw[Nat.pow_succ]at h;exact Nat.div_lt_of_lt_mul (by rw[Nat.mul_comm];exact h));simp only[aC,aG];omega
theorem rY(m:Nat)(hm:0<m):∃c r,fh m=c::r∧c≠48:=by
 induction m using Nat.strongRecOn with
 | _ m ih=>
  by_cases h:m<10
  ·exact⟨m+48,[],gT h,by omega⟩
  ·obtain⟨c,r,e,hc⟩:=ih (m / 10) (by omega) (by omega);exact⟨c,r++[m%10+48],by rw[i8 h,e];rfl,hc⟩
theorem lm:fh 0=[48]:=gT (by decide)
theorem nz(z:String):cs (Str.ofString z)=z.toList.map Char.toNat:=PyProof.Rows.signs_ofString z
theorem vm(m:Nat):cs (Str.ofString (toString (m:Int)))=fh m:=PySem.W.KIN.signs_num m
theorem vn(m:Nat):cs (Str.ofString (toString (Int.negSucc m)))=45::fh (m+1):=by rw[nz];show("-"++Nat.repr (m+1)).toList.map Char.toNat=_;rw[String.toList_append,List.map_append,Nat.toList_repr];rfl
theorem uD{z:Str}{m:Nat}(h:cs z=fh m)(hl:z.length≤640):PySem.intText? z=some (m:Int):=by
 have h1:PySem.NumText.AllDigits z.cps.toList:=λc hc=>nt m c (by rw[←h];exact hc);have h2:z.cps.toList≠[]:=by have:=qc m;rw[←h]at this;exact this
 have e:=PySem.intText_digits h1 h2 (by omega);have:z.cps.toList=fh m:=h;rw[this]at e;rw[e]
 congr 2
 exact PySem.W.KIN.val_back m
end SW
namespace S11
def gL(p n:List Nat):List Nat→List Nat
 | []=>[]
 | x::r=>if h:p≠[]∧p <+: (x::r)then n++gL p n ((x::r).drop p.length)else x::gL p n r
termination_by xs=>xs.length
decreasing_by
 ·have:0<p.length:=bI.mpr h.1;simp only[aO,aC];omega
 ·simp
theorem ja:gL p n []=[]:=by rw[gL]
theorem iz(h:p≠[]):gL p n (p++r)=n++gL p n r:=by
 cases p with
 | nil=>exact absurd rfl h
 | cons a p=>
  rw[bi,gL,dif_pos ⟨h,⟨r,rfl⟩⟩]
  congr 2
  simp
theorem jL(h:¬p <+: (x::r)):gL p n (x::r)=x::gL p n r:=by rw[gL,dif_neg λz=>h z.2]
theorem jb(h:p≠[])(x:Nat)(r:List Nat):(∃r',x::r=p++r'∧r'.length<(x::r).length∧gL p n (x::r)=n++gL p n r')∨(¬p <+: (x::r)∧gL p n (x::r)=x::gL p n r):=by
 by_cases q:p <+: (x::r)
 ·obtain⟨r',e⟩:=q;refine .inl ⟨r',e.symm,?_,?_⟩
  ·rw[←e,aD];have:0<p.length:=bI.mpr h
   omega
  ·rw[←e];exact iz h
 ·exact .inr ⟨q,jL q⟩
theorem jv(h:p≠[])(hn:n.length≤p.length):∀(k:Nat)(xs:List Nat),xs.length≤k→(gL p n xs).length≤xs.length
 | _,[],_=>by rw[ja];exact aB _
 | 0,x::r,z=>by simp at z
 | k+1,x::r,z=>by
  rcases jb (n:=n) h x r with⟨r',e,l,q⟩|⟨_,q⟩
  ·have:=jv h hn k r' (by simp at z l;omega);rw[q,e,aD,aD];omega
  ·have:=jv h hn k r (by simpa using z);rw[q,aC,aC];omega
theorem tF(h:p≠[])(hn:n.length<p.length):∀(k:Nat)(xs:List Nat),xs.length≤k→p <:+: xs→(gL p n xs).length<xs.length
 | _,[],_,⟨a,b,e⟩=>absurd (by simp at e;exact e.2.1) h
 | 0,x::r,z,_=>by simp at z
 | k+1,x::r,z,i=>by
  rcases jb (n:=n) h x r with⟨r',e,l,q⟩|⟨np,q⟩
  ·have:=jv h (bE hn) k r' (by simp at z l;omega);rw[q,e,aD,aD];omega
  ·have i2:p <:+: r:=by
    rcases cD.mp i with i|i
    ·exact absurd i np
    ·exact i
   have:=tF h hn k r (by simpa using z) i2;rw[q,aC,aC];omega
theorem oZ(h:p≠[]):∀(xs:List Nat),¬p <:+: xs→gL p n xs=xs
 | [],_=>ja
 | x::r,i=>by have np:¬p <+: (x::r):=λz=>i z.isInfix;rw[jL np,oZ h r λz=>i (cD.mpr (.inr z))]
inductive Fr where
 | op|cl|q|lt|arg
 deriving DecidableEq
inductive Sx where
 | exp(k:List Fr)|aft(k:List Fr)|brc(k:List Fr)|err
def dl:Sx→Nat→Sx
 | .exp k,x=>if x=80 then .aft k else if x=40 then .exp (.op::k)else if x=76 then .exp (.lt::k)else if x=83 then .brc k else .err
 | .brc k,x=>if x=123 then .exp (.arg::k)else .err
 | .aft (.op::k),x=>if x=43 then .exp (.cl::k)else if x=45 then .exp (.cl::k)else if x=63 then .exp (.q::k)else .err
 | .aft (.q::k),x=>if x=58 then .exp (.cl::k)else .err
 | .aft (.cl::k),x=>if x=41 then .aft k else .err
 | .aft (.lt::k),x=>if x=93 then .exp k else .err
 | .aft (.arg::k),x=>if x=44 then .exp (.arg::k)else if x=125 then .aft k else .err
 | .aft [],_=>.err
 | .err,_=>.err
def run(s:Sx)(xs:List Nat):Sx:=xs.foldl dl s
theorem dJ:run s (x::r)=run (dl s x) r:=rfl
theorem py:run s (a++b)=run (run s a) b:=List.foldl_append ..
theorem iy:∀xs:List Nat,run .err xs=.err
 | []=>rfl
 | x::r=>by rw[dJ,show dl .err x=.err from rfl];exact iy r
theorem mX(h:p≠[])(i:∀s,run s p=run s n):∀(k:Nat)(xs:List Nat)(s:Sx),xs.length≤k→run s (gL p n xs)=run s xs
 | _,[],s,_=>by rw[ja]
 | 0,x::r,s,z=>by simp at z
 | k+1,x::r,s,z=>by
  rcases jb (n:=n) h x r with⟨r',e,l,q⟩|⟨_,q⟩
  ·rw[q,e,py,py,i s];exact mX h i k r' _ (by simp at z l;omega)
  ·rw[q,dJ,dJ];exact mX h i k r _ (by simpa using z)
def oV:List (List Nat×List Nat):=[([76,80,93,80],[80]),([40,80,43,80,41],[80]),([40,80,45,80,41],[80]),([40,80,63,80,58,80,41],[80]),([123,80,44,80],[123,80]),([83,123,80,125],[80])]
theorem vP:∀x∈oV,∀s,run s x.1=run s x.2:=by
 intro x hx s;simp only[oV,aF,av,or_false]at hx;rcases hx with rfl|rfl|rfl|rfl|rfl|rfl<;>
 ·cases s with
  | exp k=>rfl
  | brc k=>rfl
  | err=>rfl
  | aft k=>
   cases k with
   | nil=>rfl
   | cons f k=>cases f<;>rfl
theorem mV:∀x∈oV,x.1≠[]∧x.2.length<x.1.length:=by decide
def jJ(xs:List Nat):List Nat:=oV.foldl (λa x=>gL x.1 x.2 a) xs
theorem nj:∀(l:List (List Nat×List Nat)),(∀x∈l,x∈oV)→∀xs s,run s (l.foldl (λa x=>gL x.1 x.2 a) xs)=run s xs
 | [],_,xs,s=>rfl
 | y::l,h,xs,s=>by rw[bH,nj l λx hx=>h x (.tail _ hx)];exact mX (mV _ (h y (.head _))).1 (vP _ (h y (.head _))) _ xs s (aB _)
theorem qY:∀(l:List (List Nat×List Nat)),(∀x∈l,x∈oV)→∀xs,(l.foldl (λa x=>gL x.1 x.2 a) xs).length≤xs.length
 | [],_,xs=>aB _
 | y::l,h,xs=>by rw[bH];have hy:=mV _ (h y (.head _));exact aE (qY l (λx hx=>h x (.tail _ hx)) _) (jv hy.1 (bE hy.2) _ xs (aB _))
theorem qX:∀(l:List (List Nat×List Nat)),(∀x∈l,x∈oV)→∀xs,(∃x∈l,x.1 <:+: xs)→(l.foldl (λa x=>gL x.1 x.2 a) xs).length<xs.length
 | [],_,xs,⟨_,z,_⟩=>by cases z
 | y::l,h,xs,⟨x,hx,i⟩=>by
  rw[bH];have hy:=mV _ (h y (.head _));by_cases q:y.1 <:+: xs
  ·exact b7 (qY l (λx hx=>h x (.tail _ hx)) _) (tF hy.1 hy.2 _ xs (aB _) q)
  ·rw[oZ hy.1 xs q];refine qX l (λx hx=>h x (.tail _ hx)) xs ⟨x,?_,i⟩;rcases aF.mp hx with rfl|hx
   ·exact absurd i q
   ·exact hx
theorem nH:run s (jJ xs)=run s xs:=nj oV (λ_ h=>h) xs s
theorem uk(h:∃x∈oV,x.1 <:+: xs):(jJ xs).length<xs.length:=qX oV (λ_ h=>h) xs h
theorem qZ:∀(l:List (List Nat×List Nat)),(∀x∈l,x∈oV)→∀xs,(∀x∈l,¬x.1 <:+: xs)→l.foldl (λa x=>gL x.1 x.2 a) xs=xs
 | [],_,xs,_=>rfl
 | y::l,h,xs,z=>by rw[bH,oZ (mV _ (h y (.head _))).1 xs (z y (.head _))];exact qZ l (λx hx=>h x (.tail _ hx)) xs λx hx=>z x (.tail _ hx)
def jC(x:Nat):Bool:=x==40||x==76||x==83
theorem fS(h:run (.exp k) xs=.aft [])(no:∀x∈xs,jC x=false):∃r,xs=80::r∧run (.aft k) r=.aft []:=by
 cases xs with
 | nil=>cases h
 | cons x r=>
  have hx:=no x (.head _);simp only[jC,Bool.or_eq_false_iff,beq_eq_false_iff_ne]at hx;rw[dJ]at h;by_cases e:x=80
  ·subst e;exact⟨r,rfl,h⟩
  ·rw[show dl (.exp k) x=.err by simp[dl,e,hx.1.1,hx.1.2,hx.2],iy]at h;cases h
theorem jl(h:run (dl s x) r=.aft []):dl s x≠.err:=λe=>by rw[e,iy]at h;cases h
theorem vz(h:run (dl (.exp k) x) r=.aft [])(hx:jC x=true)(no:∀y∈r,jC y=false):∃p∈oV,p.1 <:+: x::r:=by
 simp only[jC,bf,beq_iff_eq]at hx;rcases hx with(rfl|rfl)|rfl
 ·obtain⟨r1,rfl,h1⟩:=fS (k:=.op::k) h no;cases r1 with
  | nil=>cases h1
  | cons y r2=>
   have n2:∀z∈r2,jC z=false:=λz hz=>no z (.tail _ (.tail _ hz));rw[dJ]at h1;have hd:=jl h1;by_cases e:y=43
   ·subst e;obtain⟨r3,rfl,h3⟩:=fS (k:=.cl::k) h1 n2;cases r3 with
    | nil=>cases h3
    | cons z r4=>
     rw[dJ]at h3;have hd:=jl h3;by_cases e:z=41
     ·subst e;exact⟨_,.tail _ (.head _),[],r4,rfl⟩
     ·exact absurd (if_neg e) hd
   ·by_cases e2:y=45
    ·subst e2;obtain⟨r3,rfl,h3⟩:=fS (k:=.cl::k) h1 n2;cases r3 with
     | nil=>cases h3
     | cons z r4=>
      rw[dJ]at h3;have hd:=jl h3;by_cases e:z=41
      ·subst e;exact⟨_,.tail _ (.tail _ (.head _)),[],r4,rfl⟩
      ·exact absurd (if_neg e) hd
    ·by_cases e3:y=63
     ·subst e3;obtain⟨r3,rfl,h3⟩:=fS (k:=.q::k) h1 n2;cases r3 with
      | nil=>cases h3
      | cons z r4=>
       have n4:∀y∈r4,jC y=false:=λy hy=>n2 y (.tail _ (.tail _ hy));rw[dJ]at h3;have hd:=jl h3;by_cases e:z=58
       ·subst e;obtain⟨r5,rfl,h5⟩:=fS (k:=.cl::k) h3 n4;cases r5 with
        | nil=>cases h5
        | cons w r6=>
         rw[dJ]at h5;have hd:=jl h5;by_cases e:w=41
         ·subst e;exact⟨_,.tail _ (.tail _ (.tail _ (.head _))),[],r6,rfl⟩
         ·exact absurd (if_neg e) hd
       ·exact absurd (if_neg e) hd
     ·exact absurd (by simp[dl,e,e2,e3]) hd
 ·obtain⟨r1,rfl,h1⟩:=fS (k:=.lt::k) h no;cases r1 with
  | nil=>cases h1
  | cons y r2=>
   rw[dJ]at h1;have hd:=jl h1;by_cases e:y=93
   ·subst e;obtain⟨r3,rfl,_⟩:=fS (k:=k) h1 λz hz=>no z (.tail _ (.tail _ hz));exact⟨_,.head _,[],r3,rfl⟩
   ·exact absurd (if_neg e) hd
 ·cases r with
  | nil=>cases h
  | cons b r=>
   have h:run (dl (.brc k) b) r=.aft []:=h;have hd:=jl h;by_cases e:b=123
   ·subst e;obtain⟨r1,rfl,h1⟩:=fS (k:=.arg::k) h λz hz=>no z (.tail _ hz);cases r1 with
    | nil=>cases h1
    | cons y r2=>
     rw[dJ]at h1;have hd:=jl h1;by_cases e:y=44
     ·subst e;obtain⟨r3,rfl,_⟩:=fS (k:=.arg::k) h1 λz hz=>no z (.tail _ (.tail _ (.tail _ hz)));exact⟨_,.tail _ (.tail _ (.tail _ (.tail _ (.head _)))),[83],r3,rfl⟩
     ·by_cases e2:y=125
      ·subst e2;exact⟨_,.tail _ (.tail _ (.tail _ (.tail _ (.tail _ (.head _))))),[],r2,rfl⟩
      ·exact absurd (by simp[dl,e,e2]) hd
   ·exact absurd (if_neg e) hd
theorem we:∀(xs:List Nat)(s:Sx),run s xs=.aft []→(∃x∈xs,jC x=true)→∃p∈oV,p.1 <:+: xs
 | [],_,_,⟨_,z,_⟩=>by cases z
 | x::r,s,h,o=>by
  rw[dJ]at h;by_cases q:∃y∈r,jC y=true
  ·obtain⟨p,hp,i⟩:=we r _ h q;exact⟨p,hp,cD.mpr (.inr i)⟩
  ·have no:∀y∈r,jC y=false:=λy hy=>by
    cases e:jC y with
    | false=>rfl
    | true=>exact absurd ⟨y,hy,e⟩ q
   have hx:jC x=true:=by
    obtain⟨y,hy,e⟩:=o;rcases aF.mp hy with rfl|hy
    ·exact e
    ·rw[no y hy]at e;cases e
   have hd:=jl h;cases s with
   | exp k=>exact vz h hx no
   | err=>exact absurd rfl hd
   | brc k=>simp only[jC,bf,beq_iff_eq]at hx;rcases hx with(rfl|rfl)|rfl<;>exact absurd rfl hd
   | aft k=>
    simp only[jC,bf,beq_iff_eq]at hx;cases k with
    | nil=>exact absurd rfl hd
    | cons f k=>cases f<;>rcases hx with(rfl|rfl)|rfl<;>exact absurd rfl hd
theorem wK(h:run (.exp []) xs=.aft []):xs=[80]∨∃p∈oV,p.1 <:+: xs:=by
 by_cases q:∃y∈xs,jC y=true
 ·exact .inr (we xs _ h q)
 ·obtain⟨r,rfl,h1⟩:=fS h λy hy=>by
   cases e:jC y with
   | false=>rfl
   | true=>exact absurd ⟨y,hy,e⟩ q
  cases r with
  | nil=>exact .inl rfl
  | cons y r=>rw[dJ,show dl (.aft []) y=.err from rfl,iy]at h1;cases h1
theorem xK:jJ [80]=[80]:=qZ oV (λ_ h=>h) _ (by decide)
def iZ:Nat→List Nat→List Nat
 | 0,xs=>xs
 | n+1,xs=>iZ n (jJ xs)
theorem lV:∀(n:Nat)(xs:List Nat),run s (iZ n xs)=run s xs
 | 0,_=>rfl
 | n+1,xs=>by rw[iZ,lV n,nH]
theorem jr:∀(n:Nat)(xs:List Nat),xs.length≤n→run (.exp []) xs=.aft []→iZ n xs=[80]
 | 0,[],_,h=>by cases h
 | 0,_::_,z,_=>by simp at z
 | n+1,xs,z,h=>by
  rw[iZ];rcases wK h with rfl|i
  ·rw[xK];cases n with
   | zero=>rfl
   | succ n=>exact jr (n+1) [80] (by simp) h
  ·have:=uk i;exact jr n _ (by omega) (by rw[nH];exact h)
theorem qp(h:xs.length≤n):iZ n xs=[80]↔run (.exp []) xs=.aft []:=
 ⟨λe=>by rw[←lV n xs,e];rfl,jr n xs h⟩
def pre(xs:List Nat):List Nat:=gL [78] [80] (gL [87] [80] (gL [87,123] [83,123] (gL [87,123,125] [80] (gL [91,87,61] [76] xs))))
theorem Dq(h:x≠a):¬(a::p) <+: (x::r):=λ⟨t,e⟩=>h (by injection e with e _;exact e.symm)
theorem fz(h:x≠a):gL (a::p) n (x::r)=x::gL (a::p) n r:=jL (Dq h)
theorem k7(hp:p≠[])(hc:c≠m)(e:gL p (m::n) r=c::t):∃r',r=c::r':=by
 cases r with
 | nil=>rw[ja]at e;cases e
 | cons x r=>
  rcases jb (n:=m::n) hp x r with⟨r',_,_,q⟩|⟨_,q⟩
  ·rw[q]at e;injection e with e _;exact absurd e.symm hc
  ·rw[q]at e;injection e with e _;exact⟨r,by rw[e]⟩
theorem zp(h:x≠91):gL [91,87,61] [76] (x::r)=x::gL [91,87,61] [76] r:=fz h
theorem qF:pre []=[]:=by simp[pre,ja]
theorem kE(h1:x≠91)(h2:x≠87)(h3:x≠78):pre (x::r)=x::pre r:=by unfold pre;rw[fz h1,fz h2,fz h2,fz h2,fz h3]
theorem wn:pre (78::r)=80::pre r:=by unfold pre;rw[fz (by decide),fz (by decide),fz (by decide),fz (by decide)];exact iz (p:=[78]) (by simp)
theorem wo:pre (91::87::61::r)=76::pre r:=by unfold pre;rw[show gL [91,87,61] [76] (91::87::61::r)=76::gL [91,87,61] [76] r from iz (p:=[91,87,61]) (by simp),fz (by decide),fz (by decide),fz (by decide),fz (by decide)]
theorem nU(h:∀r',r≠87::61::r'):pre (91::r)=91::pre r:=by unfold pre;rw[jL (p:=[91,87,61]) (λ⟨t,e⟩=>h t (by injection e with _ e;exact e.symm)),fz (by decide),fz (by decide),fz (by decide),fz (by decide)]
theorem wr:pre (87::123::125::r)=80::pre r:=by unfold pre;rw[zp (by decide),zp (by decide),zp (by decide)];rw[show ∀z,gL [87,123,125] [80] (87::123::125::z)=80::gL [87,123,125] [80] z from λz=>iz (p:=[87,123,125]) (by simp),fz (by decide),fz (by decide),fz (by decide)]
theorem qH(h:∀r',r≠125::r'):pre (87::123::r)=83::123::pre r:=by
 unfold pre;rw[zp (by decide),zp (by decide)];rw[jL (p:=[87,123,125]) (n:=[80]) (x:=87) (λ⟨t,e⟩=>by
  injection e with _ e;injection e with _ e;obtain⟨r',e⟩:=k7 (p:=[91,87,61]) (by simp) (by decide) e.symm;exact h r' e),fz (a:=87) (p:=[123,125]) (x:=123) (by decide)]
 rw[show ∀z,gL [87,123] [83,123] (87::123::z)=83::123::gL [87,123] [83,123] z from λz=>iz (p:=[87,123]) (by simp),fz (x:=83) (by decide),fz (a:=87) (p:=[]) (x:=123) (by decide),fz (x:=83) (by decide),fz (x:=123) (by decide)]
theorem qG(h:∀r',r≠123::r'):pre (87::r)=80::pre r:=by
 unfold pre;have h1:∀t,gL [91,87,61] [76] r≠123::t:=λt e=>(k7 (p:=[91,87,61]) (by simp) (by decide) e).elim λr' e=>h r' e;have h2:∀t,gL [87,123,125] [80] (gL [91,87,61] [76] r)≠123::t:=λt e=>(k7 (p:=[87,123,125]) (by simp) (by decide) e).elim λr' e=>h1 r' e;rw[zp (by decide)];rw[jL (p:=[87,123,125]) (n:=[80]) (x:=87) (λ⟨t,e⟩=>by
  injection e with _ e;exact h1 _ e.symm)]
 rw[jL (p:=[87,123]) (n:=[83,123]) (x:=87) (λ⟨t,e⟩=>by
  injection e with _ e;exact h2 _ e.symm)]
 rw[show ∀z,gL [87] [80] (87::z)=80::gL [87] [80] z from λz=>iz (p:=[87]) (by simp),fz (by decide)]
theorem vW(xs:List Nat):(pre xs).length≤xs.length:=by unfold pre;have le:∀p n,p≠[]→n.length≤p.length→∀xs,(gL p n xs).length≤xs.length:=λp n h1 h2 xs=>jv h1 h2 _ xs (aB _);exact aE (le _ _ (by simp) (by simp) _) (aE (le _ _ (by simp) (by simp) _) (aE (le _ _ (by simp) (by simp) _) (aE (le _ _ (by simp) (by simp) _) (le _ _ (by simp) (by simp) _))))
def eA(c:Nat):Bool:=decide (97≤c)&&decide (c≤122)
def eW(c:Nat):Bool:=decide (48≤c)&&decide (c≤57)
def lO:List Nat:=[87,78,41,125]
def fm:List Nat:=[40,41,91,93,123,125,43,45,63,58,61,44]
def jx(p c:Nat):Bool:=c==45 && !lO.contains p
def fi(p c:Nat)(cs:List Nat):List Nat:=if jx p c then cs else c::cs
def kF(n:Bool)(ds:List Nat):Bool:=!(ds.head? == some 48&&(n||ds != [48]))
theorem kM(f:Nat→Bool):∀cs:List Nat,(cs.dropWhile f).length≤cs.length
 | []=>aB _
 | c::cs=>by
  rw[bJ];split
  ·exact Nat.le_succ_of_le (kM f cs)
  ·exact aB _
theorem lH(p c:Nat)(cs:List Nat)(h:(fi p c cs).takeWhile eW≠[]):((fi p c cs).dropWhile eW).length≤cs.length:=by
 unfold fi at h⊢;split
 ·exact kM _ _
 ·rename_i hn;rw[if_neg hn]at h;rw[aU]at h;by_cases q:eW c=true
  ·rw[bJ,if_pos q];exact kM _ _
  ·rw[if_neg q]at h;exact absurd rfl h
def mk(p:Nat)(cs:List Nat):List Nat:=match cs with
 | []=>[]
 | c::cs=>
  if eA c then 87::mk 87 (cs.dropWhile eA)
  else if h:(fi p c cs).takeWhile eW=[]then(if fm.contains c then c else 33)::mk (if fm.contains c then c else 33) cs
  else if kF (jx p c) ((fi p c cs).takeWhile eW)then 78::mk 78 ((fi p c cs).dropWhile eW)
  else 33::mk 33 ((fi p c cs).dropWhile eW)
termination_by cs.length
decreasing_by
 ·have:=kM eA cs;simp;omega
 ·simp
 ·have:=lH p c cs h;simp;omega
 ·have:=lH p c cs h;simp;omega
theorem gv:mk p []=[]:=by rw[mk]
theorem jR:∀(n:Nat)(p:Nat)(cs:List Nat),cs.length≤n→(mk p cs).length≤cs.length
 | _,_,[],_=>by rw[gv];exact aB _
 | 0,_,_::_,z=>by simp at z
 | n+1,p,c::cs,z=>by
  have z:cs.length≤n:=by simpa using z
  rw[mk];split
  ·have h:=kM eA cs;have:=jR n 87 (cs.dropWhile eA) (by omega);simp only[aC];omega
  ·split
   ·have:=jR n (if fm.contains c then c else 33) cs z;simp only[aC];omega
   ·rename_i hd;have h:=lH p c cs hd;split
    ·have:=jR n 78 _ (by omega:((fi p c cs).dropWhile eW).length≤n);simp only[aC];omega
    ·have:=jR n 33 _ (by omega:((fi p c cs).dropWhile eW).length≤n);simp only[aC];omega
theorem t9(h:eA c=true):mk p (c::cs)=87::mk 87 (cs.dropWhile eA):=by rw[mk,if_pos h]
theorem rJ(h:eA c=false)(h2:(fi p c cs).takeWhile eW=[])(hs:c∈fm):mk p (c::cs)=c::mk c cs:=by have:fm.contains c=true:=List.elem_eq_true_of_mem hs;rw[mk,if_neg (by simp[h]),dif_pos h2,if_pos this]
theorem vq(h:eA c=false)(h2:(fi p c cs).takeWhile eW=[])(hs:c∉fm):mk p (c::cs)=33::mk 33 cs:=by have:fm.contains c≠true:=λz=>hs (ce z);rw[mk,if_neg (by simp[h]),dif_pos h2,if_neg this]
theorem vt(h:eA c=false)(h2:(fi p c cs).takeWhile eW≠[])(hk:kF (jx p c) ((fi p c cs).takeWhile eW)=true):mk p (c::cs)=78::mk 78 ((fi p c cs).dropWhile eW):=by rw[mk,if_neg (by simp[h]),dif_neg h2,if_pos hk]
theorem vp(h:eA c=false)(h2:(fi p c cs).takeWhile eW≠[])(hk:kF (jx p c) ((fi p c cs).takeWhile eW)=false):mk p (c::cs)=33::mk 33 ((fi p c cs).dropWhile eW):=by rw[mk,if_neg (by simp[h]),dif_neg h2,if_neg (by simp[hk])]
theorem nX(h:c∈fm)(h2:c≠45):mk p (c::cs)=c::mk c cs:=by
 have hl:eA c=false∧eW c=false:=by simp only[fm,aF,av,or_false]at h;rcases h with rfl|rfl|rfl|rfl|rfl|rfl|rfl|rfl|rfl|rfl|rfl|rfl<;>decide
 refine rJ hl.1 ?_ h;have:jx p c=false:=by simp[jx,h2]
 rw[fi,if_neg (by simp[this]),aU,if_neg (by simp[hl.2])]
theorem Aw(h:p∈lO):mk p (45::cs)=45::mk 45 cs:=by
 refine rJ (by decide) ?_ (by decide);have:jx p 45=false:=by simp[jx];exact h
 rw[fi,if_neg (by simp[this]),aU,if_neg (by decide)]
theorem t8(e:mk p cs=m::r)(hm:m≠87)(hm2:m≠78)(hm3:m≠33):∃cs',cs=m::cs':=by
 cases cs with
 | nil=>rw[gv]at e;cases e
 | cons c cs=>
  rw[mk]at e;split at e
  ·injection e with e _;exact absurd e.symm hm
  ·split at e
   ·split at e
    ·injection e with e _;exact⟨cs,by rw[e]⟩
    ·injection e with e _;exact absurd e.symm hm3
   ·split at e
    ·injection e with e _;exact absurd e.symm hm2
    ·injection e with e _;exact absurd e.symm hm3
inductive F where
 | pc|btw|hnd|sg(c:Nat)
def pL:List Nat→List F×List Nat
 | []=>([],[])
 | x::r=>if x=123 then(match r with
  | []=>([.pc,.hnd],[])
  | y::r=>if y=125 then([],r)else([.pc,.hnd],y::r))else([],x::r)
def zo(r:List Nat):Option (List F×List Nat):=
 if r.takeWhile eA=[]then none else match r.dropWhile eA with
  | []=>none
  | x::r=>if x=61 then some ([.pc,.sg 93,.pc],r)else none
def AC(c:Nat)(cs:List Nat):Option (List F×List Nat):=
 if(fi 0 c cs).takeWhile eW=[]then none else if kF (c==45) ((fi 0 c cs).takeWhile eW)then some ([],(fi 0 c cs).dropWhile eW)else none
def tk:F→List Nat→Option (List F×List Nat)
 | .pc,[]=>none
 | .pc,c::cs=>if eA c then some (pL (cs.dropWhile eA))else if c=40 then some ([.pc,.btw],cs)else if c=91 then zo cs else AC c cs
 | .btw,[]=>none
 | .btw,c::cs=>if c=43 then some ([.pc,.sg 41],cs)else if c=45 then some ([.pc,.sg 41],cs)else if c=63 then some ([.pc,.sg 58,.pc,.sg 41],cs)else none
 | .hnd,[]=>none
 | .hnd,c::cs=>if c=44 then some ([.pc,.hnd],cs)else if c=125 then some ([],cs)else none
 | .sg _,[]=>none
 | .sg d,c::cs=>if c=d then some ([],cs)else none
inductive gX:List F→List Nat→Prop where
 | nil:gX [] []
 | step{f:F}{K p:List F}{cs r:List Nat}:tk f cs=some (p,r)→gX (p++K) r→gX (f::K) cs
theorem gX.iff(h:tk f cs=some (p,r)):gX (f::K) cs↔gX (p++K) r:=
 ⟨λa=>by cases a with|step e a=>rw[h]at e;cases e;exact a,λa=>.step h a⟩
theorem gX.no(h:tk f cs=none):¬gX (f::K) cs:=λa=>by cases a with|step e a=>rw[h]at e;cases e
def fk:List Fr→List F
 | []=>[]
 | .op::k=>.btw::fk k
 | .cl::k=>.sg 41::fk k
 | .q::k=>.sg 58::.pc::.sg 41::fk k
 | .lt::k=>.sg 93::.pc::fk k
 | .arg::k=>.hnd::fk k
theorem ql(h:dl s x=.err):¬run s (x::r)=.aft []:=λz=>by rw[dJ,h,iy]at z;cases z
theorem tM(p c:Nat)(cs:List Nat):∃x r,pre (mk p (c::cs))=x::r∧(x=80∨x=83∨x=76∨x=33∨(x=c∧c∈fm)):=by
 by_cases hl:eA c=true
 ·rw[t9 hl];cases hr:mk 87 (cs.dropWhile eA) with
  | nil=>exact⟨_,_,qG (by simp),.inl rfl⟩
  | cons y r=>
   by_cases e:y=123
   ·subst e;cases r with
    | nil=>exact⟨_,_,qH (by simp),.inr (.inl rfl)⟩
    | cons z r=>
     by_cases e:z=125
     ·subst e;exact⟨_,_,wr,.inl rfl⟩
     ·exact⟨_,_,qH (λr' q=>e (by injection q)),.inr (.inl rfl)⟩
   ·exact⟨_,_,qG (λr' q=>e (by injection q)),.inl rfl⟩
 ·have hl:eA c=false:=by simpa using hl
  by_cases hd:(fi p c cs).takeWhile eW=[]
  ·by_cases hs:c∈fm
   ·rw[rJ hl hd hs];by_cases h91:c=91
    ·subst h91;by_cases q:∃r',mk 91 cs=87::61::r'
     ·obtain⟨r',e⟩:=q;rw[e];exact⟨_,_,wo,.inr (.inr (.inl rfl))⟩
     ·exact⟨_,_,nU (λr' e=>q ⟨r',e⟩),.inr (.inr (.inr (.inr ⟨rfl,hs⟩)))⟩
    ·have h87:c≠87:=by rintro rfl;revert hs;decide
     have h78:c≠78:=by rintro rfl;revert hs;decide
     exact⟨_,_,kE h91 h87 h78,.inr (.inr (.inr (.inr ⟨rfl,hs⟩)))⟩
   ·rw[vq hl hd hs];exact⟨_,_,kE (by decide) (by decide) (by decide),.inr (.inr (.inr (.inl rfl)))⟩
  ·by_cases hk:kF (jx p c) ((fi p c cs).takeWhile eW)=true
   ·rw[vt hl hd hk];exact⟨_,_,wn,.inl rfl⟩
   ·rw[vp hl hd (by simpa using hk)];exact⟨_,_,kE (by decide) (by decide) (by decide),.inr (.inr (.inr (.inl rfl)))⟩
theorem jp(f:Fr)(k:List Fr)(p c:Nat)(cs:List Nat)(h:∀d∈fm,d=c→dl (.aft (f::k)) d=.err):¬run (.aft (f::k)) (pre (mk p (c::cs)))=.aft []:=by
 obtain⟨x,r,e,hx⟩:=tM p c cs;rw[e];refine ql ?_;rcases hx with rfl|rfl|rfl|rfl|⟨rfl,hs⟩
 ·cases f<;>rfl
 ·cases f<;>rfl
 ·cases f<;>rfl
 ·cases f<;>rfl
 ·exact h _ hs rfl
theorem ig(h:c∈fm)(h2:c≠45)(h3:c≠91):pre (mk p (c::cs))=c::pre (mk c cs):=by rw[nX h h2];exact kE h3 (by rintro rfl;revert h;decide) (by rintro rfl;revert h;decide)
theorem CT(e:mk p cs=87::r):∃d cs',cs=d::cs'∧eA d=true∧r=mk 87 (cs'.dropWhile eA):=by
 cases cs with
 | nil=>rw[gv]at e;cases e
 | cons d cs=>
  by_cases hl:eA d=true
  ·rw[t9 hl]at e;injection e with _ e;exact⟨d,cs,rfl,hl,e.symm⟩
  ·have hl:eA d=false:=by simpa using hl
   by_cases hd:(fi p d cs).takeWhile eW=[]
   ·by_cases hs:d∈fm
    ·rw[rJ hl hd hs]at e;injection e with e _;subst e;exact absurd hs (by decide)
    ·rw[vq hl hd hs]at e;injection e with e _;cases e
   ·by_cases hk:kF (jx p d) ((fi p d cs).takeWhile eW)=true
    ·rw[vt hl hd hk]at e;injection e with e _;cases e
    ·rw[vp hl hd (by simpa using hk)]at e;injection e with e _;cases e
theorem t7(h:p∉lO)(c:Nat):jx p c=(c==45):=by
 have:lO.contains p=false:=by
  cases e:lO.contains p with
  | false=>rfl
  | true=>exact absurd (ce e) h
 rw[jx,this];simp
theorem ua(h:p∉lO):fi p c cs=fi 0 c cs:=by rw[fi,fi,t7 h,t7 (by decide)]
theorem jz{a b:Prop}(h:¬a)(k:¬b):a↔b:=⟨λz=>absurd z h,λz=>absurd z k⟩
theorem main:∀(n:Nat)(cs:List Nat),cs.length≤n→∀k:List Fr,(∀p,p∉lO→(gX (.pc::fk k) cs↔run (.exp k) (pre (mk p cs))=.aft []))∧(∀p∈lO,(gX (fk k) cs↔run (.aft k) (pre (mk p cs))=.aft []))
 | n,[],_,k=>by
  refine⟨λp _=>?_,λp _=>?_⟩
  ·rw[gv,qF];exact⟨λa=>absurd a (gX.no rfl),λz=>by cases z⟩
  ·rw[gv,qF];cases k with
   | nil=>exact⟨λ_=>rfl,λ_=>.nil⟩
   | cons f k=>cases f<;>exact⟨λa=>absurd a (gX.no rfl),λz=>by cases z⟩
 | 0,_::_,z,_=>by simp at z
 | n+1,c::cs,z,k=>by
  have hz:cs.length≤n:=by simpa using z
  clear z;refine⟨λp hp=>?_,λp hp=>?_⟩
  ·
   by_cases hl:eA c=true
   ·have zr:=kM eA cs;have ht:tk .pc (c::cs)=some (pL (cs.dropWhile eA)):=if_pos hl;refine(gX.iff (p:=(pL (cs.dropWhile eA)).1) (r:=(pL (cs.dropWhile eA)).2) ht).trans ?_;rw[t9 hl];generalize cs.dropWhile eA=r at zr;cases r with
    | nil=>rw[qG (by rw[gv];simp),dJ];exact(main n [] (aR _) k).2 87 (by decide)
    | cons x r=>
     by_cases e:x=123
     ·subst e;rw[nX (by decide) (by decide)];cases r with
      | nil=>rw[qH (by rw[gv];simp),dJ,dJ];exact(main n [] (aR _) (.arg::k)).1 123 (by decide)
      | cons y r=>
       simp only[aC]at zr;by_cases e:y=125
       ·subst e;rw[nX (by decide) (by decide),wr,dJ];exact(main n r (by omega) k).2 125 (by decide)
       ·rw[qH (λr' q=>by obtain⟨_,q⟩:=t8 q (by decide) (by decide) (by decide);injection q with q _;exact e q),dJ,dJ];have:=(main n (y::r) (by simp only[aC];omega) (.arg::k)).1 123 (by decide);have hw:pL (123::y::r)=([.pc,.hnd],y::r):=by simp[pL,e]
        rw[hw];exact this
     ·rw[qG (λr' q=>by obtain⟨_,q⟩:=t8 q (by decide) (by decide) (by decide);injection q with q _;exact e q),dJ];have:=(main n (x::r) (by omega) k).2 87 (by decide);have hw:pL (x::r)=([],x::r):=by simp[pL,e]
      rw[hw];exact this
   ·have hl:eA c=false:=by simpa using hl
    have ht:tk .pc (c::cs)=if c=40 then some ([.pc,.btw],cs)else if c=91 then zo cs else AC c cs:=if_neg (by simp[hl])
    by_cases e:c=40
    ·subst e;rw[ig (by decide) (by decide) (by decide),dJ];exact(gX.iff rfl).trans ((main n cs hz (.op::k)).1 40 (by decide))
    ·rw[if_neg e]at ht;by_cases e1:c=91
     ·subst e1;rw[if_pos rfl]at ht;rw[nX (by decide) (by decide)];cases cs with
      | nil=>exact jz (gX.no ht) (by rw[gv,nU (by simp)];exact ql rfl)
      | cons d cs=>
       by_cases hd:eA d=true
       ·have zr:=kM eA cs;simp only[aC]at hz;have ht:tk .pc (91::d::cs)=match cs.dropWhile eA with
          | []=>none
          | x::r=>if x=61 then some ([.pc,.sg 93,.pc],r)else none:=by
         rw[ht,zo,aU,if_pos hd,if_neg (by simp),bJ,if_pos hd]
        rw[t9 hd];generalize cs.dropWhile eA=r at zr ht;cases r with
        | nil=>exact jz (gX.no ht) (by rw[gv,nU (by simp)];exact ql rfl)
        | cons x r=>
         simp only[aC]at zr;by_cases e:x=61
         ·subst e;rw[nX (by decide) (by decide),wo,dJ];exact(gX.iff (ht.trans (if_pos rfl))).trans ((main n r (by omega) (.lt::k)).1 61 (by decide))
         ·refine jz (gX.no (ht.trans (if_neg e))) ?_;rw[nU λr' q=>by
           injection q with _ q;obtain⟨_,q⟩:=t8 q (by decide) (by decide) (by decide);injection q with q _;exact e q]
          exact ql rfl
       ·refine jz (gX.no (ht.trans ?_)) ?_
        ·rw[zo,aU,if_neg hd,if_pos rfl]
        ·rw[nU λr' q=>by
          obtain⟨d',cs',q,h,_⟩:=CT q;injection q with q _;subst q;exact hd h]
         exact ql rfl
     ·rw[if_neg e1]at ht;have hb:fi p c cs=fi 0 c cs:=ua hp;have hn:jx p c=(c==45):=t7 hp c;have zb:=lH p c cs;unfold AC at ht;rw[←hb,←hn]at ht;by_cases hd:(fi p c cs).takeWhile eW=[]
      ·rw[if_pos hd]at ht;refine jz (gX.no ht) ?_;by_cases hs:c∈fm
       ·rw[rJ hl hd hs,kE e1 (by rintro rfl;revert hs;decide) (by rintro rfl;revert hs;decide)];have h1:c≠80:=by rintro rfl;revert hs;decide
        have h2:c≠76:=by rintro rfl;revert hs;decide
        have h3:c≠83:=by rintro rfl;revert hs;decide
        exact ql (by simp[dl,e,h1,h2,h3])
       ·rw[vq hl hd hs,kE (by decide) (by decide) (by decide)];exact ql rfl
      ·rw[if_neg hd]at ht;by_cases hk:kF (jx p c) ((fi p c cs).takeWhile eW)=true
       ·rw[if_pos hk]at ht;rw[vt hl hd hk,wn,dJ];exact(gX.iff ht).trans ((main n _ (by have:=zb hd;omega) k).2 78 (by decide))
       ·rw[if_neg hk]at ht;rw[vp hl hd (by simpa using hk),kE (by decide) (by decide) (by decide)];exact jz (gX.no ht) (ql rfl)
  ·cases k with
   | nil=>refine⟨λa=>(by cases a),λh=>?_⟩;obtain⟨x,r,e,_⟩:=tM p c cs;rw[e,dJ,show dl (.aft []) x=.err from rfl,iy]at h;cases h
   | cons f k=>
    cases f with
    | op=>
     by_cases e:c=43
     ·subst e;rw[ig (by decide) (by decide) (by decide),dJ];exact(gX.iff rfl).trans ((main n cs hz (.cl::k)).1 43 (by decide))
     ·by_cases e2:c=45
      ·subst e2;rw[Aw hp,kE (by decide) (by decide) (by decide),dJ];exact(gX.iff rfl).trans ((main n cs hz (.cl::k)).1 45 (by decide))
      ·by_cases e3:c=63
       ·subst e3;rw[ig (by decide) (by decide) (by decide),dJ];exact(gX.iff rfl).trans ((main n cs hz (.q::k)).1 63 (by decide))
       ·exact⟨λa=>absurd a (gX.no (by simp[tk,e,e2,e3])),λh=>absurd h (jp _ _ _ _ _ λd _ q=>by subst q;simp[dl,e,e2,e3])⟩
    | cl=>
     by_cases e:c=41
     ·subst e;rw[ig (by decide) (by decide) (by decide),dJ];exact(gX.iff rfl).trans ((main n cs hz k).2 41 (by decide))
     ·exact⟨λa=>absurd a (gX.no (by simp[tk,e])),λh=>absurd h (jp _ _ _ _ _ λd _ q=>by subst q;simp[dl,e])⟩
    | q=>
     by_cases e:c=58
     ·subst e;rw[ig (by decide) (by decide) (by decide),dJ];exact(gX.iff rfl).trans ((main n cs hz (.cl::k)).1 58 (by decide))
     ·exact⟨λa=>absurd a (gX.no (by simp[tk,e])),λh=>absurd h (jp _ _ _ _ _ λd _ q=>by subst q;simp[dl,e])⟩
    | lt=>
     by_cases e:c=93
     ·subst e;rw[ig (by decide) (by decide) (by decide),dJ];exact(gX.iff rfl).trans ((main n cs hz k).1 93 (by decide))
     ·exact⟨λa=>absurd a (gX.no (by simp[tk,e])),λh=>absurd h (jp _ _ _ _ _ λd _ q=>by subst q;simp[dl,e])⟩
    | arg=>
     by_cases e:c=44
     ·subst e;rw[ig (by decide) (by decide) (by decide),dJ];exact(gX.iff rfl).trans ((main n cs hz (.arg::k)).1 44 (by decide))
     ·by_cases e2:c=125
      ·subst e2;rw[ig (by decide) (by decide) (by decide),dJ];exact(gX.iff rfl).trans ((main n cs hz k).2 125 (by decide))
      ·exact⟨λa=>absurd a (gX.no (by simp[tk,e,e2])),λh=>absurd h (jp _ _ _ _ _ λd _ q=>by subst q;simp[dl,e,e2])⟩
def Bq(cs:List Nat):Prop:=iZ cs.length (pre (mk 0 cs))=[80]
theorem zy:Bq cs↔gX [.pc] cs:=
 (qp (aE (vW _) (jR _ _ _ (aB _)))).trans ((main _ cs (aB _) []).1 0 (by decide)).symm
inductive Pg where
 | num(b:Bool)(ds:List Nat)
 | name(w:List Nat)
 | two(s:Bool)(a b:Pg)
 | cho(a b c:Pg)
 | lt(w:List Nat)(a b:Pg)
 | st(w:List Nat)(ks:List Pg)
def sg:Bool→Nat
 | true=>43
 | false=>45
mutual
def tx:Pg→List Nat
 | .num b ds=>if b then 45::ds else ds
 | .name w=>w
 | .two s a b=>40::(tx a++sg s::(tx b++[41]))
 | .cho a b c=>40::(tx a++63::(tx b++58::(tx c++[41])))
 | .lt w a b=>91::(w++61::(tx a++93::tx b))
 | .st w []=>w++[123,125]
 | .st w (k::ks)=>w++123::(tx k++(re ks++[125]))
def re:List Pg→List Nat
 | []=>[]
 | k::ks=>44::(tx k++re ks)
end
def qo:List Pg→List Nat
 | []=>[]
 | k::ks=>tx k++44::qo ks
theorem pJ:∀(a b:List Pg),qo (a++b)=qo a++qo b
 | [],b=>rfl
 | k::a,b=>by simp[qo,pJ a b]
theorem pI:∀(k:Pg)(ks:List Pg)(g:Pg),qo (k::ks)++tx g=tx k++re (ks++[g])
 | k,[],g=>by simp[qo,re]
 | k,j::ks,g=>by have:=pI j ks g;simp only[qo,ah,bi,re]at this⊢;rw[this]
inductive Hk where
 | two(s:Bool)|cho|lt(w:List Nat)
inductive gI where
 | piece|between|handed(w:List Nat)(n:Nat)|sign(c:Nat)|make(h:Hk)(n:Nat)
def CU:Hk→List Pg→List Pg
 | .two s,b::a::ms=>.two s a b::ms
 | .cho,c::b::a::ms=>.cho a b c::ms
 | .lt w,b::a::ms=>.lt w a b::ms
 | _,ms=>ms
def BU(w:List Nat)(n:Nat)(ms:List Pg):List Pg:=.st w (ms.take n).reverse::ms.drop n
abbrev Rs:=List gI×List Pg×List Nat
def kc(w:List Nat)(ms:List Pg):List Nat→Rs
 | []=>([],.name w::ms,[])
 | x::r=>if x=123 then(match r with
  | []=>([.piece,.handed w 1],ms,[])
  | y::r=>if y=125 then([],.st w []::ms,r)else([.piece,.handed w 1],ms,y::r))else([],.name w::ms,x::r)
def rh(ms:List Pg)(r:List Nat):Option Rs:=
 if r.takeWhile eA=[]then none else match r.dropWhile eA with
  | []=>none
  | x::r'=>if x=61 then some ([.piece,.sign 93,.piece,.make (.lt (r.takeWhile eA)) 2],ms,r')else none
def tw(ms:List Pg)(c:Nat)(cs:List Nat):Option Rs:=
 if(fi 0 c cs).takeWhile eW=[]then none else if kF (c==45) ((fi 0 c cs).takeWhile eW)then some ([],.num (c==45) ((fi 0 c cs).takeWhile eW)::ms,(fi 0 c cs).dropWhile eW)else none
def nx(ms:List Pg):gI→List Nat→Option Rs
 | .piece,[]=>none
 | .piece,c::cs=>if eA c then some (kc (c::cs.takeWhile eA) ms (cs.dropWhile eA))else if c=40 then some ([.piece,.between],ms,cs)else if c=91 then rh ms cs else tw ms c cs
 | .between,[]=>none
 | .between,c::cs=>if c=43 then some ([.piece,.sign 41,.make (.two true) 2],ms,cs)else if c=45 then some ([.piece,.sign 41,.make (.two false) 2],ms,cs)else if c=63 then some ([.piece,.sign 58,.piece,.sign 41,.make .cho 3],ms,cs)else none
 | .handed _ _,[]=>none
 | .handed w n,c::cs=>if c=44 then some ([.piece,.handed w (n+1)],ms,cs)else if c=125 then some ([],BU w n ms,cs)else none
 | .sign _,[]=>none
 | .sign d,c::cs=>if c=d then some ([],ms,cs)else none
 | .make h _,cs=>some ([],CU h ms,cs)
inductive gN(x:List Nat):List gI→List Pg→List Nat→Prop where
 | start:gN x [.piece] [] x
 | next{s:gI}{ss p:List gI}{ms ms':List Pg}{r r':List Nat}:gN x (s::ss) ms r→nx ms s r=some (p,ms',r')→gN x (p++ss) ms' r'
def er:List gI→List F
 | []=>[]
 | .piece::ss=>.pc::er ss
 | .between::ss=>.btw::er ss
 | .handed _ _::ss=>.hnd::er ss
 | .sign c::ss=>.sg c::er ss
 | .make _ _::ss=>er ss
theorem j0:∀a b:List gI,er (a++b)=er a++er b
 | [],b=>rfl
 | .piece::a,b=>by simp[er,j0 a b]
 | .between::a,b=>by simp[er,j0 a b]
 | .handed _ _::a,b=>by simp[er,j0 a b]
 | .sign _::a,b=>by simp[er,j0 a b]
 | .make _ _::a,b=>by simp[er,j0 a b]
def fo(o:Option Rs):Option (List F×List Nat):=o.map λz=>(er z.1,z.2.2)
theorem CY(w:List Nat)(ms:List Pg):∀r,(er (kc w ms r).1,(kc w ms r).2.2)=pL r
 | []=>rfl
 | x::r=>by
  by_cases e:x=123
  ·cases r with
   | nil=>simp[kc,pL,e,er]
   | cons y r=>
    by_cases e2:y=125
    ·simp[kc,pL,e,e2,er]
    ·simp[kc,pL,e,e2,er]
  ·simp[kc,pL,e,er]
def zT:gI→Bool
 | .make _ _=>true
 | _=>false
theorem w6(ms:List Pg)(s:gI)(r:List Nat)(h:zT s=false):∃f,(∀K,er (s::K)=f::er K)∧tk f r=fo (nx ms s r):=by
 cases s with
 | piece=>
  refine⟨.pc,λ_=>rfl,?_⟩;cases r with
  | nil=>rfl
  | cons c r=>
   show(if eA c=true then some (pL (r.dropWhile eA))else if c=40 then some ([.pc,.btw],r)else if c=91 then zo r else AC c r)=fo (if eA c then some (kc (c::r.takeWhile eA) ms (r.dropWhile eA))else if c=40 then some ([.piece,.between],ms,r)else if c=91 then rh ms r else tw ms c r);by_cases h1:eA c=true
   ·rw[if_pos h1,if_pos h1];simp only[fo,Option.map_some];rw[CY]
   ·rw[if_neg h1,if_neg h1];by_cases h2:c=40
    ·rw[if_pos h2,if_pos h2];rfl
    ·rw[if_neg h2,if_neg h2];by_cases h3:c=91
     ·rw[if_pos h3,if_pos h3];unfold zo rh;by_cases h4:r.takeWhile eA=[]
      ·rw[if_pos h4,if_pos h4];rfl
      ·rw[if_neg h4,if_neg h4];generalize r.dropWhile eA=r';cases r' with
       | nil=>rfl
       | cons x r'=>
        by_cases h5:x=61
        ·simp[h5,fo,er]
        ·simp[h5,fo]
     ·rw[if_neg h3,if_neg h3];unfold AC tw;by_cases h4:(fi 0 c r).takeWhile eW=[]
      ·rw[if_pos h4,if_pos h4];rfl
      ·rw[if_neg h4,if_neg h4];by_cases h5:kF (c==45) ((fi 0 c r).takeWhile eW)=true
       ·rw[if_pos h5,if_pos h5];rfl
       ·rw[if_neg h5,if_neg h5];rfl
 | between=>
  refine⟨.btw,λ_=>rfl,?_⟩;cases r with
  | nil=>rfl
  | cons c r=>
   simp only[tk,nx];by_cases h1:c=43
   ·simp[h1,fo,er]
   ·by_cases h2:c=45
    ·simp[h2,fo,er]
    ·by_cases h3:c=63
     ·simp[h3,fo,er]
     ·simp[h1,h2,h3,fo]
 | handed w n=>
  refine⟨.hnd,λ_=>rfl,?_⟩;cases r with
  | nil=>rfl
  | cons c r=>
   simp only[tk,nx];by_cases h1:c=44
   ·simp[h1,fo,er]
   ·by_cases h2:c=125
    ·simp[h2,fo,er]
    ·simp[h1,h2,fo]
 | sign d=>
  refine⟨.sg d,λ_=>rfl,?_⟩;cases r with
  | nil=>rfl
  | cons c r=>
   simp only[tk,nx];by_cases h1:c=d
   ·simp[h1,fo,er]
   ·simp[h1,fo]
 | make k n=>cases h
theorem sq(e:nx ms s r=some (p,ms',r'))(ss:List gI):gX (er (s::ss)) r↔gX (er p++er ss) r':=by
 cases hm:zT s with
 | true=>
  cases s<;>cases hm
  cases e;exact Iff.rfl
 | false=>obtain⟨f,hf,ht⟩:=w6 ms s r hm;rw[hf];rw[e]at ht;exact gX.iff ht
theorem gN.acc(h:gN x ss ms r):gX [.pc] x↔gX (er ss) r:=by
 induction h with
 | start=>exact Iff.rfl
 | next _ e ih=>rw[j0];exact ih.trans (sq e _)
theorem gN.no(h:gN x (s::ss) ms r)(e:nx ms s r=none):¬gX [.pc] x:=by
 rw[h.acc];cases hm:zT s with
 | true=>
  cases s<;>cases hm
  cases e
 | false=>obtain⟨f,hf,ht⟩:=w6 ms s r hm;rw[hf];rw[e]at ht;exact gX.no ht
theorem gN.left(h:gN x [] ms (c::r)):¬gX [.pc] x:=by rw[h.acc];exact λa=>by cases a
theorem gN.yes(h:gN x [] ms []):gX [.pc] x:=h.acc.mpr .nil
def Wd(w:List Nat):Prop:=w≠[]∧∀c∈w,eA c=true
mutual
def Ok:Pg→Prop
 | .num b ds=>ds≠[]∧(∀c∈ds,eW c=true)∧kF b ds=true∧ds.length≤500
 | .name w=>Wd w
 | .two _ a b=>Ok a∧Ok b
 | .cho a b c=>Ok a∧Ok b∧Ok c
 | .lt w a b=>Wd w∧Ok a∧Ok b
 | .st w ks=>Wd w∧wV ks
def wV:List Pg→Prop
 | []=>True
 | k::ks=>Ok k∧wV ks
end
theorem mj:∀(a b:List Pg),wV (a++b)↔wV a∧wV b
 | [],b=>by simp[wV]
 | k::a,b=>by simp[wV,mj a b,and_assoc]
inductive hG:List gI→List Pg→List Nat→Prop where
 | top:hG [] [] []
 | op:hG ss ms t→hG (.between::ss) ms (t++[40])
 | two(s:Bool):hG ss ms t→Ok a→hG (.sign 41::.make (.two s) 2::ss) (a::ms) (t++40::(tx a++[sg s]))
 | cho2:hG ss ms t→Ok a→hG (.sign 58::.piece::.sign 41::.make .cho 3::ss) (a::ms) (t++40::(tx a++[63]))
 | cho3:hG ss ms t→Ok a→Ok b→hG (.sign 41::.make .cho 3::ss) (b::a::ms) (t++40::(tx a++63::(tx b++[58])))
 | lt1:hG ss ms t→Wd w→hG (.sign 93::.piece::.make (.lt w) 2::ss) ms (t++91::(w++[61]))
 | lt2:hG ss ms t→Wd w→Ok a→hG (.make (.lt w) 2::ss) (a::ms) (t++91::(w++61::(tx a++[93])))
 | hnd(ks:List Pg):hG ss ms t→Wd w→wV ks→n=ks.length+1→hG (.handed w n::ss) (ks.reverse++ms) (t++(w++123::qo ks))
inductive wU:List gI→List Pg→List Nat→Prop where
 | exp:hG ss ms t→wU (.piece::ss) ms t
 | aft:hG ss ms t→Ok g→wU ss (g::ms) (t++tx g)
 | mk2:hG ss ms t→Ok a→Ok b→wU (.make (.two s) 2::ss) (b::a::ms) (t++tx (.two s a b))
 | mk3:hG ss ms t→Ok a→Ok b→Ok c→wU (.make .cho 3::ss) (c::b::a::ms) (t++tx (.cho a b c))
theorem kj(f:Nat→Bool):∀cs:List Nat,∀c∈cs.takeWhile f,f c=true
 | [],c,h=>by simp at h
 | d::cs,c,h=>by
  rw[aU]at h;by_cases e:f d=true
  ·rw[if_pos e]at h;rcases aF.mp h with rfl|h
   ·exact e
   ·exact kj f cs c h
  ·rw[if_neg e]at h;simp at h
theorem pK(f:Nat→Bool)(cs:List Nat):cs.takeWhile f++cs.dropWhile f=cs:=List.takeWhile_append_dropWhile
theorem yi(w:List Nat)(g:Pg)(ks ms:List Pg):BU w (ks.length+1) (g::(ks.reverse++ms))=.st w (ks++[g])::ms:=by rw[BU,cE,cC,bT (by simp),ax (by simp),am,cF]
def Rn(x:List Nat):Prop:=∀j,((x.drop j).takeWhile eW).length≤500
theorem wU.next(hrn:Rn r)(h:wU (s::ss) ms t)(e:nx ms s r=some (p,ms',r')):∃t',wU (p++ss) ms' t'∧t'++r'=t++r:=by
 generalize hq:s::ss=q at h;cases h with
 | exp h=>
  injection hq with q1 q2;subst q1 q2;cases r with
  | nil=>cases e
  | cons c r=>
   change (if eA c then some (kc (c::r.takeWhile eA) ms (r.dropWhile eA))else if c=40 then some ([.piece,.between],ms,r)else if c=91 then rh ms r else tw ms c r)=_ at e
   by_cases h1:eA c=true
   ·rw[if_pos h1]at e;injection e with e;have hw:Wd (c::r.takeWhile eA):=⟨by simp,λd m=>by
     rcases aF.mp m with rfl|m
     ·exact h1
     ·exact kj eA r d m⟩
    have hr:=pK eA r;generalize r.dropWhile eA=r1 at e hr;generalize r.takeWhile eA=w at e hw hr;subst hr;cases r1 with
    | nil=>cases e;exact⟨_,.aft h hw,by simp[tx]⟩
    | cons x r1=>
     by_cases h2:x=123
     ·subst h2;cases r1 with
      | nil=>
       cases e;exact⟨_,.exp (.hnd [] h hw trivial rfl),by simp[qo]⟩
      | cons y r1=>
       by_cases h3:y=125
       ·subst h3;cases e;exact⟨_,.aft h (g:=.st _ []) ⟨hw,trivial⟩,by simp[tx]⟩
       ·simp only[kc,h3,if_true,if_false]at e;cases e;exact⟨_,.exp (.hnd [] h hw trivial rfl),by simp[qo]⟩
     ·simp only[kc,h2,if_false]at e;cases e;exact⟨_,.aft h (g:=.name _) hw,by simp[tx]⟩
   ·rw[if_neg h1]at e;by_cases h2:c=40
    ·subst h2;cases e;exact⟨_,.exp (.op h),by simp⟩
    ·rw[if_neg h2]at e;by_cases h3:c=91
     ·subst h3;rw[if_pos rfl]at e;unfold rh at e;by_cases h4:r.takeWhile eA=[]
      ·rw[if_pos h4]at e;cases e
      ·rw[if_neg h4]at e;have hw:Wd (r.takeWhile eA):=⟨h4,kj eA r⟩;have hr:=pK eA r;generalize r.dropWhile eA=r1 at e hr;generalize r.takeWhile eA=w at e hw hr;subst hr;cases r1 with
       | nil=>cases e
       | cons x r1=>
        by_cases h5:x=61
        ·subst h5;cases e;exact⟨_,.exp (.lt1 h hw),by simp⟩
        ·simp[h5]at e
     ·rw[if_neg h3]at e;unfold tw at e;by_cases h4:(fi 0 c r).takeWhile eW=[]
      ·rw[if_pos h4]at e;cases e
      ·rw[if_neg h4]at e;by_cases h5:kF (c==45) ((fi 0 c r).takeWhile eW)=true
       ·rw[if_pos h5]at e;cases e;refine⟨_,.aft h (g:=.num _ _) ⟨h4,kj eW _,h5,?_⟩,?_⟩
        ·by_cases h6:c=45
         ·subst h6;exact hrn 1
         ·have hq:fi 0 c r=c::r:=by simp[fi,jx,h6]
          rw[hq];exact hrn 0
        have hr:=pK eW (fi 0 c r);rw[ah]
        congr 1
        by_cases h6:c=45
        ·subst h6;have hb:fi 0 45 r=r:=rfl;rw[hb]at hr⊢;show 45::(r.takeWhile eW++r.dropWhile eW)=45::r;rw[hr]
        ·have hb:fi 0 c r=c::r:=by simp[fi,jx,h6]
         have hc:(c==45)=false:=by simp[h6]
         rw[hb]at hr;rw[hc,hb];exact hr
       ·rw[if_neg h5]at e;cases e
 | @aft ss0 ms t g h hg=>
  subst hq;generalize hq:s::ss=q at h;cases h with
  | top=>cases hq
  | op h=>
   injection hq with q1 q2;subst q1 q2;cases r with
   | nil=>cases e
   | cons c r=>
    simp only[nx]at e;by_cases h1:c=43
    ·subst h1;cases e;exact⟨_,.exp (.two true h hg),by simp[sg]⟩
    ·rw[if_neg h1]at e;by_cases h2:c=45
     ·subst h2;cases e;exact⟨_,.exp (.two false h hg),by simp[sg]⟩
     ·rw[if_neg h2]at e;by_cases h3:c=63
      ·subst h3;cases e;exact⟨_,.exp (.cho2 h hg),by simp⟩
      ·rw[if_neg h3]at e;cases e
  | two s h ha=>
   injection hq with q1 q2;subst q1 q2;cases r with
   | nil=>cases e
   | cons c r=>
    simp only[nx]at e;by_cases h1:c=41
    ·subst h1;cases e;exact⟨_,.mk2 h ha hg,by simp[tx]⟩
    ·rw[if_neg h1]at e;cases e
  | cho2 h ha=>
   injection hq with q1 q2;subst q1 q2;cases r with
   | nil=>cases e
   | cons c r=>
    simp only[nx]at e;by_cases h1:c=58
    ·subst h1;cases e;exact⟨_,.exp (.cho3 h ha hg),by simp⟩
    ·rw[if_neg h1]at e;cases e
  | cho3 h ha hb=>
   injection hq with q1 q2;subst q1 q2;cases r with
   | nil=>cases e
   | cons c r=>
    simp only[nx]at e;by_cases h1:c=41
    ·subst h1;cases e;exact⟨_,.mk3 h ha hb hg,by simp[tx]⟩
    ·rw[if_neg h1]at e;cases e
  | lt1 h hw=>
   injection hq with q1 q2;subst q1 q2;cases r with
   | nil=>cases e
   | cons c r=>
    simp only[nx]at e;by_cases h1:c=93
    ·subst h1;cases e;exact⟨_,.exp (.lt2 h hw hg),by simp⟩
    ·rw[if_neg h1]at e;cases e
  | lt2 h hw ha=>injection hq with q1 q2;subst q1 q2;cases e;exact⟨_,.aft h (g:=.lt _ _ _) ⟨hw,ha,hg⟩,by simp[tx]⟩
  | hnd ks h hw hk hn=>
   injection hq with q1 q2;subst q1 q2;cases r with
   | nil=>cases e
   | cons c r=>
    simp only[nx]at e;by_cases h1:c=44
    ·subst h1;cases e;have:=hG.hnd (ks++[g]) h hw ((mj _ _).mpr ⟨hk,hg,trivial⟩) rfl;simp only[cG,am,List.reverse_nil,List.nil_append,List.singleton_append,aD,aC,aG]at this;rw[hn];exact⟨_,.exp this,by simp[pJ,qo]⟩
    ·rw[if_neg h1]at e;by_cases h2:c=125
     ·subst h2;cases e;subst hn;rw[yi];refine⟨_,.aft h (g:=.st _ (ks++[g])) ⟨hw,(mj _ _).mpr ⟨hk,hg,trivial⟩⟩,?_⟩;cases ks with
      | nil=>simp[tx,re,qo]
      | cons k ks=>have:=pI k ks g;simp only[bi,tx,ah,List.nil_append];rw[←ah (tx k),←this];simp
     ·rw[if_neg h2]at e;cases e
 | mk2 h ha hb=>injection hq with q1 q2;subst q1 q2;cases e;exact⟨_,.aft h (g:=.two _ _ _) ⟨ha,hb⟩,rfl⟩
 | mk3 h ha hb hc=>injection hq with q1 q2;subst q1 q2;cases e;exact⟨_,.aft h (g:=.cho _ _ _) ⟨ha,hb,hc⟩,rfl⟩
theorem Rn.suf(h:Rn x)(e:t++r=x):Rn r:=λj=>by have:=h (t.length+j);rwa[←e,←bU,ax rfl]at this
theorem gN.sit(hx:Rn x)(h:gN x ss ms r):∃t,wU ss ms t∧t++r=x:=by
 induction h with
 | start=>exact⟨_,.exp .top,rfl⟩
 | next _ e ih=>obtain⟨t,h,q⟩:=ih;obtain⟨t',h',q'⟩:=h.next (hx.suf q) e;exact⟨t',h',q'.trans q⟩
theorem gN.done(hx:Rn x)(h:gN x [] ms []):∃g,ms=[g]∧Ok g∧tx g=x:=by
 obtain⟨t,h,q⟩:=h.sit hx;generalize hz:([]:List gI)=z at h;cases h with
 | aft h hg=>
  subst hz;cases h with
  | top=>exact⟨_,rfl,hg,by simpa using q⟩
 | _=>cases hz
end S11
namespace R11
open PySem L2 SW
open S11 hiding Wd
def sx(l:List Nat):Str:=⟨l.toArray⟩
theorem eI:cs (sx l)=l:=by simp[cs,sx]
theorem jX:sx (cs w)=w:=gy eI
def nv(ds:List Nat):Nat:=ds.foldl (λa c=>a*10+(c-48)) 0
def vl(b:Bool)(ds:List Nat):Int:=if b then -(nv ds:Int)else nv ds
def kg:Pg→List V
 | .num b ds=>[.str "number",.int (vl b ds)]
 | .name w=>[.str "name",.str (sx w)]
 | .two true _ _=>[.str "sum"]
 | .two false _ _=>[.str "less"]
 | .cho _ _ _=>[.str "choose"]
 | .lt w _ _=>[.str "let",.str (sx w)]
 | .st w _=>[.str "stamp",.str (sx w)]
def kd:Pg→List Pg
 | .num _ _=>[]
 | .name _=>[]
 | .two _ a b=>[a,b]
 | .cho a b c=>[a,b,c]
 | .lt _ a b=>[a,b]
 | .st _ ks=>ks
inductive GL(H:Hp):List Pg→List V→Prop where
 | nil:GL H [] []
 | cons{g:Pg}{p:Addr}{us vs:List V}{gs:List Pg}:H p=some (.tup (kg g++us))→GL H (kd g) us→GL H gs vs→GL H (g::gs) (.ref p::vs)
theorem GL.mono(m:fZ H H')(h:GL H gs vs):GL H' gs vs:=by
 induction h with
 | nil=>exact .nil
 | cons a _ _ i1 i2=>exact .cons (m _ _ a) i1 i2
theorem GL.app(h:GL H gs vs)(k:GL H hs ws):GL H (gs++hs) (vs++ws):=by
 induction h with
 | nil=>exact k
 | cons a b _ _ i2=>exact .cons a b i2
theorem GL.length(h:GL H gs vs):vs.length=gs.length:=by
 induction h with
 | nil=>rfl
 | cons _ _ _ _ i=>simp[i]
theorem GL.split:∀{gs hs:List Pg}{vs:List V},GL H (gs++hs) vs→∃a b,vs=a++b∧GL H gs a∧GL H hs b
 | [],_,vs,h=>⟨[],vs,rfl,.nil,h⟩
 | g::gs,hs,_,.cons a b r=>by obtain⟨x,y,rfl,h1,h2⟩:=GL.split (gs:=gs) r;exact⟨_,y,rfl,.cons a b h1,h2⟩
def Bb:Hk→List V
 | .two true=>[.str "sum"]
 | .two false=>[.str "less"]
 | .cho=>[.str "choose"]
 | .lt w=>[.str "let",.str (sx w)]
def ar:Hk→Nat
 | .cho=>3
 | _=>2
def lL(H:Hp):gI→V→Prop
 | .piece,v=>∃p,v=.ref p∧H p=some (.tup [.str "piece"])
 | .between,v=>∃p,v=.ref p∧H p=some (.tup [.str "between"])
 | .handed w n,v=>∃p,v=.ref p∧H p=some (.tup [.str "handed",.str (sx w),.int n])
 | .sign c,v=>∃p,v=.ref p∧H p=some (.tup [.str "sign",.str (sx [c])])
 | .make h n,v=>∃p q,v=.ref p∧H p=some (.tup [.str "make",.ref q,.int n])∧H q=some (.tup (Bb h))
theorem lL.mono(m:fZ H H'):∀{s:gI}{v:V},lL H s v→lL H' s v
 | .piece,_,⟨p,e,h⟩=>⟨p,e,m _ _ h⟩
 | .between,_,⟨p,e,h⟩=>⟨p,e,m _ _ h⟩
 | .handed _ _,_,⟨p,e,h⟩=>⟨p,e,m _ _ h⟩
 | .sign _,_,⟨p,e,h⟩=>⟨p,e,m _ _ h⟩
 | .make _ _,_,⟨p,q,e,h,g⟩=>⟨p,q,e,m _ _ h,m _ _ g⟩
inductive m6(H:Hp):List gI→List V→Prop where
 | nil:m6 H [] []
 | cons{s:gI}{u:V}{ss:List gI}{us:List V}:lL H s u→m6 H ss us→m6 H (s::ss) (u::us)
theorem m6.mono(m:fZ H H')(h:m6 H ss us):m6 H' ss us:=by
 induction h with
 | nil=>exact .nil
 | cons a _ i=>exact .cons (a.mono m) i
theorem m6.length(h:m6 H ss us):us.length=ss.length:=by
 induction h with
 | nil=>rfl
 | cons _ _ i=>simp[i]
theorem m6.app(h:m6 H ss us)(k:m6 H ts ws):m6 H (ss++ts) (us++ws):=by
 induction h with
 | nil=>exact k
 | cons a _ i=>exact .cons a i
theorem m6.snoc:∀{ss:List gI}{us:List V},m6 H (ss++[s]) us→∃ws u,us=ws++[u]∧m6 H ss ws∧lL H s u
 | [],_,.cons a .nil=>⟨[],_,rfl,.nil,a⟩
 | t::ss,_,.cons a r=>by obtain⟨ws,u,rfl,h1,h2⟩:=m6.snoc (ss:=ss) r;exact⟨_::ws,u,rfl,.cons a h1,h2⟩
structure RC(K:aA)(C:Addr):Prop where
 cl:oK K C
 nL:gg K C "line"
 nA:gg K C "at"
 nS:gg K C "steps"
 nM:gg K C "made"
def rf(x:Str)(k:Nat)(sl ml:Addr):List (Str×V):=[("line",.str x),("at",.int k),("steps",.ref sl),("made",.ref ml)]
theorem ka:(rf x k sl ml).lookup ("line":Str)=some (.str x):=by
 have e1:(("line":Str)=="line")=true:=by decide
 simp only[rf,List.lookup,e1]
theorem iM:(rf x k sl ml).lookup ("at":Str)=some (.int k):=by
 have e1:(("at":Str)=="line")=false:=by decide
 have e2:(("at":Str)=="at")=true:=by decide
 simp only[rf,List.lookup,e1,e2]
theorem kz:(rf x k sl ml).lookup ("steps":Str)=some (.ref sl):=by
 have e1:(("steps":Str)=="line")=false:=by decide
 have e2:(("steps":Str)=="at")=false:=by decide
 have e3:(("steps":Str)=="steps")=true:=by decide
 simp only[rf,List.lookup,e1,e2,e3]
theorem kZ:(rf x k sl ml).lookup ("made":Str)=some (.ref ml):=by
 have e1:(("made":Str)=="line")=false:=by decide
 have e2:(("made":Str)=="at")=false:=by decide
 have e3:(("made":Str)=="steps")=false:=by decide
 have e4:(("made":Str)=="made")=true:=by decide
 simp only[rf,List.lookup,e1,e2,e3,e4]
theorem eG{m:Str}(e1:(m=="line")=false:=by decide)(e2:(m=="at")=false:=by decide)(e3:(m=="steps")=false:=by decide)(e4:(m=="made")=false:=by decide):(rf x k sl ml).lookup m=none:=by simp only[rf,List.lookup,e1,e2,e3,e4]
theorem tD{z:Int}{j:Nat}(h:z=(j:Int)):fX "at" (.int z) (rf x k sl ml)=rf x j sl ml:=by
 subst h;have nLA:¬(("line":Str)="at"):=by decide
 simp only[rf,fX,if_neg nLA,if_true]
theorem tE:(rf x k sl ml).length<1000:=by show 4<1000;decide
def Ap(p:Addr)(H H':Hp):Prop:=∀b,b≠p→H' b=H b
theorem lK:Ap p H (dc H p o):=λb h=>dN h
theorem wQ:Ap p H H:=λ_ _=>rfl
theorem oG(a:Ap p H H1)(b:Ap p H1 H2):Ap p H H2:=λc h=>(b c h).trans (a c h)
theorem AB(h:H p=some (.ins C dx fs))(a:Ap p H H'):fZ H H':=λb xs e=>by rw[a b (iW e h (by intro z;cases z))];exact e
structure RB(C:Addr)(H₀ H:Hp)(x:Str)(p sl ml dx:Addr)(k:Nat)(ss:List gI)(ms:List Pg)(us vs:List V):Prop where
 same:dQ H₀ H
 n1:H₀ p=none
 n2:H₀ sl=none
 n3:H₀ ml=none
 ob:H p=some (.ins C dx (rf x k sl ml))
 sl_:H sl=some (.lst us)
 ml_:H ml=some (.lst vs)
 ne:sl≠ml
 st:m6 H ss.reverse us
 md:GL H ms.reverse vs
 kx:k≤(cs x).length
 xl:(cs x).length≤100000
 rn:S11.Rn (cs x)
theorem RB.mv(B:RB C H₀ H x p sl ml dx k ss ms us vs)(ap:Ap p H H')(hp:H' p=some (.ins C dx (rf x k' sl ml)))(hk:k'≤(cs x).length):RB C H₀ H' x p sl ml dx k' ss ms us vs:=
 have m:=AB B.ob ap
 ⟨λb o e=>by rw[ap b (da e B.n1)];exact B.same b o e,B.n1,B.n2,B.n3,hp,by rw[ap sl (iW B.sl_ B.ob (by intro z;cases z))];exact B.sl_,by rw[ap ml (iW B.ml_ B.ob (by intro z;cases z))];exact B.ml_,B.ne,B.st.mono m,B.md.mono m,hk,B.xl,B.rn⟩
theorem RB.grow(B:RB C H₀ H x p sl ml dx k ss ms us vs)(s:dQ H H'):RB C H₀ H' x p sl ml dx k ss ms us vs:=
 ⟨B.same.trans s,B.n1,B.n2,B.n3,s _ _ B.ob,s _ _ B.sl_,s _ _ B.ml_,B.ne,B.st.mono (dI s),B.md.mono (dI s),B.kx,B.xl,B.rn⟩
theorem RB.setS(B:RB C H₀ H x p sl ml dx k ss ms us vs)(h:m6 H ss'.reverse us'):RB C H₀ (dc H sl (.lst us')) x p sl ml dx k ss' ms us' vs:=
 have m:=fN (o:=.lst us') B.sl_
 ⟨dw B.same B.n2,B.n1,B.n2,B.n3,by rw[dN (iW B.ob B.sl_ (by intro z;cases z))];exact B.ob,c6,by rw[dN B.ne.symm];exact B.ml_,B.ne,h.mono m,B.md.mono m,B.kx,B.xl,B.rn⟩
theorem RB.setM(B:RB C H₀ H x p sl ml dx k ss ms us vs)(h:GL H ms'.reverse vs'):RB C H₀ (dc H ml (.lst vs')) x p sl ml dx k ss ms' us vs':=
 have m:=fN (o:=.lst vs') B.ml_
 ⟨dw B.same B.n3,B.n1,B.n2,B.n3,by rw[dN (iW B.ob B.ml_ (by intro z;cases z))];exact B.ob,by rw[dN B.ne];exact B.sl_,c6,B.ne,B.st.mono m,h.mono m,B.kx,B.xl,B.rn⟩
theorem sH(hm:H ml=some (.lst vs))(h:∀b o,b≠ml→H b=some o→H' b=some o):fZ H H':=λb xs e=>h b _ (iW e hm (by intro z;cases z)) e
theorem RB.butM(B:RB C H₀ H x p sl ml dx k ss ms us vs)(h:∀b o,b≠ml→H b=some o→H' b=some o)(hm:H' ml=some (.lst vs'))(d:GL H' ms'.reverse vs'):RB C H₀ H' x p sl ml dx k ss ms' us vs':=
 ⟨λb o e=>h b o (da e B.n3) (B.same b o e),B.n1,B.n2,B.n3,h _ _ (iW B.ob B.ml_ (by intro z;cases z)) B.ob,h _ _ B.ne B.sl_,hm,B.ne,B.st.mono (sH B.ml_ h),d,B.kx,B.xl,B.rn⟩
inductive DR(C:Addr)(H:Hp)(Q:VK):List V→Prop
 | mk{p dx sl ml:Addr}{x y:Str}{k c:Nat}(hp:H p=some (.ins C dx (rf x k sl ml)))(hy:cs y=[c])(h1:(cs x)[k]?=some c→∀H',Ap p H H'→H' p=some (.ins C dx (rf x (k+1) sl ml))→Q (.bl true) H')(h2:(cs x)[k]?≠some c→Q (.bl false) H):DR C H Q [.ref p,.str y]
def fG(C:Addr):Sp:=λvs H Q _=>DR C H Q vs
inductive DT(N C:Addr)(H:Hp)(E:XK):List V→Prop
 | mk{p dx sl ml:Addr}{x y:Str}{k:Nat}(hp:H p=some (.ins C dx (rf x k sl ml)))(hk:k≤100000)(hy:y.length≤100)(h:E (.ref N) none H):DT N C H E [.ref p,.str y]
def eD(N C:Addr):Sp:=λvs H _ E=>DT N C H E vs
inductive DV(N C:Addr)(H:Hp)(Q:VK)(E:XK):List V→Prop
 | mk{p dx sl ml:Addr}{x y:Str}{k c:Nat}(hp:H p=some (.ins C dx (rf x k sl ml)))(hk:k≤100000)(hy:cs y=[c])(h1:(cs x)[k]?=some c→∀H',Ap p H H'→H' p=some (.ins C dx (rf x (k+1) sl ml))→Q .non H')(h2:(cs x)[k]?≠some c→E (.ref N) none H):DV N C H Q E [.ref p,.str y]
def fB(N C:Addr):Sp:=λvs H Q E=>DV N C H Q E vs
inductive DS(C:Addr)(H:Hp)(Q:VK):List V→Prop
 | mk{p dx sl ml:Addr}{x y:Str}{k:Nat}(f:Nat→Bool)(hp:H p=some (.ins C dx (rf x k sl ml)))(hk:k≤(cs x).length)(hx:(cs x).length≤100000)(hf:∀c,decide (c∈cs y)=f c)
   (h:∀H',Ap p H H'→H' p=some (.ins C dx (rf x (k+(((cs x).drop k).takeWhile f).length) sl ml))→Q (.str (sx (((cs x).drop k).takeWhile f))) H'):DS C H Q [.ref p,.str y]
def jY(C:Addr):Sp:=λvs H Q _=>DS C H Q vs
inductive DW(C:Addr)(H:Hp)(Q:VK):List V→Prop
 | mk{p dx sl ml q:Addr}{x:Str}{k n:Nat}{hs vs0 ks:List V}(hp:H p=some (.ins C dx (rf x k sl ml)))(hq:H q=some (.tup hs))(hm:H ml=some (.lst (vs0++ks)))(hn:ks.length=n)(n0:0<n)(h0:hs≠[])(few:hs.length≤2∧vs0.length+n≤700000)
   (h:∀(r:Addr) H',H' r=some (.tup (hs++ks))→H' ml=some (.lst (vs0++[.ref r]))→(∀b o,b≠ml→H b=some o→H' b=some o)→Q .non H'):DW C H Q [.ref p,.ref q,.int n]
def iI(C:Addr):Sp:=λvs H Q _=>DW C H Q vs
inductive Do(N C:Addr)(H:Hp)(Q:VK)(E:XK)(p:Addr)(f:List Pg→List Nat→Option Rs)(fit:List Pg→Prop):Prop
 | mk{sl ml dx:Addr}{H₀:Hp}{x:Str}{k:Nat}{ss:List gI}{ms:List Pg}{us ws:List V}(B:RB C H₀ H x p sl ml dx k ss ms us ws)(few:ms.length+ss.length≤600000)(ft:fit ms)
   (h1:∀pp ms' k' us' ws' H',f ms ((cs x).drop k)=some (pp,ms',(cs x).drop k')→RB C H₀ H' x p sl ml dx k' (pp++ss) ms' us' ws'→Q .non H')
   (h2:f ms ((cs x).drop k)=none→∀H',dQ H₀ H'→E (.ref N) none H'):Do N C H Q E p f fit
def Au(ms:List Pg):List Nat→Option Rs
 | []=>none
 | c::cs=>tw ms c cs
def Bm:gI→List Pg→Prop
 | .handed _ n,ms=>1≤n∧n≤ms.length
 | .make h n,ms=>n=ar h∧n≤ms.length
 | _,_=>True
def fW(N C:Addr):Sp:=λvs H Q E=>on1 vs λv=>onR v λp=>Do N C H Q E p (λms=>nx ms .piece) λ_=>True
def fD(N C:Addr):Sp:=λvs H Q E=>on1 vs λv=>onR v λp=>Do N C H Q E p (λms=>nx ms .between) λ_=>True
def gE(N C:Addr):Sp:=λvs H Q E=>on1 vs λv=>onR v λp=>Do N C H Q E p rh λ_=>True
def fK(N C:Addr):Sp:=λvs H Q E=>on1 vs λv=>onR v λp=>Do N C H Q E p Au λ_=>True
inductive DN(C:Addr)(H:Hp)(Q:VK):List V→Prop
 | mk{p:Addr}{w:List Nat}(h:Do p C H Q E0 p (λms r=>some (kc w ms r)) λ_=>True):DN C H Q [.ref p,.str (sx w)]
def kW(C:Addr):Sp:=λvs H Q _=>DN C H Q vs
inductive DZ(N C:Addr)(H:Hp)(Q:VK)(E:XK):List V→Prop
 | mk{p:Addr}{w:List Nat}{n:Nat}(h:Do N C H Q E p (λms=>nx ms (.handed w n)) (Bm (.handed w n))):DZ N C H Q E [.ref p,.str (sx w),.int n]
def eF(N C:Addr):Sp:=λvs H Q E=>DZ N C H Q E vs
inductive DO(N C:Addr)(H:Hp)(Q:VK)(E:XK):List V→Prop
 | mk{p:Addr}{s:gI}{u:V}(a:lL H s u)(h:Do N C H Q E p (λms=>nx ms s) (Bm s)):DO N C H Q E [.ref p,u]
def ix(N C:Addr):Sp:=λvs H Q E=>DO N C H Q E vs
inductive DY(C:Addr)(H:Hp)(Q:VK):List V→Prop
 | mk{p dx:Addr}{x:Str}(hp:H p=some (.ins C dx []))
  (h:∀(sl ml q:Addr) H',H sl=none→H ml=none→sl≠ml→H' p=some (.ins C dx (rf x 0 sl ml))→H' sl=some (.lst [.ref q])→H' q=some (.tup [.str "piece"])→H' ml=some (.lst [])→(∀b o,b≠p→H b=some o→H' b=some o)→Q .non H'):DY C H Q [.ref p,.str x]
def mT(C:Addr):Sp:=λvs H Q _=>DY C H Q vs
inductive DU(N:Addr)(H:Hp)(Q:VK)(E:XK):List V→Prop
 | mk{x:Str}(xl:(cs x).length≤100000)(rn:S11.Rn (cs x))(h1:∀(g:Pg)(v:V)(H':Hp),dQ H H'→GL H' [g] [v]→S11.Ok g→tx g=cs x→gX [.pc] (cs x)→Q v H')(h2:¬gX [.pc] (cs x)→∀H',dQ H H'→E (.ref N) none H'):DU N H Q E [.str x]
def gW(N:Addr):Sp:=λvs H Q E=>DU N H Q E vs
end R11
namespace PySem
section
variable {prog:Program}{w:World}{A:Around}{E:Value→Shared→Prop}{s:Shared}
end
section
variable {prog:Program}{w:World}{A:Around}{E:Value→Shared→Prop}{s:Shared}
end
end PySem
namespace L2
open PySem PySem.Spec PyProof.Rows
section
variable {X:Cx}{pins:List (Addr×Obj)}{σ:List (Option V)}{H:Hp}{s:Shared}{h':Heap}
end
section
variable {X:Cx}{es:List Expr}{x1:Nat}{tp:Pos}
end
structure jA(X:Cx)(scope:Scope)(cl:List (Str×Addr))(xs ys:List Str)(js:List Nat):Prop where
 clos:closureFor scope X.env=pure cl
 ncell:∀y∈scope.names,y.2≠.cell
 kind:scope.kind=.function
 names:∀y∈scope.names,y.2=.local→scope.names.lookup y.1=some .local
 cells:∀y c,cl.lookup y=some c→X.env.cells.lookup y=some c
 has:∀y,((relabel scope X.env).names.lookup y=some .cell∨(relabel scope X.env).names.lookup y=some .free)→∃c,cl.lookup y=some c
 free:∀(k:Nat)(y:Str),ys[k]?=some y→∃j:Nat,js[k]?=some j∧X.N[j]?=some y∧X.env.scope.names.lookup y=some .cell∧((relabel scope X.env).names.lookup y=some .cell∨(relabel scope X.env).names.lookup y=some .free)
 len:js.length=ys.length
section
variable {X:Cx}{pins:List (Addr×Obj)}{σ:St}{H:Hp}{s:Shared}{scope:Scope}{cl:List (Str×Addr)}{xs ys:List Str}{js:List Nat}{fp:List Addr}{C D:Addr}{h':Heap}
theorem dB.compOkT(I:dB X pins σ H s)(S:jA X scope cl xs ys js)(hf:∀b∈fp,lS X pins H b)(hfb:∀b∈fp,b<s.heap.objs.size)(hC:s.heap.objs.size≤C):(fJ X scope cl (xs++ys) fp s H C).Ok where
 mod:=I.ok.mod
 kind:=S.kind
 glob:=I.ok.glob
 blt:=I.ok.blt
 above:=hC
 inj:=λy z c h1 h2=>I.ok.inj y z c (S.cells y c h1) (S.cells z c h2)
 has:=λy h=>S.has y h
 cab:=λ_ _ h=>by cases h
 hd:=I.ok.hd
 frames:=I.ok.frames
 stk:=.inl rfl
 exf:=λb hb=>by obtain⟨_,h1,_,h3,h4,_⟩:=hf b hb;exact⟨aI (aH (hfb b hb) hC),λy c e=>h4 y c (S.cells y c e)⟩
 bs:=I.bs
 bsz:=aE I.ok.bsz I.sz
 noex:=λb o e hb=>by
  obtain⟨_,_,_,h3,_⟩:=hf b hb;rcases h3 with z|z
  ·exact I.ok.noex b o e z
  ·exact absurd (aH (Heap.lt_size e) (aE I.ok.bsz z)) (bD _)
 exfs:=λb hb z=>by
  obtain⟨_,h1,h2,_⟩:=hf b hb;rcases aF.mp (I.stkSub b z)with e|e
  ·exact h1 e
  ·exact h2 e
 funs:=I.stack
 frf:=I.stkFree
theorem dB.compInT(I:dB X pins σ H s)(S:jA X scope cl xs ys js)(hf:∀b∈fp,lS X pins H b)(hfb:∀b∈fp,b<s.heap.objs.size)(hC:s.heap.objs.size≤C)(hD:s.heap.objs.size≤D)(hDC:D≠C)
  (keep:∀b o,s.heap.get? b=some o→h'.get? b=some o) (ns:h'.Ns C m) (ho:h'.get? D=some (ji [] n)) (ht:s.toks≤t':=by first|exact aB _|exact aQ _|assumption|exact aM _ _):
  dB (fJ X scope cl (xs++ys) fp s H C) ((X.pn++pins)++[(D,ji [] n)]) (List.replicate xs.length none++wG σ js) H {s with heap:=h',toks:=t'} where
 ok:=I.compOkT S hf hfb hC
 os:=rfl
 bare:=I.bare
 base:=Un.kept keep
 loc:=by
  refine⟨m,ns,λi y v e1 e2 e3=>?_⟩;have e1:(xs++ys)[i]?=some y:=e1;by_cases hi:i<xs.length
  ·rw[cS (by simpa using hi),bu,if_pos hi]at e2;cases e2
  ·obtain⟨k,rfl⟩:∃k,i=xs.length+k:=⟨i-xs.length,by lia⟩;rw[bt (by lia),bV]at e1;rw[bt (by simp),bw,bV]at e2;obtain⟨j,hj,hN,hk,hk2⟩:=S.free k y e1;have e4:σ[j]?=some (some v):=by
    unfold wG at e2;rw[al,hj]at e2;have e2:σ.getD j none=some v:=Option.some.inj e2;rw[List.getD_eq_getElem?_getD]at e2;cases q:σ[j]? with
    | none=>rw[q]at e2;cases e2
    | some z=>rw[q]at e2;exact congrArg some e2
   obtain⟨m0,hn0,hl⟩:=I.loc;obtain⟨u,ru,l⟩:=hl j y v hN e4 (.inr (.inl hk));refine⟨u,ru,.inr ⟨hk2,?_⟩⟩;obtain⟨c,hc⟩:=S.has y hk2;rcases l with⟨z,_⟩|⟨_,c',hc',hcell⟩
   ·have z:X.env.scope.names.lookup y=some .local:=z;rw[hk]at z;cases z
   ·have q:=S.cells y c hc;rw[hc']at q;cases q;obtain⟨oc,a1,a2⟩:=hcell;exact⟨_,hc,oc,keep _ _ a1,a2⟩
 cell:=λy c e=>by obtain⟨v,oc,a1,a2⟩:=I.cell y c (S.cells y c e);exact⟨v,oc,keep _ _ a1,a2⟩
 free:=I.hok.fresh hC
 freeC:=λy c e=>I.freeC y c (S.cells y c e)
 pin:=λp hp=>by
  rcases aS.mp (show p∈(X.pn++pins)++[(D,ji [] n)]from hp)with z|z
  ·obtain⟨e,nn,ne,nf,d⟩:=I.pin p z;exact⟨keep _ _ e,nn,aI (aH (Heap.lt_size e) hC),I.nostk ne nf,d⟩
  ·rw[aT]at z;subst z;exact⟨ho,I.hok.fresh hD,hDC,I.nostk (bX (aH I.lt hD)) (I.nofs hD),λv z=>by cases(show Data.seq _ _=Data.cell v from z)⟩
 tk:=ht
 hok:=I.hok.kept keep
 len:=by simp[wG,fJ,S.len]
end
section
variable {prog:Program}{w:World}{A:Around}{s:Shared}{R:Result→Shared→Prop}
end
section
variable {X:Cx}{es:List Expr}{x1:Nat}{tp:Pos}
end
end L2
namespace PySem
open AutoSeq1 (wpAny_loadPart')
section
variable {prog:Program}{w:World}{A:Around}{E:Value→Shared→Prop}{s:Shared}
end
section
variable {prog:Program}{w:World}{A:Around}{E:Value→Shared→Prop}{s:Shared}
end
end PySem
namespace L2
open PySem PySem.Spec PyProof.Rows
section
variable {X:Cx}{es:List Expr}{x1:Nat}{tp:Pos}
end
abbrev TJ:=St→Hp→(Hp→Prop)→Prop
def wY:TJ:=λσ H Q=>Q H
def sI(ta:TE)(tj:TJ):TJ:=λσ H Q=>ta σ H λv H1=>((∃y:Str,v=.str y∧y.length≤3000)∨∃i:Int,v=.int i∧i.natAbs.log2<1920)∧tj σ H1 Q
def yf(tj:TJ):TE:=λσ H Q=>tj σ H λH1=>∀z,Q (.str z) H1
def PJ(X:Cx)(es:List Expr)(n:Nat)(tj:TJ):Prop:=∀(out:Str)(pins:List (Addr×Obj))(s:Shared)(σ:St)(H:Hp)(Q:VK),out.length+3000*n≤sizeLine→dB X pins σ H s→yf tj σ H Q→
 wpAny (model X.prog X.w) X.A (joinParts out (evalEach es X.env)) (EP X pins σ Q) X.xe s
section
variable {X:Cx}
theorem yx:PJ X [] 0 wY:=λout pins s σ H Q hz I h=>joinParts_nilE (joinParts_nil ⟨.str out,H,I.tok _,⟨_,rfl⟩,h out⟩ (by lia))
theorem tP(hj:PJ X es n tj)(hx:Nat.ble x.length 3000=true:=by decide):PJ X (.Constant (.str x) j p::es) (n+1) tj:=λout pins s σ H Q hz I h=>by
 have hx:=b8 hx;refine joinParts_consE (joinParts_cons (Calls.Constant_str ⟨?_,hj _ pins _ σ H Q ?_ (I.tok _) h⟩))
 ·rw[strLen_append];lia
 ·rw[strLen_append];lia
theorem tO(he:PE X e ta)(hj:PJ X es n tj):PJ X (.FormattedValue e (-1) none p::es) (n+1) (sI ta tj):=λout pins s σ H Q hz I h=>by
 refine joinParts_consE (joinParts_cons (FormattedValue_plain (thn (he pins _ σ H _ I h) λv s1 ⟨y,H1,I1,r,hv,q⟩=>?_)));rcases hv with⟨y,rfl,hy⟩|⟨i,rfl,hi⟩
 ·obtain⟨tk,rfl⟩:=r;refine wpAny_with_toks (aB s1.toks) (formatField_str (λt' tk' ht=>?_) (by lia));refine⟨by rw[strLen_append];lia,hj _ pins _ σ H1 Q (by rw[strLen_append];lia) (I1.tok _) q⟩
 ·obtain⟨tk,rfl⟩:=r;have hl:(Str.ofString (toString i)).length≤1921:=by rw[PySem.ofString_length];exact int_text_length_le (by decide) hi
  refine formatField_int_small hi ?_;refine⟨by rw[strLen_append];show _+(Str.ofString (toString i)).length≤_;lia,hj _ pins _ σ H1 Q (by rw[strLen_append];show _+(Str.ofString (toString i)).length+_≤_;lia) (I1.tok _) q⟩
theorem y7(hj:PJ X (e1::e2::es) n tj)(hn:Nat.ble n 20=true:=by decide):PE X (.JoinedStr (e1::e2::es) p) (yf tj):=λpins s σ H Q I h=>by have hn:=b8 hn;refine JoinedStr_many (hj Str.empty pins s σ H Q ?_ I h);rw[sizeLine_eq];show 0+_≤_;lia
end
end L2
namespace R11
open PySem L2 SW
def B5(K:aA)(a_Reader:Addr):TS:=(c8 (sw K (cq 0) (cq 1) "line") (c8 (sw K (cq 0) (tC (.int 0)) "at") (c8 (sw K (cq 0) (dh (cp (eC (cp (tC (.str "piece")) cy)) cy)) "steps") (sw K (cq 0) (dh cy) "made"))))
def B7(K:aA)(a_NoPiece a_Reader:Addr)(E:XK):TS:=(c8 (dE (fO K (cq 0) "at") (c5 2)) (sd a_NoPiece E (yf (sI (cq 1) (sI (cq 2) wY)))))
def xY(K:aA)(a_Reader:Addr):TS:=(e9 (tC (.bl false)))
def xX(K:aA)(a_Reader:Addr):TS:=(dy (mM (tB (kD K "str" qB (fO K (cq 0) "line") (cp (cq 1) (cp (fO K (cq 0) "at") cy))))) (xY K a_Reader) eS)
def Bv(K:aA)(a_Reader:Addr):TS:=(c8 (xX K a_Reader) (c8 (mW K (cq 0) (gG iq (cp (cq 1) cy)) yp "at") (e9 (tC (.bl true)))))
def yH(K:aA)(a_NoPiece a_Reader:Addr)(E:XK):TS:=(dj (eB a_Reader "refuse" (eD a_NoPiece a_Reader) [] E (cq 0) (cp (cq 1) cy)))
def yG(K:aA)(a_NoPiece a_Reader:Addr)(E:XK):TS:=(dy (mM (tB (eB a_Reader "skip" (fG a_Reader) [] E0 (cq 0) (cp (cq 1) cy)))) (yH K a_NoPiece a_Reader E) eS)
def CA(K:aA)(a_NoPiece a_Reader:Addr)(E:XK):TS:=(yG K a_NoPiece a_Reader E)
def xp(K:aA)(a_Reader:Addr):TS:=(mW K (cq 0) (tC (.int 1)) yp "at")
def By(K:aA)(a_Reader:Addr):TS:=(c8 (dE (fO K (cq 0) "at") (c5 2)) (c8 (fu (jt (dG (c9 jd (fO K (cq 0) "at") (gG iq (cp (fO K (cq 0) "line") cy)))) (dG (c9 rC (c9 jN (fO K (cq 0) "line") (fO K (cq 0) "at")) (cq 1)))) (xp K a_Reader)) (e9 (kP jw (fO K (cq 0) "line") (eL (cq 2)) (eL (fO K (cq 0) "at"))))))
def xu(K:aA)(a_NoPiece a_Reader:Addr)(E:XK):TS:=(dj (eB a_Reader "refuse" (eD a_NoPiece a_Reader) [] E (cq 0) (cp (tC (.str "a word")) cy)))
def xt(K:aA)(a_NoPiece a_Reader:Addr)(E:XK):TS:=(dy (dG (c9 i0 (cq 1) (tC (.str "")))) (xu K a_NoPiece a_Reader E) eS)
def B4(K:aA)(a_NoPiece a_Reader:Addr)(E:XK):TS:=(c8 (dE (eB a_Reader "run_of" (jY a_Reader) [] E0 (cq 0) (cp (tC (.str "abcdefghijklmnopqrstuvwxyz")) cy)) (c5 1)) (c8 (xt K a_NoPiece a_Reader E) (c8 (dj (eB a_Reader "need" (fB a_NoPiece a_Reader) [] E (cq 0) (cp (tC (.str "=")) cy))) (dj (kD K "list" gQ (fO K (cq 0) "steps") (cp (dh (cp (eC (cp (tC (.str "make")) (cp (eC (cp (tC (.str "let")) (cp (cq 1) cy))) (cp (tC (.int 2)) cy)))) (cp (eC (cp (tC (.str "piece")) cy)) (cp (eC (cp (tC (.str "sign")) (cp (tC (.str "]")) cy))) (cp (eC (cp (tC (.str "piece")) cy)) cy))))) cy))))))
def xq(K:aA)(a_NoPiece a_Reader:Addr)(E:XK):TS:=(dj (eB a_Reader "refuse" (eD a_NoPiece a_Reader) [] E (cq 0) (cp (tC (.str "a piece")) cy)))
def sP(K:aA)(a_NoPiece a_Reader:Addr)(E:XK):TS:=(dy (dG (c9 i0 (cq 2) (tC (.str "")))) (xq K a_NoPiece a_Reader E) eS)
def sM(K:aA)(a_NoPiece a_Reader:Addr)(E:XK):TS:=(dj (eB a_Reader "refuse" (eD a_NoPiece a_Reader) [] E (cq 0) (cp (tC (.str "a number that does not begin with nought")) cy)))
def sL(K:aA)(a_NoPiece a_Reader:Addr)(E:XK):TS:=(dy (jt (dG (c9 i0 (c9 jN (cq 2) (tC (.int 0))) (tC (.str "0")))) (AL (tB (cq 1)) (dG (c9 yn (cq 2) (tC (.str "0")))))) (sM K a_NoPiece a_Reader E) eS)
def Bz(K:aA)(a_NoPiece a_Reader:Addr)(E:XK):TS:=(c8 (dE (eB a_Reader "skip" (fG a_Reader) [] E0 (cq 0) (cp (tC (.str "-")) cy)) (c5 1)) (c8 (dE (eB a_Reader "run_of" (jY a_Reader) [] E0 (cq 0) (cp (tC (.str "0123456789")) cy)) (c5 2)) (c8 (sP K a_NoPiece a_Reader E) (c8 (sL K a_NoPiece a_Reader E) (c8 (dE (gG qk (cp (cq 2) cy)) (c5 3)) (dj (kD K "list" eX (fO K (cq 0) "made") (cp (eC (cp (tC (.str "number")) (cp (BS (tB (cq 1)) (kq fM (cq 3)) (cq 3)) cy))) cy))))))))
def yF(K:aA)(a_Reader:Addr):TS:=(dj (kD K "list" eX (fO K (cq 0) "made") (cp (eC (cp (tC (.str "name")) (cp (cq 1) cy))) cy)))
def yE(K:aA)(a_Reader:Addr):TS:=(dj (kD K "list" eX (fO K (cq 0) "made") (cp (eC (cp (tC (.str "stamp")) (cp (cq 1) cy))) cy)))
def yD(K:aA)(a_Reader:Addr):TS:=(dj (kD K "list" gQ (fO K (cq 0) "steps") (cp (dh (cp (eC (cp (tC (.str "handed")) (cp (cq 1) (cp (tC (.int 1)) cy)))) (cp (eC (cp (tC (.str "piece")) cy)) cy))) cy)))
def yC(K:aA)(a_Reader:Addr):TS:=(dy (tB (eB a_Reader "skip" (fG a_Reader) [] E0 (cq 0) (cp (tC (.str "}")) cy))) (yE K a_Reader) (yD K a_Reader))
def yB(K:aA)(a_Reader:Addr):TS:=(dy (mM (tB (eB a_Reader "skip" (fG a_Reader) [] E0 (cq 0) (cp (tC (.str "{")) cy)))) (yF K a_Reader) (yC K a_Reader))
def B9(K:aA)(a_Reader:Addr):TS:=(yB K a_Reader)
def yI(K:aA)(a_Reader:Addr):TS:=(dj (kD K "list" eX (cq 3) (cp (nJ K "list" nQ (fO K (cq 0) "made")) cy)))
def CB(K:aA)(a_Reader:Addr):TS:=(c8 (dE (dh cy) (c5 3)) (c8 (fu (dG (c9 jd (gG (jD K) (cp (cq 3) cy)) (cq 2))) (yI K a_Reader)) (dj (kD K "list" eX (fO K (cq 0) "made") (cp (c9 (wm K) (cq 1) (wa K (cq 3))) cy)))))
def xf(K:aA)(a_NoPiece a_Reader:Addr)(E:XK):TS:=(dj (kD K "list" gQ (fO K (cq 0) "steps") (cp (dh (cp (eC (cp (tC (.str "make")) (cp (eC (cp (tC (.str "sum")) cy)) (cp (tC (.int 2)) cy)))) (cp (eC (cp (tC (.str "sign")) (cp (tC (.str ")")) cy))) (cp (eC (cp (tC (.str "piece")) cy)) cy)))) cy)))
def xc(K:aA)(a_NoPiece a_Reader:Addr)(E:XK):TS:=(dj (kD K "list" gQ (fO K (cq 0) "steps") (cp (dh (cp (eC (cp (tC (.str "make")) (cp (eC (cp (tC (.str "less")) cy)) (cp (tC (.int 2)) cy)))) (cp (eC (cp (tC (.str "sign")) (cp (tC (.str ")")) cy))) (cp (eC (cp (tC (.str "piece")) cy)) cy)))) cy)))
def xb(K:aA)(a_NoPiece a_Reader:Addr)(E:XK):TS:=(c8 (dj (eB a_Reader "need" (fB a_NoPiece a_Reader) [] E (cq 0) (cp (tC (.str "?")) cy))) (dj (kD K "list" gQ (fO K (cq 0) "steps") (cp (dh (cp (eC (cp (tC (.str "make")) (cp (eC (cp (tC (.str "choose")) cy)) (cp (tC (.int 3)) cy)))) (cp (eC (cp (tC (.str "sign")) (cp (tC (.str ")")) cy))) (cp (eC (cp (tC (.str "piece")) cy)) (cp (eC (cp (tC (.str "sign")) (cp (tC (.str ":")) cy))) (cp (eC (cp (tC (.str "piece")) cy)) cy)))))) cy))))
def xa(K:aA)(a_NoPiece a_Reader:Addr)(E:XK):TS:=(dy (tB (eB a_Reader "skip" (fG a_Reader) [] E0 (cq 0) (cp (tC (.str "-")) cy))) (xc K a_NoPiece a_Reader E) (xb K a_NoPiece a_Reader E))
def xZ(K:aA)(a_NoPiece a_Reader:Addr)(E:XK):TS:=(dy (tB (eB a_Reader "skip" (fG a_Reader) [] E0 (cq 0) (cp (tC (.str "+")) cy))) (xf K a_NoPiece a_Reader E) (xa K a_NoPiece a_Reader E))
def Bw(K:aA)(a_NoPiece a_Reader:Addr)(E:XK):TS:=(xZ K a_NoPiece a_Reader E)
def x6(K:aA)(a_NoPiece a_Reader:Addr)(E:XK):TS:=(dj (kD K "list" gQ (fO K (cq 0) "steps") (cp (dh (cp (eC (cp (tC (.str "handed")) (cp (cq 1) (cp (c9 gj (cq 2) (tC (.int 1))) cy)))) (cp (eC (cp (tC (.str "piece")) cy)) cy))) cy)))
def xy(K:aA)(a_NoPiece a_Reader:Addr)(E:XK):TS:=(c8 (dj (eB a_Reader "need" (fB a_NoPiece a_Reader) [] E (cq 0) (cp (tC (.str "}")) cy))) (dj (eB a_Reader "make" (iI a_Reader) [] E0 (cq 0) (cp (eC (cp (tC (.str "stamp")) (cp (cq 1) cy))) (cp (cq 2) cy)))))
def xw(K:aA)(a_NoPiece a_Reader:Addr)(E:XK):TS:=(dy (tB (eB a_Reader "skip" (fG a_Reader) [] E0 (cq 0) (cp (tC (.str ",")) cy))) (x6 K a_NoPiece a_Reader E) (xy K a_NoPiece a_Reader E))
def B6(K:aA)(a_NoPiece a_Reader:Addr)(E:XK):TS:=(xw K a_NoPiece a_Reader E)
def xn(K:aA)(a_NoPiece a_Reader:Addr)(E:XK):TS:=(dj (eB a_Reader "read_behind_word" (kW a_Reader) [] E0 (cq 0) (cp (cq 1) cy)))
def xm(K:aA)(a_NoPiece a_Reader:Addr)(E:XK):TS:=(dj (kD K "list" gQ (fO K (cq 0) "steps") (cp (dh (cp (eC (cp (tC (.str "between")) cy)) (cp (eC (cp (tC (.str "piece")) cy)) cy))) cy)))
def xk(K:aA)(a_NoPiece a_Reader:Addr)(E:XK):TS:=(dj (eB a_Reader "read_let" (gE a_NoPiece a_Reader) [] E (cq 0) cy))
def xj(K:aA)(a_NoPiece a_Reader:Addr)(E:XK):TS:=(dj (eB a_Reader "read_number" (fK a_NoPiece a_Reader) [] E (cq 0) cy))
def xi(K:aA)(a_NoPiece a_Reader:Addr)(E:XK):TS:=(dy (tB (eB a_Reader "skip" (fG a_Reader) [] E0 (cq 0) (cp (tC (.str "[")) cy))) (xk K a_NoPiece a_Reader E) (xj K a_NoPiece a_Reader E))
def xh(K:aA)(a_NoPiece a_Reader:Addr)(E:XK):TS:=(dy (tB (eB a_Reader "skip" (fG a_Reader) [] E0 (cq 0) (cp (tC (.str "(")) cy))) (xm K a_NoPiece a_Reader E) (xi K a_NoPiece a_Reader E))
def xg(K:aA)(a_NoPiece a_Reader:Addr)(E:XK):TS:=(dy (dG (c9 yn (cq 1) (tC (.str "")))) (xn K a_NoPiece a_Reader E) (xh K a_NoPiece a_Reader E))
def Bx(K:aA)(a_NoPiece a_Reader:Addr)(E:XK):TS:=(c8 (dE (eB a_Reader "run_of" (jY a_Reader) [] E0 (cq 0) (cp (tC (.str "abcdefghijklmnopqrstuvwxyz")) cy)) (c5 1)) (xg K a_NoPiece a_Reader E))
def xW(K:aA)(a_NoPiece a_Reader:Addr)(E:XK):TS:=(dj (eB a_Reader "read_piece" (fW a_NoPiece a_Reader) [] E (cq 0) cy))
def xV(K:aA)(a_NoPiece a_Reader:Addr)(E:XK):TS:=(dj (eB a_Reader "read_between" (fD a_NoPiece a_Reader) [] E (cq 0) cy))
def xU(K:aA)(a_NoPiece a_Reader:Addr)(E:XK):TS:=(dj (eB a_Reader "read_behind_handed" (eF a_NoPiece a_Reader) [] E (cq 0) (cp (c9 (ef K) (cq 1) (tC (.int 1))) (cp (c9 (ef K) (cq 1) (tC (.int 2))) cy))))
def xS(K:aA)(a_NoPiece a_Reader:Addr)(E:XK):TS:=(dj (eB a_Reader "need" (fB a_NoPiece a_Reader) [] E (cq 0) (cp (c9 (ef K) (cq 1) (tC (.int 1))) cy)))
def xR(K:aA)(a_NoPiece a_Reader:Addr)(E:XK):TS:=(dj (eB a_Reader "make" (iI a_Reader) [] E0 (cq 0) (cp (c9 (ef K) (cq 1) (tC (.int 1))) (cp (c9 (ef K) (cq 1) (tC (.int 2))) cy))))
def xQ(K:aA)(a_NoPiece a_Reader:Addr)(E:XK):TS:=(dy (dG (c9 i0 (c9 (ef K) (cq 1) (tC (.int 0))) (tC (.str "sign")))) (xS K a_NoPiece a_Reader E) (xR K a_NoPiece a_Reader E))
def xP(K:aA)(a_NoPiece a_Reader:Addr)(E:XK):TS:=(dy (dG (c9 i0 (c9 (ef K) (cq 1) (tC (.int 0))) (tC (.str "handed")))) (xU K a_NoPiece a_Reader E) (xQ K a_NoPiece a_Reader E))
def xO(K:aA)(a_NoPiece a_Reader:Addr)(E:XK):TS:=(dy (dG (c9 i0 (c9 (ef K) (cq 1) (tC (.int 0))) (tC (.str "between")))) (xV K a_NoPiece a_Reader E) (xP K a_NoPiece a_Reader E))
def xN(K:aA)(a_NoPiece a_Reader:Addr)(E:XK):TS:=(dy (dG (c9 i0 (c9 (ef K) (cq 1) (tC (.int 0))) (tC (.str "piece")))) (xW K a_NoPiece a_Reader E) (xO K a_NoPiece a_Reader E))
def Bu(K:aA)(a_NoPiece a_Reader:Addr)(E:XK):TS:=(xN K a_NoPiece a_Reader E)
def yA(K:aA)(a_NoPiece a_Reader:Addr)(E:XK):TS:=(dj (eB a_Reader "take" (ix a_NoPiece a_Reader) [] E (cq 1) (cp (nJ K "list" nQ (fO K (cq 1) "steps")) cy)))
def x9(K:aA)(a_NoPiece a_Reader:Addr)(E:XK):TS:=(dj (eB a_Reader "refuse" (eD a_NoPiece a_Reader) [] E (cq 1) (cp (tC (.str "its end")) cy)))
def x8(K:aA)(a_NoPiece a_Reader:Addr)(E:XK):TS:=(dy (dG (c9 jd (fO K (cq 1) "at") (gG iq (cp (cq 0) cy)))) (x9 K a_NoPiece a_Reader E) eS)
def B8(K:aA)(a_NoPiece a_Reader:Addr)(E:XK):TS:=(c8 (dE (si a_Reader (mT a_Reader) [] E0 (cp (cq 0) cy)) (c5 1)) (c8 (fu (dG (c9 ol (gG (jD K) (cp (fO K (cq 1) "steps") cy)) (tC (.int 0)))) (yA K a_NoPiece a_Reader E)) (c8 (x8 K a_NoPiece a_Reader E) (e9 (nJ K "list" nQ (fO K (cq 1) "made"))))))
end R11
namespace SW
open PySem L2
variable {K:aA}{vs:List V}{H:Hp}{Q:VK}{E:XK}
end SW
namespace PySem
open AutoSeq1
end PySem
namespace L2
open PySem PySem.Spec PyProof.Rows
section
variable {X:Cx}
end
end L2
namespace S9
open PySem L2 SW
end S9
namespace S9
open PySem L2 SW
variable {K:aA}{vs:List V}{H:Hp}{Q:VK}{E:XK}
end S9
namespace S9
open PySem L2 SW
variable {K:aA}{vs:List V}{H:Hp}{Q:VK}{E:XK}{N:Addr}
end S9
namespace R11
open PySem L2 SW
open S11 hiding Wd
section
variable {p:Nat→Bool}
theorem sE:∀{L:List Nat}{j c:Nat},j≤(L.takeWhile p).length→L[j]?=some c→p c=true→j<(L.takeWhile p).length
 | [],_,_,_,e,_=>by cases e
 | x::L,0,c,_,e,h=>by
  cases e;rw[aU,h];exact Nat.zero_lt_succ _
 | x::L,j+1,c,hj,e,h=>by
  rw[aU]at hj⊢;cases hx:p x with
  | false=>rw[hx]at hj;exact absurd hj (Nat.not_succ_le_zero j)
  | true=>
   rw[hx]at hj;have hj':j+1≤(L.takeWhile p).length+1:=hj;have:=sE (L:=L) (j:=j) (c:=c) (by omega) e h;show j+1<(L.takeWhile p).length+1
   omega
theorem sF:∀{L:List Nat}{j:Nat},j<(L.takeWhile p).length→∃c,L[j]?=some c∧p c=true
 | [],_,h=>by cases h
 | x::L,j,h=>by
  rw[aU]at h;cases hx:p x with
  | false=>rw[hx]at h;cases h
  | true=>
   rw[hx]at h;have h:j<(L.takeWhile p).length+1:=h;cases j with
   | zero=>exact⟨x,rfl,hx⟩
   | succ j=>exact sF (L:=L) (j:=j) (by omega)
theorem mG{L:List Nat}{j:Nat}(hj:j≤(L.takeWhile p).length)(h:∀c,L[j]?=some c→p c=false):j=(L.takeWhile p).length:=by
 by_cases q:j<(L.takeWhile p).length
 ·obtain⟨c,e,z⟩:=sF q;rw[h c e]at z;cases z
 ·omega
theorem mF(L:List Nat):L.take (L.takeWhile p).length=L.takeWhile p:=(cf.mp (cH p)).symm
end
theorem iD{L:List Nat}{k j:Nat}:(L.drop k)[j]?=L[k+j]?:=List.getElem?_drop
theorem iY{L:List Nat}{k:Nat}(p:Nat→Bool)(hk:k≤L.length):k+((L.drop k).takeWhile p).length≤L.length:=by
 have h4:=(cH p (l:=L.drop k)).length_le;rw[aO]at h4
 omega
theorem mi{y:Str}{c:Nat}(h:cs y=[c]):y.length=1:=by rw[←c4,h];rfl
theorem zI{n:Nat}(h:n≤100000):((n:Int)).natAbs.log2<1920:=by
 have:((n:Int)).natAbs=n:=rfl;rw[this];by_cases z:n=0
 ·subst z;decide
 ·exact(Nat.log2_lt z).mpr (b7 h (aH (by decide:100000<2^17) (cg (by decide) (by decide))))
variable {K:aA}{N C:Addr}{vs:List V}{H H₀:Hp}{Q:VK}{E:XK}
theorem C2(rc:RC K C)(h:fG C vs H Q E):Bv K C (fC Q) (start ["self","sign"] vs) H:=by
 obtain @⟨p,dx,sl,ml,x,y,k,c,hp,hy,h1,h2⟩:=h;refine⟨hp,rc.cl,rc.nL,ka,rfl,hp,rc.cl,rc.nA,iM,x,y,_,rfl,rfl,_,rfl,?_⟩;rw[yh hy];by_cases hc:(cs x)[k]?=some c
 ·rw[decide_eq_true hc];refine e7 ?_;refine⟨p,C,dx,_,_,rfl,hp,rc.cl,rc.nA,iM,y,rfl,by rw[mi hy,sizeLine_eq];omega,_,_,rfl,rfl,dx,_,hp,tE,?_⟩;refine h1 hc _ lK ?_;rw[c6,tD (j:=k+1) (by rw[mi hy];omega)]
 ·rw[decide_eq_false hc];exact gw (h2 hc)
theorem DA(rc:RC K C)(h:eD N C vs H Q E):B7 K N C E (fC Q) (start ["self","wanted","at"] vs) H:=by obtain @⟨p,dx,sl,ml,x,y,k,hp,hk,hy,h⟩:=h;exact⟨hp,rc.cl,rc.nA,iM,.inl ⟨y,rfl,by omega⟩,.inr ⟨_,rfl,zI hk⟩,λz=>h⟩
theorem DD(h:fB N C vs H Q E):CA K N C E (fC Q) (start ["self","sign"] vs) H:=by obtain @⟨p,dx,sl,ml,x,y,k,c,hp,hk,hy,h1,h2⟩:=h;exact⟨hp,eG,hp,hy,λhc H' ap hp'=>⟨_,rfl,e7 (h1 hc H' ap hp')⟩,λhc=>⟨_,rfl,gw ⟨hp,eG,hp,hk,by rw[mi hy];omega,h2 hc⟩⟩⟩
inductive Cg(C:Addr)(H:Hp)(p sl ml dx:Addr)(x y:Str)(k n:Nat):Nat→St→Hp→Prop
 | mk{j:Nat}{H':Hp}(hp:H' p=some (.ins C dx (rf x (k+j) sl ml)))(ap:Ap p H H')(hj:j≤n):Cg C H p sl ml dx x y k n (n-j) [some (.ref p),some (.str y),some (.int k)] H'
theorem C5(rc:RC K C)(h:jY C vs H Q E):By K C (fC Q) (start ["self","signs","begin"] vs) H:=by
 obtain @⟨p,dx,sl,ml,x,y,k,f,hp,hk,hx,hf,h1⟩:=h;have hxl:x.length≤sizeLine:=by rw[←c4,sizeLine_eq];omega
 have hl:=iY f hk;refine⟨hp,rc.cl,rc.nA,iM,?_⟩;refine⟨Cg C H p sl ml dx x y k (((cs x).drop k).takeWhile f).length,⟨_,.mk (j:=0) hp wQ (aR _)⟩,?_⟩;rintro m σ H' @⟨j,_,hp',ap,hj⟩;have stop:j=(((cs x).drop k).takeWhile f).length→(e9 (kP jw (fO K (cq 0) "line") (eL (cq 2)) (eL (fO K (cq 0) "at")))) (fC Q) [some (.ref p),some (.str y),some (.int k)] H':=λe=>by
  refine⟨hp',rc.cl,rc.nL,ka,hp',rc.cl,rc.nA,iM,x,rfl,hxl,?_⟩;have ez:Txt.slice x (some (k:Int)) (some ((k+j:Nat):Int))=sx (((cs x).drop k).takeWhile f):=gy (by
   rw[eI,kt (by omega) (by rw[←c4];omega),show k+j-k=j by omega,e,mF])
  show Q (.str (Txt.slice x (some (k:Int)) (some ((k+j:Nat):Int)))) H';rw[ez];exact h1 H' ap (by rw[←e];exact hp')
 refine⟨hp',rc.cl,rc.nA,iM,hp',rc.cl,rc.nL,ka,x,rfl,hxl,_,rfl,?_⟩;by_cases hlt:k+j<x.length
 ·refine fI (decide_eq_true (by omega)) ?_;obtain⟨c,hc⟩:∃c,(cs x)[k+j]?=some c:=⟨(cs x)[k+j]'(by rw[c4];exact hlt),ao _⟩;refine⟨hp',rc.cl,rc.nL,ka,hp',rc.cl,rc.nA,iM,x,_,c,rfl,rfl,hxl,cz hc,⟨#[c]⟩,y,rfl,rfl,_,rfl,?_⟩;rw[o8 (c:=c) rfl,hf];have hd:((cs x).drop k)[j]?=some c:=by rw[iD];exact hc
  by_cases hm:f c=true
  ·refine fI hm ?_;have hj2:=sE hj hd hm;refine⟨Lt (Cg C H p sl ml dx x y k (((cs x).drop k).takeWhile f).length) _,λ_ _ h=>h,?_⟩;refine⟨p,C,dx,_,_,rfl,hp',rc.cl,rc.nA,iM,_,_,rfl,rfl,dx,_,hp',tE,_,?_,.mk (j:=j+1) ?_ (oG ap lK) hj2⟩
   ·omega
   ·rw[c6,tD (j:=k+(j+1)) (by omega)]
  ·have hm:f c=false:=by simpa using hm
   refine du hm ?_;refine stop (mG hj λd hd'=>?_);rw[hd]at hd';cases hd';exact hm
 ·refine du (decide_eq_false (by omega)) (e7 ?_);refine stop (mG hj λd hd'=>?_);rw[iD,bg (by rw[c4];omega)]at hd';cases hd'
inductive Cp(H:Hp)(p q ml il:Addr)(n:Nat)(vs0 ks:List V):Nat→St→Hp→Prop
 | mk{j:Nat}{H':Hp}(hj:j≤n)(hil:H' il=some (.lst (ks.drop (n-j)).reverse))(hml:H' ml=some (.lst (vs0++ks.take (n-j))))(keep:∀b o,b≠ml→H b=some o→H' b=some o):Cp H p q ml il n vs0 ks (n-j) [some (.ref p),some (.ref q),some (.int n),some (.ref il)] H'
theorem DE(rc:RC K C)(h:iI C vs H Q E):CB K C (fC Q) (start ["self","head","many","inner"] vs) H:=by
 obtain @⟨p,dx,sl,ml,q,x,k,n,hs,vs0,ks,hp,hq,hml,hn,n0,hne,few,h1⟩:=h;refine⟨fU,dZ λil H1 hil s1 g1=>?_⟩;have nil:il≠ml:=λz=>by subst z;rw[hml]at hil;cases hil
 refine⟨Cp H p q ml il n vs0 ks,⟨_,.mk (j:=0) (aR _) (by rw[bS,←hn,List.drop_length];exact g1) (by rw[bS,←hn,cI];exact s1 _ _ hml) λb o _ e=>s1 b o e⟩,?_⟩;rintro m σ H2 @⟨j,_,hj,hil2,hml2,keep⟩;have hp2:=keep _ _ (iW hp hml (by intro z;cases z)) hp;refine⟨.inl (dv.of hil2),_,rfl,?_⟩;by_cases hlt:j<n
 ·refine fI (decide_eq_true (by rw[ay,aO];omega)) ?_;refine⟨Lt (Cp H p q ml il n vs0 ks) _,λ_ _ h=>h,?_⟩;obtain⟨i,hi⟩:∃i,n-j=i+1:=⟨n-j-1,by omega⟩;have hlast:ks.take (n-j)=ks.take i++[ks[i]'(by omega)]:=by rw[hi,List.take_succ_eq_append_getElem (by omega)]
  have hdrop:ks.drop i=ks[i]'(by omega)::ks.drop (n-j):=by rw[hi,ci (by omega)]
  rw[hlast,←ah]at hml2;refine⟨.inl ⟨rfl,_,dv.of hil2⟩,hp2,rc.cl,rc.nM,kZ,.inl ⟨rfl,_,dv.of hml2⟩,hml2,jO,?_⟩;rw[iS];refine⟨by rw[dN nil];exact hil2,by rw[ay,aO,sizeLine_eq];omega,_,?_,.mk (j:=j+1) (by omega) ?_ ?_ λb o hb e=>?_⟩
  ·omega
  ·rw[c6,show n-(j+1)=i by omega,hdrop,am]
  ·rw[dN nil.symm,c6,show n-(j+1)=i by omega]
  ·by_cases hbi:b=il
   ·subst hbi;rw[hil]at e;cases e
   ·rw[dN hbi,dN hb];exact keep b o hb e
 ·have ej:j=n:=by omega
  subst ej;refine du (decide_eq_false (by rw[ay,aO];omega)) ?_;rw[cJ,aw]at hil2;rw[cJ,List.take_zero,ag]at hml2;refine⟨hp2,rc.cl,rc.nM,kZ,.inl ⟨rfl,_,dv.of hml2⟩,il,_,rfl,dv.of hil2,λtp htp=>?_⟩;rw[cF];have s3:=dW (o:=.tup ks) htp;have g3:(dc H2 tp (.tup ks)) tp=some (.tup ks):=c6;generalize dc H2 tp (.tup ks)=H3 at s3 g3⊢;have hq2:=keep _ _ (iW hq hml (by intro z;cases z)) hq;refine⟨eM.of (s3 _ _ hq2),eM.of g3,by rw[sizeLine_eq];omega,λhe=>absurd he hne,λ_ he=>?_,λ_ _=>dZ λr H4 hr s4 g4=>?_⟩
  ·rw[he]at hn;simp at hn;omega
  ·have s34:=s3.trans s4;refine⟨s34 _ _ hml2,by rw[sizeLine_eq];omega,h1 r _ ?_ c6 λb o hb e=>?_⟩
   ·rw[dN (iW g4 (s34 _ _ hml2) (by intro z;cases z))];exact g4
   ·rw[dN hb];exact s34 _ _ (keep b o hb e)
def zi(ta:TE)(σ:St)(s:gI):Prop:=∀(H:Hp)(Q:VK),(∀u H',dQ H H'→lL H' s u→Q u H')→ta σ H Q
def Bj(t:TA)(σ:St)(ns:List gI):Prop:=∀(H:Hp)(Q:List V→Hp→Prop),(∀ws H',dQ H H'→m6 H' ns ws→Q ws H')→t σ H Q
theorem iP:Bj cy σ []:=λH Q k=>k [] H (λ_ _ h=>h) .nil
theorem de(a:zi ta σ s)(r:Bj t σ ns):Bj (cp ta t) σ (s::ns):=λH Q k=>
 a H _ λu H1 s1 h1=>r H1 _ λws H2 s2 h2=>k (u::ws) H2 (s1.trans s2) (.cons (h1.mono (dI s2)) h2)
theorem fg:zi (eC (cp (tC (.str "piece")) cy)) σ .piece:=λH Q k=>⟨fU,dZ λp H1 hp s1 g1=>k (.ref p) _ s1 ⟨p,rfl,g1⟩⟩
theorem ou:zi (eC (cp (tC (.str "between")) cy)) σ .between:=λH Q k=>⟨fU,dZ λp H1 hp s1 g1=>k (.ref p) _ s1 ⟨p,rfl,g1⟩⟩
theorem jg{y:Str}(h:y=sx [c]):zi (eC (cp (tC (.str "sign")) (cp (tC (.str y)) cy))) σ (.sign c):=λH Q k=>⟨fU,dZ λp H1 hp s1 g1=>k (.ref p) _ s1 ⟨p,rfl,by rw[←h];exact g1⟩⟩
theorem ke{t:TA}(ht:∀(H:Hp)(Q:List V→Hp→Prop),Q (Bb h) H→t σ H Q):zi (eC (cp (tC (.str "make")) (cp (eC t) (cp (tC (.int (n:Nat))) cy)))) σ (.make h n):=λH Q k=>
 ht H _ ⟨by unfold Bb;split<;>exact fU,dZ λq H1 hq s1 g1=>⟨fU,dZ λp H2 hp s2 g2=>k (.ref p) _ (s1.trans s2) ⟨p,q,rfl,g2,s2 _ _ g1⟩⟩⟩
theorem jM{D:fL}{t:TA}(rc:RC K C)(B:RB C H₀ H x p sl ml dx k ss ms us ws)(few:ss.length≤650000)(h0:σ[0]?=some (some (.ref p)))(M:Bj t σ ns)(fn:ns.length≤10)
  (hD:∀H' us',RB C H₀ H' x p sl ml dx k (ns.reverse++ss) ms us' ws→D.nx σ H'):(dj (kD K "list" gQ (fO K (cq 0) "steps") (cp (dh t) cy))) D σ H:=by
 show nmQ σ[0]? _;rw[h0];refine⟨B.ob,rc.cl,rc.nS,kz,.inl ⟨rfl,_,dv.of B.sl_⟩,?_⟩;refine M H _ λzs H1 s1 f1=>⟨by rw[f1.length,sizeLine_eq];omega,dZ λl H2 hl s2 g2=>?_⟩;have B2:=B.grow (s1.trans s2);exact⟨sl,l,us,zs,rfl,rfl,B2.sl_,g2,by rw[f1.length,B2.st.length,ay,sizeLine_eq];omega,hD _ _ (B2.setS (by rw[cG,cF];exact B2.st.app (f1.mono (dI s2))))⟩
theorem oi{D:fL}{ta:TE}(rc:RC K C)(B:RB C H₀ H x p sl ml dx k ss ms us ws)(few:ms.length≤650000)(h0:σ[0]?=some (some (.ref p)))(hg:kd g=[])(M:∀(H:Hp)(Q:VK),(∀q H',dQ H H'→H' q=some (.tup (kg g))→Q (.ref q) H')→ta σ H Q)
  (hD:∀H' ws',RB C H₀ H' x p sl ml dx k ss (g::ms) us ws'→D.nx σ H'):(dj (kD K "list" eX (fO K (cq 0) "made") (cp ta cy))) D σ H:=by
 show nmQ σ[0]? _;rw[h0];refine⟨B.ob,rc.cl,rc.nM,kZ,.inl ⟨rfl,_,dv.of B.ml_⟩,?_⟩;refine M H _ λv H1 s1 d1=>?_;have B1:=B.grow s1;exact⟨B1.ml_,by rw[B1.md.length,ay,sizeLine_eq];omega,hD _ _ (B1.setM (by rw[am];exact B1.md.app (.cons (us:=[]) (by rw[ag];exact d1) (by rw[hg];exact .nil) .nil)))⟩
theorem CW(c:Nat):decide (c∈cs "abcdefghijklmnopqrstuvwxyz")=eA c:=by
 by_cases h:c∈cs "abcdefghijklmnopqrstuvwxyz"
 ·have q:=kH.mp h;rw[decide_eq_true h,eA,decide_eq_true q.1,decide_eq_true q.2];rfl
 ·rw[decide_eq_false h];cases e:eA c with
  | false=>rfl
  | true=>exact absurd (kH.mpr (by simpa[eA]using e)) h
theorem Bc(c:Nat):decide (c∈cs "0123456789")=eW c:=by
 by_cases h:c∈cs "0123456789"
 ·have q:=kI.mp h;rw[decide_eq_true h,eW,decide_eq_true q.1,decide_eq_true q.2];rfl
 ·rw[decide_eq_false h];cases e:eW c with
  | false=>rfl
  | true=>exact absurd (kI.mpr (by simpa[eW]using e)) h
theorem eU{L:List Nat}(h:L.drop k=c::r):L[k]?=some c∧L.drop (k+1)=r∧k+1≤L.length:=by have h1:=iD (L:=L) (k:=k) (j:=0);rw[h]at h1;have h2:=congrArg List.length h;rw[aO,aC]at h2;refine⟨h1.symm,?_,by omega⟩;rw[←bU,h];rfl
theorem iR{L:List Nat}(h:L.drop k=[]):L[k]?=none:=by have h1:=iD (L:=L) (k:=k) (j:=0);rw[h]at h1;exact h1.symm
theorem nk(f:Nat→Bool):∀M:List Nat,M.drop (M.takeWhile f).length=M.dropWhile f
 | []=>rfl
 | c::M=>by
  rw[aU,bJ];cases f c with
  | true=>exact nk f M
  | false=>rfl
theorem jk(L:List Nat)(k:Nat)(f:Nat→Bool):L.drop (k+((L.drop k).takeWhile f).length)=(L.drop k).dropWhile f:=by rw[←bU,nk]
theorem kr:sx []="":=gy (by rw[eI,ip])
theorem pf(h:l≠[]):sx l≠"":=λe=>h (by rw[←eI (l:=l),e,ip])
theorem Ba:cs "("=[40]:=by decide
theorem Dn:cs "+"=[43]:=by decide
theorem Dm:cs ","=[44]:=by decide
theorem CS:cs "-"=[45]:=by decide
theorem DL:cs "="=[61]:=by decide
theorem Dl:cs "?"=[63]:=by decide
theorem BZ:cs "["=[91]:=by decide
theorem As:cs "{"=[123]:=by decide
theorem Ar:cs "}"=[125]:=by decide
theorem zv:(")":Str)=sx [41]:=by decide
theorem Cv:(":":Str)=sx [58]:=by decide
theorem Cu:("]":Str)=sx [93]:=by decide
theorem rK(h:σ[1]?=some (some (.str (sx w)))):zi (eC (cp (tC (.str "handed")) (cp (cq 1) (cp (tC (.int 1)) cy)))) σ (.handed w 1):=λH Q k=>by show nmQ σ[1]? _;rw[h];exact⟨fU,dZ λp H1 hp s1 g1=>k (.ref p) _ s1 ⟨p,rfl,g1⟩⟩
theorem ot{n:Nat}(h:σ[1]?=some (some (.str (sx w))))(h2:σ[2]?=some (some (.int n))):zi (eC (cp (tC (.str "handed")) (cp (cq 1) (cp (c9 gj (cq 2) (tC (.int 1))) cy)))) σ (.handed w (n+1)):=λH Q k=>by show nmQ σ[1]? _;rw[h];show nmQ σ[2]? _;rw[h2];exact⟨fU,dZ λp H1 hp s1 g1=>k (.ref p) _ s1 ⟨p,rfl,g1⟩⟩
theorem DC(rc:RC K C)(h:kW C vs H Q E):B9 K C (fC Q) (start ["self","word"] vs) H:=by
 obtain @⟨p,w,@⟨sl,ml,dx,H₀,x,k,ss,ms,us,ws,B,few,_,h1,_⟩⟩:=h;refine⟨B.ob,eG,B.ob,As,λhc H1 ap hp1=>⟨_,rfl,e7 ?_⟩,λhc=>⟨_,rfl,gw ?_⟩⟩
 ·cases hr:(cs x).drop k with
  | nil=>rw[iR hr]at hc;cases hc
  | cons c r=>
   obtain⟨e1,e2,e3⟩:=eU hr;rw[hc]at e1;cases e1;have B1:=B.mv ap hp1 e3;refine⟨hp1,eG,hp1,Ar,λhd H2 ap2 hp2=>⟨_,rfl,gw ?_⟩,λhd=>⟨_,rfl,e7 ?_⟩⟩
   ·cases hr2:(cs x).drop (k+1) with
    | nil=>rw[iR hr2]at hd;cases hd
    | cons d r2=>obtain⟨e1,e4,e5⟩:=eU hr2;rw[hd]at e1;cases e1;have B2:=B1.mv ap2 hp2 e5;refine oi rc B2 (g:=.st w []) (by omega) rfl rfl (λH3 Q3 k3=>⟨fU,dZ λq H4 hq s4 g4=>k3 q H4 s4 g4⟩) λH3 ws3 B3=>h1 [] _ _ _ _ H3 ?_ B3;rw[hr,e4,←e2,hr2];rfl
   ·refine jM rc B1 (by omega) rfl (de (rK rfl) (de fg iP)) (by simp) λH3 us3 B3=>h1 [.piece,.handed w 1] _ _ _ _ H3 ?_ B3;rw[hr,e2];cases r with
    | nil=>rfl
    | cons d r=>have:d≠125:=λz=>hd (by rw[(eU e2).1,z]);simp[kc,this]
 ·refine oi rc B (g:=.name w) (by omega) rfl rfl (λH3 Q3 k3=>⟨fU,dZ λq H4 hq s4 g4=>k3 q H4 s4 g4⟩) λH3 ws3 B3=>h1 [] _ _ _ _ H3 ?_ B3;cases hr:(cs x).drop k with
  | nil=>rfl
  | cons c r=>have:c≠123:=λz=>hc (by rw[(eU hr).1,z]);simp[kc,this]
theorem C7(rc:RC K C)(h:gE N C vs H Q E):B4 K N C E (fC Q) (start ["self","word"] vs) H:=by
 obtain⟨v,rfl,h⟩:=on1.ex h;obtain⟨p,rfl,h⟩:=onR.ex h;obtain @⟨sl,ml,dx,H₀,x,k,ss,ms,us,ws,B,few,_,h1,h2⟩:=h;have kx:=B.kx;have xl:=B.xl;have hl:=iY eA B.kx;refine⟨B.ob,eG,eA,B.ob,B.kx,B.xl,CW,λH1 ap1 hp1=>?_⟩;have B1:=B.mv ap1 hp1 hl;have hdr:=jk (cs x) k eA;by_cases hw:((cs x).drop k).takeWhile eA=[]
 ·refine⟨rfl,_,rfl,fI (decide_eq_true (by rw[hw,kr])) ?_⟩;exact⟨hp1,eG,hp1,by omega,by decide,h2 (by rw[rh,if_pos hw]) H1 B1.same⟩
 refine⟨rfl,_,rfl,du (decide_eq_false λe=>pf hw (V.str.inj e)) ?_⟩;refine⟨hp1,eG,hp1,by omega,DL,λhc H2 ap2 hp2=>?_,λhc=>h2 ?_ H1 B1.same⟩
 ·cases hr:(cs x).drop (k+(((cs x).drop k).takeWhile eA).length) with
  | nil=>rw[iR hr]at hc;cases hc
  | cons c r=>obtain⟨e1,e2,e3⟩:=eU hr;rw[hc]at e1;cases e1;have B2:=B1.mv ap2 hp2 e3;refine jM (D:=fC Q) (σ:=[some (.ref p),some (.str (sx (((cs x).drop k).takeWhile eA)))]) rc B2 (by omega) rfl (de (ke (h:=.lt (((cs x).drop k).takeWhile eA)) λH Q q=>q) (de fg (de (jg Cu) (de fg iP)))) (by simp) λH3 us3 B3=>h1 [.piece,.sign 93,.piece,.make (.lt (((cs x).drop k).takeWhile eA)) 2] _ _ _ _ H3 ?_ B3;rw[rh,if_neg hw,←hdr,hr];show some _=some _;rw[e2]
 ·rw[rh,if_neg hw,←hdr];cases hr:(cs x).drop (k+(((cs x).drop k).takeWhile eA).length) with
  | nil=>rfl
  | cons c r=>have:c≠61:=λz=>hc (by rw[(eU hr).1,z]);simp[this]
theorem qP:nv (ds++[c])=nv ds*10+(c-48):=by simp[nv]
theorem o5(h:eW c=true):48≤c∧c≤57:=by simpa[eW]using h
theorem w8:∀(n:Nat)(ds:List Nat),ds.length=n+1→(∀c∈ds,eW c=true)→(ds.head?≠some 48∨n=0)→fh (nv ds)=ds∧(ds.head?≠some 48→0<nv ds)
 | 0,[c],_,h,_=>by
  have hc:=o5 (h c (by simp));have e:nv [c]=c-48:=by simp[nv]
  rw[e,gT (by omega)];refine⟨by rw[Nat.sub_add_cancel hc.1],λz=>?_⟩;have:c≠48:=λq=>z (by simp[q])
  omega
 | n+1,ds,hl,h,hh=>by
  have hn:ds≠[]:=by rintro rfl;simp at hl
  have ed:=cb hn;generalize ds.dropLast=a at ed;generalize ds.getLast hn=c at ed;subst ed;have hl:a.length=n+1:=by simpa using hl
  have hh:(a++[c]).head?≠some 48:=by rcases hh with h|h;exact h;cases h
  have hd:(a++[c]).head?=a.head?:=by cases a with|nil=>simp at hl|cons _ _=>rfl
  rw[hd]at hh;obtain⟨i1,i2⟩:=w8 n a hl (λd m=>h d (by simp[m])) (.inl hh);have i2:=i2 hh;have hc:=o5 (h c (by simp));rw[qP];have e1:(nv a*10+(c-48)) / 10=nv a:=by omega
  have e2:(nv a*10+(c-48))%10+48=c:=by omega
  refine⟨?_,λ_=>by omega⟩;rw[i8 (by omega),e1,e2,i1]
theorem qb(h:ds≠[])(ha:∀c∈ds,eW c=true)(hk:kF b ds=true):fh (nv ds)=ds:=by
 cases ds with
 | nil=>exact absurd rfl h
 | cons c r=>
  refine(w8 r.length (c::r) rfl ha ?_).1;by_cases e:c=48
  ·subst e;cases r with
   | nil=>exact .inr rfl
   | cons d r=>simp[kF]at hk
  ·exact .inl (by simp[e])
theorem ua:fi 0 c r=if c=45 then r else c::r:=by
 by_cases e:c=45
 ·subst e;rfl
 ·simp[fi,jx,e]
theorem vg(h:(⟨#[c]⟩:Str)="0"):c=48:=by
 have e3:cs (⟨#[c]⟩:Str)=cs "0":=by rw[h]
 have e4:cs "0"=[48]:=by decide
 rw[e4]at e3;exact(List.cons.inj e3).1
theorem AN:sx [48]="0":=by decide
theorem yg:sx (c::d::r)≠"0":=λe=>by
 have h:=congrArg cs e;have e4:cs "0"=[48]:=by decide
 rw[eI,e4]at h;cases h
theorem C6(rc:RC K C)(h:fK N C vs H Q E):Bz K N C E (fC Q) (start ["self","below","figures","number"] vs) H:=by
 obtain⟨v,rfl,h⟩:=on1.ex h;obtain⟨p,rfl,h⟩:=onR.ex h;obtain @⟨sl,ml,dx,H₀,x,k,ss,ms,us,ws,B,few,_,h1,h2⟩:=h;have xl:=B.xl;have rest:∀(b:Bool)(k1:Nat)(H1:Hp),RB C H₀ H1 x p sl ml dx k1 ss ms us ws→Au ms ((cs x).drop k)=(if((cs x).drop k1).takeWhile eW=[]then none else if kF b (((cs x).drop k1).takeWhile eW)then some ([],.num b (((cs x).drop k1).takeWhile eW)::ms,((cs x).drop k1).dropWhile eW)else none)→
   (c8 (dE (eB C "run_of" (jY C) [] E0 (cq 0) (cp (tC (.str "0123456789")) cy)) (c5 2)) (c8 (sP K N C E) (c8 (sL K N C E) (c8 (dE (gG qk (cp (cq 2) cy)) (c5 3)) (dj (kD K "list" eX (fO K (cq 0) "made") (cp (eC (cp (tC (.str "number")) (cp (BS (tB (cq 1)) (kq fM (cq 3)) (cq 3)) cy))) cy))))))) (fC Q) [some (.ref p),some (.bl b),none,none] H1:=by
  intro b k1 H1 B1 hf;have kx:=B1.kx;have hl:=iY eW B1.kx;refine⟨B1.ob,eG,eW,B1.ob,B1.kx,B1.xl,Bc,λH2 ap2 hp2=>?_⟩;have B2:=B1.mv ap2 hp2 hl;have hdr:=jk (cs x) k1 eW;have hz:=B1.rn k1;have ha:=kj eW ((cs x).drop k1);rw[←hdr]at hf;generalize ((cs x).drop k1).takeWhile eW=ds at *;have zl:(sx ds).length≤640:=by rw[←c4,eI];omega
  have zs:(sx ds).length≤sizeLine:=by rw[sizeLine_eq];omega
  by_cases hw:ds=[]
  ·refine⟨rfl,_,rfl,fI (decide_eq_true (by rw[hw,kr])) ?_⟩;exact⟨hp2,eG,hp2,by omega,by decide,h2 (by rw[hf,if_pos hw]) H2 B2.same⟩
  refine⟨rfl,_,rfl,du (decide_eq_false λe=>pf hw (V.str.inj e)) ?_⟩;rw[if_neg hw]at hf;have tail:kF b ds=true→(c8 (dE (gG qk (cp (cq 2) cy)) (c5 3)) (dj (kD K "list" eX (fO K (cq 0) "made") (cp (eC (cp (tC (.str "number")) (cp (BS (tB (cq 1)) (kq fM (cq 3)) (cq 3)) cy))) cy)))) (fC Q) [some (.ref p),some (.bl b),some (.str (sx ds)),none] H2:=by
   intro ok;refine⟨_,_,rfl,uD (by rw[eI,qb hw ha ok]) zl,zl,?_⟩;refine oi (D:=fC Q) (σ:=[some (.ref p),some (.bl b),some (.str (sx ds)),some (.int (nv ds))]) (g:=.num b ds) rc B2 (by omega) rfl rfl ?_ λH3 ws3 B3=>h1 [] _ _ _ _ H3 (by rw[hf,if_pos ok]) B3;intro H3 Q3 k3;cases b with
   | true=>exact⟨_,rfl,gw ⟨fU,dZ λq H4 hq s4 g4=>k3 q H4 s4 g4⟩⟩
   | false=>exact⟨_,rfl,e7 ⟨fU,dZ λq H4 hq s4 g4=>k3 q H4 s4 g4⟩⟩
  have ql:kF b ds=false→sM K N C E (fC Q) [some (.ref p),some (.bl b),some (.str (sx ds)),none] H2:=λok=>
   ⟨hp2,eG,hp2,by omega,by decide,h2 (by rw[hf,if_neg (by rw[ok];decide)]) H2 B2.same⟩
  cases ds with
  | nil=>exact absurd rfl hw
  | cons c r=>
   refine⟨sx (c::r),0,c,rfl,rfl,zs,cz (j:=0) (by show(cs (sx (c::r)))[0]?=some c;rw[eI];rfl),rfl,_,rfl,?_⟩;by_cases h48:c=48
   ·subst h48;refine fI (by decide) ?_;cases b with
    | true=>exact⟨_,rfl,gw (gw (ql (by simp[kF])))⟩
    | false=>
     refine⟨_,rfl,e7 ⟨rfl,_,rfl,?_⟩⟩;cases r with
     | nil=>exact du (by rw[AN];decide) (tail (by decide))
     | cons d r=>exact fI (by rw[decide_eq_false λe=>yg (V.str.inj e)];rfl) (ql (by simp[kF]))
   ·exact du (decide_eq_false λe=>h48 (vg (V.str.inj e))) (e7 (tail (by simp[kF,h48])))
 refine⟨B.ob,eG,B.ob,CS,λhc H1 ap hp1=>?_,λhc=>?_⟩
 ·cases hr:(cs x).drop k with
  | nil=>rw[iR hr]at hc;cases hc
  | cons c r=>obtain⟨e1,e2,e3⟩:=eU hr;rw[hc]at e1;cases e1;refine rest true (k+1) H1 (B.mv ap hp1 e3) ?_;rw[hr,e2];rfl
 ·refine rest false k H B ?_;cases hr:(cs x).drop k with
  | nil=>rfl
  | cons c r=>
   have h45:c≠45:=λz=>hc (by rw[(eU hr).1,z]);have hb:(c==45)=false:=by simp[h45]
   show tw ms c r=_;rw[tw,ua,if_neg h45,hb]
theorem C3(rc:RC K C)(h:fD N C vs H Q E):Bw K N C E (fC Q) (start ["self"] vs) H:=by
 obtain⟨v,rfl,h⟩:=on1.ex h;obtain⟨p,rfl,h⟩:=onR.ex h;obtain @⟨sl,ml,dx,H₀,x,k,ss,ms,us,ws,B,few,_,h1,h2⟩:=h;have xl:=B.xl;have kx:=B.kx;have take:∀{d:Nat}{r':List Nat},(cs x)[k]?=some d→∃r,(cs x).drop k=d::r∧(cs x).drop (k+1)=r∧k+1≤(cs x).length:=λhc=>by
  cases hr:(cs x).drop k with
  | nil=>rw[iR hr]at hc;cases hc
  | cons c r=>obtain⟨e1,e2,e3⟩:=eU hr;rw[hc]at e1;cases e1;exact⟨r,rfl,e2,e3⟩
 refine⟨B.ob,eG,B.ob,Dn,λhc H1 ap hp1=>⟨_,rfl,gw ?_⟩,λn1=>⟨_,rfl,e7 ?_⟩⟩
 ·obtain⟨r,e1,e2,e3⟩:=take (r':=[]) hc;refine jM (D:=fC Q) (σ:=[some (.ref p)]) rc (B.mv ap hp1 e3) (by omega) rfl (de (ke (h:=.two true) λH Q q=>q) (de (jg zv) (de fg iP))) (by simp) λH3 us3 B3=>h1 [.piece,.sign 41,.make (.two true) 2] _ _ _ _ H3 ?_ B3;rw[e1,e2];rfl
 refine⟨B.ob,eG,B.ob,CS,λhc H1 ap hp1=>⟨_,rfl,gw ?_⟩,λn2=>⟨_,rfl,e7 ?_⟩⟩
 ·obtain⟨r,e1,e2,e3⟩:=take (r':=[]) hc;refine jM (D:=fC Q) (σ:=[some (.ref p)]) rc (B.mv ap hp1 e3) (by omega) rfl (de (ke (h:=.two false) λH Q q=>q) (de (jg zv) (de fg iP))) (by simp) λH3 us3 B3=>h1 [.piece,.sign 41,.make (.two false) 2] _ _ _ _ H3 ?_ B3;rw[e1,e2];rfl
 refine⟨B.ob,eG,B.ob,by omega,Dl,λhc H1 ap hp1=>?_,λn3=>h2 ?_ H B.same⟩
 ·obtain⟨r,e1,e2,e3⟩:=take (r':=[]) hc;refine jM (D:=fC Q) (σ:=[some (.ref p)]) rc (B.mv ap hp1 e3) (by omega) rfl (de (ke (h:=.cho) λH Q q=>q) (de (jg zv) (de fg (de (jg Cv) (de fg iP))))) (by simp) λH3 us3 B3=>h1 [.piece,.sign 58,.piece,.sign 41,.make .cho 3] _ _ _ _ H3 ?_ B3;rw[e1,e2];rfl
 ·cases hr:(cs x).drop k with
  | nil=>rfl
  | cons c r=>have e:=(eU hr).1;rw[e]at n1 n2 n3;show(if c=43 then _ else if c=45 then _ else if c=63 then _ else none)=none;rw[if_neg λz=>n1 (by rw[z]),if_neg λz=>n2 (by rw[z]),if_neg λz=>n3 (by rw[z])]
theorem uI{ms:List Pg}(md:GL H ms.reverse ws)(hn:n≤ms.length):∃v0 ks,ws=v0++ks∧GL H (ms.drop n).reverse v0∧GL H (ms.take n).reverse ks∧ks.length=n:=by
 have e:ms.reverse=(ms.drop n).reverse++(ms.take n).reverse:=by rw[←cG,cB]
 rw[e]at md;obtain⟨a,b,rfl,h1,h2⟩:=md.split;exact⟨a,b,rfl,h1,h2,by rw[h2.length,ay,ak];omega⟩
theorem qO(B:RB C H₀ H x p sl ml dx k ss ms us ws)(few:ms.length≤650000)(hq:H q=some (.tup (kg g)))(n0:0<n)(hn:n≤ms.length)(hk:kd g=(ms.take n).reverse)(h0:kg g≠[])(h2:(kg g).length≤2)
  (h:∀H' ws',RB C H₀ H' x p sl ml dx k ss (g::ms.drop n) us ws'→Q .non H'):iI C [.ref p,.ref q,.int n] H Q E:=by
 obtain⟨v0,ks,rfl,d1,d2,hl⟩:=uI B.md hn;have ml:=B.md.length;rw[aD,ay]at ml;refine⟨B.ob,hq,B.ml_,hl,n0,h0,⟨h2,by omega⟩,λr H' hr hm keep=>?_⟩;have tl:=sH B.ml_ keep;refine h H' _ (B.butM keep hm ?_);rw[am];exact(d1.mono tl).app (.cons hr (by rw[hk];exact d2.mono tl) .nil)
theorem zG{ms:List Pg}(hn:n=ar h)(hl:n≤ms.length):∃g,CU h ms=g::ms.drop n∧kg g=Bb h∧kd g=(ms.take n).reverse:=by
 subst hn;cases h with
 | two s=>
  match ms,hl with
  | b::a::ms,_=>exact⟨.two s a b,rfl,by cases s<;>rfl,rfl⟩
  | [_],hl=>simp[ar]at hl
  | [],hl=>simp[ar]at hl
 | cho=>
  match ms,hl with
  | c::b::a::ms,_=>exact⟨.cho a b c,rfl,rfl,rfl⟩
  | [_,_],hl=>simp[ar]at hl
  | [_],hl=>simp[ar]at hl
  | [],hl=>simp[ar]at hl
 | lt w=>
  match ms,hl with
  | b::a::ms,_=>exact⟨.lt w a b,rfl,rfl,rfl⟩
  | [_],hl=>simp[ar]at hl
  | [],hl=>simp[ar]at hl
theorem mw(g:Pg):kg g≠[]∧(kg g).length≤2:=by unfold kg;split<;>exact⟨by simp,by simp⟩
theorem ub{x:Str}{k d:Nat}(hc:(cs x)[k]?=some d):∃r,(cs x).drop k=d::r∧(cs x).drop (k+1)=r∧k+1≤(cs x).length:=by
 cases hr:(cs x).drop k with
 | nil=>rw[iR hr]at hc;cases hc
 | cons c r=>obtain⟨e1,e2,e3⟩:=eU hr;rw[hc]at e1;cases e1;exact⟨r,rfl,e2,e3⟩
theorem C9(rc:RC K C)(h:eF N C vs H Q E):B6 K N C E (fC Q) (start ["self","word","many"] vs) H:=by
 obtain @⟨p,w,n,@⟨sl,ml,dx,H₀,x,k,ss,ms,us,ws,B,few,⟨f1,f2⟩,h1,h2⟩⟩:=h;have xl:=B.xl;have kx:=B.kx;refine⟨B.ob,eG,B.ob,Dm,λhc H1 ap hp1=>⟨_,rfl,gw ?_⟩,λn1=>⟨_,rfl,e7 ?_⟩⟩
 ·obtain⟨r,e1,e2,e3⟩:=ub hc;refine jM (D:=fC Q) (σ:=[some (.ref p),some (.str (sx w)),some (.int n)]) rc (B.mv ap hp1 e3) (by omega) rfl (de (ot rfl rfl) (de fg iP)) (by simp) λH3 us3 B3=>h1 [.piece,.handed w (n+1)] _ _ _ _ H3 ?_ B3;rw[e1,e2];rfl
 refine⟨B.ob,eG,B.ob,by omega,Ar,λhc H1 ap hp1=>?_,λn2=>h2 ?_ H B.same⟩
 ·obtain⟨r,e1,e2,e3⟩:=ub hc;have B1:=B.mv ap hp1 e3;refine⟨hp1,eG,fU,dZ λq H2 hq s2 g2=>?_⟩;refine qO (E:=E0) (g:=.st w (ms.take n).reverse) (B1.grow s2) (by omega) g2 f1 f2 rfl (mw _).1 (mw _).2 λH3 ws3 B3=>h1 [] _ _ _ _ H3 ?_ B3;rw[e1,e2];rfl
 ·cases hr:(cs x).drop k with
  | nil=>rfl
  | cons c r=>have e:=(eU hr).1;rw[e]at n1 n2;show(if c=44 then _ else if c=125 then _ else none)=none;rw[if_neg λz=>n1 (by rw[z]),if_neg λz=>n2 (by rw[z])]
theorem C4(rc:RC K C)(h:fW N C vs H Q E):Bx K N C E (fC Q) (start ["self","word"] vs) H:=by
 obtain⟨v,rfl,h⟩:=on1.ex h;obtain⟨p,rfl,h⟩:=onR.ex h;obtain @⟨sl,ml,dx,H₀,x,k,ss,ms,us,ws,B,few,_,h1,h2⟩:=h;have xl:=B.xl;have kx:=B.kx;have hl:=iY eA B.kx;refine⟨B.ob,eG,eA,B.ob,B.kx,B.xl,CW,λH1 ap1 hp1=>?_⟩;have hdr:=jk (cs x) k eA;have B1:=B.mv ap1 hp1 hl;cases hr:(cs x).drop k with
 | nil=>
  rw[hr]at hp1 B1;have B1:RB C H₀ H1 x p sl ml dx k ss ms us ws:=B1;refine⟨rfl,_,rfl,du (by rw[show sx (List.takeWhile eA [])="" from kr];decide) ?_⟩;have no:∀c,(cs x)[k]?≠some c:=λc z=>by rw[iR hr]at z;cases z
  refine⟨B1.ob,eG,B1.ob,Ba,λhc=>absurd hc (no _),λ_=>⟨_,rfl,e7 ?_⟩⟩;refine⟨B1.ob,eG,B1.ob,BZ,λhc=>absurd hc (no _),λ_=>⟨_,rfl,e7 ?_⟩⟩;refine⟨B1.ob,eG,B1,few,trivial,λpp ms' k' us' ws' H' e=>?_,λ_=>h2 (by rw[hr];rfl)⟩;rw[hr]at e;cases e
 | cons c r=>
  by_cases hc:eA c=true
  ·have ht:(c::r).takeWhile eA=c::r.takeWhile eA:=by rw[aU,if_pos hc]
   have hd:(c::r).dropWhile eA=r.dropWhile eA:=by rw[bJ,if_pos hc]
   rw[hr,ht]at hp1 B1 hdr;rw[hd]at hdr;rw[ht];refine⟨rfl,_,rfl,fI (by rw[decide_eq_false λe=>pf (List.cons_ne_nil _ _) (V.str.inj e)];rfl) ?_⟩;refine⟨B1.ob,eG,.mk ⟨B1,few,trivial,λpp ms' k' us' ws' H' e B'=>h1 _ _ _ _ _ H' ?_ B',λz=>by cases z⟩⟩;rw[hr];show(if eA c then some _ else _)=_;rw[if_pos hc,←hdr];exact e
  ·have ht:(c::r).takeWhile eA=[]:=by rw[aU,if_neg hc]
   rw[hr,ht]at hp1 B1;have B1:RB C H₀ H1 x p sl ml dx k ss ms us ws:=B1;rw[ht,kr];refine⟨rfl,_,rfl,du (by decide) ?_⟩;obtain⟨e1,e2,e3⟩:=eU hr;have en:nx ms .piece (c::r)=if c=40 then some ([.piece,.between],ms,r)else if c=91 then rh ms r else tw ms c r:=if_neg hc
   refine⟨B1.ob,eG,B1.ob,Ba,λq H2 ap2 hp2=>⟨_,rfl,gw ?_⟩,λq=>⟨_,rfl,e7 ?_⟩⟩
   ·rw[e1]at q;cases q;refine jM (D:=fC Q) (σ:=[some (.ref p),some (.str "")]) rc (B1.mv ap2 hp2 e3) (by omega) rfl (de ou (de fg iP)) (by simp) λH3 us3 B3=>h1 [.piece,.between] _ _ _ _ H3 ?_ B3;rw[hr,e2];exact en
   have n40:c≠40:=λz=>q (by rw[e1,z]);rw[if_neg n40]at en;refine⟨B1.ob,eG,B1.ob,BZ,λq H2 ap2 hp2=>⟨_,rfl,gw ?_⟩,λq=>⟨_,rfl,e7 ?_⟩⟩
   ·rw[e1]at q;cases q;rw[if_pos rfl]at en;refine⟨hp2,eG,B1.mv ap2 hp2 e3,few,trivial,λpp ms' k' us' ws' H' e B'=>h1 _ _ _ _ _ H' ?_ B',λz=>h2 ?_⟩
    ·rw[e2]at e;rw[hr];exact en.trans e
    ·rw[e2]at z;rw[hr];exact en.trans z
   have n91:c≠91:=λz=>q (by rw[e1,z]);rw[if_neg n91]at en;refine⟨B1.ob,eG,B1,few,trivial,λpp ms' k' us' ws' H' e B'=>h1 _ _ _ _ _ H' ?_ B',λz=>h2 ?_⟩
   ·rw[hr]at e⊢;exact en.trans e
   ·rw[hr]at z⊢;exact en.trans z
theorem Do.non(h:Do N C H Q E p f ft):Do N C H (λ_ H=>Q .non H) E p f ft:=by obtain⟨B,few,ft,h1,h2⟩:=h;exact⟨B,few,ft,h1,h2⟩
theorem C1(rc:RC K C)(h:ix N C vs H Q E):Bu K N C E (fC Q) (start ["self","step"] vs) H:=by
 obtain @⟨p,s,u,a,d⟩:=h;obtain ob:∃dx fs,H p=some (.ins C dx fs)∧∃x k sl ml,fs=rf x k sl ml:=by obtain @⟨sl,ml,dx,H₀,x,k,ss,ms,us,ws,B,_⟩:=d;exact⟨_,_,B.ob,_,_,_,_,rfl⟩
 obtain⟨dx,fs,ob,x0,k0,sl0,ml0,rfl⟩:=ob;cases s with
 | piece=>obtain⟨q,rfl,hq⟩:=a;exact⟨eM.of hq,cz (j:=0) rfl,rfl,_,rfl,fI (by decide) ⟨ob,eG,d.non⟩⟩
 | between=>obtain⟨q,rfl,hq⟩:=a;exact⟨eM.of hq,cz (j:=0) rfl,rfl,_,rfl,du (by decide) ⟨eM.of hq,cz (j:=0) rfl,rfl,_,rfl,fI (by decide) ⟨ob,eG,d.non⟩⟩⟩
 | handed w n=>obtain⟨q,rfl,hq⟩:=a;exact⟨eM.of hq,cz (j:=0) rfl,rfl,_,rfl,du (by decide) ⟨eM.of hq,cz (j:=0) rfl,rfl,_,rfl,du (by decide) ⟨eM.of hq,cz (j:=0) rfl,rfl,_,rfl,fI (by decide) ⟨ob,eG,eM.of hq,cz (j:=1) rfl,eM.of hq,cz (j:=2) rfl,.mk d.non⟩⟩⟩⟩
 | sign c=>
  obtain⟨q,rfl,hq⟩:=a;obtain @⟨sl,ml,dx,H₀,x,k,ss,ms,us,ws,B,few,_,h1,h2⟩:=d;have xl:=B.xl;have kx:=B.kx;refine⟨eM.of hq,cz (j:=0) rfl,rfl,_,rfl,du (by decide) ⟨eM.of hq,cz (j:=0) rfl,rfl,_,rfl,du (by decide) ⟨eM.of hq,cz (j:=0) rfl,rfl,_,rfl,du (by decide) ⟨eM.of hq,cz (j:=0) rfl,rfl,_,rfl,fI (by decide) ⟨ob,eG,eM.of hq,cz (j:=1) rfl,B.ob,by omega,eI,λhc H1 ap hp1=>?_,λn1=>h2 ?_ H B.same⟩⟩⟩⟩⟩
  ·obtain⟨r,e1,e2,e3⟩:=ub hc;refine h1 [] _ _ _ _ H1 ?_ (B.mv ap hp1 e3);rw[e1,e2];exact if_pos rfl
  ·cases hr:(cs x).drop k with
   | nil=>rfl
   | cons d r=>rw[(eU hr).1]at n1;exact if_neg λz=>n1 (by rw[z])
 | make h n=>obtain⟨q,hd,rfl,hq,hh⟩:=a;obtain @⟨sl,ml,dx,H₀,x,k,ss,ms,us,ws,B,few,⟨f1,f2⟩,h1,h2⟩:=d;obtain⟨g,eg,eh,ek⟩:=zG f1 f2;refine⟨eM.of hq,cz (j:=0) rfl,rfl,_,rfl,du (by decide) ⟨eM.of hq,cz (j:=0) rfl,rfl,_,rfl,du (by decide) ⟨eM.of hq,cz (j:=0) rfl,rfl,_,rfl,du (by decide) ⟨eM.of hq,cz (j:=0) rfl,rfl,_,rfl,du (by decide) ⟨ob,eG,eM.of hq,cz (j:=1) rfl,eM.of hq,cz (j:=2) rfl,?_⟩⟩⟩⟩⟩;refine qO (E:=E0) (g:=g) B (by omega) (by rw[eh];exact hh) (by cases h<;>simp[f1,ar]) f2 ek (mw _).1 (mw _).2 λH3 ws3 B3=>h1 [] _ _ _ _ H3 ?_ B3;show some _=some _;rw[eg]
theorem tu(w:List Nat)(ms:List Pg):∀r:List Nat,(kc w ms r).1.length+5*(kc w ms r).2.2.length≤5*r.length+2∧(kc w ms r).2.1.length≤ms.length+1
 | []=>⟨by simp[kc],by simp[kc]⟩
 | x::r=>by
  by_cases e:x=123
  ·cases r with
   | nil=>simp[kc,e]
   | cons y r=>
    by_cases e2:y=125
    ·simp[kc,e,e2];omega
    ·simp[kc,e,e2];omega
  ·simp[kc,e]
theorem vk(h:nx ms s r=some (p,ms',r')):p.length+5*r'.length<1+5*r.length∧ms'.length≤ms.length+1:=by
 cases s with
 | piece=>
  cases r with
  | nil=>cases h
  | cons c r=>
   change (if eA c then some (kc (c::r.takeWhile eA) ms (r.dropWhile eA))else if c=40 then some ([.piece,.between],ms,r)else if c=91 then rh ms r else tw ms c r)=_ at h
   have hd:=kM eA r;rw[aC];by_cases h1:eA c=true
   ·rw[if_pos h1]at h;injection h with h;have:=tu (c::r.takeWhile eA) ms (r.dropWhile eA);rw[h]at this;exact⟨by have:=this.1;simp only at this;omega,this.2⟩
   ·rw[if_neg h1]at h;by_cases h2:c=40
    ·rw[if_pos h2]at h;cases h;exact⟨by simp only[aC,aG];omega,by omega⟩
    ·rw[if_neg h2]at h;by_cases h3:c=91
     ·rw[if_pos h3]at h;unfold rh at h;by_cases h4:r.takeWhile eA=[]
      ·rw[if_pos h4]at h;cases h
      ·rw[if_neg h4]at h;have hr:=congrArg List.length (pK eA r);rw[aD]at hr;have h5:0<(r.takeWhile eA).length:=bI.mpr h4;generalize r.dropWhile eA=r1 at h hr;cases r1 with
       | nil=>cases h
       | cons y r1=>
        by_cases h6:y=61
        ·subst h6;cases h;simp only[aC,aG]at hr⊢;exact⟨by omega,by omega⟩
        ·simp[h6]at h
     ·rw[if_neg h3]at h;unfold tw at h;by_cases h4:(fi 0 c r).takeWhile eW=[]
      ·rw[if_pos h4]at h;cases h
      ·rw[if_neg h4]at h;have hb:=lH 0 c r h4;by_cases h5:kF (c==45) ((fi 0 c r).takeWhile eW)=true
       ·rw[if_pos h5]at h;cases h;exact⟨by simp only[aG];omega,by simp⟩
       ·rw[if_neg h5]at h;cases h
 | between=>
  cases r with
  | nil=>cases h
  | cons c r=>
   simp only[nx]at h;rw[aC];by_cases h1:c=43
   ·rw[if_pos h1]at h;cases h;exact⟨by simp only[aC,aG];omega,by omega⟩
   ·rw[if_neg h1]at h;by_cases h2:c=45
    ·rw[if_pos h2]at h;cases h;exact⟨by simp only[aC,aG];omega,by omega⟩
    ·rw[if_neg h2]at h;by_cases h3:c=63
     ·rw[if_pos h3]at h;cases h;exact⟨by simp only[aC,aG];omega,by omega⟩
     ·rw[if_neg h3]at h;cases h
 | handed w n=>
  cases r with
  | nil=>cases h
  | cons c r=>
   simp only[nx]at h;rw[aC];by_cases h1:c=44
   ·rw[if_pos h1]at h;cases h;exact⟨by simp only[aC,aG];omega,by omega⟩
   ·rw[if_neg h1]at h;by_cases h2:c=125
    ·rw[if_pos h2]at h;cases h;exact⟨by simp only[aG];omega,by simp[BU]⟩
    ·rw[if_neg h2]at h;cases h
 | sign d=>
  cases r with
  | nil=>cases h
  | cons c r=>
   simp only[nx]at h;rw[aC];by_cases h1:c=d
   ·rw[if_pos h1]at h;cases h;exact⟨by simp only[aG];omega,by omega⟩
   ·rw[if_neg h1]at h;cases h
 | make k n=>cases h;refine⟨by simp only[aG];omega,?_⟩;unfold CU;split<;>simp<;>omega
theorem uN(h:hG (s::ss) ms t)(g:Pg):Bm s (g::ms):=by
 generalize hq:s::ss=q at h;cases h<;>first
  | (cases hq;done)
  | (injection hq with q1 q2;subst q1;first|trivial|exact⟨rfl,by simp[ar]⟩|(rename_i hn;subst hn;exact⟨by omega,by simp⟩))
theorem wI(h:wU (s::ss) ms t):Bm s ms:=by
 generalize hq:s::ss=q at h;cases h with
 | exp h=>injection hq with q1 _;subst q1;trivial
 | aft h hg=>subst hq;exact uN h _
 | mk2=>injection hq with q1 _;subst q1;exact⟨rfl,by simp⟩
 | mk3=>injection hq with q1 _;subst q1;exact⟨rfl,by simp⟩
theorem C8(rc:RC K C)(h:mT C vs H Q E):B5 K C (fC Q) (start ["self","line"] vs) H:=by
 obtain @⟨p,dx,x,hp,h1⟩:=h;have nLA:¬(("line":Str)="at"):=by decide
 have nLS:¬(("line":Str)="steps"):=by decide
 have nLM:¬(("line":Str)="made"):=by decide
 have nAS:¬(("at":Str)="steps"):=by decide
 have nAM:¬(("at":Str)="made"):=by decide
 have nSM:¬(("steps":Str)="made"):=by decide
 refine⟨p,C,dx,[],rfl,hp,rc.cl,rc.nL,by show 0<1000;decide,?_⟩;have a1:Ap p H (dc H p (.ins C dx (fX "line" (.str x) []))):=lK;have g1:(dc H p (.ins C dx (fX "line" (.str x) []))) p=some (.ins C dx [("line",.str x)]):=c6;generalize dc H p (.ins C dx (fX "line" (.str x) []))=H1 at a1 g1⊢;refine⟨p,C,dx,_,rfl,g1,rc.cl,rc.nA,by show 1<1000;decide,?_⟩;have a2:=oG a1 (lK (H:=H1) (o:=.ins C dx (fX "at" (.int 0) [("line",.str x)])));have g2:(dc H1 p (.ins C dx (fX "at" (.int 0) [("line",.str x)]))) p=some (.ins C dx [("line",.str x),("at",.int 0)]):=by rw[c6];simp only[fX,if_neg nLA]
 generalize dc H1 p (.ins C dx (fX "at" (.int 0) [("line",.str x)]))=H2 at a2 g2⊢;refine⟨fU,dZ λq H3 hq s3 g3=>⟨fU,dZ λsl H4 hsl s4 g4=>?_⟩⟩;have s34:=s3.trans s4;have hp4:=s34 _ _ g2;refine⟨p,C,dx,_,rfl,hp4,rc.cl,rc.nS,by show 2<1000;decide,?_⟩;have a5:Ap p H4 (dc H4 p (.ins C dx (fX "steps" (.ref sl) [("line",.str x),("at",.int 0)]))):=lK;have g5:(dc H4 p (.ins C dx (fX "steps" (.ref sl) [("line",.str x),("at",.int 0)]))) p=some (.ins C dx [("line",.str x),("at",.int 0),("steps",.ref sl)]):=by rw[c6];simp only[fX,if_neg nLS,if_neg nAS]
 generalize dc H4 p (.ins C dx (fX "steps" (.ref sl) [("line",.str x),("at",.int 0)]))=H5 at a5 g5⊢;refine⟨fU,dZ λml H6 hml s6 g6=>?_⟩;have hp6:=s6 _ _ g5;refine⟨p,C,dx,_,rfl,hp6,rc.cl,rc.nM,by show 3<1000;decide,?_⟩;have np:∀{b:Addr}{o:HO},H4 b=some o→b≠p→H6 b=some o:=λe hb=>s6 _ _ (by rw[a5 _ hb];exact e);have nsl:sl≠p:=λz=>by subst z;rw[s3 _ _ g2]at hsl;cases hsl
 have nq:q≠p:=λz=>by subst z;rw[g2]at hq;cases hq
 have nml:ml≠p:=λz=>by subst z;rw[g5]at hml;cases hml
 refine h1 sl ml q _ ?_ ?_ ?_ ?_ ?_ ?_ ?_ λb o hb e=>?_
 ·cases e:H sl with
  | none=>rfl
  | some o=>have:=s3 _ _ ((a2 sl nsl).trans e);rw[hsl]at this;cases this
 ·cases e:H ml with
  | none=>rfl
  | some o=>have:=(a5 ml nml).trans (s34 _ _ ((a2 ml nml).trans e));rw[hml]at this;cases this
 ·intro z;subst z;have:=(a5 sl nsl).trans g4;rw[hml]at this;cases this
 ·rw[c6];simp only[fX,if_neg nLM,if_neg nAM,if_neg nSM];rfl
 ·rw[dN nsl];exact np g4 nsl
 ·rw[dN nq];exact np (s4 _ _ g3) nq
 ·rw[dN nml];exact g6
 ·rw[dN hb];exact np (s34 _ _ ((a2 b hb).trans e)) hb
inductive Ci(C:Addr)(H:Hp)(x:Str)(p sl ml dx:Addr):Nat→St→Hp→Prop
 | mk{k:Nat}{ss:List gI}{ms:List Pg}{us ws:List V}{H':Hp}(B:RB C H H' x p sl ml dx k ss ms us ws)(go:gN (cs x) ss ms ((cs x).drop k))(few:ms.length+ss.length+5*((cs x).drop k).length≤550000):Ci C H x p sl ml dx (ss.length+5*((cs x).drop k).length) [some (.str x),some (.ref p)] H'
theorem DB(rc:RC K C)(h:gW N vs H Q E):B8 K N C E (fC Q) (start ["line","reader"] vs) H:=by
 obtain @⟨x,xl,rn,h1,h2⟩:=h;have hsl:x.length≤sizeLine:=by rw[←c4,sizeLine_eq];omega
 refine λp dx np ndx nex=>.mk c6 λsl ml q H1 nsl nml ne g1 g2 g3 g4 keep=>⟨rfl,?_⟩;have s0:dQ H (dc (dc H dx (.own p)) p (.ins C dx [])):=λb o e=>by rw[dN (da e np),dN (da e ndx)];exact e
 have s1:dQ H H1:=λb o e=>keep b o (da e np) (s0 b o e);have B0:RB C H H1 x p sl ml dx 0 [.piece] [] [.ref q] []:=⟨s1,np,s0.free nsl,s0.free nml,g1,g2,g4,ne,.cons ⟨q,rfl,g3⟩ .nil,.nil,aR _,xl,rn⟩;refine⟨Ci C H x p sl ml dx,⟨_,.mk B0 .start (by rw[aO];simp only[aC,aG];omega)⟩,?_⟩;clear B0 g1 g2 g3 g4 keep s1 nsl nml q;rintro m σ H2 @⟨k,ss,ms,us,ws,_,B,go,few⟩;refine⟨B.ob,rc.cl,rc.nS,kz,.inl (dv.of B.sl_),_,rfl,?_⟩;have kx:=B.kx;cases ss with
 | nil=>
  have st:=B.st.length;have e0:us=[]:=cK.mp (by simpa using st);subst e0;refine du (by decide) ?_;refine⟨B.ob,rc.cl,rc.nA,iM,x,rfl,hsl,_,rfl,?_⟩;cases hr:(cs x).drop k with
  | nil=>
   have hk:(cs x).length≤k:=by
    have:=congrArg List.length hr;rw[aO]at this;simp only[aG]at this
    omega
   refine du (decide_eq_false (by rw[c4]at hk;omega)) ?_;rw[hr]at go;obtain⟨g,rfl,ok,et⟩:=go.done rn;have md:=B.md;have mm:=B.ml_;cases md with
   | @cons _ q us0 vs0 _ a b r=>
   cases r;refine⟨B.ob,rc.cl,rc.nM,kZ,.inl ⟨rfl,_,dv.of mm⟩,mm,rfl,?_⟩;exact h1 g _ _ (dw B.same B.n3) (GL.mono (fN mm) (.cons a b .nil)) ok et go.yes
  | cons c r=>have e3:=(eU hr).2.2;refine fI (decide_eq_true (by rw[c4]at e3;omega)) ?_;rw[hr]at go;exact⟨B.ob,eG,B.ob,by omega,by decide,h2 go.left _ B.same⟩
 | cons s ss=>
  have hst:=B.st;rw[am]at hst;obtain⟨us,u,rfl,st,su⟩:=hst.snoc;refine fI (decide_eq_true (by rw[aD];simp only[aC,aG];omega)) ?_;refine⟨Lt (Ci C H x p sl ml dx) _,λ_ _ h=>h,?_⟩;refine⟨B.ob,eG,B.ob,rc.cl,rc.nS,kz,.inl ⟨rfl,_,dv.of B.sl_⟩,B.sl_,jO,?_⟩;rw[iS];have tl:=fN (o:=.lst us) B.sl_;have B2:=B.setS (ss':=ss) st;rw[aC]at few;obtain⟨t,sit,_⟩:=go.sit rn;refine .mk (su.mono tl) ⟨B2,by omega,wI sit,λpp ms' k' us' ws' H' e B'=>?_,λe H' s'=>h2 (go.no e) H' s'⟩;have m1:=vk e;refine⟨_,?_,.mk B' (go.next e) ?_⟩
  ·rw[aD,aC];omega
  ·rw[aD];omega
end R11
namespace L2
open PySem PySem.Spec PyProof.Rows
theorem jU(x y:Str):(x++y).cps.toList=x.cps.toList++y.cps.toList:=by show(x.cps++y.cps).toList=_;rw[bR]
theorem pF(x y:Str)(i:Nat):StrLaws.At x y x.length i↔i+y.length≤x.length∧y.cps.toList <+: x.cps.toList.drop i:=by
 unfold StrLaws.At Builtin.Str.subAt;refine and_congr_right λh=>?_;have e:(x.cps.extract i (i+y.length)).toList=(x.cps.toList.drop i).take y.length:=by rw[cj];simp[List.extract_eq_take_drop]
 have hl:y.cps.toList.length=y.length:=by simp[Str.length]
 rw[beq_iff_eq,←Array.toList_inj,e,cf,hl];exact eq_comm
theorem k6(p n xs:List Nat):∀(d a:Nat),a+d≤xs.length→(∀k,a≤k→k<a+d→¬p <+: xs.drop k)→S11.gL p n (xs.drop a)=(xs.drop a).take d++S11.gL p n (xs.drop (a+d))
 | 0,a,_,_=>by simp
 | d+1,a,h,no=>by
  have ha:a<xs.length:=by omega
  have e:xs.drop a=xs[a]::xs.drop (a+1):=ci ha;have ih:=k6 p n xs d (a+1) (by omega) λk h1 h2=>no k (by omega) (by omega);have hn:=no a (aB _) (by omega);rw[e]at hn⊢;rw[S11.jL hn,ih,cE,bi,show a+1+d=a+(d+1) by omega]
theorem gR(x:Str):x.cps.toList.length=x.length:=by simp[Str.length]
theorem mO(x:Str)(a c:Nat):(Builtin.Str.strSub x a c).cps.toList=(x.cps.toList.drop a).take (c-a):=by show(x.cps.extract a c).toList=_;rw[cj]
theorem ni(x y z:Str)(hy:1≤y.length):∀(cuts:List Nat)(a f:Nat),StrLaws.ChainG x y x.length a cuts f→(∀k,f≤k→¬StrLaws.At x y x.length k)→a≤x.length→
  (z.join (StrLaws.partsFrom x y.length a cuts)).cps.toList=S11.gL y.cps.toList z.cps.toList (x.cps.toList.drop a)
 | [],a,f,h,no,ha=>by
  rw[StrLaws.ChainG.eq_1]at h;subst h;have hl:=gR x;rw[StrLaws.partsFrom.eq_1,Str.join.eq_2,mO,k6 _ _ _ (x.length-f) f (by omega) λk h1 h2 q=>no k h1 ((pF x y k).mpr ⟨?_,q⟩),show f+(x.length-f)=x.cps.toList.length by omega,List.drop_length,S11.ja,ag];have:=q.length_le;rw[aO,gR,gR]at this
  omega
 | c::r,a,f,h,no,ha=>by
  rw[StrLaws.ChainG.eq_2]at h;obtain⟨h1,h2,h3,h4⟩:=h;obtain⟨hb,hp⟩:=(pF x y c).mp h2;have hl:=gR x;have hne:StrLaws.partsFrom x y.length (c+y.length) r≠[]:=by
   cases r with
   | nil=>rw[StrLaws.partsFrom.eq_1];simp
   | cons d r=>rw[StrLaws.partsFrom.eq_2];simp
  have ih:=ni x y z hy r (c+y.length) f h4 no hb;have ed:x.cps.toList.drop c=y.cps.toList++x.cps.toList.drop (c+y.length):=by
   obtain⟨t,e⟩:=hp;rw[←e]
   congr 1
   have:=congrArg (List.drop y.length) e;rw[bU,ax (gR y)]at this;exact this
  rw[StrLaws.partsFrom.eq_2,Str.join.eq_3 _ _ _ (λe=>hne e),jU,jU,mO,ih,k6 _ _ _ (c-a) a (by omega) λk g1 g2 q=>h3 k g1 (by omega) ((pF x y k).mpr ⟨?_,q⟩),show a+(c-a)=c by omega,ed,S11.iz (by intro e;have:=gR y;rw[e]at this;simp at this;omega),ah];have:=q.length_le;rw[aO,gR,gR]at this
  omega
theorem oA(x y z:Str)(hy:1≤y.length):(PySem.Txt.replace x y z).cps.toList=S11.gL y.cps.toList z.cps.toList x.cps.toList:=by
 obtain⟨f,hc,no⟩:=StrLaws.occ_tight x y hy;have key:=ni x y z hy _ 0 f hc no (aR _);rw[aw]at key;unfold PySem.Txt.replace;have h0:(y.length==0)=false:=by simp;omega
 by_cases e:(Builtin.Str.occurrences x y 0 x.length (x.length+1)).isEmpty=true
 ·rw[if_pos (by simp[e])];rw[List.isEmpty_iff.mp e,StrLaws.partsFrom.eq_1,Str.join.eq_2,mO]at key;rw[←key,bS,aw,←gR,cI]
 ·rw[if_neg (by simp[e,h0]),StrLaws.glued_eq_join];have:Builtin.Str.partsBetween x (Builtin.Str.occurrences x y 0 x.length (x.length+1)) y.length=StrLaws.partsFrom x y.length 0 (Builtin.Str.occurrences x y 0 x.length (x.length+1)):=StrLaws.zip_parts x y.length _ 0;rw[this];exact key
section
variable {X:Cx}{o:Expr}{to:TE}{apos cpos p1 p2:Pos}{j1 j2:Nat}{y z:Str}
def hV(to:TE)(y z:Str):TE:=λσ H Q=>to σ H λx H1=>onS x λw=>w.length+(w.length+1)*z.length≤sizeLine∧(PySem.Txt.replace w y z).length≤sizeLine∧Q (.str (PySem.Txt.replace w y z)) H1
end
end L2
namespace R11
open PySem L2 SW
def jZ:Sp:=λvs H Q _=>on1 vs λv=>onS v λx=>(cs x).length≤100000∧∀H',dQ H H'→Q (.str (sx (S11.mk 0 (cs x)))) H'
def mQ:Sp:=λvs H Q _=>on1 vs λv=>onS v λx=>(cs x).length≤100000∧∀H',dQ H H'→(S11.Bq (cs x)→Q (.bl true) H')∧(¬S11.Bq (cs x)→Q (.bl false) H')
def ut(K:aA):TS:=(dE (c9 gj (cq 3) (tC (.int 1))) (c5 3))
def ur(K:aA):TS:=(dE (c9 fE (cq 1) (tC (.str "W"))) (c5 1))
def pO(K:aA):TS:=(dE (c9 gj (cq 3) (tC (.int 1))) (c5 3))
def uq(K:aA):TS:=(c8 (dE (c9 gj (cq 2) (tC (.int 1))) (c5 3)) (dE (c9 fE (cq 1) (c9 (gA K) (dh (cp (tC (.str "!")) (cp (c9 jN (cq 0) (cq 2)) cy))) (gG pE (cp (c9 rC (c9 jN (cq 0) (cq 2)) (tC (.str "()[]{}+-?:=,"))) cy)))) (c5 1)))
def pN(K:aA):TS:=(dE (c9 fE (cq 1) (tC (.str "!"))) (c5 1))
def pM(K:aA):TS:=(dE (c9 fE (cq 1) (tC (.str "N"))) (c5 1))
def uo(K:aA):TS:=(dy (jt (dG (c9 i0 (c9 jN (cq 5) (tC (.int 0))) (tC (.str "0")))) (dG (c9 yn (kP jw (cq 0) (eL (cq 2)) (eL (cq 3))) (tC (.str "0"))))) (pN K) (pM K))
def mH(K:aA):TS:=(dy (dG (c9 i0 (cq 5) (tC (.str "")))) (uq K) (uo K))
def um(K:aA):TS:=(c8 (dE (c9 gj (cq 2) (gG pE (cp (lW (c9 i0 (c9 jN (cq 0) (cq 2)) (tC (.str "-"))) (c9 (yo K true) (kP jw (cq 1) (eL (kq fM (tC (.int 1)))) eN) (dh (cp (tC (.str "W")) (cp (tC (.str "N")) (cp (tC (.str ")")) (cp (tC (.str "}")) cy))))))) cy))) (c5 4)) (c8 (dE (cq 4) (c5 3)) (c8 (fu (jt (dG (c9 jd (cq 3) (gG iq (cp (cq 0) cy)))) (dG (c9 rC (c9 jN (cq 0) (cq 3)) (tC (.str "0123456789"))))) (pO K)) (c8 (dE (kP jw (cq 0) (eL (cq 4)) (eL (cq 3))) (c5 5)) (mH K)))))
def sR(K:aA):TS:=(dy (dG (c9 ol (cq 3) (cq 2))) (ur K) (um K))
def sQ(K:aA):TS:=(c8 (dE (cq 2) (c5 3)) (c8 (fu (jt (dG (c9 jd (cq 3) (gG iq (cp (cq 0) cy)))) (dG (c9 rC (c9 jN (cq 0) (cq 3)) (tC (.str "abcdefghijklmnopqrstuvwxyz"))))) (ut K)) (c8 (sR K) (dE (cq 3) (c5 2)))))
def AE(K:aA):TS:=(c8 (dE (tC (.str "")) (c5 1)) (c8 (dE (tC (.int 0)) (c5 2)) (c8 (fu (dG (c9 jd (cq 2) (gG iq (cp (cq 0) cy)))) (sQ K)) (e9 (cq 1)))))
def ul(K:aA):TS:=(c8 (dE (hV (hV (hV (cq 1) "LP]P" "P") "(P+P)" "P") "(P-P)" "P") (c5 1)) (dE (hV (hV (hV (cq 1) "(P?P:P)" "P") "{P,P" "{P") "S{P}" "P") (c5 1)))
def AD(K:aA):TS:=(c8 (dE (hV (hV (hV (eV jZ [] E0 (cp (cq 0) cy)) "[W=" "L") "W{}" "P") "W{" "S{") (c5 1)) (c8 (dE (hV (hV (cq 1) "W" "P") "N" "P") (c5 1)) (c8 (vL (wx (cp (gG iq (cp (cq 0) cy)) cy)) (c5 2) (ul K)) (e9 (c9 i0 (cq 1) (tC (.str "P")))))))
end R11
namespace R11
open PySem L2 SW
open S11 hiding Wd
variable {K:aA}{vs:List V}{H H₀:Hp}{Q:VK}{E:XK}
inductive Cf(H:Hp)(x:Str)(v1 v2 v4 v5:Option V)(k n:Nat):Nat→St→Hp→Prop
 | mk{j:Nat}(hj:j≤n):Cf H x v1 v2 v4 v5 k n (n-j) [some (.str x),v1,v2,some (.int ((k+j:Nat):Int)),v4,v5] H
theorem qA{D:fL}{y:Str}(f:Nat→Bool)(hf:∀c,decide (c∈cs y)=f c)(hk:k≤(cs x).length)(hx:(cs x).length≤100000)
  (h:D.nx [some (.str x),v1,v2,some (.int ((k+(((cs x).drop k).takeWhile f).length:Nat):Int)),v4,v5] H):
  (fu (jt (dG (c9 jd (cq 3) (gG iq (cp (cq 0) cy)))) (dG (c9 rC (c9 jN (cq 0) (cq 3)) (tC (.str y))))) (dE (c9 gj (cq 3) (tC (.int 1))) (c5 3))) D [some (.str x),v1,v2,some (.int k),v4,v5] H:=by
 have hxl:x.length≤sizeLine:=by rw[←c4,sizeLine_eq];omega
 have hl:=iY f hk;refine⟨Cf H x v1 v2 v4 v5 k (((cs x).drop k).takeWhile f).length,⟨_,.mk (j:=0) (aR _)⟩,?_⟩;rintro m σ H' @⟨j,hj⟩;have stop:j=(((cs x).drop k).takeWhile f).length→D.nx [some (.str x),v1,v2,some (.int ((k+j:Nat):Int)),v4,v5] H:=λe=>by rw[e];exact h
 refine⟨x,rfl,hxl,_,rfl,?_⟩;by_cases hlt:k+j<x.length
 ·refine fI (decide_eq_true (by omega)) ?_;obtain⟨c,hc⟩:∃c,(cs x)[k+j]?=some c:=⟨(cs x)[k+j]'(by rw[c4];exact hlt),ao _⟩;refine⟨x,_,c,rfl,rfl,hxl,cz hc,⟨#[c]⟩,y,rfl,rfl,_,rfl,?_⟩;rw[o8 (c:=c) rfl,hf];have hd:((cs x).drop k)[j]?=some c:=by rw[iD];exact hc
  by_cases hm:f c=true
  ·refine fI hm ?_;have hj2:=sE hj hd hm;refine⟨Lt (Cf H x v1 v2 v4 v5 k (((cs x).drop k).takeWhile f).length) _,λ_ _ h=>h,?_⟩;exact⟨_,by omega,.mk (j:=j+1) hj2⟩
  ·have hm:f c=false:=by simpa using hm
   refine du hm ?_;refine stop (mG hj λd hd'=>?_);rw[hd]at hd';cases hd';exact hm
 ·refine du (decide_eq_false (by omega)) (e7 ?_);refine stop (mG hj λd hd'=>?_);rw[iD,bg (by rw[c4];omega)]at hd';cases hd'
def lst(l:List Nat):Nat:=l.getLast?.getD 0
theorem vv:lst (a++[c])=c:=by simp[lst]
theorem oU(z:Str):cs (Txt.slice z (some (-1)) none)=(match(cs z).getLast? with|none=>[]|some c=>[c]):=by
 cases hz:(cs z).getLast? with
 | none=>have e:cs z=[]:=List.getLast?_eq_none_iff.mp hz;have h:=Txt.slice_le z (some (-1)) none;rw[←c4,←c4,e]at h;exact cK.mp (Nat.le_zero.mp h)
 | some c=>
  obtain⟨a,e⟩:=List.getLast?_eq_some_iff.mp hz;have hl:z.length=a.length+1:=by rw[←c4,e];simp
  have h:=PyProof.Rows.slice_closes_from_neg (x:=z) (i:=-1) (a:=a.length) (b:=a.length+1) (by decide) (by omega) (by omega) (by omega);rw[eq_of_beq h];show(((cs z).drop ((a.length:Int)).toNat).take ((a.length:Int)+1-a.length).toNat)=[c];rw[show((a.length:Int)).toNat=a.length by omega,show((a.length:Int)+1-a.length).toNat=1 by omega,e,ax rfl];rfl
theorem v9(z:Str):o9 (.str (Txt.slice z (some (-1)) none)) [.str "W",.str "N",.str ")",.str "}"]=lO.contains (lst (cs z)):=by
 have h:=oU z;generalize Txt.slice z (some (-1)) none=y at h;unfold lst;cases hz:(cs z).getLast? with
 | none=>rw[hz]at h;have:y="":=gy (by rw[h,ip]);subst this;decide
 | some c=>
  rw[hz]at h;have:y=sx [c]:=gy (by rw[h,eI]);subst this;have e:∀w:Str,∀d:Nat,w=sx [d]→rX (.str w) (.str (sx [c]))=(c==d):=λw d hw=>by
   subst hw;show(sx [d]==sx [c])=(c==d);by_cases q:c=d
   ·subst q;simp
   ·rw[beq_eq_false_iff_ne.mpr q];exact beq_eq_false_iff_ne.mpr λz=>q (by
     have:=congrArg cs z;rw[eI,eI]at this;exact((List.cons.inj this).1).symm)
  show(rX (.str "W") _||(rX (.str "N") _||(rX (.str ")") _||(rX (.str "}") _||false))))=_;rw[e "W" 87 (by decide),e "N" 78 (by decide),e ")" 41 (by decide),e "}" 125 (by decide)];show _=(List.elem c [87,78,41,125]);simp only[List.elem];cases c==87<;>cases c==78<;>cases c==41<;>cases c==125<;>rfl
theorem lj{x z:Str}{m:List Nat}(hz:cs z++mk (lst (cs z)) m=mk 0 (cs x))(hx:(cs x).length≤100000):z.length≤100000:=by have h:=congrArg List.length hz;have h2:=jR (cs x).length 0 (cs x) (aB _);rw[aD]at h;rw[←c4];omega
inductive zj(H:Hp)(x:Str):Nat→St→Hp→Prop
 | mk{k:Nat}{z:Str}{v3 v4 v5:Option V}{H':Hp}(s:dQ H H')(hk:k≤(cs x).length)(hz:cs z++S11.mk (lst (cs z)) ((cs x).drop k)=S11.mk 0 (cs x)):zj H x ((cs x).length-k) [some (.str x),some (.str z),some (.int k),v3,v4,v5] H'
theorem jh{x z y:Str}{k j:Nat}(s:dQ H H')(hz:cs z++S11.mk (lst (cs z)) ((cs x).drop k)=S11.mk 0 (cs x))(hj:j≤(cs x).length)(hl:k<j)(hy:cs y=[m])(hm:S11.mk (lst (cs z)) ((cs x).drop k)=m::S11.mk m ((cs x).drop j)){v3 v4 v5:Option V}:
  Lt (zj H x) ((cs x).length-k) [some (.str x),some (.str (z++y)),some (.int j),v3,v4,v5] H':=by
 refine⟨_,?_,.mk s hj ?_⟩
 ·omega
 ·have e:cs (z++y)=cs z++[m]:=by rw[←hy];exact jU z y
  rw[e,vv,←hz,hm,ah];rfl
theorem Dt(c:Nat):decide (c∈cs "()[]{}+-?:=,")=fm.contains c:=by
 have e:cs "()[]{}+-?:=,"=fm:=by decide
 rw[e];simp
theorem uP(hk:k≤(cs x).length)(f:Nat→Bool):Txt.slice x (some (k:Int)) (some ((k+(((cs x).drop k).takeWhile f).length:Nat):Int))=sx (((cs x).drop k).takeWhile f):=gy (by
 have hl:=iY f hk;rw[eI,kt (by omega) (by rw[←c4];omega),bV,mF])
theorem tZ{c:Nat}{y:Str}{d:Nat}(hy:cs y=[d]):decide (V.str ⟨#[c]⟩=V.str y)=decide (c=d):=by
 by_cases q:c=d
 ·subst q;rw[decide_eq_true rfl];exact decide_eq_true (by rw[←jX (w:=y),hy];rfl)
 ·rw[decide_eq_false q];exact decide_eq_false λz=>q (by
   have:=congrArg cs (V.str.inj z);rw[hy]at this;exact(List.cons.inj this).1)
theorem oa{D:fL}{x z:Str}{k st:Nat}{nb:Bool}{c:Nat}{r:List Nat}(s0:dQ H H')(xl:(cs x).length≤100000)(hz:cs z++S11.mk (lst (cs z)) ((cs x).drop k)=S11.mk 0 (cs x))(hr:(cs x).drop k=c::r)(hc:eA c=false)(hn:nb=jx (lst (cs z)) c)(es:st=k+(if nb then 1 else 0))(hs:(cs x).drop st=fi (lst (cs z)) c r){v3 v5:Option V}:
  (c8 (dE (cq 4) (c5 3)) (c8 (fu (jt (dG (c9 jd (cq 3) (gG iq (cp (cq 0) cy)))) (dG (c9 rC (c9 jN (cq 0) (cq 3)) (tC (.str "0123456789"))))) (pO K)) (c8 (dE (kP jw (cq 0) (eL (cq 4)) (eL (cq 3))) (c5 5)) (mH K)))) ((D.lp (Lt (zj H x) ((cs x).length-k))).thn (dE (cq 3) (c5 2))) [some (.str x),some (.str z),some (.int k),v3,some (.int st),v5] H':=by
 have hxl:x.length≤sizeLine:=by rw[←c4,sizeLine_eq];omega
 have zl:=lj hz xl;obtain⟨e1,e2,e3⟩:=eU hr;have hst:st≤(cs x).length:=by cases nb<;>simp at es<;>omega
 refine qA eW Bc hst xl ?_;refine⟨x,rfl,hxl,?_⟩;show mH K _ [some (.str x),some (.str z),some (.int k),some (.int _),some (.int st),some (.str (Txt.slice x (some (st:Int)) (some ((st+(((cs x).drop st).takeWhile eW).length:Nat):Int))))] H';rw[uP hst eW];have hl:=iY eW hst;have hdr:=jk (cs x) st eW;have hw0:((cs x).drop st).takeWhile eW=(fi (lst (cs z)) c r).takeWhile eW:=by rw[hs]
 have hdr:(cs x).drop (st+(((cs x).drop st).takeWhile eW).length)=(fi (lst (cs z)) c r).dropWhile eW:=by rw[hdr,hs]
 generalize ((cs x).drop st).takeWhile eW=ds at *;refine⟨rfl,_,rfl,?_⟩;cases ds with
 | nil=>
  refine fI (decide_eq_true (by rw[kr])) ?_;refine⟨x,_,c,rfl,rfl,hxl,cz e1,fU,dZ λl H2 hl s2 g2=>⟨x,_,c,rfl,rfl,hxl,cz e1,⟨#[c]⟩,_,rfl,rfl,.inr ⟨_,rfl,?_⟩⟩⟩;rw[o8 (c:=c) rfl,Dt];cases hm:fm.contains c with
  | true=>refine⟨dv.of g2,cz (j:=1) rfl,by rw[sizeLine_eq];show _+1≤_;omega,?_⟩;exact jh (m:=c) (s0.trans s2) hz e3 (bO _) rfl (by rw[hr,e2,rJ hc hw0.symm (by simpa using hm)])
  | false=>refine⟨dv.of g2,cz (j:=0) rfl,by rw[sizeLine_eq];show _+1≤_;omega,?_⟩;exact jh (m:=33) (s0.trans s2) hz e3 (bO _) (by decide) (by rw[hr,e2,vq hc hw0.symm (by simpa using hm)])
 | cons d ds=>
  refine du (decide_eq_false λe=>pf (List.cons_ne_nil _ _) (V.str.inj e)) ?_;have hne:(fi (lst (cs z)) c r).takeWhile eW≠[]:=by rw[←hw0];simp
  have gt:k<st+(d::ds).length:=by simp only[aC];cases nb<;>simp at es<;>omega
  have good:kF nb (d::ds)=true→pM K ((D.lp (Lt (zj H x) ((cs x).length-k))).thn (dE (cq 3) (c5 2))) [some (.str x),some (.str z),some (.int k),some (.int ((st+(d::ds).length:Nat):Int)),some (.int st),some (.str (sx (d::ds)))] H':=λok=>
   ⟨by rw[sizeLine_eq];show _+1≤_;omega,jh (m:=78) s0 hz hl gt (by decide) (by rw[hr,vt hc hne (by rw[←hn,←hw0];exact ok),hdr])⟩
  have ql:kF nb (d::ds)=false→pN K ((D.lp (Lt (zj H x) ((cs x).length-k))).thn (dE (cq 3) (c5 2))) [some (.str x),some (.str z),some (.int k),some (.int ((st+(d::ds).length:Nat):Int)),some (.int st),some (.str (sx (d::ds)))] H':=λok=>
   ⟨by rw[sizeLine_eq];show _+1≤_;omega,jh (m:=33) s0 hz hl gt (by decide) (by rw[hr,vp hc hne (by rw[←hn,←hw0];exact ok),hdr])⟩
  refine⟨sx (d::ds),0,d,rfl,rfl,?_,cz (j:=0) (by show(cs (sx (d::ds)))[0]?=some d;rw[eI];rfl),rfl,_,rfl,?_⟩
  ·rw[←c4,eI,sizeLine_eq];omega
  rw[tZ (by decide:cs "0"=[48])];by_cases h48:d=48
  ·subst h48;refine fI (by decide) ⟨x,rfl,hxl,rfl,_,rfl,?_⟩;have hsl:cs (Txt.slice x (some (k:Int)) (some ((st+(48::ds).length:Nat):Int)))=((cs x).drop k).take (st+(48::ds).length-k):=kt (by omega) (by rw[←c4];exact hl);have c0:cs "0"=[48]:=by decide
   cases nb with
   | true=>
    have h45:c=45:=by
     by_cases q:c=45
     ·exact q
     ·simp[jx,q]at hn
    subst h45;have ne:¬(V.str (Txt.slice x (some (k:Int)) (some ((st+(48::ds).length:Nat):Int)))=.str "0"):=λe=>by have:=congrArg cs (V.str.inj e);rw[hsl,hr,c0,show st+(48::ds).length-k=(st+(48::ds).length-k-1)+1 by omega,cE]at this;cases this
    exact fI (by rw[decide_eq_false ne];rfl) (ql (by simp[kF]))
   | false=>
    have es:st=k:=by simpa using es
    subst es;have hpre:((cs x).drop st).take (st+(48::ds).length-st)=48::ds:=by rw[bV,hs,hw0,mF]
    rw[hpre]at hsl;cases ds with
    | nil=>refine du ?_ (good (by decide));rw[decide_eq_true (by rw[←jX (w:=Txt.slice _ _ _),hsl];exact congrArg V.str AN)];rfl
    | cons e ds=>
     have ne:¬(V.str (Txt.slice x (some (st:Int)) (some ((st+(48::e::ds).length:Nat):Int)))=.str "0"):=λq=>by have:=congrArg cs (V.str.inj q);rw[hsl,c0]at this;cases this
     exact fI (by rw[decide_eq_false ne];rfl) (ql (by simp[kF]))
  ·exact du (decide_eq_false h48) (e7 (good (by simp[kF,h48])))
theorem CJ(h:jZ vs H Q E):AE K (fC Q) (start ["_law_line","_law_marks","_law_spot","_law_end","_law_start","_law_figures"] vs) H:=by
 obtain⟨v,rfl,h⟩:=on1.ex h;obtain⟨x,rfl,xl,h⟩:=onS.ex h;have hxl:x.length≤sizeLine:=by rw[←c4,sizeLine_eq];omega
 refine⟨zj H x,⟨_,.mk (k:=0) (z:="") (λ_ _ h=>h) (aR _) (by rw[ip];rfl)⟩,?_⟩;rintro m σ H' @⟨k,z,v3,v4,v5,_,s0,hk,hz⟩;have zl:=lj hz xl;refine⟨x,rfl,hxl,_,rfl,?_⟩;cases hr:(cs x).drop k with
 | nil=>
  have hk2:(cs x).length≤k:=by
   have:=congrArg List.length hr;rw[aO]at this;simp only[aG]at this
   omega
  refine du (decide_eq_false (by rw[c4]at hk2;omega)) ?_;rw[hr,gv,ag]at hz;have e:z=sx (S11.mk 0 (cs x)):=gy (by rw[eI,hz]);subst e;exact h _ s0
 | cons c r=>
  obtain⟨e1,e2,e3⟩:=eU hr;refine fI (decide_eq_true (by rw[c4]at e3;omega)) ?_;refine⟨Lt (zj H x) _,λ_ _ h=>h,?_⟩;refine qA eA CW hk xl ?_;have hl:=iY eA hk;have hdr:=jk (cs x) k eA;rw[hr]at hl hdr⊢;by_cases hc:eA c=true
  ·have ht:(c::r).takeWhile eA=c::r.takeWhile eA:=by rw[aU,if_pos hc]
   have hd:(c::r).dropWhile eA=r.dropWhile eA:=by rw[bJ,if_pos hc]
   rw[ht]at hl hdr⊢;rw[hd]at hdr;refine⟨_,rfl,fI (decide_eq_true (by simp only[aC];omega)) ⟨by rw[sizeLine_eq];show _+1≤_;omega,?_⟩⟩;exact jh s0 hz hl (by simp only[aC];omega) (by decide:cs "W"=[87]) (by rw[hr,t9 hc,hdr])
  ·have hc:eA c=false:=by simpa using hc
   have ht:(c::r).takeWhile eA=[]:=by rw[aU,hc];rfl
   rw[ht];refine⟨_,rfl,du (decide_eq_false (by simp only[aG];omega)) ?_⟩;refine⟨x,_,c,rfl,rfl,hxl,cz e1,rfl,_,rfl,?_⟩;rw[tZ CS];by_cases h45:c=45
   ·subst h45;refine fI (by decide) ⟨z,rfl,by rw[sizeLine_eq];omega,fU,dZ λl H1 hl1 s1 g1=>⟨.inl (dv.of g1),rfl,by decide,.inr ⟨_,rfl,?_⟩⟩⟩;rw[if_pos rfl,v9];cases he:lO.contains (lst (cs z)) with
    | true=>exact oa (nb:=false) (st:=k) (s0.trans s1) xl hz hr hc (by rw[jx,he];rfl) rfl (by rw[hr,fi,jx,he];rfl)
    | false=>exact oa (nb:=true) (st:=k+1) (s0.trans s1) xl hz hr hc (by rw[jx,he];rfl) rfl (by rw[e2,fi,jx,he];rfl)
   ·refine du (decide_eq_false h45) (.inr ⟨_,rfl,?_⟩);exact oa (nb:=false) (st:=k) s0 xl hz hr hc (by simp[jx,h45]) rfl (by rw[hr];simp[fi,jx,h45])
theorem pz{l:List Nat}{y z:Str}(p n:List Nat)(hy:cs y=p)(hz:cs z=n)(h:p≠[]):Txt.replace (sx l) y z=sx (gL p n l):=gy (by
 rw[eI];have:=oA (sx l) y z (by rw[←c4,hy];exact bI.mpr h);show(Txt.replace (sx l) y z).cps.toList=_;rw[this];show gL (cs y) (cs z) (cs (sx l))=_;rw[hy,hz,eI])
theorem rp{l:List Nat}{y z:Str}(p n:List Nat)(hl:l.length≤100000)(hy:cs y=p)(hz:cs z=n)(h:p≠[]∧n.length≤2∧n.length≤p.length):(sx l).length+((sx l).length+1)*z.length≤sizeLine∧(Txt.replace (sx l) y z).length≤sizeLine∧Txt.replace (sx l) y z=sx (gL p n l)∧(gL p n l).length≤100000:=by
 have h1:(sx l).length=l.length:=by rw[←c4,eI]
 have h2:z.length=n.length:=by rw[←c4,hz]
 have h3:=jv h.1 h.2.2 _ l (aB _);have h4:(sx (gL p n l)).length=(gL p n l).length:=by rw[←c4,eI]
 refine⟨?_,?_,pz p n hy hz h.1,by omega⟩
 ·rw[h1,h2,sizeLine_eq];have:(l.length+1)*n.length≤(l.length+1)*2:=Nat.mul_le_mul_left _ h.2.1
  omega
 ·rw[pz p n hy hz h.1,h4,sizeLine_eq];omega
theorem kl:∀(n:Nat)(xs:List Nat),iZ (n+1) xs=jJ (iZ n xs)
 | 0,_=>rfl
 | n+1,xs=>by rw[iZ,kl n];rfl
inductive DM(H:Hp)(x:Str)(ps:List Nat):Nat→St→Hp→Prop
 | mk{i:Nat}{v2:Option V}{l:List Nat}(hl:l.length≤100000)(e:l=iZ i ps):DM H x ps i [some (.str x),some (.str (sx l)),v2] H
theorem CI(h:mQ vs H Q E):AD K (fC Q) (start ["_law_line","_law_marks","_law_turn"] vs) H:=by
 obtain⟨v,rfl,h⟩:=on1.ex h;obtain⟨x,rfl,xl,h⟩:=onS.ex h;have hxl:x.length≤sizeLine:=by rw[←c4,sizeLine_eq];omega
 have hl:=aE (jR (cs x).length 0 (cs x) (aB _)) xl;refine⟨xl,λH1 s1=>?_⟩;obtain⟨a,b,e,hl⟩:=rp (y:="[W=") (z:="L") [91,87,61] [76] hl (by decide) (by decide) (by decide);refine⟨a,b,?_⟩;rw[e];clear a b e;obtain⟨a,b,e,hl⟩:=rp (y:="W{}") (z:="P") [87,123,125] [80] hl (by decide) (by decide) (by decide);refine⟨a,b,?_⟩;rw[e];clear a b e;obtain⟨a,b,e,hl⟩:=rp (y:="W{") (z:="S{") [87,123] [83,123] hl (by decide) (by decide) (by decide);refine⟨a,b,?_⟩;rw[e];clear a b e;obtain⟨a,b,e,hl⟩:=rp (y:="W") (z:="P") [87] [80] hl (by decide) (by decide) (by decide);refine⟨a,b,?_⟩;rw[e];clear a b e;obtain⟨a,b,e,hl⟩:=rp (y:="N") (z:="P") [78] [80] hl (by decide) (by decide) (by decide);refine⟨a,b,?_⟩;rw[e];clear a b e;refine⟨x,rfl,hxl,by omega,by rw[←c4];omega,?_⟩;refine rV (DM H1 x (pre (S11.mk 0 (cs x)))) (.mk hl rfl) (λi σ H2 hi w=>?_) λσ H2 w=>?_
 ·obtain @⟨v2,l,hl,e0⟩:=w;obtain⟨a,b,e,hl⟩:=rp (y:="LP]P") (z:="P") [76,80,93,80] [80] hl (by decide) (by decide) (by decide);refine⟨a,b,?_⟩;rw[e];clear a b e;obtain⟨a,b,e,hl⟩:=rp (y:="(P+P)") (z:="P") [40,80,43,80,41] [80] hl (by decide) (by decide) (by decide);refine⟨a,b,?_⟩;rw[e];clear a b e;obtain⟨a,b,e,hl⟩:=rp (y:="(P-P)") (z:="P") [40,80,45,80,41] [80] hl (by decide) (by decide) (by decide);refine⟨a,b,?_⟩;rw[e];clear a b e;obtain⟨a,b,e,hl⟩:=rp (y:="(P?P:P)") (z:="P") [40,80,63,80,58,80,41] [80] hl (by decide) (by decide) (by decide);refine⟨a,b,?_⟩;rw[e];clear a b e;obtain⟨a,b,e,hl⟩:=rp (y:="{P,P") (z:="{P") [123,80,44,80] [123,80] hl (by decide) (by decide) (by decide);refine⟨a,b,?_⟩;rw[e];clear a b e;obtain⟨a,b,e,hl⟩:=rp (y:="S{P}") (z:="P") [83,123,80,125] [80] hl (by decide) (by decide) (by decide);refine⟨a,b,?_⟩;rw[e];clear a b e;exact .mk hl (by rw[kl,←e0];rfl)
 ·obtain @⟨v2,l,hl,e0⟩:=w;have en:(Int.toNat (x.length:Int))=(cs x).length:=by rw[c4];rfl
  rw[en]at e0;have c0:cs "P"=[80]:=by decide
  refine⟨rfl,?_⟩;by_cases hw:l=[80]
  ·rw[decide_eq_true (by rw[hw,←c0,jX])];exact(h H1 s1).1 (by rw[e0]at hw;exact hw)
  ·rw[decide_eq_false λe=>hw ?_]
   ·exact(h H1 s1).2 λz=>hw (by rw[e0];exact z)
   ·have:=congrArg cs (V.str.inj e);rwa[eI,c0]at this
end R11
namespace R11
open PySem L2 SW
open S11 hiding Wd
inductive BL(H:Hp)(Q:VK):List V→Prop
 | mk{p:Addr}{g:Pg}{us:List V}(hp:H p=some (.tup (kg g++us)))(hk:GL H (kd g) us)(h:∀l H',dQ H H'→H l=none→H' l=some (.lst us)→Q (.ref l) H'):BL H Q [.ref p]
def fY:Sp:=λvs H Q _=>BL H Q vs
mutual
def iH:Pg→Nat
 | .num _ _=>1
 | .name _=>1
 | .two _ a b=>iH a+iH b+1
 | .cho a b c=>iH a+iH b+iH c+1
 | .lt _ a b=>iH a+iH b+1
 | .st _ ks=>fc ks+1
def fc:List Pg→Nat
 | []=>0
 | k::ks=>iH k+fc ks
end
theorem hX:∀a b:List Pg,fc (a++b)=fc a+fc b
 | [],b=>by simp[fc]
 | k::a,b=>by simp[fc,hX a b];omega
theorem pZ(g:Pg):fc (kd g)+1=iH g:=by cases g<;>simp[fc,kd,iH]<;>omega
theorem fV(g:Pg):1≤iH g:=by have:=pZ g;omega
theorem jj:∀gs:List Pg,gs.length≤fc gs
 | []=>aB _
 | g::gs=>by have:=fV g;have:=jj gs;simp only[fc,aC];omega
inductive BK(H:Hp)(Q:VK):List V→Prop
 | mk{g:Pg}{v:V}(hd:GL H [g] [v])(hs:iH g≤1000000)(h:∀H',dQ H H'→Q (.bl true) H'):BK H Q [v]
def iJ:Sp:=λvs H Q _=>BK H Q vs
inductive BI(H:Hp)(Q:VK):List V→Prop
 | mk{g:Pg}{v:V}(hd:GL H [g] [v])(ok:S11.Ok g)(hs:iH g≤1000000)(hl:(tx g).length≤100000)(h:∀H',dQ H H'→Q (.str (sx (tx g))) H'):BI H Q [v]
def iu:Sp:=λvs H Q _=>BI H Q vs
end R11
namespace R11
open PySem L2 SW
def u9(K:aA):TS:=(e9 (dh cy))
def u7(K:aA):TS:=(dy (dG (c9 (yo K false) (c9 (ef K) (cq 0) (tC (.int 0))) (dh (cp (tC (.str "number")) (cp (tC (.str "name")) cy))))) (u9 K) eS)
def wZ(K:aA):TS:=(c8 (u7 K) (e9 (gG (qj K) (cp (kP (AQ K) (cq 0) (eL (c9 gj (tC (.int 1)) (gG pE (cp (c9 (yo K false) (c9 (ef K) (cq 0) (tC (.int 0))) (dh (cp (tC (.str "let")) (cp (tC (.str "stamp")) cy)))) cy)))) eN) cy))))
def yX(K:aA):TS:=(e9 (tC (.bl false)))
def sU(K:aA):TS:=(dy (AL (mM (tB (gG (pC K) (cp (cq 2) (cp (tC (.ty "tuple")) cy))))) (AL (dG (c9 jd (gG (jD K) (cp (cq 2) cy)) (tC (.int 2)))) (mM (tB (gG (pC K) (cp (c9 (ef K) (cq 2) (tC (.int 0))) (cp (tC (.ty "str")) cy))))))) (yX K) eS)
def yW(K:aA):TS:=(e9 (tC (.bl false)))
def sT(K:aA):TS:=(dy (jt (dG (c9 yn (sj (cq 3) (c9 (ef K) (cq 2) (tC (.int 0))) (tC (.int 0))) (gG (jD K) (cp (cq 2) cy)))) (dG (c9 yn (c9 (ef K) (cq 2) (tC (.int 0))) (tC (.str "stamp"))))) (yW K) eS)
def yV(K:aA):TS:=(e9 (tC (.bl false)))
def yU(K:aA):TS:=(dy (mM (tB (eV kX [] E0 (cp (c9 (ef K) (cq 2) (tC (.int 1))) cy)))) (yV K) eS)
def yT(K:aA):TS:=(e9 (tC (.bl false)))
def sS(K:aA):TS:=(dy (jt (dG (c9 (yo K false) (c9 (ef K) (cq 2) (tC (.int 0))) (dh (cp (tC (.str "name")) (cp (tC (.str "let")) (cp (tC (.str "stamp")) cy)))))) (mM (tB (gG (pC K) (cp (c9 (ef K) (cq 2) (tC (.int 1))) (cp (tC (.ty "str")) cy)))))) (yT K) eS)
def oR(K:aA):TS:=(dy (dG (c9 i0 (c9 (ef K) (cq 2) (tC (.int 0))) (tC (.str "number")))) (yU K) (sS K))
def u6(K:aA):TS:=(c8 (dE (nJ K "list" nQ (cq 1)) (c5 2)) (c8 (sU K) (c8 (dE (pY [((tC (.str "number")),(tC (.int 2))),((tC (.str "name")),(tC (.int 2))),((tC (.str "sum")),(tC (.int 3))),((tC (.str "less")),(tC (.int 3))),((tC (.str "choose")),(tC (.int 4))),((tC (.str "let")),(tC (.int 4)))]) (c5 3)) (c8 (sT K) (c8 (oR K) (dE (c9 h9 (cq 1) (eV fY [] E0 (cp (cq 2) cy))) (c5 1)))))))
def CF(K:aA):TS:=(c8 (dE (dh (cp (cq 0) cy)) (c5 1)) (c8 (fu (dG (c9 (mZ K) (cq 1) (dh cy))) (u6 K)) (e9 (tC (.bl true)))))
def yS(K:aA):TS:=(dE (c9 fE (cq 1) (cq 3)) (c5 1))
def yR(K:aA):TS:=(dE (c9 fE (cq 1) (gG A8 (cp (c9 (ef K) (cq 3) (tC (.int 1))) cy))) (c5 1))
def yQ(K:aA):TS:=(dE (c9 fE (cq 1) (c9 (ef K) (cq 3) (tC (.int 1)))) (c5 1))
def yP(K:aA):TS:=(c8 (dE (c9 fE (c9 fE (c9 fE (cq 1) (tC (.str "["))) (c9 (ef K) (cq 3) (tC (.int 1)))) (tC (.str "="))) (c5 1)) (dE (c9 h9 (cq 2) (dh (cp (c9 (ef K) (cq 3) (tC (.int 3))) (cp (tC (.str "]")) (cp (c9 (ef K) (cq 3) (tC (.int 2))) cy))))) (c5 2)))
def yO(K:aA):TS:=(dj (kD K "list" eX (cq 2) (cp (tC (.str ",")) cy)))
def yN(K:aA):TS:=(dy (dG (c9 ol (cq 4) (tC (.int 2)))) (yO K) eS)
def yM(K:aA):TS:=(c8 (dj (kD K "list" eX (cq 2) (cp (c9 (ef K) (cq 3) (cq 4)) cy))) (yN K))
def yL(K:aA):TS:=(c8 (dE (c9 fE (c9 fE (cq 1) (c9 (ef K) (cq 3) (tC (.int 1)))) (tC (.str "{"))) (c5 1)) (c8 (dj (kD K "list" eX (cq 2) (cp (tC (.str "}")) cy))) (vL (ww (cp (c9 nP (gG (jD K) (cp (cq 3) cy)) (tC (.int 1))) (cp (tC (.int 1)) (cp (kq fM (tC (.int 1))) cy)))) (c5 4) (yM K))))
def yK(K:aA):TS:=(dE (c9 h9 (cq 2) (dh (cp (c9 (ef K) (cq 3) (tC (.int 3))) (cp (tC (.str ":")) cy)))) (c5 2))
def u4(K:aA):TS:=(dy (dG (c9 i0 (c9 (ef K) (cq 3) (tC (.int 0))) (tC (.str "choose")))) (yK K) eS)
def uz(K:aA):TS:=(c8 (dE (pY [((tC (.str "sum")),(tC (.str "+"))),((tC (.str "less")),(tC (.str "-"))),((tC (.str "choose")),(tC (.str "?")))]) (c5 5)) (c8 (dE (c9 fE (cq 1) (tC (.str "("))) (c5 1)) (c8 (dj (kD K "list" eX (cq 2) (cp (tC (.str ")")) cy))) (c8 (u4 K) (dE (c9 h9 (cq 2) (dh (cp (c9 (ef K) (cq 3) (tC (.int 2))) (cp (wb (cq 5) (c9 (ef K) (cq 3) (tC (.int 0)))) (cp (c9 (ef K) (cq 3) (tC (.int 1))) cy))))) (c5 2))))))
def uy(K:aA):TS:=(dy (dG (c9 i0 (c9 (ef K) (cq 3) (tC (.int 0))) (tC (.str "stamp")))) (yL K) (uz K))
def ux(K:aA):TS:=(dy (dG (c9 i0 (c9 (ef K) (cq 3) (tC (.int 0))) (tC (.str "let")))) (yP K) (uy K))
def uw(K:aA):TS:=(dy (dG (c9 i0 (c9 (ef K) (cq 3) (tC (.int 0))) (tC (.str "name")))) (yQ K) (ux K))
def gh(K:aA):TS:=(dy (dG (c9 i0 (c9 (ef K) (cq 3) (tC (.int 0))) (tC (.str "number")))) (yR K) (uw K))
def uv(K:aA):TS:=(dy (tB (gG (pC K) (cp (cq 3) (cp (tC (.ty "str")) cy)))) (yS K) (gh K))
def uu(K:aA):TS:=(c8 (dE (nJ K "list" nQ (cq 2)) (c5 3)) (uv K))
def CD(K:aA):TS:=(c8 (dE (tC (.str "")) (c5 1)) (c8 (dE (dh (cp (cq 0) cy)) (c5 2)) (c8 (fu (dG (c9 (mZ K) (cq 2) (dh cy))) (uu K)) (e9 (cq 1)))))
end R11
namespace R11
open PySem L2 SW
open S11 hiding Wd
variable {K:aA}{vs:List V}{H H₀:Hp}{Q:VK}{E:XK}
theorem uT{hs us:List V}{n:Nat}(h:n=hs.length):iE (hs++us) (some (n:Int)) none=us:=by subst h;unfold iE;rw[HT.BV,HT.AO,aD,be (by omega),ax rfl,bV,cI]
theorem im{hs us:List V}{w:Str}(n:Nat)(hp:H p=some (.tup (hs++us)))(hw:(hs++us)[0]?=some (.str w))(e1:o9 (.str w) [.str "number",.str "name"]=false)(e2:o9 (.str w) [.str "let",.str "stamp"]=b)(hl:n=hs.length)(hn:1+(if b=true then 1 else 0)=n)(h:∀l H',dQ H H'→H l=none→H' l=some (.lst us)→Q (.ref l) H'):
  wZ K (fC Q) [some (.ref p)] H:=by
 refine⟨eM.of hp,cz (j:=0) hw,fU,dZ λq H1 hq s1 g1=>⟨.inl (dv.of g1),rfl,rfl,_,rfl,du e1 ?_⟩⟩;refine⟨eM.of (s1 _ _ hp),cz (j:=0) hw,fU,dZ λq2 H2 hq2 s2 g2=>⟨.inl (dv.of g2),rfl,rfl,?_⟩⟩;rw[if_neg aJ,e2];refine .inr ⟨_,rfl,?_⟩;have s12:=s1.trans s2;cases b with
 | true=>subst hn;refine⟨eM.of (s12 _ _ hp),qh 2 (by decide) (by rw[aD];exact aE (bY hl) (aM _ _)),dZ λq3 H3 hq3 s3 g3=>⟨.inr (eM.of g3),dZ λl H4 hl4 s4 g4=>?_⟩⟩;have g4:H4 l=some (.lst (iE (hs++us) (some ((2:Nat):Int)) none)):=g4;rw[uT (n:=2) hl]at g4;exact h l H4 (s12.trans (s3.trans s4)) ((s12.trans s3).free hl4) g4
 | false=>subst hn;refine⟨eM.of (s12 _ _ hp),qh 1 (by decide) (by rw[aD];exact aE (bY hl) (aM _ _)),dZ λq3 H3 hq3 s3 g3=>⟨.inr (eM.of g3),dZ λl H4 hl4 s4 g4=>?_⟩⟩;have g4:H4 l=some (.lst (iE (hs++us) (some ((1:Nat):Int)) none)):=g4;rw[uT (n:=1) hl]at g4;exact h l H4 (s12.trans (s3.trans s4)) ((s12.trans s3).free hl4) g4
theorem CL(h:fY vs H Q E):wZ K (fC Q) (start ["_law_piece"] vs) H:=by
 obtain @⟨p,g,us,hp,hk,h⟩:=h;cases g with
 | num b ds=>
  cases hk;exact⟨eM.of hp,rfl,fU,dZ λq H1 hq s1 g1=>⟨.inl (dv.of g1),rfl,rfl,_,rfl,fI (by decide) ⟨fU,dZ λl H2 hl s2 g2=>h l H2 (s1.trans s2) (s1.free hl) g2⟩⟩⟩
 | name w=>
  cases hk;exact⟨eM.of hp,rfl,fU,dZ λq H1 hq s1 g1=>⟨.inl (dv.of g1),rfl,rfl,_,rfl,fI (by decide) ⟨fU,dZ λl H2 hl s2 g2=>h l H2 (s1.trans s2) (s1.free hl) g2⟩⟩⟩
 | two s a b=>
  cases s with
  | true=>exact im 1 hp rfl (by decide) (b:=false) (by decide) rfl rfl h
  | false=>exact im 1 hp rfl (by decide) (b:=false) (by decide) rfl rfl h
 | cho a b c=>exact im 1 hp rfl (by decide) (b:=false) (by decide) rfl rfl h
 | lt w a b=>exact im 2 hp rfl (by decide) (b:=true) (by decide) rfl rfl h
 | st w ks=>exact im 2 hp rfl (by decide) (b:=true) (by decide) rfl rfl h
def kn:Pg→Str
 | .num _ _=>"number"
 | .name _=>"name"
 | .two true _ _=>"sum"
 | .two false _ _=>"less"
 | .cho _ _ _=>"choose"
 | .lt _ _ _=>"let"
 | .st _ _=>"stamp"
theorem A3(g:Pg)(us:List V):(kg g++us)[0]?=some (.str (kn g)):=by unfold kg kn;split<;>rfl
def Av:Pg→Option V
 | .num _ _=>some (.int 2)
 | .name _=>some (.int 2)
 | .two _ _ _=>some (.int 3)
 | .cho _ _ _=>some (.int 4)
 | .lt _ _ _=>some (.int 4)
 | .st _ _=>none
theorem uj(g:Pg):gq (dz [] fw) (.inr (kn g):gJ)=Av g:=by
 cases g with
 | num=>exact(by decide:gq (dz [] fw) (.inr ("number":Str):gJ)=some (.int 2))
 | name=>exact(by decide:gq (dz [] fw) (.inr ("name":Str):gJ)=some (.int 2))
 | two s=>cases s with
  | true=>exact(by decide:gq (dz [] fw) (.inr ("sum":Str):gJ)=some (.int 3))
  | false=>exact(by decide:gq (dz [] fw) (.inr ("less":Str):gJ)=some (.int 3))
 | cho=>exact(by decide:gq (dz [] fw) (.inr ("choose":Str):gJ)=some (.int 4))
 | lt=>exact(by decide:gq (dz [] fw) (.inr ("let":Str):gJ)=some (.int 4))
 | st=>exact(by decide:gq (dz [] fw) (.inr ("stamp":Str):gJ)=none)
def A2:Pg→Bool
 | .num _ _=>true
 | _=>false
def zS:Pg→Bool
 | .name _=>true
 | .lt _ _ _=>true
 | .st _ _=>true
 | _=>false
theorem zM(g:Pg):decide (V.str (kn g)=V.str "number")=A2 g:=by
 cases g with
 | num=>exact(by decide:decide (V.str "number"=V.str "number")=true)
 | name=>exact(by decide:decide (V.str "name"=V.str "number")=false)
 | two s=>cases s with
  | true=>exact(by decide:decide (V.str "sum"=V.str "number")=false)
  | false=>exact(by decide:decide (V.str "less"=V.str "number")=false)
 | cho=>exact(by decide:decide (V.str "choose"=V.str "number")=false)
 | lt=>exact(by decide:decide (V.str "let"=V.str "number")=false)
 | st=>exact(by decide:decide (V.str "stamp"=V.str "number")=false)
theorem A0(g:Pg):o9 (.str (kn g)) [.str "name",.str "let",.str "stamp"]=zS g:=by
 cases g with
 | num=>exact(by decide:o9 (.str "number") [.str "name",.str "let",.str "stamp"]=false)
 | name=>exact(by decide:o9 (.str "name") [.str "name",.str "let",.str "stamp"]=true)
 | two s=>cases s with
  | true=>exact(by decide:o9 (.str "sum") [.str "name",.str "let",.str "stamp"]=false)
  | false=>exact(by decide:o9 (.str "less") [.str "name",.str "let",.str "stamp"]=false)
 | cho=>exact(by decide:o9 (.str "choose") [.str "name",.str "let",.str "stamp"]=false)
 | lt=>exact(by decide:o9 (.str "let") [.str "name",.str "let",.str "stamp"]=true)
 | st=>exact(by decide:o9 (.str "stamp") [.str "name",.str "let",.str "stamp"]=true)
theorem wF{D:fL}{v0:V}{tl:Addr}{j3:Option V}(hp:H p=some (.tup (kg g++us)))(hk:GL H (kd g) us)
  (k:∀H',dQ H H'→∀j3,(dE (c9 h9 (cq 1) (eV fY [] E0 (cp (cq 2) cy))) (c5 1)) D [some v0,some (.ref tl),some (.ref p),j3] H'):
  (c8 (sU K) (c8 (dE (pY [((tC (.str "number")),(tC (.int 2))),((tC (.str "name")),(tC (.int 2))),((tC (.str "sum")),(tC (.int 3))),((tC (.str "less")),(tC (.int 3))),((tC (.str "choose")),(tC (.int 4))),((tC (.str "let")),(tC (.int 4)))]) (c5 3)) (c8 (sT K) (c8 (oR K) (dE (c9 h9 (cq 1) (eV fY [] E0 (cp (cq 2) cy))) (c5 1)))))) D [some v0,some (.ref tl),some (.ref p),j3] H:=by
 have hl:=hk.length;have h0:=A3 g us;have two:2≤(kg g++us).length:=by
  rw[aD,hl];cases g with
  | two s _ _=>cases s<;>simp[kg,kd]
  | _=>simp[kg,kd]
 refine⟨.tup hp,lD,_,rfl,e7 ?_⟩;refine⟨.inr (eM.of hp),_,rfl,du (decide_eq_false (by omega)) ?_⟩;refine⟨eM.of hp,cz (j:=0) h0,.str _,jT,_,rfl,e7 ?_⟩;refine λpd hpd=>⟨c6,fw,rfl,by decide,?_⟩;have s1:dQ H (dc (dc H pd (.dK [])) pd (.dK (dz [] fw))):=dw (dW hpd) hpd;have g1:(dc (dc H pd (.dK [])) pd (.dK (dz [] fw))) pd=some (.dK (dz [] fw)):=c6;generalize dc (dc H pd (.dK [])) pd (.dK (dz [] fw))=H1 at s1 g1⊢;have hp1:=s1 _ _ hp;have dg:=lT.k (k:=.inr (kn g)) g1;rw[uj g]at dg;have hsc:yk ((Av g).getD (V.int 0)) (V.int ((kg g++us).length:Nat))=true:=by cases g<;>rfl
 refine⟨.inl ⟨_,.inl g1⟩,eM.of hp1,cz (j:=0) h0,_,dg,.inr (eM.of hp1),hsc,_,rfl,?_⟩;have rest:oR K ((D.thn (dE (c9 h9 (cq 1) (eV fY [] E0 (cp (cq 2) cy))) (c5 1)))) [some v0,some (.ref tl),some (.ref p),some (.ref pd)] H1:=by
  have inn:∀{w:List Nat},(zS g=true→(kg g++us)[1]?=some (.str (sx w)))→sS K ((D.thn (dE (c9 h9 (cq 1) (eV fY [] E0 (cp (cq 2) cy))) (c5 1)))) [some v0,some (.ref tl),some (.ref p),some (.ref pd)] H1:=by
   intro w h1;refine⟨eM.of hp1,cz (j:=0) h0,fU,dZ λl H2 hl2 s2 g2=>⟨.inl (dv.of g2),rfl,rfl,_,rfl,?_⟩⟩;rw[if_neg aJ,A0];cases e:zS g with
   | true=>exact gw ⟨eM.of (s2 _ _ hp1),cz (j:=1) (h1 e),.str _,jT,_,rfl,e7 (k H2 (s1.trans s2) _)⟩
   | false=>exact e7 (e7 (k H2 (s1.trans s2) _))
  refine⟨eM.of hp1,cz (j:=0) h0,rfl,_,rfl,?_⟩;rw[zM];cases g with
  | num b ds=>exact gw ⟨eM.of hp1,cz (j:=1) rfl,vl b ds,rfl,_,rfl,e7 (k H1 s1 _)⟩
  | name w=>exact e7 (inn (w:=w) λ_=>rfl)
  | two s a b=>exact e7 (inn (w:=[]) λz=>by cases z)
  | cho a b c=>exact e7 (inn (w:=[]) λz=>by cases z)
  | lt w a b=>exact e7 (inn (w:=w) λ_=>rfl)
  | st w ks=>exact e7 (inn (w:=w) λ_=>rfl)
 cases g with
 | num b ds=>cases hk;exact du rfl (e7 rest)
 | name w=>cases hk;exact du rfl (e7 rest)
 | two s a b=>have el:us.length=2:=hl;cases s<;>exact du (by simp[Av,kg,el]) (e7 rest)
 | cho a b c=>have el:us.length=3:=hl;exact du (by simp[Av,kg,el]) (e7 rest)
 | lt w a b=>have el:us.length=2:=hl;exact du (by simp[Av,kg,el]) (e7 rest)
 | st w ks=>
  have ne:decide (V.int 0=V.int ((kg (.st w ks)++us).length:Nat))=false:=decide_eq_false λz=>by
   have:=V.int.inj z
   omega
  refine fI (show(!decide (V.int 0=V.int ((kg (.st w ks)++us).length:Nat)))=true by rw[ne];rfl) ?_;exact⟨eM.of hp1,cz (j:=0) h0,rfl,_,rfl,du (show(!decide (V.str "stamp"=V.str "stamp"))=false by decide) rest⟩
inductive Cr(H:Hp)(v:V):Nat→St→Hp→Prop
 | mk{tl:Addr}{us:List V}{gs:List Pg}{j2 j3:Option V}{H':Hp}(same:dQ H H')(new:H tl=none)(at_:H' tl=some (.lst us))(den:GL H' gs us)(sz:fc gs≤1000000):Cr H v (fc gs) [some v,some (.ref tl),j2,j3] H'
theorem GL.snoc:∀{gs:List Pg}{us:List V}{u:V},GL H gs (us++[u])→∃hs g,gs=hs++[g]∧GL H hs us∧GL H [g] [u]
 | _,[],_,.cons a b .nil=>⟨[],_,rfl,.nil,.cons a b .nil⟩
 | _,_::us,_,.cons a b r=>by obtain⟨hs,g,rfl,h1,h2⟩:=GL.snoc (us:=us) r;exact⟨_::hs,g,rfl,.cons a b h1,h2⟩
theorem DG(h:iJ vs H Q E):CF K (fC Q) (start ["_law_found","_law_todo","_law_part","_law_sizes"] vs) H:=by
 obtain @⟨g,v,hd,hs,k⟩:=h;refine⟨fU,dZ λtl H1 htl s1 g1=>?_⟩;refine⟨Cr H v,⟨_,.mk s1 htl g1 (hd.mono (dI s1)) (by simp only[fc];omega)⟩,?_⟩;clear s1 g1 htl;rintro m σ H2 @⟨tl,us,gs,j2,j3,_,same,new,at_,den,sz⟩;refine⟨fU,dZ λe H3 he s3 g3=>?_⟩;have at3:=s3 _ _ at_;refine⟨dv.of at3,dv.of g3,_,rfl,?_⟩;by_cases hv:us=[]
 ·subst hv;exact du rfl (k _ (same.trans s3))
 ·obtain⟨us,u,rfl⟩:=iK hv;refine fI (by simp) ?_;obtain⟨hs',g',rfl,d1,d2⟩:=(den.mono (dI s3)).snoc;refine⟨Lt (Cr H v) _,λ_ _ h=>h,?_⟩;refine⟨.inl ⟨rfl,_,dv.of at3⟩,at3,jO,?_⟩;rw[iS];have t4:=fN (o:=.lst us) at3;have s4:dQ H (dc H3 tl (.lst us)):=dw (same.trans s3) new;have g4:(dc H3 tl (.lst us)) tl=some (.lst us):=c6;have c1:=d1.mono t4;have c2:=d2.mono t4;generalize dc H3 tl (.lst us)=H4 at s4 g4 c1 c2⊢;cases c2 with
  | @cons _ p ks _ _ hp hk r=>
  cases r;refine wF hp hk λH5 s5 j3=>?_;refine .mk (s5 _ _ hp) (hk.mono (dI s5)) λl H6 s6 n6 h6=>?_;have q1:=c1.length;have q2:=hk.length;have q3:=jj hs';have q4:=jj (kd g');have hk1:=pZ g';rw[hX]at sz;simp only[fc]at sz;have s56:=s5.trans s6;refine⟨s56 _ _ g4,h6,by rw[sizeLine_eq];omega,dZ λp7 H7 hp7 s7 g7=>?_⟩;have s47:=s56.trans s7;refine⟨fc (hs'++kd g'),?_,.mk (s4.trans s47) ((s4.trans s56).free hp7) g7 ((c1.mono (dI s47)).app (hk.mono (dI s47))) ?_⟩
  ·rw[hX,hX];simp only[fc];omega
  ·rw[hX];omega
theorem rW{n lo:Nat}{tb:TS}{D:fL}{σ:St}{H:Hp}{k:Nat}{hi:Int}{c:Nat}(ehi:hi=(n:Int)+lo-1)(ec:c=n)(Pv:Nat→St→Hp→Prop)(h0:Pv n σ H)(hs:∀i σ H,i<n→Pv (i+1) σ H→tb (D.lp (Pv i)) (σ.set k (some (.int ((i+lo:Nat):Int)))) H)(hd:∀σ H,Pv 0 σ H→D.nx σ H):
  ∃W:Nat→Nat→St→Hp→Prop,(∃m,W 0 m σ H)∧∀i m σ H,W i m σ H→
   ((zu hi c).stop i H∧D.nx σ H)∨((zu hi c).go i H∧∃N:St→Hp→Prop,(∀σ' H',N σ' H'→∃m',m'<m∧W (i+1) m' σ' H')∧∀x H',(zu hi c).yld i H x H'→c5 k x σ H' λσ2 H2=>tb (D.lp (N)) σ2 H2):=by
 subst ehi ec;refine⟨λi m σ H=>m=c-i∧i≤c∧Pv (c-i) σ H,⟨c,by simp,aR _,h0⟩,?_⟩;rintro i m σ H ⟨rfl,hi,p⟩;by_cases e:i=c
 ·subst e;rw[cJ]at p;exact .inl ⟨aB _,hd σ H p⟩
 ·refine .inr ⟨show i<c by omega,Pv (c-(i+1)),λσ' H' z=>⟨c-(i+1),by omega,rfl,by omega,z⟩,?_⟩;rintro x H' ⟨rfl,rfl⟩;rw[show c-i=c-(i+1)+1 by omega]at p;rw[show(c:Int)+lo-1-(i:Int)=((c-(i+1)+lo:Nat):Int) by omega];exact hs (c-(i+1)) σ H' (by omega) p
abbrev lR:=Sum (List Nat) Pg
def fl:List lR→List Nat
 | []=>[]
 | .inl t::r=>t++fl r
 | .inr g::r=>tx g++fl r
theorem mx:∀a b:List lR,fl (a++b)=fl a++fl b
 | [],_=>rfl
 | .inl _::a,b=>by simp[fl,mx a b]
 | .inr _::a,b=>by simp[fl,mx a b]
def wg:List lR→Nat
 | []=>0
 | .inl _::r=>1+wg r
 | .inr g::r=>(4*iH g-1)+wg r
theorem kh:∀a b:List lR,wg (a++b)=wg a+wg b
 | [],_=>by simp[wg]
 | .inl _::a,b=>by simp[wg,kh a b];omega
 | .inr _::a,b=>by simp[wg,kh a b];omega
inductive IL(H:Hp):List lR→List V→Prop where
 | nil:IL H [] []
 | txt{t:List Nat}{is:List lR}{us:List V}:IL H is us→IL H (.inl t::is) (us++[.str (sx t)])
 | pc{g:Pg}{u:V}{is:List lR}{us:List V}:IL H is us→GL H [g] [u]→IL H (.inr g::is) (us++[u])
theorem IL.mono(m:fZ H H')(h:IL H is us):IL H' is us:=by
 induction h with
 | nil=>exact .nil
 | txt _ i=>exact .txt i
 | pc _ a i=>exact .pc i (a.mono m)
theorem IL.length(h:IL H is us):us.length=is.length:=by
 induction h with
 | nil=>rfl
 | txt _ i=>simp[i]
 | pc _ _ i=>simp[i]
theorem mo:∀is:List lR,is.length≤wg is
 | []=>aB _
 | .inl _::r=>by have:=mo r;simp only[wg,aC];omega
 | .inr g::r=>by have:=mo r;have:=fV g;simp only[wg,aC];omega
def ri:List Pg→List lR
 | []=>[]
 | k::ks=>.inl [44]::.inr k::ri ks
def dU:List Pg→List lR
 | []=>[]
 | k::ks=>.inr k::ri ks
theorem uM:∀ks:List Pg,fl (ri ks)=re ks
 | []=>rfl
 | k::ks=>by simp[ri,fl,re,uM ks]
theorem oO:∀ks:List Pg,wg (ri ks)=4*fc ks
 | []=>rfl
 | k::ks=>by have:=fV k;simp only[ri,wg,fc,oO ks];omega
def Cm(is:List lR):Prop:=∀g,Sum.inr g∈is→S11.Ok g
structure To(g:Pg)(x y:Str)(ns:List lR):Prop where
 eq:cs y++fl ns=cs x++tx g
 wt:wg ns+1<4*iH g
 ok:Cm ns
theorem tm:∀{ks:List Pg},wV ks→Cm (ri ks)
 | [],_,_,h=>by cases h
 | k::ks,o,g,h=>by
  simp only[ri,aF,reduceCtorEq,Sum.inr.injEq,false_or]at h;rcases h with rfl|h
  ·exact o.1
  ·exact tm o.2 g h
theorem wu:∀(ds:List Nat)(a:Nat),(∀c∈ds,eW c=true)→ds.foldl (λa c=>a*10+(c-48)) a<(a+1)*10^ds.length
 | [],a,_=>by simp
 | c::ds,a,h=>by have hc:=o5 (h c (by simp));have i:=wu ds (a*10+(c-48)) λd m=>h d (by simp[m]);rw[bH,aC,Nat.pow_succ'];refine aH i ?_;rw[←Nat.mul_assoc];exact ck _ (by omega)
theorem xJ(ha:∀c∈ds,eW c=true)(hl:ds.length≤500):(vl b ds).natAbs.log2<1920:=by
 have e:(vl b ds).natAbs=nv ds:=by cases b<;>simp[vl]
 rw[e];by_cases z:nv ds=0
 ·rw[z];decide
 ·refine(Nat.log2_lt z).mpr ?_;have h:=wu ds 0 ha;rw[Nat.zero_add,Nat.one_mul]at h;exact aH h (aE (cg (by decide) hl) (by decide))
theorem uW(ok:S11.Ok (.num b ds)):cs (Str.ofString (toString (vl b ds)))=tx (.num b ds):=by
 obtain⟨h1,h2,h3,_⟩:=ok;have hd:=qb h1 h2 h3;cases b with
 | false=>show cs (Str.ofString (toString ((nv ds:Nat):Int)))=ds;rw[vm,hd]
 | true=>
  have hp:0<nv ds:=by
   cases hz:nv ds with
   | succ n=>omega
   | zero=>rw[hz,lm]at hd;rw[←hd]at h3;cases h3
  obtain⟨m,hm⟩:∃m,nv ds=m+1:=⟨nv ds-1,by omega⟩;have e:vl true ds=Int.negSucc m:=by simp[vl,hm];omega
  rw[e,vn,←hm,hd];rfl
theorem A6(hR:R.length≤100000)(e:cs x++l=R)(el:l=cs y++r):x.length+y.length≤sizeLine:=by rw[el]at e;have:=congrArg List.length e;simp only[aD,c4]at this;rw[sizeLine_eq];omega
theorem qQ(eq:cs x++(t++r)=R)(hR:R.length≤100000)(hy:cs y=t):x.length+y.length≤sizeLine:=A6 hR eq (by rw[hy])
def zk(K:aA)(D:fL)(H₀:Hp)(v0:V)(x:Str)(g:Pg)(is:List lR):Prop:=
 ∀(x':Str)(tl':Addr)(ns:List lR)(ws':List V)(H':Hp)(j3 j4 j5:Option V),dQ H₀ H'→H₀ tl'=none→H' tl'=some (.lst ws')→IL H' (ns++is) ws'→To g x x' ns→D.nx [some v0,some (.str x'),some (.ref tl'),j3,j4,j5] H'
section
variable {D:fL}{v0:V}{x:Str}{tl p:Addr}{ws us:List V}{is:List lR}{R:List Nat}{g:Pg}{j4 j5:Option V}
theorem zJ(hp:H p=some (.tup [.str "number",.int (vl b ds)]))(ok:S11.Ok (.num b ds))(hR:R.length≤100000)(same:dQ H₀ H)(new:H₀ tl=none)(at_:H tl=some (.lst ws))(il:IL H is ws)(eq:cs x++(tx (.num b ds)++fl is)=R)(hN:zk K D H₀ v0 x (.num b ds) is):
  gh K D [some v0,some (.str x),some (.ref tl),some (.ref p),j4,j5] H:=by
 refine⟨eM.of hp,cz (j:=0) rfl,rfl,_,rfl,fI (by decide) ?_⟩;refine⟨eM.of hp,cz (j:=1) rfl,_,rfl,xJ ok.2.1 ok.2.2.2,qQ eq hR (uW ok),?_⟩;refine hN _ tl [] ws _ _ _ _ same new at_ il ⟨by rw[dF,uW ok];simp[fl],by simp[wg,iH],λg h=>by cases h⟩
theorem vx(hp:H p=some (.tup [.str "name",.str (sx w)]))(hR:R.length≤100000)(same:dQ H₀ H)(new:H₀ tl=none)(at_:H tl=some (.lst ws))(il:IL H is ws)(eq:cs x++(tx (.name w)++fl is)=R)(hN:zk K D H₀ v0 x (.name w) is):
  gh K D [some v0,some (.str x),some (.ref tl),some (.ref p),j4,j5] H:=by
 refine⟨eM.of hp,cz (j:=0) rfl,rfl,_,rfl,du (by decide) ?_⟩;refine⟨eM.of hp,cz (j:=0) rfl,rfl,_,rfl,fI (by decide) ?_⟩;refine⟨eM.of hp,cz (j:=1) rfl,qQ eq hR eI,?_⟩;refine hN _ tl [] ws _ _ _ _ same new at_ il ⟨by rw[dF,eI];simp[fl,tx],by simp[wg,iH],λg h=>by cases h⟩
theorem zK(hp:H p=some (.tup [.str "let",.str (sx w),u1,u2]))(d1:GL H [a] [u1])(d2:GL H [b] [u2])(ok:S11.Ok (.lt w a b))(hR:R.length≤100000)(few:ws.length≤5000000)(same:dQ H₀ H)(new:H₀ tl=none)(at_:H tl=some (.lst ws))(il:IL H is ws)(eq:cs x++(tx (.lt w a b)++fl is)=R)(hN:zk K D H₀ v0 x (.lt w a b) is):
  gh K D [some v0,some (.str x),some (.ref tl),some (.ref p),j4,j5] H:=by
 refine⟨eM.of hp,cz (j:=0) rfl,rfl,_,rfl,du (by decide) ?_⟩;refine⟨eM.of hp,cz (j:=0) rfl,rfl,_,rfl,du (by decide) ?_⟩;refine⟨eM.of hp,cz (j:=0) rfl,rfl,_,rfl,fI (by decide) ?_⟩;have f3:x.length+1+w.length+1≤sizeLine:=by have:=congrArg List.length eq;simp only[aD,tx,aC,c4]at this;rw[sizeLine_eq];omega
 have l1:((x++("[":Str)):Str).length=x.length+1:=by rw[←c4,dF,aD,c4,BZ];rfl
 have l2:((x++("[":Str)++sx w):Str).length=x.length+1+w.length:=by rw[←c4,dF,aD,c4,l1,eI]
 have l3:(sx w).length=w.length:=by rw[←c4,eI]
 refine⟨by show x.length+1≤_;omega,eM.of hp,cz (j:=1) rfl,by rw[l1,l3];omega,by rw[l2];exact f3,?_⟩;refine⟨eM.of hp,cz (j:=3) rfl,eM.of hp,cz (j:=2) rfl,fU,dZ λl H3 hl s3 g3=>?_⟩;refine⟨s3 _ _ at_,g3,by simp only[aD,aC,aG];rw[sizeLine_eq];omega,dZ λq H4 hq s4 g4=>?_⟩;have s34:=s3.trans s4;have tl4:=dI s34;refine hN _ q [.inr a,.inl [93],.inr b] _ H4 _ _ _ (same.trans s34) ((same.trans s3).free hq) g4 ?_ ⟨?_,?_,λg h=>?_⟩
 ·have e:=IL.pc (IL.txt (t:=[93]) (IL.pc (il.mono tl4) (d2.mono tl4))) (d1.mono tl4);rw[←Cu]at e;simpa using e
 ·rw[dF,dF,dF,eI,BZ,DL];simp[fl,tx]
 ·have:=fV a;have:=fV b;simp only[wg,iH];omega
 ·simp only[aF,reduceCtorEq,Sum.inr.injEq,false_or,av,or_false]at h;rcases h with rfl|rfl
  ·exact ok.2.1
  ·exact ok.2.2
end
theorem Dd:(",":Str)=sx [44]:=by decide
theorem Dc:("?":Str)=sx [63]:=by decide
theorem Bo:("}":Str)=sx [125]:=by decide
section
variable {D:fL}{v0:V}{x:Str}{tl p:Addr}{ws us:List V}{is:List lR}{R:List Nat}{g:Pg}{j4 j5:Option V}
theorem uB{w y:Str}{s:Bool}(hp:H p=some (.tup [.str w,u1,u2]))(d1:GL H [a] [u1])(d2:GL H [b] [u2])(ok:S11.Ok (.two s a b))(hR:R.length≤100000)(few:ws.length≤5000000)(same:dQ H₀ H)(new:H₀ tl=none)(at_:H tl=some (.lst ws))(il:IL H is ws)(eq:cs x++(tx (.two s a b)++fl is)=R)(hN:zk K D H₀ v0 x (.two s a b) is)
  (n1:decide (V.str w=V.str "number")=false) (n2:decide (V.str w=V.str "name")=false) (n3:decide (V.str w=V.str "let")=false) (n4:decide (V.str w=V.str "stamp")=false) (n5:decide (V.str w=V.str "choose")=false) (hv:gq (dz [] gK) (.inr w:gJ)=some (.str y)) (hy:y=sx [S11.sg s]):
  gh K D [some v0,some (.str x),some (.ref tl),some (.ref p),j4,j5] H:=by
 refine⟨eM.of hp,cz (j:=0) rfl,rfl,_,rfl,du n1 ?_⟩;refine⟨eM.of hp,cz (j:=0) rfl,rfl,_,rfl,du n2 ?_⟩;refine⟨eM.of hp,cz (j:=0) rfl,rfl,_,rfl,du n3 ?_⟩;refine⟨eM.of hp,cz (j:=0) rfl,rfl,_,rfl,du n4 ?_⟩;refine λpd hpd=>⟨c6,gK,rfl,by decide,?_⟩;have s1:dQ H (dc (dc H pd (.dK [])) pd (.dK (dz [] gK))):=dw (dW hpd) hpd;have g1:(dc (dc H pd (.dK [])) pd (.dK (dz [] gK))) pd=some (.dK (dz [] gK)):=c6;generalize dc (dc H pd (.dK [])) pd (.dK (dz [] gK))=H1 at s1 g1⊢;have f1:x.length+1≤sizeLine:=by have:=congrArg List.length eq;simp only[aD,tx,aC,c4]at this;rw[sizeLine_eq];omega
 refine⟨f1,?_⟩;have at1:=s1 _ _ at_;refine⟨.inl ⟨rfl,_,dv.of at1⟩,at1,by rw[sizeLine_eq];omega,?_⟩;have t2:=fN (o:=.lst (ws++[.str ")"])) at1;have s2:dQ H₀ (dc H1 tl (.lst (ws++[.str ")"]))):=dw (same.trans s1) new;have g2:(dc H1 tl (.lst (ws++[.str ")"]))) tl=some (.lst (ws++[.str ")"])):=c6;have i2:=(il.mono (dI s1)).mono t2;have hp2:=t2 _ _ (s1 _ _ hp);have c1:=(d1.mono (dI s1)).mono t2;have c2:=(d2.mono (dI s1)).mono t2;have k2:=uQ (o:=.lst (ws++[.str ")"])) at1 _ _ g1;generalize dc H1 tl (.lst (ws++[.str ")"]))=H2 at s2 g2 i2 hp2 c1 c2 k2⊢;refine⟨eM.of hp2,cz (j:=0) rfl,rfl,_,rfl,du n5 ?_⟩;have dg:=lT.k (k:=.inr w) k2;rw[hv]at dg;refine⟨eM.of hp2,cz (j:=2) rfl,eM.of hp2,cz (j:=0) rfl,dg,eM.of hp2,cz (j:=1) rfl,fU,dZ λl H3 hl s3 g3=>?_⟩;refine⟨s3 _ _ g2,g3,by simp only[aD,aC,aG];rw[sizeLine_eq];omega,dZ λq H4 hq s4 g4=>?_⟩;have s34:=s3.trans s4;have tl4:=dI s34;refine hN _ q [.inr a,.inl [S11.sg s],.inr b,.inl [41]] _ H4 _ _ _ (s2.trans s34) ((s2.trans s3).free hq) g4 ?_ ⟨?_,?_,λg h=>?_⟩
 ·have e:=IL.pc (IL.txt (t:=[S11.sg s]) (IL.pc (IL.txt (t:=[41]) (i2.mono tl4)) (c2.mono tl4))) (c1.mono tl4);rw[←zv,←hy]at e;simpa using e
 ·rw[dF,Ba];simp[fl,tx]
 ·have:=fV a;have:=fV b;simp only[wg,iH];omega
 ·simp only[aF,reduceCtorEq,Sum.inr.injEq,false_or,av,or_false]at h;rcases h with rfl|rfl
  ·exact ok.1
  ·exact ok.2
theorem zL(hp:H p=some (.tup [.str "choose",u1,u2,u3]))(d1:GL H [a] [u1])(d2:GL H [b] [u2])(d3:GL H [c] [u3])(ok:S11.Ok (.cho a b c))(hR:R.length≤100000)(few:ws.length≤5000000)(same:dQ H₀ H)(new:H₀ tl=none)(at_:H tl=some (.lst ws))(il:IL H is ws)(eq:cs x++(tx (.cho a b c)++fl is)=R)(hN:zk K D H₀ v0 x (.cho a b c) is):
  gh K D [some v0,some (.str x),some (.ref tl),some (.ref p),j4,j5] H:=by
 refine⟨eM.of hp,cz (j:=0) rfl,rfl,_,rfl,du (by decide) ?_⟩;refine⟨eM.of hp,cz (j:=0) rfl,rfl,_,rfl,du (by decide) ?_⟩;refine⟨eM.of hp,cz (j:=0) rfl,rfl,_,rfl,du (by decide) ?_⟩;refine⟨eM.of hp,cz (j:=0) rfl,rfl,_,rfl,du (by decide) ?_⟩;refine λpd hpd=>⟨c6,gK,rfl,by decide,?_⟩;have s1:dQ H (dc (dc H pd (.dK [])) pd (.dK (dz [] gK))):=dw (dW hpd) hpd;have g1:(dc (dc H pd (.dK [])) pd (.dK (dz [] gK))) pd=some (.dK (dz [] gK)):=c6;generalize dc (dc H pd (.dK [])) pd (.dK (dz [] gK))=H1 at s1 g1⊢;have f1:x.length+1≤sizeLine:=by have:=congrArg List.length eq;simp only[aD,tx,aC,c4]at this;rw[sizeLine_eq];omega
 refine⟨f1,?_⟩;have at1:=s1 _ _ at_;refine⟨.inl ⟨rfl,_,dv.of at1⟩,at1,by rw[sizeLine_eq];omega,?_⟩;have t2:=fN (o:=.lst (ws++[.str ")"])) at1;have s2:dQ H₀ (dc H1 tl (.lst (ws++[.str ")"]))):=dw (same.trans s1) new;have g2:(dc H1 tl (.lst (ws++[.str ")"]))) tl=some (.lst (ws++[.str ")"])):=c6;have i2:=(il.mono (dI s1)).mono t2;have hp2:=t2 _ _ (s1 _ _ hp);have c1:=(d1.mono (dI s1)).mono t2;have c2:=(d2.mono (dI s1)).mono t2;have c3:=(d3.mono (dI s1)).mono t2;have k2:=uQ (o:=.lst (ws++[.str ")"])) at1 _ _ g1;generalize dc H1 tl (.lst (ws++[.str ")"]))=H2 at s2 g2 i2 hp2 c1 c2 c3 k2⊢;refine⟨eM.of hp2,cz (j:=0) rfl,rfl,_,rfl,fI (by decide) ?_⟩;refine⟨eM.of hp2,cz (j:=3) rfl,fU,dZ λla Ha hla sa ga=>?_⟩;refine⟨sa _ _ g2,ga,by simp only[aD,aC,aG];rw[sizeLine_eq];omega,dZ λtb Hb htb sb gb=>?_⟩;have sab:=sa.trans sb;have hpb:=sab _ _ hp2;have dg:=lT.k (k:=.inr ("choose":Str)) (sab _ _ k2);rw[show gq (dz [] gK) (.inr ("choose":Str):gJ)=some (.str "?")from by decide]at dg;refine⟨eM.of hpb,cz (j:=2) rfl,eM.of hpb,cz (j:=0) rfl,dg,eM.of hpb,cz (j:=1) rfl,fU,dZ λl H3 hl s3 g3=>?_⟩;refine⟨s3 _ _ gb,g3,by simp only[aD,aC,aG];rw[sizeLine_eq];omega,dZ λq H4 hq s4 g4=>?_⟩;have s34:=sab.trans (s3.trans s4);have tl4:=dI s34;refine hN _ q [.inr a,.inl [63],.inr b,.inl [58],.inr c,.inl [41]] _ H4 _ _ _ (s2.trans s34) ((s2.trans (sab.trans s3)).free hq) g4 ?_ ⟨?_,?_,λg h=>?_⟩
 ·have e:=IL.pc (IL.txt (t:=[63]) (IL.pc (IL.txt (t:=[58]) (IL.pc (IL.txt (t:=[41]) (i2.mono tl4)) (c3.mono tl4))) (c2.mono tl4))) (c1.mono tl4);rw[←zv,←Cv,←Dc]at e;simpa using e
 ·rw[dF,Ba];simp[fl,tx]
 ·have:=fV a;have:=fV b;have:=fV c;simp only[wg,iH];omega
 ·simp only[aF,reduceCtorEq,Sum.inr.injEq,false_or,av,or_false]at h;rcases h with rfl|rfl|rfl
  ·exact ok.1
  ·exact ok.2.1
  ·exact ok.2.2
end
theorem GL.get:∀{gs:List Pg}{us:List V}{i:Nat},GL H gs us→i<gs.length→∃g u,gs[i]?=some g∧us[i]?=some u∧gs.drop i=g::gs.drop (i+1)∧GL H [g] [u]
 | _,_,0,.cons a b r,_=>⟨_,_,rfl,rfl,rfl,.cons a b .nil⟩
 | _,_,i+1,.cons a b r,h=>by obtain⟨g,u,h1,h2,h3,h4⟩:=GL.get (i:=i) r (by simpa using h);exact⟨g,u,h1,h2,h3,h4⟩
 | _,_,_,.nil,h=>by cases h
def wD(ks:List Pg):Nat→List lR
 | 0=>dU ks
 | m+1=>ri (ks.drop (m+1))
inductive DQ(H₀ H2:Hp)(v0:V)(x:Str)(tl p:Addr)(j5:Option V)(is:List lR)(ks:List Pg):Nat→St→Hp→Prop
 | mk{m:Nat}{H':Hp}{ws:List V}{j4:Option V}(s:dQ H₀ H')(t:fZ H2 H')(at_:H' tl=some (.lst ws))(il:IL H' (wD ks m++.inl [125]::is) ws):DQ H₀ H2 v0 x tl p j5 is ks m [some v0,some (.str x),some (.ref tl),some (.ref p),j4,j5] H'
theorem Ax{D:fL}{v0:V}{x:Str}{tl p:Addr}{ws us:List V}{is:List lR}{R:List Nat}{j4 j5:Option V}(hp:H p=some (.tup (.str "stamp"::.str (sx w)::us)))(hk:GL H ks us)(ok:S11.Ok (.st w ks))(hR:R.length≤100000)(few:ws.length+4*fc ks≤5000000)(same:dQ H₀ H)(new:H₀ tl=none)(at_:H tl=some (.lst ws))(il:IL H is ws)(eq:cs x++(tx (.st w ks)++fl is)=R)(hN:zk K D H₀ v0 x (.st w ks) is):
  gh K D [some v0,some (.str x),some (.ref tl),some (.ref p),j4,j5] H:=by
 refine⟨eM.of hp,cz (j:=0) rfl,rfl,_,rfl,du (by decide) ?_⟩;refine⟨eM.of hp,cz (j:=0) rfl,rfl,_,rfl,du (by decide) ?_⟩;refine⟨eM.of hp,cz (j:=0) rfl,rfl,_,rfl,du (by decide) ?_⟩;refine⟨eM.of hp,cz (j:=0) rfl,rfl,_,rfl,fI (by decide) ?_⟩;have f3:x.length+w.length+1≤sizeLine:=by
  have:=congrArg List.length eq;have h1:w.length+1≤(tx (.st w ks)).length:=by cases ks<;>simp[tx]
  simp only[aD,c4]at this;rw[sizeLine_eq];omega
 have l3:(sx w).length=w.length:=by rw[←c4,eI]
 have l2:((x++sx w):Str).length=x.length+w.length:=by rw[←c4,dF,aD,c4,eI]
 refine⟨eM.of hp,cz (j:=1) rfl,by rw[l3];omega,by rw[l2];exact f3,?_⟩;refine⟨.inl ⟨rfl,_,dv.of at_⟩,at_,by rw[sizeLine_eq];omega,?_⟩;have t2:=fN (o:=.lst (ws++[.str "}"])) at_;have s2:dQ H₀ (dc H tl (.lst (ws++[.str "}"]))):=dw same new;have g2:(dc H tl (.lst (ws++[.str "}"]))) tl=some (.lst (ws++[.str "}"])):=c6;have i2:=il.mono t2;have hp2:=t2 _ _ hp;have k2:=hk.mono t2;generalize dc H tl (.lst (ws++[.str "}"]))=H2 at s2 g2 i2 hp2 k2⊢;have hl:=hk.length;have hlk:=jj ks;have e2:wD ks ks.length=[]:=by
  cases ks with
  | nil=>rfl
  | cons k ks=>simp[wD,ri]
 refine⟨.inr (eM.of hp2),_,_,rfl,⟨by simp only[aC];omega,by simp only[aC];omega,by decide,by decide⟩,?_⟩;refine rW (n:=ks.length) (lo:=2) (by simp only[aC];omega) (by simp only[aC];omega) (DQ H₀ H2 v0 (x++sx w++"{") tl p j5 is ks) (.mk s2 .refl g2 (by rw[e2,Bo];exact .txt i2)) (λi σ H' hi st=>?_) λσ H' st=>?_
 ·obtain @⟨_,ws',j4',s',t',at',il'⟩:=st;obtain⟨g,u,q1,q2,q3,q4⟩:=(k2.mono t').get hi;have hp':=t' _ _ hp2;have hil:=il'.length;have wl:ws'.length≤6000000:=by
   have h1:=mo (wD ks (i+1));have h2:wg (wD ks (i+1))≤4*fc ks:=by
    show wg (ri (ks.drop (i+1)))≤_;rw[oO];have:=hX (ks.take (i+1)) (ks.drop (i+1));rw[cB]at this
    omega
   have h3:=il.length;rw[hil,aD,aC]
   omega
  refine⟨.inl ⟨rfl,_,dv.of at'⟩,eM.of hp',cz (j:=i+2) (by simpa using q2),at',by rw[sizeLine_eq];omega,?_⟩;have g5:(dc H' tl (.lst (ws'++[u]))) tl=some (.lst (ws'++[u])):=c6;have t5:fZ H' (dc H' tl (.lst (ws'++[u]))):=fN at';have s5:dQ H₀ (dc H' tl (.lst (ws'++[u]))):=dw s' new;have i5:=IL.pc (il'.mono t5) (q4.mono t5);generalize dc H' tl (.lst (ws'++[u]))=H5 at g5 t5 s5 i5⊢;cases i with
  | zero=>
   refine⟨_,rfl,du (by decide) ?_⟩;refine .mk s5 (t'.trans t5) g5 ?_;have e3:wD ks 0=.inr g::wD ks 1:=by
    cases ks with
    | nil=>simp at hi
    | cons k ks=>cases q1;rfl
   rw[e3];exact i5
  | succ i=>
   refine⟨_,rfl,fI (decide_eq_true (by omega)) ?_⟩;refine⟨.inl ⟨rfl,_,dv.of g5⟩,g5,by rw[aD,sizeLine_eq];simp only[aC,aG];omega,?_⟩;have t6:fZ H5 (dc H5 tl (.lst (ws'++[u]++[.str ","]))):=fN g5;refine .mk (dw s5 new) ((t'.trans t5).trans t6) c6 ?_;have e3:wD ks (i+1)=.inl [44]::.inr g::wD ks (i+2):=by show ri (ks.drop (i+1))=_;rw[q3];rfl
   rw[e3,Dd];exact .txt (i5.mono t6)
 ·obtain @⟨_,ws',j4',s',t',at',il'⟩:=st;refine hN _ tl (dU ks++[.inl [125]]) ws' H' _ _ _ s' new at' (by rw[ah];exact il') ⟨?_,?_,λg h=>?_⟩
  ·rw[dF,dF,eI,As,mx];cases ks with
   | nil=>simp[dU,fl,tx]
   | cons k ks=>simp[dU,fl,tx,uM]
  ·rw[kh];cases ks with
   | nil=>simp[dU,wg,iH,fc]
   | cons k ks=>
    have:=fV k;simp only[dU,wg,oO,iH,fc]
    omega
  ·rcases aS.mp h with h|h
   ·cases ks with
    | nil=>cases h
    | cons k ks=>
     simp only[dU,aF,Sum.inr.injEq]at h;rcases h with rfl|h
     ·exact ok.2.1
     ·exact tm ok.2.2 g h
   ·simp at h
theorem GL.two(h:GL H [a,b] us):∃u v,us=[u,v]∧GL H [a] [u]∧GL H [b] [v]:=by
 cases h with
 | cons a1 b1 r=>cases r with
  | cons a2 b2 r=>cases r;exact⟨_,_,rfl,.cons a1 b1 .nil,.cons a2 b2 .nil⟩
theorem GL.three(h:GL H [a,b,c] us):∃u v w,us=[u,v,w]∧GL H [a] [u]∧GL H [b] [v]∧GL H [c] [w]:=by
 cases h with
 | cons a1 b1 r=>obtain⟨v,w,rfl,h1,h2⟩:=r.two;exact⟨_,_,_,rfl,.cons a1 b1 .nil,h1,h2⟩
theorem vw{D:fL}{v0:V}{x:Str}{tl p:Addr}{ws us:List V}{is:List lR}{R:List Nat}{g:Pg}{j4 j5:Option V}(hp:H p=some (.tup (kg g++us)))(hk:GL H (kd g) us)(ok:S11.Ok g)(hR:R.length≤100000)(few:ws.length+4*iH g≤5000000)(same:dQ H₀ H)(new:H₀ tl=none)(at_:H tl=some (.lst ws))(il:IL H is ws)(eq:cs x++(tx g++fl is)=R)(hN:zk K D H₀ v0 x g is):
  gh K D [some v0,some (.str x),some (.ref tl),some (.ref p),j4,j5] H:=by
 cases g with
 | num b ds=>cases hk;exact zJ hp ok hR same new at_ il eq hN
 | name w=>cases hk;exact vx hp hR same new at_ il eq hN
 | two s a b=>
  obtain⟨u,v,rfl,d1,d2⟩:=hk.two;cases s with
  | true=>exact uB (w:="sum") (y:="+") hp d1 d2 ok hR (by omega) same new at_ il eq hN (by decide) (by decide) (by decide) (by decide) (by decide) (by decide) (by decide)
  | false=>exact uB (w:="less") (y:="-") hp d1 d2 ok hR (by omega) same new at_ il eq hN (by decide) (by decide) (by decide) (by decide) (by decide) (by decide) (by decide)
 | cho a b c=>obtain⟨u,v,w,rfl,d1,d2,d3⟩:=hk.three;exact zL hp d1 d2 d3 ok hR (by omega) same new at_ il eq hN
 | lt w a b=>obtain⟨u,v,rfl,d1,d2⟩:=hk.two;exact zK hp d1 d2 ok hR (by omega) same new at_ il eq hN
 | st w ks=>exact Ax (ks:=ks) hp hk ok hR (by simp only[iH]at few;omega) same new at_ il eq hN
inductive Bk(H:Hp)(v:V)(R:List Nat):Nat→St→Hp→Prop
 | mk{x:Str}{tl:Addr}{is:List lR}{ws:List V}{j3 j4 j5:Option V}{H':Hp}(same:dQ H H')(new:H tl=none)(at_:H' tl=some (.lst ws))(il:IL H' is ws)(eq:cs x++fl is=R)(few:wg is≤4000000)(ok:Cm is):Bk H v R (wg is) [some v,some (.str x),some (.ref tl),j3,j4,j5] H'
theorem DF(h:iu vs H Q E):CD K (fC Q) (start ["_law_piece","_law_line","_law_todo","_law_part","_law_k","_law_signs"] vs) H:=by
 obtain @⟨g,v,hd,ok,hs,hR,k⟩:=h;refine⟨fU,dZ λtl H1 htl s1 g1=>?_⟩;refine⟨Bk H v (tx g),⟨_,.mk (is:=[.inr g]) s1 htl g1 (.pc (us:=[]) .nil (hd.mono (dI s1))) (by rw[ip];simp[fl]) (by simp only[wg];omega) λg' h=>by
  simp only[aF,Sum.inr.injEq,av,or_false]at h;subst h;exact ok⟩,?_⟩
 clear s1 g1 htl;rintro m σ H2 @⟨x,tl,is,ws,j3,j4,j5,_,same,new,at_,il,eq,few,oki⟩;refine⟨fU,dZ λe H3 he s3 g3=>?_⟩;have at3:=s3 _ _ at_;refine⟨dv.of at3,dv.of g3,_,rfl,?_⟩;have il3:=il.mono (dI s3);clear il;cases il3 with
 | nil=>have e:x=sx (tx g):=gy (by rw[eI,←eq];simp[fl]);subst e;exact du rfl (k _ (same.trans s3))
 | @txt t is us il=>refine fI (by simp) ?_;refine⟨Lt (Bk H v (tx g)) _,λ_ _ h=>h,?_⟩;refine⟨.inl ⟨rfl,_,dv.of at3⟩,at3,jO,?_⟩;rw[iS];have t4:=fN (o:=.lst us) at3;have s4:dQ H (dc H3 tl (.lst us)):=dw (same.trans s3) new;have g4:(dc H3 tl (.lst us)) tl=some (.lst us):=c6;have i4:=il.mono t4;generalize dc H3 tl (.lst us)=H4 at s4 g4 i4⊢;refine⟨.str _,jT,_,rfl,gw ?_⟩;refine⟨A6 (r:=fl is) hR eq (by rw[eI];rfl),?_⟩;refine⟨wg is,by simp only[wg];omega,.mk s4 new g4 i4 (by rw[dF,eI,←eq];simp[fl]) (by simp only[wg]at few;omega) λg' h=>oki g' (aa _ h)⟩
 | @pc g' u is us il d=>
  refine fI (by simp) ?_;refine⟨Lt (Bk H v (tx g)) _,λ_ _ h=>h,?_⟩;refine⟨.inl ⟨rfl,_,dv.of at3⟩,at3,jO,?_⟩;rw[iS];have t4:=fN (o:=.lst us) at3;have s4:dQ H (dc H3 tl (.lst us)):=dw (same.trans s3) new;have g4:(dc H3 tl (.lst us)) tl=some (.lst us):=c6;have i4:=il.mono t4;have d4:=d.mono t4;generalize dc H3 tl (.lst us)=H4 at s4 g4 i4 d4⊢;have hlen:=i4.length;have hlw:=mo is;have hpos:=fV g';cases d4 with
  | @cons _ p ks _ _ hp hk r=>
  refine⟨.tup hp,mq,_,rfl,e7 ?_⟩;simp only[wg]at few;refine vw hp hk (oki g' (.head _)) hR (by omega) s4 new g4 i4 eq λx' tl' ns ws' H' j3 j4 j5 h1 h2 h3 h5 h6=>?_;have hw:=h6.wt;refine⟨wg (ns++is),by rw[kh];simp only[wg];omega,.mk h1 h2 h3 h5 (by rw[mx,←ah,h6.eq,←eq];simp[fl]) (by rw[kh];omega) λg'' h=>?_⟩;rcases aS.mp h with z|z
  ·exact h6.ok _ z
  ·exact oki _ (aa _ z)
end R11
namespace R11
open PySem L2 SW
open S11 hiding Wd
variable {H:Hp}
theorem mn:∀(n m:Nat),m<n→nv (fh m)=m
 | 0,_,h=>by omega
 | n+1,m,h=>by
  by_cases z:m<10
  ·rw[gT z];simp[nv]
  ·rw[i8 z,qP,mn n (m / 10) (by omega)];omega
def iX:T→Pg
 | .num (.ofNat m)=>.num false (fh m)
 | .num (.negSucc m)=>.num true (fh (m+1))
 | .name w=>.name (cs w)
 | .sum a b=>.two true (iX a) (iX b)
 | .less a b=>.two false (iX a) (iX b)
 | .cho a b c=>.cho (iX a) (iX b) (iX c)
 | .lt w a b=>.lt (cs w) (iX a) (iX b)
 | .st0 w=>.st (cs w) []
 | .st1 w a=>.st (cs w) [iX a]
 | .st2 w a b=>.st (cs w) [iX a,iX b]
theorem iC:∀{t:T}{v:V},gU H t v→GL H [iX t] [v]
 | .num (.ofNat m),_,⟨p,rfl,h⟩=>.cons (us:=[]) (by
   have e:vl false (fh m)=(Int.ofNat m):=by show((nv (fh m):Nat):Int)=_;rw[mn (m+1) m (by omega)];rfl
   show H p=some (.tup [.str "number",.int (vl false (fh m))]);rw[e];exact h) .nil .nil
 | .num (.negSucc m),_,⟨p,rfl,h⟩=>.cons (us:=[]) (by
   have e:vl true (fh (m+1))=(Int.negSucc m):=by show -((nv (fh (m+1)):Nat):Int)=_;rw[mn (m+2) (m+1) (by omega)];rfl
   show H p=some (.tup [.str "number",.int (vl true (fh (m+1)))]);rw[e];exact h) .nil .nil
 | .name w,_,⟨p,rfl,h⟩=>.cons (us:=[]) (by show H p=some (.tup [.str "name",.str (sx (cs w))]);rw[jX];exact h) .nil .nil
 | .sum a b,_,⟨p,x,y,rfl,h,d1,d2⟩=>.cons (us:=[x,y]) h ((iC d1).app (iC d2)) .nil
 | .less a b,_,⟨p,x,y,rfl,h,d1,d2⟩=>.cons (us:=[x,y]) h ((iC d1).app (iC d2)) .nil
 | .cho a b c,_,⟨p,x,y,z,rfl,h,d1,d2,d3⟩=>.cons (us:=[x,y,z]) h ((iC d1).app ((iC d2).app (iC d3))) .nil
 | .lt w a b,_,⟨p,x,y,rfl,h,d1,d2⟩=>.cons (us:=[x,y]) (by show H p=some (.tup [.str "let",.str (sx (cs w)),x,y]);rw[jX];exact h) ((iC d1).app (iC d2)) .nil
 | .st0 w,_,⟨p,rfl,h⟩=>.cons (us:=[]) (by show H p=some (.tup [.str "stamp",.str (sx (cs w))]);rw[jX];exact h) .nil .nil
 | .st1 w a,_,⟨p,x,rfl,h,d1⟩=>.cons (us:=[x]) (by show H p=some (.tup [.str "stamp",.str (sx (cs w)),x]);rw[jX];exact h) (iC d1) .nil
 | .st2 w a b,_,⟨p,x,y,rfl,h,d1,d2⟩=>.cons (us:=[x,y]) (by show H p=some (.tup [.str "stamp",.str (sx (cs w)),x,y]);rw[jX];exact h) ((iC d1).app (iC d2)) .nil
theorem hW:∀t:T,iH (iX t)=t.size
 | .num (.ofNat _)=>rfl
 | .num (.negSucc _)=>rfl
 | .name _=>rfl
 | .sum a b=>by simp only[iX,iH,T.size,hW a,hW b]
 | .less a b=>by simp only[iX,iH,T.size,hW a,hW b]
 | .cho a b c=>by simp only[iX,iH,T.size,hW a,hW b,hW c]
 | .lt w a b=>by simp only[iX,iH,T.size,hW a,hW b]
 | .st0 _=>rfl
 | .st1 w a=>by simp only[iX,iH,fc,T.size,hW a];try omega
 | .st2 w a b=>by simp only[iX,iH,fc,T.size,hW a,hW b];omega
theorem nE{w:Str}(h:SW.Wd w):S11.Wd (cs w):=by
 refine⟨λe=>?_,λc m=>?_⟩
 ·have:=h.one;rw[←c4,e]at this;cases this
 ·have:=h.abc c m;rw[eA,decide_eq_true this.1,decide_eq_true this.2];rfl
theorem zZ(m:Nat):∀c∈fh m,eW c=true:=λc h=>by have:=nt m c h;rw[eW,decide_eq_true this.1,decide_eq_true this.2];rfl
theorem tq{m:Nat}(h:m<10^60)(hb:b=true→0<m):S11.Ok (.num b (fh m)):=by
 refine⟨qc m,zZ m,?_,aE (io (k:=59) h) (by decide)⟩;by_cases z:m=0
 ·subst z;cases b with
  | true=>exact absurd (hb rfl) (by decide)
  | false=>rw[lm];rfl
 ·obtain⟨c,r,e,hc⟩:=rY m (by omega);rw[e];simp[kF,hc]
theorem gl{S:Str→Nat→Prop}(hS:∀w n,S w n→SW.Wd w):∀{t:T},WT S t→S11.Ok (iX t)
 | .num (.ofNat m),h=>tq (by
   have h2:=h.2;have:((10:Int)^60)=((10^60:Nat):Int):=by norm_cast
   rw[this]at h2;exact cL.mp h2) (λz=>by cases z)
 | .num (.negSucc m),h=>tq (by
   have h2:=h.1;have:((10:Int)^60)=((10^60:Nat):Int):=by norm_cast
   rw[this]at h2;generalize (10^60:Nat)=y at *
   omega) (λ_=>Nat.succ_pos _)
 | .name _,h=>nE h
 | .sum _ _,h=>⟨gl hS h.1,gl hS h.2⟩
 | .less _ _,h=>⟨gl hS h.1,gl hS h.2⟩
 | .cho _ _ _,h=>⟨gl hS h.1,gl hS h.2.1,gl hS h.2.2⟩
 | .lt _ _ _,h=>⟨nE h.1,gl hS h.2.1,gl hS h.2.2⟩
 | .st0 _,h=>⟨nE (hS _ _ h),trivial⟩
 | .st1 _ _,h=>⟨nE (hS _ _ h.1),gl hS h.2,trivial⟩
 | .st2 _ _ _,h=>⟨nE (hS _ _ h.1),gl hS h.2.1,gl hS h.2.2,trivial⟩
def Rm(n:Nat)(l:List Nat):Prop:=∀j,((l.drop j).takeWhile eW).length≤n
theorem Rm.le(h:Rm n l)(k:n≤m):Rm m l:=λj=>aE (h j) k
theorem jK(l:List Nat):Rm l.length l:=λj=>by have h:=(cH eW (l:=l.drop j)).length_le;rw[aO]at h;omega
theorem Rm.drop(h:Rm n l)(k:Nat):Rm n (l.drop k):=λj=>by rw[bU];exact h _
theorem AA(h:a <+: b):(a.takeWhile eW).length≤(b.takeWhile eW).length:=by
 obtain⟨c,rfl⟩:=h;rw[cM];split
 ·rw[aD];omega
 ·omega
theorem Rm.take(h:Rm n l)(k:Nat):Rm n (l.take k):=λj=>by refine aE (AA ?_) (h j);rw[List.drop_take];exact List.take_prefix _ _
theorem Rm.app(h:Rm n a)(k:Rm m b):Rm (n+m) (a++b):=λj=>by
 rw[List.drop_append,cM];have h1:=h j;have h2:=k (j-a.length);split
 ·rename_i e;rw[aD];omega
 ·omega
theorem Rm.mid(h:Rm n a)(k:Rm n b)(hc:eW c=false):Rm n (a++c::b):=λj=>by
 rw[List.drop_append,cM];have h1:=h j;split
 ·rename_i e;rw[aD];by_cases z:j≤a.length
  ·rw[show j-a.length=0 by omega,aw,aU,hc];rw[e]at h1;simpa using h1
  ·have e2:a.drop j=[]:=cm (by omega);rw[e2,show j-a.length=(j-a.length-1)+1 by omega,cC];have:=k (j-a.length-1);simpa using this
 ·exact h1
theorem ib:Rm n []:=λj=>by simp
theorem Rm.hd(k:Rm n b)(hc:eW c=false):Rm n (c::b):=Rm.mid (a:=[]) ib k hc
theorem wc:∀{l:List Nat},(∀c∈l,eW c=false)→Rm n l
 | [],_=>ib
 | c::l,h=>(wc λd m=>h d (aa _ m)).hd (h c bK)
theorem nN{w:Str}(h:SW.Wd w):Rm n (cs w):=wc λc m=>by
 have:=h.abc c m;have:¬c≤57:=by omega
 rw[eW,decide_eq_false this];simp
theorem gx{c:Nat}(h:eW c=false:=by decide):eW c=false:=h
theorem hZ{S:Str→Nat→Prop}(hS:∀w n,S w n→SW.Wd w):∀{t:T},WT S t→Rm 60 (tx (iX t))
 | .num (.ofNat m),h=>by
  have ok:S11.Ok (iX (.num (.ofNat m))):=gl hS h;have h2:=h.2;have:((10:Int)^60)=((10^60:Nat):Int):=by norm_cast
  rw[this]at h2;exact(jK _).le (io (k:=59) (cL.mp h2))
 | .num (.negSucc m),h=>by
  have h2:=h.1;have:((10:Int)^60)=((10^60:Nat):Int):=by norm_cast
  rw[this]at h2;have h3:m+1<10^60:=by
   generalize (10^60:Nat)=y at *
   omega
  exact Rm.hd ((jK _).le (io (k:=59) h3)) gx
 | .name _,h=>nN h
 | .sum _ _,h=>((hZ hS h.1).mid ((hZ hS h.2).mid ib gx) gx).hd gx
 | .less _ _,h=>((hZ hS h.1).mid ((hZ hS h.2).mid ib gx) gx).hd gx
 | .cho _ _ _,h=>((hZ hS h.1).mid ((hZ hS h.2.1).mid ((hZ hS h.2.2).mid ib gx) gx) gx).hd gx
 | .lt _ _ _,h=>((nN h.1).mid ((hZ hS h.2.1).mid (hZ hS h.2.2) gx) gx).hd gx
 | .st0 _,h=>(nN (hS _ _ h)).mid (Rm.hd ib gx) gx
 | .st1 _ _,h=>(nN (hS _ _ h.1)).mid ((hZ hS h.2).mid ib gx) gx
 | .st2 w a b,h=>by have:=(nN (n:=60) (hS _ _ h.1)).mid (c:=123) ((hZ hS h.2.1).mid (c:=44) ((hZ hS h.2.2).mid (c:=125) ib gx) gx) gx;show Rm 60 (cs w++123::(tx (iX a)++(44::(tx (iX b)++[])++[125])));simpa using this
theorem gC{S:Str→Nat→Prop}(hS:∀w n,S w n→SW.Wd w):∀{t:T},WT S t→(tx (iX t)).length≤300*t.size
 | .num (.ofNat m),h=>by
  have h2:=h.2;have:((10:Int)^60)=((10^60:Nat):Int):=by norm_cast
  rw[this]at h2;have:=io (k:=59) (cL.mp h2);show(fh m).length≤300*1
  omega
 | .num (.negSucc m),h=>by
  have h2:=h.1;have:((10:Int)^60)=((10^60:Nat):Int):=by norm_cast
  rw[this]at h2;have h3:m+1<10^60:=by
   generalize (10^60:Nat)=y at *
   omega
  have:=io (k:=59) h3;show(45::fh (m+1)).length≤300*1;rw[aC];omega
 | .name w,h=>by have:=h.few;rw[←c4]at this;show(cs w).length≤_;simp only[T.size];omega
 | .sum a b,h=>by have:=gC hS h.1;have:=gC hS h.2;simp only[iX,tx,aD,aC,aG,T.size];omega
 | .less a b,h=>by have:=gC hS h.1;have:=gC hS h.2;simp only[iX,tx,aD,aC,aG,T.size];omega
 | .cho a b c,h=>by have:=gC hS h.1;have:=gC hS h.2.1;have:=gC hS h.2.2;simp only[iX,tx,aD,aC,aG,T.size];omega
 | .lt w a b,h=>by have:=gC hS h.2.1;have:=gC hS h.2.2;have:=h.1.few;rw[←c4]at this;simp only[iX,tx,aD,aC,aG,T.size];omega
 | .st0 w,h=>by have:=(hS _ _ h).few;rw[←c4]at this;simp only[iX,tx,aD,aC,aG,T.size];omega
 | .st1 w a,h=>by have:=gC hS h.2;have:=(hS _ _ h.1).few;rw[←c4]at this;simp only[iX,tx,re,aD,aC,aG,T.size];omega
 | .st2 w a b,h=>by have:=gC hS h.2.1;have:=gC hS h.2.2;have:=(hS _ _ h.1).few;rw[←c4]at this;simp only[iX,tx,re,aD,aC,aG,T.size];omega
end R11
namespace R11
open PySem L2 SW
open S11 hiding Wd
mutual
theorem jG:∀g:Pg,S11.Ok g→iH g≤(tx g).length
 | .num b ds,h=>by have:=bI.mpr h.1;cases b<;>simp[iH,tx]<;>omega
 | .name w,h=>by have:=bI.mpr h.1;simp only[iH,tx];omega
 | .two s a b,h=>by have:=jG a h.1;have:=jG b h.2;simp only[iH,tx,aD,aC,aG];omega
 | .cho a b c,h=>by have:=jG a h.1;have:=jG b h.2.1;have:=jG c h.2.2;simp only[iH,tx,aD,aC,aG];omega
 | .lt w a b,h=>by have:=jG a h.2.1;have:=jG b h.2.2;simp only[iH,tx,aD,aC,aG];omega
 | .st w [],h=>by simp only[iH,fc,tx,aD,aC,aG];omega
 | .st w (k::ks),h=>by have:=jG k h.2.1;have:=so ks h.2.2;simp only[iH,fc,tx,aD,aC,aG];omega
theorem so:∀ks:List Pg,S11.wV ks→fc ks≤(re ks).length
 | [],_=>aB _
 | k::ks,h=>by have:=jG k h.1;have:=so ks h.2;simp only[fc,re,aD,aC];omega
end
def kY(K:aA):Sp:=λvs H Q _=>∃(a:Addr)(ns:List Int),vs=[.ref a]∧dv K H a (ns.map V.int)∧ns.length≤63∧∀x H',dQ H H'→(cs x).length≤100000→S11.Rn (cs x)→Q (.str x) H'
inductive DP(H:Hp)(Q:VK):List V→Prop
 | mk{x:Str}(xl:(cs x).length≤100000)(rn:S11.Rn (cs x))(h:∀b H',dQ H H'→(b=true↔¬gX [.pc] (cs x))→Q (.bl b) H'):DP H Q [.str x]
def ir(N:Addr):Sp:=λvs H Q _=>DP H Q vs
end R11
namespace R11
open PySem L2 SW
def yd(K:aA)(a_NoPiece a_NoName a_NoStamp a_StampError a_Reader:Addr)(ea:Addr):TS:=(c8 (dE (c9 gj (gG pE (cp (gG (tI K a_NoPiece ea) (cp (cq 1) (cp (tC (.ref a_NoName)) cy))) cy)) (gG pE (cp (gG (tI K a_NoPiece ea) (cp (cq 1) (cp (tC (.ref a_NoStamp)) cy))) cy))) (c5 2)) (c8 (dE (c9 gj (cq 2) (gG pE (cp (gG (tI K a_NoPiece ea) (cp (cq 1) (cp (tC (.ref a_NoPiece)) cy))) cy))) (c5 2)) (e9 (lW (gG (tI K a_NoPiece ea) (cp (cq 1) (cp (tC (.ty "ValueError")) cy))) (c9 i0 (cq 2) (tC (.int 1)))))))
def CG(K:aA)(a_NoPiece a_NoName a_NoStamp a_StampError a_Reader:Addr):TS:=(c8 (sZ K a_NoPiece a_StampError 1 (ro (gW a_NoPiece) (cp (cq 0) cy)) (λea=>(yd K a_NoPiece a_NoName a_NoStamp a_StampError a_Reader ea))) (e9 (tC (.bl false))))
def qy(K:aA)(a_NoPiece a_NoName a_NoStamp a_StampError a_Reader:Addr):TS:=(dE (tC (.bl true)) (c5 3))
def qx(K:aA)(a_NoPiece a_NoName a_NoStamp a_StampError a_Reader:Addr):TS:=(e9 (tC (.bl false)))
def qw(K:aA)(a_NoPiece a_NoName a_NoStamp a_StampError a_Reader:Addr):TS:=(dy (dG (c9 yn (eV (ir a_NoPiece) [] E0 (cp (cq 1) cy)) (cq 3))) (qx K a_NoPiece a_NoName a_NoStamp a_StampError a_Reader) eS)
def qv(K:aA)(a_NoPiece a_NoName a_NoStamp a_StampError a_Reader:Addr):TS:=(e9 (cq 3))
def qu(K:aA)(a_NoPiece a_NoName a_NoStamp a_StampError a_Reader:Addr):TS:=(dy (mM (tB (eV mQ [] E0 (cp (cq 1) cy)))) (qv K a_NoPiece a_NoName a_NoStamp a_StampError a_Reader) eS)
def u5(K:aA)(a_NoPiece a_NoName a_NoStamp a_StampError a_Reader:Addr):TS:=(c8 (dE (eV (kY K) [] E0 (cp (cq 0) cy)) (c5 1)) (c8 (dE (tC .non) (c5 2)) (c8 (dE (tC (.bl false)) (c5 3)) (c8 (AK K a_NoPiece (xE (gW a_NoPiece) 2 (cp (cq 1) cy)) (qy K a_NoPiece a_NoName a_NoStamp a_StampError a_Reader)) (c8 (qw K a_NoPiece a_NoName a_NoStamp a_StampError a_Reader) (c8 (qu K a_NoPiece a_NoName a_NoStamp a_StampError a_Reader) (e9 (lW (sf (cq 3)) (lW (eV iJ [] E0 (cp (cq 2) cy)) (c9 i0 (eV iu [] E0 (cp (cq 2) cy)) (cq 1)))))))))))
end R11
namespace R11
open PySem L2 SW
open S11 hiding Wd
variable {K:aA}{N nm st se C:Addr}{vs:List V}{H:Hp}{Q:VK}{E:XK}
theorem DI(CC:S1.Da K N nm st se)(h:ir N vs H Q E):CG K N nm st se C (fC Q) (start ["_law_line","e","_law_many"] vs) H:=by obtain @⟨x,xl,rn,k⟩:=h;refine .mk xl rn (λg v H' s _ _ _ acc=>k false H' s ⟨λz=>(by cases z),λz=>absurd acc z⟩) λna H' s=>⟨rfl,CC.e2,λea hea=>?_⟩;refine⟨.ref nm,.ref nm,false,rfl,rfl,λ_ z=>z,CC.k2,.inr ⟨false,rfl,?_⟩⟩;refine⟨.ref st,.ref st,false,rfl,rfl,λ_ z=>z,CC.k3,.inr ⟨false,rfl,?_⟩⟩;refine⟨.ref N,.ref N,true,rfl,rfl,λ_ z=>z,CC.k1,.inr ⟨true,rfl,?_⟩⟩;refine⟨.ty "ValueError",.type "ValueError",true,rfl,rfl,λ_ z=>z,CC.k4,true,rfl,gw ?_⟩;exact⟨rfl,k true H' s ⟨λ_=>na,λ_=>rfl⟩⟩
theorem CK(CC:S1.Da K N nm st se)(h:S1.Cy K vs H Q E):u5 K N nm st se C (fC Q) (start ["_law_script","_law_line","_law_found","_law_refused"] vs) H:=by
 obtain⟨a,ns,rfl,hs,hn,k⟩:=h;refine⟨a,ns,rfl,hs,hn,λx H1 s1 xl rn=>?_⟩;refine .mk xl rn (λg v H2 s2 hd ok et acc=>?_) λna H2 s2=>⟨CC.e1,?_⟩
 ·
  refine .mk xl rn λb H3 s3 hb=>⟨rfl,_,rfl,?_⟩;have hb:b=false:=by
   cases b with
   | false=>rfl
   | true=>exact absurd acc (hb.mp rfl)
  subst hb;refine du (by decide) ?_;refine⟨xl,λH4 s4=>⟨λ_=>⟨_,rfl,e7 ?_⟩,λnw=>absurd (S11.zy.mpr acc) nw⟩⟩;have hl:(tx g).length≤100000:=by rw[et];exact xl
  have hz:=jG g ok;have d4:=hd.mono (dI (s3.trans s4));refine⟨_,rfl,_,rfl,gw (.mk d4 (by omega) λH5 s5=>⟨_,rfl,gw (.mk (d4.mono (dI s5)) ok (by omega) hl λH6 s6=>?_)⟩)⟩;refine⟨rfl,?_⟩;rw[et,jX,decide_eq_true rfl];exact k H6
 ·
  refine .mk xl rn λb H3 s3 hb=>⟨rfl,_,rfl,?_⟩;have hb:b=true:=hb.mpr na;subst hb;refine du (by decide) ?_;refine⟨xl,λH4 s4=>⟨λw=>absurd (S11.zy.mp w) na,λ_=>⟨_,rfl,gw (k H4)⟩⟩⟩
end R11
namespace R11
open PySem L2 SW
open S11 hiding Wd
theorem mC{w:Str}{n:Nat}(h:lw w n):SW.Wd w:=by
 rcases h with⟨rfl,_⟩|⟨rfl,_⟩|⟨rfl,_⟩
 ·exact⟨by decide,by decide,by decide⟩
 ·exact⟨by decide,by decide,by decide⟩
 ·exact⟨by decide,by decide,by decide⟩
theorem sv{z:Str}{k:Nat}(h:k≤z.length):cs (Txt.slice z none (some (k:Int)))=(cs z).take k:=by have e:=PyProof.Rows.slice_closes_toL (x:=z) (j:=(k:Int)) (by omega) (by omega);rw[eq_of_beq e];show((z.cps.toList.drop (0:Int).toNat).take ((k:Int)-0).toNat).toArray.toList=_;rw[show((k:Int)-0).toNat=k by omega];rfl
theorem pr{z:Str}{k:Nat}(h:k≤z.length):cs (Txt.slice z (some (k:Int)) none)=(cs z).drop k:=by have e:=PyProof.Rows.slice_closes_fromL (x:=z) (i:=(k:Int)) (b:=z.length) (by omega) (by omega) rfl;rw[eq_of_beq e];show((z.cps.toList.drop ((k:Int)).toNat).take ((z.length:Int)-k).toNat).toArray.toList=_;rw[show((k:Int)).toNat=k by omega];have hl:z.cps.toList.length=z.length:=c4 z;exact cA (by rw[aO,hl];omega)
theorem vO{z:Str}:cs (Txt.slice z (some ((z.length:Int)+1)) none)=[]:=by
 have h:Builtin.Str.strSliceIndices (some ((z.length:Int)+1)) none 1 z.length=[]:=by
  unfold Builtin.Str.strSliceIndices sliceRange;have h1:¬((z.length:Int)+1<0):=by omega
  have h2:max (0:Int) (min ((z.length:Int)+1) z.length)=z.length:=by omega
  simp only[h1,if_false,h2];simp
 unfold Txt.slice;rw[h];by_cases z0:z.length=0
 ·rw[if_pos (by simp[z0])];exact cK.mp (by rw[c4];exact z0)
 ·rw[if_neg (by simp;omega)];rfl
theorem pq{z:Str}{k:Nat}(h:k≤z.length):cs (Txt.slice z (some ((k:Int)+1)) none)=(cs z).drop (k+1):=by
 by_cases e:k=z.length
 ·subst e;rw[vO,cm (by rw[c4];omega)]
 ·exact pr (k:=k+1) (by omega)
end R11
namespace R11
open PySem L2 SW
def jH(K:aA):Sp:=λvs H Q _=>∃(a:Addr)(ns:List Int)(i:Nat),vs=[.ref a,.int i]∧dv K H a (ns.map V.int)∧∀n,Q (.int n) H
def vH(K:aA):TS:=(e9 (c9 (gA K) (cq 0) (cq 1)))
def vG(K:aA):TS:=(dy (dG (c9 jd (cq 1) (gG (jD K) (cp (cq 0) cy)))) (vH K) eS)
def AG(K:aA):TS:=(c8 (vG K) (e9 (tC (.int 0))))
def sK(K:aA):TS:=(e9 (cq 2))
def sJ(K:aA):TS:=(dy (dG (c9 ol (gG (jD K) (cp (cq 0) cy)) (tC (.int 63)))) (sK K) eS)
def xo(K:aA):TS:=(c8 (sJ K) (e9 (cq 1)))
def mL(K:aA):TS:=(c8 (dE (dh (cp (tC (.str "a")) (cp (tC (.str "xy")) (cp (tC (.str "0")) (cp (tC (.str "7")) (cp (tC (.str "-")) (cp (tC (.str "(")) (cp (tC (.str ")")) (cp (tC (.str "+")) (cp (tC (.str "?")) (cp (tC (.str ":")) (cp (tC (.str "[a=")) (cp (tC (.str "]")) (cp (tC (.str "s{")) (cp (tC (.str "}")) (cp (tC (.str ",")) (cp (tC (.str "-3")) cy))))))))))))))))) (c5 2)) (e9 (kD K "str" (wk K) (tC (.str "")) (cp (Cw (uF K (kP (kQ K) (cq 0) (eL (tC (.int 1))) (eL (tC (.int 16))))) (c9 (gA K) (cq 1) (c9 fP (cq 0) (tC (.int 16)))) [2]) cy))))
def vK(K:aA):TS:=(dy (dG (c9 i0 (cq 1) (tC (.int 4)))) (mL K) eS)
def mK(K:aA):TS:=(c8 (dE (dh (cp (dh (cp (tC (.str "(")) (cp (tC (.str "+1)")) cy))) (cp (dh (cp (tC (.str "(1-")) (cp (tC (.str ")")) cy))) (cp (dh (cp (tC (.str "s{")) (cp (tC (.str ")")) cy))) (cp (dh (cp (tC (.str "[a=1]")) (cp (tC (.str "")) cy))) (cp (dh (cp (tC (.str "[a=")) (cp (tC (.str "]")) cy))) (cp (dh (cp (tC (.str "s{")) (cp (tC (.str "}")) cy))) cy))))))) (c5 4)) (c8 (dE (c9 h9 (cq 4) (dh (cp (dh (cp (tC (.str "s{")) (cp (tC (.str ",}")) cy))) (cp (dh (cp (tC (.str "s{,")) (cp (tC (.str "}")) cy))) (cp (dh (cp (tC (.str "(a?")) (cp (tC (.str ":0)")) cy))) (cp (dh (cp (tC (.str "(a?")) (cp (tC (.str ")")) cy))) (cp (dh (cp (tC (.str "-")) (cp (tC (.str "")) cy))) cy))))))) (c5 4)) (c8 (dE (c9 h9 (cq 4) (dh (cp (dh (cp (tC (.str "")) (cp (tC (.str " ")) cy))) (cp (dh (cp (tC (.str "(01+")) (cp (tC (.str ")")) cy))) (cp (dh (cp (tC (.str "(-0+")) (cp (tC (.str ")")) cy))) (cp (dh (cp (tC (.str "[A=1]")) (cp (tC (.str "")) cy))) (cp (dh (cp (tC (.str "(--1+")) (cp (tC (.str ")")) cy))) cy))))))) (c5 4)) (c8 (dE (c9 (gA K) (cq 4) (c9 fP (eV (jH K) [] E0 (cp (cq 0) (cp (tC (.int 1)) cy))) (tC (.int 16)))) (c5 5)) (e9 (c9 fE (c9 fE (c9 (gA K) (cq 5) (tC (.int 0))) (cq 3)) (c9 (gA K) (cq 5) (tC (.int 1)))))))))
def vJ(K:aA):TS:=(dy (dG (c9 ol (cq 1) (tC (.int 4)))) (mK K) eS)
def vI(K:aA):TS:=(c8 (dE (tC (.str "!\"#$&'()*+,-./0123456789:;<=>?@ABCDEFGHIJKLMNOPQRSTUVWXYZ")) (c5 8)) (c8 (dE (c9 fE (cq 8) (tC (.str "[\\]^_`abcdefghijklmnopqrstuvwxyz{|}~ "))) (c5 8)) (dE (c9 jN (cq 8) (c9 fP (eV (jH K) [] E0 (cp (cq 0) (cp (tC (.int 2)) cy))) (gG iq (cp (cq 8) cy)))) (c5 7))))
def pX(K:aA):TS:=(dy (dG (c9 i0 (c9 fP (c9 nR (eV (jH K) [] E0 (cp (cq 0) (cp (tC (.int 2)) cy))) (tC (.int 17))) (tC (.int 3))) (tC (.int 1)))) (vI K) eS)
def pW(K:aA):TS:=(e9 (c9 fE (c9 fE (kP jw (cq 3) eN (eL (cq 6))) (cq 7)) (kP jw (cq 3) (eL (c9 gj (cq 6) (tC (.int 1)))) eN)))
def mJ(K:aA):TS:=(dy (dG (c9 i0 (cq 1) (tC (.int 1)))) (pW K) eS)
def pV(K:aA):TS:=(e9 (c9 fE (kP jw (cq 3) eN (eL (cq 6))) (kP jw (cq 3) (eL (c9 gj (cq 6) (tC (.int 1)))) eN)))
def ko(K:aA):TS:=(dy (dG (c9 i0 (cq 1) (tC (.int 2)))) (pV K) eS)
def nI(K:aA):TS:=(e9 (c9 fE (c9 fE (kP jw (cq 3) eN (eL (cq 6))) (cq 7)) (kP jw (cq 3) (eL (cq 6)) eN)))
def km(K:aA):TS:=(dy (dG (c9 i0 (cq 1) (tC (.int 3)))) (nI K) eS)
def AH(K:aA):TS:=(c8 (dE (c9 fP (eV (jH K) [] E0 (cp (cq 0) (cp (tC (.int 0)) cy))) (tC (.int 7))) (c5 1)) (c8 (vK K) (c8 (dE (eV iu [] E0 (cp (eV (mS K) [] E0 (cp (kP (kQ K) (cq 0) (eL (tC (.int 3))) (eL (c9 gj (tC (.int 3)) (eV (mR K) [] E0 (cp (cq 0) (cp (tC (.int 12)) (cp (tC (.int 60)) cy))))))) cy)) cy)) (c5 3)) (c8 (vJ K) (c8 (dE (c9 fP (eV (jH K) [] E0 (cp (cq 0) (cp (tC (.int 1)) cy))) (c9 gj (gG iq (cp (cq 3) cy)) (tC (.int 1)))) (c5 6)) (c8 (dE (c9 jN (tC (.str "()[]{}+-?:=,a0B5 ")) (c9 fP (eV (jH K) [] E0 (cp (cq 0) (cp (tC (.int 2)) cy))) (tC (.int 17)))) (c5 7)) (c8 (pX K) (c8 (mJ K) (c8 (ko K) (c8 (km K) (e9 (cq 3))))))))))))
end R11
namespace R11
open PySem L2 SW
open S11 hiding Wd
variable {K:aA}{vs:List V}{H H₀:Hp}{Q:VK}{E:XK}
def m9(H:Hp)(Q:VK):Prop:=∀x H',dQ H H'→(cs x).length≤100000→S11.Rn (cs x)→Q (.str x) H'
theorem kB(hq:m9 H Q)(s:dQ H H')(hl:(cs x).length≤100000)(hr:Rm 500 (cs x)):Q (.str x) H':=hq x H' s hl hr
theorem vN(c:Nat):(⟨#[c]⟩:Str).length=1:=rfl
section
variable {z:Str}{k:Nat}{v0 v1 v2 v4 v5 v8:Option V}{c:Nat}
theorem BA(hq:m9 H₀ Q)(s:dQ H₀ H)(hk:k≤z.length)(hl:z.length≤50000)(hr:Rm 60 (cs z)):
  pW K (fC Q) [v0,v1,v2,some (.str z),v4,v5,some (.int k),some (.str ⟨#[c]⟩),v8] H:=by
 have h1:=sv hk;have h2:=pq hk;have l1:=congrArg List.length h1;have l2:=congrArg List.length h2;rw[ak,c4,c4]at l1;rw[aO,c4,c4]at l2;have zs:z.length≤sizeLine:=by rw[sizeLine_eq];omega
 refine⟨z,rfl,zs,by rw[vN,sizeLine_eq];omega,z,rfl,zs,?_,?_⟩
 ·have e:((Txt.slice z none (some (k:Int))++(⟨#[c]⟩:Str)):Str).length=(Txt.slice z none (some (k:Int))).length+1:=by rw[←c4,dF,aD,c4];rfl
  rw[e,sizeLine_eq];omega
 ·refine kB hq s ?_ ?_
  ·rw[dF,dF,aD,aD,c4,c4,c4,vN];omega
  ·rw[dF,dF,h1,h2];exact(((hr.take k).app (jK [c])).app (hr.drop (k+1))).le (by simp)
theorem A9(hq:m9 H₀ Q)(s:dQ H₀ H)(hk:k≤z.length)(hl:z.length≤50000)(hr:Rm 60 (cs z)):
  pV K (fC Q) [v0,v1,v2,some (.str z),v4,v5,some (.int k),some (.str ⟨#[c]⟩),v8] H:=by
 have h1:=sv hk;have h2:=pq hk;have l1:=congrArg List.length h1;have l2:=congrArg List.length h2;rw[ak,c4,c4]at l1;rw[aO,c4,c4]at l2;have zs:z.length≤sizeLine:=by rw[sizeLine_eq];omega
 refine⟨z,rfl,zs,z,rfl,zs,by rw[sizeLine_eq];omega,?_⟩;refine kB hq s ?_ ?_
 ·rw[dF,aD,c4,c4];omega
 ·rw[dF,h1,h2];exact((hr.take k).app (hr.drop (k+1))).le (by simp)
theorem zg(hq:m9 H₀ Q)(s:dQ H₀ H)(hk:k≤z.length)(hl:z.length≤50000)(hr:Rm 60 (cs z)):
  nI K (fC Q) [v0,v1,v2,some (.str z),v4,v5,some (.int k),some (.str ⟨#[c]⟩),v8] H:=by
 have h1:=sv hk;have h2:=pr hk;have l1:=congrArg List.length h1;have l2:=congrArg List.length h2;rw[ak,c4,c4]at l1;rw[aO,c4,c4]at l2;have zs:z.length≤sizeLine:=by rw[sizeLine_eq];omega
 refine⟨z,rfl,zs,by rw[vN,sizeLine_eq];omega,z,rfl,zs,?_,?_⟩
 ·have e:((Txt.slice z none (some (k:Int))++(⟨#[c]⟩:Str)):Str).length=(Txt.slice z none (some (k:Int))).length+1:=by rw[←c4,dF,aD,c4];rfl
  rw[e,sizeLine_eq];omega
 ·refine kB hq s ?_ ?_
  ·rw[dF,dF,aD,aD,c4,c4,c4,vN];omega
  ·rw[dF,dF,h1,h2];exact(((hr.take k).app (jK [c])).app (hr.drop k)).le (by simp)
end
theorem DK(h:jH K vs H Q E):AG K (fC Q) (start ["_law_script","_law_k"] vs) H:=by
 obtain⟨a,ns,i,rfl,ha,hQ⟩:=h;refine⟨.inl ha,_,rfl,?_⟩;refine gS (λhlt=>?_) (λ_=>hQ 0);have hlt:(i:Int)<((ns.map V.int).length:Int):=of_decide_eq_true hlt;rw[aV]at hlt;have hi:i<ns.length:=by omega
 exact⟨ha,cz (v:=V.int ns[i]) (by rw[al,ao hi];rfl),hQ _⟩
theorem BW(h:mR K vs H Q E):xo K (fC Q) (start ["_law_script","_law_most","_law_bound"] vs) H:=by obtain⟨s,xs,m,b,rfl,hs,hl,k⟩:=h;exact⟨.inl hs,_,rfl,du (decide_eq_false (by omega)) k⟩
def zm(H:Hp)(u:V):Prop:=∃p a b,u=.ref p∧H p=some (.lst [.str a,.str b])∧a.length≤6∧b.length≤6
def Mf(t:TA)(n:Nat):Prop:=∀(σ:St)(H:Hp)(Q:List V→Hp→Prop),(∀us H',dQ H H'→us.length=n→(∀u∈us,zm H' u)→Q us H')→t σ H Q
theorem zm.mono(s:dQ H H'):zm H u→zm H' u:=λ⟨p,a,b,e,h,l1,l2⟩=>⟨p,a,b,e,s _ _ h,l1,l2⟩
theorem ow:Mf cy 0:=λσ H Q k=>k [] H (λ_ _ h=>h) rfl λu h=>by cases h
theorem eZ{a b:Str}(l1:a.length≤6)(l2:b.length≤6)(r:Mf t n):Mf (cp (dh (cp (tC (.str a)) (cp (tC (.str b)) cy))) t) (n+1):=λσ H Q k=>
 ⟨fU,dZ λp H1 hp s1 g1=>r σ H1 _ λus H2 s2 hl hu=>k (.ref p::us) H2 (s1.trans s2) (by simp[hl]) λu h=>by
  rcases aF.mp h with rfl|h
  ·exact⟨p,a,b,rfl,s2 _ _ g1,l1,l2⟩
  ·exact hu u h⟩
theorem vR{r:TS}{D:fL}(m:Mf t n)(hn:n≤100)(k:∀p us H',dQ H H'→H' p=some (.lst us)→us.length=n→(∀u∈us,zm H' u)→r D (σ.set i (some (.ref p))) H'):
  (c8 (dE (dh t) (c5 i)) r) D σ H:=
 m σ H _ λus H1 s1 l1 f1=>⟨by rw[l1,sizeLine_eq];omega,dZ λp H2 h2 s2 g2=>k p us H2 (s1.trans s2) g2 l1 λu h=>(f1 u h).mono s2⟩
theorem pw{r:TS}{D:fL}(hv:∀H Q,Q (.ref p) H→cq i σ H Q)(g:H p=some (.lst us0))(f0:∀u∈us0,zm H u)(l0:us0.length=n0)(m:Mf t n)(hn:n0+n≤100)
  (k:∀p us H',dQ H H'→H' p=some (.lst us)→us.length=n0+n→(∀u∈us,zm H' u)→r D (σ.set j (some (.ref p))) H'):
  (c8 (dE (c9 h9 (cq i) (dh t)) (c5 j)) r) D σ H:=
 by
 show cq i σ H λx H1=>dh t σ H1 λy H2=>h9 x y H2 λv H3=>r D (σ.set j (some v)) H3;refine hv _ _ ?_;exact(m σ H _ λus H1 s1 l1 f1=>⟨by rw[l1,sizeLine_eq];omega,dZ λp H2 h2 s2 g2=>⟨s2 _ _ (s1 _ _ g),g2,by rw[l0,l1,sizeLine_eq];omega,dZ λp H3 h3 s3 g3=>
  k p _ H3 (s1.trans (s2.trans s3)) g3 (by rw[aD,l0,l1]) λu h=>(aS.mp h).elim (λh=>(f0 u h).mono (s1.trans (s2.trans s3))) λh=>(f1 u h).mono (s2.trans s3)⟩⟩)
theorem BB{D:fL}{z:Str}{a:Addr}{ns:List Int}{v1 v2 v4 v5 v6 v7 v8:Option V}(hq:m9 H₀ D.rt)(s:dQ H₀ H)(hs:dv K H₀ a (ns.map V.int))(hl:z.length≤50000)(hr:Rm 60 (cs z)):
  mK K D [some (.ref a),v1,v2,some (.str z),v4,v5,v6,v7,v8] H:=by
 unfold mK;refine vR (n:=6) (eZ (by decide) (by decide)<|eZ (by decide) (by decide)<|eZ (by decide) (by decide)<|eZ (by decide) (by decide)<|eZ (by decide) (by decide)<|eZ (by decide) (by decide) ow) (by decide) λp1 us1 H1 s1 g1 l1 f1=>?_;refine pw (n:=5) (λ_ _ h=>h) g1 f1 l1 (eZ (by decide) (by decide)<|eZ (by decide) (by decide)<|eZ (by decide) (by decide)<|eZ (by decide) (by decide)<|eZ (by decide) (by decide) ow) (by decide) λp2 us2 H2 s2 g2 l2 f2=>?_;refine pw (n:=5) (λ_ _ h=>h) g2 f2 l2 (eZ (by decide) (by decide)<|eZ (by decide) (by decide)<|eZ (by decide) (by decide)<|eZ (by decide) (by decide)<|eZ (by decide) (by decide) ow) (by decide) λp3 us H8 s3 g8 l3 f3=>?_;have sall:=s.trans (s1.trans (s2.trans s3));refine⟨a,ns,1,rfl,sall.seq hs,λn=>⟨(show(0:Int)<16 by decide),?_⟩⟩;obtain⟨i,hi,hi2⟩:∃i:Nat,n%16=(i:Int)∧i<16:=⟨(n%16).toNat,by omega,by omega⟩;obtain⟨u,hu⟩:∃u,us[i]?=some u:=⟨us[i]'(by omega),ao _⟩;obtain⟨p,x,y,rfl,hp,lx,ly⟩:=f3 u (bv hu);refine⟨dv.of g8,(by rw[hi];exact cz hu),?_⟩;refine⟨dv.of hp,cz (j:=0) rfl,by rw[sizeLine_eq];omega,dv.of hp,cz (j:=1) rfl,?_,?_⟩
 ·have e:((x++z):Str).length=x.length+z.length:=by rw[←c4,dF,aD,c4,c4]
  rw[e,sizeLine_eq];omega
 ·refine kB hq sall ?_ ?_
  ·rw[dF,dF,aD,aD,c4,c4,c4];omega
  ·rw[dF,dF];refine(((jK _).app hr).app (jK _)).le ?_;rw[c4,c4];omega
theorem w9(ns:List Int)(lo hi:Nat):∃ms:List Int,iE (ns.map V.int) (some (lo:Int)) (some (hi:Int))=ms.map V.int∧ms.length≤hi-lo:=by
 refine⟨(ns.drop (min lo ns.length)).take (min hi ns.length-min lo ns.length),?_,?_⟩
 ·unfold iE;rw[HT.BV,HT.BV,aV,List.map_take,List.map_drop]
 ·rw[ak];omega
def LP:List Str:=["a","xy","0","7","-","(",")","+","?",":","[a=","]","s{","}",",","-3"]
theorem Dr:∀w∈LP,w.length≤3:=by decide
theorem zH:LP.length=16:=rfl
theorem ng:∀ws:List Str,(∀w∈ws,w.length≤3)→((ws.map cs).flatten).length≤3*ws.length∧(ws.map (·.length)).sum≤3*ws.length
 | [],_=>by simp
 | w::ws,h=>by
  have:=ng ws λw hw=>h w (aa _ hw);have:=h w bK;simp only[af,List.flatten_cons,aD,c4,List.sum_cons,aC]
  omega
theorem BC{D:fL}{a:Addr}{ns:List Int}{v1 v2 v3 v4 v5 v6 v7 v8:Option V}(hq:m9 H₀ D.rt)(s:dQ H₀ H)(hs:dv K H₀ a (ns.map V.int)):
  mL K D [some (.ref a),v1,v2,v3,v4,v5,v6,v7,v8] H:=by
 unfold mL;refine⟨fU,dZ λp H1 h1 s1 g1=>?_⟩;replace g1:H1 p=some (.lst (LP.map V.str)):=g1;obtain⟨ms,em,hms⟩:=w9 ns 1 16;refine⟨rfl,(s.trans s1).seq hs,dZ λp2 H2 h2 s2 g2=>?_⟩;replace g2:H2 p2=some (.lst (ms.map V.int)):=g2.trans (by rw[←em];rfl);have g12:=s2 _ _ g1;have sall:=s.trans (s1.trans s2);refine⟨dv.of g2,λi m vs H'=>H'=H2∧m=ms.length-i∧i≤ms.length∧∃ws:List Str,vs=ws.map V.str∧ws.length=i∧∀w∈ws,w.length≤3,⟨_,rfl,rfl,aR _,[],rfl,rfl,λw h=>by cases h⟩,?_⟩;rintro i m vs H' ⟨rfl,rfl,hi,ws,rfl,hw,h3⟩;by_cases e:i=ms.length
 ·refine .inl ⟨⟨_,dv.of g2,by rw[aV];omega⟩,by rw[aV,sizeLine_eq];omega,dZ λp3 H3 _ s3 g3=>?_⟩;obtain⟨q1,q2⟩:=ng ws h3;refine⟨"",p3,ws,rfl,rfl,dv.of g3,?_,kB hq (sall.trans s3) ?_ ?_⟩
  ·rw[show("":Str).length=0 from rfl];omega
  ·rw[qU];omega
  ·rw[qU];exact(jK _).le (by omega)
 ·have hi':i<ms.length:=by omega
  refine .inr ⟨⟨_,.int ms[i],dv.of g2,by rw[al,ao hi'];rfl⟩,?_⟩;rintro x _ ⟨rfl,hx⟩;have hx:=hx _ (dv.of g2);rw[al,ao hi']at hx;obtain rfl:V.int ms[i]=x:=Option.some.inj hx;obtain⟨j,hj,hj2⟩:∃j:Nat,ms[i]%16=(j:Int)∧j<16:=⟨(ms[i]%16).toNat,by omega,by omega⟩;have hj3:j<LP.length:=by rw[zH];exact hj2
  refine⟨(show(0:Int)<16 by decide),dv.of g12,(show oF (LP.map V.str) (ms[i]%16)=some (V.str LP[j]) by rw[hj];exact cz (by rw[al,ao hj3];rfl)),?_⟩;refine⟨by rw[aV,sizeLine_eq];omega,_,(by omega:ms.length-(i+1)<ms.length-i),rfl,rfl,hi',ws++[LP[j]],by simp,by simp[hw],λw h=>?_⟩;rcases aS.mp h with h|h
  ·exact h3 w h
  ·rw[aT.mp h];exact Dr _ (List.getElem_mem _)
theorem A1{z:Str}{i:Int}(h0:0≤i)(h1:i<z.length):∃c,oF z.cps.toList i=some c:=by
 obtain⟨k,rfl⟩:∃k:Nat,i=(k:Int):=⟨i.toNat,by omega⟩;have h:k<z.cps.toList.length:=by have:=c4 z;unfold cs at this;omega
 exact⟨_,cz (ao h)⟩
section
variable {z:Str}{k:Nat}{v0 v1 v2 v4 v5 v8:Option V}{c:Nat}{w:Int}{D:fL}
theorem qm(hq:m9 H₀ Q)(s:dQ H₀ H)(hk:k≤z.length)(hl:z.length≤50000)(hr:Rm 60 (cs z)):
  (c8 (mJ K) (c8 (ko K) (c8 (km K) (e9 (cq 3))))) (fC Q) [v0,some (.int w),v2,some (.str z),v4,v5,some (.int k),some (.str ⟨#[c]⟩),v8] H:=by
 refine⟨rfl,_,rfl,gS (λ_=>?_) λ_=>?_⟩
 ·exact BA (K:=K) hq s hk hl hr
 refine⟨rfl,_,rfl,gS (λ_=>?_) λ_=>?_⟩
 ·exact A9 (K:=K) hq s hk hl hr
 refine⟨rfl,_,rfl,gS (λ_=>?_) λ_=>?_⟩
 ·exact zg (K:=K) hq s hk hl hr
 exact kB hq s (by rw[c4];omega) (hr.le (by decide))
end
theorem ud{a:Addr}{ns:List Int}{v2 v4 v5 v7 v8:Option V}{z:Str}{k:Nat}{w:Int}(hq:m9 H₀ Q)(s:dQ H₀ H)(hs:dv K H₀ a (ns.map V.int))(hk:k≤z.length)(hl:z.length≤50000)(hr:Rm 60 (cs z)):
  (c8 (dE (c9 jN (tC (.str "()[]{}+-?:=,a0B5 ")) (c9 fP (eV (jH K) [] E0 (cp (cq 0) (cp (tC (.int 2)) cy))) (tC (.int 17)))) (c5 7)) (c8 (pX K) (c8 (mJ K) (c8 (ko K) (c8 (km K) (e9 (cq 3))))))) (fC Q) [some (.ref a),some (.int w),v2,some (.str z),v4,v5,some (.int k),v7,v8] H:=by
 refine⟨a,ns,2,rfl,s.seq hs,λn=>⟨(show(0:Int)<17 by decide),?_⟩⟩;obtain⟨c,hc⟩:=A1 (z:="()[]{}+-?:=,a0B5 ") (i:=n%17) (by omega) (by rw[show(("()[]{}+-?:=,a0B5 ":Str)).length=17 from rfl];omega);refine⟨_,_,c,rfl,rfl,fU,hc,?_⟩;refine⟨a,ns,2,rfl,s.seq hs,λn=>⟨(show zn n 17 from⟨by decide,by decide⟩),(show(0:Int)<3 by decide),rfl,_,rfl,gS (λ_=>?_) λ_=>?_⟩⟩
 ·refine⟨fU,a,ns,2,rfl,s.seq hs,λn=>⟨_,rfl,fU,?_,?_⟩⟩
  ·show(0:Int)<_;decide
  ·obtain⟨c,hc⟩:=A1 (z:=("!\"#$&'()*+,-./0123456789:;<=>?@ABCDEFGHIJKLMNOPQRSTUVWXYZ"++"[\\]^_`abcdefghijklmnopqrstuvwxyz{|}~ ":Str)) (i:=n%(("!\"#$&'()*+,-./0123456789:;<=>?@ABCDEFGHIJKLMNOPQRSTUVWXYZ"++"[\\]^_`abcdefghijklmnopqrstuvwxyz{|}~ ":Str)).length) (bG _ (by decide)) (bh _ (by decide));refine⟨_,_,c,rfl,rfl,fU,hc,?_⟩;exact qm hq s hk hl hr
 ·exact qm hq s hk hl hr
theorem CM(h:kY K vs H Q E):AH K (fC Q) (start ["_law_script","_law_way","_law_pieces","_law_line","_law_frames","_law_pair","_law_place","_law_sign","_law_signs"] vs) H:=by
 obtain⟨a,ns,rfl,ha,hn,hQ⟩:=h;have hq:m9 H Q:=hQ;refine⟨a,ns,0,rfl,ha,λn0=>⟨(show(0:Int)<7 by decide),rfl,_,rfl,gS (λ_=>?_) λ_=>?_⟩⟩
 ·exact BC (D:=(fC Q).thn _) hq (λ_ _ h=>h) ha
 obtain⟨ms,em,hms⟩:=w9 ns 3 15;refine⟨a,_,_,_,rfl,ha,by rw[aV];exact hn,ha,dZ λp1 H1 h1 s1 g1=>?_⟩;replace g1:H1 p1=some (.lst (ms.map V.int)):=g1.trans (by rw[←em];rfl);refine⟨p1,ms,rfl,dv.of g1,by omega,λt v H2 s2 den wg sz _=>?_⟩;have wt:=zx wg;have l1:=gC (λ_ _=>mC) wt;have r1:=hZ (λ_ _=>mC) wt;refine .mk (iC den) (gl (λ_ _=>mC) wt) (by rw[hW];omega) (by omega) λH3 s3=>?_;have sall:=s1.trans (s2.trans s3);have hz:cs (sx (tx (iX t)))=tx (iX t):=eI;generalize sx (tx (iX t))=z at hz⊢;rw[←hz]at l1 r1;rw[c4]at l1;have hl:z.length≤50000:=by omega
 refine⟨_,rfl,gS (λ_=>?_) λ_=>?_⟩
 ·exact BB (D:=(fC Q).thn _) hq sall ha hl r1
 refine⟨a,ns,1,rfl,sall.seq ha,λn=>⟨z,rfl,by rw[sizeLine_eq];omega,(show(0:Int)<z.length+1 by omega),?_⟩⟩;obtain⟨k,hk,hk2⟩:∃k:Nat,n%((z.length:Int)+1)=(k:Int)∧k≤z.length:=⟨(n%((z.length:Int)+1)).toNat,by have:=bG n (show((z.length:Int)+1)≠0 by omega);omega,by have:=bh n (show(0:Int)<(z.length:Int)+1 by omega);omega⟩;have:=ud (K:=K) (v2:=none) (v4:=none) (v5:=none) (v7:=none) (v8:=none) (w:=n0%7) hq sall ha hk2 hl r1;rw[←hk]at this;exact this
end R11
namespace L2
open PySem PySem.Spec PyProof.Rows
section
variable {prog:Program}{w:World}{A:Around}{s:Shared}{R:Result→Shared→Prop}
theorem my(J:Nat→Shared→Prop)
  (jJ:∀n s,J n s→wpAny (model prog w) A (pyNext it) (λr s1=>match r with
   | none=>R (.ok .next) s1
   | some v=>wpAny (model prog w) A (letOwnedTupleGo tg it v) (λ_ s2=>wpAny (model prog w) A (assign tg env v) (λ_ s3=>wpAny (model prog w) A (forIn ifs true λc r=>if r=true then do let ok ← isTrue c env (eval c env);pure (ForInStep.yield ok)else pure (ForInStep.yield r)) (λok s6=>if ok=true then wpAny (model prog w) A (eval elt env) (λx s4=>
     wpAny (model prog w) A (call (.builtin "list.append") [acc,x]) (λ_ s5=>∃m,m<n∧J m s5) (notedBy (model prog w) A env λe s'=>R (.error e) s') s4) (notedBy (model prog w) A env λe s'=>R (.error e) s') s6 else ∃m,m<n∧J m s6) (notedBy (model prog w) A env λe s'=>R (.error e) s') s3) (notedBy (model prog w) A env λe s'=>R (.error e) s') s2) (notedBy (model prog w) A env λe s'=>R (.error e) s') s1) (notedBy (model prog w) A env λe s'=>R (.error e) s') s)
  (n:Nat) (h:J n s):codeAny (model prog w) A (.compLoop (.ListComp elt [⟨tg,iter,ifs,0⟩] scope pos) 0 it acc env) R s:=by
 refine codeAny_loop rfl J (λn s hJ=>?_) n h;show wpAny _ A ((compTurn (.ListComp elt [⟨tg,iter,ifs,0⟩] scope pos) 0 it acc env).onRaise (λx=>do noteFrame x env;theTreesLotGoes x)) _ _ s;refine wpAny_noted ?_;rw[compTurn_list];refine wpAny_bind (wpAny_standAt (wpAny_bind (wpAny_mono (jJ n s hJ) (λr s1 h1=>?_) λ_ _ z=>z)));cases r with
 | none=>exact wpAny_pure h1
 | some v=>
  refine wpAny_bind (wpAny_mono h1 (λ_ s2 h2=>wpAny_bind (wpAny_mono h2 (λ_ s3 h3=>wpAny_bind (wpAny_mono h3 (λok s6 h6=>?_) λ_ _ z=>z)) λ_ _ z=>z)) λ_ _ z=>z);cases ok with
  | false=>exact wpAny_pure ⟨rfl,h6⟩
  | true=>exact wpAny_bind (wpAny_bind (wpAny_mono h6 (λx s4 h4=>wpAny_bind (wpAny_mono h4 (λ_ s5 h5=>wpAny_pure (wpAny_pure ⟨rfl,h5⟩)) λ_ _ z=>z)) λ_ _ z=>z))
end
def Cj(X:Cx)(ifs:List Expr)(t:TT):Prop:=
 ∀(pins:List (Addr×Obj))(s:Shared)(σ:St)(H:Hp)(Q:Bool→Hp→Prop),dB X pins σ H s→t σ H Q→wpAny (model X.prog X.w) X.A (forIn ifs true λc r=>if r=true then do let ok ← isTrue c X.env (eval c X.env);pure (ForInStep.yield ok)else pure (ForInStep.yield r)) (TP X pins σ Q) X.xe s
def AJ:TT:=λ_ H Q=>Q true H
theorem vV:Cj X [] AJ:=λpins s σ H Q I h=>wpAny_tests_nil ⟨H,I,h⟩
def AM(k:Nat)(wi:TI)(g:TG)(tt:TT)(te:TE)(js:List Nat):TE:=λσ H Q=>wi σ H λJ H1=>∃W:Nat→Nat→List V→Hp→Prop,(∃m,W 0 m [] H1)∧∀i m vs H,W i m vs H→
 (J.stop i H∧vs.length≤sizeLine∧kR H (.lst vs) Q)∨
 (J.go i H∧∀x H',J.yld i H x H'→∀os:St,os.length=k→g x (os++wG σ js) H' λσ2 H2=>(∃os:St,os.length=k∧σ2=os++wG σ js)∧tt σ2 H2 λc H3=>if c=true then te σ2 H3 λy H''=>vs.length<sizeLine∧∃m',m'<m∧W (i+1) m' (vs++[y]) H'' else ∃m',m'<m∧W (i+1) m' vs H3)
theorem vy{use:Option (Value→Sem Unit)}{Q':Value→Shared→Prop}{cpos:Pos}{pins:List (Addr×Obj)}{s:Shared}{σ:St}{H:Hp}{Q:VK}(hc:X.calm=true)(S:jA X scope cl (x::xr) ys js)(hi:PI X tg iter wi)
  (hg:∀(fp:List Addr)(s:Shared)(H:Hp)(C:Addr),PG (fJ X scope cl (x::(xr++ys)) fp s H C) tg g)
  (ht:∀(fp:List Addr)(s:Shared)(H:Hp)(C:Addr),Cj (fJ X scope cl (x::(xr++ys)) fp s H C) ifs tt)
  (he:∀(fp:List Addr)(s:Shared)(H:Hp)(C:Addr),PE (fJ X scope cl (x::(xr++ys)) fp s H C) elt te) (hs:∀x,foldedSetIterable iter X.env x=pure x) (I:dB X pins σ H s) (h:AM (x::xr).length wi g tt te js σ H Q)
  (fC:∀(D C:Addr)(s2 s4:Shared)(H2 Hn:Hp),dB X pins σ H2 s2→s2.heap.objs.size≤C→(∃m,s4.heap.Ns C m)→Hn C=none→(∀h'',Heap.SameBut C s4.heap h''→dB X pins σ Hn {s4 with heap:=h''})→Q (.ref D) Hn→compPost (model X.prog X.w) X.A X.xe use Q' (.ref D) C (.ok .next) s4):
  wpAny (model X.prog X.w) X.A (comprehension (.ListComp elt [⟨tg,iter,ifs,0⟩] scope pos) scope X.env cpos (newList []) false (eval iter X.env) use) Q' X.xe s:=by
 refine wpAny_comprehension_free (use:=use) rfl hs S.clos S.kind S.names (thn (hi pins s σ H _ I h) λv s1 h1=>thn h1 λitv s2 h2=>?_);obtain⟨it,fp,tn,J,H2,e,I2,T,st2,f2,W,⟨m0,w0⟩,jJ⟩:=h2;subst e;have fpb:∀b∈fp,b<s2.heap.objs.size:=λb hb=>by obtain⟨o,e,_⟩:=T.obj _ _ st2 b hb;exact Heap.lt_size e
 refine wpAny_newObj_type (wpAny_newFunctionEnv S.ncell (by intro y hy;simp at hy) (λh₁ hns₁ hsb₁=>?_) S.kind);dsimp only at hns₁ hsb₁⊢;generalize hH2:s2.heap.push {cls:=.type "list",dict:=none,data:=.seq ([]:List Value).toArray}=G2 at hns₁ hsb₁⊢;have hC:G2.objs.size=s2.heap.objs.size+1:=by rw[←hH2,Heap.size_push]
 have hDC:s2.heap.objs.size≠G2.objs.size:=by rw[hC];exact aI (bO _)
 have hCle:s2.heap.objs.size≤G2.objs.size:=by rw[hC];exact aQ _
 have below:∀b,b<s2.heap.objs.size→b≠G2.objs.size∧b≠s2.heap.objs.size:=λb hb=>⟨by rw[hC];exact aI (Nat.lt_succ_of_lt hb),aI hb⟩;have old:∀b o,s2.heap.get? b=some o→h₁.get? b=some o:=λb o e=>hsb₁.extBut b o (below b (Heap.lt_size e)).1 (Heap.get?_push_of_some _ (hH2▸Heap.get?_push_of_some _ e));have hacc:h₁.get? s2.heap.objs.size=some (ji [] 0):=hsb₁.extBut _ _ hDC (Heap.get?_push_of_some _ (hH2▸Heap.get?_push_size _ rfl));have st4:tn 0 h₁:=T.keep _ _ _ st2 λb _ o e=>old b o e;have I4:=λ(t':Nat)(htk:s2.toks≤t')=>I2.compInT (t':=t') S f2 fpb hCle (aB _) hDC old hns₁ hacc htk;have loop:∀t':Nat,s2.toks≤t'→codeAny (model X.prog X.w) X.A (.compLoop (.ListComp elt [⟨tg,iter,ifs,0⟩] scope pos) 0 (.ref it) (.ref s2.heap.objs.size) (compEnvC scope cl G2.objs.size X.env))
   (compPost (model X.prog X.w) X.A X.xe use Q' (.ref s2.heap.objs.size) G2.objs.size) {s2 with heap:=h₁,toks:=t'}:=by
  intro t' htk;refine my (λn s'=>∃(i:Nat)(os:St)(H':Hp)(vs:List V)(dU:List Value)(c:Nat),os.length=(x::xr).length∧dB (fJ X scope cl (x::(xr++ys)) fp s2 H2 G2.objs.size) ((X.pn++pins)++[(s2.heap.objs.size,ji dU c)]) (os++wG σ js) H' s'∧tn i s'.heap∧(∀b∈fp,H' b=none)∧dS vs dU∧W i n vs H') ?_ m0
   ⟨0,List.replicate (x::xr).length none,H2,[],[],0,bw,I4 t' htk,st4,λb hb=>(f2 b hb).1,.nil,w0⟩
  rintro n s3 ⟨i,os,H3,vs,dU,c,hos,I3,st3,fr3,rv,w3⟩;have stat:∀{H':Hp}{its':List Value}{c':Nat},(∀b∈fp,H' b=none)→∀b∈fp,lS (fJ X scope cl (x::(xr++ys)) fp s2 H2 G2.objs.size) ((X.pn++pins)++[(s2.heap.objs.size,ji its' c')]) H' b:=λhn b hb=>by
   obtain⟨_,h1,h2,h3,h4,h5⟩:=f2 b hb;refine⟨hn b hb,(below b (fpb b hb)).1,I2.nostk h1 h2,.inl hb,λy c e=>h4 y c (S.cells y c e),λp hp=>?_⟩;rcases aS.mp (show p∈(X.pn++pins)++[(s2.heap.objs.size,_)]from hp)with z|z
   ·exact h5 p z
   ·rw[aT]at z;subst z;exact ai (below b (fpb b hb)).2
  rcases jJ i n vs H3 w3 with⟨stop,hz,q⟩|⟨go,step⟩
  ·refine thn (T.done (fJ X scope cl (x::(xr++ys)) fp s2 H2 G2.objs.size) rfl rfl rfl hc i _ s3 _ H3 _ I3 (stat fr3) st3 stop) λr s4 ⟨hr,I5⟩=>?_;subst hr;obtain⟨mm,hn,_⟩:=I5.loc;have pD:=(I5.pin _ (aP _ (aP _ (aT.mpr rfl)))).2.1;exact fC _ _ s2 s4 H2 _ I2 hCle ⟨mm,hn⟩ (by rw[dN (ai hDC)];exact I5.free) (λh'' hs''=>I2.compOut f2 hCle (aB _) hDC I5 (aP _ (aT.mpr rfl)) rv hz hs'') (q _ pD)
  ·refine thn (T.item (fJ X scope cl (x::(xr++ys)) fp s2 H2 G2.objs.size) rfl rfl rfl hc i _ s3 _ H3 _ I3 (stat fr3) st3 go) λr s4 ⟨u,hr,h4⟩=>?_;subst hr;refine thn h4 λ_ s5 ⟨xv,H5,I5,r5,y5,st5,fr5⟩=>?_;have I5':=I5.pinned (stat fr5) (T.obj _ _ st5);refine wpAny_mono (hg fp s2 H2 G2.objs.size _ s5 _ H5 xv u _ I5' r5 (step xv H5 y5 os hos)) (λ_ s6 ⟨σ6,H6,I6,⟨ps,hps,e6⟩,h6⟩=>?_) (λ_ _ z=>False.elim z);subst e6;refine wpAny_mono (ht fp s2 H2 G2.objs.size _ s6 _ _ _ I6 h6) (λok s6 ⟨H6,I6,h6⟩=>?_) (λ_ _ z=>False.elim z);cases ok with
   | false=>
    obtain⟨m',hm,w7⟩:=h6;have I7a:dB (fJ X scope cl (x::(xr++ys)) fp s2 H2 G2.objs.size) ((X.pn++pins)++[(s2.heap.objs.size,ji dU c)]) (ps++wG σ js) H6 s6:=I6.pins_of λp hp=>I6.pin p (aP _ (aj _ hp));have pfp:∀b∈fp,∀o,s5.heap.get? b=some o→s6.heap.get? b=some o∧H6 b=none:=λb hb o e=>by have z:=I6.pin (b,o) (aP _ (aP _ (iQ hb e)));exact⟨z.1,z.2.1⟩
    refine⟨m',hm,i+1,ps,H6,vs,dU,c,hps,I7a,T.keep _ _ _ st5 λb hb o e=>(pfp b hb o e).1,λb hb=>?_,rv,w7⟩;obtain⟨o,e,_⟩:=T.obj _ _ st5 b hb;exact(pfp b hb o e).2
   | true=>
   have h6:=h6;refine wpAny_mono (he fp s2 H2 G2.objs.size _ s6 _ _ _ I6 h6) (λy s7 ⟨yv,H7,I7,r7,hz,m',hm,w7⟩=>?_) (λ_ _ z=>False.elim z);have mD:(s2.heap.objs.size,ji dU c)∈(X.pn++pins)++[(s2.heap.objs.size,ji dU c)]:=aP _ (aT.mpr rfl);have pD:=I7.pin (s2.heap.objs.size,ji dU c) (aP _ (aj _ mD));have pfp:∀b∈fp,∀o,s5.heap.get? b=some o→s7.heap.get? b=some o∧H7 b=none:=λb hb o e=>by have z:=I7.pin (b,o) (aP _ (aP _ (iQ hb e)));exact⟨z.1,z.2.1⟩
   refine append_at pD.1 (λh8 hs8 hD8=>?_) (by rw[aK,←rv.length];exact bE hz);have I7a:dB (fJ X scope cl (x::(xr++ys)) fp s2 H2 G2.objs.size) (X.pn++pins) (ps++wG σ js) H7 s7:=I7.pins_of λp hp=>I7.pin p (aP _ (aj _ (aj _ hp)));have I8:=I7a.turned (t':=s7.toks) (it:=s2.heap.objs.size) (λb o hb e=>(hs8.2 b hb).trans e) pD.2.1 pD.2.2.1 (.inr (aB _)) (λz cc e=>by
     obtain⟨v,o,e1,e2⟩:=I2.cell z cc (S.cells z cc e);exact aI (Heap.lt_size e1)) (λp hp=>by
     obtain⟨e1,_⟩:=I2.pin p hp;exact aI (Heap.lt_size e1))
   refine⟨m',hm,i+1,ps,H7,vs++[yv],dU++[y],c+1,hps,I8.pins_of λp hp=>?_,?_,λb hb=>?_,dS.append rv (.cons r7 .nil),w7⟩
   ·rcases aS.mp hp with z|z
    ·exact I8.pin p (aP _ z)
    ·rw[aT]at z;subst z;refine⟨?_,pD.2.1,pD.2.2.1,pD.2.2.2.1,λv z=>by cases(show Data.seq _ _=Data.cell v from z)⟩;rw[show ji (dU++[y]) (c+1)={cls:=.type "list",data:=.seq (dU.toArray.push y) (c+1)} by unfold ji;rw[List.push_toArray]];exact hD8
   ·exact T.keep _ _ _ st5 λb hb o e=>(hs8.2 b (aI (fpb b hb))).trans (pfp b hb o e).1
   ·obtain⟨o,e,_⟩:=T.obj _ _ st5 b hb;exact(pfp b hb o e).2
 exact codeAny_compStart_list (loop _ (by first|exact aB _|exact aQ _|exact aM _ _)) (T.self _ 0 _ _ _ st4 (loop _ (by first|exact aB _|exact aQ _|exact aM _ _)))
theorem y4(hc:X.calm=true)(S:jA X scope cl (x::xr) ys js)(hi:PI X tg iter wi)
  (hg:∀(fp:List Addr)(s:Shared)(H:Hp)(C:Addr),PG (fJ X scope cl (x::(xr++ys)) fp s H C) tg g)
  (ht:∀(fp:List Addr)(s:Shared)(H:Hp)(C:Addr),Cj (fJ X scope cl (x::(xr++ys)) fp s H C) ifs tt)
  (he:∀(fp:List Addr)(s:Shared)(H:Hp)(C:Addr),PE (fJ X scope cl (x::(xr++ys)) fp s H C) elt te) (hs:∀x,foldedSetIterable iter X.env x=pure x:=by intro _;rfl):
  PE X (.ListComp elt [⟨tg,iter,ifs,0⟩] scope pos) (AM (x::xr).length wi g tt te js):=by
 intro pins s σ H Q I h;rw[eval_ListComp];exact vy hc S hi hg ht he hs I h λD C s2 s4 H2 Hn I2 hC hn hCn hI q=>hn.elim λm hn=>⟨m,hn,λh'' hs''=>⟨.ref D,_,hI h'' hs'',rfl,q⟩⟩
def Df(wi:TI):TI:=λσ H R=>∃R0,wi σ H R0∧∀J H',R0 J H'→R J H'
theorem AT(h:PI X tg iter wi):PI X tg iter (Df wi):=λpins s σ H R I ⟨R0,h1,h2⟩=>
 thn (h pins s σ H R0 I h1) λv s1 h3=>thn h3 λitv s2 ⟨it,fp,tn,J,H',e,I',T,st,f,r⟩=>⟨it,fp,tn,J,H',e,I',T,st,f,h2 _ _ r⟩
theorem y6(hc:X.calm=true)(S:jA X scope cl [x] ys js)(hi:PI X (.Name x px) iter wi)
  (he:∀(fp:List Addr)(s:Shared)(H:Hp)(C:Addr),PE (fJ X scope cl (x::ys) fp s H C) elt te) (nd:(x::ys).Nodup:=by decide) (loc:scope.names.lookup x=some .local:=by rfl) (hs:∀x,foldedSetIterable iter X.env x=pure x:=by intro _;rfl):
  PE X (.ListComp elt [⟨.Name x px,iter,[],0⟩] scope pos) (Cw wi te js):=by
 intro pins s σ H Q I h;refine y4 (xr:=[]) hc S (AT hi) (λfp s H C=>qK (i:=0) nd rfl (ae (lookup_relabel_local loc)) (.inr (lookup_relabel_local loc))) (λfp s H C=>vV) he hs pins s σ H Q I ⟨_,h,λJ H1 z=>?_⟩;obtain⟨W,w0,jJ⟩:=z;refine⟨W,w0,λi m vs H w=>(jJ i m vs H w).imp id λz=>⟨z.1,λx H' y os hos=>?_⟩⟩
 match os,hos with
 | [o],_=>have q:=z.2 x H' y;refine⟨⟨[some x],rfl,rfl⟩,?_⟩;unfold AJ;dsimp only;rw[if_pos rfl];exact q
theorem zV{L:List (Str×NameKind)}{cl:List (Str×Addr)}{y:Str}(hL:∀p∈L,p.2=.cell∨p.2=.free→∃c,cl.lookup p.1=some c)(h:L.lookup y=some .cell∨L.lookup y=some .free):∃c,cl.lookup y=some c:=by
 have key:∀{k:NameKind}{L:List (Str×NameKind)},L.lookup y=some k→(y,k)∈L:=by
  intro k L;induction L with
  | nil=>intro h;cases h
  | cons p L ih=>
   intro h;rw[List.lookup_cons]at h;cases e:y==p.1 with
   | true=>rw[e]at h;cases h;have:=eq_of_beq e;subst this;exact .head _
   | false=>rw[e]at h;exact .tail _ (ih h)
 rcases h with h|h
 ·exact hL _ (key h) (.inl rfl)
 ·exact hL _ (key h) (.inr rfl)
end L2
namespace HT
open PySem PyProof.Rows
section
open PySem.SeqAt
open PySem.MeetsSeq PySem.MeetsSeq2 PySem.MeetsSeq3
variable {prog:Program}{w:World}{A:Around}{E:Value→Shared→Prop}{s:Shared}
end
end HT
namespace L2
open PySem PySem.Spec PyProof.Rows
section
variable {X:Cx}
end
def fb(K:aA)(x qual:Str)(st:Stmt)(f:Addr):Prop:=∃fd,ug K x qual st f fd
theorem CQ{K:aA}{x qual:Str}{st:Stmt}{f:Addr}{oc:Value}{od an:Option Addr}{osl:Array (Option Value)}{kV doc pm cdv ct:Value}(l:K.lookup f=some ⟨oc,od,.func (PySem.W.fnOf x qual (gn st) (e8 st) (dH st) .none kV doc pm an cdv ct),osl⟩)
  (c:PySem.W.codeIn K cdv qual=true) (k:PySem.W.keepIn K (.ref f)=true):fb K x qual st f:=⟨_,zW l c k⟩
structure Ds(P:Program)(w:World)(K:aA)(mg:Str→Option Value)(base:Heap)(k:Nat)(f:Addr)(ps:List Str)(sp:Sp):Prop where
 ex:∃fd,hU P w K mg base oM k f fd ps sp∧gO K fd ps []
 kp:PySem.W.keepIn K (.ref f)=true
section
variable {P:Program}{w:World}{K:aA}{mg:Str→Option Value}{base:Heap}{x qual:Str}{st:Stmt}{f:Addr}{N ps:List Str}{k:Nat}{sp sp':Sp}
theorem nB(F:fb K x qual st f)
  (hbody:∀(cdv:Value)(A:Around)(outer:List Env)(s:Shared)(H:Hp)(vs:List V)(Q:VK)(E:XK),N.Nodup→eQ k (A.deeper (envOfC qual (dH st) s.heap.objs.size f cdv))→sp vs H Q E→
   ∃t,kU (gH oM P w K mg base N qual (dH st) f cdv A outer s H E).nox (e8 st) t∧t {nx:=λ_ H'=>Q .non H',rt:=Q} (start N vs) H)
  (S:gp N ps (dH st):=by exact⟨rfl,rfl,rfl,by decide,rfl,by decide,by decide⟩)
  (hb:∀(kV doc pm:Value)(an:Option Addr)(cdv ct:Value)(us:List Value),us.length=ps.length→bindArgs (PySem.W.fnOf x qual (gn st) (e8 st) (dH st) .none kV doc pm an cdv ct) ⟨us,[]⟩=pure (ps.zip us):=by intro _ _ _ _ _ _ us hl;first|(match us,hl with|[_],_=>rfl)|(match us,hl with|[_,_],_=>rfl)|(match us,hl with|[_,_,_],_=>rfl)|(match us,hl with|[_,_,_,_],_=>rfl))
  (len:∀vs H Q E,sp vs H Q E→vs.length=ps.length:=by intro vs H Q E h;first|(cases h;rfl;done)|(repeat (first|(obtain⟨rfl,_⟩:=h;rfl)|obtain⟨_,h⟩:=h))):Ds P w K mg base (k+1) f ps sp:=by
 obtain⟨fd,F⟩:=F;exact⟨⟨fd,F.ok S len λcdv A outer s H vs Q E=>hbody cdv A outer s H vs Q E S.nd,F.binds hb⟩,F.kp⟩
theorem Dk(F:ug K x qual st f fd)
  (hbody:∀(cdv:Value)(A:Around)(outer:List Env)(s:Shared)(H:Hp)(vs:List V)(Q:VK)(E:XK),N.Nodup→eQ k (A.deeper (envOfC qual (dH st) s.heap.objs.size f cdv))→sp vs H Q E→
   ∃t,kU (gH oM P w K mg base N qual (dH st) f cdv A outer s H E).nox (e8 st) t∧t {nx:=λ_ H'=>Q .non H',rt:=Q} (start N vs) H)
  (S:gp N ps (dH st):=by exact⟨rfl,rfl,rfl,by decide,rfl,by decide,by decide⟩)
  (len:∀vs H Q E,sp vs H Q E→vs.length=ps.length:=by intro vs H Q E h;first|(cases h;rfl;done)|(repeat (first|(obtain⟨rfl,_⟩:=h;rfl)|obtain⟨_,h⟩:=h))):hU P w K mg base oM (k+1) f fd ps sp:=
 F.ok S len λcdv A outer s H vs Q E=>hbody cdv A outer s H vs Q E S.nd
end
section
variable {X:Cx}{k n:Nat}{f C:Addr}{ps:List Str}{sp:Sp}{x m:Str}{e a b o:Expr}{es:List Expr}{t:TA}{ta tb te:TE}{p pos apos:Pos}
theorem pc(D:Ds X.prog X.w X.K X.mg X.base k f ps sp)(hr:eQ n X.A)(hm:X.mg x=some (.ref f))(ha:PA X (e::es) t)(hk:k≤n:=by decide)(hg:Gl X x:=by rfl)(hdb:(x==("__debug__":Str))=false:=by decide)(he:starEach (e::es) X.env=(false,eval e X.env)::starEach es X.env:=by rfl)(hpl:(backTo pos (starEach es X.env)).any (·.1)=false:=by rfl):
  PE X (.Call (.Name x p) (e::es) [] pos) (eV sp [] E0 t):=by
 obtain⟨⟨fd,F,bd⟩,kp⟩:=D;exact vd F (hr.mono hk) hg hm kp bd .nil tX ha hdb he hpl
theorem pm(he:PE X o ta)(c:oK X.K C)(hm:fT X.K C m f)(D:Ds X.prog X.w X.K X.mg X.base k f ps sp)(hr:eQ n X.A)(ha:PA X (e::es) t)(hk:k≤n:=by decide)
  (hst:starEach (e::es) X.env=(false,eval e X.env)::starEach es X.env:=by rfl) (hpl:(backTo pos (starEach es X.env)).any (·.1)=false:=by rfl)
  (ht:eval (.Call (.Attribute o m apos) (e::es) [] pos) X.env=(do
   let ov ← eval o X.env
   standAt apos.atName
   let (f,first) ← holding [ov] (getMethod ov m pl)
   callWith pos f first (backTo pos (starEach (e::es) X.env)) (backToKw pos (keywordEach [] X.env))):=by rfl):PE X (.Call (.Attribute o m apos) (e::es) [] pos) (eB C m sp [] E0 ta t):=by
 obtain⟨⟨fd,F,bd⟩,kp⟩:=D;exact qL he c hm F (hr.mono hk) bd .nil tX ha hst hpl ht
theorem pk(M:Mk X.K C f)(D:Ds X.prog X.w X.K X.mg X.base k f ps sp)(hr:eQ n X.A)(hm:X.mg x=some (.ref C))(ha:PA X (e::es) t)(hk:k+1≤n:=by decide)(hg:Gl X x:=by rfl)(hdb:(x==("__debug__":Str))=false:=by decide)(he:starEach (e::es) X.env=(false,eval e X.env)::starEach es X.env:=by rfl)(hpl:(backTo pos (starEach es X.env)).any (·.1)=false:=by rfl):
  PE X (.Call (.Name x p) (e::es) [] pos) (si C sp [] E0 t):=by
 obtain⟨⟨fd,F,bd⟩,kp⟩:=D;exact vb M F (hr.mono hk) hg hm bd .nil tX ha hdb he hpl
theorem xT(ha:PE X a ta)(hb:PE X b tb)(hs:m7 b:=by exact λ_ _=>rfl):PE X (.Subscript a b pos) (c9 (ef X.K) ta tb):=iB zR ha hb hs
theorem xL(ha:PE X a ta)(hb:PE X b tb)(hs:m7 b:=by exact λ_ _=>rfl):PE X (.Subscript a b pos) (c9 (gA X.K) ta tb):=iB wA ha hb hs
theorem sN(i:Nat)(nd:X.N.Nodup)(hx:uf X.env.scope x)(he:PE X e te)(hi:X.N[i]?=some x:=by rfl)(hs:swapsWith e (some (.Name x pos')) pos.line X.env=pure false:=by rfl)(hf:X.fn x=true∨X.env.scope.names.lookup x=some .local:=by first|exact .inl rfl|exact .inr rfl):PS X (.Assign [.Name x pos'] e pos) (dE te (c5 i)):=yt nd hi hx he hs hf
theorem qt(ho:jq X (compareOp op) r)(ha:PE X a ta)(hb:PE X b tb)(h:op≠.In:=by decide)(h2:op≠.NotIn:=by decide):PT X (.Compare a [op] [b] pos) (dG (c9 r ta tb)):=iN ho ha hb (t0 b h h2)
theorem qe(ho:jq X (compareOp op) r)(ha:PE X a ta)(hb:PE X b tb)(h:op≠.In:=by decide)(h2:op≠.NotIn:=by decide):PE X (.Compare a [op] [b] pos) (c9 r ta tb):=kb ho ha hb (t0 b h h2)
theorem dr(h:PE X e te)(hs:starEach [e] X.env=(false,eval e X.env)::starEach [] X.env:=by rfl):PA X [e] (cp te cy):=c7 h ij hs
theorem eO(h:PE X e te)(h2:PE X a ta)(hs:starEach [e,a] X.env=(false,eval e X.env)::starEach [a] X.env:=by rfl)(hs2:starEach [a] X.env=(false,eval a X.env)::starEach [] X.env:=by rfl):PA X [e,a] (cp te (cp ta cy)):=c7 h (dr h2 hs2) hs
variable {body:List Stmt}{ts:TS}
theorem wq(i:Nat)(hN:X.N[i]?=some x)(k:(∀{pos:Pos},PE X (.Name x pos) (cq i))→kU X body ts)(hv:Be X.env.scope x:=by first|exact ae rfl|exact au (ae rfl)|exact au (au rfl))(hd:(x==("__debug__":Str))=false:=by decide)(hcd:(x==("__classdict__":Str))=false:=by decide):kU X body ts:=k (λ{pos}=>tS hN hv hd hcd)
theorem wh(i:Nat)(hi:X.N[i]?=some x)(nd:X.N.Nodup)(k:uf X.env.scope x→(∀{pos:Pos},PG X (.Name x pos) (c5 i))→kU X body ts)(hx:uf X.env.scope x:=by first|exact ae rfl|exact au rfl)
  (hf:X.fn x=true∨X.env.scope.names.lookup x=some .local:=by first|exact .inl rfl|exact .inr rfl):kU X body ts:=k hx (λ{pos}=>qK (i:=i) nd hi hx hf)
end
def yw(s:Shared):Shared:={s with toks:=max 1 s.toks}
def Cx.up(X:Cx):Cx:={X with s₀:=yw X.s₀}
section
variable {X Y:Cx}{pins:List (Addr×Obj)}{σ:St}{H:Hp}{s s':Shared}
theorem Cx.Ok.up(ok:X.Ok):X.up.Ok:=⟨ok.mod,ok.kind,ok.glob,ok.blt,ok.above,ok.inj,ok.has,ok.cab,ok.hd,ok.frames,ok.stk,ok.exf,ok.bs,ok.bsz,ok.noex,ok.exfs,ok.funs,ok.frf⟩
theorem dB.up(I:dB X pins σ H s)(h:0<s.toks):dB X.up pins σ H s:=⟨I.ok.up,I.os,I.bare,I.base,I.loc,I.cell,I.free,I.freeC,I.pin,I.hok,I.len,Nat.max_le.mpr ⟨h,I.tk⟩⟩
theorem dB.down(ok:X.Ok)(I:dB X.up pins σ H s):dB X pins σ H s:=⟨ok,I.os,I.bare,I.base,I.loc,I.cell,I.free,I.freeC,I.pin,I.hok,I.len,aE (Nat.le_max_right _ _) I.tk⟩
theorem SP.down(ok:X.Ok)(h:SP X.up pins D f s'):SP X pins D f s':=by
 cases f with
 | next=>obtain⟨σ',H',I,q⟩:=h;exact⟨σ',H',I.down ok,q⟩
 | brk=>obtain⟨σ',H',I,q⟩:=h;exact⟨σ',H',I.down ok,q⟩
 | cont=>obtain⟨σ',H',I,q⟩:=h;exact⟨σ',H',I.down ok,q⟩
 | ret u=>obtain⟨v,σ',H',I,r,q⟩:=h;exact⟨v,σ',H',I.down ok,r,q⟩
def BE(X Y:Cx)(e:Expr)(t:TE):Prop:=∀(pins:List (Addr×Obj))(s:Shared)(σ:St)(H:Hp)(Q:VK),dB X pins σ H s→t σ H Q→wpAny (model X.prog X.w) X.A (eval e X.env) (EP Y pins σ Q) X.xe s
def xB(X:Cx)(st:List Stmt)(t:TS):Prop:=∀(pins:List (Addr×Obj))(s:Shared)(σ:St)(H:Hp)(D:fL),dB X pins σ H s→t D σ H→wpAny (model X.prog X.w) X.A (execs st X.env) (SP X.up pins D) X.xe s
theorem xB.pss{b:List Stmt}{t:TS}(h:xB X b t):kU X b t:=λpins s σ H D I hw=>thn (h pins s σ H D I hw) λ_ _ q=>q.down I.ok
theorem xB.nox{b:List Stmt}{t:TS}(h:xB X.nox b t):xB X b t:=λpins s σ H D I hw=>
 wpAny_mono (h pins s σ H D (I.wish _) hw) (λ_ _ q=>SP.unwish (X:=X.up) (E:=λ_ _=>False) q) λ_ _ z=>False.elim z
theorem vZ:BE X X.up (.Constant (.str x) j pos) (tC (.str x)):=λ_ _ _ H _ I h=>Calls.Constant_str ⟨.str x,H,(I.tok _).up (Nat.succ_pos _),⟨_,rfl⟩,h⟩
theorem qE{e:Expr}{te:TE}{u:TS}{rest:List Stmt}{pos pos':Pos}(i:Nat)(hN:X.N.Nodup)(hx:uf X.env.scope x)(he:BE X X.up e te)(hr:kU X.up rest u)(hi:X.N[i]?=some x:=by rfl)(hs:swapsWith e (some (.Name x pos')) pos.line X.env=pure false:=by rfl)(hf:X.fn x=true∨X.env.scope.names.lookup x=some .local:=by first|exact .inl rfl|exact .inr rfl):
  xB X (.Assign [.Name x pos'] e pos::rest) (c8 (dE te (c5 i)) u):=by
 intro pins s σ H D I h;refine wpAny_execs_cons (thn (wpAny_Assign_Name (Q:=SP X.up pins (D.thn u)) (thn (he pins s σ H _ I h) λv s1 ⟨y,H1,I1,r1,q1⟩=>ia (X:=X.up) I1 hN hi hx r1 (λs2 I2=>⟨_,H1,I2,q1⟩) hf) hs) λf s1 q=>?_);cases f with
 | next=>obtain⟨σ',H',I',q⟩:=q;exact hr pins s1 σ' H' D I' q
 | ret v=>exact q
 | brk=>exact q
 | cont=>exact q
theorem mE:0<X.up.s₀.toks:=aH Nat.one_pos (Nat.le_max_left _ _)
theorem je{o:Expr}{to:TE}{apos cpos p1 p2:Pos}{y z:Str}(hp:0<Y.s₀.toks)(ho:BE X Y o to)(hne:(y==z)=false:=by decide)(m:M2 X o "replace" apos (.Constant (.str y) j1 p1) (.Constant (.str z) j2 p2) cpos:=by exact⟨rfl,rfl,rfl,rfl⟩):
  BE X Y (.Call (.Attribute o "replace" apos) [.Constant (.str y) j1 p1,.Constant (.str z) j2 p2] [] cpos) (hV to y z):=by
 intro pins s σ H Q I h;refine wpAny_Call_method m.base m.few m.line cN cn PySem.F.type_str_replace (thn (ho pins s σ H _ I h) λu s1 ⟨x,H1,I1,rx,q1⟩=>?_);obtain⟨w,rfl,hz,hr,q⟩:=onS.ex q1;obtain⟨t,rfl⟩:=rx;refine⟨typeIs_str s1 w t,(λ_ e=>(by cases e)),?_⟩;rw[m.trees];refine Calls.callWith_builtin rfl (Calls.evalArgs_plain (Calls.spliced_cons (Calls.Constant_str (Calls.spliced_cons (Calls.Constant_str (Calls.spliced_nil ?_))))));have hp1:0<s1.toks:=aH hp I1.tk;refine call_gives cn (typeIs_str _ w t) PySem.F.entry_str_replace (PySem.F.args_str_replace_3 _ _ _) (gives_str_replace w y z t s1.toks (s1.toks+1) λ_=>⟨?_,?_,hne,?_⟩) ?_
 ·have:s1.toks≠0:=by omega
  simp[this]
 ·simp
 ·have:=StrLaws.occ_length_le w y 0 w.length (w.length+1);have:=ck z.length this;unfold Builtin.Str.tooLong;exact decide_eq_false (by omega)
 ·unfold PySem.Txt.replace at q hr;split
  ·rename_i e;rw[if_pos e]at q;exact⟨.str w,H1,I1.tok _ (by show s1.toks≤s1.toks+1+1;omega),⟨t,rfl⟩,q⟩
  ·rename_i e;rw[if_neg e]at q hr;exact⟨hr,.str _,H1,I1.tok _ (by show s1.toks≤s1.toks+1+1+1;omega),⟨_,rfl⟩,q⟩
theorem gk{o:Expr}{to:TE}{apos cpos p1 p2:Pos}{y z:Str}(ho:PE X.up o to)(hne:(y==z)=false:=by decide)(m:M2 X.up o "replace" apos (.Constant (.str y) j1 p1) (.Constant (.str z) j2 p2) cpos:=by exact⟨rfl,rfl,rfl,rfl⟩):
  PE X.up (.Call (.Attribute o "replace" apos) [.Constant (.str y) j1 p1,.Constant (.str z) j2 p2] [] cpos) (hV to y z):=je mE ho hne m
end
structure Dp(P:Program)(w:World)(K:aA)(mg:Str→Option Value)(base:Heap)(k:Nat)(f:Addr)(ps:List Str)(sp:Sp):Prop where
 len:∀vs H Q E,sp vs H Q E→vs.length=ps.length
 ex:∃fd,gO K fd ps []∧∀(A:Around)(outer:List Env)(s:Shared)(H:Hp)(args:Args)(us:List Value)(vs:List V)(Q:VK)(E:XK),eQ k A→oI P w K mg base A outer s H→BindsTo s fd args (ps.zip us)→dS vs us→sp vs H Q E→
  codeAny (model P w) A (.call (.ref f) args) (CR oM outer P w H (yw s) Q E) s
 kp:PySem.W.keepIn K (.ref f)=true
section
variable {P:Program}{w:World}{K:aA}{mg:Str→Option Value}{base:Heap}{x qual:Str}{st:Stmt}{f:Addr}{N ps:List Str}{k:Nat}{sp sp':Sp}
theorem Dj(F:fb K x qual st f)
  (hbody:∀(cdv:Value)(A:Around)(outer:List Env)(s:Shared)(H:Hp)(vs:List V)(Q:VK)(E:XK),N.Nodup→eQ k (A.deeper (envOfC qual (dH st) s.heap.objs.size f cdv))→sp vs H Q E→
   ∃t,xB (gH oM P w K mg base N qual (dH st) f cdv A outer s H E).nox (e8 st) t∧t {nx:=λ_ H'=>Q .non H',rt:=Q} (start N vs) H)
  (S:gp N ps (dH st):=by exact⟨rfl,rfl,rfl,by decide,rfl,by decide,by decide⟩)
  (hb:∀(kV doc pm:Value)(an:Option Addr)(cdv ct:Value)(us:List Value),us.length=ps.length→bindArgs (PySem.W.fnOf x qual (gn st) (e8 st) (dH st) .none kV doc pm an cdv ct) ⟨us,[]⟩=pure (ps.zip us):=by intro _ _ _ _ _ _ us hl;(match us,hl with|[_],_=>rfl))
  (len:∀vs H Q E,sp vs H Q E→vs.length=ps.length:=by intro vs H Q E h;first|(cases h;rfl;done)|(repeat (first|(obtain⟨rfl,_⟩:=h;rfl)|obtain⟨_,h⟩:=h))):Dp P w K mg base (k+1) f ps sp:=by
 obtain⟨fd,F⟩:=F;refine⟨len,⟨fd,F.binds hb,?_⟩,F.kp⟩;obtain⟨oc,od,kV,doc,pm,an,cdv,ct,osl,rfl,lk,hcd⟩:=F.ex;intro A outer s H args us vs Q E hr e0 hb r hsp;have hl:=len _ _ _ _ hsp;have KX:K.In s.heap:=e0.mod.kin.keeps λb o e=>(e0.bs b o e).1;have lim:s.heap.NoLimit:=e0.mod.nolimit.keeps λb o e=>(e0.bs b o e).1;have hkind:∀y∈ps.zip us,(dH st).names.lookup y.1=some .local∨((dH st).names.lookup y.1=some .cell∧((cellsFrom (s.heap.objs.size+1) (dH st).names []).lookup y.1).isSome=true):=λ⟨n,v⟩ hy=>by
  rcases S.par n (ba hy).1 with q|q
  ·exact .inl q
  ·exact .inr ⟨q,br _ _ _ (.inl q)⟩
 refine codeAny_call_function hr.depth (KX _ _ lk) rfl S.co S.gen rfl (PySem.W.codeRec_of KX hcd) (hb _ _ _ _ ?_);refine wpAny_with_toks (aB s.toks) (wpAny_newFunctionEnv_cells S.kind hkind λenv he s1 x hts=>?_);subst he;refine⟨lim.keeps x.toInCall.keep,codeAny_func ?_⟩;obtain⟨t,ht,hq⟩:=hbody cdv A outer s H vs Q E S.nd (hr.deeper _) hsp;have I:dB (gH oM P w K mg base N qual (dH st) f cdv A outer s H E) [] (start N vs) H s1:=lh S hr.hd e0 hl r x hts;refine wpAny_mono (ht.nox [] s1 (start N vs) H _ I hq) (λfl s' hs=>?_) λe s' hs=>hs;have fC:∀{σ':St}{H':Hp}{v:V}{u:Value},dB (gH oM P w K mg base N qual (dH st) f cdv A outer s H E).up [] σ' H' s'→df v u→Q v H'→CE outer P w H (yw s) Q u s':=
  λ{σ' H' v u} J rv q=>⟨v,H',J.os,⟨J.tk,J.bare⟩,J.base,J.hok,rv,q⟩
 cases fl with
 | ret u=>obtain⟨v,σ',H',J,rv,q⟩:=hs;exact fC J rv q
 | next=>obtain⟨σ',H',J,q⟩:=hs;exact fC (v:=V.non) (u:=Value.none) J rfl q
 | brk=>obtain⟨_,_,_,q⟩:=hs;exact False.elim q
 | cont=>obtain⟨_,_,_,q⟩:=hs;exact False.elim q
end
section
variable {X:Cx}{k n:Nat}{f C:Addr}{ps:List Str}{sp:Sp}{x m:Str}{e a b o:Expr}{es:List Expr}{t:TA}{ta tb te:TE}{p pos apos:Pos}{E:XK}
theorem tR(D:Dp X.prog X.w X.K X.mg X.base k f ps sp)(hr:eQ n X.A)(hm:X.mg x=some (.ref f))(ha:PA X (e::es) t)(hk:k≤n:=by decide)(hg:Gl X x:=by rfl)(hdb:(x==("__debug__":Str))=false:=by decide)(he:starEach (e::es) X.env=(false,eval e X.env)::starEach es X.env:=by rfl)(hpl:(backTo pos (starEach es X.env)).any (·.1)=false:=by rfl):
  BE X X.up (.Call (.Name x p) (e::es) [] pos) (eV sp [] E0 t):=by
 obtain⟨len,⟨fd,bd,F⟩,kp⟩:=D;intro pins s σ H Q I h;refine wpAny_Call_Name_kw (gm I hg hm ?_ hdb);refine bP (h₀:=X.base) I.ok.mod.kin kp (thn (ha pos pins s σ H _ I h) λus s1 ⟨vs,H1,I1,r,q⟩=>⟨I1.kIn,?_⟩) he hpl;replace q:sp (vs++[]) H1 Q E0:=q;rw[ag]at q;have hl:(us++[]).length=ps.length:=by rw[ag,←r.length];exact len _ _ _ _ q
 have hb':=bd s1 us I1.kIn hl;rw[ag]at hb';refine wpAny_call (codeAny_mono (F X.A X.stack s1 H1 ⟨us,[]⟩ us vs Q E0 (hr.mono hk) I1.env0 hb' r q) λr s' hq=>?_);cases r with
 | error e=>exact False.elim hq
 | ok fl=>
  cases fl with
  | ret u=>obtain⟨v,H',os,⟨ht,bare⟩,un,hok,r,q⟩:=hq;obtain⟨v2,H2,I2,r2,q2⟩:=I1.after (Q:=Q) (u:=u) ⟨v,H',os,⟨aE (Nat.le_max_right _ _) ht,bare⟩,un,hok,r,q⟩;exact⟨v2,H2,I2.up (aH Nat.one_pos (aE (Nat.le_max_left _ _) ht)),r2,q2⟩
  | next=>exact False.elim hq
  | brk=>exact False.elim hq
  | cont=>exact False.elim hq
end
theorem rN{vs:List V}{k:V→Prop}(h:on1 vs k):vs.length=1:=by obtain⟨_,rfl,_⟩:=on1.ex h;rfl
structure Dx(P:Program)(w:World)(K:aA)(mg:Str→Option Value)(base:Heap)(k:Nat)(f:Addr)(ps:List Str)(sp:Sp):Prop where
 ex:∃fd,hU P w K mg base (kO P w) k f fd ps sp∧gO K fd ps []
 kp:PySem.W.keepIn K (.ref f)=true
section
variable {P:Program}{w:World}{K:aA}{mg:Str→Option Value}{base:Heap}{x qual:Str}{st:Stmt}{f:Addr}{N ps:List Str}{k:Nat}{sp sp':Sp}
theorem okx(F:fb K x qual st f)
  (hbody:∀(cdv:Value)(A:Around)(outer:List Env)(s:Shared)(H:Hp)(vs:List V)(Q:VK)(E:XK),N.Nodup→eQ k (A.deeper (envOfC qual (dH st) s.heap.objs.size f cdv))→sp vs H Q E→
   ∃t,kU (gH (kO P w) P w K mg base N qual (dH st) f cdv A outer s H E) (e8 st) t∧t {nx:=λ_ H'=>Q .non H',rt:=Q} (start N vs) H)
  (S:gp N ps (dH st):=by exact⟨rfl,rfl,rfl,by decide,rfl,by decide,by decide⟩)
  (hb:∀(kV doc pm:Value)(an:Option Addr)(cdv ct:Value)(us:List Value),us.length=ps.length→bindArgs (PySem.W.fnOf x qual (gn st) (e8 st) (dH st) .none kV doc pm an cdv ct) ⟨us,[]⟩=pure (ps.zip us):=by intro _ _ _ _ _ _ us hl;first|(match us,hl with|[_],_=>rfl)|(match us,hl with|[_,_],_=>rfl)|(match us,hl with|[_,_,_],_=>rfl))
  (len:∀vs H Q E,sp vs H Q E→vs.length=ps.length:=by intro vs H Q E h;first|(cases h;rfl;done)|(repeat (first|(obtain⟨rfl,_⟩:=h;rfl)|obtain⟨_,h⟩:=h))):Dx P w K mg base (k+1) f ps sp:=by
 obtain⟨fd,F⟩:=F;exact⟨⟨fd,F.okx S len λcdv A outer s H vs Q E=>hbody cdv A outer s H vs Q E S.nd,F.binds hb⟩,F.kp⟩
end
section
variable {X:Cx}{k n:Nat}{f C:Addr}{ps:List Str}{sp:Sp}{x m:Str}{e a b o:Expr}{es:List Expr}{t:TA}{ta tb te:TE}{p pos apos:Pos}{E:XK}
theorem tN(he:PE X o ta)(c:oK X.K C)(hm:fT X.K C m f)(D:Dx X.prog X.w X.K X.mg X.base k f ps sp)(hr:eQ n X.A)(hx:gz (kO X.prog X.w) X E)(ha:PA X (e::es) t)(hk:k≤n:=by decide)
  (hst:starEach (e::es) X.env=(false,eval e X.env)::starEach es X.env:=by rfl) (hpl:(backTo pos (starEach es X.env)).any (·.1)=false:=by rfl)
  (ht:eval (.Call (.Attribute o m apos) (e::es) [] pos) X.env=(do
   let ov ← eval o X.env
   standAt apos.atName
   let (f,first) ← holding [ov] (getMethod ov m pl)
   callWith pos f first (backTo pos (starEach (e::es) X.env)) (backToKw pos (keywordEach [] X.env))):=by rfl):PE X (.Call (.Attribute o m apos) (e::es) [] pos) (eB C m sp [] E ta t):=by
 obtain⟨⟨fd,F,bd⟩,kp⟩:=D;exact qL he c hm F (hr.mono hk) bd .nil hx ha hst hpl ht
theorem vX(he:PE X o ta)(c:oK X.K C)(hm:fT X.K C m f)(D:Dx X.prog X.w X.K X.mg X.base k f ps sp)(hr:eQ n X.A)(hx:gz (kO X.prog X.w) X E)(hk:k≤n:=by decide)
  (ht:eval (.Call (.Attribute o m apos) [] [] pos) X.env=(do
   let ov ← eval o X.env
   standAt apos.atName
   let (f,first) ← holding [ov] (getMethod ov m pl)
   callWith pos f first (backTo pos (starEach [] X.env)) (backToKw pos (keywordEach [] X.env))):=by rfl):PE X (.Call (.Attribute o m apos) [] [] pos) (eB C m sp [] E ta cy):=by
 obtain⟨⟨fd,F,bd⟩,kp⟩:=D;exact tU he c hm F (hr.mono hk) bd .nil hx ht
theorem Dh(D:Dx X.prog X.w X.K X.mg X.base k f ps sp)(hr:eQ n X.A)(hm:X.mg x=some (.ref f))(ha:PA X (e::es) t)(hne:∀e s,¬X.xe e s)(hk:k≤n:=by decide)(hg:Gl X x:=by rfl)(hs:swapsWith (.Call (.Name x p) (e::es) [] cpos) none pos.line X.env=pure false:=by rfl)
  (hdb:(x==("__debug__":Str))=false:=by decide) (he:starEach (e::es) X.env=(false,eval e X.env)::starEach es X.env:=by rfl) (hpl:(backTo cpos (starEach es X.env)).any (·.1)=false:=by rfl):
  PX X (.Expr (.Call (.Name x p) (e::es) [] cpos) pos) (ro sp t):=by
 obtain⟨⟨fd,F,bd⟩,kp⟩:=D;exact vU F (hr.mono hk) hg hm kp bd ha hne hs hdb he hpl
theorem Di{i:Nat}{y:Str}{pos':Pos}(D:Dx X.prog X.w X.K X.mg X.base k f ps sp)(hr:eQ n X.A)(hm:X.mg x=some (.ref f))(ha:PA X (e::es) t)(hne:∀e s,¬X.xe e s)(hN:X.N.Nodup)(hy:uf X.env.scope y)(hi:X.N[i]?=some y:=by rfl)(hk:k≤n:=by decide)(hg:Gl X x:=by rfl)(hs:swapsWith (.Call (.Name x p) (e::es) [] cpos) (some (.Name y pos')) pos.line X.env=pure false:=by rfl)
  (hf:X.fn y=true∨X.env.scope.names.lookup y=some .local:=by first|exact .inl rfl|exact .inr rfl)
  (hdb:(x==("__debug__":Str))=false:=by decide) (he:starEach (e::es) X.env=(false,eval e X.env)::starEach es X.env:=by rfl) (hpl:(backTo cpos (starEach es X.env)).any (·.1)=false:=by rfl):
  PX X (.Assign [.Name y pos'] (.Call (.Name x p) (e::es) [] cpos) pos) (xE sp i t):=by
 obtain⟨⟨fd,F,bd⟩,kp⟩:=D;exact yq F (hr.mono hk) hg hm kp bd ha hne hN hi hy hs hf hdb he hpl
end
end L2
namespace K11
open PySem L2 SW R11
def top(i:Nat):Stmt:=PySem.Challenge.pw_stampword_k11_lines_read_or_refused.main.body.getD i (.Pass ⟨0,0,0,0⟩)
structure BP where
 (f0 f1 f2 f3 f4 f5 f6 f7 f8 f9 f10 f11 f12 f13 f14 f15 f16 f17 f18 f19 f20 f21 f22 f23 f24 f25 f26 f27 o0 y0 y1 y2 y3:Addr)
structure oH(P:Program)(w:World)(K:aA)(mg:Str→Option Value)(base:Heap)(a:BP):Prop where
 n0:mg "abs"=none
 n1:mg "len"=none
 n2:mg "int"=none
 n3:mg "min"=none
 n4:mg "tuple"=none
 n5:mg "bool"=none
 n6:mg "isinstance"=none
 n7:mg "list"=none
 n8:mg "str"=none
 n9:mg "range"=none
 n10:mg "reversed"=none
 n11:mg "ValueError"=none
 g0:mg "_law_any"=some (.ref a.f0)
 g1:mg "_law_any_word"=some (.ref a.f1)
 g2:mg "_law_drawn_piece"=some (.ref a.f2)
 g3:mg "_law_drawn_main"=some (.ref a.f3)
 g4:mg "_law_whole"=some (.ref a.f4)
 g5:mg "_law_at"=some (.ref a.f5)
 g6:mg "_law_inside"=some (.ref a.f6)
 g7:mg "_law_is_piece"=some (.ref a.f7)
 g8:mg "_law_line_of"=some (.ref a.f8)
 g9:mg "_law_room"=some (.ref a.f9)
 g10:mg "_law_marked"=some (.ref a.f10)
 g11:mg "_law_well"=some (.ref a.f11)
 g12:mg "_law_asked"=some (.ref a.f12)
 g26:mg "read"=some (.ref a.f26)
 g27:mg "_law_base_tells"=some (.ref a.f27)
 u0:∃t,mg "LETTERS"=some (.str "abcdefghijklmnopqrstuvwxyz" t)
 u1:∃t,mg "FIGURES"=some (.str "0123456789" t)
 c0:mg "Reader"=some (.ref a.o0)
 l0:oK K a.o0
 x0:mg "StampError"=some (.ref a.y0)
 x1:mg "NoName"=some (.ref a.y1)
 x2:mg "NoStamp"=some (.ref a.y2)
 x3:mg "NoPiece"=some (.ref a.y3)
abbrev oH.X{P:Program}{w:World}{K:aA}{mg:Str→Option Value}{base:Heap}{a:BP}(_:oH P w K mg base a):=Dx P w K mg base
abbrev oH.P{P:Program}{w:World}{K:aA}{mg:Str→Option Value}{base:Heap}{a:BP}(_:oH P w K mg base a):=Dp P w K mg base
abbrev oH.D{P:Program}{w:World}{K:aA}{mg:Str→Option Value}{base:Heap}{a:BP}(_:oH P w K mg base a):=Ds P w K mg base
seal L2.PE L2.PT L2.PW L2.PA L2.PS L2.kU L2.PG L2.Bh L2.PI L2.PO L2.Bg
section
variable {P:Program}{w:World}{K:aA}{mg:Str→Option Value}{base:Heap}{a:BP}{f:Addr}(T:oH P w K mg base a)(rc:RC K a.o0)(hx:PySem.W.excIn K a.y3 [.type "ValueError",.type "Exception",.type "BaseException",.type "object"] "ValueError.__new__"=true)(XN:PySem.W.XCls K a.y3)(CC:S1.Da K a.y3 a.y1 a.y2 a.y0)
include T rc hx XN CC
theorem zF(F:fb K "_law_any" "_law_any" (top 22) f):T.D 1 f ["_law_cell"] pj:=
 nB (N:=["_law_cell","_law_size"]) F λ_ _ _ _ _ _ _ E nd hr h=>⟨SW.AI K,wq 0 rfl λp0=>wq 1 rfl λp1=>wh 1 rfl nd λl1 g1=>(cu (sN 1 nd l1 (dA eu (dA jf p0 cx) (dA tY cx cx))) (cw (dY (dA y8 p1 (xL (dC (eO cx (iA fq cx))) (dA eu p0 cx)))))),SW.CO h⟩
theorem Aq(F:fb K "_law_any_word" "_law_any_word" (top 21) f):T.D 1 f ["_law_cell"] mP:=
 nB (N:=["_law_cell","_law_left","_law_word"]) F λ_ _ _ _ _ _ _ E nd hr h=>⟨SW.CH K,wq 0 rfl λp0=>wq 1 rfl λp1=>wq 2 rfl λp2=>wh 1 rfl nd λl1 g1=>wh 2 rfl nd λl2 g2=>(cu (sN 1 nd l1 (dA eu (dD uY (by rfl) T.n0 ze (dr p0)) (dA tY cx cx))) (cu (sN 2 nd l2 cr) (cu (fQ PassesOwn.never (qt AU p1 cx) (cu (sN 2 nd l2 (dA dL (iB gc cr (dA eu p1 cx) (λ_ _=>rfl)) p2)) (cw (sN 1 nd l1 (dA k9 (dA jf p1 cx) cx))))) (cw (dY p2))))),SW.DJ h⟩
theorem An(F:fb K "_law_drawn_piece" "_law_drawn_piece" (top 13) f)(d1:T.D 1 a.f1 ["_law_cell"] mP)(d0:T.D 1 a.f0 ["_law_cell"] pj):T.D 2 f ["_law_cells","_law_stamps"] (iw K lw):=
 nB (N:=["_law_cells","_law_stamps","_law_pile","_law_cell","_law_rest","_law_way","_law_word","_law_inner","_law_look","_law_name","_law_many","_law_made","_law_last"]) F λ_ _ _ _ _ _ _ E nd hr h=>⟨SW.AF K,wq 0 rfl λp0=>wq 1 rfl λp1=>wq 2 rfl λp2=>wq 3 rfl λp3=>wq 4 rfl λp4=>wq 5 rfl λp5=>wq 6 rfl λp6=>wq 7 rfl λp7=>wq 8 rfl λp8=>wq 9 rfl λp9=>wq 10 rfl λp10=>wq 11 rfl λp11=>wq 12 rfl λp12=>wh 2 rfl nd λl2 g2=>wh 3 rfl nd λl3 g3=>wh 4 rfl nd λl4 g4=>wh 5 rfl nd λl5 g5=>wh 6 rfl nd λl6 g6=>wh 7 rfl nd λl7 g7=>wh 8 rfl nd λl8 g8=>wh 9 rfl nd λl9 g9=>wh 10 rfl nd λl10 g10=>wh 11 rfl nd λl11 g11=>wh 12 rfl nd λl12 g12=>(cu (sN 2 nd l2 (dC (dr (dO (eO cr cr))))) (cu (oo PassesOwn.never rfl (qJ p0) g3 (cu (sN 4 nd l4 (dA jf p3 cx)) (cu (sN 5 nd l5 (dA eu p3 cx)) (cu (sN 6 nd l6 (xL (dC (c7 cr (c7 cr (eO cr cr)))) (dA eu p4 cx))) (cu (dP (qt eH (dA eu p4 cx) cx) (cw (sN 6 nd l6 (dA dL (pc d1 hr T.g1 (dr (dA jf p4 cx))) cr))) dX) (cu (sN 7 nd l7 (dq gi p2 (dm (iA fq cx)) fF)) (cw (dP (qD (qt eH p5 cx) (om (gu (qt eH (dD dR (by rfl) T.n1 eK (dr p7)) cx) (gF (tJ iV iV cx p5 cx))).pt)).pt (cw (dM (fR aL aX aY eR p2 (dr (dO (eO cr (xL (dC (eO (dA k9 (dA eu p4 cx) cx) (pc d0 hr T.g0 (dr p4)))) (ei gD (by rfl) T.n2 iT (dr (qe eH (dA eu p4 cx) cx)))))))))) (cw (dP (qt iV p5 cx) (cw (dM (fR aL aX aY eR p2 (dr (dO (eO cr p6)))))) (cw (dP (gu (qt eH p5 cx) (gF (qt eH (dD dR (by rfl) T.n1 eK (dr p7)) cx))).pt (cw (sN 2 nd l2 (dA gZ (dq gi p2 fF (dm (iA fq cx))) (dC (dr (dO (c7 cr (c7 (xL p7 cx) (eO (xL p7 cx) (xL p7 cx)))))))))) (cw (dP (qt iV p5 cx) (cw (sN 2 nd l2 (dA gZ (dq gi p2 fF (dm (iA fq cx))) (dC (dr (dO (c7 (xL (dC (eO cr cr)) (dA eu p5 cx)) (eO (xL p7 (iA fq cx)) (xL p7 (iA fq cx)))))))))) (cw (dP (qt eH p5 cx) (cu (sN 8 nd l8 (xL p7 (iA fq cx))) (cu (dP (iN i7 (xT p8 cx) (dC (eO cr cr)) (by with_unfolding_all rfl)) (cw (sN 8 nd l8 (xT p8 cx))) dX) (cu (dP (gu (qt eH (xT p8 cx) cr) (gF (qt lB (dA eu p4 cx) cx))).pt (cw (sN 6 nd l6 (xT p8 cx))) dX) (cw (sN 2 nd l2 (dA gZ (dq gi p2 fF (dm (iA fq cx))) (dC (dr (dO (c7 cr (c7 p6 (eO (xL p7 (iA fq cx)) (xL p7 (iA fq cx)))))))))))))) (cw (dP (qt (lA hr.units0) p1 (dC ij)) (cu (yu (xL p1 (dA eu p4 (dD dR (by rfl) T.n1 eK (dr p1)))) (yy rfl (nV g9 (nV g10 vY)))) (cu (sN 10 nd l10 (dD (ra rfl) (by rfl) T.n3 zd (eO p10 (dD dR (by rfl) T.n1 eK (dr p2))))) (cw (dP (qt eH p10 (xT (xL p1 (dA eu p4 (dD dR (by rfl) T.n1 eK (dr p1)))) cx)) (cu (sN 11 nd l11 (ei lP (by rfl) T.n4 lI (dr (dA gZ (dC (eO cr p9)) (dq gi p2 (dm (dA k9 (dD dR (by rfl) T.n1 eK (dr p2)) p10)) fF))))) (cw (sN 2 nd l2 (dA gZ (dq gi p2 fF (dm (dA k9 (dD dR (by rfl) T.n1 eK (dr p2)) p10))) (dC (dr p11)))))) dX)))) dX)))))))))))))))))) (cu (fQ PassesOwn.never (qt lB (dD dR (by rfl) T.n1 eK (dr p2)) cx) (cu (sN 12 nd l12 (jP aL az bA jQ p2)) (cw (dM (fR aL aX aY eR p2 (dr (dO (c7 cr (eO (jP aL az bA jQ p2) p12))))))))) (cw (dY (xL p2 cx)))))),SW.DH h⟩
theorem vi(F:fb K "_law_drawn_main" "_law_drawn_main" (top 15) f)(d2:T.D 2 a.f2 ["_law_cells","_law_stamps"] (iw K lw)):T.D 3 f ["_law_cells"] (mS K):=
 nB (N:=["_law_cells"]) F λ_ _ _ _ _ _ _ E nd hr h=>⟨SW.yJ K lw,wq 0 rfl λp0=>(cw (dY (pc d2 hr T.g2 (eO p0 (dC (c7 (dO (eO cr cx)) (c7 (dO (eO cr cx)) (eO (dO (eO cr cx)) (dO (eO cr cx)))))))))),SW.BX h⟩
theorem AW(F:fb K "_law_whole" "_law_whole" (top 11) f):T.D 1 f ["_law_found"] kX:=
 nB (N:=["_law_found"]) F λ_ _ _ _ _ _ _ E nd hr h=>⟨S1.Bt K,wq 0 rfl λp0=>(cw (dY (k8 (dD iF (by rfl) T.n6 dn (eO p0 (iO (v:=.ty "int") (by rfl) T.n2 iT rfl))) (mf (tT (dD iF (by rfl) T.n6 dn (eO p0 (iO (v:=.ty "bool") (by rfl) T.n5 wN rfl)))))))),S1.Cz h⟩
theorem zD(F:fb K "_law_at" "_law_at" (top 12) f):T.D 1 f ["_law_script","_law_k"] (jH K):=
 nB (N:=["_law_script","_law_k"]) F λ_ _ _ _ _ _ _ E nd hr h=>⟨R11.AG K,wq 0 rfl λp0=>wq 1 rfl λp1=>(cu (dP (qt iV p1 (dD dR (by rfl) T.n1 eK (dr p0))) (cw (dY (xL p0 p1))) dX) (cw (dY cx))),R11.DK h⟩
theorem zC(F:fb K "_law_inside" "_law_inside" (top 14) f):T.D 1 f ["_law_piece"] fY:=
 nB (N:=["_law_piece"]) F λ_ _ _ _ _ _ _ E nd hr h=>⟨R11.wZ K,wq 0 rfl λp0=>(cu (dP (iN i7 (xT p0 cx) (dC (eO cr cr)) (by with_unfolding_all rfl)) (cw (dY (dC ij))) dX) (cw (dY (ei m3 (by rfl) T.n7 wM (dr (dq yj p0 (dm (dA gM cx (ei gD (by rfl) T.n2 iT (dr (kb i7 (xT p0 cx) (dC (eO cr cr)) (by with_unfolding_all rfl)))))) fF)))))),R11.CL h⟩
theorem Am(F:fb K "_law_is_piece" "_law_is_piece" (top 16) f)(d4:T.D 1 a.f4 ["_law_found"] kX)(d6:T.D 1 a.f6 ["_law_piece"] fY):T.D 2 f ["_law_found"] iJ:=
 nB (N:=["_law_found","_law_todo","_law_part","_law_sizes"]) F λ_ _ _ _ _ _ _ E nd hr h=>⟨R11.CF K,wq 0 rfl λp0=>wq 1 rfl λp1=>wq 2 rfl λp2=>wq 3 rfl λp3=>wh 1 rfl nd λl1 g1=>wh 2 rfl nd λl2 g2=>wh 3 rfl nd λl3 g3=>(cu (sN 1 nd l1 (dC (dr p0))) (cu (fQ PassesOwn.never (qt (lA hr.units0) p1 (dC ij)) (cu (sN 2 nd l2 (jP aL az bA jQ p1)) (cu (dP (qD (ie (fH (dD iF (by rfl) T.n6 dn (eO p2 (iO (v:=.ty "tuple") (by rfl) T.n4 lI rfl))))) (qD (qt iV (dD dR (by rfl) T.n1 eK (dr p2)) cx) (om (ie (fH (dD iF (by rfl) T.n6 dn (eO (xT p2 cx) (iO (v:=.ty "str") (by rfl) T.n8 m4 rfl)))))))).pt (cw (dY ii)) dX) (cu (sN 3 nd l3 (qM (fe cr cx (fe cr cx (fe cr cx (fe cr cx (fe cr cx (fe cr cx qI)))))) rfl rfl (by intro z;cases z) (by decide))) (cu (dP (gu (qt lZ (tW (wy hr) p3 (xT p2 cx) cx ⟨rfl,rfl,rfl,rfl⟩) (dD dR (by rfl) T.n1 eK (dr p2))) (gF (qt lZ (xT p2 cx) cr))).pt (cw (dY ii)) dX) (cu (dP (qt eH (xT p2 cx) cr) (cw (dP (ie (fH (pc d4 hr T.g4 (dr (xT p2 cx))))) (cw (dY ii)) dX)) (cw (dP (gu (iN i7 (xT p2 cx) (dC (c7 cr (eO cr cr))) (by with_unfolding_all rfl)) (gF (ie (fH (dD iF (by rfl) T.n6 dn (eO (xT p2 cx) (iO (v:=.ty "str") (by rfl) T.n8 m4 rfl))))))).pt (cw (dY ii)) dX))) (cw (sN 1 nd l1 (dA gZ p1 (pc d6 hr T.g6 (dr p2))))))))))) (cw (dY ii)))),R11.DG h⟩
theorem Al(F:fb K "_law_line_of" "_law_line_of" (top 17) f):T.D 1 f ["_law_piece"] iu:=
 nB (N:=["_law_piece","_law_line","_law_todo","_law_part","_law_k","_law_signs"]) F λ_ _ _ _ _ _ _ E nd hr h=>⟨R11.CD K,wq 0 rfl λp0=>wq 1 rfl λp1=>wq 2 rfl λp2=>wq 3 rfl λp3=>wq 4 rfl λp4=>wq 5 rfl λp5=>wh 1 rfl nd λl1 g1=>wh 2 rfl nd λl2 g2=>wh 3 rfl nd λl3 g3=>wh 4 rfl nd λl4 g4=>wh 5 rfl nd λl5 g5=>(cu (sN 1 nd l1 cr) (cu (sN 2 nd l2 (dC (dr p0))) (cu (fQ PassesOwn.never (qt (lA hr.units0) p2 (dC ij)) (cu (sN 3 nd l3 (jP aL az bA jQ p2)) (cw (dP (fH (dD iF (by rfl) T.n6 dn (eO p3 (iO (v:=.ty "str") (by rfl) T.n8 m4 rfl)))) (cw (sN 1 nd l1 (dA dL p1 p3))) (cw (dP (qt eH (xT p3 cx) cr) (cw (sN 1 nd l1 (dA dL p1 (ei mz (by rfl) T.n8 m4 (dr (xT p3 cx)))))) (cw (dP (qt eH (xT p3 cx) cr) (cw (sN 1 nd l1 (dA dL p1 (xT p3 cx)))) (cw (dP (qt eH (xT p3 cx) cr) (cu (sN 1 nd l1 (dA dL (dA dL (dA dL p1 cr) (xT p3 cx)) cr)) (cw (sN 2 nd l2 (dA gZ p2 (dC (c7 (xT p3 cx) (eO cr (xT p3 cx)))))))) (cw (dP (qt eH (xT p3 cx) cr) (cu (sN 1 nd l1 (dA dL (dA dL p1 (xT p3 cx)) cr)) (cu (dM (fR aL aX aY eR p2 (dr cr))) (cw (oo PassesOwn.never rfl (rE (by rfl) T.n9 (c7 (dA k9 (dD dR (by rfl) T.n1 eK (dr p3)) cx) (eO cx (iA fq cx)))) g4 (cu (dM (fR aL aX aY eR p2 (dr (xT p3 p4)))) (cw (dP (qt lB p4 cx) (cw (dM (fR aL aX aY eR p2 (dr cr)))) dX))))))) (cu (sN 5 nd l5 (qM (fe cr cr (fe cr cr (fe cr cr qI))) rfl rfl (by intro z;cases z) (by decide))) (cu (sN 1 nd l1 (dA dL p1 cr)) (cu (dM (fR aL aX aY eR p2 (dr cr))) (cu (dP (qt eH (xT p3 cx) cr) (cw (sN 2 nd l2 (dA gZ p2 (dC (eO (xT p3 cx) cr))))) dX) (cw (sN 2 nd l2 (dA gZ p2 (dC (c7 (xT p3 cx) (eO (vc (wy hr) p5 (xT p3 cx) (λ_ _=>rfl)) (xT p3 cx))))))))))))))))))))))) (cw (dY p1))))),R11.DF h⟩
theorem vh(F:fb K "_law_room" "_law_room" (top 23) f):T.D 1 f ["_law_script","_law_most","_law_bound"] (mR K):=
 nB (N:=["_law_script","_law_most","_law_bound"]) F λ_ _ _ _ _ _ _ E nd hr h=>⟨R11.xo K,wq 0 rfl λp0=>wq 1 rfl λp1=>wq 2 rfl λp2=>(cu (dP (qt lB (dD dR (by rfl) T.n1 eK (dr p0)) cx) (cw (dY p2)) dX) (cw (dY p1))),R11.BW h⟩
theorem zB(F:fb K "_law_marked" "_law_marked" (top 18) f):T.P 1 f ["_law_line"] jZ:=
 Dj (len:=λ_ _ _ _ h=>rN h) (N:=["_law_line","_law_marks","_law_spot","_law_end","_law_start","_law_figures"]) F λ_ _ _ _ _ _ _ E nd hr h=>⟨R11.AE K,qE 1 nd (ae rfl) vZ (wq 0 rfl λp0=>wq 1 rfl λp1=>wq 2 rfl λp2=>wq 3 rfl λp3=>wq 4 rfl λp4=>wq 5 rfl λp5=>wh 1 rfl nd λl1 g1=>wh 2 rfl nd λl2 g2=>wh 3 rfl nd λl3 g3=>wh 4 rfl nd λl4 g4=>wh 5 rfl nd λl5 g5=>(cu (sN 2 nd l2 cx) (cu (fQ PassesOwn.never (qt iV p2 (dD eJ (by rfl) T.n1 eK (dr p0))) (cu (sN 3 nd l3 p2) (cu (fQ PassesOwn.never (gu (qt iV p3 (dD eJ (by rfl) T.n1 eK (dr p0))) (gF (iN i6 (iB gc p0 p3 (λ_ _=>rfl)) cr (by with_unfolding_all rfl)))).pt (cw (sN 3 nd l3 (dA gM p3 cx)))) (cu (dP (qt lB p3 p2) (cw (sN 1 nd l1 (dA dL p1 cr))) (cu (sN 4 nd l4 (dA gM p2 (ei gD (by rfl) T.n2 iT (dr (k8 (qe eH (iB gc p0 p2 (λ_ _=>rfl)) cr) (mf (kb mh (dq gr p1 (dm (iA fq cx)) fF) (dC (c7 cr (c7 cr (eO cr cr)))) (by with_unfolding_all rfl)))))))) (cu (sN 3 nd l3 p4) (cu (fQ PassesOwn.never (gu (qt iV p3 (dD eJ (by rfl) T.n1 eK (dr p0))) (gF (iN i6 (iB gc p0 p3 (λ_ _=>rfl)) cr (by with_unfolding_all rfl)))).pt (cw (sN 3 nd l3 (dA gM p3 cx)))) (cu (sN 5 nd l5 (dq gr p0 (dm p4) (dm p3))) (cw (dP (qt eH p5 cr) (cu (sN 3 nd l3 (dA gM p2 cx)) (cw (sN 1 nd l1 (dA dL p1 (xL (dC (eO cr (iB gc p0 p2 (λ_ _=>rfl)))) (ei gD (by rfl) T.n2 iT (dr (kb i6 (iB gc p0 p2 (λ_ _=>rfl)) cr (by with_unfolding_all rfl))))))))) (cw (dP (gu (qt eH (iB gc p5 cx (λ_ _=>rfl)) cr) (gF (qt lZ (dq gr p0 (dm p2) (dm p3)) cr))).pt (cw (sN 1 nd l1 (dA dL p1 cr))) (cw (sN 1 nd l1 (dA dL p1 cr)))))))))))) (cw (sN 2 nd l2 p3)))))) (cw (dY p1))))),R11.CJ h⟩
theorem zA(F:fb K "_law_well" "_law_well" (top 19) f)(d10:T.P 1 a.f10 ["_law_line"] jZ):T.D 2 f ["_law_line"] mQ:=
 nB (len:=λ_ _ _ _ h=>rN h) (N:=["_law_line","_law_marks","_law_turn"]) F λ_ _ _ _ _ _ _ E nd hr h=>⟨R11.AD K,xB.pss (qE 1 nd (ae rfl) (je mE (je mE (je mE (tR d10 hr T.g10 (dr (pv 0)))))) (wq 0 rfl λp0=>wq 1 rfl λp1=>wh 1 rfl nd λl1 g1=>wh 2 rfl nd λl2 g2=>(cu (sN 1 nd l1 (gk (gk p1))) (cu (oo PassesOwn.never rfl (rF (by rfl) T.n9 (dr (dD eJ (by rfl) T.n1 eK (dr p0)))) g2 (cu (sN 1 nd l1 (gk (gk (gk p1)))) (cw (sN 1 nd l1 (gk (gk (gk p1))))))) (cw (dY (qe eH p1 cr))))))),R11.CI h⟩
def Az(s:Stmt):Scope:=match((e8 s)[1]?:Option Stmt) with
 | some (.If _ b _ _)=>(match(b[1]?:Option Stmt) with
  | some (.Return (some (.Call _ [.ListComp _ _ sc _] _ _)) _)=>sc
  | _=>dH s)
 | _=>dH s
omit T rc hx XN CC in
theorem Ay{f:Addr}{cdv:Value}{A:Around}{outer:List Env}{s:Shared}{H:Hp}{E:XK}:jA ((gH oM P w K mg base ["_law_script","_law_way","_law_pieces","_law_line","_law_frames","_law_pair","_law_place","_law_sign","_law_signs"] "_law_asked" (dH (top 20)) f cdv A outer s H E).nox) (Az (top 20)) [("_law_pieces",s.heap.objs.size+1)] ["_law_cell"] ["_law_pieces"] [2]:=
 ⟨rfl,by decide,rfl,by decide,λy c h=>h,λy h=>zV (L:=[((".0":Str),NameKind.local),(("_law_cell":Str),NameKind.local),(("_law_pieces":Str),NameKind.cell)]) (by simp) h,λk y hy=>match k,hy with|0,hy=>by cases hy;exact⟨2,rfl,rfl,rfl,.inl rfl⟩,rfl⟩
theorem zE(F:fb K "_law_asked" "_law_asked" (top 20) f)(d5:T.D 1 a.f5 ["_law_script","_law_k"] (jH K))(d9:T.D 1 a.f9 ["_law_script","_law_most","_law_bound"] (mR K))(d3:T.D 3 a.f3 ["_law_cells"] (mS K))(d8:T.D 1 a.f8 ["_law_piece"] iu):T.D 4 f ["_law_script"] (kY K):=
 nB (N:=["_law_script","_law_way","_law_pieces","_law_line","_law_frames","_law_pair","_law_place","_law_sign","_law_signs"]) F λ_ _ _ _ _ _ _ E nd hr h=>⟨R11.AH K,wq 0 rfl λp0=>wq 1 rfl λp1=>wq 3 rfl λp3=>wq 4 rfl λp4=>wq 5 rfl λp5=>wq 6 rfl λp6=>wq 7 rfl λp7=>wq 8 rfl λp8=>wh 1 rfl nd λl1 g1=>wh 2 rfl nd λl2 g2=>wh 3 rfl nd λl3 g3=>wh 4 rfl nd λl4 g4=>wh 5 rfl nd λl5 g5=>wh 6 rfl nd λl6 g6=>wh 7 rfl nd λl7 g7=>wh 8 rfl nd λl8 g8=>(cu (sN 1 nd l1 (dA eu (pc d5 hr T.g5 (eO p0 cx)) cx)) (cu (dP (qt eH p1 cx) (cu (sN 2 nd l2 (dC (c7 cr (c7 cr (c7 cr (c7 cr (c7 cr (c7 cr (c7 cr (c7 cr (c7 cr (c7 cr (c7 cr (c7 cr (c7 cr (c7 cr (eO cr cr))))))))))))))))) (cw (dY (fR cN PySem.F.slot_str_join PySem.F.type_str_join vo cr (dr (y6 rfl Ay (qJ (dq gi p0 (dm cx) (dm cx))) (λfp s H C=>(xL (pv 1) (dA eu (pv 0) cx))))))))) dX) (cu (sN 3 nd l3 (pc d8 hr T.g8 (dr (pc d3 hr T.g3 (dr (dq gi p0 (dm cx) (dm (dA gM cx (pc d9 hr T.g9 (c7 p0 (eO cx cx))))))))))) (cu (dP (qt lB p1 cx) (cu (sN 4 nd l4 (dC (c7 (dC (eO cr cr)) (c7 (dC (eO cr cr)) (c7 (dC (eO cr cr)) (c7 (dC (eO cr cr)) (eO (dC (eO cr cr)) (dC (eO cr cr))))))))) (cu (sN 4 nd l4 (dA gZ p4 (dC (c7 (dC (eO cr cr)) (c7 (dC (eO cr cr)) (c7 (dC (eO cr cr)) (eO (dC (eO cr cr)) (dC (eO cr cr))))))))) (cu (sN 4 nd l4 (dA gZ p4 (dC (c7 (dC (eO cr cr)) (c7 (dC (eO cr cr)) (c7 (dC (eO cr cr)) (eO (dC (eO cr cr)) (dC (eO cr cr))))))))) (cu (sN 5 nd l5 (xL p4 (dA eu (pc d5 hr T.g5 (eO p0 cx)) cx))) (cw (dY (dA dL (dA dL (xL p5 cx) p3) (xL p5 cx)))))))) dX) (cu (sN 6 nd l6 (dA eu (pc d5 hr T.g5 (eO p0 cx)) (dA gM (dD eJ (by rfl) T.n1 eK (dr p3)) cx))) (cu (sN 7 nd l7 (iB gc cr (dA eu (pc d5 hr T.g5 (eO p0 cx)) cx) (λ_ _=>rfl))) (cu (dP (qt eH (dA eu (dA jf (pc d5 hr T.g5 (eO p0 cx)) cx) cx) cx) (cu (sN 8 nd l8 cr) (cu (sN 8 nd l8 (dA dL p8 cr)) (cw (sN 7 nd l7 (iB gc p8 (dA eu (pc d5 hr T.g5 (eO p0 cx)) (dD eJ (by rfl) T.n1 eK (dr p8))) (λ_ _=>rfl)))))) dX) (cu (dP (qt eH p1 cx) (cw (dY (dA dL (dA dL (dq gr p3 fF (dm p6)) p7) (dq gr p3 (dm (dA gM p6 cx)) fF)))) dX) (cu (dP (qt eH p1 cx) (cw (dY (dA dL (dq gr p3 fF (dm p6)) (dq gr p3 (dm (dA gM p6 cx)) fF)))) dX) (cu (dP (qt eH p1 cx) (cw (dY (dA dL (dA dL (dq gr p3 fF (dm p6)) p7) (dq gr p3 (dm p6) fF)))) dX) (cw (dY p3)))))))))))),R11.CM h⟩
theorem Ae(F:fb K "__init__" "Reader.__init__" (db (top 8) 0) f):T.D 1 f ["self","line"] (mT a.o0):=
 nB (N:=["self","line"]) F λ_ _ _ _ _ _ _ E nd hr h=>⟨R11.B5 K a.o0,wq 0 rfl λp0=>wq 1 rfl λp1=>(cu (ma p0 p1 rfl) (cu (ma p0 cx rfl) (cu (ma p0 (dC (dr (dO (dr cr)))) rfl) (cw (ma p0 (dC ij) rfl))))),R11.C8 rc h⟩
theorem Ag(F:fb K "refuse" "Reader.refuse" (db (top 8) 1) f):T.X 1 f ["self","wanted"] (eD a.y3 a.o0):=
 okx (N:=["self","wanted","at"]) F λ_ _ _ _ _ _ _ E nd hr h=>⟨R11.B7 K a.y3 a.o0 E,wq 0 rfl λp0=>wq 1 rfl λp1=>wq 2 rfl λp2=>wh 2 rfl nd λl2 g2=>(cu (sN 2 nd l2 (eE p0 rfl)) (cw (tL PySem.F.excBase_ValueError (by rfl) T.x3 hx (y7 (tP (tO p1 (tP (tO p2 yx)))))))),R11.DA rc h⟩
theorem AY(F:fb K "skip" "Reader.skip" (db (top 8) 2) f):T.D 1 f ["self","sign"] (fG a.o0):=
 nB (N:=["self","sign"]) F λ_ _ _ _ _ _ _ E nd hr h=>⟨R11.Bv K a.o0,wq 0 rfl λp0=>wq 1 rfl λp1=>(cu (dP (ie (fH (fR cN PySem.F.slot_str_startswith PySem.F.type_str_startswith rH (eE p0 rfl) (eO p1 (eE p0 rfl))))) (cw (dY ii)) dX) (cu (lY p0 (dD eJ (by rfl) T.n1 eK (dr p1)) uE) (cw (dY ii)))),R11.C2 rc h⟩
theorem Aj(F:fb K "need" "Reader.need" (db (top 8) 3) f)(d15:T.D 1 a.f15 ["self","sign"] (fG a.o0))(m15:fT K a.o0 "skip" a.f15)(d14:T.X 1 a.f14 ["self","wanted"] (eD a.y3 a.o0))(m14:fT K a.o0 "refuse" a.f14):T.X 2 f ["self","sign"] (fB a.y3 a.o0):=
 okx (N:=["self","sign"]) F λ_ _ _ _ _ _ _ E nd hr h=>⟨R11.CA K a.y3 a.o0 E,wq 0 rfl λp0=>wq 1 rfl λp1=>(cw (dP (ie (fH (pm p0 T.l0 m15 d15 hr (dr p1)))) (cw (dM (tN p0 T.l0 m14 d14 hr (gY λ_ _ _ z=>z) (dr p1)))) dX)),R11.DD h⟩
theorem Ab(F:fb K "run_of" "Reader.run_of" (db (top 8) 4) f):T.D 1 f ["self","signs"] (jY a.o0):=
 nB (N:=["self","signs","begin"]) F λ_ _ _ _ _ _ _ E nd hr h=>⟨R11.By K a.o0,wq 0 rfl λp0=>wq 1 rfl λp1=>wq 2 rfl λp2=>wh 2 rfl nd λl2 g2=>(cu (sN 2 nd l2 (eE p0 rfl)) (cu (fQ PassesOwn.never (gu (qt iV (eE p0 rfl) (dD eJ (by rfl) T.n1 eK (dr (eE p0 rfl)))) (gF (iN i6 (iB gc (eE p0 rfl) (eE p0 rfl) (λ_ _=>rfl)) p1 (by with_unfolding_all rfl)))).pt (cw (lY p0 cx uE))) (cw (dY (dq gr (eE p0 rfl) (dm p2) (dm (eE p0 rfl))))))),R11.C5 rc h⟩
theorem Ai(F:fb K "read_behind_word" "Reader.read_behind_word" (db (top 8) 6) f)(d15:T.D 1 a.f15 ["self","sign"] (fG a.o0))(m15:fT K a.o0 "skip" a.f15):T.D 2 f ["self","word"] (kW a.o0):=
 nB (N:=["self","word"]) F λ_ _ _ _ _ _ _ E nd hr h=>⟨R11.B9 K a.o0,wq 0 rfl λp0=>wq 1 rfl λp1=>(cw (dP (ie (fH (pm p0 T.l0 m15 d15 hr (dr cr)))) (cw (dM (fR aL aX aY eR (eE p0 rfl) (dr (dO (eO cr p1)))))) (cw (dP (fH (pm p0 T.l0 m15 d15 hr (dr cr))) (cw (dM (fR aL aX aY eR (eE p0 rfl) (dr (dO (eO cr p1)))))) (cw (dM (fR aL bB bC gB (eE p0 rfl) (dr (dC (eO (dO (c7 cr (eO p1 cx))) (dO (dr cr)))))))))))),R11.DC rc h⟩
theorem Ad(F:fb K "read_let" "Reader.read_let" (db (top 8) 7) f)(d17:T.D 1 a.f17 ["self","signs"] (jY a.o0))(m17:fT K a.o0 "run_of" a.f17)(d14:T.X 1 a.f14 ["self","wanted"] (eD a.y3 a.o0))(m14:fT K a.o0 "refuse" a.f14)(d16:T.X 2 a.f16 ["self","sign"] (fB a.y3 a.o0))(m16:fT K a.o0 "need" a.f16):T.X 3 f ["self"] (gE a.y3 a.o0):=
 okx (len:=λ_ _ _ _ h=>rN h) (N:=["self","word"]) F λ_ _ _ _ _ _ _ E nd hr h=>⟨R11.B4 K a.y3 a.o0 E,let ⟨_,v0⟩:=T.u0;wq 0 rfl λp0=>wq 1 rfl λp1=>wh 1 rfl nd λl1 g1=>(cu (sN 1 nd l1 (pm p0 T.l0 m17 d17 hr (dr (i3 (v:=.str "abcdefghijklmnopqrstuvwxyz") (by rfl) v0 ⟨_,rfl⟩)))) (cu (dP (qt eH p1 cr) (cw (dM (tN p0 T.l0 m14 d14 hr (gY λ_ _ _ z=>z) (dr cr)))) dX) (cu (dM (tN p0 T.l0 m16 d16 hr (gY λ_ _ _ z=>z) (dr cr))) (cw (dM (fR aL bB bC gB (eE p0 rfl) (dr (dC (c7 (dO (c7 cr (eO (dO (eO cr p1)) cx))) (c7 (dO (dr cr)) (eO (dO (eO cr cr)) (dO (dr cr))))))))))))),R11.C7 rc h⟩
theorem Ac(F:fb K "read_number" "Reader.read_number" (db (top 8) 8) f)(d15:T.D 1 a.f15 ["self","sign"] (fG a.o0))(m15:fT K a.o0 "skip" a.f15)(d17:T.D 1 a.f17 ["self","signs"] (jY a.o0))(m17:fT K a.o0 "run_of" a.f17)(d14:T.X 1 a.f14 ["self","wanted"] (eD a.y3 a.o0))(m14:fT K a.o0 "refuse" a.f14):T.X 2 f ["self"] (fK a.y3 a.o0):=
 okx (len:=λ_ _ _ _ h=>rN h) (N:=["self","below","figures","number"]) F λ_ _ _ _ _ _ _ E nd hr h=>⟨R11.Bz K a.y3 a.o0 E,let ⟨_,v1⟩:=T.u1;wq 0 rfl λp0=>wq 1 rfl λp1=>wq 2 rfl λp2=>wq 3 rfl λp3=>wh 1 rfl nd λl1 g1=>wh 2 rfl nd λl2 g2=>wh 3 rfl nd λl3 g3=>(cu (sN 1 nd l1 (pm p0 T.l0 m15 d15 hr (dr cr))) (cu (sN 2 nd l2 (pm p0 T.l0 m17 d17 hr (dr (i3 (v:=.str "0123456789") (by rfl) v1 ⟨_,rfl⟩)))) (cu (dP (qt eH p2 cr) (cw (dM (tN p0 T.l0 m14 d14 hr (gY λ_ _ _ z=>z) (dr cr)))) dX) (cu (dP (gu (qt eH (iB gc p2 cx (λ_ _=>rfl)) cr) (gF (qD (fH p1) (om (qt lZ p2 cr))).pt)).pt (cw (dM (tN p0 T.l0 m14 d14 hr (gY λ_ _ _ z=>z) (dr cr)))) dX) (cu (sN 3 nd l3 (ei rb (by rfl) T.n2 iT (dr p2))) (cw (dM (fR aL aX aY eR (eE p0 rfl) (dr (dO (eO cr (tV (fH p1) (iA fq p3) p3)))))))))))),R11.C6 rc h⟩
theorem AZ(F:fb K "read_between" "Reader.read_between" (db (top 8) 9) f)(d15:T.D 1 a.f15 ["self","sign"] (fG a.o0))(m15:fT K a.o0 "skip" a.f15)(d16:T.X 2 a.f16 ["self","sign"] (fB a.y3 a.o0))(m16:fT K a.o0 "need" a.f16):T.X 3 f ["self"] (fD a.y3 a.o0):=
 okx (len:=λ_ _ _ _ h=>rN h) (N:=["self"]) F λ_ _ _ _ _ _ _ E nd hr h=>⟨R11.Bw K a.y3 a.o0 E,wq 0 rfl λp0=>(cw (dP (fH (pm p0 T.l0 m15 d15 hr (dr cr))) (cw (dM (fR aL bB bC gB (eE p0 rfl) (dr (dC (c7 (dO (c7 cr (eO (dO (dr cr)) cx))) (eO (dO (eO cr cr)) (dO (dr cr))))))))) (cw (dP (fH (pm p0 T.l0 m15 d15 hr (dr cr))) (cw (dM (fR aL bB bC gB (eE p0 rfl) (dr (dC (c7 (dO (c7 cr (eO (dO (dr cr)) cx))) (eO (dO (eO cr cr)) (dO (dr cr))))))))) (cu (dM (tN p0 T.l0 m16 d16 hr (gY λ_ _ _ z=>z) (dr cr))) (cw (dM (fR aL bB bC gB (eE p0 rfl) (dr (dC (c7 (dO (c7 cr (eO (dO (dr cr)) cx))) (c7 (dO (eO cr cr)) (c7 (dO (dr cr)) (eO (dO (eO cr cr)) (dO (dr cr)))))))))))))))),R11.C3 rc h⟩
theorem Ak(F:fb K "make" "Reader.make" (db (top 8) 11) f):T.D 1 f ["self","head","many"] (iI a.o0):=
 nB (N:=["self","head","many","inner"]) F λ_ _ _ _ _ _ _ E nd hr h=>⟨R11.CB K a.o0,wq 0 rfl λp0=>wq 1 rfl λp1=>wq 2 rfl λp2=>wq 3 rfl λp3=>wh 3 rfl nd λl3 g3=>(cu (sN 3 nd l3 (dC ij)) (cu (fQ PassesOwn.never (qt iV (dD dR (by rfl) T.n1 eK (dr p3)) p2) (cw (dM (fR aL aX aY eR p3 (dr (jP aL az bA jQ (eE p0 rfl))))))) (cw (dM (fR aL aX aY eR (eE p0 rfl) (dr (dA vf p1 (va rfl (by rfl) T.n4 (by rfl) T.n10 p3)))))))),R11.DE rc h⟩
theorem Af(F:fb K "read_behind_handed" "Reader.read_behind_handed" (db (top 8) 10) f)(d15:T.D 1 a.f15 ["self","sign"] (fG a.o0))(m15:fT K a.o0 "skip" a.f15)(d16:T.X 2 a.f16 ["self","sign"] (fB a.y3 a.o0))(m16:fT K a.o0 "need" a.f16)(d22:T.D 1 a.f22 ["self","head","many"] (iI a.o0))(m22:fT K a.o0 "make" a.f22):T.X 3 f ["self","word","many"] (eF a.y3 a.o0):=
 okx (N:=["self","word","many"]) F λ_ _ _ _ _ _ _ E nd hr h=>⟨R11.B6 K a.y3 a.o0 E,wq 0 rfl λp0=>wq 1 rfl λp1=>wq 2 rfl λp2=>(cw (dP (fH (pm p0 T.l0 m15 d15 hr (dr cr))) (cw (dM (fR aL bB bC gB (eE p0 rfl) (dr (dC (eO (dO (c7 cr (eO p1 (dA gM p2 cx)))) (dO (dr cr)))))))) (cu (dM (tN p0 T.l0 m16 d16 hr (gY λ_ _ _ z=>z) (dr cr))) (cw (dM (pm p0 T.l0 m22 d22 hr (eO (dO (eO cr p1)) p2))))))),R11.C9 rc h⟩
theorem Aa(F:fb K "read_piece" "Reader.read_piece" (db (top 8) 5) f)(d17:T.D 1 a.f17 ["self","signs"] (jY a.o0))(m17:fT K a.o0 "run_of" a.f17)(d18:T.D 2 a.f18 ["self","word"] (kW a.o0))(m18:fT K a.o0 "read_behind_word" a.f18)(d15:T.D 1 a.f15 ["self","sign"] (fG a.o0))(m15:fT K a.o0 "skip" a.f15)(d19:T.X 3 a.f19 ["self"] (gE a.y3 a.o0))(m19:fT K a.o0 "read_let" a.f19)(d20:T.X 2 a.f20 ["self"] (fK a.y3 a.o0))(m20:fT K a.o0 "read_number" a.f20):T.X 4 f ["self"] (fW a.y3 a.o0):=
 okx (len:=λ_ _ _ _ h=>rN h) (N:=["self","word"]) F λ_ _ _ _ _ _ _ E nd hr h=>⟨R11.Bx K a.y3 a.o0 E,let ⟨_,v0⟩:=T.u0;wq 0 rfl λp0=>wq 1 rfl λp1=>wh 1 rfl nd λl1 g1=>(cu (sN 1 nd l1 (pm p0 T.l0 m17 d17 hr (dr (i3 (v:=.str "abcdefghijklmnopqrstuvwxyz") (by rfl) v0 ⟨_,rfl⟩)))) (cw (dP (qt lZ p1 cr) (cw (dM (pm p0 T.l0 m18 d18 hr (dr p1)))) (cw (dP (fH (pm p0 T.l0 m15 d15 hr (dr cr))) (cw (dM (fR aL bB bC gB (eE p0 rfl) (dr (dC (eO (dO (dr cr)) (dO (dr cr)))))))) (cw (dP (fH (pm p0 T.l0 m15 d15 hr (dr cr))) (cw (dM (vX p0 T.l0 m19 d19 hr (gY λ_ _ _ z=>z)))) (cw (dM (vX p0 T.l0 m20 d20 hr (gY λ_ _ _ z=>z))))))))))),R11.C4 rc h⟩
theorem AX(F:fb K "take" "Reader.take" (db (top 8) 12) f)(d24:T.X 4 a.f24 ["self"] (fW a.y3 a.o0))(m24:fT K a.o0 "read_piece" a.f24)(d21:T.X 3 a.f21 ["self"] (fD a.y3 a.o0))(m21:fT K a.o0 "read_between" a.f21)(d23:T.X 3 a.f23 ["self","word","many"] (eF a.y3 a.o0))(m23:fT K a.o0 "read_behind_handed" a.f23)(d16:T.X 2 a.f16 ["self","sign"] (fB a.y3 a.o0))(m16:fT K a.o0 "need" a.f16)(d22:T.D 1 a.f22 ["self","head","many"] (iI a.o0))(m22:fT K a.o0 "make" a.f22):T.X 5 f ["self","step"] (ix a.y3 a.o0):=
 okx (N:=["self","step"]) F λ_ _ _ _ _ _ _ E nd hr h=>⟨R11.Bu K a.y3 a.o0 E,wq 0 rfl λp0=>wq 1 rfl λp1=>(cw (dP (qt eH (xT p1 cx) cr) (cw (dM (vX p0 T.l0 m24 d24 hr (gY λ_ _ _ z=>z)))) (cw (dP (qt eH (xT p1 cx) cr) (cw (dM (vX p0 T.l0 m21 d21 hr (gY λ_ _ _ z=>z)))) (cw (dP (qt eH (xT p1 cx) cr) (cw (dM (tN p0 T.l0 m23 d23 hr (gY λ_ _ _ z=>z) (eO (xT p1 cx) (xT p1 cx))))) (cw (dP (qt eH (xT p1 cx) cr) (cw (dM (tN p0 T.l0 m16 d16 hr (gY λ_ _ _ z=>z) (dr (xT p1 cx))))) (cw (dM (pm p0 T.l0 m22 d22 hr (eO (xT p1 cx) (xT p1 cx))))))))))))),R11.C1 rc h⟩
theorem Ah(F:fb K "read" "read" (top 9) f)(d13:T.D 1 a.f13 ["self","line"] (mT a.o0))(M0:Mk K a.o0 a.f13)(d25:T.X 5 a.f25 ["self","step"] (ix a.y3 a.o0))(m25:fT K a.o0 "take" a.f25)(d14:T.X 1 a.f14 ["self","wanted"] (eD a.y3 a.o0))(m14:fT K a.o0 "refuse" a.f14):T.X 6 f ["line"] (gW a.y3):=
 okx (N:=["line","reader"]) F λ_ _ _ _ _ _ _ E nd hr h=>⟨R11.B8 K a.y3 a.o0 E,wq 0 rfl λp0=>wq 1 rfl λp1=>wh 1 rfl nd λl1 g1=>(cu (sN 1 nd l1 (pk M0 d13 hr T.c0 (dr p0))) (cu (fQ PassesOwn.leaving (qt lB (dD dR (by rfl) T.n1 eK (dr (eE p1 rfl))) cx) (cw (dM (tN p1 T.l0 m25 d25 hr (gY λ_ _ _ z=>z) (dr (jP aL az bA jQ (eE p1 rfl))))))) (cu (dP (qt iV (eE p1 rfl) (dD eJ (by rfl) T.n1 eK (dr p0))) (cw (dM (tN p1 T.l0 m14 d14 hr (gY λ_ _ _ z=>z) (dr cr)))) dX) (cw (dY (jP aL az bA jQ (eE p1 rfl))))))),R11.DB rc h⟩
theorem Ao(F:fb K "_law_base_tells" "_law_base_tells" (top 24) f)(d26:T.X 6 a.f26 ["line"] (gW a.y3)):T.D 7 f ["_law_line"] (ir a.y3):=
 nB (N:=["_law_line","e","_law_many"]) F λ_ _ _ _ _ _ _ E nd hr h=>⟨R11.CG K a.y3 a.y1 a.y2 a.y0 a.o0,wq 0 rfl λp0=>(cu (tK (CN:=a.y3) ⟨rfl,rfl⟩ (λ_ _ z=>z) (Dh d26 hr T.g26 (dr p0) (λ_ _ z=>z)) (by rfl) T.x0 nd (j:=1) rfl rfl (λea oe ho=>(cu (sN 2 nd (ae rfl) (dA gM (ei gD (by rfl) T.n2 iT (dr (dD (jm XN (.head _) ho) (by rfl) T.n6 dn (eO (pv 1) (i3 (v:=.ref a.y1) (by rfl) T.x1 rfl))))) (ei gD (by rfl) T.n2 iT (dr (dD (jm XN (.head _) ho) (by rfl) T.n6 dn (eO (pv 1) (i3 (v:=.ref a.y2) (by rfl) T.x2 rfl))))))) (cu (sN 2 nd (ae rfl) (dA gM (pv 2) (ei gD (by rfl) T.n2 iT (dr (dD (jm XN (.head _) ho) (by rfl) T.n6 dn (eO (pv 1) (i3 (v:=.ref a.y3) (by rfl) T.x3 rfl))))))) (cw (dY (k8 (dD (jm XN (.head _) ho) (by rfl) T.n6 dn (eO (pv 1) (iO (v:=.ty "ValueError") (by rfl) T.n11 lQ rfl))) (mf (qe eH (pv 2) cx))))))))) (cw (dY ii))),R11.DI CC h⟩
theorem ti{fd:FuncData}(F:ug K "law" "law" (top 25) f fd)(d12:T.D 4 a.f12 ["_law_script"] (kY K))(d26:T.X 6 a.f26 ["line"] (gW a.y3))(d27:T.D 7 a.f27 ["_law_line"] (ir a.y3))(d11:T.D 2 a.f11 ["_law_line"] mQ)(d8:T.D 1 a.f8 ["_law_piece"] iu)(d7:T.D 2 a.f7 ["_law_found"] iJ):hU P w K mg base oM 8 f fd ["_law_script"] (S1.Cy K):=
 Dk (N:=["_law_script","_law_line","_law_found","_law_refused"]) F λ_ _ _ _ _ _ _ _ nd hr h=>⟨R11.u5 K a.y3 a.y1 a.y2 a.y0 a.o0,wq 0 rfl λp0=>wq 1 rfl λp1=>wq 2 rfl λp2=>wq 3 rfl λp3=>wh 1 rfl nd λl1 g1=>wh 2 rfl nd λl2 g2=>wh 3 rfl nd λl3 g3=>(cu (sN 1 nd l1 (pc d12 hr T.g12 (dr p0))) (cu (sN 2 nd l2 yz) (cu (sN 3 nd l3 ii) (cu (yr ⟨rfl,rfl⟩ (λ_ _ z=>z) (Di (i:=2) d26 hr T.g26 (dr p1) (λ_ _ z=>z) nd l2) (by rfl) T.x3 (λea oe=>(cw (sN 3 nd (ae rfl) ii)))) (cu (dP (qt lZ (pc d27 hr T.g27 (dr p1)) p3) (cw (dY ii)) dX) (cu (dP (ie (fH (pc d11 hr T.g11 (dr p1)))) (cw (dY p3)) dX) (cw (dY (k8 (tT p3) (k8 (pc d7 hr T.g7 (dr p2)) (mf (qe eH (pc d8 hr T.g8 (dr p2)) p1)))))))))))),R11.CK CC h⟩
end
theorem Cb{l:PySem.W.OpenLaw}{w:World}{K:aA}{h:Heap}{mg:Str→Option Value}{fa:Addr}(X:K.In h)(G:h.Ns mainGlobals mg)(hfa:mg "law"=some (.ref fa))
  {f0 f1 f2 f3 f4 f5 f6 f7 f8 f9 f10 f11 f12 f13 f14 f15 f16 f17 f18 f19 f20 f21 f22 f23 f24 f25 f26 f27 f28 C0 y0 y1 y2 y3:Addr} {tk0:Tok} {tk1:Tok}
  (aC0:PySem.W.nsIn K mainGlobals "Reader"=some (some (.ref C0)))
  (a0:PySem.W.nsIn K mainGlobals "_law_any"=some (some (.ref f0)))
  (F0:fb K "_law_any" "_law_any" (top 22) f0)
  (a1:PySem.W.nsIn K mainGlobals "_law_any_word"=some (some (.ref f1)))
  (F1:fb K "_law_any_word" "_law_any_word" (top 21) f1)
  (a2:PySem.W.nsIn K mainGlobals "_law_drawn_piece"=some (some (.ref f2)))
  (F2:fb K "_law_drawn_piece" "_law_drawn_piece" (top 13) f2)
  (a3:PySem.W.nsIn K mainGlobals "_law_drawn_main"=some (some (.ref f3)))
  (F3:fb K "_law_drawn_main" "_law_drawn_main" (top 15) f3)
  (a4:PySem.W.nsIn K mainGlobals "_law_whole"=some (some (.ref f4)))
  (F4:fb K "_law_whole" "_law_whole" (top 11) f4)
  (a5:PySem.W.nsIn K mainGlobals "_law_at"=some (some (.ref f5)))
  (F5:fb K "_law_at" "_law_at" (top 12) f5)
  (a6:PySem.W.nsIn K mainGlobals "_law_inside"=some (some (.ref f6)))
  (F6:fb K "_law_inside" "_law_inside" (top 14) f6)
  (a7:PySem.W.nsIn K mainGlobals "_law_is_piece"=some (some (.ref f7)))
  (F7:fb K "_law_is_piece" "_law_is_piece" (top 16) f7)
  (a8:PySem.W.nsIn K mainGlobals "_law_line_of"=some (some (.ref f8)))
  (F8:fb K "_law_line_of" "_law_line_of" (top 17) f8)
  (a9:PySem.W.nsIn K mainGlobals "_law_room"=some (some (.ref f9)))
  (F9:fb K "_law_room" "_law_room" (top 23) f9)
  (a10:PySem.W.nsIn K mainGlobals "_law_marked"=some (some (.ref f10)))
  (F10:fb K "_law_marked" "_law_marked" (top 18) f10)
  (a11:PySem.W.nsIn K mainGlobals "_law_well"=some (some (.ref f11)))
  (F11:fb K "_law_well" "_law_well" (top 19) f11)
  (a12:PySem.W.nsIn K mainGlobals "_law_asked"=some (some (.ref f12)))
  (F12:fb K "_law_asked" "_law_asked" (top 20) f12)
  (a13:PySem.W.findIn K (.ref C0) "__init__"=some (some (.ref f13)))
  (i13:PySem.W.isFn K (.ref f13)=true)
  (F13:fb K "__init__" "Reader.__init__" (db (top 8) 0) f13)
  (a14:PySem.W.findIn K (.ref C0) "refuse"=some (some (.ref f14)))
  (i14:PySem.W.isFn K (.ref f14)=true)
  (F14:fb K "refuse" "Reader.refuse" (db (top 8) 1) f14)
  (a15:PySem.W.findIn K (.ref C0) "skip"=some (some (.ref f15)))
  (i15:PySem.W.isFn K (.ref f15)=true)
  (F15:fb K "skip" "Reader.skip" (db (top 8) 2) f15)
  (a16:PySem.W.findIn K (.ref C0) "need"=some (some (.ref f16)))
  (i16:PySem.W.isFn K (.ref f16)=true)
  (F16:fb K "need" "Reader.need" (db (top 8) 3) f16)
  (a17:PySem.W.findIn K (.ref C0) "run_of"=some (some (.ref f17)))
  (i17:PySem.W.isFn K (.ref f17)=true)
  (F17:fb K "run_of" "Reader.run_of" (db (top 8) 4) f17)
  (a18:PySem.W.findIn K (.ref C0) "read_behind_word"=some (some (.ref f18)))
  (i18:PySem.W.isFn K (.ref f18)=true)
  (F18:fb K "read_behind_word" "Reader.read_behind_word" (db (top 8) 6) f18)
  (a19:PySem.W.findIn K (.ref C0) "read_let"=some (some (.ref f19)))
  (i19:PySem.W.isFn K (.ref f19)=true)
  (F19:fb K "read_let" "Reader.read_let" (db (top 8) 7) f19)
  (a20:PySem.W.findIn K (.ref C0) "read_number"=some (some (.ref f20)))
  (i20:PySem.W.isFn K (.ref f20)=true)
  (F20:fb K "read_number" "Reader.read_number" (db (top 8) 8) f20)
  (a21:PySem.W.findIn K (.ref C0) "read_between"=some (some (.ref f21)))
  (i21:PySem.W.isFn K (.ref f21)=true)
  (F21:fb K "read_between" "Reader.read_between" (db (top 8) 9) f21)
  (a22:PySem.W.findIn K (.ref C0) "make"=some (some (.ref f22)))
  (i22:PySem.W.isFn K (.ref f22)=true)
  (F22:fb K "make" "Reader.make" (db (top 8) 11) f22)
  (a23:PySem.W.findIn K (.ref C0) "read_behind_handed"=some (some (.ref f23)))
  (i23:PySem.W.isFn K (.ref f23)=true)
  (F23:fb K "read_behind_handed" "Reader.read_behind_handed" (db (top 8) 10) f23)
  (a24:PySem.W.findIn K (.ref C0) "read_piece"=some (some (.ref f24)))
  (i24:PySem.W.isFn K (.ref f24)=true)
  (F24:fb K "read_piece" "Reader.read_piece" (db (top 8) 5) f24)
  (a25:PySem.W.findIn K (.ref C0) "take"=some (some (.ref f25)))
  (i25:PySem.W.isFn K (.ref f25)=true)
  (F25:fb K "take" "Reader.take" (db (top 8) 12) f25)
  (a26:PySem.W.nsIn K mainGlobals "read"=some (some (.ref f26)))
  (F26:fb K "read" "read" (top 9) f26)
  (a27:PySem.W.nsIn K mainGlobals "_law_base_tells"=some (some (.ref f27)))
  (F27:fb K "_law_base_tells" "_law_base_tells" (top 24) f27)
  (a28:PySem.W.nsIn K mainGlobals "law"=some (some (.ref f28)))
  (F28:fb K "law" "law" (top 25) f28)
  (z0:PySem.W.nsIn K mainGlobals "abs"=some none)
  (z1:PySem.W.nsIn K mainGlobals "len"=some none)
  (z2:PySem.W.nsIn K mainGlobals "int"=some none)
  (z3:PySem.W.nsIn K mainGlobals "min"=some none)
  (z4:PySem.W.nsIn K mainGlobals "tuple"=some none)
  (z5:PySem.W.nsIn K mainGlobals "bool"=some none)
  (z6:PySem.W.nsIn K mainGlobals "isinstance"=some none)
  (z7:PySem.W.nsIn K mainGlobals "list"=some none)
  (z8:PySem.W.nsIn K mainGlobals "str"=some none)
  (z9:PySem.W.nsIn K mainGlobals "range"=some none)
  (z10:PySem.W.nsIn K mainGlobals "reversed"=some none)
  (z11:PySem.W.nsIn K mainGlobals "ValueError"=some none)
  (u0:PySem.W.nsIn K mainGlobals "LETTERS"=some (some (.str "abcdefghijklmnopqrstuvwxyz" tk0)))
  (u1:PySem.W.nsIn K mainGlobals "FIGURES"=some (some (.str "0123456789" tk1)))
  (pg0:PySem.W.plainGet K C0 Str.empty=true)
  (hd0:PySem.W.hasDictIn K C0=true)
  (po0:PySem.W.plainOver K C0=true)
  (sa0:PySem.W.findIn K (.ref C0) "__setattr__"=some (some (.builtin "object.__setattr__")))
  (mk0:PySem.W.makesIn K C0=true)
  (kc0:PySem.W.keepIn K (.ref C0)=true)
  (n0_line:PySem.W.findIn K (.ref C0) "line"=some none)
  (n0_at:PySem.W.findIn K (.ref C0) "at"=some none)
  (n0_steps:PySem.W.findIn K (.ref C0) "steps"=some none)
  (n0_made:PySem.W.findIn K (.ref C0) "made"=some none)
  (s0:PySem.W.nsIn K mainGlobals "StampError"=some (some (.ref y0)))
  (s1:PySem.W.nsIn K mainGlobals "NoName"=some (some (.ref y1)))
  (s2:PySem.W.nsIn K mainGlobals "NoStamp"=some (some (.ref y2)))
  (s3:PySem.W.nsIn K mainGlobals "NoPiece"=some (some (.ref y3)))
  (xx:PySem.W.excIn K y3 [.type "ValueError",.type "Exception",.type "BaseException",.type "object"] "ValueError.__new__"=true)
  (x1:PySem.W.mroIn K y3 (.type "object")=some true)
  (x2:PySem.W.mroIn K y3 (.type "BaseException")=some true)
  (x3:PySem.W.findIn K (.ref y3) "__class__"=some (some (.builtin "object.__class__")))
  (x4:PySem.W.findIn K (.ref y3) "__getattribute__"=some (some (.builtin "BaseException.__getattribute__")))
  (x5:PySem.W.findIn K (.ref y3) "__getattr__"=some none)
  (e1:PySem.W.exmOne K (.ref y3) (.ref y3)=some true)
  (e2:PySem.W.exmOne K (.ref y3) (.ref y0)=some true)
  (t1:PySem.W.kitOne K (.ref y3) (.ref y3)=some true)
  (t2:PySem.W.kitOne K (.ref y3) (.ref y1)=some false)
  (t3:PySem.W.kitOne K (.ref y3) (.ref y2)=some false)
  (t4:PySem.W.kitOne K (.ref y3) (.type "ValueError")=some true):
  ∃fd:FuncData,(∀(s:Shared)(v:Value),BindsTo s fd ⟨[v],[]⟩ [("_law_script",v)])∧∀base:Heap,K.In base→base.Ns mainGlobals mg→hU l.prog w K mg base oM 8 fa fd ["_law_script"] (S1.Cy K):=by
 have e:=hfa.symm.trans (aN X G a28);cases e;have rc:RC K C0:=⟨⟨pg0,hd0,po0,sa0⟩,n0_line,n0_at,n0_steps,n0_made⟩;have XN:PySem.W.XCls K y3:=⟨x1,x2,x3,x4,x5⟩;have CC:S1.Da K y3 y1 y2 y0:=⟨e1,e2,t1,t2,t3,t4⟩;have Y:∀{x q:Str}{st:Stmt}{f:Addr},fb K x q st f→PySem.W.keepIn K (.ref f)=true:=λ⟨_,z⟩=>z.kp;obtain⟨fd,Fl⟩:=F28;refine⟨fd,λs v=>?_,λbase _ _=>?_⟩
 ·obtain⟨oc,od,kV,doc,pm,an,cdv,ct,osl,rfl,lk,hcd⟩:=Fl.ex;exact .of_eq rfl
 have T:oH l.prog w K mg base ⟨f0,f1,f2,f3,f4,f5,f6,f7,f8,f9,f10,f11,f12,f13,f14,f15,f16,f17,f18,f19,f20,f21,f22,f23,f24,f25,f26,f27,C0,y0,y1,y2,y3⟩:=⟨aZ X G z0,aZ X G z1,aZ X G z2,aZ X G z3,aZ X G z4,aZ X G z5,aZ X G z6,aZ X G z7,aZ X G z8,aZ X G z9,aZ X G z10,aZ X G z11,aN X G a0,aN X G a1,aN X G a2,aN X G a3,aN X G a4,aN X G a5,aN X G a6,aN X G a7,aN X G a8,aN X G a9,aN X G a10,aN X G a11,aN X G a12,aN X G a26,aN X G a27,⟨_,aN X G u0⟩,⟨_,aN X G u1⟩,aN X G aC0,⟨pg0,hd0,po0,sa0⟩,aN X G s0,aN X G s1,aN X G s2,aN X G s3⟩;have g0:=zF T rc xx XN CC F0;have g1:=Aq T rc xx XN CC F1;have g2:=An T rc xx XN CC F2 g1 g0;have g3:=vi T rc xx XN CC F3 g2;have g4:=AW T rc xx XN CC F4;have g5:=zD T rc xx XN CC F5;have g6:=zC T rc xx XN CC F6;have g7:=Am T rc xx XN CC F7 g4 g6;have g8:=Al T rc xx XN CC F8;have g9:=vh T rc xx XN CC F9;have g10:=zB T rc xx XN CC F10;have g11:=zA T rc xx XN CC F11 g10;have g12:=zE T rc xx XN CC F12 g5 g9 g3 g8;have g13:=Ae T rc xx XN CC F13;have g14:=Ag T rc xx XN CC F14;have g15:=AY T rc xx XN CC F15;have g16:=Aj T rc xx XN CC F16 g15 ⟨a15,i15,Y F15⟩ g14 ⟨a14,i14,Y F14⟩;have g17:=Ab T rc xx XN CC F17;have g18:=Ai T rc xx XN CC F18 g15 ⟨a15,i15,Y F15⟩;have g19:=Ad T rc xx XN CC F19 g17 ⟨a17,i17,Y F17⟩ g14 ⟨a14,i14,Y F14⟩ g16 ⟨a16,i16,Y F16⟩;have g20:=Ac T rc xx XN CC F20 g15 ⟨a15,i15,Y F15⟩ g17 ⟨a17,i17,Y F17⟩ g14 ⟨a14,i14,Y F14⟩;have g21:=AZ T rc xx XN CC F21 g15 ⟨a15,i15,Y F15⟩ g16 ⟨a16,i16,Y F16⟩;have g22:=Ak T rc xx XN CC F22;have g23:=Af T rc xx XN CC F23 g15 ⟨a15,i15,Y F15⟩ g16 ⟨a16,i16,Y F16⟩ g22 ⟨a22,i22,Y F22⟩;have g24:=Aa T rc xx XN CC F24 g17 ⟨a17,i17,Y F17⟩ g18 ⟨a18,i18,Y F18⟩ g15 ⟨a15,i15,Y F15⟩ g19 ⟨a19,i19,Y F19⟩ g20 ⟨a20,i20,Y F20⟩;have g25:=AX T rc xx XN CC F25 g24 ⟨a24,i24,Y F24⟩ g21 ⟨a21,i21,Y F21⟩ g23 ⟨a23,i23,Y F23⟩ g16 ⟨a16,i16,Y F16⟩ g22 ⟨a22,i22,Y F22⟩;have g26:=Ah T rc xx XN CC F26 g13 ⟨mk0,a13,i13,kc0⟩ g25 ⟨a25,i25,Y F25⟩ g14 ⟨a14,i14,Y F14⟩;have g27:=Ao T rc xx XN CC F27 g26;exact ti T rc xx XN CC Fl g12 g26 g27 g11 g8 g7
theorem De{l:PySem.W.OpenLaw}{q:Program}{loose:List Str}{XP:(Str→Option Value)→Heap→Prop}{YP:World→Heap→Prop}{d:DefRec}{K:Params→aA}(hn:l.most=some 63)(hdf:d.params.defaults=[])
  (hY:∀(w:World)(h:Heap),YP w h→(K w.params).In h)
  (F:∀(w:World)(mg:Str→Option Value)(fa:Addr)(h:Heap),(K w.params).In h→h.Ns mainGlobals mg→mg d.name=some (.ref fa)→
   ∃fd:FuncData,(∀(s:Shared)(u:Value),BindsTo s fd ⟨[u],[]⟩ [("_law_script",u)])∧∀base:Heap,(K w.params).In base→base.Ns mainGlobals mg→hU l.prog w (K w.params) mg base oM 8 fa fd ["_law_script"] (S1.Cy (K w.params))):
  PySem.W.WalkO q loose XP YP l.row.toRowW d [] (λf vs=>PySem.call f vs):=
 L2.BQ (n:=63) (k:=8) (x:="_law_script") (CX:=λ_=>oM) (sp:=λw=>S1.Cy (K w.params)) hn (by decide) hdf ⟨rfl,by decide,by decide⟩ hY F (λ_ _ a ns hl _ hS=>⟨a,ns,rfl,hS,hl,λ_=>rfl⟩) λ_ _ _ _ _ z=>z
end K11
open PySem PySem.W PyProof.Rows
set_option maxRecDepth 100000 in
set_option maxHeartbeats 0 in
theorem PySem.Challenge.cw_stampword_k11_lines_read_or_refused_holds : PySem.Challenge.rw_stampword_k11_lines_read_or_refused.Holds := by
 w_on;refine QWtp ?_
 k_fill
 refine K11.De (l:=PySem.Challenge.rw_stampword_k11_lines_read_or_refused) rfl rfl (λw h Y=>PySem.W.kIn_of Y) ?F
 case F=>
  intro w mg fa h KX G hmg
  refine' K11.Cb KX G hmg ?aC0 ?a0 ?F0 ?a1 ?F1 ?a2 ?F2 ?a3 ?F3 ?a4 ?F4 ?a5 ?F5 ?a6 ?F6 ?a7 ?F7 ?a8 ?F8 ?a9 ?F9 ?a10 ?F10 ?a11 ?F11 ?a12 ?F12 ?a13 ?i13 ?F13 ?a14 ?i14 ?F14 ?a15 ?i15 ?F15 ?a16 ?i16 ?F16 ?a17 ?i17 ?F17 ?a18 ?i18 ?F18 ?a19 ?i19 ?F19 ?a20 ?i20 ?F20 ?a21 ?i21 ?F21 ?a22 ?i22 ?F22 ?a23 ?i23 ?F23 ?a24 ?i24 ?F24 ?a25 ?i25 ?F25 ?a26 ?F26 ?a27 ?F27 ?a28 ?F28 ?z0 ?z1 ?z2 ?z3 ?z4 ?z5 ?z6 ?z7 ?z8 ?z9 ?z10 ?z11 ?u0 ?u1 ?pg0 ?hd0 ?po0 ?sa0 ?mk0 ?kc0 ?n0_line ?n0_at ?n0_steps ?n0_made ?s0 ?s1 ?s2 ?s3 ?xx ?x1 ?x2 ?x3 ?x4 ?x5 ?e1 ?e2 ?t1 ?t2 ?t3 ?t4
  (case aC0=>k_is)
  (case a0=>k_is)
  (case F0=>apply L2.CQ;k_is;k_is;k_is)
  (case a1=>k_is)
  (case F1=>apply L2.CQ;k_is;k_is;k_is)
  (case a2=>k_is)
  (case F2=>apply L2.CQ;k_is;k_is;k_is)
  (case a3=>k_is)
  (case F3=>apply L2.CQ;k_is;k_is;k_is)
  (case a4=>k_is)
  (case F4=>apply L2.CQ;k_is;k_is;k_is)
  (case a5=>k_is)
  (case F5=>apply L2.CQ;k_is;k_is;k_is)
  (case a6=>k_is)
  (case F6=>apply L2.CQ;k_is;k_is;k_is)
  (case a7=>k_is)
  (case F7=>apply L2.CQ;k_is;k_is;k_is)
  (case a8=>k_is)
  (case F8=>apply L2.CQ;k_is;k_is;k_is)
  (case a9=>k_is)
  (case F9=>apply L2.CQ;k_is;k_is;k_is)
  (case a10=>k_is)
  (case F10=>apply L2.CQ;k_is;k_is;k_is)
  (case a11=>k_is)
  (case F11=>apply L2.CQ;k_is;k_is;k_is)
  (case a12=>k_is)
  (case F12=>apply L2.CQ;k_is;k_is;k_is)
  (case a13=>k_is)
  (case i13=>k_is)
  (case F13=>apply L2.CQ;k_is;k_is;k_is)
  (case a14=>k_is)
  (case i14=>k_is)
  (case F14=>apply L2.CQ;k_is;k_is;k_is)
  (case a15=>k_is)
  (case i15=>k_is)
  (case F15=>apply L2.CQ;k_is;k_is;k_is)
  (case a16=>k_is)
  (case i16=>k_is)
  (case F16=>apply L2.CQ;k_is;k_is;k_is)
  (case a17=>k_is)
  (case i17=>k_is)
  (case F17=>apply L2.CQ;k_is;k_is;k_is)
  (case a18=>k_is)
  (case i18=>k_is)
  (case F18=>apply L2.CQ;k_is;k_is;k_is)
  (case a19=>k_is)
  (case i19=>k_is)
  (case F19=>apply L2.CQ;k_is;k_is;k_is)
  (case a20=>k_is)
  (case i20=>k_is)
  (case F20=>apply L2.CQ;k_is;k_is;k_is)
  (case a21=>k_is)
  (case i21=>k_is)
  (case F21=>apply L2.CQ;k_is;k_is;k_is)
  (case a22=>k_is)
  (case i22=>k_is)
  (case F22=>apply L2.CQ;k_is;k_is;k_is)
  (case a23=>k_is)
  (case i23=>k_is)
  (case F23=>apply L2.CQ;k_is;k_is;k_is)
  (case a24=>k_is)
  (case i24=>k_is)
  (case F24=>apply L2.CQ;k_is;k_is;k_is)
  (case a25=>k_is)
  (case i25=>k_is)
  (case F25=>apply L2.CQ;k_is;k_is;k_is)
  (case a26=>k_is)
  (case F26=>apply L2.CQ;k_is;k_is;k_is)
  (case a27=>k_is)
  (case F27=>apply L2.CQ;k_is;k_is;k_is)
  (case a28=>k_is)
  (case F28=>apply L2.CQ;k_is;k_is;k_is)
  (case z0=>k_is)
  (case z1=>k_is)
  (case z2=>k_is)
  (case z3=>k_is)
  (case z4=>k_is)
  (case z5=>k_is)
  (case z6=>k_is)
  (case z7=>k_is)
  (case z8=>k_is)
  (case z9=>k_is)
  (case z10=>k_is)
  (case z11=>k_is)
  (case u0=>k_is)
  (case u1=>k_is)
  (case pg0=>k_is)
  (case hd0=>k_is)
  (case po0=>k_is)
  (case sa0=>k_is)
  (case mk0=>k_is)
  (case kc0=>k_is)
  (case n0_line=>k_is)
  (case n0_at=>k_is)
  (case n0_steps=>k_is)
  (case n0_made=>k_is)
  (case s0=>k_is)
  (case s1=>k_is)
  (case s2=>k_is)
  (case s3=>k_is)
  (case xx=>k_exc)
  (case x1=>k_is)
  (case x2=>k_is)
  (case x3=>k_is)
  (case x4=>k_is)
  (case x5=>k_is)
  (case e1=>kts_exm)
  (case e2=>kts_exm)
  (case t1=>kit_is)
  (case t2=>kit_is)
  (case t3=>kit_is)
  (case t4=>kit_is)
#print axioms PySem.Challenge.cw_stampword_k11_lines_read_or_refused_holds
