import PyProof.Rows.All
import Wide.All
import OpenK.AllK
import Wide.FinOn
import HandS.ForMost
import HandS.SortInts
import HandS.IsInst
import HandS.Zip
import HandS.Walk
import HandS.Evl
import HandS.More
import HandS.Lambda
import HandS.EndTab
import HandS.SortKw
import KE.SortData
import KE.SortKeyHeap
import HandS.ExcIs
import HandS.HotCalls
import HandS.ExcCtx
import HandS.ListItems
import HandS.Wide
import HandS.Style
import KE.DataMinKey
import HandS.WideBits
import KE.IntBitsLaws
import PyProof.ReprRoads
import PyProof.ReprLen
import PyProof.FitsInt
import HandS.Flt
import PySem.Challenge.RW_rankbounds_k13_whole_apart
set_option Elab.async false
set_option linter.all false
set_option maxRecDepth 100000
set_option maxHeartbeats 4000000
/-! Own rules over the hand layer: calls by promises, a slice by twos. -/
namespace Own
open PySem PySem.Spec PyProof.Rows L2
/-- a def of the module that may be called by its name -/
structure CalK (P : Program) (w : World) (K : PySem.W.Frag) (mg : Str → Option Value) (base : Heap) (k : Nat) (x : Str) (sp : Sp) : Prop where
  ex : ∃ (f : Addr) (fd : FuncData) (ps : List Str), FnOk P w K mg base CX0 k f fd ps sp ∧ mg x = some (.ref f) ∧ PySem.W.keepIn K (.ref f) = true ∧ Binds K fd ps []
section
variable {X : Cx} {k j : Nat} {x : Str} {sp : Sp} {p pos apos : Pos} {e o : Expr} {es : List Expr} {ta : TE} {t : TA}
theorem pe_k (c : CalK X.prog X.w X.K X.mg X.base k x sp) (hr : Room j X.A) (hk : k ≤ j) (hg : Gl X x) (ha : PA X (e :: es) t)
    (hdb : (x == ("__debug__" : Str)) = false := by decide) (he : starEach (e :: es) X.env = (false, eval e X.env) :: starEach es X.env := by rfl) (hpl : (backTo pos (starEach es X.env)).any (·.1) = false := by rfl) :
    PE X (.Call (.Name x p) (e :: es) [] pos) (tCall sp [] E0 t) := by
  obtain ⟨f, fd, ps, F, hm, kp, b⟩ := c.ex
  exact pe_call F (hr.mono hk) hg hm kp b .nil pass0 ha hdb he hpl
/-! xs[1::2] -/
def odds {α : Type} : List α → List α
  | _ :: y :: r => y :: odds r
  | _ => []
theorem odds_length {α : Type} : ∀ l : List α, (odds l).length = l.length / 2
  | [] => by simp [odds]
  | [_] => by simp [odds]
  | _ :: _ :: r => by
    show (odds r).length + 1 = (r.length + 1 + 1) / 2
    rw [odds_length r]
    omega
theorem vals_odds : ∀ {xs : List V} {us : List Value}, Vals xs us → Vals (odds xs) (Own.odds us)
  | _, _, .nil => .nil
  | _, _, .cons _ .nil => .nil
  | _, _, .cons _ (.cons r t) => .cons r (vals_odds t)
end
theorem odds_pick {α : Type} : ∀ l : List α, (List.range (l.length / 2)).filterMap (fun k => l[1 + 2 * k]?) = odds l
  | [] => by simp [odds]
  | [_] => by simp [odds]
  | x :: y :: r => by
    have e : (x :: y :: r).length / 2 = r.length / 2 + 1 := by
      show (r.length + 1 + 1) / 2 = r.length / 2 + 1
      omega
    rw [e, List.range_succ_eq_map, List.filterMap_cons]
    have e0 : (x :: y :: r)[1 + 2 * 0]? = some y := rfl
    rw [e0]
    show y :: List.filterMap (fun k => (x :: y :: r)[1 + 2 * k]?) (List.map Nat.succ (List.range (r.length / 2))) = y :: odds r
    rw [List.filterMap_map, ← odds_pick r]
    have e1 : ((fun k => (x :: y :: r)[1 + 2 * k]?) ∘ Nat.succ) = fun k => r[1 + 2 * k]? := by
      funext k
      show (x :: y :: r)[1 + 2 * (k + 1)]? = r[1 + 2 * k]?
      rw [show 1 + 2 * (k + 1) = (1 + 2 * k) + 1 + 1 by omega, List.getElem?_cons_succ, List.getElem?_cons_succ]
    rw [e1]
theorem pick_odds (its : List Value) : slicePick its.toArray (some 1) none (some 2) = (odds its).toArray := by
  unfold slicePick
  have hb : sliceBounds (some 1) none (some 2) its.toArray.size = (((min 1 its.length : Nat) : Int), (its.length : Int), 2) := by
    simp only [sliceBounds, List.size_toArray]
    refine Prod.ext ?_ (Prod.ext ?_ rfl)
    · simp only [Option.getD_some]
      split <;> omega
    · simp only [Option.getD_some]
      split <;> omega
  rw [hb]
  have hr : sliceRange ((min 1 its.length : Nat) : Int) (its.length : Int) 2 = (List.range (its.length / 2)).map fun k => 1 + 2 * k := by
    unfold sliceRange
    simp only [show (2 : Int) > 0 by decide, if_true]
    by_cases h : ((min 1 its.length : Nat) : Int) < (its.length : Int)
    · rw [if_pos h]
      have e : ((its.length : Int) - ((min 1 its.length : Nat) : Int) + 2 - 1) / 2 = ((its.length / 2 : Nat) : Int) := by omega
      rw [e, Int.toNat_natCast]
      apply List.map_congr_left
      intro k hk
      omega
    · rw [if_neg h]
      have e : its.length / 2 = 0 := by omega
      rw [e]
      rfl
  rw [hr, List.filterMap_map]
  have e2 : ((fun i => its.toArray[i]?) ∘ fun k => 1 + 2 * k) = fun k => its[1 + 2 * k]? := by
    funext k
    show its.toArray[1 + 2 * k]? = its[1 + 2 * k]?
    simp
  rw [e2, odds_pick]
section
variable {X : Cx}
/-- xs[1::2] of a list: a new list -/
def tStep2 (K : PySem.W.Frag) (te : TE) : TE := fun σ H Q => te σ H fun x H1 => ∃ a xs, x = .ref a ∧ SqL K H1 a xs ∧ ∀ p, H1 p = none → Q (.ref p) (upd H1 p (.lst (odds xs)))
theorem pe_step2 {e : Expr} {te : TE} {k1 k2 : Nat} {p1 p2 p3 pos : Pos} (he : PE X e te) : PE X (.Subscript e (.Slice (some (.Constant (.int 1) k1 p1)) none (some (.Constant (.int 2) k2 p2)) p3) pos) (tStep2 X.K te) := by
  refine ⟨fun pins s σ H Q I h => ?_⟩
  refine Subscript_ (thn (he.run pins s σ H _ I h) fun v s1 hv => ?_)
  obtain ⟨x, H1, I1, r1, a, xs, ex, hx, q⟩ := hv
  subst ex
  cases r1
  have hlo : PO X (some (.Constant (.int 1) k1 p1)) (tPart (tC (.int 1))) := po_some pe_int
  have hst : PO X (some (.Constant (.int 2) k2 p2)) (tPart (tC (.int 2))) := po_some pe_int
  refine wpAny_Slice (thn (hlo.run pins s1 σ H1 (fun o H2 => o = some 1 ∧ H2 = H1) I1 ⟨1, rfl, rfl, rfl⟩) fun vl s2 hv2 => ?_)
  obtain ⟨l, H2, I2, pl, el, e2⟩ := hv2
  subst el e2
  refine thn (po_none.run pins s2 σ H2 (fun o H3 => o = none ∧ H3 = H2) I2 ⟨rfl, rfl⟩) fun vu s3 hv3 => ?_
  obtain ⟨u, H3, I3, pu, eu, e3⟩ := hv3
  subst eu e3
  refine thn (hst.run pins s3 σ H3 (fun o H4 => o = some 2 ∧ H4 = H3) I3 ⟨2, rfl, rfl, rfl⟩) fun vs s4 hv4 => ?_
  obtain ⟨o, H4, I4, ps, eo, e4⟩ := hv4
  subst eo e4
  have I5 : Inv X pins σ H4 { s4 with heap := s4.heap.push { cls := .type "slice", data := .fields #[vl, vu, vs] } } := I4.kept (t' := s4.toks) fun b ob q => Heap.get?_push_of_some _ q
  obtain ⟨its, r, ht, hz⟩ := I5.list hx
  have hlen := r.length
  show wpAny (model X.prog X.w) X.A (subscriptTail e (.Slice (some (.Constant (.int 1) k1 p1)) none (some (.Constant (.int 2) k2 p2)) p3) (.ref a) (.ref s4.heap.objs.size)) (EP X pins σ Q) X.xe { s4 with heap := s4.heap.push { cls := .type "slice", data := .fields #[vl, vu, vs] } }
  refine tail_any (ops := [.ref a, .ref s4.heap.objs.size]) ht.isList.typeIs (PySem.slot_list_getitem.lookup) ?_ (by with_unfolding_all rfl)
  refine wpAny_getItem_list_slice ht.isList (Heap.IsSliceOf.new _ vl vu vs) pl pu ps (by decide) ?_ (by rw [List.size_toArray]; omega)
  rw [pick_odds]
  refine ⟨.ref _, _, I5.laid (t' := s4.toks) (o := .lst (odds xs)) (fun b ob q => Heap.get?_push_of_some _ q) (Nat.le_refl _) ?_, rfl, q _ (I5.hok.fresh (Nat.le_refl _))⟩
  exact ⟨by rw [odds_length]; omega, _, 0, vals_odds r, Heap.get?_push_size _ rfl⟩
end

section
variable {X : Cx} {K : PySem.W.Frag}
theorem ix_listK (h : X.K = K := by rfl) : IxR X (rIxL K) := h ▸ ix_list
theorem ix_tupK (h : X.K = K := by rfl) : IxR X (rIxT K) := h ▸ ix_tup
theorem call_lenK (h : X.K = K := by rfl) : CallR X (.builtin "len") (Evl.rLenS K) := by
  subst h
  exact call_len_seq
theorem call_listK (h : X.K = K := by rfl) : CallR X (.type "list") (Evl.rListS K) := by
  subst h
  exact call_list_of
theorem call_isiK1 (h : X.K = K := by rfl) : CallR X (.builtin "isinstance") (rIsi K) := h ▸ call_isi
theorem cr_sumK (hc : X.calm = true) (h : X.K = K := by rfl) : CallR X (.builtin "sum") (rSum K) := h ▸ cr_sum hc
theorem cr_allK (hc : X.calm = true) (h : X.K = K := by rfl) : CallR X (.builtin "all") (rAll K) := h ▸ cr_all hc
theorem cr_anyK (hc : X.calm = true) (h : X.K = K := by rfl) : CallR X (.builtin "any") (rAny K) := h ▸ cr_any hc
theorem cr_sortedK (h : X.K = K := by rfl) : CallR X (.builtin "sorted") (rSortedI K) := h ▸ cr_sortedI
theorem pe_fldK {e : Expr} {f : Str} {pos : Pos} {ta : TE} (he : PE X e ta) (h : X.K = K := by rfl) (hb : attributeBase e f X.env (eval e X.env) = eval e X.env := by rfl) : PE X (.Attribute e f pos) (tFld K ta f) := h ▸ pe_fld he hb
theorem pg_tupK {es : List Expr} {k : Nat} {pos : Pos} {t : TGs} {n : Nat} (hc : X.calm = true) (hp : PGs X es t) (h : X.K = K := by rfl) (hn : (assignEach es X.env).length = n := by rfl) (hst : (assignEach es X.env).findIdx? (·.1) = none := by rfl) : PG X (.Tuple es k pos) (gTup K n t) := h ▸ pg_tup hc hp hn hst
theorem op_eqDK (hu : X.A.units + 64 < cLine) (h : X.K = K := by rfl) : OpR X (compareOp .Eq) (rEqD K) := h ▸ op_eqD hu
theorem op_neDK (hu : X.A.units + 64 < cLine) (h : X.K = K := by rfl) : OpR X (compareOp .NotEq) (rNeD K) := h ▸ op_neD hu
theorem op_inK (h : X.K = K := by rfl) : OpR X (compareOp .In) (rIn K false) := h ▸ op_in_seq
theorem op_notInK (h : X.K = K := by rfl) : OpR X (compareOp .NotIn) (rIn K true) := h ▸ op_notIn_seq
theorem pi_listK {tg l : Expr} {tl : TE} (hl : PE X l tl) (h : X.K = K := by rfl) : PI X tg l (iList K tl) := h ▸ pi_list hl
theorem pi_tupK {tg l : Expr} {tl : TE} (hl : PE X l tl) (h : X.K = K := by rfl) : PI X tg l (iTup K tl) := h ▸ pi_tup hl
end

section
variable {K : PySem.W.Frag} {a b : Addr} {xs ys : List V}
theorem walk_zipT {n : Nat} (hn : n = min xs.length ys.length) : Walk (RZ.ItzT K a b) n (fun H => SqT K H a xs ∧ SqT K H b ys) (YPair (fun i => xs[i]?) (fun i => ys[i]?)) := by
  subst hn
  refine ⟨fun i H hi q => ?_, fun H q => ⟨xs, ys, q.1, q.2, by omega⟩, fun i H v H' hi q y => ?_⟩
  · have h1 : i < xs.length := by omega
    have h2 : i < ys.length := by omega
    exact ⟨xs, ys, xs[i], ys[i], q.1, q.2, by simp [h1], by simp [h2]⟩
  · obtain ⟨T, x, z, h1, h2, h3, h4, h5⟩ := y
    exact ⟨T, x, z, h1, h2, h3, h4 xs q.1, h5 ys q.2⟩
end

end Own

/-! sorted(e, key=lambda x: x[0]), the items tuples whose first is a whole number. -/
namespace Own
open PySem PySem.Spec PyProof.Rows L2 LamX
/-- the lambda's scope: one name -/
structure OneS (scope : Scope) (n : Str) : Prop where
  kind : scope.kind = .function
  co : scope.isCoroutine = false
  gen : scope.isGenerator = false
  names : scope.names = [(n, .local)]
  hd : (n == ("__debug__" : Str)) = false
theorem one_lookup (n : Str) : List.lookup n [(n, NameKind.local)] = some .local := by simp
/-- the lambda called with a tuple: its first item -/
theorem lam_first {prog : Program} {w : World} {A : Around} {s : Shared} {E : Value → Shared → Prop} {Q : Value → Shared → Prop} {f t : Addr} {q : Str} {params : Arguments} {scope : Scope} {pm ctv : Value} {c' : Addr} {n : Str} {k : Nat} {p1 p2 p3 : Pos} {items : Array Value} {v0 : Value}
    (ho : s.heap.get? f = some (PySem.W.kla_obj "<lambda>" q params (.Subscript (.Name n p1) (.Constant (.int 0) k p2) p3) scope [] pm c' ctv)) (S : OneS scope n) (hcd : s.heap.CodeRec (.ref c') q) (hlim : s.heap.NoLimit) (hroom : A.depth < recursionLimit)
    (hbind : ∀ u : Value, bindArgs (PySem.W.kla_fn "<lambda>" q params (.Subscript (.Name n p1) (.Constant (.int 0) k p2) p3) scope [] pm (.ref c') ctv) ⟨[u], []⟩ = pure [(n, u)])
    (ht : IsTup s.heap t items) (h0 : items[0]? = some v0)
    (h : ∀ h' tk, (∀ b o, s.heap.get? b = some o → h'.get? b = some o) → Q v0 { s with heap := h', toks := tk }) :
    wpAny (model prog w) A (call (.ref f) [.ref t]) Q E s := by
  refine wpAny_call (PySem.W.kla_callFunE hroom ho rfl S.co S.gen rfl hcd ?_)
  rw [hbind]
  refine wpAny_pure (wpAny_newFunctionEnv (fun y hy => ?_) (fun y hy => ?_) (fun h₁ hns hsb => ⟨hlim.fresh _ hsb, ?_⟩) S.kind)
  · have hy : y ∈ scope.names := hy
    rw [S.names] at hy
    rw [List.mem_singleton.mp hy]
    intro z
    cases z
  · rw [List.mem_singleton.mp hy]
    show scope.names.lookup n = some .local
    rw [S.names]
    exact one_lookup n
  · have kp : ∀ b o, s.heap.get? b = some o → h₁.get? b = some o := fun b o e => hsb.extBut b o (Nat.ne_of_lt (Heap.lt_size e)) (Heap.get?_push_of_some _ e)
    show codeAny _ _ (.expr (.Subscript (.Name n p1) (.Constant (.int 0) k p2) p3) (PySem.W.envX q scope s.heap.objs.size f (.ref c') [])) _ _
    refine PySem.W.kla_codeExpr ?_
    refine Subscript_Constant ?_
    refine wpAny_Name (wpAny_loadName_local (m := fun y => [(n, Value.ref t)].reverse.lookup y) (v := .ref t) S.kind ?_ hns ?_ ?_) S.hd
    · show scope.names.lookup n = some .local
      rw [S.names]
      exact one_lookup n
    · show List.lookup n [(n, Value.ref t)] = some (.ref t)
      simp
    · refine wpAny_Constant_int ?_
      obtain ⟨o, e, c⟩ := ht
      have ht' : IsTup h₁ t items := ⟨o, kp _ _ e, c⟩
      have hsz : 0 < items.size := (Array.getElem?_eq_some_iff.mp h0).1
      refine ⟨"tuple", _, slot_tuple_getitem.lookup, ht'.typeIs, getItem_tuple (j := 0) ht' (by decide) (by decide) ?_ h0 (h _ _ kp)⟩
      rw [seqIndex_of (by decide) (by omega)]
      rfl
theorem eachIs_of : ∀ {xs : List V} {us : List Value}, Vals xs us → PySem.W.EachIs (fun (u : Value) (v : V) => RelV v u) us xs
  | _, _, .nil => .nil
  | _, _, .cons r t => .cons r (eachIs_of t)
theorem of_eachIs : ∀ {us : List Value} {xs : List V}, PySem.W.EachIs (fun (u : Value) (v : V) => RelV v u) us xs → Vals xs us
  | _, _, .nil => .nil
  | _, _, .cons r t => .cons r (of_eachIs t)
/-- nothing but a table may stand there -/
def NewN (H : Hp) (p : Addr) : Prop := ∀ o, H p = some o → ∃ ps, o = .tbl ps
theorem NewN.of {H : Hp} {p : Addr} (h : H p = none) : NewN H p := fun o e => by
  rw [h] at e
  cases e
theorem NewN.back {H H' : Hp} {p : Addr} (e : ExtN H H') (h : H' p = none) : NewN H p := fun o q => by
  cases o with
  | tbl ps => exact ⟨ps, rfl⟩
  | _ =>
    have z := e _ _ q (fun ps y => nomatch y)
    rw [h] at z
    cases z
def byFst (k : V → Int) (xs : List V) : List V := xs.mergeSort fun u v => decide (k u ≤ k v)
def tSortFst (T : List (Addr × Str)) (K : PySem.W.Frag) (te : TE) : TE := fun σ H Q => te σ H fun x H1 => Tabs T H1 ∧ ∃ (a : Addr) (xs : List V) (k : V → Int), x = .ref a ∧ SqL K H1 a xs ∧ (∀ v ∈ xs, ∃ t r, v = .ref t ∧ H1 t = some (.tup (.int (k v) :: r))) ∧
  ∀ H2 p, ExtN H1 H2 → Tabs T H2 → NewN H1 p → H2 p = some (.lst (byFst k xs)) → Q (.ref p) H2
theorem codeO_at' {P : Program} {w : World} {H : Hp} {h : Heap} {c : Addr} {q : Str} (hok : HOk P w H h) (e : H c = some (CodeO c q)) : h.CodeRec (.ref c) q := by
  obtain ⟨⟨oc, vs, t, e1, e2, e3⟩, _, _⟩ := hok c _ e
  exact ⟨c, oc, vs, t, rfl, e1, e2, e3⟩
theorem lam_hall {nm : Str} {e : Expr} {kpos pos : Pos} {env : Env} : (backToKw pos (keywordEach [⟨some nm, e, kpos⟩] env)).all (·.1.isSome) = true := rfl
section
variable {X : Cx} {K : PySem.W.Frag}
theorem pe_sortFst {T : List (Addr × Str)} {c P : Addr} {e : Expr} {te : TE} {params : Arguments} {scope : Scope} {n : Str} {k j : Nat} {p p1 p2 p3 lpos kpos pos : Pos} (TB : TabB X.base X.mg c P) (hcode : X.env.code = .ref c) (hmT : (P, X.env.qual ++ "<lambda>") ∈ T) (hu : ∀ p ∈ T, p.1 = P → p.2 = X.env.qual ++ "<lambda>")
    (hr : Room j X.A) (hj : 2 ≤ j) (hg : Gl X "sorted") (hm : X.mg "sorted" = none) (he : PE X e te) (S : OneS scope n) (hdef : defaultsOf params X.env = ([], []))
    (hbind : ∀ (q : Str) (pm cv ctv u : Value), bindArgs (PySem.W.kla_fn "<lambda>" q params (.Subscript (.Name n p1) (.Constant (.int 0) k p2) p3) scope [] pm cv ctv) ⟨[u], []⟩ = pure [(n, u)]) (hK : X.K = K := by rfl)
    (hst : starEach [e] X.env = (false, eval e X.env) :: starEach [] X.env := by rfl)
    (he1 : backTo pos (starEach (e :: []) X.env) = (false, eval e X.env) :: backTo pos (starEach [] X.env) := by rfl) (hpl : (backTo pos (starEach (e :: []) X.env)).any (·.1) = false := by rfl) :
    PE X (.Call (.Name "sorted" p) [e] [⟨some "key", .Lambda params (.Subscript (.Name n p1) (.Constant (.int 0) k p2) p3) scope lpos, kpos⟩] pos) (tSortFst T K te) := by
  subst hK
  have ha : PA X [e] (tCons te tNil) := pa_cons he pa_nil hst
  refine ⟨fun pins s σ H Q I h => ?_⟩
  have hv : bootBuiltins "sorted" = some (.builtin "sorted") := by decide +kernel
  refine wpAny_Call_Name_kw (ld_blt I hg hm hv ?_ (by decide) (by decide))
  refine PyProof.Rows.callWith_kw (thn (ha.run pos pins s σ H (fun vs H1 => match vs with
    | [x] => Tabs T H1 ∧ ∃ (a : Addr) (xs : List V) (k : V → Int), x = .ref a ∧ SqL X.K H1 a xs ∧ (∀ v ∈ xs, ∃ t r, v = .ref t ∧ H1 t = some (.tup (.int (k v) :: r))) ∧
      ∀ H2 p, ExtN H1 H2 → Tabs T H2 → NewN H1 p → H2 p = some (.lst (byFst k xs)) → Q (.ref p) H2
    | _ => False) I h) fun us s1 hh => ?_) he1 hpl (by rfl) (by rfl)
  · obtain ⟨vs, H1, I1, r1, q0⟩ := hh
    obtain ⟨x, rfl⟩ : ∃ x, vs = [x] := by
      match vs, q0 with
      | [x], _ => exact ⟨x, rfl⟩
    obtain ⟨hT1, a, xs, kf, rfl, hS, hx, q⟩ := q0
    obtain ⟨u1, rfl, ru⟩ := vals1 r1
    obtain rfl : u1 = Value.ref a := ru
    show wpAny _ _ (evalAll ((do let v ← eval (.Lambda params (.Subscript (.Name n p1) (.Constant (.int 0) k p2) p3) scope lpos) X.env; standAt pos; pure v) :: [])) _ _ s1
    have hfree : ∀ y ∈ scope.names, y.2 = NameKind.free → ∃ c, X.env.cells.lookup y.1 = some c := fun y hy z => by
      rw [S.names] at hy
      rw [List.mem_singleton.mp hy] at z
      cases z
    refine wpAny_evalAll_cons (wpAny_bind (lam_make2 I1 TB hcode hmT hu hT1 hdef hfree fun f c' pm ctv H2 s2 I2 eN T2 hf hfn hfr hco => wpAny_bind (wpAny_standAt (wpAny_pure (wpAny_evalAll_nil ?_)))))
    have hclo : cloFrom X.env.cells scope.names [] = [] := by
      rw [S.names]
      rfl
    rw [hclo] at hf
    have hS2 : SqL X.K H2 a xs := by
      rcases hS with (z | ⟨o, z⟩) | z
      · exact .inl (.inl (eN _ _ z fun ps y => nomatch y))
      · exact .inl (.inr ⟨o, eN _ _ z fun ps y => nomatch y⟩)
      · exact .inr z
    obtain ⟨its, rv, hl, hz⟩ := I2.list hS2
    have hco2 := codeO_at' I2.hok hco
    show wpAny _ _ (call (.builtin "sorted") [.ref a] [(Str.ofString "key", .ref f)]) _ _ s2
    refine PySem.W.sorted_key_data (b := false) (R := fun (u : Value) (v : V) => RelV v u) (bs := xs) (fun v => .int (kf v)) hl.isList (eachIs_of rv) ?_ ?_ hz ?_ (PyProof.Rows.ksk_s1 _ _) (fun _ => PyProof.Rows.ksk_l1 _ _) (fun x => PyProof.Rows.ksk_t1 f x) ?_ ?_
    · intro d hd d' hd'
      obtain ⟨v, _, rfl⟩ := List.mem_map.mp hd
      obtain ⟨v', _, rfl⟩ := List.mem_map.mp hd'
      rfl
    · right
      intro d hd
      obtain ⟨v, _, rfl⟩ := List.mem_map.mp hd
      exact ⟨(fun z => nomatch z), (fun ys z => nomatch z)⟩
    · intro v _
      show X.A.units + 2 + 0 < cLine
      have := hr.units
      omega
    · intro u v hrv hv h tk kp
      obtain ⟨t, r, rfl, ht⟩ := hx v hv
      obtain rfl : u = Value.ref t := hrv
      have ht2 := eN _ _ ht fun ps y => nomatch y
      obtain ⟨hz2, its2, rv2, o, e1, e2⟩ := (show ObjOk X.prog X.w H2 s2.heap t (.tup (.int (kf (.ref t)) :: r)) from I2.hok t _ ht2)
      cases rv2 with
      | cons r0 rt =>
        obtain ⟨tk0, rfl⟩ := r0
        refine lam_first (s := { s2 with heap := h, toks := tk }) (kp _ _ hf) S ?_ (I2.nolimit.keeps kp) ?_ (fun u => hbind _ _ _ _ u) ⟨o, kp _ _ e1, e2⟩ (v0 := .int (kf (.ref t)) tk0) (by simp) ?_
        · obtain ⟨c2, oc, vs, t0, a1, a2, a3, a4⟩ := hco2
          exact ⟨c2, oc, vs, t0, a1, kp _ _ a2, a3, a4⟩
        · exact ((hr.mono hj).in1.in1).depth
        · intro h' tk' kp'
          exact ⟨h', tk', rfl, kp', .int _ _⟩
    · intro out cc h' tk kp fresh hout hlen heach
      have hv := of_eachIs heach
      rw [PySem.W.dataLe_int] at hv
      have hlen2 : (byFst kf xs).length ≤ sizeLine := by
        unfold byFst
        rw [List.length_mergeSort]
        exact hz
      have hfr2 : H2 (s2.heap.objs.size + 1) = none := I2.hok.fresh (Nat.le_succ _)
      refine ⟨.ref (s2.heap.objs.size + 1), upd H2 (s2.heap.objs.size + 1) (.lst (byFst kf xs)), I2.laid (t' := tk) kp (Nat.le_succ _) ⟨hlen2, out, cc, hv, hout⟩, rfl, ?_⟩
      have sU : ∀ b o, H2 b = some o → upd H2 (s2.heap.objs.size + 1) (.lst (byFst kf xs)) b = some o := fun b o e => by
        rw [upd_ne (ne_of_none e hfr2)]
        exact e
      exact q _ _ (eN.trans (ExtN.of sU)) (T2.ext sU) (NewN.back eN hfr2) upd_same
end

end Own

/-! Entries: tuples of three whole numbers in the heap; joined, halved, true of a row. -/
namespace Own
open PySem PySem.Spec PyProof.Rows L2 LamX
abbrev Ent := Int × Int × Int
def EntAt (H : Hp) (v : V) (e : Ent) : Prop := ∃ t, v = .ref t ∧ H t = some (.tup [.int e.1, .int e.2.1, .int e.2.2])
abbrev EntsAre (H : Hp) (xs : List V) (es : List Ent) : Prop := PySem.W.EachIs (EntAt H) xs es
theorem EntAt.ext {H H' : Hp} {v : V} {e : Ent} (s : ExtN H H') (h : EntAt H v e) : EntAt H' v e := by
  obtain ⟨t, h1, h2⟩ := h
  exact ⟨t, h1, s _ _ h2 (fun ps z => nomatch z)⟩
theorem EntAt.upd {H : Hp} {v : V} {e : Ent} {L : Addr} {xs : List V} {o : HO} (hL : H L = some (.lst xs)) (h : EntAt H v e) : EntAt (upd H L o) v e := by
  obtain ⟨t, h1, h2⟩ := h
  exact ⟨t, h1, by rw [upd_ne (ne_of h2 hL (by intro z; cases z))]; exact h2⟩
theorem EntsAre.ext {H H' : Hp} {xs : List V} {es : List Ent} (s : ExtN H H') (h : EntsAre H xs es) : EntsAre H' xs es := h.mono fun _ _ k => k.ext s
theorem EntsAre.same {H H' : Hp} {xs : List V} {es : List Ent} (s : Same H H') (h : EntsAre H xs es) : EntsAre H' xs es := h.ext (ExtN.of s)
theorem EntsAre.upd {H : Hp} {xs : List V} {es : List Ent} {L : Addr} {ys : List V} {o : HO} (hL : H L = some (.lst ys)) (h : EntsAre H xs es) : EntsAre (L2.upd H L o) xs es := h.mono fun _ _ k => k.upd hL
theorem eachIs_append {α β : Type} {R : α → β → Prop} : ∀ {as : List α} {bs : List β} {cs : List α} {ds : List β}, PySem.W.EachIs R as bs → PySem.W.EachIs R cs ds → PySem.W.EachIs R (as ++ cs) (bs ++ ds)
  | _, _, _, _, .nil, k => k
  | _, _, _, _, .cons h t, k => .cons h (eachIs_append t k)
theorem eachIs_get {α β : Type} {R : α → β → Prop} : ∀ {as : List α} {bs : List β} {i : Nat} {a : α}, PySem.W.EachIs R as bs → as[i]? = some a → ∃ b, bs[i]? = some b ∧ R a b
  | _, _, i, a, .nil, h => by simp at h
  | _, _, 0, a, .cons h t, e => ⟨_, rfl, by
    have e' := Option.some.inj e
    rw [← e']
    exact h⟩
  | _, _, i + 1, a, .cons h t, e => eachIs_get (i := i) t e
theorem eachIs_get2 {α β : Type} {R : α → β → Prop} : ∀ {as : List α} {bs : List β} {i : Nat} {b : β}, PySem.W.EachIs R as bs → bs[i]? = some b → ∃ a, as[i]? = some a ∧ R a b
  | _, _, i, b, .nil, h => by simp at h
  | _, _, 0, b, .cons h t, e => ⟨_, rfl, by
    have e' := Option.some.inj e
    rw [← e']
    exact h⟩
  | _, _, i + 1, b, .cons h t, e => eachIs_get2 (i := i) t e
theorem eachIs_snoc {α β : Type} {R : α → β → Prop} {as : List α} {bs : List β} {a : α} {b : β} (h : PySem.W.EachIs R as bs) (k : R a b) : PySem.W.EachIs R (as ++ [a]) (bs ++ [b]) := eachIs_append h (.cons k .nil)
theorem eachIs_take {α β : Type} {R : α → β → Prop} : ∀ {as : List α} {bs : List β} (n : Nat), PySem.W.EachIs R as bs → PySem.W.EachIs R (as.take n) (bs.take n)
  | _, _, 0, _ => .nil
  | _, _, n + 1, .nil => .nil
  | _, _, n + 1, .cons h t => .cons h (eachIs_take n t)
theorem eachIs_drop {α β : Type} {R : α → β → Prop} : ∀ {as : List α} {bs : List β} (n : Nat), PySem.W.EachIs R as bs → PySem.W.EachIs R (as.drop n) (bs.drop n)
  | _, _, 0, h => h
  | _, _, n + 1, .nil => .nil
  | _, _, n + 1, .cons h t => eachIs_drop n t
theorem eachIs_odds {α β : Type} {R : α → β → Prop} : ∀ {as : List α} {bs : List β}, PySem.W.EachIs R as bs → PySem.W.EachIs R (odds as) (odds bs)
  | _, _, .nil => .nil
  | _, _, .cons _ .nil => .nil
  | _, _, .cons _ (.cons h t) => .cons h (eachIs_odds t)
/-- the first number of what stands at v -/
def fstOf (H : Hp) (v : V) : Int := match v with
  | .ref t => (match H t with
    | some (.tup (.int i :: _)) => i
    | _ => 0)
  | _ => 0
theorem EntAt.fst {H : Hp} {v : V} {e : Ent} (h : EntAt H v e) : fstOf H v = e.1 := by
  obtain ⟨t, rfl, h2⟩ := h
  unfold fstOf
  simp only [h2]
theorem EntsAre.fsts {H : Hp} {xs : List V} {es : List Ent} (h : EntsAre H xs es) : ∀ v ∈ xs, ∃ t r, v = .ref t ∧ H t = some (.tup (.int (fstOf H v) :: r)) := by
  intro v hv
  obtain ⟨e, _, k⟩ := h.left v hv
  obtain ⟨t, h1, h2⟩ := id k
  exact ⟨t, _, h1, by rw [k.fst]; exact h2⟩
def byKey (es : List Ent) : List Ent := es.mergeSort fun a b => decide (a.1 ≤ b.1)
theorem EntsAre.sorted {H : Hp} {xs : List V} {es : List Ent} (h : EntsAre H xs es) : EntsAre H (byFst (fstOf H) xs) (byKey es) := by
  refine PySem.W.sort_each h fun p hp q hq => ?_
  rw [(h.zip p hp).fst, (h.zip q hq).fst]
/-! ### what is added -/
def addLeast (es : List Ent) (r : Int) : Int := match (es.filter fun e => decide (e.1 ≤ r)).getLast? with
  | some e => e.2.1 + 1
  | none => 0
def addMost (es : List Ent) (r more : Int) : Int := match (es.filter fun e => decide (r ≤ e.1)).head? with
  | some e => e.2.2
  | none => more
def liftE (es fs : List Ent) (more : Int) : List Ent := es.map fun e => (e.1, e.2.1 + addLeast fs e.1, e.2.2 + addMost fs e.1 more)
def joinE (es : List Ent) (many : Int) (fs : List Ent) (more : Int) : List Ent := byKey (liftE es fs more ++ liftE fs es many)
def noLess (es : List Ent) (r : Int) : Nat := (es.filter fun e => decide (e.1 < r)).length
abbrev Rise (es : List Ent) : Prop := es.Pairwise fun a b => a.1 ≤ b.1
theorem rise_get {es : List Ent} (h : Rise es) {i j : Nat} {a b : Ent} (hij : i ≤ j) (ha : es[i]? = some a) (hb : es[j]? = some b) : a.1 ≤ b.1 := by
  obtain ⟨hi, ea⟩ := List.getElem?_eq_some_iff.mp ha
  obtain ⟨hj, eb⟩ := List.getElem?_eq_some_iff.mp hb
  subst ea eb
  by_cases e : i = j
  · subst e
    exact Int.le_refl _
  · exact List.pairwise_iff_getElem.mp h i j hi hj (by omega)
theorem filter_take {α : Type} {p : α → Bool} : ∀ (l : List α) (n : Nat), (∀ i x, l[i]? = some x → i < n → p x = true) → (∀ i x, l[i]? = some x → n ≤ i → p x = false) → l.filter p = l.take n
  | [], n, _, _ => by simp
  | x :: r, 0, h1, h2 => by
    rw [List.take_zero, List.filter_eq_nil_iff]
    intro y hy
    obtain ⟨i, hi, rfl⟩ := List.getElem_of_mem hy
    rw [h2 i _ (List.getElem?_eq_getElem hi) (Nat.zero_le _)]
    decide
  | x :: r, n + 1, h1, h2 => by
    rw [List.filter_cons, if_pos (h1 0 x rfl (Nat.succ_pos _)), List.take_succ_cons, filter_take r n (fun i y e hi => h1 (i + 1) y e (by omega)) (fun i y e hi => h2 (i + 1) y e (by omega))]
theorem filter_drop {α : Type} {p : α → Bool} : ∀ (l : List α) (n : Nat), (∀ i x, l[i]? = some x → i < n → p x = false) → (∀ i x, l[i]? = some x → n ≤ i → p x = true) → l.filter p = l.drop n
  | [], n, _, _ => by simp
  | x :: r, 0, h1, h2 => by
    rw [List.drop_zero, List.filter_eq_self]
    intro y hy
    obtain ⟨i, hi, rfl⟩ := List.getElem_of_mem hy
    exact h2 i _ (List.getElem?_eq_getElem hi) (Nat.zero_le _)
  | x :: r, n + 1, h1, h2 => by
    rw [List.filter_cons, h1 0 x rfl (Nat.succ_pos _), if_neg (by decide), List.drop_succ_cons, filter_drop r n (fun i y e hi => h1 (i + 1) y e (by omega)) (fun i y e hi => h2 (i + 1) y e (by omega))]
/-- where a search ends -/
structure CutAt (es : List Ent) (r : Int) (n : Nat) : Prop where
  le : n ≤ es.length
  lo : ∀ i e, es[i]? = some e → i < n → e.1 < r
  hi : ∀ i e, es[i]? = some e → n ≤ i → r ≤ e.1
theorem CutAt.eq {es : List Ent} {r : Int} {n : Nat} (c : CutAt es r n) : noLess es r = n := by
  unfold noLess
  rw [filter_take es n (fun i e h k => decide_eq_true (c.lo i e h k)) (fun i e h k => decide_eq_false (by have := c.hi i e h k; omega)), List.length_take]
  have := c.le
  omega
theorem cut_of {es : List Ent} (h : Rise es) (r : Int) : CutAt es r (noLess es r) := by
  induction es with
  | nil => exact ⟨Nat.le_refl _, fun i e z => by simp at z, fun i e z => by simp at z⟩
  | cons x l ih =>
    obtain ⟨h1, h2⟩ := List.pairwise_cons.mp h
    have c := ih h2
    by_cases hx : x.1 < r
    · have e : noLess (x :: l) r = noLess l r + 1 := by
        unfold noLess
        rw [List.filter_cons, if_pos (decide_eq_true hx), List.length_cons]
      rw [e]
      refine ⟨by have := c.le; rw [List.length_cons]; omega, fun i y z k => ?_, fun i y z k => ?_⟩
      · cases i with
        | zero =>
          have := Option.some.inj z
          rw [← this]
          exact hx
        | succ i => exact c.lo i y z (by omega)
      · cases i with
        | zero => omega
        | succ i => exact c.hi i y z (by omega)
    · have e : noLess (x :: l) r = 0 := by
        unfold noLess
        rw [List.length_eq_zero_iff, List.filter_eq_nil_iff]
        intro y hy z
        have z := of_decide_eq_true z
        rcases List.mem_cons.mp hy with rfl | hy
        · exact hx z
        · have := h1 y hy
          omega
      rw [e]
      refine ⟨Nat.zero_le _, fun i y z k => absurd k (Nat.not_lt_zero _), fun i y z k => ?_⟩
      cases i with
      | zero =>
        have := Option.some.inj z
        rw [← this]
        omega
      | succ i =>
        have := h1 y (List.mem_of_getElem? z)
        omega
theorem addLeast_cut {es : List Ent} {r : Int} {n : Nat} (c : CutAt es (r + 1) n) : addLeast es r = (match es[n - 1]? with
    | some e => if n = 0 then 0 else e.2.1 + 1
    | none => 0) := by
  unfold addLeast
  rw [filter_take es n (fun i e h k => decide_eq_true (by have := c.lo i e h k; omega)) (fun i e h k => decide_eq_false (by have := c.hi i e h k; omega))]
  have hl := c.le
  rw [List.getLast?_eq_getElem?, List.length_take, Nat.min_eq_left hl]
  by_cases h0 : n = 0
  · subst h0
    simp
    split <;> rfl
  · rw [List.getElem?_take_of_lt (by omega)]
    rw [List.getElem?_eq_getElem (by omega)]
    simp [h0]
theorem addMost_cut {es : List Ent} {r more : Int} {n : Nat} (c : CutAt es r n) : addMost es r more = (match es[n]? with
    | some e => e.2.2
    | none => more) := by
  unfold addMost
  rw [filter_drop es n (fun i e h k => decide_eq_false (by have := c.lo i e h k; omega)) (fun i e h k => decide_eq_true (c.hi i e h k))]
  rw [List.head?_drop]
end Own

/-! The join of two rising lists of entries: one by one inserted; true of both rows together. -/
namespace Own
open PySem PySem.Spec PyProof.Rows L2 LamX
abbrev leE (a b : Ent) : Bool := decide (a.1 ≤ b.1)
theorem leE_total : PySem.W.TotalLe leE := by
  constructor
  · intro a b c h1 h2
    have h1 := of_decide_eq_true h1
    have h2 := of_decide_eq_true h2
    exact decide_eq_true (Int.le_trans h1 h2)
  · intro a b
    rcases Int.le_total a.1 b.1 with h | h
    · exact .inl (decide_eq_true h)
    · exact .inr (decide_eq_true h)
def insE (m : List Ent) (x : Ent) : List Ent := m.take (m.filter fun y => decide (y.1 ≤ x.1)).length ++ [x] ++ m.drop (m.filter fun y => decide (y.1 ≤ x.1)).length
theorem cut_le {m : List Ent} (h : Rise m) (r : Int) : CutAt m (r + 1) (m.filter fun y => decide (y.1 ≤ r)).length := by
  have c := cut_of h (r + 1)
  have e : noLess m (r + 1) = (m.filter fun y => decide (y.1 ≤ r)).length := by
    unfold noLess
    congr 2
    funext y
    exact decide_eq_decide.mpr ⟨fun h => by omega, fun h => by omega⟩
  rw [← e]
  exact c
theorem insE_sorted {m : List Ent} {x : Ent} (h : Rise m) : Rise (insE m x) := by
  have c := cut_le h x.1
  unfold insE
  generalize (m.filter fun y => decide (y.1 ≤ x.1)).length = n at c
  unfold Rise
  rw [List.append_assoc, List.singleton_append, List.pairwise_append]
  refine ⟨h.sublist (List.take_sublist _ _), List.pairwise_cons.mpr ⟨fun y (hy : y ∈ m.drop n) => ?_, h.sublist (List.drop_sublist _ _)⟩, fun y hy z hz => ?_⟩
  · obtain ⟨i, hi, rfl⟩ := List.getElem_of_mem hy
    rw [List.getElem_drop]
    rw [List.length_drop] at hi
    have := c.hi (n + i) _ (List.getElem?_eq_getElem (by omega)) (by omega)
    omega
  · obtain ⟨i, hi, rfl⟩ := List.getElem_of_mem hy
    rw [List.length_take] at hi
    rw [List.getElem_take]
    have h1 := c.lo i _ (List.getElem?_eq_getElem (by omega)) (by omega)
    rcases List.mem_cons.mp hz with rfl | hz
    · omega
    · obtain ⟨j, hj, rfl⟩ := List.getElem_of_mem hz
      rw [List.getElem_drop]
      rw [List.length_drop] at hj
      have := c.hi (n + j) _ (List.getElem?_eq_getElem (by omega)) (by omega)
      omega
theorem insE_rank {m : List Ent} {x : Ent} (h : Rise m) (y : Ent) : (insE m x).filter (PySem.W.sameRank leE y) = (m ++ [x]).filter (PySem.W.sameRank leE y) := by
  have c := cut_le h x.1
  unfold insE
  generalize (m.filter fun y => decide (y.1 ≤ x.1)).length = n at c
  rw [List.filter_append, List.filter_append, List.filter_append]
  by_cases hx : PySem.W.sameRank leE y x = true
  · have hd : (m.drop n).filter (PySem.W.sameRank leE y) = [] := by
      rw [List.filter_eq_nil_iff]
      intro z hz hs
      obtain ⟨i, hi, rfl⟩ := List.getElem_of_mem hz
      rw [List.length_drop] at hi
      rw [List.getElem_drop] at hs
      have := c.hi (n + i) _ (List.getElem?_eq_getElem (by omega)) (by omega)
      unfold PySem.W.sameRank at hx hs
      rw [Bool.and_eq_true] at hx hs
      have a1 := of_decide_eq_true hx.1
      have a2 := of_decide_eq_true hs.2
      omega
    have e : m.filter (PySem.W.sameRank leE y) = (m.take n).filter (PySem.W.sameRank leE y) := by
      rw [← List.take_append_drop n m, List.filter_append, List.take_append_drop, hd, List.append_nil]
    rw [hd, e, List.append_nil]
  · have e1 : [x].filter (PySem.W.sameRank leE y) = [] := by
      rw [List.filter_cons, if_neg hx]
      rfl
    rw [e1, List.append_nil, List.append_nil, ← List.filter_append, List.take_append_drop]
def insAll (m : List Ent) (l : List Ent) : List Ent := l.foldl insE m
theorem insAll_snoc (m l : List Ent) (x : Ent) : insAll m (l ++ [x]) = insE (insAll m l) x := by
  unfold insAll
  rw [List.foldl_append]
  rfl
theorem insE_length (m : List Ent) (x : Ent) : (insE m x).length = m.length + 1 := by
  unfold insE
  have := List.length_filter_le (fun y : Ent => decide (y.1 ≤ x.1)) m
  rw [List.length_append, List.length_append, List.length_take, List.length_drop, List.length_singleton]
  omega
theorem insAll_length (m : List Ent) : ∀ l : List Ent, (insAll m l).length = m.length + l.length := by
  intro l
  induction l generalizing m with
  | nil => rfl
  | cons x l ih =>
    show (insAll (insE m x) l).length = _
    rw [ih, insE_length, List.length_cons]
    omega
theorem insAll_sorted : ∀ (l m : List Ent), Rise m → Rise (insAll m l)
  | [], _, h => h
  | x :: l, m, h => insAll_sorted l (insE m x) (insE_sorted h)
theorem insAll_rank : ∀ (l m : List Ent), Rise m → ∀ y, (insAll m l).filter (PySem.W.sameRank leE y) = (m ++ l).filter (PySem.W.sameRank leE y)
  | [], m, _, y => by rw [List.append_nil]; rfl
  | x :: l, m, h, y => by
    show (insAll (insE m x) l).filter _ = _
    rw [insAll_rank l _ (insE_sorted h) y, List.filter_append, insE_rank h y, ← List.filter_append, List.append_assoc]
    rfl
/-- inserted one by one is sorted together -/
theorem insAll_eq {m l : List Ent} (h : Rise m) : insAll m l = byKey (m ++ l) := by
  refine PySem.W.sort_unique leE_total ?_ (insAll_rank l m h)
  exact (insAll_sorted l m h).imp fun z => decide_eq_true z
theorem byKey_rise (l : List Ent) : Rise (byKey l) := (PySem.W.sort_pairwise leE_total l).imp fun z => of_decide_eq_true z
theorem byKey_perm (l : List Ent) : (byKey l).Perm l := List.mergeSort_perm _ _
theorem byKey_length (l : List Ent) : (byKey l).length = l.length := (byKey_perm l).length_eq
theorem liftE_rise {es fs : List Ent} {more : Int} (h : Rise es) : Rise (liftE es fs more) := by
  unfold liftE
  exact List.pairwise_map.mpr h
/-! ### true of a row -/
def cle (row : List Int) (r : Int) : Int := ((row.filter fun x => decide (x ≤ r)).length : Int)
def clt (row : List Int) (r : Int) : Int := ((row.filter fun x => decide (x < r)).length : Int)
def TrueE (row : List Int) (e : Ent) : Prop := e.1 ∈ row ∧ e.2.1 ≤ cle row e.1 - 1 ∧ clt row e.1 ≤ e.2.2
theorem cle_append (a b : List Int) (r : Int) : cle (a ++ b) r = cle a r + cle b r := by
  unfold cle
  rw [List.filter_append, List.length_append]
  omega
theorem clt_append (a b : List Int) (r : Int) : clt (a ++ b) r = clt a r + clt b r := by
  unfold clt
  rw [List.filter_append, List.length_append]
  omega
theorem cnt_mono {p q : Int → Bool} (h : ∀ x, p x = true → q x = true) : ∀ l : List Int, (l.filter p).length ≤ (l.filter q).length
  | [] => Nat.le_refl _
  | x :: l => by
    have ih := cnt_mono h l
    rw [List.filter_cons, List.filter_cons]
    cases hp : p x with
    | true =>
      rw [h x hp]
      simp only [if_true, List.length_cons]
      omega
    | false =>
      cases hq : q x with
      | true =>
        simp only [if_true, if_false, Bool.false_eq_true, List.length_cons]
        omega
      | false => simpa using ih
theorem cle_mono (row : List Int) {r r' : Int} (h : r ≤ r') : cle row r ≤ cle row r' := by
  have := cnt_mono (p := fun x => decide (x ≤ r)) (q := fun x => decide (x ≤ r')) (fun x hx => decide_eq_true (by have := of_decide_eq_true hx; omega)) row
  unfold cle
  omega
theorem clt_mono (row : List Int) {r r' : Int} (h : r ≤ r') : clt row r ≤ clt row r' := by
  have := cnt_mono (p := fun x => decide (x < r)) (q := fun x => decide (x < r')) (fun x hx => decide_eq_true (by have := of_decide_eq_true hx; omega)) row
  unfold clt
  omega
theorem clt_le (row : List Int) (r : Int) : clt row r ≤ row.length := by
  unfold clt
  have := List.length_filter_le (fun x => decide (x < r)) row
  omega
theorem cle_nn (row : List Int) (r : Int) : 0 ≤ cle row r := by
  unfold cle
  omega
theorem addLeast_true {fs : List Ent} {row : List Int} {r : Int} (h : ∀ e ∈ fs, TrueE row e) : addLeast fs r ≤ cle row r := by
  unfold addLeast
  split
  · rename_i e he
    have hm := List.mem_of_getLast? he
    obtain ⟨h1, h2⟩ := List.mem_filter.mp hm
    have := (h e h1).2.1
    have := cle_mono row (of_decide_eq_true h2)
    omega
  · exact cle_nn row r
theorem addMost_true {fs : List Ent} {row : List Int} {r more : Int} (h : ∀ e ∈ fs, TrueE row e) (hm : (row.length : Int) ≤ more) : clt row r ≤ addMost fs r more := by
  unfold addMost
  split
  · rename_i e he
    have hm := List.mem_of_head? he
    obtain ⟨h1, h2⟩ := List.mem_filter.mp hm
    have := (h e h1).2.2
    have := clt_mono row (of_decide_eq_true h2)
    omega
  · have := clt_le row r
    omega
theorem liftE_true {es fs : List Ent} {ra rb : List Int} {more : Int} (h1 : ∀ e ∈ es, TrueE ra e) (h2 : ∀ e ∈ fs, TrueE rb e) (hm : (rb.length : Int) ≤ more) : ∀ e ∈ liftE es fs more, TrueE (ra ++ rb) e := by
  intro e he
  unfold liftE at he
  obtain ⟨d, hd, rfl⟩ := List.mem_map.mp he
  obtain ⟨a1, a2, a3⟩ := h1 d hd
  refine ⟨List.mem_append_left _ a1, ?_, ?_⟩
  · show d.2.1 + addLeast fs d.1 ≤ cle (ra ++ rb) d.1 - 1
    rw [cle_append]
    have := addLeast_true (r := d.1) h2
    omega
  · show clt (ra ++ rb) d.1 ≤ d.2.2 + addMost fs d.1 more
    rw [clt_append]
    have := addMost_true (r := d.1) h2 hm
    omega
theorem TrueE.perm {ra rb : List Int} {e : Ent} (p : ra.Perm rb) (h : TrueE ra e) : TrueE rb e := by
  obtain ⟨a1, a2, a3⟩ := h
  have e1 : cle ra e.1 = cle rb e.1 := by
    unfold cle
    rw [(p.filter _).length_eq]
  have e2 : clt ra e.1 = clt rb e.1 := by
    unfold clt
    rw [(p.filter _).length_eq]
  exact ⟨p.mem_iff.mp a1, by rw [← e1]; exact a2, by rw [← e2]; exact a3⟩
theorem joinE_true {es fs : List Ent} {ra rb : List Int} {many more : Int} (h1 : ∀ e ∈ es, TrueE ra e) (h2 : ∀ e ∈ fs, TrueE rb e) (hm : (ra.length : Int) ≤ many) (hm2 : (rb.length : Int) ≤ more) : ∀ e ∈ joinE es many fs more, TrueE (ra ++ rb) e := by
  intro e he
  unfold joinE at he
  have he := (byKey_perm _).mem_iff.mp he
  rcases List.mem_append.mp he with h | h
  · exact liftE_true h1 h2 hm2 e h
  · exact (liftE_true h2 h1 hm e h).perm List.perm_append_comm
/-- at its place in a rising row -/
theorem place_true {row : List Int} (hs : row.Pairwise (· ≤ ·)) {p : Nat} {r : Int} (h : row[p]? = some r) : (p : Int) ≤ cle row r - 1 ∧ clt row r ≤ (p : Int) := by
  obtain ⟨hp, rfl⟩ := List.getElem?_eq_some_iff.mp h
  constructor
  · have e : row.take (p + 1) = (row.take (p + 1)).filter fun x => decide (x ≤ row[p]) := by
      rw [List.filter_eq_self.mpr]
      intro x hx
      obtain ⟨i, hi, rfl⟩ := List.getElem_of_mem hx
      rw [List.length_take] at hi
      rw [List.getElem_take]
      apply decide_eq_true
      by_cases hip : i = p
      · subst hip
        exact Int.le_refl _
      · exact List.pairwise_iff_getElem.mp hs i p (by omega) hp (by omega)
    have l1 : (row.take (p + 1)).length = p + 1 := by
      rw [List.length_take]
      omega
    have l2 : ((row.take (p + 1)).filter fun x => decide (x ≤ row[p])).length ≤ (row.filter fun x => decide (x ≤ row[p])).length := ((List.take_sublist (p + 1) row).filter _).length_le
    rw [← e, l1] at l2
    unfold cle
    omega
  · have e : row.filter (fun x => decide (x < row[p])) = (row.take p).filter fun x => decide (x < row[p]) := by
      have hd : (row.drop p).filter (fun x => decide (x < row[p])) = [] := by
        rw [List.filter_eq_nil_iff]
        intro x hx hz
        have hz := of_decide_eq_true hz
        obtain ⟨i, hi, rfl⟩ := List.getElem_of_mem hx
        rw [List.length_drop] at hi
        rw [List.getElem_drop] at hz
        by_cases hi0 : i = 0
        · subst hi0
          simp at hz
        · have := List.pairwise_iff_getElem.mp hs p (p + i) hp (by omega) (by omega)
          omega
      generalize row[p] = z at hd
      have e0 := congrArg (fun l => List.filter (fun x => decide (x < z)) l) (List.take_append_drop p row)
      simp only [List.filter_append, hd, List.append_nil] at e0
      exact e0.symm
    unfold clt
    rw [e]
    have := List.length_filter_le (fun x => decide (x < row[p])) (row.take p)
    rw [List.length_take] at this
    omega
end Own

/-! A def whose code object is known; the end of a law with tables, the facts by the top. -/
namespace Own
open PySem PySem.Spec PyProof.Rows L2 LamX
structure FunC (K : PySem.W.Frag) (x qual : Str) (st : Stmt) (f : Addr) (fd : FuncData) (c : Addr) : Prop where
  ex : ∃ (oc : Value) (od : Option Addr) (kV doc pm : Value) (an : Option Addr) (ct : Value) (osl : Array (Option Value)),
    fd = PySem.W.fnOf x qual (defArgs st) (defBody st) (defScope st) .none kV doc pm an (.ref c) ct ∧ K.lookup f = some ⟨oc, od, .func fd, osl⟩ ∧ PySem.W.codeIn K (.ref c) qual = true
  kp : PySem.W.keepIn K (.ref f) = true
section
variable {P : Program} {w : World} {K : PySem.W.Frag} {mg : Str → Option Value} {base : Heap}
theorem FunC.fn {x qual : Str} {st : Stmt} {f : Addr} {fd : FuncData} {c : Addr} (F : FunC K x qual st f fd c) : Fun K x qual st f fd := by
  obtain ⟨oc, od, kV, doc, pm, an, ct, osl, e, l, hc⟩ := F.ex
  exact ⟨⟨oc, od, kV, doc, pm, an, .ref c, ct, osl, e, l, hc⟩, F.kp⟩
theorem FunC.ok {x qual : Str} {st : Stmt} {f c : Addr} {fd : FuncData} {N ps : List Str} {k : Nat} {sp : Sp} (F : FunC K x qual st f fd c) (S : FnScope N ps (defScope st)) (len : ∀ vs H Q E, sp vs H Q E → vs.length = ps.length)
    (hbody : ∀ (A : Around) (outer : List Env) (s : Shared) (H : Hp) (vs : List V) (Q : VK) (E : XK), Room k (A.deeper (envOfC qual (defScope st) s.heap.objs.size f (.ref c))) → sp vs H Q E →
      ∃ t, PSs (cxOf CX0 P w K mg base N qual (defScope st) f (.ref c) A outer s H E).nox (defBody st) t ∧ t { nx := fun _ H' => Q .non H', rt := Q } (start N vs) H) : FnOk P w K mg base CX0 (k + 1) f fd ps sp := by
  obtain ⟨oc, od, kV, doc, pm, an, ct, osl, rfl, lk, hcd⟩ := F.ex
  refine fn_of lk hcd S len fun A outer s H vs Q E hr hsp => ?_
  obtain ⟨t, h, q⟩ := hbody A outer s H vs Q E hr hsp
  exact ⟨t, h.nox, q⟩
theorem funC_mk {x qual : Str} {st : Stmt} {f c : Addr} {oc : Value} {od an : Option Addr} {osl : Array (Option Value)} {kV doc pm cdv ct : Value} (l : K.lookup f = some ⟨oc, od, .func (PySem.W.fnOf x qual (defArgs st) (defBody st) (defScope st) .none kV doc pm an cdv ct), osl⟩)
    (hc : PySem.W.codeIn K cdv qual = true) (k : PySem.W.keepIn K (.ref f) = true) (e : cdv = .ref c) : FunC K x qual st f (PySem.W.fnOf x qual (defArgs st) (defBody st) (defScope st) .none kV doc pm an cdv ct) c := by
  subst e
  exact ⟨⟨oc, od, kV, doc, pm, an, ct, osl, rfl, l, hc⟩, k⟩
end
/-- what is known of the law's promise, its tables by the top -/
theorem walk_ofT {l : PySem.W.OpenLaw} {n k : Nat} {q : Program} {loose : List Str} {XP : (Str → Option Value) → Heap → Prop} {YP : World → Heap → Prop} {d : DefRec} {K : Params → PySem.W.Frag} {CX : World → CXT} {x : Str}
    (hn : l.most = some n) (hn2 : n ≤ sizeLine) (hdf : d.params.defaults = []) (hr : Room k callerA) (hY : ∀ (w : World) (h : Heap), YP w h → (K w.params).In h)
    (F : ∀ (w : World) (mg mb : Str → Option Value) (mean : ExcName → Option Value) (fa : Addr) (h : Heap), Top q (PySem.W.looseW q loose) mean mg mb h → (K w.params).In h → h.Ns mainGlobals mg → mg d.name = some (.ref fa) → LawAtS l w (K w.params) (CX w) k n x mg fa h)
    (hCX : ∀ (w : World) (H : Hp) (s : Shared) (e : Value) (s' : Shared), CX w [] H s (fun _ _ _ => False) e s' → False) :
    PySem.W.WalkO q loose XP YP l.row.toRowW d [] (fun f vs => PySem.call f vs) := by
  refine Att.attach_callB hn hdf fun w s₀ s₁ mg mb fa o pm cd doc a vs ns G Y ho hd hcd hmg hobj hints hlen hbits hg => ?_
  have KX := hY w _ Y
  obtain ⟨fd, cs, sp, hT, nT, C, hb, hsp, hF⟩ := F w mg mb _ fa _ G.T KX G.T.g hmg
  exact law_callTs KX G.T.g G.T.b G.T.builtins G.T.nolimit hg hT nT C G.T.bmain hobj hints (Nat.le_trans hlen hn2) hr hF hb (fun H hH hS => hsp H a ns hlen hbits hH hS) fun H e s' => hCX w H s₁ e s'
end Own

/-! How far apart the bounds of a list of entries stand, between any two of its places: joined, halved. -/
namespace Own
open PySem PySem.Spec PyProof.Rows L2 LamX
/-- at most so many readings stand ahead of what comes behind c entries -/
def upC (es : List Ent) (n : Int) (c : Nat) : Int := match es[c]? with
  | some e => e.2.2
  | none => n
/-- at least so many readings stand ahead of what comes behind c entries -/
def loC (es : List Ent) : Nat → Int
  | 0 => 0
  | c + 1 => match es[c]? with
    | some e => e.2.1 + 1
    | none => 0
/-- between any two places the bounds are apart by g at most, and by w for each entry between -/
def AG (es : List Ent) (n g w : Int) : Prop := ∀ c c' : Nat, c ≤ es.length → c' ≤ es.length → upC es n c' - loC es c ≤ g + ((c' - c : Nat) : Int) * w
theorem AG.wide {es : List Ent} {n g w w' : Int} (h : AG es n g w) (k : w ≤ w') : AG es n g w' := fun c c' h1 h2 => by
  have := h c c' h1 h2
  have := Int.mul_le_mul_of_nonneg_left (c := ((c' - c : Nat) : Int)) k (by omega)
  omega
theorem AG.more {es : List Ent} {n g g' w : Int} (h : AG es n g w) (k : g ≤ g') : AG es n g' w := fun c c' h1 h2 => by
  have := h c c' h1 h2
  omega
theorem loC_succ {es : List Ent} {c : Nat} {e : Ent} (h : es[c]? = some e) : loC es (c + 1) = e.2.1 + 1 := by
  show (match es[c]? with
    | some e => e.2.1 + 1
    | none => 0) = _
  rw [h]
theorem upC_some {es : List Ent} {n : Int} {c : Nat} {e : Ent} (h : es[c]? = some e) : upC es n c = e.2.2 := by
  unfold upC
  rw [h]
theorem upC_end {es : List Ent} {n : Int} {c : Nat} (h : es.length ≤ c) : upC es n c = n := by
  unfold upC
  rw [List.getElem?_eq_none h]
theorem addLeast_lo {es : List Ent} (h : Rise es) (r : Int) : addLeast es r = loC es (noLess es (r + 1)) := by
  have c := cut_of h (r + 1)
  rw [addLeast_cut c]
  generalize noLess es (r + 1) = n at c
  have := c.le
  cases n with
  | zero =>
    show _ = 0
    split <;> rfl
  | succ n =>
    have hn : es[n]? = some es[n] := List.getElem?_eq_getElem (by omega)
    rw [loC_succ hn]
    simp only [Nat.add_sub_cancel, hn]
    rw [if_neg (by omega)]
theorem addMost_up {es : List Ent} (h : Rise es) (r n : Int) : addMost es r n = upC es n (noLess es r) := by
  rw [addMost_cut (cut_of h r)]
  rfl
theorem noLess_ge {es : List Ent} (h : Rise es) {r : Int} {j : Nat} (hj : ∀ i e, es[i]? = some e → i < j → e.1 < r) (hl : j ≤ es.length) : j ≤ noLess es r := by
  have c := cut_of h r
  refine Nat.le_of_not_lt fun z => ?_
  have hi : noLess es r < es.length := by omega
  have := c.hi _ _ (List.getElem?_eq_getElem hi) (Nat.le_refl _)
  have := hj _ _ (List.getElem?_eq_getElem hi) z
  omega
theorem noLess_le {es : List Ent} (h : Rise es) {r : Int} {j : Nat} (hj : ∀ i e, es[i]? = some e → j ≤ i → r ≤ e.1) : noLess es r ≤ j := by
  have c := cut_of h r
  refine Nat.le_of_not_lt fun z => ?_
  have hl := c.le
  have hi : j < es.length := by omega
  have := c.lo _ _ (List.getElem?_eq_getElem hi) z
  have := hj _ _ (List.getElem?_eq_getElem hi) (Nat.le_refl _)
  omega
/-! ### two rising lists, laid together -/
inductive Shuf : List Ent → List Ent → List Ent → Prop
  | nil : Shuf [] [] []
  | left {x : Ent} {a b m : List Ent} : Shuf a b m → (∀ y ∈ b, x.1 ≤ y.1) → Shuf (x :: a) b (x :: m)
  | right {y : Ent} {a b m : List Ent} : Shuf a b m → (∀ x ∈ a, y.1 < x.1) → Shuf a (y :: b) (y :: m)
theorem Shuf.length {a b m : List Ent} (h : Shuf a b m) : m.length = a.length + b.length := by
  induction h with
  | nil => rfl
  | left _ _ ih => simp only [List.length_cons]; omega
  | right _ _ ih => simp only [List.length_cons]; omega
theorem Shuf.mem {a b m : List Ent} (h : Shuf a b m) : ∀ z, z ∈ m ↔ z ∈ a ∨ z ∈ b := by
  induction h with
  | nil => simp
  | left _ _ ih =>
    intro z
    simp only [List.mem_cons, ih z]
    exact ⟨fun h => by rcases h with h | h | h <;> simp [h], fun h => by rcases h with (h | h) | h <;> simp [h]⟩
  | right _ _ ih =>
    intro z
    simp only [List.mem_cons, ih z]
    exact ⟨fun h => by rcases h with h | h | h <;> simp [h], fun h => by rcases h with h | h | h <;> simp [h]⟩
theorem Shuf.rise {a b m : List Ent} (h : Shuf a b m) (ha : Rise a) (hb : Rise b) : Rise m := by
  induction h with
  | nil => exact ha
  | @left x a b m s hx ih =>
    obtain ⟨h1, h2⟩ := List.pairwise_cons.mp ha
    refine List.pairwise_cons.mpr ⟨fun z hz => ?_, ih h2 hb⟩
    rcases (s.mem z).mp hz with h | h
    · exact h1 z h
    · exact hx z h
  | @right y a b m s hy ih =>
    obtain ⟨h1, h2⟩ := List.pairwise_cons.mp hb
    refine List.pairwise_cons.mpr ⟨fun z hz => ?_, ih ha h2⟩
    rcases (s.mem z).mp hz with h | h
    · have := hy z h
      omega
    · exact h1 z h
theorem Shuf.rank {a b m : List Ent} (h : Shuf a b m) (z : Ent) : m.filter (PySem.W.sameRank leE z) = (a ++ b).filter (PySem.W.sameRank leE z) := by
  induction h with
  | nil => rfl
  | @left x a b m s hx ih => rw [List.cons_append, List.filter_cons, List.filter_cons, ih]
  | @right y a b m s hy ih =>
    rw [List.filter_append, List.filter_cons, List.filter_cons, ih, List.filter_append]
    by_cases hz : PySem.W.sameRank leE z y = true
    · have e : a.filter (PySem.W.sameRank leE z) = [] := by
        rw [List.filter_eq_nil_iff]
        intro x hx hs
        unfold PySem.W.sameRank at hz hs
        rw [Bool.and_eq_true] at hz hs
        have a1 := of_decide_eq_true hz.1
        have a2 := of_decide_eq_true hs.2
        have a3 := hy x hx
        omega
      rw [e]
      simp [hz]
    · simp [hz]
theorem Shuf.make : ∀ (n : Nat) (a b : List Ent), a.length + b.length ≤ n → Rise a → Rise b → ∃ m, Shuf a b m
  | _, [], [], _, _, _ => ⟨[], .nil⟩
  | 0, x :: a, b, h, _, _ => by simp at h
  | 0, [], y :: b, h, _, _ => by simp at h
  | n + 1, x :: a, [], h, ha, hb => by
    obtain ⟨m, s⟩ := Shuf.make n a [] (by simp at h ⊢; omega) (List.pairwise_cons.mp ha).2 hb
    exact ⟨x :: m, .left s fun y hy => by simp at hy⟩
  | n + 1, [], y :: b, h, ha, hb => by
    obtain ⟨m, s⟩ := Shuf.make n [] b (by simp at h ⊢; omega) ha (List.pairwise_cons.mp hb).2
    exact ⟨y :: m, .right s fun x hx => by simp at hx⟩
  | n + 1, x :: a, y :: b, h, ha, hb => by
    by_cases c : x.1 ≤ y.1
    · obtain ⟨m, s⟩ := Shuf.make n a (y :: b) (by simp at h ⊢; omega) (List.pairwise_cons.mp ha).2 hb
      refine ⟨x :: m, .left s fun z hz => ?_⟩
      rcases List.mem_cons.mp hz with rfl | hz
      · exact c
      · have := (List.pairwise_cons.mp hb).1 z hz
        omega
    · obtain ⟨m, s⟩ := Shuf.make n (x :: a) b (by simp at h ⊢; omega) ha (List.pairwise_cons.mp hb).2
      refine ⟨y :: m, .right s fun z hz => ?_⟩
      rcases List.mem_cons.mp hz with rfl | hz
      · omega
      · have := (List.pairwise_cons.mp ha).1 z hz
        omega
/-- sorted together is laid together -/
theorem shuf_byKey {a b : List Ent} (ha : Rise a) (hb : Rise b) : Shuf a b (byKey (a ++ b)) := by
  obtain ⟨m, s⟩ := Shuf.make _ a b (Nat.le_refl _) ha hb
  have e : m = byKey (a ++ b) := by
    refine PySem.W.sort_unique leE_total ?_ s.rank
    exact (s.rise ha hb).imp fun z => decide_eq_true z
  rw [← e]
  exact s
theorem Shuf.split {a b m : List Ent} (h : Shuf a b m) : ∀ k, k ≤ m.length → ∃ i j, i ≤ a.length ∧ j ≤ b.length ∧ i + j = k ∧ Shuf (a.take i) (b.take j) (m.take k) ∧ Shuf (a.drop i) (b.drop j) (m.drop k) := by
  induction h with
  | nil =>
    intro k hk
    have hk : k = 0 := by simpa using hk
    subst hk
    exact ⟨0, 0, Nat.le_refl _, Nat.le_refl _, rfl, .nil, .nil⟩
  | @left x a b m s hx ih =>
    intro k hk
    cases k with
    | zero => exact ⟨0, 0, Nat.zero_le _, Nat.zero_le _, rfl, .nil, .left s hx⟩
    | succ k =>
      obtain ⟨i, j, h1, h2, h3, h4, h5⟩ := ih k (by simpa using hk)
      exact ⟨i + 1, j, by simpa using h1, h2, by omega, .left h4 fun y hy => hx y (List.mem_of_mem_take hy), h5⟩
  | @right y a b m s hy ih =>
    intro k hk
    cases k with
    | zero => exact ⟨0, 0, Nat.zero_le _, Nat.zero_le _, rfl, .nil, .right s hy⟩
    | succ k =>
      obtain ⟨i, j, h1, h2, h3, h4, h5⟩ := ih k (by simpa using hk)
      exact ⟨i, j + 1, h1, by simpa using h2, by omega, .right h4 fun x hx => hy x (List.mem_of_mem_take hx), h5⟩
theorem Shuf.split2 {a b m : List Ent} (h : Shuf a b m) : ∀ {k k'}, k ≤ k' → k' ≤ m.length → ∃ i j i' j', i ≤ i' ∧ j ≤ j' ∧ i' ≤ a.length ∧ j' ≤ b.length ∧ i + j = k ∧ i' + j' = k' ∧
    (Shuf (a.take i) (b.take j) (m.take k) ∧ Shuf (a.drop i) (b.drop j) (m.drop k)) ∧ (Shuf (a.take i') (b.take j') (m.take k') ∧ Shuf (a.drop i') (b.drop j') (m.drop k')) := by
  induction h with
  | nil =>
    intro k k' hk hk'
    have hk' : k' = 0 := by simpa using hk'
    subst hk'
    obtain rfl : k = 0 := by omega
    exact ⟨0, 0, 0, 0, Nat.le_refl _, Nat.le_refl _, Nat.le_refl _, Nat.le_refl _, rfl, rfl, ⟨.nil, .nil⟩, ⟨.nil, .nil⟩⟩
  | @left x a b m s hx ih =>
    intro k k' hk hk'
    cases k with
    | zero =>
      obtain ⟨i, j, h1, h2, h3, h4, h5⟩ := (Shuf.left s hx).split k' hk'
      exact ⟨0, 0, i, j, Nat.zero_le _, Nat.zero_le _, h1, h2, rfl, h3, ⟨.nil, .left s hx⟩, h4, h5⟩
    | succ k =>
      cases k' with
      | zero => omega
      | succ k' =>
        obtain ⟨i, j, i', j', g1, g2, h1, h2, h3, h4, ⟨h5, h6⟩, h7, h8⟩ := ih (k := k) (k' := k') (by omega) (by simpa using hk')
        exact ⟨i + 1, j, i' + 1, j', by omega, g2, by simpa using h1, h2, by omega, by omega, ⟨.left h5 fun y hy => hx y (List.mem_of_mem_take hy), h6⟩, .left h7 fun y hy => hx y (List.mem_of_mem_take hy), h8⟩
  | @right y a b m s hy ih =>
    intro k k' hk hk'
    cases k with
    | zero =>
      obtain ⟨i, j, h1, h2, h3, h4, h5⟩ := (Shuf.right s hy).split k' hk'
      exact ⟨0, 0, i, j, Nat.zero_le _, Nat.zero_le _, h1, h2, rfl, h3, ⟨.nil, .right s hy⟩, h4, h5⟩
    | succ k =>
      cases k' with
      | zero => omega
      | succ k' =>
        obtain ⟨i, j, i', j', g1, g2, h1, h2, h3, h4, ⟨h5, h6⟩, h7, h8⟩ := ih (k := k) (k' := k') (by omega) (by simpa using hk')
        exact ⟨i, j + 1, i', j' + 1, g1, by omega, h1, by simpa using h2, by omega, by omega, ⟨.right h5 fun x hx => hy x (List.mem_of_mem_take hx), h6⟩, .right h7 fun x hx => hy x (List.mem_of_mem_take hx), h8⟩
/-- the last one -/
theorem Shuf.last {a b m : List Ent} (h : Shuf a b m) : ∀ {p : List Ent} {z : Ent}, m = p ++ [z] → (∃ q, a = q ++ [z]) ∨ (∃ q, b = q ++ [z]) := by
  induction h with
  | nil => intro p z e; simp at e
  | @left x a b m s hx ih =>
    intro p z e
    cases p with
    | nil =>
      simp only [List.nil_append, List.cons.injEq] at e
      obtain ⟨rfl, rfl⟩ := e
      have hl := s.length
      have ea : a = [] := List.eq_nil_of_length_eq_zero (by simp at hl; omega)
      subst ea
      exact .inl ⟨[], rfl⟩
    | cons w p =>
      simp only [List.cons_append, List.cons.injEq] at e
      rcases ih e.2 with ⟨q, rfl⟩ | ⟨q, rfl⟩
      · exact .inl ⟨x :: q, rfl⟩
      · exact .inr ⟨q, rfl⟩
  | @right y a b m s hy ih =>
    intro p z e
    cases p with
    | nil =>
      simp only [List.nil_append, List.cons.injEq] at e
      obtain ⟨rfl, rfl⟩ := e
      have hl := s.length
      have eb : b = [] := List.eq_nil_of_length_eq_zero (by simp at hl; omega)
      subst eb
      exact .inr ⟨[], rfl⟩
    | cons w p =>
      simp only [List.cons_append, List.cons.injEq] at e
      rcases ih e.2 with ⟨q, rfl⟩ | ⟨q, rfl⟩
      · exact .inl ⟨q, rfl⟩
      · exact .inr ⟨y :: q, rfl⟩
theorem take_last {α : Type} {l q : List α} {z : α} {i : Nat} (h : i ≤ l.length) (e : l.take i = q ++ [z]) : ∃ k, i = k + 1 ∧ l[k]? = some z := by
  have hl := congrArg List.length e
  rw [List.length_take, List.length_append, List.length_singleton] at hl
  refine ⟨q.length, by omega, ?_⟩
  have g := congrArg (fun l => l[q.length]?) e
  simp only [List.getElem?_append_right (Nat.le_refl _), Nat.sub_self, List.getElem?_cons_zero] at g
  rw [List.getElem?_take_of_lt (by omega)] at g
  exact g
theorem drop_head {α : Type} {l q : List α} {z : α} {i : Nat} (e : l.drop i = z :: q) : l[i]? = some z := by
  have g := congrArg (fun l => l[0]?) e
  simp only [List.getElem?_drop, List.getElem?_cons_zero, Nat.add_zero] at g
  exact g
theorem liftE_get {es fs : List Ent} {more : Int} {i : Nat} {z : Ent} (h : (liftE es fs more)[i]? = some z) : ∃ e, es[i]? = some e ∧ z = (e.1, e.2.1 + addLeast fs e.1, e.2.2 + addMost fs e.1 more) := by
  unfold liftE at h
  rw [List.getElem?_map] at h
  cases e : es[i]? with
  | none => rw [e] at h; cases h
  | some e' => rw [e] at h; exact ⟨e', rfl, (Option.some.inj h).symm⟩
theorem liftE_length (es fs : List Ent) (more : Int) : (liftE es fs more).length = es.length := List.length_map ..
theorem mul_le3 {a b : Nat} {w : Int} (hw : 0 ≤ w) (h : a ≤ b) : (a : Int) * w ≤ (b : Int) * w := Int.mul_le_mul_of_nonneg_right (by omega) hw
theorem join_lo {es fs : List Ent} {n m : Int} (h1 : Rise es) (h2 : Rise fs) {ms : List Ent} (s : Shuf (liftE es fs m) (liftE fs es n) ms) {k i j : Nat} (hi : i ≤ es.length) (hj : j ≤ fs.length) (hk : i + j = k) (hm : k ≤ ms.length)
    (t : Shuf ((liftE es fs m).take i) ((liftE fs es n).take j) (ms.take k)) : ∃ i' j', i ≤ i' ∧ i' ≤ es.length ∧ j ≤ j' ∧ j' ≤ fs.length ∧ loC ms k = loC es i' + loC fs j' := by
  cases k with
  | zero =>
    obtain rfl : i = 0 := by omega
    obtain rfl : j = 0 := by omega
    exact ⟨0, 0, Nat.le_refl _, Nat.zero_le _, Nat.le_refl _, Nat.zero_le _, rfl⟩
  | succ k =>
    have hz : ms[k]? = some ms[k] := List.getElem?_eq_getElem (by omega)
    generalize ms[k] = z at hz
    have et : ms.take (k + 1) = ms.take k ++ [z] := by
      rw [List.take_succ, hz]
      rfl
    have hall : ∀ y ∈ ms.take (k + 1), y.1 ≤ z.1 := by
      intro y hy
      have hr := s.rise (liftE_rise h1) (liftE_rise h2)
      obtain ⟨q, hq, rfl⟩ := List.getElem_of_mem hy
      rw [List.length_take] at hq
      rw [List.getElem_take]
      exact rise_get hr (i := q) (j := k) (by omega) (List.getElem?_eq_getElem (by omega)) hz
    rw [loC_succ hz]
    rcases t.last et with ⟨q, e⟩ | ⟨q, e⟩
    · obtain ⟨c, rfl, hc⟩ := take_last (by rw [liftE_length]; exact hi) e
      obtain ⟨d, hd, rfl⟩ := liftE_get hc
      refine ⟨c + 1, noLess fs (d.1 + 1), Nat.le_refl _, hi, noLess_ge h2 (fun p y hp hpj => ?_) hj, (cut_of h2 _).le, ?_⟩
      · have hy : (liftE fs es n)[p]? = some (y.1, y.2.1 + addLeast es y.1, y.2.2 + addMost es y.1 n) := by
          unfold liftE
          rw [List.getElem?_map, hp]
          rfl
        have hmem : (y.1, y.2.1 + addLeast es y.1, y.2.2 + addMost es y.1 n) ∈ ms.take (k + 1) := (t.mem _).mpr (.inr (List.mem_of_getElem? (i := p) (by rw [List.getElem?_take_of_lt hpj]; exact hy)))
        have := hall _ hmem
        show y.1 < d.1 + 1
        have : y.1 ≤ d.1 := this
        omega
      · rw [loC_succ hd, ← addLeast_lo h2]
        show d.2.1 + addLeast fs d.1 + 1 = _
        omega
    · obtain ⟨c, rfl, hc⟩ := take_last (by rw [liftE_length]; exact hj) e
      obtain ⟨d, hd, rfl⟩ := liftE_get hc
      refine ⟨noLess es (d.1 + 1), c + 1, noLess_ge h1 (fun p y hp hpj => ?_) hi, (cut_of h1 _).le, Nat.le_refl _, hj, ?_⟩
      · have hy : (liftE es fs m)[p]? = some (y.1, y.2.1 + addLeast fs y.1, y.2.2 + addMost fs y.1 m) := by
          unfold liftE
          rw [List.getElem?_map, hp]
          rfl
        have hmem : (y.1, y.2.1 + addLeast fs y.1, y.2.2 + addMost fs y.1 m) ∈ ms.take (k + 1) := (t.mem _).mpr (.inl (List.mem_of_getElem? (i := p) (by rw [List.getElem?_take_of_lt hpj]; exact hy)))
        have := hall _ hmem
        show y.1 < d.1 + 1
        have : y.1 ≤ d.1 := this
        omega
      · rw [loC_succ hd, ← addLeast_lo h1]
        show d.2.1 + addLeast es d.1 + 1 = _
        omega
theorem join_up {es fs : List Ent} {n m : Int} (h1 : Rise es) (h2 : Rise fs) {ms : List Ent} (s : Shuf (liftE es fs m) (liftE fs es n) ms) {k i j : Nat} (hi : i ≤ es.length) (hj : j ≤ fs.length) (hk : i + j = k) (hm : k ≤ ms.length)
    (t : Shuf ((liftE es fs m).drop i) ((liftE fs es n).drop j) (ms.drop k)) : ∃ i' j', i' ≤ i ∧ j' ≤ j ∧ upC ms (n + m) k = upC es n i' + upC fs m j' := by
  have hr := s.rise (liftE_rise h1) (liftE_rise h2)
  have hl := s.length
  rw [liftE_length, liftE_length] at hl
  by_cases hend : k = ms.length
  · subst hend
    refine ⟨i, j, Nat.le_refl _, Nat.le_refl _, ?_⟩
    rw [upC_end (Nat.le_refl _), upC_end (by omega), upC_end (by omega)]
  · have hz : ms[k]? = some ms[k] := List.getElem?_eq_getElem (by omega)
    generalize ms[k] = z at hz
    have hall : ∀ y ∈ ms.drop k, z.1 ≤ y.1 := by
      intro y hy
      obtain ⟨q, hq, rfl⟩ := List.getElem_of_mem hy
      rw [List.length_drop] at hq
      rw [List.getElem_drop]
      exact rise_get hr (i := k) (j := k + q) (by omega) hz (List.getElem?_eq_getElem (by omega))
    have hd0 : ms.drop k = z :: ms.drop (k + 1) := by
      have := List.drop_eq_getElem_cons (l := ms) (i := k) (by omega)
      rw [this]
      congr 1
      have := List.getElem?_eq_getElem (l := ms) (i := k) (by omega)
      rw [hz] at this
      exact (Option.some.inj this).symm
    rw [upC_some hz]
    have key : (∃ q, (liftE es fs m).drop i = z :: q) ∨ (∃ q, (liftE fs es n).drop j = z :: q) := by
      generalize (liftE es fs m).drop i = A at t
      generalize (liftE fs es n).drop j = B at t
      rw [hd0] at t
      cases t with
      | left _ _ => exact .inl ⟨_, rfl⟩
      | right _ _ => exact .inr ⟨_, rfl⟩
    rcases key with ⟨q, e⟩ | ⟨q, e⟩
    · obtain ⟨d, hd, rfl⟩ := liftE_get (drop_head e)
      refine ⟨i, noLess fs d.1, Nat.le_refl _, noLess_le h2 fun p y hp hpj => ?_, ?_⟩
      · have hy : (liftE fs es n)[p]? = some (y.1, y.2.1 + addLeast es y.1, y.2.2 + addMost es y.1 n) := by
          unfold liftE
          rw [List.getElem?_map, hp]
          rfl
        have hmem : (y.1, y.2.1 + addLeast es y.1, y.2.2 + addMost es y.1 n) ∈ ms.drop k := (t.mem _).mpr (.inr (List.mem_of_getElem? (i := p - j) (by rw [List.getElem?_drop, Nat.add_sub_cancel' hpj]; exact hy)))
        have := hall _ hmem
        exact this
      · rw [upC_some hd, ← addMost_up h2]
    · obtain ⟨d, hd, rfl⟩ := liftE_get (drop_head e)
      refine ⟨noLess es d.1, j, noLess_le h1 fun p y hp hpj => ?_, Nat.le_refl _, ?_⟩
      · have hy : (liftE es fs m)[p]? = some (y.1, y.2.1 + addLeast fs y.1, y.2.2 + addMost fs y.1 m) := by
          unfold liftE
          rw [List.getElem?_map, hp]
          rfl
        have hmem : (y.1, y.2.1 + addLeast fs y.1, y.2.2 + addMost fs y.1 m) ∈ ms.drop k := (t.mem _).mpr (.inl (List.mem_of_getElem? (i := p - i) (by rw [List.getElem?_drop, Nat.add_sub_cancel' hpj]; exact hy)))
        have := hall _ hmem
        exact this
      · rw [upC_some hd, ← addMost_up h1]
        show d.2.2 + addMost es d.1 n = _
        omega
/-- joined: what both are off comes together -/
theorem AG.join {es fs : List Ent} {n m g g' w : Int} (h1 : Rise es) (h2 : Rise fs) (hw : 0 ≤ w) (a1 : AG es n g w) (a2 : AG fs m g' w) : AG (joinE es n fs m) (n + m) (g + g') w := by
  have s : Shuf (liftE es fs m) (liftE fs es n) (joinE es n fs m) := shuf_byKey (liftE_rise h1) (liftE_rise h2)
  generalize joinE es n fs m = ms at s
  intro c c' hc hc'
  have hl := s.length
  rw [liftE_length, liftE_length] at hl
  by_cases hcc : c ≤ c'
  · obtain ⟨i, j, i', j', d1, d2, b1, b2, d3, b3, d4, b5⟩ := s.split2 (k := c) (k' := c') hcc hc'
    rw [liftE_length] at b1 b2
    obtain ⟨p, q, e1, e2, e3, e4, e5⟩ := join_lo h1 h2 s (by omega) (by omega) d3 hc d4.1
    obtain ⟨p', q', f1, f2, f5⟩ := join_up h1 h2 s b1 b2 b3 hc' b5.2
    have k1 := a1 p p' e2 (by omega)
    have k2 := a2 q q' e4 (by omega)
    have k3 := mul_le3 hw (a := (p' - p) + (q' - q)) (b := c' - c) (by omega)
    rw [Int.natCast_add, Int.add_mul] at k3
    rw [e5, f5]
    omega
  · obtain ⟨i', j', i, j, d1, d2, b1, b2, d3, b3, d4, b5⟩ := s.split2 (k := c') (k' := c) (by omega) hc
    rw [liftE_length] at b1 b2
    obtain ⟨p, q, e1, e2, e3, e4, e5⟩ := join_lo h1 h2 s b1 b2 b3 hc b5.1
    obtain ⟨p', q', f1, f2, f5⟩ := join_up h1 h2 s (by omega) (by omega) d3 hc' d4.2
    have k1 := a1 p p' e2 (by omega)
    have k2 := a2 q q' e4 (by omega)
    have z1 : p' - p = 0 := by omega
    have z2 : q' - q = 0 := by omega
    rw [z1] at k1
    rw [z2] at k2
    have z3 : c' - c = 0 := by omega
    rw [e5, f5, z3]
    omega
theorem odds_get {α : Type} : ∀ (l : List α) (i : Nat), (odds l)[i]? = l[2 * i + 1]?
  | [], i => by simp [odds]
  | [x], i => by simp [odds]
  | x :: y :: r, 0 => by simp [odds]
  | x :: y :: r, i + 1 => by
    show (y :: odds r)[i + 1]? = _
    rw [List.getElem?_cons_succ, odds_get r i]
    rfl
theorem odds_len {α : Type} : ∀ l : List α, (odds l).length = l.length / 2
  | [] => by simp [odds]
  | [x] => by simp [odds]
  | x :: y :: r => by
    show (y :: odds r).length = _
    rw [List.length_cons, odds_len r, List.length_cons, List.length_cons]
    omega
/-- halved: of an even many -/
theorem AG.half {es : List Ent} {n g w : Int} (hw : 0 ≤ w) (he : es.length % 2 = 0) (a : AG es n g w) : AG (odds es) n (g + w) (2 * w) := by
  intro c c' hc hc'
  rw [odds_len] at hc hc'
  have e1 : loC (odds es) c = loC es (2 * c) := by
    cases c with
    | zero => rfl
    | succ c =>
      have h : es[2 * c + 1]? = some es[2 * c + 1] := List.getElem?_eq_getElem (by omega)
      have h' : (odds es)[c]? = some es[2 * c + 1] := by rw [odds_get]; exact h
      rw [loC_succ h']
      exact (loC_succ h).symm
  have e2 : ∃ d, d ≤ es.length ∧ d ≤ 2 * c' + 1 ∧ upC (odds es) n c' = upC es n d := by
    by_cases h : 2 * c' + 1 < es.length
    · refine ⟨2 * c' + 1, by omega, Nat.le_refl _, ?_⟩
      unfold upC
      rw [odds_get]
    · refine ⟨es.length, Nat.le_refl _, by omega, ?_⟩
      rw [upC_end (Nat.le_refl _), upC_end (by rw [odds_len]; omega)]
  obtain ⟨d, d1, d2, e2⟩ := e2
  have k := a (2 * c) d (by omega) d1
  rw [e1, e2]
  have k3 := mul_le3 hw (a := d - 2 * c) (b := 2 * (c' - c) + 1) (by omega)
  have k4 : ((2 * (c' - c) + 1 : Nat) : Int) * w = ((c' - c : Nat) : Int) * (2 * w) + w := by
    rw [Int.natCast_add, Int.natCast_mul, Int.add_mul]
    have : ((2 : Nat) : Int) * ((c' - c : Nat) : Int) * w = ((c' - c : Nat) : Int) * (2 * w) := by
      rw [Int.mul_comm ((2 : Nat) : Int), Int.mul_assoc]
      rfl
    omega
  omega
/-- exact ones -/
def exactE (row : List Int) : List Ent := row.mapIdx fun i x => (x, (i : Int), (i : Int))
theorem AG.exact (row : List Int) : AG (exactE row) (row.length : Int) 0 1 := by
  intro c c' hc hc'
  have hl : (exactE row).length = row.length := by unfold exactE; simp
  rw [hl] at hc hc'
  have g : ∀ i (h : i < row.length), (exactE row)[i]? = some (row[i], (i : Int), (i : Int)) := fun i h => by
    unfold exactE
    rw [List.getElem?_mapIdx, List.getElem?_eq_getElem h]
    rfl
  have e1 : loC (exactE row) c = (c : Int) := by
    cases c with
    | zero => rfl
    | succ c => rw [loC_succ (g c (by omega))]; rfl
  have e2 : upC (exactE row) (row.length : Int) c' = (c' : Int) := by
    by_cases h : c' < row.length
    · rw [upC_some (g c' h)]
    · rw [upC_end (by omega)]
      omega
  rw [e1, e2]
  omega
/-- the pair told of a reading -/
theorem AG.pair {es : List Ent} {n g w : Int} (h : Rise es) (a : AG es n g w) (r : Int) : upC es n (noLess es r) - loC es (noLess es r) ≤ g := by
  have := a (noLess es r) (noLess es r) (cut_of h r).le (cut_of h r).le
  rw [Nat.sub_self] at this
  omega
/-- some entry is near to each place -/
theorem AG.near {es : List Ent} {n g w : Int} (hg : 0 ≤ g) (a : AG es n g w) (hne : es ≠ []) {p : Int} (h0 : 0 ≤ p) (hp : p < n) : ∃ e ∈ es, p - e.2.1 ≤ g ∧ e.2.2 - p ≤ g := by
  -- the first one whose least is near enough
  have step : ∀ k, k ≤ es.length → (∃ e ∈ es, p - e.2.1 ≤ g ∧ e.2.2 - p ≤ g) ∨ (∀ i e, es[i]? = some e → i < k → e.2.1 < p - g) := by
    intro k
    induction k with
    | zero => exact fun _ => .inr fun i e _ h => absurd h (Nat.not_lt_zero _)
    | succ k ih =>
      intro hk
      rcases ih (by omega) with h | h
      · exact .inl h
      · have hz : es[k]? = some es[k] := List.getElem?_eq_getElem (by omega)
        generalize es[k] = z at hz
        by_cases hzp : z.2.1 < p - g
        · refine .inr fun i e hi hik => ?_
          by_cases hi' : i = k
          · subst hi'
            rw [hz] at hi
            cases hi
            exact hzp
          · exact h i e hi (by omega)
        · refine .inl ⟨z, List.mem_of_getElem? hz, by omega, ?_⟩
          have := a k k (by omega) (by omega)
          rw [Nat.sub_self, upC_some hz] at this
          cases k with
          | zero =>
            have l0 : loC es 0 = 0 := rfl
            omega
          | succ k =>
            have hy : es[k]? = some es[k] := List.getElem?_eq_getElem (by omega)
            rw [loC_succ hy] at this
            have := h k _ hy (Nat.lt_succ_self _)
            omega
  rcases step es.length (Nat.le_refl _) with h | h
  · exact h
  · have hpos : 0 < es.length := by
      cases es with
      | nil => exact absurd rfl hne
      | cons x l => simp
    obtain ⟨k, hk⟩ : ∃ k, es.length = k + 1 := ⟨es.length - 1, by omega⟩
    have hz : es[k]? = some es[k] := List.getElem?_eq_getElem (by omega)
    have h1 := h k _ hz (by omega)
    have := a (k + 1) (k + 1) (by omega) (by omega)
    rw [Nat.sub_self, upC_end (by omega), loC_succ hz] at this
    omega
end Own

/-! While an exception is handled: a list runs out, a comprehension over a list, isinstance of it, a def that is handed it. -/
namespace Own
open PySem PySem.Spec PyProof.Rows L2
section
variable {prog : Program} {w : World} {A : Around} {E : Value → Shared → Prop} {s : Shared}
/-- the end of a list, an exception being handled -/
theorem list_out {it l x1 : Addr} {i : Nat} {items : Array Value} {Q : Option Value → Shared → Prop} (hot : HotX.HotAt A x1 s.heap) (hne : it ≠ x1) (hit : s.heap.IsListIter it l i) (hl : s.heap.IsList l items) (hx : items[i]? = none)
    (hQ : ∀ h', (∀ b o, b ≠ it → s.heap.get? b = some o → h'.get? b = some o) → Q none { s with heap := h' }) : wpAny (model prog w) A (pyNext (.ref it)) Q E s := by
  obtain ⟨oi, hoi, hci, hdi⟩ := id hit
  obtain ⟨ol, hol, _, nl, hdl⟩ := hl
  obtain ⟨hh, o1, vs1, h1, d1, c1⟩ := hot
  unfold pyNext
  refine wpAny_bind (wpAny_attempt (wpAny_callSpecial?_slot (name := Str.ofString "__next__") hit.typeIs slot_listiter_next (wpAny_call_entry slot_listiter_next hit.typeIs entry_listiter_next ?_ (args_listiter_next _))))
  show wpAny _ _ (field (.ref it) 0 >>= _) _ _ s
  refine wpAny_bind (wpAny_field hoi hdi (x := .ref l) rfl ?_)
  show wpAny _ _ (if (Value.ref l == Value.none) = true then _ else _) _ _ s
  rw [if_neg (show ¬ ((Value.ref l == Value.none) = true) from Bool.false_ne_true)]
  show wpAny _ _ (field (.ref it) 1 >>= _) _ _ s
  refine wpAny_bind (wpAny_field hoi hdi (x := .int i 0) rfl ?_)
  show wpAny _ _ (seqItems? (.ref l) >>= _) _ _ s
  refine wpAny_bind (wpAny_seqItems hol hdl ?_)
  simp only [Int.toNat_natCast, hx]
  refine wpAny_bind (wpAny_rule (wpAny_bind (wpAny_setField hoi hdi (by simp) ?_)))
  show wpAny _ _ (newExc (.type "StopIteration") [] >>= _) _ _ _
  refine wpAny_bind ?_
  simp only [newExc, newTuple]
  refine wpAny_bind (wpAny_newObj_type ?_ (by size_fits))
  refine wpAny_bind (m := firstArgMember _ _) (wpAny_of_eq (a := Value.none) (by first | rfl | (simp only [firstArgMember]; rfl)) ?_)
  refine wpAny_newObj_type ?_ (by size_fits)
  have g1 := Heap.get?_update_other s.heap (Obj.mapFields (·.setIfInBounds 0 Value.none)) hne
  refine HotX.raiseNew_hot (x1 := x1) ⟨hh, o1, vs1, Heap.get?_push_of_some _ (Heap.get?_push_of_some _ (g1.trans h1)), d1, c1⟩ (Nat.ne_of_lt (Heap.lt_size (Heap.get?_push_of_some _ (g1.trans h1)))) (Heap.get?_push_size _ rfl) rfl (by first | (simp; done) | (simp; omega)) ?_
  refine wpAny_bind (wpAny_isInstance (T := "StopIteration") (b := true) ⟨_, Heap.get?_update_self _ (Heap.get?_push_size _ rfl) rfl, rfl⟩ isSubtype_stop ?_)
  refine wpAny_pure (hQ _ fun b o hb e => ?_)
  have e' := (Heap.get?_update_other s.heap (Obj.mapFields (·.setIfInBounds 0 Value.none)) (Ne.symm hb)).trans e
  rw [Heap.get?_update_other _ _ (Nat.ne_of_gt (Heap.lt_size (Heap.get?_push_of_some _ e')))]
  exact Heap.get?_push_of_some _ (Heap.get?_push_of_some _ e')
end
section
variable {X : Cx}
/-- an exception is handled, it stands among what is pinned, its own context is None -/
def HotP (X : Cx) (p : Addr × Obj) : Prop := L2H.Hot1 X.A p ∧ p ∈ X.pn
/-- a comprehension over a list, an exception being handled -/
theorem pe_lcH {p : Addr × Obj} {elt tg iter : Expr} {ifs : List Expr} {scope : Scope} {own : List (Str × Nat)} {pos : Pos} {tl : TE} {g : TG} {tt : TT} {te : TE} (hot : HotP X p) (hN : X.N.Nodup) (hl : PE X iter tl) (ok : BlkOk X.N X.env.scope scope own)
    (hg : ∀ (s : Shared) (H : Hp) (C : Addr) (cl : List (Str × Addr)) (fp : List Addr), PG (X.blk s H scope (compEnvC scope cl C X.env) fp) tg g)
    (ht : ∀ (s : Shared) (H : Hp) (C : Addr) (cl : List (Str × Addr)) (fp : List Addr), PTs (X.blk s H scope (compEnvC scope cl C X.env) fp) ifs tt)
    (he : ∀ (s : Shared) (H : Hp) (C : Addr) (cl : List (Str × Addr)) (fp : List Addr), PE (X.blk s H scope (compEnvC scope cl C X.env) fp) elt te) (hs : ∀ x, foldedSetIterable iter X.env x = pure x := by intro _; rfl) :
    PE X (.ListComp elt [⟨tg, iter, ifs, 0⟩] scope pos) (tLc (iList X.K tl) g tt te (own.map (·.2))) := by
  refine ⟨fun pins s σ H Q I h => ?_⟩
  rw [eval_ListComp]
  obtain ⟨⟨hh, vs1, d1, c1⟩, hp⟩ := hot
  have free : ∀ y ∈ scope.names, y.2 = .free → ∃ c, X.env.cells.lookup y.1 = some c := fun y hy e => I.ok.has _ ((ok.free y hy e).elim .inl .inr)
  refine wpAny_comprehension_free (use := none) rfl hs (closure_ok free) ok.kind (fun y hy e => by rw [ok.uniq y hy, e]) (thn (hl.run pins s σ H _ I h) fun v s1 ⟨x, H1, I1, r1, a, ex, ⟨xs, hq⟩, q⟩ => ?_)
  subst ex
  cases r1
  obtain ⟨its, rv, ia, iz⟩ := I1.list hq
  refine wpAny_pyIter_list ia.isList ?_
  -- the iterator, the new list
  generalize hit : s1.heap.objs.size = it
  generalize hs2 : ({ s1 with heap := s1.heap.push { cls := .type "list_iterator", data := .fields #[.ref a, .int 0 0] } } : Shared) = s2
  have h2 : s2.heap = s1.heap.push { cls := .type "list_iterator", data := .fields #[.ref a, .int 0 0] } := by rw [← hs2]
  have I2 : Inv X pins σ H1 s2 := by
    rw [← hs2]
    exact I1.kept (t' := s1.toks) fun b o e => Heap.get?_push_of_some _ e
  have st2 : s2.heap.IsListIter it a 0 := ⟨_, by rw [h2, ← hit]; exact Heap.get?_push_size _ rfl, rfl, rfl⟩
  have f2 : FpOk X pins H1 it := I1.fpOk (Nat.le_of_eq hit) (I1.hok.fresh (Nat.le_of_eq hit))
  refine wpAny_newObj_type (newEnv_comp ?_) (by show 0 ≤ sizeLine; decide)
  generalize hD : s2.heap.objs.size = D
  have nD : H1 D = none := I2.hok.fresh (Nat.le_of_eq hD)
  obtain ⟨W, ⟨m0, w0⟩, turn⟩ := q D nD
  generalize hs3 : ({ s2 with heap := s2.heap.push { cls := .type "list", data := .seq ([] : List Value).toArray } } : Shared) = s3
  have h3 : s3.heap = s2.heap.push { cls := .type "list", data := .seq ([] : List Value).toArray } := by rw [← hs3]
  have I3 : Inv X pins σ (upd H1 D (.lst [])) s3 := by
    rw [← hs3]
    exact I2.laid (t' := s2.toks) (fun b o e => Heap.get?_push_of_some _ e) (Nat.le_of_eq hD) ⟨Nat.zero_le _, [], 0, .nil, by rw [← hD]; exact Heap.get?_push_size _ rfl⟩
  have lti : it < s2.heap.objs.size := by
    obtain ⟨o, e, _⟩ := st2
    exact Heap.lt_size e
  have niD : it ≠ D := by rw [← hD]; exact Nat.ne_of_lt lti
  have n3 : (upd H1 D (.lst [])) it = none := by rw [upd_ne niD]; exact f2.1
  have f3 : FpOk X pins (upd H1 D (.lst [])) it := ⟨n3, f2.2⟩
  have st3 : s3.heap.IsListIter it a 0 := st2.at fun o e => by rw [h3]; exact Heap.get?_push_of_some _ e
  have I4 := block_start (fp := [it]) I3 ok hN (fun b hb => by
    rw [List.mem_singleton.mp hb]
    exact ⟨f3, by rw [h3, Heap.size_push]; exact Nat.lt_succ_of_lt lti⟩)
  -- the handled one stands all along
  obtain ⟨gp, np, pl, pf, _⟩ := I3.pin p (List.mem_append_left _ hp)
  have pit : it ≠ p.1 := fun z => by
    have := (I1.pin p (List.mem_append_left _ hp)).1
    have := Heap.lt_size this
    rw [hit, z] at this
    exact absurd this (Nat.lt_irrefl _)
  have pst : p.1 ∉ frs X.stack := fun hm => (List.mem_cons.mp (I3.stkSub p.1 hm)).elim pl pf
  have pg := hg s3 (upd H1 D (.lst [])) s3.heap.objs.size (cellsFrom (s3.heap.objs.size + 1) scope.names (cloFrom X.env.cells scope.names [])) [it]
  have pt := ht s3 (upd H1 D (.lst [])) s3.heap.objs.size (cellsFrom (s3.heap.objs.size + 1) scope.names (cloFrom X.env.cells scope.names [])) [it]
  have pe := he s3 (upd H1 D (.lst [])) s3.heap.objs.size (cellsFrom (s3.heap.objs.size + 1) scope.names (cloFrom X.env.cells scope.names [])) [it]
  show codeAny _ _ (.compStart (.ListComp elt [⟨tg, iter, ifs, 0⟩] scope pos) 0 (.ref it) (.ref D) (compEnvC scope (cellsFrom (s3.heap.objs.size + 1) scope.names (cloFrom X.env.cells scope.names [])) s3.heap.objs.size X.env)) (compPost (model X.prog X.w) X.A X.xe none _ (.ref D) s3.heap.objs.size) { s3 with heap := pushCells (s3.heap.push { cls := .type "dict", data := .dict #[] }) scope.names }
  generalize hce : compEnvC scope (cellsFrom (s3.heap.objs.size + 1) scope.names (cloFrom X.env.cells scope.names [])) s3.heap.objs.size X.env = ce at I4 pg pt pe ⊢
  have cL : ce.locals = s3.heap.objs.size := by subst hce; rfl
  generalize hH3 : upd H1 D (.lst []) = H3 at I3 I4 pg pt pe w0 n3 f3 np
  generalize hs4 : ({ s3 with heap := pushCells (s3.heap.push { cls := .type "dict", data := .dict #[] }) scope.names } : Shared) = s4 at I4 ⊢
  have st4 : s4.heap.IsListIter it a 0 := st3.at fun o e => by rw [← hs4]; exact pushCells_keeps _ _ _ _ (Heap.get?_push_of_some _ e)
  have fp' : ∀ {σ' : L2.St} {H' : Hp} {s' : Shared}, Inv (X.blk s3 H3 scope ce [it]) [] σ' H' s' → H' it = none → FpOk (X.blk s3 H3 scope ce [it]) [] H' it := fun {σ' H' s'} J n =>
    ⟨n, (J.ok.exf it List.mem_cons_self).1, J.ok.exfs it List.mem_cons_self, .inl List.mem_cons_self, fun x c e => (J.ok.exf it List.mem_cons_self).2 x c e, fun y hy => absurd (show y ∈ ([] : List (Addr × Obj)) ++ [] from hy) (by simp)⟩
  have loop : codeAny (model X.prog X.w) X.A (.compLoop (.ListComp elt [⟨tg, iter, ifs, 0⟩] scope pos) 0 (.ref it) (.ref D) ce) (compPost (model X.prog X.w) X.A X.xe none (EP X pins σ Q) (.ref D) s3.heap.objs.size) s4 := by
    refine compLoop_any (fun n s' => ∃ i H', Inv (X.blk s3 H3 scope ce [it]) [] (wipe σ (own.map (·.2))) H' s' ∧ s'.heap.IsListIter it a i ∧ H' it = none ∧ W i n H') ?_ m0 ⟨0, H3, I4, st4, n3, w0⟩
    rintro n s5 ⟨i, H5, I5, st5, n5, w5⟩
    obtain ⟨k0, k1, k2, k3, k4, k5⟩ := fp' I5 n5
    rcases turn i n H5 w5 with ⟨⟨ys, hy, hyl⟩, qq⟩ | ⟨⟨ys, y, hy, hyi⟩, Nx, hNx, step⟩
    · obtain ⟨is5, rv5, p5, z5⟩ := I5.list hy
      have lv := rv5.length
      have g5 : s5.heap.get? p.1 = some p.2 := I5.base.keep p.1 p.2 gp np pst (by simpa using fun z => pit z.symm)
      refine list_out (x1 := p.1) ⟨hh, p.2, vs1, g5, d1, c1⟩ pit st5 p5.isList (by simp; omega) fun h6 e6 => ?_
      have I6 : Inv (X.blk s3 H3 scope ce [it]) [] (wipe σ (own.map (·.2))) H5 { s5 with heap := h6 } := I5.turned (t' := s5.toks) (fun b o hb e => e6 b o hb e) k0 k1 k3 k4 k5
      have I7 : Inv X pins σ H5 { s5 with heap := h6 } := I3.call' (ch := [it]) I6.os I6.base I6.hok I6.bare fun b hb => by
        rw [List.mem_singleton.mp hb]
        exact ⟨f3.2.2.2.1, f3.2.1, f3.2.2.2.2.1, f3.2.2.2.2.2⟩
      have nC : H5 s3.heap.objs.size = none := by
        have z : H5 ce.locals = none := I6.free
        rw [cL] at z
        exact z
      obtain ⟨m, hn, _⟩ := I6.loc
      have hn : Heap.Ns h6 ce.locals m := hn
      rw [cL] at hn
      refine ⟨m, hn, fun h7 sb => ?_⟩
      obtain ⟨c0, c1', c2, c3, c4, c5⟩ := I3.fpOk (Nat.le_refl _) nC
      exact ⟨.ref D, H5, I7.turned (t' := s5.toks) (fun b o hb e => (sb.2 b hb).trans e) c0 c1' c3 c4 c5, rfl, qq⟩
    · obtain ⟨is5, rv5, p5, z5⟩ := I5.list hy
      obtain ⟨u, hu, ru⟩ := rv5.get hyi
      refine wpAny_pyNext_list_item st5 p5.isList (x := u) (by simpa using hu) fun h6 st6 sb6 => ?_
      have I6 : Inv (X.blk s3 H3 scope ce [it]) [] (wipe σ (own.map (·.2))) H5 { s5 with heap := h6 } := I5.turned (t' := s5.toks) (fun b o hb e => (sb6.2 b hb).trans e) k0 k1 k3 k4 k5
      obtain ⟨oi, ei, ci, di⟩ := id st6
      refine go_of (s := { s5 with heap := h6 }) ei ci di (by decide) ?_
      have pin6 := I6.pinned (pins := []) (fp := [it]) (fun b hb => by rw [List.mem_singleton.mp hb]; exact fp' I6 n5) (fun b hb => by rw [List.mem_singleton.mp hb]; exact ⟨oi, ei, fun v z => by rw [di] at z; cases z⟩)
      refine thnF (pg.run _ _ _ H5 y u _ pin6 ru (step y H5 ⟨rfl, fun zs hz => by rw [I5.list_inj hz hy]; exact hyi⟩)) fun _ s8 ⟨σ8, H8, I8, hw8, q8⟩ => ?_
      refine thnF (pt.run _ s8 σ8 H8 _ I8 q8) fun b s9 ⟨H9, I9, q9⟩ => ?_
      have fin : ∀ {s' : Shared} {H' : Hp}, Inv (X.blk s3 H3 scope ce [it]) ([] ++ pinsAt [it] h6) σ8 H' s' → Nx H' → ∃ m, m < n ∧ ∃ i H', Inv (X.blk s3 H3 scope ce [it]) [] (wipe σ (own.map (·.2))) H' s' ∧ s'.heap.IsListIter it a i ∧ H' it = none ∧ W i m H' := fun {s' H'} J nx => by
        obtain ⟨m', hm, w'⟩ := hNx H' nx
        have z := J.pin (it, oi) (List.mem_append_right _ (List.mem_append_right _ (mem_pinsAt List.mem_cons_self ei)))
        refine ⟨m', hm, i + 1, H', (J.unpinned (pins := [])).weak (by rw [← hw8, wipe_length]) (fun j v e => ?_), st6.at fun o e => ?_, z.2.1, w'⟩
        · rw [← hw8] at e
          exact (wipe_some e).1
        · have e' := ei.symm.trans e
          cases e'
          exact z.1
      cases b with
      | false =>
        simp only [Bool.false_eq_true, if_false] at q9 ⊢
        exact fin I9 q9
      | true =>
        simp only [if_true] at q9 ⊢
        refine thnF (pe.run _ s9 σ8 H9 _ I9 q9) fun z s10 ⟨yv, H10, I10, r10, acc, hD10, hz10, nx⟩ => ?_
        exact app_ok (X := X.blk s3 H3 scope ce [it]) I10 hD10 hz10 r10 fun s11 I11 => fin I11 nx
  exact codeAny_compStart_list loop (wpAny_pyIter_listiter st4 loop)
end
/-! ### isinstance of the handled one -/
theorem call_isH {X : Cx} {a D : Addr} {oe : Obj} (C : ExcC X.K D) (hm : (a, oe) ∈ X.pn) (hz : Zc (.ref D) none oe) (hf : ∃ vs, oe.data = .fields vs) : CallR X (.builtin "isinstance") (rIsE X.K D a) := by
  intro pins s σ H xs us Q I r h
  obtain ⟨c, cv, b, rfl, hcv, e, q⟩ := h
  cases r with
  | cons rx rr =>
    cases rr with
    | cons rt rr =>
      cases rr
      cases rx
      have ec := hcv _ rt
      subst ec
      have hget := (I.pin (a, oe) (List.mem_append_left _ hm)).1
      obtain ⟨vs, hv⟩ := hf
      have J : PySem.W.InstAt s.heap a oe D none := by
        cases oe with
        | mk oc od oda osl =>
          obtain ⟨g1, g2⟩ := hz
          dsimp only at g1 g2 hv
          subst g1 g2 hv
          exact ⟨hget, rfl, rfl, trivial⟩
      exact PySem.W.kia_one (PySem.W.handS_kitx_exc C.hg C.hk C.hs C.hd C.ha C.hn C.ht C.hm) I.kIn J e (fun z => nomatch z) fun tk => ⟨.bl b, H, I.kept (t' := tk) fun _ _ z => z, rfl, q⟩
/-! ### a def that is called while an exception is handled; its promise may speak of that one -/
abbrev SpE := Addr → Value → Option Addr → Sp
/-- what is known of the handled one: its class, its dict, no context -/
abbrev Held (p : Addr × Obj) (cls : Value) (d : Option Addr) : Prop := L2N.Zn cls d p.2 ∧ ∃ vs, p.2.data = .fields vs
structure FnE (P : Program) (w : World) (K : PySem.W.Frag) (mg : Str → Option Value) (base : Heap) (k : Nat) (f : Addr) (fd : FuncData) (ps : List Str) (sp : SpE) : Prop where
  len : ∀ a cls d vs H Q E, sp a cls d vs H Q E → vs.length = ps.length
  run : ∀ (A : Around) (outer : List Env) (s : Shared) (H : Hp) (args : Args) (us : List Value) (vs : List V) (Q : VK) (E : XK) (p : Addr × Obj) (cls : Value) (d : Option Addr), Held p cls d → L2H.RoomH k A → L2H.Hot1 A p → L2H.PinOk outer H s p →
    Env0 P w K mg base A outer s H → BindsTo s fd args (ps.zip us) → Vals vs us → sp p.1 cls d vs H Q E → codeAny (model P w) A (.call (.ref f) args) (CR CX0 outer P w H s Q E) s
theorem fnE_of {P : Program} {w : World} {K : PySem.W.Frag} {mg : Str → Option Value} {base : Heap} {k : Nat} {x qual : Str} {st : Stmt} {f : Addr} {fd : FuncData} {N ps : List Str} {sp : SpE} (F : Fun K x qual st f fd) (S : FnScope N ps (defScope st))
    (len : ∀ a cls d vs H Q E, sp a cls d vs H Q E → vs.length = ps.length)
    (body : ∀ (cdv : Value) (A : Around) (outer : List Env) (s : Shared) (H : Hp) (vs : List V) (Q : VK) (E : XK) (p : Addr × Obj) (cls : Value) (d : Option Addr), Held p cls d → L2H.Hot1 A p → L2H.RoomH k (A.deeper (envOfC qual (defScope st) s.heap.objs.size f cdv)) → sp p.1 cls d vs H Q E →
      ∃ t, PSs (L2H.cxH CX0 P w K mg base N qual (defScope st) f cdv A outer s H E p) (defBody st) t ∧ t { nx := fun _ H' => Q .non H', rt := Q } (L2.start N vs) H) : FnE P w K mg base (k + 1) f fd ps sp := by
  obtain ⟨⟨oc, od, kV, doc, pm, an, cdv, ct, osl, rfl, lk, hcd⟩, kp⟩ := F
  refine ⟨len, fun A outer s H args us vs Q E p cls d held hr hot pin e0 hb r hsp => ?_⟩
  have n1 := len _ _ _ _ _ _ _ hsp
  have KX : K.In s.heap := e0.mod.kin.keeps fun b o e => (e0.bs b o e).1
  have NL : s.heap.NoLimit := e0.mod.nolimit.keeps fun b o e => (e0.bs b o e).1
  have kinds : ∀ y ∈ ps.zip us, (defScope st).names.lookup y.1 = some .local ∨ ((defScope st).names.lookup y.1 = some .cell ∧ ((cellsFrom (s.heap.objs.size + 1) (defScope st).names []).lookup y.1).isSome = true) := by
    rintro ⟨n, v⟩ hy
    cases S.par n (List.of_mem_zip hy).1 with
    | inl q => exact .inl q
    | inr q => exact .inr ⟨q, PySem.W.cellsFrom_some _ _ _ (.inl q)⟩
  refine codeAny_call_function hr.depth (KX _ _ lk) rfl S.co S.gen rfl (PySem.W.codeRec_of KX hcd) (hb _ _ _ _ (wpAny_newFunctionEnv_cells S.kind kinds fun env he s1 y => ?_))
  subst he
  refine ⟨NL.keeps y.toInCall.keep, codeAny_func ?_⟩
  obtain ⟨t, ht, hq⟩ := body cdv A outer s H vs Q E p cls d held hot (hr.deeper _) hsp
  have I : Inv (L2H.cxH CX0 P w K mg base N qual (defScope st) f cdv A outer s H E p) [] (L2.start N vs) H s1 := L2H.inv_startH S pin e0 n1 r y
  have fin : ∀ {σ' : L2.St} {H' : Hp} {v : V} {u : Value} {s' : Shared}, Inv (L2H.cxH CX0 P w K mg base N qual (defScope st) f cdv A outer s H E p) [] σ' H' s' → RelV v u → Q v H' → CE outer P w H s Q u s' := fun {σ' H' v u s'} J rv q => ⟨v, H', J.os, J.bare, J.base, J.hok, rv, q⟩
  refine wpAny_mono (ht.run [] s1 (L2.start N vs) H _ I hq) (fun fl s' hs => ?_) fun e s' hs => hs
  cases fl with
  | ret u =>
    obtain ⟨v, σ', H', J, rv, q⟩ := hs
    exact fin J rv q
  | next =>
    obtain ⟨σ', H', J, q⟩ := hs
    exact fin (v := V.non) (u := Value.none) J rfl q
  | brk => exact hs.elim fun _ h => h.elim fun _ h => h.2.elim
  | cont => exact hs.elim fun _ h => h.elim fun _ h => h.2.elim
/-- such a def of the module, to be called by its name -/
structure CalE (P : Program) (w : World) (K : PySem.W.Frag) (mg : Str → Option Value) (base : Heap) (k : Nat) (x : Str) (sp : SpE) : Prop where
  ex : ∃ (f : Addr) (fd : FuncData) (ps : List Str), FnE P w K mg base k f fd ps sp ∧ mg x = some (.ref f) ∧ PySem.W.keepIn K (.ref f) = true ∧ Binds K fd ps []
theorem pe_callE {X : Cx} {k : Nat} {x : Str} {q pos : Pos} {e : Expr} {es : List Expr} {t : TA} {sp : SpE} {a : Addr} {oe : Obj} {cls : Value} {d : Option Addr} (c : CalE X.prog X.w X.K X.mg X.base k x sp) (hr : L2H.RoomH k X.A) (held : Held (a, oe) cls d) (hot : HotP X (a, oe)) (hg : Gl X x) (ha : PA X (e :: es) t)
    (hdb : (x == ("__debug__" : Str)) = false := by decide) (he : starEach (e :: es) X.env = (false, eval e X.env) :: starEach es X.env := by rfl) (hpl : (backTo pos (starEach es X.env)).any (·.1) = false := by rfl) :
    PE X (.Call (.Name x q) (e :: es) [] pos) (tCall (sp a cls d) [] E0 t) := by
  obtain ⟨f, fd, ps, F, hm, kp, b⟩ := c.ex
  refine ⟨fun pins s σ H Q I h => ?_⟩
  refine wpAny_Call_Name_kw (ld_glob I hg hm ?_ hdb)
  refine PySem.W.callWith_K (h₀ := X.base) I.ok.mod.kin kp (thn (ha.run pos pins s σ H _ I h) fun us s1 ⟨vs, H1, I1, r, hsp⟩ => ⟨I1.kIn, ?_⟩) he hpl
  have hsp : sp a cls d vs H1 Q E0 := by
    have z : sp a cls d (vs ++ []) H1 Q E0 := hsp
    rw [List.append_nil] at z
    exact z
  have hl : us.length = ps.length := by rw [← r.length]; exact F.len _ _ _ _ _ _ _ hsp
  have b' := b s1 us I1.kIn (by rw [List.append_nil]; exact hl)
  rw [List.append_nil] at b'
  have P1 := I1.pin (a, oe) (List.mem_append_left _ hot.2)
  have pin : L2H.PinOk X.stack H1 s1 (a, oe) := ⟨P1.1, P1.2.1, fun hm => (List.mem_cons.mp (I1.stkSub a hm)).elim P1.2.2.1 P1.2.2.2.1, P1.2.2.2.2⟩
  refine wpAny_call (codeAny_mono (F.run X.A X.stack s1 H1 ⟨us, []⟩ us vs Q E0 (a, oe) cls d held hr hot.1 pin I1.env0 b' r hsp) fun r s' hq => ?_)
  cases r with
  | error e => exact hq.elim
  | ok fl =>
    cases fl with
    | ret u => exact I1.after hq
    | next => exact False.elim hq
    | brk => exact False.elim hq
    | cont => exact False.elim hq
/-- in the suite of an except clause -/
theorem hot_suite {X : Cx} {a : Addr} {oe : Obj} {cls : Value} {d : Option Addr} {pn : List (Addr × Obj)} (hz : L2N.Zn cls d oe) (hf : ∃ vs, oe.data = .fields vs) : HotP (X.suite a ((a, oe) :: pn)) (a, oe) := by
  obtain ⟨vs, e⟩ := hf
  exact ⟨⟨rfl, vs, e, hz.2.2 vs e⟩, List.mem_cons_self⟩
theorem hot_def {P : Program} {w : World} {K : PySem.W.Frag} {mg : Str → Option Value} {base : Heap} {N : List Str} {qual : Str} {sc : Scope} {f : Addr} {cd : Value} {A : Around} {outer : List Env} {s : Shared} {H : Hp} {E : XK} {p : Addr × Obj} (h : L2H.Hot1 A p) : HotP (L2H.cxH CX0 P w K mg base N qual sc f cd A outer s H E p) p := ⟨h, List.mem_singleton.mpr rfl⟩
end Own

/-! Several except clauses, each with a name; defs and methods that raise, called within a try and out of it. -/
namespace Own
open PySem PySem.Spec PyProof.Rows L2 L2N
/-- the ways of a try whose suite holds the exception in slot i: behind the suite the slot is empty -/
def Ends.cut (D : Ends) (i : Nat) : Ends := { nx := fun σ H => D.nx (σ.set i none) H, rt := D.rt, bk := fun σ H => D.bk (σ.set i none) H, ct := fun σ H => D.ct (σ.set i none) H }
abbrev Clause := Nat × Value × (Addr → Value → Option Addr → TS)
def wClauses (K : PySem.W.Frag) (Wout : WX) (D : Ends) : List Clause → WX
  | [] => Wout
  | (i, c, ts) :: r => fun cls d σ H => ∃ b, PySem.W.exmOne K cls c = some b ∧ (b = true → ∀ a, H a = none → ts a cls d (Ends.cut D i) (σ.set i (some (.ref a))) H) ∧ (b = false → wClauses K Wout D r cls d σ H)
inductive Clauses (X : Cx) : List ExceptHandler → List Clause → Prop
  | nil : Clauses X [] []
  | cons {x n : Str} {c : Value} {i : Nat} {ts : Addr → Value → Option Addr → TS} {b₀ : Stmt} {suite : List Stmt} {np pos' : Pos} {hds : List ExceptHandler} {l : List Clause} (hi : X.N[i]? = some n) (hln : X.env.kindOf n = some .local) (hc : Names X x c)
      (hsu : ∀ (a : Addr) (oe : Obj) (cls : Value) (d : Option Addr) (pn : List (Addr × Obj)), Zn cls d oe → (∃ vs, oe.data = .fields vs) → PSs (X.suite a ((a, oe) :: pn)) (b₀ :: suite) (ts a cls d)) (r : Clauses X hds l) :
      Clauses X (.ExceptHandler (some (.Name x np)) (some n) (b₀ :: suite) pos' :: hds) ((i, c, ts) :: l)
section
variable {X : Cx} {body : List Stmt} {h₀ : ExceptHandler} {hds : List ExceptHandler} {l : List Clause} {pos : Pos} {tb : WX → TS} {Wout : WX}
theorem ps_try_clauses (hs : X.stack = X.env :: X.outer) (hf : X.env.frame = some X.env.locals) (hN : X.N.Nodup) (tk : L2N.Takes X Wout)
    (hb : ∀ (W : WX) (pn : List (Addr × Obj)) (xe : Value → Shared → Prop), L2N.Takes (X.tr pn xe) W → PassesOwn (model X.prog X.w) X.A X.env xe → PSs (X.tr pn xe) body (tb W))
    (hh : Clauses X (h₀ :: hds) l) : PS X (.Try body (h₀ :: hds) [] [] pos) (fun D σ H => tb (wClauses X.K Wout D l) D σ H) := by
  refine ⟨fun pins s σ H D I h => ?_⟩
  have ok := I.ok
  have hfr : X.A.frames = some (X.env :: X.outer) := by rw [ok.frames, hs]
  refine wpAny_Try_except ?_
  have hrun := (hb (wClauses X.K Wout D l) (X.pn ++ pins) (fun e s₁ => wpAny (model X.prog X.w) X.A (noteFrame e X.env) (fun _ s₂ => wpAny (model X.prog X.w) X.A (setFlight e none) (fun _ s₃ => wpAny (model X.prog X.w) X.A (handleBy e X.env (h₀ :: hds)) (SP X pins D) X.xe s₃) X.xe s₂) X.xe s₁) (fun u s' xx => ?_) PassesOwn.looking).run [] s σ H D (I.toTry _) h
  · refine wpAny_mono hrun (fun f s1 hsp => ?_) (fun e s1 he => he)
    cases f with
    | next => exact hsp.elim fun σ' h => h.elim fun H' h => wpAny_execs_nil ⟨σ', H', h.1.ofTry ok, h.2⟩
    | brk => exact hsp.elim fun σ' h => h.elim fun H' h => ⟨σ', H', h.1.ofTry ok, h.2⟩
    | cont => exact hsp.elim fun σ' h => h.elim fun H' h => ⟨σ', H', h.1.ofTry ok, h.2⟩
    | ret u =>
      obtain ⟨v, σ', H', J', r, q⟩ := hsp
      exact ⟨v, σ', H', J'.ofTry ok, r, q⟩
  · obtain ⟨a, B, sI, pins', σ', H', cls, d, rfl, J', nb, up, sky, na, os, ag, w⟩ := xx
    have J : Inv X pins σ' H' sI := J'.ofTry ok
    have sky' : Sky B (X.env :: X.outer) a (Zn cls d) X.env.locals s'.heap := by rw [← hs]; exact sky
    show wpAny (model X.prog X.w) X.A (noteFrame (.ref a) X.env) _ _ _
    refine L2N.Sky.land Zn.steady hfr hf sky' fun h3 fl3 up3 => ?_
    have J3 : Inv X pins σ' H' { s' with heap := h3 } := J.landed nb fl3.1 (up.trans up3) os ag
    obtain ⟨oe3, vs3, he3, hz3, hd3⟩ := fl3.there
    have nfr : a ∉ frs (X.env :: X.outer) := fun hm => by
      obtain ⟨_, o', e', hnf⟩ := fl3.2.2.1.mem hm
      rw [he3] at e'
      cases e'
      exact hnf _ hd3
    have nL : a ≠ X.env.locals := fun z => nfr (List.mem_filterMap.mpr ⟨X.env, List.mem_cons_self, by rw [hf, z]⟩)
    have nF : a ∉ X.fs := fun hm => by
      obtain ⟨e, he, q⟩ := List.mem_filterMap.mp hm
      exact nfr (List.mem_filterMap.mpr ⟨e, List.mem_cons_of_mem _ he, q⟩)
    have S3 := J3.suite he3 hd3 na nL nF
    have go : ∀ {hds' : List ExceptHandler} {l' : List Clause}, Clauses X hds' l' → wClauses X.K Wout D l' cls d σ' H' → wpAny (model X.prog X.w) X.A (handleBy (.ref a) X.env hds') (SP X pins D) X.xe { s' with heap := h3 } := by
      intro hds' l' hk
      induction hk with
      | nil =>
        intro w
        refine wpAny_handleBy_nil ?_
        obtain ⟨k1, k2, k3, oe, vs, T, oT, ts', he, hz, hd, h1, hr⟩ := id fl3
        unfold PySem.passOn
        refine wpAny_bind (wpAny_field he hd h1 ?_)
        rw [if_neg (show ¬ ((Value.ref T == Value.none) = true) from by simp)]
        have fin : wpAny (model X.prog X.w) X.A (setFlight (.ref a) X.env.frame) (fun _ s4 => wpAny (model X.prog X.w) X.A (throw (.ref a) : Sem Flow) (SP X pins D) X.xe s4) X.xe { s' with heap := h3 } := by
          rw [hf]
          exact HandSPX.setFlight_upZ fl3 fun h4 hh4 up4 => wpAny_throw (tk _ _ ⟨a, B, sI, pins, σ', H', cls, d, rfl, J, nb, (up.trans up3).trans up4, .inr (.inr (by rw [hs]; exact hh4)), na, os, ag, w⟩)
        first
          | exact wpAny_bind (wpAny_pure (wpAny_bind fin))
          | exact wpAny_bind fin
      | @cons x n c i ts b₀ suite np pos' hds2 l2 hi hln hc hsu r ih =>
        rintro ⟨b, hb1, hyes, hno⟩
        refine wpAny_handleBy_cons (codeAny_handlers_test ?_) (by intro q; cases q)
        have LT : PySem.W.Looks (model X.prog X.w) h3 (typeOf (.ref a)) cls := fun A Q E s k q => wpAny_typeOf_ref (k _ _ he3) (by rw [hz3.1]; exact q)
        have LM := PySem.W.exm_one (M := model X.prog X.w) (J3.kIn) LT hb1
        have test : ∀ {Q : Value → Shared → Prop} {E : Value → Shared → Prop}, Q c { s' with heap := h3 } → wpAny (model X.prog X.w) (X.A.mark (some (.ref a))) (eval (.Name x np) X.env) Q E { s' with heap := h3 } := by
          intro Q E q
          obtain ⟨hg, hdbg, hm | ⟨hm, hv, hnn⟩⟩ := hc
          · exact ld_glob (X := X.suite a ((a, oe3) :: (X.pn ++ pins))) S3 hg hm q hdbg
          · exact ld_blt (X := X.suite a ((a, oe3) :: (X.pn ++ pins))) S3 hg hm hv q hnn hdbg
        refine test (LM.here ?_)
        cases b with
        | false =>
          show wpAny _ X.A (handleBy (.ref a) X.env hds2) _ _ _
          exact ih (hno rfl)
        | true =>
          refine codeAny_handlers_suite_as (HandSPX.lands_againZ fl3 fun h4 fl4 up4 => ?_)
          have J4 : Inv X pins σ' H' { s' with heap := h4 } := J.landed nb fl4.1 ((up.trans up3).trans up4) os ag
          obtain ⟨oe4, vs4, he4, hz4, hd4⟩ := fl4.there
          refine store_ok (X := X.suite a ((a, oe4) :: (X.pn ++ pins))) (v := .ref a) (J4.suite he4 hd4 na nL nF) hN hi (.inl hln) rfl (fun s5 S5 => ?_) (.inr hln)
          have end_ : ∀ {s6 : Shared} {σ6 : L2.St} {H6 : Hp} {Q : Shared → Prop}, Inv (X.suite a ((a, oe4) :: (X.pn ++ pins))) [] σ6 H6 s6 → (∀ s7, Inv X pins (σ6.set i none) H6 s7 → Q s7) →
              wpAny (model X.prog X.w) X.A (do bindName X.env n .none; unbindBehindTheSuite X.env n pos') (fun _ s7 => Q s7) X.xe s6 := fun {s6 σ6 H6 Q} S6 hq => gone_ok (S6.unsuite ok) hN hi hln hq
          refine wpAny_mono ((hsu a oe4 cls d (X.pn ++ pins) hz4 ⟨_, hd4⟩).run [] s5 _ H' _ S5 (hyes rfl a na)) (fun f s6 hsp => ?_) (fun _ _ z => False.elim z)
          cases f with
          | next => exact hsp.elim fun σ6 h => h.elim fun H6 h => end_ h.1 fun s7 J7 => ⟨_, _, J7, h.2⟩
          | brk => exact hsp.elim fun σ6 h => h.elim fun H6 h => end_ h.1 fun s7 J7 => ⟨_, _, J7, h.2⟩
          | cont => exact hsp.elim fun σ6 h => h.elim fun H6 h => end_ h.1 fun s7 J7 => ⟨_, _, J7, h.2⟩
          | ret u =>
            obtain ⟨v6, σ6, H6, S6, r6, q6⟩ := hsp
            exact end_ S6 fun s7 J7 => ⟨_, _, _, J7, r6, q6⟩
    exact go hh w
end
end Own

/-! Defs, methods and classes by their promises, where errors may leave them. -/
namespace Own
open PySem PySem.Spec PyProof.Rows L2 L2N
/-- what leaves a call is taken, whatever stands in the slots -/
def Lets (X : Cx) (E : L2.St → XK) : Prop := ∀ σ, PassesAt (L2N.CX X.prog X.w) X σ (E σ)
abbrev EN : L2.St → XK := fun _ _ _ _ => False
theorem lets0 {X : Cx} : Lets X EN := fun σ pins H s e s' I h => by
  obtain ⟨_, _, _, _, _, _, _, _, _, _, _, _, z⟩ := h
  exact z.elim
theorem letsW {X : Cx} {W : WX} (tk : L2N.Takes X W) : Lets X (WE W) := fun σ => L2N.passAt tk σ
theorem letsE {X : Cx} {E : XK} (tk : L2N.Takes X (fun cls d _ H => E cls d H)) : Lets X (fun _ => E) := fun σ pins H s e s' I c => L2N.passes_call tk (fun _ _ _ _ h => h) pins σ H s e s' I c
theorem takes0N {X : Cx} : L2N.Takes X (fun _ _ _ _ => False) := fun _ _ x => by
  obtain ⟨_, _, _, _, _, _, _, _, _, _, _, _, _, _, _, _, z⟩ := x
  exact z.elim
section
variable {P : Program} {w : World} {K : PySem.W.Frag} {mg : Str → Option Value} {base : Heap}
/-- a def that errors may leave -/
theorem okN {x qual : Str} {st : Stmt} {f : Addr} {fd : FuncData} {N ps : List Str} {k : Nat} {sp : Sp} (F : Fun K x qual st f fd) (S : FnScope N ps (defScope st)) (len : ∀ vs H Q E, sp vs H Q E → vs.length = ps.length)
    (body : ∀ (cdv : Value) (A : Around) (outer : List Env) (s : Shared) (H : Hp) (vs : List V) (Q : VK) (E : XK), Room k (A.deeper (envOfC qual (defScope st) s.heap.objs.size f cdv)) → sp vs H Q E →
      ∃ t, PSs (cxOf (L2N.CX P w) P w K mg base N qual (defScope st) f cdv A outer s H E) (defBody st) t ∧ t { nx := fun _ H' => Q .non H', rt := Q } (L2.start N vs) H) : FnOk P w K mg base (L2N.CX P w) (k + 1) f fd ps sp := by
  obtain ⟨oc, od, kV, doc, pm, an, cdv, ct, osl, rfl, lk, hcd⟩ := F.ex
  exact fn_of lk hcd S len fun A outer s H vs Q E hr hsp => body cdv A outer s H vs Q E hr hsp
end
structure CalN (P : Program) (w : World) (K : PySem.W.Frag) (mg : Str → Option Value) (base : Heap) (k : Nat) (x : Str) (sp : Sp) : Prop where
  ex : ∃ (f : Addr) (fd : FuncData) (ps : List Str), FnOk P w K mg base (L2N.CX P w) k f fd ps sp ∧ mg x = some (.ref f) ∧ PySem.W.keepIn K (.ref f) = true ∧ L2.Binds K fd ps []
structure MetN (P : Program) (w : World) (K : PySem.W.Frag) (mg : Str → Option Value) (base : Heap) (k : Nat) (C : Addr) (m : Str) (sp : Sp) : Prop where
  cls : Cls K C
  ex : ∃ (f : Addr) (fd : FuncData) (ps : List Str), FnOk P w K mg base (L2N.CX P w) k f fd ps sp ∧ Meth K C m f ∧ L2.Binds K fd ps []
structure MakN (P : Program) (w : World) (K : PySem.W.Frag) (mg : Str → Option Value) (base : Heap) (k : Nat) (x : Str) (C : Addr) (sp : Sp) : Prop where
  ex : ∃ (f : Addr) (fd : FuncData) (ps : List Str), FnOk P w K mg base (L2N.CX P w) k f fd ps sp ∧ Mk K C f ∧ mg x = some (.ref C) ∧ L2.Binds K fd ps []
section
variable {X : Cx} {k j : Nat} {x m : Str} {sp : Sp} {C : Addr} {p pos apos : Pos} {e o : Expr} {es : List Expr} {ta : TE} {t : TA} {E : L2.St → XK}
theorem pe_n (c : CalN X.prog X.w X.K X.mg X.base k x sp) (hr : Room j X.A) (hk : k ≤ j) (hg : Gl X x) (hx : Lets X E) (ha : PA X (e :: es) t)
    (hdb : (x == ("__debug__" : Str)) = false := by decide) (he : starEach (e :: es) X.env = (false, eval e X.env) :: starEach es X.env := by rfl) (hpl : (backTo pos (starEach es X.env)).any (·.1) = false := by rfl) :
    PE X (.Call (.Name x p) (e :: es) [] pos) (tCallS sp E t) := by
  obtain ⟨f, fd, ps, F, hm, kp, b⟩ := c.ex
  exact pe_callS F (hr.mono hk) hg hm kp b hx ha hdb he hpl
def tMetS (C : Addr) (m : Str) (sp : Sp) (E : L2.St → XK) (ta : TE) (t : TA) : TE := fun σ H Q => ta σ H fun y H1 => ∃ a dx fs, y = .ref a ∧ H1 a = some (.ins C dx fs) ∧ fs.lookup m = none ∧ t σ H1 fun vs H2 => sp (y :: vs) H2 Q (E σ)
theorem pe_m {pl : Sem Bool} (c : MetN X.prog X.w X.K X.mg X.base k C m sp) (hr : Room j X.A) (hk : k ≤ j) (hx : Lets X E) (ho : PE X o ta) (ha : PA X (e :: es) t)
    (hst : starEach (e :: es) X.env = (false, eval e X.env) :: starEach es X.env := by rfl) (hpl : (backTo pos (starEach es X.env)).any (·.1) = false := by rfl)
    (ht : eval (.Call (.Attribute o m apos) (e :: es) [] pos) X.env = (do
      let ov ← eval o X.env
      standAt apos.atName
      let (f, first) ← holding [ov] (getMethod ov m pl)
      callWith pos f first (backTo pos (starEach (e :: es) X.env)) (backToKw pos (keywordEach [] X.env))) := by rfl) :
    PE X (.Call (.Attribute o m apos) (e :: es) [] pos) (tMetS C m sp E ta t) := by
  obtain ⟨f, fd, ps, F, hm, b⟩ := c.ex
  refine ⟨fun pins s σ H Q I h => PySem.W.methodCall_KW (pl := pl) (thn (ho.run pins s σ H _ I h) fun u s1 ⟨y, H1, I1, ry, a, dx, fs, ey, ea, l, q⟩ => ?_) ht⟩
  subst ey
  cases ry
  refine getmeth_ok I1 ea c.cls hm l (PySem.W.callWith_K (first := [.ref a]) (h₀ := X.base) I.ok.mod.kin hm.kp (thn (ha.run pos pins s1 σ H1 _ I1 q) fun us s2 ⟨vs, H2, I2, r, q2⟩ => ⟨I2.kIn, ?_⟩) hst hpl)
  exact run_fnS (us := .ref a :: us) (vs := .ref a :: vs) F (hr.mono hk) b (hx σ) I2 (.cons rfl r) q2
theorem pe_m0 {pl : Sem Bool} (c : MetN X.prog X.w X.K X.mg X.base k C m sp) (hr : Room j X.A) (hk : k ≤ j) (hx : Lets X E) (ho : PE X o ta)
    (ht : eval (.Call (.Attribute o m apos) [] [] pos) X.env = (do
      let ov ← eval o X.env
      standAt apos.atName
      let (f, first) ← holding [ov] (getMethod ov m pl)
      callWith pos f first (backTo pos (starEach [] X.env)) (backToKw pos (keywordEach [] X.env))) := by rfl) :
    PE X (.Call (.Attribute o m apos) [] [] pos) (tMetS C m sp E ta tNil) := by
  obtain ⟨f, fd, ps, F, hm, b⟩ := c.ex
  refine ⟨fun pins s σ H Q I h => PySem.W.methodCall_KW (pl := pl) (thn (ho.run pins s σ H _ I h) fun u s1 ⟨y, H1, I1, ry, a, dx, fs, ey, ea, l, q⟩ => ?_) ht⟩
  subst ey
  cases ry
  refine getmeth_ok I1 ea c.cls hm l (PySem.W.callWith_K0 (first := [.ref a]) I1.kIn hm.kp ?_)
  exact run_fnS (us := [.ref a]) (vs := [.ref a]) F (hr.mono hk) b (hx σ) I1 (.cons rfl .nil) q
def tMakS (C : Addr) (sp : Sp) (E : L2.St → XK) (t : TA) : TE := fun σ H Q => t σ H fun vs H1 => ∀ y dy, H1 y = none → H1 dy = none → dy ≠ y → sp (.ref y :: vs) (upd (upd H1 dy (.own y)) y (.ins C dy [])) (fun v H2 => v = .non ∧ Q (.ref y) H2) (E σ)
theorem pe_mk (c : MakN X.prog X.w X.K X.mg X.base k x C sp) (hr : Room j X.A) (hk : k + 1 ≤ j) (hg : Gl X x) (hx : Lets X E) (ha : PA X (e :: es) t)
    (hdb : (x == ("__debug__" : Str)) = false := by decide) (he : starEach (e :: es) X.env = (false, eval e X.env) :: starEach es X.env := by rfl) (hpl : (backTo pos (starEach es X.env)).any (·.1) = false := by rfl) :
    PE X (.Call (.Name x p) (e :: es) [] pos) (tMakS C sp E t) := by
  obtain ⟨f, fd, ps, F, M, hm, b⟩ := c.ex
  refine ⟨fun pins s σ H Q I h => wpAny_Call_Name_kw (ld_glob I hg hm ?_ hdb)⟩
  refine PySem.W.callWith_K (h₀ := X.base) I.ok.mod.kin M.kp (thn (ha.run pos pins s σ H _ I h) fun us s1 ⟨vs, H1, I1, r, q⟩ => ⟨I1.kIn, ?_⟩) he hpl
  have hq := q (s1.heap.objs.size + 1) s1.heap.objs.size (I1.hok.fresh (Nat.le_succ _)) (I1.hok.fresh (Nat.le_refl _)) (Nat.ne_of_lt (Nat.lt_succ_self _))
  have I2 := Inv.made (C := C) I1
  have r2 : Vals (V.ref (s1.heap.objs.size + 1) :: vs) (Value.ref (s1.heap.objs.size + 1) :: us) := .cons rfl r
  have hl : (Value.ref (s1.heap.objs.size + 1) :: us).length = ps.length := by rw [← r2.length]; exact F.len _ _ _ _ hq
  have bd := b _ (Value.ref (s1.heap.objs.size + 1) :: us) I2.kIn (by rw [List.append_nil]; exact hl)
  rw [List.append_nil] at bd
  refine wpAny_call (make_map (f := f) I1.kIn M.makes M.init (beq_iff_eq.mp M.fn) (codeAny_mono (F.run _ X.stack _ _ ⟨Value.ref (s1.heap.objs.size + 1) :: us, []⟩ _ _ _ (E σ) ((hr.mono hk).make C us []) (I2.env0.make C us []) bd r2 hq) fun r s' hq' => ?_))
  cases r with
  | error e => exact hx σ pins _ _ e s' I2 hq'
  | ok fl =>
    cases fl with
    | ret u =>
      obtain ⟨v, H', I3, rv, ev, q3⟩ := I2.after hq'
      subst ev
      exact ⟨rv, V.ref (s1.heap.objs.size + 1), H', I3, rfl, q3⟩
    | next => exact False.elim hq'
    | brk => exact False.elim hq'
    | cont => exact False.elim hq'
end
end Own

/-! An own class of errors, as the top has made it. -/
namespace Own
open PySem PySem.Spec PyProof.Rows L2
abbrev errTail : List Value := [.type "ValueError", .type "Exception", .type "BaseException", .type "object"]
structure ExcK (K : PySem.W.Frag) (mg : Str → Option Value) (x : Str) (C : Addr) : Prop where
  g : mg x = some (.ref C)
  kp : PySem.W.keepIn K (.ref C) = true
  ex : PySem.W.excIn K C errTail "ValueError.__new__" = true
  sb : PySem.W.subIn K (.ref C) (.type "BaseException") = some true
  tp : PySem.W.typeIn K (.ref C) = some (.type "type")
  is : ExcC K C
theorem roomM {k : Nat} {A : Around} {x : Option Value} (h : Room k A) : L2H.RoomH k (A.mark x) := ⟨h.dp, h.un⟩
/-- the answers of isinstance of an error of the class D, class by class -/
abbrev kits (K : PySem.W.Frag) (D : Addr) (cs : List Addr) (bs : List Bool) : Prop := PySem.W.EachIs (fun c b => PySem.W.kitOne K (.ref D) (.ref c) = some b) cs bs
theorem kits7 {K : PySem.W.Frag} {D c1 c2 c3 c4 c5 c6 c7 : Addr} {bs : List Bool} (h : kits K D [c1, c2, c3, c4, c5, c6, c7] bs) : ∃ b1 b2 b3 b4 b5 b6 b7 : Bool, bs = [b1, b2, b3, b4, b5, b6, b7] ∧ PySem.W.kitOne K (.ref D) (.ref c1) = some b1 ∧
    PySem.W.kitOne K (.ref D) (.ref c2) = some b2 ∧ PySem.W.kitOne K (.ref D) (.ref c3) = some b3 ∧ PySem.W.kitOne K (.ref D) (.ref c4) = some b4 ∧ PySem.W.kitOne K (.ref D) (.ref c5) = some b5 ∧ PySem.W.kitOne K (.ref D) (.ref c6) = some b6 ∧ PySem.W.kitOne K (.ref D) (.ref c7) = some b7 := by
  obtain _ | ⟨k1, h⟩ := h
  obtain _ | ⟨k2, h⟩ := h
  obtain _ | ⟨k3, h⟩ := h
  obtain _ | ⟨k4, h⟩ := h
  obtain _ | ⟨k5, h⟩ := h
  obtain _ | ⟨k6, h⟩ := h
  obtain _ | ⟨k7, h⟩ := h
  cases h
  exact ⟨_, _, _, _, _, _, _, rfl, k1, k2, k3, k4, k5, k6, k7⟩
theorem same_upd {H : Hp} {p : Addr} {o : HO} (h : H p = none) : Same H (upd H p o) := fun b x e => by
  rw [upd_ne (ne_of_none e h)]
  exact e
theorem small5 {n : Nat} (h : n ≤ 100000) : n < sizeLine := Nat.lt_of_le_of_lt h (by decide)
end Own

/-! A row as a dict tells it: each reading with how often it stands there. -/
namespace Own
open PySem PySem.Spec PyProof.Rows L2
abbrev DRow := List (Int × Int)
def dk (r : DRow) : List (Key × V) := r.map fun p => (Sum.inl p.1, V.int p.2)
def getZ : DRow → Int → Int
  | [], _ => 0
  | p :: r, x => if p.1 = x then p.2 else getZ r x
def putZ (r : DRow) (x v : Int) : DRow := if (r.any fun p => decide (p.1 = x)) = true then r.map (fun p => if p.1 = x then (p.1, v) else p) else r ++ [(x, v)]
def wsum (f : Int → Bool) : DRow → Int
  | [] => 0
  | p :: r => (if f p.1 = true then p.2 else 0) + wsum f r
theorem dk_put (r : DRow) (x v : Int) : putK (dk r) (Sum.inl x : Key) (V.int v) = dk (putZ r x v) := by
  have e : ((dk r).any fun kv => decide (kv.1 = (Sum.inl x : Key))) = r.any fun p => decide (p.1 = x) := by
    unfold dk
    rw [List.any_map]
    congr 1
    funext p
    exact decide_eq_decide.mpr ⟨fun h => Sum.inl.inj h, fun h => congrArg Sum.inl h⟩
  unfold putK putZ
  rw [e]
  by_cases h : (r.any fun p => decide (p.1 = x)) = true
  · rw [if_pos h, if_pos h]
    unfold dk
    rw [List.map_map, List.map_map]
    congr 1
    funext p
    show (if (Sum.inl p.1 : Key) = Sum.inl x then ((Sum.inl p.1 : Key), V.int v) else (Sum.inl p.1, V.int p.2)) = (Sum.inl (if p.1 = x then (p.1, v) else p).1, V.int (if p.1 = x then (p.1, v) else p).2)
    by_cases hp : p.1 = x
    · rw [if_pos (congrArg Sum.inl hp), if_pos hp]
    · rw [if_neg (fun z => hp (Sum.inl.inj z)), if_neg hp]
  · rw [if_neg h, if_neg h]
    unfold dk
    rw [List.map_append]
    rfl
theorem dk_val (r : DRow) (x : Int) : valV (dk r) (Sum.inl x : Key) = if (r.any fun p => decide (p.1 = x)) = true then some (V.int (getZ r x)) else none := by
  induction r with
  | nil => rfl
  | cons p r ih =>
    show valV ((Sum.inl p.1, V.int p.2) :: dk r) (Sum.inl x : Key) = _
    rw [List.any_cons]
    by_cases h : p.1 = x
    · rw [valV_pos (p := ((Sum.inl p.1 : Key), V.int p.2)) (congrArg Sum.inl h), decide_eq_true h, Bool.true_or, if_pos rfl]
      unfold getZ
      rw [if_pos h]
    · rw [valV_neg (p := ((Sum.inl p.1 : Key), V.int p.2)) (fun z => h (Sum.inl.inj z)), decide_eq_false h, Bool.false_or, ih]
      show _ = if _ then some (V.int (if p.1 = x then p.2 else getZ r x)) else none
      rw [if_neg h]
theorem getZ_none {r : DRow} {x : Int} (h : (r.any fun p => decide (p.1 = x)) = false) : getZ r x = 0 := by
  induction r with
  | nil => rfl
  | cons p r ih =>
    rw [List.any_cons, Bool.or_eq_false_iff] at h
    show (if p.1 = x then p.2 else getZ r x) = 0
    rw [if_neg (of_decide_eq_false h.1), ih h.2]
theorem dk_getD (r : DRow) (x : Int) : (valV (dk r) (Sum.inl x : Key)).getD (V.int 0) = V.int (getZ r x) := by
  rw [dk_val]
  cases h : (r.any fun p => decide (p.1 = x)) with
  | true => rfl
  | false => rw [getZ_none h]; rfl
theorem any_key (r : DRow) (x : Int) : (r.any fun p => decide (p.1 = x)) = true ↔ x ∈ r.map (·.1) := by
  rw [List.any_eq_true, List.mem_map]
  exact ⟨fun ⟨p, h, e⟩ => ⟨p, h, of_decide_eq_true e⟩, fun ⟨p, h, e⟩ => ⟨p, h, decide_eq_true e⟩⟩
theorem putZ_keys (r : DRow) (x v : Int) : (putZ r x v).map (·.1) = if (r.any fun p => decide (p.1 = x)) = true then r.map (·.1) else r.map (·.1) ++ [x] := by
  unfold putZ
  split
  · rw [List.map_map]
    congr 1
    funext p
    show (if p.1 = x then (p.1, v) else p).1 = p.1
    split <;> rfl
  · rw [List.map_append]
    rfl
theorem putZ_nodup {r : DRow} {x v : Int} (h : (r.map (·.1)).Nodup) : ((putZ r x v).map (·.1)).Nodup := by
  rw [putZ_keys]
  by_cases e : (r.any fun p => decide (p.1 = x)) = true
  · rw [if_pos e]
    exact h
  · rw [if_neg e, List.nodup_append]
    exact ⟨h, by simp, fun y hy z hz => by
      rw [List.mem_singleton.mp hz]
      intro q
      exact e ((any_key r x).mpr (q ▸ hy))⟩
theorem getZ_map {r : DRow} {x v : Int} (y : Int) : getZ (r.map fun p => if p.1 = x then (p.1, v) else p) y = if y = x ∧ (r.any fun p => decide (p.1 = x)) = true then v else getZ r y := by
  induction r with
  | nil => simp [getZ]
  | cons p r ih =>
    rw [List.map_cons, List.any_cons]
    show (if (if p.1 = x then (p.1, v) else p).1 = y then (if p.1 = x then (p.1, v) else p).2 else getZ _ y) = _
    rw [ih]
    by_cases h : p.1 = x
    · rw [if_pos h, decide_eq_true h, Bool.true_or]
      by_cases e : y = x
      · rw [if_pos (h.trans e.symm), if_pos ⟨e, rfl⟩]
      · rw [if_neg (fun z => e (z.symm.trans h)), if_neg (fun z => e z.1), if_neg (fun z => e z.1)]
        show _ = if p.1 = y then p.2 else getZ r y
        rw [if_neg (fun z => e (z.symm.trans h))]
    · rw [if_neg h, decide_eq_false h, Bool.false_or]
      by_cases e : y = x ∧ (r.any fun p => decide (p.1 = x)) = true
      · rw [if_pos e, if_pos e, if_neg (fun z => h (z.trans e.1))]
      · rw [if_neg e, if_neg e]
        rfl
theorem getZ_snoc {r : DRow} {x v : Int} (h : (r.any fun p => decide (p.1 = x)) = false) (y : Int) : getZ (r ++ [(x, v)]) y = if y = x then v else getZ r y := by
  induction r with
  | nil =>
    show (if x = y then v else getZ [] y) = _
    by_cases e : y = x
    · rw [if_pos e.symm, if_pos e]
    · rw [if_neg (fun z => e z.symm), if_neg e]
  | cons p r ih =>
    rw [List.any_cons, Bool.or_eq_false_iff] at h
    have h1 := of_decide_eq_false h.1
    show (if p.1 = y then p.2 else getZ (r ++ [(x, v)]) y) = _
    rw [ih h.2]
    by_cases e : y = x
    · rw [if_neg (fun z => h1 (z.trans e)), if_pos e, if_pos e]
    · rw [if_neg e, if_neg e]
      rfl
theorem getZ_put (r : DRow) (x v y : Int) : getZ (putZ r x v) y = if y = x then v else getZ r y := by
  unfold putZ
  cases h : (r.any fun p => decide (p.1 = x)) with
  | true =>
    rw [if_pos rfl, getZ_map, h]
    by_cases e : y = x
    · rw [if_pos ⟨e, rfl⟩, if_pos e]
    · rw [if_neg (fun z => e z.1), if_neg e]
  | false => rw [if_neg (by decide), getZ_snoc h]
/-! ### the row that it tells -/
structure RowOf (r : DRow) (row : List Int) : Prop where
  nd : (r.map (·.1)).Nodup
  pos : ∀ p ∈ r, 0 < p.2
  cnt : ∀ x, getZ r x = (row.count x : Int)
theorem RowOf.nil : RowOf [] [] := ⟨List.nodup_nil, fun p h => (List.not_mem_nil h).elim, fun x => rfl⟩
theorem getZ_mem {r : DRow} (nd : (r.map (·.1)).Nodup) {p : Int × Int} (h : p ∈ r) : getZ r p.1 = p.2 := by
  induction r with
  | nil => exact (List.not_mem_nil h).elim
  | cons q r ih =>
    rw [List.map_cons, List.nodup_cons] at nd
    show (if q.1 = p.1 then q.2 else getZ r p.1) = p.2
    rcases List.mem_cons.mp h with rfl | h
    · rw [if_pos rfl]
    · rw [if_neg (fun z => nd.1 (by rw [z]; exact List.mem_map_of_mem h)), ih nd.2 h]
theorem RowOf.mem {r : DRow} {row : List Int} (h : RowOf r row) (x : Int) : x ∈ r.map (·.1) ↔ x ∈ row := by
  have c := h.cnt x
  have c' := List.count_pos_iff (a := x) (l := row)
  refine Iff.trans ?_ c'
  constructor
  · intro hx
    obtain ⟨p, hp, rfl⟩ := List.mem_map.mp hx
    have := h.pos p hp
    rw [getZ_mem h.nd hp] at c
    omega
  · intro hx
    cases e : (r.any fun p => decide (p.1 = x)) with
    | true => exact (any_key r x).mp e
    | false =>
      rw [getZ_none e] at c
      omega
theorem wsum_row (f : Int → Bool) : ∀ {r : DRow} {row : List Int}, (r.map (·.1)).Nodup → (∀ x, getZ r x = (row.count x : Int)) → wsum f r = ((row.filter f).length : Int)
  | [], row, _, c => by
    have e : row = [] := by
      cases row with
      | nil => rfl
      | cons y l =>
        have := c y
        rw [List.count_cons_self] at this
        show _ = _
        have e0 : getZ [] y = 0 := rfl
        omega
    subst e
    rfl
  | p :: r, row, nd, c => by
    rw [List.map_cons, List.nodup_cons] at nd
    have hn : getZ r p.1 = 0 := by
      refine getZ_none ?_
      cases e : (r.any fun q => decide (q.1 = p.1)) with
      | false => rfl
      | true => exact absurd ((any_key r p.1).mp e) nd.1
    have ih := wsum_row f (r := r) (row := row.filter fun y => decide (y ≠ p.1)) nd.2 fun x => by
      have cx := c x
      have g : getZ (p :: r) x = if p.1 = x then p.2 else getZ r x := rfl
      by_cases e : p.1 = x
      · subst e
        rw [hn]
        have : List.count p.1 (row.filter fun y => decide (y ≠ p.1)) = 0 := List.count_eq_zero.mpr fun z => by simpa using (List.mem_filter.mp z).2
        omega
      · rw [g, if_neg e] at cx
        rw [cx, List.count_filter (by simpa using fun z => e z.symm)]
    have cp := c p.1
    have g : getZ (p :: r) p.1 = if p.1 = p.1 then p.2 else getZ r p.1 := rfl
    rw [g, if_pos rfl] at cp
    show (if f p.1 = true then p.2 else 0) + wsum f r = _
    rw [ih, cp]
    have key : ∀ l : List Int, (l.filter f).length = (if f p.1 = true then l.count p.1 else 0) + ((l.filter fun y => decide (y ≠ p.1)).filter f).length := by
      intro l
      induction l with
      | nil => simp
      | cons y l ih =>
        by_cases e : y = p.1
        · subst e
          cases hf : f p.1 with
          | true => simp [hf] at ih ⊢; omega
          | false => simp [hf] at ih ⊢; omega
        · have hc : (y :: l).count p.1 = l.count p.1 := List.count_cons_of_ne (by simpa using e)
          rw [hc]
          have hd : ((y :: l).filter fun y => decide (y ≠ p.1)) = y :: l.filter fun y => decide (y ≠ p.1) := List.filter_cons_of_pos (by simpa using e)
          rw [hd, List.filter_cons, List.filter_cons]
          split
          · rw [List.length_cons, List.length_cons]; omega
          · exact ih
    have := key row
    split <;> rename_i hf <;> rw [this] <;> simp [hf]
theorem RowOf.less {r : DRow} {row : List Int} (h : RowOf r row) (z : Int) : wsum (fun x => decide (x < z)) r = clt row z := wsum_row _ h.nd h.cnt
theorem RowOf.total {r : DRow} {row : List Int} (h : RowOf r row) : wsum (fun _ => true) r = (row.length : Int) := by
  rw [wsum_row _ h.nd h.cnt, List.filter_eq_self.mpr (fun _ _ => rfl)]
theorem RowOf.bump {r : DRow} {row : List Int} (h : RowOf r row) (x : Int) {t : Nat} (ht : 0 < t) : RowOf (putZ r x (getZ r x + (t : Int))) (row ++ List.replicate t x) := by
  refine ⟨putZ_nodup h.nd, fun p hp => ?_, fun y => ?_⟩
  · have g := getZ_mem (putZ_nodup h.nd) hp
    rw [getZ_put] at g
    rw [← g]
    split
    · have := h.cnt x
      omega
    · rename_i e
      have hk : p.1 ∈ (putZ r x (getZ r x + (t : Int))).map (·.1) := List.mem_map_of_mem hp
      rw [putZ_keys] at hk
      have hk : p.1 ∈ r.map (·.1) := by
        split at hk
        · exact hk
        · rcases List.mem_append.mp hk with z | z
          · exact z
          · exact absurd (List.mem_singleton.mp z) e
      obtain ⟨q, hq, eq⟩ := List.mem_map.mp hk
      rw [← eq, getZ_mem h.nd hq]
      exact h.pos q hq
  · have hc : (List.replicate t x).count y = if y = x then t else 0 := by
      rw [List.count_replicate]
      by_cases e : y = x
      · rw [if_pos e, if_pos (by rw [e]; exact beq_self_eq_true x)]
      · rw [if_neg e, if_neg (fun z => e (beq_iff_eq.mp z).symm)]
    rw [getZ_put, List.count_append, hc]
    have := h.cnt y
    by_cases e : y = x
    · subst e
      rw [if_pos rfl, if_pos rfl]
      omega
    · rw [if_neg e, if_neg e]
      omega
end Own

/-! What the scripts play: readings, times, deeds; the promises of those defs. -/
namespace Own
open PySem PySem.Spec PyProof.Rows L2 LamX
def cellZ (ns : List Int) (k : Nat) : Int := ns.getD k 0
def mixedOf (c k : Int) : Int := ((c + 7919 * k) * 48271 % 2147483647) * ((c + 7919 * k) * 48271 % 2147483647 + 2 * k + 1) % 2147483629
theorem mixed_range (c k : Int) : 0 ≤ mixedOf c k ∧ mixedOf c k < 2147483629 := by
  unfold mixedOf
  omega
def readingOf (c : Int) : Int :=
  let n := mixedOf c 1
  if n % 3 = 0 then n / 3 % 9 - 4 else if n % 3 = 1 then n / 3 % 2001 - 1000 else if n / 3 % 9 = 1 then (if n / 27 % 2 = 0 then 1000000000000000000 else -1000000000000000000) else n * n % 2000000000000000001 - 1000000000000000000
abbrev InR (x : Int) : Prop := -1000000000000000000 ≤ x ∧ x ≤ 1000000000000000000
theorem reading_range (c : Int) : InR (readingOf c) := by
  unfold readingOf InR
  dsimp only
  generalize mixedOf c 1 = n
  generalize n * n = m
  split
  · omega
  · split
    · omega
    · split
      · split <;> omega
      · omega
def timesOf (c : Int) (great : Bool) : Int :=
  let n := mixedOf c 2
  if n % 4 < 2 then 1 else if great = false ∧ n / 4 % 8 = 1 then 1 + n / 32 % 10000 else if n % 4 = 2 ∨ great = false then 1 + n / 4 % 40 else if n / 4 % 9 = 1 then 1000000000
  else 1 + n * n % (if n / 36 % 3 = 0 then 1000 else if n / 36 % 3 = 1 then 1000000 else 1000000000)
abbrev InT (t : Int) : Prop := 1 ≤ t ∧ t ≤ 1000000000
theorem times_range (c : Int) (g : Bool) : InT (timesOf c g) := by
  unfold timesOf InT
  dsimp only
  generalize mixedOf c 2 = n
  generalize n * n = m
  split
  · omega
  · split
    · omega
    · split
      · omega
      · split
        · omega
        · split
          · omega
          · split <;> omega
def keepOf (c : Int) : Int := if c % 9 = 1 then 1 + c / 9 % 64 else 1 + c / 9 % 12
theorem keep_range (c : Int) : 1 ≤ keepOf c ∧ keepOf c ≤ 64 := by
  unfold keepOf
  split <;> omega
inductive Deed where
  | add (c : Nat) (x : Int) (n : Nat) (step t : Int)
  | pour (c s : Nat)
def deedV : Deed → List V
  | .add c x n step t => [.int (c : Int), .int x, .int (n : Int), .int step, .int t]
  | .pour c s => [.int (c : Int), .int (s : Int)]
def Deed.cup : Deed → Nat
  | .add c _ _ _ _ => c
  | .pour c _ => c
def DeedAt (H : Hp) (v : V) (d : Deed) : Prop := ∃ p, v = .ref p ∧ H p = some (.tup (deedV d))
theorem DeedAt.ext {H H' : Hp} {v : V} {d : Deed} (s : ExtN H H') (h : DeedAt H v d) : DeedAt H' v d := by
  obtain ⟨p, h1, h2⟩ := h
  exact ⟨p, h1, s _ _ h2 (fun ps z => nomatch z)⟩
/-- a deed that the laws play -/
structure DeedOk (d : Deed) : Prop where
  ok : match d with
    | .add c x n step t => c < 3 ∧ n ≤ 14 ∧ InT t ∧ ∀ k : Nat, k < n → InR (x + (k : Int) * step)
    | .pour c s => c < 3 ∧ s < 3
def deedOf (k : Nat) (c : Int) (great : Bool) : Deed :=
  let n := mixedOf c (3 + (k : Int))
  if n % 8 < 4 then .add (n / 8 % 3).toNat (readingOf (c + (k : Int))) 1 0 (timesOf (c + (k : Int)) great)
  else if n % 8 < 6 then .add (n / 8 % 3).toNat (readingOf (c + (k : Int)) / 2) (1 + n / 24 % 14).toNat (n / 336 % 7 - 3) 1
  else .pour (n / 8 % 3).toNat (n / 24 % 3).toNat
def deedsOf (cs : List Int) (great : Bool) : List Deed := cs.mapIdx fun k c => deedOf k c great
theorem deedOf_ok (k : Nat) (c : Int) (g : Bool) : DeedOk (deedOf k c g) := by
  constructor
  unfold deedOf
  dsimp only
  have hr := reading_range (c + (k : Int))
  have ht := times_range (c + (k : Int)) g
  generalize mixedOf c (3 + (k : Int)) = n
  unfold InR at hr
  by_cases h1 : n % 8 < 4
  · rw [if_pos h1]
    refine ⟨by omega, by omega, ht, fun j hj => ?_⟩
    obtain rfl : j = 0 := by omega
    unfold InR
    omega
  · rw [if_neg h1]
    by_cases h2 : n % 8 < 6
    · rw [if_pos h2]
      refine ⟨by omega, by omega, ⟨by omega, by omega⟩, fun j hj => ?_⟩
      unfold InR
      have hj' : j < 14 := by omega
      have hs : -3 ≤ n / 336 % 7 - 3 ∧ n / 336 % 7 - 3 ≤ 3 := by omega
      generalize n / 336 % 7 - 3 = st at hs
      have m1 : (j : Int) * st ≤ (j : Int) * 3 := Int.mul_le_mul_of_nonneg_left (by omega) (by omega)
      have m2 : (j : Int) * (-3) ≤ (j : Int) * st := Int.mul_le_mul_of_nonneg_left (by omega) (by omega)
      omega
    · rw [if_neg h2]
      exact ⟨by omega, by omega⟩
/-! ### a row by its deeds -/
def addZ (r : DRow) (x : Int) (n : Nat) (step t : Int) : DRow := (List.range n).foldl (fun (c : DRow) (k : Nat) => putZ c (x + (k : Int) * step) (getZ c (x + (k : Int) * step) + t)) r
def pourZ (r r2 : DRow) : DRow := r2.foldl (fun c p => putZ c p.1 (getZ c p.1 + p.2)) r
def comeZ (rs : List DRow) : Deed → List DRow
  | .add c x n step t => rs.set c (addZ (rs.getD c []) x n step t)
  | .pour c s => rs.set c (pourZ (rs.getD c []) (rs.getD s []))
theorem putZ_len (r : DRow) (x v : Int) : (putZ r x v).length ≤ r.length + 1 := by
  unfold putZ
  split
  · rw [List.length_map]
    omega
  · rw [List.length_append, List.length_singleton]
    omega
theorem pourZ_snoc (r l : DRow) (p : Int × Int) : pourZ r (l ++ [p]) = putZ (pourZ r l) p.1 (getZ (pourZ r l) p.1 + p.2) := by
  unfold pourZ
  rw [List.foldl_append]
  rfl
theorem pourZ_len (r : DRow) : ∀ l : DRow, (pourZ r l).length ≤ r.length + l.length
  | [] => Nat.le_refl _
  | p :: l => by
    have h := pourZ_len (putZ r p.1 (getZ r p.1 + p.2)) l
    have := putZ_len r p.1 (getZ r p.1 + p.2)
    show (pourZ (putZ r p.1 (getZ r p.1 + p.2)) l).length ≤ _
    rw [List.length_cons]
    omega
theorem addZ_succ (r : DRow) (x : Int) (n : Nat) (step t : Int) : addZ r x (n + 1) step t = putZ (addZ r x n step t) (x + (n : Int) * step) (getZ (addZ r x n step t) (x + (n : Int) * step) + t) := by
  unfold addZ
  rw [List.range_succ, List.foldl_append]
  rfl
theorem addZ_len (r : DRow) (x : Int) (step t : Int) : ∀ n : Nat, (addZ r x n step t).length ≤ r.length + n
  | 0 => Nat.le_refl _
  | n + 1 => by
    have h := addZ_len r x step t n
    rw [addZ_succ]
    have := putZ_len (addZ r x n step t) (x + (n : Int) * step) (getZ (addZ r x n step t) (x + (n : Int) * step) + t)
    omega
theorem getD_set {α : Type} {l : List α} {c : Nat} {x y z : α} (h : l[c]? = some x) : (l.set c y).getD c z = y := by
  rw [List.getD_eq_getElem?_getD, List.getElem?_set_self (List.getElem?_eq_some_iff.mp h).1]
  rfl
theorem paired_len {α β : Type} {R : α → β → Prop} : ∀ {as : List α} {bs : List β}, Paired R as bs → as.length = bs.length
  | _, _, .nil => rfl
  | _, _, .cons _ t => congrArg (· + 1) (paired_len t)
/-! ### sums over a row -/
theorem wsum_filter (f : Int → Bool) : ∀ r : DRow, wsum f r = ((r.filter fun p => f p.1).map (·.2)).sum
  | [] => rfl
  | p :: r => by
    show (if f p.1 = true then p.2 else 0) + wsum f r = _
    rw [wsum_filter f r, List.filter_cons]
    split
    · rw [List.map_cons, List.sum_cons]
    · omega
theorem dget_frz {H : Hp} {a : Addr} {o : Obj} {r : DRow} {x : Int} (e : H a = some (.frz o (.dK (dk r)))) (hx : x ∈ r.map (·.1)) : DGet H a (.int x) (some (.int (getZ r x))) :=
  .inl ⟨dk r, Sum.inl x, .inr ⟨o, e⟩, rfl, by rw [dk_val, if_pos ((any_key r x).mpr hx)]⟩
theorem dget_row {H : Hp} {a : Addr} {r : DRow} {x : Int} (e : H a = some (.dK (dk r))) (hx : x ∈ r.map (·.1)) : DGet H a (.int x) (some (.int (getZ r x))) :=
  .inl ⟨dk r, Sum.inl x, .inl e, rfl, by rw [dk_val, if_pos ((any_key r x).mpr hx)]⟩
/-- [row[x] for x in row if f x] -/
theorem lc_row {d : Addr} {od : Obj} {r : DRow} {f : Int → Bool} {td : TE} {j : Nat} {tt : TT} {te : TE} {vs : List Nat} {σ : L2.St} {HF : Hp} {Q : VK} (nd : (r.map (·.1)).Nodup) (hl : r.length ≤ 10000) (hF : HF d = some (.frz od (.dK (dk r))))
    (hsrc : ∀ R : VK, R (.ref d) HF → td σ HF R) (hw : ∀ x, wipe ((wipe σ vs).set j (some x)) vs = wipe σ vs) (ht : ∀ (x : Int) (H : Hp) (R : Bool → Hp → Prop), R (f x) H → tt ((wipe σ vs).set j (some (.int x))) H R)
    (he : ∀ (x : Int) (H : Hp) (R : VK), x ∈ r.map (·.1) → H d = some (.frz od (.dK (dk r))) → R (.int (getZ r x)) H → te ((wipe σ vs).set j (some (.int x))) H R)
    (q : ∀ (D : Addr) (H' : Hp), Same HF H' → HF D = none → H' D = some (.lst (((r.filter fun p => f p.1).map (·.2)).map V.int)) → Q (.ref D) H') : tLc (iKeys td) (gName j) tt te vs σ HF Q := by
  refine hsrc _ ⟨d, od, rfl, .inl ⟨dk r, hF, fun D hD => lc_it walk_keys (fun i H' => Same HF H' ∧ H' D = some (.lst ((((r.take i).filter fun p => f p.1).map (·.2)).map V.int))) ⟨same_upd hD, upd_same⟩ (fun i H' _ p => p.1 _ _ hF) ?_ ?_⟩⟩
  · rintro i x H' H2 hi ⟨y1, y2⟩ ⟨rfl, k, v, hk, rfl⟩
    have hi' : i < r.length := by
      have : (dk r).length = r.length := List.length_map ..
      omega
    have hr : r[i]? = some r[i] := List.getElem?_eq_getElem hi'
    have hkk : k = Sum.inl r[i].1 := by
      unfold dk at hk
      rw [List.getElem?_map, hr] at hk
      exact (congrArg Prod.fst (Option.some.inj hk)).symm
    subst hkk
    have hm : r[i] ∈ r := List.mem_of_getElem? hr
    generalize r[i] = p at hr hm
    have htk : r.take (i + 1) = r.take i ++ [p] := by rw [List.take_succ, hr]; rfl
    refine ⟨hw _, ht _ _ _ ?_⟩
    cases hf : f p.1 with
    | false =>
      refine iteF ⟨y1, ?_⟩
      rw [htk, List.filter_append, show ([p].filter fun p => f p.1) = [] from by simp [hf], List.append_nil]
      exact y2
    | true =>
      refine iteT (he p.1 _ _ (List.mem_map_of_mem hm) (y1 _ _ hF) ⟨_, y2, small5 ?_, fun c o z => ?_, ?_⟩)
      · rw [List.length_map, List.length_map]
        have z1 := List.length_filter_le (fun p : Int × Int => f p.1) (r.take i)
        have z2 := List.length_take_le' i r
        omega
      · rw [upd_ne (ne_of_none z hD)]
        exact y1 _ _ z
      · rw [upd_same, htk, List.filter_append, show ([p].filter fun p => f p.1) = [p] from by simp [hf], List.map_append, List.map_append, getZ_mem nd hm]
        rfl
  · rintro H' ⟨y1, y2⟩
    have : (dk r).length = r.length := List.length_map ..
    rw [this, List.take_length] at y2
    exact q D H' y1 hD y2
theorem DeedAt.same {H H' : Hp} {v : V} {d : Deed} (s : Same H H') (h : DeedAt H v d) : DeedAt H' v d := h.ext (ExtN.of s)
theorem DeedAt.upd {H : Hp} {v : V} {d : Deed} {L : Addr} {xs : List V} {o : HO} (hL : H L = some (.lst xs)) (h : DeedAt H v d) : DeedAt (L2.upd H L o) v d := by
  obtain ⟨p, h1, h2⟩ := h
  exact ⟨p, h1, by rw [upd_ne (ne_of h2 hL (by intro z; cases z))]; exact h2⟩
theorem deeds_snoc {cs : List Int} {i : Nat} {c : Int} (g : Bool) (h : cs[i]? = some c) : deedsOf (cs.take (i + 1)) g = deedsOf (cs.take i) g ++ [deedOf i c g] := by
  have ht : cs.take (i + 1) = cs.take i ++ [c] := by rw [List.take_succ, h]; rfl
  have hl : (cs.take i).length = i := by
    have := (List.getElem?_eq_some_iff.mp h).1
    rw [List.length_take]
    omega
  unfold deedsOf
  rw [ht, List.mapIdx_append, hl]
  simp
theorem wsum_nil (f : Int → Bool) : wsum f [] = 0 := rfl
/-! ### rows by deeds, as rows of readings -/
theorem RowOf.add {r : DRow} {row : List Int} (h : RowOf r row) (x step : Int) {t : Nat} (ht : 0 < t) : ∀ n : Nat, RowOf (addZ r x n step (t : Int)) (row ++ (List.range n).flatMap fun (k : Nat) => List.replicate t (x + (k : Int) * step))
  | 0 => by
    show RowOf r _
    simpa using h
  | n + 1 => by
    rw [addZ_succ, List.range_succ, List.flatMap_append, ← List.append_assoc]
    have := (RowOf.add h x step ht n).bump (x + (n : Int) * step) ht
    simpa using this
theorem putZ_keysub {r : DRow} {x v y : Int} (h : y ∈ (putZ r x v).map (·.1)) : y ∈ r.map (·.1) ∨ y = x := by
  rw [putZ_keys] at h
  split at h
  · exact .inl h
  · rcases List.mem_append.mp h with z | z
    · exact .inl z
    · exact .inr (List.mem_singleton.mp z)
theorem RowOf.perm {r : DRow} {a b : List Int} (p : a.Perm b) (h : RowOf r a) : RowOf r b := ⟨h.nd, h.pos, fun x => by rw [h.cnt x, p.count_eq]⟩
theorem RowOf.pour {r : DRow} {row : List Int} (h : RowOf r row) : ∀ {l : DRow} {row2 : List Int}, RowOf l row2 → RowOf (pourZ r l) (row ++ row2) := by
  -- the items one by one, each as often as it stands there
  have step : ∀ l : DRow, (∀ p ∈ l, 0 < p.2) → RowOf (pourZ r l) (row ++ l.flatMap fun p => List.replicate p.2.toNat p.1) := by
    intro l
    induction l generalizing r row with
    | nil => intro _; simpa [pourZ] using h
    | cons p l ih =>
      intro hp
      have h1 := hp p List.mem_cons_self
      have e : ((p.2.toNat : Nat) : Int) = p.2 := Int.toNat_of_nonneg (by omega)
      have hb := h.bump p.1 (t := p.2.toNat) (by omega)
      rw [e] at hb
      have := ih hb fun q hq => hp q (List.mem_cons_of_mem _ hq)
      rw [List.flatMap_cons, ← List.append_assoc]
      exact this
  intro l row2 h2
  have hs := step l h2.pos
  refine ⟨hs.nd, hs.pos, fun x => ?_⟩
  rw [hs.cnt x, List.count_append, List.count_append]
  have key : ∀ l : DRow, (l.map (·.1)).Nodup → (∀ p ∈ l, 0 < p.2) → (((l.flatMap fun p => List.replicate p.2.toNat p.1).count x : Nat) : Int) = getZ l x := by
    intro l
    induction l with
    | nil => intro _ _; rfl
    | cons p l ih =>
      intro nd hp
      rw [List.map_cons, List.nodup_cons] at nd
      have i := ih nd.2 fun q hq => hp q (List.mem_cons_of_mem _ hq)
      have h1 := hp p List.mem_cons_self
      rw [List.flatMap_cons, List.count_append, List.count_replicate]
      show _ = if p.1 = x then p.2 else getZ l x
      by_cases e : p.1 = x
      · have z : getZ l x = 0 := getZ_none (by
          cases e2 : (l.any fun q => decide (q.1 = x)) with
          | false => rfl
          | true => exact absurd (e ▸ (any_key l x).mp e2) nd.1)
        rw [if_pos e, if_pos (by rw [e]; exact beq_self_eq_true x)]
        omega
      · rw [if_neg e, if_neg (fun z => e (beq_iff_eq.mp z))]
        omega
  have k := key l h2.nd h2.pos
  have c := h2.cnt x
  omega
/-! ### off and bound, by digits -/
def offD (q j : Nat) : Nat := if h : q = 0 then 0 else (if q % 2 = 1 then j * 2 ^ j / 2 else 0) + offD (q / 2) (j + 1)
termination_by q
decreasing_by omega
def bndD (q k : Nat) : Nat := if h : q = 0 then 0 else k * (q % 2) + bndD (q / 2) k
termination_by q
decreasing_by omega
def offN (n k : Nat) : Nat := offD (n / k) 0
def bndN (n k : Nat) : Nat := n % k + bndD (n / k) k
theorem cut_map (ns : List Int) (lo hi : Option Int) : ∃ cs : List Int, cutV (ns.map V.int) lo hi = cs.map V.int ∧ cs.length ≤ ns.length := by
  refine ⟨(ns.drop (HT.sIx (ns.map V.int).length 0 lo)).take (HT.sIx (ns.map V.int).length (ns.map V.int).length hi - HT.sIx (ns.map V.int).length 0 lo), ?_, ?_⟩
  · unfold cutV
    rw [List.map_take, List.map_drop]
  · rw [List.length_take, List.length_drop]
    omega
theorem deeds_ok (cs : List Int) (g : Bool) : ∀ d ∈ deedsOf cs g, DeedOk d := by
  intro d hd
  unfold deedsOf at hd
  obtain ⟨i, hi, rfl⟩ := List.mem_mapIdx.mp hd
  exact deedOf_ok _ _ _
/-! ### the promises -/
def lpOff : Sp := fun vs H Q _ => ∃ n k : Nat, vs = [.int (n : Int), .int (k : Int)] ∧ 0 < k ∧ k ≤ 64 ∧ n < 2 ^ 200 ∧ Q (.int ((offN n k : Nat) : Int)) H
def lpBound : Sp := fun vs H Q _ => ∃ n k : Nat, vs = [.int (n : Int), .int (k : Int)] ∧ 0 < k ∧ k ≤ 64 ∧ n < 2 ^ 200 ∧ Q (.int ((bndN n k : Nat) : Int)) H
def lpCell (K : PySem.W.Frag) : Sp := fun vs H Q _ => ∃ (a : Addr) (ns : List Int) (k : Nat), vs = [.ref a, .int (k : Int)] ∧ SqL K H a (ns.map V.int) ∧ Q (.int (cellZ ns k)) H
def lpMixed : Sp := fun vs H Q _ => ∃ (c k : Int), vs = [.int c, .int k] ∧ 0 ≤ k ∧ k ≤ 1000 ∧ Q (.int (mixedOf c k)) H
def lpReading : Sp := fun vs H Q _ => ∃ (c : Int), vs = [.int c] ∧ ∀ H', Same H H' → Q (.int (readingOf c)) H'
def lpTimes : Sp := fun vs H Q _ => ∃ (c : Int) (g : Bool), vs = [.int c, .bl g] ∧ ∀ H', Same H H' → Q (.int (timesOf c g)) H'
def lpKeep : Sp := fun vs H Q _ => ∃ (c : Int), vs = [.int c] ∧ Q (.int (keepOf c)) H
def lpWhole : Sp := fun vs H Q _ => ∃ (i j : Int), vs = [.int i, .int j] ∧ Q (.bl (decide (i = j))) H
def lpDeeds (K : PySem.W.Frag) : Sp := fun vs H Q _ => ∃ (a : Addr) (cs : List Int) (g : Bool), vs = [.ref a, .bl g] ∧ SqL K H a (cs.map V.int) ∧ cs.length ≤ 63 ∧
  ∀ H' p ds, Same H H' → H p = none → H' p = some (.lst ds) → PySem.W.EachIs (DeedAt H') ds (deedsOf cs g) → Q (.ref p) H'
def lpPlayed (K : PySem.W.Frag) : Sp := fun vs H Q _ => ∃ (a : Addr) (ns : List Int) (first most : Int) (g : Bool), vs = [.ref a, .int first, .int most, .bl g] ∧ SqL K H a (ns.map V.int) ∧ ns.length ≤ 63 ∧
  ∀ H' p q ds keep deeds, Same H H' → H' p = some (.tup [.int keep, .ref q]) → H' q = some (.lst ds) → PySem.W.EachIs (DeedAt H') ds deeds → 1 ≤ keep → keep ≤ 64 → deeds.length ≤ 63 → (∀ d ∈ deeds, DeedOk d) → Q (.ref p) H'
/-- all but what stands at d -/
def But (d : Addr) (H H' : Hp) : Prop := ∀ b o, b ≠ d → H b = some o → H' b = some o
def lpCome (K : PySem.W.Frag) : Sp := fun vs H Q _ => ∃ (a p d : Addr) (as : List Addr) (rs : List DRow) (dd : Deed), vs = [.ref a, .ref p] ∧ H a = some (.lst (as.map V.ref)) ∧ PySem.W.EachIs (fun x r => H x = some (.dK (dk r))) as rs ∧ H p = some (.tup (deedV dd)) ∧ DeedOk dd ∧
  as[dd.cup]? = some d ∧ (∀ s c, dd = .pour c s → s < as.length) ∧ (∀ r ∈ rs, r.length ≤ 10000) ∧ ∀ H', But d H H' → H' d = some (.dK (dk ((comeZ rs dd).getD dd.cup []))) → Q .non H'
def lpLess (K : PySem.W.Frag) : Sp := fun vs H Q _ => ∃ (d : Addr) (r : DRow) (z : Int), vs = [.ref d, .int z] ∧ H d = some (.dK (dk r)) ∧ (r.map (·.1)).Nodup ∧ r.length ≤ 10000 ∧ ∀ H', Same H H' → Q (.int (wsum (fun x => decide (x < z)) r)) H'
end Own

/-! What a cup promises, however it is made: S is what may change when something comes to it, D is all that it leans on. -/
namespace Own
open PySem PySem.Spec PyProof.Rows L2 LamX
abbrev AS := Addr → Prop
abbrev CupRel := Hp → Addr → Nat → List Int → List Ent → AS → AS → Prop
/-- all but S stays -/
def Chg (S : AS) (H H' : Hp) : Prop := ∀ b o, H b = some o → (∀ ps, o ≠ .tbl ps) → ¬ S b → H' b = some o
theorem Chg.of {S : AS} {H H' : Hp} (e : ExtN H H') : Chg S H H' := fun b o h n _ => e b o h n
theorem Chg.trans {S S' : AS} {H H1 H2 : Hp} (a : Chg S H H1) (b : Chg S' H1 H2) (k : ∀ x, S' x → S x ∨ NewN H x) : Chg S H H2 := fun c o h n q =>
  b c o (a c o h n q) n fun z => (k c z).elim q fun nw => by
    obtain ⟨ps, e⟩ := nw o h
    exact n ps e
structure Moves (H H' : Hp) (S D S' D' : AS) : Prop where
  chg : Chg S H H'
  s : ∀ b, S' b → S b ∨ NewN H b
  d : ∀ b, D' b → D b ∨ NewN H b
theorem newN_of {H H' : Hp} {b : Addr} {S : AS} (c : Chg S H H') (h : ¬ S b) (n : NewN H' b) : NewN H b := fun o e => by
  cases o with
  | tbl ps => exact ⟨ps, rfl⟩
  | _ => exact n _ (c _ _ e (fun ps z => nomatch z) h)
theorem Moves.refl (H : Hp) (S D : AS) : Moves H H S D S D := ⟨fun _ _ h _ _ => h, fun _ h => .inl h, fun _ h => .inl h⟩
theorem Moves.ext {H H' : Hp} (e : ExtN H H') (S D : AS) : Moves H H' S D S D := ⟨Chg.of e, fun _ h => .inl h, fun _ h => .inl h⟩
theorem Moves.trans {H H1 H2 : Hp} {S D S1 D1 S2 D2 : AS} (a : Moves H H1 S D S1 D1) (b : Moves H1 H2 S1 D1 S2 D2) (sd : ∀ b, S b → D b) : Moves H H2 S D S2 D2 :=
  ⟨a.chg.trans b.chg a.s, fun x h => (b.s x h).elim (a.s x) fun n => Classical.byCases (fun q : S x => .inl q) fun q => .inr (newN_of a.chg q n),
   fun x h => (b.d x h).elim (a.d x) fun n => Classical.byCases (fun q : S x => .inl (sd x q)) fun q => .inr (newN_of a.chg q n)⟩
/-- what is told of the kept entries -/
structure Kept (row : List Int) (k : Nat) (es : List Ent) : Prop where
  rise : Rise es
  few : es.length ≤ bndN row.length k
  tru : ∀ e ∈ es, TrueE row e
  ne : row ≠ [] → es ≠ []
structure CupApi (R : CupRel) (C : Addr) : Prop where
  inst : ∀ {H a k row es S D}, R H a k row es S D → ∃ dx fs, H a = some (.ins C dx fs) ∧ fs.lookup ("keep" : Str) = some (.int (k : Int)) ∧ fs.lookup ("add" : Str) = none ∧ fs.lookup ("pour" : Str) = none ∧ fs.lookup ("count" : Str) = none ∧ fs.lookup ("off" : Str) = none ∧ fs.lookup ("bound" : Str) = none ∧ fs.lookup ("kept" : Str) = none ∧ fs.lookup ("answer" : Str) = none ∧ fs.lookup ("ahead" : Str) = none
  keep : ∀ {H a k row es S D}, R H a k row es S D → 1 ≤ k ∧ k ≤ 64
  kept : ∀ {H a k row es S D}, R H a k row es S D → Kept row k es
  frame : ∀ {H H' a k row es S D}, R H a k row es S D → (∀ b o, D b → H b = some o → H' b = some o) → R H' a k row es S D
  sub : ∀ {H a k row es S D}, R H a k row es S D → ∀ b, S b → D b
  old : ∀ {H a k row es S D}, R H a k row es S D → ∀ b, D b → ∃ o, H b = some o ∧ ∀ ps, o ≠ .tbl ps
  perm : ∀ {H a k row row' es S D}, R H a k row es S D → row.Perm row' → R H a k row' es S D
/-- no whole number from lo to hi -/
def BadV (lo hi : Int) (H : Hp) (v : V) : Prop := (∃ i, v = .int i ∧ ¬ (lo ≤ i ∧ i ≤ hi)) ∨ (∃ b, v = .bl b) ∨ v = .non ∨ (∃ s, v = .str s) ∨ (∃ p xs, v = .ref p ∧ H p = some (.lst xs)) ∨ ∃ p xs, v = .ref p ∧ H p = some (.tup xs)
section
variable (R : CupRel) (T : List (Addr × Str))
/-- __init__: of the new object at p, its dict at dx -/
def apInit (C B : Addr) : Sp := fun vs H Q E => ∃ (p dx : Addr) (v : V), vs = [.ref p, v] ∧ Tabs T H ∧ H p = some (.ins C dx []) ∧ H dx = some (.own p) ∧ p ≠ dx ∧
  ((∃ k : Nat, v = .int (k : Int) ∧ 1 ≤ k ∧ k ≤ 64 ∧ ∀ H' S D, Tabs T H' → R H' p k [] [] S D → (∀ b o, H b = some o → (∀ ps, o ≠ .tbl ps) → b ≠ p → b ≠ dx → H' b = some o) → (∀ b, D b → b = p ∨ b = dx ∨ NewN H b) → Q .non H') ∨
   (BadV 1 64 H v ∧ ∀ H', ExtN H H' → Tabs T H' → E (.ref B) none H'))
def apAdd (BR BT : Addr) : Sp := fun vs H Q E => ∃ (a : Addr) (k : Nat) (row : List Int) (es : List Ent) (S D : AS) (xv tv : V), vs = [.ref a, xv, tv] ∧ Tabs T H ∧ R H a k row es S D ∧
  ((∃ (x : Int) (t : Nat), xv = .int x ∧ tv = .int (t : Int) ∧ InR x ∧ InT (t : Int) ∧ row.length + t < 2 ^ 200 ∧ ∀ H' es' S' D', Tabs T H' → R H' a k (row ++ List.replicate t x) es' S' D' → Moves H H' S D S' D' → Q .non H') ∨
   (BadV (-1000000000000000000) 1000000000000000000 H xv ∧ ∀ H', ExtN H H' → Tabs T H' → E (.ref BR) none H') ∨
   (∃ x : Int, xv = .int x ∧ InR x ∧ BadV 1 1000000000 H tv ∧ ∀ H', ExtN H H' → Tabs T H' → E (.ref BT) none H'))
def apPour (U : Addr) : Sp := fun vs H Q E => ∃ (a b : Addr) (k k2 : Nat) (row row2 : List Int) (es es2 : List Ent) (S D S2 D2 : AS), vs = [.ref a, .ref b] ∧ Tabs T H ∧ R H a k row es S D ∧ R H b k2 row2 es2 S2 D2 ∧ row.length + row2.length < 2 ^ 200 ∧
  (k = k2 → (b = a ∧ row2 = row ∧ S2 = S ∧ D2 = D) ∨ ((∀ x, S x → ¬ D2 x) ∧ ∀ x, S2 x → ¬ D x)) ∧
  (k = k2 → ∀ H' es' S' D', Tabs T H' → R H' a k (row ++ row2) es' S' D' → Chg S H H' → (∀ x, S' x → S x ∨ NewN H x) → (∀ x, D' x → D x ∨ (D2 x ∧ ¬ S2 x) ∨ NewN H x) → Q .non H') ∧
  (k ≠ k2 → ∀ H', ExtN H H' → Tabs T H' → E (.ref U) none H')
/-- a question: whatever it answers, the cup tells what it told -/
def apAsk (G : V → Nat → List Int → List Ent → V → Hp → AS → AS → Prop) (n : Nat) (good : V → List Int → Prop) (bad : V → Nat → List Int → Hp → Prop) (B : Addr) : Sp := fun vs H Q E => ∃ (a : Addr) (k : Nat) (row : List Int) (es : List Ent) (S D : AS) (v : V), vs = (if n = 0 then [.ref a] else [.ref a, v]) ∧ Tabs T H ∧ R H a k row es S D ∧ row.length < 2 ^ 200 ∧
  ((bad v k row H ∧ ∀ H', ExtN H H' → Tabs T H' → E (.ref B) none H') ∨ (good v row ∧ ∀ H' S' D' y, Tabs T H' → R H' a k row es S' D' → Moves H H' S D S' D' → G v k row es y H' S' D' → Q y H'))
abbrev noBad : V → Nat → List Int → Hp → Prop := fun _ _ _ _ => False
def apCount : Sp := apAsk R T (fun _ _ row _ y _ _ _ => y = .int (row.length : Int)) 0 (fun _ _ => True) noBad 0
def apOff : Sp := apAsk R T (fun _ k row _ y _ _ _ => y = .int ((offN row.length k : Nat) : Int)) 0 (fun _ _ => True) noBad 0
def apBound : Sp := apAsk R T (fun _ k row _ y _ _ _ => y = .int ((bndN row.length k : Nat) : Int)) 0 (fun _ _ => True) noBad 0
def apKept : Sp := apAsk R T (fun _ k row es y H' S' D' => ∃ p xs, y = .ref p ∧ H' p = some (.lst xs) ∧ EntsAre H' xs es ∧ ¬ D' p ∧ ∀ v ∈ xs, ∀ t, v = .ref t → ¬ S' t) 0 (fun _ _ => True) noBad 0
def apAnswer (B : Addr) : Sp := apAsk R T (fun v k row es y H' S' D' => ∃ p x, v = .int p ∧ y = .int x ∧ x ∈ row ∧ clt row x - (offN row.length k : Nat) ≤ p ∧ p ≤ cle row x - 1 + (offN row.length k : Nat)) 1 (fun v row => ∃ p : Int, v = .int p ∧ 0 ≤ p ∧ p < (row.length : Int)) (fun v _ row H => BadV 0 ((row.length : Int) - 1) H v) B
def apAhead (B : Addr) : Sp := apAsk R T (fun v k row es y H' S' D' => ∃ p x lo hi, v = .int x ∧ y = .ref p ∧ H' p = some (.tup [.int lo, .int hi]) ∧ ¬ S' p ∧ lo ≤ clt row x ∧ clt row x ≤ hi ∧ hi - lo ≤ (offN row.length k : Nat)) 1 (fun v _ => ∃ x : Int, v = .int x ∧ InR x) (fun v _ _ H => BadV (-1000000000000000000) 1000000000000000000 H v) B
end
/-! ### several cups side by side -/
structure CupsAt (R : CupRel) (H : Hp) (as : List Addr) (ks : Nat → Nat) (rows : Nat → List Int) (es : Nat → List Ent) (S D : Nat → AS) : Prop where
  at_ : ∀ i a, as[i]? = some a → R H a (ks i) (rows i) (es i) (S i) (D i)
  apart : ∀ i j, i < as.length → j < as.length → i ≠ j → ∀ b, S i b → ¬ D j b
def setAt {α : Type} (f : Nat → α) (i : Nat) (x : α) : Nat → α := fun j => if j = i then x else f j
theorem setAt_same {α : Type} (f : Nat → α) (i : Nat) (x : α) : setAt f i x i = x := if_pos rfl
theorem setAt_ne {α : Type} (f : Nat → α) {i j : Nat} (x : α) (h : j ≠ i) : setAt f i x j = f j := if_neg h
theorem CupsAt.ext {R : CupRel} {C : Addr} (A : CupApi R C) {H H' : Hp} {as ks rows es S D} (c : CupsAt R H as ks rows es S D) (e : ∀ b o, (∃ i, i < as.length ∧ D i b) → H b = some o → H' b = some o) : CupsAt R H' as ks rows es S D :=
  ⟨fun i a h => A.frame (c.at_ i a h) fun b o hb q => e b o ⟨i, (List.getElem?_eq_some_iff.mp h).1, hb⟩ q, c.apart⟩
/-- one of them moves -/
theorem CupsAt.move {R : CupRel} {C : Addr} (A : CupApi R C) {H H' : Hp} {as : List Addr} {ks : Nat → Nat} {rows : Nat → List Int} {es : Nat → List Ent} {S D : Nat → AS} (c : CupsAt R H as ks rows es S D) {i : Nat} {a : Addr} (hi : as[i]? = some a) {row' : List Int} {es' : List Ent} {S' D' : AS}
    (r : R H' a (ks i) row' es' S' D') (ch : Chg (S i) H H') (hs : ∀ b, S' b → S i b ∨ NewN H b) (hd : ∀ b, D' b → D i b ∨ (∃ j, j < as.length ∧ j ≠ i ∧ D j b ∧ ¬ S j b) ∨ NewN H b) :
    CupsAt R H' as ks (setAt rows i row') (setAt es i es') (setAt S i S') (setAt D i D') := by
  have il := (List.getElem?_eq_some_iff.mp hi).1
  have old : ∀ j, j < as.length → ∀ b, D j b → ¬ NewN H b := fun j hj b hb n => by
    obtain ⟨o, e, nt⟩ := A.old (c.at_ j _ (List.getElem?_eq_getElem hj)) b hb
    obtain ⟨ps, z⟩ := n o e
    exact nt ps z
  have sub : ∀ j, j < as.length → ∀ b, S j b → D j b := fun j hj b hb => A.sub (c.at_ j _ (List.getElem?_eq_getElem hj)) b hb
  constructor
  · intro j b hj
    by_cases e : j = i
    · subst e
      rw [hi] at hj
      cases hj
      rw [setAt_same, setAt_same, setAt_same, setAt_same]
      exact r
    · rw [setAt_ne _ _ e, setAt_ne _ _ e, setAt_ne _ _ e, setAt_ne _ _ e]
      have jl := (List.getElem?_eq_some_iff.mp hj).1
      refine A.frame (c.at_ j b hj) fun x o hx q => ?_
      obtain ⟨o', e', nt⟩ := A.old (c.at_ j b hj) x hx
      rw [q] at e'
      cases e'
      exact ch x o q nt fun z => c.apart i j il jl (Ne.symm e) x z hx
  · intro p q hp hq hpq b hb
    by_cases e1 : p = i
    · subst e1
      rw [setAt_same] at hb
      rw [setAt_ne _ _ (Ne.symm hpq)]
      rcases hs b hb with h | h
      · exact c.apart p q hp hq hpq b h
      · exact fun z => old q hq b z h
    · rw [setAt_ne _ _ e1] at hb
      by_cases e2 : q = i
      · subst e2
        rw [setAt_same]
        intro z
        rcases hd b z with h | ⟨j, hj, hjn, h1, h2⟩ | h
        · exact c.apart p q hp hq hpq b hb h
        · by_cases e3 : j = p
          · subst e3
            exact h2 hb
          · exact c.apart p j hp hj (Ne.symm e3) b hb h1
        · exact old p hp b (sub p hp b hb) h
      · rw [setAt_ne _ _ e2]
        exact c.apart p q hp hq hpq b hb
end Own
namespace Own
open PySem PySem.Spec PyProof.Rows L2 LamX
theorem setAt_self {α : Type} (f : Nat → α) (i : Nat) : setAt f i (f i) = f := by
  funext j
  unfold setAt
  split
  · rename_i h
    rw [h]
  · rfl
theorem setAt_twice {α : Type} (f : Nat → α) (i : Nat) (x y : α) : setAt (setAt f i x) i y = setAt f i y := by
  funext j
  unfold setAt
  split <;> rfl
def comeRow (row : List Int) (x : Int) (n : Nat) (step : Int) (t : Nat) : List Int := row ++ (List.range n).flatMap fun (k : Nat) => List.replicate t (x + (k : Int) * step)
def comeRows (rows : Nat → List Int) : Deed → Nat → List Int
  | .add c x n step t => setAt rows c (comeRow (rows c) x n step t.toNat)
  | .pour c s => setAt rows c (rows c ++ rows s)
abbrev Un (n : Nat) (S : Nat → AS) : AS := fun b => ∃ i, i < n ∧ S i b
def lpDone (R : CupRel) (T : List (Addr × Str)) : Sp := fun vs H Q _ => ∃ (l p : Addr) (as : List Addr) (ks : Nat → Nat) (rows : Nat → List Int) (es : Nat → List Ent) (S D : Nat → AS) (dd : Deed), vs = [.ref l, .ref p] ∧ Tabs T H ∧ H l = some (.lst (as.map V.ref)) ∧ H p = some (.tup (deedV dd)) ∧ DeedOk dd ∧
  CupsAt R H as ks rows es S D ∧ ¬ Un as.length S l ∧ ¬ Un as.length S p ∧ dd.cup < as.length ∧ (∀ c s, dd = .pour c s → s < as.length ∧ ks c = ks s) ∧ (∀ i, i < as.length → (rows i).length < 2 ^ 190) ∧
  ∀ H' es' S' D', Tabs T H' → CupsAt R H' as ks (comeRows rows dd) es' S' D' → Chg (Un as.length S) H H' → (∀ b, Un as.length S' b → Un as.length S b ∨ NewN H b) → (∀ b, Un as.length D' b → Un as.length D b ∨ NewN H b) → Q (.bl true) H'
def lpTold (R : CupRel) (T : List (Addr × Str)) : Sp := fun vs H Q E => ∃ (a : Addr) (k : Nat) (row : List Int) (es : List Ent) (S D : AS) (turn : Nat), vs = [.ref a, .int (row.length : Int), .int (turn : Int)] ∧ Tabs T H ∧ R H a k row es S D ∧ row.length < 2 ^ 195 ∧ turn ≤ 1000 ∧
  ∀ H' S' D', Tabs T H' → R H' a k row es S' D' → Moves H H' S D S' D' → Q (.bl true) H'
def lpLaw (K : PySem.W.Frag) (T : List (Addr × Str)) : Sp := fun vs H Q _ => ∃ (a : Addr) (ns : List Int), vs = [.ref a] ∧ SqL K H a (ns.map V.int) ∧ ns.length ≤ 63 ∧ Tabs T H ∧ ∀ H', Q (.bl true) H'
end Own
namespace Own
open PySem PySem.Spec PyProof.Rows L2 LamX
theorem Chg.un {H H' : Hp} {n i : Nat} {S : Nat → AS} (hi : i < n) (c : Chg (S i) H H') : Chg (Un n S) H H' := fun b o e nt u => c b o e nt fun z => u ⟨i, hi, z⟩
theorem un_set {H : Hp} {n i : Nat} {S : Nat → AS} {S' : AS} (hi : i < n) (hs : ∀ x, S' x → S i x ∨ NewN H x) : ∀ b, Un n (setAt S i S') b → Un n S b ∨ NewN H b := by
  rintro b ⟨j, hj, hb⟩
  by_cases e : j = i
  · subst e
    rw [setAt_same] at hb
    exact (hs b hb).elim (fun z => .inl ⟨j, hj, z⟩) .inr
  · rw [setAt_ne _ _ e] at hb
    exact .inl ⟨j, hj, hb⟩
theorem un_setU {H : Hp} {n i : Nat} {D : Nat → AS} {D' : AS} (hs : ∀ x, D' x → Un n D x ∨ NewN H x) : ∀ b, Un n (setAt D i D') b → Un n D b ∨ NewN H b := by
  rintro b ⟨j, hj, hb⟩
  by_cases e : j = i
  · subst e
    rw [setAt_same] at hb
    exact hs b hb
  · rw [setAt_ne _ _ e] at hb
    exact .inl ⟨j, hj, hb⟩
theorem un_transD {H H1 : Hp} {n : Nat} {S D D1 D2 : Nat → AS} (c : Chg (Un n S) H H1) (sd : ∀ b, Un n S b → Un n D b) (a : ∀ b, Un n D1 b → Un n D b ∨ NewN H b) (b : ∀ b, Un n D2 b → Un n D1 b ∨ NewN H1 b) : ∀ b, Un n D2 b → Un n D b ∨ NewN H b := fun x h =>
  (b x h).elim (a x) fun m => Classical.byCases (fun q : Un n S x => .inl (sd x q)) fun q => .inr (newN_of c q m)
theorem CupsAt.sub {R : CupRel} {C : Addr} (A : CupApi R C) {H : Hp} {as : List Addr} {ks : Nat → Nat} {rows : Nat → List Int} {es : Nat → List Ent} {S D : Nat → AS} (c : CupsAt R H as ks rows es S D) : ∀ b, Un as.length S b → Un as.length D b := fun b ⟨i, hi, z⟩ => ⟨i, hi, A.sub (c.at_ i _ (List.getElem?_eq_getElem hi)) b z⟩
theorem un_trans {H H1 : Hp} {n : Nat} {S S1 S2 : Nat → AS} (c : Chg (Un n S) H H1) (a : ∀ b, Un n S1 b → Un n S b ∨ NewN H b) (b : ∀ b, Un n S2 b → Un n S1 b ∨ NewN H1 b) : ∀ b, Un n S2 b → Un n S b ∨ NewN H b := fun x h =>
  (b x h).elim (a x) fun m => Classical.byCases (fun q : Un n S x => .inl q) fun q => .inr (newN_of c q m)
theorem comeRow_zero (row : List Int) (x step : Int) (t : Nat) : comeRow row x 0 step t = row := by
  unfold comeRow
  simp
theorem comeRow_succ (row : List Int) (x step : Int) (n t : Nat) : comeRow row x (n + 1) step t = comeRow row x n step t ++ List.replicate t (x + (n : Int) * step) := by
  unfold comeRow
  rw [List.range_succ, List.flatMap_append, ← List.append_assoc]
  simp
theorem comeRow_length (row : List Int) (x step : Int) (t : Nat) : ∀ n : Nat, (comeRow row x n step t).length = row.length + n * t
  | 0 => by rw [comeRow_zero]; omega
  | n + 1 => by
    rw [comeRow_succ, List.length_append, comeRow_length row x step t n, List.length_replicate, Nat.succ_mul]
    omega
end Own
namespace Own
open PySem PySem.Spec PyProof.Rows L2 LamX
theorem CupsAt.nil {R : CupRel} {H : Hp} {ks rows es S D} : CupsAt R H [] ks rows es S D := ⟨fun i a h => by simp at h, fun i j h => by simp at h⟩
/-- one more, new -/
theorem CupsAt.snoc {R : CupRel} {C : Addr} (A : CupApi R C) {H H' : Hp} {as : List Addr} {ks : Nat → Nat} {rows : Nat → List Int} {es : Nat → List Ent} {S D : Nat → AS} (c : CupsAt R H as ks rows es S D) (e : ExtN H H') {y : Addr} {k : Nat} {row : List Int} {es' : List Ent} {S' D' : AS}
    (r : R H' y k row es' S' D') (hd : ∀ b, D' b → NewN H b) : CupsAt R H' (as ++ [y]) (setAt ks as.length k) (setAt rows as.length row) (setAt es as.length es') (setAt S as.length S') (setAt D as.length D') := by
  have old : ∀ j, j < as.length → ∀ b, D j b → ¬ NewN H b := fun j hj b hb n => by
    obtain ⟨o, q, nt⟩ := A.old (c.at_ j _ (List.getElem?_eq_getElem hj)) b hb
    obtain ⟨ps, z⟩ := n o q
    exact nt ps z
  have sub : ∀ j, j < as.length → ∀ b, S j b → D j b := fun j hj b hb => A.sub (c.at_ j _ (List.getElem?_eq_getElem hj)) b hb
  constructor
  · intro i a hi
    by_cases h : i < as.length
    · rw [List.getElem?_append_left h] at hi
      rw [setAt_ne _ _ (by omega), setAt_ne _ _ (by omega), setAt_ne _ _ (by omega), setAt_ne _ _ (by omega), setAt_ne _ _ (by omega)]
      refine A.frame (c.at_ i a hi) fun b o hb q => ?_
      obtain ⟨o', q', nt⟩ := A.old (c.at_ i a hi) b hb
      rw [q] at q'
      cases q'
      exact e b o q nt
    · have hl := (List.getElem?_eq_some_iff.mp hi).1
      rw [List.length_append, List.length_singleton] at hl
      obtain rfl : i = as.length := by omega
      rw [List.getElem?_append_right (Nat.le_refl _), Nat.sub_self] at hi
      have hy : y = a := Option.some.inj hi
      subst hy
      rw [setAt_same, setAt_same, setAt_same, setAt_same, setAt_same]
      exact r
  · intro i j hi hj hij b hb
    rw [List.length_append, List.length_singleton] at hi hj
    by_cases h1 : i = as.length
    · subst h1
      rw [setAt_same] at hb
      rw [setAt_ne _ _ (Ne.symm hij)]
      exact fun z => old j (by omega) b z (hd b (A.sub r b hb))
    · rw [setAt_ne _ _ h1] at hb
      by_cases h2 : j = as.length
      · subst h2
        rw [setAt_same]
        exact fun z => old i (by omega) b (sub i (by omega) b hb) (hd b z)
      · rw [setAt_ne _ _ h2]
        exact c.apart i j (by omega) (by omega) hij b hb
/-- what the law holds itself: it stands, no cup changes it or leans on it -/
structure Mine (n : Nat) (S D : Nat → AS) (H : Hp) (b : Addr) (o : HO) : Prop where
  at_ : H b = some o
  nt : ∀ ps, o ≠ .tbl ps
  noS : ¬ Un n S b
  noD : ¬ Un n D b
theorem Mine.move {n : Nat} {S S' D D' : Nat → AS} {H H' : Hp} {b : Addr} {o : HO} (m : Mine n S D H b o) (c : Chg (Un n S) H H') (u : ∀ x, Un n S' x → Un n S x ∨ NewN H x) (v : ∀ x, Un n D' x → Un n D x ∨ NewN H x) : Mine n S' D' H' b o := by
  have nn : ¬ NewN H b := fun nw => by
    obtain ⟨ps, e⟩ := nw o m.at_
    exact m.nt ps e
  exact ⟨c b o m.at_ m.nt m.noS, m.nt, fun z => (u b z).elim m.noS nn, fun z => (v b z).elim m.noD nn⟩
theorem Mine.same {n : Nat} {S D : Nat → AS} {H H' : Hp} {b : Addr} {o : HO} (m : Mine n S D H b o) (s : Same H H') : Mine n S D H' b o := ⟨s _ _ m.at_, m.nt, m.noS, m.noD⟩
theorem Mine.put {n : Nat} {S D : Nat → AS} {H : Hp} {b : Addr} {o o' : HO} (m : Mine n S D H b o) (nt : ∀ ps, o' ≠ .tbl ps) : Mine n S D (upd H b o') b o' := ⟨upd_same, nt, m.noS, m.noD⟩
theorem Mine.off {n : Nat} {S D : Nat → AS} {H : Hp} {b c : Addr} {o o' : HO} (m : Mine n S D H b o) (h : b ≠ c) : Mine n S D (upd H c o') b o := ⟨by rw [upd_ne h]; exact m.at_, m.nt, m.noS, m.noD⟩
/-- new, while the cups stood -/
theorem Mine.new {R : CupRel} {C : Addr} (A : CupApi R C) {H : Hp} {as : List Addr} {ks : Nat → Nat} {rows : Nat → List Int} {es : Nat → List Ent} {S D : Nat → AS} (c : CupsAt R H as ks rows es S D) {b : Addr} {o : HO} (h : H b = none) (nt : ∀ ps, o ≠ .tbl ps) : Mine as.length S D (upd H b o) b o := by
  have k : ¬ Un as.length D b := fun ⟨i, hi, z⟩ => by
    obtain ⟨o', e, _⟩ := A.old (c.at_ i _ (List.getElem?_eq_getElem hi)) b z
    rw [h] at e
    cases e
  exact ⟨upd_same, nt, fun z => k (c.sub A b z), k⟩
theorem CupsAt.same {R : CupRel} {C : Addr} (A : CupApi R C) {H H' : Hp} {as ks rows es S D} (c : CupsAt R H as ks rows es S D) (s : Same H H') : CupsAt R H' as ks rows es S D := c.ext A fun b o _ e => s b o e
/-- the law changes what is its own -/
theorem CupsAt.mine {R : CupRel} {C : Addr} (A : CupApi R C) {H : Hp} {as ks rows es S D} (c : CupsAt R H as ks rows es S D) {b : Addr} {o : HO} (hb : ∀ i, i < as.length → ¬ D i b) : CupsAt R (upd H b o) as ks rows es S D := c.ext A fun x o' ⟨i, hi, z⟩ e => by
  rw [upd_ne (fun y : x = b => hb i hi (by rw [← y]; exact z))]
  exact e
end Own
namespace Own
open PySem PySem.Spec PyProof.Rows L2 LamX
theorem make_ext {H H' : Hp} {y dy C : Addr} (ny : H y = none) (ndy : H dy = none) (ch : ∀ b o, (upd (upd H dy (.own y)) y (.ins C dy [])) b = some o → (∀ ps, o ≠ .tbl ps) → b ≠ y → b ≠ dy → H' b = some o) : ExtN H H' := fun b o e nt => by
  have h1 := ne_of_none e ny
  have h2 := ne_of_none e ndy
  exact ch b o (by rw [upd_ne h1, upd_ne h2]; exact e) nt h1 h2
theorem make_new {H : Hp} {y dy C : Addr} {D : AS} (ny : H y = none) (ndy : H dy = none) (hd : ∀ b, D b → b = y ∨ b = dy ∨ NewN (upd (upd H dy (.own y)) y (.ins C dy [])) b) : ∀ b, D b → NewN H b := fun b h => by
  rcases hd b h with rfl | rfl | n
  · exact NewN.of ny
  · exact NewN.of ndy
  · intro o e
    exact n o (by rw [upd_ne (ne_of_none e ny), upd_ne (ne_of_none e ndy)]; exact e)
theorem make_tabs {H : Hp} {y dy C : Addr} {T : List (Addr × Str)} (t : Tabs T H) (ny : H y = none) (ndy : H dy = none) : Tabs T (upd (upd H dy (.own y)) y (.ins C dy [])) := t.ext fun b o e => by
  rw [upd_ne (ne_of_none e ny), upd_ne (ne_of_none e ndy)]
  exact e
def len3 (rows : Nat → List Int) : List V := [.int ((rows 0).length : Int), .int ((rows 1).length : Int), .int ((rows 2).length : Int)]
theorem len3_get (rows : Nat → List Int) {c : Nat} (h : c < 3) : (len3 rows)[c]? = some (.int ((rows c).length : Int)) := by
  rcases (show c = 0 ∨ c = 1 ∨ c = 2 by omega) with rfl | rfl | rfl <;> rfl
theorem len3_set (rows : Nat → List Int) {c : Nat} (h : c < 3) (r : List Int) : (len3 rows).set c (.int (r.length : Int)) = len3 (setAt rows c r) := by
  rcases (show c = 0 ∨ c = 1 ∨ c = 2 by omega) with rfl | rfl | rfl <;> rfl
theorem mine_tabs {T : List (Addr × Str)} {H : Hp} {b : Addr} {xs ys : List V} (h : H b = some (.lst xs)) (t : Tabs T H) : Tabs T (upd H b (.lst ys)) := fun q hq => by
  obtain ⟨ps, h1, h2, h3⟩ := t q hq
  refine ⟨ps, by rw [upd_ne (ne_of h1 h (by intro z; cases z))]; exact h1, h2, fun pos cv hc => ?_⟩
  obtain ⟨c, e1, e2⟩ := h3 pos cv hc
  exact ⟨c, e1, by rw [upd_ne (ne_of e2 h (by intro z; unfold CodeO at z; cases z))]; exact e2⟩
end Own
namespace Own
open PySem PySem.Spec PyProof.Rows L2 LamX
theorem newN_back2 {H H' : Hp} {p : Addr} (e : ExtN H H') (n : NewN H' p) : NewN H p := fun o h => by
  cases o with
  | tbl ps => exact ⟨ps, rfl⟩
  | _ => exact n _ (e _ _ h (fun ps z => nomatch z))
end Own
namespace Own
open PySem PySem.Spec PyProof.Rows L2 LamX
theorem ixN_nat3 (rows : Nat → List Int) {c : Nat} (h : c < 3) : ixN (len3 rows).length (c : Int) = some c := by
  have e : (len3 rows).length = 3 := rfl
  rw [e]
  unfold ixN
  rw [if_pos (by omega), if_pos (by omega)]
  rfl
theorem comeRows_len {d : Deed} (dk : DeedOk d) {rows : Nat → List Int} {i : Nat} (h : ∀ j, j < 3 → (rows j).length ≤ 2 ^ (40 + 2 * i)) : ∀ j, j < 3 → (comeRows rows d j).length ≤ 2 ^ (40 + 2 * (i + 1)) := by
  intro j hj
  have e : 2 ^ (40 + 2 * (i + 1)) = 4 * 2 ^ (40 + 2 * i) := by
    rw [show 40 + 2 * (i + 1) = (40 + 2 * i) + 2 by omega, Nat.pow_add]
    omega
  have g : 2 ^ 40 ≤ 2 ^ (40 + 2 * i) := Nat.pow_le_pow_right (by decide) (by omega)
  rw [e]
  have hj' := h j hj
  cases d with
  | pour c s =>
    obtain ⟨h1, h2⟩ := dk.ok
    have a1 := h c h1
    have a2 := h s h2
    show (setAt rows c (rows c ++ rows s) j).length ≤ _
    unfold setAt
    split
    · rw [List.length_append]; omega
    · omega
  | add c x n step t =>
    obtain ⟨h1, h2, h3, _⟩ := dk.ok
    have a1 := h c h1
    show (setAt rows c (comeRow (rows c) x n step t.toNat) j).length ≤ _
    unfold setAt
    split
    · rw [comeRow_length]
      have : n * t.toNat ≤ 14 * 1000000000 := Nat.mul_le_mul h2 (by omega)
      omega
    · omega
end Own

/-! What the laws ask of an answer, of kept entries, of a pair. -/
namespace Own
open PySem PySem.Spec PyProof.Rows L2 LamX
theorem cle_count (row : List Int) (x : Int) : cle row x = clt row x + (row.count x : Int) := by
  unfold cle clt
  induction row with
  | nil => rfl
  | cons y l ih =>
    rw [List.filter_cons, List.filter_cons]
    by_cases h : y = x
    · subst h
      rw [if_pos (decide_eq_true (Int.le_refl _)), if_neg (by simp), List.count_cons_self, List.length_cons]
      omega
    · rw [List.count_cons_of_ne (by simpa using h)]
      by_cases h2 : y < x
      · rw [if_pos (decide_eq_true (by omega)), if_pos (decide_eq_true h2), List.length_cons, List.length_cons]
        omega
      · rw [if_neg (by simp; omega), if_neg (by simpa using h2)]
        exact ih
def lpAnswerRight : Sp := fun vs H Q _ => ∃ (x p o : Int) (d : Addr) (r : DRow) (row : List Int), vs = [.int x, .ref d, .int p, .int o] ∧ H d = some (.dK (dk r)) ∧ RowOf r row ∧ r.length ≤ 10000 ∧ x ∈ row ∧ clt row x - o ≤ p ∧ p ≤ cle row x - 1 + o ∧ ∀ H', Same H H' → Q (.bl true) H'
def lpKeptRight : Sp := fun vs H Q _ => ∃ (l d : Addr) (xs : List V) (es : List Ent) (r : DRow) (row : List Int) (most : Int), vs = [.ref l, .ref d, .int most] ∧ H l = some (.lst xs) ∧ EntsAre H xs es ∧ H d = some (.dK (dk r)) ∧ RowOf r row ∧ r.length ≤ 10000 ∧ (es.length : Int) ≤ most ∧ Rise es ∧ (∀ e ∈ es, TrueE row e) ∧ ∀ H', Same H H' → Q (.bl true) H'
def lpPairRight : Sp := fun vs H Q _ => ∃ (t : Addr) (lo hi due most : Int), vs = [.ref t, .int due, .int most] ∧ H t = some (.tup [.int lo, .int hi]) ∧ lo ≤ due ∧ due ≤ hi ∧ hi - lo ≤ most ∧ ∀ H', Same H H' → Q (.bl true) H'
end Own
namespace Own
open PySem PySem.Spec PyProof.Rows L2 LamX
theorem nodup_len : ∀ {l U : List Int}, l.Nodup → (∀ x ∈ l, x ∈ U) → l.length ≤ U.length
  | [], _, _, _ => Nat.zero_le _
  | x :: l, U, nd, h => by
    obtain ⟨n1, n2⟩ := List.nodup_cons.mp nd
    have hx := h x List.mem_cons_self
    have := nodup_len (l := l) (U := U.erase x) n2 fun y hy => (List.mem_erase_of_ne (fun e : y = x => n1 (by rw [← e]; exact hy))).mpr (h y (List.mem_cons_of_mem _ hy))
    rw [List.length_erase_of_mem hx] at this
    have := List.length_pos_of_mem hx
    rw [List.length_cons]
    omega
theorem RowOf.few {r : DRow} {row U : List Int} (h : RowOf r row) (u : ∀ x ∈ row, x ∈ U) : r.length ≤ U.length := by
  have := nodup_len h.nd fun x hx => u x ((h.mem x).mp hx)
  rwa [List.length_map] at this
/-- the readings that a deed brings -/
def newOf : Deed → List Int
  | .add _ x n step _ => (List.range n).map fun (k : Nat) => x + (k : Int) * step
  | .pour _ _ => []
theorem newOf_len {d : Deed} (dk : DeedOk d) : (newOf d).length ≤ 14 := by
  cases d with
  | pour c s => exact Nat.zero_le _
  | add c x n step t =>
    obtain ⟨_, h, _⟩ := dk.ok
    show ((List.range n).map _).length ≤ 14
    rw [List.length_map, List.length_range]
    exact h
theorem comeRows_sub {d : Deed} {rows : Nat → List Int} {U : List Int} {n : Nat} (hc : d.cup < n) (hs : ∀ c s, d = .pour c s → s < n) (h : ∀ j, j < n → ∀ x ∈ rows j, x ∈ U) : ∀ j, j < n → ∀ x ∈ comeRows rows d j, x ∈ U ++ newOf d := by
  intro j hj x hx
  cases d with
  | pour c s =>
    have hx : x ∈ setAt rows c (rows c ++ rows s) j := hx
    unfold setAt at hx
    split at hx
    · rcases List.mem_append.mp hx with z | z
      · exact List.mem_append_left _ (h c hc x z)
      · exact List.mem_append_left _ (h s (hs c s rfl) x z)
    · exact List.mem_append_left _ (h j hj x hx)
  | add c y n' step t =>
    have hx : x ∈ setAt rows c (comeRow (rows c) y n' step t.toNat) j := hx
    unfold setAt at hx
    split at hx
    · unfold comeRow at hx
      rcases List.mem_append.mp hx with z | z
      · exact List.mem_append_left _ (h c hc x z)
      · obtain ⟨k, hk, z⟩ := List.mem_flatMap.mp z
        have := (List.mem_replicate.mp z).2
        subst this
        exact List.mem_append_right _ (List.mem_map_of_mem hk)
    · exact List.mem_append_left _ (h j hj x hx)
/-- the dicts tell what the cups were given -/
theorem come_rows {d : Deed} (dk : DeedOk d) {rs : List DRow} {rows : Nat → List Int} (hs : ∀ c s, d = .pour c s → s < rs.length) (h : ∀ j r, rs[j]? = some r → RowOf r (rows j)) : ∀ j r, (comeZ rs d)[j]? = some r → RowOf r (comeRows rows d j) := by
  intro j r hr
  cases d with
  | pour c s =>
    have hr : (rs.set c (pourZ (rs.getD c []) (rs.getD s [])))[j]? = some r := hr
    show RowOf r (setAt rows c (rows c ++ rows s) j)
    by_cases e : c = j
    · subst e
      have hl : c < rs.length := by
        have := (List.getElem?_eq_some_iff.mp hr).1
        rwa [List.length_set] at this
      rw [List.getElem?_set_self hl] at hr
      cases hr
      rw [setAt_same]
      have hc := List.getElem?_eq_getElem hl
      have hs2 := List.getElem?_eq_getElem (hs c s rfl)
      rw [List.getD_eq_getElem?_getD, List.getD_eq_getElem?_getD, hc, hs2]
      exact (h c _ hc).pour (h s _ hs2)
    · rw [List.getElem?_set_ne e] at hr
      rw [setAt_ne _ _ (Ne.symm e)]
      exact h j r hr
  | add c x n step t =>
    obtain ⟨_, _, ht, _⟩ := dk.ok
    obtain ⟨t', rfl⟩ : ∃ t' : Nat, t = (t' : Int) := ⟨t.toNat, by omega⟩
    have hr : (rs.set c (addZ (rs.getD c []) x n step (t' : Int)))[j]? = some r := hr
    show RowOf r (setAt rows c (comeRow (rows c) x n step ((t' : Int)).toNat) j)
    by_cases e : c = j
    · subst e
      have hl : c < rs.length := by
        have := (List.getElem?_eq_some_iff.mp hr).1
        rwa [List.length_set] at this
      rw [List.getElem?_set_self hl] at hr
      cases hr
      rw [setAt_same]
      have hc := List.getElem?_eq_getElem hl
      rw [List.getD_eq_getElem?_getD, hc]
      exact (h c _ hc).add x step (t := t') (by omega) n
    · rw [List.getElem?_set_ne e] at hr
      rw [setAt_ne _ _ (Ne.symm e)]
      exact h j r hr
end Own
namespace Own
open PySem PySem.Spec PyProof.Rows L2 LamX
/-- an own refusal, of its class alone -/
def lpAlone (K : PySem.W.Frag) (cs : List Addr) (R : Addr) : SpE := fun a cls d vs H Q E => ∃ (D : Addr) (bs : List Bool), cls = .ref D ∧ d = none ∧ vs = [.ref a] ∧ ExcC K D ∧ kits K D cs bs ∧ (bs.filter id).length = 1 ∧ PySem.W.kitOne K (.ref D) (.ref R) = some true ∧ PySem.W.kitOne K (.ref D) (.type "ValueError") = some true ∧
  ∀ H', Same H H' → Q (.bl true) H'
/-- what a class of refusals must say for it -/
structure Alone (K : PySem.W.Frag) (cs : List Addr) (R D : Addr) : Prop where
  is : ExcC K D
  one : ∃ bs : List Bool, kits K D cs bs ∧ (bs.filter id).length = 1
  rank : PySem.W.kitOne K (.ref D) (.ref R) = some true
  val : PySem.W.kitOne K (.ref D) (.type "ValueError") = some true
def lpBegun (R : CupRel) (T : List (Addr × Str)) : Sp := fun vs H Q E => ∃ v : V, vs = [v] ∧ Tabs T H ∧
  ((∃ k : Nat, v = .int (k : Int) ∧ 1 ≤ k ∧ k ≤ 64 ∧ ∀ H' l y1 y2 es S D, ExtN H H' → Tabs T H' → H' l = some (.lst [.ref y1, .ref y2]) → NewN H l → ¬ Un 2 D l → CupsAt R H' [y1, y2] (fun _ => k) (fun _ => []) es S D → (∀ b, Un 2 D b → NewN H b) → Q (.ref l) H') ∨
   (BadV 1 64 H v ∧ ∀ H' l, ExtN H H' → Tabs T H' → H' l = some (.lst [.bl true]) → Q (.ref l) H'))
end Own
namespace Own
open PySem PySem.Spec PyProof.Rows L2 LamX
theorem BadV.same {lo hi : Int} {H H' : Hp} {v : V} (s : Same H H') (h : BadV lo hi H v) : BadV lo hi H' v := by
  rcases h with h | h | h | h | ⟨p, xs, e, h⟩ | ⟨p, xs, e, h⟩
  · exact .inl h
  · exact .inr (.inl h)
  · exact .inr (.inr (.inl h))
  · exact .inr (.inr (.inr (.inl h)))
  · exact .inr (.inr (.inr (.inr (.inl ⟨p, xs, e, s _ _ h⟩))))
  · exact .inr (.inr (.inr (.inr (.inr ⟨p, xs, e, s _ _ h⟩))))
theorem make_same {H : Hp} {y dy C : Addr} (ny : H y = none) (ndy : H dy = none) : Same H (upd (upd H dy (.own y)) y (.ins C dy [])) := fun b o e => by
  rw [upd_ne (ne_of_none e ny), upd_ne (ne_of_none e ndy)]
  exact e
end Own
namespace Own
open PySem PySem.Spec PyProof.Rows L2 LamX
def lpEmpty (R : CupRel) (T : List (Addr × Str)) : Sp := fun vs H Q E => ∃ (a : Addr) (k : Nat) (es : List Ent) (S D : AS) (c : Int), vs = [.ref a, .int c] ∧ Tabs T H ∧ R H a k [] es S D ∧
  ∀ H' S' D', Tabs T H' → R H' a k [] es S' D' → Moves H H' S D S' D' → Q (.bl true) H'
end Own
namespace Own
open PySem PySem.Spec PyProof.Rows L2 LamX
/-- a thing that is no keep -/
def lpOdd : Sp := fun vs H Q _ => ∃ c : Int, vs = [.int c] ∧ ∀ H' v, Same H H' → BadV 1 64 H' v → Q v H'
end Own
namespace Own
open PySem PySem.Spec PyProof.Rows L2 LamX
theorem sqL_extN {K : PySem.W.Frag} {H H' : Hp} {a : Addr} {xs : List V} (e : ExtN H H') (h : SqL K H a xs) : SqL K H' a xs := by
  rcases h with (h | ⟨o, h⟩) | h
  · exact .inl (.inl (e _ _ h (fun ps z => nomatch z)))
  · exact .inl (.inr ⟨o, e _ _ h (fun ps z => nomatch z)⟩)
  · exact .inr h
end Own
namespace Own
open PySem PySem.Spec PyProof.Rows L2 LamX
/-- one of the cups is asked -/
theorem CupsAt.asked {R : CupRel} {C : Addr} (A : CupApi R C) {H H' : Hp} {as : List Addr} {ks : Nat → Nat} {rows : Nat → List Int} {es : Nat → List Ent} {S D : Nat → AS} (c : CupsAt R H as ks rows es S D) {i : Nat} {a : Addr} (hi : as[i]? = some a) {S' D' : AS} (r : R H' a (ks i) (rows i) (es i) S' D') (mv : Moves H H' (S i) (D i) S' D') :
    ∃ S2 D2, CupsAt R H' as ks rows es S2 D2 ∧ (∀ b o, Mine as.length S D H b o → Mine as.length S2 D2 H' b o) ∧ S2 i = S' ∧ D2 i = D' := by
  have il := (List.getElem?_eq_some_iff.mp hi).1
  have c2 := c.move A hi r mv.chg mv.s fun x h => (mv.d x h).elim .inl fun z => .inr (.inr z)
  rw [setAt_self, setAt_self] at c2
  exact ⟨_, _, c2, fun b o m => m.move (mv.chg.un il) (un_set il mv.s) (un_setU fun x h => (mv.d x h).elim (fun z => .inl ⟨i, il, z⟩) .inr), setAt_same _ _ _, setAt_same _ _ _⟩
end Own
namespace Own
open PySem PySem.Spec PyProof.Rows L2 LamX
def lpNear (R : CupRel) (T : List (Addr × Str)) : Sp := fun vs H Q _ => ∃ (a d : Addr) (k : Nat) (row : List Int) (es : List Ent) (S D : AS) (r : DRow) (c : Int), vs = [.ref a, .ref d, .int c] ∧ Tabs T H ∧ R H a k row es S D ∧ H d = some (.dK (dk r)) ∧ ¬ S d ∧ RowOf r row ∧ r.length ≤ 10000 ∧ row.length < 2 ^ 195 ∧
  ∀ H' S' D', Tabs T H' → R H' a k row es S' D' → Moves H H' S D S' D' → Q (.bl true) H'
end Own

/-! min(e, key=lambda entry: max(place - entry[1], entry[2] - place)), place a name of the maker. -/
namespace Own
open PySem PySem.Spec PyProof.Rows L2 LamX
structure NearS (scope : Scope) : Prop where
  kind : scope.kind = .function
  co : scope.isCoroutine = false
  gen : scope.isGenerator = false
  names : scope.names = [(("entry" : Str), NameKind.local), (("place" : Str), NameKind.free), (("max" : Str), NameKind.globalImplicit)]
abbrev nearBody (pm p1 p2 p3 p4 p5 q1 q2 q3 q4 q5 pc : Pos) (k1 k2 : Nat) : Expr :=
  .Call (.Name "max" pm) [.BinOp (.Name "place" p1) .Sub (.Subscript (.Name "entry" p2) (.Constant (.int 1) k1 p3) p4) p5, .BinOp (.Subscript (.Name "entry" q1) (.Constant (.int 2) k2 q2) q3) .Sub (.Name "place" q4) q5] [] pc
/-- how far an entry is off a place -/
def farZ (p lo hi : Int) : Int := if hi - p > p - lo then hi - p else p - lo
theorem lam_near {prog : Program} {w : World} {A : Around} {s : Shared} {E : Value → Shared → Prop} {Q : Value → Shared → Prop} {f t cell : Addr} {q : Str} {params : Arguments} {scope : Scope} {pm ctv : Value} {c' : Addr} {k1 k2 : Nat} {pM p1 p2 p3 p4 p5 q1 q2 q3 q4 q5 pc : Pos} {items : Array Value} {pl lo hi : Int} {tp tl th : Tok} {mg mb : Str → Option Value}
    (ho : s.heap.get? f = some (PySem.W.kla_obj "<lambda>" q params (nearBody pM p1 p2 p3 p4 p5 q1 q2 q3 q4 q5 pc k1 k2) scope [(("place" : Str), cell)] pm c' ctv)) (S : NearS scope) (hcd : s.heap.CodeRec (.ref c') q) (hlim : s.heap.NoLimit) (hroom : A.depth < recursionLimit) (hh : A.handled = none)
    (hbind : ∀ u : Value, bindArgs (PySem.W.kla_fn "<lambda>" q params (nearBody pM p1 p2 p3 p4 p5 q1 q2 q3 q4 q5 pc k1 k2) scope [(("place" : Str), cell)] pm (.ref c') ctv) ⟨[u], []⟩ = pure [(("entry" : Str), u)])
    (hgl : s.heap.Ns mainGlobals mg) (hmx : mg "max" = none) (hbl : s.heap.Ns builtinsNs mb) (hmb : mb "max" = some (.builtin "max"))
    (ht : IsTup s.heap t items) (h1 : items[1]? = some (.int lo tl)) (h2 : items[2]? = some (.int hi th)) (hc : s.heap.IsCell cell (some (.int pl tp)))
    (h : ∀ h' tk t', (∀ b o, s.heap.get? b = some o → h'.get? b = some o) → Q (.int (farZ pl lo hi) t') { s with heap := h', toks := tk }) :
    wpAny (model prog w) A (call (.ref f) [.ref t]) Q E s := by
  refine wpAny_call (PySem.W.kla_callFunE hroom ho rfl S.co S.gen rfl hcd ?_)
  rw [hbind]
  refine wpAny_pure (wpAny_newFunctionEnv (fun y hy => ?_) (fun y hy => ?_) (fun h₁ hns hsb => ⟨hlim.fresh _ hsb, ?_⟩) S.kind)
  · have hy : y ∈ scope.names := hy
    rw [S.names] at hy
    intro z
    rcases List.mem_cons.mp hy with rfl | hy
    · cases z
    · rcases List.mem_cons.mp hy with rfl | hy
      · cases z
      · rw [List.mem_singleton.mp hy] at z
        cases z
  · rw [List.mem_singleton.mp hy]
    show scope.names.lookup ("entry" : Str) = some NameKind.local
    rw [S.names]
    rfl
  · have kp : ∀ b o, s.heap.get? b = some o → h₁.get? b = some o := fun b o e => hsb.extBut b o (Nat.ne_of_lt (Heap.lt_size e)) (Heap.get?_push_of_some _ e)
    show codeAny _ _ (.expr (nearBody pM p1 p2 p3 p4 p5 q1 q2 q3 q4 q5 pc k1 k2) (PySem.W.envX q scope s.heap.objs.size f (.ref c') [(("place" : Str), cell)])) _ _
    refine PySem.W.kla_codeExpr ?_
    have hsz1 : 1 < items.size := (Array.getElem?_eq_some_iff.mp h1).1
    have hsz2 : 2 < items.size := (Array.getElem?_eq_some_iff.mp h2).1
    obtain ⟨o, e, cc⟩ := ht
    have ht' : IsTup h₁ t items := ⟨o, kp _ _ e, cc⟩
    obtain ⟨oc, hoc, hod⟩ := hc
    have hc1 : h₁.IsCell cell (some (.int pl tp)) := ⟨oc, kp _ _ hoc, hod⟩
    have kd : ∀ x k, scope.names.lookup x = some k → (PySem.W.envX q scope s.heap.objs.size f (.ref c') [(("place" : Str), cell)]).kindOf x = some k := fun x k e => e
    have entL : ∀ (pos : Pos) (tk : Nat) (Q' : Value → Shared → Prop) (E' : Value → Shared → Prop), Q' (.ref t) { s with heap := h₁, toks := tk } → wpAny (model prog w) (A.deeper (PySem.W.envX q scope s.heap.objs.size f (.ref c') [(("place" : Str), cell)])) (eval (.Name "entry" pos) (PySem.W.envX q scope s.heap.objs.size f (.ref c') [(("place" : Str), cell)])) Q' E' { s with heap := h₁, toks := tk } := by
      intro pos tk Q' E' hq
      refine wpAny_Name (wpAny_loadName_local (m := fun y => [(("entry" : Str), Value.ref t)].reverse.lookup y) (v := .ref t) S.kind ?_ hns ?_ hq) (by decide)
      · show scope.names.lookup ("entry" : Str) = some NameKind.local
        rw [S.names]
        rfl
      · rfl
    have plL : ∀ (pos : Pos) (tk : Nat) (Q' : Value → Shared → Prop) (E' : Value → Shared → Prop), Q' (.int pl tp) { s with heap := h₁, toks := tk } → wpAny (model prog w) (A.deeper (PySem.W.envX q scope s.heap.objs.size f (.ref c') [(("place" : Str), cell)])) (eval (.Name "place" pos) (PySem.W.envX q scope s.heap.objs.size f (.ref c') [(("place" : Str), cell)])) Q' E' { s with heap := h₁, toks := tk } := by
      intro pos tk Q' E' hq
      refine wpAny_Name (wpAny_loadName_free (c := cell) (v := .int pl tp) S.kind ?_ rfl hc1 hq) (by decide)
      show scope.names.lookup ("place" : Str) = some NameKind.free
      rw [S.names]
      rfl
    have g1 : h₁.Ns mainGlobals mg := hgl.keeps kp
    have g2 : h₁.Ns builtinsNs mb := hbl.keeps kp
    refine wpAny_Call_Name_kw (Calls.Name_function_global S.kind ?_ (Calls.loadGlobal_builtin g1 hmx g2 hmb ?_) (by decide))
    · show scope.names.lookup ("max" : Str) = some NameKind.globalImplicit
      rw [S.names]
      rfl
    refine Calls.callWith_builtin rfl (Calls.evalArgs_plain (Calls.spliced_cons ?_))
    refine wpAny_BinOp (plL _ _ _ _ ?_)
    refine Subscript_Constant (entL _ _ _ _ (wpAny_Constant_int ?_))
    refine ⟨"tuple", _, slot_tuple_getitem.lookup, ht'.typeIs, getItem_tuple (j := 1) ht' (by decide) (by decide) ?_ h1 ?_⟩
    · rw [seqIndex_of (by decide) (by omega)]
      rfl
    refine sub_int ?_
    refine Calls.spliced_cons ?_
    refine wpAny_BinOp (Subscript_Constant (entL _ _ _ _ (wpAny_Constant_int ?_)))
    refine ⟨"tuple", _, slot_tuple_getitem.lookup, ht'.typeIs, getItem_tuple (j := 2) ht' (by decide) (by decide) ?_ h2 ?_⟩
    · rw [seqIndex_of (by decide) (by omega)]
      rfl
    refine plL _ _ _ _ (sub_int ?_)
    refine Calls.spliced_nil ?_
    refine max_two_ints (by exact hh) fun h' tk k => ?_
    unfold farZ at h
    by_cases hj : hi - pl > pl - lo
    · rw [if_pos hj]
      have q := h h' tk
      rw [if_pos hj] at q
      exact q _ fun b o e => k _ _ (kp _ _ e)
    · rw [if_neg hj]
      have q := h h' tk
      rw [if_neg hj] at q
      exact q _ fun b o e => k _ _ (kp _ _ e)

theorem clo_near {cells : List (Str × Addr)} {scope : Scope} (S : NearS scope) {c : Addr} (h : cells.lookup ("place" : Str) = some c) : cloFrom cells scope.names [] = [(("place" : Str), c)] := by
  rw [S.names]
  show [(("place" : Str), (cells.lookup ("place" : Str)).getD 0)] = _
  rw [h]
  rfl
def tMinNear (T : List (Addr × Str)) (K : PySem.W.Frag) (i : Nat) (te : TE) : TE := fun σ H Q => te σ H fun x H1 => Tabs T H1 ∧ ∃ (a : Addr) (xs : List V) (pl : Int) (lo hi : Nat → Int), x = .ref a ∧ SqL K H1 a xs ∧ xs ≠ [] ∧ σ[i]? = some (some (.int pl)) ∧
  (∀ k v, xs[k]? = some v → ∃ t r, v = .ref t ∧ H1 t = some (.tup [r, .int (lo k), .int (hi k)])) ∧
  ∀ H2 k v, ExtN H1 H2 → Tabs T H2 → xs[k]? = some v → (∀ j, j < xs.length → farZ pl (lo k) (hi k) ≤ farZ pl (lo j) (hi j)) → Q v H2
section
variable {X : Cx} {K : PySem.W.Frag}
theorem pe_minNear {T : List (Addr × Str)} {c P : Addr} {e : Expr} {te : TE} {params : Arguments} {scope : Scope} {i j k1 k2 : Nat} {p pM p1 p2 p3 p4 p5 q1 q2 q3 q4 q5 pc lpos kpos pos : Pos} (TB : TabB X.base X.mg c P) (hcode : X.env.code = .ref c) (hmT : (P, X.env.qual ++ "<lambda>") ∈ T) (hu : ∀ p ∈ T, p.1 = P → p.2 = X.env.qual ++ "<lambda>")
    (hr : Room j X.A) (hj : 2 ≤ j) (hg : Gl X "min") (hm : X.mg "min" = none) (hmx : X.mg "max" = none) (hN : X.N[i]? = some ("place" : Str)) (hcl : X.env.kindOf ("place" : Str) = some .cell) (hcalm : X.calm = true) (he : PE X e te) (S : NearS scope) (hdef : defaultsOf params X.env = ([], []))
    (hbind : ∀ (q : Str) (pm cv ctv u : Value) (cl : List (Str × Addr)), bindArgs (PySem.W.kla_fn "<lambda>" q params (nearBody pM p1 p2 p3 p4 p5 q1 q2 q3 q4 q5 pc k1 k2) scope cl pm cv ctv) ⟨[u], []⟩ = pure [(("entry" : Str), u)]) (hK : X.K = K := by rfl)
    (hst : starEach [e] X.env = (false, eval e X.env) :: starEach [] X.env := by rfl)
    (he1 : backTo pos (starEach (e :: []) X.env) = (false, eval e X.env) :: backTo pos (starEach [] X.env) := by rfl) (hpl : (backTo pos (starEach (e :: []) X.env)).any (·.1) = false := by rfl) :
    PE X (.Call (.Name "min" p) [e] [⟨some "key", .Lambda params (nearBody pM p1 p2 p3 p4 p5 q1 q2 q3 q4 q5 pc k1 k2) scope lpos, kpos⟩] pos) (tMinNear T K i te) := by
  subst hK
  have ha : PA X [e] (tCons te tNil) := pa_cons he pa_nil hst
  refine ⟨fun pins s σ H Q I h => ?_⟩
  have hv : bootBuiltins "min" = some (.builtin "min") := by decide +kernel
  refine wpAny_Call_Name_kw (ld_blt I hg hm hv ?_ (by decide) (by decide))
  refine PyProof.Rows.callWith_kw (thn (ha.run pos pins s σ H (fun vs H1 => match vs with
    | [x] => Tabs T H1 ∧ ∃ (a : Addr) (xs : List V) (pl : Int) (lo hi : Nat → Int), x = .ref a ∧ SqL X.K H1 a xs ∧ xs ≠ [] ∧ σ[i]? = some (some (.int pl)) ∧
      (∀ k v, xs[k]? = some v → ∃ t r, v = .ref t ∧ H1 t = some (.tup [r, .int (lo k), .int (hi k)])) ∧
      ∀ H2 k v, ExtN H1 H2 → Tabs T H2 → xs[k]? = some v → (∀ j, j < xs.length → farZ pl (lo k) (hi k) ≤ farZ pl (lo j) (hi j)) → Q v H2
    | _ => False) I h) fun us s1 hh => ?_) he1 hpl (by rfl) (by rfl)
  obtain ⟨vs, H1, I1, r1, q0⟩ := hh
  obtain ⟨x, rfl⟩ : ∃ x, vs = [x] := by
    match vs, q0 with
    | [x], _ => exact ⟨x, rfl⟩
  obtain ⟨hT1, a, xs, pl, lo, hi, rfl, hS, hne, hsl, hx, q⟩ := q0
  obtain ⟨u1, rfl, ru⟩ := vals1 r1
  obtain rfl : u1 = Value.ref a := ru
  show wpAny _ _ (evalAll ((do let v ← eval (.Lambda params (nearBody pM p1 p2 p3 p4 p5 q1 q2 q3 q4 q5 pc k1 k2) scope lpos) X.env; standAt pos; pure v) :: [])) _ _ s1
  -- the cell of the name
  obtain ⟨m0, _, hlook⟩ := I1.loc
  obtain ⟨u0, ru0, hl0⟩ := hlook i _ _ hN hsl (.inr (.inl hcl))
  obtain ⟨tp, rfl⟩ := ru0
  obtain ⟨cell, hcc, hci⟩ : ∃ c, X.env.cells.lookup ("place" : Str) = some c ∧ s1.heap.IsCell c (some (Value.int pl tp)) := by
    rcases hl0 with ⟨z, _⟩ | ⟨_, z⟩
    · rw [hcl] at z
      cases z
    · exact z
  have hfree : ∀ y ∈ scope.names, y.2 = NameKind.free → ∃ c, X.env.cells.lookup y.1 = some c := fun y hy z => by
    rw [S.names] at hy
    rcases List.mem_cons.mp hy with rfl | hy
    · cases z
    · rcases List.mem_cons.mp hy with rfl | hy
      · exact ⟨cell, hcc⟩
      · rw [List.mem_singleton.mp hy] at z
        cases z
  refine wpAny_evalAll_cons (wpAny_bind (lam_make2 (Q := fun v s' => wpAny (model X.prog X.w) X.A (do standAt pos; pure v) (fun v1 s2 => wpAny (model X.prog X.w) X.A (evalAll []) (fun vs' s3 => wpAny (model X.prog X.w) X.A (call (.builtin "min") [.ref a] ([Str.ofString "key"].zip (v1 :: vs'))) (EP X pins σ Q) X.xe s3) X.xe s2) X.xe s') I1 TB hcode hmT hu hT1 hdef hfree fun f c' pm ctv H2 s2 I2 eN T2 hf hfn hfr hco => wpAny_bind (wpAny_standAt (wpAny_pure (wpAny_evalAll_nil ?_)))))
  have hclo := clo_near S hcc
  rw [hclo] at hf
  obtain ⟨m2, _, hlook2⟩ := I2.loc
  obtain ⟨u2, ru2, hl2⟩ := hlook2 i _ _ hN hsl (.inr (.inl hcl))
  obtain ⟨tp2, rfl⟩ := ru2
  have hci2 : s2.heap.IsCell cell (some (Value.int pl tp2)) := by
    rcases hl2 with ⟨z, _⟩ | ⟨_, c2, z1, z2⟩
    · rw [hcl] at z
      cases z
    · rw [hcc] at z1
      cases z1
      exact z2
  have hS2 : SqL X.K H2 a xs := by
    rcases hS with (z | ⟨o, z⟩) | z
    · exact .inl (.inl (eN _ _ z fun ps y => nomatch y))
    · exact .inl (.inr ⟨o, eN _ _ z fun ps y => nomatch y⟩)
    · exact .inr z
  obtain ⟨its, rv, hl, hz⟩ := I2.list hS2
  have hlen := rv.length
  have hco2 := codeO_at' I2.hok hco
  obtain ⟨mb, hb1, hb2⟩ := I2.mod.blt
  have hpos : 0 < its.toArray.size := by
    rw [List.size_toArray, ← hlen]
    exact List.length_pos_iff.mpr hne
  have hhd : X.A.handled = none := I2.ok.hd hcalm
  have nolt : ∀ {b o}, s2.heap.get? b = some o → b ≠ s2.heap.objs.size := fun e => Nat.ne_of_lt (Heap.lt_size e)
  show wpAny _ _ (call (.builtin "min") [.ref a] [(Str.ofString "key", .ref f)]) _ _ s2
  refine call_min_walkK (PySem.W.iter_listW (A := X.A.in1) hhd hl.isList fun s₃ e3 W st hfp hw hk => ?_)
  have hsz3 : s₃.heap.objs.size = s2.heap.objs.size + 1 := by
    rw [e3]
    exact Heap.size_push ..
  have nolt1 : ∀ {b o}, s2.heap.get? b = some o → b ≠ s2.heap.objs.size + 1 := fun e => Nat.ne_of_lt (Nat.lt_succ_of_lt (Heap.lt_size e))
  refine ⟨_, _, _, _, _, _, _, (fun s' => s'.gens = s2.gens ∧ s'.drawn = s2.drawn ∧ s'.os = s2.os ∧ ∀ b o, s2.heap.get? b = some o → s'.heap.get? b = some o), (fun i v s' => ∃ t, v = Value.int (farZ pl (lo i) (hi i)) t), (fun i j => decide (farZ pl (lo i) (hi i) < farZ pl (lo j) (hi j))), rfl, W, st, hfp, hpos, ?_, ?_, ?_⟩
  · refine ⟨?_, ?_, ?_, ?_⟩
    · rintro sa sb ⟨g1, g2, g3, g4⟩ mv
      refine ⟨mv.gens.trans g1, mv.drawn.trans g2, mv.os.trans g3, fun b o eb => mv.heap b o ?_ (g4 b o eb)⟩
      intro hb
      rcases List.mem_cons.mp hb with z | z
      · rw [hsz3] at z
        exact nolt1 eb z
      · exact nolt eb (List.mem_singleton.mp z)
    · intro i' k' sa sb hv _
      exact hv
    · intro i' v sa oS Q' E' hi' hPv hJ hst' hoS hq
      obtain ⟨g1, g2, g3, g4⟩ := hJ
      have hvi : its[i']? = some v := by simpa using hPv
      obtain ⟨y, hy, ry⟩ : ∃ y, xs[i']? = some y ∧ RelV y v := by
        have hi2 : i' < xs.length := by
          rw [hlen]
          exact (List.getElem?_eq_some_iff.mp hvi).1
        obtain ⟨v', e1, e2⟩ := rv.get (List.getElem?_eq_getElem hi2)
        rw [hvi] at e1
        cases e1
        exact ⟨_, List.getElem?_eq_getElem hi2, e2⟩
      obtain ⟨t, r, rfl, ht⟩ := hx i' y hy
      obtain rfl : v = Value.ref t := ry
      have ht2 := eN _ _ ht fun ps y => nomatch y
      obtain ⟨hz2, its2, rv2, o, e1, e2⟩ := (show ObjOk X.prog X.w H2 s2.heap t (.tup [r, .int (lo i'), .int (hi i')]) from I2.hok t _ ht2)
      obtain ⟨w0, w1, w2, rfl, _, ⟨tl, rfl⟩, ⟨th, rfl⟩⟩ : ∃ w0 w1 w2, its2 = [w0, w1, w2] ∧ RelV r w0 ∧ RelV (.int (lo i')) w1 ∧ RelV (.int (hi i')) w2 := by
        cases rv2 with
        | cons a0 r0 =>
          cases r0 with
          | cons a1 r1 =>
            cases r1 with
            | cons a2 r2 =>
              cases r2
              exact ⟨_, _, _, rfl, a0, a1, a2⟩
      obtain ⟨oc, hoc, hod⟩ := hci2
      refine lam_near (s := sa) (cell := cell) (pl := pl) (tp := tp2) (lo := lo i') (hi := hi i') (g4 _ _ hf) S ?_ (I2.nolimit.keeps g4) ((hr.mono hj).in1.in1).depth ?_ (fun u => hbind _ _ _ _ u _) ((I2.mod.glob.keeps I2.bk).keeps g4) hmx ((hb1.keeps I2.bk).keeps g4) ((hb2 _ (by decide)).trans (by decide +kernel)) ⟨o, g4 _ _ e1, e2⟩ (tl := tl) (th := th) (by simp) (by simp) ⟨oc, g4 _ _ hoc, hod⟩ ?_
      · obtain ⟨c2, oc2, vs2, t0, a1, a2, a3, a4⟩ := hco2
        exact ⟨c2, oc2, vs2, t0, a1, g4 _ _ a2, a3, a4⟩
      · exact hhd
      · intro h' tk t' kp
        refine hq _ _ ⟨g1, g2, g3, fun b o e => kp b o (g4 b o e)⟩ ?_ (kp _ _ hoS) ⟨t', rfl⟩ fun j k' z => z
        obtain ⟨⟨o1, b1, b2⟩, ⟨o2, b3, b4⟩⟩ := hst'
        exact ⟨⟨o1, kp _ _ b1, b2⟩, ⟨o2, kp _ _ b3, b4⟩⟩
    · rintro i' j' ki kj sa Q' E' _ ⟨t1, rfl⟩ ⟨t2, rfl⟩ hq
      exact CmpOf.ints_lt (prog := X.prog) (w := X.w) (A := X.A.in1) (P := fun i v => ∃ t, v = .int (farZ pl (lo i) (hi i)) t) (fun i => farZ pl (lo i) (hi i)) (fun i v h => h) i' j' _ _ _ _ _ ⟨t1, rfl⟩ ⟨t2, rfl⟩ hq
  · refine ⟨?_, ?_, ?_, hk⟩ <;> rw [e3]
  · rintro v s' hP ⟨g1, g2, g3, g4⟩
    obtain ⟨b1, b2⟩ := argBest_lt (fun i => farZ pl (lo i) (hi i)) (its.toArray.size - 1)
    generalize hbi : argBest (fun i j => decide (farZ pl (lo i) (hi i) < farZ pl (lo j) (hi j))) (its.toArray.size - 1) = bi at hP b1 b2
    rw [List.size_toArray] at b1 b2 hpos
    have hvi : its[bi]? = some v := by simpa using hP
    have hi2 : bi < xs.length := by omega
    obtain ⟨v', e1, e2⟩ := rv.get (List.getElem?_eq_getElem hi2)
    rw [hvi] at e1
    cases e1
    refine ⟨_, H2, ?_, e2, q H2 bi _ eN T2 (List.getElem?_eq_getElem hi2) fun j hj => b2 j (by omega)⟩
    have es' : s' = { s2 with heap := s'.heap, toks := s'.toks } := by
      cases s'
      simp only at g1 g2 g3
      subst g1 g2 g3
      rfl
    rw [es']
    exact I2.kept g4
end
end Own

/-! sorted(d) of a dict whose keys are whole numbers, of any length; a global that holds a whole number. -/
namespace Own
open PySem PySem.Spec PyProof.Rows L2 LamX
section
variable {X : Cx}
theorem call_sortedDA (hcalm : X.calm = true) : CallR X (.builtin "sorted") (fun xs H Q => ∃ (a : Addr) (kvs : List (Key × V)) (ks : List Int), xs = [.ref a] ∧ Rd H a (.dK kvs) ∧ kvs.map (·.1) = ks.map Sum.inl ∧
    ∀ (ys : List Int) (p : Addr), ys.Perm ks → ys.Pairwise (· ≤ ·) → H p = none → Q (.ref p) (upd H p (.lst (ys.map V.int)))) := by
  intro pins s σ H xs us Q I r q
  obtain ⟨a, kvs, ks, ex, hd, hks, q⟩ := q
  subst ex
  obtain ⟨u, eu, rx⟩ := vals1 r
  subst eu
  cases rx
  obtain ⟨z, lo, vs, rel, dd⟩ := dk_rd I.hok hd
  obtain ⟨ep, hat⟩ := dd.dictAt
  have hkeys : vs.map (·.1) = ks.map Sum.inl := rel.keys.symm.trans hks
  have hl : vs.length = ks.length := by
    have e := congrArg List.length hkeys
    rw [List.length_map, List.length_map] at e
    exact e
  have h16 : vs.length ≤ sizeLine := by
    have e := congrArg List.length rel.keys
    rw [List.length_map, List.length_map] at e
    rw [← e]
    exact z
  refine Calls.call_function_entry PyProof.Rows.kind_sorted PyProof.Rows.plain_sorted PyProof.Rows.entry_sorted (PyProof.Rows.args_sorted1 _) ?_
  unfold Builtin.«sorted»
  refine wpAny_bind (m := checkCount "sorted" 1 1 _) (wpAny_pure ?_)
  refine wpAny_bind (PySem.W.kdu_collect (A := X.A.in1) (PySem.W.kdl_dict (knd := mixKind X.prog X.w) (kvs := vs) (ep := ep) lo) (I.ok.hd hcalm) hat h16 fun h' tk acc hk hacc => ?_)
  have hal : acc.toList.length = ks.length := by rw [Array.length_toList, hacc.1, hl]
  have hS : IntsAre acc.toList ks := ints_each hal fun j v e => by
    obtain ⟨k, x, e1, e2⟩ := hacc.2 j v (by rw [← Array.getElem?_toList]; exact e)
    have e3 : (vs.map (·.1))[j]? = some k := by rw [List.getElem?_map, e1]; rfl
    rw [hkeys, List.getElem?_map] at e3
    cases e4 : ks[j]? with
    | none => rw [e4] at e3; cases e3
    | some y =>
      rw [e4] at e3
      have e5 : Sum.inl y = k := Option.some.inj e3
      subst e5
      rcases keyIs_shape (show keyIs (Sum.inl y) v = true from e2) with ⟨i, t, ek, ev⟩ | ⟨z, t, ek, ev⟩
      · cases ek
        exact ⟨y, t, rfl, ev⟩
      · cases ek
  have I1 : Inv X pins σ H { s with heap := h', toks := tk } := I.kept hk
  have hzl : acc.toList.length ≤ sizeLine := by rw [hal, ← hl]; exact h16
  refine wpAny_bind (wpAny_newList ?_ hzl)
  have hoL : (h'.push (seqObj "list" acc.toList.toArray 0)).get? h'.objs.size = some (seqObj "list" acc.toList.toArray 0) := Heap.get?_push_size _ rfl
  show wpAny _ _ _ _ _ { s with heap := h'.push (seqObj "list" acc.toList.toArray 0), toks := tk }
  refine wpAny_bind (wpAny_holding (wpAny_call_entry PyProof.Rows.slot_list_sort ⟨_, hoL, rfl⟩ PyProof.Rows.entry_list_sort
    (SrtO.list_sort_ord (s := { s with heap := h'.push (seqObj "list" acc.toList.toArray 0), toks := tk }) SrtO.swo_int hoL hzl (fun h2 => SrtO.ints_sortable hS h2) fun out g1 g2 => ⟨_, rfl, ?_⟩) (PyProof.Rows.args_list_sort _)))
  obtain ⟨k1, k2, k3⟩ := SrtO.ints_out hS g1 g2
  obtain ⟨e', he'⟩ := PyProof.Rows.sortedHeap_at (vs := acc.toList) (out := out.toArray) hoL
  have hlen : ((out.map SrtO.iv).map V.int).length ≤ sizeLine := by
    rw [List.length_map, k2.length_eq, ← hal]
    exact hzl
  refine wpAny_pure ⟨_, rfl, .ref h'.objs.size, upd H h'.objs.size (.lst ((out.map SrtO.iv).map V.int)), I1.laid (t' := tk) (fun b u e => ?_) (Nat.le_refl _) ⟨hlen, out, e', vals_of_ints k1, he'⟩, rfl, q _ _ k2 k3 (I1.hok.fresh (Nat.le_refl _))⟩
  rw [PyProof.Rows.sortedHeap_old (Nat.ne_of_lt (Heap.lt_size e)) (by rw [Heap.size_push]; exact Nat.lt_succ_of_lt (Heap.lt_size e))]
  exact Heap.get?_push_of_some _ e
theorem pe_gint {x : Str} {i : Int} {pos : Pos} (hg : Gl X x) (h : ∃ t, X.mg x = some (.int i t)) (hd : (x == ("__debug__" : Str)) = false := by decide) : PE X (.Name x pos) (tC (.int i)) := by
  obtain ⟨t, h⟩ := h
  exact pe_glob hg h ⟨t, rfl⟩ hd
end
end Own

/-! The digits 1 of a number, by their places. -/
namespace Own
open PySem PySem.Spec PyProof.Rows L2 LamX
def onesD (q j : Nat) : List Nat := if h : q = 0 then [] else (if q % 2 = 1 then [j] else []) ++ onesD (q / 2) (j + 1)
termination_by q
decreasing_by omega
theorem onesD_zero (j : Nat) : onesD 0 j = [] := by rw [onesD]; rfl
theorem onesD_pos {q : Nat} (h : q ≠ 0) (j : Nat) : onesD q j = (if q % 2 = 1 then [j] else []) ++ onesD (q / 2) (j + 1) := by
  rw [onesD, dif_neg h]
theorem offD_ones : ∀ (n q j : Nat), q ≤ n → offD q j = ((onesD q j).map fun p => p * 2 ^ p / 2).sum := by
  intro n
  induction n with
  | zero =>
    intro q j h
    obtain rfl : q = 0 := by omega
    rw [onesD_zero, offD]
    rfl
  | succ n ih =>
    intro q j h
    by_cases hq : q = 0
    · subst hq
      rw [onesD_zero, offD]
      rfl
    · rw [onesD_pos hq, offD, dif_neg hq, ih (q / 2) (j + 1) (by omega), List.map_append, List.sum_append]
      congr 1
      split <;> simp
theorem bndD_ones (k : Nat) : ∀ (n q j : Nat), q ≤ n → bndD q k = k * (onesD q j).length := by
  intro n
  induction n with
  | zero =>
    intro q j h
    obtain rfl : q = 0 := by omega
    rw [onesD_zero, bndD]
    rfl
  | succ n ih =>
    intro q j h
    by_cases hq : q = 0
    · subst hq
      rw [onesD_zero, bndD]
      rfl
    · rw [onesD_pos hq, bndD, dif_neg hq, ih (q / 2) (j + 1) (by omega), List.length_append, Nat.mul_add]
      congr 1
      rcases (show q % 2 = 0 ∨ q % 2 = 1 by omega) with e | e <;> rw [e] <;> simp
theorem ones_ge : ∀ (n q j : Nat), q ≤ n → ∀ p ∈ onesD q j, j ≤ p := by
  intro n
  induction n with
  | zero =>
    intro q j h
    obtain rfl : q = 0 := by omega
    rw [onesD_zero]
    simp
  | succ n ih =>
    intro q j h p hp
    by_cases hq : q = 0
    · subst hq
      rw [onesD_zero] at hp
      simp at hp
    · rw [onesD_pos hq] at hp
      rcases List.mem_append.mp hp with hp | hp
      · split at hp
        · rw [List.mem_singleton.mp hp]
          exact Nat.le_refl _
        · simp at hp
      · have := ih (q / 2) (j + 1) (by omega) p hp
        omega
theorem sum_two (j : Nat) : ∀ ps : List Nat, (∀ p ∈ ps, j + 1 ≤ p) → (ps.map fun p => 2 ^ (p - j)).sum = 2 * (ps.map fun p => 2 ^ (p - (j + 1))).sum
  | [], _ => rfl
  | p :: r, h => by
    rw [List.map_cons, List.map_cons, List.sum_cons, List.sum_cons, sum_two j r fun x hx => h x (List.mem_cons_of_mem _ hx)]
    have hp := h p List.mem_cons_self
    have : 2 ^ (p - j) = 2 * 2 ^ (p - (j + 1)) := by
      rw [show p - j = (p - (j + 1)) + 1 by omega, Nat.pow_succ]
      omega
    omega
/-- the places are told by the number -/
theorem ones_uniq : ∀ (n q j : Nat) (ps : List Nat), q ≤ n → ps.Pairwise (· < ·) → (∀ p ∈ ps, j ≤ p) → (ps.map fun p => 2 ^ (p - j)).sum = q → ps = onesD q j := by
  intro n
  induction n with
  | zero =>
    intro q j ps h hs hj e
    obtain rfl : q = 0 := by omega
    rw [onesD_zero]
    cases ps with
    | nil => rfl
    | cons p r =>
      rw [List.map_cons, List.sum_cons] at e
      have := Nat.pow_pos (n := p - j) (show 0 < 2 by decide)
      omega
  | succ n ih =>
    intro q j ps h hs hj e
    by_cases hq : q = 0
    · exact (ih q j ps (by omega) hs hj e)
    · rw [onesD_pos hq]
      cases ps with
      | nil =>
        simp at e
        omega
      | cons p r =>
        have hr : ∀ x ∈ r, p < x := fun x hx => List.rel_of_pairwise_cons hs hx
        have hp := hj p List.mem_cons_self
        by_cases hpj : p = j
        · subst hpj
          rw [List.map_cons, List.sum_cons, Nat.sub_self, sum_two p r fun x hx => hr x hx] at e
          have h1 : q % 2 = 1 := by omega
          rw [if_pos h1]
          show p :: r = p :: _
          rw [← ih (q / 2) (p + 1) r (by omega) hs.of_cons (fun x hx => hr x hx) (by omega)]
          rfl
        · have all : ∀ x ∈ p :: r, j + 1 ≤ x := fun x hx => by
            rcases List.mem_cons.mp hx with rfl | hx
            · omega
            · have := hr x hx
              omega
          rw [sum_two j (p :: r) all] at e
          rw [if_neg (by omega)]
          show p :: r = onesD _ _
          rw [← ih (q / 2) (j + 1) (p :: r) (by omega) hs all (by omega)]
/-- as the program finds them -/
theorem ones_filter : ∀ (m q j : Nat), q < 2 ^ m → ((List.range m).filter fun i => decide (q / 2 ^ i % 2 = 1)).map (fun i => j + i) = onesD q j := by
  intro m
  induction m with
  | zero =>
    intro q j h
    obtain rfl : q = 0 := by simpa using h
    rw [onesD_zero]
    rfl
  | succ m ih =>
    intro q j h
    by_cases hq : q = 0
    · subst hq
      rw [onesD_zero]
      have : ((List.range (m + 1)).filter fun i => decide (0 / 2 ^ i % 2 = 1)) = [] := by
        rw [List.filter_eq_nil_iff]
        intro a _
        simp
      rw [this]
      rfl
    · rw [onesD_pos hq, List.range_succ_eq_map, List.filter_cons]
      have e2 : (List.map Nat.succ (List.range m)).filter (fun i => decide (q / 2 ^ i % 2 = 1)) = ((List.range m).filter fun i => decide (q / 2 / 2 ^ i % 2 = 1)).map Nat.succ := by
        rw [List.filter_map]
        congr 1
        apply List.filter_congr
        intro x _
        show decide (q / 2 ^ (x + 1) % 2 = 1) = _
        rw [Nat.pow_succ, Nat.mul_comm, Nat.div_div_eq_div_mul]
      have hm : q / 2 < 2 ^ m := by
        rw [Nat.pow_succ] at h
        omega
      have h3 := ih (q / 2) (j + 1) hm
      have e4 : ((List.range m).filter fun i => decide (q / 2 / 2 ^ i % 2 = 1)).map ((fun i => j + i) ∘ Nat.succ) = onesD (q / 2) (j + 1) := by
        rw [← h3]
        apply List.map_congr_left
        intro x _
        show j + (x + 1) = j + 1 + x
        omega
      simp only [Nat.pow_zero, Nat.div_one]
      by_cases h1 : q % 2 = 1
      · rw [if_pos h1, if_pos (by simpa using h1), List.map_cons, e2, List.map_map, e4]
        rfl
      · rw [if_neg h1, if_neg (by simpa using h1), e2, List.map_map, e4]
        rfl
theorem sum_perm {α : Type} (f : α → Nat) {a b : List α} (p : a.Perm b) : (a.map f).sum = (b.map f).sum := (p.map f).sum_nat
theorem ones_len : ∀ (n q j : Nat), q < 2 ^ n → (onesD q j).length ≤ n := by
  intro n
  induction n with
  | zero =>
    intro q j h
    obtain rfl : q = 0 := by simpa using h
    rw [onesD_zero]
    exact Nat.le_refl _
  | succ n ih =>
    intro q j h
    by_cases hq : q = 0
    · subst hq
      rw [onesD_zero]
      exact Nat.zero_le _
    · rw [onesD_pos hq, List.length_append]
      have := ih (q / 2) (j + 1) (by rw [Nat.pow_succ] at h; omega)
      split <;> simp <;> omega
/-- the count and the loose ones tell the blocks -/
theorem offN_ones (n k : Nat) : offN n k = ((onesD (n / k) 0).map fun p => p * 2 ^ p / 2).sum := offD_ones _ _ _ (Nat.le_refl _)
theorem bndN_ones (n k : Nat) : bndN n k = n % k + k * (onesD (n / k) 0).length := by
  unfold bndN
  rw [bndD_ones k _ _ 0 (Nat.le_refl _)]
end Own

/-! Blocks of entries, and what is kept of them and of the loose ones. -/
namespace Own
open PySem PySem.Spec PyProof.Rows L2 LamX
structure Blk where
  j : Nat
  a : Addr
  xs : List V
  es : List Ent
  row : List Int
/-- entries of a row: rising, true, so many readings, apart by g (and w between) -/
structure PartOk (es : List Ent) (row : List Int) (g w : Int) : Prop where
  rise : Rise es
  tru : ∀ e ∈ es, TrueE row e
  ag : AG es (row.length : Int) g w
  low : ∀ e ∈ es, 0 ≤ e.2.1 ∧ e.2.2 < (row.length : Int)
theorem addLeast_nn {fs : List Ent} (h : ∀ e ∈ fs, 0 ≤ e.2.1) (r : Int) : 0 ≤ addLeast fs r := by
  unfold addLeast
  split
  · rename_i e he
    have := h e ((List.mem_filter.mp (List.mem_of_getLast? he)).1)
    omega
  · omega
theorem addMost_le {fs : List Ent} {m : Int} (h : ∀ e ∈ fs, e.2.2 < m) (r : Int) : addMost fs r m ≤ m := by
  unfold addMost
  split
  · rename_i e he
    have := h e ((List.mem_filter.mp (List.mem_of_head? he)).1)
    omega
  · omega
theorem joinE_low {es fs : List Ent} {n m : Int} (h1 : ∀ e ∈ es, 0 ≤ e.2.1 ∧ e.2.2 < n) (h2 : ∀ e ∈ fs, 0 ≤ e.2.1 ∧ e.2.2 < m) : ∀ e ∈ joinE es n fs m, 0 ≤ e.2.1 ∧ e.2.2 < n + m := by
  intro e he
  rcases List.mem_append.mp ((byKey_perm _).mem_iff.mp he) with h | h
  · obtain ⟨e0, h0, rfl⟩ := List.mem_map.mp h
    have a := h1 e0 h0
    have b := addLeast_nn (fun e z => (h2 e z).1) e0.1
    have c := addMost_le (fun e z => (h2 e z).2) e0.1
    exact ⟨by show 0 ≤ e0.2.1 + _; omega, by show e0.2.2 + _ < _; omega⟩
  · obtain ⟨e0, h0, rfl⟩ := List.mem_map.mp h
    have a := h2 e0 h0
    have b := addLeast_nn (fun e z => (h1 e z).1) e0.1
    have c := addMost_le (fun e z => (h1 e z).2) e0.1
    exact ⟨by show 0 ≤ e0.2.1 + _; omega, by show e0.2.2 + _ < _; omega⟩
structure BkOk (k : Nat) (B : Blk) : Prop where
  rowlen : B.row.length = k * 2 ^ B.j
  len : B.es.length = k
  ok : PartOk B.es B.row ((B.j * 2 ^ B.j / 2 : Nat) : Int) ((2 ^ B.j : Nat) : Int)
theorem PartOk.wide {es : List Ent} {row : List Int} {g w w' : Int} (h : PartOk es row g w) (k : w ≤ w') : PartOk es row g w' := ⟨h.rise, h.tru, h.ag.wide k, h.low⟩
theorem PartOk.join {es fs : List Ent} {ra rb : List Int} {g g' w : Int} (hw : 0 ≤ w) (a : PartOk es ra g w) (b : PartOk fs rb g' w) : PartOk (joinE es ra.length fs rb.length) (ra ++ rb) (g + g') w :=
  ⟨byKey_rise _, joinE_true a.tru b.tru (Int.le_refl _) (Int.le_refl _), by
    rw [List.length_append, Int.natCast_add]
    exact AG.join a.rise b.rise hw a.ag b.ag, by
    rw [List.length_append, Int.natCast_add]
    exact joinE_low a.low b.low⟩
theorem joinE_length (es fs : List Ent) (n m : Int) : (joinE es n fs m).length = es.length + fs.length := by
  unfold joinE
  rw [byKey_length, List.length_append]
  simp [liftE]
theorem odds_sub {α : Type} : ∀ l : List α, (odds l).Sublist l
  | [] => List.Sublist.refl _
  | [_] => List.nil_sublist _
  | x :: y :: r => by
    show (y :: odds r).Sublist (x :: y :: r)
    exact ((odds_sub r).cons_cons y).cons x
theorem PartOk.half {es : List Ent} {row : List Int} {g w : Int} (hw : 0 ≤ w) (he : es.length % 2 = 0) (a : PartOk es row g w) : PartOk (odds es) row (g + w) (2 * w) :=
  ⟨a.rise.sublist (odds_sub es), fun e h => a.tru e ((odds_sub es).subset h), a.ag.half hw he, fun e h => a.low e ((odds_sub es).subset h)⟩
theorem PartOk.more {es : List Ent} {row : List Int} {g g' w : Int} (h : PartOk es row g w) (k : g ≤ g') : PartOk es row g' w := ⟨h.rise, h.tru, h.ag.more k, h.low⟩
theorem off_next (j : Nat) : ((j * 2 ^ j / 2 : Nat) : Int) + ((j * 2 ^ j / 2 : Nat) : Int) + ((2 ^ j : Nat) : Int) ≤ (((j + 1) * 2 ^ (j + 1) / 2 : Nat) : Int) := by
  have : (j + 1) * 2 ^ (j + 1) / 2 = j * 2 ^ j + 2 ^ j := by
    rw [Nat.pow_succ, ← Nat.mul_assoc, Nat.mul_div_cancel _ (by decide), Nat.succ_mul]
  omega
/-- two of one place make one of the next -/
theorem BkOk.carry {k j : Nat} {a b c : Addr} {xs ys zs : List V} {es fs : List Ent} {ra rb : List Int} (h1 : BkOk k ⟨j, a, xs, es, ra⟩) (h2 : BkOk k ⟨j, b, ys, fs, rb⟩) :
    BkOk k ⟨j + 1, c, zs, odds (joinE es ((k * 2 ^ j : Nat) : Int) fs ((k * 2 ^ j : Nat) : Int)), ra ++ rb⟩ := by
  have l1 : ra.length = k * 2 ^ j := h1.rowlen
  have l2 : rb.length = k * 2 ^ j := h2.rowlen
  have e1 : es.length = k := h1.len
  have e2 : fs.length = k := h2.len
  have p := h1.ok.join (Int.natCast_nonneg _) h2.ok
  rw [show ((List.length (Blk.mk j a xs es ra).row : Nat) : Int) = ((k * 2 ^ j : Nat) : Int) by rw [h1.rowlen], show ((List.length (Blk.mk j b ys fs rb).row : Nat) : Int) = ((k * 2 ^ j : Nat) : Int) by rw [h2.rowlen]] at p
  have q := p.half (Int.natCast_nonneg _) (by rw [joinE_length]; show (es.length + fs.length) % 2 = 0; omega)
  refine ⟨?_, ?_, ?_⟩
  · show (ra ++ rb).length = k * 2 ^ (j + 1)
    rw [List.length_append, l1, l2, Nat.pow_succ, ← Nat.mul_assoc]
    omega
  · show (odds _).length = k
    rw [odds_length, joinE_length, e1, e2]
    omega
  · have q2 := q.more (off_next j)
    have ew : ((2 ^ (j + 1) : Nat) : Int) = 2 * ((2 ^ j : Nat) : Int) := by
      rw [Nat.pow_succ]
      omega
    show PartOk _ _ (((j + 1) * 2 ^ (j + 1) / 2 : Nat) : Int) ((2 ^ (j + 1) : Nat) : Int)
    rw [ew]
    exact q2
theorem cle_rep (n : Nat) (x : Int) : cle (List.replicate n x) x = (n : Int) := by
  unfold cle
  rw [List.filter_eq_self.mpr, List.length_replicate]
  intro a ha
  rw [List.eq_of_mem_replicate ha]
  exact decide_eq_true (Int.le_refl _)
theorem clt_rep (n : Nat) (x : Int) : clt (List.replicate n x) x = 0 := by
  unfold clt
  rw [List.filter_eq_nil_iff.mpr]
  · rfl
  · intro a ha
    rw [List.eq_of_mem_replicate ha]
    simp
/-- a block of like readings -/
theorem BkOk.like {k : Nat} (hk : 1 ≤ k) (j : Nat) (a : Addr) (xs : List V) (x : Int) : BkOk k ⟨j, a, xs, List.replicate k (x, ((k * 2 ^ j : Nat) : Int) - 1, 0), List.replicate (k * 2 ^ j) x⟩ := by
  have hp : 1 ≤ k * 2 ^ j := Nat.mul_pos hk (Nat.pow_pos (by decide))
  refine ⟨List.length_replicate, List.length_replicate, ?_, ?_, ?_, fun e he => ?low⟩
  case low =>
    rw [List.eq_of_mem_replicate he]
    refine ⟨by show 0 ≤ ((k * 2 ^ j : Nat) : Int) - 1; omega, ?_⟩
    show (0 : Int) < ((List.replicate (k * 2 ^ j) x).length : Int)
    rw [List.length_replicate]
    omega
  · show List.Pairwise _ (List.replicate k _)
    rw [List.pairwise_replicate]
    exact .inr (Int.le_refl _)
  · intro e he
    rw [List.eq_of_mem_replicate he]
    refine ⟨?_, ?_, ?_⟩
    · show x ∈ List.replicate (k * 2 ^ j) x
      exact List.mem_replicate.mpr ⟨by omega, rfl⟩
    · show ((k * 2 ^ j : Nat) : Int) - 1 ≤ cle (List.replicate (k * 2 ^ j) x) x - 1
      rw [cle_rep]
      exact Int.le_refl _
    · show clt (List.replicate (k * 2 ^ j) x) x ≤ 0
      rw [clt_rep]
      exact Int.le_refl _
  · show AG (List.replicate k (x, ((k * 2 ^ j : Nat) : Int) - 1, 0)) ((List.replicate (k * 2 ^ j) x).length : Int) _ _
    rw [List.length_replicate]
    intro c c' hc hc'
    rw [List.length_replicate] at hc hc'
    have g : ∀ i, i < k → (List.replicate k (x, ((k * 2 ^ j : Nat) : Int) - 1, (0 : Int)))[i]? = some (x, ((k * 2 ^ j : Nat) : Int) - 1, 0) := fun i hi => by
      rw [List.getElem?_replicate, if_pos hi]
    have nn : (0 : Int) ≤ ((c' - c : Nat) : Int) * ((2 ^ j : Nat) : Int) := Int.mul_nonneg (Int.natCast_nonneg _) (Int.natCast_nonneg _)
    have hup : upC (List.replicate k (x, ((k * 2 ^ j : Nat) : Int) - 1, (0 : Int))) ((k * 2 ^ j : Nat) : Int) c' = if c' < k then 0 else ((k * 2 ^ j : Nat) : Int) := by
      split
      · rename_i h
        exact upC_some (g c' h)
      · exact upC_end (by rw [List.length_replicate]; omega)
    have hlo : loC (List.replicate k (x, ((k * 2 ^ j : Nat) : Int) - 1, (0 : Int))) c = if c = 0 then 0 else ((k * 2 ^ j : Nat) : Int) := by
      cases c with
      | zero => rfl
      | succ c =>
        rw [loC_succ (g c (by omega)), if_neg (by omega)]
        show ((k * 2 ^ j : Nat) : Int) - 1 + 1 = _
        omega
    show upC (List.replicate k (x, ((k * 2 ^ j : Nat) : Int) - 1, (0 : Int))) ((k * 2 ^ j : Nat) : Int) c' - loC (List.replicate k (x, ((k * 2 ^ j : Nat) : Int) - 1, (0 : Int))) c ≤ ((j * 2 ^ j / 2 : Nat) : Int) + ((c' - c : Nat) : Int) * ((2 ^ j : Nat) : Int)
    rw [hup, hlo]
    by_cases h0 : c = 0
    · subst h0
      rw [if_pos rfl]
      split
      · omega
      · have : c' = k := by omega
        subst this
        have e : ((c' - 0 : Nat) : Int) * ((2 ^ j : Nat) : Int) = ((c' * 2 ^ j : Nat) : Int) := by
          rw [Nat.sub_zero, Int.natCast_mul]
        omega
    · rw [if_neg h0]
      split <;> omega
/-! ### exact ones -/
def srtI (l : List Int) : List Int := l.mergeSort fun a b => decide (a ≤ b)
theorem srtI_perm (l : List Int) : (srtI l).Perm l := List.mergeSort_perm _ _
theorem srtI_sorted (l : List Int) : (srtI l).Pairwise (· ≤ ·) := by
  have := List.pairwise_mergeSort (le := fun a b : Int => decide (a ≤ b)) (fun a b c h1 h2 => decide_eq_true (Int.le_trans (of_decide_eq_true h1) (of_decide_eq_true h2))) (fun a b => by
    rcases Int.le_total a b with h | h <;> simp [h]) l
  exact this.imp fun h => of_decide_eq_true h
theorem srt_uniq {a b : List Int} (p : a.Perm b) (ha : a.Pairwise (· ≤ ·)) (hb : b.Pairwise (· ≤ ·)) : a = b :=
  p.eq_of_pairwise (fun _ _ _ _ h1 h2 => Int.le_antisymm h1 h2) ha hb
theorem exactE_length (row : List Int) : (exactE row).length = row.length := by unfold exactE; simp
theorem exactE_get {row : List Int} {i : Nat} {x : Int} (h : row[i]? = some x) : (exactE row)[i]? = some (x, (i : Int), (i : Int)) := by
  unfold exactE
  rw [List.getElem?_mapIdx, h]
  rfl
theorem exactE_mem {row : List Int} {e : Ent} (h : e ∈ exactE row) : ∃ (i : Nat) (x : Int), row[i]? = some x ∧ e = (x, (i : Int), (i : Int)) := by
  unfold exactE at h
  obtain ⟨i, hi, rfl⟩ := List.mem_mapIdx.mp h
  exact ⟨i, row[i], List.getElem?_eq_getElem hi, rfl⟩
theorem PartOk.exact (row : List Int) : PartOk (exactE (srtI row)) row 0 1 := by
  have hs := srtI_sorted row
  have hp := srtI_perm row
  refine ⟨?_, ?_, ?_, fun e he => ?low⟩
  case low =>
    obtain ⟨i, x, hx, rfl⟩ := exactE_mem he
    have hi := (List.getElem?_eq_some_iff.mp hx).1
    rw [hp.length_eq] at hi
    exact ⟨by show (0 : Int) ≤ (i : Int); omega, by show (i : Int) < _; omega⟩
  · show List.Pairwise _ (exactE (srtI row))
    rw [List.pairwise_iff_getElem]
    intro i j hi hj hij
    rw [exactE_length] at hi hj
    have h1 := exactE_get (List.getElem?_eq_getElem hi)
    have h2 := exactE_get (List.getElem?_eq_getElem hj)
    rw [List.getElem?_eq_getElem (by rw [exactE_length]; exact hi)] at h1
    rw [List.getElem?_eq_getElem (by rw [exactE_length]; exact hj)] at h2
    rw [Option.some.inj h1, Option.some.inj h2]
    exact (List.pairwise_iff_getElem.mp hs) i j hi hj hij
  · intro e he
    obtain ⟨i, x, hx, rfl⟩ := exactE_mem he
    obtain ⟨h1, h2⟩ := place_true hs hx
    exact TrueE.perm hp ⟨List.mem_of_getElem? hx, h1, h2⟩
  · rw [← hp.length_eq]
    exact AG.exact _
theorem BkOk.exact {k : Nat} {loose : List Int} (h : loose.length = k) (a : Addr) (xs : List V) : BkOk k ⟨0, a, xs, exactE (srtI loose), loose⟩ := by
  refine ⟨?_, ?_, ?_⟩
  · show loose.length = k * 2 ^ 0
    omega
  · show (exactE (srtI loose)).length = k
    rw [exactE_length, (srtI_perm loose).length_eq, h]
  · have e := PartOk.exact loose
    rw [show (0 : Int) = ((0 * 2 ^ 0 / 2 : Nat) : Int) by decide, show (1 : Int) = ((2 ^ 0 : Nat) : Int) by decide] at e
    exact e
/-! ### what is kept -/
/-- a part: entries, their row, how far off, the width -/
structure Part where
  es : List Ent
  row : List Int
  g : Int
  w : Int
def keepF (p : List Ent × Int) (q : List Ent × Int) : List Ent × Int := (joinE p.1 p.2 q.1 q.2, p.2 + q.2)
def keepL (ps : List Part) : List Ent × Int := (ps.map fun p => (p.es, (p.row.length : Int))).foldl keepF ([], 0)
theorem keepF_fold (W : Int) (hW : 0 ≤ W) : ∀ (ps : List Part) (es : List Ent) (row : List Int) (g : Int), PartOk es row g W → (∀ p ∈ ps, PartOk p.es p.row p.g p.w ∧ p.w ≤ W) →
    PartOk ((ps.map fun p => (p.es, (p.row.length : Int))).foldl keepF (es, (row.length : Int))).1 (row ++ ps.flatMap (·.row)) (g + (ps.map (·.g)).sum) W ∧
    ((ps.map fun p => (p.es, (p.row.length : Int))).foldl keepF (es, (row.length : Int))).1.length = es.length + (ps.map fun p => p.es.length).sum ∧
    ((ps.map fun p => (p.es, (p.row.length : Int))).foldl keepF (es, (row.length : Int))).2 = ((row ++ ps.flatMap (·.row)).length : Int) := by
  intro ps
  induction ps with
  | nil =>
    intro es row g h _
    simp
    exact h
  | cons p r ih =>
    intro es row g h hp
    obtain ⟨h1, h2⟩ := hp p List.mem_cons_self
    have j := h.join hW (h1.wide h2)
    have k := ih (joinE es row.length p.es p.row.length) (row ++ p.row) (g + p.g) j fun q hq => hp q (List.mem_cons_of_mem _ hq)
    rw [List.length_append, Int.natCast_add] at k
    obtain ⟨k1, k2, k3⟩ := k
    rw [List.map_cons, List.foldl_cons, List.map_cons, List.sum_cons, List.flatMap_cons, List.map_cons, List.sum_cons]
    refine ⟨?_, ?_, ?_⟩
    · rw [← List.append_assoc, ← Int.add_assoc]
      exact k1
    · rw [← Nat.add_assoc, ← joinE_length es p.es row.length p.row.length]
      exact k2
    · rw [← List.append_assoc]
      exact k3
/-- the parts of a cup: the loose ones, the blocks by their places -/
def sortB (bs : List Blk) : List Blk := bs.mergeSort fun a b => decide (a.j ≤ b.j)
theorem sortB_perm (bs : List Blk) : (sortB bs).Perm bs := List.mergeSort_perm _ _
theorem sortB_lt {bs : List Blk} (nd : (bs.map (·.j)).Nodup) : ((sortB bs).map (·.j)).Pairwise (· < ·) := by
  have h := List.pairwise_mergeSort (le := fun a b : Blk => decide (a.j ≤ b.j)) (fun a b c h1 h2 => decide_eq_true (Nat.le_trans (of_decide_eq_true h1) (of_decide_eq_true h2))) (fun a b => by
    rcases Nat.le_total a.j b.j with h | h <;> simp [h]) bs
  have n2 : ((sortB bs).map (·.j)).Pairwise (· ≠ ·) := ((sortB_perm bs).map _).nodup_iff.mpr nd
  have h2 : ((sortB bs).map (·.j)).Pairwise (· ≤ ·) := List.pairwise_map.mpr (h.imp fun z => of_decide_eq_true z)
  exact (h2.and n2).imp fun ⟨a, b⟩ => by omega
def partB (B : Blk) : Part := ⟨B.es, B.row, ((B.j * 2 ^ B.j / 2 : Nat) : Int), ((2 ^ B.j : Nat) : Int)⟩
def partsC (loose : List Int) (bs : List Blk) : List Part := ⟨exactE (srtI loose), loose, 0, 1⟩ :: (sortB bs).map partB
def keptC (loose : List Int) (bs : List Blk) : List Ent := (keepL (partsC loose bs)).1
theorem parts_ok {k : Nat} {loose : List Int} {bs : List Blk} (ok : ∀ B ∈ bs, BkOk k B) : ∀ p ∈ partsC loose bs, PartOk p.es p.row p.g p.w := by
  intro p hp
  rcases List.mem_cons.mp hp with rfl | hp
  · exact PartOk.exact loose
  · obtain ⟨B, hB, rfl⟩ := List.mem_map.mp hp
    exact (ok B ((sortB_perm bs).mem_iff.mp hB)).ok
theorem parts_wide (ps : List Part) : ∃ W : Int, 0 ≤ W ∧ ∀ p ∈ ps, p.w ≤ W := by
  induction ps with
  | nil => exact ⟨0, Int.le_refl _, fun p h => absurd h List.not_mem_nil⟩
  | cons p r ih =>
    obtain ⟨W, h0, h⟩ := ih
    refine ⟨max W p.w, by omega, fun q hq => ?_⟩
    rcases List.mem_cons.mp hq with rfl | hq
    · omega
    · have := h q hq
      omega
/-- how many readings, how many blocks, how far off -/
structure Sizes (k n : Nat) (loose : List Int) (bs : List Blk) : Prop where
  ones : (sortB bs).map (·.j) = onesD (n / k) 0
  rest : n % k = loose.length
  sum : loose.length + k * (bs.map fun B => 2 ^ B.j).sum = n
theorem flat_len {k : Nat} : ∀ {bs : List Blk}, (∀ B ∈ bs, BkOk k B) → (bs.flatMap (·.row)).length = k * (bs.map fun B => 2 ^ B.j).sum
  | [], _ => rfl
  | B :: r, ok => by
    rw [List.flatMap_cons, List.length_append, flat_len (bs := r) fun X hX => ok X (List.mem_cons_of_mem _ hX), (ok B List.mem_cons_self).rowlen, List.map_cons, List.sum_cons, Nat.mul_add]
theorem sizes_of {k : Nat} {loose row : List Int} {bs : List Blk} (hk : 1 ≤ k) (ok : ∀ B ∈ bs, BkOk k B) (nd : (bs.map (·.j)).Nodup) (few : loose.length < k) (p : (loose ++ bs.flatMap (·.row)).Perm row) : Sizes k row.length loose bs := by
  have e := p.length_eq
  rw [List.length_append, flat_len ok] at e
  have h1 : row.length / k = (bs.map fun B => 2 ^ B.j).sum := by
    rw [← e, Nat.add_comm, Nat.mul_add_div (by omega), Nat.div_eq_of_lt few, Nat.add_zero]
  have h2 : row.length % k = loose.length := by
    rw [← e, Nat.add_mul_mod_self_left, Nat.mod_eq_of_lt few]
  refine ⟨?_, h2, e⟩
  refine ones_uniq _ _ 0 _ (Nat.le_refl _) (sortB_lt nd) (fun _ _ => Nat.zero_le _) ?_
  rw [h1, List.map_map]
  have : (List.map ((fun p => 2 ^ (p - 0)) ∘ fun x => x.j) (sortB bs)).sum = ((sortB bs).map fun B => 2 ^ B.j).sum := rfl
  rw [this]
  exact sum_perm _ (sortB_perm bs)
theorem Sizes.off {k n : Nat} {loose : List Int} {bs : List Blk} (s : Sizes k n loose bs) : ((partsC loose bs).map (·.g)).sum = ((offN n k : Nat) : Int) := by
  rw [offN_ones, ← s.ones]
  unfold partsC
  rw [List.map_cons, List.sum_cons, List.map_map, List.map_map]
  show (0 : Int) + _ = _
  rw [Int.zero_add]
  generalize sortB bs = l
  induction l with
  | nil => rfl
  | cons B r ih =>
    rw [List.map_cons, List.sum_cons, List.map_cons, List.sum_cons, ih, Int.natCast_add]
    rfl
theorem Sizes.bnd {k n : Nat} {loose : List Int} {bs : List Blk} (s : Sizes k n loose bs) (ok : ∀ B ∈ bs, BkOk k B) : ((partsC loose bs).map fun p => p.es.length).sum = bndN n k := by
  rw [bndN_ones, ← s.ones, s.rest]
  unfold partsC
  rw [List.map_cons, List.sum_cons, List.map_map]
  show (exactE (srtI loose)).length + _ = _
  rw [exactE_length, (srtI_perm loose).length_eq, List.length_map]
  congr 1
  have h : ∀ B ∈ sortB bs, B.es.length = k := fun B hB => (ok B ((sortB_perm bs).mem_iff.mp hB)).len
  generalize sortB bs = l at h
  induction l with
  | nil => rfl
  | cons B r ih =>
    rw [List.map_cons, List.sum_cons, List.length_cons, ih fun X hX => h X (List.mem_cons_of_mem _ hX), Nat.mul_succ]
    have := h B List.mem_cons_self
    show B.es.length + _ = _
    omega
theorem flat_perm {bs cs : List Blk} (p : bs.Perm cs) : (bs.flatMap fun B => B.row).Perm (cs.flatMap fun B => B.row) := p.flatMap_right _
/-- all that holds of what is kept -/
theorem kept_all {k : Nat} {loose row : List Int} {bs : List Blk} (hk : 1 ≤ k) (ok : ∀ B ∈ bs, BkOk k B) (nd : (bs.map (·.j)).Nodup) (few : loose.length < k) (p : (loose ++ bs.flatMap (·.row)).Perm row) :
    ∃ W, PartOk (keptC loose bs) row ((offN row.length k : Nat) : Int) W ∧ (keptC loose bs).length = bndN row.length k ∧ (keepL (partsC loose bs)).2 = (row.length : Int) := by
  obtain ⟨W, h0, hW⟩ := parts_wide (partsC loose bs)
  have s := sizes_of hk ok nd few p
  have z : PartOk [] [] 0 W := ⟨List.Pairwise.nil, fun e h => absurd h List.not_mem_nil, fun c c' h1 h2 => by
    have e1 : c = 0 := by simpa using h1
    have e2 : c' = 0 := by simpa using h2
    subst e1 e2
    show upC [] (0 : Int) 0 - loC [] 0 ≤ _
    show (0 : Int) - 0 ≤ _
    simp, fun e h => absurd h List.not_mem_nil⟩
  obtain ⟨f1, f2, f3⟩ := keepF_fold W h0 (partsC loose bs) [] [] 0 z fun q hq => ⟨parts_ok ok q hq, hW q hq⟩
  have pr : (([] : List Int) ++ (partsC loose bs).flatMap fun P => P.row).Perm row := by
    unfold partsC
    rw [List.nil_append, List.flatMap_cons, List.flatMap_map]
    exact (List.Perm.append_left _ (flat_perm (sortB_perm bs))).trans p
  rw [s.off, Int.zero_add] at f1
  rw [s.bnd ok] at f2
  refine ⟨W, ⟨f1.rise, fun e he => TrueE.perm pr (f1.tru e he), ?_, fun e he => by
    have := f1.low e he
    rw [pr.length_eq] at this
    exact this⟩, ?_, ?_⟩
  · have a := f1.ag
    rw [pr.length_eq] at a
    exact a
  · have : (keptC loose bs).length = [].length + bndN row.length k := f2
    simpa using this
  · rw [pr.length_eq] at f3
    exact f3
end Own

/-! The cup as the program makes it: its object, loose readings, blocks. -/
namespace Own
open PySem PySem.Spec PyProof.Rows L2 LamX
/-! ### what parts tell -/
theorem PartOk.pair {es : List Ent} {row : List Int} {g w : Int} (h : PartOk es row g w) (x : Int) :
    loC es (noLess es x) ≤ clt row x ∧ clt row x ≤ upC es (row.length : Int) (noLess es x) ∧ upC es (row.length : Int) (noLess es x) - loC es (noLess es x) ≤ g := by
  refine ⟨?_, ?_, AG.pair h.rise h.ag x⟩
  · have e := addLeast_lo h.rise (x - 1)
    rw [show x - 1 + 1 = x by omega] at e
    rw [← e]
    have a := addLeast_true (r := x - 1) h.tru
    have b : cle row (x - 1) = clt row x := by
      unfold cle clt
      congr 2
      apply List.filter_congr
      intro y _
      by_cases hy : y < x
      · rw [decide_eq_true hy, decide_eq_true (by omega)]
      · rw [decide_eq_false hy, decide_eq_false (by omega)]
    omega
  · rw [← addMost_up h.rise]
    exact addMost_true h.tru (Int.le_refl _)
theorem PartOk.best {es : List Ent} {row : List Int} {g w : Int} (h : PartOk es row g w) (hg : 0 ≤ g) (hne : es ≠ []) {p : Int} (h0 : 0 ≤ p) (hp : p < (row.length : Int)) {e : Ent} (he : e ∈ es) (hb : ∀ e' ∈ es, farZ p e.2.1 e.2.2 ≤ farZ p e'.2.1 e'.2.2) :
    e.1 ∈ row ∧ clt row e.1 - g ≤ p ∧ p ≤ cle row e.1 - 1 + g := by
  obtain ⟨e', he', h1, h2⟩ := AG.near hg h.ag hne h0 hp
  have k := hb e' he'
  obtain ⟨t1, t2, t3⟩ := h.tru e he
  have k1 : farZ p e'.2.1 e'.2.2 ≤ g := by
    unfold farZ
    split <;> omega
  have k2 : p - e.2.1 ≤ farZ p e.2.1 e.2.2 ∧ e.2.2 - p ≤ farZ p e.2.1 e.2.2 := by
    unfold farZ
    split <;> omega
  exact ⟨t1, by omega, by omega⟩
/-! ### the object -/
structure BkAt (H : Hp) (B : Blk) : Prop where
  at_ : H B.a = some (.lst B.xs)
  ents : EntsAre H B.xs B.es
abbrev fsC (k : Nat) (n : Int) (l d : Addr) : List (Str × V) := [("keep", .int (k : Int)), ("_count", .int n), ("_loose", .ref l), ("_blocks", .ref d)]
abbrev kvB (bs : List Blk) : List (Key × V) := bs.map fun B => ((Sum.inl (B.j : Int) : Key), V.ref B.a)
structure CupIn (C : Addr) (H : Hp) (a dx l d : Addr) (k : Nat) (n : Int) (loose : List Int) (bs : List Blk) : Prop where
  ins : H a = some (.ins C dx (fsC k n l d))
  own : H dx = some (.own a)
  lo : H l = some (.lst (loose.map V.int))
  di : H d = some (.dK (kvB bs))
  ok : ∀ B ∈ bs, BkOk k B
  at_ : ∀ B ∈ bs, BkAt H B
  nd : (bs.map (·.j)).Nodup
  sep : ∀ B ∈ bs, B.a ≠ l
  k1 : 1 ≤ k
  k64 : k ≤ 64
  few : loose.length < k
abbrev BaseS (a dx l d : Addr) : AS := fun b => b = a ∨ b = dx ∨ b = l ∨ b = d
def bkD (B : Blk) : AS := fun b => b = B.a ∨ V.ref b ∈ B.xs
def bksD (bs : List Blk) : AS := fun b => ∃ B ∈ bs, bkD B b
abbrev CupD (a dx l d : Addr) (bs : List Blk) : AS := fun b => BaseS a dx l d b ∨ bksD bs b
def CupRl (C : Addr) : CupRel := fun H a k row es S D => ∃ (dx l d : Addr) (loose : List Int) (bs : List Blk), CupIn C H a dx l d k (row.length : Int) loose bs ∧ (loose ++ bs.flatMap (·.row)).Perm row ∧ es = keptC loose bs ∧ S = BaseS a dx l d ∧ D = CupD a dx l d bs
theorem EntsAre.refs {H : Hp} {xs : List V} {es : List Ent} (h : EntsAre H xs es) : ∀ v ∈ xs, ∃ t e, v = .ref t ∧ e ∈ es ∧ H t = some (.tup [.int e.1, .int e.2.1, .int e.2.2]) := by
  intro v hv
  obtain ⟨i, hi, rfl⟩ := List.getElem_of_mem hv
  obtain ⟨e, he, t, h1, h2⟩ := eachIs_get h (List.getElem?_eq_getElem hi)
  exact ⟨t, e, h1, List.mem_of_getElem? he, h2⟩
theorem BkAt.keep {H H' : Hp} {B : Blk} (h : BkAt H B) (e : ∀ b o, bkD B b → H b = some o → H' b = some o) : BkAt H' B := by
  refine ⟨e _ _ (.inl rfl) h.at_, ?_⟩
  have key : ∀ (xs : List V) (es : List Ent), (∀ v ∈ xs, v ∈ B.xs) → EntsAre H xs es → EntsAre H' xs es := by
    intro xs es hs hh
    induction hh with
    | nil => exact .nil
    | cons r t ih =>
      obtain ⟨t0, h1, h2⟩ := r
      refine .cons ⟨t0, h1, e _ _ (.inr ?_) h2⟩ (ih fun v hv => hs v (List.mem_cons_of_mem _ hv))
      rw [← h1]
      exact hs _ List.mem_cons_self
  exact key _ _ (fun v h => h) h.ents
theorem BkAt.old {H : Hp} {B : Blk} (h : BkAt H B) : ∀ b, bkD B b → ∃ o, H b = some o ∧ ∀ ps, o ≠ .tbl ps := by
  rintro b (rfl | hb)
  · exact ⟨_, h.at_, fun ps z => nomatch z⟩
  · obtain ⟨t, e, h1, h2, h3⟩ := h.ents.refs _ hb
    cases h1
    exact ⟨_, h3, fun ps z => nomatch z⟩
/-- what a block stands on is neither the cup's object, its dict of fields, its list of loose ones nor its dict of blocks -/
theorem CupIn.apart {C : Addr} {H : Hp} {a dx l d : Addr} {k : Nat} {n : Int} {loose : List Int} {bs : List Blk} (c : CupIn C H a dx l d k n loose bs) : ∀ b, bksD bs b → ¬ BaseS a dx l d b := by
  rintro b ⟨B, hB, hb⟩ hs
  have ha := c.at_ B hB
  rcases hb with rfl | hb
  · rcases hs with e | e | e | e
    · have := ha.at_
      rw [e, c.ins] at this
      cases this
    · have := ha.at_
      rw [e, c.own] at this
      cases this
    · exact c.sep B hB e
    · have := ha.at_
      rw [e, c.di] at this
      cases this
  · obtain ⟨t, e, h1, h2, h3⟩ := ha.ents.refs _ hb
    cases h1
    rcases hs with e | e | e | e
    · rw [e, c.ins] at h3
      cases h3
    · rw [e, c.own] at h3
      cases h3
    · rw [e, c.lo] at h3
      cases h3
    · rw [e, c.di] at h3
      cases h3
theorem CupIn.frame {C : Addr} {H H' : Hp} {a dx l d : Addr} {k : Nat} {n : Int} {loose : List Int} {bs : List Blk} (c : CupIn C H a dx l d k n loose bs) (e : ∀ b o, CupD a dx l d bs b → H b = some o → H' b = some o) : CupIn C H' a dx l d k n loose bs :=
  ⟨e _ _ (.inl (.inl rfl)) c.ins, e _ _ (.inl (.inr (.inl rfl))) c.own, e _ _ (.inl (.inr (.inr (.inl rfl)))) c.lo, e _ _ (.inl (.inr (.inr (.inr rfl)))) c.di, c.ok, fun B hB => (c.at_ B hB).keep fun b o hb => e b o (.inr ⟨B, hB, hb⟩), c.nd, c.sep, c.k1, c.k64, c.few⟩
theorem CupIn.ext {C : Addr} {H H' : Hp} {a dx l d : Addr} {k : Nat} {n : Int} {loose : List Int} {bs : List Blk} (c : CupIn C H a dx l d k n loose bs) (e : ExtN H H') : CupIn C H' a dx l d k n loose bs := by
  refine c.frame fun b o hb h => e b o h ?_
  rcases hb with (rfl | rfl | rfl | rfl) | ⟨B, hB, hb⟩
  · rw [c.ins] at h; cases h; exact fun ps z => nomatch z
  · rw [c.own] at h; cases h; exact fun ps z => nomatch z
  · rw [c.lo] at h; cases h; exact fun ps z => nomatch z
  · rw [c.di] at h; cases h; exact fun ps z => nomatch z
  · obtain ⟨o', h', nt⟩ := (c.at_ B hB).old b hb
    rw [h] at h'
    cases h'
    exact nt
theorem CupIn.old {C : Addr} {H : Hp} {a dx l d : Addr} {k : Nat} {n : Int} {loose : List Int} {bs : List Blk} (c : CupIn C H a dx l d k n loose bs) : ∀ b, CupD a dx l d bs b → ∃ o, H b = some o ∧ ∀ ps, o ≠ .tbl ps := by
  rintro b ((rfl | rfl | rfl | rfl) | ⟨B, hB, hb⟩)
  · exact ⟨_, c.ins, fun ps z => nomatch z⟩
  · exact ⟨_, c.own, fun ps z => nomatch z⟩
  · exact ⟨_, c.lo, fun ps z => nomatch z⟩
  · exact ⟨_, c.di, fun ps z => nomatch z⟩
  · exact (c.at_ B hB).old b hb
theorem offN_nn (n k : Nat) : (0 : Int) ≤ ((offN n k : Nat) : Int) := Int.natCast_nonneg _
theorem cupKept {C : Addr} {H : Hp} {a dx l d : Addr} {k : Nat} {n : Int} {loose row : List Int} {bs : List Blk} (c : CupIn C H a dx l d k n loose bs) (p : (loose ++ bs.flatMap (·.row)).Perm row) : Kept row k (keptC loose bs) := by
  obtain ⟨W, h1, h2, h3⟩ := kept_all c.k1 c.ok c.nd c.few p
  refine ⟨h1.rise, Nat.le_of_eq h2, h1.tru, fun hne hes => ?_⟩
  have s := sizes_of c.k1 c.ok c.nd c.few p
  have b := s.bnd c.ok
  rw [hes] at h2
  have h2 : 0 = bndN row.length k := h2
  rw [bndN_ones] at h2
  have k1 := c.k1
  have z : (onesD (row.length / k) 0).length = 0 := by
    rcases Nat.eq_zero_or_pos (onesD (row.length / k) 0).length with h | h
    · exact h
    · have := Nat.mul_pos k1 h
      omega
  have hb : bs = [] := by
    rw [← s.ones, List.length_map, (sortB_perm bs).length_eq] at z
    exact List.length_eq_zero_iff.mp z
  have hl : loose = [] := by
    have := s.rest
    exact List.length_eq_zero_iff.mp (by omega)
  subst hb hl
  exact hne (List.Perm.eq_nil p.symm)
theorem cupApi (C : Addr) : CupApi (CupRl C) C where
  inst := by
    rintro H a k row es S D ⟨dx, l, d, loose, bs, c, p, rfl, rfl, rfl⟩
    exact ⟨dx, fsC k (row.length : Int) l d, c.ins, rfl, rfl, rfl, rfl, rfl, rfl, rfl, rfl, rfl⟩
  keep := by
    rintro H a k row es S D ⟨dx, l, d, loose, bs, c, p, rfl, rfl, rfl⟩
    exact ⟨c.k1, c.k64⟩
  kept := by
    rintro H a k row es S D ⟨dx, l, d, loose, bs, c, p, rfl, rfl, rfl⟩
    exact cupKept c p
  frame := by
    rintro H H' a k row es S D ⟨dx, l, d, loose, bs, c, p, rfl, rfl, rfl⟩ e
    exact ⟨dx, l, d, loose, bs, c.frame e, p, rfl, rfl, rfl⟩
  sub := by
    rintro H a k row es S D ⟨dx, l, d, loose, bs, c, p, rfl, rfl, rfl⟩ b hb
    exact .inl hb
  old := by
    rintro H a k row es S D ⟨dx, l, d, loose, bs, c, p, rfl, rfl, rfl⟩ b hb
    exact c.old b hb
  perm := by
    rintro H a k row row' es S D ⟨dx, l, d, loose, bs, c, p, rfl, rfl, rfl⟩ hp
    refine ⟨dx, l, d, loose, bs, ?_, p.trans hp, rfl, rfl, rfl⟩
    rw [← hp.length_eq]
    exact c
/-- the bounds of kept entries are places, or near ones -/
structure CupLow (R : CupRel) : Prop where
  low : ∀ {H a k row es S D}, R H a k row es S D → ∀ e ∈ es, 0 ≤ e.2.1 ∧ e.2.2 < (row.length : Int)
theorem cupLow (C : Addr) : CupLow (CupRl C) where
  low := by
    rintro H a k row es S D ⟨dx, l, d, loose, bs, c, p, rfl, rfl, rfl⟩
    obtain ⟨W, h1, _, _⟩ := kept_all c.k1 c.ok c.nd c.few p
    exact h1.low
end Own

/-! What the program's defs promise. -/
namespace Own
open PySem PySem.Spec PyProof.Rows L2 LamX
abbrev lamQ (x : Str) : Str := x ++ ".<locals>." ++ "<lambda>"
def New (H : Hp) (xs : List V) : Prop := ∀ v ∈ xs, ∀ t, v = .ref t → H t = none
section
variable (K : PySem.W.Frag) (T : List (Addr × Str))
def cpExact : Sp := fun vs H Q _ => ∃ (a : Addr) (ns : List Int), vs = [.ref a] ∧ SqL K H a (ns.map V.int) ∧ ns.length ≤ 20000 ∧
  ∀ H' p xs, Same H H' → H p = none → New H xs → H' p = some (.lst xs) → EntsAre H' xs (exactE (srtI ns)) → Q (.ref p) H'
def cpHalved : Sp := fun vs H Q _ => ∃ (a : Addr) (xs : List V), vs = [.ref a] ∧ SqL K H a xs ∧ ∀ H' p, Same H H' → H p = none → H' p = some (.lst (odds xs)) → Q (.ref p) H'
def cpNoLess : Sp := fun vs H Q _ => ∃ (a : Addr) (xs : List V) (es : List Ent) (r : Int), vs = [.ref a, .int r] ∧ H a = some (.lst xs) ∧ EntsAre H xs es ∧ Rise es ∧ es.length ≤ 20000 ∧ Q (.int ((noLess es r : Nat) : Int)) H
def cpLeastLess : Sp := fun vs H Q _ => ∃ (a : Addr) (xs : List V) (es : List Ent) (r : Int), vs = [.ref a, .int r] ∧ H a = some (.lst xs) ∧ EntsAre H xs es ∧ Rise es ∧ es.length ≤ 20000 ∧ Q (.int (loC es (noLess es r))) H
def cpMostLess : Sp := fun vs H Q _ => ∃ (a : Addr) (xs : List V) (es : List Ent) (many r : Int), vs = [.ref a, .int many, .int r] ∧ H a = some (.lst xs) ∧ EntsAre H xs es ∧ Rise es ∧ es.length ≤ 20000 ∧ Q (.int (upC es many (noLess es r))) H
def cpAheadOf : Sp := fun vs H Q _ => ∃ (a : Addr) (xs : List V) (es : List Ent) (many r : Int), vs = [.ref a, .int many, .int r] ∧ H a = some (.lst xs) ∧ EntsAre H xs es ∧ Rise es ∧ es.length ≤ 20000 ∧
  ∀ H' p, Same H H' → H p = none → H' p = some (.tup [.int (loC es (noLess es r)), .int (upC es many (noLess es r))]) → Q (.ref p) H'
def cpLifted : Sp := fun vs H Q _ => ∃ (a b : Addr) (xs ys : List V) (es fs : List Ent) (more : Int), vs = [.ref a, .ref b, .int more] ∧ H a = some (.lst xs) ∧ H b = some (.lst ys) ∧ EntsAre H xs es ∧ EntsAre H ys fs ∧ Rise fs ∧ es.length ≤ 20000 ∧ fs.length ≤ 20000 ∧
  ∀ H' p zs, Same H H' → H p = none → New H zs → H' p = some (.lst zs) → EntsAre H' zs (liftE es fs more) → Q (.ref p) H'
def cpJoined : Sp := fun vs H Q _ => ∃ (a b : Addr) (xs ys : List V) (es fs : List Ent) (many more : Int), vs = [.ref a, .int many, .ref b, .int more] ∧ Tabs T H ∧ H a = some (.lst xs) ∧ H b = some (.lst ys) ∧ EntsAre H xs es ∧ EntsAre H ys fs ∧ Rise es ∧ Rise fs ∧ es.length ≤ 20000 ∧ fs.length ≤ 20000 ∧
  ∀ H' p zs, ExtN H H' → Tabs T H' → NewN H p → (∀ v ∈ zs, ∀ t, v = .ref t → NewN H t) → H' p = some (.lst zs) → EntsAre H' zs (joinE es many fs more) → Q (.ref p) H'
def cpNearest : Sp := fun vs H Q _ => ∃ (a : Addr) (xs : List V) (es : List Ent) (p : Int), vs = [.ref a, .int p] ∧ Tabs T H ∧ H a = some (.lst xs) ∧ EntsAre H xs es ∧ es ≠ [] ∧
  ∀ H' e, ExtN H H' → Tabs T H' → e ∈ es → (∀ e' ∈ es, farZ p e.2.1 e.2.2 ≤ farZ p e'.2.1 e'.2.2) → Q (.int e.1) H'
def cpOnes : Sp := fun vs H Q _ => ∃ q : Nat, vs = [.int (q : Int)] ∧ q < 2 ^ 1000 ∧ ∀ H' p, Same H H' → H p = none → H' p = some (.lst ((onesD q 0).map fun (j : Nat) => V.int (j : Int))) → Q (.ref p) H'
def cpWhole : Sp := fun vs H Q _ => ∃ (v : V) (lo hi : Int), vs = [v, .int lo, .int hi] ∧ ((∃ i, v = .int i ∧ lo ≤ i ∧ i ≤ hi ∧ Q (.bl true) H) ∨ (BadV lo hi H v ∧ Q (.bl false) H))
def cpReading (BR : Addr) : Sp := fun vs H Q E => ∃ v : V, vs = [v] ∧ ((∃ x, v = .int x ∧ InR x ∧ Q .non H) ∨ (BadV (-1000000000000000000) 1000000000000000000 H v ∧ E (.ref BR) none H))
def cpPlace (BP : Addr) : Sp := fun vs H Q E => ∃ (v : V) (n : Int), vs = [v, .int n] ∧ ((∃ i, v = .int i ∧ 0 ≤ i ∧ i < n ∧ Q .non H) ∨ (BadV 0 (n - 1) H v ∧ E (.ref BP) none H))
/-- a part as a pair of its entries and its count -/
def PartAt (H : Hp) (t : Addr) (q : Part) : Prop := ∃ (pa : Addr) (xs : List V), H t = some (.tup [.ref pa, .int (q.row.length : Int)]) ∧ H pa = some (.lst xs) ∧ EntsAre H xs q.es
def cpParts (C : Addr) : Sp := fun vs H Q _ => ∃ (a dx l d : Addr) (k : Nat) (n : Int) (loose : List Int) (bs : List Blk), vs = [.ref a] ∧ CupIn C H a dx l d k n loose bs ∧ (bs.flatMap (·.row)).length < 2 ^ 300 ∧
  ∀ H' p ts, Same H H' → H p = none → H' p = some (.lst (ts.map V.ref)) → PySem.W.EachIs (PartAt H') ts (partsC loose bs) → Q (.ref p) H'
def cpLike (C : Addr) : Sp := fun vs H Q _ => ∃ (a dx l d : Addr) (k : Nat) (n : Int) (loose : List Int) (bs : List Blk) (j : Nat) (x : Int), vs = [.ref a, .int (j : Int), .int x] ∧ CupIn C H a dx l d k n loose bs ∧ j ≤ 1000 ∧
  ∀ H' p t, Same H H' → H p = none → H t = none → H' t = some (.tup [.int x, .int (((k * 2 ^ j : Nat) : Int) - 1), .int 0]) → H' p = some (.lst (List.replicate k (.ref t))) → Q (.ref p) H'
/-- only what stands at d changes -/
def OnlyN (S : AS) (H H' : Hp) : Prop := Chg S H H'
def cpAddBlock (C : Addr) : Sp := fun vs H Q _ => ∃ (a dx l d : Addr) (k : Nat) (n : Int) (loose : List Int) (bs : List Blk) (B : Blk), vs = [.ref a, .int (B.j : Int), .ref B.a] ∧ Tabs T H ∧ CupIn C H a dx l d k n loose bs ∧ BkOk k B ∧ BkAt H B ∧ B.a ≠ l ∧ (bs.flatMap (·.row)).length + B.row.length < 2 ^ 300 ∧
  ∀ H' bs', Tabs T H' → CupIn C H' a dx l d k n loose bs' → (bs'.flatMap (·.row)).Perm (bs.flatMap (·.row) ++ B.row) → Chg (fun b => b = d) H H' → (∀ b, bksD bs' b → bksD bs b ∨ bkD B b ∨ NewN H b) → Q .non H'
def cpAddLoose (C : Addr) : Sp := fun vs H Q _ => ∃ (a dx l d : Addr) (k : Nat) (n : Int) (loose : List Int) (bs : List Blk) (x : Int), vs = [.ref a, .int x] ∧ Tabs T H ∧ CupIn C H a dx l d k n loose bs ∧ (bs.flatMap (·.row)).length + loose.length + 1 < 2 ^ 300 ∧
  ∀ H' l' loose' bs', Tabs T H' → CupIn C H' a dx l' d k n loose' bs' → (loose' ++ bs'.flatMap (·.row)).Perm (loose ++ bs.flatMap (·.row) ++ [x]) → Chg (BaseS a dx l d) H H' → (l' = l ∨ NewN H l') → (∀ b, bksD bs' b → bksD bs b ∨ NewN H b) → Q .non H'
end
end Own
namespace Own
open PySem PySem.Spec PyProof.Rows L2 LamX
theorem same_mut {H H' : Hp} {p : Addr} {o : HO} (s : Same H H') (h : H p = none) : Same H (upd H' p o) := fun b x e => by
  rw [upd_ne (ne_of_none e h)]
  exact s _ _ e
theorem small20 {n : Nat} (h : n ≤ 20000) : n < sizeLine := Nat.lt_of_le_of_lt h (by decide)
theorem New.nil {H : Hp} : New H [] := fun v h => absurd h List.not_mem_nil
theorem New.snoc {H : Hp} {xs : List V} {u : Addr} (h : New H xs) (hu : H u = none) : New H (xs ++ [.ref u]) := fun v hv t e => by
  rcases List.mem_append.mp hv with hv | hv
  · exact h v hv t e
  · rw [List.mem_singleton.mp hv] at e
    cases e
    exact hu
theorem New.back {H H' : Hp} {xs : List V} (s : Same H H') (h : New H' xs) : New H xs := fun v hv t e => s.free (h v hv t e)
theorem New.app {H : Hp} {xs ys : List V} (h : New H xs) (k : New H ys) : New H (xs ++ ys) := fun v hv t e => by
  rcases List.mem_append.mp hv with hv | hv
  · exact h v hv t e
  · exact k v hv t e
theorem loC_none {es : List Ent} {n : Nat} (h : es[n]? = none) : loC es (n + 1) = 0 := by
  show (match es[n]? with
    | some e => e.2.1 + 1
    | none => 0) = _
  rw [h]
theorem vint_eq {i j : Int} (e : decide (V.int i = V.int j) = true) : i = j := V.int.inj (of_decide_eq_true e)
theorem vint_ne {i j : Int} (e : ¬ decide (V.int i = V.int j) = true) : ¬ i = j := fun z => e (decide_eq_true (congrArg V.int z))
end Own

/-! The dict of blocks, and the cup under change. -/
namespace Own
open PySem PySem.Spec PyProof.Rows L2 LamX
structure CupK (K : PySem.W.Frag) (C : Addr) : Prop where
  cl : Cls K C
  keep : NoAttr K C "keep"
  count : NoAttr K C "_count"
  loose : NoAttr K C "_loose"
  blocks : NoAttr K C "_blocks"
theorem inl_inj {i j : Nat} (h : (Sum.inl (i : Int) : Key) = Sum.inl (j : Int)) : i = j := by
  have := Sum.inl.inj h
  omega
theorem kvB_none : ∀ {bs : List Blk} {j : Nat}, j ∉ bs.map (·.j) → valV (kvB bs) (Sum.inl (j : Int) : Key) = none
  | [], _, _ => rfl
  | B :: r, j, h => by
    have h1 : ¬ ((Sum.inl (B.j : Int) : Key) = Sum.inl (j : Int)) := fun z => h (by rw [← inl_inj z]; exact List.mem_cons_self)
    show valV ((Sum.inl (B.j : Int), V.ref B.a) :: kvB r) _ = none
    rw [valV_neg h1]
    exact kvB_none fun z => h (List.mem_cons_of_mem _ z)
theorem kvB_some : ∀ {bs : List Blk} {B : Blk}, (bs.map (·.j)).Nodup → B ∈ bs → valV (kvB bs) (Sum.inl (B.j : Int) : Key) = some (.ref B.a)
  | [], _, _, h => absurd h List.not_mem_nil
  | A :: r, B, nd, h => by
    rw [List.map_cons, List.nodup_cons] at nd
    show valV ((Sum.inl (A.j : Int), V.ref A.a) :: kvB r) _ = _
    rcases List.mem_cons.mp h with rfl | h
    · exact valV_pos rfl
    · have : ¬ ((Sum.inl (A.j : Int) : Key) = Sum.inl (B.j : Int)) := fun z => nd.1 (by rw [inl_inj z]; exact List.mem_map_of_mem h)
      rw [valV_neg this]
      exact kvB_some nd.2 h
theorem kvB_drop (j : Nat) : ∀ bs : List Blk, dropK (kvB bs) (Sum.inl (j : Int) : Key) = kvB (bs.filter fun B => decide (B.j ≠ j))
  | [] => rfl
  | B :: r => by
    show dropK ((Sum.inl (B.j : Int), V.ref B.a) :: kvB r) _ = _
    by_cases h : B.j = j
    · rw [dropK_pos (by rw [h]), kvB_drop j r, List.filter_cons, if_neg (by simp [h])]
    · rw [dropK_neg (fun z => h (inl_inj z)), kvB_drop j r, List.filter_cons, if_pos (by simp [h])]
      rfl
theorem kvB_put {bs : List Blk} {B : Blk} (h : B.j ∉ bs.map (·.j)) : putK (kvB bs) (Sum.inl (B.j : Int) : Key) (V.ref B.a) = kvB (bs ++ [B]) := by
  rw [putK_new _ (kvB_none h)]
  show kvB bs ++ [_] = (bs ++ [B]).map _
  rw [List.map_append]
  rfl
theorem kvB_keys (bs : List Blk) : (kvB bs).map (·.1) = (bs.map fun B => (B.j : Int)).map Sum.inl := by
  show (bs.map _).map _ = _
  rw [List.map_map, List.map_map]
  rfl
theorem pow_small {j n : Nat} (h : 2 ^ j ≤ n) (hn : n < 2 ^ 300) : j < 300 := by
  rcases Nat.lt_or_ge j 300 with h' | h'
  · exact h'
  · have := Nat.pow_le_pow_right (show 0 < 2 by decide) h'
    omega
theorem row_flat {bs : List Blk} {B : Blk} (h : B ∈ bs) : B.row.length ≤ (bs.flatMap (·.row)).length := by
  induction bs with
  | nil => exact absurd h List.not_mem_nil
  | cons A r ih =>
    rw [List.flatMap_cons, List.length_append]
    rcases List.mem_cons.mp h with rfl | h
    · omega
    · have := ih h
      omega
theorem BkOk.small {k n : Nat} {B : Blk} (hk : 1 ≤ k) (ok : BkOk k B) (h : B.row.length ≤ n) (hn : n < 2 ^ 300) : B.j < 300 := by
  refine pow_small (n := n) ?_ hn
  have e := ok.rowlen
  have := Nat.mul_le_mul_right (2 ^ B.j) hk
  omega
theorem blocks_few {k : Nat} {bs : List Blk} (hk : 1 ≤ k) (ok : ∀ B ∈ bs, BkOk k B) (nd : (bs.map (·.j)).Nodup) (h : (bs.flatMap (·.row)).length < 2 ^ 300) : bs.length ≤ 300 := by
  have e := flat_len ok
  have e2 : (bs.map fun B => 2 ^ B.j).sum < 2 ^ 300 := by
    have := Nat.mul_le_mul_right (bs.map fun B => 2 ^ B.j).sum hk
    omega
  have u := ones_uniq _ (bs.map fun B => 2 ^ B.j).sum 0 ((sortB bs).map (·.j)) (Nat.le_refl _) (sortB_lt nd) (fun _ _ => Nat.zero_le _) (by
    rw [List.map_map]
    exact sum_perm (fun B : Blk => 2 ^ B.j) (sortB_perm bs))
  have l := congrArg List.length u
  rw [List.length_map, (sortB_perm bs).length_eq] at l
  have := ones_len 300 _ 0 e2
  omega
/-- the block of a place -/
theorem kvB_has {bs : List Blk} {j : Nat} (h : j ∈ bs.map (·.j)) : ∃ B ∈ bs, B.j = j := by
  obtain ⟨B, hB, e⟩ := List.mem_map.mp h
  exact ⟨B, hB, e⟩
theorem filter_perm {bs : List Blk} {B : Blk} (nd : (bs.map (·.j)).Nodup) (h : B ∈ bs) : ((bs.filter fun A => decide (A.j ≠ B.j)) ++ [B]).Perm bs := by
  induction bs with
  | nil => exact absurd h List.not_mem_nil
  | cons A r ih =>
    rw [List.map_cons, List.nodup_cons] at nd
    rcases List.mem_cons.mp h with rfl | h
    · rw [List.filter_cons, if_neg (by simp)]
      have : (r.filter fun A => decide (A.j ≠ B.j)) = r := by
        rw [List.filter_eq_self]
        intro A hA
        exact decide_eq_true fun z => nd.1 (by rw [← z]; exact List.mem_map_of_mem hA)
      rw [this]
      exact List.perm_append_comm
    · have : A.j ≠ B.j := fun z => nd.1 (by rw [z]; exact List.mem_map_of_mem h)
      rw [List.filter_cons, if_pos (by simpa using this)]
      exact (ih nd.2 h).cons A
theorem filter_nd {bs : List Blk} (nd : (bs.map (·.j)).Nodup) (p : Blk → Bool) : ((bs.filter p).map (·.j)).Nodup := nd.sublist (List.filter_sublist.map _)
theorem filter_not {bs : List Blk} (j : Nat) : j ∉ (bs.filter fun A => decide (A.j ≠ j)).map (·.j) := by
  intro h
  obtain ⟨B, hB, e⟩ := List.mem_map.mp h
  exact (of_decide_eq_true (List.mem_filter.mp hB).2) e
/-- places of the parts by their keys -/
theorem sort_keys {bs : List Blk} {ys : List Int} (nd : (bs.map (·.j)).Nodup) (p : ys.Perm (bs.map fun B => (B.j : Int))) (s : ys.Pairwise (· ≤ ·)) : ys = (sortB bs).map fun B => (B.j : Int) := by
  refine srt_uniq (p.trans ((sortB_perm bs).map _).symm) s ?_
  have h := (sortB_lt nd)
  rw [List.pairwise_map] at h ⊢
  exact h.imp fun z => by omega
theorem Chg.upd {S : AS} {H : Hp} {p : Addr} {o : HO} (h : S p) : Chg S H (L2.upd H p o) := fun b o' e _ n => by
  rw [upd_ne (fun z : b = p => n (by rw [z]; exact h))]
  exact e
theorem Chg.same {S : AS} {H H' : Hp} (s : Same H H') : Chg S H H' := fun b o e _ _ => s b o e
theorem Chg.refl (S : AS) (H : Hp) : Chg S H H := fun _ _ e _ _ => e
theorem Chg.mono {S S' : AS} {H H' : Hp} (c : Chg S H H') (h : ∀ b, S b → S' b) : Chg S' H H' := fun b o e n u => c b o e n fun z => u (h b z)
theorem Chg.then {S : AS} {H H1 H2 : Hp} (a : Chg S H H1) (b : Chg S H1 H2) : Chg S H H2 := a.trans b fun _ h => .inl h
/-- a part whose list is not the one at L -/
def PartA (L : Addr) (H : Hp) (t : Addr) (q : Part) : Prop := ∃ (pa : Addr) (xs : List V), pa ≠ L ∧ H t = some (.tup [.ref pa, .int (q.row.length : Int)]) ∧ H pa = some (.lst xs) ∧ EntsAre H xs q.es
theorem PartA.same {L : Addr} {H H' : Hp} {t : Addr} {q : Part} (s : Same H H') (h : PartA L H t q) : PartA L H' t q := by
  obtain ⟨pa, xs, h0, h1, h2, h3⟩ := h
  exact ⟨pa, xs, h0, s _ _ h1, s _ _ h2, EntsAre.same s h3⟩
theorem PartA.upd {L : Addr} {H : Hp} {t : Addr} {q : Part} {ys : List V} {o : HO} (hL : H L = some (.lst ys)) (h : PartA L H t q) : PartA L (L2.upd H L o) t q := by
  obtain ⟨pa, xs, h0, h1, h2, h3⟩ := h
  refine ⟨pa, xs, h0, ?_, ?_, EntsAre.upd hL h3⟩
  · rw [upd_ne (ne_of h1 hL (by intro z; cases z))]
    exact h1
  · rw [upd_ne h0]
    exact h2
theorem PartA.part {L : Addr} {H : Hp} {t : Addr} {q : Part} (h : PartA L H t q) : PartAt H t q := by
  obtain ⟨pa, xs, h0, h1, h2, h3⟩ := h
  exact ⟨pa, xs, h1, h2, h3⟩
theorem tabs_upd {T : List (Addr × Str)} {H : Hp} {b : Addr} {o o' : HO} (h : H b = some o) (nt : ∀ ps, o ≠ .tbl ps) (ne : ∀ φ, o ≠ .ext φ) (t : Tabs T H) : Tabs T (L2.upd H b o') := fun q hq => by
  obtain ⟨ps, h1, h2, h3⟩ := t q hq
  have n1 : q.1 ≠ b := fun z => by
    rw [z, h] at h1
    exact nt ps (Option.some.inj h1)
  refine ⟨ps, by rw [upd_ne n1]; exact h1, h2, fun pos cv hc => ?_⟩
  obtain ⟨c, e1, e2⟩ := h3 pos cv hc
  have n2 : c ≠ b := fun z => by
    rw [z, h] at e2
    exact ne _ (Option.some.inj e2)
  exact ⟨c, e1, by rw [upd_ne n2]; exact e2⟩
theorem tabs_lst {T : List (Addr × Str)} {H : Hp} {b : Addr} {xs : List V} {o' : HO} (h : H b = some (.lst xs)) (t : Tabs T H) : Tabs T (L2.upd H b o') := tabs_upd h (fun _ z => nomatch z) (fun _ z => nomatch z) t
theorem tabs_dK {T : List (Addr × Str)} {H : Hp} {b : Addr} {xs : List (Key × V)} {o' : HO} (h : H b = some (.dK xs)) (t : Tabs T H) : Tabs T (L2.upd H b o') := tabs_upd h (fun _ z => nomatch z) (fun _ z => nomatch z) t
theorem tabs_ins {T : List (Addr × Str)} {H : Hp} {b C dx : Addr} {fs : List (Str × V)} {o' : HO} (h : H b = some (.ins C dx fs)) (t : Tabs T H) : Tabs T (L2.upd H b o') := tabs_upd h (fun _ z => nomatch z) (fun _ z => nomatch z) t
theorem newN_not {H : Hp} {b d : Addr} {o : HO} (n : NewN H b) (h : H d = some o) (nt : ∀ ps, o ≠ .tbl ps) : b ≠ d := fun z => by
  rw [← z] at h
  obtain ⟨ps, e⟩ := n o h
  exact nt ps e
/-- blocks beside what changes at d -/
theorem BkAt.put {H : Hp} {B : Blk} {d : Addr} {kvs : List (Key × V)} {o : HO} (h : BkAt H B) (hd : H d = some (.dK kvs)) : BkAt (L2.upd H d o) B :=
  h.keep fun b o' hb e => by
    obtain ⟨o2, e2, _⟩ := h.old b hb
    rw [upd_ne ?_]
    · exact e
    · rintro rfl
      rcases hb with rfl | hb
      · rw [h.at_] at hd
        cases hd
      · obtain ⟨t, x, h1, h2, h3⟩ := h.ents.refs _ hb
        cases h1
        rw [h3] at hd
        cases hd
theorem BkAt.ext {H H' : Hp} {B : Blk} (h : BkAt H B) (e : ExtN H H') : BkAt H' B := ⟨e _ _ h.at_ (fun _ z => nomatch z), h.ents.ext e⟩
theorem odds_mem {α : Type} {l : List α} {x : α} (h : x ∈ odds l) : x ∈ l := (odds_sub l).subset h
/-! ### promises that errors never leave, where errors may -/
theorem FnOk.lift {P : Program} {w : World} {K : PySem.W.Frag} {mg : Str → Option Value} {base : Heap} {CX : CXT} {k : Nat} {f : Addr} {fd : FuncData} {ps : List Str} {sp : Sp} (F : FnOk P w K mg base CX0 k f fd ps sp) : FnOk P w K mg base CX k f fd ps sp :=
  ⟨F.len, fun A outer s H args us vs Q E hr he hb hv hs => codeAny_mono (F.run A outer s H args us vs Q E hr he hb hv hs) fun r s' h => by
    cases r with
    | error e => exact False.elim h
    | ok fl =>
      cases fl with
      | ret u => exact h
      | next => exact h
      | brk => exact h
      | cont => exact h⟩
theorem MetN.mono {P : Program} {w : World} {K : PySem.W.Frag} {mg : Str → Option Value} {base : Heap} {j k : Nat} {C : Addr} {m : Str} {sp : Sp} (c : MetN P w K mg base j C m sp) (h : j ≤ k) : MetN P w K mg base k C m sp :=
  ⟨c.cls, let ⟨f, fd, ps, F, a, b⟩ := c.ex; ⟨f, fd, ps, F.mono h, a, b⟩⟩
/-! ### digits -/
theorem ones_lt {q m : Nat} (h : q < 2 ^ m) : ∀ j ∈ onesD q 0, j < m := by
  intro j hj
  rw [← ones_filter m q 0 h] at hj
  obtain ⟨i, hi, rfl⟩ := List.mem_map.mp hj
  have := (List.mem_filter.mp hi).1
  rw [List.mem_range] at this
  omega
theorem sum_cast : ∀ l : List Nat, (l.map fun (x : Nat) => (x : Int)).sum = ((l.sum : Nat) : Int)
  | [] => rfl
  | x :: r => by
    rw [List.map_cons, List.sum_cons, List.sum_cons, sum_cast r, Int.natCast_add]
theorem div_small {n k : Nat} (h : n < 2 ^ 200) : n / k < 2 ^ 200 := Nat.lt_of_le_of_lt (Nat.div_le_self _ _) h
/-! ### the fold over some of the parts -/
theorem sum_take_le {α : Type} (f : α → Nat) : ∀ (l : List α) (i : Nat), ((l.take i).map f).sum ≤ (l.map f).sum
  | [], i => by simp
  | p :: r, 0 => by simp
  | p :: r, i + 1 => by
    rw [List.take_succ_cons, List.map_cons, List.sum_cons, List.map_cons, List.sum_cons]
    have := sum_take_le f r i
    omega
theorem keep_pre {k : Nat} {loose : List Int} {bs : List Blk} (ok : ∀ B ∈ bs, BkOk k B) (i : Nat) : Rise (keepL ((partsC loose bs).take i)).1 ∧ (keepL ((partsC loose bs).take i)).1.length ≤ ((partsC loose bs).map fun p => p.es.length).sum := by
  obtain ⟨W, h0, hW⟩ := parts_wide (partsC loose bs)
  have z : PartOk [] [] 0 W := ⟨List.Pairwise.nil, fun e h => absurd h List.not_mem_nil, fun c c' h1 h2 => by
    have e1 : c = 0 := by simpa using h1
    have e2 : c' = 0 := by simpa using h2
    subst e1 e2
    show (0 : Int) - 0 ≤ _
    simp, fun e h => absurd h List.not_mem_nil⟩
  obtain ⟨f1, f2, f3⟩ := keepF_fold W h0 ((partsC loose bs).take i) [] [] 0 z fun q hq => ⟨parts_ok ok q (List.mem_of_mem_take hq), hW q (List.mem_of_mem_take hq)⟩
  refine ⟨f1.rise, ?_⟩
  have f2 : (keepL ((partsC loose bs).take i)).1.length = [].length + _ := f2
  rw [f2]
  show 0 + _ ≤ _
  rw [Nat.zero_add]
  exact sum_take_le _ _ _
theorem keepL_snoc (ps : List Part) (p : Part) : keepL (ps ++ [p]) = keepF (keepL ps) (p.es, (p.row.length : Int)) := by
  unfold keepL
  rw [List.map_append, List.foldl_append]
  rfl
theorem bnd_small {n k : Nat} (hk : 1 ≤ k) (h64 : k ≤ 64) (h : n < 2 ^ 200) : bndN n k ≤ 20000 := by
  rw [bndN_ones]
  have h1 := ones_len 200 (n / k) 0 (div_small h)
  have h2 := Nat.mod_lt n (show k > 0 by omega)
  have h3 := Nat.mul_le_mul h64 h1
  omega
theorem part_len {k : Nat} {loose : List Int} {bs : List Blk} (ok : ∀ B ∈ bs, BkOk k B) (few : loose.length < k) : ∀ p ∈ partsC loose bs, p.es.length ≤ k := by
  intro p hp
  rcases List.mem_cons.mp hp with rfl | hp
  · show (exactE (srtI loose)).length ≤ k
    rw [exactE_length, (srtI_perm loose).length_eq]
    omega
  · obtain ⟨B, hB, rfl⟩ := List.mem_map.mp hp
    exact Nat.le_of_eq (ok B ((sortB_perm bs).mem_iff.mp hB)).len
theorem PartAt.ext {H H' : Hp} {t : Addr} {q : Part} (h : PartAt H t q) (e : ExtN H H') : PartAt H' t q := by
  obtain ⟨pa, xs, h1, h2, h3⟩ := h
  exact ⟨pa, xs, e _ _ h1 (fun _ z => nomatch z), e _ _ h2 (fun _ z => nomatch z), h3.ext e⟩
/-! ### a reading's pair, part by part -/
def loP (x : Int) (p : Part) : Int := loC p.es (noLess p.es x)
def upP (x : Int) (p : Part) : Int := upC p.es (p.row.length : Int) (noLess p.es x)
theorem pair_sum (x : Int) : ∀ ps : List Part, (∀ p ∈ ps, PartOk p.es p.row p.g p.w) →
    (ps.map (loP x)).sum ≤ clt (ps.flatMap (·.row)) x ∧ clt (ps.flatMap (·.row)) x ≤ (ps.map (upP x)).sum ∧ (ps.map (upP x)).sum - (ps.map (loP x)).sum ≤ (ps.map (·.g)).sum
  | [], _ => by
    refine ⟨?_, ?_, ?_⟩ <;> simp [clt]
  | p :: r, h => by
    obtain ⟨a1, a2, a3⟩ := (h p List.mem_cons_self).pair x
    obtain ⟨b1, b2, b3⟩ := pair_sum x r fun q hq => h q (List.mem_cons_of_mem _ hq)
    rw [List.flatMap_cons, clt_append, List.map_cons, List.sum_cons, List.map_cons, List.sum_cons, List.map_cons, List.sum_cons]
    unfold loP upP at *
    refine ⟨by omega, by omega, by omega⟩
theorem clt_perm {a b : List Int} (p : a.Perm b) (x : Int) : clt a x = clt b x := by
  unfold clt
  rw [(p.filter _).length_eq]
theorem parts_row {loose row : List Int} {bs : List Blk} (p : (loose ++ bs.flatMap (·.row)).Perm row) : ((partsC loose bs).flatMap fun P => P.row).Perm row := by
  unfold partsC
  rw [List.flatMap_cons, List.flatMap_map]
  exact (List.Perm.append_left _ (flat_perm (sortB_perm bs))).trans p
end Own
namespace Own
open PySem PySem.Spec PyProof.Rows L2 LamX
/-- one step of a cup under change, among others' things (O) -/
structure Grow (H H' : Hp) (S D O S' D' : AS) : Prop where
  chg : Chg S H H'
  s : ∀ b, S' b → S b ∨ NewN H b
  d : ∀ b, D' b → D b ∨ O b ∨ NewN H b
theorem Grow.refl (H : Hp) (S D O : AS) : Grow H H S D O S D := ⟨Chg.refl _ _, fun _ h => .inl h, fun _ h => .inl h⟩
theorem Grow.trans {H H1 H2 : Hp} {S D O S1 D1 S2 D2 : AS} (a : Grow H H1 S D O S1 D1) (b : Grow H1 H2 S1 D1 O S2 D2) (sd : ∀ b, S b → D b) : Grow H H2 S D O S2 D2 := by
  have new : ∀ x, NewN H1 x → S x ∨ NewN H x := fun x n => Classical.byCases (fun q : S x => .inl q) fun q => .inr (newN_of a.chg q n)
  refine ⟨a.chg.trans b.chg a.s, fun x h => (b.s x h).elim (a.s x) (new x), fun x h => ?_⟩
  rcases b.d x h with h | h | h
  · exact a.d x h
  · exact .inr (.inl h)
  · exact (new x h).elim (fun z => .inl (sd x z)) fun z => .inr (.inr z)
theorem Grow.ext {H H1 H2 : Hp} {S D O S1 D1 : AS} (a : Grow H H1 S D O S1 D1) (e : ExtN H1 H2) : Grow H H2 S D O S1 D1 := ⟨a.chg.then (Chg.of e), a.s, a.d⟩
/-- a loose one has come -/
theorem Grow.loose {H H' : Hp} {a dx l l' d : Addr} {bs bs' : List Blk} {O : AS} (ch : Chg (BaseS a dx l d) H H') (hl : l' = l ∨ NewN H l') (hb : ∀ b, bksD bs' b → bksD bs b ∨ NewN H b) : Grow H H' (BaseS a dx l d) (CupD a dx l d bs) O (BaseS a dx l' d) (CupD a dx l' d bs') := by
  have s : ∀ b, BaseS a dx l' d b → BaseS a dx l d b ∨ NewN H b := fun b h => by
    rcases h with rfl | rfl | rfl | rfl
    · exact .inl (.inl rfl)
    · exact .inl (.inr (.inl rfl))
    · rcases hl with rfl | n
      · exact .inl (.inr (.inr (.inl rfl)))
      · exact .inr n
    · exact .inl (.inr (.inr (.inr rfl)))
  refine ⟨ch, s, fun b h => ?_⟩
  rcases h with h | h
  · exact (s b h).elim (fun z => .inl (.inl z)) fun z => .inr (.inr z)
  · exact (hb b h).elim (fun z => .inl (.inr z)) fun z => .inr (.inr z)
/-- a block has come -/
theorem Grow.block {H H' : Hp} {a dx l d : Addr} {bs bs' : List Blk} {B : Blk} {O : AS} (ch : Chg (fun b => b = d) H H') (hb : ∀ b, bksD bs' b → bksD bs b ∨ bkD B b ∨ NewN H b) (ho : ∀ b, bkD B b → O b ∨ NewN H b) : Grow H H' (BaseS a dx l d) (CupD a dx l d bs) O (BaseS a dx l d) (CupD a dx l d bs') := by
  refine ⟨ch.mono fun b h => .inr (.inr (.inr h)), fun b h => .inl h, fun b h => ?_⟩
  rcases h with h | h
  · exact .inl (.inl h)
  · rcases hb b h with h | h | h
    · exact .inl (.inr h)
    · exact (ho b h).elim (fun z => .inr (.inl z)) fun z => .inr (.inr z)
    · exact .inr (.inr h)
theorem CupIn.setN {C : Addr} {H : Hp} {a dx l d : Addr} {k : Nat} {n m : Int} {loose : List Int} {bs : List Blk} (c : CupIn C H a dx l d k n loose bs) : CupIn C (L2.upd H a (.ins C dx (fsC k m l d))) a dx l d k m loose bs := by
  have nX : dx ≠ a := ne_of c.own c.ins (fun z => nomatch z)
  have nL : l ≠ a := ne_of c.lo c.ins (fun z => nomatch z)
  have nD : d ≠ a := ne_of c.di c.ins (fun z => nomatch z)
  refine ⟨upd_same, by rw [upd_ne nX]; exact c.own, by rw [upd_ne nL]; exact c.lo, by rw [upd_ne nD]; exact c.di, c.ok, fun B hB => (c.at_ B hB).keep fun b o hb e => ?_, c.nd, c.sep, c.k1, c.k64, c.few⟩
  rw [upd_ne (fun z => c.apart b ⟨B, hB, hb⟩ (.inl z))]
  exact e
/-- so many like readings, by their digits -/
theorem rep_sum (x : Int) (k : Nat) : ∀ js : List Nat, (js.flatMap fun j => List.replicate (k * 2 ^ j) x) = List.replicate (k * (js.map fun j => 2 ^ j).sum) x
  | [] => by simp
  | j :: r => by
    rw [List.flatMap_cons, rep_sum x k r, List.map_cons, List.sum_cons, Nat.mul_add, List.replicate_append_replicate]
theorem ones_sum : ∀ (n q j : Nat), q ≤ n → ((onesD q j).map fun p => 2 ^ p).sum = 2 ^ j * q := by
  intro n
  induction n with
  | zero =>
    intro q j h
    obtain rfl : q = 0 := by omega
    rw [onesD_zero]
    rfl
  | succ n ih =>
    intro q j h
    by_cases hq : q = 0
    · subst hq
      rw [onesD_zero]
      rfl
    · rw [onesD_pos hq, List.map_append, List.sum_append, ih (q / 2) (j + 1) (by omega), Nat.pow_succ]
      have e : 2 ^ j * 2 * (q / 2) = 2 ^ j * (2 * (q / 2)) := Nat.mul_assoc ..
      rw [e]
      rcases (show q % 2 = 0 ∨ q % 2 = 1 by omega) with z | z
      · rw [if_neg (by omega)]
        have : 2 * (q / 2) = q := by omega
        rw [this]
        simp
      · rw [if_pos z]
        have : q = 2 * (q / 2) + 1 := by omega
        generalize q / 2 = m at this
        subst this
        rw [Nat.mul_add]
        simp
        omega
theorem ones_all (x : Int) (k t : Nat) : (List.replicate (t % k) x ++ (onesD (t / k) 0).flatMap fun j => List.replicate (k * 2 ^ j) x) = List.replicate t x := by
  rw [rep_sum, ones_sum _ _ 0 (Nat.le_refl _), Nat.pow_zero, Nat.one_mul, List.replicate_append_replicate]
  congr 1
  have := Nat.mod_add_div t k
  omega
theorem eachIs_rep {α β : Type} {R : α → β → Prop} {a : α} {b : β} (h : R a b) : ∀ n : Nat, PySem.W.EachIs R (List.replicate n a) (List.replicate n b)
  | 0 => .nil
  | n + 1 => by
    rw [List.replicate_succ, List.replicate_succ]
    exact .cons h (eachIs_rep h n)
theorem Grow.moves {H H' : Hp} {S D S' D' : AS} (g : Grow H H' S D (fun _ => False) S' D') : Moves H H' S D S' D' := ⟨g.chg, g.s, fun b h => (g.d b h).elim .inl fun z => z.elim False.elim .inr⟩
end Own
namespace Own
open PySem PySem.Spec PyProof.Rows L2 LamX
/-- a block beside what a cup changes -/
theorem BkAt.step {C : Addr} {H H' : Hp} {a dx l d : Addr} {k : Nat} {n : Int} {loose : List Int} {bs : List Blk} {B : Blk} (h : BkAt H B) (c : CupIn C H a dx l d k n loose bs) (hl : B.a ≠ l) (ch : Chg (BaseS a dx l d) H H') : BkAt H' B :=
  h.keep fun b o hb e => by
    have ho := h.old b hb
    obtain ⟨o2, e2, nt⟩ := ho
    rw [e] at e2
    cases e2
    refine ch b o e nt ?_
    rcases hb with rfl | hb
    · rintro (z | z | z | z)
      · exact ne_of h.at_ c.ins (fun z => nomatch z) z
      · exact ne_of h.at_ c.own (fun z => nomatch z) z
      · exact hl z
      · exact ne_of h.at_ c.di (fun z => nomatch z) z
    · obtain ⟨t, x, h1, h2, h3⟩ := h.ents.refs _ hb
      cases h1
      rintro (z | z | z | z)
      · exact ne_of h3 c.ins (fun z => nomatch z) z
      · exact ne_of h3 c.own (fun z => nomatch z) z
      · exact ne_of h3 c.lo (fun z => nomatch z) z
      · exact ne_of h3 c.di (fun z => nomatch z) z
/-- a list beside what a cup changes -/
theorem lst_step {C : Addr} {H H' : Hp} {a dx l d p : Addr} {k : Nat} {n : Int} {loose : List Int} {bs : List Blk} {xs : List V} (h : H p = some (.lst xs)) (c : CupIn C H a dx l d k n loose bs) (hl : p ≠ l) (ch : Chg (BaseS a dx l d) H H') : H' p = some (.lst xs) := by
  refine ch _ _ h (fun _ z => nomatch z) ?_
  rintro (z | z | z | z)
  · exact ne_of h c.ins (fun z => nomatch z) z
  · exact ne_of h c.own (fun z => nomatch z) z
  · exact hl z
  · exact ne_of h c.di (fun z => nomatch z) z
theorem tup_step {C : Addr} {H H' : Hp} {a dx l d p : Addr} {k : Nat} {n : Int} {loose : List Int} {bs : List Blk} {xs : List V} (h : H p = some (.tup xs)) (c : CupIn C H a dx l d k n loose bs) (ch : Chg (BaseS a dx l d) H H') : H' p = some (.tup xs) := by
  refine ch _ _ h (fun _ z => nomatch z) ?_
  rintro (z | z | z | z)
  · exact ne_of h c.ins (fun z => nomatch z) z
  · exact ne_of h c.own (fun z => nomatch z) z
  · exact ne_of h c.lo (fun z => nomatch z) z
  · exact ne_of h c.di (fun z => nomatch z) z
theorem ne_new {H : Hp} {p l l' : Addr} {o : HO} (h : H p = some o) (nt : ∀ ps, o ≠ .tbl ps) (hl : p ≠ l) (h' : l' = l ∨ NewN H l') : p ≠ l' := by
  rcases h' with rfl | n
  · exact hl
  · rintro rfl
    exact newN_not n h nt rfl
end Own
namespace Own
open PySem PySem.Spec PyProof.Rows L2 LamX
theorem tabs_start {T : List (Addr × Str)} {H : Hp} (h : ∀ p ∈ T, H p.1 = some (.tbl #[])) : Tabs T H := fun p hp => TabS.nil (h p hp)
end Own

/-! Cups and plain rows side by side, as the laws hold them. -/
namespace Own
open PySem PySem.Spec PyProof.Rows L2 LamX
/-- cups (of rows), and dicts that count the readings (of rd), all the law's own beside what cups change -/
structure Game (R : CupRel) (T : List (Addr × Str)) (n : Nat) (H : Hp) (as : List Addr) (l rl : Addr) (dd : List Addr) (ks : Nat → Nat) (rows rd : Nat → List Int) (es : Nat → List Ent) (S D : Nat → AS) (rs : List DRow) (m b : Nat) : Prop where
  tabs : Tabs T H
  len : as.length = n
  cups : CupsAt R H as ks rows es S D
  ml : Mine n S D H l (.lst (as.map V.ref))
  mr : Mine n S D H rl (.lst (dd.map V.ref))
  md : PySem.W.EachIs (fun d r => Mine n S D H d (.dK (dk r))) dd rs
  dn : dd.length = n
  nd : dd.Nodup
  ro : ∀ j r, rs[j]? = some r → RowOf r (rd j)
  big : ∀ j, j < n → (rows j).length ≤ b
  few : ∃ U : List Int, U.length ≤ m ∧ (∀ j, j < n → ∀ x ∈ rows j, x ∈ U) ∧ ∀ j, j < n → ∀ x ∈ rd j, x ∈ U
section
variable {R : CupRel} {C : Addr} {T : List (Addr × Str)} {n : Nat} {H H' : Hp} {as : List Addr} {l rl : Addr} {dd : List Addr} {ks : Nat → Nat} {rows rd : Nat → List Int} {es : Nat → List Ent} {S D : Nat → AS} {rs : List DRow} {m b : Nat}
theorem Game.rlen (g : Game R T n H as l rl dd ks rows rd es S D rs m b) : rs.length = n := by rw [← g.md.length, g.dn]
theorem Game.same (A : CupApi R C) (g : Game R T n H as l rl dd ks rows rd es S D rs m b) (s : Same H H') : Game R T n H' as l rl dd ks rows rd es S D rs m b :=
  ⟨g.tabs.ext s, g.len, g.cups.same A s, g.ml.same s, g.mr.same s, g.md.mono fun _ _ z => z.same s, g.dn, g.nd, g.ro, g.big, g.few⟩
theorem Mine.ext {n : Nat} {S D : Nat → AS} {H H' : Hp} {b : Addr} {o : HO} (m : Mine n S D H b o) (s : ExtN H H') : Mine n S D H' b o := ⟨s _ _ m.at_ m.nt, m.nt, m.noS, m.noD⟩
theorem Game.ext (A : CupApi R C) (g : Game R T n H as l rl dd ks rows rd es S D rs m b) (s : ExtN H H') (t : Tabs T H') : Game R T n H' as l rl dd ks rows rd es S D rs m b :=
  ⟨t, g.len, g.cups.ext A fun x o ⟨i, hi, z⟩ e => by
    obtain ⟨o', e', nt⟩ := A.old (g.cups.at_ i _ (List.getElem?_eq_getElem hi)) x z
    rw [e] at e'
    cases e'
    exact s x o e nt, g.ml.ext s, g.mr.ext s, g.md.mono fun _ _ z => z.ext s, g.dn, g.nd, g.ro, g.big, g.few⟩
/-- a cup is asked -/
theorem Game.ask (A : CupApi R C) (g : Game R T n H as l rl dd ks rows rd es S D rs m b) {i : Nat} {a : Addr} (hi : as[i]? = some a) {S' D' : AS} (r : R H' a (ks i) (rows i) (es i) S' D') (mv : Moves H H' (S i) (D i) S' D') (t : Tabs T H') :
    ∃ S2 D2, Game R T n H' as l rl dd ks rows rd es S2 D2 rs m b ∧ ∀ b o, Mine n S D H b o → Mine n S2 D2 H' b o := by
  obtain ⟨S2, D2, c2, k, _, _⟩ := g.cups.asked A hi r mv
  rw [g.len] at k
  exact ⟨S2, D2, ⟨t, g.len, c2, k _ _ g.ml, k _ _ g.mr, g.md.mono fun _ _ z => k _ _ z, g.dn, g.nd, g.ro, g.big, g.few⟩, k⟩
theorem comeRows_lenN {d : Deed} (dk : DeedOk d) {b : Nat} (hb : 2 ^ 40 ≤ b) (hc : d.cup < n) (hs : ∀ c s, d = .pour c s → s < n) (h : ∀ j, j < n → (rows j).length ≤ b) : ∀ j, j < n → (comeRows rows d j).length ≤ 4 * b := by
  intro j hj
  have hj' := h j hj
  cases d with
  | pour c s =>
    have a1 := h c hc
    have a2 := h s (hs c s rfl)
    show (setAt rows c (rows c ++ rows s) j).length ≤ _
    unfold setAt
    split
    · rw [List.length_append]; omega
    · omega
  | add c x n step t =>
    obtain ⟨h1, h2, h3, _⟩ := dk.ok
    have a1 := h c hc
    show (setAt rows c (comeRow (rows c) x n step t.toNat) j).length ≤ _
    unfold setAt
    split
    · rw [comeRow_length]
      have : n * t.toNat ≤ 14 * 1000000000 := Nat.mul_le_mul h2 (by omega)
      omega
    · omega
/-- a deed is done to the cups -/
theorem Game.done (g : Game R T n H as l rl dd ks rows rows es S D rs m b) {d : Deed} (dk : DeedOk d) (hc : d.cup < n) (hs : ∀ c s, d = .pour c s → s < n) (hb : 2 ^ 40 ≤ b) {es' : Nat → List Ent} {S' D' : Nat → AS} (t : Tabs T H') (c : CupsAt R H' as ks (comeRows rows d) es' S' D')
    (ch : Chg (Un n S) H H') (un : ∀ b, Un n S' b → Un n S b ∨ NewN H b) (ud : ∀ b, Un n D' b → Un n D b ∨ NewN H b) :
    Game R T n H' as l rl dd ks (comeRows rows d) rows es' S' D' rs (m + 14) (4 * b) ∧ ∀ b o, Mine n S D H b o → Mine n S' D' H' b o := by
  obtain ⟨U, h1, h2, _⟩ := g.few
  refine ⟨⟨t, g.len, c, g.ml.move ch un ud, g.mr.move ch un ud, g.md.mono fun _ _ z => z.move ch un ud, g.dn, g.nd, g.ro, comeRows_lenN dk hb hc hs g.big, U ++ newOf d, ?_, comeRows_sub hc hs h2, fun j hj x hx => List.mem_append_left _ (h2 j hj x hx)⟩, fun b o z => z.move ch un ud⟩
  rw [List.length_append]
  have := newOf_len dk
  omega
theorem tabs_but {d : Addr} {kvs : List (Key × V)} (h : H d = some (.dK kvs)) (e : But d H H') (t : Tabs T H) : Tabs T H' := fun q hq => by
  obtain ⟨ps, h1, h2, h3⟩ := t q hq
  refine ⟨ps, e _ _ (ne_of h1 h (fun z => nomatch z)) h1, h2, fun pos cv hc => ?_⟩
  obtain ⟨c, e1, e2⟩ := h3 pos cv hc
  exact ⟨c, e1, e _ _ (ne_of e2 h (fun z => by unfold CodeO at z; cases z)) e2⟩
theorem Mine.but {n : Nat} {S D : Nat → AS} {d x : Addr} {o : HO} (m : Mine n S D H x o) (e : But d H H') (h : x ≠ d) : Mine n S D H' x o := ⟨e _ _ h m.at_, m.nt, m.noS, m.noD⟩
theorem comeZ_len (rs : List DRow) (d : Deed) : (comeZ rs d).length = rs.length := by
  cases d <;> exact List.length_set ..
theorem comeZ_ne {rs : List DRow} {d : Deed} {j : Nat} (h : j ≠ d.cup) : (comeZ rs d)[j]? = rs[j]? := by
  cases d <;> exact List.getElem?_set_ne (Ne.symm h)
theorem eachIs_of_get {α β : Type} {P : α → β → Prop} : ∀ {as : List α} {bs : List β}, as.length = bs.length → (∀ (i : Nat) (a : α) (b : β), as[i]? = some a → bs[i]? = some b → P a b) → PySem.W.EachIs P as bs
  | [], [], _, _ => .nil
  | a :: as, b :: bs, hl, h => .cons (h 0 a b rfl rfl) (eachIs_of_get (by simpa using hl) fun i x y hx hy => h (i + 1) x y hx hy)
  | [], _ :: _, hl, _ => by simp at hl
  | _ :: _, [], hl, _ => by simp at hl
theorem eachIs_at {α β : Type} {P : α → β → Prop} {as : List α} {bs : List β} (h : PySem.W.EachIs P as bs) {i : Nat} {a : α} {b : β} (ha : as[i]? = some a) (hb : bs[i]? = some b) : P a b := by
  obtain ⟨b', e, p⟩ := eachIs_get h ha
  rw [hb] at e
  cases e
  exact p
theorem nodup_ne {l : List Addr} (nd : l.Nodup) {i j : Nat} {x y : Addr} (hi : l[i]? = some x) (hj : l[j]? = some y) (h : i ≠ j) : x ≠ y := by
  rintro rfl
  have a := (List.getElem?_eq_some_iff.mp hi)
  have b := (List.getElem?_eq_some_iff.mp hj)
  obtain ⟨a1, a2⟩ := a
  obtain ⟨b1, b2⟩ := b
  have nd := List.pairwise_iff_getElem.mp nd
  rcases Nat.lt_or_gt_of_ne h with z | z
  · exact nd i j a1 b1 z (a2.trans b2.symm)
  · exact nd j i b1 a1 z (b2.trans a2.symm)
/-- and told in its dict -/
theorem Game.come (A : CupApi R C) {d : Deed} (g : Game R T n H as l rl dd ks (comeRows rows d) rows es S D rs m b) (dk : DeedOk d) (hc : d.cup < n) (hs : ∀ c s, d = .pour c s → s < n) {dc : Addr} (hd : dd[d.cup]? = some dc) (e : But dc H H') (h : H' dc = some (.dK (Own.dk ((comeZ rs d).getD d.cup [])))) :
    Game R T n H' as l rl dd ks (comeRows rows d) (comeRows rows d) es S D (comeZ rs d) m b ∧ ∀ x o, x ≠ dc → Mine n S D H x o → Mine n S D H' x o := by
  obtain ⟨r0, hr0, m0⟩ := eachIs_get g.md hd
  have noD : ∀ x, Un n D x → x ≠ dc := fun x hx z => m0.noD (by rw [← z]; exact hx)
  have rl0 := g.rlen
  have hcl : d.cup < (comeZ rs d).length := by rw [comeZ_len, rl0]; exact hc
  refine ⟨⟨tabs_but m0.at_ e g.tabs, g.len, g.cups.ext A fun x o ⟨i, hi, z⟩ hx => e x o (noD x ⟨i, by rw [g.len] at hi; exact hi, z⟩) hx, g.ml.but e (ne_of g.ml.at_ m0.at_ (fun z => nomatch z)), g.mr.but e (ne_of g.mr.at_ m0.at_ (fun z => nomatch z)), eachIs_of_get (by rw [g.dn, comeZ_len, rl0]) fun i x r hx hr => ?_, g.dn, g.nd,
    come_rows dk (fun c s z => by rw [rl0]; exact hs c s z) g.ro, g.big, ?_⟩, fun x o hx z => z.but e hx⟩
  · by_cases hi : i = d.cup
    · subst hi
      rw [hd] at hx
      cases hx
      rw [List.getD_eq_getElem?_getD, hr] at h
      exact ⟨h, (fun _ z => nomatch z), m0.noS, m0.noD⟩
    · rw [comeZ_ne hi] at hr
      exact (eachIs_at g.md hx hr).but e (nodup_ne g.nd hx hd hi)
  · obtain ⟨U, h1, h2, _⟩ := g.few
    exact ⟨U, h1, h2, h2⟩
/-- the size of a dict -/
theorem Game.small (g : Game R T n H as l rl dd ks rows rd es S D rs m b) : ∀ r ∈ rs, r.length ≤ m := by
  intro r hr
  obtain ⟨i, hi, rfl⟩ := List.getElem_of_mem hr
  obtain ⟨U, h1, _, h3⟩ := g.few
  have := (g.ro i _ (List.getElem?_eq_getElem hi)).few (h3 i (by rw [← g.rlen]; exact hi))
  omega
theorem cellsAt (g : Game R T n H as l rl dd ks rows rd es S D rs m b) : PySem.W.EachIs (fun x r => H x = some (.dK (dk r))) dd rs := g.md.mono fun _ _ z => z.at_
end
/-! ### three cups, three dicts -/
theorem dict3 {R : CupRel} {C : Addr} (A : CupApi R C) {T : List (Addr × Str)} {H : Hp} {as : List Addr} {l : Addr} {ks : Nat → Nat} {es : Nat → List Ent} {S D : Nat → AS} (hT : Tabs T H) (hl : as.length = 3) (c : CupsAt R H as ks (fun _ => []) es S D) (ml : Mine 3 S D H l (.lst (as.map V.ref)))
    {d0 d1 d2 rl : Addr} (n0 : H d0 = none) (n1 : upd H d0 (.dK []) d1 = none) (n2 : upd (upd H d0 (.dK [])) d1 (.dK []) d2 = none) (nr : upd (upd (upd H d0 (.dK [])) d1 (.dK [])) d2 (.dK []) rl = none) :
    Same H (upd (upd (upd (upd H d0 (.dK [])) d1 (.dK [])) d2 (.dK [])) rl (.lst [.ref d0, .ref d1, .ref d2])) ∧ Game R T 3 (upd (upd (upd (upd H d0 (.dK [])) d1 (.dK [])) d2 (.dK [])) rl (.lst [.ref d0, .ref d1, .ref d2])) as l rl [d0, d1, d2] ks (fun _ => []) (fun _ => []) es S D [[], [], []] 0 (2 ^ 40) := by
  have s0 := same_upd (o := .dK []) n0
  have s1 := same_upd (o := .dK []) n1
  have s2 := same_upd (o := .dK []) n2
  have s3 := same_upd (o := .lst [.ref d0, .ref d1, .ref d2]) nr
  have sA := ((s0.trans s1).trans s2).trans s3
  have nUD : ∀ b, H b = none → ¬ Un 3 D b := fun b hb ⟨i, hi, z⟩ => by
    obtain ⟨o, e, _⟩ := A.old (c.at_ i _ (List.getElem?_eq_getElem (by omega))) b z
    rw [hb] at e
    cases e
  have nUS : ∀ b, H b = none → ¬ Un 3 S b := fun b hb z => nUD b hb (by
    have := c.sub A b
    rw [hl] at this
    exact this z)
  have f1 := s0.free n1
  have f2 := (s0.trans s1).free n2
  have fr := ((s0.trans s1).trans s2).free nr
  have e0 : (upd (upd (upd (upd H d0 (.dK [])) d1 (.dK [])) d2 (.dK [])) rl (.lst [.ref d0, .ref d1, .ref d2])) d0 = some (.dK []) := s3 _ _ (s2 _ _ (s1 _ _ upd_same))
  have e1 : (upd (upd (upd (upd H d0 (.dK [])) d1 (.dK [])) d2 (.dK [])) rl (.lst [.ref d0, .ref d1, .ref d2])) d1 = some (.dK []) := s3 _ _ (s2 _ _ upd_same)
  have e2 : (upd (upd (upd (upd H d0 (.dK [])) d1 (.dK [])) d2 (.dK [])) rl (.lst [.ref d0, .ref d1, .ref d2])) d2 = some (.dK []) := s3 _ _ upd_same
  have nt : ∀ ps, HO.dK [] ≠ .tbl ps := fun _ z => nomatch z
  refine ⟨sA, hT.ext sA, hl, c.same A sA, ml.same sA, ⟨upd_same, (fun _ z => nomatch z), nUS _ fr, nUD _ fr⟩, .cons ⟨e0, nt, nUS _ n0, nUD _ n0⟩ (.cons ⟨e1, nt, nUS _ f1, nUD _ f1⟩ (.cons ⟨e2, nt, nUS _ f2, nUD _ f2⟩ .nil)), rfl, ?_, ?_, fun j hj => Nat.zero_le _, ⟨[], Nat.le_refl _, fun j hj x h => absurd h List.not_mem_nil, fun j hj x h => absurd h List.not_mem_nil⟩⟩
  · have a1 : d0 ≠ d1 := fun z => by rw [← z, upd_same] at n1; cases n1
    have a2 : d1 ≠ d2 := fun z => by rw [← z, upd_same] at n2; cases n2
    have a3 : d0 ≠ d2 := fun z => by
      rw [← z, s1 _ _ upd_same] at n2
      cases n2
    simp [a1, a2, a3]
  · intro j r hj
    have : r = [] := by
      rcases j with _ | _ | _ | j
      · exact (Option.some.inj hj).symm
      · exact (Option.some.inj hj).symm
      · exact (Option.some.inj hj).symm
      · simp at hj
    rw [this]
    exact RowOf.nil
/-- [C(k), C(k), C(k)] -/
theorem make3 {R : CupRel} {C B : Addr} (A : CupApi R C) {T : List (Addr × Str)} {i kn : Nat} {σ : L2.St} {H : Hp} {Q : VK} (hv : σ[i]? = some (some (.int (kn : Int)))) (hT : Tabs T H) (k1 : 1 ≤ kn) (k2 : kn ≤ 64)
    (q : ∀ (H5 : Hp) (l y1 y2 y3 : Addr) (ks : Nat → Nat) (es : Nat → List Ent) (S D : Nat → AS), ExtN H H5 → Tabs T H5 → CupsAt R H5 [y1, y2, y3] ks (fun _ => []) es S D → (∀ i, i < 3 → ks i = kn) → Mine 3 S D H5 l (.lst ([y1, y2, y3].map V.ref)) → (∀ b, Un 3 D b → NewN H b) → NewN H l → Q (.ref l) H5) :
    tLst (tCons (tMakS C (apInit R T C B) EN (tCons (tVar i) tNil)) (tCons (tMakS C (apInit R T C B) EN (tCons (tVar i) tNil)) (tCons (tMakS C (apInit R T C B) EN (tCons (tVar i) tNil)) tNil))) σ H Q := by
  refine ⟨_, hv, fun y1 dy1 ny1 ndy1 ne1 => ⟨y1, dy1, _, rfl, make_tabs hT ny1 ndy1, upd_same, by rw [upd_ne ne1]; exact upd_same, ne1.symm, .inl ⟨kn, rfl, by omega, by omega, fun H2 S1 D1 hT2 r1 ch1 hd1 => ⟨rfl, ?_⟩⟩⟩⟩
  refine ⟨_, hv, fun y2 dy2 ny2 ndy2 ne2 => ⟨y2, dy2, _, rfl, make_tabs hT2 ny2 ndy2, upd_same, by rw [upd_ne ne2]; exact upd_same, ne2.symm, .inl ⟨kn, rfl, by omega, by omega, fun H3 S2 D2 hT3 r2 ch2 hd2 => ⟨rfl, ?_⟩⟩⟩⟩
  refine ⟨_, hv, fun y3 dy3 ny3 ndy3 ne3 => ⟨y3, dy3, _, rfl, make_tabs hT3 ny3 ndy3, upd_same, by rw [upd_ne ne3]; exact upd_same, ne3.symm, .inl ⟨kn, rfl, by omega, by omega, fun H4 S3 D3 hT4 r3 ch3 hd3 => ⟨rfl, ?_⟩⟩⟩⟩
  have e1 := make_ext ny1 ndy1 ch1
  have e2 := make_ext ny2 ndy2 ch2
  have e3 := make_ext ny3 ndy3 ch3
  have e4 := (e1.trans e2).trans e3
  have c0 : CupsAt R H [] (fun _ => kn) (fun _ => []) (fun _ => []) (fun _ _ => False) (fun _ _ => False) := CupsAt.nil
  have c1 := c0.snoc A e1 r1 (make_new ny1 ndy1 hd1)
  have c2 := c1.snoc A e2 r2 (make_new ny2 ndy2 hd2)
  have c3 := c2.snoc A e3 r3 (make_new ny3 ndy3 hd3)
  have hr : ∀ (f : Nat → List Int) (i : Nat), f = (fun _ => []) → setAt f i [] = fun _ => [] := fun f i e => by
    subst e
    funext j
    unfold setAt
    split <;> rfl
  rw [hr _ _ (hr _ _ (hr _ _ rfl))] at c3
  have hD : ∀ b, Un 3 (setAt (setAt (setAt (fun _ _ => False) ([] : List Addr).length D1) ([] ++ [y1] : List Addr).length D2) ([] ++ [y1] ++ [y2] : List Addr).length D3) b → NewN H b := by
    rintro b ⟨i, hi, z⟩
    rcases (show i = 0 ∨ i = 1 ∨ i = 2 by omega) with rfl | rfl | rfl
    · exact make_new ny1 ndy1 hd1 b z
    · exact newN_back2 e1 (make_new ny2 ndy2 hd2 b z)
    · exact newN_back2 (e1.trans e2) (make_new ny3 ndy3 hd3 b z)
  refine ⟨by show 3 ≤ sizeLine; decide, fun l nl => ?_⟩
  have sl := same_upd (o := .lst [V.ref y1, V.ref y2, V.ref y3]) nl
  refine q _ l y1 y2 y3 _ _ _ _ (e4.trans (ExtN.of sl)) (hT4.ext sl) (c3.same A sl) (fun i hi => ?_) (Mine.new A c3 nl (fun ps z => nomatch z)) hD (newN_back2 e4 (NewN.of nl))
  rcases (show i = 0 ∨ i = 1 ∨ i = 2 by omega) with rfl | rfl | rfl <;> rfl
end Own
namespace Own
open PySem PySem.Spec PyProof.Rows L2 LamX
/-- a list that is read and stays -/
def Scr (K : PySem.W.Frag) (n : Nat) (S D : Nat → AS) (H : Hp) (a : Addr) (xs : List V) : Prop := (∃ o, Mine n S D H a o ∧ (o = .lst xs ∨ ∃ ob, o = .frz ob (.lst xs))) ∨ ∀ H', SqL K H' a xs
section
variable {K : PySem.W.Frag} {n : Nat} {S D S' D' : Nat → AS} {H H' : Hp} {a : Addr} {xs : List V}
theorem Scr.sq (h : Scr K n S D H a xs) : SqL K H a xs := by
  rcases h with ⟨o, m, rfl | ⟨ob, rfl⟩⟩ | k
  · exact .inl (.inl m.at_)
  · exact .inl (.inr ⟨ob, m.at_⟩)
  · exact k H
theorem Scr.move (h : Scr K n S D H a xs) (k : ∀ o, Mine n S D H a o → Mine n S' D' H' a o) : Scr K n S' D' H' a xs := by
  rcases h with ⟨o, m, q⟩ | q
  · exact .inl ⟨o, k o m, q⟩
  · exact .inr q
theorem Scr.of (h : SqL K H a xs) (e : ExtN H H') (hS : ∀ b, Un n S b → NewN H b) (hD : ∀ b, Un n D b → NewN H b) : Scr K n S D H' a xs := by
  have key : ∀ o, H a = some o → (∀ ps, o ≠ .tbl ps) → Mine n S D H' a o := fun o ho nt => by
    have nn : ¬ NewN H a := fun z => by
      obtain ⟨ps, w⟩ := z o ho
      exact nt ps w
    exact ⟨e _ _ ho nt, nt, fun z => nn (hS a z), fun z => nn (hD a z)⟩
  rcases h with (z | ⟨o, z⟩) | z
  · exact .inl ⟨_, key _ z (fun _ w => nomatch w), .inl rfl⟩
  · exact .inl ⟨_, key _ z (fun _ w => nomatch w), .inr ⟨o, rfl⟩⟩
  · exact .inr fun H2 => .inr z
theorem Scr.same (h : Scr K n S D H a xs) (s : Same H H') : Scr K n S D H' a xs := h.move fun o m => m.same s
theorem Scr.but {d : Addr} {kvs : List (Key × V)} (h : Scr K n S D H a xs) (hd : H d = some (.dK kvs)) (e : But d H H') : Scr K n S D H' a xs := by
  rcases h with ⟨o, m, q⟩ | q
  · refine .inl ⟨o, m.but e fun z => ?_, q⟩
    have w := m.at_
    rw [z, hd] at w
    cases w
    rcases q with w | ⟨ob, w⟩ <;> cases w
  · exact .inr q
end
end Own
namespace Own
open PySem PySem.Spec PyProof.Rows L2 LamX
theorem deedV_cup (d : Deed) : (deedV d)[0]? = some (.int (d.cup : Int)) := by cases d <;> rfl
theorem pow_four (i : Nat) : 4 * 2 ^ (40 + 2 * i) = 2 ^ (40 + 2 * (i + 1)) := by
  rw [show 40 + 2 * (i + 1) = (40 + 2 * i) + 2 by omega, Nat.pow_add 2 (40 + 2 * i) 2, Nat.mul_comm]
theorem deed_cup3 {d : Deed} (dk : DeedOk d) : d.cup < 3 ∧ ∀ c s, d = .pour c s → s < 3 := by
  have := dk.ok
  cases d with
  | add c x n step t => exact ⟨this.1, fun c s z => nomatch z⟩
  | pour c s => exact ⟨this.1, fun c' s' z => by cases z; exact this.2⟩
/-- the deeds that are to be played, as they lie -/
def DeedsAt (S D : Nat → AS) (H : Hp) (q : Addr) (ds : List V) (deeds : List Deed) : Prop := Mine 3 S D H q (.lst ds) ∧ ∀ v ∈ ds, ∃ d ∈ deeds, ∃ t, v = .ref t ∧ Mine 3 S D H t (.tup (deedV d))
theorem DeedsAt.move {S D S' D' : Nat → AS} {H H' : Hp} {q : Addr} {ds : List V} {deeds : List Deed} (h : DeedsAt S D H q ds deeds) (k : ∀ b o, Mine 3 S D H b o → (∀ kvs, o ≠ .dK kvs) → Mine 3 S' D' H' b o) : DeedsAt S' D' H' q ds deeds :=
  ⟨k _ _ h.1 (fun _ z => nomatch z), fun v hv => by
    obtain ⟨d, h1, t, h2, h3⟩ := h.2 v hv
    exact ⟨d, h1, t, h2, k _ _ h3 (fun _ z => nomatch z)⟩⟩
theorem DeedsAt.of {H H' : Hp} {q : Addr} {ds : List V} {deeds : List Deed} {S D : Nat → AS} (hq : H q = some (.lst ds)) (he : PySem.W.EachIs (DeedAt H) ds deeds) (e : ExtN H H') (hS : ∀ b, Un 3 S b → NewN H b) (hD : ∀ b, Un 3 D b → NewN H b) : DeedsAt S D H' q ds deeds := by
  have key : ∀ b o, H b = some o → (∀ ps, o ≠ .tbl ps) → Mine 3 S D H' b o := fun b o ho nt => by
    have nn : ¬ NewN H b := fun z => by
      obtain ⟨ps, w⟩ := z o ho
      exact nt ps w
    exact ⟨e _ _ ho nt, nt, fun z => nn (hS b z), fun z => nn (hD b z)⟩
  refine ⟨key _ _ hq (fun _ z => nomatch z), fun v hv => ?_⟩
  obtain ⟨d, hd, t, h1, h2⟩ := he.left v hv
  exact ⟨d, hd, t, h1, key _ _ h2 (fun _ z => nomatch z)⟩
end Own
namespace Own
open PySem PySem.Spec PyProof.Rows L2 LamX
theorem make3S {R : CupRel} {C B : Addr} (A : CupApi R C) {T : List (Addr × Str)} {i j kn : Nat} {σ : L2.St} {H : Hp} {ts : TS} {E : Ends} (hv : σ[i]? = some (some (.int (kn : Int)))) (hT : Tabs T H) (k1 : 1 ≤ kn) (k2 : kn ≤ 64)
    (q : ∀ (H5 : Hp) (l y1 y2 y3 : Addr) (ks : Nat → Nat) (es : Nat → List Ent) (S D : Nat → AS), ExtN H H5 → Tabs T H5 → CupsAt R H5 [y1, y2, y3] ks (fun _ => []) es S D → (∀ i, i < 3 → ks i = kn) → Mine 3 S D H5 l (.lst ([y1, y2, y3].map V.ref)) → (∀ b, Un 3 D b → NewN H b) → NewN H l → ts E (σ.set j (some (.ref l))) H5) :
    tSeq (tAsg (tLst (tCons (tMakS C (apInit R T C B) EN (tCons (tVar i) tNil)) (tCons (tMakS C (apInit R T C B) EN (tCons (tVar i) tNil)) (tCons (tMakS C (apInit R T C B) EN (tCons (tVar i) tNil)) tNil)))) (gName j)) ts E σ H :=
  make3 (B := B) (Q := fun v H1 => gName j v σ H1 ({ E with nx := ts E } : Ends).nx) A hv hT k1 k2 fun H5 l y1 y2 y3 ks es S D a b c d e f g => q H5 l y1 y2 y3 ks es S D a b c d e f g
end Own

namespace Own
open PySem PySem.Spec PyProof.Rows L2 LamX
/-- three cups, three rows, and the deeds done -/
def lpThree (K : PySem.W.Frag) (R : CupRel) (T : List (Addr × Str)) : Sp := fun vs H Q _ => ∃ (a : Addr) (ns : List Int) (first most : Int) (g : Bool), vs = [.ref a, .int first, .int most, .bl g] ∧ SqL K H a (ns.map V.int) ∧ ns.length ≤ 63 ∧ Tabs T H ∧
  ∀ H' t l rl y1 y2 y3 d1 d2 d3 ks kn rows es S D rs n, ExtN H H' → H' t = some (.tup [.ref l, .ref rl]) → n ≤ 63 → 1 ≤ kn → kn ≤ 64 → (∀ i, i < 3 → ks i = kn) → Game R T 3 H' [y1, y2, y3] l rl [d1, d2, d3] ks rows rows es S D rs (14 * n) (2 ^ (40 + 2 * n)) →
    (∀ b, Un 3 S b → NewN H b) → (∀ b, Un 3 D b → NewN H b) → Q (.ref t) H'
/-- how many lie between two readings -/
def cpBetween (R : CupRel) (T : List (Addr × Str)) (BR : Addr) : Sp := fun vs H Q E => ∃ (a : Addr) (k : Nat) (row : List Int) (es : List Ent) (S D : AS) (v w : V), vs = [.ref a, v, w] ∧ Tabs T H ∧ R H a k row es S D ∧ row.length < 2 ^ 200 ∧
  ((∃ x y : Int, v = .int x ∧ w = .int y ∧ InR x ∧ InR y ∧ ∀ H' S' D' p lo hi, Tabs T H' → R H' a k row es S' D' → Moves H H' S D S' D' → H' p = some (.tup [.int lo, .int hi]) →
      (y ≤ x → lo = 0 ∧ hi = 0) → (x < y → lo ≤ clt row y - clt row x ∧ clt row y - clt row x ≤ hi ∧ hi - lo ≤ 2 * (offN row.length k : Nat)) → Q (.ref p) H') ∨
   ((BadV (-1000000000000000000) 1000000000000000000 H v ∨ (∃ x, v = .int x ∧ InR x) ∧ BadV (-1000000000000000000) 1000000000000000000 H w) ∧ E (.ref BR) none H))
/-- a reading near one of the row, or any -/
def lpOne : Sp := fun vs H Q _ => ∃ (d : Addr) (r : DRow) (c : Int), vs = [.ref d, .int c] ∧ H d = some (.dK (dk r)) ∧ (r.map (·.1)).Nodup ∧ r.length ≤ 10000 ∧ ∀ H' x, Same H H' → InR x → Q (.int x) H'
def lpRight11 (R : CupRel) (T : List (Addr × Str)) : Sp := fun vs H Q _ => ∃ (a d : Addr) (k : Nat) (row : List Int) (es : List Ent) (S D : AS) (r : DRow) (x y : Int), vs = [.ref a, .ref d, .int x, .int y] ∧ Tabs T H ∧ R H a k row es S D ∧ H d = some (.dK (dk r)) ∧ ¬ S d ∧ RowOf r row ∧ r.length ≤ 10000 ∧ row.length < 2 ^ 195 ∧ InR x ∧ InR y ∧
  ∀ H' S' D', Tabs T H' → R H' a k row es S' D' → Moves H H' S D S' D' → Q (.bl true) H'
def lpRef11 (R : CupRel) (T : List (Addr × Str)) : Sp := fun vs H Q _ => ∃ (a : Addr) (k : Nat) (row : List Int) (es : List Ent) (S D : AS) (v w : V), vs = [.ref a, v, w] ∧ Tabs T H ∧ R H a k row es S D ∧ row.length < 2 ^ 200 ∧
  (BadV (-1000000000000000000) 1000000000000000000 H v ∨ (∃ x, v = .int x ∧ InR x) ∧ BadV (-1000000000000000000) 1000000000000000000 H w) ∧ ∀ H', Same H H' → Q (.bl true) H'
end Own
namespace Own
open PySem PySem.Spec PyProof.Rows L2 LamX
theorem comeRow_one (row : List Int) (x : Int) (t : Nat) : comeRow row x 1 0 (t : Int).toNat = row ++ List.replicate t x := by
  unfold comeRow
  simp
theorem come_put {rs : List DRow} {i : Nat} {r : DRow} (h : rs[i]? = some r) (x : Int) (t : Int) : (comeZ rs (.add i x 1 0 t)).getD i [] = putZ r x (getZ r x + t) := by
  have hl := (List.getElem?_eq_some_iff.mp h).1
  have e : rs.getD i [] = r := by rw [List.getD_eq_getElem?_getD, h]; rfl
  show (rs.set i (addZ (rs.getD i []) x 1 0 t)).getD i [] = _
  rw [List.getD_eq_getElem?_getD, List.getElem?_set_self hl, e]
  show addZ r x (0 + 1) 0 t = _
  rw [addZ_succ]
  simp [addZ]
section
variable {R : CupRel} {C : Addr} {T : List (Addr × Str)} {H H' : Hp} {as : List Addr} {l rl : Addr} {dd : List Addr} {ks : Nat → Nat} {rows rd : Nat → List Int} {es : Nat → List Ent} {S D : Nat → AS} {rs : List DRow} {m b : Nat}
theorem add_ok {i : Nat} {x : Int} {t : Nat} (hi : i < 3) (hx : InR x) (ht : InT (t : Int)) : DeedOk (.add i x 1 0 (t : Int)) := ⟨⟨hi, by decide, ht, fun k hk => by
  rw [Int.mul_zero, Int.add_zero]
  exact hx⟩⟩
/-- a reading comes to a cup -/
theorem Game.add (A : CupApi R C) (g : Game R T 3 H as l rl dd ks rows rows es S D rs m b) {i : Nat} {a : Addr} (hi : i < 3) (hy : as[i]? = some a) {x : Int} {t : Nat} (hx : InR x) (ht : InT (t : Int)) (hb : 2 ^ 40 ≤ b) {es' : List Ent} {S' D' : AS} (T' : Tabs T H') (r : R H' a (ks i) (rows i ++ List.replicate t x) es' S' D') (mv : Moves H H' (S i) (D i) S' D') :
    ∃ es2 S2 D2, Game R T 3 H' as l rl dd ks (comeRows rows (.add i x 1 0 (t : Int))) rows es2 S2 D2 rs (m + 14) (4 * b) ∧ ∀ b o, Mine 3 S D H b o → Mine 3 S2 D2 H' b o := by
  have dk := add_ok hi hx ht
  have c2 := g.cups.move A hy r mv.chg mv.s fun x h => (mv.d x h).elim .inl fun z => .inr (.inr z)
  have e : comeRows rows (.add i x 1 0 (t : Int)) = setAt rows i (rows i ++ List.replicate t x) := by
    show setAt rows i (comeRow (rows i) x 1 0 (t : Int).toNat) = _
    rw [comeRow_one]
  rw [← e] at c2
  obtain ⟨g2, k2⟩ := g.done dk hi (fun c s z => nomatch z) hb T' c2 (mv.chg.un hi) (un_set hi mv.s) (un_setU fun x h => (mv.d x h).elim (fun z => .inl ⟨i, hi, z⟩) .inr)
  exact ⟨_, _, _, g2, k2⟩
/-- and is told in its dict -/
theorem Game.put (A : CupApi R C) {i : Nat} {x : Int} {t : Nat} (g : Game R T 3 H as l rl dd ks (comeRows rows (.add i x 1 0 (t : Int))) rows es S D rs m b) (hi : i < 3) (hx : InR x) (ht : InT (t : Int)) {dc : Addr} (hd : dd[i]? = some dc) {r : DRow} (hr : rs[i]? = some r) (e : But dc H H') (h : H' dc = some (.dK (Own.dk (putZ r x (getZ r x + (t : Int)))))) :
    Game R T 3 H' as l rl dd ks (comeRows rows (.add i x 1 0 (t : Int))) (comeRows rows (.add i x 1 0 (t : Int))) es S D (comeZ rs (.add i x 1 0 (t : Int))) m b ∧ ∀ y o, y ≠ dc → Mine 3 S D H y o → Mine 3 S D H' y o :=
  g.come A (add_ok hi hx ht) hi (fun c s z => nomatch z) hd e (by
    show H' dc = some (.dK (Own.dk ((comeZ rs (.add i x 1 0 (t : Int))).getD i [])))
    rw [come_put hr]
    exact h)
end
end Own

namespace Own
open PySem PySem.Spec PyProof.Rows L2 LamX
/-- an answer that is right -/
def RightA (row : List Int) (o x p : Int) : Prop := x ∈ row ∧ clt row x - o ≤ p ∧ p ≤ cle row x - 1 + o
/-- the answers of many places -/
def cpAnswers (R : CupRel) (T : List (Addr × Str)) (BP : Addr) : Sp := fun vs H Q E => ∃ (a l : Addr) (k : Nat) (row : List Int) (es : List Ent) (S D : AS) (xs : List V), vs = [.ref a, .ref l] ∧ Tabs T H ∧ R H a k row es S D ∧ row.length < 2 ^ 200 ∧ H l = some (.lst xs) ∧ ¬ S l ∧ xs.length ≤ 10000 ∧
  ((∃ ps : List Int, xs = ps.map V.int ∧ (∀ p ∈ ps, 0 ≤ p ∧ p < (row.length : Int)) ∧ ∀ H' S' D' o ys, Tabs T H' → R H' a k row es S' D' → Moves H H' S D S' D' → H' o = some (.lst (ys.map V.int)) → ¬ S' o → PySem.W.EachIs (fun x p => RightA row (offN row.length k : Nat) x p) ys ps → Q (.ref o) H') ∨
   (∃ (i : Nat) (v : V), xs[i]? = some v ∧ (∀ H', BadV 0 ((row.length : Int) - 1) H' v) ∧ (∀ j w, j < i → xs[j]? = some w → ∃ p : Int, w = .int p ∧ 0 ≤ p ∧ p < (row.length : Int)) ∧ ∀ H' S' D', Tabs T H' → R H' a k row es S' D' → Moves H H' S D S' D' → E (.ref BP) none H'))
/-- the place of a part -/
def cpPlaceOf (R : CupRel) (T : List (Addr × Str)) (NR NP : Addr) : Sp := fun vs H Q E => ∃ (a : Addr) (k : Nat) (row : List Int) (es : List Ent) (S D : AS) (pt o : V), vs = [.ref a, pt, o] ∧ Tabs T H ∧ R H a k row es S D ∧ row.length < 2 ^ 200 ∧
  ((row.length = 0 ∧ ∀ H' S' D', Tabs T H' → R H' a k row es S' D' → Moves H H' S D S' D' → E (.ref NR) none H') ∨
   (0 < row.length ∧ ∃ p i : Int, pt = .int p ∧ o = .int i ∧ 1 ≤ i ∧ i ≤ 1000000000 ∧ 0 ≤ p ∧ p ≤ i ∧ ∀ H' S' D', Tabs T H' → R H' a k row es S' D' → Moves H H' S D S' D' → Q (.int (((row.length : Int) - 1) * p / i)) H') ∨
   (0 < row.length ∧ ((∀ H', BadV 1 1000000000 H' o) ∨ ∃ i : Int, o = .int i ∧ 1 ≤ i ∧ i ≤ 1000000000 ∧ ∀ H', BadV 0 i H' pt) ∧ ∀ H' S' D', Tabs T H' → R H' a k row es S' D' → Moves H H' S D S' D' → E (.ref NP) none H'))
def lpWord (R : CupRel) (T : List (Addr × Str)) : Sp := fun vs H Q _ => ∃ (a : Addr) (k : Nat) (row : List Int) (es : List Ent) (S D : AS) (pt o : V), vs = [.ref a, pt, o] ∧ Tabs T H ∧ R H a k row es S D ∧ row.length < 2 ^ 200 ∧
  ((row.length = 0 ∧ ∀ H' S' D' l, Tabs T H' → R H' a k row es S' D' → Moves H H' S D S' D' → H' l = some (.lst [.bl true, .str (Str.ofString "readings")]) → Q (.ref l) H') ∨
   (0 < row.length ∧ ∃ p i : Int, pt = .int p ∧ o = .int i ∧ 1 ≤ i ∧ i ≤ 1000000000 ∧ 0 ≤ p ∧ p ≤ i ∧ ∀ H' S' D' l, Tabs T H' → R H' a k row es S' D' → Moves H H' S D S' D' → H' l = some (.lst [.int (((row.length : Int) - 1) * p / i), .str (Str.ofString "")]) → Q (.ref l) H') ∨
   (0 < row.length ∧ ((∀ H', BadV 1 1000000000 H' o) ∨ ∃ i : Int, o = .int i ∧ 1 ≤ i ∧ i ≤ 1000000000 ∧ ∀ H', BadV 0 i H' pt) ∧ ∀ H' S' D' l, Tabs T H' → R H' a k row es S' D' → Moves H H' S D S' D' → H' l = some (.lst [.bl true, .str (Str.ofString "place")]) → Q (.ref l) H'))
def lpPart (R : CupRel) (T : List (Addr × Str)) : Sp := fun vs H Q _ => ∃ (a : Addr) (k : Nat) (row : List Int) (es : List Ent) (S D : AS) (c : Int), vs = [.ref a, .int (row.length : Int), .int c] ∧ Tabs T H ∧ R H a k row es S D ∧ row.length < 2 ^ 200 ∧
  ∀ H' S' D', Tabs T H' → R H' a k row es S' D' → Moves H H' S D S' D' → Q (.bl true) H'
def lpRef10 (R : CupRel) (T : List (Addr × Str)) : Sp := fun vs H Q _ => ∃ (a l : Addr) (k : Nat) (row : List Int) (es : List Ent) (S D : AS) (xs : List V) (i : Nat) (v : V), vs = [.ref a, .ref l] ∧ Tabs T H ∧ R H a k row es S D ∧ row.length < 2 ^ 200 ∧ H l = some (.lst xs) ∧ ¬ S l ∧ xs.length ≤ 10000 ∧
  xs[i]? = some v ∧ (∀ H', BadV 0 ((row.length : Int) - 1) H' v) ∧ (∀ j w, j < i → xs[j]? = some w → ∃ p : Int, w = .int p ∧ 0 ≤ p ∧ p < (row.length : Int)) ∧ ∀ H' S' D', Tabs T H' → R H' a k row es S' D' → Moves H H' S D S' D' → Q (.bl true) H'
def lpAnswered (R : CupRel) (T : List (Addr × Str)) : Sp := fun vs H Q _ => ∃ (a d : Addr) (k : Nat) (row : List Int) (es : List Ent) (S D : AS) (r : DRow) (c : Int), vs = [.ref a, .ref d, .int c] ∧ Tabs T H ∧ R H a k row es S D ∧ H d = some (.dK (dk r)) ∧ ¬ S d ∧ RowOf r row ∧ r.length ≤ 10000 ∧ row.length < 2 ^ 195 ∧
  ∀ H' S' D', Tabs T H' → R H' a k row es S' D' → Moves H H' S D S' D' → Q (.bl true) H'
end Own
namespace Own
open PySem PySem.Spec PyProof.Rows L2 LamX
theorem canLay_ints : ∀ ns : List Int, PyData.canLayAll0 (ns.map PyData.int) = true
  | [] => rfl
  | n :: r => by simp [PyData.canLayAll0, PyData.canLay0, canLay_ints r]
theorem depth_ints : ∀ ns : List Int, PyData.depthAll (ns.map PyData.int) = 0
  | [] => rfl
  | n :: r => by simp [PyData.depthAll, PyData.depth, depth_ints r]
theorem shaped_ints (ns : List Int) : SeqAt.shaped (.list (ns.map PyData.int)) = true := by
  unfold SeqAt.shaped
  rw [show PyData.canLay0 (.list (ns.map PyData.int)) = PyData.canLayAll0 (ns.map PyData.int) by simp [PyData.canLay0], canLay_ints, show PyData.depth (.list (ns.map PyData.int)) = PyData.depthAll (ns.map PyData.int) + 1 by simp [PyData.depth], depth_ints]
  rfl
theorem dpAll_ints {K : PySem.W.Frag} {H : Hp} : ∀ ns : List Int, DpAll K H (ns.map V.int) (ns.map PyData.int)
  | [] => .nil
  | n :: r => .cons (.int n) (dpAll_ints r)
theorem eqv_ints (ns : List Int) : PyData.eqv (.list (ns.map PyData.int)) (.list (ns.map PyData.int)) = true :=
  SeqAt.eqv_refl _ (by rw [show PyData.canLay0 (.list (ns.map PyData.int)) = PyData.canLayAll0 (ns.map PyData.int) by simp [PyData.canLay0], canLay_ints])
theorem cut_take (xs : List V) {t : Nat} (h : t ≤ xs.length) : cutV xs none (some (t : Int)) = xs.take t := by
  unfold cutV
  rw [HT.sIx_none, HT.sIx_nat, List.drop_zero, Nat.min_eq_left h, Nat.sub_zero]
theorem cut_drop (xs : List V) {t : Nat} (h : t ≤ xs.length) : cutV xs (some (t : Int)) none = xs.drop t := by
  unfold cutV
  rw [HT.sIx_none, HT.sIx_nat, Nat.min_eq_left h]
  exact List.take_of_length_le (by rw [List.length_drop]; omega)
theorem lc_rowS {d : Addr} {od : Obj} {r : DRow} {f : Int → Bool} {td : TE} {j : Nat} {tt : TT} {te : TE} {vs : List Nat} {σ : L2.St} {HF : Hp} {Q : VK} (nd : (r.map (·.1)).Nodup) (hl : r.length ≤ 10000) (hF : HF d = some (.frz od (.dK (dk r))))
    (hsrc : ∀ R : VK, R (.ref d) HF → td σ HF R) (hw : ∀ x, wipe ((wipe σ vs).set j (some x)) vs = wipe σ vs) (ht : ∀ (x : Int) (H : Hp) (R : Bool → Hp → Prop), R (f x) H → tt ((wipe σ vs).set j (some (.int x))) H R)
    (he : ∀ (x : Int) (H : Hp) (R : VK), x ∈ r.map (·.1) → Same HF H → H d = some (.frz od (.dK (dk r))) → R (.int (getZ r x)) H → te ((wipe σ vs).set j (some (.int x))) H R)
    (q : ∀ (D : Addr) (H' : Hp), Same HF H' → HF D = none → H' D = some (.lst (((r.filter fun p => f p.1).map (·.2)).map V.int)) → Q (.ref D) H') : tLc (iKeys td) (gName j) tt te vs σ HF Q := by
  refine hsrc _ ⟨d, od, rfl, .inl ⟨dk r, hF, fun D hD => lc_it walk_keys (fun i H' => Same HF H' ∧ H' D = some (.lst ((((r.take i).filter fun p => f p.1).map (·.2)).map V.int))) ⟨same_upd hD, upd_same⟩ (fun i H' _ p => p.1 _ _ hF) ?_ ?_⟩⟩
  · rintro i x H' H2 hi ⟨y1, y2⟩ ⟨rfl, k, v, hk, rfl⟩
    have hi' : i < r.length := by
      have : (dk r).length = r.length := List.length_map ..
      omega
    have hr : r[i]? = some r[i] := List.getElem?_eq_getElem hi'
    have hkk : k = Sum.inl r[i].1 := by
      unfold dk at hk
      rw [List.getElem?_map, hr] at hk
      exact (congrArg Prod.fst (Option.some.inj hk)).symm
    subst hkk
    have hm : r[i] ∈ r := List.mem_of_getElem? hr
    generalize r[i] = p at hr hm
    have htk : r.take (i + 1) = r.take i ++ [p] := by rw [List.take_succ, hr]; rfl
    refine ⟨hw _, ht _ _ _ ?_⟩
    cases hf : f p.1 with
    | false =>
      refine iteF ⟨y1, ?_⟩
      rw [htk, List.filter_append, show ([p].filter fun p => f p.1) = [] from by simp [hf], List.append_nil]
      exact y2
    | true =>
      refine iteT (he p.1 _ _ (List.mem_map_of_mem hm) y1 (y1 _ _ hF) ⟨_, y2, small5 ?_, fun c o z => ?_, ?_⟩)
      · rw [List.length_map, List.length_map]
        have z1 := List.length_filter_le (fun p : Int × Int => f p.1) (r.take i)
        have z2 := List.length_take_le' i r
        omega
      · rw [upd_ne (ne_of_none z hD)]
        exact y1 _ _ z
      · rw [upd_same, htk, List.filter_append, show ([p].filter fun p => f p.1) = [p] from by simp [hf], List.map_append, List.map_append, getZ_mem nd hm]
        rfl
  · rintro H' ⟨y1, y2⟩
    have : (dk r).length = r.length := List.length_map ..
    rw [this, List.take_length] at y2
    exact q D H' y1 hD y2
end Own

/-! Defs that are run where no guard stands: what repr asks. -/
namespace Own
open PySem PySem.Spec PyProof.Rows L2 LamX
/-- a promise that is kept where no guard stands -/
structure FnG (P : Program) (w : World) (K : PySem.W.Frag) (mg : Str → Option Value) (base : Heap) (k : Nat) (f : Addr) (fd : FuncData) (ps : List Str) (sp : Sp) : Prop where
  many : ∀ vs H Q E, sp vs H Q E → vs.length = ps.length
  go : ∀ (A : Around) (outer : List Env) (s : Shared) (H : Hp) (args : Args) (us : List Value) (vs : List V) (Q : VK) (E : XK), A.guards = some [] → Room k A → Env0 P w K mg base A outer s H → BindsTo s fd args (ps.zip us) → Vals vs us → sp vs H Q E →
    codeAny (model P w) A (.call (.ref f) args) (CR CX0 outer P w H s Q E) s
section
variable {P : Program} {w : World} {K : PySem.W.Frag} {mg : Str → Option Value} {base : Heap}
theorem okG {x qual : Str} {st : Stmt} {f : Addr} {fd : FuncData} {N ps : List Str} {k : Nat} {sp : Sp} (F : Fun K x qual st f fd) (S : FnScope N ps (defScope st)) (len : ∀ vs H Q E, sp vs H Q E → vs.length = ps.length)
    (body : ∀ (cdv : Value) (A : Around) (outer : List Env) (s : Shared) (H : Hp) (vs : List V) (Q : VK) (E : XK), A.guards = some [] → Room k (A.deeper (envOfC qual (defScope st) s.heap.objs.size f cdv)) → sp vs H Q E →
      ∃ t, PSs (cxOf CX0 P w K mg base N qual (defScope st) f cdv A outer s H E).nox (defBody st) t ∧ t { nx := fun _ H' => Q .non H', rt := Q } (start N vs) H) : FnG P w K mg base (k + 1) f fd ps sp := by
  obtain ⟨oc, od, kV, doc, pm, an, cdv, ct, osl, rfl, lk, hcd⟩ := F.ex
  refine ⟨len, fun A outer s H args us vs Q E gd room e0 bind rv wish => ?_⟩
  have inK : K.In s.heap := e0.mod.kin.keeps (fun b o e => (e0.bs b o e).1)
  have noLim : s.heap.NoLimit := e0.mod.nolimit.keeps (fun b o e => (e0.bs b o e).1)
  obtain ⟨t, pt, qt⟩ := body cdv A outer s H vs Q E gd (room.deeper _) wish
  have kinds : ∀ y ∈ ps.zip us, (defScope st).names.lookup y.1 = some .local ∨ ((defScope st).names.lookup y.1 = some .cell ∧ ((cellsFrom (s.heap.objs.size + 1) (defScope st).names []).lookup y.1).isSome = true) := by
    rintro ⟨n, v⟩ hy
    cases S.par n (List.of_mem_zip hy).1 with
    | inl z => exact .inl z
    | inr z => exact .inr ⟨z, PySem.W.cellsFrom_some _ _ _ (.inl z)⟩
  apply codeAny_call_function room.depth (inK _ _ lk) rfl S.co S.gen rfl (PySem.W.codeRec_of inK hcd) (bind _ _ _ _ ?_)
  apply wpAny_newFunctionEnv_cells S.kind kinds
  rintro env rfl s1 x
  refine And.intro (noLim.keeps x.toInCall.keep) (codeAny_func ?_)
  have I := inv_start (CX := CX0) (E := E) S room.hd e0 (len _ _ _ _ wish) rv x
  have run := pt.nox.run [] s1 (start N vs) H _ I qt
  refine wpAny_mono run ?_ (fun e s' z => z)
  intro fl s' z
  cases fl with
  | ret u => obtain ⟨v, σ', H', J, r1, q1⟩ := z; exact ⟨v, H', J.os, J.bare, J.base, J.hok, r1, q1⟩
  | next => obtain ⟨σ', H', J, q1⟩ := z; exact ⟨V.non, H', J.os, J.bare, J.base, J.hok, rfl, q1⟩
  | brk => obtain ⟨_, _, _, z⟩ := z; exact z.elim
  | cont => obtain ⟨_, _, _, z⟩ := z; exact z.elim
end
/-- a def that may be called by its name where no guard stands -/
structure CalG (P : Program) (w : World) (K : PySem.W.Frag) (mg : Str → Option Value) (base : Heap) (k : Nat) (x : Str) (sp : Sp) : Prop where
  ex : ∃ (f : Addr) (fd : FuncData) (ps : List Str), FnG P w K mg base k f fd ps sp ∧ mg x = some (.ref f) ∧ PySem.W.keepIn K (.ref f) = true ∧ Binds K fd ps []
section
variable {X : Cx} {k j : Nat} {x : Str} {sp : Sp} {p pos : Pos} {e : Expr} {es : List Expr} {t : TA}
theorem pe_g (c : CalG X.prog X.w X.K X.mg X.base k x sp) (gd : X.A.guards = some []) (hr : Room j X.A) (hk : k ≤ j) (hg : Gl X x) (ha : PA X (e :: es) t)
    (hdb : (x == ("__debug__" : Str)) = false := by decide) (he : starEach (e :: es) X.env = (false, eval e X.env) :: starEach es X.env := by rfl) (hpl : (backTo pos (starEach es X.env)).any (·.1) = false := by rfl) :
    PE X (.Call (.Name x p) (e :: es) [] pos) (tCall sp [] E0 t) := by
  obtain ⟨f, fd, ps, F, hm, kp, b⟩ := c.ex
  constructor
  intro pins s σ H Q I h
  apply wpAny_Call_Name_kw (ld_glob I hg hm ?_ hdb)
  apply PySem.W.callWith_K (h₀ := X.base) I.ok.mod.kin kp ?_ he hpl
  refine thn (ha.run pos pins s σ H _ I h) ?_
  rintro us s1 ⟨vs, H1, I1, r, q⟩
  refine ⟨I1.kIn, wpAny_call ?_⟩
  have q : sp (vs ++ []) H1 Q E0 := q
  rw [List.append_nil] at q
  have hl : us.length = ps.length := r.length.symm.trans (F.many _ _ _ _ q)
  have bn := b s1 us I1.kIn (by rw [List.append_nil]; exact hl)
  rw [List.append_nil] at bn
  refine codeAny_mono (F.go X.A X.stack s1 H1 ⟨us, []⟩ us vs Q E0 gd (hr.mono hk) I1.env0 bn r q) ?_
  intro r s' z
  cases r with
  | error e => exact (show False from z).elim
  | ok fl =>
    cases fl with
    | ret u => exact I1.after z
    | next => exact (show False from z).elim
    | brk => exact (show False from z).elim
    | cont => exact (show False from z).elim
/-- repr(x), x data of lists and tuples -/
def rReprD (K : PySem.W.Frag) : List V → Hp → VK → Prop := fun xs H Q => ∃ a d, xs = [.ref a] ∧ Dp K H (.ref a) d ∧ d.showable = true ∧ d.hasDict = false ∧ d.depth ≤ 60 ∧ d.shown.length ≤ sizeLine ∧ Q (.str d.shown) H
theorem call_reprD (gd : X.A.guards = some []) (hu : X.A.units + 64 < cLine) : CallR X (.builtin "repr") (rReprD X.K) := by
  intro pins s σ H xs us Q I r h
  obtain ⟨a, d, rfl, dp, sh, nd, dl, sz, q⟩ := h
  obtain ⟨u, rfl, ru⟩ := vals1 r
  cases (show u = Value.ref a from ru)
  obtain ⟨as, rd⟩ := dp.reads I d _ _ rfl
  refine repr_of_reads' rd sh (fun z => by rw [nd] at z; cases z) gd (by omega) (fun b o e => e) (fun h' u tk kp => ?_) sz
  refine ⟨.str d.shown, H, I.kept (t' := tk) kp, ⟨_, rfl⟩, q⟩
end
end Own
namespace Own
open PySem PySem.Spec PyProof.Rows L2 LamX
section
variable {P : Program} {w : World} {K : PySem.W.Frag} {mg mb : Str → Option Value} {k : Nat} {fa a : Addr} {cs : List (Addr × Addr)} {fd : FuncData} {x : Str} {sp : Sp} {s1 : Shared} {vs : List Value} {ns : List Int}
/-- the state in which the law's def is called -/
structure Begun (K : PySem.W.Frag) (mg mb : Str → Option Value) (cs : List (Addr × Addr)) (s1 : Shared) : Prop where
  kin : K.In s1.heap
  glo : s1.heap.Ns mainGlobals mg
  blt : s1.heap.Ns builtinsNs mb
  boot : ∀ x : Str, x ≠ "__name__" → mb x = bootBuiltins x
  lim : s1.heap.NoLimit
  gens : s1.gens = #[]
  tbl : ∀ p ∈ cs, s1.heap.get? p.2 = some { cls := .none, data := .fields #[] }
  own : ∀ p ∈ cs, K.lookup p.2 = none
  cod : ∀ p ∈ cs, PySem.W.CodeHd s1.heap p.1 p.2
  main : ∃ (bm : Addr) (ob : Obj), mg "__builtins__" = some (.ref bm) ∧ bm ≠ builtinsNs ∧ s1.heap.get? bm = some ob ∧ ob.cls = .type "module" ∧ ob.dict = some builtinsNs ∧ ob.data = .plain
/-- only the script and the tables are known -/
structure Few (cs : List (Addr × Addr)) (s1 : Shared) (a : Addr) (H : Hp) : Prop where
  t : ∀ p ∈ cs, H p.2 = some (.tbl #[])
  o : ∀ b, H b = none ∨ b ∈ cs.map (·.2) ∨ ∃ o xs, H b = some (.frz o (.lst xs))
  only : ∀ b, H b ≠ none → b = a ∨ b ∈ cs.map (·.2)
theorem Begun.istbl (G : Begun K mg mb cs s1) {b : Addr} (hb : b ∈ cs.map (·.2)) : s1.heap.get? b = some { cls := .none, data := .fields #[] } := by
  obtain ⟨p, hp, rfl⟩ := List.mem_map.mp hb
  exact G.tbl p hp
theorem Few.free {H : Hp} (F : Few cs s1 a H) (G : Begun K mg mb cs s1) (ha : s1.heap.get? a = some { cls := .type "list", data := .seq vs.toArray }) {b : Addr} {o : Obj} (e : s1.heap.get? b = some o) (h1 : ∀ vs n, o.data ≠ .seq vs n) (h2 : o.data ≠ .fields #[]) : H b = none := by
  apply Classical.byContradiction
  intro z
  cases F.only b z with
  | inl y =>
    subst y
    cases e.symm.trans ha
    exact h1 _ _ rfl
  | inr y =>
    cases e.symm.trans (G.istbl y)
    exact h2 rfl
theorem Few.spc {H : Hp} (F : Few cs s1 a H) (G : Begun K mg mb cs s1) (ha : s1.heap.get? a = some { cls := .type "list", data := .seq vs.toArray }) {b : Addr} {m : Str → Option Value} (n : s1.heap.Ns b m) : (hidT s1.heap H).Ns b m := by
  obtain ⟨o, es, ep, e, d, r⟩ := n
  refine ⟨o, es, ep, hidT_get e (F.free G ha e ?_ ?_), d, r⟩
  · intro vs n z
    cases d.symm.trans z
  · intro z
    cases d.symm.trans z
theorem Few.kin {H : Hp} (F : Few cs s1 a H) (G : Begun K mg mb cs s1) (hK : H a ≠ none → K.lookup a = none) : K.In (hidT s1.heap H) := by
  intro b o e
  refine hidT_get (G.kin b o e) (Classical.byContradiction fun z => ?_)
  rcases F.only b z with y | y
  · subst y
    rw [hK z] at e
    cases e
  · obtain ⟨p, hp, rfl⟩ := List.mem_map.mp y
    rw [G.own p hp] at e
    cases e
theorem Few.tab {H : Hp} (F : Few cs s1 a H) (G : Begun K mg mb cs s1) (ha : s1.heap.get? a = some { cls := .type "list", data := .seq vs.toArray }) : ∀ p ∈ cs, TabB (hidT s1.heap H) mg p.1 p.2 := by
  intro p hp
  have e := G.tbl p hp
  refine ⟨?_, ?_, ?_⟩
  · obtain ⟨o, us, file, tf, flags, tg, inF, text, tt, e1, r1, r2, r3, r⟩ := G.cod p hp
    refine ⟨o, us, file, tf, flags, tg, inF, text, tt, hidT_get e1 (F.free G ha e1 (fun vs n z => ?_) fun z => ?_), r1, r2, r3, r⟩
    · cases r2.symm.trans z
    · cases r2.symm.trans z
      simp at r3
  · obtain ⟨bm, ob, b1, b2, b3, b4, b5, b6⟩ := G.main
    refine ⟨bm, ob, b1, b2, ?_, ?_, hidT_get b3 (F.free G ha b3 (fun vs n z => ?_) fun z => ?_), b4, b5, b6⟩
    · rintro rfl
      obtain ⟨o, es, ep, e, hd, _⟩ := G.glo
      cases e.symm.trans b3
      cases hd.symm.trans b6
    · rintro rfl
      cases e.symm.trans b3
      cases b6
    · cases b6.symm.trans z
    · cases b6.symm.trans z
  · intro z
    obtain ⟨o, es, ep, e2, hd, _⟩ := G.glo
    rw [← z] at e
    cases e2.symm.trans e
    cases hd
theorem Begun.core (G : Begun K mg mb cs s1) (ha : s1.heap.get? a = some { cls := .type "list", data := .seq vs.toArray }) (hr : Room k callerA)
    (F : ∀ base : Heap, K.In base → base.Ns mainGlobals mg → (∀ p ∈ cs, TabB base mg p.1 p.2) → FnG P w K mg base k fa fd [x] sp) (bd : ∀ (s : Shared) (u : Value), BindsTo s fd ⟨[u], []⟩ [(x, u)]) {H : Hp} (few : Few cs s1 a H) (hsp : sp [.ref a] H (fun v _ => v = .bl true) fun _ _ _ => False)
    (hok : HOk P w H s1.heap) (hK : H a ≠ none → K.lookup a = none) : codeAny (model P w) callerA (.call (.ref fa) ⟨[.ref a], []⟩) (fun r s' => r = .ok (.ret (.bool true)) ∧ OldK s1.heap s'.heap ∧ s'.os = s1.os ∧ AllBare s'.gens) s1 := by
  have inB := few.kin G hK
  have md : L2.Mod K mg (hidT s1.heap H) := by
    refine ⟨inB, few.spc G ha G.glo, ⟨mb, few.spc G ha G.blt, G.boot⟩, ?_⟩
    obtain ⟨mc, c1, c2⟩ := G.lim
    exact ⟨mc, few.spc G ha c1, c2⟩
  have env : Env0 P w K mg (hidT s1.heap H) callerA [] s1 H := by
    refine ⟨rfl, md, fun b o e => of_hidT e, Nat.le_of_eq (hidT_size _ _), trivial, ?_, hok, .of_eq G.gens⟩
    intro b hb
    simp [frs] at hb
  have run := (F _ inB (few.spc G ha G.glo) (few.tab G ha)).go callerA [] s1 H ⟨[.ref a], []⟩ [.ref a] [.ref a] _ _ rfl hr env (bd s1 (.ref a)) (.cons rfl .nil) hsp
  refine codeAny_mono run ?_
  intro r s' z
  cases r with
  | error e => exact (show False from z).elim
  | ok fl =>
    cases fl with
    | next => exact (show False from z).elim
    | brk => exact (show False from z).elim
    | cont => exact (show False from z).elim
    | ret u =>
      obtain ⟨v, H', os, bare, un, hok', ru, rfl⟩ := z
      obtain rfl : u = Value.bool true := ru
      have stay : ∀ b o, b ∉ cs.map (·.2) → s1.heap.get? b = some o → s'.heap.get? b = some o := by
        intro b o nb e
        rcases few.o b with y | y | ⟨ob, xs, y⟩
        · exact un.keep b o e y (by simp [frs]) (by simp)
        · exact (nb y).elim
        · have g1 := (hok b _ y).1
          have g2 := (hok' b _ (un.frzs b ob _ y)).1
          exact g2.trans (g1.symm.trans e)
      have more : ∀ p ∈ cs, ∃ us : Array Value, s'.heap.get? p.2 = some { cls := .none, data := .fields us } := by
        intro p hp
        obtain ⟨us, y⟩ := un.tbls p.2 #[] (few.t p hp)
        exact ⟨_, hok' p.2 _ y⟩
      refine ⟨rfl, ⟨?_, ?_⟩, os, bare⟩
      · intro b o e
        by_cases hb : b ∈ cs.map (·.2)
        · obtain ⟨p, hp, rfl⟩ := List.mem_map.mp hb
          obtain ⟨us, y⟩ := more p hp
          cases e.symm.trans (G.tbl p hp)
          exact .inr (.inl ⟨((G.cod p hp).tab (G.tbl p hp)).isCodeTable, rfl, #[], us, rfl, by rw [Array.empty_append]; exact y⟩)
        · exact .inl (stay b o hb e)
      · intro b o e
        by_cases hb : b ∈ cs.map (·.2)
        · obtain ⟨p, hp, rfl⟩ := List.mem_map.mp hb
          obtain ⟨us, y⟩ := more p hp
          exact ⟨_, y⟩
        · exact ⟨o, stay b o hb e⟩
theorem Begun.call (G : Begun K mg mb cs s1) (ha : s1.heap.get? a = some { cls := .type "list", data := .seq vs.toArray }) (hi : IntsAre vs ns) (hl : ns.length ≤ sizeLine) (hr : Room k callerA)
    (F : ∀ base : Heap, K.In base → base.Ns mainGlobals mg → (∀ p ∈ cs, TabB base mg p.1 p.2) → FnG P w K mg base k fa fd [x] sp) (bd : ∀ (s : Shared) (u : Value), BindsTo s fd ⟨[u], []⟩ [(x, u)])
    (hsp : ∀ H : Hp, (∀ p ∈ cs, H p.2 = some (.tbl #[])) → SqL K H a (ns.map V.int) → sp [.ref a] H (fun v _ => v = .bl true) fun _ _ _ => False) :
    codeAny (model P w) callerA (.call (.ref fa) ⟨[.ref a], []⟩) (fun r s' => r = .ok (.ret (.bool true)) ∧ OldK s1.heap s'.heap ∧ s'.os = s1.os ∧ AllBare s'.gens) s1 := by
  have rv := vals_ints hi
  have ln := hi.length
  have aT : ∀ b ∈ cs.map (·.2), b ≠ a := by
    rintro b hb rfl
    have z := ha.symm.trans (G.istbl hb)
    cases z
  have mem : ∀ p ∈ cs, p.2 ∈ cs.map (·.2) := fun p hp => List.mem_map_of_mem hp
  let T : Hp := fun b => if b ∈ cs.map (·.2) then some (.tbl #[]) else none
  have Ty : ∀ b, b ∈ cs.map (·.2) → T b = some (.tbl #[]) := fun b hb => if_pos hb
  have Tn : ∀ b, b ∉ cs.map (·.2) → T b = none := fun b hb => if_neg hb
  have an : T a = none := Tn a fun z => aT a z rfl
  cases hk : K.lookup a with
  | some o =>
    cases (G.kin a o hk).symm.trans ha
    have few : Few cs s1 a T := by
      refine ⟨fun p hp => Ty _ (mem p hp), fun b => ?_, fun b z => ?_⟩
      · by_cases hb : b ∈ cs.map (·.2)
        · exact .inr (.inl hb)
        · exact .inl (Tn b hb)
      · by_cases hb : b ∈ cs.map (·.2)
        · exact .inr hb
        · exact (z (Tn b hb)).elim
    refine G.core ha hr F bd few (hsp T few.t (.inr ⟨_, vs.toArray, _, hk, rfl, rfl, rfl, ?_, ?_⟩)) (fun b u z => ?_) (fun z => (z an).elim)
    · rw [List.size_toArray, ln]
      exact hl
    · simpa using rv
    · by_cases hb : b ∈ cs.map (·.2)
      · cases (Ty b hb).symm.trans z
        exact G.istbl hb
      · cases (Tn b hb).symm.trans z
  | none =>
    let H : Hp := fun b => if b = a then some (.frz { cls := .type "list", data := .seq vs.toArray } (.lst (ns.map V.int))) else T b
    have Ha : H a = some (.frz { cls := .type "list", data := .seq vs.toArray } (.lst (ns.map V.int))) := if_pos rfl
    have Hn : ∀ b, b ≠ a → H b = T b := fun b hb => if_neg hb
    have few : Few cs s1 a H := by
      refine ⟨fun p hp => (Hn _ (aT _ (mem p hp))).trans (Ty _ (mem p hp)), fun b => ?_, fun b z => ?_⟩
      · by_cases h1 : b = a
        · subst h1
          exact .inr (.inr ⟨_, _, Ha⟩)
        · by_cases hb : b ∈ cs.map (·.2)
          · exact .inr (.inl hb)
          · exact .inl ((Hn b h1).trans (Tn b hb))
      · by_cases h1 : b = a
        · exact .inl h1
        · by_cases hb : b ∈ cs.map (·.2)
          · exact .inr hb
          · exact (z ((Hn b h1).trans (Tn b hb))).elim
    refine G.core ha hr F bd few (hsp H few.t (.inl (.inr ⟨_, Ha⟩))) (fun b u z => ?_) (fun _ => hk)
    by_cases h1 : b = a
    · subst h1
      cases Ha.symm.trans z
      exact ⟨ha, by rw [List.length_map]; exact hl, vs, _, rv, ha⟩
    · have z := (Hn b h1).symm.trans z
      by_cases hb : b ∈ cs.map (·.2)
      · cases (Ty b hb).symm.trans z
        exact G.istbl hb
      · cases (Tn b hb).symm.trans z
end
/-- what is known of the law's promise at the head's heap -/
def LawAtG (l : PySem.W.OpenLaw) (w : World) (K : PySem.W.Frag) (k n : Nat) (x : Str) (mg : Str → Option Value) (fa : Addr) (h : Heap) : Prop :=
  ∃ (fd : FuncData) (cs : List (Addr × Addr)) (sp : Sp), (∀ p ∈ cs, h.get? p.2 = some { cls := .none, data := .fields #[] }) ∧ (∀ p ∈ cs, K.lookup p.2 = none) ∧ (∀ p ∈ cs, PySem.W.CodeHd h p.1 p.2) ∧ (∀ (s : Shared) (u : Value), BindsTo s fd ⟨[u], []⟩ [(x, u)]) ∧
    (∀ (H : Hp) (a : Addr) (ns : List Int), ns.length ≤ n → (∀ y ∈ ns, Builtin.Int.intBits y ≤ 1048576) → (∀ p ∈ cs, H p.2 = some (.tbl #[])) → SqL K H a (ns.map V.int) → sp [.ref a] H (fun v _ => v = .bl true) fun _ _ _ => False) ∧
    ∀ base : Heap, K.In base → base.Ns mainGlobals mg → (∀ p ∈ cs, TabB base mg p.1 p.2) → FnG l.prog w K mg base k fa fd [x] sp
theorem walk_ofG {l : PySem.W.OpenLaw} {n k : Nat} {q : Program} {loose : List Str} {XP : (Str → Option Value) → Heap → Prop} {YP : World → Heap → Prop} {d : DefRec} {K : Params → PySem.W.Frag} {x : Str}
    (hn : l.most = some n) (hn2 : n ≤ sizeLine) (hdf : d.params.defaults = []) (hr : Room k callerA) (hY : ∀ (w : World) (h : Heap), YP w h → (K w.params).In h)
    (F : ∀ (w : World) (mg mb : Str → Option Value) (mean : ExcName → Option Value) (fa : Addr) (h : Heap), Top q (PySem.W.looseW q loose) mean mg mb h → (K w.params).In h → h.Ns mainGlobals mg → mg d.name = some (.ref fa) → LawAtG l w (K w.params) k n x mg fa h) :
    PySem.W.WalkO q loose XP YP l.row.toRowW d [] (fun f vs => PySem.call f vs) := by
  apply Att.attach_callB hn hdf
  intro w s₀ s₁ mg mb fa o pm cd doc a vs ns G Y ho hd hcd hmg hobj hints hlen hbits hg
  have kx := hY w _ Y
  obtain ⟨fd, cs, sp, hT, nT, C, hb, hsp, hF⟩ := F w mg mb _ fa _ G.T kx G.T.g hmg
  have st : Begun (K w.params) mg mb cs s₁ := ⟨kx, G.T.g, G.T.b, G.T.builtins, G.T.nolimit, hg, hT, nT, C, G.T.bmain⟩
  exact st.call hobj hints (Nat.le_trans hlen hn2) hr hF hb (fun H hH hS => hsp H a ns hlen hbits hH hS)
end Own

/-! What a cup tells and stays as it is. -/
namespace Own
open PySem PySem.Spec PyProof.Rows L2 LamX
/-- a question that leaves all as it is -/
def apP (R : CupRel) (T : List (Addr × Str)) (G : Nat → List Int → List Ent → V → Hp → Hp → Prop) : Sp := fun vs H Q _ => ∃ (a : Addr) (k : Nat) (row : List Int) (es : List Ent) (S D : AS), vs = [.ref a] ∧ Tabs T H ∧ R H a k row es S D ∧ row.length < 2 ^ 200 ∧
  ∀ H' y, Tabs T H' → ExtN H H' → G k row es y H H' → Q y H'
def apCountP (R : CupRel) (T : List (Addr × Str)) : Sp := apP R T fun _ row _ y _ _ => y = .int (row.length : Int)
def apOffP (R : CupRel) (T : List (Addr × Str)) : Sp := apP R T fun k row _ y _ _ => y = .int ((offN row.length k : Nat) : Int)
def apBoundP (R : CupRel) (T : List (Addr × Str)) : Sp := apP R T fun k row _ y _ _ => y = .int ((bndN row.length k : Nat) : Int)
def apKeptP (R : CupRel) (T : List (Addr × Str)) : Sp := apP R T fun _ _ es y H H' => ∃ p xs, y = .ref p ∧ H' p = some (.lst xs) ∧ EntsAre H' xs es ∧ NewN H p ∧ ∀ v ∈ xs, ∀ t, v = .ref t → NewN H t
/-- a cup behind what changes nothing old -/
theorem CupApi.extN {R : CupRel} {C : Addr} (A : CupApi R C) {H H' : Hp} {a k row es S D} (r : R H a k row es S D) (e : ExtN H H') : R H' a k row es S D := A.frame r fun b o hb h => by
  obtain ⟨o', e', nt⟩ := A.old r b hb
  cases h.symm.trans e'
  exact e b o h nt
end Own

/-! What is told of three cups; refusals. -/
namespace Own
open PySem PySem.Spec PyProof.Rows L2 LamX
/-! ### data of entries -/
def entD (e : Ent) : PyData := .tuple [.int e.1, .int e.2.1, .int e.2.2]
def entsD (es : List Ent) : PyData := .list (es.map entD)
def cupD (k : Nat) (row : List Int) (es : List Ent) : PyData := .list [entsD es, .int (row.length : Int), .int ((offN row.length k : Nat) : Int), .int (k : Int)]
/-- what is held of an object while cups change -/
def Hel (n : Nat) (S : Nat → AS) (H : Hp) (b : Addr) (o : HO) : Prop := H b = some o ∧ (∀ ps, o ≠ .tbl ps) ∧ ¬ Un n S b
/-- cups of a law, and the list of them -/
structure Trio (R : CupRel) (T : List (Addr × Str)) (H : Hp) (as : List Addr) (l : Addr) (ks : Nat → Nat) (rows : Nat → List Int) (es : Nat → List Ent) (S D : Nat → AS) : Prop where
  tabs : Tabs T H
  cups : CupsAt R H as ks rows es S D
  ml : Mine as.length S D H l (.lst (as.map V.ref))
section
variable {R : CupRel} {C : Addr} {T : List (Addr × Str)} {H H' : Hp} {as : List Addr} {l : Addr} {ks : Nat → Nat} {rows : Nat → List Int} {es : Nat → List Ent} {S D : Nat → AS}
theorem Trio.ext (A : CupApi R C) (g : Trio R T H as l ks rows es S D) (s : ExtN H H') (t : Tabs T H') : Trio R T H' as l ks rows es S D :=
  ⟨t, g.cups.ext A fun x o ⟨i, hi, z⟩ e => by
    obtain ⟨o', e', nt⟩ := A.old (g.cups.at_ i _ (List.getElem?_eq_getElem hi)) x z
    rw [e] at e'
    cases e'
    exact s x o e nt, g.ml.ext s⟩
theorem Trio.same (A : CupApi R C) (g : Trio R T H as l ks rows es S D) (s : Same H H') : Trio R T H' as l ks rows es S D := g.ext A (ExtN.of s) (g.tabs.ext s)
theorem Trio.ask (A : CupApi R C) (g : Trio R T H as l ks rows es S D) {i : Nat} {a : Addr} (hi : as[i]? = some a) {S' D' : AS} (r : R H' a (ks i) (rows i) (es i) S' D') (mv : Moves H H' (S i) (D i) S' D') (t : Tabs T H') :
    ∃ S2 D2, Trio R T H' as l ks rows es S2 D2 ∧ ∀ b o, Mine as.length S D H b o → Mine as.length S2 D2 H' b o := by
  obtain ⟨S2, D2, c2, k, _, _⟩ := g.cups.asked A hi r mv
  exact ⟨S2, D2, ⟨t, c2, k _ _ g.ml⟩, k⟩
end
/-- all that three cups tell -/
def trioD (as : List Addr) (ks : Nat → Nat) (rows : Nat → List Int) (es : Nat → List Ent) : PyData := .list ((List.range as.length).map fun i => cupD (ks i) (rows i) (es i))
def lpState (R : CupRel) (T : List (Addr × Str)) : Sp := fun vs H Q _ => ∃ (as : List Addr) (l : Addr) (ks : Nat → Nat) (rows : Nat → List Int) (es : Nat → List Ent) (S D : Nat → AS), vs = [.ref l] ∧ Trio R T H as l ks rows es S D ∧ as.length ≤ 3 ∧ (∀ i, i < as.length → (rows i).length < 2 ^ 200) ∧ (∀ i, i < as.length → ∀ x ∈ rows i, InR x) ∧
  ∀ H', Tabs T H' → ExtN H H' → Q (.str (trioD as ks rows es).shown) H'
def lpOdd5 : Sp := fun vs H Q _ => ∃ (c : Int) (m : Int), vs = [.int c, .int m] ∧ 0 ≤ m ∧ ∀ H' v, Same H H' → BadV (-m) m H' v → Q v H'
/-- the class of a refusal, by the way -/
def wayC (BR BT U NP : Addr) (way : Int) : Addr := if way = 0 then BR else if way = 1 then BT else if way = 2 then BR else if way = 3 then U else if way = 4 then U else if way = 5 then NP else BR
def lpTried (R : CupRel) (T : List (Addr × Str)) (BR BT U NP : Addr) : Sp := fun vs H Q E => ∃ (y1 y2 y3 l : Addr) (ks : Nat → Nat) (rows : Nat → List Int) (es : Nat → List Ent) (S D : Nat → AS) (way c : Int), vs = [.ref l, .int way, .int c] ∧ Trio R T H [y1, y2, y3] l ks rows es S D ∧ (∀ i, i < 3 → (rows i).length < 2 ^ 198) ∧ ks 0 ≠ ks 2 ∧ ks 1 ≠ ks 2 ∧
  ∀ H' S' D', Trio R T H' [y1, y2, y3] l ks rows es S' D' → (∀ b o, Mine 3 S D H b o → Mine 3 S' D' H' b o) → E (.ref (wayC BR BT U NP way)) none H'
def wayN (way : Int) : Int := if way = 0 then 0 else if way = 1 then 1 else if way = 2 then 0 else if way = 3 then 2 else if way = 4 then 2 else if way = 5 then 3 else 0
def lpWord5 (R : CupRel) (T : List (Addr × Str)) : Sp := fun vs H Q _ => ∃ (y1 y2 y3 l : Addr) (ks : Nat → Nat) (rows : Nat → List Int) (es : Nat → List Ent) (S D : Nat → AS) (way c : Int), vs = [.ref l, .int way, .int c] ∧ Trio R T H [y1, y2, y3] l ks rows es S D ∧ (∀ i, i < 3 → (rows i).length < 2 ^ 198) ∧ ks 0 ≠ ks 2 ∧ ks 1 ≠ ks 2 ∧
  ∀ H' S' D' p, Trio R T H' [y1, y2, y3] l ks rows es S' D' → (∀ b o, Mine 3 S D H b o → Mine 3 S' D' H' b o) → H' p = some (.lst [.bl true, .int (wayN way)]) → Q (.ref p) H'
end Own

/-! How long a text is that shows entries. -/
namespace Own
open PySem PySem.Spec PyProof.Rows L2 LamX
theorem showableAll_of {ds : List PyData} (h : ∀ d ∈ ds, d.showable = true) : PyData.showableAll ds = true := by
  induction ds with
  | nil => simp [PyData.showableAll]
  | cons d r ih => simp [PyData.showableAll, h d List.mem_cons_self, ih fun x hx => h x (List.mem_cons_of_mem _ hx)]
theorem hasDictAll_of {ds : List PyData} (h : ∀ d ∈ ds, d.hasDict = false) : PyData.hasDictAll ds = false := by
  induction ds with
  | nil => simp [PyData.hasDictAll]
  | cons d r ih => simp [PyData.hasDictAll, h d List.mem_cons_self, ih fun x hx => h x (List.mem_cons_of_mem _ hx)]
theorem depthAll_of {ds : List PyData} {n : Nat} (h : ∀ d ∈ ds, d.depth ≤ n) : PyData.depthAll ds ≤ n := by
  induction ds with
  | nil => simp [PyData.depthAll]
  | cons d r ih =>
    have a := h d List.mem_cons_self
    have b := ih fun x hx => h x (List.mem_cons_of_mem _ hx)
    simp only [PyData.depthAll]
    omega
theorem sumLen_of {ds : List PyData} {n : Nat} (h : ∀ d ∈ ds, d.shown.length ≤ n) : ((PyData.shownAll ds).map (·.length)).sum ≤ n * ds.length ∧ (PyData.shownAll ds).length = ds.length := by
  induction ds with
  | nil => simp [PyData.shownAll]
  | cons d r ih =>
    have a := h d List.mem_cons_self
    obtain ⟨b, c⟩ := ih fun x hx => h x (List.mem_cons_of_mem _ hx)
    simp only [PyData.shownAll, List.map_cons, List.sum_cons, List.length_cons]
    refine ⟨?_, by omega⟩
    rw [Nat.mul_succ]
    omega
/-- data that repr shows, of so many signs -/
structure Shw (x : PyData) (dep len : Nat) : Prop where
  s : x.showable = true
  h : x.hasDict = false
  d : x.depth ≤ dep
  l : x.shown.length ≤ len
theorem Shw.mono {x : PyData} {a b n m : Nat} (s : Shw x a n) (h1 : a ≤ b) (h2 : n ≤ m) : Shw x b m := ⟨s.s, s.h, Nat.le_trans s.d h1, Nat.le_trans s.l h2⟩
theorem shw_int {i : Int} {k : Nat} (hk : 0 < k) (h : i.natAbs < 10 ^ k) (h2 : i.natAbs < 2 ^ 1000) : Shw (.int i) 0 (k + 1) := by
  refine ⟨?_, by simp [PyData.hasDict], by simp [PyData.depth], ?_⟩
  · simp only [PyData.showable]
    apply decide_eq_true
    by_cases z : i.natAbs = 0
    · rw [z]
      decide
    · have := (Nat.log2_lt z).mpr h2
      omega
  · have e := int_text_length_le10 hk h
    rw [← PySem.ofString_length] at e
    simp only [PyData.shown]
    exact e
theorem shw_list {ds : List PyData} {a n : Nat} (h : ∀ d ∈ ds, Shw d a n) : Shw (.list ds) (a + 1) ((n + 2) * ds.length + 3) := by
  refine ⟨?_, ?_, ?_, ?_⟩
  · simp only [PyData.showable]
    exact showableAll_of fun d hd => (h d hd).s
  · simp only [PyData.hasDict]
    exact hasDictAll_of fun d hd => (h d hd).h
  · simp only [PyData.depth]
    have := depthAll_of fun d hd => (h d hd).d
    omega
  · obtain ⟨a, b⟩ := sumLen_of fun d hd => (h d hd).l
    have := listText_len_le (PyData.shownAll ds)
    rw [b] at this
    simp only [PyData.shown]
    rw [Nat.add_mul]
    omega
theorem shw_tuple {ds : List PyData} {a n : Nat} (h : ∀ d ∈ ds, Shw d a n) : Shw (.tuple ds) (a + 1) ((n + 2) * ds.length + 3) := by
  refine ⟨?_, ?_, ?_, ?_⟩
  · simp only [PyData.showable]
    exact showableAll_of fun d hd => (h d hd).s
  · simp only [PyData.hasDict]
    exact hasDictAll_of fun d hd => (h d hd).h
  · simp only [PyData.depth]
    have := depthAll_of fun d hd => (h d hd).d
    omega
  · obtain ⟨a, b⟩ := sumLen_of fun d hd => (h d hd).l
    have := tupleText_len_le (PyData.shownAll ds)
    rw [b] at this
    simp only [PyData.shown]
    rw [Nat.add_mul]
    omega
theorem ten66 : (2 : Nat) ^ 219 ≤ 10 ^ 66 := by decide +kernel
theorem shw_big {i : Int} (h0 : 0 ≤ i) (h : i < 2 ^ 219) : Shw (.int i) 0 67 := by
  have e : ((2 : Int) ^ 219) = ((2 ^ 219 : Nat) : Int) := by norm_cast
  have hn : i.natAbs < 2 ^ 219 := by omega
  exact shw_int (by decide) (Nat.lt_of_lt_of_le hn ten66) (Nat.lt_of_lt_of_le hn (Nat.pow_le_pow_right (by decide) (by decide)))
theorem shw_reading {i : Int} (h : InR i) : Shw (.int i) 0 67 := by
  have h1 := h.1
  have h2 := h.2
  have hn : i.natAbs < 10 ^ 19 := by omega
  exact (shw_int (k := 19) (by decide) hn (Nat.lt_trans hn (by decide +kernel))).mono (Nat.le_refl _) (by decide)
theorem clt_nn (row : List Int) (x : Int) : 0 ≤ clt row x := Int.natCast_nonneg _
theorem shw_ents {es : List Ent} {row : List Int} (hr : ∀ x ∈ row, InR x) (hn : row.length < 2 ^ 200) (tru : ∀ e ∈ es, TrueE row e) (low : ∀ e ∈ es, 0 ≤ e.2.1 ∧ e.2.2 < (row.length : Int)) : Shw (entsD es) 2 (212 * es.length + 3) := by
  have hb : 2 ^ 200 < 2 ^ 219 := Nat.pow_lt_pow_right (by decide) (by decide)
  have e : ((2 : Int) ^ 219) = ((2 ^ 219 : Nat) : Int) := by norm_cast
  have key : ∀ d ∈ es.map entD, Shw d 1 210 := by
    intro d hd
    obtain ⟨x, hx, rfl⟩ := List.mem_map.mp hd
    obtain ⟨t1, t2, t3⟩ := tru x hx
    obtain ⟨l1, l2⟩ := low x hx
    have c1 : cle row x.1 ≤ (row.length : Int) := Int.ofNat_le.mpr (List.length_filter_le _ _)
    have c2 := clt_nn row x.1
    refine (shw_tuple (a := 0) (n := 67) fun d hd => ?_).mono (Nat.le_refl _) (by show (67 + 2) * 3 + 3 ≤ 210; decide)
    simp only [List.mem_cons, List.not_mem_nil, or_false] at hd
    rcases hd with rfl | rfl | rfl
    · exact shw_reading (hr _ t1)
    · exact shw_big l1 (by rw [e]; omega)
    · exact shw_big (by omega) (by rw [e]; omega)
  have := shw_list key
  rw [List.length_map] at this
  exact this
theorem off_small {n k : Nat} (hn : n < 2 ^ 200) : offN n k < 2 ^ 218 := by
  rw [offN_ones]
  have hd := div_small (k := k) hn
  have hl := ones_len 200 _ 0 hd
  have hj := ones_lt hd
  generalize onesD (n / k) 0 = js at hl hj
  have : (js.map fun j => j * 2 ^ j / 2).sum ≤ js.length * 2 ^ 208 := by
    clear hl
    induction js with
    | nil => simp
    | cons j r ih =>
      have a := ih fun x hx => hj x (List.mem_cons_of_mem _ hx)
      have b := hj j List.mem_cons_self
      have c : 2 ^ j ≤ 2 ^ 200 := Nat.pow_le_pow_right (by decide) (by omega)
      have d : j * 2 ^ j ≤ 200 * 2 ^ 200 := Nat.mul_le_mul (by omega) c
      have f : 200 * 2 ^ 200 ≤ 2 ^ 208 := by decide +kernel
      rw [List.map_cons, List.sum_cons, List.length_cons, Nat.succ_mul]
      omega
  have h2 : js.length * 2 ^ 208 ≤ 200 * 2 ^ 208 := Nat.mul_le_mul_right _ hl
  have h3 : 200 * 2 ^ 208 < 2 ^ 218 := by decide +kernel
  omega
theorem shw_cup {R : CupRel} {C : Addr} (A : CupApi R C) (L : CupLow R) {H a k row es S D} (r : R H a k row es S D) (hr : ∀ x ∈ row, InR x) (hn : row.length < 2 ^ 200) : Shw (cupD k row es) 3 4500000 := by
  obtain ⟨k1, k2⟩ := A.keep r
  have kp := A.kept r
  have fw : es.length ≤ 20000 := Nat.le_trans kp.few (bnd_small k1 k2 hn)
  have se := shw_ents hr hn kp.tru (L.low r)
  have hb : 2 ^ 200 < 2 ^ 219 := Nat.pow_lt_pow_right (by decide) (by decide)
  have hb2 : 2 ^ 218 < 2 ^ 219 := Nat.pow_lt_pow_right (by decide) (by decide)
  have e : ((2 : Int) ^ 219) = ((2 ^ 219 : Nat) : Int) := by norm_cast
  have s1 := shw_big (i := (row.length : Int)) (by omega) (by rw [e]; omega)
  have s2 := shw_big (i := ((offN row.length k : Nat) : Int)) (by omega) (by rw [e]; have := off_small (k := k) hn; omega)
  have s3 := shw_big (i := (k : Int)) (by omega) (by rw [e]; omega)
  have key : ∀ d ∈ [entsD es, .int (row.length : Int), .int ((offN row.length k : Nat) : Int), .int (k : Int)], Shw d 2 4240010 := by
    intro d hd
    simp only [List.mem_cons, List.not_mem_nil, or_false] at hd
    rcases hd with rfl | rfl | rfl | rfl
    · exact se.mono (Nat.le_refl _) (by omega)
    · exact s1.mono (by decide) (by decide)
    · exact s2.mono (by decide) (by decide)
    · exact s3.mono (by decide) (by decide)
  have w := shw_list key
  refine ⟨w.s, w.h, w.d, ?_⟩
  have t : (cupD k row es).shown.length ≤ ((PyData.shownAll [entsD es, .int (row.length : Int), .int ((offN row.length k : Nat) : Int), .int (k : Int)]).map (·.length)).sum + 2 * 4 + 3 := by
    unfold cupD
    simp only [PyData.shown]
    exact listText_len_le _
  simp only [PyData.shownAll, List.map_cons, List.map_nil, List.sum_cons, List.sum_nil] at t
  have a1 := se.l
  have a2 := s1.l
  have a3 := s2.l
  have a4 := s3.l
  omega
theorem shw_trio {R : CupRel} {C : Addr} (A : CupApi R C) (L : CupLow R) {H : Hp} {as : List Addr} {ks : Nat → Nat} {rows : Nat → List Int} {es : Nat → List Ent} {S D : Nat → AS} (c : CupsAt R H as ks rows es S D) (h3 : as.length ≤ 3) (hr : ∀ i, i < as.length → ∀ x ∈ rows i, InR x) (hn : ∀ i, i < as.length → (rows i).length < 2 ^ 200) : Shw (trioD as ks rows es) 4 16000000 := by
  have key : ∀ d ∈ (List.range as.length).map fun i => cupD (ks i) (rows i) (es i), Shw d 3 4500000 := by
    intro d hd
    obtain ⟨i, hi, rfl⟩ := List.mem_map.mp hd
    have hi := List.mem_range.mp hi
    exact shw_cup A L (c.at_ i _ (List.getElem?_eq_getElem hi)) (hr i hi) (hn i hi)
  have w := shw_list key
  rw [List.length_map, List.length_range] at w
  exact w.mono (Nat.le_refl _) (by omega)
/-! data that lies in the heap -/
theorem sqT_extN {K : PySem.W.Frag} {H H' : Hp} {a : Addr} {xs : List V} (e : ExtN H H') (h : SqT K H a xs) : SqT K H' a xs := by
  rcases h with (h | ⟨o, h⟩) | h
  · exact .inl (.inl (e _ _ h (fun ps z => nomatch z)))
  · exact .inl (.inr ⟨o, e _ _ h (fun ps z => nomatch z)⟩)
  · exact .inr h
theorem dpAll_snoc {K : PySem.W.Frag} {H : Hp} {v : V} {d : PyData} (h : Dp K H v d) : ∀ {vs : List V} {ds : List PyData}, DpAll K H vs ds → DpAll K H (vs ++ [v]) (ds ++ [d])
  | _, _, .nil => .cons h .nil
  | _, _, .cons a r => .cons a (dpAll_snoc h r)
mutual
theorem dp_ext {K : PySem.W.Frag} {H H' : Hp} (e : ExtN H H') : ∀ (d : PyData) (v : V), Dp K H v d → Dp K H' v d
  | .none, _, h => by cases h; exact .non
  | .bool b, _, h => by cases h; exact .bl _
  | .int i, _, h => by cases h; exact .int _
  | .str x, _, h => by cases h; exact .str _
  | .list ds, _, h => by
    cases h with
    | lst hs ha => exact .lst (sqL_extN e hs) (dpAll_ext e ds _ ha)
  | .tuple ds, _, h => by
    cases h with
    | tup hs ha => exact .tup (sqT_extN e hs) (dpAll_ext e ds _ ha)
  | .dict _, _, h => by cases h
theorem dpAll_ext {K : PySem.W.Frag} {H H' : Hp} (e : ExtN H H') : ∀ (ds : List PyData) (vs : List V), DpAll K H vs ds → DpAll K H' vs ds
  | [], _, h => by cases h; exact .nil
  | d :: ds, _, h => by
    cases h with
    | cons h1 h2 => exact .cons (dp_ext e d _ h1) (dpAll_ext e ds _ h2)
end
theorem dp_ents {K : PySem.W.Frag} {H : Hp} {xs : List V} {es : List Ent} (h : EntsAre H xs es) : DpAll K H xs (es.map entD) := by
  induction h with
  | nil => exact .nil
  | cons r t ih =>
    obtain ⟨t, rfl, ht⟩ := r
    exact .cons (.tup (.inl (.inl ht)) (.cons (.int _) (.cons (.int _) (.cons (.int _) .nil)))) ih
/-! a heap without one of its objects -/
def era (L : Addr) (H : Hp) : Hp := fun b => if b = L then none else H b
theorem era_upd (L : Addr) (H : Hp) (o : HO) : era L (upd H L o) = era L H := by
  funext b
  unfold era
  split
  · rfl
  · rename_i h
    exact upd_ne h
theorem era_of {L b : Addr} {H : Hp} {o : HO} (n : b ≠ L) (h : H b = some o) : era L H b = some o := by
  unfold era
  rw [if_neg n]
  exact h
theorem era_ext {L : Addr} {H H' : Hp} (e : ExtN H H') : ExtN (era L H) (era L H') := fun b o h nt => by
  unfold era at h ⊢
  split at h
  · cases h
  · rename_i n
    rw [if_neg n]
    exact e b o h nt
theorem era_sub {L : Addr} {H : Hp} : ExtN (era L H) H := fun b o h _ => by
  unfold era at h
  split at h
  · cases h
  · exact h
theorem ents_era {L : Addr} {H : Hp} {xs : List V} {es : List Ent} (h : EntsAre H xs es) : (∀ v ∈ xs, ∀ t, v = .ref t → t ≠ L) → EntsAre (era L H) xs es := by
  induction h with
  | nil => exact fun _ => .nil
  | cons r t ih =>
    intro n
    obtain ⟨b, rfl, hb⟩ := r
    exact .cons ⟨b, rfl, era_of (n _ List.mem_cons_self b rfl) hb⟩ (ih fun v hv => n v (List.mem_cons_of_mem _ hv))
end Own

/-! Three cups of which the last one may keep another number; readings come to them. -/
namespace Own
open PySem PySem.Spec PyProof.Rows L2 LamX
theorem comeRows_in {n : Nat} {rows : Nat → List Int} {d : Deed} (dk : DeedOk d) (hc : d.cup < n) (hs : ∀ c s, d = .pour c s → s < n) (h : ∀ j, j < n → ∀ x ∈ rows j, InR x) : ∀ j, j < n → ∀ x ∈ comeRows rows d j, InR x := by
  intro j hj x hx
  cases d with
  | pour c s =>
    have hx : x ∈ setAt rows c (rows c ++ rows s) j := hx
    unfold setAt at hx
    split at hx
    · rcases List.mem_append.mp hx with z | z
      · exact h c hc x z
      · exact h s (hs c s rfl) x z
    · exact h j hj x hx
  | add c y m step t =>
    obtain ⟨h1, h2, h3, h4⟩ := dk.ok
    have hx : x ∈ setAt rows c (comeRow (rows c) y m step t.toNat) j := hx
    unfold setAt at hx
    split at hx
    · unfold comeRow at hx
      rcases List.mem_append.mp hx with z | z
      · exact h c hc x z
      · obtain ⟨k, hk, z⟩ := List.mem_flatMap.mp z
        rw [List.eq_of_mem_replicate z]
        exact h4 k (List.mem_range.mp hk)
    · exact h j hj x hx
section
variable {R : CupRel} {C : Addr} {T : List (Addr × Str)} {H H' : Hp} {as : List Addr} {l : Addr} {ks : Nat → Nat} {rows : Nat → List Int} {es : Nat → List Ent} {S D : Nat → AS}
/-- one cup moves -/
theorem Trio.move (A : CupApi R C) (g : Trio R T H as l ks rows es S D) {i : Nat} {a : Addr} (hi : as[i]? = some a) {row' : List Int} {es' : List Ent} {S' D' : AS} (r : R H' a (ks i) row' es' S' D') (ch : Chg (S i) H H') (hs : ∀ b, S' b → S i b ∨ NewN H b) (hd : ∀ b, D' b → D i b ∨ (∃ j, j < as.length ∧ j ≠ i ∧ D j b ∧ ¬ S j b) ∨ NewN H b) (t : Tabs T H') :
    ∃ S2 D2, Trio R T H' as l ks (setAt rows i row') (setAt es i es') S2 D2 ∧ ∀ b o, Mine as.length S D H b o → Mine as.length S2 D2 H' b o := by
  have il := (List.getElem?_eq_some_iff.mp hi).1
  have c2 := g.cups.move A hi r ch hs hd
  have mv : ∀ b o, Mine as.length S D H b o → Mine as.length (setAt S i S') (setAt D i D') H' b o := fun b o m => m.move (ch.un il) (un_set il hs) (un_setU fun x h => by
    rcases hd x h with z | ⟨j, hj, _, z, _⟩ | z
    · exact .inl ⟨i, il, z⟩
    · exact .inl ⟨j, hj, z⟩
    · exact .inr z)
  exact ⟨_, _, ⟨t, c2, mv _ _ g.ml⟩, mv⟩
/-- a deed is done -/
theorem Trio.done (g : Trio R T H as l ks rows es S D) {d : Deed} {es' : Nat → List Ent} {S' D' : Nat → AS} (t : Tabs T H') (c : CupsAt R H' as ks (comeRows rows d) es' S' D') (ch : Chg (Un as.length S) H H') (un : ∀ b, Un as.length S' b → Un as.length S b ∨ NewN H b) (ud : ∀ b, Un as.length D' b → Un as.length D b ∨ NewN H b) :
    Trio R T H' as l ks (comeRows rows d) es' S' D' ∧ ∀ b o, Mine as.length S D H b o → Mine as.length S' D' H' b o :=
  ⟨⟨t, c, g.ml.move ch un ud⟩, fun b o m => m.move ch un ud⟩
end
/-- [C(k), C(k), C(m)] -/
theorem make3X {R : CupRel} {C B : Addr} (A : CupApi R C) {T : List (Addr × Str)} {i i3 j kn on : Nat} {σ : L2.St} {H : Hp} {ts : TS} {E : Ends} (hv : σ[i]? = some (some (.int (kn : Int)))) (hv3 : σ[i3]? = some (some (.int (on : Int)))) (hT : Tabs T H) (k1 : 1 ≤ kn) (k2 : kn ≤ 64) (o1 : 1 ≤ on) (o2 : on ≤ 64)
    (q : ∀ (H5 : Hp) (l y1 y2 y3 : Addr) (ks : Nat → Nat) (es : Nat → List Ent) (S D : Nat → AS), ExtN H H5 → Trio R T H5 [y1, y2, y3] l ks (fun _ => []) es S D → ks 0 = kn → ks 1 = kn → ks 2 = on → (∀ b, Un 3 D b → NewN H b) → ts E (σ.set j (some (.ref l))) H5) :
    tSeq (tAsg (tLst (tCons (tMakS C (apInit R T C B) EN (tCons (tVar i) tNil)) (tCons (tMakS C (apInit R T C B) EN (tCons (tVar i) tNil)) (tCons (tMakS C (apInit R T C B) EN (tCons (tVar i3) tNil)) tNil)))) (gName j)) ts E σ H := by
  refine ⟨_, hv, fun y1 dy1 ny1 ndy1 ne1 => ⟨y1, dy1, _, rfl, make_tabs hT ny1 ndy1, upd_same, by rw [upd_ne ne1]; exact upd_same, ne1.symm, .inl ⟨kn, rfl, by omega, by omega, fun H2 S1 D1 hT2 r1 ch1 hd1 => ⟨rfl, ?_⟩⟩⟩⟩
  refine ⟨_, hv, fun y2 dy2 ny2 ndy2 ne2 => ⟨y2, dy2, _, rfl, make_tabs hT2 ny2 ndy2, upd_same, by rw [upd_ne ne2]; exact upd_same, ne2.symm, .inl ⟨kn, rfl, by omega, by omega, fun H3 S2 D2 hT3 r2 ch2 hd2 => ⟨rfl, ?_⟩⟩⟩⟩
  refine ⟨_, hv3, fun y3 dy3 ny3 ndy3 ne3 => ⟨y3, dy3, _, rfl, make_tabs hT3 ny3 ndy3, upd_same, by rw [upd_ne ne3]; exact upd_same, ne3.symm, .inl ⟨on, rfl, by omega, by omega, fun H4 S3 D3 hT4 r3 ch3 hd3 => ⟨rfl, ?_⟩⟩⟩⟩
  have e1 := make_ext ny1 ndy1 ch1
  have e2 := make_ext ny2 ndy2 ch2
  have e3 := make_ext ny3 ndy3 ch3
  have e4 := (e1.trans e2).trans e3
  have c0 : CupsAt R H [] (fun _ => kn) (fun _ => []) (fun _ => []) (fun _ _ => False) (fun _ _ => False) := CupsAt.nil
  have c1 := c0.snoc A e1 r1 (make_new ny1 ndy1 hd1)
  have c2 := c1.snoc A e2 r2 (make_new ny2 ndy2 hd2)
  have c3 := c2.snoc A e3 r3 (make_new ny3 ndy3 hd3)
  have hr : ∀ (f : Nat → List Int) (i : Nat), f = (fun _ => []) → setAt f i [] = fun _ => [] := fun f i e => by
    subst e
    funext j
    unfold setAt
    split <;> rfl
  rw [hr _ _ (hr _ _ (hr _ _ rfl))] at c3
  refine ⟨by show 3 ≤ sizeLine; decide, fun l nl => ?_⟩
  have sl := same_upd (o := .lst [V.ref y1, V.ref y2, V.ref y3]) nl
  refine q _ l y1 y2 y3 _ _ _ _ (e4.trans (ExtN.of sl)) ⟨hT4.ext sl, c3.same A sl, Mine.new A c3 nl (fun ps z => nomatch z)⟩ rfl rfl rfl ?_
  rintro b ⟨i, hi, z⟩
  rcases (show i = 0 ∨ i = 1 ∨ i = 2 by omega) with rfl | rfl | rfl
  · exact make_new ny1 ndy1 hd1 b z
  · exact newN_back2 e1 (make_new ny2 ndy2 hd2 b z)
  · exact newN_back2 (e1.trans e2) (make_new ny3 ndy3 hd3 b z)
end Own

/-! Lists told, and their texts, held while cups change. -/
namespace Own
open PySem PySem.Spec PyProof.Rows L2 LamX
/-- a list told, and its text -/
def HeldV (n : Nat) (S D : Nat → AS) (H : Hp) (h : Addr) (v : V) (es : List Ent) : Prop := ∃ (t p : Addr) (xs : List V), v = .ref t ∧ p ≠ h ∧ Mine n S D H t (.tup [.ref p, .str (entsD es).shown]) ∧ Mine n S D H p (.lst xs) ∧
  PySem.W.EachIs (fun v (e : Ent) => ∃ u, v = V.ref u ∧ Mine n S D H u (.tup [.int e.1, .int e.2.1, .int e.2.2])) xs es ∧ Shw (entsD es) 2 5000000
theorem HeldV.move {n : Nat} {S D S' D' : Nat → AS} {H H' : Hp} {h : Addr} {v : V} {es : List Ent} (w : HeldV n S D H h v es) (k : ∀ b o, Mine n S D H b o → (∀ kvs, o ≠ .dK kvs) → b ≠ h → Mine n S' D' H' b o) (hh : ∃ zs, H h = some (.lst zs)) : HeldV n S' D' H' h v es := by
  obtain ⟨t, p, xs, rfl, ph, mt, mp, en, sh⟩ := w
  obtain ⟨zs, hh⟩ := hh
  refine ⟨t, p, xs, rfl, ph, k _ _ mt (fun _ z => nomatch z) (ne_of mt.at_ hh (fun z => nomatch z)), k _ _ mp (fun _ z => nomatch z) ph, en.mono fun v e ⟨u, hu, mu⟩ => ⟨u, hu, k _ _ mu (fun _ z => nomatch z) (ne_of mu.at_ hh (fun z => nomatch z))⟩, sh⟩
def lpHold (R : CupRel) (T : List (Addr × Str)) : Sp := fun vs H Q _ => ∃ (a h : Addr) (k : Nat) (row : List Int) (es : List Ent) (S D : AS) (zs : List V), vs = [.ref a, .ref h] ∧ Tabs T H ∧ R H a k row es S D ∧ row.length < 2 ^ 200 ∧ (∀ x ∈ row, InR x) ∧ H h = some (.lst zs) ∧ ¬ D h ∧ zs.length ≤ 10000 ∧
  ∀ H' t p xs, Tabs T H' → (∀ b o, b ≠ h → H b = some o → (∀ ps, o ≠ .tbl ps) → H' b = some o) → H' h = some (.lst (zs ++ [.ref t])) → NewN H t → NewN H p → H' t = some (.tup [.ref p, .str (entsD es).shown]) → H' p = some (.lst xs) → EntsAre H' xs es → (∀ v ∈ xs, ∀ u, v = .ref u → NewN H u) → Shw (entsD es) 2 5000000 → Q .non H'
def lpHeld : Sp := fun vs H Q _ => ∃ (h : Addr) (zs : List V) (ess : List (List Ent)), vs = [.ref h] ∧ H h = some (.lst zs) ∧ zs.length ≤ 10000 ∧ PySem.W.EachIs (fun v es => ∃ t p xs, v = V.ref t ∧ H t = some (.tup [.ref p, .str (entsD es).shown]) ∧ H p = some (.lst xs) ∧ EntsAre H xs es ∧ Shw (entsD es) 2 5000000) zs ess ∧ ∀ H', Same H H' → Q (.bl true) H'
end Own
namespace Own
open PySem PySem.Spec PyProof.Rows L2 LamX
theorem call_reprK {X : Cx} {K : PySem.W.Frag} (gd : X.A.guards = some []) (hu : X.A.units + 64 < cLine) (hK : X.K = K := by rfl) : CallR X (.builtin "repr") (rReprD K) := by
  subst hK
  exact call_reprD gd hu
end Own
namespace Own
open PySem PySem.Spec PyProof.Rows L2 LamX
/-- all but what stands at h -/
def ButH (h : Addr) (H H' : Hp) : Prop := ∀ b o, b ≠ h → H b = some o → (∀ ps, o ≠ .tbl ps) → H' b = some o
theorem Mine.buth {n : Nat} {S D : Nat → AS} {H H' : Hp} {h b : Addr} {o : HO} (m : Mine n S D H b o) (e : ButH h H H') (ne : b ≠ h) : Mine n S D H' b o := ⟨e _ _ ne m.at_ m.nt, m.nt, m.noS, m.noD⟩
theorem Game.buth {R : CupRel} {C : Addr} {T : List (Addr × Str)} {n : Nat} {H H' : Hp} {as : List Addr} {l rl h : Addr} {dd : List Addr} {ks : Nat → Nat} {rows rd : Nat → List Int} {es : Nat → List Ent} {S D : Nat → AS} {rs : List DRow} {m b : Nat} {zs : List V} (A : CupApi R C) (g : Game R T n H as l rl dd ks rows rd es S D rs m b) (mh : Mine n S D H h (.lst zs)) (e : ButH h H H') (t : Tabs T H') (hl : l ≠ h) (hrl : rl ≠ h) : Game R T n H' as l rl dd ks rows rd es S D rs m b :=
  ⟨t, g.len, g.cups.ext A fun x o ⟨i, hi, z⟩ ex => by
    obtain ⟨o', e', nt⟩ := A.old (g.cups.at_ i _ (List.getElem?_eq_getElem hi)) x z
    cases ex.symm.trans e'
    exact e x o (fun w => mh.noD ⟨i, by rw [g.len] at hi; exact hi, by rw [← w]; exact z⟩) ex nt, g.ml.buth e hl, g.mr.buth e hrl, g.md.mono fun x r z => z.buth e (ne_of z.at_ mh.at_ (fun w => nomatch w)), g.dn, g.nd, g.ro, g.big, g.few⟩
end Own
namespace Own
open PySem PySem.Spec PyProof.Rows L2 LamX
theorem ents_mine {n : Nat} {S D : Nat → AS} {H H' : Hp} {xs : List V} {es : List Ent} (nm : ∀ b o, NewN H b → H' b = some o → (∀ ps, o ≠ .tbl ps) → Mine n S D H' b o) (h : EntsAre H' xs es) : (∀ v ∈ xs, ∀ u, v = .ref u → NewN H u) → PySem.W.EachIs (fun v (e : Ent) => ∃ u, v = V.ref u ∧ Mine n S D H' u (.tup [.int e.1, .int e.2.1, .int e.2.2])) xs es := by
  induction h with
  | nil => exact fun _ => .nil
  | cons r t ih =>
    intro nx
    obtain ⟨u, rfl, hu⟩ := r
    exact .cons ⟨u, rfl, nm _ _ (nx _ List.mem_cons_self u rfl) hu (fun _ z => nomatch z)⟩ (ih fun v hv => nx v (List.mem_cons_of_mem _ hv))
end Own

/-! Readings dealt to cups, and poured together. -/
namespace Own
open PySem PySem.Spec PyProof.Rows L2 LamX
def rowZ (g : Bool) (cs : List Int) : List Int := cs.flatMap fun c => List.replicate (timesOf c g).toNat (readingOf c)
def fewZ (k : Nat) : Nat := if (k : Int) > 9 then 5 else 40
def greatZ (k : Nat) : Bool := decide (9 < (k : Int)) && decide ((k : Int) < 16)
def cellsZ (ns : List Int) (k : Nat) : List Int := (ns.drop 3).take (fewZ k)
def allRows (n : Nat) (rows : Nat → List Int) : List Int := (List.range n).flatMap rows
theorem allRows_succ (n : Nat) (rows : Nat → List Int) : allRows (n + 1) rows = allRows n rows ++ rows n := by
  unfold allRows
  rw [List.range_succ, List.flatMap_append]
  simp
theorem allRows_congr {n : Nat} {f g : Nat → List Int} (h : ∀ i, i < n → f i = g i) : allRows n f = allRows n g := by
  induction n with
  | zero => rfl
  | succ n ih => rw [allRows_succ, allRows_succ, ih fun i hi => h i (by omega), h n (by omega)]
theorem allRows_empty (n : Nat) : allRows n (fun _ => []) = [] := by
  induction n with
  | zero => rfl
  | succ n ih => rw [allRows_succ, ih]; rfl
theorem allRows_set {n i : Nat} (hi : i < n) (rows : Nat → List Int) (xs : List Int) : (allRows n (setAt rows i (rows i ++ xs))).Perm (allRows n rows ++ xs) := by
  induction n with
  | zero => omega
  | succ n ih =>
    rw [allRows_succ, allRows_succ]
    by_cases e : i = n
    · subst e
      rw [setAt_same, allRows_congr (g := rows) fun j hj => setAt_ne _ _ (by omega), List.append_assoc]
    · rw [setAt_ne _ _ (show n ≠ i by omega)]
      refine ((ih (by omega)).append_right _).trans ?_
      rw [List.append_assoc, List.append_assoc]
      exact List.Perm.append_left _ List.perm_append_comm
theorem allRows_mem {n i : Nat} (hi : i < n) (rows : Nat → List Int) : ∀ x ∈ rows i, x ∈ allRows n rows := fun x hx => List.mem_flatMap.mpr ⟨i, List.mem_range.mpr hi, hx⟩
theorem allRows_len {n i : Nat} (hi : i < n) (rows : Nat → List Int) : (rows i).length ≤ (allRows n rows).length := by
  induction n with
  | zero => omega
  | succ n ih =>
    rw [allRows_succ, List.length_append]
    by_cases e : i = n
    · subst e
      omega
    · have := ih (by omega)
      omega
theorem allRows_len2 {n i j : Nat} (hi : i < n) (hj : j < n) (h : i ≠ j) (rows : Nat → List Int) : (rows i).length + (rows j).length ≤ (allRows n rows).length := by
  induction n with
  | zero => omega
  | succ n ih =>
    rw [allRows_succ, List.length_append]
    by_cases e : i = n
    · subst e
      have := allRows_len (show j < i by omega) rows
      omega
    · by_cases e2 : j = n
      · subst e2
        have := allRows_len (show i < j by omega) rows
        omega
      · have := ih (by omega) (by omega)
        omega
def eraseF {α : Type} (f : Nat → α) (i : Nat) : Nat → α := fun j => if j < i then f j else f (j + 1)
theorem eraseF_lt {α : Type} (f : Nat → α) {i j : Nat} (h : j < i) : eraseF f i j = f j := if_pos h
theorem eraseF_ge {α : Type} (f : Nat → α) {i j : Nat} (h : i ≤ j) : eraseF f i j = f (j + 1) := if_neg (by omega)
theorem eraseF_const {α : Type} (x : α) (i : Nat) : eraseF (fun _ : Nat => x) i = fun _ => x := by
  funext j
  unfold eraseF
  split <;> rfl
theorem allRows_erase {n i : Nat} (hi : i < n + 1) (rows : Nat → List Int) : (allRows n (eraseF rows i) ++ rows i).Perm (allRows (n + 1) rows) := by
  induction n with
  | zero =>
    obtain rfl : i = 0 := by omega
    rw [allRows_succ]
    exact .refl _
  | succ n ih =>
    by_cases e : i = n + 1
    · subst e
      rw [allRows_succ (n + 1) rows, allRows_congr (g := rows) fun j hj => eraseF_lt _ hj]
    · have ih := ih (by omega)
      rw [allRows_succ n (eraseF rows i), eraseF_ge rows (show i ≤ n by omega), allRows_succ (n + 1) rows, List.append_assoc]
      refine ((List.Perm.append_left _ List.perm_append_comm).trans ?_)
      rw [← List.append_assoc]
      exact ih.append_right _
/-- one row poured into another, and left out -/
theorem allRows_pour {n i o : Nat} (hi : i < n + 1) (ho : o < n + 1) (h : o ≠ i) (rows : Nat → List Int) : (allRows n (eraseF (setAt rows o (rows o ++ rows i)) i)).Perm (allRows (n + 1) rows) := by
  have a := allRows_erase hi (setAt rows o (rows o ++ rows i))
  rw [setAt_ne _ _ (Ne.symm h)] at a
  exact (List.perm_append_right_iff (rows i)).mp (a.trans (allRows_set ho rows (rows i)))
theorem CupsAt.erase {R : CupRel} {H : Hp} {as : List Addr} {ks : Nat → Nat} {rows : Nat → List Int} {es : Nat → List Ent} {S D : Nat → AS} (c : CupsAt R H as ks rows es S D) {i : Nat} (hi : i < as.length) :
    CupsAt R H (as.eraseIdx i) (eraseF ks i) (eraseF rows i) (eraseF es i) (eraseF S i) (eraseF D i) := by
  have hl : (as.eraseIdx i).length = as.length - 1 := List.length_eraseIdx_of_lt hi
  constructor
  · intro j a hj
    rw [List.getElem?_eraseIdx] at hj
    by_cases h : j < i
    · rw [if_pos h] at hj
      rw [eraseF_lt _ h, eraseF_lt _ h, eraseF_lt _ h, eraseF_lt _ h, eraseF_lt _ h]
      exact c.at_ j a hj
    · rw [if_neg h] at hj
      have h : i ≤ j := by omega
      rw [eraseF_ge _ h, eraseF_ge _ h, eraseF_ge _ h, eraseF_ge _ h, eraseF_ge _ h]
      exact c.at_ (j + 1) a hj
  · intro p q hp hq hpq b hb
    rw [hl] at hp hq
    unfold eraseF at hb ⊢
    split at hb
    · split
      · exact c.apart p q (by omega) (by omega) hpq b hb
      · exact c.apart p (q + 1) (by omega) (by omega) (by omega) b hb
    · split
      · exact c.apart (p + 1) q (by omega) (by omega) (by omega) b hb
      · exact c.apart (p + 1) (q + 1) (by omega) (by omega) (by omega) b hb
theorem un_erase {n i : Nat} (hi : i < n + 1) {S : Nat → AS} : ∀ b, Un n (eraseF S i) b → Un (n + 1) S b := by
  rintro b ⟨j, hj, hb⟩
  unfold eraseF at hb
  split at hb
  · exact ⟨j, by omega, hb⟩
  · exact ⟨j + 1, by omega, hb⟩
theorem Mine.fewer {n n' : Nat} {S D S' D' : Nat → AS} {H : Hp} {b : Addr} {o : HO} (m : Mine n S D H b o) (u : ∀ b, Un n' S' b → Un n S b) (v : ∀ b, Un n' D' b → Un n D b) : Mine n' S' D' H b o := ⟨m.at_, m.nt, fun z => m.noS (u b z), fun z => m.noD (v b z)⟩
/-- a list told and its text, the list none of X -/
def HeldP (X : AS) (n : Nat) (S D : Nat → AS) (H : Hp) (v : V) (es : List Ent) : Prop := ∃ (t p : Addr) (xs : List V), v = .ref t ∧ ¬ X p ∧ Mine n S D H t (.tup [.ref p, .str (entsD es).shown]) ∧ Mine n S D H p (.lst xs) ∧
  PySem.W.EachIs (fun v (e : Ent) => ∃ u, v = V.ref u ∧ Mine n S D H u (.tup [.int e.1, .int e.2.1, .int e.2.2])) xs es ∧ Shw (entsD es) 2 5000000
theorem HeldP.move {X : AS} {n n' : Nat} {S D S' D' : Nat → AS} {H H' : Hp} {v : V} {es : List Ent} (w : HeldP X n S D H v es) (k : ∀ b o, Mine n S D H b o → (∀ kvs, o ≠ .dK kvs) → (∀ zs, o = .lst zs → ¬ X b) → Mine n' S' D' H' b o) : HeldP X n' S' D' H' v es := by
  obtain ⟨t, p, xs, rfl, ph, mt, mp, en, sh⟩ := w
  exact ⟨t, p, xs, rfl, ph, k _ _ mt (fun _ z => nomatch z) (fun _ z => nomatch z), k _ _ mp (fun _ z => nomatch z) (fun _ _ => ph), en.mono fun v e ⟨u, hu, mu⟩ => ⟨u, hu, k _ _ mu (fun _ z => nomatch z) (fun _ z => nomatch z)⟩, sh⟩
theorem HeldP.less {X Y : AS} {n : Nat} {S D : Nat → AS} {H : Hp} {v : V} {es : List Ent} (w : HeldP X n S D H v es) (h : ∀ b, Y b → X b) : HeldP Y n S D H v es := by
  obtain ⟨t, p, xs, rfl, ph, r⟩ := w
  exact ⟨t, p, xs, rfl, fun z => ph (h _ z), r⟩
/-- a list of X is changed -/
theorem HeldP.put {X : AS} {n : Nat} {S D : Nat → AS} {H : Hp} {v : V} {es : List Ent} {q : Addr} {xs : List V} {o' : HO} (w : HeldP X n S D H v es) (hq : H q = some (.lst xs)) (hX : X q) : HeldP X n S D (upd H q o') v es := w.move fun b o m _ l => by
  refine m.off fun z => ?_
  subst z
  have e := m.at_
  rw [hq] at e
  cases e
  exact l _ rfl hX
theorem HeldP.stand {X : AS} {n : Nat} {S D : Nat → AS} {H : Hp} {v : V} {es : List Ent} (w : HeldP X n S D H v es) : ∃ t p xs, v = V.ref t ∧ H t = some (.tup [.ref p, .str (entsD es).shown]) ∧ H p = some (.lst xs) ∧ EntsAre H xs es ∧ Shw (entsD es) 2 5000000 := by
  obtain ⟨t, p, xs, hv, _, mt, mp, en, sh⟩ := w
  exact ⟨t, p, xs, hv, mt.at_, mp.at_, en.mono fun v e ⟨u, hu, mu⟩ => ⟨u, hu, mu.at_⟩, sh⟩
end Own
namespace Own
open PySem PySem.Spec PyProof.Rows L2 LamX
/-- cups that are poured together, beside a list of what was told (at h) and the list of the cups (at p) -/
structure Pot (R : CupRel) (T : List (Addr × Str)) (H0 : Hp) (n0 : Nat) (S0 D0 : Nat → AS) (h p : Addr) (k : Nat) (tot : List Int) (zs : List V) (H : Hp) (bs : List Addr) (rows : Nat → List Int) (es : Nat → List Ent) (S D : Nat → AS) (ws : List V) (ess : List (List Ent)) (pv hv : List V) : Prop where
  tabs : Tabs T H
  cups : CupsAt R H bs (fun _ => k) rows es S D
  perm : (allRows bs.length rows).Perm tot
  mh : Mine bs.length S D H h (.lst hv)
  mp : Mine bs.length S D H p (.lst pv)
  held : PySem.W.EachIs (HeldP (fun b => b = h ∨ b = p) bs.length S D H) ws ess
  fr : ∀ b o, b ≠ h → H0 b = some o → (∀ ps, o ≠ .tbl ps) → ¬ Un n0 S0 b → H b = some o
  us : ∀ b, Un bs.length S b → Un n0 S0 b ∨ NewN H0 b
  ud : ∀ b, Un bs.length D b → Un n0 D0 b ∨ NewN H0 b
  np : NewN H0 p
  hp : p ≠ h
  sd : ∀ b, Un n0 S0 b → Un n0 D0 b
section
variable {R : CupRel} {C : Addr} {T : List (Addr × Str)} {H0 : Hp} {n0 : Nat} {S0 D0 : Nat → AS} {h p : Addr} {k : Nat} {tot : List Int} {zs : List V} {H H' : Hp} {bs : List Addr} {rows : Nat → List Int} {es : Nat → List Ent} {S D : Nat → AS} {ws : List V} {ess : List (List Ent)} {pv hv : List V}
theorem Pot.ext (A : CupApi R C) (g : Pot R T H0 n0 S0 D0 h p k tot zs H bs rows es S D ws ess pv hv) (e : ExtN H H') (t : Tabs T H') : Pot R T H0 n0 S0 D0 h p k tot zs H' bs rows es S D ws ess pv hv :=
  ⟨t, g.cups.ext A fun x o ⟨i, hi, z⟩ ex => by
    obtain ⟨o', e', nt⟩ := A.old (g.cups.at_ i _ (List.getElem?_eq_getElem hi)) x z
    cases ex.symm.trans e'
    exact e x o ex nt, g.perm, g.mh.ext e, g.mp.ext e, g.held.mono fun v es w => w.move fun b o m _ _ => m.ext e, fun b o n1 n2 n3 n4 => e _ _ (g.fr b o n1 n2 n3 n4) n3, g.us, g.ud, g.np, g.hp, g.sd⟩
/-- the list of the cups is changed -/
theorem Pot.putP (A : CupApi R C) (g : Pot R T H0 n0 S0 D0 h p k tot zs H bs rows es S D ws ess pv hv) (pv' : List V) : Pot R T H0 n0 S0 D0 h p k tot zs (upd H p (.lst pv')) bs rows es S D ws ess pv' hv :=
  ⟨tabs_lst g.mp.at_ g.tabs, g.cups.mine A fun i hi z => g.mp.noD ⟨i, hi, z⟩, g.perm, g.mh.off (Ne.symm g.hp), g.mp.put (fun _ z => nomatch z), g.held.mono fun v es w => w.put g.mp.at_ (.inr rfl), fun b o n1 n2 n3 n4 => by
    rw [upd_ne ?_]
    · exact g.fr b o n1 n2 n3 n4
    · rintro rfl
      obtain ⟨ps, z⟩ := g.np o n2
      exact n3 ps z, g.us, g.ud, g.np, g.hp, g.sd⟩
/-- one more is told -/
theorem Pot.putH (A : CupApi R C) (g : Pot R T H0 n0 S0 D0 h p k tot zs H bs rows es S D ws ess pv hv) (t : Addr) (e : List Ent) (w : HeldP (fun b => b = h ∨ b = p) bs.length S D H (.ref t) e) : Pot R T H0 n0 S0 D0 h p k tot zs (upd H h (.lst (hv ++ [.ref t]))) bs rows es S D (ws ++ [.ref t]) (ess ++ [e]) pv (hv ++ [.ref t]) :=
  ⟨tabs_lst g.mh.at_ g.tabs, g.cups.mine A fun i hi z => g.mh.noD ⟨i, hi, z⟩, g.perm, g.mh.put (fun _ z => nomatch z), g.mp.off g.hp, eachIs_snoc (g.held.mono fun v es w => w.put g.mh.at_ (.inl rfl)) (w.put g.mh.at_ (.inl rfl)), fun b o n1 n2 n3 n4 => by
    rw [upd_ne n1]
    exact g.fr b o n1 n2 n3 n4, g.us, g.ud, g.np, g.hp, g.sd⟩
/-- what is new is no cup's -/
theorem mine_new (A : CupApi R C) {ks : Nat → Nat} (c : CupsAt R H bs ks rows es S D) {b : Addr} {o : HO} (nb : NewN H b) (hb : H' b = some o) (nt : ∀ ps, o ≠ .tbl ps) : Mine bs.length S D H' b o := by
  have nD : ¬ Un bs.length D b := fun ⟨j, hj, z⟩ => by
    obtain ⟨o', e', nt'⟩ := A.old (c.at_ j _ (List.getElem?_eq_getElem hj)) b z
    obtain ⟨ps, w⟩ := nb _ e'
    exact nt' ps w
  exact ⟨hb, nt, fun z => nD (c.sub A b z), nD⟩
/-- one is poured into another, and left out -/
theorem Pot.pour (A : CupApi R C) (g : Pot R T H0 n0 S0 D0 h p k tot zs H bs rows es S D ws ess pv hv) {i o : Nat} (hi : i < bs.length) {b : Addr} (ho : bs[o]? = some b) (ne : o ≠ i) {es' : List Ent} {S' D' : AS} (t : Tabs T H') (r : R H' b k (rows o ++ rows i) es' S' D') (ch : Chg (S o) H H') (hs : ∀ x, S' x → S o x ∨ NewN H x) (hd : ∀ x, D' x → D o x ∨ (D i x ∧ ¬ S i x) ∨ NewN H x) :
    (∀ a, bs[i]? = some a → R H' a k (rows i) (es i) (S i) (D i)) ∧ Pot R T H0 n0 S0 D0 h p k tot zs H' (bs.eraseIdx i) (eraseF (setAt rows o (rows o ++ rows i)) i) (eraseF (setAt es o es') i) (eraseF (setAt S o S') i) (eraseF (setAt D o D') i) ws ess pv hv := by
  have ol := (List.getElem?_eq_some_iff.mp ho).1
  have c2 := g.cups.move A ho r ch hs fun x z => (hd x z).elim .inl fun z => z.elim (fun z => .inr (.inl ⟨i, hi, (Ne.symm ne), z⟩)) fun z => .inr (.inr z)
  have c3 := c2.erase hi
  rw [eraseF_const] at c3
  have u1 : ∀ x, Un bs.length (setAt S o S') x → Un bs.length S x ∨ NewN H x := un_set ol hs
  have u2 : ∀ x, Un bs.length (setAt D o D') x → Un bs.length D x ∨ NewN H x := un_setU fun x z => (hd x z).elim (fun z => .inl ⟨o, ol, z⟩) fun z => z.elim (fun z => .inl ⟨i, hi, z.1⟩) .inr
  have mv : ∀ b x, Mine bs.length S D H b x → Mine bs.length (setAt S o S') (setAt D o D') H' b x := fun b x m => m.move (ch.un ol) u1 u2
  obtain ⟨m, hm⟩ : ∃ m, bs.length = m + 1 := ⟨bs.length - 1, by omega⟩
  have hl : (bs.eraseIdx i).length = m := by
    rw [List.length_eraseIdx_of_lt hi, hm]
    rfl
  have hi2 : i < m + 1 := by omega
  have e1 : ∀ {F : Nat → AS} x, Un m (eraseF F i) x → Un bs.length F x := fun x z => by
    rw [hm]
    exact un_erase hi2 x z
  have mv2 : ∀ b x, Mine bs.length S D H b x → Mine (bs.eraseIdx i).length (eraseF (setAt S o S') i) (eraseF (setAt D o D') i) H' b x := fun b x m => (mv b x m).fewer (fun x z => e1 x (by rw [hl] at z; exact z)) (fun x z => e1 x (by rw [hl] at z; exact z))
  refine ⟨fun a ha => ?_, t, c3, ?_, mv2 _ _ g.mh, mv2 _ _ g.mp, g.held.mono fun v es w => w.move fun b o m _ _ => mv2 b o m, fun b o n1 n2 n3 n4 => ?_, fun x z => ?_, fun x z => ?_, g.np, g.hp, g.sd⟩
  · have := c2.at_ i a ha
    rw [setAt_ne _ _ (Ne.symm ne), setAt_ne _ _ (Ne.symm ne), setAt_ne _ _ (Ne.symm ne), setAt_ne _ _ (Ne.symm ne)] at this
    exact this
  · rw [hl]
    have pm := g.perm
    rw [hm] at pm
    exact (allRows_pour hi2 (by omega) ne rows).trans pm
  · refine ch _ _ (g.fr b o n1 n2 n3 n4) n3 fun z => ?_
    rcases g.us b ⟨_, ol, z⟩ with w | w
    · exact n4 w
    · obtain ⟨ps, w⟩ := w o n2
      exact n3 ps w
  · rw [hl] at z
    rcases u1 x (e1 x z) with w | w
    · exact g.us x w
    · exact Classical.byContradiction fun nn => by
        have a1 : ¬ Un n0 S0 x := fun q => nn (.inl q)
        refine nn (.inr fun o ho => ?_)
        by_cases xh : x = h
        · subst xh
          obtain ⟨ps, q⟩ := w _ g.mh.at_
          cases q
        · exact Classical.byContradiction fun q => by
            obtain ⟨ps, q2⟩ := w o (g.fr x o xh ho (fun ps z => q ⟨ps, z⟩) a1)
            exact q ⟨ps, q2⟩
  · rw [hl] at z
    rcases u2 x (e1 x z) with w | w
    · exact g.ud x w
    · by_cases a1 : Un bs.length S x
      · exact g.ud x (g.cups.sub A x a1)
      · refine Classical.byContradiction fun nn => ?_
        have b1 : ¬ NewN H0 x := fun q => nn (.inr q)
        refine b1 fun o ho => Classical.byContradiction fun q => ?_
        by_cases xh : x = h
        · subst xh
          obtain ⟨ps, q⟩ := w _ g.mh.at_
          cases q
        · by_cases a2 : Un n0 S0 x
          · exact nn (.inl (g.sd x a2))
          · obtain ⟨ps, q2⟩ := w o (g.fr x o xh ho (fun ps z => q ⟨ps, z⟩) a2)
            exact q ⟨ps, q2⟩
end
end Own
namespace Own
open PySem PySem.Spec PyProof.Rows L2 LamX
def lpDealt (K : PySem.W.Frag) (R : CupRel) (T : List (Addr × Str)) : Sp := fun vs H Q _ => ∃ (a : Addr) (ns : List Int) (k n : Nat), vs = [.ref a, .int (k : Int), .int (n : Int)] ∧ SqL K H a (ns.map V.int) ∧ ns.length ≤ 63 ∧ Tabs T H ∧ 1 ≤ k ∧ k ≤ 64 ∧ 1 ≤ n ∧ n ≤ 6 ∧
  ∀ H' l as rows es S D, ExtN H H' → Tabs T H' → as.length = n → CupsAt R H' as (fun _ => k) rows es S D → Mine as.length S D H' l (.lst (as.map V.ref)) → (∀ b, Un as.length S b → NewN H b) → (∀ b, Un as.length D b → NewN H b) → NewN H l → (allRows as.length rows).Perm (rowZ (greatZ k) (cellsZ ns k)) → Q (.ref l) H'
def lpTogether (R : CupRel) (T : List (Addr × Str)) : Sp := fun vs H Q _ => ∃ (l h : Addr) (c : Int) (k : Nat) (as : List Addr) (rows : Nat → List Int) (es : Nat → List Ent) (S D : Nat → AS) (zs : List V), vs = [.ref l, .int c, .ref h] ∧ Tabs T H ∧ CupsAt R H as (fun _ => k) rows es S D ∧ H l = some (.lst (as.map V.ref)) ∧ Mine as.length S D H h (.lst zs) ∧ 1 ≤ as.length ∧ as.length ≤ 6 ∧ l ≠ h ∧
  (allRows as.length rows).length < 2 ^ 199 ∧ (∀ x ∈ allRows as.length rows, InR x) ∧ zs.length ≤ 10 ∧
  ∀ H' a row' es' S' D' ws ess, Tabs T H' → R H' a k row' es' S' D' → row'.Perm (allRows as.length rows) → (∀ b o, b ≠ h → H b = some o → (∀ ps, o ≠ .tbl ps) → ¬ Un as.length S b → H' b = some o) → H' h = some (.lst (zs ++ ws)) → ws.length ≤ 6 → PySem.W.EachIs (HeldP (fun b => b = h) 1 (fun _ => S') (fun _ => D') H') ws ess →
    (∀ b, S' b → Un as.length S b ∨ NewN H b) → (∀ b, D' b → Un as.length D b ∨ NewN H b) → Q (.ref a) H'
end Own
namespace Own
open PySem PySem.Spec PyProof.Rows L2 LamX
theorem rowZ_len (g : Bool) : ∀ cs : List Int, (rowZ g cs).length ≤ cs.length * 1000000000
  | [] => Nat.le_refl _
  | c :: cs => by
    have h := rowZ_len g cs
    have t := (times_range c g).2
    show (List.replicate (timesOf c g).toNat (readingOf c) ++ rowZ g cs).length ≤ (cs.length + 1) * 1000000000
    rw [List.length_append, List.length_replicate]
    omega
theorem rowZ_in (g : Bool) (cs : List Int) : ∀ x ∈ rowZ g cs, InR x := by
  intro x hx
  obtain ⟨c, _, z⟩ := List.mem_flatMap.mp hx
  rw [List.eq_of_mem_replicate z]
  exact reading_range c
theorem rowZ_snoc (g : Bool) {cs : List Int} {i : Nat} {c : Int} (h : cs[i]? = some c) : rowZ g (cs.take (i + 1)) = rowZ g (cs.take i) ++ List.replicate (timesOf c g).toNat (readingOf c) := by
  have ht : cs.take (i + 1) = cs.take i ++ [c] := by rw [List.take_succ, h]; rfl
  rw [ht]
  unfold rowZ
  rw [List.flatMap_append]
  simp
theorem cellsZ_len (ns : List Int) (k : Nat) : (cellsZ ns k).length = min (fewZ k) (ns.length - 3) := by
  unfold cellsZ
  rw [List.length_take, List.length_drop]
theorem cellsZ_get {ns : List Int} {k i : Nat} (h : i < (cellsZ ns k).length) : ∃ c, (cellsZ ns k)[i]? = some c ∧ ns[3 + i]? = some c := by
  refine ⟨(cellsZ ns k)[i], List.getElem?_eq_getElem h, ?_⟩
  rw [← List.getElem?_eq_getElem h]
  rw [cellsZ_len] at h
  unfold cellsZ
  rw [List.getElem?_take, if_pos (by omega), List.getElem?_drop]
theorem fewZ_at (k : Nat) : atI [V.int 40, V.int 5] (if decide ((k : Int) > 9) = true then 1 else 0) = some (.int (fewZ k : Int)) := by
  unfold fewZ
  by_cases h : (k : Int) > 9
  · rw [if_pos (decide_eq_true h), if_pos h]
    exact atI_nat (j := 1) rfl
  · rw [if_neg (fun z => h (of_decide_eq_true z)), if_neg h]
    exact atI_nat (j := 0) rfl
/-- what stood stays, where only new things change -/
theorem extN_of_chg {H H1 H2 : Hp} {S : AS} (e : ExtN H H1) (c : Chg S H1 H2) (n : ∀ b, S b → NewN H b) : ExtN H H2 := fun b o hb nt => c _ _ (e _ _ hb nt) nt fun z => by
  obtain ⟨ps, w⟩ := n b z o hb
  exact nt ps w
end Own
namespace Own
open PySem PySem.Spec PyProof.Rows L2 LamX
theorem eraseIdx_mapV {α β : Type} (f : α → β) : ∀ (l : List α) (i : Nat), (l.map f).eraseIdx i = (l.eraseIdx i).map f
  | [], _ => rfl
  | _ :: _, 0 => rfl
  | x :: l, i + 1 => by
    show f x :: (l.map f).eraseIdx i = f x :: (l.eraseIdx i).map f
    rw [eraseIdx_mapV f l i]
theorem seqIndex_nat {i n : Nat} (h : i < n) : PySem.seqIndex? (i : Int) n = some i := by
  rw [seqIndex_of (Int.natCast_nonneg i) (by omega), Int.toNat_natCast]
theorem mod_nat (v : Int) {n : Nat} (hn : 0 < n) : ∃ i : Nat, i < n ∧ v % (n : Int) = (i : Int) := ⟨(v % (n : Int)).toNat, by
  have h1 := Int.emod_lt_of_pos v (show (0 : Int) < (n : Int) by omega)
  have h2 := Int.emod_nonneg v (show (n : Int) ≠ 0 by omega)
  omega, by
  have h2 := Int.emod_nonneg v (show (n : Int) ≠ 0 by omega)
  omega⟩
end Own
namespace Own
open PySem PySem.Spec PyProof.Rows L2 LamX
theorem cut_cells (ns : List Int) (k : Nat) : cutV (ns.map V.int) (some 3) (some (3 + (fewZ k : Int))) = (cellsZ ns k).map V.int := by
  unfold cutV cellsZ
  rw [show (3 : Int) = ((3 : Nat) : Int) from rfl, show ((3 : Nat) : Int) + (fewZ k : Int) = ((3 + fewZ k : Nat) : Int) by omega, HT.sIx_nat, HT.sIx_nat, List.map_take, List.map_drop, List.length_map]
  generalize fewZ k = m
  by_cases h : 3 ≤ ns.length
  · rw [Nat.min_eq_left h]
    by_cases h2 : 3 + m ≤ ns.length
    · rw [Nat.min_eq_left h2, show 3 + m - 3 = m by omega]
    · rw [Nat.min_eq_right (by omega), List.take_of_length_le (by rw [List.length_drop, List.length_map]; omega), List.take_of_length_le (by rw [List.length_drop, List.length_map]; omega)]
  · rw [Nat.min_eq_right (show ns.length ≤ 3 by omega), List.drop_of_length_le (by rw [List.length_map]; omega), List.drop_of_length_le (show (ns.map V.int).length ≤ 3 by rw [List.length_map]; omega)]
    simp
/-- a list that is read, not the one at h -/
def Scr2 (K : PySem.W.Frag) (h : Addr) (H : Hp) (a : Addr) (xs : List V) : Prop := (∃ o, a ≠ h ∧ H a = some o ∧ (o = .lst xs ∨ ∃ ob, o = .frz ob (.lst xs))) ∨ ∀ H', SqL K H' a xs
theorem Scr2.sq {K : PySem.W.Frag} {h : Addr} {H : Hp} {a : Addr} {xs : List V} (s : Scr2 K h H a xs) : SqL K H a xs := by
  rcases s with ⟨o, _, e, rfl | ⟨ob, rfl⟩⟩ | k
  · exact .inl (.inl e)
  · exact .inl (.inr ⟨ob, e⟩)
  · exact k H
theorem Scr2.buth {K : PySem.W.Frag} {h : Addr} {H H' : Hp} {a : Addr} {xs : List V} (s : Scr2 K h H a xs) (e : ButH h H H') : Scr2 K h H' a xs := by
  rcases s with ⟨o, n, ea, w⟩ | k
  · refine .inl ⟨o, n, e _ _ n ea ?_, w⟩
    rcases w with rfl | ⟨ob, rfl⟩ <;> exact fun ps z => nomatch z
  · exact .inr k
theorem Scr2.of {K : PySem.W.Frag} {h : Addr} {H : Hp} {a : Addr} {xs : List V} (s : SqL K H a xs) (n : H h = none) : Scr2 K h H a xs := by
  have key : ∀ o, H a = some o → a ≠ h := fun o e z => by
    rw [z, n] at e
    cases e
  rcases s with (e | ⟨ob, e⟩) | w
  · exact .inl ⟨_, key _ e, e, .inl rfl⟩
  · exact .inl ⟨_, key _ e, e, .inr ⟨ob, rfl⟩⟩
  · exact .inr fun H' => .inr w
theorem HeldP.none {X : AS} {n : Nat} {S D S' D' : Nat → AS} {H : Hp} {v : V} {es : List Ent} (w : HeldP X n S D H v es) : HeldP X 0 S' D' H v es := w.move fun b o m _ _ => ⟨m.at_, m.nt, fun ⟨_, h, _⟩ => absurd h (Nat.not_lt_zero _), fun ⟨_, h, _⟩ => absurd h (Nat.not_lt_zero _)⟩
theorem HeldP.buth {h : Addr} {zs : List V} {S D S' D' : Nat → AS} {H H' : Hp} {v : V} {es : List Ent} (w : HeldP (fun b => b = h) 0 S D H v es) (hh : H h = some (.lst zs)) (e : ButH h H H') : HeldP (fun b => b = h) 0 S' D' H' v es := w.move fun b o m _ l => ⟨e b o (fun z => by
  subst z
  have q := m.at_
  rw [hh] at q
  cases q
  exact l _ rfl rfl) m.at_ m.nt, m.nt, fun ⟨_, h, _⟩ => absurd h (Nat.not_lt_zero _), fun ⟨_, h, _⟩ => absurd h (Nat.not_lt_zero _)⟩
end Own

/-! Several cups poured into a new one. -/
namespace Own
open PySem PySem.Spec PyProof.Rows L2 LamX
theorem MakN.g {P : Program} {w : World} {K : PySem.W.Frag} {mg : Str → Option Value} {base : Heap} {k : Nat} {x : Str} {C : Addr} {sp : Sp} (m : MakN P w K mg base k x C sp) : mg x = some (.ref C) := by
  obtain ⟨f, fd, ps, _, _, h, _⟩ := m.ex
  exact h
/-- some of the cups, some twice -/
def Picks (as : List Addr) (hv : List V) (ix : List Nat) : Prop := PySem.W.EachIs (fun v i => ∃ a, as[i]? = some a ∧ v = V.ref a) hv ix
/-- what several cups' list asks -/
structure Hand (R : CupRel) (T : List (Addr × Str)) (H : Hp) (l : Addr) (as : List Addr) (ks : Nat → Nat) (rows : Nat → List Int) (es : Nat → List Ent) (S D : Nat → AS) (hv : List V) (ix : List Nat) : Prop where
  tabs : Tabs T H
  cups : CupsAt R H as ks rows es S D
  at_ : H l = some (.lst hv)
  picks : Picks as hv ix
  few : ix.length ≤ 7
  len : ∀ i, i < as.length → (rows i).length < 2 ^ 196
/-- a new cup of all -/
abbrev NewCup (R : CupRel) (T : List (Addr × Str)) (H H' : Hp) (as : List Addr) (S D : Nat → AS) (y k : Nat) (row : List Int) (es' : List Ent) (S' D' : AS) (tot : List Int) : Prop :=
  Tabs T H' ∧ ExtN H H' ∧ R H' y k row es' S' D' ∧ row.Perm tot ∧ (∀ b, S' b → NewN H b) ∧ ∀ b, D' b → NewN H b ∨ ∃ i, i < as.length ∧ D i b ∧ ¬ S i b
def cpPoured (R : CupRel) (T : List (Addr × Str)) (NC U : Addr) : Sp := fun vs H Q E => ∃ (l : Addr) (as : List Addr) (ks : Nat → Nat) (rows : Nat → List Int) (es : Nat → List Ent) (S D : Nat → AS) (hv : List V) (ix : List Nat), vs = [.ref l] ∧ Hand R T H l as ks rows es S D hv ix ∧
  ((ix = [] ∧ ∀ H', ExtN H H' → Tabs T H' → E (.ref NC) none H') ∨
   (∃ i0, ix.head? = some i0 ∧ (∀ i ∈ ix, ks i = ks i0) ∧ ∀ H' y row' es' S' D', NewCup R T H H' as S D y (ks i0) row' es' S' D' (ix.flatMap rows) → Q (.ref y) H') ∨
   (∃ i0, ix.head? = some i0 ∧ (∃ i ∈ ix, ks i ≠ ks i0) ∧ ∀ H', ExtN H H' → Tabs T H' → E (.ref U) none H'))
def lpWord12 (R : CupRel) (T : List (Addr × Str)) : Sp := fun vs H Q _ => ∃ (l : Addr) (as : List Addr) (ks : Nat → Nat) (rows : Nat → List Int) (es : Nat → List Ent) (S D : Nat → AS) (hv : List V) (ix : List Nat), vs = [.ref l] ∧ Hand R T H l as ks rows es S D hv ix ∧
  ((ix = [] ∧ ∀ H' p, ExtN H H' → Tabs T H' → H' p = some (.lst [.bl true, .str (Str.ofString "none")]) → Q (.ref p) H') ∨
   (∃ i0, ix.head? = some i0 ∧ (∀ i ∈ ix, ks i = ks i0) ∧ ∀ H' p, ExtN H H' → Tabs T H' → H' p = some (.lst [.bl true, .str (Str.ofString "")]) → Q (.ref p) H') ∨
   (∃ i0, ix.head? = some i0 ∧ (∃ i ∈ ix, ks i ≠ ks i0) ∧ ∀ H' p, ExtN H H' → Tabs T H' → H' p = some (.lst [.bl true, .str (Str.ofString "unlike")]) → Q (.ref p) H'))
theorem old_not {H : Hp} {b : Addr} {o : HO} (h : H b = some o) (nt : ∀ ps, o ≠ .tbl ps) : ¬ NewN H b := fun z => by
  obtain ⟨ps, w⟩ := z o h
  exact nt ps w
theorem CupsAt.oldD {R : CupRel} {C : Addr} (A : CupApi R C) {H : Hp} {as : List Addr} {ks : Nat → Nat} {rows : Nat → List Int} {es : Nat → List Ent} {S D : Nat → AS} (c : CupsAt R H as ks rows es S D) : ∀ b, Un as.length D b → ¬ NewN H b := fun b ⟨i, hi, z⟩ => by
  obtain ⟨o, e, nt⟩ := A.old (c.at_ i _ (List.getElem?_eq_getElem hi)) b z
  exact old_not e nt
theorem picks_len {as : List Addr} {hv : List V} {ix : List Nat} (p : Picks as hv ix) : hv.length = ix.length := PySem.W.EachIs.length p
theorem picks_get {as : List Addr} {hv : List V} {ix : List Nat} (p : Picks as hv ix) {j : Nat} {v : V} (h : hv[j]? = some v) : ∃ i a, ix[j]? = some i ∧ as[i]? = some a ∧ v = .ref a := by
  obtain ⟨i, hi, a, ha, e⟩ := eachIs_get p h
  exact ⟨i, a, hi, ha, e⟩
/-! what the law's state tells: kept entries, count, off -/
def cup3D (k : Nat) (row : List Int) (es : List Ent) : PyData := .list [entsD es, .int (row.length : Int), .int ((offN row.length k : Nat) : Int)]
def trio3D (as : List Addr) (ks : Nat → Nat) (rows : Nat → List Int) (es : Nat → List Ent) : PyData := .list ((List.range as.length).map fun i => cup3D (ks i) (rows i) (es i))
def lpState3 (R : CupRel) (T : List (Addr × Str)) : Sp := fun vs H Q _ => ∃ (as : List Addr) (l : Addr) (ks : Nat → Nat) (rows : Nat → List Int) (es : Nat → List Ent) (S D : Nat → AS), vs = [.ref l] ∧ Trio R T H as l ks rows es S D ∧ as.length ≤ 3 ∧ (∀ i, i < as.length → (rows i).length < 2 ^ 200) ∧ (∀ i, i < as.length → ∀ x ∈ rows i, InR x) ∧
  ∀ H', Tabs T H' → ExtN H H' → Q (.str (trio3D as ks rows es).shown) H'
theorem shw_cup3 {R : CupRel} {C : Addr} (A : CupApi R C) (L : CupLow R) {H a k row es S D} (r : R H a k row es S D) (hr : ∀ x ∈ row, InR x) (hn : row.length < 2 ^ 200) : Shw (cup3D k row es) 3 4500000 := by
  obtain ⟨k1, k2⟩ := A.keep r
  have kp := A.kept r
  have fw : es.length ≤ 20000 := Nat.le_trans kp.few (bnd_small k1 k2 hn)
  have se := shw_ents hr hn kp.tru (L.low r)
  have hb : 2 ^ 200 < 2 ^ 219 := Nat.pow_lt_pow_right (by decide) (by decide)
  have hb2 : 2 ^ 218 < 2 ^ 219 := Nat.pow_lt_pow_right (by decide) (by decide)
  have e : ((2 : Int) ^ 219) = ((2 ^ 219 : Nat) : Int) := by norm_cast
  have s1 := shw_big (i := (row.length : Int)) (by omega) (by rw [e]; omega)
  have s2 := shw_big (i := ((offN row.length k : Nat) : Int)) (by omega) (by rw [e]; have := off_small (k := k) hn; omega)
  have key : ∀ d ∈ [entsD es, .int (row.length : Int), .int ((offN row.length k : Nat) : Int)], Shw d 2 4240010 := by
    intro d hd
    simp only [List.mem_cons, List.not_mem_nil, or_false] at hd
    rcases hd with rfl | rfl | rfl
    · exact se.mono (Nat.le_refl _) (by omega)
    · exact s1.mono (by decide) (by decide)
    · exact s2.mono (by decide) (by decide)
  have w := shw_list key
  refine ⟨w.s, w.h, w.d, ?_⟩
  have t : (cup3D k row es).shown.length ≤ ((PyData.shownAll [entsD es, .int (row.length : Int), .int ((offN row.length k : Nat) : Int)]).map (·.length)).sum + 2 * 3 + 3 := by
    unfold cup3D
    simp only [PyData.shown]
    exact listText_len_le _
  simp only [PyData.shownAll, List.map_cons, List.map_nil, List.sum_cons, List.sum_nil] at t
  have a1 := se.l
  have a2 := s1.l
  have a3 := s2.l
  omega
theorem shw_trio3 {R : CupRel} {C : Addr} (A : CupApi R C) (L : CupLow R) {H : Hp} {as : List Addr} {ks : Nat → Nat} {rows : Nat → List Int} {es : Nat → List Ent} {S D : Nat → AS} (c : CupsAt R H as ks rows es S D) (h3 : as.length ≤ 3) (hr : ∀ i, i < as.length → ∀ x ∈ rows i, InR x) (hn : ∀ i, i < as.length → (rows i).length < 2 ^ 200) : Shw (trio3D as ks rows es) 4 16000000 := by
  have key : ∀ d ∈ (List.range as.length).map fun i => cup3D (ks i) (rows i) (es i), Shw d 3 4500000 := by
    intro d hd
    obtain ⟨i, hi, rfl⟩ := List.mem_map.mp hd
    have hi := List.mem_range.mp hi
    exact shw_cup3 A L (c.at_ i _ (List.getElem?_eq_getElem hi)) (hr i hi) (hn i hi)
  have w := shw_list key
  rw [List.length_map, List.length_range] at w
  exact w.mono (Nat.le_refl _) (by omega)
end Own
namespace Own
open PySem PySem.Spec PyProof.Rows L2 LamX
/-- one more cup, new, that may share what others share -/
theorem CupsAt.snoc2 {R : CupRel} {C : Addr} (A : CupApi R C) {H H' : Hp} {as : List Addr} {ks : Nat → Nat} {rows : Nat → List Int} {es : Nat → List Ent} {S D : Nat → AS} (c : CupsAt R H as ks rows es S D) (e : ExtN H H') {y : Addr} {k : Nat} {row : List Int} {es' : List Ent} {S' D' : AS}
    (r : R H' y k row es' S' D') (hs : ∀ b, S' b → NewN H b) (hd : ∀ b, D' b → NewN H b ∨ ∃ i, i < as.length ∧ D i b ∧ ¬ S i b) : CupsAt R H' (as ++ [y]) (setAt ks as.length k) (setAt rows as.length row) (setAt es as.length es') (setAt S as.length S') (setAt D as.length D') := by
  have old : ∀ j, j < as.length → ∀ b, D j b → ¬ NewN H b := fun j hj b hb => c.oldD A b ⟨j, hj, hb⟩
  have sub : ∀ j, j < as.length → ∀ b, S j b → D j b := fun j hj b hb => A.sub (c.at_ j _ (List.getElem?_eq_getElem hj)) b hb
  constructor
  · intro i a hi
    by_cases h : i < as.length
    · rw [List.getElem?_append_left h] at hi
      rw [setAt_ne _ _ (by omega), setAt_ne _ _ (by omega), setAt_ne _ _ (by omega), setAt_ne _ _ (by omega), setAt_ne _ _ (by omega)]
      exact A.extN (c.at_ i a hi) e
    · have hl := (List.getElem?_eq_some_iff.mp hi).1
      rw [List.length_append, List.length_singleton] at hl
      obtain rfl : i = as.length := by omega
      rw [List.getElem?_append_right (Nat.le_refl _), Nat.sub_self] at hi
      have hy : y = a := Option.some.inj hi
      subst hy
      rw [setAt_same, setAt_same, setAt_same, setAt_same, setAt_same]
      exact r
  · intro i j hi hj hij b hb
    rw [List.length_append, List.length_singleton] at hi hj
    by_cases h1 : i = as.length
    · subst h1
      rw [setAt_same] at hb
      rw [setAt_ne _ _ (Ne.symm hij)]
      exact fun z => old j (by omega) b z (hs b hb)
    · rw [setAt_ne _ _ h1] at hb
      by_cases h2 : j = as.length
      · subst h2
        rw [setAt_same]
        intro z
        rcases hd b z with w | ⟨q, hq, w1, w2⟩
        · exact old i (by omega) b (sub i (by omega) b hb) w
        · by_cases e : q = i
          · subst e
            exact w2 hb
          · exact c.apart i q (by omega) hq (Ne.symm e) b hb w1
      · rw [setAt_ne _ _ h2]
        exact c.apart i j (by omega) (by omega) hij b hb
/-- some of the cups -/
theorem CupsAt.take {R : CupRel} {H : Hp} {as : List Addr} {ks : Nat → Nat} {rows : Nat → List Int} {es : Nat → List Ent} {S D : Nat → AS} (c : CupsAt R H as ks rows es S D) (n : Nat) : CupsAt R H (as.take n) ks rows es S D := by
  refine ⟨fun i a hi => ?_, fun i j hi hj => ?_⟩
  · rw [List.getElem?_take] at hi
    split at hi
    · exact c.at_ i a hi
    · cases hi
  · rw [List.length_take] at hi hj
    exact c.apart i j (by omega) (by omega)
/-- cups, and what the law holds beside them -/
structure Kit (R : CupRel) (T : List (Addr × Str)) (H : Hp) (as : List Addr) (ks : Nat → Nat) (rows : Nat → List Int) (es : Nat → List Ent) (S D : Nat → AS) (os : List (Addr × HO)) : Prop where
  tabs : Tabs T H
  cups : CupsAt R H as ks rows es S D
  own : ∀ p ∈ os, Mine as.length S D H p.1 p.2
  nd : (os.map (·.1)).Nodup
section
variable {R : CupRel} {C : Addr} {T : List (Addr × Str)} {H H' : Hp} {as : List Addr} {ks : Nat → Nat} {rows : Nat → List Int} {es : Nat → List Ent} {S D : Nat → AS} {os : List (Addr × HO)}
theorem Kit.get (g : Kit R T H as ks rows es S D os) (i : Nat) {b : Addr} {o : HO} (h : os[i]? = some (b, o)) : Mine as.length S D H b o := g.own _ (List.mem_of_getElem? h)
theorem Kit.at_ (g : Kit R T H as ks rows es S D os) (i : Nat) {b : Addr} {o : HO} (h : os[i]? = some (b, o)) : H b = some o := (g.get i h).at_
theorem Kit.ext (A : CupApi R C) (g : Kit R T H as ks rows es S D os) (e : ExtN H H') (t : Tabs T H') : Kit R T H' as ks rows es S D os :=
  ⟨t, g.cups.ext A fun x o ⟨i, hi, z⟩ ex => by
    obtain ⟨o', e', nt⟩ := A.old (g.cups.at_ i _ (List.getElem?_eq_getElem hi)) x z
    cases ex.symm.trans e'
    exact e x o ex nt, fun p hp => (g.own p hp).ext e, g.nd⟩
theorem Kit.same (A : CupApi R C) (g : Kit R T H as ks rows es S D os) (s : Same H H') : Kit R T H' as ks rows es S D os := g.ext A (ExtN.of s) (g.tabs.ext s)
/-- one more thing of the law -/
theorem Kit.new (A : CupApi R C) (g : Kit R T H as ks rows es S D os) (e : ExtN H H') (t : Tabs T H') {b : Addr} {o : HO} (n : NewN H b) (h : H' b = some o) (nt : ∀ ps, o ≠ .tbl ps) : Kit R T H' as ks rows es S D (os ++ [(b, o)]) := by
  have g2 := g.ext A e t
  refine ⟨t, g2.cups, fun p hp => ?_, ?_⟩
  · rcases List.mem_append.mp hp with z | z
    · exact g2.own p z
    · rw [List.mem_singleton.mp z]
      exact mine_new A g.cups n h nt
  · rw [List.map_append, List.nodup_append]
    refine ⟨g.nd, by simp, fun x hx y hy => ?_⟩
    obtain ⟨p, hp, rfl⟩ := List.mem_map.mp hx
    have hy : y = b := by simpa using hy
    rintro rfl
    subst hy
    exact old_not (g.own p hp).at_ (g.own p hp).nt n
theorem Kit.fresh (A : CupApi R C) (g : Kit R T H as ks rows es S D os) {b : Addr} {o : HO} (n : H b = none) (nt : ∀ ps, o ≠ .tbl ps) : Kit R T (upd H b o) as ks rows es S D (os ++ [(b, o)]) := g.new A (ExtN.of (same_upd n)) (g.tabs.ext (same_upd n)) (NewN.of n) upd_same nt
theorem Kit.drop (g : Kit R T H as ks rows es S D os) (n : Nat) : Kit R T H as ks rows es S D (os.take n) := ⟨g.tabs, g.cups, fun p hp => g.own p (List.mem_of_mem_take hp), by rw [List.map_take]; exact g.nd.sublist (List.take_sublist _ _)⟩
/-- one cup moves -/
theorem Kit.move (A : CupApi R C) (g : Kit R T H as ks rows es S D os) {i : Nat} {a : Addr} (hi : as[i]? = some a) {row' : List Int} {es' : List Ent} {S' D' : AS} (t : Tabs T H') (r : R H' a (ks i) row' es' S' D') (mv : Moves H H' (S i) (D i) S' D') :
    ∃ S2 D2, Kit R T H' as ks (setAt rows i row') (setAt es i es') S2 D2 os ∧ ∀ b o, Mine as.length S D H b o → Mine as.length S2 D2 H' b o := by
  have il := (List.getElem?_eq_some_iff.mp hi).1
  have c2 := g.cups.move A hi r mv.chg mv.s fun x h => (mv.d x h).elim .inl fun z => .inr (.inr z)
  have mm : ∀ b o, Mine as.length S D H b o → Mine as.length (setAt S i S') (setAt D i D') H' b o := fun b o m => m.move (mv.chg.un il) (un_set il mv.s) (un_setU fun x h => (mv.d x h).elim (fun z => .inl ⟨i, il, z⟩) .inr)
  exact ⟨_, _, ⟨t, c2, fun p hp => mm _ _ (g.own p hp), g.nd⟩, mm⟩
/-- one cup is asked -/
theorem Kit.ask (A : CupApi R C) (g : Kit R T H as ks rows es S D os) {i : Nat} {a : Addr} (hi : as[i]? = some a) {S' D' : AS} (t : Tabs T H') (r : R H' a (ks i) (rows i) (es i) S' D') (mv : Moves H H' (S i) (D i) S' D') : ∃ S2 D2, Kit R T H' as ks rows es S2 D2 os ∧ ∀ b o, Mine as.length S D H b o → Mine as.length S2 D2 H' b o := by
  obtain ⟨S2, D2, g2, mm⟩ := g.move A hi t r mv
  rw [setAt_self, setAt_self] at g2
  exact ⟨S2, D2, g2, mm⟩
theorem Mine.cup {b : Addr} {o : HO} (m : Mine as.length S D H b o) {y k : Nat} {row tot : List Int} {es' : List Ent} {S' D' : AS} (w : NewCup R T H H' as S D y k row es' S' D' tot) : Mine (as ++ [y]).length (setAt S as.length S') (setAt D as.length D') H' b o := by
  obtain ⟨t, e, r, _, hs, hd⟩ := w
  have hl : (as ++ [y]).length = as.length + 1 := by rw [List.length_append]; rfl
  have nn := old_not m.at_ m.nt
  refine ⟨e _ _ m.at_ m.nt, m.nt, ?_, ?_⟩
  · rintro ⟨i, hi, z⟩
    rw [hl] at hi
    by_cases q : i = as.length
    · subst q
      rw [setAt_same] at z
      exact nn (hs _ z)
    · rw [setAt_ne _ _ q] at z
      exact m.noS ⟨i, by omega, z⟩
  · rintro ⟨i, hi, z⟩
    rw [hl] at hi
    by_cases q : i = as.length
    · subst q
      rw [setAt_same] at z
      rcases hd _ z with w | ⟨j, hj, w, _⟩
      · exact nn w
      · exact m.noD ⟨j, hj, w⟩
    · rw [setAt_ne _ _ q] at z
      exact m.noD ⟨i, by omega, z⟩
/-- one more cup -/
theorem Kit.cup (A : CupApi R C) (g : Kit R T H as ks rows es S D os) {y k : Nat} {row tot : List Int} {es' : List Ent} {S' D' : AS} (w : NewCup R T H H' as S D y k row es' S' D' tot) :
    Kit R T H' (as ++ [y]) (setAt ks as.length k) (setAt rows as.length row) (setAt es as.length es') (setAt S as.length S') (setAt D as.length D') os :=
  ⟨w.1, g.cups.snoc2 A w.2.1 w.2.2.1 w.2.2.2.2.1 w.2.2.2.2.2, fun p hp => (g.own p hp).cup w, g.nd⟩
/-- a dict of the law's changes -/
theorem Kit.but (A : CupApi R C) (g : Kit R T H as ks rows es S D os) {j : Nat} {d : Addr} {kvs kvs' : List (Key × V)} (hj : os[j]? = some (d, .dK kvs)) (e : But d H H') (h : H' d = some (.dK kvs')) : Kit R T H' as ks rows es S D (os.set j (d, .dK kvs')) := by
  have m0 := g.get j hj
  have jl := (List.getElem?_eq_some_iff.mp hj).1
  refine ⟨tabs_but m0.at_ e g.tabs, g.cups.ext A fun x o ⟨i, hi, z⟩ ex => e x o (fun w => m0.noD ⟨i, hi, by rw [← w]; exact z⟩) ex, fun p hp => ?_, ?_⟩
  · obtain ⟨i, hi, rfl⟩ := List.getElem_of_mem hp
    rw [List.length_set] at hi
    by_cases q : j = i
    · subst q
      rw [List.getElem_set_self]
      exact ⟨h, (fun _ z => nomatch z), m0.noS, m0.noD⟩
    · rw [List.getElem_set_ne q]
      refine (g.own _ (List.getElem_mem hi)).but e fun z => ?_
      have n1 : (os.map (·.1))[i]? = some os[i].1 := by rw [List.getElem?_map, List.getElem?_eq_getElem hi]; rfl
      have n2 : (os.map (·.1))[j]? = some d := by rw [List.getElem?_map, hj]; rfl
      exact nodup_ne g.nd n1 n2 (Ne.symm q) z
  · have : (os.set j (d, HO.dK kvs')).map (·.1) = os.map (·.1) := by
      rw [List.map_set]
      apply List.ext_getElem?
      intro i
      by_cases q : j = i
      · subst q
        rw [List.getElem?_set_self (by rw [List.length_map]; exact jl), List.getElem?_map, hj]
        rfl
      · rw [List.getElem?_set_ne q]
    rw [this]
    exact g.nd
/-- the first cups alone -/
theorem Kit.few (g : Kit R T H as ks rows es S D os) (n : Nat) : Kit R T H (as.take n) ks rows es S D os := by
  have le : (as.take n).length ≤ as.length := by rw [List.length_take]; omega
  exact ⟨g.tabs, g.cups.take n, fun p hp => (g.own p hp).fewer (fun b ⟨i, hi, z⟩ => ⟨i, by omega, z⟩) (fun b ⟨i, hi, z⟩ => ⟨i, by omega, z⟩), g.nd⟩
end
end Own
namespace Own
open PySem PySem.Spec PyProof.Rows L2 LamX
/-- what isinstance asks of an own class -/
structure KitK (K : PySem.W.Frag) (C : Addr) : Prop where
  kit : PySem.W.kitOne K (.ref C) (.ref C) = some true
  ha : PySem.W.findIn K (.ref C) "__class__" = some (some (.builtin "object.__class__"))
  hn : PySem.W.specialIn K (.builtin "object.__class__") "__get__" = some (some (.builtin "getset_descriptor.__get__"))
  tk : PySem.W.takesIn K (.builtin "object.__class__") = some true
  hm : PySem.W.mroIn K C (.type "object") = some true
theorem head_get {α : Type} {l : List α} {x : α} (h : l.head? = some x) : l[0]? = some x := by
  cases l with
  | nil => cases h
  | cons y r => exact h
theorem flat_take {ix : List Nat} {i j : Nat} (rows : Nat → List Int) (h : ix[i]? = some j) : (ix.take (i + 1)).flatMap rows = (ix.take i).flatMap rows ++ rows j := by
  have ht : ix.take (i + 1) = ix.take i ++ [j] := by rw [List.take_succ, h]; rfl
  rw [ht, List.flatMap_append]
  simp
theorem flat_bound {n : Nat} {rows : Nat → List Int} : ∀ {ix : List Nat}, (∀ i ∈ ix, (rows i).length ≤ n) → (ix.flatMap rows).length ≤ ix.length * n
  | [], _ => Nat.zero_le _
  | i :: r, h => by
    have a := h i List.mem_cons_self
    have b := flat_bound (ix := r) fun j hj => h j (List.mem_cons_of_mem _ hj)
    rw [List.flatMap_cons, List.length_append, List.length_cons, Nat.succ_mul]
    omega
end Own
namespace Own
open PySem PySem.Spec PyProof.Rows L2 LamX
/-- three cups, three rows, the deeds done, all readings in range -/
def lpThreeI (K : PySem.W.Frag) (R : CupRel) (T : List (Addr × Str)) : Sp := fun vs H Q _ => ∃ (a : Addr) (ns : List Int) (first most : Int) (g : Bool), vs = [.ref a, .int first, .int most, .bl g] ∧ SqL K H a (ns.map V.int) ∧ ns.length ≤ 63 ∧ Tabs T H ∧
  ∀ H' t l rl y1 y2 y3 d1 d2 d3 ks kn rows es S D rs n, ExtN H H' → H' t = some (.tup [.ref l, .ref rl]) → n ≤ 63 → 1 ≤ kn → kn ≤ 64 → (∀ i, i < 3 → ks i = kn) → Game R T 3 H' [y1, y2, y3] l rl [d1, d2, d3] ks rows rows es S D rs (14 * n) (2 ^ (40 + 2 * n)) →
    (∀ b, Un 3 S b → NewN H b) → (∀ b, Un 3 D b → NewN H b) → (∀ i, i < 3 → ∀ x ∈ rows i, InR x) → NewN H l → NewN H rl → (∀ (j : Nat) (d : Addr), [d1, d2, d3][j]? = some d → NewN H d) → Q (.ref t) H'
abbrev os5 (l rl y1 y2 y3 d1 d2 d3 : Addr) (r1 r2 r3 : DRow) : List (Addr × HO) := [(l, .lst [.ref y1, .ref y2, .ref y3]), (rl, .lst [.ref d1, .ref d2, .ref d3]), (d1, .dK (dk r1)), (d2, .dK (dk r2)), (d3, .dK (dk r3))]
section
variable {R : CupRel} {C : Addr} {T : List (Addr × Str)} {H H' : Hp} {l rl y1 y2 y3 d1 d2 d3 : Addr} {ks : Nat → Nat} {rows rd : Nat → List Int} {es : Nat → List Ent} {S D : Nat → AS} {rs : List DRow} {m b : Nat}
theorem Game.kit (A : CupApi R C) (g : Game R T 3 H [y1, y2, y3] l rl [d1, d2, d3] ks rows rows es S D rs m b) : ∃ r1 r2 r3, Kit R T H [y1, y2, y3] ks rows es S D (os5 l rl y1 y2 y3 d1 d2 d3 r1 r2 r3) ∧ RowOf r1 (rows 0) ∧ RowOf r2 (rows 1) ∧ RowOf r3 (rows 2) := by
  have hl := g.rlen
  match rs, hl, g with
  | [r1, r2, r3], _, g =>
    have m1 := eachIs_at g.md (i := 0) rfl rfl
    have m2 := eachIs_at g.md (i := 1) rfl rfl
    have m3 := eachIs_at g.md (i := 2) rfl rfl
    refine ⟨r1, r2, r3, ⟨g.tabs, g.cups, ?_, ?_⟩, g.ro 0 r1 rfl, g.ro 1 r2 rfl, g.ro 2 r3 rfl⟩
    · intro p hp
      simp only [List.mem_cons, List.not_mem_nil, or_false] at hp
      rcases hp with rfl | rfl | rfl | rfl | rfl
      · exact g.ml
      · exact g.mr
      · exact m1
      · exact m2
      · exact m3
    · have nd := g.nd
      have n1 : l ≠ rl := by
        intro z
        have e := g.ml.at_
        rw [z, g.mr.at_] at e
        have e : d1 = y1 := by
          injection e with e
          injection e with e
          injection e with e
          exact V.ref.inj e
        obtain ⟨dx, fs, hi, _⟩ := A.inst (g.cups.at_ 0 y1 rfl)
        rw [← e, m1.at_] at hi
        cases hi
      have kl : ∀ (d : Addr) (r : DRow), Mine 3 S D H d (.dK (dk r)) → l ≠ d ∧ rl ≠ d := fun d r md => ⟨ne_of g.ml.at_ md.at_ (fun z => nomatch z), ne_of g.mr.at_ md.at_ (fun z => nomatch z)⟩
      have k1 := kl _ _ m1
      have k2 := kl _ _ m2
      have k3 := kl _ _ m3
      simp only [List.map_cons, List.map_nil, List.nodup_cons, List.mem_cons, List.not_mem_nil, or_false, not_or, not_false_eq_true, List.nodup_nil, and_true] at nd ⊢
      exact ⟨⟨n1, k1.1, k2.1, k3.1⟩, ⟨k1.2, k2.2, k3.2⟩, nd⟩
end
/-- the cups picked -/
def hvOf (as : List Addr) (ix : List Nat) : List V := ix.map fun i => V.ref (as.getD i 0)
theorem picks_of {as : List Addr} : ∀ {ix : List Nat}, (∀ i ∈ ix, i < as.length) → Picks as (hvOf as ix) ix
  | [], _ => .nil
  | i :: r, h => .cons ⟨as[i]'(h i List.mem_cons_self), List.getElem?_eq_getElem _, by
      show V.ref (as.getD i 0) = _
      rw [List.getD_eq_getElem?_getD, List.getElem?_eq_getElem (h i List.mem_cons_self)]
      rfl⟩ (picks_of fun j hj => h j (List.mem_cons_of_mem _ hj))
theorem trio3D_congr {as : List Addr} {ks ks' : Nat → Nat} {rows rows' : Nat → List Int} {es es' : Nat → List Ent} (h : ∀ i, i < as.length → ks i = ks' i ∧ rows i = rows' i ∧ es i = es' i) : trio3D as ks rows es = trio3D as ks' rows' es' := by
  unfold trio3D
  congr 1
  apply List.map_congr_left
  intro i hi
  obtain ⟨a, b, c⟩ := h i (List.mem_range.mp hi)
  rw [a, b, c]
end Own
namespace Own
open PySem PySem.Spec PyProof.Rows L2 LamX
theorem Picks.more {as bs : List Addr} {hv : List V} {ix : List Nat} (p : Picks as hv ix) : Picks (as ++ bs) hv ix := p.mono fun v i ⟨a, ha, e⟩ => ⟨a, by rw [List.getElem?_append_left (List.getElem?_eq_some_iff.mp ha).1]; exact ha, e⟩
theorem un_head {ix : List Nat} {f : Nat → Nat} {i j : Nat} (hi : i ∈ ix) (hj : j ∈ ix) (h : f i ≠ f j) : ∃ i0, ix.head? = some i0 ∧ ∃ q ∈ ix, f q ≠ f i0 := by
  cases ix with
  | nil => exact absurd hi List.not_mem_nil
  | cons y r =>
    refine ⟨y, rfl, ?_⟩
    by_cases e : f i = f y
    · exact ⟨j, hj, fun z => h (e.trans z.symm)⟩
    · exact ⟨i, hi, e⟩
theorem hvOf_take (as : List Addr) (ix : List Nat) (t : Nat) : (hvOf as ix).take t = hvOf as (ix.take t) := by
  unfold hvOf
  rw [List.map_take]
theorem hvOf_drop (as : List Addr) (ix : List Nat) (t : Nat) : (hvOf as ix).drop t = hvOf as (ix.drop t) := by
  unfold hvOf
  rw [List.map_drop]
theorem Hand.of {R : CupRel} {T : List (Addr × Str)} {H : Hp} {as : List Addr} {ks : Nat → Nat} {rows : Nat → List Int} {es : Nat → List Ent} {S D : Nat → AS} {os : List (Addr × HO)} (g : Kit R T H as ks rows es S D os) {l : Addr} {hv : List V} {ix : List Nat} (h : H l = some (.lst hv)) (p : Picks as hv ix) (few : ix.length ≤ 7) (len : ∀ i, i < as.length → (rows i).length < 2 ^ 196) : Hand R T H l as ks rows es S D hv ix := ⟨g.tabs, g.cups, h, p, few, len⟩
theorem trio_of {R : CupRel} {T : List (Addr × Str)} {H : Hp} {as : List Addr} {ks : Nat → Nat} {rows : Nat → List Int} {es : Nat → List Ent} {S D : Nat → AS} {os : List (Addr × HO)} (g : Kit R T H as ks rows es S D os) {l : Addr} (i : Nat) (h : os[i]? = some (l, .lst (as.map V.ref))) : Trio R T H as l ks rows es S D := ⟨g.tabs, g.cups, g.get i h⟩
end Own
namespace Own
open PySem PySem.Spec PyProof.Rows L2 LamX
theorem sqL_but {K : PySem.W.Frag} {H H' : Hp} {a d : Addr} {kvs : List (Key × V)} {xs : List V} (h : SqL K H a xs) (hd : H d = some (.dK kvs)) (e : But d H H') : SqL K H' a xs := by
  rcases h with (h | ⟨o, h⟩) | h
  · exact .inl (.inl (e _ _ (ne_of h hd (fun z => nomatch z)) h))
  · exact .inl (.inr ⟨o, e _ _ (ne_of h hd (fun z => nomatch z)) h⟩)
  · exact .inr h
/-- what the law holds: the cups' list, the rows' list, three rows, the picks, the cups handed, a row of them -/
abbrev os8 (l rl y1 y2 y3 d1 d2 d3 sl hl q : Addr) (r1 r2 r3 : DRow) (ix : List Nat) (hv : List V) (r : DRow) : List (Addr × HO) :=
  [(l, .lst [.ref y1, .ref y2, .ref y3]), (rl, .lst [.ref d1, .ref d2, .ref d3]), (d1, .dK (dk r1)), (d2, .dK (dk r2)), (d3, .dK (dk r3)), (sl, .lst (ix.map fun (j : Nat) => V.int (j : Int))), (hl, .lst hv), (q, .dK (dk r))]
section
variable {R : CupRel} {C : Addr} {T : List (Addr × Str)} {K : PySem.W.Frag} {H : Hp} {as : List Addr} {l rl y1 y2 y3 d1 d2 d3 sl hl q : Addr} {r1 r2 r3 : DRow} {ix : List Nat} {hv : List V} {ks : Nat → Nat} {rows rd : Nat → List Int} {es : Nat → List Ent} {S D : Nat → AS}
theorem come_loop (A : CupApi R C) {E : Ends} {v0 v1 v3 v5 v6 v7 v8 v9 v11 : Option V} (g : Kit R T H as ks rows es S D (os8 l rl y1 y2 y3 d1 d2 d3 sl hl q r1 r2 r3 ix hv [])) (ro1 : RowOf r1 (rd 0)) (ro2 : RowOf r2 (rd 1)) (ro3 : RowOf r3 (rd 2)) (ix3 : ∀ i ∈ ix, i < 3) (ixl : ix.length ≤ 10)
    {U : List Int} (hU : U.length ≤ 1000) (hr : ∀ j, j < 3 → ∀ x ∈ rd j, x ∈ U)
    (k : ∀ H' r v, Kit R T H' as ks rows es S D (os8 l rl y1 y2 y3 d1 d2 d3 sl hl q r1 r2 r3 ix hv r) → RowOf r (ix.flatMap rd) → r.length ≤ 1000 → But q H H' → E.nx [v0, v1, some (.ref rl), v3, some (.ref sl), v5, v6, v, v8, v9, some (.ref q), v11] H') :
    tFor (iList K (tVar 4)) (gName 7) (tDrop (tCall (lpCome K) [] E0 (tCons (tLst (tCons (tVar 10) (tCons (tOp (rIxL K) (tVar 2) (tVar 7)) tNil))) (tCons (tTup (tCons (tC (V.int 0)) (tCons (tC (V.int 1)) tNil))) tNil)))) E [v0, v1, some (.ref rl), v3, some (.ref sl), v5, v6, v7, v8, v9, some (.ref q), v11] H := by
  have mem : ∀ i, ∀ x ∈ (ix.take i).flatMap rd, x ∈ U := fun i x hx => by
    obtain ⟨j, hj, z⟩ := List.mem_flatMap.mp hx
    exact hr j (ix3 j (List.mem_of_mem_take hj)) x z
  refine ⟨_, rfl, sl, rfl, ⟨_, .inl (.inl (g.at_ 5 rfl))⟩, for_list (K := K) (a := sl) (xs := ix.map fun (j : Nat) => V.int (j : Int)) (fun i σ H' => ∃ v r, σ = [v0, v1, some (.ref rl), v3, some (.ref sl), v5, v6, v, v8, v9, some (.ref q), v11] ∧ Kit R T H' as ks rows es S D (os8 l rl y1 y2 y3 d1 d2 d3 sl hl q r1 r2 r3 ix hv r) ∧ RowOf r ((ix.take i).flatMap rd) ∧ But q H H') ⟨v7, [], rfl, g, RowOf.nil, fun b o _ e => e⟩ (fun i σ H' _ ⟨_, _, _, g', _⟩ => .inl (.inl (g'.at_ 5 rfl))) ?_ ?_⟩
  · rintro i x σ H' hi ⟨v, r, rfl, g', ro, bu⟩
    obtain ⟨j, hj, rfl⟩ : ∃ j, ix[i]? = some j ∧ x = V.int (j : Int) := by
      rw [List.getElem?_map] at hi
      cases hp : ix[i]? with
      | none => rw [hp] at hi; cases hi
      | some y => rw [hp] at hi; exact ⟨y, rfl, (Option.some.inj hi).symm⟩
    have j3 := ix3 j (List.mem_of_getElem? hj)
    obtain ⟨dj, rj, hdj, roj, hat⟩ : ∃ dj rj, [V.ref d1, V.ref d2, V.ref d3][j]? = some (V.ref dj) ∧ RowOf rj (rd j) ∧ H' dj = some (.dK (dk rj)) := by
      rcases (show j = 0 ∨ j = 1 ∨ j = 2 by omega) with rfl | rfl | rfl
      · exact ⟨d1, r1, rfl, ro1, g'.at_ 2 rfl⟩
      · exact ⟨d2, r2, rfl, ro2, g'.at_ 3 rfl⟩
      · exact ⟨d3, r3, rfl, ro3, g'.at_ 4 rfl⟩
    have rl1 := ro.few (mem i)
    have rl2 := roj.few (hr j j3)
    refine ⟨_, rfl, _, rfl, _, rfl, rl, _, _, _, rfl, rfl, .inl (.inl (g'.at_ 1 rfl)), atI_nat (j := j) hdj, by show 2 ≤ sizeLine; decide, fun p1 n1 => ⟨by show 2 ≤ sizeLine; decide, fun p2 n2 => ?_⟩⟩
    have s2 := (same_upd (o := .lst [V.ref q, V.ref dj]) n1).trans (same_upd (o := .tup [V.int 0, V.int 1]) n2)
    have hp1 : (upd (upd H' p1 (.lst [V.ref q, V.ref dj])) p2 (.tup [V.int 0, V.int 1])) p1 = some (.lst [V.ref q, V.ref dj]) := (same_upd (o := .tup [V.int 0, V.int 1]) n2) _ _ upd_same
    have hp2 : (upd (upd H' p1 (.lst [V.ref q, V.ref dj])) p2 (.tup [V.int 0, V.int 1])) p2 = some (.tup [V.int 0, V.int 1]) := upd_same
    have g2 := g'.same A s2
    revert s2 hp1 hp2 g2
    generalize upd (upd H' p1 (.lst [V.ref q, V.ref dj])) p2 (.tup [V.int 0, V.int 1]) = H2
    intro s2 hp1 hp2 g2
    refine ⟨p1, p2, q, [q, dj], [r, rj], .pour 0 1, rfl, hp1, .cons (g2.at_ 7 rfl) (.cons (s2 _ _ hat) .nil), hp2, ⟨⟨by decide, by decide⟩⟩, rfl, fun s c e => ?_, fun z hz => ?_, fun H3 b3 h3 => ?_⟩
    · cases e
      exact (show 1 < 2 by decide)
    · simp only [List.mem_cons, List.not_mem_nil, or_false] at hz
      rcases hz with rfl | rfl <;> omega
    · have g3 := g2.but A (j := 7) rfl b3 h3
      refine ⟨_, pourZ r rj, rfl, g3, ?_, fun b o hb e => b3 b o hb (s2 _ _ (bu b o hb e))⟩
      rw [flat_take _ hj]
      exact ro.pour roj
  · rintro σ H' ⟨v, r, rfl, g', ro, bu⟩
    rw [List.length_map, List.take_length] at ro
    have rl1 := ro.few (U := U) fun x hx => mem ix.length x (by rw [List.take_length]; exact hx)
    exact k H' r v g' ro (by omega) bu
end
end Own
namespace Own
open PySem PySem.Spec PyProof.Rows L2 LamX
section
variable {R : CupRel} {C : Addr} {T : List (Addr × Str)} {K : PySem.W.Frag} {H H' : Hp} {as : List Addr} {l rl y1 y2 y3 d1 d2 d3 sl hl q : Addr} {r1 r2 r3 r : DRow} {ix : List Nat} {hv : List V} {ks : Nat → Nat} {rows rd : Nat → List Int} {es : Nat → List Ent} {S D : Nat → AS}
/-- one of the three rows changes -/
theorem Kit.come8 (A : CupApi R C) (g : Kit R T H as ks rows es S D (os8 l rl y1 y2 y3 d1 d2 d3 sl hl q r1 r2 r3 ix hv r)) {j : Nat} (hj : j < 3) {dj : Addr} (hd : [d1, d2, d3][j]? = some dj) {r' : DRow} (b : But dj H H') (h : H' dj = some (.dK (dk r'))) (ro1 : RowOf r1 (rd 0)) (ro2 : RowOf r2 (rd 1)) (ro3 : RowOf r3 (rd 2)) {row' : List Int} (ro' : RowOf r' row') :
    ∃ r1' r2' r3', Kit R T H' as ks rows es S D (os8 l rl y1 y2 y3 d1 d2 d3 sl hl q r1' r2' r3' ix hv r) ∧ RowOf r1' (setAt rd j row' 0) ∧ RowOf r2' (setAt rd j row' 1) ∧ RowOf r3' (setAt rd j row' 2) := by
  rcases (show j = 0 ∨ j = 1 ∨ j = 2 by omega) with rfl | rfl | rfl
  · cases hd
    exact ⟨r', r2, r3, g.but A (j := 2) rfl b h, by rw [setAt_same]; exact ro', by rw [setAt_ne _ _ (by decide)]; exact ro2, by rw [setAt_ne _ _ (by decide)]; exact ro3⟩
  · cases hd
    exact ⟨r1, r', r3, g.but A (j := 3) rfl b h, by rw [setAt_ne _ _ (by decide)]; exact ro1, by rw [setAt_same]; exact ro', by rw [setAt_ne _ _ (by decide)]; exact ro3⟩
  · cases hd
    exact ⟨r1, r2, r', g.but A (j := 4) rfl b h, by rw [setAt_ne _ _ (by decide)]; exact ro1, by rw [setAt_ne _ _ (by decide)]; exact ro2, by rw [setAt_same]; exact ro'⟩
theorem Kit.q7 (g : Kit R T H as ks rows es S D (os8 l rl y1 y2 y3 d1 d2 d3 sl hl q r1 r2 r3 ix hv r)) (A : CupApi R C) {r' : DRow} (b : But q H H') (h : H' q = some (.dK (dk r'))) : Kit R T H' as ks rows es S D (os8 l rl y1 y2 y3 d1 d2 d3 sl hl q r1 r2 r3 ix hv r') := g.but A (j := 7) rfl b h
theorem but_upd {H : Hp} {d : Addr} {o : HO} : But d H (upd H d o) := fun b o' hb e => by
  rw [upd_ne hb]
  exact e
end
end Own
namespace Own
open PySem PySem.Spec PyProof.Rows L2 LamX
theorem Scr.moveN {K : PySem.W.Frag} {n n' : Nat} {S D S' D' : Nat → AS} {H H' : Hp} {a : Addr} {xs : List V} (h : Scr K n S D H a xs) (k : ∀ o, Mine n S D H a o → Mine n' S' D' H' a o) : Scr K n' S' D' H' a xs := by
  rcases h with ⟨o, m, q⟩ | q
  · exact .inl ⟨o, k o m, q⟩
  · exact .inr q
end Own

/-! How far two rows lie apart. -/
namespace Own
open PySem PySem.Spec PyProof.Rows L2 LamX
/-- what kept entries tell of any reading -/
structure CupGap (R : CupRel) : Prop where
  part : ∀ {H a k row es S D}, R H a k row es S D → ∃ W, PartOk es row ((offN row.length k : Nat) : Int) W
theorem cupGap (C : Addr) : CupGap (CupRl C) where
  part := by
    rintro H a k row es S D ⟨dx, l, d, loose, bs, c, p, rfl, rfl, rfl⟩
    obtain ⟨W, h1, _, _⟩ := kept_all c.k1 c.ok c.nd c.few p
    exact ⟨W, h1⟩
theorem cr_maxK {X : Cx} {K : PySem.W.Frag} (hc : X.calm = true) (h : X.K = K := by rfl) : CallR X (.builtin "max") (rMax K) := h ▸ cr_max hc
def mx2 (a b : Int) : Int := if a < b then b else a
theorem mx2_le (a b : Int) : a ≤ mx2 a b ∧ b ≤ mx2 a b ∧ (mx2 a b = a ∨ mx2 a b = b) := by
  unfold mx2
  split <;> omega
theorem nuMax3_int (a b c : Int) : nuMax3 (.int a) (.int b) (.int c) = some (.int (mx2 (mx2 a b) c)) := by
  have h : ∀ a b : Int, nuMax2 (.int a) (.int b) = some (.int (mx2 a b)) := fun a b => by
    unfold nuMax2 mx2
    show some (if decide (a < b) = true then V.int b else V.int a) = _
    by_cases h : a < b
    · rw [if_pos (decide_eq_true h), if_pos h]
    · rw [if_neg (fun z => h (of_decide_eq_true z)), if_neg h]
  unfold nuMax3
  rw [h]
  exact h _ _
/-- the difference at a number -/
def difZ (a b : List Int) (x : Int) : Int := clt a x * (b.length : Int) - clt b x * (a.length : Int)
/-- without its sign -/
def absZ (i : Int) : Int := if i < 0 then -i else i
theorem absZ_le {i d : Int} : absZ i ≤ d ↔ i ≤ d ∧ -i ≤ d := by
  unfold absZ
  split <;> omega
theorem absZ_nn (i : Int) : 0 ≤ absZ i := by
  unfold absZ
  split <;> omega
theorem absZ_neg (i : Int) : absZ (-i) = absZ i := by
  unfold absZ
  split <;> split <;> omega
/-- the greatest difference -/
structure GreatD (a b : List Int) (d : Int) : Prop where
  at_ : ∃ x, absZ (difZ a b x) = d
  all : ∀ x, absZ (difZ a b x) ≤ d
theorem difZ_swap (a b : List Int) (x : Int) : difZ b a x = - difZ a b x := by
  unfold difZ
  omega
theorem GreatD.swap {a b : List Int} {d : Int} (h : GreatD a b d) : GreatD b a d := by
  obtain ⟨⟨x, hx⟩, h2⟩ := h
  refine ⟨⟨x, by rw [difZ_swap, absZ_neg]; exact hx⟩, fun y => by rw [difZ_swap, absZ_neg]; exact h2 y⟩
/-- by parts -/
def loT (es fs : List Ent) (n m : Int) (x : Int) : Int := mx2 (loC es (noLess es x) * m - upC fs m (noLess fs x) * n) (loC fs (noLess fs x) * n - upC es n (noLess es x) * m)
def hiT (es fs : List Ent) (n m : Int) (x : Int) : Int := mx2 (upC es n (noLess es x) * m - loC fs (noLess fs x) * n) (upC fs m (noLess fs x) * n - loC es (noLess es x) * m)
section
variable {es fs : List Ent} {a b : List Int} {g g' w w' : Int}
theorem part_terms (pa : PartOk es a g w) (pb : PartOk fs b g' w') (x : Int) :
    loC es (noLess es x) * (b.length : Int) - upC fs (b.length : Int) (noLess fs x) * (a.length : Int) ≤ difZ a b x ∧
    difZ a b x ≤ upC es (a.length : Int) (noLess es x) * (b.length : Int) - loC fs (noLess fs x) * (a.length : Int) ∧
    loC fs (noLess fs x) * (a.length : Int) - upC es (a.length : Int) (noLess es x) * (b.length : Int) ≤ - difZ a b x ∧
    - difZ a b x ≤ upC fs (b.length : Int) (noLess fs x) * (a.length : Int) - loC es (noLess es x) * (b.length : Int) ∧
    (upC es (a.length : Int) (noLess es x) - loC es (noLess es x)) * (b.length : Int) ≤ g * (b.length : Int) ∧
    (upC fs (b.length : Int) (noLess fs x) - loC fs (noLess fs x)) * (a.length : Int) ≤ g' * (a.length : Int) := by
  obtain ⟨a1, a2, a3⟩ := pa.pair x
  obtain ⟨b1, b2, b3⟩ := pb.pair x
  unfold difZ
  have hn : (0 : Int) ≤ (a.length : Int) := Int.natCast_nonneg _
  have hm : (0 : Int) ≤ (b.length : Int) := Int.natCast_nonneg _
  have m1 := Int.mul_le_mul_of_nonneg_right a1 hm
  have m2 := Int.mul_le_mul_of_nonneg_right a2 hm
  have m3 := Int.mul_le_mul_of_nonneg_right b1 hn
  have m4 := Int.mul_le_mul_of_nonneg_right b2 hn
  have m5 := Int.mul_le_mul_of_nonneg_right a3 hm
  have m6 := Int.mul_le_mul_of_nonneg_right b3 hn
  exact ⟨by omega, by omega, by omega, by omega, m5, m6⟩
theorem lo_dif (pa : PartOk es a g w) (pb : PartOk fs b g' w') (x : Int) : loT es fs (a.length : Int) (b.length : Int) x ≤ absZ (difZ a b x) := by
  obtain ⟨h1, h2, h3, h4, _, _⟩ := part_terms pa pb x
  obtain ⟨_, _, h | h⟩ := mx2_le (loC es (noLess es x) * (b.length : Int) - upC fs (b.length : Int) (noLess fs x) * (a.length : Int)) (loC fs (noLess fs x) * (a.length : Int) - upC es (a.length : Int) (noLess es x) * (b.length : Int))
  all_goals
    unfold loT
    rw [h]
    unfold absZ
    split <;> omega
theorem dif_hi (pa : PartOk es a g w) (pb : PartOk fs b g' w') (x : Int) : absZ (difZ a b x) ≤ hiT es fs (a.length : Int) (b.length : Int) x := by
  obtain ⟨h1, h2, h3, h4, _, _⟩ := part_terms pa pb x
  obtain ⟨k1, k2, _⟩ := mx2_le (upC es (a.length : Int) (noLess es x) * (b.length : Int) - loC fs (noLess fs x) * (a.length : Int)) (upC fs (b.length : Int) (noLess fs x) * (a.length : Int) - loC es (noLess es x) * (b.length : Int))
  unfold hiT
  rw [absZ_le]
  omega
theorem hi_lo (pa : PartOk es a g w) (pb : PartOk fs b g' w') (x : Int) : hiT es fs (a.length : Int) (b.length : Int) x - loT es fs (a.length : Int) (b.length : Int) x ≤ g * (b.length : Int) + g' * (a.length : Int) := by
  obtain ⟨_, _, _, _, h5, h6⟩ := part_terms pa pb x
  rw [Int.sub_mul] at h5 h6
  obtain ⟨k1, k2, _⟩ := mx2_le (loC es (noLess es x) * (b.length : Int) - upC fs (b.length : Int) (noLess fs x) * (a.length : Int)) (loC fs (noLess fs x) * (a.length : Int) - upC es (a.length : Int) (noLess es x) * (b.length : Int))
  obtain ⟨_, _, h | h⟩ := mx2_le (upC es (a.length : Int) (noLess es x) * (b.length : Int) - loC fs (noLess fs x) * (a.length : Int)) (upC fs (b.length : Int) (noLess fs x) * (a.length : Int) - loC es (noLess es x) * (b.length : Int))
  all_goals
    unfold hiT loT
    rw [h]
    omega
end
theorem least_ge {l : List Int} {x : Int} (h : ∃ y ∈ l, x ≤ y) : ∃ s ∈ l, x ≤ s ∧ ∀ y ∈ l, x ≤ y → s ≤ y := by
  induction l with
  | nil =>
    obtain ⟨y, hy, _⟩ := h
    exact absurd hy List.not_mem_nil
  | cons z r ih =>
    by_cases hr : ∃ y ∈ r, x ≤ y
    · obtain ⟨s, hs, h1, h2⟩ := ih hr
      by_cases hz : x ≤ z ∧ z < s
      · refine ⟨z, List.mem_cons_self, hz.1, fun y hy hxy => ?_⟩
        rcases List.mem_cons.mp hy with rfl | hy
        · exact Int.le_refl _
        · have := h2 y hy hxy
          omega
      · refine ⟨s, List.mem_cons_of_mem _ hs, h1, fun y hy hxy => ?_⟩
        rcases List.mem_cons.mp hy with rfl | hy
        · omega
        · exact h2 y hy hxy
    · obtain ⟨y, hy, hxy⟩ := h
      rcases List.mem_cons.mp hy with rfl | hy
      · refine ⟨y, List.mem_cons_self, hxy, fun v hv hxv => ?_⟩
        rcases List.mem_cons.mp hv with rfl | hv
        · exact Int.le_refl _
        · exact absurd ⟨v, hv, hxv⟩ hr
      · exact absurd ⟨y, hy, hxy⟩ hr
/-- the steps tell all -/
theorem step_of (es fs : List Ent) {m : Int} (hm : ∀ y ∈ (es ++ fs).map (·.1), y ≤ m) (x : Int) : ∃ s ∈ (es ++ fs).map (·.1) ++ [m + 1], noLess es s = noLess es x ∧ noLess fs s = noLess fs x := by
  have key : ∀ s : Int, (∀ e ∈ es ++ fs, (e.1 < s ↔ e.1 < x)) → noLess es s = noLess es x ∧ noLess fs s = noLess fs x := fun s h => by
    unfold noLess
    refine ⟨congrArg List.length (List.filter_congr fun e he => ?_), congrArg List.length (List.filter_congr fun e he => ?_)⟩
    · have := h e (List.mem_append_left _ he)
      by_cases z : e.1 < x
      · rw [decide_eq_true z, decide_eq_true (this.mpr z)]
      · rw [decide_eq_false z, decide_eq_false fun w => z (this.mp w)]
    · have := h e (List.mem_append_right _ he)
      by_cases z : e.1 < x
      · rw [decide_eq_true z, decide_eq_true (this.mpr z)]
      · rw [decide_eq_false z, decide_eq_false fun w => z (this.mp w)]
  by_cases h : ∃ y ∈ (es ++ fs).map (·.1), x ≤ y
  · obtain ⟨s, hs, h1, h2⟩ := least_ge h
    refine ⟨s, List.mem_append_left _ hs, key s fun e he => ⟨fun z => ?_, fun z => by omega⟩⟩
    have := h2 e.1 (List.mem_map_of_mem he)
    omega
  · refine ⟨m + 1, List.mem_append_right _ (List.mem_singleton.mpr rfl), key _ fun e he => ?_⟩
    have a1 := hm e.1 (List.mem_map_of_mem he)
    have a2 : ¬ x ≤ e.1 := fun z => h ⟨e.1, List.mem_map_of_mem he, z⟩
    omega
/-- so far -/
structure SoFar (T : Int → Int) (ss : List Int) (v : Int) : Prop where
  nn : 0 ≤ v
  one : v = 0 ∨ ∃ s ∈ ss, v = T s
  all : ∀ s ∈ ss, T s ≤ v
theorem SoFar.nil (T : Int → Int) : SoFar T [] 0 := ⟨Int.le_refl _, .inl rfl, fun s h => absurd h List.not_mem_nil⟩
theorem SoFar.snoc {T : Int → Int} {ss : List Int} {v s : Int} (h : SoFar T ss v) {p q : Int} (e : T s = mx2 p q) : SoFar T (ss ++ [s]) (mx2 (mx2 v p) q) := by
  obtain ⟨a1, a2, a3⟩ := mx2_le v p
  obtain ⟨b1, b2, b3⟩ := mx2_le (mx2 v p) q
  obtain ⟨c1, c2, c3⟩ := mx2_le p q
  have hn := h.nn
  refine ⟨by omega, ?_, fun t ht => ?_⟩
  · by_cases z : mx2 (mx2 v p) q = v
    · rw [z]
      rcases h.one with w | ⟨t, ht, w⟩
      · exact .inl w
      · exact .inr ⟨t, List.mem_append_left _ ht, w⟩
    · refine .inr ⟨s, List.mem_append_right _ (List.mem_singleton.mpr rfl), ?_⟩
      rw [e]
      omega
  · rcases List.mem_append.mp ht with w | w
    · have := h.all t w
      omega
    · rw [List.mem_singleton.mp w, e]
      omega
/-- what the program tells is right -/
theorem apart_right {es fs : List Ent} {a b : List Int} {g g' w w' m lo hi d : Int} (pa : PartOk es a g w) (pb : PartOk fs b g' w') (hg : 0 ≤ g) (hg' : 0 ≤ g') (hm : ∀ y ∈ (es ++ fs).map (·.1), y ≤ m)
    (hlo : SoFar (loT es fs (a.length : Int) (b.length : Int)) ((es ++ fs).map (·.1) ++ [m + 1]) lo) (hhi : SoFar (hiT es fs (a.length : Int) (b.length : Int)) ((es ++ fs).map (·.1) ++ [m + 1]) hi) (hd : GreatD a b d) :
    lo ≤ d ∧ d ≤ hi ∧ hi - lo ≤ g * (b.length : Int) + g' * (a.length : Int) := by
  obtain ⟨⟨x0, hx0⟩, dall⟩ := hd
  have dn : 0 ≤ d := by rw [← hx0]; exact absZ_nn _
  have n1 : 0 ≤ g * (b.length : Int) := Int.mul_nonneg hg (Int.natCast_nonneg _)
  have n2 : 0 ≤ g' * (a.length : Int) := Int.mul_nonneg hg' (Int.natCast_nonneg _)
  refine ⟨?_, ?_, ?_⟩
  · rcases hlo.one with h | ⟨s, _, h⟩
    · omega
    · have := lo_dif pa pb s
      have := dall s
      omega
  · obtain ⟨s, hs, e1, e2⟩ := step_of es fs hm x0
    have h1 := dif_hi pa pb x0
    have h2 := hhi.all s hs
    have e : hiT es fs (a.length : Int) (b.length : Int) s = hiT es fs (a.length : Int) (b.length : Int) x0 := by
      unfold hiT
      rw [e1, e2]
    omega
  · have := hlo.nn
    rcases hhi.one with h | ⟨s, hs, h⟩
    · omega
    · have h1 := hlo.all s hs
      have h2 := hi_lo pa pb s
      omega
end Own
namespace Own
open PySem PySem.Spec PyProof.Rows L2 LamX
theorem SoFar.snoc1 {T : Int → Int} {ss : List Int} {v s : Int} (h : SoFar T ss v) : SoFar T (ss ++ [s]) (mx2 v (T s)) := by
  obtain ⟨a1, a2, a3⟩ := mx2_le v (T s)
  have hn := h.nn
  refine ⟨by omega, ?_, fun t ht => ?_⟩
  · rcases a3 with z | z
    · rw [z]
      rcases h.one with w | ⟨t, ht, w⟩
      · exact .inl w
      · exact .inr ⟨t, List.mem_append_left _ ht, w⟩
    · exact .inr ⟨s, List.mem_append_right _ (List.mem_singleton.mpr rfl), z⟩
  · rcases List.mem_append.mp ht with w | w
    · have := h.all t w
      omega
    · rw [List.mem_singleton.mp w]
      omega
theorem most_lt {l : List Int} {x : Int} (h : ∃ y ∈ l, y < x) : ∃ s ∈ l, s < x ∧ ∀ y ∈ l, y < x → y ≤ s := by
  obtain ⟨s, hs, h1, h2⟩ := least_ge (l := l.map fun y => -y) (x := 1 - x) (by
    obtain ⟨y, hy, z⟩ := h
    exact ⟨-y, List.mem_map_of_mem hy, by omega⟩)
  obtain ⟨y, hy, rfl⟩ := List.mem_map.mp hs
  refine ⟨y, hy, by omega, fun z hz hzx => ?_⟩
  have := h2 (-z) (List.mem_map_of_mem hz) (by omega)
  omega
theorem clt_iff {a : List Int} {x y : Int} (h : ∀ r ∈ a, (r < x ↔ r < y)) : clt a x = clt a y := by
  unfold clt
  congr 2
  apply List.filter_congr
  intro r hr
  have := h r hr
  by_cases z : r < y
  · rw [decide_eq_true z, decide_eq_true (this.mpr z)]
  · rw [decide_eq_false z, decide_eq_false fun w => z (this.mp w)]
theorem clt_none {a : List Int} {x : Int} (h : ∀ r ∈ a, ¬ r < x) : clt a x = 0 := by
  unfold clt
  rw [List.filter_eq_nil_iff.mpr fun r hr => by simpa using h r hr]
  rfl
/-- at each reading and one more -/
theorem great_of {a b ks : List Int} {v : Int} (hk : ∀ x, x ∈ ks ↔ x ∈ a ∨ x ∈ b) (h : SoFar (fun x => absZ (difZ a b x)) (ks.flatMap fun x => [x, x + 1]) v) : GreatD a b v := by
  have all : ∀ x, absZ (difZ a b x) ≤ v := fun x => by
    by_cases z : ∃ y ∈ ks, y < x
    · obtain ⟨s, hs, h1, h2⟩ := most_lt z
      have e : ∀ c : List Int, (∀ r ∈ c, r ∈ ks) → clt c x = clt c (s + 1) := fun c hc => clt_iff fun r hr => ⟨fun w => by have := h2 r (hc r hr) w; omega, fun w => by omega⟩
      have e2 : difZ a b x = difZ a b (s + 1) := by
        unfold difZ
        rw [e a fun r hr => (hk r).mpr (.inl hr), e b fun r hr => (hk r).mpr (.inr hr)]
      rw [e2]
      exact h.all (s + 1) (List.mem_flatMap.mpr ⟨s, hs, by simp⟩)
    · have e : ∀ c : List Int, (∀ r ∈ c, r ∈ ks) → clt c x = 0 := fun c hc => clt_none fun r hr w => z ⟨r, hc r hr, w⟩
      have e2 : difZ a b x = 0 := by
        unfold difZ
        rw [e a fun r hr => (hk r).mpr (.inl hr), e b fun r hr => (hk r).mpr (.inr hr)]
        simp
      rw [e2]
      exact h.nn
  refine ⟨?_, all⟩
  rcases h.one with w | ⟨s, _, w⟩
  · refine ⟨0, ?_⟩
    have h1 := all 0
    have h2 := absZ_nn (difZ a b 0)
    omega
  · exact ⟨s, w.symm⟩
def cpSteps : Sp := fun vs H Q _ => ∃ (a : Addr) (xs : List V) (es : List Ent), vs = [.ref a] ∧ H a = some (.lst xs) ∧ EntsAre H xs es ∧ es ≠ [] ∧ es.length ≤ 40000 ∧
  ∀ H' p m, Same H H' → H p = none → (∀ y ∈ es.map (·.1), y ≤ m) → H' p = some (.lst ((es.map (·.1) ++ [m + 1]).map V.int)) → Q (.ref p) H'
def cpApart (R : CupRel) (T : List (Addr × Str)) (NR : Addr) : Sp := fun vs H Q E => ∃ (a b : Addr) (k k2 : Nat) (row row2 : List Int) (es es2 : List Ent) (S D S2 D2 : AS), vs = [.ref a, .ref b] ∧ Tabs T H ∧ R H a k row es S D ∧ R H b k2 row2 es2 S2 D2 ∧ row.length < 2 ^ 200 ∧ row2.length < 2 ^ 200 ∧
  (((row.length = 0 ∨ row2.length = 0) ∧ ∀ H', Tabs T H' → ExtN H H' → E (.ref NR) none H') ∨
   (0 < row.length ∧ 0 < row2.length ∧ ∀ H' p lo hi, Tabs T H' → ExtN H H' → H' p = some (.tup [.int lo, .int hi]) → (∀ d, GreatD row row2 d → lo ≤ d ∧ d ≤ hi ∧ hi - lo ≤ ((offN row.length k : Nat) : Int) * (row2.length : Int) + ((offN row2.length k2 : Nat) : Int) * (row.length : Int)) → Q (.ref p) H'))
def lpGreatest : Sp := fun vs H Q _ => ∃ (d e : Addr) (r s : DRow) (row row2 : List Int), vs = [.ref d, .ref e] ∧ H d = some (.dK (dk r)) ∧ H e = some (.dK (dk s)) ∧ RowOf r row ∧ RowOf s row2 ∧ r.length ≤ 10000 ∧ s.length ≤ 10000 ∧ row.length < 2 ^ 200 ∧ row2.length < 2 ^ 200 ∧
  ∀ H' g, Same H H' → GreatD row row2 g → Q (.int g) H'
def lpRef13 (R : CupRel) (T : List (Addr × Str)) : Sp := fun vs H Q _ => ∃ (a b : Addr) (k k2 : Nat) (row row2 : List Int) (es es2 : List Ent) (S D S2 D2 : AS), vs = [.ref a, .ref b] ∧ Tabs T H ∧ R H a k row es S D ∧ R H b k2 row2 es2 S2 D2 ∧ row.length < 2 ^ 200 ∧ row2.length < 2 ^ 200 ∧ (row.length = 0 ∨ row2.length = 0) ∧
  ∀ H', Tabs T H' → ExtN H H' → Q (.bl true) H'
def lpRight13 (R : CupRel) (T : List (Addr × Str)) : Sp := fun vs H Q _ => ∃ (a b d e : Addr) (k k2 : Nat) (row row2 : List Int) (es es2 : List Ent) (S D S2 D2 : AS) (r s : DRow), vs = [.ref a, .ref d, .ref b, .ref e] ∧ Tabs T H ∧ R H a k row es S D ∧ R H b k2 row2 es2 S2 D2 ∧ row.length < 2 ^ 195 ∧ row2.length < 2 ^ 195 ∧
  H d = some (.dK (dk r)) ∧ H e = some (.dK (dk s)) ∧ RowOf r row ∧ RowOf s row2 ∧ r.length ≤ 10000 ∧ s.length ≤ 10000 ∧ ∀ H', Tabs T H' → ExtN H H' → Q (.bl true) H'
/-- a deed, to whichever cup -/
structure DeedOk4 (d : Deed) : Prop where
  ok : match d with
    | .add _ x n step t => n ≤ 14 ∧ InT t ∧ ∀ k : Nat, k < n → InR (x + (k : Int) * step)
    | .pour _ _ => True
theorem DeedOk.four {d : Deed} (h : DeedOk d) : DeedOk4 d := ⟨by
  have := h.ok
  cases d with
  | add c x n step t => exact this.2
  | pour c s => trivial⟩
def lpDone4 (R : CupRel) (T : List (Addr × Str)) : Sp := fun vs H Q _ => ∃ (l p : Addr) (as : List Addr) (ks : Nat → Nat) (rows : Nat → List Int) (es : Nat → List Ent) (S D : Nat → AS) (dd : Deed), vs = [.ref l, .ref p] ∧ Tabs T H ∧ H l = some (.lst (as.map V.ref)) ∧ H p = some (.tup (deedV dd)) ∧ DeedOk4 dd ∧
  CupsAt R H as ks rows es S D ∧ ¬ Un as.length S l ∧ ¬ Un as.length S p ∧ dd.cup < as.length ∧ (∀ c s, dd = .pour c s → s < as.length ∧ ks c = ks s) ∧ (∀ i, i < as.length → (rows i).length < 2 ^ 190) ∧
  ∀ H' es' S' D', Tabs T H' → CupsAt R H' as ks (comeRows rows dd) es' S' D' → Chg (Un as.length S) H H' → (∀ b, Un as.length S' b → Un as.length S b ∨ NewN H b) → (∀ b, Un as.length D' b → Un as.length D b ∨ NewN H b) → Q (.bl true) H'
def lpCome4 (K : PySem.W.Frag) : Sp := fun vs H Q _ => ∃ (a p d : Addr) (as : List Addr) (rs : List DRow) (dd : Deed), vs = [.ref a, .ref p] ∧ H a = some (.lst (as.map V.ref)) ∧ PySem.W.EachIs (fun x r => H x = some (.dK (dk r))) as rs ∧ H p = some (.tup (deedV dd)) ∧ DeedOk4 dd ∧
  as[dd.cup]? = some d ∧ (∀ s c, dd = .pour c s → s < as.length) ∧ (∀ r ∈ rs, r.length ≤ 10000) ∧ ∀ H', But d H H' → H' d = some (.dK (dk ((comeZ rs dd).getD dd.cup []))) → Q .non H'
/-- the kept entries of all cups, told -/
def keptD (n : Nat) (es : Nat → List Ent) : PyData := .list ((List.range n).map fun i => entsD (es i))
end Own
namespace Own
open PySem PySem.Spec PyProof.Rows L2 LamX
theorem part_bounds {es : List Ent} {row : List Int} {g w : Int} (p : PartOk es row g w) (x : Int) : 0 ≤ loC es (noLess es x) ∧ loC es (noLess es x) ≤ (row.length : Int) ∧ 0 ≤ upC es (row.length : Int) (noLess es x) ∧ upC es (row.length : Int) (noLess es x) ≤ (row.length : Int) := by
  obtain ⟨h1, h2, _⟩ := p.pair x
  have hc : clt row x ≤ (row.length : Int) := Int.ofNat_le.mpr (List.length_filter_le _ _)
  have hc0 := clt_nn row x
  have a : 0 ≤ loC es (noLess es x) := by
    generalize noLess es x = c
    cases c with
    | zero => exact Int.le_refl _
    | succ c =>
      show 0 ≤ (match es[c]? with | some e => e.2.1 + 1 | none => 0)
      cases hx : es[c]? with
      | none => exact Int.le_refl _
      | some e =>
        have := (p.low e (List.mem_of_getElem? hx)).1
        show 0 ≤ e.2.1 + 1
        omega
  have b : upC es (row.length : Int) (noLess es x) ≤ (row.length : Int) := by
    unfold upC
    split
    · rename_i e he
      have := (p.low e (List.mem_of_getElem? he)).2
      omega
    · exact Int.le_refl _
  exact ⟨a, by omega, by omega, b⟩
theorem mulW_200 {x y : Int} (h1 : 0 ≤ x) (h2 : x < 2 ^ 200) (h3 : 0 ≤ y) (h4 : y < 2 ^ 200) : CMulW x y := by
  have e : ((2 : Int) ^ 200) = ((2 ^ 200 : Nat) : Int) := by norm_cast
  rw [e] at h2 h4
  exact wide_mul (a := 200) (b := 200) (by omega) (by omega) (by decide) (by decide) (by decide)
end Own
namespace Own
open PySem PySem.Spec PyProof.Rows L2 LamX
theorem dk_keysV (r : DRow) : ((dk r).map fun kv => kV kv.1) = (r.map (·.1)).map V.int := by
  unfold dk
  rw [List.map_map, List.map_map]
  rfl
def valsZ (r : DRow) : List Int := (r.filter fun _ => true).map (·.2)
theorem valsZ_sum {r : DRow} {row : List Int} (ro : RowOf r row) : (valsZ r).sum = (row.length : Int) := by
  rw [← ro.total, wsum_filter (fun _ => true)]
  rfl
/-- sum([row[x] for x in row]) -/
theorem sum_row {d : Addr} {r : DRow} {row : List Int} {td : TE} {j : Nat} {te : TE} {vs : List Nat} {σ : L2.St} {H : Hp} {QQ : VK} {od : Obj} (ro : RowOf r row) (hl : r.length ≤ 10000) (hd : H d = some (.dK (dk r)))
    (hsrc : ∀ (H' : Hp) (R : VK), R (.ref d) H' → td σ H' R) (hw : ∀ x, wipe ((wipe σ vs).set j (some x)) vs = wipe σ vs)
    (he : ∀ (x : Int) (H : Hp) (R : VK), x ∈ r.map (·.1) → H d = some (.frz od (.dK (dk r))) → R (.int (getZ r x)) H → te ((wipe σ vs).set j (some (.int x))) H R)
    (q : ∀ L H5, H5 d = some (.frz od (.dK (dk r))) → Same H (upd H5 d (.dK (dk r))) → (upd H5 d (.dK (dk r))) L = some (.lst ((valsZ r).map V.int)) → QQ (.ref L) H5) : tLc (iKeys td) (gName j) tYes te vs σ (upd H d (.frz od (.dK (dk r)))) QQ := by
  refine lc_row (d := d) (od := od) (r := r) (f := fun _ => true) ro.nd hl upd_same (fun R h => hsrc _ _ h) hw (fun x H R h => h) (fun x H R hx hF h => he x H R hx hF h) fun L H5 s5 nL hL => ?_
  have ne : L ≠ d := fun y => by
    rw [y, upd_same] at nL
    cases nL
  have s6 : Same H (upd H5 d (.dK (dk r))) := fun b o e => by
    by_cases hb : b = d
    · subst hb
      rw [upd_same, ← hd]
      exact e
    · rw [upd_ne hb]
      exact s5 _ _ (by rw [upd_ne hb]; exact e)
  exact q L H5 (s5 _ _ upd_same) s6 (by rw [upd_ne ne]; exact hL)
end Own
namespace Own
open PySem PySem.Spec PyProof.Rows L2 LamX
theorem mulW_219 {x y : Int} (h1 : 0 ≤ x) (h2 : x < ((2 ^ 219 : Nat) : Int)) (h3 : 0 ≤ y) (h4 : y < ((2 ^ 219 : Nat) : Int)) : CMulW x y :=
  wide_mul (a := 219) (b := 219) (by omega) (by omega) (by decide) (by decide) (by decide)
theorem dk_empty {r : DRow} {row : List Int} (ro : RowOf r row) : (dk r).isEmpty = decide (row.length = 0) := by
  cases r with
  | nil =>
    have e : row = [] := by
      cases row with
      | nil => rfl
      | cons x l => exact absurd ((ro.mem x).mpr List.mem_cons_self) List.not_mem_nil
    rw [e]
    rfl
  | cons p r =>
    have := (ro.mem p.1).mp List.mem_cons_self
    have : row.length ≠ 0 := fun z => by
      rw [List.length_eq_zero_iff.mp z] at this
      exact absurd this List.not_mem_nil
    rw [decide_eq_false this]
    rfl
end Own
namespace Own
open PySem PySem.Spec PyProof.Rows L2 LamX
section
variable {R : CupRel} {C : Addr} {T : List (Addr × Str)} {n : Nat} {H H' : Hp} {as : List Addr} {l rl : Addr} {dd : List Addr} {ks : Nat → Nat} {rows rd : Nat → List Int} {es : Nat → List Ent} {S D : Nat → AS} {rs : List DRow} {m b : Nat}
theorem newOf_len4 {d : Deed} (dk : DeedOk4 d) : (newOf d).length ≤ 14 := by
  cases d with
  | pour c s => exact Nat.zero_le _
  | add c x n step t =>
    obtain ⟨h, _⟩ := dk.ok
    show ((List.range n).map _).length ≤ 14
    rw [List.length_map, List.length_range]
    exact h
theorem comeRows_len4 {d : Deed} (dk : DeedOk4 d) {b : Nat} (hb : 2 ^ 40 ≤ b) (hc : d.cup < n) (hs : ∀ c s, d = .pour c s → s < n) (h : ∀ j, j < n → (rows j).length ≤ b) : ∀ j, j < n → (comeRows rows d j).length ≤ 4 * b := by
  intro j hj
  have hj' := h j hj
  cases d with
  | pour c s =>
    have a1 := h c hc
    have a2 := h s (hs c s rfl)
    show (setAt rows c (rows c ++ rows s) j).length ≤ _
    unfold setAt
    split
    · rw [List.length_append]; omega
    · omega
  | add c x n step t =>
    obtain ⟨h2, h3, _⟩ := dk.ok
    have a1 := h c hc
    show (setAt rows c (comeRow (rows c) x n step t.toNat) j).length ≤ _
    unfold setAt
    split
    · rw [comeRow_length]
      have : n * t.toNat ≤ 14 * 1000000000 := Nat.mul_le_mul h2 (by omega)
      omega
    · omega
theorem comeRows_in4 {d : Deed} (dk : DeedOk4 d) (hc : d.cup < n) (hs : ∀ c s, d = .pour c s → s < n) (h : ∀ j, j < n → ∀ x ∈ rows j, InR x) : ∀ j, j < n → ∀ x ∈ comeRows rows d j, InR x := by
  intro j hj x hx
  cases d with
  | pour c s =>
    have hx : x ∈ setAt rows c (rows c ++ rows s) j := hx
    unfold setAt at hx
    split at hx
    · rcases List.mem_append.mp hx with z | z
      · exact h c hc x z
      · exact h s (hs c s rfl) x z
    · exact h j hj x hx
  | add c y m step t =>
    obtain ⟨h2, h3, h4⟩ := dk.ok
    have hx : x ∈ setAt rows c (comeRow (rows c) y m step t.toNat) j := hx
    unfold setAt at hx
    split at hx
    · unfold comeRow at hx
      rcases List.mem_append.mp hx with z | z
      · exact h c hc x z
      · obtain ⟨k, hk, z⟩ := List.mem_flatMap.mp z
        rw [List.eq_of_mem_replicate z]
        exact h4 k (List.mem_range.mp hk)
    · exact h j hj x hx
theorem come_rows4 {d : Deed} (dk : DeedOk4 d) {rs : List DRow} {rows : Nat → List Int} (hs : ∀ c s, d = .pour c s → s < rs.length) (h : ∀ j r, rs[j]? = some r → RowOf r (rows j)) : ∀ j r, (comeZ rs d)[j]? = some r → RowOf r (comeRows rows d j) := by
  intro j r hr
  cases d with
  | pour c s =>
    have hr : (rs.set c (pourZ (rs.getD c []) (rs.getD s [])))[j]? = some r := hr
    show RowOf r (setAt rows c (rows c ++ rows s) j)
    by_cases e : c = j
    · subst e
      have hl : c < rs.length := by
        have := (List.getElem?_eq_some_iff.mp hr).1
        rwa [List.length_set] at this
      rw [List.getElem?_set_self hl] at hr
      cases hr
      rw [setAt_same]
      have hc := List.getElem?_eq_getElem hl
      have hs2 := List.getElem?_eq_getElem (hs c s rfl)
      rw [List.getD_eq_getElem?_getD, List.getD_eq_getElem?_getD, hc, hs2]
      exact (h c _ hc).pour (h s _ hs2)
    · rw [List.getElem?_set_ne e] at hr
      rw [setAt_ne _ _ (Ne.symm e)]
      exact h j r hr
  | add c x n step t =>
    obtain ⟨_, ht, _⟩ := dk.ok
    obtain ⟨t', rfl⟩ : ∃ t' : Nat, t = (t' : Int) := ⟨t.toNat, by omega⟩
    have hr : (rs.set c (addZ (rs.getD c []) x n step (t' : Int)))[j]? = some r := hr
    show RowOf r (setAt rows c (comeRow (rows c) x n step ((t' : Int)).toNat) j)
    by_cases e : c = j
    · subst e
      have hl : c < rs.length := by
        have := (List.getElem?_eq_some_iff.mp hr).1
        rwa [List.length_set] at this
      rw [List.getElem?_set_self hl] at hr
      cases hr
      rw [setAt_same]
      have hc := List.getElem?_eq_getElem hl
      rw [List.getD_eq_getElem?_getD, hc]
      exact (h c _ hc).add x step (t := t') (by omega) n
    · rw [List.getElem?_set_ne e] at hr
      rw [setAt_ne _ _ (Ne.symm e)]
      exact h j r hr
theorem Game.done4 (g : Game R T n H as l rl dd ks rows rows es S D rs m b) {d : Deed} (dk : DeedOk4 d) (hc : d.cup < n) (hs : ∀ c s, d = .pour c s → s < n) (hb : 2 ^ 40 ≤ b) {es' : Nat → List Ent} {S' D' : Nat → AS} (t : Tabs T H') (c : CupsAt R H' as ks (comeRows rows d) es' S' D')
    (ch : Chg (Un n S) H H') (un : ∀ b, Un n S' b → Un n S b ∨ NewN H b) (ud : ∀ b, Un n D' b → Un n D b ∨ NewN H b) :
    Game R T n H' as l rl dd ks (comeRows rows d) rows es' S' D' rs (m + 14) (4 * b) ∧ ∀ b o, Mine n S D H b o → Mine n S' D' H' b o := by
  obtain ⟨U, h1, h2, _⟩ := g.few
  refine ⟨⟨t, g.len, c, g.ml.move ch un ud, g.mr.move ch un ud, g.md.mono fun _ _ z => z.move ch un ud, g.dn, g.nd, g.ro, comeRows_len4 dk hb hc hs g.big, U ++ newOf d, ?_, comeRows_sub hc hs h2, fun j hj x hx => List.mem_append_left _ (h2 j hj x hx)⟩, fun b o z => z.move ch un ud⟩
  rw [List.length_append]
  have := newOf_len4 dk
  omega
theorem Game.come4 (A : CupApi R C) {d : Deed} (g : Game R T n H as l rl dd ks (comeRows rows d) rows es S D rs m b) (dk : DeedOk4 d) (hc : d.cup < n) (hs : ∀ c s, d = .pour c s → s < n) {dc : Addr} (hd : dd[d.cup]? = some dc) (e : But dc H H') (h : H' dc = some (.dK (Own.dk ((comeZ rs d).getD d.cup [])))) :
    Game R T n H' as l rl dd ks (comeRows rows d) (comeRows rows d) es S D (comeZ rs d) m b ∧ ∀ x o, x ≠ dc → Mine n S D H x o → Mine n S D H' x o := by
  obtain ⟨r0, hr0, m0⟩ := eachIs_get g.md hd
  have noD : ∀ x, Un n D x → x ≠ dc := fun x hx z => m0.noD (by rw [← z]; exact hx)
  have rl0 := g.rlen
  have hcl : d.cup < (comeZ rs d).length := by rw [comeZ_len, rl0]; exact hc
  refine ⟨⟨tabs_but m0.at_ e g.tabs, g.len, g.cups.ext A fun x o ⟨i, hi, z⟩ hx => e x o (noD x ⟨i, by rw [g.len] at hi; exact hi, z⟩) hx, g.ml.but e (ne_of g.ml.at_ m0.at_ (fun z => nomatch z)), g.mr.but e (ne_of g.mr.at_ m0.at_ (fun z => nomatch z)), eachIs_of_get (by rw [g.dn, comeZ_len, rl0]) fun i x r hx hr => ?_, g.dn, g.nd,
    come_rows4 dk (fun c s z => by rw [rl0]; exact hs c s z) g.ro, g.big, ?_⟩, fun x o hx z => z.but e hx⟩
  · by_cases hi : i = d.cup
    · subst hi
      rw [hd] at hx
      cases hx
      rw [List.getD_eq_getElem?_getD, hr] at h
      exact ⟨h, (fun _ z => nomatch z), m0.noS, m0.noD⟩
    · rw [comeZ_ne hi] at hr
      exact (eachIs_at g.md hx hr).but e (nodup_ne g.nd hx hd hi)
  · obtain ⟨U, h1, h2, _⟩ := g.few
    exact ⟨U, h1, h2, h2⟩
/-- a list of the law's changes -/
theorem Kit.putL (A : CupApi R C) {os : List (Addr × HO)} (g : Kit R T H as ks rows es S D os) {j : Nat} {p : Addr} {xs : List V} (ys : List V) (hj : os[j]? = some (p, .lst xs)) : Kit R T (upd H p (.lst ys)) as ks rows es S D (os.set j (p, .lst ys)) := by
  have m0 := g.get j hj
  have jl := (List.getElem?_eq_some_iff.mp hj).1
  refine ⟨tabs_lst m0.at_ g.tabs, g.cups.mine A fun i hi z => m0.noD ⟨i, hi, z⟩, fun q hq => ?_, ?_⟩
  · obtain ⟨i, hi, rfl⟩ := List.getElem_of_mem hq
    rw [List.length_set] at hi
    by_cases e : j = i
    · subst e
      rw [List.getElem_set_self]
      exact m0.put (fun _ z => nomatch z)
    · rw [List.getElem_set_ne e]
      refine (g.own _ (List.getElem_mem hi)).off fun z => ?_
      have n1 : (os.map (·.1))[i]? = some os[i].1 := by rw [List.getElem?_map, List.getElem?_eq_getElem hi]; rfl
      have n2 : (os.map (·.1))[j]? = some p := by rw [List.getElem?_map, hj]; rfl
      exact nodup_ne g.nd n1 n2 (Ne.symm e) z
  · have : (os.set j (p, HO.lst ys)).map (·.1) = os.map (·.1) := by
      rw [List.map_set]
      apply List.ext_getElem?
      intro i
      by_cases q : j = i
      · subst q
        rw [List.getElem?_set_self (by rw [List.length_map]; exact jl), List.getElem?_map, hj]
        rfl
      · rw [List.getElem?_set_ne q]
    rw [this]
    exact g.nd
abbrev os6 (l rl y1 y2 y3 y4 d1 d2 d3 d4 : Addr) (r1 r2 r3 r4 : DRow) : List (Addr × HO) := [(l, .lst [.ref y1, .ref y2, .ref y3, .ref y4]), (rl, .lst [.ref d1, .ref d2, .ref d3, .ref d4]), (d1, .dK (dk r1)), (d2, .dK (dk r2)), (d3, .dK (dk r3)), (d4, .dK (dk r4))]
theorem Kit.game4 {y1 y2 y3 y4 d1 d2 d3 d4 : Addr} {r1 r2 r3 r4 : DRow} (g : Kit R T H [y1, y2, y3, y4] ks rows es S D (os6 l rl y1 y2 y3 y4 d1 d2 d3 d4 r1 r2 r3 r4)) (ro1 : RowOf r1 (rows 0)) (ro2 : RowOf r2 (rows 1)) (ro3 : RowOf r3 (rows 2)) (ro4 : RowOf r4 (rows 3))
    (big : ∀ j, j < 4 → (rows j).length ≤ b) (few : ∃ U : List Int, U.length ≤ m ∧ ∀ j, j < 4 → ∀ x ∈ rows j, x ∈ U) : Game R T 4 H [y1, y2, y3, y4] l rl [d1, d2, d3, d4] ks rows rows es S D [r1, r2, r3, r4] m b := by
  obtain ⟨U, h1, h2⟩ := few
  refine ⟨g.tabs, rfl, g.cups, g.get 0 rfl, g.get 1 rfl, .cons (g.get 2 rfl) (.cons (g.get 3 rfl) (.cons (g.get 4 rfl) (.cons (g.get 5 rfl) .nil))), rfl, ?_, fun j r hj => ?_, big, U, h1, h2, h2⟩
  · have nd := g.nd
    simp only [List.map_cons, List.map_nil] at nd
    exact ((List.nodup_cons.mp nd).2 |> List.nodup_cons.mp).2
  · rcases j with _ | _ | _ | _ | j
    · cases hj; exact ro1
    · cases hj; exact ro2
    · cases hj; exact ro3
    · cases hj; exact ro4
    · simp at hj
end
end Own
namespace Own
open PySem PySem.Spec PyProof.Rows L2 LamX
theorem bnd_small2 {n k : Nat} (hk : 1 ≤ k) (h64 : k ≤ 64) (h : n < 2 ^ 200) : bndN n k ≤ 13000 := by
  rw [bndN_ones]
  have h1 := ones_len 200 (n / k) 0 (div_small h)
  have h2 := Nat.mod_lt n (show k > 0 by omega)
  have h3 := Nat.mul_le_mul h64 h1
  omega
theorem shw_kept {R : CupRel} {C : Addr} (A : CupApi R C) (L : CupLow R) {H : Hp} {as : List Addr} {ks : Nat → Nat} {rows : Nat → List Int} {es : Nat → List Ent} {S D : Nat → AS} (c : CupsAt R H as ks rows es S D) (h4 : as.length ≤ 4) (hr : ∀ i, i < as.length → ∀ x ∈ rows i, InR x) (hn : ∀ i, i < as.length → (rows i).length < 2 ^ 200) : Shw (keptD as.length es) 3 12000000 := by
  have key : ∀ d ∈ (List.range as.length).map fun i => entsD (es i), Shw d 2 2760000 := by
    intro d hd
    obtain ⟨i, hi, rfl⟩ := List.mem_map.mp hd
    have hi := List.mem_range.mp hi
    have r := c.at_ i _ (List.getElem?_eq_getElem hi)
    obtain ⟨k1, k2⟩ := A.keep r
    have fw : (es i).length ≤ 13000 := Nat.le_trans (A.kept r).few (bnd_small2 k1 k2 (hn i hi))
    exact (shw_ents (hr i hi) (hn i hi) (A.kept r).tru (L.low r)).mono (Nat.le_refl _) (by omega)
  have w := shw_list key
  rw [List.length_map, List.length_range] at w
  exact w.mono (Nat.le_refl _) (by omega)
end Own

namespace K13
open PySem PySem.Spec PyProof.Rows L2 Own LamX
/-! the text by places -/
def topS (i : Nat) : Stmt := PySem.Challenge.pw_rankbounds_k13_whole_apart.main.body.getD i (.Pass ⟨0, 0, 0, 0⟩)
abbrev s_exact : Stmt := topS 2
abbrev N_exact : List Str := ["row", "place", "reading"]
theorem sc_exact : FnScope N_exact ["row"] (defScope s_exact) := ⟨rfl, rfl, rfl, by decide +kernel, rfl, by decide +kernel, by decide +kernel⟩
abbrev s_joined : Stmt := topS 3
abbrev N_joined : List Str := ["ones", "many", "others", "more", "both"]
theorem sc_joined : FnScope N_joined ["ones", "many", "others", "more"] (defScope s_joined) := ⟨rfl, rfl, rfl, by decide +kernel, rfl, by decide +kernel, by decide +kernel⟩
abbrev s_halved : Stmt := topS 4
abbrev N_halved : List Str := ["entries"]
theorem sc_halved : FnScope N_halved ["entries"] (defScope s_halved) := ⟨rfl, rfl, rfl, by decide +kernel, rfl, by decide +kernel, by decide +kernel⟩
abbrev s_ahead_of : Stmt := topS 5
abbrev N_ahead_of : List Str := ["entries", "many", "reading"]
theorem sc_ahead_of : FnScope N_ahead_of ["entries", "many", "reading"] (defScope s_ahead_of) := ⟨rfl, rfl, rfl, by decide +kernel, rfl, by decide +kernel, by decide +kernel⟩
abbrev s__lifted : Stmt := topS 6
abbrev N__lifted : List Str := ["entries", "others", "more", "reading", "least", "most"]
theorem sc__lifted : FnScope N__lifted ["entries", "others", "more"] (defScope s__lifted) := ⟨rfl, rfl, rfl, by decide +kernel, rfl, by decide +kernel, by decide +kernel⟩
abbrev s__least_less : Stmt := topS 7
abbrev N__least_less : List Str := ["entries", "reading", "place"]
theorem sc__least_less : FnScope N__least_less ["entries", "reading"] (defScope s__least_less) := ⟨rfl, rfl, rfl, by decide +kernel, rfl, by decide +kernel, by decide +kernel⟩
abbrev s__most_less : Stmt := topS 8
abbrev N__most_less : List Str := ["entries", "many", "reading", "place"]
theorem sc__most_less : FnScope N__most_less ["entries", "many", "reading"] (defScope s__most_less) := ⟨rfl, rfl, rfl, by decide +kernel, rfl, by decide +kernel, by decide +kernel⟩
abbrev s__first_no_less : Stmt := topS 9
abbrev N__first_no_less : List Str := ["entries", "reading", "low", "high", "middle"]
theorem sc__first_no_less : FnScope N__first_no_less ["entries", "reading"] (defScope s__first_no_less) := ⟨rfl, rfl, rfl, by decide +kernel, rfl, by decide +kernel, by decide +kernel⟩
abbrev s_is_whole : Stmt := topS 21
abbrev N_is_whole : List Str := ["value", "least", "most"]
theorem sc_is_whole : FnScope N_is_whole ["value", "least", "most"] (defScope s_is_whole) := ⟨rfl, rfl, rfl, by decide +kernel, rfl, by decide +kernel, by decide +kernel⟩
abbrev s_check_reading : Stmt := topS 22
abbrev N_check_reading : List Str := ["value"]
theorem sc_check_reading : FnScope N_check_reading ["value"] (defScope s_check_reading) := ⟨rfl, rfl, rfl, by decide +kernel, rfl, by decide +kernel, by decide +kernel⟩
abbrev s_Cup___init__ : Stmt := inClass (topS 26) 0
abbrev N_Cup___init__ : List Str := ["self", "keep"]
theorem sc_Cup___init__ : FnScope N_Cup___init__ ["self", "keep"] (defScope s_Cup___init__) := ⟨rfl, rfl, rfl, by decide +kernel, rfl, by decide +kernel, by decide +kernel⟩
abbrev s_Cup_add : Stmt := inClass (topS 26) 1
abbrev N_Cup_add : List Str := ["self", "reading", "times", "_", "place"]
theorem sc_Cup_add : FnScope N_Cup_add ["self", "reading", "times"] (defScope s_Cup_add) := ⟨rfl, rfl, rfl, by decide +kernel, rfl, by decide +kernel, by decide +kernel⟩
abbrev s_Cup_pour : Stmt := inClass (topS 26) 2
abbrev N_Cup_pour : List Str := ["self", "other", "loose", "blocks", "count", "reading", "place", "block"]
theorem sc_Cup_pour : FnScope N_Cup_pour ["self", "other"] (defScope s_Cup_pour) := ⟨rfl, rfl, rfl, by decide +kernel, rfl, by decide +kernel, by decide +kernel⟩
abbrev s_Cup_count : Stmt := inClass (topS 26) 3
abbrev N_Cup_count : List Str := ["self"]
theorem sc_Cup_count : FnScope N_Cup_count ["self"] (defScope s_Cup_count) := ⟨rfl, rfl, rfl, by decide +kernel, rfl, by decide +kernel, by decide +kernel⟩
abbrev s_Cup_kept : Stmt := inClass (topS 26) 6
abbrev N_Cup_kept : List Str := ["self", "entries", "many", "part", "more"]
theorem sc_Cup_kept : FnScope N_Cup_kept ["self"] (defScope s_Cup_kept) := ⟨rfl, rfl, rfl, by decide +kernel, rfl, by decide +kernel, by decide +kernel⟩
abbrev s_Cup__parts : Stmt := inClass (topS 26) 9
abbrev N_Cup__parts : List Str := ["self", "parts", "place"]
theorem sc_Cup__parts : FnScope N_Cup__parts ["self"] (defScope s_Cup__parts) := ⟨rfl, rfl, rfl, by decide +kernel, rfl, by decide +kernel, by decide +kernel⟩
abbrev s_Cup__add_loose : Stmt := inClass (topS 26) 10
abbrev N_Cup__add_loose : List Str := ["self", "reading", "block"]
theorem sc_Cup__add_loose : FnScope N_Cup__add_loose ["self", "reading"] (defScope s_Cup__add_loose) := ⟨rfl, rfl, rfl, by decide +kernel, rfl, by decide +kernel, by decide +kernel⟩
abbrev s_Cup__add_block : Stmt := inClass (topS 26) 11
abbrev N_Cup__add_block : List Str := ["self", "place", "block", "many"]
theorem sc_Cup__add_block : FnScope N_Cup__add_block ["self", "place", "block"] (defScope s_Cup__add_block) := ⟨rfl, rfl, rfl, by decide +kernel, rfl, by decide +kernel, by decide +kernel⟩
abbrev s_Cup__like_block : Stmt := inClass (topS 26) 12
abbrev N_Cup__like_block : List Str := ["self", "place", "reading"]
theorem sc_Cup__like_block : FnScope N_Cup__like_block ["self", "place", "reading"] (defScope s_Cup__like_block) := ⟨rfl, rfl, rfl, by decide +kernel, rfl, by decide +kernel, by decide +kernel⟩
abbrev s__ones : Stmt := topS 27
abbrev N__ones : List Str := ["number", "place"]
theorem sc__ones : FnScope N__ones ["number"] (defScope s__ones) := ⟨rfl, rfl, rfl, by decide +kernel, rfl, by decide +kernel, by decide +kernel⟩
abbrev s_apart : Stmt := topS 29
abbrev N_apart : List Str := ["one", "other", "many", "more", "ones", "others", "least", "most", "number", "low", "high", "other_low", "other_high"]
theorem sc_apart : FnScope N_apart ["one", "other"] (defScope s_apart) := ⟨rfl, rfl, rfl, by decide +kernel, rfl, by decide +kernel, by decide +kernel⟩
abbrev s__steps : Stmt := topS 30
abbrev N__steps : List Str := ["entries", "readings", "entry"]
theorem sc__steps : FnScope N__steps ["entries"] (defScope s__steps) := ⟨rfl, rfl, rfl, by decide +kernel, rfl, by decide +kernel, by decide +kernel⟩
abbrev s__law_cell : Stmt := topS 32
abbrev N__law_cell : List Str := ["_law_script", "_law_k"]
theorem sc__law_cell : FnScope N__law_cell ["_law_script", "_law_k"] (defScope s__law_cell) := ⟨rfl, rfl, rfl, by decide +kernel, rfl, by decide +kernel, by decide +kernel⟩
abbrev s__law_mixed : Stmt := topS 33
abbrev N__law_mixed : List Str := ["_law_cell_here", "_law_k", "_law_number"]
theorem sc__law_mixed : FnScope N__law_mixed ["_law_cell_here", "_law_k"] (defScope s__law_mixed) := ⟨rfl, rfl, rfl, by decide +kernel, rfl, by decide +kernel, by decide +kernel⟩
abbrev s__law_reading : Stmt := topS 34
abbrev N__law_reading : List Str := ["_law_cell_here", "_law_number"]
theorem sc__law_reading : FnScope N__law_reading ["_law_cell_here"] (defScope s__law_reading) := ⟨rfl, rfl, rfl, by decide +kernel, rfl, by decide +kernel, by decide +kernel⟩
abbrev s__law_times : Stmt := topS 35
abbrev N__law_times : List Str := ["_law_cell_here", "_law_great", "_law_number"]
theorem sc__law_times : FnScope N__law_times ["_law_cell_here", "_law_great"] (defScope s__law_times) := ⟨rfl, rfl, rfl, by decide +kernel, rfl, by decide +kernel, by decide +kernel⟩
abbrev s__law_keep : Stmt := topS 36
abbrev N__law_keep : List Str := ["_law_cell_here"]
theorem sc__law_keep : FnScope N__law_keep ["_law_cell_here"] (defScope s__law_keep) := ⟨rfl, rfl, rfl, by decide +kernel, rfl, by decide +kernel, by decide +kernel⟩
abbrev s__law_deeds : Stmt := topS 37
abbrev N__law_deeds : List Str := ["_law_cells", "_law_great", "_law_deeds_here", "_law_k", "_law_cell_here", "_law_number", "_law_cup"]
theorem sc__law_deeds : FnScope N__law_deeds ["_law_cells", "_law_great"] (defScope s__law_deeds) := ⟨rfl, rfl, rfl, by decide +kernel, rfl, by decide +kernel, by decide +kernel⟩
abbrev s__law_come : Stmt := topS 38
abbrev N__law_come : List Str := ["_law_rows", "_law_deed", "_law_row", "_law_reading_here", "_law_times_here", "_law_k"]
theorem sc__law_come : FnScope N__law_come ["_law_rows", "_law_deed"] (defScope s__law_come) := ⟨rfl, rfl, rfl, by decide +kernel, rfl, by decide +kernel, by decide +kernel⟩
abbrev s__law_done : Stmt := topS 39
abbrev N__law_done : List Str := ["_law_cups", "_law_deed", "_law_k"]
theorem sc__law_done : FnScope N__law_done ["_law_cups", "_law_deed"] (defScope s__law_done) := ⟨rfl, rfl, rfl, by decide +kernel, rfl, by decide +kernel, by decide +kernel⟩
abbrev s__law_less : Stmt := topS 40
abbrev N__law_less : List Str := ["_law_row", "_law_reading_here", "_law_one"]
theorem sc__law_less : FnScope N__law_less ["_law_row", "_law_reading_here"] (defScope s__law_less) := ⟨rfl, rfl, rfl, by decide +kernel, rfl, by decide +kernel, by decide +kernel⟩
abbrev s__law_off : Stmt := topS 41
abbrev N__law_off : List Str := ["_law_count", "_law_keep_here", "_law_found", "_law_left", "_law_half", "_law_place"]
theorem sc__law_off : FnScope N__law_off ["_law_count", "_law_keep_here"] (defScope s__law_off) := ⟨rfl, rfl, rfl, by decide +kernel, rfl, by decide +kernel, by decide +kernel⟩
abbrev s__law_pair_right : Stmt := topS 43
abbrev N__law_pair_right : List Str := ["_law_found", "_law_due", "_law_most", "_law_number"]
theorem sc__law_pair_right : FnScope N__law_pair_right ["_law_found", "_law_due", "_law_most"] (defScope s__law_pair_right) := ⟨rfl, rfl, rfl, by decide +kernel, rfl, by decide +kernel, by decide +kernel⟩
abbrev s__law_played : Stmt := topS 44
abbrev N__law_played : List Str := ["_law_script", "_law_first", "_law_most", "_law_great", "_law_cell_here", "_law_keep_here"]
theorem sc__law_played : FnScope N__law_played ["_law_script", "_law_first", "_law_most", "_law_great"] (defScope s__law_played) := ⟨rfl, rfl, rfl, by decide +kernel, rfl, by decide +kernel, by decide +kernel⟩
abbrev s__law_three : Stmt := topS 45
abbrev N__law_three : List Str := ["_law_script", "_law_first", "_law_most", "_law_great", "_law_keep_here", "_law_deeds_here", "_law_cups", "_law_rows", "_law_deed"]
theorem sc__law_three : FnScope N__law_three ["_law_script", "_law_first", "_law_most", "_law_great"] (defScope s__law_three) := ⟨rfl, rfl, rfl, by decide +kernel, rfl, by decide +kernel, by decide +kernel⟩
abbrev s__law_alone : Stmt := topS 46
abbrev N__law_alone : List Str := ["_law_e", "_law_some", "_law_one"]
theorem sc__law_alone : FnScope N__law_alone ["_law_e"] (defScope s__law_alone) := ⟨rfl, rfl, rfl, by decide +kernel, rfl, by decide +kernel, by decide +kernel⟩
abbrev s__law_greatest : Stmt := topS 47
abbrev N__law_greatest : List Str := ["_law_row", "_law_other", "_law_most", "_law_many", "_law_more", "_law_reading_here", "_law_mark", "_law_one"]
theorem sc__law_greatest : FnScope N__law_greatest ["_law_row", "_law_other"] (defScope s__law_greatest) := ⟨rfl, rfl, rfl, by decide +kernel, rfl, by decide +kernel, by decide +kernel⟩
abbrev s__law_refused : Stmt := topS 48
abbrev N__law_refused : List Str := ["_law_one", "_law_other", "_law_e"]
theorem sc__law_refused : FnScope N__law_refused ["_law_one", "_law_other"] (defScope s__law_refused) := ⟨rfl, rfl, rfl, by decide +kernel, rfl, by decide +kernel, by decide +kernel⟩
abbrev s__law_right : Stmt := topS 49
abbrev N__law_right : List Str := ["_law_one", "_law_row", "_law_other", "_law_more", "_law_many", "_law_wide", "_law_due", "_law_reading_here"]
theorem sc__law_right : FnScope N__law_right ["_law_one", "_law_row", "_law_other", "_law_more"] (defScope s__law_right) := ⟨rfl, rfl, rfl, by decide +kernel, rfl, by decide +kernel, by decide +kernel⟩
abbrev s_law : Stmt := topS 50
abbrev N_law : List Str := ["_law_script", "_law_cups", "_law_rows", "_law_keep_here", "_law_k", "_law_cell_here", "_law_told", "_law_one", "_law_other", "_law_cup"]
theorem sc_law : FnScope N_law ["_law_script"] (defScope s_law) := ⟨rfl, rfl, rfl, by decide +kernel, rfl, by decide +kernel, by decide +kernel⟩
structure Bi (mg : Str → Option Value) : Prop where
  z_ValueError : mg "ValueError" = none
  z_abs : mg "abs" = none
  z_bool : mg "bool" = none
  z_enumerate : mg "enumerate" = none
  z_int : mg "int" = none
  z_isinstance : mg "isinstance" = none
  z_len : mg "len" = none
  z_list : mg "list" = none
  z_max : mg "max" = none
  z_range : mg "range" = none
  z_repr : mg "repr" = none
  z_sorted : mg "sorted" = none
  z_sum : mg "sum" = none
  z_tuple : mg "tuple" = none
  g_GREATEST_KEEP : ∃ t, mg "GREATEST_KEEP" = some (.int 64 t)
  g_GREATEST_READING : ∃ t, mg "GREATEST_READING" = some (.int 1000000000000000000 t)
  g_GREATEST_TIMES : ∃ t, mg "GREATEST_TIMES" = some (.int 1000000000 t)
section
variable {P : Program} {w : World} {K : PySem.W.Frag} {mg : Str → Option Value} {base : Heap} {R : CupRel} {T : List (Addr × Str)} {C_Cup C_BadKeep C_BadReading C_BadTimes C_UnlikeCups C_NoPlace C_NoReadings C_NoCups C_RankError : Addr}
/-- exact -/
noncomputable def rd_exact {f : Addr} {cdv : Value} {A : Around} {outer : List Env} {s : Shared} {H : Hp} {E : XK} (B : Bi mg) (hr : Room 0 (A.deeper (envOfC "exact" (defScope s_exact) s.heap.objs.size f cdv))) : { t : TS // PSs (cxOf CX0 P w K mg base N_exact "exact" (defScope s_exact) f cdv A outer s H E).nox (defBody s_exact) t } := ⟨_, (pss_one (ps_ret (pe_lc (own := [("place", 1), ("reading", 2)]) rfl sc_exact.nd (pi_enum (by rfl) B.z_enumerate (pa_cons (pe_callB (cr_sortedK (K := K)) (by rfl) B.z_sorted (by decide +kernel) (pa_cons (pv 0) pa_nil)) pa_nil)) (blkOk_by (own := [("place", 1), ("reading", 2)]) (N := N_exact) (sc := defScope s_exact) (by decide +kernel)) (fun _ _ _ _ _ => (pg_tupK (K := K) (n := 2) rfl (pgs_cons (pg_name (i := 1) sc_exact.nd rfl (by first | exact Or.inl rfl | exact Or.inr rfl)) (pgs_cons (pg_name (i := 2) sc_exact.nd rfl (by first | exact Or.inl rfl | exact Or.inr rfl)) pgs_nil)))) (fun _ _ _ _ _ => pts_nil) (fun _ _ _ _ _ => (pe_tup (pa_cons (pv 2) (pa_cons (pv 1) (pa_cons (pv 1) pa_nil))))))))⟩
/-- joined -/
noncomputable def rd_joined {f : Addr} {c Pt : Addr} {A : Around} {outer : List Env} {s : Shared} {H : Hp} {E : XK} (TB : TabB base mg c Pt) (hmT : (Pt, lamQ "joined") ∈ T) (hu : ∀ p ∈ T, p.1 = Pt → p.2 = lamQ "joined") (B : Bi mg) (hr : Room 4 (A.deeper (envOfC "joined" (defScope s_joined) s.heap.objs.size f (.ref c)))) (c__lifted : CalK P w K mg base 3 "_lifted" cpLifted) : { t : TS // PSs (cxOf CX0 P w K mg base N_joined "joined" (defScope s_joined) f (.ref c) A outer s H E).nox (defBody s_joined) t } := ⟨_, (pss_cons (ps_set (i := 4) sc_joined.nd rfl (by first | exact Or.inl rfl | exact Or.inr rfl) (pe_op op_cat (pe_k c__lifted hr (by decide) (by rfl) (pa_cons (pv 0) (pa_cons (pv 2) (pa_cons (pv 3) pa_nil)))) (pe_k c__lifted hr (by decide) (by rfl) (pa_cons (pv 2) (pa_cons (pv 0) (pa_cons (pv 1) pa_nil))))))
      (pss_one (ps_ret (pe_sortFst (K := K) (T := T) TB rfl hmT hu hr (by decide) (by rfl) B.z_sorted (pv 4) ⟨rfl, rfl, rfl, rfl, by decide⟩ rfl (fun _ _ _ _ _ => rfl)))))⟩
/-- halved -/
noncomputable def rd_halved {f : Addr} {cdv : Value} {A : Around} {outer : List Env} {s : Shared} {H : Hp} {E : XK} (B : Bi mg) (hr : Room 0 (A.deeper (envOfC "halved" (defScope s_halved) s.heap.objs.size f cdv))) : { t : TS // PSs (cxOf CX0 P w K mg base N_halved "halved" (defScope s_halved) f cdv A outer s H E).nox (defBody s_halved) t } := ⟨_, (pss_one (ps_ret (pe_step2 (pv 0))))⟩
/-- ahead_of -/
noncomputable def rd_ahead_of {f : Addr} {cdv : Value} {A : Around} {outer : List Env} {s : Shared} {H : Hp} {E : XK} (B : Bi mg) (hr : Room 2 (A.deeper (envOfC "ahead_of" (defScope s_ahead_of) s.heap.objs.size f cdv))) (c__most_less : CalK P w K mg base 2 "_most_less" cpMostLess) (c__least_less : CalK P w K mg base 2 "_least_less" cpLeastLess) : { t : TS // PSs (cxOf CX0 P w K mg base N_ahead_of "ahead_of" (defScope s_ahead_of) f cdv A outer s H E).nox (defBody s_ahead_of) t } := ⟨_, (pss_one (ps_ret (pe_tup (pa_cons (pe_k c__least_less hr (by decide) (by rfl) (pa_cons (pv 0) (pa_cons (pv 2) pa_nil))) (pa_cons (pe_k c__most_less hr (by decide) (by rfl) (pa_cons (pv 0) (pa_cons (pv 1) (pa_cons (pv 2) pa_nil)))) pa_nil)))))⟩
/-- _lifted -/
noncomputable def rd__lifted {f : Addr} {cdv : Value} {A : Around} {outer : List Env} {s : Shared} {H : Hp} {E : XK} (B : Bi mg) (hr : Room 2 (A.deeper (envOfC "_lifted" (defScope s__lifted) s.heap.objs.size f cdv))) (c__most_less : CalK P w K mg base 2 "_most_less" cpMostLess) (c__least_less : CalK P w K mg base 2 "_least_less" cpLeastLess) : { t : TS // PSs (cxOf CX0 P w K mg base N__lifted "_lifted" (defScope s__lifted) f cdv A outer s H E).nox (defBody s__lifted) t } := ⟨_, (pss_one (ps_ret (pe_lc (own := [("reading", 3), ("least", 4), ("most", 5)]) rfl sc__lifted.nd (pi_listK (K := K) (pv 0)) (blkOk_by (own := [("reading", 3), ("least", 4), ("most", 5)]) (N := N__lifted) (sc := defScope s__lifted) (by decide +kernel)) (fun _ _ _ _ _ => (pg_tupK (K := K) (n := 3) rfl (pgs_cons (pg_name (i := 3) sc__lifted.nd rfl (by first | exact Or.inl rfl | exact Or.inr rfl)) (pgs_cons (pg_name (i := 4) sc__lifted.nd rfl (by first | exact Or.inl rfl | exact Or.inr rfl)) (pgs_cons (pg_name (i := 5) sc__lifted.nd rfl (by first | exact Or.inl rfl | exact Or.inr rfl)) pgs_nil))))) (fun _ _ _ _ _ => pts_nil) (fun _ _ _ _ _ => (pe_tup (pa_cons (pv 3) (pa_cons (pe_op op_add (pv 4) (pe_k c__least_less hr (by decide) (by rfl) (pa_cons (pv 1) (pa_cons (pe_op op_add (pv 3) pe_int) pa_nil)))) (pa_cons (pe_op op_add (pv 5) (pe_k c__most_less hr (by decide) (by rfl) (pa_cons (pv 1) (pa_cons (pv 2) (pa_cons (pv 3) pa_nil))))) pa_nil))))))))⟩
/-- _least_less -/
noncomputable def rd__least_less {f : Addr} {cdv : Value} {A : Around} {outer : List Env} {s : Shared} {H : Hp} {E : XK} (B : Bi mg) (hr : Room 1 (A.deeper (envOfC "_least_less" (defScope s__least_less) s.heap.objs.size f cdv))) (c__first_no_less : CalK P w K mg base 1 "_first_no_less" cpNoLess) : { t : TS // PSs (cxOf CX0 P w K mg base N__least_less "_least_less" (defScope s__least_less) f cdv A outer s H E).nox (defBody s__least_less) t } := ⟨_, (pss_cons (ps_set (i := 2) sc__least_less.nd rfl (by first | exact Or.inl rfl | exact Or.inr rfl) (pe_k c__first_no_less hr (by decide) (by rfl) (pa_cons (pv 0) (pa_cons (pv 1) pa_nil))))
      (pss_cons (ps_if (pt_cmpR op_eq (pv 2) pe_int (nomark _)) (pss_one (ps_ret pe_int)) pss_nil)
      (pss_one (ps_ret (pe_op op_add (pe_ix (ix_tupK (K := K)) (pe_ix (ix_listK (K := K)) (pv 0) (pe_op op_sub (pv 2) pe_int) (fun _ _ => rfl)) pe_int (fun _ _ => rfl)) pe_int)))))⟩
/-- _most_less -/
noncomputable def rd__most_less {f : Addr} {cdv : Value} {A : Around} {outer : List Env} {s : Shared} {H : Hp} {E : XK} (B : Bi mg) (hr : Room 1 (A.deeper (envOfC "_most_less" (defScope s__most_less) s.heap.objs.size f cdv))) (c__first_no_less : CalK P w K mg base 1 "_first_no_less" cpNoLess) : { t : TS // PSs (cxOf CX0 P w K mg base N__most_less "_most_less" (defScope s__most_less) f cdv A outer s H E).nox (defBody s__most_less) t } := ⟨_, (pss_cons (ps_set (i := 3) sc__most_less.nd rfl (by first | exact Or.inl rfl | exact Or.inr rfl) (pe_k c__first_no_less hr (by decide) (by rfl) (pa_cons (pv 0) (pa_cons (pv 2) pa_nil))))
      (pss_cons (ps_if (pt_cmpR op_eq (pv 3) (pe_callB (call_lenK (K := K)) (by rfl) B.z_len (by decide +kernel) (pa_cons (pv 0) pa_nil)) (nomark _)) (pss_one (ps_ret (pv 1))) pss_nil)
      (pss_one (ps_ret (pe_ix (ix_tupK (K := K)) (pe_ix (ix_listK (K := K)) (pv 0) (pv 3) (fun _ _ => rfl)) pe_int (fun _ _ => rfl))))))⟩
/-- _first_no_less -/
noncomputable def rd__first_no_less {f : Addr} {cdv : Value} {A : Around} {outer : List Env} {s : Shared} {H : Hp} {E : XK} (B : Bi mg) (hr : Room 0 (A.deeper (envOfC "_first_no_less" (defScope s__first_no_less) s.heap.objs.size f cdv))) : { t : TS // PSs (cxOf CX0 P w K mg base N__first_no_less "_first_no_less" (defScope s__first_no_less) f cdv A outer s H E).nox (defBody s__first_no_less) t } := ⟨_, (pss_cons (ps_set (i := 2) sc__first_no_less.nd rfl (by first | exact Or.inl rfl | exact Or.inr rfl) pe_int)
      (pss_cons (ps_set (i := 3) sc__first_no_less.nd rfl (by first | exact Or.inl rfl | exact Or.inr rfl) (pe_callB (call_lenK (K := K)) (by rfl) B.z_len (by decide +kernel) (pa_cons (pv 0) pa_nil)))
      (pss_cons (ps_while PassesOwn.never (pt_cmpR op_lt (pv 2) (pv 3) (nomark _)) (pss_cons (ps_set (i := 4) sc__first_no_less.nd rfl (by first | exact Or.inl rfl | exact Or.inr rfl) (pe_op op_fdiv (pe_op op_add (pv 2) (pv 3)) pe_int))
      (pss_one (ps_if (pt_cmpR op_lt (pe_ix (ix_tupK (K := K)) (pe_ix (ix_listK (K := K)) (pv 0) (pv 4) (fun _ _ => rfl)) pe_int (fun _ _ => rfl)) (pv 1) (nomark _)) (pss_one (ps_set (i := 2) sc__first_no_less.nd rfl (by first | exact Or.inl rfl | exact Or.inr rfl) (pe_op op_add (pv 4) pe_int))) (pss_one (ps_set (i := 3) sc__first_no_less.nd rfl (by first | exact Or.inl rfl | exact Or.inr rfl) (pv 4)))))))
      (pss_one (ps_ret (pv 2))))))⟩
/-- is_whole -/
noncomputable def rd_is_whole {f : Addr} {cdv : Value} {A : Around} {outer : List Env} {s : Shared} {H : Hp} {E : XK} (B : Bi mg) (hr : Room 0 (A.deeper (envOfC "is_whole" (defScope s_is_whole) s.heap.objs.size f cdv))) : { t : TS // PSs (cxOf CX0 P w K mg base N_is_whole "is_whole" (defScope s_is_whole) f cdv A outer s H E).nox (defBody s_is_whole) t } := ⟨_, (pss_one (ps_ret (pe_and (pe_callB (call_isiK1 (K := K)) (by rfl) B.z_isinstance (by decide +kernel) (pa_cons (pv 0) (pa_cons (pe_bltn (v := .ty "int") (by rfl) B.z_int (by decide +kernel) rfl) pa_nil))) (pe_and (pe_not (pe_callB (call_isiK1 (K := K)) (by rfl) B.z_isinstance (by decide +kernel) (pa_cons (pv 0) (pa_cons (pe_bltn (v := .ty "bool") (by rfl) B.z_bool (by decide +kernel) rfl) pa_nil)))) (pe_one (pe_chain op_le op_le (pv 1) (pv 0) (pv 2)))))))⟩
/-- check_reading -/
noncomputable def rd_check_reading {f : Addr} {cdv : Value} {A : Around} {outer : List Env} {s : Shared} {H : Hp} {E : XK} (B : Bi mg) (hr : Room 1 (A.deeper (envOfC "check_reading" (defScope s_check_reading) s.heap.objs.size f cdv))) (x_BadReading : ExcK K mg "BadReading" C_BadReading) (c_is_whole : CalK P w K mg base 1 "is_whole" cpWhole) : { t : TS // PSs (cxOf (L2N.CX P w) P w K mg base N_check_reading "check_reading" (defScope s_check_reading) f cdv A outer s H E) (defBody s_check_reading) t } := ⟨_, (pss_one (ps_if (pt_not (pt_val (pe_k c_is_whole hr (by decide) (by rfl) (pa_cons (pv 0) (pa_cons (pe_un un_neg (pe_gint (i := 1000000000000000000) (by rfl) B.g_GREATEST_READING)) (pa_cons (pe_gint (i := 1000000000000000000) (by rfl) B.g_GREATEST_READING) pa_nil)))))) (pss_one (L2N.ps_raise rfl (L2N.takes_of rfl rfl rfl rfl) (L2N.pmk_own PySem.F.excBase_ValueError x_BadReading.ex x_BadReading.g x_BadReading.kp (raises_own x_BadReading.sb x_BadReading.tp) rfl))) pss_nil))⟩
/-- Cup.__init__ -/
noncomputable def rd_Cup___init__ {f : Addr} {cdv : Value} {A : Around} {outer : List Env} {s : Shared} {H : Hp} {E : XK} (B : Bi mg) (hr : Room 2 (A.deeper (envOfC "Cup.__init__" (defScope s_Cup___init__) s.heap.objs.size f cdv))) (x_BadKeep : ExcK K mg "BadKeep" C_BadKeep) (c_is_whole : CalK P w K mg base 1 "is_whole" cpWhole) : { t : TS // PSs (cxOf (L2N.CX P w) P w K mg base N_Cup___init__ "Cup.__init__" (defScope s_Cup___init__) f cdv A outer s H E) (defBody s_Cup___init__) t } := ⟨_, (pss_cons (ps_if (pt_not (pt_val (pe_k c_is_whole hr (by decide) (by rfl) (pa_cons (pv 1) (pa_cons pe_int (pa_cons (pe_gint (i := 64) (by rfl) B.g_GREATEST_KEEP) pa_nil)))))) (pss_one (L2N.ps_raise rfl (L2N.takes_of rfl rfl rfl rfl) (L2N.pmk_own PySem.F.excBase_ValueError x_BadKeep.ex x_BadKeep.g x_BadKeep.kp (raises_own x_BadKeep.sb x_BadKeep.tp) rfl))) pss_nil)
      (pss_cons (ps_fld (pv 0) (pv 1) rfl)
      (pss_cons (ps_fld (pv 0) pe_int rfl)
      (pss_cons (ps_fld (pv 0) (pe_lst pa_nil) rfl)
      (pss_one (ps_fld (pv 0) pe_dnewK rfl))))))⟩
/-- Cup.add -/
noncomputable def rd_Cup_add {f : Addr} {cdv : Value} {A : Around} {outer : List Env} {s : Shared} {H : Hp} {E : XK} (B : Bi mg) (hr : Room 9 (A.deeper (envOfC "Cup.add" (defScope s_Cup_add) s.heap.objs.size f cdv))) (x_BadTimes : ExcK K mg "BadTimes" C_BadTimes) (c_check_reading : CalN P w K mg base 2 "check_reading" (cpReading C_BadReading)) (c_is_whole : CalK P w K mg base 1 "is_whole" cpWhole) (c_Cup__add_loose : MetN P w K mg base 8 C_Cup "_add_loose" (cpAddLoose T C_Cup)) (c__ones : CalK P w K mg base 1 "_ones" cpOnes) (c_Cup__add_block : MetN P w K mg base 7 C_Cup "_add_block" (cpAddBlock T C_Cup)) (c_Cup__like_block : MetN P w K mg base 1 C_Cup "_like_block" (cpLike C_Cup)) : { t : TS // PSs (cxOf (L2N.CX P w) P w K mg base N_Cup_add "Cup.add" (defScope s_Cup_add) f cdv A outer s H E) (defBody s_Cup_add) t } := ⟨_, (pss_cons (ps_expr (pe_n c_check_reading hr (by decide) (by rfl) (letsE (L2N.takes_of rfl rfl rfl rfl)) (pa_cons (pv 1) pa_nil)))
      (pss_cons (ps_if (pt_not (pt_val (pe_k c_is_whole hr (by decide) (by rfl) (pa_cons (pv 2) (pa_cons pe_int (pa_cons (pe_gint (i := 1000000000) (by rfl) B.g_GREATEST_TIMES) pa_nil)))))) (pss_one (L2N.ps_raise rfl (L2N.takes_of rfl rfl rfl rfl) (L2N.pmk_own PySem.F.excBase_ValueError x_BadTimes.ex x_BadTimes.g x_BadTimes.kp (raises_own x_BadTimes.sb x_BadTimes.tp) rfl))) pss_nil)
      (pss_cons (ps_for (passes_of rfl) rfl (pi_range1 (by rfl) B.z_range (pa_cons (pe_op op_mod (pv 2) (pe_fldK (K := K) (pv 0))) pa_nil)) (pg_name (i := 3) sc_Cup_add.nd rfl (by first | exact Or.inl rfl | exact Or.inr rfl)) (pss_one (ps_expr (pe_m c_Cup__add_loose hr (by decide) lets0 (pv 0) (pa_cons (pv 1) pa_nil)))))
      (pss_cons (ps_for (passes_of rfl) rfl (pi_listK (K := K) (pe_k c__ones hr (by decide) (by rfl) (pa_cons (pe_op op_fdivW (pv 2) (pe_fldK (K := K) (pv 0))) pa_nil))) (pg_name (i := 4) sc_Cup_add.nd rfl (by first | exact Or.inl rfl | exact Or.inr rfl)) (pss_one (ps_expr (pe_m c_Cup__add_block hr (by decide) lets0 (pv 0) (pa_cons (pv 4) (pa_cons (pe_m c_Cup__like_block hr (by decide) lets0 (pv 0) (pa_cons (pv 4) (pa_cons (pv 1) pa_nil))) pa_nil))))))
      (pss_one (ps_fldaug (pv 0) (pv 2) in_add))))))⟩
/-- Cup.pour -/
noncomputable def rd_Cup_pour {f : Addr} {cdv : Value} {A : Around} {outer : List Env} {s : Shared} {H : Hp} {E : XK} (B : Bi mg) (hr : Room 9 (A.deeper (envOfC "Cup.pour" (defScope s_Cup_pour) s.heap.objs.size f cdv))) (x_UnlikeCups : ExcK K mg "UnlikeCups" C_UnlikeCups) (c_Cup__add_loose : MetN P w K mg base 8 C_Cup "_add_loose" (cpAddLoose T C_Cup)) (c_Cup__add_block : MetN P w K mg base 7 C_Cup "_add_block" (cpAddBlock T C_Cup)) : { t : TS // PSs (cxOf (L2N.CX P w) P w K mg base N_Cup_pour "Cup.pour" (defScope s_Cup_pour) f cdv A outer s H E) (defBody s_Cup_pour) t } := ⟨_, (pss_cons (ps_if (pt_cmpR op_ne (pe_fldK (K := K) (pv 1)) (pe_fldK (K := K) (pv 0)) (nomark _)) (pss_one (L2N.ps_raise rfl (L2N.takes_of rfl rfl rfl rfl) (L2N.pmk_own PySem.F.excBase_ValueError x_UnlikeCups.ex x_UnlikeCups.g x_UnlikeCups.kp (raises_own x_UnlikeCups.sb x_UnlikeCups.tp) rfl))) pss_nil)
      (pss_cons (ps_set (i := 2) sc_Cup_pour.nd rfl (by first | exact Or.inl rfl | exact Or.inr rfl) (pe_callTy (call_listK (K := K)) (by rfl) B.z_list (by decide +kernel) (pa_cons (pe_fldK (K := K) (pv 1)) pa_nil)))
      (pss_cons (ps_set (i := 3) sc_Cup_pour.nd rfl (by first | exact Or.inl rfl | exact Or.inr rfl) (LiI.pe_listItems rfl (pe_fldK (K := K) (pv 1)) (by rfl) B.z_list (by decide +kernel)))
      (pss_cons (ps_set (i := 4) sc_Cup_pour.nd rfl (by first | exact Or.inl rfl | exact Or.inr rfl) (pe_fldK (K := K) (pv 1)))
      (pss_cons (ps_for (passes_of rfl) rfl (pi_listK (K := K) (pv 2)) (pg_name (i := 5) sc_Cup_pour.nd rfl (by first | exact Or.inl rfl | exact Or.inr rfl)) (pss_one (ps_expr (pe_m c_Cup__add_loose hr (by decide) lets0 (pv 0) (pa_cons (pv 5) pa_nil)))))
      (pss_cons (ps_for (passes_of rfl) rfl (pi_listK (K := K) (pv 3)) (pg_tupK (K := K) (n := 2) rfl (pgs_cons (pg_name (i := 6) sc_Cup_pour.nd rfl (by first | exact Or.inl rfl | exact Or.inr rfl)) (pgs_cons (pg_name (i := 7) sc_Cup_pour.nd rfl (by first | exact Or.inl rfl | exact Or.inr rfl)) pgs_nil))) (pss_one (ps_expr (pe_m c_Cup__add_block hr (by decide) lets0 (pv 0) (pa_cons (pv 6) (pa_cons (pv 7) pa_nil))))))
      (pss_one (ps_fldaug (pv 0) (pv 4) in_add))))))))⟩
/-- Cup.count -/
noncomputable def rd_Cup_count {f : Addr} {cdv : Value} {A : Around} {outer : List Env} {s : Shared} {H : Hp} {E : XK} (B : Bi mg) (hr : Room 9 (A.deeper (envOfC "Cup.count" (defScope s_Cup_count) s.heap.objs.size f cdv))) : { t : TS // PSs (cxOf CX0 P w K mg base N_Cup_count "Cup.count" (defScope s_Cup_count) f cdv A outer s H E).nox (defBody s_Cup_count) t } := ⟨_, (pss_one (ps_ret (pe_fldK (K := K) (pv 0))))⟩
/-- Cup.kept -/
noncomputable def rd_Cup_kept {f : Addr} {cdv : Value} {A : Around} {outer : List Env} {s : Shared} {H : Hp} {E : XK} (B : Bi mg) (hr : Room 8 (A.deeper (envOfC "Cup.kept" (defScope s_Cup_kept) s.heap.objs.size f cdv))) (c_Cup__parts : MetN P w K mg base 2 C_Cup "_parts" (cpParts C_Cup)) (c_joined : CalK P w K mg base 5 "joined" (cpJoined T)) : { t : TS // PSs (cxOf CX0 P w K mg base N_Cup_kept "Cup.kept" (defScope s_Cup_kept) f cdv A outer s H E).nox (defBody s_Cup_kept) t } := ⟨_, (pss_cons (ps_set (i := 1) sc_Cup_kept.nd rfl (by first | exact Or.inl rfl | exact Or.inr rfl) (pe_lst pa_nil))
      (pss_cons (ps_set (i := 2) sc_Cup_kept.nd rfl (by first | exact Or.inl rfl | exact Or.inr rfl) pe_int)
      (pss_cons (ps_for PassesOwn.never rfl (pi_listK (K := K) (pe_m0 c_Cup__parts hr (by decide) lets0 (pv 0))) (pg_tupK (K := K) (n := 2) rfl (pgs_cons (pg_name (i := 3) sc_Cup_kept.nd rfl (by first | exact Or.inl rfl | exact Or.inr rfl)) (pgs_cons (pg_name (i := 4) sc_Cup_kept.nd rfl (by first | exact Or.inl rfl | exact Or.inr rfl)) pgs_nil))) (pss_cons (ps_set (i := 1) sc_Cup_kept.nd rfl (by first | exact Or.inl rfl | exact Or.inr rfl) (pe_k c_joined hr (by decide) (by rfl) (pa_cons (pv 1) (pa_cons (pv 2) (pa_cons (pv 3) (pa_cons (pv 4) pa_nil))))))
      (pss_one (ps_aug (i := 2) sc_Cup_kept.nd rfl (by first | exact Or.inl rfl | exact Or.inr rfl) (pv 4) ip_add))))
      (pss_one (ps_ret (pv 1))))))⟩
/-- Cup._parts -/
noncomputable def rd_Cup__parts {f : Addr} {cdv : Value} {A : Around} {outer : List Env} {s : Shared} {H : Hp} {E : XK} (B : Bi mg) (hr : Room 1 (A.deeper (envOfC "Cup._parts" (defScope s_Cup__parts) s.heap.objs.size f cdv))) (c_exact : CalK P w K mg base 1 "exact" (cpExact K)) : { t : TS // PSs (cxOf CX0 P w K mg base N_Cup__parts "Cup._parts" (defScope s_Cup__parts) f cdv A outer s H E).nox (defBody s_Cup__parts) t } := ⟨_, (pss_cons (ps_set (i := 1) sc_Cup__parts.nd rfl (by first | exact Or.inl rfl | exact Or.inr rfl) (pe_lst (pa_cons (pe_tup (pa_cons (pe_k c_exact hr (by decide) (by rfl) (pa_cons (pe_fldK (K := K) (pv 0)) pa_nil)) (pa_cons (pe_callB (call_lenK (K := K)) (by rfl) B.z_len (by decide +kernel) (pa_cons (pe_fldK (K := K) (pv 0)) pa_nil)) pa_nil))) pa_nil)))
      (pss_cons (ps_for PassesOwn.never rfl (pi_listK (K := K) (pe_callB (call_sortedDA rfl) (by rfl) B.z_sorted (by decide +kernel) (pa_cons (pe_fldK (K := K) (pv 0)) pa_nil))) (pg_name (i := 2) sc_Cup__parts.nd rfl (by first | exact Or.inl rfl | exact Or.inr rfl)) (pss_one (ps_expr (pe_bm PySem.F.plainAttrs_list PySem.F.slot_list_append PySem.F.type_list_append mt_append (pv 1) (pa_cons (pe_tup (pa_cons (pe_dget (hu_of hr) (pe_fldK (K := K) (pv 0)) (pv 2) (fun _ _ => rfl)) (pa_cons (pe_op op_shl (pe_fldK (K := K) (pv 0)) (pv 2)) pa_nil))) pa_nil)))))
      (pss_one (ps_ret (pv 1)))))⟩
/-- Cup._add_loose -/
noncomputable def rd_Cup__add_loose {f : Addr} {cdv : Value} {A : Around} {outer : List Env} {s : Shared} {H : Hp} {E : XK} (B : Bi mg) (hr : Room 7 (A.deeper (envOfC "Cup._add_loose" (defScope s_Cup__add_loose) s.heap.objs.size f cdv))) (c_exact : CalK P w K mg base 1 "exact" (cpExact K)) (c_Cup__add_block : MetN P w K mg base 7 C_Cup "_add_block" (cpAddBlock T C_Cup)) : { t : TS // PSs (cxOf CX0 P w K mg base N_Cup__add_loose "Cup._add_loose" (defScope s_Cup__add_loose) f cdv A outer s H E).nox (defBody s_Cup__add_loose) t } := ⟨_, (pss_cons (ps_expr (pe_bm PySem.F.plainAttrs_list PySem.F.slot_list_append PySem.F.type_list_append mt_append (pe_fldK (K := K) (pv 0)) (pa_cons (pv 1) pa_nil)))
      (pss_one (ps_if (pt_cmpR op_eq (pe_callB (call_lenK (K := K)) (by rfl) B.z_len (by decide +kernel) (pa_cons (pe_fldK (K := K) (pv 0)) pa_nil)) (pe_fldK (K := K) (pv 0)) (nomark _)) (pss_cons (ps_set (i := 2) sc_Cup__add_loose.nd rfl (by first | exact Or.inl rfl | exact Or.inr rfl) (pe_k c_exact hr (by decide) (by rfl) (pa_cons (pe_fldK (K := K) (pv 0)) pa_nil)))
      (pss_cons (ps_fld (pv 0) (pe_lst pa_nil) rfl)
      (pss_one (ps_expr (pe_m c_Cup__add_block hr (by decide) lets0 (pv 0) (pa_cons pe_int (pa_cons (pv 2) pa_nil))))))) pss_nil)))⟩
/-- Cup._add_block -/
noncomputable def rd_Cup__add_block {f : Addr} {cdv : Value} {A : Around} {outer : List Env} {s : Shared} {H : Hp} {E : XK} (B : Bi mg) (hr : Room 6 (A.deeper (envOfC "Cup._add_block" (defScope s_Cup__add_block) s.heap.objs.size f cdv))) (c_joined : CalK P w K mg base 5 "joined" (cpJoined T)) (c_halved : CalK P w K mg base 1 "halved" (cpHalved K)) : { t : TS // PSs (cxOf CX0 P w K mg base N_Cup__add_block "Cup._add_block" (defScope s_Cup__add_block) f cdv A outer s H E).nox (defBody s_Cup__add_block) t } := ⟨_, (pss_cons (ps_while PassesOwn.never (pt_cmp (pc_din (hu_of hr) (pv 1) (pe_fldK (K := K) (pv 0)))) (pss_cons (ps_set (i := 3) sc_Cup__add_block.nd rfl (by first | exact Or.inl rfl | exact Or.inr rfl) (pe_op op_shl (pe_fldK (K := K) (pv 0)) (pv 1)))
      (pss_cons (ps_set (i := 2) sc_Cup__add_block.nd rfl (by first | exact Or.inl rfl | exact Or.inr rfl) (pe_k c_halved hr (by decide) (by rfl) (pa_cons (pe_k c_joined hr (by decide) (by rfl) (pa_cons (pe_dpop1 (pe_fldK (K := K) (pv 0)) (pv 1) ⟨by rfl, by rfl, by rfl, by rfl⟩) (pa_cons (pv 3) (pa_cons (pv 2) (pa_cons (pv 3) pa_nil))))) pa_nil)))
      (pss_one (ps_aug (i := 1) sc_Cup__add_block.nd rfl (by first | exact Or.inl rfl | exact Or.inr rfl) pe_int ip_add)))))
      (pss_one (ps_dput (hu_of hr) (pe_fldK (K := K) (pv 0)) (pv 1) (pv 2) rfl)))⟩
/-- Cup._like_block -/
noncomputable def rd_Cup__like_block {f : Addr} {cdv : Value} {A : Around} {outer : List Env} {s : Shared} {H : Hp} {E : XK} (B : Bi mg) (hr : Room 0 (A.deeper (envOfC "Cup._like_block" (defScope s_Cup__like_block) s.heap.objs.size f cdv))) : { t : TS // PSs (cxOf CX0 P w K mg base N_Cup__like_block "Cup._like_block" (defScope s_Cup__like_block) f cdv A outer s H E).nox (defBody s_Cup__like_block) t } := ⟨_, (pss_one (ps_ret (pe_op op_rep (pe_lst (pa_cons (pe_tup (pa_cons (pv 2) (pa_cons (pe_op op_sub (pe_op op_shl (pe_fldK (K := K) (pv 0)) (pv 1)) pe_int) (pa_cons pe_int pa_nil)))) pa_nil)) (pe_fldK (K := K) (pv 0)))))⟩
/-- _ones -/
noncomputable def rd__ones {f : Addr} {cdv : Value} {A : Around} {outer : List Env} {s : Shared} {H : Hp} {E : XK} (B : Bi mg) (hr : Room 0 (A.deeper (envOfC "_ones" (defScope s__ones) s.heap.objs.size f cdv))) : { t : TS // PSs (cxOf CX0 P w K mg base N__ones "_ones" (defScope s__ones) f cdv A outer s H E).nox (defBody s__ones) t } := ⟨_, (pss_one (ps_ret (pe_lc (own := [("place", 1)]) rfl sc__ones.nd (pi_range1 (by rfl) B.z_range (pa_cons (pe_bits (pv 0)) pa_nil)) (blkOk_by (own := [("place", 1)]) (N := N__ones) (sc := defScope s__ones) (by decide +kernel)) (fun _ _ _ _ _ => (pg_name (i := 1) sc__ones.nd rfl (by first | exact Or.inl rfl | exact Or.inr rfl))) (fun _ _ _ _ _ => (pts_one (pt_cmpR op_eq (pe_op op_mod (pe_op op_shr (pv 0) (pv 1)) pe_int) pe_int (nomark _)))) (fun _ _ _ _ _ => (pv 1)))))⟩
/-- apart -/
noncomputable def rd_apart {f : Addr} {cdv : Value} {A : Around} {outer : List Env} {s : Shared} {H : Hp} {E : XK} (B : Bi mg) (hr : Room 10 (A.deeper (envOfC "apart" (defScope s_apart) s.heap.objs.size f cdv))) (x_NoReadings : ExcK K mg "NoReadings" C_NoReadings) (c_Cup_count : MetN P w K mg base 10 C_Cup "count" (apCountP R T)) (c_Cup_kept : MetN P w K mg base 10 C_Cup "kept" (apKeptP R T)) (c__steps : CalK P w K mg base 1 "_steps" cpSteps) (c_ahead_of : CalK P w K mg base 3 "ahead_of" cpAheadOf) : { t : TS // PSs (cxOf (L2N.CX P w) P w K mg base N_apart "apart" (defScope s_apart) f cdv A outer s H E) (defBody s_apart) t } := ⟨_, (pss_cons (ps_set (i := 2) sc_apart.nd rfl (by first | exact Or.inl rfl | exact Or.inr rfl) (pe_m0 c_Cup_count hr (by decide) lets0 (pv 0)))
      (pss_cons (ps_set (i := 3) sc_apart.nd rfl (by first | exact Or.inl rfl | exact Or.inr rfl) (pe_m0 c_Cup_count hr (by decide) lets0 (pv 1)))
      (pss_cons (ps_if (PW.pt (pw_or (pt_cmpR op_eq (pv 2) pe_int (nomark _)) (pw_or1 (pt_cmpR op_eq (pv 3) pe_int (nomark _))))) (pss_one (L2N.ps_raise rfl (L2N.takes_of rfl rfl rfl rfl) (L2N.pmk_own PySem.F.excBase_ValueError x_NoReadings.ex x_NoReadings.g x_NoReadings.kp (raises_own x_NoReadings.sb x_NoReadings.tp) rfl))) pss_nil)
      (pss_cons (ps_set (i := 4) sc_apart.nd rfl (by first | exact Or.inl rfl | exact Or.inr rfl) (pe_m0 c_Cup_kept hr (by decide) lets0 (pv 0)))
      (pss_cons (ps_set (i := 5) sc_apart.nd rfl (by first | exact Or.inl rfl | exact Or.inr rfl) (pe_m0 c_Cup_kept hr (by decide) lets0 (pv 1)))
      (pss_cons (ps_set (i := 6) sc_apart.nd rfl (by first | exact Or.inl rfl | exact Or.inr rfl) pe_int)
      (pss_cons (ps_set (i := 7) sc_apart.nd rfl (by first | exact Or.inl rfl | exact Or.inr rfl) pe_int)
      (pss_cons (ps_for (passes_of rfl) rfl (pi_listK (K := K) (pe_k c__steps hr (by decide) (by rfl) (pa_cons (pe_op op_cat (pv 4) (pv 5)) pa_nil))) (pg_name (i := 8) sc_apart.nd rfl (by first | exact Or.inl rfl | exact Or.inr rfl)) (pss_cons (ps_asg (pe_k c_ahead_of hr (by decide) (by rfl) (pa_cons (pv 4) (pa_cons (pv 2) (pa_cons (pv 8) pa_nil)))) (pg_tupK (K := K) (n := 2) rfl (pgs_cons (pg_name (i := 9) sc_apart.nd rfl (by first | exact Or.inl rfl | exact Or.inr rfl)) (pgs_cons (pg_name (i := 10) sc_apart.nd rfl (by first | exact Or.inl rfl | exact Or.inr rfl)) pgs_nil))))
      (pss_cons (ps_asg (pe_k c_ahead_of hr (by decide) (by rfl) (pa_cons (pv 5) (pa_cons (pv 3) (pa_cons (pv 8) pa_nil)))) (pg_tupK (K := K) (n := 2) rfl (pgs_cons (pg_name (i := 11) sc_apart.nd rfl (by first | exact Or.inl rfl | exact Or.inr rfl)) (pgs_cons (pg_name (i := 12) sc_apart.nd rfl (by first | exact Or.inl rfl | exact Or.inr rfl)) pgs_nil))))
      (pss_cons (ps_set (i := 6) sc_apart.nd rfl (by first | exact Or.inl rfl | exact Or.inr rfl) (pe_callB (call_max3Nu rfl) (by rfl) B.z_max (by decide +kernel) (pa_cons (pv 6) (pa_cons (pe_op op_sub (pe_op op_mulW (pv 9) (pv 3)) (pe_op op_mulW (pv 12) (pv 2))) (pa_cons (pe_op op_sub (pe_op op_mulW (pv 11) (pv 2)) (pe_op op_mulW (pv 10) (pv 3))) pa_nil)))))
      (pss_one (ps_set (i := 7) sc_apart.nd rfl (by first | exact Or.inl rfl | exact Or.inr rfl) (pe_callB (call_max3Nu rfl) (by rfl) B.z_max (by decide +kernel) (pa_cons (pv 7) (pa_cons (pe_op op_sub (pe_op op_mulW (pv 10) (pv 3)) (pe_op op_mulW (pv 11) (pv 2))) (pa_cons (pe_op op_sub (pe_op op_mulW (pv 12) (pv 2)) (pe_op op_mulW (pv 9) (pv 3))) pa_nil))))))))))
      (pss_one (ps_ret (pe_tup (pa_cons (pv 6) (pa_cons (pv 7) pa_nil)))))))))))))⟩
/-- _steps -/
noncomputable def rd__steps {f : Addr} {cdv : Value} {A : Around} {outer : List Env} {s : Shared} {H : Hp} {E : XK} (B : Bi mg) (hr : Room 0 (A.deeper (envOfC "_steps" (defScope s__steps) s.heap.objs.size f cdv))) : { t : TS // PSs (cxOf CX0 P w K mg base N__steps "_steps" (defScope s__steps) f cdv A outer s H E).nox (defBody s__steps) t } := ⟨_, (pss_cons (ps_setLc (i := 1) (own := [("entry", 2)]) rfl sc__steps.nd rfl rfl (sw_true rfl rfl rfl (by decide +kernel)) (pi_listK (K := K) (pv 0)) (blkOk_by (own := [("entry", 2)]) (N := N__steps) (sc := defScope s__steps) (by decide +kernel)) (fun _ _ _ _ _ => (pg_name (i := 2) sc__steps.nd rfl (by first | exact Or.inl rfl | exact Or.inr rfl))) (fun _ _ _ _ _ => pts_nil) (fun _ _ _ _ _ => (pe_ix (ix_tupK (K := K)) (pv 2) pe_int (fun _ _ => rfl))))
      (pss_one (ps_ret (pe_op op_cat (pv 1) (pe_lst (pa_cons (pe_op op_add (pe_callB (cr_maxK (K := K) rfl) (by rfl) B.z_max (by decide +kernel) (pa_cons (pv 1) pa_nil)) pe_int) pa_nil))))))⟩
/-- _law_cell -/
noncomputable def rd__law_cell {f : Addr} {cdv : Value} {A : Around} {outer : List Env} {s : Shared} {H : Hp} {E : XK} (B : Bi mg) (hr : Room 0 (A.deeper (envOfC "_law_cell" (defScope s__law_cell) s.heap.objs.size f cdv))) : { t : TS // PSs (cxOf CX0 P w K mg base N__law_cell "_law_cell" (defScope s__law_cell) f cdv A outer s H E).nox (defBody s__law_cell) t } := ⟨_, (pss_cons (ps_if (pt_cmpR op_lt (pv 1) (pe_callB (call_lenK (K := K)) (by rfl) B.z_len (by decide +kernel) (pa_cons (pv 0) pa_nil)) (nomark _)) (pss_one (ps_ret (pe_ix (ix_listK (K := K)) (pv 0) (pv 1) (fun _ _ => rfl)))) pss_nil)
      (pss_one (ps_ret pe_int)))⟩
/-- _law_mixed -/
noncomputable def rd__law_mixed {f : Addr} {cdv : Value} {A : Around} {outer : List Env} {s : Shared} {H : Hp} {E : XK} (B : Bi mg) (hr : Room 0 (A.deeper (envOfC "_law_mixed" (defScope s__law_mixed) s.heap.objs.size f cdv))) : { t : TS // PSs (cxOf CX0 P w K mg base N__law_mixed "_law_mixed" (defScope s__law_mixed) f cdv A outer s H E).nox (defBody s__law_mixed) t } := ⟨_, (pss_cons (ps_set (i := 2) sc__law_mixed.nd rfl (by first | exact Or.inl rfl | exact Or.inr rfl) (pe_op op_mod (pe_op op_mul (pe_op op_add (pv 0) (pe_op op_mul pe_int (pv 1))) pe_int) pe_int))
      (pss_one (ps_ret (pe_op op_mod (pe_op op_mul (pv 2) (pe_op op_add (pe_op op_add (pv 2) (pe_op op_mul pe_int (pv 1))) pe_int)) pe_int))))⟩
/-- _law_reading -/
noncomputable def rd__law_reading {f : Addr} {cdv : Value} {A : Around} {outer : List Env} {s : Shared} {H : Hp} {E : XK} (B : Bi mg) (hr : Room 1 (A.deeper (envOfC "_law_reading" (defScope s__law_reading) s.heap.objs.size f cdv))) (c__law_mixed : CalK P w K mg base 1 "_law_mixed" lpMixed) : { t : TS // PSs (cxOf CX0 P w K mg base N__law_reading "_law_reading" (defScope s__law_reading) f cdv A outer s H E).nox (defBody s__law_reading) t } := ⟨_, (pss_cons (ps_set (i := 1) sc__law_reading.nd rfl (by first | exact Or.inl rfl | exact Or.inr rfl) (pe_k c__law_mixed hr (by decide) (by rfl) (pa_cons (pv 0) (pa_cons pe_int pa_nil))))
      (pss_cons (ps_if (pt_cmpR op_eq (pe_op op_mod (pv 1) pe_int) pe_int (nomark _)) (pss_one (ps_ret (pe_op op_sub (pe_op op_mod (pe_op op_fdiv (pv 1) pe_int) pe_int) pe_int))) pss_nil)
      (pss_cons (ps_if (pt_cmpR op_eq (pe_op op_mod (pv 1) pe_int) pe_int (nomark _)) (pss_one (ps_ret (pe_op op_sub (pe_op op_mod (pe_op op_fdiv (pv 1) pe_int) pe_int) pe_int))) pss_nil)
      (pss_cons (ps_if (pt_cmpR op_eq (pe_op op_mod (pe_op op_fdiv (pv 1) pe_int) pe_int) pe_int (nomark _)) (pss_one (ps_ret (pe_ix (ix_listK (K := K)) (pe_lst (pa_cons (pe_op op_pow pe_int pe_int) (pa_cons (pe_un un_neg (pe_op op_pow pe_int pe_int)) pa_nil))) (pe_op op_mod (pe_op op_fdiv (pv 1) pe_int) pe_int) (fun _ _ => rfl)))) pss_nil)
      (pss_one (ps_ret (pe_op op_sub (pe_op op_mod (pe_op op_mul (pv 1) (pv 1)) (pe_op op_add (pe_op op_mul pe_int (pe_op op_pow pe_int pe_int)) pe_int)) (pe_op op_pow pe_int pe_int))))))))⟩
/-- _law_times -/
noncomputable def rd__law_times {f : Addr} {cdv : Value} {A : Around} {outer : List Env} {s : Shared} {H : Hp} {E : XK} (B : Bi mg) (hr : Room 1 (A.deeper (envOfC "_law_times" (defScope s__law_times) s.heap.objs.size f cdv))) (c__law_mixed : CalK P w K mg base 1 "_law_mixed" lpMixed) : { t : TS // PSs (cxOf CX0 P w K mg base N__law_times "_law_times" (defScope s__law_times) f cdv A outer s H E).nox (defBody s__law_times) t } := ⟨_, (pss_cons (ps_set (i := 2) sc__law_times.nd rfl (by first | exact Or.inl rfl | exact Or.inr rfl) (pe_k c__law_mixed hr (by decide) (by rfl) (pa_cons (pv 0) (pa_cons pe_int pa_nil))))
      (pss_cons (ps_if (pt_cmpR op_lt (pe_op op_mod (pv 2) pe_int) pe_int (nomark _)) (pss_one (ps_ret pe_int)) pss_nil)
      (pss_cons (ps_if (PW.pt (pw_and (pt_not (pt_val (pv 1))) (pw_and1 (pt_cmpR op_eq (pe_op op_mod (pe_op op_fdiv (pv 2) pe_int) pe_int) pe_int (nomark _))))) (pss_one (ps_ret (pe_op op_add pe_int (pe_op op_mod (pe_op op_fdiv (pv 2) pe_int) pe_int)))) pss_nil)
      (pss_cons (ps_if (PW.pt (pw_or (pt_cmpR op_eq (pe_op op_mod (pv 2) pe_int) pe_int (nomark _)) (pw_or1 (pt_not (pt_val (pv 1)))))) (pss_one (ps_ret (pe_op op_add pe_int (pe_op op_mod (pe_op op_fdiv (pv 2) pe_int) pe_int)))) pss_nil)
      (pss_cons (ps_if (pt_cmpR op_eq (pe_op op_mod (pe_op op_fdiv (pv 2) pe_int) pe_int) pe_int (nomark _)) (pss_one (ps_ret (pe_op op_pow pe_int pe_int))) pss_nil)
      (pss_one (ps_ret (pe_op op_add pe_int (pe_op op_mod (pe_op op_mul (pv 2) (pv 2)) (pe_ix (ix_listK (K := K)) (pe_lst (pa_cons pe_int (pa_cons (pe_op op_pow pe_int pe_int) (pa_cons (pe_op op_pow pe_int pe_int) pa_nil)))) (pe_op op_mod (pe_op op_fdiv (pv 2) pe_int) pe_int) (fun _ _ => rfl)))))))))))⟩
/-- _law_keep -/
noncomputable def rd__law_keep {f : Addr} {cdv : Value} {A : Around} {outer : List Env} {s : Shared} {H : Hp} {E : XK} (B : Bi mg) (hr : Room 0 (A.deeper (envOfC "_law_keep" (defScope s__law_keep) s.heap.objs.size f cdv))) : { t : TS // PSs (cxOf CX0 P w K mg base N__law_keep "_law_keep" (defScope s__law_keep) f cdv A outer s H E).nox (defBody s__law_keep) t } := ⟨_, (pss_cons (ps_if (pt_cmpR op_eq (pe_op op_mod (pv 0) pe_int) pe_int (nomark _)) (pss_one (ps_ret (pe_op op_add pe_int (pe_op op_mod (pe_op op_fdiv (pv 0) pe_int) pe_int)))) pss_nil)
      (pss_one (ps_ret (pe_op op_add pe_int (pe_op op_mod (pe_op op_fdiv (pv 0) pe_int) pe_int)))))⟩
/-- _law_deeds -/
noncomputable def rd__law_deeds {f : Addr} {cdv : Value} {A : Around} {outer : List Env} {s : Shared} {H : Hp} {E : XK} (B : Bi mg) (hr : Room 2 (A.deeper (envOfC "_law_deeds" (defScope s__law_deeds) s.heap.objs.size f cdv))) (c__law_mixed : CalK P w K mg base 1 "_law_mixed" lpMixed) (c__law_times : CalK P w K mg base 2 "_law_times" lpTimes) (c__law_reading : CalK P w K mg base 2 "_law_reading" lpReading) : { t : TS // PSs (cxOf CX0 P w K mg base N__law_deeds "_law_deeds" (defScope s__law_deeds) f cdv A outer s H E).nox (defBody s__law_deeds) t } := ⟨_, (pss_cons (ps_set (i := 2) sc__law_deeds.nd rfl (by first | exact Or.inl rfl | exact Or.inr rfl) (pe_lst pa_nil))
      (pss_cons (ps_for PassesOwn.never rfl (pi_enum (by rfl) B.z_enumerate (pa_cons (pv 0) pa_nil)) (pg_tupK (K := K) (n := 2) rfl (pgs_cons (pg_name (i := 3) sc__law_deeds.nd rfl (by first | exact Or.inl rfl | exact Or.inr rfl)) (pgs_cons (pg_name (i := 4) sc__law_deeds.nd rfl (by first | exact Or.inl rfl | exact Or.inr rfl)) pgs_nil))) (pss_cons (ps_set (i := 5) sc__law_deeds.nd rfl (by first | exact Or.inl rfl | exact Or.inr rfl) (pe_k c__law_mixed hr (by decide) (by rfl) (pa_cons (pv 4) (pa_cons (pe_op op_add pe_int (pv 3)) pa_nil))))
      (pss_cons (ps_set (i := 6) sc__law_deeds.nd rfl (by first | exact Or.inl rfl | exact Or.inr rfl) (pe_op op_mod (pe_op op_fdiv (pv 5) pe_int) pe_int))
      (pss_one (ps_if (pt_cmpR op_lt (pe_op op_mod (pv 5) pe_int) pe_int (nomark _)) (pss_one (ps_expr (pe_bm PySem.F.plainAttrs_list PySem.F.slot_list_append PySem.F.type_list_append mt_append (pv 2) (pa_cons (pe_tup (pa_cons (pv 6) (pa_cons (pe_k c__law_reading hr (by decide) (by rfl) (pa_cons (pe_op op_add (pv 4) (pv 3)) pa_nil)) (pa_cons pe_int (pa_cons pe_int (pa_cons (pe_k c__law_times hr (by decide) (by rfl) (pa_cons (pe_op op_add (pv 4) (pv 3)) (pa_cons (pv 1) pa_nil))) pa_nil)))))) pa_nil)))) (pss_one (ps_if (pt_cmpR op_lt (pe_op op_mod (pv 5) pe_int) pe_int (nomark _)) (pss_one (ps_expr (pe_bm PySem.F.plainAttrs_list PySem.F.slot_list_append PySem.F.type_list_append mt_append (pv 2) (pa_cons (pe_tup (pa_cons (pv 6) (pa_cons (pe_op op_fdiv (pe_k c__law_reading hr (by decide) (by rfl) (pa_cons (pe_op op_add (pv 4) (pv 3)) pa_nil)) pe_int) (pa_cons (pe_op op_add pe_int (pe_op op_mod (pe_op op_fdiv (pv 5) pe_int) pe_int)) (pa_cons (pe_op op_sub (pe_op op_mod (pe_op op_fdiv (pv 5) pe_int) pe_int) pe_int) (pa_cons pe_int pa_nil)))))) pa_nil)))) (pss_one (ps_expr (pe_bm PySem.F.plainAttrs_list PySem.F.slot_list_append PySem.F.type_list_append mt_append (pv 2) (pa_cons (pe_tup (pa_cons (pv 6) (pa_cons (pe_op op_mod (pe_op op_fdiv (pv 5) pe_int) pe_int) pa_nil))) pa_nil)))))))))))
      (pss_one (ps_ret (pv 2)))))⟩
/-- _law_come -/
noncomputable def rd__law_come {f : Addr} {cdv : Value} {A : Around} {outer : List Env} {s : Shared} {H : Hp} {E : XK} (B : Bi mg) (hr : Room 0 (A.deeper (envOfC "_law_come" (defScope s__law_come) s.heap.objs.size f cdv))) : { t : TS // PSs (cxOf CX0 P w K mg base N__law_come "_law_come" (defScope s__law_come) f cdv A outer s H E).nox (defBody s__law_come) t } := ⟨_, (pss_cons (ps_set (i := 2) sc__law_come.nd rfl (by first | exact Or.inl rfl | exact Or.inr rfl) (pe_ix (ix_listK (K := K)) (pv 0) (pe_ix (ix_tupK (K := K)) (pv 1) pe_int (fun _ _ => rfl)) (fun _ _ => rfl)))
      (pss_one (ps_if (pt_cmpR op_eq (pe_callB (call_lenK (K := K)) (by rfl) B.z_len (by decide +kernel) (pa_cons (pv 1) pa_nil)) pe_int (nomark _)) (pss_one (ps_for PassesOwn.never rfl (pi_listK (K := K) (LiI.pe_listItems rfl (pe_ix (ix_listK (K := K)) (pv 0) (pe_ix (ix_tupK (K := K)) (pv 1) pe_int (fun _ _ => rfl)) (fun _ _ => rfl)) (by rfl) B.z_list (by decide +kernel))) (pg_tupK (K := K) (n := 2) rfl (pgs_cons (pg_name (i := 3) sc__law_come.nd rfl (by first | exact Or.inl rfl | exact Or.inr rfl)) (pgs_cons (pg_name (i := 4) sc__law_come.nd rfl (by first | exact Or.inl rfl | exact Or.inr rfl)) pgs_nil))) (pss_one (ps_dput (hu_of hr) (pv 2) (pv 3) (pe_op op_add (pe_dget2 (hu_of hr) (pv 2) (pv 3) pe_int ⟨by rfl, by rfl, by rfl, by rfl⟩) (pv 4)) rfl)))) (pss_one (ps_for PassesOwn.never rfl (pi_range1 (by rfl) B.z_range (pa_cons (pe_ix (ix_tupK (K := K)) (pv 1) pe_int (fun _ _ => rfl)) pa_nil)) (pg_name (i := 5) sc__law_come.nd rfl (by first | exact Or.inl rfl | exact Or.inr rfl)) (pss_cons (ps_set (i := 3) sc__law_come.nd rfl (by first | exact Or.inl rfl | exact Or.inr rfl) (pe_op op_add (pe_ix (ix_tupK (K := K)) (pv 1) pe_int (fun _ _ => rfl)) (pe_op op_mul (pv 5) (pe_ix (ix_tupK (K := K)) (pv 1) pe_int (fun _ _ => rfl)))))
      (pss_one (ps_dput (hu_of hr) (pv 2) (pv 3) (pe_op op_add (pe_dget2 (hu_of hr) (pv 2) (pv 3) pe_int ⟨by rfl, by rfl, by rfl, by rfl⟩) (pe_ix (ix_tupK (K := K)) (pv 1) pe_int (fun _ _ => rfl))) rfl))))))))⟩
/-- _law_done -/
noncomputable def rd__law_done {f : Addr} {cdv : Value} {A : Around} {outer : List Env} {s : Shared} {H : Hp} {E : XK} (B : Bi mg) (hr : Room 10 (A.deeper (envOfC "_law_done" (defScope s__law_done) s.heap.objs.size f cdv))) (c_Cup_pour : MetN P w K mg base 10 C_Cup "pour" (apPour R T C_UnlikeCups)) (c_Cup_add : MetN P w K mg base 10 C_Cup "add" (apAdd R T C_BadReading C_BadTimes)) : { t : TS // PSs (cxOf CX0 P w K mg base N__law_done "_law_done" (defScope s__law_done) f cdv A outer s H E).nox (defBody s__law_done) t } := ⟨_, (pss_cons (ps_if (pt_cmpR op_eq (pe_callB (call_lenK (K := K)) (by rfl) B.z_len (by decide +kernel) (pa_cons (pv 1) pa_nil)) pe_int (nomark _)) (pss_one (ps_ret (pe_cmpR op_isN (pe_m c_Cup_pour hr (by decide) lets0 (pe_ix (ix_listK (K := K)) (pv 0) (pe_ix (ix_tupK (K := K)) (pv 1) pe_int (fun _ _ => rfl)) (fun _ _ => rfl)) (pa_cons (pe_ix (ix_listK (K := K)) (pv 0) (pe_ix (ix_tupK (K := K)) (pv 1) pe_int (fun _ _ => rfl)) (fun _ _ => rfl)) pa_nil)) pe_non (nomark _)))) pss_nil)
      (pss_cons (ps_for PassesOwn.never rfl (pi_range1 (by rfl) B.z_range (pa_cons (pe_ix (ix_tupK (K := K)) (pv 1) pe_int (fun _ _ => rfl)) pa_nil)) (pg_name (i := 2) sc__law_done.nd rfl (by first | exact Or.inl rfl | exact Or.inr rfl)) (pss_one (ps_if (pt_cmpR op_notN (pe_m c_Cup_add hr (by decide) lets0 (pe_ix (ix_listK (K := K)) (pv 0) (pe_ix (ix_tupK (K := K)) (pv 1) pe_int (fun _ _ => rfl)) (fun _ _ => rfl)) (pa_cons (pe_op op_add (pe_ix (ix_tupK (K := K)) (pv 1) pe_int (fun _ _ => rfl)) (pe_op op_mul (pv 2) (pe_ix (ix_tupK (K := K)) (pv 1) pe_int (fun _ _ => rfl)))) (pa_cons (pe_ix (ix_tupK (K := K)) (pv 1) pe_int (fun _ _ => rfl)) pa_nil))) pe_non (nomark _)) (pss_one (ps_ret pe_bl)) pss_nil)))
      (pss_one (ps_ret pe_bl))))⟩
/-- _law_less -/
noncomputable def rd__law_less {f : Addr} {cdv : Value} {A : Around} {outer : List Env} {s : Shared} {H : Hp} {E : XK} (B : Bi mg) (hr : Room 0 (A.deeper (envOfC "_law_less" (defScope s__law_less) s.heap.objs.size f cdv))) : { t : TS // PSs (cxOf CX0 P w K mg base N__law_less "_law_less" (defScope s__law_less) f cdv A outer s H E).nox (defBody s__law_less) t } := ⟨_, (pss_one (ps_ret (pe_callB (cr_sumK (K := K) rfl) (by rfl) B.z_sum (by decide +kernel) (pa_cons (pe_lock (pe_lc (own := [("_law_one", 2)]) rfl sc__law_less.nd (pi_keys (pv 0)) (blkOk_by (own := [("_law_one", 2)]) (N := N__law_less) (sc := defScope s__law_less) (by decide +kernel)) (fun _ _ _ _ _ => (pg_name (i := 2) sc__law_less.nd rfl (by first | exact Or.inl rfl | exact Or.inr rfl))) (fun _ _ _ _ _ => (pts_one (pt_cmpR op_lt (pv 2) (pv 1) (nomark _)))) (fun _ _ _ _ _ => (pe_dget (hu_of hr) (pv 0) (pv 2) (fun _ _ => rfl))))) pa_nil))))⟩
/-- _law_off -/
noncomputable def rd__law_off {f : Addr} {cdv : Value} {A : Around} {outer : List Env} {s : Shared} {H : Hp} {E : XK} (B : Bi mg) (hr : Room 0 (A.deeper (envOfC "_law_off" (defScope s__law_off) s.heap.objs.size f cdv))) : { t : TS // PSs (cxOf CX0 P w K mg base N__law_off "_law_off" (defScope s__law_off) f cdv A outer s H E).nox (defBody s__law_off) t } := ⟨_, (pss_cons (ps_par3 (i := 2) (j := 3) (l := 4) (by rfl) sc__law_off.nd rfl rfl rfl (by decide) (by decide) (by decide) rfl rfl rfl (pa_cons pe_int (pa_cons (pe_op op_fdivW (pv 0) (pv 1)) (pa_cons pe_int pa_nil))) (by rfl))
      (pss_cons (ps_set (i := 5) sc__law_off.nd rfl (by first | exact Or.inl rfl | exact Or.inr rfl) pe_int)
      (pss_cons (ps_while PassesOwn.never (pt_cmpR op_gt (pv 3) pe_int (nomark _)) (pss_cons (ps_if (pt_cmpR op_eq (pe_op op_mod (pv 3) pe_int) pe_int (nomark _)) (pss_one (ps_set (i := 2) sc__law_off.nd rfl (by first | exact Or.inl rfl | exact Or.inr rfl) (pe_op op_add (pv 2) (pe_op op_fdiv (pe_op op_mulW (pv 5) (pv 4)) pe_int)))) pss_nil)
      (pss_cons (ps_set (i := 3) sc__law_off.nd rfl (by first | exact Or.inl rfl | exact Or.inr rfl) (pe_op op_fdiv (pv 3) pe_int))
      (pss_cons (ps_set (i := 4) sc__law_off.nd rfl (by first | exact Or.inl rfl | exact Or.inr rfl) (pe_op op_mulW (pv 4) pe_int))
      (pss_one (ps_set (i := 5) sc__law_off.nd rfl (by first | exact Or.inl rfl | exact Or.inr rfl) (pe_op op_add (pv 5) pe_int)))))))
      (pss_one (ps_ret (pv 2))))))⟩
/-- _law_pair_right -/
noncomputable def rd__law_pair_right {f : Addr} {cdv : Value} {A : Around} {outer : List Env} {s : Shared} {H : Hp} {E : XK} (B : Bi mg) (hr : Room 0 (A.deeper (envOfC "_law_pair_right" (defScope s__law_pair_right) s.heap.objs.size f cdv))) : { t : TS // PSs (cxOf CX0 P w K mg base N__law_pair_right "_law_pair_right" (defScope s__law_pair_right) f cdv A outer s H E).nox (defBody s__law_pair_right) t } := ⟨_, (pss_cons (ps_if (PW.pt (pw_or (pt_not (pt_val (pe_callB (call_isiK1 (K := K)) (by rfl) B.z_isinstance (by decide +kernel) (pa_cons (pv 0) (pa_cons (pe_bltn (v := .ty "tuple") (by rfl) B.z_tuple (by decide +kernel) rfl) pa_nil))))) (pw_or1 (pt_cmpR op_ne (pe_callB (call_lenK (K := K)) (by rfl) B.z_len (by decide +kernel) (pa_cons (pv 0) pa_nil)) pe_int (nomark _))))) (pss_one (ps_ret pe_bl)) pss_nil)
      (pss_cons (ps_for PassesOwn.never rfl (pi_tupK (K := K) (pv 0)) (pg_name (i := 3) sc__law_pair_right.nd rfl (by first | exact Or.inl rfl | exact Or.inr rfl)) (pss_one (ps_if (PW.pt (pw_or (pt_not (pt_val (pe_callB (call_isiK1 (K := K)) (by rfl) B.z_isinstance (by decide +kernel) (pa_cons (pv 3) (pa_cons (pe_bltn (v := .ty "int") (by rfl) B.z_int (by decide +kernel) rfl) pa_nil))))) (pw_or1 (pt_val (pe_callB (call_isiK1 (K := K)) (by rfl) B.z_isinstance (by decide +kernel) (pa_cons (pv 3) (pa_cons (pe_bltn (v := .ty "bool") (by rfl) B.z_bool (by decide +kernel) rfl) pa_nil))))))) (pss_one (ps_ret pe_bl)) pss_nil)))
      (pss_one (ps_ret (pe_and (pe_chain op_le op_le (pe_ix (ix_tupK (K := K)) (pv 0) pe_int (fun _ _ => rfl)) (pv 1) (pe_ix (ix_tupK (K := K)) (pv 0) pe_int (fun _ _ => rfl))) (pe_one (pe_cmpR op_le (pe_op op_sub (pe_ix (ix_tupK (K := K)) (pv 0) pe_int (fun _ _ => rfl)) (pe_ix (ix_tupK (K := K)) (pv 0) pe_int (fun _ _ => rfl))) (pv 2) (nomark _))))))))⟩
/-- _law_played -/
noncomputable def rd__law_played {f : Addr} {cdv : Value} {A : Around} {outer : List Env} {s : Shared} {H : Hp} {E : XK} (B : Bi mg) (hr : Room 3 (A.deeper (envOfC "_law_played" (defScope s__law_played) s.heap.objs.size f cdv))) (c__law_cell : CalK P w K mg base 1 "_law_cell" (lpCell K)) (c__law_deeds : CalK P w K mg base 3 "_law_deeds" (lpDeeds K)) (c__law_keep : CalK P w K mg base 1 "_law_keep" lpKeep) : { t : TS // PSs (cxOf CX0 P w K mg base N__law_played "_law_played" (defScope s__law_played) f cdv A outer s H E).nox (defBody s__law_played) t } := ⟨_, (pss_cons (ps_set (i := 4) sc__law_played.nd rfl (by first | exact Or.inl rfl | exact Or.inr rfl) (pe_k c__law_cell hr (by decide) (by rfl) (pa_cons (pv 0) (pa_cons pe_int pa_nil))))
      (pss_cons (ps_if (PW.pt (pw_and (pt_val (pv 3)) (pw_and1 (pt_cmpR op_eq (pe_op op_mod (pe_op op_fdiv (pv 4) pe_int) pe_int) pe_int (nomark _))))) (pss_one (ps_ret (pe_tup (pa_cons (pe_op op_add pe_int (pe_op op_mod (pe_op op_fdiv (pv 4) pe_int) pe_int)) (pa_cons (pe_k c__law_deeds hr (by decide) (by rfl) (pa_cons (pe_slice sl_list (pv 0) (po_some (pv 1)) (po_some (pe_op op_add (pv 1) pe_int))) (pa_cons pe_bl pa_nil))) pa_nil))))) pss_nil)
      (pss_cons (ps_set (i := 5) sc__law_played.nd rfl (by first | exact Or.inl rfl | exact Or.inr rfl) (pe_k c__law_keep hr (by decide) (by rfl) (pa_cons (pv 4) pa_nil)))
      (pss_cons (ps_if (pt_cmpR op_gt (pv 5) pe_int (nomark _)) (pss_one (ps_set (i := 2) sc__law_played.nd rfl (by first | exact Or.inl rfl | exact Or.inr rfl) pe_int)) pss_nil)
      (pss_one (ps_ret (pe_tup (pa_cons (pv 5) (pa_cons (pe_k c__law_deeds hr (by decide) (by rfl) (pa_cons (pe_slice sl_list (pv 0) (po_some (pv 1)) (po_some (pe_op op_add (pv 1) (pv 2)))) (pa_cons pe_bl pa_nil))) pa_nil)))))))))⟩
/-- _law_three -/
noncomputable def rd__law_three {f : Addr} {cdv : Value} {A : Around} {outer : List Env} {s : Shared} {H : Hp} {E : XK} (B : Bi mg) (hr : Room 11 (A.deeper (envOfC "_law_three" (defScope s__law_three) s.heap.objs.size f cdv))) (c__law_played : CalK P w K mg base 4 "_law_played" (lpPlayed K)) (m_Cup : MakN P w K mg base 3 "Cup" C_Cup (apInit R T C_Cup C_BadKeep)) (c__law_done : CalK P w K mg base 11 "_law_done" (lpDone4 R T)) (c__law_come : CalK P w K mg base 1 "_law_come" (lpCome4 K)) : { t : TS // PSs (cxOf CX0 P w K mg base N__law_three "_law_three" (defScope s__law_three) f cdv A outer s H E).nox (defBody s__law_three) t } := ⟨_, (pss_cons (ps_asg (pe_k c__law_played hr (by decide) (by rfl) (pa_cons (pv 0) (pa_cons (pv 1) (pa_cons (pv 2) (pa_cons (pv 3) pa_nil))))) (pg_tupK (K := K) (n := 2) rfl (pgs_cons (pg_name (i := 4) sc__law_three.nd rfl (by first | exact Or.inl rfl | exact Or.inr rfl)) (pgs_cons (pg_name (i := 5) sc__law_three.nd rfl (by first | exact Or.inl rfl | exact Or.inr rfl)) pgs_nil))))
      (pss_cons (ps_set (i := 6) sc__law_three.nd rfl (by first | exact Or.inl rfl | exact Or.inr rfl) (pe_lst (pa_cons (pe_mk m_Cup hr (by decide) (by rfl) lets0 (pa_cons (pv 4) pa_nil)) (pa_cons (pe_mk m_Cup hr (by decide) (by rfl) lets0 (pa_cons (pv 4) pa_nil)) (pa_cons (pe_mk m_Cup hr (by decide) (by rfl) lets0 (pa_cons (pv 4) pa_nil)) pa_nil)))))
      (pss_cons (ps_set (i := 7) sc__law_three.nd rfl (by first | exact Or.inl rfl | exact Or.inr rfl) (pe_lst (pa_cons pe_dnewK (pa_cons pe_dnewK (pa_cons pe_dnewK pa_nil)))))
      (pss_cons (ps_for PassesOwn.never rfl (pi_listK (K := K) (pv 5)) (pg_name (i := 8) sc__law_three.nd rfl (by first | exact Or.inl rfl | exact Or.inr rfl)) (pss_cons (ps_expr (pe_k c__law_done hr (by decide) (by rfl) (pa_cons (pv 6) (pa_cons (pv 8) pa_nil))))
      (pss_one (ps_expr (pe_k c__law_come hr (by decide) (by rfl) (pa_cons (pv 7) (pa_cons (pv 8) pa_nil)))))))
      (pss_one (ps_ret (pe_tup (pa_cons (pv 6) (pa_cons (pv 7) pa_nil)))))))))⟩
/-- _law_alone -/
noncomputable def rd__law_alone {f : Addr} {cdv : Value} {A : Around} {outer : List Env} {s : Shared} {H : Hp} {E : XK} {p : Addr × Obj} {D : Addr} (B : Bi mg) (held : Held p (.ref D) none) (hot : L2H.Hot1 A p) (hE : ExcC K D) (x_BadKeep : ExcK K mg "BadKeep" C_BadKeep) (x_BadReading : ExcK K mg "BadReading" C_BadReading) (x_BadTimes : ExcK K mg "BadTimes" C_BadTimes) (x_NoPlace : ExcK K mg "NoPlace" C_NoPlace) (x_UnlikeCups : ExcK K mg "UnlikeCups" C_UnlikeCups) (x_NoReadings : ExcK K mg "NoReadings" C_NoReadings) (x_NoCups : ExcK K mg "NoCups" C_NoCups) (x_RankError : ExcK K mg "RankError" C_RankError) : { t : TS // PSs (L2H.cxH CX0 P w K mg base N__law_alone "_law_alone" (defScope s__law_alone) f cdv A outer s H E p) (defBody s__law_alone) t } := ⟨_, (pss_cons (ps_set (i := 1) sc__law_alone.nd rfl (by first | exact Or.inl rfl | exact Or.inr rfl) (pe_lst (pa_cons (pe_callB (call_isH hE (List.mem_singleton.mpr rfl) held.1.zc held.2) (by rfl) B.z_isinstance (by decide +kernel) (pa_cons (pv 0) (pa_cons (pe_glob (v := .ref C_BadKeep) (by rfl) x_BadKeep.g rfl) pa_nil))) (pa_cons (pe_callB (call_isH hE (List.mem_singleton.mpr rfl) held.1.zc held.2) (by rfl) B.z_isinstance (by decide +kernel) (pa_cons (pv 0) (pa_cons (pe_glob (v := .ref C_BadReading) (by rfl) x_BadReading.g rfl) pa_nil))) (pa_cons (pe_callB (call_isH hE (List.mem_singleton.mpr rfl) held.1.zc held.2) (by rfl) B.z_isinstance (by decide +kernel) (pa_cons (pv 0) (pa_cons (pe_glob (v := .ref C_BadTimes) (by rfl) x_BadTimes.g rfl) pa_nil))) (pa_cons (pe_callB (call_isH hE (List.mem_singleton.mpr rfl) held.1.zc held.2) (by rfl) B.z_isinstance (by decide +kernel) (pa_cons (pv 0) (pa_cons (pe_glob (v := .ref C_NoPlace) (by rfl) x_NoPlace.g rfl) pa_nil))) pa_nil))))))
      (pss_cons (ps_set (i := 1) sc__law_alone.nd rfl (by first | exact Or.inl rfl | exact Or.inr rfl) (pe_op op_cat (pv 1) (pe_lst (pa_cons (pe_callB (call_isH hE (List.mem_singleton.mpr rfl) held.1.zc held.2) (by rfl) B.z_isinstance (by decide +kernel) (pa_cons (pv 0) (pa_cons (pe_glob (v := .ref C_UnlikeCups) (by rfl) x_UnlikeCups.g rfl) pa_nil))) (pa_cons (pe_callB (call_isH hE (List.mem_singleton.mpr rfl) held.1.zc held.2) (by rfl) B.z_isinstance (by decide +kernel) (pa_cons (pv 0) (pa_cons (pe_glob (v := .ref C_NoReadings) (by rfl) x_NoReadings.g rfl) pa_nil))) (pa_cons (pe_callB (call_isH hE (List.mem_singleton.mpr rfl) held.1.zc held.2) (by rfl) B.z_isinstance (by decide +kernel) (pa_cons (pv 0) (pa_cons (pe_glob (v := .ref C_NoCups) (by rfl) x_NoCups.g rfl) pa_nil))) pa_nil))))))
      (pss_one (ps_ret (pe_and (pe_cmpR op_eq (pe_callB (call_lenK (K := K)) (by rfl) B.z_len (by decide +kernel) (pa_cons (pe_lcH (own := [("_law_one", 2)]) (hot_def hot) sc__law_alone.nd (pv 1) (blkOk_by (own := [("_law_one", 2)]) (N := N__law_alone) (sc := defScope s__law_alone) (by decide +kernel)) (fun _ _ _ _ _ => (pg_name (i := 2) sc__law_alone.nd rfl (by first | exact Or.inl rfl | exact Or.inr rfl))) (fun _ _ _ _ _ => (pts_one (pt_val (pv 2)))) (fun _ _ _ _ _ => (pv 2))) pa_nil)) pe_int (nomark _)) (pe_and (pe_callB (call_isH hE (List.mem_singleton.mpr rfl) held.1.zc held.2) (by rfl) B.z_isinstance (by decide +kernel) (pa_cons (pv 0) (pa_cons (pe_glob (v := .ref C_RankError) (by rfl) x_RankError.g rfl) pa_nil))) (pe_one (pe_callB (call_isH hE (List.mem_singleton.mpr rfl) held.1.zc held.2) (by rfl) B.z_isinstance (by decide +kernel) (pa_cons (pv 0) (pa_cons (pe_bltn (v := .ty "ValueError") (by rfl) B.z_ValueError (by decide +kernel) rfl) pa_nil))))))))))⟩
/-- _law_greatest -/
noncomputable def rd__law_greatest {f : Addr} {cdv : Value} {A : Around} {outer : List Env} {s : Shared} {H : Hp} {E : XK} (B : Bi mg) (hr : Room 1 (A.deeper (envOfC "_law_greatest" (defScope s__law_greatest) s.heap.objs.size f cdv))) (c__law_less : CalK P w K mg base 1 "_law_less" (lpLess K)) : { t : TS // PSs (cxOf CX0 P w K mg base N__law_greatest "_law_greatest" (defScope s__law_greatest) f cdv A outer s H E).nox (defBody s__law_greatest) t } := ⟨_, (pss_cons (ps_set (i := 2) sc__law_greatest.nd rfl (by first | exact Or.inl rfl | exact Or.inr rfl) pe_int)
      (pss_cons (ps_set (i := 3) sc__law_greatest.nd rfl (by first | exact Or.inl rfl | exact Or.inr rfl) (pe_callB (cr_sumK (K := K) rfl) (by rfl) B.z_sum (by decide +kernel) (pa_cons (pe_lock (pe_lc (own := [("_law_one", 7)]) rfl sc__law_greatest.nd (pi_keys (pv 0)) (blkOk_by (own := [("_law_one", 7)]) (N := N__law_greatest) (sc := defScope s__law_greatest) (by decide +kernel)) (fun _ _ _ _ _ => (pg_name (i := 7) sc__law_greatest.nd rfl (by first | exact Or.inl rfl | exact Or.inr rfl))) (fun _ _ _ _ _ => pts_nil) (fun _ _ _ _ _ => (pe_dget (hu_of hr) (pv 0) (pv 7) (fun _ _ => rfl))))) pa_nil)))
      (pss_cons (ps_set (i := 4) sc__law_greatest.nd rfl (by first | exact Or.inl rfl | exact Or.inr rfl) (pe_callB (cr_sumK (K := K) rfl) (by rfl) B.z_sum (by decide +kernel) (pa_cons (pe_lock (pe_lc (own := [("_law_one", 7)]) rfl sc__law_greatest.nd (pi_keys (pv 1)) (blkOk_by (own := [("_law_one", 7)]) (N := N__law_greatest) (sc := defScope s__law_greatest) (by decide +kernel)) (fun _ _ _ _ _ => (pg_name (i := 7) sc__law_greatest.nd rfl (by first | exact Or.inl rfl | exact Or.inr rfl))) (fun _ _ _ _ _ => pts_nil) (fun _ _ _ _ _ => (pe_dget (hu_of hr) (pv 1) (pv 7) (fun _ _ => rfl))))) pa_nil)))
      (pss_cons (ps_for PassesOwn.never rfl (pi_listK (K := K) (pe_op op_cat (pe_callTy (call_listD rfl) (by rfl) B.z_list (by decide +kernel) (pa_cons (pv 0) pa_nil)) (pe_callTy (call_listD rfl) (by rfl) B.z_list (by decide +kernel) (pa_cons (pv 1) pa_nil)))) (pg_name (i := 5) sc__law_greatest.nd rfl (by first | exact Or.inl rfl | exact Or.inr rfl)) (pss_one (ps_for PassesOwn.never rfl (pi_listK (K := K) (pe_lst (pa_cons (pv 5) (pa_cons (pe_op op_add (pv 5) pe_int) pa_nil)))) (pg_name (i := 6) sc__law_greatest.nd rfl (by first | exact Or.inl rfl | exact Or.inr rfl)) (pss_one (ps_set (i := 2) sc__law_greatest.nd rfl (by first | exact Or.inl rfl | exact Or.inr rfl) (pe_callB (call_max2 rfl) (by rfl) B.z_max (by decide +kernel) (pa_cons (pv 2) (pa_cons (pe_callB call_abs (by rfl) B.z_abs (by decide +kernel) (pa_cons (pe_op op_sub (pe_op op_mulW (pe_k c__law_less hr (by decide) (by rfl) (pa_cons (pv 0) (pa_cons (pv 6) pa_nil))) (pv 4)) (pe_op op_mulW (pe_k c__law_less hr (by decide) (by rfl) (pa_cons (pv 1) (pa_cons (pv 6) pa_nil))) (pv 3))) pa_nil)) pa_nil))))))))
      (pss_one (ps_ret (pv 2)))))))⟩
/-- _law_refused -/
noncomputable def rd__law_refused {f : Addr} {cdv : Value} {A : Around} {outer : List Env} {s : Shared} {H : Hp} {E : XK} (B : Bi mg) (hr : Room 11 (A.deeper (envOfC "_law_refused" (defScope s__law_refused) s.heap.objs.size f cdv))) (x_NoReadings : ExcK K mg "NoReadings" C_NoReadings) (c_apart : CalN P w K mg base 11 "apart" (cpApart R T C_NoReadings)) (c__law_alone : CalE P w K mg base 1 "_law_alone" (lpAlone K [C_BadKeep, C_BadReading, C_BadTimes, C_NoPlace, C_UnlikeCups, C_NoReadings, C_NoCups] C_RankError)) : { t : TS // PSs (cxOf CX0 P w K mg base N__law_refused "_law_refused" (defScope s__law_refused) f cdv A outer s H E).nox (defBody s__law_refused) t } := ⟨_, (pss_cons (ps_try_clauses rfl rfl sc__law_refused.nd takes0N (fun W pn xe tk _ => (pss_one (ps_expr (pe_n c_apart hr (by decide) (by rfl) (letsW tk) (pa_cons (pv 0) (pa_cons (pv 1) pa_nil)))))) (.cons (i := 2) rfl rfl ⟨rfl, by decide, .inl x_NoReadings.g⟩ (fun a oe cls d pn hz hf => (pss_one (ps_ret (pe_callE (a := a) (oe := oe) (cls := cls) (d := d) c__law_alone (roomM (hr.mono (by decide))) ⟨hz, hf⟩ (hot_suite hz hf) (by rfl) (pa_cons (pv 2) pa_nil))))) .nil))
      (pss_one (ps_ret pe_bl)))⟩
/-- _law_right -/
noncomputable def rd__law_right {f : Addr} {cdv : Value} {A : Around} {outer : List Env} {s : Shared} {H : Hp} {E : XK} (B : Bi mg) (hr : Room 12 (A.deeper (envOfC "_law_right" (defScope s__law_right) s.heap.objs.size f cdv))) (c__law_refused : CalK P w K mg base 12 "_law_refused" (lpRef13 R T)) (c__law_off : CalK P w K mg base 1 "_law_off" lpOff) (c__law_greatest : CalK P w K mg base 2 "_law_greatest" lpGreatest) (c_apart : CalN P w K mg base 11 "apart" (cpApart R T C_NoReadings)) (c__law_pair_right : CalK P w K mg base 1 "_law_pair_right" lpPairRight) : { t : TS // PSs (cxOf CX0 P w K mg base N__law_right "_law_right" (defScope s__law_right) f cdv A outer s H E).nox (defBody s__law_right) t } := ⟨_, (pss_cons (ps_if (PW.pt (pw_or (pt_not (pt_truth (pv 1) (by intro _; rfl))) (pw_or1 (pt_not (pt_truth (pv 3) (by intro _; rfl)))))) (pss_one (ps_ret (pe_and (pe_k c__law_refused hr (by decide) (by rfl) (pa_cons (pv 0) (pa_cons (pv 2) pa_nil))) (pe_one (pe_k c__law_refused hr (by decide) (by rfl) (pa_cons (pv 2) (pa_cons (pv 0) pa_nil))))))) pss_nil)
      (pss_cons (ps_set (i := 4) sc__law_right.nd rfl (by first | exact Or.inl rfl | exact Or.inr rfl) (pe_lst (pa_cons (pe_callB (cr_sumK (K := K) rfl) (by rfl) B.z_sum (by decide +kernel) (pa_cons (pe_lock (pe_lc (own := [("_law_reading_here", 7)]) rfl sc__law_right.nd (pi_keys (pv 1)) (blkOk_by (own := [("_law_reading_here", 7)]) (N := N__law_right) (sc := defScope s__law_right) (by decide +kernel)) (fun _ _ _ _ _ => (pg_name (i := 7) sc__law_right.nd rfl (by first | exact Or.inl rfl | exact Or.inr rfl))) (fun _ _ _ _ _ => pts_nil) (fun _ _ _ _ _ => (pe_dget (hu_of hr) (pv 1) (pv 7) (fun _ _ => rfl))))) pa_nil)) (pa_cons (pe_callB (cr_sumK (K := K) rfl) (by rfl) B.z_sum (by decide +kernel) (pa_cons (pe_lock (pe_lc (own := [("_law_reading_here", 7)]) rfl sc__law_right.nd (pi_keys (pv 3)) (blkOk_by (own := [("_law_reading_here", 7)]) (N := N__law_right) (sc := defScope s__law_right) (by decide +kernel)) (fun _ _ _ _ _ => (pg_name (i := 7) sc__law_right.nd rfl (by first | exact Or.inl rfl | exact Or.inr rfl))) (fun _ _ _ _ _ => pts_nil) (fun _ _ _ _ _ => (pe_dget (hu_of hr) (pv 3) (pv 7) (fun _ _ => rfl))))) pa_nil)) pa_nil))))
      (pss_cons (ps_set (i := 5) sc__law_right.nd rfl (by first | exact Or.inl rfl | exact Or.inr rfl) (pe_op op_add (pe_op op_mulW (pe_k c__law_off hr (by decide) (by rfl) (pa_cons (pe_ix (ix_listK (K := K)) (pv 4) pe_int (fun _ _ => rfl)) (pa_cons (pe_fldK (K := K) (pv 0)) pa_nil))) (pe_ix (ix_listK (K := K)) (pv 4) pe_int (fun _ _ => rfl))) (pe_op op_mulW (pe_k c__law_off hr (by decide) (by rfl) (pa_cons (pe_ix (ix_listK (K := K)) (pv 4) pe_int (fun _ _ => rfl)) (pa_cons (pe_fldK (K := K) (pv 2)) pa_nil))) (pe_ix (ix_listK (K := K)) (pv 4) pe_int (fun _ _ => rfl)))))
      (pss_cons (ps_set (i := 6) sc__law_right.nd rfl (by first | exact Or.inl rfl | exact Or.inr rfl) (pe_k c__law_greatest hr (by decide) (by rfl) (pa_cons (pv 1) (pa_cons (pv 3) pa_nil))))
      (pss_one (ps_ret (pe_and (pe_k c__law_pair_right hr (by decide) (by rfl) (pa_cons (pe_n c_apart hr (by decide) (by rfl) lets0 (pa_cons (pv 0) (pa_cons (pv 2) pa_nil))) (pa_cons (pv 6) (pa_cons (pv 5) pa_nil)))) (pe_one (pe_k c__law_pair_right hr (by decide) (by rfl) (pa_cons (pe_n c_apart hr (by decide) (by rfl) lets0 (pa_cons (pv 2) (pa_cons (pv 0) pa_nil))) (pa_cons (pv 6) (pa_cons (pv 5) pa_nil))))))))))))⟩
/-- law -/
noncomputable def rd_law {f : Addr} {cdv : Value} {A : Around} {outer : List Env} {s : Shared} {H : Hp} {E : XK} (B : Bi mg) (hr : Room 13 (A.deeper (envOfC "law" (defScope s_law) s.heap.objs.size f cdv))) (gd : A.guards = some []) (c__law_three : CalK P w K mg base 12 "_law_three" (lpThreeI K R T)) (c__law_cell : CalK P w K mg base 1 "_law_cell" (lpCell K)) (c__law_keep : CalK P w K mg base 1 "_law_keep" lpKeep) (m_Cup : MakN P w K mg base 3 "Cup" C_Cup (apInit R T C_Cup C_BadKeep)) (c__law_times : CalK P w K mg base 2 "_law_times" lpTimes) (c__law_reading : CalK P w K mg base 2 "_law_reading" lpReading) (c__law_done : CalK P w K mg base 11 "_law_done" (lpDone4 R T)) (c__law_come : CalK P w K mg base 1 "_law_come" (lpCome4 K)) (c_Cup_kept : MetN P w K mg base 10 C_Cup "kept" (apKeptP R T)) (c__law_right : CalK P w K mg base 13 "_law_right" (lpRight13 R T)) : { t : TS // PSs (cxOf CX0 P w K mg base N_law "law" (defScope s_law) f cdv A outer s H E).nox (defBody s_law) t } := ⟨_, (pss_cons (ps_asg (pe_k c__law_three hr (by decide) (by rfl) (pa_cons (pv 0) (pa_cons pe_int (pa_cons pe_int (pa_cons pe_bl pa_nil))))) (pg_tupK (K := K) (n := 2) rfl (pgs_cons (pg_name (i := 1) sc_law.nd rfl (by first | exact Or.inl rfl | exact Or.inr rfl)) (pgs_cons (pg_name (i := 2) sc_law.nd rfl (by first | exact Or.inl rfl | exact Or.inr rfl)) pgs_nil))))
      (pss_cons (ps_set (i := 3) sc_law.nd rfl (by first | exact Or.inl rfl | exact Or.inr rfl) (pe_k c__law_keep hr (by decide) (by rfl) (pa_cons (pe_k c__law_cell hr (by decide) (by rfl) (pa_cons (pv 0) (pa_cons pe_int pa_nil))) pa_nil)))
      (pss_cons (ps_expr (pe_bm PySem.F.plainAttrs_list PySem.F.slot_list_append PySem.F.type_list_append mt_append (pv 1) (pa_cons (pe_mk m_Cup hr (by decide) (by rfl) lets0 (pa_cons (pv 3) pa_nil)) pa_nil)))
      (pss_cons (ps_expr (pe_bm PySem.F.plainAttrs_list PySem.F.slot_list_append PySem.F.type_list_append mt_append (pv 2) (pa_cons pe_dnewK pa_nil)))
      (pss_cons (ps_for PassesOwn.never rfl (pi_range1 (by rfl) B.z_range (pa_cons (pe_op op_mod (pe_op op_fdiv (pe_k c__law_cell hr (by decide) (by rfl) (pa_cons (pv 0) (pa_cons pe_int pa_nil))) pe_int) pe_int) pa_nil)) (pg_name (i := 4) sc_law.nd rfl (by first | exact Or.inl rfl | exact Or.inr rfl)) (pss_cons (ps_set (i := 5) sc_law.nd rfl (by first | exact Or.inl rfl | exact Or.inr rfl) (pe_k c__law_cell hr (by decide) (by rfl) (pa_cons (pv 0) (pa_cons (pe_op op_add pe_int (pv 4)) pa_nil))))
      (pss_cons (ps_expr (pe_k c__law_done hr (by decide) (by rfl) (pa_cons (pv 1) (pa_cons (pe_tup (pa_cons pe_int (pa_cons (pe_k c__law_reading hr (by decide) (by rfl) (pa_cons (pv 5) pa_nil)) (pa_cons pe_int (pa_cons pe_int (pa_cons (pe_k c__law_times hr (by decide) (by rfl) (pa_cons (pv 5) (pa_cons pe_bl pa_nil))) pa_nil)))))) pa_nil))))
      (pss_one (ps_expr (pe_k c__law_come hr (by decide) (by rfl) (pa_cons (pv 2) (pa_cons (pe_tup (pa_cons pe_int (pa_cons (pe_k c__law_reading hr (by decide) (by rfl) (pa_cons (pv 5) pa_nil)) (pa_cons pe_int (pa_cons pe_int (pa_cons (pe_k c__law_times hr (by decide) (by rfl) (pa_cons (pv 5) (pa_cons pe_bl pa_nil))) pa_nil)))))) pa_nil))))))))
      (pss_cons (ps_set (i := 6) sc_law.nd rfl (by first | exact Or.inl rfl | exact Or.inr rfl) (pe_callB (call_reprD gd hr.units) (by rfl) B.z_repr (by decide +kernel) (pa_cons (pe_lc (own := [("_law_cup", 9)]) rfl sc_law.nd (pi_listK (K := K) (pv 1)) (blkOk_by (own := [("_law_cup", 9)]) (N := N_law) (sc := defScope s_law) (by decide +kernel)) (fun _ _ _ _ _ => (pg_name (i := 9) sc_law.nd rfl (by first | exact Or.inl rfl | exact Or.inr rfl))) (fun _ _ _ _ _ => pts_nil) (fun _ _ _ _ _ => (pe_m0 c_Cup_kept hr (by decide) lets0 (pv 9)))) pa_nil)))
      (pss_cons (ps_for PassesOwn.never rfl (pi_range1 (by rfl) B.z_range (pa_cons pe_int pa_nil)) (pg_name (i := 7) sc_law.nd rfl (by first | exact Or.inl rfl | exact Or.inr rfl)) (pss_one (ps_for PassesOwn.never rfl (pi_range1 (by rfl) B.z_range (pa_cons (pe_op op_add (pv 7) pe_int) pa_nil)) (pg_name (i := 8) sc_law.nd rfl (by first | exact Or.inl rfl | exact Or.inr rfl)) (pss_one (ps_if (pt_not (pt_val (pe_k c__law_right hr (by decide) (by rfl) (pa_cons (pe_ix (ix_listK (K := K)) (pv 1) (pv 7) (fun _ _ => rfl)) (pa_cons (pe_ix (ix_listK (K := K)) (pv 2) (pv 7) (fun _ _ => rfl)) (pa_cons (pe_ix (ix_listK (K := K)) (pv 1) (pv 8) (fun _ _ => rfl)) (pa_cons (pe_ix (ix_listK (K := K)) (pv 2) (pv 8) (fun _ _ => rfl)) pa_nil))))))) (pss_one (ps_ret pe_bl)) pss_nil)))))
      (pss_cons (ps_if (pt_cmpR op_ne (pe_callB (call_reprD gd hr.units) (by rfl) B.z_repr (by decide +kernel) (pa_cons (pe_lc (own := [("_law_cup", 9)]) rfl sc_law.nd (pi_listK (K := K) (pv 1)) (blkOk_by (own := [("_law_cup", 9)]) (N := N_law) (sc := defScope s_law) (by decide +kernel)) (fun _ _ _ _ _ => (pg_name (i := 9) sc_law.nd rfl (by first | exact Or.inl rfl | exact Or.inr rfl))) (fun _ _ _ _ _ => pts_nil) (fun _ _ _ _ _ => (pe_m0 c_Cup_kept hr (by decide) lets0 (pv 9)))) pa_nil)) (pv 6) (nomark _)) (pss_one (ps_ret pe_bl)) pss_nil)
      (pss_cons (ps_expr (pe_k c__law_done hr (by decide) (by rfl) (pa_cons (pv 1) (pa_cons (pe_tup (pa_cons pe_int (pa_cons pe_int (pa_cons pe_int (pa_cons pe_int (pa_cons pe_int pa_nil)))))) pa_nil))))
      (pss_cons (ps_expr (pe_k c__law_come hr (by decide) (by rfl) (pa_cons (pv 2) (pa_cons (pe_tup (pa_cons pe_int (pa_cons pe_int (pa_cons pe_int (pa_cons pe_int (pa_cons pe_int pa_nil)))))) pa_nil))))
      (pss_cons (ps_expr (pe_k c__law_done hr (by decide) (by rfl) (pa_cons (pv 1) (pa_cons (pe_tup (pa_cons pe_int (pa_cons pe_int (pa_cons pe_int (pa_cons pe_int (pa_cons pe_int pa_nil)))))) pa_nil))))
      (pss_cons (ps_expr (pe_k c__law_come hr (by decide) (by rfl) (pa_cons (pv 2) (pa_cons (pe_tup (pa_cons pe_int (pa_cons pe_int (pa_cons pe_int (pa_cons pe_int (pa_cons pe_int pa_nil)))))) pa_nil))))
      (pss_one (ps_ret (pe_k c__law_right hr (by decide) (by rfl) (pa_cons (pe_ix (ix_listK (K := K)) (pv 1) pe_int (fun _ _ => rfl)) (pa_cons (pe_ix (ix_listK (K := K)) (pv 2) pe_int (fun _ _ => rfl)) (pa_cons (pe_ix (ix_listK (K := K)) (pv 1) pe_int (fun _ _ => rfl)) (pa_cons (pe_ix (ix_listK (K := K)) (pv 2) pe_int (fun _ _ => rfl)) pa_nil)))))))))))))))))))⟩
end
end K13

namespace K13
open PySem PySem.Spec PyProof.Rows L2 Own LamX
local macro_rules | `(tactic| walk_at "i") => `(tactic| first
  | refine ⟨_, rfl, ?_⟩
  | refine ⟨_, _, rfl, rfl, (by show (0 : Int) < _; decide), ?_⟩
  | refine ⟨_, _, rfl, rfl, ⟨by decide, by decide⟩, ?_⟩
  | refine ⟨_, _, rfl, rfl, ⟨by decide, by decide, by decide⟩, ?_⟩
  | refine ⟨_, _, rfl, rfl, .inr ⟨by decide, by decide⟩, ?_⟩
  | refine ⟨_, _, rfl, rfl, .inl ⟨by decide, by decide⟩, ?_⟩
  | refine ⟨_, _, rfl, rfl, ?_⟩)
section
variable {P : Program} {w : World} {K : PySem.W.Frag} {mg : Str → Option Value} {base : Heap} {f : Addr} {fd : FuncData} {R : CupRel} {T : List (Addr × Str)} {C_Cup C_BadKeep C_BadReading C_BadTimes C_UnlikeCups C_NoPlace C_NoReadings C_NoCups C_RankError : Addr}
theorem ok_exact (F : Fun K "exact" "exact" s_exact f fd) (B : Bi mg) : FnOk P w K mg base CX0 1 f fd ["row"] (cpExact K) := by
  refine F.ok sc_exact (fun vs H Q E h => ?_) (fun cdv A outer s H vs Q E hr h => ⟨_, (rd_exact B hr).2, ?_⟩)
  · obtain ⟨a, ns, rfl, _⟩ := h
    rfl
  · obtain ⟨a, ns, rfl, hS, hlen, q⟩ := h
    refine ⟨_, rfl, a, ns, rfl, hS, fun ms p hperm hsort hp => ?_⟩
    obtain rfl : ms = srtI ns := srt_uniq (hperm.trans (srtI_perm ns).symm) hsort (srtI_sorted ns)
    have hl : (srtI ns).length ≤ 20000 := by rw [hperm.length_eq]; exact hlen
    generalize srtI ns = ms at hperm hsort hl q
    refine ⟨p, _, rfl, .inl (.inl upd_same), fun L hL => lc_it (walk_enum (xs := ms.map V.int))
      (fun i H' => Same H H' ∧ H' p = some (.lst (ms.map V.int)) ∧ ∃ xs, H' L = some (.lst xs) ∧ New H xs ∧ EntsAre H' xs ((exactE ms).take i)) ⟨(same_upd hp).trans (same_upd hL), ?_, _, upd_same, New.nil, .nil⟩ (fun i H' _ h => .inl (.inl h.2.1)) ?_ ?_⟩
    · rw [upd_ne (ne_of_none upd_same hL)]
      exact upd_same
    · intro i x H1 H2 hi h y
      obtain ⟨s1, hp1, xs, hL1, hn, he⟩ := h
      obtain ⟨T, x1, x2, rfl, hT, rfl, f1, f2⟩ := y
      have g1 : x1 = .int (i : Int) := (Option.some.inj f1).symm
      subst g1
      rw [List.length_map] at hi
      have g2 : x2 = .int ms[i] := by
        have f2 : (List.map V.int ms)[i]? = some x2 := f2
        rw [List.getElem?_map, List.getElem?_eq_getElem hi] at f2
        exact (Option.some.inj f2).symm
      subst g2
      refine ⟨T, [.int (i : Int), .int ms[i]], rfl, .inl (.inl upd_same), rfl, _, _, rfl, _, _, rfl, rfl, rfl, ?_⟩
      iterate 3 walk_at "i"
      refine ⟨by show 3 ≤ sizeLine; decide, fun u hu => ?_⟩
      have sT : Same H1 (upd H1 T (.tup [.int (i : Int), .int ms[i]])) := same_upd hT
      have sU := sT.trans (same_upd (o := .tup [.int ms[i], .int (i : Int), .int (i : Int)]) hu)
      have hL2 := sU _ _ hL1
      have hLn : H L = none := (same_upd (o := HO.lst (ms.map V.int)) hp).free hL
      refine ⟨xs, hL2, ?_, same_mut (s1.trans sU) hLn, ?_, _, upd_same, hn.snoc (s1.free (sT.free hu)), ?_⟩
      · rw [he.length, List.length_take]
        exact Nat.lt_of_le_of_lt (Nat.min_le_left _ _) (small20 (by omega))
      · rw [upd_ne (ne_of_none upd_same hL)]
        exact sU _ _ hp1
      · rw [List.take_add_one, exactE_get (List.getElem?_eq_getElem hi)]
        exact eachIs_snoc ((EntsAre.same sU he).upd hL2) (EntAt.upd hL2 ⟨u, rfl, upd_same⟩)
    · intro H' h
      obtain ⟨s1, hp1, xs, hL1, hn, he⟩ := h
      rw [List.length_map, List.take_of_length_le (by rw [exactE_length]; exact Nat.le_refl _)] at he
      exact q H' L xs s1 ((same_upd (o := HO.lst (ms.map V.int)) hp).free hL) hn hL1 he
theorem ok_no_less (F : Fun K "_first_no_less" "_first_no_less" s__first_no_less f fd) (B : Bi mg) : FnOk P w K mg base CX0 1 f fd ["entries", "reading"] cpNoLess := by
  refine F.ok sc__first_no_less (fun vs H Q E h => ?_) (fun cdv A outer s H vs Q E hr h => ⟨_, (rd__first_no_less B hr).2, ?_⟩)
  · obtain ⟨a, xs, es, r, rfl, _⟩ := h
    rfl
  · obtain ⟨a, xs, es, r, rfl, ha, he, hrise, hlen, q⟩ := h
    have hl := he.length
    refine ⟨_, rfl, a, xs, rfl, .inl (.inl (.inl ha)), ?_⟩
    refine ⟨fun m σ H1 => ∃ lo hi : Nat, m = hi - lo ∧ lo ≤ hi ∧ hi ≤ es.length ∧ (∃ y, σ = [some (.ref a), some (.int r), some (.int (lo : Int)), some (.int (hi : Int)), y]) ∧ H1 = H ∧ (∀ i e, es[i]? = some e → i < lo → e.1 < r) ∧ (∀ i e, es[i]? = some e → hi ≤ i → r ≤ e.1),
      ⟨_, 0, es.length, rfl, Nat.zero_le _, Nat.le_refl _, ⟨none, by rw [← hl]; rfl⟩, rfl, fun i e _ h => absurd h (Nat.not_lt_zero i), fun i e h k => ?_⟩, ?_⟩
    · have := (List.getElem?_eq_some_iff.mp h).1
      omega
    · rintro m σ H1 ⟨lo, hi, rfl, hlh, hhl, ⟨y, rfl⟩, rfl, hlo, hhi⟩
      refine ⟨_, rfl, _, rfl, _, _, rfl, rfl, _, rfl, ite2 (fun c => ?_) (fun c => ?_)⟩
      · have c1 : (lo : Int) < (hi : Int) := of_decide_eq_true c
        refine ⟨_, fun σ' H' h => h, ?_⟩
        iterate 4 walk_at "i"
        have hm : ((lo : Int) + (hi : Int)) / 2 = (((lo + hi) / 2 : Nat) : Int) := by omega
        have hmi : (lo + hi) / 2 < es.length := by omega
        obtain ⟨v, hv, t, rfl, ht⟩ := eachIs_get2 he (List.getElem?_eq_getElem hmi)
        refine ⟨_, rfl, _, rfl, a, xs, _, _, rfl, rfl, .inl (.inl ha), at_of hm hv, ?_⟩
        refine ⟨t, _, _, _, rfl, rfl, .inl (.inl ht), atI_nat (j := 0) rfl, ?_⟩
        refine ⟨_, rfl, _, _, rfl, rfl, _, rfl, ite2 (fun c => ?_) (fun c => ?_)⟩
        · have c2 : es[(lo + hi) / 2].1 < r := of_decide_eq_true c
          iterate 2 walk_at "i"
          refine ⟨hi - ((lo + hi) / 2 + 1), by omega, (lo + hi) / 2 + 1, hi, rfl, by omega, hhl, ⟨some (.int (((lo : Int) + (hi : Int)) / 2)), ?_⟩, rfl, fun i e h k => ?_, hhi⟩
          · rw [show (((lo + hi) / 2 + 1 : Nat) : Int) = ((lo : Int) + (hi : Int)) / 2 + 1 by omega]
            rfl
          · have := rise_get hrise (show i ≤ (lo + hi) / 2 by omega) h (List.getElem?_eq_getElem hmi)
            omega
        · have c2 : ¬ es[(lo + hi) / 2].1 < r := fun z => c (decide_eq_true z)
          walk_at "i"
          refine ⟨(lo + hi) / 2 - lo, by omega, lo, (lo + hi) / 2, rfl, by omega, by omega, ⟨some (.int (((lo : Int) + (hi : Int)) / 2)), ?_⟩, rfl, hlo, fun i e h k => ?_⟩
          · rw [← hm]
            rfl
          · have := rise_get hrise k (List.getElem?_eq_getElem hmi) h
            omega
      · have c1 : ¬ (lo : Int) < (hi : Int) := fun z => c (decide_eq_true z)
        have : lo = hi := by omega
        subst this
        rw [CutAt.eq ⟨hhl, hlo, hhi⟩] at q
        exact ⟨_, rfl, q⟩
theorem ok_least_less (F : Fun K "_least_less" "_least_less" s__least_less f fd) (B : Bi mg) (cn : CalK P w K mg base 1 "_first_no_less" cpNoLess) : FnOk P w K mg base CX0 2 f fd ["entries", "reading"] cpLeastLess := by
  refine F.ok sc__least_less (fun vs H Q E h => ?_) (fun cdv A outer s H vs Q E hr h => ⟨_, (rd__least_less B hr cn).2, ?_⟩)
  · obtain ⟨a, xs, es, r, rfl, _⟩ := h
    rfl
  · obtain ⟨a, xs, es, r, rfl, ha, he, hrise, hlen, q⟩ := h
    iterate 2 walk_at "i"
    have hle := (cut_of hrise r).le
    refine ⟨a, xs, es, r, rfl, ha, he, hrise, hlen, ?_⟩
    generalize noLess es r = n at q hle ⊢
    walk_at "i"
    refine ⟨rfl, _, rfl, ite2 (fun z => ?_) (fun z => ?_)⟩
    · have z1 : (n : Int) = 0 := V.int.inj (of_decide_eq_true z)
      have z2 : n = 0 := by omega
      subst z2
      exact q
    · have z1 : ¬ n = 0 := fun y => z (decide_eq_true (by rw [y]; rfl))
      have hn : n - 1 < es.length := by omega
      obtain ⟨v, hv, t, rfl, ht⟩ := eachIs_get2 he (List.getElem?_eq_getElem hn)
      iterate 3 walk_at "i"
      refine ⟨a, xs, _, _, rfl, rfl, .inl (.inl ha), at_of (j := n - 1) (by omega) hv, ?_⟩
      refine ⟨t, _, _, _, rfl, rfl, .inl (.inl ht), atI_nat (j := 1) rfl, ?_⟩
      refine ⟨_, _, rfl, rfl, ?_⟩
      have e := loC_succ (List.getElem?_eq_getElem hn)
      rw [show n - 1 + 1 = n by omega] at e
      rw [e] at q
      exact q
theorem ok_most_less (F : Fun K "_most_less" "_most_less" s__most_less f fd) (B : Bi mg) (cn : CalK P w K mg base 1 "_first_no_less" cpNoLess) : FnOk P w K mg base CX0 2 f fd ["entries", "many", "reading"] cpMostLess := by
  refine F.ok sc__most_less (fun vs H Q E h => ?_) (fun cdv A outer s H vs Q E hr h => ⟨_, (rd__most_less B hr cn).2, ?_⟩)
  · obtain ⟨a, xs, es, many, r, rfl, _⟩ := h
    rfl
  · obtain ⟨a, xs, es, many, r, rfl, ha, he, hrise, hlen, q⟩ := h
    have hl := he.length
    iterate 2 walk_at "i"
    have hle := (cut_of hrise r).le
    refine ⟨a, xs, es, r, rfl, ha, he, hrise, hlen, ?_⟩
    generalize noLess es r = n at q hle ⊢
    iterate 2 walk_at "i"
    refine ⟨a, xs, rfl, .inl (.inl (.inl ha)), rfl, _, rfl, ite2 (fun z => ?_) (fun z => ?_)⟩
    · have z1 : (n : Int) = (xs.length : Int) := V.int.inj (of_decide_eq_true z)
      rw [upC_end (by omega)] at q
      exact ⟨_, rfl, q⟩
    · have z1 : ¬ n = xs.length := fun y => z (decide_eq_true (by rw [y]))
      have hn : n < es.length := by omega
      obtain ⟨v, hv, t, rfl, ht⟩ := eachIs_get2 he (List.getElem?_eq_getElem hn)
      iterate 2 walk_at "i"
      refine ⟨a, xs, _, _, rfl, rfl, .inl (.inl ha), atI_nat (j := n) hv, ?_⟩
      refine ⟨t, _, _, _, rfl, rfl, .inl (.inl ht), atI_nat (j := 2) rfl, ?_⟩
      rw [upC_some (List.getElem?_eq_getElem hn)] at q
      exact q
theorem ok_lifted (F : Fun K "_lifted" "_lifted" s__lifted f fd) (B : Bi mg) (cm : CalK P w K mg base 2 "_most_less" cpMostLess) (cl : CalK P w K mg base 2 "_least_less" cpLeastLess) : FnOk P w K mg base CX0 3 f fd ["entries", "others", "more"] cpLifted := by
  refine F.ok sc__lifted (fun vs H Q E h => ?_) (fun cdv A outer s H vs Q E hr h => ⟨_, (rd__lifted B hr cm cl).2, ?_⟩)
  · obtain ⟨a, b, xs, ys, es, fs, more, rfl, _⟩ := h
    rfl
  · obtain ⟨a, b, xs, ys, es, fs, more, rfl, ha, hb, he, hf, hrise, hlen, hlen2, q⟩ := h
    have hl := he.length
    refine ⟨_, rfl, a, rfl, ⟨xs, .inl (.inl ha)⟩, fun L hL => lc_list (xs := xs) (fun i H' => Same H H' ∧ ∃ zs, H' L = some (.lst zs) ∧ New H zs ∧ EntsAre H' zs ((liftE es fs more).take i)) ⟨same_upd hL, _, upd_same, New.nil, .nil⟩ (fun i H' _ h => .inl (.inl (h.1 _ _ ha))) ?_ ?_⟩
    · rintro i x H1 hi ⟨s1, zs, hL1, hn, hz⟩
      obtain ⟨e, hie, t, rfl, ht⟩ := eachIs_get he hi
      have ht1 := s1 _ _ ht
      refine ⟨t, _, rfl, .inl (.inl ht1), rfl, _, _, rfl, _, _, rfl, _, _, rfl, rfl, rfl, ?_⟩
      iterate 5 walk_at "i"
      refine ⟨b, ys, fs, e.1 + 1, rfl, s1 _ _ hb, EntsAre.same s1 hf, hrise, hlen2, ?_⟩
      rw [← addLeast_lo hrise]
      iterate 5 walk_at "i"
      refine ⟨b, ys, fs, more, e.1, rfl, s1 _ _ hb, EntsAre.same s1 hf, hrise, hlen2, ?_⟩
      rw [← addMost_up hrise]
      walk_at "i"
      refine ⟨by show 3 ≤ sizeLine; decide, fun u hu => ?_⟩
      have s2 := same_upd (o := .tup [.int e.1, .int (e.2.1 + addLeast fs e.1), .int (e.2.2 + addMost fs e.1 more)]) hu
      have hL2 := s2 _ _ hL1
      have hil : i < es.length := (List.getElem?_eq_some_iff.mp hie).1
      refine ⟨zs, hL2, ?_, same_mut (s1.trans s2) hL, _, upd_same, hn.snoc (s1.free hu), ?_⟩
      · rw [hz.length, List.length_take]
        exact Nat.lt_of_le_of_lt (Nat.min_le_left _ _) (small20 (by omega))
      · have eg : (liftE es fs more)[i]? = some (e.1, e.2.1 + addLeast fs e.1, e.2.2 + addMost fs e.1 more) := by
          unfold liftE
          rw [List.getElem?_map, hie]
          rfl
        rw [List.take_add_one, eg]
        exact eachIs_snoc ((EntsAre.same s2 hz).upd hL2) (EntAt.upd hL2 ⟨u, rfl, upd_same⟩)
    · rintro H1 ⟨s1, zs, hL1, hn, hz⟩
      rw [hl, List.take_of_length_le (by unfold liftE; rw [List.length_map]; exact Nat.le_refl _)] at hz
      exact q H1 L zs s1 hL hn hL1 hz
theorem ok_joined {c Pt : Addr} (hmT : (Pt, lamQ "joined") ∈ T) (hu : ∀ p ∈ T, p.1 = Pt → p.2 = lamQ "joined") (F : FunC K "joined" "joined" s_joined f fd c) (TB : TabB base mg c Pt) (B : Bi mg) (cl : CalK P w K mg base 3 "_lifted" cpLifted) : FnOk P w K mg base CX0 5 f fd ["ones", "many", "others", "more"] (cpJoined T) := by
  refine F.ok sc_joined (fun vs H Q E h => ?_) (fun A outer s H vs Q E hr h => ⟨_, (rd_joined TB hmT hu B hr cl).2, ?_⟩)
  · obtain ⟨a, b, xs, ys, es, fs, many, more, rfl, _⟩ := h
    rfl
  · obtain ⟨a, b, xs, ys, es, fs, many, more, rfl, hT, ha, hb, he, hf, hre, hrf, hle, hlf, q⟩ := h
    iterate 3 walk_at "i"
    refine ⟨a, b, xs, ys, es, fs, more, rfl, ha, hb, he, hf, hrf, hle, hlf, fun H1 p1 z1 s1 n1 w1 e1 hz1 => ?_⟩
    iterate 3 walk_at "i"
    refine ⟨b, a, ys, xs, fs, es, many, rfl, s1 _ _ hb, s1 _ _ ha, EntsAre.same s1 hf, EntsAre.same s1 he, hre, hlf, hle, fun H2 p2 z2 s2 n2 w2 e2 hz2 => ?_⟩
    have l1 := hz1.length
    have l2 := hz2.length
    rw [liftE_length] at l1 l2
    refine ⟨p1, p2, z1, z2, rfl, rfl, s2 _ _ e1, e2, ?_, fun p3 n3 => ?_⟩
    · rw [l1, l2]
      exact Nat.le_trans (Nat.add_le_add hle hlf) (by decide)
    have s3 := same_upd (o := .lst (z1 ++ z2)) n3
    have hz : EntsAre (upd H2 p3 (.lst (z1 ++ z2))) (z1 ++ z2) (liftE es fs more ++ liftE fs es many) := EntsAre.same s3 (eachIs_append (EntsAre.same s2 hz1) hz2)
    have s123 := (s1.trans s2).trans s3
    have wn : New H (z1 ++ z2) := w1.app (w2.back s1)
    refine ⟨_, rfl, hT.ext s123, p3, z1 ++ z2, fstOf (upd H2 p3 (.lst (z1 ++ z2))), rfl, .inl (.inl upd_same), hz.fsts, fun H4 p4 e4 T4 n4 h4 => ?_⟩
    refine q H4 p4 _ ((ExtN.of s123).trans e4) T4 ?_ ?_ h4 (hz.sorted.ext e4)
    · intro o e
      exact n4 o (s123 _ _ e)
    · intro v hv t e
      exact NewN.of (wn v ((List.mergeSort_perm _ _).mem_iff.mp hv) t e)
theorem ok_halved (F : Fun K "halved" "halved" s_halved f fd) (B : Bi mg) : FnOk P w K mg base CX0 1 f fd ["entries"] (cpHalved K) := by
  refine F.ok sc_halved (fun vs H Q E h => ?_) (fun cdv A outer s H vs Q E hr h => ⟨_, (rd_halved B hr).2, ?_⟩)
  · obtain ⟨a, xs, rfl, _⟩ := h
    rfl
  · obtain ⟨a, xs, rfl, hS, q⟩ := h
    exact ⟨_, rfl, a, xs, rfl, hS, fun p hp => q _ p (same_upd hp) hp upd_same⟩
theorem ok_ahead_of (F : Fun K "ahead_of" "ahead_of" s_ahead_of f fd) (B : Bi mg) (cm : CalK P w K mg base 2 "_most_less" cpMostLess) (cl : CalK P w K mg base 2 "_least_less" cpLeastLess) : FnOk P w K mg base CX0 3 f fd ["entries", "many", "reading"] cpAheadOf := by
  refine F.ok sc_ahead_of (fun vs H Q E h => ?_) (fun cdv A outer s H vs Q E hr h => ⟨_, (rd_ahead_of B hr cm cl).2, ?_⟩)
  · obtain ⟨a, xs, es, many, r, rfl, _⟩ := h
    rfl
  · obtain ⟨a, xs, es, many, r, rfl, ha, he, hrise, hlen, q⟩ := h
    iterate 2 walk_at "i"
    refine ⟨a, xs, es, r, rfl, ha, he, hrise, hlen, ?_⟩
    iterate 3 walk_at "i"
    refine ⟨a, xs, es, many, r, rfl, ha, he, hrise, hlen, ?_⟩
    refine ⟨by show 2 ≤ sizeLine; decide, fun p hp => ?_⟩
    exact q _ p (same_upd hp) hp upd_same
theorem ok_is_whole (F : Fun K "is_whole" "is_whole" s_is_whole f fd) (B : Bi mg) : FnOk P w K mg base CX0 1 f fd ["value", "least", "most"] cpWhole := by
  refine F.ok sc_is_whole (fun vs H Q E h => ?_) (fun cdv A outer s H vs Q E hr h => ⟨_, (rd_is_whole B hr).2, ?_⟩)
  · obtain ⟨v, lo, hi, rfl, _⟩ := h
    rfl
  · obtain ⟨v, lo, hi, rfl, h⟩ := h
    rcases h with ⟨i, rfl, h1, h2, q⟩ | ⟨hb, q⟩
    · refine ⟨_, rfl, _, _, _, _, true, rfl, .ty _, .base (.int _), kit_ty (by decide +kernel), true, rfl, iteT ?_⟩
      refine ⟨_, rfl, _, _, _, _, false, rfl, .ty _, .base (.int _), kit_ty (by decide +kernel), _, rfl, true, rfl, iteT ?_⟩
      refine ⟨_, rfl, _, rfl, _, _, rfl, rfl, _, rfl, ?_⟩
      rw [decide_eq_true h1]
      refine iteT ⟨_, rfl, _, _, rfl, rfl, ?_⟩
      show Q (.bl (decide (i ≤ hi))) H
      rw [decide_eq_true h2]
      exact q
    · rcases hb with ⟨i, rfl, hn⟩ | ⟨b, rfl⟩ | rfl | ⟨z, rfl⟩ | ⟨p, xs, rfl, hp⟩ | ⟨p, xs, rfl, hp⟩
      · refine ⟨_, rfl, _, _, _, _, true, rfl, .ty _, .base (.int _), kit_ty (by decide +kernel), true, rfl, iteT ?_⟩
        refine ⟨_, rfl, _, _, _, _, false, rfl, .ty _, .base (.int _), kit_ty (by decide +kernel), _, rfl, true, rfl, iteT ?_⟩
        refine ⟨_, rfl, _, rfl, _, _, rfl, rfl, _, rfl, ite2 (fun c => ?_) (fun c => ?_)⟩
        · have c1 : lo ≤ i := of_decide_eq_true c
          refine ⟨_, rfl, _, _, rfl, rfl, ?_⟩
          show Q (.bl (decide (i ≤ hi))) H
          rw [decide_eq_false (fun z => hn ⟨c1, z⟩)]
          exact q
        · exact q
      · refine ⟨_, rfl, _, _, _, _, true, rfl, .ty _, .base (.bl _), kit_ty (by decide +kernel), true, rfl, iteT ?_⟩
        refine ⟨_, rfl, _, _, _, _, true, rfl, .ty _, .base (.bl _), kit_ty (by decide +kernel), _, rfl, false, rfl, iteF ?_⟩
        exact q
      · refine ⟨_, rfl, _, _, _, _, false, rfl, .ty _, .base .non, kit_ty (by decide +kernel), false, rfl, iteF ?_⟩
        exact q
      · refine ⟨_, rfl, _, _, _, _, false, rfl, .ty _, .base (.str _), kit_ty (by decide +kernel), false, rfl, iteF ?_⟩
        exact q
      · refine ⟨_, rfl, _, _, _, _, false, rfl, .ty _, .base (.lst hp), kit_ty (by decide +kernel), false, rfl, iteF ?_⟩
        exact q
      · refine ⟨_, rfl, _, _, _, _, false, rfl, .ty _, .base (.tup hp), kit_ty (by decide +kernel), false, rfl, iteF ?_⟩
        exact q
theorem ok_check_reading (x : ExcK K mg "BadReading" C_BadReading) (F : Fun K "check_reading" "check_reading" s_check_reading f fd) (B : Bi mg) (cw : CalK P w K mg base 1 "is_whole" cpWhole) : FnOk P w K mg base (L2N.CX P w) 2 f fd ["value"] (cpReading C_BadReading) := by
  refine okN F sc_check_reading (fun vs H Q E h => ?_) (fun cdv A outer s H vs Q E hr h => ⟨_, (rd_check_reading B hr x cw).2, ?_⟩)
  · obtain ⟨v, rfl, _⟩ := h
    rfl
  · obtain ⟨v, rfl, h⟩ := h
    iterate 2 walk_at "i"
    rcases h with ⟨i, rfl, ⟨h1, h2⟩, q⟩ | ⟨hb, q⟩
    · refine ⟨_, _, _, rfl, .inl ⟨_, rfl, h1, h2, _, rfl, iteF ?_⟩⟩
      exact q
    · refine ⟨_, _, _, rfl, .inr ⟨hb, _, rfl, iteT ?_⟩⟩
      exact q

theorem ok_ones (F : Fun K "_ones" "_ones" s__ones f fd) (B : Bi mg) : FnOk P w K mg base CX0 1 f fd ["number"] cpOnes := by
  refine F.ok sc__ones (fun vs H Q E h => ?_) (fun cdv A outer s H vs Q E hr h => ⟨_, (rd__ones B hr).2, ?_⟩)
  · obtain ⟨q, rfl, _⟩ := h
    rfl
  · obtain ⟨n, rfl, hn, q⟩ := h
    have hb : n < 2 ^ (Builtin.Int.intBits (n : Int)) := by
      have := (PySem.intBits_le_iff (m := Builtin.Int.intBits (n : Int)) (x := (n : Int))).mp (Nat.le_refl _)
      simpa using this
    have hb2 : Builtin.Int.intBits (n : Int) ≤ 1000 := (PySem.intBits_le_iff).mpr (by simpa using hn)
    rw [← ones_filter _ n 0 hb] at q
    refine ⟨_, rfl, (n : Int), rfl, ?_⟩
    generalize Builtin.Int.intBits (n : Int) = m at hb hb2 q ⊢
    refine ⟨(m : Int), rfl, by omega, by omega, fun D hD => lc_range (lo := 0) (n := ((m : Int)).toNat) (fun i H' => Same H H' ∧ H' D = some (.lst (((List.range i).filter fun i => decide (n / 2 ^ i % 2 = 1)).map fun (j : Nat) => V.int (j : Int)))) ⟨same_upd hD, upd_same⟩ ?_ ?_⟩
    · rintro i H' hi ⟨s1, h1⟩
      have hi : i < m := by omega
      rw [show ((0 : Int) + (i : Int)) = (i : Int) from Int.zero_add _]
      refine ⟨rfl, _, rfl, _, rfl, _, _, rfl, rfl, by omega, _, _, rfl, rfl, by show (0 : Int) < 2; decide, ?_⟩
      have e1 : (n : Int) / 2 ^ ((i : Int)).toNat % 2 = ((n / 2 ^ i % 2 : Nat) : Int) := by
        rw [Int.toNat_natCast]
        simp
      have hf : (List.range (i + 1)).filter (fun i => decide (n / 2 ^ i % 2 = 1)) = (List.range i).filter (fun i => decide (n / 2 ^ i % 2 = 1)) ++ [i].filter (fun i => decide (n / 2 ^ i % 2 = 1)) := by
        rw [List.range_succ, List.filter_append]
      refine ⟨rfl, _, rfl, ite2 (fun c => ?_) (fun c => ?_)⟩
      · have c1 : (n : Int) / 2 ^ ((i : Int)).toNat % 2 = 1 := vint_eq c
        have c2 : n / 2 ^ i % 2 = 1 := by omega
        refine ⟨_, rfl, _, h1, ?_, same_mut s1 hD, ?_⟩
        · rw [List.length_map]
          have := List.length_filter_le (fun i => decide (n / 2 ^ i % 2 = 1)) (List.range i)
          rw [List.length_range] at this
          exact small20 (by omega)
        · rw [upd_same, hf, List.map_append]
          simp [c2]
      · have c1 : ¬ (n : Int) / 2 ^ ((i : Int)).toNat % 2 = 1 := vint_ne c
        have c2 : ¬ n / 2 ^ i % 2 = 1 := by omega
        refine ⟨s1, ?_⟩
        rw [hf, h1]
        simp [c2]
    · rintro H' ⟨s1, h1⟩
      refine q H' D s1 hD ?_
      rw [h1]
      simp
theorem ok_like_block (ck : CupK K C_Cup) (F : Fun K "_like_block" "Cup._like_block" s_Cup__like_block f fd) (B : Bi mg) : FnOk P w K mg base CX0 1 f fd ["self", "place", "reading"] (cpLike C_Cup) := by
  refine F.ok sc_Cup__like_block (fun vs H Q E h => ?_) (fun cdv A outer s H vs Q E hr h => ⟨_, (rd_Cup__like_block B hr).2, ?_⟩)
  · obtain ⟨a, dx, l, d, k, n, loose, bs, j, x, rfl, _⟩ := h
    rfl
  · obtain ⟨a, dx, l, d, k, n, loose, bs, j, x, rfl, c, hj, q⟩ := h
    have k1 := c.k1
    have k64 := c.k64
    refine ⟨_, rfl, _, rfl, a, C_Cup, dx, _, _, rfl, c.ins, ck.cl, ck.keep, rfl, _, rfl, _, _, rfl, rfl, ⟨by omega, by omega, ?_⟩, _, _, rfl, rfl, ?_⟩
    · show ((k : Int)).natAbs < 2 ^ 64
      omega
    refine ⟨by show 3 ≤ sizeLine; decide, fun t ht => ⟨by show 1 ≤ sizeLine; decide, fun L hL => ?_⟩⟩
    have e1 : (k : Int) * 2 ^ ((j : Int)).toNat = ((k * 2 ^ j : Nat) : Int) := by
      rw [Int.toNat_natCast]
      simp
    rw [e1] at hL ⊢
    have s1 := same_upd (o := .tup [.int x, .int (((k * 2 ^ j : Nat) : Int) - 1), .int 0]) ht
    have s2 := s1.trans (same_upd (o := .lst [.ref t]) hL)
    have c2 := s2 _ _ c.ins
    refine ⟨_, rfl, a, C_Cup, dx, _, _, rfl, c2, ck.cl, ck.keep, rfl, L, (k : Int), [.ref t], rfl, rfl, upd_same, by omega, by omega, ?_, fun p hp => ?_⟩
    · show 1 * ((k : Int)).toNat ≤ sizeLine
      rw [Int.toNat_natCast]
      exact Nat.le_trans (show 1 * k ≤ 64 by omega) (by decide)
    have s3 := s2.trans (same_upd (o := .lst (List.replicate ((k : Int)).toNat [V.ref t]).flatten) hp)
    refine q _ p t s3 (s2.free hp) ht ?_ ?_
    · exact (same_upd hp) _ _ ((same_upd hL) _ _ upd_same)
    · rw [upd_same, Int.toNat_natCast]
      congr 2
      generalize k = m
      induction m with
      | zero => rfl
      | succ m ih =>
        rw [List.replicate_succ, List.flatten_cons, ih, List.replicate_succ]
        rfl
theorem ok_parts (ck : CupK K C_Cup) (F : Fun K "_parts" "Cup._parts" s_Cup__parts f fd) (B : Bi mg) (ce : CalK P w K mg base 1 "exact" (cpExact K)) : FnOk P w K mg base CX0 2 f fd ["self"] (cpParts C_Cup) := by
  refine F.ok sc_Cup__parts (fun vs H Q E h => ?_) (fun cdv A outer s H vs Q E hr h => ⟨_, (rd_Cup__parts B hr ce).2, ?_⟩)
  · obtain ⟨a, dx, l, d, k, n, loose, bs, rfl, _⟩ := h
    rfl
  · obtain ⟨a, dx, l, d, k, n, loose, bs, rfl, c, hsm, q⟩ := h
    have k1 := c.k1
    have k64 := c.k64
    have few := c.few
    have bfew := blocks_few k1 c.ok c.nd hsm
    refine ⟨_, rfl, a, C_Cup, dx, _, _, rfl, c.ins, ck.cl, ck.loose, rfl, l, loose, rfl, .inl (.inl c.lo), by omega, fun H1 pe xe s1 ne we he ee => ?_⟩
    refine ⟨_, rfl, a, C_Cup, dx, _, _, rfl, s1 _ _ c.ins, ck.cl, ck.loose, rfl, l, _, rfl, .inl (.inl (.inl (s1 _ _ c.lo))), ?_⟩
    refine ⟨by show 2 ≤ sizeLine; decide, fun t ht => ⟨by show 1 ≤ sizeLine; decide, fun L hL => ?_⟩⟩
    rw [List.length_map] at hL ⊢
    have s2 := s1.trans (same_upd (o := .tup [.ref pe, .int (loose.length : Int)]) ht)
    have s3 := s2.trans (same_upd (o := .lst [.ref t]) hL)
    have hLn : H L = none := s2.free hL
    have htt := (same_upd (o := HO.lst [V.ref t]) hL) _ _ (show (upd H1 t (.tup [.ref pe, .int (loose.length : Int)])) t = some (.tup [.ref pe, .int (loose.length : Int)]) from upd_same)
    refine ⟨_, rfl, a, C_Cup, dx, _, _, rfl, s3 _ _ c.ins, ck.cl, ck.blocks, rfl, d, kvB bs, bs.map fun B => (B.j : Int), rfl, .inl (s3 _ _ c.di), kvB_keys bs, fun ys qa hperm hsort hqa => ?_⟩
    have hys := sort_keys c.nd hperm hsort
    subst hys
    have s4 := s3.trans (same_upd (o := .lst (((sortB bs).map fun B => (B.j : Int)).map V.int)) hqa)
    have hqn : qa ≠ L := fun z => by rw [z, upd_same] at hqa; cases hqa
    refine ⟨qa, rfl, ⟨_, .inl (.inl upd_same)⟩, for_list (K := K) (a := qa) (xs := ((sortB bs).map fun B => (B.j : Int)).map V.int) (fun i σ H' => ∃ y ts, σ = [some (.ref a), some (.ref L), y] ∧ Same H H' ∧ H' L = some (.lst (ts.map V.ref)) ∧ H' qa = some (.lst (((sortB bs).map fun B => (B.j : Int)).map V.int)) ∧ PySem.W.EachIs (PartA L H') ts ((partsC loose bs).take (i + 1)))
      ⟨none, [t], rfl, s4, ?_, upd_same, ?_⟩ (fun i σ H' _ ⟨_, _, _, _, _, h, _⟩ => .inl (.inl h)) ?_ ?_⟩
    · rw [upd_ne (Ne.symm hqn)]
      exact upd_same
    · refine .cons ⟨pe, xe, ne_of_none ((same_upd ht) _ _ he) hL, (same_upd hqa) _ _ htt, (same_upd hqa) _ _ ((same_upd hL) _ _ ((same_upd ht) _ _ he)), EntsAre.same (((same_upd ht).trans (same_upd hL)).trans (same_upd hqa)) ee⟩ .nil
    · rintro i y σ H' hi ⟨y2, ts, rfl, s5, hL5, hq5, hp5⟩
      have hil : i < (sortB bs).length := by
        have := (List.getElem?_eq_some_iff.mp hi).1
        rw [List.length_map, List.length_map] at this
        exact this
      have hBm : (sortB bs)[i] ∈ bs := (sortB_perm bs).mem_iff.mp (List.getElem_mem hil)
      have hB : (sortB bs)[i]? = some (sortB bs)[i] := List.getElem?_eq_getElem hil
      generalize (sortB bs)[i] = Bi at hBm hB
      obtain rfl : y = .int (Bi.j : Int) := by
        rw [List.getElem?_map, List.getElem?_map, hB] at hi
        exact (Option.some.inj hi).symm
      have bj := (c.ok Bi hBm).small k1 (row_flat hBm) hsm
      refine ⟨_, rfl, .inl ⟨rfl, _, .inl (.inl hL5)⟩, ?_⟩
      refine ⟨_, rfl, a, C_Cup, dx, _, _, rfl, s5 _ _ c.ins, ck.cl, ck.blocks, rfl, _, rfl, d, V.ref Bi.a, rfl, ?_, ?_⟩
      · rw [← kvB_some c.nd hBm]
        exact DGet.k (k := Sum.inl (Bi.j : Int)) (s5 _ _ c.di)
      refine ⟨_, rfl, a, C_Cup, dx, _, _, rfl, s5 _ _ c.ins, ck.cl, ck.keep, rfl, _, rfl, _, _, rfl, rfl, ⟨by omega, by omega, by omega⟩, ?_⟩
      have e1 : (k : Int) * 2 ^ ((Bi.j : Int)).toNat = (Bi.row.length : Int) := by
        rw [(c.ok Bi hBm).rowlen, Int.toNat_natCast]
        simp
      refine ⟨by show 2 ≤ sizeLine; decide, fun u hu => ?_⟩
      have s6 := same_upd (o := .tup [.ref Bi.a, .int ((k : Int) * 2 ^ ((Bi.j : Int)).toNat)]) hu
      have bat := c.at_ Bi hBm
      refine ⟨L, ts.map V.ref, _, rfl, rfl, s6 _ _ hL5, ?_, ?_⟩
      · rw [List.length_map, hp5.length]
        have := List.length_take_le (i + 1) (partsC loose bs)
        have := (sortB_perm bs).length_eq
        exact small20 (by omega)
      refine ⟨some (.int (Bi.j : Int)), ts ++ [u], rfl, same_mut (s5.trans s6) hLn, ?_, ?_, ?_⟩
      · rw [upd_same, List.map_append]
        rfl
      · rw [upd_ne hqn]
        exact s6 _ _ hq5
      · have ep : (partsC loose bs)[i + 1]? = some (partB Bi) := by
          show ((sortB bs).map partB)[i]? = _
          rw [List.getElem?_map, hB]
          rfl
        rw [List.take_add_one, ep]
        have h6 := s6 _ _ hL5
        refine eachIs_snoc (hp5.mono fun _ _ z => (z.same s6).upd h6) (PartA.upd h6 ⟨Bi.a, Bi.xs, ne_of_none bat.at_ hLn, ?_, s6 _ _ (s5 _ _ bat.at_), EntsAre.same (s5.trans s6) bat.ents⟩)
        show _ = some (HO.tup [.ref Bi.a, .int (Bi.row.length : Int)])
        rw [← e1]
        exact upd_same
    · rintro σ H' ⟨y2, ts, rfl, s5, hL5, hq5, hp5⟩
      refine ⟨_, rfl, q H' L ts s5 hLn hL5 ?_⟩
      rw [List.length_map, List.length_map, List.take_of_length_le] at hp5
      · exact hp5.mono fun _ _ z => z.part
      · show ((sortB bs).map partB).length + 1 ≤ _
        rw [List.length_map]
        exact Nat.le_refl _
theorem ok_add_block (ck : CupK K C_Cup) (F : Fun K "_add_block" "Cup._add_block" s_Cup__add_block f fd) (B : Bi mg) (cj : CalK P w K mg base 5 "joined" (cpJoined T)) (ch : CalK P w K mg base 1 "halved" (cpHalved K)) : FnOk P w K mg base CX0 7 f fd ["self", "place", "block"] (cpAddBlock T C_Cup) := by
  refine F.ok sc_Cup__add_block (fun vs H Q E h => ?_) (fun cdv A outer s H vs Q E hr h => ⟨_, (rd_Cup__add_block B hr cj ch).2, ?_⟩)
  · obtain ⟨a, dx, l, d, k, n, loose, bs, B0, rfl, _⟩ := h
    rfl
  · obtain ⟨a, dx, l, d, k, n, loose, bs, B0, rfl, hT, c, b0ok, b0at, b0l, hsm, q⟩ := h
    have k1 := c.k1
    have k64 := c.k64
    refine ⟨fun m σ H1 => ∃ bs1 B1 y3, m = bs1.length ∧ σ = [some (.ref a), some (.int (B1.j : Int)), some (.ref B1.a), y3] ∧ Tabs T H1 ∧ CupIn C_Cup H1 a dx l d k n loose bs1 ∧ BkOk k B1 ∧ BkAt H1 B1 ∧ B1.a ≠ l ∧
        (bs1.flatMap (·.row) ++ B1.row).Perm (bs.flatMap (·.row) ++ B0.row) ∧ Chg (fun b => b = d) H H1 ∧ (∀ b, bksD bs1 b → bksD bs b) ∧ (∀ b, bkD B1 b → bksD bs b ∨ bkD B0 b ∨ NewN H b),
      ⟨_, bs, B0, none, rfl, rfl, hT, c, b0ok, b0at, b0l, List.Perm.refl _, Chg.refl _ _, fun _ h => h, fun _ h => .inr (.inl h)⟩, ?_⟩
    rintro m σ H1 ⟨bs1, B1, y3, rfl, rfl, hT1, c1, b1ok, b1at, b1l, hperm, hch, hbs1, hB1⟩
    have hlen : (bs1.flatMap (·.row)).length + B1.row.length < 2 ^ 300 := by
      have := hperm.length_eq
      rw [List.length_append, List.length_append] at this
      omega
    have hj : B1.j < 300 := b1ok.small k1 (Nat.le_refl _) (by omega)
    have bfew := blocks_few k1 c1.ok c1.nd (by omega)
    refine ⟨_, rfl, _, rfl, a, C_Cup, dx, _, _, rfl, c1.ins, ck.cl, ck.blocks, rfl, d, _, rfl, DGet.k (k := Sum.inl (B1.j : Int)) c1.di, _, rfl, ?_⟩
    by_cases hin : B1.j ∈ bs1.map (·.j)
    · obtain ⟨A1, hA, hAj⟩ := kvB_has hin
      have hv := kvB_some c1.nd hA
      rw [hAj] at hv
      rw [hv]
      refine iteT ⟨_, fun σ' H' h => h, ?_⟩
      have a1ok := c1.ok A1 hA
      have a1at := c1.at_ A1 hA
      refine ⟨_, rfl, a, C_Cup, dx, _, _, rfl, c1.ins, ck.cl, ck.keep, rfl, _, rfl, _, _, rfl, rfl, ⟨by omega, by omega, by omega⟩, ?_⟩
      have e1 : (k : Int) * 2 ^ ((B1.j : Int)).toNat = ((k * 2 ^ B1.j : Nat) : Int) := by
        rw [Int.toNat_natCast]
        simp
      refine ⟨_, rfl, a, C_Cup, dx, _, _, rfl, c1.ins, ck.cl, ck.blocks, rfl, d, rfl, .inl ⟨_, .inl c1.di⟩, _, rfl, _, Sum.inl (B1.j : Int), _, c1.di, rfl, hv, ?_⟩
      rw [kvB_drop]
      have hT2 := tabs_dK (o' := .dK (kvB (bs1.filter fun A => decide (A.j ≠ B1.j)))) c1.di hT1
      have a2 := a1at.put (o := .dK (kvB (bs1.filter fun A => decide (A.j ≠ B1.j)))) c1.di
      have b2 := b1at.put (o := .dK (kvB (bs1.filter fun A => decide (A.j ≠ B1.j)))) c1.di
      have la : A1.es.length ≤ 20000 := by rw [a1ok.len]; omega
      have lb : B1.es.length ≤ 20000 := by rw [b1ok.len]; omega
      refine ⟨_, rfl, _, rfl, _, rfl, A1.a, B1.a, A1.xs, B1.xs, A1.es, B1.es, _, _, rfl, hT2, a2.at_, b2.at_, a2.ents, b2.ents, a1ok.ok.rise, b1ok.ok.rise, la, lb, fun H3 p3 zs e3 T3 n3 w3 h3 ez => ?_⟩
      refine ⟨p3, zs, rfl, .inl (.inl h3), fun H4 p4 s4 n4 h4 => ?_⟩
      rw [e1] at ez
      have nb2 := filter_nd c1.nd fun A => decide (A.j ≠ B1.j)
      have hper := filter_perm c1.nd hA
      rw [hAj] at hper
      have sub2 : ∀ X ∈ bs1.filter (fun A => decide (A.j ≠ B1.j)), X ∈ bs1 := fun X hX => (List.mem_filter.mp hX).1
      generalize hg : bs1.filter (fun A => decide (A.j ≠ B1.j)) = bs2 at hT2 a2 b2 e3 T3 n3 w3 h3 ez s4 n4 h4 nb2 hper sub2
      have e34 : ExtN (upd H1 d (.dK (kvB bs2))) H4 := e3.trans (ExtN.of s4)
      have k2 : ∀ (b : Addr) (o : HO), b ≠ d → H1 b = some o → (∀ ps, o ≠ .tbl ps) → H4 b = some o := fun b o hb e nt => e34 b o (by rw [upd_ne hb]; exact e) nt
      have nAd : a ≠ d := ne_of c1.ins c1.di (fun z => nomatch z)
      have nXd : dx ≠ d := ne_of c1.own c1.di (fun z => nomatch z)
      have nLd : l ≠ d := ne_of c1.lo c1.di (fun z => nomatch z)
      have a1' := a1ok
      have b1' := b1ok
      obtain ⟨jA, aA, xA, eA, rA⟩ := A1
      obtain ⟨jB, aB, xB, eB, rB⟩ := B1
      have hAj : jA = jB := hAj
      subst hAj
      have nok := BkOk.carry (c := p4) (zs := odds zs) a1' b1'
      have new4 : ∀ b, NewN (upd H1 d (.dK (kvB bs2))) b → NewN H1 b := fun b nb => by
        have hb := newN_not nb (d := d) upd_same (fun _ z => nomatch z)
        exact fun o e => nb o (by rw [upd_ne hb]; exact e)
      have dn : ∀ b, NewN (upd H1 d (.dK (kvB bs2))) b → b ≠ d := fun b nb => newN_not nb (d := d) upd_same (fun _ z => nomatch z)
      have newH : ∀ b, NewN (upd H1 d (.dK (kvB bs2))) b → NewN H b := fun b nb => newN_of hch (fun z => dn b nb z) (new4 b nb)
      have p4n : NewN (upd H1 d (.dK (kvB bs2))) p4 := newN_back2 e3 (NewN.of n4)
      refine ⟨_, rfl, _, _, rfl, rfl, bs2.length, ?_, bs2, ⟨jA + 1, p4, odds zs, _, rA ++ rB⟩, some (.int ((k : Int) * 2 ^ ((jA : Int)).toNat)), rfl, ?_, T3.ext s4, ?_, nok, ⟨h4, eachIs_odds (EntsAre.same s4 ez)⟩, ?_, ?_, ?_, ?_, ?_⟩
      · have e := hper.length_eq
        rw [List.length_append] at e
        simp only [List.length_singleton] at e
        omega
      · show _ = [some (V.ref a), some (V.int ((jA + 1 : Nat) : Int)), some (V.ref p4), some (V.int ((k : Int) * 2 ^ ((jA : Int)).toNat))]
        rw [show ((jA + 1 : Nat) : Int) = (jA : Int) + 1 by omega]
        rfl
      · exact ⟨k2 _ _ nAd c1.ins (fun _ z => nomatch z), k2 _ _ nXd c1.own (fun _ z => nomatch z), k2 _ _ nLd c1.lo (fun _ z => nomatch z), e34 _ _ upd_same (fun _ z => nomatch z), fun X hX => c1.ok X (sub2 X hX), fun X hX => ((c1.at_ X (sub2 X hX)).put c1.di).ext e34, nb2, fun X hX => c1.sep X (sub2 X hX), c1.k1, c1.k64, c1.few⟩
      · have l4 : H3 l = some (.lst (loose.map V.int)) := e3 l _ (by rw [upd_ne nLd]; exact c1.lo) (fun _ z => nomatch z)
        exact (ne_of_none l4 n4).symm
      · refine List.Perm.trans ?_ hperm
        have f := flat_perm hper
        rw [List.flatMap_append] at f
        rw [← List.append_assoc]
        refine List.Perm.append_right _ ?_
        simpa using f
      · exact hch.then (Chg.trans (Chg.upd (S := fun b => b = d) rfl) (Chg.of e34) fun _ z => .inl z)
      · rintro b ⟨X, hX, hb⟩
        exact hbs1 b ⟨X, sub2 X hX, hb⟩
      · rintro b (rfl | hb)
        · exact .inr (.inr (newH _ p4n))
        · exact .inr (.inr (newH _ (w3 _ (odds_mem hb) b rfl)))
    · rw [kvB_none hin]
      refine iteF ?_
      refine ⟨_, rfl, _, rfl, a, C_Cup, dx, _, _, rfl, c1.ins, ck.cl, ck.blocks, rfl, ?_⟩
      refine ⟨_, rfl, d, _, rfl, DPut.k (k := Sum.inl (B1.j : Int)) c1.di (small20 (by rw [List.length_map]; omega)), ?_⟩
      rw [kvB_put hin]
      have nAd : a ≠ d := ne_of c1.ins c1.di (fun z => nomatch z)
      have nXd : dx ≠ d := ne_of c1.own c1.di (fun z => nomatch z)
      have nLd : l ≠ d := ne_of c1.lo c1.di (fun z => nomatch z)
      refine q _ (bs1 ++ [B1]) (tabs_dK c1.di hT1) ?_ ?_ (hch.then (Chg.upd (S := fun b => b = d) rfl)) ?_
      · refine ⟨by rw [upd_ne nAd]; exact c1.ins, by rw [upd_ne nXd]; exact c1.own, by rw [upd_ne nLd]; exact c1.lo, upd_same, ?_, ?_, ?_, ?_, c1.k1, c1.k64, c1.few⟩
        · intro X hX
          rcases List.mem_append.mp hX with hX | hX
          · exact c1.ok X hX
          · rw [List.mem_singleton.mp hX]
            exact b1ok
        · intro X hX
          rcases List.mem_append.mp hX with hX | hX
          · exact (c1.at_ X hX).put c1.di
          · rw [List.mem_singleton.mp hX]
            exact b1at.put c1.di
        · rw [List.map_append]
          exact nd_snoc c1.nd hin
        · intro X hX
          rcases List.mem_append.mp hX with hX | hX
          · exact c1.sep X hX
          · rw [List.mem_singleton.mp hX]
            exact b1l
      · rw [List.flatMap_append]
        simpa using hperm
      · rintro b ⟨X, hX, hb⟩
        rcases List.mem_append.mp hX with hX | hX
        · exact .inl (hbs1 b ⟨X, hX, hb⟩)
        · rw [List.mem_singleton.mp hX] at hb
          exact hB1 b hb
theorem ok_add_loose (ck : CupK K C_Cup) (F : Fun K "_add_loose" "Cup._add_loose" s_Cup__add_loose f fd) (B : Bi mg) (ce : CalK P w K mg base 1 "exact" (cpExact K)) (cb : MetN P w K mg base 7 C_Cup "_add_block" (cpAddBlock T C_Cup)) : FnOk P w K mg base CX0 8 f fd ["self", "reading"] (cpAddLoose T C_Cup) := by
  refine F.ok sc_Cup__add_loose (fun vs H Q E h => ?_) (fun cdv A outer s H vs Q E hr h => ⟨_, (rd_Cup__add_loose B hr ce cb).2, ?_⟩)
  · obtain ⟨a, dx, l, d, k, n, loose, bs, x, rfl, _⟩ := h
    rfl
  · obtain ⟨a, dx, l, d, k, n, loose, bs, x, rfl, hT, c, hsm, q⟩ := h
    have k1 := c.k1
    have k64 := c.k64
    have few := c.few
    have nAl : a ≠ l := ne_of c.ins c.lo (fun z => nomatch z)
    have nXl : dx ≠ l := ne_of c.own c.lo (fun z => nomatch z)
    have nDl : d ≠ l := ne_of c.di c.lo (fun z => nomatch z)
    refine ⟨_, rfl, a, C_Cup, dx, _, _, rfl, c.ins, ck.cl, ck.loose, rfl, .inl ⟨rfl, _, .inl (.inl c.lo)⟩, _, rfl, l, _, _, rfl, rfl, c.lo, small20 (by rw [List.length_map]; omega), ?_⟩
    have e1 : loose.map V.int ++ [V.int x] = (loose ++ [x]).map V.int := by rw [List.map_append]; rfl
    rw [e1]
    generalize hH1 : upd H l (HO.lst ((loose ++ [x]).map V.int)) = H1
    have at1 : ∀ b, b ≠ l → H1 b = H b := fun b hb => by rw [← hH1, upd_ne hb]
    have lo1 : H1 l = some (.lst ((loose ++ [x]).map V.int)) := by rw [← hH1]; exact upd_same
    have hT1 : Tabs T H1 := by rw [← hH1]; exact tabs_lst c.lo hT
    have ch1 : Chg (BaseS a dx l d) H H1 := by rw [← hH1]; exact Chg.upd (.inr (.inr (.inl rfl)))
    have ins1 : H1 a = some (.ins C_Cup dx (fsC k n l d)) := by rw [at1 _ nAl]; exact c.ins
    have own1 : H1 dx = some (.own a) := by rw [at1 _ nXl]; exact c.own
    have di1 : H1 d = some (.dK (kvB bs)) := by rw [at1 _ nDl]; exact c.di
    have bat1 : ∀ B ∈ bs, BkAt H1 B := fun B hB => (c.at_ B hB).keep fun b o hb e => by
      rw [at1 b]
      · exact e
      · intro z
        exact c.apart b ⟨B, hB, hb⟩ (.inr (.inr (.inl z)))
    refine ⟨_, rfl, a, C_Cup, dx, _, _, rfl, ins1, ck.cl, ck.loose, rfl, l, _, rfl, .inl (.inl (.inl lo1)), ?_⟩
    refine ⟨_, rfl, a, C_Cup, dx, _, _, rfl, ins1, ck.cl, ck.keep, rfl, rfl, _, rfl, ite2 (fun z => ?_) (fun z => ?_)⟩
    · have hk : (loose ++ [x]).length = k := by
        have e := vint_eq z
        rw [List.length_map] at e
        omega
      refine ⟨_, rfl, a, C_Cup, dx, _, _, rfl, ins1, ck.cl, ck.loose, rfl, l, loose ++ [x], rfl, .inl (.inl lo1), by omega, fun H2 pe xe s2 ne we he ee => ?_⟩
      refine ⟨by show 0 ≤ sizeLine; decide, fun l2 hl2 => ?_⟩
      have s3 := s2.trans (same_upd (o := .lst []) hl2)
      have nl2 : ∀ {b : Addr} {o : HO}, H2 b = some o → b ≠ l2 := fun e => ne_of_none e hl2
      refine ⟨_, rfl, a, C_Cup, dx, _, rfl, s3 _ _ ins1, ck.cl, ck.loose, (by show 4 < 1000; decide), ?_⟩
      generalize hH4 : upd (upd H2 l2 (.lst [])) a (.ins C_Cup dx (putF "_loose" (.ref l2) (fsC k n l d))) = H4
      have at4 : ∀ (b : Addr) (o : HO), b ≠ a → b ≠ l2 → H2 b = some o → H4 b = some o := fun b o h1 h2 e => by rw [← hH4, upd_ne h1, upd_ne h2]; exact e
      have ins4 : H4 a = some (.ins C_Cup dx (fsC k n l2 d)) := by rw [← hH4]; exact upd_same
      have own4 : H4 dx = some (.own a) := at4 _ _ (ne_of c.own c.ins (fun z => nomatch z)) (nl2 (s2 _ _ own1)) (s2 _ _ own1)
      have di4 : H4 d = some (.dK (kvB bs)) := at4 _ _ (ne_of c.di c.ins (fun z => nomatch z)) (nl2 (s2 _ _ di1)) (s2 _ _ di1)
      have lo4 : H4 l2 = some (.lst []) := by
        rw [← hH4, upd_ne (Ne.symm (nl2 (s2 _ _ ins1)))]
        exact upd_same
      have old4 : H4 l = some (.lst ((loose ++ [x]).map V.int)) := at4 _ _ (Ne.symm nAl) (nl2 (s2 _ _ lo1)) (s2 _ _ lo1)
      have pe4 : H4 pe = some (.lst xe) := at4 _ _ (ne_of he (s2 _ _ ins1) (fun z => nomatch z)) (nl2 he) he
      have k4 : ∀ (B : Blk), BkAt H2 B → BkAt H4 B := fun B hB => hB.keep fun b o hb e => at4 _ _ (fun z => by
        rw [z] at hb
        rcases hb with e2 | hb
        · have := s2 _ _ ins1
          rw [e2, hB.at_] at this
          cases this
        · obtain ⟨t, e2, h1, h2, h3⟩ := hB.ents.refs _ hb
          cases h1
          rw [s2 _ _ ins1] at h3
          cases h3) (nl2 e) e
      have c4 : CupIn C_Cup H4 a dx l2 d k n [] bs :=
        ⟨ins4, own4, lo4, di4, c.ok, fun B hB => k4 B ((bat1 B hB).keep fun b o _ e => s2 _ _ e), c.nd, fun B hB => nl2 (s2 _ _ (bat1 B hB).at_), k1, k64, by show 0 < k; omega⟩
      have hT4 : Tabs T H4 := by
        rw [← hH4]
        exact tabs_ins (s3 _ _ ins1) (hT1.ext s3)
      have nb := BkOk.exact (k := k) hk pe xe
      have ch4 : Chg (BaseS a dx l d) H H4 := by
        rw [← hH4]
        exact (ch1.then (Chg.same s3)).then (Chg.upd (.inl rfl))
      have new4 : ∀ b, NewN H4 b → NewN H b := fun b nb => newN_of ch4 (fun z => by
        rcases z with z | z | z | z
        · exact newN_not nb ins4 (fun _ z => nomatch z) z
        · exact newN_not nb own4 (fun _ z => nomatch z) z
        · exact newN_not nb old4 (fun _ z => nomatch z) z
        · exact newN_not nb di4 (fun _ z => nomatch z) z) nb
      have none1 : ∀ b, H1 b = none → NewN H b := fun b hb => NewN.of (by
        by_cases z : b = l
        · rw [z, lo1] at hb
          cases hb
        · rw [← at1 b z]
          exact hb)
      refine ⟨_, rfl, a, dx, _, rfl, ins4, rfl, _, rfl, a, dx, l2, d, k, n, [], bs, ⟨0, pe, xe, _, loose ++ [x]⟩, rfl, hT4, c4, nb, k4 _ ⟨he, ee⟩, nl2 he, ?_, fun H5 bs5 T5 c5 p5 ch5 d5 => ?_⟩
      · show (bs.flatMap (·.row)).length + (loose ++ [x]).length < 2 ^ 300
        rw [List.length_append]
        simp only [List.length_singleton]
        omega
      · refine q H5 l2 [] bs5 T5 c5 ?_ (ch4.then (ch5.mono fun b hb => .inr (.inr (.inr hb)))) (.inr (NewN.of ?_)) fun b hb => ?_
        · rw [List.nil_append]
          refine p5.trans ?_
          show (bs.flatMap (·.row) ++ (loose ++ [x])).Perm _
          rw [← List.append_assoc]
          exact List.Perm.append_right _ List.perm_append_comm
        · have h1 := s2.free hl2
          by_cases z : l2 = l
          · rw [z, lo1] at h1
            cases h1
          · rw [← at1 l2 z]
            exact h1
        · rcases d5 b hb with h | h | h
          · exact .inl h
          · rcases h with rfl | h
            · exact .inr (none1 _ ne)
            · exact .inr (none1 _ (we _ h b rfl))
          · exact .inr (new4 b h)
    · have hk : loose.length + 1 < k := by
        have e := vint_ne z
        rw [List.length_map, List.length_append] at e
        simp only [List.length_singleton] at e
        omega
      refine q H1 l (loose ++ [x]) bs hT1 ⟨ins1, own1, lo1, di1, c.ok, bat1, c.nd, c.sep, k1, k64, by rw [List.length_append]; simpa using hk⟩ ?_ ch1 (.inl rfl) fun b h => .inl h
      rw [List.append_assoc, List.append_assoc]
      exact List.Perm.append_left _ List.perm_append_comm
theorem ok_count (ck : CupK K C_Cup) (F : Fun K "count" "Cup.count" s_Cup_count f fd) (B : Bi mg) : FnOk P w K mg base CX0 10 f fd ["self"] (apCount (CupRl C_Cup) T) := by
  refine F.ok sc_Cup_count (fun vs H Q E h => ?_) (fun cdv A outer s H vs Q E hr h => ⟨_, (rd_Cup_count B hr).2, ?_⟩)
  · obtain ⟨a, k, row, es, S, D, v, rfl, _⟩ := h
    rfl
  · obtain ⟨a, k, row, es, S, D, v, rfl, hT, hR, hn, h⟩ := h
    rcases h with ⟨z, _⟩ | ⟨_, q⟩
    · exact z.elim
    obtain ⟨dx, l, d, loose, bs, c, p, rfl, rfl, rfl⟩ := id hR
    exact ⟨_, rfl, a, C_Cup, dx, _, _, rfl, c.ins, ck.cl, ck.count, rfl, q H _ _ _ hT hR (Moves.refl _ _ _) rfl⟩
theorem ok_countP (ck : CupK K C_Cup) (F : Fun K "count" "Cup.count" s_Cup_count f fd) (B : Bi mg) : FnOk P w K mg base CX0 10 f fd ["self"] (apCountP (CupRl C_Cup) T) := by
  refine F.ok sc_Cup_count (fun vs H Q E h => ?_) (fun cdv A outer s H vs Q E hr h => ⟨_, (rd_Cup_count B hr).2, ?_⟩)
  · obtain ⟨a, k, row, es, S, D, rfl, _⟩ := h
    rfl
  · obtain ⟨a, k, row, es, S, D, rfl, hT, hR, hn, q⟩ := h
    obtain ⟨dx, l, d, loose, bs, c, p, rfl, rfl, rfl⟩ := id hR
    exact ⟨_, rfl, a, C_Cup, dx, _, _, rfl, c.ins, ck.cl, ck.count, rfl, q H _ hT (ExtN.refl _) rfl⟩
theorem ok_kept (ck : CupK K C_Cup) (F : Fun K "kept" "Cup.kept" s_Cup_kept f fd) (B : Bi mg) (cp : MetN P w K mg base 2 C_Cup "_parts" (cpParts C_Cup)) (cj : CalK P w K mg base 5 "joined" (cpJoined T)) : FnOk P w K mg base CX0 9 f fd ["self"] (apKept (CupRl C_Cup) T) := by
  refine F.ok sc_Cup_kept (fun vs H Q E h => ?_) (fun cdv A outer s H vs Q E hr h => ⟨_, (rd_Cup_kept B hr cp cj).2, ?_⟩)
  · obtain ⟨a, k, row, es, S, D, v, rfl, _⟩ := h
    rfl
  · obtain ⟨a, k, row, es, S, D, v, rfl, hT, hR, hn, h⟩ := h
    rcases h with ⟨z, _⟩ | ⟨_, q⟩
    · exact z.elim
    obtain ⟨dx, l, d, loose, bs, c, p, rfl, rfl, rfl⟩ := id hR
    have k1 := c.k1
    have k64 := c.k64
    have sz := sizes_of k1 c.ok c.nd c.few p
    have hb := sz.bnd c.ok
    have hb2 := bnd_small k1 k64 hn
    have hfl : (bs.flatMap (·.row)).length < 2 ^ 300 := by
      have e := p.length_eq
      rw [List.length_append] at e
      have : row.length < 2 ^ 300 := Nat.lt_of_lt_of_le hn (Nat.pow_le_pow_right (by decide) (by decide))
      omega
    refine ⟨by show 0 ≤ sizeLine; decide, fun L hL => ?_⟩
    have s0 := same_upd (o := .lst []) hL
    refine ⟨_, rfl, a, dx, _, rfl, s0 _ _ c.ins, rfl, a, dx, l, d, k, (row.length : Int), loose, bs, rfl, c.ext (ExtN.of s0), hfl, fun H1 pp ts s1 n1 hp1 hpa => ?_⟩
    have hT1 : Tabs T H1 := (hT.ext s0).ext s1
    have hl := hpa.length
    refine ⟨pp, rfl, ⟨_, .inl (.inl hp1)⟩, for_list (K := K) (a := pp) (xs := ts.map V.ref) (fun i σ H' => ∃ pe xs y3 y4, σ = [some (.ref a), some (.ref pe), some (.int (keepL ((partsC loose bs).take i)).2), y3, y4] ∧ ExtN H1 H' ∧ Tabs T H' ∧ H' pe = some (.lst xs) ∧ EntsAre H' xs (keepL ((partsC loose bs).take i)).1 ∧ NewN H pe ∧ (∀ v ∈ xs, ∀ t, v = .ref t → NewN H t))
      ⟨L, [], none, none, rfl, ExtN.refl _, hT1, s1 _ _ upd_same, .nil, NewN.of hL, fun v hv => absurd hv List.not_mem_nil⟩ (fun i σ H' _ ⟨_, _, _, _, _, e, _⟩ => .inl (.inl (e _ _ hp1 (fun _ z => nomatch z)))) ?_ ?_⟩
    · rintro i y σ H' hi ⟨pe, xs, y3, y4, rfl, e1, T1, h1, ent1, nw1, nx1⟩
      have hil : i < ts.length := by
        have := (List.getElem?_eq_some_iff.mp hi).1
        rwa [List.length_map] at this
      have ht : ts[i]? = some ts[i] := List.getElem?_eq_getElem hil
      generalize ts[i] = t at ht
      obtain rfl : y = .ref t := by
        rw [List.getElem?_map, ht] at hi
        exact (Option.some.inj hi).symm
      obtain ⟨q1, hq1, hq2⟩ := eachIs_get hpa ht
      obtain ⟨pa, ys, t1, t2, t3⟩ := hq2.ext e1
      have hqm := List.mem_of_getElem? hq1
      obtain ⟨pr1, pr2⟩ := keep_pre (k := k) (loose := loose) c.ok i
      refine ⟨t, _, rfl, .inl (.inl t1), rfl, _, _, rfl, _, _, rfl, rfl, ?_⟩
      refine ⟨_, rfl, _, rfl, _, rfl, _, rfl, pe, pa, xs, ys, _, q1.es, _, _, rfl, T1, h1, t2, ent1, t3, pr1, (parts_ok c.ok q1 hqm).rise, by omega, Nat.le_trans (part_len c.ok c.few q1 hqm) (by omega), fun H2 p2 zs e2 T2 n2 w2 h2 ez => ?_⟩
      have e02 : ExtN H H' := ((ExtN.of s0).trans (ExtN.of s1)).trans e1
      have es : keepL ((partsC loose bs).take (i + 1)) = keepF (keepL ((partsC loose bs).take i)) (q1.es, (q1.row.length : Int)) := by
        rw [List.take_add_one, hq1]
        exact keepL_snoc _ _
      refine ⟨_, rfl, _, rfl, _, _, rfl, rfl, p2, zs, some (.ref pa), some (.int (q1.row.length : Int)), ?_, e1.trans e2, T2, h2, ?_, newN_back2 e02 n2, fun v hv t e => newN_back2 e02 (w2 v hv t e)⟩
      · rw [es]
        rfl
      · rw [es]
        exact ez
    · rintro σ H' ⟨pe, xs, y3, y4, rfl, e1, T1, h1, ent1, nw1, nx1⟩
      rw [List.length_map, hl, List.take_length] at ent1
      have e02 : ExtN H H' := ((ExtN.of s0).trans (ExtN.of s1)).trans e1
      refine ⟨_, rfl, q H' _ _ _ T1 ⟨dx, l, d, loose, bs, c.ext e02, p, rfl, rfl, rfl⟩ (Moves.ext e02 _ _) ⟨pe, xs, rfl, h1, ent1, fun z => ?_, fun v hv t e z => ?_⟩⟩
      · obtain ⟨o, h, nt⟩ := c.old pe z
        exact newN_not nw1 h nt rfl
      · obtain ⟨o, h, nt⟩ := c.old t (.inl z)
        exact newN_not (nx1 v hv t e) h nt rfl
theorem ok_keptP (ck : CupK K C_Cup) (F : Fun K "kept" "Cup.kept" s_Cup_kept f fd) (B : Bi mg) (cp : MetN P w K mg base 2 C_Cup "_parts" (cpParts C_Cup)) (cj : CalK P w K mg base 5 "joined" (cpJoined T)) : FnOk P w K mg base CX0 9 f fd ["self"] (apKeptP (CupRl C_Cup) T) := by
  refine F.ok sc_Cup_kept (fun vs H Q E h => ?_) (fun cdv A outer s H vs Q E hr h => ⟨_, (rd_Cup_kept B hr cp cj).2, ?_⟩)
  · obtain ⟨a, k, row, es, S, D, rfl, _⟩ := h
    rfl
  · obtain ⟨a, k, row, es, S, D, rfl, hT, hR, hn, q⟩ := h
    obtain ⟨dx, l, d, loose, bs, c, p, rfl, rfl, rfl⟩ := id hR
    have k1 := c.k1
    have k64 := c.k64
    have sz := sizes_of k1 c.ok c.nd c.few p
    have hb := sz.bnd c.ok
    have hb2 := bnd_small k1 k64 hn
    have hfl : (bs.flatMap (·.row)).length < 2 ^ 300 := by
      have e := p.length_eq
      rw [List.length_append] at e
      have : row.length < 2 ^ 300 := Nat.lt_of_lt_of_le hn (Nat.pow_le_pow_right (by decide) (by decide))
      omega
    refine ⟨by show 0 ≤ sizeLine; decide, fun L hL => ?_⟩
    have s0 := same_upd (o := .lst []) hL
    refine ⟨_, rfl, a, dx, _, rfl, s0 _ _ c.ins, rfl, a, dx, l, d, k, (row.length : Int), loose, bs, rfl, c.ext (ExtN.of s0), hfl, fun H1 pp ts s1 n1 hp1 hpa => ?_⟩
    have hT1 : Tabs T H1 := (hT.ext s0).ext s1
    have hl := hpa.length
    refine ⟨pp, rfl, ⟨_, .inl (.inl hp1)⟩, for_list (K := K) (a := pp) (xs := ts.map V.ref) (fun i σ H' => ∃ pe xs y3 y4, σ = [some (.ref a), some (.ref pe), some (.int (keepL ((partsC loose bs).take i)).2), y3, y4] ∧ ExtN H1 H' ∧ Tabs T H' ∧ H' pe = some (.lst xs) ∧ EntsAre H' xs (keepL ((partsC loose bs).take i)).1 ∧ NewN H pe ∧ (∀ v ∈ xs, ∀ t, v = .ref t → NewN H t))
      ⟨L, [], none, none, rfl, ExtN.refl _, hT1, s1 _ _ upd_same, .nil, NewN.of hL, fun v hv => absurd hv List.not_mem_nil⟩ (fun i σ H' _ ⟨_, _, _, _, _, e, _⟩ => .inl (.inl (e _ _ hp1 (fun _ z => nomatch z)))) ?_ ?_⟩
    · rintro i y σ H' hi ⟨pe, xs, y3, y4, rfl, e1, T1, h1, ent1, nw1, nx1⟩
      have hil : i < ts.length := by
        have := (List.getElem?_eq_some_iff.mp hi).1
        rwa [List.length_map] at this
      have ht : ts[i]? = some ts[i] := List.getElem?_eq_getElem hil
      generalize ts[i] = t at ht
      obtain rfl : y = .ref t := by
        rw [List.getElem?_map, ht] at hi
        exact (Option.some.inj hi).symm
      obtain ⟨q1, hq1, hq2⟩ := eachIs_get hpa ht
      obtain ⟨pa, ys, t1, t2, t3⟩ := hq2.ext e1
      have hqm := List.mem_of_getElem? hq1
      obtain ⟨pr1, pr2⟩ := keep_pre (k := k) (loose := loose) c.ok i
      refine ⟨t, _, rfl, .inl (.inl t1), rfl, _, _, rfl, _, _, rfl, rfl, ?_⟩
      refine ⟨_, rfl, _, rfl, _, rfl, _, rfl, pe, pa, xs, ys, _, q1.es, _, _, rfl, T1, h1, t2, ent1, t3, pr1, (parts_ok c.ok q1 hqm).rise, by omega, Nat.le_trans (part_len c.ok c.few q1 hqm) (by omega), fun H2 p2 zs e2 T2 n2 w2 h2 ez => ?_⟩
      have e02 : ExtN H H' := ((ExtN.of s0).trans (ExtN.of s1)).trans e1
      have es : keepL ((partsC loose bs).take (i + 1)) = keepF (keepL ((partsC loose bs).take i)) (q1.es, (q1.row.length : Int)) := by
        rw [List.take_add_one, hq1]
        exact keepL_snoc _ _
      refine ⟨_, rfl, _, rfl, _, _, rfl, rfl, p2, zs, some (.ref pa), some (.int (q1.row.length : Int)), ?_, e1.trans e2, T2, h2, ?_, newN_back2 e02 n2, fun v hv t e => newN_back2 e02 (w2 v hv t e)⟩
      · rw [es]
        rfl
      · rw [es]
        exact ez
    · rintro σ H' ⟨pe, xs, y3, y4, rfl, e1, T1, h1, ent1, nw1, nx1⟩
      rw [List.length_map, hl, List.take_length] at ent1
      have e02 : ExtN H H' := ((ExtN.of s0).trans (ExtN.of s1)).trans e1
      exact ⟨_, rfl, q H' _ T1 e02 ⟨pe, xs, rfl, h1, ent1, nw1, nx1⟩⟩
theorem ok_init (ck : CupK K C_Cup) (x : ExcK K mg "BadKeep" C_BadKeep) (F : Fun K "__init__" "Cup.__init__" s_Cup___init__ f fd) (B : Bi mg) (cw : CalK P w K mg base 1 "is_whole" cpWhole) : FnOk P w K mg base (L2N.CX P w) 3 f fd ["self", "keep"] (apInit (CupRl C_Cup) T C_Cup C_BadKeep) := by
  refine okN F sc_Cup___init__ (fun vs H Q E h => ?_) (fun cdv A outer s H vs Q E hr h => ⟨_, (rd_Cup___init__ B hr x cw).2, ?_⟩)
  · obtain ⟨p, dx, v, rfl, _⟩ := h
    rfl
  · obtain ⟨p, dx, v, rfl, hT, hp, hdx, hne, h⟩ := h
    refine ⟨_, rfl, v, 1, 64, rfl, ?_⟩
    rcases h with ⟨k, rfl, k1, k64, q⟩ | ⟨hb, q⟩
    · refine .inl ⟨(k : Int), rfl, by omega, by omega, _, rfl, iteF ?_⟩
      refine ⟨_, rfl, _, rfl, p, C_Cup, dx, _, rfl, hp, ck.cl, ck.keep, (by show 0 < 1000; decide), ?_⟩
      generalize hH1 : upd H p (HO.ins C_Cup dx (putF "keep" (V.int (k : Int)) [])) = H1
      have p1 : H1 p = some (.ins C_Cup dx [("keep", .int (k : Int))]) := by rw [← hH1]; exact upd_same
      have a1 : ∀ b, b ≠ p → H1 b = H b := fun b hb => by rw [← hH1, upd_ne hb]
      have T1 : Tabs T H1 := by rw [← hH1]; exact tabs_ins hp hT
      refine ⟨_, rfl, p, C_Cup, dx, _, rfl, p1, ck.cl, ck.count, (by show 1 < 1000; decide), ?_⟩
      generalize hH2 : upd H1 p (HO.ins C_Cup dx (putF "_count" (V.int 0) [("keep", .int (k : Int))])) = H2
      have p2 : H2 p = some (.ins C_Cup dx [("keep", .int (k : Int)), ("_count", .int 0)]) := by rw [← hH2]; exact upd_same
      have a2 : ∀ b, b ≠ p → H2 b = H b := fun b hb => by rw [← hH2, upd_ne hb]; exact a1 b hb
      have T2 : Tabs T H2 := by rw [← hH2]; exact tabs_ins p1 T1
      refine ⟨by show 0 ≤ sizeLine; decide, fun l hl => ?_⟩
      have lp : l ≠ p := fun z => by rw [z, p2] at hl; cases hl
      refine ⟨_, rfl, p, C_Cup, dx, _, rfl, (same_upd hl) _ _ p2, ck.cl, ck.loose, (by show 2 < 1000; decide), ?_⟩
      generalize hH3 : upd (upd H2 l (HO.lst [])) p (HO.ins C_Cup dx (putF "_loose" (V.ref l) [("keep", .int (k : Int)), ("_count", .int 0)])) = H3
      have p3 : H3 p = some (.ins C_Cup dx [("keep", .int (k : Int)), ("_count", .int 0), ("_loose", .ref l)]) := by rw [← hH3]; exact upd_same
      have l3 : H3 l = some (.lst []) := by rw [← hH3, upd_ne lp]; exact upd_same
      have a3 : ∀ b o, b ≠ p → H b = some o → H3 b = some o := fun b o hb e => by
        rw [← hH3, upd_ne hb]
        exact (same_upd hl) _ _ (by rw [a2 b hb]; exact e)
      have T3 : Tabs T H3 := by rw [← hH3]; exact tabs_ins ((same_upd hl) _ _ p2) (T2.ext (same_upd hl))
      intro d hd
      have dp : d ≠ p := fun z => by rw [z, p3] at hd; cases hd
      have dl : d ≠ l := fun z => by rw [z, l3] at hd; cases hd
      refine ⟨_, rfl, p, C_Cup, dx, _, rfl, (same_upd hd) _ _ p3, ck.cl, ck.blocks, (by show 3 < 1000; decide), ?_⟩
      generalize hH4 : upd (upd H3 d (HO.dK [])) p (HO.ins C_Cup dx (putF "_blocks" (V.ref d) [("keep", .int (k : Int)), ("_count", .int 0), ("_loose", .ref l)])) = H4
      have p4 : H4 p = some (.ins C_Cup dx (fsC k 0 l d)) := by rw [← hH4]; exact upd_same
      have d4 : H4 d = some (.dK []) := by rw [← hH4, upd_ne dp]; exact upd_same
      have a4 : ∀ b o, b ≠ p → H3 b = some o → H4 b = some o := fun b o hb e => by
        rw [← hH4, upd_ne hb]
        exact (same_upd hd) _ _ e
      have T4 : Tabs T H4 := by rw [← hH4]; exact tabs_ins ((same_upd hd) _ _ p3) (T3.ext (same_upd hd))
      have cu : CupIn C_Cup H4 p dx l d k 0 [] [] := ⟨p4, a4 _ _ (Ne.symm hne) (a3 _ _ (Ne.symm hne) hdx), a4 _ _ lp l3, d4, fun B h => absurd h List.not_mem_nil, fun B h => absurd h List.not_mem_nil, List.nodup_nil, fun B h => absurd h List.not_mem_nil, k1, k64, by show 0 < k; omega⟩
      have ke : ([] : List Ent) = keptC [] [] := by
        have h := (cupKept cu (List.Perm.refl _)).few
        have h : (keptC [] []).length ≤ bndN 0 k := h
        have e : bndN 0 k = 0 := by
          rw [bndN_ones, Nat.zero_mod, Nat.zero_div, onesD_zero]
          rfl
        exact (List.length_eq_zero_iff.mp (by omega)).symm
      have hn : ∀ b, H2 b = none → b ≠ p → H b = none := fun b hb z => by rw [← a2 b z]; exact hb
      refine q H4 _ _ T4 ⟨dx, l, d, [], [], cu, List.Perm.refl _, ke, rfl, rfl⟩ (fun b o e nt h1 h2 => a4 b o h1 (a3 b o h1 e)) ?_
      rintro b ((rfl | rfl | rfl | rfl) | ⟨B, hB, _⟩)
      · exact .inl rfl
      · exact .inr (.inl rfl)
      · exact .inr (.inr (NewN.of (hn _ hl lp)))
      · refine .inr (.inr (NewN.of ?_))
        cases z : H b with
        | none => rfl
        | some o =>
          rw [a3 b o dp z] at hd
          cases hd
      · exact absurd hB List.not_mem_nil
    · refine .inr ⟨hb, _, rfl, iteT ?_⟩
      exact q H (ExtN.refl H) hT
theorem ok_add (ck : CupK K C_Cup) (x : ExcK K mg "BadTimes" C_BadTimes) (F : Fun K "add" "Cup.add" s_Cup_add f fd) (B : Bi mg) (cc : CalN P w K mg base 2 "check_reading" (cpReading C_BadReading)) (cw : CalK P w K mg base 1 "is_whole" cpWhole) (cl : MetN P w K mg base 8 C_Cup "_add_loose" (cpAddLoose T C_Cup)) (co : CalK P w K mg base 1 "_ones" cpOnes) (cb : MetN P w K mg base 7 C_Cup "_add_block" (cpAddBlock T C_Cup)) (ck2 : MetN P w K mg base 1 C_Cup "_like_block" (cpLike C_Cup)) : FnOk P w K mg base (L2N.CX P w) 10 f fd ["self", "reading", "times"] (apAdd (CupRl C_Cup) T C_BadReading C_BadTimes) := by
  refine okN F sc_Cup_add (fun vs H Q E h => ?_) (fun cdv A outer s H vs Q E hr h => ⟨_, (rd_Cup_add B hr x cc cw cl co cb ck2).2, ?_⟩)
  · obtain ⟨a, k, row, es, S, D, xv, tv, rfl, _⟩ := h
    rfl
  · obtain ⟨a, k, row, es, S, D, xv, tv, rfl, hT, hR, h⟩ := h
    obtain ⟨dx, l, d, loose, bs, c, p, rfl, rfl, rfl⟩ := id hR
    have k1 := c.k1
    have k64 := c.k64
    have sd : ∀ b, BaseS a dx l d b → CupD a dx l d bs b := fun b h => .inl h
    refine ⟨_, rfl, xv, rfl, ?_⟩
    rcases h with ⟨x, t, rfl, rfl, hx, ht, hn, q⟩ | ⟨hb, q⟩ | ⟨x, rfl, hx, hb, q⟩
    · refine .inl ⟨x, rfl, hx, ?_⟩
      refine ⟨_, rfl, _, 1, 1000000000, rfl, .inl ⟨_, rfl, ht.1, ht.2, _, rfl, iteF ?_⟩⟩
      have hrl := p.length_eq
      rw [List.length_append] at hrl
      have h200 : (2 : Nat) ^ 200 ≤ 2 ^ 299 := Nat.pow_le_pow_right (by decide) (by decide)
      have h299 : (2 : Nat) ^ 299 + 2 ^ 299 = 2 ^ 300 := by rw [← Nat.two_mul, ← Nat.pow_succ']
      have hmod := Nat.mod_le t k
      -- the loose ones
      refine ⟨_, rfl, _, rfl, a, C_Cup, dx, _, _, rfl, c.ins, ck.cl, ck.keep, rfl, _, _, rfl, rfl, by omega, (((t % k : Nat)) : Int), rfl, ?_, ?_, for_range (lo := 0) (n := ((((t % k : Nat)) : Int)).toNat) (fun i σ H1 => ∃ y3 y4 l1 loose1 bs1, σ = [some (.ref a), some (.int x), some (.int (t : Int)), y3, y4] ∧ Tabs T H1 ∧ CupIn C_Cup H1 a dx l1 d k (row.length : Int) loose1 bs1 ∧
          (loose1 ++ bs1.flatMap (·.row)).Perm (row ++ List.replicate i x) ∧ Grow H H1 (BaseS a dx l d) (CupD a dx l d bs) (fun _ => False) (BaseS a dx l1 d) (CupD a dx l1 d bs1)) ⟨none, none, l, loose, bs, rfl, hT, c, by simpa using p, Grow.refl _ _ _ _⟩ ?_ ?_⟩
      · have := Nat.mod_lt t (show k > 0 by omega)
        omega
      · have := Nat.mod_lt t (show k > 0 by omega)
        omega
      · rintro i σ H1 hi ⟨y3, y4, l1, loose1, bs1, rfl, T1, c1, p1, g1⟩
        have hl1 := p1.length_eq
        rw [List.length_append, List.length_append, List.length_replicate] at hl1
        have hit : i < t % k := by omega
        refine ⟨_, rfl, a, dx, _, rfl, c1.ins, rfl, _, rfl, a, dx, l1, d, k, _, loose1, bs1, x, rfl, T1, c1, by omega, fun H2 l2 loose2 bs2 T2 c2 p2 ch2 hl2 hb2 => ?_⟩
        refine ⟨some (.int (0 + (i : Int))), y4, l2, loose2, bs2, rfl, T2, c2, ?_, g1.trans (Grow.loose ch2 hl2 hb2) sd⟩
        rw [List.replicate_succ', ← List.append_assoc]
        exact p2.trans (p1.append_right _)
      · rintro σ H1 ⟨y3, y4, l1, loose1, bs1, rfl, T1, c1, p1, g1⟩
        rw [Int.toNat_natCast] at p1
        have ht2 : t / k < 2 ^ 200 := by
          have := Nat.div_le_self t k
          omega
        have sd1 : ∀ b, BaseS a dx l1 d b → CupD a dx l1 d bs1 b := fun b h => .inl h
        refine ⟨_, rfl, _, rfl, a, C_Cup, dx, _, _, rfl, c1.ins, ck.cl, ck.keep, rfl, _, _, rfl, rfl, wide_div (b := 7) (by omega) (by omega) (by decide) (by decide), t / k, rfl, Nat.lt_of_lt_of_le ht2 (Nat.pow_le_pow_right (by decide) (by decide)), fun H2 p2 s2 n2 e2 => ?_⟩
        have hj := ones_lt ht2
        have hall := ones_all x k t
        generalize onesD (t / k) 0 = js at e2 hj hall
        refine ⟨p2, rfl, ⟨_, .inl (.inl e2)⟩, for_list (K := K) (a := p2) (xs := js.map fun (j : Nat) => V.int (j : Int)) (fun i σ H3 => ∃ y3 y4 bs3, σ = [some (.ref a), some (.int x), some (.int (t : Int)), y3, y4] ∧ Tabs T H3 ∧ CupIn C_Cup H3 a dx l1 d k (row.length : Int) loose1 bs3 ∧
          (loose1 ++ bs3.flatMap (·.row)).Perm (row ++ (List.replicate (t % k) x ++ (js.take i).flatMap fun j => List.replicate (k * 2 ^ j) x)) ∧ Grow H H3 (BaseS a dx l d) (CupD a dx l d bs) (fun _ => False) (BaseS a dx l1 d) (CupD a dx l1 d bs3) ∧ H3 p2 = some (.lst (js.map fun (j : Nat) => V.int (j : Int))))
          ⟨y3, y4, bs1, rfl, T1.ext s2, c1.ext (ExtN.of s2), by simpa using p1, g1.ext (ExtN.of s2), e2⟩ (fun i σ H' _ ⟨_, _, _, _, _, _, _, _, h⟩ => .inl (.inl h)) ?_ ?_⟩
        · rintro i y σ H3 hi ⟨y3, y4, bs3, rfl, T3, c3, p3, g3, h3⟩
          have hil : i < js.length := by
            have := (List.getElem?_eq_some_iff.mp hi).1
            rwa [List.length_map] at this
          have hB : js[i]? = some js[i] := List.getElem?_eq_getElem hil
          have hm : js[i] ∈ js := List.getElem_mem hil
          generalize js[i] = j at hB hm
          obtain rfl : y = .int (j : Int) := by
            rw [List.getElem?_map, hB] at hi
            exact (Option.some.inj hi).symm
          have hj2 := hj j hm
          have ets : (js.take (i + 1)).flatMap (fun j => List.replicate (k * 2 ^ j) x) = (js.take i).flatMap (fun j => List.replicate (k * 2 ^ j) x) ++ List.replicate (k * 2 ^ j) x := by
            rw [List.take_add_one, hB, List.flatMap_append]
            simp
          have hle : (row ++ (List.replicate (t % k) x ++ (js.take (i + 1)).flatMap fun j => List.replicate (k * 2 ^ j) x)).length ≤ row.length + t := by
            have e := congrArg List.length hall
            rw [List.length_append, List.length_replicate, List.length_replicate] at e
            rw [List.length_append, List.length_append, List.length_replicate]
            have : ((js.take (i + 1)).flatMap fun j => List.replicate (k * 2 ^ j) x).length ≤ (js.flatMap fun j => List.replicate (k * 2 ^ j) x).length := by
              rw [List.length_flatMap, List.length_flatMap]
              exact sum_take_le _ _ _
            omega
          rw [ets, ← List.append_assoc, ← List.append_assoc, List.length_append, List.length_replicate] at hle
          have hl3 := p3.length_eq
          rw [← List.append_assoc] at hl3
          rw [List.length_append] at hl3
          refine ⟨_, rfl, a, dx, _, rfl, c3.ins, rfl, _, rfl, _, rfl, a, dx, _, rfl, c3.ins, rfl, _, rfl, _, rfl, a, dx, l1, d, k, _, loose1, bs3, j, x, rfl, c3, by omega, fun H4 p4 t4 s4 n4 nt4 ht4 hp4 => ?_⟩
          have ne4 : ∀ {b : Addr} {o : HO}, H3 b = some o → b ≠ p4 := fun e => ne_of_none e n4
          refine ⟨a, dx, l1, d, k, _, loose1, bs3, ⟨j, p4, List.replicate k (.ref t4), List.replicate k (x, ((k * 2 ^ j : Nat) : Int) - 1, 0), List.replicate (k * 2 ^ j) x⟩, rfl, T3.ext s4, c3.ext (ExtN.of s4), BkOk.like k1 j p4 _ x, ⟨hp4, eachIs_rep ⟨t4, rfl, ht4⟩ k⟩, (ne4 c3.lo).symm, ?_, fun H5 bs5 T5 c5 p5 ch5 d5 => ?_⟩
          · show (bs3.flatMap (·.row)).length + (List.replicate (k * 2 ^ j) x).length < 2 ^ 300
            rw [List.length_replicate]
            omega
          refine ⟨y3, some (.int (j : Int)), bs5, rfl, T5, c5, ?_, g3.trans (Grow.block (H := H3) ((Chg.same s4).then ch5) (fun b hb => (d5 b hb).imp_right fun z => z.imp_right (newN_back2 (ExtN.of s4))) fun b hb => .inr ?_) sd, ?_⟩
          · rw [ets, ← List.append_assoc, ← List.append_assoc]
            refine (List.Perm.append_left _ p5).trans ?_
            show (loose1 ++ (bs3.flatMap (·.row) ++ List.replicate (k * 2 ^ j) x)).Perm _
            rw [← List.append_assoc]
            rw [← List.append_assoc] at p3
            exact p3.append_right _
          · rcases hb with rfl | hb
            · exact NewN.of n4
            · have hb : V.ref b ∈ List.replicate k (V.ref t4) := hb
              obtain rfl : b = t4 := V.ref.inj (List.eq_of_mem_replicate hb)
              exact NewN.of nt4
          · exact ch5 _ _ (s4 _ _ h3) (fun _ z => nomatch z) (ne_of h3 c3.di (fun z => nomatch z))
        · rintro σ H3 ⟨y3, y4, bs3, rfl, T3, c3, p3, g3, h3⟩
          rw [List.length_map, List.take_length, hall] at p3
          refine ⟨_, rfl, a, C_Cup, dx, _, _, rfl, c3.ins, ck.cl, ck.count, rfl, _, rfl, _, _, rfl, rfl, dx, _, c3.ins, (by show 4 < 1000; decide), ?_⟩
          have hL : (row.length : Int) + (t : Int) = ((row ++ List.replicate t x).length : Int) := by
            rw [List.length_append, List.length_replicate]
            omega
          have c6 := c3.setN (m := ((row ++ List.replicate t x).length : Int))
          rw [← hL] at c6
          have T6 := tabs_ins (o' := .ins C_Cup dx (fsC k ((row.length : Int) + (t : Int)) l1 d)) c3.ins T3
          refine q _ _ _ _ T6 ⟨dx, l1, d, loose1, bs3, ?_, p3, rfl, rfl, rfl⟩ (Grow.moves ⟨(g3.chg).trans (Chg.upd (S := BaseS a dx l1 d) (.inl rfl)) g3.s, g3.s, g3.d⟩)
          rw [← hL]
          exact c6
    · exact .inr ⟨hb, q H (ExtN.refl H) hT⟩
    · refine .inl ⟨x, rfl, hx, ?_⟩
      refine ⟨_, rfl, tv, 1, 1000000000, rfl, .inr ⟨hb, _, rfl, iteT ?_⟩⟩
      exact q H (ExtN.refl H) hT
theorem ok_pour (ck : CupK K C_Cup) (x : ExcK K mg "UnlikeCups" C_UnlikeCups) (F : Fun K "pour" "Cup.pour" s_Cup_pour f fd) (B : Bi mg) (cl : MetN P w K mg base 8 C_Cup "_add_loose" (cpAddLoose T C_Cup)) (cb : MetN P w K mg base 7 C_Cup "_add_block" (cpAddBlock T C_Cup)) : FnOk P w K mg base (L2N.CX P w) 10 f fd ["self", "other"] (apPour (CupRl C_Cup) T C_UnlikeCups) := by
  refine okN F sc_Cup_pour (fun vs H Q E h => ?_) (fun cdv A outer s H vs Q E hr h => ⟨_, (rd_Cup_pour B hr x cl cb).2, ?_⟩)
  · obtain ⟨a, b, k, k2, row, row2, es, es2, S, D, S2, D2, rfl, _⟩ := h
    rfl
  · obtain ⟨a, b, k, k2, row, row2, es, es2, S, D, S2, D2, rfl, hT, hR, hR2, hn, hsep, q, qU⟩ := h
    obtain ⟨dx, l, d, loose, bs, c, p, rfl, rfl, rfl⟩ := id hR
    obtain ⟨dx2, l2, d2, loose2, bs2, c2, p2, rfl, rfl, rfl⟩ := id hR2
    have k1 := c.k1
    have k64 := c.k64
    have sd : ∀ b, BaseS a dx l d b → CupD a dx l d bs b := fun b h => .inl h
    refine ⟨_, rfl, b, C_Cup, dx2, _, _, rfl, c2.ins, ck.cl, ck.keep, rfl, _, rfl, a, C_Cup, dx, _, _, rfl, c.ins, ck.cl, ck.keep, rfl, rfl, _, rfl, ?_⟩
    by_cases hk : k = k2
    · subst hk
      refine iteNS rfl ?_
      have q := q rfl
      have hbl : ∀ B ∈ bs2, B.a ≠ l := by
        rcases hsep rfl with ⟨e, _⟩ | ⟨e, _⟩
        · subst e
          have e2 := c.ins.symm.trans c2.ins
          injection e2 with e2
          injection e2 with e3 e4 e5
          injection e5 with _ e5
          injection e5 with _ e5
          injection e5 with e5 _
          injection e5 with _ e5
          have e5 := V.ref.inj e5
          rw [e5]
          exact c2.sep
        · intro B hB z
          exact e l (.inr (.inr (.inl rfl))) (.inr ⟨B, hB, .inl z.symm⟩)
      refine ⟨_, rfl, b, C_Cup, dx2, _, _, rfl, c2.ins, ck.cl, ck.loose, rfl, ?_⟩
      refine ⟨l2, _, rfl, .inl (.inl (.inl c2.lo)), fun pl hpl => ?_⟩
      have s1 := same_upd (o := .lst (loose2.map V.int)) hpl
      refine ⟨_, rfl, b, C_Cup, dx2, _, _, rfl, s1 _ _ c2.ins, ck.cl, ck.blocks, rfl, d2, kvB bs2, rfl, s1 _ _ c2.di, fun H2 pb ts s2 nb nts hnin hpb hts => ?_⟩
      have s12 : Same H H2 := s1.trans s2
      refine ⟨_, rfl, b, C_Cup, dx2, _, _, rfl, s12 _ _ c2.ins, ck.cl, ck.count, rfl, ?_⟩
      have hpl2 : H2 pl = some (.lst (loose2.map V.int)) := s2 _ _ upd_same
      have npl : pl ≠ l := (ne_of_none c.lo hpl).symm
      have npb : pb ≠ l := (ne_of_none (s1 _ _ c.lo) nb).symm
      have hrl := p.length_eq
      have hrl2 := p2.length_eq
      rw [List.length_append] at hrl hrl2
      have h200 : (2 : Nat) ^ 200 ≤ 2 ^ 299 := Nat.pow_le_pow_right (by decide) (by decide)
      have h299 : (2 : Nat) ^ 299 + 2 ^ 299 = 2 ^ 300 := by rw [← Nat.two_mul, ← Nat.pow_succ']
      have hO : ∀ B ∈ bs2, ∀ y, bkD B y → CupD b dx2 l2 d2 bs2 y ∧ ¬ BaseS b dx2 l2 d2 y := fun B hB y hy => ⟨.inr ⟨B, hB, hy⟩, c2.apart y ⟨B, hB, hy⟩⟩
      have htl : ts.length = bs2.length := by
        rw [paired_len hts, List.length_map]
      refine ⟨_, rfl, pl, rfl, ⟨_, .inl (.inl hpl2)⟩, for_list (K := K) (a := pl) (xs := loose2.map V.int) (fun i σ H3 => ∃ y5 y6 y7 l1 loose1 bs1, σ = [some (.ref a), some (.ref b), some (.ref pl), some (.ref pb), some (.int (row2.length : Int)), y5, y6, y7] ∧ Tabs T H3 ∧ CupIn C_Cup H3 a dx l1 d k (row.length : Int) loose1 bs1 ∧
          (loose1 ++ bs1.flatMap (·.row)).Perm (row ++ loose2.take i) ∧ Grow H H3 (BaseS a dx l d) (CupD a dx l d bs) (fun y => CupD b dx2 l2 d2 bs2 y ∧ ¬ BaseS b dx2 l2 d2 y) (BaseS a dx l1 d) (CupD a dx l1 d bs1) ∧
          H3 pl = some (.lst (loose2.map V.int)) ∧ H3 pb = some (.lst (ts.map V.ref)) ∧ Paired (fun (t : Addr) (q : Key × V) => H3 t = some (.tup [kV q.1, q.2])) ts (kvB bs2) ∧ (∀ B ∈ bs2, BkAt H3 B) ∧ pl ≠ l1 ∧ pb ≠ l1 ∧ ∀ B ∈ bs2, B.a ≠ l1)
        ⟨none, none, none, l, loose, bs, rfl, (hT.ext s12), c.ext (ExtN.of s12), by simpa using p, (Grow.refl _ _ _ _).ext (ExtN.of s12), hpl2, hpb, hts, fun B hB => (c2.at_ B hB).ext (ExtN.of s12), npl, npb, hbl⟩ (fun i σ H' _ ⟨_, _, _, _, _, _, _, _, _, _, _, h, _⟩ => .inl (.inl h)) ?_ ?_⟩
      · rintro i y σ H3 hi ⟨y5, y6, y7, l1, loose1, bs1, rfl, T3, c3, p3, g3, hl3, hb3, ht3, hB3, n1, n2, n3⟩
        have hil : i < loose2.length := by
          have := (List.getElem?_eq_some_iff.mp hi).1
          rwa [List.length_map] at this
        have hx : loose2[i]? = some loose2[i] := List.getElem?_eq_getElem hil
        generalize loose2[i] = x at hx
        obtain rfl : y = .int x := by
          rw [List.getElem?_map, hx] at hi
          exact (Option.some.inj hi).symm
        have hl3' := p3.length_eq
        rw [List.length_append, List.length_append, List.length_take] at hl3'
        refine ⟨_, rfl, a, dx, _, rfl, c3.ins, rfl, _, rfl, a, dx, l1, d, k, _, loose1, bs1, x, rfl, T3, c3, by omega, fun H4 l4 loose4 bs4 T4 c4 p4 ch4 hl4 hb4 => ?_⟩
        refine ⟨some (.int x), y6, y7, l4, loose4, bs4, rfl, T4, c4, ?_, g3.trans (Grow.loose ch4 hl4 hb4) sd, lst_step hl3 c3 n1 ch4, lst_step hb3 c3 n2 ch4, ?_, fun B hB => (hB3 B hB).step c3 (n3 B hB) ch4, ne_new hl3 (fun _ z => nomatch z) n1 hl4, ne_new hb3 (fun _ z => nomatch z) n2 hl4, fun B hB => ne_new (hB3 B hB).at_ (fun _ z => nomatch z) (n3 B hB) hl4⟩
        · rw [List.take_add_one, hx]
          show List.Perm _ (row ++ (loose2.take i ++ [x]))
          rw [← List.append_assoc]
          exact p4.trans (p3.append_right _)
        · exact ht3.mono fun _ _ z => tup_step z c3 ch4
      · rintro σ H3 ⟨y5, y6, y7, l1, loose1, bs1, rfl, T3, c3, p3, g3, hl3, hb3, ht3, hB3, n1, n2, n3⟩
        rw [List.length_map, List.take_length] at p3
        refine ⟨_, rfl, pb, rfl, ⟨_, .inl (.inl hb3)⟩, for_list (K := K) (a := pb) (xs := ts.map V.ref) (fun i σ H4 => ∃ y5 y6 y7 bs4, σ = [some (.ref a), some (.ref b), some (.ref pl), some (.ref pb), some (.int (row2.length : Int)), y5, y6, y7] ∧ Tabs T H4 ∧ CupIn C_Cup H4 a dx l1 d k (row.length : Int) loose1 bs4 ∧
            (loose1 ++ bs4.flatMap (·.row)).Perm (row ++ (loose2 ++ (bs2.take i).flatMap (·.row))) ∧ Grow H H4 (BaseS a dx l d) (CupD a dx l d bs) (fun y => CupD b dx2 l2 d2 bs2 y ∧ ¬ BaseS b dx2 l2 d2 y) (BaseS a dx l1 d) (CupD a dx l1 d bs4) ∧
            H4 pb = some (.lst (ts.map V.ref)) ∧ Paired (fun (t : Addr) (q : Key × V) => H4 t = some (.tup [kV q.1, q.2])) ts (kvB bs2) ∧ (∀ B ∈ bs2, BkAt H4 B))
          ⟨y5, y6, y7, bs1, rfl, T3, c3, by simpa using p3, g3, hb3, ht3, hB3⟩ (fun i σ H' _ ⟨_, _, _, _, _, _, _, _, _, h, _⟩ => .inl (.inl h)) ?_ ?_⟩
        · rintro i y σ H4 hi ⟨y5, y6, y7, bs4, rfl, T4, c4, p4, g4, hb4, ht4, hB4⟩
          have hil : i < ts.length := by
            have := (List.getElem?_eq_some_iff.mp hi).1
            rwa [List.length_map] at this
          have ht : ts[i]? = some ts[i] := List.getElem?_eq_getElem hil
          have hBi : bs2[i]? = some bs2[i] := List.getElem?_eq_getElem (by omega)
          have hBm : bs2[i] ∈ bs2 := List.getElem_mem (by omega)
          generalize bs2[i] = Bi at hBi hBm
          generalize ts[i] = t at ht
          obtain rfl : y = .ref t := by
            rw [List.getElem?_map, ht] at hi
            exact (Option.some.inj hi).symm
          have htt : H4 t = some (.tup [.int (Bi.j : Int), .ref Bi.a]) := by
            obtain ⟨q', e1, e2⟩ := paired_get ht4 ht
            rw [List.getElem?_map, hBi] at e1
            cases e1
            exact e2
          have hl4' := p4.length_eq
          rw [List.length_append, List.length_append, List.length_append] at hl4'
          have ets : (bs2.take (i + 1)).flatMap (·.row) = (bs2.take i).flatMap (·.row) ++ Bi.row := by
            rw [List.take_add_one, hBi, List.flatMap_append]
            simp
          have hle : ((bs2.take (i + 1)).flatMap (·.row)).length ≤ (bs2.flatMap (·.row)).length := by
            rw [List.length_flatMap, List.length_flatMap]
            exact sum_take_le _ _ _
          rw [ets, List.length_append] at hle
          refine ⟨t, _, rfl, .inl (.inl htt), rfl, _, _, rfl, _, _, rfl, rfl, ?_⟩
          refine ⟨_, rfl, a, dx, _, rfl, c4.ins, rfl, _, rfl, _, rfl, a, dx, l1, d, k, _, loose1, bs4, Bi, rfl, T4, c4, c2.ok Bi hBm, hB4 Bi hBm, n3 Bi hBm, by omega, fun H5 bs5 T5 c5 p5 ch5 d5 => ?_⟩
          have ch5' : Chg (BaseS a dx l1 d) H4 H5 := ch5.mono fun y hy => .inr (.inr (.inr hy))
          refine ⟨y5, some (.int (Bi.j : Int)), some (.ref Bi.a), bs5, rfl, T5, c5, ?_, g4.trans (Grow.block ch5 d5 fun y hy => .inl (hO Bi hBm y hy)) sd, lst_step hb4 c4 n2 ch5', ht4.mono fun _ _ z => tup_step z c4 ch5', fun B hB => (hB4 B hB).step c4 (n3 B hB) ch5'⟩
          rw [ets, ← List.append_assoc, ← List.append_assoc]
          refine (List.Perm.append_left _ p5).trans ?_
          rw [← List.append_assoc]
          rw [← List.append_assoc] at p4
          exact p4.append_right _
        · rintro σ H4 ⟨y5, y6, y7, bs4, rfl, T4, c4, p4, g4, hb4, ht4, hB4⟩
          rw [List.length_map, htl, List.take_length] at p4
          refine ⟨_, rfl, a, C_Cup, dx, _, _, rfl, c4.ins, ck.cl, ck.count, rfl, _, rfl, _, _, rfl, rfl, dx, _, c4.ins, (by show 4 < 1000; decide), ?_⟩
          have hL : (row.length : Int) + (row2.length : Int) = ((row ++ row2).length : Int) := by
            rw [List.length_append]
            omega
          have c6 := c4.setN (m := ((row ++ row2).length : Int))
          rw [← hL] at c6
          have T6 := tabs_ins (o' := .ins C_Cup dx (fsC k ((row.length : Int) + (row2.length : Int)) l1 d)) c4.ins T4
          refine q _ _ _ _ T6 ⟨dx, l1, d, loose1, bs4, ?_, p4.trans (List.Perm.append_left _ p2), rfl, rfl, rfl⟩ ((g4.chg).trans (Chg.upd (S := BaseS a dx l1 d) (.inl rfl)) g4.s) g4.s g4.d
          rw [← hL]
          exact c6
    · refine (if_pos (by rw [decide_eq_false (fun z => hk (by have := V.int.inj z; omega))]; rfl)).mpr ?_
      exact qU hk H (ExtN.refl H) hT
theorem ok_steps (F : Fun K "_steps" "_steps" s__steps f fd) (B : Bi mg) : FnOk P w K mg base CX0 1 f fd ["entries"] cpSteps := by
  refine F.ok sc__steps (fun vs H Q E h => ?_) (fun cdv A outer s H vs Q E hr h => ⟨_, (rd__steps B hr).2, ?_⟩)
  · obtain ⟨a, xs, es, rfl, _⟩ := h
    rfl
  · obtain ⟨a, xs, es, rfl, ha, he, ne, few, q⟩ := h
    have hl := he.length
    refine ⟨_, rfl, a, rfl, ⟨_, .inl (.inl ha)⟩, fun D hD => lc_list (K := K) (xs := xs) (fun i H' => Same H H' ∧ H' D = some (.lst (((es.take i).map (·.1)).map V.int))) ⟨same_upd hD, upd_same⟩ (fun i H' _ h => .inl (.inl (h.1 _ _ ha))) ?_ ?_⟩
    · rintro i v H' hi ⟨s1, h1⟩
      obtain ⟨e, hes, t, rfl, ht⟩ := eachIs_get he hi
      have il := (List.getElem?_eq_some_iff.mp hes).1
      have htk : es.take (i + 1) = es.take i ++ [e] := by rw [List.take_succ, hes]; rfl
      refine ⟨rfl, _, rfl, t, _, _, _, rfl, rfl, .inl (.inl (s1 _ _ ht)), atI_nat (j := 0) rfl, _, h1, small5 (by rw [List.length_map, List.length_map, List.length_take]; omega), same_mut s1 hD, ?_⟩
      rw [upd_same, htk, List.map_append, List.map_append]
      rfl
    · rintro H' ⟨s1, h1⟩
      rw [hl, List.take_length] at h1
      have pos : 0 < (es.map (·.1)).length := by
        rw [List.length_map]
        exact List.length_pos_iff.mpr ne
      refine ⟨_, rfl, _, rfl, D, es.map (·.1), rfl, .inl (.inl h1), pos, fun m hm hmx => ⟨_, _, rfl, rfl, by show 1 ≤ sizeLine; decide, fun p1 n1 => ?_⟩⟩
      have s2 := same_upd (o := .lst [V.int (m + 1)]) n1
      refine ⟨D, p1, _, _, rfl, rfl, s2 _ _ h1, upd_same, Nat.le_of_lt (small5 (by rw [List.length_map, List.length_map, List.length_singleton]; omega)), fun p2 n2 => ?_⟩
      have s3 := same_upd (o := .lst ((es.map (·.1)).map V.int ++ [V.int (m + 1)])) n2
      refine q _ p2 m ((s1.trans s2).trans s3) ((s1.trans s2).free n2) hmx ?_
      rw [upd_same, List.map_append]
      rfl
theorem ok_apart (A : CupApi R C_Cup) (G : CupGap R) (x : ExcK K mg "NoReadings" C_NoReadings) (F : Fun K "apart" "apart" s_apart f fd) (B : Bi mg) (cc : MetN P w K mg base 10 C_Cup "count" (apCountP R T)) (ck : MetN P w K mg base 10 C_Cup "kept" (apKeptP R T)) (cs : CalK P w K mg base 1 "_steps" cpSteps) (ca : CalK P w K mg base 3 "ahead_of" cpAheadOf) :
    FnOk P w K mg base (L2N.CX P w) 11 f fd ["one", "other"] (cpApart R T C_NoReadings) := by
  refine okN F sc_apart (fun vs H Q E h => ?_) (fun cdv Ar outer s H vs Q E hr h => ⟨_, (rd_apart B hr x cc ck cs ca).2, ?_⟩)
  · obtain ⟨a, b, k, k2, row, row2, es, es2, S, D, S2, D2, rfl, _⟩ := h
    rfl
  · obtain ⟨a, b, k, k2, row, row2, es, es2, S, D, S2, D2, rfl, hT, ra, rb, hn, hm, h⟩ := h
    obtain ⟨dx1, fs1, hi1, _, _, _, hco1, _⟩ := A.inst ra
    refine ⟨_, rfl, a, dx1, fs1, rfl, hi1, hco1, a, k, row, es, S, D, rfl, hT, ra, hn, fun H1 yv T1 e1 hy => ?_⟩
    subst hy
    have rb1 := A.extN rb e1
    obtain ⟨dx2, fs2, hi2, _, _, _, hco2, _⟩ := A.inst rb1
    refine ⟨_, rfl, b, dx2, fs2, rfl, hi2, hco2, b, k2, row2, es2, S2, D2, rfl, T1, rb1, hm, fun H2 yv T2 e2 hy => ?_⟩
    subst hy
    have e02 := e1.trans e2
    refine ⟨_, rfl, rfl, _, rfl, ?_⟩
    rcases h with ⟨h0, q⟩ | ⟨hn0, hm0, q⟩
    · refine ite2 (fun z => iteT (q H2 T2 e02)) (fun z => ⟨_, rfl, rfl, _, rfl, ite2 (fun z2 => q H2 T2 e02) (fun z2 => ?_)⟩)
      have z1 : ¬ ((row.length : Int) = 0) := vint_ne z
      have z2 : ¬ ((row2.length : Int) = 0) := vint_ne z2
      omega
    · have z1 : ¬ ((row.length : Int) = 0) := by omega
      have z2 : ¬ ((row2.length : Int) = 0) := by omega
      refine ite2 (fun z => absurd (vint_eq z) z1) (fun _ => ⟨_, rfl, rfl, _, rfl, ite2 (fun z => absurd (vint_eq z) z2) (fun _ => ?_)⟩)
      have ra2 := A.extN ra e02
      obtain ⟨dx3, fs3, hi3, _, _, _, _, _, _, hke3, _⟩ := A.inst ra2
      refine ⟨_, rfl, a, dx3, fs3, rfl, hi3, hke3, a, k, row, es, S, D, rfl, T2, ra2, hn, fun H3 yv T3 e3 ⟨p1, xs, hyv, hp1, en1, _, _⟩ => ?_⟩
      subst hyv
      have rb3 := A.extN rb (e02.trans e3)
      obtain ⟨dx4, fs4, hi4, _, _, _, _, _, _, hke4, _⟩ := A.inst rb3
      refine ⟨_, rfl, b, dx4, fs4, rfl, hi4, hke4, b, k2, row2, es2, S2, D2, rfl, T3, rb3, hm, fun H4 yv T4 e4 ⟨p2, ys, hyv, hp2, en2, _, _⟩ => ?_⟩
      subst hyv
      have hp1 := e4 _ _ hp1 (fun _ z => nomatch z)
      have en1 := en1.ext e4
      have kpa := A.kept ra
      have kpb := A.kept rb
      obtain ⟨W1, pa⟩ := G.part ra
      obtain ⟨W2, pb⟩ := G.part rb
      obtain ⟨ka1, ka2⟩ := A.keep ra
      obtain ⟨kb1, kb2⟩ := A.keep rb
      have fa : es.length ≤ 20000 := Nat.le_trans kpa.few (bnd_small ka1 ka2 hn)
      have fb : es2.length ≤ 20000 := Nat.le_trans kpb.few (bnd_small kb1 kb2 hm)
      have la := en1.length
      have lb := en2.length
      have nea : es ≠ [] := kpa.ne fun z => by rw [z] at hn0; exact absurd hn0 (by decide)
      refine ⟨_, rfl, _, rfl, p1, p2, xs, ys, rfl, rfl, hp1, hp2, Nat.le_of_lt (small5 (by omega)), fun p3 n3 => ?_⟩
      have s5 := same_upd (o := .lst (xs ++ ys)) n3
      refine ⟨p3, xs ++ ys, es ++ es2, rfl, upd_same, EntsAre.same s5 (eachIs_append en1 en2), fun z => nea (List.append_eq_nil_iff.mp z).1, by rw [List.length_append]; omega, fun H6 p4 m s6 n4 hmx h4 => ?_⟩
      have s46 := s5.trans s6
      have hp1 := s46 _ _ hp1
      have hp2 := s46 _ _ hp2
      have en1 := en1.same s46
      have en2 := en2.same s46
      have T6 := T4.ext s46
      have e06 := ((e02.trans e3).trans e4).trans (ExtN.of s46)
      have bn : ((row.length : Nat) : Int) < 2 ^ 200 := by
        have e : ((2 : Int) ^ 200) = ((2 ^ 200 : Nat) : Int) := by norm_cast
        rw [e]; omega
      have bm : ((row2.length : Nat) : Int) < 2 ^ 200 := by
        have e : ((2 : Int) ^ 200) = ((2 ^ 200 : Nat) : Int) := by norm_cast
        rw [e]; omega
      refine ⟨p4, rfl, ⟨_, .inl (.inl h4)⟩, for_list (K := K) (a := p4) (xs := ((es ++ es2).map (·.1) ++ [m + 1]).map V.int) (fun i σ H' => ∃ y8 y9 y10 y11 y12 lo hi, σ = [some (.ref a), some (.ref b), some (.int (row.length : Int)), some (.int (row2.length : Int)), some (.ref p1), some (.ref p2), some (.int lo), some (.int hi), y8, y9, y10, y11, y12] ∧ Same H6 H' ∧
        SoFar (loT es es2 (row.length : Int) (row2.length : Int)) (((es ++ es2).map (·.1) ++ [m + 1]).take i) lo ∧ SoFar (hiT es es2 (row.length : Int) (row2.length : Int)) (((es ++ es2).map (·.1) ++ [m + 1]).take i) hi) ⟨none, none, none, none, none, 0, 0, rfl, Same.refl _, SoFar.nil _, SoFar.nil _⟩ (fun i σ H' _ ⟨_, _, _, _, _, _, _, _, s, _⟩ => .inl (.inl (s _ _ h4))) ?_ ?_⟩
      · rintro i v σ H' hi ⟨y8, y9, y10, y11, y12, lo, hi', rfl, s7, sl, sh⟩
        obtain ⟨xq, hx, rfl⟩ : ∃ xq, ((es ++ es2).map (·.1) ++ [m + 1])[i]? = some xq ∧ v = V.int xq := by
          rw [List.getElem?_map] at hi
          cases hp : ((es ++ es2).map (·.1) ++ [m + 1])[i]? with
          | none => rw [hp] at hi; cases hi
          | some y => rw [hp] at hi; exact ⟨y, rfl, (Option.some.inj hi).symm⟩
        have htk : ((es ++ es2).map (·.1) ++ [m + 1]).take (i + 1) = ((es ++ es2).map (·.1) ++ [m + 1]).take i ++ [xq] := by rw [List.take_succ, hx]; rfl
        obtain ⟨b1, b2, b3, b4⟩ := part_bounds pa xq
        obtain ⟨c1, c2, c3, c4⟩ := part_bounds pb xq
        refine ⟨_, rfl, _, rfl, _, rfl, p1, xs, es, (row.length : Int), xq, rfl, s7 _ _ hp1, en1.same s7, kpa.rise, fa, fun H8 t8 s8 n8 h8 => ⟨t8, _, rfl, .inl (.inl h8), rfl, _, _, rfl, _, _, rfl, rfl, ?_⟩⟩
        have s78 := s7.trans s8
        refine ⟨_, rfl, _, rfl, _, rfl, p2, ys, es2, (row2.length : Int), xq, rfl, s78 _ _ hp2, en2.same s78, kpb.rise, fb, fun H9 t9 s9 n9 h9 => ⟨t9, _, rfl, .inl (.inl h9), rfl, _, _, rfl, _, _, rfl, rfl, ?_⟩⟩
        have s79 := s78.trans s9
        have nn : (0 : Int) ≤ (row.length : Int) := Int.natCast_nonneg _
        have nm : (0 : Int) ≤ (row2.length : Int) := Int.natCast_nonneg _
        have w1 : CMulW (loC es (noLess es xq)) (row2.length : Int) := mulW_200 b1 (by omega) nm bm
        have w2 : CMulW (upC es2 (row2.length : Int) (noLess es2 xq)) (row.length : Int) := mulW_200 c3 (by omega) nn bn
        have w3 : CMulW (loC es2 (noLess es2 xq)) (row.length : Int) := mulW_200 c1 (by omega) nn bn
        have w4 : CMulW (upC es (row.length : Int) (noLess es xq)) (row2.length : Int) := mulW_200 b3 (by omega) nm bm
        refine ⟨_, rfl, _, rfl, _, rfl, _, _, rfl, rfl, w1, _, rfl, _, rfl, _, _, rfl, rfl, w2, _, _, rfl, rfl, _, rfl, _, rfl, _, _, rfl, rfl, w3, _, rfl, _, rfl, _, _, rfl, rfl, w4, _, _, rfl, rfl, _, _, _, _, rfl, nuMax3_int _ _ _, ?_⟩
        refine ⟨_, rfl, _, rfl, _, rfl, _, _, rfl, rfl, w4, _, rfl, _, rfl, _, _, rfl, rfl, w3, _, _, rfl, rfl, _, rfl, _, rfl, _, _, rfl, rfl, w2, _, rfl, _, rfl, _, _, rfl, rfl, w1, _, _, rfl, rfl, _, _, _, _, rfl, nuMax3_int _ _ _, ?_⟩
        refine ⟨_, _, _, _, _, _, _, rfl, s79, ?_, ?_⟩
        · rw [htk]
          exact sl.snoc rfl
        · rw [htk]
          exact sh.snoc rfl
      · rintro σ H' ⟨y8, y9, y10, y11, y12, lo, hi', rfl, s7, sl, sh⟩
        rw [List.length_map, List.take_length] at sl sh
        refine ⟨_, rfl, _, rfl, by show 2 ≤ sizeLine; decide, fun p np => ?_⟩
        have s8 := s7.trans (same_upd (o := .tup [V.int lo, V.int hi']) np)
        exact q _ p lo hi' (T6.ext s8) (e06.trans (ExtN.of s8)) upd_same fun d hd => apart_right pa pb (Int.natCast_nonneg _) (Int.natCast_nonneg _) hmx sl sh hd
end
end K13

namespace K13
open PySem PySem.Spec PyProof.Rows L2 Own LamX
local macro_rules | `(tactic| walk_at "i") => `(tactic| first
  | refine ⟨_, rfl, ?_⟩
  | refine ⟨_, _, rfl, rfl, (by show (0 : Int) < _; decide), ?_⟩
  | refine ⟨_, _, rfl, rfl, ⟨by decide, by decide⟩, ?_⟩
  | refine ⟨_, _, rfl, rfl, ⟨by decide, by decide, by decide⟩, ?_⟩
  | refine ⟨_, _, rfl, rfl, .inr ⟨by decide, by decide⟩, ?_⟩
  | refine ⟨_, _, rfl, rfl, .inl ⟨by decide, by decide⟩, ?_⟩
  | refine ⟨_, _, rfl, rfl, ?_⟩)
section
variable {P : Program} {w : World} {K : PySem.W.Frag} {mg : Str → Option Value} {base : Heap} {f : Addr} {fd : FuncData} {R : CupRel} {T : List (Addr × Str)} {C_Cup C_BadKeep C_BadReading C_BadTimes C_UnlikeCups C_NoPlace C_NoReadings C_NoCups C_RankError : Addr}
theorem ok_cell (F : Fun K "_law_cell" "_law_cell" s__law_cell f fd) (B : Bi mg) : FnOk P w K mg base CX0 1 f fd ["_law_script", "_law_k"] (lpCell K) := by
  refine F.ok sc__law_cell (fun vs H Q E h => ?_) (fun cdv A outer s H vs Q E hr h => ⟨_, (rd__law_cell B hr).2, ?_⟩)
  · obtain ⟨a, ns, k, rfl, _⟩ := h
    rfl
  · obtain ⟨a, ns, k, rfl, hS, q⟩ := h
    refine ⟨_, rfl, _, rfl, a, _, rfl, .inl hS, ?_⟩
    refine ⟨_, _, rfl, rfl, _, rfl, ite2 (fun c => ?_) (fun c => ?_)⟩
    · have c' : (k : Int) < ((ns.map V.int).length : Int) := of_decide_eq_true c
      rw [List.length_map] at c'
      have hk : k < ns.length := by omega
      refine ⟨_, rfl, _, rfl, a, _, _, .int (cellZ ns k), rfl, rfl, hS, atI_nat ?_, q⟩
      rw [List.getElem?_map, List.getElem?_eq_getElem hk]
      simp [cellZ, List.getD, List.getElem?_eq_getElem hk]
    · have c' : ¬ (k : Int) < ((ns.map V.int).length : Int) := fun z => c (decide_eq_true z)
      rw [List.length_map] at c'
      have e : cellZ ns k = 0 := by
        unfold cellZ
        rw [List.getD_eq_getElem?_getD, List.getElem?_eq_none (by omega)]
        rfl
      rw [e] at q
      exact q
theorem ok_mixed (F : Fun K "_law_mixed" "_law_mixed" s__law_mixed f fd) (B : Bi mg) : FnOk P w K mg base CX0 1 f fd ["_law_cell_here", "_law_k"] lpMixed := by
  refine F.ok sc__law_mixed (fun vs H Q E h => ?_) (fun cdv A outer s H vs Q E hr h => ⟨_, (rd__law_mixed B hr).2, ?_⟩)
  · obtain ⟨c, k, rfl, _⟩ := h
    rfl
  · obtain ⟨c, k, rfl, hk, hk2, q⟩ := h
    have h1 : 0 ≤ (c + 7919 * k) * 48271 % 2147483647 := Int.emod_nonneg _ (by decide)
    have h2 : (c + 7919 * k) * 48271 % 2147483647 < 2147483647 := Int.emod_lt_of_pos _ (by decide)
    iterate 12 walk_at "i"
    refine ⟨_, _, rfl, rfl, .inl ⟨?_, ?_⟩, ?_⟩
    · show -(2 ^ 64) < (c + 7919 * k) * 48271 % 2147483647
      omega
    · show (c + 7919 * k) * 48271 % 2147483647 < 2 ^ 64
      omega
    walk_at "i"
    exact q
theorem ok_reading (F : Fun K "_law_reading" "_law_reading" s__law_reading f fd) (B : Bi mg) (cm : CalK P w K mg base 1 "_law_mixed" lpMixed) : FnOk P w K mg base CX0 2 f fd ["_law_cell_here"] lpReading := by
  refine F.ok sc__law_reading (fun vs H Q E h => ?_) (fun cdv A outer s H vs Q E hr h => ⟨_, (rd__law_reading B hr cm).2, ?_⟩)
  · obtain ⟨c, rfl, _⟩ := h
    rfl
  · obtain ⟨c, rfl, q⟩ := h
    have hm := mixed_range c 1
    refine ⟨_, rfl, c, 1, rfl, by decide, by decide, ?_⟩
    unfold readingOf at q
    dsimp only at q
    generalize mixedOf c 1 = n at hm q
    iterate 2 walk_at "i"
    refine ⟨rfl, _, rfl, ite2 (fun e => ?_) (fun e => ?_)⟩
    · rw [if_pos (vint_eq e)] at q
      iterate 4 walk_at "i"
      exact q H (Same.refl H)
    rw [if_neg (vint_ne e)] at q
    iterate 2 walk_at "i"
    refine ⟨rfl, _, rfl, ite2 (fun e => ?_) (fun e => ?_)⟩
    · rw [if_pos (vint_eq e)] at q
      iterate 4 walk_at "i"
      exact q H (Same.refl H)
    rw [if_neg (vint_ne e)] at q
    iterate 3 walk_at "i"
    refine ⟨rfl, _, rfl, ite2 (fun e => ?_) (fun e => ?_)⟩
    · rw [if_pos (vint_eq e)] at q
      iterate 3 walk_at "i"
      refine ⟨by show 2 ≤ sizeLine; decide, fun p hp => ?_⟩
      iterate 3 walk_at "i"
      rcases (show n / 27 % 2 = 0 ∨ n / 27 % 2 = 1 by omega) with z | z
      · rw [if_pos z] at q
        exact ⟨p, _, _, _, rfl, rfl, .inl (.inl upd_same), at_of (j := 0) z rfl, q _ (same_upd hp)⟩
      · rw [if_neg (by omega)] at q
        exact ⟨p, _, _, _, rfl, rfl, .inl (.inl upd_same), at_of (j := 1) z rfl, q _ (same_upd hp)⟩
    · rw [if_neg (vint_ne e)] at q
      iterate 2 walk_at "i"
      refine ⟨_, _, rfl, rfl, .inl ⟨by show -(2 ^ 64) < n; omega, by show n < 2 ^ 64; omega⟩, ?_⟩
      iterate 6 walk_at "i"
      exact q H (Same.refl H)
theorem ok_times (F : Fun K "_law_times" "_law_times" s__law_times f fd) (B : Bi mg) (cm : CalK P w K mg base 1 "_law_mixed" lpMixed) : FnOk P w K mg base CX0 2 f fd ["_law_cell_here", "_law_great"] lpTimes := by
  refine F.ok sc__law_times (fun vs H Q E h => ?_) (fun cdv A outer s H vs Q E hr h => ⟨_, (rd__law_times B hr cm).2, ?_⟩)
  · obtain ⟨c, g, rfl, _⟩ := h
    rfl
  · obtain ⟨c, g, rfl, q⟩ := h
    have hm := mixed_range c 2
    refine ⟨_, rfl, c, 2, rfl, by decide, by decide, ?_⟩
    unfold timesOf at q
    dsimp only at q
    generalize mixedOf c 2 = n at hm q
    iterate 2 walk_at "i"
    refine ⟨_, _, rfl, rfl, _, rfl, ite2 (fun e => ?_) (fun e => ?_)⟩
    · rw [if_pos (of_decide_eq_true e)] at q
      exact q H (Same.refl H)
    rw [if_neg (fun z => e (decide_eq_true z))] at q
    cases g with
    | false =>
      refine ⟨_, rfl, false, rfl, iteT ?_⟩
      iterate 3 walk_at "i"
      refine ⟨rfl, _, rfl, ite2 (fun e1 => ?_) (fun e1 => ?_)⟩
      · rw [if_pos ⟨rfl, vint_eq e1⟩] at q
        iterate 4 walk_at "i"
        exact q H (Same.refl H)
      rw [if_neg (fun z => vint_ne e1 z.2), if_pos (.inr rfl)] at q
      iterate 2 walk_at "i"
      refine ⟨rfl, _, rfl, ite2 (fun e2 => iteT ?_) (fun e2 => ?_)⟩
      · iterate 4 walk_at "i"
        exact q H (Same.refl H)
      · refine ⟨_, rfl, false, rfl, iteT ?_⟩
        iterate 4 walk_at "i"
        exact q H (Same.refl H)
    | true =>
      refine ⟨_, rfl, true, rfl, iteF (iteF ?_)⟩
      rw [if_neg (fun z => Bool.noConfusion z.1)] at q
      iterate 2 walk_at "i"
      refine ⟨rfl, _, rfl, ite2 (fun e2 => iteT ?_) (fun e2 => ?_)⟩
      · rw [if_pos (.inl (vint_eq e2))] at q
        iterate 4 walk_at "i"
        exact q H (Same.refl H)
      rw [if_neg (fun z => z.elim (vint_ne e2) (fun y => Bool.noConfusion y))] at q
      refine ⟨_, rfl, true, rfl, iteF ?_⟩
      iterate 3 walk_at "i"
      refine ⟨rfl, _, rfl, ite2 (fun e3 => ?_) (fun e3 => ?_)⟩
      · rw [if_pos (vint_eq e3)] at q
        walk_at "i"
        exact q H (Same.refl H)
      rw [if_neg (vint_ne e3)] at q
      iterate 2 walk_at "i"
      refine ⟨_, _, rfl, rfl, .inl ⟨by show -(2 ^ 64) < n; omega, by show n < 2 ^ 64; omega⟩, ?_⟩
      iterate 2 walk_at "i"
      refine ⟨by show 3 ≤ sizeLine; decide, fun p hp => ?_⟩
      iterate 3 walk_at "i"
      rcases (show n / 36 % 3 = 0 ∨ n / 36 % 3 = 1 ∨ n / 36 % 3 = 2 by omega) with z | z | z
      · rw [if_pos z] at q
        exact ⟨p, _, _, _, rfl, rfl, .inl (.inl upd_same), at_of (j := 0) z rfl, _, _, rfl, rfl, by show (0 : Int) < _; decide, _, _, rfl, rfl, q _ (same_upd hp)⟩
      · rw [if_neg (by omega), if_pos z] at q
        exact ⟨p, _, _, _, rfl, rfl, .inl (.inl upd_same), at_of (j := 1) z rfl, _, _, rfl, rfl, by show (0 : Int) < _; decide, _, _, rfl, rfl, q _ (same_upd hp)⟩
      · rw [if_neg (by omega), if_neg (by omega)] at q
        exact ⟨p, _, _, _, rfl, rfl, .inl (.inl upd_same), at_of (j := 2) z rfl, _, _, rfl, rfl, by show (0 : Int) < _; decide, _, _, rfl, rfl, q _ (same_upd hp)⟩
theorem ok_keep (F : Fun K "_law_keep" "_law_keep" s__law_keep f fd) (B : Bi mg) : FnOk P w K mg base CX0 1 f fd ["_law_cell_here"] lpKeep := by
  refine F.ok sc__law_keep (fun vs H Q E h => ?_) (fun cdv A outer s H vs Q E hr h => ⟨_, (rd__law_keep B hr).2, ?_⟩)
  · obtain ⟨c, rfl, _⟩ := h
    rfl
  · obtain ⟨c, rfl, q⟩ := h
    unfold keepOf at q
    iterate 2 walk_at "i"
    refine ⟨rfl, _, rfl, ite2 (fun e => ?_) (fun e => ?_)⟩
    · rw [if_pos (vint_eq e)] at q
      iterate 4 walk_at "i"
      exact q
    · rw [if_neg (vint_ne e)] at q
      iterate 4 walk_at "i"
      exact q
theorem ok_deeds (F : Fun K "_law_deeds" "_law_deeds" s__law_deeds f fd) (B : Bi mg) (cm : CalK P w K mg base 1 "_law_mixed" lpMixed) (ct : CalK P w K mg base 2 "_law_times" lpTimes) (cr : CalK P w K mg base 2 "_law_reading" lpReading) : FnOk P w K mg base CX0 3 f fd ["_law_cells", "_law_great"] (lpDeeds K) := by
  refine F.ok sc__law_deeds (fun vs H Q E h => ?_) (fun cdv A outer s H vs Q E hr h => ⟨_, (rd__law_deeds B hr cm ct cr).2, ?_⟩)
  · obtain ⟨a, cs, g, rfl, _⟩ := h
    rfl
  · obtain ⟨a, cs, g, rfl, hS, hlen, q⟩ := h
    refine ⟨by show 0 ≤ sizeLine; decide, fun L hL => ?_⟩
    have hS1 := (same_upd (o := .lst []) hL).seq hS
    refine ⟨_, rfl, a, cs.map V.int, rfl, hS1, for_it (walk_enum (xs := cs.map V.int))
      (fun i σ H1 => ∃ y3 y4 y5 y6 xs, σ = [some (.ref a), some (.bl g), some (.ref L), y3, y4, y5, y6] ∧ Same H H1 ∧ H1 L = some (.lst xs) ∧ PySem.W.EachIs (DeedAt H1) xs (deedsOf (cs.take i) g))
      ⟨none, none, none, none, [], rfl, same_upd hL, upd_same, .nil⟩ ?_ ?_ ?_⟩
    · rintro i σ H1 _ ⟨y3, y4, y5, y6, xs, rfl, s1, _⟩
      exact s1.seq hS
    · rintro i x σ H1 H2 hi ⟨y3, y4, y5, y6, xs, rfl, s1, hL1, he⟩ ⟨T, x1, x2, rfl, hT, rfl, f1, f2⟩
      have g1 : x1 = .int (i : Int) := (Option.some.inj f1).symm
      subst g1
      rw [List.length_map] at hi
      have hc : cs[i]? = some cs[i] := List.getElem?_eq_getElem hi
      have g2 : x2 = .int cs[i] := by
        have f2 : (List.map V.int cs)[i]? = some x2 := f2
        rw [List.getElem?_map, hc] at f2
        exact (Option.some.inj f2).symm
      subst g2
      have hxs : xs.length < sizeLine := small5 (by
        rw [he.length]
        unfold deedsOf
        rw [List.length_mapIdx, List.length_take]
        omega)
      have sT := s1.trans (same_upd (o := .tup [.int (i : Int), .int cs[i]]) hT)
      have hLT := (same_upd (o := .tup [.int (i : Int), .int cs[i]]) hT) _ _ hL1
      have heT : PySem.W.EachIs (DeedAt (upd H1 T (.tup [.int (i : Int), .int cs[i]]))) xs (deedsOf (cs.take i) g) := he.mono fun _ _ k => k.same (same_upd hT)
      have hds := deeds_snoc g hc
      have hmx := mixed_range cs[i] (3 + (i : Int))
      refine ⟨T, [.int (i : Int), .int cs[i]], rfl, .inl (.inl upd_same), rfl, _, _, rfl, _, _, rfl, rfl, ?_⟩
      revert sT hLT heT
      generalize upd H1 T (.tup [.int (i : Int), .int cs[i]]) = H3
      intro sT hLT heT
      generalize cs[i] = c at hds hmx
      iterate 3 walk_at "i"
      refine ⟨c, 3 + (i : Int), rfl, by omega, by omega, ?_⟩
      unfold deedOf at hds
      dsimp only at hds
      generalize mixedOf c (3 + (i : Int)) = n at hmx hds
      -- what comes behind an append
      have fin : ∀ {H4 : Hp} {d : Deed} {cu : Int} {tv : List V}, Same H3 H4 → deedsOf (cs.take (i + 1)) g = deedsOf (cs.take i) g ++ [d] → ∀ u, H4 u = none → deedV d = tv → ∃ y3 y4 y5 y6 xs', [some (V.ref a), some (.bl g), some (.ref L), some (.int (i : Int)), some (.int c), some (.int n), some (.int cu)] = [some (.ref a), some (.bl g), some (.ref L), y3, y4, y5, y6] ∧
          Same H (upd (upd H4 u (.tup tv)) L (.lst (xs ++ [V.ref u]))) ∧ (upd (upd H4 u (.tup tv)) L (.lst (xs ++ [V.ref u]))) L = some (.lst xs') ∧ PySem.W.EachIs (DeedAt (upd (upd H4 u (.tup tv)) L (.lst (xs ++ [V.ref u])))) xs' (deedsOf (cs.take (i + 1)) g) := by
        intro H4 d cu tv s4 hd u nu ev
        subst ev
        have sU := s4.trans (same_upd (o := .tup (deedV d)) nu)
        have hLU := sU _ _ hLT
        refine ⟨_, _, _, _, xs ++ [V.ref u], rfl, fun b o e => ?_, upd_same, ?_⟩
        · rw [upd_ne (ne_of_none e hL)]
          exact sU _ _ (sT _ _ e)
        · rw [hd]
          exact eachIs_snoc ((heT.mono fun _ _ k => k.same sU).mono fun _ _ k => k.upd hLU) (DeedAt.upd hLU ⟨u, rfl, upd_same⟩)
      have tn : ∀ z : Int, 0 ≤ z → ((z.toNat : Nat) : Int) = z := fun z h => Int.toNat_of_nonneg h
      iterate 5 walk_at "i"
      refine ⟨_, _, rfl, rfl, _, rfl, ite2 (fun z => ?_) (fun z => ?_)⟩
      · rw [if_pos (of_decide_eq_true z)] at hds
        refine ⟨_, rfl, .inl ⟨rfl, _, .inl (.inl hLT)⟩, _, rfl, _, rfl, _, rfl, _, _, rfl, rfl, c + (i : Int), rfl, fun H4 s4 => ?_⟩
        refine ⟨_, rfl, _, rfl, _, _, rfl, rfl, _, rfl, c + (i : Int), g, rfl, fun H5 s5 => ?_⟩
        refine ⟨by show 5 ≤ sizeLine; decide, fun u nu => ?_⟩
        refine ⟨L, xs, _, rfl, rfl, (((s4.trans s5).trans (same_upd nu)) _ _ hLT), hxs, ?_⟩
        exact fin (s4.trans s5) hds u nu (by
          show [V.int (((n / 8 % 3).toNat : Nat) : Int), _, V.int ((1 : Nat) : Int), _, _] = _
          rw [tn _ (by omega)]
          rfl)
      rw [if_neg (fun y => z (decide_eq_true y))] at hds
      iterate 2 walk_at "i"
      refine ⟨_, _, rfl, rfl, _, rfl, ite2 (fun z => ?_) (fun z => ?_)⟩
      · rw [if_pos (of_decide_eq_true z)] at hds
        refine ⟨_, rfl, .inl ⟨rfl, _, .inl (.inl hLT)⟩, _, rfl, _, rfl, _, rfl, _, _, rfl, rfl, c + (i : Int), rfl, fun H4 s4 => ?_⟩
        iterate 9 walk_at "i"
        refine ⟨by show 5 ≤ sizeLine; decide, fun u nu => ?_⟩
        refine ⟨L, xs, _, rfl, rfl, ((s4.trans (same_upd nu)) _ _ hLT), hxs, ?_⟩
        exact fin s4 hds u nu (by
          show [V.int (((n / 8 % 3).toNat : Nat) : Int), _, V.int (((1 + n / 24 % 14).toNat : Nat) : Int), _, _] = _
          rw [tn _ (by omega), tn _ (by omega)])
      · rw [if_neg (fun y => z (decide_eq_true y))] at hds
        refine ⟨_, rfl, .inl ⟨rfl, _, .inl (.inl hLT)⟩, _, rfl, ?_⟩
        iterate 3 walk_at "i"
        refine ⟨by show 2 ≤ sizeLine; decide, fun u nu => ?_⟩
        refine ⟨L, xs, _, rfl, rfl, (same_upd nu _ _ hLT), hxs, ?_⟩
        exact fin (Same.refl H3) hds u nu (by
          show [V.int (((n / 8 % 3).toNat : Nat) : Int), V.int (((n / 24 % 3).toNat : Nat) : Int)] = _
          rw [tn _ (by omega), tn _ (by omega)])
    · rintro σ H1 ⟨y3, y4, y5, y6, xs, rfl, s1, hL1, he⟩
      rw [List.length_map, List.take_length] at he
      exact ⟨_, rfl, q H1 L xs s1 hL hL1 he⟩
theorem ok_off (F : Fun K "_law_off" "_law_off" s__law_off f fd) (B : Bi mg) : FnOk P w K mg base CX0 1 f fd ["_law_count", "_law_keep_here"] lpOff := by
  refine F.ok sc__law_off (fun vs H Q E h => ?_) (fun cdv A outer s H vs Q E hr h => ⟨_, (rd__law_off B hr).2, ?_⟩)
  · obtain ⟨n, k, rfl, _⟩ := h
    rfl
  · obtain ⟨n, k, rfl, hk, hk2, hn, q⟩ := h
    have hq : n / k < 2 ^ 200 := Nat.lt_of_le_of_lt (Nat.div_le_self n k) hn
    refine ⟨_, rfl, _, rfl, _, _, rfl, rfl, wide_div (b := 7) (by omega) (by omega) (by decide) (by decide), _, _, _, rfl, ?_⟩
    refine ⟨fun m σ H1 => ∃ fo le j : Nat, le = m ∧ σ = [some (.int (n : Int)), some (.int (k : Int)), some (.int (fo : Int)), some (.int (le : Int)), some (.int ((2 ^ j : Nat) : Int)), some (.int (j : Int))] ∧ H1 = H ∧ fo + offD le j = offN n k ∧ le * 2 ^ j ≤ n / k,
      ⟨_, 0, n / k, 0, rfl, rfl, rfl, by unfold offN; omega, by omega⟩, ?_⟩
    rintro m σ H1 ⟨fo, le, j, rfl, rfl, rfl, ho, hle⟩
    refine ⟨_, rfl, _, _, rfl, rfl, _, rfl, ite2 (fun c => ?_) (fun c => ?_)⟩
    · have c1 : (0 : Int) < (le : Int) := of_decide_eq_true c
      have hp : 2 ^ j < 2 ^ 200 := by
        have : 1 * 2 ^ j ≤ le * 2 ^ j := Nat.mul_le_mul_right _ (by omega)
        omega
      have hj : j < 2 ^ 200 := Nat.lt_trans Nat.lt_two_pow_self hp
      have hd : offD le j = (if le % 2 = 1 then j * 2 ^ j / 2 else 0) + offD (le / 2) (j + 1) := by
        rw [offD]
        rw [dif_neg (by omega)]
      have hle' : le / 2 * 2 ^ (j + 1) ≤ n / k := by
        have e : le / 2 * 2 ^ (j + 1) = (le / 2 * 2) * 2 ^ j := by rw [Nat.pow_succ, Nat.mul_assoc, Nat.mul_comm 2 (2 ^ j)]
        have : (le / 2 * 2) * 2 ^ j ≤ le * 2 ^ j := Nat.mul_le_mul_right _ (by omega)
        omega
      have wm : CMulW (j : Int) ((2 ^ j : Nat) : Int) := wide_mul (a := 200) (b := 200) (by simpa using hj) (by simpa using hp) (by decide) (by decide) (by decide)
      have wh : CMulW ((2 ^ j : Nat) : Int) 2 := wide_mul (a := 200) (b := 2) (by simpa using hp) (by decide) (by decide) (by decide) (by decide)
      have ep : ((2 ^ j : Nat) : Int) * 2 = ((2 ^ (j + 1) : Nat) : Int) := by
        rw [Nat.pow_succ]
        omega
      have el : (le : Int) / 2 = ((le / 2 : Nat) : Int) := by omega
      -- what is behind the if
      have rest : ∀ fo' : Nat, fo' + offD (le / 2) (j + 1) = offN n k → ∃ m', m' < le ∧ ∃ fo le' j' : Nat, le' = m' ∧ [some (V.int (n : Int)), some (.int (k : Int)), some (.int (fo' : Int)), some (.int ((le / 2 : Nat) : Int)), some (.int ((2 ^ (j + 1) : Nat) : Int)), some (.int ((j + 1 : Nat) : Int))] = [some (.int (n : Int)), some (.int (k : Int)), some (.int (fo : Int)), some (.int (le' : Int)), some (.int ((2 ^ j' : Nat) : Int)), some (.int (j' : Int))] ∧ H1 = H1 ∧ fo + offD le' j' = offN n k ∧ le' * 2 ^ j' ≤ n / k :=
        fun fo' hf => ⟨le / 2, by omega, fo', le / 2, j + 1, rfl, rfl, rfl, hf, hle'⟩
      refine ⟨_, fun σ' H' h => h, ?_⟩
      iterate 2 walk_at "i"
      refine ⟨rfl, _, rfl, ite2 (fun z => ?_) (fun z => ?_)⟩
      · have z1 := vint_eq z
        have zo : fo + j * 2 ^ j / 2 + offD (le / 2) (j + 1) = offN n k := by
          rw [hd, if_pos (by omega)] at ho
          omega
        refine ⟨_, rfl, _, rfl, _, rfl, _, _, rfl, rfl, wm, _, _, rfl, rfl, ⟨by decide, by decide⟩, _, _, rfl, rfl, ?_⟩
        refine ⟨_, rfl, _, _, rfl, rfl, ⟨by decide, by decide⟩, _, rfl, _, _, rfl, rfl, wh, _, rfl, _, _, rfl, rfl, ?_⟩
        have := rest _ zo
        rw [← el, ← ep] at this
        exact this
      · have z1 := vint_ne z
        have zo : fo + offD (le / 2) (j + 1) = offN n k := by
          rw [hd, if_neg (by omega)] at ho
          omega
        refine ⟨_, rfl, _, _, rfl, rfl, ⟨by decide, by decide⟩, _, rfl, _, _, rfl, rfl, wh, _, rfl, _, _, rfl, rfl, ?_⟩
        have := rest _ zo
        rw [← el, ← ep] at this
        exact this
    · have c1 : ¬ (0 : Int) < (le : Int) := fun z => c (decide_eq_true z)
      have : le = 0 := by omega
      subst this
      have hz : offD 0 j = 0 := by rw [offD]; rfl
      rw [hz] at ho
      rw [show offN n k = fo by omega] at q
      exact ⟨_, rfl, q⟩
theorem ok_played (F : Fun K "_law_played" "_law_played" s__law_played f fd) (B : Bi mg) (cc : CalK P w K mg base 1 "_law_cell" (lpCell K)) (cd : CalK P w K mg base 3 "_law_deeds" (lpDeeds K)) (ck : CalK P w K mg base 1 "_law_keep" lpKeep) : FnOk P w K mg base CX0 4 f fd ["_law_script", "_law_first", "_law_most", "_law_great"] (lpPlayed K) := by
  refine F.ok sc__law_played (fun vs H Q E h => ?_) (fun cdv A outer s H vs Q E hr h => ⟨_, (rd__law_played B hr cc cd ck).2, ?_⟩)
  · obtain ⟨a, ns, first, most, g, rfl, _⟩ := h
    rfl
  · obtain ⟨a, ns, first, most, g, rfl, hS, hlen, q⟩ := h
    refine ⟨_, rfl, a, ns, 0, rfl, hS, ?_⟩
    generalize cellZ ns 0 = c
    -- the deeds of the cut, then the pair
    have fin : ∀ (lo hi : Option Int) (g' : Bool) (keep : Int) (D : VK), 1 ≤ keep → keep ≤ 64 → (∀ v H', Q v H' → D v H') → ∀ p, H p = none → lpDeeds K ([V.ref p, .bl g'] ++ []) (upd H p (.lst (cutV (ns.map V.int) lo hi))) (fun v H' => [V.int keep, v].length ≤ sizeLine ∧ ∀ u, H' u = none → D (.ref u) (upd H' u (.tup [.int keep, v]))) E0 := by
      intro lo hi g' keep D k1 k2 hD p np
      obtain ⟨cs, ec, lc⟩ := cut_map ns lo hi
      rw [ec]
      refine ⟨p, cs, g', rfl, .inl (.inl upd_same), by omega, fun H' u ds s' nu hu he => ⟨by show 2 ≤ sizeLine; decide, fun t nt => hD _ _ (q _ t u ds keep (deedsOf cs g') (((same_upd np).trans s').trans (same_upd nt)) upd_same (same_upd nt _ _ hu) (he.mono fun _ _ k => k.same (same_upd nt)) k1 k2 ?_ (deeds_ok cs g'))⟩⟩
      unfold deedsOf
      rw [List.length_mapIdx]
      omega
    have kr := keep_range c
    refine ⟨_, rfl, g, rfl, ?_⟩
    cases g with
    | true =>
      refine iteT ?_
      iterate 3 walk_at "i"
      refine ⟨rfl, _, rfl, ite2 (fun z => ?_) (fun z => ?_)⟩
      · iterate 5 walk_at "i"
        exact ⟨_, rfl, _, rfl, _, rfl, _, _, rfl, rfl, _, rfl, a, _, rfl, hS, fun p np => fin _ _ true _ _ (by omega) (by omega) (fun _ _ h => h) p np⟩
      · refine ⟨_, rfl, c, rfl, ?_⟩
        refine ⟨_, rfl, _, _, rfl, rfl, _, rfl, ite2 (fun y => ?_) (fun y => ?_)⟩
        · exact ⟨_, rfl, _, rfl, _, rfl, _, rfl, _, rfl, _, rfl, _, _, rfl, rfl, _, rfl, a, _, rfl, hS, fun p np => fin _ _ false _ _ kr.1 kr.2 (fun _ _ h => h) p np⟩
        · exact ⟨_, rfl, _, rfl, _, rfl, _, rfl, _, rfl, _, rfl, _, _, rfl, rfl, _, rfl, a, _, rfl, hS, fun p np => fin _ _ false _ _ kr.1 kr.2 (fun _ _ h => h) p np⟩
    | false =>
      refine iteF (iteF ?_)
      refine ⟨_, rfl, c, rfl, ?_⟩
      refine ⟨_, rfl, _, _, rfl, rfl, _, rfl, ite2 (fun y => ?_) (fun y => ?_)⟩
      · exact ⟨_, rfl, _, rfl, _, rfl, _, rfl, _, rfl, _, rfl, _, _, rfl, rfl, _, rfl, a, _, rfl, hS, fun p np => fin _ _ false _ _ kr.1 kr.2 (fun _ _ h => h) p np⟩
      · exact ⟨_, rfl, _, rfl, _, rfl, _, rfl, _, rfl, _, rfl, _, _, rfl, rfl, _, rfl, a, _, rfl, hS, fun p np => fin _ _ false _ _ kr.1 kr.2 (fun _ _ h => h) p np⟩
theorem ok_done (A : CupApi R C_Cup) (F : Fun K "_law_done" "_law_done" s__law_done f fd) (B : Bi mg) (cp : MetN P w K mg base 10 C_Cup "pour" (apPour R T C_UnlikeCups)) (ca : MetN P w K mg base 10 C_Cup "add" (apAdd R T C_BadReading C_BadTimes)) : FnOk P w K mg base CX0 11 f fd ["_law_cups", "_law_deed"] (lpDone4 R T) := by
  refine F.ok sc__law_done (fun vs H Q E h => ?_) (fun cdv Ar outer s H vs Q E hr h => ⟨_, (rd__law_done B hr cp ca).2, ?_⟩)
  · obtain ⟨l, p, as, ks, rows, es, S, D, dd, rfl, _⟩ := h
    rfl
  · obtain ⟨l, p, as, ks, rows, es, S, D, dd, rfl, hT, hl, hp, dok, hc, nl, np, hcup, hpour, hlen, q⟩ := h
    cases dd with
    | pour c sc =>
      obtain ⟨hsl, hks⟩ := hpour c sc rfl
      have hcup : c < as.length := hcup
      have ha : as[c]? = some as[c] := List.getElem?_eq_getElem hcup
      have hb : as[sc]? = some as[sc] := List.getElem?_eq_getElem hsl
      generalize hae : as[c] = a at ha
      generalize hbe : as[sc] = b at hb
      have ra := hc.at_ c a ha
      have rb := hc.at_ sc b hb
      obtain ⟨dx, fs, hia, _, _, hpo, _⟩ := A.inst ra
      refine ⟨_, rfl, p, _, rfl, .inr (.inl (.inl hp)), rfl, _, rfl, iteT ?_⟩
      refine ⟨_, rfl, _, rfl, p, _, _, _, rfl, rfl, .inl (.inl hp), atI_nat (j := 0) rfl, l, _, _, _, rfl, rfl, .inl (.inl hl), atI_nat (j := c) (by rw [List.getElem?_map, ha]; rfl), a, dx, fs, rfl, hia, hpo, ?_⟩
      refine ⟨_, rfl, _, rfl, p, _, _, _, rfl, rfl, .inl (.inl hp), atI_nat (j := 1) rfl, l, _, _, _, rfl, rfl, .inl (.inl hl), atI_nat (j := sc) (by rw [List.getElem?_map, hb]; rfl), ?_⟩
      refine ⟨a, b, ks c, ks sc, rows c, rows sc, es c, es sc, S c, D c, S sc, D sc, rfl, hT, ra, rb, ?_, fun _ => ?_, fun _ H' es' S' D' hT' r' ch hs hd => ?_, fun z => absurd hks z⟩
      · have h1 := hlen c hcup
        have h2 := hlen sc hsl
        omega
      · by_cases e : c = sc
        · subst e
          rw [ha] at hb
          cases hb
          exact .inl ⟨rfl, rfl, rfl, rfl⟩
        · exact .inr ⟨hc.apart c sc hcup hsl e, hc.apart sc c hsl hcup (Ne.symm e)⟩
      · refine ⟨rfl, ?_⟩
        rw [decide_eq_true rfl]
        refine q H' _ _ _ hT' (hc.move A ha r' ch hs fun x h => ?_) (ch.un hcup) (un_set hcup hs) (un_setU fun x h => (hd x h).elim (fun z => .inl ⟨c, hcup, z⟩) fun z => z.elim (fun z => .inl ⟨sc, hsl, z.1⟩) .inr)
        rcases hd x h with h | h | h
        · exact .inl h
        · by_cases e : sc = c
          · rw [e] at h
            exact .inl h.1
          · exact .inr (.inl ⟨sc, hsl, e, h.1, h.2⟩)
        · exact .inr (.inr h)
    | add c x n step t =>
      have hcup : c < as.length := hcup
      have ha : as[c]? = some as[c] := List.getElem?_eq_getElem hcup
      generalize hae : as[c] = a at ha
      obtain ⟨hn14, ht, hx⟩ := dok.ok
      obtain ⟨t', rfl⟩ : ∃ t' : Nat, t = (t' : Int) := ⟨t.toNat, by omega⟩
      refine ⟨_, rfl, p, _, rfl, .inr (.inl (.inl hp)), rfl, _, rfl, iteF ?_⟩
      refine ⟨_, rfl, p, _, _, _, rfl, rfl, .inl (.inl hp), atI_nat (j := 2) rfl, _, rfl, by omega, by omega, ?_⟩
      refine for_range (lo := 0) (n := ((n : Int)).toNat) (fun i σ H' => ∃ y2 es' S' D', σ = [some (.ref l), some (.ref p), y2] ∧ Tabs T H' ∧ CupsAt R H' as ks (setAt rows c (comeRow (rows c) x i step t')) es' S' D' ∧ Chg (Un as.length S) H H' ∧ (∀ b, Un as.length S' b → Un as.length S b ∨ NewN H b) ∧ ∀ b, Un as.length D' b → Un as.length D b ∨ NewN H b)
        ⟨none, es, S, D, rfl, hT, by rw [comeRow_zero, setAt_self]; exact hc, Chg.of (ExtN.refl H), fun b h => .inl h, fun b h => .inl h⟩ ?_ ?_
      · rintro i σ H' hi ⟨y2, es', S', D', rfl, hT', hc', ch', un', ud'⟩
        rw [show ((0 : Int) + (i : Int)) = (i : Int) from Int.zero_add _]
        have hi' : i < n := by omega
        have hl' := ch' _ _ hl (fun ps z => nomatch z) nl
        have hp' := ch' _ _ hp (fun ps z => nomatch z) np
        have ra := hc'.at_ c a ha
        rw [setAt_same] at ra
        obtain ⟨dx, fs, hia, _, had, _⟩ := A.inst ra
        refine ⟨_, rfl, _, rfl, p, _, _, _, rfl, rfl, .inl (.inl hp'), atI_nat (j := 0) rfl, l, _, _, _, rfl, rfl, .inl (.inl hl'), atI_nat (j := c) (by rw [List.getElem?_map, ha]; rfl), a, dx, fs, rfl, hia, had, ?_⟩
        refine ⟨_, rfl, p, _, _, _, rfl, rfl, .inl (.inl hp'), atI_nat (j := 1) rfl, _, rfl, _, rfl, p, _, _, _, rfl, rfl, .inl (.inl hp'), atI_nat (j := 3) rfl, _, _, rfl, rfl, .inl ⟨by show -(2 ^ 64) < (i : Int); omega, by show (i : Int) < 2 ^ 64; omega⟩, _, _, rfl, rfl, ?_⟩
        refine ⟨_, rfl, p, _, _, _, rfl, rfl, .inl (.inl hp'), atI_nat (j := 4) rfl, ?_⟩
        refine ⟨a, ks c, _, es' c, S' c, D' c, _, _, rfl, hT', ra, .inl ⟨x + (i : Int) * step, t', rfl, rfl, hx i hi', ht, ?_, fun H2 es2 S2 D2 hT2 r2 mv => ?_⟩⟩
        · rw [comeRow_length]
          have h1 := hlen c hcup
          have h2 : i * t' ≤ 14 * 1000000000 := Nat.mul_le_mul (by omega) (by omega)
          omega
        · refine ⟨rfl, _, rfl, ?_⟩
          have hcup : c < as.length := hcup
          have mv2 := hc'.move A ha r2 mv.chg mv.s fun x h => (mv.d x h).elim .inl fun z => .inr (.inr z)
          rw [setAt_twice, ← comeRow_succ] at mv2
          exact iteNS rfl ⟨_, setAt es' c es2, setAt S' c S2, setAt D' c D2, rfl, hT2, mv2, ch'.trans (mv.chg.un hcup) un', un_trans ch' un' (un_set hcup mv.s), un_transD ch' (hc.sub A) ud' (un_setU fun x h => (mv.d x h).elim (fun z => .inl ⟨c, hcup, z⟩) .inr)⟩
      · rintro σ H' ⟨y2, es', S', D', rfl, hT', hc', ch', un', ud'⟩
        refine q H' es' S' D' hT' ?_ ch' un' ud'
        show CupsAt R H' as ks (setAt rows c (comeRow (rows c) x n step ((t' : Int)).toNat)) es' S' D'
        exact hc'
theorem ok_come (F : Fun K "_law_come" "_law_come" s__law_come f fd) (B : Bi mg) : FnOk P w K mg base CX0 1 f fd ["_law_rows", "_law_deed"] (lpCome4 K) := by
  refine F.ok sc__law_come (fun vs H Q E h => ?_) (fun cdv A outer s H vs Q E hr h => ⟨_, (rd__law_come B hr).2, ?_⟩)
  · obtain ⟨a, p, d, as, rs, dd, rfl, _⟩ := h
    rfl
  · obtain ⟨a, p, d, as, rs, dd, rfl, ha, hrs, hp, dok, hd, hs2, hlen, q⟩ := h
    obtain ⟨r, hr1, hdr⟩ := eachIs_get hrs hd
    have hrl := hlen r (List.mem_of_getElem? hr1)
    have hda : a ≠ d := ne_of ha hdr (by intro z; cases z)
    have hdp : p ≠ d := ne_of hp hdr (by intro z; cases z)
    cases dd with
    | pour c sc =>
      have hd : as[c]? = some d := hd
      have hr1 : rs[c]? = some r := hr1
      have hsl := hs2 sc c rfl
      have hs : as[sc]? = some as[sc] := List.getElem?_eq_getElem hsl
      generalize as[sc] = d2 at hs
      obtain ⟨r2, hr2, hd2⟩ := eachIs_get hrs hs
      have hrl2 := hlen r2 (List.mem_of_getElem? hr2)
      have q : ∀ H', But d H H' → H' d = some (.dK (dk (pourZ r r2))) → Q .non H' := fun H' h1 h2 => q H' h1 (by
        show _ = some (HO.dK (dk ((rs.set c (pourZ (rs.getD c []) (rs.getD sc []))).getD c [])))
        rw [getD_set hr1, List.getD_eq_getElem?_getD, List.getD_eq_getElem?_getD, hr1, hr2]
        exact h2)
      refine ⟨_, rfl, _, rfl, p, _, _, _, rfl, rfl, .inl (.inl hp), atI_nat (j := 0) rfl, a, _, _, _, rfl, rfl, .inl (.inl ha), atI_nat (j := c) (by rw [List.getElem?_map, hd]; rfl), ?_⟩
      refine ⟨_, rfl, p, _, rfl, .inr (.inl (.inl hp)), rfl, _, rfl, iteT ?_⟩
      refine ⟨_, rfl, _, rfl, p, _, _, _, rfl, rfl, .inl (.inl hp), atI_nat (j := 1) rfl, a, _, _, _, rfl, rfl, .inl (.inl ha), atI_nat (j := sc) (by rw [List.getElem?_map, hs]; rfl), ?_⟩
      refine ⟨d2, dk r2, rfl, hd2, fun H1 l ts k nl nts nlt hl prd => ?_⟩
      have hz := paired_len prd
      have hz2 : (dk r2).length = r2.length := List.length_map ..
      have hl2 : l ≠ d := fun z => by rw [z, hdr] at nl; cases nl
      refine ⟨l, rfl, ⟨_, .inl (.inl hl)⟩, for_list (K := K) (a := l) (xs := ts.map V.ref) (fun i σ H' => ∃ y3 y4, σ = [some (.ref a), some (.ref p), some (.ref d), y3, y4, none] ∧ But d H1 H' ∧ H' d = some (.dK (dk (pourZ r (r2.take i))))) ⟨none, none, rfl, fun b o _ e => e, k _ _ hdr⟩ (fun i σ H' _ ⟨_, _, _, b1, _⟩ => .inl (.inl (b1 _ _ hl2 hl))) ?_ ?_⟩
      · rintro i y σ H' hi ⟨y3, y4, rfl, b1, b2⟩
        have hil : i < ts.length := by
          have := (List.getElem?_eq_some_iff.mp hi).1
          rwa [List.length_map] at this
        have ht : ts[i]? = some ts[i] := List.getElem?_eq_getElem hil
        rw [List.getElem?_map, ht] at hi
        cases hi
        have hn := nts _ (List.getElem_mem hil)
        generalize ts[i] = tt at ht hn
        obtain ⟨kv, hkv, htt⟩ := paired_get prd ht
        have hr3 : r2[i]? = some r2[i] := List.getElem?_eq_getElem (by omega)
        unfold dk at hkv
        rw [List.getElem?_map, hr3] at hkv
        cases hkv
        have htk : r2.take (i + 1) = r2.take i ++ [r2[i]] := by rw [List.take_succ, hr3]; rfl
        generalize r2[i] = pq at htk htt
        have ntd : tt ≠ d := fun z => by rw [z, hdr] at hn; cases hn
        refine ⟨tt, _, rfl, .inl (.inl (b1 _ _ ntd htt)), rfl, ?_⟩
        have hlp := pourZ_len r (r2.take i)
        have hlt := List.length_take_le' i r2
        generalize hcur : pourZ r (r2.take i) = cur at b2 hlp
        refine ⟨_, _, rfl, _, _, rfl, rfl, _, rfl, d, rfl, .inl ⟨_, .inl b2⟩, _, rfl, _, DGet.k (k := Sum.inl pq.1) b2, _, rfl, _, _, dk_getD _ _, rfl, _, rfl, _, rfl, d, _, rfl, DPut.k (k := Sum.inl pq.1) b2 (small5 ?_), ?_⟩
        · have : (dk cur).length = cur.length := List.length_map ..
          omega
        · refine ⟨_, _, rfl, fun b o hb e => ?_, ?_⟩
          · rw [upd_ne hb]
            exact b1 b o hb e
          · rw [upd_same, dk_put, htk, pourZ_snoc, hcur]
      · rintro σ H' ⟨y3, y4, rfl, b1, b2⟩
        rw [List.length_map, hz, hz2, List.take_length] at b2
        exact q H' (fun b o hb e => b1 b o hb (k b o e)) b2
    | add c x n step t =>
      have hd : as[c]? = some d := hd
      have hr1 : rs[c]? = some r := hr1
      refine ⟨_, rfl, _, rfl, p, _, _, _, rfl, rfl, .inl (.inl hp), atI_nat (j := 0) rfl, a, _, _, _, rfl, rfl, .inl (.inl ha), atI_nat (j := c) (by rw [List.getElem?_map, hd]; rfl), ?_⟩
      refine ⟨_, rfl, p, _, rfl, .inr (.inl (.inl hp)), rfl, _, rfl, iteF ?_⟩
      obtain ⟨hn14, _, _⟩ := dok.ok
      have q : ∀ H', But d H H' → H' d = some (.dK (dk (addZ r x n step t))) → Q .non H' := fun H' h1 h2 => q H' h1 (by
        show _ = some (HO.dK (dk ((rs.set c (addZ (rs.getD c []) x n step t)).getD c [])))
        rw [getD_set hr1, List.getD_eq_getElem?_getD, hr1]
        exact h2)
      refine ⟨_, rfl, p, _, _, _, rfl, rfl, .inl (.inl hp), atI_nat (j := 2) rfl, _, rfl, by omega, by omega, ?_⟩
      refine for_range (lo := 0) (n := ((n : Int)).toNat) (fun i σ H' => ∃ y3 y5, σ = [some (.ref a), some (.ref p), some (.ref d), y3, none, y5] ∧ But d H H' ∧ H' d = some (.dK (dk (addZ r x i step t)))) ⟨none, none, rfl, fun b o _ e => e, hdr⟩ ?_ ?_
      · rintro i σ H' hi ⟨y3, y5, rfl, b1, b2⟩
        have hlp := addZ_len r x step t i
        have hp' := b1 _ _ hdp hp
        generalize hcur : addZ r x i step t = cur at b2 hlp
        rw [show ((0 : Int) + (i : Int)) = (i : Int) from Int.zero_add _]
        have hi' : i < n := by omega
        refine ⟨_, rfl, p, _, _, _, rfl, rfl, .inl (.inl hp'), atI_nat (j := 1) rfl, _, rfl, _, rfl, p, _, _, _, rfl, rfl, .inl (.inl hp'), atI_nat (j := 3) rfl, _, _, rfl, rfl, .inl ⟨by show -(2 ^ 64) < (i : Int); omega, by show (i : Int) < 2 ^ 64; omega⟩, _, _, rfl, rfl, ?_⟩
        refine ⟨_, rfl, d, rfl, .inl ⟨_, .inl b2⟩, _, rfl, _, DGet.k (k := Sum.inl (x + (i : Int) * step)) b2, _, rfl, p, _, _, _, rfl, rfl, .inl (.inl hp'), atI_nat (j := 4) rfl, _, _, dk_getD _ _, rfl, _, rfl, _, rfl, d, _, rfl, DPut.k (k := Sum.inl (x + (i : Int) * step)) b2 (small5 ?_), ?_⟩
        · have : (dk cur).length = cur.length := List.length_map ..
          omega
        · refine ⟨_, _, rfl, fun b o hb e => ?_, ?_⟩
          · rw [upd_ne hb]
            exact b1 b o hb e
          · rw [upd_same, dk_put, addZ_succ, hcur]
      · rintro σ H' ⟨y3, y5, rfl, b1, b2⟩
        exact q H' b1 b2
theorem ok_less (F : Fun K "_law_less" "_law_less" s__law_less f fd) (B : Bi mg) : FnOk P w K mg base CX0 1 f fd ["_law_row", "_law_reading_here"] (lpLess K) := by
  refine F.ok sc__law_less (fun vs H Q E h => ?_) (fun cdv A outer s H vs Q E hr h => ⟨_, (rd__law_less B hr).2, ?_⟩)
  · obtain ⟨d, r, z, rfl, _⟩ := h
    rfl
  · obtain ⟨d, r, z, rfl, hd, nd, hl, q⟩ := h
    refine ⟨d, _, hd, trivial, fun od => ?_⟩
    refine lc_row (d := d) (od := od) (r := r) (f := fun x => decide (x < z)) nd hl upd_same (fun R h => ⟨_, rfl, h⟩) (fun x => rfl) (fun x H R h => ⟨_, rfl, _, rfl, _, _, rfl, rfl, _, rfl, h⟩) (fun x H R hx hF h => ⟨_, rfl, _, rfl, d, _, rfl, dget_frz hF hx, h⟩) fun D H' s' nD hD => ?_
    have ne : D ≠ d := fun y => by
      rw [y, upd_same] at nD
      cases nD
    refine ⟨s' _ _ upd_same, D, _, rfl, .inl (.inl (by rw [upd_ne ne]; exact hD)), ?_⟩
    rw [← wsum_filter (fun x => decide (x < z))]
    refine q _ fun b o e => ?_
    by_cases hb : b = d
    · subst hb
      rw [upd_same, ← hd]
      exact e
    · rw [upd_ne hb]
      exact s' _ _ (by rw [upd_ne hb]; exact e)
theorem ok_pair_right (F : Fun K "_law_pair_right" "_law_pair_right" s__law_pair_right f fd) (B : Bi mg) : FnOk P w K mg base CX0 1 f fd ["_law_found", "_law_due", "_law_most"] lpPairRight := by
  refine F.ok sc__law_pair_right (fun vs H Q E h => ?_) (fun cdv Ar outer s H vs Q E hr h => ⟨_, (rd__law_pair_right B hr).2, ?_⟩)
  · obtain ⟨t, lo, hi, due, most, rfl, _⟩ := h
    rfl
  · obtain ⟨t, lo, hi, due, most, rfl, ht, h1, h2, h3, q⟩ := h
    refine ⟨_, rfl, _, _, _, _, true, rfl, .ty _, .base (.tup ht), kit_ty (by decide +kernel), true, rfl, iteF ?_⟩
    refine ⟨_, rfl, t, _, rfl, .inr (.inl (.inl ht)), rfl, _, rfl, iteF ?_⟩
    refine ⟨_, rfl, t, rfl, ⟨_, .inl (.inl ht)⟩, for_tup (K := K) (a := t) (xs := [.int lo, .int hi]) (fun i σ H' => ∃ y, σ = [some (.ref t), some (.int due), some (.int most), y] ∧ H' = H) ⟨none, rfl, rfl⟩ (fun i σ H' _ ⟨_, _, e⟩ => by rw [e]; exact .inl (.inl ht)) ?_ ?_⟩
    · rintro i x σ H' hi' ⟨y, rfl, rfl⟩
      obtain ⟨z, rfl⟩ : ∃ z, x = V.int z := by
        cases i with
        | zero => exact ⟨lo, (Option.some.inj hi').symm⟩
        | succ i =>
          cases i with
          | zero => exact ⟨hi, (Option.some.inj hi').symm⟩
          | succ i => simp at hi'
      refine ⟨_, rfl, _, _, _, _, true, rfl, .ty _, .base (.int _), kit_ty (by decide +kernel), true, rfl, iteF ?_⟩
      refine ⟨_, rfl, _, _, _, _, false, rfl, .ty _, .base (.int _), kit_ty (by decide +kernel), false, rfl, iteF ?_⟩
      exact ⟨_, rfl, rfl⟩
    · rintro σ H' ⟨y, rfl, rfl⟩
      refine ⟨_, rfl, t, _, _, _, rfl, rfl, .inl (.inl ht), atI_nat (j := 0) rfl, _, rfl, _, _, rfl, rfl, true, congrArg V.bl (decide_eq_true h1), iteT ?_⟩
      refine ⟨_, rfl, t, _, _, _, rfl, rfl, .inl (.inl ht), atI_nat (j := 1) rfl, _, _, rfl, rfl, true, congrArg V.bl (decide_eq_true h2), iteT ?_⟩
      refine ⟨_, rfl, t, _, _, _, rfl, rfl, .inl (.inl ht), atI_nat (j := 1) rfl, _, rfl, t, _, _, _, rfl, rfl, .inl (.inl ht), atI_nat (j := 0) rfl, _, _, rfl, rfl, _, rfl, _, _, rfl, rfl, ?_⟩
      show Q (V.bl (decide (hi - lo ≤ most))) H'
      rw [decide_eq_true h3]
      exact q H' (Same.refl H')
theorem ok_three (A : CupApi R C_Cup) (F : Fun K "_law_three" "_law_three" s__law_three f fd) (B : Bi mg) (cp : CalK P w K mg base 4 "_law_played" (lpPlayed K)) (mC : MakN P w K mg base 3 "Cup" C_Cup (apInit R T C_Cup C_BadKeep)) (cd : CalK P w K mg base 11 "_law_done" (lpDone4 R T)) (cm : CalK P w K mg base 1 "_law_come" (lpCome4 K)) :
    FnOk P w K mg base CX0 12 f fd ["_law_script", "_law_first", "_law_most", "_law_great"] (lpThreeI K R T) := by
  refine F.ok sc__law_three (fun vs H Q E h => ?_) (fun cdv Ar outer s H vs Q E hr h => ⟨_, (rd__law_three B hr cp mC cd cm).2, ?_⟩)
  · obtain ⟨a, ns, first, most, g, rfl, _⟩ := h
    rfl
  · obtain ⟨a, ns, first, most, g, rfl, hS, hlen, hT, q⟩ := h
    iterate 4 walk_at "i"
    refine ⟨a, ns, first, most, g, rfl, hS, hlen, fun H1 p1 q1 ds keep deeds s1 hp1 hq1 he1 k1 k2 dl dok => ?_⟩
    obtain ⟨kn, rfl⟩ : ∃ kn : Nat, keep = (kn : Int) := ⟨keep.toNat, by omega⟩
    refine ⟨p1, _, rfl, .inl (.inl hp1), rfl, _, _, rfl, _, _, rfl, rfl, ?_⟩
    have hT1 := hT.ext s1
    refine make3S A (kn := kn) rfl hT1 (by omega) (by omega) fun H2 l y1 y2 y3 ks es S D e2 hT2 hc hks ml hD nl => ?_
    intro d0 n0 d1 n1 d2 n2
    refine ⟨by show 3 ≤ sizeLine; decide, fun rl nr => ?_⟩
    obtain ⟨s3, g3⟩ := dict3 A hT2 rfl hc ml n0 n1 n2 nr
    revert s3 g3
    generalize upd (upd (upd (upd H2 d0 (.dK [])) d1 (.dK [])) d2 (.dK [])) rl (.lst [.ref d0, .ref d1, .ref d2]) = H3
    intro s3 g3
    have e3 : ExtN H1 H3 := e2.trans (ExtN.of s3)
    have e03 : ExtN H H3 := (ExtN.of s1).trans e3
    have hUS : ∀ b, Un 3 S b → NewN H1 b := fun b z => hD b (hc.sub A b z)
    have dat := DeedsAt.of hq1 he1 e3 hUS hD
    have hdl := he1.length
    have e02 : ExtN H H2 := (ExtN.of s1).trans e2
    have nll : NewN H l := newN_back2 (ExtN.of s1) nl
    have nrl : NewN H rl := newN_back2 (e02.trans (ExtN.of (((same_upd (o := .dK []) n0).trans (same_upd (o := .dK []) n1)).trans (same_upd (o := .dK []) n2)))) (NewN.of nr)
    have nd : ∀ (j : Nat) (dc : Addr), [d0, d1, d2][j]? = some dc → NewN H dc := by
      have t1 := same_upd (o := .dK []) n0
      have t2 := t1.trans (same_upd (o := .dK []) n1)
      intro j dc hj
      rcases j with _ | _ | _ | j
      · cases hj
        exact newN_back2 e02 (NewN.of n0)
      · cases hj
        exact newN_back2 (e02.trans (ExtN.of t1)) (NewN.of n1)
      · cases hj
        exact newN_back2 (e02.trans (ExtN.of t2)) (NewN.of n2)
      · simp at hj
    refine ⟨_, rfl, q1, rfl, ⟨_, .inl (.inl dat.1.at_)⟩, for_list (K := K) (a := q1) (xs := ds)
      (fun i σ H' => ∃ y7 rows es S D rs, σ = [some (.ref a), some (.int first), some (.int most), some (.bl g), some (.int (kn : Int)), some (.ref q1), some (.ref l), some (.ref rl), y7] ∧ Game R T 3 H' [y1, y2, y3] l rl [d0, d1, d2] ks rows rows es S D rs (14 * i) (2 ^ (40 + 2 * i)) ∧ (∀ j, j < 3 → ∀ x ∈ rows j, InR x) ∧ DeedsAt S D H' q1 ds deeds ∧ (∀ b o, H b = some o → (∀ ps, o ≠ .tbl ps) → H' b = some o ∧ ¬ Un 3 S b ∧ ¬ Un 3 D b))
      ⟨none, _, es, S, D, _, rfl, g3, fun j hj x hx => absurd hx List.not_mem_nil, dat, fun b o hb nt => ⟨e03 b o hb nt, fun z => ?_, fun z => ?_⟩⟩ ?_ ?_ ?_⟩
    · obtain ⟨ps, w⟩ := newN_back2 (ExtN.of s1) (hUS b z) o hb
      exact nt ps w
    · obtain ⟨ps, w⟩ := newN_back2 (ExtN.of s1) (hD b z) o hb
      exact nt ps w
    · rintro i σ H' _ ⟨y7, rows, es, S, D, rs, rfl, _, _, dat, _⟩
      exact .inl (.inl dat.1.at_)
    · rintro i x σ H' hi ⟨y7, rows, es, S, D, rs, rfl, g, hin, dat, old⟩
      obtain ⟨d, hd, t, rfl, mt⟩ := dat.2 x (List.mem_of_getElem? hi)
      have dk := dok d hd
      obtain ⟨hcup, hpour⟩ := deed_cup3 dk
      have hil : i < 64 := by
        have := (List.getElem?_eq_some_iff.mp hi).1
        omega
      have hb40 : 2 ^ 40 ≤ 2 ^ (40 + 2 * i) := Nat.pow_le_pow_right (by decide) (by omega)
      refine ⟨_, rfl, _, rfl, l, t, [y1, y2, y3], ks, rows, es, S, D, d, rfl, g.tabs, g.ml.at_, mt.at_, dk.four, g.cups, g.ml.noS, mt.noS, hcup, fun c s e => ⟨hpour c s e, ?_⟩, fun j hj => ?_, fun H8 es8 S8 D8 hT8 c8 ch8 un8 ud8 => ?_⟩
      · subst e
        have h1 : c < 3 := hcup
        have h2 := hpour c s rfl
        rw [hks c h1, hks s h2]
      · have h1 := g.big j hj
        have h2 : 2 ^ (40 + 2 * i) < 2 ^ 190 := Nat.pow_lt_pow_right (by decide) (by omega)
        omega
      · obtain ⟨g8, mv8⟩ := g.done dk hcup hpour hb40 hT8 c8 ch8 un8 ud8
        have mt8 := mv8 _ _ mt
        have dat8 := dat.move fun b o m _ => mv8 b o m
        have hdc : [d0, d1, d2][d.cup]? = some [d0, d1, d2][d.cup] := List.getElem?_eq_getElem hcup
        generalize [d0, d1, d2][d.cup] = dc at hdc
        have nc := nd _ _ hdc
        obtain ⟨r0, hr0, m0⟩ := eachIs_get g8.md hdc
        refine ⟨_, rfl, _, rfl, rl, t, dc, [d0, d1, d2], rs, d, rfl, g8.mr.at_, cellsAt g8, mt8.at_, dk.four, hdc, fun s c e => hpour c s e, fun r hr => ?_, fun H9 b9 h9 => ?_⟩
        · have := g8.small r hr
          omega
        · obtain ⟨g9, mv9⟩ := g8.come A dk hcup hpour hdc b9 h9
          have dat9 : DeedsAt S8 D8 H9 q1 ds deeds := dat8.move fun b o m nk => mv9 b o (fun z => by
            have w := m.at_
            rw [z, m0.at_] at w
            cases w
            exact nk _ rfl) m
          rw [pow_four, show 14 * i + 14 = 14 * (i + 1) by omega] at g9
          refine ⟨_, _, _, S8, D8, _, rfl, g9, comeRows_in dk hcup hpour hin, dat9, fun b o hb nt => ?_⟩
          obtain ⟨o1, o2, o3⟩ := old b o hb nt
          have m1 := mv8 b o ⟨o1, nt, o2, o3⟩
          have m2 := mv9 b o (fun z => by
            subst z
            obtain ⟨ps, w⟩ := nc o hb
            exact nt ps w) m1
          exact ⟨m2.at_, m2.noS, m2.noD⟩
    · rintro σ H' ⟨y7, rows, es, S, D, rs, rfl, g, hin, dat, old⟩
      refine ⟨_, rfl, _, rfl, by show 2 ≤ sizeLine; decide, fun t ht => ?_⟩
      have st := same_upd (o := .tup [.ref l, .ref rl]) ht
      refine q _ t l rl y1 y2 y3 d0 d1 d2 ks kn rows es S D rs ds.length (fun b o hb nt => st _ _ (old b o hb nt).1) upd_same (by omega) (by omega) (by omega) hks (g.same A st) (fun b z => ?_) (fun b z => ?_) hin nll nrl nd
      · intro o hb
        exact Classical.byContradiction fun h => (old b o hb (fun ps w => h ⟨ps, w⟩)).2.1 z
      · intro o hb
        exact Classical.byContradiction fun h => (old b o hb (fun ps w => h ⟨ps, w⟩)).2.2 z
theorem ok_alone (F : Fun K "_law_alone" "_law_alone" s__law_alone f fd) (B : Bi mg) (x1 : ExcK K mg "BadKeep" C_BadKeep) (x2 : ExcK K mg "BadReading" C_BadReading) (x3 : ExcK K mg "BadTimes" C_BadTimes) (x4 : ExcK K mg "NoPlace" C_NoPlace) (x5 : ExcK K mg "UnlikeCups" C_UnlikeCups) (x6 : ExcK K mg "NoReadings" C_NoReadings) (x7 : ExcK K mg "NoCups" C_NoCups) (x8 : ExcK K mg "RankError" C_RankError) :
    FnE P w K mg base 1 f fd ["_law_e"] (lpAlone K [C_BadKeep, C_BadReading, C_BadTimes, C_NoPlace, C_UnlikeCups, C_NoReadings, C_NoCups] C_RankError) := by
  refine fnE_of F sc__law_alone (fun a cls d vs H Q E h => ?_) (fun cdv A outer s H vs Q E p cls d held hot hr h => ?_)
  · obtain ⟨D, bs, _, _, rfl, _⟩ := h
    rfl
  · obtain ⟨D, bs, rfl, rfl, rfl, hE, hk, h1, kR, kV, q⟩ := h
    have hk0 := hk
    refine ⟨_, (rd__law_alone B held hot hE x1 x2 x3 x4 x5 x6 x7 x8).2, ?_⟩
    obtain ⟨b1, b2, b3, b4, b5, b6, b7, rfl, k1, k2, k3, k4, k5, k6, k7⟩ := kits7 hk
    refine ⟨_, rfl, _, _, _, rfl, fun u h => h, k1, _, rfl, _, _, _, rfl, fun u h => h, k2, _, rfl, _, _, _, rfl, fun u h => h, k3, _, rfl, _, _, _, rfl, fun u h => h, k4, by show 4 ≤ sizeLine; decide, fun l nl => ?_⟩
    have s1 := same_upd (o := .lst [.bl b1, .bl b2, .bl b3, .bl b4]) nl
    have e1 : (upd H l (.lst [.bl b1, .bl b2, .bl b3, .bl b4])) l = _ := upd_same
    revert s1 e1
    generalize upd H l (.lst [.bl b1, .bl b2, .bl b3, .bl b4]) = H1
    intro s1 e1
    refine ⟨_, rfl, _, rfl, _, _, _, rfl, fun u h => h, k5, _, rfl, _, _, _, rfl, fun u h => h, k6, _, rfl, _, _, _, rfl, fun u h => h, k7, by show 3 ≤ sizeLine; decide, fun m nm => ?_⟩
    have s2 := s1.trans (same_upd (o := .lst [.bl b5, .bl b6, .bl b7]) nm)
    have e2 := same_upd (o := .lst [.bl b5, .bl b6, .bl b7]) nm _ _ e1
    have e3 : (upd H1 m (.lst [.bl b5, .bl b6, .bl b7])) m = _ := upd_same
    revert s2 e2 e3
    generalize upd H1 m (.lst [.bl b5, .bl b6, .bl b7]) = H2
    intro s2 e2 e3
    refine ⟨l, m, _, _, rfl, rfl, e2, e3, by show 4 + 3 ≤ sizeLine; decide, fun n nn => ?_⟩
    have s4 := s2.trans (same_upd (o := .lst ([b1, b2, b3, b4, b5, b6, b7].map V.bl)) nn)
    have e4 : (upd H2 n (.lst ([b1, b2, b3, b4, b5, b6, b7].map V.bl))) n = _ := upd_same
    show tSeq _ _ _ _ (upd H2 n (.lst ([b1, b2, b3, b4, b5, b6, b7].map V.bl)))
    revert s4 e4
    generalize upd H2 n (.lst ([b1, b2, b3, b4, b5, b6, b7].map V.bl)) = H3
    have hl7 : [b1, b2, b3, b4, b5, b6, b7].length = 7 := rfl
    generalize [b1, b2, b3, b4, b5, b6, b7] = bs at h1 hl7
    intro s4 e4
    refine ⟨_, rfl, n, rfl, ⟨_, SqL.of e4⟩, fun D' hD => lc_list (K := K) (xs := bs.map V.bl) (fun i H' => Same H3 H' ∧ H' D' = some (.lst (((bs.take i).filter id).map V.bl))) ?_ ?_ ?_ ?_⟩
    · exact ⟨same_upd hD, upd_same⟩
    · exact fun i H' _ p => SqL.of (p.1 _ _ e4)
    · rintro i x H' hi ⟨y1, y2⟩
      rw [List.getElem?_map] at hi
      cases e : bs[i]? with
      | none => rw [e] at hi; cases hi
      | some b =>
        rw [e] at hi
        cases hi
        have ht : bs.take (i + 1) = bs.take i ++ [b] := by rw [List.take_succ, e]; rfl
        refine ⟨rfl, _, rfl, b, rfl, ?_⟩
        cases b with
        | false =>
          refine iteF ⟨y1, ?_⟩
          rw [ht, List.filter_append]
          simpa using y2
        | true =>
          refine iteT ⟨_, rfl, _, y2, small5 ?_, fun c o z => ?_, ?_⟩
          · rw [List.length_map]
            have z1 := List.length_filter_le id (bs.take i)
            have z2 := List.length_take_le' i bs
            have z3 := hl7
            omega
          · rw [upd_ne (ne_of_none z hD)]
            exact y1 _ _ z
          · rw [upd_same, ht, List.filter_append]
            simp
    · rintro H' ⟨y1, y2⟩
      rw [List.length_map, List.take_length] at y2
      have hlen : (((bs.filter id).map V.bl).length : Int) = 1 := by
        rw [List.length_map, h1]
        rfl
      refine ⟨D', _, rfl, .inl (SqL.of y2), rfl, _, rfl, ?_⟩
      rw [if_pos (decide_eq_true (congrArg V.int hlen))]
      refine ⟨_, rfl, _, _, _, rfl, fun u h => h, kR, _, rfl, ?_⟩
      exact iteT ⟨_, rfl, _, _, _, rfl, fun u h => h, kV, q H' (s4.trans y1)⟩
theorem ok_greatest (F : Fun K "_law_greatest" "_law_greatest" s__law_greatest f fd) (B : Bi mg) (cl : CalK P w K mg base 1 "_law_less" (lpLess K)) : FnOk P w K mg base CX0 2 f fd ["_law_row", "_law_other"] lpGreatest := by
  refine F.ok sc__law_greatest (fun vs H Q E h => ?_) (fun cdv A outer s H vs Q E hr h => ⟨_, (rd__law_greatest B hr cl).2, ?_⟩)
  · obtain ⟨d, e, r, s, row, row2, rfl, _⟩ := h
    rfl
  · obtain ⟨d, e, r, s, row, row2, rfl, hd, he, ro, so, rl, sl, hn, hm, q⟩ := h
    refine ⟨d, _, hd, trivial, fun od => sum_row ro rl hd (fun H' R h => ⟨_, rfl, h⟩) (fun x => rfl) (fun x H R hx hF h => ⟨_, rfl, _, rfl, d, _, rfl, dget_frz hF hx, h⟩) fun L1 G1 g1 s1 hL1 => ⟨g1, L1, _, rfl, .inl (.inl hL1), ?_⟩⟩
    show gName 3 (V.int (valsZ r).sum) _ _ _
    rw [valsZ_sum ro]
    revert s1
    generalize upd G1 d (.dK (dk r)) = H1
    intro s1
    refine ⟨e, _, s1 _ _ he, trivial, fun od => sum_row so sl (s1 _ _ he) (fun H' R h => ⟨_, rfl, h⟩) (fun x => rfl) (fun x H R hx hF h => ⟨_, rfl, _, rfl, e, _, rfl, dget_frz hF hx, h⟩) fun L2 G2 g2 s2 hL2 => ⟨g2, L2, _, rfl, .inl (.inl hL2), ?_⟩⟩
    show gName 4 (V.int (valsZ s).sum) _ _ _
    rw [valsZ_sum so]
    replace s2 := s1.trans s2
    revert s2
    generalize upd G2 e (.dK (dk s)) = H2
    intro s2
    refine ⟨_, rfl, d, dk r, rfl, .inl (s2 _ _ hd), fun p1 n1 => ?_⟩
    rw [dk_keysV]
    have s3 := same_upd (o := .lst ((r.map (·.1)).map V.int)) n1
    refine ⟨_, rfl, e, dk s, rfl, .inl ((s2.trans s3) _ _ he), fun p2 n2 => ?_⟩
    rw [dk_keysV]
    have s4 := same_upd (o := .lst ((s.map (·.1)).map V.int)) n2
    refine ⟨p1, p2, _, _, rfl, rfl, s4 _ _ upd_same, upd_same, Nat.le_of_lt (small5 (by rw [List.length_map, List.length_map, List.length_map, List.length_map]; omega)), fun p3 n3 => ?_⟩
    rw [← List.map_append]
    have s5 := ((s2.trans s3).trans s4).trans (same_upd (o := .lst ((r.map (·.1) ++ s.map (·.1)).map V.int)) n3)
    have h5 : (upd (upd (upd H2 p1 (.lst ((r.map (·.1)).map V.int))) p2 (.lst ((s.map (·.1)).map V.int))) p3 (.lst ((r.map (·.1) ++ s.map (·.1)).map V.int))) p3 = some (.lst ((r.map (·.1) ++ s.map (·.1)).map V.int)) := upd_same
    show ∃ a, V.ref p3 = V.ref a ∧ _
    revert s5 h5
    generalize upd (upd (upd H2 p1 (.lst ((r.map (·.1)).map V.int))) p2 (.lst ((s.map (·.1)).map V.int))) p3 (.lst ((r.map (·.1) ++ s.map (·.1)).map V.int)) = H5
    intro s5 h5
    have hk : ∀ x, x ∈ r.map (·.1) ++ s.map (·.1) ↔ x ∈ row ∨ x ∈ row2 := fun x => by
      rw [List.mem_append, ro.mem, so.mem]
    generalize r.map (·.1) ++ s.map (·.1) = kz at h5 hk
    have bn : ((row.length : Nat) : Int) < 2 ^ 200 := by
      have e : ((2 : Int) ^ 200) = ((2 ^ 200 : Nat) : Int) := by norm_cast
      rw [e]; omega
    have bm : ((row2.length : Nat) : Int) < 2 ^ 200 := by
      have e : ((2 : Int) ^ 200) = ((2 ^ 200 : Nat) : Int) := by norm_cast
      rw [e]; omega
    have nn : (0 : Int) ≤ (row.length : Int) := Int.natCast_nonneg _
    have nm : (0 : Int) ≤ (row2.length : Int) := Int.natCast_nonneg _
    have cb : ∀ (l : List Int) (x : Int), 0 ≤ clt l x ∧ clt l x ≤ (l.length : Int) := fun l x => ⟨clt_nn l x, Int.ofNat_le.mpr (List.length_filter_le _ _)⟩
    refine ⟨p3, rfl, ⟨_, .inl (.inl h5)⟩, for_list (K := K) (a := p3) (xs := kz.map V.int) (fun i σ H' => ∃ v y5 y6, σ = [some (.ref d), some (.ref e), some (.int v), some (.int (row.length : Int)), some (.int (row2.length : Int)), y5, y6, none] ∧ Same H5 H' ∧ SoFar (fun x => absZ (difZ row row2 x)) ((kz.take i).flatMap fun x => [x, x + 1]) v) ⟨0, none, none, rfl, Same.refl _, SoFar.nil _⟩ (fun i σ H' _ ⟨_, _, _, _, s, _⟩ => .inl (.inl (s _ _ h5))) ?_ ?_⟩
    · rintro i xv σ H' hi ⟨v, y5, y6, rfl, s6, so6⟩
      obtain ⟨x, hx, rfl⟩ : ∃ x, kz[i]? = some x ∧ xv = V.int x := by
        rw [List.getElem?_map] at hi
        cases hp : kz[i]? with
        | none => rw [hp] at hi; cases hi
        | some y => rw [hp] at hi; exact ⟨y, rfl, (Option.some.inj hi).symm⟩
      refine ⟨_, rfl, _, rfl, _, _, rfl, rfl, by show 2 ≤ sizeLine; decide, fun p np => ?_⟩
      have s7 := same_upd (o := .lst [V.int x, V.int (x + 1)]) np
      have h7 : (upd H' p (.lst [V.int x, V.int (x + 1)])) p = some (.lst ([x, x + 1].map V.int)) := upd_same
      show ∃ a, V.ref p = V.ref a ∧ _
      revert s7 h7
      generalize upd H' p (.lst [V.int x, V.int (x + 1)]) = H7
      intro s7 h7
      refine ⟨p, rfl, ⟨_, .inl (.inl h7)⟩, for_list (K := K) (a := p) (xs := [x, x + 1].map V.int) (fun j σ H' => ∃ v y6, σ = [some (.ref d), some (.ref e), some (.int v), some (.int (row.length : Int)), some (.int (row2.length : Int)), some (.int x), y6, none] ∧ Same H7 H' ∧ SoFar (fun x => absZ (difZ row row2 x)) (((kz.take i).flatMap fun x => [x, x + 1]) ++ [x, x + 1].take j) v) ⟨v, y6, rfl, Same.refl _, by rw [List.take_zero, List.append_nil]; exact so6⟩ (fun i σ H' _ ⟨_, _, _, s, _⟩ => .inl (.inl (s _ _ h7))) ?_ ?_⟩
      · rintro j xv σ H' hj ⟨v, y6, rfl, s8, so8⟩
        obtain ⟨z, hz, rfl⟩ : ∃ z, [x, x + 1][j]? = some z ∧ xv = V.int z := by
          rw [List.getElem?_map] at hj
          cases hp : [x, x + 1][j]? with
          | none => rw [hp] at hj; cases hj
          | some y => rw [hp] at hj; exact ⟨y, rfl, (Option.some.inj hj).symm⟩
        have htk : [x, x + 1].take (j + 1) = [x, x + 1].take j ++ [z] := by rw [List.take_succ, hz]; rfl
        have s58 := (s5.trans (s6.trans s7)).trans s8
        obtain ⟨c1, c2⟩ := cb row z
        obtain ⟨c3, c4⟩ := cb row2 z
        have w1 : CMulW (clt row z) (row2.length : Int) := mulW_200 c1 (by omega) nm bm
        have w2 : CMulW (clt row2 z) (row.length : Int) := mulW_200 c3 (by omega) nn bn
        refine ⟨_, rfl, _, rfl, _, rfl, d, r, z, rfl, s58 _ _ hd, ro.nd, rl, fun H9 s9 => ?_⟩
        rw [ro.less]
        refine ⟨_, rfl, _, _, rfl, rfl, w1, _, rfl, _, rfl, e, s, z, rfl, (s58.trans s9) _ _ he, so.nd, sl, fun H10 s10 => ?_⟩
        rw [so.less]
        refine ⟨_, rfl, _, _, rfl, rfl, w2, _, _, rfl, rfl, _, rfl, _, _, rfl, ?_⟩
        refine ⟨mx2 v (absZ (difZ row row2 z)), _, rfl, (s8.trans s9).trans s10, ?_⟩
        rw [htk, ← List.append_assoc]
        exact so8.snoc1
      · rintro σ H' ⟨v, y6, rfl, s8, so8⟩
        have htk : kz.take (i + 1) = kz.take i ++ [x] := by rw [List.take_succ, hx]; rfl
        refine ⟨v, _, _, rfl, (s6.trans s7).trans s8, ?_⟩
        rw [htk, List.flatMap_append]
        simpa using so8
    · rintro σ H' ⟨v, y5, y6, rfl, s6, so6⟩
      rw [List.length_map, List.take_length] at so6
      exact ⟨_, rfl, q H' v (s5.trans s6) (great_of hk so6)⟩
theorem ok_refused (A : CupApi R C_Cup) (F : Fun K "_law_refused" "_law_refused" s__law_refused f fd) (B : Bi mg) (xr : ExcK K mg "NoReadings" C_NoReadings) (xsr : PySem.W.subIn K (.ref C_NoReadings) (.ref C_NoReadings) = some true) (al : Alone K [C_BadKeep, C_BadReading, C_BadTimes, C_NoPlace, C_UnlikeCups, C_NoReadings, C_NoCups] C_RankError C_NoReadings)
    (cp : CalN P w K mg base 11 "apart" (cpApart R T C_NoReadings)) (ca : CalE P w K mg base 1 "_law_alone" (lpAlone K [C_BadKeep, C_BadReading, C_BadTimes, C_NoPlace, C_UnlikeCups, C_NoReadings, C_NoCups] C_RankError)) :
    FnOk P w K mg base CX0 12 f fd ["_law_one", "_law_other"] (lpRef13 R T) := by
  refine F.ok sc__law_refused (fun vs H Q E h => ?_) (fun cdv Ar outer s H vs Q E hr h => ⟨_, (rd__law_refused B hr xr cp ca).2, ?_⟩)
  · obtain ⟨a, b, k, k2, row, row2, es, es2, S, D, S2, D2, rfl, _⟩ := h
    rfl
  · obtain ⟨a, b, k, k2, row, row2, es, es2, S, D, S2, D2, rfl, hT, ra, rb, n1, n2, h0, q⟩ := h
    refine ⟨_, rfl, _, rfl, a, b, k, k2, row, row2, es, es2, S, D, S2, D2, rfl, hT, ra, rb, n1, n2, .inl ⟨h0, fun H1 T1 e1 => ?_⟩⟩
    obtain ⟨bs, kb, ob⟩ := al.one
    refine ⟨true, PySem.W.exm_ref xr.sb xr.is.hd xr.tp xsr, fun _ ea na => ?_, fun z => nomatch z⟩
    exact ⟨_, rfl, C_NoReadings, bs, rfl, rfl, rfl, al.is, kb, ob, al.rank, al.val, fun H3 s3 => q H3 (T1.ext s3) (e1.trans (ExtN.of s3))⟩
theorem ok_right (A : CupApi R C_Cup) (hcl : Cls K C_Cup) (hna : NoAttr K C_Cup "keep") (F : Fun K "_law_right" "_law_right" s__law_right f fd) (B : Bi mg) (crf : CalK P w K mg base 12 "_law_refused" (lpRef13 R T)) (co : CalK P w K mg base 1 "_law_off" lpOff) (cg : CalK P w K mg base 2 "_law_greatest" lpGreatest) (cap : CalN P w K mg base 11 "apart" (cpApart R T C_NoReadings)) (cp : CalK P w K mg base 1 "_law_pair_right" lpPairRight) :
    FnOk P w K mg base CX0 13 f fd ["_law_one", "_law_row", "_law_other", "_law_more"] (lpRight13 R T) := by
  refine F.ok sc__law_right (fun vs H Q E h => ?_) (fun cdv Ar outer s H vs Q E hr h => ⟨_, (rd__law_right B hr crf co cg cap cp).2, ?_⟩)
  · obtain ⟨a, b, d, e, k, k2, row, row2, es, es2, S, D, S2, D2, r, s, rfl, _⟩ := h
    rfl
  · obtain ⟨a, b, d, e, k, k2, row, row2, es, es2, S, D, S2, D2, r, s, rfl, hT, ra, rb, hn, hm, hd, he, ro, so, rl, sl, q⟩ := h
    have h200 : 2 ^ 195 < 2 ^ 200 := Nat.pow_lt_pow_right (by decide) (by decide)
    have hn2 : row.length < 2 ^ 200 := by omega
    have hm2 : row2.length < 2 ^ 200 := by omega
    have ref : (row.length = 0 ∨ row2.length = 0) → tAndV (tCall (lpRef13 R T) [] E0 (tCons (tVar 0) (tCons (tVar 2) tNil))) (tCall (lpRef13 R T) [] E0 (tCons (tVar 2) (tCons (tVar 0) tNil))) [some (.ref a), some (.ref d), some (.ref b), some (.ref e), none, none, none, none] H Q := fun h0 => by
      refine ⟨_, rfl, _, rfl, a, b, k, k2, row, row2, es, es2, S, D, S2, D2, rfl, hT, ra, rb, hn2, hm2, h0, fun H1 T1 e1 => ⟨true, rfl, iteT ?_⟩⟩
      exact ⟨_, rfl, _, rfl, b, a, k2, k, row2, row, es2, es, S2, D2, S, D, rfl, T1, A.extN rb e1, A.extN ra e1, hm2, hn2, h0.symm, fun H2 T2 e2 => q H2 T2 (e1.trans e2)⟩
    refine ⟨_, rfl, _, .inr (.inr ⟨_, hd, rfl⟩), ?_⟩
    rw [dk_empty ro]
    by_cases z1 : row.length = 0
    · rw [decide_eq_true z1]
      exact iteT (ref (.inl z1))
    rw [decide_eq_false z1]
    refine iteF ?_
    refine ⟨_, rfl, _, .inr (.inr ⟨_, he, rfl⟩), ?_⟩
    rw [dk_empty so]
    by_cases z2 : row2.length = 0
    · rw [decide_eq_true z2]
      exact iteT (ref (.inr z2))
    rw [decide_eq_false z2]
    refine iteF ?_
    have pos1 : 0 < row.length := by omega
    have pos2 : 0 < row2.length := by omega
    refine ⟨d, _, hd, trivial, fun od => sum_row ro rl hd (fun H' R h => ⟨_, rfl, h⟩) (fun x => rfl) (fun x H R hx hF h => ⟨_, rfl, _, rfl, d, _, rfl, dget_frz hF hx, h⟩) fun L1 G1 g1 s1 hL1 => ⟨g1, L1, _, rfl, .inl (.inl hL1), ?_⟩⟩
    revert s1
    generalize upd G1 d (.dK (dk r)) = H1
    intro s1
    refine ⟨e, _, s1 _ _ he, trivial, fun od => sum_row so sl (s1 _ _ he) (fun H' R h => ⟨_, rfl, h⟩) (fun x => rfl) (fun x H R hx hF h => ⟨_, rfl, _, rfl, e, _, rfl, dget_frz hF hx, h⟩) fun L2 G2 g2 s2 hL2 => ⟨g2, L2, _, rfl, .inl (.inl hL2), ?_⟩⟩
    replace s2 := s1.trans s2
    revert s2
    generalize upd G2 e (.dK (dk s)) = H2
    intro s2
    refine ⟨by show 2 ≤ sizeLine; decide, fun p np => ?_⟩
    have s3 := s2.trans (same_upd (o := .lst [V.int (row.length : Int), V.int (row2.length : Int)]) np)
    have h3 : (upd H2 p (.lst [V.int (row.length : Int), V.int (row2.length : Int)])) p = some (.lst [V.int (row.length : Int), V.int (row2.length : Int)]) := upd_same
    show gName 4 (V.ref p) _ (upd H2 p (.lst [V.int (valsZ r).sum, V.int (valsZ s).sum])) _
    rw [valsZ_sum ro, valsZ_sum so]
    revert s3 h3
    generalize upd H2 p (.lst [V.int (row.length : Int), V.int (row2.length : Int)]) = H3
    intro s3 h3
    have T3 := hT.ext s3
    have ra3 := A.extN ra (ExtN.of s3)
    have rb3 := A.extN rb (ExtN.of s3)
    obtain ⟨ka1, ka2⟩ := A.keep ra
    obtain ⟨kb1, kb2⟩ := A.keep rb
    obtain ⟨dxa, fsa, hia, hka, _⟩ := A.inst ra3
    obtain ⟨dxb, fsb, hib, hkb, _⟩ := A.inst rb3
    have h219 : 2 ^ 200 ≤ 2 ^ 219 := Nat.pow_le_pow_right (by decide) (by decide)
    have h218 : 2 ^ 218 ≤ 2 ^ 219 := Nat.pow_le_pow_right (by decide) (by decide)
    have o1 := off_small (k := k) hn2
    have o2 := off_small (k := k2) hm2
    have w1 : CMulW ((offN row.length k : Nat) : Int) (row2.length : Int) := mulW_219 (Int.natCast_nonneg _) (Int.ofNat_lt.mpr (by omega)) (Int.natCast_nonneg _) (Int.ofNat_lt.mpr (by omega))
    have w2 : CMulW ((offN row2.length k2 : Nat) : Int) (row.length : Int) := mulW_219 (Int.natCast_nonneg _) (Int.ofNat_lt.mpr (by omega)) (Int.natCast_nonneg _) (Int.ofNat_lt.mpr (by omega))
    refine ⟨_, rfl, p, _, _, _, rfl, rfl, .inl (.inl h3), atI_nat (j := 0) rfl, _, rfl, a, C_Cup, dxa, fsa, _, rfl, hia, hcl, hna, hka, row.length, k, rfl, by omega, ka2, hn2, ?_⟩
    refine ⟨_, rfl, p, _, _, _, rfl, rfl, .inl (.inl h3), atI_nat (j := 1) rfl, _, _, rfl, rfl, w1, ?_⟩
    refine ⟨_, rfl, p, _, _, _, rfl, rfl, .inl (.inl h3), atI_nat (j := 1) rfl, _, rfl, b, C_Cup, dxb, fsb, _, rfl, hib, hcl, hna, hkb, row2.length, k2, rfl, by omega, kb2, hm2, ?_⟩
    refine ⟨_, rfl, p, _, _, _, rfl, rfl, .inl (.inl h3), atI_nat (j := 0) rfl, _, _, rfl, rfl, w2, _, _, rfl, rfl, ?_⟩
    refine ⟨_, rfl, _, rfl, d, e, r, s, row, row2, rfl, s3 _ _ hd, s3 _ _ he, ro, so, rl, sl, hn2, hm2, fun H4 g s4 hg => ?_⟩
    have s04 := s3.trans s4
    have T4 := hT.ext s04
    have ra4 := A.extN ra (ExtN.of s04)
    have rb4 := A.extN rb (ExtN.of s04)
    refine ⟨_, rfl, _, rfl, a, b, k, k2, row, row2, es, es2, S, D, S2, D2, rfl, T4, ra4, rb4, hn2, hm2, .inr ⟨pos1, pos2, fun H5 t lo hi T5 e5 ht hgr => ?_⟩⟩
    obtain ⟨b1, b2, b3⟩ := hgr g hg
    refine ⟨_, rfl, _, rfl, t, lo, hi, _, _, rfl, ht, b1, b2, b3, fun H6 s6 => ⟨true, rfl, iteT ?_⟩⟩
    have e46 := e5.trans (ExtN.of s6)
    have ra6 := A.extN ra4 e46
    have rb6 := A.extN rb4 e46
    refine ⟨_, rfl, _, rfl, b, a, k2, k, row2, row, es2, es, S2, D2, S, D, rfl, T5.ext s6, rb6, ra6, hm2, hn2, .inr ⟨pos2, pos1, fun H7 t7 lo7 hi7 T7 e7 ht7 hgr7 => ?_⟩⟩
    obtain ⟨b4, b5, b6⟩ := hgr7 g hg.swap
    rw [Int.add_comm] at b6
    exact ⟨_, rfl, _, rfl, t7, lo7, hi7, _, _, rfl, ht7, b4, b5, b6, fun H8 s8 => q H8 (T7.ext s8) (((ExtN.of s04).trans e46).trans (e7.trans (ExtN.of s8)))⟩
theorem told13 (A : CupApi R C_Cup) (lw : CupLow R) {H : Hp} {y1 y2 y3 y4 l rl : Addr} {dd : List Addr} {ks : Nat → Nat} {rows : Nat → List Int} {es : Nat → List Ent} {S D : Nat → AS} {rs : List DRow} {m b : Nat} {v0 v2 v3 v4 v5 v6 v7 v8 : Option V} {Q : VK} (g : Game R T 4 H [y1, y2, y3, y4] l rl dd ks rows rows es S D rs m b) (hin : ∀ j, j < 4 → ∀ x ∈ rows j, InR x) (hb : ∀ j, j < 4 → (rows j).length < 2 ^ 200)
    (q : ∀ H', Tabs T H' → ExtN H H' → Q (.str (keptD 4 es).shown) H') :
    tCB (rReprD K) (tCons (tLc (iList K (tVar 1)) (gName 9) tYes (tMetS C_Cup (Str.ofString "kept") (apKeptP R T) EN (tVar 9) tNil) [9]) tNil) [v0, some (.ref l), v2, v3, v4, v5, v6, v7, v8, none] H Q := by
  refine ⟨_, rfl, l, rfl, ⟨_, .inl (.inl g.ml.at_)⟩, fun L hL => lc_list (K := K) (xs := [y1, y2, y3, y4].map V.ref) (fun i H' => ∃ zs : List V, Tabs T H' ∧ ExtN H H' ∧ H' L = some (.lst zs) ∧ DpAll K (era L H') zs ((List.range i).map fun i => entsD (es i)) ∧ zs.length = i) ⟨[], g.tabs.ext (same_upd hL), ExtN.of (same_upd hL), upd_same, .nil, rfl⟩ (fun i H' _ ⟨_, _, e, _⟩ => .inl (.inl (e _ _ g.ml.at_ (fun _ z => nomatch z)))) ?_ ?_⟩
  · rintro i x H' hi ⟨zs, T1, e1, h1, dp, zl⟩
    obtain ⟨y, hy, rfl⟩ : ∃ y, [y1, y2, y3, y4][i]? = some y ∧ x = V.ref y := by
      rw [List.getElem?_map] at hi
      cases hp : [y1, y2, y3, y4][i]? with
      | none => rw [hp] at hi; cases hi
      | some y => rw [hp] at hi; exact ⟨y, rfl, (Option.some.inj hi).symm⟩
    have il : i < 4 := (List.getElem?_eq_some_iff.mp hy).1
    have r1 := A.extN (g.cups.at_ i y hy) e1
    obtain ⟨dx, fs, hia, _, _, _, _, _, _, hke, _⟩ := A.inst r1
    refine ⟨rfl, _, rfl, y, dx, fs, rfl, hia, hke, y, ks i, rows i, es i, S i, D i, rfl, T1, r1, hb i il, fun H2 yv T2 e2 ⟨p, xs, hyv, hp, en, nw, nx⟩ => ?_⟩
    subst hyv
    have hL2 := e2 _ _ h1 (fun _ z => nomatch z)
    have ne : ∀ t, NewN H' t → t ≠ L := fun t nt z => by
      subst z
      obtain ⟨ps, w⟩ := nt _ h1
      cases w
    have dq : DpAll K (era L H2) (zs ++ [V.ref p]) ((List.range (i + 1)).map fun i => entsD (es i)) := by
      rw [List.range_succ, List.map_append]
      refine dpAll_snoc ?_ (dpAll_ext (era_ext e2) _ _ dp)
      exact .lst (.inl (.inl (era_of (ne p nw) hp))) (dp_ents (ents_era en fun v hv t e => ne t (nx v hv t e)))
    refine ⟨zs, hL2, small5 (by omega), zs ++ [V.ref p], tabs_lst hL2 T2, fun b o hb nt => ?_, upd_same, by rw [era_upd]; exact dq, by rw [List.length_append, zl]; rfl⟩
    rw [upd_ne (ne_of_none hb hL)]
    exact e2 _ _ (e1 _ _ hb nt) nt
  · rintro H' ⟨zs, T1, e1, h1, dp, zl⟩
    have w := shw_kept A lw g.cups (Nat.le_refl 4) hin hb
    exact ⟨L, keptD 4 es, rfl, .lst (.inl (.inl h1)) (dpAll_ext era_sub _ _ dp), w.s, w.h, Nat.le_trans w.d (by decide), Nat.le_trans w.l (by decide), q H' T1 e1⟩
theorem ok_law (A : CupApi R C_Cup) (lw : CupLow R) (F : Fun K "law" "law" s_law f fd) (B : Bi mg) (ct : CalK P w K mg base 12 "_law_three" (lpThreeI K R T)) (cc : CalK P w K mg base 1 "_law_cell" (lpCell K)) (ckp : CalK P w K mg base 1 "_law_keep" lpKeep) (mC : MakN P w K mg base 3 "Cup" C_Cup (apInit R T C_Cup C_BadKeep)) (cti : CalK P w K mg base 2 "_law_times" lpTimes) (crd : CalK P w K mg base 2 "_law_reading" lpReading) (cd : CalK P w K mg base 11 "_law_done" (lpDone4 R T)) (cco : CalK P w K mg base 1 "_law_come" (lpCome4 K)) (ck : MetN P w K mg base 10 C_Cup "kept" (apKeptP R T)) (cr : CalK P w K mg base 13 "_law_right" (lpRight13 R T)) :
    FnG P w K mg base 14 f fd ["_law_script"] (lpLaw K T) := by
  refine okG F sc_law (fun vs H Q E h => ?_) (fun cdv Ar outer s H vs Q E gd hr h => ⟨_, (rd_law B hr gd ct cc ckp mC cti crd cd cco ck cr).2, ?_⟩)
  · obtain ⟨a, ns, rfl, _⟩ := h
    rfl
  · obtain ⟨a, ns, rfl, hS, hlen, hT, q⟩ := h
    refine ⟨_, rfl, a, ns, 12, 20, false, rfl, hS, hlen, hT, fun H1 t1 l rl y1 y2 y3 d1 d2 d3 ks kn rows es S D rs n e1 ht1 hn k1 k2 hks g hS1 hD1 hin nl nrl nd => ?_⟩
    refine ⟨t1, _, rfl, .inl (.inl ht1), rfl, _, _, rfl, _, _, rfl, rfl, ?_⟩
    have scr1 := Scr.of (n := 3) hS e1 hS1 hD1
    have big := g.big
    obtain ⟨U, hU, hUr, _⟩ := g.few
    obtain ⟨r1, r2, r3, g1, ro1, ro2, ro3⟩ := g.kit A
    clear g
    refine ⟨_, rfl, a, ns, 1, rfl, scr1.sq, cellZ ns 1, rfl, ?_⟩
    have kr := keep_range (cellZ ns 1)
    obtain ⟨ko, hk⟩ : ∃ ko : Nat, keepOf (cellZ ns 1) = (ko : Int) := ⟨(keepOf (cellZ ns 1)).toNat, by omega⟩
    rw [hk] at kr
    show gName 3 (V.int (keepOf (cellZ ns 1))) _ _ _
    rw [hk]
    refine ⟨_, rfl, .inl ⟨rfl, _, .inl (.inl (g1.at_ 0 rfl))⟩, _, rfl, fun y4 dy ny ndy ne => ⟨y4, dy, _, rfl, make_tabs g1.tabs ny ndy, upd_same, by rw [upd_ne ne]; exact upd_same, ne.symm, .inl ⟨ko, rfl, by omega, by omega, fun H2 S4 D4 T2 r4 ch4 hd4 => ⟨rfl, ?_⟩⟩⟩⟩
    have e2 := make_ext ny ndy ch4
    have nw := make_new ny ndy hd4
    have nc : NewCup R T H1 H2 [y1, y2, y3] S D y4 ko [] _ S4 D4 [] := ⟨T2, e2, r4, .refl _, fun b z => nw b (A.sub r4 b z), fun b z => .inl (nw b z)⟩
    have g2 : Kit R T H2 [y1, y2, y3, y4] (setAt ks 3 ko) (setAt rows 3 []) (setAt es 3 _) (setAt S 3 S4) (setAt D 3 D4) (os5 l rl y1 y2 y3 d1 d2 d3 r1 r2 r3) := g1.cup A nc
    have hS4 : ∀ b, Un 4 (setAt S 3 S4) b → NewN H b := by
      rintro b ⟨i, hi, z⟩
      by_cases e : i = 3
      · rw [e, setAt_same] at z
        exact newN_back2 e1 (nw b (A.sub r4 b z))
      · rw [setAt_ne _ _ e] at z
        exact hS1 b ⟨i, by omega, z⟩
    have hD4 : ∀ b, Un 4 (setAt D 3 D4) b → NewN H b := by
      rintro b ⟨i, hi, z⟩
      by_cases e : i = 3
      · rw [e, setAt_same] at z
        exact newN_back2 e1 (nw b z)
      · rw [setAt_ne _ _ e] at z
        exact hD1 b ⟨i, by omega, z⟩
    have hr4 : setAt rows 3 [] 3 = [] ∧ ∀ i, i < 3 → setAt rows 3 [] i = rows i := ⟨setAt_same _ _ _, fun i hi => setAt_ne _ _ (by omega)⟩
    generalize setAt ks 3 ko = ks4 at g2
    generalize setAt rows 3 [] = rows4 at g2 hr4
    generalize setAt es 3 _ = es4 at g2
    generalize setAt S 3 S4 = S4' at g2 hS4
    generalize setAt D 3 D4 = D4' at g2 hD4
    obtain ⟨hr43, hr4⟩ := hr4
    refine ⟨l, _, .ref y4, rfl, rfl, g2.at_ 0 rfl, by show 3 < sizeLine; decide, ?_⟩
    have g3 : Kit R T (upd H2 l (.lst ([V.ref y1, V.ref y2, V.ref y3] ++ [V.ref y4]))) [y1, y2, y3, y4] ks4 rows4 es4 S4' D4' [(l, .lst [.ref y1, .ref y2, .ref y3, .ref y4]), (rl, .lst [.ref d1, .ref d2, .ref d3]), (d1, .dK (dk r1)), (d2, .dK (dk r2)), (d3, .dK (dk r3))] := g2.putL A ([V.ref y1, V.ref y2, V.ref y3] ++ [V.ref y4]) (j := 0) rfl
    have e3 : ExtN H (upd H2 l (.lst ([V.ref y1, V.ref y2, V.ref y3] ++ [V.ref y4]))) := fun b o hb nt => by
      rw [upd_ne (fun z => old_not hb nt (by rw [z]; exact nl))]
      exact (e1.trans e2) _ _ hb nt
    revert g3 e3
    generalize upd H2 l (.lst ([V.ref y1, V.ref y2, V.ref y3] ++ [V.ref y4])) = H3
    intro g3 e3
    refine ⟨_, rfl, .inl ⟨rfl, _, .inl (.inl (g3.at_ 1 rfl))⟩, fun d4 nd4 => ?_⟩
    have g4 := g3.fresh A (o := .dK []) nd4 (fun _ z => nomatch z)
    have e4 := e3.trans (ExtN.of (same_upd (o := .dK []) nd4))
    revert g4 e4
    generalize upd H3 d4 (.dK []) = H4
    intro g4 e4
    refine ⟨rl, _, .ref d4, rfl, rfl, g4.at_ 1 rfl, by show 3 < sizeLine; decide, ?_⟩
    have g5 : Kit R T (upd H4 rl (.lst ([V.ref d1, V.ref d2, V.ref d3] ++ [V.ref d4]))) [y1, y2, y3, y4] ks4 rows4 es4 S4' D4' (os6 l rl y1 y2 y3 y4 d1 d2 d3 d4 r1 r2 r3 []) := g4.putL A ([V.ref d1, V.ref d2, V.ref d3] ++ [V.ref d4]) (j := 1) rfl
    have e5 : ExtN H (upd H4 rl (.lst ([V.ref d1, V.ref d2, V.ref d3] ++ [V.ref d4]))) := fun b o hb nt => by
      rw [upd_ne (fun z => old_not hb nt (by rw [z]; exact nrl))]
      exact e4 _ _ hb nt
    revert g5 e5
    generalize upd H4 rl (.lst ([V.ref d1, V.ref d2, V.ref d3] ++ [V.ref d4])) = H5
    intro g5 e5
    have scr5 := Scr.of (n := 4) hS e5 hS4 hD4
    have gm5 : Game R T 4 H5 [y1, y2, y3, y4] l rl [d1, d2, d3, d4] ks4 rows4 rows4 es4 S4' D4' [r1, r2, r3, []] (14 * n) (2 ^ (40 + 2 * n)) := g5.game4 (by rw [hr4 0 (by decide)]; exact ro1) (by rw [hr4 1 (by decide)]; exact ro2) (by rw [hr4 2 (by decide)]; exact ro3) (by rw [hr43]; exact RowOf.nil) (fun j hj => by
      by_cases e : j = 3
      · rw [e, hr43]
        exact Nat.zero_le _
      · rw [hr4 j (by omega)]
        exact big j (by omega)) ⟨U, hU, fun j hj x hx => by
      by_cases e : j = 3
      · rw [e, hr43] at hx
        exact absurd hx List.not_mem_nil
      · rw [hr4 j (by omega)] at hx
        exact hUr j (by omega) x hx⟩
    have hin5 : ∀ j, j < 4 → ∀ x ∈ rows4 j, InR x := fun j hj x hx => by
      by_cases e : j = 3
      · rw [e, hr43] at hx
        exact absurd hx List.not_mem_nil
      · rw [hr4 j (by omega)] at hx
        exact hin j (by omega) x hx
    clear g1 g2 g3 g4 g5 scr1
    have okAdd : ∀ (c : Nat) (x t : Int), InR x → InT t → DeedOk4 (.add c x 1 0 t) := fun c x t hx ht => ⟨⟨by decide, ht, fun k hk => by
      rw [Int.mul_zero, Int.add_zero]
      exact hx⟩⟩
    obtain ⟨m, hm, hm10⟩ : ∃ m : Nat, cellZ ns 1 / 7 % 11 = (m : Int) ∧ m ≤ 10 := ⟨(cellZ ns 1 / 7 % 11).toNat, by omega, by omega⟩
    refine ⟨_, rfl, a, ns, 1, rfl, scr5.sq, _, _, rfl, rfl, ⟨by decide, by decide⟩, _, _, rfl, rfl, by show (0 : Int) < 11; decide, (m : Int), (by rw [← hm]), by omega, by omega, for_range (lo := 0) (n := ((m : Int)).toNat) (fun i σ H' => ∃ z4 z5 rows es S D rs, σ = [some (.ref a), some (.ref l), some (.ref rl), some (.int (ko : Int)), z4, z5, none, none, none, none] ∧ Game R T 4 H' [y1, y2, y3, y4] l rl [d1, d2, d3, d4] ks4 rows rows es S D rs (14 * (n + i)) (2 ^ (40 + 2 * (n + i))) ∧ (∀ j, j < 4 → ∀ x ∈ rows j, InR x) ∧ Scr K 4 S D H' a (ns.map V.int)) ⟨none, none, rows4, es4, S4', D4', _, rfl, gm5, hin5, scr5⟩ ?_ ?_⟩
    · rintro i σ H6 hi ⟨z4, z5, rows, es, S, D, rs, rfl, g, hin, scr⟩
      rw [show ((0 : Int) + (i : Int)) = (i : Int) from Int.zero_add _]
      have hi : i < m := by omega
      refine ⟨_, rfl, _, rfl, _, _, rfl, rfl, a, ns, 2 + i, (by rw [show ((2 + i : Nat) : Int) = 2 + (i : Int) by omega]; rfl), scr.sq, ?_⟩
      generalize cellZ ns (2 + i) = c
      have hx := reading_range c
      have htt := times_range c false
      have dk4 := okAdd 3 (readingOf c) (timesOf c false) hx htt
      have hpow : 2 ^ (40 + 2 * (n + i)) < 2 ^ 190 := Nat.pow_lt_pow_right (by decide) (by omega)
      have hb40 : 2 ^ 40 ≤ 2 ^ (40 + 2 * (n + i)) := Nat.pow_le_pow_right (by decide) (by omega)
      refine ⟨_, rfl, _, rfl, c, rfl, fun H7 s7 => ⟨_, rfl, c, false, rfl, fun H8 s8 => ⟨by show 5 ≤ sizeLine; decide, fun p np => ?_⟩⟩⟩
      have s9 := (s7.trans s8).trans (same_upd (o := .tup [V.int 3, V.int (readingOf c), V.int 1, V.int 0, V.int (timesOf c false)]) np)
      have hp9 : (upd H8 p (.tup [V.int 3, V.int (readingOf c), V.int 1, V.int 0, V.int (timesOf c false)])) p = some (.tup [V.int 3, V.int (readingOf c), V.int 1, V.int 0, V.int (timesOf c false)]) := upd_same
      have mp9 := mine_new A g.cups (newN_back2 (ExtN.of (s7.trans s8)) (NewN.of np)) hp9 (fun _ z => nomatch z)
      revert s9 mp9 hp9
      generalize upd H8 p (.tup [V.int 3, V.int (readingOf c), V.int 1, V.int 0, V.int (timesOf c false)]) = H9
      intro s9 hp9 mp9
      have g9 := g.same A s9
      have scr9 := scr.same s9
      refine ⟨l, p, [y1, y2, y3, y4], ks4, rows, es, S, D, .add 3 (readingOf c) 1 0 (timesOf c false), rfl, g9.tabs, g9.ml.at_, hp9, dk4, g9.cups, g9.ml.noS, mp9.noS, (show 3 < 4 by decide), fun c s e => (by cases e), fun j hj => Nat.lt_of_le_of_lt (g9.big j hj) hpow, fun H10 es10 S10 D10 T10 c10 ch10 un10 ud10 => ?_⟩
      obtain ⟨g10, mv10⟩ := g9.done4 dk4 (show 3 < 4 by decide) (fun c s e => (by cases e)) hb40 T10 c10 ch10 un10 ud10
      have scr10 := scr9.moveN fun o m => mv10 _ _ m
      refine ⟨_, rfl, _, rfl, c, rfl, fun H11 s11 => ⟨_, rfl, c, false, rfl, fun H12 s12 => ⟨by show 5 ≤ sizeLine; decide, fun p2 np2 => ?_⟩⟩⟩
      have s13 := (s11.trans s12).trans (same_upd (o := .tup [V.int 3, V.int (readingOf c), V.int 1, V.int 0, V.int (timesOf c false)]) np2)
      have hp13 : (upd H12 p2 (.tup [V.int 3, V.int (readingOf c), V.int 1, V.int 0, V.int (timesOf c false)])) p2 = some (.tup [V.int 3, V.int (readingOf c), V.int 1, V.int 0, V.int (timesOf c false)]) := upd_same
      revert s13 hp13
      generalize upd H12 p2 (.tup [V.int 3, V.int (readingOf c), V.int 1, V.int 0, V.int (timesOf c false)]) = H13
      intro s13 hp13
      have g13 := g10.same A s13
      have scr13 := scr10.same s13
      refine ⟨rl, p2, d4, [d1, d2, d3, d4], rs, .add 3 (readingOf c) 1 0 (timesOf c false), rfl, g13.mr.at_, cellsAt g13, hp13, dk4, rfl, fun s c e => (by cases e), fun r hr => ?_, fun H14 b14 h14 => ?_⟩
      · have := g13.small r hr
        omega
      obtain ⟨g14, mv14⟩ := g13.come4 A dk4 (show 3 < 4 by decide) (fun c s e => (by cases e)) rfl b14 h14
      obtain ⟨r4', hr4', m4'⟩ := eachIs_get g13.md (i := 3) (a := d4) rfl
      have scr14 := scr13.but m4'.at_ b14
      rw [pow_four, show 14 * (n + i) + 14 = 14 * (n + (i + 1)) by omega] at g14
      exact ⟨_, _, _, _, _, _, _, rfl, g14, comeRows_in4 dk4 (show 3 < 4 by decide) (fun c s e => (by cases e)) hin, scr14⟩
    · rintro σ H6 ⟨z4, z5, rows, es, S, D, rs, rfl, g, hin, scr⟩
      rw [Int.toNat_natCast] at g
      have hbb : ∀ j, j < 4 → (rows j).length < 2 ^ 195 := fun j hj => Nat.lt_of_le_of_lt (g.big j hj) (Nat.pow_lt_pow_right (by decide) (by omega))
      have h200 : 2 ^ 195 < 2 ^ 200 := Nat.pow_lt_pow_right (by decide) (by decide)
      have hb2 : ∀ j, j < 4 → (rows j).length < 2 ^ 200 := fun j hj => Nat.lt_trans (hbb j hj) h200
      refine told13 A lw g hin hb2 fun H7 T7 e7 => ?_
      have g7 := g.ext A e7 T7
      have scr7 := scr.move fun o m => m.ext e7
      -- each with each
      have rght : ∀ (H8 : Hp) (σ : L2.St) (i j : Nat) (QQ : VK) (ta tb tc td : TE) (rows : Nat → List Int) (es : Nat → List Ent) (S D : Nat → AS) (rs : List DRow) (m b : Nat), Game R T 4 H8 [y1, y2, y3, y4] l rl [d1, d2, d3, d4] ks4 rows rows es S D rs m b → m ≤ 10000 → b < 2 ^ 195 → i < 4 → j < 4 →
          (∀ (y : Addr) (R' : VK), [y1, y2, y3, y4][i]? = some y → R' (.ref y) H8 → ta σ H8 R') → (∀ (y : Addr) (R' : VK), [d1, d2, d3, d4][i]? = some y → R' (.ref y) H8 → tb σ H8 R') → (∀ (y : Addr) (R' : VK), [y1, y2, y3, y4][j]? = some y → R' (.ref y) H8 → tc σ H8 R') → (∀ (y : Addr) (R' : VK), [d1, d2, d3, d4][j]? = some y → R' (.ref y) H8 → td σ H8 R') →
          (∀ H9, Tabs T H9 → ExtN H8 H9 → QQ (.bl true) H9) → tCall (lpRight13 R T) [] E0 (tCons ta (tCons tb (tCons tc (tCons td tNil)))) σ H8 QQ := by
        intro H8 σ i j QQ ta tb tc td rows es S D rs m b g hm hb hi hj h1 h2 h3 h4 qq
        obtain ⟨yi, hyi⟩ : ∃ y, [y1, y2, y3, y4][i]? = some y := ⟨_, List.getElem?_eq_getElem (show i < [y1, y2, y3, y4].length from hi)⟩
        obtain ⟨yj, hyj⟩ : ∃ y, [y1, y2, y3, y4][j]? = some y := ⟨_, List.getElem?_eq_getElem (show j < [y1, y2, y3, y4].length from hj)⟩
        obtain ⟨di, hdi⟩ : ∃ y, [d1, d2, d3, d4][i]? = some y := ⟨_, List.getElem?_eq_getElem (show i < [d1, d2, d3, d4].length from hi)⟩
        obtain ⟨dj, hdj⟩ : ∃ y, [d1, d2, d3, d4][j]? = some y := ⟨_, List.getElem?_eq_getElem (show j < [d1, d2, d3, d4].length from hj)⟩
        obtain ⟨ri, hri, mi⟩ := eachIs_get g.md hdi
        obtain ⟨rj, hrj, mj⟩ := eachIs_get g.md hdj
        have si := g.small ri (List.mem_of_getElem? hri)
        have sj := g.small rj (List.mem_of_getElem? hrj)
        exact h1 _ _ hyi (h2 _ _ hdi (h3 _ _ hyj (h4 _ _ hdj ⟨yi, yj, di, dj, ks4 i, ks4 j, rows i, rows j, es i, es j, S i, D i, S j, D j, ri, rj, rfl, g.tabs, g.cups.at_ i yi hyi, g.cups.at_ j yj hyj, Nat.lt_of_le_of_lt (g.big i hi) hb, Nat.lt_of_le_of_lt (g.big j hj) hb, mi.at_, mj.at_, g.ro i ri hri, g.ro j rj hrj, by omega, by omega, qq⟩)))
      refine ⟨4, rfl, by decide, by decide, for_range (lo := 0) (n := 4) (fun i σ H' => ∃ z7 z8, σ = [some (.ref a), some (.ref l), some (.ref rl), some (.int (ko : Int)), z4, z5, some (.str (keptD 4 es).shown), z7, z8, none] ∧ Tabs T H' ∧ ExtN H7 H') ⟨none, none, rfl, T7, ExtN.refl H7⟩ ?_ ?_⟩
      · rintro i σ H8 hi ⟨z7, z8, rfl, T8, e8⟩
        rw [show ((0 : Int) + (i : Int)) = (i : Int) from Int.zero_add _]
        have hi : i < 4 := hi
        refine ⟨_, rfl, _, _, rfl, rfl, ((i + 1 : Nat) : Int), rfl, by omega, by omega, for_range (lo := 0) (n := (((i + 1 : Nat) : Int)).toNat) (fun j σ H' => ∃ z8, σ = [some (.ref a), some (.ref l), some (.ref rl), some (.int (ko : Int)), z4, z5, some (.str (keptD 4 es).shown), some (.int (i : Int)), z8, none] ∧ Tabs T H' ∧ ExtN H7 H') ⟨z8, rfl, T8, e8⟩ ?_ ?_⟩
        · rintro j σ H9 hj ⟨z8, rfl, T9, e9⟩
          rw [show ((0 : Int) + (j : Int)) = (j : Int) from Int.zero_add _]
          have hj : j < i + 1 := by omega
          have g9 := g7.ext A e9 T9
          refine rght H9 _ i j _ _ _ _ _ rows es S D rs _ _ g9 (by omega) (Nat.pow_lt_pow_right (by decide) (by omega)) hi (by omega) (fun y R' hy hR => ⟨_, rfl, _, rfl, l, _, _, _, rfl, rfl, .inl (.inl g9.ml.at_), atI_nat (j := i) (by rw [List.getElem?_map, hy]; rfl), hR⟩) (fun y R' hy hR => ⟨_, rfl, _, rfl, rl, _, _, _, rfl, rfl, .inl (.inl g9.mr.at_), atI_nat (j := i) (by rw [List.getElem?_map, hy]; rfl), hR⟩) (fun y R' hy hR => ⟨_, rfl, _, rfl, l, _, _, _, rfl, rfl, .inl (.inl g9.ml.at_), atI_nat (j := j) (by rw [List.getElem?_map, hy]; rfl), hR⟩) (fun y R' hy hR => ⟨_, rfl, _, rfl, rl, _, _, _, rfl, rfl, .inl (.inl g9.mr.at_), atI_nat (j := j) (by rw [List.getElem?_map, hy]; rfl), hR⟩) fun H10 T10 e10 => ⟨_, rfl, iteF ⟨_, rfl, T10, e9.trans e10⟩⟩
        · rintro σ H9 ⟨z8, rfl, T9, e9⟩
          exact ⟨_, _, rfl, T9, e9⟩
      · rintro σ H8 ⟨z7, z8, rfl, T8, e8⟩
        have g8 := g7.ext A e8 T8
        refine told13 A lw g8 hin hb2 fun H9 T9 e9 => ?_
        have g9 := g8.ext A e9 T9
        refine ⟨_, rfl, rfl, _, rfl, iteNS rfl ?_⟩
        have dk1 := okAdd 3 4 9 (by decide) (by decide)
        have hpow1 : 2 ^ (40 + 2 * (n + m)) < 2 ^ 190 := Nat.pow_lt_pow_right (by decide) (by omega)
        have hb401 : 2 ^ 40 ≤ 2 ^ (40 + 2 * (n + m)) := Nat.pow_le_pow_right (by decide) (by omega)
        refine ⟨_, rfl, by show 5 ≤ sizeLine; decide, fun p1 np1 => ?_⟩
        have s1a := same_upd (o := .tup [V.int 3, V.int 4, V.int 1, V.int 0, V.int 9]) np1
        have hp1a : (upd H9 p1 (.tup [V.int 3, V.int 4, V.int 1, V.int 0, V.int 9])) p1 = some (.tup [V.int 3, V.int 4, V.int 1, V.int 0, V.int 9]) := upd_same
        have mp1 := mine_new A g9.cups (NewN.of np1) hp1a (fun _ z => nomatch z)
        have g1a := g9.same A s1a
        revert hp1a mp1 g1a
        generalize upd H9 p1 (.tup [V.int 3, V.int 4, V.int 1, V.int 0, V.int 9]) = H1a
        intro hp1a mp1 g1a
        refine ⟨l, p1, [y1, y2, y3, y4], ks4, _, _, _, _, .add 3 4 1 0 9, rfl, g1a.tabs, g1a.ml.at_, hp1a, dk1, g1a.cups, g1a.ml.noS, mp1.noS, (show 3 < 4 by decide), fun c s e => (by cases e), fun j hj => Nat.lt_of_le_of_lt (g1a.big j hj) hpow1, fun H1b es1 S1 D1 T1 c1 ch1 un1 ud1 => ?_⟩
        obtain ⟨g1b, _⟩ := g1a.done4 dk1 (show 3 < 4 by decide) (fun c s e => (by cases e)) hb401 T1 c1 ch1 un1 ud1
        refine ⟨_, rfl, by show 5 ≤ sizeLine; decide, fun q1 nq1 => ?_⟩
        have s1c := same_upd (o := .tup [V.int 3, V.int 4, V.int 1, V.int 0, V.int 9]) nq1
        have hq1 : (upd H1b q1 (.tup [V.int 3, V.int 4, V.int 1, V.int 0, V.int 9])) q1 = some (.tup [V.int 3, V.int 4, V.int 1, V.int 0, V.int 9]) := upd_same
        have g1c := g1b.same A s1c
        revert hq1 g1c
        generalize upd H1b q1 (.tup [V.int 3, V.int 4, V.int 1, V.int 0, V.int 9]) = H1c
        intro hq1 g1c
        refine ⟨rl, q1, _, [d1, d2, d3, d4], _, .add 3 4 1 0 9, rfl, g1c.mr.at_, cellsAt g1c, hq1, dk1, rfl, fun s c e => (by cases e), fun r hr => ?_, fun H1d b1 h1 => ?_⟩
        · have := g1c.small r hr
          omega
        obtain ⟨g1d, _⟩ := g1c.come4 A dk1 (show 3 < 4 by decide) (fun c s e => (by cases e)) rfl b1 h1
        rw [pow_four, show 14 * (n + m) + 14 = 14 * (n + m + 1) by omega] at g1d
        have dk2 := okAdd 0 4 2 (by decide) (by decide)
        have hpow2 : 2 ^ (40 + 2 * (n + m + 1)) < 2 ^ 190 := Nat.pow_lt_pow_right (by decide) (by omega)
        have hb402 : 2 ^ 40 ≤ 2 ^ (40 + 2 * (n + m + 1)) := Nat.pow_le_pow_right (by decide) (by omega)
        refine ⟨_, rfl, by show 5 ≤ sizeLine; decide, fun p2 np2 => ?_⟩
        have s2a := same_upd (o := .tup [V.int 0, V.int 4, V.int 1, V.int 0, V.int 2]) np2
        have hp2a : (upd H1d p2 (.tup [V.int 0, V.int 4, V.int 1, V.int 0, V.int 2])) p2 = some (.tup [V.int 0, V.int 4, V.int 1, V.int 0, V.int 2]) := upd_same
        have mp2 := mine_new A g1d.cups (NewN.of np2) hp2a (fun _ z => nomatch z)
        have g2a := g1d.same A s2a
        revert hp2a mp2 g2a
        generalize upd H1d p2 (.tup [V.int 0, V.int 4, V.int 1, V.int 0, V.int 2]) = H2a
        intro hp2a mp2 g2a
        refine ⟨l, p2, [y1, y2, y3, y4], ks4, _, _, _, _, .add 0 4 1 0 2, rfl, g2a.tabs, g2a.ml.at_, hp2a, dk2, g2a.cups, g2a.ml.noS, mp2.noS, (show 0 < 4 by decide), fun c s e => (by cases e), fun j hj => Nat.lt_of_le_of_lt (g2a.big j hj) hpow2, fun H2b es2 S2 D2 T2 c2 ch2 un2 ud2 => ?_⟩
        obtain ⟨g2b, _⟩ := g2a.done4 dk2 (show 0 < 4 by decide) (fun c s e => (by cases e)) hb402 T2 c2 ch2 un2 ud2
        refine ⟨_, rfl, by show 5 ≤ sizeLine; decide, fun q2 nq2 => ?_⟩
        have s2c := same_upd (o := .tup [V.int 0, V.int 4, V.int 1, V.int 0, V.int 2]) nq2
        have hq2 : (upd H2b q2 (.tup [V.int 0, V.int 4, V.int 1, V.int 0, V.int 2])) q2 = some (.tup [V.int 0, V.int 4, V.int 1, V.int 0, V.int 2]) := upd_same
        have g2c := g2b.same A s2c
        revert hq2 g2c
        generalize upd H2b q2 (.tup [V.int 0, V.int 4, V.int 1, V.int 0, V.int 2]) = H2c
        intro hq2 g2c
        refine ⟨rl, q2, _, [d1, d2, d3, d4], _, .add 0 4 1 0 2, rfl, g2c.mr.at_, cellsAt g2c, hq2, dk2, rfl, fun s c e => (by cases e), fun r hr => ?_, fun H2d b2 h2 => ?_⟩
        · have := g2c.small r hr
          omega
        obtain ⟨g2d, _⟩ := g2c.come4 A dk2 (show 0 < 4 by decide) (fun c s e => (by cases e)) rfl b2 h2
        rw [pow_four, show 14 * (n + m + 1) + 14 = 14 * (n + m + 1 + 1) by omega] at g2d
        show tCall (lpRight13 R T) [] E0 (tCons (tOp (rIxL K) (tVar 1) (tC (V.int 3))) (tCons (tOp (rIxL K) (tVar 2) (tC (V.int 3))) (tCons (tOp (rIxL K) (tVar 1) (tC (V.int 0))) (tCons (tOp (rIxL K) (tVar 2) (tC (V.int 0))) tNil)))) [some (V.ref a), some (V.ref l), some (V.ref rl), some (V.int (ko : Int)), z4, z5, some (V.str (keptD 4 es).shown), z7, z8, none] H2d Q
        refine rght _ _ 3 0 _ _ _ _ _ _ _ _ _ _ _ _ g2d (by omega) (Nat.pow_lt_pow_right (by decide) (by omega)) (by decide) (by decide) (fun y R' hy hR => ⟨_, rfl, l, _, _, _, rfl, rfl, .inl (.inl g2d.ml.at_), atI_nat (j := 3) (by rw [List.getElem?_map, hy]; rfl), hR⟩) (fun y R' hy hR => ⟨_, rfl, rl, _, _, _, rfl, rfl, .inl (.inl g2d.mr.at_), atI_nat (j := 3) (by rw [List.getElem?_map, hy]; rfl), hR⟩) (fun y R' hy hR => ⟨_, rfl, l, _, _, _, rfl, rfl, .inl (.inl g2d.ml.at_), atI_nat (j := 0) (by rw [List.getElem?_map, hy]; rfl), hR⟩) (fun y R' hy hR => ⟨_, rfl, rl, _, _, _, rfl, rfl, .inl (.inl g2d.mr.at_), atI_nat (j := 0) (by rw [List.getElem?_map, hy]; rfl), hR⟩) fun H10 _ _ => q H10
end
end K13

namespace K13
open PySem PySem.Spec PyProof.Rows L2 Own LamX
theorem all_mk {l : PySem.W.OpenLaw} {w : World} {K : PySem.W.Frag} {h : Heap} {mg mb : Str → Option Value} {mean : ExcName → Option Value} {qq : Program} {loose : List Str} {fa f0 f1 f2 f3 f4 f5 f6 f7 f8 f9 f10 f11 f12 f13 f14 f15 f16 f17 f18 f19 f20 f21 f22 f23 f24 f25 f26 f27 f28 f29 f30 f31 f32 f33 f34 f35 f36 f37 f38 f39 C_Cup C_BadReading C_BadKeep C_BadTimes C_UnlikeCups C_NoReadings C_NoPlace C_NoCups C_RankError P_joined : Addr} (TP : Top qq loose mean mg mb h) (X : K.In h) (G : h.Ns mainGlobals mg) (hfa : mg "law" = some (.ref fa))
    {od0 an0 : Option Addr} {sl0 : Array (Option Value)} {oc0 kV0 dc0 pm0 cd0 ct0 : Value} {od1 an1 : Option Addr} {sl1 : Array (Option Value)} {oc1 kV1 dc1 pm1 cd1 ct1 : Value} {od2 an2 : Option Addr} {sl2 : Array (Option Value)} {oc2 kV2 dc2 pm2 cd2 ct2 : Value} {od3 an3 : Option Addr} {sl3 : Array (Option Value)} {oc3 kV3 dc3 pm3 cd3 ct3 : Value} {od4 an4 : Option Addr} {sl4 : Array (Option Value)} {oc4 kV4 dc4 pm4 cd4 ct4 : Value} {od5 an5 : Option Addr} {sl5 : Array (Option Value)} {oc5 kV5 dc5 pm5 cd5 ct5 : Value} {od6 an6 : Option Addr} {sl6 : Array (Option Value)} {oc6 kV6 dc6 pm6 cd6 ct6 : Value} {od7 an7 : Option Addr} {sl7 : Array (Option Value)} {oc7 kV7 dc7 pm7 cd7 ct7 : Value} {od8 an8 : Option Addr} {sl8 : Array (Option Value)} {oc8 kV8 dc8 pm8 cd8 ct8 : Value} {od9 an9 : Option Addr} {sl9 : Array (Option Value)} {oc9 kV9 dc9 pm9 cd9 ct9 : Value} {od10 an10 : Option Addr} {sl10 : Array (Option Value)} {oc10 kV10 dc10 pm10 cd10 ct10 : Value} {od11 an11 : Option Addr} {sl11 : Array (Option Value)} {oc11 kV11 dc11 pm11 cd11 ct11 : Value} {od12 an12 : Option Addr} {sl12 : Array (Option Value)} {oc12 kV12 dc12 pm12 cd12 ct12 : Value} {od13 an13 : Option Addr} {sl13 : Array (Option Value)} {oc13 kV13 dc13 pm13 cd13 ct13 : Value} {od14 an14 : Option Addr} {sl14 : Array (Option Value)} {oc14 kV14 dc14 pm14 cd14 ct14 : Value} {od15 an15 : Option Addr} {sl15 : Array (Option Value)} {oc15 kV15 dc15 pm15 cd15 ct15 : Value} {od16 an16 : Option Addr} {sl16 : Array (Option Value)} {oc16 kV16 dc16 pm16 cd16 ct16 : Value} {od17 an17 : Option Addr} {sl17 : Array (Option Value)} {oc17 kV17 dc17 pm17 cd17 ct17 : Value} {od18 an18 : Option Addr} {sl18 : Array (Option Value)} {oc18 kV18 dc18 pm18 cd18 ct18 : Value} {od19 an19 : Option Addr} {sl19 : Array (Option Value)} {oc19 kV19 dc19 pm19 cd19 ct19 : Value} {od20 an20 : Option Addr} {sl20 : Array (Option Value)} {oc20 kV20 dc20 pm20 cd20 ct20 : Value} {od21 an21 : Option Addr} {sl21 : Array (Option Value)} {oc21 kV21 dc21 pm21 cd21 ct21 : Value} {od22 an22 : Option Addr} {sl22 : Array (Option Value)} {oc22 kV22 dc22 pm22 cd22 ct22 : Value} {od23 an23 : Option Addr} {sl23 : Array (Option Value)} {oc23 kV23 dc23 pm23 cd23 ct23 : Value} {od24 an24 : Option Addr} {sl24 : Array (Option Value)} {oc24 kV24 dc24 pm24 cd24 ct24 : Value} {od25 an25 : Option Addr} {sl25 : Array (Option Value)} {oc25 kV25 dc25 pm25 cd25 ct25 : Value} {od26 an26 : Option Addr} {sl26 : Array (Option Value)} {oc26 kV26 dc26 pm26 cd26 ct26 : Value} {od27 an27 : Option Addr} {sl27 : Array (Option Value)} {oc27 kV27 dc27 pm27 cd27 ct27 : Value} {od28 an28 : Option Addr} {sl28 : Array (Option Value)} {oc28 kV28 dc28 pm28 cd28 ct28 : Value} {od29 an29 : Option Addr} {sl29 : Array (Option Value)} {oc29 kV29 dc29 pm29 cd29 ct29 : Value} {od30 an30 : Option Addr} {sl30 : Array (Option Value)} {oc30 kV30 dc30 pm30 cd30 ct30 : Value} {od31 an31 : Option Addr} {sl31 : Array (Option Value)} {oc31 kV31 dc31 pm31 cd31 ct31 : Value} {od32 an32 : Option Addr} {sl32 : Array (Option Value)} {oc32 kV32 dc32 pm32 cd32 ct32 : Value} {od33 an33 : Option Addr} {sl33 : Array (Option Value)} {oc33 kV33 dc33 pm33 cd33 ct33 : Value} {od34 an34 : Option Addr} {sl34 : Array (Option Value)} {oc34 kV34 dc34 pm34 cd34 ct34 : Value} {od35 an35 : Option Addr} {sl35 : Array (Option Value)} {oc35 kV35 dc35 pm35 cd35 ct35 : Value} {od36 an36 : Option Addr} {sl36 : Array (Option Value)} {oc36 kV36 dc36 pm36 cd36 ct36 : Value} {od37 an37 : Option Addr} {sl37 : Array (Option Value)} {oc37 kV37 dc37 pm37 cd37 ct37 : Value} {od38 an38 : Option Addr} {sl38 : Array (Option Value)} {oc38 kV38 dc38 pm38 cd38 ct38 : Value} {od39 an39 : Option Addr} {sl39 : Array (Option Value)} {oc39 kV39 dc39 pm39 cd39 ct39 : Value} {t_GREATEST_KEEP : Tok} {t_GREATEST_READING : Tok} {t_GREATEST_TIMES : Tok} {e_joined : DefRec} {co_joined : Addr}
    (a0 : PySem.W.nsIn K mainGlobals "exact" = some (some (.ref f0)))
    (l0 : K.lookup f0 = some ⟨oc0, od0, .func (PySem.W.fnOf "exact" "exact" (defArgs s_exact) (defBody s_exact) (defScope s_exact) .none kV0 dc0 pm0 an0 cd0 ct0), sl0⟩)
    (c0 : PySem.W.codeIn K cd0 "exact" = true)
    (k0 : PySem.W.keepIn K (.ref f0) = true)
    (a1 : PySem.W.nsIn K mainGlobals "joined" = some (some (.ref f1)))
    (l1 : K.lookup f1 = some ⟨oc1, od1, .func (PySem.W.fnOf "joined" "joined" (defArgs s_joined) (defBody s_joined) (defScope s_joined) .none kV1 dc1 pm1 an1 cd1 ct1), sl1⟩)
    (c1 : PySem.W.codeIn K cd1 "joined" = true)
    (k1 : PySem.W.keepIn K (.ref f1) = true)
    (a2 : PySem.W.nsIn K mainGlobals "halved" = some (some (.ref f2)))
    (l2 : K.lookup f2 = some ⟨oc2, od2, .func (PySem.W.fnOf "halved" "halved" (defArgs s_halved) (defBody s_halved) (defScope s_halved) .none kV2 dc2 pm2 an2 cd2 ct2), sl2⟩)
    (c2 : PySem.W.codeIn K cd2 "halved" = true)
    (k2 : PySem.W.keepIn K (.ref f2) = true)
    (a3 : PySem.W.nsIn K mainGlobals "ahead_of" = some (some (.ref f3)))
    (l3 : K.lookup f3 = some ⟨oc3, od3, .func (PySem.W.fnOf "ahead_of" "ahead_of" (defArgs s_ahead_of) (defBody s_ahead_of) (defScope s_ahead_of) .none kV3 dc3 pm3 an3 cd3 ct3), sl3⟩)
    (c3 : PySem.W.codeIn K cd3 "ahead_of" = true)
    (k3 : PySem.W.keepIn K (.ref f3) = true)
    (a4 : PySem.W.nsIn K mainGlobals "_lifted" = some (some (.ref f4)))
    (l4 : K.lookup f4 = some ⟨oc4, od4, .func (PySem.W.fnOf "_lifted" "_lifted" (defArgs s__lifted) (defBody s__lifted) (defScope s__lifted) .none kV4 dc4 pm4 an4 cd4 ct4), sl4⟩)
    (c4 : PySem.W.codeIn K cd4 "_lifted" = true)
    (k4 : PySem.W.keepIn K (.ref f4) = true)
    (a5 : PySem.W.nsIn K mainGlobals "_least_less" = some (some (.ref f5)))
    (l5 : K.lookup f5 = some ⟨oc5, od5, .func (PySem.W.fnOf "_least_less" "_least_less" (defArgs s__least_less) (defBody s__least_less) (defScope s__least_less) .none kV5 dc5 pm5 an5 cd5 ct5), sl5⟩)
    (c5 : PySem.W.codeIn K cd5 "_least_less" = true)
    (k5 : PySem.W.keepIn K (.ref f5) = true)
    (a6 : PySem.W.nsIn K mainGlobals "_most_less" = some (some (.ref f6)))
    (l6 : K.lookup f6 = some ⟨oc6, od6, .func (PySem.W.fnOf "_most_less" "_most_less" (defArgs s__most_less) (defBody s__most_less) (defScope s__most_less) .none kV6 dc6 pm6 an6 cd6 ct6), sl6⟩)
    (c6 : PySem.W.codeIn K cd6 "_most_less" = true)
    (k6 : PySem.W.keepIn K (.ref f6) = true)
    (a7 : PySem.W.nsIn K mainGlobals "_first_no_less" = some (some (.ref f7)))
    (l7 : K.lookup f7 = some ⟨oc7, od7, .func (PySem.W.fnOf "_first_no_less" "_first_no_less" (defArgs s__first_no_less) (defBody s__first_no_less) (defScope s__first_no_less) .none kV7 dc7 pm7 an7 cd7 ct7), sl7⟩)
    (c7 : PySem.W.codeIn K cd7 "_first_no_less" = true)
    (k7 : PySem.W.keepIn K (.ref f7) = true)
    (a8 : PySem.W.nsIn K mainGlobals "is_whole" = some (some (.ref f8)))
    (l8 : K.lookup f8 = some ⟨oc8, od8, .func (PySem.W.fnOf "is_whole" "is_whole" (defArgs s_is_whole) (defBody s_is_whole) (defScope s_is_whole) .none kV8 dc8 pm8 an8 cd8 ct8), sl8⟩)
    (c8 : PySem.W.codeIn K cd8 "is_whole" = true)
    (k8 : PySem.W.keepIn K (.ref f8) = true)
    (a9 : PySem.W.nsIn K mainGlobals "check_reading" = some (some (.ref f9)))
    (l9 : K.lookup f9 = some ⟨oc9, od9, .func (PySem.W.fnOf "check_reading" "check_reading" (defArgs s_check_reading) (defBody s_check_reading) (defScope s_check_reading) .none kV9 dc9 pm9 an9 cd9 ct9), sl9⟩)
    (c9 : PySem.W.codeIn K cd9 "check_reading" = true)
    (k9 : PySem.W.keepIn K (.ref f9) = true)
    (a10 : PySem.W.findIn K (.ref C_Cup) "__init__" = some (some (.ref f10)))
    (i10 : PySem.W.isFn K (.ref f10) = true)
    (l10 : K.lookup f10 = some ⟨oc10, od10, .func (PySem.W.fnOf "__init__" "Cup.__init__" (defArgs s_Cup___init__) (defBody s_Cup___init__) (defScope s_Cup___init__) .none kV10 dc10 pm10 an10 cd10 ct10), sl10⟩)
    (c10 : PySem.W.codeIn K cd10 "Cup.__init__" = true)
    (k10 : PySem.W.keepIn K (.ref f10) = true)
    (a11 : PySem.W.findIn K (.ref C_Cup) "add" = some (some (.ref f11)))
    (i11 : PySem.W.isFn K (.ref f11) = true)
    (l11 : K.lookup f11 = some ⟨oc11, od11, .func (PySem.W.fnOf "add" "Cup.add" (defArgs s_Cup_add) (defBody s_Cup_add) (defScope s_Cup_add) .none kV11 dc11 pm11 an11 cd11 ct11), sl11⟩)
    (c11 : PySem.W.codeIn K cd11 "Cup.add" = true)
    (k11 : PySem.W.keepIn K (.ref f11) = true)
    (a12 : PySem.W.findIn K (.ref C_Cup) "pour" = some (some (.ref f12)))
    (i12 : PySem.W.isFn K (.ref f12) = true)
    (l12 : K.lookup f12 = some ⟨oc12, od12, .func (PySem.W.fnOf "pour" "Cup.pour" (defArgs s_Cup_pour) (defBody s_Cup_pour) (defScope s_Cup_pour) .none kV12 dc12 pm12 an12 cd12 ct12), sl12⟩)
    (c12 : PySem.W.codeIn K cd12 "Cup.pour" = true)
    (k12 : PySem.W.keepIn K (.ref f12) = true)
    (a13 : PySem.W.findIn K (.ref C_Cup) "count" = some (some (.ref f13)))
    (i13 : PySem.W.isFn K (.ref f13) = true)
    (l13 : K.lookup f13 = some ⟨oc13, od13, .func (PySem.W.fnOf "count" "Cup.count" (defArgs s_Cup_count) (defBody s_Cup_count) (defScope s_Cup_count) .none kV13 dc13 pm13 an13 cd13 ct13), sl13⟩)
    (c13 : PySem.W.codeIn K cd13 "Cup.count" = true)
    (k13 : PySem.W.keepIn K (.ref f13) = true)
    (a14 : PySem.W.findIn K (.ref C_Cup) "kept" = some (some (.ref f14)))
    (i14 : PySem.W.isFn K (.ref f14) = true)
    (l14 : K.lookup f14 = some ⟨oc14, od14, .func (PySem.W.fnOf "kept" "Cup.kept" (defArgs s_Cup_kept) (defBody s_Cup_kept) (defScope s_Cup_kept) .none kV14 dc14 pm14 an14 cd14 ct14), sl14⟩)
    (c14 : PySem.W.codeIn K cd14 "Cup.kept" = true)
    (k14 : PySem.W.keepIn K (.ref f14) = true)
    (a15 : PySem.W.findIn K (.ref C_Cup) "_parts" = some (some (.ref f15)))
    (i15 : PySem.W.isFn K (.ref f15) = true)
    (l15 : K.lookup f15 = some ⟨oc15, od15, .func (PySem.W.fnOf "_parts" "Cup._parts" (defArgs s_Cup__parts) (defBody s_Cup__parts) (defScope s_Cup__parts) .none kV15 dc15 pm15 an15 cd15 ct15), sl15⟩)
    (c15 : PySem.W.codeIn K cd15 "Cup._parts" = true)
    (k15 : PySem.W.keepIn K (.ref f15) = true)
    (a16 : PySem.W.findIn K (.ref C_Cup) "_add_loose" = some (some (.ref f16)))
    (i16 : PySem.W.isFn K (.ref f16) = true)
    (l16 : K.lookup f16 = some ⟨oc16, od16, .func (PySem.W.fnOf "_add_loose" "Cup._add_loose" (defArgs s_Cup__add_loose) (defBody s_Cup__add_loose) (defScope s_Cup__add_loose) .none kV16 dc16 pm16 an16 cd16 ct16), sl16⟩)
    (c16 : PySem.W.codeIn K cd16 "Cup._add_loose" = true)
    (k16 : PySem.W.keepIn K (.ref f16) = true)
    (a17 : PySem.W.findIn K (.ref C_Cup) "_add_block" = some (some (.ref f17)))
    (i17 : PySem.W.isFn K (.ref f17) = true)
    (l17 : K.lookup f17 = some ⟨oc17, od17, .func (PySem.W.fnOf "_add_block" "Cup._add_block" (defArgs s_Cup__add_block) (defBody s_Cup__add_block) (defScope s_Cup__add_block) .none kV17 dc17 pm17 an17 cd17 ct17), sl17⟩)
    (c17 : PySem.W.codeIn K cd17 "Cup._add_block" = true)
    (k17 : PySem.W.keepIn K (.ref f17) = true)
    (a18 : PySem.W.findIn K (.ref C_Cup) "_like_block" = some (some (.ref f18)))
    (i18 : PySem.W.isFn K (.ref f18) = true)
    (l18 : K.lookup f18 = some ⟨oc18, od18, .func (PySem.W.fnOf "_like_block" "Cup._like_block" (defArgs s_Cup__like_block) (defBody s_Cup__like_block) (defScope s_Cup__like_block) .none kV18 dc18 pm18 an18 cd18 ct18), sl18⟩)
    (c18 : PySem.W.codeIn K cd18 "Cup._like_block" = true)
    (k18 : PySem.W.keepIn K (.ref f18) = true)
    (a19 : PySem.W.nsIn K mainGlobals "_ones" = some (some (.ref f19)))
    (l19 : K.lookup f19 = some ⟨oc19, od19, .func (PySem.W.fnOf "_ones" "_ones" (defArgs s__ones) (defBody s__ones) (defScope s__ones) .none kV19 dc19 pm19 an19 cd19 ct19), sl19⟩)
    (c19 : PySem.W.codeIn K cd19 "_ones" = true)
    (k19 : PySem.W.keepIn K (.ref f19) = true)
    (a20 : PySem.W.nsIn K mainGlobals "apart" = some (some (.ref f20)))
    (l20 : K.lookup f20 = some ⟨oc20, od20, .func (PySem.W.fnOf "apart" "apart" (defArgs s_apart) (defBody s_apart) (defScope s_apart) .none kV20 dc20 pm20 an20 cd20 ct20), sl20⟩)
    (c20 : PySem.W.codeIn K cd20 "apart" = true)
    (k20 : PySem.W.keepIn K (.ref f20) = true)
    (a21 : PySem.W.nsIn K mainGlobals "_steps" = some (some (.ref f21)))
    (l21 : K.lookup f21 = some ⟨oc21, od21, .func (PySem.W.fnOf "_steps" "_steps" (defArgs s__steps) (defBody s__steps) (defScope s__steps) .none kV21 dc21 pm21 an21 cd21 ct21), sl21⟩)
    (c21 : PySem.W.codeIn K cd21 "_steps" = true)
    (k21 : PySem.W.keepIn K (.ref f21) = true)
    (a22 : PySem.W.nsIn K mainGlobals "_law_cell" = some (some (.ref f22)))
    (l22 : K.lookup f22 = some ⟨oc22, od22, .func (PySem.W.fnOf "_law_cell" "_law_cell" (defArgs s__law_cell) (defBody s__law_cell) (defScope s__law_cell) .none kV22 dc22 pm22 an22 cd22 ct22), sl22⟩)
    (c22 : PySem.W.codeIn K cd22 "_law_cell" = true)
    (k22 : PySem.W.keepIn K (.ref f22) = true)
    (a23 : PySem.W.nsIn K mainGlobals "_law_mixed" = some (some (.ref f23)))
    (l23 : K.lookup f23 = some ⟨oc23, od23, .func (PySem.W.fnOf "_law_mixed" "_law_mixed" (defArgs s__law_mixed) (defBody s__law_mixed) (defScope s__law_mixed) .none kV23 dc23 pm23 an23 cd23 ct23), sl23⟩)
    (c23 : PySem.W.codeIn K cd23 "_law_mixed" = true)
    (k23 : PySem.W.keepIn K (.ref f23) = true)
    (a24 : PySem.W.nsIn K mainGlobals "_law_reading" = some (some (.ref f24)))
    (l24 : K.lookup f24 = some ⟨oc24, od24, .func (PySem.W.fnOf "_law_reading" "_law_reading" (defArgs s__law_reading) (defBody s__law_reading) (defScope s__law_reading) .none kV24 dc24 pm24 an24 cd24 ct24), sl24⟩)
    (c24 : PySem.W.codeIn K cd24 "_law_reading" = true)
    (k24 : PySem.W.keepIn K (.ref f24) = true)
    (a25 : PySem.W.nsIn K mainGlobals "_law_times" = some (some (.ref f25)))
    (l25 : K.lookup f25 = some ⟨oc25, od25, .func (PySem.W.fnOf "_law_times" "_law_times" (defArgs s__law_times) (defBody s__law_times) (defScope s__law_times) .none kV25 dc25 pm25 an25 cd25 ct25), sl25⟩)
    (c25 : PySem.W.codeIn K cd25 "_law_times" = true)
    (k25 : PySem.W.keepIn K (.ref f25) = true)
    (a26 : PySem.W.nsIn K mainGlobals "_law_keep" = some (some (.ref f26)))
    (l26 : K.lookup f26 = some ⟨oc26, od26, .func (PySem.W.fnOf "_law_keep" "_law_keep" (defArgs s__law_keep) (defBody s__law_keep) (defScope s__law_keep) .none kV26 dc26 pm26 an26 cd26 ct26), sl26⟩)
    (c26 : PySem.W.codeIn K cd26 "_law_keep" = true)
    (k26 : PySem.W.keepIn K (.ref f26) = true)
    (a27 : PySem.W.nsIn K mainGlobals "_law_deeds" = some (some (.ref f27)))
    (l27 : K.lookup f27 = some ⟨oc27, od27, .func (PySem.W.fnOf "_law_deeds" "_law_deeds" (defArgs s__law_deeds) (defBody s__law_deeds) (defScope s__law_deeds) .none kV27 dc27 pm27 an27 cd27 ct27), sl27⟩)
    (c27 : PySem.W.codeIn K cd27 "_law_deeds" = true)
    (k27 : PySem.W.keepIn K (.ref f27) = true)
    (a28 : PySem.W.nsIn K mainGlobals "_law_come" = some (some (.ref f28)))
    (l28 : K.lookup f28 = some ⟨oc28, od28, .func (PySem.W.fnOf "_law_come" "_law_come" (defArgs s__law_come) (defBody s__law_come) (defScope s__law_come) .none kV28 dc28 pm28 an28 cd28 ct28), sl28⟩)
    (c28 : PySem.W.codeIn K cd28 "_law_come" = true)
    (k28 : PySem.W.keepIn K (.ref f28) = true)
    (a29 : PySem.W.nsIn K mainGlobals "_law_done" = some (some (.ref f29)))
    (l29 : K.lookup f29 = some ⟨oc29, od29, .func (PySem.W.fnOf "_law_done" "_law_done" (defArgs s__law_done) (defBody s__law_done) (defScope s__law_done) .none kV29 dc29 pm29 an29 cd29 ct29), sl29⟩)
    (c29 : PySem.W.codeIn K cd29 "_law_done" = true)
    (k29 : PySem.W.keepIn K (.ref f29) = true)
    (a30 : PySem.W.nsIn K mainGlobals "_law_less" = some (some (.ref f30)))
    (l30 : K.lookup f30 = some ⟨oc30, od30, .func (PySem.W.fnOf "_law_less" "_law_less" (defArgs s__law_less) (defBody s__law_less) (defScope s__law_less) .none kV30 dc30 pm30 an30 cd30 ct30), sl30⟩)
    (c30 : PySem.W.codeIn K cd30 "_law_less" = true)
    (k30 : PySem.W.keepIn K (.ref f30) = true)
    (a31 : PySem.W.nsIn K mainGlobals "_law_off" = some (some (.ref f31)))
    (l31 : K.lookup f31 = some ⟨oc31, od31, .func (PySem.W.fnOf "_law_off" "_law_off" (defArgs s__law_off) (defBody s__law_off) (defScope s__law_off) .none kV31 dc31 pm31 an31 cd31 ct31), sl31⟩)
    (c31 : PySem.W.codeIn K cd31 "_law_off" = true)
    (k31 : PySem.W.keepIn K (.ref f31) = true)
    (a32 : PySem.W.nsIn K mainGlobals "_law_pair_right" = some (some (.ref f32)))
    (l32 : K.lookup f32 = some ⟨oc32, od32, .func (PySem.W.fnOf "_law_pair_right" "_law_pair_right" (defArgs s__law_pair_right) (defBody s__law_pair_right) (defScope s__law_pair_right) .none kV32 dc32 pm32 an32 cd32 ct32), sl32⟩)
    (c32 : PySem.W.codeIn K cd32 "_law_pair_right" = true)
    (k32 : PySem.W.keepIn K (.ref f32) = true)
    (a33 : PySem.W.nsIn K mainGlobals "_law_played" = some (some (.ref f33)))
    (l33 : K.lookup f33 = some ⟨oc33, od33, .func (PySem.W.fnOf "_law_played" "_law_played" (defArgs s__law_played) (defBody s__law_played) (defScope s__law_played) .none kV33 dc33 pm33 an33 cd33 ct33), sl33⟩)
    (c33 : PySem.W.codeIn K cd33 "_law_played" = true)
    (k33 : PySem.W.keepIn K (.ref f33) = true)
    (a34 : PySem.W.nsIn K mainGlobals "_law_three" = some (some (.ref f34)))
    (l34 : K.lookup f34 = some ⟨oc34, od34, .func (PySem.W.fnOf "_law_three" "_law_three" (defArgs s__law_three) (defBody s__law_three) (defScope s__law_three) .none kV34 dc34 pm34 an34 cd34 ct34), sl34⟩)
    (c34 : PySem.W.codeIn K cd34 "_law_three" = true)
    (k34 : PySem.W.keepIn K (.ref f34) = true)
    (a35 : PySem.W.nsIn K mainGlobals "_law_alone" = some (some (.ref f35)))
    (l35 : K.lookup f35 = some ⟨oc35, od35, .func (PySem.W.fnOf "_law_alone" "_law_alone" (defArgs s__law_alone) (defBody s__law_alone) (defScope s__law_alone) .none kV35 dc35 pm35 an35 cd35 ct35), sl35⟩)
    (c35 : PySem.W.codeIn K cd35 "_law_alone" = true)
    (k35 : PySem.W.keepIn K (.ref f35) = true)
    (a36 : PySem.W.nsIn K mainGlobals "_law_greatest" = some (some (.ref f36)))
    (l36 : K.lookup f36 = some ⟨oc36, od36, .func (PySem.W.fnOf "_law_greatest" "_law_greatest" (defArgs s__law_greatest) (defBody s__law_greatest) (defScope s__law_greatest) .none kV36 dc36 pm36 an36 cd36 ct36), sl36⟩)
    (c36 : PySem.W.codeIn K cd36 "_law_greatest" = true)
    (k36 : PySem.W.keepIn K (.ref f36) = true)
    (a37 : PySem.W.nsIn K mainGlobals "_law_refused" = some (some (.ref f37)))
    (l37 : K.lookup f37 = some ⟨oc37, od37, .func (PySem.W.fnOf "_law_refused" "_law_refused" (defArgs s__law_refused) (defBody s__law_refused) (defScope s__law_refused) .none kV37 dc37 pm37 an37 cd37 ct37), sl37⟩)
    (c37 : PySem.W.codeIn K cd37 "_law_refused" = true)
    (k37 : PySem.W.keepIn K (.ref f37) = true)
    (a38 : PySem.W.nsIn K mainGlobals "_law_right" = some (some (.ref f38)))
    (l38 : K.lookup f38 = some ⟨oc38, od38, .func (PySem.W.fnOf "_law_right" "_law_right" (defArgs s__law_right) (defBody s__law_right) (defScope s__law_right) .none kV38 dc38 pm38 an38 cd38 ct38), sl38⟩)
    (c38 : PySem.W.codeIn K cd38 "_law_right" = true)
    (k38 : PySem.W.keepIn K (.ref f38) = true)
    (a39 : PySem.W.nsIn K mainGlobals "law" = some (some (.ref f39)))
    (l39 : K.lookup f39 = some ⟨oc39, od39, .func (PySem.W.fnOf "law" "law" (defArgs s_law) (defBody s_law) (defScope s_law) .none kV39 dc39 pm39 an39 cd39 ct39), sl39⟩)
    (c39 : PySem.W.codeIn K cd39 "law" = true)
    (k39 : PySem.W.keepIn K (.ref f39) = true)
    (g_Cup : PySem.W.nsIn K mainGlobals "Cup" = some (some (.ref C_Cup)))
    (pg_Cup : PySem.W.plainGet K C_Cup Str.empty = true)
    (hd_Cup : PySem.W.hasDictIn K C_Cup = true)
    (po_Cup : PySem.W.plainOver K C_Cup = true)
    (sa_Cup : PySem.W.findIn K (.ref C_Cup) "__setattr__" = some (some (.builtin "object.__setattr__")))
    (mk_Cup : PySem.W.makesIn K C_Cup = true)
    (kc_Cup : PySem.W.keepIn K (.ref C_Cup) = true)
    (nkeep_Cup : PySem.W.findIn K (.ref C_Cup) "keep" = some none)
    (n_count_Cup : PySem.W.findIn K (.ref C_Cup) "_count" = some none)
    (n_loose_Cup : PySem.W.findIn K (.ref C_Cup) "_loose" = some none)
    (n_blocks_Cup : PySem.W.findIn K (.ref C_Cup) "_blocks" = some none)
    (xg_BadReading : PySem.W.nsIn K mainGlobals "BadReading" = some (some (.ref C_BadReading)))
    (xk_BadReading : PySem.W.keepIn K (.ref C_BadReading) = true)
    (xx_BadReading : PySem.W.excIn K C_BadReading errTail "ValueError.__new__" = true)
    (xs_BadReading : PySem.W.subIn K (.ref C_BadReading) (.type "BaseException") = some true)
    (xt_BadReading : PySem.W.typeIn K (.ref C_BadReading) = some (.type "type"))
    (x1_BadReading : PySem.W.findIn K (.ref C_BadReading) "__getattribute__" = some (some (.builtin "BaseException.__getattribute__")))
    (x2_BadReading : PySem.W.findIn K (.ref C_BadReading) "__getattr__" = some none)
    (x4_BadReading : PySem.W.hasDictIn K C_BadReading = true)
    (x5_BadReading : PySem.W.findIn K (.ref C_BadReading) "__class__" = some (some (.builtin "object.__class__")))
    (x6_BadReading : PySem.W.specialIn K (.builtin "object.__class__") "__get__" = some (some (.builtin "getset_descriptor.__get__")))
    (x7_BadReading : PySem.W.takesIn K (.builtin "object.__class__") = some true)
    (x8_BadReading : PySem.W.mroIn K C_BadReading (.type "object") = some true)
    (x9_BadReading : PySem.W.subIn K (.ref C_BadReading) (.ref C_BadReading) = some true)
    (xg_BadKeep : PySem.W.nsIn K mainGlobals "BadKeep" = some (some (.ref C_BadKeep)))
    (xk_BadKeep : PySem.W.keepIn K (.ref C_BadKeep) = true)
    (xx_BadKeep : PySem.W.excIn K C_BadKeep errTail "ValueError.__new__" = true)
    (xs_BadKeep : PySem.W.subIn K (.ref C_BadKeep) (.type "BaseException") = some true)
    (xt_BadKeep : PySem.W.typeIn K (.ref C_BadKeep) = some (.type "type"))
    (x1_BadKeep : PySem.W.findIn K (.ref C_BadKeep) "__getattribute__" = some (some (.builtin "BaseException.__getattribute__")))
    (x2_BadKeep : PySem.W.findIn K (.ref C_BadKeep) "__getattr__" = some none)
    (x4_BadKeep : PySem.W.hasDictIn K C_BadKeep = true)
    (x5_BadKeep : PySem.W.findIn K (.ref C_BadKeep) "__class__" = some (some (.builtin "object.__class__")))
    (x6_BadKeep : PySem.W.specialIn K (.builtin "object.__class__") "__get__" = some (some (.builtin "getset_descriptor.__get__")))
    (x7_BadKeep : PySem.W.takesIn K (.builtin "object.__class__") = some true)
    (x8_BadKeep : PySem.W.mroIn K C_BadKeep (.type "object") = some true)
    (x9_BadKeep : PySem.W.subIn K (.ref C_BadKeep) (.ref C_BadKeep) = some true)
    (xg_BadTimes : PySem.W.nsIn K mainGlobals "BadTimes" = some (some (.ref C_BadTimes)))
    (xk_BadTimes : PySem.W.keepIn K (.ref C_BadTimes) = true)
    (xx_BadTimes : PySem.W.excIn K C_BadTimes errTail "ValueError.__new__" = true)
    (xs_BadTimes : PySem.W.subIn K (.ref C_BadTimes) (.type "BaseException") = some true)
    (xt_BadTimes : PySem.W.typeIn K (.ref C_BadTimes) = some (.type "type"))
    (x1_BadTimes : PySem.W.findIn K (.ref C_BadTimes) "__getattribute__" = some (some (.builtin "BaseException.__getattribute__")))
    (x2_BadTimes : PySem.W.findIn K (.ref C_BadTimes) "__getattr__" = some none)
    (x4_BadTimes : PySem.W.hasDictIn K C_BadTimes = true)
    (x5_BadTimes : PySem.W.findIn K (.ref C_BadTimes) "__class__" = some (some (.builtin "object.__class__")))
    (x6_BadTimes : PySem.W.specialIn K (.builtin "object.__class__") "__get__" = some (some (.builtin "getset_descriptor.__get__")))
    (x7_BadTimes : PySem.W.takesIn K (.builtin "object.__class__") = some true)
    (x8_BadTimes : PySem.W.mroIn K C_BadTimes (.type "object") = some true)
    (x9_BadTimes : PySem.W.subIn K (.ref C_BadTimes) (.ref C_BadTimes) = some true)
    (xg_UnlikeCups : PySem.W.nsIn K mainGlobals "UnlikeCups" = some (some (.ref C_UnlikeCups)))
    (xk_UnlikeCups : PySem.W.keepIn K (.ref C_UnlikeCups) = true)
    (xx_UnlikeCups : PySem.W.excIn K C_UnlikeCups errTail "ValueError.__new__" = true)
    (xs_UnlikeCups : PySem.W.subIn K (.ref C_UnlikeCups) (.type "BaseException") = some true)
    (xt_UnlikeCups : PySem.W.typeIn K (.ref C_UnlikeCups) = some (.type "type"))
    (x1_UnlikeCups : PySem.W.findIn K (.ref C_UnlikeCups) "__getattribute__" = some (some (.builtin "BaseException.__getattribute__")))
    (x2_UnlikeCups : PySem.W.findIn K (.ref C_UnlikeCups) "__getattr__" = some none)
    (x4_UnlikeCups : PySem.W.hasDictIn K C_UnlikeCups = true)
    (x5_UnlikeCups : PySem.W.findIn K (.ref C_UnlikeCups) "__class__" = some (some (.builtin "object.__class__")))
    (x6_UnlikeCups : PySem.W.specialIn K (.builtin "object.__class__") "__get__" = some (some (.builtin "getset_descriptor.__get__")))
    (x7_UnlikeCups : PySem.W.takesIn K (.builtin "object.__class__") = some true)
    (x8_UnlikeCups : PySem.W.mroIn K C_UnlikeCups (.type "object") = some true)
    (x9_UnlikeCups : PySem.W.subIn K (.ref C_UnlikeCups) (.ref C_UnlikeCups) = some true)
    (xg_NoReadings : PySem.W.nsIn K mainGlobals "NoReadings" = some (some (.ref C_NoReadings)))
    (xk_NoReadings : PySem.W.keepIn K (.ref C_NoReadings) = true)
    (xx_NoReadings : PySem.W.excIn K C_NoReadings errTail "ValueError.__new__" = true)
    (xs_NoReadings : PySem.W.subIn K (.ref C_NoReadings) (.type "BaseException") = some true)
    (xt_NoReadings : PySem.W.typeIn K (.ref C_NoReadings) = some (.type "type"))
    (x1_NoReadings : PySem.W.findIn K (.ref C_NoReadings) "__getattribute__" = some (some (.builtin "BaseException.__getattribute__")))
    (x2_NoReadings : PySem.W.findIn K (.ref C_NoReadings) "__getattr__" = some none)
    (x4_NoReadings : PySem.W.hasDictIn K C_NoReadings = true)
    (x5_NoReadings : PySem.W.findIn K (.ref C_NoReadings) "__class__" = some (some (.builtin "object.__class__")))
    (x6_NoReadings : PySem.W.specialIn K (.builtin "object.__class__") "__get__" = some (some (.builtin "getset_descriptor.__get__")))
    (x7_NoReadings : PySem.W.takesIn K (.builtin "object.__class__") = some true)
    (x8_NoReadings : PySem.W.mroIn K C_NoReadings (.type "object") = some true)
    (x9_NoReadings : PySem.W.subIn K (.ref C_NoReadings) (.ref C_NoReadings) = some true)
    (xg_NoPlace : PySem.W.nsIn K mainGlobals "NoPlace" = some (some (.ref C_NoPlace)))
    (xk_NoPlace : PySem.W.keepIn K (.ref C_NoPlace) = true)
    (xx_NoPlace : PySem.W.excIn K C_NoPlace errTail "ValueError.__new__" = true)
    (xs_NoPlace : PySem.W.subIn K (.ref C_NoPlace) (.type "BaseException") = some true)
    (xt_NoPlace : PySem.W.typeIn K (.ref C_NoPlace) = some (.type "type"))
    (x1_NoPlace : PySem.W.findIn K (.ref C_NoPlace) "__getattribute__" = some (some (.builtin "BaseException.__getattribute__")))
    (x2_NoPlace : PySem.W.findIn K (.ref C_NoPlace) "__getattr__" = some none)
    (x4_NoPlace : PySem.W.hasDictIn K C_NoPlace = true)
    (x5_NoPlace : PySem.W.findIn K (.ref C_NoPlace) "__class__" = some (some (.builtin "object.__class__")))
    (x6_NoPlace : PySem.W.specialIn K (.builtin "object.__class__") "__get__" = some (some (.builtin "getset_descriptor.__get__")))
    (x7_NoPlace : PySem.W.takesIn K (.builtin "object.__class__") = some true)
    (x8_NoPlace : PySem.W.mroIn K C_NoPlace (.type "object") = some true)
    (x9_NoPlace : PySem.W.subIn K (.ref C_NoPlace) (.ref C_NoPlace) = some true)
    (xg_NoCups : PySem.W.nsIn K mainGlobals "NoCups" = some (some (.ref C_NoCups)))
    (xk_NoCups : PySem.W.keepIn K (.ref C_NoCups) = true)
    (xx_NoCups : PySem.W.excIn K C_NoCups errTail "ValueError.__new__" = true)
    (xs_NoCups : PySem.W.subIn K (.ref C_NoCups) (.type "BaseException") = some true)
    (xt_NoCups : PySem.W.typeIn K (.ref C_NoCups) = some (.type "type"))
    (x1_NoCups : PySem.W.findIn K (.ref C_NoCups) "__getattribute__" = some (some (.builtin "BaseException.__getattribute__")))
    (x2_NoCups : PySem.W.findIn K (.ref C_NoCups) "__getattr__" = some none)
    (x4_NoCups : PySem.W.hasDictIn K C_NoCups = true)
    (x5_NoCups : PySem.W.findIn K (.ref C_NoCups) "__class__" = some (some (.builtin "object.__class__")))
    (x6_NoCups : PySem.W.specialIn K (.builtin "object.__class__") "__get__" = some (some (.builtin "getset_descriptor.__get__")))
    (x7_NoCups : PySem.W.takesIn K (.builtin "object.__class__") = some true)
    (x8_NoCups : PySem.W.mroIn K C_NoCups (.type "object") = some true)
    (x9_NoCups : PySem.W.subIn K (.ref C_NoCups) (.ref C_NoCups) = some true)
    (xg_RankError : PySem.W.nsIn K mainGlobals "RankError" = some (some (.ref C_RankError)))
    (xk_RankError : PySem.W.keepIn K (.ref C_RankError) = true)
    (xx_RankError : PySem.W.excIn K C_RankError errTail "ValueError.__new__" = true)
    (xs_RankError : PySem.W.subIn K (.ref C_RankError) (.type "BaseException") = some true)
    (xt_RankError : PySem.W.typeIn K (.ref C_RankError) = some (.type "type"))
    (x1_RankError : PySem.W.findIn K (.ref C_RankError) "__getattribute__" = some (some (.builtin "BaseException.__getattribute__")))
    (x2_RankError : PySem.W.findIn K (.ref C_RankError) "__getattr__" = some none)
    (x4_RankError : PySem.W.hasDictIn K C_RankError = true)
    (x5_RankError : PySem.W.findIn K (.ref C_RankError) "__class__" = some (some (.builtin "object.__class__")))
    (x6_RankError : PySem.W.specialIn K (.builtin "object.__class__") "__get__" = some (some (.builtin "getset_descriptor.__get__")))
    (x7_RankError : PySem.W.takesIn K (.builtin "object.__class__") = some true)
    (x8_RankError : PySem.W.mroIn K C_RankError (.type "object") = some true)
    (x9_RankError : PySem.W.subIn K (.ref C_RankError) (.ref C_RankError) = some true)
    (kt_NoReadings_BadKeep : PySem.W.kitOne K (.ref C_NoReadings) (.ref C_BadKeep) = some false)
    (kt_NoReadings_BadReading : PySem.W.kitOne K (.ref C_NoReadings) (.ref C_BadReading) = some false)
    (kt_NoReadings_BadTimes : PySem.W.kitOne K (.ref C_NoReadings) (.ref C_BadTimes) = some false)
    (kt_NoReadings_NoPlace : PySem.W.kitOne K (.ref C_NoReadings) (.ref C_NoPlace) = some false)
    (kt_NoReadings_UnlikeCups : PySem.W.kitOne K (.ref C_NoReadings) (.ref C_UnlikeCups) = some false)
    (kt_NoReadings_NoReadings : PySem.W.kitOne K (.ref C_NoReadings) (.ref C_NoReadings) = some true)
    (kt_NoReadings_NoCups : PySem.W.kitOne K (.ref C_NoReadings) (.ref C_NoCups) = some false)
    (kr_NoReadings : PySem.W.kitOne K (.ref C_NoReadings) (.ref C_RankError) = some true)
    (kv_NoReadings : PySem.W.kitOne K (.ref C_NoReadings) (.type "ValueError") = some true)
    (z_ValueError : PySem.W.nsIn K mainGlobals "ValueError" = some none)
    (z_abs : PySem.W.nsIn K mainGlobals "abs" = some none)
    (z_bool : PySem.W.nsIn K mainGlobals "bool" = some none)
    (z_enumerate : PySem.W.nsIn K mainGlobals "enumerate" = some none)
    (z_int : PySem.W.nsIn K mainGlobals "int" = some none)
    (z_isinstance : PySem.W.nsIn K mainGlobals "isinstance" = some none)
    (z_len : PySem.W.nsIn K mainGlobals "len" = some none)
    (z_list : PySem.W.nsIn K mainGlobals "list" = some none)
    (z_max : PySem.W.nsIn K mainGlobals "max" = some none)
    (z_range : PySem.W.nsIn K mainGlobals "range" = some none)
    (z_repr : PySem.W.nsIn K mainGlobals "repr" = some none)
    (z_sorted : PySem.W.nsIn K mainGlobals "sorted" = some none)
    (z_sum : PySem.W.nsIn K mainGlobals "sum" = some none)
    (z_tuple : PySem.W.nsIn K mainGlobals "tuple" = some none)
    (v_GREATEST_KEEP : PySem.W.nsIn K mainGlobals "GREATEST_KEEP" = some (some (.int 64 t_GREATEST_KEEP)))
    (v_GREATEST_READING : PySem.W.nsIn K mainGlobals "GREATEST_READING" = some (some (.int 1000000000000000000 t_GREATEST_READING)))
    (v_GREATEST_TIMES : PySem.W.nsIn K mainGlobals "GREATEST_TIMES" = some (some (.int 1000000000 t_GREATEST_TIMES)))
    (hr_joined : (recsOf qq).find? (fun e => e.name == ("joined" : Str)) = some e_joined)
    (ht_joined : PySem.W.tabIn K "joined" = some (co_joined, P_joined))
    (hn_joined : K.lookup P_joined = none) :
    LawAtG l w K 14 63 "_law_script" mg fa h := by
  have e := hfa.symm.trans (PySem.W.mg_of X G a39)
  cases e
  have B : Bi mg := ⟨PySem.W.mg_none_of X G z_ValueError, PySem.W.mg_none_of X G z_abs, PySem.W.mg_none_of X G z_bool, PySem.W.mg_none_of X G z_enumerate, PySem.W.mg_none_of X G z_int, PySem.W.mg_none_of X G z_isinstance, PySem.W.mg_none_of X G z_len, PySem.W.mg_none_of X G z_list, PySem.W.mg_none_of X G z_max, PySem.W.mg_none_of X G z_range, PySem.W.mg_none_of X G z_repr, PySem.W.mg_none_of X G z_sorted, PySem.W.mg_none_of X G z_sum, PySem.W.mg_none_of X G z_tuple, ⟨_, PySem.W.mg_of X G v_GREATEST_KEEP⟩, ⟨_, PySem.W.mg_of X G v_GREATEST_READING⟩, ⟨_, PySem.W.mg_of X G v_GREATEST_TIMES⟩⟩
  have CK : CupK K C_Cup := ⟨⟨pg_Cup, hd_Cup, po_Cup, sa_Cup⟩, nkeep_Cup, n_count_Cup, n_loose_Cup, n_blocks_Cup⟩
  have API := cupApi C_Cup
  have X_BadReading : ExcK K mg "BadReading" C_BadReading := ⟨PySem.W.mg_of X G xg_BadReading, xk_BadReading, xx_BadReading, xs_BadReading, xt_BadReading, ⟨x1_BadReading, x2_BadReading, xs_BadReading, x4_BadReading, x5_BadReading, x6_BadReading, x7_BadReading, x8_BadReading⟩⟩
  have X_BadKeep : ExcK K mg "BadKeep" C_BadKeep := ⟨PySem.W.mg_of X G xg_BadKeep, xk_BadKeep, xx_BadKeep, xs_BadKeep, xt_BadKeep, ⟨x1_BadKeep, x2_BadKeep, xs_BadKeep, x4_BadKeep, x5_BadKeep, x6_BadKeep, x7_BadKeep, x8_BadKeep⟩⟩
  have X_BadTimes : ExcK K mg "BadTimes" C_BadTimes := ⟨PySem.W.mg_of X G xg_BadTimes, xk_BadTimes, xx_BadTimes, xs_BadTimes, xt_BadTimes, ⟨x1_BadTimes, x2_BadTimes, xs_BadTimes, x4_BadTimes, x5_BadTimes, x6_BadTimes, x7_BadTimes, x8_BadTimes⟩⟩
  have X_UnlikeCups : ExcK K mg "UnlikeCups" C_UnlikeCups := ⟨PySem.W.mg_of X G xg_UnlikeCups, xk_UnlikeCups, xx_UnlikeCups, xs_UnlikeCups, xt_UnlikeCups, ⟨x1_UnlikeCups, x2_UnlikeCups, xs_UnlikeCups, x4_UnlikeCups, x5_UnlikeCups, x6_UnlikeCups, x7_UnlikeCups, x8_UnlikeCups⟩⟩
  have X_NoReadings : ExcK K mg "NoReadings" C_NoReadings := ⟨PySem.W.mg_of X G xg_NoReadings, xk_NoReadings, xx_NoReadings, xs_NoReadings, xt_NoReadings, ⟨x1_NoReadings, x2_NoReadings, xs_NoReadings, x4_NoReadings, x5_NoReadings, x6_NoReadings, x7_NoReadings, x8_NoReadings⟩⟩
  have X_NoPlace : ExcK K mg "NoPlace" C_NoPlace := ⟨PySem.W.mg_of X G xg_NoPlace, xk_NoPlace, xx_NoPlace, xs_NoPlace, xt_NoPlace, ⟨x1_NoPlace, x2_NoPlace, xs_NoPlace, x4_NoPlace, x5_NoPlace, x6_NoPlace, x7_NoPlace, x8_NoPlace⟩⟩
  have X_NoCups : ExcK K mg "NoCups" C_NoCups := ⟨PySem.W.mg_of X G xg_NoCups, xk_NoCups, xx_NoCups, xs_NoCups, xt_NoCups, ⟨x1_NoCups, x2_NoCups, xs_NoCups, x4_NoCups, x5_NoCups, x6_NoCups, x7_NoCups, x8_NoCups⟩⟩
  have X_RankError : ExcK K mg "RankError" C_RankError := ⟨PySem.W.mg_of X G xg_RankError, xk_RankError, xx_RankError, xs_RankError, xt_RankError, ⟨x1_RankError, x2_RankError, xs_RankError, x4_RankError, x5_RankError, x6_RankError, x7_RankError, x8_RankError⟩⟩
  have AL_NoReadings : Alone K [C_BadKeep, C_BadReading, C_BadTimes, C_NoPlace, C_UnlikeCups, C_NoReadings, C_NoCups] C_RankError C_NoReadings := ⟨X_NoReadings.is, ⟨[false, false, false, false, false, true, false], (.cons kt_NoReadings_BadKeep (.cons kt_NoReadings_BadReading (.cons kt_NoReadings_BadTimes (.cons kt_NoReadings_NoPlace (.cons kt_NoReadings_UnlikeCups (.cons kt_NoReadings_NoReadings (.cons kt_NoReadings_NoCups .nil))))))), by decide⟩, kr_NoReadings, kv_NoReadings⟩
  have F0 := fun_mk (st := s_exact) l0 c0 k0
  have b0 := F0.binds (ps := ["row"]) fun _ _ _ _ _ _ us hl => match us, hl with | [_], _ => rfl
  have he_joined : cd1 = .ref co_joined := PySem.W.law_code X G ht_joined (PySem.W.mg_of X G a1) (X _ _ l1) rfl
  have F1 := funC_mk (st := s_joined) l1 c1 k1 he_joined
  have b1 := F1.fn.binds (ps := ["ones", "many", "others", "more"]) fun _ _ _ _ _ _ us hl => match us, hl with | [_, _, _, _], _ => rfl
  have tb_joined := PySem.W.tab_of TP X hr_joined ht_joined
  have F2 := fun_mk (st := s_halved) l2 c2 k2
  have b2 := F2.binds (ps := ["entries"]) fun _ _ _ _ _ _ us hl => match us, hl with | [_], _ => rfl
  have F3 := fun_mk (st := s_ahead_of) l3 c3 k3
  have b3 := F3.binds (ps := ["entries", "many", "reading"]) fun _ _ _ _ _ _ us hl => match us, hl with | [_, _, _], _ => rfl
  have F4 := fun_mk (st := s__lifted) l4 c4 k4
  have b4 := F4.binds (ps := ["entries", "others", "more"]) fun _ _ _ _ _ _ us hl => match us, hl with | [_, _, _], _ => rfl
  have F5 := fun_mk (st := s__least_less) l5 c5 k5
  have b5 := F5.binds (ps := ["entries", "reading"]) fun _ _ _ _ _ _ us hl => match us, hl with | [_, _], _ => rfl
  have F6 := fun_mk (st := s__most_less) l6 c6 k6
  have b6 := F6.binds (ps := ["entries", "many", "reading"]) fun _ _ _ _ _ _ us hl => match us, hl with | [_, _, _], _ => rfl
  have F7 := fun_mk (st := s__first_no_less) l7 c7 k7
  have b7 := F7.binds (ps := ["entries", "reading"]) fun _ _ _ _ _ _ us hl => match us, hl with | [_, _], _ => rfl
  have F8 := fun_mk (st := s_is_whole) l8 c8 k8
  have b8 := F8.binds (ps := ["value", "least", "most"]) fun _ _ _ _ _ _ us hl => match us, hl with | [_, _, _], _ => rfl
  have F9 := fun_mk (st := s_check_reading) l9 c9 k9
  have b9 := F9.binds (ps := ["value"]) fun _ _ _ _ _ _ us hl => match us, hl with | [_], _ => rfl
  have F10 := fun_mk (st := s_Cup___init__) l10 c10 k10
  have b10 := F10.binds (ps := ["self", "keep"]) fun _ _ _ _ _ _ us hl => match us, hl with | [_, _], _ => rfl
  have F11 := fun_mk (st := s_Cup_add) l11 c11 k11
  have b11 := F11.binds (ps := ["self", "reading", "times"]) fun _ _ _ _ _ _ us hl => match us, hl with | [_, _, _], _ => rfl
  have F12 := fun_mk (st := s_Cup_pour) l12 c12 k12
  have b12 := F12.binds (ps := ["self", "other"]) fun _ _ _ _ _ _ us hl => match us, hl with | [_, _], _ => rfl
  have F13 := fun_mk (st := s_Cup_count) l13 c13 k13
  have b13 := F13.binds (ps := ["self"]) fun _ _ _ _ _ _ us hl => match us, hl with | [_], _ => rfl
  have F14 := fun_mk (st := s_Cup_kept) l14 c14 k14
  have b14 := F14.binds (ps := ["self"]) fun _ _ _ _ _ _ us hl => match us, hl with | [_], _ => rfl
  have F15 := fun_mk (st := s_Cup__parts) l15 c15 k15
  have b15 := F15.binds (ps := ["self"]) fun _ _ _ _ _ _ us hl => match us, hl with | [_], _ => rfl
  have F16 := fun_mk (st := s_Cup__add_loose) l16 c16 k16
  have b16 := F16.binds (ps := ["self", "reading"]) fun _ _ _ _ _ _ us hl => match us, hl with | [_, _], _ => rfl
  have F17 := fun_mk (st := s_Cup__add_block) l17 c17 k17
  have b17 := F17.binds (ps := ["self", "place", "block"]) fun _ _ _ _ _ _ us hl => match us, hl with | [_, _, _], _ => rfl
  have F18 := fun_mk (st := s_Cup__like_block) l18 c18 k18
  have b18 := F18.binds (ps := ["self", "place", "reading"]) fun _ _ _ _ _ _ us hl => match us, hl with | [_, _, _], _ => rfl
  have F19 := fun_mk (st := s__ones) l19 c19 k19
  have b19 := F19.binds (ps := ["number"]) fun _ _ _ _ _ _ us hl => match us, hl with | [_], _ => rfl
  have F20 := fun_mk (st := s_apart) l20 c20 k20
  have b20 := F20.binds (ps := ["one", "other"]) fun _ _ _ _ _ _ us hl => match us, hl with | [_, _], _ => rfl
  have F21 := fun_mk (st := s__steps) l21 c21 k21
  have b21 := F21.binds (ps := ["entries"]) fun _ _ _ _ _ _ us hl => match us, hl with | [_], _ => rfl
  have F22 := fun_mk (st := s__law_cell) l22 c22 k22
  have b22 := F22.binds (ps := ["_law_script", "_law_k"]) fun _ _ _ _ _ _ us hl => match us, hl with | [_, _], _ => rfl
  have F23 := fun_mk (st := s__law_mixed) l23 c23 k23
  have b23 := F23.binds (ps := ["_law_cell_here", "_law_k"]) fun _ _ _ _ _ _ us hl => match us, hl with | [_, _], _ => rfl
  have F24 := fun_mk (st := s__law_reading) l24 c24 k24
  have b24 := F24.binds (ps := ["_law_cell_here"]) fun _ _ _ _ _ _ us hl => match us, hl with | [_], _ => rfl
  have F25 := fun_mk (st := s__law_times) l25 c25 k25
  have b25 := F25.binds (ps := ["_law_cell_here", "_law_great"]) fun _ _ _ _ _ _ us hl => match us, hl with | [_, _], _ => rfl
  have F26 := fun_mk (st := s__law_keep) l26 c26 k26
  have b26 := F26.binds (ps := ["_law_cell_here"]) fun _ _ _ _ _ _ us hl => match us, hl with | [_], _ => rfl
  have F27 := fun_mk (st := s__law_deeds) l27 c27 k27
  have b27 := F27.binds (ps := ["_law_cells", "_law_great"]) fun _ _ _ _ _ _ us hl => match us, hl with | [_, _], _ => rfl
  have F28 := fun_mk (st := s__law_come) l28 c28 k28
  have b28 := F28.binds (ps := ["_law_rows", "_law_deed"]) fun _ _ _ _ _ _ us hl => match us, hl with | [_, _], _ => rfl
  have F29 := fun_mk (st := s__law_done) l29 c29 k29
  have b29 := F29.binds (ps := ["_law_cups", "_law_deed"]) fun _ _ _ _ _ _ us hl => match us, hl with | [_, _], _ => rfl
  have F30 := fun_mk (st := s__law_less) l30 c30 k30
  have b30 := F30.binds (ps := ["_law_row", "_law_reading_here"]) fun _ _ _ _ _ _ us hl => match us, hl with | [_, _], _ => rfl
  have F31 := fun_mk (st := s__law_off) l31 c31 k31
  have b31 := F31.binds (ps := ["_law_count", "_law_keep_here"]) fun _ _ _ _ _ _ us hl => match us, hl with | [_, _], _ => rfl
  have F32 := fun_mk (st := s__law_pair_right) l32 c32 k32
  have b32 := F32.binds (ps := ["_law_found", "_law_due", "_law_most"]) fun _ _ _ _ _ _ us hl => match us, hl with | [_, _, _], _ => rfl
  have F33 := fun_mk (st := s__law_played) l33 c33 k33
  have b33 := F33.binds (ps := ["_law_script", "_law_first", "_law_most", "_law_great"]) fun _ _ _ _ _ _ us hl => match us, hl with | [_, _, _, _], _ => rfl
  have F34 := fun_mk (st := s__law_three) l34 c34 k34
  have b34 := F34.binds (ps := ["_law_script", "_law_first", "_law_most", "_law_great"]) fun _ _ _ _ _ _ us hl => match us, hl with | [_, _, _, _], _ => rfl
  have F35 := fun_mk (st := s__law_alone) l35 c35 k35
  have b35 := F35.binds (ps := ["_law_e"]) fun _ _ _ _ _ _ us hl => match us, hl with | [_], _ => rfl
  have F36 := fun_mk (st := s__law_greatest) l36 c36 k36
  have b36 := F36.binds (ps := ["_law_row", "_law_other"]) fun _ _ _ _ _ _ us hl => match us, hl with | [_, _], _ => rfl
  have F37 := fun_mk (st := s__law_refused) l37 c37 k37
  have b37 := F37.binds (ps := ["_law_one", "_law_other"]) fun _ _ _ _ _ _ us hl => match us, hl with | [_, _], _ => rfl
  have F38 := fun_mk (st := s__law_right) l38 c38 k38
  have b38 := F38.binds (ps := ["_law_one", "_law_row", "_law_other", "_law_more"]) fun _ _ _ _ _ _ us hl => match us, hl with | [_, _, _, _], _ => rfl
  have F39 := fun_mk (st := s_law) l39 c39 k39
  have b39 := F39.binds (ps := ["_law_script"]) fun _ _ _ _ _ _ us hl => match us, hl with | [_], _ => rfl
  refine ⟨PySem.W.fnOf "law" "law" (defArgs s_law) (defBody s_law) (defScope s_law) .none kV39 dc39 pm39 an39 cd39 ct39, [(co_joined, P_joined)], (lpLaw K [(P_joined, lamQ "joined")]), fun p hp => ?_, fun p hp => ?_, fun p hp => ?_, fun s v => .of_eq rfl, ?_, fun base hb1 hb2 TBs => ?_⟩
  · rw [List.mem_singleton.mp hp]
    exact tb_joined.2
  · rw [List.mem_singleton.mp hp]
    exact hn_joined
  · rw [List.mem_singleton.mp hp]
    exact tb_joined.1
  · intro H a ns h1 h2 h3 h4
    exact ⟨a, ns, rfl, h4, h1, tabs_start (by
      intro p hp
      rw [List.mem_singleton.mp hp]
      exact h3 (co_joined, P_joined) (List.mem_cons_self)
      ), fun _ => rfl⟩
  have TB_joined := TBs (co_joined, P_joined) (List.mem_cons_self)
  have hm_joined : (P_joined, lamQ "joined") ∈ [(P_joined, lamQ "joined")] := (List.mem_cons_self)
  have hu_joined : ∀ p ∈ [(P_joined, lamQ "joined")], p.1 = P_joined → p.2 = lamQ "joined" := by
    intro p hp
    rw [List.mem_singleton.mp hp]
    exact fun _ => rfl
  have C__law_cell : CalK l.prog w K mg base 1 "_law_cell" (lpCell K) := ⟨_, _, _, ok_cell  F22 B  , PySem.W.mg_of X G a22, F22.kp, b22⟩
  have C__law_mixed : CalK l.prog w K mg base 1 "_law_mixed" lpMixed := ⟨_, _, _, ok_mixed  F23 B  , PySem.W.mg_of X G a23, F23.kp, b23⟩
  have C__law_times : CalK l.prog w K mg base 2 "_law_times" lpTimes := ⟨_, _, _, ok_times  F25 B  C__law_mixed, PySem.W.mg_of X G a25, F25.kp, b25⟩
  have C__law_reading : CalK l.prog w K mg base 2 "_law_reading" lpReading := ⟨_, _, _, ok_reading  F24 B  C__law_mixed, PySem.W.mg_of X G a24, F24.kp, b24⟩
  have C__law_deeds : CalK l.prog w K mg base 3 "_law_deeds" (lpDeeds K) := ⟨_, _, _, ok_deeds  F27 B  C__law_mixed C__law_times C__law_reading, PySem.W.mg_of X G a27, F27.kp, b27⟩
  have C__law_keep : CalK l.prog w K mg base 1 "_law_keep" lpKeep := ⟨_, _, _, ok_keep  F26 B  , PySem.W.mg_of X G a26, F26.kp, b26⟩
  have C__law_played : CalK l.prog w K mg base 4 "_law_played" (lpPlayed K) := ⟨_, _, _, ok_played  F33 B  C__law_cell C__law_deeds C__law_keep, PySem.W.mg_of X G a33, F33.kp, b33⟩
  have C_is_whole : CalK l.prog w K mg base 1 "is_whole" cpWhole := ⟨_, _, _, ok_is_whole  F8 B  , PySem.W.mg_of X G a8, F8.kp, b8⟩
  have M_Cup___init__ : MakN l.prog w K mg base 3 "Cup" C_Cup (apInit (CupRl C_Cup) [(P_joined, lamQ "joined")] C_Cup C_BadKeep) := ⟨_, _, _, ok_init CK X_BadKeep F10 B  C_is_whole, ⟨mk_Cup, a10, i10, kc_Cup⟩, PySem.W.mg_of X G g_Cup, b10⟩
  have C_exact : CalK l.prog w K mg base 1 "exact" (cpExact K) := ⟨_, _, _, ok_exact  F0 B  , PySem.W.mg_of X G a0, F0.kp, b0⟩
  have C__first_no_less : CalK l.prog w K mg base 1 "_first_no_less" cpNoLess := ⟨_, _, _, ok_no_less  F7 B  , PySem.W.mg_of X G a7, F7.kp, b7⟩
  have C__most_less : CalK l.prog w K mg base 2 "_most_less" cpMostLess := ⟨_, _, _, ok_most_less  F6 B  C__first_no_less, PySem.W.mg_of X G a6, F6.kp, b6⟩
  have C__least_less : CalK l.prog w K mg base 2 "_least_less" cpLeastLess := ⟨_, _, _, ok_least_less  F5 B  C__first_no_less, PySem.W.mg_of X G a5, F5.kp, b5⟩
  have C__lifted : CalK l.prog w K mg base 3 "_lifted" cpLifted := ⟨_, _, _, ok_lifted  F4 B  C__most_less C__least_less, PySem.W.mg_of X G a4, F4.kp, b4⟩
  have C_joined : CalK l.prog w K mg base 5 "joined" (cpJoined [(P_joined, lamQ "joined")]) := ⟨_, _, _, ok_joined hm_joined hu_joined F1 TB_joined B  C__lifted, PySem.W.mg_of X G a1, F1.kp, b1⟩
  have C_halved : CalK l.prog w K mg base 1 "halved" (cpHalved K) := ⟨_, _, _, ok_halved  F2 B  , PySem.W.mg_of X G a2, F2.kp, b2⟩
  have M_Cup__add_block : MetN l.prog w K mg base 7 C_Cup "_add_block" (cpAddBlock [(P_joined, lamQ "joined")] C_Cup) := ⟨CK.cl, _, _, _, FnOk.lift (ok_add_block CK F17 B  C_joined C_halved), ⟨a17, i17, k17⟩, b17⟩
  have M_Cup__add_loose : MetN l.prog w K mg base 8 C_Cup "_add_loose" (cpAddLoose [(P_joined, lamQ "joined")] C_Cup) := ⟨CK.cl, _, _, _, FnOk.lift (ok_add_loose CK F16 B  C_exact M_Cup__add_block), ⟨a16, i16, k16⟩, b16⟩
  have M_Cup_pour : MetN l.prog w K mg base 10 C_Cup "pour" (apPour (CupRl C_Cup) [(P_joined, lamQ "joined")] C_UnlikeCups) := ⟨CK.cl, _, _, _, ok_pour CK X_UnlikeCups F12 B  M_Cup__add_loose M_Cup__add_block, ⟨a12, i12, k12⟩, b12⟩
  have C_check_reading : CalN l.prog w K mg base 2 "check_reading" (cpReading C_BadReading) := ⟨_, _, _, ok_check_reading X_BadReading F9 B  C_is_whole, PySem.W.mg_of X G a9, F9.kp, b9⟩
  have C__ones : CalK l.prog w K mg base 1 "_ones" cpOnes := ⟨_, _, _, ok_ones  F19 B  , PySem.W.mg_of X G a19, F19.kp, b19⟩
  have M_Cup__like_block : MetN l.prog w K mg base 1 C_Cup "_like_block" (cpLike C_Cup) := ⟨CK.cl, _, _, _, FnOk.lift (ok_like_block CK F18 B  ), ⟨a18, i18, k18⟩, b18⟩
  have M_Cup_add : MetN l.prog w K mg base 10 C_Cup "add" (apAdd (CupRl C_Cup) [(P_joined, lamQ "joined")] C_BadReading C_BadTimes) := ⟨CK.cl, _, _, _, ok_add CK X_BadTimes F11 B  C_check_reading C_is_whole M_Cup__add_loose C__ones M_Cup__add_block M_Cup__like_block, ⟨a11, i11, k11⟩, b11⟩
  have C__law_done : CalK l.prog w K mg base 11 "_law_done" (lpDone4 (CupRl C_Cup) [(P_joined, lamQ "joined")]) := ⟨_, _, _, ok_done API F29 B  M_Cup_pour M_Cup_add, PySem.W.mg_of X G a29, F29.kp, b29⟩
  have C__law_come : CalK l.prog w K mg base 1 "_law_come" (lpCome4 K) := ⟨_, _, _, ok_come  F28 B  , PySem.W.mg_of X G a28, F28.kp, b28⟩
  have C__law_three : CalK l.prog w K mg base 12 "_law_three" (lpThreeI K (CupRl C_Cup) [(P_joined, lamQ "joined")]) := ⟨_, _, _, ok_three API F34 B  C__law_played M_Cup___init__ C__law_done C__law_come, PySem.W.mg_of X G a34, F34.kp, b34⟩
  have M_Cup__parts : MetN l.prog w K mg base 2 C_Cup "_parts" (cpParts C_Cup) := ⟨CK.cl, _, _, _, FnOk.lift (ok_parts CK F15 B  C_exact), ⟨a15, i15, k15⟩, b15⟩
  have M0_Cup_kept : MetN l.prog w K mg base 9 C_Cup "kept" (apKept (CupRl C_Cup) [(P_joined, lamQ "joined")]) := ⟨CK.cl, _, _, _, FnOk.lift (ok_kept CK F14 B  M_Cup__parts C_joined), ⟨a14, i14, k14⟩, b14⟩
  have M_Cup_kept := M0_Cup_kept.mono (k := 10) (by decide)
  have M3_Cup_kept : MetN l.prog w K mg base 9 C_Cup "kept" (apKeptP (CupRl C_Cup) [(P_joined, lamQ "joined")]) := ⟨CK.cl, _, _, _, FnOk.lift (ok_keptP CK F14 B M_Cup__parts C_joined), ⟨a14, i14, k14⟩, b14⟩
  have M2_Cup_kept := M3_Cup_kept.mono (k := 10) (by decide)
  have M_Cup_count : MetN l.prog w K mg base 10 C_Cup "count" (apCount (CupRl C_Cup) [(P_joined, lamQ "joined")]) := ⟨CK.cl, _, _, _, FnOk.lift (ok_count CK F13 B  ), ⟨a13, i13, k13⟩, b13⟩
  have M3_Cup_count : MetN l.prog w K mg base 10 C_Cup "count" (apCountP (CupRl C_Cup) [(P_joined, lamQ "joined")]) := ⟨CK.cl, _, _, _, FnOk.lift (ok_countP CK F13 B ), ⟨a13, i13, k13⟩, b13⟩
  have M2_Cup_count := M3_Cup_count.mono (k := 10) (by decide)
  have C__steps : CalK l.prog w K mg base 1 "_steps" cpSteps := ⟨_, _, _, ok_steps  F21 B  , PySem.W.mg_of X G a21, F21.kp, b21⟩
  have C_ahead_of : CalK l.prog w K mg base 3 "ahead_of" cpAheadOf := ⟨_, _, _, ok_ahead_of  F3 B  C__most_less C__least_less, PySem.W.mg_of X G a3, F3.kp, b3⟩
  have C_apart : CalN l.prog w K mg base 11 "apart" (cpApart (CupRl C_Cup) [(P_joined, lamQ "joined")] C_NoReadings) := ⟨_, _, _, ok_apart API (cupGap C_Cup) X_NoReadings F20 B  M2_Cup_count M2_Cup_kept C__steps C_ahead_of, PySem.W.mg_of X G a20, F20.kp, b20⟩
  have C__law_alone : CalE l.prog w K mg base 1 "_law_alone" (lpAlone K [C_BadKeep, C_BadReading, C_BadTimes, C_NoPlace, C_UnlikeCups, C_NoReadings, C_NoCups] C_RankError) := ⟨_, _, _, ok_alone  F35 B X_BadKeep X_BadReading X_BadTimes X_NoPlace X_UnlikeCups X_NoReadings X_NoCups X_RankError , PySem.W.mg_of X G a35, F35.kp, b35⟩
  have C__law_refused : CalK l.prog w K mg base 12 "_law_refused" (lpRef13 (CupRl C_Cup) [(P_joined, lamQ "joined")]) := ⟨_, _, _, ok_refused API F37 B X_NoReadings x9_NoReadings AL_NoReadings C_apart C__law_alone, PySem.W.mg_of X G a37, F37.kp, b37⟩
  have C__law_off : CalK l.prog w K mg base 1 "_law_off" lpOff := ⟨_, _, _, ok_off  F31 B  , PySem.W.mg_of X G a31, F31.kp, b31⟩
  have C__law_less : CalK l.prog w K mg base 1 "_law_less" (lpLess K) := ⟨_, _, _, ok_less  F30 B  , PySem.W.mg_of X G a30, F30.kp, b30⟩
  have C__law_greatest : CalK l.prog w K mg base 2 "_law_greatest" lpGreatest := ⟨_, _, _, ok_greatest  F36 B  C__law_less, PySem.W.mg_of X G a36, F36.kp, b36⟩
  have C__law_pair_right : CalK l.prog w K mg base 1 "_law_pair_right" lpPairRight := ⟨_, _, _, ok_pair_right  F32 B  , PySem.W.mg_of X G a32, F32.kp, b32⟩
  have C__law_right : CalK l.prog w K mg base 13 "_law_right" (lpRight13 (CupRl C_Cup) [(P_joined, lamQ "joined")]) := ⟨_, _, _, ok_right API CK.cl CK.keep F38 B  C__law_refused C__law_off C__law_greatest C_apart C__law_pair_right, PySem.W.mg_of X G a38, F38.kp, b38⟩
  exact ok_law API (cupLow C_Cup) F39 B  C__law_three C__law_cell C__law_keep M_Cup___init__ C__law_times C__law_reading C__law_done C__law_come M2_Cup_kept C__law_right
end K13
open PySem PySem.W PyProof.Rows
set_option maxRecDepth 100000 in
set_option maxHeartbeats 0 in
theorem PySem.Challenge.cw_rankbounds_k13_whole_apart_holds : PySem.Challenge.rw_rankbounds_k13_whole_apart.Holds := by
  w_on; o_law; k_head; (case hw => w_witness2)
  k_fill
  refine Own.walk_ofG (l := PySem.Challenge.rw_rankbounds_k13_whole_apart) (n := 63) (k := 14) (x := "_law_script") rfl (by decide) rfl ⟨rfl, by decide, by decide⟩ (fun w h Y => PySem.W.km_in_of Y) ?F
  case F =>
    intro w mg mb mean fa h TP KX G hmg
    refine' K13.all_mk TP KX G hmg ?a0 ?l0 ?c0 ?k0 ?a1 ?l1 ?c1 ?k1 ?a2 ?l2 ?c2 ?k2 ?a3 ?l3 ?c3 ?k3 ?a4 ?l4 ?c4 ?k4 ?a5 ?l5 ?c5 ?k5 ?a6 ?l6 ?c6 ?k6 ?a7 ?l7 ?c7 ?k7 ?a8 ?l8 ?c8 ?k8 ?a9 ?l9 ?c9 ?k9 ?a10 ?i10 ?l10 ?c10 ?k10 ?a11 ?i11 ?l11 ?c11 ?k11 ?a12 ?i12 ?l12 ?c12 ?k12 ?a13 ?i13 ?l13 ?c13 ?k13 ?a14 ?i14 ?l14 ?c14 ?k14 ?a15 ?i15 ?l15 ?c15 ?k15 ?a16 ?i16 ?l16 ?c16 ?k16 ?a17 ?i17 ?l17 ?c17 ?k17 ?a18 ?i18 ?l18 ?c18 ?k18 ?a19 ?l19 ?c19 ?k19 ?a20 ?l20 ?c20 ?k20 ?a21 ?l21 ?c21 ?k21 ?a22 ?l22 ?c22 ?k22 ?a23 ?l23 ?c23 ?k23 ?a24 ?l24 ?c24 ?k24 ?a25 ?l25 ?c25 ?k25 ?a26 ?l26 ?c26 ?k26 ?a27 ?l27 ?c27 ?k27 ?a28 ?l28 ?c28 ?k28 ?a29 ?l29 ?c29 ?k29 ?a30 ?l30 ?c30 ?k30 ?a31 ?l31 ?c31 ?k31 ?a32 ?l32 ?c32 ?k32 ?a33 ?l33 ?c33 ?k33 ?a34 ?l34 ?c34 ?k34 ?a35 ?l35 ?c35 ?k35 ?a36 ?l36 ?c36 ?k36 ?a37 ?l37 ?c37 ?k37 ?a38 ?l38 ?c38 ?k38 ?a39 ?l39 ?c39 ?k39 ?g_Cup ?pg_Cup ?hd_Cup ?po_Cup ?sa_Cup ?mk_Cup ?kc_Cup ?nkeep_Cup ?n_count_Cup ?n_loose_Cup ?n_blocks_Cup ?xg_BadReading ?xk_BadReading ?xx_BadReading ?xs_BadReading ?xt_BadReading ?x1_BadReading ?x2_BadReading ?x4_BadReading ?x5_BadReading ?x6_BadReading ?x7_BadReading ?x8_BadReading ?x9_BadReading ?xg_BadKeep ?xk_BadKeep ?xx_BadKeep ?xs_BadKeep ?xt_BadKeep ?x1_BadKeep ?x2_BadKeep ?x4_BadKeep ?x5_BadKeep ?x6_BadKeep ?x7_BadKeep ?x8_BadKeep ?x9_BadKeep ?xg_BadTimes ?xk_BadTimes ?xx_BadTimes ?xs_BadTimes ?xt_BadTimes ?x1_BadTimes ?x2_BadTimes ?x4_BadTimes ?x5_BadTimes ?x6_BadTimes ?x7_BadTimes ?x8_BadTimes ?x9_BadTimes ?xg_UnlikeCups ?xk_UnlikeCups ?xx_UnlikeCups ?xs_UnlikeCups ?xt_UnlikeCups ?x1_UnlikeCups ?x2_UnlikeCups ?x4_UnlikeCups ?x5_UnlikeCups ?x6_UnlikeCups ?x7_UnlikeCups ?x8_UnlikeCups ?x9_UnlikeCups ?xg_NoReadings ?xk_NoReadings ?xx_NoReadings ?xs_NoReadings ?xt_NoReadings ?x1_NoReadings ?x2_NoReadings ?x4_NoReadings ?x5_NoReadings ?x6_NoReadings ?x7_NoReadings ?x8_NoReadings ?x9_NoReadings ?xg_NoPlace ?xk_NoPlace ?xx_NoPlace ?xs_NoPlace ?xt_NoPlace ?x1_NoPlace ?x2_NoPlace ?x4_NoPlace ?x5_NoPlace ?x6_NoPlace ?x7_NoPlace ?x8_NoPlace ?x9_NoPlace ?xg_NoCups ?xk_NoCups ?xx_NoCups ?xs_NoCups ?xt_NoCups ?x1_NoCups ?x2_NoCups ?x4_NoCups ?x5_NoCups ?x6_NoCups ?x7_NoCups ?x8_NoCups ?x9_NoCups ?xg_RankError ?xk_RankError ?xx_RankError ?xs_RankError ?xt_RankError ?x1_RankError ?x2_RankError ?x4_RankError ?x5_RankError ?x6_RankError ?x7_RankError ?x8_RankError ?x9_RankError ?kt_NoReadings_BadKeep ?kt_NoReadings_BadReading ?kt_NoReadings_BadTimes ?kt_NoReadings_NoPlace ?kt_NoReadings_UnlikeCups ?kt_NoReadings_NoReadings ?kt_NoReadings_NoCups ?kr_NoReadings ?kv_NoReadings ?z_ValueError ?z_abs ?z_bool ?z_enumerate ?z_int ?z_isinstance ?z_len ?z_list ?z_max ?z_range ?z_repr ?z_sorted ?z_sum ?z_tuple ?v_GREATEST_KEEP ?v_GREATEST_READING ?v_GREATEST_TIMES ?hr_joined ?ht_joined ?hn_joined
    (case g_Cup => k_is)
    (case xg_BadReading => k_is)
    (case xg_BadKeep => k_is)
    (case xg_BadTimes => k_is)
    (case xg_UnlikeCups => k_is)
    (case xg_NoReadings => k_is)
    (case xg_NoPlace => k_is)
    (case xg_NoCups => k_is)
    (case xg_RankError => k_is)
    (case a0 => k_is)
    (case l0 => k_is)
    (case c0 => k_is)
    (case k0 => k_is)
    (case a1 => k_is)
    (case l1 => k_is)
    (case c1 => k_is)
    (case k1 => k_is)
    (case a2 => k_is)
    (case l2 => k_is)
    (case c2 => k_is)
    (case k2 => k_is)
    (case a3 => k_is)
    (case l3 => k_is)
    (case c3 => k_is)
    (case k3 => k_is)
    (case a4 => k_is)
    (case l4 => k_is)
    (case c4 => k_is)
    (case k4 => k_is)
    (case a5 => k_is)
    (case l5 => k_is)
    (case c5 => k_is)
    (case k5 => k_is)
    (case a6 => k_is)
    (case l6 => k_is)
    (case c6 => k_is)
    (case k6 => k_is)
    (case a7 => k_is)
    (case l7 => k_is)
    (case c7 => k_is)
    (case k7 => k_is)
    (case a8 => k_is)
    (case l8 => k_is)
    (case c8 => k_is)
    (case k8 => k_is)
    (case a9 => k_is)
    (case l9 => k_is)
    (case c9 => k_is)
    (case k9 => k_is)
    (case a10 => k_is)
    (case i10 => k_is)
    (case l10 => k_is)
    (case c10 => k_is)
    (case k10 => k_is)
    (case a11 => k_is)
    (case i11 => k_is)
    (case l11 => k_is)
    (case c11 => k_is)
    (case k11 => k_is)
    (case a12 => k_is)
    (case i12 => k_is)
    (case l12 => k_is)
    (case c12 => k_is)
    (case k12 => k_is)
    (case a13 => k_is)
    (case i13 => k_is)
    (case l13 => k_is)
    (case c13 => k_is)
    (case k13 => k_is)
    (case a14 => k_is)
    (case i14 => k_is)
    (case l14 => k_is)
    (case c14 => k_is)
    (case k14 => k_is)
    (case a15 => k_is)
    (case i15 => k_is)
    (case l15 => k_is)
    (case c15 => k_is)
    (case k15 => k_is)
    (case a16 => k_is)
    (case i16 => k_is)
    (case l16 => k_is)
    (case c16 => k_is)
    (case k16 => k_is)
    (case a17 => k_is)
    (case i17 => k_is)
    (case l17 => k_is)
    (case c17 => k_is)
    (case k17 => k_is)
    (case a18 => k_is)
    (case i18 => k_is)
    (case l18 => k_is)
    (case c18 => k_is)
    (case k18 => k_is)
    (case a19 => k_is)
    (case l19 => k_is)
    (case c19 => k_is)
    (case k19 => k_is)
    (case a20 => k_is)
    (case l20 => k_is)
    (case c20 => k_is)
    (case k20 => k_is)
    (case a21 => k_is)
    (case l21 => k_is)
    (case c21 => k_is)
    (case k21 => k_is)
    (case a22 => k_is)
    (case l22 => k_is)
    (case c22 => k_is)
    (case k22 => k_is)
    (case a23 => k_is)
    (case l23 => k_is)
    (case c23 => k_is)
    (case k23 => k_is)
    (case a24 => k_is)
    (case l24 => k_is)
    (case c24 => k_is)
    (case k24 => k_is)
    (case a25 => k_is)
    (case l25 => k_is)
    (case c25 => k_is)
    (case k25 => k_is)
    (case a26 => k_is)
    (case l26 => k_is)
    (case c26 => k_is)
    (case k26 => k_is)
    (case a27 => k_is)
    (case l27 => k_is)
    (case c27 => k_is)
    (case k27 => k_is)
    (case a28 => k_is)
    (case l28 => k_is)
    (case c28 => k_is)
    (case k28 => k_is)
    (case a29 => k_is)
    (case l29 => k_is)
    (case c29 => k_is)
    (case k29 => k_is)
    (case a30 => k_is)
    (case l30 => k_is)
    (case c30 => k_is)
    (case k30 => k_is)
    (case a31 => k_is)
    (case l31 => k_is)
    (case c31 => k_is)
    (case k31 => k_is)
    (case a32 => k_is)
    (case l32 => k_is)
    (case c32 => k_is)
    (case k32 => k_is)
    (case a33 => k_is)
    (case l33 => k_is)
    (case c33 => k_is)
    (case k33 => k_is)
    (case a34 => k_is)
    (case l34 => k_is)
    (case c34 => k_is)
    (case k34 => k_is)
    (case a35 => k_is)
    (case l35 => k_is)
    (case c35 => k_is)
    (case k35 => k_is)
    (case a36 => k_is)
    (case l36 => k_is)
    (case c36 => k_is)
    (case k36 => k_is)
    (case a37 => k_is)
    (case l37 => k_is)
    (case c37 => k_is)
    (case k37 => k_is)
    (case a38 => k_is)
    (case l38 => k_is)
    (case c38 => k_is)
    (case k38 => k_is)
    (case a39 => k_is)
    (case l39 => k_is)
    (case c39 => k_is)
    (case k39 => k_is)
    (case pg_Cup => k_is)
    (case hd_Cup => k_is)
    (case po_Cup => k_is)
    (case sa_Cup => k_is)
    (case mk_Cup => k_is)
    (case kc_Cup => k_is)
    (case nkeep_Cup => k_is)
    (case n_count_Cup => k_is)
    (case n_loose_Cup => k_is)
    (case n_blocks_Cup => k_is)
    (case xk_BadReading => first | k_is | rfl | decide +kernel)
    (case xx_BadReading => first | k_exc | k_is | rfl | decide +kernel)
    (case xs_BadReading => first | k_is | rfl | decide +kernel)
    (case xt_BadReading => first | k_is | rfl | decide +kernel)
    (case x1_BadReading => first | k_is | rfl | decide +kernel)
    (case x2_BadReading => first | k_is | rfl | decide +kernel)
    (case x4_BadReading => first | k_is | rfl | decide +kernel)
    (case x5_BadReading => first | k_is | rfl | decide +kernel)
    (case x6_BadReading => first | k_is | rfl | decide +kernel)
    (case x7_BadReading => first | k_is | rfl | decide +kernel)
    (case x8_BadReading => first | k_is | rfl | decide +kernel)
    (case x9_BadReading => first | k_is | rfl | decide +kernel)
    (case xk_BadKeep => first | k_is | rfl | decide +kernel)
    (case xx_BadKeep => first | k_exc | k_is | rfl | decide +kernel)
    (case xs_BadKeep => first | k_is | rfl | decide +kernel)
    (case xt_BadKeep => first | k_is | rfl | decide +kernel)
    (case x1_BadKeep => first | k_is | rfl | decide +kernel)
    (case x2_BadKeep => first | k_is | rfl | decide +kernel)
    (case x4_BadKeep => first | k_is | rfl | decide +kernel)
    (case x5_BadKeep => first | k_is | rfl | decide +kernel)
    (case x6_BadKeep => first | k_is | rfl | decide +kernel)
    (case x7_BadKeep => first | k_is | rfl | decide +kernel)
    (case x8_BadKeep => first | k_is | rfl | decide +kernel)
    (case x9_BadKeep => first | k_is | rfl | decide +kernel)
    (case xk_BadTimes => first | k_is | rfl | decide +kernel)
    (case xx_BadTimes => first | k_exc | k_is | rfl | decide +kernel)
    (case xs_BadTimes => first | k_is | rfl | decide +kernel)
    (case xt_BadTimes => first | k_is | rfl | decide +kernel)
    (case x1_BadTimes => first | k_is | rfl | decide +kernel)
    (case x2_BadTimes => first | k_is | rfl | decide +kernel)
    (case x4_BadTimes => first | k_is | rfl | decide +kernel)
    (case x5_BadTimes => first | k_is | rfl | decide +kernel)
    (case x6_BadTimes => first | k_is | rfl | decide +kernel)
    (case x7_BadTimes => first | k_is | rfl | decide +kernel)
    (case x8_BadTimes => first | k_is | rfl | decide +kernel)
    (case x9_BadTimes => first | k_is | rfl | decide +kernel)
    (case xk_UnlikeCups => first | k_is | rfl | decide +kernel)
    (case xx_UnlikeCups => first | k_exc | k_is | rfl | decide +kernel)
    (case xs_UnlikeCups => first | k_is | rfl | decide +kernel)
    (case xt_UnlikeCups => first | k_is | rfl | decide +kernel)
    (case x1_UnlikeCups => first | k_is | rfl | decide +kernel)
    (case x2_UnlikeCups => first | k_is | rfl | decide +kernel)
    (case x4_UnlikeCups => first | k_is | rfl | decide +kernel)
    (case x5_UnlikeCups => first | k_is | rfl | decide +kernel)
    (case x6_UnlikeCups => first | k_is | rfl | decide +kernel)
    (case x7_UnlikeCups => first | k_is | rfl | decide +kernel)
    (case x8_UnlikeCups => first | k_is | rfl | decide +kernel)
    (case x9_UnlikeCups => first | k_is | rfl | decide +kernel)
    (case xk_NoReadings => first | k_is | rfl | decide +kernel)
    (case xx_NoReadings => first | k_exc | k_is | rfl | decide +kernel)
    (case xs_NoReadings => first | k_is | rfl | decide +kernel)
    (case xt_NoReadings => first | k_is | rfl | decide +kernel)
    (case x1_NoReadings => first | k_is | rfl | decide +kernel)
    (case x2_NoReadings => first | k_is | rfl | decide +kernel)
    (case x4_NoReadings => first | k_is | rfl | decide +kernel)
    (case x5_NoReadings => first | k_is | rfl | decide +kernel)
    (case x6_NoReadings => first | k_is | rfl | decide +kernel)
    (case x7_NoReadings => first | k_is | rfl | decide +kernel)
    (case x8_NoReadings => first | k_is | rfl | decide +kernel)
    (case x9_NoReadings => first | k_is | rfl | decide +kernel)
    (case xk_NoPlace => first | k_is | rfl | decide +kernel)
    (case xx_NoPlace => first | k_exc | k_is | rfl | decide +kernel)
    (case xs_NoPlace => first | k_is | rfl | decide +kernel)
    (case xt_NoPlace => first | k_is | rfl | decide +kernel)
    (case x1_NoPlace => first | k_is | rfl | decide +kernel)
    (case x2_NoPlace => first | k_is | rfl | decide +kernel)
    (case x4_NoPlace => first | k_is | rfl | decide +kernel)
    (case x5_NoPlace => first | k_is | rfl | decide +kernel)
    (case x6_NoPlace => first | k_is | rfl | decide +kernel)
    (case x7_NoPlace => first | k_is | rfl | decide +kernel)
    (case x8_NoPlace => first | k_is | rfl | decide +kernel)
    (case x9_NoPlace => first | k_is | rfl | decide +kernel)
    (case xk_NoCups => first | k_is | rfl | decide +kernel)
    (case xx_NoCups => first | k_exc | k_is | rfl | decide +kernel)
    (case xs_NoCups => first | k_is | rfl | decide +kernel)
    (case xt_NoCups => first | k_is | rfl | decide +kernel)
    (case x1_NoCups => first | k_is | rfl | decide +kernel)
    (case x2_NoCups => first | k_is | rfl | decide +kernel)
    (case x4_NoCups => first | k_is | rfl | decide +kernel)
    (case x5_NoCups => first | k_is | rfl | decide +kernel)
    (case x6_NoCups => first | k_is | rfl | decide +kernel)
    (case x7_NoCups => first | k_is | rfl | decide +kernel)
    (case x8_NoCups => first | k_is | rfl | decide +kernel)
    (case x9_NoCups => first | k_is | rfl | decide +kernel)
    (case xk_RankError => first | k_is | rfl | decide +kernel)
    (case xx_RankError => first | k_exc | k_is | rfl | decide +kernel)
    (case xs_RankError => first | k_is | rfl | decide +kernel)
    (case xt_RankError => first | k_is | rfl | decide +kernel)
    (case x1_RankError => first | k_is | rfl | decide +kernel)
    (case x2_RankError => first | k_is | rfl | decide +kernel)
    (case x4_RankError => first | k_is | rfl | decide +kernel)
    (case x5_RankError => first | k_is | rfl | decide +kernel)
    (case x6_RankError => first | k_is | rfl | decide +kernel)
    (case x7_RankError => first | k_is | rfl | decide +kernel)
    (case x8_RankError => first | k_is | rfl | decide +kernel)
    (case x9_RankError => first | k_is | rfl | decide +kernel)
    (case kt_NoReadings_BadKeep => first | k_is | rfl | decide +kernel)
    (case kt_NoReadings_BadReading => first | k_is | rfl | decide +kernel)
    (case kt_NoReadings_BadTimes => first | k_is | rfl | decide +kernel)
    (case kt_NoReadings_NoPlace => first | k_is | rfl | decide +kernel)
    (case kt_NoReadings_UnlikeCups => first | k_is | rfl | decide +kernel)
    (case kt_NoReadings_NoReadings => first | k_is | rfl | decide +kernel)
    (case kt_NoReadings_NoCups => first | k_is | rfl | decide +kernel)
    (case kr_NoReadings => first | k_is | rfl | decide +kernel)
    (case kv_NoReadings => first | k_is | rfl | decide +kernel)
    (case z_ValueError => k_is)
    (case z_abs => k_is)
    (case z_bool => k_is)
    (case z_enumerate => k_is)
    (case z_int => k_is)
    (case z_isinstance => k_is)
    (case z_len => k_is)
    (case z_list => k_is)
    (case z_max => k_is)
    (case z_range => k_is)
    (case z_repr => k_is)
    (case z_sorted => k_is)
    (case z_sum => k_is)
    (case z_tuple => k_is)
    (case v_GREATEST_KEEP => k_is)
    (case v_GREATEST_READING => k_is)
    (case v_GREATEST_TIMES => k_is)
    (case hr_joined => rfl)
    (case ht_joined => first | k_is | rfl | decide +kernel)
    (case hn_joined => first | k_is | rfl | decide +kernel)
