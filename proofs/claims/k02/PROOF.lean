import PyProof.Rows.All
import Wide.All
import OpenK.AllK
import Wide.FinOn
import HandS.ForMost
import HandS.SortInts
import HandS.IsInst
import HandS.Zip
import HandS.Walk
import HandS.Evl
import HandS.More
import HandS.Lambda
import HandS.EndTab
import HandS.SortKw
import KE.SortData
import KE.SortKeyHeap
import PySem.Challenge.RW_rankbounds_k02_entries_joined
set_option Elab.async false
set_option linter.all false
set_option maxRecDepth 100000
set_option maxHeartbeats 4000000
/-! Own rules over the hand layer: calls by promises, a slice by twos. -/
namespace Own
open PySem PySem.Spec PyProof.Rows L2
/-- a def of the module that may be called by its name -/
structure CalK (P : Program) (w : World) (K : PySem.W.Frag) (mg : Str → Option Value) (base : Heap) (k : Nat) (x : Str) (sp : Sp) : Prop where
  ex : ∃ (f : Addr) (fd : FuncData) (ps : List Str), FnOk P w K mg base CX0 k f fd ps sp ∧ mg x = some (.ref f) ∧ PySem.W.keepIn K (.ref f) = true ∧ Binds K fd ps []
section
variable {X : Cx} {k j : Nat} {x : Str} {sp : Sp} {p pos apos : Pos} {e o : Expr} {es : List Expr} {ta : TE} {t : TA}
theorem pe_k (c : CalK X.prog X.w X.K X.mg X.base k x sp) (hr : Room j X.A) (hk : k ≤ j) (hg : Gl X x) (ha : PA X (e :: es) t)
    (hdb : (x == ("__debug__" : Str)) = false := by decide) (he : starEach (e :: es) X.env = (false, eval e X.env) :: starEach es X.env := by rfl) (hpl : (backTo pos (starEach es X.env)).any (·.1) = false := by rfl) :
    PE X (.Call (.Name x p) (e :: es) [] pos) (tCall sp [] E0 t) := by
  obtain ⟨f, fd, ps, F, hm, kp, b⟩ := c.ex
  exact pe_call F (hr.mono hk) hg hm kp b .nil pass0 ha hdb he hpl
/-! xs[1::2] -/
def odds {α : Type} : List α → List α
  | _ :: y :: r => y :: odds r
  | _ => []
theorem odds_length {α : Type} : ∀ l : List α, (odds l).length = l.length / 2
  | [] => by simp [odds]
  | [_] => by simp [odds]
  | _ :: _ :: r => by
    show (odds r).length + 1 = (r.length + 1 + 1) / 2
    rw [odds_length r]
    omega
theorem vals_odds : ∀ {xs : List V} {us : List Value}, Vals xs us → Vals (odds xs) (Own.odds us)
  | _, _, .nil => .nil
  | _, _, .cons _ .nil => .nil
  | _, _, .cons _ (.cons r t) => .cons r (vals_odds t)
end
theorem odds_pick {α : Type} : ∀ l : List α, (List.range (l.length / 2)).filterMap (fun k => l[1 + 2 * k]?) = odds l
  | [] => by simp [odds]
  | [_] => by simp [odds]
  | x :: y :: r => by
    have e : (x :: y :: r).length / 2 = r.length / 2 + 1 := by
      show (r.length + 1 + 1) / 2 = r.length / 2 + 1
      omega
    rw [e, List.range_succ_eq_map, List.filterMap_cons]
    have e0 : (x :: y :: r)[1 + 2 * 0]? = some y := rfl
    rw [e0]
    show y :: List.filterMap (fun k => (x :: y :: r)[1 + 2 * k]?) (List.map Nat.succ (List.range (r.length / 2))) = y :: odds r
    rw [List.filterMap_map, ← odds_pick r]
    have e1 : ((fun k => (x :: y :: r)[1 + 2 * k]?) ∘ Nat.succ) = fun k => r[1 + 2 * k]? := by
      funext k
      show (x :: y :: r)[1 + 2 * (k + 1)]? = r[1 + 2 * k]?
      rw [show 1 + 2 * (k + 1) = (1 + 2 * k) + 1 + 1 by omega, List.getElem?_cons_succ, List.getElem?_cons_succ]
    rw [e1]
theorem pick_odds (its : List Value) : slicePick its.toArray (some 1) none (some 2) = (odds its).toArray := by
  unfold slicePick
  have hb : sliceBounds (some 1) none (some 2) its.toArray.size = (((min 1 its.length : Nat) : Int), (its.length : Int), 2) := by
    simp only [sliceBounds, List.size_toArray]
    refine Prod.ext ?_ (Prod.ext ?_ rfl)
    · simp only [Option.getD_some]
      split <;> omega
    · simp only [Option.getD_some]
      split <;> omega
  rw [hb]
  have hr : sliceRange ((min 1 its.length : Nat) : Int) (its.length : Int) 2 = (List.range (its.length / 2)).map fun k => 1 + 2 * k := by
    unfold sliceRange
    simp only [show (2 : Int) > 0 by decide, if_true]
    by_cases h : ((min 1 its.length : Nat) : Int) < (its.length : Int)
    · rw [if_pos h]
      have e : ((its.length : Int) - ((min 1 its.length : Nat) : Int) + 2 - 1) / 2 = ((its.length / 2 : Nat) : Int) := by omega
      rw [e, Int.toNat_natCast]
      apply List.map_congr_left
      intro k hk
      omega
    · rw [if_neg h]
      have e : its.length / 2 = 0 := by omega
      rw [e]
      rfl
  rw [hr, List.filterMap_map]
  have e2 : ((fun i => its.toArray[i]?) ∘ fun k => 1 + 2 * k) = fun k => its[1 + 2 * k]? := by
    funext k
    show its.toArray[1 + 2 * k]? = its[1 + 2 * k]?
    simp
  rw [e2, odds_pick]
section
variable {X : Cx}
/-- xs[1::2] of a list: a new list -/
def tStep2 (K : PySem.W.Frag) (te : TE) : TE := fun σ H Q => te σ H fun x H1 => ∃ a xs, x = .ref a ∧ SqL K H1 a xs ∧ ∀ p, H1 p = none → Q (.ref p) (upd H1 p (.lst (odds xs)))
theorem pe_step2 {e : Expr} {te : TE} {k1 k2 : Nat} {p1 p2 p3 pos : Pos} (he : PE X e te) : PE X (.Subscript e (.Slice (some (.Constant (.int 1) k1 p1)) none (some (.Constant (.int 2) k2 p2)) p3) pos) (tStep2 X.K te) := by
  refine ⟨fun pins s σ H Q I h => ?_⟩
  refine Subscript_ (thn (he.run pins s σ H _ I h) fun v s1 hv => ?_)
  obtain ⟨x, H1, I1, r1, a, xs, ex, hx, q⟩ := hv
  subst ex
  cases r1
  have hlo : PO X (some (.Constant (.int 1) k1 p1)) (tPart (tC (.int 1))) := po_some pe_int
  have hst : PO X (some (.Constant (.int 2) k2 p2)) (tPart (tC (.int 2))) := po_some pe_int
  refine wpAny_Slice (thn (hlo.run pins s1 σ H1 (fun o H2 => o = some 1 ∧ H2 = H1) I1 ⟨1, rfl, rfl, rfl⟩) fun vl s2 hv2 => ?_)
  obtain ⟨l, H2, I2, pl, el, e2⟩ := hv2
  subst el e2
  refine thn (po_none.run pins s2 σ H2 (fun o H3 => o = none ∧ H3 = H2) I2 ⟨rfl, rfl⟩) fun vu s3 hv3 => ?_
  obtain ⟨u, H3, I3, pu, eu, e3⟩ := hv3
  subst eu e3
  refine thn (hst.run pins s3 σ H3 (fun o H4 => o = some 2 ∧ H4 = H3) I3 ⟨2, rfl, rfl, rfl⟩) fun vs s4 hv4 => ?_
  obtain ⟨o, H4, I4, ps, eo, e4⟩ := hv4
  subst eo e4
  have I5 : Inv X pins σ H4 { s4 with heap := s4.heap.push { cls := .type "slice", data := .fields #[vl, vu, vs] } } := I4.kept (t' := s4.toks) fun b ob q => Heap.get?_push_of_some _ q
  obtain ⟨its, r, ht, hz⟩ := I5.list hx
  have hlen := r.length
  show wpAny (model X.prog X.w) X.A (subscriptTail e (.Slice (some (.Constant (.int 1) k1 p1)) none (some (.Constant (.int 2) k2 p2)) p3) (.ref a) (.ref s4.heap.objs.size)) (EP X pins σ Q) X.xe { s4 with heap := s4.heap.push { cls := .type "slice", data := .fields #[vl, vu, vs] } }
  refine tail_any (ops := [.ref a, .ref s4.heap.objs.size]) ht.isList.typeIs (PySem.slot_list_getitem.lookup) ?_ (by with_unfolding_all rfl)
  refine wpAny_getItem_list_slice ht.isList (Heap.IsSliceOf.new _ vl vu vs) pl pu ps (by decide) ?_ (by rw [List.size_toArray]; omega)
  rw [pick_odds]
  refine ⟨.ref _, _, I5.laid (t' := s4.toks) (o := .lst (odds xs)) (fun b ob q => Heap.get?_push_of_some _ q) (Nat.le_refl _) ?_, rfl, q _ (I5.hok.fresh (Nat.le_refl _))⟩
  exact ⟨by rw [odds_length]; omega, _, 0, vals_odds r, Heap.get?_push_size _ rfl⟩
end

section
variable {X : Cx} {K : PySem.W.Frag}
theorem ix_listK (h : X.K = K := by rfl) : IxR X (rIxL K) := h ▸ ix_list
theorem ix_tupK (h : X.K = K := by rfl) : IxR X (rIxT K) := h ▸ ix_tup
theorem call_lenK (h : X.K = K := by rfl) : CallR X (.builtin "len") (Evl.rLenS K) := by
  subst h
  exact call_len_seq
theorem call_listK (h : X.K = K := by rfl) : CallR X (.type "list") (Evl.rListS K) := by
  subst h
  exact call_list_of
theorem call_isiK1 (h : X.K = K := by rfl) : CallR X (.builtin "isinstance") (rIsi K) := h ▸ call_isi
theorem cr_sumK (hc : X.calm = true) (h : X.K = K := by rfl) : CallR X (.builtin "sum") (rSum K) := h ▸ cr_sum hc
theorem cr_allK (hc : X.calm = true) (h : X.K = K := by rfl) : CallR X (.builtin "all") (rAll K) := h ▸ cr_all hc
theorem cr_anyK (hc : X.calm = true) (h : X.K = K := by rfl) : CallR X (.builtin "any") (rAny K) := h ▸ cr_any hc
theorem cr_sortedK (h : X.K = K := by rfl) : CallR X (.builtin "sorted") (rSortedI K) := h ▸ cr_sortedI
theorem pe_fldK {e : Expr} {f : Str} {pos : Pos} {ta : TE} (he : PE X e ta) (h : X.K = K := by rfl) (hb : attributeBase e f X.env (eval e X.env) = eval e X.env := by rfl) : PE X (.Attribute e f pos) (tFld K ta f) := h ▸ pe_fld he hb
theorem pg_tupK {es : List Expr} {k : Nat} {pos : Pos} {t : TGs} {n : Nat} (hc : X.calm = true) (hp : PGs X es t) (h : X.K = K := by rfl) (hn : (assignEach es X.env).length = n := by rfl) (hst : (assignEach es X.env).findIdx? (·.1) = none := by rfl) : PG X (.Tuple es k pos) (gTup K n t) := h ▸ pg_tup hc hp hn hst
theorem op_eqDK (hu : X.A.units + 64 < cLine) (h : X.K = K := by rfl) : OpR X (compareOp .Eq) (rEqD K) := h ▸ op_eqD hu
theorem op_neDK (hu : X.A.units + 64 < cLine) (h : X.K = K := by rfl) : OpR X (compareOp .NotEq) (rNeD K) := h ▸ op_neD hu
theorem op_inK (h : X.K = K := by rfl) : OpR X (compareOp .In) (rIn K false) := h ▸ op_in_seq
theorem op_notInK (h : X.K = K := by rfl) : OpR X (compareOp .NotIn) (rIn K true) := h ▸ op_notIn_seq
theorem pi_listK {tg l : Expr} {tl : TE} (hl : PE X l tl) (h : X.K = K := by rfl) : PI X tg l (iList K tl) := h ▸ pi_list hl
theorem pi_tupK {tg l : Expr} {tl : TE} (hl : PE X l tl) (h : X.K = K := by rfl) : PI X tg l (iTup K tl) := h ▸ pi_tup hl
end

section
variable {K : PySem.W.Frag} {a b : Addr} {xs ys : List V}
theorem walk_zipT {n : Nat} (hn : n = min xs.length ys.length) : Walk (RZ.ItzT K a b) n (fun H => SqT K H a xs ∧ SqT K H b ys) (YPair (fun i => xs[i]?) (fun i => ys[i]?)) := by
  subst hn
  refine ⟨fun i H hi q => ?_, fun H q => ⟨xs, ys, q.1, q.2, by omega⟩, fun i H v H' hi q y => ?_⟩
  · have h1 : i < xs.length := by omega
    have h2 : i < ys.length := by omega
    exact ⟨xs, ys, xs[i], ys[i], q.1, q.2, by simp [h1], by simp [h2]⟩
  · obtain ⟨T, x, z, h1, h2, h3, h4, h5⟩ := y
    exact ⟨T, x, z, h1, h2, h3, h4 xs q.1, h5 ys q.2⟩
end

end Own

/-! sorted(e, key=lambda x: x[0]), the items tuples whose first is a whole number. -/
namespace Own
open PySem PySem.Spec PyProof.Rows L2 LamX
/-- the lambda's scope: one name -/
structure OneS (scope : Scope) (n : Str) : Prop where
  kind : scope.kind = .function
  co : scope.isCoroutine = false
  gen : scope.isGenerator = false
  names : scope.names = [(n, .local)]
  hd : (n == ("__debug__" : Str)) = false
theorem one_lookup (n : Str) : List.lookup n [(n, NameKind.local)] = some .local := by simp
/-- the lambda called with a tuple: its first item -/
theorem lam_first {prog : Program} {w : World} {A : Around} {s : Shared} {E : Value → Shared → Prop} {Q : Value → Shared → Prop} {f t : Addr} {q : Str} {params : Arguments} {scope : Scope} {pm ctv : Value} {c' : Addr} {n : Str} {k : Nat} {p1 p2 p3 : Pos} {items : Array Value} {v0 : Value}
    (ho : s.heap.get? f = some (PySem.W.kla_obj "<lambda>" q params (.Subscript (.Name n p1) (.Constant (.int 0) k p2) p3) scope [] pm c' ctv)) (S : OneS scope n) (hcd : s.heap.CodeRec (.ref c') q) (hlim : s.heap.NoLimit) (hroom : A.depth < recursionLimit)
    (hbind : ∀ u : Value, bindArgs (PySem.W.kla_fn "<lambda>" q params (.Subscript (.Name n p1) (.Constant (.int 0) k p2) p3) scope [] pm (.ref c') ctv) ⟨[u], []⟩ = pure [(n, u)])
    (ht : IsTup s.heap t items) (h0 : items[0]? = some v0)
    (h : ∀ h' tk, (∀ b o, s.heap.get? b = some o → h'.get? b = some o) → Q v0 { s with heap := h', toks := tk }) :
    wpAny (model prog w) A (call (.ref f) [.ref t]) Q E s := by
  refine wpAny_call (PySem.W.kla_callFunE hroom ho rfl S.co S.gen rfl hcd ?_)
  rw [hbind]
  refine wpAny_pure (wpAny_newFunctionEnv (fun y hy => ?_) (fun y hy => ?_) (fun h₁ hns hsb => ⟨hlim.fresh _ hsb, ?_⟩) S.kind)
  · have hy : y ∈ scope.names := hy
    rw [S.names] at hy
    rw [List.mem_singleton.mp hy]
    intro z
    cases z
  · rw [List.mem_singleton.mp hy]
    show scope.names.lookup n = some .local
    rw [S.names]
    exact one_lookup n
  · have kp : ∀ b o, s.heap.get? b = some o → h₁.get? b = some o := fun b o e => hsb.extBut b o (Nat.ne_of_lt (Heap.lt_size e)) (Heap.get?_push_of_some _ e)
    show codeAny _ _ (.expr (.Subscript (.Name n p1) (.Constant (.int 0) k p2) p3) (PySem.W.envX q scope s.heap.objs.size f (.ref c') [])) _ _
    refine PySem.W.kla_codeExpr ?_
    refine Subscript_Constant ?_
    refine wpAny_Name (wpAny_loadName_local (m := fun y => [(n, Value.ref t)].reverse.lookup y) (v := .ref t) S.kind ?_ hns ?_ ?_) S.hd
    · show scope.names.lookup n = some .local
      rw [S.names]
      exact one_lookup n
    · show List.lookup n [(n, Value.ref t)] = some (.ref t)
      simp
    · refine wpAny_Constant_int ?_
      obtain ⟨o, e, c⟩ := ht
      have ht' : IsTup h₁ t items := ⟨o, kp _ _ e, c⟩
      have hsz : 0 < items.size := (Array.getElem?_eq_some_iff.mp h0).1
      refine ⟨"tuple", _, slot_tuple_getitem.lookup, ht'.typeIs, getItem_tuple (j := 0) ht' (by decide) (by decide) ?_ h0 (h _ _ kp)⟩
      rw [seqIndex_of (by decide) (by omega)]
      rfl
theorem eachIs_of : ∀ {xs : List V} {us : List Value}, Vals xs us → PySem.W.EachIs (fun (u : Value) (v : V) => RelV v u) us xs
  | _, _, .nil => .nil
  | _, _, .cons r t => .cons r (eachIs_of t)
theorem of_eachIs : ∀ {us : List Value} {xs : List V}, PySem.W.EachIs (fun (u : Value) (v : V) => RelV v u) us xs → Vals xs us
  | _, _, .nil => .nil
  | _, _, .cons r t => .cons r (of_eachIs t)
/-- nothing but a table may stand there -/
def NewN (H : Hp) (p : Addr) : Prop := ∀ o, H p = some o → ∃ ps, o = .tbl ps
theorem NewN.of {H : Hp} {p : Addr} (h : H p = none) : NewN H p := fun o e => by
  rw [h] at e
  cases e
theorem NewN.back {H H' : Hp} {p : Addr} (e : ExtN H H') (h : H' p = none) : NewN H p := fun o q => by
  cases o with
  | tbl ps => exact ⟨ps, rfl⟩
  | _ =>
    have z := e _ _ q (fun ps y => nomatch y)
    rw [h] at z
    cases z
def byFst (k : V → Int) (xs : List V) : List V := xs.mergeSort fun u v => decide (k u ≤ k v)
def tSortFst (T : List (Addr × Str)) (K : PySem.W.Frag) (te : TE) : TE := fun σ H Q => te σ H fun x H1 => Tabs T H1 ∧ ∃ (a : Addr) (xs : List V) (k : V → Int), x = .ref a ∧ SqL K H1 a xs ∧ (∀ v ∈ xs, ∃ t r, v = .ref t ∧ H1 t = some (.tup (.int (k v) :: r))) ∧
  ∀ H2 p, ExtN H1 H2 → Tabs T H2 → NewN H1 p → H2 p = some (.lst (byFst k xs)) → Q (.ref p) H2
theorem codeO_at' {P : Program} {w : World} {H : Hp} {h : Heap} {c : Addr} {q : Str} (hok : HOk P w H h) (e : H c = some (CodeO c q)) : h.CodeRec (.ref c) q := by
  obtain ⟨⟨oc, vs, t, e1, e2, e3⟩, _, _⟩ := hok c _ e
  exact ⟨c, oc, vs, t, rfl, e1, e2, e3⟩
theorem lam_hall {nm : Str} {e : Expr} {kpos pos : Pos} {env : Env} : (backToKw pos (keywordEach [⟨some nm, e, kpos⟩] env)).all (·.1.isSome) = true := rfl
section
variable {X : Cx} {K : PySem.W.Frag}
theorem pe_sortFst {T : List (Addr × Str)} {c P : Addr} {e : Expr} {te : TE} {params : Arguments} {scope : Scope} {n : Str} {k j : Nat} {p p1 p2 p3 lpos kpos pos : Pos} (TB : TabB X.base X.mg c P) (hcode : X.env.code = .ref c) (hmT : (P, X.env.qual ++ "<lambda>") ∈ T) (hu : ∀ p ∈ T, p.1 = P → p.2 = X.env.qual ++ "<lambda>")
    (hr : Room j X.A) (hj : 2 ≤ j) (hg : Gl X "sorted") (hm : X.mg "sorted" = none) (he : PE X e te) (S : OneS scope n) (hdef : defaultsOf params X.env = ([], []))
    (hbind : ∀ (q : Str) (pm cv ctv u : Value), bindArgs (PySem.W.kla_fn "<lambda>" q params (.Subscript (.Name n p1) (.Constant (.int 0) k p2) p3) scope [] pm cv ctv) ⟨[u], []⟩ = pure [(n, u)]) (hK : X.K = K := by rfl)
    (hst : starEach [e] X.env = (false, eval e X.env) :: starEach [] X.env := by rfl)
    (he1 : backTo pos (starEach (e :: []) X.env) = (false, eval e X.env) :: backTo pos (starEach [] X.env) := by rfl) (hpl : (backTo pos (starEach (e :: []) X.env)).any (·.1) = false := by rfl) :
    PE X (.Call (.Name "sorted" p) [e] [⟨some "key", .Lambda params (.Subscript (.Name n p1) (.Constant (.int 0) k p2) p3) scope lpos, kpos⟩] pos) (tSortFst T K te) := by
  subst hK
  have ha : PA X [e] (tCons te tNil) := pa_cons he pa_nil hst
  refine ⟨fun pins s σ H Q I h => ?_⟩
  have hv : bootBuiltins "sorted" = some (.builtin "sorted") := by decide +kernel
  refine wpAny_Call_Name_kw (ld_blt I hg hm hv ?_ (by decide) (by decide))
  refine PyProof.Rows.callWith_kw (thn (ha.run pos pins s σ H (fun vs H1 => match vs with
    | [x] => Tabs T H1 ∧ ∃ (a : Addr) (xs : List V) (k : V → Int), x = .ref a ∧ SqL X.K H1 a xs ∧ (∀ v ∈ xs, ∃ t r, v = .ref t ∧ H1 t = some (.tup (.int (k v) :: r))) ∧
      ∀ H2 p, ExtN H1 H2 → Tabs T H2 → NewN H1 p → H2 p = some (.lst (byFst k xs)) → Q (.ref p) H2
    | _ => False) I h) fun us s1 hh => ?_) he1 hpl (by rfl) (by rfl)
  · obtain ⟨vs, H1, I1, r1, q0⟩ := hh
    obtain ⟨x, rfl⟩ : ∃ x, vs = [x] := by
      match vs, q0 with
      | [x], _ => exact ⟨x, rfl⟩
    obtain ⟨hT1, a, xs, kf, rfl, hS, hx, q⟩ := q0
    obtain ⟨u1, rfl, ru⟩ := vals1 r1
    obtain rfl : u1 = Value.ref a := ru
    show wpAny _ _ (evalAll ((do let v ← eval (.Lambda params (.Subscript (.Name n p1) (.Constant (.int 0) k p2) p3) scope lpos) X.env; standAt pos; pure v) :: [])) _ _ s1
    have hfree : ∀ y ∈ scope.names, y.2 = NameKind.free → ∃ c, X.env.cells.lookup y.1 = some c := fun y hy z => by
      rw [S.names] at hy
      rw [List.mem_singleton.mp hy] at z
      cases z
    refine wpAny_evalAll_cons (wpAny_bind (lam_make2 I1 TB hcode hmT hu hT1 hdef hfree fun f c' pm ctv H2 s2 I2 eN T2 hf hfn hfr hco => wpAny_bind (wpAny_standAt (wpAny_pure (wpAny_evalAll_nil ?_)))))
    have hclo : cloFrom X.env.cells scope.names [] = [] := by
      rw [S.names]
      rfl
    rw [hclo] at hf
    have hS2 : SqL X.K H2 a xs := by
      rcases hS with (z | ⟨o, z⟩) | z
      · exact .inl (.inl (eN _ _ z fun ps y => nomatch y))
      · exact .inl (.inr ⟨o, eN _ _ z fun ps y => nomatch y⟩)
      · exact .inr z
    obtain ⟨its, rv, hl, hz⟩ := I2.list hS2
    have hco2 := codeO_at' I2.hok hco
    show wpAny _ _ (call (.builtin "sorted") [.ref a] [(Str.ofString "key", .ref f)]) _ _ s2
    refine PySem.W.sorted_key_data (b := false) (R := fun (u : Value) (v : V) => RelV v u) (bs := xs) (fun v => .int (kf v)) hl.isList (eachIs_of rv) ?_ ?_ hz ?_ (PyProof.Rows.ksk_s1 _ _) (fun _ => PyProof.Rows.ksk_l1 _ _) (fun x => PyProof.Rows.ksk_t1 f x) ?_ ?_
    · intro d hd d' hd'
      obtain ⟨v, _, rfl⟩ := List.mem_map.mp hd
      obtain ⟨v', _, rfl⟩ := List.mem_map.mp hd'
      rfl
    · right
      intro d hd
      obtain ⟨v, _, rfl⟩ := List.mem_map.mp hd
      exact ⟨(fun z => nomatch z), (fun ys z => nomatch z)⟩
    · intro v _
      show X.A.units + 2 + 0 < cLine
      have := hr.units
      omega
    · intro u v hrv hv h tk kp
      obtain ⟨t, r, rfl, ht⟩ := hx v hv
      obtain rfl : u = Value.ref t := hrv
      have ht2 := eN _ _ ht fun ps y => nomatch y
      obtain ⟨hz2, its2, rv2, o, e1, e2⟩ := (show ObjOk X.prog X.w H2 s2.heap t (.tup (.int (kf (.ref t)) :: r)) from I2.hok t _ ht2)
      cases rv2 with
      | cons r0 rt =>
        obtain ⟨tk0, rfl⟩ := r0
        refine lam_first (s := { s2 with heap := h, toks := tk }) (kp _ _ hf) S ?_ (I2.nolimit.keeps kp) ?_ (fun u => hbind _ _ _ _ u) ⟨o, kp _ _ e1, e2⟩ (v0 := .int (kf (.ref t)) tk0) (by simp) ?_
        · obtain ⟨c2, oc, vs, t0, a1, a2, a3, a4⟩ := hco2
          exact ⟨c2, oc, vs, t0, a1, kp _ _ a2, a3, a4⟩
        · exact ((hr.mono hj).in1.in1).depth
        · intro h' tk' kp'
          exact ⟨h', tk', rfl, kp', .int _ _⟩
    · intro out cc h' tk kp fresh hout hlen heach
      have hv := of_eachIs heach
      rw [PySem.W.dataLe_int] at hv
      have hlen2 : (byFst kf xs).length ≤ sizeLine := by
        unfold byFst
        rw [List.length_mergeSort]
        exact hz
      have hfr2 : H2 (s2.heap.objs.size + 1) = none := I2.hok.fresh (Nat.le_succ _)
      refine ⟨.ref (s2.heap.objs.size + 1), upd H2 (s2.heap.objs.size + 1) (.lst (byFst kf xs)), I2.laid (t' := tk) kp (Nat.le_succ _) ⟨hlen2, out, cc, hv, hout⟩, rfl, ?_⟩
      have sU : ∀ b o, H2 b = some o → upd H2 (s2.heap.objs.size + 1) (.lst (byFst kf xs)) b = some o := fun b o e => by
        rw [upd_ne (ne_of_none e hfr2)]
        exact e
      exact q _ _ (eN.trans (ExtN.of sU)) (T2.ext sU) (NewN.back eN hfr2) upd_same
end

end Own

/-! Entries: tuples of three whole numbers in the heap; joined, halved, true of a row. -/
namespace Own
open PySem PySem.Spec PyProof.Rows L2 LamX
abbrev Ent := Int × Int × Int
def EntAt (H : Hp) (v : V) (e : Ent) : Prop := ∃ t, v = .ref t ∧ H t = some (.tup [.int e.1, .int e.2.1, .int e.2.2])
abbrev EntsAre (H : Hp) (xs : List V) (es : List Ent) : Prop := PySem.W.EachIs (EntAt H) xs es
theorem EntAt.ext {H H' : Hp} {v : V} {e : Ent} (s : ExtN H H') (h : EntAt H v e) : EntAt H' v e := by
  obtain ⟨t, h1, h2⟩ := h
  exact ⟨t, h1, s _ _ h2 (fun ps z => nomatch z)⟩
theorem EntAt.upd {H : Hp} {v : V} {e : Ent} {L : Addr} {xs : List V} {o : HO} (hL : H L = some (.lst xs)) (h : EntAt H v e) : EntAt (upd H L o) v e := by
  obtain ⟨t, h1, h2⟩ := h
  exact ⟨t, h1, by rw [upd_ne (ne_of h2 hL (by intro z; cases z))]; exact h2⟩
theorem EntsAre.ext {H H' : Hp} {xs : List V} {es : List Ent} (s : ExtN H H') (h : EntsAre H xs es) : EntsAre H' xs es := h.mono fun _ _ k => k.ext s
theorem EntsAre.same {H H' : Hp} {xs : List V} {es : List Ent} (s : Same H H') (h : EntsAre H xs es) : EntsAre H' xs es := h.ext (ExtN.of s)
theorem EntsAre.upd {H : Hp} {xs : List V} {es : List Ent} {L : Addr} {ys : List V} {o : HO} (hL : H L = some (.lst ys)) (h : EntsAre H xs es) : EntsAre (L2.upd H L o) xs es := h.mono fun _ _ k => k.upd hL
theorem eachIs_append {α β : Type} {R : α → β → Prop} : ∀ {as : List α} {bs : List β} {cs : List α} {ds : List β}, PySem.W.EachIs R as bs → PySem.W.EachIs R cs ds → PySem.W.EachIs R (as ++ cs) (bs ++ ds)
  | _, _, _, _, .nil, k => k
  | _, _, _, _, .cons h t, k => .cons h (eachIs_append t k)
theorem eachIs_get {α β : Type} {R : α → β → Prop} : ∀ {as : List α} {bs : List β} {i : Nat} {a : α}, PySem.W.EachIs R as bs → as[i]? = some a → ∃ b, bs[i]? = some b ∧ R a b
  | _, _, i, a, .nil, h => by simp at h
  | _, _, 0, a, .cons h t, e => ⟨_, rfl, by
    have e' := Option.some.inj e
    rw [← e']
    exact h⟩
  | _, _, i + 1, a, .cons h t, e => eachIs_get (i := i) t e
theorem eachIs_get2 {α β : Type} {R : α → β → Prop} : ∀ {as : List α} {bs : List β} {i : Nat} {b : β}, PySem.W.EachIs R as bs → bs[i]? = some b → ∃ a, as[i]? = some a ∧ R a b
  | _, _, i, b, .nil, h => by simp at h
  | _, _, 0, b, .cons h t, e => ⟨_, rfl, by
    have e' := Option.some.inj e
    rw [← e']
    exact h⟩
  | _, _, i + 1, b, .cons h t, e => eachIs_get2 (i := i) t e
theorem eachIs_snoc {α β : Type} {R : α → β → Prop} {as : List α} {bs : List β} {a : α} {b : β} (h : PySem.W.EachIs R as bs) (k : R a b) : PySem.W.EachIs R (as ++ [a]) (bs ++ [b]) := eachIs_append h (.cons k .nil)
theorem eachIs_take {α β : Type} {R : α → β → Prop} : ∀ {as : List α} {bs : List β} (n : Nat), PySem.W.EachIs R as bs → PySem.W.EachIs R (as.take n) (bs.take n)
  | _, _, 0, _ => .nil
  | _, _, n + 1, .nil => .nil
  | _, _, n + 1, .cons h t => .cons h (eachIs_take n t)
theorem eachIs_drop {α β : Type} {R : α → β → Prop} : ∀ {as : List α} {bs : List β} (n : Nat), PySem.W.EachIs R as bs → PySem.W.EachIs R (as.drop n) (bs.drop n)
  | _, _, 0, h => h
  | _, _, n + 1, .nil => .nil
  | _, _, n + 1, .cons h t => eachIs_drop n t
theorem eachIs_odds {α β : Type} {R : α → β → Prop} : ∀ {as : List α} {bs : List β}, PySem.W.EachIs R as bs → PySem.W.EachIs R (odds as) (odds bs)
  | _, _, .nil => .nil
  | _, _, .cons _ .nil => .nil
  | _, _, .cons _ (.cons h t) => .cons h (eachIs_odds t)
/-- the first number of what stands at v -/
def fstOf (H : Hp) (v : V) : Int := match v with
  | .ref t => (match H t with
    | some (.tup (.int i :: _)) => i
    | _ => 0)
  | _ => 0
theorem EntAt.fst {H : Hp} {v : V} {e : Ent} (h : EntAt H v e) : fstOf H v = e.1 := by
  obtain ⟨t, rfl, h2⟩ := h
  unfold fstOf
  simp only [h2]
theorem EntsAre.fsts {H : Hp} {xs : List V} {es : List Ent} (h : EntsAre H xs es) : ∀ v ∈ xs, ∃ t r, v = .ref t ∧ H t = some (.tup (.int (fstOf H v) :: r)) := by
  intro v hv
  obtain ⟨e, _, k⟩ := h.left v hv
  obtain ⟨t, h1, h2⟩ := id k
  exact ⟨t, _, h1, by rw [k.fst]; exact h2⟩
def byKey (es : List Ent) : List Ent := es.mergeSort fun a b => decide (a.1 ≤ b.1)
theorem EntsAre.sorted {H : Hp} {xs : List V} {es : List Ent} (h : EntsAre H xs es) : EntsAre H (byFst (fstOf H) xs) (byKey es) := by
  refine PySem.W.sort_each h fun p hp q hq => ?_
  rw [(h.zip p hp).fst, (h.zip q hq).fst]
/-! ### what is added -/
def addLeast (es : List Ent) (r : Int) : Int := match (es.filter fun e => decide (e.1 ≤ r)).getLast? with
  | some e => e.2.1 + 1
  | none => 0
def addMost (es : List Ent) (r more : Int) : Int := match (es.filter fun e => decide (r ≤ e.1)).head? with
  | some e => e.2.2
  | none => more
def liftE (es fs : List Ent) (more : Int) : List Ent := es.map fun e => (e.1, e.2.1 + addLeast fs e.1, e.2.2 + addMost fs e.1 more)
def joinE (es : List Ent) (many : Int) (fs : List Ent) (more : Int) : List Ent := byKey (liftE es fs more ++ liftE fs es many)
def noLess (es : List Ent) (r : Int) : Nat := (es.filter fun e => decide (e.1 < r)).length
abbrev Rise (es : List Ent) : Prop := es.Pairwise fun a b => a.1 ≤ b.1
theorem rise_get {es : List Ent} (h : Rise es) {i j : Nat} {a b : Ent} (hij : i ≤ j) (ha : es[i]? = some a) (hb : es[j]? = some b) : a.1 ≤ b.1 := by
  obtain ⟨hi, ea⟩ := List.getElem?_eq_some_iff.mp ha
  obtain ⟨hj, eb⟩ := List.getElem?_eq_some_iff.mp hb
  subst ea eb
  by_cases e : i = j
  · subst e
    exact Int.le_refl _
  · exact List.pairwise_iff_getElem.mp h i j hi hj (by omega)
theorem filter_take {α : Type} {p : α → Bool} : ∀ (l : List α) (n : Nat), (∀ i x, l[i]? = some x → i < n → p x = true) → (∀ i x, l[i]? = some x → n ≤ i → p x = false) → l.filter p = l.take n
  | [], n, _, _ => by simp
  | x :: r, 0, h1, h2 => by
    rw [List.take_zero, List.filter_eq_nil_iff]
    intro y hy
    obtain ⟨i, hi, rfl⟩ := List.getElem_of_mem hy
    rw [h2 i _ (List.getElem?_eq_getElem hi) (Nat.zero_le _)]
    decide
  | x :: r, n + 1, h1, h2 => by
    rw [List.filter_cons, if_pos (h1 0 x rfl (Nat.succ_pos _)), List.take_succ_cons, filter_take r n (fun i y e hi => h1 (i + 1) y e (by omega)) (fun i y e hi => h2 (i + 1) y e (by omega))]
theorem filter_drop {α : Type} {p : α → Bool} : ∀ (l : List α) (n : Nat), (∀ i x, l[i]? = some x → i < n → p x = false) → (∀ i x, l[i]? = some x → n ≤ i → p x = true) → l.filter p = l.drop n
  | [], n, _, _ => by simp
  | x :: r, 0, h1, h2 => by
    rw [List.drop_zero, List.filter_eq_self]
    intro y hy
    obtain ⟨i, hi, rfl⟩ := List.getElem_of_mem hy
    exact h2 i _ (List.getElem?_eq_getElem hi) (Nat.zero_le _)
  | x :: r, n + 1, h1, h2 => by
    rw [List.filter_cons, h1 0 x rfl (Nat.succ_pos _), if_neg (by decide), List.drop_succ_cons, filter_drop r n (fun i y e hi => h1 (i + 1) y e (by omega)) (fun i y e hi => h2 (i + 1) y e (by omega))]
/-- where a search ends -/
structure CutAt (es : List Ent) (r : Int) (n : Nat) : Prop where
  le : n ≤ es.length
  lo : ∀ i e, es[i]? = some e → i < n → e.1 < r
  hi : ∀ i e, es[i]? = some e → n ≤ i → r ≤ e.1
theorem CutAt.eq {es : List Ent} {r : Int} {n : Nat} (c : CutAt es r n) : noLess es r = n := by
  unfold noLess
  rw [filter_take es n (fun i e h k => decide_eq_true (c.lo i e h k)) (fun i e h k => decide_eq_false (by have := c.hi i e h k; omega)), List.length_take]
  have := c.le
  omega
theorem cut_of {es : List Ent} (h : Rise es) (r : Int) : CutAt es r (noLess es r) := by
  induction es with
  | nil => exact ⟨Nat.le_refl _, fun i e z => by simp at z, fun i e z => by simp at z⟩
  | cons x l ih =>
    obtain ⟨h1, h2⟩ := List.pairwise_cons.mp h
    have c := ih h2
    by_cases hx : x.1 < r
    · have e : noLess (x :: l) r = noLess l r + 1 := by
        unfold noLess
        rw [List.filter_cons, if_pos (decide_eq_true hx), List.length_cons]
      rw [e]
      refine ⟨by have := c.le; rw [List.length_cons]; omega, fun i y z k => ?_, fun i y z k => ?_⟩
      · cases i with
        | zero =>
          have := Option.some.inj z
          rw [← this]
          exact hx
        | succ i => exact c.lo i y z (by omega)
      · cases i with
        | zero => omega
        | succ i => exact c.hi i y z (by omega)
    · have e : noLess (x :: l) r = 0 := by
        unfold noLess
        rw [List.length_eq_zero_iff, List.filter_eq_nil_iff]
        intro y hy z
        have z := of_decide_eq_true z
        rcases List.mem_cons.mp hy with rfl | hy
        · exact hx z
        · have := h1 y hy
          omega
      rw [e]
      refine ⟨Nat.zero_le _, fun i y z k => absurd k (Nat.not_lt_zero _), fun i y z k => ?_⟩
      cases i with
      | zero =>
        have := Option.some.inj z
        rw [← this]
        omega
      | succ i =>
        have := h1 y (List.mem_of_getElem? z)
        omega
theorem addLeast_cut {es : List Ent} {r : Int} {n : Nat} (c : CutAt es (r + 1) n) : addLeast es r = (match es[n - 1]? with
    | some e => if n = 0 then 0 else e.2.1 + 1
    | none => 0) := by
  unfold addLeast
  rw [filter_take es n (fun i e h k => decide_eq_true (by have := c.lo i e h k; omega)) (fun i e h k => decide_eq_false (by have := c.hi i e h k; omega))]
  have hl := c.le
  rw [List.getLast?_eq_getElem?, List.length_take, Nat.min_eq_left hl]
  by_cases h0 : n = 0
  · subst h0
    simp
    split <;> rfl
  · rw [List.getElem?_take_of_lt (by omega)]
    rw [List.getElem?_eq_getElem (by omega)]
    simp [h0]
theorem addMost_cut {es : List Ent} {r more : Int} {n : Nat} (c : CutAt es r n) : addMost es r more = (match es[n]? with
    | some e => e.2.2
    | none => more) := by
  unfold addMost
  rw [filter_drop es n (fun i e h k => decide_eq_false (by have := c.lo i e h k; omega)) (fun i e h k => decide_eq_true (c.hi i e h k))]
  rw [List.head?_drop]
end Own

/-! The join of two rising lists of entries: one by one inserted; true of both rows together. -/
namespace Own
open PySem PySem.Spec PyProof.Rows L2 LamX
abbrev leE (a b : Ent) : Bool := decide (a.1 ≤ b.1)
theorem leE_total : PySem.W.TotalLe leE := by
  constructor
  · intro a b c h1 h2
    have h1 := of_decide_eq_true h1
    have h2 := of_decide_eq_true h2
    exact decide_eq_true (Int.le_trans h1 h2)
  · intro a b
    rcases Int.le_total a.1 b.1 with h | h
    · exact .inl (decide_eq_true h)
    · exact .inr (decide_eq_true h)
def insE (m : List Ent) (x : Ent) : List Ent := m.take (m.filter fun y => decide (y.1 ≤ x.1)).length ++ [x] ++ m.drop (m.filter fun y => decide (y.1 ≤ x.1)).length
theorem cut_le {m : List Ent} (h : Rise m) (r : Int) : CutAt m (r + 1) (m.filter fun y => decide (y.1 ≤ r)).length := by
  have c := cut_of h (r + 1)
  have e : noLess m (r + 1) = (m.filter fun y => decide (y.1 ≤ r)).length := by
    unfold noLess
    congr 2
    funext y
    exact decide_eq_decide.mpr ⟨fun h => by omega, fun h => by omega⟩
  rw [← e]
  exact c
theorem insE_sorted {m : List Ent} {x : Ent} (h : Rise m) : Rise (insE m x) := by
  have c := cut_le h x.1
  unfold insE
  generalize (m.filter fun y => decide (y.1 ≤ x.1)).length = n at c
  unfold Rise
  rw [List.append_assoc, List.singleton_append, List.pairwise_append]
  refine ⟨h.sublist (List.take_sublist _ _), List.pairwise_cons.mpr ⟨fun y (hy : y ∈ m.drop n) => ?_, h.sublist (List.drop_sublist _ _)⟩, fun y hy z hz => ?_⟩
  · obtain ⟨i, hi, rfl⟩ := List.getElem_of_mem hy
    rw [List.getElem_drop]
    rw [List.length_drop] at hi
    have := c.hi (n + i) _ (List.getElem?_eq_getElem (by omega)) (by omega)
    omega
  · obtain ⟨i, hi, rfl⟩ := List.getElem_of_mem hy
    rw [List.length_take] at hi
    rw [List.getElem_take]
    have h1 := c.lo i _ (List.getElem?_eq_getElem (by omega)) (by omega)
    rcases List.mem_cons.mp hz with rfl | hz
    · omega
    · obtain ⟨j, hj, rfl⟩ := List.getElem_of_mem hz
      rw [List.getElem_drop]
      rw [List.length_drop] at hj
      have := c.hi (n + j) _ (List.getElem?_eq_getElem (by omega)) (by omega)
      omega
theorem insE_rank {m : List Ent} {x : Ent} (h : Rise m) (y : Ent) : (insE m x).filter (PySem.W.sameRank leE y) = (m ++ [x]).filter (PySem.W.sameRank leE y) := by
  have c := cut_le h x.1
  unfold insE
  generalize (m.filter fun y => decide (y.1 ≤ x.1)).length = n at c
  rw [List.filter_append, List.filter_append, List.filter_append]
  by_cases hx : PySem.W.sameRank leE y x = true
  · have hd : (m.drop n).filter (PySem.W.sameRank leE y) = [] := by
      rw [List.filter_eq_nil_iff]
      intro z hz hs
      obtain ⟨i, hi, rfl⟩ := List.getElem_of_mem hz
      rw [List.length_drop] at hi
      rw [List.getElem_drop] at hs
      have := c.hi (n + i) _ (List.getElem?_eq_getElem (by omega)) (by omega)
      unfold PySem.W.sameRank at hx hs
      rw [Bool.and_eq_true] at hx hs
      have a1 := of_decide_eq_true hx.1
      have a2 := of_decide_eq_true hs.2
      omega
    have e : m.filter (PySem.W.sameRank leE y) = (m.take n).filter (PySem.W.sameRank leE y) := by
      rw [← List.take_append_drop n m, List.filter_append, List.take_append_drop, hd, List.append_nil]
    rw [hd, e, List.append_nil]
  · have e1 : [x].filter (PySem.W.sameRank leE y) = [] := by
      rw [List.filter_cons, if_neg hx]
      rfl
    rw [e1, List.append_nil, List.append_nil, ← List.filter_append, List.take_append_drop]
def insAll (m : List Ent) (l : List Ent) : List Ent := l.foldl insE m
theorem insAll_snoc (m l : List Ent) (x : Ent) : insAll m (l ++ [x]) = insE (insAll m l) x := by
  unfold insAll
  rw [List.foldl_append]
  rfl
theorem insE_length (m : List Ent) (x : Ent) : (insE m x).length = m.length + 1 := by
  unfold insE
  have := List.length_filter_le (fun y : Ent => decide (y.1 ≤ x.1)) m
  rw [List.length_append, List.length_append, List.length_take, List.length_drop, List.length_singleton]
  omega
theorem insAll_length (m : List Ent) : ∀ l : List Ent, (insAll m l).length = m.length + l.length := by
  intro l
  induction l generalizing m with
  | nil => rfl
  | cons x l ih =>
    show (insAll (insE m x) l).length = _
    rw [ih, insE_length, List.length_cons]
    omega
theorem insAll_sorted : ∀ (l m : List Ent), Rise m → Rise (insAll m l)
  | [], _, h => h
  | x :: l, m, h => insAll_sorted l (insE m x) (insE_sorted h)
theorem insAll_rank : ∀ (l m : List Ent), Rise m → ∀ y, (insAll m l).filter (PySem.W.sameRank leE y) = (m ++ l).filter (PySem.W.sameRank leE y)
  | [], m, _, y => by rw [List.append_nil]; rfl
  | x :: l, m, h, y => by
    show (insAll (insE m x) l).filter _ = _
    rw [insAll_rank l _ (insE_sorted h) y, List.filter_append, insE_rank h y, ← List.filter_append, List.append_assoc]
    rfl
/-- inserted one by one is sorted together -/
theorem insAll_eq {m l : List Ent} (h : Rise m) : insAll m l = byKey (m ++ l) := by
  refine PySem.W.sort_unique leE_total ?_ (insAll_rank l m h)
  exact (insAll_sorted l m h).imp fun z => decide_eq_true z
theorem byKey_rise (l : List Ent) : Rise (byKey l) := (PySem.W.sort_pairwise leE_total l).imp fun z => of_decide_eq_true z
theorem byKey_perm (l : List Ent) : (byKey l).Perm l := List.mergeSort_perm _ _
theorem byKey_length (l : List Ent) : (byKey l).length = l.length := (byKey_perm l).length_eq
theorem liftE_rise {es fs : List Ent} {more : Int} (h : Rise es) : Rise (liftE es fs more) := by
  unfold liftE
  exact List.pairwise_map.mpr h
/-! ### true of a row -/
def cle (row : List Int) (r : Int) : Int := ((row.filter fun x => decide (x ≤ r)).length : Int)
def clt (row : List Int) (r : Int) : Int := ((row.filter fun x => decide (x < r)).length : Int)
def TrueE (row : List Int) (e : Ent) : Prop := e.1 ∈ row ∧ e.2.1 ≤ cle row e.1 - 1 ∧ clt row e.1 ≤ e.2.2
theorem cle_append (a b : List Int) (r : Int) : cle (a ++ b) r = cle a r + cle b r := by
  unfold cle
  rw [List.filter_append, List.length_append]
  omega
theorem clt_append (a b : List Int) (r : Int) : clt (a ++ b) r = clt a r + clt b r := by
  unfold clt
  rw [List.filter_append, List.length_append]
  omega
theorem cnt_mono {p q : Int → Bool} (h : ∀ x, p x = true → q x = true) : ∀ l : List Int, (l.filter p).length ≤ (l.filter q).length
  | [] => Nat.le_refl _
  | x :: l => by
    have ih := cnt_mono h l
    rw [List.filter_cons, List.filter_cons]
    cases hp : p x with
    | true =>
      rw [h x hp]
      simp only [if_true, List.length_cons]
      omega
    | false =>
      cases hq : q x with
      | true =>
        simp only [if_true, if_false, Bool.false_eq_true, List.length_cons]
        omega
      | false => simpa using ih
theorem cle_mono (row : List Int) {r r' : Int} (h : r ≤ r') : cle row r ≤ cle row r' := by
  have := cnt_mono (p := fun x => decide (x ≤ r)) (q := fun x => decide (x ≤ r')) (fun x hx => decide_eq_true (by have := of_decide_eq_true hx; omega)) row
  unfold cle
  omega
theorem clt_mono (row : List Int) {r r' : Int} (h : r ≤ r') : clt row r ≤ clt row r' := by
  have := cnt_mono (p := fun x => decide (x < r)) (q := fun x => decide (x < r')) (fun x hx => decide_eq_true (by have := of_decide_eq_true hx; omega)) row
  unfold clt
  omega
theorem clt_le (row : List Int) (r : Int) : clt row r ≤ row.length := by
  unfold clt
  have := List.length_filter_le (fun x => decide (x < r)) row
  omega
theorem cle_nn (row : List Int) (r : Int) : 0 ≤ cle row r := by
  unfold cle
  omega
theorem addLeast_true {fs : List Ent} {row : List Int} {r : Int} (h : ∀ e ∈ fs, TrueE row e) : addLeast fs r ≤ cle row r := by
  unfold addLeast
  split
  · rename_i e he
    have hm := List.mem_of_getLast? he
    obtain ⟨h1, h2⟩ := List.mem_filter.mp hm
    have := (h e h1).2.1
    have := cle_mono row (of_decide_eq_true h2)
    omega
  · exact cle_nn row r
theorem addMost_true {fs : List Ent} {row : List Int} {r more : Int} (h : ∀ e ∈ fs, TrueE row e) (hm : (row.length : Int) ≤ more) : clt row r ≤ addMost fs r more := by
  unfold addMost
  split
  · rename_i e he
    have hm := List.mem_of_head? he
    obtain ⟨h1, h2⟩ := List.mem_filter.mp hm
    have := (h e h1).2.2
    have := clt_mono row (of_decide_eq_true h2)
    omega
  · have := clt_le row r
    omega
theorem liftE_true {es fs : List Ent} {ra rb : List Int} {more : Int} (h1 : ∀ e ∈ es, TrueE ra e) (h2 : ∀ e ∈ fs, TrueE rb e) (hm : (rb.length : Int) ≤ more) : ∀ e ∈ liftE es fs more, TrueE (ra ++ rb) e := by
  intro e he
  unfold liftE at he
  obtain ⟨d, hd, rfl⟩ := List.mem_map.mp he
  obtain ⟨a1, a2, a3⟩ := h1 d hd
  refine ⟨List.mem_append_left _ a1, ?_, ?_⟩
  · show d.2.1 + addLeast fs d.1 ≤ cle (ra ++ rb) d.1 - 1
    rw [cle_append]
    have := addLeast_true (r := d.1) h2
    omega
  · show clt (ra ++ rb) d.1 ≤ d.2.2 + addMost fs d.1 more
    rw [clt_append]
    have := addMost_true (r := d.1) h2 hm
    omega
theorem TrueE.perm {ra rb : List Int} {e : Ent} (p : ra.Perm rb) (h : TrueE ra e) : TrueE rb e := by
  obtain ⟨a1, a2, a3⟩ := h
  have e1 : cle ra e.1 = cle rb e.1 := by
    unfold cle
    rw [(p.filter _).length_eq]
  have e2 : clt ra e.1 = clt rb e.1 := by
    unfold clt
    rw [(p.filter _).length_eq]
  exact ⟨p.mem_iff.mp a1, by rw [← e1]; exact a2, by rw [← e2]; exact a3⟩
theorem joinE_true {es fs : List Ent} {ra rb : List Int} {many more : Int} (h1 : ∀ e ∈ es, TrueE ra e) (h2 : ∀ e ∈ fs, TrueE rb e) (hm : (ra.length : Int) ≤ many) (hm2 : (rb.length : Int) ≤ more) : ∀ e ∈ joinE es many fs more, TrueE (ra ++ rb) e := by
  intro e he
  unfold joinE at he
  have he := (byKey_perm _).mem_iff.mp he
  rcases List.mem_append.mp he with h | h
  · exact liftE_true h1 h2 hm2 e h
  · exact (liftE_true h2 h1 hm e h).perm List.perm_append_comm
/-- at its place in a rising row -/
theorem place_true {row : List Int} (hs : row.Pairwise (· ≤ ·)) {p : Nat} {r : Int} (h : row[p]? = some r) : (p : Int) ≤ cle row r - 1 ∧ clt row r ≤ (p : Int) := by
  obtain ⟨hp, rfl⟩ := List.getElem?_eq_some_iff.mp h
  constructor
  · have e : row.take (p + 1) = (row.take (p + 1)).filter fun x => decide (x ≤ row[p]) := by
      rw [List.filter_eq_self.mpr]
      intro x hx
      obtain ⟨i, hi, rfl⟩ := List.getElem_of_mem hx
      rw [List.length_take] at hi
      rw [List.getElem_take]
      apply decide_eq_true
      by_cases hip : i = p
      · subst hip
        exact Int.le_refl _
      · exact List.pairwise_iff_getElem.mp hs i p (by omega) hp (by omega)
    have l1 : (row.take (p + 1)).length = p + 1 := by
      rw [List.length_take]
      omega
    have l2 : ((row.take (p + 1)).filter fun x => decide (x ≤ row[p])).length ≤ (row.filter fun x => decide (x ≤ row[p])).length := ((List.take_sublist (p + 1) row).filter _).length_le
    rw [← e, l1] at l2
    unfold cle
    omega
  · have e : row.filter (fun x => decide (x < row[p])) = (row.take p).filter fun x => decide (x < row[p]) := by
      have hd : (row.drop p).filter (fun x => decide (x < row[p])) = [] := by
        rw [List.filter_eq_nil_iff]
        intro x hx hz
        have hz := of_decide_eq_true hz
        obtain ⟨i, hi, rfl⟩ := List.getElem_of_mem hx
        rw [List.length_drop] at hi
        rw [List.getElem_drop] at hz
        by_cases hi0 : i = 0
        · subst hi0
          simp at hz
        · have := List.pairwise_iff_getElem.mp hs p (p + i) hp (by omega) (by omega)
          omega
      generalize row[p] = z at hd
      have e0 := congrArg (fun l => List.filter (fun x => decide (x < z)) l) (List.take_append_drop p row)
      simp only [List.filter_append, hd, List.append_nil] at e0
      exact e0.symm
    unfold clt
    rw [e]
    have := List.length_filter_le (fun x => decide (x < row[p])) (row.take p)
    rw [List.length_take] at this
    omega
end Own

/-! A def whose code object is known; the end of a law with tables, the facts by the top. -/
namespace Own
open PySem PySem.Spec PyProof.Rows L2 LamX
structure FunC (K : PySem.W.Frag) (x qual : Str) (st : Stmt) (f : Addr) (fd : FuncData) (c : Addr) : Prop where
  ex : ∃ (oc : Value) (od : Option Addr) (kV doc pm : Value) (an : Option Addr) (ct : Value) (osl : Array (Option Value)),
    fd = PySem.W.fnOf x qual (defArgs st) (defBody st) (defScope st) .none kV doc pm an (.ref c) ct ∧ K.lookup f = some ⟨oc, od, .func fd, osl⟩ ∧ PySem.W.codeIn K (.ref c) qual = true
  kp : PySem.W.keepIn K (.ref f) = true
section
variable {P : Program} {w : World} {K : PySem.W.Frag} {mg : Str → Option Value} {base : Heap}
theorem FunC.fn {x qual : Str} {st : Stmt} {f : Addr} {fd : FuncData} {c : Addr} (F : FunC K x qual st f fd c) : Fun K x qual st f fd := by
  obtain ⟨oc, od, kV, doc, pm, an, ct, osl, e, l, hc⟩ := F.ex
  exact ⟨⟨oc, od, kV, doc, pm, an, .ref c, ct, osl, e, l, hc⟩, F.kp⟩
theorem FunC.ok {x qual : Str} {st : Stmt} {f c : Addr} {fd : FuncData} {N ps : List Str} {k : Nat} {sp : Sp} (F : FunC K x qual st f fd c) (S : FnScope N ps (defScope st)) (len : ∀ vs H Q E, sp vs H Q E → vs.length = ps.length)
    (hbody : ∀ (A : Around) (outer : List Env) (s : Shared) (H : Hp) (vs : List V) (Q : VK) (E : XK), Room k (A.deeper (envOfC qual (defScope st) s.heap.objs.size f (.ref c))) → sp vs H Q E →
      ∃ t, PSs (cxOf CX0 P w K mg base N qual (defScope st) f (.ref c) A outer s H E).nox (defBody st) t ∧ t { nx := fun _ H' => Q .non H', rt := Q } (start N vs) H) : FnOk P w K mg base CX0 (k + 1) f fd ps sp := by
  obtain ⟨oc, od, kV, doc, pm, an, ct, osl, rfl, lk, hcd⟩ := F.ex
  refine fn_of lk hcd S len fun A outer s H vs Q E hr hsp => ?_
  obtain ⟨t, h, q⟩ := hbody A outer s H vs Q E hr hsp
  exact ⟨t, h.nox, q⟩
theorem funC_mk {x qual : Str} {st : Stmt} {f c : Addr} {oc : Value} {od an : Option Addr} {osl : Array (Option Value)} {kV doc pm cdv ct : Value} (l : K.lookup f = some ⟨oc, od, .func (PySem.W.fnOf x qual (defArgs st) (defBody st) (defScope st) .none kV doc pm an cdv ct), osl⟩)
    (hc : PySem.W.codeIn K cdv qual = true) (k : PySem.W.keepIn K (.ref f) = true) (e : cdv = .ref c) : FunC K x qual st f (PySem.W.fnOf x qual (defArgs st) (defBody st) (defScope st) .none kV doc pm an cdv ct) c := by
  subst e
  exact ⟨⟨oc, od, kV, doc, pm, an, ct, osl, rfl, l, hc⟩, k⟩
end
/-- what is known of the law's promise, its tables by the top -/
theorem walk_ofT {l : PySem.W.OpenLaw} {n k : Nat} {q : Program} {loose : List Str} {XP : (Str → Option Value) → Heap → Prop} {YP : World → Heap → Prop} {d : DefRec} {K : Params → PySem.W.Frag} {CX : World → CXT} {x : Str}
    (hn : l.most = some n) (hn2 : n ≤ sizeLine) (hdf : d.params.defaults = []) (hr : Room k callerA) (hY : ∀ (w : World) (h : Heap), YP w h → (K w.params).In h)
    (F : ∀ (w : World) (mg mb : Str → Option Value) (mean : ExcName → Option Value) (fa : Addr) (h : Heap), Top q (PySem.W.looseW q loose) mean mg mb h → (K w.params).In h → h.Ns mainGlobals mg → mg d.name = some (.ref fa) → LawAtS l w (K w.params) (CX w) k n x mg fa h)
    (hCX : ∀ (w : World) (H : Hp) (s : Shared) (e : Value) (s' : Shared), CX w [] H s (fun _ _ _ => False) e s' → False) :
    PySem.W.WalkO q loose XP YP l.row.toRowW d [] (fun f vs => PySem.call f vs) := by
  refine Att.attach_callB hn hdf fun w s₀ s₁ mg mb fa o pm cd doc a vs ns G Y ho hd hcd hmg hobj hints hlen hbits hg => ?_
  have KX := hY w _ Y
  obtain ⟨fd, cs, sp, hT, nT, C, hb, hsp, hF⟩ := F w mg mb _ fa _ G.T KX G.T.g hmg
  exact law_callTs KX G.T.g G.T.b G.T.builtins G.T.nolimit hg hT nT C G.T.bmain hobj hints (Nat.le_trans hlen hn2) hr hF hb (fun H hH hS => hsp H a ns hlen hbits hH hS) fun H e s' => hCX w H s₁ e s'
end Own

namespace K02
open PySem PySem.Spec PyProof.Rows L2 Own LamX
/-- the table of the def that makes the lambda -/
abbrev TL (P : Addr) : List (Addr × Str) := [(P, ("joined" : Str) ++ ".<locals>." ++ "<lambda>")]
theorem TL_only (P : Addr) : ∀ p ∈ TL P, p.1 = P → p.2 = ("joined" : Str) ++ ".<locals>." ++ "<lambda>" := fun p hp _ => by
  rw [List.mem_singleton.mp hp]
def cellOf (ns : List Int) (k : Nat) : Int := ns.getD k 0
def mixedOf (c k : Int) : Int := ((c + 7919 * k) * 48271 % 2147483647) * ((c + 7919 * k) * 48271 % 2147483647 + 2 * k + 1) % 2147483629
def spCell (K : PySem.W.Frag) : Sp := fun vs H Q _ => ∃ (a : Addr) (ns : List Int) (k : Nat), vs = [.ref a, .int (k : Int)] ∧ SqL K H a (ns.map V.int) ∧ Q (.int (cellOf ns k)) H
def spMixed : Sp := fun vs H Q _ => ∃ (c k : Int), vs = [.int c, .int k] ∧ 0 ≤ k ∧ Q (.int (mixedOf c k)) H
def spReading : Sp := fun vs H Q _ => ∃ (c : Int), vs = [.int c] ∧ ∀ H' r, Same H H' → Q (.int r) H'
def spWhole : Sp := fun vs H Q _ => ∃ (i j : Int), vs = [.int i, .int j] ∧ Q (.bl (decide (i = j))) H
def spRow (K : PySem.W.Frag) : Sp := fun vs H Q _ => ∃ (a : Addr) (ns : List Int) (i : Nat) (c : Int), vs = [.ref a, .int (i : Int), .int c] ∧ SqL K H a (ns.map V.int) ∧
  ∀ (H' : Hp) (p : Addr) (row : List Int), Same H H' → H p = none → H' p = some (.lst (row.map V.int)) → row.length ≤ 14 → row.Pairwise (· ≤ ·) → Q (.ref p) H'
/-- entries drawn from a rising row -/
structure Drawn (row : List Int) (es : List Ent) : Prop where
  rise : Rise es
  len : es.length ≤ 14
  ok : ∀ e ∈ es, ∃ p : Nat, row[p]? = some e.1 ∧ e.2.1 ≤ (p : Int) ∧ (p : Int) ≤ e.2.2
def spSome (K : PySem.W.Frag) : Sp := fun vs H Q _ => ∃ (a : Addr) (row : List Int) (c : Int), vs = [.ref a, .int c] ∧ H a = some (.lst (row.map V.int)) ∧ row.length ≤ 14 ∧ row.Pairwise (· ≤ ·) ∧
  ∀ H' p xs es, Same H H' → H p = none → H' p = some (.lst xs) → EntsAre H' xs es → Drawn row es → Q (.ref p) H'
def spCounted (K : PySem.W.Frag) : Sp := fun vs H Q _ => ∃ (v : V) (a : Addr) (e : Ent) (xs : List V) (es : List Ent) (more : Int), vs = [v, .ref a, .int more] ∧ EntAt H v e ∧ H a = some (.lst xs) ∧ EntsAre H xs es ∧ es.length ≤ 40 ∧
  ∀ H' u, Same H H' → EntAt H' u (e.1, e.2.1 + addLeast es e.1, e.2.2 + addMost es e.1 more) → Q u H'
def spDue (K : PySem.W.Frag) : Sp := fun vs H Q _ => ∃ (a b : Addr) (xs ys : List V) (es fs : List Ent) (many more : Int), vs = [.ref a, .int many, .ref b, .int more] ∧ H a = some (.lst xs) ∧ H b = some (.lst ys) ∧ EntsAre H xs es ∧ EntsAre H ys fs ∧ Rise es ∧ es.length ≤ 14 ∧ fs.length ≤ 14 ∧
  ∀ H' p zs, Same H H' → H p = none → H' p = some (.lst zs) → EntsAre H' zs (joinE es many fs more) → Q (.ref p) H'
def spLike (K : PySem.W.Frag) : Sp := fun vs H Q _ => ∃ (a b : Addr) (xs ys : List V) (es : List Ent), vs = [.ref a, .ref b] ∧ H a = some (.lst xs) ∧ H b = some (.lst ys) ∧ EntsAre H xs es ∧ EntsAre H ys es ∧ es.length ≤ 1000 ∧ ∀ H', Same H H' → Q (.bl true) H'
def spTrue (K : PySem.W.Frag) : Sp := fun vs H Q _ => ∃ (a b : Addr) (xs : List V) (es : List Ent) (row : List Int), vs = [.ref a, .ref b] ∧ H a = some (.lst xs) ∧ H b = some (.lst (row.map V.int)) ∧ EntsAre H xs es ∧ row.length ≤ 1000 ∧ (∀ e ∈ es, TrueE row e) ∧ ∀ H', Same H H' → Q (.bl true) H'
def spNoLess (K : PySem.W.Frag) : Sp := fun vs H Q _ => ∃ (a : Addr) (xs : List V) (es : List Ent) (r : Int), vs = [.ref a, .int r] ∧ H a = some (.lst xs) ∧ EntsAre H xs es ∧ Rise es ∧ es.length ≤ 1000 ∧ ∀ n : Nat, CutAt es r n → Q (.int (n : Int)) H
def spAddLeast (K : PySem.W.Frag) : Sp := fun vs H Q _ => ∃ (a : Addr) (xs : List V) (es : List Ent) (r : Int), vs = [.int r, .ref a] ∧ H a = some (.lst xs) ∧ EntsAre H xs es ∧ Rise es ∧ es.length ≤ 1000 ∧ Q (.int (addLeast es r)) H
def spAddMost (K : PySem.W.Frag) : Sp := fun vs H Q _ => ∃ (a : Addr) (xs : List V) (es : List Ent) (r more : Int), vs = [.int r, .ref a, .int more] ∧ H a = some (.lst xs) ∧ EntsAre H xs es ∧ Rise es ∧ es.length ≤ 1000 ∧ Q (.int (addMost es r more)) H
def spLifted (K : PySem.W.Frag) : Sp := fun vs H Q _ => ∃ (a b : Addr) (xs ys : List V) (es fs : List Ent) (more : Int), vs = [.ref a, .ref b, .int more] ∧ H a = some (.lst xs) ∧ H b = some (.lst ys) ∧ EntsAre H xs es ∧ EntsAre H ys fs ∧ Rise fs ∧ es.length ≤ 1000 ∧ fs.length ≤ 1000 ∧
  ∀ H' p zs, Same H H' → H p = none → H' p = some (.lst zs) → EntsAre H' zs (liftE es fs more) → Q (.ref p) H'
def spJoined (K : PySem.W.Frag) (T : List (Addr × Str)) : Sp := fun vs H Q _ => ∃ (a b : Addr) (xs ys : List V) (es fs : List Ent) (many more : Int), vs = [.ref a, .int many, .ref b, .int more] ∧ Tabs T H ∧ H a = some (.lst xs) ∧ H b = some (.lst ys) ∧ EntsAre H xs es ∧ EntsAre H ys fs ∧ Rise es ∧ Rise fs ∧ es.length ≤ 1000 ∧ fs.length ≤ 1000 ∧
  ∀ H' p zs, ExtN H H' → Tabs T H' → NewN H p → H' p = some (.lst zs) → EntsAre H' zs (joinE es many fs more) → Q (.ref p) H'
def spLaw (K : PySem.W.Frag) (T : List (Addr × Str)) : Sp := fun vs H Q _ => ∃ (a : Addr) (ns : List Int), vs = [.ref a] ∧ SqL K H a (ns.map V.int) ∧ ns.length ≤ 63 ∧ Tabs T H ∧ ∀ H', Q (.bl true) H'
end K02

namespace K02
open PySem PySem.Spec PyProof.Rows L2 Own LamX
/-! the text by places -/
def topS (i : Nat) : Stmt := PySem.Challenge.pw_rankbounds_k02_entries_joined.main.body.getD i (.Pass ⟨0, 0, 0, 0⟩)
abbrev s_joined : Stmt := topS 1
abbrev N_joined : List Str := ["ones", "many", "others", "more", "both"]
theorem sc_joined : FnScope N_joined ["ones", "many", "others", "more"] (defScope s_joined) := ⟨rfl, rfl, rfl, by decide +kernel, rfl, by decide +kernel, by decide +kernel⟩
abbrev s__lifted : Stmt := topS 2
abbrev N__lifted : List Str := ["entries", "others", "more", "reading", "least", "most"]
theorem sc__lifted : FnScope N__lifted ["entries", "others", "more"] (defScope s__lifted) := ⟨rfl, rfl, rfl, by decide +kernel, rfl, by decide +kernel, by decide +kernel⟩
abbrev s__added_to_least : Stmt := topS 3
abbrev N__added_to_least : List Str := ["reading", "others", "place"]
theorem sc__added_to_least : FnScope N__added_to_least ["reading", "others"] (defScope s__added_to_least) := ⟨rfl, rfl, rfl, by decide +kernel, rfl, by decide +kernel, by decide +kernel⟩
abbrev s__added_to_most : Stmt := topS 4
abbrev N__added_to_most : List Str := ["reading", "others", "more", "place"]
theorem sc__added_to_most : FnScope N__added_to_most ["reading", "others", "more"] (defScope s__added_to_most) := ⟨rfl, rfl, rfl, by decide +kernel, rfl, by decide +kernel, by decide +kernel⟩
abbrev s__first_no_less : Stmt := topS 5
abbrev N__first_no_less : List Str := ["entries", "reading", "low", "high", "middle"]
theorem sc__first_no_less : FnScope N__first_no_less ["entries", "reading"] (defScope s__first_no_less) := ⟨rfl, rfl, rfl, by decide +kernel, rfl, by decide +kernel, by decide +kernel⟩
abbrev s__law_cell : Stmt := topS 7
abbrev N__law_cell : List Str := ["_law_script", "_law_k"]
theorem sc__law_cell : FnScope N__law_cell ["_law_script", "_law_k"] (defScope s__law_cell) := ⟨rfl, rfl, rfl, by decide +kernel, rfl, by decide +kernel, by decide +kernel⟩
abbrev s__law_mixed : Stmt := topS 8
abbrev N__law_mixed : List Str := ["_law_cell_here", "_law_k", "_law_number"]
theorem sc__law_mixed : FnScope N__law_mixed ["_law_cell_here", "_law_k"] (defScope s__law_mixed) := ⟨rfl, rfl, rfl, by decide +kernel, rfl, by decide +kernel, by decide +kernel⟩
abbrev s__law_reading : Stmt := topS 9
abbrev N__law_reading : List Str := ["_law_cell_here", "_law_number"]
theorem sc__law_reading : FnScope N__law_reading ["_law_cell_here"] (defScope s__law_reading) := ⟨rfl, rfl, rfl, by decide +kernel, rfl, by decide +kernel, by decide +kernel⟩
abbrev s__law_whole : Stmt := topS 10
abbrev N__law_whole : List Str := ["_law_found", "_law_due_here"]
theorem sc__law_whole : FnScope N__law_whole ["_law_found", "_law_due_here"] (defScope s__law_whole) := ⟨rfl, rfl, rfl, by decide +kernel, rfl, by decide +kernel, by decide +kernel⟩
abbrev s__law_row : Stmt := topS 11
abbrev N__law_row : List Str := ["_law_script", "_law_first", "_law_cell_here", "_law_k"]
theorem sc__law_row : FnScope N__law_row ["_law_script", "_law_first", "_law_cell_here"] (defScope s__law_row) := ⟨rfl, rfl, rfl, by decide +kernel, rfl, by decide +kernel, by decide +kernel⟩
abbrev s__law_some : Stmt := topS 12
abbrev N__law_some : List Str := ["_law_row_here", "_law_cell_here", "_law_found", "_law_place", "_law_reading_here", "_law_left"]
theorem sc__law_some : FnScope N__law_some ["_law_row_here", "_law_cell_here"] (defScope s__law_some) := ⟨rfl, rfl, rfl, by decide +kernel, rfl, by decide +kernel, by decide +kernel⟩
abbrev s__law_counted : Stmt := topS 13
abbrev N__law_counted : List Str := ["_law_entry", "_law_others", "_law_more", "_law_reading_here", "_law_least", "_law_most", "_law_last", "_law_first", "_law_one"]
theorem sc__law_counted : FnScope N__law_counted ["_law_entry", "_law_others", "_law_more"] (defScope s__law_counted) := ⟨rfl, rfl, rfl, by decide +kernel, rfl, by decide +kernel, by decide +kernel⟩
abbrev s__law_due : Stmt := topS 14
abbrev N__law_due : List Str := ["_law_ones", "_law_many", "_law_others", "_law_more", "_law_found", "_law_other", "_law_at", "_law_one"]
theorem sc__law_due : FnScope N__law_due ["_law_ones", "_law_many", "_law_others", "_law_more"] (defScope s__law_due) := ⟨rfl, rfl, rfl, by decide +kernel, rfl, by decide +kernel, by decide +kernel⟩
abbrev s__law_like : Stmt := topS 15
abbrev N__law_like : List Str := ["_law_found", "_law_due_here", "_law_one", "_law_other", "_law_number", "_law_wanted"]
theorem sc__law_like : FnScope N__law_like ["_law_found", "_law_due_here"] (defScope s__law_like) := ⟨rfl, rfl, rfl, by decide +kernel, rfl, by decide +kernel, by decide +kernel⟩
abbrev s__law_true : Stmt := topS 16
abbrev N__law_true : List Str := ["_law_entries", "_law_row_here", "_law_reading_here", "_law_least", "_law_most", "_law_one"]
theorem sc__law_true : FnScope N__law_true ["_law_entries", "_law_row_here"] (defScope s__law_true) := ⟨rfl, rfl, rfl, by decide +kernel, rfl, by decide +kernel, by decide +kernel⟩
abbrev s_law : Stmt := topS 17
abbrev N_law : List Str := ["_law_script", "_law_cell_here", "_law_row_here", "_law_other", "_law_ones", "_law_others", "_law_handed", "_law_turn", "_law_found", "_law_due_here", "_law_back"]
theorem sc_law : FnScope N_law ["_law_script"] (defScope s_law) := ⟨rfl, rfl, rfl, by decide +kernel, rfl, by decide +kernel, by decide +kernel⟩
structure Bi (mg : Str → Option Value) : Prop where
  z_all : mg "all" = none
  z_bool : mg "bool" = none
  z_enumerate : mg "enumerate" = none
  z_int : mg "int" = none
  z_isinstance : mg "isinstance" = none
  z_len : mg "len" = none
  z_list : mg "list" = none
  z_range : mg "range" = none
  z_sorted : mg "sorted" = none
  z_tuple : mg "tuple" = none
  z_zip : mg "zip" = none
section
variable {P : Program} {w : World} {K : PySem.W.Frag} {mg : Str → Option Value} {base : Heap} {P_joined : Addr}
/-- joined -/
noncomputable def rd_joined {f : Addr} {c Pt : Addr} {A : Around} {outer : List Env} {s : Shared} {H : Hp} {E : XK} (TB : TabB base mg c Pt) (B : Bi mg) (hr : Room 4 (A.deeper (envOfC "joined" (defScope s_joined) s.heap.objs.size f (.ref c)))) (c__lifted : CalK P w K mg base 3 "_lifted" (spLifted K)) : { t : TS // PSs (cxOf CX0 P w K mg base N_joined "joined" (defScope s_joined) f (.ref c) A outer s H E).nox (defBody s_joined) t } := ⟨_, (pss_cons (ps_set (i := 4) sc_joined.nd rfl (by first | exact Or.inl rfl | exact Or.inr rfl) (pe_op op_cat (pe_k c__lifted hr (by decide) (by rfl) (pa_cons (pv 0) (pa_cons (pv 2) (pa_cons (pv 3) pa_nil)))) (pe_k c__lifted hr (by decide) (by rfl) (pa_cons (pv 2) (pa_cons (pv 0) (pa_cons (pv 1) pa_nil))))))
      (pss_one (ps_ret (pe_sortFst (K := K) (T := TL Pt) TB rfl (List.mem_singleton.mpr rfl) (TL_only Pt) hr (by decide) (by rfl) B.z_sorted (pv 4) ⟨rfl, rfl, rfl, rfl, by decide⟩ rfl (fun _ _ _ _ _ => rfl)))))⟩
/-- _lifted -/
noncomputable def rd__lifted {f : Addr} {cdv : Value} {A : Around} {outer : List Env} {s : Shared} {H : Hp} {E : XK} (B : Bi mg) (hr : Room 2 (A.deeper (envOfC "_lifted" (defScope s__lifted) s.heap.objs.size f cdv))) (c__added_to_most : CalK P w K mg base 2 "_added_to_most" (spAddMost K)) (c__added_to_least : CalK P w K mg base 2 "_added_to_least" (spAddLeast K)) : { t : TS // PSs (cxOf CX0 P w K mg base N__lifted "_lifted" (defScope s__lifted) f cdv A outer s H E).nox (defBody s__lifted) t } := ⟨_, (pss_one (ps_ret (pe_lc (own := [("reading", 3), ("least", 4), ("most", 5)]) rfl sc__lifted.nd (pi_listK (K := K) (pv 0)) (blkOk_by (own := [("reading", 3), ("least", 4), ("most", 5)]) (N := N__lifted) (sc := defScope s__lifted) (by decide +kernel)) (fun _ _ _ _ _ => (pg_tupK (K := K) (n := 3) rfl (pgs_cons (pg_name (i := 3) sc__lifted.nd rfl (by first | exact Or.inl rfl | exact Or.inr rfl)) (pgs_cons (pg_name (i := 4) sc__lifted.nd rfl (by first | exact Or.inl rfl | exact Or.inr rfl)) (pgs_cons (pg_name (i := 5) sc__lifted.nd rfl (by first | exact Or.inl rfl | exact Or.inr rfl)) pgs_nil))))) (fun _ _ _ _ _ => pts_nil) (fun _ _ _ _ _ => (pe_tup (pa_cons (pv 3) (pa_cons (pe_op op_add (pv 4) (pe_k c__added_to_least hr (by decide) (by rfl) (pa_cons (pv 3) (pa_cons (pv 1) pa_nil)))) (pa_cons (pe_op op_add (pv 5) (pe_k c__added_to_most hr (by decide) (by rfl) (pa_cons (pv 3) (pa_cons (pv 1) (pa_cons (pv 2) pa_nil))))) pa_nil))))))))⟩
/-- _added_to_least -/
noncomputable def rd__added_to_least {f : Addr} {cdv : Value} {A : Around} {outer : List Env} {s : Shared} {H : Hp} {E : XK} (B : Bi mg) (hr : Room 1 (A.deeper (envOfC "_added_to_least" (defScope s__added_to_least) s.heap.objs.size f cdv))) (c__first_no_less : CalK P w K mg base 1 "_first_no_less" (spNoLess K)) : { t : TS // PSs (cxOf CX0 P w K mg base N__added_to_least "_added_to_least" (defScope s__added_to_least) f cdv A outer s H E).nox (defBody s__added_to_least) t } := ⟨_, (pss_cons (ps_set (i := 2) sc__added_to_least.nd rfl (by first | exact Or.inl rfl | exact Or.inr rfl) (pe_k c__first_no_less hr (by decide) (by rfl) (pa_cons (pv 1) (pa_cons (pe_op op_add (pv 0) pe_int) pa_nil))))
      (pss_cons (ps_if (pt_cmpR op_eq (pv 2) pe_int (nomark _)) (pss_one (ps_ret pe_int)) pss_nil)
      (pss_one (ps_ret (pe_op op_add (pe_ix (ix_tupK (K := K)) (pe_ix (ix_listK (K := K)) (pv 1) (pe_op op_sub (pv 2) pe_int) (fun _ _ => rfl)) pe_int (fun _ _ => rfl)) pe_int)))))⟩
/-- _added_to_most -/
noncomputable def rd__added_to_most {f : Addr} {cdv : Value} {A : Around} {outer : List Env} {s : Shared} {H : Hp} {E : XK} (B : Bi mg) (hr : Room 1 (A.deeper (envOfC "_added_to_most" (defScope s__added_to_most) s.heap.objs.size f cdv))) (c__first_no_less : CalK P w K mg base 1 "_first_no_less" (spNoLess K)) : { t : TS // PSs (cxOf CX0 P w K mg base N__added_to_most "_added_to_most" (defScope s__added_to_most) f cdv A outer s H E).nox (defBody s__added_to_most) t } := ⟨_, (pss_cons (ps_set (i := 3) sc__added_to_most.nd rfl (by first | exact Or.inl rfl | exact Or.inr rfl) (pe_k c__first_no_less hr (by decide) (by rfl) (pa_cons (pv 1) (pa_cons (pv 0) pa_nil))))
      (pss_cons (ps_if (pt_cmpR op_eq (pv 3) (pe_callB (call_lenK (K := K)) (by rfl) B.z_len (by decide +kernel) (pa_cons (pv 1) pa_nil)) (nomark _)) (pss_one (ps_ret (pv 2))) pss_nil)
      (pss_one (ps_ret (pe_ix (ix_tupK (K := K)) (pe_ix (ix_listK (K := K)) (pv 1) (pv 3) (fun _ _ => rfl)) pe_int (fun _ _ => rfl))))))⟩
/-- _first_no_less -/
noncomputable def rd__first_no_less {f : Addr} {cdv : Value} {A : Around} {outer : List Env} {s : Shared} {H : Hp} {E : XK} (B : Bi mg) (hr : Room 0 (A.deeper (envOfC "_first_no_less" (defScope s__first_no_less) s.heap.objs.size f cdv))) : { t : TS // PSs (cxOf CX0 P w K mg base N__first_no_less "_first_no_less" (defScope s__first_no_less) f cdv A outer s H E).nox (defBody s__first_no_less) t } := ⟨_, (pss_cons (ps_set (i := 2) sc__first_no_less.nd rfl (by first | exact Or.inl rfl | exact Or.inr rfl) pe_int)
      (pss_cons (ps_set (i := 3) sc__first_no_less.nd rfl (by first | exact Or.inl rfl | exact Or.inr rfl) (pe_callB (call_lenK (K := K)) (by rfl) B.z_len (by decide +kernel) (pa_cons (pv 0) pa_nil)))
      (pss_cons (ps_while PassesOwn.never (pt_cmpR op_lt (pv 2) (pv 3) (nomark _)) (pss_cons (ps_set (i := 4) sc__first_no_less.nd rfl (by first | exact Or.inl rfl | exact Or.inr rfl) (pe_op op_fdiv (pe_op op_add (pv 2) (pv 3)) pe_int))
      (pss_one (ps_if (pt_cmpR op_lt (pe_ix (ix_tupK (K := K)) (pe_ix (ix_listK (K := K)) (pv 0) (pv 4) (fun _ _ => rfl)) pe_int (fun _ _ => rfl)) (pv 1) (nomark _)) (pss_one (ps_set (i := 2) sc__first_no_less.nd rfl (by first | exact Or.inl rfl | exact Or.inr rfl) (pe_op op_add (pv 4) pe_int))) (pss_one (ps_set (i := 3) sc__first_no_less.nd rfl (by first | exact Or.inl rfl | exact Or.inr rfl) (pv 4)))))))
      (pss_one (ps_ret (pv 2))))))⟩
/-- _law_cell -/
noncomputable def rd__law_cell {f : Addr} {cdv : Value} {A : Around} {outer : List Env} {s : Shared} {H : Hp} {E : XK} (B : Bi mg) (hr : Room 0 (A.deeper (envOfC "_law_cell" (defScope s__law_cell) s.heap.objs.size f cdv))) : { t : TS // PSs (cxOf CX0 P w K mg base N__law_cell "_law_cell" (defScope s__law_cell) f cdv A outer s H E).nox (defBody s__law_cell) t } := ⟨_, (pss_cons (ps_if (pt_cmpR op_lt (pv 1) (pe_callB (call_lenK (K := K)) (by rfl) B.z_len (by decide +kernel) (pa_cons (pv 0) pa_nil)) (nomark _)) (pss_one (ps_ret (pe_ix (ix_listK (K := K)) (pv 0) (pv 1) (fun _ _ => rfl)))) pss_nil)
      (pss_one (ps_ret pe_int)))⟩
/-- _law_mixed -/
noncomputable def rd__law_mixed {f : Addr} {cdv : Value} {A : Around} {outer : List Env} {s : Shared} {H : Hp} {E : XK} (B : Bi mg) (hr : Room 0 (A.deeper (envOfC "_law_mixed" (defScope s__law_mixed) s.heap.objs.size f cdv))) : { t : TS // PSs (cxOf CX0 P w K mg base N__law_mixed "_law_mixed" (defScope s__law_mixed) f cdv A outer s H E).nox (defBody s__law_mixed) t } := ⟨_, (pss_cons (ps_set (i := 2) sc__law_mixed.nd rfl (by first | exact Or.inl rfl | exact Or.inr rfl) (pe_op op_mod (pe_op op_mul (pe_op op_add (pv 0) (pe_op op_mul pe_int (pv 1))) pe_int) pe_int))
      (pss_one (ps_ret (pe_op op_mod (pe_op op_mul (pv 2) (pe_op op_add (pe_op op_add (pv 2) (pe_op op_mul pe_int (pv 1))) pe_int)) pe_int))))⟩
/-- _law_reading -/
noncomputable def rd__law_reading {f : Addr} {cdv : Value} {A : Around} {outer : List Env} {s : Shared} {H : Hp} {E : XK} (B : Bi mg) (hr : Room 1 (A.deeper (envOfC "_law_reading" (defScope s__law_reading) s.heap.objs.size f cdv))) (c__law_mixed : CalK P w K mg base 1 "_law_mixed" spMixed) : { t : TS // PSs (cxOf CX0 P w K mg base N__law_reading "_law_reading" (defScope s__law_reading) f cdv A outer s H E).nox (defBody s__law_reading) t } := ⟨_, (pss_cons (ps_set (i := 1) sc__law_reading.nd rfl (by first | exact Or.inl rfl | exact Or.inr rfl) (pe_k c__law_mixed hr (by decide) (by rfl) (pa_cons (pv 0) (pa_cons pe_int pa_nil))))
      (pss_cons (ps_if (pt_cmpR op_eq (pe_op op_mod (pv 1) pe_int) pe_int (nomark _)) (pss_one (ps_ret (pe_op op_sub (pe_op op_mod (pe_op op_fdiv (pv 1) pe_int) pe_int) pe_int))) pss_nil)
      (pss_cons (ps_if (pt_cmpR op_eq (pe_op op_mod (pv 1) pe_int) pe_int (nomark _)) (pss_one (ps_ret (pe_op op_sub (pe_op op_mod (pe_op op_fdiv (pv 1) pe_int) pe_int) pe_int))) pss_nil)
      (pss_cons (ps_if (pt_cmpR op_eq (pe_op op_mod (pe_op op_fdiv (pv 1) pe_int) pe_int) pe_int (nomark _)) (pss_one (ps_ret (pe_ix (ix_listK (K := K)) (pe_lst (pa_cons (pe_op op_pow pe_int pe_int) (pa_cons (pe_un un_neg (pe_op op_pow pe_int pe_int)) pa_nil))) (pe_op op_mod (pe_op op_fdiv (pv 1) pe_int) pe_int) (fun _ _ => rfl)))) pss_nil)
      (pss_one (ps_ret (pe_op op_sub (pe_op op_mod (pe_op op_mul (pv 1) (pv 1)) (pe_op op_add (pe_op op_mul pe_int (pe_op op_pow pe_int pe_int)) pe_int)) (pe_op op_pow pe_int pe_int))))))))⟩
/-- _law_whole -/
noncomputable def rd__law_whole {f : Addr} {cdv : Value} {A : Around} {outer : List Env} {s : Shared} {H : Hp} {E : XK} (B : Bi mg) (hr : Room 0 (A.deeper (envOfC "_law_whole" (defScope s__law_whole) s.heap.objs.size f cdv))) : { t : TS // PSs (cxOf CX0 P w K mg base N__law_whole "_law_whole" (defScope s__law_whole) f cdv A outer s H E).nox (defBody s__law_whole) t } := ⟨_, (pss_one (ps_ret (pe_and (pe_callB (call_isiK1 (K := K)) (by rfl) B.z_isinstance (by decide +kernel) (pa_cons (pv 0) (pa_cons (pe_bltn (v := .ty "int") (by rfl) B.z_int (by decide +kernel) rfl) pa_nil))) (pe_and (pe_not (pe_callB (call_isiK1 (K := K)) (by rfl) B.z_isinstance (by decide +kernel) (pa_cons (pv 0) (pa_cons (pe_bltn (v := .ty "bool") (by rfl) B.z_bool (by decide +kernel) rfl) pa_nil)))) (pe_one (pe_cmpR op_eq (pv 0) (pv 1) (nomark _)))))))⟩
/-- _law_row -/
noncomputable def rd__law_row {f : Addr} {cdv : Value} {A : Around} {outer : List Env} {s : Shared} {H : Hp} {E : XK} (B : Bi mg) (hr : Room 2 (A.deeper (envOfC "_law_row" (defScope s__law_row) s.heap.objs.size f cdv))) (c__law_cell : CalK P w K mg base 1 "_law_cell" (spCell K)) (c__law_reading : CalK P w K mg base 2 "_law_reading" spReading) : { t : TS // PSs (cxOf CX0 P w K mg base N__law_row "_law_row" (defScope s__law_row) f cdv A outer s H E).nox (defBody s__law_row) t } := ⟨_, (pss_one (ps_ret (pe_callB (cr_sortedK (K := K)) (by rfl) B.z_sorted (by decide +kernel) (pa_cons (pe_lc (own := [("_law_k", 3)]) rfl sc__law_row.nd (pi_range1 (by rfl) B.z_range (pa_cons (pe_op op_mod (pv 2) pe_int) pa_nil)) (blkOk_by (own := [("_law_k", 3)]) (N := N__law_row) (sc := defScope s__law_row) (by decide +kernel)) (fun _ _ _ _ _ => (pg_name (i := 3) sc__law_row.nd rfl (by first | exact Or.inl rfl | exact Or.inr rfl))) (fun _ _ _ _ _ => pts_nil) (fun _ _ _ _ _ => (pe_k c__law_reading hr (by decide) (by rfl) (pa_cons (pe_k c__law_cell hr (by decide) (by rfl) (pa_cons (pv 0) (pa_cons (pe_op op_add (pv 1) (pv 3)) pa_nil))) pa_nil)))) pa_nil))))⟩
/-- _law_some -/
noncomputable def rd__law_some {f : Addr} {cdv : Value} {A : Around} {outer : List Env} {s : Shared} {H : Hp} {E : XK} (B : Bi mg) (hr : Room 1 (A.deeper (envOfC "_law_some" (defScope s__law_some) s.heap.objs.size f cdv))) (c__law_mixed : CalK P w K mg base 1 "_law_mixed" spMixed) : { t : TS // PSs (cxOf CX0 P w K mg base N__law_some "_law_some" (defScope s__law_some) f cdv A outer s H E).nox (defBody s__law_some) t } := ⟨_, (pss_cons (ps_set (i := 2) sc__law_some.nd rfl (by first | exact Or.inl rfl | exact Or.inr rfl) (pe_lst pa_nil))
      (pss_cons (ps_for PassesOwn.never rfl (pi_enum (by rfl) B.z_enumerate (pa_cons (pv 0) pa_nil)) (pg_tupK (K := K) (n := 2) rfl (pgs_cons (pg_name (i := 3) sc__law_some.nd rfl (by first | exact Or.inl rfl | exact Or.inr rfl)) (pgs_cons (pg_name (i := 4) sc__law_some.nd rfl (by first | exact Or.inl rfl | exact Or.inr rfl)) pgs_nil))) (pss_cons (ps_set (i := 5) sc__law_some.nd rfl (by first | exact Or.inl rfl | exact Or.inr rfl) (pe_k c__law_mixed hr (by decide) (by rfl) (pa_cons (pv 1) (pa_cons (pv 3) pa_nil))))
      (pss_one (ps_if (pt_cmpR op_gt (pe_op op_mod (pv 5) pe_int) pe_int (nomark _)) (pss_one (ps_expr (pe_bm PySem.F.plainAttrs_list PySem.F.slot_list_append PySem.F.type_list_append mt_append (pv 2) (pa_cons (pe_tup (pa_cons (pv 4) (pa_cons (pe_op op_sub (pv 3) (pe_op op_mod (pe_op op_fdiv (pv 5) pe_int) pe_int)) (pa_cons (pe_op op_add (pv 3) (pe_op op_mod (pe_op op_fdiv (pv 5) pe_int) pe_int)) pa_nil)))) pa_nil)))) pss_nil))))
      (pss_one (ps_ret (pv 2)))))⟩
/-- _law_counted -/
noncomputable def rd__law_counted {f : Addr} {cdv : Value} {A : Around} {outer : List Env} {s : Shared} {H : Hp} {E : XK} (B : Bi mg) (hr : Room 0 (A.deeper (envOfC "_law_counted" (defScope s__law_counted) s.heap.objs.size f cdv))) : { t : TS // PSs (cxOf CX0 P w K mg base N__law_counted "_law_counted" (defScope s__law_counted) f cdv A outer s H E).nox (defBody s__law_counted) t } := ⟨_, (pss_cons (ps_asg (pv 0) (pg_tupK (K := K) (n := 3) rfl (pgs_cons (pg_name (i := 3) sc__law_counted.nd rfl (by first | exact Or.inl rfl | exact Or.inr rfl)) (pgs_cons (pg_name (i := 4) sc__law_counted.nd rfl (by first | exact Or.inl rfl | exact Or.inr rfl)) (pgs_cons (pg_name (i := 5) sc__law_counted.nd rfl (by first | exact Or.inl rfl | exact Or.inr rfl)) pgs_nil)))))
      (pss_cons (ps_setLc (i := 6) (own := [("_law_one", 8)]) rfl sc__law_counted.nd rfl rfl (sw_true rfl rfl rfl (by decide +kernel)) (pi_listK (K := K) (pv 1)) (blkOk_by (own := [("_law_one", 8)]) (N := N__law_counted) (sc := defScope s__law_counted) (by decide +kernel)) (fun _ _ _ _ _ => (pg_name (i := 8) sc__law_counted.nd rfl (by first | exact Or.inl rfl | exact Or.inr rfl))) (fun _ _ _ _ _ => (pts_one (pt_cmpR op_le (pe_ix (ix_tupK (K := K)) (pv 8) pe_int (fun _ _ => rfl)) (pv 3) (nomark _)))) (fun _ _ _ _ _ => (pv 8)))
      (pss_cons (ps_setLc (i := 7) (own := [("_law_one", 8)]) rfl sc__law_counted.nd rfl rfl (sw_true rfl rfl rfl (by decide +kernel)) (pi_listK (K := K) (pv 1)) (blkOk_by (own := [("_law_one", 8)]) (N := N__law_counted) (sc := defScope s__law_counted) (by decide +kernel)) (fun _ _ _ _ _ => (pg_name (i := 8) sc__law_counted.nd rfl (by first | exact Or.inl rfl | exact Or.inr rfl))) (fun _ _ _ _ _ => (pts_one (pt_cmpR op_ge (pe_ix (ix_tupK (K := K)) (pv 8) pe_int (fun _ _ => rfl)) (pv 3) (nomark _)))) (fun _ _ _ _ _ => (pv 8)))
      (pss_cons (ps_if (pt_truth (pv 6) (by intro _; rfl)) (pss_one (ps_set (i := 4) sc__law_counted.nd rfl (by first | exact Or.inl rfl | exact Or.inr rfl) (pe_op op_add (pe_op op_add (pv 4) (pe_ix (ix_tupK (K := K)) (pe_ix (ix_listK (K := K)) (pv 6) (pe_un un_neg pe_int) (fun _ _ => rfl)) pe_int (fun _ _ => rfl))) pe_int))) pss_nil)
      (pss_cons (ps_if (pt_truth (pv 7) (by intro _; rfl)) (pss_one (ps_ret (pe_tup (pa_cons (pv 3) (pa_cons (pv 4) (pa_cons (pe_op op_add (pv 5) (pe_ix (ix_tupK (K := K)) (pe_ix (ix_listK (K := K)) (pv 7) pe_int (fun _ _ => rfl)) pe_int (fun _ _ => rfl))) pa_nil)))))) pss_nil)
      (pss_one (ps_ret (pe_tup (pa_cons (pv 3) (pa_cons (pv 4) (pa_cons (pe_op op_add (pv 5) (pv 2)) pa_nil)))))))))))⟩
/-- _law_due -/
noncomputable def rd__law_due {f : Addr} {cdv : Value} {A : Around} {outer : List Env} {s : Shared} {H : Hp} {E : XK} (B : Bi mg) (hr : Room 1 (A.deeper (envOfC "_law_due" (defScope s__law_due) s.heap.objs.size f cdv))) (c__law_counted : CalK P w K mg base 1 "_law_counted" (spCounted K)) : { t : TS // PSs (cxOf CX0 P w K mg base N__law_due "_law_due" (defScope s__law_due) f cdv A outer s H E).nox (defBody s__law_due) t } := ⟨_, (pss_cons (ps_setLc (i := 4) (own := [("_law_one", 7)]) rfl sc__law_due.nd rfl rfl (sw_true rfl rfl rfl (by decide +kernel)) (pi_listK (K := K) (pv 0)) (blkOk_by (own := [("_law_one", 7)]) (N := N__law_due) (sc := defScope s__law_due) (by decide +kernel)) (fun _ _ _ _ _ => (pg_name (i := 7) sc__law_due.nd rfl (by first | exact Or.inl rfl | exact Or.inr rfl))) (fun _ _ _ _ _ => pts_nil) (fun _ _ _ _ _ => (pe_k c__law_counted hr (by decide) (by rfl) (pa_cons (pv 7) (pa_cons (pv 2) (pa_cons (pv 3) pa_nil))))))
      (pss_cons (ps_for PassesOwn.never rfl (pi_listK (K := K) (pv 2)) (pg_name (i := 5) sc__law_due.nd rfl (by first | exact Or.inl rfl | exact Or.inr rfl)) (pss_cons (ps_set (i := 6) sc__law_due.nd rfl (by first | exact Or.inl rfl | exact Or.inr rfl) (pe_callB (call_lenK (K := K)) (by rfl) B.z_len (by decide +kernel) (pa_cons (pe_lc (own := [("_law_one", 7)]) rfl sc__law_due.nd (pi_listK (K := K) (pv 4)) (blkOk_by (own := [("_law_one", 7)]) (N := N__law_due) (sc := defScope s__law_due) (by decide +kernel)) (fun _ _ _ _ _ => (pg_name (i := 7) sc__law_due.nd rfl (by first | exact Or.inl rfl | exact Or.inr rfl))) (fun _ _ _ _ _ => (pts_one (pt_cmpR op_le (pe_ix (ix_tupK (K := K)) (pv 7) pe_int (fun _ _ => rfl)) (pe_ix (ix_tupK (K := K)) (pv 5) pe_int (fun _ _ => rfl)) (nomark _)))) (fun _ _ _ _ _ => (pv 7))) pa_nil)))
      (pss_one (ps_expr (pe_bm PySem.F.plainAttrs_list PySem.F.slot_list_insert PySem.F.type_list_insert mt_insert (pv 4) (pa_cons (pv 6) (pa_cons (pe_k c__law_counted hr (by decide) (by rfl) (pa_cons (pv 5) (pa_cons (pv 0) (pa_cons (pv 1) pa_nil)))) pa_nil)))))))
      (pss_one (ps_ret (pv 4)))))⟩
/-- _law_like -/
noncomputable def rd__law_like {f : Addr} {cdv : Value} {A : Around} {outer : List Env} {s : Shared} {H : Hp} {E : XK} (B : Bi mg) (hr : Room 1 (A.deeper (envOfC "_law_like" (defScope s__law_like) s.heap.objs.size f cdv))) (c__law_whole : CalK P w K mg base 1 "_law_whole" spWhole) : { t : TS // PSs (cxOf CX0 P w K mg base N__law_like "_law_like" (defScope s__law_like) f cdv A outer s H E).nox (defBody s__law_like) t } := ⟨_, (pss_cons (ps_if (PW.pt (pw_or (pt_not (pt_val (pe_callB (call_isiK1 (K := K)) (by rfl) B.z_isinstance (by decide +kernel) (pa_cons (pv 0) (pa_cons (pe_bltn (v := .ty "list") (by rfl) B.z_list (by decide +kernel) rfl) pa_nil))))) (pw_or1 (pt_cmpR op_ne (pe_callB (call_lenK (K := K)) (by rfl) B.z_len (by decide +kernel) (pa_cons (pv 0) pa_nil)) (pe_callB (call_lenK (K := K)) (by rfl) B.z_len (by decide +kernel) (pa_cons (pv 1) pa_nil)) (nomark _))))) (pss_one (ps_ret pe_bl)) pss_nil)
      (pss_cons (ps_for PassesOwn.never rfl (pi_zip (by rfl) B.z_zip (pa_cons (pv 0) (pa_cons (pv 1) pa_nil))) (pg_tupK (K := K) (n := 2) rfl (pgs_cons (pg_name (i := 2) sc__law_like.nd rfl (by first | exact Or.inl rfl | exact Or.inr rfl)) (pgs_cons (pg_name (i := 3) sc__law_like.nd rfl (by first | exact Or.inl rfl | exact Or.inr rfl)) pgs_nil))) (pss_cons (ps_if (PW.pt (pw_or (pt_not (pt_val (pe_callB (call_isiK1 (K := K)) (by rfl) B.z_isinstance (by decide +kernel) (pa_cons (pv 2) (pa_cons (pe_bltn (v := .ty "tuple") (by rfl) B.z_tuple (by decide +kernel) rfl) pa_nil))))) (pw_or1 (pt_cmpR op_ne (pe_callB (call_lenK (K := K)) (by rfl) B.z_len (by decide +kernel) (pa_cons (pv 2) pa_nil)) pe_int (nomark _))))) (pss_one (ps_ret pe_bl)) pss_nil)
      (pss_one (ps_if (pt_not (pt_val (pe_callB (cr_allK (K := K) rfl) (by rfl) B.z_all (by decide +kernel) (pa_cons (pe_lc (own := [("_law_number", 4), ("_law_wanted", 5)]) rfl sc__law_like.nd (RZ.pi_zipA (by rfl) B.z_zip (pa_cons (pv 2) (pa_cons (pv 3) pa_nil))) (blkOk_by (own := [("_law_number", 4), ("_law_wanted", 5)]) (N := N__law_like) (sc := defScope s__law_like) (by decide +kernel)) (fun _ _ _ _ _ => (pg_tupK (K := K) (n := 2) rfl (pgs_cons (pg_name (i := 4) sc__law_like.nd rfl (by first | exact Or.inl rfl | exact Or.inr rfl)) (pgs_cons (pg_name (i := 5) sc__law_like.nd rfl (by first | exact Or.inl rfl | exact Or.inr rfl)) pgs_nil)))) (fun _ _ _ _ _ => pts_nil) (fun _ _ _ _ _ => (pe_k c__law_whole hr (by decide) (by rfl) (pa_cons (pv 4) (pa_cons (pv 5) pa_nil))))) pa_nil)))) (pss_one (ps_ret pe_bl)) pss_nil))))
      (pss_one (ps_ret pe_bl))))⟩
/-- _law_true -/
noncomputable def rd__law_true {f : Addr} {cdv : Value} {A : Around} {outer : List Env} {s : Shared} {H : Hp} {E : XK} (B : Bi mg) (hr : Room 0 (A.deeper (envOfC "_law_true" (defScope s__law_true) s.heap.objs.size f cdv))) : { t : TS // PSs (cxOf CX0 P w K mg base N__law_true "_law_true" (defScope s__law_true) f cdv A outer s H E).nox (defBody s__law_true) t } := ⟨_, (pss_cons (ps_for PassesOwn.never rfl (pi_listK (K := K) (pv 0)) (pg_tupK (K := K) (n := 3) rfl (pgs_cons (pg_name (i := 2) sc__law_true.nd rfl (by first | exact Or.inl rfl | exact Or.inr rfl)) (pgs_cons (pg_name (i := 3) sc__law_true.nd rfl (by first | exact Or.inl rfl | exact Or.inr rfl)) (pgs_cons (pg_name (i := 4) sc__law_true.nd rfl (by first | exact Or.inl rfl | exact Or.inr rfl)) pgs_nil)))) (pss_cons (ps_if (pt_cmpR op_gt (pv 3) (pe_op op_sub (pe_callB (call_lenK (K := K)) (by rfl) B.z_len (by decide +kernel) (pa_cons (pe_lc (own := [("_law_one", 5)]) rfl sc__law_true.nd (pi_listK (K := K) (pv 1)) (blkOk_by (own := [("_law_one", 5)]) (N := N__law_true) (sc := defScope s__law_true) (by decide +kernel)) (fun _ _ _ _ _ => (pg_name (i := 5) sc__law_true.nd rfl (by first | exact Or.inl rfl | exact Or.inr rfl))) (fun _ _ _ _ _ => (pts_one (pt_cmpR op_le (pv 5) (pv 2) (nomark _)))) (fun _ _ _ _ _ => (pv 5))) pa_nil)) pe_int) (nomark _)) (pss_one (ps_ret pe_bl)) pss_nil)
      (pss_one (ps_if (pt_cmpR op_lt (pv 4) (pe_callB (call_lenK (K := K)) (by rfl) B.z_len (by decide +kernel) (pa_cons (pe_lc (own := [("_law_one", 5)]) rfl sc__law_true.nd (pi_listK (K := K) (pv 1)) (blkOk_by (own := [("_law_one", 5)]) (N := N__law_true) (sc := defScope s__law_true) (by decide +kernel)) (fun _ _ _ _ _ => (pg_name (i := 5) sc__law_true.nd rfl (by first | exact Or.inl rfl | exact Or.inr rfl))) (fun _ _ _ _ _ => (pts_one (pt_cmpR op_lt (pv 5) (pv 2) (nomark _)))) (fun _ _ _ _ _ => (pv 5))) pa_nil)) (nomark _)) (pss_one (ps_ret pe_bl)) pss_nil))))
      (pss_one (ps_ret pe_bl)))⟩
/-- law -/
noncomputable def rd_law {f : Addr} {cdv : Value} {A : Around} {outer : List Env} {s : Shared} {H : Hp} {E : XK} (B : Bi mg) (hr : Room 5 (A.deeper (envOfC "law" (defScope s_law) s.heap.objs.size f cdv))) (c__law_cell : CalK P w K mg base 1 "_law_cell" (spCell K)) (c__law_row : CalK P w K mg base 3 "_law_row" (spRow K)) (c__law_some : CalK P w K mg base 2 "_law_some" (spSome K)) (c_joined : CalK P w K mg base 5 "joined" (spJoined K (TL P_joined))) (c__law_due : CalK P w K mg base 2 "_law_due" (spDue K)) (c__law_like : CalK P w K mg base 2 "_law_like" (spLike K)) (c__law_true : CalK P w K mg base 1 "_law_true" (spTrue K)) : { t : TS // PSs (cxOf CX0 P w K mg base N_law "law" (defScope s_law) f cdv A outer s H E).nox (defBody s_law) t } := ⟨_, (pss_cons (ps_set (i := 1) sc_law.nd rfl (by first | exact Or.inl rfl | exact Or.inr rfl) (pe_k c__law_cell hr (by decide) (by rfl) (pa_cons (pv 0) (pa_cons pe_int pa_nil))))
      (pss_cons (ps_set (i := 2) sc_law.nd rfl (by first | exact Or.inl rfl | exact Or.inr rfl) (pe_k c__law_row hr (by decide) (by rfl) (pa_cons (pv 0) (pa_cons pe_int (pa_cons (pv 1) pa_nil)))))
      (pss_cons (ps_set (i := 3) sc_law.nd rfl (by first | exact Or.inl rfl | exact Or.inr rfl) (pe_k c__law_row hr (by decide) (by rfl) (pa_cons (pv 0) (pa_cons pe_int (pa_cons (pe_op op_fdiv (pv 1) pe_int) pa_nil)))))
      (pss_cons (ps_set (i := 4) sc_law.nd rfl (by first | exact Or.inl rfl | exact Or.inr rfl) (pe_k c__law_some hr (by decide) (by rfl) (pa_cons (pv 2) (pa_cons (pe_k c__law_cell hr (by decide) (by rfl) (pa_cons (pv 0) (pa_cons pe_int pa_nil))) pa_nil))))
      (pss_cons (ps_set (i := 5) sc_law.nd rfl (by first | exact Or.inl rfl | exact Or.inr rfl) (pe_k c__law_some hr (by decide) (by rfl) (pa_cons (pv 3) (pa_cons (pe_k c__law_cell hr (by decide) (by rfl) (pa_cons (pv 0) (pa_cons pe_int pa_nil))) pa_nil))))
      (pss_cons (ps_set (i := 6) sc_law.nd rfl (by first | exact Or.inl rfl | exact Or.inr rfl) (pe_lst (pa_cons (pe_callTy (call_listK (K := K)) (by rfl) B.z_list (by decide +kernel) (pa_cons (pv 4) pa_nil)) (pa_cons (pe_callTy (call_listK (K := K)) (by rfl) B.z_list (by decide +kernel) (pa_cons (pv 5) pa_nil)) pa_nil))))
      (pss_cons (ps_for PassesOwn.never rfl (pi_range1 (by rfl) B.z_range (pa_cons pe_int pa_nil)) (pg_name (i := 7) sc_law.nd rfl (by first | exact Or.inl rfl | exact Or.inr rfl)) (pss_cons (ps_set (i := 8) sc_law.nd rfl (by first | exact Or.inl rfl | exact Or.inr rfl) (pe_k c_joined hr (by decide) (by rfl) (pa_cons (pe_ix (ix_listK (K := K)) (pv 6) pe_int (fun _ _ => rfl)) (pa_cons (pe_callB (call_lenK (K := K)) (by rfl) B.z_len (by decide +kernel) (pa_cons (pv 2) pa_nil)) (pa_cons (pe_ix (ix_listK (K := K)) (pv 6) pe_int (fun _ _ => rfl)) (pa_cons (pe_callB (call_lenK (K := K)) (by rfl) B.z_len (by decide +kernel) (pa_cons (pv 3) pa_nil)) pa_nil))))))
      (pss_cons (ps_set (i := 9) sc_law.nd rfl (by first | exact Or.inl rfl | exact Or.inr rfl) (pe_k c__law_due hr (by decide) (by rfl) (pa_cons (pv 4) (pa_cons (pe_callB (call_lenK (K := K)) (by rfl) B.z_len (by decide +kernel) (pa_cons (pv 2) pa_nil)) (pa_cons (pv 5) (pa_cons (pe_callB (call_lenK (K := K)) (by rfl) B.z_len (by decide +kernel) (pa_cons (pv 3) pa_nil)) pa_nil))))))
      (pss_cons (ps_set (i := 10) sc_law.nd rfl (by first | exact Or.inl rfl | exact Or.inr rfl) (pe_k c_joined hr (by decide) (by rfl) (pa_cons (pe_ix (ix_listK (K := K)) (pv 6) pe_int (fun _ _ => rfl)) (pa_cons (pe_callB (call_lenK (K := K)) (by rfl) B.z_len (by decide +kernel) (pa_cons (pv 3) pa_nil)) (pa_cons (pe_ix (ix_listK (K := K)) (pv 6) pe_int (fun _ _ => rfl)) (pa_cons (pe_callB (call_lenK (K := K)) (by rfl) B.z_len (by decide +kernel) (pa_cons (pv 2) pa_nil)) pa_nil))))))
      (pss_cons (ps_if (PW.pt (pw_or (pt_not (pt_val (pe_k c__law_like hr (by decide) (by rfl) (pa_cons (pv 8) (pa_cons (pv 9) pa_nil))))) (pw_or1 (pt_not (pt_val (pe_k c__law_true hr (by decide) (by rfl) (pa_cons (pv 8) (pa_cons (pe_op op_cat (pv 2) (pv 3)) pa_nil)))))))) (pss_one (ps_ret pe_bl)) pss_nil)
      (pss_cons (ps_if (PW.pt (pw_or (pt_not (pt_val (pe_k c__law_like hr (by decide) (by rfl) (pa_cons (pv 10) (pa_cons (pe_k c__law_due hr (by decide) (by rfl) (pa_cons (pv 5) (pa_cons (pe_callB (call_lenK (K := K)) (by rfl) B.z_len (by decide +kernel) (pa_cons (pv 3) pa_nil)) (pa_cons (pv 4) (pa_cons (pe_callB (call_lenK (K := K)) (by rfl) B.z_len (by decide +kernel) (pa_cons (pv 2) pa_nil)) pa_nil))))) pa_nil))))) (pw_or1 (pt_cmpR (op_neDK (K := K) hr.units) (pv 6) (pe_lst (pa_cons (pv 4) (pa_cons (pv 5) pa_nil))) (nomark _))))) (pss_one (ps_ret pe_bl)) pss_nil)
      (pss_cons (ps_expr (pe_bm0 PySem.F.plainAttrs_list PySem.F.slot_list_clear PySem.F.type_list_clear mt_clear (pv 8)))
      (pss_one (ps_expr (pe_bm PySem.F.plainAttrs_list PySem.F.slot_list_append PySem.F.type_list_append mt_append (pv 10) (pa_cons (pe_tup (pa_cons pe_int (pa_cons pe_int (pa_cons pe_int pa_nil)))) pa_nil)))))))))))
      (pss_one (ps_ret pe_bl)))))))))⟩
end
end K02

namespace K02
open PySem PySem.Spec PyProof.Rows L2 Own LamX
local macro_rules | `(tactic| walk_at "i") => `(tactic| first
  | refine ⟨_, rfl, ?_⟩
  | refine ⟨_, _, rfl, rfl, (by show (0 : Int) < _; decide), ?_⟩
  | refine ⟨_, _, rfl, rfl, ⟨by decide, by decide⟩, ?_⟩
  | refine ⟨_, _, rfl, rfl, ⟨by decide, by decide, by decide⟩, ?_⟩
  | refine ⟨_, _, rfl, rfl, .inr ⟨by decide, by decide⟩, ?_⟩
  | refine ⟨_, _, rfl, rfl, .inl ⟨by decide, by decide⟩, ?_⟩
  | refine ⟨_, _, rfl, rfl, ?_⟩)
theorem same_upd {H : Hp} {p : Addr} {o : HO} (h : H p = none) : Same H (upd H p o) := fun b x e => by
  rw [upd_ne (ne_of_none e h)]
  exact e
theorem same_mut {H H' : Hp} {p : Addr} {o : HO} (s : Same H H') (h : H p = none) : Same H (upd H' p o) := fun b x e => by
  rw [upd_ne (ne_of_none e h)]
  exact s _ _ e
section
variable {P : Program} {w : World} {K : PySem.W.Frag} {mg : Str → Option Value} {base : Heap} {f : Addr} {fd : FuncData}
theorem ok_cell (F : Fun K "_law_cell" "_law_cell" s__law_cell f fd) (B : Bi mg) : FnOk P w K mg base CX0 1 f fd ["_law_script", "_law_k"] (spCell K) := by
  refine F.ok sc__law_cell (fun vs H Q E h => ?_) (fun cdv A outer s H vs Q E hr h => ⟨_, (rd__law_cell B hr).2, ?_⟩)
  · obtain ⟨a, ns, k, rfl, _⟩ := h
    rfl
  · obtain ⟨a, ns, k, rfl, hS, q⟩ := h
    refine ⟨_, rfl, _, rfl, a, _, rfl, .inl hS, ?_⟩
    refine ⟨_, _, rfl, rfl, _, rfl, ite2 (fun c => ?_) (fun c => ?_)⟩
    · have c' : (k : Int) < ((ns.map V.int).length : Int) := of_decide_eq_true c
      rw [List.length_map] at c'
      have hk : k < ns.length := by omega
      refine ⟨_, rfl, _, rfl, a, _, _, .int (cellOf ns k), rfl, rfl, hS, atI_nat ?_, q⟩
      rw [List.getElem?_map, List.getElem?_eq_getElem hk]
      simp [cellOf, List.getD, List.getElem?_eq_getElem hk]
    · have c' : ¬ (k : Int) < ((ns.map V.int).length : Int) := fun z => c (decide_eq_true z)
      rw [List.length_map] at c'
      have e : cellOf ns k = 0 := by
        unfold cellOf
        rw [List.getD_eq_getElem?_getD, List.getElem?_eq_none (by omega)]
        rfl
      rw [e] at q
      exact q
theorem ok_mixed (F : Fun K "_law_mixed" "_law_mixed" s__law_mixed f fd) (B : Bi mg) : FnOk P w K mg base CX0 1 f fd ["_law_cell_here", "_law_k"] spMixed := by
  refine F.ok sc__law_mixed (fun vs H Q E h => ?_) (fun cdv A outer s H vs Q E hr h => ⟨_, (rd__law_mixed B hr).2, ?_⟩)
  · obtain ⟨c, k, rfl, _⟩ := h
    rfl
  · obtain ⟨c, k, rfl, hk, q⟩ := h
    have h1 : 0 ≤ (c + 7919 * k) * 48271 % 2147483647 := Int.emod_nonneg _ (by decide)
    have h2 : (c + 7919 * k) * 48271 % 2147483647 < 2147483647 := Int.emod_lt_of_pos _ (by decide)
    iterate 12 walk_at "i"
    refine ⟨_, _, rfl, rfl, .inl ⟨?_, ?_⟩, ?_⟩
    · show -(2 ^ 64) < (c + 7919 * k) * 48271 % 2147483647
      omega
    · show (c + 7919 * k) * 48271 % 2147483647 < 2 ^ 64
      omega
    walk_at "i"
    exact q
theorem mixed_range (c k : Int) : 0 ≤ mixedOf c k ∧ mixedOf c k < 2147483629 := ⟨Int.emod_nonneg _ (by decide), Int.emod_lt_of_pos _ (by decide)⟩
theorem ok_reading (F : Fun K "_law_reading" "_law_reading" s__law_reading f fd) (B : Bi mg) (cm : CalK P w K mg base 1 "_law_mixed" spMixed) : FnOk P w K mg base CX0 2 f fd ["_law_cell_here"] spReading := by
  refine F.ok sc__law_reading (fun vs H Q E h => ?_) (fun cdv A outer s H vs Q E hr h => ⟨_, (rd__law_reading B hr cm).2, ?_⟩)
  · obtain ⟨c, rfl, _⟩ := h
    rfl
  · obtain ⟨c, rfl, q⟩ := h
    have hm := mixed_range c 1
    refine ⟨_, rfl, c, 1, rfl, by decide, ?_⟩
    generalize mixedOf c 1 = n at hm
    iterate 2 walk_at "i"
    refine ⟨rfl, _, rfl, ite2 (fun e => ?_) (fun e => ?_)⟩
    · iterate 4 walk_at "i"
      exact q H _ (Same.refl H)
    iterate 2 walk_at "i"
    refine ⟨rfl, _, rfl, ite2 (fun e => ?_) (fun e => ?_)⟩
    · iterate 4 walk_at "i"
      exact q H _ (Same.refl H)
    iterate 3 walk_at "i"
    refine ⟨rfl, _, rfl, ite2 (fun e => ?_) (fun e => ?_)⟩
    · iterate 3 walk_at "i"
      refine ⟨by show 2 ≤ sizeLine; decide, fun p hp => ?_⟩
      iterate 3 walk_at "i"
      rcases (show n / 27 % 2 = 0 ∨ n / 27 % 2 = 1 by omega) with z | z
      · exact ⟨p, _, _, _, rfl, rfl, .inl (.inl upd_same), at_of (j := 0) z rfl, q _ _ (same_upd hp)⟩
      · exact ⟨p, _, _, _, rfl, rfl, .inl (.inl upd_same), at_of (j := 1) z rfl, q _ _ (same_upd hp)⟩
    · iterate 2 walk_at "i"
      refine ⟨_, _, rfl, rfl, .inl ⟨by show -(2 ^ 64) < n; omega, by show n < 2 ^ 64; omega⟩, ?_⟩
      iterate 6 walk_at "i"
      exact q H _ (Same.refl H)
theorem ok_whole (F : Fun K "_law_whole" "_law_whole" s__law_whole f fd) (B : Bi mg) : FnOk P w K mg base CX0 1 f fd ["_law_found", "_law_due_here"] spWhole := by
  refine F.ok sc__law_whole (fun vs H Q E h => ?_) (fun cdv A outer s H vs Q E hr h => ⟨_, (rd__law_whole B hr).2, ?_⟩)
  · obtain ⟨i, j, rfl, _⟩ := h
    rfl
  · obtain ⟨i, j, rfl, q⟩ := h
    refine ⟨_, rfl, _, _, _, _, true, rfl, .ty _, .base (.int _), kit_ty (by decide +kernel), true, rfl, iteT ?_⟩
    refine ⟨_, rfl, _, _, _, _, false, rfl, .ty _, .base (.int _), kit_ty (by decide +kernel), _, rfl, true, rfl, iteT ?_⟩
    refine ⟨_, rfl, _, rfl, rfl, ?_⟩
    rw [show decide (V.int i = V.int j) = decide (i = j) from by rw [dec_int]; exact Bool.beq_eq_decide_eq i j]
    exact q
/-! the program's own -/
theorem ok_no_less (F : Fun K "_first_no_less" "_first_no_less" s__first_no_less f fd) (B : Bi mg) : FnOk P w K mg base CX0 1 f fd ["entries", "reading"] (spNoLess K) := by
  refine F.ok sc__first_no_less (fun vs H Q E h => ?_) (fun cdv A outer s H vs Q E hr h => ⟨_, (rd__first_no_less B hr).2, ?_⟩)
  · obtain ⟨a, xs, es, r, rfl, _⟩ := h
    rfl
  · obtain ⟨a, xs, es, r, rfl, ha, he, hrise, hlen, q⟩ := h
    have hl := he.length
    refine ⟨_, rfl, a, xs, rfl, .inl (.inl (.inl ha)), ?_⟩
    refine ⟨fun m σ H1 => ∃ lo hi : Nat, m = hi - lo ∧ lo ≤ hi ∧ hi ≤ es.length ∧ (∃ y, σ = [some (.ref a), some (.int r), some (.int (lo : Int)), some (.int (hi : Int)), y]) ∧ H1 = H ∧ (∀ i e, es[i]? = some e → i < lo → e.1 < r) ∧ (∀ i e, es[i]? = some e → hi ≤ i → r ≤ e.1),
      ⟨_, 0, es.length, rfl, Nat.zero_le _, Nat.le_refl _, ⟨none, by rw [← hl]; rfl⟩, rfl, fun i e _ h => absurd h (Nat.not_lt_zero i), fun i e h k => ?_⟩, ?_⟩
    · have := (List.getElem?_eq_some_iff.mp h).1
      omega
    · rintro m σ H1 ⟨lo, hi, rfl, hlh, hhl, ⟨y, rfl⟩, rfl, hlo, hhi⟩
      refine ⟨_, rfl, _, rfl, _, _, rfl, rfl, _, rfl, ite2 (fun c => ?_) (fun c => ?_)⟩
      · have c1 : (lo : Int) < (hi : Int) := of_decide_eq_true c
        refine ⟨_, fun σ' H' h => h, ?_⟩
        iterate 4 walk_at "i"
        have hm : ((lo : Int) + (hi : Int)) / 2 = (((lo + hi) / 2 : Nat) : Int) := by omega
        have hmi : (lo + hi) / 2 < es.length := by omega
        obtain ⟨v, hv, t, rfl, ht⟩ := eachIs_get2 he (List.getElem?_eq_getElem hmi)
        refine ⟨_, rfl, _, rfl, a, xs, _, _, rfl, rfl, .inl (.inl ha), at_of hm hv, ?_⟩
        refine ⟨t, _, _, _, rfl, rfl, .inl (.inl ht), atI_nat (j := 0) rfl, ?_⟩
        refine ⟨_, rfl, _, _, rfl, rfl, _, rfl, ite2 (fun c => ?_) (fun c => ?_)⟩
        · have c2 : es[(lo + hi) / 2].1 < r := of_decide_eq_true c
          iterate 2 walk_at "i"
          refine ⟨hi - ((lo + hi) / 2 + 1), by omega, (lo + hi) / 2 + 1, hi, rfl, by omega, hhl, ⟨some (.int (((lo : Int) + (hi : Int)) / 2)), ?_⟩, rfl, fun i e h k => ?_, hhi⟩
          · rw [show (((lo + hi) / 2 + 1 : Nat) : Int) = ((lo : Int) + (hi : Int)) / 2 + 1 by omega]
            rfl
          · have := rise_get hrise (show i ≤ (lo + hi) / 2 by omega) h (List.getElem?_eq_getElem hmi)
            omega
        · have c2 : ¬ es[(lo + hi) / 2].1 < r := fun z => c (decide_eq_true z)
          walk_at "i"
          refine ⟨(lo + hi) / 2 - lo, by omega, lo, (lo + hi) / 2, rfl, by omega, by omega, ⟨some (.int (((lo : Int) + (hi : Int)) / 2)), ?_⟩, rfl, hlo, fun i e h k => ?_⟩
          · rw [← hm]
            rfl
          · have := rise_get hrise k (List.getElem?_eq_getElem hmi) h
            omega
      · have c1 : ¬ (lo : Int) < (hi : Int) := fun z => c (decide_eq_true z)
        have : lo = hi := by omega
        subst this
        exact ⟨_, rfl, q lo ⟨hhl, hlo, hhi⟩⟩
end
end K02

namespace K02
open PySem PySem.Spec PyProof.Rows L2 Own LamX
local macro_rules | `(tactic| walk_at "i") => `(tactic| first
  | refine ⟨_, rfl, ?_⟩
  | refine ⟨_, _, rfl, rfl, (by show (0 : Int) < _; decide), ?_⟩
  | refine ⟨_, _, rfl, rfl, ⟨by decide, by decide⟩, ?_⟩
  | refine ⟨_, _, rfl, rfl, ⟨by decide, by decide, by decide⟩, ?_⟩
  | refine ⟨_, _, rfl, rfl, .inr ⟨by decide, by decide⟩, ?_⟩
  | refine ⟨_, _, rfl, rfl, .inl ⟨by decide, by decide⟩, ?_⟩
  | refine ⟨_, _, rfl, rfl, ?_⟩)
section
variable {P : Program} {w : World} {K : PySem.W.Frag} {mg : Str → Option Value} {base : Heap} {f : Addr} {fd : FuncData}
theorem ok_add_least (F : Fun K "_added_to_least" "_added_to_least" s__added_to_least f fd) (B : Bi mg) (cn : CalK P w K mg base 1 "_first_no_less" (spNoLess K)) : FnOk P w K mg base CX0 2 f fd ["reading", "others"] (spAddLeast K) := by
  refine F.ok sc__added_to_least (fun vs H Q E h => ?_) (fun cdv A outer s H vs Q E hr h => ⟨_, (rd__added_to_least B hr cn).2, ?_⟩)
  · obtain ⟨a, xs, es, r, rfl, _⟩ := h
    rfl
  · obtain ⟨a, xs, es, r, rfl, ha, he, hrise, hlen, q⟩ := h
    iterate 3 walk_at "i"
    refine ⟨a, xs, es, r + 1, rfl, ha, he, hrise, hlen, fun n c => ?_⟩
    have ea := addLeast_cut c
    have hle := c.le
    walk_at "i"
    refine ⟨rfl, _, rfl, ite2 (fun z => ?_) (fun z => ?_)⟩
    · have z1 : (n : Int) = 0 := V.int.inj (of_decide_eq_true z)
      have z2 : n = 0 := by omega
      subst z2
      have : addLeast es r = 0 := by
        rw [ea]
        split <;> rfl
      rw [this] at q
      exact q
    · have z1 : ¬ n = 0 := fun y => z (decide_eq_true (by rw [y]; rfl))
      have hn : n - 1 < es.length := by omega
      obtain ⟨v, hv, t, rfl, ht⟩ := eachIs_get2 he (List.getElem?_eq_getElem hn)
      iterate 3 walk_at "i"
      refine ⟨a, xs, _, _, rfl, rfl, .inl (.inl ha), at_of (j := n - 1) (by omega) hv, ?_⟩
      refine ⟨t, _, _, _, rfl, rfl, .inl (.inl ht), atI_nat (j := 1) rfl, ?_⟩
      refine ⟨_, _, rfl, rfl, ?_⟩
      rw [List.getElem?_eq_getElem hn] at ea
      simp only [if_neg z1] at ea
      rw [ea] at q
      exact q
theorem ok_add_most (F : Fun K "_added_to_most" "_added_to_most" s__added_to_most f fd) (B : Bi mg) (cn : CalK P w K mg base 1 "_first_no_less" (spNoLess K)) : FnOk P w K mg base CX0 2 f fd ["reading", "others", "more"] (spAddMost K) := by
  refine F.ok sc__added_to_most (fun vs H Q E h => ?_) (fun cdv A outer s H vs Q E hr h => ⟨_, (rd__added_to_most B hr cn).2, ?_⟩)
  · obtain ⟨a, xs, es, r, more, rfl, _⟩ := h
    rfl
  · obtain ⟨a, xs, es, r, more, rfl, ha, he, hrise, hlen, q⟩ := h
    iterate 2 walk_at "i"
    refine ⟨a, xs, es, r, rfl, ha, he, hrise, hlen, fun n c => ?_⟩
    have ea := addMost_cut (more := more) c
    have hle := c.le
    have hl := he.length
    iterate 2 walk_at "i"
    refine ⟨a, xs, rfl, .inl (.inl (.inl ha)), rfl, _, rfl, ite2 (fun z => ?_) (fun z => ?_)⟩
    · have z1 : (n : Int) = (xs.length : Int) := V.int.inj (of_decide_eq_true z)
      have z2 : es[n]? = none := List.getElem?_eq_none (by omega)
      rw [z2] at ea
      rw [ea] at q
      exact ⟨_, rfl, q⟩
    · have z1 : ¬ n = xs.length := fun y => z (decide_eq_true (by rw [y]))
      have hn : n < es.length := by omega
      obtain ⟨v, hv, t, rfl, ht⟩ := eachIs_get2 he (List.getElem?_eq_getElem hn)
      iterate 2 walk_at "i"
      refine ⟨a, xs, _, _, rfl, rfl, .inl (.inl ha), atI_nat (j := n) hv, ?_⟩
      refine ⟨t, _, _, _, rfl, rfl, .inl (.inl ht), atI_nat (j := 2) rfl, ?_⟩
      rw [List.getElem?_eq_getElem hn] at ea
      rw [ea] at q
      exact q
theorem liftE_get {es fs : List Ent} {more : Int} {i : Nat} {e : Ent} (h : es[i]? = some e) : (liftE es fs more)[i]? = some (e.1, e.2.1 + addLeast fs e.1, e.2.2 + addMost fs e.1 more) := by
  unfold liftE
  rw [List.getElem?_map, h]
  rfl
theorem ok_lifted (F : Fun K "_lifted" "_lifted" s__lifted f fd) (B : Bi mg) (cm : CalK P w K mg base 2 "_added_to_most" (spAddMost K)) (cl : CalK P w K mg base 2 "_added_to_least" (spAddLeast K)) : FnOk P w K mg base CX0 3 f fd ["entries", "others", "more"] (spLifted K) := by
  refine F.ok sc__lifted (fun vs H Q E h => ?_) (fun cdv A outer s H vs Q E hr h => ⟨_, (rd__lifted B hr cm cl).2, ?_⟩)
  · obtain ⟨a, b, xs, ys, es, fs, more, rfl, _⟩ := h
    rfl
  · obtain ⟨a, b, xs, ys, es, fs, more, rfl, ha, hb, he, hf, hrise, hlen, hlen2, q⟩ := h
    have hl := he.length
    refine ⟨_, rfl, a, rfl, ⟨xs, .inl (.inl ha)⟩, fun L hL => lc_list (xs := xs) (fun i H' => Same H H' ∧ ∃ zs, H' L = some (.lst zs) ∧ EntsAre H' zs ((liftE es fs more).take i)) ⟨same_upd hL, _, upd_same, .nil⟩ (fun i H' _ h => .inl (.inl (h.1 _ _ ha))) ?_ ?_⟩
    · rintro i x H1 hi ⟨s1, zs, hL1, hz⟩
      obtain ⟨e, hie, t, rfl, ht⟩ := eachIs_get he hi
      have ht1 := s1 _ _ ht
      refine ⟨t, _, rfl, .inl (.inl ht1), rfl, _, _, rfl, _, _, rfl, _, _, rfl, rfl, rfl, ?_⟩
      iterate 4 walk_at "i"
      refine ⟨b, ys, fs, e.1, rfl, s1 _ _ hb, hf.same s1, hrise, hlen2, ?_⟩
      iterate 5 walk_at "i"
      refine ⟨b, ys, fs, e.1, more, rfl, s1 _ _ hb, hf.same s1, hrise, hlen2, ?_⟩
      walk_at "i"
      refine ⟨by show 3 ≤ sizeLine; decide, fun u hu => ?_⟩
      have s2 := same_upd (o := .tup [.int e.1, .int (e.2.1 + addLeast fs e.1), .int (e.2.2 + addMost fs e.1 more)]) hu
      have hL2 := s2 _ _ hL1
      have hil : i < es.length := (List.getElem?_eq_some_iff.mp hie).1
      refine ⟨zs, hL2, ?_, same_mut (s1.trans s2) hL, _, upd_same, ?_⟩
      · rw [hz.length, List.length_take]
        exact Nat.lt_of_le_of_lt (Nat.min_le_left _ _) (small1000 (by omega))
      · rw [List.take_add_one, liftE_get hie]
        exact eachIs_snoc ((hz.same s2).upd hL2) (EntAt.upd hL2 ⟨u, rfl, upd_same⟩)
    · rintro H1 ⟨s1, zs, hL1, hz⟩
      rw [hl, List.take_of_length_le (by unfold liftE; rw [List.length_map]; exact Nat.le_refl _)] at hz
      exact q H1 L zs s1 hL hL1 hz
theorem liftE_length (es fs : List Ent) (more : Int) : (liftE es fs more).length = es.length := by
  unfold liftE
  rw [List.length_map]
end
end K02

namespace K02
open PySem PySem.Spec PyProof.Rows L2 Own LamX
local macro_rules | `(tactic| walk_at "i") => `(tactic| first
  | refine ⟨_, rfl, ?_⟩
  | refine ⟨_, _, rfl, rfl, (by show (0 : Int) < _; decide), ?_⟩
  | refine ⟨_, _, rfl, rfl, ⟨by decide, by decide⟩, ?_⟩
  | refine ⟨_, _, rfl, rfl, ⟨by decide, by decide, by decide⟩, ?_⟩
  | refine ⟨_, _, rfl, rfl, .inr ⟨by decide, by decide⟩, ?_⟩
  | refine ⟨_, _, rfl, rfl, .inl ⟨by decide, by decide⟩, ?_⟩
  | refine ⟨_, _, rfl, rfl, ?_⟩)
section
variable {P : Program} {w : World} {K : PySem.W.Frag} {mg : Str → Option Value} {base : Heap} {f : Addr} {fd : FuncData}
theorem ok_joined {c Pt : Addr} (F : FunC K "joined" "joined" s_joined f fd c) (TB : TabB base mg c Pt) (B : Bi mg) (cl : CalK P w K mg base 3 "_lifted" (spLifted K)) : FnOk P w K mg base CX0 5 f fd ["ones", "many", "others", "more"] (spJoined K (TL Pt)) := by
  refine F.ok sc_joined (fun vs H Q E h => ?_) (fun A outer s H vs Q E hr h => ⟨_, (rd_joined TB B hr cl).2, ?_⟩)
  · obtain ⟨a, b, xs, ys, es, fs, many, more, rfl, _⟩ := h
    rfl
  · obtain ⟨a, b, xs, ys, es, fs, many, more, rfl, hT, ha, hb, he, hf, hre, hrf, hle, hlf, q⟩ := h
    iterate 3 walk_at "i"
    refine ⟨a, b, xs, ys, es, fs, more, rfl, ha, hb, he, hf, hrf, hle, hlf, fun H1 p1 z1 s1 n1 e1 hz1 => ?_⟩
    iterate 3 walk_at "i"
    refine ⟨b, a, ys, xs, fs, es, many, rfl, s1 _ _ hb, s1 _ _ ha, hf.same s1, he.same s1, hre, hlf, hle, fun H2 p2 z2 s2 n2 e2 hz2 => ?_⟩
    have l1 := hz1.length
    have l2 := hz2.length
    rw [liftE_length] at l1 l2
    refine ⟨p1, p2, z1, z2, rfl, rfl, s2 _ _ e1, e2, ?_, fun p3 n3 => ?_⟩
    · rw [l1, l2]
      exact Nat.le_trans (Nat.add_le_add hle hlf) (by decide)
    have s3 := same_upd (o := .lst (z1 ++ z2)) n3
    have hz : EntsAre (upd H2 p3 (.lst (z1 ++ z2))) (z1 ++ z2) (liftE es fs more ++ liftE fs es many) := EntsAre.same s3 (eachIs_append (hz1.same s2) hz2)
    have s123 := (s1.trans s2).trans s3
    refine ⟨_, rfl, hT.ext s123, p3, z1 ++ z2, fstOf (upd H2 p3 (.lst (z1 ++ z2))), rfl, .inl (.inl upd_same), hz.fsts, fun H4 p4 e4 T4 n4 h4 => ?_⟩
    refine q H4 p4 _ ((ExtN.of s123).trans e4) T4 ?_ h4 (hz.sorted.ext e4)
    intro o e
    exact n4 o (s123 _ _ e)
end
end K02

namespace K02
open PySem PySem.Spec PyProof.Rows L2 Own LamX
local macro_rules | `(tactic| walk_at "i") => `(tactic| first
  | refine ⟨_, rfl, ?_⟩
  | refine ⟨_, _, rfl, rfl, (by show (0 : Int) < _; decide), ?_⟩
  | refine ⟨_, _, rfl, rfl, ⟨by decide, by decide⟩, ?_⟩
  | refine ⟨_, _, rfl, rfl, ⟨by decide, by decide, by decide⟩, ?_⟩
  | refine ⟨_, _, rfl, rfl, .inr ⟨by decide, by decide⟩, ?_⟩
  | refine ⟨_, _, rfl, rfl, .inl ⟨by decide, by decide⟩, ?_⟩
  | refine ⟨_, _, rfl, rfl, ?_⟩)
section
variable {P : Program} {w : World} {K : PySem.W.Frag} {mg : Str → Option Value} {base : Heap} {f : Addr} {fd : FuncData}
theorem ok_row (F : Fun K "_law_row" "_law_row" s__law_row f fd) (B : Bi mg) (cc : CalK P w K mg base 1 "_law_cell" (spCell K)) (cr : CalK P w K mg base 2 "_law_reading" spReading) : FnOk P w K mg base CX0 3 f fd ["_law_script", "_law_first", "_law_cell_here"] (spRow K) := by
  refine F.ok sc__law_row (fun vs H Q E h => ?_) (fun cdv A outer s H vs Q E hr h => ⟨_, (rd__law_row B hr cc cr).2, ?_⟩)
  · obtain ⟨a, ns, i, c, rfl, _⟩ := h
    rfl
  · obtain ⟨a, ns, fi, c, rfl, hS, q⟩ := h
    iterate 2 walk_at "i"
    refine ⟨_, rfl, by omega, by omega, fun L hL => lc_range (lo := 0) (n := (c % 15).toNat) (fun i H' => Same H H' ∧ ∃ row : List Int, H' L = some (.lst (row.map V.int)) ∧ row.length = i) ⟨same_upd hL, [], upd_same, rfl⟩ ?_ ?_⟩
    · rintro i H1 hi ⟨s1, row, hL1, hl⟩
      refine ⟨rfl, ?_⟩
      iterate 4 walk_at "i"
      refine ⟨a, ns, fi + i, congrArg (fun z => [V.ref a, V.int z]) (show (fi : Int) + (0 + (i : Int)) = ((fi + i : Nat) : Int) by omega), s1.seq hS, ?_⟩
      refine ⟨_, rfl, fun H2 r s2 => ?_⟩
      refine ⟨_, s2 _ _ hL1, ?_, same_mut (s1.trans s2) hL, row ++ [r], ?_, ?_⟩
      · rw [List.length_map]
        exact small1000 (by omega)
      · rw [upd_same, List.map_append]
        rfl
      · rw [List.length_append, hl]
        rfl
    · rintro H1 ⟨s1, row, hL1, hl⟩
      refine ⟨L, row, rfl, .inl (.inl hL1), fun ms p hp hs np => ?_⟩
      refine q _ p ms (s1.trans (same_upd np)) (s1.free np) upd_same ?_ hs
      rw [hp.length_eq, hl]
      omega
theorem ok_some (F : Fun K "_law_some" "_law_some" s__law_some f fd) (B : Bi mg) (cm : CalK P w K mg base 1 "_law_mixed" spMixed) : FnOk P w K mg base CX0 2 f fd ["_law_row_here", "_law_cell_here"] (spSome K) := by
  refine F.ok sc__law_some (fun vs H Q E h => ?_) (fun cdv A outer s H vs Q E hr h => ⟨_, (rd__law_some B hr cm).2, ?_⟩)
  · obtain ⟨a, row, c, rfl, _⟩ := h
    rfl
  · obtain ⟨a, row, c, rfl, ha, hlen, hsort, q⟩ := h
    refine ⟨by show 0 ≤ sizeLine; decide, fun L hL => ?_⟩
    refine ⟨_, rfl, a, row.map V.int, rfl, .inl (.inl (same_upd hL _ _ ha)), for_it (walk_enum (xs := row.map V.int))
      (fun i σ H1 => ∃ y3 y4 y5 xs es, σ = [some (.ref a), some (.int c), some (.ref L), y3, y4, y5] ∧ Same H H1 ∧ H1 L = some (.lst xs) ∧ EntsAre H1 xs es ∧ Rise es ∧ es.length ≤ i ∧ ∀ e ∈ es, ∃ p : Nat, p < i ∧ row[p]? = some e.1 ∧ e.2.1 ≤ (p : Int) ∧ (p : Int) ≤ e.2.2)
      ⟨none, none, none, [], [], rfl, same_upd hL, upd_same, .nil, List.Pairwise.nil, Nat.le_refl _, fun e he => nomatch he⟩ ?_ ?_ ?_⟩
    · rintro i σ H1 _ ⟨y3, y4, y5, xs, es, rfl, s1, _⟩
      exact .inl (.inl (s1 _ _ ha))
    · rintro i x σ H1 H2 hi ⟨y3, y4, y5, xs, es, rfl, s1, hL1, he, hr1, hl1, hp1⟩ ⟨T, x1, x2, rfl, hT, rfl, f1, f2⟩
      have g1 : x1 = .int (i : Int) := (Option.some.inj f1).symm
      subst g1
      rw [List.length_map] at hi
      have g2 : x2 = .int row[i] := by
        have f2 : (List.map V.int row)[i]? = some x2 := f2
        rw [List.getElem?_map, List.getElem?_eq_getElem hi] at f2
        exact (Option.some.inj f2).symm
      subst g2
      have sT := same_upd (o := .tup [.int (i : Int), .int row[i]]) hT
      refine ⟨T, [.int (i : Int), .int row[i]], rfl, .inl (.inl upd_same), rfl, _, _, rfl, _, _, rfl, rfl, ?_⟩
      iterate 2 walk_at "i"
      refine ⟨c, i, rfl, by omega, ?_⟩
      have hm := mixed_range c i
      generalize mixedOf c i = m at hm
      iterate 4 walk_at "i"
      have hmono : ∀ {H3 : Hp}, Same H1 H3 → ∀ zs ds, H3 L = some (.lst zs) → EntsAre H3 zs ds → Rise ds → ds.length ≤ i + 1 → (∀ e ∈ ds, ∃ p : Nat, p < i + 1 ∧ row[p]? = some e.1 ∧ e.2.1 ≤ (p : Int) ∧ (p : Int) ≤ e.2.2) →
        ∃ y3 y4 y5 xs es, [some (V.ref a), some (.int c), some (.ref L), some (.int (i : Int)), some (.int row[i]), some (.int m)] = [some (.ref a), some (.int c), some (.ref L), y3, y4, y5] ∧ Same H H3 ∧ H3 L = some (.lst xs) ∧ EntsAre H3 xs es ∧ Rise es ∧ es.length ≤ i + 1 ∧ ∀ e ∈ es, ∃ p : Nat, p < i + 1 ∧ row[p]? = some e.1 ∧ e.2.1 ≤ (p : Int) ∧ (p : Int) ≤ e.2.2 :=
        fun {H3} s3 zs ds h1 h2 h3 h4 h5 => ⟨_, _, _, zs, ds, rfl, s1.trans s3, h1, h2, h3, h4, h5⟩
      refine ite2 (fun z => ?_) (fun z => ?_)
      · refine ⟨_, rfl, .inl ⟨rfl, _, .inl (.inl (sT _ _ hL1))⟩, ?_⟩
        repeat walk_at "i"
        refine ⟨by show 3 ≤ sizeLine; decide, fun u hu => ?_⟩
        have sU := sT.trans (same_upd (o := .tup [.int row[i], .int ((i : Int) - m / 3 % 4), .int ((i : Int) + m / 12 % 4)]) hu)
        have hL2 := sU _ _ hL1
        refine ⟨L, xs, _, rfl, rfl, hL2, ?_, ?_⟩
        · rw [he.length]
          exact small1000 (by omega)
        · have hg : row[i]? = some row[i] := List.getElem?_eq_getElem hi
          refine ⟨_, _, _, xs ++ [.ref u], es ++ [(row[i], (i : Int) - m / 3 % 4, (i : Int) + m / 12 % 4)], rfl, ?_, upd_same, ?_, ?_, ?_, ?_⟩
          · exact same_mut (s1.trans sU) hL
          · exact eachIs_snoc ((he.same sU).upd hL2) (EntAt.upd hL2 ⟨u, rfl, upd_same⟩)
          · unfold Rise
            rw [List.pairwise_append]
            refine ⟨hr1, List.pairwise_singleton _ _, fun d hd e he => ?_⟩
            rw [List.mem_singleton.mp he]
            obtain ⟨p, h1, h2, _⟩ := hp1 d hd
            obtain ⟨hpl, hpe⟩ := List.getElem?_eq_some_iff.mp h2
            rw [← hpe]
            exact List.pairwise_iff_getElem.mp hsort p i hpl hi h1
          · rw [List.length_append]
            exact Nat.add_le_add_right hl1 1
          · intro e he
            rcases List.mem_append.mp he with h | h
            · obtain ⟨p, h1, h2⟩ := hp1 e h
              exact ⟨p, by omega, h2⟩
            · rw [List.mem_singleton.mp h]
              refine ⟨i, by omega, hg, ?_, ?_⟩
              · show (i : Int) - m / 3 % 4 ≤ (i : Int)
                omega
              · show (i : Int) ≤ (i : Int) + m / 12 % 4
                omega
      · exact hmono sT xs es (sT _ _ hL1) (he.same sT) hr1 (by omega) (fun e he => by
          obtain ⟨p, h1, h2⟩ := hp1 e he
          exact ⟨p, by omega, h2⟩)
    · rintro σ H1 ⟨y3, y4, y5, xs, es, rfl, s1, hL1, he, hr1, hl1, hp1⟩
      rw [List.length_map] at hl1 hp1
      refine ⟨_, rfl, q H1 L xs es s1 hL hL1 he ⟨hr1, by omega, fun e h => ?_⟩⟩
      obtain ⟨p, _, h2⟩ := hp1 e h
      exact ⟨p, h2⟩
end
end K02

namespace K02
open PySem PySem.Spec PyProof.Rows L2 Own LamX
local macro_rules | `(tactic| walk_at "i") => `(tactic| first
  | refine ⟨_, rfl, ?_⟩
  | refine ⟨_, _, rfl, rfl, (by show (0 : Int) < _; decide), ?_⟩
  | refine ⟨_, _, rfl, rfl, ⟨by decide, by decide⟩, ?_⟩
  | refine ⟨_, _, rfl, rfl, ⟨by decide, by decide, by decide⟩, ?_⟩
  | refine ⟨_, _, rfl, rfl, .inr ⟨by decide, by decide⟩, ?_⟩
  | refine ⟨_, _, rfl, rfl, .inl ⟨by decide, by decide⟩, ?_⟩
  | refine ⟨_, _, rfl, rfl, ?_⟩)
theorem take_filter_yes {α : Type} {p : α → Bool} {l : List α} {i : Nat} {x : α} (h : l[i]? = some x) (hp : p x = true) : (l.take (i + 1)).filter p = (l.take i).filter p ++ [x] := by
  rw [List.take_add_one, h, List.filter_append]
  show _ ++ [x].filter p = _
  rw [List.filter_cons, if_pos hp]
  rfl
theorem take_filter_no {α : Type} {p : α → Bool} {l : List α} {i : Nat} {x : α} (h : l[i]? = some x) (hp : p x = false) : (l.take (i + 1)).filter p = (l.take i).filter p := by
  rw [List.take_add_one, h, List.filter_append]
  show _ ++ [x].filter p = _
  rw [List.filter_cons, if_neg (by rw [hp]; decide)]
  exact List.append_nil _
section
variable {P : Program} {w : World} {K : PySem.W.Frag} {mg : Str → Option Value} {base : Heap} {f : Addr} {fd : FuncData}
theorem ok_counted (F : Fun K "_law_counted" "_law_counted" s__law_counted f fd) (B : Bi mg) : FnOk P w K mg base CX0 1 f fd ["_law_entry", "_law_others", "_law_more"] (spCounted K) := by
  refine F.ok sc__law_counted (fun vs H Q E h => ?_) (fun cdv A outer s H vs Q E hr h => ⟨_, (rd__law_counted B hr).2, ?_⟩)
  · obtain ⟨v, a, e, xs, es, more, rfl, _⟩ := h
    rfl
  · obtain ⟨v, a, e, xs, es, more, rfl, ⟨t, rfl, ht⟩, ha, he, hlen, q⟩ := h
    have hl := he.length
    refine ⟨_, rfl, t, _, rfl, .inl (.inl ht), rfl, _, _, rfl, _, _, rfl, _, _, rfl, rfl, ?_⟩
    -- last
    refine ⟨_, rfl, a, rfl, ⟨xs, .inl (.inl ha)⟩, fun L hL => lc_list (xs := xs) (fun i H' => Same H H' ∧ ∃ zs, H' L = some (.lst zs) ∧ EntsAre H' zs ((es.take i).filter fun d => decide (d.1 ≤ e.1))) ⟨same_upd hL, _, upd_same, .nil⟩ (fun i H' _ h => .inl (.inl (h.1 _ _ ha))) ?_ ?_⟩
    · rintro i x H1 hi ⟨s1, zs, hL1, hz⟩
      obtain ⟨d, hid, k⟩ := eachIs_get he hi
      obtain ⟨u, rfl, hu⟩ := id k
      have hu1 := s1 _ _ hu
      refine ⟨rfl, ?_⟩
      repeat walk_at "i"
      refine ⟨u, _, _, _, rfl, rfl, .inl (.inl hu1), atI_nat (j := 0) rfl, ?_⟩
      repeat walk_at "i"
      refine ite2 (fun z => ?_) (fun z => ?_)
      · walk_at "i"
        refine ⟨zs, hL1, ?_, same_mut s1 hL, _, upd_same, ?_⟩
        · rw [hz.length]
          have := List.length_filter_le (fun d : Ent => decide (d.1 ≤ e.1)) (es.take i)
          rw [List.length_take] at this
          exact small1000 (by omega)
        · rw [take_filter_yes hid z]
          exact eachIs_snoc (hz.upd hL1) (EntAt.upd hL1 (k.ext (ExtN.of s1)))
      · refine ⟨s1, zs, hL1, ?_⟩
        rw [take_filter_no hid (by simpa using z)]
        exact hz
    · rintro H1 ⟨s1, zs, hL1, hz⟩
      rw [hl, List.take_length] at hz
      have ha1 := s1 _ _ ha
      -- first
      refine ⟨_, rfl, a, rfl, ⟨xs, .inl (.inl ha1)⟩, fun L2 hL2 => lc_list (xs := xs) (fun i H' => Same H1 H' ∧ ∃ zs, H' L2 = some (.lst zs) ∧ EntsAre H' zs ((es.take i).filter fun d => decide (e.1 ≤ d.1))) ⟨same_upd hL2, _, upd_same, .nil⟩ (fun i H' _ h => .inl (.inl (h.1 _ _ ha1))) ?_ ?_⟩
      · rintro i x H2 hi ⟨s2, ws, hW1, hw⟩
        obtain ⟨d, hid, k⟩ := eachIs_get (he.same s1) hi
        obtain ⟨u, rfl, hu⟩ := id k
        have hu1 := s2 _ _ hu
        refine ⟨rfl, ?_⟩
        repeat walk_at "i"
        refine ⟨u, _, _, _, rfl, rfl, .inl (.inl hu1), atI_nat (j := 0) rfl, ?_⟩
        repeat walk_at "i"
        refine ite2 (fun z => ?_) (fun z => ?_)
        · walk_at "i"
          refine ⟨ws, hW1, ?_, same_mut s2 hL2, _, upd_same, ?_⟩
          · rw [hw.length]
            have := List.length_filter_le (fun d : Ent => decide (e.1 ≤ d.1)) (es.take i)
            rw [List.length_take] at this
            exact small1000 (by omega)
          · rw [take_filter_yes hid z]
            exact eachIs_snoc (hw.upd hW1) (EntAt.upd hW1 (k.ext (ExtN.of s2)))
        · refine ⟨s2, ws, hW1, ?_⟩
          rw [take_filter_no hid (by simpa using z)]
          exact hw
      · rintro H2 ⟨s2, ws, hW2, hw⟩
        rw [hl, List.take_length] at hw
        have hL3 := s2 _ _ hL1
        have hz2 := hz.same s2
        -- the end, for any least
        have fin : ∀ least : Int, least = e.2.1 + addLeast es e.1 → ∀ D : Ends, D.rt = Q →
            tSeq (tIfS (fun σ H Q => tVar 7 σ H fun x H' => ∃ k, TruV K x H' k ∧ Q k H') (tRet (tTup (tCons (tVar 3) (tCons (tVar 4) (tCons (tOp (rI0 fun i j => V.int (i + j)) (tVar 5) (tOp (rIxT K) (tOp (rIxL K) (tVar 7) (tC (.int 0))) (tC (.int 2)))) tNil))))) tNext)
              (tRet (tTup (tCons (tVar 3) (tCons (tVar 4) (tCons (tOp (rI0 fun i j => V.int (i + j)) (tVar 5) (tVar 2)) tNil))))) D [some (.ref t), some (.ref a), some (.int more), some (.int e.1), some (.int least), some (.int e.2.2), some (.ref L), some (.ref L2), none] H2 := by
          intro least hle D hD
          subst hle
          cases hws : es.filter fun d => decide (e.1 ≤ d.1) with
          | nil =>
            rw [hws] at hw
            cases hw
            refine ⟨_, rfl, false, .inl ⟨[], .inl (.inl hW2), rfl⟩, ?_⟩
            repeat walk_at "i"
            refine ⟨by show 3 ≤ sizeLine; decide, fun u hu => ?_⟩
            rw [hD]
            refine q _ _ ((s1.trans s2).trans (same_upd hu)) ⟨u, rfl, ?_⟩
            rw [upd_same]
            have : addMost es e.1 more = more := by
              unfold addMost
              rw [hws]
              rfl
            rw [this]
          | cons d r =>
            rw [hws] at hw
            cases hw with
            | cons k hw =>
              obtain ⟨u, rfl, hu⟩ := k
              refine ⟨_, rfl, true, .inl ⟨_, .inl (.inl hW2), rfl⟩, ?_⟩
              repeat walk_at "i"
              refine ⟨L2, _, _, _, rfl, rfl, .inl (.inl hW2), atI_nat (j := 0) rfl, ?_⟩
              refine ⟨u, _, _, _, rfl, rfl, .inl (.inl hu), atI_nat (j := 2) rfl, ?_⟩
              walk_at "i"
              refine ⟨by show 3 ≤ sizeLine; decide, fun u2 hu2 => ?_⟩
              show D.rt (V.ref u2) _
              rw [hD]
              refine q _ _ ((s1.trans s2).trans (same_upd hu2)) ⟨u2, rfl, ?_⟩
              rw [upd_same]
              have : addMost es e.1 more = d.2.2 := by
                unfold addMost
                rw [hws]
                rfl
              rw [this]
        cases hls : (es.filter fun d => decide (d.1 ≤ e.1)).getLast? with
        | none =>
          have h0 : (es.filter fun d => decide (d.1 ≤ e.1)) = [] := List.getLast?_eq_none_iff.mp hls
          rw [h0] at hz2
          cases hz2
          refine ⟨_, rfl, false, .inl ⟨[], .inl (.inl hL3), rfl⟩, ?_⟩
          have : addLeast es e.1 = 0 := by
            unfold addLeast
            rw [hls]
          exact fin e.2.1 (by omega) _ rfl
        | some d =>
          have h0 : ∃ ini, (es.filter fun d => decide (d.1 ≤ e.1)) = ini ++ [d] := List.getLast?_eq_some_iff.mp hls
          obtain ⟨ini, h0⟩ := h0
          rw [h0] at hz2
          have hzl := hz2.length
          rw [List.length_append, List.length_singleton] at hzl
          obtain ⟨v, hv, u, rfl, hu⟩ := eachIs_get2 (i := ini.length) (b := d) hz2 (by rw [List.getElem?_append_right (Nat.le_refl _)]; simp)
          have e1 : zs.getLast? = some (.ref u) := by
            rw [List.getLast?_eq_getElem?, hzl]
            exact hv
          obtain ⟨zi, hzs⟩ := List.getLast?_eq_some_iff.mp e1
          refine ⟨_, rfl, true, .inl ⟨zs, .inl (.inl hL3), by cases zs with | nil => simp at hzl | cons => rfl⟩, ?_⟩
          repeat walk_at "i"
          refine ⟨L, zs, _, .ref u, rfl, rfl, .inl (.inl hL3), by rw [hzs]; exact atI_last _ _, ?_⟩
          refine ⟨u, _, _, _, rfl, rfl, .inl (.inl hu), atI_nat (j := 1) rfl, ?_⟩
          iterate 2 walk_at "i"
          have : addLeast es e.1 = d.2.1 + 1 := by
            unfold addLeast
            rw [hls]
          exact fin (e.2.1 + d.2.1 + 1) (by omega) _ rfl
end
end K02

namespace K02
open PySem PySem.Spec PyProof.Rows L2 Own LamX
local macro_rules | `(tactic| walk_at "i") => `(tactic| first
  | refine ⟨_, rfl, ?_⟩
  | refine ⟨_, _, rfl, rfl, (by show (0 : Int) < _; decide), ?_⟩
  | refine ⟨_, _, rfl, rfl, ⟨by decide, by decide⟩, ?_⟩
  | refine ⟨_, _, rfl, rfl, ⟨by decide, by decide, by decide⟩, ?_⟩
  | refine ⟨_, _, rfl, rfl, .inr ⟨by decide, by decide⟩, ?_⟩
  | refine ⟨_, _, rfl, rfl, .inl ⟨by decide, by decide⟩, ?_⟩
  | refine ⟨_, _, rfl, rfl, ?_⟩)
section
variable {P : Program} {w : World} {K : PySem.W.Frag} {mg : Str → Option Value} {base : Heap} {f : Addr} {fd : FuncData}
theorem ok_due (F : Fun K "_law_due" "_law_due" s__law_due f fd) (B : Bi mg) (cc : CalK P w K mg base 1 "_law_counted" (spCounted K)) : FnOk P w K mg base CX0 2 f fd ["_law_ones", "_law_many", "_law_others", "_law_more"] (spDue K) := by
  refine F.ok sc__law_due (fun vs H Q E h => ?_) (fun cdv A outer s H vs Q E hr h => ⟨_, (rd__law_due B hr cc).2, ?_⟩)
  · obtain ⟨a, b, xs, ys, es, fs, many, more, rfl, _⟩ := h
    rfl
  · obtain ⟨a, b, xs, ys, es, fs, many, more, rfl, ha, hb, he, hf, hre, hle, hlf, q⟩ := h
    have hl := he.length
    have hl2 := hf.length
    refine ⟨_, rfl, a, rfl, ⟨xs, .inl (.inl ha)⟩, fun L hL => lc_list (xs := xs) (fun i H' => Same H H' ∧ ∃ zs, H' L = some (.lst zs) ∧ EntsAre H' zs ((liftE es fs more).take i)) ⟨same_upd hL, _, upd_same, .nil⟩ (fun i H' _ h => .inl (.inl (h.1 _ _ ha))) ?_ ?_⟩
    · rintro i x H1 hi ⟨s1, zs, hL1, hz⟩
      obtain ⟨d, hid, k⟩ := eachIs_get he hi
      refine ⟨rfl, ?_⟩
      repeat walk_at "i"
      refine ⟨x, b, d, ys, fs, more, rfl, k.ext (ExtN.of s1), s1 _ _ hb, hf.same s1, by omega, fun H2 u s2 ku => ?_⟩
      have hL2 := s2 _ _ hL1
      have hil : i < es.length := (List.getElem?_eq_some_iff.mp hid).1
      refine ⟨zs, hL2, ?_, same_mut (s1.trans s2) hL, _, upd_same, ?_⟩
      · rw [hz.length, List.length_take]
        exact Nat.lt_of_le_of_lt (Nat.min_le_left _ _) (small1000 (by omega))
      · rw [List.take_add_one, liftE_get hid]
        exact eachIs_snoc ((hz.same s2).upd hL2) (EntAt.upd hL2 ku)
    · rintro H1 ⟨s1, zs, hL1, hz⟩
      rw [hl, List.take_of_length_le (by unfold liftE; rw [List.length_map]; exact Nat.le_refl _)] at hz
      have hb1 := s1 _ _ hb
      refine ⟨_, rfl, b, rfl, ⟨ys, .inl (.inl hb1)⟩, for_list (K := K) (a := b) (xs := ys)
        (fun i σ H2 => ∃ y5 y6 ws, σ = [some (.ref a), some (.int many), some (.ref b), some (.int more), some (.ref L), y5, y6, none] ∧ Same H H2 ∧ H2 L = some (.lst ws) ∧ EntsAre H2 ws (insAll (liftE es fs more) ((liftE fs es many).take i)))
        ⟨none, none, zs, rfl, s1, hL1, hz⟩ (fun i σ H2 _ ⟨_, _, _, _, s2, _⟩ => .inl (.inl (s2 _ _ hb))) ?_ ?_⟩
      · rintro i x σ H2 hi ⟨y5, y6, ws, rfl, s2, hL2, hw⟩
        obtain ⟨d, hid, k⟩ := eachIs_get hf hi
        obtain ⟨u, rfl, hu⟩ := id k
        have hu2 := s2 _ _ hu
        have hil : i < fs.length := (List.getElem?_eq_some_iff.mp hid).1
        have hwl : (insAll (liftE es fs more) ((liftE fs es many).take i)).length ≤ 28 := by
          rw [insAll_length, List.length_take, liftE_length, liftE_length]
          omega
        generalize hm : insAll (liftE es fs more) ((liftE fs es many).take i) = m at hw hwl
        have hwlen := hw.length
        -- at = len([..])
        refine ⟨_, rfl, L, rfl, ⟨ws, .inl (.inl hL2)⟩, fun L2 hN2 => lc_list (xs := ws) (fun i H' => Same H2 H' ∧ ∃ zs, H' L2 = some (.lst zs) ∧ EntsAre H' zs ((m.take i).filter fun y => decide (y.1 ≤ d.1))) ⟨same_upd hN2, _, upd_same, .nil⟩ (fun i H' _ h => .inl (.inl (h.1 _ _ hL2))) ?_ ?_⟩
        · rintro j x H3 hj ⟨s3, vs, hv3, hv⟩
          obtain ⟨y, hjy, ky⟩ := eachIs_get hw hj
          obtain ⟨ty, rfl, hty⟩ := id ky
          have hty3 := s3 _ _ hty
          refine ⟨rfl, ?_⟩
          walk_at "i"
          refine ⟨ty, _, _, _, rfl, rfl, .inl (.inl hty3), atI_nat (j := 0) rfl, ?_⟩
          walk_at "i"
          refine ⟨u, _, _, _, rfl, rfl, .inl (.inl (s3 _ _ hu2)), atI_nat (j := 0) rfl, ?_⟩
          iterate 2 walk_at "i"
          refine ite2 (fun z => ?_) (fun z => ?_)
          · walk_at "i"
            refine ⟨vs, hv3, ?_, same_mut s3 hN2, _, upd_same, ?_⟩
            · rw [hv.length]
              have := List.length_filter_le (fun y : Ent => decide (y.1 ≤ d.1)) (m.take j)
              rw [List.length_take] at this
              exact small1000 (by omega)
            · rw [take_filter_yes hjy z]
              exact eachIs_snoc (hv.upd hv3) (EntAt.upd hv3 (ky.ext (ExtN.of s3)))
          · refine ⟨s3, vs, hv3, ?_⟩
            rw [take_filter_no hjy (by simpa using z)]
            exact hv
        · rintro H3 ⟨s3, vs, hv3, hv⟩
          rw [hwlen, List.take_length] at hv
          have hvl := hv.length
          refine ⟨L2, vs, rfl, .inl (.inl (.inl hv3)), ?_⟩
          have hL3 := s3 _ _ hL2
          have s23 := s2.trans s3
          have hnl := List.length_filter_le (fun y : Ent => decide (y.1 ≤ d.1)) m
          -- found.insert(at, counted(..))
          refine ⟨_, rfl, .inl ⟨rfl, _, .inl (.inl hL3)⟩, ?_⟩
          repeat walk_at "i"
          refine ⟨.ref u, a, d, xs, es, many, rfl, k.ext (ExtN.of s23), s23 _ _ ha, he.same s23, by omega, fun H4 v s4 kv => ?_⟩
          have hL4 := s4 _ _ hL3
          refine ⟨L, ws, _, v, rfl, rfl, hL4, small1000 (by omega), by omega, by omega, ?_⟩
          refine ⟨_, _, _, rfl, ?_, upd_same, ?_⟩
          · exact same_mut (s23.trans s4) hL
          · rw [Int.toNat_natCast, hvl, List.take_add_one, liftE_get hid]
            show EntsAre _ _ (insAll (liftE es fs more) ((liftE fs es many).take i ++ [_]))
            rw [insAll_snoc, hm]
            have hw4 := ((hw.same s3).same s4).upd (o := .lst (ws.take (m.filter fun y => decide (y.1 ≤ d.1)).length ++ [v] ++ ws.drop (m.filter fun y => decide (y.1 ≤ d.1)).length)) hL4
            exact eachIs_append (eachIs_append (eachIs_take _ hw4) (.cons (EntAt.upd hL4 kv) .nil)) (eachIs_drop _ hw4)
      · rintro σ H2 ⟨y5, y6, ws, rfl, s2, hL2, hw⟩
        rw [hl2, List.take_of_length_le (by rw [liftE_length]; exact Nat.le_refl _), insAll_eq (liftE_rise hre)] at hw
        exact ⟨_, rfl, q H2 L ws s2 hL hL2 hw⟩
end
end K02

namespace K02
open PySem PySem.Spec PyProof.Rows L2 Own LamX
local macro_rules | `(tactic| walk_at "i") => `(tactic| first
  | refine ⟨_, rfl, ?_⟩
  | refine ⟨_, _, rfl, rfl, (by show (0 : Int) < _; decide), ?_⟩
  | refine ⟨_, _, rfl, rfl, ⟨by decide, by decide⟩, ?_⟩
  | refine ⟨_, _, rfl, rfl, ⟨by decide, by decide, by decide⟩, ?_⟩
  | refine ⟨_, _, rfl, rfl, .inr ⟨by decide, by decide⟩, ?_⟩
  | refine ⟨_, _, rfl, rfl, .inl ⟨by decide, by decide⟩, ?_⟩
  | refine ⟨_, _, rfl, rfl, ?_⟩)
section
variable {P : Program} {w : World} {K : PySem.W.Frag} {mg : Str → Option Value} {base : Heap} {f : Addr} {fd : FuncData}
theorem ok_like (F : Fun K "_law_like" "_law_like" s__law_like f fd) (B : Bi mg) (cw : CalK P w K mg base 1 "_law_whole" spWhole) : FnOk P w K mg base CX0 2 f fd ["_law_found", "_law_due_here"] (spLike K) := by
  refine F.ok sc__law_like (fun vs H Q E h => ?_) (fun cdv A outer s H vs Q E hr h => ⟨_, (rd__law_like B hr cw).2, ?_⟩)
  · obtain ⟨a, b, xs, ys, es, rfl, _⟩ := h
    rfl
  · obtain ⟨a, b, xs, ys, es, rfl, hA, hB, he, hd, hlen, q⟩ := h
    have hxe := he.length
    have hye := hd.length
    have hxy : xs.length = ys.length := hxe.trans hye.symm
    refine ⟨_, rfl, _, _, _, _, true, rfl, .ty _, .base (.lst hA), kit_ty (by decide +kernel), true, rfl, ?_⟩
    refine ⟨_, rfl, a, xs, rfl, .inl (.inl (.inl hA)), _, rfl, b, ys, rfl, .inl (.inl (.inl hB)), rfl, _, rfl, iteNS (by rw [hxy]) ?_⟩
    refine ⟨_, rfl, _, rfl, a, b, xs, ys, rfl, .inl (.inl hA), .inl (.inl hB), for_it (walk_zip (xs := xs) (ys := ys) (n := xs.length) (by omega)) (fun i σ H' => ∃ y2 y3, σ = [some (.ref a), some (.ref b), y2, y3, none, none] ∧ Same H H') ⟨none, none, rfl, Same.refl H⟩ ?_ ?_ ?_⟩
    · rintro i σ H1 _ ⟨y2, y3, rfl, s1⟩
      exact ⟨.inl (.inl (s1 _ _ hA)), .inl (.inl (s1 _ _ hB))⟩
    · rintro i x σ H1 H2 hi ⟨y2, y3, rfl, s1⟩ ⟨T, x1, x2, rfl, hT, rfl, f1, f2⟩
      obtain ⟨e, gi, t1, rfl, ht1⟩ := eachIs_get he f1
      obtain ⟨e', gi', t2, rfl, ht2⟩ := eachIs_get hd f2
      have : e' = e := Option.some.inj (gi'.symm.trans gi)
      subst this
      have s2 := s1.trans (same_upd (o := .tup [.ref t1, .ref t2]) hT)
      refine ⟨T, [.ref t1, .ref t2], rfl, .inl (.inl upd_same), rfl, _, _, rfl, _, _, rfl, rfl, ?_⟩
      refine ⟨_, rfl, _, _, _, _, true, rfl, .ty _, .base (.tup (s2 _ _ ht1)), kit_ty (by decide +kernel), true, rfl, ?_⟩
      refine ⟨_, rfl, t1, _, rfl, .inr (.inl (.inl (s2 _ _ ht1))), rfl, _, rfl, iteNS rfl ?_⟩
      refine ⟨_, rfl, _, rfl, t1, t2, _, _, rfl, .inr ⟨.inl (.inl (s2 _ _ ht1)), .inl (.inl (s2 _ _ ht2)), fun L hL => lc_it (walk_zipT (xs := [.int e'.1, .int e'.2.1, .int e'.2.2]) (ys := [.int e'.1, .int e'.2.1, .int e'.2.2]) (n := 3) rfl)
        (fun j H' => Same H H' ∧ H' L = some (.lst (([true, true, true].take j).map V.bl))) ⟨s2.trans (same_upd hL), upd_same⟩ (fun j H' _ h => ⟨.inl (.inl (h.1 _ _ ht1)), .inl (.inl (h.1 _ _ ht2))⟩) ?_ ?_⟩⟩
      · rintro j z H3 H4 hj ⟨s3, hL3⟩ ⟨T2, z1, z2, rfl, hT2, rfl, g1, g2⟩
        have hz : ∃ k : Int, z1 = .int k ∧ z2 = .int k := by
          have g1 : [V.int e'.1, V.int e'.2.1, V.int e'.2.2][j]? = some z1 := g1
          have g2 : [V.int e'.1, V.int e'.2.1, V.int e'.2.2][j]? = some z2 := g2
          match j, hj with
          | 0, _ => exact ⟨_, (Option.some.inj g1).symm, (Option.some.inj g2).symm⟩
          | 1, _ => exact ⟨_, (Option.some.inj g1).symm, (Option.some.inj g2).symm⟩
          | 2, _ => exact ⟨_, (Option.some.inj g1).symm, (Option.some.inj g2).symm⟩
        obtain ⟨k, rfl, rfl⟩ := hz
        refine ⟨T2, [.int k, .int k], rfl, .inl (.inl upd_same), rfl, _, _, rfl, _, _, rfl, rfl, rfl, ?_⟩
        refine ⟨_, rfl, _, rfl, k, k, rfl, ?_⟩
        have hL4 := same_upd (o := .tup [.int k, .int k]) hT2 _ _ hL3
        have hHL : H L = none := s2.free hL
        refine ⟨_, hL4, ?_, fun b o e => ?_, ?_⟩
        · rw [List.length_map, List.length_take]
          exact Nat.lt_of_le_of_lt (Nat.min_le_left _ _) (small1000 (by omega))
        · rw [upd_ne (ne_of_none e hHL)]
          exact same_upd hT2 _ _ (s3 _ _ e)
        · rw [upd_same, decide_eq_true rfl]
          match j, hj with
          | 0, _ => rfl
          | 1, _ => rfl
          | 2, _ => rfl
      · rintro H5 ⟨s5, hL5⟩
        refine ⟨L, [true, true, true], rfl, .inl (.inl hL5), true, rfl, ?_⟩
        exact ⟨_, _, rfl, s5⟩
    · rintro σ H1 ⟨y2, y3, rfl, s1⟩
      exact q H1 s1
theorem ok_true (F : Fun K "_law_true" "_law_true" s__law_true f fd) (B : Bi mg) : FnOk P w K mg base CX0 1 f fd ["_law_entries", "_law_row_here"] (spTrue K) := by
  refine F.ok sc__law_true (fun vs H Q E h => ?_) (fun cdv A outer s H vs Q E hr h => ⟨_, (rd__law_true B hr).2, ?_⟩)
  · obtain ⟨a, b, xs, es, row, rfl, _⟩ := h
    rfl
  · obtain ⟨a, b, xs, es, row, rfl, ha, hb, he, hlen, htr, q⟩ := h
    refine ⟨_, rfl, a, rfl, ⟨xs, .inl (.inl ha)⟩, for_list (K := K) (a := a) (xs := xs) (fun i σ H1 => ∃ y2 y3 y4, σ = [some (.ref a), some (.ref b), y2, y3, y4, none] ∧ Same H H1) ⟨none, none, none, rfl, Same.refl H⟩ (fun i σ H1 _ ⟨_, _, _, _, s1⟩ => .inl (.inl (s1 _ _ ha))) ?_ ?_⟩
    · rintro i x σ H1 hi ⟨y2, y3, y4, rfl, s1⟩
      obtain ⟨e, hie, t, rfl, ht⟩ := eachIs_get he hi
      have hte := htr e (List.mem_of_getElem? hie)
      obtain ⟨_, h1, h2⟩ := hte
      have hb1 := s1 _ _ hb
      refine ⟨t, _, rfl, .inl (.inl (s1 _ _ ht)), rfl, _, _, rfl, _, _, rfl, _, _, rfl, rfl, ?_⟩
      -- the count of no greater ones
      refine ⟨_, rfl, _, rfl, b, rfl, ⟨_, .inl (.inl hb1)⟩, fun L hL => lc_list (xs := row.map V.int) (fun j H' => Same H1 H' ∧ H' L = some (.lst ((((row.take j).filter fun x => decide (x ≤ e.1))).map V.int))) ⟨same_upd hL, upd_same⟩ (fun j H' _ h => .inl (.inl (h.1 _ _ hb1))) ?_ ?_⟩
      · rintro j x H2 hj ⟨s2, hL2⟩
        obtain ⟨r, hr1, rfl⟩ : ∃ r, row[j]? = some r ∧ x = .int r := by
          rw [List.getElem?_map] at hj
          cases e : row[j]? with
          | none => rw [e] at hj; cases hj
          | some r => rw [e] at hj; exact ⟨r, rfl, (Option.some.inj hj).symm⟩
        refine ⟨rfl, ?_⟩
        iterate 4 walk_at "i"
        refine ite2 (fun z => ?_) (fun z => ?_)
        · walk_at "i"
          refine ⟨_, hL2, ?_, same_mut s2 hL, ?_⟩
          · rw [List.length_map]
            have := List.length_filter_le (fun x => decide (x ≤ e.1)) (row.take j)
            rw [List.length_take] at this
            exact small1000 (by omega)
          · rw [take_filter_yes hr1 z, upd_same, List.map_append]
            rfl
        · refine ⟨s2, ?_⟩
          rw [take_filter_no hr1 (by simpa using z)]
          exact hL2
      · rintro H2 ⟨s2, hL2⟩
        rw [List.length_map, List.take_length] at hL2
        refine ⟨L, _, rfl, .inl (.inl (.inl hL2)), ?_⟩
        iterate 3 walk_at "i"
        have h1' : ¬ ((((row.filter fun x => decide (x ≤ e.1)).map V.int).length : Nat) : Int) - 1 < e.2.1 := by
          rw [List.length_map]
          unfold cle at h1
          omega
        refine ite2 (fun z => absurd (of_decide_eq_true z) h1') (fun _ => ?_)
        have hb2 := s2 _ _ hb1
        refine ⟨_, rfl, _, rfl, b, rfl, ⟨_, .inl (.inl hb2)⟩, fun L2 hN2 => lc_list (xs := row.map V.int) (fun j H' => Same H2 H' ∧ H' L2 = some (.lst ((((row.take j).filter fun x => decide (x < e.1))).map V.int))) ⟨same_upd hN2, upd_same⟩ (fun j H' _ h => .inl (.inl (h.1 _ _ hb2))) ?_ ?_⟩
        · rintro j x H3 hj ⟨s3, hL3⟩
          obtain ⟨r, hr1, rfl⟩ : ∃ r, row[j]? = some r ∧ x = .int r := by
            rw [List.getElem?_map] at hj
            cases e : row[j]? with
            | none => rw [e] at hj; cases hj
            | some r => rw [e] at hj; exact ⟨r, rfl, (Option.some.inj hj).symm⟩
          refine ⟨rfl, ?_⟩
          iterate 4 walk_at "i"
          refine ite2 (fun z => ?_) (fun z => ?_)
          · walk_at "i"
            refine ⟨_, hL3, ?_, same_mut s3 hN2, ?_⟩
            · rw [List.length_map]
              have := List.length_filter_le (fun x => decide (x < e.1)) (row.take j)
              rw [List.length_take] at this
              exact small1000 (by omega)
            · rw [take_filter_yes hr1 z, upd_same, List.map_append]
              rfl
          · refine ⟨s3, ?_⟩
            rw [take_filter_no hr1 (by simpa using z)]
            exact hL3
        · rintro H3 ⟨s3, hL3⟩
          rw [List.length_map, List.take_length] at hL3
          refine ⟨L2, _, rfl, .inl (.inl (.inl hL3)), ?_⟩
          iterate 2 walk_at "i"
          have h2' : ¬ e.2.2 < ((((row.filter fun x => decide (x < e.1)).map V.int).length : Nat) : Int) := by
            rw [List.length_map]
            unfold clt at h2
            omega
          refine ite2 (fun z => absurd (of_decide_eq_true z) h2') (fun _ => ?_)
          exact ⟨_, _, _, rfl, (s1.trans s2).trans s3⟩
    · rintro σ H1 ⟨y2, y3, y4, rfl, s1⟩
      exact q H1 s1
end
end K02

namespace K02
open PySem PySem.Spec PyProof.Rows L2 Own LamX
local macro_rules | `(tactic| walk_at "i") => `(tactic| first
  | refine ⟨_, rfl, ?_⟩
  | refine ⟨_, _, rfl, rfl, (by show (0 : Int) < _; decide), ?_⟩
  | refine ⟨_, _, rfl, rfl, ⟨by decide, by decide⟩, ?_⟩
  | refine ⟨_, _, rfl, rfl, ⟨by decide, by decide, by decide⟩, ?_⟩
  | refine ⟨_, _, rfl, rfl, .inr ⟨by decide, by decide⟩, ?_⟩
  | refine ⟨_, _, rfl, rfl, .inl ⟨by decide, by decide⟩, ?_⟩
  | refine ⟨_, _, rfl, rfl, ?_⟩)
theorem newN_back {H H' : Hp} {p : Addr} (e : ExtN H H') (n : NewN H' p) : NewN H p := fun o h => by
  cases o with
  | tbl ps => exact ⟨ps, rfl⟩
  | _ => exact n _ (e _ _ h (fun ps z => nomatch z))
theorem extN_mut {H H' : Hp} {p : Addr} {o : HO} (e : ExtN H H') (n : NewN H p) : ExtN H (upd H' p o) := fun b u h k => by
  have hb : b ≠ p := fun z => by
    subst z
    obtain ⟨ps, z⟩ := n _ h
    exact k ps z
  rw [upd_ne hb]
  exact e _ _ h k
theorem tabs_upd {T : List (Addr × Str)} {H : Hp} {p : Addr} {xs ys : List V} (h : H p = some (.lst xs)) (t : Tabs T H) : Tabs T (upd H p (.lst ys)) := fun q hq => by
  obtain ⟨ps, h1, h2, h3⟩ := t q hq
  refine ⟨ps, by rw [upd_ne (ne_of h1 h (by intro z; cases z))]; exact h1, h2, fun pos cv hc => ?_⟩
  obtain ⟨c, e1, e2⟩ := h3 pos cv hc
  exact ⟨c, e1, by rw [upd_ne (ne_of e2 h (by intro z; unfold CodeO at z; cases z))]; exact e2⟩
theorem ext_l {H H' : Hp} {b : Addr} {xs : List V} (e : ExtN H H') (h : H b = some (.lst xs)) : H' b = some (.lst xs) := e _ _ h (fun ps z => nomatch z)
/-! entries as data -/
def entD (e : Ent) : PyData := .tuple [.int e.1, .int e.2.1, .int e.2.2]
theorem dpAll_ents {K : PySem.W.Frag} {H : Hp} : ∀ {xs : List V} {es : List Ent}, EntsAre H xs es → DpAll K H xs (es.map entD)
  | _, _, .nil => .nil
  | _, _, .cons ⟨t, e1, e2⟩ h => by
    subst e1
    exact .cons (.tup (.inl (.inl e2)) (.cons (.int _) (.cons (.int _) (.cons (.int _) .nil)))) (dpAll_ents h)
theorem canLay_ents : ∀ es : List Ent, PyData.canLayAll0 (es.map entD) = true
  | [] => rfl
  | e :: r => by simp [PyData.canLayAll0, PyData.canLay0, entD, canLay_ents r]
theorem depth_ents : ∀ es : List Ent, PyData.depthAll (es.map entD) ≤ 1
  | [] => Nat.zero_le _
  | e :: r => by
    have ih := depth_ents r
    simp only [List.map_cons, PyData.depthAll, entD, PyData.depth]
    omega
theorem shaped_two (a b : List Ent) : SeqAt.shaped (.list [.list (a.map entD), .list (b.map entD)]) = true := by
  have h1 := depth_ents a
  have h2 := depth_ents b
  unfold SeqAt.shaped
  rw [Bool.and_eq_true]
  refine ⟨by simp [PyData.canLayAll0, PyData.canLay0, canLay_ents], decide_eq_true ?_⟩
  simp only [PyData.depth, PyData.depthAll]
  omega
theorem drawn_true {row : List Int} {es : List Ent} (hs : row.Pairwise (· ≤ ·)) (d : Drawn row es) : ∀ e ∈ es, TrueE row e := fun e he => by
  obtain ⟨p, h1, h2, h3⟩ := d.ok e he
  obtain ⟨k1, k2⟩ := place_true hs h1
  exact ⟨List.mem_of_getElem? h1, by omega, by omega⟩
theorem joinE_length (es fs : List Ent) (m n : Int) : (joinE es m fs n).length = es.length + fs.length := by
  unfold joinE
  rw [byKey_length, List.length_append, liftE_length, liftE_length]
section
variable {P : Program} {w : World} {K : PySem.W.Frag} {mg : Str → Option Value} {base : Heap} {f : Addr} {fd : FuncData}
theorem ok_law {P_joined : Addr} (F : Fun K "law" "law" s_law f fd) (B : Bi mg) (cc : CalK P w K mg base 1 "_law_cell" (spCell K)) (cr : CalK P w K mg base 3 "_law_row" (spRow K)) (cs : CalK P w K mg base 2 "_law_some" (spSome K)) (cj : CalK P w K mg base 5 "joined" (spJoined K (TL P_joined))) (cd : CalK P w K mg base 2 "_law_due" (spDue K)) (cl : CalK P w K mg base 2 "_law_like" (spLike K)) (ct : CalK P w K mg base 1 "_law_true" (spTrue K)) :
    FnOk P w K mg base CX0 6 f fd ["_law_script"] (spLaw K (TL P_joined)) := by
  refine F.ok sc_law (fun vs H Q E h => ?_) (fun cdv A outer s H vs Q E hr h => ⟨_, (rd_law B hr cc cr cs cj cd cl ct).2, ?_⟩)
  · obtain ⟨a, ns, rfl, _⟩ := h
    rfl
  · obtain ⟨a, ns, rfl, hS, hlen, hT, q⟩ := h
    refine ⟨_, rfl, a, ns, 0, rfl, hS, ?_⟩
    -- the rows
    repeat walk_at "i"
    refine ⟨a, ns, 3, _, rfl, hS, fun H1 p1 row s1 n1 e1 hl1 hs1 => ?_⟩
    repeat walk_at "i"
    refine ⟨a, ns, 18, _, rfl, s1.seq hS, fun H2 p2 oth s2 n2 e2 hl2 hs2 => ?_⟩
    have s12 := s1.trans s2
    -- the entries
    repeat walk_at "i"
    refine ⟨a, ns, 1, rfl, s12.seq hS, ?_⟩
    refine ⟨p1, row, _, rfl, s2 _ _ e1, hl1, hs1, fun H3 o1 xs es s3 n3 e3 he d1 => ?_⟩
    have s13 := s12.trans s3
    repeat walk_at "i"
    refine ⟨a, ns, 2, rfl, s13.seq hS, ?_⟩
    refine ⟨p2, oth, _, rfl, s3 _ _ e2, hl2, hs2, fun H4 o2 ys fs s4 n4 e4 hf d2 => ?_⟩
    have s14 := s13.trans s4
    have e3' := s4 _ _ e3
    -- handed
    refine ⟨_, rfl, o1, xs, rfl, .inl (.inl (.inl e3')), fun c1 m1 => ?_⟩
    have t1 := same_upd (o := .lst xs) m1
    refine ⟨_, rfl, o2, ys, rfl, .inl (.inl (.inl (t1 _ _ e4))), fun c2 m2 => ?_⟩
    have t2 := same_upd (o := .lst ys) m2
    refine ⟨by show 2 ≤ sizeLine; decide, fun h m3 => ?_⟩
    have t3 := same_upd (o := .lst [V.ref c1, V.ref c2]) m3
    have t23 := t2.trans t3
    have t123 := t1.trans t23
    generalize hH5 : upd (upd (upd H4 c1 (.lst xs)) c2 (.lst ys)) h (.lst [V.ref c1, V.ref c2]) = H5 at t3 t23 t123
    have k1 : H5 p1 = some (.lst (row.map V.int)) := t123 _ _ (s4 _ _ (s3 _ _ (s2 _ _ e1)))
    have k2 : H5 p2 = some (.lst (oth.map V.int)) := t123 _ _ (s4 _ _ (s3 _ _ e2))
    have k3 : H5 o1 = some (.lst xs) := t123 _ _ e3'
    have k4 : H5 o2 = some (.lst ys) := t123 _ _ e4
    have k5 : H5 c1 = some (.lst xs) := t23 _ _ upd_same
    have k6 : H5 c2 = some (.lst ys) := t3 _ _ upd_same
    have k7 : H5 h = some (.lst [V.ref c1, V.ref c2]) := by rw [← hH5]; exact upd_same
    have he5 : EntsAre H5 xs es := (he.same s4).same t123
    have hf5 : EntsAre H5 ys fs := hf.same t123
    have hT5 : Tabs (TL P_joined) H5 := hT.ext (s14.trans t123)
    have hte := drawn_true hs1 d1
    have htf := drawn_true hs2 d2
    have le1 := d1.len
    have le2 := d2.len
    refine ⟨2, rfl, by decide, by decide, for_range (lo := 0) (n := 2) (fun i σ H6 => ∃ y7 y8 y9 y10, σ = [some (.ref a), some (.int (cellOf ns 0)), some (.ref p1), some (.ref p2), some (.ref o1), some (.ref o2), some (.ref h), y7, y8, y9, y10] ∧ ExtN H5 H6 ∧ Tabs (TL P_joined) H6) ⟨none, none, none, none, rfl, ExtN.refl _, hT5⟩ ?_ ?_⟩
    · rintro i σ H6 hi ⟨y7, y8, y9, y10, rfl, x6, T6⟩
      -- found
      refine ⟨_, rfl, h, _, _, _, rfl, rfl, .inl (.inl (ext_l x6 k7)), atI_nat (j := 0) rfl, ?_⟩
      refine ⟨_, rfl, p1, _, rfl, .inl (.inl (.inl (ext_l x6 k1))), ?_⟩
      refine ⟨_, rfl, h, _, _, _, rfl, rfl, .inl (.inl (ext_l x6 k7)), atI_nat (j := 1) rfl, ?_⟩
      refine ⟨_, rfl, p2, _, rfl, .inl (.inl (.inl (ext_l x6 k2))), ?_⟩
      refine ⟨c1, c2, xs, ys, es, fs, _, _, rfl, T6, ext_l x6 k5, ext_l x6 k6, he5.ext x6, hf5.ext x6, d1.rise, d2.rise, by omega, by omega, fun H7 fo zs x7 T7 nfo e7 hz => ?_⟩
      have x67 := x6.trans x7
      -- due
      refine ⟨_, rfl, _, rfl, p1, _, rfl, .inl (.inl (.inl (ext_l x67 k1))), _, rfl, _, rfl, p2, _, rfl, .inl (.inl (.inl (ext_l x67 k2))), ?_⟩
      refine ⟨o1, o2, xs, ys, es, fs, _, _, rfl, ext_l x67 k3, ext_l x67 k4, he5.ext x67, hf5.ext x67, d1.rise, le1, le2, fun H8 du ws s8 n8 e8 hw => ?_⟩
      have x8 := x67.trans (ExtN.of s8)
      -- back
      refine ⟨_, rfl, h, _, _, _, rfl, rfl, .inl (.inl (ext_l x8 k7)), atI_nat (j := 1) rfl, ?_⟩
      refine ⟨_, rfl, p2, _, rfl, .inl (.inl (.inl (ext_l x8 k2))), ?_⟩
      refine ⟨_, rfl, h, _, _, _, rfl, rfl, .inl (.inl (ext_l x8 k7)), atI_nat (j := 0) rfl, ?_⟩
      refine ⟨_, rfl, p1, _, rfl, .inl (.inl (.inl (ext_l x8 k1))), ?_⟩
      refine ⟨c2, c1, ys, xs, fs, es, _, _, rfl, T7.ext s8, ext_l x8 k6, ext_l x8 k5, hf5.ext x8, he5.ext x8, d2.rise, d1.rise, by omega, by omega, fun H9 ba vs x9 T9 nba e9 hv => ?_⟩
      have x89 := x8.trans x9
      have x79 := (ExtN.of s8).trans x9
      have fo9 := ext_l x79 e7
      rw [List.length_map, List.length_map] at hz hw hv
      have hjl := joinE_length es fs (row.length : Int) (oth.length : Int)
      have hjl2 := joinE_length fs es (oth.length : Int) (row.length : Int)
      -- the first test
      refine ⟨_, rfl, _, rfl, fo, du, zs, ws, _, rfl, fo9, ext_l x9 e8, hz.ext x79, hw.ext x9, by omega, fun H10 s10 => ⟨true, rfl, ?_⟩⟩
      have x10 := x89.trans (ExtN.of s10)
      refine ⟨_, rfl, _, rfl, _, rfl, p1, p2, _, _, rfl, rfl, ext_l x10 k1, ext_l x10 k2, ?_, fun rr nrr => ?_⟩
      · rw [List.length_map, List.length_map]
        exact Nat.le_trans (Nat.add_le_add hl1 hl2) (by decide)
      have srr := same_upd (o := .lst (row.map V.int ++ oth.map V.int)) nrr
      refine ⟨fo, rr, zs, joinE es (row.length : Int) fs (oth.length : Int), row ++ oth, rfl, srr _ _ (s10 _ _ fo9), ?_, ((hz.ext x79).same s10).same srr, ?_, joinE_true hte htf (Int.le_refl _) (Int.le_refl _), fun H11 s11 => ⟨true, rfl, ?_⟩⟩
      · rw [upd_same, List.map_append]
      · rw [List.length_append]
        omega
      have s10' := (s10.trans srr).trans s11
      have x11 := x89.trans (ExtN.of s10')
      -- the second test
      refine ⟨_, rfl, _, rfl, _, rfl, p2, _, rfl, .inl (.inl (.inl (ext_l x11 k2))), _, rfl, _, rfl, p1, _, rfl, .inl (.inl (.inl (ext_l x11 k1))), ?_⟩
      refine ⟨o2, o1, ys, xs, fs, es, _, _, rfl, ext_l x11 k4, ext_l x11 k3, hf5.ext x11, he5.ext x11, d2.rise, le2, le1, fun H12 du2 us s12' n12 e12 hu => ?_⟩
      rw [List.length_map, List.length_map] at hu
      have sx := s10'.trans s12'
      refine ⟨ba, du2, vs, us, _, rfl, sx _ _ e9, e12, hv.same sx, hu, by omega, fun H13 s13' => ⟨true, rfl, ?_⟩⟩
      have sy := sx.trans s13'
      have x13 := x89.trans (ExtN.of sy)
      refine ⟨_, rfl, _, rfl, _, rfl, by show 2 ≤ sizeLine; decide, fun l nl => ?_⟩
      have sl := same_upd (o := .lst [V.ref o1, V.ref o2]) nl
      have x14 := x13.trans (ExtN.of sl)
      have dat : ∀ {p1 p2 : Addr}, H5 p1 = some (.lst xs) → H5 p2 = some (.lst ys) → DpAll K (upd H13 l (.lst [V.ref o1, V.ref o2])) [.ref p1, .ref p2] [.list (es.map entD), .list (fs.map entD)] := fun a1 a2 =>
        .cons (.lst (.inl (.inl (ext_l x14 a1))) (dpAll_ents (he5.ext x14))) (.cons (.lst (.inl (.inl (ext_l x14 a2))) (dpAll_ents (hf5.ext x14))) .nil)
      refine ⟨.list [.list (es.map entD), .list (fs.map entD)], .list [.list (es.map entD), .list (fs.map entD)], .lst (.inl (.inl (ext_l x14 k7))) (dat k5 k6), .lst (.inl (.inl upd_same)) (dat k3 k4), shaped_two _ _, shaped_two _ _, _, rfl, ?_⟩
      rw [SeqAt.eqv_refl _ (SeqAt.canLay_of_shaped (shaped_two es fs))]
      -- found.clear(); back.append(..)
      have fo14 := sl _ _ (sy _ _ fo9)
      refine ⟨_, rfl, .inl ⟨rfl, _, .inl (.inl fo14)⟩, fo, zs, rfl, rfl, fo14, ?_⟩
      have nfo5 : NewN H5 fo := newN_back x6 nfo
      have nba5 : NewN H5 ba := newN_back x8 nba
      have ne : ba ≠ fo := fun z => by
        subst z
        obtain ⟨ps, z⟩ := nba _ (s8 _ _ e7)
        cases z
      have ba14 : (upd (upd H13 l (.lst [V.ref o1, V.ref o2])) fo (.lst [])) ba = some (.lst vs) := by
        rw [upd_ne ne]
        exact sl _ _ (sy _ _ e9)
      have T14 := ((T9.ext sy).ext sl)
      have x15 : ExtN H5 (upd (upd H13 l (.lst [V.ref o1, V.ref o2])) fo (.lst [])) := extN_mut x14 nfo5
      refine ⟨_, rfl, .inl ⟨rfl, _, .inl (.inl ba14)⟩, by show 3 ≤ sizeLine; decide, fun u nu => ?_⟩
      have su := same_upd (o := .tup [V.int 0, V.int 0, V.int 0]) nu
      refine ⟨ba, vs, _, rfl, rfl, su _ _ ba14, ?_, ?_⟩
      · rw [hv.length]
        exact small1000 (by omega)
      · refine ⟨_, _, _, _, rfl, ?_, ?_⟩
        · exact extN_mut (x15.trans (ExtN.of su)) nba5
        · exact tabs_upd (su _ _ ba14) ((tabs_upd fo14 T14).ext su)
    · rintro σ H6 ⟨y7, y8, y9, y10, rfl, x6, T6⟩
      exact q H6
theorem law_start {H : Hp} {a : Addr} {ns : List Int} {Pt : Addr} (h1 : ns.length ≤ 63) (h2 : ∀ z ∈ ns, Builtin.Int.intBits z ≤ 1048576) (h3 : H Pt = some (.tbl #[])) (h4 : SqL K H a (ns.map V.int)) : spLaw K (TL Pt) [.ref a] H (fun v _ => v = .bl true) fun _ _ _ => False :=
  ⟨a, ns, rfl, h4, h1, fun p hp => by
    rw [List.mem_singleton.mp hp]
    exact TabS.nil h3, fun _ => rfl⟩
end
end K02

namespace K02
open PySem PySem.Spec PyProof.Rows L2 Own LamX
theorem all_mk {l : PySem.W.OpenLaw} {w : World} {K : PySem.W.Frag} {h : Heap} {mg mb : Str → Option Value} {mean : ExcName → Option Value} {qq : Program} {loose : List Str} {fa f0 f1 f2 f3 f4 f5 f6 f7 f8 f9 f10 f11 f12 f13 f14 f15 : Addr} (T : Top qq loose mean mg mb h) (X : K.In h) (G : h.Ns mainGlobals mg) (hfa : mg "law" = some (.ref fa))
    {od0 an0 : Option Addr} {sl0 : Array (Option Value)} {oc0 kV0 dc0 pm0 cd0 ct0 : Value} {od1 an1 : Option Addr} {sl1 : Array (Option Value)} {oc1 kV1 dc1 pm1 cd1 ct1 : Value} {od2 an2 : Option Addr} {sl2 : Array (Option Value)} {oc2 kV2 dc2 pm2 cd2 ct2 : Value} {od3 an3 : Option Addr} {sl3 : Array (Option Value)} {oc3 kV3 dc3 pm3 cd3 ct3 : Value} {od4 an4 : Option Addr} {sl4 : Array (Option Value)} {oc4 kV4 dc4 pm4 cd4 ct4 : Value} {od5 an5 : Option Addr} {sl5 : Array (Option Value)} {oc5 kV5 dc5 pm5 cd5 ct5 : Value} {od6 an6 : Option Addr} {sl6 : Array (Option Value)} {oc6 kV6 dc6 pm6 cd6 ct6 : Value} {od7 an7 : Option Addr} {sl7 : Array (Option Value)} {oc7 kV7 dc7 pm7 cd7 ct7 : Value} {od8 an8 : Option Addr} {sl8 : Array (Option Value)} {oc8 kV8 dc8 pm8 cd8 ct8 : Value} {od9 an9 : Option Addr} {sl9 : Array (Option Value)} {oc9 kV9 dc9 pm9 cd9 ct9 : Value} {od10 an10 : Option Addr} {sl10 : Array (Option Value)} {oc10 kV10 dc10 pm10 cd10 ct10 : Value} {od11 an11 : Option Addr} {sl11 : Array (Option Value)} {oc11 kV11 dc11 pm11 cd11 ct11 : Value} {od12 an12 : Option Addr} {sl12 : Array (Option Value)} {oc12 kV12 dc12 pm12 cd12 ct12 : Value} {od13 an13 : Option Addr} {sl13 : Array (Option Value)} {oc13 kV13 dc13 pm13 cd13 ct13 : Value} {od14 an14 : Option Addr} {sl14 : Array (Option Value)} {oc14 kV14 dc14 pm14 cd14 ct14 : Value} {od15 an15 : Option Addr} {sl15 : Array (Option Value)} {oc15 kV15 dc15 pm15 cd15 ct15 : Value} {e_joined : DefRec} {co_joined P_joined : Addr}
    (a0 : PySem.W.nsIn K mainGlobals "joined" = some (some (.ref f0)))
    (l0 : K.lookup f0 = some ⟨oc0, od0, .func (PySem.W.fnOf "joined" "joined" (defArgs s_joined) (defBody s_joined) (defScope s_joined) .none kV0 dc0 pm0 an0 cd0 ct0), sl0⟩)
    (c0 : PySem.W.codeIn K cd0 "joined" = true)
    (k0 : PySem.W.keepIn K (.ref f0) = true)
    (a1 : PySem.W.nsIn K mainGlobals "_lifted" = some (some (.ref f1)))
    (l1 : K.lookup f1 = some ⟨oc1, od1, .func (PySem.W.fnOf "_lifted" "_lifted" (defArgs s__lifted) (defBody s__lifted) (defScope s__lifted) .none kV1 dc1 pm1 an1 cd1 ct1), sl1⟩)
    (c1 : PySem.W.codeIn K cd1 "_lifted" = true)
    (k1 : PySem.W.keepIn K (.ref f1) = true)
    (a2 : PySem.W.nsIn K mainGlobals "_added_to_least" = some (some (.ref f2)))
    (l2 : K.lookup f2 = some ⟨oc2, od2, .func (PySem.W.fnOf "_added_to_least" "_added_to_least" (defArgs s__added_to_least) (defBody s__added_to_least) (defScope s__added_to_least) .none kV2 dc2 pm2 an2 cd2 ct2), sl2⟩)
    (c2 : PySem.W.codeIn K cd2 "_added_to_least" = true)
    (k2 : PySem.W.keepIn K (.ref f2) = true)
    (a3 : PySem.W.nsIn K mainGlobals "_added_to_most" = some (some (.ref f3)))
    (l3 : K.lookup f3 = some ⟨oc3, od3, .func (PySem.W.fnOf "_added_to_most" "_added_to_most" (defArgs s__added_to_most) (defBody s__added_to_most) (defScope s__added_to_most) .none kV3 dc3 pm3 an3 cd3 ct3), sl3⟩)
    (c3 : PySem.W.codeIn K cd3 "_added_to_most" = true)
    (k3 : PySem.W.keepIn K (.ref f3) = true)
    (a4 : PySem.W.nsIn K mainGlobals "_first_no_less" = some (some (.ref f4)))
    (l4 : K.lookup f4 = some ⟨oc4, od4, .func (PySem.W.fnOf "_first_no_less" "_first_no_less" (defArgs s__first_no_less) (defBody s__first_no_less) (defScope s__first_no_less) .none kV4 dc4 pm4 an4 cd4 ct4), sl4⟩)
    (c4 : PySem.W.codeIn K cd4 "_first_no_less" = true)
    (k4 : PySem.W.keepIn K (.ref f4) = true)
    (a5 : PySem.W.nsIn K mainGlobals "_law_cell" = some (some (.ref f5)))
    (l5 : K.lookup f5 = some ⟨oc5, od5, .func (PySem.W.fnOf "_law_cell" "_law_cell" (defArgs s__law_cell) (defBody s__law_cell) (defScope s__law_cell) .none kV5 dc5 pm5 an5 cd5 ct5), sl5⟩)
    (c5 : PySem.W.codeIn K cd5 "_law_cell" = true)
    (k5 : PySem.W.keepIn K (.ref f5) = true)
    (a6 : PySem.W.nsIn K mainGlobals "_law_mixed" = some (some (.ref f6)))
    (l6 : K.lookup f6 = some ⟨oc6, od6, .func (PySem.W.fnOf "_law_mixed" "_law_mixed" (defArgs s__law_mixed) (defBody s__law_mixed) (defScope s__law_mixed) .none kV6 dc6 pm6 an6 cd6 ct6), sl6⟩)
    (c6 : PySem.W.codeIn K cd6 "_law_mixed" = true)
    (k6 : PySem.W.keepIn K (.ref f6) = true)
    (a7 : PySem.W.nsIn K mainGlobals "_law_reading" = some (some (.ref f7)))
    (l7 : K.lookup f7 = some ⟨oc7, od7, .func (PySem.W.fnOf "_law_reading" "_law_reading" (defArgs s__law_reading) (defBody s__law_reading) (defScope s__law_reading) .none kV7 dc7 pm7 an7 cd7 ct7), sl7⟩)
    (c7 : PySem.W.codeIn K cd7 "_law_reading" = true)
    (k7 : PySem.W.keepIn K (.ref f7) = true)
    (a8 : PySem.W.nsIn K mainGlobals "_law_whole" = some (some (.ref f8)))
    (l8 : K.lookup f8 = some ⟨oc8, od8, .func (PySem.W.fnOf "_law_whole" "_law_whole" (defArgs s__law_whole) (defBody s__law_whole) (defScope s__law_whole) .none kV8 dc8 pm8 an8 cd8 ct8), sl8⟩)
    (c8 : PySem.W.codeIn K cd8 "_law_whole" = true)
    (k8 : PySem.W.keepIn K (.ref f8) = true)
    (a9 : PySem.W.nsIn K mainGlobals "_law_row" = some (some (.ref f9)))
    (l9 : K.lookup f9 = some ⟨oc9, od9, .func (PySem.W.fnOf "_law_row" "_law_row" (defArgs s__law_row) (defBody s__law_row) (defScope s__law_row) .none kV9 dc9 pm9 an9 cd9 ct9), sl9⟩)
    (c9 : PySem.W.codeIn K cd9 "_law_row" = true)
    (k9 : PySem.W.keepIn K (.ref f9) = true)
    (a10 : PySem.W.nsIn K mainGlobals "_law_some" = some (some (.ref f10)))
    (l10 : K.lookup f10 = some ⟨oc10, od10, .func (PySem.W.fnOf "_law_some" "_law_some" (defArgs s__law_some) (defBody s__law_some) (defScope s__law_some) .none kV10 dc10 pm10 an10 cd10 ct10), sl10⟩)
    (c10 : PySem.W.codeIn K cd10 "_law_some" = true)
    (k10 : PySem.W.keepIn K (.ref f10) = true)
    (a11 : PySem.W.nsIn K mainGlobals "_law_counted" = some (some (.ref f11)))
    (l11 : K.lookup f11 = some ⟨oc11, od11, .func (PySem.W.fnOf "_law_counted" "_law_counted" (defArgs s__law_counted) (defBody s__law_counted) (defScope s__law_counted) .none kV11 dc11 pm11 an11 cd11 ct11), sl11⟩)
    (c11 : PySem.W.codeIn K cd11 "_law_counted" = true)
    (k11 : PySem.W.keepIn K (.ref f11) = true)
    (a12 : PySem.W.nsIn K mainGlobals "_law_due" = some (some (.ref f12)))
    (l12 : K.lookup f12 = some ⟨oc12, od12, .func (PySem.W.fnOf "_law_due" "_law_due" (defArgs s__law_due) (defBody s__law_due) (defScope s__law_due) .none kV12 dc12 pm12 an12 cd12 ct12), sl12⟩)
    (c12 : PySem.W.codeIn K cd12 "_law_due" = true)
    (k12 : PySem.W.keepIn K (.ref f12) = true)
    (a13 : PySem.W.nsIn K mainGlobals "_law_like" = some (some (.ref f13)))
    (l13 : K.lookup f13 = some ⟨oc13, od13, .func (PySem.W.fnOf "_law_like" "_law_like" (defArgs s__law_like) (defBody s__law_like) (defScope s__law_like) .none kV13 dc13 pm13 an13 cd13 ct13), sl13⟩)
    (c13 : PySem.W.codeIn K cd13 "_law_like" = true)
    (k13 : PySem.W.keepIn K (.ref f13) = true)
    (a14 : PySem.W.nsIn K mainGlobals "_law_true" = some (some (.ref f14)))
    (l14 : K.lookup f14 = some ⟨oc14, od14, .func (PySem.W.fnOf "_law_true" "_law_true" (defArgs s__law_true) (defBody s__law_true) (defScope s__law_true) .none kV14 dc14 pm14 an14 cd14 ct14), sl14⟩)
    (c14 : PySem.W.codeIn K cd14 "_law_true" = true)
    (k14 : PySem.W.keepIn K (.ref f14) = true)
    (a15 : PySem.W.nsIn K mainGlobals "law" = some (some (.ref f15)))
    (l15 : K.lookup f15 = some ⟨oc15, od15, .func (PySem.W.fnOf "law" "law" (defArgs s_law) (defBody s_law) (defScope s_law) .none kV15 dc15 pm15 an15 cd15 ct15), sl15⟩)
    (c15 : PySem.W.codeIn K cd15 "law" = true)
    (k15 : PySem.W.keepIn K (.ref f15) = true)
    (z_all : PySem.W.nsIn K mainGlobals "all" = some none)
    (z_bool : PySem.W.nsIn K mainGlobals "bool" = some none)
    (z_enumerate : PySem.W.nsIn K mainGlobals "enumerate" = some none)
    (z_int : PySem.W.nsIn K mainGlobals "int" = some none)
    (z_isinstance : PySem.W.nsIn K mainGlobals "isinstance" = some none)
    (z_len : PySem.W.nsIn K mainGlobals "len" = some none)
    (z_list : PySem.W.nsIn K mainGlobals "list" = some none)
    (z_range : PySem.W.nsIn K mainGlobals "range" = some none)
    (z_sorted : PySem.W.nsIn K mainGlobals "sorted" = some none)
    (z_tuple : PySem.W.nsIn K mainGlobals "tuple" = some none)
    (z_zip : PySem.W.nsIn K mainGlobals "zip" = some none)
    (hr_joined : (recsOf qq).find? (fun e => e.name == ("joined" : Str)) = some e_joined)
    (ht_joined : PySem.W.tabIn K "joined" = some (co_joined, P_joined))
    (hn_joined : K.lookup P_joined = none) :
    LawAtS l w K CX0 6 63 "_law_script" mg fa h := by
  have e := hfa.symm.trans (PySem.W.mg_of X G a15)
  cases e
  have B : Bi mg := ⟨PySem.W.mg_none_of X G z_all, PySem.W.mg_none_of X G z_bool, PySem.W.mg_none_of X G z_enumerate, PySem.W.mg_none_of X G z_int, PySem.W.mg_none_of X G z_isinstance, PySem.W.mg_none_of X G z_len, PySem.W.mg_none_of X G z_list, PySem.W.mg_none_of X G z_range, PySem.W.mg_none_of X G z_sorted, PySem.W.mg_none_of X G z_tuple, PySem.W.mg_none_of X G z_zip⟩
  have he_joined : cd0 = .ref co_joined := PySem.W.law_code X G ht_joined (PySem.W.mg_of X G a0) (X _ _ l0) rfl
  have F0 := funC_mk (st := s_joined) l0 c0 k0 he_joined
  have b0 := F0.fn.binds (ps := ["ones", "many", "others", "more"]) fun _ _ _ _ _ _ us hl => match us, hl with | [_, _, _, _], _ => rfl
  have tb_joined := PySem.W.tab_of T X hr_joined ht_joined
  have F1 := fun_mk (st := s__lifted) l1 c1 k1
  have b1 := F1.binds (ps := ["entries", "others", "more"]) fun _ _ _ _ _ _ us hl => match us, hl with | [_, _, _], _ => rfl
  have F2 := fun_mk (st := s__added_to_least) l2 c2 k2
  have b2 := F2.binds (ps := ["reading", "others"]) fun _ _ _ _ _ _ us hl => match us, hl with | [_, _], _ => rfl
  have F3 := fun_mk (st := s__added_to_most) l3 c3 k3
  have b3 := F3.binds (ps := ["reading", "others", "more"]) fun _ _ _ _ _ _ us hl => match us, hl with | [_, _, _], _ => rfl
  have F4 := fun_mk (st := s__first_no_less) l4 c4 k4
  have b4 := F4.binds (ps := ["entries", "reading"]) fun _ _ _ _ _ _ us hl => match us, hl with | [_, _], _ => rfl
  have F5 := fun_mk (st := s__law_cell) l5 c5 k5
  have b5 := F5.binds (ps := ["_law_script", "_law_k"]) fun _ _ _ _ _ _ us hl => match us, hl with | [_, _], _ => rfl
  have F6 := fun_mk (st := s__law_mixed) l6 c6 k6
  have b6 := F6.binds (ps := ["_law_cell_here", "_law_k"]) fun _ _ _ _ _ _ us hl => match us, hl with | [_, _], _ => rfl
  have F7 := fun_mk (st := s__law_reading) l7 c7 k7
  have b7 := F7.binds (ps := ["_law_cell_here"]) fun _ _ _ _ _ _ us hl => match us, hl with | [_], _ => rfl
  have F8 := fun_mk (st := s__law_whole) l8 c8 k8
  have b8 := F8.binds (ps := ["_law_found", "_law_due_here"]) fun _ _ _ _ _ _ us hl => match us, hl with | [_, _], _ => rfl
  have F9 := fun_mk (st := s__law_row) l9 c9 k9
  have b9 := F9.binds (ps := ["_law_script", "_law_first", "_law_cell_here"]) fun _ _ _ _ _ _ us hl => match us, hl with | [_, _, _], _ => rfl
  have F10 := fun_mk (st := s__law_some) l10 c10 k10
  have b10 := F10.binds (ps := ["_law_row_here", "_law_cell_here"]) fun _ _ _ _ _ _ us hl => match us, hl with | [_, _], _ => rfl
  have F11 := fun_mk (st := s__law_counted) l11 c11 k11
  have b11 := F11.binds (ps := ["_law_entry", "_law_others", "_law_more"]) fun _ _ _ _ _ _ us hl => match us, hl with | [_, _, _], _ => rfl
  have F12 := fun_mk (st := s__law_due) l12 c12 k12
  have b12 := F12.binds (ps := ["_law_ones", "_law_many", "_law_others", "_law_more"]) fun _ _ _ _ _ _ us hl => match us, hl with | [_, _, _, _], _ => rfl
  have F13 := fun_mk (st := s__law_like) l13 c13 k13
  have b13 := F13.binds (ps := ["_law_found", "_law_due_here"]) fun _ _ _ _ _ _ us hl => match us, hl with | [_, _], _ => rfl
  have F14 := fun_mk (st := s__law_true) l14 c14 k14
  have b14 := F14.binds (ps := ["_law_entries", "_law_row_here"]) fun _ _ _ _ _ _ us hl => match us, hl with | [_, _], _ => rfl
  have F15 := fun_mk (st := s_law) l15 c15 k15
  have b15 := F15.binds (ps := ["_law_script"]) fun _ _ _ _ _ _ us hl => match us, hl with | [_], _ => rfl
  refine ⟨PySem.W.fnOf "law" "law" (defArgs s_law) (defBody s_law) (defScope s_law) .none kV15 dc15 pm15 an15 cd15 ct15, [(co_joined, P_joined)], (spLaw K (TL P_joined)), fun p hp => ?_, fun p hp => ?_, fun p hp => ?_, fun s v => .of_eq rfl, ?_, fun base hb1 hb2 TBs => ?_⟩
  · rw [List.mem_singleton.mp hp]
    exact tb_joined.2
  · rw [List.mem_singleton.mp hp]
    exact hn_joined
  · rw [List.mem_singleton.mp hp]
    exact tb_joined.1
  · intro H a ns h1 h2 h3 h4
    exact law_start h1 h2 (h3 _ (List.mem_singleton.mpr rfl)) h4
  have TB_joined := TBs _ (List.mem_singleton.mpr rfl)
  have C__law_cell : CalK l.prog w K mg base 1 "_law_cell" (spCell K) := ⟨_, _, _, ok_cell F5 B , PySem.W.mg_of X G a5, F5.kp, b5⟩
  have C__law_mixed : CalK l.prog w K mg base 1 "_law_mixed" spMixed := ⟨_, _, _, ok_mixed F6 B , PySem.W.mg_of X G a6, F6.kp, b6⟩
  have C__law_reading : CalK l.prog w K mg base 2 "_law_reading" spReading := ⟨_, _, _, ok_reading F7 B C__law_mixed, PySem.W.mg_of X G a7, F7.kp, b7⟩
  have C__law_row : CalK l.prog w K mg base 3 "_law_row" (spRow K) := ⟨_, _, _, ok_row F9 B C__law_cell C__law_reading, PySem.W.mg_of X G a9, F9.kp, b9⟩
  have C__law_some : CalK l.prog w K mg base 2 "_law_some" (spSome K) := ⟨_, _, _, ok_some F10 B C__law_mixed, PySem.W.mg_of X G a10, F10.kp, b10⟩
  have C__first_no_less : CalK l.prog w K mg base 1 "_first_no_less" (spNoLess K) := ⟨_, _, _, ok_no_less F4 B , PySem.W.mg_of X G a4, F4.kp, b4⟩
  have C__added_to_most : CalK l.prog w K mg base 2 "_added_to_most" (spAddMost K) := ⟨_, _, _, ok_add_most F3 B C__first_no_less, PySem.W.mg_of X G a3, F3.kp, b3⟩
  have C__added_to_least : CalK l.prog w K mg base 2 "_added_to_least" (spAddLeast K) := ⟨_, _, _, ok_add_least F2 B C__first_no_less, PySem.W.mg_of X G a2, F2.kp, b2⟩
  have C__lifted : CalK l.prog w K mg base 3 "_lifted" (spLifted K) := ⟨_, _, _, ok_lifted F1 B C__added_to_most C__added_to_least, PySem.W.mg_of X G a1, F1.kp, b1⟩
  have C_joined : CalK l.prog w K mg base 5 "joined" (spJoined K (TL P_joined)) := ⟨_, _, _, ok_joined F0 TB_joined B C__lifted, PySem.W.mg_of X G a0, F0.kp, b0⟩
  have C__law_counted : CalK l.prog w K mg base 1 "_law_counted" (spCounted K) := ⟨_, _, _, ok_counted F11 B , PySem.W.mg_of X G a11, F11.kp, b11⟩
  have C__law_due : CalK l.prog w K mg base 2 "_law_due" (spDue K) := ⟨_, _, _, ok_due F12 B C__law_counted, PySem.W.mg_of X G a12, F12.kp, b12⟩
  have C__law_whole : CalK l.prog w K mg base 1 "_law_whole" spWhole := ⟨_, _, _, ok_whole F8 B , PySem.W.mg_of X G a8, F8.kp, b8⟩
  have C__law_like : CalK l.prog w K mg base 2 "_law_like" (spLike K) := ⟨_, _, _, ok_like F13 B C__law_whole, PySem.W.mg_of X G a13, F13.kp, b13⟩
  have C__law_true : CalK l.prog w K mg base 1 "_law_true" (spTrue K) := ⟨_, _, _, ok_true F14 B , PySem.W.mg_of X G a14, F14.kp, b14⟩
  exact ok_law F15 B C__law_cell C__law_row C__law_some C_joined C__law_due C__law_like C__law_true
end K02
open PySem PySem.W PyProof.Rows
set_option maxRecDepth 100000 in
set_option maxHeartbeats 0 in
theorem PySem.Challenge.cw_rankbounds_k02_entries_joined_holds : PySem.Challenge.rw_rankbounds_k02_entries_joined.Holds := by
  w_on; o_law; k_head; (case hw => w_witness2)
  k_fill
  refine Own.walk_ofT (l := PySem.Challenge.rw_rankbounds_k02_entries_joined) (n := 63) (k := 6) (x := "_law_script") (CX := fun _ => L2.CX0) rfl (by decide) rfl ⟨rfl, by decide, by decide⟩ (fun w h Y => PySem.W.km_in_of Y) ?F (fun _ _ _ _ _ h => h)
  case F =>
    intro w mg mb mean fa h T KX G hmg
    refine' K02.all_mk T KX G hmg ?a0 ?l0 ?c0 ?k0 ?a1 ?l1 ?c1 ?k1 ?a2 ?l2 ?c2 ?k2 ?a3 ?l3 ?c3 ?k3 ?a4 ?l4 ?c4 ?k4 ?a5 ?l5 ?c5 ?k5 ?a6 ?l6 ?c6 ?k6 ?a7 ?l7 ?c7 ?k7 ?a8 ?l8 ?c8 ?k8 ?a9 ?l9 ?c9 ?k9 ?a10 ?l10 ?c10 ?k10 ?a11 ?l11 ?c11 ?k11 ?a12 ?l12 ?c12 ?k12 ?a13 ?l13 ?c13 ?k13 ?a14 ?l14 ?c14 ?k14 ?a15 ?l15 ?c15 ?k15 ?z_all ?z_bool ?z_enumerate ?z_int ?z_isinstance ?z_len ?z_list ?z_range ?z_sorted ?z_tuple ?z_zip ?hr_joined ?ht_joined ?hn_joined
    (case a0 => k_is)
    (case l0 => k_is)
    (case c0 => k_is)
    (case k0 => k_is)
    (case a1 => k_is)
    (case l1 => k_is)
    (case c1 => k_is)
    (case k1 => k_is)
    (case a2 => k_is)
    (case l2 => k_is)
    (case c2 => k_is)
    (case k2 => k_is)
    (case a3 => k_is)
    (case l3 => k_is)
    (case c3 => k_is)
    (case k3 => k_is)
    (case a4 => k_is)
    (case l4 => k_is)
    (case c4 => k_is)
    (case k4 => k_is)
    (case a5 => k_is)
    (case l5 => k_is)
    (case c5 => k_is)
    (case k5 => k_is)
    (case a6 => k_is)
    (case l6 => k_is)
    (case c6 => k_is)
    (case k6 => k_is)
    (case a7 => k_is)
    (case l7 => k_is)
    (case c7 => k_is)
    (case k7 => k_is)
    (case a8 => k_is)
    (case l8 => k_is)
    (case c8 => k_is)
    (case k8 => k_is)
    (case a9 => k_is)
    (case l9 => k_is)
    (case c9 => k_is)
    (case k9 => k_is)
    (case a10 => k_is)
    (case l10 => k_is)
    (case c10 => k_is)
    (case k10 => k_is)
    (case a11 => k_is)
    (case l11 => k_is)
    (case c11 => k_is)
    (case k11 => k_is)
    (case a12 => k_is)
    (case l12 => k_is)
    (case c12 => k_is)
    (case k12 => k_is)
    (case a13 => k_is)
    (case l13 => k_is)
    (case c13 => k_is)
    (case k13 => k_is)
    (case a14 => k_is)
    (case l14 => k_is)
    (case c14 => k_is)
    (case k14 => k_is)
    (case a15 => k_is)
    (case l15 => k_is)
    (case c15 => k_is)
    (case k15 => k_is)
    (case z_all => k_is)
    (case z_bool => k_is)
    (case z_enumerate => k_is)
    (case z_int => k_is)
    (case z_isinstance => k_is)
    (case z_len => k_is)
    (case z_list => k_is)
    (case z_range => k_is)
    (case z_sorted => k_is)
    (case z_tuple => k_is)
    (case z_zip => k_is)
    (case hr_joined => rfl)
    (case ht_joined => first | k_is | rfl | decide +kernel)
    (case hn_joined => first | k_is | rfl | decide +kernel)
