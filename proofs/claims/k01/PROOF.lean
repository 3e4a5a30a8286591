import PyProof.Rows.All
import Wide.All
import OpenK.AllK
import Wide.FinOn
import HandS.ForMost
import HandS.SortInts
import HandS.IsInst
import HandS.Zip
import HandS.Walk
import HandS.Evl
import HandS.More
import PySem.Challenge.RW_rankbounds_k01_entries_exact
set_option Elab.async false
set_option linter.all false
set_option maxRecDepth 100000
set_option maxHeartbeats 4000000
/-! Own rules over the hand layer: calls by promises, a slice by twos. -/
namespace Own
open PySem PySem.Spec PyProof.Rows L2
/-- a def of the module that may be called by its name -/
structure CalK (P : Program) (w : World) (K : PySem.W.Frag) (mg : Str → Option Value) (base : Heap) (k : Nat) (x : Str) (sp : Sp) : Prop where
  ex : ∃ (f : Addr) (fd : FuncData) (ps : List Str), FnOk P w K mg base CX0 k f fd ps sp ∧ mg x = some (.ref f) ∧ PySem.W.keepIn K (.ref f) = true ∧ Binds K fd ps []
section
variable {X : Cx} {k j : Nat} {x : Str} {sp : Sp} {p pos apos : Pos} {e o : Expr} {es : List Expr} {ta : TE} {t : TA}
theorem pe_k (c : CalK X.prog X.w X.K X.mg X.base k x sp) (hr : Room j X.A) (hk : k ≤ j) (hg : Gl X x) (ha : PA X (e :: es) t)
    (hdb : (x == ("__debug__" : Str)) = false := by decide) (he : starEach (e :: es) X.env = (false, eval e X.env) :: starEach es X.env := by rfl) (hpl : (backTo pos (starEach es X.env)).any (·.1) = false := by rfl) :
    PE X (.Call (.Name x p) (e :: es) [] pos) (tCall sp [] E0 t) := by
  obtain ⟨f, fd, ps, F, hm, kp, b⟩ := c.ex
  exact pe_call F (hr.mono hk) hg hm kp b .nil pass0 ha hdb he hpl
/-! xs[1::2] -/
def odds {α : Type} : List α → List α
  | _ :: y :: r => y :: odds r
  | _ => []
theorem odds_length {α : Type} : ∀ l : List α, (odds l).length = l.length / 2
  | [] => by simp [odds]
  | [_] => by simp [odds]
  | _ :: _ :: r => by
    show (odds r).length + 1 = (r.length + 1 + 1) / 2
    rw [odds_length r]
    omega
theorem vals_odds : ∀ {xs : List V} {us : List Value}, Vals xs us → Vals (odds xs) (Own.odds us)
  | _, _, .nil => .nil
  | _, _, .cons _ .nil => .nil
  | _, _, .cons _ (.cons r t) => .cons r (vals_odds t)
end
theorem odds_pick {α : Type} : ∀ l : List α, (List.range (l.length / 2)).filterMap (fun k => l[1 + 2 * k]?) = odds l
  | [] => by simp [odds]
  | [_] => by simp [odds]
  | x :: y :: r => by
    have e : (x :: y :: r).length / 2 = r.length / 2 + 1 := by
      show (r.length + 1 + 1) / 2 = r.length / 2 + 1
      omega
    rw [e, List.range_succ_eq_map, List.filterMap_cons]
    have e0 : (x :: y :: r)[1 + 2 * 0]? = some y := rfl
    rw [e0]
    show y :: List.filterMap (fun k => (x :: y :: r)[1 + 2 * k]?) (List.map Nat.succ (List.range (r.length / 2))) = y :: odds r
    rw [List.filterMap_map, ← odds_pick r]
    have e1 : ((fun k => (x :: y :: r)[1 + 2 * k]?) ∘ Nat.succ) = fun k => r[1 + 2 * k]? := by
      funext k
      show (x :: y :: r)[1 + 2 * (k + 1)]? = r[1 + 2 * k]?
      rw [show 1 + 2 * (k + 1) = (1 + 2 * k) + 1 + 1 by omega, List.getElem?_cons_succ, List.getElem?_cons_succ]
    rw [e1]
theorem pick_odds (its : List Value) : slicePick its.toArray (some 1) none (some 2) = (odds its).toArray := by
  unfold slicePick
  have hb : sliceBounds (some 1) none (some 2) its.toArray.size = (((min 1 its.length : Nat) : Int), (its.length : Int), 2) := by
    simp only [sliceBounds, List.size_toArray]
    refine Prod.ext ?_ (Prod.ext ?_ rfl)
    · simp only [Option.getD_some]
      split <;> omega
    · simp only [Option.getD_some]
      split <;> omega
  rw [hb]
  have hr : sliceRange ((min 1 its.length : Nat) : Int) (its.length : Int) 2 = (List.range (its.length / 2)).map fun k => 1 + 2 * k := by
    unfold sliceRange
    simp only [show (2 : Int) > 0 by decide, if_true]
    by_cases h : ((min 1 its.length : Nat) : Int) < (its.length : Int)
    · rw [if_pos h]
      have e : ((its.length : Int) - ((min 1 its.length : Nat) : Int) + 2 - 1) / 2 = ((its.length / 2 : Nat) : Int) := by omega
      rw [e, Int.toNat_natCast]
      apply List.map_congr_left
      intro k hk
      omega
    · rw [if_neg h]
      have e : its.length / 2 = 0 := by omega
      rw [e]
      rfl
  rw [hr, List.filterMap_map]
  have e2 : ((fun i => its.toArray[i]?) ∘ fun k => 1 + 2 * k) = fun k => its[1 + 2 * k]? := by
    funext k
    show its.toArray[1 + 2 * k]? = its[1 + 2 * k]?
    simp
  rw [e2, odds_pick]
section
variable {X : Cx}
/-- xs[1::2] of a list: a new list -/
def tStep2 (K : PySem.W.Frag) (te : TE) : TE := fun σ H Q => te σ H fun x H1 => ∃ a xs, x = .ref a ∧ SqL K H1 a xs ∧ ∀ p, H1 p = none → Q (.ref p) (upd H1 p (.lst (odds xs)))
theorem pe_step2 {e : Expr} {te : TE} {k1 k2 : Nat} {p1 p2 p3 pos : Pos} (he : PE X e te) : PE X (.Subscript e (.Slice (some (.Constant (.int 1) k1 p1)) none (some (.Constant (.int 2) k2 p2)) p3) pos) (tStep2 X.K te) := by
  refine ⟨fun pins s σ H Q I h => ?_⟩
  refine Subscript_ (thn (he.run pins s σ H _ I h) fun v s1 hv => ?_)
  obtain ⟨x, H1, I1, r1, a, xs, ex, hx, q⟩ := hv
  subst ex
  cases r1
  have hlo : PO X (some (.Constant (.int 1) k1 p1)) (tPart (tC (.int 1))) := po_some pe_int
  have hst : PO X (some (.Constant (.int 2) k2 p2)) (tPart (tC (.int 2))) := po_some pe_int
  refine wpAny_Slice (thn (hlo.run pins s1 σ H1 (fun o H2 => o = some 1 ∧ H2 = H1) I1 ⟨1, rfl, rfl, rfl⟩) fun vl s2 hv2 => ?_)
  obtain ⟨l, H2, I2, pl, el, e2⟩ := hv2
  subst el e2
  refine thn (po_none.run pins s2 σ H2 (fun o H3 => o = none ∧ H3 = H2) I2 ⟨rfl, rfl⟩) fun vu s3 hv3 => ?_
  obtain ⟨u, H3, I3, pu, eu, e3⟩ := hv3
  subst eu e3
  refine thn (hst.run pins s3 σ H3 (fun o H4 => o = some 2 ∧ H4 = H3) I3 ⟨2, rfl, rfl, rfl⟩) fun vs s4 hv4 => ?_
  obtain ⟨o, H4, I4, ps, eo, e4⟩ := hv4
  subst eo e4
  have I5 : Inv X pins σ H4 { s4 with heap := s4.heap.push { cls := .type "slice", data := .fields #[vl, vu, vs] } } := I4.kept (t' := s4.toks) fun b ob q => Heap.get?_push_of_some _ q
  obtain ⟨its, r, ht, hz⟩ := I5.list hx
  have hlen := r.length
  show wpAny (model X.prog X.w) X.A (subscriptTail e (.Slice (some (.Constant (.int 1) k1 p1)) none (some (.Constant (.int 2) k2 p2)) p3) (.ref a) (.ref s4.heap.objs.size)) (EP X pins σ Q) X.xe { s4 with heap := s4.heap.push { cls := .type "slice", data := .fields #[vl, vu, vs] } }
  refine tail_any (ops := [.ref a, .ref s4.heap.objs.size]) ht.isList.typeIs (PySem.slot_list_getitem.lookup) ?_ (by with_unfolding_all rfl)
  refine wpAny_getItem_list_slice ht.isList (Heap.IsSliceOf.new _ vl vu vs) pl pu ps (by decide) ?_ (by rw [List.size_toArray]; omega)
  rw [pick_odds]
  refine ⟨.ref _, _, I5.laid (t' := s4.toks) (o := .lst (odds xs)) (fun b ob q => Heap.get?_push_of_some _ q) (Nat.le_refl _) ?_, rfl, q _ (I5.hok.fresh (Nat.le_refl _))⟩
  exact ⟨by rw [odds_length]; omega, _, 0, vals_odds r, Heap.get?_push_size _ rfl⟩
end

section
variable {X : Cx} {K : PySem.W.Frag}
theorem ix_listK (h : X.K = K := by rfl) : IxR X (rIxL K) := h ▸ ix_list
theorem ix_tupK (h : X.K = K := by rfl) : IxR X (rIxT K) := h ▸ ix_tup
theorem call_lenK (h : X.K = K := by rfl) : CallR X (.builtin "len") (Evl.rLenS K) := by
  subst h
  exact call_len_seq
theorem call_listK (h : X.K = K := by rfl) : CallR X (.type "list") (Evl.rListS K) := by
  subst h
  exact call_list_of
theorem call_isiK1 (h : X.K = K := by rfl) : CallR X (.builtin "isinstance") (rIsi K) := h ▸ call_isi
theorem cr_sumK (hc : X.calm = true) (h : X.K = K := by rfl) : CallR X (.builtin "sum") (rSum K) := h ▸ cr_sum hc
theorem cr_allK (hc : X.calm = true) (h : X.K = K := by rfl) : CallR X (.builtin "all") (rAll K) := h ▸ cr_all hc
theorem cr_anyK (hc : X.calm = true) (h : X.K = K := by rfl) : CallR X (.builtin "any") (rAny K) := h ▸ cr_any hc
theorem cr_sortedK (h : X.K = K := by rfl) : CallR X (.builtin "sorted") (rSortedI K) := h ▸ cr_sortedI
theorem pe_fldK {e : Expr} {f : Str} {pos : Pos} {ta : TE} (he : PE X e ta) (h : X.K = K := by rfl) (hb : attributeBase e f X.env (eval e X.env) = eval e X.env := by rfl) : PE X (.Attribute e f pos) (tFld K ta f) := h ▸ pe_fld he hb
theorem pg_tupK {es : List Expr} {k : Nat} {pos : Pos} {t : TGs} {n : Nat} (hc : X.calm = true) (hp : PGs X es t) (h : X.K = K := by rfl) (hn : (assignEach es X.env).length = n := by rfl) (hst : (assignEach es X.env).findIdx? (·.1) = none := by rfl) : PG X (.Tuple es k pos) (gTup K n t) := h ▸ pg_tup hc hp hn hst
theorem op_eqDK (hu : X.A.units + 64 < cLine) (h : X.K = K := by rfl) : OpR X (compareOp .Eq) (rEqD K) := h ▸ op_eqD hu
theorem op_neDK (hu : X.A.units + 64 < cLine) (h : X.K = K := by rfl) : OpR X (compareOp .NotEq) (rNeD K) := h ▸ op_neD hu
theorem op_inK (h : X.K = K := by rfl) : OpR X (compareOp .In) (rIn K false) := h ▸ op_in_seq
theorem op_notInK (h : X.K = K := by rfl) : OpR X (compareOp .NotIn) (rIn K true) := h ▸ op_notIn_seq
theorem pi_listK {tg l : Expr} {tl : TE} (hl : PE X l tl) (h : X.K = K := by rfl) : PI X tg l (iList K tl) := h ▸ pi_list hl
theorem pi_tupK {tg l : Expr} {tl : TE} (hl : PE X l tl) (h : X.K = K := by rfl) : PI X tg l (iTup K tl) := h ▸ pi_tup hl
end

section
variable {K : PySem.W.Frag} {a b : Addr} {xs ys : List V}
theorem walk_zipT {n : Nat} (hn : n = min xs.length ys.length) : Walk (RZ.ItzT K a b) n (fun H => SqT K H a xs ∧ SqT K H b ys) (YPair (fun i => xs[i]?) (fun i => ys[i]?)) := by
  subst hn
  refine ⟨fun i H hi q => ?_, fun H q => ⟨xs, ys, q.1, q.2, by omega⟩, fun i H v H' hi q y => ?_⟩
  · have h1 : i < xs.length := by omega
    have h2 : i < ys.length := by omega
    exact ⟨xs, ys, xs[i], ys[i], q.1, q.2, by simp [h1], by simp [h2]⟩
  · obtain ⟨T, x, z, h1, h2, h3, h4, h5⟩ := y
    exact ⟨T, x, z, h1, h2, h3, h4 xs q.1, h5 ys q.2⟩
end

end Own

namespace K01
open PySem PySem.Spec PyProof.Rows L2 Own
abbrev Ent := Int × Int × Int
def EntAt (H : Hp) (v : V) (e : Ent) : Prop := ∃ t, v = .ref t ∧ H t = some (.tup [.int e.1, .int e.2.1, .int e.2.2])
/-- the values xs are the entries es -/
def EntsAre (H : Hp) (xs : List V) (es : List Ent) : Prop := xs.length = es.length ∧ ∀ (i : Nat) (v : V) (e : Ent), xs[i]? = some v → es[i]? = some e → EntAt H v e
def cellOf (ns : List Int) (k : Nat) : Int := ns.getD k 0
def mixedOf (c k : Int) : Int := ((c + 7919 * k) * 48271 % 2147483647) * ((c + 7919 * k) * 48271 % 2147483647 + 2 * k + 1) % 2147483629
def readingOf (c : Int) : Int :=
  if mixedOf c 1 % 3 = 0 then mixedOf c 1 / 3 % 9 - 4
  else if mixedOf c 1 % 3 = 1 then mixedOf c 1 / 3 % 2001 - 1000
  else if mixedOf c 1 / 3 % 9 = 1 then (if mixedOf c 1 / 27 % 2 = 0 then 1000000000000000000 else -1000000000000000000)
  else mixedOf c 1 * mixedOf c 1 % 2000000000000000001 - 1000000000000000000
def manyOf (c : Int) : Int := if c / 13 % 6 = 1 then c / 78 % 91 else c % 13
def rowOf (ns : List Int) : List Int := (List.range (manyOf (cellOf ns 0)).toNat).map fun k => readingOf (cellOf ns (1 + k % 20) + 31 * ((k / 20 : Nat) : Int))
def exactOf (ms : List Int) : List Ent := (List.range ms.length).map fun i => (ms.getD i 0, (i : Int), (i : Int))
def spCell (K : PySem.W.Frag) : Sp := fun vs H Q _ => ∃ (a : Addr) (ns : List Int) (k : Nat), vs = [.ref a, .int (k : Int)] ∧ SqL K H a (ns.map V.int) ∧ Q (.int (cellOf ns k)) H
def spMixed : Sp := fun vs H Q _ => ∃ (c k : Int), vs = [.int c, .int k] ∧ 0 ≤ k ∧ Q (.int (mixedOf c k)) H
def spReading : Sp := fun vs H Q _ => ∃ (c : Int), vs = [.int c] ∧ ∀ H', Same H H' → Q (.int (readingOf c)) H'
def spWhole : Sp := fun vs H Q _ => ∃ (i j : Int), vs = [.int i, .int j] ∧ Q (.bl (decide (i = j))) H
def spRow (K : PySem.W.Frag) : Sp := fun vs H Q _ => ∃ (a : Addr) (ns : List Int), vs = [.ref a] ∧ SqL K H a (ns.map V.int) ∧ ∀ H' p, Same H H' → H p = none → H' p = some (.lst ((rowOf ns).map V.int)) → Q (.ref p) H'
def spExact (K : PySem.W.Frag) : Sp := fun vs H Q _ => ∃ (a : Addr) (ns : List Int), vs = [.ref a] ∧ SqL K H a (ns.map V.int) ∧ ns.length ≤ 1000 ∧
  ∀ H' p ms xs, Same H H' → H p = none → ms.Perm ns → ms.Pairwise (· ≤ ·) → H' p = some (.lst xs) → EntsAre H' xs (exactOf ms) → Q (.ref p) H'
def spHalved (K : PySem.W.Frag) : Sp := fun vs H Q _ => ∃ (a : Addr) (xs : List V), vs = [.ref a] ∧ SqL K H a xs ∧ ∀ H' p, Same H H' → H p = none → H' p = some (.lst (odds xs)) → Q (.ref p) H'
def spLike (K : PySem.W.Frag) : Sp := fun vs H Q _ => ∃ (a b : Addr) (xs ys : List V) (es : List Ent), vs = [.ref a, .ref b] ∧ H a = some (.lst xs) ∧ H b = some (.lst ys) ∧ EntsAre H xs es ∧ EntsAre H ys es ∧ es.length ≤ 1000 ∧ ∀ H', Same H H' → Q (.bl true) H'
def spLaw (K : PySem.W.Frag) : Sp := fun vs H Q _ => ∃ (a : Addr) (ns : List Int), vs = [.ref a] ∧ SqL K H a (ns.map V.int) ∧ ns.length ≤ 63 ∧ ∀ H', Q (.bl true) H'
end K01

namespace K01
open PySem PySem.Spec PyProof.Rows L2 Own
/-! the text by places -/
def topS (i : Nat) : Stmt := PySem.Challenge.pw_rankbounds_k01_entries_exact.main.body.getD i (.Pass ⟨0, 0, 0, 0⟩)
abbrev s_exact : Stmt := topS 1
abbrev N_exact : List Str := ["row", "place", "reading"]
theorem sc_exact : FnScope N_exact ["row"] (defScope s_exact) := ⟨rfl, rfl, rfl, by decide +kernel, rfl, by decide +kernel, by decide +kernel⟩
abbrev s_halved : Stmt := topS 2
abbrev N_halved : List Str := ["entries"]
theorem sc_halved : FnScope N_halved ["entries"] (defScope s_halved) := ⟨rfl, rfl, rfl, by decide +kernel, rfl, by decide +kernel, by decide +kernel⟩
abbrev s__law_cell : Stmt := topS 4
abbrev N__law_cell : List Str := ["_law_script", "_law_k"]
theorem sc__law_cell : FnScope N__law_cell ["_law_script", "_law_k"] (defScope s__law_cell) := ⟨rfl, rfl, rfl, by decide +kernel, rfl, by decide +kernel, by decide +kernel⟩
abbrev s__law_mixed : Stmt := topS 5
abbrev N__law_mixed : List Str := ["_law_cell_here", "_law_k", "_law_number"]
theorem sc__law_mixed : FnScope N__law_mixed ["_law_cell_here", "_law_k"] (defScope s__law_mixed) := ⟨rfl, rfl, rfl, by decide +kernel, rfl, by decide +kernel, by decide +kernel⟩
abbrev s__law_reading : Stmt := topS 6
abbrev N__law_reading : List Str := ["_law_cell_here", "_law_number"]
theorem sc__law_reading : FnScope N__law_reading ["_law_cell_here"] (defScope s__law_reading) := ⟨rfl, rfl, rfl, by decide +kernel, rfl, by decide +kernel, by decide +kernel⟩
abbrev s__law_whole : Stmt := topS 7
abbrev N__law_whole : List Str := ["_law_found", "_law_due"]
theorem sc__law_whole : FnScope N__law_whole ["_law_found", "_law_due"] (defScope s__law_whole) := ⟨rfl, rfl, rfl, by decide +kernel, rfl, by decide +kernel, by decide +kernel⟩
abbrev s__law_row : Stmt := topS 8
abbrev N__law_row : List Str := ["_law_script", "_law_cell_here", "_law_many", "_law_k"]
theorem sc__law_row : FnScope N__law_row ["_law_script"] (defScope s__law_row) := ⟨rfl, rfl, rfl, by decide +kernel, rfl, by decide +kernel, by decide +kernel⟩
abbrev s__law_entries_like : Stmt := topS 9
abbrev N__law_entries_like : List Str := ["_law_found", "_law_due", "_law_one", "_law_other", "_law_number", "_law_wanted"]
theorem sc__law_entries_like : FnScope N__law_entries_like ["_law_found", "_law_due"] (defScope s__law_entries_like) := ⟨rfl, rfl, rfl, by decide +kernel, rfl, by decide +kernel, by decide +kernel⟩
abbrev s_law : Stmt := topS 10
abbrev N_law : List Str := ["_law_script", "_law_row_here", "_law_due", "_law_reading_here", "_law_at", "_law_handed", "_law_found", "_law_half", "_law_seconds", "_law_place", "_law_k"]
theorem sc_law : FnScope N_law ["_law_script"] (defScope s_law) := ⟨rfl, rfl, rfl, by decide +kernel, rfl, by decide +kernel, by decide +kernel⟩
structure Bi (mg : Str → Option Value) : Prop where
  z_all : mg "all" = none
  z_bool : mg "bool" = none
  z_enumerate : mg "enumerate" = none
  z_int : mg "int" = none
  z_isinstance : mg "isinstance" = none
  z_len : mg "len" = none
  z_list : mg "list" = none
  z_range : mg "range" = none
  z_sorted : mg "sorted" = none
  z_tuple : mg "tuple" = none
  z_zip : mg "zip" = none
section
variable {P : Program} {w : World} {K : PySem.W.Frag} {mg : Str → Option Value} {base : Heap}
/-- exact -/
noncomputable def rd_exact {f : Addr} {cdv : Value} {A : Around} {outer : List Env} {s : Shared} {H : Hp} {E : XK} (B : Bi mg) (hr : Room 0 (A.deeper (envOfC "exact" (defScope s_exact) s.heap.objs.size f cdv))) : { t : TS // PSs (cxOf CX0 P w K mg base N_exact "exact" (defScope s_exact) f cdv A outer s H E).nox (defBody s_exact) t } := ⟨_, (pss_one (ps_ret (pe_lc (own := [("place", 1), ("reading", 2)]) rfl sc_exact.nd (pi_enum (by rfl) B.z_enumerate (pa_cons (pe_callB (cr_sortedK (K := K)) (by rfl) B.z_sorted (by decide +kernel) (pa_cons (pv 0) pa_nil)) pa_nil)) (blkOk_by (own := [("place", 1), ("reading", 2)]) (N := N_exact) (sc := defScope s_exact) (by decide +kernel)) (fun _ _ _ _ _ => (pg_tupK (K := K) (n := 2) rfl (pgs_cons (pg_name (i := 1) sc_exact.nd rfl (by first | exact Or.inl rfl | exact Or.inr rfl)) (pgs_cons (pg_name (i := 2) sc_exact.nd rfl (by first | exact Or.inl rfl | exact Or.inr rfl)) pgs_nil)))) (fun _ _ _ _ _ => pts_nil) (fun _ _ _ _ _ => (pe_tup (pa_cons (pv 2) (pa_cons (pv 1) (pa_cons (pv 1) pa_nil))))))))⟩
/-- halved -/
noncomputable def rd_halved {f : Addr} {cdv : Value} {A : Around} {outer : List Env} {s : Shared} {H : Hp} {E : XK} (B : Bi mg) (hr : Room 0 (A.deeper (envOfC "halved" (defScope s_halved) s.heap.objs.size f cdv))) : { t : TS // PSs (cxOf CX0 P w K mg base N_halved "halved" (defScope s_halved) f cdv A outer s H E).nox (defBody s_halved) t } := ⟨_, (pss_one (ps_ret (pe_step2 (pv 0))))⟩
/-- _law_cell -/
noncomputable def rd__law_cell {f : Addr} {cdv : Value} {A : Around} {outer : List Env} {s : Shared} {H : Hp} {E : XK} (B : Bi mg) (hr : Room 0 (A.deeper (envOfC "_law_cell" (defScope s__law_cell) s.heap.objs.size f cdv))) : { t : TS // PSs (cxOf CX0 P w K mg base N__law_cell "_law_cell" (defScope s__law_cell) f cdv A outer s H E).nox (defBody s__law_cell) t } := ⟨_, (pss_cons (ps_if (pt_cmpR op_lt (pv 1) (pe_callB (call_lenK (K := K)) (by rfl) B.z_len (by decide +kernel) (pa_cons (pv 0) pa_nil)) (nomark _)) (pss_one (ps_ret (pe_ix (ix_listK (K := K)) (pv 0) (pv 1) (fun _ _ => rfl)))) pss_nil)
      (pss_one (ps_ret pe_int)))⟩
/-- _law_mixed -/
noncomputable def rd__law_mixed {f : Addr} {cdv : Value} {A : Around} {outer : List Env} {s : Shared} {H : Hp} {E : XK} (B : Bi mg) (hr : Room 0 (A.deeper (envOfC "_law_mixed" (defScope s__law_mixed) s.heap.objs.size f cdv))) : { t : TS // PSs (cxOf CX0 P w K mg base N__law_mixed "_law_mixed" (defScope s__law_mixed) f cdv A outer s H E).nox (defBody s__law_mixed) t } := ⟨_, (pss_cons (ps_set (i := 2) sc__law_mixed.nd rfl (by first | exact Or.inl rfl | exact Or.inr rfl) (pe_op op_mod (pe_op op_mul (pe_op op_add (pv 0) (pe_op op_mul pe_int (pv 1))) pe_int) pe_int))
      (pss_one (ps_ret (pe_op op_mod (pe_op op_mul (pv 2) (pe_op op_add (pe_op op_add (pv 2) (pe_op op_mul pe_int (pv 1))) pe_int)) pe_int))))⟩
/-- _law_reading -/
noncomputable def rd__law_reading {f : Addr} {cdv : Value} {A : Around} {outer : List Env} {s : Shared} {H : Hp} {E : XK} (B : Bi mg) (hr : Room 1 (A.deeper (envOfC "_law_reading" (defScope s__law_reading) s.heap.objs.size f cdv))) (c__law_mixed : CalK P w K mg base 1 "_law_mixed" spMixed) : { t : TS // PSs (cxOf CX0 P w K mg base N__law_reading "_law_reading" (defScope s__law_reading) f cdv A outer s H E).nox (defBody s__law_reading) t } := ⟨_, (pss_cons (ps_set (i := 1) sc__law_reading.nd rfl (by first | exact Or.inl rfl | exact Or.inr rfl) (pe_k c__law_mixed hr (by decide) (by rfl) (pa_cons (pv 0) (pa_cons pe_int pa_nil))))
      (pss_cons (ps_if (pt_cmpR op_eq (pe_op op_mod (pv 1) pe_int) pe_int (nomark _)) (pss_one (ps_ret (pe_op op_sub (pe_op op_mod (pe_op op_fdiv (pv 1) pe_int) pe_int) pe_int))) pss_nil)
      (pss_cons (ps_if (pt_cmpR op_eq (pe_op op_mod (pv 1) pe_int) pe_int (nomark _)) (pss_one (ps_ret (pe_op op_sub (pe_op op_mod (pe_op op_fdiv (pv 1) pe_int) pe_int) pe_int))) pss_nil)
      (pss_cons (ps_if (pt_cmpR op_eq (pe_op op_mod (pe_op op_fdiv (pv 1) pe_int) pe_int) pe_int (nomark _)) (pss_one (ps_ret (pe_ix (ix_listK (K := K)) (pe_lst (pa_cons (pe_op op_pow pe_int pe_int) (pa_cons (pe_un un_neg (pe_op op_pow pe_int pe_int)) pa_nil))) (pe_op op_mod (pe_op op_fdiv (pv 1) pe_int) pe_int) (fun _ _ => rfl)))) pss_nil)
      (pss_one (ps_ret (pe_op op_sub (pe_op op_mod (pe_op op_mul (pv 1) (pv 1)) (pe_op op_add (pe_op op_mul pe_int (pe_op op_pow pe_int pe_int)) pe_int)) (pe_op op_pow pe_int pe_int))))))))⟩
/-- _law_whole -/
noncomputable def rd__law_whole {f : Addr} {cdv : Value} {A : Around} {outer : List Env} {s : Shared} {H : Hp} {E : XK} (B : Bi mg) (hr : Room 0 (A.deeper (envOfC "_law_whole" (defScope s__law_whole) s.heap.objs.size f cdv))) : { t : TS // PSs (cxOf CX0 P w K mg base N__law_whole "_law_whole" (defScope s__law_whole) f cdv A outer s H E).nox (defBody s__law_whole) t } := ⟨_, (pss_one (ps_ret (pe_and (pe_callB (call_isiK1 (K := K)) (by rfl) B.z_isinstance (by decide +kernel) (pa_cons (pv 0) (pa_cons (pe_bltn (v := .ty "int") (by rfl) B.z_int (by decide +kernel) rfl) pa_nil))) (pe_and (pe_not (pe_callB (call_isiK1 (K := K)) (by rfl) B.z_isinstance (by decide +kernel) (pa_cons (pv 0) (pa_cons (pe_bltn (v := .ty "bool") (by rfl) B.z_bool (by decide +kernel) rfl) pa_nil)))) (pe_one (pe_cmpR op_eq (pv 0) (pv 1) (nomark _)))))))⟩
/-- _law_row -/
noncomputable def rd__law_row {f : Addr} {cdv : Value} {A : Around} {outer : List Env} {s : Shared} {H : Hp} {E : XK} (B : Bi mg) (hr : Room 2 (A.deeper (envOfC "_law_row" (defScope s__law_row) s.heap.objs.size f cdv))) (c__law_cell : CalK P w K mg base 1 "_law_cell" (spCell K)) (c__law_reading : CalK P w K mg base 2 "_law_reading" spReading) : { t : TS // PSs (cxOf CX0 P w K mg base N__law_row "_law_row" (defScope s__law_row) f cdv A outer s H E).nox (defBody s__law_row) t } := ⟨_, (pss_cons (ps_set (i := 1) sc__law_row.nd rfl (by first | exact Or.inl rfl | exact Or.inr rfl) (pe_k c__law_cell hr (by decide) (by rfl) (pa_cons (pv 0) (pa_cons pe_int pa_nil))))
      (pss_cons (ps_set (i := 2) sc__law_row.nd rfl (by first | exact Or.inl rfl | exact Or.inr rfl) (pe_op op_mod (pv 1) pe_int))
      (pss_cons (ps_if (pt_cmpR op_eq (pe_op op_mod (pe_op op_fdiv (pv 1) pe_int) pe_int) pe_int (nomark _)) (pss_one (ps_set (i := 2) sc__law_row.nd rfl (by first | exact Or.inl rfl | exact Or.inr rfl) (pe_op op_mod (pe_op op_fdiv (pv 1) pe_int) pe_int))) pss_nil)
      (pss_one (ps_ret (pe_lc (own := [("_law_k", 3)]) rfl sc__law_row.nd (pi_range1 (by rfl) B.z_range (pa_cons (pv 2) pa_nil)) (blkOk_by (own := [("_law_k", 3)]) (N := N__law_row) (sc := defScope s__law_row) (by decide +kernel)) (fun _ _ _ _ _ => (pg_name (i := 3) sc__law_row.nd rfl (by first | exact Or.inl rfl | exact Or.inr rfl))) (fun _ _ _ _ _ => pts_nil) (fun _ _ _ _ _ => (pe_k c__law_reading hr (by decide) (by rfl) (pa_cons (pe_op op_add (pe_k c__law_cell hr (by decide) (by rfl) (pa_cons (pv 0) (pa_cons (pe_op op_add pe_int (pe_op op_mod (pv 3) pe_int)) pa_nil))) (pe_op op_mul pe_int (pe_op op_fdiv (pv 3) pe_int))) pa_nil)))))))))⟩
/-- _law_entries_like -/
noncomputable def rd__law_entries_like {f : Addr} {cdv : Value} {A : Around} {outer : List Env} {s : Shared} {H : Hp} {E : XK} (B : Bi mg) (hr : Room 1 (A.deeper (envOfC "_law_entries_like" (defScope s__law_entries_like) s.heap.objs.size f cdv))) (c__law_whole : CalK P w K mg base 1 "_law_whole" spWhole) : { t : TS // PSs (cxOf CX0 P w K mg base N__law_entries_like "_law_entries_like" (defScope s__law_entries_like) f cdv A outer s H E).nox (defBody s__law_entries_like) t } := ⟨_, (pss_cons (ps_if (PW.pt (pw_or (pt_not (pt_val (pe_callB (call_isiK1 (K := K)) (by rfl) B.z_isinstance (by decide +kernel) (pa_cons (pv 0) (pa_cons (pe_bltn (v := .ty "list") (by rfl) B.z_list (by decide +kernel) rfl) pa_nil))))) (pw_or1 (pt_cmpR op_ne (pe_callB (call_lenK (K := K)) (by rfl) B.z_len (by decide +kernel) (pa_cons (pv 0) pa_nil)) (pe_callB (call_lenK (K := K)) (by rfl) B.z_len (by decide +kernel) (pa_cons (pv 1) pa_nil)) (nomark _))))) (pss_one (ps_ret pe_bl)) pss_nil)
      (pss_cons (ps_for PassesOwn.never rfl (pi_zip (by rfl) B.z_zip (pa_cons (pv 0) (pa_cons (pv 1) pa_nil))) (pg_tupK (K := K) (n := 2) rfl (pgs_cons (pg_name (i := 2) sc__law_entries_like.nd rfl (by first | exact Or.inl rfl | exact Or.inr rfl)) (pgs_cons (pg_name (i := 3) sc__law_entries_like.nd rfl (by first | exact Or.inl rfl | exact Or.inr rfl)) pgs_nil))) (pss_cons (ps_if (PW.pt (pw_or (pt_not (pt_val (pe_callB (call_isiK1 (K := K)) (by rfl) B.z_isinstance (by decide +kernel) (pa_cons (pv 2) (pa_cons (pe_bltn (v := .ty "tuple") (by rfl) B.z_tuple (by decide +kernel) rfl) pa_nil))))) (pw_or1 (pt_cmpR op_ne (pe_callB (call_lenK (K := K)) (by rfl) B.z_len (by decide +kernel) (pa_cons (pv 2) pa_nil)) pe_int (nomark _))))) (pss_one (ps_ret pe_bl)) pss_nil)
      (pss_one (ps_if (pt_not (pt_val (pe_callB (cr_allK (K := K) rfl) (by rfl) B.z_all (by decide +kernel) (pa_cons (pe_lc (own := [("_law_number", 4), ("_law_wanted", 5)]) rfl sc__law_entries_like.nd (RZ.pi_zipA (by rfl) B.z_zip (pa_cons (pv 2) (pa_cons (pv 3) pa_nil))) (blkOk_by (own := [("_law_number", 4), ("_law_wanted", 5)]) (N := N__law_entries_like) (sc := defScope s__law_entries_like) (by decide +kernel)) (fun _ _ _ _ _ => (pg_tupK (K := K) (n := 2) rfl (pgs_cons (pg_name (i := 4) sc__law_entries_like.nd rfl (by first | exact Or.inl rfl | exact Or.inr rfl)) (pgs_cons (pg_name (i := 5) sc__law_entries_like.nd rfl (by first | exact Or.inl rfl | exact Or.inr rfl)) pgs_nil)))) (fun _ _ _ _ _ => pts_nil) (fun _ _ _ _ _ => (pe_k c__law_whole hr (by decide) (by rfl) (pa_cons (pv 4) (pa_cons (pv 5) pa_nil))))) pa_nil)))) (pss_one (ps_ret pe_bl)) pss_nil))))
      (pss_one (ps_ret pe_bl))))⟩
/-- law -/
noncomputable def rd_law {f : Addr} {cdv : Value} {A : Around} {outer : List Env} {s : Shared} {H : Hp} {E : XK} (B : Bi mg) (hr : Room 3 (A.deeper (envOfC "law" (defScope s_law) s.heap.objs.size f cdv))) (c__law_row : CalK P w K mg base 3 "_law_row" (spRow K)) (c_exact : CalK P w K mg base 1 "exact" (spExact K)) (c__law_entries_like : CalK P w K mg base 2 "_law_entries_like" (spLike K)) (c_halved : CalK P w K mg base 1 "halved" (spHalved K)) : { t : TS // PSs (cxOf CX0 P w K mg base N_law "law" (defScope s_law) f cdv A outer s H E).nox (defBody s_law) t } := ⟨_, (pss_cons (ps_set (i := 1) sc_law.nd rfl (by first | exact Or.inl rfl | exact Or.inr rfl) (pe_k c__law_row hr (by decide) (by rfl) (pa_cons (pv 0) pa_nil)))
      (pss_cons (ps_set (i := 2) sc_law.nd rfl (by first | exact Or.inl rfl | exact Or.inr rfl) (pe_lst pa_nil))
      (pss_cons (ps_for PassesOwn.never rfl (pi_listK (K := K) (pv 1)) (pg_name (i := 3) sc_law.nd rfl (by first | exact Or.inl rfl | exact Or.inr rfl)) (pss_cons (ps_set (i := 4) sc_law.nd rfl (by first | exact Or.inl rfl | exact Or.inr rfl) pe_int)
      (pss_cons (ps_while PassesOwn.never (PW.pt (pw_and (pt_cmpR op_lt (pv 4) (pe_callB (call_lenK (K := K)) (by rfl) B.z_len (by decide +kernel) (pa_cons (pv 2) pa_nil)) (nomark _)) (pw_and1 (pt_cmpR op_le (pe_ix (ix_listK (K := K)) (pv 2) (pv 4) (fun _ _ => rfl)) (pv 3) (nomark _))))) (pss_one (ps_set (i := 4) sc_law.nd rfl (by first | exact Or.inl rfl | exact Or.inr rfl) (pe_op op_add (pv 4) pe_int))))
      (pss_one (ps_expr (pe_bm PySem.F.plainAttrs_list PySem.F.slot_list_insert PySem.F.type_list_insert mt_insert (pv 2) (pa_cons (pv 4) (pa_cons (pv 3) pa_nil))))))))
      (pss_cons (ps_set (i := 2) sc_law.nd rfl (by first | exact Or.inl rfl | exact Or.inr rfl) (pe_lc (own := [("_law_place", 9), ("_law_reading_here", 3)]) rfl sc_law.nd (pi_enum (by rfl) B.z_enumerate (pa_cons (pv 2) pa_nil)) (blkOk_by (own := [("_law_place", 9), ("_law_reading_here", 3)]) (N := N_law) (sc := defScope s_law) (by decide +kernel)) (fun _ _ _ _ _ => (pg_tupK (K := K) (n := 2) rfl (pgs_cons (pg_name (i := 9) sc_law.nd rfl (by first | exact Or.inl rfl | exact Or.inr rfl)) (pgs_cons (pg_name (i := 3) sc_law.nd rfl (by first | exact Or.inl rfl | exact Or.inr rfl)) pgs_nil)))) (fun _ _ _ _ _ => pts_nil) (fun _ _ _ _ _ => (pe_tup (pa_cons (pv 3) (pa_cons (pv 9) (pa_cons (pv 9) pa_nil)))))))
      (pss_cons (ps_set (i := 5) sc_law.nd rfl (by first | exact Or.inl rfl | exact Or.inr rfl) (pe_callTy (call_listK (K := K)) (by rfl) B.z_list (by decide +kernel) (pa_cons (pv 1) pa_nil)))
      (pss_cons (ps_set (i := 6) sc_law.nd rfl (by first | exact Or.inl rfl | exact Or.inr rfl) (pe_k c_exact hr (by decide) (by rfl) (pa_cons (pv 5) pa_nil)))
      (pss_cons (ps_if (PW.pt (pw_or (pt_not (pt_val (pe_k c__law_entries_like hr (by decide) (by rfl) (pa_cons (pv 6) (pa_cons (pv 2) pa_nil))))) (pw_or1 (pt_cmpR (op_neDK (K := K) hr.units) (pv 5) (pv 1) (nomark _))))) (pss_one (ps_ret pe_bl)) pss_nil)
      (pss_cons (ps_expr (pe_k c_exact hr (by decide) (by rfl) (pa_cons (pe_lst (pa_cons pe_int (pa_cons pe_int (pa_cons pe_int pa_nil)))) pa_nil)))
      (pss_cons (ps_set (i := 7) sc_law.nd rfl (by first | exact Or.inl rfl | exact Or.inr rfl) (pe_k c_halved hr (by decide) (by rfl) (pa_cons (pv 6) pa_nil)))
      (pss_cons (ps_setLc (i := 8) (own := [("_law_k", 10)]) rfl sc_law.nd rfl rfl (sw_true rfl rfl rfl (by decide +kernel)) (pi_range1 (by rfl) B.z_range (pa_cons (pe_callB (call_lenK (K := K)) (by rfl) B.z_len (by decide +kernel) (pa_cons (pv 2) pa_nil)) pa_nil)) (blkOk_by (own := [("_law_k", 10)]) (N := N_law) (sc := defScope s_law) (by decide +kernel)) (fun _ _ _ _ _ => (pg_name (i := 10) sc_law.nd rfl (by first | exact Or.inl rfl | exact Or.inr rfl))) (fun _ _ _ _ _ => (pts_one (pt_cmpR op_eq (pe_op op_mod (pv 10) pe_int) pe_int (nomark _)))) (fun _ _ _ _ _ => (pe_ix (ix_listK (K := K)) (pv 2) (pv 10) (fun _ _ => rfl))))
      (pss_cons (ps_if (PW.pt (pw_or (pt_not (pt_val (pe_k c__law_entries_like hr (by decide) (by rfl) (pa_cons (pv 7) (pa_cons (pv 8) pa_nil))))) (pw_or1 (pt_not (pt_val (pe_k c__law_entries_like hr (by decide) (by rfl) (pa_cons (pv 6) (pa_cons (pv 2) pa_nil)))))))) (pss_one (ps_ret pe_bl)) pss_nil)
      (pss_cons (ps_expr (pe_bm PySem.F.plainAttrs_list PySem.F.slot_list_append PySem.F.type_list_append mt_append (pv 6) (pa_cons (pe_tup (pa_cons pe_int (pa_cons pe_int (pa_cons pe_int pa_nil)))) pa_nil)))
      (pss_one (ps_ret (pe_and (pe_k c__law_entries_like hr (by decide) (by rfl) (pa_cons (pv 7) (pa_cons (pv 8) pa_nil))) (pe_one (pe_k c__law_entries_like hr (by decide) (by rfl) (pa_cons (pe_k c_exact hr (by decide) (by rfl) (pa_cons (pv 5) pa_nil)) (pa_cons (pv 2) pa_nil)))))))))))))))))))⟩
end
end K01

namespace K01
open PySem PySem.Spec PyProof.Rows L2 Own
local macro_rules | `(tactic| walk_at "r") => `(tactic| first
  | refine ⟨_, rfl, ?_⟩
  | refine ⟨_, _, rfl, rfl, ?_⟩)
local macro_rules | `(tactic| walk_at "i") => `(tactic| first
  | refine ⟨_, rfl, ?_⟩
  | refine ⟨_, _, rfl, rfl, (by show (0 : Int) < _; decide), ?_⟩
  | refine ⟨_, _, rfl, rfl, ⟨by decide, by decide⟩, ?_⟩
  | refine ⟨_, _, rfl, rfl, ⟨by decide, by decide, by decide⟩, ?_⟩
  | refine ⟨_, _, rfl, rfl, .inr ⟨by decide, by decide⟩, ?_⟩
  | refine ⟨_, _, rfl, rfl, .inl ⟨by decide, by decide⟩, ?_⟩
  | refine ⟨_, _, rfl, rfl, ?_⟩)
section
variable {P : Program} {w : World} {K : PySem.W.Frag} {mg : Str → Option Value} {base : Heap} {f : Addr} {fd : FuncData}
theorem ok_cell (F : Fun K "_law_cell" "_law_cell" s__law_cell f fd) (B : Bi mg) : FnOk P w K mg base CX0 1 f fd ["_law_script", "_law_k"] (spCell K) := by
  refine F.ok sc__law_cell (fun vs H Q E h => ?_) (fun cdv A outer s H vs Q E hr h => ⟨_, (rd__law_cell B hr).2, ?_⟩)
  · obtain ⟨a, ns, k, rfl, _⟩ := h
    rfl
  · obtain ⟨a, ns, k, rfl, hS, q⟩ := h
    refine ⟨_, rfl, _, rfl, a, _, rfl, .inl hS, ?_⟩
    refine ⟨_, _, rfl, rfl, _, rfl, ite2 (fun c => ?_) (fun c => ?_)⟩
    · have c' : (k : Int) < ((ns.map V.int).length : Int) := of_decide_eq_true c
      rw [List.length_map] at c'
      have hk : k < ns.length := by omega
      refine ⟨_, rfl, _, rfl, a, _, _, .int (cellOf ns k), rfl, rfl, hS, atI_nat ?_, q⟩
      rw [List.getElem?_map, List.getElem?_eq_getElem hk]
      simp [cellOf, List.getD, List.getElem?_eq_getElem hk]
    · have c' : ¬ (k : Int) < ((ns.map V.int).length : Int) := fun z => c (decide_eq_true z)
      rw [List.length_map] at c'
      have e : cellOf ns k = 0 := by
        unfold cellOf
        rw [List.getD_eq_getElem?_getD, List.getElem?_eq_none (by omega)]
        rfl
      rw [e] at q
      exact q
theorem ok_mixed (F : Fun K "_law_mixed" "_law_mixed" s__law_mixed f fd) (B : Bi mg) : FnOk P w K mg base CX0 1 f fd ["_law_cell_here", "_law_k"] spMixed := by
  refine F.ok sc__law_mixed (fun vs H Q E h => ?_) (fun cdv A outer s H vs Q E hr h => ⟨_, (rd__law_mixed B hr).2, ?_⟩)
  · obtain ⟨c, k, rfl, _⟩ := h
    rfl
  · obtain ⟨c, k, rfl, hk, q⟩ := h
    have h1 : 0 ≤ (c + 7919 * k) * 48271 % 2147483647 := Int.emod_nonneg _ (by decide)
    have h2 : (c + 7919 * k) * 48271 % 2147483647 < 2147483647 := Int.emod_lt_of_pos _ (by decide)
    iterate 12 walk_at "i"
    refine ⟨_, _, rfl, rfl, .inl ⟨?_, ?_⟩, ?_⟩
    · show -(2 ^ 64) < (c + 7919 * k) * 48271 % 2147483647
      omega
    · show (c + 7919 * k) * 48271 % 2147483647 < 2 ^ 64
      omega
    walk_at "i"
    exact q
theorem mixed_range (c k : Int) : 0 ≤ mixedOf c k ∧ mixedOf c k < 2147483629 := ⟨Int.emod_nonneg _ (by decide), Int.emod_lt_of_pos _ (by decide)⟩
theorem reading_range (c : Int) : -1000000000000000000 ≤ readingOf c ∧ readingOf c ≤ 1000000000000000000 := by
  unfold readingOf
  split
  · omega
  · split
    · omega
    · split
      · split <;> omega
      · have h1 := Int.emod_nonneg (mixedOf c 1 * mixedOf c 1) (show (2000000000000000001 : Int) ≠ 0 by decide)
        have h2 := Int.emod_lt_of_pos (mixedOf c 1 * mixedOf c 1) (show (0 : Int) < 2000000000000000001 by decide)
        omega
theorem same_upd {H : Hp} {p : Addr} {o : HO} (h : H p = none) : Same H (upd H p o) := fun b x e => by
  rw [upd_ne (ne_of_none e h)]
  exact e
theorem ok_reading (F : Fun K "_law_reading" "_law_reading" s__law_reading f fd) (B : Bi mg) (cm : CalK P w K mg base 1 "_law_mixed" spMixed) : FnOk P w K mg base CX0 2 f fd ["_law_cell_here"] spReading := by
  refine F.ok sc__law_reading (fun vs H Q E h => ?_) (fun cdv A outer s H vs Q E hr h => ⟨_, (rd__law_reading B hr cm).2, ?_⟩)
  · obtain ⟨c, rfl, _⟩ := h
    rfl
  · obtain ⟨c, rfl, q⟩ := h
    have hm := mixed_range c 1
    have q1 := q H (Same.refl H)
    refine ⟨_, rfl, c, 1, rfl, by decide, ?_⟩
    generalize hn : mixedOf c 1 = n at hm
    unfold readingOf at q q1
    rw [hn] at q q1
    iterate 2 walk_at "i"
    refine ⟨rfl, _, rfl, ite2 (fun e => ?_) (fun e => ?_)⟩
    · have e' : n % 3 = 0 := V.int.inj (of_decide_eq_true e)
      iterate 4 walk_at "i"
      rw [if_pos e'] at q1
      exact q1
    have e1 : ¬ n % 3 = 0 := fun z => e (decide_eq_true (congrArg V.int z))
    rw [if_neg e1] at q1
    iterate 2 walk_at "i"
    refine ⟨rfl, _, rfl, ite2 (fun e => ?_) (fun e => ?_)⟩
    · have e' : n % 3 = 1 := V.int.inj (of_decide_eq_true e)
      iterate 4 walk_at "i"
      rw [if_pos e'] at q1
      exact q1
    have e2 : ¬ n % 3 = 1 := fun z => e (decide_eq_true (congrArg V.int z))
    rw [if_neg e2] at q1
    iterate 3 walk_at "i"
    refine ⟨rfl, _, rfl, ite2 (fun e => ?_) (fun e => ?_)⟩
    · have e' : n / 3 % 9 = 1 := V.int.inj (of_decide_eq_true e)
      iterate 3 walk_at "i"
      refine ⟨by show 2 ≤ sizeLine; decide, fun p hp => ?_⟩
      iterate 3 walk_at "i"
      have q2 := q (upd H p (.lst [.int 1000000000000000000, .int (-1000000000000000000)])) (same_upd hp)
      rw [if_neg e1, if_neg e2, if_pos e'] at q2
      rcases (show n / 27 % 2 = 0 ∨ n / 27 % 2 = 1 by omega) with z | z
      · rw [if_pos z] at q2
        exact ⟨p, _, _, _, rfl, rfl, .inl (.inl upd_same), at_of (j := 0) z rfl, q2⟩
      · rw [if_neg (by omega)] at q2
        exact ⟨p, _, _, _, rfl, rfl, .inl (.inl upd_same), at_of (j := 1) z rfl, q2⟩
    · have e' : ¬ n / 3 % 9 = 1 := fun z => e (decide_eq_true (congrArg V.int z))
      rw [if_neg e'] at q1
      iterate 2 walk_at "i"
      refine ⟨_, _, rfl, rfl, .inl ⟨by show -(2 ^ 64) < n; omega, by show n < 2 ^ 64; omega⟩, ?_⟩
      iterate 6 walk_at "i"
      exact q1
end
end K01

namespace K01
open PySem PySem.Spec PyProof.Rows L2 Own
local macro_rules | `(tactic| walk_at "i") => `(tactic| first
  | refine ⟨_, rfl, ?_⟩
  | refine ⟨_, _, rfl, rfl, (by show (0 : Int) < _; decide), ?_⟩
  | refine ⟨_, _, rfl, rfl, ⟨by decide, by decide⟩, ?_⟩
  | refine ⟨_, _, rfl, rfl, ⟨by decide, by decide, by decide⟩, ?_⟩
  | refine ⟨_, _, rfl, rfl, .inr ⟨by decide, by decide⟩, ?_⟩
  | refine ⟨_, _, rfl, rfl, .inl ⟨by decide, by decide⟩, ?_⟩
  | refine ⟨_, _, rfl, rfl, ?_⟩)
section
variable {P : Program} {w : World} {K : PySem.W.Frag} {mg : Str → Option Value} {base : Heap} {f : Addr} {fd : FuncData}
theorem ok_whole (F : Fun K "_law_whole" "_law_whole" s__law_whole f fd) (B : Bi mg) : FnOk P w K mg base CX0 1 f fd ["_law_found", "_law_due"] spWhole := by
  refine F.ok sc__law_whole (fun vs H Q E h => ?_) (fun cdv A outer s H vs Q E hr h => ⟨_, (rd__law_whole B hr).2, ?_⟩)
  · obtain ⟨i, j, rfl, _⟩ := h
    rfl
  · obtain ⟨i, j, rfl, q⟩ := h
    refine ⟨_, rfl, _, _, _, _, true, rfl, .ty _, .base (.int _), kit_ty (by decide +kernel), true, rfl, iteT ?_⟩
    refine ⟨_, rfl, _, _, _, _, false, rfl, .ty _, .base (.int _), kit_ty (by decide +kernel), _, rfl, true, rfl, iteT ?_⟩
    refine ⟨_, rfl, _, rfl, rfl, ?_⟩
    rw [show decide (V.int i = V.int j) = decide (i = j) from by rw [dec_int]; exact Bool.beq_eq_decide_eq i j]
    exact q
theorem ok_halved (F : Fun K "halved" "halved" s_halved f fd) (B : Bi mg) : FnOk P w K mg base CX0 1 f fd ["entries"] (spHalved K) := by
  refine F.ok sc_halved (fun vs H Q E h => ?_) (fun cdv A outer s H vs Q E hr h => ⟨_, (rd_halved B hr).2, ?_⟩)
  · obtain ⟨a, xs, rfl, _⟩ := h
    rfl
  · obtain ⟨a, xs, rfl, hS, q⟩ := h
    exact ⟨_, rfl, a, xs, rfl, hS, fun p hp => q _ p (same_upd hp) hp upd_same⟩

/-- the comprehension of the row -/
theorem row_end {H : Hp} {Q : VK} {a : Addr} {ns : List Int} (hS : SqL K H a (ns.map V.int)) (q : ∀ (H' : Hp) (p : Addr), Same H H' → H p = none → H' p = some (HO.lst (List.map V.int (rowOf ns))) → Q (V.ref p) H')
    (hc0 : 0 ≤ manyOf (cellOf ns 0) ∧ manyOf (cellOf ns 0) ≤ 90) (m : Int) (hm : m = manyOf (cellOf ns 0)) (y1 y3 : Option V) :
    (tLc (iRng1 (tCons (tVar 2) tNil)) (gName 3) tYes
      (tCall spReading [] E0 (tCons (tOp (rI0 fun i j => V.int (i + j)) (tCall (spCell K) [] E0 (tCons (tVar 0) (tCons (tOp (rI0 fun i j => V.int (i + j)) (tC (V.int 1)) (tOp (rI (fun x j => 0 < j) fun i j => V.int (i % j)) (tVar 3) (tC (V.int 20)))) tNil)))
        (tOp (rI CMul fun i j => V.int (i * j)) (tC (V.int 31)) (tOp (rI CDiv fun i j => V.int (i / j)) (tVar 3) (tC (V.int 20))))) tNil))
      [3]) [some (.ref a), y1, some (.int m), y3] H Q := by
  subst hm
  refine ⟨_, rfl, _, rfl, by omega, by omega, fun L hL => lc_range (lo := 0) (n := (manyOf (cellOf ns 0)).toNat) (fun i H' => Same H H' ∧ H' L = some (.lst (((rowOf ns).take i).map V.int))) ⟨same_upd hL, upd_same⟩ ?_ ?_⟩
  · intro i H' hi ⟨hs, hl⟩
    refine ⟨rfl, ?_⟩
    iterate 4 walk_at "i"
    refine ⟨a, ns, 1 + i % 20, congrArg (fun z => [V.ref a, V.int z]) (show (1 : Int) + (0 + (i : Int)) % 20 = ((1 + i % 20 : Nat) : Int) by omega), hs.seq hS, ?_⟩
    iterate 5 walk_at "i"
    intro H2 s2
    have hl2 : H2 L = _ := s2 _ _ hl
    have hL2 := hL
    have hlen : (rowOf ns).length = (manyOf (cellOf ns 0)).toNat := by
      unfold rowOf
      rw [List.length_map, List.length_range]
    have hlt : (List.map V.int (List.take i (rowOf ns))).length < sizeLine := by
      rw [List.length_map, List.length_take]
      exact Nat.lt_of_le_of_lt (Nat.min_le_left _ _) (small1000 (by omega))
    have eg : (rowOf ns)[i]? = some (readingOf (cellOf ns (1 + i % 20) + 31 * ((0 + (i : Int)) / 20))) := by
      unfold rowOf
      rw [List.getElem?_map, List.getElem?_range hi]
      show some _ = some _
      rw [show (0 + (i : Int)) / 20 = ((i / 20 : Nat) : Int) by omega]
    refine ⟨_, hl2, hlt, fun b o e => ?_, ?_⟩
    · rw [upd_ne (ne_of_none e hL)]
      exact s2 _ _ (hs _ _ e)
    · rw [upd_same, List.take_add_one, eg, List.map_append]
      rfl
  · intro H' ⟨hs, hl⟩
    have e : (rowOf ns).take (manyOf (cellOf ns 0)).toNat = rowOf ns := List.take_of_length_le (by unfold rowOf; rw [List.length_map, List.length_range]; exact Nat.le_refl _)
    rw [e] at hl
    exact q H' L hs hL hl
theorem ok_row (F : Fun K "_law_row" "_law_row" s__law_row f fd) (B : Bi mg) (cc : CalK P w K mg base 1 "_law_cell" (spCell K)) (cr : CalK P w K mg base 2 "_law_reading" spReading) : FnOk P w K mg base CX0 3 f fd ["_law_script"] (spRow K) := by
  refine F.ok sc__law_row (fun vs H Q E h => ?_) (fun cdv A outer s H vs Q E hr h => ⟨_, (rd__law_row B hr cc cr).2, ?_⟩)
  · obtain ⟨a, ns, rfl, _⟩ := h
    rfl
  · obtain ⟨a, ns, rfl, hS, q⟩ := h
    refine ⟨_, rfl, a, ns, 0, rfl, hS, ?_⟩
    iterate 5 walk_at "i"
    have hc0 : 0 ≤ manyOf (cellOf ns 0) ∧ manyOf (cellOf ns 0) ≤ 90 := by
      unfold manyOf
      split <;> omega
    refine ⟨rfl, _, rfl, ite2 (fun e => ?_) (fun e => ?_)⟩
    · have e' : cellOf ns 0 / 13 % 6 = 1 := V.int.inj (of_decide_eq_true e)
      iterate 3 walk_at "i"
      have hm : manyOf (cellOf ns 0) = cellOf ns 0 / 78 % 91 := by
        unfold manyOf
        rw [if_pos e']
      exact row_end hS q hc0 _ hm.symm _ _
    · have e' : ¬ cellOf ns 0 / 13 % 6 = 1 := fun z => e (decide_eq_true (congrArg V.int z))
      have hm : manyOf (cellOf ns 0) = cellOf ns 0 % 13 := by
        unfold manyOf
        rw [if_neg e']
      exact row_end hS q hc0 _ hm.symm _ _
end
end K01

namespace K01
open PySem PySem.Spec PyProof.Rows L2 Own
local macro_rules | `(tactic| walk_at "i") => `(tactic| first
  | refine ⟨_, rfl, ?_⟩
  | refine ⟨_, _, rfl, rfl, (by show (0 : Int) < _; decide), ?_⟩
  | refine ⟨_, _, rfl, rfl, ⟨by decide, by decide⟩, ?_⟩
  | refine ⟨_, _, rfl, rfl, ⟨by decide, by decide, by decide⟩, ?_⟩
  | refine ⟨_, _, rfl, rfl, .inr ⟨by decide, by decide⟩, ?_⟩
  | refine ⟨_, _, rfl, rfl, .inl ⟨by decide, by decide⟩, ?_⟩
  | refine ⟨_, _, rfl, rfl, ?_⟩)
theorem EntAt.same {H H' : Hp} {v : V} {e : Ent} (s : Same H H') (h : EntAt H v e) : EntAt H' v e := by
  obtain ⟨t, h1, h2⟩ := h
  exact ⟨t, h1, s _ _ h2⟩
theorem EntAt.upd {H : Hp} {v : V} {e : Ent} {L : Addr} {xs : List V} {o : HO} (hL : H L = some (.lst xs)) (h : EntAt H v e) : EntAt (upd H L o) v e := by
  obtain ⟨t, h1, h2⟩ := h
  exact ⟨t, h1, by rw [upd_ne (ne_of h2 hL (by intro z; cases z))]; exact h2⟩
theorem EntsAre.same {H H' : Hp} {xs : List V} {es : List Ent} (s : Same H H') (h : EntsAre H xs es) : EntsAre H' xs es := ⟨h.1, fun i v e a b => (h.2 i v e a b).same s⟩
theorem EntsAre.upd {H : Hp} {xs : List V} {es : List Ent} {L : Addr} {ys : List V} {o : HO} (hL : H L = some (.lst ys)) (h : EntsAre H xs es) : EntsAre (upd H L o) xs es := ⟨h.1, fun i v e a b => (h.2 i v e a b).upd hL⟩
theorem EntsAre.nil {H : Hp} : EntsAre H [] [] := ⟨rfl, fun i v e a _ => by simp at a⟩
theorem EntsAre.snoc {H : Hp} {xs : List V} {es : List Ent} {v : V} {e : Ent} (h : EntsAre H xs es) (k : EntAt H v e) : EntsAre H (xs ++ [v]) (es ++ [e]) := by
  refine ⟨by rw [List.length_append, List.length_append, h.1]; rfl, fun i u d a b => ?_⟩
  by_cases hi : i < xs.length
  · rw [List.getElem?_append_left hi] at a
    rw [List.getElem?_append_left (by rw [← h.1]; exact hi)] at b
    exact h.2 i u d a b
  · rw [List.getElem?_append_right (by omega)] at a
    rw [List.getElem?_append_right (by rw [← h.1]; omega)] at b
    rw [h.1] at a
    have hz : i - es.length = 0 := by
      cases hk : i - es.length with
      | zero => rfl
      | succ n =>
        rw [hk] at a
        simp at a
    rw [hz] at a b
    have e1 : v = u := Option.some.inj a
    have e2 : e = d := Option.some.inj b
    rw [← e1, ← e2]
    exact k
theorem exactOf_get {ms : List Int} {i : Nat} {x : Int} (h : ms[i]? = some x) : (exactOf ms)[i]? = some (x, (i : Int), (i : Int)) := by
  have hi : i < ms.length := (List.getElem?_eq_some_iff.mp h).1
  unfold exactOf
  rw [List.getElem?_map, List.getElem?_range hi]
  show some (ms.getD i 0, (i : Int), (i : Int)) = _
  rw [List.getD_eq_getElem?_getD, h]
  rfl
theorem exactOf_length (ms : List Int) : (exactOf ms).length = ms.length := by
  unfold exactOf
  rw [List.length_map, List.length_range]
section
variable {P : Program} {w : World} {K : PySem.W.Frag} {mg : Str → Option Value} {base : Heap} {f : Addr} {fd : FuncData}
theorem ok_exact (F : Fun K "exact" "exact" s_exact f fd) (B : Bi mg) : FnOk P w K mg base CX0 1 f fd ["row"] (spExact K) := by
  refine F.ok sc_exact (fun vs H Q E h => ?_) (fun cdv A outer s H vs Q E hr h => ⟨_, (rd_exact B hr).2, ?_⟩)
  · obtain ⟨a, ns, rfl, _⟩ := h
    rfl
  · obtain ⟨a, ns, rfl, hS, hlen, q⟩ := h
    refine ⟨_, rfl, a, ns, rfl, hS, fun ms p hperm hsort hp => ?_⟩
    have hl : ms.length ≤ 1000 := by rw [hperm.length_eq]; exact hlen
    refine ⟨p, _, rfl, .inl (.inl upd_same), fun L hL => lc_it (walk_enum (xs := ms.map V.int))
      (fun i H' => Same H H' ∧ H' p = some (.lst (ms.map V.int)) ∧ ∃ xs, H' L = some (.lst xs) ∧ EntsAre H' xs ((exactOf ms).take i)) ⟨(same_upd hp).trans (same_upd hL), ?_, _, upd_same, EntsAre.nil⟩ (fun i H' _ h => .inl (.inl h.2.1)) ?_ ?_⟩
    · rw [upd_ne (ne_of_none upd_same hL)]
      exact upd_same
    · intro i x H1 H2 hi h y
      obtain ⟨s1, hp1, xs, hL1, he⟩ := h
      obtain ⟨T, x1, x2, rfl, hT, rfl, f1, f2⟩ := y
      have g1 : x1 = .int (i : Int) := (Option.some.inj f1).symm
      subst g1
      rw [List.length_map] at hi
      have g2 : x2 = .int ms[i] := by
        have f2 : (List.map V.int ms)[i]? = some x2 := f2
        rw [List.getElem?_map, List.getElem?_eq_getElem hi] at f2
        exact (Option.some.inj f2).symm
      subst g2
      refine ⟨T, [.int (i : Int), .int ms[i]], rfl, .inl (.inl upd_same), rfl, _, _, rfl, _, _, rfl, rfl, rfl, ?_⟩
      iterate 3 walk_at "i"
      refine ⟨by show 3 ≤ sizeLine; decide, fun u hu => ?_⟩
      have sT : Same H1 (upd H1 T (.tup [.int (i : Int), .int ms[i]])) := same_upd hT
      have sU := sT.trans (same_upd (o := .tup [.int ms[i], .int (i : Int), .int (i : Int)]) hu)
      have hL2 := sU _ _ hL1
      refine ⟨xs, hL2, ?_, ?_, ?_, _, upd_same, ?_⟩
      · have := he.1
        rw [this, List.length_take]
        exact Nat.lt_of_le_of_lt (Nat.min_le_left _ _) (small1000 (by omega))
      · intro b o e
        rw [upd_ne (ne_of_none e ?_)]
        · exact sU _ _ (s1 _ _ e)
        · cases hb : H L with
          | none => rfl
          | some o => rw [(same_upd (o := HO.lst (ms.map V.int)) hp) L o hb] at hL; cases hL
      · rw [upd_ne (ne_of_none upd_same hL)]
        exact sU _ _ hp1
      · have ex : (exactOf ms)[i]? = some (ms[i], (i : Int), (i : Int)) := exactOf_get (List.getElem?_eq_getElem hi)
        rw [List.take_add_one, ex]
        exact ((he.same sU).upd hL2).snoc (EntAt.upd hL2 ⟨u, rfl, upd_same⟩)
    · intro H' h
      obtain ⟨s1, hp1, xs, hL1, he⟩ := h
      rw [List.length_map, List.take_of_length_le (by rw [exactOf_length]; exact Nat.le_refl _)] at he
      refine q H' L ms xs s1 ?_ hperm hsort hL1 he
      cases hb : H L with
      | none => rfl
      | some o => rw [(same_upd (o := HO.lst (ms.map V.int)) hp) L o hb] at hL; cases hL
end
end K01

namespace K01
open PySem PySem.Spec PyProof.Rows L2 Own
local macro_rules | `(tactic| walk_at "i") => `(tactic| first
  | refine ⟨_, rfl, ?_⟩
  | refine ⟨_, _, rfl, rfl, (by show (0 : Int) < _; decide), ?_⟩
  | refine ⟨_, _, rfl, rfl, ⟨by decide, by decide⟩, ?_⟩
  | refine ⟨_, _, rfl, rfl, ⟨by decide, by decide, by decide⟩, ?_⟩
  | refine ⟨_, _, rfl, rfl, .inr ⟨by decide, by decide⟩, ?_⟩
  | refine ⟨_, _, rfl, rfl, .inl ⟨by decide, by decide⟩, ?_⟩
  | refine ⟨_, _, rfl, rfl, ?_⟩)
section
variable {P : Program} {w : World} {K : PySem.W.Frag} {mg : Str → Option Value} {base : Heap} {f : Addr} {fd : FuncData}
theorem ok_like (F : Fun K "_law_entries_like" "_law_entries_like" s__law_entries_like f fd) (B : Bi mg) (cw : CalK P w K mg base 1 "_law_whole" spWhole) : FnOk P w K mg base CX0 2 f fd ["_law_found", "_law_due"] (spLike K) := by
  refine F.ok sc__law_entries_like (fun vs H Q E h => ?_) (fun cdv A outer s H vs Q E hr h => ⟨_, (rd__law_entries_like B hr cw).2, ?_⟩)
  · obtain ⟨a, b, xs, ys, es, rfl, _⟩ := h
    rfl
  · obtain ⟨a, b, xs, ys, es, rfl, hA, hB, he, hd, hlen, q⟩ := h
    have hxy : xs.length = ys.length := he.1.trans hd.1.symm
    refine ⟨_, rfl, _, _, _, _, true, rfl, .ty _, .base (.lst hA), kit_ty (by decide +kernel), true, rfl, ?_⟩
    refine ⟨_, rfl, a, xs, rfl, .inl (.inl (.inl hA)), _, rfl, b, ys, rfl, .inl (.inl (.inl hB)), rfl, _, rfl, iteNS (by rw [hxy]) ?_⟩
    refine ⟨_, rfl, _, rfl, a, b, xs, ys, rfl, .inl (.inl hA), .inl (.inl hB), for_it (walk_zip (xs := xs) (ys := ys) (n := xs.length) (by omega)) (fun i σ H' => ∃ y2 y3, σ = [some (.ref a), some (.ref b), y2, y3, none, none] ∧ Same H H') ⟨none, none, rfl, Same.refl H⟩ ?_ ?_ ?_⟩
    · rintro i σ H1 _ ⟨y2, y3, rfl, s1⟩
      exact ⟨.inl (.inl (s1 _ _ hA)), .inl (.inl (s1 _ _ hB))⟩
    · rintro i x σ H1 H2 hi ⟨y2, y3, rfl, s1⟩ ⟨T, x1, x2, rfl, hT, rfl, f1, f2⟩
      have hie : i < es.length := by rw [← he.1]; exact hi
      have gi : es[i]? = some es[i] := List.getElem?_eq_getElem hie
      obtain ⟨t1, rfl, ht1⟩ := he.2 i _ _ f1 gi
      obtain ⟨t2, rfl, ht2⟩ := hd.2 i _ _ f2 gi
      generalize es[i] = e at ht1 ht2
      have s2 := s1.trans (same_upd (o := .tup [.ref t1, .ref t2]) hT)
      refine ⟨T, [.ref t1, .ref t2], rfl, .inl (.inl upd_same), rfl, _, _, rfl, _, _, rfl, rfl, ?_⟩
      refine ⟨_, rfl, _, _, _, _, true, rfl, .ty _, .base (.tup (s2 _ _ ht1)), kit_ty (by decide +kernel), true, rfl, ?_⟩
      refine ⟨_, rfl, t1, _, rfl, .inr (.inl (.inl (s2 _ _ ht1))), rfl, _, rfl, iteNS rfl ?_⟩
      refine ⟨_, rfl, _, rfl, t1, t2, _, _, rfl, .inr ⟨.inl (.inl (s2 _ _ ht1)), .inl (.inl (s2 _ _ ht2)), fun L hL => lc_it (walk_zipT (xs := [.int e.1, .int e.2.1, .int e.2.2]) (ys := [.int e.1, .int e.2.1, .int e.2.2]) (n := 3) rfl)
        (fun j H' => Same H H' ∧ H' L = some (.lst (([true, true, true].take j).map V.bl))) ⟨s2.trans (same_upd hL), upd_same⟩ (fun j H' _ h => ⟨.inl (.inl (h.1 _ _ ht1)), .inl (.inl (h.1 _ _ ht2))⟩) ?_ ?_⟩⟩
      · rintro j z H3 H4 hj ⟨s3, hL3⟩ ⟨T2, z1, z2, rfl, hT2, rfl, g1, g2⟩
        have hz : ∃ k : Int, z1 = .int k ∧ z2 = .int k := by
          have g1 : [V.int e.1, V.int e.2.1, V.int e.2.2][j]? = some z1 := g1
          have g2 : [V.int e.1, V.int e.2.1, V.int e.2.2][j]? = some z2 := g2
          match j, hj with
          | 0, _ => exact ⟨_, (Option.some.inj g1).symm, (Option.some.inj g2).symm⟩
          | 1, _ => exact ⟨_, (Option.some.inj g1).symm, (Option.some.inj g2).symm⟩
          | 2, _ => exact ⟨_, (Option.some.inj g1).symm, (Option.some.inj g2).symm⟩
        obtain ⟨k, rfl, rfl⟩ := hz
        refine ⟨T2, [.int k, .int k], rfl, .inl (.inl upd_same), rfl, _, _, rfl, _, _, rfl, rfl, rfl, ?_⟩
        refine ⟨_, rfl, _, rfl, k, k, rfl, ?_⟩
        have hL4 := same_upd (o := .tup [.int k, .int k]) hT2 _ _ hL3
        have hHL : H L = none := s2.free hL
        refine ⟨_, hL4, ?_, fun b o e => ?_, ?_⟩
        · rw [List.length_map, List.length_take]
          exact Nat.lt_of_le_of_lt (Nat.min_le_left _ _) (small1000 (by omega))
        · rw [upd_ne (ne_of_none e hHL)]
          exact same_upd hT2 _ _ (s3 _ _ e)
        · rw [upd_same, decide_eq_true rfl]
          match j, hj with
          | 0, _ => rfl
          | 1, _ => rfl
          | 2, _ => rfl
      · rintro H5 ⟨s5, hL5⟩
        refine ⟨L, [true, true, true], rfl, .inl (.inl hL5), true, rfl, ?_⟩
        exact ⟨_, _, rfl, s5⟩
    · rintro σ H1 ⟨y2, y3, rfl, s1⟩
      exact q H1 s1
end
end K01

namespace K01
open PySem PySem.Spec PyProof.Rows L2 Own
/-! the mathematics of the law -/
theorem ins_sorted {ds : List Int} {x : Int} {j : Nat} (hs : ds.Pairwise (· ≤ ·)) (hl : ∀ i (h : i < ds.length), i < j → ds[i] ≤ x) (hr : ∀ h : j < ds.length, x < ds[j]) :
    (ds.take j ++ [x] ++ ds.drop j).Pairwise (· ≤ ·) := by
  have e : ds.take j ++ ds.drop j = ds := List.take_append_drop j ds
  have hs' := hs
  rw [← e, List.pairwise_append] at hs'
  obtain ⟨h1, h2, h3⟩ := hs'
  have hx : ∀ y ∈ ds.drop j, x ≤ y := by
    intro y hy
    by_cases hj : j < ds.length
    · rw [List.drop_eq_getElem_cons hj] at hy h2
      have := hr hj
      rcases List.mem_cons.mp hy with rfl | hy
      · omega
      · have := (List.pairwise_cons.mp h2).1 y hy
        omega
    · rw [List.drop_eq_nil_of_le (by omega)] at hy
      cases hy
  have ht : ∀ y ∈ ds.take j, y ≤ x := by
    intro y hy
    obtain ⟨i, hi, rfl⟩ := List.getElem_of_mem hy
    rw [List.length_take] at hi
    rw [List.getElem_take]
    exact hl i (by omega) (by omega)
  rw [List.append_assoc, List.pairwise_append]
  refine ⟨h1, List.pairwise_cons.mpr ⟨hx, h2⟩, fun y hy z hz => ?_⟩
  rcases List.mem_cons.mp hz with rfl | hz
  · exact ht y hy
  · exact h3 y hy z hz
theorem ins_perm (ds : List Int) (x : Int) (j : Nat) : (ds.take j ++ [x] ++ ds.drop j).Perm (ds ++ [x]) := by
  have e : ds.take j ++ ds.drop j = ds := List.take_append_drop j ds
  rw [List.append_assoc]
  refine (List.perm_append_comm_assoc _ _ _).trans ?_
  rw [e]
  exact List.perm_append_comm
theorem sorted_same {a b : List Int} (hp : a.Perm b) (ha : a.Pairwise (· ≤ ·)) (hb : b.Pairwise (· ≤ ·)) : a = b :=
  hp.eq_of_pairwise (le := (· ≤ ·)) (fun x y _ _ h1 h2 => Int.le_antisymm h1 h2) ha hb
theorem odds_take {α : Type} : ∀ (l : List α) (i : Nat), odds (l.take (i + 1)) = if i % 2 = 1 then odds (l.take i) ++ (l[i]?).toList else odds (l.take i)
  | [], i => by simp [odds]
  | [x], i => by
    cases i with
    | zero => simp [odds]
    | succ n => simp [odds]
  | x :: y :: r, 0 => by simp [odds]
  | x :: y :: r, 1 => by simp [odds]
  | x :: y :: r, i + 2 => by
    have ih := odds_take r i
    show y :: odds (r.take (i + 1)) = if (i + 2) % 2 = 1 then y :: odds (r.take i) ++ (r[i]?).toList else y :: odds (r.take i)
    rw [ih, show (i + 2) % 2 = i % 2 by omega]
    split <;> rfl
theorem odds_get {α : Type} : ∀ (l : List α) (i : Nat), (odds l)[i]? = l[1 + 2 * i]?
  | [], i => by simp [odds]
  | [x], i => by
    rw [List.getElem?_eq_none (l := [x]) (by simp only [List.length_singleton]; omega)]
    simp [odds]
  | x :: y :: r, 0 => by simp [odds]
  | x :: y :: r, i + 1 => by
    have ih := odds_get r i
    show (odds r)[i]? = (x :: y :: r)[1 + 2 * (i + 1)]?
    rw [ih, show 1 + 2 * (i + 1) = (1 + 2 * i) + 1 + 1 by omega, List.getElem?_cons_succ, List.getElem?_cons_succ]
theorem EntsAre.odds {H : Hp} {xs : List V} {es : List Ent} (h : EntsAre H xs es) : EntsAre H (Own.odds xs) (Own.odds es) := by
  refine ⟨by rw [odds_length, odds_length, h.1], fun i v e a b => ?_⟩
  rw [odds_get] at a b
  exact h.2 _ v e a b
theorem canLay_ints : ∀ ns : List Int, PyData.canLayAll0 (ns.map PyData.int) = true
  | [] => rfl
  | n :: r => by simp [PyData.canLayAll0, PyData.canLay0, canLay_ints r]
theorem depth_ints : ∀ ns : List Int, PyData.depthAll (ns.map PyData.int) = 0
  | [] => rfl
  | n :: r => by simp [PyData.depthAll, PyData.depth, depth_ints r]
theorem shaped_ints (ns : List Int) : SeqAt.shaped (.list (ns.map PyData.int)) = true := by
  unfold SeqAt.shaped
  rw [show PyData.canLay0 (.list (ns.map PyData.int)) = PyData.canLayAll0 (ns.map PyData.int) by simp [PyData.canLay0], canLay_ints, show PyData.depth (.list (ns.map PyData.int)) = PyData.depthAll (ns.map PyData.int) + 1 by simp [PyData.depth], depth_ints]
  rfl
theorem dpAll_ints {K : PySem.W.Frag} {H : Hp} : ∀ ns : List Int, DpAll K H (ns.map V.int) (ns.map PyData.int)
  | [] => .nil
  | n :: r => .cons (.int n) (dpAll_ints r)
theorem eqv_ints (ns : List Int) : PyData.eqv (.list (ns.map PyData.int)) (.list (ns.map PyData.int)) = true :=
  SeqAt.eqv_refl _ (by rw [show PyData.canLay0 (.list (ns.map PyData.int)) = PyData.canLayAll0 (ns.map PyData.int) by simp [PyData.canLay0], canLay_ints])
theorem rowOf_length (ns : List Int) : (rowOf ns).length ≤ 90 := by
  unfold rowOf
  rw [List.length_map, List.length_range]
  have : manyOf (cellOf ns 0) ≤ 90 := by
    unfold manyOf
    split <;> omega
  omega
end K01

namespace K01
open PySem PySem.Spec PyProof.Rows L2 Own
local macro_rules | `(tactic| walk_at "i") => `(tactic| first
  | refine ⟨_, rfl, ?_⟩
  | refine ⟨_, _, rfl, rfl, (by show (0 : Int) < _; decide), ?_⟩
  | refine ⟨_, _, rfl, rfl, ⟨by decide, by decide⟩, ?_⟩
  | refine ⟨_, _, rfl, rfl, ⟨by decide, by decide, by decide⟩, ?_⟩
  | refine ⟨_, _, rfl, rfl, .inr ⟨by decide, by decide⟩, ?_⟩
  | refine ⟨_, _, rfl, rfl, .inl ⟨by decide, by decide⟩, ?_⟩
  | refine ⟨_, _, rfl, rfl, ?_⟩)
theorem same_mut {H H' : Hp} {p : Addr} {o : HO} (s : Same H H') (h : H p = none) : Same H (upd H' p o) := fun b x e => by
  rw [upd_ne (ne_of_none e h)]
  exact s _ _ e
section
variable {P : Program} {w : World} {K : PySem.W.Frag} {mg : Str → Option Value} {base : Heap} {f : Addr} {fd : FuncData}
theorem ok_law (F : Fun K "law" "law" s_law f fd) (B : Bi mg) (cr : CalK P w K mg base 3 "_law_row" (spRow K)) (ce : CalK P w K mg base 1 "exact" (spExact K)) (cl : CalK P w K mg base 2 "_law_entries_like" (spLike K)) (ch : CalK P w K mg base 1 "halved" (spHalved K)) :
    FnOk P w K mg base CX0 4 f fd ["_law_script"] (spLaw K) := by
  refine F.ok sc_law (fun vs H Q E h => ?_) (fun cdv A outer s H vs Q E hr h => ⟨_, (rd_law B hr cr ce cl ch).2, ?_⟩)
  · obtain ⟨a, ns, rfl, _⟩ := h
    rfl
  · obtain ⟨a, ns, rfl, hS, hlen, q⟩ := h
    have hrl := rowOf_length ns
    -- the row
    refine ⟨_, rfl, a, ns, rfl, hS, fun H1 p1 s1 n1 e1 => ?_⟩
    generalize rowOf ns = row at hrl e1
    -- due = []
    refine ⟨by show 0 ≤ sizeLine; decide, fun d nd => ?_⟩
    have s2 : Same H1 (upd H1 d (.lst [])) := same_upd nd
    refine ⟨_, rfl, p1, rfl, ⟨_, .inl (.inl (s2 _ _ e1))⟩, for_list (K := K) (a := p1) (xs := row.map V.int)
      (fun i σ H2 => ∃ y3 y4 ds, σ = [some (.ref a), some (.ref p1), some (.ref d), y3, y4, none, none, none, none, none, none] ∧ Same H1 H2 ∧ H2 d = some (.lst (ds.map V.int)) ∧ ds.Perm (row.take i) ∧ ds.Pairwise (· ≤ ·))
      ⟨none, none, [], rfl, s2, upd_same, List.Perm.refl _, List.Pairwise.nil⟩ (fun i σ H2 _ ⟨_, _, _, _, s3, _⟩ => .inl (.inl (s3 _ _ e1))) ?_ ?_⟩
    · rintro i x σ H2 hi ⟨y3, y4, ds, rfl, s3, hd, hp, hs⟩
      obtain ⟨r, hr1, rfl⟩ : ∃ r, row[i]? = some r ∧ x = .int r := by
        rw [List.getElem?_map] at hi
        cases e : row[i]? with
        | none => rw [e] at hi; cases hi
        | some r => rw [e] at hi; exact ⟨r, rfl, (Option.some.inj hi).symm⟩
      have hdl : ds.length ≤ 90 := by
        rw [hp.length_eq, List.length_take]
        omega
      -- at = 0; while
      refine ⟨fun m σ H3 => ∃ j : Nat, m = ds.length - j ∧ j ≤ ds.length ∧ σ = [some (.ref a), some (.ref p1), some (.ref d), some (.int r), some (.int (j : Int)), none, none, none, none, none, none] ∧ H3 = H2 ∧ ∀ i (h : i < ds.length), i < j → ds[i] ≤ r,
        ⟨_, 0, rfl, Nat.zero_le _, rfl, rfl, fun i _ h => absurd h (Nat.not_lt_zero i)⟩, ?_⟩
      rintro m σ H3 ⟨j, rfl, hj, rfl, rfl, hle⟩
      have wall : (∀ h : j < ds.length, r < ds[j]) → ∀ D : Ends, (∀ (y3 y4 : Option V) (ds' : List Int) (H4 : Hp), Same H1 H4 → H4 d = some (.lst (ds'.map V.int)) → ds'.Perm (row.take (i + 1)) → ds'.Pairwise (· ≤ ·) → D.nx [some (.ref a), some (.ref p1), some (.ref d), y3, y4, none, none, none, none, none, none] H4) →
          tDrop (tBM K "list" (fun x vs H Q => ∃ (l : Addr) (xs : List V) (i : Int) (y : V), x = .ref l ∧ vs = [.int i, y] ∧ H l = some (.lst xs) ∧ xs.length < sizeLine ∧ 0 ≤ i ∧ i < 2 ^ 63 ∧ Q .non (upd H l (.lst (xs.take i.toNat ++ [y] ++ xs.drop i.toNat)))) (tVar 2) (tCons (tVar 4) (tCons (tVar 3) tNil))) D
            [some (.ref a), some (.ref p1), some (.ref d), some (.int r), some (.int (j : Int)), none, none, none, none, none, none] H3 := by
        intro hgt D hD
        refine ⟨_, rfl, .inl ⟨rfl, _, .inl (.inl hd)⟩, _, rfl, _, rfl, d, _, _, _, rfl, rfl, hd, ?_, by omega, by omega, ?_⟩
        · rw [List.length_map]
          exact small1000 (by omega)
        · refine hD _ _ (ds.take j ++ [r] ++ ds.drop j) _ (same_mut s3 nd) ?_ ?_ (ins_sorted hs hle hgt)
          · rw [upd_same, Int.toNat_natCast, List.map_append, List.map_append, List.map_take, List.map_drop]
            rfl
          · refine (ins_perm ds r j).trans ?_
            rw [List.take_add_one, hr1]
            exact hp.append_right _
      -- the test
      refine ⟨_, rfl, _, rfl, d, _, rfl, .inl (.inl (.inl hd)), _, _, rfl, rfl, _, rfl, ite2 (fun c => ?_) (fun c => ?_)⟩
      · have c1 : (j : Int) < ((ds.map V.int).length : Int) := of_decide_eq_true c
        rw [List.length_map] at c1
        have hjl : j < ds.length := by omega
        have gj : (ds.map V.int)[j]? = some (.int ds[j]) := by
          rw [List.getElem?_map, List.getElem?_eq_getElem hjl]
          rfl
        refine ⟨_, rfl, _, rfl, d, _, _, _, rfl, rfl, .inl (.inl hd), atI_nat gj, _, rfl, _, _, rfl, rfl, _, rfl, ite2 (fun c2 => ?_) (fun c2 => ?_)⟩
        · have c3 : ds[j] ≤ r := of_decide_eq_true c2
          refine ⟨fun σ H4 => σ = [some (.ref a), some (.ref p1), some (.ref d), some (.int r), some (.int ((j + 1 : Nat) : Int)), none, none, none, none, none, none] ∧ H4 = H3, fun σ' H' h => ?_, ?_⟩
          · exact ⟨ds.length - (j + 1), by omega, j + 1, rfl, by omega, h.1, h.2, fun i h1 h2 => by
              by_cases hij : i = j
              · subst hij
                exact c3
              · exact hle i h1 (by omega)⟩
          · exact ⟨_, rfl, _, _, rfl, rfl, rfl, rfl⟩
        · have c3 : ¬ ds[j] ≤ r := fun z => c2 (decide_eq_true z)
          exact wall (fun h => by omega) _ fun y3 y4 ds' H4 h1 h2 h3 h4 => ⟨y3, y4, ds', rfl, h1, h2, h3, h4⟩
      · have c1 : ¬ (j : Int) < ((ds.map V.int).length : Int) := fun z => c (decide_eq_true z)
        rw [List.length_map] at c1
        exact wall (fun h => by omega) _ fun y3 y4 ds' H4 h1 h2 h3 h4 => ⟨y3, y4, ds', rfl, h1, h2, h3, h4⟩
    · rintro σ H2 ⟨y3, y4, ds, rfl, s3, hd, hp, hs⟩
      rw [List.length_map, List.take_length] at hp
      have hdl : ds.length ≤ 90 := by
        rw [hp.length_eq]
        omega
      -- due = [..]
      refine ⟨_, rfl, d, _, rfl, .inl (.inl hd), fun D hD => lc_it (walk_enum (xs := ds.map V.int))
        (fun i H' => Same H2 H' ∧ ∃ xs, H' D = some (.lst xs) ∧ EntsAre H' xs ((exactOf ds).take i)) ⟨same_upd hD, _, upd_same, EntsAre.nil⟩ (fun i H' _ h => .inl (.inl (h.1 _ _ hd))) ?_ ?_⟩
      · rintro i x H3 H4 hi ⟨s4, xs, hL1, he⟩ ⟨T, x1, x2, rfl, hT, rfl, f1, f2⟩
        have g1 : x1 = .int (i : Int) := (Option.some.inj f1).symm
        subst g1
        rw [List.length_map] at hi
        have g2 : x2 = .int ds[i] := by
          have f2 : (List.map V.int ds)[i]? = some x2 := f2
          rw [List.getElem?_map, List.getElem?_eq_getElem hi] at f2
          exact (Option.some.inj f2).symm
        subst g2
        refine ⟨T, [.int (i : Int), .int ds[i]], rfl, .inl (.inl upd_same), rfl, _, _, rfl, _, _, rfl, rfl, rfl, ?_⟩
        iterate 3 walk_at "i"
        refine ⟨by show 3 ≤ sizeLine; decide, fun u hu => ?_⟩
        have sT : Same H3 (upd H3 T (.tup [.int (i : Int), .int ds[i]])) := same_upd hT
        have sU := sT.trans (same_upd (o := .tup [.int ds[i], .int (i : Int), .int (i : Int)]) hu)
        have hL2 := sU _ _ hL1
        refine ⟨xs, hL2, ?_, same_mut (s4.trans sU) hD, _, upd_same, ?_⟩
        · rw [he.1, List.length_take]
          exact Nat.lt_of_le_of_lt (Nat.min_le_left _ _) (small1000 (by omega))
        · have ex : (exactOf ds)[i]? = some (ds[i], (i : Int), (i : Int)) := exactOf_get (List.getElem?_eq_getElem hi)
          rw [List.take_add_one, ex]
          exact ((he.same sU).upd hL2).snoc (EntAt.upd hL2 ⟨u, rfl, upd_same⟩)
      · rintro H3 ⟨s4, ys, hD3, hy⟩
        rw [List.length_map, List.take_of_length_le (by rw [exactOf_length]; exact Nat.le_refl _)] at hy
        have e13 := s4 _ _ (s3 _ _ e1)
        have hel : (exactOf ds).length ≤ 1000 := by
          rw [exactOf_length]
          omega
        -- handed = list(row)
        refine ⟨_, rfl, p1, _, rfl, .inl (.inl (.inl e13)), fun h nh => ?_⟩
        have s5 : Same H3 (upd H3 h (.lst (row.map V.int))) := same_upd nh
        -- found = exact(handed)
        refine ⟨_, rfl, h, row, rfl, .inl (.inl upd_same), by omega, fun H4 fo ms xs s6 n6 pm sm e6 hx => ?_⟩
        have : ms = ds := sorted_same (pm.trans hp.symm) sm hs
        subst this
        have s46 := s5.trans s6
        have hh4 : H4 h = some (.lst (row.map V.int)) := s6 _ _ upd_same
        -- the first test
        refine ⟨_, rfl, _, rfl, fo, D, xs, ys, _, rfl, e6, s46 _ _ hD3, hx, hy.same s46, hel, fun H5 s7 => ⟨true, rfl, ?_⟩⟩
        refine ⟨_, rfl, _, rfl, .list (row.map PyData.int), .list (row.map PyData.int), .lst (.inl (.inl (s7 _ _ hh4))) (dpAll_ints _), .lst (.inl (.inl (s7 _ _ (s46 _ _ e13)))) (dpAll_ints _), shaped_ints _, shaped_ints _, _, rfl, ?_⟩
        rw [eqv_ints]
        -- exact([3, 1, 2])
        refine ⟨by show 3 ≤ sizeLine; decide, fun z nz => ?_⟩
        refine ⟨z, [3, 1, 2], rfl, .inl (.inl upd_same), by decide, fun H6 p6 ms6 xs6 s8 n8 _ _ e8 hx8 => ?_⟩
        have s8' := (same_upd (o := HO.lst [V.int 3, V.int 1, V.int 2]) nz).trans s8
        have s78 := s7.trans s8'
        have efo := s78 _ _ e6
        -- half = halved(found)
        refine ⟨_, rfl, fo, xs, rfl, .inl (.inl efo), fun H7 ha s9 n9 e9 => ?_⟩
        have s89 := s78.trans s9
        have eD := s89 _ _ (s46 _ _ hD3)
        -- seconds
        refine ⟨_, rfl, D, ys, rfl, .inl (.inl (.inl eD)), _, rfl, by omega, by rw [hy.1]; omega, fun L nL => lc_range (lo := 0) (n := ys.length)
          (fun i H' => Same H7 H' ∧ H' L = some (.lst (odds (ys.take i)))) ⟨same_upd nL, by simp [upd_same, odds]⟩ ?_ ?_⟩
        · rintro i H8 hi ⟨s10, hL8⟩
          refine ⟨rfl, ?_⟩
          iterate 2 walk_at "i"
          have hot := odds_take ys i
          have gi : ys[i]? = some ys[i] := List.getElem?_eq_getElem hi
          refine ⟨rfl, _, rfl, ite2 (fun c => ?_) (fun c => ?_)⟩
          · have c1 : (0 + (i : Int)) % 2 = 1 := V.int.inj (of_decide_eq_true c)
            rw [if_pos (by omega), gi] at hot
            refine ⟨_, rfl, _, rfl, D, ys, _, ys[i], rfl, rfl, .inl (.inl (s10 _ _ eD)), at_of (j := i) (by omega) gi, _, hL8, ?_, same_mut s10 nL, ?_⟩
            · rw [odds_length, List.length_take]
              have := hy.1
              exact small1000 (by omega)
            · rw [upd_same, hot]
              rfl
          · have c1 : ¬ (0 + (i : Int)) % 2 = 1 := fun z => c (decide_eq_true (congrArg V.int z))
            rw [if_neg (by omega)] at hot
            exact ⟨s10, by rw [hot]; exact hL8⟩
        · rintro H8 ⟨s10, hL8⟩
          rw [List.take_length] at hL8
          have n11 := s89.trans s10
          have hxo := (hx.same n11).odds
          have hyo := ((hy.same s46).same n11).odds
          have hol : (odds (exactOf ms)).length ≤ 1000 := by
            rw [odds_length]
            omega
          -- the second test
          refine ⟨_, rfl, _, rfl, ha, L, _, _, _, rfl, s10 _ _ e9, hL8, hxo, hyo, hol, fun H9 s11 => ⟨true, rfl, ?_⟩⟩
          have n12 := n11.trans s11
          refine ⟨_, rfl, _, rfl, fo, D, xs, ys, _, rfl, n12 _ _ e6, n12 _ _ (s46 _ _ hD3), hx.same n12, (hy.same s46).same n12, hel, fun H10 s12 => ⟨true, rfl, ?_⟩⟩
          have n13 := n12.trans s12
          have fo10 := n13 _ _ e6
          -- found.append((0, 0, 0))
          refine ⟨_, rfl, .inl ⟨rfl, _, .inl (.inl fo10)⟩, by show 3 ≤ sizeLine; decide, fun u nu => ?_⟩
          have su : Same H10 (upd H10 u (.tup [V.int 0, V.int 0, V.int 0])) := same_upd nu
          refine ⟨fo, xs, _, rfl, rfl, su _ _ fo10, ?_, ?_⟩
          · rw [hx.1]
            exact small1000 hel
          · have nfo : ∀ {b o}, H10 b = some o → b ≠ fo → (upd (upd H10 u (.tup [V.int 0, V.int 0, V.int 0])) fo (.lst (xs ++ [.ref u]))) b = some o := fun {b o} e ne => by
              rw [upd_ne ne]
              exact su _ _ e
            have eha := s12 _ _ (s11 _ _ (s10 _ _ e9))
            have eL := s12 _ _ (s11 _ _ hL8)
            have eD10 := n13 _ _ (s46 _ _ hD3)
            have eh10 := n13 _ _ hh4
            have neh : h ≠ fo := fun z => by
              rw [z, upd_same] at n6
              cases n6
            have neD : D ≠ fo := fun z => by
              rw [← z, s5 _ _ hD3] at n6
              cases n6
            have neha : ha ≠ fo := fun z => by
              rw [z, efo] at n9
              cases n9
            have neL : L ≠ fo := fun z => by
              rw [z, s9 _ _ efo] at nL
              cases nL
            have fo11 := su _ _ fo10
            have hxo' := (((hx.odds).same n13).same su).upd (o := .lst (xs ++ [.ref u])) fo11
            have hyo' := ((((hy.odds).same s46).same n13).same su).upd (o := .lst (xs ++ [.ref u])) fo11
            have hy' := (((hy.same s46).same n13).same su).upd (o := .lst (xs ++ [.ref u])) fo11
            -- the end
            refine ⟨_, rfl, _, rfl, ha, L, _, _, _, rfl, nfo eha neha, nfo eL neL, hxo', hyo', hol, fun H11 s13 => ⟨true, rfl, ?_⟩⟩
            refine ⟨_, rfl, h, row, rfl, .inl (.inl (s13 _ _ (nfo eh10 neh))), by omega, fun H12 p12 ms12 xs12 s14 n14 pm12 sm12 e14 hx14 => ?_⟩
            have : ms12 = ms := sorted_same (pm12.trans hp.symm) sm12 hs
            subst this
            exact ⟨_, rfl, p12, D, xs12, ys, _, rfl, e14, s14 _ _ (s13 _ _ (nfo eD10 neD)), hx14, ((hy'.same s13).same s14), hel, fun H13 _ => q H13⟩
end
end K01

namespace K01
open PySem PySem.Spec PyProof.Rows L2 Own
theorem all_mk {l : PySem.W.OpenLaw} {w : World} {K : PySem.W.Frag} {h : Heap} {mg : Str → Option Value} {fa f0 f1 f2 f3 f4 f5 f6 f7 f8 : Addr} (X : K.In h) (G : h.Ns mainGlobals mg) (hfa : mg "law" = some (.ref fa))
    {od0 an0 : Option Addr} {sl0 : Array (Option Value)} {oc0 kV0 dc0 pm0 cd0 ct0 : Value} {od1 an1 : Option Addr} {sl1 : Array (Option Value)} {oc1 kV1 dc1 pm1 cd1 ct1 : Value} {od2 an2 : Option Addr} {sl2 : Array (Option Value)} {oc2 kV2 dc2 pm2 cd2 ct2 : Value} {od3 an3 : Option Addr} {sl3 : Array (Option Value)} {oc3 kV3 dc3 pm3 cd3 ct3 : Value} {od4 an4 : Option Addr} {sl4 : Array (Option Value)} {oc4 kV4 dc4 pm4 cd4 ct4 : Value} {od5 an5 : Option Addr} {sl5 : Array (Option Value)} {oc5 kV5 dc5 pm5 cd5 ct5 : Value} {od6 an6 : Option Addr} {sl6 : Array (Option Value)} {oc6 kV6 dc6 pm6 cd6 ct6 : Value} {od7 an7 : Option Addr} {sl7 : Array (Option Value)} {oc7 kV7 dc7 pm7 cd7 ct7 : Value} {od8 an8 : Option Addr} {sl8 : Array (Option Value)} {oc8 kV8 dc8 pm8 cd8 ct8 : Value}
    (a0 : PySem.W.nsIn K mainGlobals "exact" = some (some (.ref f0)))
    (l0 : K.lookup f0 = some ⟨oc0, od0, .func (PySem.W.fnOf "exact" "exact" (defArgs s_exact) (defBody s_exact) (defScope s_exact) .none kV0 dc0 pm0 an0 cd0 ct0), sl0⟩)
    (c0 : PySem.W.codeIn K cd0 "exact" = true)
    (k0 : PySem.W.keepIn K (.ref f0) = true)
    (a1 : PySem.W.nsIn K mainGlobals "halved" = some (some (.ref f1)))
    (l1 : K.lookup f1 = some ⟨oc1, od1, .func (PySem.W.fnOf "halved" "halved" (defArgs s_halved) (defBody s_halved) (defScope s_halved) .none kV1 dc1 pm1 an1 cd1 ct1), sl1⟩)
    (c1 : PySem.W.codeIn K cd1 "halved" = true)
    (k1 : PySem.W.keepIn K (.ref f1) = true)
    (a2 : PySem.W.nsIn K mainGlobals "_law_cell" = some (some (.ref f2)))
    (l2 : K.lookup f2 = some ⟨oc2, od2, .func (PySem.W.fnOf "_law_cell" "_law_cell" (defArgs s__law_cell) (defBody s__law_cell) (defScope s__law_cell) .none kV2 dc2 pm2 an2 cd2 ct2), sl2⟩)
    (c2 : PySem.W.codeIn K cd2 "_law_cell" = true)
    (k2 : PySem.W.keepIn K (.ref f2) = true)
    (a3 : PySem.W.nsIn K mainGlobals "_law_mixed" = some (some (.ref f3)))
    (l3 : K.lookup f3 = some ⟨oc3, od3, .func (PySem.W.fnOf "_law_mixed" "_law_mixed" (defArgs s__law_mixed) (defBody s__law_mixed) (defScope s__law_mixed) .none kV3 dc3 pm3 an3 cd3 ct3), sl3⟩)
    (c3 : PySem.W.codeIn K cd3 "_law_mixed" = true)
    (k3 : PySem.W.keepIn K (.ref f3) = true)
    (a4 : PySem.W.nsIn K mainGlobals "_law_reading" = some (some (.ref f4)))
    (l4 : K.lookup f4 = some ⟨oc4, od4, .func (PySem.W.fnOf "_law_reading" "_law_reading" (defArgs s__law_reading) (defBody s__law_reading) (defScope s__law_reading) .none kV4 dc4 pm4 an4 cd4 ct4), sl4⟩)
    (c4 : PySem.W.codeIn K cd4 "_law_reading" = true)
    (k4 : PySem.W.keepIn K (.ref f4) = true)
    (a5 : PySem.W.nsIn K mainGlobals "_law_whole" = some (some (.ref f5)))
    (l5 : K.lookup f5 = some ⟨oc5, od5, .func (PySem.W.fnOf "_law_whole" "_law_whole" (defArgs s__law_whole) (defBody s__law_whole) (defScope s__law_whole) .none kV5 dc5 pm5 an5 cd5 ct5), sl5⟩)
    (c5 : PySem.W.codeIn K cd5 "_law_whole" = true)
    (k5 : PySem.W.keepIn K (.ref f5) = true)
    (a6 : PySem.W.nsIn K mainGlobals "_law_row" = some (some (.ref f6)))
    (l6 : K.lookup f6 = some ⟨oc6, od6, .func (PySem.W.fnOf "_law_row" "_law_row" (defArgs s__law_row) (defBody s__law_row) (defScope s__law_row) .none kV6 dc6 pm6 an6 cd6 ct6), sl6⟩)
    (c6 : PySem.W.codeIn K cd6 "_law_row" = true)
    (k6 : PySem.W.keepIn K (.ref f6) = true)
    (a7 : PySem.W.nsIn K mainGlobals "_law_entries_like" = some (some (.ref f7)))
    (l7 : K.lookup f7 = some ⟨oc7, od7, .func (PySem.W.fnOf "_law_entries_like" "_law_entries_like" (defArgs s__law_entries_like) (defBody s__law_entries_like) (defScope s__law_entries_like) .none kV7 dc7 pm7 an7 cd7 ct7), sl7⟩)
    (c7 : PySem.W.codeIn K cd7 "_law_entries_like" = true)
    (k7 : PySem.W.keepIn K (.ref f7) = true)
    (a8 : PySem.W.nsIn K mainGlobals "law" = some (some (.ref f8)))
    (l8 : K.lookup f8 = some ⟨oc8, od8, .func (PySem.W.fnOf "law" "law" (defArgs s_law) (defBody s_law) (defScope s_law) .none kV8 dc8 pm8 an8 cd8 ct8), sl8⟩)
    (c8 : PySem.W.codeIn K cd8 "law" = true)
    (k8 : PySem.W.keepIn K (.ref f8) = true)
    (z_all : PySem.W.nsIn K mainGlobals "all" = some none)
    (z_bool : PySem.W.nsIn K mainGlobals "bool" = some none)
    (z_enumerate : PySem.W.nsIn K mainGlobals "enumerate" = some none)
    (z_int : PySem.W.nsIn K mainGlobals "int" = some none)
    (z_isinstance : PySem.W.nsIn K mainGlobals "isinstance" = some none)
    (z_len : PySem.W.nsIn K mainGlobals "len" = some none)
    (z_list : PySem.W.nsIn K mainGlobals "list" = some none)
    (z_range : PySem.W.nsIn K mainGlobals "range" = some none)
    (z_sorted : PySem.W.nsIn K mainGlobals "sorted" = some none)
    (z_tuple : PySem.W.nsIn K mainGlobals "tuple" = some none)
    (z_zip : PySem.W.nsIn K mainGlobals "zip" = some none) :
    ∃ fd : FuncData, (∀ (s : Shared) (v : Value), BindsTo s fd ⟨[v], []⟩ [("_law_script", v)]) ∧ ∀ base : Heap, K.In base → base.Ns mainGlobals mg → FnOk l.prog w K mg base CX0 4 fa fd ["_law_script"] (spLaw K) := by
  have e := hfa.symm.trans (PySem.W.mg_of X G a8)
  cases e
  have B : Bi mg := ⟨PySem.W.mg_none_of X G z_all, PySem.W.mg_none_of X G z_bool, PySem.W.mg_none_of X G z_enumerate, PySem.W.mg_none_of X G z_int, PySem.W.mg_none_of X G z_isinstance, PySem.W.mg_none_of X G z_len, PySem.W.mg_none_of X G z_list, PySem.W.mg_none_of X G z_range, PySem.W.mg_none_of X G z_sorted, PySem.W.mg_none_of X G z_tuple, PySem.W.mg_none_of X G z_zip⟩
  have F0 := fun_mk (st := s_exact) l0 c0 k0
  have b0 := F0.binds (ps := ["row"]) fun _ _ _ _ _ _ us hl => match us, hl with | [_], _ => rfl
  have F1 := fun_mk (st := s_halved) l1 c1 k1
  have b1 := F1.binds (ps := ["entries"]) fun _ _ _ _ _ _ us hl => match us, hl with | [_], _ => rfl
  have F2 := fun_mk (st := s__law_cell) l2 c2 k2
  have b2 := F2.binds (ps := ["_law_script", "_law_k"]) fun _ _ _ _ _ _ us hl => match us, hl with | [_, _], _ => rfl
  have F3 := fun_mk (st := s__law_mixed) l3 c3 k3
  have b3 := F3.binds (ps := ["_law_cell_here", "_law_k"]) fun _ _ _ _ _ _ us hl => match us, hl with | [_, _], _ => rfl
  have F4 := fun_mk (st := s__law_reading) l4 c4 k4
  have b4 := F4.binds (ps := ["_law_cell_here"]) fun _ _ _ _ _ _ us hl => match us, hl with | [_], _ => rfl
  have F5 := fun_mk (st := s__law_whole) l5 c5 k5
  have b5 := F5.binds (ps := ["_law_found", "_law_due"]) fun _ _ _ _ _ _ us hl => match us, hl with | [_, _], _ => rfl
  have F6 := fun_mk (st := s__law_row) l6 c6 k6
  have b6 := F6.binds (ps := ["_law_script"]) fun _ _ _ _ _ _ us hl => match us, hl with | [_], _ => rfl
  have F7 := fun_mk (st := s__law_entries_like) l7 c7 k7
  have b7 := F7.binds (ps := ["_law_found", "_law_due"]) fun _ _ _ _ _ _ us hl => match us, hl with | [_, _], _ => rfl
  have F8 := fun_mk (st := s_law) l8 c8 k8
  have b8 := F8.binds (ps := ["_law_script"]) fun _ _ _ _ _ _ us hl => match us, hl with | [_], _ => rfl
  refine ⟨PySem.W.fnOf "law" "law" (defArgs s_law) (defBody s_law) (defScope s_law) .none kV8 dc8 pm8 an8 cd8 ct8, fun s v => .of_eq rfl, fun base _ _ => ?_⟩
  have C__law_cell : CalK l.prog w K mg base 1 "_law_cell" (spCell K) := ⟨_, _, _, ok_cell F2 B , PySem.W.mg_of X G a2, F2.kp, b2⟩
  have C__law_mixed : CalK l.prog w K mg base 1 "_law_mixed" spMixed := ⟨_, _, _, ok_mixed F3 B , PySem.W.mg_of X G a3, F3.kp, b3⟩
  have C__law_reading : CalK l.prog w K mg base 2 "_law_reading" spReading := ⟨_, _, _, ok_reading F4 B C__law_mixed, PySem.W.mg_of X G a4, F4.kp, b4⟩
  have C__law_row : CalK l.prog w K mg base 3 "_law_row" (spRow K) := ⟨_, _, _, ok_row F6 B C__law_cell C__law_reading, PySem.W.mg_of X G a6, F6.kp, b6⟩
  have C_exact : CalK l.prog w K mg base 1 "exact" (spExact K) := ⟨_, _, _, ok_exact F0 B , PySem.W.mg_of X G a0, F0.kp, b0⟩
  have C__law_whole : CalK l.prog w K mg base 1 "_law_whole" spWhole := ⟨_, _, _, ok_whole F5 B , PySem.W.mg_of X G a5, F5.kp, b5⟩
  have C__law_entries_like : CalK l.prog w K mg base 2 "_law_entries_like" (spLike K) := ⟨_, _, _, ok_like F7 B C__law_whole, PySem.W.mg_of X G a7, F7.kp, b7⟩
  have C_halved : CalK l.prog w K mg base 1 "halved" (spHalved K) := ⟨_, _, _, ok_halved F1 B , PySem.W.mg_of X G a1, F1.kp, b1⟩
  exact ok_law F8 B C__law_row C_exact C__law_entries_like C_halved
end K01
open PySem PySem.W PyProof.Rows
set_option maxRecDepth 100000 in
set_option maxHeartbeats 0 in
theorem PySem.Challenge.cw_rankbounds_k01_entries_exact_holds : PySem.Challenge.rw_rankbounds_k01_entries_exact.Holds := by
  w_on; o_law; k_head; (case hw => w_witness2)
  k_fill
  refine L2.walk_of (l := PySem.Challenge.rw_rankbounds_k01_entries_exact) (n := 63) (k := 4) (x := "_law_script") (CX := fun _ => L2.CX0) (sp := fun w => K01.spLaw _) rfl (by decide) rfl ⟨rfl, by decide, by decide⟩ (fun w h Y => PySem.W.kIn_of Y) ?F (fun _ _ a ns hl _ hS => ⟨a, ns, rfl, hS, hl, fun _ => rfl⟩) (fun _ _ _ _ _ h => h)
  case F =>
    intro w mg fa h KX G hmg
    refine' K01.all_mk KX G hmg ?a0 ?l0 ?c0 ?k0 ?a1 ?l1 ?c1 ?k1 ?a2 ?l2 ?c2 ?k2 ?a3 ?l3 ?c3 ?k3 ?a4 ?l4 ?c4 ?k4 ?a5 ?l5 ?c5 ?k5 ?a6 ?l6 ?c6 ?k6 ?a7 ?l7 ?c7 ?k7 ?a8 ?l8 ?c8 ?k8 ?z_all ?z_bool ?z_enumerate ?z_int ?z_isinstance ?z_len ?z_list ?z_range ?z_sorted ?z_tuple ?z_zip
    (case a0 => k_is)
    (case l0 => k_is)
    (case c0 => k_is)
    (case k0 => k_is)
    (case a1 => k_is)
    (case l1 => k_is)
    (case c1 => k_is)
    (case k1 => k_is)
    (case a2 => k_is)
    (case l2 => k_is)
    (case c2 => k_is)
    (case k2 => k_is)
    (case a3 => k_is)
    (case l3 => k_is)
    (case c3 => k_is)
    (case k3 => k_is)
    (case a4 => k_is)
    (case l4 => k_is)
    (case c4 => k_is)
    (case k4 => k_is)
    (case a5 => k_is)
    (case l5 => k_is)
    (case c5 => k_is)
    (case k5 => k_is)
    (case a6 => k_is)
    (case l6 => k_is)
    (case c6 => k_is)
    (case k6 => k_is)
    (case a7 => k_is)
    (case l7 => k_is)
    (case c7 => k_is)
    (case k7 => k_is)
    (case a8 => k_is)
    (case l8 => k_is)
    (case c8 => k_is)
    (case k8 => k_is)
    (case z_all => k_is)
    (case z_bool => k_is)
    (case z_enumerate => k_is)
    (case z_int => k_is)
    (case z_isinstance => k_is)
    (case z_len => k_is)
    (case z_list => k_is)
    (case z_range => k_is)
    (case z_sorted => k_is)
    (case z_tuple => k_is)
    (case z_zip => k_is)
